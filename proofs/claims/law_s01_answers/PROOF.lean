import PyProof.Rows.All
import PySu65
import Wide.All
import OpenK.AllK
import Wide.FinOn
import Open.SpecLaws
import KE.OsGo
import KE.DataMinMax
import KE.SortData
import HandS.ForSpec
import HandS.ForMost
import HandS.Walk
import HandS.Zip
import HandS.SortInts
import HandS.SortRule
import HandS.SortKw
import HandS.CallLocal
import HandS.More
import PySem.Challenge.RW_biasplies_s01_answers
set_option Elab.async false
set_option maxRecDepth 100000
set_option maxHeartbeats 2000000
/-! The program as plain functions over whole numbers, def by def (its own words, not the specification's). -/
namespace Bp
/-- the least of a list, d where it is empty -/
def minD (d : Int) : List Int → Int
  | [] => d
  | x :: xs => xs.foldl min x
def mx (l : List Int) : Int := l.foldl max (l.headD 0)
structure R where
  w : Int
  l : Int
  left : Int
structure Pl where
  src : Int
  wid : Int
  st : List Int
  turn : Option Int
structure M where
  begun : Bool
  a : Int
  c : Int
  g : Int
  n : Int
  s : Int
  rolls : List R
  plies : List Pl
def M0 : M := ⟨false, 0, 0, 0, 0, 0, [], []⟩
def pl0 : Pl := ⟨0, 0, [], none⟩
def r0 : R := ⟨0, 0, 0⟩
def Pl.laid (p : Pl) : Bool := p.turn.isSome
def plAt (ps : List Pl) (j : Nat) : Pl := ps.getD j pl0
def rAt (rs : List R) (j : Nat) : R := rs.getD j r0
/-! turns.py -/
def apartI (p o g : Int) : Int := min ((p - o) % g) (g - (p - o) % g)
def turnedI (ss : List Int) (t g : Int) : List Int := ss.map fun s => (s + t) % g
def nearI (p : Int) (ns : List Int) (g : Int) : Int := minD g (ns.map fun o => apartI p o g)
/-- what meeting_turns gives: rising, just the differences -/
def IsMeets (ss ps : List Int) (g : Int) (ns : List Int) : Prop := ns.Pairwise (· < ·) ∧ ∀ k, k ∈ ns ↔ ∃ p ∈ ps, ∃ s ∈ ss, (p - s) % g = k
/-- how near with a turn: the least over all pairs of splices -/
def near2 (ss ps : List Int) (t g : Int) : Int := minD g (ps.flatMap fun p => ss.map fun s => apartI t (p - s) g)
def byTurns (ss ps : List Int) (g : Int) : List Int := (List.range g.toNat).map fun (t : Nat) => near2 ss ps (t : Int) g
/-- neighbours of a list and the first one behind: of unlike second numbers -/
def adj (g : Int) (ys : List (Int × Int)) : List Int :=
  ((ys.zip (ys.drop 1 ++ ys.take 1)).filter fun q => q.1.2 != q.2.2).map fun q => apartI q.1.1 q.2.1 g
def lexLe (x y : Int × Int) : Prop := x.1 < y.1 ∨ (x.1 = y.1 ∧ x.2 ≤ y.2)
/-! slant.py -/
def coveredI (fw a c : Int) : Int := fw * c / a
def takenI (w a c : Int) : Int := (w * c + a - 1) / a
def piecesI (cover g s : Int) : List Int :=
  let whole := (g - 1) / cover
  let last := g - whole * cover
  if whole = 0 ∨ s - last ≤ 0 then List.replicate whole.toNat cover ++ [last]
  else if cover - (s - last) < s then []
  else List.replicate (whole.toNat - 1) cover ++ [cover - (s - last), s]
def startsFrom (z : Int) : List Int → List Int
  | [] => []
  | p :: r => z :: startsFrom (z + p) r
def isW (w : Int) : Bool := decide (1 ≤ w) && decide (w ≤ 2000)
/-! works.py -/
def laidUp (ps : List Pl) (i : Nat) : List Nat := (List.range i).filter fun j => (plAt ps j).laid
def laidN (ps : List Pl) : List Nat := laidUp ps ps.length
def placesI (g : Int) (p : Pl) : List Int := turnedI p.st (p.turn.getD 0) g
def othersUp (ps : List Pl) (k : Nat) (g : Int) (i : Nat) : List Int := ((List.range i).filter fun j => j != k && (plAt ps j).laid).flatMap fun j => placesI g (plAt ps j)
def othersI (m : M) (k : Nat) : List Int := othersUp m.plies k m.g m.plies.length
def ply (m : M) (k : Nat) : Pl := plAt m.plies k
def toOthers (m : M) (k : Nat) (t : Int) : Int := near2 (ply m k).st (othersI m k) t m.g
def turnsOf (m : M) (k : Nat) : List Int := byTurns (ply m k).st (othersI m k) m.g
def leastTurn (m : M) (k : Nat) : Option Int := ((List.range m.g.toNat).find? fun (t : Nat) => decide (m.n ≤ toOthers m k (t : Int))).map fun (t : Nat) => (t : Int)
def piecesOf (m : M) (fw : Int) : List Int := piecesI (coveredI fw m.a m.c) m.g m.s
def setTurn (m : M) (k : Nat) (t : Option Int) : M := { m with plies := m.plies.modify k fun p => { p with turn := t } }
/-! the calls: what is told, the answer; those that change give the object too -/
def tl (ts : List Int) (i : Nat) : Int := ts.getD i 0
def hasP (m : M) (k : Int) : Bool := decide (k < (m.plies.length : Int))
def hasR (m : M) (k : Int) : Bool := decide (k < (m.rolls.length : Int))
def cBegin (m : M) (ts : List Int) : M × List Int :=
  if 0 < tl ts 0 ∧ 0 < tl ts 1 ∧ tl ts 2 ≤ 1000 ∧ tl ts 0 * tl ts 0 + tl ts 1 * tl ts 1 = tl ts 2 * tl ts 2 ∧ 100 ≤ tl ts 3 ∧ tl ts 3 ≤ 1500 ∧ tl ts 4 ≤ 500 ∧ 1 ≤ tl ts 5 ∧ tl ts 5 ≤ 200
  then (⟨true, tl ts 0, tl ts 2, tl ts 3, tl ts 4, tl ts 5, [], []⟩, [0]) else (m, [-22])
def cRoll (m : M) (ts : List Int) : M × List Int :=
  if ¬ (150 ≤ tl ts 0 ∧ tl ts 0 ≤ 2000 ∧ 1 ≤ tl ts 1 ∧ tl ts 1 ≤ 1000000) then (m, [-22])
  else if 10 ≤ m.rolls.length then (m, [-28])
  else ({ m with rolls := m.rolls ++ [⟨tl ts 0, tl ts 1, tl ts 1⟩] }, [(m.rolls.length : Int)])
def cPly (m : M) (ts : List Int) : M × List Int :=
  if hasR m (tl ts 0) = false then (m, [-2]) else if isW (tl ts 1) = false then (m, [-22]) else if 12 ≤ m.plies.length then (m, [-28]) else
  let k := (tl ts 0).toNat
  let r := rAt m.rolls k
  let ps := piecesOf m r.w
  if ps = [] then (m, [-33]) else
  let need := (ps.length : Int) * takenI (tl ts 1) m.a m.c
  if r.left < need then (m, [-12]) else
  ({ m with rolls := m.rolls.modify k (fun q => { q with left := q.left - need }), plies := m.plies ++ [⟨tl ts 0, tl ts 1, startsFrom 0 ps, none⟩] }, [(m.plies.length : Int), (ps.length : Int)])
def cLay (m : M) (ts : List Int) : M × List Int :=
  if hasP m (tl ts 0) = false then (m, [-2]) else if m.g ≤ tl ts 1 then (m, [-22]) else
  let k := (tl ts 0).toNat
  if (ply m k).laid = true then (m, [-17]) else if toOthers m k (tl ts 1) < m.n then (m, [-40]) else
  (setTurn m k (some (tl ts 1)), [((laidN (setTurn m k (some (tl ts 1))).plies).length : Int)])
def cLift (m : M) (ts : List Int) : M × List Int :=
  if hasP m (tl ts 0) = false then (m, [-2]) else
  match (ply m (tl ts 0).toNat).turn with
  | none => (m, [-6])
  | some t => (setTurn m (tl ts 0).toNat none, [t])
def rowGo (m : M) : List Int → Option (M × List Int)
  | [] => some (m, [])
  | k :: r => match leastTurn m k.toNat with
    | none => none
    | some t => (rowGo (setTurn m k.toNat (some t)) r).map fun q => (q.1, t :: q.2)
def cRow (m : M) (ts : List Int) : M × List Int :=
  if ¬ ts.Nodup then (m, [-22]) else if (ts.all fun k => hasP m k) = false then (m, [-2]) else if (ts.any fun k => (ply m k.toNat).laid) = true then (m, [-17]) else
  match rowGo m ts with
  | none => (m, [-33])
  | some q => (q.1, (q.2.length : Int) :: q.2)
def aLeast (m : M) (ts : List Int) : List Int :=
  if hasP m (tl ts 0) = false then [-2] else if (ply m (tl ts 0).toNat).laid = true then [-17] else
  match leastTurn m (tl ts 0).toNat with
  | none => [-33]
  | some t => [t]
def aBest (m : M) (ts : List Int) : List Int :=
  if hasP m (tl ts 0) = false then [-2] else
  if (laidN m.plies).length = (if (ply m (tl ts 0).toNat).laid = true then 1 else 0) then [-6] else
  let r := turnsOf m (tl ts 0).toNat
  [((r.idxOf (mx r) : Nat) : Int), mx r]
def aFits (m : M) (ts : List Int) : List Int :=
  if hasP m (tl ts 0) = false then [-2] else if m.g ≤ tl ts 1 then [-22] else
  let v := toOthers m (tl ts 0).toNat (tl ts 1)
  [if m.n ≤ v then 1 else 0, v]
def aNear (m : M) (ts : List Int) : List Int :=
  if hasP m (tl ts 0) = false ∨ hasP m (tl ts 1) = false then [-2] else if tl ts 0 = tl ts 1 then [-22] else
  let p := ply m (tl ts 0).toNat
  let q := ply m (tl ts 1).toNat
  if p.laid = false ∨ q.laid = false then [-6] else [near2 p.st (placesI m.g q) (p.turn.getD 0) m.g]
/-- all splices of what's laid, each with its ply -/
def marksUp (ps : List Pl) (g : Int) (ks : List Nat) : List (Int × Int) := ks.flatMap fun k => (placesI g (plAt ps k)).map fun z => (z, (k : Int))
def aSplices (m : M) (ts : List Int) : List Int :=
  if hasP m (tl ts 0) = false then [-2] else let p := ply m (tl ts 0).toNat
  (p.st.length : Int) :: p.st
def aWhere (m : M) (ts : List Int) : List Int :=
  if hasP m (tl ts 0) = false then [-2] else let p := ply m (tl ts 0).toNat
  match p.turn with
  | none => [-6]
  | some t => t :: placesI m.g p
def aLook (m : M) (ts : List Int) : List Int :=
  if hasP m (tl ts 0) = false then [-2] else let p := ply m (tl ts 0).toNat
  [p.src, p.wid, (p.st.length : Int), match p.turn with | none => 0 | some t => t + 1]
def atUp (m : M) (i n : Int) (ks : List Nat) : List Nat := ks.filter fun k => decide (nearI i (placesI m.g (plAt m.plies k)) m.g ≤ n)
def aAt (m : M) (ts : List Int) : List Int :=
  if m.g ≤ tl ts 0 then [-22] else
  let f := atUp m (tl ts 0) (tl ts 1) (laidN m.plies)
  (f.length : Int) :: f.map fun (k : Nat) => (k : Int)
def aMost (m : M) (ts : List Int) : List Int :=
  if hasR m (tl ts 0) = false then [-2] else if isW (tl ts 1) = false then [-22] else
  let r := rAt m.rolls (tl ts 0).toNat
  let ps := piecesOf m r.w
  if ps = [] then [-33] else
  let need := (ps.length : Int) * takenI (tl ts 1) m.a m.c
  [r.left / need, need]
def aPiece (m : M) (ts : List Int) : List Int :=
  if isW (tl ts 0) = false then [-22] else
  let ps := piecesOf m (tl ts 0)
  if ps = [] then [-33] else [coveredI (tl ts 0) m.a m.c, (ps.length : Int), ps.getLastD 0]
def aRest (m : M) (ts : List Int) : List Int :=
  if hasR m (tl ts 0) = false then [-2] else let r := rAt m.rolls (tl ts 0).toNat
  [r.left, r.w, r.l]
def aSums (m : M) (_ : List Int) : List Int :=
  let l := (m.rolls.map R.l).sum
  let f := (m.rolls.map R.left).sum
  [0, l, f, l - f]
def aState (m : M) (_ : List Int) : List Int := [((laidN m.plies).length : Int), (m.rolls.length : Int), (m.plies.length : Int), m.g, m.n, m.s]
/-- sorted by the first number, then the second: there is just one such list; its neighbours' least -/
def IsSorted (ms ys : List (Int × Int)) : Prop := ys.Perm ms ∧ ys.Pairwise lexLe
/-- all's number, for the sorted marks ys -/
def allNear (m : M) (ys : List (Int × Int)) : Int := minD m.g (adj m.g ys)
def insP (x : Int × Int) : List (Int × Int) → List (Int × Int)
  | [] => [x]
  | y :: r => if x.1 < y.1 ∨ (x.1 = y.1 ∧ x.2 ≤ y.2) then x :: y :: r else y :: insP x r
def sortP (l : List (Int × Int)) : List (Int × Int) := l.foldr insP []
def aAll (m : M) (_ : List Int) : List Int :=
  allNear m (sortP (marksUp m.plies m.g (laidN m.plies))) :: (laidN m.plies).map fun (k : Nat) => (k : Int)
def ro (f : M → List Int → List Int) : M → List Int → M × List Int := fun m ts => (m, f m ts)
def calls20 : List (M → List Int → M × List Int) := [cBegin, cRoll, cPly, cLay, cLift, cRow, ro aLeast, ro aBest, ro aFits, ro aNear, ro aAll, ro aSplices, ro aWhere, ro aMost, ro aPiece, ro aLook, ro aRest, ro aAt, ro aSums, ro aState]
def mStep (m : M) (p : Int) (ts : List Int) : M × List Int :=
  if p ≠ 0 ∧ m.begun = false then (m, [-11]) else (calls20.getD p.toNat (ro fun _ _ => [])) m ts
/-- how many are told with a call (row apart) -/
def arity : List Nat := [6, 2, 2, 2, 1, 0, 1, 1, 2, 2, 0, 1, 1, 2, 1, 1, 1, 2, 0, 0]
/-! what holds of the object behind a begin -/
structure Ok (m : M) : Prop where
  begun : m.begun = true
  g : 100 ≤ m.g ∧ m.g ≤ 1500
  a : 0 < m.a ∧ m.a < m.c ∧ m.c ≤ 1000
  n : 0 ≤ m.n ∧ m.n ≤ 500
  s : 1 ≤ m.s ∧ m.s ≤ 200
  rl : m.rolls.length ≤ 10
  pl : m.plies.length ≤ 12
  r : ∀ r ∈ m.rolls, 150 ≤ r.w ∧ r.w ≤ 2000 ∧ 0 ≤ r.left ∧ r.left ≤ r.l ∧ r.l ≤ 1000000
  p : ∀ p ∈ m.plies, p.st ≠ [] ∧ p.st.length ≤ 10 ∧ (∀ z ∈ p.st, 0 ≤ z ∧ z < m.g) ∧ (∀ t, p.turn = some t → 0 ≤ t ∧ t < m.g)
end Bp
/-! Plain facts about the mirror's lists and numbers, as the loops want them. -/
namespace Bp
theorem foldl_min_le (d : Int) : ∀ (l : List Int), l.foldl min d ≤ d ∧ ∀ y ∈ l, l.foldl min d ≤ y
  | [] => ⟨Int.le_refl _, fun y h => nomatch h⟩
  | a :: r => by
    obtain ⟨h1, h2⟩ := foldl_min_le (min d a) r
    rw [List.foldl_cons]
    refine ⟨by omega, fun y hy => ?_⟩
    rcases List.mem_cons.mp hy with rfl | hyr
    · omega
    · exact h2 y hyr
theorem foldl_min_mem (d : Int) : ∀ (l : List Int), l.foldl min d = d ∨ l.foldl min d ∈ l
  | [] => .inl rfl
  | a :: r => by
    rw [List.foldl_cons]
    rcases foldl_min_mem (min d a) r with h | h
    · rw [h]
      by_cases c : d ≤ a
      · left; omega
      · right
        have e : min d a = a := by omega
        rw [e]
        exact List.mem_cons_self
    · exact .inr (List.mem_cons_of_mem _ h)
theorem minD_le {d : Int} {l : List Int} {y : Int} (h : y ∈ l) : minD d l ≤ y := by
  cases l with
  | nil => cases h
  | cons a r =>
    obtain ⟨h1, h2⟩ := foldl_min_le a r
    rcases List.mem_cons.mp h with ea | hr
    · subst ea; exact h1
    · exact h2 y hr
theorem minD_mem {d : Int} {l : List Int} (h : l ≠ []) : minD d l ∈ l := by
  cases l with
  | nil => exact absurd rfl h
  | cons a r =>
    rcases foldl_min_mem a r with e | e
    · show r.foldl min a ∈ a :: r
      rw [e]; exact List.mem_cons_self
    · exact List.mem_cons_of_mem _ e
theorem minD_eq {d v : Int} {l : List Int} (h : v ∈ l) (hl : ∀ y ∈ l, v ≤ y) : minD d l = v := by
  have h1 := minD_le (d := d) h
  have h2 := hl _ (minD_mem (d := d) (l := l) (fun e => by rw [e] at h; cases h))
  omega
theorem minD_congr {d : Int} {l l' : List Int} (h : ∀ x, x ∈ l ↔ x ∈ l') : minD d l = minD d l' := by
  by_cases e : l = []
  · have e' : l' = [] := List.eq_nil_iff_forall_not_mem.mpr fun x hx => by
      have := (h x).mpr hx
      rw [e] at this; cases this
    rw [e, e']
  · exact minD_eq ((h _).mpr (minD_mem fun e' => e (List.eq_nil_iff_forall_not_mem.mpr fun x hx => by
      have := (h x).mp hx
      rw [e'] at this; cases this))) fun y hy => minD_le ((h y).mp hy)
/-! apart -/
theorem apart_mod (t x g : Int) : apartI t (x % g) g = apartI t x g := by
  unfold apartI
  rw [Int.sub_emod t (x % g), Int.emod_emod_of_dvd x (Int.dvd_refl g), ← Int.sub_emod]
theorem apart_shift (t x g : Int) : apartI (t + g) x g = apartI t x g := by
  unfold apartI
  have e : (t + g - x) % g = (t - x) % g := by
    have : t + g - x = (t - x) + g := by omega
    rw [this, Int.add_emod_right]
  rw [e]
theorem near_shift (t g : Int) (ms : List Int) : nearI (t + g) ms g = nearI t ms g := by
  unfold nearI
  simp only [apart_shift]
/-- apart, the way known -/
theorem apart_of {x m g d : Int} (h0 : 0 ≤ d) (h1 : d < g) (e : x - m = d ∨ x - m = d - g) : apartI x m g = min d (g - d) := by
  have q : (x - m) % g = d := by
    rcases e with e | e
    · rw [e]; exact Int.emod_eq_of_lt h0 h1
    · rw [e, Int.sub_emod_right]
      exact Int.emod_eq_of_lt h0 h1
  unfold apartI
  rw [q]
/-! meeting turns -/
theorem near_meets {ss ps ns : List Int} {g t : Int} (h : IsMeets ss ps g ns) : nearI t ns g = near2 ss ps t g := by
  unfold nearI near2
  refine minD_congr fun x => ?_
  rw [List.mem_map, List.mem_flatMap]
  constructor
  · rintro ⟨o, ho, rfl⟩
    obtain ⟨p, hp, s, hs, rfl⟩ := (h.2 o).mp ho
    exact ⟨p, hp, List.mem_map.mpr ⟨s, hs, (apart_mod _ _ _).symm⟩⟩
  · rintro ⟨p, hp, hx⟩
    obtain ⟨s, hs, rfl⟩ := List.mem_map.mp hx
    exact ⟨(p - s) % g, (h.2 _).mpr ⟨p, hp, s, hs, rfl⟩, apart_mod _ _ _⟩
theorem byTurns_meets {ss ps ns : List Int} {g : Int} (h : IsMeets ss ps g ns) : ((List.range g.toNat).map fun (t : Nat) => nearI (t : Int) ns g) = byTurns ss ps g := by
  unfold byTurns
  refine List.map_congr_left fun t _ => ?_
  exact near_meets h
/-! between two neighbours -/
def behindI (ms : List Int) (g : Int) : List Int := ms.drop 1 ++ (ms.take 1).map fun m => m + g
theorem behind_length (ms : List Int) (g : Int) : (behindI ms g).length = ms.length := by
  unfold behindI
  rw [List.length_append, List.length_drop, List.length_map, List.length_take]
  omega
theorem behind_get {ms : List Int} {g b : Int} {i : Nat} (h : (behindI ms g)[i]? = some b) : ms[i + 1]? = some b ∨ (i + 1 = ms.length ∧ ∃ f, ms[0]? = some f ∧ b = f + g) := by
  unfold behindI at h
  by_cases c : i < (ms.drop 1).length
  · rw [List.getElem?_append_left c, List.getElem?_drop] at h
    left
    rw [Nat.add_comm] at h
    exact h
  · rw [List.getElem?_append_right (by omega), List.getElem?_map] at h
    right
    rw [List.length_drop] at c h
    cases e : (ms.take 1)[i - (ms.length - 1)]? with
    | none =>
      rw [e] at h
      cases h
    | some f =>
      rw [e] at h
      have hb : b = f + g := (Option.some.inj h).symm
      have hlt := (List.getElem?_eq_some_iff.mp e).1
      rw [List.length_take] at hlt
      have h0 : i - (ms.length - 1) = 0 := by omega
      rw [h0, List.getElem?_take] at e
      refine ⟨by omega, f, ?_, hb⟩
      simpa using e
theorem pw_get {ms : List Int} (h : ms.Pairwise (· < ·)) {i j : Nat} {x y : Int} (hi : ms[i]? = some x) (hj : ms[j]? = some y) (hij : i < j) : x < y := by
  obtain ⟨h1, e1⟩ := List.getElem?_eq_some_iff.mp hi
  obtain ⟨h2, e2⟩ := List.getElem?_eq_some_iff.mp hj
  have := List.pairwise_iff_getElem.mp h i j h1 h2 hij
  rw [e1, e2] at this
  exact this
theorem pw_le {ms : List Int} (h : ms.Pairwise (· < ·)) {i j : Nat} {x y : Int} (hi : ms[i]? = some x) (hj : ms[j]? = some y) (hij : i ≤ j) : x ≤ y := by
  rcases Nat.lt_or_eq_of_le hij with c | c
  · exact Int.le_of_lt (pw_get h hi hj c)
  · subst c
    rw [hi] at hj
    have := Option.some.inj hj
    omega
theorem near_between {ms : List Int} {g s b x : Int} {i : Nat} (hp : ms.Pairwise (· < ·)) (hr : ∀ m ∈ ms, 0 ≤ m ∧ m < g) (hs : ms[i]? = some s) (hb : (behindI ms g)[i]? = some b) (h1 : s ≤ x) (h2 : x < b) :
    nearI x ms g = min (x - s) (b - x) := by
  have hsm := hr s (List.mem_of_getElem? hs)
  have hlt : i < ms.length := (List.getElem?_eq_some_iff.mp hs).1
  obtain ⟨f, hf⟩ : ∃ f, ms[0]? = some f := ⟨_, List.getElem?_eq_getElem (by omega)⟩
  have hfs : f ≤ s := pw_le hp hf hs (Nat.zero_le _)
  have hfm := hr f (List.mem_of_getElem? hf)
  have hbg := behind_get hb
  have hbr : b ≤ f + g ∧ s < b := by
    rcases hbg with e | ⟨e, f', hf', eb⟩
    · have := hr b (List.mem_of_getElem? e)
      have := pw_get hp hs e (Nat.lt_succ_self _)
      omega
    · rw [hf] at hf'
      have := Option.some.inj hf'
      omega
  unfold nearI
  refine minD_eq ?_ ?_
  · rw [List.mem_map]
    by_cases c : x - s ≤ b - x
    · refine ⟨s, List.mem_of_getElem? hs, ?_⟩
      rw [apart_of (d := x - s) (by omega) (by omega) (.inl rfl)]
      omega
    · rcases hbg with e | ⟨e, f', hf', eb⟩
      · refine ⟨b, List.mem_of_getElem? e, ?_⟩
        rw [apart_of (d := x - b + g) (by omega) (by omega) (.inr (by omega))]
        omega
      · rw [hf] at hf'
        have ef := Option.some.inj hf'
        refine ⟨f, List.mem_of_getElem? hf, ?_⟩
        rw [apart_of (d := x - f) (by omega) (by omega) (.inl rfl)]
        omega
  · intro y hy
    obtain ⟨m, hm, rfl⟩ := List.mem_map.mp hy
    have hmr := hr m hm
    obtain ⟨j, hj⟩ := List.mem_iff_getElem?.mp hm
    have hfm' : f ≤ m := pw_le hp hf hj (Nat.zero_le _)
    by_cases c : j ≤ i
    · have := pw_le hp hj hs c
      rw [apart_of (d := x - m) (by omega) (by omega) (.inl rfl)]
      omega
    · have hsm2 := pw_get hp hs hj (by omega)
      rcases hbg with e | ⟨e, _⟩
      · have := pw_le hp e hj (by omega)
        rw [apart_of (d := x - m + g) (by omega) (by omega) (.inr (by omega))]
        omega
      · have := (List.getElem?_eq_some_iff.mp hj).1
        omega
/-! what stands in the list while it is filled: all x from the first meeting turn to (below) e -/
def Filled (ms : List Int) (g f e : Int) (r : List Int) : Prop := r.length = g.toNat ∧ ∀ x, f ≤ x → x < e → r[(x % g).toNat]? = some (nearI x ms g)
theorem Filled.put {ms : List Int} {g f x : Int} {r : List Int} (h : Filled ms g f x r) (hg : 0 < g) (h2 : x < f + g) : Filled ms g f (x + 1) (r.set (x % g).toNat (nearI x ms g)) := by
  have hx0 := Int.emod_nonneg x (by omega : g ≠ 0)
  have hx1 := Int.emod_lt_of_pos x hg
  refine ⟨by rw [List.length_set]; exact h.1, fun y h3 h4 => ?_⟩
  by_cases c : y = x
  · subst c
    rw [List.getElem?_set_self]
    rw [h.1]; omega
  · have hy0 := Int.emod_nonneg y (by omega : g ≠ 0)
    have hne : (x % g).toNat ≠ (y % g).toNat := fun e => by
      have e2 : x % g = y % g := by omega
      have e3 : (x - y) % g = 0 := by rw [Int.sub_emod, e2, Int.sub_self, Int.zero_emod]
      have e4 : (x - y) % g = x - y := Int.emod_eq_of_lt (by omega) (by omega)
      omega
    rw [List.getElem?_set_ne hne]
    exact h.2 y h3 (by omega)
theorem Filled.all {ms : List Int} {g f : Int} {r : List Int} (hg : 0 < g) (hf : 0 ≤ f ∧ f < g) (h : Filled ms g f (f + g) r) : r = (List.range g.toNat).map fun (t : Nat) => nearI (t : Int) ms g := by
  refine List.ext_getElem? fun i => ?_
  by_cases c : i < g.toNat
  · rw [List.getElem?_map, List.getElem?_range c]
    have key : ∀ x : Int, f ≤ x → x < f + g → x % g = (i : Int) → nearI x ms g = nearI (i : Int) ms g → r[i]? = some (nearI (i : Int) ms g) := fun x h1 h2 h3 h4 => by
      have q := h.2 x h1 h2
      rw [h3, h4] at q
      simpa using q
    by_cases d : f ≤ (i : Int)
    · exact key i d (by omega) (Int.emod_eq_of_lt (by omega) (by omega)) rfl
    · refine key (i + g) (by omega) (by omega) ?_ (near_shift _ _ _)
      rw [Int.add_emod_right]
      exact Int.emod_eq_of_lt (by omega) (by omega)
  · rw [List.getElem?_eq_none (by rw [h.1]; omega), List.getElem?_eq_none (by simp; omega)]
theorem none_filled (g : Int) (hg : 0 < g) : List.replicate g.toNat g = (List.range g.toNat).map fun (t : Nat) => nearI (t : Int) [] g := by
  have e : (fun (t : Nat) => nearI (t : Int) [] g) = fun _ => g := rfl
  rw [e, List.map_const', List.length_range]
/-! pieces -/
theorem startsFrom_append (z : Int) : ∀ (l r : List Int), startsFrom z (l ++ r) = startsFrom z l ++ startsFrom (z + l.sum) r := by
  intro l
  induction l
    generalizing z with
  | nil => intro r; simp [startsFrom]
  | cons a t ih =>
    intro r
    show z :: startsFrom (z + a) (t ++ r) = z :: (startsFrom (z + a) t ++ startsFrom (z + (a :: t).sum) r)
    rw [ih, List.sum_cons]
    congr 3
    omega
theorem startsFrom_length (z : Int) : ∀ l : List Int, (startsFrom z l).length = l.length := by
  intro l
  induction l
    generalizing z with
  | nil => rfl
  | cons a t ih => simp [startsFrom, ih]
end Bp
/-! Rows of plies laid one behind another, and lifted again. -/
namespace Bp
def liftAll (m : M) (ts : List Int) : M := ts.foldl (fun m k => setTurn m k.toNat none) m
theorem modify_at {α : Type} {l : List α} {f : α → α} {k j : Nat} {p : α} (hk : k = j) (h : l[j]? = some p) : (l.modify k f)[j]? = some (f p) := by
  subst hk
  rw [List.getElem?_modify, h]
  simp
theorem modify_off {α : Type} {l : List α} {f : α → α} {k j : Nat} (hk : ¬ k = j) : (l.modify k f)[j]? = l[j]? := by
  rw [List.getElem?_modify]
  cases l[j]? <;> simp [hk]
theorem modify_no {α : Type} {l : List α} {f : α → α} {k j : Nat} (h : l[j]? = none) : (l.modify k f)[j]? = none := by
  rw [List.getElem?_modify, h]
  rfl
theorem modify_some {α : Type} {l : List α} {f : α → α} {k j : Nat} {p : α} (hk : k = j) (h : (l.modify k f)[j]? = some p) : ∃ p0, l[j]? = some p0 ∧ p = f p0 := by
  cases e : l[j]? with
  | none =>
    rw [modify_no e] at h
    cases h
  | some p0 =>
    rw [modify_at hk e] at h
    exact ⟨p0, rfl, (Option.some.inj h).symm⟩
theorem setTurn_len (m : M) (k : Nat) (t : Option Int) : (setTurn m k t).plies.length = m.plies.length := by
  unfold setTurn
  simp
theorem ok_setTurn {m : M} (o : Ok m) (k : Nat) {t : Option Int} (h : ∀ z, t = some z → 0 ≤ z ∧ z < m.g) : Ok (setTurn m k t) := by
  refine ⟨o.begun, o.g, o.a, o.n, o.s, o.rl, by rw [setTurn_len]; exact o.pl, o.r, fun p hp => ?_⟩
  obtain ⟨j, hj⟩ := List.mem_iff_getElem?.mp hp
  have hj : (m.plies.modify k fun p => { p with turn := t })[j]? = some p := hj
  by_cases c : k = j
  · obtain ⟨p0, e, rfl⟩ := modify_some c hj
    have op := o.p p0 (List.mem_of_getElem? e)
    exact ⟨op.1, op.2.1, op.2.2.1, h⟩
  · rw [modify_off c] at hj
    exact o.p p (List.mem_of_getElem? hj)
theorem least_range {m : M} {k : Nat} {t : Int} (hg : 0 ≤ m.g) (h : leastTurn m k = some t) : 0 ≤ t ∧ t < m.g := by
  unfold leastTurn at h
  cases e : (List.range m.g.toNat).find? fun (t : Nat) => decide (m.n ≤ toOthers m k (t : Int)) with
  | none =>
    rw [e] at h
    cases h
  | some j =>
    rw [e] at h
    have hj : (j : Int) = t := Option.some.inj h
    have := List.mem_range.mp (List.mem_of_find?_eq_some e)
    omega
theorem rowGo_append (l r : List Int) : ∀ m : M, rowGo m (l ++ r) = (match rowGo m l with | none => none | some (q : M × List Int) => (rowGo q.1 r).map fun z => (z.1, q.2 ++ z.2)) := by
  induction l with
  | nil =>
    intro m
    show rowGo m r = (rowGo m r).map fun z => (z.1, [] ++ z.2)
    cases rowGo m r <;> rfl
  | cons k t ih =>
    intro m
    show (match leastTurn m k.toNat with | none => none | some z => (rowGo (setTurn m k.toNat (some z)) (t ++ r)).map fun (q : M × List Int) => (q.1, z :: q.2)) = _
    have e2 : rowGo m (k :: t) = (match leastTurn m k.toNat with | none => none | some z => (rowGo (setTurn m k.toNat (some z)) t).map fun (q : M × List Int) => (q.1, z :: q.2)) := rfl
    rw [e2]
    cases leastTurn m k.toNat with
    | none => rfl
    | some z =>
      show (rowGo (setTurn m k.toNat (some z)) (t ++ r)).map _ = (match (rowGo (setTurn m k.toNat (some z)) t).map (fun (q : M × List Int) => (q.1, z :: q.2)) with | none => none | some (q : M × List Int) => (rowGo q.1 r).map fun z => (z.1, q.2 ++ z.2))
      rw [ih]
      cases rowGo (setTurn m k.toNat (some z)) t with
      | none => rfl
      | some q =>
        show ((rowGo q.1 r).map _).map _ = (rowGo q.1 r).map _
        cases rowGo q.1 r <;> rfl
theorem rowGo_snoc_none {m mi : M} {l : List Int} {tt : List Int} {k : Int} (h : rowGo m l = some (mi, tt)) (e : leastTurn mi k.toNat = none) (r : List Int) : rowGo m (l ++ k :: r) = none := by
  rw [rowGo_append, h]
  have e2 : rowGo mi (k :: r) = none := by
    show (match leastTurn mi k.toNat with | none => none | some z => _) = none
    rw [e]
  show (rowGo mi (k :: r)).map _ = none
  rw [e2]
  rfl
theorem rowGo_snoc_some {m mi : M} {l : List Int} {tt : List Int} {k t : Int} (h : rowGo m l = some (mi, tt)) (e : leastTurn mi k.toNat = some t) : rowGo m (l ++ [k]) = some (setTurn mi k.toNat (some t), tt ++ [t]) := by
  rw [rowGo_append, h]
  have e2 : rowGo mi [k] = some (setTurn mi k.toNat (some t), [t]) := by
    show (match leastTurn mi k.toNat with | none => none | some z => _) = _
    rw [e]
    rfl
  show (rowGo mi [k]).map _ = _
  rw [e2]
  rfl
/-- alike but for turns, and these alike off S -/
def AlikeOff (S : Nat → Prop) (m mi : M) : Prop := (∃ ps, mi = { m with plies := ps }) ∧ ∀ j, match m.plies[j]? with
  | none => mi.plies[j]? = none
  | some p => ∃ t, mi.plies[j]? = some { p with turn := t } ∧ (¬ S j → t = p.turn)
theorem AlikeOff.refl (S : Nat → Prop) (m : M) : AlikeOff S m m := ⟨⟨m.plies, rfl⟩, fun j => by
  cases e : m.plies[j]? with
  | none => rfl
  | some p => exact ⟨p.turn, rfl, fun _ => rfl⟩⟩
theorem AlikeOff.set {S : Nat → Prop} {m mi : M} (h : AlikeOff S m mi) (k : Nat) (t : Option Int) (hk : S k) : AlikeOff S m (setTurn mi k t) := by
  obtain ⟨⟨ps, rfl⟩, h⟩ := h
  refine ⟨⟨_, rfl⟩, fun j => ?_⟩
  have hj := h j
  have es : (setTurn { m with plies := ps } k t).plies = ps.modify k fun p => { p with turn := t } := rfl
  rw [es]
  cases e : m.plies[j]? with
  | none =>
    rw [e] at hj
    exact modify_no hj
  | some p =>
    rw [e] at hj
    obtain ⟨t0, h1, h2⟩ := hj
    have h1 : ps[j]? = some { p with turn := t0 } := h1
    by_cases c : k = j
    · exact ⟨t, modify_at (f := fun p => { p with turn := t }) c h1, fun hn => absurd (c ▸ hk) hn⟩
    · exact ⟨t0, by rw [modify_off c]; exact h1, h2⟩
theorem rowGo_alike (S : Nat → Prop) (m : M) : ∀ (l : List Int) (m1 mi : M) (tt : List Int), (∀ k ∈ l, S k.toNat) → AlikeOff S m m1 → rowGo m1 l = some (mi, tt) → AlikeOff S m mi
  | [], m1, mi, tt, _, h, e => by
    have e := Option.some.inj e
    rw [show mi = m1 from (congrArg Prod.fst e).symm]
    exact h
  | k :: r, m1, mi, tt, hS, h, e => by
    have e : (match leastTurn m1 k.toNat with | none => none | some t => (rowGo (setTurn m1 k.toNat (some t)) r).map fun (q : M × List Int) => (q.1, t :: q.2)) = some (mi, tt) := e
    cases c : leastTurn m1 k.toNat with
    | none =>
      rw [c] at e
      cases e
    | some t =>
      rw [c] at e
      have e : (rowGo (setTurn m1 k.toNat (some t)) r).map (fun (q : M × List Int) => (q.1, t :: q.2)) = some (mi, tt) := e
      cases d : rowGo (setTurn m1 k.toNat (some t)) r with
      | none =>
        rw [d] at e
        cases e
      | some q =>
        rw [d] at e
        have e := Option.some.inj e
        have e1 : q.1 = mi := congrArg Prod.fst e
        rw [← e1]
        exact rowGo_alike S m r _ q.1 q.2 (fun j hj => hS j (List.mem_cons_of_mem _ hj)) (h.set _ _ (hS k List.mem_cons_self)) d
theorem lift_alike {S : Nat → Prop} (m : M) : ∀ (l : List Int) (mi : M), (∀ k ∈ l, S k.toNat) → AlikeOff S m mi → AlikeOff S m (liftAll mi l)
  | [], _, _, h => h
  | k :: r, mi, hS, h => lift_alike m r (setTurn mi k.toNat none) (fun j hj => hS j (List.mem_cons_of_mem _ hj)) (h.set _ _ (hS k List.mem_cons_self))
theorem setTurn_at {m : M} {k j : Nat} {p : Pl} {t : Option Int} (h : (setTurn m k t).plies[j]? = some p) (hk : k = j) : p.turn = t := by
  have h : (m.plies.modify k fun p => { p with turn := t })[j]? = some p := h
  obtain ⟨p0, _, rfl⟩ := modify_some hk h
  rfl
theorem setTurn_off {m : M} {k j : Nat} {t : Option Int} (hk : ¬ k = j) : (setTurn m k t).plies[j]? = m.plies[j]? := modify_off hk
theorem lift_none : ∀ (l : List Int) (m : M) (j : Nat) (p : Pl), (liftAll m l).plies[j]? = some p → ((∃ k ∈ l, k.toNat = j) ∨ ∀ p0, m.plies[j]? = some p0 → p0.turn = none) → p.turn = none
  | [], m, j, p, h, c => by
    rcases c with ⟨k, hk, _⟩ | c
    · cases hk
    · exact c p h
  | k :: r, m, j, p, h, c => by
    refine lift_none r (setTurn m k.toNat none) j p h ?_
    by_cases e : k.toNat = j
    · exact .inr fun p0 hp0 => setTurn_at hp0 e
    · rcases c with ⟨k', hk', e'⟩ | c
      · rcases List.mem_cons.mp hk' with q | q
        · subst q
          exact absurd e' e
        · exact .inl ⟨k', q, e'⟩
      · exact .inr fun p0 hp0 => by
          rw [setTurn_off e] at hp0
          exact c p0 hp0
/-- a row that fails on its way is lifted again: the object is as it was -/
theorem lift_again {m mi : M} {l r : List Int} {tt : List Int} (h : rowGo m l = some (mi, tt)) (hu : ∀ k ∈ l ++ r, (ply m k.toNat).laid = false) : liftAll mi (l ++ r) = m := by
  have a1 := rowGo_alike (fun j => ∃ k ∈ l ++ r, k.toNat = j) m l m mi tt (fun k hk => ⟨k, List.mem_append_left _ hk, rfl⟩) (AlikeOff.refl _ m) h
  have a2 := lift_alike m (l ++ r) mi (fun k hk => ⟨k, hk, rfl⟩) a1
  obtain ⟨⟨ps, e⟩, a2⟩ := a2
  have key : ps = m.plies := by
    refine List.ext_getElem? fun j => ?_
    have hj := a2 j
    have e2 : (liftAll mi (l ++ r)).plies[j]? = ps[j]? := by rw [e]
    cases c : m.plies[j]? with
    | none =>
      rw [c] at hj
      rw [← e2]
      exact hj
    | some p =>
      rw [c] at hj
      obtain ⟨t, h1, h2⟩ := hj
      rw [← e2, h1]
      by_cases d : ∃ k ∈ l ++ r, k.toNat = j
      · have t0 : t = none := lift_none (l ++ r) mi j _ h1 (.inl d)
        obtain ⟨k, hk, ek⟩ := d
        have hl := hu k hk
        have ep : ply m k.toNat = p := by
          show m.plies.getD k.toNat pl0 = p
          rw [ek, List.getD_eq_getElem?_getD, c]
          rfl
        rw [ep] at hl
        have pn : p.turn = none := by
          unfold Pl.laid at hl
          cases q : p.turn with
          | none => rfl
          | some z =>
            rw [q] at hl
            cases hl
        rw [t0, ← pn]
      · rw [h2 d]
  rw [e, key]
end Bp
/-! The mirror's parts and the specification's. -/
namespace Bp
open Su65 (Abs)
def toR (r : Su65.Roll) : R := ⟨r.wide, r.long, r.left⟩
def toP (p : Su65.Ply) : Pl := ⟨p.roll, p.wide, p.splices.map fun (z : Nat) => (z : Int), if p.turn = 0 then none else some ((p.turn : Int) - 1)⟩
def toM (x : Abs) : M := ⟨true, x.a, x.c, x.round_, x.apart, x.short, x.rolls.map toR, x.plies.map toP⟩
def cI (l : List Nat) : List Int := l.map fun (z : Nat) => (z : Int)
theorem cI_length (l : List Nat) : (cI l).length = l.length := by unfold cI; rw [List.length_map]
theorem cI_mem {l : List Nat} {z : Int} : z ∈ cI l ↔ ∃ n ∈ l, z = (n : Int) := by
  unfold cI
  rw [List.mem_map]
  exact ⟨fun ⟨n, h, e⟩ => ⟨n, h, e.symm⟩, fun ⟨n, h, e⟩ => ⟨n, h, e.symm⟩⟩
theorem cI_append (l r : List Nat) : cI (l ++ r) = cI l ++ cI r := by unfold cI; rw [List.map_append]
theorem getD_map {α β : Type} (f : α → β) (l : List α) (k : Nat) (d : α) : (l.map f).getD k (f d) = f (l.getD k d) := by
  rw [List.getD_eq_getElem?_getD, List.getD_eq_getElem?_getD, List.getElem?_map]
  cases l[k]? <;> rfl
theorem plAt_toP (x : Abs) (k : Nat) : plAt (x.plies.map toP) k = toP (x.ply k) := getD_map toP x.plies k ⟨0, 0, [], 0⟩
theorem ply_toM (x : Abs) (k : Nat) : ply (toM x) k = toP (x.ply k) := plAt_toP x k
theorem rAt_toM (x : Abs) (k : Nat) : rAt (toM x).rolls k = toR (x.roll k) := getD_map toR x.rolls k ⟨0, 0, 0⟩
theorem laid_toP (p : Su65.Ply) : (toP p).laid = (p.turn != 0) := by
  unfold Pl.laid toP
  by_cases h : p.turn = 0 <;> simp [h]
theorem turn_toP (p : Su65.Ply) : (toP p).turn.getD 0 = ((p.turn - 1 : Nat) : Int) := by
  unfold toP
  by_cases h : p.turn = 0
  · simp [h]
  · simp only [h, if_false, Option.getD_some]
    omega
theorem laidN_toM (x : Abs) : laidN (toM x).plies = x.laid := by
  unfold laidN laidUp Abs.laid
  rw [show (toM x).plies.length = x.plies.length from List.length_map _]
  refine List.filter_congr fun j _ => ?_
  rw [show plAt (toM x).plies j = toP (x.ply j) from plAt_toP x j, laid_toP]
theorem places_toP (x : Abs) (k : Nat) : placesI (x.round_ : Int) (toP (x.ply k)) = cI (x.places k ((x.ply k).turn - 1)) := by
  unfold placesI turnedI cI Abs.places
  rw [turn_toP, List.map_map]
  show ((x.ply k).splices.map _).map _ = _
  rw [List.map_map]
  refine List.map_congr_left fun s _ => ?_
  show ((s : Int) + (((x.ply k).turn - 1 : Nat) : Int)) % (x.round_ : Int) = (((s + ((x.ply k).turn - 1)) % x.round_ : Nat) : Int)
  rw [Int.natCast_emod, Int.natCast_add]
theorem flatMap_cI {l : List Nat} {f : Nat → List Int} {g : Nat → List Nat} (h : ∀ j, f j = cI (g j)) : l.flatMap f = cI (l.flatMap g) := by
  unfold cI
  rw [List.map_flatMap]
  refine congrArg (fun q => List.flatMap q l) ?_
  funext j
  exact h j
theorem others_toM (x : Abs) (k : Nat) : othersI (toM x) k = cI (x.others k) := by
  unfold othersI othersUp Abs.others Abs.laid
  rw [show (toM x).plies.length = x.plies.length from List.length_map _, List.filter_filter]
  rw [show (List.range x.plies.length).filter (fun j => j != k && (plAt (toM x).plies j).laid) = (List.range x.plies.length).filter (fun a => a != k && (x.ply a).turn != 0) from List.filter_congr fun j _ => by
    rw [show plAt (toM x).plies j = toP (x.ply j) from plAt_toP x j, laid_toP]]
  refine flatMap_cI fun j => ?_
  rw [show plAt (toM x).plies j = toP (x.ply j) from plAt_toP x j]
  exact places_toP x j
/-! near -/
theorem nfold_le (d : Nat) : ∀ (l : List Nat), l.foldl min d ≤ d ∧ ∀ y ∈ l, l.foldl min d ≤ y
  | [] => ⟨Nat.le_refl _, fun y h => nomatch h⟩
  | a :: r => by
    obtain ⟨h1, h2⟩ := nfold_le (min d a) r
    rw [List.foldl_cons]
    refine ⟨by omega, fun y hy => ?_⟩
    rcases List.mem_cons.mp hy with ea | hyr
    · subst ea; omega
    · exact h2 y hyr
theorem nfold_mem (d : Nat) : ∀ (l : List Nat), l.foldl min d = d ∨ l.foldl min d ∈ l
  | [] => .inl rfl
  | a :: r => by
    rw [List.foldl_cons]
    rcases nfold_mem (min d a) r with h | h
    · rw [h]
      by_cases c : d ≤ a
      · left; omega
      · right
        rw [show min d a = a by omega]
        exact List.mem_cons_self
    · exact .inr (List.mem_cons_of_mem _ h)
theorem fold_minD {d : Nat} {l : List Nat} {l' : List Int} (hl : ∀ y ∈ l, y ≤ d) (h : ∀ z, z ∈ l' ↔ ∃ n ∈ l, z = (n : Int)) : ((l.foldl min d : Nat) : Int) = minD (d : Int) l' := by
  by_cases e : l = []
  · subst e
    have e' : l' = [] := List.eq_nil_iff_forall_not_mem.mpr fun z hz => by
      obtain ⟨n, hn, _⟩ := (h z).mp hz
      cases hn
    subst e'
    rfl
  · obtain ⟨h1, h2⟩ := nfold_le d l
    have hm : l.foldl min d ∈ l := by
      rcases nfold_mem d l with q | q
      · obtain ⟨y, hy⟩ := List.exists_mem_of_ne_nil l e
        have a1 := hl y hy
        have a2 := h2 y hy
        rw [q] at a2 ⊢
        rw [show d = y by omega]
        exact hy
      · exact q
    refine (minD_eq ((h _).mpr ⟨_, hm, rfl⟩) fun z hz => ?_).symm
    obtain ⟨n, hn, rfl⟩ := (h z).mp hz
    have := h2 n hn
    omega
theorem gap_le (x : Abs) (i j : Nat) : x.gap i j ≤ x.round_ := by
  unfold Abs.gap
  dsimp only
  omega
theorem gap_apart (x : Abs) {i j : Nat} (hi : i < x.round_) (hj : j < x.round_) : apartI (i : Int) (j : Int) (x.round_ : Int) = (x.gap i j : Int) := by
  unfold Abs.gap
  dsimp only
  by_cases c : j ≤ i
  · rw [apart_of (d := (i : Int) - (j : Int)) (by omega) (by omega) (.inl rfl)]
    omega
  · rw [apart_of (d := (i : Int) - (j : Int) + x.round_) (by omega) (by omega) (.inr (by omega))]
    omega
theorem apart_left_mod (t x g : Int) : apartI (t % g) x g = apartI t x g := by
  unfold apartI
  rw [Int.sub_emod (t % g) x, Int.emod_emod_of_dvd t (Int.dvd_refl g), ← Int.sub_emod]
theorem apart_move (t p s g : Int) : apartI t (p - s) g = apartI (s + t) p g := by
  unfold apartI
  rw [show t - (p - s) = s + t - p by omega]
theorem others_lt (x : Abs) (hR : 0 < x.round_) (k : Nat) : ∀ z ∈ x.others k, z < x.round_ := fun z hz => by
  unfold Abs.others at hz
  obtain ⟨q, _, hq⟩ := List.mem_flatMap.mp hz
  unfold Abs.places at hq
  obtain ⟨s, _, rfl⟩ := List.mem_map.mp hq
  exact Nat.mod_lt _ hR
theorem places_lt (x : Abs) (hR : 0 < x.round_) (k t : Nat) : ∀ z ∈ x.places k t, z < x.round_ := fun z hz => by
  unfold Abs.places at hz
  obtain ⟨s, _, rfl⟩ := List.mem_map.mp hz
  exact Nat.mod_lt _ hR
/-- how near with a turn, against places below round -/
theorem near2_nearest (x : Abs) (hR : 0 < x.round_) (k t : Nat) {m : List Nat} (hm : ∀ z ∈ m, z < x.round_) : near2 (toP (x.ply k)).st (cI m) (t : Int) (x.round_ : Int) = (x.nearest (x.places k t) m : Int) := by
  unfold near2 Abs.nearest
  refine (fold_minD (fun y hy => ?_) fun z => ?_).symm
  · obtain ⟨i, _, hi⟩ := List.mem_flatMap.mp hy
    obtain ⟨j, _, rfl⟩ := List.mem_map.mp hi
    exact gap_le x i j
  · have key : ∀ s j : Nat, j ∈ m → apartI (t : Int) ((j : Int) - (s : Int)) (x.round_ : Int) = (x.gap ((s + t) % x.round_) j : Int) := fun s j hj => by
      rw [apart_move, ← apart_left_mod, show ((s : Int) + (t : Int)) % (x.round_ : Int) = (((s + t) % x.round_ : Nat) : Int) from by rw [Int.natCast_emod, Int.natCast_add]]
      exact gap_apart x (Nat.mod_lt _ hR) (hm j hj)
    rw [List.mem_flatMap]
    constructor
    · rintro ⟨p, hp, hz⟩
      obtain ⟨j, hj, rfl⟩ := cI_mem.mp hp
      obtain ⟨s', hs', rfl⟩ := List.mem_map.mp hz
      obtain ⟨s, hs, rfl⟩ := List.mem_map.mp (show s' ∈ (x.ply k).splices.map fun (z : Nat) => (z : Int) from hs')
      exact ⟨_, List.mem_flatMap.mpr ⟨(s + t) % x.round_, List.mem_map.mpr ⟨s, hs, rfl⟩, List.mem_map.mpr ⟨j, hj, rfl⟩⟩, key s j hj⟩
    · rintro ⟨n, hn, rfl⟩
      obtain ⟨i, hi, hn⟩ := List.mem_flatMap.mp hn
      obtain ⟨j, hj, rfl⟩ := List.mem_map.mp hn
      obtain ⟨s, hs, rfl⟩ := List.mem_map.mp (show i ∈ (x.ply k).splices.map fun s => (s + t) % x.round_ from hi)
      exact ⟨(j : Int), cI_mem.mpr ⟨j, hj, rfl⟩, List.mem_map.mpr ⟨(s : Int), List.mem_map.mpr ⟨s, hs, rfl⟩, key s j hj⟩⟩
theorem toOthers_toM (x : Abs) (hR : 0 < x.round_) (k t : Nat) : toOthers (toM x) k (t : Int) = (x.nearest (x.places k t) (x.others k) : Int) := by
  unfold toOthers
  rw [ply_toM, others_toM]
  exact near2_nearest x hR k t (others_lt x hR k)
theorem turnsOf_toM (x : Abs) (hR : 0 < x.round_) (k : Nat) : turnsOf (toM x) k = cI ((List.range x.round_).map fun t => x.nearest (x.places k t) (x.others k)) := by
  unfold turnsOf byTurns cI
  rw [List.map_map]
  show (List.range ((x.round_ : Int)).toNat).map _ = _
  rw [Int.toNat_natCast]
  refine List.map_congr_left fun t _ => ?_
  exact toOthers_toM x hR k t
theorem find_map {α : Type} {p q : α → Bool} {l : List α} (h : ∀ t ∈ l, p t = q t) : l.find? p = l.find? q := by
  induction l with
  | nil => rfl
  | cons a r ih =>
    rw [List.find?_cons, List.find?_cons, h a List.mem_cons_self, ih fun t ht => h t (List.mem_cons_of_mem _ ht)]
theorem least_toM (x : Abs) (hR : 0 < x.round_) (k : Nat) : leastTurn (toM x) k = (x.least k).map fun (t : Nat) => (t : Int) := by
  unfold leastTurn Abs.least
  show ((List.range ((x.round_ : Int)).toNat).find? _).map _ = _
  rw [Int.toNat_natCast]
  refine congrArg (Option.map fun (t : Nat) => (t : Int)) (find_map fun t _ => ?_)
  rw [toOthers_toM x hR]
  unfold Abs.fits
  show decide ((x.apart : Int) ≤ _) = _
  by_cases c : x.apart ≤ x.nearest (x.places k t) (x.others k)
  · rw [decide_eq_true c, decide_eq_true (by omega)]
  · rw [decide_eq_false c, decide_eq_false (by omega)]
/-! a ply turned -/
theorem map_modify {α β : Type} {f : α → β} {g : α → α} {g' : β → β} (h : ∀ a, f (g a) = g' (f a)) (l : List α) (k : Nat) : (l.modify k g).map f = (l.map f).modify k g' := by
  refine List.ext_getElem? fun j => ?_
  rw [List.getElem?_map]
  by_cases c : k = j
  · cases e : l[j]? with
    | none =>
      rw [modify_no e, modify_no (by rw [List.getElem?_map, e]; rfl)]
      rfl
    | some a =>
      rw [modify_at c e, modify_at c (by rw [List.getElem?_map, e]; rfl)]
      exact congrArg some (h a)
  · rw [modify_off c, modify_off c, List.getElem?_map]
theorem set_toM (x : Abs) (k t : Nat) : toM (x.set k fun z => { z with turn := t }) = setTurn (toM x) k (if t = 0 then none else some ((t : Int) - 1)) := by
  unfold toM Abs.set setTurn
  simp only
  rw [map_modify (f := toP) (g := fun z => { z with turn := t }) (g' := fun p => { p with turn := if t = 0 then none else some ((t : Int) - 1) }) fun a => rfl]
end Bp
/-! The best turn; the pieces. -/
namespace Bp
open Su65 (Abs)
theorem best_fold (f : Nat → Nat) : ∀ n, ((List.range n).foldl (fun (b : Nat × Nat) t => if b.2 < f t then (t, f t) else b) (0, f 0)).2 = f ((List.range n).foldl (fun (b : Nat × Nat) t => if b.2 < f t then (t, f t) else b) (0, f 0)).1 ∧
    (((List.range n).foldl (fun (b : Nat × Nat) t => if b.2 < f t then (t, f t) else b) (0, f 0)).1 < n ∨ ((List.range n).foldl (fun (b : Nat × Nat) t => if b.2 < f t then (t, f t) else b) (0, f 0)).1 = 0) ∧
    (∀ j, j < n → f j ≤ ((List.range n).foldl (fun (b : Nat × Nat) t => if b.2 < f t then (t, f t) else b) (0, f 0)).2) ∧ ∀ j, j < ((List.range n).foldl (fun (b : Nat × Nat) t => if b.2 < f t then (t, f t) else b) (0, f 0)).1 → f j < ((List.range n).foldl (fun (b : Nat × Nat) t => if b.2 < f t then (t, f t) else b) (0, f 0)).2
  | 0 => ⟨rfl, .inr rfl, fun j h => absurd h (Nat.not_lt_zero j), fun j h => absurd h (Nat.not_lt_zero j)⟩
  | n + 1 => by
    have ih := best_fold f n
    rw [List.range_succ, List.foldl_append]
    generalize (List.range n).foldl (fun (b : Nat × Nat) t => if b.2 < f t then (t, f t) else b) (0, f 0) = b at ih ⊢
    obtain ⟨h1, h2, h3, h4⟩ := ih
    show (if b.2 < f n then (n, f n) else b).2 = f (if b.2 < f n then (n, f n) else b).1 ∧ ((if b.2 < f n then (n, f n) else b).1 < n + 1 ∨ (if b.2 < f n then (n, f n) else b).1 = 0) ∧ (∀ j, j < n + 1 → f j ≤ (if b.2 < f n then (n, f n) else b).2) ∧ ∀ j, j < (if b.2 < f n then (n, f n) else b).1 → f j < (if b.2 < f n then (n, f n) else b).2
    by_cases c : b.2 < f n
    · rw [if_pos c]
      refine ⟨rfl, .inl (Nat.lt_succ_self _), fun j hj => ?_, fun j hj => ?_⟩
      · rcases Nat.lt_or_eq_of_le (Nat.le_of_lt_succ hj) with h | h
        · have := h3 j h
          show f j ≤ f n
          omega
        · rw [h]
          exact Nat.le_refl _
      · have := h3 j hj
        show f j < f n
        omega
    · rw [if_neg c]
      refine ⟨h1, by omega, fun j hj => ?_, h4⟩
      rcases Nat.lt_or_eq_of_le (Nat.le_of_lt_succ hj) with h | h
      · exact h3 j h
      · rw [h]
        omega
theorem mx_is {l : List Int} {v : Int} (h : v ∈ l) (hl : ∀ y ∈ l, y ≤ v) : mx l = v := by
  have key : ∀ (r : List Int) (d : Int), d ≤ v → (∀ y ∈ r, y ≤ v) → (v = d ∨ v ∈ r) → r.foldl max d = v := by
    intro r
    induction r with
    | nil =>
      intro d _ _ h
      rcases h with h | h
      · exact h.symm
      · cases h
    | cons a r ih =>
      intro d hd hr h
      rw [List.foldl_cons]
      have ha := hr a List.mem_cons_self
      refine ih _ (by omega) (fun y hy => hr y (List.mem_cons_of_mem _ hy)) ?_
      rcases h with h | h
      · left; omega
      · rcases List.mem_cons.mp h with h | h
        · left; omega
        · exact .inr h
  unfold mx
  cases l with
  | nil => cases h
  | cons a r =>
    have ha := hl a List.mem_cons_self
    show (a :: r).foldl max a = v
    exact key _ _ ha hl (.inr h)
theorem best_toM (x : Abs) (hR : 0 < x.round_) (k : Nat) : (((turnsOf (toM x) k).idxOf (mx (turnsOf (toM x) k)) : Nat) : Int) = ((x.best k).1 : Int) ∧ mx (turnsOf (toM x) k) = ((x.best k).2 : Int) := by
  rw [turnsOf_toM x hR]
  have eb : x.best k = (List.range x.round_).foldl (fun (b : Nat × Nat) t => if b.2 < x.nearest (x.places k t) (x.others k) then (t, x.nearest (x.places k t) (x.others k)) else b) (0, x.nearest (x.places k 0) (x.others k)) := rfl
  obtain ⟨h1, h2, h3, h4⟩ := best_fold (fun t => x.nearest (x.places k t) (x.others k)) x.round_
  rw [← eb] at h1 h2 h3 h4
  have hi : (x.best k).1 < x.round_ := by omega
  have hat : (cI ((List.range x.round_).map fun t => x.nearest (x.places k t) (x.others k)))[(x.best k).1]? = some ((x.best k).2 : Int) := by
    unfold cI
    rw [List.getElem?_map, List.getElem?_map, List.getElem?_range hi]
    show some ((x.nearest (x.places k (x.best k).1) (x.others k) : Nat) : Int) = _
    rw [h1]
  have hat2 : ∀ j z, (cI ((List.range x.round_).map fun t => x.nearest (x.places k t) (x.others k)))[j]? = some z → j < x.round_ ∧ z = ((x.nearest (x.places k j) (x.others k) : Nat) : Int) := fun j z hz => by
    unfold cI at hz
    rw [List.getElem?_map, List.getElem?_map] at hz
    by_cases c : j < x.round_
    · rw [List.getElem?_range c] at hz
      exact ⟨c, (Option.some.inj hz).symm⟩
    · rw [List.getElem?_eq_none (by rw [List.length_range]; omega)] at hz
      cases hz
  generalize cI ((List.range x.round_).map fun t => x.nearest (x.places k t) (x.others k)) = l at hat hat2 ⊢
  have em : mx l = ((x.best k).2 : Int) := mx_is (List.mem_of_getElem? hat) fun y hy => by
    obtain ⟨j, hj⟩ := List.mem_iff_getElem?.mp hy
    obtain ⟨a, b⟩ := hat2 j y hj
    have c : x.nearest (x.places k j) (x.others k) ≤ (x.best k).2 := h3 j a
    omega
  rw [em]
  refine ⟨?_, rfl⟩
  have hlt := (List.getElem?_eq_some_iff.mp hat).1
  have e : l.idxOf ((x.best k).2 : Int) = (x.best k).1 := by
    unfold List.idxOf
    rw [List.findIdx_eq hlt]
    refine ⟨by rw [(List.getElem?_eq_some_iff.mp hat).2]; simp, fun j hj => ?_⟩
    obtain ⟨a, b⟩ := hat2 j _ (List.getElem?_eq_getElem (Nat.lt_trans hj hlt))
    have c : x.nearest (x.places k j) (x.others k) < (x.best k).2 := h4 j hj
    rw [b, beq_eq_false_iff_ne]
    omega
  rw [e]
/-! pieces -/
theorem covered_toM (x : Abs) (w : Nat) : coveredI (w : Int) (x.a : Int) (x.c : Int) = (x.piece w : Int) := by
  unfold coveredI Abs.piece
  rw [Int.natCast_ediv, Int.natCast_mul]
theorem taken_toM (x : Abs) (ha : 1 ≤ x.a) (w : Nat) : takenI (w : Int) (x.a : Int) (x.c : Int) = (x.takes w : Int) := by
  unfold takenI Abs.takes
  rw [Int.natCast_ediv]
  congr 1
  rw [← Int.natCast_mul]
  omega
theorem starts_rep (c : Nat) : ∀ (n : Nat) (z : Nat), startsFrom (z : Int) (List.replicate n (c : Int)) = cI ((List.range n).map fun i => z + i * c)
  | 0, z => rfl
  | n + 1, z => by
    rw [List.replicate_succ', startsFrom_append, starts_rep c n z, List.range_succ, List.map_append, cI_append]
    congr 1
    show [(z : Int) + (List.replicate n (c : Int)).sum] = [((z + n * c : Nat) : Int)]
    rw [List.sum_replicate_int, Int.natCast_add, Int.natCast_mul]
theorem cut_pieces (x : Abs) (hR : 1 ≤ x.round_) (hs : 1 ≤ x.short) {c : Nat} (hc : 1 ≤ c) : match x.cut c with
    | none => piecesI (c : Int) (x.round_ : Int) (x.short : Int) = []
    | some l => piecesI (c : Int) (x.round_ : Int) (x.short : Int) ≠ [] ∧ startsFrom 0 (piecesI (c : Int) (x.round_ : Int) (x.short : Int)) = cI l ∧ (piecesI (c : Int) (x.round_ : Int) (x.short : Int)).length = l.length ∧
        (piecesI (c : Int) (x.round_ : Int) (x.short : Int)).getLastD 0 = ((x.round_ - l.getLastD 0 : Nat) : Int) ∧ (∀ z ∈ l, z < x.round_) ∧ l ≠ [] := by
  have ew : ((x.round_ : Int) - 1) / (c : Int) = (((x.round_ - 1) / c : Nat) : Int) := by
    rw [Int.natCast_ediv]
    congr 1
    omega
  have em : x.many c = (x.round_ - 1) / c + 1 := by
    unfold Abs.many
    rw [show x.round_ + c - 1 = (x.round_ - 1) + c by omega, Nat.add_div_right _ (by omega)]
  have hle : (x.round_ - 1) / c * c ≤ x.round_ - 1 := Nat.div_mul_le_self _ _
  have hcut : x.cut c = (if (x.round_ - 1) / c + 1 ≤ 1 then some [0] else if x.short ≤ x.round_ - ((x.round_ - 1) / c + 1 - 1) * c then some ((List.range ((x.round_ - 1) / c + 1)).map fun i => i * c)
      else if x.round_ - x.short < ((x.round_ - 1) / c + 1 - 2) * c + x.short then none else some (((List.range ((x.round_ - 1) / c + 1)).map fun i => i * c).dropLast ++ [x.round_ - x.short])) := by
    unfold Abs.cut
    simp only [em]
  have hp : piecesI (c : Int) (x.round_ : Int) (x.short : Int) = (if (((x.round_ - 1) / c : Nat) : Int) = 0 ∨ (x.short : Int) - ((x.round_ : Int) - (((x.round_ - 1) / c * c : Nat) : Int)) ≤ 0 then List.replicate ((x.round_ - 1) / c) (c : Int) ++ [(x.round_ : Int) - (((x.round_ - 1) / c * c : Nat) : Int)]
      else if (c : Int) - ((x.short : Int) - ((x.round_ : Int) - (((x.round_ - 1) / c * c : Nat) : Int))) < (x.short : Int) then [] else List.replicate ((x.round_ - 1) / c - 1) (c : Int) ++ [(c : Int) - ((x.short : Int) - ((x.round_ : Int) - (((x.round_ - 1) / c * c : Nat) : Int))), (x.short : Int)]) := by
    unfold piecesI
    simp only [ew, ← Int.natCast_mul, Int.toNat_natCast]
  rw [hp, hcut]
  clear hp hcut em ew
  generalize (x.round_ - 1) / c = wh at hle ⊢
  by_cases h0 : wh = 0
  · subst h0
    rw [if_pos (by omega : 0 + 1 ≤ 1), if_pos (.inl rfl)]
    refine ⟨by simp, by simp [startsFrom, cI], by simp, by simp, fun z hz => ?_, by simp⟩
    rw [List.mem_singleton.mp hz]
    omega
  obtain ⟨v, rfl⟩ : ∃ v, wh = v + 1 := ⟨wh - 1, by omega⟩
  rw [if_neg (by omega : ¬ v + 1 + 1 ≤ 1), show v + 1 + 1 - 1 = v + 1 from rfl, show v + 1 + 1 - 2 = v from rfl, show v + 1 - 1 = v from rfl]
  have emv : (v + 1) * c = v * c + c := Nat.succ_mul v c
  have mono : ∀ i, i < v + 1 + 1 → i * c ≤ v * c + c := fun i hi => by
    have := Nat.mul_le_mul_right c (Nat.le_of_lt_succ hi)
    omega
  have r1 : ∀ n : Nat, startsFrom 0 (List.replicate n (c : Int)) = cI ((List.range n).map fun i => i * c) := fun n => by
    have := starts_rep c n 0
    rw [show startsFrom 0 (List.replicate n (c : Int)) = startsFrom ((0 : Nat) : Int) (List.replicate n (c : Int)) from rfl, this]
    refine congrArg cI (List.map_congr_left fun i _ => ?_)
    omega
  have r2 : ∀ n : Nat, (List.replicate n (c : Int)).sum = ((n * c : Nat) : Int) := fun n => by
    rw [List.sum_replicate_int, Int.natCast_mul]
  have r3 : ∀ n : Nat, (List.range (n + 1)).map (fun i => i * c) = (List.range n).map (fun i => i * c) ++ [n * c] := fun n => by
    rw [List.range_succ, List.map_append]
    rfl
  rw [emv] at hle ⊢
  by_cases h1 : x.short ≤ x.round_ - (v * c + c)
  · rw [if_pos h1, if_pos (.inr (by omega))]
    refine ⟨by simp, ?_, by simp, ?_, fun z hz => ?_, by simp⟩
    · rw [startsFrom_append, r1, r3 (v + 1), cI_append, r2]
      congr 1
      show [(0 : Int) + _] = [_]
      rw [Int.zero_add]
    · rw [r3 (v + 1)]
      simp
      rw [emv]
      omega
    · obtain ⟨i, hi, rfl⟩ := List.mem_map.mp hz
      have := mono i (List.mem_range.mp hi)
      omega
  · rw [if_neg h1]
    rw [if_neg (by omega : ¬ (((v + 1 : Nat) : Int) = 0 ∨ (x.short : Int) - ((x.round_ : Int) - ((v * c + c : Nat) : Int)) ≤ 0))]
    by_cases h2 : x.round_ - x.short < v * c + x.short
    · rw [if_pos h2]
      show (if _ then _ else _) = _
      rw [if_pos (by omega)]
    · rw [if_neg h2, if_neg (by omega : ¬ (c : Int) - ((x.short : Int) - ((x.round_ : Int) - ((v * c + c : Nat) : Int))) < (x.short : Int))]
      rw [r3 (v + 1), List.dropLast_concat]
      refine ⟨by simp, ?_, by simp, ?_, fun z hz => ?_, by simp⟩
      · rw [startsFrom_append, r1, r3 v, cI_append, cI_append, r2, List.append_assoc]
        congr 1
        show [(0 : Int) + ((v * c : Nat) : Int), (0 : Int) + ((v * c : Nat) : Int) + ((c : Int) - ((x.short : Int) - ((x.round_ : Int) - ((v * c + c : Nat) : Int))))] = [((v * c : Nat) : Int), ((x.round_ - x.short : Nat) : Int)]
        congr 2
        · omega
        · omega
      · simp
        omega
      · rcases List.mem_append.mp hz with hz | hz
        · obtain ⟨i, hi, rfl⟩ := List.mem_map.mp hz
          have := mono i (Nat.lt_succ_of_lt (List.mem_range.mp hi))
          omega
        · rw [List.mem_singleton.mp hz]
          omega
end Bp
/-! How near any two plies are: neighbours in the sorted row of all splices are enough. -/
namespace Bp
open Su65 (Abs)
theorem adj_mem {g e : Int} {ys : List (Int × Int)} : e ∈ adj g ys ↔ ∃ (t : Nat) (y z : Int × Int), ys[t]? = some y ∧ (ys.drop 1 ++ ys.take 1)[t]? = some z ∧ y.2 ≠ z.2 ∧ e = apartI y.1 z.1 g := by
  unfold adj
  rw [List.mem_map]
  constructor
  · rintro ⟨q, hq, rfl⟩
    obtain ⟨h1, h2⟩ := List.mem_filter.mp hq
    obtain ⟨t, ht⟩ := List.mem_iff_getElem?.mp h1
    obtain ⟨a, b⟩ := List.getElem?_zip_eq_some.mp ht
    exact ⟨t, q.1, q.2, a, b, by simpa using h2, rfl⟩
  · rintro ⟨t, y, z, a, b, c, rfl⟩
    exact ⟨(y, z), List.mem_filter.mpr ⟨List.mem_iff_getElem?.mpr ⟨t, List.getElem?_zip_eq_some.mpr ⟨a, b⟩⟩, by simpa using c⟩, rfl⟩
theorem next_in {ys : List (Int × Int)} {t : Nat} (h : t + 1 < ys.length) : (ys.drop 1 ++ ys.take 1)[t]? = ys[t + 1]? := by
  rw [List.getElem?_append_left (by rw [List.length_drop]; omega), List.getElem?_drop, Nat.add_comm]
theorem next_end {ys : List (Int × Int)} {t : Nat} (h : t + 1 = ys.length) : (ys.drop 1 ++ ys.take 1)[t]? = ys[0]? := by
  rw [List.getElem?_append_right (by rw [List.length_drop]; omega), List.length_drop, show t - (ys.length - 1) = 0 by omega, List.getElem?_take]
  simp
theorem next_any {ys : List (Int × Int)} {t : Nat} {z : Int × Int} (h : (ys.drop 1 ++ ys.take 1)[t]? = some z) : z ∈ ys := by
  rcases List.mem_append.mp (List.mem_of_getElem? h) with h | h
  · exact List.mem_of_mem_drop h
  · exact List.mem_of_mem_take h
theorem change {f : Nat → Int} {a : Nat} : ∀ b, a ≤ b → f a ≠ f b → ∃ t, a ≤ t ∧ t < b ∧ f t ≠ f (t + 1)
  | 0, h, hn => absurd (by rw [Nat.le_zero.mp h]) hn
  | b + 1, h, hn => by
    by_cases c : a = b + 1
    · exact absurd (by rw [c]) hn
    · by_cases d : f b = f (b + 1)
      · obtain ⟨t, h1, h2, h3⟩ := change (f := f) (a := a) b (by omega) (by rw [d]; exact hn)
        exact ⟨t, h1, by omega, h3⟩
      · exact ⟨b, by omega, by omega, d⟩
theorem apart_both {y z g : Int} (h0 : 0 ≤ y) (h1 : y ≤ z) (h2 : z < g) : apartI y z g ≤ z - y ∧ apartI y z g ≤ g - (z - y) ∧ apartI z y g ≤ z - y ∧ apartI z y g ≤ g - (z - y) ∧ apartI z y g = apartI y z g := by
  by_cases c : y = z
  · subst c
    rw [apart_of (d := 0) (by omega) (by omega) (.inl (by omega))]
    omega
  · rw [apart_of (x := y) (m := z) (d := g - (z - y)) (by omega) (by omega) (.inr (by omega)), apart_of (x := z) (m := y) (d := z - y) (by omega) (by omega) (.inl rfl)]
    omega
theorem near_adj {ys : List (Int × Int)} {g : Int} (hs : ys.Pairwise lexLe) (hr : ∀ y ∈ ys, 0 ≤ y.1 ∧ y.1 < g) {a b : Nat} {y z : Int × Int} (ha : ys[a]? = some y) (hb : ys[b]? = some z) (hab : a < b) (hn : y.2 ≠ z.2) :
    ∃ e ∈ adj g ys, e ≤ apartI y.1 z.1 g := by
  have la := (List.getElem?_eq_some_iff.mp ha).1
  have lb := (List.getElem?_eq_some_iff.mp hb).1
  have le : ∀ i j (u v : Int × Int), ys[i]? = some u → ys[j]? = some v → i ≤ j → u.1 ≤ v.1 := fun i j u v hu hv hij => by
    obtain ⟨h1, e1⟩ := List.getElem?_eq_some_iff.mp hu
    obtain ⟨h2, e2⟩ := List.getElem?_eq_some_iff.mp hv
    rcases Nat.lt_or_eq_of_le hij with c | c
    · have := List.pairwise_iff_getElem.mp hs i j h1 h2 c
      rw [e1, e2] at this
      unfold lexLe at this
      omega
    · subst c
      rw [hu] at hv
      have := Option.some.inj hv
      subst this
      omega
  let f : Nat → Int := fun i => (ys.getD i (0, 0)).2
  have fv : ∀ i u, ys[i]? = some u → f i = u.2 := fun i u hu => by
    show (ys.getD i (0, 0)).2 = u.2
    rw [List.getD_eq_getElem?_getD, hu]
    rfl
  have there : ∀ i, i < ys.length → ∃ u, ys[i]? = some u := fun i hi => ⟨_, List.getElem?_eq_getElem hi⟩
  have hy := hr y (List.mem_of_getElem? ha)
  have hz := hr z (List.mem_of_getElem? hb)
  have hyz := le a b y z ha hb (by omega)
  -- a change between two neighbours
  have step : ∀ t, t + 1 < ys.length → f t ≠ f (t + 1) → ∃ u v, ys[t]? = some u ∧ ys[t + 1]? = some v ∧ apartI u.1 v.1 g ∈ adj g ys ∧ apartI u.1 v.1 g ≤ v.1 - u.1 ∧ 0 ≤ u.1 ∧ v.1 < g := fun t ht hf => by
    obtain ⟨u, hu⟩ := there t (by omega)
    obtain ⟨v, hv⟩ := there (t + 1) ht
    have ru := hr u (List.mem_of_getElem? hu)
    have rv := hr v (List.mem_of_getElem? hv)
    have huv := le t (t + 1) u v hu hv (by omega)
    rw [fv t u hu, fv (t + 1) v hv] at hf
    exact ⟨u, v, hu, hv, adj_mem.mpr ⟨t, u, v, hu, by rw [next_in ht]; exact hv, hf, rfl⟩, (apart_both ru.1 huv rv.2).1, ru.1, rv.2⟩
  have hab' : f a ≠ f b := by rw [fv a y ha, fv b z hb]; exact hn
  have way : apartI y.1 z.1 g = z.1 - y.1 ∨ apartI y.1 z.1 g = g - (z.1 - y.1) := by
    by_cases c : y.1 = z.1
    · left
      rw [apart_of (d := 0) (by omega) (by omega) (.inl (by omega))]
      omega
    · rw [apart_of (d := g - (z.1 - y.1)) (by omega) (by omega) (.inr (by omega))]
      omega
  rcases way with e | e
  · obtain ⟨t, h1, h2, h3⟩ := change b (Nat.le_of_lt hab) hab'
    obtain ⟨u, v, hu, hv, hm, hl, _, _⟩ := step t (by omega) h3
    have := le a t y u ha hu h1
    have := le (t + 1) b v z hv hb (by omega)
    exact ⟨_, hm, by omega⟩
  · have hlast : ys.length - 1 + 1 = ys.length := by omega
    obtain ⟨lst, hls⟩ := there (ys.length - 1) (by omega)
    obtain ⟨fst, hfs⟩ := there 0 (by omega)
    have h1 := le b (ys.length - 1) z lst hb hls (by omega)
    have h2 := le 0 a fst y hfs ha (by omega)
    have r1 := hr lst (List.mem_of_getElem? hls)
    have r2 := hr fst (List.mem_of_getElem? hfs)
    by_cases c1 : f b = f (ys.length - 1)
    · by_cases c2 : f 0 = f a
      · have hne : lst.2 ≠ fst.2 := by
          rw [← fv _ _ hls, ← fv _ _ hfs, c2, ← c1]
          exact hab'.symm
        refine ⟨apartI lst.1 fst.1 g, adj_mem.mpr ⟨ys.length - 1, lst, fst, hls, by rw [next_end hlast]; exact hfs, hne, rfl⟩, ?_⟩
        have := (apart_both r2.1 (by omega : fst.1 ≤ lst.1) r1.2).2.2.2.1
        omega
      · obtain ⟨t, h3, h4, h5⟩ := change a (Nat.zero_le _) c2
        obtain ⟨u, v, hu, hv, hm, hl, _, _⟩ := step t (by omega) h5
        have := le 0 t fst u hfs hu h3
        have := le (t + 1) a v y hv ha (by omega)
        exact ⟨_, hm, by omega⟩
    · obtain ⟨t, h3, h4, h5⟩ := change (ys.length - 1) (by omega) c1
      obtain ⟨u, v, hu, hv, hm, hl, _, _⟩ := step t (by omega) h5
      have := le b t z u hb hu h3
      exact ⟨_, hm, by omega⟩
theorem marks_mem (x : Abs) {ks : List Nat} {z l : Int} : (z, l) ∈ marksUp (toM x).plies (x.round_ : Int) ks ↔ ∃ k ∈ ks, ∃ n ∈ x.places k ((x.ply k).turn - 1), z = (n : Int) ∧ l = (k : Int) := by
  unfold marksUp
  rw [List.mem_flatMap]
  constructor
  · rintro ⟨k, hk, h⟩
    obtain ⟨z', hz, e⟩ := List.mem_map.mp h
    rw [show plAt (toM x).plies k = toP (x.ply k) from plAt_toP x k, places_toP] at hz
    obtain ⟨n, hn, rfl⟩ := cI_mem.mp hz
    injection e with e1 e2
    exact ⟨k, hk, n, hn, e1.symm, e2.symm⟩
  · rintro ⟨k, hk, n, hn, rfl, rfl⟩
    refine ⟨k, hk, List.mem_map.mpr ⟨(n : Int), ?_, rfl⟩⟩
    rw [show plAt (toM x).plies k = toP (x.ply k) from plAt_toP x k, places_toP]
    exact cI_mem.mpr ⟨n, hn, rfl⟩
theorem least2_le (x : Abs) {p q : Nat} (hp : p ∈ x.laid) (hq : q ∈ x.laid) (hpq : q ≠ p) {i j : Nat} (hi : i ∈ x.places p ((x.ply p).turn - 1)) (hj : j ∈ x.places q ((x.ply q).turn - 1)) : x.least2 ≤ x.gap i j := by
  unfold Abs.least2
  have h1 := (nfold_le x.round_ (x.laid.map fun p => x.nearest (x.places p ((x.ply p).turn - 1)) (x.others p))).2 _ (List.mem_map.mpr ⟨p, hp, rfl⟩)
  have h2 : x.nearest (x.places p ((x.ply p).turn - 1)) (x.others p) ≤ x.gap i j := by
    unfold Abs.nearest
    refine (nfold_le x.round_ _).2 _ (List.mem_flatMap.mpr ⟨i, hi, List.mem_map.mpr ⟨j, ?_, rfl⟩⟩)
    unfold Abs.others
    exact List.mem_flatMap.mpr ⟨q, List.mem_filter.mpr ⟨hq, by simpa using hpq⟩, hj⟩
  omega
theorem least2_is (x : Abs) : x.least2 = x.round_ ∨ ∃ p ∈ x.laid, ∃ q ∈ x.laid, q ≠ p ∧ ∃ i ∈ x.places p ((x.ply p).turn - 1), ∃ j ∈ x.places q ((x.ply q).turn - 1), x.least2 = x.gap i j := by
  rcases nfold_mem x.round_ (x.laid.map fun p => x.nearest (x.places p ((x.ply p).turn - 1)) (x.others p)) with h | h
  · exact .inl h
  · obtain ⟨p, hp, e⟩ := List.mem_map.mp h
    rcases nfold_mem x.round_ ((x.places p ((x.ply p).turn - 1)).flatMap fun i => (x.others p).map fun j => x.gap i j) with h2 | h2
    · exact .inl (e.symm.trans h2)
    · right
      obtain ⟨i, hi, h3⟩ := List.mem_flatMap.mp h2
      obtain ⟨j, hj, h4⟩ := List.mem_map.mp h3
      unfold Abs.others at hj
      obtain ⟨q, hq, hj⟩ := List.mem_flatMap.mp hj
      obtain ⟨hq1, hq2⟩ := List.mem_filter.mp hq
      exact ⟨p, hp, q, hq1, by simpa using hq2, i, hi, j, hj, e.symm.trans h4.symm⟩
theorem insP_perm (x : Int × Int) : ∀ l : List (Int × Int), (insP x l).Perm (x :: l)
  | [] => List.Perm.refl _
  | y :: r => by
    unfold insP
    split
    · exact List.Perm.refl _
    · exact (List.Perm.cons y (insP_perm x r)).trans (List.Perm.swap x y r)
theorem insP_sorted (x : Int × Int) : ∀ l : List (Int × Int), l.Pairwise lexLe → (insP x l).Pairwise lexLe
  | [], _ => List.pairwise_singleton _ _
  | y :: r, h => by
    obtain ⟨hy, hr⟩ := List.pairwise_cons.mp h
    unfold insP
    split
    · next c =>
      refine List.pairwise_cons.mpr ⟨fun z hz => ?_, h⟩
      rcases List.mem_cons.mp hz with e | hz
      · rw [e]
        exact c
      · have := hy z hz
        unfold lexLe at *
        omega
    · next c =>
      refine List.pairwise_cons.mpr ⟨fun z hz => ?_, insP_sorted x r hr⟩
      rcases List.mem_cons.mp ((insP_perm x r).mem_iff.mp hz) with e | hz
      · rw [e]
        unfold lexLe
        omega
      · exact hy z hz
theorem sortP_ok : ∀ l : List (Int × Int), IsSorted l (sortP l)
  | [] => ⟨List.Perm.refl _, List.Pairwise.nil⟩
  | x :: r => ⟨(insP_perm x _).trans (List.Perm.cons x (sortP_ok r).1), insP_sorted x _ (sortP_ok r).2⟩
theorem all_toM (x : Abs) (hR : 0 < x.round_) : minD (x.round_ : Int) (adj (x.round_ : Int) (sortP (marksUp (toM x).plies (x.round_ : Int) x.laid))) = (x.least2 : Int) := by
  obtain ⟨hperm, hsort⟩ := sortP_ok (marksUp (toM x).plies (x.round_ : Int) x.laid)
  generalize hys : sortP (marksUp (toM x).plies (x.round_ : Int) x.laid) = ys at hperm hsort ⊢
  have mem : ∀ y ∈ ys, ∃ k ∈ x.laid, ∃ n ∈ x.places k ((x.ply k).turn - 1), y.1 = (n : Int) ∧ y.2 = (k : Int) := fun y hy => (marks_mem x).mp (hperm.mem_iff.mp (show (y.1, y.2) ∈ ys from hy))
  have hr : ∀ y ∈ ys, 0 ≤ y.1 ∧ y.1 < (x.round_ : Int) := fun y hy => by
    obtain ⟨k, _, n, hn, e, _⟩ := mem y hy
    have := places_lt x hR _ _ n hn
    omega
  -- each neighbours' distance is one of two plies
  have low : ∀ e ∈ adj (x.round_ : Int) ys, (x.least2 : Int) ≤ e := fun e he => by
    obtain ⟨t, y, z, hy, hz, hne, rfl⟩ := adj_mem.mp he
    obtain ⟨p, hp, i, hi, e1, e2⟩ := mem y (List.mem_of_getElem? hy)
    obtain ⟨q, hq, j, hj, e3, e4⟩ := mem z (next_any hz)
    have hpq : q ≠ p := fun h => hne (by rw [e2, e4, h])
    have := least2_le x hp hq hpq hi hj
    rw [e1, e3, gap_apart x (places_lt x hR _ _ i hi) (places_lt x hR _ _ j hj)]
    omega
  -- and where two plies are so near two neighbours are no farther
  have high : ∀ p ∈ x.laid, ∀ q ∈ x.laid, q ≠ p → ∀ i ∈ x.places p ((x.ply p).turn - 1), ∀ j ∈ x.places q ((x.ply q).turn - 1), ∃ e ∈ adj (x.round_ : Int) ys, e ≤ (x.gap i j : Int) := fun p hp q hq hpq i hi j hj => by
    have m1 : ((i : Int), (p : Int)) ∈ ys := hperm.mem_iff.mpr ((marks_mem x).mpr ⟨p, hp, i, hi, rfl, rfl⟩)
    have m2 : ((j : Int), (q : Int)) ∈ ys := hperm.mem_iff.mpr ((marks_mem x).mpr ⟨q, hq, j, hj, rfl, rfl⟩)
    obtain ⟨a, ha⟩ := List.mem_iff_getElem?.mp m1
    obtain ⟨b, hb⟩ := List.mem_iff_getElem?.mp m2
    have li := places_lt x hR _ _ i hi
    have lj := places_lt x hR _ _ j hj
    have eg := gap_apart x li lj
    rcases Nat.lt_trichotomy a b with c | c | c
    · obtain ⟨e, he, hle⟩ := near_adj hsort hr ha hb c (by show (p : Int) ≠ (q : Int); omega)
      exact ⟨e, he, by rw [← eg]; exact hle⟩
    · subst c
      rw [ha] at hb
      have := Option.some.inj hb
      injection this with _ h
      omega
    · obtain ⟨e, he, hle⟩ := near_adj hsort hr hb ha c (by show (q : Int) ≠ (p : Int); omega)
      have e5 : apartI (j : Int) (i : Int) (x.round_ : Int) = (x.gap i j : Int) := by
        rw [gap_apart x lj li]
        unfold Abs.gap
        dsimp only
        omega
      exact ⟨e, he, by rw [← e5]; exact hle⟩
  have upper : ∀ e ∈ adj (x.round_ : Int) ys, e ≤ (x.round_ : Int) := fun e he => by
    obtain ⟨t, y, z, hy, hz, hne, rfl⟩ := adj_mem.mp he
    obtain ⟨p, hp, i, hi, e1, e2⟩ := mem y (List.mem_of_getElem? hy)
    obtain ⟨q, hq, j, hj, e3, e4⟩ := mem z (next_any hz)
    rw [e1, e3, gap_apart x (places_lt x hR _ _ i hi) (places_lt x hR _ _ j hj)]
    have := gap_le x i j
    omega
  rcases least2_is x with h | ⟨p, hp, q, hq, hpq, i, hi, j, hj, h⟩
  · by_cases c : adj (x.round_ : Int) ys = []
    · rw [c, h]
      rfl
    · obtain ⟨e, he⟩ := List.exists_mem_of_ne_nil _ c
      have a := low e he
      have b := upper e he
      refine minD_eq ?_ low
      rw [show (x.least2 : Int) = e by omega]
      exact he
  · obtain ⟨e, he, hle⟩ := high p hp q hq hpq i hi j hj
    have a := low e he
    refine minD_eq ?_ low
    rw [show (x.least2 : Int) = e by omega]
    exact he
end Bp
/-! The calls that change nothing, against the specification's. -/
namespace Bp
open Su65 (Abs Ans no num does)
def toMo : Su65Neutral.S → M
  | none => M0
  | some x => toM x
structure Good (x : Abs) : Prop where
  ok : Ok (toM x)
  acc : (x.rolls.map Su65.Roll.long).sum = (x.rolls.map Su65.Roll.left).sum + (x.plies.map fun p => p.splices.length * x.takes p.wide).sum
def StOk : Su65Neutral.S → Prop
  | none => True
  | some x => Good x
theorem st_cases {s : Su65Neutral.S} (h : StOk s) : toMo s = M0 ∨ Ok (toMo s) := by
  cases s with
  | none => exact .inl rfl
  | some x => exact .inr h.ok
def ans (a : Ans) : List Int := a.value :: Su65Neutral.outs a.out
structure Same20 (x : Abs) (f : M × List Int) (C : Su65.Call) : Prop where
  eq : f = (toM (does x C).1, ans (does x C).2)
  good : Good (does x C).1
  len : (ans (does x C).2).length ≤ 20
theorem Same20.of {x x' : Abs} {a : Ans} {C : Su65.Call} {f : M × List Int} (hd : does x C = (x', a)) (hf : f = (toM x', ans a)) (hg : Good x') (hl : (ans a).length ≤ 20) : Same20 x f C := by
  refine ⟨?_, ?_, ?_⟩
  · rw [hd]
    exact hf
  · rw [hd]
    exact hg
  · rw [hd]
    exact hl
theorem Good.R {x : Abs} (h : Good x) : 100 ≤ x.round_ ∧ x.round_ ≤ 1500 := by
  have := h.ok.g
  have e : (toM x).g = (x.round_ : Int) := rfl
  omega
theorem Good.R0 {x : Abs} (h : Good x) : 0 < x.round_ := by
  have := h.R
  omega
theorem hasP_toM (x : Abs) (k : Nat) : hasP (toM x) (k : Int) = x.isP k := by
  unfold hasP Abs.isP
  rw [show (toM x).plies.length = x.plies.length from List.length_map _]
  by_cases c : k < x.plies.length
  · rw [decide_eq_true c, decide_eq_true (by omega)]
  · rw [decide_eq_false c, decide_eq_false (by omega)]
theorem hasR_toM (x : Abs) (k : Nat) : hasR (toM x) (k : Int) = x.isR k := by
  unfold hasR Abs.isR
  rw [show (toM x).rolls.length = x.rolls.length from List.length_map _]
  by_cases c : k < x.rolls.length
  · rw [decide_eq_true c, decide_eq_true (by omega)]
  · rw [decide_eq_false c, decide_eq_false (by omega)]
theorem laid_iff (p : Su65.Ply) : (toP p).laid = true ↔ p.turn ≠ 0 := by
  rw [laid_toP]
  simp
theorem isW_toM (w : Nat) : isW (w : Int) = false ↔ (w = 0 ∨ 2000 < w) := by
  unfold isW
  rw [Bool.and_eq_false_iff, decide_eq_false_iff_not, decide_eq_false_iff_not]
  omega
/-- a ply of a good object -/
theorem Good.ply {x : Abs} (h : Good x) {k : Nat} (hk : k < x.plies.length) : (x.ply k).splices ≠ [] ∧ (x.ply k).splices.length ≤ 10 ∧ (∀ z ∈ (x.ply k).splices, z < x.round_) ∧ (x.ply k).turn ≤ x.round_ := by
  have hm : toP (x.ply k) ∈ (toM x).plies := by
    refine List.mem_map.mpr ⟨x.ply k, ?_, rfl⟩
    unfold Abs.ply
    rw [List.getD_eq_getElem?_getD, List.getElem?_eq_getElem hk]
    exact List.getElem_mem hk
  obtain ⟨h1, h2, h3, h4⟩ := h.ok.p _ hm
  refine ⟨fun e => h1 ?_, ?_, fun z hz => ?_, ?_⟩
  · show (x.ply k).splices.map _ = []
    rw [e]
    rfl
  · have : (toP (x.ply k)).st.length = (x.ply k).splices.length := List.length_map _
    omega
  · have := (h3 (z : Int) (List.mem_map.mpr ⟨z, hz, rfl⟩)).2
    have e : (toM x).g = (x.round_ : Int) := rfl
    omega
  · by_cases c : (x.ply k).turn = 0
    · omega
    · have := (h4 (((x.ply k).turn : Int) - 1) (by show (if (x.ply k).turn = 0 then none else some _) = _; rw [if_neg c])).2
      have e : (toM x).g = (x.round_ : Int) := rfl
      omega
theorem laid_mem {x : Abs} {k : Nat} : k ∈ x.laid ↔ k < x.plies.length ∧ (x.ply k).turn ≠ 0 := by
  unfold Abs.laid
  rw [List.mem_filter, List.mem_range]
  simp
theorem laid_len (x : Abs) (hx : Good x) : x.laid.length ≤ 12 := by
  have h1 : x.laid.length ≤ x.plies.length := by
    unfold Abs.laid
    have := List.length_filter_le (fun p => (x.ply p).turn != 0) (List.range x.plies.length)
    rwa [List.length_range] at this
  have h2 := hx.ok.pl
  have e : (toM x).plies.length = x.plies.length := List.length_map _
  omega
section
variable (x : Abs) (hx : Good x)
include hx
theorem s_least (k : Nat) : Same20 x (ro aLeast (toM x) [(k : Int)]) (.least k) := by
  have e : ro aLeast (toM x) [(k : Int)] = (toM x, if hasP (toM x) (k : Int) = false then [-2] else if (ply (toM x) k).laid = true then [-17] else match leastTurn (toM x) k with | none => [-33] | some t => [t]) := rfl
  have d : does x (.least k) = (if x.isP k = false then (x, no (-2)) else if (x.ply k).turn ≠ 0 then (x, no (-17)) else match x.least k with | none => (x, no (-33)) | some t => (x, num t [])) := rfl
  rw [e, hasP_toM, ply_toM, least_toM x hx.R0]
  by_cases c1 : x.isP k = false
  · rw [if_pos c1] at d ⊢
    exact .of d rfl hx (by decide)
  rw [if_neg c1] at d ⊢
  by_cases c2 : (x.ply k).turn ≠ 0
  · rw [if_pos c2] at d
    rw [if_pos ((laid_iff _).mpr c2)]
    exact .of d rfl hx (by decide)
  rw [if_neg c2] at d
  rw [if_neg (fun h => c2 ((laid_iff _).mp h))]
  cases c3 : x.least k with
  | none =>
    rw [c3] at d
    exact .of d rfl hx (by decide)
  | some t =>
    rw [c3] at d
    exact .of d rfl hx (by simp [ans, num, Su65Neutral.outs])
theorem others_nil (k : Nat) (hk : k < x.plies.length) : x.others k = [] ↔ x.laid.length = (if (toP (x.ply k)).laid = true then 1 else 0) := by
  have ho : x.others k = [] ↔ x.laid.filter (fun q => q != k) = [] := by
    unfold Abs.others
    constructor
    · intro h
      refine List.eq_nil_iff_forall_not_mem.mpr fun q hq => ?_
      obtain ⟨h1, h2⟩ := List.mem_filter.mp hq
      obtain ⟨h3, h4⟩ := laid_mem.mp h1
      obtain ⟨s, hs⟩ := List.exists_mem_of_ne_nil _ (hx.ply h3).1
      have : (s + ((x.ply q).turn - 1)) % x.round_ ∈ (x.laid.filter fun q => q != k).flatMap fun q => x.places q ((x.ply q).turn - 1) := List.mem_flatMap.mpr ⟨q, hq, List.mem_map.mpr ⟨s, hs, rfl⟩⟩
      rw [h] at this
      cases this
    · intro h
      rw [h]
      rfl
  have nd : x.laid.Nodup := List.Pairwise.filter _ List.nodup_range
  rw [ho]
  by_cases c : (x.ply k).turn ≠ 0
  · rw [if_pos ((laid_iff _).mpr c)]
    have hm : k ∈ x.laid := laid_mem.mpr ⟨hk, c⟩
    have e1 : x.laid.erase k = x.laid.filter (fun q => q != k) := nd.erase_eq_filter k
    rw [← e1]
    have e2 := List.length_erase_of_mem hm
    have e3 := List.length_pos_of_mem hm
    constructor
    · intro h
      rw [h] at e2
      simp at e2
      omega
    · intro h
      exact List.eq_nil_of_length_eq_zero (by omega)
  · rw [if_neg (fun h => c ((laid_iff _).mp h))]
    have e1 : x.laid.filter (fun q => q != k) = x.laid := List.filter_eq_self.mpr fun q hq => by
      have := (laid_mem.mp hq).2
      have : q ≠ k := fun e => by
        rw [e] at this
        exact c this
      simpa using this
    rw [e1]
    exact List.length_eq_zero_iff.symm
theorem s_best (k : Nat) : Same20 x (ro aBest (toM x) [(k : Int)]) (.best k) := by
  have e : ro aBest (toM x) [(k : Int)] = (toM x, if hasP (toM x) (k : Int) = false then [-2] else if (laidN (toM x).plies).length = (if (ply (toM x) k).laid = true then 1 else 0) then [-6] else [(((turnsOf (toM x) k).idxOf (mx (turnsOf (toM x) k)) : Nat) : Int), mx (turnsOf (toM x) k)]) := rfl
  have d : does x (.best k) = (if x.isP k = false then (x, no (-2)) else if x.others k = [] then (x, no (-6)) else (x, num (x.best k).1 [(x.best k).2])) := rfl
  rw [e, hasP_toM, ply_toM, laidN_toM]
  by_cases c1 : x.isP k = false
  · rw [if_pos c1] at d ⊢
    exact .of d rfl hx (by decide)
  rw [if_neg c1] at d ⊢
  have hk : k < x.plies.length := by
    cases q : x.isP k with
    | false => exact absurd q c1
    | true => exact of_decide_eq_true q
  by_cases c2 : x.others k = []
  · rw [if_pos c2] at d
    rw [if_pos ((others_nil x hx k hk).mp c2)]
    exact .of d rfl hx (by decide)
  rw [if_neg c2] at d
  rw [if_neg (fun h => c2 ((others_nil x hx k hk).mpr h))]
  obtain ⟨b1, b2⟩ := best_toM x hx.R0 k
  rw [b1, b2]
  exact .of d rfl hx (by simp [ans, num, Su65Neutral.outs])
theorem s_fits (k t : Nat) : Same20 x (ro aFits (toM x) [(k : Int), (t : Int)]) (.fits k t) := by
  have e : ro aFits (toM x) [(k : Int), (t : Int)] = (toM x, if hasP (toM x) (k : Int) = false then [-2] else if (x.round_ : Int) ≤ (t : Int) then [-22] else [if (x.apart : Int) ≤ toOthers (toM x) k (t : Int) then 1 else 0, toOthers (toM x) k (t : Int)]) := rfl
  have d : does x (.fits k t) = (if x.isP k = false then (x, no (-2)) else if x.round_ ≤ t then (x, no (-22)) else (x, num (Su65.bit (x.fits k t)) [x.nearest (x.places k t) (x.others k)])) := rfl
  rw [e, hasP_toM, toOthers_toM x hx.R0]
  by_cases c1 : x.isP k = false
  · rw [if_pos c1] at d ⊢
    exact .of d rfl hx (by decide)
  rw [if_neg c1] at d ⊢
  by_cases c2 : x.round_ ≤ t
  · rw [if_pos c2] at d
    rw [if_pos (by omega)]
    exact .of d rfl hx (by decide)
  rw [if_neg c2] at d
  rw [if_neg (by omega)]
  refine .of d ?_ hx (by simp [ans, num, Su65Neutral.outs])
  unfold Abs.fits Su65.bit
  by_cases c3 : x.apart ≤ x.nearest (x.places k t) (x.others k)
  · rw [if_pos (by omega), decide_eq_true c3]
    rfl
  · rw [if_neg (by omega), decide_eq_false c3]
    rfl
theorem s_near (k t : Nat) : Same20 x (ro aNear (toM x) [(k : Int), (t : Int)]) (.near k t) := by
  have e : ro aNear (toM x) [(k : Int), (t : Int)] = (toM x, if hasP (toM x) (k : Int) = false ∨ hasP (toM x) (t : Int) = false then [-2] else if (k : Int) = (t : Int) then [-22] else if (ply (toM x) k).laid = false ∨ (ply (toM x) t).laid = false then [-6] else
    [near2 (ply (toM x) k).st (placesI (x.round_ : Int) (ply (toM x) t)) ((ply (toM x) k).turn.getD 0) (x.round_ : Int)]) := rfl
  have d : does x (.near k t) = (if x.isP k = false ∨ x.isP t = false then (x, no (-2)) else if k = t then (x, no (-22)) else if (x.ply k).turn = 0 ∨ (x.ply t).turn = 0 then (x, no (-6)) else (x, num (x.nearest (x.places k ((x.ply k).turn - 1)) (x.places t ((x.ply t).turn - 1))) [])) := rfl
  rw [e, hasP_toM, hasP_toM, ply_toM, ply_toM, places_toP, turn_toP, near2_nearest x hx.R0 k _ (places_lt x hx.R0 t _)]
  by_cases c1 : x.isP k = false ∨ x.isP t = false
  · rw [if_pos c1] at d ⊢
    exact .of d rfl hx (by decide)
  rw [if_neg c1] at d ⊢
  by_cases c2 : k = t
  · rw [if_pos c2] at d
    rw [if_pos (by omega)]
    exact .of d rfl hx (by decide)
  rw [if_neg c2] at d
  rw [if_neg (by omega)]
  have el : ∀ p : Su65.Ply, (toP p).laid = false ↔ p.turn = 0 := fun p => by
    rw [laid_toP]
    simp
  by_cases c3 : (x.ply k).turn = 0 ∨ (x.ply t).turn = 0
  · rw [if_pos c3] at d
    rw [if_pos (by rw [el, el]; exact c3)]
    exact .of d rfl hx (by decide)
  · rw [if_neg c3] at d
    rw [if_neg (by rw [el, el]; exact c3)]
    exact .of d rfl hx (by simp [ans, num, Su65Neutral.outs])
theorem s_all : Same20 x (ro aAll (toM x) []) .all := by
  have e : ro aAll (toM x) [] = (toM x, minD (x.round_ : Int) (adj (x.round_ : Int) (sortP (marksUp (toM x).plies (x.round_ : Int) (laidN (toM x).plies)))) :: (laidN (toM x).plies).map fun (k : Nat) => (k : Int)) := rfl
  rw [e, laidN_toM, all_toM x hx.R0]
  refine .of (a := num x.least2 x.laid) rfl rfl hx ?_
  have := laid_len x hx
  show (_ :: x.laid.map _).length ≤ 20
  rw [List.length_cons, List.length_map]
  omega
theorem st_cI (k : Nat) : (toP (x.ply k)).st = cI (x.ply k).splices := rfl
theorem s_splices (k : Nat) : Same20 x (ro aSplices (toM x) [(k : Int)]) (.splices k) := by
  have e : ro aSplices (toM x) [(k : Int)] = (toM x, if hasP (toM x) (k : Int) = false then [-2] else ((ply (toM x) k).st.length : Int) :: (ply (toM x) k).st) := rfl
  have d : does x (.splices k) = (if x.isP k = false then (x, no (-2)) else (x, Su65.list (x.ply k).splices)) := rfl
  rw [e, hasP_toM, ply_toM, st_cI x hx, cI_length]
  by_cases c1 : x.isP k = false
  · rw [if_pos c1] at d ⊢
    exact .of d rfl hx (by decide)
  rw [if_neg c1] at d ⊢
  have hk : k < x.plies.length := by
    cases q : x.isP k with
    | false => exact absurd q c1
    | true => exact of_decide_eq_true q
  refine .of d rfl hx ?_
  have := (hx.ply hk).2.1
  show (_ :: (x.ply k).splices.map _).length ≤ 20
  rw [List.length_cons, List.length_map]
  omega
theorem s_where (k : Nat) : Same20 x (ro aWhere (toM x) [(k : Int)]) (.where_ k) := by
  have e : ro aWhere (toM x) [(k : Int)] = (toM x, if hasP (toM x) (k : Int) = false then [-2] else match (ply (toM x) k).turn with | none => [-6] | some t => t :: placesI (x.round_ : Int) (ply (toM x) k)) := rfl
  have d : does x (.where_ k) = (if x.isP k = false then (x, no (-2)) else if (x.ply k).turn = 0 then (x, no (-6)) else (x, num ((x.ply k).turn - 1) (x.places k ((x.ply k).turn - 1)))) := rfl
  rw [e, hasP_toM, ply_toM, places_toP]
  by_cases c1 : x.isP k = false
  · rw [if_pos c1] at d ⊢
    exact .of d rfl hx (by decide)
  rw [if_neg c1] at d ⊢
  have hk : k < x.plies.length := by
    cases q : x.isP k with
    | false => exact absurd q c1
    | true => exact of_decide_eq_true q
  have et : (toP (x.ply k)).turn = (if (x.ply k).turn = 0 then none else some (((x.ply k).turn : Int) - 1)) := rfl
  rw [et]
  by_cases c2 : (x.ply k).turn = 0
  · rw [if_pos c2] at d ⊢
    exact .of d rfl hx (by decide)
  rw [if_neg c2] at d ⊢
  refine .of d ?_ hx ?_
  · show (toM x, (((x.ply k).turn : Int) - 1) :: cI _) = (toM x, (((x.ply k).turn - 1 : Nat) : Int) :: cI _)
    rw [show (((x.ply k).turn : Int) - 1) = (((x.ply k).turn - 1 : Nat) : Int) by omega]
    rfl
  · have := (hx.ply hk).2.1
    show (_ :: (x.places k ((x.ply k).turn - 1)).map _).length ≤ 20
    unfold Abs.places
    rw [List.length_cons, List.length_map, List.length_map]
    omega
theorem s_look (k : Nat) : Same20 x (ro aLook (toM x) [(k : Int)]) (.look k) := by
  have e : ro aLook (toM x) [(k : Int)] = (toM x, if hasP (toM x) (k : Int) = false then [-2] else [(ply (toM x) k).src, (ply (toM x) k).wid, ((ply (toM x) k).st.length : Int), match (ply (toM x) k).turn with | none => 0 | some t => t + 1]) := rfl
  have d : does x (.look k) = (if x.isP k = false then (x, no (-2)) else (x, num (x.ply k).roll [(x.ply k).wide, (x.ply k).splices.length, (x.ply k).turn])) := rfl
  rw [e, hasP_toM, ply_toM, st_cI x hx, cI_length]
  by_cases c1 : x.isP k = false
  · rw [if_pos c1] at d ⊢
    exact .of d rfl hx (by decide)
  rw [if_neg c1] at d ⊢
  have et : (toP (x.ply k)).turn = (if (x.ply k).turn = 0 then none else some (((x.ply k).turn : Int) - 1)) := rfl
  rw [et]
  refine .of d ?_ hx (by simp [ans, num, Su65Neutral.outs])
  by_cases c2 : (x.ply k).turn = 0
  · rw [if_pos c2]
    show (toM x, [((x.ply k).roll : Int), ((x.ply k).wide : Int), ((x.ply k).splices.length : Int), 0]) = (toM x, [((x.ply k).roll : Int), ((x.ply k).wide : Int), ((x.ply k).splices.length : Int), ((x.ply k).turn : Int)])
    rw [c2]
    rfl
  · rw [if_neg c2]
    show (toM x, [((x.ply k).roll : Int), ((x.ply k).wide : Int), ((x.ply k).splices.length : Int), (((x.ply k).turn : Int) - 1) + 1]) = (toM x, [((x.ply k).roll : Int), ((x.ply k).wide : Int), ((x.ply k).splices.length : Int), ((x.ply k).turn : Int)])
    rw [Int.sub_add_cancel]
theorem s_rest (k : Nat) : Same20 x (ro aRest (toM x) [(k : Int)]) (.rest k) := by
  have e : ro aRest (toM x) [(k : Int)] = (toM x, if hasR (toM x) (k : Int) = false then [-2] else [(rAt (toM x).rolls k).left, (rAt (toM x).rolls k).w, (rAt (toM x).rolls k).l]) := rfl
  have d : does x (.rest k) = (if x.isR k = false then (x, no (-2)) else (x, num (x.roll k).left [(x.roll k).wide, (x.roll k).long])) := rfl
  rw [e, hasR_toM, rAt_toM]
  by_cases c1 : x.isR k = false
  · rw [if_pos c1] at d ⊢
    exact .of d rfl hx (by decide)
  rw [if_neg c1] at d ⊢
  exact .of d rfl hx (by simp [ans, num, Su65Neutral.outs])
theorem s_state : Same20 x (ro aState (toM x) []) .state := by
  have e : ro aState (toM x) [] = (toM x, [((laidN (toM x).plies).length : Int), ((toM x).rolls.length : Int), ((toM x).plies.length : Int), (x.round_ : Int), (x.apart : Int), (x.short : Int)]) := rfl
  rw [e, laidN_toM, show (toM x).rolls.length = x.rolls.length from List.length_map _, show (toM x).plies.length = x.plies.length from List.length_map _]
  exact .of (a := num x.laid.length [x.rolls.length, x.plies.length, x.round_, x.apart, x.short]) rfl rfl hx (by simp [ans, num, Su65Neutral.outs])
theorem sum_cast (l : List Nat) : (cI l).sum = ((l.sum : Nat) : Int) := by
  induction l with
  | nil => rfl
  | cons a r ih =>
    show (a : Int) + (cI r).sum = ((a + r.sum : Nat) : Int)
    rw [ih]
    omega
theorem s_sums : Same20 x (ro aSums (toM x) []) .sums := by
  have e : ro aSums (toM x) [] = (toM x, [0, ((toM x).rolls.map R.l).sum, ((toM x).rolls.map R.left).sum, ((toM x).rolls.map R.l).sum - ((toM x).rolls.map R.left).sum]) := rfl
  have e1 : (toM x).rolls.map R.l = cI (x.rolls.map Su65.Roll.long) := by
    unfold cI
    rw [show (toM x).rolls = x.rolls.map toR from rfl, List.map_map, List.map_map]
    rfl
  have e2 : (toM x).rolls.map R.left = cI (x.rolls.map Su65.Roll.left) := by
    unfold cI
    rw [show (toM x).rolls = x.rolls.map toR from rfl, List.map_map, List.map_map]
    rfl
  rw [e, e1, e2, sum_cast x hx, sum_cast x hx]
  refine .of (a := num 0 [(x.rolls.map Su65.Roll.long).sum, (x.rolls.map Su65.Roll.left).sum, (x.plies.map fun p => p.splices.length * x.takes p.wide).sum]) rfl ?_ hx (by simp [ans, num, Su65Neutral.outs])
  have := hx.acc
  show (toM x, [(0 : Int), _, _, _]) = (toM x, [(0 : Int), _, _, _])
  rw [show (((x.rolls.map Su65.Roll.long).sum : Nat) : Int) - (((x.rolls.map Su65.Roll.left).sum : Nat) : Int) = (((x.plies.map fun p => p.splices.length * x.takes p.wide).sum : Nat) : Int) by omega]
end
end Bp
/-! Rolls, pieces and plies cut, against the specification's. -/
namespace Bp
open Su65 (Abs Ans no num does)
theorem Good.roll {x : Abs} (h : Good x) {r : Nat} (hr : r < x.rolls.length) : 150 ≤ (x.roll r).wide ∧ (x.roll r).wide ≤ 2000 ∧ (x.roll r).left ≤ (x.roll r).long ∧ (x.roll r).long ≤ 1000000 := by
  have hm : toR (x.roll r) ∈ (toM x).rolls := by
    refine List.mem_map.mpr ⟨x.roll r, ?_, rfl⟩
    unfold Abs.roll
    rw [List.getD_eq_getElem?_getD, List.getElem?_eq_getElem hr]
    exact List.getElem_mem hr
  obtain ⟨h1, h2, h3, h4, h5⟩ := h.ok.r _ hm
  have e1 : (toR (x.roll r)).w = ((x.roll r).wide : Int) := rfl
  have e2 : (toR (x.roll r)).left = ((x.roll r).left : Int) := rfl
  have e3 : (toR (x.roll r)).l = ((x.roll r).long : Int) := rfl
  omega
theorem Good.ac {x : Abs} (h : Good x) : 1 ≤ x.a ∧ x.a < x.c := by
  have := h.ok.a
  have e1 : (toM x).a = (x.a : Int) := rfl
  have e2 : (toM x).c = (x.c : Int) := rfl
  omega
theorem Good.s {x : Abs} (h : Good x) : 1 ≤ x.short := by
  have := h.ok.s
  have e1 : (toM x).s = (x.short : Int) := rfl
  omega
theorem piece_ge {x : Abs} (h : Good x) (w : Nat) : w ≤ x.piece w := by
  have := h.ac
  unfold Abs.piece
  rw [Nat.le_div_iff_mul_le (by omega)]
  exact Nat.mul_le_mul_left w (by omega)
theorem pieces_eq {x : Abs} (w : Nat) : piecesOf (toM x) (w : Int) = piecesI (x.piece w : Int) (x.round_ : Int) (x.short : Int) := by
  unfold piecesOf
  rw [show (toM x).a = (x.a : Int) from rfl, show (toM x).c = (x.c : Int) from rfl, covered_toM]
  rfl
theorem pieces_cut {x : Abs} (h : Good x) {w : Nat} (hw : 1 ≤ w) : match x.cut (x.piece w) with
    | none => piecesOf (toM x) (w : Int) = []
    | some l => piecesOf (toM x) (w : Int) ≠ [] ∧ startsFrom 0 (piecesOf (toM x) (w : Int)) = cI l ∧ (piecesOf (toM x) (w : Int)).length = l.length ∧
        (piecesOf (toM x) (w : Int)).getLastD 0 = ((x.round_ - l.getLastD 0 : Nat) : Int) ∧ (∀ z ∈ l, z < x.round_) ∧ l ≠ [] := by
  rw [pieces_eq]
  have := piece_ge h w
  exact cut_pieces x h.R0 h.s (by omega)
theorem cut_len {x : Abs} (h : Good x) {c : Nat} (hc : 150 ≤ c) {l : List Nat} (e : x.cut c = some l) : l.length ≤ 10 := by
  have hn : x.many c ≤ 10 := by
    unfold Abs.many
    have := h.R
    have : (x.round_ + c - 1) / c < 11 := by
      rw [Nat.div_lt_iff_lt_mul (by omega)]
      omega
    omega
  unfold Abs.cut at e
  simp only at e
  by_cases c1 : x.many c ≤ 1
  · rw [if_pos c1] at e
    rw [← Option.some.inj e]
    decide
  rw [if_neg c1] at e
  by_cases c2 : x.short ≤ x.round_ - (x.many c - 1) * c
  · rw [if_pos c2] at e
    rw [← Option.some.inj e, List.length_map, List.length_range]
    exact hn
  rw [if_neg c2] at e
  by_cases c3 : x.round_ - x.short < (x.many c - 2) * c + x.short
  · rw [if_pos c3] at e
    cases e
  rw [if_neg c3] at e
  rw [← Option.some.inj e, List.length_append, List.length_dropLast, List.length_map, List.length_range]
  show x.many c - 1 + 1 ≤ 10
  omega
theorem isR_lt {x : Abs} {r : Nat} (h : ¬ x.isR r = false) : r < x.rolls.length := by
  cases q : x.isR r with
  | false => exact absurd q h
  | true => exact of_decide_eq_true q
theorem isP_lt {x : Abs} {r : Nat} (h : ¬ x.isP r = false) : r < x.plies.length := by
  cases q : x.isP r with
  | false => exact absurd q h
  | true => exact of_decide_eq_true q
section
variable (x : Abs) (hx : Good x)
include hx
theorem s_most (r w : Nat) : Same20 x (ro aMost (toM x) [(r : Int), (w : Int)]) (.most r w) := by
  have e : ro aMost (toM x) [(r : Int), (w : Int)] = (toM x, if hasR (toM x) (r : Int) = false then [-2] else if isW (w : Int) = false then [-22] else if piecesOf (toM x) (rAt (toM x).rolls r).w = [] then [-33] else
    [(rAt (toM x).rolls r).left / (((piecesOf (toM x) (rAt (toM x).rolls r).w).length : Int) * takenI (w : Int) (x.a : Int) (x.c : Int)), ((piecesOf (toM x) (rAt (toM x).rolls r).w).length : Int) * takenI (w : Int) (x.a : Int) (x.c : Int)]) := rfl
  have d : does x (.most r w) = (if x.isR r = false then (x, no (-2)) else if w = 0 ∨ 2000 < w then (x, no (-22)) else (match x.cut (x.piece (x.roll r).wide) with
    | none => (x, no (-33))
    | some l => (x, num ((x.roll r).left / (l.length * x.takes w)) [l.length * x.takes w]))) := rfl
  rw [e, hasR_toM, rAt_toM, taken_toM x hx.ac.1]
  by_cases c1 : x.isR r = false
  · rw [if_pos c1] at d ⊢
    exact .of d rfl hx (by decide)
  rw [if_neg c1] at d ⊢
  have hr := hx.roll (isR_lt c1)
  by_cases c2 : w = 0 ∨ 2000 < w
  · rw [if_pos c2] at d
    rw [if_pos ((isW_toM w).mpr c2)]
    exact .of d rfl hx (by decide)
  rw [if_neg c2] at d
  rw [if_neg (fun h => c2 ((isW_toM w).mp h))]
  have pc := pieces_cut hx (w := (x.roll r).wide) (by omega)
  rw [show (toR (x.roll r)).w = ((x.roll r).wide : Int) from rfl]
  cases c3 : x.cut (x.piece (x.roll r).wide) with
  | none =>
    rw [c3] at d pc
    rw [if_pos pc]
    exact .of d rfl hx (by decide)
  | some l =>
    rw [c3] at d pc
    rw [if_neg pc.1, pc.2.2.1]
    refine .of d ?_ hx (by simp [ans, num, Su65Neutral.outs])
    show (toM x, [((x.roll r).left : Int) / ((l.length : Int) * (x.takes w : Int)), (l.length : Int) * (x.takes w : Int)]) = (toM x, [(((x.roll r).left / (l.length * x.takes w) : Nat) : Int), ((l.length * x.takes w : Nat) : Int)])
    rw [Int.natCast_ediv, Int.natCast_mul]
theorem s_piece (w : Nat) : Same20 x (ro aPiece (toM x) [(w : Int)]) (.piece w) := by
  have e : ro aPiece (toM x) [(w : Int)] = (toM x, if isW (w : Int) = false then [-22] else if piecesOf (toM x) (w : Int) = [] then [-33] else [coveredI (w : Int) (x.a : Int) (x.c : Int), ((piecesOf (toM x) (w : Int)).length : Int), (piecesOf (toM x) (w : Int)).getLastD 0]) := rfl
  have d : does x (.piece w) = (if w = 0 ∨ 2000 < w then (x, no (-22)) else (match x.cut (x.piece w) with
    | none => (x, no (-33))
    | some l => (x, num (x.piece w) [l.length, x.round_ - l.getLastD 0]))) := rfl
  rw [e, covered_toM]
  by_cases c2 : w = 0 ∨ 2000 < w
  · rw [if_pos c2] at d
    rw [if_pos ((isW_toM w).mpr c2)]
    exact .of d rfl hx (by decide)
  rw [if_neg c2] at d
  rw [if_neg (fun h => c2 ((isW_toM w).mp h))]
  have pc := pieces_cut hx (w := w) (by omega)
  cases c3 : x.cut (x.piece w) with
  | none =>
    rw [c3] at d pc
    rw [if_pos pc]
    exact .of d rfl hx (by decide)
  | some l =>
    rw [c3] at d pc
    rw [if_neg pc.1, pc.2.2.1, pc.2.2.2.1]
    exact .of d rfl hx (by simp [ans, num, Su65Neutral.outs])
theorem near_any (p i n : Nat) (hi : i < x.round_) (hp : p ∈ x.laid) : decide (nearI (i : Int) (cI (x.places p ((x.ply p).turn - 1))) (x.round_ : Int) ≤ (n : Int)) = (x.places p ((x.ply p).turn - 1)).any fun s => decide (x.gap s i ≤ n) := by
  have hl : ∀ s ∈ x.places p ((x.ply p).turn - 1), apartI (i : Int) (s : Int) (x.round_ : Int) = (x.gap s i : Int) := fun s hs => by
    rw [gap_apart x hi (places_lt x hx.R0 _ _ s hs)]
    unfold Abs.gap
    dsimp only
    omega
  have hne : x.places p ((x.ply p).turn - 1) ≠ [] := fun h => (hx.ply (laid_mem.mp hp).1).1 (by
    unfold Abs.places at h
    exact List.map_eq_nil_iff.mp h)
  generalize x.places p ((x.ply p).turn - 1) = ps at hl hne ⊢
  rw [Bool.eq_iff_iff, decide_eq_true_eq, List.any_eq_true]
  unfold nearI
  constructor
  · intro h
    have hm : minD (x.round_ : Int) ((cI ps).map fun o => apartI (i : Int) o (x.round_ : Int)) ∈ (cI ps).map fun o => apartI (i : Int) o (x.round_ : Int) := minD_mem fun e => hne (by
      unfold cI at e
      exact List.map_eq_nil_iff.mp (List.map_eq_nil_iff.mp e))
    obtain ⟨o, ho, eo⟩ := List.mem_map.mp hm
    obtain ⟨s, hs, rfl⟩ := cI_mem.mp ho
    refine ⟨s, hs, decide_eq_true ?_⟩
    have := hl s hs
    omega
  · rintro ⟨s, hs, hd⟩
    have hd := of_decide_eq_true hd
    have hm := minD_le (d := (x.round_ : Int)) (List.mem_map.mpr ⟨(s : Int), cI_mem.mpr ⟨s, hs, rfl⟩, hl s hs⟩ : (x.gap s i : Int) ∈ (cI ps).map fun o => apartI (i : Int) o (x.round_ : Int))
    omega
theorem s_at (i n : Nat) : Same20 x (ro aAt (toM x) [(i : Int), (n : Int)]) (.at_ i n) := by
  have e : ro aAt (toM x) [(i : Int), (n : Int)] = (toM x, if (x.round_ : Int) ≤ (i : Int) then [-22] else ((atUp (toM x) (i : Int) (n : Int) (laidN (toM x).plies)).length : Int) :: (atUp (toM x) (i : Int) (n : Int) (laidN (toM x).plies)).map fun (k : Nat) => (k : Int)) := rfl
  have d : does x (.at_ i n) = (if x.round_ ≤ i then (x, no (-22)) else (x, Su65.list (x.laid.filter fun p => (x.places p ((x.ply p).turn - 1)).any fun s => decide (x.gap s i ≤ n)))) := rfl
  rw [e, laidN_toM]
  by_cases c1 : x.round_ ≤ i
  · rw [if_pos c1] at d
    rw [if_pos (by omega)]
    exact .of d rfl hx (by decide)
  rw [if_neg c1] at d
  rw [if_neg (by omega)]
  have ea : atUp (toM x) (i : Int) (n : Int) x.laid = x.laid.filter fun p => (x.places p ((x.ply p).turn - 1)).any fun s => decide (x.gap s i ≤ n) := by
    unfold atUp
    refine List.filter_congr fun p hp => ?_
    rw [show plAt (toM x).plies p = toP (x.ply p) from plAt_toP x p, show (toM x).g = (x.round_ : Int) from rfl, places_toP]
    exact near_any x hx p i n (by omega) hp
  rw [ea]
  refine .of d rfl hx ?_
  show (_ :: (List.filter _ x.laid).map _).length ≤ 20
  rw [List.length_cons, List.length_map]
  have h1 := List.length_filter_le (fun p => (x.places p ((x.ply p).turn - 1)).any fun s => decide (x.gap s i ≤ n)) x.laid
  have h2 := laid_len x hx
  omega
theorem s_roll (w l : Nat) : Same20 x (cRoll (toM x) [(w : Int), (l : Int)]) (.roll w l) := by
  have e : cRoll (toM x) [(w : Int), (l : Int)] = (if ¬ (150 ≤ (w : Int) ∧ (w : Int) ≤ 2000 ∧ 1 ≤ (l : Int) ∧ (l : Int) ≤ 1000000) then (toM x, [-22]) else if 10 ≤ (toM x).rolls.length then (toM x, [-28]) else ({ toM x with rolls := (toM x).rolls ++ [⟨w, l, l⟩] }, [((toM x).rolls.length : Int)])) := rfl
  have d : does x (.roll w l) = (if w < 150 ∨ 2000 < w ∨ l = 0 ∨ 1000000 < l then (x, no (-22)) else if 10 ≤ x.rolls.length then (x, no (-28)) else ({ x with rolls := x.rolls ++ [⟨w, l, l⟩] }, num x.rolls.length [])) := rfl
  rw [e, show (toM x).rolls.length = x.rolls.length from List.length_map _]
  by_cases c1 : w < 150 ∨ 2000 < w ∨ l = 0 ∨ 1000000 < l
  · rw [if_pos c1] at d
    rw [if_pos (by omega)]
    exact .of d rfl hx (by decide)
  rw [if_neg c1] at d
  rw [if_neg (by omega)]
  by_cases c2 : 10 ≤ x.rolls.length
  · rw [if_pos c2] at d ⊢
    exact .of d rfl hx (by decide)
  rw [if_neg c2] at d ⊢
  have em : toM { x with rolls := x.rolls ++ [⟨w, l, l⟩] } = { toM x with rolls := (toM x).rolls ++ [⟨w, l, l⟩] } := by
    unfold toM
    simp only [List.map_append]
    rfl
  refine .of d ?_ ⟨?_, ?_⟩ (by simp [ans, num, Su65Neutral.outs])
  · rw [em]
    rfl
  · rw [em]
    have o := hx.ok
    refine ⟨o.begun, o.g, o.a, o.n, o.s, ?_, o.pl, fun r hr => ?_, o.p⟩
    · show ((toM x).rolls ++ [_]).length ≤ 10
      rw [List.length_append, show (toM x).rolls.length = x.rolls.length from List.length_map _]
      show x.rolls.length + 1 ≤ 10
      omega
    · rcases List.mem_append.mp hr with hr | hr
      · exact o.r r hr
      · rw [List.mem_singleton.mp hr]
        show 150 ≤ (w : Int) ∧ (w : Int) ≤ 2000 ∧ 0 ≤ (l : Int) ∧ (l : Int) ≤ (l : Int) ∧ (l : Int) ≤ 1000000
        omega
  · show ((x.rolls ++ [_]).map Su65.Roll.long).sum = ((x.rolls ++ [_]).map Su65.Roll.left).sum + _
    have h := hx.acc
    rw [List.map_append, List.map_append, List.sum_append, List.sum_append, h]
    show _ + (l + 0) = _ + (l + 0) + _
    have et : (x.plies.map fun p => p.splices.length * (Abs.takes { x with rolls := x.rolls ++ [⟨w, l, l⟩] } p.wide)).sum = (x.plies.map fun p => p.splices.length * x.takes p.wide).sum := rfl
    rw [et]
    omega
end
theorem map_modify_one {α β : Type} {f : α → β} {g : α → α} {g' : β → β} {l : List α} {k : Nat} (h : ∀ a, l[k]? = some a → f (g a) = g' (f a)) : (l.modify k g).map f = (l.map f).modify k g' := by
  refine List.ext_getElem? fun j => ?_
  rw [List.getElem?_map]
  by_cases c : k = j
  · cases e : l[j]? with
    | none =>
      rw [modify_no e, modify_no (by rw [List.getElem?_map, e]; rfl)]
      rfl
    | some a =>
      rw [modify_at c e, modify_at c (by rw [List.getElem?_map, e]; rfl)]
      exact congrArg some (h a (by rw [c]; exact e))
  · rw [modify_off c, modify_off c, List.getElem?_map]
theorem map_modify_same {α β : Type} {h : α → β} {g : α → α} (e : ∀ a, h (g a) = h a) (l : List α) (k : Nat) : (l.modify k g).map h = l.map h := by
  refine List.ext_getElem? fun j => ?_
  rw [List.getElem?_map, List.getElem?_map]
  by_cases c : k = j
  · cases q : l[j]? with
    | none => rw [modify_no q]
    | some a =>
      rw [modify_at c q]
      exact congrArg some (e a)
  · rw [modify_off c]
theorem left_sum (N : Nat) : ∀ (l : List Su65.Roll) (k : Nat) (r : Su65.Roll), l[k]? = some r → N ≤ r.left → ((l.modify k fun z => { z with left := z.left - N }).map Su65.Roll.left).sum + N = (l.map Su65.Roll.left).sum
  | [], k, r, h, _ => by cases h
  | a :: t, 0, r, h, hN => by
    have h : a = r := Option.some.inj h
    subst h
    show (a.left - N) + (t.map Su65.Roll.left).sum + N = a.left + (t.map Su65.Roll.left).sum
    omega
  | a :: t, k + 1, r, h, hN => by
    have ih := left_sum N t k r h hN
    show a.left + ((t.modify k fun z => { z with left := z.left - N }).map Su65.Roll.left).sum + N = a.left + (t.map Su65.Roll.left).sum
    omega
end Bp
/-! Plies cut, laid, lifted; rows; begin. -/
namespace Bp
open Su65 (Abs Ans no num does)
theorem roll_at {x : Abs} {r : Nat} (hr : r < x.rolls.length) : x.rolls[r]? = some (x.roll r) := by
  unfold Abs.roll
  rw [List.getD_eq_getElem?_getD, List.getElem?_eq_getElem hr]
  rfl
theorem ply_at {x : Abs} {r : Nat} (hr : r < x.plies.length) : x.plies[r]? = some (x.ply r) := by
  unfold Abs.ply
  rw [List.getD_eq_getElem?_getD, List.getElem?_eq_getElem hr]
  rfl
section
variable (x : Abs) (hx : Good x)
include hx
theorem s_ply (r w : Nat) : Same20 x (cPly (toM x) [(r : Int), (w : Int)]) (.ply r w) := by
  have e : cPly (toM x) [(r : Int), (w : Int)] = (if hasR (toM x) (r : Int) = false then (toM x, [-2]) else if isW (w : Int) = false then (toM x, [-22]) else if 12 ≤ (toM x).plies.length then (toM x, [-28]) else
    if piecesOf (toM x) (rAt (toM x).rolls r).w = [] then (toM x, [-33]) else
    if (rAt (toM x).rolls r).left < ((piecesOf (toM x) (rAt (toM x).rolls r).w).length : Int) * takenI (w : Int) (x.a : Int) (x.c : Int) then (toM x, [-12]) else
    ({ toM x with rolls := (toM x).rolls.modify r (fun q => { q with left := q.left - ((piecesOf (toM x) (rAt (toM x).rolls r).w).length : Int) * takenI (w : Int) (x.a : Int) (x.c : Int) }), plies := (toM x).plies ++ [⟨(r : Int), (w : Int), startsFrom 0 (piecesOf (toM x) (rAt (toM x).rolls r).w), none⟩] }, [((toM x).plies.length : Int), ((piecesOf (toM x) (rAt (toM x).rolls r).w).length : Int)])) := rfl
  have d : does x (.ply r w) = (if x.isR r = false then (x, no (-2)) else if w = 0 ∨ 2000 < w then (x, no (-22)) else if 12 ≤ x.plies.length then (x, no (-28)) else (match x.cut (x.piece (x.roll r).wide) with
    | none => (x, no (-33))
    | some l => if (x.roll r).left < l.length * x.takes w then (x, no (-12)) else ({ x with rolls := x.rolls.modify r (fun z => { z with left := z.left - l.length * x.takes w }), plies := x.plies ++ [⟨r, w, l, 0⟩] }, num x.plies.length [l.length]))) := rfl
  rw [e, hasR_toM, rAt_toM, taken_toM x hx.ac.1, show (toM x).plies.length = x.plies.length from List.length_map _]
  by_cases c1 : x.isR r = false
  · rw [if_pos c1] at d ⊢
    exact .of d rfl hx (by decide)
  rw [if_neg c1] at d ⊢
  have hr := hx.roll (isR_lt c1)
  by_cases c2 : w = 0 ∨ 2000 < w
  · rw [if_pos c2] at d
    rw [if_pos ((isW_toM w).mpr c2)]
    exact .of d rfl hx (by decide)
  rw [if_neg c2] at d
  rw [if_neg (fun h => c2 ((isW_toM w).mp h))]
  by_cases c4 : 12 ≤ x.plies.length
  · rw [if_pos c4] at d ⊢
    exact .of d rfl hx (by decide)
  rw [if_neg c4] at d ⊢
  have pc := pieces_cut hx (w := (x.roll r).wide) (by omega)
  rw [show (toR (x.roll r)).w = ((x.roll r).wide : Int) from rfl, show (toR (x.roll r)).left = ((x.roll r).left : Int) from rfl]
  cases c3 : x.cut (x.piece (x.roll r).wide) with
  | none =>
    rw [c3] at d pc
    rw [if_pos pc]
    exact .of d rfl hx (by decide)
  | some l =>
    rw [c3] at d pc
    have d : does x (.ply r w) = (if (x.roll r).left < l.length * x.takes w then (x, no (-12)) else ({ x with rolls := x.rolls.modify r (fun z => { z with left := z.left - l.length * x.takes w }), plies := x.plies ++ [⟨r, w, l, 0⟩] }, num x.plies.length [l.length])) := d
    rw [if_neg pc.1, pc.2.2.1, pc.2.1, ← Int.natCast_mul]
    generalize hN : l.length * x.takes w = N at d ⊢
    by_cases c5 : (x.roll r).left < N
    · rw [if_pos c5] at d
      rw [if_pos (by omega)]
      exact .of d rfl hx (by decide)
    rw [if_neg c5] at d
    rw [if_neg (by omega)]
    have hat := roll_at (isR_lt c1)
    have em : toM { x with rolls := x.rolls.modify r (fun z => { z with left := z.left - N }), plies := x.plies ++ [⟨r, w, l, 0⟩] } = { toM x with rolls := (toM x).rolls.modify r (fun q => { q with left := q.left - (N : Int) }), plies := (toM x).plies ++ [⟨(r : Int), (w : Int), cI l, none⟩] } := by
      have e1 : (x.rolls.modify r (fun z => { z with left := z.left - N })).map toR = (x.rolls.map toR).modify r (fun q => { q with left := q.left - (N : Int) }) := map_modify_one fun a ha => by
        rw [hat] at ha
        rw [← Option.some.inj ha]
        show (⟨_, _, (((x.roll r).left - N : Nat) : Int)⟩ : R) = ⟨_, _, ((x.roll r).left : Int) - (N : Int)⟩
        rw [show (((x.roll r).left - N : Nat) : Int) = ((x.roll r).left : Int) - (N : Int) by omega]
        rfl
      unfold toM
      simp only [List.map_append, e1]
      rfl
    refine .of d ?_ ⟨?_, ?_⟩ (by simp [ans, num, Su65Neutral.outs])
    · rw [em]
      rfl
    · rw [em]
      have o := hx.ok
      refine ⟨o.begun, o.g, o.a, o.n, o.s, ?_, ?_, fun q hq => ?_, fun p hp => ?_⟩
      · show ((toM x).rolls.modify r _).length ≤ 10
        rw [List.length_modify]
        exact o.rl
      · show ((toM x).plies ++ [_]).length ≤ 12
        rw [List.length_append, show (toM x).plies.length = x.plies.length from List.length_map _]
        show x.plies.length + 1 ≤ 12
        omega
      · obtain ⟨j, hj⟩ := List.mem_iff_getElem?.mp (show q ∈ (toM x).rolls.modify r (fun q => { q with left := q.left - (N : Int) }) from hq)
        by_cases c : r = j
        · obtain ⟨p0, e0, rfl⟩ := modify_some c hj
          have op := o.r p0 (List.mem_of_getElem? e0)
          have ep : p0 = toR (x.roll r) := by
            rw [← c, show (toM x).rolls = x.rolls.map toR from rfl, List.getElem?_map, hat] at e0
            exact (Option.some.inj e0).symm
          have el : p0.left = ((x.roll r).left : Int) := by rw [ep]; rfl
          show 150 ≤ p0.w ∧ p0.w ≤ 2000 ∧ 0 ≤ p0.left - (N : Int) ∧ p0.left - (N : Int) ≤ p0.l ∧ p0.l ≤ 1000000
          omega
        · rw [modify_off c] at hj
          exact o.r q (List.mem_of_getElem? hj)
      · rcases List.mem_append.mp hp with hp | hp
        · exact o.p p hp
        · rw [List.mem_singleton.mp hp]
          refine ⟨fun h => pc.2.2.2.2.2 (List.map_eq_nil_iff.mp h), ?_, fun z hz => ?_, fun t ht => nomatch ht⟩
          · show (cI l).length ≤ 10
            rw [cI_length]
            have := piece_ge hx (x.roll r).wide
            exact cut_len hx (by omega) c3
          · obtain ⟨n, hn, rfl⟩ := cI_mem.mp hz
            have := pc.2.2.2.2.1 n hn
            show 0 ≤ (n : Int) ∧ (n : Int) < (x.round_ : Int)
            omega
    · show ((x.rolls.modify r _).map Su65.Roll.long).sum = ((x.rolls.modify r _).map Su65.Roll.left).sum + ((x.plies ++ [(⟨r, w, l, 0⟩ : Su65.Ply)]).map fun (p : Su65.Ply) => p.splices.length * x.takes p.wide).sum
      have h := hx.acc
      have h2 := left_sum N x.rolls r (x.roll r) hat (by omega)
      rw [map_modify_same (h := Su65.Roll.long) (g := fun z => { z with left := z.left - N }) (fun a => rfl), List.map_append, List.sum_append]
      show _ = _ + (_ + (l.length * x.takes w + 0))
      omega
end
theorem Good.set {x : Abs} (hx : Good x) (k : Nat) {t : Nat} (ht : t ≤ x.round_) : Good (x.set k fun z => { z with turn := t }) := by
  refine ⟨?_, ?_⟩
  · rw [set_toM]
    refine ok_setTurn hx.ok k fun z hz => ?_
    by_cases c : t = 0
    · rw [if_pos c] at hz
      cases hz
    · rw [if_neg c] at hz
      have := Option.some.inj hz
      show 0 ≤ z ∧ z < (x.round_ : Int)
      omega
  · have h := hx.acc
    show (x.rolls.map Su65.Roll.long).sum = (x.rolls.map Su65.Roll.left).sum + ((x.plies.modify k fun z => { z with turn := t }).map fun p => p.splices.length * x.takes p.wide).sum
    rw [map_modify_same (h := fun (p : Su65.Ply) => p.splices.length * x.takes p.wide) (g := fun z => { z with turn := t }) (fun a => rfl)]
    exact h
theorem filter_one {f f' : Nat → Bool} {k : Nat} (h0 : f k = false) (h1 : f' k = true) (h : ∀ j, j ≠ k → f' j = f j) : ∀ n, ((List.range n).filter f').length = ((List.range n).filter f).length + if k < n then 1 else 0
  | 0 => rfl
  | n + 1 => by
    have ih := filter_one h0 h1 h n
    rw [List.range_succ, List.filter_append, List.filter_append, List.length_append, List.length_append, ih]
    by_cases c : n = k
    · subst c
      rw [if_neg (Nat.lt_irrefl n), if_pos (Nat.lt_succ_self n), List.filter_cons_of_pos (by rw [h1]), List.filter_cons_of_neg (by rw [h0]; decide)]
      simp
    · have e : List.filter f' [n] = List.filter f [n] := by
        rw [List.filter_cons, List.filter_cons, h n c]
        rfl
      rw [e]
      by_cases d : k < n
      · rw [if_pos d, if_pos (by omega)]
        omega
      · rw [if_neg d, if_neg (by omega)]
        omega
theorem set_ply_at {x : Abs} {k t : Nat} (hk : k < x.plies.length) : ((x.set k fun z => { z with turn := t }).ply k).turn = t := by
  have e := modify_at (f := fun z : Su65.Ply => { z with turn := t }) (rfl : k = k) (ply_at hk)
  show ((x.plies.modify k fun z => { z with turn := t }).getD k _).turn = t
  rw [List.getD_eq_getElem?_getD, e]
  rfl
theorem set_ply_off {x : Abs} {k j t : Nat} (h : ¬ k = j) : (x.set k fun z => { z with turn := t }).ply j = x.ply j := by
  show (x.plies.modify k fun z => { z with turn := t }).getD j _ = x.plies.getD j _
  rw [List.getD_eq_getElem?_getD, List.getD_eq_getElem?_getD, modify_off h]
theorem laid_more {x : Abs} {k t : Nat} (hk : k < x.plies.length) (h0 : (x.ply k).turn = 0) : (x.set k fun z => { z with turn := t + 1 }).laid.length = x.laid.length + 1 := by
  have h := filter_one (f := fun p => (x.ply p).turn != 0) (f' := fun p => ((x.set k fun z => { z with turn := t + 1 }).ply p).turn != 0) (k := k) (by rw [h0]; rfl) (by rw [set_ply_at hk]; rfl) (fun j hj => by rw [set_ply_off (fun e => hj e.symm)]) x.plies.length
  rw [if_pos hk] at h
  unfold Abs.laid
  rw [show (x.set k fun z => { z with turn := t + 1 }).plies.length = x.plies.length from List.length_modify ..]
  exact h
theorem succ_turn (t : Nat) : (if t + 1 = 0 then none else some (((t + 1 : Nat) : Int) - 1)) = some (t : Int) := by
  rw [if_neg (by omega)]
  congr 1
  omega
section
variable (x : Abs) (hx : Good x)
include hx
theorem s_lay (k t : Nat) : Same20 x (cLay (toM x) [(k : Int), (t : Int)]) (.lay k t) := by
  have e : cLay (toM x) [(k : Int), (t : Int)] = (if hasP (toM x) (k : Int) = false then (toM x, [-2]) else if (x.round_ : Int) ≤ (t : Int) then (toM x, [-22]) else if (ply (toM x) k).laid = true then (toM x, [-17]) else if toOthers (toM x) k (t : Int) < (x.apart : Int) then (toM x, [-40]) else
    (setTurn (toM x) k (some (t : Int)), [((laidN (setTurn (toM x) k (some (t : Int))).plies).length : Int)])) := rfl
  have d : does x (.lay k t) = (if x.isP k = false then (x, no (-2)) else if x.round_ ≤ t then (x, no (-22)) else if (x.ply k).turn ≠ 0 then (x, no (-17)) else if x.fits k t = false then (x, no (-40)) else (x.set k fun z => { z with turn := t + 1 }, num (x.laid.length + 1) [])) := rfl
  have es := set_toM x k (t + 1)
  rw [succ_turn] at es
  rw [e, hasP_toM, toOthers_toM x hx.R0, ply_toM, ← es, laidN_toM]
  by_cases c1 : x.isP k = false
  · rw [if_pos c1] at d ⊢
    exact .of d rfl hx (by decide)
  rw [if_neg c1] at d ⊢
  by_cases c2 : x.round_ ≤ t
  · rw [if_pos c2] at d
    rw [if_pos (by omega)]
    exact .of d rfl hx (by decide)
  rw [if_neg c2] at d
  rw [if_neg (by omega)]
  by_cases c3 : (x.ply k).turn ≠ 0
  · rw [if_pos c3] at d
    rw [if_pos ((laid_iff _).mpr c3)]
    exact .of d rfl hx (by decide)
  rw [if_neg c3] at d
  rw [if_neg (fun h => c3 ((laid_iff _).mp h))]
  by_cases c4 : x.fits k t = false
  · rw [if_pos c4] at d
    unfold Abs.fits at c4
    have := of_decide_eq_false c4
    rw [if_pos (by omega)]
    exact .of d rfl hx (by decide)
  rw [if_neg c4] at d
  unfold Abs.fits at c4
  rw [decide_eq_false_iff_not] at c4
  rw [if_neg (by omega)]
  refine .of d ?_ (hx.set k (by omega)) (by simp [ans, num, Su65Neutral.outs])
  rw [laid_more (isP_lt c1) (by omega)]
  rfl
theorem s_lift (k : Nat) : Same20 x (cLift (toM x) [(k : Int)]) (.lift k) := by
  have e : cLift (toM x) [(k : Int)] = (if hasP (toM x) (k : Int) = false then (toM x, [-2]) else match (ply (toM x) k).turn with | none => (toM x, [-6]) | some t => (setTurn (toM x) k none, [t])) := rfl
  have d : does x (.lift k) = (if x.isP k = false then (x, no (-2)) else if (x.ply k).turn = 0 then (x, no (-6)) else (x.set k fun z => { z with turn := 0 }, num ((x.ply k).turn - 1) [])) := rfl
  have es := set_toM x k 0
  rw [if_pos rfl] at es
  rw [e, hasP_toM, ply_toM, ← es]
  by_cases c1 : x.isP k = false
  · rw [if_pos c1] at d ⊢
    exact .of d rfl hx (by decide)
  rw [if_neg c1] at d ⊢
  rw [show (toP (x.ply k)).turn = (if (x.ply k).turn = 0 then none else some (((x.ply k).turn : Int) - 1)) from rfl]
  by_cases c2 : (x.ply k).turn = 0
  · rw [if_pos c2] at d ⊢
    exact .of d rfl hx (by decide)
  rw [if_neg c2] at d ⊢
  refine .of d ?_ (hx.set k (Nat.zero_le _)) (by simp [ans, num, Su65Neutral.outs])
  show (toM _, [((x.ply k).turn : Int) - 1]) = (toM _, [(((x.ply k).turn - 1 : Nat) : Int)])
  rw [show ((x.ply k).turn : Int) - 1 = (((x.ply k).turn - 1 : Nat) : Int) by omega]
end
theorem row_toM : ∀ (l : List Nat) (x : Abs), Good x → rowGo (toM x) (cI l) = (x.row l).map (fun r => (toM r.1, cI r.2)) ∧ ∀ r, x.row l = some r → Good r.1 ∧ r.2.length = l.length
  | [], x, hx => ⟨rfl, fun r hr => by
    have hr : some (x, []) = some r := hr
    rw [← Option.some.inj hr]
    exact ⟨hx, rfl⟩⟩
  | k :: l, x, hx => by
    have e : rowGo (toM x) (cI (k :: l)) = (match leastTurn (toM x) k with | none => none | some t => (rowGo (setTurn (toM x) k (some t)) (cI l)).map fun (q : M × List Int) => (q.1, t :: q.2)) := rfl
    have d : x.row (k :: l) = (match x.least k with | none => none | some t => ((x.set k fun z => { z with turn := t + 1 }).row l).map fun (r : Abs × List Nat) => (r.1, t :: r.2)) := rfl
    rw [e, d, least_toM x hx.R0]
    cases c : x.least k with
    | none => exact ⟨rfl, fun r hr => nomatch hr⟩
    | some t =>
      have ht : t < x.round_ := List.mem_range.mp (List.mem_of_find?_eq_some c)
      have es := set_toM x k (t + 1)
      rw [succ_turn] at es
      obtain ⟨h1, h2⟩ := row_toM l _ (hx.set k (t := t + 1) (by omega))
      show (rowGo (setTurn (toM x) k (some (t : Int))) (cI l)).map (fun (q : M × List Int) => (q.1, (t : Int) :: q.2)) = (((x.set k fun z => { z with turn := t + 1 }).row l).map fun (r : Abs × List Nat) => (r.1, t :: r.2)).map _ ∧ ∀ r, (((x.set k fun z => { z with turn := t + 1 }).row l).map fun (r : Abs × List Nat) => (r.1, t :: r.2)) = some r → _
      rw [← es, h1]
      cases q : (x.set k fun z => { z with turn := t + 1 }).row l with
      | none => exact ⟨rfl, fun r hr => nomatch hr⟩
      | some r0 =>
        obtain ⟨h3, h4⟩ := h2 r0 q
        refine ⟨rfl, fun r hr => ?_⟩
        rw [← Option.some.inj hr]
        exact ⟨h3, by show r0.2.length + 1 = l.length + 1; rw [h4]⟩
theorem nodup_cI (l : List Nat) : (cI l).Nodup ↔ l.Nodup := by
  unfold cI List.Nodup
  rw [List.pairwise_map]
  constructor <;> intro h <;> exact h.imp fun hab e => hab (by omega)
theorem s_row (x : Abs) (hx : Good x) (l : List Nat) (hl : l.length ≤ 16) : Same20 x (cRow (toM x) (cI l)) (.row l) := by
  have e : cRow (toM x) (cI l) = (if ¬ (cI l).Nodup then (toM x, [-22]) else if ((cI l).all fun k => hasP (toM x) k) = false then (toM x, [-2]) else if ((cI l).any fun k => (ply (toM x) k.toNat).laid) = true then (toM x, [-17]) else
    match rowGo (toM x) (cI l) with
    | none => (toM x, [-33])
    | some q => (q.1, (q.2.length : Int) :: q.2)) := rfl
  have d : does x (.row l) = (if ¬ l.Nodup then (x, no (-22)) else if l.any (fun p => !(x.isP p)) then (x, no (-2)) else if l.any (fun p => (x.ply p).turn != 0) then (x, no (-17)) else (match x.row l with
    | none => (x, no (-33))
    | some r => (r.1, Su65.list r.2))) := rfl
  obtain ⟨r1, r2⟩ := row_toM l x hx
  have e1 : ((cI l).all fun k => hasP (toM x) k) = l.all fun p => x.isP p := by
    unfold cI
    rw [List.all_map]
    exact congrArg (l.all ·) (funext fun p => hasP_toM x p)
  have e2 : ((cI l).any fun k => (ply (toM x) k.toNat).laid) = l.any fun p => (x.ply p).turn != 0 := by
    unfold cI
    rw [List.any_map]
    refine congrArg (l.any ·) (funext fun p => ?_)
    show (ply (toM x) p).laid = _
    rw [ply_toM, laid_toP]
  rw [e, e1, e2, r1]
  by_cases c1 : ¬ l.Nodup
  · rw [if_pos c1] at d
    rw [if_pos (fun h => c1 ((nodup_cI l).mp h))]
    exact .of d rfl hx (by decide)
  rw [if_neg c1] at d
  rw [if_neg (fun h => c1 fun h2 => h ((nodup_cI l).mpr h2))]
  have ea : (l.any fun p => !(x.isP p)) = !(l.all fun p => x.isP p) := by
    rw [List.all_eq_not_any_not, Bool.not_not]
  rw [ea] at d
  by_cases c2 : (l.all fun p => x.isP p) = false
  · rw [if_pos (by rw [c2]; rfl)] at d
    rw [if_pos c2]
    exact .of d rfl hx (by decide)
  rw [if_neg (by rw [Bool.not_eq_false] at c2; rw [c2]; decide)] at d
  rw [if_neg c2]
  by_cases c3 : (l.any fun p => (x.ply p).turn != 0) = true
  · rw [if_pos c3] at d ⊢
    exact .of d rfl hx (by decide)
  rw [if_neg c3] at d ⊢
  cases q : x.row l with
  | none =>
    rw [q] at d
    exact .of d rfl hx (by decide)
  | some r =>
    rw [q] at d
    obtain ⟨h3, h4⟩ := r2 r q
    refine .of d ?_ h3 ?_
    · show (toM r.1, ((cI r.2).length : Int) :: cI r.2) = (toM r.1, ((r.2.length : Nat) : Int) :: cI r.2)
      rw [cI_length]
    · show (_ :: r.2.map _).length ≤ 20
      rw [List.length_cons, List.length_map]
      omega
theorem squares_lt {a b c : Nat} (hb : 0 < b) (h : a * a + b * b = c * c) : a < c := by
  rcases Nat.lt_or_ge a c with q | q
  · exact q
  · have h1 := Nat.mul_le_mul q q
    have h2 := Nat.mul_pos hb hb
    omega
/-- begin, of whatever object: as asked or left -/
theorem s_begin (m : M) (x : Abs) (a b c r n s : Nat) : (cBegin m [(a : Int), (b : Int), (c : Int), (r : Int), (n : Int), (s : Int)] = (m, [-22]) ∧ does x (.begin_ a b c r n s) = (x, no (-22))) ∨
    (cBegin m [(a : Int), (b : Int), (c : Int), (r : Int), (n : Int), (s : Int)] = (toM (Su65.new a c r n s), [0]) ∧ does x (.begin_ a b c r n s) = (Su65.new a c r n s, no 0) ∧ Good (Su65.new a c r n s)) := by
  have e : cBegin m [(a : Int), (b : Int), (c : Int), (r : Int), (n : Int), (s : Int)] = (if 0 < (a : Int) ∧ 0 < (b : Int) ∧ (c : Int) ≤ 1000 ∧ (a : Int) * (a : Int) + (b : Int) * (b : Int) = (c : Int) * (c : Int) ∧ 100 ≤ (r : Int) ∧ (r : Int) ≤ 1500 ∧ (n : Int) ≤ 500 ∧ 1 ≤ (s : Int) ∧ (s : Int) ≤ 200
    then (toM (Su65.new a c r n s), [0]) else (m, [-22])) := rfl
  have d : does x (.begin_ a b c r n s) = (if a = 0 ∨ b = 0 ∨ c = 0 ∨ 1000 < c ∨ a * a + b * b ≠ c * c ∨ r < 100 ∨ 1500 < r ∨ 500 < n ∨ s = 0 ∨ 200 < s then (x, no (-22)) else (Su65.new a c r n s, no 0)) := rfl
  rw [e, d]
  have hq : (a : Int) * (a : Int) + (b : Int) * (b : Int) = (c : Int) * (c : Int) ↔ a * a + b * b = c * c := by
    rw [← Int.natCast_mul, ← Int.natCast_mul, ← Int.natCast_mul]
    omega
  by_cases h : a = 0 ∨ b = 0 ∨ c = 0 ∨ 1000 < c ∨ a * a + b * b ≠ c * c ∨ r < 100 ∨ 1500 < r ∨ 500 < n ∨ s = 0 ∨ 200 < s
  · left
    rw [if_pos h]
    refine ⟨if_neg fun h2 => ?_, rfl⟩
    have hc : c ≠ 0 := fun z => by
      have := hq.mp h2.2.2.2.1
      have p := Nat.mul_pos (show 0 < a by omega) (show 0 < a by omega)
      rw [z] at this
      omega
    have hs := hq.mp h2.2.2.2.1
    rcases h with h | h | h | h | h | h
    · omega
    · omega
    · omega
    · omega
    · exact h hs
    · omega
  · right
    rw [if_neg h]
    have h5 : a * a + b * b = c * c := Decidable.byContradiction fun q => h (.inr (.inr (.inr (.inr (.inl q)))))
    have ha : a ≠ 0 := fun q => h (.inl q)
    have hb : b ≠ 0 := fun q => h (.inr (.inl q))
    have hc : ¬ 1000 < c := fun q => h (.inr (.inr (.inr (.inl q))))
    have h6 : ¬ (r < 100 ∨ 1500 < r ∨ 500 < n ∨ s = 0 ∨ 200 < s) := fun q => h (.inr (.inr (.inr (.inr (.inr q)))))
    have hlt := squares_lt (by omega : 0 < b) h5
    refine ⟨if_pos ⟨by omega, by omega, by omega, hq.mpr h5, by omega, by omega, by omega, by omega, by omega⟩, rfl, ⟨rfl, ?_, ?_, ?_, ?_, Nat.zero_le _, Nat.zero_le _, fun q hq => (nomatch hq), fun q hq => (nomatch hq)⟩, rfl⟩
    · show 100 ≤ (r : Int) ∧ (r : Int) ≤ 1500
      omega
    · show 0 < (a : Int) ∧ (a : Int) < (c : Int) ∧ (c : Int) ≤ 1000
      omega
    · show 0 ≤ (n : Int) ∧ (n : Int) ≤ 500
      omega
    · show 1 ≤ (s : Int) ∧ (s : Int) ≤ 200
      omega
end Bp
/-! The mirror is the specification, call by call. -/
namespace Bp
open Su65 (Abs Ans no num does)
theorem to_cI {ts : List Int} (hb : ∀ z ∈ ts, 0 ≤ z ∧ z ≤ 4294967295) : ts = cI (ts.map Int.toNat) := by
  unfold cI
  rw [List.map_map]
  refine ((List.map_congr_left fun z hz => ?_).trans (List.map_id ts)).symm
  have := (hb z hz).1
  show ((z.toNat : Nat) : Int) = z
  omega
/-- what is to be shown of a call -/
def Stepped (s : Su65Neutral.S) (k : Nat) (ts : List Int) : Prop :=
  mStep (toMo s) (k : Int) ts = (toMo (Su65Neutral.step s ((k : Int) :: ts)).1, (Su65Neutral.step s ((k : Int) :: ts)).2) ∧ StOk (Su65Neutral.step s ((k : Int) :: ts)).1 ∧ (Su65Neutral.step s ((k : Int) :: ts)).2.length ≤ 20
theorem stepped {s : Su65Neutral.S} (hs : StOk s) {k : Nat} {ts : List Int} {C : Su65.Call} (hk : k ≠ 0) (hc : Su65Neutral.callOf ((k : Int) :: ts) = some C) (h0 : Su65.step none C = (none, no (-11)))
    (h1 : ∀ x, Good x → Same20 x ((calls20.getD k (ro fun _ _ => [])) (toM x) ts) C) : Stepped s k ts := by
  have es : Su65Neutral.step s ((k : Int) :: ts) = ((Su65.step s C).1, (Su65.step s C).2.value :: Su65Neutral.outs (Su65.step s C).2.out) := by
    unfold Su65Neutral.step
    rw [hc]
  unfold Stepped
  rw [es]
  cases s with
  | none =>
    rw [h0]
    refine ⟨?_, trivial, by decide⟩
    show mStep M0 (k : Int) ts = (M0, [-11])
    unfold mStep
    exact if_pos ⟨by omega, rfl⟩
  | some x =>
    have h := h1 x hs
    have em : mStep (toM x) (k : Int) ts = (calls20.getD k (ro fun _ _ => [])) (toM x) ts := by
      unfold mStep
      rw [if_neg (fun h => by have := h.2; cases this)]
      rfl
    refine ⟨?_, h.good, h.len⟩
    show mStep (toM x) (k : Int) ts = _
    rw [em, h.eq]
    rfl
theorem begun_step {s : Su65Neutral.S} (hs : StOk s) (a b c r n t : Nat) : Stepped s 0 (cI [a, b, c, r, n, t]) := by
  have es : Su65Neutral.step s (((0 : Nat) : Int) :: cI [a, b, c, r, n, t]) = ((Su65.step s (.begin_ a b c r n t)).1, (Su65.step s (.begin_ a b c r n t)).2.value :: Su65Neutral.outs (Su65.step s (.begin_ a b c r n t)).2.out) := rfl
  have em : mStep (toMo s) ((0 : Nat) : Int) (cI [a, b, c, r, n, t]) = cBegin (toMo s) [(a : Int), (b : Int), (c : Int), (r : Int), (n : Int), (t : Int)] := by
    unfold mStep
    rw [if_neg (fun h => h.1 rfl)]
    rfl
  unfold Stepped
  rw [es, em]
  cases s with
  | none =>
    have ed : Su65.step none (.begin_ a b c r n t) = (if (does (Su65.new 1 1 100 0 1) (.begin_ a b c r n t)).2.value < 0 then none else some (does (Su65.new 1 1 100 0 1) (.begin_ a b c r n t)).1, (does (Su65.new 1 1 100 0 1) (.begin_ a b c r n t)).2) := rfl
    rw [ed]
    rcases s_begin (toMo none) (Su65.new 1 1 100 0 1) a b c r n t with ⟨h1, h2⟩ | ⟨h1, h2, h3⟩
    · rw [h1, h2]
      exact ⟨rfl, trivial, by decide⟩
    · rw [h1, h2]
      exact ⟨rfl, h3, (by decide : 1 ≤ 20)⟩
  | some x =>
    have ed : Su65.step (some x) (.begin_ a b c r n t) = (some (does x (.begin_ a b c r n t)).1, (does x (.begin_ a b c r n t)).2) := rfl
    rw [ed]
    rcases s_begin (toMo (some x)) x a b c r n t with ⟨h1, h2⟩ | ⟨h1, h2, h3⟩
    · rw [h1, h2]
      exact ⟨rfl, hs, (by decide : 1 ≤ 20)⟩
    · rw [h1, h2]
      exact ⟨rfl, h3, (by decide : 1 ≤ 20)⟩
theorem one_of {l : List Nat} (h : l.length = 1) : ∃ a, l = [a] := by
  match l, h with
  | [a], _ => exact ⟨a, rfl⟩
theorem two_of {l : List Nat} (h : l.length = 2) : ∃ a b, l = [a, b] := by
  match l, h with
  | [a, b], _ => exact ⟨a, b, rfl⟩
theorem six_of {l : List Nat} (h : l.length = 6) : ∃ a b c d e f, l = [a, b, c, d, e, f] := by
  match l, h with
  | [a, b, c, d, e, f], _ => exact ⟨a, b, c, d, e, f, rfl⟩
theorem stepped_all {s : Su65Neutral.S} (hs : StOk s) {k : Nat} {l : List Nat} (hk : k < 20) (h5 : k = 5 → l.length ≤ 16) (hn : k ≠ 5 → l.length = arity.getD k 0) : Stepped s k (cI l) := by
  match k, hk with
  | 0, _ =>
    obtain ⟨a, b, c, r, n, t, rfl⟩ := six_of (hn (by decide))
    exact begun_step hs a b c r n t
  | 1, _ =>
    obtain ⟨a, b, rfl⟩ := two_of (hn (by decide))
    exact stepped hs (C := .roll a b) (by decide) rfl rfl fun x hx => s_roll x hx a b
  | 2, _ =>
    obtain ⟨a, b, rfl⟩ := two_of (hn (by decide))
    exact stepped hs (C := .ply a b) (by decide) rfl rfl fun x hx => s_ply x hx a b
  | 3, _ =>
    obtain ⟨a, b, rfl⟩ := two_of (hn (by decide))
    exact stepped hs (C := .lay a b) (by decide) rfl rfl fun x hx => s_lay x hx a b
  | 4, _ =>
    obtain ⟨a, rfl⟩ := one_of (hn (by decide))
    exact stepped hs (C := .lift a) (by decide) rfl rfl fun x hx => s_lift x hx a
  | 5, _ =>
    exact stepped hs (C := .row l) (by decide) (by
      show some (Su65.Call.row ((cI l).map Int.toNat)) = _
      unfold cI
      rw [List.map_map]
      rw [show (Int.toNat ∘ fun (z : Nat) => (z : Int)) = id from rfl, List.map_id]) rfl fun x hx => s_row x hx l (h5 rfl)
  | 6, _ =>
    obtain ⟨a, rfl⟩ := one_of (hn (by decide))
    exact stepped hs (C := .least a) (by decide) rfl rfl fun x hx => s_least x hx a
  | 7, _ =>
    obtain ⟨a, rfl⟩ := one_of (hn (by decide))
    exact stepped hs (C := .best a) (by decide) rfl rfl fun x hx => s_best x hx a
  | 8, _ =>
    obtain ⟨a, b, rfl⟩ := two_of (hn (by decide))
    exact stepped hs (C := .fits a b) (by decide) rfl rfl fun x hx => s_fits x hx a b
  | 9, _ =>
    obtain ⟨a, b, rfl⟩ := two_of (hn (by decide))
    exact stepped hs (C := .near a b) (by decide) rfl rfl fun x hx => s_near x hx a b
  | 10, _ =>
    obtain rfl := List.eq_nil_of_length_eq_zero (hn (by decide))
    exact stepped hs (C := .all) (by decide) rfl rfl fun x hx => s_all x hx
  | 11, _ =>
    obtain ⟨a, rfl⟩ := one_of (hn (by decide))
    exact stepped hs (C := .splices a) (by decide) rfl rfl fun x hx => s_splices x hx a
  | 12, _ =>
    obtain ⟨a, rfl⟩ := one_of (hn (by decide))
    exact stepped hs (C := .where_ a) (by decide) rfl rfl fun x hx => s_where x hx a
  | 13, _ =>
    obtain ⟨a, b, rfl⟩ := two_of (hn (by decide))
    exact stepped hs (C := .most a b) (by decide) rfl rfl fun x hx => s_most x hx a b
  | 14, _ =>
    obtain ⟨a, rfl⟩ := one_of (hn (by decide))
    exact stepped hs (C := .piece a) (by decide) rfl rfl fun x hx => s_piece x hx a
  | 15, _ =>
    obtain ⟨a, rfl⟩ := one_of (hn (by decide))
    exact stepped hs (C := .look a) (by decide) rfl rfl fun x hx => s_look x hx a
  | 16, _ =>
    obtain ⟨a, rfl⟩ := one_of (hn (by decide))
    exact stepped hs (C := .rest a) (by decide) rfl rfl fun x hx => s_rest x hx a
  | 17, _ =>
    obtain ⟨a, b, rfl⟩ := two_of (hn (by decide))
    exact stepped hs (C := .at_ a b) (by decide) rfl rfl fun x hx => s_at x hx a b
  | 18, _ =>
    obtain rfl := List.eq_nil_of_length_eq_zero (hn (by decide))
    exact stepped hs (C := .sums) (by decide) rfl rfl fun x hx => s_sums x hx
  | 19, _ =>
    obtain rfl := List.eq_nil_of_length_eq_zero (hn (by decide))
    exact stepped hs (C := .state) (by decide) rfl rfl fun x hx => s_state x hx
  | k + 20, h => exact absurd h (by omega)
theorem step_ok {s : Su65Neutral.S} (hs : StOk s) {k : Nat} {ts : List Int} (hk : k < 20) (h5 : k = 5 → ts.length ≤ 16) (hn : k ≠ 5 → ts.length = arity.getD k 0) (hb : ∀ z ∈ ts, 0 ≤ z ∧ z ≤ 4294967295) :
    mStep (toMo s) (k : Int) ts = (toMo (Su65Neutral.step s ((k : Int) :: ts)).1, (Su65Neutral.step s ((k : Int) :: ts)).2) ∧ StOk (Su65Neutral.step s ((k : Int) :: ts)).1 ∧ (Su65Neutral.step s ((k : Int) :: ts)).2.length ≤ 20 := by
  have e := to_cI hb
  have el : (ts.map Int.toNat).length = ts.length := List.length_map _
  generalize ts.map Int.toNat = l at e el
  subst e
  rw [cI_length] at h5 hn
  exact stepped_all hs hk h5 hn
end Bp
/-! The line of calls as the specification reads it. -/
namespace Bp
theorem whole_one (l : List Int) : PySu65.whole [l] = [l] := by
  unfold PySu65.whole
  split <;> first | rfl | (rename_i h; cases h; rfl) | (rename_i h; injection h with h1 h2; subst h1; rfl) | (rename_i h; simp at h)
theorem shape_of {p : Int} {n k : Nat} (h : PySu65.shape p = some (n, k)) : (p = 5 ∧ n = 0 ∧ k = 1) ∨ ∃ j : Nat, p = (j : Int) ∧ j < 20 ∧ j ≠ 5 ∧ n = arity.getD j 0 ∧ k = 0 := by
  by_cases e0 : p = 0
  · subst e0
    rw [show PySu65.shape 0 = some (6, 0) from rfl] at h
    cases h
    exact .inr ⟨0, rfl, by decide, by decide, rfl, rfl⟩
  by_cases e1 : p = 1
  · subst e1
    rw [show PySu65.shape 1 = some (2, 0) from rfl] at h
    cases h
    exact .inr ⟨1, rfl, by decide, by decide, rfl, rfl⟩
  by_cases e2 : p = 2
  · subst e2
    rw [show PySu65.shape 2 = some (2, 0) from rfl] at h
    cases h
    exact .inr ⟨2, rfl, by decide, by decide, rfl, rfl⟩
  by_cases e3 : p = 3
  · subst e3
    rw [show PySu65.shape 3 = some (2, 0) from rfl] at h
    cases h
    exact .inr ⟨3, rfl, by decide, by decide, rfl, rfl⟩
  by_cases e4 : p = 4
  · subst e4
    rw [show PySu65.shape 4 = some (1, 0) from rfl] at h
    cases h
    exact .inr ⟨4, rfl, by decide, by decide, rfl, rfl⟩
  by_cases e5 : p = 5
  · subst e5
    rw [show PySu65.shape 5 = some (0, 1) from rfl] at h
    cases h
    exact .inl ⟨rfl, rfl, rfl⟩
  by_cases e6 : p = 6
  · subst e6
    rw [show PySu65.shape 6 = some (1, 0) from rfl] at h
    cases h
    exact .inr ⟨6, rfl, by decide, by decide, rfl, rfl⟩
  by_cases e7 : p = 7
  · subst e7
    rw [show PySu65.shape 7 = some (1, 0) from rfl] at h
    cases h
    exact .inr ⟨7, rfl, by decide, by decide, rfl, rfl⟩
  by_cases e8 : p = 8
  · subst e8
    rw [show PySu65.shape 8 = some (2, 0) from rfl] at h
    cases h
    exact .inr ⟨8, rfl, by decide, by decide, rfl, rfl⟩
  by_cases e9 : p = 9
  · subst e9
    rw [show PySu65.shape 9 = some (2, 0) from rfl] at h
    cases h
    exact .inr ⟨9, rfl, by decide, by decide, rfl, rfl⟩
  by_cases e10 : p = 10
  · subst e10
    rw [show PySu65.shape 10 = some (0, 0) from rfl] at h
    cases h
    exact .inr ⟨10, rfl, by decide, by decide, rfl, rfl⟩
  by_cases e11 : p = 11
  · subst e11
    rw [show PySu65.shape 11 = some (1, 0) from rfl] at h
    cases h
    exact .inr ⟨11, rfl, by decide, by decide, rfl, rfl⟩
  by_cases e12 : p = 12
  · subst e12
    rw [show PySu65.shape 12 = some (1, 0) from rfl] at h
    cases h
    exact .inr ⟨12, rfl, by decide, by decide, rfl, rfl⟩
  by_cases e13 : p = 13
  · subst e13
    rw [show PySu65.shape 13 = some (2, 0) from rfl] at h
    cases h
    exact .inr ⟨13, rfl, by decide, by decide, rfl, rfl⟩
  by_cases e14 : p = 14
  · subst e14
    rw [show PySu65.shape 14 = some (1, 0) from rfl] at h
    cases h
    exact .inr ⟨14, rfl, by decide, by decide, rfl, rfl⟩
  by_cases e15 : p = 15
  · subst e15
    rw [show PySu65.shape 15 = some (1, 0) from rfl] at h
    cases h
    exact .inr ⟨15, rfl, by decide, by decide, rfl, rfl⟩
  by_cases e16 : p = 16
  · subst e16
    rw [show PySu65.shape 16 = some (1, 0) from rfl] at h
    cases h
    exact .inr ⟨16, rfl, by decide, by decide, rfl, rfl⟩
  by_cases e17 : p = 17
  · subst e17
    rw [show PySu65.shape 17 = some (2, 0) from rfl] at h
    cases h
    exact .inr ⟨17, rfl, by decide, by decide, rfl, rfl⟩
  by_cases e18 : p = 18
  · subst e18
    rw [show PySu65.shape 18 = some (0, 0) from rfl] at h
    cases h
    exact .inr ⟨18, rfl, by decide, by decide, rfl, rfl⟩
  by_cases e19 : p = 19
  · subst e19
    rw [show PySu65.shape 19 = some (0, 0) from rfl] at h
    cases h
    exact .inr ⟨19, rfl, by decide, by decide, rfl, rfl⟩
  unfold PySu65.shape at h
  rw [if_neg e0, if_neg e1, if_neg e2, if_neg e3, if_neg e4, if_neg e5, if_neg e6, if_neg e7, if_neg e8, if_neg e9, if_neg e10, if_neg e11, if_neg e12, if_neg e13, if_neg e14, if_neg e15, if_neg e16, if_neg e17, if_neg e18, if_neg e19] at h
  cases h
theorem call_cases {p : Int} {r : List Int} {c : List (List Int)} {t : List Int} (h : PyFlat.call PySu65.shape (p :: r) = some (c, t)) :
    (p = 5 ∧ ∃ n r', r = n :: r' ∧ 0 ≤ n ∧ n.toNat ≤ r'.length ∧ c = [[5], r'.take n.toNat] ∧ t = r'.drop n.toNat) ∨
    ∃ k : Nat, p = (k : Int) ∧ k < 20 ∧ k ≠ 5 ∧ arity.getD k 0 ≤ r.length ∧ c = [p :: r.take (arity.getD k 0)] ∧ t = r.drop (arity.getD k 0) := by
  cases e : PySu65.shape p with
  | none => simp [PyFlat.call, e] at h
  | some nk =>
    obtain ⟨n, k⟩ := nk
    simp only [PyFlat.call, e] at h
    rcases shape_of e with ⟨rfl, rfl, rfl⟩ | ⟨j, rfl, h1, h2, rfl, rfl⟩
    · left
      refine ⟨rfl, ?_⟩
      rw [if_neg (by omega), List.drop_zero] at h
      cases r with
      | nil => simp [PyFlat.rows, PyFlat.row] at h
      | cons n r' =>
        by_cases c0 : 0 ≤ n ∧ n.toNat ≤ r'.length
        · have hr : PyFlat.row (n :: r') = some (r'.take n.toNat, r'.drop n.toNat) := if_pos c0
          have h1 : PyFlat.rows 1 (n :: r') = some ([r'.take n.toNat], r'.drop n.toNat) := by simp [PyFlat.rows, hr]
          rw [h1] at h
          have h2 := Option.some.inj h
          injection h2 with e1 e2
          exact ⟨n, r', rfl, c0.1, c0.2, by rw [← e1]; rfl, e2.symm⟩
        · have hr : PyFlat.row (n :: r') = none := if_neg c0
          have h1 : PyFlat.rows 1 (n :: r') = none := by simp [PyFlat.rows, hr]
          rw [h1] at h
          cases h
    · right
      by_cases c0 : r.length < arity.getD j 0
      · rw [if_pos c0] at h
        cases h
      · rw [if_neg c0] at h
        simp only [PyFlat.rows, Option.some.injEq, Prod.mk.injEq] at h
        obtain ⟨e1, e2⟩ := h
        exact ⟨j, rfl, h1, h2, by omega, e1.symm, e2.symm⟩
theorem calls_cons {f : Nat} {p : Int} {r : List Int} {cs : List (List (List Int))} (h : PyFlat.calls PySu65.shape f (p :: r) = some cs) :
    ∃ f' c t cs', cs = c :: cs' ∧ PyFlat.call PySu65.shape (p :: r) = some (c, t) ∧ PyFlat.calls PySu65.shape f' t = some cs' := by
  cases f with
  | zero =>
    unfold PyFlat.calls at h
    cases h
  | succ f =>
    unfold PyFlat.calls at h
    cases e : PyFlat.call PySu65.shape (p :: r) with
    | none =>
      rw [e] at h
      cases h
    | some ct =>
      obtain ⟨c, t⟩ := ct
      rw [e] at h
      simp only at h
      cases e2 : PyFlat.calls PySu65.shape f t with
      | none =>
        rw [e2] at h
        cases h
      | some cs' =>
        rw [e2] at h
        exact ⟨f, c, t, cs', (Option.some.inj h).symm, rfl, e2⟩
theorem calls_nil {f : Nat} {cs : List (List (List Int))} (h : PyFlat.calls PySu65.shape f [] = some cs) : cs = [] := by
  cases f <;> (unfold PyFlat.calls at h; exact (Option.some.inj h).symm)
theorem nat32 {z : Int} (h : Su65Neutral.natural z 32 = true) : 0 ≤ z ∧ z ≤ 4294967295 := by
  unfold Su65Neutral.natural at h
  rw [Bool.and_eq_true] at h
  have h1 := of_decide_eq_true h.1
  have h2 := of_decide_eq_true h.2
  omega
theorem asked_nat {p : Int} {ts : List Int} (h : Su65Neutral.asked1 (p :: ts) = true) : (p = 5 → ts.length ≤ 16) ∧ ∀ z ∈ ts, 0 ≤ z ∧ z ≤ 4294967295 := by
  unfold Su65Neutral.asked1 at h
  split at h
  · rename_i l e
    injection e with e1 e2
    subst e1 e2
    rw [Bool.and_eq_true] at h
    exact ⟨fun _ => of_decide_eq_true h.1, fun z hz => nat32 (List.all_eq_true.mp h.2 z hz)⟩
  · rename_i a b c d e f q
    injection q with e1 e2
    subst e1 e2
    exact ⟨fun q => by simp, fun z hz => nat32 (List.all_eq_true.mp h z hz)⟩
  · rename_i p' a b _ _ q
    injection q with e1 e2
    subst e1 e2
    simp only [Bool.and_eq_true] at h
    refine ⟨fun q => by simp, fun z hz => ?_⟩
    simp only [List.mem_cons, List.not_mem_nil, or_false] at hz
    rcases hz with rfl | rfl
    · exact nat32 h.2.1
    · exact nat32 h.2.2
  · rename_i p' a _ _ q
    injection q with e1 e2
    subst e1 e2
    simp only [Bool.and_eq_true] at h
    refine ⟨fun q => by simp, fun z hz => ?_⟩
    simp only [List.mem_cons, List.not_mem_nil, or_false] at hz
    subst hz
    exact nat32 h.2
  · rename_i p' _ q
    injection q with e1 e2
    subst e1 e2
    exact ⟨fun q => by simp, fun z hz => by cases hz⟩
  · cases h
end Bp
/-! Calls of builtins and of a table's entry that the program makes. -/
namespace Bp
open PySem PySem.Spec PyProof.Rows L2 RZ
section
variable {X : Cx}
theorem readsAll_ofInts {hp : Heap} : ∀ {zs : List Int} {us : List Value}, IntsAre us zs → ReadsAll hp us (zs.map .int) []
  | _, _, .nil => .nil
  | _, _, .cons z b t => ReadsAll.cons (as := []) (bs := []) (.int z b) (readsAll_ofInts t)
theorem depth_ints : ∀ zs : List Int, PyData.depthAll (zs.map PyData.int) = 0
  | [] => rfl
  | z :: t => by
    show max 0 (PyData.depthAll (t.map PyData.int)) = 0
    rw [depth_ints t]
    rfl
theorem alikeAll_ints (zs : List Int) : PySem.W.AlikeAll (zs.map PyData.int) := by
  have shape : ∀ x ∈ zs.map PyData.int, ∃ z : Int, x = .int z := fun x hx => by
    obtain ⟨z, _, e⟩ := List.mem_map.mp hx
    exact ⟨z, e.symm⟩
  refine ⟨fun x hx y hy => ?_, fun x hx e => ?_⟩
  · obtain ⟨i, rfl⟩ := shape x hx
    obtain ⟨j, rfl⟩ := shape y hy
    simp [PySem.W.alike]
  · obtain ⟨i, rfl⟩ := shape x hx
    cases e
theorem vals_are {zs : List Int} : ∀ {us : List Value}, Vals (zs.map V.int) us → IntsAre us zs := by
  induction zs with
  | nil =>
    intro us h
    cases h
    exact .nil
  | cons z t ih =>
    intro us h
    cases h with
    | cons h1 h2 =>
      rcases h1 with ⟨b, rfl⟩
      exact .cons z b (ih h2)
/-- min(xs, default=d) of a list of ints -/
def rMinD (K : PySem.W.Frag) : List V → List V → Hp → VK → Prop := fun vs zs H Q => ∃ (a : Addr) (ns : List Int) (d : Int), vs = [V.ref a] ∧ zs = [.int d] ∧ SqL K H a (ns.map V.int) ∧ Q (.int (minD d ns)) H
theorem cr_minD (hc : X.calm = true) (hu : X.A.units + 1 < cLine) : CallRK X (.builtin "min") [Str.ofString "default"] (rMinD X.K) := by
  intro pins s σ H xs zs us ws Q I r1 r2 h
  rcases h with ⟨a, ns, d, rfl, rfl, there, q⟩
  rcases vals1 r2 with ⟨u, rfl, ⟨b, rfl⟩⟩
  rw [Vals.ref1 r1]
  rcases I.list there with ⟨items, shown, isl, -⟩
  refine PySem.W.min_list_default (vs := items.toArray) (xs := ns.map PyData.int) (as := []) (I.ok.hd hc) isl.isList (by simpa using readsAll_ofInts shown.ints) (alikeAll_ints ns) (by rw [depth_ints]; exact hu) ?_ ?_
  · -- none: d
    intro e h' tk kept
    have en : ns = [] := List.map_eq_nil_iff.mp e
    subst en
    exact ⟨.int d, H, I.kept kept, ⟨b, rfl⟩, q⟩
  · intro y ys i v h' tk bs e hv rd kept
    match ns, e with
    | n :: t, e =>
      injection e with e1 e2
      subst e1 e2
      rw [PySem.W.minD_ints] at rd
      cases rd with
      | int _ k => exact ⟨.int (minD d (n :: t)), H, I.kept kept, ⟨k, rfl⟩, q⟩
/-! sorted(d) of a dict whose keys are ints, any number of them -/
/-- what was gathered of a dict's keys, where the keys are these ints -/
theorem keys_ints {α : Type} {kvs : List (Key × α)} {ks : List Int} {got : List Value} (hk : kvs.map Prod.fst = ks.map Sum.inl) (hn : got.length = kvs.length) (hg : ∀ (j : Nat) (v : Value), got[j]? = some v → ∃ k x, kvs[j]? = some (k, x) ∧ keyIs k v = true) : IntsAre got ks := by
  have hlen : kvs.length = ks.length := by
    have := congrArg List.length hk
    simpa using this
  refine ints_each (hn.trans hlen) fun j v hv => ?_
  rcases hg j v hv with ⟨k, x, at1, is1⟩
  have at2 : (ks.map Sum.inl)[j]? = some k := by
    rw [← hk, List.getElem?_map, at1]
    rfl
  rw [List.getElem?_map] at at2
  rcases hz : ks[j]? with _ | z
  · rw [hz] at at2
    cases at2
  · rw [hz] at at2
    have ek : k = Sum.inl z := (Option.some.inj at2).symm
    rw [ek] at is1
    rcases keyIs_shape is1 with ⟨i, b, e1, e2⟩ | ⟨i, b, e1, e2⟩
    · injection e1 with e1
      subst e1
      exact ⟨z, b, rfl, e2⟩
    · cases e1
/-- what holds once a list of ints laid behind all else was sorted where it stands -/
theorem sorted_inv {pins : List (Addr × Obj)} {σ : L2.St} {H : Hp} {sh : Shared} {vs out : List Value} {ks : List Int} (I : L2.Inv X pins σ H sh) (hS : IntsAre vs ks) (hn : vs.length = ks.length) (hz : ks.length ≤ sizeLine)
    (g1 : SrtO.Srtd SrtO.ltIv out) (g2 : SrtO.Stb SrtO.ltIv out vs) :
    ∃ ys : List Int, ys.Perm ks ∧ ys.Pairwise (· ≤ ·) ∧ L2.Inv X pins σ (upd H sh.heap.objs.size (.lst (ys.map V.int))) { sh with heap := sortedHeap (sh.heap.push (seqObj "list" vs.toArray 0)) sh.heap.objs.size vs out.toArray } := by
  rcases SrtO.ints_out hS g1 g2 with ⟨are, perm, rising⟩
  have at0 : (sh.heap.push (seqObj "list" vs.toArray 0)).get? sh.heap.objs.size = some (seqObj "list" vs.toArray 0) := Heap.get?_push_size _ rfl
  rcases sortedHeap_at (out := out.toArray) at0 with ⟨ep, at1⟩
  have small : ((out.map SrtO.iv).map V.int).length ≤ sizeLine := by
    have := perm.length_eq
    rw [List.length_map]
    omega
  refine ⟨out.map SrtO.iv, perm, rising, I.laid (t' := sh.toks) (fun b o e => ?_) (Nat.le_refl _) ⟨small, out, ep, vals_of_ints are, at1⟩⟩
  have lt := Heap.lt_size e
  exact (sortedHeap_old (Nat.ne_of_lt lt) (size_push' .. ▸ Nat.lt_succ_of_lt lt)).trans (Heap.get?_push_of_some _ e)
theorem cr_sortedKI (hcalm : X.calm = true) : CallR X (.builtin "sorted") (fun vs H Q => ∃ (a : Addr) (kvs : List (Key × V)) (ks : List Int), vs = [.ref a] ∧ Rd H a (.dK kvs) ∧ kvs.map Prod.fst = ks.map Sum.inl ∧ ks.length ≤ sizeLine ∧
    ∀ (zs : List Int) (new : Addr), zs.Perm ks → zs.Pairwise (· ≤ ·) → H new = none → Q (.ref new) (upd H new (.lst (zs.map V.int)))) := by
  rintro pins s σ H vs us Q I r ⟨a, kvs, ks, rfl, there, keys, few, goal⟩
  rcases vals1 r with ⟨_, rfl, rfl⟩
  rcases dk_rd I.hok there with ⟨z, look, raw, rel, dict⟩
  rcases dict.dictAt with ⟨ep, here⟩
  have rawKeys : raw.map Prod.fst = ks.map Sum.inl := rel.keys ▸ keys
  have count : raw.length = ks.length := by
    have := congrArg List.length rawKeys
    simpa using this
  have whole := args_sorted1 (.ref a)
  refine Calls.call_function_entry kind_sorted plain_sorted entry_sorted whole ?_
  clear whole
  unfold Builtin.«sorted»
  refine wpAny_bind (wpAny_pure (wpAny_bind (PySem.W.kdu_collect (A := X.A.in1) (PySem.W.kdl_dict (knd := mixKind X.prog X.w) (kvs := raw) (ep := ep) look) (I.ok.hd hcalm) here (count ▸ few) fun hp tk acc kept got => ?_)))
  have size : acc.toList.length = ks.length := by
    rw [Array.length_toList, got.1]
    exact count
  have whole : IntsAre acc.toList ks := keys_ints rawKeys (size.trans count.symm) fun j v hv => got.2 j v (by rw [← Array.getElem?_toList]; exact hv)
  refine wpAny_bind (wpAny_newList ?_ (size ▸ few))
  have at0 : (hp.push (seqObj "list" acc.toList.toArray 0)).get? hp.objs.size = some (seqObj "list" acc.toList.toArray 0) := Heap.get?_push_size _ rfl
  have sorting := fun (R : PySem.Fin → Shared → Prop) (E : Value → Shared → Prop) A => SrtO.list_sort_ord (prog := X.prog) (w := X.w) (A := A) (R := R) (E := E) (s := { s with heap := hp.push (seqObj "list" acc.toList.toArray 0), toks := tk }) SrtO.swo_int at0 (size ▸ few) (SrtO.ints_sortable whole)
  refine wpAny_bind (wpAny_holding (wpAny_call_entry slot_list_sort ⟨_, at0, rfl⟩ entry_list_sort (sorting _ _ _ fun out g1 g2 => ⟨_, rfl, ?_⟩) (args_list_sort _)))
  rcases sorted_inv (I.kept kept : L2.Inv X pins σ H { s with heap := hp, toks := tk }) whole size few g1 g2 with ⟨ys, perm, rising, I2⟩
  exact wpAny_pure ⟨_, rfl, .ref hp.objs.size, _, I2, rfl, goal ys _ perm rising ((I.kept kept : L2.Inv X pins σ H { s with heap := hp, toks := tk }).hok.fresh (Nat.le_refl _))⟩
/-! all(xs), any(xs) of a list of truth values -/
def rAllB (K : PySem.W.Frag) : List V → Hp → VK → Prop := fun vs H Q => ∃ (a : Addr) (bs : List Bool), vs = [V.ref a] ∧ SqL K H a (bs.map V.bl) ∧ Q (.bl (bs.all id)) H
def rAnyB (K : PySem.W.Frag) : List V → Hp → VK → Prop := fun vs H Q => ∃ (a : Addr) (bs : List Bool), vs = [V.ref a] ∧ SqL K H a (bs.map V.bl) ∧ Q (.bl (bs.any id)) H
theorem vals_bl {bs : List Bool} : ∀ {us : List Value}, Vals (bs.map V.bl) us → us = bs.map Value.bool := by
  induction bs with
  | nil =>
    intro us h
    cases h
    rfl
  | cons b t ih =>
    intro us h
    cases h with
    | cons h1 h2 =>
      cases h1
      rw [ih h2]
      rfl
def nth (bs : List Bool) (i : Nat) : Bool := bs.getD i false
theorem nth_map (bs : List Bool) : (List.range bs.length).map (nth bs) = bs := by
  refine List.ext_getElem (by simp [nth]) fun i h1 h2 => ?_
  simp [nth, List.getD_eq_getElem?_getD, h2]
theorem all_nth (bs : List Bool) : (List.range bs.length).all (nth bs) = bs.all id := by
  have e := List.all_map (f := nth bs) (p := id) (l := List.range bs.length)
  rw [nth_map] at e
  exact e.symm
theorem any_nth (bs : List Bool) : (List.range bs.length).any (nth bs) = bs.any id := by
  have e := List.any_map (f := nth bs) (p := id) (l := List.range bs.length)
  rw [nth_map] at e
  exact e.symm
theorem truth_nth {prog : Program} {w : World} {A : Around} (bs : List Bool) : TruthOf prog w A (fun i v => (bs.map Value.bool).toArray[i]? = some v) (nth bs) := by
  intro i v s Q E hv hq
  rw [List.getElem?_toArray, List.getElem?_map] at hv
  rcases hb : bs[i]? with _ | b
  · rw [hb] at hv
    cases hv
  · rw [hb] at hv
    have ev : v = Value.bool b := (Option.some.inj hv).symm
    have en : nth bs i = b := by
      unfold nth
      rw [List.getD_eq_getElem?_getD, hb, Option.getD_some]
    rw [en] at hq
    rw [ev]
    exact wpAny_truthy_bool hq
/-- a list of truth values walked, whatever is done with them: the object keeps what holds -/
theorem walk_bl {pins : List (Addr × Obj)} {s : Shared} {σ : L2.St} {H : Hp} {a : Addr} {bs : List Bool} {E : Value → Shared → Prop} (hc : X.calm = true) (I : L2.Inv X pins σ H s) (hs : SqL X.K H a (bs.map V.bl)) {F : Nat → (Nat → Bool) → Bool} {Q : VK} (hq : Q (.bl (F bs.length (nth bs))) H) :
    wpAny (model X.prog X.w) X.A.in1 (pyIter (.ref a)) (fun it s₂ => ∃ J fp wr n P St tr, it = .ref J ∧ Walks X.prog X.w X.A.in1 J fp wr n P St ∧ St 0 s₂.heap ∧ TruthOf X.prog X.w X.A.in1 P tr ∧
      ∀ h' tk, (∀ b o, b ∉ wr → s₂.heap.get? b = some o → h'.get? b = some o) → EP X pins σ Q (.bool (F n tr)) { s₂ with heap := h', toks := tk }) E s := by
  rcases I.list hs with ⟨its, shown, isl, -⟩
  have el := vals_bl shown
  subst el
  have la : a < s.heap.objs.size := by
    rcases isl.isList with ⟨_, e, _⟩
    exact Heap.lt_size e
  refine wpAny_pyIter_list isl.isList ⟨_, _, _, _, _, _, nth bs, rfl, Walks.list (A := X.A.in1) (I.ok.hd hc) s.heap.objs.size a (Nat.ne_of_lt la) (bs.map Value.bool).toArray, ⟨⟨_, Heap.get?_push_size _ rfl, rfl, rfl⟩, isl.isList.push _⟩, truth_nth bs, fun h' tk kept => ?_⟩
  have back : ∀ b o, s.heap.get? b = some o → h'.get? b = some o := fun b o e => kept b o (fun m => Nat.lt_irrefl _ (List.mem_singleton.mp m ▸ Heap.lt_size e)) (Heap.get?_push_of_some _ e)
  have en : (bs.map Value.bool).toArray.size = bs.length := by simp
  rw [en]
  exact ⟨.bl (F bs.length (nth bs)), H, I.kept back, rfl, hq⟩
theorem cr_allB (hc : X.calm = true) : CallR X (.builtin "all") (rAllB X.K) := by
  rintro pins s σ H vs us Q I r ⟨a, bs, rfl, there, q⟩
  rw [Vals.ref1 r]
  exact call_all_walk (walk_bl hc I there (F := fun n tr => (List.range n).all tr) (Q := Q) (by rw [all_nth]; exact q))
theorem cr_anyB (hc : X.calm = true) : CallR X (.builtin "any") (rAnyB X.K) := by
  rintro pins s σ H vs us Q I r ⟨a, bs, rfl, there, q⟩
  rw [Vals.ref1 r]
  exact call_any_walk (walk_bl hc I there (F := fun n tr => (List.range n).any tr) (Q := Q) (by rw [any_nth]; exact q))
/-! len(set(xs)), ints: how many different ones -/
def tLenSetG (K : PySem.W.Frag) (ta : TE) : TE := fun σ H Q => ta σ H fun x H1 => ∃ (l : Addr) (ns : List Int), x = .ref l ∧ SqL K H1 l (ns.map V.int) ∧ ns.length ≤ 1000 ∧ Q (.int ((PyProof.Rows.firstMet (fun i => ns.getD i 0) ns.length).length : Nat)) H1
theorem pe_lenSetG {e : Expr} {te : TE} {p1 p2 p3 p4 : Pos} (gl : Gl X "len") (ml : X.mg "len" = none) (gs : Gl X "set") (ms : X.mg "set" = none) (he : PE X e te) (hc : X.calm = true := by rfl)
    (star : starEach [e] X.env = (false, eval e X.env) :: starEach [] X.env := by rfl) : PE X (.Call (.Name "len" p1) [.Call (.Name "set" p2) [e] [] p3] [] p4) (tLenSetG X.K te) := by
  constructor
  intro pins s σ H Q I h
  have measured : ∀ (v : Value) (s1 : Shared), EP X pins σ (fun x H1 => ∃ (l : Addr) (ns : List Int), x = .ref l ∧ SqL X.K H1 l (ns.map V.int) ∧ ns.length ≤ 1000 ∧ Q (.int ((firstMet (fun i => ns.getD i 0) ns.length).length : Nat)) H1) v s1 →
      wpAny (model X.prog X.w) X.A (call (.type "set") [v]) (fun u s2 => wpAny (model X.prog X.w) X.A (call (.builtin "len") [u]) (EP X pins σ Q) X.xe s2) X.xe s1 := by
    rintro v s1 ⟨x, H1, I1, r1, l, ns, rfl, there, few, goal⟩
    cases r1
    rcases I1.list there with ⟨its, shown, isl, -⟩
    have size : its.toArray.size = ns.length := by
      have := shown.length
      simp at this
      simp [this]
    refine call_set_list (I1.ok.hd hc) isl.isList (by simpa using vals_are shown) (by rw [size]; unfold scanBound; omega) fun h' tk made kept => ?_
    rw [size] at made
    rcases made with ⟨o, es, ep, t, at1, ex, dat, -, -, -, hf, count⟩
    have most := firstMet_length_le (fun i => ns.getD i 0) ns.length
    have I2 : L2.Inv X pins σ H1 { s1 with heap := h', toks := tk } := I1.kept fun b o q => kept b o (Heap.lt_size q) q
    exact call_len_set at1 ex dat hf (by rw [count] <;> omega) ⟨.int _, H1, I2.tok _, ⟨_, by rw [count]⟩, goal⟩
  exact Call_ (ld_blt I gl ml boot_len (callWith_builtin1 (args_cons (Call_ (ld_blt I gs ms boot_set (callWith_type1 (args_cons (thn (he.run pins s σ H _ I h) fun v s1 q => args_nil (thn (measured v s1 q) fun u s2 z => args_nil z)) star) star rfl))) rfl) rfl rfl))
/-! e0(e, ..), e0 any expression that gives a def that keeps a promise -/
def tCallE (P : Program) (w : World) (K : PySem.W.Frag) (mg : Str → Option Value) (base : Heap) (k : Nat) (t0 : TE) (t : TA) : TE := fun σ H Q => t0 σ H fun x H1 => ∃ f sp, x = .ref f ∧ Held P w K mg base k f sp ∧ t σ H1 fun vs H2 => sp vs H2 Q E0
theorem pe_callE {k : Nat} {e0 e : Expr} {es : List Expr} {t0 : TE} {t : TA} {pos : Pos} (h0 : PE X e0 t0) (room : Room k X.A) (given : PA X (e :: es) t)
    (node : eval (.Call e0 (e :: es) [] pos) X.env = (do callWith pos (← eval e0 X.env) [] (backTo pos (starEach (e :: es) X.env)) (backToKw pos (keywordEach [] X.env))) := by rfl)
    (star : starEach (e :: es) X.env = (false, eval e X.env) :: starEach es X.env := by rfl) (plain : (backTo pos (starEach es X.env)).any Prod.fst = false := by rfl) :
    PE X (.Call e0 (e :: es) [] pos) (tCallE X.prog X.w X.K X.mg X.base k t0 t) := by
  constructor
  intro pins s σ H Q I h
  rw [node]
  refine wpAny_bind (thn (h0.run pins s σ H _ I h) ?_)
  rintro u s1 ⟨x, H1, I1, r1, f, sp, rfl, held, ht⟩
  rcases held.ex with ⟨fd, ps, F, inK, binds⟩
  cases r1
  refine PySem.W.callWith_K (h₀ := X.base) I.ok.mod.kin inK ?_ star plain
  refine thn (given.run pos pins s1 σ _ _ I1 ht) ?_
  rintro us s2 ⟨vs, H2, I2, r, q⟩
  exact ⟨I2.kIn, run_fn (dvs := []) (ds := []) (E := E0) F room binds .nil pass0 I2 r ((List.append_nil vs).symm ▸ q)⟩
/-! xs[i] read ahead of xs[i] op= e -/
theorem pget_list : PGet X (rIxL X.K) := by
  rintro pins s σ H x y v u Q I rx ry ⟨l, zs, n, z, rfl, rfl, there, get, goal⟩
  rcases ry with ⟨b, rfl⟩
  cases rx
  rcases I.list there with ⟨its, shown, isl, small⟩
  rcases atI_get get with ⟨j, at1, at2, -, lo, hi⟩
  rcases shown.get at2 with ⟨w, at3, same⟩
  have len := shown.length
  have size : its.toArray.size = zs.length := by simp [len]
  have done : EP X pins σ Q w s := ⟨z, H, I, same, goal⟩
  have at4 : its.toArray[j]? = some w := by simpa using at3
  have fits := line63
  rcases Int.lt_or_le n 0 with neg | pos
  · -- told from the end
    rw [seqIndex_neg neg lo] at at1
    have ej : (n + (its.toArray.size : Int)).toNat = j := by
      rw [size]
      exact Option.some.inj at1
    exact wpAny_getItem_list_neg isl.isList neg (by rw [size]; exact lo) (by omega) (ej ▸ at4) done
  · rw [seqIndex_of pos hi] at at1
    have ej : n.toNat = j := Option.some.inj at1
    exact wpAny_getItem_list isl.isList pos (by omega) (ej ▸ at4) done
end
end Bp
namespace Bp
open PySem PySem.Spec PyProof.Rows L2
/-! the text by its places -/
def top (i : Nat) : Stmt := PySem.Challenge.pw_biasplies_s01_answers.main.body.getD i (.Pass ⟨0, 0, 0, 0⟩)
/-! a def of the top, a method: where it stands, and that it keeps a promise -/
def Gf (K : PySem.W.Frag) (mg : Str → Option Value) (x : Str) (st : Stmt) : Prop := ∃ f fd, Fun K x x st f fd ∧ mg x = some (.ref f)
def Gm (K : PySem.W.Frag) (C : Addr) (x qual : Str) (st : Stmt) : Prop := ∃ f fd, Fun K x qual st f fd ∧ Meth K C x f
def Kf (P : Program) (w : World) (K : PySem.W.Frag) (mg : Str → Option Value) (base : Heap) (x : Str) (k : Nat) (ps : List Str) (sp : Sp) : Prop :=
  ∃ f fd, FnOk P w K mg base CX0 k f fd ps sp ∧ mg x = some (.ref f) ∧ PySem.W.keepIn K (.ref f) = true ∧ Binds K fd ps []
def Km (P : Program) (w : World) (K : PySem.W.Frag) (mg : Str → Option Value) (base : Heap) (C : Addr) (x : Str) (k : Nat) (ps : List Str) (sp : Sp) : Prop :=
  ∃ f fd, FnOk P w K mg base CX0 k f fd ps sp ∧ Meth K C x f ∧ Binds K fd ps []
/-- a class that is made -/
def Ki (P : Program) (w : World) (K : PySem.W.Frag) (mg : Str → Option Value) (base : Heap) (C : Addr) (x : Str) (k : Nat) (ps : List Str) (sp : Sp) : Prop :=
  ∃ f fd, FnOk P w K mg base CX0 k f fd ps sp ∧ Mk K C f ∧ mg x = some (.ref C) ∧ Binds K fd ps []
abbrev BodyOk (P : Program) (w : World) (K : PySem.W.Frag) (mg : Str → Option Value) (base : Heap) (qual : Str) (st : Stmt) (N : List Str) (k : Nat) (sp : Sp) : Prop :=
  ∀ (f : Addr) (cdv : Value) (A : Around) (outer : List Env) (s : Shared) (H : Hp) (vs : List V) (Q : VK) (E : XK), Room k (A.deeper (envOfC qual (defScope st) s.heap.objs.size f cdv)) → sp vs H Q E →
    ∃ t, PSs (cxOf CX0 P w K mg base N qual (defScope st) f cdv A outer s H E).nox (defBody st) t ∧ t { nx := fun _ H' => Q .non H', rt := Q } (start N vs) H
abbrev BindOk (x qual : Str) (st : Stmt) (ps : List Str) : Prop :=
  ∀ (kV doc pm : Value) (an : Option Addr) (cdv ct : Value) (us : List Value), us.length = ps.length → bindArgs (PySem.W.fnOf x qual (defArgs st) (defBody st) (defScope st) .none kV doc pm an cdv ct) ⟨us, []⟩ = pure (ps.zip us)
section
variable {P : Program} {w : World} {K : PySem.W.Frag} {mg : Str → Option Value} {base : Heap} {C : Addr} {x qual : Str} {st : Stmt} {N ps : List Str} {k : Nat} {sp : Sp}
theorem Gf.ok (G : Gf K mg x st) (S : FnScope N ps (defScope st)) (len : ∀ vs H Q E, sp vs H Q E → vs.length = ps.length) (hb : BindOk x x st ps) (body : BodyOk P w K mg base x st N k sp) : Kf P w K mg base x (k + 1) ps sp := by
  obtain ⟨f, fd, F, g⟩ := G
  exact ⟨f, fd, F.ok S len fun cdv A outer s H vs Q E hr h => body f cdv A outer s H vs Q E hr h, g, F.kp, F.binds hb⟩
theorem Gm.ok (G : Gm K C x qual st) (S : FnScope N ps (defScope st)) (len : ∀ vs H Q E, sp vs H Q E → vs.length = ps.length) (hb : BindOk x qual st ps) (body : BodyOk P w K mg base qual st N k sp) : Km P w K mg base C x (k + 1) ps sp := by
  obtain ⟨f, fd, F, g⟩ := G
  exact ⟨f, fd, F.ok S len fun cdv A outer s H vs Q E hr h => body f cdv A outer s H vs Q E hr h, g, F.binds hb⟩
theorem Gi.ok {xc : Str} (G : ∃ f fd, Fun K x qual st f fd ∧ Mk K C f ∧ mg xc = some (.ref C)) (S : FnScope N ps (defScope st)) (len : ∀ vs H Q E, sp vs H Q E → vs.length = ps.length) (hb : BindOk x qual st ps) (body : BodyOk P w K mg base qual st N k sp) : Ki P w K mg base C xc (k + 1) ps sp := by
  obtain ⟨f, fd, F, m, g⟩ := G
  exact ⟨f, fd, F.ok S len fun cdv A outer s H vs Q E hr h => body f cdv A outer s H vs Q E hr h, m, g, F.binds hb⟩
theorem Kf.held (h : Kf P w K mg base x k ps sp) (j : Nat) (hj : k ≤ j) : ∃ f, mg x = some (.ref f) ∧ Held P w K mg base j f sp := by
  obtain ⟨f, fd, F, g, kp, b⟩ := h
  exact ⟨f, g, ⟨fd, ps, F.mono hj, kp, b⟩⟩
end
/-! the rules for these -/
def tKf (sp : Sp) (t : TA) : TE := fun σ H Q => t σ H fun vs H1 => sp vs H1 Q E0
def tKm (C : Addr) (m : Str) (sp : Sp) (ta : TE) (t : TA) : TE := fun σ H Q => ta σ H fun x H1 => ∃ a dx fs, x = .ref a ∧ H1 a = some (.ins C dx fs) ∧ fs.lookup m = none ∧ t σ H1 fun vs H2 => sp (x :: vs) H2 Q E0
def tKi (C : Addr) (sp : Sp) (t : TA) : TE := fun σ H Q => t σ H fun vs H1 => ∀ x dx, H1 x = none → H1 dx = none → dx ≠ x → sp (.ref x :: vs) (upd (upd H1 dx (.own x)) x (.ins C dx [])) (fun v H2 => v = .non ∧ Q (.ref x) H2) E0
section
variable {X : Cx} {k j : Nat} {C : Addr} {ps : List Str} {sp : Sp} {x m : Str} {p pos apos : Pos} {e o : Expr} {es : List Expr} {ta : TE} {t : TA}
theorem tcall_eq (vs : List V) : vs ++ [] = vs := List.append_nil vs
theorem pe_kf (h : Kf X.prog X.w X.K X.mg X.base x k ps sp) (hr : Room k X.A) (hg : Gl X x) (ha : PA X (e :: es) t) (hdb : (x == ("__debug__" : Str)) = false := by decide)
    (he : starEach (e :: es) X.env = (false, eval e X.env) :: starEach es X.env := by rfl) (hpl : (backTo pos (starEach es X.env)).any (·.1) = false := by rfl) : PE X (.Call (.Name x p) (e :: es) [] pos) (tKf sp t) := by
  obtain ⟨f, fd, F, g, kp, b⟩ := h
  have q := pe_call (dvs := []) (E := E0) (p := p) (pos := pos) F hr hg g kp b .nil pass0 ha hdb he hpl
  have e1 : tCall sp [] E0 t = tKf sp t := by funext σ H Q; unfold tCall tKf; simp only [List.append_nil]
  rw [e1] at q
  exact q
theorem pe_km {pl : Sem Bool} (h : Km X.prog X.w X.K X.mg X.base C m k ps sp) (c : Cls X.K C) (hr : Room k X.A) (he : PE X o ta) (ha : PA X (e :: es) t)
    (hst : starEach (e :: es) X.env = (false, eval e X.env) :: starEach es X.env := by rfl) (hpl : (backTo pos (starEach es X.env)).any (·.1) = false := by rfl)
    (ht : eval (.Call (.Attribute o m apos) (e :: es) [] pos) X.env = (do
      let ov ← eval o X.env
      standAt apos.atName
      let (f, first) ← holding [ov] (getMethod ov m pl)
      callWith pos f first (backTo pos (starEach (e :: es) X.env)) (backToKw pos (keywordEach [] X.env))) := by rfl) : PE X (.Call (.Attribute o m apos) (e :: es) [] pos) (tKm C m sp ta t) := by
  obtain ⟨f, fd, F, g, b⟩ := h
  have q := pe_meth (dvs := []) (E := E0) he c g F hr b .nil pass0 ha hst hpl ht
  have e1 : tMeth C m sp [] E0 ta t = tKm C m sp ta t := by funext σ H Q; unfold tMeth tKm; simp only [List.append_nil]
  rw [e1] at q
  exact q
theorem pe_km0 {pl : Sem Bool} (h : Km X.prog X.w X.K X.mg X.base C m k ps sp) (c : Cls X.K C) (hr : Room k X.A) (he : PE X o ta)
    (hev : eval (.Call (.Attribute o m apos) [] [] pos) X.env = (do
      let ov ← eval o X.env
      standAt apos.atName
      let (f, first) ← holding [ov] (getMethod ov m pl)
      callWith pos f first (backTo pos (starEach [] X.env)) (backToKw pos (keywordEach [] X.env))) := by rfl) : PE X (.Call (.Attribute o m apos) [] [] pos) (tKm C m sp ta tNil) := by
  obtain ⟨f, fd, F, g, b⟩ := h
  have q := pe_meth0 (dvs := []) (E := E0) he c g F hr b .nil pass0 hev
  have e1 : tMeth C m sp [] E0 ta tNil = tKm C m sp ta tNil := by funext σ H Q; unfold tMeth tKm; simp only [List.append_nil]
  rw [e1] at q
  exact q
theorem pe_ki (h : Ki X.prog X.w X.K X.mg X.base C x k ps sp) (hr : Room (k + 1) X.A) (hg : Gl X x) (ha : PA X (e :: es) t) (hdb : (x == ("__debug__" : Str)) = false := by decide)
    (he : starEach (e :: es) X.env = (false, eval e X.env) :: starEach es X.env := by rfl) (hpl : (backTo pos (starEach es X.env)).any (·.1) = false := by rfl) : PE X (.Call (.Name x p) (e :: es) [] pos) (tKi C sp t) := by
  obtain ⟨f, fd, F, M, g, b⟩ := h
  have q := pe_make (dvs := []) (E := E0) (p := p) (pos := pos) M F hr hg g b .nil pass0 ha hdb he hpl
  have e1 : tMake C sp [] E0 t = tKi C sp t := by funext σ H Q; unfold tMake tKi; simp only [List.append_nil]
  rw [e1] at q
  exact q
theorem pe_ki0 (h : Ki X.prog X.w X.K X.mg X.base C x k ps sp) (hr : Room (k + 1) X.A) (hg : Gl X x) (hdb : (x == ("__debug__" : Str)) = false := by decide) : PE X (.Call (.Name x p) [] [] pos) (tKi C sp tNil) := by
  obtain ⟨f, fd, F, M, g, b⟩ := h
  have q := pe_make0 (dvs := []) (E := E0) (p := p) (pos := pos) M F hr hg g b .nil pass0 hdb
  have e1 : tMake C sp [] E0 tNil = tKi C sp tNil := by funext σ H Q; unfold tMake tKi; simp only [List.append_nil]
  rw [e1] at q
  exact q
/-- a number of the file's top -/
theorem pe_gi {i : Int} (hg : Gl X x) (h : ∃ t, X.mg x = some (.int i t)) (hd : (x == ("__debug__" : Str)) = false := by decide) : PE X (.Name x pos) (tC (.int i)) := by
  obtain ⟨t, h⟩ := h
  exact pe_glob hg h ⟨t, rfl⟩ hd
end
/-! answers -/
def retL (H : Hp) (Q : VK) (ys : List Int) : Prop := ∀ (p : Addr) (H' : Hp), H p = none → Same H H' → H' p = some (.lst (ys.map V.int)) → Q (.ref p) H'
def retV (H : Hp) (Q : VK) (v : V) : Prop := ∀ H' : Hp, Same H H' → Q v H'
/-! heaps -/
theorem same_new {H : Hp} {p : Addr} {o : HO} (h : H p = none) : Same H (upd H p o) := fun b u e => by
  rw [upd_ne (ne_of_none e h)]
  exact e
theorem same_put {H H' : Hp} {p : Addr} {o : HO} (s : Same H H') (h : H p = none) : Same H (upd H' p o) := fun b u e => by
  rw [upd_ne (ne_of_none e h)]
  exact s b u e
theorem retL.new {H H1 : Hp} {Q : VK} {ys : List Int} (r : retL H Q ys) (s : Same H H1) {p : Addr} (h : H1 p = none) : Q (.ref p) (upd H1 p (.lst (ys.map V.int))) :=
  r p _ (s.free h) (s.trans (same_new h)) upd_same
theorem retL.mono {H H1 : Hp} {Q : VK} {ys : List Int} (r : retL H Q ys) (s : Same H H1) : retL H1 Q ys := fun p H' h s' e => r p H' (s.free h) (s.trans s') e
theorem retV.mono {H H1 : Hp} {Q : VK} {v : V} (r : retV H Q v) (s : Same H H1) : retV H1 Q v := fun H' s' => r H' (s.trans s')
/-! how the objects lie -/
def tV : Option Int → V
  | none => .non
  | some t => .int t
def rF (r : R) : List (Str × V) := [("width", .int r.w), ("length", .int r.l), ("left", .int r.left)]
def pF (p : Pl) (st : Addr) : List (Str × V) := [("source", .int p.src), ("width", .int p.wid), ("starts", .ref st), ("turn", tV p.turn)]
def wF (m : M) (pr pp : Addr) : List (Str × V) := [("begun", .bl m.begun), ("a", .int m.a), ("c", .int m.c), ("girth", .int m.g), ("nearest", .int m.n), ("shortest", .int m.s), ("rolls", .ref pr), ("plies", .ref pp)]
/-- where: the object's dict, the two lists, each roll (object, dict), each ply (object, dict, its starts) -/
structure Lay where
  dw : Addr
  pr : Addr
  pp : Addr
  rs : List (Addr × Addr)
  ps : List (Addr × Addr × Addr)
/-- the three classes -/
structure Cs where
  R : Addr
  P : Addr
  W : Addr
structure WR (C : Cs) (H : Hp) (w : Addr) (m : M) (L : Lay) : Prop where
  wo : H w = some (.ins C.W L.dw (wF m L.pr L.pp))
  ro : H L.pr = some (.lst (L.rs.map fun q => V.ref q.1))
  po : H L.pp = some (.lst (L.ps.map fun q => V.ref q.1))
  rl : L.rs.length = m.rolls.length
  pl : L.ps.length = m.plies.length
  ra : ∀ (i : Nat) (q : Addr × Addr) (r : Bp.R), L.rs[i]? = some q → m.rolls[i]? = some r → H q.1 = some (.ins C.R q.2 (rF r))
  pa : ∀ (i : Nat) (q : Addr × Addr × Addr) (p : Pl), L.ps[i]? = some q → m.plies[i]? = some p → H q.1 = some (.ins C.P q.2.1 (pF p q.2.2)) ∧ H q.2.2 = some (.lst (p.st.map V.int))
/-- .. and apart from what else is tracked (G), and from one another -/
structure WAt (C : Cs) (G H : Hp) (w : Addr) (m : M) (L : Lay) : Prop where
  wr : WR C H w m L
  same : Same G H
  gw : G w = none
  gr : G L.pr = none
  gp : G L.pp = none
  gR : ∀ q ∈ L.rs, G q.1 = none
  gP : ∀ q ∈ L.ps, G q.1 = none
  gS : ∀ q ∈ L.ps, G q.2.2 = none
  nr : (L.rs.map (·.1)).Nodup
  np : (L.ps.map (·.1)).Nodup
  ne : L.pr ≠ L.pp
  ns : ∀ q ∈ L.ps, q.2.2 ≠ L.pr ∧ q.2.2 ≠ L.pp
theorem WR.mono {C : Cs} {H H' : Hp} {w : Addr} {m : M} {L : Lay} (h : WR C H w m L) (s : Same H H') : WR C H' w m L :=
  ⟨s _ _ h.wo, s _ _ h.ro, s _ _ h.po, h.rl, h.pl, fun i q r a b => s _ _ (h.ra i q r a b), fun i q p a b => ⟨s _ _ (h.pa i q p a b).1, s _ _ (h.pa i q p a b).2⟩⟩
theorem WAt.mono {C : Cs} {G H H' : Hp} {w : Addr} {m : M} {L : Lay} (h : WAt C G H w m L) (s : Same H H') : WAt C G H' w m L :=
  ⟨h.wr.mono s, h.same.trans s, h.gw, h.gr, h.gp, h.gR, h.gP, h.gS, h.nr, h.np, h.ne, h.ns⟩
end Bp
namespace Bp
open PySem PySem.Spec PyProof.Rows L2
def toldV : List V := [.int 6, .int 2, .int 2, .int 2, .int 1, .non, .int 1, .int 1, .int 2, .int 2, .int 0, .int 1, .int 1, .int 2, .int 1, .int 1, .int 1, .int 2, .int 0, .int 0]
/-- what the top has written, defs apart -/
structure Txt (K : PySem.W.Frag) (mg : Str → Option Value) (C : Cs) (aT : Addr) : Prop where
  clR : Cls K C.R
  clP : Cls K C.P
  clW : Cls K C.W
  rw : NoAttr K C.R "width"
  rl : NoAttr K C.R "length"
  rf : NoAttr K C.R "left"
  ps : NoAttr K C.P "source"
  pw : NoAttr K C.P "width"
  pt : NoAttr K C.P "starts"
  pu : NoAttr K C.P "turn"
  wb : NoAttr K C.W "begun"
  wa : NoAttr K C.W "a"
  wc : NoAttr K C.W "c"
  wg : NoAttr K C.W "girth"
  wn : NoAttr K C.W "nearest"
  ws : NoAttr K C.W "shortest"
  wr : NoAttr K C.W "rolls"
  wp : NoAttr K C.W "plies"
  nNS : ∃ t, mg "NO_SUCH" = some (.int (-2) t)
  nNL : ∃ t, mg "NOT_LAID" = some (.int (-6) t)
  nNB : ∃ t, mg "NOT_BEGUN" = some (.int (-11) t)
  nTL : ∃ t, mg "TOO_LITTLE" = some (.int (-12) t)
  nAL : ∃ t, mg "ALREADY" = some (.int (-17) t)
  nOR : ∃ t, mg "OUT_OF_RANGE" = some (.int (-22) t)
  nTM : ∃ t, mg "TOO_MANY" = some (.int (-28) t)
  nCB : ∃ t, mg "CANNOT_BE" = some (.int (-33) t)
  nTN : ∃ t, mg "TOO_NEAR" = some (.int (-40) t)
  nMR : ∃ t, mg "MOST_ROLLS" = some (.int 10 t)
  nMP : ∃ t, mg "MOST_PLIES" = some (.int 12 t)
  nBG : ∃ t, mg "BEGIN" = some (.int 0 t)
  nRW : ∃ t, mg "ROW" = some (.int 5 t)
  told : mg "TOLD" = some (.ref aT)
  toldT : ∀ H, SqT K H aT toldV
  bmin : mg "min" = none
  bmax : mg "max" = none
  bsorted : mg "sorted" = none
  bzip : mg "zip" = none
  brange : mg "range" = none
  blen : mg "len" = none
  bsum : mg "sum" = none
  benum : mg "enumerate" = none
  bset : mg "set" = none
  ball : mg "all" = none
  bany : mg "any" = none
/-! the promises of turns.py and slant.py -/
def spApart : Sp := fun vs H Q _ => ∃ p o g : Int, vs = [.int p, .int o, .int g] ∧ 0 < g ∧ Q (.int (apartI p o g)) H
def spTurned (K : PySem.W.Frag) : Sp := fun vs H Q _ => ∃ (a : Addr) (ss : List Int) (t g : Int), vs = [.ref a, .int t, .int g] ∧ SqL K H a (ss.map V.int) ∧ 0 < g ∧ ss.length ≤ 1000 ∧ retL H Q (turnedI ss t g)
def spMeet (K : PySem.W.Frag) : Sp := fun vs H Q _ => ∃ (a b : Addr) (ss ps : List Int) (g : Int), vs = [.ref a, .ref b, .int g] ∧ SqL K H a (ss.map V.int) ∧ SqL K H b (ps.map V.int) ∧ 0 < g ∧ g ≤ 1500 ∧ ss.length ≤ 10 ∧ ps.length ≤ 120 ∧
  ∀ ns, IsMeets ss ps g ns → ns.length ≤ 1200 → retL H Q ns
def spNear (K : PySem.W.Frag) : Sp := fun vs H Q _ => ∃ (a : Addr) (p : Int) (ns : List Int) (g : Int), vs = [.int p, .ref a, .int g] ∧ SqL K H a (ns.map V.int) ∧ 0 < g ∧ ns.length ≤ 10000 ∧ retV H Q (.int (nearI p ns g))
def spAdj (K : PySem.W.Frag) : Sp := fun vs H Q _ => ∃ (a : Addr) (ts : List Addr) (ms : List (Int × Int)) (g : Int), vs = [.ref a, .int g] ∧ SqL K H a (ts.map V.ref) ∧ ts.length = ms.length ∧
  (∀ (i : Nat) (t : Addr) (m : Int × Int), ts[i]? = some t → ms[i]? = some m → H t = some (.tup [.int m.1, .int m.2])) ∧ 0 < g ∧ ms.length ≤ 1000 ∧ ∀ ys, IsSorted ms ys → retV H Q (.int (minD g (adj g ys)))
def spByTurn (K : PySem.W.Frag) : Sp := fun vs H Q _ => ∃ (a : Addr) (ms : List Int) (g : Int), vs = [.ref a, .int g] ∧ SqL K H a (ms.map V.int) ∧ 0 < g ∧ g ≤ 1500 ∧ ms.Pairwise (· < ·) ∧ (∀ m ∈ ms, 0 ≤ m ∧ m < g) ∧ ms.length ≤ 1200 ∧
  retL H Q ((List.range g.toNat).map fun (t : Nat) => nearI (t : Int) ms g)
def spIsW : Sp := fun vs H Q _ => ∃ w : Int, vs = [.int w] ∧ Q (.bl (isW w)) H
def spCov : Sp := fun vs H Q _ => ∃ w a c : Int, vs = [.int w, .int a, .int c] ∧ 0 ≤ w ∧ w ≤ 2000 ∧ 0 < a ∧ a ≤ 1000 ∧ Q (.int (coveredI w a c)) H
def spTaken : Sp := fun vs H Q _ => ∃ w a c : Int, vs = [.int w, .int a, .int c] ∧ 0 ≤ w ∧ w ≤ 2000 ∧ 0 < a ∧ a ≤ 1000 ∧ Q (.int (takenI w a c)) H
def spPieces : Sp := fun vs H Q _ => ∃ c g s : Int, vs = [.int c, .int g, .int s] ∧ 0 < c ∧ c ≤ 2000000 ∧ 0 < g ∧ g ≤ 1500 ∧ retL H Q (piecesI c g s)
def spStarts (K : PySem.W.Frag) : Sp := fun vs H Q _ => ∃ (a : Addr) (ps : List Int), vs = [.ref a] ∧ SqL K H a (ps.map V.int) ∧ ps.length ≤ 2000 ∧ retL H Q (startsFrom 0 ps)
/-! small lemmas -/
theorem big {n : Nat} (h : n ≤ 100000) : n ≤ sizeLine := Nat.le_trans h (by decide)
theorem big' {n : Nat} (h : n ≤ 100000) : n < sizeLine := Nat.lt_of_le_of_lt h (by decide)
theorem map_get {α : Type} {f : α → V} {l : List α} {i : Nat} {y : V} (h : (l.map f)[i]? = some y) : ∃ z, l[i]? = some z ∧ y = f z := by
  rw [List.getElem?_map] at h
  cases e : l[i]? with
  | none =>
    rw [e] at h
    cases h
  | some z => rw [e] at h; exact ⟨z, rfl, (Option.some.inj h).symm⟩
theorem take_more {α : Type} {l : List α} {i : Nat} {x : α} (h : l[i]? = some x) : l.take (i + 1) = l.take i ++ [x] := by
  rw [List.take_add_one, h]
  rfl
end Bp
namespace Bp
open PySem PySem.Spec PyProof.Rows L2
section
variable {P : Program} {w : World} {K : PySem.W.Frag} {mg : Str → Option Value} {base : Heap} {C : Cs} {aT : Addr}
abbrev sApart : Stmt := top 10
theorem scApart : FnScope ["place", "other", "girth", "way"] ["place", "other", "girth"] (defScope sApart) := ⟨rfl, rfl, rfl, by decide +kernel, rfl, by decide +kernel, by decide +kernel⟩
theorem k_apart (T : Txt K mg C aT) (G : Gf K mg "apart" sApart) : Kf P w K mg base "apart" 1 ["place", "other", "girth"] spApart := by
  refine G.ok scApart (fun vs H Q E h => ?_) (fun _ _ _ _ _ _ us hl => match us, hl with | [_, _, _], _ => rfl) (fun f cdv A outer s H vs Q E hr h => ?_)
  · obtain ⟨p, o, g, rfl, _⟩ := h
    rfl
  obtain ⟨p, o, g, rfl, hg, q⟩ := h
  refine ⟨_, pss_cons (ps_set (i := 3) scApart.nd rfl (Or.inl rfl) (pe_op op_mod (pe_op op_sub (pv 0) (pv 1)) (pv 2)))
    (pss_one (ps_ret (pe_callB (call_min2 rfl) (by rfl) T.bmin (by decide +kernel) (pa_cons (pv 3) (pa_cons (pe_op op_sub (pv 2) (pv 3)) pa_nil))))), ?_⟩
  refine ⟨_, rfl, _, rfl, _, _, rfl, rfl, _, rfl, _, _, rfl, rfl, hg, ?_⟩
  refine ⟨_, rfl, _, rfl, _, rfl, _, _, rfl, rfl, _, _, rfl, ?_⟩
  have e : (if g - (p - o) % g < (p - o) % g then g - (p - o) % g else (p - o) % g) = apartI p o g := by
    unfold apartI
    split <;> omega
  show Q (.int (if g - (p - o) % g < (p - o) % g then g - (p - o) % g else (p - o) % g)) H
  rw [e]
  exact q
end
end Bp
namespace Bp
open PySem PySem.Spec PyProof.Rows L2
section
variable {P : Program} {w : World} {K : PySem.W.Frag} {mg : Str → Option Value} {base : Heap} {C : Cs} {aT : Addr}
abbrev sTurned : Stmt := top 11
theorem scTurned : FnScope ["starts", "turn", "girth", "start"] ["starts", "turn", "girth"] (defScope sTurned) := ⟨rfl, rfl, rfl, by decide +kernel, rfl, by decide +kernel, by decide +kernel⟩
theorem k_turned (G : Gf K mg "turned" sTurned) : Kf P w K mg base "turned" 1 ["starts", "turn", "girth"] (spTurned K) := by
  refine G.ok scTurned (fun vs H Q E h => ?_) (fun _ _ _ _ _ _ us hl => match us, hl with | [_, _, _], _ => rfl) (fun f cdv A outer s H vs Q E hr h => ?_)
  · obtain ⟨a, ss, t, g, rfl, _⟩ := h
    rfl
  obtain ⟨a, ss, t, g, rfl, hs, hg, hl, q⟩ := h
  refine ⟨_, pss_one (ps_ret (pe_lc (own := [("start", 3)]) (g := gName 3) (tt := tYes) rfl scTurned.nd (pi_list (pv 0)) (blkOk_by (N := ["starts", "turn", "girth", "start"]) (sc := defScope sTurned) (by decide +kernel))
    (fun _ _ _ _ _ => pg_name (i := 3) scTurned.nd rfl (Or.inl rfl)) (fun _ _ _ _ _ => pts_nil) (fun _ _ _ _ _ => pe_op op_mod (pe_op op_add (pv 3) (pv 1)) (pv 2)))), ?_⟩
  refine ⟨_, rfl, a, rfl, ⟨_, hs⟩, fun D hD => lc_list (xs := ss.map V.int) (fun i H' => Same H H' ∧ H' D = some (.lst ((turnedI (ss.take i) t g).map V.int))) ⟨same_new hD, upd_same⟩ (fun i H' _ p => p.1.seq hs) ?_ ?_⟩
  · rintro i x H' hx ⟨s1, h1⟩
    obtain ⟨z, hz, rfl⟩ := map_get hx
    refine ⟨rfl, ?_⟩
    refine ⟨_, rfl, _, rfl, _, _, rfl, rfl, _, rfl, _, _, rfl, rfl, hg, _, h1, ?_, same_put s1 hD, ?_⟩
    · exact big' (by rw [List.length_map, turnedI, List.length_map, List.length_take]; omega)
    · rw [upd_same, take_more hz]
      simp [turnedI]
  · rintro H' ⟨s1, h1⟩
    rw [List.length_map, List.take_length] at h1
    exact q D H' hD s1 h1
abbrev sNear : Stmt := top 13
theorem scNear : FnScope ["place", "others", "girth", "other"] ["place", "others", "girth"] (defScope sNear) := ⟨rfl, rfl, rfl, by decide +kernel, rfl, by decide +kernel, by decide +kernel⟩
theorem k_nearness (T : Txt K mg C aT) (G : Gf K mg "nearness" sNear) (kA : Kf P w K mg base "apart" 1 ["place", "other", "girth"] spApart) : Kf P w K mg base "nearness" 2 ["place", "others", "girth"] (spNear K) := by
  refine G.ok scNear (fun vs H Q E h => ?_) (fun _ _ _ _ _ _ us hl => match us, hl with | [_, _, _], _ => rfl) (fun f cdv A outer s H vs Q E hr h => ?_)
  · obtain ⟨a, p, ns, g, rfl, _⟩ := h
    rfl
  obtain ⟨a, p, ns, g, rfl, hs, hg, hl, q⟩ := h
  refine ⟨_, pss_one (ps_ret (pe_callBK (cr_minD rfl (hu_of hr)) (by rfl) T.bmin boot_min (pa_cons (pe_lc (own := [("other", 3)]) (g := gName 3) (tt := tYes) rfl scNear.nd (pi_list (pv 1)) (blkOk_by (N := ["place", "others", "girth", "other"]) (sc := defScope sNear) (by decide +kernel))
    (fun _ _ _ _ _ => pg_name (i := 3) scNear.nd rfl (Or.inl rfl)) (fun _ _ _ _ _ => pts_nil) (fun _ _ _ _ _ => pe_kf kA hr (by rfl) (pa_cons (pv 0) (pa_cons (pv 3) (pa_cons (pv 2) pa_nil))))) pa_nil) (pk_cons (pv 2) pk_nil))), ?_⟩
  refine ⟨_, rfl, a, rfl, ⟨_, hs⟩, fun D hD => lc_list (xs := ns.map V.int) (fun i H' => Same H H' ∧ H' D = some (.lst (((ns.take i).map fun o => apartI p o g).map V.int))) ⟨same_new hD, upd_same⟩ (fun i H' _ r => r.1.seq hs) ?_ ?_⟩
  · rintro i x H' hx ⟨s1, h1⟩
    obtain ⟨z, hz, rfl⟩ := map_get hx
    refine ⟨rfl, ?_⟩
    refine ⟨_, rfl, _, rfl, _, rfl, p, z, g, rfl, hg, _, h1, ?_, same_put s1 hD, ?_⟩
    · exact big' (by rw [List.length_map, List.length_map, List.length_take]; omega)
    · rw [upd_same, take_more hz]
      simp
  · rintro H' ⟨s1, h1⟩
    rw [List.length_map, List.take_length] at h1
    exact ⟨_, rfl, D, _, g, rfl, rfl, SqL.of h1, q H' s1⟩
end
end Bp
namespace Bp
open PySem PySem.Spec PyProof.Rows L2
section
variable {P : Program} {w : World} {K : PySem.W.Frag} {mg : Str → Option Value} {base : Heap} {C : Cs} {aT : Addr}
/-! a dict whose keys are ints: its keys in order -/
def KeysAt (H : Hp) (d : Addr) (ks : List Int) : Prop := ∃ kvs : List (L2.Key × V), H d = some (.dK kvs) ∧ kvs.map (·.1) = ks.map Sum.inl
def insK (ks : List Int) (k : Int) : List Int := if k ∈ ks then ks else ks ++ [k]
theorem insK_len (ks : List Int) (k : Int) : (insK ks k).length ≤ ks.length + 1 := by
  unfold insK
  split
  · omega
  · rw [List.length_append]
    simp
theorem insK_mem (ks : List Int) (k x : Int) : x ∈ insK ks k ↔ x ∈ ks ∨ x = k := by
  unfold insK
  split
  · next h => exact ⟨.inl, fun q => q.elim id fun e => e ▸ h⟩
  · simp
theorem insK_nodup {ks : List Int} (h : ks.Nodup) (k : Int) : (insK ks k).Nodup := by
  unfold insK
  split
  · exact h
  · next c => exact nd_snoc h c
theorem keys_put {kvs : List (L2.Key × V)} {ks : List Int} (h : kvs.map (·.1) = ks.map Sum.inl) (k : Int) (v : V) : (putK kvs (Sum.inl k) v).map (·.1) = (insK ks k).map Sum.inl := by
  have em : (kvs.any fun kv => decide (kv.1 = Sum.inl k)) = true ↔ k ∈ ks := by
    rw [List.any_eq_true]
    constructor
    · rintro ⟨p, hp, e⟩
      have : p.1 ∈ kvs.map (·.1) := List.mem_map.mpr ⟨p, hp, rfl⟩
      rw [h, of_decide_eq_true e] at this
      obtain ⟨y, hy, ey⟩ := List.mem_map.mp this
      cases ey
      exact hy
    · intro hk
      have : (Sum.inl k : L2.Key) ∈ kvs.map (·.1) := by rw [h]; exact List.mem_map.mpr ⟨k, hk, rfl⟩
      obtain ⟨p, hp, e⟩ := List.mem_map.mp this
      exact ⟨p, hp, decide_eq_true e⟩
  unfold putK insK
  by_cases c : k ∈ ks
  · rw [if_pos (em.mpr c), if_pos c, ← h, List.map_map]
    refine List.map_congr_left fun p _ => ?_
    show (if p.1 = Sum.inl k then (p.1, v) else p).1 = p.1
    split <;> rfl
  · rw [if_neg fun q => c (em.mp q), if_neg c, List.map_append, List.map_append, h]
    rfl
abbrev sMeet : Stmt := top 12
theorem scMeet : FnScope ["starts", "places", "girth", "meets", "place", "start"] ["starts", "places", "girth"] (defScope sMeet) := ⟨rfl, rfl, rfl, by decide +kernel, rfl, by decide +kernel, by decide +kernel⟩
theorem k_meeting (T : Txt K mg C aT) (G : Gf K mg "meeting_turns" sMeet) : Kf P w K mg base "meeting_turns" 1 ["starts", "places", "girth"] (spMeet K) := by
  refine G.ok scMeet (fun vs H Q E h => ?_) (fun _ _ _ _ _ _ us hl => match us, hl with | [_, _, _], _ => rfl) (fun f cdv A outer s H vs Q E hr h => ?_)
  · obtain ⟨a, b, ss, ps, g, rfl, _⟩ := h
    rfl
  obtain ⟨a, b, ss, ps, g, rfl, hs, hp, hg, hg2, ls, lp, q⟩ := h
  have hu := hu_of hr
  refine ⟨_, pss_cons (ps_set (i := 3) scMeet.nd rfl (Or.inl rfl) pe_dnewK)
    (pss_cons (ps_for PassesOwn.never rfl (pi_list (pv 1)) (pg_name (i := 4) scMeet.nd rfl (Or.inl rfl))
      (pss_one (ps_for PassesOwn.never rfl (pi_list (pv 0)) (pg_name (i := 5) scMeet.nd rfl (Or.inl rfl))
        (pss_one (ps_dput hu (pv 3) (pe_op op_mod (pe_op op_sub (pv 4) (pv 5)) (pv 2)) pe_bl rfl)))))
    (pss_one (ps_ret (pe_callB (cr_sortedKI rfl) (by rfl) T.bsorted boot_sorted (pa_cons (pv 3) pa_nil))))), ?_⟩
  intro d hd
  have s0 : Same H (upd H d (.dK [])) := same_new hd
  refine ⟨_, rfl, b, rfl, ⟨_, s0.seq hp⟩, for_list (K := K) (a := b) (xs := ps.map V.int) (fun i σ H' => ∃ (v4 v5 : Option V) (ks : List Int), σ = [some (.ref a), some (.ref b), some (.int g), some (.ref d), v4, v5] ∧ Same H H' ∧ KeysAt H' d ks ∧ ks.Nodup ∧ ks.length ≤ i * 10 ∧
      ∀ k, k ∈ ks ↔ ∃ p ∈ ps.take i, ∃ s ∈ ss, (p - s) % g = k)
    ⟨none, none, [], rfl, s0, ⟨[], upd_same, rfl⟩, List.nodup_nil, Nat.zero_le _, fun k => by simp⟩ (fun i σ H' _ ⟨_, _, _, _, r, _⟩ => r.seq hp) ?_ ?_⟩
  · rintro i x σ H' hx ⟨v4, v5, ks, rfl, s1, h1, n1, l1, m1⟩
    obtain ⟨z, hz, rfl⟩ := map_get hx
    refine ⟨_, rfl, a, rfl, ⟨_, s1.seq hs⟩, for_list (K := K) (a := a) (xs := ss.map V.int) (fun j σ H' => ∃ (v5 : Option V) (ks : List Int), σ = [some (.ref a), some (.ref b), some (.int g), some (.ref d), some (.int z), v5] ∧ Same H H' ∧ KeysAt H' d ks ∧ ks.Nodup ∧ ks.length ≤ i * 10 + j ∧
        ∀ k, k ∈ ks ↔ (∃ p ∈ ps.take i, ∃ s ∈ ss, (p - s) % g = k) ∨ ∃ s ∈ ss.take j, (z - s) % g = k)
      ⟨v5, ks, rfl, s1, h1, n1, l1, fun k => by rw [m1]; simp⟩ (fun i σ H' _ ⟨_, _, _, r, _⟩ => r.seq hs) ?_ ?_⟩
    · rintro j y σ H2 hy ⟨v5, ks, rfl, s2, ⟨kvs, h2, e2⟩, n2, l2, m2⟩
      obtain ⟨u, hu2, rfl⟩ := map_get hy
      have hj : j < ss.length := (List.getElem?_eq_some_iff.mp hu2).1
      have hi : i < ps.length := (List.getElem?_eq_some_iff.mp hz).1
      have lk : kvs.length = ks.length := by
        have := congrArg List.length e2
        rwa [List.length_map, List.length_map] at this
      refine ⟨_, rfl, _, rfl, _, rfl, _, _, rfl, rfl, _, rfl, _, _, rfl, rfl, hg, d, _, rfl, DPut.k (k := Sum.inl ((z - u) % g)) h2 (big' (by omega)), ?_⟩
      refine ⟨some (.int u), insK ks ((z - u) % g), rfl, same_put s2 hd, ⟨_, upd_same, keys_put e2 _ _⟩, insK_nodup n2 _, Nat.le_trans (insK_len _ _) (by omega), fun k => ?_⟩
      rw [insK_mem, m2, take_more hu2]
      constructor
      · rintro ((h | ⟨s, hs', e⟩) | rfl)
        · exact .inl h
        · exact .inr ⟨s, List.mem_append_left _ hs', e⟩
        · exact .inr ⟨u, by simp, rfl⟩
      · rintro (h | ⟨s, hs', e⟩)
        · exact .inl (.inl h)
        · rcases List.mem_append.mp hs' with hs' | hs'
          · exact .inl (.inr ⟨s, hs', e⟩)
          · rw [List.mem_singleton.mp hs'] at e
            exact .inr e.symm
    · rintro σ H2 ⟨v5, ks, rfl, s2, h2, n2, l2, m2⟩
      rw [List.length_map] at l2 m2
      rw [List.take_length] at m2
      refine ⟨_, v5, ks, rfl, s2, h2, n2, by omega, fun k => ?_⟩
      rw [m2, take_more hz]
      constructor
      · rintro (⟨p, hp', h⟩ | h)
        · exact ⟨p, List.mem_append_left _ hp', h⟩
        · exact ⟨z, by simp, h⟩
      · rintro ⟨p, hp', h⟩
        rcases List.mem_append.mp hp' with hpl | hpr
        · exact .inl ⟨p, hpl, h⟩
        · rw [List.mem_singleton.mp hpr] at h
          exact .inr h
  · rintro σ H2 ⟨v4, v5, ks, rfl, s2, ⟨kvs, h2, e2⟩, n2, l2, m2⟩
    rw [List.length_map] at l2 m2
    rw [List.take_length] at m2
    refine ⟨_, rfl, d, kvs, ks, rfl, .inl h2, e2, big (by omega), fun ys p h3 h4 hp' => ?_⟩
    have hn : ys.Nodup := h3.nodup_iff.mpr n2
    refine (q ys ⟨?_, fun k => by rw [h3.mem_iff, m2]⟩ (by rw [h3.length_eq]; omega)).new s2 hp'
    exact (h4.and hn).imp fun {a b} h => by omega
end
end Bp
namespace Bp
open PySem PySem.Spec PyProof.Rows L2
theorem cut_drop1 (xs : List V) : cutV xs (some 1) none = xs.drop 1 := by
  unfold cutV
  rw [show HT.sIx xs.length 0 (some 1) = min 1 xs.length from HT.sIx_nat _ _ 1, HT.sIx_none, List.take_of_length_le (by rw [List.length_drop]; omega)]
  cases xs with
  | nil => rfl
  | cons a r =>
    have e : min 1 (a :: r).length = 1 := by rw [List.length_cons]; omega
    rw [e]
theorem cut_take1 (xs : List V) : cutV xs none (some 1) = xs.take 1 := by
  unfold cutV
  rw [show HT.sIx xs.length xs.length (some 1) = min 1 xs.length from HT.sIx_nat _ _ 1, HT.sIx_none, List.drop_zero, Nat.sub_zero]
  cases xs with
  | nil => rfl
  | cons a r =>
    have e : min 1 (a :: r).length = 1 := by rw [List.length_cons]; omega
    rw [e]
section
variable {P : Program} {w : World} {K : PySem.W.Frag} {mg : Str → Option Value} {base : Heap} {C : Cs} {aT : Addr}
abbrev sByT : Stmt := top 15
abbrev nByT : List Str := ["meets", "girth", "reached", "behind", "start", "end", "turn", "meet"]
theorem scByT : FnScope nByT ["meets", "girth"] (defScope sByT) := ⟨rfl, rfl, rfl, by decide +kernel, rfl, by decide +kernel, by decide +kernel⟩
theorem k_byturn (T : Txt K mg C aT) (G : Gf K mg "nearness_by_turn" sByT) : Kf P w K mg base "nearness_by_turn" 1 ["meets", "girth"] (spByTurn K) := by
  refine G.ok scByT (fun vs H Q E h => ?_) (fun _ _ _ _ _ _ us hl => match us, hl with | [_, _], _ => rfl) (fun f cdv A outer s H vs Q E hr h => ?_)
  · obtain ⟨a, ms, g, rfl, _⟩ := h
    rfl
  obtain ⟨a, ms, g, rfl, hs, hg, hg2, hp, hm, hl, q⟩ := h
  refine ⟨_, pss_cons (ps_set (i := 2) scByT.nd rfl (Or.inl rfl) (pe_op op_rep (pe_lst (pa_cons (pv 1) pa_nil)) (pv 1)))
    (pss_cons (ps_set (i := 3) scByT.nd rfl (Or.inl rfl) (pe_op op_cat (pe_slice sl_list (pv 0) (po_some pe_int) po_none)
      (pe_lc (own := [("meet", 7)]) (g := gName 7) (tt := tYes) rfl scByT.nd (pi_list (pe_slice sl_list (pv 0) po_none (po_some pe_int))) (blkOk_by (N := nByT) (sc := defScope sByT) (by decide +kernel))
        (fun _ _ _ _ _ => pg_name (i := 7) scByT.nd rfl (Or.inl rfl)) (fun _ _ _ _ _ => pts_nil) (fun _ _ _ _ _ => pe_op op_add (pv 7) (pv 1)))))
    (pss_cons (ps_for PassesOwn.never rfl (pi_zip (by rfl) T.bzip (pa_cons (pv 0) (pa_cons (pv 3) pa_nil))) (pg_tup rfl (pgs_cons (pg_name (i := 4) scByT.nd rfl (Or.inl rfl)) (pgs_cons (pg_name (i := 5) scByT.nd rfl (Or.inl rfl)) pgs_nil)))
      (pss_one (ps_for PassesOwn.never rfl (pi_range2 (by rfl) T.brange (pa_cons (pv 4) (pa_cons (pv 5) pa_nil))) (pg_name (i := 6) scByT.nd rfl (Or.inl rfl))
        (pss_one (ps_asg (pe_callB (call_min2 rfl) (by rfl) T.bmin boot_min (pa_cons (pe_op op_sub (pv 6) (pv 4)) (pa_cons (pe_op op_sub (pv 5) (pv 6)) pa_nil))) (pg_sub (pv 2) (pe_op op_mod (pv 6) (pv 1)) set_list))))))
    (pss_one (ps_ret (pv 2))))), ?_⟩
  -- reached
  refine ⟨_, rfl, (by show 1 ≤ sizeLine; decide), fun l1 hl1 => ?_⟩
  refine ⟨_, rfl, l1, g, _, rfl, rfl, upd_same, by omega, by omega, (by show 1 * g.toNat ≤ sizeLine; exact big (by omega)), fun l2 hl2 => ?_⟩
  have s1 : Same H (upd H l1 (.lst [.int g])) := same_new hl1
  have s2 : Same H (upd (upd H l1 (.lst [.int g])) l2 (.lst (List.replicate g.toNat [V.int g]).flatten)) := s1.trans (same_new hl2)
  have n2 : H l2 = none := s1.free hl2
  have e2 : (List.replicate g.toNat [V.int g]).flatten = (List.replicate g.toNat g).map V.int := by
    rw [List.flatten_replicate_singleton, List.map_replicate]
  rw [e2] at s2 ⊢
  generalize hH2 : upd (upd H l1 (.lst [.int g])) l2 (.lst ((List.replicate g.toNat g).map V.int)) = H2 at s2 ⊢
  have f2 : H2 l2 = some (.lst ((List.replicate g.toNat g).map V.int)) := by rw [← hH2]; exact upd_same
  -- behind
  refine ⟨_, rfl, 1, rfl, a, _, rfl, s2.seq hs, fun l3 hl3 => ?_⟩
  rw [cut_drop1]
  have s3 := s2.trans (same_new (o := HO.lst ((ms.map V.int).drop 1)) hl3)
  have t3 := same_new (o := HO.lst ((ms.map V.int).drop 1)) hl3
  refine ⟨_, rfl, 1, rfl, a, _, rfl, s3.seq hs, fun l4 hl4 => ?_⟩
  rw [cut_take1]
  have s4 := s3.trans (same_new (o := HO.lst ((ms.map V.int).take 1)) hl4)
  have t4 := t3.trans (same_new (o := HO.lst ((ms.map V.int).take 1)) hl4)
  generalize hH4 : upd (upd H2 l3 (.lst ((ms.map V.int).drop 1))) l4 (.lst ((ms.map V.int).take 1)) = H4 at s4 t4 ⊢
  have f3 : H4 l3 = some (.lst ((ms.drop 1).map V.int)) := by
    rw [← hH4, upd_ne (ne_of_none upd_same hl4), upd_same, List.map_drop]
  have f4 : H4 l4 = some (.lst ((ms.take 1).map V.int)) := by rw [← hH4, upd_same, List.map_take]
  refine ⟨l4, rfl, ⟨_, SqL.of f4⟩, fun D hD => lc_list (xs := (ms.take 1).map V.int) (fun i H' => Same H4 H' ∧ H' D = some (.lst ((((ms.take 1).take i).map fun m => m + g).map V.int))) ⟨same_new hD, upd_same⟩ (fun i H' _ r => r.1.seq (SqL.of f4)) ?_ ?_⟩
  · rintro i x H' hx ⟨u1, h1⟩
    obtain ⟨z, hz, rfl⟩ := map_get hx
    refine ⟨rfl, ?_⟩
    refine ⟨_, rfl, _, rfl, _, _, rfl, rfl, _, h1, ?_, same_put u1 hD, ?_⟩
    · exact big' (by rw [List.length_map, List.length_map, List.length_take, List.length_take]; omega)
    · rw [upd_same, take_more hz]
      simp
  rintro H5 ⟨s5, h5⟩
  rw [List.length_map, List.take_length] at h5
  refine ⟨l3, D, _, _, rfl, rfl, s5 _ _ f3, h5, big (by rw [List.length_map, List.length_map, List.length_map, List.length_drop, List.length_take]; omega), fun l6 hl6 => ?_⟩
  have e6 : (ms.drop 1).map V.int ++ ((ms.take 1).map fun m => m + g).map V.int = (behindI ms g).map V.int := by
    unfold behindI
    rw [List.map_append]
  rw [e6]
  have s6 := (s4.trans s5).trans (same_new (o := HO.lst ((behindI ms g).map V.int)) hl6)
  have f26 : (upd H5 l6 (.lst ((behindI ms g).map V.int))) l2 = some (.lst ((List.replicate g.toNat g).map V.int)) := (t4.trans s5).trans (same_new hl6) _ _ f2
  have n6 : H l6 = none := (s4.trans s5).free hl6
  have ne62 : l6 ≠ l2 := fun e => by
    rw [e] at hl6
    rw [(t4.trans s5) _ _ f2] at hl6
    cases hl6
  generalize hH6 : upd H5 l6 (.lst ((behindI ms g).map V.int)) = H6 at s6 f26 ⊢
  have f6 : H6 l6 = some (.lst ((behindI ms g).map V.int)) := by rw [← hH6]; exact upd_same
  -- the pairs
  obtain ⟨f0, hf0⟩ : ∃ f0 : Int, ∀ z, ms[0]? = some z → z = f0 := by
    cases e : ms[0]? with
    | none => exact ⟨0, fun z h => nomatch h⟩
    | some z => exact ⟨z, fun y h => (Option.some.inj h).symm⟩
  have hlen : ms.length = min (ms.map V.int).length ((behindI ms g).map V.int).length := by rw [List.length_map, List.length_map, behind_length]; omega
  refine ⟨_, rfl, _, rfl, a, l6, _, _, rfl, s6.seq hs, SqL.of f6, for_it (walk_zip (K := K) (a := a) (b := l6) hlen) (fun i σ H' => ∃ (v4 v5 v6 : Option V) (r : List Int), σ = [some (.ref a), some (.int g), some (.ref l2), some (.ref l6), v4, v5, v6, none] ∧ Same H H' ∧
      H' l6 = some (.lst ((behindI ms g).map V.int)) ∧ H' l2 = some (.lst (r.map V.int)) ∧ (i = 0 → r = List.replicate g.toNat g) ∧ r.length = g.toNat ∧ ∀ e, (ms ++ [f0 + g])[i]? = some e → ms ≠ [] → Filled ms g f0 e r)
    ⟨none, none, none, List.replicate g.toNat g, rfl, s6, f6, f26, fun _ => rfl, List.length_replicate, fun e he hne => ⟨List.length_replicate, fun x h1 h2 => ?_⟩⟩ (fun i σ H' _ ⟨_, _, _, _, _, r, r6, _⟩ => ⟨r.seq hs, SqL.of r6⟩) ?_ ?_⟩
  · cases ms with
    | nil => exact absurd rfl hne
    | cons z t =>
      have e1 : z = e := Option.some.inj he
      have := hf0 z rfl
      omega
  · rintro i y σ H' H'' hi ⟨v4, v5, v6, r, rfl, u1, u6, u2, r0, rl, rf⟩ ⟨TT, x, y', rfl, hT, rfl, hx, hy⟩
    obtain ⟨s, hsi, rfl⟩ := map_get hx
    obtain ⟨b, hb, rfl⟩ := map_get hy
    have hne : ms ≠ [] := fun e => by rw [e] at hsi; cases hsi
    have ilt : i < ms.length := (List.getElem?_eq_some_iff.mp hsi).1
    have F0 := rf s (by rw [List.getElem?_append_left ilt]; exact hsi) hne
    have u1' := u1.trans (same_new (o := HO.tup [V.int s, V.int b]) hT)
    have n26 : TT ≠ l2 := fun e => by rw [e, u2] at hT; cases hT
    have n66 : TT ≠ l6 := fun e => by rw [e, u6] at hT; cases hT
    refine ⟨TT, _, rfl, SqT.of upd_same, rfl, _, _, rfl, _, _, rfl, rfl, ?_⟩
    -- the end of the stretch, as a place
    have hbe : (ms ++ [f0 + g])[i + 1]? = some b := by
      rcases behind_get hb with e | ⟨e, f', hf', eb⟩
      · rw [List.getElem?_append_left (List.getElem?_eq_some_iff.mp e).1]
        exact e
      · rw [List.getElem?_append_right (by omega), e, Nat.sub_self, eb, hf0 f' hf']
        rfl
    obtain ⟨z0, hz0⟩ : ∃ z, ms[0]? = some z := ⟨_, List.getElem?_eq_getElem (by omega)⟩
    have ez := hf0 z0 hz0
    have hs0 : f0 ≤ s := by rw [← ez]; exact pw_le hp hz0 hsi (Nat.zero_le _)
    have hsb : s < b ∧ b ≤ f0 + g := by
      have m0 := hm z0 (List.mem_of_getElem? hz0)
      have m1 := hm s (List.mem_of_getElem? hsi)
      rcases behind_get hb with e | ⟨e, f', hf', eb⟩
      · have := hm b (List.mem_of_getElem? e)
        have := pw_get hp hsi e (Nat.lt_succ_self _)
        omega
      · have := hf0 f' hf'
        omega
    have hsm := hm s (List.mem_of_getElem? hsi)
    have bb := hm z0 (List.mem_of_getElem? hz0)
    refine ⟨_, rfl, _, rfl, s, b, rfl, by omega, for_it walk_range (fun j σ H' => ∃ (v6 : Option V) (r : List Int), σ = [some (.ref a), some (.int g), some (.ref l2), some (.ref l6), some (.int s), some (.int b), v6, none] ∧ Same H H' ∧
        H' l6 = some (.lst ((behindI ms g).map V.int)) ∧ H' l2 = some (.lst (r.map V.int)) ∧ Filled ms g f0 (s + j) r)
      ⟨v6, r, rfl, u1', by rw [upd_ne n66.symm]; exact u6, by rw [upd_ne n26.symm]; exact u2, by simpa using F0⟩ (fun _ _ _ _ _ => trivial) ?_ ?_⟩
    · rintro j x σ H2 H3 hj ⟨v6, r, rfl, w1, w6, w2, wf⟩ ⟨rfl, rfl⟩
      have hx2 : s + (j : Int) < b := by omega
      have key := near_between hp hm hsi hb (by omega : s ≤ s + (j : Int)) hx2
      have hm0 := Int.emod_nonneg (s + (j : Int)) (by omega : g ≠ 0)
      have hm1 := Int.emod_lt_of_pos (s + (j : Int)) hg
      have hix : ixN (r.map V.int).length ((s + (j : Int)) % g) = some ((s + (j : Int)) % g).toNat := by
        unfold ixN
        rw [if_pos hm0, if_pos (by rw [List.length_map, wf.1]; omega)]
      refine ⟨_, rfl, _, rfl, _, _, rfl, rfl, _, rfl, _, rfl, _, _, rfl, rfl, _, _, rfl, ?_⟩
      refine ⟨_, rfl, _, rfl, _, rfl, _, _, rfl, rfl, hg, l2, _, _, _, rfl, rfl, w2, hix, ?_⟩
      have e1 : (if b - (s + (j : Int)) < s + (j : Int) - s then b - (s + (j : Int)) else s + (j : Int) - s) = nearI (s + (j : Int)) ms g := by
        rw [key]
        split <;> omega
      refine ⟨some (.int (s + (j : Int))), r.set ((s + (j : Int)) % g).toNat (nearI (s + (j : Int)) ms g), rfl, same_put w1 n2, ?_, ?_, ?_⟩
      · have : l6 ≠ l2 := ne62
        rw [upd_ne this]
        exact w6
      · rw [upd_same, List.map_set]
        show some (HO.lst (List.set (List.map V.int r) ((s + (j : Int)) % g).toNat (V.int (if b - (s + (j : Int)) < s + (j : Int) - s then b - (s + (j : Int)) else s + (j : Int) - s)))) = _
        rw [e1]
      · have := wf.put hg (by omega)
        have e2 : s + (j : Int) + 1 = s + ((j + 1 : Nat) : Int) := by omega
        rw [e2] at this
        exact this
    · rintro σ H2 ⟨v6, r, rfl, w1, w6, w2, wf⟩
      refine ⟨_, _, v6, r, rfl, w1, w6, w2, fun e => absurd e (Nat.succ_ne_zero i), wf.1, fun e he _ => ?_⟩
      rw [hbe] at he
      have := Option.some.inj he
      have e3 : s + (((b - s).toNat : Nat) : Int) = e := by omega
      rw [e3] at wf
      exact wf
  · rintro σ H' ⟨v4, v5, v6, r, rfl, u1, u6, u2, r0, rl, rf⟩
    refine ⟨_, rfl, ?_⟩
    refine q l2 H' n2 u1 ?_
    rw [u2]
    congr 3
    by_cases e : ms = []
    · subst e
      rw [r0 rfl]
      exact none_filled g hg
    · have := rf (f0 + g) (by rw [List.getElem?_append_right (Nat.le_refl _), Nat.sub_self]; rfl) e
      obtain ⟨z0, hz0⟩ : ∃ z, ms[0]? = some z := ⟨_, List.getElem?_eq_getElem (by have := List.length_pos_iff.mpr e; omega)⟩
      have ez := hf0 z0 hz0
      exact Filled.all hg (by have := hm z0 (List.mem_of_getElem? hz0); omega) this
end
end Bp
namespace Bp
open PySem PySem.Spec PyProof.Rows L2
/-- the pair that stands in a tuple -/
def pairAt (H : Hp) : V → Int × Int
  | .ref t => match H t with
    | some (.tup [.int i, .int j]) => (i, j)
    | _ => (0, 0)
  | _ => (0, 0)
theorem pairAt_of {H : Hp} {t : Addr} {m : Int × Int} (h : H t = some (.tup [.int m.1, .int m.2])) : pairAt H (.ref t) = m := by
  show (match H t with | some (.tup [.int i, .int j]) => (i, j) | _ => (0, 0)) = m
  rw [h]
section
variable {P : Program} {w : World} {K : PySem.W.Frag} {mg : Str → Option Value} {base : Heap} {C : Cs} {aT : Addr}
abbrev sAdj : Stmt := top 14
abbrev nAdj : List Str := ["marked", "girth", "ordered", "behind", "one", "two"]
theorem scAdj : FnScope nAdj ["marked", "girth"] (defScope sAdj) := ⟨rfl, rfl, rfl, by decide +kernel, rfl, by decide +kernel, by decide +kernel⟩
theorem k_adj (T : Txt K mg C aT) (G : Gf K mg "nearness_of_plies" sAdj) (kA : Kf P w K mg base "apart" 1 ["place", "other", "girth"] spApart) : Kf P w K mg base "nearness_of_plies" 2 ["marked", "girth"] (spAdj K) := by
  refine G.ok scAdj (fun vs H Q E h => ?_) (fun _ _ _ _ _ _ us hl => match us, hl with | [_, _], _ => rfl) (fun f cdv A outer s H vs Q E hr h => ?_)
  · obtain ⟨a, ts, ms, g, rfl, _⟩ := h
    rfl
  obtain ⟨a, ts, ms, g, rfl, hs, hl, ht, hg, hz, q⟩ := h
  refine ⟨_, pss_cons (ps_set (i := 2) scAdj.nd rfl (Or.inl rfl) (pe_callB cr_sortedPO (by rfl) T.bsorted boot_sorted (pa_cons (pv 0) pa_nil)))
    (pss_cons (ps_set (i := 3) scAdj.nd rfl (Or.inl rfl) (pe_op op_cat (pe_slice sl_list (pv 2) (po_some pe_int) po_none) (pe_slice sl_list (pv 2) po_none (po_some pe_int))))
    (pss_one (ps_ret (pe_callBK (cr_minD rfl (hu_of hr)) (by rfl) T.bmin boot_min (pa_cons
      (pe_lc (own := [("one", 4), ("two", 5)]) (g := gTup K 2 (gCons (gName 4) (gCons (gName 5) gNil))) (tt := tTest (tOp rNe (tOp (rIxT K) (tVar 4) (tC (.int 1))) (tOp (rIxT K) (tVar 5) (tC (.int 1)))))
        (te := tKf spApart (tCons (tOp (rIxT K) (tVar 4) (tC (.int 0))) (tCons (tOp (rIxT K) (tVar 5) (tC (.int 0))) (tCons (tVar 1) tNil)))) rfl scAdj.nd (pi_zip (by rfl) T.bzip (pa_cons (pv 2) (pa_cons (pv 3) pa_nil))) (blkOk_by (N := nAdj) (sc := defScope sAdj) (by decide +kernel))
        (fun _ _ _ _ _ => pg_tup rfl (pgs_cons (pg_name (i := 4) scAdj.nd rfl (Or.inl rfl) (Or.inr rfl)) (pgs_cons (pg_name (i := 5) scAdj.nd rfl (Or.inl rfl) (Or.inr rfl)) pgs_nil)))
        (fun _ _ _ _ _ => pts_one (pt_cmpR op_ne (pe_ix ix_tup (pv 4) pe_int (fun _ _ => rfl)) (pe_ix ix_tup (pv 5) pe_int (fun _ _ => rfl)) (nomark _)))
        (fun _ _ _ _ _ => pe_kf kA hr (by rfl) (pa_cons (pe_ix ix_tup (pv 4) pe_int (fun _ _ => rfl)) (pa_cons (pe_ix ix_tup (pv 5) pe_int (fun _ _ => rfl)) (pa_cons (pv 1) pa_nil))))) pa_nil) (pk_cons (pv 1) pk_nil))))), ?_⟩
  have hk : ∀ x ∈ ts.map V.ref, ∃ t, x = V.ref t ∧ H t = some (.tup [.int (pairAt H x).1, .int (pairAt H x).2]) := fun x hx => by
    obtain ⟨t, htm, rfl⟩ := List.mem_map.mp hx
    obtain ⟨i, hi⟩ := List.mem_iff_getElem?.mp htm
    have hi2 := (List.getElem?_eq_some_iff.mp hi).1
    have hm : ms[i]? = some ms[i] := List.getElem?_eq_getElem (by omega)
    have := ht i t _ hi hm
    refine ⟨t, rfl, ?_⟩
    rw [pairAt_of this]
    exact this
  refine ⟨_, rfl, a, _, pairAt H, rfl, hs, hk, fun ys p h1 h2 hp => ?_⟩
  have hperm := h2.perm
  have hk' : ∀ x ∈ ys, ∃ t, x = V.ref t ∧ H t = some (.tup [.int (pairAt H x).1, .int (pairAt H x).2]) := fun x hx => hk x (hperm.mem_iff.mp hx)
  have ems : (ts.map V.ref).map (pairAt H) = ms := by
    refine List.ext_getElem? fun i => ?_
    simp only [List.getElem?_map]
    by_cases c : i < ts.length
    · have hi : ts[i]? = some ts[i] := List.getElem?_eq_getElem c
      have hm : ms[i]? = some ms[i] := List.getElem?_eq_getElem (by omega)
      rw [hi, hm]
      exact congrArg some (pairAt_of (ht i _ _ hi hm))
    · rw [List.getElem?_eq_none (by omega), List.getElem?_eq_none (by omega)]
      rfl
  have hsorted : IsSorted ms (ys.map (pairAt H)) := by
    refine ⟨?_, ?_⟩
    · have := hperm.map (pairAt H)
      rw [ems] at this
      exact this
    · refine List.pairwise_map.mpr (h1.imp fun {x y} h => ?_)
      have := SrtO.lexB_no.mp h
      unfold lexLe
      omega
  have hyl : ys.length = ms.length := by
    have := hperm.length_eq
    rw [List.length_map] at this
    omega
  have s1 : Same H (upd H p (.lst ys)) := same_new hp
  generalize hH1 : upd H p (.lst ys) = H1 at s1 ⊢
  have f1 : H1 p = some (.lst ys) := by rw [← hH1]; exact upd_same
  refine ⟨_, rfl, 1, rfl, p, _, rfl, SqL.of f1, fun l3 hl3 => ?_⟩
  rw [cut_drop1]
  have t3 := same_new (o := HO.lst (ys.drop 1)) hl3
  refine ⟨_, rfl, 1, rfl, p, _, rfl, SqL.of (t3 _ _ f1), fun l4 hl4 => ?_⟩
  rw [cut_take1]
  have t4 := t3.trans (same_new (o := HO.lst (ys.take 1)) hl4)
  refine ⟨l3, l4, _, _, rfl, rfl, (by rw [upd_ne (ne_of_none upd_same hl4)]; exact upd_same), upd_same, big (by rw [List.length_drop, List.length_take]; omega), fun l5 hl5 => ?_⟩
  have t5 := t4.trans (same_new (o := HO.lst (ys.drop 1 ++ ys.take 1)) hl5)
  generalize hH5 : upd (upd (upd H1 l3 (.lst (ys.drop 1))) l4 (.lst (ys.take 1))) l5 (.lst (ys.drop 1 ++ ys.take 1)) = H5 at t5 ⊢
  have f5 : H5 l5 = some (.lst (ys.drop 1 ++ ys.take 1)) := by rw [← hH5]; exact upd_same
  have f15 := t5 _ _ f1
  have s5 := s1.trans t5
  have ebl : (ys.drop 1 ++ ys.take 1).length = ys.length := by rw [List.length_append, List.length_drop, List.length_take]; omega
  -- the pairs of neighbours
  let ps := (ys.map (pairAt H)).zip ((ys.map (pairAt H)).drop 1 ++ (ys.map (pairAt H)).take 1)
  have hpl : ps.length = ys.length := by
    show ((ys.map (pairAt H)).zip _).length = _
    rw [List.length_zip, List.length_append, List.length_drop, List.length_take, List.length_map]
    omega
  have hps : ∀ (i : Nat) (x y : V), ys[i]? = some x → (ys.drop 1 ++ ys.take 1)[i]? = some y → ps[i]? = some (pairAt H x, pairAt H y) := fun i x y hx hy => by
    show ((ys.map (pairAt H)).zip ((ys.map (pairAt H)).drop 1 ++ (ys.map (pairAt H)).take 1))[i]? = _
    rw [← List.map_drop, ← List.map_take, ← List.map_append, List.getElem?_zip_eq_some, List.getElem?_map, List.getElem?_map, hx, hy]
    exact ⟨rfl, rfl⟩
  let acc := fun (l : List ((Int × Int) × (Int × Int))) => (l.filter fun q => q.1.2 != q.2.2).map fun q => apartI q.1.1 q.2.1 g
  have acc1 : ∀ l x, acc (l ++ [x]) = acc l ++ (if (x.1.2 != x.2.2) = true then [apartI x.1.1 x.2.1 g] else []) := fun l x => by
    show ((l ++ [x]).filter _).map _ = _
    rw [List.filter_append, List.map_append]
    show _ ++ ([x].filter _).map _ = _
    cases c : (x.1.2 != x.2.2) <;> simp [List.filter_cons, c, acc]
  have accl : ∀ i, (acc (ps.take i)).length ≤ 1000 := fun i => by
    show (((ps.take i).filter _).map _).length ≤ 1000
    rw [List.length_map]
    have h1 := List.length_filter_le (fun q : (Int × Int) × (Int × Int) => q.1.2 != q.2.2) (ps.take i)
    have h2 := List.length_take_le i ps
    have h3 : (ps.take i).length ≤ ps.length := by rw [List.length_take]; omega
    omega
  refine ⟨_, rfl, _, rfl, p, l5, ys, _, rfl, SqL.of f15, SqL.of f5, fun D hD => lc_it (walk_zip (K := K) (a := p) (b := l5) (xs := ys) (ys := ys.drop 1 ++ ys.take 1) (n := ys.length) (by omega)) (fun i H' => Same H5 H' ∧ H' D = some (.lst ((acc (ps.take i)).map V.int)))
    ⟨same_new hD, upd_same⟩ (fun i H' _ r => ⟨SqL.of (r.1 _ _ f15), SqL.of (r.1 _ _ f5)⟩) ?_ ?_⟩
  · rintro i z H' H'' hi ⟨u1, h1⟩ ⟨TT, x, y, rfl, hT, rfl, hx, hy⟩
    have u1' := u1.trans (same_new (o := HO.tup [x, y]) hT)
    obtain ⟨t1, rfl, e1⟩ := hk' x (List.mem_of_getElem? hx)
    have hym : y ∈ ys := by
      rcases List.mem_append.mp (List.mem_of_getElem? hy) with h | h
      · exact List.mem_of_mem_drop h
      · exact List.mem_of_mem_take h
    obtain ⟨t2, rfl, e2⟩ := hk' y hym
    have e1' := u1' _ _ (s5 _ _ e1)
    have e2' := u1' _ _ (s5 _ _ e2)
    have hpi := hps i _ _ hx hy
    have nTD : D ≠ TT := fun e => by rw [← e, h1] at hT; cases hT
    have h1' : upd H' TT (.tup [.ref t1, .ref t2]) D = some (.lst ((acc (ps.take i)).map V.int)) := by rw [upd_ne nTD]; exact h1
    refine ⟨TT, _, rfl, SqT.of upd_same, rfl, _, _, rfl, _, _, rfl, rfl, rfl, ?_⟩
    refine ⟨_, rfl, t1, _, _, _, rfl, rfl, SqT.of e1', (by exact rfl : atI [V.int _, V.int _] 1 = some _), _, rfl, t2, _, _, _, rfl, rfl, SqT.of e2', (by exact rfl : atI [V.int _, V.int _] 1 = some _), rfl, _, rfl, ?_⟩
    rw [take_more hpi]
    refine ite2 (fun c => ?_) (fun c => ?_)
    · refine ⟨_, rfl, t1, _, _, _, rfl, rfl, SqT.of e1', (by exact rfl : atI [V.int _, V.int _] 0 = some _), _, rfl, t2, _, _, _, rfl, rfl, SqT.of e2', (by exact rfl : atI [V.int _, V.int _] 0 = some _), _, rfl, _, _, _, rfl, hg, _, h1', big' (by rw [List.length_map]; have := accl i; omega), same_put u1' hD, ?_⟩
      rw [upd_same, acc1, if_pos (by simpa using c), List.map_append]
      rfl
    · refine ⟨u1', ?_⟩
      rw [acc1, if_neg (by simpa using c), List.append_nil]
      exact h1'
  · rintro H' ⟨u1, h1⟩
    rw [List.take_of_length_le (by omega)] at h1
    refine ⟨_, rfl, D, _, g, rfl, rfl, SqL.of h1, ?_⟩
    exact q _ hsorted H' (s5.trans u1)
end
end Bp
namespace Bp
open PySem PySem.Spec PyProof.Rows L2
theorem ix_at {α : Type} (l : List α) (x : α) (r : List α) (n : Nat) (k : Int) (hn : n = l.length + (r.length + 1)) (hk : k = -((r.length : Int) + 1)) : ixN n k = some l.length := by
  unfold ixN
  rw [if_neg (by omega), if_pos (by omega)]
  congr 1
  omega
theorem at_back {α : Type} (l : List α) (x : α) (r : List α) (k : Int) (hk : k = -((r.length : Int) + 1)) : atI (l ++ x :: r) k = some x := by
  unfold atI
  rw [ix_at l x r _ k (by simp) hk]
  show (l ++ x :: r)[l.length]? = some x
  simp
theorem set_back {α : Type} (l : List α) (x y : α) (r : List α) : (l ++ x :: r).set l.length y = l ++ y :: r := by
  simp
section
variable {P : Program} {w : World} {K : PySem.W.Frag} {mg : Str → Option Value} {base : Heap} {C : Cs} {aT : Addr}
abbrev sIsW : Stmt := top 22
theorem scIsW : FnScope ["width"] ["width"] (defScope sIsW) := ⟨rfl, rfl, rfl, by decide +kernel, rfl, by decide +kernel, by decide +kernel⟩
theorem k_isw (G : Gf K mg "is_width" sIsW) : Kf P w K mg base "is_width" 1 ["width"] spIsW := by
  refine G.ok scIsW (fun vs H Q E h => ?_) (fun _ _ _ _ _ _ us hl => match us, hl with | [_], _ => rfl) (fun f cdv A outer s H vs Q E hr h => ?_)
  · obtain ⟨w, rfl, _⟩ := h
    rfl
  obtain ⟨w, rfl, q⟩ := h
  refine ⟨_, pss_one (ps_ret (pe_chain op_le op_le pe_int (pv 0) pe_int)), ?_⟩
  refine ⟨_, rfl, _, _, rfl, rfl, _, rfl, ?_⟩
  unfold isW at q
  by_cases c : 1 ≤ w
  · rw [decide_eq_true c] at q ⊢
    exact ⟨_, _, rfl, rfl, by simpa using q⟩
  · rw [decide_eq_false c] at q ⊢
    exact q
abbrev sCov : Stmt := top 23
theorem scCov : FnScope ["fabric_width", "a", "c"] ["fabric_width", "a", "c"] (defScope sCov) := ⟨rfl, rfl, rfl, by decide +kernel, rfl, by decide +kernel, by decide +kernel⟩
theorem k_cov (G : Gf K mg "covered" sCov) : Kf P w K mg base "covered" 1 ["fabric_width", "a", "c"] spCov := by
  refine G.ok scCov (fun vs H Q E h => ?_) (fun _ _ _ _ _ _ us hl => match us, hl with | [_, _, _], _ => rfl) (fun f cdv A outer s H vs Q E hr h => ?_)
  · obtain ⟨w, a, c, rfl, _⟩ := h
    rfl
  obtain ⟨w, a, c, rfl, h1, h2, h3, h4, q⟩ := h
  refine ⟨_, pss_one (ps_ret (pe_op op_fdiv (pe_op op_mul (pv 0) (pv 2)) (pv 1))), ?_⟩
  exact ⟨_, rfl, _, rfl, _, _, rfl, rfl, .inl ⟨by omega, by omega⟩, _, rfl, _, _, rfl, rfl, ⟨h3, by omega⟩, q⟩
abbrev sTak : Stmt := top 24
theorem scTak : FnScope ["ply_width", "a", "c"] ["ply_width", "a", "c"] (defScope sTak) := ⟨rfl, rfl, rfl, by decide +kernel, rfl, by decide +kernel, by decide +kernel⟩
theorem k_tak (G : Gf K mg "taken" sTak) : Kf P w K mg base "taken" 1 ["ply_width", "a", "c"] spTaken := by
  refine G.ok scTak (fun vs H Q E h => ?_) (fun _ _ _ _ _ _ us hl => match us, hl with | [_, _, _], _ => rfl) (fun f cdv A outer s H vs Q E hr h => ?_)
  · obtain ⟨w, a, c, rfl, _⟩ := h
    rfl
  obtain ⟨w, a, c, rfl, h1, h2, h3, h4, q⟩ := h
  refine ⟨_, pss_one (ps_ret (pe_op op_fdiv (pe_op op_sub (pe_op op_add (pe_op op_mul (pv 0) (pv 2)) (pv 1)) pe_int) (pv 1))), ?_⟩
  exact ⟨_, rfl, _, rfl, _, _, rfl, rfl, .inl ⟨by omega, by omega⟩, _, rfl, _, _, rfl, rfl, _, _, rfl, rfl, _, rfl, _, _, rfl, rfl, ⟨h3, by omega⟩, q⟩
abbrev sStarts : Stmt := top 26
theorem scStarts : FnScope ["pieces", "starts", "start", "piece"] ["pieces"] (defScope sStarts) := ⟨rfl, rfl, rfl, by decide +kernel, rfl, by decide +kernel, by decide +kernel⟩
theorem k_starts (G : Gf K mg "starts_of" sStarts) : Kf P w K mg base "starts_of" 1 ["pieces"] (spStarts K) := by
  refine G.ok scStarts (fun vs H Q E h => ?_) (fun _ _ _ _ _ _ us hl => match us, hl with | [_], _ => rfl) (fun f cdv A outer s H vs Q E hr h => ?_)
  · obtain ⟨a, ps, rfl, _⟩ := h
    rfl
  obtain ⟨a, ps, rfl, hs, hl, q⟩ := h
  refine ⟨_, pss_cons (ps_set (i := 1) scStarts.nd rfl (Or.inl rfl) (pe_lst pa_nil))
    (pss_cons (ps_set (i := 2) scStarts.nd rfl (Or.inl rfl) pe_int)
    (pss_cons (ps_for PassesOwn.never rfl (pi_list (pv 0)) (pg_name (i := 3) scStarts.nd rfl (Or.inl rfl))
      (pss_cons (ps_expr (pe_bm PySem.F.plainAttrs_list PySem.F.slot_list_append PySem.F.type_list_append mt_append (pv 1) (pa_cons (pv 2) pa_nil)))
        (pss_one (ps_aug (i := 2) scStarts.nd rfl (Or.inl rfl) (pv 3) ip_add))))
    (pss_one (ps_ret (pv 1))))), ?_⟩
  refine ⟨Nat.zero_le _, fun l1 hl1 => ?_⟩
  refine ⟨_, rfl, a, rfl, ⟨_, (same_new hl1).seq hs⟩, for_list (K := K) (a := a) (xs := ps.map V.int) (fun i σ H' => ∃ v3 : Option V, σ = [some (.ref a), some (.ref l1), some (.int (ps.take i).sum), v3] ∧ Same H H' ∧ H' l1 = some (.lst ((startsFrom 0 (ps.take i)).map V.int)))
    ⟨none, rfl, same_new hl1, upd_same⟩ (fun i σ H' _ ⟨_, _, r, _⟩ => r.seq hs) ?_ ?_⟩
  · rintro i x σ H' hx ⟨v3, rfl, s1, h1⟩
    obtain ⟨z, hz, rfl⟩ := map_get hx
    refine ⟨_, rfl, .inl ⟨rfl, _, SqL.of h1⟩, _, rfl, l1, _, _, rfl, rfl, h1, big' (by rw [List.length_map, startsFrom_length, List.length_take]; omega), ?_⟩
    refine ⟨_, rfl, _, rfl, _, _, rfl, rfl, some (.int z), ?_, same_put s1 hl1, ?_⟩
    · have e : (ps.take (i + 1)).sum = (ps.take i).sum + z := by rw [take_more hz, List.sum_append]; simp
      rw [e]
      rfl
    · rw [upd_same, take_more hz, startsFrom_append, List.map_append]
      simp [startsFrom]
  · rintro σ H' ⟨v3, rfl, s1, h1⟩
    rw [List.length_map, List.take_length] at h1
    exact ⟨_, rfl, q l1 H' hl1 s1 h1⟩
abbrev sPiR : Stmt := top 25
abbrev nPiR : List Str := ["cover", "girth", "shortest", "whole", "pieces", "lacking"]
theorem scPiR : FnScope nPiR ["cover", "girth", "shortest"] (defScope sPiR) := ⟨rfl, rfl, rfl, by decide +kernel, rfl, by decide +kernel, by decide +kernel⟩
theorem k_pieces (G : Gf K mg "pieces_round" sPiR) : Kf P w K mg base "pieces_round" 1 ["cover", "girth", "shortest"] spPieces := by
  refine G.ok scPiR (fun vs H Q E h => ?_) (fun _ _ _ _ _ _ us hl => match us, hl with | [_, _, _], _ => rfl) (fun f cdv A outer s H vs Q E hr h => ?_)
  · obtain ⟨c, g, s, rfl, _⟩ := h
    rfl
  obtain ⟨c, g, s, rfl, hc, hc2, hg, hg2, q⟩ := h
  refine ⟨_, pss_cons (ps_set (i := 3) scPiR.nd rfl (Or.inl rfl) (pe_op op_fdiv (pe_op op_sub (pv 1) pe_int) (pv 0)))
    (pss_cons (ps_set (i := 4) scPiR.nd rfl (Or.inl rfl) (pe_op op_rep (pe_lst (pa_cons (pv 0) pa_nil)) (pv 3)))
    (pss_cons (ps_expr (pe_bm PySem.F.plainAttrs_list PySem.F.slot_list_append PySem.F.type_list_append mt_append (pv 4) (pa_cons (pe_op op_sub (pv 1) (pe_op op_mul (pv 3) (pv 0))) pa_nil)))
    (pss_cons (ps_set (i := 5) scPiR.nd rfl (Or.inl rfl) (pe_op op_sub (pv 2) (pe_ix ix_list (pv 4) (pe_un un_neg pe_int) (fun _ _ => rfl))))
    (pss_cons (ps_if (PW.pt (pw_or (pt_cmpR op_eq (pv 3) pe_int (nomark _)) (pw_or1 (pt_cmpR op_le (pv 5) pe_int (nomark _))))) (pss_one (ps_ret (pv 4))) pss_nil)
    (pss_cons (ps_augS (pv 4) (pe_un un_neg pe_int) pget_list (pv 5) ip_add set_list)
    (pss_cons (ps_augS (pv 4) (pe_un un_neg pe_int) pget_list (pv 5) ip_sub set_list)
    (pss_cons (ps_if (pt_cmpR op_lt (pe_ix ix_list (pv 4) (pe_un un_neg pe_int) (fun _ _ => rfl)) (pv 2) (nomark _)) (pss_one (ps_ret (pe_lst pa_nil))) pss_nil)
    (pss_one (ps_ret (pv 4)))))))))), ?_⟩
  have hw0 : 0 ≤ (g - 1) / c := Int.ediv_nonneg (by omega) (by omega)
  have hw1 : (g - 1) / c ≤ g - 1 := Int.ediv_le_self _ (by omega)
  refine ⟨_, rfl, _, _, rfl, rfl, _, rfl, _, _, rfl, rfl, ⟨hc, by omega⟩, ?_⟩
  refine ⟨_, rfl, (by show 1 ≤ sizeLine; decide), fun l1 hl1 => ?_⟩
  refine ⟨_, rfl, l1, _, _, rfl, rfl, upd_same, by omega, by omega, (by show 1 * ((g - 1) / c).toNat ≤ sizeLine; exact big (by omega)), fun l2 hl2 => ?_⟩
  have e2 : (List.replicate ((g - 1) / c).toNat [V.int c]).flatten = (List.replicate ((g - 1) / c).toNat c).map V.int := by
    rw [List.flatten_replicate_singleton, List.map_replicate]
  rw [e2]
  have s2 : Same H (upd (upd H l1 (.lst [.int c])) l2 (.lst ((List.replicate ((g - 1) / c).toNat c).map V.int))) := (same_new hl1).trans (same_new hl2)
  have n2 : H l2 = none := (same_new hl1).free hl2
  refine ⟨_, rfl, .inl ⟨rfl, _, SqL.of upd_same⟩, _, rfl, _, rfl, _, rfl, _, _, rfl, rfl, .inr ⟨by omega, by omega⟩, _, _, rfl, rfl, l2, _, _, rfl, rfl, upd_same, big' (by rw [List.length_map, List.length_replicate]; omega), ?_⟩
  rw [upd_upd]
  have s3 : Same H (upd (upd H l1 (.lst [.int c])) l2 (.lst ((List.replicate ((g - 1) / c).toNat c).map V.int ++ [.int (g - (g - 1) / c * c)]))) := (same_new hl1).trans (same_new hl2)
  generalize (upd H l1 (.lst [.int c])) = H1 at s2 s3 hl2 ⊢
  unfold piecesI at q
  dsimp only at q
  dsimp only
  generalize hwh : (g - 1) / c = wh at *
  generalize hla : g - wh * c = la at *
  refine ⟨_, rfl, _, rfl, _, rfl, l2, _, _, _, rfl, rfl, SqL.of upd_same, atI_last _ _, _, _, rfl, rfl, ?_⟩
  refine ⟨_, rfl, rfl, _, rfl, ?_⟩
  have fin : wh = 0 ∨ s - la ≤ 0 → Q (.ref l2) (upd H1 l2 (.lst ((List.replicate wh.toNat c).map V.int ++ [.int la]))) := fun h => by
    rw [if_pos h] at q
    refine q l2 _ n2 s3 ?_
    rw [upd_same, List.map_append]
    rfl
  refine ite2 (fun h => ?_) (fun h => ?_)
  · have h : wh = 0 := by simpa using h
    exact ⟨_, rfl, fin (.inl h)⟩
  have h : ¬ wh = 0 := by simpa using h
  refine ⟨_, rfl, _, _, rfl, rfl, _, rfl, ?_⟩
  refine ite2 (fun h' => ?_) (fun h' => ?_)
  · have h' : s - la ≤ 0 := by simpa using h'
    exact ⟨_, rfl, fin (.inr h')⟩
  have h' : ¬ s - la ≤ 0 := by simpa using h'
  rw [if_neg (by omega)] at q
  obtain ⟨k, hk⟩ : ∃ k, wh.toNat = k + 1 := ⟨wh.toNat - 1, by omega⟩
  have er : (List.replicate wh.toNat c).map V.int = (List.replicate k c).map V.int ++ [.int c] := by
    rw [hk, List.replicate_succ', List.map_append]
    rfl
  rw [er]
  refine ⟨_, rfl, _, rfl, l2, _, _, _, rfl, rfl, SqL.of upd_same, at_back _ (V.int la) [] _ rfl, _, rfl, _, _, rfl, rfl, l2, _, _, _, rfl, rfl, upd_same, ix_at ((List.replicate k c).map V.int ++ [V.int c]) (V.int la) [] _ _ (by simp) rfl, ?_⟩
  rw [set_back, upd_upd, List.append_assoc]
  refine ⟨_, rfl, _, rfl, l2, _, _, _, rfl, rfl, SqL.of upd_same, at_back _ (V.int c) [.int (la + (s - la))] _ rfl, _, rfl, _, _, rfl, rfl, l2, _, _, _, rfl, rfl, upd_same, ix_at ((List.replicate k c).map V.int) (V.int c) [.int (la + (s - la))] _ _ (by simp) rfl, ?_⟩
  show tSeq _ _ _ _ (upd (upd H1 l2 _) l2 (.lst (((List.replicate k c).map V.int ++ V.int c :: [V.int (la + (s - la))]).set ((List.replicate k c).map V.int).length (V.int (c - (s - la))))))
  rw [set_back, upd_upd]
  refine ⟨_, rfl, _, rfl, l2, _, _, _, rfl, rfl, SqL.of upd_same, at_back _ (V.int (c - (s - la))) [.int (la + (s - la))] _ rfl, _, rfl, _, _, rfl, rfl, _, rfl, ?_⟩
  have s4 : Same H (upd H1 l2 (.lst ((List.replicate k c).map V.int ++ V.int (c - (s - la)) :: [V.int (la + (s - la))]))) := same_put (s := fun b o e => by
    have := s2 b o e
    rwa [upd_ne (ne_of_none e n2)] at this) n2
  have ek : wh.toNat - 1 = k := by omega
  have es : la + (s - la) = s := by omega
  rw [es] at s4 ⊢
  refine ite2 (fun h2 => ?_) (fun h2 => ?_)
  · rw [if_pos (by simpa using h2)] at q
    exact ⟨Nat.zero_le _, fun l5 hl5 => q.new s4 hl5⟩
  · rw [if_neg (by simpa using h2), ek] at q
    refine ⟨_, rfl, q l2 _ n2 s4 ?_⟩
    rw [upd_same, List.map_append]
    rfl
end
end Bp
namespace Bp
open PySem PySem.Spec PyProof.Rows L2
abbrev sRI : Stmt := inClass (top 34) 0
abbrev sPI : Stmt := inClass (top 35) 0
abbrev sWI : Stmt := inClass (top 36) 0
abbrev sLaid : Stmt := inClass (top 35) 1
abbrev sPlaces : Stmt := inClass (top 35) 2
def spRI (C : Cs) : Sp := fun vs H Q _ => ∃ (p dx : Addr) (a b : Int), vs = [.ref p, .int a, .int b] ∧ H p = some (.ins C.R dx []) ∧
  ∀ H' : Hp, H' p = some (.ins C.R dx (rF ⟨a, b, b⟩)) → (∀ b o, H b = some o → b ≠ p → H' b = some o) → Q .non H'
def spPI (C : Cs) : Sp := fun vs H Q _ => ∃ (p dx : Addr) (a b : Int) (l : Addr), vs = [.ref p, .int a, .int b, .ref l] ∧ H p = some (.ins C.P dx []) ∧
  ∀ H' : Hp, (∀ st, H' p = some (.ins C.P dx (pF ⟨a, b, st, none⟩ l))) → (∀ b o, H b = some o → b ≠ p → H' b = some o) → Q .non H'
def spWI (C : Cs) : Sp := fun vs H Q _ => ∃ (p dx : Addr), vs = [.ref p] ∧ H p = some (.ins C.W dx []) ∧
  ∀ (H' : Hp) (pr pp : Addr), H' p = some (.ins C.W dx (wF M0 pr pp)) → H' pr = some (.lst []) → H' pp = some (.lst []) → H pr = none → H pp = none → pr ≠ pp → (∀ b o, H b = some o → b ≠ p → H' b = some o) → Q .non H'
def spLaid (C : Cs) : Sp := fun vs H Q _ => ∃ (a dx st : Addr) (p : Pl), vs = [.ref a] ∧ H a = some (.ins C.P dx (pF p st)) ∧ Q (.bl p.laid) H
def spPlaces (C : Cs) : Sp := fun vs H Q _ => ∃ (a dx st : Addr) (p : Pl) (g t : Int), vs = [.ref a, .int g] ∧ H a = some (.ins C.P dx (pF p st)) ∧ H st = some (.lst (p.st.map V.int)) ∧ p.turn = some t ∧ 0 < g ∧ p.st.length ≤ 1000 ∧ retL H Q (placesI g p)
def spHasR (C : Cs) : Sp := fun vs H Q _ => ∃ (w : Addr) (n : Int) (m : M) (L : Lay), vs = [.ref w, .int n] ∧ WR C H w m L ∧ Q (.bl (hasR m n)) H
def spHasP (C : Cs) : Sp := fun vs H Q _ => ∃ (w : Addr) (n : Int) (m : M) (L : Lay), vs = [.ref w, .int n] ∧ WR C H w m L ∧ Q (.bl (hasP m n)) H
def laidI (m : M) : List Int := (laidN m.plies).map fun (k : Nat) => (k : Int)
def spLaidNums (C : Cs) : Sp := fun vs H Q _ => ∃ (w : Addr) (m : M) (L : Lay), vs = [.ref w] ∧ WR C H w m L ∧ Ok m ∧ retL H Q (laidI m)
def spLaidCount (C : Cs) : Sp := fun vs H Q _ => ∃ (w : Addr) (m : M) (L : Lay), vs = [.ref w] ∧ WR C H w m L ∧ Ok m ∧ retV H Q (.int ((laidN m.plies).length : Int))
section
variable {P : Program} {w : World} {K : PySem.W.Frag} {mg : Str → Option Value} {base : Heap} {C : Cs} {aT : Addr}
theorem scRI : FnScope ["self", "width", "length"] ["self", "width", "length"] (defScope sRI) := ⟨rfl, rfl, rfl, by decide +kernel, rfl, by decide +kernel, by decide +kernel⟩
theorem k_ri (T : Txt K mg C aT) (G : ∃ f fd, Fun K "__init__" "Roll.__init__" sRI f fd ∧ Mk K C.R f ∧ mg "Roll" = some (.ref C.R)) : Ki P w K mg base C.R "Roll" 1 ["self", "width", "length"] (spRI C) := by
  refine Gi.ok G scRI (fun vs H Q E h => ?_) (fun _ _ _ _ _ _ us hl => match us, hl with | [_, _, _], _ => rfl) (fun f cdv A outer s H vs Q E hr h => ?_)
  · obtain ⟨p, dx, a, b, rfl, _⟩ := h
    rfl
  obtain ⟨p, dx, a, b, rfl, hp, q⟩ := h
  refine ⟨_, pss_cons (ps_fld (pv 0) (pv 1) rfl) (pss_cons (ps_fld (pv 0) (pv 2) rfl) (pss_one (ps_fld (pv 0) (pv 2) rfl))), ?_⟩
  refine ⟨_, rfl, _, rfl, p, _, dx, [], rfl, hp, T.clR, T.rw, (by show 0 < 1000; decide), ?_⟩
  refine ⟨_, rfl, _, rfl, p, _, dx, _, rfl, upd_same, T.clR, T.rl, (by show 1 < 1000; decide), ?_⟩
  refine ⟨_, rfl, _, rfl, p, _, dx, _, rfl, upd_same, T.clR, T.rf, (by show 2 < 1000; decide), ?_⟩
  exact q _ upd_same fun c o e hc => by
    rw [upd_ne hc, upd_ne hc, upd_ne hc]
    exact e
theorem scPI : FnScope ["self", "source", "width", "starts"] ["self", "source", "width", "starts"] (defScope sPI) := ⟨rfl, rfl, rfl, by decide +kernel, rfl, by decide +kernel, by decide +kernel⟩
theorem k_pi (T : Txt K mg C aT) (G : ∃ f fd, Fun K "__init__" "Ply.__init__" sPI f fd ∧ Mk K C.P f ∧ mg "Ply" = some (.ref C.P)) : Ki P w K mg base C.P "Ply" 1 ["self", "source", "width", "starts"] (spPI C) := by
  refine Gi.ok G scPI (fun vs H Q E h => ?_) (fun _ _ _ _ _ _ us hl => match us, hl with | [_, _, _, _], _ => rfl) (fun f cdv A outer s H vs Q E hr h => ?_)
  · obtain ⟨p, dx, a, b, l, rfl, _⟩ := h
    rfl
  obtain ⟨p, dx, a, b, l, rfl, hp, q⟩ := h
  refine ⟨_, pss_cons (ps_fld (pv 0) (pv 1) rfl) (pss_cons (ps_fld (pv 0) (pv 2) rfl) (pss_cons (ps_fld (pv 0) (pv 3) rfl) (pss_one (ps_fld (pv 0) pe_non rfl)))), ?_⟩
  refine ⟨_, rfl, _, rfl, p, _, dx, [], rfl, hp, T.clP, T.ps, (by show 0 < 1000; decide), ?_⟩
  refine ⟨_, rfl, _, rfl, p, _, dx, _, rfl, upd_same, T.clP, T.pw, (by show 1 < 1000; decide), ?_⟩
  refine ⟨_, rfl, _, rfl, p, _, dx, _, rfl, upd_same, T.clP, T.pt, (by show 2 < 1000; decide), ?_⟩
  refine ⟨_, rfl, p, _, dx, _, rfl, upd_same, T.clP, T.pu, (by show 3 < 1000; decide), ?_⟩
  exact q _ (fun st => upd_same) fun c o e hc => by
    rw [upd_ne hc, upd_ne hc, upd_ne hc, upd_ne hc]
    exact e
theorem scWI : FnScope ["self"] ["self"] (defScope sWI) := ⟨rfl, rfl, rfl, by decide +kernel, rfl, by decide +kernel, by decide +kernel⟩
theorem k_wi (T : Txt K mg C aT) (G : ∃ f fd, Fun K "__init__" "Works.__init__" sWI f fd ∧ Mk K C.W f ∧ mg "Works" = some (.ref C.W)) : Ki P w K mg base C.W "Works" 1 ["self"] (spWI C) := by
  refine Gi.ok G scWI (fun vs H Q E h => ?_) (fun _ _ _ _ _ _ us hl => match us, hl with | [_], _ => rfl) (fun f cdv A outer s H vs Q E hr h => ?_)
  · obtain ⟨p, dx, rfl, _⟩ := h
    rfl
  obtain ⟨p, dx, rfl, hp, q⟩ := h
  refine ⟨_, pss_cons (ps_fld (pv 0) pe_bl rfl) (pss_cons (ps_fld (pv 0) pe_int rfl) (pss_cons (ps_fld (pv 0) pe_int rfl) (pss_cons (ps_fld (pv 0) pe_int rfl) (pss_cons (ps_fld (pv 0) pe_int rfl) (pss_cons (ps_fld (pv 0) pe_int rfl)
    (pss_cons (ps_fld (pv 0) (pe_lst pa_nil) rfl) (pss_one (ps_fld (pv 0) (pe_lst pa_nil) rfl)))))))), ?_⟩
  refine ⟨_, rfl, p, _, dx, [], rfl, hp, T.clW, T.wb, (by show 0 < 1000; decide), ?_⟩
  refine ⟨_, rfl, p, _, dx, _, rfl, upd_same, T.clW, T.wa, (by show 1 < 1000; decide), ?_⟩
  refine ⟨_, rfl, p, _, dx, _, rfl, upd_same, T.clW, T.wc, (by show 2 < 1000; decide), ?_⟩
  refine ⟨_, rfl, p, _, dx, _, rfl, upd_same, T.clW, T.wg, (by show 3 < 1000; decide), ?_⟩
  refine ⟨_, rfl, p, _, dx, _, rfl, upd_same, T.clW, T.wn, (by show 4 < 1000; decide), ?_⟩
  refine ⟨_, rfl, p, _, dx, _, rfl, upd_same, T.clW, T.ws, (by show 5 < 1000; decide), ?_⟩
  simp only [upd_upd]
  refine ⟨Nat.zero_le _, fun l1 hl1 => ?_⟩
  have n1 : l1 ≠ p := fun e => by rw [e, upd_same] at hl1; cases hl1
  have h1 : H l1 = none := by rw [upd_ne n1] at hl1; exact hl1
  refine ⟨_, rfl, p, _, dx, _, rfl, (by rw [upd_ne n1.symm]; exact upd_same), T.clW, T.wr, (by show 6 < 1000; decide), ?_⟩
  refine ⟨Nat.zero_le _, fun l2 hl2 => ?_⟩
  have n2 : l2 ≠ p := fun e => by rw [e, upd_same] at hl2; cases hl2
  have n12 : l2 ≠ l1 := fun e => by rw [e, upd_ne n1, upd_same] at hl2; cases hl2
  have h2 : H l2 = none := by rw [upd_ne n2, upd_ne n12, upd_ne n2] at hl2; exact hl2
  refine ⟨_, rfl, p, _, dx, _, rfl, (by rw [upd_ne n2.symm]; exact upd_same), T.clW, T.wp, (by show 7 < 1000; decide), ?_⟩
  refine q _ l1 l2 upd_same ?_ ?_ h1 h2 n12.symm fun c o e hc => ?_
  · rw [upd_ne n1, upd_ne n12.symm, upd_ne n1, upd_same]
  · rw [upd_ne n2, upd_same]
  · rw [upd_ne hc, upd_ne (ne_of_none e h2), upd_ne hc, upd_ne (ne_of_none e h1), upd_ne hc]
    exact e
theorem scLaid : FnScope ["self"] ["self"] (defScope sLaid) := ⟨rfl, rfl, rfl, by decide +kernel, rfl, by decide +kernel, by decide +kernel⟩
theorem k_laid (T : Txt K mg C aT) (G : Gm K C.P "is_laid" "Ply.is_laid" sLaid) : Km P w K mg base C.P "is_laid" 1 ["self"] (spLaid C) := by
  refine G.ok scLaid (fun vs H Q E h => ?_) (fun _ _ _ _ _ _ us hl => match us, hl with | [_], _ => rfl) (fun f cdv A outer s H vs Q E hr h => ?_)
  · obtain ⟨a, dx, st, p, rfl, _⟩ := h
    rfl
  obtain ⟨a, dx, st, p, rfl, ha, q⟩ := h
  refine ⟨_, pss_one (ps_ret (pe_cmpR op_notN (pe_fld (pv 0) rfl) pe_non (nomark _))), ?_⟩
  refine ⟨_, rfl, a, _, dx, _, _, rfl, ha, T.clP, T.pu, (by rfl : (pF p st).lookup ("turn" : Str) = some (tV p.turn)), rfl, ?_⟩
  have e : (!decide (tV p.turn = V.non)) = p.laid := by
    unfold Pl.laid
    cases p.turn <;> rfl
  rw [e]
  exact q
theorem scPlaces : FnScope ["self", "girth"] ["self", "girth"] (defScope sPlaces) := ⟨rfl, rfl, rfl, by decide +kernel, rfl, by decide +kernel, by decide +kernel⟩
theorem k_places (T : Txt K mg C aT) (G : Gm K C.P "places" "Ply.places" sPlaces) (kT : Kf P w K mg base "turned" 1 ["starts", "turn", "girth"] (spTurned K)) : Km P w K mg base C.P "places" 2 ["self", "girth"] (spPlaces C) := by
  refine G.ok scPlaces (fun vs H Q E h => ?_) (fun _ _ _ _ _ _ us hl => match us, hl with | [_, _], _ => rfl) (fun f cdv A outer s H vs Q E hr h => ?_)
  · obtain ⟨a, dx, st, p, g, t, rfl, _⟩ := h
    rfl
  obtain ⟨a, dx, st, p, g, t, rfl, ha, hs, ht, hg, hl, q⟩ := h
  refine ⟨_, pss_one (ps_ret (pe_kf kT hr (by rfl) (pa_cons (pe_fld (pv 0) rfl) (pa_cons (pe_fld (pv 0) rfl) (pa_cons (pv 1) pa_nil))))), ?_⟩
  refine ⟨_, rfl, a, _, dx, _, _, rfl, ha, T.clP, T.pt, (by rfl : (pF p st).lookup ("starts" : Str) = some (.ref st)), _, rfl, a, _, dx, _, _, rfl, ha, T.clP, T.pu, (by rfl : (pF p st).lookup ("turn" : Str) = some (tV p.turn)), _, rfl, st, p.st, t, g, ?_, SqL.of hs, hg, hl, ?_⟩
  · rw [ht]
    rfl
  · unfold placesI at q
    rw [ht] at q
    exact q
abbrev sHasR : Stmt := inClass (top 36) 1
theorem scHasR : FnScope ["self", "number"] ["self", "number"] (defScope sHasR) := ⟨rfl, rfl, rfl, by decide +kernel, rfl, by decide +kernel, by decide +kernel⟩
theorem k_hasr (T : Txt K mg C aT) (G : Gm K C.W "has_roll" "Works.has_roll" sHasR) : Km P w K mg base C.W "has_roll" 1 ["self", "number"] (spHasR C) := by
  refine G.ok scHasR (fun vs H Q E h => ?_) (fun _ _ _ _ _ _ us hl => match us, hl with | [_, _], _ => rfl) (fun f cdv A outer s H vs Q E hr h => ?_)
  · obtain ⟨a, n, m, L, rfl, _⟩ := h
    rfl
  obtain ⟨a, n, m, L, rfl, W, q⟩ := h
  refine ⟨_, pss_one (ps_ret (pe_cmpR op_lt (pv 1) (pe_callB call_len_seq (by rfl) T.blen PySem.boot_len (pa_cons (pe_fld (pv 0) rfl) pa_nil)) (nomark _))), ?_⟩
  refine ⟨_, rfl, _, rfl, a, _, _, _, _, rfl, W.wo, T.clW, T.wr, (by rfl : (wF m L.pr L.pp).lookup ("rolls" : Str) = some (.ref L.pr)), L.pr, _, rfl, .inl (SqL.of W.ro), _, _, rfl, rfl, ?_⟩
  unfold hasR at q
  rw [List.length_map, W.rl]
  exact q
abbrev sHasP : Stmt := inClass (top 36) 2
theorem scHasP : FnScope ["self", "number"] ["self", "number"] (defScope sHasP) := ⟨rfl, rfl, rfl, by decide +kernel, rfl, by decide +kernel, by decide +kernel⟩
theorem k_hasp (T : Txt K mg C aT) (G : Gm K C.W "has_ply" "Works.has_ply" sHasP) : Km P w K mg base C.W "has_ply" 1 ["self", "number"] (spHasP C) := by
  refine G.ok scHasP (fun vs H Q E h => ?_) (fun _ _ _ _ _ _ us hl => match us, hl with | [_, _], _ => rfl) (fun f cdv A outer s H vs Q E hr h => ?_)
  · obtain ⟨a, n, m, L, rfl, _⟩ := h
    rfl
  obtain ⟨a, n, m, L, rfl, W, q⟩ := h
  refine ⟨_, pss_one (ps_ret (pe_cmpR op_lt (pv 1) (pe_callB call_len_seq (by rfl) T.blen PySem.boot_len (pa_cons (pe_fld (pv 0) rfl) pa_nil)) (nomark _))), ?_⟩
  refine ⟨_, rfl, _, rfl, a, _, _, _, _, rfl, W.wo, T.clW, T.wp, (by rfl : (wF m L.pr L.pp).lookup ("plies" : Str) = some (.ref L.pp)), L.pp, _, rfl, .inl (SqL.of W.po), _, _, rfl, rfl, ?_⟩
  unfold hasP at q
  rw [List.length_map, W.pl]
  exact q
end
end Bp
namespace Bp
open PySem PySem.Spec PyProof.Rows L2
def spCover (C : Cs) : Sp := fun vs H Q _ => ∃ (w : Addr) (fw : Int) (m : M) (L : Lay), vs = [.ref w, .int fw] ∧ WR C H w m L ∧ Ok m ∧ 0 ≤ fw ∧ fw ≤ 2000 ∧ Q (.int (coveredI fw m.a m.c)) H
def spPiecesOf (C : Cs) : Sp := fun vs H Q _ => ∃ (w : Addr) (fw : Int) (m : M) (L : Lay), vs = [.ref w, .int fw] ∧ WR C H w m L ∧ Ok m ∧ 1 ≤ fw ∧ fw ≤ 2000 ∧ retL H Q (piecesOf m fw)
def spTakenBy (K : PySem.W.Frag) (C : Cs) : Sp := fun vs H Q _ => ∃ (w b : Addr) (ps : List Int) (wd : Int) (m : M) (L : Lay), vs = [.ref w, .ref b, .int wd] ∧ WR C H w m L ∧ Ok m ∧ SqL K H b (ps.map V.int) ∧ ps.length ≤ 2000 ∧ 0 ≤ wd ∧ wd ≤ 2000 ∧
  Q (.int ((ps.length : Int) * takenI wd m.a m.c)) H
def spMeetsOf (C : Cs) : Sp := fun vs H Q _ => ∃ (w : Addr) (k : Nat) (m : M) (L : Lay), vs = [.ref w, .int (k : Int)] ∧ WR C H w m L ∧ Ok m ∧ k < m.plies.length ∧ ∀ ns, IsMeets (ply m k).st (othersI m k) m.g ns → ns.length ≤ 1200 → retL H Q ns
def spToOthers (C : Cs) : Sp := fun vs H Q _ => ∃ (w : Addr) (k : Nat) (t : Int) (m : M) (L : Lay), vs = [.ref w, .int (k : Int), .int t] ∧ WR C H w m L ∧ Ok m ∧ k < m.plies.length ∧ retV H Q (.int (toOthers m k t))
def spTurnsOf (C : Cs) : Sp := fun vs H Q _ => ∃ (w : Addr) (k : Nat) (m : M) (L : Lay), vs = [.ref w, .int (k : Int)] ∧ WR C H w m L ∧ Ok m ∧ k < m.plies.length ∧ retL H Q (turnsOf m k)
def spLeastTurn (C : Cs) : Sp := fun vs H Q _ => ∃ (w : Addr) (k : Nat) (m : M) (L : Lay), vs = [.ref w, .int (k : Int)] ∧ WR C H w m L ∧ Ok m ∧ k < m.plies.length ∧ retV H Q (tV (leastTurn m k))
/-! a ply by its place -/
theorem plAt_of {ps : List Pl} {i : Nat} {p : Pl} (h : ps[i]? = some p) : plAt ps i = p := by
  unfold plAt
  rw [List.getD_eq_getElem?_getD, h]
  rfl
theorem WR.ply {C : Cs} {H : Hp} {w : Addr} {m : M} {L : Lay} (W : WR C H w m L) {k : Nat} (hk : k < m.plies.length) : ∃ q : Addr × Addr × Addr, (L.ps.map fun q => V.ref q.1)[k]? = some (.ref q.1) ∧ L.ps[k]? = some q ∧ m.plies[k]? = some (ply m k) ∧
    H q.1 = some (.ins C.P q.2.1 (pF (Bp.ply m k) q.2.2)) ∧ H q.2.2 = some (.lst ((Bp.ply m k).st.map V.int)) := by
  have h1 : L.ps[k]? = some (L.ps[k]'(by rw [W.pl]; exact hk)) := List.getElem?_eq_getElem _
  have h2 : m.plies[k]? = some m.plies[k] := List.getElem?_eq_getElem hk
  have e : Bp.ply m k = m.plies[k] := plAt_of h2
  rw [e]
  exact ⟨_, by rw [List.getElem?_map, h1]; rfl, h1, h2, W.pa k _ _ h1 h2⟩
theorem WR.plyOf {C : Cs} {H : Hp} {w : Addr} {m : M} {L : Lay} (W : WR C H w m L) {k : Nat} {x : V} (h : (L.ps.map fun q => V.ref q.1)[k]? = some x) : ∃ q : Addr × Addr × Addr, x = .ref q.1 ∧ k < m.plies.length ∧
    H q.1 = some (.ins C.P q.2.1 (pF (Bp.ply m k) q.2.2)) ∧ H q.2.2 = some (.lst ((Bp.ply m k).st.map V.int)) := by
  obtain ⟨q, hq, rfl⟩ := map_get h
  have hlt := (List.getElem?_eq_some_iff.mp hq).1
  rw [W.pl] at hlt
  obtain ⟨q', _, h1, _, h3, h4⟩ := W.ply hlt
  have e : q' = q := Option.some.inj (h1.symm.trans hq)
  subst e
  exact ⟨q', rfl, hlt, h3, h4⟩
theorem Ok.ply {m : M} (o : Ok m) {k : Nat} (hk : k < m.plies.length) : (Bp.ply m k).st ≠ [] ∧ (Bp.ply m k).st.length ≤ 10 ∧ (∀ z ∈ (Bp.ply m k).st, 0 ≤ z ∧ z < m.g) ∧ ∀ t, (Bp.ply m k).turn = some t → 0 ≤ t ∧ t < m.g := by
  have h2 : m.plies[k]? = some m.plies[k] := List.getElem?_eq_getElem hk
  have e : Bp.ply m k = m.plies[k] := plAt_of h2
  rw [e]
  exact o.p _ (List.getElem_mem hk)
theorem laid_turn {p : Pl} (h : p.laid = true) : ∃ t, p.turn = some t := Option.isSome_iff_exists.mp h
theorem laidUp_succ (ps : List Pl) (i : Nat) : laidUp ps (i + 1) = laidUp ps i ++ (if (plAt ps i).laid = true then [i] else []) := by
  unfold laidUp
  rw [List.range_succ, List.filter_append]
  congr 1
  cases c : (plAt ps i).laid <;> simp [List.filter_cons, c]
theorem laidUp_len (ps : List Pl) (i : Nat) : (laidUp ps i).length ≤ i := by
  unfold laidUp
  have := List.length_filter_le (fun j => (plAt ps j).laid) (List.range i)
  rwa [List.length_range] at this
theorem othersUp_succ (ps : List Pl) (k : Nat) (g : Int) (i : Nat) : othersUp ps k g (i + 1) = othersUp ps k g i ++ (if (i != k && (plAt ps i).laid) = true then placesI g (plAt ps i) else []) := by
  unfold othersUp
  rw [List.range_succ, List.filter_append, List.flatMap_append]
  congr 1
  cases c : (i != k && (plAt ps i).laid) <;> simp [List.filter_cons, c]
theorem othersUp_len {m : M} (o : Ok m) (k : Nat) : ∀ i, i ≤ m.plies.length → (othersUp m.plies k m.g i).length ≤ i * 10
  | 0, _ => Nat.zero_le _
  | i + 1, h => by
    rw [othersUp_succ, List.length_append]
    have := othersUp_len o k i (Nat.le_of_succ_le h)
    have h2 := (o.ply (k := i) h).2.1
    split
    · have e : (placesI m.g (plAt m.plies i)).length = (Bp.ply m i).st.length := by
        show ((plAt m.plies i).st.map _).length = _
        rw [List.length_map]
        rfl
      omega
    · simp only [List.length_nil]
      omega
theorem othersI_len {m : M} (o : Ok m) (k : Nat) : (othersI m k).length ≤ 120 := by
  have := othersUp_len o k _ (Nat.le_refl _)
  have := o.pl
  unfold othersI
  omega
theorem meets_range {ss ps ns : List Int} {g : Int} (hg : 0 < g) (h : IsMeets ss ps g ns) : ∀ x ∈ ns, 0 ≤ x ∧ x < g := fun x hx => by
  obtain ⟨p, _, s, _, rfl⟩ := (h.2 x).mp hx
  exact ⟨Int.emod_nonneg _ (by omega), Int.emod_lt_of_pos _ hg⟩
theorem find_range {p : Nat → Bool} {n i : Nat} (hi : i < n) (h1 : p i = true) (h2 : ∀ j, j < i → p j = false) : (List.range n).find? p = some i := by
  rw [List.find?_range_eq_some]
  exact ⟨h1, List.mem_range.mpr hi, fun j hj => by rw [h2 j hj]; rfl⟩
section
variable {P : Program} {w : World} {K : PySem.W.Frag} {mg : Str → Option Value} {base : Heap} {C : Cs} {aT : Addr}
abbrev sLN : Stmt := inClass (top 36) 3
abbrev nLN : List Str := ["self", "number", "ply"]
theorem scLN : FnScope nLN ["self"] (defScope sLN) := ⟨rfl, rfl, rfl, by decide +kernel, rfl, by decide +kernel, by decide +kernel⟩
theorem k_ln (T : Txt K mg C aT) (G : Gm K C.W "laid_numbers" "Works.laid_numbers" sLN) (kL : Km P w K mg base C.P "is_laid" 1 ["self"] (spLaid C)) : Km P w K mg base C.W "laid_numbers" 2 ["self"] (spLaidNums C) := by
  refine G.ok scLN (fun vs H Q E h => ?_) (fun _ _ _ _ _ _ us hl => match us, hl with | [_], _ => rfl) (fun f cdv A outer s H vs Q E hr h => ?_)
  · obtain ⟨a, m, L, rfl, _⟩ := h
    rfl
  obtain ⟨a, m, L, rfl, W, o, q⟩ := h
  refine ⟨_, pss_one (ps_ret (pe_lc (own := [("number", 1), ("ply", 2)]) (g := gTup K 2 (gCons (gName 1) (gCons (gName 2) gNil))) (tt := tB (tKm C.P "is_laid" (spLaid C) (tVar 2) tNil)) (te := tVar 1) rfl scLN.nd
    (pi_enum (by rfl) T.benum (pa_cons (pe_fld (pv 0) rfl) pa_nil)) (blkOk_by (N := nLN) (sc := defScope sLN) (by decide +kernel))
    (fun _ _ _ _ _ => pg_tup rfl (pgs_cons (pg_name (i := 1) scLN.nd rfl (Or.inl rfl) (Or.inr rfl)) (pgs_cons (pg_name (i := 2) scLN.nd rfl (Or.inl rfl) (Or.inr rfl)) pgs_nil)))
    (fun _ _ _ _ _ => pts_one (pt_val (pe_km0 kL T.clP hr (pv 2)))) (fun _ _ _ _ _ => pv 1))), ?_⟩
  refine ⟨_, rfl, a, _, _, _, _, rfl, W.wo, T.clW, T.wp, (by rfl : (wF m L.pr L.pp).lookup ("plies" : Str) = some (.ref L.pp)), L.pp, _, rfl, SqL.of W.po, fun D hD =>
    lc_it (walk_enum (K := K) (a := L.pp) (xs := L.ps.map fun q => V.ref q.1)) (fun i H' => Same H H' ∧ H' D = some (.lst (((laidUp m.plies i).map fun (k : Nat) => (k : Int)).map V.int))) ⟨same_new hD, upd_same⟩ (fun i H' _ r => r.1.seq (SqL.of W.po)) ?_ ?_⟩
  · rintro i z H' H'' hi ⟨u1, h1⟩ ⟨TT, x, y, rfl, hT, rfl, hx, hy⟩
    cases hx
    have u1' := u1.trans (same_new (o := HO.tup [.int (i : Nat), y]) hT)
    obtain ⟨qq, rfl, hlt, h3, h4⟩ := (W.mono u1').plyOf hy
    have nTD : D ≠ TT := fun e => by rw [← e, h1] at hT; cases hT
    have h1' : upd H' TT (.tup [.int (i : Nat), .ref qq.1]) D = some (.lst (((laidUp m.plies i).map fun (k : Nat) => (k : Int)).map V.int)) := by rw [upd_ne nTD]; exact h1
    refine ⟨TT, _, rfl, SqT.of upd_same, rfl, _, _, rfl, _, _, rfl, rfl, rfl, _, rfl, qq.1, _, _, rfl, h3, (by rfl), qq.1, _, _, _, rfl, h3, _, rfl, ?_⟩
    rw [laidUp_succ]
    show if (plAt m.plies i).laid = true then _ else _
    refine ite2 (fun c => ?_) (fun c => ?_)
    · refine ⟨_, rfl, _, h1', big' (by have := laidUp_len m.plies i; have := o.pl; simp only [List.length_map]; omega), same_put u1' hD, ?_⟩
      rw [upd_same, if_pos c]
      simp
    · refine ⟨u1', ?_⟩
      rw [if_neg c, List.append_nil]
      exact h1'
  · rintro H' ⟨u1, h1⟩
    refine q D H' hD u1 ?_
    rw [List.length_map, W.pl] at h1
    exact h1
abbrev sLC : Stmt := inClass (top 36) 4
theorem scLC : FnScope ["self"] ["self"] (defScope sLC) := ⟨rfl, rfl, rfl, by decide +kernel, rfl, by decide +kernel, by decide +kernel⟩
theorem k_lc (T : Txt K mg C aT) (G : Gm K C.W "laid_count" "Works.laid_count" sLC) (kN : Km P w K mg base C.W "laid_numbers" 2 ["self"] (spLaidNums C)) : Km P w K mg base C.W "laid_count" 3 ["self"] (spLaidCount C) := by
  refine G.ok scLC (fun vs H Q E h => ?_) (fun _ _ _ _ _ _ us hl => match us, hl with | [_], _ => rfl) (fun f cdv A outer s H vs Q E hr h => ?_)
  · obtain ⟨a, m, L, rfl, _⟩ := h
    rfl
  obtain ⟨a, m, L, rfl, W, o, q⟩ := h
  refine ⟨_, pss_one (ps_ret (pe_callB call_len_seq (by rfl) T.blen PySem.boot_len (pa_cons (pe_km0 kN T.clW hr (pv 0)) pa_nil))), ?_⟩
  refine ⟨_, rfl, a, _, _, rfl, W.wo, (by rfl), a, m, L, rfl, W, o, fun p H' hp s1 h1 => ⟨p, _, rfl, .inl (SqL.of h1), ?_⟩⟩
  have := q H' s1
  unfold laidI
  rw [List.length_map, List.length_map]
  exact this
abbrev sCO : Stmt := inClass (top 36) 5
theorem scCO : FnScope ["self", "fabric_width"] ["self", "fabric_width"] (defScope sCO) := ⟨rfl, rfl, rfl, by decide +kernel, rfl, by decide +kernel, by decide +kernel⟩
theorem k_co (T : Txt K mg C aT) (G : Gm K C.W "cover_of" "Works.cover_of" sCO) (kC : Kf P w K mg base "covered" 1 ["fabric_width", "a", "c"] spCov) : Km P w K mg base C.W "cover_of" 2 ["self", "fabric_width"] (spCover C) := by
  refine G.ok scCO (fun vs H Q E h => ?_) (fun _ _ _ _ _ _ us hl => match us, hl with | [_, _], _ => rfl) (fun f cdv A outer s H vs Q E hr h => ?_)
  · obtain ⟨a, fw, m, L, rfl, _⟩ := h
    rfl
  obtain ⟨a, fw, m, L, rfl, W, o, h1, h2, q⟩ := h
  have oa := o.a
  refine ⟨_, pss_one (ps_ret (pe_kf kC hr (by rfl) (pa_cons (pv 1) (pa_cons (pe_fld (pv 0) rfl) (pa_cons (pe_fld (pv 0) rfl) pa_nil))))), ?_⟩
  exact ⟨_, rfl, _, rfl, a, _, _, _, _, rfl, W.wo, T.clW, T.wa, (by rfl : (wF m L.pr L.pp).lookup ("a" : Str) = some (.int m.a)), _, rfl, a, _, _, _, _, rfl, W.wo, T.clW, T.wc, (by rfl : (wF m L.pr L.pp).lookup ("c" : Str) = some (.int m.c)),
    fw, m.a, m.c, rfl, by omega, by omega, by omega, by omega, q⟩
abbrev sPO : Stmt := inClass (top 36) 6
theorem scPO : FnScope ["self", "fabric_width"] ["self", "fabric_width"] (defScope sPO) := ⟨rfl, rfl, rfl, by decide +kernel, rfl, by decide +kernel, by decide +kernel⟩
theorem cover_pos {m : M} (o : Ok m) {fw : Int} (h1 : 1 ≤ fw) (h2 : fw ≤ 2000) : 0 < coveredI fw m.a m.c ∧ coveredI fw m.a m.c ≤ 2000000 ∧ fw ≤ coveredI fw m.a m.c := by
  have oa := o.a
  unfold coveredI
  have e1 : fw * m.a ≤ fw * m.c := Int.mul_le_mul_of_nonneg_left (by omega) (by omega)
  have e2 : fw ≤ fw * m.c / m.a := (Int.le_ediv_iff_mul_le (by omega)).mpr e1
  have e3 : fw * m.c ≤ 2000 * 1000 := Int.mul_le_mul h2 (by omega) (by omega) (by omega)
  have e4 : fw * m.c / m.a ≤ fw * m.c := Int.ediv_le_self _ (Int.mul_nonneg (by omega) (by omega))
  omega
theorem k_po (T : Txt K mg C aT) (G : Gm K C.W "pieces_of" "Works.pieces_of" sPO) (kC : Km P w K mg base C.W "cover_of" 2 ["self", "fabric_width"] (spCover C)) (kP : Kf P w K mg base "pieces_round" 1 ["cover", "girth", "shortest"] spPieces) : Km P w K mg base C.W "pieces_of" 3 ["self", "fabric_width"] (spPiecesOf C) := by
  refine G.ok scPO (fun vs H Q E h => ?_) (fun _ _ _ _ _ _ us hl => match us, hl with | [_, _], _ => rfl) (fun f cdv A outer s H vs Q E hr h => ?_)
  · obtain ⟨a, fw, m, L, rfl, _⟩ := h
    rfl
  obtain ⟨a, fw, m, L, rfl, W, o, h1, h2, q⟩ := h
  have og := o.g
  obtain ⟨c1, c2, _⟩ := cover_pos o h1 h2
  refine ⟨_, pss_one (ps_ret (pe_kf kP (hr.mono (by decide)) (by rfl) (pa_cons (pe_km kC T.clW hr (pv 0) (pa_cons (pv 1) pa_nil)) (pa_cons (pe_fld (pv 0) rfl) (pa_cons (pe_fld (pv 0) rfl) pa_nil))))), ?_⟩
  refine ⟨_, rfl, a, _, _, rfl, W.wo, (by rfl), _, rfl, a, fw, m, L, rfl, W, o, by omega, h2, ?_⟩
  exact ⟨_, rfl, a, _, _, _, _, rfl, W.wo, T.clW, T.wg, (by rfl : (wF m L.pr L.pp).lookup ("girth" : Str) = some (.int m.g)), _, rfl, a, _, _, _, _, rfl, W.wo, T.clW, T.ws, (by rfl : (wF m L.pr L.pp).lookup ("shortest" : Str) = some (.int m.s)),
    _, m.g, m.s, rfl, c1, c2, by omega, by omega, q⟩
abbrev sTB : Stmt := inClass (top 36) 7
theorem scTB : FnScope ["self", "pieces", "width"] ["self", "pieces", "width"] (defScope sTB) := ⟨rfl, rfl, rfl, by decide +kernel, rfl, by decide +kernel, by decide +kernel⟩
theorem k_tb (T : Txt K mg C aT) (G : Gm K C.W "taken_by" "Works.taken_by" sTB) (kT : Kf P w K mg base "taken" 1 ["ply_width", "a", "c"] spTaken) : Km P w K mg base C.W "taken_by" 2 ["self", "pieces", "width"] (spTakenBy K C) := by
  refine G.ok scTB (fun vs H Q E h => ?_) (fun _ _ _ _ _ _ us hl => match us, hl with | [_, _, _], _ => rfl) (fun f cdv A outer s H vs Q E hr h => ?_)
  · obtain ⟨a, b, ps, wd, m, L, rfl, _⟩ := h
    rfl
  obtain ⟨a, b, ps, wd, m, L, rfl, W, o, hs, hl, h1, h2, q⟩ := h
  have oa := o.a
  refine ⟨_, pss_one (ps_ret (pe_op op_mul (pe_callB call_len_seq (by rfl) T.blen PySem.boot_len (pa_cons (pv 1) pa_nil)) (pe_kf kT hr (by rfl) (pa_cons (pv 2) (pa_cons (pe_fld (pv 0) rfl) (pa_cons (pe_fld (pv 0) rfl) pa_nil)))))), ?_⟩
  refine ⟨_, rfl, b, _, rfl, .inl hs, _, rfl, _, rfl, a, _, _, _, _, rfl, W.wo, T.clW, T.wa, (by rfl : (wF m L.pr L.pp).lookup ("a" : Str) = some (.int m.a)), _, rfl, a, _, _, _, _, rfl, W.wo, T.clW, T.wc, (by rfl : (wF m L.pr L.pp).lookup ("c" : Str) = some (.int m.c)),
    wd, m.a, m.c, rfl, by omega, by omega, by omega, by omega, _, _, rfl, rfl, .inl ?_, ?_⟩
  · rw [List.length_map]; omega
  · rw [List.length_map]
    exact q
abbrev sMO : Stmt := inClass (top 36) 8
abbrev nMO : List Str := ["self", "number", "places", "other", "ply"]
theorem scMO : FnScope nMO ["self", "number"] (defScope sMO) := ⟨rfl, rfl, rfl, by decide +kernel, rfl, by decide +kernel, by decide +kernel⟩
theorem k_mo (T : Txt K mg C aT) (G : Gm K C.W "meets_of_others" "Works.meets_of_others" sMO) (kL : Km P w K mg base C.P "is_laid" 1 ["self"] (spLaid C)) (kP : Km P w K mg base C.P "places" 2 ["self", "girth"] (spPlaces C))
    (kM : Kf P w K mg base "meeting_turns" 1 ["starts", "places", "girth"] (spMeet K)) : Km P w K mg base C.W "meets_of_others" 3 ["self", "number"] (spMeetsOf C) := by
  refine G.ok scMO (fun vs H Q E h => ?_) (fun _ _ _ _ _ _ us hl => match us, hl with | [_, _], _ => rfl) (fun f cdv A outer s H vs Q E hr h => ?_)
  · obtain ⟨a, k, m, L, rfl, _⟩ := h
    rfl
  obtain ⟨a, k, m, L, rfl, W, o, hk, q⟩ := h
  have og := o.g
  have op := o.pl
  have hr1 : Room 1 (A.deeper (envOfC "Works.meets_of_others" (defScope sMO) s.heap.objs.size f cdv)) := hr.mono (by decide)
  refine ⟨_, pss_cons (ps_set (i := 2) scMO.nd rfl (Or.inl rfl) (pe_lst pa_nil))
    (pss_cons (ps_for PassesOwn.never rfl (pi_enum (by rfl) T.benum (pa_cons (pe_fld (pv 0) rfl) pa_nil)) (pg_tup rfl (pgs_cons (pg_name (i := 3) scMO.nd rfl (Or.inl rfl)) (pgs_cons (pg_name (i := 4) scMO.nd rfl (Or.inl rfl)) pgs_nil)))
      (pss_one (ps_if (PW.pt (pw_and (pt_cmpR op_ne (pv 3) (pv 1) (nomark _)) (pw_and1 (pt_val (pe_km0 kL T.clP hr1 (pv 4))))))
        (pss_one (ps_expr (pe_bm PySem.F.plainAttrs_list PySem.F.slot_list_extend PySem.F.type_list_extend mt_extend (pv 2) (pa_cons (pe_km kP T.clP hr (pv 4) (pa_cons (pe_fld (pv 0) rfl) pa_nil)) pa_nil)))) pss_nil)))
    (pss_one (ps_ret (pe_kf kM hr1 (by rfl) (pa_cons (pe_fld (pe_ix ix_list (pe_fld (pv 0) rfl) (pv 1) (fun _ _ => rfl)) rfl) (pa_cons (pv 2) (pa_cons (pe_fld (pv 0) rfl) pa_nil))))))), ?_⟩
  refine ⟨Nat.zero_le _, fun l1 hl1 => ?_⟩
  have s1 : Same H (upd H l1 (.lst [])) := same_new hl1
  refine ⟨_, rfl, a, _, _, _, _, rfl, (W.mono s1).wo, T.clW, T.wp, (by rfl : (wF m L.pr L.pp).lookup ("plies" : Str) = some (.ref L.pp)), L.pp, _, rfl, SqL.of (W.mono s1).po,
    for_it (walk_enum (K := K) (a := L.pp) (xs := L.ps.map fun q => V.ref q.1)) (fun i σ H' => ∃ v3 v4 : Option V, σ = [some (.ref a), some (.int (k : Int)), some (.ref l1), v3, v4] ∧ Same H H' ∧ H' l1 = some (.lst ((othersUp m.plies k m.g i).map V.int)))
      ⟨none, none, rfl, s1, upd_same⟩ (fun i σ H' _ ⟨_, _, _, r, _⟩ => r.seq (SqL.of W.po)) ?_ ?_⟩
  · rintro i z σ H' H'' hi ⟨v3, v4, rfl, u1, h1⟩ ⟨TT, x, y, rfl, hT, rfl, hx, hy⟩
    cases hx
    have u1' := u1.trans (same_new (o := HO.tup [.int (i : Nat), y]) hT)
    obtain ⟨qq, rfl, hlt, h3, h4⟩ := (W.mono u1').plyOf hy
    have nTl : l1 ≠ TT := fun e => by rw [← e, h1] at hT; cases hT
    have h1' : upd H' TT (.tup [.int (i : Nat), .ref qq.1]) l1 = some (.lst ((othersUp m.plies k m.g i).map V.int)) := by rw [upd_ne nTl]; exact h1
    have ol := othersUp_len o k i (by omega)
    have opl := o.ply hlt
    refine ⟨TT, _, rfl, SqT.of upd_same, rfl, _, _, rfl, _, _, rfl, rfl, ?_⟩
    refine ⟨_, rfl, _, rfl, rfl, _, rfl, ?_⟩
    have stay : (i != k && (plAt m.plies i).laid) = false → upd H' TT (.tup [.int (i : Nat), .ref qq.1]) l1 = some (.lst ((othersUp m.plies k m.g (i + 1)).map V.int)) := fun c => by
      rw [othersUp_succ, c, if_neg Bool.false_ne_true, List.append_nil]
      exact h1'
    have eik : decide (V.int ((i : Nat) : Int) = V.int (k : Int)) = decide (i = k) := by
      by_cases e : i = k
      · subst e; simp
      · rw [decide_eq_false e, decide_eq_false]
        intro h
        injection h with h
        omega
    rw [eik]
    by_cases c1 : i = k
    · rw [decide_eq_true c1]
      refine ⟨_, _, rfl, u1', stay ?_⟩
      simp [c1]
    · rw [decide_eq_false c1]
      refine ⟨_, rfl, qq.1, _, _, rfl, h3, (by rfl), qq.1, _, _, _, rfl, h3, _, rfl, ?_⟩
      refine ite2 (fun c => ?_) (fun c => ?_)
      · obtain ⟨t, ht⟩ := laid_turn c
        refine ⟨_, rfl, .inl ⟨rfl, _, SqL.of h1'⟩, _, rfl, qq.1, _, _, rfl, h3, (by rfl), _, rfl, a, _, _, _, _, rfl, (W.mono u1').wo, T.clW, T.wg, (by rfl : (wF m L.pr L.pp).lookup ("girth" : Str) = some (.int m.g)),
          qq.1, _, _, _, m.g, t, rfl, h3, h4, ht, by omega, by omega, fun p H3 hp s3 h5 => ?_⟩
        have e6 : (placesI m.g (Bp.ply m i)).length = (Bp.ply m i).st.length := by
          unfold placesI turnedI
          rw [List.length_map]
        refine ⟨l1, p, _, _, rfl, rfl, s3 _ _ h1', h5, big (by simp only [List.length_map]; omega), _, _, rfl, same_put (u1'.trans s3) hl1, ?_⟩
        rw [upd_same, othersUp_succ, if_pos (by simp [c1]; exact c), List.map_append]
        rfl
      · refine ⟨_, _, rfl, u1', stay ?_⟩
        have : (plAt m.plies i).laid = false := by
          cases h : (plAt m.plies i).laid with
          | false => rfl
          | true => exact absurd h c
        rw [this, Bool.and_false]
  · rintro σ H' ⟨v3, v4, rfl, u1, h1⟩
    rw [List.length_map, W.pl] at h1
    have W' := W.mono u1
    obtain ⟨qq, h2, _, _, h3, h4⟩ := W'.ply hk
    have okp := o.ply hk
    refine ⟨_, rfl, a, _, _, _, _, rfl, W'.wo, T.clW, T.wp, (by rfl : (wF m L.pr L.pp).lookup ("plies" : Str) = some (.ref L.pp)), _, rfl, L.pp, _, _, _, rfl, rfl, SqL.of W'.po, atI_nat h2,
      qq.1, _, _, _, _, rfl, h3, T.clP, T.pt, (by rfl : (pF (Bp.ply m k) qq.2.2).lookup ("starts" : Str) = some (.ref qq.2.2)), _, rfl, _, rfl, a, _, _, _, _, rfl, W'.wo, T.clW, T.wg, (by rfl : (wF m L.pr L.pp).lookup ("girth" : Str) = some (.int m.g)),
      qq.2.2, l1, _, _, m.g, rfl, SqL.of h4, SqL.of h1, by omega, by omega, okp.2.1, othersI_len o k, fun ns hn hl => (q ns hn hl).mono u1⟩
end
end Bp
namespace Bp
open PySem PySem.Spec PyProof.Rows L2
section
variable {P : Program} {w : World} {K : PySem.W.Frag} {mg : Str → Option Value} {base : Heap} {C : Cs} {aT : Addr}
abbrev sTO : Stmt := inClass (top 36) 9
theorem scTO : FnScope ["self", "number", "turn"] ["self", "number", "turn"] (defScope sTO) := ⟨rfl, rfl, rfl, by decide +kernel, rfl, by decide +kernel, by decide +kernel⟩
theorem k_to (T : Txt K mg C aT) (G : Gm K C.W "nearness_to_others" "Works.nearness_to_others" sTO) (kM : Km P w K mg base C.W "meets_of_others" 3 ["self", "number"] (spMeetsOf C)) (kN : Kf P w K mg base "nearness" 2 ["place", "others", "girth"] (spNear K)) :
    Km P w K mg base C.W "nearness_to_others" 4 ["self", "number", "turn"] (spToOthers C) := by
  refine G.ok scTO (fun vs H Q E h => ?_) (fun _ _ _ _ _ _ us hl => match us, hl with | [_, _, _], _ => rfl) (fun f cdv A outer s H vs Q E hr h => ?_)
  · obtain ⟨a, k, t, m, L, rfl, _⟩ := h
    rfl
  obtain ⟨a, k, t, m, L, rfl, W, o, hk, q⟩ := h
  have og := o.g
  refine ⟨_, pss_one (ps_ret (pe_kf kN (hr.mono (by decide)) (by rfl) (pa_cons (pv 2) (pa_cons (pe_km kM T.clW hr (pv 0) (pa_cons (pv 1) pa_nil)) (pa_cons (pe_fld (pv 0) rfl) pa_nil))))), ?_⟩
  refine ⟨_, rfl, _, rfl, a, _, _, rfl, W.wo, (by rfl), _, rfl, a, k, m, L, rfl, W, o, hk, fun ns hn hl p H' hp s1 h1 => ?_⟩
  refine ⟨_, rfl, a, _, _, _, _, rfl, (W.mono s1).wo, T.clW, T.wg, (by rfl : (wF m L.pr L.pp).lookup ("girth" : Str) = some (.int m.g)), p, t, ns, m.g, rfl, SqL.of h1, by omega, by omega, ?_⟩
  rw [near_meets hn]
  exact q.mono s1
abbrev sBTs : Stmt := inClass (top 36) 10
theorem scBTs : FnScope ["self", "number"] ["self", "number"] (defScope sBTs) := ⟨rfl, rfl, rfl, by decide +kernel, rfl, by decide +kernel, by decide +kernel⟩
theorem k_bts (T : Txt K mg C aT) (G : Gm K C.W "nearness_by_turns" "Works.nearness_by_turns" sBTs) (kM : Km P w K mg base C.W "meets_of_others" 3 ["self", "number"] (spMeetsOf C)) (kB : Kf P w K mg base "nearness_by_turn" 1 ["meets", "girth"] (spByTurn K)) :
    Km P w K mg base C.W "nearness_by_turns" 4 ["self", "number"] (spTurnsOf C) := by
  refine G.ok scBTs (fun vs H Q E h => ?_) (fun _ _ _ _ _ _ us hl => match us, hl with | [_, _], _ => rfl) (fun f cdv A outer s H vs Q E hr h => ?_)
  · obtain ⟨a, k, m, L, rfl, _⟩ := h
    rfl
  obtain ⟨a, k, m, L, rfl, W, o, hk, q⟩ := h
  have og := o.g
  refine ⟨_, pss_one (ps_ret (pe_kf kB (hr.mono (by decide)) (by rfl) (pa_cons (pe_km kM T.clW hr (pv 0) (pa_cons (pv 1) pa_nil)) (pa_cons (pe_fld (pv 0) rfl) pa_nil)))), ?_⟩
  refine ⟨_, rfl, a, _, _, rfl, W.wo, (by rfl), _, rfl, a, k, m, L, rfl, W, o, hk, fun ns hn hl p H' hp s1 h1 => ?_⟩
  refine ⟨_, rfl, a, _, _, _, _, rfl, (W.mono s1).wo, T.clW, T.wg, (by rfl : (wF m L.pr L.pp).lookup ("girth" : Str) = some (.int m.g)), p, ns, m.g, rfl, SqL.of h1, by omega, by omega, hn.1, meets_range (by omega) hn, hl, ?_⟩
  rw [byTurns_meets hn]
  exact q.mono s1
abbrev sLT : Stmt := inClass (top 36) 11
abbrev nLT : List Str := ["self", "number", "turn", "near"]
theorem scLT : FnScope nLT ["self", "number"] (defScope sLT) := ⟨rfl, rfl, rfl, by decide +kernel, rfl, by decide +kernel, by decide +kernel⟩
theorem turnsOf_get (m : M) (k i : Nat) {z : Int} (h : (turnsOf m k)[i]? = some z) : i < m.g.toNat ∧ z = toOthers m k (i : Int) := by
  unfold turnsOf byTurns at h
  rw [List.getElem?_map] at h
  by_cases c : i < m.g.toNat
  · rw [List.getElem?_range c] at h
    exact ⟨c, (Option.some.inj h).symm⟩
  · rw [List.getElem?_eq_none (by rw [List.length_range]; omega)] at h
    cases h
theorem turnsOf_len (m : M) (k : Nat) : (turnsOf m k).length = m.g.toNat := by
  unfold turnsOf byTurns
  simp only [List.length_map, List.length_range]
theorem k_lt (T : Txt K mg C aT) (G : Gm K C.W "least_turn" "Works.least_turn" sLT) (kB : Km P w K mg base C.W "nearness_by_turns" 4 ["self", "number"] (spTurnsOf C)) : Km P w K mg base C.W "least_turn" 5 ["self", "number"] (spLeastTurn C) := by
  refine G.ok scLT (fun vs H Q E h => ?_) (fun _ _ _ _ _ _ us hl => match us, hl with | [_, _], _ => rfl) (fun f cdv A outer s H vs Q E hr h => ?_)
  · obtain ⟨a, k, m, L, rfl, _⟩ := h
    rfl
  obtain ⟨a, k, m, L, rfl, W, o, hk, q⟩ := h
  refine ⟨_, pss_cons (ps_for PassesOwn.never rfl (pi_enum (by rfl) T.benum (pa_cons (pe_km kB T.clW hr (pv 0) (pa_cons (pv 1) pa_nil)) pa_nil)) (pg_tup rfl (pgs_cons (pg_name (i := 2) scLT.nd rfl (Or.inl rfl)) (pgs_cons (pg_name (i := 3) scLT.nd rfl (Or.inl rfl)) pgs_nil)))
      (pss_one (ps_if (pt_cmpR op_ge (pv 3) (pe_fld (pv 0) rfl) (nomark _)) (pss_one (ps_ret (pv 2))) pss_nil)))
    (pss_one (ps_ret pe_non)), ?_⟩
  refine ⟨_, rfl, a, _, _, rfl, W.wo, (by rfl), _, rfl, a, k, m, L, rfl, W, o, hk, fun p H1 hp s1 h1 => ?_⟩
  refine ⟨p, _, rfl, SqL.of h1, for_it (walk_enum (K := K) (a := p) (xs := (turnsOf m k).map V.int)) (fun i σ H' => ∃ v2 v3 : Option V, σ = [some (.ref a), some (.int (k : Int)), v2, v3] ∧ Same H1 H' ∧ ∀ j, j < i → ¬ m.n ≤ toOthers m k (j : Int))
    ⟨none, none, rfl, Same.refl _, fun j hj => absurd hj (Nat.not_lt_zero j)⟩ (fun i σ H' _ ⟨_, _, _, r, _⟩ => r.seq (SqL.of h1)) ?_ ?_⟩
  · rintro i z σ H' H'' hi ⟨v3, v4, rfl, u1, n1⟩ ⟨TT, x, y, rfl, hT, rfl, hx, hy⟩
    cases hx
    obtain ⟨v, hv, rfl⟩ := map_get hy
    obtain ⟨hi2, rfl⟩ := turnsOf_get m k i hv
    have u1' := u1.trans (same_new (o := HO.tup [.int (i : Nat), .int (toOthers m k (i : Int))]) hT)
    have W' := W.mono (s1.trans u1')
    refine ⟨TT, _, rfl, SqT.of upd_same, rfl, _, _, rfl, _, _, rfl, rfl, ?_⟩
    refine ⟨_, rfl, _, rfl, a, _, _, _, _, rfl, W'.wo, T.clW, T.wn, (by rfl : (wF m L.pr L.pp).lookup ("nearest" : Str) = some (.int m.n)), _, _, rfl, rfl, _, rfl, ?_⟩
    refine ite2 (fun c => ?_) (fun c => ?_)
    · have c := of_decide_eq_true c
      have e : leastTurn m k = some (i : Int) := by
        unfold leastTurn
        rw [find_range hi2 (decide_eq_true c) fun j hj => decide_eq_false (n1 j hj)]
        rfl
      rw [e] at q
      exact ⟨_, rfl, q _ (s1.trans u1')⟩
    · have c : ¬ m.n ≤ toOthers m k (i : Int) := fun h => c (decide_eq_true h)
      refine ⟨_, _, rfl, u1', fun j hj => ?_⟩
      rcases Nat.lt_or_eq_of_le (Nat.le_of_lt_succ hj) with h | rfl
      · exact n1 j h
      · exact c
  · rintro σ H' ⟨v3, v4, rfl, u1, n1⟩
    have e : leastTurn m k = none := by
      unfold leastTurn
      rw [List.find?_eq_none.mpr fun j hj => ?_]
      · rfl
      · have := n1 j (by rw [List.length_map, turnsOf_len]; exact List.mem_range.mp hj)
        simpa using this
    rw [e] at q
    exact q _ (s1.trans u1)
end
end Bp
namespace Bp
open PySem PySem.Spec PyProof.Rows L2
/-- a call that changes nothing: the object, what is told; the answer in a new list -/
def spRo (K : PySem.W.Frag) (C : Cs) (n : Nat) (f : M → List Int → List Int) : Sp := fun vs H Q _ => ∃ (w b : Addr) (m : M) (L : Lay) (ts : List Int), vs = [.ref w, .ref b] ∧ WR C H w m L ∧ Ok m ∧ SqL K H b (ts.map V.int) ∧ ts.length = n ∧ (∀ z ∈ ts, 0 ≤ z) ∧ retL H Q (f m ts)
theorem one1 : 1 ≤ sizeLine := by decide
theorem told1 {ts : List Int} (h : ts.length = 1) (h0 : ∀ z ∈ ts, 0 ≤ z) : ∃ k : Nat, ts = [(k : Int)] := by
  match ts, h with
  | [k], _ => exact ⟨k.toNat, by have := h0 k (by simp); rw [Int.toNat_of_nonneg this]⟩
theorem told2 {ts : List Int} (h : ts.length = 2) (h0 : ∀ z ∈ ts, 0 ≤ z) : ∃ k t : Nat, ts = [(k : Int), (t : Int)] := by
  match ts, h with
  | [k, t], _ => exact ⟨k.toNat, t.toNat, by have := h0 k (by simp); have := h0 t (by simp); rw [Int.toNat_of_nonneg (by assumption), Int.toNat_of_nonneg (by assumption)]⟩
theorem tl0 (k : Int) (r : List Int) : tl (k :: r) 0 = k := rfl
theorem tl1 (k t : Int) (r : List Int) : tl (k :: t :: r) 1 = t := rfl
theorem hasP_true {m : M} {k : Nat} (h : hasP m (k : Int) = true) : k < m.plies.length := by
  have := of_decide_eq_true h
  omega
theorem hasR_true {m : M} {k : Nat} (h : hasR m (k : Int) = true) : k < m.rolls.length := by
  have := of_decide_eq_true h
  omega
theorem rAt_of {rs : List Bp.R} {i : Nat} {p : Bp.R} (h : rs[i]? = some p) : rAt rs i = p := by
  unfold rAt
  rw [List.getD_eq_getElem?_getD, h]
  rfl
theorem WR.roll {C : Cs} {H : Hp} {w : Addr} {m : M} {L : Lay} (W : WR C H w m L) {k : Nat} (hk : k < m.rolls.length) : ∃ q : Addr × Addr, (L.rs.map fun q => V.ref q.1)[k]? = some (.ref q.1) ∧ L.rs[k]? = some q ∧ m.rolls[k]? = some (rAt m.rolls k) ∧
    H q.1 = some (.ins C.R q.2 (rF (rAt m.rolls k))) := by
  have h1 : L.rs[k]? = some (L.rs[k]'(by rw [W.rl]; exact hk)) := List.getElem?_eq_getElem _
  have h2 : m.rolls[k]? = some m.rolls[k] := List.getElem?_eq_getElem hk
  have e : rAt m.rolls k = m.rolls[k] := rAt_of h2
  rw [e]
  exact ⟨_, by rw [List.getElem?_map, h1]; rfl, h1, h2, W.ra k _ _ h1 h2⟩
theorem Ok.roll {m : M} (o : Ok m) {k : Nat} (hk : k < m.rolls.length) : 150 ≤ (rAt m.rolls k).w ∧ (rAt m.rolls k).w ≤ 2000 ∧ 0 ≤ (rAt m.rolls k).left ∧ (rAt m.rolls k).left ≤ (rAt m.rolls k).l ∧ (rAt m.rolls k).l ≤ 1000000 := by
  have h2 : m.rolls[k]? = some m.rolls[k] := List.getElem?_eq_getElem hk
  rw [rAt_of h2]
  exact o.r _ (List.getElem_mem hk)
theorem mx_eq {l : List Int} {v : Int} (h : v ∈ l) (hl : ∀ y ∈ l, y ≤ v) : mx l = v := by
  have key : ∀ (r : List Int) (d : Int), (d ≤ v) → (∀ y ∈ r, y ≤ v) → (v = d ∨ v ∈ r) → r.foldl max d = v := by
    intro r
    induction r with
    | nil =>
      intro d _ _ h
      rcases h with h | h
      · exact h.symm
      · cases h
    | cons a r ih =>
      intro d hd hr h
      rw [List.foldl_cons]
      have ha := hr a List.mem_cons_self
      refine ih _ (by omega) (fun y hy => hr y (List.mem_cons_of_mem _ hy)) ?_
      rcases h with h | h
      · left; omega
      · rcases List.mem_cons.mp h with h | h
        · left; omega
        · exact .inr h
  unfold mx
  cases l with
  | nil => cases h
  | cons a r =>
    have ha := hl a List.mem_cons_self
    show (a :: r).foldl max a = v
    exact key _ _ ha hl (.inr h)
end Bp
namespace Bp
open PySem PySem.Spec PyProof.Rows L2
section
variable {P : Program} {w : World} {K : PySem.W.Frag} {mg : Str → Option Value} {base : Heap} {C : Cs} {aT : Addr}
abbrev WT : List Str := ["works", "told"]
abbrev sLeast : Stmt := top 17
abbrev nLeast : List Str := ["works", "told", "number", "turn"]
theorem scLeast : FnScope nLeast WT (defScope sLeast) := ⟨rfl, rfl, rfl, by decide +kernel, rfl, by decide +kernel, by decide +kernel⟩
theorem k_least (T : Txt K mg C aT) (G : Gf K mg "least" sLeast) (kH : Km P w K mg base C.W "has_ply" 1 ["self", "number"] (spHasP C)) (kL : Km P w K mg base C.P "is_laid" 1 ["self"] (spLaid C))
    (kT : Km P w K mg base C.W "least_turn" 5 ["self", "number"] (spLeastTurn C)) : Kf P w K mg base "least" 6 WT (spRo K C 1 aLeast) := by
  refine G.ok scLeast (fun vs H Q E h => ?_) (fun _ _ _ _ _ _ us hl => match us, hl with | [_, _], _ => rfl) (fun f cdv A outer s H vs Q E hr h => ?_)
  · obtain ⟨a, b, m, L, ts, rfl, _⟩ := h
    rfl
  obtain ⟨a, b, m, L, ts, rfl, W, o, hs, ht, h0, q⟩ := h
  obtain ⟨k, rfl⟩ := told1 ht h0
  have hr1 : Room 1 (A.deeper (envOfC "least" (defScope sLeast) s.heap.objs.size f cdv)) := hr.mono (by decide)
  refine ⟨_, pss_cons (ps_set (i := 2) scLeast.nd rfl (Or.inl rfl) (pe_ix ix_list (pv 1) pe_int (fun _ _ => rfl)))
    (pss_cons (ps_if (pt_not (pt_val (pe_km kH T.clW hr1 (pv 0) (pa_cons (pv 2) pa_nil)))) (pss_one (ps_ret (pe_lst (pa_cons (pe_gi (by rfl) T.nNS) pa_nil)))) pss_nil)
    (pss_cons (ps_if (pt_val (pe_km0 kL T.clP hr1 (pe_ix ix_list (pe_fld (pv 0) rfl) (pv 2) (fun _ _ => rfl)))) (pss_one (ps_ret (pe_lst (pa_cons (pe_gi (by rfl) T.nAL) pa_nil)))) pss_nil)
    (pss_cons (ps_set (i := 3) scLeast.nd rfl (Or.inl rfl) (pe_km kT T.clW hr (pv 0) (pa_cons (pv 2) pa_nil)))
    (pss_cons (ps_if (pt_cmpR op_isN (pv 3) pe_non (nomark _)) (pss_one (ps_ret (pe_lst (pa_cons (pe_gi (by rfl) T.nCB) pa_nil)))) pss_nil)
    (pss_one (ps_ret (pe_lst (pa_cons (pv 3) pa_nil)))))))), ?_⟩
  change retL H Q (if hasP m (k : Int) = false then [-2] else if (Bp.ply m k).laid = true then [-17] else match leastTurn m k with | none => [-33] | some t => [t]) at q
  refine ⟨_, rfl, b, _, _, _, rfl, rfl, hs, (by rfl : atI [V.int (k : Int)] 0 = some _), ?_⟩
  refine ⟨_, rfl, a, _, _, rfl, W.wo, (by rfl), _, rfl, a, _, m, L, rfl, W, _, rfl, ?_⟩
  cases c : hasP m (k : Int) with
  | false =>
    rw [if_pos c] at q
    exact ⟨one1, fun p hp => q.new (Same.refl _) hp⟩
  | true =>
    rw [if_neg (by rw [c]; simp)] at q
    have hk := hasP_true c
    obtain ⟨qq, h2, _, _, h3, h4⟩ := W.ply hk
    refine ⟨_, rfl, a, _, _, _, _, rfl, W.wo, T.clW, T.wp, (by rfl : (wF m L.pr L.pp).lookup ("plies" : Str) = some (.ref L.pp)), _, rfl, L.pp, _, _, _, rfl, rfl, SqL.of W.po, atI_nat h2, qq.1, _, _, rfl, h3, (by rfl), qq.1, _, _, _, rfl, h3, _, rfl, ?_⟩
    refine ite2 (fun c2 => ?_) (fun c2 => ?_)
    · rw [if_pos c2] at q
      exact ⟨one1, fun p hp => q.new (Same.refl _) hp⟩
    · rw [if_neg c2] at q
      refine ⟨_, rfl, a, _, _, rfl, W.wo, (by rfl), _, rfl, a, k, m, L, rfl, W, o, hk, fun H' s1 => ?_⟩
      refine ⟨_, rfl, rfl, _, rfl, ?_⟩
      cases e : leastTurn m k with
      | none =>
        rw [e] at q
        exact ⟨one1, fun p hp => q.new s1 hp⟩
      | some t =>
        rw [e] at q
        exact ⟨_, rfl, one1, fun p hp => q.new s1 hp⟩
abbrev sFits : Stmt := top 19
abbrev nFits : List Str := ["works", "told", "number", "turn", "reached"]
theorem scFits : FnScope nFits WT (defScope sFits) := ⟨rfl, rfl, rfl, by decide +kernel, rfl, by decide +kernel, by decide +kernel⟩
theorem two2 : 2 ≤ sizeLine := by decide
theorem k_fits (T : Txt K mg C aT) (G : Gf K mg "fits" sFits) (kH : Km P w K mg base C.W "has_ply" 1 ["self", "number"] (spHasP C)) (kT : Km P w K mg base C.W "nearness_to_others" 4 ["self", "number", "turn"] (spToOthers C)) :
    Kf P w K mg base "fits" 5 WT (spRo K C 2 aFits) := by
  refine G.ok scFits (fun vs H Q E h => ?_) (fun _ _ _ _ _ _ us hl => match us, hl with | [_, _], _ => rfl) (fun f cdv A outer s H vs Q E hr h => ?_)
  · obtain ⟨a, b, m, L, ts, rfl, _⟩ := h
    rfl
  obtain ⟨a, b, m, L, ts, rfl, W, o, hs, ht, h0, q⟩ := h
  obtain ⟨k, t, rfl⟩ := told2 ht h0
  have hr1 : Room 1 (A.deeper (envOfC "fits" (defScope sFits) s.heap.objs.size f cdv)) := hr.mono (by decide)
  refine ⟨_, pss_cons (ps_asg (pv 1) (pg_lst rfl (pgs_cons (pg_name (i := 2) scFits.nd rfl (Or.inl rfl)) (pgs_cons (pg_name (i := 3) scFits.nd rfl (Or.inl rfl)) pgs_nil))))
    (pss_cons (ps_if (pt_not (pt_val (pe_km kH T.clW hr1 (pv 0) (pa_cons (pv 2) pa_nil)))) (pss_one (ps_ret (pe_lst (pa_cons (pe_gi (by rfl) T.nNS) pa_nil)))) pss_nil)
    (pss_cons (ps_if (pt_cmpR op_ge (pv 3) (pe_fld (pv 0) rfl) (nomark _)) (pss_one (ps_ret (pe_lst (pa_cons (pe_gi (by rfl) T.nOR) pa_nil)))) pss_nil)
    (pss_cons (ps_set (i := 4) scFits.nd rfl (Or.inl rfl) (pe_km kT T.clW hr (pv 0) (pa_cons (pv 2) (pa_cons (pv 3) pa_nil))))
    (pss_one (ps_ret (pe_lst (pa_cons (pe_ifExp (pt_cmpR op_ge (pv 4) (pe_fld (pv 0) rfl) (nomark _)) pe_int pe_int) (pa_cons (pv 4) pa_nil)))))))), ?_⟩
  change retL H Q (if hasP m (k : Int) = false then [-2] else if m.g ≤ (t : Int) then [-22] else [if m.n ≤ toOthers m k (t : Int) then 1 else 0, toOthers m k (t : Int)]) at q
  refine ⟨_, rfl, b, _, rfl, hs, rfl, _, _, rfl, _, _, rfl, rfl, ?_⟩
  refine ⟨_, rfl, a, _, _, rfl, W.wo, (by rfl), _, rfl, a, _, m, L, rfl, W, _, rfl, ?_⟩
  cases c : hasP m (k : Int) with
  | false =>
    rw [if_pos c] at q
    exact ⟨one1, fun p hp => q.new (Same.refl _) hp⟩
  | true =>
    rw [if_neg (by rw [c]; simp)] at q
    have hk := hasP_true c
    refine ⟨_, rfl, _, rfl, a, _, _, _, _, rfl, W.wo, T.clW, T.wg, (by rfl : (wF m L.pr L.pp).lookup ("girth" : Str) = some (.int m.g)), _, _, rfl, rfl, _, rfl, ?_⟩
    refine ite2 (fun c2 => ?_) (fun c2 => ?_)
    · rw [if_pos (of_decide_eq_true c2)] at q
      exact ⟨one1, fun p hp => q.new (Same.refl _) hp⟩
    · rw [if_neg (fun h => c2 (decide_eq_true h))] at q
      refine ⟨_, rfl, a, _, _, rfl, W.wo, (by rfl), _, rfl, _, rfl, a, k, _, m, L, rfl, W, o, hk, fun H' s1 => ?_⟩
      refine ⟨_, rfl, _, rfl, a, _, _, _, _, rfl, (W.mono s1).wo, T.clW, T.wn, (by rfl : (wF m L.pr L.pp).lookup ("nearest" : Str) = some (.int m.n)), _, _, rfl, rfl, _, rfl, ?_⟩
      refine ite2 (fun c3 => ?_) (fun c3 => ?_)
      · rw [if_pos (of_decide_eq_true c3)] at q
        exact ⟨_, rfl, two2, fun p hp => q.new s1 hp⟩
      · rw [if_neg (fun h => c3 (decide_eq_true h))] at q
        exact ⟨_, rfl, two2, fun p hp => q.new s1 hp⟩
abbrev sBest : Stmt := top 18
abbrev nBest : List Str := ["works", "told", "number", "itself", "reached", "farthest"]
theorem scBest : FnScope nBest WT (defScope sBest) := ⟨rfl, rfl, rfl, by decide +kernel, rfl, by decide +kernel, by decide +kernel⟩
theorem k_best (T : Txt K mg C aT) (G : Gf K mg "best" sBest) (kH : Km P w K mg base C.W "has_ply" 1 ["self", "number"] (spHasP C)) (kL : Km P w K mg base C.P "is_laid" 1 ["self"] (spLaid C)) (kC : Km P w K mg base C.W "laid_count" 3 ["self"] (spLaidCount C))
    (kB : Km P w K mg base C.W "nearness_by_turns" 4 ["self", "number"] (spTurnsOf C)) : Kf P w K mg base "best" 5 WT (spRo K C 1 aBest) := by
  refine G.ok scBest (fun vs H Q E h => ?_) (fun _ _ _ _ _ _ us hl => match us, hl with | [_, _], _ => rfl) (fun f cdv A outer s H vs Q E hr h => ?_)
  · obtain ⟨a, b, m, L, ts, rfl, _⟩ := h
    rfl
  obtain ⟨a, b, m, L, ts, rfl, W, o, hs, ht, h0, q⟩ := h
  obtain ⟨k, rfl⟩ := told1 ht h0
  have og := o.g
  have hr1 : Room 1 (A.deeper (envOfC "best" (defScope sBest) s.heap.objs.size f cdv)) := hr.mono (by decide)
  have hr3 : Room 3 (A.deeper (envOfC "best" (defScope sBest) s.heap.objs.size f cdv)) := hr.mono (by decide)
  refine ⟨_, pss_cons (ps_set (i := 2) scBest.nd rfl (Or.inl rfl) (pe_ix ix_list (pv 1) pe_int (fun _ _ => rfl)))
    (pss_cons (ps_if (pt_not (pt_val (pe_km kH T.clW hr1 (pv 0) (pa_cons (pv 2) pa_nil)))) (pss_one (ps_ret (pe_lst (pa_cons (pe_gi (by rfl) T.nNS) pa_nil)))) pss_nil)
    (pss_cons (ps_set (i := 3) scBest.nd rfl (Or.inl rfl) (pe_ifExp (pt_val (pe_km0 kL T.clP hr1 (pe_ix ix_list (pe_fld (pv 0) rfl) (pv 2) (fun _ _ => rfl)))) pe_int pe_int))
    (pss_cons (ps_if (pt_cmpR op_eq (pe_km0 kC T.clW hr3 (pv 0)) (pv 3) (nomark _)) (pss_one (ps_ret (pe_lst (pa_cons (pe_gi (by rfl) T.nNL) pa_nil)))) pss_nil)
    (pss_cons (ps_set (i := 4) scBest.nd rfl (Or.inl rfl) (pe_km kB T.clW hr (pv 0) (pa_cons (pv 2) pa_nil)))
    (pss_cons (ps_set (i := 5) scBest.nd rfl (Or.inl rfl) (pe_callB (cr_max rfl) (by rfl) T.bmax boot_max (pa_cons (pv 4) pa_nil)))
    (pss_one (ps_ret (pe_lst (pa_cons (pe_bm PySem.F.plainAttrs_list PySem.F.slot_list_index PySem.F.type_list_index mt_index (pv 4) (pa_cons (pv 5) pa_nil)) (pa_cons (pv 5) pa_nil)))))))))), ?_⟩
  change retL H Q (if hasP m (k : Int) = false then [-2] else if (laidN m.plies).length = (if (Bp.ply m k).laid = true then 1 else 0) then [-6] else [(((turnsOf m k).idxOf (mx (turnsOf m k)) : Nat) : Int), mx (turnsOf m k)]) at q
  refine ⟨_, rfl, b, _, _, _, rfl, rfl, hs, (by rfl : atI [V.int (k : Int)] 0 = some _), ?_⟩
  refine ⟨_, rfl, a, _, _, rfl, W.wo, (by rfl), _, rfl, a, _, m, L, rfl, W, _, rfl, ?_⟩
  cases c : hasP m (k : Int) with
  | false =>
    rw [if_pos c] at q
    exact ⟨one1, fun p hp => q.new (Same.refl _) hp⟩
  | true =>
    rw [if_neg (by rw [c]; simp)] at q
    have hk := hasP_true c
    obtain ⟨qq, h2, _, _, h3, h4⟩ := W.ply hk
    refine ⟨_, rfl, a, _, _, _, _, rfl, W.wo, T.clW, T.wp, (by rfl : (wF m L.pr L.pp).lookup ("plies" : Str) = some (.ref L.pp)), _, rfl, L.pp, _, _, _, rfl, rfl, SqL.of W.po, atI_nat h2, qq.1, _, _, rfl, h3, (by rfl), qq.1, _, _, _, rfl, h3, _, rfl, ?_⟩
    have rest : ∀ z : Nat, (retL H Q (if (laidN m.plies).length = z then [-6] else [(((turnsOf m k).idxOf (mx (turnsOf m k)) : Nat) : Int), mx (turnsOf m k)])) →
        (tSeq (tIfS (tTest (tOp rEq (tKm C.W "laid_count" (spLaidCount C) (tVar 0) tNil) (tVar 3))) (tRet (tLst (tCons (tC (.int (-6))) tNil))) tNext)
          (tSeq (tAsg (tKm C.W "nearness_by_turns" (spTurnsOf C) (tVar 0) (tCons (tVar 2) tNil)) (gName 4)) (tSeq (tAsg (tCB (rMax K) (tCons (tVar 4) tNil)) (gName 5))
            (tRet (tLst (tCons (tBM K "list" (rIndex K) (tVar 4) (tCons (tVar 5) tNil)) (tCons (tVar 5) tNil))))))) { nx := fun _ H' => Q .non H', rt := Q } [some (.ref a), some (.ref b), some (.int (k : Int)), some (.int (z : Int)), none, none] H := fun z q => by
      refine ⟨_, rfl, a, _, _, rfl, W.wo, (by rfl), a, m, L, rfl, W, o, fun H' s1 => ?_⟩
      have W' := W.mono s1
      refine ⟨_, rfl, rfl, _, rfl, ?_⟩
      refine ite2 (fun c2 => ?_) (fun c2 => ?_)
      · have c2 := of_decide_eq_true c2
        injection c2 with c2
        rw [if_pos (by omega)] at q
        exact ⟨one1, fun p hp => q.new s1 hp⟩
      · rw [if_neg (fun h => c2 (decide_eq_true (by rw [h])))] at q
        refine ⟨_, rfl, a, _, _, rfl, W'.wo, (by rfl), _, rfl, a, k, m, L, rfl, W', o, hk, fun p H2 hp s2 h5 => ?_⟩
        have hlen := turnsOf_len m k
        refine ⟨_, rfl, p, _, rfl, SqL.of h5, by omega, fun v hv hmax => ?_⟩
        have emx := mx_eq hv hmax
        have hidx : (turnsOf m k).idxOf v < (turnsOf m k).length := List.idxOf_lt_length_iff.mpr hv
        refine ⟨_, rfl, .inl ⟨rfl, _, SqL.of h5⟩, _, rfl, p, _, _, (turnsOf m k).idxOf v, .int v, rfl, rfl, SqL.of h5, rfl, ?_, ?_, ?_, ?_, _, rfl, two2, fun p2 hp2 => ?_⟩
        · rw [List.all_map, List.all_eq_true]
          intro x _
          rfl
        · rw [List.getElem?_map, List.getElem?_eq_getElem hidx, List.getElem_idxOf]
          rfl
        · show (v == v) = true
          simp
        · intro j z' hj hz
          obtain ⟨y, hy, rfl⟩ := map_get hz
          show (y == v) = false
          have := List.not_of_lt_findIdx hj
          rw [(List.getElem?_eq_some_iff.mp hy).2] at this
          simpa using this
        · rw [emx] at q
          exact q.new (s1.trans s2) hp2
    refine ite2 (fun c2 => ?_) (fun c2 => ?_)
    · rw [if_pos c2] at q
      exact rest 1 q
    · rw [if_neg c2] at q
      exact rest 0 q
end
end Bp
namespace Bp
open PySem PySem.Spec PyProof.Rows L2
section
variable {P : Program} {w : World} {K : PySem.W.Frag} {mg : Str → Option Value} {base : Heap} {C : Cs} {aT : Addr}
abbrev sNe : Stmt := top 20
abbrev nNe : List Str := ["works", "told", "first", "second", "one", "other", "meets"]
theorem scNe : FnScope nNe WT (defScope sNe) := ⟨rfl, rfl, rfl, by decide +kernel, rfl, by decide +kernel, by decide +kernel⟩
theorem k_near (T : Txt K mg C aT) (G : Gf K mg "near" sNe) (kH : Km P w K mg base C.W "has_ply" 1 ["self", "number"] (spHasP C)) (kL : Km P w K mg base C.P "is_laid" 1 ["self"] (spLaid C)) (kP : Km P w K mg base C.P "places" 2 ["self", "girth"] (spPlaces C))
    (kM : Kf P w K mg base "meeting_turns" 1 ["starts", "places", "girth"] (spMeet K)) (kN : Kf P w K mg base "nearness" 2 ["place", "others", "girth"] (spNear K)) : Kf P w K mg base "near" 3 WT (spRo K C 2 aNear) := by
  refine G.ok scNe (fun vs H Q E h => ?_) (fun _ _ _ _ _ _ us hl => match us, hl with | [_, _], _ => rfl) (fun f cdv A outer s H vs Q E hr h => ?_)
  · obtain ⟨a, b, m, L, ts, rfl, _⟩ := h
    rfl
  obtain ⟨a, b, m, L, ts, rfl, W, o, hs, ht, h0, q⟩ := h
  obtain ⟨k, t, rfl⟩ := told2 ht h0
  have og := o.g
  have hr1 : Room 1 (A.deeper (envOfC "near" (defScope sNe) s.heap.objs.size f cdv)) := hr.mono (by decide)
  refine ⟨_, pss_cons (ps_asg (pv 1) (pg_lst rfl (pgs_cons (pg_name (i := 2) scNe.nd rfl (Or.inl rfl)) (pgs_cons (pg_name (i := 3) scNe.nd rfl (Or.inl rfl)) pgs_nil))))
    (pss_cons (ps_if (PW.pt (pw_or (pt_not (pt_val (pe_km kH T.clW hr1 (pv 0) (pa_cons (pv 2) pa_nil)))) (pw_or1 (pt_not (pt_val (pe_km kH T.clW hr1 (pv 0) (pa_cons (pv 3) pa_nil))))))) (pss_one (ps_ret (pe_lst (pa_cons (pe_gi (by rfl) T.nNS) pa_nil)))) pss_nil)
    (pss_cons (ps_if (pt_cmpR op_eq (pv 2) (pv 3) (nomark _)) (pss_one (ps_ret (pe_lst (pa_cons (pe_gi (by rfl) T.nOR) pa_nil)))) pss_nil)
    (pss_cons (ps_set (i := 4) scNe.nd rfl (Or.inl rfl) (pe_ix ix_list (pe_fld (pv 0) rfl) (pv 2) (fun _ _ => rfl)))
    (pss_cons (ps_set (i := 5) scNe.nd rfl (Or.inl rfl) (pe_ix ix_list (pe_fld (pv 0) rfl) (pv 3) (fun _ _ => rfl)))
    (pss_cons (ps_if (PW.pt (pw_or (pt_not (pt_val (pe_km0 kL T.clP hr1 (pv 4)))) (pw_or1 (pt_not (pt_val (pe_km0 kL T.clP hr1 (pv 5))))))) (pss_one (ps_ret (pe_lst (pa_cons (pe_gi (by rfl) T.nNL) pa_nil)))) pss_nil)
    (pss_cons (ps_set (i := 6) scNe.nd rfl (Or.inl rfl) (pe_kf kM hr1 (by rfl) (pa_cons (pe_fld (pv 4) rfl) (pa_cons (pe_km kP T.clP hr (pv 5) (pa_cons (pe_fld (pv 0) rfl) pa_nil)) (pa_cons (pe_fld (pv 0) rfl) pa_nil)))))
    (pss_one (ps_ret (pe_lst (pa_cons (pe_kf kN hr (by rfl) (pa_cons (pe_fld (pv 4) rfl) (pa_cons (pv 6) (pa_cons (pe_fld (pv 0) rfl) pa_nil)))) pa_nil)))))))))), ?_⟩
  change retL H Q (if hasP m (k : Int) = false ∨ hasP m (t : Int) = false then [-2] else if (k : Int) = (t : Int) then [-22] else if (Bp.ply m k).laid = false ∨ (Bp.ply m t).laid = false then [-6] else [near2 (Bp.ply m k).st (placesI m.g (Bp.ply m t)) ((Bp.ply m k).turn.getD 0) m.g]) at q
  refine ⟨_, rfl, b, _, rfl, hs, rfl, _, _, rfl, _, _, rfl, rfl, ?_⟩
  refine ⟨_, rfl, a, _, _, rfl, W.wo, (by rfl), _, rfl, a, _, m, L, rfl, W, _, rfl, ?_⟩
  cases c : hasP m (k : Int) with
  | false =>
    rw [if_pos (.inl c)] at q
    exact ⟨one1, fun p hp => q.new (Same.refl _) hp⟩
  | true =>
  refine ⟨_, rfl, a, _, _, rfl, W.wo, (by rfl), _, rfl, a, _, m, L, rfl, W, _, rfl, ?_⟩
  cases c2 : hasP m (t : Int) with
  | false =>
    rw [if_pos (.inr c2)] at q
    exact ⟨one1, fun p hp => q.new (Same.refl _) hp⟩
  | true =>
  rw [if_neg (by rw [c, c2]; simp)] at q
  have hk := hasP_true c
  have ht2 := hasP_true c2
  obtain ⟨q1, h12, _, _, h13, h14⟩ := W.ply hk
  obtain ⟨q2, h22, _, _, h23, h24⟩ := W.ply ht2
  refine ⟨_, rfl, _, rfl, rfl, _, rfl, ?_⟩
  refine ite2 (fun c3 => ?_) (fun c3 => ?_)
  · have c3 := of_decide_eq_true c3
    injection c3 with c3
    rw [if_pos c3] at q
    exact ⟨one1, fun p hp => q.new (Same.refl _) hp⟩
  rw [if_neg (fun h => c3 (decide_eq_true (by rw [h])))] at q
  refine ⟨_, rfl, a, _, _, _, _, rfl, W.wo, T.clW, T.wp, (by rfl : (wF m L.pr L.pp).lookup ("plies" : Str) = some (.ref L.pp)), _, rfl, L.pp, _, _, _, rfl, rfl, SqL.of W.po, atI_nat h12, ?_⟩
  refine ⟨_, rfl, a, _, _, _, _, rfl, W.wo, T.clW, T.wp, (by rfl : (wF m L.pr L.pp).lookup ("plies" : Str) = some (.ref L.pp)), _, rfl, L.pp, _, _, _, rfl, rfl, SqL.of W.po, atI_nat h22, ?_⟩
  refine ⟨_, rfl, q1.1, _, _, rfl, h13, (by rfl), q1.1, _, _, _, rfl, h13, _, rfl, ?_⟩
  cases c4 : (Bp.ply m k).laid with
  | false =>
    rw [if_pos (.inl c4)] at q
    exact ⟨one1, fun p hp => q.new (Same.refl _) hp⟩
  | true =>
  refine ⟨_, rfl, q2.1, _, _, rfl, h23, (by rfl), q2.1, _, _, _, rfl, h23, _, rfl, ?_⟩
  cases c5 : (Bp.ply m t).laid with
  | false =>
    rw [if_pos (.inr c5)] at q
    exact ⟨one1, fun p hp => q.new (Same.refl _) hp⟩
  | true =>
  rw [if_neg (by rw [c4, c5]; simp)] at q
  obtain ⟨t1, ht1⟩ := laid_turn c4
  obtain ⟨t2, ht2'⟩ := laid_turn c5
  have ok1 := o.ply hk
  have ok2 := o.ply ht2
  have e6 : (placesI m.g (Bp.ply m t)).length = (Bp.ply m t).st.length := by
    unfold placesI turnedI
    rw [List.length_map]
  refine ⟨_, rfl, q1.1, _, _, _, _, rfl, h13, T.clP, T.pt, (by rfl : (pF (Bp.ply m k) q1.2.2).lookup ("starts" : Str) = some (.ref q1.2.2)), _, rfl, q2.1, _, _, rfl, h23, (by rfl), _, rfl, a, _, _, _, _, rfl, W.wo, T.clW, T.wg, (by rfl : (wF m L.pr L.pp).lookup ("girth" : Str) = some (.int m.g)),
    q2.1, _, _, _, m.g, t2, rfl, h23, h24, ht2', by omega, by omega, fun p H1 hp s1 h1 => ?_⟩
  have W1 := W.mono s1
  refine ⟨_, rfl, a, _, _, _, _, rfl, W1.wo, T.clW, T.wg, (by rfl : (wF m L.pr L.pp).lookup ("girth" : Str) = some (.int m.g)), q1.2.2, p, _, _, m.g, rfl, SqL.of (s1 _ _ h14), SqL.of h1, by omega, by omega, ok1.2.1, by omega, fun ns hn hl p2 H2 hp2 s2 h2 => ?_⟩
  have W2 := W1.mono s2
  have s12 := s1.trans s2
  refine ⟨_, rfl, q1.1, _, _, _, _, rfl, s12 _ _ h13, T.clP, T.pu, (by rfl : (pF (Bp.ply m k) q1.2.2).lookup ("turn" : Str) = some (tV (Bp.ply m k).turn)), _, rfl, _, rfl, a, _, _, _, _, rfl, W2.wo, T.clW, T.wg, (by rfl : (wF m L.pr L.pp).lookup ("girth" : Str) = some (.int m.g)),
    p2, t1, ns, m.g, by rw [ht1]; rfl, SqL.of h2, by omega, by omega, fun H3 s3 => ⟨one1, fun p3 hp3 => ?_⟩⟩
  rw [ht1] at q
  rw [near_meets hn]
  exact q.new (s12.trans s3) hp3
end
end Bp
namespace Bp
open PySem PySem.Spec PyProof.Rows L2
theorem pieces_len {c g s : Int} (hc : 0 < c) (hg : 0 < g) : (piecesI c g s).length ≤ ((g - 1) / c).toNat + 1 := by
  unfold piecesI
  dsimp only
  split
  · simp
  · split
    · simp
    · next h _ =>
      simp only [List.length_append, List.length_replicate, List.length_cons, List.length_nil]
      have e : 0 ≤ (g - 1) / c := Int.ediv_nonneg (by omega) (by omega)
      omega
theorem piecesOf_len {m : M} (o : Ok m) {fw : Int} (h1 : 150 ≤ fw) (h2 : fw ≤ 2000) : (piecesOf m fw).length ≤ 10 := by
  obtain ⟨c1, c2, c3⟩ := cover_pos o (by omega : 1 ≤ fw) h2
  have og := o.g
  have h := pieces_len (c := coveredI fw m.a m.c) (g := m.g) (s := m.s) c1 (by omega)
  have h3 : 0 ≤ (m.g - 1) / coveredI fw m.a m.c := Int.ediv_nonneg (by omega) (by omega)
  have h4 : (m.g - 1) / coveredI fw m.a m.c * coveredI fw m.a m.c ≤ m.g - 1 := Int.ediv_mul_le _ (by omega)
  have h5 : (m.g - 1) / coveredI fw m.a m.c * 150 ≤ (m.g - 1) / coveredI fw m.a m.c * coveredI fw m.a m.c := Int.mul_le_mul_of_nonneg_left (by omega) h3
  unfold piecesOf
  omega
theorem piecesOf_len2 {m : M} (o : Ok m) {fw : Int} (h1 : 1 ≤ fw) (h2 : fw ≤ 2000) : (piecesOf m fw).length ≤ 2000 := by
  obtain ⟨c1, c2, c3⟩ := cover_pos o h1 h2
  have og := o.g
  have h := pieces_len (c := coveredI fw m.a m.c) (g := m.g) (s := m.s) c1 (by omega)
  have h3 : (m.g - 1) / coveredI fw m.a m.c ≤ m.g - 1 := Int.ediv_le_self _ (by omega)
  unfold piecesOf
  omega
theorem taken_pos {m : M} (o : Ok m) {wd : Int} (h1 : 1 ≤ wd) (h2 : wd ≤ 2000) : 1 ≤ takenI wd m.a m.c ∧ takenI wd m.a m.c ≤ 2001000 := by
  have oa := o.a
  unfold takenI
  have e1 : 1 * 1 ≤ wd * m.c := Int.mul_le_mul h1 (by omega) (by omega) (by omega)
  have e2 : wd * m.c ≤ 2000 * 1000 := Int.mul_le_mul h2 (by omega) (by omega) (by omega)
  have e3 : 1 ≤ (wd * m.c + m.a - 1) / m.a := (Int.le_ediv_iff_mul_le (by omega)).mpr (by omega)
  have e4 : (wd * m.c + m.a - 1) / m.a ≤ wd * m.c + m.a - 1 := Int.ediv_le_self _ (by omega)
  omega
theorem need_pos {m : M} (o : Ok m) {wd : Int} {n : Nat} (h1 : 1 ≤ wd) (h2 : wd ≤ 2000) (hn : 0 < n) (hn2 : n ≤ 10) : 0 < (n : Int) * takenI wd m.a m.c ∧ (n : Int) * takenI wd m.a m.c < 1073741824 := by
  obtain ⟨e1, e2⟩ := taken_pos o h1 h2
  have e3 : (1 : Int) * 1 ≤ (n : Int) * takenI wd m.a m.c := Int.mul_le_mul (by omega) e1 (by omega) (by omega)
  have e4 : (n : Int) * takenI wd m.a m.c ≤ 10 * 2001000 := Int.mul_le_mul (by omega) e2 (by omega) (by omega)
  omega
theorem isW_true {x : Int} (h : isW x = true) : 1 ≤ x ∧ x ≤ 2000 := by
  unfold isW at h
  rw [Bool.and_eq_true] at h
  exact ⟨of_decide_eq_true h.1, of_decide_eq_true h.2⟩
theorem empty_map (l : List Int) : (!(l.map V.int).isEmpty) = !l.isEmpty := by cases l <;> rfl
theorem last_at {l : List Int} (h : l ≠ []) : atI (l.map V.int) (-1) = some (.int (l.getLastD 0)) := by
  have e : l = l.dropLast ++ [l.getLastD 0] := by
    rw [List.getLastD_eq_getLast?, List.getLast?_eq_some_getLast h]
    exact (List.dropLast_concat_getLast h).symm
  rw [e, List.map_append]
  simp only [List.map_cons, List.map_nil]
  have := atI_last (l.dropLast.map V.int) (V.int (l.getLastD 0))
  rw [← e]
  exact this
section
variable {P : Program} {w : World} {K : PySem.W.Frag} {mg : Str → Option Value} {base : Heap} {C : Cs} {aT : Addr}
abbrev sMost : Stmt := top 28
abbrev nMost : List Str := ["works", "told", "number", "width", "fabric", "pieces", "needed"]
theorem scMost : FnScope nMost WT (defScope sMost) := ⟨rfl, rfl, rfl, by decide +kernel, rfl, by decide +kernel, by decide +kernel⟩
theorem k_most (T : Txt K mg C aT) (G : Gf K mg "most" sMost) (kH : Km P w K mg base C.W "has_roll" 1 ["self", "number"] (spHasR C)) (kW : Kf P w K mg base "is_width" 1 ["width"] spIsW) (kP : Km P w K mg base C.W "pieces_of" 3 ["self", "fabric_width"] (spPiecesOf C))
    (kB : Km P w K mg base C.W "taken_by" 2 ["self", "pieces", "width"] (spTakenBy K C)) : Kf P w K mg base "most" 4 WT (spRo K C 2 aMost) := by
  refine G.ok scMost (fun vs H Q E h => ?_) (fun _ _ _ _ _ _ us hl => match us, hl with | [_, _], _ => rfl) (fun f cdv A outer s H vs Q E hr h => ?_)
  · obtain ⟨a, b, m, L, ts, rfl, _⟩ := h
    rfl
  obtain ⟨a, b, m, L, ts, rfl, W, o, hs, ht, h0, q⟩ := h
  obtain ⟨k, t, rfl⟩ := told2 ht h0
  have hr1 : Room 1 (A.deeper (envOfC "most" (defScope sMost) s.heap.objs.size f cdv)) := hr.mono (by decide)
  refine ⟨_, pss_cons (ps_asg (pv 1) (pg_lst rfl (pgs_cons (pg_name (i := 2) scMost.nd rfl (Or.inl rfl)) (pgs_cons (pg_name (i := 3) scMost.nd rfl (Or.inl rfl)) pgs_nil))))
    (pss_cons (ps_if (pt_not (pt_val (pe_km kH T.clW hr1 (pv 0) (pa_cons (pv 2) pa_nil)))) (pss_one (ps_ret (pe_lst (pa_cons (pe_gi (by rfl) T.nNS) pa_nil)))) pss_nil)
    (pss_cons (ps_if (pt_not (pt_val (pe_kf kW hr1 (by rfl) (pa_cons (pv 3) pa_nil)))) (pss_one (ps_ret (pe_lst (pa_cons (pe_gi (by rfl) T.nOR) pa_nil)))) pss_nil)
    (pss_cons (ps_set (i := 4) scMost.nd rfl (Or.inl rfl) (pe_ix ix_list (pe_fld (pv 0) rfl) (pv 2) (fun _ _ => rfl)))
    (pss_cons (ps_set (i := 5) scMost.nd rfl (Or.inl rfl) (pe_km kP T.clW hr (pv 0) (pa_cons (pe_fld (pv 4) rfl) pa_nil)))
    (pss_cons (ps_if (pt_not (pt_truth (pv 5) (by intro _; rfl))) (pss_one (ps_ret (pe_lst (pa_cons (pe_gi (by rfl) T.nCB) pa_nil)))) pss_nil)
    (pss_cons (ps_set (i := 6) scMost.nd rfl (Or.inl rfl) (pe_km kB T.clW (hr.mono (by decide)) (pv 0) (pa_cons (pv 5) (pa_cons (pv 3) pa_nil))))
    (pss_one (ps_ret (pe_lst (pa_cons (pe_op op_fdiv (pe_fld (pv 4) rfl) (pv 6)) (pa_cons (pv 6) pa_nil))))))))))), ?_⟩
  change retL H Q (if hasR m (k : Int) = false then [-2] else if isW (t : Int) = false then [-22] else if piecesOf m (rAt m.rolls k).w = [] then [-33] else
    [(rAt m.rolls k).left / (((piecesOf m (rAt m.rolls k).w).length : Int) * takenI (t : Int) m.a m.c), ((piecesOf m (rAt m.rolls k).w).length : Int) * takenI (t : Int) m.a m.c]) at q
  refine ⟨_, rfl, b, _, rfl, hs, rfl, _, _, rfl, _, _, rfl, rfl, ?_⟩
  refine ⟨_, rfl, a, _, _, rfl, W.wo, (by rfl), _, rfl, a, _, m, L, rfl, W, _, rfl, ?_⟩
  cases c : hasR m (k : Int) with
  | false =>
    rw [if_pos c] at q
    exact ⟨one1, fun p hp => q.new (Same.refl _) hp⟩
  | true =>
  rw [if_neg (by rw [c]; simp)] at q
  have hk := hasR_true c
  refine ⟨_, rfl, _, rfl, _, rfl, ?_⟩
  cases c2 : isW (t : Int) with
  | false =>
    rw [if_pos c2] at q
    exact ⟨one1, fun p hp => q.new (Same.refl _) hp⟩
  | true =>
  rw [if_neg (by rw [c2]; simp)] at q
  obtain ⟨w1, w2⟩ := isW_true c2
  obtain ⟨q1, h12, _, _, h13⟩ := W.roll hk
  have orr := o.roll hk
  refine ⟨_, rfl, a, _, _, _, _, rfl, W.wo, T.clW, T.wr, (by rfl : (wF m L.pr L.pp).lookup ("rolls" : Str) = some (.ref L.pr)), _, rfl, L.pr, _, _, _, rfl, rfl, SqL.of W.ro, atI_nat h12, ?_⟩
  refine ⟨_, rfl, a, _, _, rfl, W.wo, (by rfl), _, rfl, q1.1, _, _, _, _, rfl, h13, T.clR, T.rw, (by rfl : (rF (rAt m.rolls k)).lookup ("width" : Str) = some (.int (rAt m.rolls k).w)), a, _, m, L, rfl, W, o, by omega, by omega, fun p H1 hp s1 h1 => ?_⟩
  have W1 := W.mono s1
  refine ⟨_, rfl, _, .inl ⟨_, SqL.of h1, rfl⟩, ?_⟩
  rw [empty_map]
  by_cases c3 : piecesOf m (rAt m.rolls k).w = []
  · rw [if_pos c3] at q
    rw [c3]
    exact ⟨one1, fun p hp => q.new s1 hp⟩
  rw [if_neg c3] at q
  have ee : (piecesOf m (rAt m.rolls k).w).isEmpty = false := by simpa using c3
  rw [ee]
  have pl := piecesOf_len o orr.1 orr.2.1
  have pl0 : 0 < (piecesOf m (rAt m.rolls k).w).length := List.length_pos_iff.mpr c3
  have np := need_pos o w1 w2 pl0 pl
  refine ⟨_, rfl, a, _, _, rfl, W1.wo, (by rfl), _, rfl, _, rfl, a, p, _, _, m, L, rfl, W1, o, SqL.of h1, by omega, by omega, by omega, ?_⟩
  refine ⟨_, rfl, q1.1, _, _, _, _, rfl, s1 _ _ h13, T.clR, T.rf, (by rfl : (rF (rAt m.rolls k)).lookup ("left" : Str) = some (.int (rAt m.rolls k).left)), _, rfl, _, _, rfl, rfl, np, _, rfl, two2, fun p hp => q.new s1 hp⟩
abbrev sPiece : Stmt := top 29
abbrev nPiece : List Str := ["works", "told", "fabric_width", "pieces"]
theorem scPiece : FnScope nPiece WT (defScope sPiece) := ⟨rfl, rfl, rfl, by decide +kernel, rfl, by decide +kernel, by decide +kernel⟩
theorem k_piece (T : Txt K mg C aT) (G : Gf K mg "piece" sPiece) (kW : Kf P w K mg base "is_width" 1 ["width"] spIsW) (kC : Km P w K mg base C.W "cover_of" 2 ["self", "fabric_width"] (spCover C)) (kP : Km P w K mg base C.W "pieces_of" 3 ["self", "fabric_width"] (spPiecesOf C)) :
    Kf P w K mg base "piece" 4 WT (spRo K C 1 aPiece) := by
  refine G.ok scPiece (fun vs H Q E h => ?_) (fun _ _ _ _ _ _ us hl => match us, hl with | [_, _], _ => rfl) (fun f cdv A outer s H vs Q E hr h => ?_)
  · obtain ⟨a, b, m, L, ts, rfl, _⟩ := h
    rfl
  obtain ⟨a, b, m, L, ts, rfl, W, o, hs, ht, h0, q⟩ := h
  obtain ⟨t, rfl⟩ := told1 ht h0
  have hr1 : Room 1 (A.deeper (envOfC "piece" (defScope sPiece) s.heap.objs.size f cdv)) := hr.mono (by decide)
  refine ⟨_, pss_cons (ps_set (i := 2) scPiece.nd rfl (Or.inl rfl) (pe_ix ix_list (pv 1) pe_int (fun _ _ => rfl)))
    (pss_cons (ps_if (pt_not (pt_val (pe_kf kW hr1 (by rfl) (pa_cons (pv 2) pa_nil)))) (pss_one (ps_ret (pe_lst (pa_cons (pe_gi (by rfl) T.nOR) pa_nil)))) pss_nil)
    (pss_cons (ps_set (i := 3) scPiece.nd rfl (Or.inl rfl) (pe_km kP T.clW hr (pv 0) (pa_cons (pv 2) pa_nil)))
    (pss_cons (ps_if (pt_not (pt_truth (pv 3) (by intro _; rfl))) (pss_one (ps_ret (pe_lst (pa_cons (pe_gi (by rfl) T.nCB) pa_nil)))) pss_nil)
    (pss_one (ps_ret (pe_lst (pa_cons (pe_km kC T.clW (hr.mono (by decide)) (pv 0) (pa_cons (pv 2) pa_nil)) (pa_cons (pe_callB call_len_seq (by rfl) T.blen PySem.boot_len (pa_cons (pv 3) pa_nil)) (pa_cons (pe_ix ix_list (pv 3) (pe_un un_neg pe_int) (fun _ _ => rfl)) pa_nil))))))))), ?_⟩
  change retL H Q (if isW (t : Int) = false then [-22] else if piecesOf m (t : Int) = [] then [-33] else [coveredI (t : Int) m.a m.c, ((piecesOf m (t : Int)).length : Int), (piecesOf m (t : Int)).getLastD 0]) at q
  refine ⟨_, rfl, b, _, _, _, rfl, rfl, hs, (by rfl : atI [V.int (t : Int)] 0 = some _), ?_⟩
  refine ⟨_, rfl, _, rfl, _, rfl, ?_⟩
  cases c2 : isW (t : Int) with
  | false =>
    rw [if_pos c2] at q
    exact ⟨one1, fun p hp => q.new (Same.refl _) hp⟩
  | true =>
  rw [if_neg (by rw [c2]; simp)] at q
  obtain ⟨w1, w2⟩ := isW_true c2
  refine ⟨_, rfl, a, _, _, rfl, W.wo, (by rfl), _, rfl, a, _, m, L, rfl, W, o, by omega, by omega, fun p H1 hp s1 h1 => ?_⟩
  have W1 := W.mono s1
  refine ⟨_, rfl, _, .inl ⟨_, SqL.of h1, rfl⟩, ?_⟩
  rw [empty_map]
  by_cases ne : piecesOf m (t : Int) = []
  · rw [if_pos ne] at q
    rw [ne]
    exact ⟨one1, fun p hp => q.new s1 hp⟩
  rw [if_neg ne] at q
  have ee : (piecesOf m (t : Int)).isEmpty = false := by simpa using ne
  rw [ee]
  refine ⟨_, rfl, a, _, _, rfl, W1.wo, (by rfl), _, rfl, a, _, m, L, rfl, W1, o, by omega, by omega, ?_⟩
  refine ⟨_, rfl, p, _, rfl, .inl (SqL.of h1), _, rfl, _, rfl, p, _, _, _, rfl, rfl, SqL.of h1, last_at ne, (by show 3 ≤ sizeLine; decide), fun p2 hp2 => ?_⟩
  have := q.new s1 hp2
  rw [List.length_map]
  exact this
abbrev sRest : Stmt := top 30
abbrev nRest : List Str := ["works", "told", "number", "fabric"]
theorem scRest : FnScope nRest WT (defScope sRest) := ⟨rfl, rfl, rfl, by decide +kernel, rfl, by decide +kernel, by decide +kernel⟩
theorem k_rest (T : Txt K mg C aT) (G : Gf K mg "rest" sRest) (kH : Km P w K mg base C.W "has_roll" 1 ["self", "number"] (spHasR C)) : Kf P w K mg base "rest" 2 WT (spRo K C 1 aRest) := by
  refine G.ok scRest (fun vs H Q E h => ?_) (fun _ _ _ _ _ _ us hl => match us, hl with | [_, _], _ => rfl) (fun f cdv A outer s H vs Q E hr h => ?_)
  · obtain ⟨a, b, m, L, ts, rfl, _⟩ := h
    rfl
  obtain ⟨a, b, m, L, ts, rfl, W, o, hs, ht, h0, q⟩ := h
  obtain ⟨k, rfl⟩ := told1 ht h0
  refine ⟨_, pss_cons (ps_set (i := 2) scRest.nd rfl (Or.inl rfl) (pe_ix ix_list (pv 1) pe_int (fun _ _ => rfl)))
    (pss_cons (ps_if (pt_not (pt_val (pe_km kH T.clW hr (pv 0) (pa_cons (pv 2) pa_nil)))) (pss_one (ps_ret (pe_lst (pa_cons (pe_gi (by rfl) T.nNS) pa_nil)))) pss_nil)
    (pss_cons (ps_set (i := 3) scRest.nd rfl (Or.inl rfl) (pe_ix ix_list (pe_fld (pv 0) rfl) (pv 2) (fun _ _ => rfl)))
    (pss_one (ps_ret (pe_lst (pa_cons (pe_fld (pv 3) rfl) (pa_cons (pe_fld (pv 3) rfl) (pa_cons (pe_fld (pv 3) rfl) pa_nil)))))))), ?_⟩
  change retL H Q (if hasR m (k : Int) = false then [-2] else [(rAt m.rolls k).left, (rAt m.rolls k).w, (rAt m.rolls k).l]) at q
  refine ⟨_, rfl, b, _, _, _, rfl, rfl, hs, (by rfl : atI [V.int (k : Int)] 0 = some _), ?_⟩
  refine ⟨_, rfl, a, _, _, rfl, W.wo, (by rfl), _, rfl, a, _, m, L, rfl, W, _, rfl, ?_⟩
  cases c : hasR m (k : Int) with
  | false =>
    rw [if_pos c] at q
    exact ⟨one1, fun p hp => q.new (Same.refl _) hp⟩
  | true =>
  rw [if_neg (by rw [c]; simp)] at q
  obtain ⟨q1, h12, _, _, h13⟩ := W.roll (hasR_true c)
  refine ⟨_, rfl, a, _, _, _, _, rfl, W.wo, T.clW, T.wr, (by rfl : (wF m L.pr L.pp).lookup ("rolls" : Str) = some (.ref L.pr)), _, rfl, L.pr, _, _, _, rfl, rfl, SqL.of W.ro, atI_nat h12, ?_⟩
  exact ⟨_, rfl, q1.1, _, _, _, _, rfl, h13, T.clR, T.rf, (by rfl : (rF (rAt m.rolls k)).lookup ("left" : Str) = some (.int (rAt m.rolls k).left)), _, rfl, q1.1, _, _, _, _, rfl, h13, T.clR, T.rw, (by rfl : (rF (rAt m.rolls k)).lookup ("width" : Str) = some (.int (rAt m.rolls k).w)),
    _, rfl, q1.1, _, _, _, _, rfl, h13, T.clR, T.rl, (by rfl : (rF (rAt m.rolls k)).lookup ("length" : Str) = some (.int (rAt m.rolls k).l)), (by show 3 ≤ sizeLine; decide), fun p hp => q.new (Same.refl _) hp⟩
end
end Bp
namespace Bp
open PySem PySem.Spec PyProof.Rows L2
theorem laidN_mem {m : M} {k : Nat} (h : k ∈ laidN m.plies) : k < m.plies.length ∧ (ply m k).laid = true := by
  unfold laidN laidUp at h
  obtain ⟨h1, h2⟩ := List.mem_filter.mp h
  exact ⟨List.mem_range.mp h1, h2⟩
theorem laidI_get {m : M} {i : Nat} {x : V} (h : ((laidI m).map V.int)[i]? = some x) : ∃ k : Nat, (laidN m.plies)[i]? = some k ∧ x = .int (k : Int) ∧ k < m.plies.length ∧ (ply m k).laid = true := by
  obtain ⟨z, hz, rfl⟩ := map_get h
  unfold laidI at hz
  rw [List.getElem?_map] at hz
  cases e : (laidN m.plies)[i]? with
  | none =>
    rw [e] at hz
    cases hz
  | some k =>
    rw [e] at hz
    have := Option.some.inj hz
    subst this
    obtain ⟨h1, h2⟩ := laidN_mem (List.mem_of_getElem? e)
    exact ⟨k, rfl, rfl, h1, h2⟩
theorem laidI_len (m : M) : ((laidI m).map V.int).length = (laidN m.plies).length := by
  unfold laidI
  rw [List.length_map, List.length_map]
theorem laidN_len {m : M} (o : Ok m) : (laidN m.plies).length ≤ 12 := by
  have := laidUp_len m.plies m.plies.length
  have := o.pl
  unfold laidN
  omega
theorem WR.rollOf {C : Cs} {H : Hp} {w : Addr} {m : M} {L : Lay} (W : WR C H w m L) {k : Nat} {x : V} (h : (L.rs.map fun q => V.ref q.1)[k]? = some x) : ∃ q : Addr × Addr, x = .ref q.1 ∧ m.rolls[k]? = some (rAt m.rolls k) ∧ H q.1 = some (.ins C.R q.2 (rF (rAt m.rolls k))) := by
  obtain ⟨q, hq, rfl⟩ := map_get h
  have hlt := (List.getElem?_eq_some_iff.mp hq).1
  rw [W.rl] at hlt
  obtain ⟨q', _, h1, h2, h3⟩ := W.roll hlt
  have e : q' = q := Option.some.inj (h1.symm.trans hq)
  subst e
  exact ⟨q', rfl, h2, h3⟩
section
variable {P : Program} {w : World} {K : PySem.W.Frag} {mg : Str → Option Value} {base : Heap} {C : Cs} {aT : Addr}
abbrev sSums : Stmt := top 31
abbrev nSums : List Str := ["works", "told", "length", "left", "fabric"]
theorem scSums : FnScope nSums WT (defScope sSums) := ⟨rfl, rfl, rfl, by decide +kernel, rfl, by decide +kernel, by decide +kernel⟩
theorem k_sums (T : Txt K mg C aT) (G : Gf K mg "sums" sSums) : Kf P w K mg base "sums" 1 WT (spRo K C 0 aSums) := by
  refine G.ok scSums (fun vs H Q E h => ?_) (fun _ _ _ _ _ _ us hl => match us, hl with | [_, _], _ => rfl) (fun f cdv A outer s H vs Q E hr h => ?_)
  · obtain ⟨a, b, m, L, ts, rfl, _⟩ := h
    rfl
  obtain ⟨a, b, m, L, ts, rfl, W, o, hs, ht, h0, q⟩ := h
  refine ⟨_, pss_cons (ps_set (i := 2) scSums.nd rfl (Or.inl rfl) (pe_callB (cr_sum rfl) (by rfl) T.bsum boot_sum (pa_cons
      (pe_lc (own := [("fabric", 4)]) (g := gName 4) (tt := tYes) (te := tFld K (tVar 4) "length") rfl scSums.nd (pi_list (pe_fld (pv 0) rfl)) (blkOk_by (N := nSums) (sc := defScope sSums) (by decide +kernel))
        (fun _ _ _ _ _ => pg_name (i := 4) scSums.nd rfl (Or.inl rfl) (Or.inr rfl)) (fun _ _ _ _ _ => pts_nil) (fun _ _ _ _ _ => pe_fld (pv 4) rfl)) pa_nil)))
    (pss_cons (ps_set (i := 3) scSums.nd rfl (Or.inl rfl) (pe_callB (cr_sum rfl) (by rfl) T.bsum boot_sum (pa_cons
      (pe_lc (own := [("fabric", 4)]) (g := gName 4) (tt := tYes) (te := tFld K (tVar 4) "left") rfl scSums.nd (pi_list (pe_fld (pv 0) rfl)) (blkOk_by (N := nSums) (sc := defScope sSums) (by decide +kernel))
        (fun _ _ _ _ _ => pg_name (i := 4) scSums.nd rfl (Or.inl rfl) (Or.inr rfl)) (fun _ _ _ _ _ => pts_nil) (fun _ _ _ _ _ => pe_fld (pv 4) rfl)) pa_nil)))
    (pss_one (ps_ret (pe_lst (pa_cons pe_int (pa_cons (pv 2) (pa_cons (pv 3) (pa_cons (pe_op op_sub (pv 2) (pv 3)) pa_nil)))))))), ?_⟩
  change retL H Q [0, (m.rolls.map R.l).sum, (m.rolls.map R.left).sum, (m.rolls.map R.l).sum - (m.rolls.map R.left).sum] at q
  have orl := o.rl
  have lenI : ∀ (f : Bp.R → Int) (i : Nat), (((m.rolls.take i).map f).map V.int).length < sizeLine := fun f i => big' (by rw [List.length_map, List.length_map, List.length_take]; omega)
  refine ⟨_, rfl, a, _, _, _, _, rfl, W.wo, T.clW, T.wr, (by rfl : (wF m L.pr L.pp).lookup ("rolls" : Str) = some (.ref L.pr)), L.pr, rfl, ⟨_, SqL.of W.ro⟩, fun D hD =>
    lc_list (xs := L.rs.map fun q => V.ref q.1) (fun i H' => Same H H' ∧ H' D = some (.lst (((m.rolls.take i).map R.l).map V.int))) ⟨same_new hD, upd_same⟩ (fun i H' _ r => r.1.seq (SqL.of W.ro)) ?_ ?_⟩
  · rintro i x H' hx ⟨s1, h1⟩
    obtain ⟨qq, rfl, h2, h3⟩ := (W.mono s1).rollOf hx
    refine ⟨rfl, ?_⟩
    refine ⟨_, rfl, qq.1, _, _, _, _, rfl, h3, T.clR, T.rl, (by rfl : (rF (rAt m.rolls i)).lookup ("length" : Str) = some (.int (rAt m.rolls i).l)), _, h1, lenI _ _, same_put s1 hD, ?_⟩
    rw [upd_same, take_more h2]
    simp
  rintro H1 ⟨s1, h1⟩
  rw [List.length_map, W.rl, List.take_length] at h1
  refine ⟨D, _, rfl, SqL.of h1, ?_⟩
  have W1 := W.mono s1
  refine ⟨_, rfl, a, _, _, _, _, rfl, W1.wo, T.clW, T.wr, (by rfl : (wF m L.pr L.pp).lookup ("rolls" : Str) = some (.ref L.pr)), L.pr, rfl, ⟨_, SqL.of W1.ro⟩, fun D2 hD2 =>
    lc_list (xs := L.rs.map fun q => V.ref q.1) (fun i H' => Same H1 H' ∧ H' D2 = some (.lst (((m.rolls.take i).map R.left).map V.int))) ⟨same_new hD2, upd_same⟩ (fun i H' _ r => r.1.seq (SqL.of W1.ro)) ?_ ?_⟩
  · rintro i x H' hx ⟨s2, h2⟩
    obtain ⟨qq, rfl, h3, h4⟩ := (W1.mono s2).rollOf hx
    refine ⟨rfl, ?_⟩
    refine ⟨_, rfl, qq.1, _, _, _, _, rfl, h4, T.clR, T.rf, (by rfl : (rF (rAt m.rolls i)).lookup ("left" : Str) = some (.int (rAt m.rolls i).left)), _, h2, lenI _ _, same_put s2 hD2, ?_⟩
    rw [upd_same, take_more h3]
    simp
  rintro H2 ⟨s2, h2⟩
  rw [List.length_map, W.rl, List.take_length] at h2
  refine ⟨D2, _, rfl, SqL.of h2, ?_⟩
  exact ⟨_, rfl, _, rfl, _, rfl, _, rfl, _, _, rfl, rfl, (by show 4 ≤ sizeLine; decide), fun p hp => q.new (s1.trans s2) hp⟩
abbrev sState : Stmt := top 32
theorem scState : FnScope WT WT (defScope sState) := ⟨rfl, rfl, rfl, by decide +kernel, rfl, by decide +kernel, by decide +kernel⟩
theorem k_state (T : Txt K mg C aT) (G : Gf K mg "state" sState) (kC : Km P w K mg base C.W "laid_count" 3 ["self"] (spLaidCount C)) : Kf P w K mg base "state" 4 WT (spRo K C 0 aState) := by
  refine G.ok scState (fun vs H Q E h => ?_) (fun _ _ _ _ _ _ us hl => match us, hl with | [_, _], _ => rfl) (fun f cdv A outer s H vs Q E hr h => ?_)
  · obtain ⟨a, b, m, L, ts, rfl, _⟩ := h
    rfl
  obtain ⟨a, b, m, L, ts, rfl, W, o, hs, ht, h0, q⟩ := h
  refine ⟨_, pss_one (ps_ret (pe_lst (pa_cons (pe_km0 kC T.clW hr (pv 0)) (pa_cons (pe_callB call_len_seq (by rfl) T.blen PySem.boot_len (pa_cons (pe_fld (pv 0) rfl) pa_nil)) (pa_cons (pe_callB call_len_seq (by rfl) T.blen PySem.boot_len (pa_cons (pe_fld (pv 0) rfl) pa_nil))
    (pa_cons (pe_fld (pv 0) rfl) (pa_cons (pe_fld (pv 0) rfl) (pa_cons (pe_fld (pv 0) rfl) pa_nil)))))))), ?_⟩
  refine ⟨_, rfl, a, _, _, rfl, W.wo, (by rfl), a, m, L, rfl, W, o, fun H1 s1 => ?_⟩
  have W1 := W.mono s1
  refine ⟨_, rfl, a, _, _, _, _, rfl, W1.wo, T.clW, T.wr, (by rfl : (wF m L.pr L.pp).lookup ("rolls" : Str) = some (.ref L.pr)), L.pr, _, rfl, .inl (SqL.of W1.ro), ?_⟩
  refine ⟨_, rfl, a, _, _, _, _, rfl, W1.wo, T.clW, T.wp, (by rfl : (wF m L.pr L.pp).lookup ("plies" : Str) = some (.ref L.pp)), L.pp, _, rfl, .inl (SqL.of W1.po), ?_⟩
  refine ⟨_, rfl, a, _, _, _, _, rfl, W1.wo, T.clW, T.wg, (by rfl : (wF m L.pr L.pp).lookup ("girth" : Str) = some (.int m.g)), ?_⟩
  refine ⟨_, rfl, a, _, _, _, _, rfl, W1.wo, T.clW, T.wn, (by rfl : (wF m L.pr L.pp).lookup ("nearest" : Str) = some (.int m.n)), ?_⟩
  refine ⟨_, rfl, a, _, _, _, _, rfl, W1.wo, T.clW, T.ws, (by rfl : (wF m L.pr L.pp).lookup ("shortest" : Str) = some (.int m.s)), ?_⟩
  refine ⟨(by show 6 ≤ sizeLine; decide), fun p hp => ?_⟩
  rw [List.length_map, List.length_map, W.rl, W.pl]
  exact q.new s1 hp
abbrev sSpl : Stmt := top 51
abbrev nSpl : List Str := ["works", "told", "number", "starts"]
theorem scSpl : FnScope nSpl WT (defScope sSpl) := ⟨rfl, rfl, rfl, by decide +kernel, rfl, by decide +kernel, by decide +kernel⟩
theorem k_splices (T : Txt K mg C aT) (G : Gf K mg "splices" sSpl) (kH : Km P w K mg base C.W "has_ply" 1 ["self", "number"] (spHasP C)) : Kf P w K mg base "splices" 2 WT (spRo K C 1 aSplices) := by
  refine G.ok scSpl (fun vs H Q E h => ?_) (fun _ _ _ _ _ _ us hl => match us, hl with | [_, _], _ => rfl) (fun f cdv A outer s H vs Q E hr h => ?_)
  · obtain ⟨a, b, m, L, ts, rfl, _⟩ := h
    rfl
  obtain ⟨a, b, m, L, ts, rfl, W, o, hs, ht, h0, q⟩ := h
  obtain ⟨k, rfl⟩ := told1 ht h0
  refine ⟨_, pss_cons (ps_set (i := 2) scSpl.nd rfl (Or.inl rfl) (pe_ix ix_list (pv 1) pe_int (fun _ _ => rfl)))
    (pss_cons (ps_if (pt_not (pt_val (pe_km kH T.clW hr (pv 0) (pa_cons (pv 2) pa_nil)))) (pss_one (ps_ret (pe_lst (pa_cons (pe_gi (by rfl) T.nNS) pa_nil)))) pss_nil)
    (pss_cons (ps_set (i := 3) scSpl.nd rfl (Or.inl rfl) (pe_fld (pe_ix ix_list (pe_fld (pv 0) rfl) (pv 2) (fun _ _ => rfl)) rfl))
    (pss_one (ps_ret (pe_op op_cat (pe_lst (pa_cons (pe_callB call_len_seq (by rfl) T.blen PySem.boot_len (pa_cons (pv 3) pa_nil)) pa_nil)) (pv 3)))))), ?_⟩
  change retL H Q (if hasP m (k : Int) = false then [-2] else ((Bp.ply m k).st.length : Int) :: (Bp.ply m k).st) at q
  refine ⟨_, rfl, b, _, _, _, rfl, rfl, hs, (by rfl : atI [V.int (k : Int)] 0 = some _), ?_⟩
  refine ⟨_, rfl, a, _, _, rfl, W.wo, (by rfl), _, rfl, a, _, m, L, rfl, W, _, rfl, ?_⟩
  cases c : hasP m (k : Int) with
  | false =>
    rw [if_pos c] at q
    exact ⟨one1, fun p hp => q.new (Same.refl _) hp⟩
  | true =>
  rw [if_neg (by rw [c]; simp)] at q
  have hk := hasP_true c
  have okp := o.ply hk
  obtain ⟨q1, h12, _, _, h13, h14⟩ := W.ply hk
  refine ⟨_, rfl, a, _, _, _, _, rfl, W.wo, T.clW, T.wp, (by rfl : (wF m L.pr L.pp).lookup ("plies" : Str) = some (.ref L.pp)), _, rfl, L.pp, _, _, _, rfl, rfl, SqL.of W.po, atI_nat h12, q1.1, _, _, _, _, rfl, h13, T.clP, T.pt, (by rfl : (pF (Bp.ply m k) q1.2.2).lookup ("starts" : Str) = some (.ref q1.2.2)), ?_⟩
  refine ⟨_, rfl, q1.2.2, _, rfl, .inl (SqL.of h14), one1, fun p hp => ?_⟩
  have s1 : Same H (upd H p (.lst [.int (((Bp.ply m k).st.map V.int).length : Int)])) := same_new hp
  refine ⟨_, rfl, p, q1.2.2, _, _, rfl, rfl, upd_same, s1 _ _ h14, big (by rw [List.length_map]; show 1 + _ ≤ _; omega), fun p2 hp2 => ?_⟩
  rw [List.length_map] at s1 hp2 ⊢
  exact q.new s1 hp2
abbrev sWhere : Stmt := top 52
abbrev nWhere : List Str := ["works", "told", "number", "ply"]
theorem scWhere : FnScope nWhere WT (defScope sWhere) := ⟨rfl, rfl, rfl, by decide +kernel, rfl, by decide +kernel, by decide +kernel⟩
theorem k_where (T : Txt K mg C aT) (G : Gf K mg "where" sWhere) (kH : Km P w K mg base C.W "has_ply" 1 ["self", "number"] (spHasP C)) (kL : Km P w K mg base C.P "is_laid" 1 ["self"] (spLaid C)) (kP : Km P w K mg base C.P "places" 2 ["self", "girth"] (spPlaces C)) :
    Kf P w K mg base "where" 3 WT (spRo K C 1 aWhere) := by
  refine G.ok scWhere (fun vs H Q E h => ?_) (fun _ _ _ _ _ _ us hl => match us, hl with | [_, _], _ => rfl) (fun f cdv A outer s H vs Q E hr h => ?_)
  · obtain ⟨a, b, m, L, ts, rfl, _⟩ := h
    rfl
  obtain ⟨a, b, m, L, ts, rfl, W, o, hs, ht, h0, q⟩ := h
  obtain ⟨k, rfl⟩ := told1 ht h0
  have og := o.g
  have hr1 : Room 1 (A.deeper (envOfC "where" (defScope sWhere) s.heap.objs.size f cdv)) := hr.mono (by decide)
  refine ⟨_, pss_cons (ps_set (i := 2) scWhere.nd rfl (Or.inl rfl) (pe_ix ix_list (pv 1) pe_int (fun _ _ => rfl)))
    (pss_cons (ps_if (pt_not (pt_val (pe_km kH T.clW hr1 (pv 0) (pa_cons (pv 2) pa_nil)))) (pss_one (ps_ret (pe_lst (pa_cons (pe_gi (by rfl) T.nNS) pa_nil)))) pss_nil)
    (pss_cons (ps_set (i := 3) scWhere.nd rfl (Or.inl rfl) (pe_ix ix_list (pe_fld (pv 0) rfl) (pv 2) (fun _ _ => rfl)))
    (pss_cons (ps_if (pt_not (pt_val (pe_km0 kL T.clP hr1 (pv 3)))) (pss_one (ps_ret (pe_lst (pa_cons (pe_gi (by rfl) T.nNL) pa_nil)))) pss_nil)
    (pss_one (ps_ret (pe_op op_cat (pe_lst (pa_cons (pe_fld (pv 3) rfl) pa_nil)) (pe_km kP T.clP hr (pv 3) (pa_cons (pe_fld (pv 0) rfl) pa_nil)))))))), ?_⟩
  change retL H Q (if hasP m (k : Int) = false then [-2] else match (Bp.ply m k).turn with | none => [-6] | some t => t :: placesI m.g (Bp.ply m k)) at q
  refine ⟨_, rfl, b, _, _, _, rfl, rfl, hs, (by rfl : atI [V.int (k : Int)] 0 = some _), ?_⟩
  refine ⟨_, rfl, a, _, _, rfl, W.wo, (by rfl), _, rfl, a, _, m, L, rfl, W, _, rfl, ?_⟩
  cases c : hasP m (k : Int) with
  | false =>
    rw [if_pos c] at q
    exact ⟨one1, fun p hp => q.new (Same.refl _) hp⟩
  | true =>
  rw [if_neg (by rw [c]; simp)] at q
  have hk := hasP_true c
  have okp := o.ply hk
  obtain ⟨q1, h12, _, _, h13, h14⟩ := W.ply hk
  refine ⟨_, rfl, a, _, _, _, _, rfl, W.wo, T.clW, T.wp, (by rfl : (wF m L.pr L.pp).lookup ("plies" : Str) = some (.ref L.pp)), _, rfl, L.pp, _, _, _, rfl, rfl, SqL.of W.po, atI_nat h12, ?_⟩
  refine ⟨_, rfl, q1.1, _, _, rfl, h13, (by rfl), q1.1, _, _, _, rfl, h13, _, rfl, ?_⟩
  unfold Pl.laid
  cases ht : (Bp.ply m k).turn with
  | none =>
    rw [ht] at q
    exact ⟨one1, fun p hp => q.new (Same.refl _) hp⟩
  | some t =>
  rw [ht] at q
  refine ⟨_, rfl, q1.1, _, _, _, _, rfl, h13, T.clP, T.pu, (by rfl : (pF (Bp.ply m k) q1.2.2).lookup ("turn" : Str) = some (tV (Bp.ply m k).turn)), one1, fun p hp => ?_⟩
  rw [ht]
  have s1 : Same H (upd H p (.lst [.int t])) := same_new hp
  have W1 := W.mono s1
  refine ⟨_, rfl, q1.1, _, _, rfl, s1 _ _ h13, (by rfl), _, rfl, a, _, _, _, _, rfl, W1.wo, T.clW, T.wg, (by rfl : (wF m L.pr L.pp).lookup ("girth" : Str) = some (.int m.g)), q1.1, _, _, _, m.g, t, rfl, s1 _ _ h13, s1 _ _ h14, ht, by omega, by omega, fun p2 H2 hp2 s2 h2 => ?_⟩
  have e6 : (placesI m.g (Bp.ply m k)).length = (Bp.ply m k).st.length := by
    unfold placesI turnedI
    rw [List.length_map]
  exact ⟨p, p2, _, _, rfl, rfl, s2 _ _ upd_same, h2, big (by rw [List.length_map]; show 1 + _ ≤ _; omega), fun p3 hp3 => q.new (s1.trans s2) hp3⟩
abbrev sLook : Stmt := top 53
abbrev nLook : List Str := ["works", "told", "number", "ply", "turn_and_one"]
theorem scLook : FnScope nLook WT (defScope sLook) := ⟨rfl, rfl, rfl, by decide +kernel, rfl, by decide +kernel, by decide +kernel⟩
theorem k_look (T : Txt K mg C aT) (G : Gf K mg "look" sLook) (kH : Km P w K mg base C.W "has_ply" 1 ["self", "number"] (spHasP C)) (kL : Km P w K mg base C.P "is_laid" 1 ["self"] (spLaid C)) : Kf P w K mg base "look" 2 WT (spRo K C 1 aLook) := by
  refine G.ok scLook (fun vs H Q E h => ?_) (fun _ _ _ _ _ _ us hl => match us, hl with | [_, _], _ => rfl) (fun f cdv A outer s H vs Q E hr h => ?_)
  · obtain ⟨a, b, m, L, ts, rfl, _⟩ := h
    rfl
  obtain ⟨a, b, m, L, ts, rfl, W, o, hs, ht, h0, q⟩ := h
  obtain ⟨k, rfl⟩ := told1 ht h0
  refine ⟨_, pss_cons (ps_set (i := 2) scLook.nd rfl (Or.inl rfl) (pe_ix ix_list (pv 1) pe_int (fun _ _ => rfl)))
    (pss_cons (ps_if (pt_not (pt_val (pe_km kH T.clW hr (pv 0) (pa_cons (pv 2) pa_nil)))) (pss_one (ps_ret (pe_lst (pa_cons (pe_gi (by rfl) T.nNS) pa_nil)))) pss_nil)
    (pss_cons (ps_set (i := 3) scLook.nd rfl (Or.inl rfl) (pe_ix ix_list (pe_fld (pv 0) rfl) (pv 2) (fun _ _ => rfl)))
    (pss_cons (ps_set (i := 4) scLook.nd rfl (Or.inl rfl) (pe_ifExp (pt_val (pe_km0 kL T.clP hr (pv 3))) (pe_op op_add (pe_fld (pv 3) rfl) pe_int) pe_int))
    (pss_one (ps_ret (pe_lst (pa_cons (pe_fld (pv 3) rfl) (pa_cons (pe_fld (pv 3) rfl) (pa_cons (pe_callB call_len_seq (by rfl) T.blen PySem.boot_len (pa_cons (pe_fld (pv 3) rfl) pa_nil)) (pa_cons (pv 4) pa_nil)))))))))), ?_⟩
  change retL H Q (if hasP m (k : Int) = false then [-2] else [(Bp.ply m k).src, (Bp.ply m k).wid, ((Bp.ply m k).st.length : Int), match (Bp.ply m k).turn with | none => 0 | some t => t + 1]) at q
  refine ⟨_, rfl, b, _, _, _, rfl, rfl, hs, (by rfl : atI [V.int (k : Int)] 0 = some _), ?_⟩
  refine ⟨_, rfl, a, _, _, rfl, W.wo, (by rfl), _, rfl, a, _, m, L, rfl, W, _, rfl, ?_⟩
  cases c : hasP m (k : Int) with
  | false =>
    rw [if_pos c] at q
    exact ⟨one1, fun p hp => q.new (Same.refl _) hp⟩
  | true =>
  rw [if_neg (by rw [c]; simp)] at q
  have hk := hasP_true c
  obtain ⟨q1, h12, _, _, h13, h14⟩ := W.ply hk
  refine ⟨_, rfl, a, _, _, _, _, rfl, W.wo, T.clW, T.wp, (by rfl : (wF m L.pr L.pp).lookup ("plies" : Str) = some (.ref L.pp)), _, rfl, L.pp, _, _, _, rfl, rfl, SqL.of W.po, atI_nat h12, ?_⟩
  refine ⟨_, rfl, q1.1, _, _, rfl, h13, (by rfl), q1.1, _, _, _, rfl, h13, _, rfl, ?_⟩
  have rest : ∀ z : Int, retL H Q [(Bp.ply m k).src, (Bp.ply m k).wid, ((Bp.ply m k).st.length : Int), z] →
      tRet (tLst (tCons (tFld K (tVar 3) "source") (tCons (tFld K (tVar 3) "width") (tCons (tCB (fun xs H Q => ∃ p ys, xs = [.ref p] ∧ (SqL K H p ys ∨ SqT K H p ys) ∧ Q (.int ys.length) H) (tCons (tFld K (tVar 3) "starts") tNil)) (tCons (tVar 4) tNil)))))
        { nx := fun _ H' => Q .non H', rt := Q } [some (.ref a), some (.ref b), some (.int (k : Int)), some (.ref q1.1), some (.int z)] H := fun z q => by
    refine ⟨_, rfl, q1.1, _, _, _, _, rfl, h13, T.clP, T.ps, (by rfl : (pF (Bp.ply m k) q1.2.2).lookup ("source" : Str) = some (.int (Bp.ply m k).src)), _, rfl, q1.1, _, _, _, _, rfl, h13, T.clP, T.pw, (by rfl : (pF (Bp.ply m k) q1.2.2).lookup ("width" : Str) = some (.int (Bp.ply m k).wid)),
      _, rfl, q1.1, _, _, _, _, rfl, h13, T.clP, T.pt, (by rfl : (pF (Bp.ply m k) q1.2.2).lookup ("starts" : Str) = some (.ref q1.2.2)), q1.2.2, _, rfl, .inl (SqL.of h14), _, rfl, (by show 4 ≤ sizeLine; decide), fun p hp => ?_⟩
    rw [List.length_map]
    exact q.new (Same.refl _) hp
  unfold Pl.laid
  cases ht : (Bp.ply m k).turn with
  | none =>
    rw [ht] at q
    exact rest 0 q
  | some t =>
    rw [ht] at q
    refine ⟨_, rfl, q1.1, _, _, _, _, rfl, h13, T.clP, T.pu, (by rfl : (pF (Bp.ply m k) q1.2.2).lookup ("turn" : Str) = some (tV (Bp.ply m k).turn)), t, 1, (by rw [ht]; rfl), rfl, ?_⟩
    exact rest (t + 1) q
end
end Bp
namespace Bp
open PySem PySem.Spec PyProof.Rows L2
theorem placesI_len (g : Int) (p : Pl) : (placesI g p).length = p.st.length := by
  unfold placesI turnedI
  rw [List.length_map]
theorem marks_len {m : M} (o : Ok m) : ∀ ks : List Nat, (∀ k ∈ ks, k < m.plies.length) → (marksUp m.plies m.g ks).length ≤ ks.length * 10
  | [], _ => Nat.zero_le _
  | k :: r, h => by
    have ih := marks_len o r fun j hj => h j (List.mem_cons_of_mem _ hj)
    have hk := (o.ply (h k List.mem_cons_self)).2.1
    have e : marksUp m.plies m.g (k :: r) = (placesI m.g (plAt m.plies k)).map (fun z => (z, (k : Int))) ++ marksUp m.plies m.g r := rfl
    have e2 : (placesI m.g (plAt m.plies k)).length = (Bp.ply m k).st.length := placesI_len _ _
    rw [e, List.length_append, List.length_map, List.length_cons]
    omega
theorem marks_more (ps : List Pl) (g : Int) (ks : List Nat) (k : Nat) : marksUp ps g (ks ++ [k]) = marksUp ps g ks ++ (placesI g (plAt ps k)).map fun z => (z, (k : Int)) := by
  unfold marksUp
  rw [List.flatMap_append]
  simp
section
variable {P : Program} {w : World} {K : PySem.W.Frag} {mg : Str → Option Value} {base : Heap} {C : Cs} {aT : Addr}
abbrev sAt : Stmt := top 54
abbrev nAt : List Str := ["works", "told", "place", "farthest", "found", "number", "places"]
theorem scAt : FnScope nAt WT (defScope sAt) := ⟨rfl, rfl, rfl, by decide +kernel, rfl, by decide +kernel, by decide +kernel⟩
theorem k_at (T : Txt K mg C aT) (G : Gf K mg "at_place" sAt) (kL : Km P w K mg base C.W "laid_numbers" 2 ["self"] (spLaidNums C)) (kP : Km P w K mg base C.P "places" 2 ["self", "girth"] (spPlaces C)) (kN : Kf P w K mg base "nearness" 2 ["place", "others", "girth"] (spNear K)) :
    Kf P w K mg base "at_place" 3 WT (spRo K C 2 aAt) := by
  refine G.ok scAt (fun vs H Q E h => ?_) (fun _ _ _ _ _ _ us hl => match us, hl with | [_, _], _ => rfl) (fun f cdv A outer s H vs Q E hr h => ?_)
  · obtain ⟨a, b, m, L, ts, rfl, _⟩ := h
    rfl
  obtain ⟨a, b, m, L, ts, rfl, W, o, hs, ht, h0, q⟩ := h
  obtain ⟨i0, n0, rfl⟩ := told2 ht h0
  have og := o.g
  refine ⟨_, pss_cons (ps_asg (pv 1) (pg_lst rfl (pgs_cons (pg_name (i := 2) scAt.nd rfl (Or.inl rfl)) (pgs_cons (pg_name (i := 3) scAt.nd rfl (Or.inl rfl)) pgs_nil))))
    (pss_cons (ps_if (pt_cmpR op_ge (pv 2) (pe_fld (pv 0) rfl) (nomark _)) (pss_one (ps_ret (pe_lst (pa_cons (pe_gi (by rfl) T.nOR) pa_nil)))) pss_nil)
    (pss_cons (ps_set (i := 4) scAt.nd rfl (Or.inl rfl) (pe_lst pa_nil))
    (pss_cons (ps_for PassesOwn.never rfl (pi_list (pe_km0 kL T.clW hr (pv 0))) (pg_name (i := 5) scAt.nd rfl (Or.inl rfl))
      (pss_cons (ps_set (i := 6) scAt.nd rfl (Or.inl rfl) (pe_km kP T.clP hr (pe_ix ix_list (pe_fld (pv 0) rfl) (pv 5) (fun _ _ => rfl)) (pa_cons (pe_fld (pv 0) rfl) pa_nil)))
      (pss_one (ps_if (pt_cmpR op_le (pe_kf kN hr (by rfl) (pa_cons (pv 2) (pa_cons (pv 6) (pa_cons (pe_fld (pv 0) rfl) pa_nil)))) (pv 3) (nomark _))
        (pss_one (ps_expr (pe_bm PySem.F.plainAttrs_list PySem.F.slot_list_append PySem.F.type_list_append mt_append (pv 4) (pa_cons (pv 5) pa_nil)))) pss_nil))))
    (pss_one (ps_ret (pe_op op_cat (pe_lst (pa_cons (pe_callB call_len_seq (by rfl) T.blen PySem.boot_len (pa_cons (pv 4) pa_nil)) pa_nil)) (pv 4))))))), ?_⟩
  change retL H Q (if m.g ≤ (i0 : Int) then [-22] else ((atUp m (i0 : Int) (n0 : Int) (laidN m.plies)).length : Int) :: (atUp m (i0 : Int) (n0 : Int) (laidN m.plies)).map fun (k : Nat) => (k : Int)) at q
  refine ⟨_, rfl, b, _, rfl, hs, rfl, _, _, rfl, _, _, rfl, rfl, ?_⟩
  refine ⟨_, rfl, _, rfl, a, _, _, _, _, rfl, W.wo, T.clW, T.wg, (by rfl : (wF m L.pr L.pp).lookup ("girth" : Str) = some (.int m.g)), _, _, rfl, rfl, _, rfl, ?_⟩
  refine ite2 (fun c => ?_) (fun c => ?_)
  · rw [if_pos (of_decide_eq_true c)] at q
    exact ⟨one1, fun p hp => q.new (Same.refl _) hp⟩
  rw [if_neg (fun h => c (decide_eq_true h))] at q
  refine ⟨Nat.zero_le _, fun l1 hl1 => ?_⟩
  have s0 : Same H (upd H l1 (.lst [])) := same_new hl1
  have W0 := W.mono s0
  have ll := laidN_len o
  refine ⟨_, rfl, a, _, _, rfl, W0.wo, (by rfl), a, m, L, rfl, W0, o, fun p H1 hp s1 h1 => ?_⟩
  have s01 := s0.trans s1
  have atl : ∀ ks : List Nat, (atUp m (i0 : Int) (n0 : Int) ks).length ≤ ks.length := fun ks => List.length_filter_le _ _
  refine ⟨p, rfl, ⟨_, SqL.of h1⟩, for_list (K := K) (a := p) (xs := (laidI m).map V.int) (fun i σ H' => ∃ v5 v6 : Option V, σ = [some (.ref a), some (.ref b), some (.int (i0 : Int)), some (.int (n0 : Int)), some (.ref l1), v5, v6] ∧ Same H H' ∧ H' p = some (.lst ((laidI m).map V.int)) ∧
      H' l1 = some (.lst (((atUp m (i0 : Int) (n0 : Int) ((laidN m.plies).take i)).map fun (k : Nat) => (k : Int)).map V.int)))
    ⟨none, none, rfl, s01, h1, s1 _ _ upd_same⟩ (fun i σ H' _ ⟨_, _, _, _, r, _⟩ => SqL.of r) ?_ ?_⟩
  · rintro i x σ H' hx ⟨v5, v6, rfl, u1, up, ul⟩
    obtain ⟨k, hk, rfl, hk2, hk3⟩ := laidI_get hx
    have W' := W.mono u1
    obtain ⟨qq, h2, _, _, h3, h4⟩ := W'.ply hk2
    have okp := o.ply hk2
    obtain ⟨t, ht⟩ := laid_turn hk3
    refine ⟨_, rfl, a, _, _, _, _, rfl, W'.wo, T.clW, T.wp, (by rfl : (wF m L.pr L.pp).lookup ("plies" : Str) = some (.ref L.pp)), _, rfl, L.pp, _, _, _, rfl, rfl, SqL.of W'.po, atI_nat h2, qq.1, _, _, rfl, h3, (by rfl), _, rfl, a, _, _, _, _, rfl, W'.wo, T.clW, T.wg, (by rfl : (wF m L.pr L.pp).lookup ("girth" : Str) = some (.int m.g)),
      qq.1, _, _, _, m.g, t, rfl, h3, h4, ht, by omega, by omega, fun p2 H2 hp2 s2 h22 => ?_⟩
    have W2 := W'.mono s2
    have e6 := placesI_len m.g (Bp.ply m k)
    refine ⟨_, rfl, _, rfl, _, rfl, a, _, _, _, _, rfl, W2.wo, T.clW, T.wg, (by rfl : (wF m L.pr L.pp).lookup ("girth" : Str) = some (.int m.g)), p2, _, _, m.g, rfl, SqL.of h22, by omega, by omega, fun H3 s3 => ?_⟩
    have s23 := s2.trans s3
    have ul3 := s23 _ _ ul
    refine ⟨_, rfl, _, _, rfl, rfl, _, rfl, ?_⟩
    have emore : atUp m (i0 : Int) (n0 : Int) ((laidN m.plies).take (i + 1)) = atUp m (i0 : Int) (n0 : Int) ((laidN m.plies).take i) ++ (if nearI (i0 : Int) (placesI m.g (plAt m.plies k)) m.g ≤ (n0 : Int) then [k] else []) := by
      rw [take_more hk]
      unfold atUp
      rw [List.filter_append]
      congr 1
      by_cases c : nearI (i0 : Int) (placesI m.g (plAt m.plies k)) m.g ≤ (n0 : Int) <;> simp [List.filter_cons, c]
    show if decide (nearI (i0 : Int) (placesI m.g (plAt m.plies k)) m.g ≤ (n0 : Int)) = true then _ else _
    refine ite2 (fun c2 => ?_) (fun c2 => ?_)
    · have c2 := of_decide_eq_true c2
      refine ⟨_, rfl, .inl ⟨rfl, _, SqL.of ul3⟩, _, rfl, l1, _, _, rfl, rfl, ul3, big' (by have := atl ((laidN m.plies).take i); simp only [List.length_map, List.length_take] at *; omega), ?_⟩
      refine ⟨_, _, rfl, same_put (u1.trans s23) hl1, ?_, ?_⟩
      · rw [upd_ne (fun e => by rw [e] at hp; rw [upd_same] at hp; cases hp)]
        exact s23 _ _ up
      · rw [upd_same, emore, if_pos c2]
        simp
    · refine ⟨_, _, rfl, u1.trans s23, s23 _ _ up, ?_⟩
      rw [emore, if_neg fun h => c2 (decide_eq_true h), List.append_nil]
      exact ul3
  · rintro σ H' ⟨v5, v6, rfl, u1, up, ul⟩
    rw [laidI_len, List.take_length] at ul
    refine ⟨_, rfl, l1, _, rfl, .inl (SqL.of ul), one1, fun p3 hp3 => ?_⟩
    have s3 := same_new (o := HO.lst [.int ((((atUp m (i0 : Int) (n0 : Int) (laidN m.plies)).map fun (k : Nat) => (k : Int)).map V.int).length : Int)]) hp3
    refine ⟨_, rfl, p3, l1, _, _, rfl, rfl, upd_same, s3 _ _ ul, big (by have := atl (laidN m.plies); simp only [List.length_map, List.length_cons, List.length_nil]; omega), fun p4 hp4 => ?_⟩
    have e7 : (((atUp m (i0 : Int) (n0 : Int) (laidN m.plies)).map fun (k : Nat) => (k : Int)).map V.int).length = (atUp m (i0 : Int) (n0 : Int) (laidN m.plies)).length := by rw [List.length_map, List.length_map]
    have := q.new (u1.trans s3) hp4
    rw [e7] at this ⊢
    exact this
abbrev sAll : Stmt := top 50
abbrev nAll : List Str := ["works", "told", "laid", "marked", "number", "place"]
theorem scAll : FnScope nAll WT (defScope sAll) := ⟨rfl, rfl, rfl, by decide +kernel, rfl, by decide +kernel, by decide +kernel⟩
/-- tuples that stand for marks -/
def MarksAt (H : Hp) (ts : List Addr) (ms : List (Int × Int)) : Prop := ts.length = ms.length ∧ ∀ (i : Nat) (t : Addr) (m : Int × Int), ts[i]? = some t → ms[i]? = some m → H t = some (.tup [.int m.1, .int m.2])
theorem MarksAt.mono {H H' : Hp} {ts : List Addr} {ms : List (Int × Int)} (h : MarksAt H ts ms) (s : Same H H') : MarksAt H' ts ms := ⟨h.1, fun i t m a b => s _ _ (h.2 i t m a b)⟩
theorem MarksAt.put {H : Hp} {ts : List Addr} {ms : List (Int × Int)} (h : MarksAt H ts ms) {l : Addr} {xs ys : List V} (hl : H l = some (.lst xs)) : MarksAt (upd H l (.lst ys)) ts ms := ⟨h.1, fun i t m a b => by
  have e := h.2 i t m a b
  rw [upd_ne (ne_of e hl (by intro z; cases z))]
  exact e⟩
theorem MarksAt.more {H : Hp} {ts : List Addr} {ms : List (Int × Int)} (h : MarksAt H ts ms) {t : Addr} {m : Int × Int} (e : H t = some (.tup [.int m.1, .int m.2])) : MarksAt H (ts ++ [t]) (ms ++ [m]) := by
  refine ⟨by rw [List.length_append, List.length_append, h.1]; rfl, fun i t' m' a b => ?_⟩
  by_cases c : i < ts.length
  · rw [List.getElem?_append_left c] at a
    rw [List.getElem?_append_left (by rw [← h.1]; exact c)] at b
    exact h.2 i t' m' a b
  · rw [List.getElem?_append_right (by omega)] at a
    rw [List.getElem?_append_right (by rw [← h.1]; omega), ← h.1] at b
    cases d : i - ts.length with
    | zero =>
      rw [d] at a b
      have a := Option.some.inj a
      have b := Option.some.inj b
      subst a b
      exact e
    | succ j =>
      rw [d] at a
      cases a
theorem sort_ok (ms : List (Int × Int)) : IsSorted ms (sortP ms) := by
  have ins_perm : ∀ (x : Int × Int) (l : List (Int × Int)), (insP x l).Perm (x :: l) := by
    intro x l
    induction l with
    | nil => exact List.Perm.refl _
    | cons y r ih =>
      unfold insP
      split
      · exact List.Perm.refl _
      · exact (List.Perm.cons y ih).trans (List.Perm.swap x y r)
  have ins_sorted : ∀ (x : Int × Int) (l : List (Int × Int)), l.Pairwise lexLe → (insP x l).Pairwise lexLe := by
    intro x l
    induction l with
    | nil => intro _; exact List.pairwise_singleton _ _
    | cons y r ih =>
      intro h
      have front := (List.pairwise_cons.mp h).1
      have h2 := (List.pairwise_cons.mp h).2
      unfold insP
      split
      · next c =>
        refine List.pairwise_cons.mpr ⟨fun z hz => ?_, h⟩
        rcases List.mem_cons.mp hz with rfl | far
        · exact c
        · have := front z far
          unfold lexLe at *
          omega
      · next c =>
        refine List.pairwise_cons.mpr ⟨fun z hz => ?_, ih h2⟩
        rcases List.mem_cons.mp ((ins_perm x r).mem_iff.mp hz) with rfl | hz
        · unfold lexLe
          omega
        · exact front z hz
  induction ms with
  | nil => exact ⟨List.Perm.refl _, List.Pairwise.nil⟩
  | cons x r ih => exact ⟨(ins_perm x _).trans (List.Perm.cons x ih.1), ins_sorted x _ ih.2⟩
theorem sort_one {ms ys zs : List (Int × Int)} (h : IsSorted ms ys) (h' : IsSorted ms zs) : ys = zs := by
  refine List.Perm.eq_of_pairwise (le := lexLe) (fun a b _ _ h1 h2 => ?_) h.2 h'.2 (h.1.trans h'.1.symm)
  unfold lexLe at *
  exact Prod.ext (by omega) (by omega)
theorem k_all (T : Txt K mg C aT) (G : Gf K mg "all_laid" sAll) (kL : Km P w K mg base C.W "laid_numbers" 2 ["self"] (spLaidNums C)) (kP : Km P w K mg base C.P "places" 2 ["self", "girth"] (spPlaces C)) (kN : Kf P w K mg base "nearness_of_plies" 2 ["marked", "girth"] (spAdj K)) :
    Kf P w K mg base "all_laid" 3 WT (spRo K C 0 aAll) := by
  refine G.ok scAll (fun vs H Q E h => ?_) (fun _ _ _ _ _ _ us hl => match us, hl with | [_, _], _ => rfl) (fun f cdv A outer s H vs Q E hr h => ?_)
  · obtain ⟨a, b, m, L, ts, rfl, _⟩ := h
    rfl
  obtain ⟨a, b, m, L, ts, rfl, W, o, hs, ht, h0, q⟩ := h
  have og := o.g
  refine ⟨_, pss_cons (ps_set (i := 2) scAll.nd rfl (Or.inl rfl) (pe_km0 kL T.clW hr (pv 0)))
    (pss_cons (ps_set (i := 3) scAll.nd rfl (Or.inl rfl) (pe_lst pa_nil))
    (pss_cons (ps_for PassesOwn.never rfl (pi_list (pv 2)) (pg_name (i := 4) scAll.nd rfl (Or.inl rfl))
      (pss_one (ps_for PassesOwn.never rfl (pi_list (pe_km kP T.clP hr (pe_ix ix_list (pe_fld (pv 0) rfl) (pv 4) (fun _ _ => rfl)) (pa_cons (pe_fld (pv 0) rfl) pa_nil))) (pg_name (i := 5) scAll.nd rfl (Or.inl rfl))
        (pss_one (ps_expr (pe_bm PySem.F.plainAttrs_list PySem.F.slot_list_append PySem.F.type_list_append mt_append (pv 3) (pa_cons (pe_tup (pa_cons (pv 5) (pa_cons (pv 4) pa_nil))) pa_nil)))))))
    (pss_one (ps_ret (pe_op op_cat (pe_lst (pa_cons (pe_kf kN hr (by rfl) (pa_cons (pv 3) (pa_cons (pe_fld (pv 0) rfl) pa_nil))) pa_nil)) (pv 2)))))), ?_⟩
  change retL H Q (minD m.g (adj m.g (sortP (marksUp m.plies m.g (laidN m.plies)))) :: laidI m) at q
  have ll := laidN_len o
  have lk : ∀ k ∈ laidN m.plies, k < m.plies.length := fun k hk => (laidN_mem hk).1
  refine ⟨_, rfl, a, _, _, rfl, W.wo, (by rfl), a, m, L, rfl, W, o, fun p H1 hp s1 h1 => ?_⟩
  refine ⟨Nat.zero_le _, fun l1 hl1 => ?_⟩
  have t1 : Same H1 (upd H1 l1 (.lst [])) := same_new hl1
  have npl : p ≠ l1 := ne_of_none h1 hl1
  have hl0 : H l1 = none := s1.free hl1
  refine ⟨_, rfl, p, rfl, ⟨_, SqL.of (t1 _ _ h1)⟩, for_list (K := K) (a := p) (xs := (laidI m).map V.int) (fun i σ H' => ∃ (v4 v5 : Option V) (ts : List Addr), σ = [some (.ref a), some (.ref b), some (.ref p), some (.ref l1), v4, v5] ∧ Same H H' ∧ H' p = some (.lst ((laidI m).map V.int)) ∧
      H' l1 = some (.lst (ts.map V.ref)) ∧ MarksAt H' ts (marksUp m.plies m.g ((laidN m.plies).take i)))
    ⟨none, none, [], rfl, s1.trans t1, t1 _ _ h1, upd_same, rfl, fun i t m h => by cases h⟩ (fun i σ H' _ ⟨_, _, _, _, _, r, _⟩ => SqL.of r) ?_ ?_⟩
  · rintro i x σ H' hx ⟨v4, v5, ts, rfl, u1, up, ul, um⟩
    obtain ⟨k, hk, rfl, hk2, hk3⟩ := laidI_get hx
    have W' := W.mono u1
    obtain ⟨qq, h2, _, _, h3, h4⟩ := W'.ply hk2
    have okp := o.ply hk2
    obtain ⟨t, ht⟩ := laid_turn hk3
    have e6 := placesI_len m.g (Bp.ply m k)
    have ml := marks_len o ((laidN m.plies).take i) fun j hj => lk j (List.mem_of_mem_take hj)
    have mt := List.length_take_le i (laidN m.plies)
    have mt2 : ((laidN m.plies).take i).length ≤ 12 := by rw [List.length_take]; omega
    refine ⟨_, rfl, a, _, _, _, _, rfl, W'.wo, T.clW, T.wp, (by rfl : (wF m L.pr L.pp).lookup ("plies" : Str) = some (.ref L.pp)), _, rfl, L.pp, _, _, _, rfl, rfl, SqL.of W'.po, atI_nat h2, qq.1, _, _, rfl, h3, (by rfl), _, rfl, a, _, _, _, _, rfl, W'.wo, T.clW, T.wg, (by rfl : (wF m L.pr L.pp).lookup ("girth" : Str) = some (.int m.g)),
      qq.1, _, _, _, m.g, t, rfl, h3, h4, ht, by omega, by omega, fun p2 H2 hp2 s2 h22 => ?_⟩
    have n2l : p2 ≠ l1 := fun e => by rw [e, ul] at hp2; cases hp2
    refine ⟨p2, rfl, ⟨_, SqL.of h22⟩, for_list (K := K) (a := p2) (xs := (placesI m.g (Bp.ply m k)).map V.int) (fun j σ H' => ∃ (v5 : Option V) (ts : List Addr), σ = [some (.ref a), some (.ref b), some (.ref p), some (.ref l1), some (.int (k : Int)), v5] ∧ Same H H' ∧ H' p = some (.lst ((laidI m).map V.int)) ∧
        H' p2 = some (.lst ((placesI m.g (Bp.ply m k)).map V.int)) ∧ H' l1 = some (.lst (ts.map V.ref)) ∧ MarksAt H' ts (marksUp m.plies m.g ((laidN m.plies).take i) ++ ((placesI m.g (Bp.ply m k)).take j).map fun z => (z, (k : Int))))
      ⟨v5, ts, rfl, u1.trans s2, s2 _ _ up, h22, s2 _ _ ul, by simpa using um.mono s2⟩ (fun j σ H' _ ⟨_, _, _, _, _, r, _⟩ => SqL.of r) ?_ ?_⟩
    · rintro j y σ H3 hy ⟨v5, ts, rfl, w1, wp, w2, wl, wm⟩
      obtain ⟨z, hz, rfl⟩ := map_get hy
      have tl1 := wm.1
      rw [List.length_append, List.length_map, List.length_take] at tl1
      refine ⟨_, rfl, .inl ⟨rfl, _, SqL.of wl⟩, _, rfl, _, rfl, two2, fun t3 ht3 => ?_⟩
      have s3 := same_new (o := HO.tup [.int z, .int (k : Int)]) ht3
      refine ⟨l1, _, _, rfl, rfl, s3 _ _ wl, big' (by rw [List.length_map]; omega), ?_⟩
      refine ⟨some (.int z), ts ++ [t3], rfl, same_put (w1.trans s3) hl0, ?_, ?_, ?_, ?_⟩
      · rw [upd_ne npl]
        exact s3 _ _ wp
      · rw [upd_ne n2l]
        exact s3 _ _ w2
      · rw [upd_same, List.map_append]
        rfl
      · rw [take_more hz, List.map_append, ← List.append_assoc]
        exact ((wm.mono s3).more (m := (z, (k : Int))) upd_same).put (s3 _ _ wl)
    · rintro σ H3 ⟨v5, ts, rfl, w1, wp, w2, wl, wm⟩
      rw [List.length_map, List.take_length] at wm
      refine ⟨_, v5, ts, rfl, w1, wp, wl, ?_⟩
      rw [take_more hk, marks_more]
      exact wm
  · rintro σ H' ⟨v4, v5, ts, rfl, u1, up, ul, um⟩
    rw [laidI_len, List.take_length] at um
    have W' := W.mono u1
    have ml := marks_len o (laidN m.plies) lk
    refine ⟨_, rfl, _, rfl, a, _, _, _, _, rfl, W'.wo, T.clW, T.wg, (by rfl : (wF m L.pr L.pp).lookup ("girth" : Str) = some (.int m.g)), l1, ts, _, m.g, rfl, SqL.of ul, um.1, um.2, by omega, by omega, fun ys hy H2 s2 => ?_⟩
    rw [sort_one hy (sort_ok _)]
    refine ⟨one1, fun p3 hp3 => ?_⟩
    have s3 := s2.trans (same_new (o := HO.lst [.int (minD m.g (adj m.g (sortP (marksUp m.plies m.g (laidN m.plies)))))]) hp3)
    refine ⟨_, rfl, p3, p, _, _, rfl, rfl, upd_same, s3 _ _ up, big (by rw [laidI_len]; show 1 + _ ≤ _; omega), fun p4 hp4 => q.new (u1.trans s3) hp4⟩
end
end Bp
namespace Bp
open PySem PySem.Spec PyProof.Rows L2
/-- a call that may change the object; G: what else is tracked -/
def spMu (K : PySem.W.Frag) (C : Cs) (n : Nat) (f : M → List Int → M × List Int) : Sp := fun vs H Q _ => ∃ (w b : Addr) (m : M) (L : Lay) (G : Hp) (ts : List Int), vs = [.ref w, .ref b] ∧ WAt C G H w m L ∧ Ok m ∧ SqL K H b (ts.map V.int) ∧ ts.length = n ∧ (∀ z ∈ ts, 0 ≤ z) ∧
  ∀ (H' : Hp) (p : Addr) (L' : Lay), WAt C G H' w (f m ts).1 L' → H p = none → H' p = some (.lst ((f m ts).2.map V.int)) → Q (.ref p) H'
theorem wr_ne {C D : Addr} {d e : Addr} {m : M} {a b : Addr} {r : Bp.R} : HO.ins C d (wF m a b) ≠ HO.ins D e (rF r) := fun z => by
  injection z with _ _ z
  exact absurd (congrArg List.length z) (by show ¬ (8 = 3); decide)
theorem wp_ne {C D : Addr} {d e : Addr} {m : M} {a b : Addr} {p : Pl} {st : Addr} : HO.ins C d (wF m a b) ≠ HO.ins D e (pF p st) := fun z => by
  injection z with _ _ z
  exact absurd (congrArg List.length z) (by show ¬ (8 = 4); decide)
theorem rp_ne {C D : Addr} {d e : Addr} {r : Bp.R} {p : Pl} {st : Addr} : HO.ins C d (rF r) ≠ HO.ins D e (pF p st) := fun z => by
  injection z with _ _ z
  exact absurd (congrArg List.length z) (by show ¬ (3 = 4); decide)
theorem li_ne {xs : List V} {C d : Addr} {fs : List (Str × V)} : HO.lst xs ≠ HO.ins C d fs := fun z => nomatch z
theorem il_ne {xs : List V} {C d : Addr} {fs : List (Str × V)} : HO.ins C d fs ≠ HO.lst xs := fun z => nomatch z
section
variable {C : Cs} {G H : Hp} {w : Addr} {m : M} {L : Lay}
theorem WR.rAll (W : WR C H w m L) {q : Addr × Addr} (h : q ∈ L.rs) : ∃ r, H q.1 = some (.ins C.R q.2 (rF r)) := by
  obtain ⟨i, hi⟩ := List.mem_iff_getElem?.mp h
  have hlt := (List.getElem?_eq_some_iff.mp hi).1
  rw [W.rl] at hlt
  exact ⟨_, W.ra i q _ hi (List.getElem?_eq_getElem hlt)⟩
theorem WR.pAll (W : WR C H w m L) {q : Addr × Addr × Addr} (h : q ∈ L.ps) : ∃ p : Pl, H q.1 = some (.ins C.P q.2.1 (pF p q.2.2)) ∧ H q.2.2 = some (.lst (p.st.map V.int)) := by
  obtain ⟨i, hi⟩ := List.mem_iff_getElem?.mp h
  have hlt := (List.getElem?_eq_some_iff.mp hi).1
  rw [W.pl] at hlt
  exact ⟨_, W.pa i q _ hi (List.getElem?_eq_getElem hlt)⟩
theorem same_upd (s : Same G H) {e : Addr} {o : HO} (h : G e = none) : Same G (upd H e o) := same_put s h
/-- one roll more -/
theorem WAt.addRoll (W : WAt C G H w m L) {x dx : Addr} {r : Bp.R} (hx : H x = some (.ins C.R dx (rF r))) (gx : G x = none) (nx : ∀ q ∈ L.rs, q.1 ≠ x) :
    WAt C G (upd H L.pr (.lst ((L.rs.map fun q => V.ref q.1) ++ [.ref x]))) w { m with rolls := m.rolls ++ [r] } { L with rs := L.rs ++ [(x, dx)] } := by
  have R := W.wr
  refine ⟨⟨?_, ?_, ?_, ?_, R.pl, fun i q r' hq hr => ?_, fun i q p hq hp => ?_⟩, same_upd W.same W.gr, W.gw, W.gr, W.gp, fun q hq => ?_, W.gP, W.gS, ?_, W.np, W.ne, W.ns⟩
  · rw [upd_ne (ne_of R.wo R.ro il_ne)]
    exact R.wo
  · rw [upd_same, List.map_append]
    rfl
  · rw [upd_ne W.ne.symm]
    exact R.po
  · show (L.rs ++ [(x, dx)]).length = (m.rolls ++ [r]).length
    rw [List.length_append, List.length_append, R.rl]
    rfl
  · by_cases c : i < L.rs.length
    · rw [show (({ L with rs := L.rs ++ [(x, dx)] } : Lay).rs)[i]? = L.rs[i]? from List.getElem?_append_left c] at hq
      rw [show (({ m with rolls := m.rolls ++ [r] } : M).rolls)[i]? = m.rolls[i]? from List.getElem?_append_left (by rw [← R.rl]; exact c)] at hr
      have e := R.ra i q r' hq hr
      rw [upd_ne (ne_of e R.ro il_ne)]
      exact e
    · rw [show (({ L with rs := L.rs ++ [(x, dx)] } : Lay).rs)[i]? = [(x, dx)][i - L.rs.length]? from List.getElem?_append_right (by omega)] at hq
      rw [show (({ m with rolls := m.rolls ++ [r] } : M).rolls)[i]? = [r][i - m.rolls.length]? from List.getElem?_append_right (by rw [← R.rl]; omega), ← R.rl] at hr
      cases d : i - L.rs.length with
      | succ j =>
        rw [d] at hq
        cases hq
      | zero =>
        rw [d] at hq hr
        have hq := Option.some.inj hq
        have hr := Option.some.inj hr
        subst hq hr
        rw [upd_ne (ne_of hx R.ro il_ne)]
        exact hx
  · have e := R.pa i q p hq hp
    have hm := List.mem_of_getElem? hq
    rw [upd_ne (ne_of e.1 R.ro il_ne), upd_ne (W.ns q hm).1]
    exact e
  · rcases List.mem_append.mp hq with hq | hq
    · exact W.gR q hq
    · rw [List.mem_singleton.mp hq]
      exact gx
  · show ((L.rs ++ [(x, dx)]).map (·.1)).Nodup
    rw [List.map_append]
    refine nd_snoc W.nr fun hm => ?_
    obtain ⟨q, hq, e⟩ := List.mem_map.mp hm
    exact nx q hq e
/-- one ply more -/
theorem WAt.addPly (W : WAt C G H w m L) {x dx st : Addr} {p : Pl} (hx : H x = some (.ins C.P dx (pF p st))) (hst : H st = some (.lst (p.st.map V.int))) (gx : G x = none) (gst : G st = none) (nx : ∀ q ∈ L.ps, q.1 ≠ x) (n1 : st ≠ L.pr) (n2 : st ≠ L.pp) :
    WAt C G (upd H L.pp (.lst ((L.ps.map fun q => V.ref q.1) ++ [.ref x]))) w { m with plies := m.plies ++ [p] } { L with ps := L.ps ++ [(x, dx, st)] } := by
  have R := W.wr
  refine ⟨⟨?_, ?_, ?_, R.rl, ?_, fun i q r' hq hr => ?_, fun i q p' hq hp => ?_⟩, same_upd W.same W.gp, W.gw, W.gr, W.gp, W.gR, fun q hq => ?_, fun q hq => ?_, W.nr, ?_, W.ne, fun q hq => ?_⟩
  · rw [upd_ne (ne_of R.wo R.po il_ne)]
    exact R.wo
  · rw [upd_ne W.ne]
    exact R.ro
  · rw [upd_same, List.map_append]
    rfl
  · show (L.ps ++ [(x, dx, st)]).length = (m.plies ++ [p]).length
    rw [List.length_append, List.length_append, R.pl]
    rfl
  · have e := R.ra i q r' hq hr
    rw [upd_ne (ne_of e R.po il_ne)]
    exact e
  · by_cases c : i < L.ps.length
    · rw [show (({ L with ps := L.ps ++ [(x, dx, st)] } : Lay).ps)[i]? = L.ps[i]? from List.getElem?_append_left c] at hq
      rw [show (({ m with plies := m.plies ++ [p] } : M).plies)[i]? = m.plies[i]? from List.getElem?_append_left (by rw [← R.pl]; exact c)] at hp
      have e := R.pa i q p' hq hp
      rw [upd_ne (ne_of e.1 R.po il_ne), upd_ne (W.ns q (List.mem_of_getElem? hq)).2]
      exact e
    · rw [show (({ L with ps := L.ps ++ [(x, dx, st)] } : Lay).ps)[i]? = [(x, dx, st)][i - L.ps.length]? from List.getElem?_append_right (by omega)] at hq
      rw [show (({ m with plies := m.plies ++ [p] } : M).plies)[i]? = [p][i - m.plies.length]? from List.getElem?_append_right (by rw [← R.pl]; omega), ← R.pl] at hp
      cases d : i - L.ps.length with
      | succ j =>
        rw [d] at hq
        cases hq
      | zero =>
        rw [d] at hq hp
        have hq := Option.some.inj hq
        have hp := Option.some.inj hp
        subst hq hp
        rw [upd_ne (ne_of hx R.po il_ne), upd_ne n2]
        exact ⟨hx, hst⟩
  · rcases List.mem_append.mp hq with hq | hq
    · exact W.gP q hq
    · rw [List.mem_singleton.mp hq]
      exact gx
  · rcases List.mem_append.mp hq with hq | hq
    · exact W.gS q hq
    · rw [List.mem_singleton.mp hq]
      exact gst
  · show ((L.ps ++ [(x, dx, st)]).map (·.1)).Nodup
    rw [List.map_append]
    refine nd_snoc W.np fun hm => ?_
    obtain ⟨q, hq, e⟩ := List.mem_map.mp hm
    exact nx q hq e
  · rcases List.mem_append.mp hq with hq | hq
    · exact W.ns q hq
    · rw [List.mem_singleton.mp hq]
      exact ⟨n1, n2⟩
/-- a roll changed -/
theorem WAt.setRoll (W : WAt C G H w m L) {k : Nat} {q0 : Addr × Addr} {r0 : Bp.R} {f : Bp.R → Bp.R} (hk : L.rs[k]? = some q0) (hr : m.rolls[k]? = some r0) :
    WAt C G (upd H q0.1 (.ins C.R q0.2 (rF (f r0)))) w { m with rolls := m.rolls.modify k f } L := by
  have R := W.wr
  have e0 := R.ra k q0 r0 hk hr
  have g0 := W.gR q0 (List.mem_of_getElem? hk)
  refine ⟨⟨?_, ?_, ?_, ?_, R.pl, fun i q r' hq hr' => ?_, fun i q p hq hp => ?_⟩, same_upd W.same g0, W.gw, W.gr, W.gp, W.gR, W.gP, W.gS, W.nr, W.np, W.ne, W.ns⟩
  · rw [upd_ne (ne_of R.wo e0 wr_ne)]
    exact R.wo
  · rw [upd_ne (ne_of R.ro e0 li_ne)]
    exact R.ro
  · rw [upd_ne (ne_of R.po e0 li_ne)]
    exact R.po
  · show L.rs.length = (m.rolls.modify k f).length
    rw [List.length_modify]
    exact R.rl
  · rw [show (({ m with rolls := m.rolls.modify k f } : M).rolls)[i]? = (m.rolls.modify k f)[i]? from rfl, List.getElem?_modify] at hr'
    by_cases c : k = i
    · subst c
      rw [hk] at hq
      rw [hr] at hr'
      have hq := Option.some.inj hq
      subst hq
      simp at hr'
      subst hr'
      exact upd_same
    · simp [c] at hr'
      have ne : q.1 ≠ q0.1 := fun e => by
        have h1 : (L.rs.map (·.1))[i]? = some q.1 := by rw [List.getElem?_map, hq]; rfl
        have h2 : (L.rs.map (·.1))[k]? = some q.1 := by rw [List.getElem?_map, hk, e]; rfl
        exact c (nd_ix W.nr h2 h1)
      rw [upd_ne ne]
      exact R.ra i q r' hq hr'
  · have e := R.pa i q p hq hp
    rw [upd_ne (ne_of e.1 e0 fun z => rp_ne z.symm), upd_ne (ne_of e.2 e0 li_ne)]
    exact e
/-- a ply turned -/
theorem WAt.setTurn (W : WAt C G H w m L) {k : Nat} {q0 : Addr × Addr × Addr} {p0 : Pl} (t : Option Int) (hk : L.ps[k]? = some q0) (hp : m.plies[k]? = some p0) :
    WAt C G (upd H q0.1 (.ins C.P q0.2.1 (pF { p0 with turn := t } q0.2.2))) w (setTurn m k t) L := by
  have R := W.wr
  have e0 := R.pa k q0 p0 hk hp
  have g0 := W.gP q0 (List.mem_of_getElem? hk)
  refine ⟨⟨?_, ?_, ?_, R.rl, ?_, fun i q r' hq hr' => ?_, fun i q p hq hp' => ?_⟩, same_upd W.same g0, W.gw, W.gr, W.gp, W.gR, W.gP, W.gS, W.nr, W.np, W.ne, W.ns⟩
  · rw [upd_ne (ne_of R.wo e0.1 wp_ne)]
    exact R.wo
  · rw [upd_ne (ne_of R.ro e0.1 li_ne)]
    exact R.ro
  · rw [upd_ne (ne_of R.po e0.1 li_ne)]
    exact R.po
  · show L.ps.length = (m.plies.modify k _).length
    rw [List.length_modify]
    exact R.pl
  · have e := R.ra i q r' hq hr'
    rw [upd_ne (ne_of e e0.1 rp_ne)]
    exact e
  · rw [show ((Bp.setTurn m k t).plies)[i]? = (m.plies.modify k fun p => { p with turn := t })[i]? from rfl, List.getElem?_modify] at hp'
    by_cases c : k = i
    · subst c
      rw [hk] at hq
      rw [hp] at hp'
      have hq := Option.some.inj hq
      subst hq
      simp at hp'
      subst hp'
      rw [upd_same, upd_ne (ne_of e0.2 e0.1 li_ne)]
      exact ⟨rfl, e0.2⟩
    · simp [c] at hp'
      have ne : q.1 ≠ q0.1 := fun e => by
        have h1 : (L.ps.map (·.1))[i]? = some q.1 := by rw [List.getElem?_map, hq]; rfl
        have h2 : (L.ps.map (·.1))[k]? = some q.1 := by rw [List.getElem?_map, hk, e]; rfl
        exact c (nd_ix W.np h2 h1)
      have e := R.pa i q p hq hp'
      rw [upd_ne ne, upd_ne (ne_of e.2 e0.1 li_ne)]
      exact e
/-- another list changed -/
theorem WAt.other (W : WAt C G H w m L) {l : Addr} {xs ys : List V} (hl : H l = some (.lst xs)) (gl : G l = none) (n1 : l ≠ L.pr) (n2 : l ≠ L.pp) (n3 : ∀ q ∈ L.ps, q.2.2 ≠ l) : WAt C G (upd H l (.lst ys)) w m L := by
  have R := W.wr
  refine ⟨⟨?_, ?_, ?_, R.rl, R.pl, fun i q r hq hr => ?_, fun i q p hq hp => ?_⟩, same_upd W.same gl, W.gw, W.gr, W.gp, W.gR, W.gP, W.gS, W.nr, W.np, W.ne, W.ns⟩
  · rw [upd_ne (ne_of R.wo hl il_ne)]
    exact R.wo
  · rw [upd_ne n1.symm]
    exact R.ro
  · rw [upd_ne n2.symm]
    exact R.po
  · have e := R.ra i q r hq hr
    rw [upd_ne (ne_of e hl il_ne)]
    exact e
  · have e := R.pa i q p hq hp
    rw [upd_ne (ne_of e.1 hl il_ne), upd_ne (n3 q (List.mem_of_getElem? hq))]
    exact e
/-- a list changed that is none of the object's -/
theorem WAt.given (W : WAt C G H w m L) {l : Addr} {xs : List V} {o : HO} (gl : G l = some (.lst xs)) : WAt C (upd G l o) (upd H l o) w m L := by
  have R := W.wr
  have no : ∀ {e : Addr}, G e = none → e ≠ l := fun h e => by rw [e, gl] at h; cases h
  have g : ∀ {e : Addr}, G e = none → upd G l o e = none := fun h => by rw [upd_ne (no h)]; exact h
  refine ⟨⟨?_, ?_, ?_, R.rl, R.pl, fun i q r hq hr => ?_, fun i q p hq hp => ?_⟩, fun b u e => ?_, g W.gw, g W.gr, g W.gp, fun q hq => g (W.gR q hq), fun q hq => g (W.gP q hq), fun q hq => g (W.gS q hq), W.nr, W.np, W.ne, W.ns⟩
  · rw [upd_ne (no W.gw)]
    exact R.wo
  · rw [upd_ne (no W.gr)]
    exact R.ro
  · rw [upd_ne (no W.gp)]
    exact R.po
  · rw [upd_ne (no (W.gR q (List.mem_of_getElem? hq)))]
    exact R.ra i q r hq hr
  · rw [upd_ne (no (W.gP q (List.mem_of_getElem? hq))), upd_ne (no (W.gS q (List.mem_of_getElem? hq)))]
    exact R.pa i q p hq hp
  · by_cases c : b = l
    · subst c
      rw [upd_same] at e ⊢
      exact e
    · rw [upd_ne c] at e ⊢
      exact W.same b u e
/-- what is told still stands, where a list is changed that was made behind it -/
theorem sq_put {K : PySem.W.Frag} {H0 H' : Hp} {b l : Addr} {xs : List V} {o : HO} (h0 : SqL K H0 b xs) (hl : H0 l = none) (h : SqL K H' b xs) : SqL K (upd H' l o) b xs := by
  have ne : (∃ u, H0 b = some u) → b ≠ l := fun ⟨u, hu⟩ e => by rw [e, hl] at hu; cases hu
  have key : b ≠ l → SqL K (upd H' l o) b xs := fun n => by
    rcases h with (h | ⟨o', h⟩) | h
    · exact .inl (.inl (by rw [upd_ne n]; exact h))
    · exact .inl (.inr ⟨o', by rw [upd_ne n]; exact h⟩)
    · exact .inr h
  rcases h0 with (h0 | ⟨o', h0⟩) | h0
  · exact key (ne ⟨_, h0⟩)
  · exact key (ne ⟨_, h0⟩)
  · exact .inr h0
end
end Bp
namespace Bp
open PySem PySem.Spec PyProof.Rows L2
def triI (a b c : Int) : Bool := decide (0 < a) && (decide (0 < b) && (decide (c ≤ 1000) && decide (a * a + b * b = c * c)))
def spTri : Sp := fun vs H Q _ => ∃ a b c : Int, vs = [.int a, .int b, .int c] ∧ (0 ≤ a ∧ a ≤ 4294967295) ∧ (0 ≤ b ∧ b ≤ 4294967295) ∧ (0 ≤ c ∧ c ≤ 4294967295) ∧ Q (.bl (triI a b c)) H
/-- begin: asked of any object; what is told is bounded -/
def spBegin (K : PySem.W.Frag) (C : Cs) : Sp := fun vs H Q _ => ∃ (w b : Addr) (m : M) (L : Lay) (G : Hp) (ts : List Int), vs = [.ref w, .ref b] ∧ WAt C G H w m L ∧ SqL K H b (ts.map V.int) ∧ ts.length = 6 ∧ (∀ z ∈ ts, 0 ≤ z ∧ z ≤ 4294967295) ∧
  ∀ (H' : Hp) (p : Addr) (L' : Lay), WAt C G H' w (cBegin m ts).1 L' → H p = none → H' p = some (.lst ((cBegin m ts).2.map V.int)) → Q (.ref p) H'
theorem told6 {ts : List Int} (h : ts.length = 6) : ∃ a b c d e f, ts = [a, b, c, d, e, f] := by
  match ts, h with
  | [a, b, c, d, e, f], _ => exact ⟨a, b, c, d, e, f, rfl⟩
section
variable {P : Program} {w : World} {K : PySem.W.Frag} {mg : Str → Option Value} {base : Heap} {C : Cs} {aT : Addr}
abbrev sTri : Stmt := top 40
theorem scTri : FnScope ["a", "b", "c"] ["a", "b", "c"] (defScope sTri) := ⟨rfl, rfl, rfl, by decide +kernel, rfl, by decide +kernel, by decide +kernel⟩
theorem k_tri (G : Gf K mg "is_triangle" sTri) : Kf P w K mg base "is_triangle" 1 ["a", "b", "c"] spTri := by
  refine G.ok scTri (fun vs H Q E h => ?_) (fun _ _ _ _ _ _ us hl => match us, hl with | [_, _, _], _ => rfl) (fun f cdv A outer s H vs Q E hr h => ?_)
  · obtain ⟨a, b, c, rfl, _⟩ := h
    rfl
  obtain ⟨a, b, c, rfl, ha, hb, hc, q⟩ := h
  refine ⟨_, pss_one (ps_ret (pe_and (pe_cmpR op_gt (pv 0) pe_int (nomark _)) (pe_and (pe_cmpR op_gt (pv 1) pe_int (nomark _)) (pe_and (pe_cmpR op_le (pv 2) pe_int (nomark _))
    (pe_one (pe_cmpR op_eq (pe_op op_add (pe_op op_mul (pv 0) (pv 0)) (pe_op op_mul (pv 1) (pv 1))) (pe_op op_mul (pv 2) (pv 2)) (nomark _))))))), ?_⟩
  unfold triI at q
  refine ⟨_, rfl, _, _, rfl, rfl, _, rfl, ?_⟩
  cases c1 : decide (0 < a) with
  | false =>
    rw [c1] at q
    exact q
  | true =>
  rw [c1] at q
  refine ⟨_, rfl, _, _, rfl, rfl, _, rfl, ?_⟩
  cases c2 : decide (0 < b) with
  | false =>
    rw [c2] at q
    exact q
  | true =>
  rw [c2] at q
  refine ⟨_, rfl, _, _, rfl, rfl, _, rfl, ?_⟩
  cases c3 : decide (c ≤ 1000) with
  | false =>
    rw [c3] at q
    exact q
  | true =>
  rw [c3] at q
  refine ⟨_, rfl, _, rfl, _, _, rfl, rfl, .inl ⟨by omega, by omega⟩, _, rfl, _, rfl, _, _, rfl, rfl, .inl ⟨by omega, by omega⟩, _, _, rfl, rfl, _, rfl, _, rfl, _, _, rfl, rfl, .inl ⟨by omega, by omega⟩, rfl, ?_⟩
  have e : decide (V.int (a * a + b * b) = V.int (c * c)) = decide (a * a + b * b = c * c) := by
    by_cases h : a * a + b * b = c * c
    · rw [h]; simp
    · rw [decide_eq_false h, decide_eq_false]
      intro z
      injection z with z
      exact h z
  show Q (.bl (decide (V.int (a * a + b * b) = V.int (c * c)))) H
  rw [e]
  exact q
abbrev sBegin : Stmt := top 41
abbrev nBegin : List Str := ["works", "told", "a", "b", "c", "girth", "nearest", "shortest"]
theorem scBegin : FnScope nBegin WT (defScope sBegin) := ⟨rfl, rfl, rfl, by decide +kernel, rfl, by decide +kernel, by decide +kernel⟩
theorem k_begin (T : Txt K mg C aT) (G : Gf K mg "begin" sBegin) (kT : Kf P w K mg base "is_triangle" 1 ["a", "b", "c"] spTri) : Kf P w K mg base "begin" 2 WT (spBegin K C) := by
  refine G.ok scBegin (fun vs H Q E h => ?_) (fun _ _ _ _ _ _ us hl => match us, hl with | [_, _], _ => rfl) (fun f cdv A outer s H vs Q E hr h => ?_)
  · obtain ⟨a, b, m, L, G, ts, rfl, _⟩ := h
    rfl
  obtain ⟨w0, b0, m, L, G, ts, rfl, W, hs, ht, hb, q⟩ := h
  obtain ⟨a, b, c, g, n, sh, rfl⟩ := told6 ht
  refine ⟨_, pss_cons (ps_asg (pv 1) (pg_lst rfl (pgs_cons (pg_name (i := 2) scBegin.nd rfl (Or.inl rfl)) (pgs_cons (pg_name (i := 3) scBegin.nd rfl (Or.inl rfl)) (pgs_cons (pg_name (i := 4) scBegin.nd rfl (Or.inl rfl)) (pgs_cons (pg_name (i := 5) scBegin.nd rfl (Or.inl rfl))
      (pgs_cons (pg_name (i := 6) scBegin.nd rfl (Or.inl rfl)) (pgs_cons (pg_name (i := 7) scBegin.nd rfl (Or.inl rfl)) pgs_nil))))))))
    (pss_cons (ps_if (PW.pt (pw_or (pt_not (pt_val (pe_kf kT hr (by rfl) (pa_cons (pv 2) (pa_cons (pv 3) (pa_cons (pv 4) pa_nil)))))) (pw_or1 (pt_not (pt_chain op_le op_le pe_int (pv 5) pe_int))))) (pss_one (ps_ret (pe_lst (pa_cons (pe_gi (by rfl) T.nOR) pa_nil)))) pss_nil)
    (pss_cons (ps_if (PW.pt (pw_or (pt_cmpR op_gt (pv 6) pe_int (nomark _)) (pw_or1 (pt_not (pt_chain op_le op_le pe_int (pv 7) pe_int))))) (pss_one (ps_ret (pe_lst (pa_cons (pe_gi (by rfl) T.nOR) pa_nil)))) pss_nil)
    (pss_cons (ps_fld (pv 0) pe_bl rfl) (pss_cons (ps_fld (pv 0) (pv 2) rfl) (pss_cons (ps_fld (pv 0) (pv 4) rfl) (pss_cons (ps_fld (pv 0) (pv 5) rfl) (pss_cons (ps_fld (pv 0) (pv 6) rfl) (pss_cons (ps_fld (pv 0) (pv 7) rfl)
    (pss_cons (ps_fld (pv 0) (pe_lst pa_nil) rfl) (pss_cons (ps_fld (pv 0) (pe_lst pa_nil) rfl)
    (pss_one (ps_ret (pe_lst (pa_cons pe_int pa_nil)))))))))))))), ?_⟩
  change ∀ (H' : Hp) (p : Addr) (L' : Lay), WAt C G H' w0 (if 0 < a ∧ 0 < b ∧ c ≤ 1000 ∧ a * a + b * b = c * c ∧ 100 ≤ g ∧ g ≤ 1500 ∧ n ≤ 500 ∧ 1 ≤ sh ∧ sh ≤ 200 then (⟨true, a, c, g, n, sh, [], []⟩, [0]) else (m, [-22]) : M × List Int).1 L' → H p = none →
    H' p = some (.lst ((if 0 < a ∧ 0 < b ∧ c ≤ 1000 ∧ a * a + b * b = c * c ∧ 100 ≤ g ∧ g ≤ 1500 ∧ n ≤ 500 ∧ 1 ≤ sh ∧ sh ≤ 200 then (⟨true, a, c, g, n, sh, [], []⟩, [0]) else (m, [-22]) : M × List Int).2.map V.int)) → Q (.ref p) H' at q
  have ha := hb a (by simp)
  have hb' := hb b (by simp)
  have hc := hb c (by simp)
  have no : ¬ (0 < a ∧ 0 < b ∧ c ≤ 1000 ∧ a * a + b * b = c * c ∧ 100 ≤ g ∧ g ≤ 1500 ∧ n ≤ 500 ∧ 1 ≤ sh ∧ sh ≤ 200) → ∀ p, H p = none → Q (.ref p) (upd H p (.lst [.int (-22)])) := fun h p hp => by
    rw [if_neg h] at q
    exact q (upd H p (.lst [.int (-22)])) p L (W.mono (same_new hp)) hp upd_same
  refine ⟨_, rfl, b0, _, rfl, hs, rfl, _, _, rfl, _, _, rfl, _, _, rfl, _, _, rfl, _, _, rfl, _, _, rfl, rfl, ?_⟩
  refine ⟨_, rfl, _, rfl, _, rfl, a, b, c, rfl, ha, hb', hc, _, rfl, ?_⟩
  cases c1 : triI a b c with
  | false =>
    refine ⟨one1, fun p hp => no (fun h => ?_) p hp⟩
    unfold triI at c1
    simp [h.1, h.2.1, h.2.2.1, h.2.2.2.1] at c1
  | true =>
  have t1 : 0 < a ∧ 0 < b ∧ c ≤ 1000 ∧ a * a + b * b = c * c := by
    unfold triI at c1
    simpa using c1
  refine ⟨_, rfl, _, _, rfl, rfl, _, rfl, ?_⟩
  cases c2 : decide (100 ≤ g) with
  | false => exact ⟨_, rfl, one1, fun p hp => no (fun h => by have := of_decide_eq_false c2; omega) p hp⟩
  | true =>
  refine ⟨_, _, rfl, rfl, _, rfl, ?_⟩
  cases c3 : decide (g ≤ 1500) with
  | false => exact ⟨one1, fun p hp => no (fun h => by have := of_decide_eq_false c3; omega) p hp⟩
  | true =>
  refine ⟨_, rfl, _, _, rfl, rfl, _, rfl, ?_⟩
  cases c4 : decide (500 < n) with
  | true => exact ⟨one1, fun p hp => no (fun h => by have := of_decide_eq_true c4; omega) p hp⟩
  | false =>
  refine ⟨_, rfl, _, _, rfl, rfl, _, rfl, ?_⟩
  cases c5 : decide (1 ≤ sh) with
  | false => exact ⟨_, rfl, one1, fun p hp => no (fun h => by have := of_decide_eq_false c5; omega) p hp⟩
  | true =>
  refine ⟨_, _, rfl, rfl, _, rfl, ?_⟩
  cases c6 : decide (sh ≤ 200) with
  | false => exact ⟨one1, fun p hp => no (fun h => by have := of_decide_eq_false c6; omega) p hp⟩
  | true =>
  have yes : 0 < a ∧ 0 < b ∧ c ≤ 1000 ∧ a * a + b * b = c * c ∧ 100 ≤ g ∧ g ≤ 1500 ∧ n ≤ 500 ∧ 1 ≤ sh ∧ sh ≤ 200 :=
    ⟨t1.1, t1.2.1, t1.2.2.1, t1.2.2.2, of_decide_eq_true c2, of_decide_eq_true c3, by have := of_decide_eq_false c4; omega, of_decide_eq_true c5, of_decide_eq_true c6⟩
  have R := W.wr
  have gwn := W.gw
  have e8 : ∀ fs : List (Str × V), fs.length = 8 → fs.length < 1000 := fun fs h => by omega
  refine ⟨_, rfl, w0, _, L.dw, _, rfl, R.wo, T.clW, T.wb, e8 _ rfl, ?_⟩
  refine ⟨_, rfl, _, rfl, w0, _, L.dw, _, rfl, upd_same, T.clW, T.wa, e8 _ rfl, ?_⟩
  refine ⟨_, rfl, _, rfl, w0, _, L.dw, _, rfl, upd_same, T.clW, T.wc, e8 _ rfl, ?_⟩
  refine ⟨_, rfl, _, rfl, w0, _, L.dw, _, rfl, upd_same, T.clW, T.wg, e8 _ rfl, ?_⟩
  refine ⟨_, rfl, _, rfl, w0, _, L.dw, _, rfl, upd_same, T.clW, T.wn, e8 _ rfl, ?_⟩
  refine ⟨_, rfl, _, rfl, w0, _, L.dw, _, rfl, upd_same, T.clW, T.ws, e8 _ rfl, ?_⟩
  simp only [upd_upd]
  have sw : ∀ (H1 : Hp) (o : HO), Same G H1 → Same G (upd H1 w0 o) := fun H1 o s => same_put s gwn
  refine ⟨Nat.zero_le _, fun l1 hl1 => ?_⟩
  have n1 : l1 ≠ w0 := fun e => by rw [e, upd_same] at hl1; cases hl1
  have h1 : H l1 = none := by rw [upd_ne n1] at hl1; exact hl1
  have g1 : G l1 = none := W.same.free h1
  refine ⟨_, rfl, w0, _, L.dw, _, rfl, (by rw [upd_ne n1.symm]; exact upd_same), T.clW, T.wr, e8 _ rfl, ?_⟩
  refine ⟨Nat.zero_le _, fun l2 hl2 => ?_⟩
  have n2 : l2 ≠ w0 := fun e => by rw [e, upd_same] at hl2; cases hl2
  have n12 : l2 ≠ l1 := fun e => by rw [e, upd_ne n1, upd_same] at hl2; cases hl2
  have h2 : H l2 = none := by rw [upd_ne n2, upd_ne n12, upd_ne n2] at hl2; exact hl2
  have g2 : G l2 = none := W.same.free h2
  refine ⟨_, rfl, w0, _, L.dw, _, rfl, (by rw [upd_ne n2.symm]; exact upd_same), T.clW, T.wp, e8 _ rfl, ?_⟩
  refine ⟨one1, fun p hp => ?_⟩
  rw [if_pos yes] at q
  have np : p ≠ w0 := fun e => by rw [e, upd_same] at hp; cases hp
  have np1 : p ≠ l1 := fun e => by rw [e, upd_ne n1, upd_ne n12.symm, upd_ne n1, upd_same] at hp; cases hp
  have np2 : p ≠ l2 := fun e => by rw [e, upd_ne n2, upd_same] at hp; cases hp
  have h3 : H p = none := by rw [upd_ne np, upd_ne np2, upd_ne np, upd_ne np1, upd_ne np] at hp; exact hp
  have g3 : G p = none := W.same.free h3
  refine q _ p ⟨L.dw, l1, l2, [], []⟩ ⟨⟨?_, ?_, ?_, rfl, rfl, (fun _ _ _ a => by cases a), (fun _ _ _ a => by cases a)⟩, ?_, gwn, g1, g2, (fun _ h => by cases h), (fun _ h => by cases h), (fun _ h => by cases h), List.nodup_nil, List.nodup_nil, n12.symm, (fun _ h => by cases h)⟩ h3 upd_same
  · rw [upd_ne np.symm, upd_same]
    rfl
  · show upd _ p _ l1 = _
    rw [upd_ne np1.symm, upd_ne n1, upd_ne n12.symm, upd_ne n1, upd_same]
    rfl
  · show upd _ p _ l2 = _
    rw [upd_ne np2.symm, upd_ne n2, upd_same]
    rfl
  · exact same_put (sw _ _ (same_put (sw _ _ (same_put (sw _ _ W.same) g1)) g2)) g3
end
end Bp
namespace Bp
open PySem PySem.Spec PyProof.Rows L2
theorem muNo {C : Cs} {G H H1 : Hp} {Q : VK} {w p : Addr} {m : M} {L : Lay} {r : M × List Int} {z : Int} (q : ∀ (H' : Hp) (p : Addr) (L' : Lay), WAt C G H' w r.1 L' → H p = none → H' p = some (.lst (r.2.map V.int)) → Q (.ref p) H')
    (W : WAt C G H w m L) (s : Same H H1) (e : r = (m, [z])) (hp : H1 p = none) : Q (.ref p) (upd H1 p (.lst [.int z])) := by
  subst e
  exact q _ p L (W.mono (s.trans (same_new hp))) (s.free hp) upd_same
section
variable {P : Program} {w : World} {K : PySem.W.Frag} {mg : Str → Option Value} {base : Heap} {C : Cs} {aT : Addr}
abbrev sRoll : Stmt := top 42
abbrev nRoll : List Str := ["works", "told", "width", "length"]
theorem scRoll : FnScope nRoll WT (defScope sRoll) := ⟨rfl, rfl, rfl, by decide +kernel, rfl, by decide +kernel, by decide +kernel⟩
theorem k_roll (T : Txt K mg C aT) (G : Gf K mg "roll" sRoll) (kI : Ki P w K mg base C.R "Roll" 1 ["self", "width", "length"] (spRI C)) : Kf P w K mg base "roll" 3 WT (spMu K C 2 cRoll) := by
  refine G.ok scRoll (fun vs H Q E h => ?_) (fun _ _ _ _ _ _ us hl => match us, hl with | [_, _], _ => rfl) (fun f cdv A outer s H vs Q E hr h => ?_)
  · obtain ⟨a, b, m, L, G, ts, rfl, _⟩ := h
    rfl
  obtain ⟨w0, b0, m, L, G, ts, rfl, W, o, hs, ht, h0, q⟩ := h
  obtain ⟨wd, ln, rfl⟩ := told2 ht h0
  refine ⟨_, pss_cons (ps_asg (pv 1) (pg_lst rfl (pgs_cons (pg_name (i := 2) scRoll.nd rfl (Or.inl rfl)) (pgs_cons (pg_name (i := 3) scRoll.nd rfl (Or.inl rfl)) pgs_nil))))
    (pss_cons (ps_if (PW.pt (pw_or (pt_not (pt_chain op_le op_le pe_int (pv 2) pe_int)) (pw_or1 (pt_not (pt_chain op_le op_le pe_int (pv 3) pe_int))))) (pss_one (ps_ret (pe_lst (pa_cons (pe_gi (by rfl) T.nOR) pa_nil)))) pss_nil)
    (pss_cons (ps_if (pt_cmpR op_ge (pe_callB call_len_seq (by rfl) T.blen PySem.boot_len (pa_cons (pe_fld (pv 0) rfl) pa_nil)) (pe_gi (by rfl) T.nMR) (nomark _)) (pss_one (ps_ret (pe_lst (pa_cons (pe_gi (by rfl) T.nTM) pa_nil)))) pss_nil)
    (pss_cons (ps_expr (pe_bm PySem.F.plainAttrs_list PySem.F.slot_list_append PySem.F.type_list_append mt_append (pe_fld (pv 0) rfl) (pa_cons (pe_ki kI hr (by rfl) (pa_cons (pv 2) (pa_cons (pv 3) pa_nil))) pa_nil)))
    (pss_one (ps_ret (pe_lst (pa_cons (pe_op op_sub (pe_callB call_len_seq (by rfl) T.blen PySem.boot_len (pa_cons (pe_fld (pv 0) rfl) pa_nil)) pe_int) pa_nil))))))), ?_⟩
  have ec : cRoll m [(wd : Int), (ln : Int)] = (if ¬ (150 ≤ (wd : Int) ∧ (wd : Int) ≤ 2000 ∧ 1 ≤ (ln : Int) ∧ (ln : Int) ≤ 1000000) then (m, [-22]) else if 10 ≤ m.rolls.length then (m, [-28]) else ({ m with rolls := m.rolls ++ [⟨(wd : Int), (ln : Int), (ln : Int)⟩] }, [(m.rolls.length : Int)])) := rfl
  have no : ¬ (150 ≤ (wd : Int) ∧ (wd : Int) ≤ 2000 ∧ 1 ≤ (ln : Int) ∧ (ln : Int) ≤ 1000000) → ∀ p, H p = none → Q (.ref p) (upd H p (.lst [.int (-22)])) := fun h p hp => muNo q W (Same.refl _) (by rw [ec, if_pos h]) hp
  refine ⟨_, rfl, b0, _, rfl, hs, rfl, _, _, rfl, _, _, rfl, rfl, ?_⟩
  refine ⟨_, rfl, _, _, rfl, rfl, _, rfl, ?_⟩
  cases c2 : decide ((150 : Int) ≤ (wd : Int)) with
  | false => exact ⟨_, rfl, one1, fun p hp => no (fun h => by have := of_decide_eq_false c2; omega) p hp⟩
  | true =>
  refine ⟨_, _, rfl, rfl, _, rfl, ?_⟩
  cases c3 : decide ((wd : Int) ≤ 2000) with
  | false => exact ⟨one1, fun p hp => no (fun h => by have := of_decide_eq_false c3; omega) p hp⟩
  | true =>
  refine ⟨_, rfl, _, _, rfl, rfl, _, rfl, ?_⟩
  cases c5 : decide ((1 : Int) ≤ (ln : Int)) with
  | false => exact ⟨_, rfl, one1, fun p hp => no (fun h => by have := of_decide_eq_false c5; omega) p hp⟩
  | true =>
  refine ⟨_, _, rfl, rfl, _, rfl, ?_⟩
  cases c6 : decide ((ln : Int) ≤ 1000000) with
  | false => exact ⟨one1, fun p hp => no (fun h => by have := of_decide_eq_false c6; omega) p hp⟩
  | true =>
  have yes : 150 ≤ (wd : Int) ∧ (wd : Int) ≤ 2000 ∧ 1 ≤ (ln : Int) ∧ (ln : Int) ≤ 1000000 := ⟨of_decide_eq_true c2, of_decide_eq_true c3, of_decide_eq_true c5, of_decide_eq_true c6⟩
  have R := W.wr
  have orl := o.rl
  refine ⟨_, rfl, w0, _, _, _, _, rfl, R.wo, T.clW, T.wr, (by rfl : (wF m L.pr L.pp).lookup ("rolls" : Str) = some (.ref L.pr)), L.pr, _, rfl, .inl (SqL.of R.ro), _, _, rfl, rfl, _, rfl, ?_⟩
  rw [List.length_map, R.rl]
  refine ite2 (fun c7 => ?_) (fun c7 => ?_)
  · have c7 := of_decide_eq_true c7
    exact ⟨one1, fun p hp => muNo q W (Same.refl _) (by rw [ec, if_neg (fun h => h yes), if_pos (by omega)]) hp⟩
  have c7 : ¬ 10 ≤ m.rolls.length := fun h => c7 (decide_eq_true (by omega))
  rw [ec, if_neg (fun h => h yes), if_neg c7] at q
  refine ⟨_, rfl, w0, _, _, _, _, rfl, R.wo, T.clW, T.wr, (by rfl : (wF m L.pr L.pp).lookup ("rolls" : Str) = some (.ref L.pr)), .inl ⟨rfl, _, SqL.of R.ro⟩, _, rfl, _, rfl, fun x dx hx hdx ndx => ?_⟩
  refine ⟨x, dx, _, _, rfl, upd_same, fun H1 hx1 k1 => ⟨rfl, ?_⟩⟩
  have s1 : Same H H1 := Same.made hx hdx k1
  have W1 := W.mono s1
  refine ⟨L.pr, _, _, rfl, rfl, W1.wr.ro, big' (by rw [List.length_map, R.rl]; omega), ?_⟩
  have nx : ∀ q ∈ L.rs, q.1 ≠ x := fun q hq e => by
    obtain ⟨r, hr⟩ := R.rAll hq
    rw [e, hx] at hr
    cases hr
  have W2 := W1.addRoll hx1 (W.same.free hx) nx
  refine ⟨_, rfl, w0, _, _, _, _, rfl, W2.wr.wo, T.clW, T.wr, (by rfl : (wF m L.pr L.pp).lookup ("rolls" : Str) = some (.ref L.pr)), L.pr, _, rfl, .inl (SqL.of upd_same), _, _, rfl, rfl, one1, fun p hp => ?_⟩
  have e9 : (((L.rs.map fun q => V.ref q.1) ++ [V.ref x]).length : Int) - 1 = (m.rolls.length : Int) := by
    rw [List.length_append, List.length_map, R.rl]
    simp
  have np : H p = none := by
    have : p ≠ L.pr := fun e => by rw [e, upd_same] at hp; cases hp
    rw [upd_ne this] at hp
    exact s1.free hp
  refine q _ p _ (W2.mono (same_new hp)) np ?_
  rw [upd_same]
  show some (HO.lst [V.int ((((L.rs.map fun q => V.ref q.1) ++ [V.ref x]).length : Int) - 1)]) = _
  rw [e9]
  rfl
abbrev sPly : Stmt := top 43
abbrev nPly : List Str := ["works", "told", "source", "width", "fabric", "pieces", "needed"]
theorem scPly : FnScope nPly WT (defScope sPly) := ⟨rfl, rfl, rfl, by decide +kernel, rfl, by decide +kernel, by decide +kernel⟩
theorem k_ply (T : Txt K mg C aT) (G : Gf K mg "ply" sPly) (kH : Km P w K mg base C.W "has_roll" 1 ["self", "number"] (spHasR C)) (kW : Kf P w K mg base "is_width" 1 ["width"] spIsW) (kP : Km P w K mg base C.W "pieces_of" 3 ["self", "fabric_width"] (spPiecesOf C))
    (kB : Km P w K mg base C.W "taken_by" 2 ["self", "pieces", "width"] (spTakenBy K C)) (kS : Kf P w K mg base "starts_of" 1 ["pieces"] (spStarts K)) (kI : Ki P w K mg base C.P "Ply" 1 ["self", "source", "width", "starts"] (spPI C)) : Kf P w K mg base "ply" 4 WT (spMu K C 2 cPly) := by
  refine G.ok scPly (fun vs H Q E h => ?_) (fun _ _ _ _ _ _ us hl => match us, hl with | [_, _], _ => rfl) (fun f cdv A outer s H vs Q E hr h => ?_)
  · obtain ⟨a, b, m, L, G, ts, rfl, _⟩ := h
    rfl
  obtain ⟨w0, b0, m, L, G, ts, rfl, W, o, hs, ht, h0, q⟩ := h
  obtain ⟨k, t, rfl⟩ := told2 ht h0
  have hr1 : Room 1 (A.deeper (envOfC "ply" (defScope sPly) s.heap.objs.size f cdv)) := hr.mono (by decide)
  refine ⟨_, pss_cons (ps_asg (pv 1) (pg_lst rfl (pgs_cons (pg_name (i := 2) scPly.nd rfl (Or.inl rfl)) (pgs_cons (pg_name (i := 3) scPly.nd rfl (Or.inl rfl)) pgs_nil))))
    (pss_cons (ps_if (pt_not (pt_val (pe_km kH T.clW hr1 (pv 0) (pa_cons (pv 2) pa_nil)))) (pss_one (ps_ret (pe_lst (pa_cons (pe_gi (by rfl) T.nNS) pa_nil)))) pss_nil)
    (pss_cons (ps_if (pt_not (pt_val (pe_kf kW hr1 (by rfl) (pa_cons (pv 3) pa_nil)))) (pss_one (ps_ret (pe_lst (pa_cons (pe_gi (by rfl) T.nOR) pa_nil)))) pss_nil)
    (pss_cons (ps_if (pt_cmpR op_ge (pe_callB call_len_seq (by rfl) T.blen PySem.boot_len (pa_cons (pe_fld (pv 0) rfl) pa_nil)) (pe_gi (by rfl) T.nMP) (nomark _)) (pss_one (ps_ret (pe_lst (pa_cons (pe_gi (by rfl) T.nTM) pa_nil)))) pss_nil)
    (pss_cons (ps_set (i := 4) scPly.nd rfl (Or.inl rfl) (pe_ix ix_list (pe_fld (pv 0) rfl) (pv 2) (fun _ _ => rfl)))
    (pss_cons (ps_set (i := 5) scPly.nd rfl (Or.inl rfl) (pe_km kP T.clW hr (pv 0) (pa_cons (pe_fld (pv 4) rfl) pa_nil)))
    (pss_cons (ps_if (pt_not (pt_truth (pv 5) (by intro _; rfl))) (pss_one (ps_ret (pe_lst (pa_cons (pe_gi (by rfl) T.nCB) pa_nil)))) pss_nil)
    (pss_cons (ps_set (i := 6) scPly.nd rfl (Or.inl rfl) (pe_km kB T.clW (hr.mono (by decide)) (pv 0) (pa_cons (pv 5) (pa_cons (pv 3) pa_nil))))
    (pss_cons (ps_if (pt_cmpR op_gt (pv 6) (pe_fld (pv 4) rfl) (nomark _)) (pss_one (ps_ret (pe_lst (pa_cons (pe_gi (by rfl) T.nTL) pa_nil)))) pss_nil)
    (pss_cons (ps_fldaug (pv 4) (pv 6) in_sub)
    (pss_cons (ps_expr (pe_bm PySem.F.plainAttrs_list PySem.F.slot_list_append PySem.F.type_list_append mt_append (pe_fld (pv 0) rfl) (pa_cons (pe_ki kI (hr.mono (by decide)) (by rfl) (pa_cons (pv 2) (pa_cons (pv 3) (pa_cons (pe_kf kS hr1 (by rfl) (pa_cons (pv 5) pa_nil)) pa_nil)))) pa_nil)))
    (pss_one (ps_ret (pe_lst (pa_cons (pe_op op_sub (pe_callB call_len_seq (by rfl) T.blen PySem.boot_len (pa_cons (pe_fld (pv 0) rfl) pa_nil)) pe_int) (pa_cons (pe_callB call_len_seq (by rfl) T.blen PySem.boot_len (pa_cons (pv 5) pa_nil)) pa_nil))))))))))))))), ?_⟩
  have ec : cPly m [(k : Int), (t : Int)] = (if hasR m (k : Int) = false then (m, [-2]) else if isW (t : Int) = false then (m, [-22]) else if 12 ≤ m.plies.length then (m, [-28]) else if piecesOf m (rAt m.rolls k).w = [] then (m, [-33]) else
      if (rAt m.rolls k).left < ((piecesOf m (rAt m.rolls k).w).length : Int) * takenI (t : Int) m.a m.c then (m, [-12]) else
      ({ m with rolls := m.rolls.modify k (fun q => { q with left := q.left - ((piecesOf m (rAt m.rolls k).w).length : Int) * takenI (t : Int) m.a m.c }), plies := m.plies ++ [⟨(k : Int), (t : Int), startsFrom 0 (piecesOf m (rAt m.rolls k).w), none⟩] },
        [(m.plies.length : Int), ((piecesOf m (rAt m.rolls k).w).length : Int)])) := rfl
  have R := W.wr
  refine ⟨_, rfl, b0, _, rfl, hs, rfl, _, _, rfl, _, _, rfl, rfl, ?_⟩
  refine ⟨_, rfl, w0, _, _, rfl, R.wo, (by rfl), _, rfl, w0, _, m, L, rfl, R, _, rfl, ?_⟩
  cases c : hasR m (k : Int) with
  | false => exact ⟨one1, fun p hp => muNo q W (Same.refl _) (by rw [ec, if_pos c]) hp⟩
  | true =>
  rw [if_neg (by rw [c]; simp)] at ec
  have hk := hasR_true c
  refine ⟨_, rfl, _, rfl, _, rfl, ?_⟩
  cases c2 : isW (t : Int) with
  | false => exact ⟨one1, fun p hp => muNo q W (Same.refl _) (by rw [ec, if_pos c2]) hp⟩
  | true =>
  rw [if_neg (by rw [c2]; simp)] at ec
  obtain ⟨w1, w2⟩ := isW_true c2
  refine ⟨_, rfl, w0, _, _, _, _, rfl, R.wo, T.clW, T.wp, (by rfl : (wF m L.pr L.pp).lookup ("plies" : Str) = some (.ref L.pp)), L.pp, _, rfl, .inl (SqL.of R.po), _, _, rfl, rfl, _, rfl, ?_⟩
  rw [List.length_map, R.pl]
  refine ite2 (fun c3 => ?_) (fun c3 => ?_)
  · have c3 := of_decide_eq_true c3
    exact ⟨one1, fun p hp => muNo q W (Same.refl _) (by rw [ec, if_pos (by omega)]) hp⟩
  have c3 : ¬ 12 ≤ m.plies.length := fun h => c3 (decide_eq_true (by omega))
  rw [if_neg c3] at ec
  obtain ⟨q1, h12, hq1, hr1', h13⟩ := R.roll hk
  have orr := o.roll hk
  refine ⟨_, rfl, w0, _, _, _, _, rfl, R.wo, T.clW, T.wr, (by rfl : (wF m L.pr L.pp).lookup ("rolls" : Str) = some (.ref L.pr)), _, rfl, L.pr, _, _, _, rfl, rfl, SqL.of R.ro, atI_nat h12, ?_⟩
  refine ⟨_, rfl, w0, _, _, rfl, R.wo, (by rfl), _, rfl, q1.1, _, _, _, _, rfl, h13, T.clR, T.rw, (by rfl : (rF (rAt m.rolls k)).lookup ("width" : Str) = some (.int (rAt m.rolls k).w)), w0, _, m, L, rfl, R, o, by omega, by omega, fun pa H1 hpa s1 h1 => ?_⟩
  have W1 := W.mono s1
  have R1 := W1.wr
  refine ⟨_, rfl, _, .inl ⟨_, SqL.of h1, rfl⟩, ?_⟩
  rw [empty_map]
  by_cases c4 : piecesOf m (rAt m.rolls k).w = []
  · rw [if_pos c4] at ec
    rw [c4]
    exact ⟨one1, fun p hp => muNo q W s1 ec hp⟩
  rw [if_neg c4] at ec
  have ee : (piecesOf m (rAt m.rolls k).w).isEmpty = false := by simpa using c4
  rw [ee]
  have pl := piecesOf_len o orr.1 orr.2.1
  generalize hps : piecesOf m (rAt m.rolls k).w = ps at *
  refine ⟨_, rfl, w0, _, _, rfl, R1.wo, (by rfl), _, rfl, _, rfl, w0, pa, _, _, m, L, rfl, R1, o, SqL.of h1, by omega, by omega, by omega, ?_⟩
  generalize hnd : (ps.length : Int) * takenI (t : Int) m.a m.c = nd at *
  refine ⟨_, rfl, _, rfl, q1.1, _, _, _, _, rfl, s1 _ _ h13, T.clR, T.rf, (by rfl : (rF (rAt m.rolls k)).lookup ("left" : Str) = some (.int (rAt m.rolls k).left)), _, _, rfl, rfl, _, rfl, ?_⟩
  refine ite2 (fun c5 => ?_) (fun c5 => ?_)
  · rw [if_pos (of_decide_eq_true c5)] at ec
    exact ⟨one1, fun p hp => muNo q W s1 ec hp⟩
  rw [if_neg (fun h => c5 (decide_eq_true h))] at ec
  rw [ec] at q
  -- fabric.left -= needed
  refine ⟨_, rfl, q1.1, _, _, _, _, rfl, s1 _ _ h13, T.clR, T.rf, (by rfl : (rF (rAt m.rolls k)).lookup ("left" : Str) = some (.int (rAt m.rolls k).left)), _, rfl, _, _, rfl, rfl, ?_⟩
  refine ⟨_, _, s1 _ _ h13, (by show 3 < 1000; decide), ?_⟩
  have nq1 : pa ≠ q1.1 := (ne_of_none h13 hpa).symm
  have W2 : WAt C G (upd H1 q1.1 (.ins C.R q1.2 (putF "left" (.int ((rAt m.rolls k).left - nd)) (rF (rAt m.rolls k))))) w0 { m with rolls := m.rolls.modify k fun q => { q with left := q.left - nd } } L := W1.setRoll (f := fun q => { q with left := q.left - nd }) hq1 hr1'
  have fr2 : ∀ p, upd H1 q1.1 (.ins C.R q1.2 (putF "left" (.int ((rAt m.rolls k).left - nd)) (rF (rAt m.rolls k)))) p = none → H p = none := fun p hp => by
    have : p ≠ q1.1 := fun e => by rw [e, upd_same] at hp; cases hp
    rw [upd_ne this] at hp
    exact s1.free hp
  have h12' : upd H1 q1.1 (.ins C.R q1.2 (putF "left" (.int ((rAt m.rolls k).left - nd)) (rF (rAt m.rolls k)))) pa = some (.lst (ps.map V.int)) := by rw [upd_ne nq1]; exact h1
  show tSeq _ _ _ _ (upd H1 q1.1 (.ins C.R q1.2 (putF "left" (.int ((rAt m.rolls k).left - nd)) (rF (rAt m.rolls k)))))
  generalize upd H1 q1.1 (.ins C.R q1.2 (putF "left" (.int ((rAt m.rolls k).left - nd)) (rF (rAt m.rolls k)))) = H2 at W2 fr2 h12' ⊢
  have R2 := W2.wr
  refine ⟨_, rfl, w0, _, _, _, _, rfl, R2.wo, T.clW, T.wp, (by rfl : (wF m L.pr L.pp).lookup ("plies" : Str) = some (.ref L.pp)), .inl ⟨rfl, _, SqL.of R2.po⟩, _, rfl, _, rfl, _, rfl, pa, ps, rfl, SqL.of h12', by omega, fun ls H3 hls s3 h3 => ?_⟩
  intro x dx hx hdx ndx
  refine ⟨x, dx, _, _, ls, rfl, upd_same, fun H4 hx4 k4 => ⟨rfl, ?_⟩⟩
  have s4 : Same H3 H4 := Same.made hx hdx k4
  have s34 := s3.trans s4
  have W4 := W2.mono s34
  refine ⟨L.pp, _, _, rfl, rfl, W4.wr.po, big' (by rw [List.length_map, R.pl]; omega), ?_⟩
  have nx : ∀ q ∈ L.ps, q.1 ≠ x := fun q hq e => by
    obtain ⟨r, hr, _⟩ := (W2.mono s3).wr.pAll hq
    rw [e, hx] at hr
    cases hr
  have n1 : ls ≠ L.pr := (ne_of_none R2.ro hls).symm
  have n2 : ls ≠ L.pp := (ne_of_none R2.po hls).symm
  have W5 := W4.addPly (p := ⟨(k : Int), (t : Int), startsFrom 0 ps, none⟩) (hx4 _) (s4 _ _ h3) ((W2.mono s3).same.free hx) (W2.same.free hls) nx n1 n2
  have npp : pa ≠ L.pp := (ne_of_none R.po hpa).symm
  refine ⟨_, rfl, w0, _, _, _, _, rfl, W5.wr.wo, T.clW, T.wp, (by rfl : (wF m L.pr L.pp).lookup ("plies" : Str) = some (.ref L.pp)), L.pp, _, rfl, .inl (SqL.of upd_same), _, _, rfl, rfl, _, rfl, pa, _, rfl, .inl (SqL.of (by rw [upd_ne npp]; exact s34 _ _ h12')), two2, fun p hp => ?_⟩
  have e9 : (((L.ps.map fun q => V.ref q.1) ++ [V.ref x]).length : Int) - 1 = (m.plies.length : Int) := by
    rw [List.length_append, List.length_map, R.pl]
    simp
  have np : H p = none := by
    have : p ≠ L.pp := fun e => by rw [e, upd_same] at hp; cases hp
    rw [upd_ne this] at hp
    exact fr2 p (s34.free hp)
  refine q _ p _ (W5.mono (same_new hp)) np ?_
  rw [upd_same]
  show some (HO.lst [V.int ((((L.ps.map fun q => V.ref q.1) ++ [V.ref x]).length : Int) - 1), V.int ((ps.map V.int).length : Int)]) = _
  rw [e9, List.length_map]
  rfl
end
end Bp
namespace Bp
open PySem PySem.Spec PyProof.Rows L2
section
variable {P : Program} {w : World} {K : PySem.W.Frag} {mg : Str → Option Value} {base : Heap} {C : Cs} {aT : Addr}
abbrev sLay : Stmt := top 45
abbrev nLay : List Str := ["works", "told", "number", "turn"]
theorem scLay : FnScope nLay WT (defScope sLay) := ⟨rfl, rfl, rfl, by decide +kernel, rfl, by decide +kernel, by decide +kernel⟩
theorem k_lay (T : Txt K mg C aT) (G : Gf K mg "lay" sLay) (kH : Km P w K mg base C.W "has_ply" 1 ["self", "number"] (spHasP C)) (kL : Km P w K mg base C.P "is_laid" 1 ["self"] (spLaid C)) (kT : Km P w K mg base C.W "nearness_to_others" 4 ["self", "number", "turn"] (spToOthers C))
    (kC : Km P w K mg base C.W "laid_count" 3 ["self"] (spLaidCount C)) : Kf P w K mg base "lay" 5 WT (spMu K C 2 cLay) := by
  refine G.ok scLay (fun vs H Q E h => ?_) (fun _ _ _ _ _ _ us hl => match us, hl with | [_, _], _ => rfl) (fun f cdv A outer s H vs Q E hr h => ?_)
  · obtain ⟨a, b, m, L, G, ts, rfl, _⟩ := h
    rfl
  obtain ⟨w0, b0, m, L, G, ts, rfl, W, o, hs, ht, h0, q⟩ := h
  obtain ⟨k, t, rfl⟩ := told2 ht h0
  have og := o.g
  have hr1 : Room 1 (A.deeper (envOfC "lay" (defScope sLay) s.heap.objs.size f cdv)) := hr.mono (by decide)
  refine ⟨_, pss_cons (ps_asg (pv 1) (pg_lst rfl (pgs_cons (pg_name (i := 2) scLay.nd rfl (Or.inl rfl)) (pgs_cons (pg_name (i := 3) scLay.nd rfl (Or.inl rfl)) pgs_nil))))
    (pss_cons (ps_if (pt_not (pt_val (pe_km kH T.clW hr1 (pv 0) (pa_cons (pv 2) pa_nil)))) (pss_one (ps_ret (pe_lst (pa_cons (pe_gi (by rfl) T.nNS) pa_nil)))) pss_nil)
    (pss_cons (ps_if (pt_cmpR op_ge (pv 3) (pe_fld (pv 0) rfl) (nomark _)) (pss_one (ps_ret (pe_lst (pa_cons (pe_gi (by rfl) T.nOR) pa_nil)))) pss_nil)
    (pss_cons (ps_if (pt_val (pe_km0 kL T.clP hr1 (pe_ix ix_list (pe_fld (pv 0) rfl) (pv 2) (fun _ _ => rfl)))) (pss_one (ps_ret (pe_lst (pa_cons (pe_gi (by rfl) T.nAL) pa_nil)))) pss_nil)
    (pss_cons (ps_if (pt_cmpR op_lt (pe_km kT T.clW hr (pv 0) (pa_cons (pv 2) (pa_cons (pv 3) pa_nil))) (pe_fld (pv 0) rfl) (nomark _)) (pss_one (ps_ret (pe_lst (pa_cons (pe_gi (by rfl) T.nTN) pa_nil)))) pss_nil)
    (pss_cons (ps_fld (pe_ix ix_list (pe_fld (pv 0) rfl) (pv 2) (fun _ _ => rfl)) (pv 3) rfl)
    (pss_one (ps_ret (pe_lst (pa_cons (pe_km0 kC T.clW (hr.mono (by decide)) (pv 0)) pa_nil))))))))), ?_⟩
  have ec : cLay m [(k : Int), (t : Int)] = (if hasP m (k : Int) = false then (m, [-2]) else if m.g ≤ (t : Int) then (m, [-22]) else if (Bp.ply m k).laid = true then (m, [-17]) else if toOthers m k (t : Int) < m.n then (m, [-40]) else
    (setTurn m k (some (t : Int)), [((laidN (setTurn m k (some (t : Int))).plies).length : Int)])) := rfl
  have R := W.wr
  refine ⟨_, rfl, b0, _, rfl, hs, rfl, _, _, rfl, _, _, rfl, rfl, ?_⟩
  refine ⟨_, rfl, w0, _, _, rfl, R.wo, (by rfl), _, rfl, w0, _, m, L, rfl, R, _, rfl, ?_⟩
  cases c : hasP m (k : Int) with
  | false => exact ⟨one1, fun p hp => muNo q W (Same.refl _) (by rw [ec, if_pos c]) hp⟩
  | true =>
  rw [if_neg (by rw [c]; simp)] at ec
  have hk := hasP_true c
  obtain ⟨q1, h12, hq1, hp1, h13, h14⟩ := R.ply hk
  refine ⟨_, rfl, _, rfl, w0, _, _, _, _, rfl, R.wo, T.clW, T.wg, (by rfl : (wF m L.pr L.pp).lookup ("girth" : Str) = some (.int m.g)), _, _, rfl, rfl, _, rfl, ?_⟩
  refine ite2 (fun c2 => ?_) (fun c2 => ?_)
  · exact ⟨one1, fun p hp => muNo q W (Same.refl _) (by rw [ec, if_pos (of_decide_eq_true c2)]) hp⟩
  have c2 : ¬ m.g ≤ (t : Int) := fun h => c2 (decide_eq_true h)
  rw [if_neg c2] at ec
  refine ⟨_, rfl, w0, _, _, _, _, rfl, R.wo, T.clW, T.wp, (by rfl : (wF m L.pr L.pp).lookup ("plies" : Str) = some (.ref L.pp)), _, rfl, L.pp, _, _, _, rfl, rfl, SqL.of R.po, atI_nat h12, q1.1, _, _, rfl, h13, (by rfl), q1.1, _, _, _, rfl, h13, _, rfl, ?_⟩
  refine ite2 (fun c3 => ?_) (fun c3 => ?_)
  · exact ⟨one1, fun p hp => muNo q W (Same.refl _) (by rw [ec, if_pos c3]) hp⟩
  rw [if_neg c3] at ec
  refine ⟨_, rfl, w0, _, _, rfl, R.wo, (by rfl), _, rfl, _, rfl, w0, k, _, m, L, rfl, R, o, hk, fun H1 s1 => ?_⟩
  have W1 := W.mono s1
  have R1 := W1.wr
  refine ⟨_, rfl, w0, _, _, _, _, rfl, R1.wo, T.clW, T.wn, (by rfl : (wF m L.pr L.pp).lookup ("nearest" : Str) = some (.int m.n)), _, _, rfl, rfl, _, rfl, ?_⟩
  refine ite2 (fun c4 => ?_) (fun c4 => ?_)
  · exact ⟨one1, fun p hp => muNo q W s1 (by rw [ec, if_pos (of_decide_eq_true c4)]) hp⟩
  rw [if_neg (fun h => c4 (decide_eq_true h))] at ec
  rw [ec] at q
  refine ⟨_, rfl, _, rfl, w0, _, _, _, _, rfl, R1.wo, T.clW, T.wp, (by rfl : (wF m L.pr L.pp).lookup ("plies" : Str) = some (.ref L.pp)), _, rfl, L.pp, _, _, _, rfl, rfl, SqL.of R1.po, atI_nat h12, q1.1, _, _, _, rfl, s1 _ _ h13, T.clP, T.pu, (by show 4 < 1000; decide), ?_⟩
  have W2 : WAt C G (upd H1 q1.1 (.ins C.P q1.2.1 (putF "turn" (.int (t : Int)) (pF (Bp.ply m k) q1.2.2)))) w0 (setTurn m k (some (t : Int))) L := W1.setTurn (some (t : Int)) hq1 hp1
  have fr2 : ∀ p, upd H1 q1.1 (.ins C.P q1.2.1 (putF "turn" (.int (t : Int)) (pF (Bp.ply m k) q1.2.2))) p = none → H p = none := fun p hp => by
    have : p ≠ q1.1 := fun e => by rw [e, upd_same] at hp; cases hp
    rw [upd_ne this] at hp
    exact s1.free hp
  generalize upd H1 q1.1 (.ins C.P q1.2.1 (putF "turn" (.int (t : Int)) (pF (Bp.ply m k) q1.2.2))) = H2 at W2 fr2 ⊢
  have o2 : Ok (setTurn m k (some (t : Int))) := ok_setTurn o k fun z hz => by
    have := Option.some.inj hz
    omega
  refine ⟨_, rfl, w0, _, _, rfl, W2.wr.wo, (by rfl), w0, _, L, rfl, W2.wr, o2, fun H3 s3 => ⟨one1, fun p hp => ?_⟩⟩
  exact q _ p L (W2.mono (s3.trans (same_new hp))) (fr2 p (s3.free hp)) upd_same
abbrev sLift : Stmt := top 46
abbrev nLift : List Str := ["works", "told", "number", "lifted", "turn"]
theorem scLift : FnScope nLift WT (defScope sLift) := ⟨rfl, rfl, rfl, by decide +kernel, rfl, by decide +kernel, by decide +kernel⟩
theorem k_lift (T : Txt K mg C aT) (G : Gf K mg "lift" sLift) (kH : Km P w K mg base C.W "has_ply" 1 ["self", "number"] (spHasP C)) (kL : Km P w K mg base C.P "is_laid" 1 ["self"] (spLaid C)) : Kf P w K mg base "lift" 2 WT (spMu K C 1 cLift) := by
  refine G.ok scLift (fun vs H Q E h => ?_) (fun _ _ _ _ _ _ us hl => match us, hl with | [_, _], _ => rfl) (fun f cdv A outer s H vs Q E hr h => ?_)
  · obtain ⟨a, b, m, L, G, ts, rfl, _⟩ := h
    rfl
  obtain ⟨w0, b0, m, L, G, ts, rfl, W, o, hs, ht, h0, q⟩ := h
  obtain ⟨k, rfl⟩ := told1 ht h0
  refine ⟨_, pss_cons (ps_set (i := 2) scLift.nd rfl (Or.inl rfl) (pe_ix ix_list (pv 1) pe_int (fun _ _ => rfl)))
    (pss_cons (ps_if (pt_not (pt_val (pe_km kH T.clW hr (pv 0) (pa_cons (pv 2) pa_nil)))) (pss_one (ps_ret (pe_lst (pa_cons (pe_gi (by rfl) T.nNS) pa_nil)))) pss_nil)
    (pss_cons (ps_set (i := 3) scLift.nd rfl (Or.inl rfl) (pe_ix ix_list (pe_fld (pv 0) rfl) (pv 2) (fun _ _ => rfl)))
    (pss_cons (ps_if (pt_not (pt_val (pe_km0 kL T.clP hr (pv 3)))) (pss_one (ps_ret (pe_lst (pa_cons (pe_gi (by rfl) T.nNL) pa_nil)))) pss_nil)
    (pss_cons (ps_set (i := 4) scLift.nd rfl (Or.inl rfl) (pe_fld (pv 3) rfl))
    (pss_cons (ps_fld (pv 3) pe_non rfl)
    (pss_one (ps_ret (pe_lst (pa_cons (pv 4) pa_nil))))))))), ?_⟩
  have ec : cLift m [(k : Int)] = (if hasP m (k : Int) = false then (m, [-2]) else match (Bp.ply m k).turn with | none => (m, [-6]) | some t => (setTurn m k none, [t])) := rfl
  have R := W.wr
  refine ⟨_, rfl, b0, _, _, _, rfl, rfl, hs, (by rfl : atI [V.int (k : Int)] 0 = some _), ?_⟩
  refine ⟨_, rfl, w0, _, _, rfl, R.wo, (by rfl), _, rfl, w0, _, m, L, rfl, R, _, rfl, ?_⟩
  cases c : hasP m (k : Int) with
  | false => exact ⟨one1, fun p hp => muNo q W (Same.refl _) (by rw [ec, if_pos c]) hp⟩
  | true =>
  rw [if_neg (by rw [c]; simp)] at ec
  have hk := hasP_true c
  obtain ⟨q1, h12, hq1, hp1, h13, h14⟩ := R.ply hk
  refine ⟨_, rfl, w0, _, _, _, _, rfl, R.wo, T.clW, T.wp, (by rfl : (wF m L.pr L.pp).lookup ("plies" : Str) = some (.ref L.pp)), _, rfl, L.pp, _, _, _, rfl, rfl, SqL.of R.po, atI_nat h12, ?_⟩
  refine ⟨_, rfl, q1.1, _, _, rfl, h13, (by rfl), q1.1, _, _, _, rfl, h13, _, rfl, ?_⟩
  unfold Pl.laid
  cases ht : (Bp.ply m k).turn with
  | none =>
    rw [ht] at ec
    exact ⟨one1, fun p hp => muNo q W (Same.refl _) ec hp⟩
  | some t =>
  rw [ht] at ec
  rw [ec] at q
  refine ⟨_, rfl, q1.1, _, _, _, _, rfl, h13, T.clP, T.pu, (by rfl : (pF (Bp.ply m k) q1.2.2).lookup ("turn" : Str) = some (tV (Bp.ply m k).turn)), ?_⟩
  refine ⟨_, rfl, q1.1, _, _, _, rfl, h13, T.clP, T.pu, (by show 4 < 1000; decide), ?_⟩
  rw [ht]
  have W2 : WAt C G (upd H q1.1 (.ins C.P q1.2.1 (putF "turn" .non (pF (Bp.ply m k) q1.2.2)))) w0 (setTurn m k none) L := W.setTurn none hq1 hp1
  have fr2 : ∀ p, upd H q1.1 (.ins C.P q1.2.1 (putF "turn" .non (pF (Bp.ply m k) q1.2.2))) p = none → H p = none := fun p hp => by
    have : p ≠ q1.1 := fun e => by rw [e, upd_same] at hp; cases hp
    rw [upd_ne this] at hp
    exact hp
  refine ⟨_, rfl, one1, fun p hp => q _ p L (W2.mono (same_new hp)) (fr2 p hp) upd_same⟩
/-- lift_again: the plies of a list are lifted -/
def spLiftA (K : PySem.W.Frag) (C : Cs) : Sp := fun vs H Q _ => ∃ (w b : Addr) (m : M) (L : Lay) (G : Hp) (ts : List Int), vs = [.ref w, .ref b] ∧ WAt C G H w m L ∧ SqL K H b (ts.map V.int) ∧ (∀ z ∈ ts, 0 ≤ z ∧ z < (m.plies.length : Int)) ∧
  ∀ H' : Hp, WAt C G H' w (liftAll m ts) L → (∀ p, H' p = none → H p = none) → Q .non H'
theorem sq_keep {H : Hp} {b e : Addr} {xs : List V} {A dx : Addr} {fs : List (Str × V)} {o : HO} (h : SqL K H b xs) (he : H e = some (.ins A dx fs)) : SqL K (upd H e o) b xs := by
  rcases h with (h | ⟨o', h⟩) | h
  · exact .inl (.inl (by rw [upd_ne (ne_of h he (fun z => nomatch z))]; exact h))
  · exact .inl (.inr ⟨o', by rw [upd_ne (ne_of h he (fun z => nomatch z))]; exact h⟩)
  · exact .inr h
theorem liftAll_len (ts : List Int) : ∀ m : M, (liftAll m ts).plies.length = m.plies.length := by
  induction ts with
  | nil => intro m; rfl
  | cons k r ih =>
    intro m
    show (liftAll (setTurn m k.toNat none) r).plies.length = _
    rw [ih, setTurn_len]
theorem liftAll_more (m : M) (l : List Int) (k : Int) : liftAll m (l ++ [k]) = setTurn (liftAll m l) k.toNat none := by
  unfold liftAll
  rw [List.foldl_append]
  rfl
abbrev sLA : Stmt := top 48
abbrev nLA : List Str := ["works", "numbers", "number"]
theorem scLA : FnScope nLA ["works", "numbers"] (defScope sLA) := ⟨rfl, rfl, rfl, by decide +kernel, rfl, by decide +kernel, by decide +kernel⟩
theorem k_la (T : Txt K mg C aT) (G : Gf K mg "lift_again" sLA) : Kf P w K mg base "lift_again" 1 ["works", "numbers"] (spLiftA K C) := by
  refine G.ok scLA (fun vs H Q E h => ?_) (fun _ _ _ _ _ _ us hl => match us, hl with | [_, _], _ => rfl) (fun f cdv A outer s H vs Q E hr h => ?_)
  · obtain ⟨a, b, m, L, G, ts, rfl, _⟩ := h
    rfl
  obtain ⟨w0, b0, m, L, G, ts, rfl, W, hs, h0, q⟩ := h
  refine ⟨_, pss_one (ps_for PassesOwn.never rfl (pi_list (pv 1)) (pg_name (i := 2) scLA.nd rfl (Or.inl rfl)) (pss_one (ps_fld (pe_ix ix_list (pe_fld (pv 0) rfl) (pv 2) (fun _ _ => rfl)) pe_non rfl))), ?_⟩
  refine ⟨_, rfl, b0, rfl, ⟨_, hs⟩, for_list (K := K) (a := b0) (xs := ts.map V.int) (fun i σ H' => ∃ v2 : Option V, σ = [some (.ref w0), some (.ref b0), v2] ∧ WAt C G H' w0 (liftAll m (ts.take i)) L ∧ SqL K H' b0 (ts.map V.int) ∧ ∀ p, H' p = none → H p = none)
    ⟨none, rfl, W, hs, fun _ h => h⟩ (fun i σ H' _ ⟨_, _, _, r, _⟩ => r) ?_ ?_⟩
  · rintro i x σ H' hx ⟨v2, rfl, W', hs', fr⟩
    obtain ⟨z, hz, rfl⟩ := map_get hx
    obtain ⟨z0, z1⟩ := h0 z (List.mem_of_getElem? hz)
    obtain ⟨k, rfl⟩ : ∃ k : Nat, z = (k : Int) := ⟨z.toNat, by omega⟩
    have hk : k < (liftAll m (ts.take i)).plies.length := by rw [liftAll_len]; omega
    have R := W'.wr
    obtain ⟨q1, h12, hq1, hp1, h13, h14⟩ := R.ply hk
    refine ⟨_, rfl, w0, _, _, _, _, rfl, R.wo, T.clW, T.wp, (by rfl : (wF (liftAll m (ts.take i)) L.pr L.pp).lookup ("plies" : Str) = some (.ref L.pp)), _, rfl, L.pp, _, _, _, rfl, rfl, SqL.of R.po, atI_nat h12, q1.1, _, _, _, rfl, h13, T.clP, T.pu, (by show 4 < 1000; decide), ?_⟩
    have W2 : WAt C G (upd H' q1.1 (.ins C.P q1.2.1 (putF "turn" .non (pF (Bp.ply (liftAll m (ts.take i)) k) q1.2.2)))) w0 (setTurn (liftAll m (ts.take i)) k none) L := W'.setTurn none hq1 hp1
    refine ⟨_, rfl, ?_, sq_keep hs' h13, fun p hp => ?_⟩
    · rw [take_more hz, liftAll_more]
      exact W2
    · have : p ≠ q1.1 := fun e => by rw [e, upd_same] at hp; cases hp
      rw [upd_ne this] at hp
      exact fr p hp
  · rintro σ H' ⟨v2, rfl, W', hs', fr⟩
    rw [List.length_map, List.take_length] at W'
    exact q H' W' fr
end
end Bp
namespace Bp
open PySem PySem.Spec PyProof.Rows L2
/-- how many different ones: as many as there are just where none is told twice -/
theorem met_len (ns : List Int) : ∀ i, i ≤ ns.length → (firstMet (fun i => ns.getD i 0) i).length = i → (ns.take i).Nodup ∧ firstMet (fun i => ns.getD i 0) i = ns.take i
  | 0, _, _ => ⟨by simp, by simp [firstMet_zero]⟩
  | i + 1, h, hl => by
    have hlt : i < ns.length := h
    have hle := firstMet_length_le (fun i => ns.getD i 0) i
    have eg : ns.getD i 0 = ns[i] := by
      rw [List.getD_eq_getElem?_getD, List.getElem?_eq_getElem hlt]
      rfl
    have et : ns.take (i + 1) = ns.take i ++ [ns[i]] := take_more (List.getElem?_eq_getElem hlt)
    rw [firstMet_succ] at hl ⊢
    have hl : (if ((firstMet (fun i => ns.getD i 0) i).any (· == ns.getD i 0)) = true then firstMet (fun i => ns.getD i 0) i else firstMet (fun i => ns.getD i 0) i ++ [ns.getD i 0]).length = i + 1 := hl
    show _ ∧ (if ((firstMet (fun i => ns.getD i 0) i).any (· == ns.getD i 0)) = true then firstMet (fun i => ns.getD i 0) i else firstMet (fun i => ns.getD i 0) i ++ [ns.getD i 0]) = _
    by_cases c : ((firstMet (fun i => ns.getD i 0) i).any (· == ns.getD i 0)) = true
    · rw [if_pos c] at hl
      omega
    · rw [if_neg c] at hl ⊢
      rw [List.length_append] at hl
      have hl : (firstMet (fun i => ns.getD i 0) i).length + 1 = i + 1 := hl
      obtain ⟨n1, e1⟩ := met_len ns i (Nat.le_of_lt hlt) (by omega)
      rw [e1, eg] at c ⊢
      refine ⟨?_, by rw [et]⟩
      rw [et]
      refine nd_snoc n1 fun hm => c ?_
      rw [List.any_eq_true]
      exact ⟨_, hm, by simp⟩
theorem met_lt (ns : List Int) : (firstMet (fun i => ns.getD i 0) ns.length).length < ns.length ↔ ¬ ns.Nodup := by
  have hle := firstMet_length_le (fun i => ns.getD i 0) ns.length
  constructor
  · intro h hn
    have e := RZ.firstMet_nodup hn ns.length (Nat.le_refl _)
    rw [e, List.take_length] at h
    omega
  · intro hn
    rcases Nat.lt_or_eq_of_le hle with h | h
    · exact h
    · have := (met_len ns ns.length (Nat.le_refl _) h).1
      rw [List.take_length] at this
      exact absurd this hn
def spRow (K : PySem.W.Frag) (C : Cs) : Sp := fun vs H Q _ => ∃ (w b : Addr) (m : M) (L : Lay) (G : Hp) (ts : List Int), vs = [.ref w, .ref b] ∧ WAt C G H w m L ∧ Ok m ∧ SqL K H b (ts.map V.int) ∧ ts.length ≤ 16 ∧ (∀ z ∈ ts, 0 ≤ z) ∧
  ∀ (H' : Hp) (p : Addr) (L' : Lay), WAt C G H' w (cRow m ts).1 L' → H p = none → H' p = some (.lst ((cRow m ts).2.map V.int)) → Q (.ref p) H'
section
variable {P : Program} {w : World} {K : PySem.W.Frag} {mg : Str → Option Value} {base : Heap} {C : Cs} {aT : Addr}
abbrev sRow : Stmt := top 47
abbrev nRow : List Str := ["works", "told", "number", "turns", "turn"]
theorem scRow : FnScope nRow WT (defScope sRow) := ⟨rfl, rfl, rfl, by decide +kernel, rfl, by decide +kernel, by decide +kernel⟩
theorem k_row (T : Txt K mg C aT) (G : Gf K mg "row" sRow) (kH : Km P w K mg base C.W "has_ply" 1 ["self", "number"] (spHasP C)) (kL : Km P w K mg base C.P "is_laid" 1 ["self"] (spLaid C)) (kT : Km P w K mg base C.W "least_turn" 5 ["self", "number"] (spLeastTurn C))
    (kA : Kf P w K mg base "lift_again" 1 ["works", "numbers"] (spLiftA K C)) : Kf P w K mg base "row" 6 WT (spRow K C) := by
  refine G.ok scRow (fun vs H Q E h => ?_) (fun _ _ _ _ _ _ us hl => match us, hl with | [_, _], _ => rfl) (fun f cdv A outer s H vs Q E hr h => ?_)
  · obtain ⟨a, b, m, L, G, ts, rfl, _⟩ := h
    rfl
  obtain ⟨w0, b0, m, L, G, ts, rfl, W, o, hs, ht, h0, q⟩ := h
  have og := o.g
  have hr1 : Room 1 (A.deeper (envOfC "row" (defScope sRow) s.heap.objs.size f cdv)) := hr.mono (by decide)
  refine ⟨_, pss_cons (ps_if (pt_cmpR op_lt (pe_lenSetG (by rfl) T.blen (by rfl) T.bset (pv 1)) (pe_callB call_len_seq (by rfl) T.blen PySem.boot_len (pa_cons (pv 1) pa_nil)) (nomark _)) (pss_one (ps_ret (pe_lst (pa_cons (pe_gi (by rfl) T.nOR) pa_nil)))) pss_nil)
    (pss_cons (ps_if (pt_not (pt_val (pe_callB (cr_allB rfl) (by rfl) T.ball boot_all (pa_cons
        (pe_lc (own := [("number", 2)]) (g := gName 2) (tt := tYes) (te := tKm C.W "has_ply" (spHasP C) (tVar 0) (tCons (tVar 2) tNil)) rfl scRow.nd (pi_list (pv 1)) (blkOk_by (N := nRow) (sc := defScope sRow) (by decide +kernel))
          (fun _ _ _ _ _ => pg_name (i := 2) scRow.nd rfl (Or.inl rfl) (Or.inr rfl)) (fun _ _ _ _ _ => pts_nil) (fun _ _ _ _ _ => pe_km kH T.clW hr1 (pv 0) (pa_cons (pv 2) pa_nil))) pa_nil)))) (pss_one (ps_ret (pe_lst (pa_cons (pe_gi (by rfl) T.nNS) pa_nil)))) pss_nil)
    (pss_cons (ps_if (pt_val (pe_callB (cr_anyB rfl) (by rfl) T.bany boot_any (pa_cons
        (pe_lc (own := [("number", 2)]) (g := gName 2) (tt := tYes) (te := tKm C.P "is_laid" (spLaid C) (tOp (rIxL K) (tFld K (tVar 0) "plies") (tVar 2)) tNil) rfl scRow.nd (pi_list (pv 1)) (blkOk_by (N := nRow) (sc := defScope sRow) (by decide +kernel))
          (fun _ _ _ _ _ => pg_name (i := 2) scRow.nd rfl (Or.inl rfl) (Or.inr rfl)) (fun _ _ _ _ _ => pts_nil) (fun _ _ _ _ _ => pe_km0 kL T.clP hr1 (pe_ix ix_list (pe_fld (pv 0) rfl) (pv 2) (fun _ _ => rfl)))) pa_nil))) (pss_one (ps_ret (pe_lst (pa_cons (pe_gi (by rfl) T.nAL) pa_nil)))) pss_nil)
    (pss_cons (ps_set (i := 3) scRow.nd rfl (Or.inl rfl) (pe_lst pa_nil))
    (pss_cons (ps_for PassesOwn.never rfl (pi_list (pv 1)) (pg_name (i := 2) scRow.nd rfl (Or.inl rfl))
      (pss_cons (ps_set (i := 4) scRow.nd rfl (Or.inl rfl) (pe_km kT T.clW hr (pv 0) (pa_cons (pv 2) pa_nil)))
      (pss_cons (ps_if (pt_cmpR op_isN (pv 4) pe_non (nomark _)) (pss_cons (ps_expr (pe_kf kA hr1 (by rfl) (pa_cons (pv 0) (pa_cons (pv 1) pa_nil)))) (pss_one (ps_ret (pe_lst (pa_cons (pe_gi (by rfl) T.nCB) pa_nil))))) pss_nil)
      (pss_cons (ps_fld (pe_ix ix_list (pe_fld (pv 0) rfl) (pv 2) (fun _ _ => rfl)) (pv 4) rfl)
      (pss_one (ps_expr (pe_bm PySem.F.plainAttrs_list PySem.F.slot_list_append PySem.F.type_list_append mt_append (pv 3) (pa_cons (pv 4) pa_nil))))))))
    (pss_one (ps_ret (pe_op op_cat (pe_lst (pa_cons (pe_callB call_len_seq (by rfl) T.blen PySem.boot_len (pa_cons (pv 3) pa_nil)) pa_nil)) (pv 3)))))))), ?_⟩
  have ec : cRow m ts = (if ¬ ts.Nodup then (m, [-22]) else if (ts.all fun k => hasP m k) = false then (m, [-2]) else if (ts.any fun k => (Bp.ply m k.toNat).laid) = true then (m, [-17]) else
    match rowGo m ts with | none => (m, [-33]) | some q => (q.1, (q.2.length : Int) :: q.2)) := rfl
  have R := W.wr
  refine ⟨_, rfl, b0, ts, rfl, hs, by omega, _, rfl, b0, _, rfl, .inl hs, _, _, rfl, rfl, _, rfl, ?_⟩
  rw [List.length_map]
  refine ite2 (fun c1 => ?_) (fun c1 => ?_)
  · have c1 : ¬ ts.Nodup := (met_lt ts).mp (by have := of_decide_eq_true c1; omega)
    exact ⟨one1, fun p hp => muNo q W (Same.refl _) (by rw [ec, if_pos c1]) hp⟩
  have c1 : ts.Nodup := by
    by_cases h : ts.Nodup
    · exact h
    · exact absurd (decide_eq_true (by have := (met_lt ts).mpr h; omega)) c1
  rw [if_neg (fun h => h c1)] at ec
  -- all there
  have len1 : ∀ (f : Int → Bool) (i : Nat), (((ts.take i).map f).map V.bl).length < sizeLine := fun f i => big' (by rw [List.length_map, List.length_map, List.length_take]; omega)
  refine ⟨_, rfl, b0, rfl, ⟨_, hs⟩, fun D hD => lc_list (xs := ts.map V.int) (fun i H' => Same H H' ∧ H' D = some (.lst (((ts.take i).map fun k => hasP m k).map V.bl))) ⟨same_new hD, upd_same⟩ (fun i H' _ r => r.1.seq hs) ?_ ?_⟩
  · rintro i x H' hx ⟨s1, h1⟩
    obtain ⟨z, hz, rfl⟩ := map_get hx
    have R1 := R.mono s1
    refine ⟨rfl, ?_⟩
    refine ⟨_, rfl, w0, _, _, rfl, R1.wo, (by rfl), _, rfl, w0, _, m, L, rfl, R1, _, h1, len1 _ _, same_put s1 hD, ?_⟩
    rw [upd_same, take_more hz]
    simp
  rintro H1 ⟨s1, h1⟩
  rw [List.length_map, List.take_length] at h1
  refine ⟨D, _, rfl, SqL.of h1, _, rfl, ?_⟩
  have eall : (ts.map fun k => hasP m k).all id = ts.all fun k => hasP m k := by rw [List.all_map]; rfl
  rw [eall]
  cases c2 : (ts.all fun k => hasP m k) with
  | false => exact ⟨one1, fun p hp => muNo q W s1 (by rw [ec, if_pos c2]) hp⟩
  | true =>
  rw [if_neg (by rw [c2]; simp)] at ec
  have there : ∀ z ∈ ts, ∃ k : Nat, z = (k : Int) ∧ k < m.plies.length := fun z hz => by
    have hz0 := h0 z hz
    have := List.all_eq_true.mp c2 z hz
    refine ⟨z.toNat, by omega, ?_⟩
    have := of_decide_eq_true this
    omega
  have W1 := W.mono s1
  have R1 := W1.wr
  have hs1 := s1.seq hs
  refine ⟨_, rfl, b0, rfl, ⟨_, hs1⟩, fun D2 hD2 => lc_list (xs := ts.map V.int) (fun i H' => Same H1 H' ∧ H' D2 = some (.lst (((ts.take i).map fun k => (Bp.ply m k.toNat).laid).map V.bl))) ⟨same_new hD2, upd_same⟩ (fun i H' _ r => r.1.seq hs1) ?_ ?_⟩
  · rintro i x H' hx ⟨s2, h2⟩
    obtain ⟨z, hz, rfl⟩ := map_get hx
    obtain ⟨k, rfl, hk⟩ := there z (List.mem_of_getElem? hz)
    have R2 := R1.mono s2
    obtain ⟨q1, h12, hq1, hp1, h13, h14⟩ := R2.ply hk
    refine ⟨rfl, ?_⟩
    refine ⟨_, rfl, w0, _, _, _, _, rfl, R2.wo, T.clW, T.wp, (by rfl : (wF m L.pr L.pp).lookup ("plies" : Str) = some (.ref L.pp)), _, rfl, L.pp, _, _, _, rfl, rfl, SqL.of R2.po, atI_nat h12, q1.1, _, _, rfl, h13, (by rfl), q1.1, _, _, _, rfl, h13, _, h2, len1 _ _, same_put s2 hD2, ?_⟩
    rw [upd_same, take_more hz]
    simp
  rintro H2 ⟨s2, h2⟩
  rw [List.length_map, List.take_length] at h2
  refine ⟨D2, _, rfl, SqL.of h2, _, rfl, ?_⟩
  have eany : (ts.map fun k => (Bp.ply m k.toNat).laid).any id = ts.any fun k => (Bp.ply m k.toNat).laid := by rw [List.any_map]; rfl
  rw [eany]
  cases c3 : (ts.any fun k => (Bp.ply m k.toNat).laid) with
  | true => exact ⟨one1, fun p hp => muNo q W (s1.trans s2) (by rw [ec, if_pos c3]) hp⟩
  | false =>
  rw [if_neg (by rw [c3]; simp)] at ec
  have unlaid : ∀ k ∈ ts, (Bp.ply m k.toNat).laid = false := fun k hk => by
    have := List.any_eq_false.mp c3 k hk
    simpa using this
  have s12 := s1.trans s2
  refine ⟨Nat.zero_le _, fun l1 hl1 => ?_⟩
  have s3 := s12.trans (same_new (o := HO.lst []) hl1)
  have W3 := W.mono s3
  have hs3 := s3.seq hs
  have hl0 : H l1 = none := s12.free hl1
  have gl1 : G l1 = none := W.same.free hl0
  have nst : ∀ q ∈ L.ps, q.2.2 ≠ l1 := fun q hq e => by
    obtain ⟨_, _, h⟩ := R.pAll hq
    rw [e, hl0] at h
    cases h
  have nl1 : ∀ {H' : Hp} {e : Addr} {A dx : Addr} {fs : List (Str × V)} {xs : List V}, H' l1 = some (.lst xs) → H' e = some (.ins A dx fs) → l1 ≠ e := fun h h' => ne_of h h' li_ne
  refine ⟨_, rfl, b0, rfl, ⟨_, hs3⟩, for_list (K := K) (a := b0) (xs := ts.map V.int) (fun i σ H' => ∃ (v2 v4 : Option V) (mi : M) (tt : List Int), σ = [some (.ref w0), some (.ref b0), v2, some (.ref l1), v4] ∧ rowGo m (ts.take i) = some (mi, tt) ∧ tt.length = i ∧ WAt C G H' w0 mi L ∧ Ok mi ∧ mi.plies.length = m.plies.length ∧
      SqL K H' b0 (ts.map V.int) ∧ H' l1 = some (.lst (tt.map V.int)) ∧ l1 ≠ L.pr ∧ l1 ≠ L.pp ∧ ∀ p, H' p = none → H p = none)
    ⟨none, none, m, [], rfl, rfl, rfl, W3, o, rfl, hs3, upd_same, (ne_of_none (s12 _ _ R.ro) hl1).symm, (ne_of_none (s12 _ _ R.po) hl1).symm, fun p hp => s3.free hp⟩ (fun i σ H' _ ⟨_, _, _, _, _, _, _, _, _, _, r, _⟩ => r) ?_ ?_⟩
  · rintro i x σ H' hx ⟨v2, v4, mi, tt, rfl, hgo, htl, W', o', ml, hs', hl', np1, np2, fr⟩
    obtain ⟨z, hz, rfl⟩ := map_get hx
    have ilt := (List.getElem?_eq_some_iff.mp hz).1
    obtain ⟨k, rfl, hk⟩ := there z (List.mem_of_getElem? hz)
    have hk' : k < mi.plies.length := by rw [ml]; exact hk
    have R' := W'.wr
    refine ⟨_, rfl, w0, _, _, rfl, R'.wo, (by rfl), _, rfl, w0, k, mi, L, rfl, R', o', hk', fun H4 s4 => ?_⟩
    have W4 := W'.mono s4
    have R4 := W4.wr
    refine ⟨_, rfl, rfl, _, rfl, ?_⟩
    cases e : leastTurn mi k with
    | none =>
      have esplit : ts = ts.take i ++ (k : Int) :: ts.drop (i + 1) := by
        have h1 : ts = ts.take (i + 1) ++ ts.drop (i + 1) := (List.take_append_drop _ _).symm
        rw [take_more hz, List.append_assoc] at h1
        exact h1
      have enone : rowGo m ts = none := by
        rw [esplit]
        exact rowGo_snoc_none hgo (by rw [Int.toNat_natCast]; exact e) _
      rw [enone] at ec
      refine ⟨_, rfl, _, rfl, w0, b0, mi, L, G, ts, rfl, W4, s4.seq hs', fun z hz => ?_, fun H5 W5 fr5 => ?_⟩
      · obtain ⟨j, rfl, hj⟩ := there z hz
        rw [ml]
        omega
      · have em : liftAll mi ts = m := by
          have h2 : ts = ts.take i ++ ts.drop i := (List.take_append_drop _ _).symm
          rw [h2]
          exact Bp.lift_again hgo (by rw [← h2]; exact unlaid)
        rw [em] at W5
        rw [ec] at q
        exact ⟨one1, fun p hp => q _ p L (W5.mono (same_new hp)) (fr p (s4.free (fr5 p hp))) upd_same⟩
    | some t =>
      have ht4 := least_range (by have := o'.g; omega) e
      obtain ⟨q1, h12, hq1, hp1, h13, h14⟩ := R4.ply hk'
      refine ⟨_, rfl, _, rfl, w0, _, _, _, _, rfl, R4.wo, T.clW, T.wp, (by rfl : (wF mi L.pr L.pp).lookup ("plies" : Str) = some (.ref L.pp)), _, rfl, L.pp, _, _, _, rfl, rfl, SqL.of R4.po, atI_nat h12, q1.1, _, _, _, rfl, h13, T.clP, T.pu, (by show 4 < 1000; decide), ?_⟩
      have W5 : WAt C G (upd H4 q1.1 (.ins C.P q1.2.1 (putF "turn" (.int t) (pF (Bp.ply mi k) q1.2.2)))) w0 (setTurn mi k (some t)) L := W4.setTurn (some t) hq1 hp1
      have hl4 := s4 _ _ hl'
      have hl5 : upd H4 q1.1 (.ins C.P q1.2.1 (putF "turn" (.int t) (pF (Bp.ply mi k) q1.2.2))) l1 = some (.lst (tt.map V.int)) := by rw [upd_ne (nl1 hl4 h13)]; exact hl4
      refine ⟨_, rfl, .inl ⟨rfl, _, SqL.of hl5⟩, _, rfl, l1, _, _, rfl, rfl, hl5, big' (by rw [List.length_map]; omega), ?_⟩
      have hs5 := sq_keep (o := .ins C.P q1.2.1 (putF "turn" (.int t) (pF (Bp.ply mi k) q1.2.2))) (s4.seq hs') h13
      refine ⟨_, _, setTurn mi k (some t), tt ++ [t], rfl, ?_, by rw [List.length_append, htl]; rfl, ?_, ok_setTurn o' k fun z hz => ?_, by rw [setTurn_len]; exact ml, ?_, ?_, np1, np2, fun p hp => ?_⟩
      · rw [take_more hz]
        exact rowGo_snoc_some hgo (by rw [Int.toNat_natCast]; exact e)
      · exact W5.other hl5 gl1 np1 np2 nst
      · have := Option.some.inj hz
        omega
      · exact sq_put hs hl0 hs5
      · rw [upd_same, List.map_append]
        rfl
      · have n1 : p ≠ l1 := fun e => by rw [e, upd_same] at hp; cases hp
        rw [upd_ne n1] at hp
        have n2 : p ≠ q1.1 := fun e => by rw [e, upd_same] at hp; cases hp
        rw [upd_ne n2] at hp
        exact fr p (s4.free hp)
  · rintro σ H' ⟨v2, v4, mi, tt, rfl, hgo, htl, W', o', ml, hs', hl', np1, np2, fr⟩
    rw [List.length_map] at htl
    rw [List.length_map, List.take_length] at hgo
    rw [hgo] at ec
    rw [ec] at q
    refine ⟨_, rfl, l1, _, rfl, .inl (SqL.of hl'), one1, fun p hp => ?_⟩
    have s5 := same_new (o := HO.lst [.int ((tt.map V.int).length : Int)]) hp
    refine ⟨_, rfl, p, l1, _, _, rfl, rfl, upd_same, s5 _ _ hl', big (by rw [List.length_map]; show 1 + _ ≤ _; omega), fun p2 hp2 => ?_⟩
    refine q _ p2 L (W'.mono (s5.trans (same_new hp2))) (fr p2 (s5.free hp2)) ?_
    rw [upd_same, List.length_map]
    rfl
end
end Bp
namespace Bp
open PySem PySem.Spec PyProof.Rows L2
/-- told_span: where that stands which a call is told -/
def spSpan (K : PySem.W.Frag) : Sp := fun vs H Q _ => ∃ (a : Addr) (ns : List Int) (i k : Nat) (n : Int), vs = [.ref a, .int (i : Int)] ∧ SqL K H a (ns.map V.int) ∧ ns[i]? = some (k : Int) ∧ k < 20 ∧ (k = 5 → ns[i + 1]? = some n) ∧
  ∀ (t : Addr) (H' : Hp), H t = none → Same H H' → H' t = some (.tup [.int (if k = 5 then (i : Int) + 2 else (i : Int) + 1), .int (if k = 5 then (i : Int) + 2 + n else (i : Int) + 1 + (arity.getD k 0 : Nat))]) → Q (.ref t) H'
theorem told_at {k : Nat} (h : k < 20) (h5 : k ≠ 5) : atI toldV (k : Int) = some (.int (arity.getD k 0 : Nat)) := by
  refine atI_nat ?_
  match k, h, h5 with
  | 0, _, _ => rfl
  | 1, _, _ => rfl
  | 2, _, _ => rfl
  | 3, _, _ => rfl
  | 4, _, _ => rfl
  | 5, _, h => exact absurd rfl h
  | 6, _, _ => rfl
  | 7, _, _ => rfl
  | 8, _, _ => rfl
  | 9, _, _ => rfl
  | 10, _, _ => rfl
  | 11, _, _ => rfl
  | 12, _, _ => rfl
  | 13, _, _ => rfl
  | 14, _, _ => rfl
  | 15, _, _ => rfl
  | 16, _, _ => rfl
  | 17, _, _ => rfl
  | 18, _, _ => rfl
  | 19, _, _ => rfl
  | j + 20, h, _ => omega
/-- a display of names of the top -/
inductive AllGl (X : Cx) : List Expr → List V → Prop where
  | nil : AllGl X [] []
  | cons {x : Str} {pos : Pos} {v : V} {u : Value} {es : List Expr} {vs : List V} (hg : Gl X x) (hm : X.mg x = some u) (r : RelV v u) (hd : (x == ("__debug__" : Str)) = false) (t : AllGl X es vs) : AllGl X (.Name x pos :: es) (v :: vs)
def tVals (vs : List V) : TA := fun _ H Q => Q vs H
theorem pa_globs {X : Cx} {es : List Expr} {vs : List V} (h : AllGl X es vs) : PA X es (tVals vs) := by
  induction h with
  | nil => exact pa_nil
  | cons hg hm r hd t ih => exact pa_cons (pe_glob hg hm r hd) ih
section
variable {K : PySem.W.Frag} {C : Cs} {G H0 H : Hp} {Q : VK} {w b : Addr} {m : M} {L : Lay} {ts : List Int} {r : M × List Int}
theorem ro_case {n : Nat} {f : M → List Int → List Int} (q : ∀ (H' : Hp) (p : Addr) (L' : Lay), WAt C G H' w r.1 L' → H0 p = none → H' p = some (.lst (r.2.map V.int)) → Q (.ref p) H') (W : WAt C G H w m L) (s : Same H0 H) (o : Ok m) (hs : SqL K H b (ts.map V.int))
    (hl : ts.length = n) (h0 : ∀ z ∈ ts, 0 ≤ z) (er : r = (m, f m ts)) : spRo K C n f [.ref w, .ref b] H Q E0 := by
  subst er
  exact ⟨w, b, m, L, ts, rfl, W.wr, o, hs, hl, h0, fun p H' hp s' e => q H' p L (W.mono s') (s.free hp) e⟩
theorem mu_case {n : Nat} {f : M → List Int → M × List Int} (q : ∀ (H' : Hp) (p : Addr) (L' : Lay), WAt C G H' w r.1 L' → H0 p = none → H' p = some (.lst (r.2.map V.int)) → Q (.ref p) H') (W : WAt C G H w m L) (s : Same H0 H) (o : Ok m) (hs : SqL K H b (ts.map V.int))
    (hl : ts.length = n) (h0 : ∀ z ∈ ts, 0 ≤ z) (er : r = f m ts) : spMu K C n f [.ref w, .ref b] H Q E0 := by
  subst er
  exact ⟨w, b, m, L, G, ts, rfl, W, o, hs, hl, h0, fun H' p L' W' hp e => q H' p L' W' (s.free hp) e⟩
end
/-- answer_of: a call of any number made on the object -/
def spAnsOf (K : PySem.W.Frag) (C : Cs) : Sp := fun vs H Q _ => ∃ (w b : Addr) (k : Nat) (m : M) (L : Lay) (G : Hp) (ts : List Int), vs = [.ref w, .int (k : Int), .ref b] ∧ WAt C G H w m L ∧ (m = M0 ∨ Ok m) ∧ SqL K H b (ts.map V.int) ∧ k < 20 ∧ (k = 5 → ts.length ≤ 16) ∧ (k ≠ 5 → ts.length = arity.getD k 0) ∧
  (∀ z ∈ ts, 0 ≤ z ∧ z ≤ 4294967295) ∧ ∀ (H' : Hp) (p : Addr) (L' : Lay), WAt C G H' w (mStep m (k : Int) ts).1 L' → H p = none → H' p = some (.lst ((mStep m (k : Int) ts).2.map V.int)) → Q (.ref p) H'
/-- the twenty calls -/
structure Twenty (P : Program) (w : World) (K : PySem.W.Frag) (mg : Str → Option Value) (base : Heap) (C : Cs) : Prop where
  begin_ : Kf P w K mg base "begin" 2 WT (spBegin K C)
  roll : Kf P w K mg base "roll" 3 WT (spMu K C 2 cRoll)
  ply : Kf P w K mg base "ply" 4 WT (spMu K C 2 cPly)
  lay : Kf P w K mg base "lay" 5 WT (spMu K C 2 cLay)
  lift : Kf P w K mg base "lift" 2 WT (spMu K C 1 cLift)
  row : Kf P w K mg base "row" 6 WT (spRow K C)
  least : Kf P w K mg base "least" 6 WT (spRo K C 1 aLeast)
  best : Kf P w K mg base "best" 5 WT (spRo K C 1 aBest)
  fits : Kf P w K mg base "fits" 5 WT (spRo K C 2 aFits)
  near : Kf P w K mg base "near" 3 WT (spRo K C 2 aNear)
  all : Kf P w K mg base "all_laid" 3 WT (spRo K C 0 aAll)
  splices : Kf P w K mg base "splices" 2 WT (spRo K C 1 aSplices)
  where_ : Kf P w K mg base "where" 3 WT (spRo K C 1 aWhere)
  most : Kf P w K mg base "most" 4 WT (spRo K C 2 aMost)
  piece : Kf P w K mg base "piece" 4 WT (spRo K C 1 aPiece)
  look : Kf P w K mg base "look" 2 WT (spRo K C 1 aLook)
  rest : Kf P w K mg base "rest" 2 WT (spRo K C 1 aRest)
  at_ : Kf P w K mg base "at_place" 3 WT (spRo K C 2 aAt)
  sums : Kf P w K mg base "sums" 1 WT (spRo K C 0 aSums)
  state : Kf P w K mg base "state" 4 WT (spRo K C 0 aState)
section
variable {P : Program} {w : World} {K : PySem.W.Frag} {mg : Str → Option Value} {base : Heap} {C : Cs} {aT : Addr}
abbrev sSpan : Stmt := top 60
theorem scSpan : FnScope ["calls", "at"] ["calls", "at"] (defScope sSpan) := ⟨rfl, rfl, rfl, by decide +kernel, rfl, by decide +kernel, by decide +kernel⟩
theorem k_span (T : Txt K mg C aT) (G : Gf K mg "told_span" sSpan) : Kf P w K mg base "told_span" 1 ["calls", "at"] (spSpan K) := by
  refine G.ok scSpan (fun vs H Q E h => ?_) (fun _ _ _ _ _ _ us hl => match us, hl with | [_, _], _ => rfl) (fun f cdv A outer s H vs Q E hr h => ?_)
  · obtain ⟨a, ns, i, k, n, rfl, _⟩ := h
    rfl
  obtain ⟨a, ns, i, k, n, rfl, hs, hk, hk2, h5, q⟩ := h
  refine ⟨_, pss_cons (ps_if (pt_cmpR op_eq (pe_ix ix_list (pv 0) (pv 1) (fun _ _ => rfl)) (pe_gi (by rfl) T.nRW) (nomark _))
      (pss_one (ps_ret (pe_tup (pa_cons (pe_op op_add (pv 1) pe_int) (pa_cons (pe_op op_add (pe_op op_add (pv 1) pe_int) (pe_ix ix_list (pv 0) (pe_op op_add (pv 1) pe_int) (fun _ _ => rfl))) pa_nil))))) pss_nil)
    (pss_one (ps_ret (pe_tup (pa_cons (pe_op op_add (pv 1) pe_int) (pa_cons (pe_op op_add (pe_op op_add (pv 1) pe_int) (pe_ix ix_tup (pe_glob (v := V.ref aT) (by rfl) T.told rfl) (pe_ix ix_list (pv 0) (pv 1) (fun _ _ => rfl)) (fun _ _ => rfl))) pa_nil))))), ?_⟩
  have hat : atI (ns.map V.int) (i : Int) = some (.int (k : Int)) := atI_nat (by rw [List.getElem?_map, hk]; rfl)
  refine ⟨_, rfl, _, rfl, a, _, _, _, rfl, rfl, hs, hat, rfl, _, rfl, ?_⟩
  refine ite2 (fun c => ?_) (fun c => ?_)
  · have c := of_decide_eq_true c
    injection c with c
    have c : k = 5 := by omega
    have hn := h5 c
    have hat2 : atI (ns.map V.int) ((i : Int) + 1) = some (.int n) := by
      have := atI_nat (xs := ns.map V.int) (j := i + 1) (v := V.int n) (by rw [List.getElem?_map, hn]; rfl)
      exact this
    refine ⟨_, rfl, _, _, rfl, rfl, _, rfl, _, _, rfl, rfl, _, rfl, _, rfl, _, _, rfl, rfl, a, _, _, _, rfl, rfl, hs, hat2, _, _, rfl, rfl, two2, fun t ht => ?_⟩
    rw [if_pos c, if_pos c] at q
    exact q t _ ht (same_new ht) upd_same
  · have c : k ≠ 5 := fun e => c (decide_eq_true (by rw [e]; rfl))
    refine ⟨_, rfl, _, _, rfl, rfl, _, rfl, _, _, rfl, rfl, _, rfl, _, rfl, a, _, _, _, rfl, rfl, hs, hat, aT, _, _, _, rfl, rfl, T.toldT _, told_at hk2 c, _, _, rfl, rfl, two2, fun t ht => ?_⟩
    rw [if_neg c, if_neg c] at q
    exact q t _ ht (same_new ht) upd_same
abbrev sAO : Stmt := top 61
abbrev nAO : List Str := ["works", "call", "told", "by_number"]
theorem scAO : FnScope nAO ["works", "call", "told"] (defScope sAO) := ⟨rfl, rfl, rfl, by decide +kernel, rfl, by decide +kernel, by decide +kernel⟩
theorem k_ao (T : Txt K mg C aT) (G : Gf K mg "answer_of" sAO) (F : Twenty P w K mg base C) : Kf P w K mg base "answer_of" 7 ["works", "call", "told"] (spAnsOf K C) := by
  obtain ⟨f0, g0, H0⟩ := F.begin_.held 6 (by decide)
  obtain ⟨f1, g1, H1⟩ := F.roll.held 6 (by decide)
  obtain ⟨f2, g2, H2⟩ := F.ply.held 6 (by decide)
  obtain ⟨f3, g3, H3⟩ := F.lay.held 6 (by decide)
  obtain ⟨f4, g4, H4⟩ := F.lift.held 6 (by decide)
  obtain ⟨f5, g5, H5⟩ := F.row.held 6 (by decide)
  obtain ⟨f6, g6, H6⟩ := F.least.held 6 (by decide)
  obtain ⟨f7, g7, H7⟩ := F.best.held 6 (by decide)
  obtain ⟨f8, g8, H8⟩ := F.fits.held 6 (by decide)
  obtain ⟨f9, g9, H9⟩ := F.near.held 6 (by decide)
  obtain ⟨f10, g10, H10⟩ := F.all.held 6 (by decide)
  obtain ⟨f11, g11, H11⟩ := F.splices.held 6 (by decide)
  obtain ⟨f12, g12, H12⟩ := F.where_.held 6 (by decide)
  obtain ⟨f13, g13, H13⟩ := F.most.held 6 (by decide)
  obtain ⟨f14, g14, H14⟩ := F.piece.held 6 (by decide)
  obtain ⟨f15, g15, H15⟩ := F.look.held 6 (by decide)
  obtain ⟨f16, g16, H16⟩ := F.rest.held 6 (by decide)
  obtain ⟨f17, g17, H17⟩ := F.at_.held 6 (by decide)
  obtain ⟨f18, g18, H18⟩ := F.sums.held 6 (by decide)
  obtain ⟨f19, g19, H19⟩ := F.state.held 6 (by decide)
  refine G.ok scAO (fun vs H Q E h => ?_) (fun _ _ _ _ _ _ us hl => match us, hl with | [_, _, _], _ => rfl) (fun f cdv A outer s H vs Q E hr h => ?_)
  · obtain ⟨a, b, k, m, L, G, ts, rfl, _⟩ := h
    rfl
  obtain ⟨w0, b0, k, m, L, G, ts, rfl, W, o, hs, hk, h5, hn, hb, q⟩ := h
  refine ⟨_, pss_cons (ps_if (PW.pt (pw_and (pt_cmpR op_ne (pv 1) (pe_gi (by rfl) T.nBG) (nomark _)) (pw_and1 (pt_not (pt_val (pe_fld (pv 0) rfl)))))) (pss_one (ps_ret (pe_lst (pa_cons (pe_gi (by rfl) T.nNB) pa_nil)))) pss_nil)
    (pss_cons (ps_set (i := 3) scAO.nd rfl (Or.inl rfl) (pe_tup (pa_globs (vs := [f0, f1, f2, f3, f4, f5, f6, f7, f8, f9, f10, f11, f12, f13, f14, f15, f16, f17, f18, f19].map V.ref) (.cons (x := "begin") (by rfl) g0 rfl (by decide) (.cons (x := "roll") (by rfl) g1 rfl (by decide) (.cons (x := "ply") (by rfl) g2 rfl (by decide) (.cons (x := "lay") (by rfl) g3 rfl (by decide) (.cons (x := "lift") (by rfl) g4 rfl (by decide)
    (.cons (x := "row") (by rfl) g5 rfl (by decide) (.cons (x := "least") (by rfl) g6 rfl (by decide) (.cons (x := "best") (by rfl) g7 rfl (by decide) (.cons (x := "fits") (by rfl) g8 rfl (by decide) (.cons (x := "near") (by rfl) g9 rfl (by decide)
    (.cons (x := "all_laid") (by rfl) g10 rfl (by decide) (.cons (x := "splices") (by rfl) g11 rfl (by decide) (.cons (x := "where") (by rfl) g12 rfl (by decide) (.cons (x := "most") (by rfl) g13 rfl (by decide) (.cons (x := "piece") (by rfl) g14 rfl (by decide)
    (.cons (x := "look") (by rfl) g15 rfl (by decide) (.cons (x := "rest") (by rfl) g16 rfl (by decide) (.cons (x := "at_place") (by rfl) g17 rfl (by decide) (.cons (x := "sums") (by rfl) g18 rfl (by decide) (.cons (x := "state") (by rfl) g19 rfl (by decide) .nil)))))))))))))))))))))))
    (pss_one (ps_ret (pe_callE (k := 6) (pe_ix ix_tup (pv 3) (pv 1) (fun _ _ => rfl)) hr (pa_cons (pv 0) (pa_cons (pv 2) pa_nil)))))), ?_⟩
  have R := W.wr
  refine ⟨_, rfl, rfl, _, rfl, ?_⟩
  have rest : (k ≠ 0 ∧ m.begun = false → False) → tSeq (tAsg (tTup (tVals ([f0, f1, f2, f3, f4, f5, f6, f7, f8, f9, f10, f11, f12, f13, f14, f15, f16, f17, f18, f19].map V.ref))) (gName 3)) (tRet (tCallE P w K mg base 6 (tOp (rIxT K) (tVar 3) (tVar 1)) (tCons (tVar 0) (tCons (tVar 2) tNil))))
      { nx := fun _ H' => Q .non H', rt := Q } [some (.ref w0), some (.int (k : Int)), some (.ref b0), none] H := fun hc => by
    refine ⟨(by show 20 ≤ sizeLine; decide), fun t0 ht0 => ?_⟩
    have s0 := same_new (o := HO.tup ([f0, f1, f2, f3, f4, f5, f6, f7, f8, f9, f10, f11, f12, f13, f14, f15, f16, f17, f18, f19].map V.ref)) ht0
    have W0 := W.mono s0
    have hs0 := s0.seq hs
    have hp : ∀ z ∈ ts, 0 ≤ z := fun z hz => (hb z hz).1
    have em : mStep m (k : Int) ts = (calls20.getD k (ro fun _ _ => [])) m ts := by
      unfold mStep
      rw [if_neg (fun h => hc ⟨fun e => h.1 (by rw [e]; rfl), h.2⟩), Int.toNat_natCast]
    rw [em] at q
    have okm : k ≠ 0 → Ok m := fun hk0 => by
      rcases o with o | o
      · exact (hc ⟨hk0, by rw [o]; rfl⟩).elim
      · exact o
    have key : ∀ k : Nat, k < 20 → (k = 5 → ts.length ≤ 16) → (k ≠ 5 → ts.length = arity.getD k 0) →
        (∀ (H' : Hp) (p : Addr) (L' : Lay), WAt C G H' w0 ((calls20.getD k (ro fun _ _ => [])) m ts).1 L' → H p = none → H' p = some (.lst (((calls20.getD k (ro fun _ _ => [])) m ts).2.map V.int)) → Q (.ref p) H') → (k ≠ 0 → Ok m) →
        ∃ f sp, ([f0, f1, f2, f3, f4, f5, f6, f7, f8, f9, f10, f11, f12, f13, f14, f15, f16, f17, f18, f19].map V.ref)[k]? = some (V.ref f) ∧ Held P w K mg base 6 f sp ∧ sp [.ref w0, .ref b0] (upd H t0 (.tup ([f0, f1, f2, f3, f4, f5, f6, f7, f8, f9, f10, f11, f12, f13, f14, f15, f16, f17, f18, f19].map V.ref))) Q E0 := fun k hk h5 hn q ok =>
      match k, hk, h5, hn, q, ok with
      | 0, _, _, hn, q, _ => ⟨f0, _, rfl, H0, w0, b0, m, L, G, ts, rfl, W0, hs0, hn (by decide), hb, fun H' p L' W' hp' e => q H' p L' W' (s0.free hp') e⟩
      | 1, _, _, hn, q, ok => ⟨f1, _, rfl, H1, mu_case q W0 s0 (ok (by decide)) hs0 (hn (by decide)) hp rfl⟩
      | 2, _, _, hn, q, ok => ⟨f2, _, rfl, H2, mu_case q W0 s0 (ok (by decide)) hs0 (hn (by decide)) hp rfl⟩
      | 3, _, _, hn, q, ok => ⟨f3, _, rfl, H3, mu_case q W0 s0 (ok (by decide)) hs0 (hn (by decide)) hp rfl⟩
      | 4, _, _, hn, q, ok => ⟨f4, _, rfl, H4, mu_case q W0 s0 (ok (by decide)) hs0 (hn (by decide)) hp rfl⟩
      | 5, _, h5, _, q, ok => ⟨f5, _, rfl, H5, w0, b0, m, L, G, ts, rfl, W0, ok (by decide), hs0, h5 rfl, hp, fun H' p L' W' hp' e => q H' p L' W' (s0.free hp') e⟩
      | 6, _, _, hn, q, ok => ⟨f6, _, rfl, H6, ro_case q W0 s0 (ok (by decide)) hs0 (hn (by decide)) hp rfl⟩
      | 7, _, _, hn, q, ok => ⟨f7, _, rfl, H7, ro_case q W0 s0 (ok (by decide)) hs0 (hn (by decide)) hp rfl⟩
      | 8, _, _, hn, q, ok => ⟨f8, _, rfl, H8, ro_case q W0 s0 (ok (by decide)) hs0 (hn (by decide)) hp rfl⟩
      | 9, _, _, hn, q, ok => ⟨f9, _, rfl, H9, ro_case q W0 s0 (ok (by decide)) hs0 (hn (by decide)) hp rfl⟩
      | 10, _, _, hn, q, ok => ⟨f10, _, rfl, H10, ro_case q W0 s0 (ok (by decide)) hs0 (hn (by decide)) hp rfl⟩
      | 11, _, _, hn, q, ok => ⟨f11, _, rfl, H11, ro_case q W0 s0 (ok (by decide)) hs0 (hn (by decide)) hp rfl⟩
      | 12, _, _, hn, q, ok => ⟨f12, _, rfl, H12, ro_case q W0 s0 (ok (by decide)) hs0 (hn (by decide)) hp rfl⟩
      | 13, _, _, hn, q, ok => ⟨f13, _, rfl, H13, ro_case q W0 s0 (ok (by decide)) hs0 (hn (by decide)) hp rfl⟩
      | 14, _, _, hn, q, ok => ⟨f14, _, rfl, H14, ro_case q W0 s0 (ok (by decide)) hs0 (hn (by decide)) hp rfl⟩
      | 15, _, _, hn, q, ok => ⟨f15, _, rfl, H15, ro_case q W0 s0 (ok (by decide)) hs0 (hn (by decide)) hp rfl⟩
      | 16, _, _, hn, q, ok => ⟨f16, _, rfl, H16, ro_case q W0 s0 (ok (by decide)) hs0 (hn (by decide)) hp rfl⟩
      | 17, _, _, hn, q, ok => ⟨f17, _, rfl, H17, ro_case q W0 s0 (ok (by decide)) hs0 (hn (by decide)) hp rfl⟩
      | 18, _, _, hn, q, ok => ⟨f18, _, rfl, H18, ro_case q W0 s0 (ok (by decide)) hs0 (hn (by decide)) hp rfl⟩
      | 19, _, _, hn, q, ok => ⟨f19, _, rfl, H19, ro_case q W0 s0 (ok (by decide)) hs0 (hn (by decide)) hp rfl⟩
      | j + 20, h, _, _, _, _ => absurd h (by omega)
    obtain ⟨fk, sp, e1, hh, hsp⟩ := key k hk h5 hn q okm
    exact ⟨_, rfl, _, rfl, t0, _, _, _, rfl, rfl, SqT.of upd_same, atI_nat e1, fk, sp, rfl, hh, _, rfl, _, rfl, hsp⟩
  by_cases ck : k = 0
  · have e0 : decide (V.int (k : Int) = V.int 0) = true := decide_eq_true (by rw [ck]; rfl)
    rw [e0]
    exact rest fun h => h.1 ck
  · have e0 : decide (V.int (k : Int) = V.int 0) = false := decide_eq_false (fun h => by injection h with h; omega)
    rw [e0]
    refine ⟨_, rfl, w0, _, _, _, _, rfl, R.wo, T.clW, T.wb, (by rfl : (wF m L.pr L.pp).lookup ("begun" : Str) = some (.bl m.begun)), _, rfl, ?_⟩
    cases cb : m.begun with
    | true => exact rest fun h => by rw [cb] at h; cases h.2
    | false =>
      have em : mStep m (k : Int) ts = (m, [-11]) := by
        unfold mStep
        rw [if_pos ⟨fun e => ck (by omega), cb⟩]
      exact ⟨one1, fun p hp => muNo q W (Same.refl _) em hp⟩
end
end Bp
namespace Bp
open PySem PySem.Spec PyProof.Rows L2
abbrev stp : Su65Neutral.S → List (List Int) → Su65Neutral.S × List Int := fun s c => Su65Neutral.step s (c.headD [])
/-- what is handed in, read: the calls, each as it may be -/
theorem asked_open {ns : List Int} (h : PySu65.answers_asked ns = true) : ∃ cs, PyFlat.calls PySu65.shape ns.length ns = some cs ∧ cs.length ≤ 400 ∧ (∀ c ∈ cs, Su65Neutral.asked1 ((PySu65.whole c).headD []) = true) ∧
    PySu65.answers ns = PyFlat.told (PyFlat.played stp Su65Neutral.start (cs.map PySu65.whole)) := by
  unfold PySu65.answers_asked at h
  cases e : PyFlat.calls PySu65.shape ns.length ns with
  | none =>
    rw [e] at h
    cases h
  | some cs =>
    rw [e] at h
    simp only [Bool.and_eq_true] at h
    refine ⟨cs, rfl, of_decide_eq_true h.1.1, fun c hc => ?_, ?_⟩
    · have h2 := h.2
      unfold Su65Neutral.asked at h2
      simp only [Bool.and_eq_true] at h2
      refine List.all_eq_true.mp h2.2 _ ?_
      rw [List.map_map]
      exact List.mem_map.mpr ⟨c, hc, rfl⟩
    · unfold PySu65.answers PySu65.calls
      rw [e]
theorem told_cons (a : List Int) (l : List (List Int)) : PyFlat.told (a :: l) = ((a.length : Int) :: a) ++ PyFlat.told l := by
  unfold PyFlat.told
  rw [List.flatMap_cons]
theorem cut_both (xs : List V) (a b : Nat) (h : a + b ≤ xs.length) : cutV xs (some (a : Int)) (some ((a : Int) + (b : Int))) = (xs.drop a).take b := by
  unfold cutV
  rw [HT.sIx_nat, show (a : Int) + (b : Int) = ((a + b : Nat) : Int) from by omega, HT.sIx_nat, Nat.min_eq_left h, Nat.min_eq_left (by omega : a ≤ xs.length)]
  congr 1
  omega
def spAns (K : PySem.W.Frag) : Sp := fun vs H Q _ => ∃ (a : Addr) (ns : List Int), vs = [.ref a] ∧ SqL K H a (ns.map V.int) ∧ PySu65.answers_asked ns = true ∧
  ∀ (H' : Hp) (p : Addr), H' p = some (.lst ((PySu65.answers ns).map V.int)) → Q (.ref p) H'
/-- one call of the line: where it stands, what it is told -/
theorem one_call {ns : List Int} {i f : Nat} {cs : List (List (List Int))} (hi : i < ns.length) (h : PyFlat.calls PySu65.shape f (ns.drop i) = some cs) (ha : ∀ c ∈ cs, Su65Neutral.asked1 ((PySu65.whole c).headD []) = true) :
    ∃ (k st ln : Nat) (n : Int) (c : List (List Int)) (f' : Nat) (cs' : List (List (List Int))), ns[i]? = some (k : Int) ∧ k < 20 ∧ (k = 5 → ns[i + 1]? = some n) ∧ (st : Int) = (if k = 5 then (i : Int) + 2 else (i : Int) + 1) ∧ ((st : Int) + (ln : Int)) = (if k = 5 then (i : Int) + 2 + n else (i : Int) + 1 + (arity.getD k 0 : Nat)) ∧
      st + ln ≤ ns.length ∧ i < st ∧ cs = c :: cs' ∧ (PySu65.whole c).headD [] = (k : Int) :: (ns.drop st).take ln ∧ PyFlat.calls PySu65.shape f' (ns.drop (st + ln)) = some cs' ∧
      (k = 5 → ((ns.drop st).take ln).length ≤ 16) ∧ (k ≠ 5 → ((ns.drop st).take ln).length = arity.getD k 0) ∧ ∀ z ∈ (ns.drop st).take ln, 0 ≤ z ∧ z ≤ 4294967295 := by
  have hd : ns.drop i = ns[i] :: ns.drop (i + 1) := List.drop_eq_getElem_cons hi
  rw [hd] at h
  obtain ⟨f', c, t, cs', rfl, hc, hcs⟩ := calls_cons h
  have hac := ha c List.mem_cons_self
  have hi0 : ns[i]? = some ns[i] := List.getElem?_eq_getElem hi
  rcases call_cases hc with ⟨h5, n, r', er, n0, n1, rfl, rfl⟩ | ⟨k, hk, hk20, hk5, hl, rfl, rfl⟩
  · have hlen : ns.length - (i + 1) = r'.length + 1 := by
      have := congrArg List.length er
      rwa [List.length_drop, List.length_cons] at this
    have hn : ns[i + 1]? = some n := by
      have : (ns.drop (i + 1))[0]? = some n := by rw [er]; rfl
      rw [List.getElem?_drop] at this
      exact this
    have er2 : ns.drop (i + 2) = r' := by
      have : (ns.drop (i + 1)).drop 1 = r' := by rw [er]; rfl
      rw [List.drop_drop] at this
      exact this
    have ew : (PySu65.whole [[5], r'.take n.toNat]).headD [] = ((5 : Nat) : Int) :: (ns.drop (i + 2)).take n.toNat := by
      rw [er2]
      rfl
    rw [ew] at hac
    obtain ⟨a1, a2⟩ := asked_nat hac
    refine ⟨5, i + 2, n.toNat, n, _, f', cs', by rw [hi0, h5]; rfl, by decide, fun _ => hn, by rw [if_pos rfl]; omega, by rw [if_pos rfl]; omega, by omega, by omega, rfl, ew, ?_, fun _ => a1 rfl, fun h => absurd rfl h, a2⟩
    rw [← List.drop_drop, er2]
    exact hcs
  · have ew : (PySu65.whole [ns[i] :: (ns.drop (i + 1)).take (arity.getD k 0)]).headD [] = (k : Int) :: (ns.drop (i + 1)).take (arity.getD k 0) := by
      rw [whole_one, ← hk]
      rfl
    rw [ew] at hac
    obtain ⟨a1, a2⟩ := asked_nat hac
    rw [List.length_drop] at hl
    refine ⟨k, i + 1, arity.getD k 0, 0, _, f', cs', by rw [hi0, hk], hk20, fun h => absurd h hk5, by rw [if_neg hk5]; omega, by rw [if_neg hk5]; omega, by omega, by omega, rfl, ew, ?_, fun h => absurd h hk5, fun _ => ?_, a2⟩
    · rw [← List.drop_drop]
      exact hcs
    · rw [List.length_take, List.length_drop]
      omega
section
variable {P : Program} {w : World} {K : PySem.W.Frag} {mg : Str → Option Value} {base : Heap} {C : Cs} {aT : Addr}
abbrev sAns : Stmt := top 59
abbrev nAns : List Str := ["calls", "works", "given", "at", "start", "end", "answer"]
theorem scAns : FnScope nAns ["calls"] (defScope sAns) := ⟨rfl, rfl, rfl, by decide +kernel, rfl, by decide +kernel, by decide +kernel⟩
theorem ok_ans {f : Addr} {fd : FuncData} (T : Txt K mg C aT) (F : Fun K "answers" "answers" sAns f fd) (kI : Ki P w K mg base C.W "Works" 1 ["self"] (spWI C)) (kS : Kf P w K mg base "told_span" 1 ["calls", "at"] (spSpan K)) (kA : Kf P w K mg base "answer_of" 7 ["works", "call", "told"] (spAnsOf K C)) :
    FnOk P w K mg base CX0 8 f fd ["calls"] (spAns K) := by
  refine F.ok scAns (fun vs H Q E h => ?_) (fun cdv A outer s H vs Q E hr h => ?_)
  · obtain ⟨a, ns, rfl, _⟩ := h
    rfl
  obtain ⟨a, ns, rfl, hs, hask, q⟩ := h
  obtain ⟨cs0, hc0, hl0, ha0, e0⟩ := asked_open hask
  have hr1 : Room 1 (A.deeper (envOfC "answers" (defScope sAns) s.heap.objs.size f cdv)) := hr.mono (by decide)
  refine ⟨_, pss_cons (ps_set (i := 1) scAns.nd rfl (Or.inl rfl) (pe_ki0 kI (hr.mono (by decide)) (by rfl)))
    (pss_cons (ps_set (i := 2) scAns.nd rfl (Or.inl rfl) (pe_lst pa_nil))
    (pss_cons (ps_set (i := 3) scAns.nd rfl (Or.inl rfl) pe_int)
    (pss_cons (ps_while PassesOwn.never (pt_cmpR op_lt (pv 3) (pe_callB call_len_seq (by rfl) T.blen PySem.boot_len (pa_cons (pv 0) pa_nil)) (nomark _))
      (pss_cons (ps_asg (pe_kf kS hr1 (by rfl) (pa_cons (pv 0) (pa_cons (pv 3) pa_nil))) (pg_tup rfl (pgs_cons (pg_name (i := 4) scAns.nd rfl (Or.inl rfl)) (pgs_cons (pg_name (i := 5) scAns.nd rfl (Or.inl rfl)) pgs_nil))))
      (pss_cons (ps_set (i := 6) scAns.nd rfl (Or.inl rfl) (pe_kf kA hr (by rfl) (pa_cons (pv 1) (pa_cons (pe_ix ix_list (pv 0) (pv 3) (fun _ _ => rfl)) (pa_cons (pe_slice sl_list (pv 0) (po_some (pv 4)) (po_some (pv 5))) pa_nil)))))
      (pss_cons (ps_expr (pe_bm PySem.F.plainAttrs_list PySem.F.slot_list_append PySem.F.type_list_append mt_append (pv 2) (pa_cons (pe_callB call_len_seq (by rfl) T.blen PySem.boot_len (pa_cons (pv 6) pa_nil)) pa_nil)))
      (pss_cons (ps_expr (pe_bm PySem.F.plainAttrs_list PySem.F.slot_list_extend PySem.F.type_list_extend mt_extend (pv 2) (pa_cons (pv 6) pa_nil)))
      (pss_one (ps_set (i := 3) scAns.nd rfl (Or.inl rfl) (pv 5))))))))
    (pss_one (ps_ret (pv 2)))))), ?_⟩
  intro x dx hx hdx ndx
  refine ⟨x, dx, rfl, upd_same, fun H1 pr pp hw hpr hpp npr npp ne k1 => ⟨rfl, ?_⟩⟩
  have s1 : Same H H1 := Same.made hx hdx k1
  refine ⟨Nat.zero_le _, fun l1 hl1 => ?_⟩
  have hl : H l1 = none := s1.free hl1
  have old : ∀ p, upd (upd H dx (.own x)) x (.ins C.W dx []) p = none → H p = none := fun p hp => by
    have n1 : p ≠ x := fun e => by rw [e, upd_same] at hp; cases hp
    rw [upd_ne n1] at hp
    have n2 : p ≠ dx := fun e => by rw [e, upd_same] at hp; cases hp
    rw [upd_ne n2] at hp
    exact hp
  have nx1 : x ≠ l1 := ne_of_none hw hl1
  have nr1 : pr ≠ l1 := ne_of_none hpr hl1
  have np1 : pp ≠ l1 := ne_of_none hpp hl1
  have W0 : WAt C (upd H l1 (.lst (([] : List Int).map V.int))) (upd H1 l1 (.lst [])) x M0 ⟨dx, pr, pp, [], []⟩ := by
    refine ⟨⟨by rw [upd_ne nx1]; exact hw, by show upd H1 l1 _ pr = _; rw [upd_ne nr1]; exact hpr, by show upd H1 l1 _ pp = _; rw [upd_ne np1]; exact hpp, rfl, rfl, (fun _ _ _ a => by cases a), (fun _ _ _ a => by cases a)⟩, fun b o e => ?_, by rw [upd_ne nx1]; exact hx,
      by show upd H l1 _ pr = _; rw [upd_ne nr1]; exact old _ npr, by show upd H l1 _ pp = _; rw [upd_ne np1]; exact old _ npp, (fun _ h => by cases h), (fun _ h => by cases h), (fun _ h => by cases h), List.nodup_nil, List.nodup_nil, ne, (fun _ h => by cases h)⟩
    by_cases c : b = l1
    · subst c
      rw [upd_same] at e ⊢
      exact e
    · rw [upd_ne c] at e ⊢
      exact s1 b o e
  have sqG : ∀ o, SqL K (upd H l1 o) a (ns.map V.int) := fun o => sq_put hs hl hs
  refine ⟨fun n σ H' => ∃ (i d f : Nat) (st : Su65Neutral.S) (L : Lay) (given : List Int) (cs : List (List (List Int))) (v4 v5 v6 : Option V), n = ns.length - i ∧ σ = [some (.ref a), some (.ref x), some (.ref l1), some (.int (i : Int)), v4, v5, v6] ∧ i ≤ ns.length ∧
      PyFlat.calls PySu65.shape f (ns.drop i) = some cs ∧ (∀ c ∈ cs, Su65Neutral.asked1 ((PySu65.whole c).headD []) = true) ∧ given ++ PyFlat.told (PyFlat.played stp st (cs.map PySu65.whole)) = PySu65.answers ns ∧ StOk st ∧ d + cs.length ≤ 400 ∧ given.length ≤ d * 21 ∧
      WAt C (upd H l1 (.lst (given.map V.int))) H' x (toMo st) L,
    ⟨_, 0, 0, ns.length, none, _, [], cs0, none, none, none, rfl, rfl, Nat.zero_le _, hc0, ha0, e0.symm, trivial, by omega, Nat.le_refl _, W0⟩, ?_⟩
  rintro n σ H' ⟨i, d, f', st, L, given, cs, v4, v5, v6, rfl, rfl, hi, hcs, hac, heq, hst, hd, hg, W⟩
  have hsq := W.same.seq (sqG _)
  refine ⟨_, rfl, _, rfl, a, _, rfl, .inl hsq, _, _, rfl, rfl, _, rfl, ?_⟩
  rw [List.length_map]
  refine ite2 (fun c => ?_) (fun c => ?_)
  · have c : i < ns.length := by
      have := of_decide_eq_true c
      omega
    obtain ⟨k, ss, ln, n, c, f2, cs', hk, hk20, hn5, ess, ese, hsl, his, rfl, ew, hcs', b1, b2, b3⟩ := one_call c hcs hac
    obtain ⟨em, st2, ol⟩ := step_ok hst hk20 b1 b2 b3
    rw [List.length_cons] at hd
    refine ⟨fun σ' H2 => ∃ m', m' < ns.length - i ∧ ∃ (i d f : Nat) (st : Su65Neutral.S) (L : Lay) (given : List Int) (cs : List (List (List Int))) (v4 v5 v6 : Option V), m' = ns.length - i ∧ σ' = [some (.ref a), some (.ref x), some (.ref l1), some (.int (i : Int)), v4, v5, v6] ∧ i ≤ ns.length ∧
      PyFlat.calls PySu65.shape f (ns.drop i) = some cs ∧ (∀ c ∈ cs, Su65Neutral.asked1 ((PySu65.whole c).headD []) = true) ∧ given ++ PyFlat.told (PyFlat.played stp st (cs.map PySu65.whole)) = PySu65.answers ns ∧ StOk st ∧ d + cs.length ≤ 400 ∧ given.length ≤ d * 21 ∧
      WAt C (upd H l1 (.lst (given.map V.int))) H2 x (toMo st) L, fun σ' H2 h => h, ?_⟩
    refine ⟨_, rfl, _, rfl, a, ns, i, k, n, rfl, hsq, hk, hk20, hn5, fun t H2 ht s2 h2 => ?_⟩
    rw [← ess, ← ese] at h2
    refine ⟨t, _, rfl, SqT.of h2, rfl, _, _, rfl, _, _, rfl, rfl, ?_⟩
    have W2 := W.mono s2
    have hsq2 := s2.seq hsq
    have hat : atI (ns.map V.int) (i : Int) = some (.int (k : Int)) := atI_nat (by rw [List.getElem?_map, hk]; rfl)
    refine ⟨_, rfl, _, rfl, _, rfl, a, _, _, _, rfl, rfl, hsq2, hat, _, rfl, _, rfl, _, rfl, _, rfl, _, rfl, a, _, rfl, hsq2, fun b hb => ?_⟩
    have s3 := same_new (o := HO.lst (cutV (ns.map V.int) (some (ss : Int)) (some ((ss : Int) + (ln : Int))))) hb
    have ecut : cutV (ns.map V.int) (some (ss : Int)) (some ((ss : Int) + (ln : Int))) = ((ns.drop ss).take ln).map V.int := by
      rw [cut_both _ _ _ (by rw [List.length_map]; exact hsl), List.map_take, List.map_drop]
    rw [ecut] at s3 ⊢
    have W3 := W2.mono s3
    refine ⟨x, b, k, toMo st, L, _, (ns.drop ss).take ln, rfl, W3, st_cases hst, SqL.of upd_same, hk20, b1, b2, b3, fun H4 p4 L4 W4 hp4 e4 => ?_⟩
    rw [em] at W4 e4
    have gl : upd H l1 (.lst (given.map V.int)) l1 = some (.lst (given.map V.int)) := upd_same
    have h4 := W4.same _ _ gl
    have h3 := W3.same _ _ gl
    have npl : p4 ≠ l1 := fun e => by rw [e, h3] at hp4; cases hp4
    have gbig : given.length + 30 ≤ 100000 := by omega
    refine ⟨_, rfl, .inl ⟨rfl, _, SqL.of h4⟩, _, rfl, p4, _, rfl, .inl (SqL.of e4), l1, _, _, rfl, rfl, h4, big' (by rw [List.length_map]; omega), ?_⟩
    have W5 := W4.given (o := .lst (given.map V.int ++ [.int ((((Su65Neutral.step st ((k : Int) :: (ns.drop ss).take ln)).2).map V.int).length : Int)])) gl
    have e5 := e4
    refine ⟨_, rfl, .inl ⟨rfl, _, SqL.of upd_same⟩, _, rfl, l1, p4, _, _, rfl, rfl, upd_same, by rw [upd_ne npl]; exact e4, big (by simp only [List.length_map, List.length_append, List.length_cons, List.length_nil]; omega), ?_⟩
    have W6 := W5.given (o := .lst ((given.map V.int ++ [.int ((((Su65Neutral.step st ((k : Int) :: (ns.drop ss).take ln)).2).map V.int).length : Int)]) ++ ((Su65Neutral.step st ((k : Int) :: (ns.drop ss).take ln)).2).map V.int)) upd_same
    refine ⟨_, rfl, ns.length - (ss + ln), by omega, ss + ln, d + 1, f2, _, L4, given ++ (((Su65Neutral.step st ((k : Int) :: (ns.drop ss).take ln)).2.length : Int) :: (Su65Neutral.step st ((k : Int) :: (ns.drop ss).take ln)).2), cs', some (.int (ss : Int)), some (.int ((ss : Int) + (ln : Int))), some (.ref p4), rfl, ?_, hsl, hcs', fun c hc => hac c (List.mem_cons_of_mem _ hc), ?_, st2, by omega, ?_, ?_⟩
    · have ei : (((ss + ln : Nat) : Int)) = (ss : Int) + (ln : Int) := by omega
      rw [ei]
      rfl
    · rw [← heq, List.map_cons]
      show _ = given ++ PyFlat.told ((stp st (PySu65.whole c)).2 :: PyFlat.played stp (stp st (PySu65.whole c)).1 (cs'.map PySu65.whole))
      have e7 : stp st (PySu65.whole c) = Su65Neutral.step st ((k : Int) :: (ns.drop ss).take ln) := by
        show Su65Neutral.step st ((PySu65.whole c).headD []) = _
        rw [ew]
      rw [e7, told_cons, List.append_assoc]
    · rw [List.length_append, List.length_cons]
      omega
    · simp only [upd_upd] at W6 ⊢
      have e8 : (given.map V.int ++ [V.int ((((Su65Neutral.step st ((k : Int) :: (ns.drop ss).take ln)).2).map V.int).length : Int)]) ++ ((Su65Neutral.step st ((k : Int) :: (ns.drop ss).take ln)).2).map V.int
          = (given ++ (((Su65Neutral.step st ((k : Int) :: (ns.drop ss).take ln)).2.length : Int) :: (Su65Neutral.step st ((k : Int) :: (ns.drop ss).take ln)).2)).map V.int := by
        rw [List.length_map]
        simp
      rw [e8] at W6
      exact e8 ▸ W6
  · have c : i = ns.length := by
      have : ¬ (i : Int) < (ns.length : Int) := fun h => c (decide_eq_true h)
      omega
    subst c
    rw [List.drop_length] at hcs
    have ecs := calls_nil hcs
    subst ecs
    have eg : given = PySu65.answers ns := by
      rw [← heq]
      show given = given ++ []
      rw [List.append_nil]
    refine ⟨_, rfl, q H' l1 ?_⟩
    rw [← eg]
    exact W.same _ _ upd_same
end
end Bp
namespace Bp
open PySem PySem.Spec PyProof.Rows L2
/-- all that the top has written -/
structure Facts (K : PySem.W.Frag) (mg : Str → Option Value) (C : Cs) (aT : Addr) : Prop where
  T : Txt K mg C aT
  f_apart : Gf K mg "apart" sApart
  f_turned : Gf K mg "turned" sTurned
  f_meeting_turns : Gf K mg "meeting_turns" sMeet
  f_nearness : Gf K mg "nearness" sNear
  f_nearness_of_plies : Gf K mg "nearness_of_plies" sAdj
  f_nearness_by_turn : Gf K mg "nearness_by_turn" sByT
  f_least : Gf K mg "least" sLeast
  f_best : Gf K mg "best" sBest
  f_fits : Gf K mg "fits" sFits
  f_near : Gf K mg "near" sNe
  f_is_width : Gf K mg "is_width" sIsW
  f_covered : Gf K mg "covered" sCov
  f_taken : Gf K mg "taken" sTak
  f_pieces_round : Gf K mg "pieces_round" sPiR
  f_starts_of : Gf K mg "starts_of" sStarts
  f_most : Gf K mg "most" sMost
  f_piece : Gf K mg "piece" sPiece
  f_rest : Gf K mg "rest" sRest
  f_sums : Gf K mg "sums" sSums
  f_state : Gf K mg "state" sState
  f_is_triangle : Gf K mg "is_triangle" sTri
  f_begin : Gf K mg "begin" sBegin
  f_roll : Gf K mg "roll" sRoll
  f_ply : Gf K mg "ply" sPly
  f_lay : Gf K mg "lay" sLay
  f_lift : Gf K mg "lift" sLift
  f_row : Gf K mg "row" sRow
  f_lift_again : Gf K mg "lift_again" sLA
  f_all_laid : Gf K mg "all_laid" sAll
  f_splices : Gf K mg "splices" sSpl
  f_where : Gf K mg "where" sWhere
  f_look : Gf K mg "look" sLook
  f_at_place : Gf K mg "at_place" sAt
  f_told_span : Gf K mg "told_span" sSpan
  f_answer_of : Gf K mg "answer_of" sAO
  m_is_laid : Gm K C.P "is_laid" "Ply.is_laid" sLaid
  m_places : Gm K C.P "places" "Ply.places" sPlaces
  m_has_roll : Gm K C.W "has_roll" "Works.has_roll" sHasR
  m_has_ply : Gm K C.W "has_ply" "Works.has_ply" sHasP
  m_laid_numbers : Gm K C.W "laid_numbers" "Works.laid_numbers" sLN
  m_laid_count : Gm K C.W "laid_count" "Works.laid_count" sLC
  m_cover_of : Gm K C.W "cover_of" "Works.cover_of" sCO
  m_pieces_of : Gm K C.W "pieces_of" "Works.pieces_of" sPO
  m_taken_by : Gm K C.W "taken_by" "Works.taken_by" sTB
  m_meets_of_others : Gm K C.W "meets_of_others" "Works.meets_of_others" sMO
  m_nearness_to_others : Gm K C.W "nearness_to_others" "Works.nearness_to_others" sTO
  m_nearness_by_turns : Gm K C.W "nearness_by_turns" "Works.nearness_by_turns" sBTs
  m_least_turn : Gm K C.W "least_turn" "Works.least_turn" sLT
  i_Roll : ∃ f fd, Fun K "__init__" "Roll.__init__" sRI f fd ∧ Mk K C.R f ∧ mg "Roll" = some (.ref C.R)
  i_Ply : ∃ f fd, Fun K "__init__" "Ply.__init__" sPI f fd ∧ Mk K C.P f ∧ mg "Ply" = some (.ref C.P)
  i_Works : ∃ f fd, Fun K "__init__" "Works.__init__" sWI f fd ∧ Mk K C.W f ∧ mg "Works" = some (.ref C.W)
theorem all_ok {P : Program} {w : World} {K : PySem.W.Frag} {mg : Str → Option Value} {base : Heap} {C : Cs} {aT : Addr} {f : Addr} {fd : FuncData} (A : Facts K mg C aT) (F : Fun K "answers" "answers" sAns f fd) : FnOk P w K mg base CX0 8 f fd ["calls"] (spAns K) := by
  have T := A.T
  have apart := k_apart (P := P) (w := w) (base := base) T A.f_apart
  have turned := k_turned (P := P) (w := w) (base := base) A.f_turned
  have meet := k_meeting (P := P) (w := w) (base := base) T A.f_meeting_turns
  have nearn := k_nearness T A.f_nearness apart
  have adj := k_adj T A.f_nearness_of_plies apart
  have byt := k_byturn (P := P) (w := w) (base := base) T A.f_nearness_by_turn
  have isw := k_isw (P := P) (w := w) (base := base) A.f_is_width
  have cov := k_cov (P := P) (w := w) (base := base) A.f_covered
  have tak := k_tak (P := P) (w := w) (base := base) A.f_taken
  have pir := k_pieces (P := P) (w := w) (base := base) A.f_pieces_round
  have sta := k_starts (P := P) (w := w) (base := base) A.f_starts_of
  have iR := k_ri (P := P) (w := w) (base := base) T A.i_Roll
  have iP := k_pi (P := P) (w := w) (base := base) T A.i_Ply
  have iW := k_wi (P := P) (w := w) (base := base) T A.i_Works
  have laid := k_laid (P := P) (w := w) (base := base) T A.m_is_laid
  have places := k_places T A.m_places turned
  have hasR := k_hasr (P := P) (w := w) (base := base) T A.m_has_roll
  have hasP := k_hasp (P := P) (w := w) (base := base) T A.m_has_ply
  have ln := k_ln T A.m_laid_numbers laid
  have lc := k_lc T A.m_laid_count ln
  have co := k_co T A.m_cover_of cov
  have po := k_po T A.m_pieces_of co pir
  have tb := k_tb T A.m_taken_by tak
  have mo := k_mo T A.m_meets_of_others laid places meet
  have to := k_to T A.m_nearness_to_others mo nearn
  have bts := k_bts T A.m_nearness_by_turns mo byt
  have lt := k_lt T A.m_least_turn bts
  have tri := k_tri (P := P) (w := w) (base := base) A.f_is_triangle
  have la := k_la (P := P) (w := w) (base := base) T A.f_lift_again
  have span := k_span (P := P) (w := w) (base := base) T A.f_told_span
  have ao := k_ao T A.f_answer_of ⟨k_begin T A.f_begin tri, k_roll T A.f_roll iR, k_ply T A.f_ply hasR isw po tb sta iP, k_lay T A.f_lay hasP laid to lc, k_lift T A.f_lift hasP laid, k_row T A.f_row hasP laid lt la, k_least T A.f_least hasP laid lt,
    k_best T A.f_best hasP laid lc bts, k_fits T A.f_fits hasP to, k_near T A.f_near hasP laid places meet nearn, k_all T A.f_all_laid ln places adj, k_splices T A.f_splices hasP, k_where T A.f_where hasP laid places, k_most T A.f_most hasR isw po tb,
    k_piece T A.f_piece isw co po, k_look T A.f_look hasP laid, k_rest T A.f_rest hasR, k_at T A.f_at_place ln places nearn, k_sums T A.f_sums, k_state T A.f_state lc⟩
  exact ok_ans T F iW span ao
section
variable {mg : Str → Option Value} {h : Heap} {K : PySem.W.Frag}
theorem gf_mk {x : Str} {st : Stmt} {f : Addr} {oc : Value} {od an : Option Addr} {osl : Array (Option Value)} {kV doc pm cdv ct : Value} (X : K.In h) (G : h.Ns mainGlobals mg) (a : PySem.W.nsIn K mainGlobals x = some (some (.ref f)))
    (l : K.lookup f = some ⟨oc, od, .func (PySem.W.fnOf x x (defArgs st) (defBody st) (defScope st) .none kV doc pm an cdv ct), osl⟩) (c : PySem.W.codeIn K cdv x = true) (k : PySem.W.keepIn K (.ref f) = true) : Gf K mg x st :=
  ⟨f, _, fun_mk l c k, PySem.W.mg_of X G a⟩
theorem gm_mk {C f : Addr} {x qual : Str} {st : Stmt} {oc : Value} {od an : Option Addr} {osl : Array (Option Value)} {kV doc pm cdv ct : Value} (X : K.In h) (a : PySem.W.findIn K (.ref C) x = some (some (.ref f))) (i : PySem.W.isFn K (.ref f) = true)
    (l : K.lookup f = some ⟨oc, od, .func (PySem.W.fnOf x qual (defArgs st) (defBody st) (defScope st) .none kV doc pm an cdv ct), osl⟩) (c : PySem.W.codeIn K cdv qual = true) (k : PySem.W.keepIn K (.ref f) = true) : Gm K C x qual st :=
  ⟨f, _, fun_mk l c k, a, i, k⟩
theorem gi_mk {C f : Addr} {qual xc : Str} {st : Stmt} {oc : Value} {od an : Option Addr} {osl : Array (Option Value)} {kV doc pm cdv ct : Value} (X : K.In h) (gC : mg xc = some (.ref C)) (a : PySem.W.findIn K (.ref C) "__init__" = some (some (.ref f))) (i : PySem.W.isFn K (.ref f) = true)
    (l : K.lookup f = some ⟨oc, od, .func (PySem.W.fnOf "__init__" qual (defArgs st) (defBody st) (defScope st) .none kV doc pm an cdv ct), osl⟩) (c : PySem.W.codeIn K cdv qual = true) (k : PySem.W.keepIn K (.ref f) = true) (mk : PySem.W.makesIn K C = true) (kc : PySem.W.keepIn K (.ref C) = true) :
    ∃ f fd, Fun K "__init__" qual st f fd ∧ Mk K C f ∧ mg xc = some (.ref C) := ⟨f, _, fun_mk l c k, ⟨mk, a, i, kc⟩, gC⟩
theorem gn_mk {x : Str} {i : Int} {t : Tok} (X : K.In h) (G : h.Ns mainGlobals mg) (a : PySem.W.nsIn K mainGlobals x = some (some (.int i t))) : ∃ t, mg x = some (.int i t) := ⟨t, PySem.W.mg_of X G a⟩
theorem txt_mk {C : Cs} {aT : Addr} {od : Option Addr} {its : Array Value} {n : Nat} {sl : Array (Option Value)} {t0 t1 t2 t3 t4 t5 t6 t7 t8 t9 t10 t11 t12 : Tok} (X : K.In h) (G : h.Ns mainGlobals mg)
    (pgR : PySem.W.plainGet K C.R Str.empty = true) (hdR : PySem.W.hasDictIn K C.R = true) (poR : PySem.W.plainOver K C.R = true) (saR : PySem.W.findIn K (.ref C.R) "__setattr__" = some (some (.builtin "object.__setattr__")))
    (pgP : PySem.W.plainGet K C.P Str.empty = true) (hdP : PySem.W.hasDictIn K C.P = true) (poP : PySem.W.plainOver K C.P = true) (saP : PySem.W.findIn K (.ref C.P) "__setattr__" = some (some (.builtin "object.__setattr__")))
    (pgW : PySem.W.plainGet K C.W Str.empty = true) (hdW : PySem.W.hasDictIn K C.W = true) (poW : PySem.W.plainOver K C.W = true) (saW : PySem.W.findIn K (.ref C.W) "__setattr__" = some (some (.builtin "object.__setattr__")))
    (rw : PySem.W.findIn K (.ref C.R) "width" = some none)
    (rl : PySem.W.findIn K (.ref C.R) "length" = some none)
    (rf : PySem.W.findIn K (.ref C.R) "left" = some none)
    (ps : PySem.W.findIn K (.ref C.P) "source" = some none)
    (pw : PySem.W.findIn K (.ref C.P) "width" = some none)
    (pt : PySem.W.findIn K (.ref C.P) "starts" = some none)
    (pu : PySem.W.findIn K (.ref C.P) "turn" = some none)
    (wb : PySem.W.findIn K (.ref C.W) "begun" = some none)
    (wa : PySem.W.findIn K (.ref C.W) "a" = some none)
    (wc : PySem.W.findIn K (.ref C.W) "c" = some none)
    (wg : PySem.W.findIn K (.ref C.W) "girth" = some none)
    (wn : PySem.W.findIn K (.ref C.W) "nearest" = some none)
    (ws : PySem.W.findIn K (.ref C.W) "shortest" = some none)
    (wr : PySem.W.findIn K (.ref C.W) "rolls" = some none)
    (wp : PySem.W.findIn K (.ref C.W) "plies" = some none)
    (nNS : PySem.W.nsIn K mainGlobals "NO_SUCH" = some (some (.int (-2) t0)))
    (nNL : PySem.W.nsIn K mainGlobals "NOT_LAID" = some (some (.int (-6) t1)))
    (nNB : PySem.W.nsIn K mainGlobals "NOT_BEGUN" = some (some (.int (-11) t2)))
    (nTL : PySem.W.nsIn K mainGlobals "TOO_LITTLE" = some (some (.int (-12) t3)))
    (nAL : PySem.W.nsIn K mainGlobals "ALREADY" = some (some (.int (-17) t4)))
    (nOR : PySem.W.nsIn K mainGlobals "OUT_OF_RANGE" = some (some (.int (-22) t5)))
    (nTM : PySem.W.nsIn K mainGlobals "TOO_MANY" = some (some (.int (-28) t6)))
    (nCB : PySem.W.nsIn K mainGlobals "CANNOT_BE" = some (some (.int (-33) t7)))
    (nTN : PySem.W.nsIn K mainGlobals "TOO_NEAR" = some (some (.int (-40) t8)))
    (nMR : PySem.W.nsIn K mainGlobals "MOST_ROLLS" = some (some (.int (10) t9)))
    (nMP : PySem.W.nsIn K mainGlobals "MOST_PLIES" = some (some (.int (12) t10)))
    (nBG : PySem.W.nsIn K mainGlobals "BEGIN" = some (some (.int (0) t11)))
    (nRW : PySem.W.nsIn K mainGlobals "ROW" = some (some (.int (5) t12)))
    (bmin : PySem.W.nsIn K mainGlobals "min" = some none)
    (bmax : PySem.W.nsIn K mainGlobals "max" = some none)
    (bsorted : PySem.W.nsIn K mainGlobals "sorted" = some none)
    (bzip : PySem.W.nsIn K mainGlobals "zip" = some none)
    (brange : PySem.W.nsIn K mainGlobals "range" = some none)
    (blen : PySem.W.nsIn K mainGlobals "len" = some none)
    (bsum : PySem.W.nsIn K mainGlobals "sum" = some none)
    (benumerate : PySem.W.nsIn K mainGlobals "enumerate" = some none)
    (bset : PySem.W.nsIn K mainGlobals "set" = some none)
    (ball : PySem.W.nsIn K mainGlobals "all" = some none)
    (bany : PySem.W.nsIn K mainGlobals "any" = some none)
    (told : PySem.W.nsIn K mainGlobals "TOLD" = some (some (.ref aT))) (lT : K.lookup aT = some ⟨.type "tuple", od, .seq its n, sl⟩) (sz : its.size ≤ sizeLine) (vt : Vals toldV its.toList) : Txt K mg C aT where
  clR := ⟨pgR, hdR, poR, saR⟩
  clP := ⟨pgP, hdP, poP, saP⟩
  clW := ⟨pgW, hdW, poW, saW⟩
  rw := rw
  rl := rl
  rf := rf
  ps := ps
  pw := pw
  pt := pt
  pu := pu
  wb := wb
  wa := wa
  wc := wc
  wg := wg
  wn := wn
  ws := ws
  wr := wr
  wp := wp
  nNS := gn_mk X G nNS
  nNL := gn_mk X G nNL
  nNB := gn_mk X G nNB
  nTL := gn_mk X G nTL
  nAL := gn_mk X G nAL
  nOR := gn_mk X G nOR
  nTM := gn_mk X G nTM
  nCB := gn_mk X G nCB
  nTN := gn_mk X G nTN
  nMR := gn_mk X G nMR
  nMP := gn_mk X G nMP
  nBG := gn_mk X G nBG
  nRW := gn_mk X G nRW
  told := PySem.W.mg_of X G told
  toldT := fun H => .inr ⟨_, its, n, lT, rfl, rfl, sz, vt⟩
  bmin := PySem.W.mg_none_of X G bmin
  bmax := PySem.W.mg_none_of X G bmax
  bsorted := PySem.W.mg_none_of X G bsorted
  bzip := PySem.W.mg_none_of X G bzip
  brange := PySem.W.mg_none_of X G brange
  blen := PySem.W.mg_none_of X G blen
  bsum := PySem.W.mg_none_of X G bsum
  benum := PySem.W.mg_none_of X G benumerate
  bset := PySem.W.mg_none_of X G bset
  ball := PySem.W.mg_none_of X G ball
  bany := PySem.W.mg_none_of X G bany
theorem all_mk {P : Program} {w : World} {CR CP CW aT fa f : Addr} {oc : Value} {od an : Option Addr} {osl : Array (Option Value)} {kV doc pm cdv ct : Value} (X : K.In h) (G : h.Ns mainGlobals mg) (hfa : mg "answers" = some (.ref fa))
    (aR : PySem.W.nsIn K mainGlobals "Roll" = some (some (.ref CR))) (aP : PySem.W.nsIn K mainGlobals "Ply" = some (some (.ref CP))) (aW : PySem.W.nsIn K mainGlobals "Works" = some (some (.ref CW))) (aTT : PySem.W.nsIn K mainGlobals "TOLD" = some (some (.ref aT)))
    (a : PySem.W.nsIn K mainGlobals "answers" = some (some (.ref f))) (l : K.lookup f = some ⟨oc, od, .func (PySem.W.fnOf "answers" "answers" (defArgs sAns) (defBody sAns) (defScope sAns) .none kV doc pm an cdv ct), osl⟩) (c : PySem.W.codeIn K cdv "answers" = true) (k : PySem.W.keepIn K (.ref f) = true)
    (fs : mg "Roll" = some (.ref CR) → mg "Ply" = some (.ref CP) → mg "Works" = some (.ref CW) → Facts K mg ⟨CR, CP, CW⟩ aT) :
    ∃ fd : FuncData, (∀ (s : Shared) (us : List Value), us.length = (["calls"] : List Str).length → BindsTo s fd ⟨us, []⟩ ((["calls"] : List Str).zip us)) ∧ ∀ base : Heap, K.In base → base.Ns mainGlobals mg → FnOk P w K mg base CX0 8 fa fd ["calls"] (spAns K) := by
  have e := hfa.symm.trans (PySem.W.mg_of X G a)
  cases e
  exact ⟨PySem.W.fnOf "answers" "answers" (defArgs sAns) (defBody sAns) (defScope sAns) .none kV doc pm an cdv ct, fun s us hu => match us, hu with | [_], _ => .of_eq rfl, fun base _ _ => all_ok (fs (PySem.W.mg_of X G aR) (PySem.W.mg_of X G aP) (PySem.W.mg_of X G aW)) (fun_mk l c k)⟩
end
end Bp
open PySem PySem.W PyProof.Rows
set_option maxRecDepth 100000 in
set_option maxHeartbeats 0 in
theorem PySem.Challenge.cw_biasplies_s01_answers_holds : PySem.Challenge.rw_biasplies_s01_answers.Holds := by
  w_on; k_headS; (case hw => exact ⟨[.list [.int 19]], by decide +kernel, by decide +kernel⟩)
  k_fillS
  refine L2.walk_specK (r := PySem.Challenge.rw_biasplies_s01_answers) (k := 8) (CX := L2.CX0) (ps := ["calls"]) (sp := Bp.spAns) (by decide +kernel) rfl rfl ⟨rfl, by decide, by decide⟩ (fun w h Y => PySem.W.kIn_of Y) ?F ?S (fun _ _ _ _ z => z)
  case F =>
    intro w mg fa h Y KX G hmg
    refine' Bp.all_mk KX G hmg ?aR ?aP ?aW ?aT ?a ?l ?c ?k ?fs
    (case aR => k_is); (case aP => k_is); (case aW => k_is); (case aT => k_is); (case a => k_is); (case l => k_is); (case c => k_is); (case k => k_is)
    case fs =>
      intro gR gP gW
      refine' { T := ?T, f_apart := ?f_apart, f_turned := ?f_turned, f_meeting_turns := ?f_meeting_turns, f_nearness := ?f_nearness, f_nearness_of_plies := ?f_nearness_of_plies, f_nearness_by_turn := ?f_nearness_by_turn, f_least := ?f_least, f_best := ?f_best, f_fits := ?f_fits, f_near := ?f_near, f_is_width := ?f_is_width, f_covered := ?f_covered, f_taken := ?f_taken, f_pieces_round := ?f_pieces_round, f_starts_of := ?f_starts_of, f_most := ?f_most, f_piece := ?f_piece, f_rest := ?f_rest, f_sums := ?f_sums, f_state := ?f_state, f_is_triangle := ?f_is_triangle, f_begin := ?f_begin, f_roll := ?f_roll, f_ply := ?f_ply, f_lay := ?f_lay, f_lift := ?f_lift, f_row := ?f_row, f_lift_again := ?f_lift_again, f_all_laid := ?f_all_laid, f_splices := ?f_splices, f_where := ?f_where, f_look := ?f_look, f_at_place := ?f_at_place, f_told_span := ?f_told_span, f_answer_of := ?f_answer_of, m_is_laid := ?m_is_laid, m_places := ?m_places, m_has_roll := ?m_has_roll, m_has_ply := ?m_has_ply, m_laid_numbers := ?m_laid_numbers, m_laid_count := ?m_laid_count, m_cover_of := ?m_cover_of, m_pieces_of := ?m_pieces_of, m_taken_by := ?m_taken_by, m_meets_of_others := ?m_meets_of_others, m_nearness_to_others := ?m_nearness_to_others, m_nearness_by_turns := ?m_nearness_by_turns, m_least_turn := ?m_least_turn, i_Roll := ?i_Roll, i_Ply := ?i_Ply, i_Works := ?i_Works }
      case T =>
        refine' Bp.txt_mk KX G ?p0 ?p1 ?p2 ?p3 ?p4 ?p5 ?p6 ?p7 ?p8 ?p9 ?p10 ?p11 ?p12 ?p13 ?p14 ?p15 ?p16 ?p17 ?p18 ?p19 ?p20 ?p21 ?p22 ?p23 ?p24 ?p25 ?p26 ?p27 ?p28 ?p29 ?p30 ?p31 ?p32 ?p33 ?p34 ?p35 ?p36 ?p37 ?p38 ?p39 ?p40 ?p41 ?p42 ?p43 ?p44 ?p45 ?p46 ?p47 ?p48 ?p49 ?p50 ?told ?lT ?sz ?vt
        (case p0 => k_is)
        (case p1 => k_is)
        (case p2 => k_is)
        (case p3 => k_is)
        (case p4 => k_is)
        (case p5 => k_is)
        (case p6 => k_is)
        (case p7 => k_is)
        (case p8 => k_is)
        (case p9 => k_is)
        (case p10 => k_is)
        (case p11 => k_is)
        (case p12 => k_is)
        (case p13 => k_is)
        (case p14 => k_is)
        (case p15 => k_is)
        (case p16 => k_is)
        (case p17 => k_is)
        (case p18 => k_is)
        (case p19 => k_is)
        (case p20 => k_is)
        (case p21 => k_is)
        (case p22 => k_is)
        (case p23 => k_is)
        (case p24 => k_is)
        (case p25 => k_is)
        (case p26 => k_is)
        (case p27 => k_is)
        (case p28 => k_is)
        (case p29 => k_is)
        (case p30 => k_is)
        (case p31 => k_is)
        (case p32 => k_is)
        (case p33 => k_is)
        (case p34 => k_is)
        (case p35 => k_is)
        (case p36 => k_is)
        (case p37 => k_is)
        (case p38 => k_is)
        (case p39 => k_is)
        (case p40 => k_is)
        (case p41 => k_is)
        (case p42 => k_is)
        (case p43 => k_is)
        (case p44 => k_is)
        (case p45 => k_is)
        (case p46 => k_is)
        (case p47 => k_is)
        (case p48 => k_is)
        (case p49 => k_is)
        (case p50 => k_is)
        (case told => k_is); (case lT => k_is); (case sz => decide)
        (case vt => exact (.cons ⟨_, rfl⟩ (.cons ⟨_, rfl⟩ (.cons ⟨_, rfl⟩ (.cons ⟨_, rfl⟩ (.cons ⟨_, rfl⟩ (.cons rfl (.cons ⟨_, rfl⟩ (.cons ⟨_, rfl⟩ (.cons ⟨_, rfl⟩ (.cons ⟨_, rfl⟩ (.cons ⟨_, rfl⟩ (.cons ⟨_, rfl⟩ (.cons ⟨_, rfl⟩ (.cons ⟨_, rfl⟩ (.cons ⟨_, rfl⟩ (.cons ⟨_, rfl⟩ (.cons ⟨_, rfl⟩ (.cons ⟨_, rfl⟩ (.cons ⟨_, rfl⟩ (.cons ⟨_, rfl⟩ .nil)))))))))))))))))))))
      case f_apart => (refine' Bp.gf_mk KX G ?a ?l ?c ?k; (case a => k_is); (case l => k_is); (case c => k_is); (case k => k_is))
      case f_turned => (refine' Bp.gf_mk KX G ?a ?l ?c ?k; (case a => k_is); (case l => k_is); (case c => k_is); (case k => k_is))
      case f_meeting_turns => (refine' Bp.gf_mk KX G ?a ?l ?c ?k; (case a => k_is); (case l => k_is); (case c => k_is); (case k => k_is))
      case f_nearness => (refine' Bp.gf_mk KX G ?a ?l ?c ?k; (case a => k_is); (case l => k_is); (case c => k_is); (case k => k_is))
      case f_nearness_of_plies => (refine' Bp.gf_mk KX G ?a ?l ?c ?k; (case a => k_is); (case l => k_is); (case c => k_is); (case k => k_is))
      case f_nearness_by_turn => (refine' Bp.gf_mk KX G ?a ?l ?c ?k; (case a => k_is); (case l => k_is); (case c => k_is); (case k => k_is))
      case f_least => (refine' Bp.gf_mk KX G ?a ?l ?c ?k; (case a => k_is); (case l => k_is); (case c => k_is); (case k => k_is))
      case f_best => (refine' Bp.gf_mk KX G ?a ?l ?c ?k; (case a => k_is); (case l => k_is); (case c => k_is); (case k => k_is))
      case f_fits => (refine' Bp.gf_mk KX G ?a ?l ?c ?k; (case a => k_is); (case l => k_is); (case c => k_is); (case k => k_is))
      case f_near => (refine' Bp.gf_mk KX G ?a ?l ?c ?k; (case a => k_is); (case l => k_is); (case c => k_is); (case k => k_is))
      case f_is_width => (refine' Bp.gf_mk KX G ?a ?l ?c ?k; (case a => k_is); (case l => k_is); (case c => k_is); (case k => k_is))
      case f_covered => (refine' Bp.gf_mk KX G ?a ?l ?c ?k; (case a => k_is); (case l => k_is); (case c => k_is); (case k => k_is))
      case f_taken => (refine' Bp.gf_mk KX G ?a ?l ?c ?k; (case a => k_is); (case l => k_is); (case c => k_is); (case k => k_is))
      case f_pieces_round => (refine' Bp.gf_mk KX G ?a ?l ?c ?k; (case a => k_is); (case l => k_is); (case c => k_is); (case k => k_is))
      case f_starts_of => (refine' Bp.gf_mk KX G ?a ?l ?c ?k; (case a => k_is); (case l => k_is); (case c => k_is); (case k => k_is))
      case f_most => (refine' Bp.gf_mk KX G ?a ?l ?c ?k; (case a => k_is); (case l => k_is); (case c => k_is); (case k => k_is))
      case f_piece => (refine' Bp.gf_mk KX G ?a ?l ?c ?k; (case a => k_is); (case l => k_is); (case c => k_is); (case k => k_is))
      case f_rest => (refine' Bp.gf_mk KX G ?a ?l ?c ?k; (case a => k_is); (case l => k_is); (case c => k_is); (case k => k_is))
      case f_sums => (refine' Bp.gf_mk KX G ?a ?l ?c ?k; (case a => k_is); (case l => k_is); (case c => k_is); (case k => k_is))
      case f_state => (refine' Bp.gf_mk KX G ?a ?l ?c ?k; (case a => k_is); (case l => k_is); (case c => k_is); (case k => k_is))
      case f_is_triangle => (refine' Bp.gf_mk KX G ?a ?l ?c ?k; (case a => k_is); (case l => k_is); (case c => k_is); (case k => k_is))
      case f_begin => (refine' Bp.gf_mk KX G ?a ?l ?c ?k; (case a => k_is); (case l => k_is); (case c => k_is); (case k => k_is))
      case f_roll => (refine' Bp.gf_mk KX G ?a ?l ?c ?k; (case a => k_is); (case l => k_is); (case c => k_is); (case k => k_is))
      case f_ply => (refine' Bp.gf_mk KX G ?a ?l ?c ?k; (case a => k_is); (case l => k_is); (case c => k_is); (case k => k_is))
      case f_lay => (refine' Bp.gf_mk KX G ?a ?l ?c ?k; (case a => k_is); (case l => k_is); (case c => k_is); (case k => k_is))
      case f_lift => (refine' Bp.gf_mk KX G ?a ?l ?c ?k; (case a => k_is); (case l => k_is); (case c => k_is); (case k => k_is))
      case f_row => (refine' Bp.gf_mk KX G ?a ?l ?c ?k; (case a => k_is); (case l => k_is); (case c => k_is); (case k => k_is))
      case f_lift_again => (refine' Bp.gf_mk KX G ?a ?l ?c ?k; (case a => k_is); (case l => k_is); (case c => k_is); (case k => k_is))
      case f_all_laid => (refine' Bp.gf_mk KX G ?a ?l ?c ?k; (case a => k_is); (case l => k_is); (case c => k_is); (case k => k_is))
      case f_splices => (refine' Bp.gf_mk KX G ?a ?l ?c ?k; (case a => k_is); (case l => k_is); (case c => k_is); (case k => k_is))
      case f_where => (refine' Bp.gf_mk KX G ?a ?l ?c ?k; (case a => k_is); (case l => k_is); (case c => k_is); (case k => k_is))
      case f_look => (refine' Bp.gf_mk KX G ?a ?l ?c ?k; (case a => k_is); (case l => k_is); (case c => k_is); (case k => k_is))
      case f_at_place => (refine' Bp.gf_mk KX G ?a ?l ?c ?k; (case a => k_is); (case l => k_is); (case c => k_is); (case k => k_is))
      case f_told_span => (refine' Bp.gf_mk KX G ?a ?l ?c ?k; (case a => k_is); (case l => k_is); (case c => k_is); (case k => k_is))
      case f_answer_of => (refine' Bp.gf_mk KX G ?a ?l ?c ?k; (case a => k_is); (case l => k_is); (case c => k_is); (case k => k_is))
      case m_is_laid => (refine' Bp.gm_mk KX ?a ?i ?l ?c ?k; (case a => k_is); (case i => k_is); (case l => k_is); (case c => k_is); (case k => k_is))
      case m_places => (refine' Bp.gm_mk KX ?a ?i ?l ?c ?k; (case a => k_is); (case i => k_is); (case l => k_is); (case c => k_is); (case k => k_is))
      case m_has_roll => (refine' Bp.gm_mk KX ?a ?i ?l ?c ?k; (case a => k_is); (case i => k_is); (case l => k_is); (case c => k_is); (case k => k_is))
      case m_has_ply => (refine' Bp.gm_mk KX ?a ?i ?l ?c ?k; (case a => k_is); (case i => k_is); (case l => k_is); (case c => k_is); (case k => k_is))
      case m_laid_numbers => (refine' Bp.gm_mk KX ?a ?i ?l ?c ?k; (case a => k_is); (case i => k_is); (case l => k_is); (case c => k_is); (case k => k_is))
      case m_laid_count => (refine' Bp.gm_mk KX ?a ?i ?l ?c ?k; (case a => k_is); (case i => k_is); (case l => k_is); (case c => k_is); (case k => k_is))
      case m_cover_of => (refine' Bp.gm_mk KX ?a ?i ?l ?c ?k; (case a => k_is); (case i => k_is); (case l => k_is); (case c => k_is); (case k => k_is))
      case m_pieces_of => (refine' Bp.gm_mk KX ?a ?i ?l ?c ?k; (case a => k_is); (case i => k_is); (case l => k_is); (case c => k_is); (case k => k_is))
      case m_taken_by => (refine' Bp.gm_mk KX ?a ?i ?l ?c ?k; (case a => k_is); (case i => k_is); (case l => k_is); (case c => k_is); (case k => k_is))
      case m_meets_of_others => (refine' Bp.gm_mk KX ?a ?i ?l ?c ?k; (case a => k_is); (case i => k_is); (case l => k_is); (case c => k_is); (case k => k_is))
      case m_nearness_to_others => (refine' Bp.gm_mk KX ?a ?i ?l ?c ?k; (case a => k_is); (case i => k_is); (case l => k_is); (case c => k_is); (case k => k_is))
      case m_nearness_by_turns => (refine' Bp.gm_mk KX ?a ?i ?l ?c ?k; (case a => k_is); (case i => k_is); (case l => k_is); (case c => k_is); (case k => k_is))
      case m_least_turn => (refine' Bp.gm_mk KX ?a ?i ?l ?c ?k; (case a => k_is); (case i => k_is); (case l => k_is); (case c => k_is); (case k => k_is))
      case i_Roll => (refine' Bp.gi_mk KX gR ?a ?i ?l ?c ?k ?mk ?kc; (case a => k_is); (case i => k_is); (case l => k_is); (case c => k_is); (case k => k_is); (case mk => k_is); (case kc => k_is))
      case i_Ply => (refine' Bp.gi_mk KX gP ?a ?i ?l ?c ?k ?mk ?kc; (case a => k_is); (case i => k_is); (case l => k_is); (case c => k_is); (case k => k_is); (case mk => k_is); (case kc => k_is))
      case i_Works => (refine' Bp.gi_mk KX gW ?a ?i ?l ?c ?k ?mk ?kc; (case a => k_is); (case i => k_is); (case l => k_is); (case c => k_is); (case k => k_is); (case mk => k_is); (case kc => k_is))
  case S =>
    intro K H xs a hO hwi hask hx
    cases hx with
    | cons h1 h2 =>
      cases h2
      cases h1 with
      | lst hs ha =>
        have e := L2.ints_dw a.1 _ ha
        subst e
        exact ⟨_, a.1, rfl, hs, hask, fun H' p hp => .lst (L2.SqL.of hp) (L2.dw_ints _)⟩
