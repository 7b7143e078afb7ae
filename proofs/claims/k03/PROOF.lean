import PyProof.Rows.All
import Wide.All
import OpenK.AllK
import Wide.FinOn
import HandS.ForMost
import HandS.Walk
import HandS.IsInst
import HandS.DictComp
import HandS.Conv
import HandS.More
import HandS.Evl
import HandS.TupAny
import HandS.AnyAll
import HandS.DeepEq
import HandS.Finally
import HandS.Defaults
import HandS.GenOver
import PyProof.ConsumeS
import PyProof.GenQ
import PyProof.GenCompT
import HandS.Zip
import HandS.WrittenGet
import KE.KDictPairs
import HandS.Rev
import KE.KEqNest
import PyProof.DictUpdate
import HandS.HeadHook1
import HandS.Steps
import HandS.SetBool
import PyProof.Rows.SortShellAny
import HandS.Proxy
import HandS.HeadHook4
import HandS.Head0
import HandS.Head1
import HandS.Head2
import HandS.HeadEnd
import HandS.HeadHook2
import HandS.HeadHook3
import HandS.HeadWalk
import PySem.Challenge.RW_tracefold_k03_a_plain_run
set_option Elab.async false
set_option linter.all false
set_option maxRecDepth 100000
set_option maxHeartbeats 4000000
namespace Fw
open PySem L2
/-- the kept things of the head, and the tables of code objects that may grow -/
structure FK where
  F : PySem.W.Frag
  T : List Addr
instance : Coe FK PySem.W.Frag := ⟨FK.F⟩
/-! ### data -/
inductive PD where
  | non | bl (b : Bool) | int (i : Int) | str (x : Str)
  | tup (xs : List PD) | btup (xs : List PD) | lst (xs : List PD) | dic (kvs : List (Key × PD)) | scr (ns : List Int)
  /-- an object of which only the address is told -/
  | adr (p : Addr)
inductive OD where
  | lst (xs : List PD) | dic (kvs : List (Key × PD))
def OD.pd : OD → PD
  | .lst xs => .lst xs
  | .dic kvs => .dic kvs
def flat : PD → Bool
  | .non => true | .bl _ => true | .int _ => true | .str _ => true | _ => false
mutual
inductive Rep (K : FK) (G : Hp) : V → PD → Prop
  | non : Rep K G .non .non
  | bl (b : Bool) : Rep K G (.bl b) (.bl b)
  | int (i : Int) : Rep K G (.int i) (.int i)
  | str (x : Str) : Rep K G (.str x) (.str x)
  | tup {a : Addr} {vs : List V} {ds : List PD} : SqT K G a vs → Reps K G vs ds → Rep K G (.ref a) (.tup ds)
  | btup {a : Addr} {vs : List V} {ds : List PD} {o : Obj} : G a = some (.frz o (.tup vs)) → o.dict = none → Reps K G vs ds → Rep K G (.ref a) (.btup ds)
  | lst {a : Addr} {vs : List V} {ds : List PD} : G a = some (.lst vs) → Reps K G vs ds → Rep K G (.ref a) (.lst ds)
  | dic {a : Addr} {kvs : List (Key × V)} {kds : List (Key × PD)} : G a = some (.dK kvs) → RepsK K G kvs kds → Rep K G (.ref a) (.dic kds)
  | scr {a : Addr} {ns : List Int} : SqL K G a (ns.map V.int) → Rep K G (.ref a) (.scr ns)
  | adr (p : Addr) : Rep K G (.ref p) (.adr p)
inductive Reps (K : FK) (G : Hp) : List V → List PD → Prop
  | nil : Reps K G [] []
  | cons {v : V} {vs : List V} {d : PD} {ds : List PD} : Rep K G v d → Reps K G vs ds → Reps K G (v :: vs) (d :: ds)
inductive RepsK (K : FK) (G : Hp) : List (Key × V) → List (Key × PD) → Prop
  | nil : RepsK K G [] []
  | cons {k : Key} {v : V} {vs : List (Key × V)} {d : PD} {ds : List (Key × PD)} : Rep K G v d → RepsK K G vs ds → RepsK K G ((k, v) :: vs) ((k, d) :: ds)
end
theorem same_sqL {K : PySem.W.Frag} {H H' : Hp} {a : Addr} {xs : List V} (e : Same H H') (h : SqL K H a xs) : SqL K H' a xs := e.seq h
theorem same_sqT {K : PySem.W.Frag} {H H' : Hp} {a : Addr} {xs : List V} (e : Same H H') (h : SqT K H a xs) : SqT K H' a xs := by
  rcases h with (h | ⟨o, h⟩) | h
  · exact .inl (.inl (e _ _ h))
  · exact .inl (.inr ⟨o, e _ _ h⟩)
  · exact .inr h
section
variable {K : FK} {G G' : Hp}
mutual
theorem Rep.mono (e : Same G G') : ∀ {v : V} {d : PD}, Rep K G v d → Rep K G' v d
  | _, _, .non => .non
  | _, _, .bl b => .bl b
  | _, _, .int i => .int i
  | _, _, .str x => .str x
  | _, _, .tup h r => .tup (same_sqT e h) (Reps.mono e r)
  | _, _, .btup h n r => .btup (e _ _ h) n (Reps.mono e r)
  | _, _, .lst h r => .lst (e _ _ h) (Reps.mono e r)
  | _, _, .dic h r => .dic (e _ _ h) (RepsK.mono e r)
  | _, _, .scr h => .scr (same_sqL e h)
  | _, _, .adr p => .adr p
theorem Reps.mono (e : Same G G') : ∀ {vs : List V} {ds : List PD}, Reps K G vs ds → Reps K G' vs ds
  | _, _, .nil => .nil
  | _, _, .cons h r => .cons (Rep.mono e h) (Reps.mono e r)
theorem RepsK.mono (e : Same G G') : ∀ {vs : List (Key × V)} {ds : List (Key × PD)}, RepsK K G vs ds → RepsK K G' vs ds
  | _, _, .nil => .nil
  | _, _, .cons h r => .cons (Rep.mono e h) (RepsK.mono e r)
end
end
section
variable {K : FK} {G G' H H' : Hp}
theorem Reps.length : ∀ {vs : List V} {ds : List PD}, Reps K G vs ds → vs.length = ds.length
  | _, _, .nil => rfl
  | _, _, .cons _ r => by rw [List.length_cons, List.length_cons, Reps.length r]
theorem RepsK.length : ∀ {vs : List (Key × V)} {ds : List (Key × PD)}, RepsK K G vs ds → vs.length = ds.length
  | _, _, .nil => rfl
  | _, _, .cons _ r => by rw [List.length_cons, List.length_cons, RepsK.length r]
theorem Reps.get : ∀ {vs : List V} {ds : List PD} {i : Nat} {d : PD}, Reps K G vs ds → ds[i]? = some d → ∃ v, vs[i]? = some v ∧ Rep K G v d
  | _, _, _, _, .nil, e => by simp at e
  | _, _, 0, _, .cons h _, e => by
    simp at e
    subst e
    exact ⟨_, rfl, h⟩
  | _, _, i + 1, _, .cons _ r, e => by
    obtain ⟨v, h1, h2⟩ := Reps.get (i := i) r (by simpa using e)
    exact ⟨v, by simpa using h1, h2⟩
theorem Reps.getV : ∀ {vs : List V} {ds : List PD} {i : Nat} {v : V}, Reps K G vs ds → vs[i]? = some v → ∃ d, ds[i]? = some d ∧ Rep K G v d
  | _, _, _, _, .nil, e => by simp at e
  | _, _, 0, _, .cons h _, e => by
    simp at e
    subst e
    exact ⟨_, rfl, h⟩
  | _, _, i + 1, _, .cons _ r, e => by
    obtain ⟨v, h1, h2⟩ := Reps.getV (i := i) r (by simpa using e)
    exact ⟨v, by simpa using h1, h2⟩
theorem Reps.append : ∀ {vs us : List V} {ds es : List PD}, Reps K G vs ds → Reps K G us es → Reps K G (vs ++ us) (ds ++ es)
  | _, _, _, _, .nil, s => s
  | _, _, _, _, .cons h r, s => .cons h (Reps.append r s)
theorem Reps.snoc {vs : List V} {ds : List PD} {v : V} {d : PD} (r : Reps K G vs ds) (h : Rep K G v d) : Reps K G (vs ++ [v]) (ds ++ [d]) := r.append (.cons h .nil)
theorem Reps.take : ∀ {vs : List V} {ds : List PD} (n : Nat), Reps K G vs ds → Reps K G (vs.take n) (ds.take n)
  | _, _, 0, _ => .nil
  | _, _, _ + 1, .nil => .nil
  | _, _, n + 1, .cons h r => .cons h (Reps.take n r)
theorem Reps.drop : ∀ {vs : List V} {ds : List PD} (n : Nat), Reps K G vs ds → Reps K G (vs.drop n) (ds.drop n)
  | _, _, 0, r => r
  | _, _, _ + 1, .nil => .nil
  | _, _, n + 1, .cons _ r => Reps.drop n r
theorem Reps.dropLast : ∀ {vs : List V} {ds : List PD}, Reps K G vs ds → Reps K G vs.dropLast ds.dropLast
  | _, _, .nil => .nil
  | _, _, .cons _ .nil => .nil
  | _, _, .cons h (.cons h2 r) => .cons h (Reps.dropLast (.cons h2 r))
theorem Reps.set : ∀ {vs : List V} {ds : List PD} {v : V} {d : PD} (i : Nat), Reps K G vs ds → Rep K G v d → Reps K G (vs.set i v) (ds.set i d)
  | _, _, _, _, _, .nil, _ => .nil
  | _, _, _, _, 0, .cons _ r, h => .cons h r
  | _, _, _, _, i + 1, .cons h0 r, h => .cons h0 (Reps.set i r h)
theorem RepsK.keys : ∀ {vs : List (Key × V)} {ds : List (Key × PD)}, RepsK K G vs ds → vs.map (·.1) = ds.map (·.1)
  | _, _, .nil => rfl
  | _, _, .cons _ r => by rw [List.map_cons, List.map_cons, RepsK.keys r]
/-- what a dict of data holds -/
def look (kds : List (Key × PD)) (k : Key) : Option PD := (kds.find? fun kd => decide (kd.1 = k)).map (·.2)
theorem look_nil {k : Key} : look [] k = none := rfl
theorem look_cons {k0 k : Key} {d : PD} {r : List (Key × PD)} : look ((k0, d) :: r) k = if k0 = k then some d else look r k := by
  unfold look
  rw [List.find?_cons]
  by_cases e : k0 = k
  · rw [if_pos e]; simp [e]
  · rw [if_neg e]; simp [e]
theorem valV_cons {k0 k : Key} {d : V} {r : List (Key × V)} : valV ((k0, d) :: r) k = if k0 = k then some d else valV r k := by
  unfold valV
  rw [List.find?_cons]
  by_cases e : k0 = k
  · rw [if_pos e]; simp [e]
  · rw [if_neg e]; simp [e]
def OptRep (K : FK) (G : Hp) : Option V → Option PD → Prop
  | none, none => True
  | some v, some d => Rep K G v d
  | _, _ => False
theorem RepsK.val : ∀ {vs : List (Key × V)} {ds : List (Key × PD)}, RepsK K G vs ds → ∀ k, OptRep K G (valV vs k) (look ds k)
  | _, _, .nil, k => True.intro
  | (k0, v) :: vs, (_, d) :: ds, .cons h r, k => by
    rw [valV_cons, look_cons]
    by_cases e : k0 = k
    · rw [if_pos e, if_pos e]; exact h
    · rw [if_neg e, if_neg e]; exact RepsK.val r k
/-- a dict of data with a pair put -/
def put (kds : List (Key × PD)) (k : Key) (d : PD) : List (Key × PD) :=
  if (kds.any fun kd => decide (kd.1 = k)) = true then kds.map fun kd => if kd.1 = k then (kd.1, d) else kd else kds ++ [(k, d)]
end
end Fw
namespace Fw
open PySem L2
theorem fresh_back {H H' : Hp} {p : Addr} (e : Same H H') (h : H' p = none) : H p = none := e.free h
theorem same_new {H : Hp} {p : Addr} {o : HO} (h : H p = none) : Same H (upd H p o) := fun a u e => by
  rw [upd_ne (ne_of_none e h)]
  exact e
theorem some_ne {H : Hp} {p : Addr} {o : HO} (h : H p = some o) : H p ≠ none := by rw [h]; exact fun z => nomatch z
theorem same_live {H H' : Hp} {p : Addr} (e : Same H H') (h : H p ≠ none) : H' p ≠ none := by
  cases q : H p with
  | none => exact absurd q h
  | some o => exact some_ne (e p o q)
/-! ### heaps whose tables may grow -/
/-- an object that is no table -/
class NT (o : HO) : Prop where
  nt : ∀ q, o ≠ .tbl q
instance {xs : List V} : NT (.lst xs) := ⟨fun _ z => nomatch z⟩
instance {xs : List V} : NT (.tup xs) := ⟨fun _ z => nomatch z⟩
instance {xs : List (Key × V)} : NT (.dK xs) := ⟨fun _ z => nomatch z⟩
instance {C dx : Addr} {fs : List (Str × V)} : NT (.ins C dx fs) := ⟨fun _ z => nomatch z⟩
instance {o : Obj} {u : HO} : NT (.frz o u) := ⟨fun _ z => nomatch z⟩
structure Sam (H H' : Hp) : Prop where
  all : ∀ a o, (∀ q, o ≠ .tbl q) → H a = some o → H' a = some o
  tab : ∀ a, GxR.TabG H a → GxR.TabG H' a
  liv : ∀ a, H a ≠ none → H' a ≠ none
theorem Sam.get {H H' : Hp} (e : Sam H H') (a : Addr) (o : HO) [n : NT o] (h : H a = some o) : H' a = some o := e.all a o n.nt h
theorem Sam.refl (H : Hp) : Sam H H := ⟨fun _ _ _ h => h, fun _ h => h, fun _ h => h⟩
theorem Sam.trans {H H1 H2 : Hp} (e : Sam H H1) (f : Sam H1 H2) : Sam H H2 := ⟨fun a o n h => f.all a o n (e.all a o n h), fun a h => f.tab a (e.tab a h), fun a h => f.liv a (e.liv a h)⟩
theorem _root_.L2.Same.sam {H H' : Hp} (e : Same H H') : Sam H H' := ⟨fun a o _ h => e a o h, fun a ⟨q, h, t⟩ => ⟨q, e a _ h, t⟩, fun a h => same_live e h⟩
/-- all stands but what is in S -/
structure SamX (H H' : Hp) (S : Addr → Prop) : Prop where
  all : ∀ a o, ¬ S a → (∀ q, o ≠ .tbl q) → H a = some o → H' a = some o
  tab : ∀ a, GxR.TabG H a → GxR.TabG H' a
  liv : ∀ a, H a ≠ none → H' a ≠ none
/-- a lock on b is let go -/
theorem Sam.unlock {H H2 : Hp} {b : Addr} {od : Obj} {u : HO} (n : ∀ q, u ≠ .tbl q) (hb : H b = some u) (e : Sam (upd H b (.frz od u)) H2) : Sam H (upd H2 b u) :=
  ⟨fun a o no h => by
    by_cases z : a = b
    · subst z; rw [upd_same, ← hb, h]
    · rw [upd_ne z]; exact e.all a o no (by rw [upd_ne z]; exact h), fun a ⟨q, h1, h2⟩ => by
    have z : a ≠ b := fun z => by rw [z, hb] at h1; exact n q (Option.some.inj h1)
    obtain ⟨q', h3, h4⟩ := e.tab a ⟨q, by rw [upd_ne z]; exact h1, h2⟩
    exact ⟨q', by rw [upd_ne z]; exact h3, h4⟩, fun a h => by
    by_cases z : a = b
    · subst z; rw [upd_same]; exact fun w => nomatch w
    · rw [upd_ne z]; exact e.liv a (by rw [upd_ne z]; exact h)⟩
/-- .. but for what was not there -/
theorem Sam.mut {H H' : Hp} {p : Addr} {o : HO} (e : Sam H H') (hp : H p = none) : Sam H (upd H' p o) :=
  ⟨fun a u n h => by rw [upd_ne (ne_of_none h hp)]; exact e.all _ _ n h, fun a h => by
    obtain ⟨q, h1, h2⟩ := h
    obtain ⟨q', h3, h4⟩ := e.tab a ⟨q, h1, h2⟩
    exact ⟨q', by rw [upd_ne (ne_of_none h1 hp)]; exact h3, h4⟩, fun a h => by
    by_cases z : a = p
    · subst z; exact absurd hp h
    · rw [upd_ne z]; exact e.liv a h⟩
theorem fresh_bk {H H' : Hp} {p : Addr} (e : Sam H H') (h : H' p = none) : H p = none := by
  cases q : H p with
  | none => rfl
  | some o => exact absurd h (e.liv p (some_ne q))
theorem sam_sqL {K : PySem.W.Frag} {H H' : Hp} {a : Addr} {xs : List V} (e : Sam H H') (h : SqL K H a xs) : SqL K H' a xs := by
  rcases h with (h | ⟨o, h⟩) | h
  · exact .inl (.inl (e.get _ _ h))
  · exact .inl (.inr ⟨o, e.get _ _ h⟩)
  · exact .inr h
theorem sam_sqT {K : PySem.W.Frag} {H H' : Hp} {a : Addr} {xs : List V} (e : Sam H H') (h : SqT K H a xs) : SqT K H' a xs := by
  rcases h with (h | ⟨o, h⟩) | h
  · exact .inl (.inl (e.get _ _ h))
  · exact .inl (.inr ⟨o, e.get _ _ h⟩)
  · exact .inr h
/-- the tables stand, nobody sees them -/
def Tb (K : FK) (G H : Hp) : Prop := ∀ t, t ∈ K.T → GxR.TabG H t ∧ G t = none
theorem Tb.step {K : FK} {G G' H H' : Hp} (h : Tb K G H) (eh : Sam H H') (n : ∀ a, H a ≠ none → G a = none → G' a = none) : Tb K G' H' := fun t ht =>
  ⟨eh.tab t (h t ht).1, n t (by obtain ⟨q, e, _⟩ := (h t ht).1; exact some_ne e) (h t ht).2⟩
/-- for a call whose arguments are all flat -/
theorem Tb.flat {K : FK} {G H H' : Hp} {b : Addr} {od : Obj} {u : HO} (h : Tb K G H) (n : ∀ q, u ≠ .tbl q) (hb : H b = some u) (e : Sam (upd H b (.frz od u)) H') : Tb K (fun _ => none) H' := fun t ht => by
  obtain ⟨⟨q, h1, h2⟩, _⟩ := h t ht
  have z : t ≠ b := fun z => by rw [z, hb] at h1; exact n q (Option.some.inj h1)
  exact ⟨e.tab t ⟨q, by rw [upd_ne z]; exact h1, h2⟩, rfl⟩
theorem Tb.ne {K : FK} {G H : Hp} (h : Tb K G H) {p : Addr} {o : HO} (n : ∀ q, o ≠ .tbl q) (e : H p = some o) {t : Addr} (ht : t ∈ K.T) : t ≠ p := fun z => by
  obtain ⟨q, e2, _⟩ := (h t ht).1
  rw [z, e] at e2
  exact n q (Option.some.inj e2)
theorem Tb.ne0 {K : FK} {G H : Hp} (h : Tb K G H) {p : Addr} (e : H p = none) {t : Addr} (ht : t ∈ K.T) : t ≠ p := fun z => by
  obtain ⟨q, e2, _⟩ := (h t ht).1
  rw [z, e] at e2
  cases e2
/-! ### the abstract slots -/
/-- what a private object holds: a list, a dict | an instance, its fields -/
inductive CC where
  | od (o : OD) | ins (C dx : Addr) (fs : List (Str × PD))
  /-- a dict that is walked through -/
  | lk (od : Obj) (kds : List (Key × PD))
inductive Sl where
  /-- forgotten | a value that is shared | an own new object | an object of the caller's that may be changed | no slot of the frame: a private object, its address told, whether it may be changed -/
  | no | sh (d : PD) | ow (o : OD) | pn (o : OD) | cell (p : Addr) (w : Bool) (c : CC)
abbrev AE := List Sl
structure Base where
  G : Hp
  H : Hp
  S : List (Nat × Addr)
def OwnOk (K : FK) (G H : Hp) (p : Addr) : OD → Prop
  | .lst ds => ∃ vs, H p = some (.lst vs) ∧ Reps K G vs ds
  | .dic kds => ∃ kvs, H p = some (.dK kvs) ∧ RepsK K G kvs kds
theorem OwnOk.live {K : FK} {G H : Hp} {p : Addr} {o : OD} (h : OwnOk K G H p o) : H p ≠ none := by
  cases o with
  | lst ds => obtain ⟨_, e, _⟩ := h; exact some_ne e
  | dic ds => obtain ⟨_, e, _⟩ := h; exact some_ne e
theorem OwnOk.mono {K : FK} {G G' H H' : Hp} {p : Addr} {o : OD} (h : OwnOk K G H p o) (eg : Same G G') (eh : H' p = H p) : OwnOk K G' H' p o := by
  cases o with
  | lst ds => obtain ⟨vs, e, r⟩ := h; exact ⟨vs, eh.trans e, r.mono eg⟩
  | dic ds => obtain ⟨vs, e, r⟩ := h; exact ⟨vs, eh.trans e, r.mono eg⟩
theorem OwnOk.sam {K : FK} {G G' H H' : Hp} {p : Addr} {o : OD} (h : OwnOk K G H p o) (eg : Same G G') (eh : Sam H H') : OwnOk K G' H' p o := by
  cases o with
  | lst ds => obtain ⟨vs, e, r⟩ := h; exact ⟨vs, eh.get _ _ e, r.mono eg⟩
  | dic ds => obtain ⟨vs, e, r⟩ := h; exact ⟨vs, eh.get _ _ e, r.mono eg⟩
theorem OwnOk.nt {K : FK} {G H : Hp} {p : Addr} {o : OD} (h : OwnOk K G H p o) : ∃ u, (∀ q, u ≠ HO.tbl q) ∧ H p = some u := by
  cases o with
  | lst ds => obtain ⟨vs, e, r⟩ := h; exact ⟨.lst vs, (fun _ z => nomatch z), e⟩
  | dic ds => obtain ⟨vs, e, r⟩ := h; exact ⟨.dK vs, (fun _ z => nomatch z), e⟩
def CellOk (K : FK) (G H : Hp) (p : Addr) : CC → Prop
  | .od o => OwnOk K G H p o
  | .ins C dx fs => ∃ vs : List (Str × V), H p = some (.ins C dx vs) ∧ vs.map (·.1) = fs.map (·.1) ∧ Reps K G (vs.map (·.2)) (fs.map (·.2))
  | .lk od kds => ∃ kvs, H p = some (.frz od (.dK kvs)) ∧ RepsK K G kvs kds
theorem CellOk.nt {K : FK} {G H : Hp} {p : Addr} {c : CC} (h : CellOk K G H p c) : ∃ u, (∀ q, u ≠ HO.tbl q) ∧ H p = some u := by
  cases c with
  | od o => exact OwnOk.nt h
  | ins C dx fs => obtain ⟨vs, e, _⟩ := h; exact ⟨.ins C dx vs, (fun _ z => nomatch z), e⟩
  | lk od kds => obtain ⟨vs, e, _⟩ := h; exact ⟨.frz od (.dK vs), (fun _ z => nomatch z), e⟩
theorem CellOk.live {K : FK} {G H : Hp} {p : Addr} {c : CC} (h : CellOk K G H p c) : H p ≠ none := by
  obtain ⟨u, _, e⟩ := h.nt
  exact some_ne e
theorem CellOk.mono {K : FK} {G G' H H' : Hp} {p : Addr} {c : CC} (h : CellOk K G H p c) (eg : Same G G') (eh : H' p = H p) : CellOk K G' H' p c := by
  cases c with
  | od o => exact OwnOk.mono h eg eh
  | ins C dx fs => obtain ⟨vs, e, k, r⟩ := h; exact ⟨vs, eh.trans e, k, r.mono eg⟩
  | lk od kds => obtain ⟨vs, e, r⟩ := h; exact ⟨vs, eh.trans e, r.mono eg⟩
theorem CellOk.sam {K : FK} {G G' H H' : Hp} {p : Addr} {c : CC} (h : CellOk K G H p c) (eg : Same G G') (eh : Sam H H') : CellOk K G' H' p c := by
  cases c with
  | od o => exact OwnOk.sam h eg eh
  | ins C dx fs => obtain ⟨vs, e, k, r⟩ := h; exact ⟨vs, eh.get _ _ e, k, r.mono eg⟩
  | lk od kds => obtain ⟨vs, e, r⟩ := h; exact ⟨vs, eh.get _ _ e, r.mono eg⟩
/-- what slot i is said to hold, p the address it has if it is an own object -/
def SlOk (K : FK) (B : Base) (G H : Hp) (i : Nat) (x : Option (Option V)) : Sl → Prop
  | .no => x ≠ none
  | .sh d => ∃ v, x = some (some v) ∧ Rep K G v d
  | .ow o => ∃ p, x = some (some (.ref p)) ∧ G p = none ∧ B.H p = none ∧ OwnOk K G H p o
  | .pn o => ∃ p, x = some (some (.ref p)) ∧ G p = none ∧ (i, p) ∈ B.S ∧ OwnOk K G H p o
  | .cell p w c => x = none ∧ G p = none ∧ (w = true → B.H p = none ∨ ∃ j, (j, p) ∈ B.S) ∧ CellOk K G H p c
/-- slot i holds an own object at p -/
def HoldR (σ : St) (δ : AE) (i : Nat) (p : Addr) : Prop := σ[i]? = some (some (.ref p)) ∧ ∃ o, δ[i]? = some (.ow o) ∨ δ[i]? = some (.pn o)
def HoldC (δ : AE) (i : Nat) (p : Addr) : Prop := ∃ w c, δ[i]? = some (.cell p w c)
def Holds (σ : St) (δ : AE) (i : Nat) (p : Addr) : Prop := HoldR σ δ i p ∨ HoldC δ i p
theorem Holds.ow {σ : St} {δ : AE} {i : Nat} {p : Addr} {o : OD} (e : σ[i]? = some (some (.ref p))) (h : δ[i]? = some (.ow o)) : Holds σ δ i p := Or.inl ⟨e, o, Or.inl h⟩
theorem Holds.pn {σ : St} {δ : AE} {i : Nat} {p : Addr} {o : OD} (e : σ[i]? = some (some (.ref p))) (h : δ[i]? = some (.pn o)) : Holds σ δ i p := Or.inl ⟨e, o, Or.inr h⟩
theorem Holds.cl {σ : St} {δ : AE} {i : Nat} {p : Addr} {w : Bool} {c : CC} (h : δ[i]? = some (.cell p w c)) : Holds σ δ i p := Or.inr ⟨w, c, h⟩
theorem Holds.eq {σ σ' : St} {δ δ' : AE} {i : Nat} {p : Addr} (h : Holds σ' δ' i p) (e1 : σ'[i]? = σ[i]?) (e2 : δ'[i]? = δ[i]?) : Holds σ δ i p := by
  rcases h with ⟨e, o, z⟩ | ⟨w, c, z⟩
  · exact Or.inl ⟨by rw [← e1]; exact e, o, by rw [← e2]; exact z⟩
  · exact Or.inr ⟨w, c, by rw [← e2]; exact z⟩
structure RepS (K : FK) (B : Base) (G H : Hp) (σ : St) (δ : AE) : Prop where
  ln : σ.length ≤ δ.length
  gh : Same G H
  h0 : ∀ a o, (∀ i, (i, a) ∉ B.S) → (∀ q, o ≠ .tbl q) → B.H a = some o → H a = some o
  h1 : ∀ a, B.H a ≠ none → H a ≠ none
  g0 : Same B.G G
  nw : ∀ a, B.H a ≠ none → B.G a = none → G a = none
  sl : ∀ i s, δ[i]? = some s → SlOk K B G H i σ[i]? s
  dj : ∀ i j p, Holds σ δ i p → Holds σ δ j p → i = j
  tb : Tb K G H
  tb0 : ∀ a, GxR.TabG B.H a → GxR.TabG H a
/-- nothing of the caller's, no private object -/
structure Free (δ : AE) (i : Nat) : Prop where
  np : ∀ o, δ[i]? ≠ some (.pn o)
  nc : ∀ p w c, δ[i]? ≠ some (.cell p w c)
theorem free_sh {δ : AE} {i : Nat} {d : PD} (h : δ[i]? = some (.sh d)) : Free δ i := ⟨fun o z => (by rw [h] at z; cases z), fun p w c z => (by rw [h] at z; cases z)⟩
section
variable {K : FK} {B : Base} {G H G' H' : Hp} {σ : St} {δ : AE}
theorem SlOk.mono {i : Nat} {x : Option (Option V)} {s : Sl} (h : SlOk K B G H i x s) (eg : Same G G') (eh : Sam H H') (n : ∀ a, H a ≠ none → G a = none → G' a = none) : SlOk K B G' H' i x s := by
  cases s with
  | no => exact h
  | sh d => obtain ⟨v, e, r⟩ := h; exact ⟨v, e, r.mono eg⟩
  | ow o => obtain ⟨p, e, g, b, r⟩ := h; exact ⟨p, e, n p r.live g, b, r.sam eg eh⟩
  | pn o => obtain ⟨p, e, g, b, r⟩ := h; exact ⟨p, e, n p r.live g, b, r.sam eg eh⟩
  | cell p w c => obtain ⟨e, g, b, r⟩ := h; exact ⟨e, n p r.live g, b, r.sam eg eh⟩
theorem RepS.step (R : RepS K B G H σ δ) (eg : Same G G') (eh : Sam H H') (gh : Same G' H') (n : ∀ a, H a ≠ none → G a = none → G' a = none) : RepS K B G' H' σ δ where
  ln := R.ln
  gh := gh
  h0 := fun a o hS n e => eh.all _ _ n (R.h0 a o hS n e)
  h1 := fun a e => eh.liv _ (R.h1 a e)
  tb := R.tb.step eh n
  tb0 := fun a h => eh.tab a (R.tb0 a h)
  g0 := fun a o e => eg _ _ (R.g0 a o e)
  nw := fun a e g => n a (R.h1 a e) (R.nw a e g)
  sl := fun i s h => (R.sl i s h).mono eg eh n
  dj := R.dj
theorem RepS.get {i : Nat} {d : PD} (R : RepS K B G H σ δ) (h : δ[i]? = some (.sh d)) : ∃ v, σ[i]? = some (some v) ∧ Rep K G v d := R.sl i _ h
theorem RepS.getO {i : Nat} {o : OD} (R : RepS K B G H σ δ) (h : δ[i]? = some (.ow o)) : ∃ p, σ[i]? = some (some (.ref p)) ∧ G p = none ∧ B.H p = none ∧ OwnOk K G H p o := R.sl i _ h
theorem RepS.getP {i : Nat} {o : OD} (R : RepS K B G H σ δ) (h : δ[i]? = some (.pn o)) : ∃ p, σ[i]? = some (some (.ref p)) ∧ G p = none ∧ (i, p) ∈ B.S ∧ OwnOk K G H p o := R.sl i _ h
theorem RepS.getC {i : Nat} {p : Addr} {w : Bool} {c : CC} (R : RepS K B G H σ δ) (h : δ[i]? = some (.cell p w c)) : G p = none ∧ (w = true → B.H p = none ∨ ∃ j, (j, p) ∈ B.S) ∧ CellOk K G H p c := (R.sl i _ h).2
/-- what is held is one's own -/
theorem RepS.held {i : Nat} {p : Addr} (R : RepS K B G H σ δ) (hh : Holds σ δ i p) : G p = none ∧ ∃ u, (∀ q, u ≠ HO.tbl q) ∧ H p = some u := by
  rcases hh with ⟨e, o, q | q⟩ | ⟨w, c, q⟩
  · obtain ⟨p', e', g, _, ok⟩ := R.getO q
    rw [e] at e'; cases e'; exact ⟨g, ok.nt⟩
  · obtain ⟨p', e', g, _, ok⟩ := R.getP q
    rw [e] at e'; cases e'; exact ⟨g, ok.nt⟩
  · obtain ⟨g, _, ok⟩ := R.getC q
    exact ⟨g, ok.nt⟩
theorem RepS.lt {i : Nat} (R : RepS K B G H σ δ) (nc : ∀ p w c, δ[i]? ≠ some (.cell p w c)) (hi : i < δ.length) : i < σ.length := by
  have h := R.sl i δ[i] (List.getElem?_eq_getElem hi)
  have nn : σ[i]? ≠ none := by
    cases e : δ[i] with
    | no => rw [e] at h; exact h
    | sh d => rw [e] at h; obtain ⟨v, z, _⟩ := h; rw [z]; exact fun w => nomatch w
    | ow o => rw [e] at h; obtain ⟨v, z, _⟩ := h; rw [z]; exact fun w => nomatch w
    | pn o => rw [e] at h; obtain ⟨v, z, _⟩ := h; rw [z]; exact fun w => nomatch w
    | cell p w c => exact absurd (by rw [List.getElem?_eq_getElem hi, e]) (nc p w c)
  by_cases hl : i < σ.length
  · exact hl
  · exact absurd (List.getElem?_eq_none (by omega)) nn
/-- one object at a free address becomes known -/
theorem RepS.laid {p : Addr} {o : HO} (R : RepS K B G H σ δ) (hp : H p = none) : RepS K B (upd G p o) (upd H p o) σ δ := by
  have gp : G p = none := fresh_back R.gh hp
  refine R.step (same_new gp) (same_new hp).sam (fun a u e => ?_) (fun a l g => ?_)
  · by_cases h : a = p
    · subst h; rw [upd_same] at e ⊢; exact e
    · rw [upd_ne h] at e ⊢; exact R.gh _ _ e
  · have h : a ≠ p := fun z => by subst z; exact l hp
    rw [upd_ne h]; exact g
/-- .. not yet -/
theorem RepS.hid {p : Addr} {o : HO} (R : RepS K B G H σ δ) (hp : H p = none) : RepS K B G (upd H p o) σ δ :=
  R.step (Same.refl G) (same_new hp).sam (fun a u e => by rw [upd_ne (ne_of_none (R.gh _ _ e) hp)]; exact R.gh _ _ e) (fun a _ g => g)
/-- a slot that holds nothing in S is as it was -/
theorem SlOk.keep {i : Nat} {s : Sl} (h : SlOk K B G H i σ[i]? s) (hs : δ[i]? = some s) (eg : Same G G') (k : ∀ a u, Holds σ δ i a → (∀ q, u ≠ HO.tbl q) → H a = some u → H' a = some u ∧ (G a = none → G' a = none)) : SlOk K B G' H' i σ[i]? s := by
  cases s with
  | no => exact h
  | sh d => obtain ⟨v, e, r⟩ := h; exact ⟨v, e, r.mono eg⟩
  | ow o =>
    obtain ⟨p, e, g, b, r⟩ := h
    obtain ⟨u, nt, hu⟩ := r.nt
    obtain ⟨k1, k2⟩ := k p u (Holds.ow e hs) nt hu
    exact ⟨p, e, k2 g, b, r.mono eg (k1.trans hu.symm)⟩
  | pn o =>
    obtain ⟨p, e, g, b, r⟩ := h
    obtain ⟨u, nt, hu⟩ := r.nt
    obtain ⟨k1, k2⟩ := k p u (Holds.pn e hs) nt hu
    exact ⟨p, e, k2 g, b, r.mono eg (k1.trans hu.symm)⟩
  | cell p w c =>
    obtain ⟨e, g, b, r⟩ := h
    obtain ⟨u, nt, hu⟩ := r.nt
    obtain ⟨k1, k2⟩ := k p u (Holds.cl hs) nt hu
    exact ⟨e, k2 g, b, r.mono eg (k1.trans hu.symm)⟩
/-- an object behind the frame becomes known -/
theorem RepS.publish {p : Addr} {o : HO} (R : RepS K B G H σ δ) (gp : G p = none) (hp : H p = some o) (bp : B.H p = none) (hn : ∀ i, ¬ Holds σ δ i p) (nt : ∀ q, o ≠ .tbl q) : RepS K B (upd G p o) H σ δ where
  tb := fun t ht => ⟨(R.tb t ht).1, by rw [upd_ne (R.tb.ne nt hp ht)]; exact (R.tb t ht).2⟩
  tb0 := R.tb0
  ln := R.ln
  gh := fun a u e => by
    by_cases h : a = p
    · subst h; rw [upd_same] at e; rw [← e]; exact hp
    · rw [upd_ne h] at e; exact R.gh _ _ e
  h0 := R.h0
  h1 := R.h1
  g0 := fun a u e => by
    have g := R.g0 _ _ e
    rw [upd_ne (ne_of_none g gp)]; exact g
  nw := fun a l g => by
    have h : a ≠ p := fun z => by subst z; exact l bp
    rw [upd_ne h]; exact R.nw a l g
  sl := fun i s e => (R.sl i s e).keep e (same_new gp) fun a u hh _ hu => ⟨hu, fun g => by
    have ne : a ≠ p := fun z => by subst z; exact hn i hh
    rw [upd_ne ne]; exact g⟩
  dj := R.dj
theorem RepS.notHeld {p : Addr} (R : RepS K B G H σ δ) (hp : H p = none) : ∀ i, ¬ Holds σ δ i p := fun i h => by
  obtain ⟨_, u, _, e⟩ := R.held h
  rw [hp] at e
  cases e
/-! ### slots set -/
theorem Holds.of_set {x : Option V} {s : Sl} {i j : Nat} {p : Addr} (h : Holds (σ.set i x) (δ.set i s) j p) (ne : j ≠ i) : Holds σ δ j p :=
  h.eq (List.getElem?_set_ne (Ne.symm ne)) (List.getElem?_set_ne (Ne.symm ne))
/-- slot i is told anew -/
theorem RepS.chg {σ' : St} {δ' : AE} (R : RepS K B G H σ δ) (i : Nat) (hσ : ∀ j, j ≠ i → σ'[j]? = σ[j]?) (hδ : ∀ j, j ≠ i → δ'[j]? = δ[j]?) (hi : ∀ s, δ'[i]? = some s → SlOk K B G H i σ'[i]? s)
    (hh : ∀ p, Holds σ' δ' i p → ∀ j, j ≠ i → ¬ Holds σ δ j p) (ln : σ'.length ≤ δ'.length) : RepS K B G H σ' δ' where
  ln := ln
  tb := R.tb
  tb0 := R.tb0
  gh := R.gh
  h0 := R.h0
  h1 := R.h1
  g0 := R.g0
  nw := R.nw
  sl := fun j s e => by
    by_cases ej : j = i
    · subst ej; exact hi s e
    · rw [hδ j ej] at e; rw [hσ j ej]; exact R.sl j s e
  dj := fun j k p h1 h2 => by
    by_cases ej : j = i
    · subst ej
      by_cases ek : k = j
      · exact ek.symm
      · exact absurd (h2.eq (hσ k ek) (hδ k ek)) (hh p h1 k ek)
    · have h1' := h1.eq (hσ j ej) (hδ j ej)
      by_cases ek : k = i
      · subst ek; exact absurd h1' (hh p h2 j ej)
      · exact R.dj j k p h1' (h2.eq (hσ k ek) (hδ k ek))
theorem RepS.put1 {x : Option V} {s : Sl} (R : RepS K B G H σ δ) (i : Nat) (nc : ∀ p w c, δ[i]? ≠ some (.cell p w c)) (hi : SlOk K B G H i (some x) s) (hh : ∀ p, Holds (σ.set i x) (δ.set i s) i p → ∀ j, j ≠ i → ¬ Holds σ δ j p) : RepS K B G H (σ.set i x) (δ.set i s) := by
  refine R.chg i (fun j ej => List.getElem?_set_ne (Ne.symm ej)) (fun j ej => List.getElem?_set_ne (Ne.symm ej)) (fun s' e => ?_) hh (by rw [List.length_set, List.length_set]; exact R.ln)
  have l2 := (List.getElem?_eq_some_iff.mp e).1
  rw [List.length_set] at l2
  rw [List.getElem?_set_self l2] at e
  cases e
  rw [List.getElem?_set_self (R.lt nc l2)]
  exact hi
theorem not_set_sh {x : Option V} {i : Nat} {p : Addr} {s : Sl} (h : Holds (σ.set i x) (δ.set i s) i p) : (∃ o, s = .ow o ∧ x = some (.ref p)) ∨ (∃ o, s = .pn o ∧ x = some (.ref p)) ∨ ∃ w c, s = .cell p w c := by
  have l : ∀ s', (δ.set i s)[i]? = some s' → s = s' := fun s' e => by
    have l2 := (List.getElem?_eq_some_iff.mp e).1
    rw [List.length_set] at l2
    rw [List.getElem?_set_self l2] at e
    exact Option.some.inj e
  rcases h with ⟨e, o, z | z⟩ | ⟨w, c, z⟩
  · refine Or.inl ⟨o, l _ z, ?_⟩
    have l1 := (List.getElem?_eq_some_iff.mp e).1
    rw [List.length_set] at l1
    rw [List.getElem?_set_self l1] at e
    exact Option.some.inj e
  · refine Or.inr (Or.inl ⟨o, l _ z, ?_⟩)
    have l1 := (List.getElem?_eq_some_iff.mp e).1
    rw [List.length_set] at l1
    rw [List.getElem?_set_self l1] at e
    exact Option.some.inj e
  · exact Or.inr (Or.inr ⟨w, c, l _ z⟩)
/-- a slot is set to a shared value -/
theorem RepS.setSh {v : V} {d : PD} (R : RepS K B G H σ δ) (i : Nat) (h : Rep K G v d) (fr : Free δ i) : RepS K B G H (σ.set i (some v)) (δ.set i (.sh d)) :=
  R.put1 i fr.nc ⟨v, rfl, h⟩ fun p hp => by
    rcases not_set_sh hp with ⟨_, z, _⟩ | ⟨_, z, _⟩ | ⟨_, _, z⟩ <;> cases z
/-- a slot is set to a new own object -/
theorem RepS.setOw {p : Addr} {o : OD} (R : RepS K B G H σ δ) (i : Nat) (gp : G p = none) (bp : B.H p = none) (h : OwnOk K G H p o) (hn : ∀ j, ¬ Holds σ δ j p) (nc : ∀ p w c, δ[i]? ≠ some (.cell p w c)) : RepS K B G H (σ.set i (some (.ref p))) (δ.set i (.ow o)) :=
  R.put1 i nc ⟨p, rfl, gp, bp, h⟩ fun q hq j _ hj => by
    rcases not_set_sh hq with ⟨_, _, z⟩ | ⟨_, z, _⟩ | ⟨_, _, z⟩
    · cases z; exact hn j hj
    · cases z
    · cases z
/-- heaps after a call that may change what is in S -/
theorem RepS.callX {S : Addr → Prop} {δ' : AE} (R : RepS K B G H σ δ) (hx : SamX H H' S) (eg : Same G G') (gh : Same G' H') (n : ∀ a, H a ≠ none → G a = none → G' a = none)
    (hS : ∀ a, S a → (∃ i, Holds σ δ i a) ∧ (B.H a = none ∨ ∃ j, (j, a) ∈ B.S)) (hk : ∀ i s, δ'[i]? = some s → (δ[i]? = some s ∧ ∀ a, Holds σ δ i a → ¬ S a) ∨ SlOk K B G' H' i σ[i]? s)
    (dj : ∀ i j p, Holds σ δ' i p → Holds σ δ' j p → i = j) (ln : σ.length ≤ δ'.length) : RepS K B G' H' σ δ' where
  ln := ln
  gh := gh
  h0 := fun a o hs nt e => hx.all a o (fun z => by
    rcases (hS a z).2 with b | ⟨j, b⟩
    · rw [b] at e; cases e
    · exact hs j b) nt (R.h0 a o hs nt e)
  h1 := fun a e => hx.liv a (R.h1 a e)
  g0 := R.g0.trans eg
  nw := fun a l g => n a (R.h1 a l) (R.nw a l g)
  sl := fun i s e => by
    rcases hk i s e with ⟨e2, k⟩ | k
    · exact (R.sl i s e2).keep e2 eg fun a u hh nt hu => ⟨hx.all a u (k a hh) nt hu, fun g => n a (some_ne hu) g⟩
    · exact k
  dj := dj
  tb := fun t ht => ⟨hx.tab t (R.tb t ht).1, n t (by obtain ⟨q, e, _⟩ := (R.tb t ht).1; exact some_ne e) (R.tb t ht).2⟩
  tb0 := fun t ht => hx.tab t (R.tb0 t ht)
theorem samX_upd {p : Addr} {u o : HO} (hp : H p = some u) (nt : ∀ q, u ≠ .tbl q) : SamX H (upd H p o) fun a => a = p :=
  ⟨fun a v hn _ e => by rw [upd_ne hn]; exact e, fun a ⟨q, h1, h2⟩ => by
    have ne : a ≠ p := fun z => by rw [z, hp] at h1; exact nt q (Option.some.inj h1)
    exact ⟨q, by rw [upd_ne ne]; exact h1, h2⟩, fun a h => by
    by_cases z : a = p
    · subst z; rw [upd_same]; exact fun w => nomatch w
    · rw [upd_ne z]; exact h⟩
/-- the object that slot i holds is changed -/
theorem RepS.write1 {i : Nat} {p : Addr} {ob : HO} {s' : Sl} (R : RepS K B G H σ δ) (hi : Holds σ δ i p) (bp : B.H p = none ∨ ∃ j, (j, p) ∈ B.S) (hs : SlOk K B G (upd H p ob) i σ[i]? s') (hh : ∀ q, Holds σ (δ.set i s') i q → q = p) :
    RepS K B G (upd H p ob) σ (δ.set i s') := by
  obtain ⟨gp, u, nt, hu⟩ := R.held hi
  refine R.callX (samX_upd hu nt) (Same.refl G) (fun a v e => ?_) (fun _ _ g => g) (fun a z => ⟨⟨i, by rw [z]; exact hi⟩, by rw [z]; exact bp⟩) (fun j s e => ?_) (fun j k q h1 h2 => ?_) (by rw [List.length_set]; exact R.ln)
  · rw [upd_ne (ne_of_none e gp)]; exact R.gh _ _ e
  · by_cases ej : j = i
    · subst ej
      have l2 := (List.getElem?_eq_some_iff.mp e).1
      rw [List.length_set] at l2
      rw [List.getElem?_set_self l2] at e
      cases e
      exact Or.inr hs
    · rw [List.getElem?_set_ne (Ne.symm ej)] at e
      exact Or.inl ⟨e, fun a ha z => ej (R.dj j i p (z ▸ ha) hi)⟩
  · have back : ∀ m, m ≠ i → Holds σ (δ.set i s') m q → Holds σ δ m q := fun m hm h => h.eq rfl (List.getElem?_set_ne (Ne.symm hm))
    by_cases ej : j = i
    · subst ej
      by_cases ek : k = j
      · exact ek.symm
      · have e := hh q h1
        subst e
        exact R.dj j k q hi (back k ek h2)
    · by_cases ek : k = i
      · subst ek
        have e := hh q h2
        subst e
        exact R.dj j k q (back j ej h1) hi
      · exact R.dj j k q (back j ej h1) (back k ek h2)
theorem holds_set {i : Nat} {s : Sl} {q : Addr} (h : Holds σ (δ.set i s) i q) : ((∃ o, s = .ow o ∨ s = .pn o) ∧ σ[i]? = some (some (.ref q))) ∨ ∃ w c, s = .cell q w c := by
  have l : ∀ s', (δ.set i s)[i]? = some s' → s = s' := fun s' e => by
    have l2 := (List.getElem?_eq_some_iff.mp e).1
    rw [List.length_set] at l2
    rw [List.getElem?_set_self l2] at e
    exact Option.some.inj e
  rcases h with ⟨e, o, z | z⟩ | ⟨w, c, z⟩
  · exact Or.inl ⟨⟨o, Or.inl (l _ z)⟩, e⟩
  · exact Or.inl ⟨⟨o, Or.inr (l _ z)⟩, e⟩
  · exact Or.inr ⟨w, c, l _ z⟩
theorem RepS.write {i : Nat} {p : Addr} {o : OD} {ob : HO} (R : RepS K B G H σ δ) (hi : Holds σ δ i p) (h : OwnOk K G (upd H p ob) p o) (s' : Sl)
    (hs : (∃ o1, δ[i]? = some (.ow o1) ∧ s' = .ow o) ∨ (∃ o1, δ[i]? = some (.pn o1) ∧ s' = .pn o)) : RepS K B G (upd H p ob) σ (δ.set i s') := by
  rcases hs with ⟨o1, q, rfl⟩ | ⟨o1, q, rfl⟩
  · obtain ⟨p', e', g, b, _⟩ := R.getO q
    have ep : p = p' := by
      rcases hi with ⟨e, _⟩ | ⟨w, c, z⟩
      · rw [e'] at e; cases e; rfl
      · rw [q] at z; cases z
    subst ep
    refine R.write1 hi (Or.inl b) ⟨p, e', g, b, h⟩ fun q2 hq => ?_
    rcases holds_set hq with ⟨_, e⟩ | ⟨_, _, z⟩
    · rw [e'] at e; cases e; rfl
    · cases z
  · obtain ⟨p', e', g, b, _⟩ := R.getP q
    have ep : p = p' := by
      rcases hi with ⟨e, _⟩ | ⟨w, c, z⟩
      · rw [e'] at e; cases e; rfl
      · rw [q] at z; cases z
    subst ep
    refine R.write1 hi (Or.inr ⟨i, b⟩) ⟨p, e', g, b, h⟩ fun q2 hq => ?_
    rcases holds_set hq with ⟨_, e⟩ | ⟨_, _, z⟩
    · rw [e'] at e; cases e; rfl
    · cases z
/-- a private object is changed -/
theorem RepS.writeC {i : Nat} {p : Addr} {c c' : CC} {ob : HO} (R : RepS K B G H σ δ) (hi : δ[i]? = some (.cell p true c)) (h : CellOk K G (upd H p ob) p c') : RepS K B G (upd H p ob) σ (δ.set i (.cell p true c')) := by
  have ⟨e, g, b, _⟩ := R.sl i _ hi
  refine R.write1 (Holds.cl hi) (b rfl) ⟨e, g, b, h⟩ fun q hq => ?_
  rcases holds_set hq with ⟨⟨_, z | z⟩, _⟩ | ⟨_, _, z⟩ <;> cases z
  rfl
/-- a private object is told anew, another in its place -/
theorem RepS.setC {i : Nat} {p p0 : Addr} {w0 : Bool} {c c0 : CC} (R : RepS K B G H σ δ) (hi : δ[i]? = some (.cell p0 w0 c0)) (gp : G p = none) (bp : B.H p = none) (h : CellOk K G H p c) (hn : ∀ j, ¬ Holds σ δ j p) : RepS K B G H σ (δ.set i (.cell p true c)) := by
  have ⟨e, _⟩ := R.sl i _ hi
  refine R.chg i (fun _ _ => rfl) (fun j ej => List.getElem?_set_ne (Ne.symm ej)) (fun s z => ?_) (fun q hq j _ hj => ?_) (by rw [List.length_set]; exact R.ln)
  · have l2 := (List.getElem?_eq_some_iff.mp z).1
    rw [List.length_set] at l2
    rw [List.getElem?_set_self l2] at z
    cases z
    exact ⟨e, gp, fun _ => Or.inl bp, h⟩
  · rcases holds_set hq with ⟨⟨_, z | z⟩, _⟩ | ⟨_, _, z⟩ <;> cases z
    exact hn j hj
/-- a new private object -/
theorem RepS.addC {p : Addr} {c : CC} (R : RepS K B G H σ δ) (gp : G p = none) (bp : B.H p = none) (h : CellOk K G H p c) (hn : ∀ j, ¬ Holds σ δ j p) : RepS K B G H σ (δ ++ [.cell p true c]) := by
  have at' : ∀ j, j ≠ δ.length → (δ ++ [Sl.cell p true c])[j]? = δ[j]? := fun j ej => by
    by_cases hj : j < δ.length
    · rw [List.getElem?_append_left hj]
    · rw [List.getElem?_eq_none (by rw [List.length_append]; show δ.length + 1 ≤ j; omega), List.getElem?_eq_none (by omega)]
  have sf : (δ ++ [Sl.cell p true c])[δ.length]? = some (.cell p true c) := by
    rw [List.getElem?_append_right (Nat.le_refl _), Nat.sub_self]; rfl
  refine R.chg δ.length (fun _ _ => rfl) at' (fun s z => ?_) (fun q hq j _ hj => ?_) (by rw [List.length_append]; exact Nat.le_trans R.ln (Nat.le_add_right _ _))
  · rw [sf] at z
    cases z
    exact ⟨List.getElem?_eq_none R.ln, gp, fun _ => Or.inl bp, h⟩
  · rcases hq with ⟨_, o, z | z⟩ | ⟨w', c', z⟩ <;> rw [sf] at z <;> cases z
    exact hn j hj
/-- an own object is handed to all: it is not changed any more -/
theorem OwnOk.pub {p : Addr} {o : OD} {ob : HO} (h : OwnOk K G H p o) (hp : H p = some ob) (gp : G p = none) : Rep K (upd G p ob) (.ref p) o.pd := by
  cases o with
  | lst ds =>
    obtain ⟨vs, e, r⟩ := h
    rw [hp] at e; cases e
    exact .lst upd_same (r.mono (same_new gp))
  | dic ds =>
    obtain ⟨vs, e, r⟩ := h
    rw [hp] at e; cases e
    exact .dic upd_same (r.mono (same_new gp))
/-- slot i forgotten; a private object stays -/
def fos : Sl → Sl
  | .cell p w c => .cell p w c
  | _ => .no
def fo : AE → Nat → AE
  | [], _ => []
  | s :: r, 0 => fos s :: r
  | s :: r, i + 1 => s :: fo r i
theorem fo_ne : ∀ {δ : AE} {i j : Nat}, j ≠ i → (fo δ i)[j]? = δ[j]?
  | [], _, _, _ => rfl
  | s :: r, 0, 0, h => absurd rfl h
  | s :: r, 0, j + 1, _ => rfl
  | s :: r, i + 1, 0, _ => rfl
  | s :: r, i + 1, j + 1, h => by
    show (s :: fo r i)[j + 1]? = (s :: r)[j + 1]?
    rw [List.getElem?_cons_succ, List.getElem?_cons_succ]
    exact fo_ne fun z => h (congrArg Nat.succ z)
theorem fo_eq : ∀ {δ : AE} {i : Nat}, (fo δ i)[i]? = (δ[i]?).map fos
  | [], _ => rfl
  | s :: r, 0 => rfl
  | s :: r, i + 1 => by
    show (s :: fo r i)[i + 1]? = ((s :: r)[i + 1]?).map fos
    rw [List.getElem?_cons_succ, List.getElem?_cons_succ]
    exact fo_eq
theorem fo_len (i : Nat) : (fo δ i).length = δ.length := by
  induction δ generalizing i with
  | nil => rfl
  | cons s r ih =>
    cases i with
    | zero => rfl
    | succ i => show (fo r i).length + 1 = r.length + 1; rw [ih]
theorem fo_at (i : Nat) {s : Sl} (h : (fo δ i)[i]? = some s) : (∃ p w c, δ[i]? = some (.cell p w c) ∧ s = .cell p w c) ∨ (s = .no ∧ i < δ.length ∧ (∀ p w c, δ[i]? ≠ some (.cell p w c))) := by
  rw [fo_eq] at h
  obtain ⟨t, e1, e2⟩ := Option.map_eq_some_iff.mp h
  have l := (List.getElem?_eq_some_iff.mp e1).1
  cases t with
  | cell p w c => exact Or.inl ⟨p, w, c, e1, e2.symm⟩
  | no => exact Or.inr ⟨e2.symm, l, fun p w c z => by rw [e1] at z; cases z⟩
  | sh d => exact Or.inr ⟨e2.symm, l, fun p w c z => by rw [e1] at z; cases z⟩
  | ow o => exact Or.inr ⟨e2.symm, l, fun p w c z => by rw [e1] at z; cases z⟩
  | pn o => exact Or.inr ⟨e2.symm, l, fun p w c z => by rw [e1] at z; cases z⟩
theorem RepS.clearX {σ' : St} (R : RepS K B G H σ δ) (i : Nat) (hσ : ∀ j, j ≠ i → σ'[j]? = σ[j]?) (hl : σ'.length = σ.length) : RepS K B G H σ' (fo δ i) := by
  refine R.chg i hσ (fun j ej => fo_ne ej) (fun s e => ?_) (fun p hp j ej hj => ?_) (by rw [fo_len, hl]; exact R.ln)
  · rcases fo_at i e with ⟨p, w, c, e1, rfl⟩ | ⟨rfl, l, nc⟩
    · have ⟨k, r⟩ := R.sl i _ e1
      refine ⟨?_, r⟩
      rw [List.getElem?_eq_none_iff] at k ⊢
      rw [hl]; exact k
    · show σ'[i]? ≠ none
      have := R.lt nc l
      rw [List.getElem?_eq_getElem (by rw [hl]; exact this)]
      exact fun z => nomatch z
  · rcases hp with ⟨_, o, z | z⟩ | ⟨w, c, z⟩
    · rcases fo_at i z with ⟨_, _, _, _, k⟩ | ⟨k, _⟩ <;> cases k
    · rcases fo_at i z with ⟨_, _, _, _, k⟩ | ⟨k, _⟩ <;> cases k
    · rcases fo_at i z with ⟨_, _, _, e1, k⟩ | ⟨k, _⟩
      · cases k; exact ej (R.dj j i p hj (Holds.cl e1))
      · cases k
theorem RepS.forgetX (R : RepS K B G H σ δ) (i : Nat) : RepS K B G H σ (fo δ i) := R.clearX i (fun _ _ => rfl) rfl
theorem fo_set {i : Nat} (nc : ∀ p w c, δ[i]? ≠ some (.cell p w c)) : fo δ i = δ.set i .no := by
  apply List.ext_getElem?
  intro j
  by_cases ej : j = i
  · subst ej
    by_cases hl : j < δ.length
    · rw [fo_eq, List.getElem?_set_self hl, List.getElem?_eq_getElem hl]
      cases e : δ[j] with
      | cell p w c => exact absurd (by rw [List.getElem?_eq_getElem hl, e]) (nc p w c)
      | no => rfl
      | sh d => rfl
      | ow o => rfl
      | pn o => rfl
    · rw [List.getElem?_eq_none (by rw [fo_len]; omega), List.getElem?_eq_none (by rw [List.length_set]; omega)]
  · rw [fo_ne ej, List.getElem?_set_ne (Ne.symm ej)]
theorem RepS.forget (R : RepS K B G H σ δ) (i : Nat) (nc : ∀ p w c, δ[i]? ≠ some (.cell p w c)) : RepS K B G H σ (δ.set i .no) := fo_set nc ▸ R.forgetX i
theorem RepS.share {i : Nat} {o : OD} (R : RepS K B G H σ δ) (h : δ[i]? = some (.ow o)) : ∃ G', Same G G' ∧ RepS K B G' H σ (δ.set i (.sh o.pd)) := by
  obtain ⟨p, e, gp, bp, ok⟩ := R.getO h
  obtain ⟨ob, nt, hob⟩ := ok.nt
  have nc : ∀ p w c, δ[i]? ≠ some (.cell p w c) := fun p w c z => by rw [h] at z; cases z
  have R1 : RepS K B G H σ (δ.set i .no) := R.forget i nc
  have hl : i < δ.length := (List.getElem?_eq_some_iff.mp h).1
  have hn : ∀ j, ¬ Holds σ (δ.set i .no) j p := fun j hj => by
    by_cases ej : j = i
    · subst ej
      rcases holds_set hj with ⟨⟨_, z | z⟩, _⟩ | ⟨_, _, z⟩ <;> cases z
    · exact ej (R.dj j i p (hj.eq rfl (List.getElem?_set_ne (Ne.symm ej))) (Holds.ow e h))
  have R2 := R1.publish gp hob bp hn nt
  have R3 := R2.setSh i (v := .ref p) (d := o.pd) (ok.pub hob gp) ⟨fun o1 z => (by rw [List.getElem?_set_self hl] at z; cases z), fun p w c z => (by rw [List.getElem?_set_self hl] at z; cases z)⟩
  refine ⟨upd G p ob, same_new gp, ?_⟩
  rw [List.set_set] at R3
  have es : σ.set i (some (.ref p)) = σ := by
    apply List.ext_getElem?
    intro j
    by_cases ej : j = i
    · subst ej
      rw [e, List.getElem?_set_self (R.lt nc hl)]
    · rw [List.getElem?_set_ne (Ne.symm ej)]
  rw [es] at R3
  exact R3
end
end Fw
namespace Fw
open PySem L2
/-- from one pair of heaps to a later one -/
structure Step (G H G' H' : Hp) : Prop where
  eg : Same G G'
  eh : Sam H H'
  gh : Same G' H'
  nw : ∀ a, H a ≠ none → G a = none → G' a = none
section
variable {G H G1 H1 G2 H2 : Hp} {p : Addr} {o : HO}
theorem Step.refl (h : Same G H) : Step G H G H := ⟨Same.refl G, Sam.refl H, h, fun _ _ g => g⟩
theorem Step.trans (s : Step G H G1 H1) (t : Step G1 H1 G2 H2) : Step G H G2 H2 :=
  ⟨s.eg.trans t.eg, s.eh.trans t.eh, t.gh, fun a l g => t.nw a (s.eh.liv _ l) (s.nw a l g)⟩
theorem Step.hid (s : Step G H G1 H1) (hp : H1 p = none) : Step G H G1 (upd H1 p o) :=
  ⟨s.eg, s.eh.trans (same_new hp).sam, fun a u e => by rw [upd_ne (ne_of_none (s.gh _ _ e) hp)]; exact s.gh _ _ e, s.nw⟩
theorem Step.laid (s : Step G H G1 H1) (hp : H1 p = none) : Step G H (upd G1 p o) (upd H1 p o) := by
  have gp : G1 p = none := fresh_back s.gh hp
  refine ⟨s.eg.trans (same_new gp), s.eh.trans (same_new hp).sam, fun a u e => ?_, fun a l g => ?_⟩
  · by_cases h : a = p
    · subst h; rw [upd_same] at e ⊢; exact e
    · rw [upd_ne h] at e ⊢; exact s.gh _ _ e
  · have h : a ≠ p := fun z => by subst z; exact l (fresh_bk s.eh hp)
    rw [upd_ne h]; exact s.nw a l g
theorem Step.publish (s : Step G H G1 H1) (hob : H1 p = some o) (gp : G1 p = none) (hp : H p = none) : Step G H (upd G1 p o) H1 := by
  refine ⟨s.eg.trans (same_new gp), s.eh, fun a u e => ?_, fun a l g => ?_⟩
  · by_cases h : a = p
    · subst h; rw [upd_same] at e; rw [← e]; exact hob
    · rw [upd_ne h] at e; exact s.gh _ _ e
  · have h : a ≠ p := fun z => by subst z; exact l hp
    rw [upd_ne h]; exact s.nw a l g
end
section
variable {K : FK} {B : Base} {G H G' H' : Hp} {σ : St} {δ : AE}
theorem RepS.st (R : RepS K B G H σ δ) (s : Step G H G' H') : RepS K B G' H' σ δ := R.step s.eg s.eh s.gh s.nw
end
/-! ### judgements -/
def Evd (K : FK) (te : TE) (δ : AE) (d : PD) : Prop := ∀ (B : Base) (G H : Hp) (σ : St), RepS K B G H σ δ → ∀ Q : VK, (∀ v G' H', RepS K B G' H' σ δ → Step G H G' H' → Rep K G' v d → Q v H') → te σ H Q
/-- a new object of one's own -/
def Evo (K : FK) (te : TE) (δ : AE) (o : OD) : Prop := ∀ (B : Base) (G H : Hp) (σ : St), RepS K B G H σ δ → ∀ Q : VK, (∀ p G' H', RepS K B G' H' σ δ → Step G H G' H' → H p = none → G' p = none → OwnOk K G' H' p o → Q (.ref p) H') → te σ H Q
/-- what may be read as o -/
def Rdo (K : FK) (te : TE) (δ : AE) (o : OD) : Prop := ∀ (B : Base) (G H : Hp) (σ : St), RepS K B G H σ δ → ∀ Q : VK, (∀ p G' H', RepS K B G' H' σ δ → Step G H G' H' → OwnOk K G' H' p o → Q (.ref p) H') → te σ H Q
def Evs (K : FK) (ta : TA) (δ : AE) (ds : List PD) : Prop := ∀ (B : Base) (G H : Hp) (σ : St), RepS K B G H σ δ → ∀ Q : List V → Hp → Prop, (∀ vs G' H', RepS K B G' H' σ δ → Step G H G' H' → Reps K G' vs ds → Q vs H') → ta σ H Q
def Evt (K : FK) (tt : TT) (δ : AE) (b : Bool) : Prop := ∀ (B : Base) (G H : Hp) (σ : St), RepS K B G H σ δ → ∀ Q : Bool → Hp → Prop, (∀ G' H', RepS K B G' H' σ δ → Step G H G' H' → Q b H') → tt σ H Q
def vOf : PD → V
  | .non => .non | .bl b => .bl b | .int i => .int i | .str x => .str x | _ => .non
theorem Rep.flat {K : FK} {G : Hp} {v : V} {d : PD} (h : Rep K G v d) (f : flat d = true) : v = vOf d := by
  cases h <;> first | rfl | (cases f)
theorem rep_flat {K : FK} {G : Hp} {d : PD} (f : flat d = true) : Rep K G (vOf d) d := by
  cases d with
  | non => exact .non
  | bl b => exact .bl b
  | int i => exact .int i
  | str x => exact .str x
  | tup xs => cases f
  | btup xs => cases f
  | lst xs => cases f
  | dic xs => cases f
  | scr xs => cases f
  | adr p => cases f
section
variable {K : FK} {δ : AE} {ta tb te tx : TE} {t u : TT} {a b c d : PD}
/-! ### names, constants -/
theorem ev_var {i : Nat} (h : δ[i]? = some (.sh d)) : Evd K (tVar i) δ d := fun B G H σ R Q q => by
  obtain ⟨v, e, r⟩ := R.get h
  exact ⟨v, e, q v G H R (Step.refl R.gh) r⟩
theorem ev_flat (f : flat d = true) : Evd K (tC (vOf d)) δ d := fun B G H σ R Q q => q _ G H R (Step.refl R.gh) (rep_flat f)
theorem ev_int (i : Int) : Evd K (tC (.int i)) δ (.int i) := ev_flat (d := .int i) rfl
theorem ev_str (x : Str) : Evd K (tC (.str x)) δ (.str x) := ev_flat (d := .str x) rfl
theorem ev_bl (x : Bool) : Evd K (tC (.bl x)) δ (.bl x) := ev_flat (d := .bl x) rfl
theorem ev_non : Evd K (tC .non) δ .non := ev_flat (d := .non) rfl
theorem ev_is (h : Evd K te δ a) (e : a = b) : Evd K te δ b := e ▸ h
theorem et_is {x y : Bool} (h : Evt K t δ x) (e : x = y) : Evt K t δ y := e ▸ h
theorem eo_is {x y : OD} (h : Evo K te δ x) (e : x = y) : Evo K te δ y := e ▸ h
/-! ### two places -/
theorem ev_op {r : R2} (ha : Evd K ta δ a) (hb : Evd K tb δ b) (hr : ∀ B G H σ x y, RepS K B G H σ δ → Rep K G x a → Rep K G y b → ∀ Q : VK, (∀ v G' H', RepS K B G' H' σ δ → Step G H G' H' → Rep K G' v c → Q v H') → r x y H Q) : Evd K (tOp r ta tb) δ c :=
  fun B G H σ R Q q => ha B G H σ R _ fun x G1 H1 R1 s1 rx => hb B G1 H1 σ R1 _ fun y G2 H2 R2 s2 ry =>
    hr B G2 H2 σ x y R2 (rx.mono s2.eg) ry Q fun v G3 H3 R3 s3 rv => q v G3 H3 R3 ((s1.trans s2).trans s3) rv
theorem ev_opF {r : R2} (ha : Evd K ta δ a) (hb : Evd K tb δ b) (fa : flat a = true) (fb : flat b = true) (fc : flat c = true) (hr : ∀ (H : Hp) (Q : VK), Q (vOf c) H → r (vOf a) (vOf b) H Q) : Evd K (tOp r ta tb) δ c :=
  ev_op ha hb fun B G H σ x y R rx ry Q q => by
    rw [rx.flat fa, ry.flat fb]
    exact hr H Q (q _ G H R (Step.refl R.gh) (rep_flat fc))
theorem ev_add {i j : Int} (ha : Evd K ta δ (.int i)) (hb : Evd K tb δ (.int j)) : Evd K (tOp (rI0 fun i j => .int (i + j)) ta tb) δ (.int (i + j)) := ev_opF ha hb rfl rfl rfl fun H Q q => ⟨i, j, rfl, rfl, q⟩
theorem ev_sub {i j : Int} (ha : Evd K ta δ (.int i)) (hb : Evd K tb δ (.int j)) : Evd K (tOp (rI0 fun i j => .int (i - j)) ta tb) δ (.int (i - j)) := ev_opF ha hb rfl rfl rfl fun H Q q => ⟨i, j, rfl, rfl, q⟩
theorem ev_mul {i j : Int} (ha : Evd K ta δ (.int i)) (hb : Evd K tb δ (.int j)) (h : CMul i j) : Evd K (tOp (rI CMul fun i j => .int (i * j)) ta tb) δ (.int (i * j)) := ev_opF ha hb rfl rfl rfl fun H Q q => ⟨i, j, rfl, rfl, h, q⟩
theorem ev_mod {i j : Int} (ha : Evd K ta δ (.int i)) (hb : Evd K tb δ (.int j)) (h : 0 < j) : Evd K (tOp (rI (fun _ j => 0 < j) fun i j => .int (i % j)) ta tb) δ (.int (i % j)) := ev_opF ha hb rfl rfl rfl fun H Q q => ⟨i, j, rfl, rfl, h, q⟩
theorem ev_fdiv {i j : Int} (ha : Evd K ta δ (.int i)) (hb : Evd K tb δ (.int j)) (h : CDiv i j) : Evd K (tOp (rI CDiv fun i j => .int (i / j)) ta tb) δ (.int (i / j)) := ev_opF ha hb rfl rfl rfl fun H Q q => ⟨i, j, rfl, rfl, h, q⟩
theorem ev_pow {i j : Int} (ha : Evd K ta δ (.int i)) (hb : Evd K tb δ (.int j)) (h : CPow i j) : Evd K (tOp (rI CPow fun i j => .int (i ^ j.toNat)) ta tb) δ (.int (i ^ j.toNat)) := ev_opF ha hb rfl rfl rfl fun H Q q => ⟨i, j, rfl, rfl, h, q⟩
theorem ev_lt {i j : Int} (ha : Evd K ta δ (.int i)) (hb : Evd K tb δ (.int j)) : Evd K (tOp (rI0 fun i j => .bl (decide (i < j))) ta tb) δ (.bl (decide (i < j))) := ev_opF ha hb rfl rfl rfl fun H Q q => ⟨i, j, rfl, rfl, q⟩
theorem ev_le {i j : Int} (ha : Evd K ta δ (.int i)) (hb : Evd K tb δ (.int j)) : Evd K (tOp (rI0 fun i j => .bl (decide (i ≤ j))) ta tb) δ (.bl (decide (i ≤ j))) := ev_opF ha hb rfl rfl rfl fun H Q q => ⟨i, j, rfl, rfl, q⟩
theorem ev_gt {i j : Int} (ha : Evd K ta δ (.int i)) (hb : Evd K tb δ (.int j)) : Evd K (tOp (rI0 fun i j => .bl (decide (j < i))) ta tb) δ (.bl (decide (j < i))) := ev_opF ha hb rfl rfl rfl fun H Q q => ⟨i, j, rfl, rfl, q⟩
theorem ev_ge {i j : Int} (ha : Evd K ta δ (.int i)) (hb : Evd K tb δ (.int j)) : Evd K (tOp (rI0 fun i j => .bl (decide (j ≤ i))) ta tb) δ (.bl (decide (j ≤ i))) := ev_opF ha hb rfl rfl rfl fun H Q q => ⟨i, j, rfl, rfl, q⟩
theorem ev_eqI {i j : Int} (ha : Evd K ta δ (.int i)) (hb : Evd K tb δ (.int j)) : Evd K (tOp rEq ta tb) δ (.bl (decide (i = j))) := ev_opF ha hb rfl rfl rfl fun H Q q => ⟨rfl, by
  have e : decide (V.int i = V.int j) = decide (i = j) := by
    by_cases h : i = j
    · subst h; simp
    · rw [decide_eq_false h]; exact decide_eq_false fun z => h (V.int.inj z)
  show Q (.bl (decide (V.int i = V.int j))) H
  rw [e]; exact q⟩
theorem ev_neI {i j : Int} (ha : Evd K ta δ (.int i)) (hb : Evd K tb δ (.int j)) : Evd K (tOp rNe ta tb) δ (.bl (!decide (i = j))) := ev_opF ha hb rfl rfl rfl fun H Q q => ⟨rfl, by
  have e : decide (V.int i = V.int j) = decide (i = j) := by
    by_cases h : i = j
    · subst h; simp
    · rw [decide_eq_false h]; exact decide_eq_false fun z => h (V.int.inj z)
  show Q (.bl (!decide (V.int i = V.int j))) H
  rw [e]; exact q⟩
theorem ev_eqS {i j : Str} (ha : Evd K ta δ (.str i)) (hb : Evd K tb δ (.str j)) : Evd K (tOp rEq ta tb) δ (.bl (decide (i = j))) := ev_opF ha hb rfl rfl rfl fun H Q q => ⟨rfl, by
  have e : decide (V.str i = V.str j) = decide (i = j) := by
    by_cases h : i = j
    · subst h; simp
    · rw [decide_eq_false h]; exact decide_eq_false fun z => h (V.str.inj z)
  show Q (.bl (decide (V.str i = V.str j))) H
  rw [e]; exact q⟩
theorem ev_neS {i j : Str} (ha : Evd K ta δ (.str i)) (hb : Evd K tb δ (.str j)) : Evd K (tOp rNe ta tb) δ (.bl (!decide (i = j))) := ev_opF ha hb rfl rfl rfl fun H Q q => ⟨rfl, by
  have e : decide (V.str i = V.str j) = decide (i = j) := by
    by_cases h : i = j
    · subst h; simp
    · rw [decide_eq_false h]; exact decide_eq_false fun z => h (V.str.inj z)
  show Q (.bl (!decide (V.str i = V.str j))) H
  rw [e]; exact q⟩
/-- == of scalars, whatever they are -/
theorem ev_eqF (ha : Evd K ta δ a) (hb : Evd K tb δ b) (fa : flat a = true) (fb : flat b = true) (hs : scal (vOf a) (vOf b) = true) : Evd K (tOp rEq ta tb) δ (.bl (decide (vOf a = vOf b))) := ev_opF ha hb fa fb rfl fun H Q q => ⟨hs, q⟩
theorem ev_neF (ha : Evd K ta δ a) (hb : Evd K tb δ b) (fa : flat a = true) (fb : flat b = true) (hs : scal (vOf a) (vOf b) = true) : Evd K (tOp rNe ta tb) δ (.bl (!decide (vOf a = vOf b))) := ev_opF ha hb fa fb rfl fun H Q q => ⟨hs, q⟩
abbrev rCatStr : R2 := fun x y H Q => ∃ i j, x = .str i ∧ y = .str j ∧ i.length + j.length ≤ sizeLine ∧ Q (.str (i ++ j)) H
theorem ev_addS {i j : Str} (ha : Evd K ta δ (.str i)) (hb : Evd K tb δ (.str j)) (h : i.length + j.length ≤ sizeLine) : Evd K (tOp rCatStr ta tb) δ (.str (i ++ j)) := ev_opF ha hb rfl rfl rfl fun H Q q => ⟨i, j, rfl, rfl, h, q⟩
theorem ev_neg {i : Int} (ha : Evd K ta δ (.int i)) : Evd K (tUn (rU fun i => .int (-i)) ta) δ (.int (-i)) := fun B G H σ R Q q => ha B G H σ R _ fun v G1 H1 R1 s r => by
  rw [r.flat rfl]
  exact ⟨i, rfl, q _ G1 H1 R1 s (.int _)⟩
/-! ### tests, and, or, not, if -/
theorem et_B {x : Bool} (h : Evd K te δ (.bl x)) : Evt K (tB te) δ x := fun B G H σ R Q q => h B G H σ R _ fun v G1 H1 R1 s r => by
  rw [r.flat rfl]
  exact ⟨x, rfl, q G1 H1 R1 s⟩
theorem et_test {x : Bool} (h : Evd K te δ (.bl x)) : Evt K (tTest te) δ x := fun B G H σ R Q q => h B G H σ R _ fun v G1 H1 R1 s r => by
  rw [r.flat rfl]
  exact ⟨x, rfl, q G1 H1 R1 s⟩
theorem et_not {x : Bool} (h : Evt K t δ x) : Evt K (tNot t) δ (!x) := fun B G H σ R Q q => h B G H σ R _ q
theorem et_and {x y : Bool} (h : Evt K t δ x) (h2 : x = true → Evt K u δ y) : Evt K (tAnd t u) δ (x && y) := fun B G H σ R Q q => h B G H σ R _ fun G1 H1 R1 s => by
  cases x with
  | true => exact h2 rfl B G1 H1 σ R1 _ fun G2 H2 R2 s2 => q G2 H2 R2 (s.trans s2)
  | false => exact q G1 H1 R1 s
theorem et_or {x y : Bool} (h : Evt K t δ x) (h2 : x = false → Evt K u δ y) : Evt K (tOr t u) δ (x || y) := fun B G H σ R Q q => h B G H σ R _ fun G1 H1 R1 s => by
  cases x with
  | true => exact q G1 H1 R1 s
  | false => exact h2 rfl B G1 H1 σ R1 _ fun G2 H2 R2 s2 => q G2 H2 R2 (s.trans s2)
theorem ev_andV {x y : Bool} (h : Evd K ta δ (.bl x)) (h2 : x = true → Evd K tb δ (.bl y)) : Evd K (tAndV ta tb) δ (.bl (x && y)) := fun B G H σ R Q q => h B G H σ R _ fun v G1 H1 R1 s r => by
  rw [r.flat rfl]
  refine ⟨x, rfl, ?_⟩
  cases x with
  | true => exact h2 rfl B G1 H1 σ R1 _ fun v G2 H2 R2 s2 r2 => q v G2 H2 R2 (s.trans s2) r2
  | false => exact q _ G1 H1 R1 s (.bl false)
theorem ev_orV {x y : Bool} (h : Evd K ta δ (.bl x)) (h2 : x = false → Evd K tb δ (.bl y)) : Evd K (tOrV ta tb) δ (.bl (x || y)) := fun B G H σ R Q q => h B G H σ R _ fun v G1 H1 R1 s r => by
  rw [r.flat rfl]
  refine ⟨x, rfl, ?_⟩
  cases x with
  | true => exact q _ G1 H1 R1 s (.bl true)
  | false => exact h2 rfl B G1 H1 σ R1 _ fun v G2 H2 R2 s2 r2 => q v G2 H2 R2 (s.trans s2) r2
theorem ev_notV {x : Bool} (h : Evd K ta δ (.bl x)) : Evd K (tNotV ta) δ (.bl (!x)) := fun B G H σ R Q q => h B G H σ R _ fun v G1 H1 R1 s r => by
  rw [r.flat rfl]
  exact ⟨x, rfl, q _ G1 H1 R1 s (.bl _)⟩
theorem ev_ifT (h : Evt K t δ true) (h2 : Evd K ta δ d) : Evd K (tIf t ta tb) δ d := fun B G H σ R Q q => h B G H σ R _ fun G1 H1 R1 s => by
  exact h2 B G1 H1 σ R1 _ fun v G2 H2 R2 s2 r2 => q v G2 H2 R2 (s.trans s2) r2
theorem ev_ifF (h : Evt K t δ false) (h2 : Evd K tb δ d) : Evd K (tIf t ta tb) δ d := fun B G H σ R Q q => h B G H σ R _ fun G1 H1 R1 s => by
  exact h2 B G1 H1 σ R1 _ fun v G2 H2 R2 s2 r2 => q v G2 H2 R2 (s.trans s2) r2
theorem ev_if {x : Bool} {d1 d2 : PD} (h : Evt K t δ x) (h1 : x = true → Evd K ta δ d1) (h2 : x = false → Evd K tb δ d2) : Evd K (tIf t ta tb) δ (if x = true then d1 else d2) := by
  cases x with
  | true => exact ev_ifT h (h1 rfl)
  | false => exact ev_ifF h (h2 rfl)
theorem eo_ifT {o : OD} (h : Evt K t δ true) (h2 : Evo K ta δ o) : Evo K (tIf t ta tb) δ o := fun B G H σ R Q q => h B G H σ R _ fun G1 H1 R1 s => by
  exact h2 B G1 H1 σ R1 _ fun v G2 H2 R2 s2 n2 g2 r2 => q v G2 H2 R2 (s.trans s2) (fresh_bk s.eh n2) g2 r2
theorem eo_ifF {o : OD} (h : Evt K t δ false) (h2 : Evo K tb δ o) : Evo K (tIf t ta tb) δ o := fun B G H σ R Q q => h B G H σ R _ fun G1 H1 R1 s => by
  exact h2 B G1 H1 σ R1 _ fun v G2 H2 R2 s2 n2 g2 r2 => q v G2 H2 R2 (s.trans s2) (fresh_bk s.eh n2) g2 r2
/-! ### arguments -/
theorem es_nil : Evs K tNil δ [] := fun B G H σ R Q q => q [] G H R (Step.refl R.gh) .nil
theorem es_cons {tr : TA} {ds : List PD} (h : Evd K te δ d) (hr : Evs K tr δ ds) : Evs K (tCons te tr) δ (d :: ds) := fun B G H σ R Q q =>
  h B G H σ R _ fun v G1 H1 R1 s r => hr B G1 H1 σ R1 _ fun vs G2 H2 R2 s2 rs => q _ G2 H2 R2 (s.trans s2) (.cons (r.mono s2.eg) rs)
/-! ### new objects -/
theorem evd_of_evo {o : OD} (h : Evo K te δ o) : Evd K te δ o.pd := fun B G H σ R Q q => h B G H σ R _ fun p G1 H1 R1 s hp gp ok => by
  obtain ⟨ob, hob⟩ : ∃ ob, H1 p = some ob := by
    cases z : H1 p with
    | none => exact absurd z ok.live
    | some ob => exact ⟨ob, rfl⟩
  have bp : B.H p = none := by
    cases z : B.H p with
    | none => rfl
    | some ob => exact absurd hp (R.h1 p (some_ne z))
  have hn : ∀ i, ¬ Holds σ δ i p := R.notHeld hp
  exact q _ _ H1 (R1.publish gp hob bp hn (by obtain ⟨u, n, e⟩ := ok.nt; rw [hob] at e; cases e; exact n)) (s.publish hob gp hp) (ok.pub hob gp)
theorem rd_of_evo {o : OD} (h : Evo K te δ o) : Rdo K te δ o := fun B G H σ R Q q => h B G H σ R _ fun p G1 H1 R1 s hp gp ok => q p G1 H1 R1 s ok
theorem rd_lst {ds : List PD} (h : Evd K te δ (.lst ds)) : Rdo K te δ (.lst ds) := fun B G H σ R Q q => h B G H σ R _ fun v G1 H1 R1 s r => by
  cases r with
  | lst h1 h2 => exact q _ G1 H1 R1 s ⟨_, R1.gh _ _ h1, h2⟩
theorem rd_dic {ds : List (Key × PD)} (h : Evd K te δ (.dic ds)) : Rdo K te δ (.dic ds) := fun B G H σ R Q q => h B G H σ R _ fun v G1 H1 R1 s r => by
  cases r with
  | dic h1 h2 => exact q _ G1 H1 R1 s ⟨_, R1.gh _ _ h1, h2⟩
theorem rd_ow {i : Nat} {o : OD} (h : δ[i]? = some (.ow o)) : Rdo K (tVar i) δ o := fun B G H σ R Q q => by
  obtain ⟨p, e, _, _, ok⟩ := R.getO h
  exact ⟨_, e, q p G H R (Step.refl R.gh) ok⟩
theorem rd_pn {i : Nat} {o : OD} (h : δ[i]? = some (.pn o)) : Rdo K (tVar i) δ o := fun B G H σ R Q q => by
  obtain ⟨p, e, _, _, ok⟩ := R.getP h
  exact ⟨_, e, q p G H R (Step.refl R.gh) ok⟩
/-- an object is laid and kept as one's own -/
theorem own_laid {B : Base} {G H G1 H1 : Hp} {σ : St} {p : Addr} {o : OD} {ob : HO} (R : RepS K B G1 H1 σ δ) (hp : H1 p = none) (ok : OwnOk K G1 (upd H1 p ob) p o) : RepS K B G1 (upd H1 p ob) σ δ ∧ G1 p = none ∧ OwnOk K G1 (upd H1 p ob) p o :=
  ⟨R.hid hp, fresh_back R.gh hp, ok⟩
theorem eo_lst {ta : TA} {ds : List PD} (h : Evs K ta δ ds) (hl : ds.length ≤ 100000) : Evo K (tLst ta) δ (.lst ds) := fun B G H σ R Q q => h B G H σ R _ fun vs G1 H1 R1 s rs =>
  ⟨Nat.le_trans (by rw [rs.length]; exact hl) (by decide), fun p hp => q p G1 _ (R1.hid hp) (s.hid hp) (fresh_bk s.eh hp) (fresh_back R1.gh hp) ⟨vs, upd_same, rs⟩⟩
theorem ev_tup {ta : TA} {ds : List PD} (h : Evs K ta δ ds) (hl : ds.length ≤ 100000) : Evd K (tTup ta) δ (.tup ds) := fun B G H σ R Q q => h B G H σ R _ fun vs G1 H1 R1 s rs =>
  ⟨Nat.le_trans (by rw [rs.length]; exact hl) (by decide), fun p hp => q _ _ _ (R1.laid hp) (s.laid hp) (.tup (Or.inl (Or.inl upd_same)) (rs.mono (same_new (fresh_back R1.gh hp))))⟩
theorem eo_newD : Evo K tDNewK δ (.dic []) := fun B G H σ R Q q p hp => q p G _ (R.hid hp) ((Step.refl R.gh).hid hp) hp (fresh_back R.gh hp) ⟨[], upd_same, .nil⟩
end
end Fw
namespace Fw
open PySem L2
section
variable {K : FK} {δ : AE} {ta tb te tx : TE} {t u : TT} {a b c d : PD}
/-! ### subscripts -/
theorem atI_rep {G : Hp} {vs : List V} {ds : List PD} {i : Int} (r : Reps K G vs ds) (h : atI ds i = some d) : ∃ v, atI vs i = some v ∧ Rep K G v d := by
  unfold atI at h ⊢
  rw [r.length]
  cases e : ixN ds.length i with
  | none => rw [e] at h; cases h
  | some j =>
    rw [e] at h
    exact r.get h
theorem ev_ixL {ds : List PD} {i : Int} (ha : Rdo K ta δ (.lst ds)) (hb : Evd K tb δ (.int i)) (h : atI ds i = some d) : Evd K (tOp (rIxL K) ta tb) δ d := fun B G H σ R Q q =>
  ha B G H σ R _ fun p G1 H1 R1 s1 ok => hb B G1 H1 σ R1 _ fun y G2 H2 R2 s2 ry => by
    obtain ⟨vs, hp, rs⟩ := ok
    rw [ry.flat rfl]
    obtain ⟨v, e, r⟩ := atI_rep (rs.mono s2.eg) h
    exact ⟨p, vs, i, v, rfl, rfl, Or.inl (Or.inl (s2.eh.get _ _ hp)), e, q v G2 H2 R2 (s1.trans s2) r⟩
theorem ev_ixT {ds : List PD} {i : Int} (ha : Evd K ta δ (.tup ds)) (hb : Evd K tb δ (.int i)) (h : atI ds i = some d) : Evd K (tOp (rIxT K) ta tb) δ d := fun B G H σ R Q q =>
  ha B G H σ R _ fun x G1 H1 R1 s1 rx => hb B G1 H1 σ R1 _ fun y G2 H2 R2 s2 ry => by
    rw [ry.flat rfl]
    cases rx with
    | @tup p vs _ hp rs =>
    obtain ⟨v, e, r⟩ := atI_rep (rs.mono s2.eg) h
    exact ⟨p, vs, i, v, rfl, rfl, sam_sqT s2.eh (same_sqT R1.gh hp), e, q v G2 H2 R2 (s1.trans s2) r⟩
theorem ev_ixS {z : Str} {i : Int} {c : Nat} (ha : Evd K ta δ (.str z)) (hb : Evd K tb δ (.int i)) (hz : z.length ≤ sizeLine) (h : atI z.cps.toList i = some c) : Evd K (tOp rIxS ta tb) δ (.str ⟨#[c]⟩) :=
  ev_opF ha hb rfl rfl rfl fun H Q q => ⟨z, i, c, rfl, rfl, hz, h, q⟩
/-- an item of the script -/
theorem ev_ixN {ns : List Int} {i n : Int} (ha : Evd K ta δ (.scr ns)) (hb : Evd K tb δ (.int i)) (h : atI ns i = some n) : Evd K (tOp (rIxL K) ta tb) δ (.int n) := fun B G H σ R Q q =>
  ha B G H σ R _ fun x G1 H1 R1 s1 rx => hb B G1 H1 σ R1 _ fun y G2 H2 R2 s2 ry => by
    rw [ry.flat rfl]
    cases rx with
    | @scr p _ hp =>
    have e : atI (ns.map V.int) i = some (.int n) := by
      unfold atI at h ⊢
      rw [List.length_map]
      cases e : ixN ns.length i with
      | none => rw [e] at h; cases h
      | some j =>
        rw [e] at h
        show (ns.map V.int)[j]? = _
        have h' : ns[j]? = some n := h
        rw [List.getElem?_map, h']
        rfl
    exact ⟨p, ns.map V.int, i, .int n, rfl, rfl, sam_sqL s2.eh (same_sqL R1.gh hp), e, q _ G2 H2 R2 (s1.trans s2) (.int n)⟩
/-- d[k], k a text -/
theorem ev_dget {kds : List (Key × PD)} {z : Str} (ha : Rdo K ta δ (.dic kds)) (hb : Evd K tb δ (.str z)) (h : look kds (.inr z) = some d) : Evd K (tDGet ta tb) δ d := fun B G H σ R Q q =>
  ha B G H σ R _ fun p G1 H1 R1 s1 ok => hb B G1 H1 σ R1 _ fun y G2 H2 R2 s2 ry => by
    obtain ⟨kvs, hp, rs⟩ := ok
    rw [ry.flat rfl]
    have r := (rs.mono s2.eg).val (.inr z)
    rw [h] at r
    cases e : valV kvs (Sum.inr z : Key) with
    | none => rw [e] at r; exact r.elim
    | some v =>
      rw [e] at r
      refine ⟨p, v, rfl, Or.inl ⟨kvs, .inr z, Or.inl (s2.eh.get _ _ hp), rfl, e.symm⟩, q v G2 H2 R2 (s1.trans s2) r⟩
theorem ev_dgetI {kds : List (Key × PD)} {z : Int} (ha : Rdo K ta δ (.dic kds)) (hb : Evd K tb δ (.int z)) (h : look kds (.inl z) = some d) : Evd K (tDGet ta tb) δ d := fun B G H σ R Q q =>
  ha B G H σ R _ fun p G1 H1 R1 s1 ok => hb B G1 H1 σ R1 _ fun y G2 H2 R2 s2 ry => by
    obtain ⟨kvs, hp, rs⟩ := ok
    rw [ry.flat rfl]
    have r := (rs.mono s2.eg).val (.inl z)
    rw [h] at r
    cases e : valV kvs (Sum.inl z : Key) with
    | none => rw [e] at r; exact r.elim
    | some v =>
      rw [e] at r
      refine ⟨p, v, rfl, Or.inl ⟨kvs, .inl z, Or.inl (s2.eh.get _ _ hp), rfl, e.symm⟩, q v G2 H2 R2 (s1.trans s2) r⟩
theorem optRep_some {G : Hp} {o : Option V} {o' : Option PD} (r : OptRep K G o o') : o.isSome = o'.isSome := by
  cases o <;> cases o' <;> first | rfl | exact r.elim
theorem ev_din {kds : List (Key × PD)} {z : Str} (hb : Evd K tb δ (.str z)) (ha : Rdo K ta δ (.dic kds)) : Evd K (tDIn tb ta) δ (.bl (look kds (.inr z)).isSome) := fun B G H σ R Q q =>
  hb B G H σ R _ fun y G1 H1 R1 s1 ry => ha B G1 H1 σ R1 _ fun p G2 H2 R2 s2 ok => by
    obtain ⟨kvs, hp, rs⟩ := ok
    rw [ry.flat rfl]
    have r := optRep_some (rs.val (.inr z))
    refine ⟨p, valV kvs (Sum.inr z : Key), rfl, Or.inl ⟨kvs, .inr z, Or.inl hp, rfl, rfl⟩, ?_⟩
    rw [r]
    exact q _ G2 H2 R2 (s1.trans s2) (.bl _)
theorem ev_dnotin {kds : List (Key × PD)} {z : Str} (hb : Evd K tb δ (.str z)) (ha : Rdo K ta δ (.dic kds)) : Evd K (tDNotIn tb ta) δ (.bl (!(look kds (.inr z)).isSome)) := fun B G H σ R Q q =>
  hb B G H σ R _ fun y G1 H1 R1 s1 ry => ha B G1 H1 σ R1 _ fun p G2 H2 R2 s2 ok => by
    obtain ⟨kvs, hp, rs⟩ := ok
    rw [ry.flat rfl]
    have r := optRep_some (rs.val (.inr z))
    refine ⟨p, valV kvs (Sum.inr z : Key), rfl, Or.inl ⟨kvs, .inr z, Or.inl hp, rfl, rfl⟩, ?_⟩
    rw [r]
    exact q _ G2 H2 R2 (s1.trans s2) (.bl _)
theorem ev_dinI {kds : List (Key × PD)} {z : Int} (hb : Evd K tb δ (.int z)) (ha : Rdo K ta δ (.dic kds)) : Evd K (tDIn tb ta) δ (.bl (look kds (.inl z)).isSome) := fun B G H σ R Q q =>
  hb B G H σ R _ fun y G1 H1 R1 s1 ry => ha B G1 H1 σ R1 _ fun p G2 H2 R2 s2 ok => by
    obtain ⟨kvs, hp, rs⟩ := ok
    rw [ry.flat rfl]
    have r := optRep_some (rs.val (.inl z))
    refine ⟨p, valV kvs (Sum.inl z : Key), rfl, Or.inl ⟨kvs, .inl z, Or.inl hp, rfl, rfl⟩, ?_⟩
    rw [r]
    exact q _ G2 H2 R2 (s1.trans s2) (.bl _)
theorem ev_dnotinI {kds : List (Key × PD)} {z : Int} (hb : Evd K tb δ (.int z)) (ha : Rdo K ta δ (.dic kds)) : Evd K (tDNotIn tb ta) δ (.bl (!(look kds (.inl z)).isSome)) := fun B G H σ R Q q =>
  hb B G H σ R _ fun y G1 H1 R1 s1 ry => ha B G1 H1 σ R1 _ fun p G2 H2 R2 s2 ok => by
    obtain ⟨kvs, hp, rs⟩ := ok
    rw [ry.flat rfl]
    have r := optRep_some (rs.val (.inl z))
    refine ⟨p, valV kvs (Sum.inl z : Key), rfl, Or.inl ⟨kvs, .inl z, Or.inl hp, rfl, rfl⟩, ?_⟩
    rw [r]
    exact q _ G2 H2 R2 (s1.trans s2) (.bl _)
/-! ### slices, sums of lists -/
def Evop (K : FK) (to : TO) (δ : AE) (o : Option Int) : Prop := ∀ (B : Base) (G H : Hp) (σ : St), RepS K B G H σ δ → ∀ Q : Option Int → Hp → Prop, (∀ G' H', RepS K B G' H' σ δ → Step G H G' H' → Q o H') → to σ H Q
theorem ep_none : Evop K tNoPart δ none := fun B G H σ R Q q => q G H R (Step.refl R.gh)
theorem ep_some {i : Int} (h : Evd K te δ (.int i)) : Evop K (tPart te) δ (some i) := fun B G H σ R Q q => h B G H σ R _ fun v G1 H1 R1 s r => by
  rw [r.flat rfl]
  exact ⟨i, rfl, q G1 H1 R1 s⟩
def cutD (xs : List PD) (lo hi : Option Int) : List PD := (xs.drop (HT.sIx xs.length 0 lo)).take (HT.sIx xs.length xs.length hi - HT.sIx xs.length 0 lo)
theorem Reps.cut {G : Hp} {vs : List V} {ds : List PD} (r : Reps K G vs ds) (lo hi : Option Int) : Reps K G (cutV vs lo hi) (cutD ds lo hi) := by
  unfold cutV cutD
  rw [r.length]
  exact (r.drop _).take _
theorem eo_slL {ds : List PD} {tl th : TO} {lo hi : Option Int} (ha : Rdo K ta δ (.lst ds)) (h1 : Evop K tl δ lo) (h2 : Evop K th δ hi) : Evo K (tSl (rSlL K) ta tl th) δ (.lst (cutD ds lo hi)) := fun B G H σ R Q q =>
  ha B G H σ R _ fun p G1 H1 R1 s1 ok => h1 B G1 H1 σ R1 _ fun G2 H2 R2 s2 => h2 B G2 H2 σ R2 _ fun G3 H3 R3 s3 => by
    obtain ⟨vs, hp, rs⟩ := ok
    refine ⟨p, vs, rfl, Or.inl (Or.inl (s3.eh.get _ _ (s2.eh.get _ _ hp))), fun l hl => ?_⟩
    exact q l G3 _ (R3.hid hl) (((s1.trans s2).trans s3).hid hl) (fresh_bk ((s1.trans s2).trans s3).eh hl) (fresh_back R3.gh hl) ⟨_, upd_same, ((rs.mono s2.eg).mono s3.eg).cut lo hi⟩
theorem eo_cat {xs ys : List PD} (ha : Rdo K ta δ (.lst xs)) (hb : Rdo K tb δ (.lst ys)) (hz : xs.length + ys.length ≤ 100000) : Evo K (tOp rCat ta tb) δ (.lst (xs ++ ys)) := fun B G H σ R Q q =>
  ha B G H σ R _ fun p G1 H1 R1 s1 ok1 => hb B G1 H1 σ R1 _ fun p2 G2 H2 R2 s2 ok2 => by
    obtain ⟨vs, hp, rs⟩ := ok1
    obtain ⟨us, hp2, rs2⟩ := ok2
    refine ⟨p, p2, vs, us, rfl, rfl, s2.eh.get _ _ hp, hp2, Nat.le_trans (by rw [rs.length, rs2.length]; exact hz) (by decide), fun l hl => ?_⟩
    exact q l G2 _ (R2.hid hl) ((s1.trans s2).hid hl) (fresh_bk (s1.trans s2).eh hl) (fresh_back R2.gh hl) ⟨_, upd_same, (rs.mono s2.eg).append rs2⟩
/-! ### built-ins -/
abbrev rLenS (K : FK) : List V → Hp → VK → Prop := fun xs H Q => ∃ p ys, xs = [.ref p] ∧ (SqL K H p ys ∨ SqT K H p ys) ∧ Q (.int ys.length) H
theorem ev_lenL {ds : List PD} (ha : Rdo K ta δ (.lst ds)) : Evd K (tCB (rLenS K) (tCons ta tNil)) δ (.int ds.length) := fun B G H σ R Q q =>
  ha B G H σ R _ fun p G1 H1 R1 s1 ok => by
    obtain ⟨vs, hp, rs⟩ := ok
    refine ⟨p, vs, rfl, Or.inl (Or.inl (Or.inl hp)), ?_⟩
    rw [rs.length]
    exact q _ G1 H1 R1 s1 (.int _)
theorem ev_lenT {ds : List PD} (ha : Evd K ta δ (.tup ds)) : Evd K (tCB (rLenS K) (tCons ta tNil)) δ (.int ds.length) := fun B G H σ R Q q =>
  ha B G H σ R _ fun x G1 H1 R1 s1 rx => by
    cases rx with
    | @tup p vs _ hp rs =>
    refine ⟨p, vs, rfl, Or.inr (same_sqT R1.gh hp), ?_⟩
    rw [rs.length]
    exact q _ G1 H1 R1 s1 (.int _)
theorem ev_lenN {ns : List Int} (ha : Evd K ta δ (.scr ns)) : Evd K (tCB (rLenS K) (tCons ta tNil)) δ (.int ns.length) := fun B G H σ R Q q =>
  ha B G H σ R _ fun x G1 H1 R1 s1 rx => by
    cases rx with
    | @scr p _ hp =>
    refine ⟨p, ns.map V.int, rfl, Or.inl (same_sqL R1.gh hp), ?_⟩
    rw [List.length_map]
    exact q _ G1 H1 R1 s1 (.int _)
abbrev rLenD : List V → Hp → VK → Prop := fun xs H Q => ∃ a kvs, xs = [V.ref a] ∧ H a = some (.dK kvs) ∧ Q (.int kvs.length) H
theorem ev_lenD {kds : List (Key × PD)} (ha : Rdo K ta δ (.dic kds)) : Evd K (tCB rLenD (tCons ta tNil)) δ (.int kds.length) := fun B G H σ R Q q =>
  ha B G H σ R _ fun p G1 H1 R1 s1 ok => by
    obtain ⟨vs, hp, rs⟩ := ok
    refine ⟨p, vs, rfl, hp, ?_⟩
    rw [rs.length]
    exact q _ G1 H1 R1 s1 (.int _)
abbrev rLenStr : List V → Hp → VK → Prop := fun xs H Q => ∃ z, xs = [.str z] ∧ z.length ≤ sizeLine ∧ Q (.int z.length) H
theorem ev_lenS {z : Str} (ha : Evd K ta δ (.str z)) (hz : z.length ≤ sizeLine) : Evd K (tCB rLenStr (tCons ta tNil)) δ (.int z.length) := fun B G H σ R Q q =>
  ha B G H σ R _ fun x G1 H1 R1 s1 rx => by
    rw [rx.flat rfl]
    exact ⟨z, rfl, hz, q _ G1 H1 R1 s1 (.int _)⟩
abbrev rInt1 : List V → Hp → VK → Prop := fun xs H Q => (∃ i, xs = [.int i] ∧ Q (.int i) H) ∨ ∃ k, xs = [.bl k] ∧ Q (.int (if k then 1 else 0)) H
theorem ev_intB {x : Bool} (ha : Evd K ta δ (.bl x)) : Evd K (tCB rInt1 (tCons ta tNil)) δ (.int (if x then 1 else 0)) := fun B G H σ R Q q =>
  ha B G H σ R _ fun x' G1 H1 R1 s1 rx => by
    rw [rx.flat rfl]
    exact Or.inr ⟨x, rfl, q _ G1 H1 R1 s1 (.int _)⟩
abbrev rMin2 : List V → Hp → VK → Prop := fun xs H Q => ∃ i j, xs = [.int i, .int j] ∧ Q (.int (if j < i then j else i)) H
theorem ev_min2 {i j : Int} (ha : Evd K ta δ (.int i)) (hb : Evd K tb δ (.int j)) : Evd K (tCB rMin2 (tCons ta (tCons tb tNil))) δ (.int (min i j)) := fun B G H σ R Q q =>
  ha B G H σ R _ fun x G1 H1 R1 s1 rx => hb B G1 H1 σ R1 _ fun y G2 H2 R2 s2 ry => by
    rw [rx.flat rfl, ry.flat rfl]
    refine ⟨i, j, rfl, ?_⟩
    have e : (if j < i then j else i) = min i j := by
      by_cases h : j < i
      · rw [if_pos h]; omega
      · rw [if_neg h]; omega
    rw [e]
    exact q _ G2 H2 R2 (s1.trans s2) (.int _)
abbrev rListOf (K : FK) : List V → Hp → VK → Prop := fun xs H Q => ∃ p ys, xs = [.ref p] ∧ (SqL K H p ys ∨ SqT K H p ys) ∧ ∀ l, H l = none → Q (.ref l) (upd H l (.lst ys))
theorem eo_listL {ds : List PD} (ha : Rdo K ta δ (.lst ds)) : Evo K (tCB (rListOf K) (tCons ta tNil)) δ (.lst ds) := fun B G H σ R Q q =>
  ha B G H σ R _ fun p G1 H1 R1 s1 ok => by
    obtain ⟨vs, hp, rs⟩ := ok
    refine ⟨p, vs, rfl, Or.inl (Or.inl (Or.inl hp)), fun l hl => ?_⟩
    exact q l G1 _ (R1.hid hl) (s1.hid hl) (fresh_bk s1.eh hl) (fresh_back R1.gh hl) ⟨_, upd_same, rs⟩
theorem eo_listT {ds : List PD} (ha : Evd K ta δ (.tup ds)) : Evo K (tCB (rListOf K) (tCons ta tNil)) δ (.lst ds) := fun B G H σ R Q q =>
  ha B G H σ R _ fun x G1 H1 R1 s1 rx => by
    cases rx with
    | @tup p vs _ hp rs =>
    refine ⟨p, vs, rfl, Or.inr (same_sqT R1.gh hp), fun l hl => ?_⟩
    exact q l G1 _ (R1.hid hl) (s1.hid hl) (fresh_bk s1.eh hl) (fresh_back R1.gh hl) ⟨_, upd_same, rs⟩
def kPD : Key → PD
  | .inl i => .int i
  | .inr x => .str x
theorem rep_kPD {G : Hp} (k : Key) : Rep K G (kV k) (kPD k) := by
  cases k with
  | inl i => exact .int i
  | inr x => exact .str x
theorem RepsK.keyReps {G : Hp} : ∀ {vs : List (Key × V)} {ds : List (Key × PD)}, RepsK K G vs ds → Reps K G (vs.map fun kv => kV kv.1) (ds.map fun kd => kPD kd.1)
  | _, _, .nil => .nil
  | _, _, .cons _ r => .cons (rep_kPD _) (RepsK.keyReps r)
theorem eo_listD {kds : List (Key × PD)} (ha : Rdo K ta δ (.dic kds)) : Evo K (tCB rListD (tCons ta tNil)) δ (.lst (kds.map fun kd => kPD kd.1)) := fun B G H σ R Q q =>
  ha B G H σ R _ fun p G1 H1 R1 s1 ok => by
    obtain ⟨kvs, hp, rs⟩ := ok
    refine ⟨p, kvs, rfl, hp, fun l hl => ?_⟩
    exact q l G1 _ (R1.hid hl) (s1.hid hl) (fresh_bk s1.eh hl) (fresh_back R1.gh hl) ⟨_, upd_same, rs.keyReps⟩
abbrev rDictD : List V → Hp → VK → Prop := fun xs H Q => ∃ (a : Addr) (kvs : List (Key × V)), xs = [.ref a] ∧ Rd H a (.dK kvs) ∧ ∀ p, H p = none → Q (.ref p) (upd H p (.dK kvs))
theorem eo_dictD {kds : List (Key × PD)} (ha : Rdo K ta δ (.dic kds)) : Evo K (tCB rDictD (tCons ta tNil)) δ (.dic kds) := fun B G H σ R Q q =>
  ha B G H σ R _ fun p G1 H1 R1 s1 ok => by
    obtain ⟨kvs, hp, rs⟩ := ok
    refine ⟨p, kvs, rfl, Or.inl hp, fun l hl => ?_⟩
    exact q l G1 _ (R1.hid hl) (s1.hid hl) (fresh_bk s1.eh hl) (fresh_back R1.gh hl) ⟨_, upd_same, rs⟩
def tyName : PD → String
  | .non => "NoneType" | .bl _ => "bool" | .int _ => "int" | .str _ => "str" | .tup _ => "tuple" | .btup _ => "tuple" | .lst _ => "list" | .dic _ => "dict" | .scr _ => "list" | .adr _ => "?"
def tyOk : PD → Bool
  | .adr _ => false | _ => true
theorem Rep.ty {G H : Hp} {v : V} (h : Rep K G v d) (e : Same G H) (f : tyOk d = true) : TyX K H v (.type (tyName d)) := by
  cases h with
  | non => exact .base .non
  | bl x => exact .base (.bl x)
  | int x => exact .base (.int x)
  | str x => exact .base (.str x)
  | tup h1 h2 =>
    rcases h1 with (h1 | ⟨o, h1⟩) | ⟨o, _, _, h1, h3, _⟩
    · exact .base (.tup (e _ _ h1))
    · exact .fTuple (e _ _ h1)
    · exact .kTuple h1 (by first | exact h3 | exact h3.1)
  | btup h1 h2 h3 => exact .fTuple (e _ _ h1)
  | lst h1 h2 => exact .base (.lst (e _ _ h1))
  | dic h1 h2 => exact .base (.dK (e _ _ h1))
  | scr h1 =>
    rcases h1 with (h1 | ⟨o, h1⟩) | ⟨o, _, _, h1, h3, _⟩
    · exact .base (.lst (e _ _ h1))
    · exact .base (.frz (e _ _ h1))
    · exact .kList h1 (by first | exact h3 | exact h3.1)
  | adr p => cases f
def kitX (d : PD) (n : String) : Option Bool := match d with
  | .adr _ => none
  | d => kitB (tyName d) n
theorem kitX_of {n : String} {x : Bool} (h : kitX d n = some x) : tyOk d = true ∧ kitB (tyName d) n = some x := by
  cases d <;> first | exact ⟨rfl, h⟩ | cases h
theorem ev_isi {n : String} {x : Bool} (ha : Evd K ta δ d) (hk : kitX d n = some x) : Evd K (tCB (rIsi K) (tCons ta (tCons (tC (.ty n)) tNil))) δ (.bl x) := fun B G H σ R Q q =>
  ha B G H σ R _ fun v G1 H1 R1 s1 rv => ⟨v, .ty n, _, _, x, rfl, .ty n, rv.ty R1.gh (kitX_of hk).1, kit_ty (kitX_of hk).2, q _ G1 H1 R1 s1 (.bl x)⟩
theorem ev_isiO {n : String} {x : Bool} {o : OD} (ha : Rdo K ta δ o) (hk : kitB (tyName o.pd) n = some x) : Evd K (tCB (rIsi K) (tCons ta (tCons (tC (.ty n)) tNil))) δ (.bl x) := fun B G H σ R Q q =>
  ha B G H σ R _ fun p G1 H1 R1 s1 ok => by
    have ty : TyX K H1 (.ref p) (.type (tyName o.pd)) := by
      cases o with
      | lst ds => obtain ⟨vs, e, _⟩ := ok; exact .base (.lst e)
      | dic ds => obtain ⟨vs, e, _⟩ := ok; exact .base (.dK e)
    exact ⟨.ref p, .ty n, _, _, x, rfl, .ty n, ty, kit_ty hk, q _ G1 H1 R1 s1 (.bl x)⟩
/-- all(..) of a list of bools -/
theorem reps_bl {G : Hp} : ∀ {vs : List V} {bs : List Bool}, Reps K G vs (bs.map PD.bl) → vs = bs.map V.bl
  | [], [], _ => rfl
  | [], _ :: _, h => by cases h
  | _ :: _, [], h => by cases h
  | v :: vs, x :: bs, h => by
    cases h with
    | cons h1 h2 =>
      rw [List.map_cons, reps_bl h2, h1.flat rfl]
      rfl
theorem ev_all {bs : List Bool} (ha : Rdo K ta δ (.lst (bs.map PD.bl))) : Evd K (tCB (rAll K) (tCons ta tNil)) δ (.bl (bs.all id)) := fun B G H σ R Q q =>
  ha B G H σ R _ fun p G1 H1 R1 s1 ok => by
    obtain ⟨vs, hp, rs⟩ := ok
    rw [reps_bl rs] at hp
    exact ⟨p, bs, rfl, Or.inl (Or.inl hp), q _ G1 H1 R1 s1 (.bl _)⟩
/-- x in [..], x in (..), of scalars -/
theorem flatV_vOf (f : flat d = true) : flatV (vOf d) = true := by
  cases d <;> first | rfl | cases f
theorem reps_flat {G : Hp} : ∀ {vs : List V} {ds : List PD}, Reps K G vs ds → ds.all flat = true → vs = ds.map vOf
  | [], [], _, _ => rfl
  | [], _ :: _, h, _ => by cases h
  | _ :: _, [], h, _ => by cases h
  | v :: vs, x :: bs, h, f => by
    cases h with
    | cons h1 h2 =>
      rw [List.all_cons, Bool.and_eq_true] at f
      rw [List.map_cons, reps_flat h2 f.2, h1.flat f.1]
theorem all_flatV : ∀ {ds : List PD}, ds.all flat = true → (ds.map vOf).all flatV = true
  | [], _ => rfl
  | d :: ds, f => by
    rw [List.all_cons, Bool.and_eq_true] at f
    rw [List.map_cons, List.all_cons, all_flatV f.2, flatV_vOf f.1]
    rfl
theorem ev_inL {ds : List PD} (neg : Bool) (ha : Evd K ta δ a) (hb : Rdo K tb δ (.lst ds)) (fa : flat a = true) (fb : ds.all flat = true) : Evd K (tOp (rIn K neg) ta tb) δ (.bl (if neg then !inV (vOf a) (ds.map vOf) else inV (vOf a) (ds.map vOf))) := fun B G H σ R Q q =>
  ha B G H σ R _ fun x G1 H1 R1 s1 rx => hb B G1 H1 σ R1 _ fun p G2 H2 R2 s2 ok => by
    obtain ⟨vs, hp, rs⟩ := ok
    rw [reps_flat rs fb] at hp
    rw [rx.flat fa]
    exact ⟨p, _, rfl, Or.inl (Or.inl (Or.inl hp)), flatV_vOf fa, all_flatV fb, q _ G2 H2 R2 (s1.trans s2) (.bl _)⟩
theorem ev_inT {ds : List PD} (neg : Bool) (ha : Evd K ta δ a) (hb : Evd K tb δ (.tup ds)) (fa : flat a = true) (fb : ds.all flat = true) : Evd K (tOp (rIn K neg) ta tb) δ (.bl (if neg then !inV (vOf a) (ds.map vOf) else inV (vOf a) (ds.map vOf))) := fun B G H σ R Q q =>
  ha B G H σ R _ fun x G1 H1 R1 s1 rx => hb B G1 H1 σ R1 _ fun y G2 H2 R2 s2 ry => by
    cases ry with
    | @tup p vs _ hp rs =>
    rw [reps_flat rs fb] at hp
    rw [rx.flat fa]
    exact ⟨p, _, rfl, Or.inr (same_sqT R2.gh hp), flatV_vOf fa, all_flatV fb, q _ G2 H2 R2 (s1.trans s2) (.bl _)⟩
/-! ### calls of pure defs -/
inductive Rt where
  /-- a value that is shared | a new object | a new tuple, new objects among its parts -/
  | val (d : PD) | own (o : OD) | otup (cs : List (PD ⊕ OD))
def CompOk (K : FK) (H G' H' : Hp) (v : V) : PD ⊕ OD → Prop
  | .inl d => Rep K G' v d
  | .inr o => ∃ p, v = .ref p ∧ H p = none ∧ G' p = none ∧ OwnOk K G' H' p o
def isOwn : PD ⊕ OD → Bool
  | .inl _ => false
  | .inr _ => true
def RtOk (K : FK) (H G' H' : Hp) (v : V) : Rt → Prop
  | .val d => Rep K G' v d
  | .own o => ∃ p, v = .ref p ∧ H p = none ∧ G' p = none ∧ OwnOk K G' H' p o
  | .otup cs => ∃ t vs, v = .ref t ∧ H t = none ∧ G' t = none ∧ H' t = some (.tup vs) ∧ vs.length = cs.length ∧ (∀ (i : Nat) (x : V) (c : PD ⊕ OD), vs[i]? = some x → cs[i]? = some c → CompOk K H G' H' x c) ∧
      ∀ (i j : Nat) (p : Addr) (c c' : PD ⊕ OD), cs[i]? = some c → cs[j]? = some c' → isOwn c = true → isOwn c' = true → vs[i]? = some (V.ref p) → vs[j]? = some (V.ref p) → i = j
def spP (K : FK) (P : List PD → Rt → Prop) : Sp := fun vs H Q _ => ∃ (G : Hp) (ds : List PD) (r : Rt), Same G H ∧ Tb K G H ∧ Reps K G vs ds ∧ P ds r ∧
  ∀ v G' H', Sam H H' → Same G G' → Same G' H' → (∀ a, H a ≠ none → G a = none → G' a = none) → RtOk K H G' H' v r → Q v H'
theorem ev_call {P : List PD → Rt → Prop} {E : XK} {t : TA} {ds : List PD} (ha : Evs K t δ ds) (h : P ds (.val d)) : Evd K (tCall (spP K P) [] E t) δ d := fun B G H σ R Q q =>
  ha B G H σ R _ fun vs G1 H1 R1 s rs => by
    rw [List.append_nil]
    exact ⟨G1, ds, .val d, R1.gh, R1.tb, rs, h, fun v G' H' eh' eg' gh' n r => q v G' H' (R1.step eg' eh' gh' n) (s.trans ⟨eg', eh', gh', n⟩) r⟩
theorem eo_call {P : List PD → Rt → Prop} {E : XK} {t : TA} {ds : List PD} {o : OD} (ha : Evs K t δ ds) (h : P ds (.own o)) : Evo K (tCall (spP K P) [] E t) δ o := fun B G H σ R Q q =>
  ha B G H σ R _ fun vs G1 H1 R1 s rs => by
    rw [List.append_nil]
    refine ⟨G1, ds, .own o, R1.gh, R1.tb, rs, h, fun v G' H' eh' eg' gh' n r => ?_⟩
    obtain ⟨p, ev, hp, gp, ok⟩ := r
    subst ev
    exact q p G' H' (R1.step eg' eh' gh' n) (s.trans ⟨eg', eh', gh', n⟩) (fresh_bk s.eh hp) gp ok
end
end Fw
namespace Fw
open PySem L2
/-! ### statements -/
structure Post where
  nx : AE → Prop
  rt : Rt → AE → Prop
  bk : AE → Prop
  ct : AE → Prop
def Sx (K : FK) (ts : TS) (δ : AE) (P : Post) : Prop := ∀ (B : Base) (G H : Hp) (σ : St) (D : Ends), RepS K B G H σ δ →
  (∀ σ' G' H' δ', P.nx δ' → RepS K B G' H' σ' δ' → Same G G' → D.nx σ' H') →
  (∀ v σ' G' H' δ' r, P.rt r δ' → RepS K B G' H' σ' δ' → Same G G' → RtOk K B.H G' H' v r → D.rt v H') →
  (∀ σ' G' H' δ', P.bk δ' → RepS K B G' H' σ' δ' → Same G G' → D.bk σ' H') →
  (∀ σ' G' H' δ', P.ct δ' → RepS K B G' H' σ' δ' → Same G G' → D.ct σ' H') → ts D σ H
theorem RepS.newFree {K : FK} {B : Base} {G H : Hp} {σ : St} {δ : AE} {p : Addr} (R : RepS K B G H σ δ) (hp : H p = none) : B.H p = none := by
  cases z : B.H p with
  | none => rfl
  | some ob => exact absurd hp (R.h1 p (some_ne z))
section
variable {K : FK} {δ : AE} {ta tb te tx : TE} {t u : TT} {tu tw tz : TS} {a b c d : PD} {P : Post}
theorem sx_next (h : P.nx δ) : Sx K tNext δ P := fun B G H σ D R hn hr hb hc => hn σ G H δ h R (Same.refl G)
theorem sx_brk (h : P.bk δ) : Sx K tBreak δ P := fun B G H σ D R hn hr hb hc => hb σ G H δ h R (Same.refl G)
theorem sx_cont (h : P.ct δ) : Sx K tCont δ P := fun B G H σ D R hn hr hb hc => hc σ G H δ h R (Same.refl G)
theorem sx_seq {M : AE → Prop} (h : Sx K tu δ { P with nx := M }) (h2 : ∀ δ', M δ' → Sx K tz δ' P) : Sx K (tSeq tu tz) δ P := fun B G H σ D R hn hr hb hc =>
  h B G H σ { D with nx := tz D } R (fun σ' G' H' δ' m R' e => h2 δ' m B G' H' σ' D R' (fun σ2 G2 H2 δ2 p R2 e2 => hn σ2 G2 H2 δ2 p R2 (e.trans e2)) (fun v σ2 G2 H2 δ2 r p R2 e2 k => hr v σ2 G2 H2 δ2 r p R2 (e.trans e2) k)
    (fun σ2 G2 H2 δ2 p R2 e2 => hb σ2 G2 H2 δ2 p R2 (e.trans e2)) (fun σ2 G2 H2 δ2 p R2 e2 => hc σ2 G2 H2 δ2 p R2 (e.trans e2))) hr hb hc
theorem sx_cut {M : AE → Prop} (h : Sx K tu δ { P with nx := M }) (h2 : ∀ δ', M δ' → Sx K tz δ' P) : Sx K (Evl.tCut tu tz) δ P := fun B G H σ D R hn hr hb hc =>
  ⟨fun σ' H' => ∃ δ' G', M δ' ∧ RepS K B G' H' σ' δ' ∧ Same G G', h B G H σ { D with nx := fun σ' H' => ∃ δ' G', M δ' ∧ RepS K B G' H' σ' δ' ∧ Same G G' } R (fun σ' G' H' δ' m R' e => ⟨δ', G', m, R', e⟩) hr hb hc, fun σ' H' ⟨δ', G', m, R', e⟩ =>
    h2 δ' m B G' H' σ' D R' (fun σ2 G2 H2 δ2 p R2 e2 => hn σ2 G2 H2 δ2 p R2 (e.trans e2)) (fun v σ2 G2 H2 δ2 r p R2 e2 k => hr v σ2 G2 H2 δ2 r p R2 (e.trans e2) k)
    (fun σ2 G2 H2 δ2 p R2 e2 => hb σ2 G2 H2 δ2 p R2 (e.trans e2)) (fun σ2 G2 H2 δ2 p R2 e2 => hc σ2 G2 H2 δ2 p R2 (e.trans e2))⟩
/-- a step, then a statement -/
theorem Sx.after {B : Base} {G G' H' : Hp} {σ' : St} {D : Ends} {δ' : AE} {ts : TS} (h : Sx K ts δ' P) (R' : RepS K B G' H' σ' δ') (e : Same G G')
    (hn : ∀ σ' G' H' δ', P.nx δ' → RepS K B G' H' σ' δ' → Same G G' → D.nx σ' H')
    (hr : ∀ v σ' G' H' δ' r, P.rt r δ' → RepS K B G' H' σ' δ' → Same G G' → RtOk K B.H G' H' v r → D.rt v H')
    (hb : ∀ σ' G' H' δ', P.bk δ' → RepS K B G' H' σ' δ' → Same G G' → D.bk σ' H')
    (hc : ∀ σ' G' H' δ', P.ct δ' → RepS K B G' H' σ' δ' → Same G G' → D.ct σ' H') : ts D σ' H' :=
  h B G' H' σ' D R' (fun σ2 G2 H2 δ2 p R2 e2 => hn σ2 G2 H2 δ2 p R2 (e.trans e2)) (fun v σ2 G2 H2 δ2 r p R2 e2 k => hr v σ2 G2 H2 δ2 r p R2 (e.trans e2) k)
    (fun σ2 G2 H2 δ2 p R2 e2 => hb σ2 G2 H2 δ2 p R2 (e.trans e2)) (fun σ2 G2 H2 δ2 p R2 e2 => hc σ2 G2 H2 δ2 p R2 (e.trans e2))
def notPn (δ : AE) (i : Nat) : Bool := match δ[i]? with | some (.pn _) => false | some (.cell _ _ _) => false | _ => true
theorem np_of {i : Nat} (h : notPn δ i = true) : Free δ i where
  np := fun o e => by
    unfold notPn at h
    rw [e] at h
    cases h
  nc := fun p w c e => by
    unfold notPn at h
    rw [e] at h
    cases h
def notC (δ : AE) (i : Nat) : Bool := match δ[i]? with | some (.cell _ _ _) => false | _ => true
theorem nc_of {i : Nat} (h : notC δ i = true) : ∀ p w c, δ[i]? ≠ some (.cell p w c) := fun p w c e => by
  unfold notC at h
  rw [e] at h
  cases h
/-- x = e -/
theorem q_asg {i : Nat} (h : Evd K te δ d) (np : notPn δ i = true) (k : Sx K tz (δ.set i (.sh d)) P) : Sx K (tSeq (tAsg te (gName i)) tz) δ P := fun B G H σ D R hn hr hb hc =>
  h B G H σ R _ fun v G1 H1 R1 s r => k.after (R1.setSh i r (np_of np)) s.eg hn hr hb hc
theorem q_asgO {i : Nat} {o : OD} (h : Evo K te δ o) (k : Sx K tz (δ.set i (.ow o)) P) (nc : notC δ i = true := by rfl) : Sx K (tSeq (tAsg te (gName i)) tz) δ P := fun B G H σ D R hn hr hb hc =>
  h B G H σ R _ fun p G1 H1 R1 s hp gp ok => k.after (R1.setOw i gp (R.newFree hp) ok (R.notHeld hp) (nc_of nc)) s.eg hn hr hb hc
theorem s_asg {i : Nat} (h : Evd K te δ d) (np : notPn δ i = true) (k : P.nx (δ.set i (.sh d))) : Sx K (tAsg te (gName i)) δ P := fun B G H σ D R hn hr hb hc =>
  h B G H σ R _ fun v G1 H1 R1 s r => hn _ _ _ _ k (R1.setSh i r (np_of np)) s.eg
theorem s_asgO {i : Nat} {o : OD} (h : Evo K te δ o) (k : P.nx (δ.set i (.ow o))) (nc : notC δ i = true := by rfl) : Sx K (tAsg te (gName i)) δ P := fun B G H σ D R hn hr hb hc =>
  h B G H σ R _ fun p G1 H1 R1 s hp gp ok => hn _ _ _ _ k (R1.setOw i gp (R.newFree hp) ok (R.notHeld hp) (nc_of nc)) s.eg
/-- x += e -/
theorem q_aug {i : Nat} {f : Int → Int → Int} {x y : Int} (hx : δ[i]? = some (.sh (.int x))) (h : Evd K te δ (.int y)) (k : Sx K tz (δ.set i (.sh (.int (f x y)))) P) : Sx K (tSeq (tAug i te (ipI f)) tz) δ P := fun B G H σ D R hn hr hb hc => by
  obtain ⟨v, e, r⟩ := R.get hx
  rw [r.flat rfl] at e
  refine ⟨_, e, h B G H σ R _ fun v G1 H1 R1 s r => ?_⟩
  rw [r.flat rfl]
  exact ⟨x, y, rfl, rfl, k.after (R1.setSh i (.int _) (free_sh hx)) s.eg hn hr hb hc⟩
theorem s_aug {i : Nat} {f : Int → Int → Int} {x y : Int} (hx : δ[i]? = some (.sh (.int x))) (h : Evd K te δ (.int y)) (k : P.nx (δ.set i (.sh (.int (f x y))))) : Sx K (tAug i te (ipI f)) δ P := fun B G H σ D R hn hr hb hc => by
  obtain ⟨v, e, r⟩ := R.get hx
  rw [r.flat rfl] at e
  refine ⟨_, e, h B G H σ R _ fun v G1 H1 R1 s r => ?_⟩
  rw [r.flat rfl]
  exact ⟨x, y, rfl, rfl, hn _ _ _ _ k (R1.setSh i (.int _) (free_sh hx)) s.eg⟩
/-- if -/
theorem s_if {x : Bool} (h : Evt K t δ x) (h1 : x = true → Sx K tu δ P) (h2 : x = false → Sx K tw δ P) : Sx K (tIfS t tu tw) δ P := fun B G H σ D R hn hr hb hc =>
  h B G H σ R _ fun G1 H1 R1 s => by
    cases x with
    | true => exact (h1 rfl).after R1 s.eg hn hr hb hc
    | false => exact (h2 rfl).after R1 s.eg hn hr hb hc
theorem q_if {x : Bool} (h : Evt K t δ x) (h1 : x = true → Sx K (tSeq tu tz) δ P) (h2 : x = false → Sx K (tSeq tw tz) δ P) : Sx K (tSeq (tIfS t tu tw) tz) δ P := fun B G H σ D R hn hr hb hc =>
  h B G H σ R _ fun G1 H1 R1 s => by
    cases x with
    | true => exact Sx.after (ts := tSeq tu tz) (h1 rfl) R1 s.eg hn hr hb hc
    | false => exact Sx.after (ts := tSeq tw tz) (h2 rfl) R1 s.eg hn hr hb hc
theorem q_next (h : Sx K tz δ P) : Sx K (tSeq tNext tz) δ P := h
theorem q_assoc (h : Sx K (tSeq tu (tSeq tw tz)) δ P) : Sx K (tSeq (tSeq tu tw) tz) δ P := h
/-- return -/
theorem s_ret (h : Evd K te δ d) (k : P.rt (.val d) δ) : Sx K (tRet te) δ P := fun B G H σ D R hn hr hb hc =>
  h B G H σ R _ fun v G1 H1 R1 s r => hr v σ G1 H1 δ (.val d) k R1 s.eg r
theorem s_retO {o : OD} (h : Evo K te δ o) (k : P.rt (.own o) δ) : Sx K (tRet te) δ P := fun B G H σ D R hn hr hb hc =>
  h B G H σ R _ fun p G1 H1 R1 s hp gp ok => hr _ σ G1 H1 δ (.own o) k R1 s.eg ⟨p, rfl, R.newFree hp, gp, ok⟩
theorem s_retV {i : Nat} {o : OD} (h : δ[i]? = some (.ow o)) (k : P.rt (.own o) δ) : Sx K (tRet (tVar i)) δ P := fun B G H σ D R hn hr hb hc => by
  obtain ⟨p, e, gp, bp, ok⟩ := R.getO h
  exact ⟨_, e, hr _ σ G H δ (.own o) k R (Same.refl G) ⟨p, rfl, bp, gp, ok⟩⟩
theorem s_retN (k : P.rt (.val .non) δ) : Sx K tRetN δ P := fun B G H σ D R hn hr hb hc => hr _ σ G H δ (.val .non) k R (Same.refl G) .non
theorem q_ret (h : Sx K (tRet te) δ { P with nx := fun _ => False }) : Sx K (tSeq (tRet te) tz) δ P := fun B G H σ D R hn hr hb hc =>
  h B G H σ { D with nx := tz D } R (fun _ _ _ _ z => z.elim) hr hb hc
/-- an object of one's own is from now on shared -/
theorem q_share {i : Nat} {o : OD} {ts : TS} (h : δ[i]? = some (.ow o)) (k : Sx K ts (δ.set i (.sh o.pd)) P) : Sx K ts δ P := fun B G H σ D R hn hr hb hc => by
  obtain ⟨G1, e, R1⟩ := R.share h
  exact k.after R1 e hn hr hb hc
theorem q_forget {i : Nat} {ts : TS} (k : Sx K ts (δ.set i .no) P) (nc : notC δ i = true := by rfl) : Sx K ts δ P := fun B G H σ D R hn hr hb hc => k.after (R.forget i (nc_of nc)) (Same.refl G) hn hr hb hc
/-! ### changes of own objects -/
def upO : Sl → OD → Sl
  | .pn _, o => .pn o
  | _, o => .ow o
/-- slot i holds the own object o -/
def Has (δ : AE) (i : Nat) (o : OD) : Prop := δ[i]? = some (.ow o) ∨ δ[i]? = some (.pn o)
def wr (δ : AE) (i : Nat) (o : OD) : AE := match δ[i]? with
  | some (.pn _) => δ.set i (.pn o)
  | _ => δ.set i (.ow o)
theorem rd_has {i : Nat} {o : OD} (h : Has δ i o) : Rdo K (tVar i) δ o := h.elim rd_ow rd_pn
theorem RepS.has {B : Base} {G H : Hp} {σ : St} {i : Nat} {o : OD} (R : RepS K B G H σ δ) (h : Has δ i o) : ∃ p, σ[i]? = some (some (.ref p)) ∧ G p = none ∧ Holds σ δ i p ∧ OwnOk K G H p o := by
  rcases h with h | h
  · obtain ⟨p, e, g, _, ok⟩ := R.getO h
    exact ⟨p, e, g, Holds.ow e h, ok⟩
  · obtain ⟨p, e, g, _, ok⟩ := R.getP h
    exact ⟨p, e, g, Holds.pn e h, ok⟩
theorem RepS.wr {B : Base} {G H : Hp} {σ : St} {i : Nat} {o o' : OD} {p : Addr} {ob : HO} (R : RepS K B G H σ δ) (h : Has δ i o) (hp : Holds σ δ i p) (ok : OwnOk K G (upd H p ob) p o') : RepS K B G (upd H p ob) σ (wr δ i o') := by
  rcases h with h | h
  · have e : Fw.wr δ i o' = δ.set i (.ow o') := by unfold Fw.wr; rw [h]
    rw [e]
    exact R.write hp ok (.ow o') (Or.inl ⟨o, h, rfl⟩)
  · have e : Fw.wr δ i o' = δ.set i (.pn o') := by unfold Fw.wr; rw [h]
    rw [e]
    exact R.write hp ok (.pn o') (Or.inr ⟨o, h, rfl⟩)
theorem tyV_lst {H : Hp} {p : Addr} {vs : List V} (h : H p = some (.lst vs)) : tyV K "list" (.ref p) H := Or.inl ⟨rfl, vs, Or.inl (Or.inl h)⟩
theorem tyV_dic {H : Hp} {p : Addr} {kvs : List (Key × V)} (h : H p = some (.dK kvs)) : tyV K "dict" (.ref p) H := Or.inr (Or.inr (Or.inl ⟨rfl, Or.inl ⟨kvs, h⟩⟩))
/-- xs.append(e) -/
theorem s_app {i : Nat} {xs : List PD} (hx : Has δ i (.lst xs)) (h : Evd K te δ d) (hz : xs.length < 100000) (k : P.nx (wr δ i (.lst (xs ++ [d])))) : Sx K (tDrop (tBM K "list" rAppend (tVar i) (tCons te tNil))) δ P := fun B G H σ D R hn hr hb hc => by
  obtain ⟨p, e, gp, hp, vs, hv, rs⟩ := R.has hx
  refine ⟨_, e, tyV_lst hv, h B G H σ R _ fun v G1 H1 R1 s r => ?_⟩
  refine ⟨p, vs, v, rfl, rfl, s.eh.get _ _ hv, Nat.lt_of_lt_of_le (by rw [rs.length]; exact hz) (by decide), ?_⟩
  exact hn _ _ _ _ k (R1.wr hx hp ⟨_, upd_same, (rs.mono s.eg).snoc r⟩) s.eg
theorem q_app {i : Nat} {xs : List PD} (hx : Has δ i (.lst xs)) (h : Evd K te δ d) (hz : xs.length < 100000) (k : Sx K tz (wr δ i (.lst (xs ++ [d]))) P) : Sx K (tSeq (tDrop (tBM K "list" rAppend (tVar i) (tCons te tNil))) tz) δ P :=
  sx_seq (M := fun δ' => δ' = wr δ i (.lst (xs ++ [d]))) (s_app hx h hz rfl) fun δ' e => by subst e; exact k
/-- d[k] = v -/
theorem RepsK.any {G : Hp} {kk : Key} : ∀ {vs : List (Key × V)} {ds : List (Key × PD)}, RepsK K G vs ds → (vs.any fun kv => decide (kv.1 = kk)) = (ds.any fun kv => decide (kv.1 = kk))
  | _, _, .nil => rfl
  | _, _, .cons _ r => by rw [List.any_cons, List.any_cons, RepsK.any r]
theorem RepsK.snoc {G : Hp} {kk : Key} {v : V} : ∀ {vs : List (Key × V)} {ds : List (Key × PD)}, RepsK K G vs ds → Rep K G v d → RepsK K G (vs ++ [(kk, v)]) (ds ++ [(kk, d)])
  | _, _, .nil, h => .cons h .nil
  | _, _, .cons h0 r, h => .cons h0 (RepsK.snoc r h)
theorem RepsK.repl {G : Hp} {kk : Key} {v : V} (h : Rep K G v d) : ∀ {vs : List (Key × V)} {ds : List (Key × PD)}, RepsK K G vs ds → RepsK K G (vs.map fun kv => if kv.1 = kk then (kv.1, v) else kv) (ds.map fun kd => if kd.1 = kk then (kd.1, d) else kd)
  | _, _, .nil => .nil
  | (k0, v0) :: vs, (_, d0) :: ds, .cons h0 r => by
    rw [List.map_cons, List.map_cons]
    by_cases e : k0 = kk
    · rw [if_pos e, if_pos e]; exact .cons h (RepsK.repl h r)
    · rw [if_neg e, if_neg e]; exact .cons h0 (RepsK.repl h r)
theorem RepsK.put {G : Hp} {kk : Key} {v : V} {vs : List (Key × V)} {ds : List (Key × PD)} (r : RepsK K G vs ds) (h : Rep K G v d) : RepsK K G (putK vs kk v) (Fw.put ds kk d) := by
  unfold putK Fw.put
  rw [r.any]
  by_cases e : (ds.any fun kv => decide (kv.1 = kk)) = true
  · rw [if_pos e, if_pos e]; exact r.repl h
  · rw [if_neg e, if_neg e]; exact r.snoc h
def keyOf : PD → Key
  | .int i => .inl i
  | .str x => .inr x
  | _ => .inl 0
def isKey : PD → Bool
  | .int _ => true | .str _ => true | _ => false
theorem Rep.key {G : Hp} {v : V} (h : Rep K G v d) (f : isKey d = true) : v = kV (keyOf d) := by
  cases h <;> first | rfl | cases f
theorem s_dput {i : Nat} {kds : List (Key × PD)} {dk : PD} (hx : Has δ i (.dic kds)) (hv : Evd K te δ d) (hk : Evd K ta δ dk) (fk : isKey dk = true) (hz : kds.length < 100000) (k : P.nx (wr δ i (.dic (put kds (keyOf dk) d)))) : Sx K (sDPut (tVar i) ta te) δ P := fun B G H σ D R hn hr hb hc =>
  hv B G H σ R _ fun v G1 H1 R1 s1 r1 => by
    obtain ⟨p, e, gp, hp, vs, hvv, rs⟩ := R1.has hx
    refine ⟨_, e, hk B G1 H1 σ R1 _ fun y G2 H2 R2 s2 r2 => ?_⟩
    rw [r2.key fk]
    refine ⟨p, _, rfl, Or.inl ⟨vs, keyOf dk, s2.eh.get _ _ hvv, rfl, Nat.lt_of_lt_of_le (by rw [rs.length]; exact hz) (by decide), rfl⟩, ?_⟩
    exact hn _ _ _ _ k (R2.wr hx hp ⟨_, upd_same, (rs.mono s2.eg).put (r1.mono s2.eg)⟩) (s1.eg.trans s2.eg)
theorem q_dput {i : Nat} {kds : List (Key × PD)} {dk : PD} (hx : Has δ i (.dic kds)) (hv : Evd K te δ d) (hk : Evd K ta δ dk) (fk : isKey dk = true) (hz : kds.length < 100000) (k : Sx K tz (wr δ i (.dic (put kds (keyOf dk) d))) P) : Sx K (tSeq (sDPut (tVar i) ta te) tz) δ P :=
  sx_seq (M := fun δ' => δ' = wr δ i (.dic (put kds (keyOf dk) d))) (s_dput hx hv hk fk hz rfl) fun δ' e => by subst e; exact k
/-- an expression whose value is not used -/
theorem s_drop (h : Evd K te δ d) (k : P.nx δ) : Sx K (tDrop te) δ P := fun B G H σ D R hn hr hb hc => h B G H σ R _ fun v G1 H1 R1 s r => hn _ _ _ _ k R1 s.eg
/-! ### what is walked -/
def Evg (K : FK) (g : TG) (d : PD) (δ δ' : AE) (js : List Nat) : Prop := ∀ (B : Base) (G H : Hp) (σ : St) (v : V), RepS K B G H σ δ → Rep K G v d → ∀ Q : St → Hp → Prop,
  (∀ σ', RepS K B G H σ' δ' → σ'.length = σ.length → (∀ k, k ∉ js → σ'[k]? = σ[k]?) → Q σ' H) → g v σ H Q
theorem eg_name {j : Nat} (np : notPn δ j = true) : Evg K (gName j) d δ (δ.set j (.sh d)) [j] := fun B G H σ v R r Q q =>
  q _ (R.setSh j r (np_of np)) (by rw [List.length_set]) fun k hk => by
    rw [List.getElem?_set_ne (fun z => hk (by subst z; exact List.mem_singleton.mpr rfl))]
def Egs (K : FK) (g : TGs) (ds : List PD) (δ δ' : AE) (js : List Nat) : Prop := ∀ (B : Base) (G H : Hp) (σ : St) (vs : List V), RepS K B G H σ δ → Reps K G vs ds → ∀ Q : St → Hp → Prop,
  (∀ σ', RepS K B G H σ' δ' → σ'.length = σ.length → (∀ k, k ∉ js → σ'[k]? = σ[k]?) → Q σ' H) → g vs σ H Q
theorem egs_nil : Egs K gNil [] δ δ [] := fun B G H σ vs R r Q q => by
  cases r
  exact ⟨rfl, q σ R rfl fun _ _ => rfl⟩
theorem egs_cons {g : TG} {gs : TGs} {ds : List PD} {δ' δ'' : AE} {js ks : List Nat} (h : Evg K g d δ δ' js) (h2 : Egs K gs ds δ' δ'' ks) : Egs K (gCons g gs) (d :: ds) δ δ'' (js ++ ks) := fun B G H σ vs R r Q q => by
  cases r with
  | cons r1 r2 =>
    refine ⟨_, _, rfl, h B G H σ _ R r1 _ fun σ1 R1 l1 e1 => h2 B G H σ1 _ R1 r2 _ fun σ2 R2 l2 e2 => q σ2 R2 (l2.trans l1) fun k hk => ?_⟩
    rw [List.mem_append, not_or] at hk
    rw [e2 k hk.2, e1 k hk.1]
theorem eg_tup {n : Nat} {gs : TGs} {ds : List PD} {δ' : AE} {js : List Nat} (hn : ds.length = n) (h : Egs K gs ds δ δ' js) : Evg K (gTup K n gs) (.tup ds) δ δ' js := fun B G H σ v R r Q q => by
  cases r with
  | tup h1 h2 => exact ⟨_, _, rfl, same_sqT R.gh h1, by rw [h2.length]; exact hn, h B G H σ _ R h2 Q q⟩
/-- (tuple) a, b = e -/
theorem q_asgG {g : TG} {δ' : AE} {js : List Nat} (h : Evd K te δ d) (hg : Evg K g d δ δ' js) (k : Sx K tz δ' P) : Sx K (tSeq (tAsg te g) tz) δ P := fun B G H σ D R hn hr hb hc =>
  h B G H σ R _ fun v G1 H1 R1 s r => hg B G1 H1 σ v R1 r _ fun σ' R2 _ _ => k.after R2 s.eg hn hr hb hc
/-- a walk of n turns that gives f i at turn i -/
def Evi (K : FK) (wi : TI) (δ : AE) (n : Nat) (f : Nat → PD) : Prop := ∀ (B : Base) (G H : Hp) (σ : St), RepS K B G H σ δ → ∀ R : It → Hp → Prop,
  (∀ (J : It) (G' H' : Hp) (Gd : Hp → Prop) (Y : Nat → Hp → V → Hp → Prop), RepS K B G' H' σ δ → Step G H G' H' → Walk J n Gd Y → (∀ G2 H2, Same G' G2 → Same G2 H2 → Gd H2) →
    (∀ i x H2 H3 G2, i < n → Same G' G2 → Same G2 H2 → Y i H2 x H3 → ∃ G3, Step G2 H2 G3 H3 ∧ Rep K G3 x (f i)) → R J H') → wi σ H R
theorem ei_list {ds : List PD} (h : Evd K te δ (.lst ds)) : Evi K (iList K te) δ ds.length (fun i => ds.getD i .non) := fun B G H σ R Q q => h B G H σ R _ fun v G1 H1 R1 s r => by
  cases r with
  | @lst a vs _ h1 h2 =>
  refine ⟨a, rfl, ⟨vs, Or.inl (Or.inl (R1.gh _ _ h1))⟩, ?_⟩
  refine q _ G1 H1 _ _ R1 s (by rw [← h2.length]; exact walk_list (xs := vs)) (fun G2 H2 e1 e2 => Or.inl (Or.inl (e2 _ _ (e1 _ _ h1)))) fun i x H2 H3 G2 hi e1 e2 y => ?_
  obtain ⟨e, y⟩ := y
  subst e
  obtain ⟨d, e3, r3⟩ := h2.getV y
  refine ⟨G2, Step.refl e2, ?_⟩
  show Rep K G2 x (ds.getD i .non)
  rw [List.getD_eq_getElem?_getD, e3]
  exact r3.mono e1
theorem ei_tup {ds : List PD} (h : Evd K te δ (.tup ds)) : Evi K (iTup K te) δ ds.length (fun i => ds.getD i .non) := fun B G H σ R Q q => h B G H σ R _ fun v G1 H1 R1 s r => by
  cases r with
  | @tup a vs _ h1 h2 =>
  refine ⟨a, rfl, ⟨vs, same_sqT R1.gh h1⟩, ?_⟩
  refine q _ G1 H1 _ _ R1 s (by rw [← h2.length]; exact walk_tup (xs := vs)) (fun G2 H2 e1 e2 => same_sqT e2 (same_sqT e1 h1)) fun i x H2 H3 G2 hi e1 e2 y => ?_
  obtain ⟨e, y⟩ := y
  subst e
  obtain ⟨d, e3, r3⟩ := h2.getV y
  refine ⟨G2, Step.refl e2, ?_⟩
  show Rep K G2 x (ds.getD i .non)
  rw [List.getD_eq_getElem?_getD, e3]
  exact r3.mono e1
theorem ei_scr {ns : List Int} (h : Evd K te δ (.scr ns)) : Evi K (iList K te) δ ns.length (fun i => .int (ns.getD i 0)) := fun B G H σ R Q q => h B G H σ R _ fun v G1 H1 R1 s r => by
  cases r with
  | @scr a _ h1 =>
  refine ⟨a, rfl, ⟨_, same_sqL R1.gh h1⟩, ?_⟩
  refine q _ G1 H1 _ _ R1 s (by have w := walk_list (K := K) (a := a) (xs := ns.map V.int); rw [List.length_map] at w; exact w) (fun G2 H2 e1 e2 => same_sqL e2 (same_sqL e1 h1)) fun i x H2 H3 G2 hi e1 e2 y => ?_
  obtain ⟨e, y⟩ := y
  subst e
  refine ⟨G2, Step.refl e2, ?_⟩
  show Rep K G2 x (.int (ns.getD i 0))
  rw [List.getElem?_map, List.getElem?_eq_getElem hi] at y
  rw [List.getD_eq_getElem?_getD, List.getElem?_eq_getElem hi]
  cases y
  exact .int _
theorem ei_rng1 {ta : TA} {n : Int} (h : Evs K ta δ [.int n]) (hn : n ≤ 100000) (h0 : -100000 ≤ n) : Evi K (iRng1 ta) δ n.toNat (fun i => .int (i : Nat)) := fun B G H σ R Q q => h B G H σ R _ fun vs G1 H1 R1 s r => by
  cases r with
  | cons r1 r2 =>
  cases r2
  rw [r1.flat rfl]
  refine ⟨n, rfl, by omega, by omega, ?_⟩
  refine q _ G1 H1 _ _ R1 s (walk_range (lo := 0) (n := n.toNat)) (fun _ _ _ _ => True.intro) fun i x H2 H3 G2 hi e1 e2 y => ?_
  obtain ⟨e, y⟩ := y
  subst e
  subst y
  refine ⟨G2, Step.refl e2, ?_⟩
  show Rep K G2 (.int (0 + (i : Int))) (.int (i : Int))
  rw [Int.zero_add]
  exact .int _
theorem ei_rng2 {ta : TA} {m n : Int} (h : Evs K ta δ [.int m, .int n]) (hm : m ≤ 100000 ∧ -100000 ≤ m) (hn : n ≤ 100000 ∧ -100000 ≤ n) : Evi K (iRng2 ta) δ (n - m).toNat (fun i => .int (m + (i : Nat))) := fun B G H σ R Q q => h B G H σ R _ fun vs G1 H1 R1 s r => by
  cases r with
  | cons r1 r2 =>
  cases r2 with
  | cons r2 r3 =>
  cases r3
  rw [r1.flat rfl, r2.flat rfl]
  refine ⟨m, n, rfl, ⟨by omega, by omega, by omega, by omega⟩, ?_⟩
  refine q _ G1 H1 _ _ R1 s (walk_range (lo := m) (n := (n - m).toNat)) (fun _ _ _ _ => True.intro) fun i x H2 H3 G2 hi e1 e2 y => ?_
  obtain ⟨e, y⟩ := y
  subst e
  subst y
  exact ⟨G2, Step.refl e2, .int _⟩
theorem step_tup {G2 H2 : Hp} {T : Addr} {o : HO} (e : Same G2 H2) (hT : H2 T = none) : Step G2 H2 (upd G2 T o) (upd H2 T o) := (Step.refl e).laid hT
theorem ei_enum {ta : TE} {ds : List PD} (h : Evd K ta δ (.lst ds)) : Evi K (iEnum K (tCons ta tNil)) δ ds.length (fun i => .tup [.int (i : Nat), ds.getD i .non]) := fun B G H σ R Q q => h B G H σ R _ fun v G1 H1 R1 s r => by
  cases r with
  | @lst a vs _ h1 h2 =>
  refine ⟨a, vs, rfl, Or.inl (Or.inl (R1.gh _ _ h1)), ?_⟩
  refine q _ G1 H1 _ _ R1 s (by rw [← h2.length]; exact walk_enum (xs := vs)) (fun G2 H2 e1 e2 => Or.inl (Or.inl (e2 _ _ (e1 _ _ h1)))) fun i x H2 H3 G2 hi e1 e2 y => ?_
  obtain ⟨T, x1, y1, ex, hT, eH, k1, k2⟩ := y
  subst ex
  subst eH
  cases k1
  obtain ⟨d, e3, r3⟩ := h2.getV k2
  refine ⟨_, step_tup e2 hT, .tup (Or.inl (Or.inl upd_same)) (.cons (.int _) (.cons ?_ .nil))⟩
  rw [List.getD_eq_getElem?_getD, e3]
  exact (r3.mono e1).mono (same_new (fresh_back e2 hT))
theorem ei_zip {ds es : List PD} (h : Evd K ta δ (.lst ds)) (h' : Evd K tb δ (.lst es)) : Evi K (iZip K (tCons ta (tCons tb tNil))) δ (min ds.length es.length) (fun i => .tup [ds.getD i .non, es.getD i .non]) := fun B G H σ R Q q => h B G H σ R _ fun v G1 H1 R1 s r => h' B G1 H1 σ R1 _ fun v2 G2 H2 R2 s2 r2 => by
  cases r with
  | @lst a vs _ h1 h2 =>
  cases r2 with
  | @lst a2 vs2 _ h3 h4 =>
  refine ⟨a, a2, vs, vs2, rfl, Or.inl (Or.inl (s2.eh.get _ _ (R1.gh _ _ h1))), Or.inl (Or.inl (R2.gh _ _ h3)), ?_⟩
  refine q _ G2 H2 _ _ R2 (s.trans s2) (walk_zip (xs := vs) (ys := vs2) (by rw [h2.length, h4.length])) (fun G3 H3 e1 e2 => ⟨Or.inl (Or.inl (e2 _ _ (e1 _ _ (s2.eg _ _ h1)))), Or.inl (Or.inl (e2 _ _ (e1 _ _ h3)))⟩) fun i x H3 H4 G3 hi e1 e2 y => ?_
  obtain ⟨T, x1, y1, ex, hT, eH, k1, k2⟩ := y
  subst ex
  subst eH
  obtain ⟨d1, e3, r3⟩ := h2.getV k1
  obtain ⟨d2, e4, r4⟩ := h4.getV k2
  refine ⟨_, step_tup e2 hT, .tup (Or.inl (Or.inl upd_same)) (.cons ?_ (.cons ?_ .nil))⟩
  · rw [List.getD_eq_getElem?_getD, e3]
    exact ((r3.mono s2.eg).mono e1).mono (same_new (fresh_back e2 hT))
  · rw [List.getD_eq_getElem?_getD, e4]
    exact (r4.mono e1).mono (same_new (fresh_back e2 hT))
/-! ### for, while -/
theorem s_for {wi : TI} {g : TG} {n : Nat} {f : Nat → PD} (h : Evi K wi δ n f) (I : Nat → AE → Prop) (h0 : I 0 δ)
    (hs : ∀ i δ', i < n → I i δ' → ∃ δ'' js, Evg K g (f i) δ' δ'' js ∧ Sx K tu δ'' { nx := I (i + 1), rt := P.rt, bk := P.nx, ct := I (i + 1) }) (hd : ∀ δ', I n δ' → P.nx δ') : Sx K (tFor wi g tu) δ P := fun B G H σ D R hn hr hb hc =>
  h B G H σ R _ fun J G1 H1 Gd Y R1 s w hG hY => by
    refine for_it w (fun i σ' H' => ∃ G' δ', I i δ' ∧ RepS K B G' H' σ' δ' ∧ Same G1 G') ⟨G1, δ, h0, R1, Same.refl G1⟩ (fun i σ' H' hi ⟨G', δ', _, R', e⟩ => hG G' H' e R'.gh) ?_ ?_
    · rintro i x σ' H2 H3 hi ⟨G2, δ', Ii, R2, e⟩ y
      obtain ⟨G3, s3, r3⟩ := hY i x H2 H3 G2 hi e R2.gh y
      obtain ⟨δ'', js, hg, hbody⟩ := hs i δ' hi Ii
      refine hg B G3 H3 σ' x (R2.st s3) r3 _ fun σ3 R3 _ _ => ?_
      have e3 : Same G1 G3 := e.trans s3.eg
      refine hbody B G3 H3 σ3 _ R3 (fun σ4 G4 H4 δ4 p R4 e4 => ⟨G4, δ4, p, R4, e3.trans e4⟩) (fun v σ4 G4 H4 δ4 r p R4 e4 k => hr v σ4 G4 H4 δ4 r p R4 ((s.eg.trans e3).trans e4) k) (fun σ4 G4 H4 δ4 p R4 e4 => hn σ4 G4 H4 δ4 p R4 ((s.eg.trans e3).trans e4)) (fun σ4 G4 H4 δ4 p R4 e4 => ⟨G4, δ4, p, R4, e3.trans e4⟩)
    · rintro σ' H' ⟨G', δ', Ii, R', e⟩
      exact hn σ' G' H' δ' (hd δ' Ii) R' (s.eg.trans e)
theorem q_for {wi : TI} {g : TG} {n : Nat} {f : Nat → PD} (h : Evi K wi δ n f) (I : Nat → AE → Prop) (h0 : I 0 δ) (M : AE → Prop)
    (hs : ∀ i δ', i < n → I i δ' → ∃ δ'' js, Evg K g (f i) δ' δ'' js ∧ Sx K tu δ'' { nx := I (i + 1), rt := P.rt, bk := M, ct := I (i + 1) }) (hd : ∀ δ', I n δ' → M δ') (k : ∀ δ', M δ' → Sx K tz δ' P) : Sx K (tSeq (tFor wi g tu) tz) δ P :=
  sx_seq (M := M) (s_for (P := { P with nx := M }) h I h0 hs hd) k
theorem s_while (W : Nat → AE → Prop) (m0 : Nat) (h0 : W m0 δ)
    (hs : ∀ m δ', W m δ' → ∃ x, Evt K t δ' x ∧ (x = true → Sx K tu δ' { nx := fun δ'' => ∃ m', m' < m ∧ W m' δ'', rt := P.rt, bk := P.nx, ct := fun δ'' => ∃ m', m' < m ∧ W m' δ'' }) ∧ (x = false → P.nx δ')) : Sx K (tWhile t tu) δ P := fun B G H σ D R hn hr hb hc => by
  refine ⟨fun m σ' H' => ∃ G' δ', W m δ' ∧ RepS K B G' H' σ' δ' ∧ Same G G', ⟨m0, G, δ, h0, R, Same.refl G⟩, ?_⟩
  rintro m σ' H' ⟨G', δ', w, R', e⟩
  obtain ⟨x, ht, h1, h2⟩ := hs m δ' w
  refine ht B G' H' σ' R' _ fun G1 H1 R1 s => ?_
  cases x with
  | true =>
    refine ⟨fun σ2 H2 => ∃ m', m' < m ∧ ∃ G2 δ2, W m' δ2 ∧ RepS K B G2 H2 σ2 δ2 ∧ Same G G2, fun σ2 H2 z => z, ?_⟩
    have e1 : Same G G1 := e.trans s.eg
    exact h1 rfl B G1 H1 σ' _ R1 (fun σ4 G4 H4 δ4 ⟨m', l, p⟩ R4 e4 => ⟨m', l, G4, δ4, p, R4, e1.trans e4⟩) (fun v σ4 G4 H4 δ4 r p R4 e4 k => hr v σ4 G4 H4 δ4 r p R4 (e1.trans e4) k) (fun σ4 G4 H4 δ4 p R4 e4 => hn σ4 G4 H4 δ4 p R4 (e1.trans e4)) (fun σ4 G4 H4 δ4 ⟨m', l, p⟩ R4 e4 => ⟨m', l, G4, δ4, p, R4, e1.trans e4⟩)
  | false => exact hn σ' G1 H1 δ' (h2 rfl) R1 (e.trans s.eg)
end
end Fw
namespace Fw
open PySem L2
/-! ### comprehensions -/
section
variable {G H G' H' : Hp} {p : Addr} {o : HO}
theorem Step.mut (s : Step G H G' H') (hp : H p = none) (gp : G' p = none) : Step G H G' (upd H' p o) :=
  ⟨s.eg, s.eh.mut hp, fun a u e => by rw [upd_ne (ne_of_none e gp)]; exact s.gh _ _ e, s.nw⟩
end
def wipeA (δ : AE) : List Nat → AE
  | [] => δ
  | v :: vs => fo (wipeA δ vs) v
section
variable {K : FK} {B : Base} {G H : Hp} {σ : St} {δ : AE}
theorem RepS.clear (R : RepS K B G H σ δ) (i : Nat) : RepS K B G H (σ.set i none) (fo δ i) := R.clearX i (fun j ej => List.getElem?_set_ne (Ne.symm ej)) (List.length_set ..)
theorem RepS.wipe (R : RepS K B G H σ δ) : ∀ vs : List Nat, RepS K B G H (L2.wipe σ vs) (wipeA δ vs)
  | [] => R
  | v :: vs => (RepS.wipe R vs).clear v
end
theorem wipe_at (σ : St) (k : Nat) : ∀ vs : List Nat, (wipe σ vs)[k]? = if k ∈ vs then (if k < σ.length then some none else none) else σ[k]?
  | [] => by simp [wipe]
  | v :: vs => by
    unfold wipe
    have ih := wipe_at σ k vs
    by_cases e : k = v
    · subst e
      rw [if_pos (by simp)]
      by_cases hl : k < σ.length
      · rw [if_pos hl, List.getElem?_set_self (by rw [wipe_length]; exact hl)]
      · rw [if_neg hl, List.getElem?_eq_none]
        rw [List.length_set, wipe_length]; omega
    · rw [List.getElem?_set_ne (Ne.symm e), ih]
      by_cases h : k ∈ vs
      · rw [if_pos h, if_pos (List.mem_cons_of_mem _ h)]
      · rw [if_neg h, if_neg (fun z => (List.mem_cons.mp z).elim e h)]
theorem wipe_eq {σ τ : St} {vs js : List Nat} (hl : τ.length = (wipe σ vs).length) (h : ∀ k, k ∉ js → τ[k]? = (wipe σ vs)[k]?) (hj : ∀ j ∈ js, j ∈ vs) : wipe τ vs = wipe σ vs := by
  apply List.ext_getElem?
  intro k
  rw [wipe_at]
  by_cases hk : k ∈ vs
  · rw [if_pos hk, wipe_at, if_pos hk, hl, wipe_length]
  · rw [if_neg hk, h k (fun z => hk (hj k z))]
def given (n : Nat) (f : Nat → Bool) (v : Nat → PD) : List PD := ((List.range n).filter f).map v
theorem given_yes {n : Nat} {f : Nat → Bool} {v : Nat → PD} (h : f n = true) : given (n + 1) f v = given n f v ++ [v n] := by
  unfold given
  rw [List.range_succ, List.filter_append, List.map_append, List.filter_cons, if_pos h] <;> rfl
theorem given_no {n : Nat} {f : Nat → Bool} {v : Nat → PD} (h : f n = false) : given (n + 1) f v = given n f v := by
  unfold given
  rw [List.range_succ, List.filter_append, List.map_append, List.filter_cons, if_neg (by rw [h]; decide)]
  show _ ++ [] = _
  rw [List.append_nil]
theorem given_len (n : Nat) (f : Nat → Bool) (v : Nat → PD) : (given n f v).length ≤ n := by
  unfold given
  rw [List.length_map]
  have h := List.length_filter_le f (List.range n)
  rw [List.length_range] at h
  exact h
theorem given_all (n : Nat) (v : Nat → PD) : given n (fun _ => true) v = (List.range n).map v := by
  unfold given
  rw [List.filter_eq_self.mpr (fun _ _ => rfl)]
section
variable {K : FK} {δ : AE} {ta tb te tx : TE} {t u tt : TT} {tu tw tz : TS} {a b c d : PD} {P : Post}
theorem et_yes : Evt K tYes δ true := fun B G H σ R Q q => q G H R (Step.refl R.gh)
theorem eo_lc {wi : TI} {g : TG} {vs : List Nat} {n : Nat} {f : Nat → PD} (keep : Nat → Bool) (val : Nat → PD) (h : Evi K wi δ n f) (hn : n ≤ 100000)
    (hs : ∀ i, i < n → ∃ δ' js, Evg K g (f i) (wipeA δ vs) δ' js ∧ (∀ j ∈ js, j ∈ vs) ∧ Evt K tt δ' (keep i) ∧ (keep i = true → Evd K te δ' (val i))) : Evo K (tLc wi g tt te vs) δ (.lst (given n keep val)) := fun B G H σ R Q q =>
  h B G H σ R _ fun J G1 H1 Gd Y R1 s1 w hG hY D hD => by
    refine lc_it w (fun i H' => ∃ G', Step G1 H1 G' H' ∧ G' D = none ∧ ∃ acc, H' D = some (.lst acc) ∧ Reps K G' acc (given i keep val)) ⟨G1, (Step.refl R1.gh).hid hD, fresh_back R1.gh hD, [], upd_same, .nil⟩ (fun i H' hi ⟨G', s, _⟩ => hG G' H' s.eg s.gh) ?_ ?_
    · rintro i x H2 H3 hi ⟨G2, s2, g2, acc, hacc, racc⟩ y
      obtain ⟨G3, s3, r3⟩ := hY i x H2 H3 G2 hi s2.eg s2.gh y
      obtain ⟨δ', js, hg, hj, ht, he⟩ := hs i hi
      have R3 : RepS K B G3 H3 σ δ := R1.st (s2.trans s3)
      refine hg B G3 H3 _ x (R3.wipe vs) r3 _ fun σ3 R4 l4 k4 => ⟨wipe_eq l4 k4 hj, ?_⟩
      refine ht B G3 H3 σ3 R4 _ fun G5 H5 R5 s5 => ?_
      cases hk : keep i with
      | false =>
        show ∃ G', _
        refine ⟨G5, (s2.trans s3).trans s5, (s3.trans s5).nw D (some_ne hacc) g2, acc, s5.eh.get _ _ (s3.eh.get _ _ hacc), ?_⟩
        rw [given_no hk]
        exact (racc.mono s3.eg).mono s5.eg
      | true =>
        show te σ3 H5 _
        refine he hk B G5 H5 σ3 R5 _ fun v G6 H6 R6 s6 r6 => ⟨acc, s6.eh.get _ _ (s5.eh.get _ _ (s3.eh.get _ _ hacc)), ?_, ?_⟩
        · rw [racc.length]
          exact Nat.lt_of_le_of_lt (given_len i keep val) (Nat.lt_of_lt_of_le (Nat.lt_of_lt_of_le hi hn) (by decide))
        · have gD : G6 D = none := ((s3.trans s5).trans s6).nw D (some_ne hacc) g2
          refine ⟨G6, (((s2.trans s3).trans s5).trans s6).mut hD gD, gD, _, upd_same, ?_⟩
          rw [given_yes hk]
          exact (((racc.mono s3.eg).mono s5.eg).mono s6.eg).snoc r6
    · rintro H2 ⟨G2, s2, g2, acc, hacc, racc⟩
      exact q D G2 H2 (R1.st s2) (s1.trans s2) (fresh_bk s1.eh hD) g2 ⟨acc, hacc, racc⟩
/-! ### a def keeps its promise -/
def ae (N : Nat) (ds : List PD) : AE := ds.map .sh ++ List.replicate (N - ds.length) .no
theorem ae_sh {N : Nat} {ds : List PD} {i : Nat} {s : Sl} (h : (ae N ds)[i]? = some s) : (∃ d, s = .sh d ∧ ds[i]? = some d) ∨ s = .no := by
  unfold ae at h
  by_cases hi : i < ds.length
  · rw [List.getElem?_append_left (by rw [List.length_map]; exact hi), List.getElem?_map, List.getElem?_eq_getElem hi] at h
    exact Or.inl ⟨_, (Option.some.inj h).symm, List.getElem?_eq_getElem hi⟩
  · rw [List.getElem?_append_right (by rw [List.length_map]; omega)] at h
    have m := List.mem_of_getElem? h
    exact Or.inr (List.eq_of_mem_replicate m)
theorem repS_start {G H : Hp} {N : List Str} {vs : List V} {ds : List PD} (e : Same G H) (tb : Tb K G H) (r : Reps K G vs ds) : RepS K ⟨G, H, []⟩ G H (L2.start N vs) (ae N.length ds) where
  ln := by
    have hl := r.length
    unfold L2.start ae
    rw [List.length_append, List.length_append, List.length_map, List.length_map, List.length_replicate, List.length_replicate, hl]
    exact Nat.le_refl _
  gh := e
  tb := tb
  tb0 := fun _ h => h
  h0 := fun a o _ _ h => h
  h1 := fun a h => h
  g0 := Same.refl G
  nw := fun a _ g => g
  sl := fun i s e2 => by
    have hl := r.length
    have hi : i < N.length ∨ i < vs.length := by
      have l := (List.getElem?_eq_some_iff.mp e2).1
      unfold ae at l
      rw [List.length_append, List.length_map, List.length_replicate] at l
      omega
    rcases ae_sh e2 with ⟨d, rfl, hd⟩ | rfl
    · obtain ⟨v, hv, rv⟩ := r.get hd
      have hi : i < vs.length := (List.getElem?_eq_some_iff.mp hv).1
      refine ⟨v, ?_, rv⟩
      unfold L2.start
      rw [List.getElem?_append_left (by rw [List.length_map]; exact hi), List.getElem?_map, hv]
      rfl
    · show (L2.start N vs)[i]? ≠ none
      rw [List.getElem?_eq_getElem (by unfold L2.start; rw [List.length_append, List.length_map, List.length_replicate]; omega)]
      exact fun z => nomatch z
  dj := fun i j p h1 _ => by
    rcases h1 with ⟨_, o, z | z⟩ | ⟨w, c, z⟩
    · rcases ae_sh z with ⟨d, q, _⟩ | q <;> cases q
    · rcases ae_sh z with ⟨d, q, _⟩ | q <;> cases q
    · rcases ae_sh z with ⟨d, q, _⟩ | q <;> cases q
/-- what is asked of a body: r comes back -/
def Gives (r : Rt) : Post := { nx := fun _ => r = .val .non, rt := fun r' _ => r' = r, bk := fun _ => False, ct := fun _ => False }
theorem def_ok {PP : List PD → Rt → Prop} {N : List Str} {ts : TS} (h : ∀ ds r, PP ds r → Sx K ts (ae N.length ds) (Gives r)) (vs : List V) (H : Hp) (Q : VK) (E : XK) (hsp : spP K PP vs H Q E) : ts { nx := fun _ H' => Q .non H', rt := Q } (L2.start N vs) H := by
  obtain ⟨G, ds, r, e, tb, rs, hp, q⟩ := hsp
  have R := repS_start (N := N) e tb rs
  have nw : ∀ {G' H' : Hp} {σ' : St} {δ' : AE}, RepS K ⟨G, H, []⟩ G' H' σ' δ' → Sam H H' ∧ Same G G' ∧ Same G' H' ∧ (∀ a, H a ≠ none → G a = none → G' a = none) := fun R' =>
    ⟨⟨fun a o n ea => R'.h0 a o (fun i z => nomatch z) n ea, R'.tb0, R'.h1⟩, R'.g0, R'.gh, R'.nw⟩
  refine h ds r hp _ G H _ { nx := fun _ H' => Q .non H', rt := Q } R (fun σ' G' H' δ' hn R' _ => ?_) (fun v σ' G' H' δ' r' hr R' _ ok => ?_) (fun _ _ _ _ z => z.elim) (fun _ _ _ _ z => z.elim)
  · obtain ⟨k1, k2, k3, k4⟩ := nw R'
    have hn : r = .val .non := hn
    subst hn
    exact q .non G' H' k1 k2 k3 k4 .non
  · obtain ⟨k1, k2, k3, k4⟩ := nw R'
    have hr : r' = r := hr
    subst hr
    exact q v G' H' k1 k2 k3 k4 ok
theorem spP_len {PP : List PD → Rt → Prop} {n : Nat} (h : ∀ ds r, PP ds r → ds.length = n) (vs : List V) (H : Hp) (Q : VK) (E : XK) (hsp : spP K PP vs H Q E) : vs.length = n := by
  obtain ⟨G, ds, r, e, tb, rs, hp, q⟩ := hsp
  rw [rs.length]
  exact h ds r hp
/-! ### more operators -/
def strRep (z : Str) (n : Int) : Str := ⟨((List.replicate n.toNat z.cps.toList).flatten).toArray⟩
def rMulStr : R2 := fun x y H Q => ∃ z k, x = .str z ∧ y = .int k ∧ z.length ≤ 1000 ∧ -1000 ≤ k ∧ k ≤ 1000 ∧ Q (.str (strRep z k)) H
theorem ev_mulStr {z : Str} {k : Int} (ha : Evd K ta δ (.str z)) (hb : Evd K tb δ (.int k)) (hz : z.length ≤ 1000) (h1 : -1000 ≤ k) (h2 : k ≤ 1000) : Evd K (tOp rMulStr ta tb) δ (.str (strRep z k)) := ev_opF ha hb rfl rfl rfl fun H Q q => ⟨z, k, rfl, rfl, hz, h1, h2, q⟩
end
theorem fold_rep (z : Array Nat) : ∀ (n : Nat) (acc : Array Nat), (List.replicate n z).foldl (· ++ ·) acc = acc ++ ((List.replicate n z.toList).flatten).toArray
  | 0, acc => by simp
  | n + 1, acc => by
    rw [List.replicate_succ, List.foldl_cons, fold_rep z n, List.replicate_succ, List.flatten_cons]
    apply Array.toList_inj.mp
    simp
theorem flat_rep_len {α : Type} (l : List α) : ∀ n : Nat, (List.replicate n l).flatten.length = n * l.length
  | 0 => by simp
  | n + 1 => by
    rw [List.replicate_succ, List.flatten_cons, List.length_append, flat_rep_len l n, Nat.succ_mul]
    omega
theorem strRep_len (z : Str) (k : Int) : (strRep z k).length = k.toNat * z.length := by
  show ((List.replicate k.toNat z.cps.toList).flatten).toArray.size = k.toNat * z.cps.size
  rw [List.size_toArray, flat_rep_len, Array.length_toList]
theorem op_mulStr {X : Cx} : OpR X (binaryOp .Mult) rMulStr := by
  intro pins s σ H x y v u Q I rx ry h
  obtain ⟨z, k, rfl, rfl, hz, h1, h2, q⟩ := h
  obtain ⟨t, rfl⟩ := rx
  obtain ⟨t', rfl⟩ := ry
  have hr : (decide (k < -(2 ^ 63 : Int)) || decide (k ≥ 2 ^ 63)) = false := by
    rw [decide_eq_false (by omega), decide_eq_false (by omega)]; rfl
  have hm : ¬ k < 1 → z.length * k.toNat ≤ 1000000 := fun hk => by
    have h3 : k.toNat ≤ 1000 := by omega
    exact Nat.le_trans (Nat.mul_le_mul hz h3) (by decide)
  refine PySem.P.mul_str hr (fun hk _ => ?_) (fun hk _ => ?_) ?_
  · have hk0 : 0 < k := by omega
    have hm2 : (z.length : Int) * k ≤ 1000 * 1000 := Int.mul_le_mul (by omega) h2 (by omega) (by omega)
    have : (z.length : Int) ≤ (2 ^ 63 - 1) / k := (Int.le_ediv_iff_mul_le hk0).mpr (by omega)
    omega
  · have h3 := hm hk
    have h4 : sizeLine = 16777216 := sizeLine_eq
    show decide (z.length * k.toNat > sizeLine) = false
    exact decide_eq_false (by omega)
  · by_cases hk : k < 1
    · rw [if_pos hk]
      have e : strRep z k = Str.empty := by
        have e0 : k.toNat = 0 := by omega
        unfold strRep; rw [e0]; rfl
      rw [e] at q
      exact ⟨by decide, ⟨.str Str.empty, H, I.tok _, ⟨_, rfl⟩, q⟩⟩
    · rw [if_neg hk]
      by_cases hk1 : (k == 1 || z.length == 0) = true
      · rw [if_pos hk1]
        have e : strRep z k = z := by
          rw [Bool.or_eq_true] at hk1
          rcases hk1 with h | h
          · have : k = 1 := by simpa using h
            subst this
            unfold strRep
            simp
          · have h0 : z.cps.toList = [] := by
              have : z.cps.size = 0 := by simpa [Str.length] using h
              exact List.length_eq_zero_iff.mp (by simpa using this)
            unfold strRep
            rw [h0]
            have e1 : z.cps = #[] := by rw [← Array.toList_inj]; exact h0
            have e2 : z = ⟨#[]⟩ := by cases z; cases e1; rfl
            rw [e2]
            have e3 : ((List.replicate k.toNat ([] : List Nat)).flatten) = [] := List.length_eq_zero_iff.mp (by rw [flat_rep_len]; simp)
            rw [e3]
        rw [e] at q
        exact ⟨.str z, H, I, ⟨_, rfl⟩, q⟩
      · rw [if_neg hk1]
        have e : strRep z k = ⟨(List.replicate k.toNat z.cps).foldl (· ++ ·) #[]⟩ := by
          rw [fold_rep]
          unfold strRep
          simp
        rw [e] at q
        refine ⟨?_, ⟨.str _, H, I.tok _, ⟨_, rfl⟩, q⟩⟩
        rw [← e, strRep_len]
        have h3 := hm hk
        have h4 : sizeLine = 16777216 := sizeLine_eq
        rw [Nat.mul_comm]
        omega
end Fw
namespace Fw
open PySem PySem.Spec PyProof.Rows L2
/-! ### operators by name -/
def rAddI : R2 := rI0 fun i j => .int (i + j)
def rSubI : R2 := rI0 fun i j => .int (i - j)
def rMulI : R2 := rI CMul fun i j => .int (i * j)
def rModI : R2 := rI (fun _ j => 0 < j) fun i j => .int (i % j)
def rDivI : R2 := rI CDiv fun i j => .int (i / j)
def rPowI : R2 := rI CPow fun i j => .int (i ^ j.toNat)
def rLtI : R2 := rI0 fun i j => .bl (decide (i < j))
def rLeI : R2 := rI0 fun i j => .bl (decide (i ≤ j))
def rGtI : R2 := rI0 fun i j => .bl (decide (j < i))
def rGeI : R2 := rI0 fun i j => .bl (decide (j ≤ i))
section
variable {K : FK} {δ : AE} {ta tb te tx : TE} {i j : Int}
theorem e_add (ha : Evd K ta δ (.int i)) (hb : Evd K tb δ (.int j)) : Evd K (tOp rAddI ta tb) δ (.int (i + j)) := ev_add ha hb
theorem e_sub (ha : Evd K ta δ (.int i)) (hb : Evd K tb δ (.int j)) : Evd K (tOp rSubI ta tb) δ (.int (i - j)) := ev_sub ha hb
theorem e_mul (ha : Evd K ta δ (.int i)) (hb : Evd K tb δ (.int j)) (h : CMul i j) : Evd K (tOp rMulI ta tb) δ (.int (i * j)) := ev_mul ha hb h
theorem e_mod (ha : Evd K ta δ (.int i)) (hb : Evd K tb δ (.int j)) (h : 0 < j) : Evd K (tOp rModI ta tb) δ (.int (i % j)) := ev_mod ha hb h
theorem e_div (ha : Evd K ta δ (.int i)) (hb : Evd K tb δ (.int j)) (h : CDiv i j) : Evd K (tOp rDivI ta tb) δ (.int (i / j)) := ev_fdiv ha hb h
theorem e_pow (ha : Evd K ta δ (.int i)) (hb : Evd K tb δ (.int j)) (h : CPow i j) : Evd K (tOp rPowI ta tb) δ (.int (i ^ j.toNat)) := ev_pow ha hb h
theorem e_lt (ha : Evd K ta δ (.int i)) (hb : Evd K tb δ (.int j)) : Evd K (tOp rLtI ta tb) δ (.bl (decide (i < j))) := ev_lt ha hb
theorem e_le (ha : Evd K ta δ (.int i)) (hb : Evd K tb δ (.int j)) : Evd K (tOp rLeI ta tb) δ (.bl (decide (i ≤ j))) := ev_le ha hb
theorem e_gt (ha : Evd K ta δ (.int i)) (hb : Evd K tb δ (.int j)) : Evd K (tOp rGtI ta tb) δ (.bl (decide (j < i))) := ev_gt ha hb
theorem e_ge (ha : Evd K ta δ (.int i)) (hb : Evd K tb δ (.int j)) : Evd K (tOp rGeI ta tb) δ (.bl (decide (j ≤ i))) := ev_ge ha hb
theorem mul_l (h : -1000000000 ≤ i ∧ i ≤ 1000000000) : CMul i j := Or.inl ⟨by omega, by omega⟩
theorem mul_r (h : -1000000000 ≤ j ∧ j ≤ 1000000000) : CMul i j := Or.inr ⟨by omega, by omega⟩
end
/-! ### tuples cut, joined -/
section
variable {K : FK} {δ : AE} {ta tb te tx : TE}
theorem cutD_whole {ds : List PD} {lo hi : Option Int} (h : HT.sIx ds.length 0 lo = 0 ∧ HT.sIx ds.length ds.length hi = ds.length) : cutD ds lo hi = ds := by
  unfold cutD
  rw [h.1, h.2]
  simp
theorem ev_slT {ds : List PD} {tl th : TO} {lo hi : Option Int} (ha : Evd K ta δ (.tup ds)) (h1 : Evop K tl δ lo) (h2 : Evop K th δ hi) : Evd K (tSl (rSlA K) ta tl th) δ (.tup (cutD ds lo hi)) := fun B G H σ R Q q =>
  ha B G H σ R _ fun x G1 H1 R1 s1 rx => h1 B G1 H1 σ R1 _ fun G2 H2 R2 s2 => h2 B G2 H2 σ R2 _ fun G3 H3 R3 s3 => by
    cases rx with
    | @tup p vs _ hp rs =>
    have hp3 : SqT K H3 p vs := same_sqT R3.gh (same_sqT s3.eg (same_sqT s2.eg hp))
    have rs3 := (rs.mono s2.eg).mono s3.eg
    refine ⟨p, vs, rfl, hp3, fun hw => ?_, fun _ q0 hq => ?_⟩
    · rw [rs.length] at hw
      have e : cutD ds lo hi = ds := cutD_whole hw
      have g := q (.ref p) G3 H3 R3 ((s1.trans s2).trans s3) (by rw [e]; exact .tup (same_sqT s3.eg (same_sqT s2.eg hp)) rs3)
      exact g
    · exact q (.ref q0) _ _ (R3.laid hq) (((s1.trans s2).trans s3).laid hq) (.tup (Or.inl (Or.inl upd_same)) ((rs3.cut lo hi).mono (same_new (fresh_back R3.gh hq))))
theorem ev_catT {xs ys : List PD} (ha : Evd K ta δ (.tup xs)) (hb : Evd K tb δ (.tup ys)) (hz : xs.length + ys.length ≤ 100000) : Evd K (tOp (rCatA K) ta tb) δ (.tup (xs ++ ys)) := ev_op ha hb fun B G H σ x y R rx ry Q q => by
  cases rx with
  | @tup p vs _ hp rs =>
  cases ry with
  | @tup p2 us _ hp2 rs2 =>
  refine ⟨p, p2, vs, us, rfl, rfl, same_sqT R.gh hp, same_sqT R.gh hp2, Nat.le_trans (by rw [rs.length, rs2.length]; exact hz) (by decide), fun e => ?_, fun _ e => ?_, fun _ _ l hl => ?_⟩
  · subst e
    cases rs
    exact q _ G H R (Step.refl R.gh) (.tup hp2 rs2)
  · subst e
    cases rs2
    rw [List.append_nil] at q
    exact q _ G H R (Step.refl R.gh) (.tup hp rs)
  · exact q _ _ _ (R.laid hl) ((Step.refl R.gh).laid hl) (.tup (Or.inl (Or.inl upd_same)) ((rs.append rs2).mono (same_new (fresh_back R.gh hl))))
end
/-! ### defs of the text -/
section
variable {P : Program} {w : World} {K : PySem.W.Frag} {mg : Str → Option Value} {base : Heap}
def DefAt (K : PySem.W.Frag) (mg : Str → Option Value) (x : Str) (st : Stmt) : Prop := ∃ f fd, FunD K x x (defArgs st) (defBody st) (defScope st) [] [] f fd ∧ mg x = some (.ref f)
structure OkAt (P : Program) (w : World) (K : PySem.W.Frag) (mg : Str → Option Value) (base : Heap) (k : Nat) (x : Str) (ps : List Str) (sp : Sp) (f : Addr) (fd : FuncData) : Prop where
  ok : FnOk P w K mg base CX0 k f fd ps sp
  mg : mg x = some (.ref f)
  kp : PySem.W.keepIn K (.ref f) = true
  bi : Binds K fd ps []
  lk : ∃ oc od osl, K.lookup f = some ⟨oc, od, .func fd, osl⟩
def Ok (P : Program) (w : World) (K : PySem.W.Frag) (mg : Str → Option Value) (base : Heap) (k : Nat) (x : Str) (ps : List Str) (sp : Sp) : Prop := ∃ f fd, OkAt P w K mg base k x ps sp f fd
/-- a def by its body -/
theorem Ok.of {x : Str} {st : Stmt} {N ps : List Str} {k : Nat} {sp : Sp} (D : DefAt K mg x st) (S : FnScope N ps (defScope st)) (len : ∀ vs H Q E, sp vs H Q E → vs.length = ps.length)
    (hb : ∀ (kV doc pm : Value) (an : Option Addr) (cdv ct : Value) (us : List Value), us.length = ps.length → bindArgs (PySem.W.fnOf x x (defArgs st) (defBody st) (defScope st) .none kV doc pm an cdv ct) ⟨us, []⟩ = pure (ps.zip us))
    (hbody : ∀ (f : Addr) (cdv : Value) (A : Around) (outer : List Env) (s : Shared) (H : Hp) (vs : List V) (Q : VK) (E : XK), Room k (A.deeper (envOfC x (defScope st) s.heap.objs.size f cdv)) → sp vs H Q E →
      ∃ t, PSs (cxOf CX0 P w K mg base N x (defScope st) f cdv A outer s H E).nox (defBody st) t ∧ t { nx := fun _ H' => Q .non H', rt := Q } (L2.start N vs) H) : Ok P w K mg base (k + 1) x ps sp := by
  obtain ⟨f, fd, F, m⟩ := D
  have lk : ∃ oc od osl, K.lookup f = some ⟨oc, od, .func fd, osl⟩ := by
    obtain ⟨oc, od, dV, kV, doc, pm, an, cdv, ct, osl, e, lk, _⟩ := F.ex
    exact ⟨oc, od, osl, lk⟩
  refine ⟨f, fd, F.ok S len fun cdv A outer s H vs Q E hr h => ?_, m, F.kp, F.bindsN hb, lk⟩
  obtain ⟨t, h1, h2⟩ := hbody f cdv A outer s H vs Q E hr h
  exact ⟨t, h1.nox, h2⟩
theorem ok_same {x : Str} {st : Stmt} {ps : List Str} {k : Nat} {sp : Sp} {f : Addr} {fd fd2 : FuncData} (o : OkAt P w K mg base k x ps sp f fd2) (F : FunD K x x (defArgs st) (defBody st) (defScope st) [] [] f fd) : fd2 = fd := by
  obtain ⟨oc, od, osl, l1⟩ := o.lk
  obtain ⟨oc', od', dV, kV, doc, pm, an, cdv, ct, osl', e, l2, _⟩ := F.ex
  rw [l1] at l2
  cases l2
  rfl
/-- the body by its derivation and its reading -/
theorem Ok.by_ {x : Str} {st : Stmt} {N ps : List Str} {k : Nat} {sp : Sp} {ts : TS} (D : DefAt K mg x st) (S : FnScope N ps (defScope st)) (len : ∀ vs H Q E, sp vs H Q E → vs.length = ps.length)
    (hb : ∀ (kV doc pm : Value) (an : Option Addr) (cdv ct : Value) (us : List Value), us.length = ps.length → bindArgs (PySem.W.fnOf x x (defArgs st) (defBody st) (defScope st) .none kV doc pm an cdv ct) ⟨us, []⟩ = pure (ps.zip us))
    (rd : ∀ (vs : List V) (H : Hp) (Q : VK) (E : XK), sp vs H Q E → ts { nx := fun _ H' => Q .non H', rt := Q } (L2.start N vs) H)
    (hd : ∀ (f : Addr) (cdv : Value) (A : Around) (outer : List Env) (s : Shared) (H : Hp) (E : XK), Room k (A.deeper (envOfC x (defScope st) s.heap.objs.size f cdv)) →
      PSs (cxOf CX0 P w K mg base N x (defScope st) f cdv A outer s H E).nox (defBody st) ts) : Ok P w K mg base (k + 1) x ps sp :=
  Ok.of D S len hb fun f cdv A outer s H vs Q E hr h => ⟨ts, hd f cdv A outer s H E hr, rd vs H Q E h⟩
end
section
variable {X : Cx} {x : Str} {e : Expr} {es : List Expr} {t : TA} {p pos : Pos}
theorem pe_callO {k : Nat} {ps : List Str} {sp : Sp} (o : Ok X.prog X.w X.K X.mg X.base k x ps sp) (hr : Room k X.A) (hg : Gl X x) (ha : PA X (e :: es) t) (hdb : (x == ("__debug__" : Str)) = false := by decide)
    (he : starEach (e :: es) X.env = (false, eval e X.env) :: starEach es X.env := by rfl) (hpl : (backTo pos (starEach es X.env)).any (·.1) = false := by rfl) (hx : Passes CX0 X E0 := by exact pass0) : PE X (.Call (.Name x p) (e :: es) [] pos) (tCall sp [] E0 t) := by
  obtain ⟨f, fd, ok⟩ := o
  exact pe_call ok.ok hr hg ok.mg ok.kp ok.bi .nil hx ha hdb he hpl
theorem pe_globI {i : Int} (hg : Gl X x) (hm : ∃ t, X.mg x = some (.int i t)) (hdb : (x == ("__debug__" : Str)) = false := by decide) : PE X (.Name x p) (tC (.int i)) := by
  obtain ⟨t, hm⟩ := hm
  exact pe_glob hg hm ⟨t, rfl⟩ hdb
theorem pe_ty {n : String} (hg : Gl X x) (hm : X.mg x = none) (hv : bootBuiltins x = some (.type n)) (hn : x ≠ "__name__" := by decide) (hd : (x == ("__debug__" : Str)) = false := by decide) : PE X (.Name x p) (tC (.ty n)) := pe_bltn hg hm hv rfl hn hd
end
end Fw
namespace Fw
open PySem L2
section
variable {K : FK} {B : Base} {G H G' H' : Hp} {σ : St} {δ : AE}
/-- what stands outside of all that is known may change -/
theorem RepS.out {p : Addr} {o : HO} (R : RepS K B G H σ δ) (gp : G p = none) (bp : B.H p = none) (hn : ∀ i, ¬ Holds σ δ i p) (hx : ∃ u, (∀ q, u ≠ HO.tbl q) ∧ H p = some u) : RepS K B G (upd H p o) σ δ where
  tb := fun t ht => by
    obtain ⟨u, n, e⟩ := hx
    obtain ⟨⟨q, h1, h2⟩, h3⟩ := R.tb t ht
    exact ⟨⟨q, by rw [upd_ne (R.tb.ne n e ht)]; exact h1, h2⟩, h3⟩
  tb0 := fun t ht => by
    obtain ⟨u, n, e⟩ := hx
    obtain ⟨q, h1, h2⟩ := R.tb0 t ht
    have ne : t ≠ p := fun z => by rw [z, e] at h1; exact n q (Option.some.inj h1)
    exact ⟨q, by rw [upd_ne ne]; exact h1, h2⟩
  ln := R.ln
  gh := fun a u e => by rw [upd_ne (ne_of_none e gp)]; exact R.gh _ _ e
  h0 := fun a u hS n e => by rw [upd_ne (ne_of_none e bp)]; exact R.h0 a u hS n e
  h1 := fun a e => by
    by_cases h : a = p
    · subst h; exact absurd bp e
    · rw [upd_ne h]; exact R.h1 a e
  g0 := R.g0
  nw := R.nw
  sl := fun i s e => (R.sl i s e).keep e (Same.refl G) fun a u hh _ hu => ⟨by
    have ne : a ≠ p := fun z => by subst z; exact hn i hh
    rw [upd_ne ne]; exact hu, id⟩
  dj := R.dj
/-- a slot is set to what is not told -/
theorem RepS.setNo (R : RepS K B G H σ δ) (i : Nat) (x : Option V) (fr : Free δ i) : RepS K B G H (σ.set i x) (δ.set i .no) :=
  R.put1 i fr.nc (fun z => nomatch z) fun p hp => by
    rcases not_set_sh hp with ⟨_, z, _⟩ | ⟨_, z, _⟩ | ⟨_, _, z⟩ <;> cases z
def isSh : Sl → Bool
  | .no => true | .sh _ => true | _ => false
/-- all that is told is shared: any base will do -/
theorem RepS.noHold (hs : δ.all isSh = true) (p : Addr) : ∀ i, ¬ Holds σ δ i p := fun i h => by
  rcases h with ⟨_, o, z | z⟩ | ⟨w, c, z⟩
  · have hm := List.all_eq_true.mp hs _ (List.mem_of_getElem? z); cases hm
  · have hm := List.all_eq_true.mp hs _ (List.mem_of_getElem? z); cases hm
  · have hm := List.all_eq_true.mp hs _ (List.mem_of_getElem? z); cases hm
theorem free_all {i : Nat} (hs : δ.all isSh = true) : Free δ i where
  np := fun o z => by have hm := List.all_eq_true.mp hs _ (List.mem_of_getElem? z); cases hm
  nc := fun p w c z => by have hm := List.all_eq_true.mp hs _ (List.mem_of_getElem? z); cases hm
theorem RepS.lift (R : RepS K B G H σ δ) (hs : δ.all isSh = true) (eg : Same G G') (gh : Same G' H') (tb : Tb K G' H') : RepS K ⟨G', H', []⟩ G' H' σ δ where
  tb := tb
  tb0 := fun _ h => h
  ln := R.ln
  gh := gh
  h0 := fun a o _ _ h => h
  h1 := fun a h => h
  g0 := Same.refl G'
  nw := fun a _ g => g
  sl := fun i s e => by
    have h := R.sl i s e
    have hm := List.all_eq_true.mp hs s (List.mem_of_getElem? e)
    cases s with
    | no => exact h
    | sh d => obtain ⟨v, e, r⟩ := h; exact ⟨v, e, r.mono eg⟩
    | ow o => cases hm
    | pn o => cases hm
    | cell p w c => cases hm
  dj := fun i j p h1 _ => absurd h1 (RepS.noHold hs p i)
end
/-! ### names and what they hold -/
abbrev NE := List (Str × Int)
def get (e : NE) (s : Str) : Option Int := (e.find? fun p => decide (p.1 = s)).map (·.2)
def eput (e : NE) (s : Str) (v : Int) : NE := if (e.any fun p => decide (p.1 = s)) = true then e.map fun p => if p.1 = s then (p.1, v) else p else e ++ [(s, v)]
def encD (e : NE) : List (Key × PD) := e.map fun p => ((Sum.inr p.1 : Key), PD.int p.2)
theorem get_nil {s : Str} : get [] s = none := rfl
theorem get_cons {k s : Str} {v : Int} {r : NE} : get ((k, v) :: r) s = if k = s then some v else get r s := by
  unfold get
  rw [List.find?_cons]
  by_cases e : k = s
  · rw [if_pos e]; simp [e]
  · rw [if_neg e]; simp [e]
theorem look_enc (s : Str) : ∀ e : NE, look (encD e) (.inr s) = (get e s).map PD.int
  | [] => rfl
  | (k, v) :: r => by
    show look (((Sum.inr k : Key), PD.int v) :: encD r) (.inr s) = _
    rw [look_cons, get_cons, look_enc s r]
    by_cases h : k = s
    · subst h; rw [if_pos rfl, if_pos rfl]; rfl
    · rw [if_neg h, if_neg (fun z => h (Sum.inr.inj z))]
theorem enc_any (s : Str) : ∀ e : NE, ((encD e).any fun p => decide (p.1 = (Sum.inr s : Key))) = e.any fun p => decide (p.1 = s)
  | [] => rfl
  | (k, v) :: r => by
    show (decide ((Sum.inr k : Key) = Sum.inr s) || _) = (decide (k = s) || _)
    have ih := enc_any s r
    unfold encD at ih
    rw [ih, key_rr]
theorem put_enc (e : NE) (s : Str) (v : Int) : put (encD e) (.inr s) (.int v) = encD (eput e s v) := by
  unfold put eput
  rw [enc_any]
  by_cases h : (e.any fun p => decide (p.1 = s)) = true
  · rw [if_pos h, if_pos h]
    unfold encD
    rw [List.map_map, List.map_map]
    apply List.map_congr_left
    rintro ⟨k, x⟩ _
    show (if (Sum.inr k : Key) = Sum.inr s then _ else _) = _
    by_cases hk : k = s
    · subst hk
      rw [if_pos rfl]
      show _ = ((Sum.inr (if k = k then (k, v) else (k, x)).1 : Key), _)
      rw [if_pos rfl]
      simp
    · rw [if_neg (fun z => hk (Sum.inr.inj z))]
      show _ = ((Sum.inr (if k = s then (k, v) else (k, x)).1 : Key), _)
      rw [if_neg hk]
      simp [hk]
  · rw [if_neg h, if_neg h]
    unfold encD
    rw [List.map_append]
    rfl
theorem enc_len (e : NE) : (encD e).length = e.length := by unfold encD; rw [List.length_map]
theorem eput_len (e : NE) (s : Str) (v : Int) : (eput e s v).length ≤ e.length + 1 := by
  unfold eput
  split
  · rw [List.length_map]; omega
  · rw [List.length_append]; simp
theorem any_get (s : Str) : ∀ e : NE, (e.any fun p => decide (p.1 = s)) = (get e s).isSome
  | [] => rfl
  | (k, v) :: r => by
    rw [List.any_cons, get_cons, any_get s r]
    by_cases h : k = s
    · rw [if_pos h]; simp [h]
    · rw [if_neg h]; simp [h]
theorem get_snoc (s t : Str) (v : Int) : ∀ e : NE, get (e ++ [(s, v)]) t = (get e t).or (if s = t then some v else none)
  | [] => by
    show get [(s, v)] t = _
    rw [get_cons, get_nil]; rfl
  | (k, x) :: r => by
    rw [List.cons_append, get_cons, get_cons, get_snoc s t v r]
    by_cases h : k = t
    · rw [if_pos h, if_pos h]; rfl
    · rw [if_neg h, if_neg h]
theorem get_map (s t : Str) (v : Int) : ∀ e : NE, get (e.map fun p => if p.1 = s then (p.1, v) else p) t = (get e t).map fun x => if s = t then v else x
  | [] => rfl
  | (k, x) :: r => by
    rw [List.map_cons]
    have ih := get_map s t v r
    by_cases h : k = s
    · show get ((if k = s then (k, v) else (k, x)) :: _) t = _
      rw [if_pos h, get_cons, get_cons, ih]
      by_cases hk : k = t
      · rw [if_pos hk, if_pos hk]
        show some v = some (if s = t then v else x)
        rw [if_pos (h.symm.trans hk)]
      · rw [if_neg hk, if_neg hk]
    · show get ((if k = s then (k, v) else (k, x)) :: _) t = _
      rw [if_neg h, get_cons, get_cons, ih]
      by_cases hk : k = t
      · rw [if_pos hk, if_pos hk]
        show some x = some (if s = t then v else x)
        rw [if_neg (fun z => h (hk.trans z.symm))]
      · rw [if_neg hk, if_neg hk]
theorem get_eput (e : NE) (s t : Str) (v : Int) : get (eput e s v) t = if s = t then some v else get e t := by
  unfold eput
  rw [any_get]
  by_cases h : (get e s).isSome = true
  · rw [if_pos h, get_map]
    by_cases hst : s = t
    · subst hst
      rw [if_pos rfl]
      obtain ⟨x, hx⟩ := Option.isSome_iff_exists.mp h
      rw [hx]; simp
    · rw [if_neg hst]
      cases get e t <;> simp [hst]
  · rw [if_neg h, get_snoc]
    by_cases hst : s = t
    · subst hst
      rw [if_pos rfl]
      cases hx : get e s with
      | none => rw [if_pos rfl]; rfl
      | some x => rw [hx] at h; exact absurd rfl h
    · rw [if_neg hst, if_neg hst]
      cases get e t <;> rfl
end Fw
namespace Fw
open PySem L2
def fgt (δ : AE) (js : List Nat) : AE := js.foldl (fun d j => fo d j) δ
/-- no private object -/
def nC : Sl → Bool
  | .cell _ _ _ => false
  | _ => true
section
variable {K : FK} {δ : AE} {ta tb te tx : TE} {t u tt : TT} {tu tw tz : TS} {a b c d : PD} {P : Post}
theorem RepS.fgt {B : Base} {G H : Hp} {σ : St} : ∀ {δ : AE} (js : List Nat), RepS K B G H σ δ → RepS K B G H σ (Fw.fgt δ js)
  | _, [], R => R
  | δ, j :: js, R => RepS.fgt js (R.forgetX j)
/-- a for whose state is told turn by turn, the slots js forgotten -/
theorem s_forD {wi : TI} {g : TG} {n : Nat} {f : Nat → PD} (js : List Nat) (A : Nat → AE) (h : Evi K wi δ n f) (h0 : fgt δ js = A 0)
    (hs : ∀ i, i < n → ∃ δ'' ks, Evg K g (f i) (A i) δ'' ks ∧ Sx K tu δ'' { nx := fun d => fgt d js = A (i + 1), rt := P.rt, bk := P.nx, ct := fun d => fgt d js = A (i + 1) }) (k : P.nx (A n)) : Sx K (tFor wi g tu) δ P := fun B G H σ D R hn hr hb hc =>
  h B G H σ R _ fun J G1 H1 Gd Y R1 s w hG hY => by
    refine for_it w (fun i σ' H' => ∃ G', RepS K B G' H' σ' (A i) ∧ Same G1 G') ⟨G1, by rw [← h0]; exact RepS.fgt js R1, Same.refl G1⟩ (fun i σ' H' hi ⟨G', R', e⟩ => hG G' H' e R'.gh) ?_ ?_
    · rintro i x σ' H2 H3 hi ⟨G2, R2, e⟩ y
      obtain ⟨G3, s3, r3⟩ := hY i x H2 H3 G2 hi e R2.gh y
      obtain ⟨δ'', ks, hg, hbody⟩ := hs i hi
      refine hg B G3 H3 σ' x (R2.st s3) r3 _ fun σ3 R3 _ _ => ?_
      have e3 : Same G1 G3 := e.trans s3.eg
      refine hbody B G3 H3 σ3 _ R3 (fun σ4 G4 H4 δ4 p R4 e4 => ⟨G4, by rw [← p]; exact RepS.fgt js R4, e3.trans e4⟩) (fun v σ4 G4 H4 δ4 r p R4 e4 k => hr v σ4 G4 H4 δ4 r p R4 ((s.eg.trans e3).trans e4) k) (fun σ4 G4 H4 δ4 p R4 e4 => hn σ4 G4 H4 δ4 p R4 ((s.eg.trans e3).trans e4)) (fun σ4 G4 H4 δ4 p R4 e4 => ⟨G4, by rw [← p]; exact RepS.fgt js R4, e3.trans e4⟩)
    · rintro σ' H' ⟨G', R', e⟩
      exact hn σ' G' H' (A n) k R' (s.eg.trans e)
theorem q_forD {wi : TI} {g : TG} {n : Nat} {f : Nat → PD} (js : List Nat) (A : Nat → AE) (h : Evi K wi δ n f) (h0 : fgt δ js = A 0)
    (hs : ∀ i, i < n → ∃ δ'' ks, Evg K g (f i) (A i) δ'' ks ∧ Sx K tu δ'' { nx := fun d => fgt d js = A (i + 1), rt := P.rt, bk := fun _ => False, ct := fun d => fgt d js = A (i + 1) }) (k : Sx K tz (A n) P) : Sx K (tSeq (tFor wi g tu) tz) δ P := fun B G H σ D R hn hr hb hc =>
  h B G H σ R _ fun J G1 H1 Gd Y R1 s w hG hY => by
    refine for_it w (fun i σ' H' => ∃ G', RepS K B G' H' σ' (A i) ∧ Same G1 G') ⟨G1, by rw [← h0]; exact RepS.fgt js R1, Same.refl G1⟩ (fun i σ' H' hi ⟨G', R', e⟩ => hG G' H' e R'.gh) ?_ ?_
    · rintro i x σ' H2 H3 hi ⟨G2, R2, e⟩ y
      obtain ⟨G3, s3, r3⟩ := hY i x H2 H3 G2 hi e R2.gh y
      obtain ⟨δ'', ks, hg, hbody⟩ := hs i hi
      refine hg B G3 H3 σ' x (R2.st s3) r3 _ fun σ3 R3 _ _ => ?_
      have e3 : Same G1 G3 := e.trans s3.eg
      refine hbody B G3 H3 σ3 _ R3 (fun σ4 G4 H4 δ4 p R4 e4 => ⟨G4, by rw [← p]; exact RepS.fgt js R4, e3.trans e4⟩) (fun v σ4 G4 H4 δ4 r p R4 e4 k => hr v σ4 G4 H4 δ4 r p R4 ((s.eg.trans e3).trans e4) k) (fun σ4 G4 H4 δ4 p R4 e4 => p.elim) (fun σ4 G4 H4 δ4 p R4 e4 => ⟨G4, by rw [← p]; exact RepS.fgt js R4, e3.trans e4⟩)
    · rintro σ' H' ⟨G', R', e⟩
      exact k.after R' (s.eg.trans e) hn hr hb hc
theorem ei_is {wi : TI} {n m : Nat} {f g : Nat → PD} (h : Evi K wi δ n f) (e : n = m) (hf : ∀ i, i < n → f i = g i) : Evi K wi δ m g := by
  subst e
  intro B G H σ R Q q
  refine h B G H σ R Q fun J G' H' Gd Y R' s w h1 h2 => q J G' H' Gd Y R' s w h1 fun i x H2 H3 G2 hi e1 e2 y => ?_
  obtain ⟨G3, s3, r3⟩ := h2 i x H2 H3 G2 hi e1 e2 y
  exact ⟨G3, s3, by rw [← hf i hi]; exact r3⟩
theorem q_clean {ts : TS} (js : List Nat) (k : Sx K ts (fgt δ js) P) : Sx K ts δ P := fun B G H σ D R hn hr hb hc => k.after (RepS.fgt js R) (Same.refl G) hn hr hb hc
/-- range(n) of a small n that is not below nought -/
theorem ei_rngN {ta : TA} {n : Nat} (h : Evs K ta δ [.int (n : Int)]) (hn : n ≤ 100000) : Evi K (iRng1 ta) δ n (fun i => .int (i : Nat)) :=
  ei_is (ei_rng1 h (by omega) (by omega)) (by omega) fun _ _ => rfl
end
/-! ### dict displays -/
def mergeD (kds more : List (Key × PD)) : List (Key × PD) := more.foldl (fun acc kd => put acc kd.1 kd.2) kds
theorem RepsK.merge {K : FK} {G : Hp} : ∀ {more : List (Key × V)} {mds : List (Key × PD)} {kvs : List (Key × V)} {kds : List (Key × PD)}, RepsK K G more mds → RepsK K G kvs kds → RepsK K G (mergeK kvs more) (mergeD kds mds)
  | _, _, _, _, .nil, h => h
  | _, _, kvs, kds, .cons (k := k) (v := v) (d := d) h r, h2 => RepsK.merge (kvs := putK kvs k v) (kds := Fw.put kds k d) r (h2.put h)
def Evps (K : FK) (trs : List (TE × TE)) (δ : AE) (kds : List (Key × PD)) : Prop := ∀ (B : Base) (G H : Hp) (σ : St), RepS K B G H σ δ → ∀ Q : List (V × V) → Hp → Prop,
  (∀ kvs G' H', RepS K B G' H' σ δ → Step G H G' H' → RepsK K G' kvs kds → Q (kvs.map fun kv => (kV kv.1, kv.2)) H') → tPairs trs σ H Q
section
variable {K : FK} {δ : AE} {ta tb te tx : TE} {d dk : PD} {P : Post}
theorem eps_nil : Evps K [] δ [] := fun B G H σ R Q q => q [] G H R (Step.refl R.gh) .nil
theorem eps_cons {trs : List (TE × TE)} {kds : List (Key × PD)} (hk : Evd K ta δ dk) (fk : isKey dk = true) (hv : Evd K tb δ d) (hr : Evps K trs δ kds) : Evps K ((ta, tb) :: trs) δ ((keyOf dk, d) :: kds) := fun B G H σ R Q q =>
  hk B G H σ R _ fun x G1 H1 R1 s1 r1 => hv B G1 H1 σ R1 _ fun y G2 H2 R2 s2 r2 => hr B G2 H2 σ R2 _ fun kvs G3 H3 R3 s3 r3 => by
    rw [r1.key fk]
    exact q ((keyOf dk, y) :: kvs) G3 H3 R3 ((s1.trans s2).trans s3) (.cons (r2.mono s3.eg) r3)
theorem eo_disp {trs : List (TE × TE)} {kds : List (Key × PD)} (h : Evps K trs δ kds) (hl : kds.length ≤ 15) : Evo K (tDisp trs) δ (.dic (mergeD [] kds)) := fun B G H σ R Q q p hp =>
  h B G _ σ (R.hid hp (o := .dK [])) _ fun kvs G1 H1 R1 s1 r1 => by
    have gp : G1 p = none := s1.nw p (by rw [upd_same]; exact fun z => nomatch z) (fresh_back R.gh hp)
    have hs : H1 p = some (.dK []) := s1.eh.get _ _ upd_same
    have s0 : Step G H G1 H1 := ((Step.refl R.gh).hid hp).trans s1
    refine ⟨hs, kvs, rfl, by rw [r1.length]; exact hl, ?_⟩
    exact q p G1 _ (R.st (s0.mut hp gp)) (s0.mut hp gp) hp gp ⟨_, upd_same, r1.merge .nil⟩
/-! ### equal data -/
mutual
def pyOf : PD → PyData
  | .non => .none | .bl b => .bool b | .int i => .int i | .str x => .str x
  | .tup xs => .tuple (pyAll xs) | .btup xs => .tuple (pyAll xs) | .lst xs => .list (pyAll xs) | .dic _ => .none | .scr _ => .none | .adr _ => .none
def pyAll : List PD → List PyData
  | [] => []
  | x :: xs => pyOf x :: pyAll xs
end
mutual
def plain : PD → Bool
  | .non => true | .bl _ => true | .int _ => true | .str _ => true
  | .tup xs => plainAll xs | .btup xs => plainAll xs | .lst xs => plainAll xs | .dic _ => false | .scr _ => false | .adr _ => false
def plainAll : List PD → Bool
  | [] => true
  | x :: xs => plain x && plainAll xs
end
mutual
theorem Rep.dp {G H : Hp} (e : Same G H) : ∀ (d : PD) (v : V), plain d = true → Rep K G v d → Dp K H v (pyOf d)
  | .non, _, _, h => by cases h; exact .non
  | .bl b, _, _, h => by cases h; exact .bl b
  | .int i, _, _, h => by cases h; exact .int i
  | .str x, _, _, h => by cases h; exact .str x
  | .tup xs, _, f, h => by
    cases h with
    | tup h1 h2 => exact .tup (same_sqT e h1) (Reps.dp e xs _ f h2)
  | .btup xs, _, f, h => by
    cases h with
    | btup h1 h0 h2 => exact .tup (same_sqT e (Or.inl (Or.inr ⟨_, h1⟩))) (Reps.dp e xs _ f h2)
  | .lst xs, _, f, h => by
    cases h with
    | lst h1 h2 => exact .lst (Or.inl (Or.inl (e _ _ h1))) (Reps.dp e xs _ f h2)
theorem Reps.dp {G H : Hp} (e : Same G H) : ∀ (ds : List PD) (vs : List V), plainAll ds = true → Reps K G vs ds → DpAll K H vs (pyAll ds)
  | [], _, _, h => by cases h; exact .nil
  | d :: ds, _, f, h => by
    cases h with
    | cons h1 h2 =>
      have f2 : (plain d && plainAll ds) = true := f
      rw [Bool.and_eq_true] at f2
      exact .cons (Rep.dp e d _ f2.1 h1) (Reps.dp e ds _ f2.2 h2)
end
theorem ev_eqD (ha : Evd K ta δ d) (hb : Evd K tb δ d) (f : plain d = true) (hs : PySem.SeqAt.shaped (pyOf d) = true) : Evd K (tOp (rEqD K) ta tb) δ (.bl true) := ev_op ha hb fun B G H σ x y R rx ry Q q =>
  ⟨_, _, Rep.dp R.gh d x f rx, Rep.dp R.gh d y f ry, hs, hs, by
    rw [PySem.SeqAt.eqv_refl _ (PySem.SeqAt.canLay_of_shaped hs)]
    exact q _ G H R (Step.refl R.gh) (.bl true)⟩
theorem ev_neD (ha : Evd K ta δ d) (hb : Evd K tb δ d) (f : plain d = true) (hs : PySem.SeqAt.shaped (pyOf d) = true) : Evd K (tOp (rNeD K) ta tb) δ (.bl false) := ev_op ha hb fun B G H σ x y R rx ry Q q =>
  ⟨_, _, Rep.dp R.gh d x f rx, Rep.dp R.gh d y f ry, hs, hs, by
    rw [PySem.SeqAt.eqv_refl _ (PySem.SeqAt.canLay_of_shaped hs)]
    exact q _ G H R (Step.refl R.gh) (.bl false)⟩
end
end Fw
namespace Fw
open PySem L2
def shr : Sl → Sl
  | .ow o => .sh o.pd
  | .pn o => .sh o.pd
  | .cell p _ c => .cell p false c
  | s => s
section
variable {K : FK} {δ : AE} {ta tb te tx : TE} {tt : TT} {a b c d : PD} {P : Post}
theorem shr_at {i : Nat} {s : Sl} (e : (δ.map shr)[i]? = some s) : ∃ t, δ[i]? = some t ∧ s = shr t := by
  rw [List.getElem?_map] at e
  obtain ⟨t, e3, e4⟩ := Option.map_eq_some_iff.mp e
  exact ⟨t, e3, e4.symm⟩
theorem shr_holds {σ : St} {i : Nat} {p : Addr} (h : Holds σ (δ.map shr) i p) : HoldC δ i p := by
  rcases h with ⟨_, o, z | z⟩ | ⟨w, c, z⟩
  · obtain ⟨t, _, e⟩ := shr_at z; cases t <;> cases e
  · obtain ⟨t, _, e⟩ := shr_at z; cases t <;> cases e
  · obtain ⟨t, h, e⟩ := shr_at z
    cases t <;> cases e
    exact ⟨_, _, h⟩
open Classical in
theorem RepS.borrow {B : Base} {G H : Hp} {σ : St} (R : RepS K B G H σ δ) : ∃ G1, Same G G1 ∧ Same G1 H ∧ RepS K ⟨G1, H, []⟩ G1 H σ (δ.map shr) ∧ ∀ p, (¬ ∃ i, HoldR σ δ i p) → G1 p = G p := by
  have free : ∀ p i, HoldR σ δ i p → G p = none := fun p i hh => (R.held (Or.inl hh)).1
  refine ⟨fun p => if (∃ i, HoldR σ δ i p) then H p else G p, ?_, ?_, ?_, fun p hp => if_neg hp⟩
  · intro p o e
    show (if (∃ i, HoldR σ δ i p) then H p else G p) = some o
    rw [if_neg (fun ⟨i, hh⟩ => by rw [free p i hh] at e; cases e)]
    exact e
  · intro p o e
    have e' : (if (∃ i, HoldR σ δ i p) then H p else G p) = some o := e
    by_cases hh : ∃ i, HoldR σ δ i p
    · rw [if_pos hh] at e'; exact e'
    · rw [if_neg hh] at e'; exact R.gh _ _ e'
  · have eg : Same G (fun p => if (∃ i, HoldR σ δ i p) then H p else G p) := by
      intro p o e
      show (if (∃ i, HoldR σ δ i p) then H p else G p) = some o
      rw [if_neg (fun ⟨i, hh⟩ => by rw [free p i hh] at e; cases e)]
      exact e
    have own : ∀ {i p o}, HoldR σ δ i p → OwnOk K G H p o → Rep K (fun p => if (∃ i, HoldR σ δ i p) then H p else G p) (.ref p) o.pd := fun {i p o} hh ok => by
      cases o with
      | lst ds =>
        obtain ⟨vs, e, r⟩ := ok
        exact .lst (by show (if (∃ i, HoldR σ δ i p) then H p else G p) = _; rw [if_pos ⟨i, hh⟩]; exact e) (r.mono eg)
      | dic ds =>
        obtain ⟨vs, e, r⟩ := ok
        exact .dic (by show (if (∃ i, HoldR σ δ i p) then H p else G p) = _; rw [if_pos ⟨i, hh⟩]; exact e) (r.mono eg)
    refine ⟨by rw [List.length_map]; exact R.ln, ?_, fun a o _ _ h => h, fun a h => h, fun a o h => h, fun a _ g => g, ?_, ?_, fun t ht => ⟨(R.tb t ht).1, ?_⟩, fun _ h => h⟩
    · intro p o e
      have e' : (if (∃ i, HoldR σ δ i p) then H p else G p) = some o := e
      by_cases hh : ∃ i, HoldR σ δ i p
      · rw [if_pos hh] at e'; exact e'
      · rw [if_neg hh] at e'; exact R.gh _ _ e'
    · intro i s e2
      obtain ⟨t, e3, e4⟩ := shr_at e2
      subst e4
      have h := R.sl i t e3
      cases t with
      | no => exact h
      | sh d => obtain ⟨v, ev, r⟩ := h; exact ⟨v, ev, r.mono eg⟩
      | ow o => obtain ⟨p, ep, gp, bp, ok⟩ := h; exact ⟨.ref p, ep, own ⟨ep, o, Or.inl e3⟩ ok⟩
      | pn o => obtain ⟨p, ep, gp, bp, ok⟩ := h; exact ⟨.ref p, ep, own ⟨ep, o, Or.inr e3⟩ ok⟩
      | cell p w c =>
        obtain ⟨k1, gp, _, ok⟩ := h
        refine ⟨k1, ?_, (fun z => nomatch z), ok.mono eg rfl⟩
        show (if (∃ i, HoldR σ δ i p) then H p else G p) = none
        rw [if_neg (fun ⟨j, hh⟩ => by
          have ej := R.dj i j p (Holds.cl e3) (Or.inl hh)
          subst ej
          obtain ⟨_, o, z | z⟩ := hh <;> rw [e3] at z <;> cases z)]
        exact gp
    · intro i j p h1 h2
      exact R.dj i j p (Or.inr (shr_holds h1)) (Or.inr (shr_holds h2))
    · show (if (∃ i, HoldR σ δ i t) then H t else G t) = none
      have no : ¬ ∃ i, HoldR σ δ i t := fun ⟨i, hh⟩ => by
        obtain ⟨_, u, n, e3⟩ := R.held (Or.inl hh)
        exact R.tb.ne n e3 ht rfl
      rw [if_neg no]
      exact (R.tb t ht).2
/-- own objects are read as if they were shared -/
theorem ev_borrow (h : Evd K te (δ.map shr) d) (f : flat d = true) : Evd K te δ d := fun B G H σ R Q q => by
  obtain ⟨G1, e1, e2, R1, _⟩ := R.borrow
  refine h _ G1 H σ R1 Q fun v G' H' R' s r => ?_
  have st : Step G H G H' := ⟨Same.refl G, s.eh, (e1.trans s.eg).trans s.gh, fun _ _ g => g⟩
  rw [r.flat f]
  exact q _ G H' (R.st st) st (rep_flat f)
theorem et_borrow {x : Bool} (h : Evt K tt (δ.map shr) x) : Evt K tt δ x := fun B G H σ R Q q => by
  obtain ⟨G1, e1, e2, R1, _⟩ := R.borrow
  refine h _ G1 H σ R1 Q fun G' H' R' s => ?_
  have st : Step G H G H' := ⟨Same.refl G, s.eh, (e1.trans s.eg).trans s.gh, fun _ _ g => g⟩
  exact q G H' (R.st st) st
/-- two own objects are changed, by a call -/
theorem RepS.two {B : Base} {G H H' : Hp} {σ : St} {i j : Nat} {pa pb : Addr} {o1 o2 o1' o2' : OD} (R : RepS K B G H σ δ) (hi : δ[i]? = some (.ow o1)) (hj : δ[j]? = some (.ow o2)) (ne : i ≠ j) (ea : σ[i]? = some (some (.ref pa))) (eb : σ[j]? = some (some (.ref pb)))
    (hs : SamX H H' fun c => c = pa ∨ c = pb) (hg : Same G H') (k1 : OwnOk K G H' pa o1') (k2 : OwnOk K G H' pb o2') : RepS K B G H' σ ((δ.set i (.ow o1')).set j (.ow o2')) := by
  obtain ⟨p1, x1, g1, b1, q1⟩ := R.getO hi
  rw [ea] at x1; cases x1
  obtain ⟨p2, x2, g2, b2, q2⟩ := R.getO hj
  rw [eb] at x2; cases x2
  have hli : i < δ.length := (List.getElem?_eq_some_iff.mp hi).1
  have hlj : j < δ.length := (List.getElem?_eq_some_iff.mp hj).1
  have Hi : Holds σ δ i pa := Holds.ow ea hi
  have Hj : Holds σ δ j pb := Holds.ow eb hj
  have sj : ((δ.set i (.ow o1')).set j (.ow o2'))[j]? = some (.ow o2') := List.getElem?_set_self (by rw [List.length_set]; exact hlj)
  have si : ((δ.set i (.ow o1')).set j (.ow o2'))[i]? = some (.ow o1') := by rw [List.getElem?_set_ne (Ne.symm ne)]; exact List.getElem?_set_self hli
  have so : ∀ k, k ≠ i → k ≠ j → ((δ.set i (.ow o1')).set j (.ow o2'))[k]? = δ[k]? := fun k ni nj => by rw [List.getElem?_set_ne (Ne.symm nj), List.getElem?_set_ne (Ne.symm ni)]
  have back : ∀ k q, Holds σ ((δ.set i (.ow o1')).set j (.ow o2')) k q → Holds σ δ k q := fun k q hq => by
    by_cases ej : k = j
    · subst ej
      rcases hq with ⟨e, _⟩ | ⟨w, c, z⟩
      · exact Holds.ow e hj
      · rw [sj] at z; cases z
    · by_cases ei : k = i
      · subst ei
        rcases hq with ⟨e, _⟩ | ⟨w, c, z⟩
        · exact Holds.ow e hi
        · rw [si] at z; cases z
      · exact hq.eq rfl (so k ei ej)
  refine R.callX hs (Same.refl G) hg (fun _ _ g => g) (fun a z => ?_) (fun k s e => ?_) (fun k l q h1 h2 => R.dj k l q (back _ _ h1) (back _ _ h2)) (by rw [List.length_set, List.length_set]; exact R.ln)
  · rcases z with z | z
    · subst z; exact ⟨⟨i, Hi⟩, Or.inl b1⟩
    · subst z; exact ⟨⟨j, Hj⟩, Or.inl b2⟩
  · by_cases ej : k = j
    · subst ej
      rw [sj] at e
      cases e
      exact Or.inr ⟨pb, eb, g2, b2, k2⟩
    · by_cases ei : k = i
      · subst ei
        rw [si] at e
        cases e
        exact Or.inr ⟨pa, ea, g1, b1, k1⟩
      · rw [so k ei ej] at e
        refine Or.inl ⟨e, fun a ha z => ?_⟩
        rcases z with z | z
        · subst z; exact ei (R.dj k i a ha Hi)
        · subst z; exact ej (R.dj k j a ha Hj)
end
end Fw
namespace Fw
open PySem L2
def compPD : PD ⊕ OD → PD
  | .inl d => d
  | .inr o => o.pd
section
variable {K : FK} {δ : AE} {ta tb te tx : TE} {tt : TT} {a b c d : PD} {P : Post}
/-- the parts of a new tuple: values, and own objects that stand in the slots is -/
def Ecs (K : FK) (ta : TA) (δ : AE) (cs : List (PD ⊕ OD)) (is : List Nat) : Prop := ∀ (B : Base) (G H : Hp) (σ : St), RepS K B G H σ δ → ∀ Q : List V → Hp → Prop,
  (∀ vs G' H', RepS K B G' H' σ δ → Step G H G' H' → vs.length = cs.length → (∀ (i : Nat) (x : V) (c : PD ⊕ OD), vs[i]? = some x → cs[i]? = some c → CompOk K B.H G' H' x c) →
    (∀ (i : Nat) (p : Addr) (c : PD ⊕ OD), cs[i]? = some c → isOwn c = true → vs[i]? = some (V.ref p) → (∃ k ∈ is, Holds σ δ k p) ∨ H p = none) →
    (∀ (i j : Nat) (p : Addr) (c c' : PD ⊕ OD), cs[i]? = some c → cs[j]? = some c' → isOwn c = true → isOwn c' = true → vs[i]? = some (V.ref p) → vs[j]? = some (V.ref p) → i = j) → Q vs H') → ta σ H Q
theorem ecs_nil : Ecs K tNil δ [] [] := fun B G H σ R Q q => q [] G H R (Step.refl R.gh) rfl (fun i x c e => by simp at e) (fun i p c e => by simp at e) (fun i j p c c' e => by simp at e)
theorem CompOk.mono {H0 G G' H H' : Hp} {x : V} {c : PD ⊕ OD} (h : CompOk K H0 G H x c) (s : Step G H G' H') : CompOk K H0 G' H' x c := by
  cases c with
  | inl d => exact Rep.mono s.eg h
  | inr o =>
    obtain ⟨p, e, hp, gp, ok⟩ := h
    exact ⟨p, e, hp, s.nw p ok.live gp, ok.sam s.eg s.eh⟩
theorem ecs_val {tr : TA} {cs : List (PD ⊕ OD)} {is : List Nat} (h : Evd K te δ d) (hr : Ecs K tr δ cs is) : Ecs K (tCons te tr) δ (.inl d :: cs) is := fun B G H σ R Q q =>
  h B G H σ R _ fun v G1 H1 R1 s1 r1 => hr B G1 H1 σ R1 _ fun vs G2 H2 R2 s2 l k1 k2 k3 => q (v :: vs) G2 H2 R2 (s1.trans s2) (by rw [List.length_cons, List.length_cons, l])
    (fun i x c e1 e2 => by
      cases i with
      | zero => cases e1; cases e2; exact Rep.mono s2.eg r1
      | succ i => exact k1 i x c e1 e2)
    (fun i p c e1 e2 e3 => by
      cases i with
      | zero => cases e1; cases e2
      | succ i => exact (k2 i p c e1 e2 e3).imp id (fresh_bk s1.eh))
    (fun i j p c c' e1 e2 o1 o2 e3 e4 => by
      cases i with
      | zero => cases e1; cases o1
      | succ i =>
        cases j with
        | zero => cases e2; cases o2
        | succ j => exact congrArg Nat.succ (k3 i j p c c' e1 e2 o1 o2 e3 e4))
theorem ecs_own {tr : TA} {cs : List (PD ⊕ OD)} {is : List Nat} {k : Nat} {o : OD} (h : δ[k]? = some (.ow o)) (hr : Ecs K tr δ cs is) (hk : k ∉ is) : Ecs K (tCons (tVar k) tr) δ (.inr o :: cs) (k :: is) := fun B G H σ R Q q => by
  obtain ⟨p, e, gp, bp, ok⟩ := R.getO h
  refine ⟨_, e, hr B G H σ R _ fun vs G2 H2 R2 s2 l k1 k2 k3 => q (.ref p :: vs) G2 H2 R2 s2 (by rw [List.length_cons, List.length_cons, l]) (fun i x c e1 e2 => ?_) (fun i q c e1 e2 e3 => ?_) (fun i j q c c' e1 e2 o1 o2 e3 e4 => ?_)⟩
  · cases i with
    | zero =>
      cases e1; cases e2
      exact CompOk.mono (c := .inr o) ⟨p, rfl, bp, gp, ok⟩ s2
    | succ i => exact k1 i x c e1 e2
  · cases i with
    | zero => cases e3; exact Or.inl ⟨k, List.mem_cons_self, Holds.ow e h⟩
    | succ i =>
      rcases k2 i q c e1 e2 e3 with ⟨m, hm, hh⟩ | hf
      · exact Or.inl ⟨m, List.mem_cons_of_mem _ hm, hh⟩
      · exact Or.inr hf
  · have no : ∀ (i : Nat) (c : PD ⊕ OD), cs[i]? = some c → isOwn c = true → vs[i]? = some (V.ref p) → False := fun i c e1 o1 e2 => by
      rcases k2 i p c e1 o1 e2 with ⟨m, hm, hh⟩ | hf
      rotate_left
      · exact ok.live hf
      have := R.dj m k p hh (Holds.ow e h)
      subst this
      exact hk hm
    cases i with
    | zero =>
      cases j with
      | zero => rfl
      | succ j => cases e3; exact (no j c' e2 o2 e4).elim
    | succ i =>
      cases j with
      | zero => cases e4; exact (no i c e1 o1 e3).elim
      | succ j => exact congrArg Nat.succ (k3 i j q c c' e1 e2 o1 o2 e3 e4)
theorem RepS.held_live {B : Base} {G H : Hp} {σ : St} {i : Nat} {p : Addr} (R : RepS K B G H σ δ) (hh : Holds σ δ i p) : H p ≠ none := by
  obtain ⟨_, u, _, e⟩ := R.held hh
  exact some_ne e
/-- .. a part that is made here -/
theorem ecs_new {tr : TA} {cs : List (PD ⊕ OD)} {is : List Nat} {o : OD} (h : Evo K te δ o) (hr : Ecs K tr δ cs is) : Ecs K (tCons te tr) δ (.inr o :: cs) is := fun B G H σ R Q q =>
  h B G H σ R _ fun p G1 H1 R1 s1 hp gp ok => hr B G1 H1 σ R1 _ fun vs G2 H2 R2 s2 l k1 k2 k3 => by
    have no : ∀ (i : Nat) (c : PD ⊕ OD), cs[i]? = some c → isOwn c = true → vs[i]? = some (V.ref p) → False := fun i c e1 o1 e2 => by
      rcases k2 i p c e1 o1 e2 with ⟨m, hm, hh⟩ | hf
      · exact R.held_live hh hp
      · exact ok.live hf
    refine q (.ref p :: vs) G2 H2 R2 (s1.trans s2) (by rw [List.length_cons, List.length_cons, l]) (fun i x c e1 e2 => ?_) (fun i q c e1 e2 e3 => ?_) (fun i j q c c' e1 e2 o1 o2 e3 e4 => ?_)
    · cases i with
      | zero =>
        cases e1; cases e2
        exact CompOk.mono (c := .inr o) ⟨p, rfl, R.newFree hp, gp, ok⟩ s2
      | succ i => exact k1 i x c e1 e2
    · cases i with
      | zero => cases e3; exact Or.inr hp
      | succ i => exact (k2 i q c e1 e2 e3).imp id (fresh_bk s1.eh)
    · cases i with
      | zero =>
        cases j with
        | zero => rfl
        | succ j => cases e3; exact (no j c' e2 o2 e4).elim
      | succ i =>
        cases j with
        | zero => cases e4; exact (no i c e1 o1 e3).elim
        | succ j => exact congrArg Nat.succ (k3 i j q c c' e1 e2 o1 o2 e3 e4)
/-- return (a, b, ..), own objects among them -/
theorem s_retT {ta : TA} {cs : List (PD ⊕ OD)} {is : List Nat} (h : Ecs K ta δ cs is) (hl : cs.length ≤ 1000) (k : P.rt (.otup cs) δ) : Sx K (tRet (tTup ta)) δ P := fun B G H σ D R hn hr hb hc =>
  h B G H σ R _ fun vs G1 H1 R1 s l k1 k2 k3 => ⟨Nat.le_trans (by rw [l]; exact hl) (by decide), fun t ht => by
    have bt : B.H t = none := R1.newFree ht
    refine hr _ σ G1 _ δ (.otup cs) k (R1.hid ht) s.eg ⟨t, vs, rfl, bt, fresh_back R1.gh ht, upd_same, l, fun i x c e1 e2 => ?_, k3⟩
    exact (k1 i x c e1 e2).mono ((Step.refl R1.gh).hid ht)⟩
open Classical in
/-- such a tuple, its parts now shared -/
theorem otup_pub {B : Base} {G H G' H' : Hp} {σ : St} {v : V} {cs : List (PD ⊕ OD)} (R : RepS K B G H σ δ) (s : Step G H G' H') (h : RtOk K H G' H' v (.otup cs)) : ∃ G2, Step G H G2 H' ∧ Rep K G2 v (.tup (cs.map compPD)) ∧ Same G' G2 := by
  obtain ⟨t, vs, ev, ht, gt, et, l, k1, k3⟩ := h
  subst ev
  let S : Addr → Prop := fun p => p = t ∨ ∃ (i : Nat) (c : PD ⊕ OD), cs[i]? = some c ∧ isOwn c = true ∧ vs[i]? = some (V.ref p)
  have sf : ∀ p, S p → H p = none ∧ G' p = none := fun p hp => by
    rcases hp with e | ⟨i, c, e1, o1, e2⟩
    · subst e; exact ⟨ht, gt⟩
    · have hc := k1 i _ c e2 e1
      cases c with
      | inl d => cases o1
      | inr o =>
        obtain ⟨q, e, hq, gq, _⟩ := hc
        cases e
        exact ⟨hq, gq⟩
  let G2 : Hp := fun p => if S p then H' p else G' p
  have eg : Same G' G2 := fun p o e => by
    show (if S p then H' p else G' p) = some o
    rw [if_neg (fun z => by rw [(sf p z).2] at e; cases e)]
    exact e
  have e2 : Same G2 H' := fun p o e => by
    have e' : (if S p then H' p else G' p) = some o := e
    by_cases hp : S p
    · rw [if_pos hp] at e'; exact e'
    · rw [if_neg hp] at e'; exact s.gh _ _ e'
  refine ⟨G2, ⟨s.eg.trans eg, s.eh, e2, fun p l g => ?_⟩, ?_, eg⟩
  · show (if S p then H' p else G' p) = none
    rw [if_neg (fun z => l (sf p z).1)]
    exact s.nw p l g
  · have g2 : ∀ p, S p → G2 p = H' p := fun p hp => if_pos hp
    refine .tup (vs := vs) (Or.inl (Or.inl (by rw [g2 t (Or.inl rfl)]; exact et))) ?_
    have each : ∀ (i : Nat) (x : V) (c : PD ⊕ OD), vs[i]? = some x → cs[i]? = some c → Rep K G2 x (compPD c) := fun i x c e1 e3 => by
      have hc := k1 i x c e1 e3
      cases c with
      | inl d => exact Rep.mono eg hc
      | inr o =>
        obtain ⟨q, e, hq, gq, ok⟩ := hc
        subst e
        have hS : S q := Or.inr ⟨i, _, e3, rfl, e1⟩
        cases o with
        | lst ds =>
          obtain ⟨us, eu, r⟩ := ok
          exact .lst (by rw [g2 q hS]; exact eu) (r.mono eg)
        | dic ds =>
          obtain ⟨us, eu, r⟩ := ok
          exact .dic (by rw [g2 q hS]; exact eu) (r.mono eg)
    have build : ∀ (vs : List V) (cs : List (PD ⊕ OD)), vs.length = cs.length → (∀ (i : Nat) (x : V) (c : PD ⊕ OD), vs[i]? = some x → cs[i]? = some c → Rep K G2 x (compPD c)) → Reps K G2 vs (cs.map compPD) := fun vs => by
      induction vs with
      | nil => intro cs l _; cases cs with
        | nil => exact .nil
        | cons c cs => simp at l
      | cons v vs ih => intro cs l h; cases cs with
        | nil => simp at l
        | cons c cs => exact .cons (h 0 v c rfl rfl) (ih cs (by simpa using l) fun i x c e1 e2 => h (i + 1) x c e1 e2)
    exact build vs cs l each
theorem ev_callT {PP : List PD → Rt → Prop} {E : XK} {t : TA} {ds : List PD} {cs : List (PD ⊕ OD)} (ha : Evs K t δ ds) (h : PP ds (.otup cs)) : Evd K (tCall (spP K PP) [] E t) δ (.tup (cs.map compPD)) := fun B G H σ R Q q =>
  ha B G H σ R _ fun vs G1 H1 R1 s rs => by
    rw [List.append_nil]
    refine ⟨G1, ds, .otup cs, R1.gh, R1.tb, rs, h, fun v G' H' eh' eg' gh' n r => ?_⟩
    obtain ⟨G2, s2, r2, _⟩ := otup_pub R1 ⟨eg', eh', gh', n⟩ r
    exact q v G2 H' (R1.st s2) (s.trans s2) r2
end
end Fw
/-! all(..), any(..) of an iterator whose items come by running code. J bs: the truths bs are still to come -/
namespace Gx
open PySem
variable {prog : Program} {w : World} {A : Around} {J : List Bool → Shared → Prop} {JD : Shared → Prop}
structure Turns (prog : Program) (w : World) (A : Around) (I : Addr) (J : List Bool → Shared → Prop) (JD : Shared → Prop) : Prop where
  give : ∀ (b : Bool) (bs : List Bool) (s : Shared) (Q : Option Value → Shared → Prop) (E : Value → Shared → Prop), J (b :: bs) s → (∀ z, J bs z → Q (some (.bool b)) z) → wpAny (model prog w) A (pyNext (.ref I)) Q E s
  stop : ∀ (s : Shared) (Q : Option Value → Shared → Prop) (E : Value → Shared → Prop), J [] s → (∀ z, JD z → Q none z) → wpAny (model prog w) A (pyNext (.ref I)) Q E s
/-- where such a walk may end -/
def Left (J : List Bool → Shared → Prop) (JD : Shared → Prop) (z : Shared) : Prop := JD z ∨ ∃ bs, J bs z
theorem loop_all {I : Addr} (W : Turns prog w A.in1 I J JD) : ∀ (bs : List Bool) (s : Shared) (R : Result → Shared → Prop), J bs s → (∀ z, Left J JD z → R (.ok (.ret (.bool (bs.all id)))) z) → codeAny (model prog w) A (.builtin "all.loop" ⟨[.ref I], []⟩) R s
  | [], s, R, j, hR => codeAny_builtin F.entry_all_loop (by
    rw [A.under_plainId F.plain_all_loop]; exact wpAny_bind (W.stop s _ _ j fun z d => wpAny_bind (wpAny_rule (wpAny_pure (hR z (.inl d))))))
  | true :: bs, s, R, j, hR => codeAny_builtin F.entry_all_loop (by
    rw [A.under_plainId F.plain_all_loop]; exact wpAny_bind (W.give _ _ s _ _ j fun z k => wpAny_bind (wpAny_holding (wpAny_truthy_bool (wpAny_bind (wpAny_letGo (wpAny_pure ⟨plainId_quiet F.plain_all_loop _, loop_all W bs z R k hR⟩)))))))
  | false :: bs, s, R, j, hR => codeAny_builtin F.entry_all_loop (by
    rw [A.under_plainId F.plain_all_loop]; exact wpAny_bind (W.give _ _ s _ _ j fun z k => wpAny_bind (wpAny_holding (wpAny_truthy_bool (wpAny_bind (wpAny_letGo (wpAny_bind (wpAny_rule (wpAny_pure (hR z (.inr ⟨_, k⟩))))))))))) 
theorem loop_any {I : Addr} (W : Turns prog w A.in1 I J JD) : ∀ (bs : List Bool) (s : Shared) (R : Result → Shared → Prop), J bs s → (∀ z, Left J JD z → R (.ok (.ret (.bool (bs.any id)))) z) → codeAny (model prog w) A (.builtin "any.loop" ⟨[.ref I], []⟩) R s
  | [], s, R, j, hR => codeAny_builtin F.entry_any_loop (by
    rw [A.under_plainId F.plain_any_loop]; exact wpAny_bind (W.stop s _ _ j fun z d => wpAny_bind (wpAny_rule (wpAny_pure (hR z (.inl d))))))
  | false :: bs, s, R, j, hR => codeAny_builtin F.entry_any_loop (by
    rw [A.under_plainId F.plain_any_loop]; exact wpAny_bind (W.give _ _ s _ _ j fun z k => wpAny_bind (wpAny_holding (wpAny_truthy_bool (wpAny_bind (wpAny_letGo (wpAny_pure ⟨plainId_quiet F.plain_any_loop _, loop_any W bs z R k hR⟩)))))))
  | true :: bs, s, R, j, hR => codeAny_builtin F.entry_any_loop (by
    rw [A.under_plainId F.plain_any_loop]; exact wpAny_bind (W.give _ _ s _ _ j fun z k => wpAny_bind (wpAny_holding (wpAny_truthy_bool (wpAny_bind (wpAny_letGo (wpAny_bind (wpAny_rule (wpAny_pure (hR z (.inr ⟨_, k⟩))))))))))) 
/-- what is asked of the iterator it in the state z -/
def Asked (prog : Program) (w : World) (A : Around) (out : List Bool → Bool) (Q : Value → Shared → Prop) (it : Value) (z : Shared) : Prop :=
  ∃ (I : Addr) (J : List Bool → Shared → Prop) (JD : Shared → Prop) (bs : List Bool), it = .ref I ∧ Turns prog w A I J JD ∧ J bs z ∧ ∀ y, Left J JD y → Q (.bool (out bs)) y
theorem ask_all {E : Value → Shared → Prop} {s : Shared} {x : Value} {Q : Value → Shared → Prop} (h : wpAny (model prog w) A.in1 (pyIter x) (Asked prog w A.in1 (·.all id) Q) E s) : wpAny (model prog w) A (call (.builtin "all") [x]) Q E s :=
  call_function_tree F.kind_all F.plain_all F.entry_all (F.args_all1 _) (by
    unfold Builtin.«all»
    exact wpAny_bind (m := oneArg "all" _) (wpAny_pure (wpAny_bind (wpAny_mono h (fun it z ⟨I, J, JD, bs, e, W, j, q⟩ => by subst e; exact wpAny_pure ⟨plainId_quiet F.plain_all_loop _, loop_all W bs z _ j q⟩) fun _ _ e => e))))
theorem ask_any {E : Value → Shared → Prop} {s : Shared} {x : Value} {Q : Value → Shared → Prop} (h : wpAny (model prog w) A.in1 (pyIter x) (Asked prog w A.in1 (·.any id) Q) E s) : wpAny (model prog w) A (call (.builtin "any") [x]) Q E s :=
  call_function_tree F.kind_any F.plain_any F.entry_any (F.args_any1 _) (by
    unfold Builtin.«any»
    exact wpAny_bind (m := oneArg "any" _) (wpAny_pure (wpAny_bind (wpAny_mono h (fun it z ⟨I, J, JD, bs, e, W, j, q⟩ => by subst e; exact wpAny_pure ⟨plainId_quiet F.plain_any_loop _, loop_any W bs z _ j q⟩) fun _ _ e => e))))
end Gx
/-! a generator expression of one for, no if, whose element may run defs: S bs, the truths bs are still to come -/
namespace Gx
open PySem
def Never : Value → Shared → Prop := fun _ _ => False
/-- the generator's code at its loop -/
abbrev atLoop (elt tg iter : Expr) (scope : Scope) (pos : Pos) (I : Addr) (cenv : Env) : Code := .compLoop (.GeneratorExp elt [⟨tg, iter, [], 0⟩] scope pos) 0 (.ref I) .none cenv
structure Turning (prog : Program) (w : World) (A : Around) (elt tg : Expr) (cenv : Env) (I : Addr) (S : List Bool → Shared → Prop) (SD : Shared → Prop) : Prop where
  turn : ∀ (b : Bool) (bs : List Bool) (s : Shared), S (b :: bs) s → wpAny (model prog w) A (pyNext (.ref I)) (fun o z => ∃ v, o = some v ∧
    wpAny (model prog w) A (letOwnedTupleGo tg (.ref I) v) (fun _ z1 => wpAny (model prog w) A (assign tg cenv v) (fun _ z2 => wpAny (model prog w) A (eval elt cenv) (fun y z3 => y = .bool b ∧ S bs z3) Never z2) Never z1) Never z) Never s
  self : ∀ (bs : List Bool) (s : Shared), S bs s → wpAny (model prog w) A (pyIter (.ref I)) (fun v z => v = .ref I ∧ S bs z) Never s
  stop : ∀ s : Shared, S [] s → wpAny (model prog w) A (pyNext (.ref I)) (fun o z => o = none ∧ SD z) Never s
def Talk (L : List Bool) (S : List Bool → Shared → Prop) : Protocol := fun m _ v s kap =>
  ∃ b bs, (b :: bs) <:+ L ∧ bs.length = m ∧ v = .bool b ∧ S bs s ∧ ∀ z, S bs z → kap (.send .none) z
def Over (SD : Shared → Prop) : GenEnd := fun n _ r z => r = .ok .next ∧ (n = 0 ∧ SD z)
variable {prog : Program} {w : World} {A : Around} {S : List Bool → Shared → Prop} {SD : Shared → Prop}
theorem never {α : Type} {t : Sem α} {P : α → Shared → Prop} {E : Value → Shared → Prop} {s : Shared} {Q : α → Shared → Prop} (h : wpAny (model prog w) A t P Never s) (k : ∀ a z, P a z → Q a z) : wpAny (model prog w) A t Q E s :=
  wpAny_mono h k fun _ _ z => z.elim
theorem seg_turns {elt tg iter : Expr} {scope : Scope} {pos : Pos} {I : Addr} {cenv : Env} (hco : cenv.scope.isCoroutine = false)
    (T : Turning prog w (A.over (atLoop elt tg iter scope pos I cenv) []) elt tg cenv I S SD) (L : List Bool) : ∀ (bs : List Bool) (s₀ s : Shared), bs <:+ L → S bs s →
      Seg (model prog w) A (Over SD) (Talk L S) bs.length s₀ (atLoop elt tg iter scope pos I cenv) ((model prog w).den (atLoop elt tg iter scope pos I cenv)) [] s
  | [], s₀, s, hl, hs => by
    show Seg _ A _ _ 0 s₀ _ ((compTurn (.GeneratorExp elt [⟨tg, iter, [], 0⟩] scope pos) 0 (.ref I) .none cenv).onRaise (leaving cenv)) [] s
    rw [compTurn_gen, Sem.onRaise_eq_wrap]; refine seg_bind_wrap (wpAny_standAt (seg_bind_wrap (never (T.stop s hs) fun o z h => ?_)))
    obtain ⟨rfl, hz⟩ := h
    exact seg_end (.ok .next) ⟨rfl, rfl, hz⟩
  | b :: bs, s₀, s, hl, hs => by
    show Seg _ A _ _ (bs.length + 1) s₀ _ ((compTurn (.GeneratorExp elt [⟨tg, iter, [], 0⟩] scope pos) 0 (.ref I) .none cenv).onRaise (leaving cenv)) [] s
    rw [compTurn_gen, Sem.onRaise_eq_wrap]; refine seg_bind_wrap (wpAny_standAt (seg_bind_wrap (never (T.turn b bs s hs) fun o z h => ?_)))
    obtain ⟨v, rfl, h⟩ := h
    refine seg_bind_wrap (never h fun _ z1 h1 => seg_bind_wrap (never h1 fun _ z2 h2 => ?_))
    simp only [List.forIn_nil]
    refine seg_bind_wrap (wpAny_pure ?_)
    have hy : ∀ u, yieldOut cenv u = yieldValue u := fun u => by simp only [yieldOut, hco, Bool.false_eq_true, if_false]
    simp only [if_true, hy]
    rw [Sem.bind_eq_wrap', Sem.bind_eq_wrap', Sem.wrap_wrap, Sem.wrap_wrap]; refine seg_wrap (never h2 fun y z3 h3 => ?_)
    obtain ⟨rfl, h4⟩ := h3
    exact seg_at (seg_yield rfl rfl rfl ⟨b, bs, hl, rfl, rfl, h4, fun z5 h5 => seg_again rfl (seg_turns hco T L bs z5 z5 ((List.suffix_cons b bs).trans hl) h5)⟩)
abbrev atStart (elt tg iter : Expr) (scope : Scope) (pos : Pos) (I : Addr) (cenv : Env) : Code := .compStart (.GeneratorExp elt [⟨tg, iter, [], 0⟩] scope pos) 0 (.ref I) .none cenv
theorem seg_begin {elt tg iter : Expr} {scope : Scope} {pos : Pos} {I : Addr} {cenv : Env} (hco : cenv.scope.isCoroutine = false)
    (T : Turning prog w (A.over (atLoop elt tg iter scope pos I cenv) []) elt tg cenv I S SD) (L : List Bool) (s₀ s : Shared) (hs : S L s) :
    Seg (model prog w) A (Over SD) (Talk L S) L.length s₀ (atStart elt tg iter scope pos I cenv) ((model prog w).den (atStart elt tg iter scope pos I cenv)) [] s := by
  have loop : ∀ z, S L z → Seg (model prog w) A (Over SD) (Talk L S) L.length s₀ (atLoop elt tg iter scope pos I cenv) ((model prog w).den (atLoop elt tg iter scope pos I cenv)) [] z := fun z hz => seg_turns hco T L L s₀ z (List.suffix_refl L) hz
  show Seg _ A _ _ _ s₀ _ ((compStart (.GeneratorExp elt [⟨tg, iter, [], 0⟩] scope pos) 0 (.ref I) .none cenv).onRaise (leaving cenv)) [] s
  unfold compStart
  rw [Sem.onRaise_eq_wrap]
  show Seg _ A _ _ _ s₀ _ ((ask >>= _).wrap _ _ _ _) [] s; refine seg_bind_wrap (wpAny_askSetting ?_)
  split
  · exact seg_again rfl (loop s hs)
  · have fin := never (Q := fun v z => Seg (model prog w) A (Over SD) (Talk L S) L.length s₀ (atStart elt tg iter scope pos I cenv) (.pure (.again (.compLoop (.GeneratorExp elt [⟨tg, iter, [], 0⟩] scope pos) 0 v .none cenv))) [] z) (E := fun _ _ => False) (T.self L s hs) fun v z h => by
      obtain ⟨rfl, hz⟩ := h
      exact seg_again rfl (loop z hz)
    first
      | exact seg_bind_wrap (wpAny_rule (seg_bind_wrap (wpAny_standAt (seg_bind_wrap (wpAny_mono fin (fun _ _ h => h) fun _ _ z => z.elim)))))
      | (refine seg_bind_wrap (wpAny_rule ?_); show Seg _ A _ _ _ s₀ _ ((standAt iter.pos >>= _).wrap _ _ _ _) [] s; exact seg_bind_wrap (wpAny_standAt (seg_bind_wrap (wpAny_mono fin (fun _ _ h => h) fun _ _ z => z.elim))))
/-- the generator a, number g: the truths bs are still to come -/
structure Keeps (a : Addr) (g : Nat) (S : List Bool → Shared → Prop) : Prop where
  gen : ∀ bs s, S bs s → s.heap.IsGen a g ∧ s.heap.NoLimit ∧ g < s.gens.size
  stay : ∀ bs s (x : GenState), S bs s → x.bare = true → S bs (s.setGen g x)
def Stands (prog : Program) (w : World) (A : Around) (a : Addr) (g : Nat) (L : List Bool) (S : List Bool → Shared → Prop) (SD : Shared → Prop) (bs : List Bool) (s : Shared) : Prop :=
  bs <:+ L ∧ S bs s ∧ ∃ gs, s.gens[g]? = some gs ∧ ∀ z, S bs z → gs.Goes (model prog w) A.in1 (Over SD) (Talk L S) bs.length (.send .none) z
/-- its end: the answer's exception has been made and let go -/
def AtEnd (g : Nat) (SD : Shared → Prop) (z : Shared) : Prop := ∃ (y : Shared) (h' : Heap), SD y ∧ (∀ b o, y.heap.get? b = some o → h'.get? b = some o) ∧ z = { y.setGen g .finished with heap := h' }
theorem same_suffix {L xs ys : List Bool} (h1 : xs <:+ L) (h2 : ys <:+ L) (e : xs.length = ys.length) : xs = ys := by
  rw [List.suffix_iff_eq_drop] at h1 h2
  rw [h1, h2, e]
theorem turns_gen {a : Addr} {g : Nat} {L : List Bool} (hh : A.handled = none) (hroom : A.depth < recursionLimit) (KP : Keeps a g S) : Turns prog w A a (Stands prog w A a g L S SD) (AtEnd g SD) where
  give := fun b bs s Q E j k => by
    obtain ⟨hl, hs, gs, hgs, go⟩ := j
    obtain ⟨h1, h2, h3⟩ := KP.gen _ _ hs
    refine wpAny_pyNext_genexpQ (n := bs.length + 1) (P := fun n _ z => n = 0 ∧ SD z) (Y := Talk L S) hh h2 hroom h1 hgs (go _ (KP.stay _ _ _ hs rfl)) (fun v y gs' hb hv => ?_) fun y hp => absurd hp.1 (Nat.succ_ne_zero _)
    obtain ⟨b', bs', hl', hlen, rfl, hS, hk⟩ := hv
    have e : b' :: bs' = b :: bs := same_suffix hl' hl (congrArg Nat.succ hlen)
    cases e
    exact k _ ⟨(List.suffix_cons b bs).trans hl, KP.stay _ _ _ hS hb, gs', by
      have h4 := (KP.gen _ _ hS).2.2
      simp [Shared.setGen, h4], hk⟩
  stop := fun s Q E j k => by
    obtain ⟨hl, hs, gs, hgs, go⟩ := j
    obtain ⟨h1, h2, h3⟩ := KP.gen _ _ hs
    refine wpAny_pyNext_genexpQ (n := 0) (P := fun n _ z => n = 0 ∧ SD z) (Y := Talk L S) hh h2 hroom h1 hgs (go _ (KP.stay _ _ _ hs rfl)) (fun v y gs' hb hv => ?_) fun y hp h' hx => k _ ⟨y, h', hp.2, hx, rfl⟩
    obtain ⟨b', bs', _, hlen, _, _, hk⟩ := hv
    exact (hk y (by assumption)).elim
end Gx
/-! the frame of a generator expression as a context -/
namespace Gx
open PySem PySem.Spec PyProof.Rows L2
/-- the frame's own scope: what is walked at «.0», nothing captured -/
structure Own (scope : Scope) : Prop where
  kind : scope.kind = .function
  co : false = scope.isCoroutine
  plain : ∀ y ∈ scope.names, y.2 ≠ .cell ∧ y.2 ≠ .free
  dot : some NameKind.local = scope.names.lookup (".0" : Str)
abbrev gEnv (X : Cx) (scope : Scope) (code : Value) (C : Addr) : Env := genEnv scope [] C code builtinsNs X.env
def gx (X : Cx) (N : List Str) (scope : Scope) (code : Value) (A : Around) (s : Shared) (H : Hp) (fp : List Addr) : Cx where
  prog := X.prog
  w := X.w
  K := X.K
  mg := X.mg
  base := X.base
  A := A
  N := N
  s_0 := s
  H_0 := H
  env := gEnv X scope code s.heap.objs.size
  outer := X.stack
  stack := gEnv X scope code s.heap.objs.size :: X.stack
  ex := fp
  fn := fun _ => false
  calm := true
  pn := []
  xe := Never
variable {X : Cx} {pins : List (Addr × Obj)} {σ : L2.St} {H : Hp} {s : Shared}
theorem gx_inv {N : List Str} {scope : Scope} {code : Value} {A : Around} {fp : List Addr} {s5 : Shared} {m : Str → Option Value} (S : Own scope) (I : Inv X pins σ H s) (hfp : ∀ b ∈ fp, FpOk X pins H b ∧ b < s.heap.objs.size)
    (hA : A.frames = some (gEnv X scope code s.heap.objs.size :: X.stack)) (hh : A.handled = none) (hos : s5.os = s.os) (hb : AllBare s5.gens) (keep : ∀ b o, s.heap.get? b = some o → s5.heap.get? b = some o) (ns : s5.heap.Ns s.heap.objs.size m) :
    Inv (gx X N scope code A s H fp) [] (N.map fun _ => none) H s5 := by
  have nocell : ∀ (x : Str) (c : Addr), (gx X N scope code A s H fp).env.cells.lookup x ≠ some c := fun x c e => nomatch e
  have notB : ∀ b o, X.base.get? b = some o → b ∉ fp := fun b o e hm => by
    obtain ⟨_, _, _, h, _⟩ := (hfp b hm).1
    rcases h with h | h
    · exact I.ok.noex b o e h
    · exact absurd (Nat.lt_of_lt_of_le (Heap.lt_size e) (Nat.le_trans I.ok.bsz h)) (Nat.lt_irrefl _)
  refine ⟨⟨I.ok.mod, S.kind, I.ok.glob, rfl, Nat.le_refl _, fun x y c e => absurd e (nocell x c), fun x hx => ?_, fun x c z => (by cases z), fun _ => hh, hA, .inr ⟨rfl, rfl⟩, fun b hm => ⟨Nat.ne_of_lt (hfp b hm).2, fun x c e => absurd e (nocell x c)⟩, I.bs, Nat.le_trans I.ok.bsz I.sz, notB, fun b hm hs => ?_, I.stack, I.stkFree⟩,
    hos, hb, Un.kept keep, ⟨m, ns, fun i x v e1 e2 => ?_⟩, fun x c e => absurd e (nocell x c), I.hok.fresh (Nat.le_refl _), fun x c e => absurd e (nocell x c), fun p hp => (nomatch hp), I.hok.kept keep, List.length_map ..⟩
  · have hx' : scope.names.lookup x = some .cell ∨ scope.names.lookup x = some .free := hx
    rcases hx' with z | z
    · exact absurd rfl (S.plain _ (PySem.mem_of_lookup z)).1
    · exact absurd rfl (S.plain _ (PySem.mem_of_lookup z)).2
  · obtain ⟨_, h2, h3, _⟩ := (hfp b hm).1
    rcases List.mem_cons.mp (I.stkSub b hs) with z | z
    · exact h2 z
    · exact h3 z
  · rw [List.getElem?_map] at e2
    obtain ⟨_, _, z⟩ := Option.map_eq_some_iff.mp e2
    cases z
/-- a generator has come: the state behind it -/
structure Fresh (X : Cx) (pins : List (Addr × Obj)) (σ : L2.St) (H2 : Hp) (elt tg iter : Expr) (scope : Scope) (gpos : Pos) (J : It) (it : Addr) (fp : List Addr) (tn : Nat → Heap → Prop) (code : Value) (s4 s5 : Shared) (a : Addr) (g : Nat) : Prop where
  inv : Inv X pins σ H2 s4
  turn : Turn X.prog X.w X.K tg J fp it tn
  tn0 : tn 0 s5.heap
  fp : ∀ b ∈ fp, FpOk X pins H2 b ∧ b < s4.heap.objs.size
  os : s5.os = s4.os
  bare : AllBare s5.gens
  keep : ∀ b o, s4.heap.get? b = some o → s5.heap.get? b = some o
  ns : ∃ m, s5.heap.Ns s4.heap.objs.size m
  gen : s5.heap.IsGen a g
  new : s4.heap.objs.size < a
  st : s5.gens[g]? = some (.fresh (atStart elt tg iter scope gpos it (gEnv X scope code s4.heap.objs.size)))
theorem make_gen {c P : Addr} {elt tg iter : Expr} {gpos : Pos} {scope : Scope} {wi : TI} {k : Nat} {Q' : Value → Shared → Prop} {R : It → Hp → Prop} (hr : Room k X.A) (TB : GxR.TabB X.base X.mg c P) (hcode : X.env.code = .ref c) (S : Own scope)
    (hcl : cloFrom X.env.cells scope.names [] = []) (hi : PI X tg iter wi) (hs : ∀ v, genFold iter X.env v = pure v) (I : Inv X pins σ H s) (h : wi σ H fun J H1 => GxR.TabG H1 P ∧ R J H1)
    (hQ : ∀ J H1 H2 it fp tn code s4 s5 a g, R J H1 → GxR.Tabbed P H1 H2 → Fresh X pins σ H2 elt tg iter scope gpos J it fp tn code s4 s5 a g → Q' (.ref a) s5) :
    wpAny (model X.prog X.w) X.A (eval (.GeneratorExp elt [⟨tg, iter, [], 0⟩] scope gpos) X.env) Q' X.xe s := by
  refine wpAny_GeneratorExp_make S.co.symm (L2.closure_ok fun y hy e => absurd e (S.plain y hy).2) (fun y hy => (S.plain y hy).1) S.dot.symm S.kind (by have := hr.dp; omega) ?_ hs
  rw [hcl]
  refine thn (hi.run pins s σ H _ I h) fun xv s1 h1 => thn h1 fun itv s2 h2 => ?_
  obtain ⟨it, fp, tn, J, H1, rfl, I1, hT, t0, hfp, ⟨ps, hP, ht⟩, hR⟩ := h2
  refine ⟨I1.nolimit, ?_⟩
  have cd : PySem.W.CodeHd s2.heap c P := TB.code.keeps I1.bk
  have hPs : s2.heap.get? P = some { cls := .none, data := .fields ps } := I1.hok P _ hP
  have small : ∀ b ∈ fp, b < s2.heap.objs.size := fun b hb => by
    obtain ⟨o, ho, _⟩ := hT.obj 0 s2.heap t0 b hb
    exact Heap.lt_size ho
  have fin : ∀ (code : Value) (s4 : Shared) (H2 : Hp), GxR.Tabbed P H1 H2 → Inv X pins σ H2 s4 → s4.os = s2.os → s2.heap.objs.size ≤ s4.heap.objs.size → (∀ b o, b ≠ P → s2.heap.get? b = some o → s4.heap.get? b = some o) →
      wpAny (model X.prog X.w) X.A (builtinsFor X.env.globals X.env.builtins) (fun bi s₄ => ∀ h', h'.Ns s₄.heap.objs.size (fun y => if y = ".0" then some (.ref it) else none) → Heap.SameBut s₄.heap.objs.size (s₄.heap.push { cls := .type "frame", data := .dict #[] }) h' →
          Q' (.ref h'.objs.size) { s₄ with
            gens := s₄.gens.push (.fresh (.compStart (.GeneratorExp elt [⟨tg, iter, [], 0⟩] scope gpos) 0 (.ref it) .none (genEnv scope [] s₄.heap.objs.size code bi X.env))),
            toks := s₄.toks + 1 + 1 + 1,
            heap := h'.push { cls := .type "generator", data := .fields #[.int s₄.gens.size 0, .str "<genexpr>" (s₄.toks + 1), .str (X.env.qual ++ "<genexpr>") (s₄.toks + 1 + 1)] } }) X.xe s4 := fun code s4 H2 hTb I4 hos hsz kp => by
    obtain ⟨bm, ob, e1, e2, _, e4, e5, e6, e7, e8⟩ := TB.bm
    refine wpAny_builtinsFor (m := X.mg) (by rw [I4.ok.glob]; exact I4.mod.glob.keeps I4.bk) e1 e2 (I4.bk _ _ e5) e6 e7 e8 fun h' hn hsb => ?_
    have up : ∀ b o, s4.heap.get? b = some o → h'.get? b = some o := fun b o e => hsb.extBut b o (Nat.ne_of_lt (Heap.lt_size e)) (Heap.get?_push_of_some _ e)
    have lth : s4.heap.objs.size < h'.objs.size := by rw [hsb.1, Heap.size_push]; exact Nat.lt_succ_self _
    have nP : ∀ b ∈ fp, b ≠ P := fun b hb z => by
      have q := (hfp b hb).1
      rw [z, hP] at q; cases q
    refine hQ J H1 H2 it fp tn code s4 _ _ s4.gens.size hR hTb ⟨I4, hT, ?_, fun b hb => ⟨?_, Nat.lt_of_lt_of_le (small b hb) hsz⟩, rfl, I4.bare.push rfl, fun b o e => Heap.get?_push_of_some _ (up b o e), ⟨_, hn.push _⟩, ⟨_, _, _, Heap.get?_push_size _ rfl, rfl, rfl, rfl⟩, lth, Array.getElem?_push_size ..⟩
    · exact hT.keep 0 _ _ t0 fun b hb o e => Heap.get?_push_of_some _ (up b o (kp b o (nP b hb) e))
    · obtain ⟨f1, f2⟩ := hfp b hb
      exact ⟨by rw [hTb.2 b (nP b hb)]; exact f1, f2⟩
  cases hf : codeAmong gpos ps.toList with
  | none =>
    refine wpAny_genexprCodeX hcode (cd.code hPs ht) (cd.tab hPs) hf fun c' h' tk hx hge hlt hco' _ htab' _ => ?_
    obtain ⟨_, _, _, _, _, _, _, _, _, _, _, _, _, _, _, _, _, _, _, htr, _⟩ := hco'
    have I4 := GxR.inv_tab (more := #[rawInt gpos.line, rawInt gpos.col, .ref c']) (h' := h') (g' := s2.gens) (d' := s2.drawn) (t' := tk) I1 hP (fun b o hb e => hx b o hb e) htab'.2 I1.bare
    exact fin _ _ _ ⟨⟨_, upd_same, htr⟩, fun b hb => upd_ne hb⟩ I4 rfl (Nat.le_trans hge (Nat.le_of_lt hlt)) fun b o hb e => hx b o hb e
  | some cv =>
    refine wpAny_genexprCode_hit hcode (cd.code hPs ht) hf ?_
    exact fin cv s2 H1 ⟨⟨ps, hP, ht⟩, fun _ _ => rfl⟩ I1 rfl (Nat.le_refl _) fun _ _ _ e => e
end Gx
/-! one turn of a generator expression in its context -/
namespace Gx
open PySem PySem.Spec PyProof.Rows L2
section
variable {Y : Cx} {pins : List (Addr × Obj)} {σ : L2.St} {H : Hp} {s : Shared}
theorem objs_of {h : Heap} : ∀ fp : List Addr, (∀ b ∈ fp, ∃ o, h.get? b = some o ∧ ∀ v, o.data ≠ .cell v) → ∃ pf : List (Addr × Obj), (∀ b ∈ fp, ∃ o, (b, o) ∈ pf) ∧ ∀ p ∈ pf, p.1 ∈ fp ∧ h.get? p.1 = some p.2 ∧ ∀ v, p.2.data ≠ .cell v
  | [], _ => ⟨[], (fun b hb => nomatch hb), (fun p hp => nomatch hp)⟩
  | b :: fp, k => by
    obtain ⟨o, ho, hc⟩ := k b List.mem_cons_self
    obtain ⟨pf, h1, h2⟩ := objs_of fp fun b hb => k b (List.mem_cons_of_mem _ hb)
    refine ⟨(b, o) :: pf, fun c hc2 => ?_, fun p hp => ?_⟩
    · rcases List.mem_cons.mp hc2 with z | z
      · exact ⟨o, by rw [z]; exact List.mem_cons_self⟩
      · obtain ⟨o2, h3⟩ := h1 c z
        exact ⟨o2, List.mem_cons_of_mem _ h3⟩
    · rcases List.mem_cons.mp hp with z | z
      · rw [z]; exact ⟨List.mem_cons_self, ho, hc⟩
      · obtain ⟨h3, h4⟩ := h2 p z
        exact ⟨List.mem_cons_of_mem _ h3, h4⟩
theorem one_turn {J : It} {it : Addr} {fp : List Addr} {tn : Nat → Heap → Prop} {tg elt : Expr} {g : TG} {te : TE} {i n : Nat} {b : Bool} {M : L2.St → Hp → Prop} (T : Turn Y.prog Y.w Y.K tg J fp it tn) (hc : Y.calm = true) (hxe : Y.xe = Never) (hg : PG Y tg g) (he : PE Y elt te)
    (I : Inv Y pins σ H s) (hf : ∀ b ∈ fp, FpOk Y pins H b) (t : tn i s.heap) (hn : n ≤ s.gens.size) (go : J.go i H) (k : ∀ x H3, J.yld i H x H3 → g x σ H3 fun σ4 H4 => te σ4 H4 fun v H5 => v = .bl b ∧ M σ4 H5) :
    wpAny (model Y.prog Y.w) Y.A (pyNext (.ref it)) (fun o z => ∃ v, o = some v ∧
      wpAny (model Y.prog Y.w) Y.A (letOwnedTupleGo tg (.ref it) v) (fun _ z1 => wpAny (model Y.prog Y.w) Y.A (assign tg Y.env v) (fun _ z2 => wpAny (model Y.prog Y.w) Y.A (eval elt Y.env) (fun y z3 => y = .bool b ∧
        ∃ σ4 H5, Inv Y pins σ4 H5 z3 ∧ (∀ b ∈ fp, FpOk Y pins H5 b) ∧ tn (i + 1) z3.heap ∧ n ≤ z3.gens.size ∧ M σ4 H5) Never z2) Never z1) Never z) Never s := by
  refine GenW.wpAny_gsz hn (wpAny_mono (T.item Y rfl rfl rfl hc i pins s σ H (fun _ _ => False) I hf t go) (fun o z h hz => ?_) fun _ _ h => h.elim)
  obtain ⟨u, rfl, h⟩ := h
  refine ⟨u, rfl, GenW.wpAny_gsz hz (wpAny_mono h (fun _ z1 h1 hz1 => ?_) fun _ _ h => h.elim)⟩
  obtain ⟨x, H3, I1, rv, y, t1, free⟩ := h1
  obtain ⟨pf, p1, p2⟩ := objs_of fp (T.obj (i + 1) z1.heap t1)
  have I2 : Inv Y (pins ++ pf) σ H3 z1 := I1.pins_of fun p hp => by
    rcases List.mem_append.mp hp with z2 | z2
    · exact I1.pin p (List.mem_append_right _ z2)
    · obtain ⟨q1, q2, q3⟩ := p2 p z2
      obtain ⟨_, f2, f3, _⟩ := hf p.1 q1
      exact ⟨q2, free _ q1, f2, f3, q3⟩
  refine GenW.wpAny_gsz hz1 (wpAny_mono (hg.run _ z1 σ H3 x u _ I2 rv (k x H3 y)) (fun _ z2 h2 hz2 => ?_) fun e z h => by rw [hxe] at h; exact h.elim)
  obtain ⟨σ4, H4, I3, h3⟩ := h2
  refine GenW.wpAny_gsz hz2 (wpAny_mono (he.run _ z2 σ4 H4 _ I3 h3) (fun v z3 h4 hz3 => ?_) fun e z h => by rw [hxe] at h; exact h.elim)
  obtain ⟨v', H5, I4, rv4, ev, m⟩ := h4
  subst ev
  have at_ : ∀ b ∈ fp, ∃ o, z1.heap.get? b = some o ∧ z3.heap.get? b = some o ∧ H5 b = none := fun b hb => by
    obtain ⟨o, ho⟩ := p1 b hb
    obtain ⟨q1, q2, _⟩ := I4.pin (b, o) (List.mem_append_right _ (List.mem_append_right _ ho))
    exact ⟨o, (p2 _ ho).2.1, q1, q2⟩
  refine ⟨rv4, σ4, H5, I4.pins_of fun p hp => I4.pin p (List.mem_append_right _ (List.mem_append_left _ hp)), fun b hb => ?_, T.keep _ _ _ t1 fun b hb o e => ?_, hz3, m⟩
  · obtain ⟨_, _, _, q⟩ := at_ b hb
    exact ⟨q, (hf b hb).2⟩
  · obtain ⟨o2, q1, q2, _⟩ := at_ b hb
    rw [q1] at e; cases e
    exact q2
end
end Gx
/-! all(..), any(..) of a generator expression, as a rule -/
namespace Gx
open PySem PySem.Spec PyProof.Rows L2
theorem allBare_set {s : Shared} {g : Nat} {x : GenState} (h : AllBare s.gens) (hx : x.bare = true) : AllBare (s.setGen g x).gens := by
  intro y hy
  have hy' : y ∈ s.gens.setIfInBounds g x := hy
  obtain ⟨i, hi, rfl⟩ := Array.mem_iff_getElem.mp hy'
  have hi2 : i < s.gens.size := by simpa using hi
  rw [Array.getElem_setIfInBounds hi2]
  split
  · exact hx
  · exact h _ (Array.getElem_mem _)
section
variable {X : Cx} {pins : List (Addr × Obj)} {σ : L2.St} {H : Hp} {s : Shared}
theorem inv_gens {gs : Array GenState} (I : Inv X pins σ H s) (h : AllBare gs) : Inv X pins σ H { s with gens := gs } := ⟨I.ok, I.os, h, I.base, I.loc, I.cell, I.free, I.freeC, I.pin, I.hok, I.len⟩
/-- the reading: out of the truths of the elements; M i: what holds in the generator's frame when i are out -/
def tGen (out : List Bool → Bool) (P : Addr) (N : List PySem.Str) (wi : TI) (g : TG) (te : TE) : TE := fun σ H Q => wi σ H fun J H1 => GxR.TabG H1 P ∧ ∀ H2, GxR.Tabbed P H1 H2 →
  ∃ (L : List Bool) (M : Nat → L2.St → Hp → Prop), M 0 (N.map fun _ => none) H2 ∧
    (∀ i b σ' H', L[i]? = some b → M i σ' H' → J.go i H' ∧ ∀ x H3, J.yld i H' x H3 → g x σ' H3 fun σ4 H4 => te σ4 H4 fun v H5 => v = .bl b ∧ M (i + 1) σ4 H5) ∧
    (∀ σ' H', M L.length σ' H' → J.stop L.length H') ∧ ∀ i σ' H', M i σ' H' → Q (.bl (out L)) H'
abbrev gA (X : Cx) (elt tg iter : Expr) (scope : Scope) (gpos : Pos) (it : Addr) (code : Value) (C : Addr) : Around := X.A.in1.in1.over (atLoop elt tg iter scope gpos it (gEnv X scope code C)) []
theorem gA_room {elt tg iter : Expr} {scope : Scope} {gpos : Pos} {it : Addr} {code : Value} {C : Addr} {k : Nat} (r : Room (k + 1) X.A) : Room k (gA X elt tg iter scope gpos it code C) :=
  ⟨r.hd, by have := r.dp; show X.A.depth + 0 + 1 + 3 * k + 5 < _; omega, by have := r.un; show X.A.units + 1 + 1 + 0 + 3 + 16 * k + 200 < _; omega⟩
theorem gA_frames {elt tg iter : Expr} {scope : Scope} {gpos : Pos} {it : Addr} {code : Value} {C : Addr} (I : Inv X pins σ H s) : (gA X elt tg iter scope gpos it code C).frames = some (gEnv X scope code C :: X.stack) := by
  show pushEnvs [gEnv X scope code C] (pushEnvs [] X.A.frames) = _
  rw [I.ok.frames]
  rfl
/-- the state of the generator's frame, bs still to come -/
def GSt (Y : Cx) (pn : List (Addr × Obj)) (g : Nat) (fp : List Addr) (tn : Nat → Heap → Prop) (L : List Bool) (M : Nat → L2.St → Hp → Prop) (bs : List Bool) (z : Shared) : Prop :=
  ∃ i σ' H', bs = L.drop i ∧ i ≤ L.length ∧ Inv Y pn σ' H' z ∧ (∀ b ∈ fp, FpOk Y pn H' b) ∧ tn i z.heap ∧ g + 1 ≤ z.gens.size ∧ M i σ' H'
def GEnd (Y : Cx) (pn : List (Addr × Obj)) (L : List Bool) (M : Nat → L2.St → Hp → Prop) (z : Shared) : Prop := ∃ σ' H', Inv Y pn σ' H' z ∧ M L.length σ' H'
theorem gen_turning {elt tg : Expr} {it : Addr} {fp : List Addr} {tn : Nat → Heap → Prop} {J : It} {g : TG} {te : TE} {gn : Nat} {L : List Bool} {M : Nat → L2.St → Hp → Prop} {Y : Cx} {pn : List (Addr × Obj)} (T : Turn Y.prog Y.w Y.K tg J fp it tn) (hc : Y.calm = true) (hxe : Y.xe = Never) (hg : PG Y tg g) (he : PE Y elt te)
    (hM : ∀ i b σ' H', L[i]? = some b → M i σ' H' → J.go i H' ∧ ∀ x H3, J.yld i H' x H3 → g x σ' H3 fun σ4 H4 => te σ4 H4 fun v H5 => v = .bl b ∧ M (i + 1) σ4 H5) (hS : ∀ σ' H', M L.length σ' H' → J.stop L.length H') :
    Turning Y.prog Y.w Y.A elt tg Y.env it (GSt Y pn gn fp tn L M) (GEnd Y pn L M) where
  turn := fun b bs s h => by
    obtain ⟨i, σ', H', e, hi, I, hf, t, hn, m⟩ := h
    have hlt : i < L.length := by
      rcases Nat.lt_or_ge i L.length with z | z
      · exact z
      · rw [List.drop_eq_nil_of_le z] at e; cases e
    rw [List.drop_eq_getElem_cons hlt] at e
    cases e
    obtain ⟨go, k⟩ := hM i _ σ' H' (List.getElem?_eq_getElem hlt) m
    refine wpAny_mono (one_turn T hc hxe hg he I hf t hn go k) (fun o z ⟨v, e1, h1⟩ => ⟨v, e1, wpAny_mono h1 (fun _ z1 h2 => wpAny_mono h2 (fun _ z2 h3 => wpAny_mono h3 (fun y z3 ⟨e4, σ4, H5, q1, q2, q3, q4, q5⟩ => ⟨e4, i + 1, σ4, H5, rfl, hlt, q1, q2, q3, q4, q5⟩) fun _ _ z => z) fun _ _ z => z) fun _ _ z => z⟩) fun _ _ z => z
  self := fun bs s h => by
    obtain ⟨i, σ', H', e, hi, I, hf, t, hn, m⟩ := h
    exact T.self _ i s _ _ t ⟨rfl, i, σ', H', e, hi, I, hf, t, hn, m⟩
  stop := fun s h => by
    obtain ⟨i, σ', H', e, hi, I, hf, t, hn, m⟩ := h
    have hi' : i = L.length := by
      have := congrArg List.length e
      rw [List.length_drop] at this
      have e0 : ([] : List Bool).length = 0 := rfl
      omega
    subst hi'
    exact wpAny_mono (T.done Y rfl rfl rfl hc _ pn s σ' H' Never I hf t (hS σ' H' m)) (fun o z ⟨e1, I1⟩ => ⟨e1, σ', H', I1, m⟩) fun _ _ z => z
theorem gst_keeps {Y : Cx} {pn : List (Addr × Obj)} {a : Addr} {go : Obj} {gn : Nat} {fp : List Addr} {tn : Nat → Heap → Prop} {L : List Bool} {M : Nat → L2.St → Hp → Prop} (hgo : ∀ h : Heap, h.get? a = some go → h.IsGen a gn) : Keeps a gn (GSt Y ((a, go) :: pn) gn fp tn L M) where
  gen := fun bs s h => by
    obtain ⟨i, σ', H', e, hi, I, hf, t, hn, m⟩ := h
    exact ⟨hgo _ (I.pin (a, go) (List.mem_append_right _ List.mem_cons_self)).1, I.nolimit, hn⟩
  stay := fun bs s x h hx => by
    obtain ⟨i, σ', H', e, hi, I, hf, t, hn, m⟩ := h
    exact ⟨i, σ', H', e, hi, inv_gens I (allBare_set I.bare hx), hf, t, by show gn + 1 ≤ (s.gens.setIfInBounds gn x).size; simpa using hn, m⟩
/-- all(e for t in i) | any(..): b the builtin by its own rule -/
theorem gen_asked {c P : Addr} {elt tg iter : Expr} {gpos : Pos} {scope : Scope} {N : List PySem.Str} {wi : TI} {g : TG} {te : TE} {k : Nat} {out : List Bool → Bool} {Q : VK} {Q' : Value → Shared → Prop} (hr : Room (k + 1) X.A) (TB : GxR.TabB X.base X.mg c P) (hcode : X.env.code = .ref c) (S : Own scope)
    (hcl : cloFrom X.env.cells scope.names [] = []) (hi : PI X tg iter wi) (hs : ∀ v, genFold iter X.env v = pure v)
    (hg : ∀ (Y : Cx), Y.env.scope = scope → Y.N = N → Y.xe = Never → Y.calm = true → Room k Y.A → Y.K = X.K → Y.mg = X.mg → Y.base = X.base → Y.prog = X.prog → Y.w = X.w → PG Y tg g ∧ PE Y elt te)
    (I : Inv X pins σ H s) (h : tGen out P N wi g te σ H Q)
    (hask : ∀ (a : Addr) (z : Shared) (R : Value → Shared → Prop), wpAny (model X.prog X.w) X.A.in1 (pyIter (.ref a)) (Asked X.prog X.w X.A.in1 out R) X.xe z → (∀ u y, R u y → EP X pins σ Q u y) → Q' (.ref a) z) :
    wpAny (model X.prog X.w) X.A (eval (.GeneratorExp elt [⟨tg, iter, [], 0⟩] scope gpos) X.env) Q' X.xe s := by
  refine make_gen hr TB hcode S hcl hi hs I h fun J H1 H2 it fp tn code s4 s5 a gn hR hTb F => ?_
  obtain ⟨L, M, m0, hM, hS, hQ⟩ := hR H2 hTb
  obtain ⟨mns, hns⟩ := F.ns
  have hfr := gA_frames (elt := elt) (tg := tg) (iter := iter) (scope := scope) (gpos := gpos) (it := it) (code := code) (C := s4.heap.objs.size) I
  have I0 : Inv (gx X N scope code (gA X elt tg iter scope gpos it code s4.heap.objs.size) s4 H2 fp) [] (N.map fun _ => none) H2 s5 := gx_inv S F.inv F.fp hfr hr.hd F.os F.bare F.keep hns
  obtain ⟨go, nm, qn, hgo, r1, r2⟩ := F.gen
  have ha2 : H2 a = none := F.inv.hok.fresh (Nat.le_of_lt F.new)
  have hstk : ∀ b, s4.heap.objs.size ≤ b → b ∉ frs X.stack := fun b hb z => by
    rcases List.mem_cons.mp (F.inv.stkSub b z) with z | z
    · rw [z] at hb
      exact absurd (Nat.lt_of_lt_of_le F.inv.lt hb) (Nat.lt_irrefl _)
    · exact F.inv.nofs hb z
  have I1 : Inv (gx X N scope code (gA X elt tg iter scope gpos it code s4.heap.objs.size) s4 H2 fp) [(a, go)] (N.map fun _ => none) H2 s5 := I0.pins_of fun p hp => by
    rw [List.mem_singleton.mp hp]
    exact ⟨hgo, ha2, Nat.ne_of_gt F.new, hstk a (Nat.le_of_lt F.new), fun v z => by rw [r2.1] at z; cases z⟩
  have hf1 : ∀ b ∈ fp, FpOk (gx X N scope code (gA X elt tg iter scope gpos it code s4.heap.objs.size) s4 H2 fp) [(a, go)] H2 b := fun b hb => by
    obtain ⟨⟨f1, f2, f3, _⟩, f5⟩ := F.fp b hb
    refine ⟨f1, Nat.ne_of_lt f5, fun z => ?_, .inl hb, (fun x c e => nomatch e), fun p hp => ?_⟩
    · rcases List.mem_cons.mp (F.inv.stkSub b z) with z | z
      · exact f2 z
      · exact f3 z
    · rw [List.mem_singleton.mp hp]
      exact Nat.ne_of_gt (Nat.lt_trans f5 F.new)
  obtain ⟨hpg, hpe⟩ := hg (gx X N scope code (gA X elt tg iter scope gpos it code s4.heap.objs.size) s4 H2 fp) rfl rfl rfl rfl (gA_room hr) rfl rfl rfl rfl rfl
  have Tn := gen_turning (gn := gn) (pn := [(a, go)]) (Y := gx X N scope code (gA X elt tg iter scope gpos it code s4.heap.objs.size) s4 H2 fp) F.turn rfl rfl hpg hpe hM hS
  have isg : ∀ h : Heap, h.get? a = some go → h.IsGen a gn := fun h e => ⟨go, nm, qn, e, r1, r2⟩
  have hsz : gn + 1 ≤ s5.gens.size := (Array.getElem?_eq_some_iff.mp F.st).1
  have g0 : GSt (gx X N scope code (gA X elt tg iter scope gpos it code s4.heap.objs.size) s4 H2 fp) [(a, go)] gn fp tn L M L s5 := ⟨0, _, H2, rfl, Nat.zero_le _, I1, hf1, F.tn0, hsz, m0⟩
  have back : ∀ i σ' H' z, Inv (gx X N scope code (gA X elt tg iter scope gpos it code s4.heap.objs.size) s4 H2 fp) [(a, go)] σ' H' z → M i σ' H' → Inv X pins σ H' z ∧ Q (.bl (out L)) H' := fun i σ' H' z Iz m =>
    ⟨F.inv.call' (ch := fp) Iz.os Iz.base Iz.hok Iz.bare fun b hb => by
      obtain ⟨⟨_, f2, _, f4, f5, f6⟩, _⟩ := F.fp b hb
      exact ⟨f4, f2, f5, f6⟩, hQ i σ' H' m⟩
  refine hask a s5 (fun u y => u = .bool (out L) ∧ ∃ H', Inv X pins σ H' y ∧ Q (.bl (out L)) H') ?_ fun u y ⟨e, H', Iy, q⟩ => ⟨.bl (out L), H', Iy, e, q⟩
  refine wpAny_pyIter_gen F.gen ⟨a, _, _, L, rfl, turns_gen (L := L) (S := GSt (gx X N scope code (gA X elt tg iter scope gpos it code s4.heap.objs.size) s4 H2 fp) [(a, go)] gn fp tn L M) (SD := GEnd (gx X N scope code (gA X elt tg iter scope gpos it code s4.heap.objs.size) s4 H2 fp) [(a, go)] L M) hr.hd hr.depth (gst_keeps isg),
    ⟨List.suffix_refl L, g0, _, F.st, fun z hz => ⟨rfl, seg_begin S.co.symm Tn L z z hz⟩⟩, fun y hy => ?_⟩
  rcases hy with ⟨y0, h', ⟨σ', H', Iz, m⟩, ext, rfl⟩ | ⟨bs, _, ⟨i, σ', H', _, _, Iz, _, _, _, m⟩, _⟩
  · obtain ⟨Ix, q⟩ := back _ σ' H' y0 Iz m
    exact ⟨rfl, H', (inv_gens Ix (allBare_set Ix.bare rfl)).kept ext, q⟩
  · obtain ⟨Ix, q⟩ := back _ σ' H' y Iz m
    exact ⟨rfl, H', Ix, q⟩
theorem pe_allG {c P : Addr} {elt tg iter : Expr} {p pos gpos : Pos} {scope : Scope} {N : List PySem.Str} {wi : TI} {g : TG} {te : TE} {k : Nat} (hr : Room (k + 1) X.A) (hgl : Gl X "all") (hm : X.mg "all" = none) (hbt : bootBuiltins "all" = some (.builtin "all")) (TB : GxR.TabB X.base X.mg c P) (hcode : X.env.code = .ref c) (S : Own scope)
    (hcl : cloFrom X.env.cells scope.names [] = []) (hi : PI X tg iter wi) (hs : ∀ v, genFold iter X.env v = pure v)
    (hg : ∀ (Y : Cx), Y.env.scope = scope → Y.N = N → Y.xe = Never → Y.calm = true → Room k Y.A → Y.K = X.K → Y.mg = X.mg → Y.base = X.base → Y.prog = X.prog → Y.w = X.w → PG Y tg g ∧ PE Y elt te)
    (he : starEach [.GeneratorExp elt [⟨tg, iter, [], 0⟩] scope gpos] X.env = (false, eval (.GeneratorExp elt [⟨tg, iter, [], 0⟩] scope gpos) X.env) :: starEach [] X.env := by rfl) :
    PE X (.Call (.Name "all" p) [.GeneratorExp elt [⟨tg, iter, [], 0⟩] scope gpos] [] pos) (tGen (·.all id) P N wi g te) :=
  ⟨fun pins s σ H Q I h => wpAny_Call_Name_kw (ld_blt I hgl hm hbt (PyProof.Rows.callWith_builtin1 (by
    rw [he]
    exact Calls.spliced_cons (gen_asked (out := (·.all id)) hr TB hcode S hcl hi hs hg I h fun a z R ha hR => Calls.spliced_nil (ask_all (wpAny_mono ha (fun it y ⟨I2, J, JD, bs, e, W, j, q⟩ => ⟨I2, J, JD, bs, e, W, j, fun y2 h2 => hR _ _ (q y2 h2)⟩) fun _ _ x => x)))) he (by rfl)))⟩
theorem pe_anyG {c P : Addr} {elt tg iter : Expr} {p pos gpos : Pos} {scope : Scope} {N : List PySem.Str} {wi : TI} {g : TG} {te : TE} {k : Nat} (hr : Room (k + 1) X.A) (hgl : Gl X "any") (hm : X.mg "any" = none) (hbt : bootBuiltins "any" = some (.builtin "any")) (TB : GxR.TabB X.base X.mg c P) (hcode : X.env.code = .ref c) (S : Own scope)
    (hcl : cloFrom X.env.cells scope.names [] = []) (hi : PI X tg iter wi) (hs : ∀ v, genFold iter X.env v = pure v)
    (hg : ∀ (Y : Cx), Y.env.scope = scope → Y.N = N → Y.xe = Never → Y.calm = true → Room k Y.A → Y.K = X.K → Y.mg = X.mg → Y.base = X.base → Y.prog = X.prog → Y.w = X.w → PG Y tg g ∧ PE Y elt te)
    (he : starEach [.GeneratorExp elt [⟨tg, iter, [], 0⟩] scope gpos] X.env = (false, eval (.GeneratorExp elt [⟨tg, iter, [], 0⟩] scope gpos) X.env) :: starEach [] X.env := by rfl) :
    PE X (.Call (.Name "any" p) [.GeneratorExp elt [⟨tg, iter, [], 0⟩] scope gpos] [] pos) (tGen (·.any id) P N wi g te) :=
  ⟨fun pins s σ H Q I h => wpAny_Call_Name_kw (ld_blt I hgl hm hbt (PyProof.Rows.callWith_builtin1 (by
    rw [he]
    exact Calls.spliced_cons (gen_asked (out := (·.any id)) hr TB hcode S hcl hi hs hg I h fun a z R ha hR => Calls.spliced_nil (ask_any (wpAny_mono ha (fun it y ⟨I2, J, JD, bs, e, W, j, q⟩ => ⟨I2, J, JD, bs, e, W, j, fun y2 h2 => hR _ _ (q y2 h2)⟩) fun _ _ x => x)))) he (by rfl)))⟩
end
end Gx
/-! the layer: all, any over a generator expression -/
namespace Fw
open PySem L2
section
variable {K : FK} {B : Base} {G H : Hp} {σ : St} {δ : AE}
/-- a table has grown -/
theorem sam_tabbed {H1 H2 : Hp} {P : Addr} (h : GxR.TabG H1 P) (t : GxR.Tabbed P H1 H2) : Sam H1 H2 := by
  obtain ⟨q, e, _⟩ := h
  refine ⟨fun a o n ea => ?_, fun a ha => ?_, fun a ha => ?_⟩
  · have ne : a ≠ P := fun z => by rw [z, e] at ea; exact n q (Option.some.inj ea).symm
    rw [t.2 a ne]; exact ea
  · by_cases z : a = P
    · rw [z]; exact t.1
    · obtain ⟨q2, e2, h2⟩ := ha
      exact ⟨q2, by rw [t.2 a z]; exact e2, h2⟩
  · by_cases z : a = P
    · obtain ⟨q2, e2, _⟩ := t.1
      rw [z, e2]; exact fun w => nomatch w
    · rw [t.2 a z]; exact ha
theorem step_tabbed {H2 : Hp} {P : Addr} (R : RepS K B G H σ δ) (hP : P ∈ K.T) (t : GxR.Tabbed P H H2) : Step G H G H2 :=
  ⟨Same.refl G, sam_tabbed (R.tb P hP).1 t, fun a o e => by
    have ne : a ≠ P := fun z => by rw [z, (R.tb P hP).2] at e; cases e
    rw [t.2 a ne]; exact R.gh _ _ e, fun _ _ g => g⟩
def nos (n : Nat) : AE := List.replicate n .no
theorem nos_get {n i : Nat} {s : Sl} (h : (nos n)[i]? = some s) : s = .no := List.eq_of_mem_replicate (List.mem_of_getElem? h)
theorem no_holds {n i : Nat} {p : Addr} : ¬ Holds σ (nos n) i p := fun h => by
  rcases h with ⟨_, o, z | z⟩ | ⟨w, c, z⟩ <;> (have := nos_get z; cases this)
/-- all slots are forgotten -/
theorem nos_sl {n i : Nat} {s : Sl} (hl : n ≤ σ.length) (e : (Fw.nos n)[i]? = some s) : SlOk K B G H i σ[i]? s := by
  have l := (List.getElem?_eq_some_iff.mp e).1
  have l' : i < n := by unfold Fw.nos at l; rw [List.length_replicate] at l; exact l
  rw [nos_get e]
  show σ[i]? ≠ none
  rw [List.getElem?_eq_getElem (by omega)]
  exact fun z => nomatch z
theorem nos_len (n : Nat) : (Fw.nos n).length = n := List.length_replicate
theorem RepS.nos {n : Nat} (R : RepS K B G H σ δ) (hl : σ.length = n) : RepS K B G H σ (Fw.nos n) :=
  ⟨by rw [nos_len]; omega, R.gh, R.h0, R.h1, R.g0, R.nw, fun i s e => nos_sl (by omega) e, fun i j p h _ => absurd h no_holds, R.tb, R.tb0⟩
theorem RepS.nos_at {n : Nat} (R : RepS K B G H σ (Fw.nos n)) : σ.length = n := by
  have h1 := R.ln
  rw [nos_len] at h1
  cases n with
  | zero => omega
  | succ n =>
    have h := R.sl n .no (by unfold Fw.nos; rw [List.getElem?_replicate, if_pos (Nat.lt_succ_self n)])
    have h' : σ[n]? ≠ none := h
    by_cases hl : n < σ.length
    · omega
    · exact absurd (List.getElem?_eq_none (by omega)) h'
/-- a frame of which nothing is told yet -/
theorem RepS.blank {n : Nat} (gh : Same G H) (tb : Tb K G H) (hl : σ.length = n) : RepS K ⟨G, H, []⟩ G H σ (Fw.nos n) :=
  ⟨by rw [nos_len]; omega, gh, fun a o _ _ h => h, fun _ h => h, Same.refl G, fun _ _ g => g, fun i s e => nos_sl (by omega) e, fun i j p h _ => absurd h no_holds, tb, fun _ h => h⟩
theorem RepS.stepOf {G' H' : Hp} (R : RepS K ⟨G, H, []⟩ G' H' σ δ) : Step G H G' H' := ⟨R.g0, ⟨fun a o n e => R.h0 a o (fun i z => nomatch z) n e, R.tb0, R.h1⟩, R.gh, R.nw⟩
theorem ev_gen {out : List Bool → Bool} {P : Addr} {N : List Str} {wi : TI} {g : TG} {te : TE} {n : Nat} {f : Nat → PD} {L : List Bool} (hP : P ∈ K.T) (hL : L.length = n) (h : Evi K wi δ n f)
    (hs : ∀ i b, L[i]? = some b → ∃ δ'' ks, Evg K g (f i) (nos N.length) δ'' ks ∧ Evd K te δ'' (.bl b) ∧ δ''.length = N.length) : Evd K (Gx.tGen out P N wi g te) δ (.bl (out L)) := fun B G H σ R Q q =>
  h B G H σ R _ fun J G1 H1 Gd Y R1 s w hG hY => ⟨(R1.tb P hP).1, fun H2 hT => by
    have st := step_tabbed R1 hP hT
    have tb2 : Tb K G1 H2 := R1.tb.step st.eh st.nw
    refine ⟨L, fun i σ' H' => ∃ G', RepS K ⟨G1, H2, []⟩ G' H' σ' (nos N.length), ⟨G1, RepS.blank st.gh tb2 (List.length_map ..)⟩, ?_, ?_, ?_⟩
    · rintro i b σ' H' hb ⟨G', R'⟩
      have hi : i < n := by rw [← hL]; exact (List.getElem?_eq_some_iff.mp hb).1
      have gd : Gd H' := hG G' H' R'.g0 R'.gh
      refine ⟨w.goes i H' hi gd, fun x H3 y => ?_⟩
      obtain ⟨G3, s3, r3⟩ := hY i x H' H3 G' hi R'.g0 R'.gh (w.yields i H' x H3 hi gd y)
      obtain ⟨δ'', ks, hg, he, hl⟩ := hs i b hb
      refine hg _ G3 H3 σ' x (R'.st s3) r3 _ fun σ3 R3 l3 _ => ?_
      refine he _ G3 H3 σ3 R3 _ fun v G4 H4 R4 s4 r4 => ⟨r4.flat (d := .bl b) rfl, G4, ?_⟩
      exact R4.nos (l3.trans R'.nos_at)
    · rintro σ' H' ⟨G', R'⟩
      rw [hL]
      exact w.stops H' (hG G' H' R'.g0 R'.gh)
    · rintro i σ' H' ⟨G', R'⟩
      have st2 := st.trans R'.stepOf
      exact q _ G' H' (R1.st st2) (s.trans st2) (.bl _)⟩
end
end Fw
/-! the layer: zip of tuples, the signs of a text, chained comparisons -/
namespace Fw
open PySem L2 RZ
section
variable {K : FK} {δ : AE} {ta tb tc te : TE} {a b c : PD}
theorem walk_zipT {F : PySem.W.Frag} {p q : Addr} {xs ys : List V} {n : Nat} (hn : n = min xs.length ys.length) : Walk (ItzT F p q) n (fun H => SqT F H p xs ∧ SqT F H q ys) (YPair (fun i => xs[i]?) (fun i => ys[i]?)) where
  goes := fun i H hi ⟨h1, h2⟩ => by
    have l1 : i < xs.length := Nat.lt_of_lt_of_le (hn ▸ hi) (Nat.min_le_left _ _)
    have l2 : i < ys.length := Nat.lt_of_lt_of_le (hn ▸ hi) (Nat.min_le_right _ _)
    exact ⟨xs, ys, _, _, h1, h2, List.getElem?_eq_getElem l1, List.getElem?_eq_getElem l2⟩
  stops := fun H ⟨h1, h2⟩ => ⟨xs, ys, h1, h2, by omega⟩
  yields := fun i H x H' hi ⟨h1, h2⟩ ⟨T, u, v, e1, e2, e3, e4, e5⟩ => ⟨T, u, v, e1, e2, e3, e4 xs h1, e5 ys h2⟩
theorem ei_zipT {ds es : List PD} (h : Evd K ta δ (.tup ds)) (h' : Evd K tb δ (.tup es)) : Evi K (iZipA K (tCons ta (tCons tb tNil))) δ (min ds.length es.length) (fun i => .tup [ds.getD i .non, es.getD i .non]) := fun B G H σ R Q q => h B G H σ R _ fun v G1 H1 R1 s r => h' B G1 H1 σ R1 _ fun v2 G2 H2 R2 s2 r2 => by
  cases r with
  | @tup p vs _ h1 h2 =>
  cases r2 with
  | @tup p2 vs2 _ h3 h4 =>
  refine ⟨p, p2, vs, vs2, rfl, Or.inr ⟨sam_sqT s2.eh (same_sqT R1.gh h1), same_sqT R2.gh h3, ?_⟩⟩
  refine q _ G2 H2 _ _ R2 (s.trans s2) (walk_zipT (xs := vs) (ys := vs2) (by rw [h2.length, h4.length])) (fun G3 H3 e1 e2 => ⟨same_sqT e2 (same_sqT e1 (same_sqT s2.eg h1)), same_sqT e2 (same_sqT e1 h3)⟩) fun i x H3 H4 G3 hi e1 e2 y => ?_
  obtain ⟨T, x1, y1, ex, hT, eH, k1, k2⟩ := y
  subst ex
  subst eH
  obtain ⟨d1, e3, r3⟩ := h2.getV k1
  obtain ⟨d2, e4, r4⟩ := h4.getV k2
  refine ⟨_, step_tup e2 hT, .tup (Or.inl (Or.inl upd_same)) (.cons ?_ (.cons ?_ .nil))⟩
  · rw [List.getD_eq_getElem?_getD, e3]
    exact ((r3.mono s2.eg).mono e1).mono (same_new (fresh_back e2 hT))
  · rw [List.getD_eq_getElem?_getD, e4]
    exact (r4.mono e1).mono (same_new (fresh_back e2 hT))
/-- the signs of a text -/
theorem ei_str {z : Str} (h : Evd K te δ (.str z)) : Evi K (iStr te) δ z.cps.size (fun i => .str ⟨#[z.cps.getD i 0]⟩) := fun B G H σ R Q q => h B G H σ R _ fun v G1 H1 R1 s r => by
  rw [r.flat rfl]
  refine ⟨z, rfl, q _ G1 H1 _ _ R1 s (walk_str (z := z)) (fun _ _ _ _ => True.intro) fun i x H2 H3 G2 hi e1 e2 y => ?_⟩
  obtain ⟨e, cc, e3, ex⟩ := y
  subst e
  subst ex
  have e4 : z.cps.getD i 0 = cc := by rw [Array.getD_eq_getD_getElem?, e3]; rfl
  refine ⟨G2, Step.refl e2, ?_⟩
  show Rep K G2 _ (.str ⟨#[z.cps.getD i 0]⟩)
  rw [e4]
  exact .str _
theorem ev_chain {r r' : R2} {x y : Bool} (fa : flat a = true) (fb : flat b = true) (fc : flat c = true) (ha : Evd K ta δ a) (hb : Evd K tb δ b) (hc : Evd K tc δ c) (h1 : ∀ (H : Hp) (Q : VK), Q (.bl x) H → r (vOf a) (vOf b) H Q) (h2 : ∀ (H : Hp) (Q : VK), Q (.bl y) H → r' (vOf b) (vOf c) H Q) :
    Evd K (tChain r r' ta tb tc) δ (.bl (x && y)) := fun B G H σ R Q q => ha B G H σ R _ fun v G1 H1 R1 s1 r1 => hb B G1 H1 σ R1 _ fun u G2 H2 R2 s2 r2 => (r1.flat fa ▸ r2.flat fb ▸ h1 H2 _ ⟨x, rfl, by
    cases x with
    | false => exact q _ G2 H2 R2 (s1.trans s2) (.bl false)
    | true => exact hc B G2 H2 σ R2 _ fun w G3 H3 R3 s3 r3 => (r3.flat fc ▸ h2 H3 _ (q _ G3 H3 R3 ((s1.trans s2).trans s3) (.bl y)))⟩)
theorem ev_leLt {i j k : Int} (ha : Evd K ta δ (.int i)) (hb : Evd K tb δ (.int j)) (hc : Evd K tc δ (.int k)) : Evd K (tChain (rI0 fun i j => .bl (decide (i ≤ j))) (rI0 fun i j => .bl (decide (i < j))) ta tb tc) δ (.bl (decide (i ≤ j) && decide (j < k))) :=
  ev_chain rfl rfl rfl ha hb hc (fun H Q q => ⟨i, j, rfl, rfl, q⟩) (fun H Q q => ⟨j, k, rfl, rfl, q⟩)
theorem ev_leLe {i j k : Int} (ha : Evd K ta δ (.int i)) (hb : Evd K tb δ (.int j)) (hc : Evd K tc δ (.int k)) : Evd K (tChain (rI0 fun i j => .bl (decide (i ≤ j))) (rI0 fun i j => .bl (decide (i ≤ j))) ta tb tc) δ (.bl (decide (i ≤ j) && decide (j ≤ k))) :=
  ev_chain rfl rfl rfl ha hb hc (fun H Q q => ⟨i, j, rfl, rfl, q⟩) (fun H Q q => ⟨j, k, rfl, rfl, q⟩)
abbrev rLeStr : R2 := fun x y H Q => ∃ i j, x = .str i ∧ y = .str j ∧ Q (.bl (!decide (j.cps.toList < i.cps.toList))) H
theorem ev_leLeS {i j k : Str} (ha : Evd K ta δ (.str i)) (hb : Evd K tb δ (.str j)) (hc : Evd K tc δ (.str k)) : Evd K (tChain rLeStr rLeStr ta tb tc) δ (.bl (!decide (j.cps.toList < i.cps.toList) && !decide (k.cps.toList < j.cps.toList))) :=
  ev_chain rfl rfl rfl ha hb hc (fun H Q q => ⟨i, j, rfl, rfl, q⟩) (fun H Q q => ⟨j, k, rfl, rfl, q⟩)
end
end Fw
/-! the layer: loops by what holds at each turn; a tuple with own parts in a slot -/
namespace Fw
open PySem L2
section
variable {K : FK} {δ : AE} {ta tb te tx : TE} {t u tt : TT} {tu tw tz : TS} {a b c d : PD} {P : Post}
theorem s_forI {wi : TI} {g : TG} {n : Nat} {f : Nat → PD} (js : List Nat) (Inv : Nat → AE → Prop) (h : Evi K wi δ n f) (h0 : Inv 0 (fgt δ js))
    (hs : ∀ i d, i < n → Inv i d → ∃ δ'' ks, Evg K g (f i) d δ'' ks ∧ Sx K tu δ'' { nx := fun d => Inv (i + 1) (fgt d js), rt := P.rt, bk := P.nx, ct := fun d => Inv (i + 1) (fgt d js) }) (k : ∀ d, Inv n d → P.nx d) : Sx K (tFor wi g tu) δ P := fun B G H σ D R hn hr hb hc =>
  h B G H σ R _ fun J G1 H1 Gd Y R1 s w hG hY => by
    refine for_it w (fun i σ' H' => ∃ d G', Inv i d ∧ RepS K B G' H' σ' d ∧ Same G1 G') ⟨_, G1, h0, RepS.fgt js R1, Same.refl G1⟩ (fun i σ' H' hi ⟨d, G', _, R', e⟩ => hG G' H' e R'.gh) ?_ ?_
    · rintro i x σ' H2 H3 hi ⟨d, G2, iv, R2, e⟩ y
      obtain ⟨G3, s3, r3⟩ := hY i x H2 H3 G2 hi e R2.gh y
      obtain ⟨δ'', ks, hg, hbody⟩ := hs i d hi iv
      refine hg B G3 H3 σ' x (R2.st s3) r3 _ fun σ3 R3 _ _ => ?_
      have e3 : Same G1 G3 := e.trans s3.eg
      refine hbody B G3 H3 σ3 _ R3 (fun σ4 G4 H4 δ4 p R4 e4 => ⟨_, G4, p, RepS.fgt js R4, e3.trans e4⟩) (fun v σ4 G4 H4 δ4 r p R4 e4 k => hr v σ4 G4 H4 δ4 r p R4 ((s.eg.trans e3).trans e4) k) (fun σ4 G4 H4 δ4 p R4 e4 => hn σ4 G4 H4 δ4 p R4 ((s.eg.trans e3).trans e4)) (fun σ4 G4 H4 δ4 p R4 e4 => ⟨_, G4, p, RepS.fgt js R4, e3.trans e4⟩)
    · rintro σ' H' ⟨d, G', iv, R', e⟩
      exact hn σ' G' H' d (k d iv) R' (s.eg.trans e)
theorem q_forI {wi : TI} {g : TG} {n : Nat} {f : Nat → PD} (js : List Nat) (Inv : Nat → AE → Prop) (h : Evi K wi δ n f) (h0 : Inv 0 (fgt δ js))
    (hs : ∀ i d, i < n → Inv i d → ∃ δ'' ks, Evg K g (f i) d δ'' ks ∧ Sx K tu δ'' { nx := fun d => Inv (i + 1) (fgt d js), rt := P.rt, bk := fun _ => False, ct := fun d => Inv (i + 1) (fgt d js) }) (k : ∀ d, Inv n d → Sx K tz d P) : Sx K (tSeq (tFor wi g tu) tz) δ P :=
  sx_seq (M := fun d => Inv n d) (s_forI (P := { P with nx := fun d => Inv n d }) js Inv h h0 (fun i d hi iv => by
    obtain ⟨δ'', ks, hg, hb⟩ := hs i d hi iv
    exact ⟨δ'', ks, hg, fun B G H σ D R hn hr hb' hc => hb B G H σ D R hn hr (fun _ _ _ _ z => z.elim) hc⟩) (fun _ h => h)) k
/-! ### values made of tuples alone -/
mutual
def tupO : PD → Bool
  | .non => true | .bl _ => true | .int _ => true | .str _ => true
  | .tup xs => tupOs xs | .btup xs => tupOs xs | .lst _ => false | .dic _ => false | .scr _ => false | .adr _ => true
def tupOs : List PD → Bool
  | [] => true
  | x :: xs => tupO x && tupOs xs
end
def isTupO : HO → Bool
  | .tup _ => true | .frz _ (.tup _) => true | _ => false
mutual
theorem Rep.cutT {G G2 : Hp} (h : ∀ a o, isTupO o = true → G a = some o → G2 a = some o) : ∀ (d : PD) (v : V), tupO d = true → Rep K G v d → Rep K G2 v d
  | .non, _, _, r => by cases r; exact .non
  | .bl b, _, _, r => by cases r; exact .bl b
  | .int i, _, _, r => by cases r; exact .int i
  | .str x, _, _, r => by cases r; exact .str x
  | .tup xs, _, f, r => by
    cases r with
    | tup h1 h2 =>
      refine .tup ?_ (Reps.cutT h xs _ f h2)
      rcases h1 with (h1 | ⟨o, h1⟩) | h1
      · exact .inl (.inl (h _ _ rfl h1))
      · exact .inl (.inr ⟨o, h _ _ rfl h1⟩)
      · exact .inr h1
  | .btup xs, _, f, r => by
    cases r with
    | btup h1 h0 h2 => exact .btup (h _ _ rfl h1) h0 (Reps.cutT h xs _ f h2)
  | .adr p, _, _, r => by cases r; exact .adr p
theorem Reps.cutT {G G2 : Hp} (h : ∀ a o, isTupO o = true → G a = some o → G2 a = some o) : ∀ (ds : List PD) (vs : List V), tupOs ds = true → Reps K G vs ds → Reps K G2 vs ds
  | [], _, _, r => by cases r; exact .nil
  | d :: ds, _, f, r => by
    cases r with
    | cons h1 h2 =>
      have f2 : (tupO d && tupOs ds) = true := f
      rw [Bool.and_eq_true] at f2
      exact .cons (Rep.cutT h d _ f2.1 h1) (Reps.cutT h ds _ f2.2 h2)
end
theorem RepS.held_no {B : Base} {G H : Hp} {σ : St} {i : Nat} {p : Addr} (R : RepS K B G H σ δ) (hh : HoldR σ δ i p) : G p = none ∧ ∃ o, H p = some o ∧ isTupO o = false := by
  obtain ⟨e, o, q | q⟩ := hh
  · obtain ⟨p', e', g, _, ok⟩ := R.getO q
    rw [e] at e'; cases e'
    refine ⟨g, ?_⟩
    cases o with
    | lst ds => obtain ⟨vs, eo, _⟩ := ok; exact ⟨_, eo, rfl⟩
    | dic ds => obtain ⟨vs, eo, _⟩ := ok; exact ⟨_, eo, rfl⟩
  · obtain ⟨p', e', g, _, ok⟩ := R.getP q
    rw [e] at e'; cases e'
    refine ⟨g, ?_⟩
    cases o with
    | lst ds => obtain ⟨vs, eo, _⟩ := ok; exact ⟨_, eo, rfl⟩
    | dic ds => obtain ⟨vs, eo, _⟩ := ok; exact ⟨_, eo, rfl⟩
open Classical in
theorem ev_borrowT (h : Evd K te (δ.map shr) d) (f : tupO d = true) : Evd K te δ d := fun B G H σ R Q q => by
  obtain ⟨G1, e1, e2, R1, e3⟩ := R.borrow
  refine h _ G1 H σ R1 Q fun v G' H' R' s r => ?_
  have nt : ∀ {i p o}, HoldR σ δ i p → G' p = some o → isTupO o = false := fun {i p o} hh e => by
    obtain ⟨_, u, hu, nu⟩ := R.held_no hh
    have h1 : G1 p ≠ none := by
      intro z
      have := R'.nw p (show H p ≠ none by rw [hu]; exact fun w => nomatch w) z
      rw [this] at e; cases e
    cases hg : G1 p with
    | none => exact absurd hg h1
    | some w =>
      have a1 := e2 _ _ hg
      have a2 := s.eg _ _ hg
      rw [hu] at a1; cases a1
      rw [e] at a2; cases a2
      exact nu
  let G2 : Hp := fun p => if (∃ i, HoldR σ δ i p) then none else G' p
  have g2 : ∀ p, (¬ ∃ i, HoldR σ δ i p) → G2 p = G' p := fun p hp => if_neg hp
  have eg : Same G G2 := fun p o e => by
    have nh : ¬ ∃ i, HoldR σ δ i p := fun ⟨i, hh⟩ => by rw [(R.held_no hh).1] at e; cases e
    rw [g2 p nh]
    exact s.eg _ _ (e1 _ _ e)
  have gh : Same G2 H' := fun p o e => by
    have e' : (if (∃ i, HoldR σ δ i p) then none else G' p) = some o := e
    by_cases hh : ∃ i, HoldR σ δ i p
    · rw [if_pos hh] at e'; cases e'
    · rw [if_neg hh] at e'; exact s.gh _ _ e'
  have nw : ∀ p, H p ≠ none → G p = none → G2 p = none := fun p l g => by
    show (if (∃ i, HoldR σ δ i p) then none else G' p) = none
    by_cases hh : ∃ i, HoldR σ δ i p
    · rw [if_pos hh]
    · rw [if_neg hh]
      exact R'.nw p l (by rw [← g]; exact e3 p hh)
  have st : Step G H G2 H' := ⟨eg, s.eh, gh, nw⟩
  exact q v G2 H' (R.st st) st (Rep.cutT (fun a o ho e => by
    have nh : ¬ ∃ i, HoldR σ δ i a := fun ⟨i, hh⟩ => by
      have := nt hh e
      rw [ho] at this; cases this
    rw [g2 a nh]; exact e) d v f r)
/-! ### a new tuple, own objects among its parts, in a slot of which nothing is told -/
structure OTok (K : FK) (B : Base) (G H : Hp) (t : Addr) (vs : List V) (cs : List (PD ⊕ OD)) : Prop where
  bt : B.H t = none
  gt : G t = none
  ht : H t = some (.tup vs)
  len : vs.length = cs.length
  cm : ∀ (i : Nat) (x : V) (c : PD ⊕ OD), vs[i]? = some x → cs[i]? = some c → CompOk K B.H G H x c
  dj : ∀ (i j : Nat) (p : Addr) (c c' : PD ⊕ OD), cs[i]? = some c → cs[j]? = some c' → isOwn c = true → isOwn c' = true → vs[i]? = some (V.ref p) → vs[j]? = some (V.ref p) → i = j
theorem OTok.st {B : Base} {G H G' H' : Hp} {t : Addr} {vs : List V} {cs : List (PD ⊕ OD)} (h : OTok K B G H t vs cs) (s : Step G H G' H') : OTok K B G' H' t vs cs :=
  ⟨h.bt, s.nw t (some_ne h.ht) h.gt, s.eh.get _ _ h.ht, h.len, fun i x c e1 e2 => (h.cm i x c e1 e2).mono s, h.dj⟩
def OTx (K : FK) (ts : TS) (δ : AE) (i : Nat) (cs : List (PD ⊕ OD)) (P : Post) : Prop := ∀ (B : Base) (G H : Hp) (σ : St) (D : Ends) (t : Addr) (vs : List V), RepS K B G H σ δ → σ[i]? = some (some (.ref t)) → OTok K B G H t vs cs →
  (∀ σ' G' H' δ', P.nx δ' → RepS K B G' H' σ' δ' → Same G G' → D.nx σ' H') →
  (∀ v σ' G' H' δ' r, P.rt r δ' → RepS K B G' H' σ' δ' → Same G G' → RtOk K B.H G' H' v r → D.rt v H') →
  (∀ σ' G' H' δ', P.bk δ' → RepS K B G' H' σ' δ' → Same G G' → D.bk σ' H') →
  (∀ σ' G' H' δ', P.ct δ' → RepS K B G' H' σ' δ' → Same G G' → D.ct σ' H') → ts D σ H
theorem ot_forget {i : Nat} {cs : List (PD ⊕ OD)} (h : Sx K tz δ P) : OTx K tz δ i cs P := fun B G H σ D t vs R e o hn hr hb hc => h B G H σ D R hn hr hb hc
/-- x = f(..), that gives a tuple with own parts -/
theorem q_asgT {i : Nat} {PP : List PD → Rt → Prop} {E : XK} {targs : TA} {args : List PD} {cs : List (PD ⊕ OD)} (np : notPn δ i = true) (hi : i < δ.length) (ha : Evs K targs δ args) (hp : PP args (.otup cs)) (k : OTx K tz (δ.set i .no) i cs P) :
    Sx K (tSeq (tAsg (tCall (spP K PP) [] E targs) (gName i)) tz) δ P := fun B G H σ D R hn hr hb hc =>
  ha B G H σ R _ fun vs G1 H1 R1 s1 rs => by
    rw [List.append_nil]
    refine ⟨G1, args, _, R1.gh, R1.tb, rs, hp, fun v G' H' eh eg gh n ok => ?_⟩
    obtain ⟨t, us, rfl, ht, gt, et, hl, hcm, hd⟩ := ok
    have R' : RepS K B G' H' σ δ := R1.step eg eh gh n
    have fr : ∀ q, H1 q = none → B.H q = none := fun q hq => R1.newFree hq
    have hsl : i < σ.length := R.lt (np_of np).nc hi
    refine k B G' H' (σ.set i (some (.ref t))) D t us (R'.setNo i _ (np_of np)) (List.getElem?_set_self hsl) ⟨fr t ht, gt, et, hl, fun i x c e1 e2 => ?_, hd⟩ ?_ ?_ ?_ ?_
    · have hc := hcm i x c e1 e2
      cases c with
      | inl d => exact hc
      | inr o => obtain ⟨p, e, hp, gp, ok⟩ := hc; exact ⟨p, e, fr p hp, gp, ok⟩
    · exact fun σ2 G2 H2 δ2 p R2 e2 => hn σ2 G2 H2 δ2 p R2 ((s1.eg.trans eg).trans e2)
    · exact fun v σ2 G2 H2 δ2 r p R2 e2 k => hr v σ2 G2 H2 δ2 r p R2 ((s1.eg.trans eg).trans e2) k
    · exact fun σ2 G2 H2 δ2 p R2 e2 => hb σ2 G2 H2 δ2 p R2 ((s1.eg.trans eg).trans e2)
    · exact fun σ2 G2 H2 δ2 p R2 e2 => hc σ2 G2 H2 δ2 p R2 ((s1.eg.trans eg).trans e2)
/-- a test that is not passed, the tuple read in it -/
theorem ot_if {i : Nat} {cs : List (PD ⊕ OD)} {tc : TT} (hs : δ.all isSh = true) (hi : i < δ.length) (hc : Evt K tc (δ.set i (.sh (.tup (cs.map compPD)))) false) (k : OTx K (tSeq tw tz) δ i cs P) : OTx K (tSeq (tIfS tc tu tw) tz) δ i cs P := fun B G H σ D t vs R e o hn hr hb hc' => by
  have R0 : RepS K ⟨G, H, []⟩ G H σ δ := R.lift hs (Same.refl G) R.gh R.tb
  have np : Free δ i := free_all hs
  -- the tuple, read
  let S : Addr → Prop := fun p => p = t ∨ ∃ (i : Nat) (c : PD ⊕ OD), cs[i]? = some c ∧ isOwn c = true ∧ vs[i]? = some (V.ref p)
  have sf : ∀ p, S p → G p = none ∧ (∀ q, H p ≠ some (.tbl q)) := fun p hp => by
    rcases hp with e | ⟨i, c, e1, o1, e2⟩
    · subst e; exact ⟨o.gt, fun q z => by rw [o.ht] at z; cases z⟩
    · have hc := o.cm i _ c e2 e1
      cases c with
      | inl d => cases o1
      | inr od =>
        obtain ⟨q, e, hq, gq, ok⟩ := hc
        cases e
        refine ⟨gq, fun q2 z => ?_⟩
        obtain ⟨u, nt, eu⟩ := ok.nt
        rw [eu] at z
        exact nt q2 (Option.some.inj z)
  open Classical in
  let G2 : Hp := fun p => if S p then H p else G p
  have eg : Same G G2 := fun p o' e => by
    show (if S p then H p else G p) = some o'
    rw [if_neg (fun z => by rw [(sf p z).1] at e; cases e)]
    exact e
  have e2 : Same G2 H := fun p o' e => by
    have e' : (if S p then H p else G p) = some o' := e
    by_cases hp : S p
    · rw [if_pos hp] at e'; exact e'
    · rw [if_neg hp] at e'; exact R.gh _ _ e'
  have g2 : ∀ p, S p → G2 p = H p := fun p hp => if_pos hp
  have tb2 : Tb K G2 H := fun t' ht' => ⟨(R.tb t' ht').1, by
    show (if S t' then H t' else G t') = none
    rw [if_neg (fun z => by obtain ⟨q, eq, _⟩ := (R.tb t' ht').1; exact (sf t' z).2 q eq)]
    exact (R.tb t' ht').2⟩
  have each : ∀ (i : Nat) (x : V) (c : PD ⊕ OD), vs[i]? = some x → cs[i]? = some c → Rep K G2 x (compPD c) := fun i x c e1 e3 => by
    have hc := o.cm i x c e1 e3
    cases c with
    | inl d => exact Rep.mono eg hc
    | inr od =>
      obtain ⟨q, e, hq, gq, ok⟩ := hc
      subst e
      have hS : S q := Or.inr ⟨i, _, e3, rfl, e1⟩
      cases od with
      | lst ds =>
        obtain ⟨us, eu, r⟩ := ok
        exact .lst (by rw [g2 q hS]; exact eu) (r.mono eg)
      | dic ds =>
        obtain ⟨us, eu, r⟩ := ok
        exact .dic (by rw [g2 q hS]; exact eu) (r.mono eg)
  have build : ∀ (vs : List V) (cs : List (PD ⊕ OD)), vs.length = cs.length → (∀ (i : Nat) (x : V) (c : PD ⊕ OD), vs[i]? = some x → cs[i]? = some c → Rep K G2 x (compPD c)) → Reps K G2 vs (cs.map compPD) := fun vs => by
    induction vs with
    | nil => intro cs l _; cases cs with
      | nil => exact .nil
      | cons c cs => simp at l
    | cons v vs ih => intro cs l h; cases cs with
      | nil => simp at l
      | cons c cs => exact .cons (h 0 v c rfl rfl) (ih cs (by simpa using l) fun i x c e1 e2 => h (i + 1) x c e1 e2)
  have rt : Rep K G2 (.ref t) (.tup (cs.map compPD)) := .tup (vs := vs) (Or.inl (Or.inl (by rw [g2 t (Or.inl rfl)]; exact o.ht))) (build vs cs o.len each)
  have R2 : RepS K ⟨G2, H, []⟩ G2 H σ δ := R.lift hs eg e2 tb2
  have R3 := R2.setSh i rt np
  have es : σ.set i (some (.ref t)) = σ := by
    apply List.ext_getElem?
    intro j
    by_cases ej : j = i
    · subst ej
      rw [e, List.getElem?_set_self (R.lt np.nc hi)]
    · rw [List.getElem?_set_ne (Ne.symm ej)]
  rw [es] at R3
  refine hc _ G2 H σ R3 _ fun G3 H3 R4 s3 => ?_
  have st : Step G H G H3 := ⟨Same.refl G, s3.eh, (eg.trans s3.eg).trans s3.gh, fun _ _ g => g⟩
  exact k B G H3 σ D t vs (R.st st) e (o.st st) hn hr hb hc'
/-- x[j] is changed: nobody else sees it -/
theorem OTok.change {B : Base} {G H : Hp} {t p : Addr} {vs : List V} {cs : List (PD ⊕ OD)} {j : Nat} {od od' : OD} {ob : HO} (o : OTok K B G H t vs cs) (hj : cs[j]? = some (.inr od)) (ej : vs[j]? = some (.ref p)) (ok : OwnOk K G (upd H p ob) p od') :
    OTok K B G (upd H p ob) t vs (cs.set j (.inr od')) := by
  obtain ⟨q, eq, bq, gq, okq⟩ := o.cm j _ _ ej hj
  cases eq
  have hjl : j < cs.length := (List.getElem?_eq_some_iff.mp hj).1
  have ntp : t ≠ p := fun z => by
    subst z
    have ht := o.ht
    cases od with
    | lst ds => obtain ⟨us, eu, _⟩ := okq; rw [ht] at eu; cases eu
    | dic ds => obtain ⟨us, eu, _⟩ := okq; rw [ht] at eu; cases eu
  have own : ∀ (i : Nat) (c : PD ⊕ OD), (cs.set j (.inr od'))[i]? = some c → isOwn c = true → ∃ c0, cs[i]? = some c0 ∧ isOwn c0 = true := fun i c e h => by
    by_cases ei : i = j
    · subst ei; exact ⟨_, hj, rfl⟩
    · rw [List.getElem?_set_ne (Ne.symm ei)] at e; exact ⟨c, e, h⟩
  refine ⟨o.bt, o.gt, by rw [upd_ne ntp]; exact o.ht, by rw [List.length_set]; exact o.len, fun i x c e1 e2 => ?_, fun i k q c c' e1 e2 o1 o2 e3 e4 => ?_⟩
  · by_cases ei : i = j
    · subst ei
      rw [List.getElem?_set_self hjl] at e2
      cases e2
      rw [ej] at e1; cases e1
      exact ⟨p, rfl, bq, gq, ok⟩
    · rw [List.getElem?_set_ne (Ne.symm ei)] at e2
      have hc := o.cm i x c e1 e2
      cases c with
      | inl d => exact hc
      | inr od2 =>
        obtain ⟨q, e, b, g, k2⟩ := hc
        subst e
        have nqp : q ≠ p := fun z => by
          subst z
          exact ei (o.dj i j q _ _ e2 hj rfl rfl e1 ej)
        exact ⟨q, rfl, b, g, k2.mono (Same.refl G) (upd_ne nqp)⟩
  · obtain ⟨c1, h1, k1⟩ := own i c e1 o1
    obtain ⟨c2, h2, k2⟩ := own k c' e2 o2
    exact o.dj i k q c1 c2 h1 h2 k1 k2 e3 e4
theorem ot_mut {j : Nat} {cs : List (PD ⊕ OD)} {od : OD} {B : Base} {G H : Hp} {σ : St} {t p : Addr} {vs : List V} {ob : HO} (hs : δ.all isSh = true) (R : RepS K B G H σ δ) (o : OTok K B G H t vs cs) (hj : cs[j]? = some (.inr od)) (ej : vs[j]? = some (.ref p)) :
    RepS K B G (upd H p ob) σ δ := by
  obtain ⟨q, eq, bq, gq, okq⟩ := o.cm j _ _ ej hj
  cases eq
  obtain ⟨u, nt, eu⟩ := okq.nt
  exact R.out gq bq (RepS.noHold hs p) ⟨u, nt, eu⟩
/-- x[j].clear() of a list -/
theorem ot_clearL {i : Nat} {j : Int} {k : Nat} {cs : List (PD ⊕ OD)} {ds : List PD} (hs : δ.all isSh = true) (hj : cs[k]? = some (.inr (.lst ds))) (ejk : j = k) (kk : OTx K tz δ i (cs.set k (.inr (.lst []))) P) :
    OTx K (tSeq (tDrop (tBM0 K "list" rClear (tOp (rIxT K) (tVar i) (tC (.int j))))) tz) δ i cs P := fun B G H σ D t vs R e o hn hr hb hc => by
  subst ejk
  have hk : k < vs.length := by rw [o.len]; exact (List.getElem?_eq_some_iff.mp hj).1
  obtain ⟨p, ex, bp, gp, us, eu, ru⟩ := o.cm k _ _ (List.getElem?_eq_getElem hk) hj
  have ev : vs[k]? = some (.ref p) := by rw [List.getElem?_eq_getElem hk, ex]
  refine ⟨_, e, t, vs, k, .ref p, rfl, rfl, Or.inl (Or.inl o.ht), atI_nat ev, tyV_lst eu, p, us, rfl, rfl, eu, ?_⟩
  exact kk B G _ σ D t vs (ot_mut hs R o hj ev) e (o.change hj ev ⟨_, upd_same, .nil⟩) hn hr hb hc
theorem ot_clearD {i : Nat} {j : Int} {k : Nat} {cs : List (PD ⊕ OD)} {ds : List (Key × PD)} (hs : δ.all isSh = true) (hj : cs[k]? = some (.inr (.dic ds))) (ejk : j = k) (kk : OTx K tz δ i (cs.set k (.inr (.dic []))) P) :
    OTx K (tSeq (tDrop (tBM0 K "dict" rDClear (tOp (rIxT K) (tVar i) (tC (.int j))))) tz) δ i cs P := fun B G H σ D t vs R e o hn hr hb hc => by
  subst ejk
  have hk : k < vs.length := by rw [o.len]; exact (List.getElem?_eq_some_iff.mp hj).1
  obtain ⟨p, ex, bp, gp, us, eu, ru⟩ := o.cm k _ _ (List.getElem?_eq_getElem hk) hj
  have ev : vs[k]? = some (.ref p) := by rw [List.getElem?_eq_getElem hk, ex]
  refine ⟨_, e, t, vs, k, .ref p, rfl, rfl, Or.inl (Or.inl o.ht), atI_nat ev, tyV_dic eu, p, us, rfl, rfl, eu, ?_⟩
  exact kk B G _ σ D t vs (ot_mut hs R o hj ev) e (o.change hj ev ⟨_, upd_same, .nil⟩) hn hr hb hc
/-- x[j].append(y) -/
theorem ot_app {i : Nat} {j : Int} {k : Nat} {cs : List (PD ⊕ OD)} {ds : List PD} (hs : δ.all isSh = true) (hj : cs[k]? = some (.inr (.lst ds))) (ejk : j = k) (he : Evd K te δ d) (hz : ds.length < 100000) (kk : OTx K tz δ i (cs.set k (.inr (.lst (ds ++ [d])))) P) :
    OTx K (tSeq (tDrop (tBM K "list" rAppend (tOp (rIxT K) (tVar i) (tC (.int j))) (tCons te tNil))) tz) δ i cs P := fun B G H σ D t vs R e o hn hr hb hc => by
  subst ejk
  have hk : k < vs.length := by rw [o.len]; exact (List.getElem?_eq_some_iff.mp hj).1
  obtain ⟨p, ex, bp, gp, us, eu, ru⟩ := o.cm k _ _ (List.getElem?_eq_getElem hk) hj
  have ev : vs[k]? = some (.ref p) := by rw [List.getElem?_eq_getElem hk, ex]
  refine ⟨_, e, t, vs, k, .ref p, rfl, rfl, Or.inl (Or.inl o.ht), atI_nat ev, tyV_lst eu, he B G H σ R _ fun v G1 H1 R1 s r => ?_⟩
  have o1 := o.st s
  refine ⟨p, us, v, rfl, rfl, s.eh.get _ _ eu, Nat.lt_of_lt_of_le (by rw [ru.length]; exact hz) (by decide), ?_⟩
  refine kk B G1 _ σ D t vs (ot_mut hs R1 o1 hj ev) e (o1.change hj ev ⟨_, upd_same, (ru.mono s.eg).snoc r⟩) ?_ ?_ ?_ ?_
  · exact fun σ2 G2 H2 δ2 p R2 e2 => hn σ2 G2 H2 δ2 p R2 (s.eg.trans e2)
  · exact fun v σ2 G2 H2 δ2 r p R2 e2 k => hr v σ2 G2 H2 δ2 r p R2 (s.eg.trans e2) k
  · exact fun σ2 G2 H2 δ2 p R2 e2 => hb σ2 G2 H2 δ2 p R2 (s.eg.trans e2)
  · exact fun σ2 G2 H2 δ2 p R2 e2 => hc σ2 G2 H2 δ2 p R2 (s.eg.trans e2)
end
end Fw
/-! rules of one's own: dict of a tuple of pairs -/
namespace Fw
open PySem PySem.Spec L2
def rDictPT (K : PySem.W.Frag) : List V → Hp → VK → Prop := fun xs H Q => ∃ (a : Addr) (o : Obj) (ps : List Addr) (kvs : List (Key × V)), xs = [.ref a] ∧ H a = some (.frz o (.tup (ps.map V.ref))) ∧ o.dict = none ∧ Paired (fun p kv => SqT K H p [kV kv.1, kv.2]) ps kvs ∧
    ∀ p, H p = none → Q (.ref p) (upd H p (.dK (mergeK [] kvs)))
section
variable {X : Cx}
theorem pairs_ofW {pins : List (Addr × Obj)} {σ : L2.St} {H : Hp} {s : Shared} (I : Inv X pins σ H s) : ∀ {ps : List Addr} {kvs : List (Key × V)}, Paired (fun p kv => SqT X.K H p [kV kv.1, kv.2]) ps kvs →
    ∃ (W : List (Value × Value)) (prs : List (Key × Value)), KV kvs prs ∧ prs.length = ps.length ∧ W.length = ps.length ∧ ∀ (j : Nat) (k v : Value), W[j]? = some (k, v) → (∃ b : Addr, ps[j]? = some b ∧ PyProof.Rows.IsTup s.heap b #[k, v]) ∧ ∃ q : Key, prs[j]? = some (q, v) ∧ keyIs q k = true
  | _, _, .nil => ⟨[], [], .nil, rfl, rfl, fun j k v e => by simp at e⟩
  | _, _, .cons (a := p) (b := kv) h t => by
    obtain ⟨W, prs, r, hl, hw, hp⟩ := pairs_ofW I t
    obtain ⟨its, rv, ht, _⟩ := I.tuple h
    obtain ⟨u, y, ei, ru, ry⟩ := vals2 rv
    subst ei
    refine ⟨(u, y) :: W, (kv.1, y) :: prs, .cons ⟨rfl, ry⟩ r, by rw [List.length_cons, List.length_cons, hl], by rw [List.length_cons, List.length_cons, hw], fun j k v e => ?_⟩
    cases j with
    | zero =>
      have e' : (u, y) = (k, v) := Option.some.inj e
      cases e'
      exact ⟨⟨p, rfl, ht⟩, kv.1, rfl, kV_is (P := X.prog) (w := X.w) ru⟩
    | succ j =>
      obtain ⟨⟨b, e1, e2⟩, q, e3, e4⟩ := hp j k v (by simpa using e)
      exact ⟨⟨b, by simpa using e1, e2⟩, q, by simpa using e3, e4⟩
theorem call_dictPT (hcalm : X.calm = true) : CallR X (.type "dict") (rDictPT X.K) := by
  intro pins s σ H xs us Q I r q
  obtain ⟨a, o, ps, kvs, ex, hq0, hd, hp, q⟩ := q
  have hq : SqT X.K H a (ps.map V.ref) := .inl (.inr ⟨o, hq0⟩)
  have ho : s.heap.get? a = some o := (show ObjOk X.prog X.w H s.heap a (.frz o (.tup (ps.map V.ref))) from I.hok a _ hq0).1
  subst ex
  obtain ⟨u, eu, rx⟩ := vals1 r
  subst eu
  cases rx
  obtain ⟨its, rv, pl, hz⟩ := I.tuple hq
  have ei := refs_at rv
  subst ei
  rw [List.length_map] at hz
  obtain ⟨W, prs, rel, hl, hw, hpr⟩ := pairs_ofW I hp
  obtain ⟨o', ho', hc, n, hdat⟩ := pl
  have eo : o' = o := Option.some.inj (ho'.symm.trans ho)
  subst eo
  have hW : W.length ≤ sizeLine := by rw [hw]; exact hz
  refine PySem.call_dict_pairs (knd := mixKind X.prog X.w) (kvs := prs) (PairArg.tuple a (ps.map Value.ref).toArray (fun j => ps.getD j 0) W) (I.ok.hd hcalm) ⟨⟨_, n, ho, hc, hd, hdat⟩, ?_, ?_⟩ ⟨by rw [hl, hw], ?_⟩ hW fun h' tk hd' k => ?_
  · simp [hw]
  · intro j k v e
    obtain ⟨⟨b, e1, ⟨o2, h2, c2, n2, da2⟩⟩, _⟩ := hpr j k v e
    have eg : ps.getD j 0 = b := by rw [List.getD_eq_getElem?_getD, e1]; rfl
    show _ ∧ PairAt s.heap (ps.getD j 0) k v
    rw [eg]
    refine ⟨?_, .inl ⟨o2, h2, c2, n2, da2⟩⟩
    show _ = some (Value.ref (ps.getD j 0))
    rw [eg]
    exact (by simp [e1])
    --, .inl ⟨o2, h2, c2, n2, da2⟩⟩
  · intro i k v e
    obtain ⟨_, q, e3, e4⟩ := hpr i k v e
    exact ⟨q, e3, e4⟩
  · have hm : (s.heap.objs.size == sysModules) = false := beq_eq_false_iff_ne.mpr (Nat.ne_of_gt I.big)
    have hlen : (mergeK [] kvs).length ≤ sizeLine := by
      refine Nat.le_trans (length_mergeK kvs []) ?_
      rw [List.length_nil, Nat.zero_add, rel.length, hl]
      exact hz
    exact ⟨.ref s.heap.objs.size, upd H s.heap.objs.size (.dK (mergeK [] kvs)), I.laid (t' := tk) (fun b o e => k b o (by simp) e) (Nat.le_refl _) (show ObjOk X.prog X.w _ _ _ (.dK (mergeK [] kvs)) from ⟨hlen, hm, merged [] prs, KV.merge rel .nil, hd'⟩), rfl, q _ (I.hok.fresh (Nat.le_refl _))⟩
end
section
variable {K : FK} {δ : AE} {ta : TE}
theorem merge_nodup : ∀ (kds acc : List (Key × PD)), ((acc ++ kds).map (·.1)).Nodup → mergeD acc kds = acc ++ kds
  | [], acc, _ => (List.append_nil acc).symm
  | (k, d) :: r, acc, h => by
    show mergeD (Fw.put acc k d) r = _
    have hn : ¬ (acc.any fun kd => decide (kd.1 = k)) = true := by
      rw [List.any_eq_true]
      rintro ⟨x, hx, e⟩
      rw [List.map_append, List.nodup_append] at h
      exact h.2.2 x.1 (List.mem_map.mpr ⟨x, hx, rfl⟩) k (by simp) (of_decide_eq_true e)
    have ep : Fw.put acc k d = acc ++ [(k, d)] := by unfold Fw.put; rw [if_neg hn]
    rw [ep, merge_nodup r (acc ++ [(k, d)]) (by rw [List.append_assoc]; exact h), List.append_assoc]
    rfl
theorem reps_pairs {G : Hp} : ∀ {vs : List V} {kds : List (Key × PD)}, Reps K G vs (kds.map fun kd => PD.tup [kPD kd.1, kd.2]) → ∃ (ps : List Addr) (kvs : List (Key × V)), vs = ps.map V.ref ∧ Paired (fun p kv => SqT K G p [kV kv.1, kv.2]) ps kvs ∧ RepsK K G kvs kds
  | _, [], h => by cases h; exact ⟨[], [], rfl, .nil, .nil⟩
  | _, (k, d) :: r, h => by
    cases h with
    | cons h1 h2 =>
      obtain ⟨ps, kvs, e, hp, hr⟩ := reps_pairs (kds := r) h2
      subst e
      cases h1 with
      | @tup a us _ ht hu =>
        cases hu with
        | cons u1 u2 =>
        cases u2 with
        | cons u2 u3 =>
        cases u3
        have ek : ∀ v, Rep K G v (kPD k) → v = kV k := fun v h => by
          cases k with
          | inl i => exact Rep.flat (d := .int i) h rfl
          | inr x => exact Rep.flat (d := .str x) h rfl
        have ek := ek _ u1
        subst ek
        exact ⟨a :: ps, (k, _) :: kvs, rfl, .cons ht hp, .cons u2 hr⟩
theorem paired_mono {H H' : Hp} (f : ∀ a xs, SqT K H a xs → SqT K H' a xs) : ∀ {ps : List Addr} {kvs : List (Key × V)}, Paired (fun p kv => SqT K H p [kV kv.1, kv.2]) ps kvs → Paired (fun p kv => SqT K H' p [kV kv.1, kv.2]) ps kvs
  | _, _, .nil => .nil
  | _, _, .cons h t => .cons (f _ _ h) (paired_mono f t)
/-- dict(pairs) -/
theorem eo_dictPT {kds : List (Key × PD)} (ha : Evd K ta δ (.btup (kds.map fun kd => PD.tup [kPD kd.1, kd.2]))) (nd : (kds.map (·.1)).Nodup) : Evo K (tCB (rDictPT K) (tCons ta tNil)) δ (.dic kds) := fun B G H σ R Q q =>
  ha B G H σ R _ fun x G1 H1 R1 s1 rx => by
    cases rx with
    | @btup p vs _ o hp ho rs =>
    obtain ⟨ps, kvs, ev, hpp, hr⟩ := reps_pairs rs
    subst ev
    refine ⟨p, o, ps, kvs, rfl, R1.gh _ _ hp, ho, paired_mono (fun _ _ h => same_sqT R1.gh h) hpp, fun l hl => ?_⟩
    have hm := RepsK.merge (kds := []) hr .nil
    rw [merge_nodup kds [] (by simpa using nd)] at hm
    exact q l G1 _ (R1.hid hl) (s1.hid hl) (fresh_bk s1.eh hl) (fresh_back R1.gh hl) ⟨_, upd_same, hm⟩
end
end Fw
/-! tuples of which it is known that they have no dict of their own -/
namespace Fw
open PySem PySem.Spec L2 RT
def tTupZ (t : TA) : TE := fun σ H Q => t σ H fun xs H1 => xs.length ≤ sizeLine ∧ ∀ p o, H1 p = none → o.dict = none → Q (.ref p) (upd H1 p (.frz o (.tup xs)))
def rSlZ : V → Option Int → Option Int → Hp → VK → Prop := fun x lo hi H Q => ∃ a o xs, x = .ref a ∧ H a = some (.frz o (.tup xs)) ∧
  (HT.sIx xs.length 0 lo = 0 ∧ HT.sIx xs.length xs.length hi = xs.length → Q (.ref a) H) ∧ (¬ (HT.sIx xs.length 0 lo = 0 ∧ HT.sIx xs.length xs.length hi = xs.length) → ∀ p o', H p = none → o'.dict = none → Q (.ref p) (upd H p (.frz o' (.tup (cutV xs lo hi)))))
def rCatZ : R2 := fun x y H Q => ∃ a b o u xs ys, x = .ref a ∧ y = .ref b ∧ H a = some (.frz o (.tup xs)) ∧ H b = some (.frz u (.tup ys)) ∧ xs.length + ys.length ≤ sizeLine ∧
  (xs = [] → Q (.ref b) H) ∧ (xs ≠ [] → ys = [] → Q (.ref a) H) ∧ (xs ≠ [] → ys ≠ [] → ∀ l o', H l = none → o'.dict = none → Q (.ref l) (upd H l (.frz o' (.tup (xs ++ ys)))))
def tTupRevZ (K : PySem.W.Frag) (te : TE) : TE := fun σ H Q => te σ H fun v H1 => ∃ (a : Addr) (xs : List V), v = .ref a ∧ SqL K H1 a xs ∧ ∀ q o, H1 q = none → o.dict = none → Q (.ref q) (upd H1 q (.frz o (.tup xs.reverse)))
theorem frz_sqT {K : PySem.W.Frag} {H : Hp} {a : Addr} {o : Obj} {xs : List V} (h : H a = some (.frz o (.tup xs))) : SqT K H a xs := .inl (.inr ⟨o, h⟩)
section
variable {X : Cx} {es : List Expr} {t : TA} {pos : Pos}
theorem pe_tupZ {x1} (h : PA X es t) : PE X (.Tuple es x1 pos) (tTupZ t) := by
  refine ⟨fun pins s σ H Q I hq => ?_⟩
  refine wpAny_Tuple_spliced (thn (h.run pos pins s σ H _ I hq) fun us s1 ⟨xs, H1, I1, r, z, q⟩ => ⟨by rw [← r.length]; exact z, ?_⟩)
  have hf : H1 s1.heap.objs.size = none := I1.hok.fresh (Nat.le_refl _)
  refine ⟨.ref s1.heap.objs.size, upd H1 s1.heap.objs.size (.frz _ (.tup xs)), I1.laid (t' := s1.toks) (fun b u e => Heap.get?_push_of_some _ e) (Nat.le_refl _) ⟨Heap.get?_push_size _ rfl, ?_⟩, rfl, q _ _ hf rfl⟩
  exact ⟨z, us, r, ⟨_, Heap.get?_push_size _ rfl, rfl, _, rfl⟩⟩
theorem sl_tupZ : SlR X rSlZ := by
  intro pins s σ H x v vl vu lo hi sl Q I rx hs pl pu h
  obtain ⟨a, o, xs, rfl, hx0, q1, q2⟩ := h
  have hx : SqT X.K H a xs := frz_sqT hx0
  cases rx
  obtain ⟨its, r, ht, hz⟩ := I.tuple hx
  have hlen : its.toArray.size = xs.length := by rw [List.size_toArray]; exact r.length.symm
  refine ⟨"tuple", _, PyProof.Rows.slot_tuple_getitem.lookup, ht.typeIs, ?_⟩
  by_cases hw : HT.sIx xs.length 0 lo = 0 ∧ HT.sIx xs.length xs.length hi = xs.length
  · exact getItem_tuple_whole ht hs pl pu (by rw [hlen]; exact hw) ⟨.ref a, H, I, rfl, q1 hw⟩
  · refine HT.getItem_tuple_cut ht hs pl pu (by rw [hlen]; exact hw) ?_ (by rw [hlen]; exact hz)
    rw [hlen]
    refine ⟨.ref s.heap.objs.size, _, I.laid (t' := s.toks) (o := .frz _ (.tup (cutV xs lo hi))) (fun b ob q => Heap.get?_push_of_some _ q) (Nat.le_refl _) ⟨Heap.get?_push_size _ rfl, ?_⟩, rfl, q2 hw _ _ (I.hok.fresh (Nat.le_refl _)) rfl⟩
    exact ⟨Nat.le_trans (cutV_length xs lo hi) hz, _, (r.drop (HT.sIx xs.length 0 lo)).take (HT.sIx xs.length xs.length hi - HT.sIx xs.length 0 lo), PyProof.Rows.IsTup.new _ _⟩
theorem op_catZ : OpR X (binaryOp .Add) rCatZ := by
  intro pins s σ H x y v u Q I rx ry h
  obtain ⟨a, b, oa, ob, xs, ys, rfl, rfl, ha0, hb0, hz, q0, q1, q2⟩ := h
  have ha : SqT X.K H a xs := frz_sqT ha0
  have hb : SqT X.K H b ys := frz_sqT hb0
  cases rx
  cases ry
  obtain ⟨its, r1, p1, _⟩ := I.tuple ha
  obtain ⟨its2, r2, p2, _⟩ := I.tuple hb
  have l1 := r1.length
  have l2 := r2.length
  by_cases hx : xs = []
  · subst hx
    cases r1
    exact cat_tup0 p1 p2 ⟨.ref b, H, I, rfl, q0 rfl⟩
  · have hi : its ≠ [] := fun e => by subst e; exact hx (List.length_eq_zero_iff.mp l1)
    refine HT.cat_tup p1 p2 hi (fun e => ?_) (fun e => ?_) (by omega)
    · subst e
      exact ⟨.ref a, H, I, rfl, q1 hx (List.length_eq_zero_iff.mp l2)⟩
    · refine ⟨.ref s.heap.objs.size, _, I.laid (t' := s.toks) (o := .frz _ (.tup (xs ++ ys))) (fun b ob q => Heap.get?_push_of_some _ q) (Nat.le_refl _) ⟨Heap.get?_push_size _ rfl, ?_⟩, rfl, q2 hx (fun z => by subst z; exact e (List.length_eq_zero_iff.mp l2.symm)) _ _ (I.hok.fresh (Nat.le_refl _)) rfl⟩
      exact ⟨by rw [List.length_append]; exact hz, _, r1.append r2, PyProof.Rows.IsTup.new _ _⟩
open PyProof.Rows in
theorem pe_tupRevZ {e : Expr} {te : TE} {p p2 pos pos2 : Pos} (hc : X.calm = true) (hg : Gl X "tuple") (hm : X.mg "tuple" = none) (hg2 : Gl X "reversed") (hm2 : X.mg "reversed" = none) (he : PE X e te)
    (hs : starEach [e] X.env = (false, eval e X.env) :: starEach [] X.env := by rfl)
    (hs2 : starEach [.Call (.Name "reversed" p2) [e] [] pos2] X.env = (false, eval (.Call (.Name "reversed" p2) [e] [] pos2) X.env) :: starEach [] X.env := by rfl) :
    PE X (.Call (.Name "tuple" p) [.Call (.Name "reversed" p2) [e] [] pos2] [] pos) (tTupRevZ X.K te) := by
  refine ⟨fun pins s σ H Q I h => ?_⟩
  refine Call_ (ld_blt I hg hm boot_tuple (PyProof.Rows.callWith_type1 (args_cons (Call_ (ld_blt I hg2 hm2 PyProof.Rows.boot_reversed (PyProof.Rows.callWith_type1 (args_cons (thn (he.run pins s σ H _ I h) fun u s1 ⟨v, H1, I1, r1, q1⟩ => args_nil ?_) hs) hs rfl))) hs2) hs2 rfl))
  obtain ⟨a, xs, ev, hq, q⟩ := q1
  subst ev
  obtain rfl : u = Value.ref a := r1
  obtain ⟨its, rv, p', hz⟩ := I1.list hq
  refine call_reversed_list p'.isList (args_nil ?_)
  have k0 : ∀ b o, s1.heap.get? b = some o → (s1.heap.push (revObj a ((its.toArray.size : Int) - 1))).get? b = some o := fun b o e => Heap.get?_push_of_some _ e
  have I2 : Inv X pins σ H1 { s1 with heap := s1.heap.push (revObj a ((its.toArray.size : Int) - 1)) } := I1.kept (t' := s1.toks) k0
  obtain ⟨f0, f1, f2, f3, f4, f5⟩ := I1.fpOk (H' := H1) (b := s1.heap.objs.size) (Nat.le_refl _) (I1.hok.fresh (Nat.le_refl _))
  have hl := p'.isList
  obtain ⟨ol, hol, _⟩ := id hl
  have hne : a ≠ s1.heap.objs.size := Nat.ne_of_lt (Heap.lt_size hol)
  have hn : its.toArray.size ≤ sizeLine := by rw [List.size_toArray, ← rv.length]; exact hz
  refine call_tuple_rev (s := { s1 with heap := s1.heap.push (revObj a ((its.toArray.size : Int) - 1)) }) (I1.ok.hd hc) ⟨_, Heap.get?_push_size _ rfl, rfl, rfl⟩ (hl.push _) hne hn fun h' tk acc hk hi => ?_
  have I3 : Inv X pins σ H1 { s1 with heap := h', toks := tk } := I2.turned (t' := tk) (fun b o hb e => hk b o hb e) f0 f1 f3 f4 f5
  refine ⟨.ref h'.objs.size, upd H1 h'.objs.size (.frz _ (.tup xs.reverse)), I3.laid (t' := tk) (fun c o e => Heap.get?_push_of_some _ e) (Nat.le_refl _) (show ObjOk X.prog X.w _ _ _ (.frz _ (.tup xs.reverse)) from ⟨Heap.get?_push_size _ rfl, by rw [List.length_reverse]; exact hz, acc.toList, vals_rev rv hi, ?_⟩), rfl, q _ _ (I3.hok.fresh (Nat.le_refl _)) rfl⟩
  rw [Array.toArray_toList]
  exact PyProof.Rows.IsTup.new _ _
end
section
variable {K : FK} {δ : AE} {ta tb te : TE} {t : TA} {d : PD}
theorem ev_unb {ds : List PD} (h : Evd K te δ (.btup ds)) : Evd K te δ (.tup ds) := fun B G H σ R Q q => h B G H σ R Q fun v G' H' R' s r => by
  cases r with
  | btup h1 h2 h3 => exact q _ G' H' R' s (.tup (frz_sqT h1) h3)
theorem ev_tupZ {ds : List PD} (h : Evs K t δ ds) (hz : ds.length ≤ 1000) : Evd K (tTupZ t) δ (.btup ds) := fun B G H σ R Q q => h B G H σ R _ fun vs G1 H1 R1 s rs =>
  ⟨Nat.le_trans (by rw [rs.length]; exact hz) (by decide), fun p o hp ho => q _ _ _ (R1.laid hp) (s.laid hp) (.btup upd_same ho (rs.mono (same_new (fresh_back R1.gh hp))))⟩
theorem ev_slZ {ds : List PD} {tl th : TO} {lo hi : Option Int} (ha : Evd K ta δ (.btup ds)) (h1 : Evop K tl δ lo) (h2 : Evop K th δ hi) : Evd K (tSl rSlZ ta tl th) δ (.btup (cutD ds lo hi)) := fun B G H σ R Q q =>
  ha B G H σ R _ fun x G1 H1 R1 s1 rx => h1 B G1 H1 σ R1 _ fun G2 H2 R2 s2 => h2 B G2 H2 σ R2 _ fun G3 H3 R3 s3 => by
    cases rx with
    | @btup p vs _ o hp ho rs =>
    have hp3 : G3 p = some (.frz o (.tup vs)) := s3.eg _ _ (s2.eg _ _ hp)
    have rs3 := (rs.mono s2.eg).mono s3.eg
    refine ⟨p, o, vs, rfl, R3.gh _ _ hp3, fun hw => ?_, fun _ q0 o' hq ho' => ?_⟩
    · rw [rs.length] at hw
      have e : cutD ds lo hi = ds := cutD_whole hw
      exact q (.ref p) G3 H3 R3 ((s1.trans s2).trans s3) (by rw [e]; exact .btup hp3 ho rs3)
    · exact q (.ref q0) _ _ (R3.laid hq) (((s1.trans s2).trans s3).laid hq) (.btup upd_same ho' ((rs3.cut lo hi).mono (same_new (fresh_back R3.gh hq))))
theorem ev_catZ {xs ys : List PD} (ha : Evd K ta δ (.btup xs)) (hb : Evd K tb δ (.btup ys)) (hz : xs.length + ys.length ≤ 100000) : Evd K (tOp rCatZ ta tb) δ (.btup (xs ++ ys)) := ev_op ha hb fun B G H σ x y R rx ry Q q => by
  cases rx with
  | @btup p vs _ o hp ho rs =>
  cases ry with
  | @btup p2 us _ o2 hp2 ho2 rs2 =>
  refine ⟨p, p2, o, o2, vs, us, rfl, rfl, R.gh _ _ hp, R.gh _ _ hp2, Nat.le_trans (by rw [rs.length, rs2.length]; exact hz) (by decide), fun e => ?_, fun _ e => ?_, fun _ _ l o' hl ho' => ?_⟩
  · subst e
    cases rs
    exact q _ G H R (Step.refl R.gh) (.btup hp2 ho2 rs2)
  · subst e
    cases rs2
    rw [List.append_nil] at q
    exact q _ G H R (Step.refl R.gh) (.btup hp ho rs)
  · exact q _ _ _ (R.laid hl) ((Step.refl R.gh).laid hl) (.btup upd_same ho' ((rs.append rs2).mono (same_new (fresh_back R.gh hl))))
end
end Fw
/-! equality of nested lists, tuples and dicts -/
namespace PySem.SeqAt
open AutoSeq1 (wpAny_loadPart')
open MeetsSeq MeetsSeq2 MeetsSeq3 SeqRoads2
variable {prog : Program} {w : World}
theorem tup_neIn (p q : Addr) (xs ys : Array Value) (n m : Nat) (d1 d2 : Option Addr) (s1 s2 : Array (Option Value)) (hl : xs.size = ys.size) :
    MeetsIn prog w (Builtin.«tuple.__ne__» ⟨[.ref p, .ref q], []⟩) (fun A R s => s.heap.get? p = some { cls := .type "tuple", dict := d1, data := .seq xs n, slots := s1 } ∧ s.heap.get? q = some { cls := .type "tuple", dict := d2, data := .seq ys m, slots := s2 } ∧
      (∀ j (h1 : j < xs.size) (h2 : j < ys.size), EqIn prog w A.in1 s xs[j] ys[j] true) ∧ R (.ok (.ret (.bool false))) s) :=
  .of_wp fun A R s h => by
    obtain ⟨hp, g, dd, tk, os⟩ := s; obtain ⟨h1, h2, he, h⟩ := h
    have sb := AutoSeq1.sub_tuple_tuple
    have hZ : (xs.toList.zip ys.toList).length = xs.size := by simp [hl]
    wp_walk using wpAny_loadPart' h1, wpAny_loadPart' h2, wpAny_forIn_list _ (fun rest b z => b.1 = none ∧ z = ⟨hp, g, dd, tk, os⟩ ∧ ∃ i, rest = (xs.toList.zip ys.toList).drop i) _
    case turn =>
      rintro ⟨y, x⟩ rest b z ⟨hb, rfl, i, hz⟩
      have lt : i < (xs.toList.zip ys.toList).length := by
        rcases Nat.lt_or_ge i (xs.toList.zip ys.toList).length with c | c; exact c; rw [List.drop_of_length_le c] at hz; cases hz
      have k1 : i < xs.size := hZ ▸ lt
      have k2 : i < ys.size := hl ▸ k1
      rw [List.drop_eq_getElem_cons lt] at hz; injection hz with ey er
      have e1 : y = xs[i] := by have := congrArg Prod.fst ey; simpa using this
      have e2 : x = ys[i] := by have := congrArg Prod.snd ey; simpa using this
      subst e1 e2
      refine wpAny_bind (he i k1 k2 _ _ ?_)
      wp_walk
      exact ⟨rfl, rfl, i + 1, er⟩
    case fin =>
      rintro ⟨b1, b2⟩ z ⟨hb, rfl, i, hz⟩
      simp only at hb; subst hb
      wp_walk
      exact ⟨_, rfl, by simpa [Builtin.Tuple.tupleCompareSizes, bne, hl] using h⟩
    case h => exact ⟨rfl, rfl, 0, rfl⟩
theorem rc_tup_ne {A : Around} {s : Shared} {E : Value → Shared → Prop} {p q : Addr} {xs ys : Array Value} {Q : Value → Shared → Prop} (h1 : s.heap.IsTuple p xs) (h2 : s.heap.IsTuple q ys) (hl : xs.size = ys.size) (hu : A.units < cLine)
    (he : ∀ j (h1 : j < xs.size) (h2 : j < ys.size), EqIn prog w A.in1 s xs[j] ys[j] true) (h : Q (.bool false) s) : wpAny (model prog w) A (richCompare .NotEq (.ref p) (.ref q)) Q E s := by
  obtain ⟨⟨c1, d1, e1, s1⟩, o1, hc1, n, hd1⟩ := id h1
  obtain ⟨⟨c2, d2, e2, s2⟩, o2, hc2, m, hd2⟩ := id h2
  simp only at hc1 hd1 hc2 hd2; subst hc1 hd1 hc2 hd2
  exact wpAny_richCompare_same_room (T := "tuple") (op := .NotEq) ⟨_, o1, rfl⟩ ⟨_, o2, rfl⟩ F.slot_tuple_ne (call_meetsIn F.slot_tuple_ne ⟨_, o1, rfl⟩ F.entry_tuple_ne (F.args_tuple_ne_2 _ _) (tup_neIn p q xs ys n m d1 d2 s1 s2 hl)
    ⟨o1, o2, he, show Value.bool false ≠ Value.notImplemented ∧ Q (.bool false) s from ⟨(fun x => nomatch x), h⟩⟩) hu
end PySem.SeqAt
namespace Fw
open PySem PySem.Spec L2
/-- equal, of nesting below n -/
def EqW (K : PySem.W.Frag) (H : Hp) : Nat → V → V → Prop
  | 0 => fun _ _ => False
  | n + 1 => fun x y => (x = y ∧ flatB x = true) ∨ (∃ a b xs ys, x = .ref a ∧ y = .ref b ∧ SqL K H a xs ∧ SqL K H b ys ∧ Paired (EqW K H n) xs ys) ∨ (∃ a b xs ys, x = .ref a ∧ y = .ref b ∧ SqT K H a xs ∧ SqT K H b ys ∧ Paired (EqW K H n) xs ys) ∨
    ∃ a b ks ls, x = .ref a ∧ y = .ref b ∧ H a = some (.dK ks) ∧ H b = some (.dK ls) ∧ ks.length = ls.length ∧ ∀ p ∈ ks, ∃ u, valV ls p.1 = some u ∧ EqW K H n p.2 u
section
variable {X : Cx} {pins : List (Addr × Obj)} {σ : L2.St} {H : Hp} {s : Shared}
theorem pair_at {F : V → V → Prop} {xs ys : List V} (hp : Paired F xs ys) : ∀ {us ws : List Value}, Vals xs us → Vals ys ws → ∀ (j : Nat) (h1 : j < us.length) (h2 : j < ws.length), ∃ x y, F x y ∧ RelV x us[j] ∧ RelV y ws[j] := by
  induction hp with
  | nil => intro us ws r1 r2 j h1 h2; cases r1; exact absurd h1 (Nat.not_lt_zero j)
  | cons h _ k =>
    intro us ws r1 r2 j h1 h2
    cases r1 with
    | cons a1 b1 => cases r2 with
      | cons a2 b2 => cases j with
        | zero => exact ⟨_, _, h, a1, a2⟩
        | succ j => exact k b1 b2 j (Nat.lt_of_succ_lt_succ h1) (Nat.lt_of_succ_lt_succ h2)
theorem all_yes (n : Nat) : ((List.range n).all fun _ => true) = true := List.all_eq_true.mpr fun _ _ => rfl
theorem vals_size {xs ys : List V} {us ws : List Value} {F : V → V → Prop} (hp : Paired F xs ys) (r1 : Vals xs us) (r2 : Vals ys ws) : us.toArray.size = ws.toArray.size := by
  rw [List.size_toArray, List.size_toArray, ← r1.length, ← r2.length]; exact Paired.length hp
theorem kv_val {ks : List (Key × V)} {va : List (Key × Value)} (r : KV ks va) {k : Key} {v : Value} (h : (k, v) ∈ va) : ∃ x, (k, x) ∈ ks ∧ RelV x v := by
  unfold KV at r
  induction r with
  | nil => cases h
  | @cons p q ps qs h0 t ih =>
    rcases List.mem_cons.mp h with e | h'
    · subst e; exact ⟨p.2, by obtain ⟨e1, _⟩ := h0; have e1' : p.1 = k := e1; rw [← e1']; exact List.mem_cons_self, h0.2⟩
    · obtain ⟨x, hx, rx⟩ := ih h'; exact ⟨x, List.mem_cons_of_mem _ hx, rx⟩
theorem eqW_tree (I : L2.Inv X pins σ H s) : ∀ (n : Nat) (x y : V) (v u : Value), EqW X.K H n x y → RelV x v → RelV y u → PySem.W.EqTree X.prog X.w s n v u true
  | 0, _, _, _, _, h, _, _ => h.elim
  | n + 1, x, y, v, u, h, rx, ry => by
    rcases h with ⟨rfl, f⟩ | ⟨a, b, xs, ys, rfl, rfl, ha, hb, hp⟩ | ⟨a, b, xs, ys, rfl, rfl, ha, hb, hp⟩ | ⟨a, b, ks, ls, rfl, rfl, ha, hb, hl, hp⟩
    · exact .leaf fun A _ => eqAt_same rx ry f
    · cases (show v = Value.ref a from rx); cases (show u = Value.ref b from ry)
      by_cases e : a = b
      · subst e; exact .same
      obtain ⟨us, r1, p1, _⟩ := I.list ha
      obtain ⟨ws, r2, p2, _⟩ := I.list hb
      have t := PySem.W.EqTree.lists (prog := X.prog) (w := X.w) (n := n) (e := fun _ => true) e p1.isList p2.isList (vals_size hp r1 r2) fun j h1 h2 => by
        obtain ⟨x, y, f, k1, k2⟩ := pair_at hp r1 r2 j (by simpa using h1) (by simpa using h2)
        exact eqW_tree I n x y _ _ f (by simpa using k1) (by simpa using k2)
      rw [all_yes] at t; exact t
    · cases (show v = Value.ref a from rx); cases (show u = Value.ref b from ry)
      by_cases e : a = b
      · subst e; exact .same
      obtain ⟨us, r1, p1, _⟩ := I.tuple ha
      obtain ⟨ws, r2, p2, _⟩ := I.tuple hb
      have t := PySem.W.EqTree.tuples (prog := X.prog) (w := X.w) (n := n) (e := fun _ => true) e p1 p2 fun j h1 h2 => by
        obtain ⟨x, y, f, k1, k2⟩ := pair_at hp r1 r2 j (by simpa using h1) (by simpa using h2)
        exact eqW_tree I n x y _ _ f (by simpa using k1) (by simpa using k2)
      rw [all_yes, vals_size hp r1 r2, Bool.true_and, beq_self_eq_true] at t; exact t
    · cases (show v = Value.ref a from rx); cases (show u = Value.ref b from ry)
      by_cases e : a = b
      · subst e; exact .same
      obtain ⟨_, ya, va, ra, da⟩ := (show ObjOk X.prog X.w H s.heap a (.dK ks) from I.hok a _ ha)
      obtain ⟨_, yb, vb, rb, db⟩ := (show ObjOk X.prog X.w H s.heap b (.dK ls) from I.hok b _ hb)
      have t := PySem.W.EqTree.dicts (prog := X.prog) (w := X.w) (n := n) (e := fun _ => true) e ya yb da db fun k v y hm hv => by
        obtain ⟨x, hx, rx⟩ := kv_val ra hm
        obtain ⟨u, eu, f⟩ := hp _ hx
        have rr : RelO (some u) (valueAt vb k) := by rw [← eu]; exact rb.val k
        rw [hv] at rr
        exact eqW_tree I n x u _ _ f rx rr
      have lb : (va.length == vb.length) = true := by
        have e1 : va.length = vb.length := by rw [← ra.length, ← rb.length]; exact hl
        rw [e1, beq_self_eq_true]
      have al : (va.all fun p => (valueAt vb p.1).isSome && true) = true := by
        rw [List.all_eq_true]
        intro p hp'
        obtain ⟨x, hx, _⟩ := kv_val ra (k := p.1) (v := p.2) hp'
        obtain ⟨u, eu, _⟩ := hp _ hx
        have rr : RelO (some u) (valueAt vb p.1) := by rw [← eu]; exact rb.val p.1
        obtain ⟨y, hy, _⟩ := rr.some_of
        rw [hy]; rfl
      rw [lb, al] at t; exact t
end
section
variable {X : Cx}
/-- a == b, equal ones -/
def rEqW (K : PySem.W.Frag) : R2 := fun x y H Q => ∃ n a b, n ≤ 60 ∧ x = .ref a ∧ y = .ref b ∧ EqW K H (n + 1) x y ∧ Q (.bl true) H
theorem op_eqW (hu : X.A.units + 64 < cLine) : OpR X (compareOp .Eq) (rEqW X.K) := by
  intro pins s σ H x y v u Q I rx ry h
  obtain ⟨n, p, q, hn, ex, ey, h, hq⟩ := h
  rcases h with ⟨rfl, f⟩ | ⟨a, b, xs, ys, rfl, rfl, ha, hb, hp⟩ | ⟨a, b, xs, ys, rfl, rfl, ha, hb, hp⟩ | ⟨a, b, ks, ls, rfl, rfl, ha, hb, hl, hp⟩
  · subst ex; cases f
  · cases (show v = Value.ref a from rx); cases (show u = Value.ref b from ry)
    obtain ⟨us, r1, p1, _⟩ := I.list ha
    obtain ⟨ws, r2, p2, _⟩ := I.list hb
    refine PySem.W.eq_listsT (n := n) (e := fun _ => true) p1.isList p2.isList (vals_size hp r1 r2) (fun j h1 h2 => ?_) (by omega) ?_
    · obtain ⟨x, y, f, k1, k2⟩ := pair_at hp r1 r2 j (by simpa using h1) (by simpa using h2)
      exact eqW_tree I n x y _ _ f (by simpa using k1) (by simpa using k2)
    · rw [all_yes]; exact ⟨.bl true, H, I, rfl, hq⟩
  · cases (show v = Value.ref a from rx); cases (show u = Value.ref b from ry)
    obtain ⟨us, r1, p1, _⟩ := I.tuple ha
    obtain ⟨ws, r2, p2, _⟩ := I.tuple hb
    refine PySem.W.eq_tuplesT (n := n) (e := fun _ => true) p1 p2 (fun j h1 h2 => ?_) (by omega) ?_
    · obtain ⟨x, y, f, k1, k2⟩ := pair_at hp r1 r2 j (by simpa using h1) (by simpa using h2)
      exact eqW_tree I n x y _ _ f (by simpa using k1) (by simpa using k2)
    · rw [all_yes, vals_size hp r1 r2, Bool.true_and, beq_self_eq_true]; exact ⟨.bl true, H, I, rfl, hq⟩
  · cases (show v = Value.ref a from rx); cases (show u = Value.ref b from ry)
    obtain ⟨_, ya, va, ra, da⟩ := (show ObjOk X.prog X.w H s.heap a (.dK ks) from I.hok a _ ha)
    obtain ⟨_, yb, vb, rb, db⟩ := (show ObjOk X.prog X.w H s.heap b (.dK ls) from I.hok b _ hb)
    refine PySem.W.eq_dictsT (n := n) (e := fun _ => true) ya yb da db (fun k v y hm hv => ?_) (by omega) ?_
    · obtain ⟨x, hx, rx⟩ := kv_val ra hm
      obtain ⟨u, eu, f⟩ := hp _ hx
      have rr : RelO (some u) (valueAt vb k) := by rw [← eu]; exact rb.val k
      rw [hv] at rr
      exact eqW_tree I n x u _ _ f rx rr
    · have lb : (va.length == vb.length) = true := by
        have e1 : va.length = vb.length := by rw [← ra.length, ← rb.length]; exact hl
        rw [e1, beq_self_eq_true]
      have al : (va.all fun p => (valueAt vb p.1).isSome && true) = true := by
        rw [List.all_eq_true]
        intro p hp'
        obtain ⟨x, hx, _⟩ := kv_val ra (k := p.1) (v := p.2) hp'
        obtain ⟨u, eu, _⟩ := hp _ hx
        have rr : RelO (some u) (valueAt vb p.1) := by rw [← eu]; exact rb.val p.1
        obtain ⟨y, hy, _⟩ := rr.some_of
        rw [hy]; rfl
      rw [lb, al]; exact ⟨.bl true, H, I, rfl, hq⟩
/-- a != b of two tuples that are equal -/
def rNeW (K : PySem.W.Frag) : R2 := fun x y H Q => ∃ n a b xs ys, n ≤ 60 ∧ x = .ref a ∧ y = .ref b ∧ SqT K H a xs ∧ SqT K H b ys ∧ Paired (EqW K H n) xs ys ∧ Q (.bl false) H
theorem op_neW (hu : X.A.units + 64 < cLine) : OpR X (compareOp .NotEq) (rNeW X.K) := by
  intro pins s σ H x y v u Q I rx ry h
  obtain ⟨n, a, b, xs, ys, hn, rfl, rfl, ha, hb, hp, hq⟩ := h
  cases (show v = Value.ref a from rx); cases (show u = Value.ref b from ry)
  obtain ⟨us, r1, p1, _⟩ := I.tuple ha
  obtain ⟨ws, r2, p2, _⟩ := I.tuple hb
  refine PySem.SeqAt.rc_tup_ne p1 p2 (vals_size hp r1 r2) (by omega) (fun j h1 h2 => ?_) ⟨.bl false, H, I, rfl, hq⟩
  obtain ⟨x, y, f, k1, k2⟩ := pair_at hp r1 r2 j (by simpa using h1) (by simpa using h2)
  exact (eqW_tree I n x y us.toArray[j] ws.toArray[j] f (by simpa using k1) (by simpa using k2)).at _ (by show X.A.units + 1 + n < cLine; omega)
end
end Fw
/-! {**a, **b}; x = {k: v for ..} -/
namespace Fx4
open PySem
section
variable {prog : Program} {w : World} {K : Type} [DecidableEq K] {knd : KeyKind prog w K} {A : Around} {E : Value → Shared → Prop} {s : Shared}
theorem put1 {d : Addr} {kvs : List (K × Value)} {k : K} {key v : Value} {Q : Unit → Shared → Prop} (hk0 : knd.is k key = true) (hm : s.heap.DictOf knd d kvs) (hQ : ∀ z, z.DictOf knd d (stored kvs k v) → Heap.SameBut d s.heap z → Q () { s with heap := z }) (hsz : kvs.length ≤ sizeLine) :
    wpAny (model prog w) A (dictPut d (knd.hash k) key v) Q E s := by
  obtain ⟨o, es, ep, ho, hc, hd, hk, hp, hn⟩ := hm
  have hes : es.size ≤ sizeLine := by have e1 := hp.length; have e2 : es.toList.length = es.size := by simp
                                      omega
  unfold dictPut; refine wpAny_bind (wpAny_dictFind_of hk0 ho hd hk ?_)
  have hx : (es.findIdx? fun e => knd.is k e.key) = kvs.findIdx? fun kv => decide (kv.1 = k) := by rw [← hp.findIdx k]; obtain ⟨l⟩ := es; simp
  cases hi : es.findIdx? fun e => knd.is k e.key with
  | some i =>
    refine wpAny_updateDict ho hd (hQ _ ⟨_, _, ep, Heap.get?_update_self _ ho (Obj.isFreed_of_dict (Obj.data_mapDict hd _)), hc.mapDict _, Obj.data_mapDict hd _, hk.modify _ _, ?_, ?_⟩ (Heap.SameBut.update ..))
    · rw [stored, if_pos (any_of_findIdx_some (hx ▸ hi))]
      have hl : (es.toList.findIdx? fun e => knd.is k e.key) = some i := by rw [← hi]; obtain ⟨l⟩ := es; simp
      have := hp.modify hn hl v; obtain ⟨l⟩ := es; simpa using this
    · rw [stored, if_pos (any_of_findIdx_some (hx ▸ hi)), keys_map_store]; exact hn
  | none =>
    have no : k ∉ kvs.map (·.1) := not_mem_of_findIdx_none (hx ▸ hi)
    have na : ¬ (kvs.any fun kv => decide (kv.1 = k)) = true := by rw [List.any_eq_true]; rintro ⟨kv, h1, h2⟩; exact no (List.mem_map.mpr ⟨kv, h1, of_decide_eq_true h2⟩)
    refine wpAny_updateDictKeys (hz := hes) ho hd (hQ _ ⟨_, _, ep + 1, Heap.get?_update_self _ ho (Obj.isFreed_of_dict (Obj.data_mapDictKeys hd _)), hc.mapDictKeys _, Obj.data_mapDictKeys hd _, hk.push hk0 _, ?_, ?_⟩ (Heap.SameBut.update ..))
    · rw [stored, if_neg na]; have := hp.append hk0 (knd.hash k) v; obtain ⟨l⟩ := es; simpa using this
    · rw [stored, if_neg na, List.map_append, List.nodup_append]
      exact ⟨hn, by simp, fun a ha b hb => by simp only [List.map_cons, List.map_nil, List.mem_singleton] at hb; subst hb; exact fun e => no (e ▸ ha)⟩
theorem merge1 {d o : Addr} {kvs more : List (K × Value)} {Q : Unit → Shared → Prop} (hdo : d ≠ o) (hoS : (o == sysModules) = false) (hd : s.heap.DictOf knd d kvs) (ho : s.heap.DictOf knd o more) (nr : ∀ k v, knd.is k v = true → ∀ b, v ≠ .ref b)
    (hQ : ∀ z, z.DictOf knd d (merged kvs more) → z.DictOf knd o more → Heap.SameBut d s.heap z → Q () { s with heap := z }) (hsz : kvs.length + more.length ≤ sizeLine) : wpAny (model prog w) A (mergeMapping d (.ref o) false) Q E s := by
  obtain ⟨od, esd, epd, hod, hcd, hdd, hkd, hpd, hnd⟩ := id hd
  obtain ⟨oo, eso, epo, hoo, hco, hdo', hko, hpo, hno⟩ := id ho
  have hlen : more.length = eso.size := by rw [← hpo.length]; simp
  unfold mergeMapping
  refine wpAny_bind (wpAny_isInstance ho.typeIs isSubtype_dict_dict ?_)
  rw [if_pos rfl]
  refine wpAny_bind (wpAny_specialOf ho.typeIs F.slot_dict_iter.lookup ?_)
  refine wpAny_bind (wpAny_pure ?_)
  rw [show (some (Value.builtin "dict.__iter__") == some (Value.builtin "dict.__iter__")) = true from by decide]
  show wpAny _ _ (if (o == sysModules) = true then _ else _) _ _ _
  rw [if_neg (by rw [hoS]; exact Bool.false_ne_true)]
  refine wpAny_bind (wpAny_dictEntries hod hdd ?_)
  have loop : wpAny (model prog w) A (do
      let l ← dictEntries o
      let ep ← dictEpoch o
      forIn (List.range l.size) PUnit.unit fun i (_ : PUnit) => (do
          let l' ← dictEntries o
          match l'[i]? with
            | some e => do
              holding [e.key, e.val] (dictPut d e.hash e.key e.val)
              let ep' ← dictEpoch o
              if (ep' != ep) = true then do
                  (unsupported "dict.changed-during-merge" : Sem PUnit)
                  pure (ForInStep.yield PUnit.unit)
                else pure (ForInStep.yield PUnit.unit)
            | _ => do
              (unsupported "dict.changed-during-merge" : Sem PUnit)
              pure (ForInStep.yield PUnit.unit) : Sem (ForInStep PUnit))
      pure ()) Q E s := by
    refine wpAny_bind (wpAny_dictEntries hoo hdo' (wpAny_bind (wpAny_dictEpoch hoo hdo' (wpAny_bind ?_))))
    refine wpAny_forIn_list _ (fun rest _ z => ∃ h i, z = { s with heap := h } ∧ rest = List.range' i (eso.size - i) ∧ i ≤ eso.size ∧ h.DictOf knd d (merged kvs (more.take i)) ∧ h.get? o = some oo ∧ Heap.SameBut d s.heap h) _ ?_ ?_ _ _ ⟨s.heap, 0, rfl, by rw [List.range_eq_range']; rfl, Nat.zero_le _, by simpa [merged] using hd, hoo, Heap.SameBut.refl _ _⟩
    · rintro x rest b z ⟨h, i, rfl, hr, hi, hd1, ho1, hs1⟩
      have lt : i < eso.size := by
        rcases Nat.lt_or_ge i eso.size with c | c; exact c; rw [Nat.sub_eq_zero_of_le c] at hr; simp at hr
      obtain ⟨rfl, er⟩ : x = i ∧ rest = List.range' (i + 1) (eso.size - (i + 1)) := by
        have e : eso.size - i = (eso.size - (i + 1)) + 1 := by omega
        rw [e, List.range'_succ] at hr; injection hr with a1 a2; exact ⟨a1, a2⟩
      refine wpAny_bind (wpAny_dictEntries ho1 hdo' ?_); rw [Array.getElem?_eq_getElem lt]
      obtain ⟨⟨k, v⟩, hkv⟩ : ∃ kv, more[x]? = some kv := ⟨more[x]'(by rw [hlen]; exact lt), List.getElem?_eq_getElem _⟩
      obtain ⟨hkey, hval⟩ := hpo.get? (e := eso[x]) (by simp [lt]) hkv
      obtain ⟨k', hk', hh⟩ := hko eso[x] (Array.getElem_mem lt)
      obtain rfl : k' = k := knd.inj _ _ _ hk' hkey
      have hm : (merged kvs (more.take x)).length ≤ sizeLine := by
        have e1 := merged_length_le kvs (more.take x); have e2 : (more.take x).length ≤ more.length := by rw [List.length_take]; omega
        omega
      show wpAny _ _ (holding [eso[x].key, eso[x].val] (dictPut d eso[x].hash eso[x].key eso[x].val) >>= _) _ _ _
      rw [hh, hval]
      refine wpAny_bind (wpAny_holding (put1 hkey hd1 (fun z hz hs => ?_) hm))
      have ho2 : z.get? o = some oo := (hs.2 o (Ne.symm hdo)).trans ho1
      refine wpAny_bind (wpAny_dictEpoch ho2 hdo' ?_); rw [if_neg (by simp)]
      exact wpAny_pure ⟨z, x + 1, rfl, er, lt, by rw [merged_take_succ kvs more x (k', v) hkv]; exact hz, ho2, hs1.trans hs⟩
    · rintro b z ⟨h, i, rfl, hr, hi, hd1, ho1, hs1⟩
      have e : i = eso.size := by
        rcases Nat.lt_or_ge i eso.size with c | c
        · have e : eso.size - i = (eso.size - (i + 1)) + 1 := by omega
          rw [e, List.range'_succ] at hr; exact nomatch hr
        · omega
      rw [e, ← hlen, List.take_length] at hd1
      exact wpAny_pure (hQ h hd1 ⟨oo, eso, epo, ho1, hco, hdo', hko, hpo, hno⟩ hs1)
  by_cases hem : esd.isEmpty = true
  · rw [if_pos hem]
    refine wpAny_bind (wpAny_dictEntries hoo hdo' (wpAny_bind ?_))
    rw [← Array.forIn_toList]
    refine wpAny_forIn_list _ (fun rest _ z => z = s ∧ ∀ e ∈ rest, e ∈ eso.toList) _ ?_ ?_ _ _ ⟨rfl, fun e he => he⟩
    · rintro x rest b z ⟨rfl, hr⟩
      obtain ⟨k', hk', _⟩ := hko x (by simpa using hr x List.mem_cons_self)
      have n := nr _ _ hk'
      split
      · rename_i a e; exact absurd e (n a)
      · exact wpAny_pure ⟨rfl, fun e he => hr e (List.mem_cons_of_mem _ he)⟩
    · rintro b z ⟨rfl, _⟩
      exact loop
  · rw [if_neg hem]
    exact loop
theorem star2 {ta tb : Sem Value} {Q : Value → Shared → Prop} (h : wpAny (model prog w) A ta (fun v s1 => s1.heap.DictOf knd s.heap.objs.size [] ∧ ∃ a more, v = .ref a ∧ a ≠ s.heap.objs.size ∧ (a == sysModules) = false ∧ (s.heap.objs.size == sysModules) = false ∧ s1.heap.DictOf knd a more ∧ more.length ≤ sizeLine ∧ (∀ k v, knd.is k v = true → ∀ b, v ≠ .ref b) ∧
      ∀ z, z.DictOf knd s.heap.objs.size (merged [] more) → Heap.SameBut s.heap.objs.size s1.heap z → wpAny (model prog w) A tb (fun u s2 => ∃ kvs2, s2.heap.DictOf knd s.heap.objs.size kvs2 ∧ ∃ b more2, u = .ref b ∧ b ≠ s.heap.objs.size ∧ (b == sysModules) = false ∧ s2.heap.DictOf knd b more2 ∧ kvs2.length + more2.length ≤ sizeLine ∧
        ∀ z, z.DictOf knd s.heap.objs.size (merged kvs2 more2) → Heap.SameBut s.heap.objs.size s2.heap z → Q (.ref s.heap.objs.size) { s2 with heap := z }) E { s1 with heap := z }) E { s with heap := s.heap.push { cls := .type "dict", data := .dict #[] } }) :
    wpAny (model prog w) A (dictDisplay [(none, ta), (none, tb)]) Q E s := by
  unfold dictDisplay
  simp only [List.forIn_cons, List.forIn_nil]
  have mg : ∀ {b : Addr} {more kvs : List (K × Value)} {s1 : Shared} {R : Unit → Shared → Prop} {F : Value → Sem Unit} {G1 G2 : Value → Sem Unit}, b ≠ s.heap.objs.size → (b == sysModules) = false → s1.heap.DictOf knd s.heap.objs.size kvs → s1.heap.DictOf knd b more → (∀ k v, knd.is k v = true → ∀ b, v ≠ .ref b) → kvs.length + more.length ≤ sizeLine →
      (∀ z, z.DictOf knd s.heap.objs.size (merged kvs more) → Heap.SameBut s.heap.objs.size s1.heap z → R () { s1 with heap := z }) →
      wpAny (model prog w) A ((((holding [Value.ref s.heap.objs.size, .ref b] (mergeMapping s.heap.objs.size (.ref b) false)).onRaise G1).tryCatch F).onRaise G2) R E s1 := fun h1 h2 h3 h4 h5 h6 h7 =>
    wpAny_onRaise (wpAny_tryCatch (wpAny_onRaise (wpAny_holding (merge1 (Ne.symm h1) h2 h3 h4 h5 (fun z a _ b => h7 z a b) h6))))
  refine wpAny_bind (wpAny_bind (wpAny_bind (wpAny_pure ?_)))
  refine wpAny_bind (wpAny_alloc' (wpAny_bind (wpAny_holding (wpAny_mono h (fun v s1 hv => ?_) fun _ _ e => e))))
  obtain ⟨h0, a, more, rfl, na, ya, ys, ha, hl, nr, hz⟩ := hv
  refine wpAny_bind (mg na ya h0 ha nr (by simpa using hl) fun z hz1 hz2 => wpAny_pure ?_)
  refine wpAny_bind (wpAny_bind (wpAny_pure ?_))
  refine wpAny_bind (wpAny_pure (wpAny_bind (wpAny_holding (wpAny_mono (hz z hz1 hz2) (fun u s2 hu => ?_) fun _ _ e => e))))
  obtain ⟨kvs2, k0, b, more2, rfl, nb, yb, hb, hl2, hz3⟩ := hu
  refine wpAny_bind (mg nb yb k0 hb nr hl2 fun z hz4 hz5 => wpAny_pure ?_)
  refine wpAny_pure ?_
  refine wpAny_bind (wpAny_pure (wpAny_pure ?_))
  exact hz3 z hz4 hz5
end
end Fx4
namespace Fw
open PySem PySem.Spec L2
/-- {**a, **b} -/
def tStar2 (ta tb : TE) : TE := fun σ H Q => ∀ p, H p = none → ta σ (upd H p (.dK [])) fun x H1 => H1 p = some (.dK []) ∧ ∃ a more, x = .ref a ∧ a ≠ p ∧ H1 a = some (.dK more) ∧
  tb σ (upd H1 p (.dK (mergeK [] more))) fun y H2 => H2 p = some (.dK (mergeK [] more)) ∧ ∃ b more2, y = .ref b ∧ b ≠ p ∧ H2 b = some (.dK more2) ∧ more.length + more2.length ≤ sizeLine ∧ Q (.ref p) (upd H2 p (.dK (mergeK (mergeK [] more) more2)))
section
variable {X : Cx} {a b : Expr} {ta tb : TE} {pos : Pos}
theorem mix_noref {P : Program} {w : World} (k : Key) (v : Value) (h : (mixKind P w).is k v = true) (b : Addr) : v ≠ .ref b := by
  rcases keyIs_shape h with ⟨i, t, rfl, rfl⟩ | ⟨x, t, rfl, rfl⟩ <;> exact fun z => nomatch z
theorem pe_star2 (ha : PE X a ta) (hb : PE X b tb) : PE X (.Dict [none, none] [a, b] pos) (tStar2 ta tb) := by
  refine ⟨fun pins s σ H Q I q => ?_⟩
  have hn := I.hok.fresh (Nat.le_refl s.heap.objs.size)
  have I1 := I.laid (a := s.heap.objs.size) (o := .dK []) (h' := s.heap.push { cls := .type "dict", data := .dict #[] }) (t' := s.toks) (fun _ _ q => Heap.get?_push_of_some _ q) (Nat.le_refl _) (dk_empty s.heap I.big)
  have ys : (s.heap.objs.size == sysModules) = false := beq_eq_false_iff_ne.mpr (Nat.ne_of_gt I.big)
  rw [arm_eval_Dict]
  refine wpAny_bind (wpAny_standAt ?_)
  show wpAny _ _ (dictDisplay [(none, do let x ← eval a X.env; standAt pos; pure x), (none, do let x ← eval b X.env; standAt pos; pure x)]) _ _ s
  refine Fx4.star2 (knd := mixKind X.prog X.w) (wpAny_bind (thn (ha.run pins _ σ _ _ I1 (q _ hn)) fun v s1 ⟨x, H1, I2, rx, hp, p, more, ex, np, hpm, q2⟩ => wpAny_bind (wpAny_standAt (wpAny_pure ?_))))
  subst ex
  obtain rfl : v = Value.ref p := rx
  obtain ⟨z0, y0, vs0, r0, d0⟩ := dk_of I2.hok hp
  cases r0
  obtain ⟨zm, ym, vm, rm, dm⟩ := dk_of I2.hok hpm
  refine ⟨d0, p, vm, rfl, np, ym, ys, dm, by rw [← rm.length]; exact zm, mix_noref, fun z hz hs => ?_⟩
  have lz : (mergeK [] more).length ≤ sizeLine := by have := length_mergeK more []; rw [List.length_nil, Nat.zero_add] at this; omega
  have he : ∃ q, z.get? s.heap.objs.size = some q := let ⟨q, _, _, hq, _⟩ := hz; ⟨q, hq⟩
  have I3 := d_write (t' := s1.toks) I2 (a := s.heap.objs.size) (ob := .dK (mergeK [] more)) (by rw [hp]; exact True.intro) hs he (dk_new lz ys (rm.merge .nil) hz)
  refine wpAny_bind (thn (hb.run pins _ σ _ _ I3 q2) fun v s2 ⟨y, H2, I4, ry, hp2, p2, more2, ey, np2, hpm2, lz2, q3⟩ => wpAny_bind (wpAny_standAt (wpAny_pure ?_)))
  subst ey
  obtain rfl : v = Value.ref p2 := ry
  obtain ⟨_, _, vs1, r1, d1⟩ := dk_of I4.hok hp2
  obtain ⟨zm2, ym2, vm2, rm2, dm2⟩ := dk_of I4.hok hpm2
  refine ⟨vs1, d1, p2, vm2, rfl, np2, ym2, dm2, ?_, fun z hz hs => ?_⟩
  · rw [← r1.length, ← rm2.length]
    have := length_mergeK more []; rw [List.length_nil, Nat.zero_add] at this; omega
  · have lz3 : (mergeK (mergeK [] more) more2).length ≤ sizeLine := by
      have h1 := length_mergeK more []; rw [List.length_nil, Nat.zero_add] at h1
      have h2 := length_mergeK more2 (mergeK [] more); omega
    have he2 : ∃ q, z.get? s.heap.objs.size = some q := let ⟨q, _, _, hq, _⟩ := hz; ⟨q, hq⟩
    exact ⟨.ref s.heap.objs.size, _, d_write (t' := s2.toks) I4 (a := s.heap.objs.size) (ob := .dK (mergeK (mergeK [] more) more2)) (by rw [hp2]; exact True.intro) hs he2 (dk_new lz3 ys (rm2.merge r1) hz), rfl, q3⟩
/-- x = {k: v for ..} -/
theorem sw_trueD {kx vx : Expr} {gs : List Comprehension} {scope : Scope} {pos py : Pos} {y : Str} {l : Nat} {env : Env} (hk : env.scope.kind = .function) (hy : env.scope.names.lookup y = some .local) (hl : (py.line == pos.line) = true)
    (ha : (scope.names.any fun (n, k) => n == y && (k == .local || k == .cell)) = false) : swapsWith (.DictComp kx vx gs scope pos) (some (.Name y py)) l env = pure true := by
  have k1 : env.kindOf y = some .local := hy
  have k2 : env.blockKind = .function := by unfold Env.blockKind; rw [hk]; rfl
  unfold swapsWith; simp only [k2, k1, ha, Expr.pos, hl]; rfl
theorem ps_setDc {i : Nat} {y : Str} {py : Pos} {kx vx tg iter : Expr} {ifs : List Expr} {scope : Scope} {own : List (Str × Nat)} {pos spos : Pos} {wi : TI} {g : TG} {tt : TT} {tk tv : TE} (hc : X.calm = true) (hN : X.N.Nodup) (hy : X.N[i]? = some y) (hyl : X.env.scope.names.lookup y = some .local)
    (hsw : swapsWith (.DictComp kx vx [⟨tg, iter, ifs, 0⟩] scope pos) (some (.Name y py)) spos.line X.env = pure true) (hi : PI X tg iter wi) (ok : BlkOk X.N X.env.scope scope own)
    (hg : ∀ (s : Shared) (H : Hp) (C : Addr) (cl : List (Str × Addr)) (fp : List Addr), PG (X.blk s H scope (compEnvC scope cl C X.env) fp) tg g) (ht : ∀ (s : Shared) (H : Hp) (C : Addr) (cl : List (Str × Addr)) (fp : List Addr), PTs (X.blk s H scope (compEnvC scope cl C X.env) fp) ifs tt)
    (hk : ∀ (s : Shared) (H : Hp) (C : Addr) (cl : List (Str × Addr)) (fp : List Addr), PE (X.blk s H scope (compEnvC scope cl C X.env) fp) kx tk) (he : ∀ (s : Shared) (H : Hp) (C : Addr) (cl : List (Str × Addr)) (fp : List Addr), PE (X.blk s H scope (compEnvC scope cl C X.env) fp) vx tv) (hs : ∀ x, foldedSetIterable iter X.env x = pure x := by intro _; rfl) :
    PS X (.Assign [.Name y py] (.DictComp kx vx [⟨tg, iter, ifs, 0⟩] scope pos) spos) (tAsg (tDc wi g tt tk tv (own.map (·.2))) (gName i)) := by
  refine ⟨fun pins s σ H D I h => ?_⟩
  rw [exec_Assign_Name_used _ _ _ _ hsw]; refine wpAny_bind (wpAny_standAt (wpAny_bind ?_))
  show wpAny _ X.A (do let _ ← comprehension (.DictComp kx vx [⟨tg, iter, ifs, 0⟩] scope pos) scope X.env (firstIterPos [⟨tg, iter, ifs, 0⟩] pos) newDict false (eval iter X.env) (some (assign (.Name y py) X.env))) _ _ s
  have h : tDc wi g tt tk tv (own.map (·.2)) σ H (fun x H1 => gName i x σ H1 D.nx) := h
  refine wpAny_bind (thn (dc_core (Qf := fun _ s' => SP X pins D .next s') hc hN I hi ok hg ht hk he hs h fun L C s' m H' I' q hn f => ?_) fun _ s' hq => wpAny_pure (wpAny_pure hq))
  show wpAny _ _ (assign (.Name y py) X.env (.ref L)) _ _ _
  refine wpAny_assign_Name (store_ok2 (v := V.ref L) I' hN hy (.inl hyl) rfl (fun s2 I2 ⟨a, sb, ha⟩ => ?_) (.inr hyl))
  obtain ⟨f0, f1, f2, f3, f4, f5⟩ := f
  have ne : C ≠ a := by rcases ha with z | z; rw [z]; exact f1; exact fun e => f4 y a z e.symm
  exact ⟨m, hn.sameBut sb ne, fun h3 sb3 => ⟨_, H', I2.turned (t' := s2.toks) (fun b o hb e => (sb3.2 b hb).trans e) f0 f1 f3 f4 f5, q⟩⟩
end
end Fw
/-! the layer: dict comprehensions, {**a, **b}, equality of nested data -/
namespace Fw
open PySem L2
theorem dc_it {J : It} {n : Nat} {Gd : Hp → Prop} {Y : Nat → Hp → V → Hp → Prop} (w : Walk J n Gd Y) {g : TG} {tt : TT} {tk tv : TE} {vs : List Nat} {σ : St} {H1 : Hp} {D : Addr} {Qd : Hp → Prop} (Pv : Nat → Hp → Prop) (h0 : Pv 0 (upd H1 D (.dK []))) (hG : ∀ i H, i ≤ n → Pv i H → Gd H)
    (hs : ∀ i x H H', i < n → Pv i H → Y i H x H' → g x (wipe σ vs) H' fun σ2 H2 => wipe σ2 vs = wipe σ vs ∧ tt σ2 H2 fun b H3 => if b = true then tk σ2 H3 fun y H4 => tv σ2 H4 fun z H5 => ∃ kvs k, y = kV k ∧ H5 D = some (.dK kvs) ∧ kvs.length < sizeLine ∧ Pv (i + 1) (upd H5 D (.dK (putK kvs k z))) else Pv (i + 1) H3) (hd : ∀ H, Pv n H → Qd H) :
    ∃ W : Nat → Nat → Hp → Prop, (∃ m, W 0 m (upd H1 D (.dK []))) ∧ ∀ i m H, W i m H → (J.stop i H ∧ Qd H) ∨ (J.go i H ∧ ∃ Nx : Hp → Prop, (∀ H', Nx H' → ∃ m', m' < m ∧ W (i + 1) m' H') ∧ ∀ x H', J.yld i H x H' → g x (wipe σ vs) H' fun σ2 H2 => wipe σ2 vs = wipe σ vs ∧ tt σ2 H2 fun b H3 =>
        if b = true then tk σ2 H3 fun y H4 => tv σ2 H4 fun z H5 => ∃ kvs k, y = kV k ∧ H5 D = some (.dK kvs) ∧ kvs.length < sizeLine ∧ Nx (upd H5 D (.dK (putK kvs k z))) else Nx H3) := by
  refine ⟨fun i m H => m = n - i ∧ i ≤ n ∧ Pv i H, ⟨n, by simp, Nat.zero_le _, h0⟩, ?_⟩
  rintro i m H ⟨rfl, hi, p⟩
  have q := hG i H hi p
  by_cases hlt : i < n
  · exact .inr ⟨w.goes i H hlt q, Pv (i + 1), fun H' p' => ⟨n - (i + 1), by omega, rfl, hlt, p'⟩, fun x H' y => hs i x H H' hlt p (w.yields i H x H' hlt q y)⟩
  · have e : i = n := by omega
    subst e; exact .inl ⟨w.stops H q, hd H p⟩
/-- what a comprehension has put after i turns -/
def puts (f : Nat → Option (Key × PD)) : Nat → List (Key × PD)
  | 0 => []
  | n + 1 => match f n with
    | some (k, d) => put (puts f n) k d
    | none => puts f n
theorem put_len (kds : List (Key × PD)) (k : Key) (d : PD) : (put kds k d).length ≤ kds.length + 1 := by
  unfold put; split
  · rw [List.length_map]; omega
  · rw [List.length_append]; exact Nat.le_refl _
theorem puts_len (f : Nat → Option (Key × PD)) : ∀ n, (puts f n).length ≤ n
  | 0 => Nat.le_refl _
  | n + 1 => by
    have ih := puts_len f n
    show (match f n with | some (k, d) => put (puts f n) k d | none => puts f n).length ≤ n + 1
    cases f n with
    | none => exact Nat.le_succ_of_le ih
    | some kd => have := put_len (puts f n) kd.1 kd.2; show (put (puts f n) kd.1 kd.2).length ≤ _; omega
section
variable {K : FK} {δ : AE} {ta tb te tk tv : TE} {tt : TT} {d : PD} {P : Post}
theorem eo_dc {wi : TI} {g : TG} {vs : List Nat} {n : Nat} {f : Nat → PD} (fk : Nat → Option (Key × PD)) (h : Evi K wi δ n f) (hn : n ≤ 100000)
    (hs : ∀ i, i < n → ∃ δ' js, Evg K g (f i) (wipeA δ vs) δ' js ∧ (∀ j ∈ js, j ∈ vs) ∧ Evt K tt δ' (fk i).isSome ∧ ∀ k v, fk i = some (k, v) → Evd K tk δ' (kPD k) ∧ Evd K tv δ' v) : Evo K (tDc wi g tt tk tv vs) δ (.dic (puts fk n)) := fun B G H σ R Q q =>
  h B G H σ R _ fun J G1 H1 Gd Y R1 s1 w hG hY D hD => by
    refine dc_it w (fun i H' => ∃ G', Step G1 H1 G' H' ∧ G' D = none ∧ ∃ acc, H' D = some (.dK acc) ∧ RepsK K G' acc (puts fk i)) ⟨G1, (Step.refl R1.gh).hid hD, fresh_back R1.gh hD, [], upd_same, .nil⟩ (fun i H' hi ⟨G', s, _⟩ => hG G' H' s.eg s.gh) ?_ ?_
    · rintro i x H2 H3 hi ⟨G2, s2, g2, acc, hacc, racc⟩ y
      obtain ⟨G3, s3, r3⟩ := hY i x H2 H3 G2 hi s2.eg s2.gh y
      obtain ⟨δ', js, hg, hj, ht, he⟩ := hs i hi
      have R3 : RepS K B G3 H3 σ δ := R1.st (s2.trans s3)
      refine hg B G3 H3 _ x (R3.wipe vs) r3 _ fun σ3 R4 l4 k4 => ⟨wipe_eq l4 k4 hj, ?_⟩
      refine ht B G3 H3 σ3 R4 _ fun G5 H5 R5 s5 => ?_
      cases hk : fk i with
      | none =>
        show ∃ G', _
        refine ⟨G5, (s2.trans s3).trans s5, (s3.trans s5).nw D (some_ne hacc) g2, acc, s5.eh.get _ _ (s3.eh.get _ _ hacc), ?_⟩
        show RepsK K G5 acc (match fk i with | some (k, d) => put (puts fk i) k d | none => puts fk i)
        rw [hk]
        exact (racc.mono s3.eg).mono s5.eg
      | some kd =>
        obtain ⟨k, v⟩ := kd
        obtain ⟨hk1, hk2⟩ := he k v hk
        show tk σ3 H5 _
        refine hk1 B G5 H5 σ3 R5 _ fun y G6 H6 R6 s6 r6 => hk2 B G6 H6 σ3 R6 _ fun z G7 H7 R7 s7 r7 => ?_
        have ey : y = kV k := by
          cases k with
          | inl i => exact Rep.flat (d := .int i) r6 rfl
          | inr x => exact Rep.flat (d := .str x) r6 rfl
        have gD : G7 D = none := (((s3.trans s5).trans s6).trans s7).nw D (some_ne hacc) g2
        refine ⟨acc, k, ey, s7.eh.get _ _ (s6.eh.get _ _ (s5.eh.get _ _ (s3.eh.get _ _ hacc))), ?_, ?_⟩
        · rw [racc.length]
          exact Nat.lt_of_le_of_lt (puts_len fk i) (Nat.lt_of_lt_of_le (Nat.lt_of_lt_of_le hi hn) (by decide))
        · refine ⟨G7, ((((s2.trans s3).trans s5).trans s6).trans s7).mut hD gD, gD, _, upd_same, ?_⟩
          show RepsK K G7 _ (match fk i with | some (k, d) => put (puts fk i) k d | none => puts fk i)
          rw [hk]
          exact ((((racc.mono s3.eg).mono s5.eg).mono s6.eg).mono s7.eg).put r7
    · rintro H2 ⟨G2, s2, g2, acc, hacc, racc⟩
      exact q D G2 H2 (R1.st s2) (s1.trans s2) (fresh_bk s1.eh hD) g2 ⟨acc, hacc, racc⟩
/-- {**a, **b} -/
theorem eo_star2 {kds lds : List (Key × PD)} (ha : Evd K ta δ (.dic kds)) (hb : Evd K tb δ (.dic lds)) (hz : kds.length + lds.length ≤ 100000) : Evo K (tStar2 ta tb) δ (.dic (mergeD (mergeD [] kds) lds)) := fun B G H σ R Q q p hp =>
  ha B G _ σ (R.hid hp (o := .dK [])) _ fun x G1 H1 R1 s1 r1 => by
    cases r1 with
    | @dic a more _ ha1 r1 =>
    have gp : G1 p = none := s1.nw p (by rw [upd_same]; exact fun z => nomatch z) (fresh_back R.gh hp)
    have hs : H1 p = some (.dK []) := s1.eh.get _ _ upd_same
    have s0 : Step G H G1 H1 := ((Step.refl R.gh).hid hp).trans s1
    have hap : a ≠ p := fun z => by rw [z, gp] at ha1; cases ha1
    have sm := s0.mut (o := .dK (mergeK [] more)) hp gp
    refine ⟨hs, a, more, rfl, hap, R1.gh _ _ ha1, hb B G1 _ σ (R.st sm) _ fun y G2 H2 R2 s2 r2 => ?_⟩
    cases r2 with
    | @dic b more2 _ hb1 r2 =>
    have gp2 : G2 p = none := s2.nw p (by rw [upd_same]; exact fun z => nomatch z) gp
    have hs2 : H2 p = some (.dK (mergeK [] more)) := s2.eh.get _ _ upd_same
    have hbp : b ≠ p := fun z => by rw [z, gp2] at hb1; cases hb1
    have st := (sm.trans s2).mut (o := .dK (mergeK (mergeK [] more) more2)) hp gp2
    refine ⟨hs2, b, more2, rfl, hbp, R2.gh _ _ hb1, Nat.le_trans (by rw [r1.length, r2.length]; exact hz) (by decide), ?_⟩
    exact q p G2 _ (R.st st) st hp gp2 ⟨_, upd_same, RepsK.merge r2 (RepsK.merge (r1.mono s2.eg) .nil)⟩
/-! ### equality -/
/-- equal data: dicts whatever the order of their keys -/
def EqP : Nat → PD → PD → Prop
  | 0 => fun _ _ => False
  | n + 1 => fun d e => (d = e ∧ flat d = true) ∨ (∃ xs ys, d = .tup xs ∧ e = .tup ys ∧ Paired (EqP n) xs ys) ∨ (∃ xs ys, d = .btup xs ∧ e = .btup ys ∧ Paired (EqP n) xs ys) ∨ (∃ xs ys, d = .lst xs ∧ e = .lst ys ∧ Paired (EqP n) xs ys) ∨
    ∃ xs ys, d = .dic xs ∧ e = .dic ys ∧ xs.length = ys.length ∧ ∀ p ∈ xs, ∃ u, look ys p.1 = some u ∧ EqP n p.2 u
theorem flatB_of {G : Hp} {v : V} (h : Rep K G v d) (f : flat d = true) : flatB v = true := by
  cases h <;> first | rfl | cases f
theorem reps_pair {G H : Hp} {n : Nat} (ih : ∀ d e x y, EqP n d e → Rep K G x d → Rep K G y e → EqW K H n x y) : ∀ {xs ys : List PD}, Paired (EqP n) xs ys → ∀ {vs us : List V}, Reps K G vs xs → Reps K G us ys → Paired (EqW K H n) vs us
  | _, _, .nil, _, _, r1, r2 => by cases r1; cases r2; exact .nil
  | _, _, .cons h t, _, _, r1, r2 => by
    cases r1 with
    | cons a1 b1 => cases r2 with
      | cons a2 b2 => exact .cons (ih _ _ _ _ h a1 a2) (reps_pair ih t b1 b2)
theorem repsK_mem {G : Hp} : ∀ {vs : List (Key × V)} {ds : List (Key × PD)}, RepsK K G vs ds → ∀ p ∈ vs, ∃ d, (p.1, d) ∈ ds ∧ Rep K G p.2 d
  | _, _, .nil, p, h => by cases h
  | _, _, .cons h r, p, hp => by
    rcases List.mem_cons.mp hp with e | hp
    · subst e; exact ⟨_, List.mem_cons_self, h⟩
    · obtain ⟨d, hd, rd⟩ := repsK_mem r p hp
      exact ⟨d, List.mem_cons_of_mem _ hd, rd⟩
theorem eqP_eqW {G H : Hp} (e : Same G H) : ∀ (n : Nat) (d d' : PD) (x y : V), EqP n d d' → Rep K G x d → Rep K G y d' → EqW K H n x y
  | 0, _, _, _, _, h, _, _ => h.elim
  | n + 1, d, d', x, y, h, rx, ry => by
    rcases h with ⟨rfl, f⟩ | ⟨xs, ys, rfl, rfl, hp⟩ | ⟨xs, ys, rfl, rfl, hp⟩ | ⟨xs, ys, rfl, rfl, hp⟩ | ⟨xs, ys, rfl, rfl, hl, hp⟩
    · exact Or.inl ⟨by rw [rx.flat f, ry.flat f], flatB_of rx f⟩
    · cases rx with
      | tup h1 h2 => cases ry with
        | tup h3 h4 => exact Or.inr (Or.inr (Or.inl ⟨_, _, _, _, rfl, rfl, same_sqT e h1, same_sqT e h3, reps_pair (eqP_eqW e n) hp h2 h4⟩))
    · cases rx with
      | btup h1 _ h2 => cases ry with
        | btup h3 _ h4 => exact Or.inr (Or.inr (Or.inl ⟨_, _, _, _, rfl, rfl, same_sqT e (frz_sqT h1), same_sqT e (frz_sqT h3), reps_pair (eqP_eqW e n) hp h2 h4⟩))
    · cases rx with
      | lst h1 h2 => cases ry with
        | lst h3 h4 => exact Or.inr (Or.inl ⟨_, _, _, _, rfl, rfl, Or.inl (Or.inl (e _ _ h1)), Or.inl (Or.inl (e _ _ h3)), reps_pair (eqP_eqW e n) hp h2 h4⟩)
    · cases rx with
      | dic h1 h2 => cases ry with
        | dic h3 h4 =>
          refine Or.inr (Or.inr (Or.inr ⟨_, _, _, _, rfl, rfl, e _ _ h1, e _ _ h3, by rw [h2.length, h4.length]; exact hl, fun p hm => ?_⟩))
          obtain ⟨dd, hd, rd⟩ := repsK_mem h2 p hm
          obtain ⟨u, hu, hq⟩ := hp _ hd
          have r := h4.val p.1
          rw [hu] at r
          cases hv : valV _ p.1 with
          | none => rw [hv] at r; exact r.elim
          | some v => rw [hv] at r; exact ⟨v, rfl, eqP_eqW e n dd u p.2 v hq rd r⟩
theorem rep_ref {G : Hp} {v : V} (h : Rep K G v d) (f : flat d = false) : ∃ a, v = .ref a := by
  cases h <;> first | exact ⟨_, rfl⟩ | cases f
/-- a == b -/
theorem ev_eqW {a b : PD} {n : Nat} (ha : Evd K ta δ a) (hb : Evd K tb δ b) (h : EqP (n + 1) a b) (hn : n ≤ 60) (fa : flat a = false) (fb : flat b = false) : Evd K (tOp (rEqW K) ta tb) δ (.bl true) := ev_op ha hb fun B G H σ x y R rx ry Q q => by
  obtain ⟨p, ep⟩ := rep_ref rx fa
  obtain ⟨p', ep'⟩ := rep_ref ry fb
  exact ⟨n, p, p', hn, ep, ep', eqP_eqW R.gh _ _ _ _ _ h rx ry, q _ G H R (Step.refl R.gh) (.bl true)⟩
theorem ev_neW {xs ys : List PD} {n : Nat} (ha : Evd K ta δ (.tup xs)) (hb : Evd K tb δ (.tup ys)) (h : Paired (EqP n) xs ys) (hn : n ≤ 60) : Evd K (tOp (rNeW K) ta tb) δ (.bl false) := ev_op ha hb fun B G H σ x y R rx ry Q q => by
  cases rx with
  | tup h1 h2 => cases ry with
    | tup h3 h4 => exact ⟨n, _, _, _, _, hn, rfl, rfl, same_sqT R.gh h1, same_sqT R.gh h3, reps_pair (eqP_eqW R.gh n) h h2 h4, q _ G H R (Step.refl R.gh) (.bl false)⟩
theorem paired_self {n : Nat} {f : PD → PD → Prop} : ∀ {xs : List PD}, (∀ x ∈ xs, f x x) → Paired f xs xs
  | [], _ => .nil
  | x :: xs, h => .cons (h x List.mem_cons_self) (paired_self (n := n) fun y hy => h y (List.mem_cons_of_mem _ hy))
mutual
theorem eqP_self : ∀ (d : PD) (n : Nat), plain d = true → (pyOf d).depth ≤ n → EqP (n + 1) d d
  | .non, _, _, _ => Or.inl ⟨rfl, rfl⟩
  | .bl _, _, _, _ => Or.inl ⟨rfl, rfl⟩
  | .int _, _, _, _ => Or.inl ⟨rfl, rfl⟩
  | .str _, _, _, _ => Or.inl ⟨rfl, rfl⟩
  | .tup xs, n, f, h => by
    have h' : PyData.depthAll (pyAll xs) + 1 ≤ n := h
    obtain ⟨m, rfl⟩ : ∃ m, n = m + 1 := ⟨n - 1, by omega⟩
    exact Or.inr (Or.inl ⟨xs, xs, rfl, rfl, eqPs_self xs m f (by omega)⟩)
  | .btup xs, n, f, h => by
    have h' : PyData.depthAll (pyAll xs) + 1 ≤ n := h
    obtain ⟨m, rfl⟩ : ∃ m, n = m + 1 := ⟨n - 1, by omega⟩
    exact Or.inr (Or.inr (Or.inl ⟨xs, xs, rfl, rfl, eqPs_self xs m f (by omega)⟩))
  | .lst xs, n, f, h => by
    have h' : PyData.depthAll (pyAll xs) + 1 ≤ n := h
    obtain ⟨m, rfl⟩ : ∃ m, n = m + 1 := ⟨n - 1, by omega⟩
    exact Or.inr (Or.inr (Or.inr (Or.inl ⟨xs, xs, rfl, rfl, eqPs_self xs m f (by omega)⟩)))
theorem eqPs_self : ∀ (xs : List PD) (n : Nat), plainAll xs = true → PyData.depthAll (pyAll xs) ≤ n → Paired (EqP (n + 1)) xs xs
  | [], _, _, _ => .nil
  | x :: xs, n, f, h => by
    have f2 : (plain x && plainAll xs) = true := f
    rw [Bool.and_eq_true] at f2
    have h' : max (pyOf x).depth (PyData.depthAll (pyAll xs)) ≤ n := h
    exact .cons (eqP_self x n f2.1 (by omega)) (eqPs_self xs n f2.2 (by omega))
end
abbrev rMax2 : List V → Hp → VK → Prop := fun xs H Q => ∃ i j, xs = [.int i, .int j] ∧ Q (.int (if j > i then j else i)) H
theorem ev_max2 {i j : Int} (ha : Evd K ta δ (.int i)) (hb : Evd K tb δ (.int j)) : Evd K (tCB rMax2 (tCons ta (tCons tb tNil))) δ (.int (max i j)) := fun B G H σ R Q q =>
  ha B G H σ R _ fun x G1 H1 R1 s1 rx => hb B G1 H1 σ R1 _ fun y G2 H2 R2 s2 ry => by
    rw [rx.flat rfl, ry.flat rfl]
    refine ⟨i, j, rfl, ?_⟩
    have e : (if j > i then j else i) = max i j := by
      by_cases h : j > i
      · rw [if_pos h]; omega
      · rw [if_neg h]; omega
    rw [e]
    exact q _ G2 H2 R2 (s1.trans s2) (.int _)
end
end Fw
/-! the layer: private objects -/
namespace Fw
open PySem L2
def clw (cs : List (Addr × CC)) : AE := cs.map fun pc => .cell pc.1 true pc.2
def clr (cs : List (Addr × CC)) : AE := cs.map fun pc => .cell pc.1 false pc.2
structure CellsOk (K : FK) (G H : Hp) (cs : List (Addr × CC)) : Prop where
  ok : ∀ pc ∈ cs, G pc.1 = none ∧ CellOk K G H pc.1 pc.2
  nd : (cs.map (·.1)).Nodup
def putD (f : Str) (d : PD) : List (Str × PD) → List (Str × PD)
  | [] => [(f, d)]
  | (g, e) :: r => if g = f then (g, d) :: r else (g, e) :: putD f d r
section
variable {K : FK} {B : Base} {G H G' H' : Hp} {σ : St} {δ : AE}
theorem fields_get {f : Str} {d : PD} : ∀ {vs : List (Str × V)} {fs : List (Str × PD)}, vs.map (·.1) = fs.map (·.1) → Reps K G (vs.map (·.2)) (fs.map (·.2)) → fs.lookup f = some d → ∃ v, vs.lookup f = some v ∧ Rep K G v d
  | [], [], _, _, h => by cases h
  | [], _ :: _, e, _, _ => by cases e
  | _ :: _, [], e, _, _ => by cases e
  | (a, v) :: vs, (b, d') :: fs, e, r, h => by
    rw [List.map_cons, List.map_cons, List.cons.injEq] at e
    obtain ⟨rfl, e⟩ : a = b ∧ _ := e
    cases r with
    | cons r1 r2 =>
      rw [List.lookup_cons] at h ⊢
      cases hf : f == a with
      | true => rw [hf] at h; cases h; exact ⟨v, rfl, r1⟩
      | false => rw [hf] at h; exact fields_get e r2 h
theorem fields_none {f : Str} : ∀ {vs : List (Str × V)} {fs : List (Str × PD)}, vs.map (·.1) = fs.map (·.1) → fs.lookup f = none → vs.lookup f = none
  | [], _, _, _ => rfl
  | _ :: _, [], e, _ => by cases e
  | (a, v) :: vs, (b, d') :: fs, e, h => by
    rw [List.map_cons, List.map_cons, List.cons.injEq] at e
    obtain ⟨rfl, e⟩ : a = b ∧ _ := e
    rw [List.lookup_cons] at h ⊢
    cases hf : f == a with
    | true => rw [hf] at h; cases h
    | false => rw [hf] at h; exact fields_none e h
theorem fields_put {f : Str} {v : V} {d : PD} (hv : Rep K G v d) : ∀ {vs : List (Str × V)} {fs : List (Str × PD)}, vs.map (·.1) = fs.map (·.1) → Reps K G (vs.map (·.2)) (fs.map (·.2)) → (putF f v vs).map (·.1) = (putD f d fs).map (·.1) ∧ Reps K G ((putF f v vs).map (·.2)) ((putD f d fs).map (·.2))
  | [], [], _, _ => ⟨rfl, .cons hv .nil⟩
  | [], _ :: _, e, _ => by cases e
  | _ :: _, [], e, _ => by cases e
  | (a, u) :: vs, (b, d') :: fs, e, r => by
    rw [List.map_cons, List.map_cons, List.cons.injEq] at e
    obtain ⟨rfl, e⟩ : a = b ∧ _ := e
    cases r with
    | cons r1 r2 =>
      obtain ⟨k1, k2⟩ := fields_put hv e r2
      show (List.map (·.1) (if a = f then (a, v) :: vs else (a, u) :: putF f v vs)) = (List.map (·.1) (if a = f then (a, d) :: fs else (a, d') :: putD f d fs)) ∧ Reps K G (List.map (·.2) (if a = f then (a, v) :: vs else (a, u) :: putF f v vs)) (List.map (·.2) (if a = f then (a, d) :: fs else (a, d') :: putD f d fs))
      by_cases h : a = f
      · rw [if_pos h, if_pos h]
        exact ⟨by rw [List.map_cons, List.map_cons, e], .cons hv r2⟩
      · rw [if_neg h, if_neg h]
        exact ⟨by rw [List.map_cons, List.map_cons, k1], .cons r1 k2⟩
theorem rep_adr {v : V} {p : Addr} (h : Rep K G v (.adr p)) : v = .ref p := by cases h; rfl
end
section
variable {K : FK} {δ : AE} {ta tb te tv : TE} {t : TA} {tz : TS} {a b c d dk : PD} {P : Post} {p C dx : Addr} {w : Bool} {f m : Str} {fs : List (Str × PD)} {j : Nat}
/-- e.f -/
theorem ev_fld (ha : Evd K ta δ (.adr p)) (hj : δ[j]? = some (.cell p w (.ins C dx fs))) (hc : Cls K C) (hn : NoAttr K C f) (hl : fs.lookup f = some d) : Evd K (tFld K ta f) δ d := fun B G H σ R Q q => ha B G H σ R _ fun v G1 H1 R1 s r => by
  obtain ⟨_, _, vs, hp, e, rs⟩ := R1.getC hj
  obtain ⟨u, hu, ru⟩ := fields_get e rs hl
  exact ⟨p, C, dx, vs, u, rep_adr r, hp, hc, hn, hu, q u G1 H1 R1 s ru⟩
/-- a private object is read -/
theorem rd_adr {o : OD} (ha : Evd K ta δ (.adr p)) (hj : δ[j]? = some (.cell p w (.od o))) : Rdo K ta δ o := fun B G H σ R Q q => ha B G H σ R _ fun v G1 H1 R1 s r => by
  obtain ⟨_, _, ok⟩ := R1.getC hj
  rw [rep_adr r]
  exact q p G1 H1 R1 s ok
/-- e.f = v -/
theorem s_fld (hv : Evd K tv δ d) (ha : Evd K ta δ (.adr p)) (hj : δ[j]? = some (.cell p true (.ins C dx fs))) (hc : Cls K C) (hn : NoAttr K C f) (hl : fs.length < 1000) (k : P.nx (δ.set j (.cell p true (.ins C dx (putD f d fs))))) : Sx K (sFld K ta tv f) δ P := fun B G H σ D R hnx hr hb hct =>
  hv B G H σ R _ fun y G1 H1 R1 s1 ry => ha B G1 H1 σ R1 _ fun x G2 H2 R2 s2 rx => by
    obtain ⟨_, _, vs, hp, e, rs⟩ := R2.getC hj
    refine ⟨p, C, dx, vs, rep_adr rx, hp, hc, hn, ?_, ?_⟩
    · have l : vs.length = fs.length := by rw [← List.length_map (f := fun x : Str × V => x.1), e, List.length_map]
      omega
    · obtain ⟨k1, k2⟩ := fields_put (ry.mono s2.eg) e rs
      exact hnx _ _ _ _ k (R2.writeC hj ⟨_, upd_same, k1, k2⟩) (s1.eg.trans s2.eg)
theorem q_fld (hv : Evd K tv δ d) (ha : Evd K ta δ (.adr p)) (hj : δ[j]? = some (.cell p true (.ins C dx fs))) (hc : Cls K C) (hn : NoAttr K C f) (hl : fs.length < 1000) (k : Sx K tz (δ.set j (.cell p true (.ins C dx (putD f d fs)))) P) : Sx K (tSeq (sFld K ta tv f) tz) δ P :=
  sx_seq (M := fun d' => d' = δ.set j (.cell p true (.ins C dx (putD f d fs)))) (s_fld hv ha hj hc hn hl rfl) fun _ e => by subst e; exact k
/-- e.f = a new object -/
theorem s_fldN {o : OD} (hv : Evo K tv δ o) (ha : Evd K ta δ (.adr p)) (hj : δ[j]? = some (.cell p true (.ins C dx fs))) (hc : Cls K C) (hn : NoAttr K C f) (hl : fs.length < 1000) (k : ∀ q, P.nx ((δ.set j (.cell p true (.ins C dx (putD f (.adr q) fs)))) ++ [.cell q true (.od o)])) : Sx K (sFld K ta tv f) δ P := fun B G H σ D R hnx hr hb hct =>
  hv B G H σ R _ fun q G1 H1 R1 s1 hq gq ok => ha B G1 H1 σ R1 _ fun x G2 H2 R2 s2 rx => by
    obtain ⟨_, _, vs, hp, e, rs⟩ := R2.getC hj
    refine ⟨p, C, dx, vs, rep_adr rx, hp, hc, hn, ?_, ?_⟩
    · have l : vs.length = fs.length := by rw [← List.length_map (f := fun x : Str × V => x.1), e, List.length_map]
      omega
    · obtain ⟨k1, k2⟩ := fields_put (G := G2) (.adr q) e rs
      have R3 := R2.writeC hj (ob := .ins C dx (putF f (.ref q) vs)) (c' := .ins C dx (putD f (.adr q) fs)) ⟨_, upd_same, k1, k2⟩
      have npq : q ≠ p := fun z => by
        subst z
        have hc := (R.getC hj).2.2
        exact hc.live hq
      have hh : ∀ i, ¬ Holds σ (δ.set j (.cell p true (.ins C dx (putD f (.adr q) fs)))) i q := fun i hi => by
        by_cases ei : i = j
        · subst ei
          rcases holds_set hi with ⟨⟨_, z | z⟩, _⟩ | ⟨_, _, z⟩ <;> cases z
          exact npq rfl
        · exact R.notHeld hq i (hi.eq rfl (List.getElem?_set_ne (Ne.symm ei)))
      refine hnx _ _ _ _ (k q) (R3.addC (s2.nw q ok.live gq) (R.newFree hq) (c := .od o) ?_ hh) (s1.eg.trans s2.eg)
      obtain ⟨u, nt, hu⟩ := ok.nt
      exact OwnOk.mono ok s2.eg (by rw [upd_ne npq, s2.eh.all _ _ nt hu, hu])
theorem q_fldN {o : OD} (hv : Evo K tv δ o) (ha : Evd K ta δ (.adr p)) (hj : δ[j]? = some (.cell p true (.ins C dx fs))) (hc : Cls K C) (hn : NoAttr K C f) (hl : fs.length < 1000) (k : ∀ q, Sx K tz ((δ.set j (.cell p true (.ins C dx (putD f (.adr q) fs)))) ++ [.cell q true (.od o)]) P) : Sx K (tSeq (sFld K ta tv f) tz) δ P :=
  sx_seq (M := fun d' => ∃ q, d' = (δ.set j (.cell p true (.ins C dx (putD f (.adr q) fs)))) ++ [.cell q true (.od o)]) (s_fldN hv ha hj hc hn hl fun q => ⟨q, rfl⟩) fun _ ⟨q, e⟩ => by subst e; exact k q
/-- .. in the place of an old one -/
theorem s_fldR {o o0 : OD} {i : Nat} {p0 : Addr} (hv : Evo K tv δ o) (ha : Evd K ta δ (.adr p)) (hj : δ[j]? = some (.cell p true (.ins C dx fs))) (hi : δ[i]? = some (.cell p0 true (.od o0))) (nij : i ≠ j) (hc : Cls K C) (hn : NoAttr K C f) (hl : fs.length < 1000)
    (k : ∀ q, P.nx ((δ.set j (.cell p true (.ins C dx (putD f (.adr q) fs)))).set i (.cell q true (.od o)))) : Sx K (sFld K ta tv f) δ P := fun B G H σ D R hnx hr hb hct =>
  hv B G H σ R _ fun q G1 H1 R1 s1 hq gq ok => ha B G1 H1 σ R1 _ fun x G2 H2 R2 s2 rx => by
    obtain ⟨_, _, vs, hp, e, rs⟩ := R2.getC hj
    refine ⟨p, C, dx, vs, rep_adr rx, hp, hc, hn, ?_, ?_⟩
    · have l : vs.length = fs.length := by rw [← List.length_map (f := fun x : Str × V => x.1), e, List.length_map]
      omega
    · obtain ⟨k1, k2⟩ := fields_put (G := G2) (.adr q) e rs
      have R3 := R2.writeC hj (ob := .ins C dx (putF f (.ref q) vs)) (c' := .ins C dx (putD f (.adr q) fs)) ⟨_, upd_same, k1, k2⟩
      have npq : q ≠ p := fun z => by
        subst z
        have hc := (R.getC hj).2.2
        exact hc.live hq
      have hh : ∀ i, ¬ Holds σ (δ.set j (.cell p true (.ins C dx (putD f (.adr q) fs)))) i q := fun i hi => by
        by_cases ei : i = j
        · subst ei
          rcases holds_set hi with ⟨⟨_, z | z⟩, _⟩ | ⟨_, _, z⟩ <;> cases z
          exact npq rfl
        · exact R.notHeld hq i (hi.eq rfl (List.getElem?_set_ne (Ne.symm ei)))
      refine hnx _ _ _ _ (k q) (R3.setC (i := i) (p0 := p0) (w0 := true) (c0 := .od o0) (by rw [List.getElem?_set_ne (Ne.symm nij)]; exact hi) (s2.nw q ok.live gq) (R.newFree hq) (c := .od o) ?_ hh) (s1.eg.trans s2.eg)
      obtain ⟨u, nt, hu⟩ := ok.nt
      exact OwnOk.mono ok s2.eg (by rw [upd_ne npq, s2.eh.all _ _ nt hu, hu])
/-- e.append(v), e private -/
theorem s_appC {xs : List PD} (ha : Evd K ta δ (.adr p)) (hj : δ[j]? = some (.cell p true (.od (.lst xs)))) (h : Evd K te δ d) (hz : xs.length < 100000) (k : P.nx (δ.set j (.cell p true (.od (.lst (xs ++ [d])))))) : Sx K (tDrop (tBM K "list" rAppend ta (tCons te tNil))) δ P := fun B G H σ D R hn hr hb hc =>
  ha B G H σ R _ fun v G1 H1 R1 s1 rv => by
    obtain ⟨_, _, vs1, hp1, _⟩ := R1.getC hj
    rw [rep_adr rv]
    refine ⟨tyV_lst hp1, h B G1 H1 σ R1 _ fun u G2 H2 R2 s2 ru => ?_⟩
    obtain ⟨_, _, vs, hp, rs⟩ := R2.getC hj
    refine ⟨p, vs, u, rfl, rfl, hp, Nat.lt_of_lt_of_le (by rw [rs.length]; exact hz) (by decide), ?_⟩
    exact hn _ _ _ _ k (R2.writeC hj ⟨_, upd_same, rs.snoc ru⟩) (s1.eg.trans s2.eg)
/-- e[k] = v, e private -/
theorem s_dputC {kds : List (Key × PD)} (hv : Evd K te δ d) (ha : Evd K ta δ (.adr p)) (hj : δ[j]? = some (.cell p true (.od (.dic kds)))) (hk : Evd K tb δ dk) (fk : isKey dk = true) (hz : kds.length < 100000) (k : P.nx (δ.set j (.cell p true (.od (.dic (put kds (keyOf dk) d)))))) : Sx K (sDPut ta tb te) δ P := fun B G H σ D R hn hr hb hc =>
  hv B G H σ R _ fun v G1 H1 R1 s1 r1 => ha B G1 H1 σ R1 _ fun x G2 H2 R2 s2 rx => hk B G2 H2 σ R2 _ fun y G3 H3 R3 s3 r3 => by
    obtain ⟨_, _, vs, hp, rs⟩ := R3.getC hj
    rw [rep_adr rx, r3.key fk]
    refine ⟨p, _, rfl, Or.inl ⟨vs, keyOf dk, hp, rfl, Nat.lt_of_lt_of_le (by rw [rs.length]; exact hz) (by decide), rfl⟩, ?_⟩
    exact hn _ _ _ _ k (R3.writeC hj ⟨_, upd_same, rs.put ((r1.mono s2.eg).mono s3.eg)⟩) ((s1.eg.trans s2.eg).trans s3.eg)
end
/-! ### calls -/
/-- a def that reads private objects -/
def spR (K : FK) (PP : List PD → List (Addr × CC) → Rt → Prop) : Sp := fun vs H Q _ => ∃ (G : Hp) (ds : List PD) (cs : List (Addr × CC)) (r : Rt), Same G H ∧ Tb K G H ∧ Reps K G vs ds ∧ CellsOk K G H cs ∧ PP ds cs r ∧
  ∀ v G' H', Sam H H' → Same G G' → Same G' H' → (∀ a, H a ≠ none → G a = none → G' a = none) → RtOk K H G' H' v r → Q v H'
/-- .. that changes them -/
def spM (K : FK) (PP : List PD → List (Addr × CC) → (Rt → List (Addr × CC) → Prop) → Prop) : Sp := fun vs H Q _ => ∃ (G : Hp) (ds : List PD) (cs : List (Addr × CC)) (M : Rt → List (Addr × CC) → Prop), Same G H ∧ Tb K G H ∧ Reps K G vs ds ∧ CellsOk K G H cs ∧ PP ds cs M ∧
  ∀ r cs' v G' H', M r cs' → SamX H H' (fun a => ∃ c, (a, c) ∈ cs) → Same G G' → Same G' H' → (∀ a, H a ≠ none → G a = none → G' a = none) → CellsOk K G' H' cs' → (∀ pc ∈ cs', (∃ c, (pc.1, c) ∈ cs) ∨ H pc.1 = none) → RtOk K H G' H' v r → Q v H'
theorem cl_at {cs : List (Addr × CC)} {w : Bool} {i : Nat} {s : Sl} (h : (cs.map fun pc => Sl.cell pc.1 w pc.2)[i]? = some s) : ∃ pc, cs[i]? = some pc ∧ s = .cell pc.1 w pc.2 := by
  rw [List.getElem?_map] at h
  obtain ⟨pc, e1, e2⟩ := Option.map_eq_some_iff.mp h
  exact ⟨pc, e1, e2.symm⟩
section
variable {K : FK} {B : Base} {G H G' H' : Hp} {σ : St} {δ : AE}
theorem nd_at {cs : List (Addr × CC)} (nd : (cs.map (·.1)).Nodup) {i j : Nat} {x y : Addr × CC} (hi : cs[i]? = some x) (hj : cs[j]? = some y) (e : x.1 = y.1) : i = j := by
  have li := (List.getElem?_eq_some_iff.mp hi).1
  have lj := (List.getElem?_eq_some_iff.mp hj).1
  have e1 : cs[i] = x := (List.getElem?_eq_some_iff.mp hi).2
  have e2 : cs[j] = y := (List.getElem?_eq_some_iff.mp hj).2
  have pw := List.pairwise_iff_getElem.mp nd
  have ne : ∀ (a b : Nat) (la : a < cs.length) (lb : b < cs.length), a < b → cs[a].1 ≠ cs[b].1 := fun a b la lb h => by
    have z := pw a b (by rw [List.length_map]; exact la) (by rw [List.length_map]; exact lb) h
    rw [List.getElem_map, List.getElem_map] at z
    exact z
  rcases Nat.lt_trichotomy i j with h | h | h
  · exact absurd (by rw [e1, e2]; exact e) (ne i j li lj h)
  · exact h
  · exact absurd (by rw [e1, e2]; exact e.symm) (ne j i lj li h)
/-- a frame at its start, private objects at hand -/
theorem repS_startC {N : List Str} {vs : List V} {ds : List PD} {cs : List (Addr × CC)} (w : Bool) (e : Same G H) (tb : Tb K G H) (r : Reps K G vs ds) (hc : CellsOk K G H cs) :
    RepS K ⟨G, H, if w then cs.map fun pc => (0, pc.1) else []⟩ G H (L2.start N vs) (ae N.length ds ++ cs.map fun pc => .cell pc.1 w pc.2) := by
  have R := repS_start (N := N) e tb r
  have hl : (L2.start N vs).length = (ae N.length ds).length := by
    have hl := r.length
    unfold L2.start ae
    rw [List.length_append, List.length_append, List.length_map, List.length_map, List.length_replicate, List.length_replicate, hl]
  have hsp : ∀ i s, (ae N.length ds ++ cs.map fun pc => Sl.cell pc.1 w pc.2)[i]? = some s → (i < (ae N.length ds).length ∧ (ae N.length ds)[i]? = some s) ∨ ((ae N.length ds).length ≤ i ∧ ∃ pc, cs[i - (ae N.length ds).length]? = some pc ∧ s = .cell pc.1 w pc.2) := fun i s h => by
    by_cases hi : i < (ae N.length ds).length
    · rw [List.getElem?_append_left hi] at h; exact Or.inl ⟨hi, h⟩
    · rw [List.getElem?_append_right (by omega)] at h; exact Or.inr ⟨by omega, cl_at h⟩
  have hh : ∀ i p, Holds (L2.start N vs) (ae N.length ds ++ cs.map fun pc => Sl.cell pc.1 w pc.2) i p → (ae N.length ds).length ≤ i ∧ ∃ pc, cs[i - (ae N.length ds).length]? = some pc ∧ pc.1 = p := fun i p h => by
    rcases h with ⟨_, o, z | z⟩ | ⟨w', c, z⟩
    · rcases hsp _ _ z with ⟨_, z⟩ | ⟨_, _, _, z⟩
      · rcases ae_sh z with ⟨d, q, _⟩ | q <;> cases q
      · cases z
    · rcases hsp _ _ z with ⟨_, z⟩ | ⟨_, _, _, z⟩
      · rcases ae_sh z with ⟨d, q, _⟩ | q <;> cases q
      · cases z
    · rcases hsp _ _ z with ⟨_, z⟩ | ⟨l, pc, h1, z⟩
      · rcases ae_sh z with ⟨d, q, _⟩ | q <;> cases q
      · cases z; exact ⟨l, pc, h1, rfl⟩
  refine ⟨by rw [List.length_append]; omega, e, fun a o _ _ h => h, fun a h => h, Same.refl G, fun a _ g => g, fun i s h => ?_, fun i j p h1 h2 => ?_, tb, fun _ h => h⟩
  · rcases hsp i s h with ⟨hi, h⟩ | ⟨hi, pc, h1, rfl⟩
    · have k := R.sl i s h
      cases s with
      | no => exact k
      | sh d => exact k
      | ow o => rcases ae_sh h with ⟨d, q, _⟩ | q <;> cases q
      | pn o => rcases ae_sh h with ⟨d, q, _⟩ | q <;> cases q
      | cell p w c => rcases ae_sh h with ⟨d, q, _⟩ | q <;> cases q
    · obtain ⟨g, ok⟩ := hc.ok pc (List.mem_of_getElem? h1)
      refine ⟨List.getElem?_eq_none (by omega), g, fun hw => Or.inr ⟨0, ?_⟩, ok⟩
      rw [if_pos hw]
      exact List.mem_map.mpr ⟨pc, List.mem_of_getElem? h1, rfl⟩
  · obtain ⟨l1, x, h1, e1⟩ := hh i p h1
    obtain ⟨l2, y, h2, e2⟩ := hh j p h2
    have := nd_at hc.nd h1 h2 (e1.trans e2.symm)
    omega
theorem defR_ok {PP : List PD → List (Addr × CC) → Rt → Prop} {N : List Str} {ts : TS} (h : ∀ ds cs r, PP ds cs r → Sx K ts (ae N.length ds ++ clr cs) (Gives r)) (vs : List V) (H : Hp) (Q : VK) (E : XK) (hsp : spR K PP vs H Q E) : ts { nx := fun _ H' => Q .non H', rt := Q } (L2.start N vs) H := by
  obtain ⟨G, ds, cs, r, e, tb, rs, hc, hp, q⟩ := hsp
  have R := repS_startC (N := N) false e tb rs hc
  have nw : ∀ {G' H' : Hp} {σ' : St} {δ' : AE}, RepS K ⟨G, H, []⟩ G' H' σ' δ' → Sam H H' ∧ Same G G' ∧ Same G' H' ∧ (∀ a, H a ≠ none → G a = none → G' a = none) := fun R' =>
    ⟨⟨fun a o n ea => R'.h0 a o (fun i z => nomatch z) n ea, R'.tb0, R'.h1⟩, R'.g0, R'.gh, R'.nw⟩
  refine h ds cs r hp _ G H _ { nx := fun _ H' => Q .non H', rt := Q } R (fun σ' G' H' δ' hn R' _ => ?_) (fun v σ' G' H' δ' r' hr R' _ ok => ?_) (fun _ _ _ _ z => z.elim) (fun _ _ _ _ z => z.elim)
  · obtain ⟨k1, k2, k3, k4⟩ := nw R'
    have hn : r = .val .non := hn
    subst hn
    exact q .non G' H' k1 k2 k3 k4 .non
  · obtain ⟨k1, k2, k3, k4⟩ := nw R'
    have hr : r' = r := hr
    subst hr
    exact q v G' H' k1 k2 k3 k4 ok
/-- what is asked of a body that changes private objects: they stand behind the first n slots -/
def GivesM (n : Nat) (M : Rt → List (Addr × CC) → Prop) : Post := { nx := fun δ' => ∃ cs', δ'.drop n = clw cs' ∧ M (.val .non) cs', rt := fun r δ' => ∃ cs', δ'.drop n = clw cs' ∧ M r cs', bk := fun _ => False, ct := fun _ => False }
theorem defM_ok {PP : List PD → List (Addr × CC) → (Rt → List (Addr × CC) → Prop) → Prop} {N : List Str} {ts : TS} (h : ∀ ds cs M, PP ds cs M → Sx K ts (ae N.length ds ++ clw cs) (GivesM N.length M)) (vs : List V) (H : Hp) (Q : VK) (E : XK) (hsp : spM K PP vs H Q E) : ts { nx := fun _ H' => Q .non H', rt := Q } (L2.start N vs) H := by
  obtain ⟨G, ds, cs, M, e, tb, rs, hc, hp, q⟩ := hsp
  have R := repS_startC (N := N) true e tb rs hc
  have done : ∀ {r : Rt} {v : V} {cs' : List (Addr × CC)} {G' H' : Hp} {σ' : St} {δ' : AE}, RepS K ⟨G, H, cs.map fun pc => (0, pc.1)⟩ G' H' σ' δ' → δ'.drop N.length = clw cs' → M r cs' → RtOk K H G' H' v r → Q v H' := fun {r v cs' G' H' σ' δ'} R' hd hM hv => by
    have cell : ∀ i pc, cs'[i]? = some pc → δ'[N.length + i]? = some (.cell pc.1 true pc.2) := fun i pc hi => by
      rw [← List.getElem?_drop, hd]
      unfold clw
      rw [List.getElem?_map, hi]
      rfl
    refine q r cs' v G' H' hM ⟨fun a o hn nt ea => R'.h0 a o (fun i z => hn ?_) nt ea, R'.tb0, R'.h1⟩ R'.g0 R'.gh R'.nw ⟨fun pc hpc => ?_, ?_⟩ (fun pc hpc => ?_) hv
    · obtain ⟨pc, h1, h2⟩ := List.mem_map.mp z
      cases h2
      exact ⟨pc.2, h1⟩
    · obtain ⟨i, hi⟩ := List.getElem?_of_mem hpc
      have k := R'.getC (cell i pc hi)
      exact ⟨k.1, k.2.2⟩
    · refine List.pairwise_iff_getElem.mpr fun i j li lj hij => ?_
      rw [List.length_map] at li lj
      rw [List.getElem_map, List.getElem_map]
      intro z
      have h1 := Holds.cl (σ := σ') (cell i _ (List.getElem?_eq_getElem li))
      have h2 := Holds.cl (σ := σ') (cell j _ (List.getElem?_eq_getElem lj))
      rw [← z] at h2
      have := R'.dj _ _ _ h1 h2
      omega
    · obtain ⟨i, hi⟩ := List.getElem?_of_mem hpc
      rcases (R'.getC (cell i pc hi)).2.1 rfl with b | ⟨j, b⟩
      · exact Or.inr b
      · obtain ⟨pc', h1, h2⟩ := List.mem_map.mp b
        refine Or.inl ⟨pc'.2, ?_⟩
        have e3 : pc'.1 = pc.1 := congrArg Prod.snd h2
        rw [← e3]
        exact h1
  refine h ds cs M hp _ G H _ { nx := fun _ H' => Q .non H', rt := Q } R (fun σ' G' H' δ' hn R' _ => ?_) (fun v σ' G' H' δ' r' hr R' _ ok => ?_) (fun _ _ _ _ z => z.elim) (fun _ _ _ _ z => z.elim)
  · obtain ⟨cs', h1, h2⟩ := hn
    exact done R' h1 h2 (r := .val .non) Rep.non
  · obtain ⟨cs', h1, h2⟩ := hr
    exact done R' h1 h2 ok
theorem spR_len {PP : List PD → List (Addr × CC) → Rt → Prop} {n : Nat} (h : ∀ ds cs r, PP ds cs r → ds.length = n) (vs : List V) (H : Hp) (Q : VK) (E : XK) (hsp : spR K PP vs H Q E) : vs.length = n := by
  obtain ⟨G, ds, cs, r, e, tb, rs, hc, hp, q⟩ := hsp
  rw [rs.length]
  exact h ds cs r hp
theorem spM_len {PP : List PD → List (Addr × CC) → (Rt → List (Addr × CC) → Prop) → Prop} {n : Nat} (h : ∀ ds cs r, PP ds cs r → ds.length = n) (vs : List V) (H : Hp) (Q : VK) (E : XK) (hsp : spM K PP vs H Q E) : vs.length = n := by
  obtain ⟨G, ds, cs, r, e, tb, rs, hc, hp, q⟩ := hsp
  rw [rs.length]
  exact h ds cs r hp
end
end Fw
/-! the layer: calls with private objects, pop -/
namespace Fw
open PySem L2
section
variable {K : FK} {B : Base} {G H G' H' : Hp} {σ : St} {δ δ0 : AE}
theorem app_at {δ0 : AE} {cs : List (Addr × CC)} {i : Nat} {s : Sl} (h : (δ0 ++ clw cs)[i]? = some s) : (i < δ0.length ∧ δ0[i]? = some s) ∨ (δ0.length ≤ i ∧ ∃ pc, cs[i - δ0.length]? = some pc ∧ s = .cell pc.1 true pc.2) := by
  by_cases hi : i < δ0.length
  · rw [List.getElem?_append_left hi] at h; exact Or.inl ⟨hi, h⟩
  · rw [List.getElem?_append_right (by omega)] at h; exact Or.inr ⟨by omega, cl_at h⟩
theorem app_cell {δ0 : AE} {cs : List (Addr × CC)} {i : Nat} {pc : Addr × CC} (h : cs[i]? = some pc) : (δ0 ++ clw cs)[δ0.length + i]? = some (.cell pc.1 true pc.2) := by
  rw [List.getElem?_append_right (by omega), Nat.add_sub_cancel_left]
  unfold clw
  rw [List.getElem?_map, h]
  rfl
theorem RepS.cellsW {cs : List (Addr × CC)} (R : RepS K B G H σ (δ0 ++ clw cs)) : CellsOk K G H cs := by
  refine ⟨fun pc hpc => ?_, ?_⟩
  · obtain ⟨i, hi⟩ := List.getElem?_of_mem hpc
    have k := R.getC (app_cell hi)
    exact ⟨k.1, k.2.2⟩
  · refine List.pairwise_iff_getElem.mpr fun i j li lj hij => ?_
    rw [List.length_map] at li lj
    rw [List.getElem_map, List.getElem_map]
    intro z
    have h1 := Holds.cl (σ := σ) (app_cell (δ0 := δ0) (List.getElem?_eq_getElem li))
    have h2 := Holds.cl (σ := σ) (app_cell (δ0 := δ0) (List.getElem?_eq_getElem lj))
    rw [← z] at h2
    have := R.dj _ _ _ h1 h2
    omega
/-- behind a call that changes the private objects cs -/
theorem RepS.callM {cs cs' : List (Addr × CC)} (R : RepS K B G H σ (δ0 ++ clw cs)) (hx : SamX H H' fun a => ∃ c, (a, c) ∈ cs) (eg : Same G G') (gh : Same G' H') (n : ∀ a, H a ≠ none → G a = none → G' a = none) (ok : CellsOk K G' H' cs') (hf : ∀ pc ∈ cs', (∃ c, (pc.1, c) ∈ cs) ∨ H pc.1 = none) (hl : σ.length ≤ δ0.length) : RepS K B G' H' σ (δ0 ++ clw cs') := by
  have old : ∀ a, (∃ c, (a, c) ∈ cs) → ∃ i, δ0.length ≤ i ∧ Holds σ (δ0 ++ clw cs) i a ∧ (B.H a = none ∨ ∃ j, (j, a) ∈ B.S) := fun a ⟨c, hc⟩ => by
    obtain ⟨i, hi⟩ := List.getElem?_of_mem hc
    have e := app_cell (δ0 := δ0) hi
    exact ⟨_, Nat.le_add_right _ _, Holds.cl e, (R.getC e).2.1 rfl⟩
  have low : ∀ i p, i < δ0.length → Holds σ (δ0 ++ clw cs') i p → Holds σ (δ0 ++ clw cs) i p := fun i p hi h => h.eq rfl (by rw [List.getElem?_append_left hi, List.getElem?_append_left hi])
  have high : ∀ i p, δ0.length ≤ i → Holds σ (δ0 ++ clw cs') i p → ∃ pc, cs'[i - δ0.length]? = some pc ∧ pc.1 = p := fun i p hi h => by
    have at' : ∀ s, (δ0 ++ clw cs')[i]? = some s → ∃ pc, cs'[i - δ0.length]? = some pc ∧ s = .cell pc.1 true pc.2 := fun s e => by
      rcases app_at e with ⟨l, _⟩ | ⟨_, k⟩
      · omega
      · exact k
    rcases h with ⟨_, o, z | z⟩ | ⟨w, c, z⟩
    · obtain ⟨_, _, k⟩ := at' _ z; cases k
    · obtain ⟨_, _, k⟩ := at' _ z; cases k
    · obtain ⟨pc, k1, k⟩ := at' _ z; cases k; exact ⟨pc, k1, rfl⟩
  have mix : ∀ i j p, i < δ0.length → δ0.length ≤ j → Holds σ (δ0 ++ clw cs') i p → Holds σ (δ0 ++ clw cs') j p → False := fun i j p hi hj h1 h2 => by
    obtain ⟨pc, k1, k2⟩ := high j p hj h2
    have h1' := low i p hi h1
    rcases hf pc (List.mem_of_getElem? k1) with k | k
    · obtain ⟨m, lm, hm, _⟩ := old pc.1 k
      rw [k2] at hm
      have := R.dj i m p h1' hm
      omega
    · rw [k2] at k
      obtain ⟨_, u, _, e⟩ := R.held h1'
      rw [k] at e; cases e
  refine R.callX hx eg gh n (fun a ha => ?_) (fun i s e => ?_) (fun i j p h1 h2 => ?_) (by rw [List.length_append]; omega)
  · obtain ⟨i, _, h1, h2⟩ := old a ha
    exact ⟨⟨i, h1⟩, h2⟩
  · rcases app_at e with ⟨l, e1⟩ | ⟨l, pc, h1, rfl⟩
    · refine Or.inl ⟨by rw [List.getElem?_append_left l]; exact e1, fun a ha hc => ?_⟩
      obtain ⟨m, lm, hm, _⟩ := old a hc
      have := R.dj i m a ha hm
      omega
    · refine Or.inr ⟨List.getElem?_eq_none (by omega), (ok.ok pc (List.mem_of_getElem? h1)).1, fun _ => ?_, (ok.ok pc (List.mem_of_getElem? h1)).2⟩
      rcases hf pc (List.mem_of_getElem? h1) with k | k
      · obtain ⟨_, _, _, b⟩ := old pc.1 k
        exact b
      · exact Or.inl (R.newFree k)
  · by_cases hi : i < δ0.length
    · by_cases hj : j < δ0.length
      · exact R.dj i j p (low i p hi h1) (low j p hj h2)
      · exact (mix i j p hi (by omega) h1 h2).elim
    · by_cases hj : j < δ0.length
      · exact (mix j i p hj (by omega) h2 h1).elim
      · obtain ⟨x, k1, k2⟩ := high i p (by omega) h1
        obtain ⟨y, k3, k4⟩ := high j p (by omega) h2
        have := nd_at ok.nd k1 k3 (k2.trans k4.symm)
        omega
end
section
variable {K : FK} {δ δ0 : AE} {ta tb te tx tv : TE} {t : TA} {tz : TS} {a b c d dk : PD} {P : Post} {p C dx : Addr} {w : Bool} {f m : Str} {fs : List (Str × PD)} {j : Nat} {ds : List PD} {E : XK}
/-- the private objects at hand -/
def Sees (δ : AE) (cs : List (Addr × CC)) : Prop := (∀ pc ∈ cs, ∃ w, Sl.cell pc.1 w pc.2 ∈ δ) ∧ (cs.map (·.1)).Nodup
theorem RepS.sees {B : Base} {G H : Hp} {σ : St} {cs : List (Addr × CC)} (R : RepS K B G H σ δ) (h : Sees δ cs) : CellsOk K G H cs := ⟨fun pc hpc => by
  obtain ⟨w, hw⟩ := h.1 pc hpc
  obtain ⟨i, hi⟩ := List.getElem?_of_mem hw
  have k := R.getC hi
  exact ⟨k.1, k.2.2⟩, h.2⟩
/-- private objects at the places is of δ -/
def atC (δ : AE) : List Nat → List (Addr × CC) → Prop
  | [], [] => True
  | i :: is, pc :: cs => (∃ w, δ[i]? = some (.cell pc.1 w pc.2)) ∧ atC δ is cs
  | _, _ => False
theorem atC_at : ∀ {is : List Nat} {cs : List (Addr × CC)}, atC δ is cs → is.length = cs.length ∧ ∀ (k i : Nat) (pc : Addr × CC), is[k]? = some i → cs[k]? = some pc → ∃ w, δ[i]? = some (.cell pc.1 w pc.2)
  | [], [], _ => ⟨rfl, fun k i pc h => by cases h⟩
  | [], _ :: _, h => h.elim
  | _ :: _, [], h => h.elim
  | i :: is, pc :: cs, ⟨h1, h2⟩ => by
    obtain ⟨l, k⟩ := atC_at h2
    refine ⟨by rw [List.length_cons, List.length_cons, l], fun n i' pc' e1 e2 => ?_⟩
    cases n with
    | zero => cases e1; cases e2; exact h1
    | succ n => exact k n i' pc' e1 e2
theorem RepS.atC {B : Base} {G H : Hp} {σ : St} {is : List Nat} {cs : List (Addr × CC)} (R : RepS K B G H σ δ) (h : Fw.atC δ is cs) (nd : is.Nodup) : CellsOk K G H cs := by
  obtain ⟨l, k⟩ := atC_at h
  refine ⟨fun pc hpc => ?_, ?_⟩
  · obtain ⟨n, hn⟩ := List.getElem?_of_mem hpc
    have ln := (List.getElem?_eq_some_iff.mp hn).1
    obtain ⟨w, hw⟩ := k n is[n] pc (List.getElem?_eq_getElem (by omega)) hn
    have z := R.getC hw
    exact ⟨z.1, z.2.2⟩
  · refine List.pairwise_iff_getElem.mpr fun i j li lj hij => ?_
    rw [List.length_map] at li lj
    rw [List.getElem_map, List.getElem_map]
    intro z
    obtain ⟨w1, h1⟩ := k i is[i] _ (List.getElem?_eq_getElem (by omega)) (List.getElem?_eq_getElem li)
    obtain ⟨w2, h2⟩ := k j is[j] _ (List.getElem?_eq_getElem (by omega)) (List.getElem?_eq_getElem lj)
    rw [← z] at h2
    have e := R.dj _ _ _ (Holds.cl (σ := σ) h1) (Holds.cl h2)
    exact (List.pairwise_iff_getElem.mp nd) i j (by omega) (by omega) hij e
/-- f(..), o.m(..): private objects are read -/
theorem ev_callR {PP : List PD → List (Addr × CC) → Rt → Prop} {is : List Nat} {cs : List (Addr × CC)} (ha : Evs K t δ ds) (hc : atC δ is cs) (nd : is.Nodup) (h : PP ds cs (.val d)) : Evd K (tCall (spR K PP) [] E t) δ d := fun B G H σ R Q q =>
  ha B G H σ R _ fun vs G1 H1 R1 s rs => by
    rw [List.append_nil]
    exact ⟨G1, ds, cs, .val d, R1.gh, R1.tb, rs, R1.atC hc nd, h, fun v G' H' eh' eg' gh' n r => q v G' H' (R1.step eg' eh' gh' n) (s.trans ⟨eg', eh', gh', n⟩) r⟩
theorem ev_methR {PP : List PD → List (Addr × CC) → Rt → Prop} {is : List Nat} {cs : List (Addr × CC)} (ho : Evd K ta δ (.adr p)) (hj : δ[j]? = some (.cell p w (.ins C dx fs))) (hm : fs.lookup m = none) (ha : Evs K t δ ds) (hc : atC δ is cs) (nd : is.Nodup) (h : PP (.adr p :: ds) cs (.val d)) : Evd K (tMeth C m (spR K PP) [] E ta t) δ d := fun B G H σ R Q q =>
  ho B G H σ R _ fun v G1 H1 R1 s1 rv => by
    obtain ⟨_, _, us, hp, e, _⟩ := R1.getC hj
    refine ⟨p, dx, us, rep_adr rv, hp, fields_none e hm, ha B G1 H1 σ R1 _ fun vs G2 H2 R2 s2 rs => ?_⟩
    rw [List.append_nil, rep_adr rv]
    exact ⟨G2, .adr p :: ds, cs, .val d, R2.gh, R2.tb, .cons (.adr p) rs, R2.atC hc nd, h, fun v G' H' eh' eg' gh' n r => q v G' H' (R2.step eg' eh' gh' n) ((s1.trans s2).trans ⟨eg', eh', gh', n⟩) r⟩
/-- o.m(..): the private objects are changed -/
theorem s_methM {PP : List PD → List (Addr × CC) → (Rt → List (Addr × CC) → Prop) → Prop} {M : Rt → List (Addr × CC) → Prop} {cs : List (Addr × CC)} (hδ : δ = δ0 ++ clw cs) (hl : cs ≠ []) (ho : Evd K ta δ (.adr p)) (hj : δ[j]? = some (.cell p w (.ins C dx fs))) (hm : fs.lookup m = none) (ha : Evs K t δ ds)
    (h : PP (.adr p :: ds) cs M) (k : ∀ d cs', M d cs' → P.nx (δ0 ++ clw cs')) : Sx K (tDrop (tMeth C m (spM K PP) [] E ta t)) δ P := fun B G H σ D R hnx hr hb hct => by
  subst hδ
  refine ho B G H σ R _ fun v G1 H1 R1 s1 rv => ?_
  obtain ⟨_, _, us, hp, e, _⟩ := R1.getC hj
  refine ⟨p, dx, us, rep_adr rv, hp, fields_none e hm, ha B G1 H1 σ R1 _ fun vs G2 H2 R2 s2 rs => ?_⟩
  rw [List.append_nil, rep_adr rv]
  refine ⟨G2, .adr p :: ds, cs, M, R2.gh, R2.tb, .cons (.adr p) rs, R2.cellsW, h, fun d cs' v G' H' hM hx eg gh n ok hf _ => ?_⟩
  have hlen : σ.length ≤ δ0.length := by
    obtain ⟨pc, r, rfl⟩ : ∃ pc r, cs = pc :: r := by
      cases cs with
      | nil => exact absurd rfl hl
      | cons pc r => exact ⟨pc, r, rfl⟩
    have k1 := (R.sl _ _ (app_cell (δ0 := δ0) (cs := pc :: r) (i := 0) rfl)).1
    rw [List.getElem?_eq_none_iff] at k1
    omega
  exact hnx _ _ _ _ (k d cs' hM) (R2.callM hx eg gh n ok hf hlen) ((s1.eg.trans s2.eg).trans eg)
theorem q_methM {PP : List PD → List (Addr × CC) → (Rt → List (Addr × CC) → Prop) → Prop} {M : Rt → List (Addr × CC) → Prop} {cs : List (Addr × CC)} (hδ : δ = δ0 ++ clw cs) (hl : cs ≠ []) (ho : Evd K ta δ (.adr p)) (hj : δ[j]? = some (.cell p w (.ins C dx fs))) (hm : fs.lookup m = none) (ha : Evs K t δ ds)
    (h : PP (.adr p :: ds) cs M) (k : ∀ d cs', M d cs' → Sx K tz (δ0 ++ clw cs') P) : Sx K (tSeq (tDrop (tMeth C m (spM K PP) [] E ta t)) tz) δ P :=
  sx_seq (M := fun d' => ∃ d cs', M d cs' ∧ d' = δ0 ++ clw cs') (s_methM hδ hl ho hj hm ha h fun d cs' hM => ⟨d, cs', hM, rfl⟩) fun _ ⟨d, cs', hM, e⟩ => by subst e; exact k d cs' hM
/-- x = C(): a new instance -/
theorem q_make {PP : List PD → List (Addr × CC) → (Rt → List (Addr × CC) → Prop) → Prop} {M : Addr → Addr → Rt → List (Addr × CC) → Prop} {i : Nat} (fr : notPn δ i = true) (hi : i < δ.length) (ha : Evs K t δ ds) (h : ∀ x dx, PP (.adr x :: ds) [(x, .ins C dx [])] (M x dx)) (k : ∀ x dx d cs', M x dx d cs' → d = .val .non ∧ Sx K tz (δ.set i (.sh (.adr x)) ++ clw cs') P) :
    Sx K (tSeq (tAsg (tMake C (spM K PP) [] E t) (gName i)) tz) δ P := fun B G H σ D R hnx hr hb hct =>
  ha B G H σ R _ fun vs G1 H1 R1 s1 rs x dx hx hdx nxd => by
    rw [List.append_nil]
    have R2 := R1.hid (o := .own x) hdx
    have hx2 : (upd H1 dx (.own x)) x = none := by rw [upd_ne (Ne.symm nxd)]; exact hx
    have R3 := R2.hid (o := .ins C dx []) hx2
    have gx : G1 x = none := fresh_back R1.gh hx
    have nh : ∀ j, ¬ Holds σ δ j x := R1.notHeld hx
    have R4 : RepS K B G1 _ σ (δ ++ clw [(x, .ins C dx [])]) := R3.addC (p := x) (c := .ins C dx []) gx (R1.newFree hx) ⟨[], upd_same, rfl, .nil⟩ nh
    refine ⟨G1, .adr x :: ds, [(x, .ins C dx [])], M x dx, R4.gh, R4.tb, .cons (.adr x) rs, R4.cellsW, h x dx, fun d cs' v G' H' hM hxx eg gh n ok hf rv => ?_⟩
    obtain ⟨ed, kk⟩ := k x dx d cs' hM
    subst ed
    have hlen : σ.length ≤ δ.length := R.ln
    have R5 := R4.callM hxx eg gh n ok hf hlen
    have fr5 : Free (δ ++ clw cs') i := by
      have f := np_of fr
      refine ⟨fun o z => f.np o ?_, fun p w c z => f.nc p w c ?_⟩
      · rw [List.getElem?_append_left hi] at z; exact z
      · rw [List.getElem?_append_left hi] at z; exact z
    have R6 := R5.setSh i (v := .ref x) (d := .adr x) (.adr x) fr5
    rw [List.set_append_left _ _ hi] at R6
    exact ⟨Rep.flat (d := .non) rv rfl, kk.after R6 (s1.eg.trans eg) hnx hr hb hct⟩
/-! ### pop -/
def dropD (kds : List (Key × PD)) (k : Key) : List (Key × PD) := kds.filter fun kd => decide (kd.1 ≠ k)
theorem RepsK.dropK {G : Hp} {kk : Key} : ∀ {vs : List (Key × V)} {ds : List (Key × PD)}, RepsK K G vs ds → RepsK K G (L2.dropK vs kk) (dropD ds kk)
  | _, _, .nil => .nil
  | (k0, v0) :: vs, (_, d0) :: ds, .cons h r => by
    unfold L2.dropK dropD
    rw [List.filter_cons, List.filter_cons]
    by_cases e : k0 = kk
    · rw [if_neg (by simp [e]), if_neg (by simp [e])]; exact RepsK.dropK r
    · rw [if_pos (by simp [e]), if_pos (by simp [e])]; exact .cons h (RepsK.dropK r)
theorem dropD_no {kk : Key} : ∀ {ds : List (Key × PD)}, look ds kk = none → dropD ds kk = ds
  | [], _ => rfl
  | (k0, d0) :: ds, h => by
    rw [look_cons] at h
    by_cases e : k0 = kk
    · rw [if_pos e] at h; cases h
    · rw [if_neg e] at h
      unfold dropD
      rw [List.filter_cons, if_pos (by simp [e])]
      exact congrArg _ (dropD_no h)
theorem repsK_none {G : Hp} {kk : Key} {vs : List (Key × V)} {ds : List (Key × PD)} (r : RepsK K G vs ds) (h : valV vs kk = none) : look ds kk = none := by
  have z := r.val kk
  rw [h] at z
  cases e : look ds kk with
  | none => rfl
  | some d => rw [e] at z; exact z.elim
/-- e.pop(k, v), e private -/
theorem s_popC {kds : List (Key × PD)} (ha : Evd K ta δ (.adr p)) (hj : δ[j]? = some (.cell p true (.od (.dic kds)))) (hk : Evd K tb δ dk) (fk : isKey dk = true) (hx : Evd K tx δ d) (k : P.nx (δ.set j (.cell p true (.od (.dic (dropD kds (keyOf dk))))))) : Sx K (tDrop (tDPop2 ta tb tx)) δ P := fun B G H σ D R hn hr hb hc =>
  ha B G H σ R _ fun x G1 H1 R1 s1 rx => by
    obtain ⟨_, _, vs1, hp1, _⟩ := R1.getC hj
    refine ⟨p, rep_adr rx, Or.inl ⟨vs1, Or.inl hp1⟩, hk B G1 H1 σ R1 _ fun y G2 H2 R2 s2 ry => hx B G2 H2 σ R2 _ fun z G3 H3 R3 s3 rz => ?_⟩
    obtain ⟨_, _, vs, hp, rs⟩ := R3.getC hj
    rw [ry.key fk]
    refine ⟨vs, keyOf dk, hp, rfl, fun v hv => ?_, fun hv => ?_⟩
    · exact hn _ _ _ _ k (R3.writeC hj ⟨_, upd_same, rs.dropK⟩) ((s1.eg.trans s2.eg).trans s3.eg)
    · rw [dropD_no (repsK_none rs hv)] at k
      have e : δ.set j (.cell p true (.od (.dic kds))) = δ := by
        apply List.ext_getElem?
        intro i
        by_cases ei : i = j
        · subst ei
          rw [List.getElem?_set_self (List.getElem?_eq_some_iff.mp hj).1, hj]
        · rw [List.getElem?_set_ne (Ne.symm ei)]
      rw [e] at k
      exact hn _ _ _ _ k R3 ((s1.eg.trans s2.eg).trans s3.eg)
/-- x.pop(k, v), x one's own -/
theorem s_popS {i : Nat} {kds : List (Key × PD)} (h : Has δ i (.dic kds)) (hk : Evd K tb δ dk) (fk : isKey dk = true) (hx : Evd K tx δ d) (k : P.nx (wr δ i (.dic (dropD kds (keyOf dk))))) : Sx K (tDrop (tDPop2 (tVar i) tb tx)) δ P := fun B G H σ D R hn hr hb hc => by
  obtain ⟨p, e, gp, hp, vs0, hv0, _⟩ := R.has h
  refine ⟨_, e, p, rfl, Or.inl ⟨vs0, Or.inl hv0⟩, hk B G H σ R _ fun y G2 H2 R2 s2 ry => hx B G2 H2 σ R2 _ fun z G3 H3 R3 s3 rz => ?_⟩
  obtain ⟨p', e', gp', hp', vs, hv, rs⟩ := R3.has h
  rw [e] at e'
  cases e'
  rw [ry.key fk]
  refine ⟨vs, keyOf dk, hv, rfl, fun v hvv => ?_, fun hvv => ?_⟩
  · exact hn _ _ _ _ k (R3.wr h hp' ⟨_, upd_same, rs.dropK⟩) (s2.eg.trans s3.eg)
  · rw [dropD_no (repsK_none rs hvv)] at k
    have e : wr δ i (.dic kds) = δ := by
      have es : ∀ s, δ[i]? = some s → δ.set i s = δ := fun s hs => by
        apply List.ext_getElem?
        intro m
        by_cases em : m = i
        · subst em
          rw [List.getElem?_set_self (List.getElem?_eq_some_iff.mp hs).1, hs]
        · rw [List.getElem?_set_ne (Ne.symm em)]
      unfold wr
      rcases h with h | h
      · rw [h]; exact es _ h
      · rw [h]; exact es _ h
    rw [e] at k
    exact hn _ _ _ _ k R3 (s2.eg.trans s3.eg)
end
end Fw
/-! the layer: methods -/
namespace Fw
open PySem PySem.Spec PyProof.Rows L2
section
variable {P : Program} {w : World} {K : PySem.W.Frag} {mg : Str → Option Value} {base : Heap} {C : Addr}
/-- a method of the class at C -/
def MDefAt (K : PySem.W.Frag) (C : Addr) (m q : Str) (st : Stmt) : Prop := ∃ f fd, FunD K m q (defArgs st) (defBody st) (defScope st) [] [] f fd ∧ Meth K C m f
/-- its __init__ -/
def IDefAt (K : PySem.W.Frag) (C : Addr) (m q : Str) (st : Stmt) : Prop := ∃ f fd, FunD K m q (defArgs st) (defBody st) (defScope st) [] [] f fd ∧ Mk K C f
structure OkMAt (P : Program) (w : World) (K : PySem.W.Frag) (mg : Str → Option Value) (base : Heap) (k : Nat) (C : Addr) (m : Str) (ps : List Str) (sp : Sp) (f : Addr) (fd : FuncData) : Prop where
  ok : FnOk P w K mg base CX0 k f fd ps sp
  me : Meth K C m f
  bi : Binds K fd ps []
structure OkIAt (P : Program) (w : World) (K : PySem.W.Frag) (mg : Str → Option Value) (base : Heap) (k : Nat) (C : Addr) (ps : List Str) (sp : Sp) (f : Addr) (fd : FuncData) : Prop where
  ok : FnOk P w K mg base CX0 k f fd ps sp
  md : Mk K C f
  bi : Binds K fd ps []
def OkM (P : Program) (w : World) (K : PySem.W.Frag) (mg : Str → Option Value) (base : Heap) (k : Nat) (C : Addr) (m : Str) (ps : List Str) (sp : Sp) : Prop := ∃ f fd, OkMAt P w K mg base k C m ps sp f fd
def OkI (P : Program) (w : World) (K : PySem.W.Frag) (mg : Str → Option Value) (base : Heap) (k : Nat) (C : Addr) (ps : List Str) (sp : Sp) : Prop := ∃ f fd, OkIAt P w K mg base k C ps sp f fd
theorem fun_by {x q : Str} {st : Stmt} {N ps : List Str} {k : Nat} {sp : Sp} {ts : TS} {f : Addr} {fd : FuncData} (F : FunD K x q (defArgs st) (defBody st) (defScope st) [] [] f fd) (S : FnScope N ps (defScope st)) (len : ∀ vs H Q E, sp vs H Q E → vs.length = ps.length)
    (rd : ∀ (vs : List V) (H : Hp) (Q : VK) (E : XK), sp vs H Q E → ts { nx := fun _ H' => Q .non H', rt := Q } (L2.start N vs) H)
    (hd : ∀ (f : Addr) (cdv : Value) (A : Around) (outer : List Env) (s : Shared) (H : Hp) (E : XK), Room k (A.deeper (envOfC q (defScope st) s.heap.objs.size f cdv)) →
      PSs (cxOf CX0 P w K mg base N q (defScope st) f cdv A outer s H E).nox (defBody st) ts) : FnOk P w K mg base CX0 (k + 1) f fd ps sp :=
  F.ok S len fun cdv A outer s H vs Q E hr h => ⟨ts, (hd f cdv A outer s H E hr).nox, rd vs H Q E h⟩
theorem OkM.by_ {m q : Str} {st : Stmt} {N ps : List Str} {k : Nat} {sp : Sp} {ts : TS} (D : MDefAt K C m q st) (S : FnScope N ps (defScope st)) (len : ∀ vs H Q E, sp vs H Q E → vs.length = ps.length)
    (hb : ∀ (kV doc pm : Value) (an : Option Addr) (cdv ct : Value) (us : List Value), us.length = ps.length → bindArgs (PySem.W.fnOf m q (defArgs st) (defBody st) (defScope st) .none kV doc pm an cdv ct) ⟨us, []⟩ = pure (ps.zip us))
    (rd : ∀ (vs : List V) (H : Hp) (Q : VK) (E : XK), sp vs H Q E → ts { nx := fun _ H' => Q .non H', rt := Q } (L2.start N vs) H)
    (hd : ∀ (f : Addr) (cdv : Value) (A : Around) (outer : List Env) (s : Shared) (H : Hp) (E : XK), Room k (A.deeper (envOfC q (defScope st) s.heap.objs.size f cdv)) →
      PSs (cxOf CX0 P w K mg base N q (defScope st) f cdv A outer s H E).nox (defBody st) ts) : OkM P w K mg base (k + 1) C m ps sp := by
  obtain ⟨f, fd, F, me⟩ := D
  exact ⟨f, fd, fun_by F S len rd hd, me, F.bindsN hb⟩
theorem OkI.by_ {m q : Str} {st : Stmt} {N ps : List Str} {k : Nat} {sp : Sp} {ts : TS} (D : IDefAt K C m q st) (S : FnScope N ps (defScope st)) (len : ∀ vs H Q E, sp vs H Q E → vs.length = ps.length)
    (hb : ∀ (kV doc pm : Value) (an : Option Addr) (cdv ct : Value) (us : List Value), us.length = ps.length → bindArgs (PySem.W.fnOf m q (defArgs st) (defBody st) (defScope st) .none kV doc pm an cdv ct) ⟨us, []⟩ = pure (ps.zip us))
    (rd : ∀ (vs : List V) (H : Hp) (Q : VK) (E : XK), sp vs H Q E → ts { nx := fun _ H' => Q .non H', rt := Q } (L2.start N vs) H)
    (hd : ∀ (f : Addr) (cdv : Value) (A : Around) (outer : List Env) (s : Shared) (H : Hp) (E : XK), Room k (A.deeper (envOfC q (defScope st) s.heap.objs.size f cdv)) →
      PSs (cxOf CX0 P w K mg base N q (defScope st) f cdv A outer s H E).nox (defBody st) ts) : OkI P w K mg base (k + 1) C ps sp := by
  obtain ⟨f, fd, F, me⟩ := D
  exact ⟨f, fd, fun_by F S len rd hd, me, F.bindsN hb⟩
end
section
variable {X : Cx} {x m : Str} {e o : Expr} {es : List Expr} {ta : TE} {t : TA} {p pos apos : Pos} {C : Addr} {k : Nat} {ps : List Str} {sp : Sp}
theorem pe_methO {pl : Sem Bool} (ok : OkM X.prog X.w X.K X.mg X.base k C m ps sp) (hr : Room k X.A) (c : Cls X.K C) (he : PE X o ta) (ha : PA X (e :: es) t)
    (hst : starEach (e :: es) X.env = (false, eval e X.env) :: starEach es X.env := by rfl) (hpl : (backTo pos (starEach es X.env)).any (·.1) = false := by rfl) (hx : Passes CX0 X E0 := by exact pass0)
    (ht : eval (.Call (.Attribute o m apos) (e :: es) [] pos) X.env = (do
      let ov ← eval o X.env
      standAt apos.atName
      let (f, first) ← holding [ov] (getMethod ov m pl)
      callWith pos f first (backTo pos (starEach (e :: es) X.env)) (backToKw pos (keywordEach [] X.env))) := by rfl) :
    PE X (.Call (.Attribute o m apos) (e :: es) [] pos) (tMeth C m sp [] E0 ta t) := by
  obtain ⟨f, fd, k1⟩ := ok
  exact pe_meth he c k1.me k1.ok hr k1.bi .nil hx ha hst hpl ht
theorem pe_methO0 {pl : Sem Bool} (ok : OkM X.prog X.w X.K X.mg X.base k C m ps sp) (hr : Room k X.A) (c : Cls X.K C) (he : PE X o ta) (hx : Passes CX0 X E0 := by exact pass0)
    (ht : eval (.Call (.Attribute o m apos) [] [] pos) X.env = (do
      let ov ← eval o X.env
      standAt apos.atName
      let (f, first) ← holding [ov] (getMethod ov m pl)
      callWith pos f first (backTo pos (starEach [] X.env)) (backToKw pos (keywordEach [] X.env))) := by rfl) :
    PE X (.Call (.Attribute o m apos) [] [] pos) (tMeth C m sp [] E0 ta tNil) := by
  obtain ⟨f, fd, k1⟩ := ok
  exact pe_meth0 he c k1.me k1.ok hr k1.bi .nil hx ht
theorem pe_makeO0 (ok : OkI X.prog X.w X.K X.mg X.base k C ps sp) (hr : Room (k + 1) X.A) (hg : Gl X x) (hm : X.mg x = some (.ref C)) (hdb : (x == ("__debug__" : Str)) = false := by decide) (hx : Passes CX0 X E0 := by exact pass0) : PE X (.Call (.Name x p) [] [] pos) (tMake C sp [] E0 tNil) := by
  obtain ⟨f, fd, k1⟩ := ok
  exact pe_make0 k1.md k1.ok hr hg hm k1.bi .nil hx hdb
theorem pe_makeO (ok : OkI X.prog X.w X.K X.mg X.base k C ps sp) (hr : Room (k + 1) X.A) (hg : Gl X x) (hm : X.mg x = some (.ref C)) (ha : PA X (e :: es) t) (hdb : (x == ("__debug__" : Str)) = false := by decide)
    (he : starEach (e :: es) X.env = (false, eval e X.env) :: starEach es X.env := by rfl) (hpl : (backTo pos (starEach es X.env)).any (·.1) = false := by rfl) (hx : Passes CX0 X E0 := by exact pass0) : PE X (.Call (.Name x p) (e :: es) [] pos) (tMake C sp [] E0 t) := by
  obtain ⟨f, fd, k1⟩ := ok
  exact pe_make k1.md k1.ok hr hg hm k1.bi .nil hx ha hdb he hpl
end
/-! ### more readings -/
section
variable {K : FK} {δ : AE} {ta tb te tx : TE} {a b c d dk : PD}
/-- d.get(k, x), whatever the key -/
theorem ev_dgetK {kds : List (Key × PD)} {d0 : PD} (ha : Rdo K ta δ (.dic kds)) (hb : Evd K tb δ dk) (fk : isKey dk = true) (hc : Evd K tx δ d0) : Evd K (tDGet2 ta tb tx) δ ((look kds (keyOf dk)).getD d0) := fun B G H σ R Q q =>
  ha B G H σ R _ fun p G1 H1 R1 s1 ok => by
    obtain ⟨kvs, hp, rs⟩ := ok
    refine ⟨p, rfl, Or.inl ⟨kvs, Or.inl hp⟩, hb B G1 H1 σ R1 _ fun y G2 H2 R2 s2 ry => hc B G2 H2 σ R2 _ fun z G3 H3 R3 s3 rz => ?_⟩
    rw [ry.key fk]
    have r := ((rs.mono s2.eg).mono s3.eg).val (keyOf dk)
    refine ⟨valV kvs (keyOf dk), Or.inl ⟨kvs, keyOf dk, Or.inl (s3.eh.get _ _ (s2.eh.get _ _ hp)), rfl, rfl⟩, ?_⟩
    cases e : valV kvs (keyOf dk) with
    | none =>
      rw [e] at r
      cases el : look kds (keyOf dk) with
      | none => rw [el] at q; exact q z G3 H3 R3 ((s1.trans s2).trans s3) rz
      | some u => rw [el] at r; exact r.elim
    | some v =>
      rw [e] at r
      cases el : look kds (keyOf dk) with
      | none => rw [el] at r; exact r.elim
      | some u => rw [el] at q r; exact q v G3 H3 R3 ((s1.trans s2).trans s3) r
/-- k in d, whatever the key -/
theorem ev_dinK {kds : List (Key × PD)} (hb : Evd K tb δ dk) (fk : isKey dk = true) (ha : Rdo K ta δ (.dic kds)) : Evd K (tDIn tb ta) δ (.bl (look kds (keyOf dk)).isSome) := fun B G H σ R Q q =>
  hb B G H σ R _ fun y G1 H1 R1 s1 ry => ha B G1 H1 σ R1 _ fun p G2 H2 R2 s2 ok => by
    obtain ⟨kvs, hp, rs⟩ := ok
    rw [ry.key fk]
    have r := optRep_some (rs.val (keyOf dk))
    refine ⟨p, valV kvs (keyOf dk), rfl, Or.inl ⟨kvs, keyOf dk, Or.inl hp, rfl, rfl⟩, ?_⟩
    rw [r]
    exact q _ G2 H2 R2 (s1.trans s2) (.bl _)
end
end Fw
/-! the layer: a private dict walked through in a dict comprehension; an own object becomes a private one -/
namespace Fw
open PySem L2
section
variable {K : FK} {δ : AE} {te tk tv : TE} {tt : TT} {tz : TS} {d : PD} {P : Post} {p : Addr} {j : Nat}
theorem RepsK.at {G : Hp} {i : Nat} {k : Key} {v : V} : ∀ {vs : List (Key × V)} {ds : List (Key × PD)} {i : Nat}, RepsK K G vs ds → vs[i]? = some (k, v) → ∃ d, ds[i]? = some (k, d) ∧ Rep K G v d
  | _, _, _, .nil, e => by simp at e
  | _, _, 0, .cons h _, e => by
    simp at e
    obtain ⟨e1, e2⟩ := e
    subst e1 e2
    exact ⟨_, rfl, h⟩
  | _, _, i + 1, .cons _ r, e => by
    obtain ⟨d, h1, h2⟩ := RepsK.at (i := i) r (by simpa using e)
    exact ⟨d, by simpa using h1, h2⟩
/-- {.. for a, b in e.items() ..} of a private dict -/
theorem eo_dcI {kds : List (Key × PD)} {g : TG} {vs : List Nat} (fk : Nat → Option (Key × PD)) (hj : δ[j]? = some (.cell p true (.od (.dic kds)))) (ha : ∀ od, Evd K te (δ.set j (.cell p true (.lk od kds))) (.adr p)) (hn : kds.length ≤ 100000)
    (hs : ∀ (od : Obj) (i : Nat) (k0 : Key) (d0 : PD), kds[i]? = some (k0, d0) → ∃ δ' js, Evg K g (.tup [kPD k0, d0]) (wipeA (δ.set j (.cell p true (.lk od kds))) vs) δ' js ∧ (∀ m ∈ js, m ∈ vs) ∧ Evt K tt δ' (fk i).isSome ∧ ∀ k v, fk i = some (k, v) → Evd K tk δ' (kPD k) ∧ Evd K tv δ' v) :
    Evo K (tLockE (tDc (iItems te) g tt tk tv vs)) δ (.dic (puts fk kds.length)) := fun B G H σ R Q q => by
  obtain ⟨gp, bp, kvs, hp, rk⟩ := R.getC hj
  refine ⟨p, .dK kvs, hp, True.intro, fun od => ?_⟩
  have R0 : RepS K B G (upd H p (.frz od (.dK kvs))) σ (δ.set j (.cell p true (.lk od kds))) := R.writeC hj ⟨kvs, upd_same, rk⟩
  refine ha od B G _ σ R0 _ fun x G1 H1 R1 s1 rx => ?_
  have hp1 : H1 p = some (.frz od (.dK kvs)) := s1.eh.get _ _ upd_same
  refine ⟨p, od, kvs, rep_adr rx, hp1, fun D hD => ?_⟩
  have rk1 := rk.mono s1.eg
  have dp : D ≠ p := fun z => by subst z; rw [hp1] at hD; cases hD
  have w := walk_items (d := p) (o := od) (kvs := kvs)
  refine dc_it w (fun i H' => ∃ G', Step G1 H1 G' H' ∧ G' D = none ∧ ∃ acc, H' D = some (.dK acc) ∧ RepsK K G' acc (puts fk i)) ⟨G1, (Step.refl R1.gh).hid hD, fresh_back R1.gh hD, [], upd_same, .nil⟩ (fun i H' hi ⟨G', s, _⟩ => s.eh.get _ _ hp1) ?_ ?_
  · rintro i x H2 H3 hi ⟨G2, s2, g2, acc, hacc, racc⟩ ⟨T, x1, y1, ex, hT, eH, k1, k2⟩
    subst ex eH
    have hik : kvs[i]? = some kvs[i] := List.getElem?_eq_getElem hi
    obtain ⟨⟨k0, v0⟩, ekv⟩ : ∃ kv, kvs[i] = kv := ⟨_, rfl⟩
    rw [ekv] at hik
    have k1' : (kvs[i]?.map fun kv => kV kv.1) = some x1 := k1
    have k2' : (kvs[i]?.map Prod.snd) = some y1 := k2
    rw [hik] at k1' k2'
    cases k1'
    cases k2'
    obtain ⟨d0, hd0, r0⟩ := RepsK.at (i := i) rk1 hik
    obtain ⟨δ', js, hg, hjj, ht, he⟩ := hs od i k0 d0 hd0
    have s3 : Step G2 H2 (upd G2 T (.tup [kV k0, v0])) (upd H2 T (.tup [kV k0, v0])) := step_tup s2.gh hT
    have r3 : Rep K (upd G2 T (.tup [kV k0, v0])) (.ref T) (.tup [kPD k0, d0]) := .tup (Or.inl (Or.inl upd_same)) (.cons (rep_kPD k0) (.cons ((r0.mono s2.eg).mono s3.eg) .nil))
    have R3 : RepS K B _ _ σ (δ.set j (.cell p true (.lk od kds))) := R1.st (s2.trans s3)
    refine hg B _ _ _ _ (R3.wipe vs) r3 _ fun σ3 R4 l4 k4 => ⟨wipe_eq l4 k4 hjj, ?_⟩
    refine ht B _ _ σ3 R4 _ fun G5 H5 R5 s5 => ?_
    cases hk : fk i with
    | none =>
      show ∃ G', _
      refine ⟨G5, (s2.trans s3).trans s5, (s3.trans s5).nw D (some_ne hacc) g2, acc, s5.eh.get _ _ (s3.eh.get _ _ hacc), ?_⟩
      show RepsK K G5 acc (match fk i with | some (k, d) => put (puts fk i) k d | none => puts fk i)
      rw [hk]
      exact (racc.mono s3.eg).mono s5.eg
    | some kd =>
      obtain ⟨k, v⟩ := kd
      obtain ⟨hk1, hk2⟩ := he k v hk
      show tk σ3 H5 _
      refine hk1 B G5 H5 σ3 R5 _ fun y G6 H6 R6 s6 r6 => hk2 B G6 H6 σ3 R6 _ fun z G7 H7 R7 s7 r7 => ?_
      have ey : y = kV k := by
        cases k with
        | inl i => exact Rep.flat (d := .int i) r6 rfl
        | inr x => exact Rep.flat (d := .str x) r6 rfl
      have gD : G7 D = none := (((s3.trans s5).trans s6).trans s7).nw D (some_ne hacc) g2
      refine ⟨acc, k, ey, s7.eh.get _ _ (s6.eh.get _ _ (s5.eh.get _ _ (s3.eh.get _ _ hacc))), ?_, ?_⟩
      · rw [racc.length]
        exact Nat.lt_of_le_of_lt (puts_len fk i) (Nat.lt_of_lt_of_le (Nat.lt_of_lt_of_le (by rw [rk.length] at hi; exact hi) hn) (by decide))
      · refine ⟨G7, ((((s2.trans s3).trans s5).trans s6).trans s7).mut hD gD, gD, _, upd_same, ?_⟩
        show RepsK K G7 _ (match fk i with | some (k, d) => put (puts fk i) k d | none => puts fk i)
        rw [hk]
        exact ((((racc.mono s3.eg).mono s5.eg).mono s6.eg).mono s7.eg).put r7
  · rintro H2 ⟨G2, s2, g2, acc, hacc, racc⟩
    have st := s1.trans s2
    refine ⟨st.eh.get _ _ upd_same, ?_⟩
    have gp2 : G2 p = none := st.nw p (by rw [upd_same]; exact fun z => nomatch z) gp
    have fin : Step G H G2 (upd H2 p (.dK kvs)) := ⟨st.eg, Sam.unlock (fun _ z => nomatch z) hp st.eh, fun a u e => by rw [upd_ne (ne_of_none e gp2)]; exact st.gh _ _ e, fun a l g => st.nw a (by
      by_cases z : a = p
      · subst z; rw [upd_same]; exact fun w => nomatch w
      · rw [upd_ne z]; exact l) g⟩
    have hDH : H D = none := by
      have z := fresh_bk s1.eh hD
      rw [upd_ne dp] at z
      exact z
    rw [rk.length] at racc
    exact q D G2 _ (R.st fin) fin hDH g2 ⟨acc, by rw [upd_ne dp]; exact hacc, racc⟩
/-- an object of one's own is from now on a private one -/
theorem q_cell {i : Nat} {o : OD} {ts : TS} (h : δ[i]? = some (.ow o)) (k : ∀ q, Sx K ts (δ.set i (.sh (.adr q)) ++ [.cell q true (.od o)]) P) : Sx K ts δ P := fun B G H σ D R hn hr hb hc => by
  obtain ⟨q, e, gq, bq, ok⟩ := R.getO h
  have hl : i < δ.length := (List.getElem?_eq_some_iff.mp h).1
  have es : σ.set i (some (.ref q)) = σ := by
    apply List.ext_getElem?
    intro m
    by_cases em : m = i
    · subst em
      rw [e, List.getElem?_set_self (R.lt (fun p w c z => by rw [h] at z; cases z) hl)]
    · rw [List.getElem?_set_ne (Ne.symm em)]
  have R1 := R.setSh i (v := .ref q) (d := .adr q) (.adr q) ⟨fun o z => (by rw [h] at z; cases z), fun p w c z => (by rw [h] at z; cases z)⟩
  rw [es] at R1
  have hh : ∀ m, ¬ Holds σ (δ.set i (.sh (.adr q))) m q := fun m hm => by
    by_cases em : m = i
    · subst em
      rcases holds_set hm with ⟨⟨_, z | z⟩, _⟩ | ⟨_, _, z⟩ <;> cases z
    · exact em (R.dj m i q (hm.eq rfl (List.getElem?_set_ne (Ne.symm em))) (Holds.ow e h))
  exact (k q).after (R1.addC (c := .od o) gq bq ok hh) (Same.refl G) hn hr hb hc
end
end Fw
/-! the layer: more of a tuple with own parts in a slot -/
namespace Fw
open PySem L2
section
variable {K : FK} {δ : AE} {ta tb te tx : TE} {tu tw tz : TS} {d : PD} {P : Post}
/-- y = list(x[j]) -/
theorem ot_listS {i m : Nat} {j : Int} {k : Nat} {cs : List (PD ⊕ OD)} {ds : List PD} (hs : notPn δ m = true) (hm : m ≠ i) (hj : cs[k]? = some (.inr (.lst ds))) (ejk : j = k) (kk : OTx K tz (δ.set m (.sh (.lst ds))) i cs P) :
    OTx K (tSeq (tAsg (tCB (rListOf K) (tCons (tOp (rIxT K) (tVar i) (tC (.int j))) tNil)) (gName m)) tz) δ i cs P := fun B G H σ D t vs R e o hn hr hb hc => by
  subst ejk
  have hk : k < vs.length := by rw [o.len]; exact (List.getElem?_eq_some_iff.mp hj).1
  obtain ⟨p, ex, bp, gp, us, eu, ru⟩ := o.cm k _ _ (List.getElem?_eq_getElem hk) hj
  have ev : vs[k]? = some (.ref p) := by rw [List.getElem?_eq_getElem hk, ex]
  refine ⟨_, e, t, vs, k, .ref p, rfl, rfl, Or.inl (Or.inl o.ht), atI_nat ev, p, us, rfl, Or.inl (Or.inl (Or.inl eu)), fun l hl => ?_⟩
  have s : Step G H (upd G l (.lst us)) (upd H l (.lst us)) := (Step.refl R.gh).laid hl
  have R2 := (R.st s).setSh m (v := .ref l) (d := .lst ds) (.lst upd_same (ru.mono s.eg)) (np_of hs)
  refine kk B _ _ _ D t vs R2 (by rw [List.getElem?_set_ne hm]; exact e) (o.st s) ?_ ?_ ?_ ?_
  · exact fun σ2 G2 H2 δ2 p R2 e2 => hn σ2 G2 H2 δ2 p R2 (s.eg.trans e2)
  · exact fun v σ2 G2 H2 δ2 r p R2 e2 k => hr v σ2 G2 H2 δ2 r p R2 (s.eg.trans e2) k
  · exact fun σ2 G2 H2 δ2 p R2 e2 => hb σ2 G2 H2 δ2 p R2 (s.eg.trans e2)
  · exact fun σ2 G2 H2 δ2 p R2 e2 => hc σ2 G2 H2 δ2 p R2 (s.eg.trans e2)
end
end Fw
/-! the layer: get of a dict of the top -/
namespace Fw
open PySem PySem.Spec PyProof.Rows L2
/-- a class, a thing of the top, by its name -/
abbrev cOf (K : FK) (x : Str) : Addr := He.ga K.F x
abbrev aTop (K : FK) (x : Str) : Addr := He.ga K.F x
def tKGet (K : PySem.W.Frag) (a : Addr) (tb : TE) : TE := fun σ H Q => tb σ H fun y H1 => ∃ (z : Str) (r : Option Value) (v : V), y = .str z ∧ PySem.W.nsIn K a z = some r ∧ RelV v (r.getD .none) ∧ Q v H1
section
variable {X : Cx} {o e : Expr} {apos cpos : Pos} {tb : TE} {a : Addr} {es : Array DictEntry} {n : Nat}
theorem pe_kget (D : ∃ es n, KDict X.K X.w a es n) (ho : PE X o (tC (.ref a))) (he : PE X e tb) (m : M1 X o "get" apos e cpos) : PE X (.Call (.Attribute o "get" apos) [e] [] cpos) (tKGet X.K a tb) := by
  obtain ⟨es, n, D⟩ := D
  refine ⟨fun pins s σ H Q I h => ?_⟩
  have h' : (tC (.ref a)) σ H fun x H1 => x = .ref a ∧ tKGet X.K a tb σ H1 Q := ⟨rfl, h⟩
  refine wpAny_Call_method m.base m.few m.line PySem.F.plainAttrs_dict PySem.F.slot_dict_get PySem.F.type_dict_get (thn (ho.run pins s σ H _ I h') fun u s1 ⟨x, H1, I1, rx, ex, q1⟩ => ?_)
  subst ex
  obtain rfl : u = Value.ref a := rx
  have mo := PySem.W.mapOf_K (prog := X.prog) (w := X.w) I1.kIn D.at_ D.lit
  refine ⟨mo.typeIs, mo.noDict, ?_⟩
  rw [m.trees]
  refine Calls.callWith_builtin rfl (Calls.evalArgs_plain (Calls.spliced_cons (thn (he.run pins s1 σ H1 _ I1 q1) fun iv s2 ⟨y, H2, I2, ry, z, r, v, ey, en, rv, q2⟩ => Calls.spliced_nil ?_)))
  subst ey
  obtain ⟨t, rfl⟩ := ry
  have mo2 := PySem.W.mapOf_K (prog := X.prog) (w := X.w) I2.kIn D.at_ D.lit
  refine call_meetsIn PySem.F.slot_dict_get mo2.typeIs PySem.F.entry_dict_get (PySem.F.args_dict_get_2 _ _) (meets_dict_get (strKind X.prog X.w) a (PySem.strKind_is X.prog X.w z t) D.low) ⟨_, mo2, ?_⟩
  rw [PySem.W.find_K D.at_ en]
  exact ⟨v, H2, I2.tok _, rv, q2⟩
end
section
variable {K : FK} {δ : AE} {tb te : TE} {a : Addr} {d : PD}
theorem ev_kget {z : Str} (hb : Evd K tb δ (.str z)) (hk : ∃ (r : Option Value) (v : V), PySem.W.nsIn K.F a z = some r ∧ RelV v (r.getD .none) ∧ ∀ G, Rep K G v d) : Evd K (tKGet K a tb) δ d := fun B G H σ R Q q =>
  hb B G H σ R _ fun y G1 H1 R1 s r => by
    obtain ⟨o, v, e1, e2, e3⟩ := hk
    rw [r.flat rfl]
    exact ⟨z, o, v, rfl, e1, e2, q v G1 H1 R1 s (e3 G1)⟩
theorem ev_ktup {xs : List Str} (h : ∀ H, SqT K.F H a (xs.map V.str)) : Evd K (tC (.ref a)) δ (.tup (xs.map PD.str)) := fun B G H σ R Q q => q _ G H R (Step.refl R.gh) (.tup (h G) (by
  induction xs with
  | nil => exact .nil
  | cons x r ih => exact .cons (.str x) (by
      have : ∀ l : List Str, Reps K G (l.map V.str) (l.map PD.str) := fun l => by
        induction l with
        | nil => exact .nil
        | cons y l ih => exact .cons (.str y) ih
      exact this r)))
end
end Fw
/-! the layer: private objects that stand in a row, of any number; walks through a private list; reversed; a list or a tuple -/
namespace Fw
open PySem L2 RT
section
variable {K : FK} {δ δ0 : AE} {c1 c2 cs cs' : List (Addr × CC)} {p : Addr} {c c' : CC}
theorem clw_len (cs : List (Addr × CC)) : (clw cs).length = cs.length := List.length_map ..
theorem clw_app (a b : List (Addr × CC)) : clw (a ++ b) = clw a ++ clw b := List.map_append
theorem cells_at : (δ0 ++ clw (c1 ++ (p, c) :: c2))[δ0.length + c1.length]? = some (.cell p true c) := app_cell (pc := (p, c)) (by rw [List.getElem?_append_right (Nat.le_refl _), Nat.sub_self]; rfl)
theorem cells_set : (δ0 ++ clw (c1 ++ (p, c) :: c2)).set (δ0.length + c1.length) (.cell p true c') = δ0 ++ clw (c1 ++ (p, c') :: c2) := by
  rw [List.set_append_right _ _ (by omega), Nat.add_sub_cancel_left]
  unfold clw
  rw [List.map_append, List.map_append, List.set_append_right _ _ (by rw [List.length_map]; exact Nat.le_refl _), List.length_map, Nat.sub_self]
  rfl
theorem cells_snoc : (δ0 ++ clw cs) ++ [.cell p true c] = δ0 ++ clw (cs ++ [(p, c)]) := by rw [clw_app, List.append_assoc]; rfl
theorem cells_slot {i : Nat} {s : Sl} (hi : i < δ0.length) : (δ0 ++ clw cs).set i s = δ0.set i s ++ clw cs := List.set_append_left _ _ hi
theorem slot_at {i : Nat} (hi : i < δ0.length) : (δ0 ++ clw cs)[i]? = δ0[i]? := List.getElem?_append_left hi
theorem RepS.few {B : Base} {G H : Hp} {σ : St} (R : RepS K B G H σ (δ0 ++ clw cs)) (h : cs ≠ []) : σ.length ≤ δ0.length := by
  obtain ⟨pc, r, rfl⟩ : ∃ pc r, cs = pc :: r := by
    cases cs with
    | nil => exact absurd rfl h
    | cons pc r => exact ⟨pc, r, rfl⟩
  have k1 := (R.sl _ _ (app_cell (δ0 := δ0) (cs := pc :: r) (i := 0) rfl)).1
  rw [List.getElem?_eq_none_iff] at k1
  omega
end
section
variable {K : FK} {δ δ0 : AE} {ta tb te tx : TE} {t tt : TT} {tu tz ts : TS} {d dk : PD} {P : Post} {p : Addr} {c1 c2 cs cs' : List (Addr × CC)}
/-- private objects are left out, or stand in another order -/
theorem q_cells (hl : cs ≠ []) (hs : ∀ pc ∈ cs', pc ∈ cs) (nd : (cs.map (·.1)).Nodup → (cs'.map (·.1)).Nodup) (k : Sx K ts (δ0 ++ clw cs') P) : Sx K ts (δ0 ++ clw cs) P := fun B G H σ D R hn hr hb hc => by
  have ok := R.cellsW
  have R2 := R.callM (cs' := cs') ⟨fun a o _ _ e => e, fun a h => h, fun a h => h⟩ (Same.refl G) R.gh (fun a _ g => g) ⟨fun pc hpc => ok.ok pc (hs pc hpc), nd ok.nd⟩ (fun pc hpc => Or.inl ⟨pc.2, hs pc hpc⟩) (R.few hl)
  exact k.after R2 (Same.refl G) hn hr hb hc
theorem nd_sub {cs cs' : List (Addr × CC)} (h : cs'.Sublist cs) : (cs.map (·.1)).Nodup → (cs'.map (·.1)).Nodup := fun nd => nd.sublist (h.map _)
theorem nd_perm {cs cs' : List (Addr × CC)} (h : cs'.Perm cs) : (cs.map (·.1)).Nodup → (cs'.map (·.1)).Nodup := fun nd => ((h.map _).nodup_iff).mpr nd
theorem q_perm (hl : cs ≠ []) (h : cs'.Perm cs) (k : Sx K ts (δ0 ++ clw cs') P) : Sx K ts (δ0 ++ clw cs) P := q_cells hl (fun pc hpc => h.mem_iff.mp hpc) (nd_perm h) k
theorem q_sub (hl : cs ≠ []) (h : cs'.Sublist cs) (k : Sx K ts (δ0 ++ clw cs') P) : Sx K ts (δ0 ++ clw cs) P := q_cells hl (fun pc hpc => h.subset hpc) (nd_sub h) k
/-- what is asked at the end may stand in another order too -/
theorem sx_post {P P' : Post} (h : Sx K ts δ P') (h1 : ∀ d, P'.nx d → Sx K tNext d P) (h2 : P'.rt = P.rt) (h3 : P'.bk = P.bk) (h4 : P'.ct = P.ct) : Sx K ts δ P := fun B G H σ D R hn hr hb hc =>
  h B G H σ D R (fun σ' G' H' δ' pn R' e => h1 δ' pn B G' H' σ' D R' (fun σ2 G2 H2 δ2 p2 R2 e2 => hn σ2 G2 H2 δ2 p2 R2 (e.trans e2)) (fun v σ2 G2 H2 δ2 r p2 R2 e2 k => hr v σ2 G2 H2 δ2 r p2 R2 (e.trans e2) k) (fun σ2 G2 H2 δ2 p2 R2 e2 => hb σ2 G2 H2 δ2 p2 R2 (e.trans e2)) (fun σ2 G2 H2 δ2 p2 R2 e2 => hc σ2 G2 H2 δ2 p2 R2 (e.trans e2)))
    (h2 ▸ hr) (h3 ▸ hb) (h4 ▸ hc)
/-- an object of one's own becomes a private one, behind the others -/
theorem q_cellW {i : Nat} {o : OD} (h : δ0[i]? = some (.ow o)) (k : ∀ q, Sx K ts (δ0.set i (.sh (.adr q)) ++ clw (cs ++ [(q, .od o)])) P) : Sx K ts (δ0 ++ clw cs) P := by
  have li : i < δ0.length := (List.getElem?_eq_some_iff.mp h).1
  refine q_cell (i := i) (o := o) (by rw [slot_at li]; exact h) fun q => ?_
  rw [cells_slot li, cells_snoc]
  exact k q
/-- e.append(v), e one of the private objects -/
theorem s_appW {xs : List PD} (hδ : δ = δ0 ++ clw (c1 ++ (p, .od (.lst xs)) :: c2)) (ha : Evd K ta δ (.adr p)) (h : Evd K te δ d) (hz : xs.length < 100000) (k : P.nx (δ0 ++ clw (c1 ++ (p, .od (.lst (xs ++ [d]))) :: c2))) : Sx K (tDrop (tBM K "list" rAppend ta (tCons te tNil))) δ P := by
  subst hδ
  refine s_appC (p := p) (j := δ0.length + c1.length) (xs := xs) ha cells_at h hz ?_
  rw [cells_set]
  exact k
/-- e.pop(k, v) -/
theorem s_popW {kds : List (Key × PD)} (hδ : δ = δ0 ++ clw (c1 ++ (p, .od (.dic kds)) :: c2)) (ha : Evd K ta δ (.adr p)) (hk : Evd K tb δ dk) (fk : isKey dk = true) (hx : Evd K tx δ d) (k : P.nx (δ0 ++ clw (c1 ++ (p, .od (.dic (dropD kds (keyOf dk)))) :: c2))) : Sx K (tDrop (tDPop2 ta tb tx)) δ P := by
  subst hδ
  refine s_popC (p := p) (j := δ0.length + c1.length) (kds := kds) ha cells_at hk fk hx ?_
  rw [cells_set]
  exact k
theorem s_dputW {kds : List (Key × PD)} (hδ : δ = δ0 ++ clw (c1 ++ (p, .od (.dic kds)) :: c2)) (hv : Evd K te δ d) (ha : Evd K ta δ (.adr p)) (hk : Evd K tb δ dk) (fk : isKey dk = true) (hz : kds.length < 100000) (k : P.nx (δ0 ++ clw (c1 ++ (p, .od (.dic (put kds (keyOf dk) d))) :: c2))) : Sx K (sDPut ta tb te) δ P := by
  subst hδ
  refine s_dputC (p := p) (j := δ0.length + c1.length) (kds := kds) hv ha cells_at hk fk hz ?_
  rw [cells_set]
  exact k
/-- e[k] = a new object, e private -/
theorem s_dputN {o : OD} {j : Nat} {kds : List (Key × PD)} (hv : Evo K te δ o) (ha : Evd K ta δ (.adr p)) (hj : δ[j]? = some (.cell p true (.od (.dic kds)))) (hk : Evd K tb δ dk) (fk : isKey dk = true) (hz : kds.length < 100000) (k : ∀ q, P.nx (δ.set j (.cell p true (.od (.dic (put kds (keyOf dk) (.adr q))))) ++ [.cell q true (.od o)])) : Sx K (sDPut ta tb te) δ P := fun B G H σ D R hnx hr hb hct =>
  hv B G H σ R _ fun q G1 H1 R1 s1 hq gq ok => ha B G1 H1 σ R1 _ fun x G2 H2 R2 s2 rx => hk B G2 H2 σ R2 _ fun y G3 H3 R3 s3 ry => by
    obtain ⟨_, _, vs, hp, rs⟩ := R3.getC hj
    rw [rep_adr rx, ry.key fk]
    refine ⟨p, _, rfl, Or.inl ⟨vs, keyOf dk, hp, rfl, Nat.lt_of_lt_of_le (by rw [rs.length]; exact hz) (by decide), rfl⟩, ?_⟩
    have s := s2.trans s3
    have R4 := R3.writeC hj (ob := .dK _) (c' := .od (.dic (put kds (keyOf dk) (.adr q)))) ⟨_, upd_same, rs.put (.adr q)⟩
    have npq : q ≠ p := fun z => by
      subst z
      exact (R.getC hj).2.2.live hq
    have hh : ∀ i, ¬ Holds σ (δ.set j (.cell p true (.od (.dic (put kds (keyOf dk) (.adr q)))))) i q := fun i hi => by
      by_cases ei : i = j
      · subst ei
        rcases holds_set hi with ⟨⟨_, z | z⟩, _⟩ | ⟨_, _, z⟩ <;> cases z
        exact npq rfl
      · exact R.notHeld hq i (hi.eq rfl (List.getElem?_set_ne (Ne.symm ei)))
    obtain ⟨u, nt, hu⟩ := ok.nt
    refine hnx _ _ _ _ (k q) (R4.addC (s.nw q ok.live gq) (R.newFree hq) (c := .od o) ?_ hh) (s1.eg.trans s.eg)
    exact OwnOk.mono ok s.eg (by rw [upd_ne npq, s.eh.all _ _ nt hu, hu])
theorem s_dputNW {o : OD} {kds : List (Key × PD)} (hδ : δ = δ0 ++ clw (c1 ++ (p, .od (.dic kds)) :: c2)) (hv : Evo K te δ o) (ha : Evd K ta δ (.adr p)) (hk : Evd K tb δ dk) (fk : isKey dk = true) (hz : kds.length < 100000) (k : ∀ q, P.nx (δ0 ++ clw ((c1 ++ (p, .od (.dic (put kds (keyOf dk) (.adr q)))) :: c2) ++ [(q, .od o)]))) : Sx K (sDPut ta tb te) δ P := by
  subst hδ
  refine s_dputN (p := p) (j := δ0.length + c1.length) (kds := kds) hv ha cells_at hk fk hz fun q => ?_
  rw [cells_set, cells_snoc]
  exact k q
/-- e.append((v, [])), e private: the new list is a private one -/
theorem s_appPair {j : Nat} {xs : List PD} (ha : Evd K ta δ (.adr p)) (hj : δ[j]? = some (.cell p true (.od (.lst xs)))) (h : Evd K te δ d) (hz : xs.length < 100000) (k : ∀ q, P.nx (δ.set j (.cell p true (.od (.lst (xs ++ [.tup [d, .adr q]])))) ++ [.cell q true (.od (.lst []))])) :
    Sx K (tDrop (tBM K "list" rAppend ta (tCons (tTup (tCons te (tCons (tLst tNil) tNil))) tNil))) δ P := fun B G H σ D R hn hr hb hc =>
  ha B G H σ R _ fun v G1 H1 R1 s1 rv => by
    obtain ⟨_, _, vs1, hp1, _⟩ := R1.getC hj
    rw [rep_adr rv]
    refine ⟨tyV_lst hp1, h B G1 H1 σ R1 _ fun u G2 H2 R2 s2 ru => ⟨Nat.zero_le _, fun q hq => ⟨Nat.le_of_ble_eq_true rfl, fun tp htp => ?_⟩⟩⟩
    have gq : G2 q = none := fresh_back R2.gh hq
    have npq : q ≠ p := fun z => by
      subst z
      obtain ⟨_, _, ok⟩ := R2.getC hj
      exact ok.live hq
    have ntq : tp ≠ q := fun z => by subst z; rw [upd_same] at htp; cases htp
    have R3 := R2.hid (o := .lst []) hq
    have hh3 : ∀ i, ¬ Holds σ δ i q := R2.notHeld hq
    have R4 := R3.addC (p := q) (c := .od (.lst [])) gq (R2.newFree hq) ⟨_, upd_same, .nil⟩ hh3
    have R5 := R4.laid (o := .tup [u, .ref q]) htp
    have hj5 : (δ ++ [.cell q true (.od (.lst []))])[j]? = some (.cell p true (.od (.lst xs))) := by rw [List.getElem?_append_left (List.getElem?_eq_some_iff.mp hj).1]; exact hj
    obtain ⟨_, _, vs, hp, rs⟩ := R5.getC hj5
    have gt : G2 tp = none := fresh_back R3.gh htp
    have eg5 : Same G2 (upd G2 tp (.tup [u, .ref q])) := same_new gt
    have rt : Rep K (upd G2 tp (.tup [u, .ref q])) (.ref tp) (.tup [d, .adr q]) := .tup (Or.inl (Or.inl upd_same)) (.cons (ru.mono eg5) (.cons (.adr q) .nil))
    refine ⟨p, vs, .ref tp, rfl, rfl, hp, Nat.lt_of_lt_of_le (by rw [rs.length]; exact hz) (by decide), ?_⟩
    have R6 := R5.writeC hj5 (ob := .lst (vs ++ [.ref tp])) (c' := .od (.lst (xs ++ [.tup [d, .adr q]]))) ⟨_, upd_same, rs.snoc rt⟩
    rw [List.set_append_left _ _ (List.getElem?_eq_some_iff.mp hj).1] at R6
    exact hn _ _ _ _ (k q) R6 ((s1.eg.trans s2.eg).trans eg5)
theorem s_appPairW {xs : List PD} (hδ : δ = δ0 ++ clw (c1 ++ (p, .od (.lst xs)) :: c2)) (ha : Evd K ta δ (.adr p)) (h : Evd K te δ d) (hz : xs.length < 100000) (k : ∀ q, P.nx (δ0 ++ clw ((c1 ++ (p, .od (.lst (xs ++ [.tup [d, .adr q]]))) :: c2) ++ [(q, .od (.lst []))]))) :
    Sx K (tDrop (tBM K "list" rAppend ta (tCons (tTup (tCons te (tCons (tLst tNil) tNil))) tNil))) δ P := by
  subst hδ
  refine s_appPair (p := p) (j := δ0.length + c1.length) (xs := xs) ha cells_at h hz fun q => ?_
  rw [cells_set, cells_snoc]
  exact k q
theorem adrs_eq {G : Hp} : ∀ {vs : List V} {ps : List Addr}, Reps K G vs (ps.map PD.adr) → vs = ps.map V.ref
  | [], [], _ => rfl
  | [], _ :: _, h => by cases h
  | _ :: _, [], h => by cases h
  | v :: vs, p :: ps, h => by
    cases h with
    | cons h1 h2 => rw [rep_adr h1, adrs_eq h2]; rfl
/-- for x in e: .., e a private list of addresses, that stays -/
theorem s_forC {g : TG} {s : Addr} {ps : List Addr} (js : List Nat) (Inv : Nat → AE → Prop) (ha : Evd K te δ (.adr s)) (hI : ∀ (i : Nat) (d : AE), Inv i d → ∃ (j : Nat) (w : Bool), d[j]? = some (Sl.cell s w (.od (.lst (ps.map PD.adr))))) (h0 : Inv 0 (fgt δ js))
    (hs : ∀ i m d, ps[i]? = some m → Inv i d → ∃ δ'' ks, Evg K g (.adr m) d δ'' ks ∧ Sx K tu δ'' { nx := fun d => Inv (i + 1) (fgt d js), rt := P.rt, bk := P.nx, ct := fun d => Inv (i + 1) (fgt d js) }) (k : ∀ d, Inv ps.length d → P.nx d) : Sx K (tFor (iList K te) g tu) δ P := fun B G H σ D R hn hr hb hc =>
  ha B G H σ R _ fun v G1 H1 R1 s1 rv => by
    rw [rep_adr rv]
    have R1f := RepS.fgt js R1
    have seen : ∀ {G' H' σ'} {d : AE} {i : Nat}, Inv i d → RepS K B G' H' σ' d → SqL K H' s (ps.map V.ref) := fun hi R' => by
      obtain ⟨j, w, hj⟩ := hI _ _ hi
      obtain ⟨_, _, vs, hp, rs⟩ := R'.getC hj
      rw [adrs_eq rs] at hp
      exact Or.inl (Or.inl hp)
    refine ⟨s, rfl, ⟨_, seen h0 R1f⟩, ?_⟩
    have w := walk_list (K := K) (a := s) (xs := ps.map V.ref)
    rw [List.length_map] at w
    refine for_it w (fun i σ' H' => ∃ d G', Inv i d ∧ RepS K B G' H' σ' d ∧ Same G1 G') ⟨_, G1, h0, R1f, Same.refl G1⟩ (fun i σ' H' hi ⟨d, G', iv, R', e⟩ => seen iv R') ?_ ?_
    · rintro i x σ' H2 H3 hi ⟨d, G2, iv, R2, e⟩ ⟨eH, y⟩
      subst eH
      rw [List.getElem?_map] at y
      obtain ⟨m, hm, ex⟩ := Option.map_eq_some_iff.mp y
      subst ex
      obtain ⟨δ'', ks, hg, hbody⟩ := hs i m d hm iv
      refine hg B G2 _ σ' _ R2 (.adr m) _ fun σ3 R3 _ _ => ?_
      exact hbody B G2 _ σ3 _ R3 (fun σ4 G4 H4 δ4 p R4 e4 => ⟨_, G4, p, RepS.fgt js R4, e.trans e4⟩) (fun v σ4 G4 H4 δ4 r p R4 e4 k => hr v σ4 G4 H4 δ4 r p R4 ((s1.eg.trans e).trans e4) k) (fun σ4 G4 H4 δ4 p R4 e4 => hn σ4 G4 H4 δ4 p R4 ((s1.eg.trans e).trans e4)) (fun σ4 G4 H4 δ4 p R4 e4 => ⟨_, G4, p, RepS.fgt js R4, e.trans e4⟩)
    · rintro σ' H' ⟨d, G', iv, R', e⟩
      exact hn σ' G' H' d (k d iv) R' (s1.eg.trans e)
/-! ### walks where all that stood stays: a private list too -/
def Evis (K : FK) (wi : TI) (δ : AE) (n : Nat) (f : Nat → PD) : Prop := ∀ (B : Base) (G H : Hp) (σ : St), RepS K B G H σ δ → ∀ R : It → Hp → Prop,
  (∀ (J : It) (G' H' : Hp) (Gd : Hp → Prop) (Y : Nat → Hp → V → Hp → Prop), RepS K B G' H' σ δ → Step G H G' H' → Walk J n Gd Y → (∀ G2 H2, Same G' G2 → Same G2 H2 → Sam H' H2 → Gd H2) →
    (∀ i x H2 H3 G2, i < n → Same G' G2 → Same G2 H2 → Y i H2 x H3 → ∃ G3, Step G2 H2 G3 H3 ∧ Rep K G3 x (f i)) → R J H') → wi σ H R
theorem ei_revC {j : Nat} {w : Bool} {xs : List PD} (ha : Evd K te δ (.adr p)) (hj : δ[j]? = some (.cell p w (.od (.lst xs)))) : Evis K (iRevA K te) δ xs.length (fun i => xs.reverse.getD i .non) := fun B G H σ R Q q => ha B G H σ R _ fun v G1 H1 R1 s rv => by
  obtain ⟨_, _, vs, hp, rs⟩ := R1.getC hj
  rw [rep_adr rv]
  refine ⟨p, vs, rfl, Or.inl ⟨Or.inl (Or.inl hp), ?_⟩⟩
  refine q _ G1 H1 _ _ R1 s (by rw [← rs.length]; exact walk_rev (xs := vs)) (fun G2 H2 e1 e2 e3 => Or.inl (Or.inl (e3.get _ _ hp))) fun i x H2 H3 G2 hi e1 e2 y => ?_
  obtain ⟨e, y⟩ := y
  subst e
  obtain ⟨d, e3, r3⟩ := rs.getV y
  refine ⟨G2, Step.refl e2, ?_⟩
  show Rep K G2 x (xs.reverse.getD i .non)
  rw [List.getD_eq_getElem?_getD, List.getElem?_reverse hi, ← rs.length, e3]
  exact r3.mono e1
theorem ei_revL {xs : List PD} (h : Evd K te δ (.lst xs)) : Evi K (iRevA K te) δ xs.length (fun i => xs.reverse.getD i .non) := fun B G H σ R Q q => h B G H σ R _ fun v G1 H1 R1 s r => by
  cases r with
  | @lst a vs _ h1 h2 =>
  refine ⟨a, vs, rfl, Or.inl ⟨Or.inl (Or.inl (R1.gh _ _ h1)), ?_⟩⟩
  refine q _ G1 H1 _ _ R1 s (by rw [← h2.length]; exact walk_rev (xs := vs)) (fun G2 H2 e1 e2 => Or.inl (Or.inl (e2 _ _ (e1 _ _ h1)))) fun i x H2 H3 G2 hi e1 e2 y => ?_
  obtain ⟨e, y⟩ := y
  subst e
  obtain ⟨d, e3, r3⟩ := h2.getV y
  refine ⟨G2, Step.refl e2, ?_⟩
  show Rep K G2 x (xs.reverse.getD i .non)
  rw [List.getD_eq_getElem?_getD, List.getElem?_reverse hi, ← h2.length, e3]
  exact r3.mono e1
theorem eo_lcS {wi : TI} {g : TG} {vs : List Nat} {n : Nat} {f : Nat → PD} (keep : Nat → Bool) (val : Nat → PD) (h : Evis K wi δ n f) (hn : n ≤ 100000)
    (hs : ∀ i, i < n → ∃ δ' js, Evg K g (f i) (wipeA δ vs) δ' js ∧ (∀ j ∈ js, j ∈ vs) ∧ Evt K tt δ' (keep i) ∧ (keep i = true → Evd K te δ' (val i))) : Evo K (tLc wi g tt te vs) δ (.lst (given n keep val)) := fun B G H σ R Q q =>
  h B G H σ R _ fun J G1 H1 Gd Y R1 s1 w hG hY D hD => by
    refine lc_it w (fun i H' => ∃ G', Step G1 H1 G' H' ∧ G' D = none ∧ ∃ acc, H' D = some (.lst acc) ∧ Reps K G' acc (given i keep val)) ⟨G1, (Step.refl R1.gh).hid hD, fresh_back R1.gh hD, [], upd_same, .nil⟩ (fun i H' hi ⟨G', s, _⟩ => hG G' H' s.eg s.gh s.eh) ?_ ?_
    · rintro i x H2 H3 hi ⟨G2, s2, g2, acc, hacc, racc⟩ y
      obtain ⟨G3, s3, r3⟩ := hY i x H2 H3 G2 hi s2.eg s2.gh y
      obtain ⟨δ', js, hg, hj, ht, he⟩ := hs i hi
      have R3 : RepS K B G3 H3 σ δ := R1.st (s2.trans s3)
      refine hg B G3 H3 _ x (R3.wipe vs) r3 _ fun σ3 R4 l4 k4 => ⟨wipe_eq l4 k4 hj, ?_⟩
      refine ht B G3 H3 σ3 R4 _ fun G5 H5 R5 s5 => ?_
      cases hk : keep i with
      | false =>
        show ∃ G', _
        refine ⟨G5, (s2.trans s3).trans s5, (s3.trans s5).nw D (some_ne hacc) g2, acc, s5.eh.get _ _ (s3.eh.get _ _ hacc), ?_⟩
        rw [given_no hk]
        exact (racc.mono s3.eg).mono s5.eg
      | true =>
        show te σ3 H5 _
        refine he hk B G5 H5 σ3 R5 _ fun v G6 H6 R6 s6 r6 => ⟨acc, s6.eh.get _ _ (s5.eh.get _ _ (s3.eh.get _ _ hacc)), ?_, ?_⟩
        · rw [racc.length]
          exact Nat.lt_of_le_of_lt (given_len i keep val) (Nat.lt_of_lt_of_le (Nat.lt_of_lt_of_le hi hn) (by decide))
        · have gD : G6 D = none := ((s3.trans s5).trans s6).nw D (some_ne hacc) g2
          refine ⟨G6, (((s2.trans s3).trans s5).trans s6).mut hD gD, gD, _, upd_same, ?_⟩
          rw [given_yes hk]
          exact (((racc.mono s3.eg).mono s5.eg).mono s6.eg).snoc r6
    · rintro H2 ⟨G2, s2, g2, acc, hacc, racc⟩
      exact q D G2 H2 (R1.st s2) (s1.trans s2) (fresh_bk s1.eh hD) g2 ⟨acc, hacc, racc⟩
/-- whether a list has items -/
theorem et_truL {xs : List PD} (ha : Rdo K te δ (.lst xs)) : Evt K (tTru K te) δ (!xs.isEmpty) := fun B G H σ R Q q => ha B G H σ R _ fun v G1 H1 R1 s1 ok => by
  obtain ⟨vs, hp, rs⟩ := ok
  refine ⟨!xs.isEmpty, Or.inl ⟨vs, Or.inl (Or.inl hp), ?_⟩, q G1 H1 R1 s1⟩
  cases rs <;> rfl
end
/-! ### a list or a tuple -/
def iSeq (K : PySem.W.Frag) (tl : TE) : TI := fun σ H R => tl σ H fun x H1 => ∃ a, x = .ref a ∧ (((∃ xs, SqL K H1 a xs) ∧ R (Itl K a) H1) ∨ ((∃ xs, SqT K H1 a xs) ∧ R (Itt K a) H1))
section
open PySem.Spec PyProof.Rows
variable {X : Cx} {tg : Expr}
theorem pi_seq {l : Expr} {tl : TE} (hl : PE X l tl) : PI X tg l (iSeq X.K tl) := by
  refine ⟨fun pins s σ H R I h => ?_⟩
  refine thn (hl.run pins s σ H _ I h) fun v s1 ⟨x, H1, I1, r1, q1⟩ => ?_
  obtain ⟨a, e, q1⟩ := q1
  subst e
  cases r1
  rcases q1 with ⟨⟨xs, hq⟩, q⟩ | ⟨⟨xs, hq⟩, q⟩
  · obtain ⟨its, rv, p, hz⟩ := I1.list hq
    refine wpAny_pyIter_list p.isList ?_
    refine ⟨s1.heap.objs.size, [s1.heap.objs.size], _, _, H1, rfl, I1.kept (t' := s1.toks) fun b o e => Heap.get?_push_of_some _ e, turn_list a _, ⟨_, Heap.get?_push_size _ rfl, rfl, rfl⟩, fun b hb => ?_, q⟩
    have e : b = s1.heap.objs.size := by simpa using hb
    subst e
    exact I1.fpOk (Nat.le_refl _) (I1.hok.fresh (Nat.le_refl _))
  · obtain ⟨its, rv, p, hz⟩ := I1.tuple hq
    refine wpAny_pyIter_tuple (show s1.heap.IsTuple a its.toArray from p) ?_
    refine ⟨s1.heap.objs.size, [s1.heap.objs.size], _, _, H1, rfl, I1.kept (t' := s1.toks) fun b o e => Heap.get?_push_of_some _ e, turn_tuple a _, ⟨_, Heap.get?_push_size _ rfl, rfl, rfl⟩, fun b hb => ?_, q⟩
    have e : b = s1.heap.objs.size := by simpa using hb
    subst e
    exact I1.fpOk (Nat.le_refl _) (I1.hok.fresh (Nat.le_refl _))
end
section
variable {K : FK} {δ : AE} {te : TE}
theorem ei_seqL {ds : List PD} (h : Evd K te δ (.lst ds)) : Evi K (iSeq K te) δ ds.length (fun i => ds.getD i .non) := fun B G H σ R Q q => h B G H σ R _ fun v G1 H1 R1 s r => by
  cases r with
  | @lst a vs _ h1 h2 =>
  refine ⟨a, rfl, Or.inl ⟨⟨vs, Or.inl (Or.inl (R1.gh _ _ h1))⟩, ?_⟩⟩
  refine q _ G1 H1 _ _ R1 s (by rw [← h2.length]; exact walk_list (xs := vs)) (fun G2 H2 e1 e2 => Or.inl (Or.inl (e2 _ _ (e1 _ _ h1)))) fun i x H2 H3 G2 hi e1 e2 y => ?_
  obtain ⟨e, y⟩ := y
  subst e
  obtain ⟨d, e3, r3⟩ := h2.getV y
  refine ⟨G2, Step.refl e2, ?_⟩
  show Rep K G2 x (ds.getD i .non)
  rw [List.getD_eq_getElem?_getD, e3]
  exact r3.mono e1
theorem ei_seqT {ds : List PD} (h : Evd K te δ (.tup ds)) : Evi K (iSeq K te) δ ds.length (fun i => ds.getD i .non) := fun B G H σ R Q q => h B G H σ R _ fun v G1 H1 R1 s r => by
  cases r with
  | @tup a vs _ h1 h2 =>
  refine ⟨a, rfl, Or.inr ⟨⟨vs, same_sqT R1.gh h1⟩, ?_⟩⟩
  refine q _ G1 H1 _ _ R1 s (by rw [← h2.length]; exact walk_tup (xs := vs)) (fun G2 H2 e1 e2 => same_sqT e2 (same_sqT e1 h1)) fun i x H2 H3 G2 hi e1 e2 y => ?_
  obtain ⟨e, y⟩ := y
  subst e
  obtain ⟨d, e3, r3⟩ := h2.getV y
  refine ⟨G2, Step.refl e2, ?_⟩
  show Rep K G2 x (ds.getD i .non)
  rw [List.getD_eq_getElem?_getD, e3]
  exact r3.mono e1
end
end Fw
/-! sets of texts, gathered sign by sign in a comprehension, then sorted -/
namespace Tset
open PySem PySem.Spec PyProof.Rows L2
def txt (e : Int × Value) : Str := match e.2 with | .str k _ => k | _ => Str.empty
def addL (l : List Str) (k : Str) : List Str := if k ∈ l then l else k :: l
/-- the set at a holds the texts l, each once; it can be walked -/
def SetT (P : Program) (w : World) (h : Heap) (a : Addr) (l : List Str) : Prop :=
  ∃ o es ep t, (h.get? a = some o ∧ o.ExactSet ∧ o.data = .set es ep t) ∧ (ElemsOf (PySem.strKind P w) es.toList ∧ (es.toList.map txt).Perm l ∧ l.Nodup) ∧ (es.size < scanBound ∧ t.fits es.size = true) ∧ Ris t.place.toList ∧ (w.params.followText "set-order" = true ∨ t.led = true)
section
variable {P : Program} {w : World} {h h' : Heap} {a : Addr} {l : List Str}
theorem SetT.at (R : SetT P w h a l) (k : ∀ o, h.get? a = some o → h'.get? a = some o) : SetT P w h' a l := by
  obtain ⟨o, es, ep, t, ⟨h1, h2⟩, r⟩ := R; exact ⟨o, es, ep, t, ⟨k o h1, h2⟩, r⟩
theorem is_txt {e : Int × Value} (g : ∃ k, (PySem.strKind P w).is k e.2 = true ∧ e.1 = (PySem.strKind P w).hash k) (k : Str) : (PySem.strKind P w).is k e.2 = true ↔ txt e = k := by
  obtain ⟨k0, h1, _⟩ := g
  obtain ⟨u, hu⟩ := Value.isStrOf_shape h1
  unfold txt
  rw [hu]
  exact ⟨fun z => by
    have z : Value.isStrOf k (.str k0 u) = true := z
    obtain ⟨u2, h2⟩ := Value.isStrOf_shape z
    cases h2; rfl, fun z => by show Value.isStrOf k (.str k0 u) = true; rw [← (show k0 = k from z)]; simp [Value.isStrOf]⟩
theorem mem_txt {es : List (Int × Value)} (g : ElemsOf (PySem.strKind P w) es) (k : Str) : k ∈ es.map txt ↔ ∃ e ∈ es, (PySem.strKind P w).is k e.2 = true := by
  rw [List.mem_map]
  exact ⟨fun ⟨e, he, q⟩ => ⟨e, he, (is_txt (g e he).1 k).2 q⟩, fun ⟨e, he, q⟩ => ⟨e, he, (is_txt (g e he).1 k).1 q⟩⟩
theorem SetT.of (R : SetT P w h a l) : h.SetOf (PySem.strKind P w) a (fun k => decide (k ∈ l)) l.length := by
  obtain ⟨o, es, ep, t, ⟨h1, h2, h3⟩, ⟨g, pm, nd⟩, ⟨hb, hf⟩, _⟩ := R
  exact ⟨o, es, ep, t, h1, h2, h3, g, fun k => by rw [decide_eq_true_eq, ← pm.mem_iff]; exact mem_txt g k, hb, hf, by rw [← pm.length_eq, List.length_map, Array.length_toList]⟩
end
section
variable {P : Program} {w : World} {A : Around} {E : Value → Shared → Prop} {s : Shared} {a : Addr} {l : List Str}
theorem stored {h : Heap} {o : Obj} {es es' : Array (Int × Value)} {ep : Nat} {t t' : SetTable} (ho : h.get? a = some o) (hd : o.data = .set es ep t) : (h.update a (Obj.putSet es' t')).get? a = some { o with data := .set es' (ep + 1) t' } := by
  have q := Heap.get?_update_self (Obj.putSet es' t') ho (by rw [putSet_of es' t' hd]; rfl); rw [putSet_of es' t' hd] at q; exact q
theorem lay_end {g : Bool → Sem Unit} (hg : ∀ (b : Bool) (s₁ : Shared) (Q' : Unit → Shared → Prop), Q' () s₁ → wpAny (model P w) A (g b) Q' E s₁) {o : Obj} {es : Array (Int × Value)} {ep : Nat} {t : SetTable} (ho : s.heap.get? a = some o ∧ o.ExactSet ∧ o.data = .set es ep t)
    {es1 : Array (Int × Value)} {t2 : SetTable} {l' : List Str} (g1 : ElemsOf (PySem.strKind P w) es1.toList ∧ (es1.toList.map txt).Perm l' ∧ l'.Nodup) (hb1 : es1.size < scanBound ∧ t2.fits es1.size = true) (hr : Ris t2.place.toList) (hl : w.params.followText "set-order" = true ∨ t2.led = true) {wasDummy : Bool} {R : Option Bool → Shared → Prop}
    (hR : ∀ h', Heap.SameBut a s.heap h' → SetT P w h' a l' → R (some true) { s with heap := h' }) :
    wpAny (model P w) A (storeSet a es1 t2 >>= fun _ => if (!wasDummy && t2.tooFull) = true then g (relayAll t2 es1 (SetTable.grown es1.size)).2.2 >>= fun _ => storeSet a (relayAll t2 es1 (SetTable.grown es1.size)).1 (relayAll t2 es1 (SetTable.grown es1.size)).2.1 >>= fun _ => pure (some true) else pure (some true)) R E s := by
  obtain ⟨ho, hex, hd⟩ := ho
  obtain ⟨hb1, hf2⟩ := hb1
  obtain ⟨g1, pm1, nd1⟩ := g1
  refine wpAny_bind (wpAny_storeSet_of ho hd ?_ (fits_of_scanBound hb1))
  have z1 := stored (es' := es1) (t' := t2) ho hd
  have z2 := Heap.SameBut.update s.heap a (Obj.putSet es1 t2)
  by_cases hc : (!wasDummy && t2.tooFull) = true
  · rw [if_pos hc]
    have p1 := relayAll_perm t2 es1 (SetTable.grown es1.size)
    have p2 := relayAll_fits t2 es1 (SetTable.grown es1.size)
    have p3 := relayAll_ris t2 es1 (SetTable.grown es1.size)
    have p4 := relayAll_led t2 es1 (SetTable.grown es1.size)
    generalize relayAll t2 es1 (SetTable.grown es1.size) = Y at p1 p2 p3 p4 ⊢
    obtain ⟨es2, t3, gv⟩ := Y
    dsimp only at p1 p2 p3 p4 ⊢
    have sz : es2.size < scanBound := by rw [← Array.length_toList, p1.length_eq, Array.length_toList]; exact hb1
    refine wpAny_bind (hg _ _ _ (wpAny_bind (wpAny_storeSet_of z1 rfl (wpAny_pure (hR _ (z2.trans (Heap.SameBut.update _ a _)) ?_)) (fits_of_scanBound sz))))
    exact ⟨_, es2, _, t3, ⟨stored (es' := es2) (t' := t3) z1 rfl, hex, rfl⟩, ⟨g1.perm p1, (p1.map txt).trans pm1, nd1⟩, ⟨sz, p2⟩, p3, hl.imp id fun z => by rw [p4]; exact z⟩
  · rw [if_neg hc]
    exact wpAny_pure (hR _ z2 ⟨_, es1, _, t2, ⟨z1, hex, rfl⟩, ⟨g1, pm1, nd1⟩, ⟨hb1, hf2⟩, hr, hl⟩)
theorem add_hashed {k : Str} {u : Tok} {Q : Bool → Shared → Prop} (R : SetT P w s.heap a l) (room : l.length + 1 < scanBound) (hQ : ∀ h' b, Heap.SameBut a s.heap h' → SetT P w h' a (addL l k) → Q b { s with heap := h' }) : wpAny (model P w) A (setAddHashed a (.str k u) ((PySem.strKind P w).hash k)) Q E s := by
  obtain ⟨o, es, ep, t, ⟨ho, hex, hd⟩, ⟨g, pm, nd⟩, ⟨hb, hf⟩, hr, hl⟩ := id R
  have hkey : (PySem.strKind P w).is k (.str k u) = true := by show Value.isStrOf k (.str k u) = true; simp [Value.isStrOf]
  have hsc : (Value.str k u).scannable = true := rfl
  unfold setAddHashed setAddHashedIn
  refine wpAny_holding (wpAny_bind (wpAny_setState_of ho hd hf ?_))
  dsimp only
  rw [byScan_of hsc hb g, if_pos rfl]
  unfold setAddByScan
  refine wpAny_bind (wpAny_bind (wpAny_rule (wpAny_bind (wpAny_setScan_of hkey ho hd hf g ?_))))
  cases hfi : List.findIdx? (fun e => (PySem.strKind P w).is k e.2) es.toList with
  | some j =>
    obtain ⟨hj, pj, _⟩ := List.findIdx?_eq_some_iff_getElem.mp hfi
    have hin : k ∈ l := pm.mem_iff.mp ((mem_txt g k).2 ⟨_, List.getElem_mem hj, pj⟩)
    exact wpAny_pure (wpAny_pure (hQ s.heap _ (Heap.SameBut.refl a s.heap) (by rw [show addL l k = l from if_pos hin]; exact R)))
  | none =>
    dsimp only
    have hnk : k ∉ l := fun z => by
      obtain ⟨e, he, q⟩ := (mem_txt g k).1 (pm.mem_iff.mpr z)
      have c := List.findIdx?_eq_none_iff.mp hfi e he
      rw [q] at c; cases c
    have hgw : ∀ (b : Bool) {s₁ : Shared} {Q' : Unit → Shared → Prop}, Q' () s₁ → wpAny (model P w) A (match b with | true => rule "set.scan.the-table-gave-way" | false => pure ()) Q' E s₁ := fun b s₁ Q' q => by cases b <;> first | exact wpAny_pure q | exact wpAny_rule q
    have e1 := layNew_perm t es ((PySem.strKind P w).hash k) (.str k u)
    have e2 := layNew_fits t es ((PySem.strKind P w).hash k) (.str k u)
    have e3 := layNew_ris t es ((PySem.strKind P w).hash k) (.str k u) hr
    have e4 := layNew_led t es ((PySem.strKind P w).hash k) (.str k u)
    generalize layNew t es ((PySem.strKind P w).hash k) (.str k u) = Y at e1 e2 e3 e4 ⊢
    obtain ⟨es1, t1, wd, gv⟩ := Y
    dsimp only at e1 e2 e3 e4 ⊢
    rw [Array.toList_push] at e1
    have g1 : ElemsOf (PySem.strKind P w) es1.toList := (g.push (k := k) (x := .str k u) hkey rfl).perm e1
    have pk : (es1.toList.map txt).Perm (k :: l) := ((e1.trans (List.perm_append_singleton _ _)).map txt).trans (List.Perm.cons k pm)
    have el : addL l k = k :: l := if_neg hnk
    have sz : es1.size < scanBound := by rw [← Array.length_toList, ← List.length_map (f := txt), pk.length_eq]; exact room
    have nd1 : (k :: l).Nodup := List.nodup_cons.mpr ⟨hnk, nd⟩
    have led : w.params.followText "set-order" = true ∨ t1.led = true := hl.imp id fun z => by rw [e4]; exact z
    have fin : ∀ h', Heap.SameBut a s.heap h' → SetT P w h' a (k :: l) → Q true { s with heap := h' } := fun h' sb r => hQ h' true sb (by rw [el]; exact r)
    have hgg : ∀ (b : Bool) (s₁ : Shared) (Q' : Unit → Shared → Prop), Q' () s₁ → wpAny (model P w) A (match b with | true => rule "set.scan.the-table-gave-way" | false => pure ()) Q' E s₁ := fun b s₁ Q' q => hgw b q
    refine wpAny_bind (hgw _ ?_)
    by_cases hpl : t1.plain = true
    · rw [if_pos hpl]
      refine wpAny_bind ?_
      rw [hashByValue_scannable 8 hsc]
      refine wpAny_pure (lay_end (P := P) (l' := k :: l) ?_ ⟨ho, hex, hd⟩ ⟨g1, pk, nd1⟩ ⟨sz, ?_⟩ ?_ ?_ ?_)
      · intro b s₁ Q' q; cases b <;> first | exact wpAny_pure q | exact wpAny_rule q
      · first | exact SetTable.fits_plain_off e2 | exact e2
      · exact e3
      · exact led
      · intro h' sb r; dsimp only; exact wpAny_pure (fin h' sb r)
    · rw [if_neg hpl]
      refine wpAny_bind (wpAny_pure ?_)
      simp only [↓reduceIte]
      refine lay_end (P := P) (l' := k :: l) ?_ ⟨ho, hex, hd⟩ ⟨g1, pk, nd1⟩ ⟨sz, e2⟩ e3 led ?_
      · intro b s₁ Q' q; cases b <;> first | exact wpAny_pure q | exact wpAny_rule q
      · intro h' sb r; dsimp only; exact wpAny_pure (fin h' sb r)
/-- found.add(text) -/
theorem add_txt {k : Str} {u : Tok} {Q : Value → Shared → Prop} (R : SetT P w s.heap a l) (room : l.length + 1 < scanBound) (hQ : ∀ h', Heap.SameBut a s.heap h' → SetT P w h' a (addL l k) → Q .none { s with heap := h', toks := s.toks + 1 }) :
    wpAny (model P w) A (call (.builtin "set.add") [.ref a, .str k u]) Q E s := by
  refine wpAny_call_entry F.slot_set_add R.of.typeIs F.entry_set_add ?_ (F.args_set_add_2 _ _)
  unfold Builtin.«set.add» Builtin.Frozenset.oneOther
  simp only [List.isEmpty_nil, bind_assoc]
  unfold Builtin.Frozenset.addrOf setAdd
  refine wpAny_bind (wpAny_pure ?_)
  try dsimp only
  refine wpAny_bind (wpAny_pure ?_)
  try dsimp only
  refine wpAny_bind (wpAny_holding (wpAny_bind ((PySem.strKind P w).pyHash (k := k) (by show Value.isStrOf k (.str k u) = true; simp [Value.isStrOf]) (add_hashed (s := { s with toks := s.toks + 1 }) R room fun h' b sb r => ?_))))
  show wpAny _ _ (ret Value.none) _ _ _
  exact wpAny_pure ⟨_, rfl, hQ h' sb r⟩
theorem fresh {h : Heap} (P : Program) (w : World) : SetT P w (h.push { cls := .type "set", dict := none, data := .set #[] 0 (.fresh 0 0 (!w.params.followText "set-order")) }) h.objs.size [] :=
  ⟨_, #[], 0, _, ⟨Heap.get?_push_size _ rfl, ⟨rfl, rfl, rfl⟩, rfl⟩, ⟨fun e he => by simp at he, .refl _, .nil⟩, ⟨by decide, rfl⟩, List.Pairwise.nil, by
    show _ ∨ (!w.params.followText "set-order") = true
    cases w.params.followText "set-order" <;> simp⟩
theorem strs_of : ∀ (l : List Value), (∀ v ∈ l, ∃ k tk, v = Value.str k tk) → ∃ ss, StrsAre l ss ∧ ss = l.map fun v => txt (0, v)
  | [], _ => ⟨[], .nil, rfl⟩
  | v :: l, h => by
    obtain ⟨k, tk, rfl⟩ := h v List.mem_cons_self
    obtain ⟨ss, h1, h2⟩ := strs_of l fun u hu => h u (List.mem_cons_of_mem _ hu)
    exact ⟨k :: ss, .cons _ _ h1, by rw [h2]; rfl⟩
theorem sorted_txt {Q : Value → Shared → Prop} (R : SetT P w s.heap a l) (hh : A.handled = none)
    (hQ : ∀ s' p (out : Array Value) (c : Nat) (ss : List Str), (∀ b o, s.heap.get? b = some o → s'.heap.get? b = some o) → (s'.gens = s.gens ∧ s'.os = s.os ∧ s.heap.objs.size ≤ p) → s'.heap.get? p = some (seqObj "list" out c) → StrsAre out.toList ss → ss.Perm l → sortedS ss = true → Q (.ref p) s') :
    wpAny (model P w) A (call (.builtin "sorted") [.ref a]) Q E s := by
  obtain ⟨o, es, ep, t, ⟨ho, hex, hd⟩, ⟨g, pm, nd⟩, ⟨hb, hf⟩, hr, hl⟩ := R
  refine Calls.call_function_entry kind_sorted plain_sorted entry_sorted (args_sorted1 _) ?_
  unfold Builtin.«sorted»
  refine wpAny_bind (m := checkCount "sorted" 1 1 _) (wpAny_pure (wpAny_bind (collect_set (A := A.in1) hh ⟨o, ho, hex.1, hd⟩ hf hb hr hl fun s1 vs k1 hz g1 o1 pv => ?_)))
  have hvl : vs.length ≤ sizeLine := by rw [pv.length_eq, List.length_map, Array.length_toList]; exact fits_of_scanBound hb
  obtain ⟨ss, hS, ess⟩ := strs_of vs fun v hv => by
    obtain ⟨e, he, q⟩ := List.mem_map.mp (pv.mem_iff.mp hv)
    obtain ⟨k, h1, _⟩ := (g e he).1
    obtain ⟨u, hu⟩ := Value.isStrOf_shape h1
    exact ⟨k, u, by rw [← q]; exact hu⟩
  have ps : ss.Perm l := by
    rw [ess]
    refine (pv.map fun v => txt (0, v)).trans ?_
    rw [List.map_map]
    exact pm
  refine wpAny_bind (wpAny_newList ?_ hvl)
  have hoL : (s1.heap.push (seqObj "list" vs.toArray 0)).get? s1.heap.objs.size = some (seqObj "list" vs.toArray 0) := Heap.get?_push_size _ rfl
  refine wpAny_bind (wpAny_holding (wpAny_call_entry slot_list_sort ⟨_, hoL, rfl⟩ entry_list_sort (list_sort_treeKAny strKind_oneLt hoL hS.keysOf (fun v₁ v₂ rest e => keyKind_strs (by rw [← e]; exact hS)) hvl fun st' hp hs => ⟨_, rfl, ?_⟩) (args_list_sort _)))
  obtain ⟨ys, y1, y2, y3⟩ := sorted_out_str hS hp hs
  obtain ⟨c, hc⟩ := sortedHeap_at (vs := vs) (out := (arrOf st').map (·.2)) hoL
  refine wpAny_pure ⟨_, rfl, hQ _ s1.heap.objs.size _ c ys (fun b u e => ?_) ⟨g1, o1, hz⟩ hc y1 (y2.trans ps) y3⟩
  have q := k1 b u e
  have hlt := Heap.lt_size q
  show (sortedHeap (s1.heap.push (seqObj "list" vs.toArray 0)) s1.heap.objs.size vs _).get? b = some u
  rw [sortedHeap_old (Nat.ne_of_lt hlt) (by rw [size_push']; exact Nat.lt_succ_of_lt hlt)]
  exact Heap.get?_push_of_some _ q
end
end Tset
/-! sorted({x for a in xs for b in f(a)}) -/
namespace Tset
open PySem PySem.Spec PyProof.Rows L2
/-- as a tracked thing -/
def SetO (P : Program) (w : World) (a : Addr) (l : List Str) : HO := .ext fun h => SetT P w h a l
theorem setO_at {w : World} {P : Program} {H : Hp} {h : Heap} {a : Addr} {l : List Str} (R : SetT P w h a l) : ObjOk P w H h a (SetO P w a l) := by
  have ⟨o, _, _, _, ⟨ho, _⟩, _⟩ := R
  exact ⟨R, ⟨o, ho⟩, fun h1 h2 p k => SetT.at p k⟩
abbrev two (elt tg iter tg1 iter1 : Expr) (scope : Scope) (pos : Pos) : Expr := .SetComp elt [⟨tg, iter, [], 0⟩, ⟨tg1, iter1, [], 0⟩] scope pos
theorem turn_out (elt t0 i0 t1 i1 : Expr) (scope : Scope) (pos : Pos) (it acc : Value) (env : Env) : compTurn (two elt t0 i0 t1 i1 scope pos) 0 it acc env = (standAt i0.pos >>= fun _ => pyNext it >>= fun r => match r with
      | none => pure (.done .next)
      | some v => letOwnedTupleGo t0 it v >>= fun _ => assign t0 env v >>= fun _ => do
          let x ← eval i1 env
          standAt i1.pos
          let x ← foldedSetIterable i1 env x
          let _ ← runOwn (.compStart (two elt t0 i0 t1 i1 scope pos) 1 (← holding [x] (pyIter x)) acc env) env
          again (.compLoop (two elt t0 i0 t1 i1 scope pos) 0 it acc env)) := by rfl
theorem turn_in (elt t0 i0 t1 i1 : Expr) (scope : Scope) (pos : Pos) (it acc : Value) (env : Env) : compTurn (two elt t0 i0 t1 i1 scope pos) 1 it acc env = (standAt i1.pos >>= fun _ => pyNext it >>= fun r => match r with
      | none => pure (.done .next)
      | some v => letOwnedTupleGo t1 it v >>= fun _ => assign t1 env v >>= fun _ => (eval elt env >>= fun v => standAt elt.pos >>= fun _ => call (.builtin "set.add") [acc, v] >>= fun _ => pure ()) >>= fun _ =>
          again (.compLoop (two elt t0 i0 t1 i1 scope pos) 1 it acc env)) := by rfl
section
variable {prog : Program} {w : World} {A : Around} {R : Result → Shared → Prop} {s : Shared} {elt t0 i0 t1 i1 : Expr} {scope : Scope} {pos : Pos} {it acc : Value} {env : Env}
theorem loop_out (hs : ∀ x, foldedSetIterable i1 env x = pure x) (I : Nat → Shared → Prop)
    (turn : ∀ n s, I n s → wpAny (model prog w) A (pyNext it) (fun r s₁ => match r with
      | none => R (.ok .next) s₁
      | some v => wpAny (model prog w) A (letOwnedTupleGo t0 it v) (fun _ s₁' => wpAny (model prog w) A (assign t0 env v) (fun _ s₂ => wpAny (model prog w) A (eval i1 env) (fun x s₄ => wpAny (model prog w) A (pyIter x) (fun it1 s₅ =>
              codeAny (model prog w) A (.compStart (two elt t0 i0 t1 i1 scope pos) 1 it1 acc env) (fun r s' => match r with | .ok _ => ∃ m, m < n ∧ I m s' | .error _ => False) s₅) (notedBy (model prog w) A env fun e s' => R (.error e) s') s₄) (notedBy (model prog w) A env fun e s' => R (.error e) s') s₂) (notedBy (model prog w) A env fun e s' => R (.error e) s') s₁') (notedBy (model prog w) A env fun e s' => R (.error e) s') s₁) (notedBy (model prog w) A env fun e s' => R (.error e) s') s)
    (n : Nat) (h : I n s) : codeAny (model prog w) A (.compLoop (two elt t0 i0 t1 i1 scope pos) 0 it acc env) R s := by
  refine codeAny_loop rfl I (fun n s hI => ?_) n h
  show wpAny _ A ((compTurn (two elt t0 i0 t1 i1 scope pos) 0 it acc env).onRaise (fun x => do noteFrame x env; theTreesLotGoes x)) _ _ s
  refine wpAny_noted ?_
  rw [turn_out]
  refine wpAny_bind (wpAny_standAt (wpAny_bind (wpAny_mono (turn n s hI) (fun r s₁ h₁ => ?_) fun _ _ z => z)))
  cases r with
  | none => exact wpAny_pure h₁
  | some v =>
    refine wpAny_bind (wpAny_mono h₁ (fun _ s₁' h₂ => wpAny_bind (wpAny_mono h₂ (fun _ s₂ h₃ => wpAny_bind (wpAny_mono h₃ (fun x s₄ h₄ => ?_) fun _ _ z => z)) fun _ _ z => z)) fun _ _ z => z)
    refine wpAny_bind (wpAny_standAt (wpAny_bind (wpAny_of_eq (hs x) (wpAny_bind (wpAny_holding (wpAny_mono h₄ (fun it1 s₅ h₅ => wpAny_bind (wpAny_runOwn ?_)) fun _ _ z => z))))))
    rw [Around.mark_none]
    refine codeAny_mono h₅ fun r s' hr => ?_
    cases r with
    | ok f => first | exact wpAny_pure ⟨rfl, hr⟩ | exact wpAny_bind (wpAny_pure (wpAny_pure ⟨rfl, hr⟩))
    | error e => exact hr.elim
theorem loop_in (I : Nat → Shared → Prop)
    (turn : ∀ n s, I n s → wpAny (model prog w) A (pyNext it) (fun r s₁ => match r with
      | none => R (.ok .next) s₁
      | some v => wpAny (model prog w) A (letOwnedTupleGo t1 it v) (fun _ s₁' => wpAny (model prog w) A (assign t1 env v) (fun _ s₂ => wpAny (model prog w) A (eval elt env) (fun x s₄ => wpAny (model prog w) A (call (.builtin "set.add") [acc, x]) (fun _ s₅ => ∃ m, m < n ∧ I m s₅)
              (notedBy (model prog w) A env fun e s' => R (.error e) s') s₄) (notedBy (model prog w) A env fun e s' => R (.error e) s') s₂) (notedBy (model prog w) A env fun e s' => R (.error e) s') s₁') (notedBy (model prog w) A env fun e s' => R (.error e) s') s₁) (notedBy (model prog w) A env fun e s' => R (.error e) s') s)
    (n : Nat) (h : I n s) : codeAny (model prog w) A (.compLoop (two elt t0 i0 t1 i1 scope pos) 1 it acc env) R s := by
  refine codeAny_loop rfl I (fun n s hI => ?_) n h
  show wpAny _ A ((compTurn (two elt t0 i0 t1 i1 scope pos) 1 it acc env).onRaise (fun x => do noteFrame x env; theTreesLotGoes x)) _ _ s
  refine wpAny_noted ?_
  rw [turn_in]
  refine wpAny_bind (wpAny_standAt (wpAny_bind (wpAny_mono (turn n s hI) (fun r s₁ h₁ => ?_) fun _ _ z => z)))
  cases r with
  | none => exact wpAny_pure h₁
  | some v => exact wpAny_bind (wpAny_mono h₁ (fun _ s₁' h₂ => wpAny_bind (wpAny_mono h₂ (fun _ s₂ h₃ => wpAny_bind (wpAny_bind (wpAny_mono h₃ (fun x s₄ h₄ => wpAny_bind (wpAny_standAt (wpAny_bind (wpAny_mono h₄ (fun _ s₅ h₅ => wpAny_pure (wpAny_pure ⟨rfl, h₅⟩)) fun _ _ z => z)))) fun _ _ z => z))) fun _ _ z => z)) fun _ _ z => z)
theorem start_at {d : Nat} {ip : Expr} {tp : Expr} (hd : (clausesOf (two elt t0 i0 t1 i1 scope pos))[d]? = some ⟨tp, ip, [], 0⟩) (h0 : codeAny (model prog w) A (.compLoop (two elt t0 i0 t1 i1 scope pos) d it acc env) R s)
    (h : wpAny (model prog w) A (pyIter it) (fun it' s' => codeAny (model prog w) A (.compLoop (two elt t0 i0 t1 i1 scope pos) d it' acc env) R s') (notedBy (model prog w) A env fun x s' => R (.error x) s') s) : codeAny (model prog w) A (.compStart (two elt t0 i0 t1 i1 scope pos) d it acc env) R s := by
  refine codeAny_of_tree ?_
  show wpAny _ _ ((compStart (two elt t0 i0 t1 i1 scope pos) d it acc env).onRaise (fun x => do noteFrame x env; standAt theWindowsPlace)) _ _ s
  refine wpAny_notedAt ?_
  unfold compStart
  rw [hd]
  show wpAny _ _ (ask >>= _) _ _ s
  refine wpAny_bind (wpAny_askSetting (wpAny_ite ?_))
  split
  · first
      | exact wpAny_bind (wpAny_pure (wpAny_pure (And.intro rfl h0)))
      | exact wpAny_pure (And.intro rfl h0)
  · first
      | exact wpAny_bind (wpAny_rule (wpAny_bind (wpAny_standAt (wpAny_bind (wpAny_mono h (fun it' s' h' => wpAny_pure (And.intro rfl h')) fun _ _ x => x)))))
      | (refine wpAny_bind (wpAny_rule ?_); show wpAny _ _ (standAt ip.pos >>= _) _ _ s; exact wpAny_bind (wpAny_standAt (wpAny_bind (wpAny_mono h (fun it' s' h' => wpAny_pure (And.intro rfl h')) fun _ _ x => x))))
end
section
variable {X : Cx}
theorem addT {pins : List (Addr × Obj)} {σ : L2.St} {H : Hp} {s : Shared} {E : Value → Shared → Prop} {D : Addr} {l : List Str} {z : Str} {x : Value} {Q : Value → Shared → Prop} (I : Inv X pins σ H s) (hD : H D = some (SetO X.prog X.w D l)) (room : l.length + 1 < scanBound) (hx : RelV (.str z) x)
    (h : ∀ s', Inv X pins σ (upd H D (SetO X.prog X.w D (addL l z))) s' → Q .none s') : wpAny (model X.prog X.w) X.A (call (.builtin "set.add") [.ref D, x]) Q E s := by
  obtain ⟨u, rfl⟩ := hx
  refine add_txt (I.hok D _ hD).1 room fun h' sb new => ?_
  have ⟨o, _, _, _, ⟨ho, _⟩, _⟩ := new
  exact h _ (I.write (e := D) (t' := s.toks + 1) (by rw [hD]; trivial) (.inl rfl) (fun b u hb hu => (sb.2 b hb).trans hu) ⟨o, ho⟩ (setO_at new))
/-- what is gathered, T tells the set: at its end D holds the texts l -/
def gath (T : Addr → List Str → HO) (wi : TI) (g : TG) (wi1 : TI) (g1 : TG) (te : TE) (vs vs1 : List Nat) (σ : L2.St) (H : Hp) (Q : Addr → Hp → Prop) : Prop := wi σ H fun J H1 => ∀ D, H1 D = none → ∃ W : Nat → Nat → Hp → Prop, (∃ m, W 0 m (upd H1 D (T D []))) ∧ ∀ i m H, W i m H →
  (J.stop i H ∧ Q D H) ∨ (J.go i H ∧ ∃ Nx : Hp → Prop, (∀ H', Nx H' → ∃ m', m' < m ∧ W (i + 1) m' H') ∧ ∀ x H', J.yld i H x H' → g x (wipe σ vs) H' fun σ2 H3 => wipe σ2 vs = wipe σ vs ∧ wi1 σ2 H3 fun J1 H4 => ∃ W1 : Nat → Nat → Hp → Prop, (∃ m, W1 0 m H4) ∧ ∀ j k H, W1 j k H →
      (J1.stop j H ∧ Nx H) ∨ (J1.go j H ∧ ∃ Nx1 : Hp → Prop, (∀ H', Nx1 H' → ∃ k', k' < k ∧ W1 (j + 1) k' H') ∧ ∀ x H', J1.yld j H x H' → g1 x (wipe σ2 vs1) H' fun σ3 H6 => wipe σ3 vs1 = wipe σ2 vs1 ∧ te σ3 H6 fun y H7 => ∃ z l, y = .str z ∧ H7 D = some (T D l) ∧ l.length + 1 < scanBound ∧ Nx1 (upd H7 D (T D (addL l z)))))
theorem pe_two {elt tg iter tg1 iter1 : Expr} {scope : Scope} {own : List (PySem.Str × Nat)} {vs1 : List Nat} {pos : Pos} {wi wi1 : TI} {g g1 : TG} {te : TE} (hc : X.calm = true) (hN : X.N.Nodup) (hi : PI X tg iter wi) (ok : BlkOk X.N X.env.scope scope own) (hv : ∀ i ∈ vs1, i ∈ own.map (·.2))
    (hg : ∀ (s : Shared) (H : Hp) (C : Addr) (cl : List (PySem.Str × Addr)) (fp : List Addr), PG (X.blk s H scope (compEnvC scope cl C X.env) fp) tg g) (hi1 : ∀ (s : Shared) (H : Hp) (C : Addr) (cl : List (PySem.Str × Addr)) (fp : List Addr), PI (X.blk s H scope (compEnvC scope cl C X.env) fp) tg1 iter1 wi1) (hg1 : ∀ (s : Shared) (H : Hp) (C : Addr) (cl : List (PySem.Str × Addr)) (fp : List Addr), PG (X.blk s H scope (compEnvC scope cl C X.env) fp) tg1 g1)
    (he : ∀ (s : Shared) (H : Hp) (C : Addr) (cl : List (PySem.Str × Addr)) (fp : List Addr), PE (X.blk s H scope (compEnvC scope cl C X.env) fp) elt te) (hs : ∀ x, foldedSetIterable iter X.env x = pure x := by intro _; rfl) (hs1 : ∀ env x, foldedSetIterable iter1 env x = pure x := by intro _ _; rfl) :
    PE X (two elt tg iter tg1 iter1 scope pos) (fun σ H Q => gath (SetO X.prog X.w) wi g wi1 g1 te (own.map (·.2)) vs1 σ H fun D => Q (.ref D)) := by
  refine ⟨fun pins s σ H Q I h => ?_⟩
  show wpAny _ _ (comprehension (two elt tg iter tg1 iter1 scope pos) scope X.env (firstIterPos [⟨tg, iter, [], 0⟩, ⟨tg1, iter1, [], 0⟩] pos) (newSet (.type "set")) false (eval iter X.env)) _ _ s
  refine wpAny_comprehension_free (use := none) rfl hs (closure_ok fun y hy e => (ok.free y hy e).elim (fun k => I.ok.has _ (.inl k)) fun k => I.ok.has _ (.inr k)) ok.kind (fun y hy e => by rw [ok.uniq y hy, e]) (thn (hi.run pins s σ H _ I h) fun xv s1 hx => thn hx fun itv s2 h2 => ?_)
  obtain ⟨it, fp, tn, J, H2, rfl, I2, T, st2, f2, q⟩ := h2
  refine PpSet.newSet_ok (newEnv_comp ?_)
  generalize hD : s2.heap.objs.size = D
  obtain ⟨W, ⟨m0, w0⟩, turn⟩ := q D (I2.hok.fresh (Nat.le_of_eq hD))
  generalize hs3 : ({ s2 with heap := s2.heap.push { cls := .type "set", dict := none, data := .set #[] 0 (.fresh 0 0 (!X.w.params.followText "set-order")) } } : Shared) = s3
  have I3 : Inv X pins σ (upd H2 D (SetO X.prog X.w D [])) s3 := by
    rw [← hs3]
    refine I2.laid (t' := s2.toks) (fun b o e => Heap.get?_push_of_some _ e) (Nat.le_of_eq hD) ?_
    rw [← hD]
    exact setO_at (fresh X.prog X.w)
  have h3 : s3.heap = s2.heap.push { cls := .type "set", dict := none, data := .set #[] 0 (.fresh 0 0 (!X.w.params.followText "set-order")) } := by rw [← hs3]
  have f3 : ∀ b ∈ fp, FpOk X pins (upd H2 D (SetO X.prog X.w D [])) b ∧ b < s3.heap.objs.size := fun b hb => by
    obtain ⟨o, e, _⟩ := T.obj _ _ st2 b hb
    have lt := Heap.lt_size e
    exact ⟨⟨by rw [upd_ne (by rw [← hD]; exact Nat.ne_of_lt lt)]; exact (f2 b hb).1, (f2 b hb).2⟩, by rw [h3, Heap.size_push]; exact Nat.lt_succ_of_lt lt⟩
  have st3 : tn 0 s3.heap := T.keep _ _ _ st2 fun b _ o e => by rw [h3]; exact Heap.get?_push_of_some _ e
  have I4 := block_start I3 ok hN f3
  have pg := hg s3 (upd H2 D (SetO X.prog X.w D [])) s3.heap.objs.size (cellsFrom (s3.heap.objs.size + 1) scope.names (cloFrom X.env.cells scope.names [])) fp
  have pe := he s3 (upd H2 D (SetO X.prog X.w D [])) s3.heap.objs.size (cellsFrom (s3.heap.objs.size + 1) scope.names (cloFrom X.env.cells scope.names [])) fp
  have pi1 := hi1 s3 (upd H2 D (SetO X.prog X.w D [])) s3.heap.objs.size (cellsFrom (s3.heap.objs.size + 1) scope.names (cloFrom X.env.cells scope.names [])) fp
  have pg1 := hg1 s3 (upd H2 D (SetO X.prog X.w D [])) s3.heap.objs.size (cellsFrom (s3.heap.objs.size + 1) scope.names (cloFrom X.env.cells scope.names [])) fp
  have nfp : ∀ b ∈ fp, (upd H2 D (SetO X.prog X.w D [])) b = none := fun b hb => (f3 b hb).1.1
  show codeAny _ _ (.compStart (two elt tg iter tg1 iter1 scope pos) 0 (.ref it) (.ref D) (compEnvC scope (cellsFrom (s3.heap.objs.size + 1) scope.names (cloFrom X.env.cells scope.names [])) s3.heap.objs.size X.env)) _ { s3 with heap := pushCells (s3.heap.push { cls := .type "dict", data := .dict #[] }) scope.names }
  generalize hce : compEnvC scope (cellsFrom (s3.heap.objs.size + 1) scope.names (cloFrom X.env.cells scope.names [])) s3.heap.objs.size X.env = ce at I4 pg pe pi1 pg1 ⊢
  have cL : ce.locals = s3.heap.objs.size := by subst hce; rfl
  generalize hH3 : upd H2 D (SetO X.prog X.w D []) = H3 at I3 I4 pg pe pi1 pg1 w0 nfp f3
  generalize hs4 : ({ s3 with heap := pushCells (s3.heap.push { cls := .type "dict", data := .dict #[] }) scope.names } : Shared) = s4 at I4 ⊢
  have st4 : tn 0 s4.heap := T.keep _ _ _ st3 fun b _ o e => by rw [← hs4]; exact pushCells_keeps _ _ _ _ (Heap.get?_push_of_some _ e)
  have stat : ∀ {σ' : L2.St} {H' : Hp} {s' : Shared}, Inv (X.blk s3 H3 scope ce fp) [] σ' H' s' → (∀ b ∈ fp, H' b = none) → ∀ b ∈ fp, FpOk (X.blk s3 H3 scope ce fp) [] H' b := fun {σ' H' s'} I' hn b hb =>
    ⟨hn b hb, (I'.ok.exf b hb).1, I'.ok.exfs b hb, .inl hb, (I'.ok.exf b hb).2, fun p hp => absurd (show p ∈ ([] : List (Addr × Obj)) ++ [] from hp) (by simp)⟩
  -- what stands between two turns of the outer loop
  let Mid : Nat → Shared → Prop := fun n s' => ∃ i H', Inv (X.blk s3 H3 scope ce fp) [] (wipe σ (own.map (·.2))) H' s' ∧ tn i s'.heap ∧ (∀ b ∈ fp, H' b = none) ∧ W i n H'
  refine (fun (loop : codeAny (model X.prog X.w) X.A (.compLoop (two elt tg iter tg1 iter1 scope pos) 0 (.ref it) (.ref D) ce) _ s4) => start_at (tp := tg) (ip := iter) rfl loop (T.self X.A 0 _ _ _ st4 loop)) ?_
  refine loop_out (hs1 ce) Mid ?_ m0 ⟨0, H3, I4, st4, nfp, w0⟩
  rintro n s5 ⟨i, H5, I5, st5, n5, w5⟩
  rcases turn i n H5 w5 with ⟨stop, qq⟩ | ⟨go, Nx, hNx, step⟩
  · refine thnF (T.done (X.blk s3 H3 scope ce fp) rfl rfl rfl hc i [] s5 _ H5 (fun _ _ => False) I5 (stat I5 n5) st5 stop) fun r s6 ⟨hr, I6⟩ => ?_
    subst hr
    have I7 : Inv X pins σ H5 s6 := I3.call' (ch := fp) I6.os I6.base I6.hok I6.bare fun b hb => let z := (f3 b hb).1.2; ⟨z.2.2.1, z.1, z.2.2.2.1, z.2.2.2.2⟩
    have nC : H5 s3.heap.objs.size = none := by rw [← cL]; exact I6.free
    obtain ⟨m, hn, _⟩ := I6.loc
    have hn : s6.heap.Ns ce.locals m := hn
    rw [cL] at hn
    obtain ⟨f0, f1, _, f3', f4, f5⟩ := I3.fpOk (Nat.le_refl _) nC
    exact ⟨m, hn, fun h'' sb => ⟨.ref D, H5, I7.turned (t' := s6.toks) (fun b o hb e => (sb.2 b hb).trans e) f0 f1 f3' f4 f5, rfl, qq⟩⟩
  · refine thnF (T.item (X.blk s3 H3 scope ce fp) rfl rfl rfl hc i [] s5 _ H5 (fun _ _ => False) I5 (stat I5 n5) st5 go) fun r s6 ⟨u, hr, h6⟩ => ?_
    subst hr
    refine thnF h6 fun _ s7 ⟨x, H7, I7, r7, y7, st7, n7⟩ => ?_
    refine thnF (pg.run _ s7 _ H7 x u _ (I7.pinned (stat I7 n7) (T.obj _ _ st7)) r7 (step x H7 y7)) fun _ s8 ⟨σ8, H8, I8, hw8, q8⟩ => ?_
    -- the end of an outer turn
    have fin : ∀ {s' : Shared} {H' : Hp}, Inv (X.blk s3 H3 scope ce fp) ([] ++ pinsAt fp s7.heap) (wipe σ8 vs1) H' s' → Nx H' → ∃ m, m < n ∧ Mid m s' := fun {s' H'} I' nx => by
      obtain ⟨m', hm, w'⟩ := hNx H' nx
      have pin' : ∀ b ∈ fp, ∀ o, s7.heap.get? b = some o → s'.heap.get? b = some o ∧ H' b = none := fun b hb o e => let z := I'.pin (b, o) (List.mem_append_right _ (List.mem_append_right _ (mem_pinsAt hb e))); ⟨z.1, z.2.1⟩
      refine ⟨m', hm, i + 1, H', (I'.unpinned (pins := [])).weak (by rw [← hw8, wipe_length, wipe_length]) (fun j v e => ?_), T.keep _ _ _ st7 fun b hb o e => (pin' b hb o e).1, fun b hb => ?_, w'⟩
      · rw [← hw8] at e
        obtain ⟨e1, e2⟩ := wipe_some e
        rw [wipe_out fun z => e2 (hv j z)]; exact e1
      · obtain ⟨o, e, _⟩ := T.obj _ _ st7 b hb
        exact (pin' b hb o e).2
    refine thnF (pi1.run _ s8 σ8 H8 _ I8 q8) fun xv s10 hx => thnF hx fun itv s11 h11 => ?_
    obtain ⟨it1, fp1, tn1, J1, H11, rfl, I11, T1, st11, f11, W1, ⟨m1, w1⟩, turn1⟩ := h11
    have stat1 : ∀ {H' : Hp}, (∀ b ∈ fp1, H' b = none) → ∀ b ∈ fp1, FpOk (X.blk s3 H3 scope ce fp) ([] ++ pinsAt fp s7.heap) H' b := fun hn b hb => ⟨hn b hb, (f11 b hb).2⟩
    refine (fun (loop1 : codeAny (model X.prog X.w) X.A (.compLoop (two elt tg iter tg1 iter1 scope pos) 1 (.ref it1) (.ref D) ce) (fun r s' => match r with | .ok _ => ∃ m, m < n ∧ Mid m s' | .error _ => False) s11) => start_at (tp := tg1) (ip := iter1) rfl loop1 (T1.self X.A 0 _ _ _ st11 loop1)) ?_
    refine loop_in (fun k s' => ∃ j H', Inv (X.blk s3 H3 scope ce fp) ([] ++ pinsAt fp s7.heap) (wipe σ8 vs1) H' s' ∧ tn1 j s'.heap ∧ (∀ b ∈ fp1, H' b = none) ∧ W1 j k H') ?_ m1 ⟨0, H11, I11.weak (wipe_length _ _) (fun j v e => (wipe_some e).1), st11, fun b hb => (f11 b hb).1, w1⟩
    rintro k s12 ⟨j, H12, I12, st12, n12, w12⟩
    rcases turn1 j k H12 w12 with ⟨stop1, nx1⟩ | ⟨go1, Nx1, hNx1, step1⟩
    · refine thnF (T1.done (X.blk s3 H3 scope ce fp) rfl rfl rfl hc j _ s12 (wipe σ8 vs1) H12 (fun _ _ => False) I12 (stat1 n12) st12 stop1) fun r s13 ⟨hr, I13⟩ => ?_
      subst hr
      exact fin I13 nx1
    · refine thnF (T1.item (X.blk s3 H3 scope ce fp) rfl rfl rfl hc j _ s12 (wipe σ8 vs1) H12 (fun _ _ => False) I12 (stat1 n12) st12 go1) fun r s13 ⟨u1, hr, h13⟩ => ?_
      subst hr
      refine thnF h13 fun _ s14 ⟨x1, H14, I14, r14, y14, st14, n14⟩ => ?_
      refine thnF (pg1.run _ s14 (wipe σ8 vs1) H14 x1 u1 _ (I14.pinned (stat1 n14) (T1.obj _ _ st14)) r14 (step1 x1 H14 y14)) fun _ s15 ⟨σ15, H15, I15, hw15, q15⟩ => ?_
      refine thnF (pe.run _ s15 σ15 H15 _ I15 q15) fun z s17 ⟨yv, H17, I17, r17, zt, l, ey, hD17, hz17, nx⟩ => ?_
      subst ey
      refine addT (X := X.blk s3 H3 scope ce fp) I17 hD17 hz17 r17 fun s18 I18 => ?_
      obtain ⟨m', hm, w'⟩ := hNx1 _ nx
      have pin' : ∀ b ∈ fp1, ∀ o, s14.heap.get? b = some o → s18.heap.get? b = some o ∧ upd H17 D (SetO X.prog X.w D (addL l zt)) b = none := fun b hb o e => let z := I18.pin (b, o) (List.mem_append_right _ (List.mem_append_right _ (mem_pinsAt hb e))); ⟨z.1, z.2.1⟩
      refine ⟨m', hm, j + 1, _, I18.unpinned.weak (by rw [← hw15, wipe_length]) (fun j v e => by rw [← hw15] at e; exact (wipe_some e).1), T1.keep _ _ _ st14 fun b hb o e => (pin' b hb o e).1, fun b hb => ?_, w'⟩
      obtain ⟨o, e, _⟩ := T1.obj _ _ st14 b hb
      exact (pin' b hb o e).2
def rSortT (T : Addr → List Str → HO) : List V → Hp → VK → Prop := fun vs H Q => ∃ a l, vs = [V.ref a] ∧ H a = some (T a l) ∧ l.length ≤ 4096 ∧ ∀ ss p, ss.Perm l → sortedS ss = true → H p = none → Q (.ref p) (upd H p (.lst (ss.map V.str)))
theorem cr_sortT (hc : X.calm = true) : CallR X (.builtin "sorted") (rSortT (SetO X.prog X.w)) := fun pins s σ H vs us Q I r h => by
  obtain ⟨a, l, rfl, ha, hl, q⟩ := h
  rw [Vals.ref1 r]
  refine sorted_txt (I.hok a _ ha).1 (I.ok.hd hc) fun s' p out c ss k ⟨g, o, hp⟩ hg hi pm so => ?_
  have hlen : (ss.map V.str).length ≤ sizeLine := by rw [List.length_map, pm.length_eq, sizeLine_eq]; omega
  have hn : H p = none := I.hok.fresh hp
  have J : Inv X pins σ (upd H p (.lst (ss.map V.str))) { s with heap := s'.heap, gens := s'.gens, drawn := s'.drawn, toks := s'.toks } := I.call (ch := []) (Un.laid k hp hn) (I.hok.laid k hp ⟨hlen, out.toList, c, vals_of_strs hi, hg⟩) (by rw [g]; exact I.bare) (fun _ z => nomatch z)
  have e : s' = { s with heap := s'.heap, gens := s'.gens, drawn := s'.drawn, toks := s'.toks } := by cases s'; cases s; cases o; rfl
  rw [e]
  exact ⟨.ref p, _, J, rfl, q ss p pm so hn⟩
/-- sorted({x for a in xs for b in f(a)}), whatever stands for the set -/
def tSortTwo (wi : TI) (g : TG) (wi1 : TI) (g1 : TG) (te : TE) (vs vs1 : List Nat) : TE := fun σ H Q => ∀ T : Addr → List Str → HO, (∀ a l q, T a l ≠ .tbl q) → gath T wi g wi1 g1 te vs vs1 σ H fun D H1 => rSortT T [.ref D] H1 Q
theorem pe_sortTwo {p apos : Pos} {elt tg iter tg1 iter1 : Expr} {scope : Scope} {own : List (PySem.Str × Nat)} {vs1 : List Nat} {pos : Pos} {wi wi1 : TI} {g g1 : TG} {te : TE} (hc : X.calm = true) (hgl : Gl X "sorted") (hm : X.mg "sorted" = none) (hN : X.N.Nodup) (hi : PI X tg iter wi) (ok : BlkOk X.N X.env.scope scope own) (hv : ∀ i ∈ vs1, i ∈ own.map (·.2))
    (hg : ∀ (s : Shared) (H : Hp) (C : Addr) (cl : List (PySem.Str × Addr)) (fp : List Addr), PG (X.blk s H scope (compEnvC scope cl C X.env) fp) tg g) (hi1 : ∀ (s : Shared) (H : Hp) (C : Addr) (cl : List (PySem.Str × Addr)) (fp : List Addr), PI (X.blk s H scope (compEnvC scope cl C X.env) fp) tg1 iter1 wi1) (hg1 : ∀ (s : Shared) (H : Hp) (C : Addr) (cl : List (PySem.Str × Addr)) (fp : List Addr), PG (X.blk s H scope (compEnvC scope cl C X.env) fp) tg1 g1)
    (he : ∀ (s : Shared) (H : Hp) (C : Addr) (cl : List (PySem.Str × Addr)) (fp : List Addr), PE (X.blk s H scope (compEnvC scope cl C X.env) fp) elt te) (hs : ∀ x, foldedSetIterable iter X.env x = pure x := by intro _; rfl) (hs1 : ∀ env x, foldedSetIterable iter1 env x = pure x := by intro _ _; rfl) :
    PE X (.Call (.Name "sorted" p) [two elt tg iter tg1 iter1 scope pos] [] apos) (tSortTwo wi g wi1 g1 te (own.map (·.2)) vs1) := by
  exact ⟨fun pins s σ H Q I h => (pe_callB (pos := apos) (p := p) (cr_sortT hc) hgl hm (by decide +kernel) (pa_cons (pe_two (pos := pos) hc hN hi ok hv hg hi1 hg1 he hs hs1) pa_nil)).run pins s σ H Q I (h (SetO X.prog X.w) fun _ _ _ z => nomatch z)⟩
end
end Tset
/-! the layer's rule for sorted({x for a in xs for b in f(a)}) -/
namespace Fw
open PySem L2 Tset PyProof.Rows
def addAll (l ks : List Str) : List Str := ks.foldl addL l
theorem addL_len (l : List Str) (k : Str) : (addL l k).length ≤ l.length + 1 := by
  unfold addL; split
  · omega
  · exact Nat.le_refl _
theorem addAll_len : ∀ (ks l : List Str), (addAll l ks).length ≤ l.length + ks.length
  | [], l => Nat.le_refl _
  | k :: ks, l => by
    have h := addAll_len ks (addL l k)
    have := addL_len l k
    show (addAll (addL l k) ks).length ≤ l.length + (ks.length + 1)
    omega
theorem addAll_snoc (l ks : List Str) (k : Str) : addAll l (ks ++ [k]) = addL (addAll l ks) k := by unfold addAll; rw [List.foldl_append]; rfl
def total (nm : Nat → List Str) : Nat → List Str
  | 0 => []
  | i + 1 => addAll (total nm i) (nm i)
theorem total_len {nm : Nat → List Str} {m : Nat} (h : ∀ i, (nm i).length ≤ m) : ∀ i, (total nm i).length ≤ i * m
  | 0 => by simp [total]
  | i + 1 => by
    have := total_len h i
    have := addAll_len (nm i) (total nm i)
    have := h i
    show (addAll (total nm i) (nm i)).length ≤ (i + 1) * m
    rw [Nat.succ_mul]; omega
section
variable {K : FK} {δ : AE}
theorem reps_strs {G : Hp} : ∀ ss : List Str, Reps K G (ss.map V.str) (ss.map PD.str)
  | [] => .nil
  | x :: r => .cons (.str x) (reps_strs r)
theorem eo_sortTwo {wi wi1 : TI} {g g1 : TG} {te : TE} {vs vs1 : List Nat} {n m : Nat} {f : Nat → PD} (nm : Nat → List Str) (ns : List Str) (h : Evi K wi δ n f) (hn : n * m + m ≤ 4000) (hm : ∀ i, (nm i).length ≤ m) (hns : ∀ ss, ss.Perm (total nm n) → sortedS ss = true → ss = ns)
    (hs : ∀ i, i < n → ∃ δ' js f1, Evg K g (f i) (wipeA δ vs) δ' js ∧ (∀ j ∈ js, j ∈ vs) ∧ δ'.all isSh = true ∧ Evi K wi1 δ' (nm i).length f1 ∧ ∀ j z, (nm i)[j]? = some z → ∃ δ'' js1, Evg K g1 (f1 j) (wipeA δ' vs1) δ'' js1 ∧ (∀ k ∈ js1, k ∈ vs1) ∧ Evd K te δ'' (.str z)) : Evo K (tSortTwo wi g wi1 g1 te vs vs1) δ (.lst (ns.map .str)) := fun B G H σ R Q q T hT =>
  h B G H σ R _ fun J G1 H1 Gd Y R1 s1 w hG hY D hD => by
    haveI : ∀ l, NT (T D l) := fun l => ⟨fun z => hT D l z⟩
    let Pv : Nat → Hp → Prop := fun i H' => ∃ G', Step G1 H1 G' H' ∧ G' D = none ∧ H' D = some (T D (total nm i))
    refine ⟨fun i k H' => k = n - i ∧ i ≤ n ∧ Pv i H', ⟨n, rfl, Nat.zero_le _, G1, (Step.refl R1.gh).hid hD, fresh_back R1.gh hD, upd_same⟩, ?_⟩
    rintro i k H' ⟨rfl, hi, G2, s2, g2, h2⟩
    have gd := hG G2 H' s2.eg s2.gh
    by_cases hlt : i < n
    · refine .inr ⟨w.goes i H' hlt gd, Pv (i + 1), fun H4 p => ⟨n - (i + 1), by omega, rfl, hlt, p⟩, fun x H3 y => ?_⟩
      obtain ⟨G3, s3, r3⟩ := hY i x H' H3 G2 hlt s2.eg s2.gh (w.yields i H' x H3 hlt gd y)
      obtain ⟨δ', js, f1, hg, hj, hall, hi1, he⟩ := hs i hlt
      have R3 : RepS K B G3 H3 σ δ := R1.st (s2.trans s3)
      refine hg B G3 H3 _ x (R3.wipe vs) r3 _ fun σ3 R4 l4 k4 => ⟨wipe_eq l4 k4 hj, ?_⟩
      refine hi1 B G3 H3 σ3 R4 _ fun J1 G5 H5 Gd1 Y1 R5 s5 w1 hG1 hY1 => ?_
      have g5 : G5 D = none := (s3.trans s5).nw D (some_ne h2) g2
      have h5 : H5 D = some (T D (total nm i)) := s5.eh.get _ _ (s3.eh.get _ _ h2)
      let Pv1 : Nat → Hp → Prop := fun j H' => ∃ G', RepS K B G' H' σ3 δ' ∧ Step G1 H1 G' H' ∧ Same G5 G' ∧ G' D = none ∧ H' D = some (T D (addAll (total nm i) ((nm i).take j)))
      refine ⟨fun j k H' => k = (nm i).length - j ∧ j ≤ (nm i).length ∧ Pv1 j H', ⟨_, rfl, Nat.zero_le _, G5, R5, (s2.trans s3).trans s5, Same.refl G5, g5, h5⟩, ?_⟩
      rintro j k H6 ⟨rfl, hj6, G6, R6, s6, e6, g6, h6⟩
      have gd1 := hG1 G6 H6 e6 s6.gh
      by_cases hlt1 : j < (nm i).length
      · refine .inr ⟨w1.goes j H6 hlt1 gd1, Pv1 (j + 1), fun H4 p => ⟨_, by omega, rfl, hlt1, p⟩, fun x1 H7 y1 => ?_⟩
        obtain ⟨G7, s7, r7⟩ := hY1 j x1 H6 H7 G6 hlt1 e6 s6.gh (w1.yields j H6 x1 H7 hlt1 gd1 y1)
        have ez := List.getElem?_eq_getElem hlt1
        obtain ⟨δ'', js1, hg1, hj1, hte⟩ := he j _ ez
        have R7 : RepS K B G7 H7 σ3 δ' := R6.st s7
        refine hg1 B G7 H7 _ x1 (R7.wipe vs1) r7 _ fun σ8 R8 l8 k8 => ⟨wipe_eq l8 k8 hj1, ?_⟩
        refine hte B G7 H7 σ8 R8 _ fun v G9 H9 R9 s9 r9 => ?_
        cases r9 with
        | str =>
        have h9 : H9 D = some (T D (addAll (total nm i) ((nm i).take j))) := s9.eh.get _ _ (s7.eh.get _ _ h6)
        have g9 : G9 D = none := (s7.trans s9).nw D (some_ne h6) g6
        have lb : (addAll (total nm i) ((nm i).take j)).length + 1 < scanBound := by
          have a1 := addAll_len ((nm i).take j) (total nm i)
          have a2 := total_len hm i
          have a3 := hm i
          have a4 : i * m + m ≤ n * m := by rw [← Nat.succ_mul]; exact Nat.mul_le_mul_right _ hlt
          rw [List.length_take] at a1
          have a5 : min j (nm i).length ≤ (nm i).length := Nat.min_le_right _ _
          show _ < 4096
          omega
        refine ⟨_, _, rfl, h9, lb, G9, (R7.st s9).out g9 (R1.newFree hD) (RepS.noHold hall D) ⟨_, fun q => hT D _ q, h9⟩, ((s6.trans s7).trans s9).mut hD g9, (e6.trans s7.eg).trans s9.eg, g9, ?_⟩
        rw [upd_same, List.take_add_one, ez]
        show _ = some (T D (addAll (total nm i) ((nm i).take j ++ [(nm i)[j]])))
        rw [addAll_snoc]
      · have ej : j = (nm i).length := by omega
        subst ej
        refine .inl ⟨w1.stops H6 gd1, G6, s6, g6, ?_⟩
        rw [h6, List.take_length]
        rfl
    · have ei : i = n := by omega
      subst ei
      refine .inl ⟨w.stops H' gd, D, _, rfl, h2, ?_, fun ss p pm so hp => ?_⟩
      · have := total_len hm i; omega
      · have e := hns ss pm so
        subst e
        exact q p G2 _ ((R1.st s2).hid hp) ((s1.trans s2).hid hp) (fresh_bk (s1.trans s2).eh hp) (fresh_back s2.gh hp) ⟨_, upd_same, reps_strs ss⟩
end
end Fw
/-! generator expressions in defs of the text; dicts of the top whose values are tuples of texts -/
namespace Fw
open PySem PySem.Spec PyProof.Rows L2
/-- what is known of a generator's own context Y -/
structure GY (X Y : Cx) (scope : Scope) (N : List Str) (k : Nat) : Prop where
  sc : Y.env.scope = scope
  N : Y.N = N
  xe : Y.xe = Gx.Never
  calm : Y.calm = true
  room : Room k Y.A
  K : Y.K = X.K
  mg : Y.mg = X.mg
  base : Y.base = X.base
  prog : Y.prog = X.prog
  w : Y.w = X.w
section
variable {X Y : Cx} {scope : Scope} {N : List Str} {k : Nat}
theorem g_var (Z : GY X Y scope N k) (i : Nat) {x : Str} {pos : Pos} (hN : N[i]? = some x := by rfl) (hv : Vis scope x := by exact Or.inl rfl) (hd : (x == ("__debug__" : Str)) = false := by decide) (hcd : (x == ("__classdict__" : Str)) = false := by decide) : PE Y (.Name x pos) (tVar i) :=
  pe_var (by rw [Z.N]; exact hN) (by rw [Z.sc]; exact hv) hd hcd
theorem g_name (Z : GY X Y scope N k) {i : Nat} {x : Str} {pos : Pos} (nd : N.Nodup := by decide +kernel) (hN : N[i]? = some x := by rfl) (hl : scope.names.lookup x = some .local := by rfl) : PG Y (.Name x pos) (gName i) :=
  pg_name (by rw [Z.N]; exact nd) (by rw [Z.N]; exact hN) (by rw [Z.sc]; exact Or.inl hl) (Or.inr (by rw [Z.sc]; exact hl))
theorem g_tup (Z : GY X Y scope N k) {es : List Expr} {kk : Nat} {t : TGs} {n : Nat} {pos : Pos} (h : PGs Y es t) (hn : (assignEach es Y.env).length = n := by rfl) (hst : (assignEach es Y.env).findIdx? (·.1) = none := by rfl) : PG Y (.Tuple es kk pos) (gTup X.K n t) := by
  rw [← Z.K]
  exact pg_tup Z.calm h hn hst
theorem g_call (Z : GY X Y scope N k) {x : Str} {e : Expr} {es : List Expr} {t : TA} {p pos : Pos} {j : Nat} {ps : List Str} {sp : Sp} (o : Ok X.prog X.w X.K X.mg X.base j x ps sp) (hj : j ≤ k) (hg : scope.names.lookup x = some .globalImplicit) (ha : PA Y (e :: es) t) (hdb : (x == ("__debug__" : Str)) = false := by decide)
    (he : starEach (e :: es) Y.env = (false, eval e Y.env) :: starEach es Y.env := by rfl) (hpl : (backTo pos (starEach es Y.env)).any (·.1) = false := by rfl) : PE Y (.Call (.Name x p) (e :: es) [] pos) (tCall sp [] E0 t) := by
  have o' : Ok Y.prog Y.w Y.K Y.mg Y.base j x ps sp := by rw [Z.prog, Z.w, Z.K, Z.mg, Z.base]; exact o
  exact pe_callO o' (Z.room.mono hj) (by show Y.env.scope.names.lookup x = _; rw [Z.sc]; exact hg) ha hdb he hpl
theorem pe_allT {c P : Addr} {elt tg iter : Expr} {p pos gpos : Pos} {wi : TI} {g : TG} {te : TE} (hr : Room (k + 1) X.A) (hgl : Gl X "all") (hm : X.mg "all" = none) (TB : GxR.TabB X.base X.mg c P) (hcode : X.env.code = .ref c) (S : Gx.Own scope) (hcl : cloFrom X.env.cells scope.names [] = []) (hi : PI X tg iter wi) (hs : ∀ v, genFold iter X.env v = pure v)
    (hg : ∀ Y, GY X Y scope N k → PG Y tg g ∧ PE Y elt te) (he : starEach [.GeneratorExp elt [⟨tg, iter, [], 0⟩] scope gpos] X.env = (false, eval (.GeneratorExp elt [⟨tg, iter, [], 0⟩] scope gpos) X.env) :: starEach [] X.env := by rfl) :
    PE X (.Call (.Name "all" p) [.GeneratorExp elt [⟨tg, iter, [], 0⟩] scope gpos] [] pos) (Gx.tGen (·.all id) P N wi g te) :=
  Gx.pe_allG hr hgl hm (by decide +kernel) TB hcode S hcl hi hs (fun Y h1 h2 h3 h4 h5 h6 h7 h8 h9 h10 => hg Y ⟨h1, h2, h3, h4, h5, h6, h7, h8, h9, h10⟩) he
end
/-! ### a def whose code object's table may grow -/
section
variable {P : Program} {w : World} {K : PySem.W.Frag} {mg : Str → Option Value} {base : Heap}
def DefAtT (K : PySem.W.Frag) (mg : Str → Option Value) (x : Str) (st : Stmt) : Prop := ∃ fd, FunD K x x (defArgs st) (defBody st) (defScope st) [] [] (He.fAd K (x, none)) fd ∧ mg x = some (.ref (He.fAd K (x, none)))
theorem DefAtT.to {x : Str} {st : Stmt} (D : DefAtT K mg x st) : DefAt K mg x st := by obtain ⟨fd, h⟩ := D; exact ⟨_, fd, h⟩
theorem Ok.byT {x : Str} {st : Stmt} {N ps : List Str} {k : Nat} {sp : Sp} {ts : TS} (D : DefAtT K mg x st) (S : FnScope N ps (defScope st)) (len : ∀ vs H Q E, sp vs H Q E → vs.length = ps.length)
    (hb : ∀ (kV doc pm : Value) (an : Option Addr) (cdv ct : Value) (us : List Value), us.length = ps.length → bindArgs (PySem.W.fnOf x x (defArgs st) (defBody st) (defScope st) .none kV doc pm an cdv ct) ⟨us, []⟩ = pure (ps.zip us))
    (rd : ∀ (vs : List V) (H : Hp) (Q : VK) (E : XK), sp vs H Q E → ts { nx := fun _ H' => Q .non H', rt := Q } (L2.start N vs) H)
    (hd : ∀ (f : Addr) (A : Around) (outer : List Env) (s : Shared) (H : Hp) (E : XK), Room k (A.deeper (envOfC x (defScope st) s.heap.objs.size f (.ref (He.codeOf K (x, none))))) →
      PSs (cxOf CX0 P w K mg base N x (defScope st) f (.ref (He.codeOf K (x, none))) A outer s H E).nox (defBody st) ts) : Ok P w K mg base (k + 1) x ps sp := by
  obtain ⟨fd, F, m⟩ := D
  obtain ⟨oc, od, dV, kV, doc, pm, an, cdv, ct, osl, e, lk, hcd, hdv, hkv⟩ := F.ex
  subst e
  obtain ⟨c, rfl⟩ := He.codeIn_ref hcd
  have ec : He.codeOf K (x, none) = c := He.codeOf_eq lk rfl
  refine ⟨_, _, fn_of lk hcd S len fun A outer s H vs Q E hr h => ⟨ts, ?_, rd vs H Q E h⟩, m, F.kp, F.bindsN hb, ⟨oc, od, osl, lk⟩⟩
  rw [← ec] at hr ⊢
  exact (hd _ A outer s H E hr).nox
end
/-! ### tuples of texts in a dict of the top -/
def tupIn (K : PySem.W.Frag) (a : Addr) (x : Str) (vs : List Str) : Bool := match PySem.W.nsIn K a x with
  | some (some (.ref p)) => (match K.lookup p with
    | some ⟨.type c, _, .seq its _, _⟩ => decide (c = "tuple") && (decide (its.size ≤ sizeLine) && He.relAll (vs.map V.str) its.toList)
    | _ => false)
  | _ => false
theorem tupIn_ok {K : PySem.W.Frag} {a : Addr} {x : Str} {vs : List Str} (h : tupIn K a x vs = true) : ∃ p, PySem.W.nsIn K a x = some (some (.ref p)) ∧ ∀ H, SqT K H p (vs.map V.str) := by
  unfold tupIn at h
  split at h
  · rename_i p e
    refine ⟨p, e, fun H => ?_⟩
    split at h
    · rename_i c od its n osl e2
      obtain ⟨h1, h2⟩ := He.ba h
      obtain ⟨h3, h4⟩ := He.ba h2
      refine Or.inr ⟨_, its, n, e2, ?_, rfl, of_decide_eq_true h3, He.relAll_ok h4⟩
      show Value.type c = _
      rw [of_decide_eq_true h1]
    · cases h
  · cases h
def rKIx (K : PySem.W.Frag) (d : Addr) : R2 := fun x y H Q => ∃ (z : Str) (u0 : Value) (v0 : V), x = .ref d ∧ y = .str z ∧ PySem.W.nsIn K d z = some (some u0) ∧ RelV v0 u0 ∧ Q v0 H
theorem ix_kd {X : Cx} {d : Addr} (D : ∃ es n, KDict X.K X.w d es n) : IxR X (rKIx X.K d) := by
  intro value slice pins s σ H x y v u Q I rx ry h hs
  obtain ⟨es, n, D⟩ := D
  have h0 := h
  obtain ⟨z, u0, v0, rfl, rfl, e, r, q⟩ := h
  have q1 := op_item_kd D pins s σ H _ _ v u Q I rx ry h0
  cases rx
  exact tail_any (kd_type D I) PySem.F.slot_dict_getitem.lookup q1 hs
section
variable {K : FK} {δ : AE} {ta tb te : TE} {a : Addr} {d : PD}
theorem strs_reps (G : Hp) : ∀ l : List Str, Reps K G (l.map V.str) (l.map PD.str)
  | [] => .nil
  | x :: r => .cons (.str x) (strs_reps G r)
theorem ev_kgetT {z : Str} {vs : List Str} (hb : Evd K tb δ (.str z)) (h : tupIn K.F a z vs = true) : Evd K (tKGet K a tb) δ (.tup (vs.map PD.str)) := by
  obtain ⟨p, h1, h2⟩ := tupIn_ok h
  exact ev_kget hb ⟨_, .ref p, h1, rfl, fun G => .tup (h2 G) (strs_reps G vs)⟩
theorem ev_kixT {z : Str} {vs : List Str} (hb : Evd K tb δ (.str z)) (h : tupIn K.F a z vs = true) : Evd K (tOp (rKIx K a) (tC (.ref a)) tb) δ (.tup (vs.map PD.str)) := fun B G H σ R Q q =>
  hb B G H σ R _ fun y G1 H1 R1 s r => by
    obtain ⟨p, h1, h2⟩ := tupIn_ok h
    rw [r.flat rfl]
    exact ⟨z, .ref p, .ref p, rfl, rfl, h1, rfl, q (.ref p) G1 H1 R1 s (.tup (h2 G1) (strs_reps G1 vs))⟩
end
end Fw
namespace Lw
open PySem L2 Fw
/-! ### what the law draws -/
def cell (ns : List Int) (k : Int) : Int := if k < ns.length then ns.getD k.toNat 0 else 0
def number (c : Int) : Int := if c % 4 = 3 then c / 4 % 1000000 else if c % 4 = 2 then 1000000 - 1 - c / 4 % 3 else c / 4 % 3
theorem number_bd (c : Int) : 0 ≤ number c ∧ number c < 1000000 := by
  unfold number
  split
  · omega
  · split <;> omega
def letters : Str := "abcdefghijklmnopqrstuvwxyz"
def letter (i : Int) : Str := ⟨#[97 + i.toNat]⟩
theorem letters_at : ∀ k : Fin 26, letters.cps.toList[k.val]? = some (97 + k.val) := by decide +kernel
theorem letters_atI {i : Int} (h : 0 ≤ i ∧ i < 26) : atI letters.cps.toList i = some (97 + i.toNat) := by
  have e := letters_at ⟨i.toNat, by omega⟩
  have e2 := atI_nat e
  have e3 : ((⟨i.toNat, by omega⟩ : Fin 26).val : Int) = i := by show (i.toNat : Int) = i; omega
  rw [e3] at e2
  exact e2
theorem letters_len : letters.length ≤ sizeLine := by decide +kernel
def nameAt (c : Int) (k : Nat) : Str :=
  if c % 3 = 0 then strRep (letter (c / 24 % 26)) (k + 1)
  else (strRep (letter (1 + c / 3 % 8)) (c / 5 % (1 + c / 3 % 8)) ++ letter ((c / 24 + 5 * k) % 26)) ++ strRep (letter (1 + c / 3 % 8 + c % 3)) (1 + c / 3 % 8 - 1 - c / 5 % (1 + c / 3 % 8))
def names (c : Int) : List Str := (List.range 6).map (nameAt c)
/-! ### rows -/
inductive Src where
  | n (x : Str) | i (v : Int)
def Src.pd : Src → PD
  | .n x => .str x
  | .i v => .int v
inductive Op where
  | add | minus | times | less
def Op.word : Op → Str
  | .add => "add" | .minus => "minus" | .times => "times" | .less => "less"
def Op.val : Op → Int → Int → Int
  | .add, a, b => (a + b) % 1000000
  | .minus, a, b => (a - b) % 1000000
  | .times, a, b => a * b % 1000000
  | .less, a, b => if a < b then 1 else 0
inductive Row where
  | put (x : Str) (v : Int) | copy (x : Str) (s : Src) | op (w : Op) (x : Str) (a b : Src) | tell (s : Src)
  | jump (p : Int) | zero (x : Str) (p : Int) | stop
def Row.items : Row → List PD
  | .put x v => [.str "put", .str x, .int v]
  | .copy x s => [.str "copy", .str x, s.pd]
  | .op w x a b => [.str w.word, .str x, a.pd, b.pd]
  | .tell s => [.str "tell", s.pd]
  | .jump p => [.str "jump", .int p]
  | .zero x p => [.str "zero", .str x, .int p]
  | .stop => [.str "stop"]
def Row.pd (r : Row) : PD := .tup r.items
def nm (nms : List Str) (i : Int) : Str := nms.getD i.toNat (Str.ofString "")
def straight (way c : Int) (nms : List Str) : Row :=
  if way % 7 = 0 then .put (nm nms (2 + c % 3)) (number (c / 3))
  else if way % 7 = 1 then .copy (nm nms (2 + c % 3)) (.n (nm nms (c / 3 % 5)))
  else if way % 7 = 2 then .op .add (nm nms (2 + c % 3)) (.n (nm nms (c / 3 % 5))) (.n (nm nms (c / 15 % 5)))
  else if way % 7 = 3 then .op .minus (nm nms (2 + c % 3)) (.n (nm nms (c / 3 % 5))) (.n (nm nms (c / 15 % 5)))
  else if way % 7 = 4 then .op .times (nm nms (2 + c % 3)) (.n (nm nms (c / 3 % 5))) (.n (nm nms (c / 15 % 5)))
  else if way % 7 = 5 then .op .less (nm nms (2 + c % 3)) (.n (nm nms (c / 3 % 5))) (.n (nm nms (c / 15 % 5)))
  else .tell (.n (nm nms (c / 3 % 5)))
def bodyRow (ns : List Int) (first size : Int) (nms : List Str) (st : Int) (k : Nat) : Row :=
  if 8 < cell ns (first + 2 * k) % 11 then .zero (nm nms (1 + cell ns (first + 2 * k + 1) % 4)) (st + min size (k + 1 + cell ns (first + 2 * k + 1) / 4 % 4))
  else if cell ns (first + 2 * k) % 11 = 8 ∧ cell ns (first + 2 * k + 1) % 3 = 0 then .jump (st + min size (k + 1 + cell ns (first + 2 * k + 1) / 3 % 2))
  else straight (cell ns (first + 2 * k) % 11) (cell ns (first + 2 * k + 1)) nms
def body (ns : List Int) (first size : Int) (nms : List Str) (st : Int) : List Row := (List.range size.toNat).map (bodyRow ns first size nms st)
def wildRow (ns : List Int) (first size : Int) (nms : List Str) (k : Nat) : Row :=
  if 9 < cell ns (first + 2 * k) % 12 then .zero (nm nms (cell ns (first + 2 * k + 1) % 5)) (cell ns (first + 2 * k + 1) / 5 % size)
  else if cell ns (first + 2 * k) % 12 = 9 then
    (if cell ns (first + 2 * k + 1) % 3 = 0 then .jump (cell ns (first + 2 * k + 1) / 3 % size) else if cell ns (first + 2 * k + 1) % 3 = 1 then .stop else .jump (k / 2))
  else straight (cell ns (first + 2 * k) % 12) (cell ns (first + 2 * k + 1)) nms
def wild (ns : List Int) (first size : Int) (nms : List Str) : List Row := (List.range size.toNat).map (wildRow ns first size nms)
def turn (count : Int) (nms : List Str) : List Row :=
  if count % 4 = 1 then [.put (nm nms 3) (2 + count / 4 % 8), .op .less (nm nms 2) (.n (nm nms 0)) (.n (nm nms 3)), .zero (nm nms 2) 7, .op .add (nm nms 4) (.n (nm nms 4)) (.n (nm nms 1))] else []
def inner (ns : List Int) (nms : List Str) (size count : Int) : List Row :=
  if count % 4 = 2 then (List.range (if count / 4 % 2 = 0 then 57 else 58)).map fun (k : Nat) => Row.put (nm nms 4) (k : Int)
  else turn count nms ++ body ns 5 size nms (3 + (turn count nms).length)
def frame (nms : List Str) (count way : Int) (tl : Nat) (inn : List Row) : List Row :=
  ([Row.put (nm nms 5) (1 + count / 12 % 5), .put (nm nms 1) 1, .put (nm nms 0) (if 0 < tl then 12 else 1 + count % 12)] ++ inn
    ++ [Row.op .minus (nm nms 0) (.n (nm nms 0)) (.n (nm nms 1)), .zero (nm nms 0) (3 + inn.length + 3), .jump 3])
    ++ (if 0 < way then [Row.op .minus (nm nms 5) (.n (nm nms 5)) (.n (nm nms 1)), .zero (nm nms 5) (3 + inn.length + 6), .jump 2] else [])
    ++ ([Row.tell (.n (nm nms 2)), .tell (.n (nm nms 3)), .stop]).take (4 - way).toNat
def program (ns : List Int) : List Row :=
  if cell ns 4 % 5 = 4 then wild ns 5 (cell ns 0 % 10) (names (cell ns 2))
  else frame (names (cell ns 2)) (cell ns 3) (cell ns 4 % 5) (turn (cell ns 3) (names (cell ns 2))).length (inner ns (names (cell ns 2)) (cell ns 0 % 10) (cell ns 3))
/-! ### what rows do -/
def sv (e : NE) : Src → Option Int
  | .n x => get e x
  | .i v => some v
def done (e : NE) : Row → Option NE
  | .put x v => some (eput e x v)
  | .copy x s => (sv e s).map (eput e x)
  | .op w x a b => (sv e a).bind fun i => (sv e b).map fun j => eput e x (w.val i j)
  | .tell s => (sv e s).map fun _ => e
  | _ => none
def tells (e : NE) : Row → List Int
  | .tell s => (sv e s).toList
  | _ => []
/-- one step of a program -/
def step (r : Row) (i : Int) (e : NE) : Option (Int × NE × List Int) := match r with
  | .jump p => some (p, e, [])
  | .zero x p => (get e x).map fun v => (if v = 0 then p else i + 1, e, [])
  | .stop => none
  | r => (done e r).map fun e' => (i + 1, e', tells e r)
def Small (v : Int) : Prop := -1000000000 ≤ v ∧ v ≤ 1000000000
def Bd (e : NE) : Prop := ∀ x v, get e x = some v → Small v
def sBd : Src → Prop
  | .n _ => True
  | .i v => Small v
def rBd : Row → Prop
  | .put _ v => Small v
  | .copy _ s => sBd s
  | .op _ _ a b => sBd a ∧ sBd b
  | _ => True
theorem sv_small {e : NE} {s : Src} {v : Int} (hb : Bd e) (hs : sBd s) (h : sv e s = some v) : Small v := by
  cases s with
  | n x => exact hb x v h
  | i u => cases h; exact hs
/-- all names, holding nought -/
def zeroPart (e : NE) (d : PD) : NE := match d with
  | .str x => eput e x 0
  | _ => e
def allRow (e : NE) (r : Row) : NE := (r.items.drop 1).foldl zeroPart e
def allNames (rs : List Row) : NE := rs.foldl allRow []
structure EqNE (e1 e2 : NE) : Prop where
  len : e1.length = e2.length
  small : e1.length ≤ 10000
  to : ∀ p ∈ e1, get e2 p.1 = some p.2
  back : ∀ p ∈ e2, (get e1 p.1).isSome = true
/-- a name as the document has it -/
def nameOk (x : Str) : Prop := (∀ c ∈ x.cps.toList, 97 ≤ c ∧ c ≤ 122) ∧ 1 ≤ x.length ∧ x.length ≤ 8
def srcOk (s : Src) : Prop := ∃ y, s = .n y ∧ nameOk y
/-- a row of a program of n rows -/
def RowOk (n : Nat) : Row → Prop
  | .put x v => nameOk x ∧ 0 ≤ v ∧ v < 1000000
  | .copy x s => nameOk x ∧ srcOk s
  | .op _ x a b => nameOk x ∧ srcOk a ∧ srcOk b
  | .tell s => srcOk s
  | .jump p => 0 ≤ p ∧ p < n
  | .zero x p => nameOk x ∧ 0 ≤ p ∧ p < n
  | .stop => True
def Prog (rows : List Row) : Prop := rows.length ≤ 90 ∧ ∀ r ∈ rows, RowOk rows.length r
def pdT (p : Int) (e : NE) (ts : List Int) : PD := .tup [.int p, .dic (encD e), .lst (ts.map PD.int)]
/-! ### the promises -/
def isWhole : PD → Bool
  | .int _ => true
  | _ => false
def P_law_cell_at (ds : List PD) (r : Rt) : Prop := ∃ ns k, 0 ≤ k ∧ ds = [.scr ns, .int k] ∧ r = .val (.int (cell ns k))
def P_law_whole (ds : List PD) (r : Rt) : Prop := ∃ d, tyOk d = true ∧ ds = [d] ∧ r = .val (.bl (isWhole d))
def P_law_names (ds : List PD) (r : Rt) : Prop := ∃ c, ds = [.int c] ∧ r = .own (.lst ((names c).map PD.str))
def P_law_number (ds : List PD) (r : Rt) : Prop := ∃ c, ds = [.int c] ∧ r = .val (.int (number c))
def P_law_straight (ds : List PD) (r : Rt) : Prop := ∃ way c, ∃ nms : List Str, nms.length = 6 ∧ ds = [.int way, .int c, .lst (nms.map PD.str)] ∧ r = .val (straight way c nms).pd
def P_law_body (ds : List PD) (r : Rt) : Prop := ∃ ns first size, ∃ nms : List Str, ∃ st, nms.length = 6 ∧ (0 ≤ first ∧ first ≤ 1000) ∧ (0 ≤ size ∧ size ≤ 100) ∧ ds = [.scr ns, .int first, .int size, .lst (nms.map PD.str), .int st] ∧ r = .own (.lst ((body ns first size nms st).map Row.pd))
def P_law_wild (ds : List PD) (r : Rt) : Prop := ∃ ns first size, ∃ nms : List Str, nms.length = 6 ∧ (0 ≤ first ∧ first ≤ 1000) ∧ (0 ≤ size ∧ size ≤ 100) ∧ ds = [.scr ns, .int first, .int size, .lst (nms.map PD.str)] ∧ r = .own (.lst ((wild ns first size nms).map Row.pd))
def P_law_turn (ds : List PD) (r : Rt) : Prop := ∃ count, ∃ nms : List Str, nms.length = 6 ∧ ds = [.int count, .lst (nms.map PD.str)] ∧ r = .own (.lst ((turn count nms).map Row.pd))
def P_law_program (ds : List PD) (r : Rt) : Prop := ∃ ns : List Int, ns.length ≤ 63 ∧ ds = [.scr ns] ∧ r = .own (.lst ((program ns).map Row.pd))
def P_law_value (ds : List PD) (r : Rt) : Prop := ∃ e s v, sv e s = some v ∧ ds = [.dic (encD e), s.pd] ∧ r = .val (.int v)
def P_law_done (ds : List PD) (r : Rt) : Prop := ∃ row e e', Bd e ∧ rBd row ∧ e.length ≤ 10000 ∧ done e row = some e' ∧ ds = [row.pd, .dic (encD e)] ∧ r = .own (.dic (encD e'))
def P_law_told (ds : List PD) (r : Rt) : Prop := ∃ row e e', done e row = some e' ∧ ds = [row.pd, .dic (encD e)] ∧ r = .own (.lst ((tells e row).map PD.int))
def P_law_step (ds : List PD) (r : Rt) : Prop := ∃ rows : List Row, ∃ i : Nat, ∃ row e p e' ts, Bd e ∧ rBd row ∧ e.length ≤ 10000 ∧ rows[i]? = some row ∧ step row i e = some (p, e', ts) ∧ ds = [.lst (rows.map Row.pd), .int i, .dic (encD e)] ∧ r = .val (pdT p e' ts)
def P_law_all (ds : List PD) (r : Rt) : Prop := ∃ rows : List Row, rows.length ≤ 200 ∧ ds = [.lst (rows.map Row.pd)] ∧ r = .own (.dic (encD (allNames rows)))
def P_law_numbers (ds : List PD) (r : Rt) : Prop := ∃ e1 e2, EqNE e1 e2 ∧ ds = [.dic (encD e1), .dic (encD e2)] ∧ r = .val (.bl true)
def P_law_list (ds : List PD) (r : Rt) : Prop := ∃ ts : List Int, ts.length ≤ 10000 ∧ ds = [.lst (ts.map PD.int), .lst (ts.map PD.int)] ∧ r = .val (.bl true)
def P_law_alike (ds : List PD) (r : Rt) : Prop := ∃ rows : List Row, Prog rows ∧ ds = [.lst (rows.map Row.pd), .lst (rows.map Row.pd)] ∧ r = .val (.bl true)
def P_law_stepped (ds : List PD) (r : Rt) : Prop := ∃ p e1 e2, ∃ ts : List Int, EqNE e1 e2 ∧ ts.length ≤ 10000 ∧ ds = [pdT p e1 ts, pdT p e2 ts] ∧ r = .val (.bl true)
def P_law (ds : List PD) (r : Rt) : Prop := ∃ ns : List Int, ns.length ≤ 63 ∧ ds = [.scr ns] ∧ r = .val (.bl true)
/-! the program's -/
def P_outcome (ds : List PD) (r : Rt) : Prop := ∃ w a b, Small a ∧ Small b ∧ ds = [.str (Op.word w), .int a, .int b] ∧ r = .val (.int (w.val a b))
def putVal (e : NE) : Row → Option (Str × Int)
  | .put x v => some (x, v)
  | .copy x s => (sv e s).map fun v => (x, v)
  | .op w x a b => (sv e a).bind fun i => (sv e b).map fun j => (x, w.val i j)
  | _ => none
def oBd : Row → Prop
  | .op _ _ a b => sBd a ∧ sBd b
  | _ => True
def P_held (ds : List PD) (r : Rt) : Prop := ∃ e s v, sv e s = some v ∧ ds = [s.pd, .dic (encD e)] ∧ r = .val (.int v)
def P_number_for (ds : List PD) (r : Rt) : Prop := ∃ row e x v, Bd e ∧ oBd row ∧ putVal e row = some (x, v) ∧ ds = [row.pd, .dic (encD e)] ∧ r = .val (.int v)
def P_is_over (ds : List PD) (r : Rt) : Prop := ∃ rows : List Row, ∃ i : Nat, ds = [.lst (rows.map Row.pd), .int i] ∧ r = .val (.bl (match rows[i]? with | none => true | some .stop => true | _ => false))
abbrev sp_outcome (K : FK) : Sp := spP K P_outcome
abbrev sp_held (K : FK) : Sp := spP K P_held
abbrev sp_number_for (K : FK) : Sp := spP K P_number_for
abbrev sp_is_over (K : FK) : Sp := spP K P_is_over
abbrev sp_law_cell_at (K : FK) : Sp := spP K P_law_cell_at
abbrev sp_law_whole (K : FK) : Sp := spP K P_law_whole
abbrev sp_law_names (K : FK) : Sp := spP K P_law_names
abbrev sp_law_number (K : FK) : Sp := spP K P_law_number
abbrev sp_law_straight (K : FK) : Sp := spP K P_law_straight
abbrev sp_law_body (K : FK) : Sp := spP K P_law_body
abbrev sp_law_wild (K : FK) : Sp := spP K P_law_wild
abbrev sp_law_turn (K : FK) : Sp := spP K P_law_turn
abbrev sp_law_program (K : FK) : Sp := spP K P_law_program
abbrev sp_law_value (K : FK) : Sp := spP K P_law_value
abbrev sp_law_done (K : FK) : Sp := spP K P_law_done
abbrev sp_law_told (K : FK) : Sp := spP K P_law_told
abbrev sp_law_step (K : FK) : Sp := spP K P_law_step
abbrev sp_law_all (K : FK) : Sp := spP K P_law_all
abbrev sp_law_numbers (K : FK) : Sp := spP K P_law_numbers
abbrev sp_law_list (K : FK) : Sp := spP K P_law_list
abbrev sp_law_alike (K : FK) : Sp := spP K P_law_alike
abbrev sp_law_stepped (K : FK) : Sp := spP K P_law_stepped
abbrev sp_law (K : FK) : Sp := spP K P_law
def encV (e : NE) : List (Key × V) := e.map fun q => ((Sum.inr q.1 : Key), V.int q.2)
def srcN : Src → Prop
  | .n _ => True
  | .i _ => False
/-- all its sources are names -/
def Named : Row → Prop
  | .copy _ s => srcN s
  | .op _ _ a b => srcN a ∧ srcN b
  | .tell s => srcN s
  | _ => True
/-- row a tuple, place, names and told objects of the caller's that are changed -/
def sp_do_step (K : FK) : Sp := fun vs H Q _ => ∃ (G : Hp) (v : V) (a b : Addr) (row : Row) (i : Int) (e e' : NE) (p : Int) (us ts : List Int), vs = [v, .int i, .ref a, .ref b] ∧ Same G H ∧ Tb K G H ∧ Rep K G v row.pd ∧ Bd e ∧ e.length ≤ 10000 ∧ us.length ≤ 10000 ∧
  H a = some (.dK (encV e)) ∧ H b = some (.lst (us.map V.int)) ∧ G a = none ∧ G b = none ∧ a ≠ b ∧ Named row ∧ step row i e = some (p, e', ts) ∧
  ∀ H', SamX H H' (fun c => c = a ∨ c = b) → Same G H' → H' a = some (.dK (encV e')) → H' b = some (.lst ((us ++ ts).map V.int)) → Q (.int p) H'
/-- a new triple of a place, a new dict, a new list -/
def P_stepped (ds : List PD) (r : Rt) : Prop := ∃ rows : List Row, ∃ i : Nat, ∃ row e e' p ts, Bd e ∧ e.length ≤ 10000 ∧ rows[i]? = some row ∧ Named row ∧ step row i e = some (p, e', ts) ∧
  ds = [.lst (rows.map Row.pd), .int i, .dic (encD e)] ∧ r = .otup [.inl (.int p), .inr (.dic (encD e')), .inr (.lst (ts.map PD.int))]
abbrev sp_stepped (K : FK) : Sp := spP K P_stepped
def t_outcome (K : FK) : TS := tSeq (tIfS (tTest (tOp rEq (tVar 0) (tC (.str "add")))) (tRet (tOp rModI (tOp rAddI (tVar 1) (tVar 2)) (tC (.int 1000000)))) (tNext)) (tSeq (tIfS (tTest (tOp rEq (tVar 0) (tC (.str "minus")))) (tRet (tOp rModI (tOp rSubI (tVar 1) (tVar 2)) (tC (.int 1000000)))) (tNext)) (tSeq (tIfS (tTest (tOp rEq (tVar 0) (tC (.str "times")))) (tRet (tOp rModI (tOp rMulI (tVar 1) (tVar 2)) (tC (.int 1000000)))) (tNext)) (tRet (tIf (tTest (tOp rLtI (tVar 1) (tVar 2))) (tC (.int 1)) (tC (.int 0))))))
def t_held (K : FK) : TS := tRet (tIf (tB (tCB (rIsi K) (tCons (tVar 0) (tCons (tC (.ty "int")) (tNil))))) (tVar 0) (tDGet (tVar 1) (tVar 0)))
def t_number_for (K : FK) : TS := tSeq (tIfS (tTest (tOp rEq (tOp (rIxT K) (tVar 0) (tC (.int 0))) (tC (.str "put")))) (tRet (tOp (rIxT K) (tVar 0) (tC (.int 2)))) (tNext)) (tSeq (tIfS (tTest (tOp rEq (tOp (rIxT K) (tVar 0) (tC (.int 0))) (tC (.str "copy")))) (tRet (tCall (sp_held K) [] E0 (tCons (tOp (rIxT K) (tVar 0) (tC (.int 2))) (tCons (tVar 1) (tNil))))) (tNext)) (tRet (tCall (sp_outcome K) [] E0 (tCons (tOp (rIxT K) (tVar 0) (tC (.int 0))) (tCons (tCall (sp_held K) [] E0 (tCons (tOp (rIxT K) (tVar 0) (tC (.int 2))) (tCons (tVar 1) (tNil)))) (tCons (tCall (sp_held K) [] E0 (tCons (tOp (rIxT K) (tVar 0) (tC (.int 3))) (tCons (tVar 1) (tNil)))) (tNil)))))))
def t_do_step (K : FK) : TS := tSeq (tIfS (tTest (tOp rEq (tOp (rIxT K) (tVar 0) (tC (.int 0))) (tC (.str "jump")))) (tRet (tOp (rIxT K) (tVar 0) (tC (.int 1)))) (tNext)) (tSeq (tIfS (tTest (tOp rEq (tOp (rIxT K) (tVar 0) (tC (.int 0))) (tC (.str "zero")))) (tRet (tIf (tTest (tOp rEq (tDGet (tVar 2) (tOp (rIxT K) (tVar 0) (tC (.int 1)))) (tC (.int 0)))) (tOp (rIxT K) (tVar 0) (tC (.int 2))) (tOp rAddI (tVar 1) (tC (.int 1))))) (tNext)) (tSeq (tIfS (tTest (tOp rEq (tOp (rIxT K) (tVar 0) (tC (.int 0))) (tC (.str "tell")))) (tDrop (tBM K "list" rAppend (tVar 3) (tCons (tDGet (tVar 2) (tOp (rIxT K) (tVar 0) (tC (.int 1)))) (tNil)))) (sDPut (tVar 2) (tOp (rIxT K) (tVar 0) (tC (.int 1))) (tCall (sp_number_for K) [] E0 (tCons (tVar 0) (tCons (tVar 2) (tNil)))))) (tRet (tOp rAddI (tVar 1) (tC (.int 1))))))
def t_is_over (K : FK) : TS := tRet (tOrV (tOp rGeI (tVar 1) (tCB (rLenS K) (tCons (tVar 0) (tNil)))) (tOp rEq (tOp (rIxT K) (tOp (rIxL K) (tVar 0) (tVar 1)) (tC (.int 0))) (tC (.str "stop"))))
def t_stepped (K : FK) : TS := tSeq (tAsg (tCB rDictD (tCons (tVar 2) (tNil))) (gName 3)) (tSeq (tAsg (tLst (tNil)) (gName 4)) (tSeq (tIfS (tB (tCall (sp_is_over K) [] E0 (tCons (tVar 0) (tCons (tVar 1) (tNil))))) (tRet (tTup (tCons (tVar 1) (tCons (tVar 3) (tCons (tVar 4) (tNil)))))) (tNext)) (tSeq (tAsg (tCall (sp_do_step K) [] E0 (tCons (tOp (rIxL K) (tVar 0) (tVar 1)) (tCons (tVar 1) (tCons (tVar 3) (tCons (tVar 4) (tNil)))))) (gName 5)) (tRet (tTup (tCons (tVar 5) (tCons (tVar 3) (tCons (tVar 4) (tNil)))))))))
def t_law_cell_at (K : FK) : TS := tSeq (tIfS (tTest (tOp rLtI (tVar 1) (tCB (rLenS K) (tCons (tVar 0) (tNil))))) (tRet (tOp (rIxL K) (tVar 0) (tVar 1))) (tNext)) (tRet (tC (.int 0)))
def t_law_whole (K : FK) : TS := tRet (tAndV (tCB (rIsi K) (tCons (tVar 0) (tCons (tC (.ty "int")) (tNil)))) (tNotV (tCB (rIsi K) (tCons (tVar 0) (tCons (tC (.ty "bool")) (tNil))))))
def t_law_names (K : FK) : TS := tSeq (tAsg (tC (.str "abcdefghijklmnopqrstuvwxyz")) (gName 1)) (tSeq (tAsg (tOp rAddI (tC (.int 1)) (tOp rModI (tOp rDivI (tVar 0) (tC (.int 3))) (tC (.int 8)))) (gName 2)) (tSeq (tAsg (tLst (tNil)) (gName 3)) (tSeq (tFor (iRng1 (tCons (tC (.int 6)) (tNil))) (gName 4) (tSeq (tAsg (tOp rIxS (tVar 1) (tOp rModI (tOp rAddI (tOp rDivI (tVar 0) (tC (.int 24))) (tOp rMulI (tC (.int 5)) (tVar 4))) (tC (.int 26)))) (gName 5)) (tIfS (tTest (tOp rEq (tOp rModI (tVar 0) (tC (.int 3))) (tC (.int 0)))) (tDrop (tBM K "list" rAppend (tVar 3) (tCons (tOp rMulStr (tOp rIxS (tVar 1) (tOp rModI (tOp rDivI (tVar 0) (tC (.int 24))) (tC (.int 26)))) (tOp rAddI (tVar 4) (tC (.int 1)))) (tNil)))) (tSeq (tAsg (tOp rModI (tOp rDivI (tVar 0) (tC (.int 5))) (tVar 2)) (gName 6)) (tSeq (tAsg (tOp rMulStr (tOp rIxS (tVar 1) (tVar 2)) (tVar 6)) (gName 7)) (tSeq (tAsg (tOp rMulStr (tOp rIxS (tVar 1) (tOp rAddI (tVar 2) (tOp rModI (tVar 0) (tC (.int 3))))) (tOp rSubI (tOp rSubI (tVar 2) (tC (.int 1))) (tVar 6))) (gName 8)) (tDrop (tBM K "list" rAppend (tVar 3) (tCons (tOp rCatStr (tOp rCatStr (tVar 7) (tVar 5)) (tVar 8)) (tNil)))))))))) (tRet (tVar 3)))))
def t_law_number (K : FK) : TS := tSeq (tIfS (tTest (tOp rEq (tOp rModI (tVar 0) (tC (.int 4))) (tC (.int 3)))) (tRet (tOp rModI (tOp rDivI (tVar 0) (tC (.int 4))) (tOp rPowI (tC (.int 10)) (tC (.int 6))))) (tNext)) (tSeq (tIfS (tTest (tOp rEq (tOp rModI (tVar 0) (tC (.int 4))) (tC (.int 2)))) (tRet (tOp rSubI (tOp rSubI (tOp rPowI (tC (.int 10)) (tC (.int 6))) (tC (.int 1))) (tOp rModI (tOp rDivI (tVar 0) (tC (.int 4))) (tC (.int 3))))) (tNext)) (tRet (tOp rModI (tOp rDivI (tVar 0) (tC (.int 4))) (tC (.int 3)))))
def t_law_straight (K : FK) : TS := tSeq (tAsg (tOp (rIxL K) (tVar 2) (tOp rAddI (tC (.int 2)) (tOp rModI (tVar 1) (tC (.int 3))))) (gName 3)) (tSeq (tAsg (tOp (rIxL K) (tVar 2) (tOp rModI (tOp rDivI (tVar 1) (tC (.int 3))) (tC (.int 5)))) (gName 4)) (tSeq (tAsg (tOp (rIxL K) (tVar 2) (tOp rModI (tOp rDivI (tVar 1) (tC (.int 15))) (tC (.int 5)))) (gName 5)) (tSeq (tAsg (tOp (rIxL K) (tLst (tCons (tC (.str "put")) (tCons (tC (.str "copy")) (tCons (tC (.str "add")) (tCons (tC (.str "minus")) (tCons (tC (.str "times")) (tCons (tC (.str "less")) (tCons (tC (.str "tell")) (tNil))))))))) (tOp rModI (tVar 0) (tC (.int 7)))) (gName 6)) (tSeq (tIfS (tTest (tOp rEq (tVar 6) (tC (.str "put")))) (tRet (tTup (tCons (tVar 6) (tCons (tVar 3) (tCons (tCall (sp_law_number K) [] E0 (tCons (tOp rDivI (tVar 1) (tC (.int 3))) (tNil))) (tNil)))))) (tNext)) (tSeq (tIfS (tTest (tOp rEq (tVar 6) (tC (.str "copy")))) (tRet (tTup (tCons (tVar 6) (tCons (tVar 3) (tCons (tVar 4) (tNil)))))) (tNext)) (tSeq (tIfS (tTest (tOp rEq (tVar 6) (tC (.str "tell")))) (tRet (tTup (tCons (tVar 6) (tCons (tVar 4) (tNil))))) (tNext)) (tRet (tTup (tCons (tVar 6) (tCons (tVar 3) (tCons (tVar 4) (tCons (tVar 5) (tNil)))))))))))))
def t_law_body (K : FK) : TS := tSeq (tAsg (tLst (tNil)) (gName 5)) (tSeq (tFor (iRng1 (tCons (tVar 2) (tNil))) (gName 6) (tSeq (tAsg (tOp rModI (tCall (sp_law_cell_at K) [] E0 (tCons (tVar 0) (tCons (tOp rAddI (tVar 1) (tOp rMulI (tC (.int 2)) (tVar 6))) (tNil)))) (tC (.int 11))) (gName 7)) (tSeq (tAsg (tCall (sp_law_cell_at K) [] E0 (tCons (tVar 0) (tCons (tOp rAddI (tOp rAddI (tVar 1) (tOp rMulI (tC (.int 2)) (tVar 6))) (tC (.int 1))) (tNil)))) (gName 8)) (tIfS (tTest (tOp rGtI (tVar 7) (tC (.int 8)))) (tDrop (tBM K "list" rAppend (tVar 5) (tCons (tTup (tCons (tC (.str "zero")) (tCons (tOp (rIxL K) (tVar 3) (tOp rAddI (tC (.int 1)) (tOp rModI (tVar 8) (tC (.int 4))))) (tCons (tOp rAddI (tVar 4) (tCB rMin2 (tCons (tVar 2) (tCons (tOp rAddI (tOp rAddI (tVar 6) (tC (.int 1))) (tOp rModI (tOp rDivI (tVar 8) (tC (.int 4))) (tC (.int 4)))) (tNil))))) (tNil))))) (tNil)))) (tIfS (tAnd (tTest (tOp rEq (tVar 7) (tC (.int 8)))) (tTest (tOp rEq (tOp rModI (tVar 8) (tC (.int 3))) (tC (.int 0))))) (tDrop (tBM K "list" rAppend (tVar 5) (tCons (tTup (tCons (tC (.str "jump")) (tCons (tOp rAddI (tVar 4) (tCB rMin2 (tCons (tVar 2) (tCons (tOp rAddI (tOp rAddI (tVar 6) (tC (.int 1))) (tOp rModI (tOp rDivI (tVar 8) (tC (.int 3))) (tC (.int 2)))) (tNil))))) (tNil)))) (tNil)))) (tDrop (tBM K "list" rAppend (tVar 5) (tCons (tCall (sp_law_straight K) [] E0 (tCons (tVar 7) (tCons (tVar 8) (tCons (tVar 3) (tNil))))) (tNil))))))))) (tRet (tVar 5)))
def t_law_wild (K : FK) : TS := tSeq (tAsg (tLst (tNil)) (gName 4)) (tSeq (tFor (iRng1 (tCons (tVar 2) (tNil))) (gName 5) (tSeq (tAsg (tOp rModI (tCall (sp_law_cell_at K) [] E0 (tCons (tVar 0) (tCons (tOp rAddI (tVar 1) (tOp rMulI (tC (.int 2)) (tVar 5))) (tNil)))) (tC (.int 12))) (gName 6)) (tSeq (tAsg (tCall (sp_law_cell_at K) [] E0 (tCons (tVar 0) (tCons (tOp rAddI (tOp rAddI (tVar 1) (tOp rMulI (tC (.int 2)) (tVar 5))) (tC (.int 1))) (tNil)))) (gName 7)) (tIfS (tTest (tOp rGtI (tVar 6) (tC (.int 9)))) (tDrop (tBM K "list" rAppend (tVar 4) (tCons (tTup (tCons (tC (.str "zero")) (tCons (tOp (rIxL K) (tVar 3) (tOp rModI (tVar 7) (tC (.int 5)))) (tCons (tOp rModI (tOp rDivI (tVar 7) (tC (.int 5))) (tVar 2)) (tNil))))) (tNil)))) (tIfS (tTest (tOp rEq (tVar 6) (tC (.int 9)))) (tDrop (tBM K "list" rAppend (tVar 4) (tCons (tOp (rIxL K) (tLst (tCons (tTup (tCons (tC (.str "jump")) (tCons (tOp rModI (tOp rDivI (tVar 7) (tC (.int 3))) (tVar 2)) (tNil)))) (tCons (tTup (tCons (tC (.str "stop")) (tNil))) (tCons (tTup (tCons (tC (.str "jump")) (tCons (tOp rDivI (tVar 5) (tC (.int 2))) (tNil)))) (tNil))))) (tOp rModI (tVar 7) (tC (.int 3)))) (tNil)))) (tDrop (tBM K "list" rAppend (tVar 4) (tCons (tCall (sp_law_straight K) [] E0 (tCons (tVar 6) (tCons (tVar 7) (tCons (tVar 3) (tNil))))) (tNil))))))))) (tRet (tVar 4)))
def t_law_turn (K : FK) : TS := tSeq (tIfS (tTest (tOp rNe (tOp rModI (tVar 0) (tC (.int 4))) (tC (.int 1)))) (tRet (tLst (tNil))) (tNext)) (tSeq (tAsg (tLst (tCons (tTup (tCons (tC (.str "put")) (tCons (tOp (rIxL K) (tVar 1) (tC (.int 3))) (tCons (tOp rAddI (tC (.int 2)) (tOp rModI (tOp rDivI (tVar 0) (tC (.int 4))) (tC (.int 8)))) (tNil))))) (tCons (tTup (tCons (tC (.str "less")) (tCons (tOp (rIxL K) (tVar 1) (tC (.int 2))) (tCons (tOp (rIxL K) (tVar 1) (tC (.int 0))) (tCons (tOp (rIxL K) (tVar 1) (tC (.int 3))) (tNil)))))) (tNil)))) (gName 2)) (tRet (tOp rCat (tVar 2) (tLst (tCons (tTup (tCons (tC (.str "zero")) (tCons (tOp (rIxL K) (tVar 1) (tC (.int 2))) (tCons (tC (.int 7)) (tNil))))) (tCons (tTup (tCons (tC (.str "add")) (tCons (tOp (rIxL K) (tVar 1) (tC (.int 4))) (tCons (tOp (rIxL K) (tVar 1) (tC (.int 4))) (tCons (tOp (rIxL K) (tVar 1) (tC (.int 1))) (tNil)))))) (tNil)))))))
def t_law_program (K : FK) : TS := tSeq (tAsg (tCall (sp_law_names K) [] E0 (tCons (tCall (sp_law_cell_at K) [] E0 (tCons (tVar 0) (tCons (tC (.int 2)) (tNil)))) (tNil))) (gName 1)) (tSeq (tAsg (tOp rModI (tCall (sp_law_cell_at K) [] E0 (tCons (tVar 0) (tCons (tC (.int 0)) (tNil)))) (tC (.int 10))) (gName 2)) (tSeq (tIfS (tTest (tOp rGtI (tCB (rLenS K) (tCons (tVar 0) (tNil))) (tC (.int 63)))) (tAsg (tOp rAddI (tVar 2) (tC (.int 20))) (gName 2)) (tNext)) (tSeq (tAsg (tCall (sp_law_cell_at K) [] E0 (tCons (tVar 0) (tCons (tC (.int 3)) (tNil)))) (gName 3)) (tSeq (tAsg (tOp rModI (tCall (sp_law_cell_at K) [] E0 (tCons (tVar 0) (tCons (tC (.int 4)) (tNil)))) (tC (.int 5))) (gName 4)) (tSeq (tIfS (tTest (tOp rEq (tVar 4) (tC (.int 4)))) (tRet (tCall (sp_law_wild K) [] E0 (tCons (tVar 0) (tCons (tC (.int 5)) (tCons (tVar 2) (tCons (tVar 1) (tNil))))))) (tNext)) (tSeq (tAsg (tCall (sp_law_turn K) [] E0 (tCons (tVar 3) (tCons (tVar 1) (tNil)))) (gName 5)) (tSeq (tAsg (tOp rCat (tVar 5) (tCall (sp_law_body K) [] E0 (tCons (tVar 0) (tCons (tC (.int 5)) (tCons (tVar 2) (tCons (tVar 1) (tCons (tOp rAddI (tC (.int 3)) (tCB (rLenS K) (tCons (tVar 5) (tNil)))) (tNil)))))))) (gName 6)) (tSeq (tIfS (tTest (tOp rEq (tOp rModI (tVar 3) (tC (.int 4))) (tC (.int 2)))) (tAsg (tLc (iRng1 (tCons (tOp (rIxL K) (tLst (tCons (tC (.int 57)) (tCons (tC (.int 58)) (tNil)))) (tOp rModI (tOp rDivI (tVar 3) (tC (.int 4))) (tC (.int 2)))) (tNil))) (gName 10) (tYes) (tTup (tCons (tC (.str "put")) (tCons (tOp (rIxL K) (tVar 1) (tC (.int 4))) (tCons (tVar 10) (tNil))))) [10]) (gName 6)) (tNext)) (tSeq (tAsg (tOp (rIxL K) (tLst (tCons (tOp rAddI (tC (.int 1)) (tOp rModI (tVar 3) (tC (.int 12)))) (tCons (tC (.int 12)) (tNil)))) (tCB rInt1 (tCons (tOp rGtI (tCB (rLenS K) (tCons (tVar 5) (tNil))) (tC (.int 0))) (tNil)))) (gName 7)) (tSeq (tAsg (tLst (tCons (tTup (tCons (tC (.str "put")) (tCons (tOp (rIxL K) (tVar 1) (tC (.int 5))) (tCons (tOp rAddI (tC (.int 1)) (tOp rModI (tOp rDivI (tVar 3) (tC (.int 12))) (tC (.int 5)))) (tNil))))) (tCons (tTup (tCons (tC (.str "put")) (tCons (tOp (rIxL K) (tVar 1) (tC (.int 1))) (tCons (tC (.int 1)) (tNil))))) (tCons (tTup (tCons (tC (.str "put")) (tCons (tOp (rIxL K) (tVar 1) (tC (.int 0))) (tCons (tVar 7) (tNil))))) (tNil))))) (gName 8)) (tSeq (tAsg (tOp rAddI (tC (.int 3)) (tCB (rLenS K) (tCons (tVar 6) (tNil)))) (gName 9)) (tSeq (tAsg (tOp rCat (tOp rCat (tVar 8) (tVar 6)) (tLst (tCons (tTup (tCons (tC (.str "minus")) (tCons (tOp (rIxL K) (tVar 1) (tC (.int 0))) (tCons (tOp (rIxL K) (tVar 1) (tC (.int 0))) (tCons (tOp (rIxL K) (tVar 1) (tC (.int 1))) (tNil)))))) (tCons (tTup (tCons (tC (.str "zero")) (tCons (tOp (rIxL K) (tVar 1) (tC (.int 0))) (tCons (tOp rAddI (tVar 9) (tC (.int 3))) (tNil))))) (tCons (tTup (tCons (tC (.str "jump")) (tCons (tC (.int 3)) (tNil)))) (tNil)))))) (gName 8)) (tSeq (tIfS (tTest (tOp rGtI (tVar 4) (tC (.int 0)))) (tAsg (tOp rCat (tVar 8) (tLst (tCons (tTup (tCons (tC (.str "minus")) (tCons (tOp (rIxL K) (tVar 1) (tC (.int 5))) (tCons (tOp (rIxL K) (tVar 1) (tC (.int 5))) (tCons (tOp (rIxL K) (tVar 1) (tC (.int 1))) (tNil)))))) (tCons (tTup (tCons (tC (.str "zero")) (tCons (tOp (rIxL K) (tVar 1) (tC (.int 5))) (tCons (tOp rAddI (tVar 9) (tC (.int 6))) (tNil))))) (tCons (tTup (tCons (tC (.str "jump")) (tCons (tC (.int 2)) (tNil)))) (tNil)))))) (gName 8)) (tNext)) (tRet (tOp rCat (tVar 8) (tSl (rSlL K) (tLst (tCons (tTup (tCons (tC (.str "tell")) (tCons (tOp (rIxL K) (tVar 1) (tC (.int 2))) (tNil)))) (tCons (tTup (tCons (tC (.str "tell")) (tCons (tOp (rIxL K) (tVar 1) (tC (.int 3))) (tNil)))) (tCons (tTup (tCons (tC (.str "stop")) (tNil))) (tNil))))) (tNoPart) (tPart (tOp rSubI (tC (.int 4)) (tVar 4)))))))))))))))))))
def t_law_value (K : FK) : TS := tSeq (tIfS (tB (tCB (rIsi K) (tCons (tVar 1) (tCons (tC (.ty "int")) (tNil))))) (tRet (tVar 1)) (tNext)) (tRet (tDGet (tVar 0) (tVar 1)))
def t_law_done (K : FK) : TS := tSeq (tAsg (tCB rDictD (tCons (tVar 1) (tNil))) (gName 2)) (tSeq (tIfS (tTest (tOp rEq (tOp (rIxT K) (tVar 0) (tC (.int 0))) (tC (.str "tell")))) (tRet (tVar 2)) (tNext)) (tSeq (tAsg (tCall (sp_law_value K) [] E0 (tCons (tVar 1) (tCons (tOp (rIxT K) (tVar 0) (tC (.int 2))) (tNil)))) (gName 3)) (tSeq (tIfS (tTest (tOp (rIn K false) (tOp (rIxT K) (tVar 0) (tC (.int 0))) (tLst (tCons (tC (.str "put")) (tCons (tC (.str "copy")) (tNil)))))) (tSeq (sDPut (tVar 2) (tOp (rIxT K) (tVar 0) (tC (.int 1))) (tVar 3)) (tRet (tVar 2))) (tNext)) (tSeq (tAsg (tCall (sp_law_value K) [] E0 (tCons (tVar 1) (tCons (tOp (rIxT K) (tVar 0) (tC (.int 3))) (tNil)))) (gName 4)) (tSeq (tIfS (tTest (tOp rEq (tOp (rIxT K) (tVar 0) (tC (.int 0))) (tC (.str "less")))) (sDPut (tVar 2) (tOp (rIxT K) (tVar 0) (tC (.int 1))) (tCB rInt1 (tCons (tOp rLtI (tVar 3) (tVar 4)) (tNil)))) (tSeq (tAsg (tDisp [(tC (.str "add"), tOp rAddI (tVar 3) (tVar 4)), (tC (.str "minus"), tOp rSubI (tVar 3) (tVar 4)), (tC (.str "times"), tOp rMulI (tVar 3) (tVar 4))]) (gName 5)) (sDPut (tVar 2) (tOp (rIxT K) (tVar 0) (tC (.int 1))) (tOp rModI (tDGet (tVar 5) (tOp (rIxT K) (tVar 0) (tC (.int 0)))) (tOp rPowI (tC (.int 10)) (tC (.int 6))))))) (tRet (tVar 2)))))))
def t_law_told (K : FK) : TS := tSeq (tIfS (tTest (tOp rEq (tOp (rIxT K) (tVar 0) (tC (.int 0))) (tC (.str "tell")))) (tRet (tLst (tCons (tCall (sp_law_value K) [] E0 (tCons (tVar 1) (tCons (tOp (rIxT K) (tVar 0) (tC (.int 1))) (tNil)))) (tNil)))) (tNext)) (tRet (tLst (tNil)))
def t_law_step (K : FK) : TS := tSeq (tAsg (tOp (rIxL K) (tVar 0) (tVar 1)) (gName 3)) (tSeq (tIfS (tTest (tOp rEq (tOp (rIxT K) (tVar 3) (tC (.int 0))) (tC (.str "jump")))) (tRet (tTup (tCons (tOp (rIxT K) (tVar 3) (tC (.int 1))) (tCons (tVar 2) (tCons (tLst (tNil)) (tNil)))))) (tNext)) (tSeq (tIfS (tTest (tOp rEq (tOp (rIxT K) (tVar 3) (tC (.int 0))) (tC (.str "zero")))) (tSeq (tIfS (tTest (tOp rEq (tDGet (tVar 2) (tOp (rIxT K) (tVar 3) (tC (.int 1)))) (tC (.int 0)))) (tRet (tTup (tCons (tOp (rIxT K) (tVar 3) (tC (.int 2))) (tCons (tVar 2) (tCons (tLst (tNil)) (tNil)))))) (tNext)) (tRet (tTup (tCons (tOp rAddI (tVar 1) (tC (.int 1))) (tCons (tVar 2) (tCons (tLst (tNil)) (tNil))))))) (tNext)) (tRet (tTup (tCons (tOp rAddI (tVar 1) (tC (.int 1))) (tCons (tCall (sp_law_done K) [] E0 (tCons (tVar 3) (tCons (tVar 2) (tNil)))) (tCons (tCall (sp_law_told K) [] E0 (tCons (tVar 3) (tCons (tVar 2) (tNil)))) (tNil))))))))
def t_law_all (K : FK) : TS := tSeq (tAsg (tDNewK) (gName 1)) (tSeq (tFor (iList K (tVar 0)) (gName 2) (tFor (iTup K (tSl (rSlA K) (tVar 2) (tPart (tC (.int 1))) (tNoPart))) (gName 3) (tIfS (tB (tCB (rIsi K) (tCons (tVar 3) (tCons (tC (.ty "str")) (tNil))))) (sDPut (tVar 1) (tVar 3) (tC (.int 0))) (tNext)))) (tRet (tVar 1)))
def t_law_numbers (K : FK) : TS := tSeq (tIfS (tOr (tNot (tB (tCB (rIsi K) (tCons (tVar 0) (tCons (tC (.ty "dict")) (tNil)))))) (tTest (tOp rNe (tCB rLenD (tCons (tVar 0) (tNil))) (tCB rLenD (tCons (tVar 1) (tNil)))))) (tRet (tC (.bl false))) (tNext)) (tRet (tAndV (tOp rEqDA (tVar 0) (tVar 1)) (tCB (rAll K) (tCons (tLockE (tLc (iKeys (tVar 1)) (gName 2) (tYes) (tCall (sp_law_whole K) [] E0 (tCons (tDGet (tVar 0) (tVar 2)) (tNil))) [2])) (tNil)))))
def t_law_list (K : FK) : TS := tRet (tAndV (tCB (rIsi K) (tCons (tVar 0) (tCons (tC (.ty "list")) (tNil)))) (tAndV (tOp (rEqD K) (tVar 0) (tVar 1)) (tCB (rAll K) (tCons (tLc (iList K (tVar 0)) (gName 2) (tYes) (tCall (sp_law_whole K) [] E0 (tCons (tVar 2) (tNil))) [2]) (tNil)))))
def t_law_alike (K : FK) : TS := tRet (tAndV (tCB (rIsi K) (tCons (tVar 0) (tCons (tC (.ty "list")) (tNil)))) (tAndV (tOp rEq (tCB (rLenS K) (tCons (tVar 0) (tNil))) (tCB (rLenS K) (tCons (tVar 1) (tNil)))) (tOp (rEqD K) (tVar 0) (tVar 1))))
def t_law_stepped (K : FK) : TS := tSeq (tIfS (tOr (tNot (tB (tCB (rIsi K) (tCons (tVar 0) (tCons (tC (.ty "tuple")) (tNil)))))) (tOr (tTest (tOp rNe (tCB (rLenS K) (tCons (tVar 0) (tNil))) (tC (.int 3)))) (tOr (tNot (tB (tCall (sp_law_whole K) [] E0 (tCons (tOp (rIxT K) (tVar 0) (tC (.int 0))) (tNil))))) (tTest (tOp rNe (tOp (rIxT K) (tVar 0) (tC (.int 0))) (tOp (rIxT K) (tVar 1) (tC (.int 0)))))))) (tRet (tC (.bl false))) (tNext)) (tRet (tAndV (tCall (sp_law_numbers K) [] E0 (tCons (tOp (rIxT K) (tVar 0) (tC (.int 1))) (tCons (tOp (rIxT K) (tVar 1) (tC (.int 1))) (tNil)))) (tCall (sp_law_list K) [] E0 (tCons (tOp (rIxT K) (tVar 0) (tC (.int 2))) (tCons (tOp (rIxT K) (tVar 1) (tC (.int 2))) (tNil))))))
local macro_rules | `(tactic| walk_at "ev") => `(tactic| first
  | exact ev_var rfl
  | exact ev_int _
  | exact ev_str _
  | exact ev_bl _
  | exact ev_non
  | ((with_reducible refine' e_add ?k1 ?k2); (case k1 => walk_at "ev"); (case k2 => walk_at "ev"))
  | ((with_reducible refine' e_sub ?k1 ?k2); (case k1 => walk_at "ev"); (case k2 => walk_at "ev"))
  | ((with_reducible refine' e_mul ?k1 ?k2 ?k3); (case k1 => walk_at "ev"); (case k2 => walk_at "ev"); (case k3 => first | exact mul_l (by omega) | exact mul_r (by omega)))
  | ((with_reducible refine' e_mod ?k1 ?k2 ?k3); (case k1 => walk_at "ev"); (case k2 => walk_at "ev"); (case k3 => first | omega | decide | decide +kernel))
  | ((with_reducible refine' e_div ?k1 ?k2 ?k3); (case k1 => walk_at "ev"); (case k2 => walk_at "ev"); (case k3 => exact And.intro (by decide) (by decide)))
  | ((with_reducible refine' e_pow ?k1 ?k2 ?k3); (case k1 => walk_at "ev"); (case k2 => walk_at "ev"); (case k3 => exact And.intro (by decide) (And.intro (by decide) (by decide))))
  | ((with_reducible refine' e_lt ?k1 ?k2); (case k1 => walk_at "ev"); (case k2 => walk_at "ev"))
  | ((with_reducible refine' e_le ?k1 ?k2); (case k1 => walk_at "ev"); (case k2 => walk_at "ev"))
  | ((with_reducible refine' e_gt ?k1 ?k2); (case k1 => walk_at "ev"); (case k2 => walk_at "ev"))
  | ((with_reducible refine' e_ge ?k1 ?k2); (case k1 => walk_at "ev"); (case k2 => walk_at "ev"))
  | ((with_reducible refine' ev_eqI ?k1 ?k2); (case k1 => walk_at "ev"); (case k2 => walk_at "ev"))
  | ((with_reducible refine' ev_neI ?k1 ?k2); (case k1 => walk_at "ev"); (case k2 => walk_at "ev"))
  | ((with_reducible refine' ev_eqS ?k1 ?k2); (case k1 => walk_at "ev"); (case k2 => walk_at "ev"))
  | ((with_reducible refine' ev_neS ?k1 ?k2); (case k1 => walk_at "ev"); (case k2 => walk_at "ev"))
  | ((with_reducible refine' ev_notV ?k1); (case k1 => walk_at "ev"))
  | ((with_reducible refine' ev_lenN ?k1); (case k1 => walk_at "ev"))
  | ((with_reducible refine' ev_lenL ?k1); (case k1 => walk_at "rd"))
  | ((with_reducible refine' ev_lenT ?k1); (case k1 => walk_at "ev"))
  | ((with_reducible refine' ev_lenD ?k1); (case k1 => walk_at "rd"))
  | ((with_reducible refine' ev_intB ?k1); (case k1 => walk_at "ev"))
  | ((with_reducible refine' ev_min2 ?k1 ?k2); (case k1 => walk_at "ev"); (case k2 => walk_at "ev"))
  | ((with_reducible refine' ev_ixN ?k1 ?k2 ?k3); (case k1 => walk_at "ev"); (case k2 => walk_at "ev"); (case k3 => first | assumption | rfl))
  | ((with_reducible refine' ev_ixT ?k1 ?k2 ?k3); (case k1 => walk_at "ev"); (case k2 => walk_at "ev"); (case k3 => first | rfl | assumption))
  | ((with_reducible refine' ev_ixL ?k1 ?k2 ?k3); (case k1 => walk_at "rd"); (case k2 => walk_at "ev"); (case k3 => first | assumption | rfl))
  | ((with_reducible refine' ev_tup ?k1 ?k2); (case k1 => walk_at "es"); (case k2 => exact Nat.le_of_ble_eq_true rfl))
  | (refine' evd_of_evo (o := OD.lst _) ?k1; (case k1 => walk_at "eo"))
  | (refine' evd_of_evo (o := OD.dic _) ?k1; (case k1 => walk_at "eo")))
local macro_rules | `(tactic| walk_at "rd") => `(tactic| first
  | exact rd_ow rfl
  | exact rd_pn rfl
  | exact rd_lst (ev_var rfl)
  | exact rd_dic (ev_var rfl)
  | (refine' rd_of_evo ?k1; (case k1 => walk_at "eo"))
  | (refine' rd_lst ?k1; (case k1 => walk_at "ev"))
  | (refine' rd_dic ?k1; (case k1 => walk_at "ev")))
local macro_rules | `(tactic| walk_at "es") => `(tactic| first
  | exact es_nil
  | ((with_reducible refine' es_cons ?k1 ?k2); (case k1 => walk_at "ev"); (case k2 => walk_at "es")))
local macro_rules | `(tactic| walk_at "eo") => `(tactic| first
  | exact eo_newD
  | ((with_reducible refine' eo_lst ?k1 ?k2); (case k1 => walk_at "es"); (case k2 => exact Nat.le_of_ble_eq_true rfl))
  | ((with_reducible refine' eo_slL ?k1 ?k2 ?k3); (case k1 => walk_at "rd"); (case k2 => walk_at "ep"); (case k3 => walk_at "ep"))
  | ((with_reducible refine' eo_listL ?k1); (case k1 => walk_at "rd"))
  | ((with_reducible refine' eo_listT ?k1); (case k1 => walk_at "ev"))
  | ((with_reducible refine' eo_listD ?k1); (case k1 => walk_at "rd"))
  | ((with_reducible refine' eo_dictD ?k1); (case k1 => walk_at "rd")))
local macro_rules | `(tactic| walk_at "ep") => `(tactic| first
  | exact ep_none
  | ((with_reducible refine' ep_some ?k1); (case k1 => walk_at "ev")))
local macro_rules | `(tactic| walk_at "et") => `(tactic| first
  | ((with_reducible refine' et_test ?k1); (case k1 => walk_at "ev"))
  | ((with_reducible refine' et_B ?k1); (case k1 => walk_at "ev"))
  | ((with_reducible refine' et_not ?k1); (case k1 => walk_at "et")))
local macro_rules | `(tactic| walk_at "if") => `(tactic| (refine' q_if ?k1 ?_ ?_; (case k1 => walk_at "et")))
local macro_rules | `(tactic| walk_at "sif") => `(tactic| (refine' s_if ?k1 ?_ ?_; (case k1 => walk_at "et")))
local macro_rules | `(tactic| walk_at "asg") => `(tactic| (refine' q_asg ?k1 rfl ?_; (case k1 => walk_at "ev")))
local macro_rules | `(tactic| walk_at "asgo") => `(tactic| (refine' q_asgO ?k1 ?_; (case k1 => walk_at "eo")))
local macro_rules | `(tactic| walk_at "ret") => `(tactic| first | (refine' q_ret ?_; refine' s_ret ?k1 ?_; (case k1 => walk_at "ev")) | (refine' s_ret ?k1 ?_; (case k1 => walk_at "ev")))
local macro_rules | `(tactic| walk_at "reto") => `(tactic| first | (refine' q_ret ?_; refine' s_retO ?k1 ?_; (case k1 => walk_at "eo")) | (refine' s_retO ?k1 ?_; (case k1 => walk_at "eo")))
section
variable {K : FK}
theorem getD_of {ns : List Int} {k : Int} (h0 : 0 ≤ k) (h : k < ns.length) : atI ns k = some (ns.getD k.toNat 0) := by
  have e : ns[k.toNat]? = some (ns.getD k.toNat 0) := by
    rw [List.getD_eq_getElem?_getD, List.getElem?_eq_getElem (by omega)]; rfl
  have e2 := atI_nat e
  have e3 : ((k.toNat : Nat) : Int) = k := by omega
  rw [e3] at e2
  exact e2
theorem sx_law_cell_at (ds : List PD) (r : Rt) (h : P_law_cell_at ds r) : Sx K (t_law_cell_at K) (ae 2 ds) (Gives r) := by
  obtain ⟨ns, k, h0, rfl, rfl⟩ := h
  unfold t_law_cell_at
  walk_at "if"
  · intro hx
    have hk : k < ns.length := of_decide_eq_true hx
    have e := getD_of h0 hk
    have e2 : cell ns k = ns.getD k.toNat 0 := by unfold cell; rw [if_pos hk]
    rw [e2]
    walk_at "ret"
    rfl
  · intro hx
    have hk : ¬ k < ns.length := of_decide_eq_false hx
    have e2 : cell ns k = 0 := by unfold cell; rw [if_neg hk]
    rw [e2]
    refine q_next ?_
    walk_at "ret"
    rfl
theorem fo_nc {δ : AE} {i : Nat} {s : Sl} (h : δ[i]? = some s) (n : nC s = true) : fo δ i = δ.set i .no := fo_set fun p w c z => by
  rw [h] at z
  cases z
  cases n
theorem sx_law_whole (ds : List PD) (r : Rt) (h : P_law_whole ds r) : Sx K (t_law_whole K) (ae 1 ds) (Gives r) := by
  obtain ⟨d, f, rfl, rfl⟩ := h
  refine s_ret (d := .bl (isWhole d)) ?_ rfl
  cases d with
  | adr p => cases f
  | non => exact ev_andV (x := false) (y := true) (ev_isi (ev_var rfl) (show kitB "NoneType" "int" = some false by decide +kernel)) (fun z => nomatch z)
  | bl b => exact ev_andV (x := true) (y := false) (ev_isi (ev_var rfl) (show kitB "bool" "int" = some true by decide +kernel)) (fun _ => ev_notV (x := true) (ev_isi (ev_var rfl) (show kitB "bool" "bool" = some true by decide +kernel)))
  | int i => exact ev_andV (x := true) (y := true) (ev_isi (ev_var rfl) (show kitB "int" "int" = some true by decide +kernel)) (fun _ => ev_notV (x := false) (ev_isi (ev_var rfl) (show kitB "int" "bool" = some false by decide +kernel)))
  | str b => exact ev_andV (x := false) (y := true) (ev_isi (ev_var rfl) (show kitB "str" "int" = some false by decide +kernel)) (fun z => nomatch z)
  | tup b => exact ev_andV (x := false) (y := true) (ev_isi (ev_var rfl) (show kitB "tuple" "int" = some false by decide +kernel)) (fun z => nomatch z)
  | btup b => exact ev_andV (x := false) (y := true) (ev_isi (ev_var rfl) (show kitB "tuple" "int" = some false by decide +kernel)) (fun z => nomatch z)
  | lst b => exact ev_andV (x := false) (y := true) (ev_isi (ev_var rfl) (show kitB "list" "int" = some false by decide +kernel)) (fun z => nomatch z)
  | dic b => exact ev_andV (x := false) (y := true) (ev_isi (ev_var rfl) (show kitB "dict" "int" = some false by decide +kernel)) (fun z => nomatch z)
  | scr b => exact ev_andV (x := false) (y := true) (ev_isi (ev_var rfl) (show kitB "list" "int" = some false by decide +kernel)) (fun z => nomatch z)
theorem pow6 : (10 : Int) ^ (6 : Int).toNat = 1000000 := by decide
theorem sx_law_number (ds : List PD) (r : Rt) (h : P_law_number ds r) : Sx K (t_law_number K) (ae 1 ds) (Gives r) := by
  obtain ⟨c, rfl, rfl⟩ := h
  unfold t_law_number
  walk_at "if"
  · intro hx
    have hc : c % 4 = 3 := of_decide_eq_true hx
    have e : number c = c / 4 % 10 ^ (6 : Int).toNat := by unfold number; rw [if_pos hc, pow6]
    rw [e]
    walk_at "ret"
    rfl
  · intro hx
    have hc : ¬ c % 4 = 3 := of_decide_eq_false hx
    refine q_next ?_
    walk_at "if"
    · intro hx2
      have hc2 : c % 4 = 2 := of_decide_eq_true hx2
      have e : number c = 10 ^ (6 : Int).toNat - 1 - c / 4 % 3 := by unfold number; rw [if_neg hc, if_pos hc2, pow6]
      rw [e]
      walk_at "ret"
      rfl
    · intro hx2
      have hc2 : ¬ c % 4 = 2 := of_decide_eq_false hx2
      have e : number c = c / 4 % 3 := by unfold number; rw [if_neg hc, if_neg hc2]
      rw [e]
      refine q_next ?_
      walk_at "ret"
      rfl
end
section
variable {K : FK} {δ : AE} {ta tb : TE} {P : Post}
theorem ev_letter {i : Int} (ha : Evd K ta δ (.str letters)) (hb : Evd K tb δ (.int i)) (h : 0 ≤ i ∧ i < 26) : Evd K (tOp rIxS ta tb) δ (.str (letter i)) := ev_ixS ha hb letters_len (letters_atI h)
theorem letter_len (i : Int) : (letter i).length = 1 := rfl
theorem rep1 (i k : Int) (h : k ≤ 1000) : (strRep (letter i) k).length ≤ 1000 := by
  rw [strRep_len, letter_len]; omega
theorem app_len (x y : Str) : (x ++ y).length = x.length + y.length := by
  show (x.cps ++ y.cps).size = _
  rw [Array.size_append]; rfl
theorem range_snoc {α : Type} (f : Nat → α) (i : Nat) : (List.range (i + 1)).map f = (List.range i).map f ++ [f i] := by
  rw [List.range_succ, List.map_append]; rfl
theorem sx_law_names (ds : List PD) (r : Rt) (h : P_law_names ds r) : Sx K (t_law_names K) (ae 9 ds) (Gives r) := by
  obtain ⟨c, rfl, rfl⟩ := h
  unfold t_law_names
  refine q_asg (d := .str letters) (ev_str _) rfl ?_
  walk_at "asg"
  walk_at "asgo"
  refine q_forD (n := 6) (f := fun i => .int (i : Nat)) [4, 5, 6, 7, 8] (fun i => [.sh (.int c), .sh (.str letters), .sh (.int (1 + c / 3 % 8)), .ow (.lst (((List.range i).map (nameAt c)).map PD.str)), .no, .no, .no, .no, .no]) (ei_rngN (by walk_at "es") (by decide)) rfl (fun i hi => ⟨_, _, eg_name rfl, ?_⟩) ?_
  · have hl : (((List.range i).map (nameAt c)).map PD.str).length < 100000 := by simp; omega
    have hfin : ∀ s5 s6 s7 s8 : Sl, nC s5 = true → nC s6 = true → nC s7 = true → nC s8 = true → ∀ x, x = nameAt c i → fgt [.sh (.int c), .sh (.str letters), .sh (.int (1 + c / 3 % 8)), .ow (.lst (((List.range i).map (nameAt c)).map PD.str ++ [.str x])), .sh (.int (i : Nat)), s5, s6, s7, s8] [4, 5, 6, 7, 8]
        = [.sh (.int c), .sh (.str letters), .sh (.int (1 + c / 3 % 8)), .ow (.lst (((List.range (i + 1)).map (nameAt c)).map PD.str)), .no, .no, .no, .no, .no] := fun s5 s6 s7 s8 h5 h6 h7 h8 x hx => by
      rw [range_snoc, List.map_append, hx]
      refine (congrArg (fun d => fo (fo (fo (fo d 5) 6) 7) 8) (fo_nc (i := 4) (s := .sh (.int (i : Nat))) rfl rfl)).trans ?_
      refine (congrArg (fun d => fo (fo (fo d 6) 7) 8) (fo_nc (i := 5) (s := s5) rfl h5)).trans ?_
      refine (congrArg (fun d => fo (fo d 7) 8) (fo_nc (i := 6) (s := s6) rfl h6)).trans ?_
      refine (congrArg (fun d => fo d 8) (fo_nc (i := 7) (s := s7) rfl h7)).trans ?_
      exact fo_nc (i := 8) (s := s8) rfl h8
    refine q_asg (ev_letter (i := (c / 24 + 5 * (i : Int)) % 26) (ev_var rfl) (by walk_at "ev") (by omega)) rfl ?_
    refine s_if (x := decide (c % 3 = 0)) (by walk_at "et") (fun hx => ?_) (fun hx => ?_)
    · have hc : c % 3 = 0 := of_decide_eq_true hx
      refine s_app (Or.inl rfl) (ev_mulStr (z := letter (c / 24 % 26)) (k := (i : Int) + 1) (ev_letter (ev_var rfl) (by walk_at "ev") (by omega)) (by walk_at "ev") (by rw [letter_len]; omega) (by omega) (by omega)) hl ?_
      refine hfin _ _ _ _ rfl rfl rfl rfl _ ?_
      unfold nameAt
      rw [if_pos hc]
    · have hc : ¬ c % 3 = 0 := of_decide_eq_false hx
      walk_at "asg"
      have b1 : 0 ≤ c / 5 % (1 + c / 3 % 8) := Int.emod_nonneg _ (by omega)
      have b2 : c / 5 % (1 + c / 3 % 8) < 1 + c / 3 % 8 := Int.emod_lt_of_pos _ (by omega)
      refine q_asg (d := .str (strRep (letter (1 + c / 3 % 8)) (c / 5 % (1 + c / 3 % 8)))) (ev_mulStr (ev_letter (ev_var rfl) (ev_var rfl) (by omega)) (ev_var rfl) (by rw [letter_len]; omega) (by omega) (by omega)) rfl ?_
      refine q_asg (d := .str (strRep (letter (1 + c / 3 % 8 + c % 3)) (1 + c / 3 % 8 - 1 - c / 5 % (1 + c / 3 % 8)))) (ev_mulStr (ev_letter (ev_var rfl) (by walk_at "ev") (by omega)) (by walk_at "ev") (by rw [letter_len]; omega) (by omega) (by omega)) rfl ?_
      have l1 := rep1 (1 + c / 3 % 8) (c / 5 % (1 + c / 3 % 8)) (by omega)
      have l2 := rep1 (1 + c / 3 % 8 + c % 3) (1 + c / 3 % 8 - 1 - c / 5 % (1 + c / 3 % 8)) (by omega)
      have hs : sizeLine = 16777216 := sizeLine_eq
      refine s_app (Or.inl rfl) (ev_addS (ev_addS (ev_var rfl) (ev_var rfl) (by rw [letter_len]; omega)) (ev_var rfl) (by rw [app_len, letter_len]; omega)) hl ?_
      refine hfin _ _ _ _ rfl rfl rfl rfl _ ?_
      unfold nameAt
      rw [if_neg hc]
  · exact s_retV rfl rfl
end
section
variable {K : FK} {δ : AE} {ta tb : TE} {P : Post}
theorem nm_at {nms : List Str} {i : Int} (hl : nms.length = 6) (h : 0 ≤ i ∧ i < 6) : atI (nms.map PD.str) i = some (.str (nm nms i)) := by
  have e : (nms.map PD.str)[i.toNat]? = some (.str (nm nms i)) := by
    unfold nm
    rw [List.getElem?_map, List.getD_eq_getElem?_getD, List.getElem?_eq_getElem (by omega)]
    rfl
  have e2 := atI_nat e
  have e3 : ((i.toNat : Nat) : Int) = i := by omega
  rw [e3] at e2
  exact e2
theorem ev_nm {nms : List Str} {i : Int} (hl : nms.length = 6) (ha : Evd K ta δ (.lst (nms.map PD.str))) (hb : Evd K tb δ (.int i)) (h : 0 ≤ i ∧ i < 6) : Evd K (tOp (rIxL K) ta tb) δ (.str (nm nms i)) := ev_ixL (rd_lst ha) hb (nm_at hl h)
theorem ev_number {c : Int} (ha : Evd K ta δ (.int c)) : Evd K (tCall (sp_law_number K) [] E0 (tCons ta tNil)) δ (.int (number c)) := ev_call (es_cons ha es_nil) ⟨c, rfl, rfl⟩
theorem ev_cell {ns : List Int} {k : Int} (ha : Evd K ta δ (.scr ns)) (hb : Evd K tb δ (.int k)) (h : 0 ≤ k) : Evd K (tCall (sp_law_cell_at K) [] E0 (tCons ta (tCons tb tNil))) δ (.int (cell ns k)) := ev_call (es_cons ha (es_cons hb es_nil)) ⟨ns, k, h, rfl, rfl⟩
theorem sx_law_straight (ds : List PD) (r : Rt) (h : P_law_straight ds r) : Sx K (t_law_straight K) (ae 7 ds) (Gives r) := by
  obtain ⟨way, c, nms, hl, rfl, rfl⟩ := h
  unfold t_law_straight
  refine q_asg (ev_nm (i := 2 + c % 3) hl (ev_var rfl) (by walk_at "ev") (by omega)) rfl ?_
  refine q_asg (ev_nm (i := c / 3 % 5) hl (ev_var rfl) (by walk_at "ev") (by omega)) rfl ?_
  refine q_asg (ev_nm (i := c / 15 % 5) hl (ev_var rfl) (by walk_at "ev") (by omega)) rfl ?_
  have hm : way % 7 = 0 ∨ way % 7 = 1 ∨ way % 7 = 2 ∨ way % 7 = 3 ∨ way % 7 = 4 ∨ way % 7 = 5 ∨ way % 7 = 6 := by omega
  rcases hm with e | e | e | e | e | e | e
  · have es : straight way c nms = .put (nm nms (2 + c % 3)) (number (c / 3)) := by unfold straight; rw [if_pos e]
    rw [es]
    refine q_asg (d := .str "put") (ev_ixL (i := 0) (rd_of_evo (eo_lst (by walk_at "es") (by decide))) (ev_is (by walk_at "ev") (by rw [e])) rfl) rfl ?_
    refine q_if (x := true) (et_is (by walk_at "et") (by decide)) (fun _ => ?_) (fun z => nomatch z)
    exact q_ret (s_ret (ev_tup (es_cons (ev_var rfl) (es_cons (ev_var rfl) (es_cons (ev_number (by walk_at "ev")) es_nil))) (Nat.le_of_ble_eq_true rfl)) rfl)
  · have es : straight way c nms = .copy (nm nms (2 + c % 3)) (.n (nm nms (c / 3 % 5))) := by unfold straight; rw [if_neg (by omega), if_pos e]
    rw [es]
    refine q_asg (d := .str "copy") (ev_ixL (i := 1) (rd_of_evo (eo_lst (by walk_at "es") (by decide))) (ev_is (by walk_at "ev") (by rw [e])) rfl) rfl ?_
    refine q_if (x := false) (et_is (by walk_at "et") (by decide)) (fun z => nomatch z) (fun _ => q_next ?_)
    refine q_if (x := true) (et_is (by walk_at "et") (by decide)) (fun _ => ?_) (fun z => nomatch z)
    exact q_ret (s_ret (ev_tup (es_cons (ev_var rfl) (es_cons (ev_var rfl) (es_cons (ev_var rfl) es_nil))) (Nat.le_of_ble_eq_true rfl)) rfl)
  · have es : straight way c nms = .op .add (nm nms (2 + c % 3)) (.n (nm nms (c / 3 % 5))) (.n (nm nms (c / 15 % 5))) := by unfold straight; rw [if_neg (by omega), if_neg (by omega), if_pos e]
    rw [es]
    refine q_asg (d := .str "add") (ev_ixL (i := 2) (rd_of_evo (eo_lst (by walk_at "es") (by decide))) (ev_is (by walk_at "ev") (by rw [e])) rfl) rfl ?_
    refine q_if (x := false) (et_is (by walk_at "et") (by decide)) (fun z => nomatch z) (fun _ => q_next ?_)
    refine q_if (x := false) (et_is (by walk_at "et") (by decide)) (fun z => nomatch z) (fun _ => q_next ?_)
    refine q_if (x := false) (et_is (by walk_at "et") (by decide)) (fun z => nomatch z) (fun _ => q_next ?_)
    exact s_ret (ev_tup (es_cons (ev_var rfl) (es_cons (ev_var rfl) (es_cons (ev_var rfl) (es_cons (ev_var rfl) es_nil)))) (Nat.le_of_ble_eq_true rfl)) rfl
  · have es : straight way c nms = .op .minus (nm nms (2 + c % 3)) (.n (nm nms (c / 3 % 5))) (.n (nm nms (c / 15 % 5))) := by unfold straight; rw [if_neg (by omega), if_neg (by omega), if_neg (by omega), if_pos e]
    rw [es]
    refine q_asg (d := .str "minus") (ev_ixL (i := 3) (rd_of_evo (eo_lst (by walk_at "es") (by decide))) (ev_is (by walk_at "ev") (by rw [e])) rfl) rfl ?_
    refine q_if (x := false) (et_is (by walk_at "et") (by decide)) (fun z => nomatch z) (fun _ => q_next ?_)
    refine q_if (x := false) (et_is (by walk_at "et") (by decide)) (fun z => nomatch z) (fun _ => q_next ?_)
    refine q_if (x := false) (et_is (by walk_at "et") (by decide)) (fun z => nomatch z) (fun _ => q_next ?_)
    exact s_ret (ev_tup (es_cons (ev_var rfl) (es_cons (ev_var rfl) (es_cons (ev_var rfl) (es_cons (ev_var rfl) es_nil)))) (Nat.le_of_ble_eq_true rfl)) rfl
  · have es : straight way c nms = .op .times (nm nms (2 + c % 3)) (.n (nm nms (c / 3 % 5))) (.n (nm nms (c / 15 % 5))) := by unfold straight; rw [if_neg (by omega), if_neg (by omega), if_neg (by omega), if_neg (by omega), if_pos e]
    rw [es]
    refine q_asg (d := .str "times") (ev_ixL (i := 4) (rd_of_evo (eo_lst (by walk_at "es") (by decide))) (ev_is (by walk_at "ev") (by rw [e])) rfl) rfl ?_
    refine q_if (x := false) (et_is (by walk_at "et") (by decide)) (fun z => nomatch z) (fun _ => q_next ?_)
    refine q_if (x := false) (et_is (by walk_at "et") (by decide)) (fun z => nomatch z) (fun _ => q_next ?_)
    refine q_if (x := false) (et_is (by walk_at "et") (by decide)) (fun z => nomatch z) (fun _ => q_next ?_)
    exact s_ret (ev_tup (es_cons (ev_var rfl) (es_cons (ev_var rfl) (es_cons (ev_var rfl) (es_cons (ev_var rfl) es_nil)))) (Nat.le_of_ble_eq_true rfl)) rfl
  · have es : straight way c nms = .op .less (nm nms (2 + c % 3)) (.n (nm nms (c / 3 % 5))) (.n (nm nms (c / 15 % 5))) := by unfold straight; rw [if_neg (by omega), if_neg (by omega), if_neg (by omega), if_neg (by omega), if_neg (by omega), if_pos e]
    rw [es]
    refine q_asg (d := .str "less") (ev_ixL (i := 5) (rd_of_evo (eo_lst (by walk_at "es") (by decide))) (ev_is (by walk_at "ev") (by rw [e])) rfl) rfl ?_
    refine q_if (x := false) (et_is (by walk_at "et") (by decide)) (fun z => nomatch z) (fun _ => q_next ?_)
    refine q_if (x := false) (et_is (by walk_at "et") (by decide)) (fun z => nomatch z) (fun _ => q_next ?_)
    refine q_if (x := false) (et_is (by walk_at "et") (by decide)) (fun z => nomatch z) (fun _ => q_next ?_)
    exact s_ret (ev_tup (es_cons (ev_var rfl) (es_cons (ev_var rfl) (es_cons (ev_var rfl) (es_cons (ev_var rfl) es_nil)))) (Nat.le_of_ble_eq_true rfl)) rfl
  · have es : straight way c nms = .tell (.n (nm nms (c / 3 % 5))) := by unfold straight; rw [if_neg (by omega), if_neg (by omega), if_neg (by omega), if_neg (by omega), if_neg (by omega), if_neg (by omega)]
    rw [es]
    refine q_asg (d := .str "tell") (ev_ixL (i := 6) (rd_of_evo (eo_lst (by walk_at "es") (by decide))) (ev_is (by walk_at "ev") (by rw [e])) rfl) rfl ?_
    refine q_if (x := false) (et_is (by walk_at "et") (by decide)) (fun z => nomatch z) (fun _ => q_next ?_)
    refine q_if (x := false) (et_is (by walk_at "et") (by decide)) (fun z => nomatch z) (fun _ => q_next ?_)
    refine q_if (x := true) (et_is (by walk_at "et") (by decide)) (fun _ => ?_) (fun z => nomatch z)
    exact q_ret (s_ret (ev_tup (es_cons (ev_var rfl) (es_cons (ev_var rfl) es_nil)) (Nat.le_of_ble_eq_true rfl)) rfl)
/-! rows of a loop -/
theorem ev_straight {way c : Int} {nms : List Str} (hl : nms.length = 6) {tc : TE} (ha : Evd K ta δ (.int way)) (hb : Evd K tb δ (.int c)) (hc : Evd K tc δ (.lst (nms.map PD.str))) : Evd K (tCall (sp_law_straight K) [] E0 (tCons ta (tCons tb (tCons tc tNil)))) δ (straight way c nms).pd :=
  ev_call (es_cons ha (es_cons hb (es_cons hc es_nil))) ⟨way, c, nms, hl, rfl, rfl⟩
end
local macro_rules | `(tactic| walk_at "ev") => `(tactic| first
  | ((with_reducible refine' ev_nm ?k0 ?k1 ?k2 ?k3); (case k0 => assumption); (case k1 => exact ev_var rfl); (case k2 => walk_at "ev"); (case k3 => omega))
  | ((with_reducible refine' ev_cell ?k1 ?k2 ?k3); (case k1 => exact ev_var rfl); (case k2 => walk_at "ev"); (case k3 => omega))
  | ((with_reducible refine' ev_number ?k1); (case k1 => walk_at "ev")))
section
variable {K : FK} {δ : AE} {ta tb : TE} {P : Post}
theorem map_snoc {α : Type} (f : Nat → Row) (i : Nat) : ((List.range (i + 1)).map f).map Row.pd = ((List.range i).map f).map Row.pd ++ [(f i).pd] := by
  rw [range_snoc, List.map_append]; rfl
theorem rl {f : Nat → Row} {i : Nat} (h : i ≤ 100) : (((List.range i).map f).map Row.pd).length < 100000 := by
  rw [List.length_map, List.length_map, List.length_range]; omega
theorem sx_law_body (ds : List PD) (r : Rt) (h : P_law_body ds r) : Sx K (t_law_body K) (ae 9 ds) (Gives r) := by
  obtain ⟨ns, first, size, nms, st, hl, hf, hz, rfl, rfl⟩ := h
  unfold t_law_body
  walk_at "asgo"
  refine q_forD (n := size.toNat) (f := fun i => .int (i : Nat)) [6, 7, 8] (fun i => [.sh (.scr ns), .sh (.int first), .sh (.int size), .sh (.lst (nms.map PD.str)), .sh (.int st), .ow (.lst (((List.range i).map (bodyRow ns first size nms st)).map Row.pd)), .no, .no, .no]) (ei_rng1 (by walk_at "es") (by omega) (by omega)) rfl (fun i hi => ⟨_, _, eg_name rfl, ?_⟩) ?_
  · have hl2 := rl (f := bodyRow ns first size nms st) (i := i) (by omega)
    have hfin : ∀ s7 s8 : Sl, nC s7 = true → nC s8 = true → ∀ x, x = (bodyRow ns first size nms st i).pd → fgt [.sh (.scr ns), .sh (.int first), .sh (.int size), .sh (.lst (nms.map PD.str)), .sh (.int st), .ow (.lst (((List.range i).map (bodyRow ns first size nms st)).map Row.pd ++ [x])), .sh (.int (i : Nat)), s7, s8] [6, 7, 8]
        = [.sh (.scr ns), .sh (.int first), .sh (.int size), .sh (.lst (nms.map PD.str)), .sh (.int st), .ow (.lst (((List.range (i + 1)).map (bodyRow ns first size nms st)).map Row.pd)), .no, .no, .no] := fun s7 s8 h7 h8 x hx => by
      rw [map_snoc (α := Nat), hx]
      cases s7 <;> first | (cases h7; done) | skip
      all_goals (cases s8 <;> first | (cases h8; done) | rfl)
    refine q_asg (d := .int (cell ns (first + 2 * i) % 11)) (by walk_at "ev") rfl ?_
    refine q_asg (d := .int (cell ns (first + 2 * i + 1))) (by walk_at "ev") rfl ?_
    refine s_if (x := decide (8 < cell ns (first + 2 * i) % 11)) (by walk_at "et") (fun hx => ?_) (fun hx => ?_)
    · have hc : 8 < cell ns (first + 2 * i) % 11 := of_decide_eq_true hx
      refine s_app (d := .tup [.str "zero", .str (nm nms (1 + cell ns (first + 2 * i + 1) % 4)), .int (st + min size (i + 1 + cell ns (first + 2 * i + 1) / 4 % 4))]) (Or.inl rfl) (by walk_at "ev") hl2 ?_
      refine hfin _ _ rfl rfl _ ?_
      unfold bodyRow
      rw [if_pos hc]
      rfl
    · have hc : ¬ 8 < cell ns (first + 2 * i) % 11 := of_decide_eq_false hx
      refine s_if (x := (decide (cell ns (first + 2 * i) % 11 = 8) && decide (cell ns (first + 2 * i + 1) % 3 = 0))) (et_and (by walk_at "et") (fun _ => by walk_at "et")) (fun hx => ?_) (fun hx => ?_)
      · have hc2 : cell ns (first + 2 * i) % 11 = 8 ∧ cell ns (first + 2 * i + 1) % 3 = 0 := by simpa using hx
        refine s_app (d := .tup [.str "jump", .int (st + min size (i + 1 + cell ns (first + 2 * i + 1) / 3 % 2))]) (Or.inl rfl) (by walk_at "ev") hl2 ?_
        refine hfin _ _ rfl rfl _ ?_
        unfold bodyRow
        rw [if_neg hc, if_pos hc2]
        rfl
      · have hc2 : ¬ (cell ns (first + 2 * i) % 11 = 8 ∧ cell ns (first + 2 * i + 1) % 3 = 0) := by
          intro z
          rw [decide_eq_true z.1, decide_eq_true z.2] at hx
          cases hx
        refine s_app (Or.inl rfl) (ev_straight hl (ev_var rfl) (ev_var rfl) (ev_var rfl)) hl2 ?_
        refine hfin _ _ rfl rfl _ ?_
        unfold bodyRow
        rw [if_neg hc, if_neg hc2]
  · exact s_retV rfl rfl
theorem sx_law_wild (ds : List PD) (r : Rt) (h : P_law_wild ds r) : Sx K (t_law_wild K) (ae 8 ds) (Gives r) := by
  obtain ⟨ns, first, size, nms, hl, hf, hz, rfl, rfl⟩ := h
  unfold t_law_wild
  walk_at "asgo"
  refine q_forD (n := size.toNat) (f := fun i => .int (i : Nat)) [5, 6, 7] (fun i => [.sh (.scr ns), .sh (.int first), .sh (.int size), .sh (.lst (nms.map PD.str)), .ow (.lst (((List.range i).map (wildRow ns first size nms)).map Row.pd)), .no, .no, .no]) (ei_rng1 (by walk_at "es") (by omega) (by omega)) rfl (fun i hi => ⟨_, _, eg_name rfl, ?_⟩) ?_
  · have hl2 := rl (f := wildRow ns first size nms) (i := i) (by omega)
    have hs0 : 0 < size := by omega
    have hfin : ∀ s7 s8 : Sl, nC s7 = true → nC s8 = true → ∀ x, x = (wildRow ns first size nms i).pd → fgt [.sh (.scr ns), .sh (.int first), .sh (.int size), .sh (.lst (nms.map PD.str)), .ow (.lst (((List.range i).map (wildRow ns first size nms)).map Row.pd ++ [x])), .sh (.int (i : Nat)), s7, s8] [5, 6, 7]
        = [.sh (.scr ns), .sh (.int first), .sh (.int size), .sh (.lst (nms.map PD.str)), .ow (.lst (((List.range (i + 1)).map (wildRow ns first size nms)).map Row.pd)), .no, .no, .no] := fun s7 s8 h7 h8 x hx => by
      rw [map_snoc (α := Nat), hx]
      cases s7 <;> first | (cases h7; done) | skip
      all_goals (cases s8 <;> first | (cases h8; done) | rfl)
    refine q_asg (d := .int (cell ns (first + 2 * i) % 12)) (by walk_at "ev") rfl ?_
    refine q_asg (d := .int (cell ns (first + 2 * i + 1))) (by walk_at "ev") rfl ?_
    refine s_if (x := decide (9 < cell ns (first + 2 * i) % 12)) (by walk_at "et") (fun hx => ?_) (fun hx => ?_)
    · have hc : 9 < cell ns (first + 2 * i) % 12 := of_decide_eq_true hx
      refine s_app (d := .tup [.str "zero", .str (nm nms (cell ns (first + 2 * i + 1) % 5)), .int (cell ns (first + 2 * i + 1) / 5 % size)]) (Or.inl rfl) (by walk_at "ev") hl2 ?_
      refine hfin _ _ rfl rfl _ ?_
      unfold wildRow
      rw [if_pos hc]
      rfl
    · have hc : ¬ 9 < cell ns (first + 2 * i) % 12 := of_decide_eq_false hx
      refine s_if (x := decide (cell ns (first + 2 * i) % 12 = 9)) (by walk_at "et") (fun hx => ?_) (fun hx => ?_)
      · have hc2 : cell ns (first + 2 * i) % 12 = 9 := of_decide_eq_true hx
        have e0 : Evs K (tCons (tTup (tCons (tC (.str "jump")) (tCons (tOp rModI (tOp rDivI (tVar 7) (tC (.int 3))) (tVar 2)) (tNil)))) (tCons (tTup (tCons (tC (.str "stop")) (tNil))) (tCons (tTup (tCons (tC (.str "jump")) (tCons (tOp rDivI (tVar 5) (tC (.int 2))) (tNil)))) (tNil))))
            [.sh (.scr ns), .sh (.int first), .sh (.int size), .sh (.lst (nms.map PD.str)), .ow (.lst (((List.range i).map (wildRow ns first size nms)).map Row.pd)), .sh (.int (i : Nat)), .sh (.int (cell ns (first + 2 * i) % 12)), .sh (.int (cell ns (first + 2 * i + 1)))]
            [.tup [.str "jump", .int (cell ns (first + 2 * i + 1) / 3 % size)], .tup [.str "stop"], .tup [.str "jump", .int ((i : Int) / 2)]] := by walk_at "es"
        have hm : cell ns (first + 2 * i + 1) % 3 = 0 ∨ cell ns (first + 2 * i + 1) % 3 = 1 ∨ cell ns (first + 2 * i + 1) % 3 = 2 := by omega
        rcases hm with e | e | e
        · refine s_app (Or.inl rfl) (ev_ixL (i := 0) (rd_of_evo (eo_lst e0 (Nat.le_of_ble_eq_true rfl))) (ev_is (by walk_at "ev") (by rw [e])) rfl) hl2 ?_
          refine hfin _ _ rfl rfl _ ?_
          unfold wildRow
          rw [if_neg hc, if_pos hc2, if_pos e]
          rfl
        · refine s_app (Or.inl rfl) (ev_ixL (i := 1) (rd_of_evo (eo_lst e0 (Nat.le_of_ble_eq_true rfl))) (ev_is (by walk_at "ev") (by rw [e])) rfl) hl2 ?_
          refine hfin _ _ rfl rfl _ ?_
          unfold wildRow
          rw [if_neg hc, if_pos hc2, if_neg (by omega), if_pos e]
          rfl
        · refine s_app (Or.inl rfl) (ev_ixL (i := 2) (rd_of_evo (eo_lst e0 (Nat.le_of_ble_eq_true rfl))) (ev_is (by walk_at "ev") (by rw [e])) rfl) hl2 ?_
          refine hfin _ _ rfl rfl _ ?_
          unfold wildRow
          rw [if_neg hc, if_pos hc2, if_neg (by omega), if_neg (by omega)]
          rfl
      · have hc2 : ¬ cell ns (first + 2 * i) % 12 = 9 := of_decide_eq_false hx
        refine s_app (Or.inl rfl) (ev_straight hl (ev_var rfl) (ev_var rfl) (ev_var rfl)) hl2 ?_
        refine hfin _ _ rfl rfl _ ?_
        unfold wildRow
        rw [if_neg hc, if_neg hc2]
  · exact s_retV rfl rfl
theorem sx_law_turn (ds : List PD) (r : Rt) (h : P_law_turn ds r) : Sx K (t_law_turn K) (ae 3 ds) (Gives r) := by
  obtain ⟨count, nms, hl, rfl, rfl⟩ := h
  unfold t_law_turn
  refine q_if (x := !decide (count % 4 = 1)) (by walk_at "et") (fun hx => ?_) (fun hx => q_next ?_)
  · have hc : ¬ count % 4 = 1 := by simpa using hx
    have e : turn count nms = [] := by unfold turn; rw [if_neg hc]
    rw [e]
    walk_at "reto"
    rfl
  · have hc : count % 4 = 1 := by simpa using hx
    have e : turn count nms = [.put (nm nms 3) (2 + count / 4 % 8), .op .less (nm nms 2) (.n (nm nms 0)) (.n (nm nms 3)), .zero (nm nms 2) 7, .op .add (nm nms 4) (.n (nm nms 4)) (.n (nm nms 1))] := by unfold turn; rw [if_pos hc]
    rw [e]
    walk_at "asgo"
    refine' s_retO ?a rfl
    case a =>
      refine' eo_is (eo_cat (rd_ow rfl) (rd_of_evo (eo_lst ?b ?c)) ?d) ?e
      case b => walk_at "es"
      case c => exact Nat.le_of_ble_eq_true rfl
      case d => exact Nat.le_of_ble_eq_true rfl
      case e => rfl
end
section
variable {K : FK} {δ : AE} {ta tb : TE} {P : Post}
theorem names_len (c : Int) : (names c).length = 6 := by unfold names; rw [List.length_map, List.length_range]
theorem turn_len (c : Int) (nms : List Str) : (turn c nms).length ≤ 4 := by
  unfold turn; split <;> simp
theorem body_len (ns : List Int) (first size : Int) (nms : List Str) (st : Int) : (body ns first size nms st).length = size.toNat := by unfold body; rw [List.length_map, List.length_range]
def prog2 (K : FK) : TS := (tSeq (tAsg (tOp (rIxL K) (tLst (tCons (tOp rAddI (tC (.int 1)) (tOp rModI (tVar 3) (tC (.int 12)))) (tCons (tC (.int 12)) (tNil)))) (tCB rInt1 (tCons (tOp rGtI (tCB (rLenS K) (tCons (tVar 5) (tNil))) (tC (.int 0))) (tNil)))) (gName 7)) (tSeq (tAsg (tLst (tCons (tTup (tCons (tC (.str "put")) (tCons (tOp (rIxL K) (tVar 1) (tC (.int 5))) (tCons (tOp rAddI (tC (.int 1)) (tOp rModI (tOp rDivI (tVar 3) (tC (.int 12))) (tC (.int 5)))) (tNil))))) (tCons (tTup (tCons (tC (.str "put")) (tCons (tOp (rIxL K) (tVar 1) (tC (.int 1))) (tCons (tC (.int 1)) (tNil))))) (tCons (tTup (tCons (tC (.str "put")) (tCons (tOp (rIxL K) (tVar 1) (tC (.int 0))) (tCons (tVar 7) (tNil))))) (tNil))))) (gName 8)) (tSeq (tAsg (tOp rAddI (tC (.int 3)) (tCB (rLenS K) (tCons (tVar 6) (tNil)))) (gName 9)) (tSeq (tAsg (tOp rCat (tOp rCat (tVar 8) (tVar 6)) (tLst (tCons (tTup (tCons (tC (.str "minus")) (tCons (tOp (rIxL K) (tVar 1) (tC (.int 0))) (tCons (tOp (rIxL K) (tVar 1) (tC (.int 0))) (tCons (tOp (rIxL K) (tVar 1) (tC (.int 1))) (tNil)))))) (tCons (tTup (tCons (tC (.str "zero")) (tCons (tOp (rIxL K) (tVar 1) (tC (.int 0))) (tCons (tOp rAddI (tVar 9) (tC (.int 3))) (tNil))))) (tCons (tTup (tCons (tC (.str "jump")) (tCons (tC (.int 3)) (tNil)))) (tNil)))))) (gName 8)) (tSeq (tIfS (tTest (tOp rGtI (tVar 4) (tC (.int 0)))) (tAsg (tOp rCat (tVar 8) (tLst (tCons (tTup (tCons (tC (.str "minus")) (tCons (tOp (rIxL K) (tVar 1) (tC (.int 5))) (tCons (tOp (rIxL K) (tVar 1) (tC (.int 5))) (tCons (tOp (rIxL K) (tVar 1) (tC (.int 1))) (tNil)))))) (tCons (tTup (tCons (tC (.str "zero")) (tCons (tOp (rIxL K) (tVar 1) (tC (.int 5))) (tCons (tOp rAddI (tVar 9) (tC (.int 6))) (tNil))))) (tCons (tTup (tCons (tC (.str "jump")) (tCons (tC (.int 2)) (tNil)))) (tNil)))))) (gName 8)) (tNext)) (tRet (tOp rCat (tVar 8) (tSl (rSlL K) (tLst (tCons (tTup (tCons (tC (.str "tell")) (tCons (tOp (rIxL K) (tVar 1) (tC (.int 2))) (tNil)))) (tCons (tTup (tCons (tC (.str "tell")) (tCons (tOp (rIxL K) (tVar 1) (tC (.int 3))) (tNil)))) (tCons (tTup (tCons (tC (.str "stop")) (tNil))) (tNil))))) (tNoPart) (tPart (tOp rSubI (tC (.int 4)) (tVar 4)))))))))))
theorem take_cut (a b c : PD) (way : Int) (h : 0 ≤ way ∧ way < 4) : cutD [a, b, c] none (some (4 - way)) = [a, b, c].take (4 - way).toNat := by
  have hm : way = 0 ∨ way = 1 ∨ way = 2 ∨ way = 3 := by omega
  rcases hm with e | e | e | e <;> subst e <;> rfl
theorem sx_prog2 (ns : List Int) (nms : List Str) (size count way : Int) (ah inn : List Row) (hl : nms.length = 6) (hw : 0 ≤ way ∧ way < 4) (ha : ah.length ≤ 10) (hi : inn.length ≤ 100) (x10 : Sl) :
    Sx K (prog2 K) [.sh (.scr ns), .sh (.lst (nms.map PD.str)), .sh (.int size), .sh (.int count), .sh (.int way), .ow (.lst (ah.map Row.pd)), .ow (.lst (inn.map Row.pd)), .no, .no, .no, x10] (Gives (.own (.lst ((frame nms count way ah.length inn).map Row.pd)))) := by
  unfold prog2
  have hlen : Evd K (tCB (rLenS K) (tCons (tVar 5) tNil)) [.sh (.scr ns), .sh (.lst (nms.map PD.str)), .sh (.int size), .sh (.int count), .sh (.int way), .ow (.lst (ah.map Row.pd)), .ow (.lst (inn.map Row.pd)), .no, .no, .no, x10] (.int (ah.length : Nat)) := ev_is (ev_lenL (rd_ow rfl)) (by rw [List.length_map])
  refine q_asg (d := .int (if 0 < ah.length then 12 else 1 + count % 12)) ?_ rfl ?_
  · by_cases h : 0 < ah.length
    · rw [if_pos h]
      exact ev_ixL (i := 1) (rd_of_evo (eo_lst (by walk_at "es") (Nat.le_of_ble_eq_true rfl))) (ev_is (ev_intB (e_gt hlen (ev_int _))) (by rw [if_pos (decide_eq_true (by omega))])) rfl
    · rw [if_neg h]
      exact ev_ixL (i := 0) (rd_of_evo (eo_lst (by walk_at "es") (Nat.le_of_ble_eq_true rfl))) (ev_is (ev_intB (e_gt hlen (ev_int _))) (by rw [if_neg (by rw [decide_eq_true_eq]; omega)])) rfl
  walk_at "asgo"
  refine q_asg (d := .int (3 + (inn.length : Int))) (e_add (ev_int _) (ev_is (ev_lenL (rd_ow rfl)) (by rw [List.length_map]))) rfl ?_
  refine' q_asgO ?a ?_
  case a =>
    refine' eo_cat (rd_of_evo (eo_cat (rd_ow rfl) (rd_ow rfl) ?b)) (rd_of_evo (eo_lst ?c ?d)) ?e
    case c => walk_at "es"
    case d => exact Nat.le_of_ble_eq_true rfl
    case b => simp; omega
    case e => simp; omega
  refine q_if (x := decide (0 < way)) (by walk_at "et") (fun hx => ?_) (fun hx => ?_)
  · have h : 0 < way := of_decide_eq_true hx
    refine' q_asgO ?a2 ?_
    case a2 =>
      refine' eo_cat (rd_ow rfl) (rd_of_evo (eo_lst ?c2 ?d2)) ?e2
      case c2 => walk_at "es"
      case d2 => exact Nat.le_of_ble_eq_true rfl
      case e2 => simp; omega
    refine' s_retO ?a3 rfl
    case a3 =>
      refine' eo_is (eo_cat (rd_ow rfl) (rd_of_evo (eo_slL (rd_of_evo (eo_lst ?b3 ?f3)) ep_none (ep_some ?c3))) ?d3) ?e3
      case b3 => walk_at "es"
      case f3 => exact Nat.le_of_ble_eq_true rfl
      case c3 => walk_at "ev"
      case d3 =>
        rw [take_cut _ _ _ _ hw]
        simp
        omega
      case e3 =>
        rw [take_cut _ _ _ _ hw]
        unfold frame
        rw [if_pos h, List.map_append, List.map_append, List.map_append, List.map_append, List.map_take]
        rfl
  · have h : ¬ 0 < way := of_decide_eq_false hx
    refine q_next ?_
    refine' s_retO ?a4 rfl
    case a4 =>
      refine' eo_is (eo_cat (rd_ow rfl) (rd_of_evo (eo_slL (rd_of_evo (eo_lst ?b4 ?f4)) ep_none (ep_some ?c4))) ?d4) ?e4
      case b4 => walk_at "es"
      case f4 => exact Nat.le_of_ble_eq_true rfl
      case c4 => walk_at "ev"
      case d4 =>
        rw [take_cut _ _ _ _ hw]
        simp
        omega
      case e4 =>
        rw [take_cut _ _ _ _ hw]
        unfold frame
        rw [if_neg h, List.map_append, List.map_append, List.map_append, List.map_append, List.map_take]
        rw [List.map_nil, List.append_nil]
        rfl
theorem sx_law_program (ds : List PD) (r : Rt) (h : P_law_program ds r) : Sx K (t_law_program K) (ae 11 ds) (Gives r) := by
  obtain ⟨ns, hns, rfl, rfl⟩ := h
  unfold t_law_program
  have hl := names_len (cell ns 2)
  refine q_asgO (o := .lst ((names (cell ns 2)).map PD.str)) (eo_call (es_cons (ev_cell (ev_var rfl) (ev_int 2) (by decide)) es_nil) ⟨_, rfl, rfl⟩) ?_
  refine q_share (i := 1) rfl ?_
  refine q_asg (d := .int (cell ns 0 % 10)) (e_mod (ev_cell (ev_var rfl) (ev_int 0) (by decide)) (ev_int _) (by decide)) rfl ?_
  refine q_if (x := decide (63 < (ns.length : Int))) (by walk_at "et") (fun hx => absurd (of_decide_eq_true hx) (by omega)) (fun _ => q_next ?_)
  refine q_asg (d := .int (cell ns 3)) (ev_cell (ev_var rfl) (ev_int 3) (by decide)) rfl ?_
  refine q_asg (d := .int (cell ns 4 % 5)) (e_mod (ev_cell (ev_var rfl) (ev_int 4) (by decide)) (ev_int _) (by decide)) rfl ?_
  refine q_if (x := decide (cell ns 4 % 5 = 4)) (by walk_at "et") (fun hx => ?_) (fun hx => q_next ?_)
  · have h : cell ns 4 % 5 = 4 := of_decide_eq_true hx
    have e : program ns = wild ns 5 (cell ns 0 % 10) (names (cell ns 2)) := by unfold program; rw [if_pos h]
    rw [e]
    exact q_ret (s_retO (eo_call (P := P_law_wild) (es_cons (ev_var rfl) (es_cons (ev_int 5) (es_cons (ev_var rfl) (es_cons (ev_var rfl) es_nil)))) ⟨ns, 5, _, _, hl, by decide, by omega, rfl, rfl⟩) rfl)
  · have h : ¬ cell ns 4 % 5 = 4 := of_decide_eq_false hx
    have e : program ns = frame (names (cell ns 2)) (cell ns 3) (cell ns 4 % 5) (turn (cell ns 3) (names (cell ns 2))).length (inner ns (names (cell ns 2)) (cell ns 0 % 10) (cell ns 3)) := by unfold program; rw [if_neg h]
    rw [e]
    have ht := turn_len (cell ns 3) (names (cell ns 2))
    refine q_asgO (o := .lst ((turn (cell ns 3) (names (cell ns 2))).map Row.pd)) (eo_call (P := P_law_turn) (es_cons (ev_var rfl) (es_cons (ev_var rfl) es_nil)) ⟨_, _, hl, rfl, rfl⟩) ?_
    refine q_asgO (o := .lst ((turn (cell ns 3) (names (cell ns 2))).map Row.pd ++ (body ns 5 (cell ns 0 % 10) (names (cell ns 2)) (3 + (turn (cell ns 3) (names (cell ns 2))).length)).map Row.pd))
      (eo_cat (rd_ow rfl) (rd_of_evo (eo_call (P := P_law_body) (es_cons (ev_var rfl) (es_cons (ev_int 5) (es_cons (ev_var rfl) (es_cons (ev_var rfl) (es_cons (e_add (ev_int 3) (ev_is (ev_lenL (rd_ow rfl)) (by rw [List.length_map]))) es_nil))))) ⟨ns, 5, _, _, _, hl, by decide, by omega, rfl, rfl⟩)) (by rw [List.length_map, List.length_map, body_len]; omega)) ?_
    refine q_if (x := decide (cell ns 3 % 4 = 2)) (by walk_at "et") (fun hx2 => ?_) (fun hx2 => q_next ?_)
    · have h2 : cell ns 3 % 4 = 2 := of_decide_eq_true hx2
      have ei : inner ns (names (cell ns 2)) (cell ns 0 % 10) (cell ns 3) = (List.range (if cell ns 3 / 4 % 2 = 0 then 57 else 58)).map fun (k : Nat) => Row.put (nm (names (cell ns 2)) 4) (k : Int) := by unfold inner; rw [if_pos h2]
      rw [ei]
      have hn : ∀ m : Nat, m = (if cell ns 3 / 4 % 2 = 0 then 57 else 58) → m ≤ 58 := fun m e => by split at e <;> omega
      refine q_asgO (o := .lst (((List.range (if cell ns 3 / 4 % 2 = 0 then 57 else 58)).map fun (k : Nat) => Row.put (nm (names (cell ns 2)) 4) (k : Int)).map Row.pd)) ?_ ?_
      · refine' eo_is (eo_lc (n := if cell ns 3 / 4 % 2 = 0 then 57 else 58) (f := fun i => .int (i : Nat)) (fun _ => true) (fun i => .tup [.str "put", .str (nm (names (cell ns 2)) 4), .int (i : Nat)]) (ei_rngN (es_cons ?a es_nil) ?b) ?c (fun i hi => ⟨_, _, eg_name rfl, fun j hj => hj, et_yes, fun _ => ?d⟩)) ?e
        case a =>
          by_cases h3 : cell ns 3 / 4 % 2 = 0
          · rw [if_pos h3]
            exact ev_ixL (i := 0) (rd_of_evo (eo_lst (by walk_at "es") (Nat.le_of_ble_eq_true rfl))) (ev_is (by walk_at "ev") (by rw [h3])) rfl
          · rw [if_neg h3]
            exact ev_ixL (i := 1) (rd_of_evo (eo_lst (by walk_at "es") (Nat.le_of_ble_eq_true rfl))) (ev_is (by walk_at "ev") (by rw [show cell ns 3 / 4 % 2 = 1 by omega])) rfl
        case b => have := hn _ rfl; omega
        case c => have := hn _ rfl; omega
        case d => walk_at "ev"
        case e =>
          rw [given_all, List.map_map]
          rfl
      · exact sx_prog2 ns (names (cell ns 2)) (cell ns 0 % 10) (cell ns 3) (cell ns 4 % 5) (turn (cell ns 3) (names (cell ns 2))) _ hl (by omega) (by omega) (by rw [List.length_map, List.length_range]; have := hn _ rfl; omega) .no
    · have h2 : ¬ cell ns 3 % 4 = 2 := of_decide_eq_false hx2
      have ei : inner ns (names (cell ns 2)) (cell ns 0 % 10) (cell ns 3) = turn (cell ns 3) (names (cell ns 2)) ++ body ns 5 (cell ns 0 % 10) (names (cell ns 2)) (3 + (turn (cell ns 3) (names (cell ns 2))).length) := by unfold inner; rw [if_neg h2]
      have g := sx_prog2 (K := K) ns (names (cell ns 2)) (cell ns 0 % 10) (cell ns 3) (cell ns 4 % 5) (turn (cell ns 3) (names (cell ns 2))) (turn (cell ns 3) (names (cell ns 2)) ++ body ns 5 (cell ns 0 % 10) (names (cell ns 2)) (3 + (turn (cell ns 3) (names (cell ns 2))).length)) hl (by omega) (by omega) (by rw [List.length_append, body_len]; omega) .no
      rw [List.map_append] at g
      rw [ei]
      exact g
end
section
variable {K : FK} {δ : AE} {ta tb : TE} {P : Post}
theorem look_get {e : NE} {x : Str} {v : Int} (h : get e x = some v) : look (encD e) (.inr x) = some (.int v) := by rw [look_enc, h]; rfl
theorem sx_law_value (ds : List PD) (r : Rt) (h : P_law_value ds r) : Sx K (t_law_value K) (ae 2 ds) (Gives r) := by
  obtain ⟨e, s, v, hs, rfl, rfl⟩ := h
  unfold t_law_value
  cases s with
  | i u =>
    cases hs
    refine q_if (x := true) (et_B (ev_isi (d := .int v) (ev_var rfl) (show kitB "int" "int" = some true by decide +kernel))) (fun _ => ?_) (fun z => nomatch z)
    exact q_ret (s_ret (d := .int v) (ev_var rfl) rfl)
  | n y =>
    refine q_if (x := false) (et_B (ev_isi (d := .str y) (ev_var rfl) (show kitB "str" "int" = some false by decide +kernel))) (fun z => nomatch z) (fun _ => q_next ?_)
    exact s_ret (ev_dget (rd_dic (ev_var rfl)) (ev_var rfl) (look_get hs)) rfl
theorem ev_value {e : NE} {s : Src} {v : Int} (hs : sv e s = some v) (ha : Evd K ta δ (.dic (encD e))) (hb : Evd K tb δ s.pd) : Evd K (tCall (sp_law_value K) [] E0 (tCons ta (tCons tb tNil))) δ (.int v) :=
  ev_call (P := P_law_value) (es_cons ha (es_cons hb es_nil)) ⟨e, s, v, hs, rfl, rfl⟩
theorem q_putE {i : Nat} {e : NE} {x : Str} {v : Int} {te tx : TE} {tz : TS} (hx : δ[i]? = some (.ow (.dic (encD e)))) (hv : Evd K te δ (.int v)) (hk : Evd K tx δ (.str x)) (hz : e.length < 100000) (k : Sx K tz (δ.set i (.ow (.dic (encD (eput e x v))))) P) : Sx K (tSeq (sDPut (tVar i) tx te) tz) δ P := by
  refine q_dput (kds := encD e) (dk := .str x) (d := .int v) (Or.inl hx) hv hk rfl (by rw [enc_len]; exact hz) ?_
  have e1 : put (encD e) (keyOf (.str x)) (.int v) = encD (eput e x v) := put_enc e x v
  rw [e1]
  have e2 : wr δ i (.dic (encD (eput e x v))) = δ.set i (.ow (.dic (encD (eput e x v)))) := by unfold wr; rw [hx]
  rw [e2]
  exact k
theorem s_putE {i : Nat} {e : NE} {x : Str} {v : Int} {te tx : TE} (hx : δ[i]? = some (.ow (.dic (encD e)))) (hv : Evd K te δ (.int v)) (hk : Evd K tx δ (.str x)) (hz : e.length < 100000) (k : P.nx (δ.set i (.ow (.dic (encD (eput e x v)))))) : Sx K (sDPut (tVar i) tx te) δ P := by
  refine s_dput (kds := encD e) (dk := .str x) (d := .int v) (Or.inl hx) hv hk rfl (by rw [enc_len]; exact hz) ?_
  have e1 : put (encD e) (keyOf (.str x)) (.int v) = encD (eput e x v) := put_enc e x v
  rw [e1]
  have e2 : wr δ i (.dic (encD (eput e x v))) = δ.set i (.ow (.dic (encD (eput e x v)))) := by unfold wr; rw [hx]
  rw [e2]
  exact k
theorem mul_small {i j : Int} (h : Small i) : CMul i j := by
  obtain ⟨h1, h2⟩ := h
  exact mul_l ⟨by omega, by omega⟩
theorem sx_law_done (ds : List PD) (r : Rt) (h : P_law_done ds r) : Sx K (t_law_done K) (ae 6 ds) (Gives r) := by
  obtain ⟨row, e, e', hb, hr, hz, hd, rfl, rfl⟩ := h
  unfold t_law_done
  walk_at "asgo"
  cases row with
  | tell s =>
    obtain ⟨v, hv, he⟩ := Option.map_eq_some_iff.mp hd
    subst he
    refine q_if (x := true) (et_is (et_test (ev_eqS (ev_ixT (ev_var rfl) (ev_int 0) rfl) (ev_str "tell"))) (by decide)) (fun _ => ?_) (fun z => nomatch z)
    exact q_ret (s_retV rfl rfl)
  | put x v =>
    cases hd
    refine q_if (x := false) (et_is (et_test (ev_eqS (ev_ixT (ev_var rfl) (ev_int 0) rfl) (ev_str "tell"))) (by decide)) (fun z => nomatch z) (fun _ => q_next ?_)
    refine q_asg (d := .int v) (ev_value (s := .i v) rfl (ev_var rfl) (ev_ixT (ev_var rfl) (ev_int 2) rfl)) rfl ?_
    refine q_if (x := true) (et_is (et_test (ev_inL false (a := .str "put") (ds := [.str "put", .str "copy"]) (ev_ixT (ev_var rfl) (ev_int 0) rfl) (rd_of_evo (eo_lst (es_cons (ev_str _) (es_cons (ev_str _) es_nil)) (by decide))) rfl rfl)) (by decide +kernel)) (fun _ => ?_) (fun z => nomatch z)
    refine q_assoc (q_putE rfl (ev_var rfl) (ev_ixT (ev_var rfl) (ev_int 1) rfl) (by omega) ?_)
    exact q_ret (s_retV rfl rfl)
  | copy x s =>
    obtain ⟨v, hv, he⟩ := Option.map_eq_some_iff.mp hd
    subst he
    refine q_if (x := false) (et_is (et_test (ev_eqS (ev_ixT (ev_var rfl) (ev_int 0) rfl) (ev_str "tell"))) (by decide)) (fun z => nomatch z) (fun _ => q_next ?_)
    refine q_asg (d := .int v) (ev_value (s := s) hv (ev_var rfl) (ev_ixT (ev_var rfl) (ev_int 2) rfl)) rfl ?_
    refine q_if (x := true) (et_is (et_test (ev_inL false (a := .str "copy") (ds := [.str "put", .str "copy"]) (ev_ixT (ev_var rfl) (ev_int 0) rfl) (rd_of_evo (eo_lst (es_cons (ev_str _) (es_cons (ev_str _) es_nil)) (by decide))) rfl rfl)) (by decide +kernel)) (fun _ => ?_) (fun z => nomatch z)
    refine q_assoc (q_putE rfl (ev_var rfl) (ev_ixT (ev_var rfl) (ev_int 1) rfl) (by omega) ?_)
    exact q_ret (s_retV rfl rfl)
  | op w x a b =>
    obtain ⟨i, hi, he⟩ := Option.bind_eq_some_iff.mp hd
    obtain ⟨j, hj, he⟩ := Option.map_eq_some_iff.mp he
    subst he
    have si : Small i := sv_small hb hr.1 hi
    have t0 : ∀ {δ : AE} {z : Str}, δ[0]? = some (.sh (Row.op w x a b).pd) → Evd K (tOp rEq (tOp (rIxT K) (tVar 0) (tC (.int 0))) (tC (.str z))) δ (.bl (decide (w.word = z))) := fun h0 => ev_eqS (ev_ixT (ev_var h0) (ev_int 0) rfl) (ev_str _)
    refine q_if (x := false) (et_is (et_test (t0 rfl)) (by cases w <;> decide)) (fun z => nomatch z) (fun _ => q_next ?_)
    refine q_asg (d := .int i) (ev_value (s := a) hi (ev_var rfl) (ev_ixT (ev_var rfl) (ev_int 2) rfl)) rfl ?_
    refine q_if (x := false) (et_is (et_test (ev_inL false (a := .str w.word) (ds := [.str "put", .str "copy"]) (ev_ixT (ev_var rfl) (ev_int 0) rfl) (rd_of_evo (eo_lst (es_cons (ev_str _) (es_cons (ev_str _) es_nil)) (by decide))) rfl rfl)) (by cases w <;> decide +kernel)) (fun z => nomatch z) (fun _ => q_next ?_)
    refine q_asg (d := .int j) (ev_value (s := b) hj (ev_var rfl) (ev_ixT (ev_var rfl) (ev_int 3) rfl)) rfl ?_
    by_cases hw : w = .less
    · subst hw
      refine q_if (x := true) (et_is (et_test (t0 rfl)) (by decide)) (fun _ => ?_) (fun z => nomatch z)
      refine q_putE (v := Op.less.val i j) rfl (ev_is (ev_intB (e_lt (ev_var rfl) (ev_var rfl))) ?_) (ev_ixT (ev_var rfl) (ev_int 1) rfl) (by omega) ?_
      · show PD.int (if decide (i < j) = true then 1 else 0) = PD.int (if i < j then 1 else 0)
        by_cases hij : i < j
        · rw [if_pos hij, if_pos (decide_eq_true hij)]
        · rw [if_neg hij, if_neg (by rw [decide_eq_true_eq]; exact hij)]
      exact s_retV rfl rfl
    · refine q_if (x := false) (et_is (et_test (t0 rfl)) (by cases w <;> first | decide | exact absurd rfl hw)) (fun z => nomatch z) (fun _ => ?_)
      refine q_assoc ?_
      refine q_asgO (o := .dic (mergeD [] [(.inr "add", .int (i + j)), (.inr "minus", .int (i - j)), (.inr "times", .int (i * j))])) (eo_disp (eps_cons (ev_str "add") rfl (e_add (ev_var rfl) (ev_var rfl)) (eps_cons (ev_str "minus") rfl (e_sub (ev_var rfl) (ev_var rfl)) (eps_cons (ev_str "times") rfl (e_mul (ev_var rfl) (ev_var rfl) (mul_small si)) eps_nil))) (Nat.le_of_ble_eq_true rfl)) ?_
      refine q_putE (v := w.val i j) rfl (ev_is (e_mod (i := match w with | .add => i + j | .minus => i - j | .times => i * j | .less => 0) (ev_dget (rd_ow rfl) (ev_ixT (ev_var rfl) (ev_int 0) rfl) ?_) (e_pow (ev_int 10) (ev_int 6) (And.intro (by decide) (And.intro (by decide) (by decide)))) (by decide)) ?_) (ev_ixT (ev_var rfl) (ev_int 1) rfl) (by omega) ?_
      · cases w with
        | add => rfl
        | minus => rfl
        | times => rfl
        | less => exact absurd rfl hw
      · cases w with
        | add => rfl
        | minus => rfl
        | times => rfl
        | less => exact absurd rfl hw
      exact s_retV rfl rfl
  | jump p => cases hd
  | zero x p => cases hd
  | stop => cases hd
theorem sx_law_told (ds : List PD) (r : Rt) (h : P_law_told ds r) : Sx K (t_law_told K) (ae 2 ds) (Gives r) := by
  obtain ⟨row, e, e', hd, rfl, rfl⟩ := h
  unfold t_law_told
  have t0 : ∀ {δ : AE} {z : Str}, δ[0]? = some (.sh row.pd) → ∃ y, row.items[0]? = some (.str y) ∧ Evd K (tOp rEq (tOp (rIxT K) (tVar 0) (tC (.int 0))) (tC (.str z))) δ (.bl (decide (y = z))) := fun h0 => by
    cases row with
    | tell s => exact ⟨"tell", rfl, ev_eqS (ev_ixT (ev_var h0) (ev_int 0) rfl) (ev_str _)⟩
    | put x v => exact ⟨"put", rfl, ev_eqS (ev_ixT (ev_var h0) (ev_int 0) rfl) (ev_str _)⟩
    | copy x s => exact ⟨"copy", rfl, ev_eqS (ev_ixT (ev_var h0) (ev_int 0) rfl) (ev_str _)⟩
    | op w x a b => exact ⟨w.word, rfl, ev_eqS (ev_ixT (ev_var h0) (ev_int 0) rfl) (ev_str _)⟩
    | jump p => exact ⟨"jump", rfl, ev_eqS (ev_ixT (ev_var h0) (ev_int 0) rfl) (ev_str _)⟩
    | zero x p => exact ⟨"zero", rfl, ev_eqS (ev_ixT (ev_var h0) (ev_int 0) rfl) (ev_str _)⟩
    | stop => exact ⟨"stop", rfl, ev_eqS (ev_ixT (ev_var h0) (ev_int 0) rfl) (ev_str _)⟩
  obtain ⟨y, hy, ht⟩ := t0 (δ := ae 2 [row.pd, .dic (encD e)]) (z := "tell") rfl
  have no : ∀ (hy : y ≠ "tell") (hn : tells e row = []), Sx K (tSeq (tIfS (tTest (tOp rEq (tOp (rIxT K) (tVar 0) (tC (.int 0))) (tC (.str "tell")))) (tRet (tLst (tCons (tCall (sp_law_value K) [] E0 (tCons (tVar 1) (tCons (tOp (rIxT K) (tVar 0) (tC (.int 1))) (tNil)))) (tNil)))) (tNext)) (tRet (tLst (tNil)))) (ae 2 [row.pd, .dic (encD e)]) (Gives (.own (.lst ((tells e row).map PD.int)))) := fun hy hn => by
    rw [hn]
    refine q_if (x := false) (et_is (et_test ht) (decide_eq_false hy)) (fun z => nomatch z) (fun _ => q_next ?_)
    walk_at "reto"
    rfl
  cases row with
  | tell s =>
    cases hy
    obtain ⟨v, hv, he⟩ := Option.map_eq_some_iff.mp hd
    have e1 : tells e (.tell s) = [v] := by
      show (sv e s).toList = [v]
      rw [hv]
      rfl
    rw [e1]
    refine q_if (x := true) (et_is (et_test ht) (by decide)) (fun _ => ?_) (fun z => nomatch z)
    exact q_ret (s_retO (eo_lst (es_cons (ev_value (s := s) hv (ev_var rfl) (ev_ixT (ev_var rfl) (ev_int 1) rfl)) es_nil) (Nat.le_of_ble_eq_true rfl)) rfl)
  | put x v => cases hy; exact no (by decide) rfl
  | copy x s => cases hy; exact no (by decide) rfl
  | op w x a b => cases hy; exact no (by cases w <;> decide) rfl
  | jump p => cases hd
  | zero x p => cases hd
  | stop => cases hd
theorem rows_at {rows : List Row} {i : Nat} {row : Row} (h : rows[i]? = some row) : atI (rows.map Row.pd) (i : Int) = some row.pd := atI_nat (by rw [List.getElem?_map, h]; rfl)
theorem sx_law_step (ds : List PD) (r : Rt) (h : P_law_step ds r) : Sx K (t_law_step K) (ae 4 ds) (Gives r) := by
  obtain ⟨rows, i, row, e, p, e', ts, hb, hr, hz, hat, hs, rfl, rfl⟩ := h
  unfold t_law_step
  refine q_asg (d := row.pd) (ev_ixL (rd_lst (ev_var rfl)) (ev_var rfl) (rows_at hat)) rfl ?_
  have work : ∀ (y : Str) (hy : row.items[0]? = some (.str y)) (n1 : y ≠ "jump") (n2 : y ≠ "zero") (hd : (done e row).map (fun e' => ((i : Int) + 1, e', tells e row)) = some (p, e', ts)),
      Sx K (tSeq (tIfS (tTest (tOp rEq (tOp (rIxT K) (tVar 3) (tC (.int 0))) (tC (.str "jump")))) (tRet (tTup (tCons (tOp (rIxT K) (tVar 3) (tC (.int 1))) (tCons (tVar 2) (tCons (tLst (tNil)) (tNil)))))) (tNext)) (tSeq (tIfS (tTest (tOp rEq (tOp (rIxT K) (tVar 3) (tC (.int 0))) (tC (.str "zero")))) (tSeq (tIfS (tTest (tOp rEq (tDGet (tVar 2) (tOp (rIxT K) (tVar 3) (tC (.int 1)))) (tC (.int 0)))) (tRet (tTup (tCons (tOp (rIxT K) (tVar 3) (tC (.int 2))) (tCons (tVar 2) (tCons (tLst (tNil)) (tNil)))))) (tNext)) (tRet (tTup (tCons (tOp rAddI (tVar 1) (tC (.int 1))) (tCons (tVar 2) (tCons (tLst (tNil)) (tNil))))))) (tNext)) (tRet (tTup (tCons (tOp rAddI (tVar 1) (tC (.int 1))) (tCons (tCall (sp_law_done K) [] E0 (tCons (tVar 3) (tCons (tVar 2) (tNil)))) (tCons (tCall (sp_law_told K) [] E0 (tCons (tVar 3) (tCons (tVar 2) (tNil)))) (tNil))))))))
        ((ae 4 [.lst (rows.map Row.pd), .int i, .dic (encD e)]).set 3 (.sh row.pd)) (Gives (.val (pdT p e' ts))) := fun y hy n1 n2 hd => by
    obtain ⟨e1, h1, h2⟩ := Option.map_eq_some_iff.mp hd
    have e0 : atI row.items 0 = some (.str y) := atI_nat (j := 0) hy
    cases h2
    refine q_if (x := false) (et_is (et_test (ev_eqS (ev_ixT (ev_var rfl) (ev_int 0) e0) (ev_str _))) (decide_eq_false n1)) (fun z => nomatch z) (fun _ => q_next ?_)
    refine q_if (x := false) (et_is (et_test (ev_eqS (ev_ixT (ev_var rfl) (ev_int 0) e0) (ev_str _))) (decide_eq_false n2)) (fun z => nomatch z) (fun _ => q_next ?_)
    refine s_ret (ev_tup (es_cons (e_add (ev_var rfl) (ev_int 1)) (es_cons (evd_of_evo (o := .dic (encD e')) (eo_call (P := P_law_done) (es_cons (ev_var rfl) (es_cons (ev_var rfl) es_nil)) ⟨row, e, _, hb, hr, hz, h1, rfl, rfl⟩)) (es_cons (evd_of_evo (o := .lst ((tells e row).map PD.int)) (eo_call (P := P_law_told) (es_cons (ev_var rfl) (es_cons (ev_var rfl) es_nil)) ⟨row, e, _, h1, rfl, rfl⟩)) es_nil))) (Nat.le_of_ble_eq_true rfl)) rfl
  cases row with
  | jump q =>
    cases hs
    refine q_if (x := true) (et_is (et_test (ev_eqS (ev_ixT (ev_var rfl) (ev_int 0) rfl) (ev_str _))) (by decide)) (fun _ => ?_) (fun z => nomatch z)
    exact q_ret (s_ret (ev_tup (es_cons (ev_ixT (ev_var rfl) (ev_int 1) rfl) (es_cons (ev_var rfl) (es_cons (evd_of_evo (o := .lst []) (eo_lst es_nil (Nat.zero_le _))) es_nil))) (Nat.le_of_ble_eq_true rfl)) rfl)
  | zero x q =>
    obtain ⟨v, hv, he⟩ := Option.map_eq_some_iff.mp hs
    cases he
    refine q_if (x := false) (et_is (et_test (ev_eqS (ev_ixT (ev_var rfl) (ev_int 0) rfl) (ev_str _))) (by decide)) (fun z => nomatch z) (fun _ => q_next ?_)
    refine q_if (x := true) (et_is (et_test (ev_eqS (ev_ixT (ev_var rfl) (ev_int 0) rfl) (ev_str _))) (by decide)) (fun _ => ?_) (fun z => nomatch z)
    refine q_assoc ?_
    refine q_if (x := decide (v = 0)) (et_test (ev_eqI (ev_dget (rd_dic (ev_var rfl)) (ev_ixT (ev_var rfl) (ev_int 1) rfl) (look_get hv)) (ev_int 0))) (fun hx => ?_) (fun hx => q_next ?_)
    · rw [if_pos (of_decide_eq_true hx)]
      exact q_ret (s_ret (ev_tup (es_cons (ev_ixT (ev_var rfl) (ev_int 2) rfl) (es_cons (ev_var rfl) (es_cons (evd_of_evo (o := .lst []) (eo_lst es_nil (Nat.zero_le _))) es_nil))) (Nat.le_of_ble_eq_true rfl)) rfl)
    · rw [if_neg (of_decide_eq_false hx)]
      exact q_ret (s_ret (ev_tup (es_cons (e_add (ev_var rfl) (ev_int 1)) (es_cons (ev_var rfl) (es_cons (evd_of_evo (o := .lst []) (eo_lst es_nil (Nat.zero_le _))) es_nil))) (Nat.le_of_ble_eq_true rfl)) rfl)
  | stop => cases hs
  | put x v => exact work "put" rfl (by decide) (by decide) hs
  | copy x s => exact work "copy" rfl (by decide) (by decide) hs
  | op w x a b => exact work w.word rfl (by cases w <;> decide) (by cases w <;> decide) hs
  | tell s => exact work "tell" rfl (by decide) (by decide) hs
end
section
variable {K : FK} {δ : AE} {ta tb : TE} {P : Post}
theorem zeroPart_len (e : NE) (d : PD) : (zeroPart e d).length ≤ e.length + 1 := by
  cases d <;> first | exact Nat.le_succ _ | exact eput_len e _ 0
theorem foldZero_len : ∀ (xs : List PD) (e : NE), (xs.foldl zeroPart e).length ≤ e.length + xs.length
  | [], e => Nat.le_refl _
  | x :: xs, e => by
    rw [List.foldl_cons, List.length_cons]
    have h1 := foldZero_len xs (zeroPart e x)
    have h2 := zeroPart_len e x
    omega
theorem items_len (r : Row) : (r.items.drop 1).length ≤ 3 := by cases r <;> exact Nat.le_of_ble_eq_true rfl
theorem allRow_len (e : NE) (r : Row) : (allRow e r).length ≤ e.length + 3 := by
  unfold allRow
  have h1 := foldZero_len (r.items.drop 1) e
  have h2 := items_len r
  omega
theorem allFrom_len : ∀ (rs : List Row) (e : NE), (rs.foldl allRow e).length ≤ e.length + 3 * rs.length
  | [], e => Nat.le_refl _
  | r :: rs, e => by
    rw [List.foldl_cons, List.length_cons]
    have h1 := allFrom_len rs (allRow e r)
    have h2 := allRow_len e r
    omega
theorem all_len (rs : List Row) : (allNames rs).length ≤ 3 * rs.length := by
  have h := allFrom_len rs []
  unfold allNames
  simpa using h
theorem tyOk_item {row : Row} {d : PD} (h : d ∈ row.items) : tyOk d = true := by
  cases row with
  | put x v => simp [Row.items] at h; rcases h with rfl | rfl | rfl <;> rfl
  | copy x s => cases s <;> (simp [Row.items, Src.pd] at h; rcases h with rfl | rfl | rfl <;> rfl)
  | op o x s t => cases s <;> cases t <;> (simp [Row.items, Src.pd] at h; rcases h with rfl | rfl | rfl | rfl <;> rfl)
  | tell s => cases s <;> (simp [Row.items, Src.pd] at h; rcases h with rfl | rfl <;> rfl)
  | jump p => simp [Row.items] at h; rcases h with rfl | rfl <;> rfl
  | zero s p => cases s <;> (simp [Row.items, Src.pd] at h; rcases h with rfl | rfl | rfl <;> rfl)
  | stop => simp [Row.items] at h; subst h; rfl
theorem isi_str (d : PD) (f : tyOk d = true) : ∃ b, kitX d "str" = some b ∧ (b = true → ∃ x, d = .str x) ∧ (b = false → ∀ e, zeroPart e d = e) := by
  cases d with
  | adr p => cases f
  | str x => exact ⟨true, (show kitB "str" "str" = some true by decide +kernel), fun _ => ⟨x, rfl⟩, fun z => nomatch z⟩
  | non => exact ⟨false, (show kitB "NoneType" "str" = some false by decide +kernel), (fun z => nomatch z), fun _ _ => rfl⟩
  | bl b => exact ⟨false, (show kitB "bool" "str" = some false by decide +kernel), (fun z => nomatch z), fun _ _ => rfl⟩
  | int i => exact ⟨false, (show kitB "int" "str" = some false by decide +kernel), (fun z => nomatch z), fun _ _ => rfl⟩
  | tup xs => exact ⟨false, (show kitB "tuple" "str" = some false by decide +kernel), (fun z => nomatch z), fun _ _ => rfl⟩
  | btup xs => exact ⟨false, (show kitB "tuple" "str" = some false by decide +kernel), (fun z => nomatch z), fun _ _ => rfl⟩
  | lst xs => exact ⟨false, (show kitB "list" "str" = some false by decide +kernel), (fun z => nomatch z), fun _ _ => rfl⟩
  | dic xs => exact ⟨false, (show kitB "dict" "str" = some false by decide +kernel), (fun z => nomatch z), fun _ _ => rfl⟩
  | scr xs => exact ⟨false, (show kitB "list" "str" = some false by decide +kernel), (fun z => nomatch z), fun _ _ => rfl⟩
theorem cut1 (ds : List PD) : cutD ds (some 1) none = ds.drop 1 := by
  unfold cutD
  have h1 : HT.sIx ds.length 0 (some 1) = min 1 ds.length := rfl
  have h2 : HT.sIx ds.length ds.length none = ds.length := rfl
  rw [h1, h2]
  cases ds with
  | nil => rfl
  | cons x xs =>
    have h3 : min 1 (x :: xs).length = 1 := by rw [List.length_cons]; omega
    rw [h3]
    show List.take (xs.length + 1 - 1) xs = xs
    rw [List.take_of_length_le (by omega)]
theorem take_snoc {α : Type} {xs : List α} {i : Nat} {x : α} (h : xs[i]? = some x) : xs.take (i + 1) = xs.take i ++ [x] := by
  rw [List.take_succ, h]; rfl
theorem sx_law_all (ds : List PD) (r : Rt) (h : P_law_all ds r) : Sx K (t_law_all K) (ae 4 ds) (Gives r) := by
  obtain ⟨rows, hl, rfl, rfl⟩ := h
  unfold t_law_all
  walk_at "asgo"
  refine q_forD (n := rows.length) (f := fun i => (rows.map Row.pd).getD i .non) [2, 3] (fun i => [.sh (.lst (rows.map Row.pd)), .ow (.dic (encD (allNames (rows.take i)))), .no, .no]) (ei_is (ei_list (ds := rows.map Row.pd) (ev_var rfl)) (by rw [List.length_map]) (fun _ _ => rfl)) rfl (fun i hi => ⟨_, _, eg_name rfl, ?_⟩) ?_
  · obtain ⟨row, hrow⟩ : ∃ row, rows[i]? = some row := ⟨_, List.getElem?_eq_getElem hi⟩
    have eg : (rows.map Row.pd).getD i .non = row.pd := by rw [List.getD_eq_getElem?_getD, List.getElem?_map, hrow]; rfl
    rw [eg]
    have hal : (allNames (rows.take i)).length ≤ 600 := by
      have h1 := all_len (rows.take i)
      rw [List.length_take] at h1
      omega
    have hit := items_len row
    refine s_forD (n := (row.items.drop 1).length) (f := fun j => (row.items.drop 1).getD j .non) [3] (fun j => [.sh (.lst (rows.map Row.pd)), .ow (.dic (encD (((row.items.drop 1).take j).foldl zeroPart (allNames (rows.take i))))), .sh row.pd, .no])
      (ei_is (ei_tup (ev_slT (ds := row.items) (ev_var rfl) (ep_some (ev_int 1)) ep_none)) (by rw [cut1]) (fun _ _ => by rw [cut1])) rfl (fun j hj => ⟨_, _, eg_name rfl, ?_⟩) ?_
    · obtain ⟨d, hd⟩ : ∃ d, (row.items.drop 1)[j]? = some d := ⟨_, List.getElem?_eq_getElem hj⟩
      have ed : (row.items.drop 1).getD j .non = d := by rw [List.getD_eq_getElem?_getD, hd]; rfl
      rw [ed]
      obtain ⟨b, hb, h1, h2⟩ := isi_str d (tyOk_item (List.mem_of_mem_drop (List.mem_of_getElem? hd)))
      have hnext : ((row.items.drop 1).take (j + 1)).foldl zeroPart (allNames (rows.take i)) = zeroPart (((row.items.drop 1).take j).foldl zeroPart (allNames (rows.take i))) d := by
        rw [take_snoc hd, List.foldl_append]; rfl
      have hlen := foldZero_len ((row.items.drop 1).take j) (allNames (rows.take i))
      rw [List.length_take] at hlen
      refine s_if (x := b) (et_B (ev_isi (d := d) (ev_var rfl) hb)) (fun hx => ?_) (fun hx => ?_)
      · obtain ⟨x, rfl⟩ := h1 hx
        refine s_putE (x := x) (v := 0) rfl (ev_int 0) (ev_var rfl) (by omega) ?_
        show fgt _ [3] = _
        rw [hnext]
        rfl
      · refine sx_next ?_
        show fgt _ [3] = _
        rw [hnext, h2 hx]
        rfl
    · show fgt _ [2, 3] = _
      have e1 : allNames (rows.take (i + 1)) = allRow (allNames (rows.take i)) row := by
        unfold allNames
        rw [take_snoc hrow, List.foldl_append]; rfl
      rw [e1, List.take_of_length_le (Nat.le_refl _)]
      rfl
  · show Sx K _ [.sh (.lst (rows.map Row.pd)), .ow (.dic (encD (allNames (rows.take rows.length)))), .no, .no] _
    rw [List.take_of_length_le (Nat.le_refl _)]
    exact s_retV rfl rfl
/-! equal lists -/
theorem canAll : ∀ {ds : List PD}, (∀ d ∈ ds, (pyOf d).canLay0 = true ∧ plain d = true ∧ (pyOf d).depth ≤ 5) → PyData.canLayAll0 (pyAll ds) = true ∧ plainAll ds = true ∧ PyData.depthAll (pyAll ds) ≤ 5
  | [], _ => ⟨rfl, rfl, Nat.zero_le _⟩
  | d :: ds, h => by
    obtain ⟨h1, h2, h3⟩ := h d List.mem_cons_self
    obtain ⟨h4, h5, h6⟩ := canAll fun x hx => h x (List.mem_cons_of_mem _ hx)
    refine ⟨?_, ?_, ?_⟩
    · show ((pyOf d).canLay0 && PyData.canLayAll0 (pyAll ds)) = true
      rw [h1, h4]; rfl
    · show (plain d && plainAll ds) = true
      rw [h2, h5]; rfl
    · show max (pyOf d).depth (PyData.depthAll (pyAll ds)) ≤ 5
      omega
theorem lst_shaped {ds : List PD} (h : ∀ d ∈ ds, (pyOf d).canLay0 = true ∧ plain d = true ∧ (pyOf d).depth ≤ 5) : plain (.lst ds) = true ∧ PySem.SeqAt.shaped (pyOf (.lst ds)) = true := by
  obtain ⟨h4, h5, h6⟩ := canAll h
  refine ⟨h5, ?_⟩
  show (PyData.canLayAll0 (pyAll ds) && decide (PyData.depthAll (pyAll ds) + 1 ≤ 64)) = true
  rw [h4, decide_eq_true (by omega)]
  rfl
theorem name_str {x : Str} (h : nameOk x) : PySem.PyData.strOk x = true := by
  unfold PySem.PyData.strOk
  rw [Array.all_eq_true_iff_forall_mem]
  intro c hc
  have := h.1 c (by simpa using hc)
  exact decide_eq_true (by omega)
theorem can_str {x : Str} (h : nameOk x) : (pyOf (.str x)).canLay0 = true := name_str h
theorem row_shaped {n : Nat} {r : Row} (h : RowOk n r) : (pyOf r.pd).canLay0 = true ∧ plain r.pd = true ∧ (pyOf r.pd).depth ≤ 5 := by
  have w0 : ∀ (z : Str) (hz : PySem.PyData.strOk z = true) (ds : List PD) (hd : ∀ d ∈ ds, (pyOf d).canLay0 = true ∧ plain d = true ∧ (pyOf d).depth = 0), (pyOf (.tup (.str z :: ds))).canLay0 = true ∧ plain (.tup (.str z :: ds)) = true ∧ (pyOf (.tup (.str z :: ds))).depth ≤ 5 := fun z hz ds hd => by
    have g : ∀ {ds : List PD}, (∀ d ∈ ds, (pyOf d).canLay0 = true ∧ plain d = true ∧ (pyOf d).depth = 0) → PyData.canLayAll0 (pyAll ds) = true ∧ plainAll ds = true ∧ PyData.depthAll (pyAll ds) = 0 := fun {ds} => by
      induction ds with
      | nil => intro _; exact ⟨rfl, rfl, rfl⟩
      | cons d ds ih =>
        intro h
        obtain ⟨h1, h2, h3⟩ := h d List.mem_cons_self
        obtain ⟨h4, h5, h6⟩ := ih fun x hx => h x (List.mem_cons_of_mem _ hx)
        refine ⟨?_, ?_, ?_⟩
        · show ((pyOf d).canLay0 && PyData.canLayAll0 (pyAll ds)) = true
          rw [h1, h4]; rfl
        · show (plain d && plainAll ds) = true
          rw [h2, h5]; rfl
        · show max (pyOf d).depth (PyData.depthAll (pyAll ds)) = 0
          omega
    obtain ⟨h4, h5, h6⟩ := g hd
    refine ⟨?_, ?_, ?_⟩
    · show (PySem.PyData.strOk z && PyData.canLayAll0 (pyAll ds)) = true
      rw [hz, h4]; rfl
    · show (true && plainAll ds) = true
      rw [h5]; rfl
    · show max 0 (PyData.depthAll (pyAll ds)) + 1 ≤ 5
      omega
  have ws : ∀ {x : Str}, nameOk x → (pyOf (.str x)).canLay0 = true ∧ plain (.str x) = true ∧ (pyOf (.str x)).depth = 0 := fun hx => ⟨can_str hx, rfl, rfl⟩
  have wi : ∀ {v : Int}, (pyOf (.int v)).canLay0 = true ∧ plain (.int v) = true ∧ (pyOf (.int v)).depth = 0 := ⟨rfl, rfl, rfl⟩
  have wsrc : ∀ {s : Src}, srcOk s → (pyOf s.pd).canLay0 = true ∧ plain s.pd = true ∧ (pyOf s.pd).depth = 0 := fun ⟨y, e, hy⟩ => by subst e; exact ws hy
  cases r with
  | put x v => exact w0 "put" (by decide +kernel) _ (by
      intro d hd
      rcases List.mem_cons.mp hd with e | hd
      · subst e; exact ws h.1
      · rcases List.mem_cons.mp hd with e | hd
        · subst e; exact wi
        · cases hd)
  | copy x s => exact w0 "copy" (by decide +kernel) _ (by
      intro d hd
      rcases List.mem_cons.mp hd with e | hd
      · subst e; exact ws h.1
      · rcases List.mem_cons.mp hd with e | hd
        · subst e; exact wsrc h.2
        · cases hd)
  | op w x a b => exact w0 w.word (by cases w <;> decide +kernel) _ (by
      intro d hd
      rcases List.mem_cons.mp hd with e | hd
      · subst e; exact ws h.1
      · rcases List.mem_cons.mp hd with e | hd
        · subst e; exact wsrc h.2.1
        · rcases List.mem_cons.mp hd with e | hd
          · subst e; exact wsrc h.2.2
          · cases hd)
  | tell s => exact w0 "tell" (by decide +kernel) _ (by
      intro d hd
      rcases List.mem_cons.mp hd with e | hd
      · subst e; exact wsrc h
      · cases hd)
  | jump p => exact w0 "jump" (by decide +kernel) _ (by
      intro d hd
      rcases List.mem_cons.mp hd with e | hd
      · subst e; exact wi
      · cases hd)
  | zero x p => exact w0 "zero" (by decide +kernel) _ (by
      intro d hd
      rcases List.mem_cons.mp hd with e | hd
      · subst e; exact ws h.1
      · rcases List.mem_cons.mp hd with e | hd
        · subst e; exact wi
        · cases hd)
  | stop => exact w0 "stop" (by decide +kernel) _ (fun d hd => by cases hd)
theorem prog_shaped {rows : List Row} (h : Prog rows) : plain (.lst (rows.map Row.pd)) = true ∧ PySem.SeqAt.shaped (pyOf (.lst (rows.map Row.pd))) = true := lst_shaped fun d hd => by
  obtain ⟨r, hr, e⟩ := List.mem_map.mp hd
  subst e
  exact row_shaped (h.2 r hr)
theorem ints_shaped (ts : List Int) : plain (.lst (ts.map PD.int)) = true ∧ PySem.SeqAt.shaped (pyOf (.lst (ts.map PD.int))) = true := lst_shaped fun d hd => by
  obtain ⟨r, hr, e⟩ := List.mem_map.mp hd
  subst e
  exact ⟨rfl, rfl, Nat.zero_le _⟩
theorem sx_law_alike (ds : List PD) (r : Rt) (h : P_law_alike ds r) : Sx K (t_law_alike K) (ae 2 ds) (Gives r) := by
  obtain ⟨rows, hp, rfl, rfl⟩ := h
  unfold t_law_alike
  refine s_ret (d := .bl (true && (true && true))) ?_ rfl
  refine ev_andV (ev_isi (d := .lst (rows.map Row.pd)) (ev_var rfl) (show kitB "list" "list" = some true by decide +kernel)) (fun _ => ev_andV (ev_is (ev_eqI (ev_lenL (rd_lst (ev_var rfl))) (ev_lenL (rd_lst (ev_var rfl)))) ?_) (fun _ => ?_))
  · rw [decide_eq_true rfl]
  · exact ev_eqD (d := .lst (rows.map Row.pd)) (ev_var rfl) (ev_var rfl) (prog_shaped hp).1 (prog_shaped hp).2
theorem ev_whole {d : PD} (ha : Evd K ta δ d) (f : tyOk d = true := by rfl) : Evd K (tCall (sp_law_whole K) [] E0 (tCons ta tNil)) δ (.bl (isWhole d)) := ev_call (es_cons ha es_nil) ⟨d, f, rfl, rfl⟩
theorem all_true {n : Nat} : ((List.replicate n true).all id) = true := by
  rw [List.all_eq_true]
  intro b hb
  exact List.eq_of_mem_replicate hb
theorem given_true (n : Nat) : given n (fun _ => true) (fun _ => PD.bl true) = (List.replicate n true).map PD.bl := by
  rw [given_all, List.map_const', List.length_range, List.map_replicate]
theorem sx_law_list (ds : List PD) (r : Rt) (h : P_law_list ds r) : Sx K (t_law_list K) (ae 3 ds) (Gives r) := by
  obtain ⟨ts, hl, rfl, rfl⟩ := h
  unfold t_law_list
  refine s_ret (d := .bl (true && (true && true))) ?_ rfl
  refine ev_andV (ev_isi (d := .lst (ts.map PD.int)) (ev_var rfl) (show kitB "list" "list" = some true by decide +kernel)) (fun _ => ev_andV (ev_eqD (d := .lst (ts.map PD.int)) (ev_var rfl) (ev_var rfl) (ints_shaped ts).1 (ints_shaped ts).2) (fun _ => ?_))
  refine ev_is (ev_all (bs := List.replicate ts.length true) (rd_of_evo ?_)) (by rw [all_true])
  rw [← given_true]
  refine eo_is (eo_lc (n := ts.length) (f := fun i => .int (ts.getD i 0)) (fun _ => true) (fun _ => .bl true) (ei_is (ei_list (ds := ts.map PD.int) (ev_var rfl)) (by rw [List.length_map]) (fun i hi => ?_)) (by omega) (fun i hi => ⟨_, _, eg_name rfl, fun j hj => hj, et_yes, fun _ => ?_⟩)) rfl
  · rw [List.length_map] at hi
    rw [List.getD_eq_getElem?_getD, List.getElem?_map, List.getElem?_eq_getElem hi, List.getD_eq_getElem?_getD, List.getElem?_eq_getElem hi]
    rfl
  · exact ev_whole (d := .int (ts.getD i 0)) (ev_var rfl)
end
section
variable {K : FK} {δ : AE} {ta tb : TE} {P : Post}
theorem repsK_enc {G : Hp} : ∀ {ks : List (Key × V)} {e : NE}, RepsK K G ks (encD e) → ks = encV e
  | _, [], h => by cases h; rfl
  | _, (s, v) :: r, h => by
    cases h with
    | cons h1 h2 =>
      rw [repsK_enc (e := r) h2, h1.flat rfl]
      rfl
theorem encV_reps {G : Hp} : ∀ (e : NE), RepsK K G (encV e) (encD e)
  | [] => .nil
  | (s, v) :: r => .cons (.int v) (encV_reps r)
theorem val_encV (s : Str) : ∀ e : NE, valV (encV e) (Sum.inr s : Key) = (get e s).map V.int
  | [] => rfl
  | (k, v) :: r => by
    show valV (((Sum.inr k : Key), V.int v) :: encV r) (.inr s) = _
    rw [Fw.valV_cons, get_cons, val_encV s r]
    by_cases h : k = s
    · subst h; rw [if_pos rfl, if_pos rfl]; rfl
    · rw [if_neg h, if_neg (fun z => h (Sum.inr.inj z))]
theorem ev_eqDA {e1 e2 : NE} (h : EqNE e1 e2) (ha : Evd K ta δ (.dic (encD e1))) (hb : Evd K tb δ (.dic (encD e2))) : Evd K (tOp rEqDA ta tb) δ (.bl true) := ev_op ha hb fun B G H σ x y R rx ry Q q => by
  cases rx with
  | @dic a ks _ h1 r1 =>
  cases ry with
  | @dic b ls _ h2 r2 =>
  have e1' := repsK_enc r1
  have e2' := repsK_enc r2
  subst e1'
  subst e2'
  refine ⟨a, b, encV e1, encV e2, rfl, rfl, R.gh _ _ h1, R.gh _ _ h2, by unfold encV; rw [List.length_map, List.length_map]; exact h.len, ?_, q _ G H R (Step.refl R.gh) (.bl true)⟩
  intro p hp
  obtain ⟨z, hz, ez⟩ := List.mem_map.mp hp
  subst ez
  refine ⟨?_, rfl⟩
  show valV (encV e2) (Sum.inr z.1 : Key) = some (V.int z.2)
  rw [val_encV, h.to z hz]
  rfl
theorem rep_true (i : Nat) : List.replicate i (V.bl true) ++ [V.bl true] = List.replicate (i + 1) (V.bl true) := by
  rw [List.replicate_succ']
theorem ev_allKeys {e1 e2 : NE} (h : EqNE e1 e2) (h0 : δ[0]? = some (.sh (.dic (encD e1)))) (h1 : δ[1]? = some (.sh (.dic (encD e2)))) (h2 : 2 < δ.length) (n2 : notC δ 2 = true := by rfl) :
    Evd K (tCB (rAll K) (tCons (tLockE (tLc (iKeys (tVar 1)) (gName 2) (tYes) (tCall (sp_law_whole K) [] E0 (tCons (tDGet (tVar 0) (tVar 2)) (tNil))) [2])) (tNil))) δ (.bl true) := fun B G H σ R Q q => by
  obtain ⟨va, sa, ra⟩ := R.get h0
  obtain ⟨vb, sb, rb⟩ := R.get h1
  have hlen : 2 < σ.length := R.lt (nc_of n2) h2
  cases ra with
  | @dic a ks _ ha r1 =>
  cases rb with
  | @dic b ls _ hb r2 =>
  have e1' := repsK_enc r1
  have e2' := repsK_enc r2
  subst e1'
  subst e2'
  have Ha := R.gh _ _ ha
  have Hb := R.gh _ _ hb
  refine ⟨b, .dK (encV e2), Hb, True.intro, fun od => ?_⟩
  refine ⟨_, sb, b, od, rfl, Or.inl ⟨encV e2, upd_same, fun D hD => ?_⟩⟩
  have hDb : D ≠ b := fun z => by subst z; rw [upd_same] at hD; cases hD
  have rdA : ∀ H', Sam (upd H b (.frz od (.dK (encV e2)))) H' → Rd H' a (.dK (encV e1)) := fun H' s => by
    by_cases z : a = b
    · have ee : encV e2 = encV e1 := by
        rw [z, Hb] at Ha
        exact HO.dK.inj (Option.some.inj Ha)
      exact Or.inr ⟨od, by rw [z, ← ee]; exact s.get _ _ upd_same⟩
    · exact Or.inl (s.get _ _ (by rw [upd_ne z]; exact Ha))
  let Gb : Hp := fun c => if c = b then none else G c
  have gbG : ∀ c, c ≠ b → Gb c = G c := fun c z => if_neg z
  have gb0 : Same Gb (upd (upd H b (.frz od (.dK (encV e2)))) D (.lst [])) := fun c o e => by
    have z : c ≠ b := fun z => by
      have e' : (if c = b then none else G c) = some o := e
      rw [if_pos z] at e'; cases e'
    rw [gbG c z] at e
    have h1 : upd H b (.frz od (.dK (encV e2))) c = some o := by rw [upd_ne z]; exact R.gh _ _ e
    rw [upd_ne (ne_of_none h1 hD)]; exact h1
  have gbD : ∀ o, Gb D ≠ some o := fun o e => by
    have z := gb0 _ _ e
    have e' : (if D = b then none else G D) = some o := e
    rw [if_neg hDb] at e'
    have h1 : upd H b (.frz od (.dK (encV e2))) D = some o := by rw [upd_ne hDb]; exact R.gh _ _ e'
    rw [hD] at h1; cases h1
  have hl2 : (encV e2).length ≤ 10000 := by unfold encV; rw [List.length_map, ← h.len]; exact h.small
  refine lc_it (walk_keys (d := b) (o := od) (kvs := encV e2)) (fun i H' => (Sam (upd H b (.frz od (.dK (encV e2)))) H' ∧ Same Gb H') ∧ H' D = some (.lst (List.replicate i (V.bl true)))) ⟨⟨(same_new hD).sam, gb0⟩, upd_same⟩ (fun i H' _ p => p.1.1.get _ _ upd_same) ?_ ?_
  · rintro i x H2 H3 hi ⟨⟨p1, p3⟩, p2⟩ ⟨rfl, k, v, hk, rfl⟩
    refine ⟨?_, ?_⟩
    · show ((σ.set 2 none).set 2 (some (kV k))).set 2 none = σ.set 2 none
      rw [List.set_set, List.set_set]
    show (tCall (sp_law_whole K) [] E0 (tCons (tDGet (tVar 0) (tVar 2)) (tNil))) ((σ.set 2 none).set 2 (some (kV k))) _ _
    have s0 : ((σ.set 2 none).set 2 (some (kV k)))[0]? = some (some (.ref a)) := by
      rw [List.getElem?_set_ne (by decide), List.getElem?_set_ne (by decide)]; exact sa
    have s2 : ((σ.set 2 none).set 2 (some (kV k)))[2]? = some (some (kV k)) := List.getElem?_set_self (by rw [List.length_set]; exact hlen)
    unfold encV at hk
    rw [List.getElem?_map] at hk
    obtain ⟨z, hz, ez⟩ := Option.map_eq_some_iff.mp hk
    have hmem := List.mem_of_getElem? hz
    obtain ⟨m, hm⟩ := Option.isSome_iff_exists.mp (h.back z hmem)
    have ek : k = (Sum.inr z.1 : Key) := (congrArg Prod.fst ez).symm
    subst ek
    refine ⟨_, s0, _, s2, a, .int m, rfl, Or.inl ⟨encV e1, .inr z.1, rdA _ p1, rfl, by rw [val_encV, hm]; rfl⟩, ?_⟩
    refine ⟨Gb, [.int m], .val (.bl true), p3, (fun t ht => ⟨(R.tb.flat (u := .dK (encV e2)) (fun _ z => nomatch z) Hb p1 t ht).1, by show (if t = b then none else G t) = none; rw [(R.tb t ht).2]; exact ite_self _⟩), .cons (.int m) .nil, ⟨.int m, rfl, rfl, rfl⟩, fun v' G' H' eh eg gh n r => ?_⟩
    have rv : v' = .bl true := Rep.flat (d := .bl true) r rfl
    subst rv
    refine ⟨_, eh.get _ _ p2, ?_, ⟨(p1.trans eh).mut hD, fun c o e => by rw [upd_ne (fun z : c = D => by subst z; exact gbD o e)]; exact gh _ _ (eg _ _ e)⟩, ?_⟩
    · rw [List.length_replicate]
      exact Nat.lt_of_lt_of_le (Nat.lt_of_lt_of_le hi hl2) (by decide)
    · rw [upd_same, rep_true]
  · rintro H2 ⟨⟨p1, p3⟩, p2⟩
    refine ⟨p1.get _ _ upd_same, D, List.replicate (encV e2).length true, rfl, Or.inl (Or.inl ?_), ?_⟩
    · rw [upd_ne hDb, p2, List.map_replicate]
    · rw [all_true]
      have st : Step G H G (upd H2 b (.dK (encV e2))) := by
        have eh : Sam H (upd H2 b (.dK (encV e2))) := Sam.unlock (u := .dK (encV e2)) (fun _ z => nomatch z) Hb p1
        refine ⟨Same.refl G, eh, fun c o hc => ?_, fun _ _ g => g⟩
        by_cases z : c = b
        · subst z; rw [upd_same, ← Hb]; exact R.gh _ _ hc
        · rw [upd_ne z]; exact p3 _ _ (by rw [gbG c z]; exact hc)
      exact q _ G _ (R.st st) st (.bl true)
theorem sx_law_numbers (ds : List PD) (r : Rt) (h : P_law_numbers ds r) : Sx K (t_law_numbers K) (ae 3 ds) (Gives r) := by
  obtain ⟨e1, e2, h, rfl, rfl⟩ := h
  unfold t_law_numbers
  refine q_if (x := (!true || !decide (((encD e1).length : Int) = (encD e2).length))) (et_or (et_not (et_B (ev_isi (d := .dic (encD e1)) (ev_var rfl) (show kitB "dict" "dict" = some true by decide +kernel)))) (fun _ => et_test (ev_neI (ev_lenD (rd_dic (ev_var rfl))) (ev_lenD (rd_dic (ev_var rfl)))))) (fun hx => ?_) (fun _ => q_next ?_)
  · rw [enc_len, enc_len, h.len, decide_eq_true rfl] at hx
    cases hx
  · refine s_ret (d := .bl (true && true)) (ev_andV (ev_eqDA h (ev_var rfl) (ev_var rfl)) (fun _ => ev_allKeys h rfl rfl ?_)) rfl
    exact Nat.lt_of_lt_of_le (by decide : 2 < 3) (Nat.le_of_eq rfl)
theorem sx_law_stepped (ds : List PD) (r : Rt) (h : P_law_stepped ds r) : Sx K (t_law_stepped K) (ae 2 ds) (Gives r) := by
  obtain ⟨p, e1, e2, ts, h, hl, rfl, rfl⟩ := h
  unfold t_law_stepped
  have i0 : ∀ e : NE, atI [PD.int p, .dic (encD e), .lst (ts.map PD.int)] 0 = some (.int p) := fun e => rfl
  have i1 : ∀ e : NE, atI [PD.int p, .dic (encD e), .lst (ts.map PD.int)] 1 = some (.dic (encD e)) := fun e => rfl
  have i2 : ∀ e : NE, atI [PD.int p, .dic (encD e), .lst (ts.map PD.int)] 2 = some (.lst (ts.map PD.int)) := fun e => rfl
  refine q_if (x := (!true || (!decide ((3 : Int) = 3) || (!true || !decide (p = p))))) (et_or (et_not (et_B (ev_isi (d := pdT p e1 ts) (ev_var rfl) (show kitB "tuple" "tuple" = some true by decide +kernel)))) (fun _ => et_or (et_test (ev_neI (ev_lenT (ds := [PD.int p, .dic (encD e1), .lst (ts.map PD.int)]) (ev_var rfl)) (ev_int 3))) (fun _ => et_or (et_not (et_B (ev_whole (d := .int p) (ev_ixT (ev_var rfl) (ev_int 0) (i0 e1))))) (fun _ => et_test (ev_neI (ev_ixT (ev_var rfl) (ev_int 0) (i0 e1)) (ev_ixT (ev_var rfl) (ev_int 0) (i0 e2))))))) (fun hx => ?_) (fun _ => q_next ?_)
  · rw [decide_eq_true rfl, decide_eq_true rfl] at hx
    cases hx
  · refine s_ret (d := .bl (true && true)) (ev_andV (ev_call (P := P_law_numbers) (es_cons (ev_ixT (ev_var rfl) (ev_int 1) (i1 e1)) (es_cons (ev_ixT (ev_var rfl) (ev_int 1) (i1 e2)) es_nil)) ⟨e1, e2, h, rfl, rfl⟩) (fun _ => ev_call (P := P_law_list) (es_cons (ev_ixT (ev_var rfl) (ev_int 2) (i2 e1)) (es_cons (ev_ixT (ev_var rfl) (ev_int 2) (i2 e2)) es_nil)) ⟨ts, hl, rfl, rfl⟩)) rfl
end
section
variable {K : FK} {δ : AE} {ta tb : TE} {P : Post}
theorem sx_outcome (ds : List PD) (r : Rt) (h : P_outcome ds r) : Sx K (t_outcome K) (ae 3 ds) (Gives r) := by
  obtain ⟨w, a, b, ha, hb, rfl, rfl⟩ := h
  unfold t_outcome
  have t0 : ∀ {z : Str}, Evt K (tTest (tOp rEq (tVar 0) (tC (.str z)))) (ae 3 [.str (Op.word w), .int a, .int b]) (decide (w.word = z)) := et_test (ev_eqS (ev_var rfl) (ev_str _))
  cases w with
  | add =>
    refine q_if (x := true) (et_is t0 (by decide)) (fun _ => ?_) (fun z => nomatch z)
    exact q_ret (s_ret (e_mod (e_add (ev_var rfl) (ev_var rfl)) (ev_int _) (by decide)) rfl)
  | minus =>
    refine q_if (x := false) (et_is t0 (by decide)) (fun z => nomatch z) (fun _ => q_next ?_)
    refine q_if (x := true) (et_is t0 (by decide)) (fun _ => ?_) (fun z => nomatch z)
    exact q_ret (s_ret (e_mod (e_sub (ev_var rfl) (ev_var rfl)) (ev_int _) (by decide)) rfl)
  | times =>
    refine q_if (x := false) (et_is t0 (by decide)) (fun z => nomatch z) (fun _ => q_next ?_)
    refine q_if (x := false) (et_is t0 (by decide)) (fun z => nomatch z) (fun _ => q_next ?_)
    refine q_if (x := true) (et_is t0 (by decide)) (fun _ => ?_) (fun z => nomatch z)
    exact q_ret (s_ret (e_mod (e_mul (ev_var rfl) (ev_var rfl) (mul_small ha)) (ev_int _) (by decide)) rfl)
  | less =>
    refine q_if (x := false) (et_is t0 (by decide)) (fun z => nomatch z) (fun _ => q_next ?_)
    refine q_if (x := false) (et_is t0 (by decide)) (fun z => nomatch z) (fun _ => q_next ?_)
    refine q_if (x := false) (et_is t0 (by decide)) (fun z => nomatch z) (fun _ => q_next ?_)
    refine s_ret (d := .int (if a < b then 1 else 0)) ?_ rfl
    by_cases h : a < b
    · rw [if_pos h]
      exact ev_ifT (et_is (et_test (e_lt (ev_var rfl) (ev_var rfl))) (decide_eq_true h)) (ev_int _)
    · rw [if_neg h]
      exact ev_ifF (et_is (et_test (e_lt (ev_var rfl) (ev_var rfl))) (decide_eq_false h)) (ev_int _)
theorem sx_held (ds : List PD) (r : Rt) (h : P_held ds r) : Sx K (t_held K) (ae 2 ds) (Gives r) := by
  obtain ⟨e, s, v, hs, rfl, rfl⟩ := h
  unfold t_held
  refine s_ret (d := .int v) ?_ rfl
  cases s with
  | n x => exact ev_ifF (et_B (ev_isi (d := .str x) (n := "int") (x := false) (ev_var rfl) rfl)) (ev_dget (rd_dic (ev_var rfl)) (ev_var rfl) (look_get hs))
  | i u => cases hs; exact ev_ifT (et_B (ev_isi (d := .int v) (n := "int") (x := true) (ev_var rfl) rfl)) (ev_var rfl)
theorem ev_held {e : NE} {s : Src} {v : Int} (ha : Evd K ta δ s.pd) (hb : Evd K tb δ (.dic (encD e))) (h : sv e s = some v) : Evd K (tCall (sp_held K) [] E0 (tCons ta (tCons tb tNil))) δ (.int v) :=
  ev_call (P := P_held) (es_cons ha (es_cons hb es_nil)) ⟨e, s, v, h, rfl, rfl⟩
theorem sx_number_for (ds : List PD) (r : Rt) (h : P_number_for ds r) : Sx K (t_number_for K) (ae 2 ds) (Gives r) := by
  obtain ⟨row, e, x, v, hb, ho, hp, rfl, rfl⟩ := h
  unfold t_number_for
  cases row with
  | put y u =>
    cases hp
    refine q_if (x := true) (et_is (et_test (ev_eqS (ev_ixT (ev_var rfl) (ev_int 0) rfl) (ev_str _))) (by decide)) (fun _ => ?_) (fun z => nomatch z)
    exact q_ret (s_ret (ev_ixT (ev_var rfl) (ev_int 2) rfl) rfl)
  | copy y s =>
    obtain ⟨u, hu, he⟩ := Option.map_eq_some_iff.mp hp
    cases he
    refine q_if (x := false) (et_is (et_test (ev_eqS (ev_ixT (ev_var rfl) (ev_int 0) rfl) (ev_str _))) (by decide)) (fun z => nomatch z) (fun _ => q_next ?_)
    refine q_if (x := true) (et_is (et_test (ev_eqS (ev_ixT (ev_var rfl) (ev_int 0) rfl) (ev_str _))) (by decide)) (fun _ => ?_) (fun z => nomatch z)
    exact q_ret (s_ret (ev_held (ev_ixT (d := s.pd) (ev_var rfl) (ev_int 2) rfl) (ev_var rfl) hu) rfl)
  | op w y a b =>
    obtain ⟨i, hi, he⟩ := Option.bind_eq_some_iff.mp hp
    obtain ⟨j, hj, he⟩ := Option.map_eq_some_iff.mp he
    cases he
    refine q_if (x := false) (et_is (et_test (ev_eqS (ev_ixT (d := .str w.word) (ev_var rfl) (ev_int 0) rfl) (ev_str _))) (by cases w <;> decide)) (fun z => nomatch z) (fun _ => q_next ?_)
    refine q_if (x := false) (et_is (et_test (ev_eqS (ev_ixT (d := .str w.word) (ev_var rfl) (ev_int 0) rfl) (ev_str _))) (by cases w <;> decide)) (fun z => nomatch z) (fun _ => q_next ?_)
    exact s_ret (ev_call (P := P_outcome) (es_cons (ev_ixT (d := .str w.word) (ev_var rfl) (ev_int 0) rfl) (es_cons (ev_held (ev_ixT (d := a.pd) (ev_var rfl) (ev_int 2) rfl) (ev_var rfl) hi) (es_cons (ev_held (ev_ixT (d := b.pd) (ev_var rfl) (ev_int 3) rfl) (ev_var rfl) hj) es_nil))) ⟨w, i, j, sv_small hb ho.1 hi, sv_small hb ho.2 hj, rfl, rfl⟩) rfl
  | tell s => cases hp
  | jump p => cases hp
  | zero x p => cases hp
  | stop => cases hp
theorem sx_is_over (ds : List PD) (r : Rt) (h : P_is_over ds r) : Sx K (t_is_over K) (ae 2 ds) (Gives r) := by
  obtain ⟨rows, i, rfl, rfl⟩ := h
  unfold t_is_over
  refine s_ret ?_ rfl
  have hlen : Evd K (tOp rGeI (tVar 1) (tCB (rLenS K) (tCons (tVar 0) (tNil)))) (ae 2 [.lst (rows.map Row.pd), .int i]) (.bl (decide ((rows.length : Int) ≤ i))) := ev_is (e_ge (ev_var rfl) (ev_lenL (rd_lst (ev_var rfl)))) (by rw [List.length_map])
  cases hat : rows[i]? with
  | none =>
    have hi : rows.length ≤ i := List.getElem?_eq_none_iff.mp hat
    rw [decide_eq_true (by omega)] at hlen
    exact ev_orV (y := true) hlen (fun z => nomatch z)
  | some row =>
    have hi : i < rows.length := (List.getElem?_eq_some_iff.mp hat).1
    rw [decide_eq_false (by omega)] at hlen
    have g : ∀ (z : Str) (hz : row.items[0]? = some (.str z)), Evd K (tOp rEq (tOp (rIxT K) (tOp (rIxL K) (tVar 0) (tVar 1)) (tC (.int 0))) (tC (.str "stop"))) (ae 2 [.lst (rows.map Row.pd), .int i]) (.bl (decide (z = "stop"))) := fun z hz =>
      ev_eqS (ev_ixT (ds := row.items) (ev_ixL (d := row.pd) (rd_lst (ev_var rfl)) (ev_var rfl) (rows_at hat)) (ev_int 0) (atI_nat (j := 0) hz)) (ev_str _)
    cases row with
    | stop => exact ev_orV (y := true) hlen (fun _ => ev_is (g "stop" rfl) (congrArg PD.bl (by decide)))
    | put x v => exact ev_orV (y := false) hlen (fun _ => ev_is (g "put" rfl) (congrArg PD.bl (by decide)))
    | copy x s => exact ev_orV (y := false) hlen (fun _ => ev_is (g "copy" rfl) (congrArg PD.bl (by decide)))
    | op w x a b => exact ev_orV (y := false) hlen (fun _ => ev_is (g w.word rfl) (congrArg PD.bl (by cases w <;> decide)))
    | tell s => exact ev_orV (y := false) hlen (fun _ => ev_is (g "tell" rfl) (congrArg PD.bl (by decide)))
    | jump p => exact ev_orV (y := false) hlen (fun _ => ev_is (g "jump" rfl) (congrArg PD.bl (by decide)))
    | zero x p => exact ev_orV (y := false) hlen (fun _ => ev_is (g "zero" rfl) (congrArg PD.bl (by decide)))
theorem Has.put {i : Nat} {o : OD} (h : δ[i]? = some (.pn o)) : Has δ i o := Or.inr h
theorem oBd_of {row : Row} (c2 : ∀ w x s t, row = .op w x s t → ∃ y z, s = .n y ∧ t = .n z) : oBd row := by
  cases row with
  | op w x s t =>
    obtain ⟨y, z, rfl, rfl⟩ := c2 w x s t rfl
    exact ⟨True.intro, True.intro⟩
  | _ => exact True.intro
theorem sx_do_step (row : Row) (i : Int) (e e' : NE) (p : Int) (us ts : List Int) (hb : Bd e) (hz : e.length ≤ 10000) (hu : us.length ≤ 10000) (c1 : ∀ x s, row = .copy x s → ∃ y, s = .n y) (c2 : ∀ w x s t, row = .op w x s t → ∃ y z, s = .n y ∧ t = .n z) (c3 : ∀ s, row = .tell s → ∃ y, s = .n y)
    (hs : step row i e = some (p, e', ts)) : Sx K (t_do_step K) [.sh row.pd, .sh (.int i), .pn (.dic (encD e)), .pn (.lst (us.map PD.int))]
      { nx := fun _ => False, rt := fun r δ' => r = .val (.int p) ∧ δ' = [.sh row.pd, .sh (.int i), .pn (.dic (encD e')), .pn (.lst ((us ++ ts).map PD.int))], bk := fun _ => False, ct := fun _ => False } := by
  have work : ∀ (y : Str) (x : Str) (v : Int) (hy : row.items[0]? = some (.str y)) (hx : row.items[1]? = some (.str x)) (n1 : y ≠ "jump") (n2 : y ≠ "zero") (n3 : y ≠ "tell") (hp : putVal e row = some (x, v)) (he : e' = eput e x v) (hpp : p = i + 1) (ht : ts = []),
      Sx K (t_do_step K) [.sh row.pd, .sh (.int i), .pn (.dic (encD e)), .pn (.lst (us.map PD.int))]
      { nx := fun _ => False, rt := fun r δ' => r = .val (.int p) ∧ δ' = [.sh row.pd, .sh (.int i), .pn (.dic (encD e')), .pn (.lst ((us ++ ts).map PD.int))], bk := fun _ => False, ct := fun _ => False } := fun y x v hy hx n1 n2 n3 hp he hpp ht => by
    have e0 : atI row.items 0 = some (.str y) := atI_nat (j := 0) hy
    have e1 : atI row.items 1 = some (.str x) := atI_nat (j := 1) hx
    subst he hpp ht
    unfold t_do_step
    refine q_if (x := false) (et_is (et_test (ev_eqS (ev_ixT (ev_var rfl) (ev_int 0) e0) (ev_str "jump"))) (decide_eq_false n1)) (fun z => nomatch z) (fun _ => q_next ?_)
    refine q_if (x := false) (et_is (et_test (ev_eqS (ev_ixT (ev_var rfl) (ev_int 0) e0) (ev_str "zero"))) (decide_eq_false n2)) (fun z => nomatch z) (fun _ => q_next ?_)
    refine q_if (x := false) (et_is (et_test (ev_eqS (ev_ixT (ev_var rfl) (ev_int 0) e0) (ev_str "tell"))) (decide_eq_false n3)) (fun z => nomatch z) (fun _ => ?_)
    refine q_dput (i := 2) (kds := encD e) (dk := .str x) (d := .int v) (Or.inr rfl) (ev_borrow (ev_call (P := P_number_for) (es_cons (ev_var rfl) (es_cons (ev_var rfl) es_nil)) ⟨row, e, x, v, hb, oBd_of c2, hp, rfl, rfl⟩) rfl) (ev_ixT (ev_var rfl) (ev_int 1) e1) rfl (by rw [enc_len]; omega) ?_
    refine s_ret (e_add (ev_var rfl) (ev_int 1)) ⟨rfl, ?_⟩
    have e2 : put (encD e) (keyOf (.str x)) (.int v) = encD (eput e x v) := put_enc e x v
    show [Sl.sh row.pd, .sh (.int i), .pn (.dic (put (encD e) (keyOf (.str x)) (.int v))), .pn (.lst (us.map PD.int))] = _
    rw [e2, List.append_nil]
  cases row with
  | jump q =>
    cases hs
    unfold t_do_step
    refine q_if (x := true) (et_is (et_test (ev_eqS (ev_ixT (ev_var rfl) (ev_int 0) rfl) (ev_str _))) (by decide)) (fun _ => ?_) (fun z => nomatch z)
    exact q_ret (s_ret (ev_ixT (ev_var rfl) (ev_int 1) rfl) ⟨rfl, by rw [List.append_nil]⟩)
  | zero x q =>
    obtain ⟨v, hv, he⟩ := Option.map_eq_some_iff.mp hs
    cases he
    unfold t_do_step
    refine q_if (x := false) (et_is (et_test (ev_eqS (ev_ixT (ev_var rfl) (ev_int 0) rfl) (ev_str _))) (by decide)) (fun z => nomatch z) (fun _ => q_next ?_)
    refine q_if (x := true) (et_is (et_test (ev_eqS (ev_ixT (ev_var rfl) (ev_int 0) rfl) (ev_str _))) (by decide)) (fun _ => ?_) (fun z => nomatch z)
    refine q_ret (s_ret (d := .int (if v = 0 then q else i + 1)) ?_ ⟨rfl, by rw [List.append_nil]⟩)
    have ht : Evt K (tTest (tOp rEq (tDGet (tVar 2) (tOp (rIxT K) (tVar 0) (tC (.int 1)))) (tC (.int 0)))) [.sh (Row.zero x q).pd, .sh (.int i), .pn (.dic (encD e)), .pn (.lst (us.map PD.int))] (decide (v = 0)) := et_test (ev_eqI (ev_dget (rd_pn rfl) (ev_ixT (ev_var rfl) (ev_int 1) rfl) (look_get hv)) (ev_int 0))
    by_cases h : v = 0
    · rw [if_pos h]
      exact ev_ifT (et_is ht (decide_eq_true h)) (ev_ixT (ev_var rfl) (ev_int 2) rfl)
    · rw [if_neg h]
      exact ev_ifF (et_is ht (decide_eq_false h)) (e_add (ev_var rfl) (ev_int 1))
  | tell s =>
    obtain ⟨y, rfl⟩ := c3 s rfl
    obtain ⟨e1, h1, h2⟩ := Option.map_eq_some_iff.mp hs
    obtain ⟨v, hv, he⟩ := Option.map_eq_some_iff.mp h1
    cases h2
    subst he
    have et : tells e (.tell (.n y)) = [v] := by
      show (sv e (.n y)).toList = [v]
      rw [hv]; rfl
    rw [et]
    unfold t_do_step
    refine q_if (x := false) (et_is (et_test (ev_eqS (ev_ixT (ev_var rfl) (ev_int 0) rfl) (ev_str _))) (by decide)) (fun z => nomatch z) (fun _ => q_next ?_)
    refine q_if (x := false) (et_is (et_test (ev_eqS (ev_ixT (ev_var rfl) (ev_int 0) rfl) (ev_str _))) (by decide)) (fun z => nomatch z) (fun _ => q_next ?_)
    refine q_if (x := true) (et_is (et_test (ev_eqS (ev_ixT (ev_var rfl) (ev_int 0) rfl) (ev_str _))) (by decide)) (fun _ => ?_) (fun z => nomatch z)
    refine q_app (i := 3) (Or.inr rfl) (ev_dget (rd_pn rfl) (ev_ixT (d := .str y) (ev_var rfl) (ev_int 1) rfl) (look_get hv)) (by rw [List.length_map]; omega) ?_
    refine s_ret (e_add (ev_var rfl) (ev_int 1)) ⟨rfl, ?_⟩
    rw [List.map_append]
    rfl
  | stop => cases hs
  | put x v =>
    cases hs
    exact work "put" x v rfl rfl (by decide) (by decide) (by decide) rfl rfl rfl rfl
  | copy x s =>
    obtain ⟨y, rfl⟩ := c1 x s rfl
    obtain ⟨e1, h1, h2⟩ := Option.map_eq_some_iff.mp hs
    obtain ⟨v, hv, he⟩ := Option.map_eq_some_iff.mp h1
    cases h2
    subst he
    refine work "copy" x v rfl rfl (by decide) (by decide) (by decide) ?_ rfl rfl rfl
    show (get e y).map _ = _
    have hv' : get e y = some v := hv
    rw [hv']; rfl
  | op w x a b =>
    obtain ⟨ya, yb, rfl, rfl⟩ := c2 w x a b rfl
    obtain ⟨e1, h1, h2⟩ := Option.map_eq_some_iff.mp hs
    obtain ⟨u, hu, he⟩ := Option.bind_eq_some_iff.mp h1
    obtain ⟨v, hv, he⟩ := Option.map_eq_some_iff.mp he
    cases h2
    subst he
    refine work w.word x (w.val u v) rfl rfl (by cases w <;> decide) (by cases w <;> decide) (by cases w <;> decide) ?_ rfl rfl rfl
    have hu' : get e ya = some u := hu
    have hv' : get e yb = some v := hv
    show (get e ya).bind _ = _
    rw [hu']
    show (get e yb).map _ = _
    rw [hv']; rfl
end
section
variable {K : FK} {δ : AE} {ta tb : TE} {P : Post}
theorem named1 {row : Row} (h : Named row) : ∀ x s, row = .copy x s → ∃ y, s = .n y := fun x s e => by
  subst e
  cases s with
  | n y => exact ⟨y, rfl⟩
  | i v => exact h.elim
theorem named2 {row : Row} (h : Named row) : ∀ w x s t, row = .op w x s t → ∃ y z, s = .n y ∧ t = .n z := fun w x s t e => by
  subst e
  cases s with
  | i v => exact h.1.elim
  | n y =>
    cases t with
    | i v => exact h.2.elim
    | n z => exact ⟨y, z, rfl, rfl⟩
theorem named3 {row : Row} (h : Named row) : ∀ s, row = .tell s → ∃ y, s = .n y := fun s e => by
  subst e
  cases s with
  | n y => exact ⟨y, rfl⟩
  | i v => exact h.elim
theorem ints_reps {G : Hp} : ∀ ts : List Int, Reps K G (ts.map V.int) (ts.map PD.int)
  | [] => .nil
  | t :: ts => .cons (.int t) (ints_reps ts)
theorem reps_ints {G : Hp} : ∀ {vs : List V} {ts : List Int}, Reps K G vs (ts.map PD.int) → vs = ts.map V.int
  | _, [], h => by cases h; rfl
  | _, t :: ts, h => by
    cases h with
    | cons h1 h2 => rw [reps_ints (ts := ts) h2, h1.flat rfl]; rfl
theorem rd_do_step (vs : List V) (H : Hp) (Q : VK) (E : XK) (h : sp_do_step K vs H Q E) : t_do_step K { nx := fun _ H' => Q .non H', rt := Q } (L2.start ["row", "place", "names", "told"] vs) H := by
  obtain ⟨G, v, a, b, row, i, e, e', p, us, ts, rfl, hG, hT, hv, hb, hz, hu, Ha, Hb, Ga, Gb, ne, hn, hs, q⟩ := h
  have R : RepS K ⟨G, H, [(2, a), (3, b)]⟩ G H (L2.start ["row", "place", "names", "told"] [v, .int i, .ref a, .ref b]) [.sh row.pd, .sh (.int i), .pn (.dic (encD e)), .pn (.lst (us.map PD.int))] := by
    refine ⟨Nat.le_refl _, hG, fun c o _ _ h => h, fun c h => h, Same.refl G, fun c _ g => g, fun k s e2 => ?_, fun k l q h1 h2 => ?_, hT, fun _ h => h⟩
    · match k with
      | 0 => cases e2; exact ⟨v, rfl, hv⟩
      | 1 => cases e2; exact ⟨_, rfl, .int i⟩
      | 2 => cases e2; exact ⟨a, rfl, Ga, by simp, encV e, Ha, encV_reps e⟩
      | 3 => cases e2; exact ⟨b, rfl, Gb, by simp, us.map V.int, Hb, ints_reps us⟩
      | n + 4 => cases e2
    · have two : ∀ k q, Holds (L2.start ["row", "place", "names", "told"] [v, .int i, .ref a, .ref b]) [.sh row.pd, .sh (.int i), .pn (.dic (encD e)), .pn (.lst (us.map PD.int))] k q → (k = 2 ∧ q = a) ∨ (k = 3 ∧ q = b) := fun k q h => by
        rcases h with ⟨e1, o, z⟩ | ⟨w, c, z⟩
        · match k with
          | 0 => rcases z with z | z <;> cases z
          | 1 => rcases z with z | z <;> cases z
          | 2 => cases e1; exact Or.inl ⟨rfl, rfl⟩
          | 3 => cases e1; exact Or.inr ⟨rfl, rfl⟩
          | n + 4 => rcases z with z | z <;> cases z
        · match k with
          | 0 => cases z
          | 1 => cases z
          | 2 => cases z
          | 3 => cases z
          | n + 4 => cases z
      rcases two k q h1 with ⟨k1, q1⟩ | ⟨k1, q1⟩ <;> rcases two l q h2 with ⟨k2, q2⟩ | ⟨k2, q2⟩
      · exact k1.trans k2.symm
      · exact absurd (q1.symm.trans q2) ne
      · exact absurd (q2.symm.trans q1) ne
      · exact k1.trans k2.symm
  refine sx_do_step row i e e' p us ts hb hz hu (named1 hn) (named2 hn) (named3 hn) hs _ G H _ { nx := fun _ H' => Q .non H', rt := Q } R (fun _ _ _ _ z => z.elim) (fun v' σ' G' H' δ' r hr R' _ ok => ?_) (fun _ _ _ _ z => z.elim) (fun _ _ _ _ z => z.elim)
  obtain ⟨e1, e2⟩ := hr
  subst e1 e2
  have ev : v' = .int p := Rep.flat (d := .int p) ok rfl
  subst ev
  obtain ⟨p1, _, _, m1, vs1, h1, r1⟩ := R'.getP (i := 2) (o := .dic (encD e')) rfl
  obtain ⟨p2, _, _, m2, vs2, h2, r2⟩ := R'.getP (i := 3) (o := .lst ((us ++ ts).map PD.int)) rfl
  have n1 : p1 = a := by
    rcases List.mem_cons.mp m1 with z | z
    · exact congrArg Prod.snd z
    · rcases List.mem_cons.mp z with z | z
      · exact absurd (show (2 : Nat) = 3 from congrArg Prod.fst z) (by decide)
      · cases z
  have n2 : p2 = b := by
    rcases List.mem_cons.mp m2 with z | z
    · exact absurd (show (3 : Nat) = 2 from congrArg Prod.fst z) (by decide)
    · rcases List.mem_cons.mp z with z | z
      · exact congrArg Prod.snd z
      · cases z
  subst n1 n2
  rw [repsK_enc r1] at h1
  rw [reps_ints r2] at h2
  refine q H' ⟨fun c o cn n hc => R'.h0 c o (fun k hm => ?_) n hc, R'.tb0, R'.h1⟩ (R'.g0.trans R'.gh) h1 h2
  rcases List.mem_cons.mp hm with z | z
  · exact cn (Or.inl (congrArg Prod.snd z))
  · rcases List.mem_cons.mp z with z | z
    · exact cn (Or.inr (congrArg Prod.snd z))
    · cases z
theorem len_do_step (vs : List V) (H : Hp) (Q : VK) (E : XK) (h : sp_do_step K vs H Q E) : vs.length = 4 := by
  obtain ⟨G, v, a, b, row, i, e, e', p, us, ts, rfl, _⟩ := h
  rfl
/-- x = do_step(row, place, names, told), names and told one's own -/
theorem q_doStep {i j k : Nat} {row : Row} {n p : Int} {e e' : NE} {us ts : List Int} {tz : TS} (h1 : Evd K ta δ row.pd) (h2 : Evd K tb δ (.int n)) (hi : δ[i]? = some (.ow (.dic (encD e)))) (hj : δ[j]? = some (.ow (.lst (us.map PD.int)))) (ne : i ≠ j)
    (hb : Bd e) (hz : e.length ≤ 10000) (hu : us.length ≤ 10000) (hn : Named row) (hs : step row n e = some (p, e', ts)) (np : notPn ((δ.set i (.ow (.dic (encD e')))).set j (.ow (.lst ((us ++ ts).map PD.int)))) k = true)
    (kk : Sx K tz (((δ.set i (.ow (.dic (encD e')))).set j (.ow (.lst ((us ++ ts).map PD.int)))).set k (.sh (.int p))) P) :
    Sx K (tSeq (tAsg (tCall (sp_do_step K) [] E0 (tCons ta (tCons tb (tCons (tVar i) (tCons (tVar j) tNil))))) (gName k)) tz) δ P := fun B G H σ D R hnx hr hbk hc =>
  h1 B G H σ R _ fun v G1 H1 R1 s1 r1 => h2 B G1 H1 σ R1 _ fun w G2 H2 R2 s2 r2 => by
    rw [r2.flat rfl]
    obtain ⟨a, ea, ga, ba, vs1, ha, ra⟩ := R2.getO hi
    obtain ⟨b, eb, gb, bb, vs2, hb2, rb⟩ := R2.getO hj
    have nab : a ≠ b := fun z => by
      subst z
      exact ne (R2.dj i j a (Holds.ow ea hi) (Holds.ow eb hj))
    rw [repsK_enc ra] at ha
    rw [reps_ints rb] at hb2
    refine ⟨_, ea, _, eb, ?_⟩
    refine ⟨G2, v, a, b, row, n, e, e', p, us, ts, rfl, R2.gh, R2.tb, r1.mono s2.eg, hb, hz, hu, ha, hb2, ga, gb, nab, hn, hs, fun H' hk hg h3 h4 => ?_⟩
    have R3 := R2.two hi hj ne ea eb (o1' := .dic (encD e')) (o2' := .lst ((us ++ ts).map PD.int)) hk hg ⟨_, h3, encV_reps e'⟩ ⟨_, h4, ints_reps _⟩
    exact kk.after (R3.setSh k (v := .int p) (.int p) (np_of np)) (s1.eg.trans s2.eg) hnx hr hbk hc
theorem sx_stepped (ds : List PD) (r : Rt) (h : P_stepped ds r) : Sx K (t_stepped K) (ae 6 ds) (Gives r) := by
  obtain ⟨rows, i, row, e, e', p, ts, hb, hz, hat, hn, hs, rfl, rfl⟩ := h
  unfold t_stepped
  have hrow : (match rows[i]? with | none => true | some .stop => true | _ => false) = false := by
    rw [hat]
    cases row <;> first | rfl | cases hs
  walk_at "asgo"
  refine q_asgO (o := .lst (([] : List Int).map PD.int)) (eo_lst es_nil (Nat.zero_le _)) ?_
  refine q_if (x := false) (et_is (et_B (ev_call (P := P_is_over) (es_cons (ev_var rfl) (es_cons (ev_var rfl) es_nil)) ⟨rows, i, rfl, rfl⟩)) hrow) (fun z => nomatch z) (fun _ => q_next ?_)
  refine q_doStep (i := 3) (j := 4) (row := row) (us := []) (ev_ixL (rd_lst (ev_var rfl)) (ev_var rfl) (rows_at hat)) (ev_var rfl) rfl rfl (by decide) hb hz (Nat.zero_le _) hn hs rfl ?_
  exact s_retT (ecs_val (ev_var rfl) (ecs_own rfl (ecs_own rfl ecs_nil (by decide)) (by decide))) (Nat.le_of_ble_eq_true rfl) rfl
end
/-! ### the names that are drawn -/
theorem strRep_cps (z : Str) (k : Int) : (strRep z k).cps.toList = (List.replicate k.toNat z.cps.toList).flatten := rfl
theorem app_cps (x y : Str) : (x ++ y).cps.toList = x.cps.toList ++ y.cps.toList := by
  show (x.cps ++ y.cps).toList = _
  rw [Array.toList_append]
theorem letter_ok {i : Int} (h : 0 ≤ i ∧ i < 26) : ∀ c ∈ (letter i).cps.toList, 97 ≤ c ∧ c ≤ 122 := by
  intro c hc
  have e : c = 97 + i.toNat := by
    have h2 : (letter i).cps.toList = [97 + i.toNat] := rfl
    rw [h2] at hc
    exact List.mem_singleton.mp hc
  omega
theorem rep_ok {i k : Int} (h : 0 ≤ i ∧ i < 26) : ∀ c ∈ (strRep (letter i) k).cps.toList, 97 ≤ c ∧ c ≤ 122 := by
  intro c hc
  rw [strRep_cps] at hc
  obtain ⟨l, hl, hc⟩ := List.mem_flatten.mp hc
  rw [List.eq_of_mem_replicate hl] at hc
  exact letter_ok h c hc
theorem nameAt_ok (c : Int) {k : Nat} (hk : k < 6) : nameOk (nameAt c k) := by
  unfold nameAt
  by_cases h : c % 3 = 0
  · rw [if_pos h]
    refine ⟨rep_ok (by omega), ?_, ?_⟩
    · rw [strRep_len, letter_len]; omega
    · rw [strRep_len, letter_len]; omega
  · rw [if_neg h]
    have b1 : 0 ≤ c / 5 % (1 + c / 3 % 8) := Int.emod_nonneg _ (by omega)
    have b2 : c / 5 % (1 + c / 3 % 8) < 1 + c / 3 % 8 := Int.emod_lt_of_pos _ (by omega)
    refine ⟨?_, ?_, ?_⟩
    · intro x hx
      rw [app_cps, app_cps] at hx
      rcases List.mem_append.mp hx with hx | hx
      · rcases List.mem_append.mp hx with hx | hx
        · exact rep_ok (by omega) x hx
        · exact letter_ok (by omega) x hx
      · exact rep_ok (by omega) x hx
    · rw [app_len, app_len, strRep_len, strRep_len, letter_len, letter_len, letter_len]; omega
    · rw [app_len, app_len, strRep_len, strRep_len, letter_len, letter_len, letter_len]; omega
theorem names_ok (c : Int) : ∀ x ∈ names c, nameOk x := by
  intro x hx
  unfold names at hx
  obtain ⟨k, hk, e⟩ := List.mem_map.mp hx
  subst e
  exact nameAt_ok c (List.mem_range.mp hk)
theorem nm_ok {nms : List Str} {i : Int} (hl : nms.length = 6) (h : ∀ x ∈ nms, nameOk x) (hi : 0 ≤ i ∧ i < 6) : nameOk (nm nms i) := by
  unfold nm
  rw [List.getD_eq_getElem?_getD, List.getElem?_eq_getElem (by omega)]
  exact h _ (List.getElem_mem _)
/-! ### the program that is drawn -/
theorem RowOk.mono {n m : Nat} {r : Row} (h : RowOk n r) (hm : n ≤ m) : RowOk m r := by
  cases r with
  | jump p => exact ⟨h.1, by have := h.2; omega⟩
  | zero x p => exact ⟨h.1, h.2.1, by have := h.2.2; omega⟩
  | put x v => exact h
  | copy x s => exact h
  | op w x a b => exact h
  | tell s => exact h
  | stop => exact h
section
variable {nms : List Str} (hl : nms.length = 6) (hn : ∀ x ∈ nms, nameOk x)
include hl hn
theorem straight_ok (way c : Int) (n : Nat) : RowOk n (straight way c nms) := by
  have a1 : nameOk (nm nms (2 + c % 3)) := nm_ok hl hn (by omega)
  have a2 : srcOk (.n (nm nms (c / 3 % 5))) := ⟨_, rfl, nm_ok hl hn (by omega)⟩
  have a3 : srcOk (.n (nm nms (c / 15 % 5))) := ⟨_, rfl, nm_ok hl hn (by omega)⟩
  unfold straight
  split
  · exact ⟨a1, number_bd _⟩
  split
  · exact ⟨a1, a2⟩
  split
  · exact ⟨a1, a2, a3⟩
  split
  · exact ⟨a1, a2, a3⟩
  split
  · exact ⟨a1, a2, a3⟩
  split
  · exact ⟨a1, a2, a3⟩
  · exact a2
theorem bodyRow_ok (ns : List Int) (first size st : Int) (k n : Nat) (hk : (k : Int) < size) (h0 : 0 ≤ st) (h1 : st + size < n) : RowOk n (bodyRow ns first size nms st k) := by
  unfold bodyRow
  split
  · exact ⟨nm_ok hl hn (by omega), by omega, by omega⟩
  split
  · exact ⟨by omega, by omega⟩
  · exact straight_ok hl hn _ _ _
theorem wildRow_ok (ns : List Int) (first size : Int) (k n : Nat) (hk : (k : Int) < size) (h1 : size ≤ n) : RowOk n (wildRow ns first size nms k) := by
  have m : ∀ z : Int, 0 ≤ z % size ∧ z % size < size := fun z => ⟨Int.emod_nonneg _ (by omega), Int.emod_lt_of_pos _ (by omega)⟩
  unfold wildRow
  split
  · exact ⟨nm_ok hl hn (by omega), (m _).1, by have := (m (cell ns (first + 2 * k + 1) / 5)).2; omega⟩
  split
  · split
    · exact ⟨(m _).1, by have := (m (cell ns (first + 2 * k + 1) / 3)).2; omega⟩
    split
    · exact True.intro
    · exact ⟨by omega, by omega⟩
  · exact straight_ok hl hn _ _ _
theorem turn_ok (count : Int) (n : Nat) (h : 7 < n) : ∀ r ∈ turn count nms, RowOk n r := by
  intro r hr
  unfold turn at hr
  have b : ∀ i : Int, 0 ≤ i ∧ i < 6 → nameOk (nm nms i) := fun i hi => nm_ok hl hn hi
  split at hr
  · simp only [List.mem_cons, List.not_mem_nil, or_false] at hr
    rcases hr with e | e | e | e <;> subst e
    · exact ⟨b 3 (by decide), by omega, by omega⟩
    · exact ⟨b 2 (by decide), ⟨_, rfl, b 0 (by decide)⟩, ⟨_, rfl, b 3 (by decide)⟩⟩
    · exact ⟨b 2 (by decide), by decide, by omega⟩
    · exact ⟨b 4 (by decide), ⟨_, rfl, b 4 (by decide)⟩, ⟨_, rfl, b 1 (by decide)⟩⟩
  · cases hr
theorem inner_ok (ns : List Int) (size count : Int) (n : Nat) (hs : 0 ≤ size ∧ size ≤ 9) (h : 3 + (inner ns nms size count).length < n) : ∀ r ∈ inner ns nms size count, RowOk n r := by
  have b : ∀ i : Int, 0 ≤ i ∧ i < 6 → nameOk (nm nms i) := fun i hi => nm_ok hl hn hi
  intro r hr
  unfold inner at hr h
  by_cases h2 : count % 4 = 2
  · rw [if_pos h2] at hr h
    obtain ⟨k, hk, e⟩ := List.mem_map.mp hr
    subst e
    have hk2 := List.mem_range.mp hk
    refine ⟨b 4 (by decide), by omega, ?_⟩
    split at hk2 <;> omega
  · rw [if_neg h2] at hr h
    rw [List.length_append, body_len] at h
    rcases List.mem_append.mp hr with hr | hr
    · by_cases h1 : count % 4 = 1
      · have ht : (turn count nms).length = 4 := by unfold turn; rw [if_pos h1]; rfl
        exact turn_ok hl hn count n (by omega) r hr
      · have ht : turn count nms = [] := by unfold turn; rw [if_neg h1]
        rw [ht] at hr
        cases hr
    · unfold body at hr
      obtain ⟨k, hk, e⟩ := List.mem_map.mp hr
      subst e
      have hk2 := List.mem_range.mp hk
      exact bodyRow_ok hl hn ns 5 size _ k n (by omega) (by omega) (by omega)
theorem inner_len (ns : List Int) (size count : Int) (hs : 0 ≤ size ∧ size ≤ 9) : (inner ns nms size count).length ≤ 58 := by
  unfold inner
  by_cases h2 : count % 4 = 2
  · rw [if_pos h2, List.length_map, List.length_range]
    split <;> omega
  · rw [if_neg h2, List.length_append, body_len]
    have := turn_len count nms
    omega
theorem frame_ok (count way : Int) (tl : Nat) (inn : List Row) (hw : 0 ≤ way ∧ way < 4) (hi : inn.length ≤ 58) (h : ∀ n, 3 + inn.length < n → ∀ r ∈ inn, RowOk n r) : Prog (frame nms count way tl inn) := by
  have b : ∀ i : Int, 0 ≤ i ∧ i < 6 → nameOk (nm nms i) := fun i hi => nm_ok hl hn hi
  have s : ∀ i : Int, 0 ≤ i ∧ i < 6 → srcOk (.n (nm nms i)) := fun i hi => ⟨_, rfl, b i hi⟩
  have htake : (([Row.tell (.n (nm nms 2)), .tell (.n (nm nms 3)), .stop]).take (4 - way).toNat).length = min (4 - way).toNat 3 := by rw [List.length_take]; rfl
  have hlen : (frame nms count way tl inn).length = 6 + inn.length + (if 0 < way then 3 else 0) + min (4 - way).toNat 3 := by
    unfold frame
    rw [List.length_append, List.length_append, List.length_append, List.length_append, htake]
    by_cases hw2 : 0 < way
    · rw [if_pos hw2, if_pos hw2]
      simp only [List.length_cons, List.length_nil]
      omega
    · rw [if_neg hw2, if_neg hw2]
      simp only [List.length_cons, List.length_nil]
      omega
  refine ⟨by rw [hlen]; split <;> omega, ?_⟩
  rw [hlen]
  intro r hr
  unfold frame at hr
  rcases List.mem_append.mp hr with hr | hr
  · rcases List.mem_append.mp hr with hr | hr
    · rcases List.mem_append.mp hr with hr | hr
      · rcases List.mem_append.mp hr with hr | hr
        · simp only [List.mem_cons, List.not_mem_nil, or_false] at hr
          rcases hr with e | e | e <;> subst e
          · exact ⟨b 5 (by decide), by omega, by omega⟩
          · exact ⟨b 1 (by decide), by decide, by decide⟩
          · refine ⟨b 0 (by decide), ?_, ?_⟩ <;> split <;> omega
        · refine h _ ?_ r hr
          split <;> omega
      · simp only [List.mem_cons, List.not_mem_nil, or_false] at hr
        rcases hr with e | e | e <;> subst e
        · exact ⟨b 0 (by decide), s 0 (by decide), s 1 (by decide)⟩
        · refine ⟨b 0 (by decide), by omega, ?_⟩
          split <;> omega
        · refine ⟨by decide, ?_⟩
          split <;> omega
    · split at hr
      · rename_i hw2
        rw [if_pos hw2]
        simp only [List.mem_cons, List.not_mem_nil, or_false] at hr
        rcases hr with e | e | e <;> subst e
        · exact ⟨b 5 (by decide), s 5 (by decide), s 1 (by decide)⟩
        · exact ⟨b 5 (by decide), by omega, by omega⟩
        · exact ⟨by decide, by omega⟩
      · cases hr
  · have hr := List.mem_of_mem_take hr
    simp only [List.mem_cons, List.not_mem_nil, or_false] at hr
    rcases hr with e | e | e <;> subst e
    · exact s 2 (by decide)
    · exact s 3 (by decide)
    · exact True.intro
end
theorem prog_ok (ns : List Int) : Prog (program ns) := by
  have hl := names_len (cell ns 2)
  have hn := names_ok (cell ns 2)
  unfold program
  split
  · have hw : (wild ns 5 (cell ns 0 % 10) (names (cell ns 2))).length = (cell ns 0 % 10).toNat := by unfold wild; rw [List.length_map, List.length_range]
    refine ⟨by rw [hw]; omega, fun r hr => ?_⟩
    rw [hw]
    unfold wild at hr
    obtain ⟨k, hk, e⟩ := List.mem_map.mp hr
    subst e
    have hk2 := List.mem_range.mp hk
    exact wildRow_ok hl hn ns 5 _ k _ (by omega) (by omega)
  · exact frame_ok hl hn _ _ _ _ (by omega) (inner_len hl hn ns _ _ (by omega)) (fun n h => inner_ok hl hn ns _ _ n (by omega) h)
/-! ### names and what they hold: no name twice -/
def Nd (e : NE) : Prop := (e.map (·.1)).Nodup
theorem nd_nil : Nd [] := List.nodup_nil
theorem map_keys (s : Str) (v : Int) (e : NE) : (e.map fun p => if p.1 = s then (p.1, v) else p).map (·.1) = e.map (·.1) := by
  rw [List.map_map]
  apply List.map_congr_left
  intro p _
  show (if p.1 = s then (p.1, v) else p).1 = p.1
  split <;> rfl
theorem mem_get {e : NE} {s : Str} : s ∈ e.map (·.1) ↔ (get e s).isSome = true := by
  rw [← any_get, List.any_eq_true]
  constructor
  · intro h
    obtain ⟨p, hp, e⟩ := List.mem_map.mp h
    exact ⟨p, hp, decide_eq_true e⟩
  · rintro ⟨p, hp, e⟩
    exact List.mem_map.mpr ⟨p, hp, of_decide_eq_true e⟩
theorem nd_put {e : NE} (h : Nd e) (s : Str) (v : Int) : Nd (eput e s v) := by
  unfold eput Nd
  rw [any_get]
  by_cases hg : (get e s).isSome = true
  · rw [if_pos hg, map_keys]; exact h
  · rw [if_neg hg, List.map_append]
    refine List.nodup_append.mpr ⟨h, by simp, ?_⟩
    intro a ha b hb
    have eb : b = s := by simpa using hb
    subst eb
    intro eab
    subst eab
    exact hg (mem_get.mp ha)
theorem nd_get : ∀ {e : NE}, Nd e → ∀ p ∈ e, get e p.1 = some p.2
  | [], _, p, hp => by cases hp
  | (k, v) :: r, h, p, hp => by
    have h2 : k ∉ r.map (·.1) ∧ Nd r := List.nodup_cons.mp h
    rw [get_cons]
    rcases List.mem_cons.mp hp with e | hp
    · subst e; rw [if_pos rfl]
    · have ne : k ≠ p.1 := fun z => h2.1 (by rw [z]; exact List.mem_map.mpr ⟨p, hp, rfl⟩)
      rw [if_neg ne]
      exact nd_get h2.2 p hp
theorem eqNE_refl {e : NE} (h : Nd e) (hl : e.length ≤ 10000) : EqNE e e := ⟨rfl, hl, nd_get h, fun p hp => by rw [nd_get h p hp]; rfl⟩
theorem put_len_has {e : NE} {s : Str} {v : Int} (h : (get e s).isSome = true) : (eput e s v).length = e.length := by
  unfold eput
  rw [any_get, if_pos h, List.length_map]
theorem has_put {e : NE} {s t : Str} {v : Int} (h : (get e t).isSome = true) : (get (eput e s v) t).isSome = true := by
  rw [get_eput]
  split
  · rfl
  · exact h
theorem has_put_self {e : NE} {s : Str} {v : Int} : (get (eput e s v) s).isSome = true := by
  rw [get_eput, if_pos rfl]; rfl
theorem bd_put {e : NE} {s : Str} {v : Int} (h : Bd e) (hv : Small v) : Bd (eput e s v) := fun x w hw => by
  rw [get_eput] at hw
  split at hw
  · cases hw; exact hv
  · exact h x w hw
/-! ### steps keep all that -/
theorem val_small (w : Op) (i j : Int) : Small (w.val i j) := by
  cases w
  · exact ⟨by show _ ≤ (i + j) % 1000000; omega, by show (i + j) % 1000000 ≤ _; omega⟩
  · exact ⟨by show _ ≤ (i - j) % 1000000; omega, by show (i - j) % 1000000 ≤ _; omega⟩
  · exact ⟨by show _ ≤ (i * j) % 1000000; omega, by show (i * j) % 1000000 ≤ _; omega⟩
  · constructor
    · show _ ≤ if i < j then (1 : Int) else 0
      split <;> omega
    · show (if i < j then (1 : Int) else 0) ≤ _
      split <;> omega
theorem done_keeps {e e' : NE} {row : Row} (hb : Bd e) (hr : rBd row) (hd : Nd e) (h : done e row = some e') : Bd e' ∧ Nd e' ∧ e'.length ≤ e.length + 1 := by
  cases row with
  | put x v => cases h; exact ⟨bd_put hb hr, nd_put hd _ _, eput_len _ _ _⟩
  | copy x s =>
    obtain ⟨v, hv, he⟩ := Option.map_eq_some_iff.mp h
    subst he
    exact ⟨bd_put hb (sv_small hb hr hv), nd_put hd _ _, eput_len _ _ _⟩
  | op w x a b =>
    obtain ⟨u, hu, he⟩ := Option.bind_eq_some_iff.mp h
    obtain ⟨v, hv, he⟩ := Option.map_eq_some_iff.mp he
    subst he
    exact ⟨bd_put hb (val_small _ _ _), nd_put hd _ _, eput_len _ _ _⟩
  | tell s =>
    obtain ⟨v, hv, he⟩ := Option.map_eq_some_iff.mp h
    subst he
    exact ⟨hb, hd, Nat.le_succ _⟩
  | jump p => cases h
  | zero x p => cases h
  | stop => cases h
theorem step_keeps {e e' : NE} {row : Row} {i p : Int} {ts : List Int} (hb : Bd e) (hr : rBd row) (hd : Nd e) (h : step row i e = some (p, e', ts)) : Bd e' ∧ Nd e' ∧ e'.length ≤ e.length + 1 ∧ ts.length ≤ 1 := by
  have work : (done e row).map (fun e' => (i + 1, e', tells e row)) = some (p, e', ts) → Bd e' ∧ Nd e' ∧ e'.length ≤ e.length + 1 ∧ ts.length ≤ 1 := fun hs => by
    obtain ⟨e1, h1, h2⟩ := Option.map_eq_some_iff.mp hs
    cases h2
    obtain ⟨a, b, c⟩ := done_keeps hb hr hd h1
    refine ⟨a, b, c, ?_⟩
    cases row with
    | tell s =>
      show (sv e s).toList.length ≤ 1
      cases sv e s <;> simp
    | put x v => exact Nat.zero_le _
    | copy x s => exact Nat.zero_le _
    | op w x a b => exact Nat.zero_le _
    | jump p => exact Nat.zero_le _
    | zero x p => exact Nat.zero_le _
    | stop => exact Nat.zero_le _
  cases row with
  | jump q => cases h; exact ⟨hb, hd, Nat.le_succ _, Nat.zero_le _⟩
  | zero x q =>
    obtain ⟨v, hv, he⟩ := Option.map_eq_some_iff.mp h
    cases he
    exact ⟨hb, hd, Nat.le_succ _, Nat.zero_le _⟩
  | stop => cases h
  | put x v => exact work h
  | copy x s => exact work h
  | op w x a b => exact work h
  | tell s => exact work h
/-- the names in a row -/
def srcNames : Src → List Str
  | .n x => [x]
  | .i _ => []
def rNames : Row → List Str
  | .put x _ => [x]
  | .copy x s => x :: srcNames s
  | .op _ x a b => x :: (srcNames a ++ srcNames b)
  | .tell s => srcNames s
  | .jump _ => []
  | .zero x _ => [x]
  | .stop => []
def All (e : NE) (r : Row) : Prop := ∀ x ∈ rNames r, (get e x).isSome = true
theorem sv_some {e : NE} {s : Src} (h : ∀ x ∈ srcNames s, (get e x).isSome = true) : ∃ v, sv e s = some v := by
  cases s with
  | n x => exact Option.isSome_iff_exists.mp (h x List.mem_cons_self)
  | i v => exact ⟨v, rfl⟩
theorem step_some {e : NE} {row : Row} {i : Int} (h : All e row) (hs : row ≠ .stop) : ∃ p e' ts, step row i e = some (p, e', ts) := by
  have work : (∃ e', done e row = some e') → step row i e = (done e row).map (fun e' => (i + 1, e', tells e row)) → ∃ p e' ts, step row i e = some (p, e', ts) := fun ⟨e', he⟩ hw => ⟨_, _, _, by rw [hw, he]; rfl⟩
  cases row with
  | jump q => exact ⟨_, _, _, rfl⟩
  | zero x q =>
    obtain ⟨v, hv⟩ := Option.isSome_iff_exists.mp (h x List.mem_cons_self)
    exact ⟨_, _, _, by show (get e x).map _ = _; rw [hv]; rfl⟩
  | stop => exact absurd rfl hs
  | put x v => exact work ⟨_, rfl⟩ rfl
  | copy x s =>
    obtain ⟨v, hv⟩ := sv_some (e := e) (s := s) fun y hy => h y (List.mem_cons_of_mem _ hy)
    exact work ⟨_, by show (sv e s).map _ = _; rw [hv]; rfl⟩ rfl
  | op w x a b =>
    obtain ⟨u, hu⟩ := sv_some (e := e) (s := a) fun y hy => h y (List.mem_cons_of_mem _ (List.mem_append_left _ hy))
    obtain ⟨v, hv⟩ := sv_some (e := e) (s := b) fun y hy => h y (List.mem_cons_of_mem _ (List.mem_append_right _ hy))
    exact work ⟨_, by show (sv e a).bind _ = _; rw [hu]; show (sv e b).map _ = _; rw [hv]; rfl⟩ rfl
  | tell s =>
    obtain ⟨v, hv⟩ := sv_some (e := e) (s := s) fun y hy => h y hy
    exact work ⟨_, by show (sv e s).map _ = _; rw [hv]; rfl⟩ rfl
/-! ### all names -/
structure Zero (e : NE) : Prop where
  nd : Nd e
  z : ∀ x v, get e x = some v → v = 0
theorem zeroPart_keeps {e : NE} (h : Zero e) (d : PD) : Zero (zeroPart e d) ∧ (∀ x, (get e x).isSome = true → (get (zeroPart e d) x).isSome = true) := by
  cases d with
  | str s =>
    refine ⟨⟨nd_put h.nd _ _, fun x v hv => ?_⟩, fun x hx => has_put hx⟩
    have hv' : get (eput e s 0) x = some v := hv
    rw [get_eput] at hv'
    split at hv'
    · cases hv'; rfl
    · exact h.z x v hv'
  | non => exact ⟨h, fun _ h => h⟩
  | bl b => exact ⟨h, fun _ h => h⟩
  | int i => exact ⟨h, fun _ h => h⟩
  | tup xs => exact ⟨h, fun _ h => h⟩
  | btup xs => exact ⟨h, fun _ h => h⟩
  | lst xs => exact ⟨h, fun _ h => h⟩
  | dic xs => exact ⟨h, fun _ h => h⟩
  | scr xs => exact ⟨h, fun _ h => h⟩
  | adr xs => exact ⟨h, fun _ h => h⟩
theorem foldZero_keeps : ∀ (ds : List PD) {e : NE}, Zero e → Zero (ds.foldl zeroPart e) ∧ (∀ x, (get e x).isSome = true → (get (ds.foldl zeroPart e) x).isSome = true) ∧ ∀ x, PD.str x ∈ ds → (get (ds.foldl zeroPart e) x).isSome = true
  | [], e, h => ⟨h, fun _ h => h, fun x hx => by cases hx⟩
  | d :: ds, e, h => by
    obtain ⟨h1, h2⟩ := zeroPart_keeps h d
    obtain ⟨h3, h4, h5⟩ := foldZero_keeps ds h1
    refine ⟨h3, fun x hx => h4 x (h2 x hx), fun x hx => ?_⟩
    rcases List.mem_cons.mp hx with e1 | hx
    · subst e1
      exact h4 x (has_put_self (e := e) (s := x) (v := 0))
    · exact h5 x hx
theorem rNames_items (r : Row) : ∀ x ∈ rNames r, PD.str x ∈ r.items.drop 1 := by
  have src : ∀ {s : Src} {x : Str}, x ∈ srcNames s → PD.str x = s.pd := fun {s x} h => by
    cases s with
    | n y => rw [List.mem_singleton.mp h]; rfl
    | i v => cases h
  intro x hx
  cases r with
  | put y v => rw [List.mem_singleton.mp hx]; exact List.mem_cons_self
  | copy y s =>
    rcases List.mem_cons.mp hx with e | hx
    · subst e; exact List.mem_cons_self
    · rw [src hx]; exact List.mem_cons_of_mem _ List.mem_cons_self
  | op w y a b =>
    rcases List.mem_cons.mp hx with e | hx
    · subst e; exact List.mem_cons_self
    · rcases List.mem_append.mp hx with hx | hx
      · rw [src hx]; exact List.mem_cons_of_mem _ List.mem_cons_self
      · rw [src hx]; exact List.mem_cons_of_mem _ (List.mem_cons_of_mem _ List.mem_cons_self)
  | tell s => rw [src hx]; exact List.mem_cons_self
  | jump p => cases hx
  | zero y p => rw [List.mem_singleton.mp hx]; exact List.mem_cons_self
  | stop => cases hx
theorem allFrom_keeps : ∀ (rs : List Row) {e : NE}, Zero e → Zero (rs.foldl allRow e) ∧ (∀ x, (get e x).isSome = true → (get (rs.foldl allRow e) x).isSome = true) ∧ ∀ r ∈ rs, All (rs.foldl allRow e) r
  | [], e, h => ⟨h, fun _ h => h, fun r hr => by cases hr⟩
  | r :: rs, e, h => by
    obtain ⟨h1, h2, h3⟩ := foldZero_keeps (r.items.drop 1) h
    obtain ⟨h4, h5, h6⟩ := allFrom_keeps rs (e := allRow e r) h1
    refine ⟨h4, fun x hx => h5 x (h2 x hx), fun s hs => ?_⟩
    rcases List.mem_cons.mp hs with e1 | hs
    · subst e1
      exact fun x hx => h5 x (h3 x (rNames_items s x hx))
    · exact h6 s hs
theorem all_zero (rs : List Row) : Zero (allNames rs) := (allFrom_keeps rs ⟨nd_nil, fun x v h => by cases h⟩).1
theorem all_all (rs : List Row) : ∀ r ∈ rs, All (allNames rs) r := (allFrom_keeps rs ⟨nd_nil, fun x v h => by cases h⟩).2.2
/-! ### numbers for the names -/
def drawn (ns : List Int) : List Str → Int → NE → NE
  | [], _, e => e
  | x :: xs, k, e => drawn ns xs (k + 1) (eput e x (number (cell ns (2 + k))))
theorem drawn_keeps (ns : List Int) : ∀ (xs : List Str) (k : Int) (e : NE), (∀ x ∈ xs, (get e x).isSome = true) → Bd e → Nd e →
    Bd (drawn ns xs k e) ∧ Nd (drawn ns xs k e) ∧ (drawn ns xs k e).length = e.length ∧ ∀ x, (get e x).isSome = true → (get (drawn ns xs k e) x).isSome = true
  | [], k, e, _, hb, hd => ⟨hb, hd, rfl, fun _ h => h⟩
  | x :: xs, k, e, h, hb, hd => by
    have hn := number_bd (cell ns (2 + k))
    obtain ⟨h1, h2, h3, h4⟩ := drawn_keeps ns xs (k + 1) (eput e x (number (cell ns (2 + k)))) (fun y hy => has_put (h y (List.mem_cons_of_mem _ hy))) (bd_put hb ⟨by omega, by omega⟩) (nd_put hd _ _)
    refine ⟨h1, h2, ?_, fun y hy => h4 y (has_put hy)⟩
    show (drawn ns xs (k + 1) _).length = _
    rw [h3]
    exact put_len_has (h x List.mem_cons_self)
theorem drawn_snoc (ns : List Int) : ∀ (xs : List Str) (k : Int) (e : NE) (x : Str), drawn ns (xs ++ [x]) k e = eput (drawn ns xs k e) x (number (cell ns (2 + (k + xs.length))))
  | [], k, e, x => by
    show eput e x (number (cell ns (2 + k))) = eput e x (number (cell ns (2 + (k + ((0 : Nat) : Int)))))
    rw [show k + ((0 : Nat) : Int) = k by omega]
  | y :: xs, k, e, x => by
    show drawn ns (xs ++ [x]) (k + 1) _ = eput (drawn ns xs (k + 1) _) x _
    rw [drawn_snoc ns xs]
    rw [show k + 1 + (xs.length : Int) = k + ((y :: xs).length : Int) by rw [List.length_cons]; omega]
theorem rowOk_named {n : Nat} {r : Row} (h : RowOk n r) : Named r ∧ rBd r := by
  have s : ∀ {s : Src}, srcOk s → srcN s ∧ sBd s := fun ⟨y, e, _⟩ => by subst e; exact ⟨True.intro, True.intro⟩
  cases r with
  | put x v => exact ⟨True.intro, ⟨by have := h.2; omega, by have := h.2; omega⟩⟩
  | copy x t => exact ⟨(s h.2).1, (s h.2).2⟩
  | op w x a b => exact ⟨⟨(s h.2.1).1, (s h.2.2).1⟩, ⟨(s h.2.1).2, (s h.2.2).2⟩⟩
  | tell t => exact ⟨(s h).1, True.intro⟩
  | jump p => exact ⟨True.intro, True.intro⟩
  | zero x p => exact ⟨True.intro, True.intro⟩
  | stop => exact ⟨True.intro, True.intro⟩
section
variable {K : FK} {δ : AE} {ta tb : TE} {P : Post}
theorem seq_if_false {c : TT} {t tz : TS} {D : Ends} {σ : L2.St} {H : Hp} {C : Hp → Prop} (h : ∀ Q : Bool → Hp → Prop, (∀ H1, C H1 → Q false H1) → c σ H Q) (k : ∀ H1, C H1 → tz D σ H1) : tSeq (tIfS c t tNext) tz D σ H := h _ fun H1 hC => k H1 hC
/-- the answer is compared, then changed, and all stands as it stood -/
theorem q_changed {targs : TA} {args : List PD} {p : Int} {e' : NE} {ts : List Int} {tz : TS} (hs : δ.all isSh = true) (h9 : δ[9]? = some (.sh (pdT p e' ts))) (h10 : 10 < δ.length) (ha : Evs K targs δ args)
    (hp : P_stepped args (.otup [.inl (.int p), .inr (.dic (encD e')), .inr (.lst (ts.map PD.int))])) (heq : EqNE e' e') (hts : ts.length ≤ 10000) (k : Sx K tz (δ.set 10 .no) P) :
    Sx K (tSeq (tAsg (tCall (sp_stepped K) [] E0 targs) (gName 10)) (tSeq (tIfS (tNot (tB (tCall (sp_law_stepped K) [] E0 (tCons (tVar 10) (tCons (tVar 9) (tNil)))))) (tRet (tC (.bl false))) (tNext)) (tSeq (tDrop (tBM0 K "dict" rDClear (tOp (rIxT K) (tVar 10) (tC (.int 1))))) (tSeq (tDrop (tBM K "list" rAppend (tOp (rIxT K) (tVar 10) (tC (.int 2))) (tCons (tC (.int 1)) (tNil)))) tz)))) δ P := fun B G H σ D R hn hr hb hc =>
  ha B G H σ R _ fun vs G1 H1 R1 s1 rs => by
    rw [List.append_nil]
    refine ⟨G1, args, _, R1.gh, R1.tb, rs, hp, fun v G' H' eh eg gh n ok => ?_⟩
    obtain ⟨G2, s2, r2, e12⟩ := otup_pub R1 ⟨eg, eh, gh, n⟩ ok
    obtain ⟨t, us, rfl, ht, gt, et, hl, hcm, hd⟩ := ok
    match us, hl with
    | [x0, x1, x2], _ =>
    obtain ⟨a, ea, ha0, ga, kvs, hka, ra⟩ := hcm 1 x1 (.inr (.dic (encD e'))) rfl rfl
    obtain ⟨b, eb, hb0, gb, ls, hkb, rb⟩ := hcm 2 x2 (.inr (.lst (ts.map PD.int))) rfl rfl
    subst ea eb
    have nab : a ≠ b := fun z => by
      subst z
      exact absurd (hd 1 2 a (.inr (.dic (encD e'))) (.inr (.lst (ts.map PD.int))) rfl rfl rfl rfl rfl rfl) (by decide)
    have nta : t ≠ a := ne_of et hka (by intro z; cases z)
    have ntb : t ≠ b := ne_of et hkb (by intro z; cases z)
    have R' : RepS K B G' H' σ δ := R1.step eg eh gh n
    have np : Free δ 10 := free_all hs
    have hsl : 10 < σ.length := R.lt np.nc h10
    have R2 : RepS K B G' H' (σ.set 10 (some (.ref t))) (δ.set 10 .no) := R'.setNo 10 _ np
    have Rl : RepS K ⟨G2, H', []⟩ G2 H' (σ.set 10 (some (.ref t))) (δ.set 10 (.sh (pdT p e' ts))) := (R1.lift hs s2.eg s2.gh (R1.tb.step s2.eh s2.nw)).setSh 10 r2 np
    have h9' : (δ.set 10 (.sh (pdT p e' ts)))[9]? = some (.sh (pdT p e' ts)) := by rw [List.getElem?_set_ne (by decide)]; exact h9
    have h10' : (δ.set 10 (.sh (pdT p e' ts)))[10]? = some (.sh (pdT p e' ts)) := List.getElem?_set_self h10
    have ht1 : Evt K (tNot (tB (tCall (sp_law_stepped K) [] E0 (tCons (tVar 10) (tCons (tVar 9) (tNil)))))) (δ.set 10 (.sh (pdT p e' ts))) false :=
      et_not (x := true) (et_B (ev_call (P := P_law_stepped) (es_cons (ev_var h10') (es_cons (ev_var h9') es_nil)) ⟨p, e', e', ts, heq, hts, rfl, rfl⟩))
    show tSeq (tIfS (tNot (tB (tCall (sp_law_stepped K) [] E0 (tCons (tVar 10) (tCons (tVar 9) (tNil)))))) (tRet (tC (.bl false))) (tNext)) _ D (σ.set 10 (some (.ref t))) H'
    refine seq_if_false (C := fun H3 => ∃ G3, Step G2 H' G3 H3) (fun Q q => ht1 _ G2 H' _ Rl Q fun G3 H3 _ s3 => q H3 ⟨G3, s3⟩) ?_
    rintro H3 ⟨G3, s3⟩
    have R3 : RepS K B G' H3 (σ.set 10 (some (.ref t))) (δ.set 10 .no) := R2.st ⟨Same.refl G', s3.eh, (e12.trans s3.eg).trans s3.gh, fun _ _ g => g⟩
    have hsn : (δ.set 10 Sl.no).all isSh = true := by
      rw [List.all_eq_true]
      intro s hm
      rcases List.mem_or_eq_of_mem_set hm with z | z
      · exact List.all_eq_true.mp hs s z
      · subst z; rfl
    have sl : (σ.set 10 (some (V.ref t)))[10]? = some (some (.ref t)) := List.getElem?_set_self hsl
    have fr : ∀ q, H1 q = none → B.H q = none := fun q hq => R1.newFree hq
    refine ⟨_, sl, t, [x0, .ref a, .ref b], 1, .ref a, rfl, rfl, Or.inl (Or.inl (s3.eh.get _ _ et)), rfl, tyV_dic (s3.eh.get _ _ hka), a, kvs, rfl, rfl, s3.eh.get _ _ hka, ?_⟩
    have R4 := R3.out (o := .dK []) ga (fr a ha0) (RepS.noHold hsn a) ⟨.dK kvs, (fun q z => nomatch z), s3.eh.get _ _ hka⟩
    refine ⟨_, sl, t, [x0, .ref a, .ref b], 2, .ref b, rfl, rfl, Or.inl (Or.inl (by rw [upd_ne nta]; exact s3.eh.get _ _ et)), rfl, tyV_lst (vs := ls) (by rw [upd_ne (Ne.symm nab)]; exact s3.eh.get _ _ hkb), b, ls, .int 1, rfl, rfl, (by rw [upd_ne (Ne.symm nab)]; exact s3.eh.get _ _ hkb), ?_, ?_⟩
    · rw [rb.length, List.length_map]
      exact Nat.lt_of_le_of_lt hts (by decide)
    have R5 := R4.out (o := .lst (ls ++ [.int 1])) gb (fr b hb0) (RepS.noHold hsn b) ⟨.lst ls, (fun q z => nomatch z), by rw [upd_ne (Ne.symm nab)]; exact s3.eh.get _ _ hkb⟩
    exact k.after R5 (s1.eg.trans eg) hn hr hb hc
theorem word_at (i : Nat) (hi : i < 4) : ∃ w : Op, ([PD.str "add", .str "minus", .str "times", .str "less"]).getD i .non = .str w.word := by
  match i with
  | 0 => exact ⟨.add, rfl⟩
  | 1 => exact ⟨.minus, rfl⟩
  | 2 => exact ⟨.times, rfl⟩
  | 3 => exact ⟨.less, rfl⟩
  | n + 4 => omega
theorem keys_pd (e : NE) : (encD e).map (fun kd => kPD kd.1) = (e.map (·.1)).map PD.str := by
  unfold encD
  rw [List.map_map, List.map_map]
  rfl
theorem getD_str {xs : List Str} {i : Nat} {x : Str} (h : xs[i]? = some x) : (xs.map PD.str).getD i .non = .str x := by
  rw [List.getD_eq_getElem?_getD, List.getElem?_map, h]; rfl
end
section
variable {K : FK} {δ : AE} {ta tb : TE} {P : Post}
theorem items0 (row : Row) : ∃ z : Str, row.items[0]? = some (.str z) ∧ (z = "stop" ↔ row = .stop) := by
  cases row with
  | stop => exact ⟨"stop", rfl, by simp⟩
  | put x v => exact ⟨"put", rfl, ⟨fun h => absurd h (by decide), fun h => nomatch h⟩⟩
  | copy x s => exact ⟨"copy", rfl, ⟨fun h => absurd h (by decide), fun h => nomatch h⟩⟩
  | op w x a b => exact ⟨w.word, rfl, ⟨fun h => absurd h (by cases w <;> decide), fun h => nomatch h⟩⟩
  | tell s => exact ⟨"tell", rfl, ⟨fun h => absurd h (by decide), fun h => nomatch h⟩⟩
  | jump p => exact ⟨"jump", rfl, ⟨fun h => absurd h (by decide), fun h => nomatch h⟩⟩
  | zero x p => exact ⟨"zero", rfl, ⟨fun h => absurd h (by decide), fun h => nomatch h⟩⟩
/-- all but the tables is seen -/
def cutT (K : FK) (H : Hp) : Hp := fun a => if a ∈ K.T then none else H a
theorem cutT_same {H : Hp} : Same (cutT K H) H := fun a o e => by
  have e' : (if a ∈ K.T then none else H a) = some o := e
  by_cases z : a ∈ K.T
  · rw [if_pos z] at e'; cases e'
  · rw [if_neg z] at e'; exact e'
theorem cutT_get {H : Hp} (hT : ∀ t ∈ K.T, GxR.TabG H t) {a : Addr} {o : HO} (n : ∀ q, o ≠ .tbl q) (h : H a = some o) : cutT K H a = some o := by
  have z : ¬ a ∈ K.T := fun z => by
    obtain ⟨q, e, _⟩ := hT a z
    rw [h] at e
    exact n q (Option.some.inj e)
  show (if a ∈ K.T then none else H a) = some o
  rw [if_neg z]; exact h
theorem cutT_sqL {H : Hp} (hT : ∀ t ∈ K.T, GxR.TabG H t) {a : Addr} {xs : List V} (h : SqL K H a xs) : SqL K (cutT K H) a xs := by
  rcases h with (h | ⟨o, h⟩) | h
  · exact .inl (.inl (cutT_get hT (fun _ z => nomatch z) h))
  · exact .inl (.inr ⟨o, cutT_get hT (fun _ z => nomatch z) h⟩)
  · exact .inr h
theorem law_asked {H : Hp} {a : Addr} {ns : List Int} (hl : ns.length ≤ 63) (hS : SqL K H a (ns.map V.int)) (hT : ∀ t ∈ K.T, GxR.TabG H t) : sp_law K [.ref a] H (fun v _ => v = .bl true) fun _ _ _ => False :=
  ⟨cutT K H, [.scr ns], .val (.bl true), cutT_same, (fun t ht => ⟨hT t ht, if_pos ht⟩), .cons (.scr (cutT_sqL hT hS)) .nil, ⟨ns, hl, rfl, rfl⟩, fun v G' H' _ _ _ _ r => Rep.flat (d := .bl true) r rfl⟩
end
/-! ### rows of traces -/
inductive TR where
  | r (row : Row) | g (s : Src) (n : Bool) (p st : Int) (reps : List (Str × Src))
def pairPD (q : Str × Src) : PD := .tup [.str q.1, q.2.pd]
def TR.items : TR → List PD
  | .r row => row.items
  | .g s n p st reps => [.str "guard", s.pd, .bl n, .int p, .int st, .btup (reps.map pairPD)]
def TR.pd (t : TR) : PD := .tup t.items
def traceD (start : Int) (rows : List TR) (steps : Int) : PD := .tup [.int start, .lst (rows.map TR.pd), .int steps]
def SOk : Src → Prop
  | .n x => nameOk x
  | .i v => 0 ≤ v ∧ v < 1000000
def TOk : TR → Prop
  | .r (.put x v) => nameOk x ∧ 0 ≤ v ∧ v < 1000000
  | .r (.copy x s) => nameOk x ∧ SOk s
  | .r (.op _ x a b) => nameOk x ∧ SOk a ∧ SOk b
  | .r (.tell s) => SOk s
  | .r _ => False
  | .g s _ _ _ reps => SOk s ∧ (∀ q ∈ reps, nameOk q.1 ∧ SOk q.2) ∧ (reps.map (·.1)).Nodup ∧ reps.length ≤ 1000
/-! ### a way is written -/
def goRow (row : Row) (i : Int) (e : NE) (st : Int) : List TR := match row with
  | .jump _ => []
  | .zero x p => match get e x with
    | some v => [.g (.n x) (decide (v = 0)) (if v = 0 then i + 1 else p) st []]
    | none => []
  | r => [.r r]
def overAt (rows : List Row) (i : Nat) : Bool := match rows[i]? with | none => true | some .stop => true | _ => false
/-- so many steps are left, k are done -/
def wr (rows : List Row) (start : Int) : Nat → Nat → Int → NE → List TR → Option (List TR × Int)
  | 0, _, _, _, _ => none
  | n + 1, k, i, e, way => if overAt rows i.toNat = true then none else match rows[i.toNat]? with
    | none => none
    | some row => match step row i e with
      | none => none
      | some (p, e', _) => if p = start then some (way ++ goRow row i e (k + 1), (k : Int) + 1) else wr rows start n (k + 1) p e' (way ++ goRow row i e (k + 1))
/-- what the names hold, at a program's rows -/
structure Okr (rows : List Row) (e : NE) (m : Nat) : Prop where
  bd : Bd e
  nd : Nd e
  all : ∀ row ∈ rows, All e row
  len : e.length ≤ m
def wrD (start : Int) : Option (List TR × Int) → PD
  | none => .non
  | some (w, st) => traceD start w st
def wrR (start : Int) : Option (List TR × Int) → Rt
  | none => .val .non
  | some (w, st) => .otup [.inl (.int start), .inr (.lst (w.map TR.pd)), .inl (.int st)]
/-! ### the promises -/
def P_guard_of (ds : List PD) (r : Rt) : Prop := ∃ x p i e v st, get e x = some v ∧ ds = [(Row.zero x p).pd, .int i, .dic (encD e), .int st] ∧ r = .val (TR.g (.n x) (decide (v = 0)) (if v = 0 then i + 1 else p) st []).pd
def P_written (ds : List PD) (r : Rt) : Prop := ∃ rows : List Row, ∃ start : Int, ∃ e, ∃ most : Nat, Prog rows ∧ 0 ≤ start ∧ Okr rows e 1000 ∧ most ≤ 1000 ∧ ds = [.lst (rows.map Row.pd), .int start, .dic (encD e), .int (most : Nat)] ∧ r = wrR start (wr rows start most 0 start e [])
def P_law_most (ds : List PD) (r : Rt) : Prop := ∃ ns : List Int, ds = [.scr ns] ∧ r = .val (.int (((([0, 1, 17, 60, 120, 200, 260, cell ns 1 / 8 % 301] : List Int).getD (cell ns 1 % 8).toNat 0).toNat : Nat) : Int))
def P_law_over (ds : List PD) (r : Rt) : Prop := ∃ rows : List Row, ∃ i : Nat, ds = [.lst (rows.map Row.pd), .int i] ∧ r = .val (.bl (overAt rows i))
def isSrc : PD → Bool
  | .str _ => true
  | .int v => decide (0 ≤ v) && decide (v < 1000000)
  | _ => false
def P_law_source (ds : List PD) (r : Rt) : Prop := ∃ d, tyOk d = true ∧ ds = [d] ∧ r = .val (.bl (isSrc d))
def P_law_guard (ds : List PD) (r : Rt) : Prop := ∃ s n p st reps, TOk (.g s n p st reps) ∧ ds = [(TR.g s n p st reps).pd] ∧ r = .val (.bl true)
def P_law_trace (ds : List PD) (r : Rt) : Prop := ∃ start rows steps, (∀ t ∈ rows, TOk t) ∧ ds = [traceD start rows steps] ∧ r = .val (.bl true)
def P_law_due_row (ds : List PD) (r : Rt) : Prop := ∃ rows : List Row, ∃ i : Nat, ∃ row e st, rows[i]? = some row ∧ All e row ∧ ds = [.lst (rows.map Row.pd), .int i, .dic (encD e), .int st] ∧ r = .own (.lst ((goRow row i e st).map TR.pd))
def P_law_written (ds : List PD) (r : Rt) : Prop := ∃ rows : List Row, ∃ start : Int, ∃ e, ∃ most : Nat, Prog rows ∧ 0 ≤ start ∧ Okr rows e 1000 ∧ most ≤ 1000 ∧ ds = [.lst (rows.map Row.pd), .int start, .dic (encD e), .int (most : Nat)] ∧ r = .val (wrD start (wr rows start most 0 start e []))
abbrev sp_guard_of (K : FK) : Sp := spP K P_guard_of
abbrev sp_written (K : FK) : Sp := spP K P_written
abbrev sp_law_most (K : FK) : Sp := spP K P_law_most
abbrev sp_law_over (K : FK) : Sp := spP K P_law_over
abbrev sp_law_source (K : FK) : Sp := spP K P_law_source
abbrev sp_law_guard (K : FK) : Sp := spP K P_law_guard
abbrev sp_law_trace (K : FK) : Sp := spP K P_law_trace
abbrev sp_law_due_row (K : FK) : Sp := spP K P_law_due_row
abbrev sp_law_written (K : FK) : Sp := spP K P_law_written
theorem step_has {e e' : NE} {row : Row} {i p : Int} {ts : List Int} (h : step row i e = some (p, e', ts)) {x : Str} (hx : (get e x).isSome = true) : (get e' x).isSome = true := by
  cases row with
  | jump q => cases h; exact hx
  | zero y q => obtain ⟨v, _, he⟩ := Option.map_eq_some_iff.mp h; cases he; exact hx
  | stop => cases h
  | put y v => cases h; exact has_put hx
  | copy y s =>
    obtain ⟨e1, h1, he⟩ := Option.map_eq_some_iff.mp h; cases he
    obtain ⟨v, _, he⟩ := Option.map_eq_some_iff.mp h1; cases he; exact has_put hx
  | op w y a b =>
    obtain ⟨e1, h1, he⟩ := Option.map_eq_some_iff.mp h; cases he
    obtain ⟨v, _, h2⟩ := Option.bind_eq_some_iff.mp h1
    obtain ⟨u, _, he⟩ := Option.map_eq_some_iff.mp h2; cases he; exact has_put hx
  | tell s =>
    obtain ⟨e1, h1, he⟩ := Option.map_eq_some_iff.mp h; cases he
    obtain ⟨v, _, he⟩ := Option.map_eq_some_iff.mp h1; cases he; exact hx
theorem step_place {rows : List Row} (hp : Prog rows) {e e' : NE} {row : Row} (hr : row ∈ rows) {i p : Int} {ts : List Int} (hi : 0 ≤ i) (h : step row i e = some (p, e', ts)) : 0 ≤ p := by
  have ok := hp.2 row hr
  cases row with
  | jump q => cases h; exact ok.1
  | zero y q =>
    obtain ⟨v, _, he⟩ := Option.map_eq_some_iff.mp h; cases he
    split
    · exact ok.2.1
    · omega
  | stop => cases h
  | put y v => cases h; omega
  | copy y s => obtain ⟨e1, h1, he⟩ := Option.map_eq_some_iff.mp h; cases he; omega
  | op w y a b => obtain ⟨e1, h1, he⟩ := Option.map_eq_some_iff.mp h; cases he; omega
  | tell s => obtain ⟨e1, h1, he⟩ := Option.map_eq_some_iff.mp h; cases he; omega
theorem Okr.step {rows : List Row} {e e' : NE} {m : Nat} (h : Okr rows e m) (hp : Prog rows) {row : Row} (hr : row ∈ rows) {i p : Int} {ts : List Int} (hi : 0 ≤ i) (hs : step row i e = some (p, e', ts)) : Okr rows e' (m + 1) ∧ 0 ≤ p ∧ ts.length ≤ 1 := by
  obtain ⟨k1, k2, k3, k4⟩ := step_keeps h.bd (rowOk_named (hp.2 row hr)).2 h.nd hs
  have hl := h.len
  exact ⟨⟨k1, k2, fun r hr x hx => step_has hs (h.all r hr x hx), by omega⟩, step_place hp hr hi hs, k4⟩
theorem goRow_ok {rows : List Row} (hp : Prog rows) {row : Row} (hr : row ∈ rows) (hns : row ≠ .stop) (i : Int) (e : NE) (st : Int) : ∀ t ∈ goRow row i e st, TOk t := by
  have ok := hp.2 row hr
  have sok : ∀ {s : Src}, srcOk s → SOk s := fun ⟨y, e, h⟩ => by subst e; exact h
  intro t ht
  cases row with
  | jump q => cases ht
  | zero y q =>
    have ht : t ∈ (match get e y with | some v => [TR.g (.n y) (decide (v = 0)) (if v = 0 then i + 1 else q) st []] | none => []) := ht
    cases hg : get e y with
    | none => rw [hg] at ht; cases ht
    | some v =>
      rw [hg] at ht
      rw [List.mem_singleton] at ht
      subst ht
      exact ⟨ok.1, (fun q h => nomatch h), List.nodup_nil, Nat.zero_le _⟩
  | stop => exact absurd rfl hns
  | put y v => rw [List.mem_singleton.mp ht]; exact ok
  | copy y s => rw [List.mem_singleton.mp ht]; exact ⟨ok.1, sok ok.2⟩
  | op w y a b => rw [List.mem_singleton.mp ht]; exact ⟨ok.1, sok ok.2.1, sok ok.2.2⟩
  | tell s => rw [List.mem_singleton.mp ht]; exact sok ok
def t_guard_of (K : FK) : TS := tSeq (tAsg (tOp rEq (tDGet (tVar 2) (tOp (rIxT K) (tVar 0) (tC (.int 1)))) (tC (.int 0))) (gName 4)) (tSeq (tAsg (tIf (tB (tVar 4)) (tOp rAddI (tVar 1) (tC (.int 1))) (tOp (rIxT K) (tVar 0) (tC (.int 2)))) (gName 5)) (tRet (tTup (tCons (tC (.str "guard")) (tCons (tOp (rIxT K) (tVar 0) (tC (.int 1))) (tCons (tVar 4) (tCons (tVar 5) (tCons (tVar 3) (tCons (Fw.tTupZ (tNil)) (tNil))))))))))
def t_written (K : FK) : TS := tSeq (tAsg (tCB rDictD (tCons (tVar 2) (tNil))) (gName 4)) (tSeq (tAsg (tLst (tNil)) (gName 5)) (tSeq (tAsg (tLst (tNil)) (gName 6)) (tSeq (tAsg (tVar 1) (gName 7)) (tSeq (tFor (iRng2 (tCons (tC (.int 1)) (tCons (tOp rAddI (tVar 3) (tC (.int 1))) (tNil)))) (gName 8) (tSeq (tIfS (tB (tCall (sp_is_over K) [] E0 (tCons (tVar 0) (tCons (tVar 7) (tNil))))) (tRet (tC .non)) (tNext)) (tSeq (tAsg (tOp (rIxL K) (tVar 0) (tVar 7)) (gName 9)) (tSeq (tIfS (tTest (tOp rEq (tOp (rIxT K) (tVar 9) (tC (.int 0))) (tC (.str "zero")))) (tDrop (tBM K "list" rAppend (tVar 6) (tCons (tCall (sp_guard_of K) [] E0 (tCons (tVar 9) (tCons (tVar 7) (tCons (tVar 4) (tCons (tVar 8) (tNil)))))) (tNil)))) (tIfS (tTest (tOp rNe (tOp (rIxT K) (tVar 9) (tC (.int 0))) (tC (.str "jump")))) (tDrop (tBM K "list" rAppend (tVar 6) (tCons (tVar 9) (tNil)))) (tNext))) (tSeq (tAsg (tCall (sp_do_step K) [] E0 (tCons (tVar 9) (tCons (tVar 7) (tCons (tVar 4) (tCons (tVar 5) (tNil)))))) (gName 7)) (tIfS (tTest (tOp rEq (tVar 7) (tVar 1))) (tRet (tTup (tCons (tVar 1) (tCons (tVar 6) (tCons (tVar 8) (tNil)))))) (tNext))))))) (tRet (tC .non))))))
def t_law_most (K : FK) : TS := tSeq (tAsg (tCall (sp_law_cell_at K) [] E0 (tCons (tVar 0) (tCons (tC (.int 1)) (tNil)))) (gName 1)) (tRet (tOp (rIxL K) (tLst (tCons (tC (.int 0)) (tCons (tC (.int 1)) (tCons (tC (.int 17)) (tCons (tC (.int 60)) (tCons (tC (.int 120)) (tCons (tC (.int 200)) (tCons (tC (.int 260)) (tCons (tOp rModI (tOp rDivI (tVar 1) (tC (.int 8))) (tC (.int 301))) (tNil)))))))))) (tOp rModI (tVar 1) (tC (.int 8)))))
def t_law_over (K : FK) : TS := tRet (tOrV (tOp rGeI (tVar 1) (tCB (rLenS K) (tCons (tVar 0) (tNil)))) (tOp rEq (tOp (rIxT K) (tOp (rIxL K) (tVar 0) (tVar 1)) (tC (.int 0))) (tC (.str "stop"))))
def t_law_source (K : FK) : TS := tRet (tOrV (tCB (rIsi K) (tCons (tVar 0) (tCons (tC (.ty "str")) (tNil)))) (tAndV (tCall (sp_law_whole K) [] E0 (tCons (tVar 0) (tNil))) (tChain rLeI rLtI (tC (.int 0)) (tVar 0) (tOp rPowI (tC (.int 10)) (tC (.int 6))))))
def t_law_guard (K : FK) : TS := tSeq (tIfS (tOr (tTest (tOp rNe (tCB (rLenS K) (tCons (tVar 0) (tNil))) (tC (.int 6)))) (tOr (tNot (tB (tCall (sp_law_source K) [] E0 (tCons (tOp (rIxT K) (tVar 0) (tC (.int 1))) (tNil))))) (tOr (tNot (tB (tCB (rIsi K) (tCons (tOp (rIxT K) (tVar 0) (tC (.int 2))) (tCons (tC (.ty "bool")) (tNil)))))) (tNot (tB (tCB (rIsi K) (tCons (tOp (rIxT K) (tVar 0) (tC (.int 5))) (tCons (tC (.ty "tuple")) (tNil))))))))) (tRet (tC (.bl false))) (tNext)) (tSeq (tIfS (tOr (tNot (tB (tCall (sp_law_whole K) [] E0 (tCons (tOp (rIxT K) (tVar 0) (tC (.int 3))) (tNil))))) (tNot (tB (tCall (sp_law_whole K) [] E0 (tCons (tOp (rIxT K) (tVar 0) (tC (.int 4))) (tNil)))))) (tRet (tC (.bl false))) (tNext)) (tSeq (tFor (iTup K (tOp (rIxT K) (tVar 0) (tC (.int 5)))) (gName 1) (tIfS (tOr (tNot (tB (tCB (rIsi K) (tCons (tVar 1) (tCons (tC (.ty "tuple")) (tNil)))))) (tOr (tTest (tOp rNe (tCB (rLenS K) (tCons (tVar 1) (tNil))) (tC (.int 2)))) (tOr (tNot (tB (tCB (rIsi K) (tCons (tOp (rIxT K) (tVar 1) (tC (.int 0))) (tCons (tC (.ty "str")) (tNil)))))) (tNot (tB (tCall (sp_law_source K) [] E0 (tCons (tOp (rIxT K) (tVar 1) (tC (.int 1))) (tNil)))))))) (tRet (tC (.bl false))) (tNext))) (tRet (tOp rEq (tCB rLenD (tCons (tCB (Fw.rDictPT K) (tCons (tOp (rIxT K) (tVar 0) (tC (.int 5))) (tNil))) (tNil))) (tCB (rLenS K) (tCons (tOp (rIxT K) (tVar 0) (tC (.int 5))) (tNil)))))))
def t_law_trace (K : FK) : TS := tSeq (tIfS (tOr (tNot (tB (tCB (rIsi K) (tCons (tVar 0) (tCons (tC (.ty "tuple")) (tNil)))))) (tOr (tTest (tOp rNe (tCB (rLenS K) (tCons (tVar 0) (tNil))) (tC (.int 3)))) (tNot (tB (tCB (rIsi K) (tCons (tOp (rIxT K) (tVar 0) (tC (.int 1))) (tCons (tC (.ty "list")) (tNil)))))))) (tRet (tC (.bl false))) (tNext)) (tSeq (tAsg (tDisp [(tC (.str "put"), tC (.int 3)), (tC (.str "copy"), tC (.int 3)), (tC (.str "add"), tC (.int 4)), (tC (.str "minus"), tC (.int 4)), (tC (.str "times"), tC (.int 4)), (tC (.str "less"), tC (.int 4)), (tC (.str "tell"), tC (.int 2))]) (gName 1)) (tSeq (tFor (iList K (tOp (rIxT K) (tVar 0) (tC (.int 1)))) (gName 2) (tSeq (tIfS (tOr (tNot (tB (tCB (rIsi K) (tCons (tVar 2) (tCons (tC (.ty "tuple")) (tNil)))))) (tOr (tTest (tOp rLtI (tCB (rLenS K) (tCons (tVar 2) (tNil))) (tC (.int 2)))) (tNot (tB (tCB (rIsi K) (tCons (tOp (rIxT K) (tVar 2) (tC (.int 0))) (tCons (tC (.ty "str")) (tNil)))))))) (tRet (tC (.bl false))) (tNext)) (tIfS (tTest (tOp rEq (tOp (rIxT K) (tVar 2) (tC (.int 0))) (tC (.str "guard")))) (tIfS (tNot (tB (tCall (sp_law_guard K) [] E0 (tCons (tVar 2) (tNil))))) (tRet (tC (.bl false))) (tNext)) (tIfS (tOr (tTest (tOp rNe (tCB (rLenS K) (tCons (tVar 2) (tNil))) (tDGet2 (tVar 1) (tOp (rIxT K) (tVar 2) (tC (.int 0))) (tC (.int 0))))) (tNot (tB (tCB (rAll K) (tCons (tLc (iTup K (tSl (rSlA K) (tVar 2) (tPart (tC (.int 1))) (tNoPart))) (gName 3) (tYes) (tCall (sp_law_source K) [] E0 (tCons (tVar 3) (tNil))) [3]) (tNil)))))) (tRet (tC (.bl false))) (tIfS (tOr (tAnd (tTest (tOp rNe (tOp (rIxT K) (tVar 2) (tC (.int 0))) (tC (.str "tell")))) (tNot (tB (tCB (rIsi K) (tCons (tOp (rIxT K) (tVar 2) (tC (.int 1))) (tCons (tC (.ty "str")) (tNil))))))) (tAnd (tTest (tOp rEq (tOp (rIxT K) (tVar 2) (tC (.int 0))) (tC (.str "put")))) (tNot (tB (tCall (sp_law_whole K) [] E0 (tCons (tOp (rIxT K) (tVar 2) (tC (.int 2))) (tNil))))))) (tRet (tC (.bl false))) (tNext)))))) (tRet (tAndV (tCall (sp_law_whole K) [] E0 (tCons (tOp (rIxT K) (tVar 0) (tC (.int 0))) (tNil))) (tCall (sp_law_whole K) [] E0 (tCons (tOp (rIxT K) (tVar 0) (tC (.int 2))) (tNil)))))))
def t_law_due_row (K : FK) : TS := tSeq (tAsg (tOp (rIxL K) (tVar 0) (tVar 1)) (gName 4)) (tSeq (tIfS (tTest (tOp rEq (tOp (rIxT K) (tVar 4) (tC (.int 0))) (tC (.str "jump")))) (tRet (tLst (tNil))) (tNext)) (tSeq (tIfS (tTest (tOp rNe (tOp (rIxT K) (tVar 4) (tC (.int 0))) (tC (.str "zero")))) (tRet (tLst (tCons (tVar 4) (tNil)))) (tNext)) (tSeq (tIfS (tTest (tOp rEq (tDGet (tVar 2) (tOp (rIxT K) (tVar 4) (tC (.int 1)))) (tC (.int 0)))) (tRet (tLst (tCons (tTup (tCons (tC (.str "guard")) (tCons (tOp (rIxT K) (tVar 4) (tC (.int 1))) (tCons (tC (.bl true)) (tCons (tOp rAddI (tVar 1) (tC (.int 1))) (tCons (tVar 3) (tCons (Fw.tTupZ (tNil)) (tNil)))))))) (tNil)))) (tNext)) (tRet (tLst (tCons (tTup (tCons (tC (.str "guard")) (tCons (tOp (rIxT K) (tVar 4) (tC (.int 1))) (tCons (tC (.bl false)) (tCons (tOp (rIxT K) (tVar 4) (tC (.int 2))) (tCons (tVar 3) (tCons (Fw.tTupZ (tNil)) (tNil)))))))) (tNil)))))))
def t_law_written (K : FK) : TS := tSeq (tAsg (tLst (tNil)) (gName 4)) (tSeq (tAsg (tVar 1) (gName 5)) (tSeq (tFor (iRng2 (tCons (tC (.int 1)) (tCons (tOp rAddI (tVar 3) (tC (.int 1))) (tNil)))) (gName 6) (tSeq (tIfS (tB (tCall (sp_law_over K) [] E0 (tCons (tVar 0) (tCons (tVar 5) (tNil))))) (tRet (tC .non)) (tNext)) (tSeq (tAsg (tOp rCat (tVar 4) (tCall (sp_law_due_row K) [] E0 (tCons (tVar 0) (tCons (tVar 5) (tCons (tVar 2) (tCons (tVar 6) (tNil))))))) (gName 4)) (tSeq (tAsg (tCall (sp_law_step K) [] E0 (tCons (tVar 0) (tCons (tVar 5) (tCons (tVar 2) (tNil))))) (gName 7)) (tSeq (tAsg (tOp (rIxT K) (tVar 7) (tC (.int 0))) (gName 5)) (tSeq (tAsg (tOp (rIxT K) (tVar 7) (tC (.int 1))) (gName 2)) (tIfS (tTest (tOp rEq (tVar 5) (tVar 1))) (tRet (tTup (tCons (tVar 1) (tCons (tVar 4) (tCons (tVar 6) (tNil)))))) (tNext)))))))) (tRet (tC .non))))
section
variable {K : FK} {δ : AE} {ta tb : TE} {P : Post}
theorem sx_guard_of (ds : List PD) (r : Rt) (h : P_guard_of ds r) : Sx K (t_guard_of K) (ae 6 ds) (Gives r) := by
  obtain ⟨x, p, i, e, v, st, hv, rfl, rfl⟩ := h
  unfold t_guard_of
  refine q_asg (d := .bl (decide (v = 0))) (ev_eqI (ev_dget (rd_dic (ev_var rfl)) (ev_ixT (d := .str x) (ev_var rfl) (ev_int 1) rfl) (look_get hv)) (ev_int 0)) rfl ?_
  refine q_asg (d := .int (if v = 0 then i + 1 else p)) ?_ rfl ?_
  · by_cases h : v = 0
    · rw [if_pos h]
      exact ev_ifT (et_is (et_B (ev_var rfl)) (decide_eq_true h)) (e_add (ev_var rfl) (ev_int 1))
    · rw [if_neg h]
      exact ev_ifF (et_is (et_B (ev_var rfl)) (decide_eq_false h)) (ev_ixT (ev_var rfl) (ev_int 2) rfl)
  exact s_ret (ev_tup (es_cons (ev_str _) (es_cons (ev_ixT (d := .str x) (ev_var rfl) (ev_int 1) rfl) (es_cons (ev_var rfl) (es_cons (ev_var rfl) (es_cons (ev_var rfl) (es_cons (ev_tupZ es_nil (Nat.zero_le _)) es_nil)))))) (Nat.le_of_ble_eq_true rfl)) rfl
theorem sx_law_over (ds : List PD) (r : Rt) (h : P_law_over ds r) : Sx K (t_law_over K) (ae 2 ds) (Gives r) := by
  obtain ⟨rows, i, rfl, rfl⟩ := h
  exact sx_is_over _ _ ⟨rows, i, rfl, rfl⟩
theorem ints_at {xs : List Int} {i : Int} (h : 0 ≤ i ∧ i < xs.length) : atI (xs.map PD.int) i = some (.int (xs.getD i.toNat 0)) := by
  have e : (xs.map PD.int)[i.toNat]? = some (.int (xs.getD i.toNat 0)) := by
    rw [List.getElem?_map, List.getD_eq_getElem?_getD, List.getElem?_eq_getElem (by omega)]; rfl
  have e2 := atI_nat e
  rw [Int.toNat_of_nonneg h.1] at e2
  exact e2
theorem most_pos (c : Int) : 0 ≤ ([0, 1, 17, 60, 120, 200, 260, c / 8 % 301] : List Int).getD (c % 8).toNat 0 ∧ ([0, 1, 17, 60, 120, 200, 260, c / 8 % 301] : List Int).getD (c % 8).toNat 0 ≤ 300 := by
  have h : (c % 8).toNat < 8 := by omega
  generalize (c % 8).toNat = k at h
  match k, h with
  | 0, _ => show (0 : Int) ≤ 0 ∧ (0 : Int) ≤ 300; decide
  | 1, _ => show (0 : Int) ≤ 1 ∧ (1 : Int) ≤ 300; decide
  | 2, _ => show (0 : Int) ≤ 17 ∧ (17 : Int) ≤ 300; decide
  | 3, _ => show (0 : Int) ≤ 60 ∧ (60 : Int) ≤ 300; decide
  | 4, _ => show (0 : Int) ≤ 120 ∧ (120 : Int) ≤ 300; decide
  | 5, _ => show (0 : Int) ≤ 200 ∧ (200 : Int) ≤ 300; decide
  | 6, _ => show (0 : Int) ≤ 260 ∧ (260 : Int) ≤ 300; decide
  | 7, _ =>
    show 0 ≤ c / 8 % 301 ∧ c / 8 % 301 ≤ 300
    omega
  | n + 8, h => exact absurd h (by omega)
theorem sx_law_most (ds : List PD) (r : Rt) (h : P_law_most ds r) : Sx K (t_law_most K) (ae 2 ds) (Gives r) := by
  obtain ⟨ns, rfl, rfl⟩ := h
  unfold t_law_most
  refine q_asg (d := .int (cell ns 1)) (ev_cell (ev_var rfl) (ev_int 1) (by decide)) rfl ?_
  refine s_ret (d := .int (([0, 1, 17, 60, 120, 200, 260, cell ns 1 / 8 % 301] : List Int).getD (cell ns 1 % 8).toNat 0)) ?_ (by
    show Rt.val _ = Rt.val _
    rw [Int.toNat_of_nonneg (most_pos (cell ns 1)).1])
  refine ev_ixL (ds := ([0, 1, 17, 60, 120, 200, 260, cell ns 1 / 8 % 301] : List Int).map PD.int) (rd_of_evo (o := .lst _) (eo_lst ?_ (Nat.le_of_ble_eq_true rfl))) (e_mod (ev_var rfl) (ev_int 8) (by decide)) (ints_at ⟨by omega, by show cell ns 1 % 8 < 8; omega⟩)
  exact es_cons (ev_int _) (es_cons (ev_int _) (es_cons (ev_int _) (es_cons (ev_int _) (es_cons (ev_int _) (es_cons (ev_int _) (es_cons (ev_int _) (es_cons (e_mod (e_div (ev_var rfl) (ev_int 8) ⟨by decide, by decide⟩) (ev_int 301) (by decide)) es_nil)))))))
theorem sx_law_source (ds : List PD) (r : Rt) (h : P_law_source ds r) : Sx K (t_law_source K) (ae 1 ds) (Gives r) := by
  obtain ⟨d, f, rfl, rfl⟩ := h
  unfold t_law_source
  refine s_ret ?_ rfl
  cases d with
  | adr p => cases f
  | str x => exact ev_orV (x := true) (y := true) (ev_isi (ev_var rfl) rfl) (fun z => nomatch z)
  | int v => exact ev_orV (x := false) (ev_isi (ev_var rfl) rfl) (fun _ => ev_andV (x := true) (ev_whole (d := .int v) (ev_var rfl)) (fun _ => ev_leLt (ev_int 0) (ev_var rfl) (ev_is (e_pow (ev_int 10) (ev_int 6) ⟨by decide, by decide, by decide⟩) (by rw [pow6]))))
  | non => exact ev_orV (x := false) (y := false) (ev_isi (ev_var rfl) rfl) (fun _ => ev_andV (x := false) (y := true) (ev_whole (d := .non) (ev_var rfl)) (fun z => nomatch z))
  | bl b => exact ev_orV (x := false) (y := false) (ev_isi (ev_var rfl) rfl) (fun _ => ev_andV (x := false) (y := true) (ev_whole (d := .bl b) (ev_var rfl)) (fun z => nomatch z))
  | tup b => exact ev_orV (x := false) (y := false) (ev_isi (ev_var rfl) rfl) (fun _ => ev_andV (x := false) (y := true) (ev_whole (d := .tup b) (ev_var rfl)) (fun z => nomatch z))
  | btup b => exact ev_orV (x := false) (y := false) (ev_isi (ev_var rfl) rfl) (fun _ => ev_andV (x := false) (y := true) (ev_whole (d := .btup b) (ev_var rfl)) (fun z => nomatch z))
  | lst b => exact ev_orV (x := false) (y := false) (ev_isi (ev_var rfl) rfl) (fun _ => ev_andV (x := false) (y := true) (ev_whole (d := .lst b) (ev_var rfl)) (fun z => nomatch z))
  | dic b => exact ev_orV (x := false) (y := false) (ev_isi (ev_var rfl) rfl) (fun _ => ev_andV (x := false) (y := true) (ev_whole (d := .dic b) (ev_var rfl)) (fun z => nomatch z))
  | scr b => exact ev_orV (x := false) (y := false) (ev_isi (ev_var rfl) rfl) (fun _ => ev_andV (x := false) (y := true) (ev_whole (d := .scr b) (ev_var rfl)) (fun z => nomatch z))
theorem tyOk_src {d : PD} (h : isSrc d = true) : tyOk d = true := by
  cases d <;> first | rfl | cases h
theorem ev_source {d : PD} (ha : Evd K ta δ d) (f : tyOk d = true := by rfl) : Evd K (tCall (sp_law_source K) [] E0 (tCons ta tNil)) δ (.bl (isSrc d)) := ev_call (es_cons ha es_nil) ⟨d, f, rfl, rfl⟩
theorem sx_law_due_row (ds : List PD) (r : Rt) (h : P_law_due_row ds r) : Sx K (t_law_due_row K) (ae 5 ds) (Gives r) := by
  obtain ⟨rows, i, row, e, st, hat, hal, rfl, rfl⟩ := h
  unfold t_law_due_row
  refine q_asg (d := row.pd) (ev_ixL (rd_lst (ev_var rfl)) (ev_var rfl) (rows_at hat)) rfl ?_
  have plain : ∀ z : Str, row.items[0]? = some (.str z) → z ≠ "jump" → z ≠ "zero" → goRow row i e st = [.r row] →
      Sx K (tSeq (tIfS (tTest (tOp rEq (tOp (rIxT K) (tVar 4) (tC (.int 0))) (tC (.str "jump")))) (tRet (tLst (tNil))) (tNext)) (tSeq (tIfS (tTest (tOp rNe (tOp (rIxT K) (tVar 4) (tC (.int 0))) (tC (.str "zero")))) (tRet (tLst (tCons (tVar 4) (tNil)))) (tNext)) (tSeq (tIfS (tTest (tOp rEq (tDGet (tVar 2) (tOp (rIxT K) (tVar 4) (tC (.int 1)))) (tC (.int 0)))) (tRet (tLst (tCons (tTup (tCons (tC (.str "guard")) (tCons (tOp (rIxT K) (tVar 4) (tC (.int 1))) (tCons (tC (.bl true)) (tCons (tOp rAddI (tVar 1) (tC (.int 1))) (tCons (tVar 3) (tCons (Fw.tTupZ (tNil)) (tNil)))))))) (tNil)))) (tNext)) (tRet (tLst (tCons (tTup (tCons (tC (.str "guard")) (tCons (tOp (rIxT K) (tVar 4) (tC (.int 1))) (tCons (tC (.bl false)) (tCons (tOp (rIxT K) (tVar 4) (tC (.int 2))) (tCons (tVar 3) (tCons (Fw.tTupZ (tNil)) (tNil)))))))) (tNil)))))))
        [.sh (.lst (rows.map Row.pd)), .sh (.int i), .sh (.dic (encD e)), .sh (.int st), .sh row.pd] (Gives (.own (.lst ((goRow row i e st).map TR.pd)))) := fun z hz n1 n2 hg => by
    have e0 : atI row.items 0 = some (.str z) := atI_nat (j := 0) hz
    refine q_if (x := false) (et_is (et_test (ev_eqS (ev_ixT (ev_var rfl) (ev_int 0) e0) (ev_str "jump"))) (decide_eq_false n1)) (fun z => nomatch z) (fun _ => q_next ?_)
    refine q_if (x := true) (et_is (et_test (ev_neS (ev_ixT (ev_var rfl) (ev_int 0) e0) (ev_str "zero"))) (by rw [decide_eq_false n2]; rfl)) (fun _ => ?_) (fun z => nomatch z)
    refine q_ret (s_retO (o := .lst [row.pd]) (eo_lst (es_cons (ev_var rfl) es_nil) (Nat.le_of_ble_eq_true rfl)) ?_)
    show Rt.own _ = Rt.own _
    rw [hg]; rfl
  cases row with
  | jump q =>
    refine q_if (x := true) (et_is (et_test (ev_eqS (ev_ixT (ev_var rfl) (ev_int 0) rfl) (ev_str _))) (by decide)) (fun _ => ?_) (fun z => nomatch z)
    exact q_ret (s_retO (o := .lst []) (eo_lst es_nil (Nat.zero_le _)) rfl)
  | zero x q =>
    obtain ⟨v, hv⟩ := Option.isSome_iff_exists.mp (hal x (List.mem_singleton.mpr rfl))
    have hg : goRow (.zero x q) i e st = [.g (.n x) (decide (v = 0)) (if v = 0 then (i : Int) + 1 else q) st []] := by
      show (match get e x with | some v => [TR.g (.n x) (decide (v = 0)) (if v = 0 then (i : Int) + 1 else q) st []] | none => []) = _
      rw [hv]
    rw [hg]
    refine q_if (x := false) (et_is (et_test (ev_eqS (ev_ixT (ev_var rfl) (ev_int 0) rfl) (ev_str _))) (by decide)) (fun z => nomatch z) (fun _ => q_next ?_)
    refine q_if (x := false) (et_is (et_test (ev_neS (ev_ixT (ev_var rfl) (ev_int 0) rfl) (ev_str _))) (by decide)) (fun z => nomatch z) (fun _ => q_next ?_)
    refine q_if (x := decide (v = 0)) (et_test (ev_eqI (ev_dget (rd_dic (ev_var rfl)) (ev_ixT (d := .str x) (ev_var rfl) (ev_int 1) rfl) (look_get hv)) (ev_int 0))) (fun h => ?_) (fun h => q_next ?_)
    · have h0 : v = 0 := of_decide_eq_true h
      refine q_ret (s_retO (o := .lst [(TR.g (.n x) true ((i : Int) + 1) st []).pd]) (eo_lst (es_cons (ev_tup (es_cons (ev_str _) (es_cons (ev_ixT (d := .str x) (ev_var rfl) (ev_int 1) rfl) (es_cons (ev_bl true) (es_cons (e_add (ev_var rfl) (ev_int 1)) (es_cons (ev_var rfl) (es_cons (ev_tupZ es_nil (Nat.zero_le _)) es_nil)))))) (Nat.le_of_ble_eq_true rfl)) es_nil) (Nat.le_of_ble_eq_true rfl)) ?_)
      show Rt.own _ = Rt.own _
      rw [h, if_pos h0]; rfl
    · have h0 : ¬ v = 0 := of_decide_eq_false h
      refine s_retO (o := .lst [(TR.g (.n x) false q st []).pd]) (eo_lst (es_cons (ev_tup (es_cons (ev_str _) (es_cons (ev_ixT (d := .str x) (ev_var rfl) (ev_int 1) rfl) (es_cons (ev_bl false) (es_cons (ev_ixT (d := .int q) (ev_var rfl) (ev_int 2) rfl) (es_cons (ev_var rfl) (es_cons (ev_tupZ es_nil (Nat.zero_le _)) es_nil)))))) (Nat.le_of_ble_eq_true rfl)) es_nil) (Nat.le_of_ble_eq_true rfl)) ?_
      show Rt.own _ = Rt.own _
      rw [h, if_neg h0]; rfl
  | put y v => exact plain "put" rfl (by decide) (by decide) rfl
  | copy y s => exact plain "copy" rfl (by decide) (by decide) rfl
  | op w y a b => exact plain w.word rfl (by cases w <;> decide) (by cases w <;> decide) rfl
  | tell s => exact plain "tell" rfl (by decide) (by decide) rfl
  | stop => exact plain "stop" rfl (by decide) (by decide) rfl
end
section
variable {K : FK} {δ : AE} {ta tb : TE} {P : Post}
theorem over_none {rows : List Row} {i : Nat} (h : overAt rows i = false) : ∃ row, rows[i]? = some row ∧ row ≠ .stop := by
  unfold overAt at h
  cases hr : rows[i]? with
  | none => rw [hr] at h; cases h
  | some row =>
    rw [hr] at h
    exact ⟨row, rfl, fun e => by subst e; cases h⟩
theorem wr_over {rows : List Row} {start : Int} {n k i : Nat} {e : NE} {way : List TR} (h : overAt rows i = true) : wr rows start (n + 1) k (i : Int) e way = none := by
  show (if overAt rows (i : Int).toNat = true then none else _) = none
  rw [Int.toNat_natCast, if_pos h]
theorem wr_step {rows : List Row} {start p : Int} {n k i : Nat} {e e' : NE} {way : List TR} {row : Row} {ts : List Int} (h : overAt rows i = false) (hr : rows[i]? = some row) (hs : step row i e = some (p, e', ts)) :
    wr rows start (n + 1) k (i : Int) e way = if p = start then some (way ++ goRow row i e ((k : Int) + 1), (k : Int) + 1) else wr rows start n (k + 1) p e' (way ++ goRow row i e ((k : Int) + 1)) := by
  show (if overAt rows (i : Int).toNat = true then none else match rows[(i : Int).toNat]? with | none => none | some row => match step row i e with | none => none | some (p, e', _) => _) = _
  rw [Int.toNat_natCast, if_neg (by rw [h]; exact fun z => nomatch z), hr]
  show (match step row i e with | none => none | some (p, e', _) => _) = _
  rw [hs]
theorem goRow_len (row : Row) (i : Int) (e : NE) (st : Int) : (goRow row i e st).length ≤ 1 := by
  cases row with
  | jump q => exact Nat.zero_le _
  | zero y q =>
    show (match get e y with | some v => [TR.g (.n y) (decide (v = 0)) (if v = 0 then i + 1 else q) st []] | none => []).length ≤ 1
    cases get e y <;> exact Nat.le_of_ble_eq_true rfl
  | _ => exact Nat.le_refl _
theorem app_row {way : List TR} {row : Row} {i st : Int} {e : NE} (h : goRow row i e st = []) : ((way ++ goRow row i e st).map TR.pd) = way.map TR.pd := by rw [h, List.append_nil]
theorem app_row1 {way : List TR} {row : Row} {i st : Int} {e : NE} {t : TR} (h : goRow row i e st = [t]) : ((way ++ goRow row i e st).map TR.pd) = way.map TR.pd ++ [t.pd] := by rw [h, List.map_append]; rfl
/-- what a row leaves in the way -/
theorem way_turn {i : Nat} {row : Row} {e : NE} {st : Int} {way : List TR} {r0 r1 r2 r3 r5 : Sl} {M : AE → Prop} {rt : Rt → AE → Prop} {bk ct : AE → Prop} (hall : All e row) (hns : row ≠ .stop) (hl : way.length ≤ 2000)
    (k : M [r0, r1, r2, r3, .ow (.dic (encD e)), r5, .ow (.lst ((way ++ goRow row i e st).map TR.pd)), .sh (.int i), .sh (.int st), .sh row.pd]) :
    Sx K (tIfS (tTest (tOp rEq (tOp (rIxT K) (tVar 9) (tC (.int 0))) (tC (.str "zero")))) (tDrop (tBM K "list" rAppend (tVar 6) (tCons (tCall (sp_guard_of K) [] E0 (tCons (tVar 9) (tCons (tVar 7) (tCons (tVar 4) (tCons (tVar 8) (tNil)))))) (tNil)))) (tIfS (tTest (tOp rNe (tOp (rIxT K) (tVar 9) (tC (.int 0))) (tC (.str "jump")))) (tDrop (tBM K "list" rAppend (tVar 6) (tCons (tVar 9) (tNil)))) (tNext)))
      [r0, r1, r2, r3, .ow (.dic (encD e)), r5, .ow (.lst (way.map TR.pd)), .sh (.int i), .sh (.int st), .sh row.pd] { nx := M, rt := rt, bk := bk, ct := ct } := by
  have plain : ∀ z : Str, row.items[0]? = some (.str z) → z ≠ "jump" → z ≠ "zero" → goRow row i e st = [.r row] → Sx K (tIfS (tTest (tOp rEq (tOp (rIxT K) (tVar 9) (tC (.int 0))) (tC (.str "zero")))) (tDrop (tBM K "list" rAppend (tVar 6) (tCons (tCall (sp_guard_of K) [] E0 (tCons (tVar 9) (tCons (tVar 7) (tCons (tVar 4) (tCons (tVar 8) (tNil)))))) (tNil)))) (tIfS (tTest (tOp rNe (tOp (rIxT K) (tVar 9) (tC (.int 0))) (tC (.str "jump")))) (tDrop (tBM K "list" rAppend (tVar 6) (tCons (tVar 9) (tNil)))) (tNext)))
      [r0, r1, r2, r3, .ow (.dic (encD e)), r5, .ow (.lst (way.map TR.pd)), .sh (.int i), .sh (.int st), .sh row.pd] { nx := M, rt := rt, bk := bk, ct := ct } := fun z hz n1 n2 hg => by
    have e0 : atI row.items 0 = some (.str z) := atI_nat (j := 0) hz
    refine s_if (x := false) (et_is (et_test (ev_eqS (ev_ixT (ev_var rfl) (ev_int 0) e0) (ev_str "zero"))) (decide_eq_false n2)) (fun z => nomatch z) (fun _ => ?_)
    refine s_if (x := true) (et_is (et_test (ev_neS (ev_ixT (ev_var rfl) (ev_int 0) e0) (ev_str "jump"))) (by rw [decide_eq_false n1]; rfl)) (fun _ => ?_) (fun z => nomatch z)
    refine s_app (xs := way.map TR.pd) (d := row.pd) (Or.inl rfl) (ev_var rfl) (by rw [List.length_map]; omega) ?_
    show M [r0, r1, r2, r3, .ow (.dic (encD e)), r5, .ow (.lst (way.map TR.pd ++ [row.pd])), .sh (.int i), .sh (.int st), .sh row.pd]
    rw [app_row1 hg] at k
    exact k
  cases row with
  | jump q =>
    refine s_if (x := false) (et_is (et_test (ev_eqS (ev_ixT (ev_var rfl) (ev_int 0) rfl) (ev_str _))) (by decide)) (fun z => nomatch z) (fun _ => ?_)
    refine s_if (x := false) (et_is (et_test (ev_neS (ev_ixT (ev_var rfl) (ev_int 0) rfl) (ev_str _))) (by decide)) (fun z => nomatch z) (fun _ => ?_)
    rw [app_row rfl] at k
    exact sx_next k
  | zero x q =>
    obtain ⟨v, hv⟩ := Option.isSome_iff_exists.mp (hall x (List.mem_singleton.mpr rfl))
    have hg : goRow (.zero x q) i e st = [.g (.n x) (decide (v = 0)) (if v = 0 then (i : Int) + 1 else q) st []] := by
      show (match get e x with | some v => [TR.g (.n x) (decide (v = 0)) (if v = 0 then (i : Int) + 1 else q) st []] | none => []) = _
      rw [hv]
    refine s_if (x := true) (et_is (et_test (ev_eqS (ev_ixT (ev_var rfl) (ev_int 0) rfl) (ev_str _))) (by decide)) (fun _ => ?_) (fun z => nomatch z)
    refine s_app (xs := way.map TR.pd) (d := (TR.g (.n x) (decide (v = 0)) (if v = 0 then (i : Int) + 1 else q) st []).pd) (Or.inl rfl) ?_ (by rw [List.length_map]; omega) ?_
    · exact ev_borrowT (ev_call (P := P_guard_of) (es_cons (ev_var rfl) (es_cons (ev_var rfl) (es_cons (ev_var rfl) (es_cons (ev_var rfl) es_nil)))) ⟨x, q, i, e, v, st, hv, rfl, rfl⟩) rfl
    · rw [app_row1 hg] at k
      exact k
  | put y v => exact plain "put" rfl (by decide) (by decide) rfl
  | copy y s => exact plain "copy" rfl (by decide) (by decide) rfl
  | op w y a b => exact plain w.word rfl (by cases w <;> decide) (by cases w <;> decide) rfl
  | tell s => exact plain "tell" rfl (by decide) (by decide) rfl
  | stop => exact absurd rfl hns
end
section
variable {K : FK} {δ : AE} {ta tb : TE} {P : Post}
theorem named_of {rows : List Row} (hp : Prog rows) {row : Row} (hr : row ∈ rows) : Named row := (rowOk_named (hp.2 row hr)).1
theorem Okr.ex {rows : List Row} {e : NE} {m : Nat} (h : Okr rows e m) {row : Row} (hr : row ∈ rows) (hs : row ≠ .stop) (i : Int) : ∃ p e' ts, Lw.step row i e = some (p, e', ts) := step_some (h.all row hr) hs
theorem sx_written (ds : List PD) (r : Rt) (h : P_written ds r) : Sx K (t_written K) (ae 10 ds) (Gives r) := by
  obtain ⟨rows, start, e, most, hp, h0, hok, hm, rfl, rfl⟩ := h
  obtain ⟨st0, rfl⟩ := Int.eq_ofNat_of_zero_le h0
  unfold t_written
  refine q_asgO (o := .dic (encD e)) (eo_dictD (rd_dic (ev_var rfl))) ?_
  refine q_asgO (o := .lst (([] : List Int).map PD.int)) (eo_lst es_nil (Nat.zero_le _)) ?_
  refine q_asgO (o := .lst (([] : List TR).map TR.pd)) (eo_lst es_nil (Nat.zero_le _)) ?_
  refine q_asg (d := .int (st0 : Nat)) (ev_var rfl) rfl ?_
  let Inv : Nat → AE → Prop := fun j d => ∃ (i : Nat) (e' : NE) (us : List Int) (way : List TR), Okr rows e' (1000 + j) ∧ us.length ≤ j ∧ way.length ≤ j ∧ wr rows st0 (most - j) j i e' way = wr rows st0 most 0 st0 e [] ∧
    d = [.sh (.lst (rows.map Row.pd)), .sh (.int (st0 : Nat)), .sh (.dic (encD e)), .sh (.int (most : Nat)), .ow (.dic (encD e')), .ow (.lst (us.map PD.int)), .ow (.lst (way.map TR.pd)), .sh (.int i), .no, .no]
  refine q_forI (n := most) (f := fun i => .int ((i : Int) + 1)) [8, 9] Inv (ei_is (ei_rng2 (m := 1) (n := (most : Int) + 1) (es_cons (ev_int 1) (es_cons (e_add (ev_var rfl) (ev_int 1)) es_nil)) ⟨by decide, by decide⟩ ⟨by omega, by omega⟩) (by omega) (fun i _ => by rw [Int.add_comm])) ⟨st0, e, [], [], hok, Nat.le_refl _, Nat.le_refl _, rfl, rfl⟩ (fun j d hj hI => ⟨_, _, eg_name (by obtain ⟨i, e', us, way, _, _, _, _, rfl⟩ := hI; rfl), ?_⟩) (fun d hI => ?_)
  · obtain ⟨i, e', us, way, ok, hu, hw, he, rfl⟩ := hI
    obtain ⟨m, hm2⟩ : ∃ m, most - j = m + 1 := ⟨most - j - 1, by omega⟩
    have hm3 : m = most - (j + 1) := by omega
    rw [hm2] at he
    show Sx K _ [.sh (.lst (rows.map Row.pd)), .sh (.int (st0 : Nat)), .sh (.dic (encD e)), .sh (.int (most : Nat)), .ow (.dic (encD e')), .ow (.lst (us.map PD.int)), .ow (.lst (way.map TR.pd)), .sh (.int i), .sh (.int ((j : Int) + 1)), .no] _
    refine q_if (x := overAt rows i) (et_B (ev_call (P := P_is_over) (es_cons (ev_var rfl) (es_cons (ev_var rfl) es_nil)) ⟨rows, i, rfl, rfl⟩)) (fun h => ?_) (fun h => q_next ?_)
    · refine q_ret (s_ret ev_non ?_)
      show Rt.val .non = wrR st0 (wr rows st0 most 0 st0 e [])
      rw [← he, wr_over h]; rfl
    obtain ⟨row, hrow, hns⟩ := over_none h
    have hmem := List.mem_of_getElem? hrow
    obtain ⟨p, e2, ts, hs⟩ := ok.ex hmem hns (i : Int)
    obtain ⟨ok2, hp0, ht⟩ := ok.step hp hmem (by omega) hs
    rw [wr_step h hrow hs] at he
    refine q_asg (d := row.pd) (ev_ixL (rd_lst (ev_var rfl)) (ev_var rfl) (rows_at hrow)) rfl ?_
    refine sx_seq (M := fun d' => d' = [.sh (.lst (rows.map Row.pd)), .sh (.int (st0 : Nat)), .sh (.dic (encD e)), .sh (.int (most : Nat)), .ow (.dic (encD e')), .ow (.lst (us.map PD.int)), .ow (.lst ((way ++ goRow row i e' ((j : Int) + 1)).map TR.pd)), .sh (.int i), .sh (.int ((j : Int) + 1)), .sh row.pd])
      (way_turn (ok.all row hmem) hns (by omega) rfl) ?_
    intro d' ed
    subst ed
    have hl1 := ok.len
    refine q_doStep (i := 4) (j := 5) (k := 7) (row := row) (us := us) (e := e') (e' := e2) (ts := ts) (n := (i : Int)) (p := p) (ev_var rfl) (ev_var rfl) rfl rfl (by decide) ok.bd (by omega) (by omega) (named_of hp hmem) hs rfl ?_
    obtain ⟨q, rfl⟩ := Int.eq_ofNat_of_zero_le hp0
    refine s_if (x := decide ((q : Int) = st0)) (et_test (ev_eqI (ev_var rfl) (ev_var rfl))) (fun hq => ?_) (fun hq => ?_)
    · have hq := of_decide_eq_true hq
      rw [if_pos hq] at he
      refine s_retT (cs := [.inl (.int (st0 : Nat)), .inr (.lst ((way ++ goRow row i e' ((j : Int) + 1)).map TR.pd)), .inl (.int ((j : Int) + 1))]) (ecs_val (ev_var rfl) (ecs_own rfl (ecs_val (ev_var rfl) ecs_nil) (by decide))) (Nat.le_of_ble_eq_true rfl) ?_
      show _ = wrR st0 (wr rows st0 most 0 st0 e [])
      rw [← he]; rfl
    · have hq := of_decide_eq_false hq
      rw [if_neg hq] at he
      refine sx_next ⟨q, e2, us ++ ts, _, ?_, ?_, ?_, by rw [← hm3]; exact he, rfl⟩
      · exact ⟨ok2.bd, ok2.nd, ok2.all, by have := ok2.len; omega⟩
      · rw [List.length_append]; omega
      · have := goRow_len row i e' ((j : Int) + 1)
        rw [List.length_append]; omega
  · obtain ⟨i, e', us, way, ok, hu, hw, he, rfl⟩ := hI
    refine s_ret ev_non ?_
    show Rt.val .non = wrR st0 (wr rows st0 most 0 st0 e [])
    rw [← he, Nat.sub_self]; rfl
theorem sx_law_written (ds : List PD) (r : Rt) (h : P_law_written ds r) : Sx K (t_law_written K) (ae 8 ds) (Gives r) := by
  obtain ⟨rows, start, e, most, hp, h0, hok, hm, rfl, rfl⟩ := h
  obtain ⟨st0, rfl⟩ := Int.eq_ofNat_of_zero_le h0
  unfold t_law_written
  refine q_asgO (o := .lst (([] : List TR).map TR.pd)) (eo_lst es_nil (Nat.zero_le _)) (q_share (i := 4) rfl ?_)
  refine q_asg (d := .int (st0 : Nat)) (ev_var rfl) rfl ?_
  let Inv : Nat → AE → Prop := fun j d => ∃ (i : Nat) (e' : NE) (way : List TR), Okr rows e' (1000 + j) ∧ way.length ≤ j ∧ wr rows st0 (most - j) j i e' way = wr rows st0 most 0 st0 e [] ∧
    d = [.sh (.lst (rows.map Row.pd)), .sh (.int (st0 : Nat)), .sh (.dic (encD e')), .sh (.int (most : Nat)), .sh (.lst (way.map TR.pd)), .sh (.int i), .no, .no]
  refine q_forI (n := most) (f := fun i => .int ((i : Int) + 1)) [6, 7] Inv (ei_is (ei_rng2 (m := 1) (n := (most : Int) + 1) (es_cons (ev_int 1) (es_cons (e_add (ev_var rfl) (ev_int 1)) es_nil)) ⟨by decide, by decide⟩ ⟨by omega, by omega⟩) (by omega) (fun i _ => by rw [Int.add_comm])) ⟨st0, e, [], hok, Nat.le_refl _, rfl, rfl⟩ (fun j d hj hI => ⟨_, _, eg_name (by obtain ⟨i, e', way, _, _, _, rfl⟩ := hI; rfl), ?_⟩) (fun d hI => ?_)
  · obtain ⟨i, e', way, ok, hw, he, rfl⟩ := hI
    obtain ⟨m, hm2⟩ : ∃ m, most - j = m + 1 := ⟨most - j - 1, by omega⟩
    have hm3 : m = most - (j + 1) := by omega
    rw [hm2] at he
    show Sx K _ [.sh (.lst (rows.map Row.pd)), .sh (.int (st0 : Nat)), .sh (.dic (encD e')), .sh (.int (most : Nat)), .sh (.lst (way.map TR.pd)), .sh (.int i), .sh (.int ((j : Int) + 1)), .no] _
    refine q_if (x := overAt rows i) (et_B (ev_call (P := P_law_over) (es_cons (ev_var rfl) (es_cons (ev_var rfl) es_nil)) ⟨rows, i, rfl, rfl⟩)) (fun h => ?_) (fun h => q_next ?_)
    · refine q_ret (s_ret ev_non ?_)
      show Rt.val .non = Rt.val (wrD st0 (wr rows st0 most 0 st0 e []))
      rw [← he, wr_over h]; rfl
    obtain ⟨row, hrow, hns⟩ := over_none h
    have hmem := List.mem_of_getElem? hrow
    obtain ⟨p, e2, ts, hs⟩ := ok.ex hmem hns (i : Int)
    obtain ⟨ok2, hp0, ht⟩ := ok.step hp hmem (by omega) hs
    rw [wr_step h hrow hs] at he
    have hgl := goRow_len row i e' ((j : Int) + 1)
    refine q_asgO (o := .lst ((way ++ goRow row i e' ((j : Int) + 1)).map TR.pd)) (eo_is (eo_cat (rd_lst (ev_var rfl)) (rd_of_evo (eo_call (P := P_law_due_row) (es_cons (ev_var rfl) (es_cons (ev_var rfl) (es_cons (ev_var rfl) (es_cons (ev_var rfl) es_nil)))) ⟨rows, i, row, e', (j : Int) + 1, hrow, ok.all row hmem, rfl, rfl⟩)) (by rw [List.length_map, List.length_map]; omega)) (by rw [List.map_append])) ?_
    refine q_share (i := 4) rfl ?_
    have hl1 := ok.len
    refine q_asg (d := pdT p e2 ts) (ev_call (P := P_law_step) (es_cons (ev_var rfl) (es_cons (ev_var rfl) (es_cons (ev_var rfl) es_nil))) ⟨rows, i, row, e', p, e2, ts, ok.bd, (rowOk_named (hp.2 row hmem)).2, by omega, hrow, hs, rfl, rfl⟩) rfl ?_
    obtain ⟨q, rfl⟩ := Int.eq_ofNat_of_zero_le hp0
    refine q_asg (d := .int q) (ev_ixT (ev_var rfl) (ev_int 0) rfl) rfl ?_
    refine q_asg (d := .dic (encD e2)) (ev_ixT (ev_var rfl) (ev_int 1) rfl) rfl ?_
    refine s_if (x := decide ((q : Int) = st0)) (et_test (ev_eqI (ev_var rfl) (ev_var rfl))) (fun hq => ?_) (fun hq => ?_)
    · have hq := of_decide_eq_true hq
      rw [if_pos hq] at he
      refine s_ret (d := traceD st0 (way ++ goRow row i e' ((j : Int) + 1)) ((j : Int) + 1)) (ev_tup (es_cons (ev_var rfl) (es_cons (ev_var rfl) (es_cons (ev_var rfl) es_nil))) (Nat.le_of_ble_eq_true rfl)) ?_
      show _ = Rt.val (wrD st0 (wr rows st0 most 0 st0 e []))
      rw [← he]; rfl
    · have hq := of_decide_eq_false hq
      rw [if_neg hq] at he
      refine sx_next ⟨q, e2, _, ?_, ?_, by rw [← hm3]; exact he, rfl⟩
      · exact ⟨ok2.bd, ok2.nd, ok2.all, by have := ok2.len; omega⟩
      · rw [List.length_append]; omega
  · obtain ⟨i, e', way, ok, hw, he, rfl⟩ := hI
    refine s_ret ev_non ?_
    show Rt.val .non = Rt.val (wrD st0 (wr rows st0 most 0 st0 e []))
    rw [← he, Nat.sub_self]; rfl
end
local macro_rules | `(tactic| walk_at "ev") => `(tactic| first
  | assumption
  | ((with_reducible refine' ev_tupZ ?k1 ?k2); (case k1 => walk_at "es"); (case k2 => exact Nat.le_of_ble_eq_true rfl))
  | ((with_reducible refine' ev_isi ?k1 ?k2); (case k1 => walk_at "ev"); (case k2 => exact rfl))
  | ((with_reducible refine' ev_isi ?k1 ?k2); (case k1 => exact ev_unb (ev_var rfl)); (case k2 => exact rfl))
  | ((with_reducible refine' ev_andV ?k1 ?k2); (case k1 => walk_at "ev"); (case k2 => (intro _; walk_at "ev")))
  | ((with_reducible refine' ev_orV ?k1 ?k2); (case k1 => walk_at "ev"); (case k2 => (intro _; walk_at "ev")))
  | ((with_reducible refine' ev_whole ?k1 ?k2); (case k1 => walk_at "ev"); (case k2 => rfl))
  | ((with_reducible refine' ev_source ?k1 ?k2); (case k1 => walk_at "ev"); (case k2 => rfl)))
local macro_rules | `(tactic| walk_at "et") => `(tactic| first
  | ((with_reducible refine' et_and ?k1 ?k2); (case k1 => walk_at "et"); (case k2 => (intro _; walk_at "et")))
  | ((with_reducible refine' et_or ?k1 ?k2); (case k1 => walk_at "et"); (case k2 => (intro _; walk_at "et"))))
section
variable {K : FK} {δ : AE} {ta tb tx : TE} {P : Post}
theorem isSrc_ok {s : Src} (h : SOk s) : isSrc s.pd = true := by
  cases s with
  | n x => rfl
  | i v =>
    show (decide (0 ≤ v) && decide (v < 1000000)) = true
    rw [decide_eq_true h.1, decide_eq_true h.2]; rfl
theorem getD_map {α : Type} {f : α → PD} {xs : List α} {i : Nat} {x : α} (h : xs[i]? = some x) : (xs.map f).getD i .non = f x := by
  rw [List.getD_eq_getElem?_getD, List.getElem?_map, h]; rfl
theorem range_getD {α : Type} (f : PD → α) (ds : List PD) : (List.range ds.length).map (fun i => f (ds.getD i .non)) = ds.map f := by
  apply List.ext_getElem?
  intro i
  rw [List.getElem?_map, List.getElem?_map]
  by_cases hi : i < ds.length
  · rw [List.getElem?_range hi, List.getElem?_eq_getElem hi]
    show some (f (ds.getD i .non)) = _
    rw [List.getD_eq_getElem?_getD, List.getElem?_eq_getElem hi]; rfl
  · rw [List.getElem?_eq_none (by rw [List.length_range]; omega), List.getElem?_eq_none (by omega)]
    rfl
theorem pairs_kds (reps : List (Str × Src)) : reps.map pairPD = (reps.map fun q => ((Sum.inr q.1 : Key), q.2.pd)).map fun kd => PD.tup [kPD kd.1, kd.2] := by
  rw [List.map_map]; rfl
theorem keys_nodup {reps : List (Str × Src)} (h : (reps.map (·.1)).Nodup) : (((reps.map fun q => ((Sum.inr q.1 : Key), q.2.pd))).map (·.1)).Nodup := by
  have e : ((reps.map fun q => ((Sum.inr q.1 : Key), q.2.pd))).map (·.1) = (reps.map (·.1)).map (fun x => (Sum.inr x : Key)) := by
    rw [List.map_map, List.map_map]; rfl
  rw [e]
  exact List.Pairwise.map _ (fun a b h e => h (Sum.inr.inj e)) h
theorem sx_law_guard (ds : List PD) (r : Rt) (h : P_law_guard ds r) : Sx K (t_law_guard K) (ae 2 ds) (Gives r) := by
  obtain ⟨s, n, p, st, reps, ⟨hs, hr, hn, hz⟩, rfl, rfl⟩ := h
  unfold t_law_guard
  have e5 : Evd K (tOp (rIxT K) (tVar 0) (tC (.int 5))) (ae 2 [(TR.g s n p st reps).pd]) (.btup (reps.map pairPD)) := ev_ixT (ev_var rfl) (ev_int 5) rfl
  refine q_if (x := false) ?_ (fun z => nomatch z) (fun _ => q_next ?_)
  · refine et_or (x := false) (et_is (et_test (ev_neI (ev_lenT (ds := (TR.g s n p st reps).items) (ev_var rfl)) (ev_int 6))) rfl) fun _ => ?_
    refine et_or (x := false) (et_is (et_not (et_B (ev_source (d := s.pd) (ev_ixT (ev_var rfl) (ev_int 1) rfl) (tyOk_src (isSrc_ok hs))))) (by rw [isSrc_ok hs]; rfl)) fun _ => ?_
    refine et_or (x := false) (et_not (x := true) (et_B (ev_isi (d := .bl n) (ev_ixT (ev_var rfl) (ev_int 2) rfl) rfl))) fun _ => ?_
    exact et_not (x := true) (et_B (ev_isi e5 rfl))
  refine q_if (x := false) ?_ (fun z => nomatch z) (fun _ => q_next ?_)
  · refine et_or (x := false) (et_not (x := true) (et_B (ev_whole (d := .int p) (ev_ixT (ev_var rfl) (ev_int 3) rfl)))) fun _ => ?_
    exact et_not (x := true) (et_B (ev_whole (d := .int st) (ev_ixT (ev_var rfl) (ev_int 4) rfl)))
  refine q_forD (n := reps.length) (f := fun i => (reps.map pairPD).getD i .non) [1] (fun _ => [.sh (TR.g s n p st reps).pd, .no]) (ei_is (ei_tup (ev_unb e5)) (by rw [List.length_map]) (fun _ _ => rfl)) rfl (fun i hi => ⟨_, _, eg_name rfl, ?_⟩) ?_
  · obtain ⟨q, hq⟩ : ∃ q, reps[i]? = some q := ⟨_, List.getElem?_eq_getElem hi⟩
    rw [getD_map hq]
    have hq2 := hr q (List.mem_of_getElem? hq)
    refine s_if (x := false) ?_ (fun z => nomatch z) (fun _ => sx_next rfl)
    refine et_or (x := false) (et_not (x := true) (et_B (ev_isi (d := pairPD q) (ev_var rfl) rfl))) fun _ => ?_
    refine et_or (x := false) (et_is (et_test (ev_neI (ev_lenT (ds := [.str q.1, q.2.pd]) (ev_var rfl)) (ev_int 2))) rfl) fun _ => ?_
    refine et_or (x := false) (et_not (x := true) (et_B (ev_isi (d := .str q.1) (ev_ixT (ds := [.str q.1, q.2.pd]) (ev_var rfl) (ev_int 0) rfl) rfl))) fun _ => ?_
    exact et_is (et_not (et_B (ev_source (d := q.2.pd) (ev_ixT (ds := [.str q.1, q.2.pd]) (ev_var rfl) (ev_int 1) rfl) (tyOk_src (isSrc_ok hq2.2))))) (by rw [isSrc_ok hq2.2]; rfl)
  · have el : Evd K (tCB rLenD (tCons (tCB (Fw.rDictPT K) (tCons (tOp (rIxT K) (tVar 0) (tC (.int 5))) (tNil))) (tNil))) [.sh (TR.g s n p st reps).pd, .no] (.int reps.length) := by
      refine ev_is (ev_lenD (rd_of_evo (eo_dictPT (kds := reps.map fun q => ((Sum.inr q.1 : Key), q.2.pd)) (ev_is (a := .btup (reps.map pairPD)) (ev_ixT (ev_var rfl) (ev_int 5) rfl) (by rw [pairs_kds])) (keys_nodup hn)))) (by rw [List.length_map])
    exact s_ret (ev_is (ev_eqI el (ev_is (ev_lenT (ev_unb (ds := reps.map pairPD) (ev_ixT (ev_var rfl) (ev_int 5) rfl))) (by rw [List.length_map]))) (by rw [decide_eq_true rfl])) rfl
/-- d.get(k, x) -/
theorem ev_dget2 {kds : List (Key × PD)} {z : Str} {d0 : PD} (ha : Rdo K ta δ (.dic kds)) (hb : Evd K tb δ (.str z)) (hc : Evd K tx δ d0) : Evd K (tDGet2 ta tb tx) δ ((look kds (.inr z)).getD d0) := fun B G H σ R Q q =>
  ha B G H σ R _ fun p G1 H1 R1 s1 ok => by
    obtain ⟨kvs, hp, rs⟩ := ok
    refine ⟨p, rfl, Or.inl ⟨kvs, Or.inl hp⟩, hb B G1 H1 σ R1 _ fun y G2 H2 R2 s2 ry => hc B G2 H2 σ R2 _ fun w G3 H3 R3 s3 rw3 => ?_⟩
    rw [ry.flat rfl]
    have r := ((rs.mono s2.eg).mono s3.eg).val (.inr z)
    refine ⟨valV kvs (Sum.inr z : Key), Or.inl ⟨kvs, .inr z, Or.inl (s3.eh.get _ _ (s2.eh.get _ _ hp)), rfl, rfl⟩, ?_⟩
    cases hv : valV kvs (Sum.inr z : Key) with
    | none =>
      rw [hv] at r
      cases hl : look kds (Sum.inr z : Key) with
      | none =>
        rw [hl] at q
        exact q w G3 H3 R3 ((s1.trans s2).trans s3) rw3
      | some d => rw [hl] at r; exact r.elim
    | some v =>
      rw [hv] at r
      cases hl : look kds (Sum.inr z : Key) with
      | none => rw [hl] at r; exact r.elim
      | some d =>
        rw [hl] at q r
        exact q v G3 H3 R3 ((s1.trans s2).trans s3) r
def sizesK : List (Key × PD) := [(.inr "put", .int 3), (.inr "copy", .int 3), (.inr "add", .int 4), (.inr "minus", .int 4), (.inr "times", .int 4), (.inr "less", .int 4), (.inr "tell", .int 2)]
theorem sizes_nd : (sizesK.map (·.1)).Nodup := by decide
theorem eo_sizes : Evo K (tDisp [(tC (.str "put"), tC (.int 3)), (tC (.str "copy"), tC (.int 3)), (tC (.str "add"), tC (.int 4)), (tC (.str "minus"), tC (.int 4)), (tC (.str "times"), tC (.int 4)), (tC (.str "less"), tC (.int 4)), (tC (.str "tell"), tC (.int 2))]) δ (.dic sizesK) :=
  eo_is (eo_disp (kds := sizesK) (eps_cons (ev_str "put") rfl (ev_int 3) (eps_cons (ev_str "copy") rfl (ev_int 3) (eps_cons (ev_str "add") rfl (ev_int 4) (eps_cons (ev_str "minus") rfl (ev_int 4) (eps_cons (ev_str "times") rfl (ev_int 4) (eps_cons (ev_str "less") rfl (ev_int 4) (eps_cons (ev_str "tell") rfl (ev_int 2) eps_nil))))))) (Nat.le_of_ble_eq_true rfl)) (by rw [merge_nodup sizesK [] (by rw [List.nil_append]; exact sizes_nd)]; rfl)
theorem ev_srcs {i : Nat} {items : List PD} {h2 : δ[i]? = some (.sh (.tup items))} (hw : (wipeA δ [3])[i]? = δ[i]?) (h3 : 3 < δ.length) (np : notPn (wipeA δ [3]) 3 = true) (hs : ∀ d ∈ items.drop 1, isSrc d = true) (hl : items.length ≤ 1000) :
    Evd K (tCB (rAll K) (tCons (tLc (iTup K (tSl (rSlA K) (tVar i) (tPart (tC (.int 1))) (tNoPart))) (gName 3) (tYes) (tCall (sp_law_source K) [] E0 (tCons (tVar 3) (tNil))) [3]) (tNil))) δ (.bl true) := by
  have hcl : (cutD items (some 1) none).length ≤ 1000 := by rw [cut1, List.length_drop]; omega
  have hso : ∀ j, j < (cutD items (some 1) none).length → tyOk ((cutD items (some 1) none).getD j .non) = true := fun j hj => by
    refine tyOk_src (hs _ ?_)
    rw [List.getD_eq_getElem?_getD, List.getElem?_eq_getElem hj, ← cut1]
    exact List.getElem_mem hj
  refine ev_is (ev_all (bs := (cutD items (some 1) none).map isSrc) (rd_of_evo (eo_is (eo_lc (n := (cutD items (some 1) none).length) (f := fun i => (cutD items (some 1) none).getD i .non) (fun _ => true) (fun i => PD.bl (isSrc ((cutD items (some 1) none).getD i .non))) (ei_tup (ev_slT (ev_var h2) (ep_some (ev_int 1)) ep_none)) (by omega) (fun j hj => ⟨_, _, eg_name np, fun j hj => hj, et_yes, fun _ => ev_source (ev_var (by rw [List.getElem?_set_self (by unfold wipeA wipeA; rw [fo_len]; exact h3)])) (hso j hj)⟩)) ?_))) ?_
  · rw [given_all, range_getD (fun d => PD.bl (isSrc d)), List.map_map]; rfl
  · have : ((cutD items (some 1) none).map isSrc).all id = true := by
      rw [List.all_eq_true]
      intro b hb
      obtain ⟨d, hd, e⟩ := List.mem_map.mp hb
      rw [cut1] at hd
      rw [← e]; exact hs d hd
    rw [this]
theorem trow_head (t : TR) (h : TOk t) : (∃ s n p st reps, t = .g s n p st reps) ∨ ∃ (z : Str) (n : Nat), t.items[0]? = some (.str z) ∧ z ≠ "guard" ∧ look sizesK (.inr z) = some (.int n) ∧ t.items.length = n ∧ 2 ≤ n ∧ (∀ d ∈ t.items.drop 1, isSrc d = true) ∧ (z ≠ "tell" → ∃ x, t.items[1]? = some (.str x)) ∧ (z = "put" → ∃ v, t.items[2]? = some (.int v)) := by
  cases t with
  | g s n p st reps => exact Or.inl ⟨s, n, p, st, reps, rfl⟩
  | r row =>
    refine Or.inr ?_
    cases row with
    | put x v =>
      refine ⟨"put", 3, rfl, by decide, rfl, rfl, by decide, fun d hd => ?_, fun _ => ⟨x, rfl⟩, fun _ => ⟨v, rfl⟩⟩
      rcases List.mem_cons.mp hd with e | hd
      · subst e; rfl
      · rw [List.mem_singleton.mp hd]; exact isSrc_ok (s := .i v) h.2
    | copy x s =>
      refine ⟨"copy", 3, rfl, by decide, rfl, rfl, by decide, fun d hd => ?_, fun _ => ⟨x, rfl⟩, fun z => absurd z (by decide)⟩
      rcases List.mem_cons.mp hd with e | hd
      · subst e; rfl
      · rw [List.mem_singleton.mp hd]; exact isSrc_ok h.2
    | op w x a b =>
      refine ⟨w.word, 4, rfl, by cases w <;> decide, by cases w <;> rfl, rfl, by decide, fun d hd => ?_, fun _ => ⟨x, rfl⟩, fun z => absurd z (by cases w <;> decide)⟩
      rcases List.mem_cons.mp hd with e | hd
      · subst e; rfl
      rcases List.mem_cons.mp hd with e | hd
      · subst e; exact isSrc_ok h.2.1
      · rw [List.mem_singleton.mp hd]; exact isSrc_ok h.2.2
    | tell s =>
      refine ⟨"tell", 2, rfl, by decide, rfl, rfl, by decide, fun d hd => ?_, fun z => absurd rfl z, fun z => absurd z (by decide)⟩
      rw [List.mem_singleton.mp hd]; exact isSrc_ok h
    | jump q => exact h.elim
    | zero x q => exact h.elim
    | stop => exact h.elim
end
section
variable {K : FK} {δ : AE} {ta tb tx : TE} {P : Post}
theorem n_le {z : Str} {n : Nat} (h : look sizesK (.inr z) = some (.int n)) : n ≤ 4 := by
  have key : ∀ (ks : List (Key × PD)), (∀ kd ∈ ks, ∀ m : Nat, kd.2 = .int m → m ≤ 4) → look ks (.inr z) = some (.int n) → n ≤ 4 := fun ks hk h => by
    unfold look at h
    obtain ⟨kd, h1, h2⟩ := Option.map_eq_some_iff.mp h
    exact hk kd (List.mem_of_find?_eq_some h1) n h2
  refine key sizesK (fun kd hk m e => ?_) h
  unfold sizesK at hk
  simp only [List.mem_cons, List.not_mem_nil, or_false] at hk
  rcases hk with rfl | rfl | rfl | rfl | rfl | rfl | rfl <;> (injection e with e; omega)
theorem sx_law_trace (ds : List PD) (r : Rt) (h : P_law_trace ds r) : Sx K (t_law_trace K) (ae 4 ds) (Gives r) := by
  obtain ⟨start, rows, steps, hr, rfl, rfl⟩ := h
  unfold t_law_trace
  refine q_if (x := false) ?_ (fun z => nomatch z) (fun _ => q_next ?_)
  · refine et_or (x := false) (et_not (x := true) (et_B (ev_isi (d := traceD start rows steps) (ev_var rfl) rfl))) fun _ => ?_
    refine et_or (x := false) (et_is (et_test (ev_neI (ev_lenT (ds := [.int start, .lst (rows.map TR.pd), .int steps]) (ev_var rfl)) (ev_int 3))) rfl) fun _ => ?_
    exact et_not (x := true) (et_B (ev_isi (d := .lst (rows.map TR.pd)) (ev_ixT (ds := [.int start, .lst (rows.map TR.pd), .int steps]) (ev_var rfl) (ev_int 1) rfl) rfl))
  refine q_asgO (o := .dic sizesK) eo_sizes (q_share (i := 1) rfl ?_)
  refine q_forD (n := rows.length) (f := fun i => (rows.map TR.pd).getD i .non) [2, 3] (fun _ => [.sh (traceD start rows steps), .sh (.dic sizesK), .no, .no]) (ei_is (ei_list (ds := rows.map TR.pd) (ev_ixT (ds := [.int start, .lst (rows.map TR.pd), .int steps]) (ev_var rfl) (ev_int 1) rfl)) (by rw [List.length_map]) (fun _ _ => rfl)) rfl (fun i hi => ⟨_, _, eg_name rfl, ?_⟩) ?_
  · obtain ⟨t, ht⟩ : ∃ t, rows[i]? = some t := ⟨_, List.getElem?_eq_getElem hi⟩
    rw [getD_map ht]
    have hok := hr t (List.mem_of_getElem? ht)
    show Sx K _ [.sh (traceD start rows steps), .sh (.dic sizesK), .sh (.tup t.items), .no] _
    rcases trow_head t hok with ⟨s, n, p, st, reps, rfl⟩ | ⟨z, n, h0, hg, hl, hlen, h2, hsrc, htell, hput⟩
    · refine q_if (x := false) ?_ (fun z => nomatch z) (fun _ => q_next ?_)
      · refine et_or (x := false) (et_not (x := true) (et_B (ev_isi (d := .tup (TR.g s n p st reps).items) (ev_var rfl) rfl))) fun _ => ?_
        refine et_or (x := false) (et_is (et_test (e_lt (ev_lenT (ds := (TR.g s n p st reps).items) (ev_var rfl)) (ev_int 2))) rfl) fun _ => ?_
        exact et_not (x := true) (et_B (ev_isi (d := .str "guard") (ev_ixT (ds := (TR.g s n p st reps).items) (ev_var rfl) (ev_int 0) rfl) rfl))
      refine s_if (x := true) (et_is (et_test (ev_eqS (ev_ixT (ds := (TR.g s n p st reps).items) (ev_var rfl) (ev_int 0) rfl) (ev_str "guard"))) (by decide)) (fun _ => ?_) (fun z => nomatch z)
      exact s_if (x := false) (et_not (x := true) (et_B (ev_call (P := P_law_guard) (es_cons (ev_var rfl) es_nil) ⟨s, n, p, st, reps, hok, rfl, rfl⟩))) (fun z => nomatch z) (fun _ => sx_next rfl)
    · have e0 : atI t.items 0 = some (.str z) := atI_nat (j := 0) h0
      refine q_if (x := false) ?_ (fun z => nomatch z) (fun _ => q_next ?_)
      · refine et_or (x := false) (et_not (x := true) (et_B (ev_isi (d := .tup t.items) (ev_var rfl) rfl))) fun _ => ?_
        refine et_or (x := false) (et_is (et_test (e_lt (ev_lenT (ds := t.items) (ev_var rfl)) (ev_int 2))) (decide_eq_false (by omega))) fun _ => ?_
        exact et_not (x := true) (et_B (ev_isi (d := .str z) (ev_ixT (ds := t.items) (ev_var rfl) (ev_int 0) e0) rfl))
      refine s_if (x := false) (et_is (et_test (ev_eqS (ev_ixT (ds := t.items) (ev_var rfl) (ev_int 0) e0) (ev_str "guard"))) (decide_eq_false hg)) (fun z => nomatch z) (fun _ => ?_)
      refine s_if (x := false) ?_ (fun z => nomatch z) (fun _ => ?_)
      · refine et_or (x := false) (et_is (et_test (ev_neI (ev_lenT (ds := t.items) (ev_var rfl)) (ev_is (b := .int n) (ev_dget2 (kds := sizesK) (d0 := .int 0) (rd_dic (ev_var rfl)) (ev_ixT (ds := t.items) (ev_var rfl) (ev_int 0) e0) (ev_int 0)) (by rw [hl]; rfl)))) (by rw [hlen, decide_eq_true rfl]; rfl)) fun _ => ?_
        exact et_not (x := true) (et_B (ev_srcs (i := 2) (items := t.items) (h2 := rfl) rfl (by show 3 < 4; decide) rfl hsrc (by rw [hlen]; have := hl; exact Nat.le_trans (n_le hl) (by decide))))
      refine s_if (x := false) ?_ (fun z => nomatch z) (fun _ => sx_next rfl)
      refine et_or (x := false) ?_ (fun _ => ?_)
      · by_cases ht : z = "tell"
        · exact et_is (et_and (x := false) (y := false) (et_is (et_test (ev_neS (ev_ixT (ds := t.items) (ev_var rfl) (ev_int 0) e0) (ev_str "tell"))) (by rw [decide_eq_true ht]; rfl)) (fun z => nomatch z)) rfl
        · obtain ⟨x, hx⟩ := htell ht
          exact et_is (et_and (x := true) (y := false) (et_is (et_test (ev_neS (ev_ixT (ds := t.items) (ev_var rfl) (ev_int 0) e0) (ev_str "tell"))) (by rw [decide_eq_false ht]; rfl)) (fun _ => et_not (x := true) (et_B (ev_isi (d := .str x) (ev_ixT (ds := t.items) (ev_var rfl) (ev_int 1) (atI_nat (j := 1) hx)) rfl)))) rfl
      · by_cases hp : z = "put"
        · obtain ⟨v, hv⟩ := hput hp
          exact et_is (et_and (x := true) (y := false) (et_is (et_test (ev_eqS (ev_ixT (ds := t.items) (ev_var rfl) (ev_int 0) e0) (ev_str "put"))) (decide_eq_true hp)) (fun _ => et_not (x := true) (et_B (ev_whole (d := .int v) (ev_ixT (ds := t.items) (ev_var rfl) (ev_int 2) (atI_nat (j := 2) hv)))))) rfl
        · exact et_is (et_and (x := false) (y := false) (et_is (et_test (ev_eqS (ev_ixT (ds := t.items) (ev_var rfl) (ev_int 0) e0) (ev_str "put"))) (decide_eq_false hp)) (fun z => nomatch z)) rfl
  · exact s_ret (ev_andV (x := true) (ev_whole (d := .int start) (ev_ixT (ds := [.int start, .lst (rows.map TR.pd), .int steps]) (ev_var rfl) (ev_int 0) rfl)) (fun _ => ev_whole (d := .int steps) (ev_ixT (ds := [.int start, .lst (rows.map TR.pd), .int steps]) (ev_var rfl) (ev_int 2) rfl))) rfl
end
section
variable {K : FK} {δ : AE} {ta tb tx : TE} {P : Post}
/-- may be compared, nested at most so deep -/
structure Shp (k : Nat) (d : PD) : Prop where
  can : (pyOf d).canLay0 = true
  pl : plain d = true
  dp : (pyOf d).depth ≤ k
theorem shp_all {k : Nat} : ∀ {ds : List PD}, (∀ d ∈ ds, Shp k d) → PyData.canLayAll0 (pyAll ds) = true ∧ plainAll ds = true ∧ PyData.depthAll (pyAll ds) ≤ k
  | [], _ => ⟨rfl, rfl, Nat.zero_le _⟩
  | d :: ds, h => by
    obtain ⟨h1, h2, h3⟩ := h d List.mem_cons_self
    obtain ⟨h4, h5, h6⟩ := shp_all fun x hx => h x (List.mem_cons_of_mem _ hx)
    refine ⟨?_, ?_, ?_⟩
    · show ((pyOf d).canLay0 && PyData.canLayAll0 (pyAll ds)) = true
      rw [h1, h4]; rfl
    · show (plain d && plainAll ds) = true
      rw [h2, h5]; rfl
    · show max (pyOf d).depth (PyData.depthAll (pyAll ds)) ≤ k
      omega
theorem shp_tup {k : Nat} {ds : List PD} (h : ∀ d ∈ ds, Shp k d) : Shp (k + 1) (.tup ds) := by
  obtain ⟨h4, h5, h6⟩ := shp_all h
  exact ⟨h4, h5, by show PyData.depthAll (pyAll ds) + 1 ≤ k + 1; omega⟩
theorem shp_btup {k : Nat} {ds : List PD} (h : ∀ d ∈ ds, Shp k d) : Shp (k + 1) (.btup ds) := by
  obtain ⟨h4, h5, h6⟩ := shp_all h
  exact ⟨h4, h5, by show PyData.depthAll (pyAll ds) + 1 ≤ k + 1; omega⟩
theorem shp_lst {k : Nat} {ds : List PD} (h : ∀ d ∈ ds, Shp k d) : Shp (k + 1) (.lst ds) := by
  obtain ⟨h4, h5, h6⟩ := shp_all h
  exact ⟨h4, h5, by show PyData.depthAll (pyAll ds) + 1 ≤ k + 1; omega⟩
theorem Shp.mono {k m : Nat} {d : PD} (h : Shp k d) (e : k ≤ m) : Shp m d := ⟨h.can, h.pl, Nat.le_trans h.dp e⟩
theorem shp_int (k : Nat) (v : Int) : Shp k (.int v) := ⟨rfl, rfl, Nat.zero_le _⟩
theorem shp_bl (k : Nat) (v : Bool) : Shp k (.bl v) := ⟨rfl, rfl, Nat.zero_le _⟩
theorem shp_str (k : Nat) {x : Str} (h : PySem.PyData.strOk x = true) : Shp k (.str x) := ⟨h, rfl, Nat.zero_le _⟩
theorem shp_name (k : Nat) {x : Str} (h : nameOk x) : Shp k (.str x) := shp_str k (name_str h)
theorem shp_src (k : Nat) {s : Src} (h : SOk s) : Shp k s.pd := by
  cases s with
  | n x => exact shp_name k h
  | i v => exact shp_int k v
theorem shp_trow {t : TR} (h : TOk t) : Shp 4 t.pd := by
  have c : ∀ {k : Nat} {d : PD} {ds : List PD}, Shp k d → (∀ x ∈ ds, Shp k x) → ∀ x ∈ d :: ds, Shp k x := fun h1 h2 x hx => (List.mem_cons.mp hx).elim (fun e => e ▸ h1) (h2 x)
  have nl : ∀ {k : Nat}, ∀ x ∈ ([] : List PD), Shp k x := fun x hx => nomatch hx
  cases t with
  | r row =>
    cases row with
    | put x v => exact (shp_tup (k := 0) (c (shp_str 0 (by decide +kernel)) (c (shp_name 0 h.1) (c (shp_int 0 v) nl)))).mono (by decide)
    | copy x s => exact (shp_tup (k := 0) (c (shp_str 0 (by decide +kernel)) (c (shp_name 0 h.1) (c (shp_src 0 h.2) nl)))).mono (by decide)
    | op w x a b => exact (shp_tup (k := 0) (c (shp_str 0 (by cases w <;> decide +kernel)) (c (shp_name 0 h.1) (c (shp_src 0 h.2.1) (c (shp_src 0 h.2.2) nl))))).mono (by decide)
    | tell s => exact (shp_tup (k := 0) (c (shp_str 0 (by decide +kernel)) (c (shp_src 0 h) nl))).mono (by decide)
    | jump q => exact h.elim
    | zero x q => exact h.elim
    | stop => exact h.elim
  | g s n p st reps =>
    refine shp_tup (k := 3) (c (shp_str 3 (by decide +kernel)) (c (shp_src 3 h.1) (c (shp_bl 3 n) (c (shp_int 3 p) (c (shp_int 3 st) (c ?_ nl))))))
    refine shp_btup (k := 2) fun d hd => ?_
    obtain ⟨q, hq, e⟩ := List.mem_map.mp hd
    subst e
    have h2 := h.2.1 q hq
    exact (shp_tup (k := 0) (c (shp_name 0 h2.1) (c (shp_src 0 h2.2) nl))).mono (by decide)
theorem shp_rows {rows : List TR} (h : ∀ t ∈ rows, TOk t) : Shp 5 (.lst (rows.map TR.pd)) := shp_lst fun d hd => by
  obtain ⟨t, ht, e⟩ := List.mem_map.mp hd
  subst e
  exact shp_trow (h t ht)
theorem shp_trace {start steps : Int} {rows : List TR} (h : ∀ t ∈ rows, TOk t) : Shp 6 (traceD start rows steps) := shp_tup (k := 5) fun d hd => by
  rcases List.mem_cons.mp hd with e | hd
  · subst e; exact shp_int 5 _
  rcases List.mem_cons.mp hd with e | hd
  · subst e; exact shp_rows h
  · rw [List.mem_singleton.mp hd]; exact shp_int 5 _
theorem Shp.shaped {k : Nat} {d : PD} (h : Shp k d) (hk : k ≤ 64) : PySem.SeqAt.shaped (pyOf d) = true := by
  show ((pyOf d).canLay0 && decide ((pyOf d).depth ≤ 64)) = true
  rw [h.can, decide_eq_true (Nat.le_trans h.dp hk)]; rfl
theorem ev_eqS' {d : PD} {k : Nat} (ha : Evd K ta δ d) (hb : Evd K tb δ d) (h : Shp k d) (hk : k ≤ 64 := by decide) : Evd K (tOp (rEqD K) ta tb) δ (.bl true) := ev_eqD ha hb h.pl (h.shaped hk)
theorem ev_neS' {d : PD} {k : Nat} (ha : Evd K ta δ d) (hb : Evd K tb δ d) (h : Shp k d) (hk : k ≤ 64 := by decide) : Evd K (tOp (rNeD K) ta tb) δ (.bl false) := ev_neD ha hb h.pl (h.shaped hk)
theorem wr_ok {rows : List Row} (hp : Prog rows) {start : Int} : ∀ (n k : Nat) (i : Int) (e : NE) (way : List TR) (w : List TR) (st : Int), (∀ t ∈ way, TOk t) → 0 ≤ i → wr rows start n k i e way = some (w, st) → ∀ t ∈ w, TOk t
  | 0, _, _, _, _, _, _, _, _, h => by cases h
  | n + 1, k, i, e, way, w, st, hw, hi, h => by
    obtain ⟨j, rfl⟩ := Int.eq_ofNat_of_zero_le hi
    cases ho : overAt rows j with
    | true => rw [wr_over ho] at h; cases h
    | false =>
      obtain ⟨row, hrow, hns⟩ := over_none ho
      have hmem := List.mem_of_getElem? hrow
      cases hs : Lw.step row j e with
      | none =>
        have : wr rows start (n + 1) k (j : Int) e way = none := by
          show (if overAt rows (j : Int).toNat = true then none else match rows[(j : Int).toNat]? with | none => none | some row => match Lw.step row j e with | none => none | some (p, e', _) => _) = none
          rw [Int.toNat_natCast, if_neg (by rw [ho]; exact fun z => nomatch z), hrow]
          show (match Lw.step row j e with | none => none | some (p, e', _) => _) = none
          rw [hs]
        rw [this] at h; cases h
      | some x =>
        obtain ⟨p, e', ts⟩ := x
        rw [wr_step ho hrow hs] at h
        have hall : ∀ t ∈ way ++ goRow row j e ((k : Int) + 1), TOk t := fun t ht => (List.mem_append.mp ht).elim (hw t) (goRow_ok hp hmem hns _ _ _ t)
        by_cases hq : p = start
        · rw [if_pos hq] at h
          cases h
          exact hall
        · rw [if_neg hq] at h
          exact wr_ok hp n (k + 1) p e' _ w st hall (step_place hp hmem hi hs) h
abbrev rSumS (K : PySem.W.Frag) : List V → Hp → VK → Prop := rSum K
theorem ev_sum {ns : List Int} (ha : Evd K ta δ (.scr ns)) : Evd K (tCB (rSum K) (tCons ta tNil)) δ (.int ns.sum) := fun B G H σ R Q q =>
  ha B G H σ R _ fun x G1 H1 R1 s1 rx => by
    cases rx with
    | @scr p _ hp => exact ⟨p, ns, rfl, same_sqL R1.gh hp, q _ G1 H1 R1 s1 (.int _)⟩
def isNon : PD → Bool
  | .non => true
  | _ => false
theorem ev_isN {d : PD} (ha : Evd K ta δ d) : Evd K (tIsN ta) δ (.bl (isNon d)) := fun B G H σ R Q q =>
  ha B G H σ R _ fun x G1 H1 R1 s1 rx => by
    have e : decide (x = V.non) = isNon d := by
      cases rx <;> first | rfl | exact decide_eq_false (fun z => nomatch z)
    show Q (.bl (decide (x = .non))) H1
    rw [e]
    exact q _ G1 H1 R1 s1 (.bl _)
end
/-! ### a round of a trace -/
def reVals (e : NE) : List (Str × Src) → Option NE
  | [] => some []
  | (x, s) :: r => (sv e s).bind fun v => (reVals e r).map fun vs => (x, v) :: vs
def eputs (e : NE) (xs : NE) : NE := xs.foldl (fun acc q => eput acc q.1 q.2) e
abbrev RRes := Bool × Int × NE × List Int × Int
def goR (start steps : Int) : List TR → NE → List Int → Option RRes
  | [], e, ts => some (true, start, e, ts, steps)
  | .g s n p st reps :: rs, e, ts => (sv e s).bind fun v => if decide (v = 0) = n then goR start steps rs e ts else (reVals e reps).map fun vs => (false, p, eputs e vs, ts, st)
  | .r row :: rs, e, ts => (done e row).bind fun e' => goR start steps rs e' (ts ++ tells e row)
def resPD (x : RRes) : PD := .tup [.bl x.1, .int x.2.1, .dic (encD x.2.2.1), .lst (x.2.2.2.1.map PD.int), .int x.2.2.2.2]
def resRt (x : RRes) : Rt := .otup [.inl (.bl x.1), .inl (.int x.2.1), .inr (.dic (encD x.2.2.1)), .inr (.lst (x.2.2.2.1.map PD.int)), .inl (.int x.2.2.2.2)]
/-! ### what the laws of traces draw -/
def mixed (c : Int) (nms : List Str) : Src := if c % 4 = 3 then .i (number (c / 4)) else .n (nm nms (c / 4 % 4))
def drawnRow (way one two : Int) (nms : List Str) (k : Int) : TR :=
  if 6 < way % 9 then .g (mixed one nms) (decide (two % 2 = 0)) (two / 2 % 60) (k + 1) (([(nm nms ((one + two) % 4), mixed (two / 2) nms), (nm nms ((one + two + 1) % 4), mixed one nms)]).take (way / 9 % 3).toNat)
  else if way % 9 = 0 then .r (.put (nm nms ((one + two) % 4)) (number two))
  else if way % 9 = 6 then .r (.tell (mixed two nms))
  else if way % 9 = 1 then .r (.copy (nm nms ((one + two) % 4)) (mixed two nms))
  else .r (.op (if way % 9 = 2 then .add else if way % 9 = 3 then .minus else if way % 9 = 4 then .times else .less) (nm nms ((one + two) % 4)) (mixed one nms) (mixed two nms))
def patRest (cell : Int) (o t f : Str) : List TR := [.g (.n f) (decide (cell / 4 % 2 = 0)) 8 3 [], .r (.put t 3), .r (.put o 1)]
def patRows (way cell : Int) (o t f : Str) : List TR :=
  if way = 0 then [.g (.n o) false (cell % 60) (1 + cell % 9) [], .r (.op (if cell / 4 % 2 = 0 then .minus else .less) o (.n t) (.n f)), .g (.n o) false 7 9 [], .r (.tell (.n o))]
  else if way = 1 then [.r (.copy t (.n o)), .r (.op .add o (.n o) (.n f)), .r (.tell (.n t)), .g (.n t) true 5 6 []]
  else if way = 2 then [.r (.copy o (.n t)), .r (.op (if cell / 4 % 2 = 0 then .add else .minus) t (.n f) (.n f))] ++ patRest cell o t f
  else if way = 3 then [.r (.put t 7), .r (.copy o (.n t))] ++ patRest cell o t f
  else if way = 4 then [.r (.op .times t (.n o) (.n o)), .r (.op (if cell / 4 % 2 = 0 then .minus else .less) f (.n o) (.n o)), .r (.tell (.n t))]
  else [.r (.put o 2), .r (.op .less t (.n o) (.n f)), .r (.copy f (.n t)), .g (.n t) true 6 4 []] ++ patRest cell o t f
def pattern (way cell : Int) (nms : List Str) : List TR := patRows way cell (nm nms (cell % 4)) (nm nms ((cell + 1) % 4)) (nm nms ((cell + 2) % 4))
def drawnRows (ns : List Int) (nms : List Str) (n : Nat) : List TR := (List.range n).map fun k : Nat => drawnRow (cell ns (3 + 3 * (k : Int))) (cell ns (4 + 3 * (k : Int))) (cell ns (5 + 3 * (k : Int))) nms k
def trRows (ns : List Int) (nms : List Str) : List TR :=
  if (cell ns 0 + cell ns 1) % 8 < 6 then
    (drawnRows ns nms (cell ns 0 % 14).toNat).take (cell ns 3 % ((cell ns 0 % 14) + 1)).toNat ++ pattern ((cell ns 0 + cell ns 1) % 8) (cell ns 4) nms ++ (drawnRows ns nms (cell ns 0 % 14).toNat).drop (cell ns 3 % ((cell ns 0 % 14) + 1)).toNat
  else drawnRows ns nms (cell ns 0 % 14).toNat
def trStart (ns : List Int) : Int := cell ns 1 % 60
def trSteps (ns : List Int) : Int := cell ns 0 % 14 + cell ns 1 / 60 % 9
def valAt (c : Int) : Int := if c % 3 = 0 then c / 3 % 2 else if c % 3 = 1 then c / 3 % 3 else number (c / 3)
def valCell (ns : List Int) (turn k : Nat) : Int := cell ns (1 + ((k : Int) + 5 * turn) % (max 1 (ns.length : Int)))
def dVals (ns : List Int) (nms : List Str) (turn : Nat) : Nat → NE
  | 0 => []
  | k + 1 => eput (dVals ns nms turn k) (nm nms (k : Int)) (valAt (valCell ns turn k))
/-! ### the promises -/
def P_is_passed (ds : List PD) (r : Rt) : Prop := ∃ v n, ds = [.int v, .bl n] ∧ r = .val (.bl (decide (decide (v = 0) = n)))
def P_repaired (ds : List PD) (r : Rt) : Prop := ∃ reps e vs, (reps.map (·.1)).Nodup ∧ Nd e ∧ reVals e reps = some vs ∧ e.length ≤ 3000 ∧ reps.length ≤ 1000 ∧ ds = [.btup (reps.map pairPD), .dic (encD e)] ∧ r = .own (.dic (encD (eputs e vs)))
def RoundOk (rows : List TR) (e : NE) : Prop := (∀ t ∈ rows, TOk t) ∧ rows.length ≤ 1000 ∧ Bd e ∧ Nd e ∧ e.length ≤ 1000
def P_round_of (ds : List PD) (r : Rt) : Prop := ∃ start rows steps e res, RoundOk rows e ∧ goR start steps rows e [] = some res ∧ ds = [traceD start rows steps, .dic (encD e)] ∧ r = resRt res
def P_law_round (ds : List PD) (r : Rt) : Prop := ∃ start rows steps e res, RoundOk rows e ∧ goR start steps rows e [] = some res ∧ ds = [traceD start rows steps, .dic (encD e)] ∧ r = .val (resPD res)
def P_law_mixed (ds : List PD) (r : Rt) : Prop := ∃ c, ∃ nms : List Str, nms.length = 6 ∧ ds = [.int c, .lst (nms.map PD.str)] ∧ r = .val (mixed c nms).pd
def P_law_drawn_row (ds : List PD) (r : Rt) : Prop := ∃ way one two, ∃ nms : List Str, ∃ k, nms.length = 6 ∧ ds = [.int way, .int one, .int two, .lst (nms.map PD.str), .int k] ∧ r = .val (drawnRow way one two nms k).pd
def P_law_pattern (ds : List PD) (r : Rt) : Prop := ∃ way c, ∃ nms : List Str, nms.length = 6 ∧ ds = [.int way, .int c, .lst (nms.map PD.str)] ∧ r = .own (.lst ((pattern way c nms).map TR.pd))
def P_law_drawn_trace (ds : List PD) (r : Rt) : Prop := ∃ ns, ∃ nms : List Str, nms.length = 6 ∧ ns.length ≤ 63 ∧ ds = [.scr ns, .lst (nms.map PD.str)] ∧ r = .val (traceD (trStart ns) (trRows ns nms) (trSteps ns))
def P_law_drawn_values (ds : List PD) (r : Rt) : Prop := ∃ ns, ∃ nms : List Str, ∃ turn : Nat, nms.length = 6 ∧ ds = [.scr ns, .lst (nms.map PD.str), .int (turn : Nat)] ∧ r = .own (.dic (encD (dVals ns nms turn 5)))
abbrev sp_is_passed (K : FK) : Sp := spP K P_is_passed
abbrev sp_repaired (K : FK) : Sp := spP K P_repaired
abbrev sp_round_of (K : FK) : Sp := spP K P_round_of
abbrev sp_law_round (K : FK) : Sp := spP K P_law_round
abbrev sp_law_mixed (K : FK) : Sp := spP K P_law_mixed
abbrev sp_law_drawn_row (K : FK) : Sp := spP K P_law_drawn_row
abbrev sp_law_pattern (K : FK) : Sp := spP K P_law_pattern
abbrev sp_law_drawn_trace (K : FK) : Sp := spP K P_law_drawn_trace
abbrev sp_law_drawn_values (K : FK) : Sp := spP K P_law_drawn_values
/-! ### what a round keeps -/
theorem eputs_nil (e : NE) : eputs e [] = e := rfl
theorem eputs_cons (e : NE) (q : Str × Int) (r : NE) : eputs e (q :: r) = eputs (eput e q.1 q.2) r := rfl
theorem merge_enc : ∀ (vs e : NE), mergeD (encD e) (encD vs) = encD (eputs e vs)
  | [], e => rfl
  | (x, v) :: r, e => by
    show mergeD (Fw.put (encD e) (.inr x) (.int v)) (encD r) = _
    rw [put_enc, merge_enc r]; rfl
theorem eputs_keeps : ∀ (vs : NE) {e : NE}, Bd e → Nd e → (∀ q ∈ vs, Small q.2) → Bd (eputs e vs) ∧ Nd (eputs e vs) ∧ (eputs e vs).length ≤ e.length + vs.length ∧ ∀ x, (get e x).isSome = true → (get (eputs e vs) x).isSome = true
  | [], e, hb, hd, _ => ⟨hb, hd, Nat.le_refl _, fun x h => h⟩
  | (x, v) :: r, e, hb, hd, hv => by
    obtain ⟨k1, k2, k3, k4⟩ := eputs_keeps r (e := eput e x v) (bd_put hb (hv (x, v) List.mem_cons_self)) (nd_put hd x v) (fun q hq => hv q (List.mem_cons_of_mem _ hq))
    refine ⟨k1, k2, ?_, fun y hy => k4 y (has_put hy)⟩
    have := eput_len e x v
    show (eputs (eput e x v) r).length ≤ e.length + (r.length + 1)
    omega
theorem sok_small {s : Src} (h : SOk s) : sBd s := by
  cases s with
  | n x => exact True.intro
  | i v => exact ⟨by have := h.1; omega, by have := h.2; omega⟩
theorem reVals_small {e : NE} (hb : Bd e) : ∀ {reps : List (Str × Src)} {vs : NE}, (∀ q ∈ reps, SOk q.2) → reVals e reps = some vs → vs.map (·.1) = reps.map (·.1) ∧ ∀ q ∈ vs, Small q.2
  | [], vs, _, h => by cases h; exact ⟨rfl, fun q hq => nomatch hq⟩
  | (x, s) :: r, vs, hs, h => by
    obtain ⟨v, hv, h2⟩ := Option.bind_eq_some_iff.mp h
    obtain ⟨ws, hw, e2⟩ := Option.map_eq_some_iff.mp h2
    subst e2
    obtain ⟨k1, k2⟩ := reVals_small hb (fun q hq => hs q (List.mem_cons_of_mem _ hq)) hw
    refine ⟨by rw [List.map_cons, List.map_cons, k1], fun q hq => ?_⟩
    rcases List.mem_cons.mp hq with e | hq
    · subst e; exact sv_small hb (sok_small (hs (x, s) List.mem_cons_self)) hv
    · exact k2 q hq
theorem tok_rBd {row : Row} (h : TOk (.r row)) : rBd row := by
  cases row with
  | put x v => exact ⟨by have := h.2.1; omega, by have := h.2.2; omega⟩
  | copy x s => exact sok_small h.2
  | op w x a b => exact ⟨sok_small h.2.1, sok_small h.2.2⟩
  | tell s => exact True.intro
  | jump q => exact h.elim
  | zero x q => exact h.elim
  | stop => exact h.elim
theorem tells_len (e : NE) (row : Row) : (tells e row).length ≤ 1 := by
  cases row with
  | tell s => show (sv e s).toList.length ≤ 1; cases sv e s <;> exact Nat.le_of_ble_eq_true rfl
  | _ => exact Nat.zero_le _
theorem done_has {e e' : NE} {row : Row} (h : done e row = some e') {x : Str} (hx : (get e x).isSome = true) : (get e' x).isSome = true := by
  cases row with
  | put y v => cases h; exact has_put hx
  | copy y s => obtain ⟨v, _, he⟩ := Option.map_eq_some_iff.mp h; cases he; exact has_put hx
  | op w y a b =>
    obtain ⟨v, _, h2⟩ := Option.bind_eq_some_iff.mp h
    obtain ⟨u, _, he⟩ := Option.map_eq_some_iff.mp h2; cases he; exact has_put hx
  | tell s => obtain ⟨v, _, he⟩ := Option.map_eq_some_iff.mp h; cases he; exact hx
  | jump q => cases h
  | zero y q => cases h
  | stop => cases h
/-- what a round leaves -/
theorem goR_keeps {start steps : Int} : ∀ (rows : List TR) (e : NE) (ts : List Int) (res : RRes), (∀ t ∈ rows, TOk t) → Bd e → Nd e → goR start steps rows e ts = some res → Bd res.2.2.1 ∧ Nd res.2.2.1 ∧ res.2.2.1.length ≤ e.length + rows.length + 1000 ∧ res.2.2.2.1.length ≤ ts.length + rows.length
  | [], e, ts, res, _, hb, hd, h => by cases h; exact ⟨hb, hd, by show e.length ≤ _; omega, Nat.le_refl _⟩
  | .g s n p st reps :: rs, e, ts, res, ht, hb, hd, h => by
    obtain ⟨v, hv, h2⟩ := Option.bind_eq_some_iff.mp h
    have hg := ht _ List.mem_cons_self
    by_cases hn : decide (v = 0) = n
    · rw [if_pos hn] at h2
      obtain ⟨k1, k2, k3, k4⟩ := goR_keeps rs e ts res (fun t h => ht t (List.mem_cons_of_mem _ h)) hb hd h2
      exact ⟨k1, k2, by rw [List.length_cons]; omega, by rw [List.length_cons]; omega⟩
    · rw [if_neg hn] at h2
      obtain ⟨vs, hvs, he⟩ := Option.map_eq_some_iff.mp h2
      subst he
      obtain ⟨m1, m2⟩ := reVals_small hb (fun q hq => (hg.2.1 q hq).2) hvs
      obtain ⟨k1, k2, k3, _⟩ := eputs_keeps vs hb hd m2
      have hl : vs.length = reps.length := by have := congrArg List.length m1; simpa using this
      have hr := hg.2.2.2
      exact ⟨k1, k2, by show (eputs e vs).length ≤ _; rw [List.length_cons]; omega, by show ts.length ≤ _; omega⟩
  | .r row :: rs, e, ts, res, ht, hb, hd, h => by
    obtain ⟨e1, h1, h2⟩ := Option.bind_eq_some_iff.mp h
    obtain ⟨d1, d2, d3⟩ := done_keeps hb (tok_rBd (ht _ List.mem_cons_self)) hd h1
    obtain ⟨k1, k2, k3, k4⟩ := goR_keeps rs e1 _ res (fun t h => ht t (List.mem_cons_of_mem _ h)) d1 d2 h2
    have := tells_len e row
    rw [List.length_append] at k4
    exact ⟨k1, k2, by rw [List.length_cons]; omega, by rw [List.length_cons]; omega⟩
def repNames (reps : List (Str × Src)) : List Str := reps.flatMap fun q => q.1 :: srcNames q.2
def trNames : TR → List Str
  | .r row => rNames row
  | .g s _ _ _ reps => srcNames s ++ repNames reps
def TAll (e : NE) (t : TR) : Prop := ∀ x ∈ trNames t, (get e x).isSome = true
theorem reVals_some {e : NE} : ∀ (reps : List (Str × Src)), (∀ x ∈ repNames reps, (get e x).isSome = true) → ∃ vs, reVals e reps = some vs
  | [], _ => ⟨[], rfl⟩
  | (x, s) :: r, h => by
    obtain ⟨v, hv⟩ := sv_some (e := e) (s := s) fun y hy => h y (List.mem_flatMap.mpr ⟨(x, s), List.mem_cons_self, List.mem_cons_of_mem _ hy⟩)
    obtain ⟨vs, hvs⟩ := reVals_some r fun y hy => h y (by
      obtain ⟨q, hq, hy⟩ := List.mem_flatMap.mp hy
      exact List.mem_flatMap.mpr ⟨q, List.mem_cons_of_mem _ hq, hy⟩)
    exact ⟨(x, v) :: vs, by show (sv e s).bind _ = _; rw [hv]; show (reVals e r).map _ = _; rw [hvs]; rfl⟩
theorem done_some {e : NE} {row : Row} (h : TAll e (.r row)) (ok : TOk (.r row)) : ∃ e', done e row = some e' := by
  cases row with
  | put x v => exact ⟨_, rfl⟩
  | copy x s =>
    obtain ⟨v, hv⟩ := sv_some (e := e) (s := s) fun y hy => h y (List.mem_cons_of_mem _ hy)
    exact ⟨eput e x v, by show (sv e s).map _ = _; rw [hv]; rfl⟩
  | op w x a b =>
    obtain ⟨v, hv⟩ := sv_some (e := e) (s := a) fun y hy => h y (List.mem_cons_of_mem _ (List.mem_append_left _ hy))
    obtain ⟨u, hu⟩ := sv_some (e := e) (s := b) fun y hy => h y (List.mem_cons_of_mem _ (List.mem_append_right _ hy))
    exact ⟨eput e x (w.val v u), by show (sv e a).bind _ = _; rw [hv]; show (sv e b).map _ = _; rw [hu]; rfl⟩
  | tell s =>
    obtain ⟨v, hv⟩ := sv_some (e := e) (s := s) fun y hy => h y hy
    exact ⟨e, by show (sv e s).map _ = _; rw [hv]; rfl⟩
  | jump q => exact ok.elim
  | zero x q => exact ok.elim
  | stop => exact ok.elim
theorem goR_some {start steps : Int} : ∀ (rows : List TR) (e : NE) (ts : List Int), (∀ t ∈ rows, TOk t ∧ TAll e t) → ∃ res, goR start steps rows e ts = some res
  | [], e, ts, _ => ⟨_, rfl⟩
  | .g s n p st reps :: rs, e, ts, h => by
    obtain ⟨ok, al⟩ := h _ List.mem_cons_self
    obtain ⟨v, hv⟩ := sv_some (e := e) (s := s) fun y hy => al y (List.mem_append_left _ hy)
    by_cases hn : decide (v = 0) = n
    · obtain ⟨res, hr⟩ := goR_some rs e ts fun t ht => h t (List.mem_cons_of_mem _ ht)
      exact ⟨res, by show (sv e s).bind _ = _; rw [hv]; show (if _ then _ else _) = _; rw [if_pos hn, hr]⟩
    · obtain ⟨vs, hvs⟩ := reVals_some reps fun y hy => al y (List.mem_append_right _ hy)
      exact ⟨(false, p, eputs e vs, ts, st), by show (sv e s).bind _ = _; rw [hv]; show (if _ then _ else _) = _; rw [if_neg hn, hvs]; rfl⟩
  | .r row :: rs, e, ts, h => by
    obtain ⟨ok, al⟩ := h _ List.mem_cons_self
    obtain ⟨e', he⟩ := done_some al ok
    obtain ⟨res, hr⟩ := goR_some rs e' (ts ++ tells e row) fun t ht => ⟨(h t (List.mem_cons_of_mem _ ht)).1, fun x hx => done_has he ((h t (List.mem_cons_of_mem _ ht)).2 x hx)⟩
    exact ⟨res, by show (done e row).bind _ = _; rw [he]; exact hr⟩
def t_is_passed (K : FK) : TS := tRet (tOp rEq (tOp rEq (tVar 0) (tC (.int 0))) (tVar 1))
def t_repaired (K : FK) : TS := tSeq (tAsg (tDc (iTup K (tVar 0)) (gTup K 2 (gCons (gName 3) (gCons (gName 4) (gNil)))) (tYes) (tVar 3) (tCall (sp_held K) [] E0 (tCons (tVar 4) (tCons (tVar 1) (tNil)))) [3, 4]) (gName 2)) (tRet (Fw.tStar2 (tVar 1) (tVar 2)))
def t_round_of (K : FK) : TS := tSeq (tAsg (tVar 0) (gTup K 3 (gCons (gName 2) (gCons (gName 3) (gCons (gName 4) (gNil)))))) (tSeq (tAsg (tCB rDictD (tCons (tVar 1) (tNil))) (gName 5)) (tSeq (tAsg (tLst (tNil)) (gName 6)) (tSeq (tFor (iList K (tVar 3)) (gName 7) (tIfS (tTest (tOp rEq (tOp (rIxT K) (tVar 7) (tC (.int 0))) (tC (.str "guard")))) (tSeq (tAsg (tVar 7) (gTup K 6 (gCons (gName 8) (gCons (gName 9) (gCons (gName 10) (gCons (gName 11) (gCons (gName 12) (gCons (gName 13) (gNil))))))))) (tIfS (tNot (tB (tCall (sp_is_passed K) [] E0 (tCons (tCall (sp_held K) [] E0 (tCons (tVar 9) (tCons (tVar 5) (tNil)))) (tCons (tVar 10) (tNil)))))) (tRet (tTup (tCons (tC (.bl false)) (tCons (tVar 11) (tCons (tCall (sp_repaired K) [] E0 (tCons (tVar 13) (tCons (tVar 5) (tNil)))) (tCons (tVar 6) (tCons (tVar 12) (tNil)))))))) (tNext))) (tIfS (tTest (tOp rEq (tOp (rIxT K) (tVar 7) (tC (.int 0))) (tC (.str "tell")))) (tDrop (tBM K "list" rAppend (tVar 6) (tCons (tCall (sp_held K) [] E0 (tCons (tOp (rIxT K) (tVar 7) (tC (.int 1))) (tCons (tVar 5) (tNil)))) (tNil)))) (sDPut (tVar 5) (tOp (rIxT K) (tVar 7) (tC (.int 1))) (tCall (sp_number_for K) [] E0 (tCons (tVar 7) (tCons (tVar 5) (tNil)))))))) (tRet (tTup (tCons (tC (.bl true)) (tCons (tVar 2) (tCons (tVar 5) (tCons (tVar 6) (tCons (tVar 4) (tNil)))))))))))
def t_law_mixed (K : FK) : TS := tSeq (tIfS (tTest (tOp rEq (tOp rModI (tVar 0) (tC (.int 4))) (tC (.int 3)))) (tRet (tCall (sp_law_number K) [] E0 (tCons (tOp rDivI (tVar 0) (tC (.int 4))) (tNil)))) (tNext)) (tRet (tOp (rIxL K) (tVar 1) (tOp rModI (tOp rDivI (tVar 0) (tC (.int 4))) (tC (.int 4)))))
def t_law_drawn_row (K : FK) : TS := tSeq (tAsg (tOp (rIxL K) (tVar 3) (tOp rModI (tOp rAddI (tVar 1) (tVar 2)) (tC (.int 4)))) (gName 5)) (tSeq (tIfS (tTest (tOp rGtI (tOp rModI (tVar 0) (tC (.int 9))) (tC (.int 6)))) (tSeq (tAsg (Fw.tTupZ (tCons (tTup (tCons (tVar 5) (tCons (tCall (sp_law_mixed K) [] E0 (tCons (tOp rDivI (tVar 2) (tC (.int 2))) (tCons (tVar 3) (tNil)))) (tNil)))) (tCons (tTup (tCons (tOp (rIxL K) (tVar 3) (tOp rModI (tOp rAddI (tOp rAddI (tVar 1) (tVar 2)) (tC (.int 1))) (tC (.int 4)))) (tCons (tCall (sp_law_mixed K) [] E0 (tCons (tVar 1) (tCons (tVar 3) (tNil)))) (tNil)))) (tNil)))) (gName 6)) (tRet (tTup (tCons (tC (.str "guard")) (tCons (tCall (sp_law_mixed K) [] E0 (tCons (tVar 1) (tCons (tVar 3) (tNil)))) (tCons (tOp rEq (tOp rModI (tVar 2) (tC (.int 2))) (tC (.int 0))) (tCons (tOp rModI (tOp rDivI (tVar 2) (tC (.int 2))) (tC (.int 60))) (tCons (tOp rAddI (tVar 4) (tC (.int 1))) (tCons (tSl Fw.rSlZ (tVar 6) (tNoPart) (tPart (tOp rModI (tOp rDivI (tVar 0) (tC (.int 9))) (tC (.int 3))))) (tNil)))))))))) (tNext)) (tSeq (tAsg (tOp (rIxL K) (tLst (tCons (tC (.str "put")) (tCons (tC (.str "copy")) (tCons (tC (.str "add")) (tCons (tC (.str "minus")) (tCons (tC (.str "times")) (tCons (tC (.str "less")) (tCons (tC (.str "tell")) (tNil))))))))) (tOp rModI (tVar 0) (tC (.int 9)))) (gName 7)) (tSeq (tIfS (tTest (tOp rEq (tVar 7) (tC (.str "put")))) (tRet (tTup (tCons (tVar 7) (tCons (tVar 5) (tCons (tCall (sp_law_number K) [] E0 (tCons (tVar 2) (tNil))) (tNil)))))) (tNext)) (tSeq (tIfS (tTest (tOp rEq (tVar 7) (tC (.str "tell")))) (tRet (tTup (tCons (tVar 7) (tCons (tCall (sp_law_mixed K) [] E0 (tCons (tVar 2) (tCons (tVar 3) (tNil)))) (tNil))))) (tNext)) (tSeq (tIfS (tTest (tOp rEq (tVar 7) (tC (.str "copy")))) (tRet (tTup (tCons (tVar 7) (tCons (tVar 5) (tCons (tCall (sp_law_mixed K) [] E0 (tCons (tVar 2) (tCons (tVar 3) (tNil)))) (tNil)))))) (tNext)) (tRet (tTup (tCons (tVar 7) (tCons (tVar 5) (tCons (tCall (sp_law_mixed K) [] E0 (tCons (tVar 1) (tCons (tVar 3) (tNil)))) (tCons (tCall (sp_law_mixed K) [] E0 (tCons (tVar 2) (tCons (tVar 3) (tNil)))) (tNil))))))))))))
def t_law_pattern (K : FK) : TS := tSeq (tAsg (tOp (rIxL K) (tVar 2) (tOp rModI (tVar 1) (tC (.int 4)))) (gName 3)) (tSeq (tAsg (tOp (rIxL K) (tVar 2) (tOp rModI (tOp rAddI (tVar 1) (tC (.int 1))) (tC (.int 4)))) (gName 4)) (tSeq (tAsg (tOp (rIxL K) (tVar 2) (tOp rModI (tOp rAddI (tVar 1) (tC (.int 2))) (tC (.int 4)))) (gName 5)) (tSeq (tAsg (tTup (tCons (tC (.str "guard")) (tCons (tVar 3) (tCons (tC (.bl false)) (tCons (tOp rModI (tVar 1) (tC (.int 60))) (tCons (tOp rAddI (tC (.int 1)) (tOp rModI (tVar 1) (tC (.int 9)))) (tCons (Fw.tTupZ (tNil)) (tNil)))))))) (gName 6)) (tSeq (tIfS (tTest (tOp rEq (tVar 0) (tC (.int 0)))) (tRet (tLst (tCons (tVar 6) (tCons (tTup (tCons (tOp (rIxL K) (tLst (tCons (tC (.str "minus")) (tCons (tC (.str "less")) (tNil)))) (tOp rModI (tOp rDivI (tVar 1) (tC (.int 4))) (tC (.int 2)))) (tCons (tVar 3) (tCons (tVar 4) (tCons (tVar 5) (tNil)))))) (tCons (tTup (tCons (tC (.str "guard")) (tCons (tVar 3) (tCons (tC (.bl false)) (tCons (tC (.int 7)) (tCons (tC (.int 9)) (tCons (Fw.tTupZ (tNil)) (tNil)))))))) (tCons (tTup (tCons (tC (.str "tell")) (tCons (tVar 3) (tNil)))) (tNil))))))) (tNext)) (tSeq (tIfS (tTest (tOp rEq (tVar 0) (tC (.int 1)))) (tRet (tLst (tCons (tTup (tCons (tC (.str "copy")) (tCons (tVar 4) (tCons (tVar 3) (tNil))))) (tCons (tTup (tCons (tC (.str "add")) (tCons (tVar 3) (tCons (tVar 3) (tCons (tVar 5) (tNil)))))) (tCons (tTup (tCons (tC (.str "tell")) (tCons (tVar 4) (tNil)))) (tCons (tTup (tCons (tC (.str "guard")) (tCons (tVar 4) (tCons (tC (.bl true)) (tCons (tC (.int 5)) (tCons (tC (.int 6)) (tCons (Fw.tTupZ (tNil)) (tNil)))))))) (tNil))))))) (tNext)) (tSeq (tAsg (tLst (tCons (tTup (tCons (tC (.str "guard")) (tCons (tVar 5) (tCons (tOp rEq (tOp rModI (tOp rDivI (tVar 1) (tC (.int 4))) (tC (.int 2))) (tC (.int 0))) (tCons (tC (.int 8)) (tCons (tC (.int 3)) (tCons (Fw.tTupZ (tNil)) (tNil)))))))) (tCons (tTup (tCons (tC (.str "put")) (tCons (tVar 4) (tCons (tC (.int 3)) (tNil))))) (tCons (tTup (tCons (tC (.str "put")) (tCons (tVar 3) (tCons (tC (.int 1)) (tNil))))) (tNil))))) (gName 7)) (tSeq (tIfS (tTest (tOp rEq (tVar 0) (tC (.int 2)))) (tRet (tOp rCat (tLst (tCons (tTup (tCons (tC (.str "copy")) (tCons (tVar 3) (tCons (tVar 4) (tNil))))) (tCons (tTup (tCons (tOp (rIxL K) (tLst (tCons (tC (.str "add")) (tCons (tC (.str "minus")) (tNil)))) (tOp rModI (tOp rDivI (tVar 1) (tC (.int 4))) (tC (.int 2)))) (tCons (tVar 4) (tCons (tVar 5) (tCons (tVar 5) (tNil)))))) (tNil)))) (tVar 7))) (tNext)) (tSeq (tIfS (tTest (tOp rEq (tVar 0) (tC (.int 3)))) (tRet (tOp rCat (tLst (tCons (tTup (tCons (tC (.str "put")) (tCons (tVar 4) (tCons (tC (.int 7)) (tNil))))) (tCons (tTup (tCons (tC (.str "copy")) (tCons (tVar 3) (tCons (tVar 4) (tNil))))) (tNil)))) (tVar 7))) (tNext)) (tSeq (tIfS (tTest (tOp rEq (tVar 0) (tC (.int 4)))) (tRet (tLst (tCons (tTup (tCons (tC (.str "times")) (tCons (tVar 4) (tCons (tVar 3) (tCons (tVar 3) (tNil)))))) (tCons (tTup (tCons (tOp (rIxL K) (tLst (tCons (tC (.str "minus")) (tCons (tC (.str "less")) (tNil)))) (tOp rModI (tOp rDivI (tVar 1) (tC (.int 4))) (tC (.int 2)))) (tCons (tVar 5) (tCons (tVar 3) (tCons (tVar 3) (tNil)))))) (tCons (tTup (tCons (tC (.str "tell")) (tCons (tVar 4) (tNil)))) (tNil)))))) (tNext)) (tRet (tOp rCat (tLst (tCons (tTup (tCons (tC (.str "put")) (tCons (tVar 3) (tCons (tC (.int 2)) (tNil))))) (tCons (tTup (tCons (tC (.str "less")) (tCons (tVar 4) (tCons (tVar 3) (tCons (tVar 5) (tNil)))))) (tCons (tTup (tCons (tC (.str "copy")) (tCons (tVar 5) (tCons (tVar 4) (tNil))))) (tCons (tTup (tCons (tC (.str "guard")) (tCons (tVar 4) (tCons (tC (.bl true)) (tCons (tC (.int 6)) (tCons (tC (.int 4)) (tCons (Fw.tTupZ (tNil)) (tNil)))))))) (tNil)))))) (tVar 7))))))))))))
def t_law_drawn_trace (K : FK) : TS := tSeq (tAsg (tOp rModI (tCall (sp_law_cell_at K) [] E0 (tCons (tVar 0) (tCons (tC (.int 0)) (tNil)))) (tC (.int 14))) (gName 2)) (tSeq (tIfS (tTest (tOp rGtI (tCB (rLenS K) (tCons (tVar 0) (tNil))) (tC (.int 63)))) (tAsg (tOp rAddI (tVar 2) (tC (.int 30))) (gName 2)) (tNext)) (tSeq (tAsg (tLst (tNil)) (gName 3)) (tSeq (tFor (iRng1 (tCons (tVar 2) (tNil))) (gName 4) (tSeq (tAsg (tCall (sp_law_cell_at K) [] E0 (tCons (tVar 0) (tCons (tOp rAddI (tC (.int 3)) (tOp rMulI (tC (.int 3)) (tVar 4))) (tNil)))) (gName 5)) (tDrop (tBM K "list" rAppend (tVar 3) (tCons (tCall (sp_law_drawn_row K) [] E0 (tCons (tVar 5) (tCons (tCall (sp_law_cell_at K) [] E0 (tCons (tVar 0) (tCons (tOp rAddI (tC (.int 4)) (tOp rMulI (tC (.int 3)) (tVar 4))) (tNil)))) (tCons (tCall (sp_law_cell_at K) [] E0 (tCons (tVar 0) (tCons (tOp rAddI (tC (.int 5)) (tOp rMulI (tC (.int 3)) (tVar 4))) (tNil)))) (tCons (tVar 1) (tCons (tVar 4) (tNil))))))) (tNil)))))) (tSeq (tAsg (tOp rModI (tOp rAddI (tCall (sp_law_cell_at K) [] E0 (tCons (tVar 0) (tCons (tC (.int 0)) (tNil)))) (tCall (sp_law_cell_at K) [] E0 (tCons (tVar 0) (tCons (tC (.int 1)) (tNil))))) (tC (.int 8))) (gName 5)) (tSeq (tIfS (tTest (tOp rLtI (tVar 5) (tC (.int 6)))) (tSeq (tAsg (tOp rModI (tCall (sp_law_cell_at K) [] E0 (tCons (tVar 0) (tCons (tC (.int 3)) (tNil)))) (tOp rAddI (tCB (rLenS K) (tCons (tVar 3) (tNil))) (tC (.int 1)))) (gName 6)) (tAsg (tOp rCat (tOp rCat (tSl (rSlL K) (tVar 3) (tNoPart) (tPart (tVar 6))) (tCall (sp_law_pattern K) [] E0 (tCons (tVar 5) (tCons (tCall (sp_law_cell_at K) [] E0 (tCons (tVar 0) (tCons (tC (.int 4)) (tNil)))) (tCons (tVar 1) (tNil)))))) (tSl (rSlL K) (tVar 3) (tPart (tVar 6)) (tNoPart))) (gName 3))) (tNext)) (tRet (tTup (tCons (tOp rModI (tCall (sp_law_cell_at K) [] E0 (tCons (tVar 0) (tCons (tC (.int 1)) (tNil)))) (tC (.int 60))) (tCons (tVar 3) (tCons (tOp rAddI (tVar 2) (tOp rModI (tOp rDivI (tCall (sp_law_cell_at K) [] E0 (tCons (tVar 0) (tCons (tC (.int 1)) (tNil)))) (tC (.int 60))) (tC (.int 9)))) (tNil)))))))))))
def t_law_drawn_values (K : FK) : TS := tSeq (tAsg (tDNewK) (gName 3)) (tSeq (tFor (iRng1 (tCons (tC (.int 5)) (tNil))) (gName 4) (tSeq (tAsg (tCall (sp_law_cell_at K) [] E0 (tCons (tVar 0) (tCons (tOp rAddI (tC (.int 1)) (tOp rModI (tOp rAddI (tVar 4) (tOp rMulI (tC (.int 5)) (tVar 2))) (tCB Fw.rMax2 (tCons (tC (.int 1)) (tCons (tCB (rLenS K) (tCons (tVar 0) (tNil))) (tNil)))))) (tNil)))) (gName 5)) (sDPut (tVar 3) (tOp (rIxL K) (tVar 1) (tVar 4)) (tOp (rIxL K) (tLst (tCons (tOp rModI (tOp rDivI (tVar 5) (tC (.int 3))) (tC (.int 2))) (tCons (tOp rModI (tOp rDivI (tVar 5) (tC (.int 3))) (tC (.int 3))) (tCons (tCall (sp_law_number K) [] E0 (tCons (tOp rDivI (tVar 5) (tC (.int 3))) (tNil))) (tNil))))) (tOp rModI (tVar 5) (tC (.int 3))))))) (tRet (tVar 3)))
def t_law_round (K : FK) : TS := tSeq (tAsg (tLst (tNil)) (gName 2)) (tSeq (tFor (iList K (tOp (rIxT K) (tVar 0) (tC (.int 1)))) (gName 3) (tIfS (tTest (tOp rNe (tOp (rIxT K) (tVar 3) (tC (.int 0))) (tC (.str "guard")))) (tSeq (tAsg (tOp rCat (tVar 2) (tCall (sp_law_told K) [] E0 (tCons (tVar 3) (tCons (tVar 1) (tNil))))) (gName 2)) (tAsg (tCall (sp_law_done K) [] E0 (tCons (tVar 3) (tCons (tVar 1) (tNil)))) (gName 1))) (tIfS (tTest (tOp rNe (tOp rEq (tCall (sp_law_value K) [] E0 (tCons (tVar 1) (tCons (tOp (rIxT K) (tVar 3) (tC (.int 1))) (tNil)))) (tC (.int 0))) (tOp (rIxT K) (tVar 3) (tC (.int 2))))) (tSeq (tAsg (tCB rDictD (tCons (tVar 1) (tNil))) (gName 4)) (tSeq (tFor (iTup K (tOp (rIxT K) (tVar 3) (tC (.int 5)))) (gTup K 2 (gCons (gName 5) (gCons (gName 6) (gNil)))) (sDPut (tVar 4) (tVar 5) (tCall (sp_law_value K) [] E0 (tCons (tVar 1) (tCons (tVar 6) (tNil)))))) (tRet (tTup (tCons (tC (.bl false)) (tCons (tOp (rIxT K) (tVar 3) (tC (.int 3))) (tCons (tVar 4) (tCons (tVar 2) (tCons (tOp (rIxT K) (tVar 3) (tC (.int 4))) (tNil)))))))))) (tNext)))) (tRet (tTup (tCons (tC (.bl true)) (tCons (tOp (rIxT K) (tVar 0) (tC (.int 0))) (tCons (tVar 1) (tCons (tVar 2) (tCons (tOp (rIxT K) (tVar 0) (tC (.int 2))) (tNil)))))))))
section
variable {K : FK} {δ : AE} {ta tb tx : TE} {P : Post}
theorem dec_bl (a b : Bool) : decide (vOf (.bl a) = vOf (.bl b)) = decide (a = b) := by
  cases a <;> cases b <;> rfl
theorem ev_eqB {a b : Bool} (ha : Evd K ta δ (.bl a)) (hb : Evd K tb δ (.bl b)) : Evd K (tOp rEq ta tb) δ (.bl (decide (a = b))) := ev_is (ev_eqF ha hb rfl rfl rfl) (by rw [dec_bl])
theorem ev_neB {a b : Bool} (ha : Evd K ta δ (.bl a)) (hb : Evd K tb δ (.bl b)) : Evd K (tOp rNe ta tb) δ (.bl (!decide (a = b))) := ev_is (ev_neF ha hb rfl rfl rfl) (by rw [dec_bl])
theorem sx_is_passed (ds : List PD) (r : Rt) (h : P_is_passed ds r) : Sx K (t_is_passed K) (ae 2 ds) (Gives r) := by
  obtain ⟨v, n, rfl, rfl⟩ := h
  exact s_ret (ev_eqB (ev_eqI (ev_var rfl) (ev_int 0)) (ev_var rfl)) rfl
theorem reVals_at {e : NE} : ∀ {reps : List (Str × Src)} {vs : NE}, reVals e reps = some vs → ∀ {i : Nat} {q : Str × Src}, reps[i]? = some q → ∃ v, vs[i]? = some (q.1, v) ∧ sv e q.2 = some v
  | [], vs, h, i, q, hq => by simp at hq
  | (x, s) :: r, vs, h, i, q, hq => by
    obtain ⟨v, hv, h2⟩ := Option.bind_eq_some_iff.mp h
    obtain ⟨ws, hw, e2⟩ := Option.map_eq_some_iff.mp h2
    subst e2
    cases i with
    | zero => cases hq; exact ⟨v, rfl, hv⟩
    | succ i => exact reVals_at hw (i := i) hq
theorem reVals_len {e : NE} : ∀ {reps : List (Str × Src)} {vs : NE}, reVals e reps = some vs → vs.map (·.1) = reps.map (·.1)
  | [], vs, h => by cases h; rfl
  | (x, s) :: r, vs, h => by
    obtain ⟨v, hv, h2⟩ := Option.bind_eq_some_iff.mp h
    obtain ⟨ws, hw, e2⟩ := Option.map_eq_some_iff.mp h2
    subst e2
    rw [List.map_cons, List.map_cons, reVals_len hw]
theorem enc_keys (e : NE) : (encD e).map (·.1) = (e.map (·.1)).map (fun x => (Sum.inr x : Key)) := by
  unfold encD; rw [List.map_map, List.map_map]; rfl
theorem enc_nd {e : NE} (h : Nd e) : ((encD e).map (·.1)).Nodup := by
  rw [enc_keys]
  exact List.Pairwise.map _ (fun a b h e => h (Sum.inr.inj e)) h
theorem puts_enc (vs : NE) (h : Nd vs) : ∀ n, n ≤ vs.length → puts (fun i => (vs[i]?).map fun q => ((Sum.inr q.1 : Key), PD.int q.2)) n = encD (vs.take n)
  | 0, _ => by rw [List.take_zero]; rfl
  | n + 1, hn => by
    have ih := puts_enc vs h n (by omega)
    obtain ⟨q, hq⟩ : ∃ q, vs[n]? = some q := ⟨_, List.getElem?_eq_getElem (by omega)⟩
    show (match (vs[n]?).map (fun q => ((Sum.inr q.1 : Key), PD.int q.2)) with | some (k, d) => put (puts _ n) k d | none => puts _ n) = _
    rw [hq]
    show put (puts _ n) (.inr q.1) (.int q.2) = _
    rw [ih, put_enc, take_snoc hq]
    congr 1
    unfold eput
    rw [if_neg]
    rw [List.any_eq_true]
    rintro ⟨x, hx, ex⟩
    have e2 : vs.take (n + 1) = vs.take n ++ [q] := take_snoc hq
    have hs : ((vs.take (n + 1)).map (·.1)).Nodup := by rw [List.map_take]; exact (List.take_sublist _ _).nodup h
    rw [e2, List.map_append, List.nodup_append] at hs
    exact hs.2.2 x.1 (List.mem_map.mpr ⟨x, hx, rfl⟩) q.1 (by simp) (of_decide_eq_true ex)
theorem sx_repaired (ds : List PD) (r : Rt) (h : P_repaired ds r) : Sx K (t_repaired K) (ae 5 ds) (Gives r) := by
  obtain ⟨reps, e, vs, hn, hd, hv, hl, hz, rfl, rfl⟩ := h
  unfold t_repaired
  have hk := reVals_len hv
  have hlen : vs.length = reps.length := by have := congrArg List.length hk; simpa using this
  have hnv : Nd vs := by unfold Nd; rw [hk]; exact hn
  refine q_asgO (o := .dic (encD vs)) (eo_is (eo_dc (n := reps.length) (f := fun i => (reps.map pairPD).getD i .non) (fun i => (vs[i]?).map fun q => ((Sum.inr q.1 : Key), PD.int q.2)) (ei_is (ei_tup (ev_unb (ev_var rfl))) (by rw [List.length_map]) (fun _ _ => rfl)) (by omega) (fun i hi => ?_)) ?_) (q_share (i := 2) rfl ?_)
  · obtain ⟨q, hq⟩ : ∃ q, reps[i]? = some q := ⟨_, List.getElem?_eq_getElem hi⟩
    obtain ⟨v, hvi, hsv⟩ := reVals_at hv hq
    rw [getD_map hq]
    refine ⟨_, _, eg_tup (ds := [.str q.1, q.2.pd]) rfl (egs_cons (eg_name rfl) (egs_cons (eg_name rfl) egs_nil)), (fun j hj => hj), by rw [hvi]; exact et_yes, fun k w hkw => ?_⟩
    have hkw : (vs[i]?).map (fun q => ((Sum.inr q.1 : Key), PD.int q.2)) = some (k, w) := hkw
    rw [hvi] at hkw
    cases hkw
    exact ⟨ev_var rfl, ev_held (ev_var rfl) (ev_var rfl) hsv⟩
  · rw [← hlen, puts_enc vs hnv vs.length (Nat.le_refl _), List.take_length]
  · refine s_retO (o := .dic (encD (eputs e vs))) (eo_is (eo_star2 (kds := encD e) (lds := encD vs) (ev_var rfl) (ev_var rfl) (by rw [enc_len, enc_len]; omega)) ?_) rfl
    rw [merge_nodup (encD e) [] (by rw [List.nil_append]; exact enc_nd hd), List.nil_append, merge_enc]
end
section
variable {K : FK} {δ : AE} {ta tb tx : TE} {P : Post}
theorem put_done {e e1 : NE} {row : Row} (ok : TOk (.r row)) (h : done e row = some e1) (nt : ∀ s, row ≠ .tell s) : ∃ (x : Str) (v : Int) (y : Str), putVal e row = some (x, v) ∧ oBd row ∧ e1 = eput e x v ∧ row.items[0]? = some (.str y) ∧ row.items[1]? = some (.str x) ∧ y ≠ "guard" ∧ y ≠ "tell" ∧ tells e row = [] := by
  cases row with
  | put x v => cases h; exact ⟨x, v, "put", rfl, True.intro, rfl, rfl, rfl, by decide, by decide, rfl⟩
  | copy x s => obtain ⟨v, hv, he⟩ := Option.map_eq_some_iff.mp h; cases he; exact ⟨x, v, "copy", by show (sv e s).map _ = _; rw [hv]; rfl, True.intro, rfl, rfl, rfl, by decide, by decide, rfl⟩
  | op w x a b =>
    obtain ⟨i, hi, h2⟩ := Option.bind_eq_some_iff.mp h
    obtain ⟨j, hj, he⟩ := Option.map_eq_some_iff.mp h2; cases he
    exact ⟨x, w.val i j, w.word, by show (sv e a).bind _ = _; rw [hi]; show (sv e b).map _ = _; rw [hj]; rfl, ⟨sok_small ok.2.1, sok_small ok.2.2⟩, rfl, rfl, rfl, by cases w <;> decide, by cases w <;> decide, rfl⟩
  | tell s => exact absurd rfl (nt s)
  | jump q => cases h
  | zero y q => cases h
  | stop => cases h
theorem drop_at {α : Type} {xs : List α} {i : Nat} {x : α} (h : xs[i]? = some x) : xs.drop i = x :: xs.drop (i + 1) := by
  have hl := (List.getElem?_eq_some_iff.mp h).1
  rw [List.drop_eq_getElem_cons hl]
  have := (List.getElem?_eq_some_iff.mp h).2
  rw [this]
theorem sx_round_of (ds : List PD) (r : Rt) (h : P_round_of ds r) : Sx K (t_round_of K) (ae 14 ds) (Gives r) := by
  obtain ⟨start, rows, steps, e, res, ⟨hok, hlr, hb, hd, hl⟩, hres, rfl, rfl⟩ := h
  unfold t_round_of
  refine q_asgG (d := traceD start rows steps) (ev_var rfl) (eg_tup (ds := [.int start, .lst (rows.map TR.pd), .int steps]) rfl (egs_cons (eg_name rfl) (egs_cons (eg_name rfl) (egs_cons (eg_name rfl) egs_nil)))) ?_
  refine q_asgO (o := .dic (encD e)) (eo_dictD (rd_dic (ev_var rfl))) ?_
  refine q_asgO (o := .lst (([] : List Int).map PD.int)) (eo_lst es_nil (Nat.zero_le _)) ?_
  let Inv : Nat → AE → Prop := fun j d => ∃ (e' : NE) (ts : List Int), Bd e' ∧ Nd e' ∧ e'.length ≤ 1000 + j ∧ ts.length ≤ j ∧ goR start steps (rows.drop j) e' ts = some res ∧
    d = [.sh (traceD start rows steps), .sh (.dic (encD e)), .sh (.int start), .sh (.lst (rows.map TR.pd)), .sh (.int steps), .ow (.dic (encD e')), .ow (.lst (ts.map PD.int)), .no, .no, .no, .no, .no, .no, .no]
  refine q_forI (n := rows.length) (f := fun i => (rows.map TR.pd).getD i .non) [7, 8, 9, 10, 11, 12, 13] Inv (ei_is (ei_list (ev_var rfl)) (by rw [List.length_map]) (fun _ _ => rfl)) ⟨e, [], hb, hd, by omega, Nat.le_refl _, hres, rfl⟩ (fun j d hj hI => ⟨_, _, eg_name (by obtain ⟨e', ts, _, _, _, _, _, rfl⟩ := hI; rfl), ?_⟩) (fun d hI => ?_)
  · obtain ⟨e', ts, hb', hd', hl', ht', hg, rfl⟩ := hI
    obtain ⟨t, ht⟩ : ∃ t, rows[j]? = some t := ⟨_, List.getElem?_eq_getElem hj⟩
    rw [getD_map ht]
    have hmem := List.mem_of_getElem? ht
    have htok := hok t hmem
    rw [drop_at ht] at hg
    show Sx K _ [.sh (traceD start rows steps), .sh (.dic (encD e)), .sh (.int start), .sh (.lst (rows.map TR.pd)), .sh (.int steps), .ow (.dic (encD e')), .ow (.lst (ts.map PD.int)), .sh (.tup t.items), .no, .no, .no, .no, .no, .no] _
    cases t with
    | g s n p st reps =>
      obtain ⟨v, hv, h2⟩ := Option.bind_eq_some_iff.mp hg
      refine s_if (x := true) (et_is (et_test (ev_eqS (ev_ixT (ds := (TR.g s n p st reps).items) (ev_var rfl) (ev_int 0) rfl) (ev_str "guard"))) (by decide)) (fun _ => ?_) (fun z => nomatch z)
      refine q_asgG (d := (TR.g s n p st reps).pd) (ev_var rfl) (eg_tup (ds := (TR.g s n p st reps).items) rfl (egs_cons (eg_name rfl) (egs_cons (eg_name rfl) (egs_cons (eg_name rfl) (egs_cons (eg_name rfl) (egs_cons (eg_name rfl) (egs_cons (eg_name rfl) egs_nil))))))) ?_
      show Sx K _ [.sh (traceD start rows steps), .sh (.dic (encD e)), .sh (.int start), .sh (.lst (rows.map TR.pd)), .sh (.int steps), .ow (.dic (encD e')), .ow (.lst (ts.map PD.int)), .sh (.tup (TR.g s n p st reps).items), .sh (.str "guard"), .sh s.pd, .sh (.bl n), .sh (.int p), .sh (.int st), .sh (.btup (reps.map pairPD))] _
      refine s_if (x := !decide (decide (v = 0) = n)) (et_not (et_B (ev_call (P := P_is_passed) (es_cons (ev_borrow (ev_held (e := e') (s := s) (v := v) (ev_var rfl) (ev_var rfl) hv) rfl) (es_cons (ev_var rfl) es_nil)) ⟨v, n, rfl, rfl⟩))) (fun hx => ?_) (fun hx => ?_)
      · have hn : ¬ decide (v = 0) = n := by
          intro z
          rw [decide_eq_true z] at hx; cases hx
        rw [if_neg hn] at h2
        obtain ⟨vs, hvs, he⟩ := Option.map_eq_some_iff.mp h2
        subst he
        refine q_share (i := 5) rfl ?_
        exact s_retT (cs := [.inl (.bl false), .inl (.int p), .inr (.dic (encD (eputs e' vs))), .inr (.lst (ts.map PD.int)), .inl (.int st)]) (ecs_val (ev_bl false) (ecs_val (ev_var rfl) (ecs_new (eo_call (P := P_repaired) (es_cons (ev_var rfl) (es_cons (ev_var rfl) es_nil)) ⟨reps, e', vs, htok.2.2.1, hd', hvs, by omega, htok.2.2.2, rfl, rfl⟩) (ecs_own (k := 6) rfl (ecs_val (ev_var rfl) ecs_nil) (by decide))))) (Nat.le_of_ble_eq_true rfl) rfl
      · have hn : decide (v = 0) = n := by
          rcases Classical.em (decide (v = 0) = n) with z | z
          · exact z
          · rw [decide_eq_false z] at hx; cases hx
        rw [if_pos hn] at h2
        exact sx_next ⟨e', ts, hb', hd', by omega, by omega, h2, rfl⟩
    | r row =>
      obtain ⟨e1, h1, h2⟩ := Option.bind_eq_some_iff.mp hg
      obtain ⟨d1, d2, d3⟩ := done_keeps hb' (tok_rBd htok) hd' h1
      by_cases hT : ∃ s, row = .tell s
      · obtain ⟨s, rfl⟩ := hT
        obtain ⟨v, hv, he⟩ := Option.map_eq_some_iff.mp h1
        subst he
        refine s_if (x := false) (et_is (et_test (ev_eqS (ev_ixT (ds := (Row.tell s).items) (ev_var rfl) (ev_int 0) rfl) (ev_str "guard"))) (by decide)) (fun z => nomatch z) (fun _ => ?_)
        refine s_if (x := true) (et_is (et_test (ev_eqS (ev_ixT (ds := (Row.tell s).items) (ev_var rfl) (ev_int 0) rfl) (ev_str "tell"))) (by decide)) (fun _ => ?_) (fun z => nomatch z)
        have et : tells e' (.tell s) = [v] := by show (sv e' s).toList = _; rw [hv]; rfl
        rw [et] at h2
        refine s_app (xs := ts.map PD.int) (d := .int v) (Or.inl rfl) (ev_borrow (ev_held (e := e') (s := s) (v := v) (ev_ixT (ds := (Row.tell s).items) (ev_var rfl) (ev_int 1) rfl) (ev_var rfl) hv) rfl) (by rw [List.length_map]; omega) ⟨e', ts ++ [v], hb', hd', by omega, by rw [List.length_append]; show ts.length + 1 ≤ _; omega, h2, ?_⟩
        rw [List.map_append]; rfl
      · obtain ⟨x, v, y, hp, ho, he, h0, hx1, ng, nt, htl⟩ := put_done htok h1 (fun s e => hT ⟨s, e⟩)
        have e0 : atI row.items 0 = some (.str y) := atI_nat (j := 0) h0
        refine s_if (x := false) (et_is (et_test (ev_eqS (ev_ixT (ds := row.items) (ev_var rfl) (ev_int 0) e0) (ev_str "guard"))) (decide_eq_false ng)) (fun z => nomatch z) (fun _ => ?_)
        refine s_if (x := false) (et_is (et_test (ev_eqS (ev_ixT (ds := row.items) (ev_var rfl) (ev_int 0) e0) (ev_str "tell"))) (decide_eq_false nt)) (fun z => nomatch z) (fun _ => ?_)
        rw [htl, List.append_nil] at h2
        refine s_dput (i := 5) (kds := encD e') (dk := .str x) (d := .int v) (Or.inl rfl) (ev_borrow (ev_call (P := P_number_for) (es_cons (ev_var rfl) (es_cons (ev_var rfl) es_nil)) ⟨row, e', x, v, hb', ho, hp, rfl, rfl⟩) rfl) (ev_ixT (ds := row.items) (ev_var rfl) (ev_int 1) (atI_nat (j := 1) hx1)) rfl (by rw [enc_len]; omega) ?_
        subst he
        refine ⟨eput e' x v, ts, d1, d2, by omega, by omega, h2, ?_⟩
        have e2 : put (encD e') (keyOf (.str x)) (.int v) = encD (eput e' x v) := put_enc e' x v
        show fgt [.sh (traceD start rows steps), .sh (.dic (encD e)), .sh (.int start), .sh (.lst (rows.map TR.pd)), .sh (.int steps), .ow (.dic (put (encD e') (keyOf (.str x)) (.int v))), .ow (.lst (ts.map PD.int)), .sh (.tup row.items), .no, .no, .no, .no, .no, .no] _ = _
        rw [e2]; rfl
  · obtain ⟨e', ts, hb', hd', hl', ht', hg, rfl⟩ := hI
    rw [List.drop_length] at hg
    cases hg
    exact s_retT (cs := [.inl (.bl true), .inl (.int start), .inr (.dic (encD e')), .inr (.lst (ts.map PD.int)), .inl (.int steps)]) (ecs_val (ev_bl true) (ecs_val (ev_var rfl) (ecs_own (k := 5) rfl (ecs_own (k := 6) rfl (ecs_val (ev_var rfl) ecs_nil) (by decide)) (by decide)))) (Nat.le_of_ble_eq_true rfl) rfl
theorem eputs_snoc (vs e : NE) (q : Str × Int) : eputs e (vs ++ [q]) = eput (eputs e vs) q.1 q.2 := by unfold eputs; rw [List.foldl_append]; rfl
theorem sx_law_round (ds : List PD) (r : Rt) (h : P_law_round ds r) : Sx K (t_law_round K) (ae 7 ds) (Gives r) := by
  obtain ⟨start, rows, steps, e, res, ⟨hok, hlr, hb, hd, hl⟩, hres, rfl, rfl⟩ := h
  unfold t_law_round
  refine q_asgO (o := .lst (([] : List Int).map PD.int)) (eo_lst es_nil (Nat.zero_le _)) (q_share (i := 2) rfl ?_)
  let Inv : Nat → AE → Prop := fun j d => ∃ (e' : NE) (ts : List Int), Bd e' ∧ Nd e' ∧ e'.length ≤ 1000 + j ∧ ts.length ≤ j ∧ goR start steps (rows.drop j) e' ts = some res ∧
    d = [.sh (traceD start rows steps), .sh (.dic (encD e')), .sh (.lst (ts.map PD.int)), .no, .no, .no, .no]
  refine q_forI (n := rows.length) (f := fun i => (rows.map TR.pd).getD i .non) [3, 4, 5, 6] Inv (ei_is (ei_list (ds := rows.map TR.pd) (ev_ixT (ds := [.int start, .lst (rows.map TR.pd), .int steps]) (ev_var rfl) (ev_int 1) rfl)) (by rw [List.length_map]) (fun _ _ => rfl)) ⟨e, [], hb, hd, by omega, Nat.le_refl _, hres, rfl⟩ (fun j d hj hI => ⟨_, _, eg_name (by obtain ⟨e', ts, _, _, _, _, _, rfl⟩ := hI; rfl), ?_⟩) (fun d hI => ?_)
  · obtain ⟨e', ts, hb', hd', hl', ht', hg, rfl⟩ := hI
    obtain ⟨t, ht⟩ : ∃ t, rows[j]? = some t := ⟨_, List.getElem?_eq_getElem hj⟩
    rw [getD_map ht]
    have hmem := List.mem_of_getElem? ht
    have htok := hok t hmem
    rw [drop_at ht] at hg
    show Sx K _ [.sh (traceD start rows steps), .sh (.dic (encD e')), .sh (.lst (ts.map PD.int)), .sh (.tup t.items), .no, .no, .no] _
    cases t with
    | g s n p st reps =>
      obtain ⟨v, hv, h2⟩ := Option.bind_eq_some_iff.mp hg
      refine s_if (x := false) (et_is (et_test (ev_neS (ev_ixT (ds := (TR.g s n p st reps).items) (ev_var rfl) (ev_int 0) rfl) (ev_str "guard"))) (by decide)) (fun z => nomatch z) (fun _ => ?_)
      refine s_if (x := !decide (decide (v = 0) = n)) (et_test (ev_neB (ev_eqI (ev_call (P := P_law_value) (es_cons (ev_var rfl) (es_cons (ev_ixT (ds := (TR.g s n p st reps).items) (d := s.pd) (ev_var rfl) (ev_int 1) rfl) es_nil)) ⟨e', s, v, hv, rfl, rfl⟩) (ev_int 0)) (ev_ixT (ds := (TR.g s n p st reps).items) (d := .bl n) (ev_var rfl) (ev_int 2) rfl))) (fun hx => ?_) (fun hx => ?_)
      · have hn : ¬ decide (v = 0) = n := by
          intro z
          rw [decide_eq_true z] at hx; cases hx
        rw [if_neg hn] at h2
        obtain ⟨vs, hvs, he⟩ := Option.map_eq_some_iff.mp h2
        subst he
        have hk := reVals_len hvs
        have hlen : vs.length = reps.length := by have := congrArg List.length hk; simpa using this
        refine q_asgO (o := .dic (encD e')) (eo_dictD (rd_dic (ev_var rfl))) ?_
        refine q_forD (n := reps.length) (f := fun i => (reps.map pairPD).getD i .non) [5, 6] (fun i => [.sh (traceD start rows steps), .sh (.dic (encD e')), .sh (.lst (ts.map PD.int)), .sh (.tup (TR.g s n p st reps).items), .ow (.dic (encD (eputs e' (vs.take i)))), .no, .no])
          (ei_is (ei_tup (ds := reps.map pairPD) (ev_unb (ev_ixT (ds := (TR.g s n p st reps).items) (ev_var rfl) (ev_int 5) rfl))) (by rw [List.length_map]) (fun _ _ => rfl)) rfl (fun i hi => ?_) ?_
        · obtain ⟨q, hq⟩ : ∃ q, reps[i]? = some q := ⟨_, List.getElem?_eq_getElem hi⟩
          obtain ⟨w, hw, hsw⟩ := reVals_at hvs hq
          rw [getD_map hq]
          refine ⟨_, _, eg_tup (ds := [.str q.1, q.2.pd]) rfl (egs_cons (eg_name rfl) (egs_cons (eg_name rfl) egs_nil)), ?_⟩
          obtain ⟨_, _, k3, _⟩ := eputs_keeps (vs.take i) hb' hd' (fun q hq => (reVals_small hb' (fun q hq => (htok.2.1 q hq).2) hvs).2 q (List.mem_of_mem_take hq))
          have hr := htok.2.2.2
          have := List.length_take_le i vs
          refine s_putE (i := 4) (e := eputs e' (vs.take i)) (x := q.1) (v := w) rfl (ev_call (P := P_law_value) (es_cons (ev_var rfl) (es_cons (ev_var rfl) es_nil)) ⟨e', q.2, w, hsw, rfl, rfl⟩) (ev_var rfl) (by omega) ?_
          show fgt _ [5, 6] = _
          rw [take_snoc hw, eputs_snoc]
          rfl
        · rw [← hlen, List.take_length]
          refine q_share (i := 4) rfl ?_
          exact s_ret (d := resPD (false, p, eputs e' vs, ts, st)) (ev_tup (es_cons (ev_bl false) (es_cons (ev_ixT (ds := (TR.g s n p st reps).items) (d := .int p) (ev_var rfl) (ev_int 3) rfl) (es_cons (ev_var rfl) (es_cons (ev_var rfl) (es_cons (ev_ixT (ds := (TR.g s n p st reps).items) (d := .int st) (ev_var rfl) (ev_int 4) rfl) es_nil))))) (Nat.le_of_ble_eq_true rfl)) rfl
      · have hn : decide (v = 0) = n := by
          rcases Classical.em (decide (v = 0) = n) with z | z
          · exact z
          · rw [decide_eq_false z] at hx; cases hx
        rw [if_pos hn] at h2
        exact sx_next ⟨e', ts, hb', hd', by omega, by omega, h2, rfl⟩
    | r row =>
      obtain ⟨e1, h1, h2⟩ := Option.bind_eq_some_iff.mp hg
      obtain ⟨d1, d2, d3⟩ := done_keeps hb' (tok_rBd htok) hd' h1
      obtain ⟨y, hy, ng⟩ : ∃ y : Str, row.items[0]? = some (.str y) ∧ y ≠ "guard" := by
        cases row with
        | put x v => exact ⟨_, rfl, by decide⟩
        | copy x s => exact ⟨_, rfl, by decide⟩
        | op w x a b => exact ⟨w.word, rfl, by cases w <;> decide⟩
        | tell s => exact ⟨_, rfl, by decide⟩
        | jump q => exact ⟨_, rfl, by decide⟩
        | zero y q => exact ⟨_, rfl, by decide⟩
        | stop => exact ⟨_, rfl, by decide⟩
      refine s_if (x := true) (et_is (et_test (ev_neS (ev_ixT (ds := row.items) (ev_var rfl) (ev_int 0) (atI_nat (j := 0) hy)) (ev_str "guard"))) (by rw [decide_eq_false ng]; rfl)) (fun _ => ?_) (fun z => nomatch z)
      have htl := tells_len e' row
      refine q_asgO (o := .lst ((ts ++ tells e' row).map PD.int)) (eo_is (eo_cat (rd_lst (ev_var rfl)) (rd_of_evo (eo_call (P := P_law_told) (es_cons (ev_var rfl) (es_cons (ev_var rfl) es_nil)) ⟨row, e', e1, h1, rfl, rfl⟩)) (by rw [List.length_map, List.length_map]; omega)) (by rw [List.map_append])) (q_share (i := 2) rfl ?_)
      exact s_asg (d := .dic (encD e1)) (evd_of_evo (o := .dic (encD e1)) (eo_call (P := P_law_done) (es_cons (ev_var rfl) (es_cons (ev_var rfl) es_nil)) ⟨row, e', e1, hb', tok_rBd htok, by omega, h1, rfl, rfl⟩)) rfl ⟨e1, ts ++ tells e' row, d1, d2, by omega, by rw [List.length_append]; omega, h2, rfl⟩
  · obtain ⟨e', ts, hb', hd', hl', ht', hg, rfl⟩ := hI
    rw [List.drop_length] at hg
    cases hg
    exact s_ret (d := resPD (true, start, e', ts, steps)) (ev_tup (es_cons (ev_bl true) (es_cons (ev_ixT (ds := [.int start, .lst (rows.map TR.pd), .int steps]) (d := .int start) (ev_var rfl) (ev_int 0) rfl) (es_cons (ev_var rfl) (es_cons (ev_var rfl) (es_cons (ev_ixT (ds := [.int start, .lst (rows.map TR.pd), .int steps]) (d := .int steps) (ev_var rfl) (ev_int 2) rfl) es_nil))))) (Nat.le_of_ble_eq_true rfl)) rfl
end
section
variable {K : FK} {δ : AE} {ta tb tx : TE} {P : Post}
theorem sx_law_mixed (ds : List PD) (r : Rt) (h : P_law_mixed ds r) : Sx K (t_law_mixed K) (ae 2 ds) (Gives r) := by
  obtain ⟨c, nms, hl, rfl, rfl⟩ := h
  unfold t_law_mixed
  refine q_if (x := decide (c % 4 = 3)) (et_test (ev_eqI (e_mod (ev_var rfl) (ev_int 4) (by decide)) (ev_int 3))) (fun h => q_ret (s_ret (d := .int (number (c / 4))) (ev_number (e_div (ev_var rfl) (ev_int 4) ⟨by decide, by decide⟩)) ?_)) (fun h => q_next (s_ret (d := .str (nm nms (c / 4 % 4))) (ev_nm hl (ev_var rfl) (e_mod (e_div (ev_var rfl) (ev_int 4) ⟨by decide, by decide⟩) (ev_int 4) (by decide)) (by omega)) ?_))
  · show Rt.val _ = Rt.val (mixed c nms).pd
    unfold mixed; rw [if_pos (of_decide_eq_true h)]; rfl
  · show Rt.val _ = Rt.val (mixed c nms).pd
    unfold mixed; rw [if_neg (of_decide_eq_false h)]; rfl
theorem ev_mixed {c : Int} {nms : List Str} (hl : nms.length = 6) (ha : Evd K ta δ (.int c)) (hb : Evd K tb δ (.lst (nms.map PD.str))) : Evd K (tCall (sp_law_mixed K) [] E0 (tCons ta (tCons tb tNil))) δ (mixed c nms).pd :=
  ev_call (es_cons ha (es_cons hb es_nil)) ⟨c, nms, hl, rfl, rfl⟩
theorem cut_take (a b : PD) {j : Int} (h : 0 ≤ j ∧ j < 3) : cutD [a, b] none (some j) = [a, b].take j.toNat := by
  rcases (by omega : j = 0 ∨ j = 1 ∨ j = 2) with rfl | rfl | rfl <;> rfl
theorem sx_law_drawn_row (ds : List PD) (r : Rt) (h : P_law_drawn_row ds r) : Sx K (t_law_drawn_row K) (ae 8 ds) (Gives r) := by
  obtain ⟨way, one, two, nms, k, hl, rfl, rfl⟩ := h
  unfold t_law_drawn_row
  refine q_asg (d := .str (nm nms ((one + two) % 4))) (ev_nm hl (ev_var rfl) (e_mod (e_add (ev_var rfl) (ev_var rfl)) (ev_int 4) (by decide)) (by omega)) rfl ?_
  refine q_if (x := decide (6 < way % 9)) (et_test (e_gt (e_mod (ev_var rfl) (ev_int 9) (by decide)) (ev_int 6))) (fun h => ?_) (fun h => q_next ?_)
  · have h6 := of_decide_eq_true h
    refine q_assoc ?_
    refine q_asg (d := .btup ([(nm nms ((one + two) % 4), mixed (two / 2) nms), (nm nms ((one + two + 1) % 4), mixed one nms)].map pairPD)) (ev_tupZ (es_cons (ev_tup (ds := [.str _, (mixed (two / 2) nms).pd]) (es_cons (ev_var rfl) (es_cons (ev_mixed hl (e_div (ev_var rfl) (ev_int 2) ⟨by decide, by decide⟩) (ev_var rfl)) es_nil)) (Nat.le_of_ble_eq_true rfl)) (es_cons (ev_tup (ds := [.str _, (mixed one nms).pd]) (es_cons (ev_nm hl (ev_var rfl) (e_mod (e_add (e_add (ev_var rfl) (ev_var rfl)) (ev_int 1)) (ev_int 4) (by decide)) (by omega)) (es_cons (ev_mixed hl (ev_var rfl) (ev_var rfl)) es_nil)) (Nat.le_of_ble_eq_true rfl)) es_nil)) (Nat.le_of_ble_eq_true rfl)) rfl ?_
    refine q_ret (s_ret (d := (TR.g (mixed one nms) (decide (two % 2 = 0)) (two / 2 % 60) (k + 1) (([(nm nms ((one + two) % 4), mixed (two / 2) nms), (nm nms ((one + two + 1) % 4), mixed one nms)]).take (way / 9 % 3).toNat)).pd) (ev_tup (es_cons (ev_str "guard") (es_cons (ev_mixed hl (ev_var rfl) (ev_var rfl)) (es_cons (ev_eqI (e_mod (ev_var rfl) (ev_int 2) (by decide)) (ev_int 0)) (es_cons (e_mod (e_div (ev_var rfl) (ev_int 2) ⟨by decide, by decide⟩) (ev_int 60) (by decide)) (es_cons (e_add (ev_var rfl) (ev_int 1)) (es_cons (ev_is (ev_slZ (ev_var rfl) ep_none (ep_some (e_mod (e_div (ev_var rfl) (ev_int 9) ⟨by decide, by decide⟩) (ev_int 3) (by decide)))) ?_) es_nil)))))) (Nat.le_of_ble_eq_true rfl)) ?_)
    · show PD.btup (cutD [pairPD _, pairPD _] none (some (way / 9 % 3))) = _
      rw [cut_take _ _ ⟨by omega, by omega⟩, List.map_take]; rfl
    · show Rt.val _ = Rt.val (drawnRow way one two nms k).pd
      unfold drawnRow; rw [if_pos h6]
  · have h6 := of_decide_eq_false h
    have h0 : 0 ≤ way % 9 := by omega
    obtain ⟨n, hn⟩ := Int.eq_ofNat_of_zero_le h0
    have hn7 : n < 7 := by omega
    have wd : ∀ (w : Str), ([PD.str "put", .str "copy", .str "add", .str "minus", .str "times", .str "less", .str "tell"])[n]? = some (.str w) → Evd K (tOp (rIxL K) (tLst (tCons (tC (.str "put")) (tCons (tC (.str "copy")) (tCons (tC (.str "add")) (tCons (tC (.str "minus")) (tCons (tC (.str "times")) (tCons (tC (.str "less")) (tCons (tC (.str "tell")) (tNil))))))))) (tOp rModI (tVar 0) (tC (.int 9)))) [.sh (.int way), .sh (.int one), .sh (.int two), .sh (.lst (nms.map PD.str)), .sh (.int k), .sh (.str (nm nms ((one + two) % 4))), .no, .no] (.str w) := fun w hw =>
      ev_ixL (rd_of_evo (o := .lst [PD.str "put", .str "copy", .str "add", .str "minus", .str "times", .str "less", .str "tell"]) (eo_lst (es_cons (ev_str _) (es_cons (ev_str _) (es_cons (ev_str _) (es_cons (ev_str _) (es_cons (ev_str _) (es_cons (ev_str _) (es_cons (ev_str _) es_nil))))))) (Nat.le_of_ble_eq_true rfl))) (ev_is (e_mod (ev_var rfl) (ev_int 9) (by decide)) (by rw [hn])) (atI_nat hw)
    have eqz : ∀ {w z : Str} {s6 : Sl}, Evt K (tTest (tOp rEq (tVar 7) (tC (.str z)))) [.sh (.int way), .sh (.int one), .sh (.int two), .sh (.lst (nms.map PD.str)), .sh (.int k), .sh (.str (nm nms ((one + two) % 4))), s6, .sh (.str w)] (decide (w = z)) := et_test (ev_eqS (ev_var rfl) (ev_str _))
    have ops : ∀ (w : Op), ([PD.str "put", .str "copy", .str "add", .str "minus", .str "times", .str "less", .str "tell"])[n]? = some (.str w.word) → drawnRow way one two nms k = .r (.op w (nm nms ((one + two) % 4)) (mixed one nms) (mixed two nms)) → Sx K (tSeq (tAsg (tOp (rIxL K) (tLst (tCons (tC (.str "put")) (tCons (tC (.str "copy")) (tCons (tC (.str "add")) (tCons (tC (.str "minus")) (tCons (tC (.str "times")) (tCons (tC (.str "less")) (tCons (tC (.str "tell")) (tNil))))))))) (tOp rModI (tVar 0) (tC (.int 9)))) (gName 7)) (tSeq (tIfS (tTest (tOp rEq (tVar 7) (tC (.str "put")))) (tRet (tTup (tCons (tVar 7) (tCons (tVar 5) (tCons (tCall (sp_law_number K) [] E0 (tCons (tVar 2) (tNil))) (tNil)))))) (tNext)) (tSeq (tIfS (tTest (tOp rEq (tVar 7) (tC (.str "tell")))) (tRet (tTup (tCons (tVar 7) (tCons (tCall (sp_law_mixed K) [] E0 (tCons (tVar 2) (tCons (tVar 3) (tNil)))) (tNil))))) (tNext)) (tSeq (tIfS (tTest (tOp rEq (tVar 7) (tC (.str "copy")))) (tRet (tTup (tCons (tVar 7) (tCons (tVar 5) (tCons (tCall (sp_law_mixed K) [] E0 (tCons (tVar 2) (tCons (tVar 3) (tNil)))) (tNil)))))) (tNext)) (tRet (tTup (tCons (tVar 7) (tCons (tVar 5) (tCons (tCall (sp_law_mixed K) [] E0 (tCons (tVar 1) (tCons (tVar 3) (tNil)))) (tCons (tCall (sp_law_mixed K) [] E0 (tCons (tVar 2) (tCons (tVar 3) (tNil)))) (tNil))))))))))) [.sh (.int way), .sh (.int one), .sh (.int two), .sh (.lst (nms.map PD.str)), .sh (.int k), .sh (.str (nm nms ((one + two) % 4))), .no, .no] (Fw.Gives (.val (drawnRow way one two nms k).pd)) := fun w hw he => by
      refine q_asg (d := .str w.word) (wd _ hw) rfl ?_
      refine q_if (x := false) (et_is eqz (by cases w <;> decide)) (fun z => nomatch z) (fun _ => q_next ?_)
      refine q_if (x := false) (et_is eqz (by cases w <;> decide)) (fun z => nomatch z) (fun _ => q_next ?_)
      refine q_if (x := false) (et_is eqz (by cases w <;> decide)) (fun z => nomatch z) (fun _ => q_next ?_)
      rw [he]
      exact s_ret (ev_tup (ds := [.str w.word, .str (nm nms ((one + two) % 4)), (mixed one nms).pd, (mixed two nms).pd]) (es_cons (ev_var rfl) (es_cons (ev_var rfl) (es_cons (ev_mixed hl (ev_var rfl) (ev_var rfl)) (es_cons (ev_mixed hl (ev_var rfl) (ev_var rfl)) es_nil)))) (Nat.le_of_ble_eq_true rfl)) rfl
    have dr : drawnRow way one two nms k = (if way % 9 = 0 then .r (.put (nm nms ((one + two) % 4)) (number two)) else if way % 9 = 6 then .r (.tell (mixed two nms)) else if way % 9 = 1 then .r (.copy (nm nms ((one + two) % 4)) (mixed two nms)) else .r (.op (if way % 9 = 2 then .add else if way % 9 = 3 then .minus else if way % 9 = 4 then .times else .less) (nm nms ((one + two) % 4)) (mixed one nms) (mixed two nms))) := by unfold drawnRow; rw [if_neg h6]
    rw [hn] at dr
    match n, hn7 with
    | 0, _ =>
      refine q_asg (d := .str "put") (wd _ rfl) rfl ?_
      refine q_if (x := true) (et_is eqz (by decide)) (fun _ => ?_) (fun z => nomatch z)
      refine q_ret (s_ret (d := (Row.put (nm nms ((one + two) % 4)) (number two)).pd) (ev_tup (es_cons (ev_var rfl) (es_cons (ev_var rfl) (es_cons (ev_number (ev_var rfl)) es_nil))) (Nat.le_of_ble_eq_true rfl)) ?_)
      show Rt.val _ = Rt.val (drawnRow way one two nms k).pd
      rw [dr]; rfl
    | 1, _ =>
      refine q_asg (d := .str "copy") (wd _ rfl) rfl ?_
      refine q_if (x := false) (et_is eqz (by decide)) (fun z => nomatch z) (fun _ => q_next ?_)
      refine q_if (x := false) (et_is eqz (by decide)) (fun z => nomatch z) (fun _ => q_next ?_)
      refine q_if (x := true) (et_is eqz (by decide)) (fun _ => ?_) (fun z => nomatch z)
      refine q_ret (s_ret (d := (Row.copy (nm nms ((one + two) % 4)) (mixed two nms)).pd) (ev_tup (es_cons (ev_var rfl) (es_cons (ev_var rfl) (es_cons (ev_mixed hl (ev_var rfl) (ev_var rfl)) es_nil))) (Nat.le_of_ble_eq_true rfl)) ?_)
      show Rt.val _ = Rt.val (drawnRow way one two nms k).pd
      rw [dr]; rfl
    | 2, _ => exact ops .add rfl (by rw [dr]; rfl)
    | 3, _ => exact ops .minus rfl (by rw [dr]; rfl)
    | 4, _ => exact ops .times rfl (by rw [dr]; rfl)
    | 5, _ => exact ops .less rfl (by rw [dr]; rfl)
    | 6, _ =>
      refine q_asg (d := .str "tell") (wd _ rfl) rfl ?_
      refine q_if (x := false) (et_is eqz (by decide)) (fun z => nomatch z) (fun _ => q_next ?_)
      refine q_if (x := true) (et_is eqz (by decide)) (fun _ => ?_) (fun z => nomatch z)
      refine q_ret (s_ret (d := (Row.tell (mixed two nms)).pd) (ev_tup (es_cons (ev_var rfl) (es_cons (ev_mixed hl (ev_var rfl) (ev_var rfl)) es_nil)) (Nat.le_of_ble_eq_true rfl)) ?_)
      show Rt.val _ = Rt.val (drawnRow way one two nms k).pd
      rw [dr]; rfl
    | n + 7, h => exact absurd h (by omega)
end
section
variable {K : FK} {δ : AE} {ta tb tx : TE} {P : Post}
theorem opw {c : Int} {a b : Op} (hc : Evd K ta δ (.int c)) (wa wb : Str) (ea : wa = a.word) (eb : wb = b.word) : Evd K (tOp (rIxL K) (tLst (tCons (tC (.str wa)) (tCons (tC (.str wb)) (tNil)))) (tOp rModI (tOp rDivI ta (tC (.int 4))) (tC (.int 2)))) δ (.str (if c / 4 % 2 = 0 then a else b).word) := by
  subst ea eb
  refine ev_ixL (ds := [.str a.word, .str b.word]) (rd_of_evo (o := .lst _) (eo_lst (es_cons (ev_str _) (es_cons (ev_str _) es_nil)) (Nat.le_of_ble_eq_true rfl))) (e_mod (e_div hc (ev_int 4) ⟨by decide, by decide⟩) (ev_int 2) (by decide)) ?_
  rcases (by omega : c / 4 % 2 = 0 ∨ c / 4 % 2 = 1) with h | h
  · rw [h, if_pos rfl]; rfl
  · rw [h, if_neg (by decide)]; rfl
theorem sx_law_pattern (ds : List PD) (r : Rt) (h : P_law_pattern ds r) : Sx K (t_law_pattern K) (ae 8 ds) (Gives r) := by
  obtain ⟨way, c, nms, hl, rfl, rfl⟩ := h
  unfold t_law_pattern
  have hp : pattern way c nms = patRows way c (nm nms (c % 4)) (nm nms ((c + 1) % 4)) (nm nms ((c + 2) % 4)) := rfl
  rw [hp]
  refine q_asg (d := .str (nm nms (c % 4))) (ev_nm hl (ev_var rfl) (e_mod (ev_var rfl) (ev_int 4) (by decide)) (by omega)) rfl ?_
  refine q_asg (d := .str (nm nms ((c + 1) % 4))) (ev_nm hl (ev_var rfl) (e_mod (e_add (ev_var rfl) (ev_int 1)) (ev_int 4) (by decide)) (by omega)) rfl ?_
  refine q_asg (d := .str (nm nms ((c + 2) % 4))) (ev_nm hl (ev_var rfl) (e_mod (e_add (ev_var rfl) (ev_int 2)) (ev_int 4) (by decide)) (by omega)) rfl ?_
  generalize nm nms (c % 4) = o
  generalize nm nms ((c + 1) % 4) = t
  generalize nm nms ((c + 2) % 4) = f
  clear hp
  refine q_asg (d := (TR.g (.n o) false (c % 60) (1 + c % 9) []).pd) (ev_tup (es_cons (ev_str _) (es_cons (ev_var rfl) (es_cons (ev_bl _) (es_cons (e_mod (ev_var rfl) (ev_int 60) (by decide)) (es_cons (e_add (ev_int 1) (e_mod (ev_var rfl) (ev_int 9) (by decide))) (es_cons (ev_tupZ es_nil (Nat.zero_le _)) es_nil)))))) (Nat.le_of_ble_eq_true rfl)) rfl ?_
  have wt : ∀ {k : Int} {x7 : Sl}, Evt K (tTest (tOp rEq (tVar 0) (tC (.int k)))) [.sh (.int way), .sh (.int c), .sh (.lst (nms.map PD.str)), .sh (.str o), .sh (.str t), .sh (.str f), .sh (TR.g (.n o) false (c % 60) (1 + c % 9) []).pd, x7] (decide (way = k)) := et_test (ev_eqI (ev_var rfl) (ev_int _))
  refine q_if (x := decide (way = 0)) wt (fun h => ?_) (fun h => q_next ?_)
  · have h := of_decide_eq_true h
    have e : patRows way c o t f = [.g (.n o) false (c % 60) (1 + c % 9) [], .r (.op (if c / 4 % 2 = 0 then .minus else .less) o (.n t) (.n f)), .g (.n o) false 7 9 [], .r (.tell (.n o))] := by unfold patRows; rw [if_pos h]
    rw [e]
    exact q_ret (s_retO (eo_lst (es_cons (ev_var rfl) (es_cons (ev_tup (ds := [.str _, .str o, .str t, .str f]) (es_cons (opw (a := .minus) (b := .less) (ev_var rfl) "minus" "less" rfl rfl) (es_cons (ev_var rfl) (es_cons (ev_var rfl) (es_cons (ev_var rfl) es_nil)))) (Nat.le_of_ble_eq_true rfl)) (es_cons (ev_tup (es_cons (ev_str _) (es_cons (ev_var rfl) (es_cons (ev_bl _) (es_cons (ev_int _) (es_cons (ev_int _) (es_cons (ev_tupZ es_nil (Nat.zero_le _)) es_nil)))))) (Nat.le_of_ble_eq_true rfl)) (es_cons (ev_tup (es_cons (ev_str _) (es_cons (ev_var rfl) es_nil)) (Nat.le_of_ble_eq_true rfl)) es_nil)))) (Nat.le_of_ble_eq_true rfl)) rfl)
  have h0 := of_decide_eq_false h
  refine q_if (x := decide (way = 1)) wt (fun h => ?_) (fun h => q_next ?_)
  · have h := of_decide_eq_true h
    have e : patRows way c o t f = [.r (.copy t (.n o)), .r (.op .add o (.n o) (.n f)), .r (.tell (.n t)), .g (.n t) true 5 6 []] := by unfold patRows; rw [if_neg h0, if_pos h]
    rw [e]
    exact q_ret (s_retO (eo_lst (es_cons (ev_tup (es_cons (ev_str _) (es_cons (ev_var rfl) (es_cons (ev_var rfl) es_nil))) (Nat.le_of_ble_eq_true rfl)) (es_cons (ev_tup (es_cons (ev_str _) (es_cons (ev_var rfl) (es_cons (ev_var rfl) (es_cons (ev_var rfl) es_nil)))) (Nat.le_of_ble_eq_true rfl)) (es_cons (ev_tup (es_cons (ev_str _) (es_cons (ev_var rfl) es_nil)) (Nat.le_of_ble_eq_true rfl)) (es_cons (ev_tup (es_cons (ev_str _) (es_cons (ev_var rfl) (es_cons (ev_bl _) (es_cons (ev_int _) (es_cons (ev_int _) (es_cons (ev_tupZ es_nil (Nat.zero_le _)) es_nil)))))) (Nat.le_of_ble_eq_true rfl)) es_nil)))) (Nat.le_of_ble_eq_true rfl)) rfl)
  have h1 := of_decide_eq_false h
  refine q_asgO (o := .lst ((patRest c o t f).map TR.pd)) (eo_lst (es_cons (ev_tup (es_cons (ev_str _) (es_cons (ev_var rfl) (es_cons (ev_eqI (e_mod (e_div (ev_var rfl) (ev_int 4) ⟨by decide, by decide⟩) (ev_int 2) (by decide)) (ev_int 0)) (es_cons (ev_int _) (es_cons (ev_int _) (es_cons (ev_tupZ es_nil (Nat.zero_le _)) es_nil)))))) (Nat.le_of_ble_eq_true rfl)) (es_cons (ev_tup (es_cons (ev_str _) (es_cons (ev_var rfl) (es_cons (ev_int _) es_nil))) (Nat.le_of_ble_eq_true rfl)) (es_cons (ev_tup (es_cons (ev_str _) (es_cons (ev_var rfl) (es_cons (ev_int _) es_nil))) (Nat.le_of_ble_eq_true rfl)) es_nil))) (Nat.le_of_ble_eq_true rfl)) ?_
  have hr3 : (patRest c o t f).length = 3 := rfl
  refine q_if (x := decide (way = 2)) wt (fun h => ?_) (fun h => q_next ?_)
  · have h := of_decide_eq_true h
    have e : patRows way c o t f = [.r (.copy o (.n t)), .r (.op (if c / 4 % 2 = 0 then .add else .minus) t (.n f) (.n f))] ++ patRest c o t f := by unfold patRows; rw [if_neg h0, if_neg h1, if_pos h]
    rw [e, List.map_append]
    exact q_ret (s_retO (eo_cat (xs := [_, _]) (rd_of_evo (eo_lst (es_cons (ev_tup (es_cons (ev_str _) (es_cons (ev_var rfl) (es_cons (ev_var rfl) es_nil))) (Nat.le_of_ble_eq_true rfl)) (es_cons (ev_tup (ds := [.str _, .str t, .str f, .str f]) (es_cons (opw (a := .add) (b := .minus) (ev_var rfl) "add" "minus" rfl rfl) (es_cons (ev_var rfl) (es_cons (ev_var rfl) (es_cons (ev_var rfl) es_nil)))) (Nat.le_of_ble_eq_true rfl)) es_nil)) (Nat.le_of_ble_eq_true rfl))) (rd_ow rfl) (by rw [List.length_map]; exact Nat.le_of_ble_eq_true rfl)) rfl)
  have h2 := of_decide_eq_false h
  refine q_if (x := decide (way = 3)) wt (fun h => ?_) (fun h => q_next ?_)
  · have h := of_decide_eq_true h
    have e : patRows way c o t f = [.r (.put t 7), .r (.copy o (.n t))] ++ patRest c o t f := by unfold patRows; rw [if_neg h0, if_neg h1, if_neg h2, if_pos h]
    rw [e, List.map_append]
    exact q_ret (s_retO (eo_cat (xs := [_, _]) (rd_of_evo (eo_lst (es_cons (ev_tup (es_cons (ev_str _) (es_cons (ev_var rfl) (es_cons (ev_int _) es_nil))) (Nat.le_of_ble_eq_true rfl)) (es_cons (ev_tup (es_cons (ev_str _) (es_cons (ev_var rfl) (es_cons (ev_var rfl) es_nil))) (Nat.le_of_ble_eq_true rfl)) es_nil)) (Nat.le_of_ble_eq_true rfl))) (rd_ow rfl) (by rw [List.length_map]; exact Nat.le_of_ble_eq_true rfl)) rfl)
  have h3 := of_decide_eq_false h
  refine q_if (x := decide (way = 4)) wt (fun h => ?_) (fun h => q_next ?_)
  · have h := of_decide_eq_true h
    have e : patRows way c o t f = [.r (.op .times t (.n o) (.n o)), .r (.op (if c / 4 % 2 = 0 then .minus else .less) f (.n o) (.n o)), .r (.tell (.n t))] := by unfold patRows; rw [if_neg h0, if_neg h1, if_neg h2, if_neg h3, if_pos h]
    rw [e]
    exact q_ret (s_retO (eo_lst (es_cons (ev_tup (es_cons (ev_str _) (es_cons (ev_var rfl) (es_cons (ev_var rfl) (es_cons (ev_var rfl) es_nil)))) (Nat.le_of_ble_eq_true rfl)) (es_cons (ev_tup (ds := [.str _, .str f, .str o, .str o]) (es_cons (opw (a := .minus) (b := .less) (ev_var rfl) "minus" "less" rfl rfl) (es_cons (ev_var rfl) (es_cons (ev_var rfl) (es_cons (ev_var rfl) es_nil)))) (Nat.le_of_ble_eq_true rfl)) (es_cons (ev_tup (es_cons (ev_str _) (es_cons (ev_var rfl) es_nil)) (Nat.le_of_ble_eq_true rfl)) es_nil))) (Nat.le_of_ble_eq_true rfl)) rfl)
  have h4 := of_decide_eq_false h
  have e : patRows way c o t f = [.r (.put o 2), .r (.op .less t (.n o) (.n f)), .r (.copy f (.n t)), .g (.n t) true 6 4 []] ++ patRest c o t f := by unfold patRows; rw [if_neg h0, if_neg h1, if_neg h2, if_neg h3, if_neg h4]
  rw [e, List.map_append]
  exact s_retO (eo_cat (xs := [_, _, _, _]) (rd_of_evo (eo_lst (es_cons (ev_tup (es_cons (ev_str _) (es_cons (ev_var rfl) (es_cons (ev_int _) es_nil))) (Nat.le_of_ble_eq_true rfl)) (es_cons (ev_tup (es_cons (ev_str _) (es_cons (ev_var rfl) (es_cons (ev_var rfl) (es_cons (ev_var rfl) es_nil)))) (Nat.le_of_ble_eq_true rfl)) (es_cons (ev_tup (es_cons (ev_str _) (es_cons (ev_var rfl) (es_cons (ev_var rfl) es_nil))) (Nat.le_of_ble_eq_true rfl)) (es_cons (ev_tup (es_cons (ev_str _) (es_cons (ev_var rfl) (es_cons (ev_bl _) (es_cons (ev_int _) (es_cons (ev_int _) (es_cons (ev_tupZ es_nil (Nat.zero_le _)) es_nil)))))) (Nat.le_of_ble_eq_true rfl)) es_nil)))) (Nat.le_of_ble_eq_true rfl))) (rd_ow rfl) (by rw [List.length_map]; exact Nat.le_of_ble_eq_true rfl)) rfl
end
section
variable {K : FK} {δ : AE} {ta tb tx : TE} {P : Post}
theorem cut_to (ds : List PD) {p : Int} (h : 0 ≤ p ∧ p ≤ ds.length) : cutD ds none (some p) = ds.take p.toNat := by
  unfold cutD
  have e1 : HT.sIx ds.length 0 none = 0 := rfl
  have e2 : HT.sIx ds.length ds.length (some p) = p.toNat := by
    show (if p < 0 then (p + (ds.length : Int)).toNat else min p.toNat ds.length) = p.toNat
    rw [if_neg (by omega)]; omega
  rw [e1, e2, List.drop_zero, Nat.sub_zero]
theorem cut_from (ds : List PD) {p : Int} (h : 0 ≤ p ∧ p ≤ ds.length) : cutD ds (some p) none = ds.drop p.toNat := by
  unfold cutD
  have e1 : HT.sIx ds.length 0 (some p) = p.toNat := by
    show (if p < 0 then (p + (ds.length : Int)).toNat else min p.toNat ds.length) = p.toNat
    rw [if_neg (by omega)]; omega
  have e2 : HT.sIx ds.length ds.length none = ds.length := rfl
  rw [e1, e2]
  exact List.take_of_length_le (by rw [List.length_drop]; exact Nat.le_refl _)
theorem sx_law_drawn_trace (ds : List PD) (r : Rt) (h : P_law_drawn_trace ds r) : Sx K (t_law_drawn_trace K) (ae 7 ds) (Gives r) := by
  obtain ⟨ns, nms, hl, hn, rfl, rfl⟩ := h
  unfold t_law_drawn_trace
  have c0 : ∀ {δ : AE} {k : Int} (h : δ[0]? = some (.sh (.scr ns))) (hk : 0 ≤ k), Evd K (tCall (sp_law_cell_at K) [] E0 (tCons (tVar 0) (tCons (tC (.int k)) (tNil)))) δ (.int (cell ns k)) := fun h hk => ev_cell (ev_var h) (ev_int _) hk
  refine q_asg (d := .int (cell ns 0 % 14)) (e_mod (c0 rfl (by decide)) (ev_int 14) (by decide)) rfl ?_
  refine q_if (x := false) (et_is (et_test (e_gt (ev_lenN (ev_var rfl)) (ev_int 63))) (decide_eq_false (by omega))) (fun z => nomatch z) (fun _ => q_next ?_)
  have h14 : 0 ≤ cell ns 0 % 14 ∧ cell ns 0 % 14 < 14 := by omega
  obtain ⟨n, hsz⟩ := Int.eq_ofNat_of_zero_le h14.1
  have hn14 : n < 14 := by omega
  rw [hsz]
  refine q_asgO (o := .lst (([] : List TR).map TR.pd)) (eo_lst es_nil (Nat.zero_le _)) ?_
  refine q_forD (n := n) (f := fun i => .int (i : Nat)) [4, 5] (fun i => [.sh (.scr ns), .sh (.lst (nms.map PD.str)), .sh (.int (n : Nat)), .ow (.lst ((drawnRows ns nms i).map TR.pd)), .no, .no, .no]) (ei_rngN (es_cons (ev_var rfl) es_nil) (by omega)) rfl (fun i hi => ⟨_, _, eg_name rfl, ?_⟩) ?_
  · have cc : ∀ {δ : AE} {j : Int} (h0 : δ[0]? = some (.sh (.scr ns))) (h4 : δ[4]? = some (.sh (.int (i : Nat)))) (hj : 0 ≤ j), Evd K (tCall (sp_law_cell_at K) [] E0 (tCons (tVar 0) (tCons (tOp rAddI (tC (.int j)) (tOp rMulI (tC (.int 3)) (tVar 4))) (tNil)))) δ (.int (cell ns (j + 3 * (i : Int)))) := fun h0 h4 hj => ev_cell (ev_var h0) (e_add (ev_int _) (e_mul (ev_int 3) (ev_var h4) (mul_l ⟨by decide, by decide⟩))) (by omega)
    refine q_asg (d := .int (cell ns (3 + 3 * (i : Int)))) (cc rfl rfl (by decide)) rfl ?_
    refine s_app (xs := (drawnRows ns nms i).map TR.pd) (d := (drawnRow (cell ns (3 + 3 * (i : Int))) (cell ns (4 + 3 * (i : Int))) (cell ns (5 + 3 * (i : Int))) nms i).pd) (Or.inl rfl) (ev_call (P := P_law_drawn_row) (es_cons (ev_var rfl) (es_cons (cc rfl rfl (by decide)) (es_cons (cc rfl rfl (by decide)) (es_cons (ev_var rfl) (es_cons (ev_var rfl) es_nil))))) ⟨_, _, _, nms, i, hl, rfl, rfl⟩) (by unfold drawnRows; rw [List.length_map, List.length_map, List.length_range]; omega) ?_
    have e : (drawnRows ns nms (i + 1)).map TR.pd = (drawnRows ns nms i).map TR.pd ++ [(drawnRow (cell ns (3 + 3 * (i : Int))) (cell ns (4 + 3 * (i : Int))) (cell ns (5 + 3 * (i : Int))) nms i).pd] := by
      unfold drawnRows
      rw [range_snoc, List.map_append]; rfl
    show fgt [.sh (.scr ns), .sh (.lst (nms.map PD.str)), .sh (.int (n : Nat)), .ow (.lst ((drawnRows ns nms i).map TR.pd ++ [(drawnRow (cell ns (3 + 3 * (i : Int))) (cell ns (4 + 3 * (i : Int))) (cell ns (5 + 3 * (i : Int))) nms i).pd])), .sh (.int (i : Nat)), .sh _, .no] [4, 5] = _
    rw [← e]; rfl
  refine q_share (i := 3) rfl ?_
  have hlen : (drawnRows ns nms n).length = n := by unfold drawnRows; rw [List.length_map, List.length_range]
  have e0 : (cell ns 0 % 14).toNat = n := by omega
  refine q_asg (d := .int ((cell ns 0 + cell ns 1) % 8)) (e_mod (e_add (c0 rfl (by decide)) (c0 rfl (by decide))) (ev_int 8) (by decide)) rfl ?_
  have fin : ∀ {rows : List TR} {s4 s5 s6 : Sl}, trRows ns nms = rows → Sx K (tRet (tTup (tCons (tOp rModI (tCall (sp_law_cell_at K) [] E0 (tCons (tVar 0) (tCons (tC (.int 1)) (tNil)))) (tC (.int 60))) (tCons (tVar 3) (tCons (tOp rAddI (tVar 2) (tOp rModI (tOp rDivI (tCall (sp_law_cell_at K) [] E0 (tCons (tVar 0) (tCons (tC (.int 1)) (tNil)))) (tC (.int 60))) (tC (.int 9)))) (tNil))))))
      [.sh (.scr ns), .sh (.lst (nms.map PD.str)), .sh (.int (n : Nat)), .sh (.lst (rows.map TR.pd)), s4, s5, s6] (Fw.Gives (.val (traceD (trStart ns) (trRows ns nms) (trSteps ns)))) := fun {rows s4 s5 s6} he => by
    refine s_ret (d := traceD (trStart ns) rows (trSteps ns)) (ev_tup (es_cons (e_mod (c0 rfl (by decide)) (ev_int 60) (by decide)) (es_cons (ev_var rfl) (es_cons (ev_is (e_add (ev_var rfl) (e_mod (e_div (c0 rfl (by decide)) (ev_int 60) ⟨by decide, by decide⟩) (ev_int 9) (by decide))) ?_) es_nil))) (Nat.le_of_ble_eq_true rfl)) (by rw [he]; rfl)
    show PD.int _ = PD.int (trSteps ns)
    unfold trSteps; rw [hsz]
  refine q_if (x := decide ((cell ns 0 + cell ns 1) % 8 < 6)) (et_test (e_lt (ev_var rfl) (ev_int 6))) (fun h => ?_) (fun h => q_next ?_)
  · have h := of_decide_eq_true h
    refine q_assoc ?_
    have hpl : 0 ≤ cell ns 3 % ((n : Int) + 1) ∧ cell ns 3 % ((n : Int) + 1) ≤ n := ⟨Int.emod_nonneg _ (by omega), by have := Int.emod_lt_of_pos (cell ns 3) (show (0 : Int) < (n : Int) + 1 by omega); omega⟩
    refine q_asg (d := .int (cell ns 3 % ((n : Int) + 1))) (ev_is (e_mod (c0 rfl (by decide)) (e_add (ev_lenL (rd_lst (ev_var rfl))) (ev_int 1)) (by rw [List.length_map]; omega)) (by rw [List.length_map, hlen])) rfl ?_
    have hc : (cutD ((drawnRows ns nms n).map TR.pd) none (some (cell ns 3 % ((n : Int) + 1)))).length ≤ 1000 := by unfold cutD; rw [List.length_take, List.length_drop, List.length_map]; omega
    have hc2 : (cutD ((drawnRows ns nms n).map TR.pd) (some (cell ns 3 % ((n : Int) + 1))) none).length ≤ 1000 := by unfold cutD; rw [List.length_take, List.length_drop, List.length_map]; omega
    have hpt : (pattern ((cell ns 0 + cell ns 1) % 8) (cell ns 4) nms).length ≤ 10 := by
      unfold pattern patRows
      repeat (first | exact Nat.le_of_ble_eq_true rfl | split)
    have hb := hlen
    refine q_asgO (o := .lst ((trRows ns nms).map TR.pd)) (eo_is (eo_cat (rd_of_evo (eo_cat (rd_of_evo (eo_slL (rd_lst (ev_var rfl)) ep_none (ep_some (ev_var rfl)))) (rd_of_evo (eo_call (P := P_law_pattern) (es_cons (ev_var rfl) (es_cons (c0 rfl (by decide)) (es_cons (ev_var rfl) es_nil))) ⟨_, _, nms, hl, rfl, rfl⟩)) (by rw [List.length_map]; omega))) (rd_of_evo (eo_slL (rd_lst (ev_var rfl)) (ep_some (ev_var rfl)) ep_none)) (by rw [List.length_append, List.length_map]; omega)) ?_) (q_share (i := 3) rfl (fin rfl))
    rw [cut_to _ ⟨hpl.1, by rw [List.length_map, hlen]; exact hpl.2⟩, cut_from _ ⟨hpl.1, by rw [List.length_map, hlen]; exact hpl.2⟩]
    unfold trRows
    rw [if_pos h, e0, hsz, List.map_append, List.map_append, List.map_take, List.map_drop]
  · have h := of_decide_eq_false h
    exact fin (by unfold trRows; rw [if_neg h, e0])
theorem dVals_len (ns : List Int) (nms : List Str) (turn : Nat) : ∀ k, (dVals ns nms turn k).length ≤ k
  | 0 => Nat.le_refl _
  | k + 1 => by
    have := dVals_len ns nms turn k
    have := eput_len (dVals ns nms turn k) (nm nms (k : Int)) (valAt (valCell ns turn k))
    show (eput _ _ _).length ≤ _
    omega
theorem sx_law_drawn_values (ds : List PD) (r : Rt) (h : P_law_drawn_values ds r) : Sx K (t_law_drawn_values K) (ae 6 ds) (Gives r) := by
  obtain ⟨ns, nms, turn, hl, rfl, rfl⟩ := h
  unfold t_law_drawn_values
  refine q_asgO (o := .dic (encD [])) eo_newD ?_
  refine q_forD (n := 5) (f := fun i => .int (i : Nat)) [4, 5] (fun i => [.sh (.scr ns), .sh (.lst (nms.map PD.str)), .sh (.int (turn : Nat)), .ow (.dic (encD (dVals ns nms turn i))), .no, .no]) (ei_rngN (n := 5) (es_cons (ev_int 5) es_nil) (by decide)) rfl (fun i hi => ⟨_, _, eg_name rfl, ?_⟩) (s_retV (i := 3) rfl rfl)
  have hmax : (0 : Int) < max 1 (ns.length : Int) := by omega
  refine q_asg (d := .int (valCell ns turn i)) (ev_cell (ev_var rfl) (e_add (ev_int 1) (e_mod (e_add (ev_var rfl) (e_mul (ev_int 5) (ev_var rfl) (mul_l ⟨by decide, by decide⟩))) (ev_max2 (ev_int 1) (ev_lenN (ev_var rfl))) hmax)) (by have := Int.emod_nonneg ((i : Int) + 5 * turn) (show max 1 (ns.length : Int) ≠ 0 by omega); omega)) rfl ?_
  refine s_putE (i := 3) (e := dVals ns nms turn i) (x := nm nms (i : Int)) (v := valAt (valCell ns turn i)) rfl ?_ (ev_nm hl (ev_var rfl) (ev_var rfl) (by omega)) (by have := dVals_len ns nms turn i; omega) rfl
  generalize valCell ns turn i = c
  refine ev_ixL (ds := ([c / 3 % 2, c / 3 % 3, number (c / 3)] : List Int).map PD.int) (rd_of_evo (o := .lst _) (eo_lst (es_cons (e_mod (e_div (ev_var rfl) (ev_int 3) ⟨by decide, by decide⟩) (ev_int 2) (by decide)) (es_cons (e_mod (e_div (ev_var rfl) (ev_int 3) ⟨by decide, by decide⟩) (ev_int 3) (by decide)) (es_cons (ev_number (e_div (ev_var rfl) (ev_int 3) ⟨by decide, by decide⟩)) es_nil))) (Nat.le_of_ble_eq_true rfl))) (e_mod (ev_var rfl) (ev_int 3) (by decide)) ?_
  unfold valAt
  rcases (by omega : c % 3 = 0 ∨ c % 3 = 1 ∨ c % 3 = 2) with h | h | h <;> rw [h] <;> rfl
end
section
variable {K : FK} {δ : AE} {ta tb tx : TE} {P : Post}
/-! the six names differ -/
theorem nameAt_inj (c : Int) {i j : Nat} (hi : i < 6) (hj : j < 6) (h : nameAt c i = nameAt c j) : i = j := by
  unfold nameAt at h
  by_cases h3 : c % 3 = 0
  · rw [if_pos h3, if_pos h3] at h
    have e := congrArg Str.length h
    rw [strRep_len, strRep_len, letter_len] at e
    omega
  · rw [if_neg h3, if_neg h3] at h
    have e := congrArg (fun z : Str => z.cps.toList) h
    simp only [app_cps] at e
    have e2 := List.append_cancel_left (List.append_cancel_right e)
    have e3 : [97 + ((c / 24 + 5 * (i : Int)) % 26).toNat] = [97 + ((c / 24 + 5 * (j : Int)) % 26).toNat] := e2
    injection e3 with e4 _
    have h1 : 0 ≤ (c / 24 + 5 * (i : Int)) % 26 := by omega
    have h2 : 0 ≤ (c / 24 + 5 * (j : Int)) % 26 := by omega
    have e5 : (c / 24 + 5 * (i : Int)) % 26 = (c / 24 + 5 * (j : Int)) % 26 := by omega
    omega
theorem nm_names (c : Int) {i : Int} (h : 0 ≤ i ∧ i < 6) : nm (names c) i = nameAt c i.toNat := by
  unfold nm names
  rw [List.getD_eq_getElem?_getD, List.getElem?_map, List.getElem?_range (by omega)]; rfl
theorem nm_inj (c : Int) {i j : Int} (hi : 0 ≤ i ∧ i < 6) (hj : 0 ≤ j ∧ j < 6) (h : nm (names c) i = nm (names c) j) : i = j := by
  rw [nm_names c hi, nm_names c hj] at h
  have := nameAt_inj c (by omega) (by omega) h
  omega
theorem nm_okN (c : Int) {i : Int} (h : 0 ≤ i ∧ i < 6) : nameOk (nm (names c) i) := nm_ok (names_len c) (names_ok c) h
/-- e has the first four names -/
def HasN (e : NE) (nms : List Str) : Prop := ∀ i : Int, 0 ≤ i ∧ i < 4 → (get e (nm nms i)).isSome = true
theorem mixed_ok (c cc : Int) : SOk (mixed cc (names c)) := by
  unfold mixed
  split
  · exact number_bd _
  · exact nm_okN c (by omega)
theorem mixed_has {e : NE} {nms : List Str} (h : HasN e nms) (cc : Int) : ∀ x ∈ srcNames (mixed cc nms), (get e x).isSome = true := by
  unfold mixed
  split
  · intro x hx; cases hx
  · intro x hx
    rw [List.mem_singleton.mp hx]
    exact h _ (by omega)
theorem mem_take {α : Type} {xs : List α} {n : Nat} {x : α} (h : x ∈ xs.take n) : x ∈ xs := List.mem_of_mem_take h
theorem drawnRow_ok (c : Int) {e : NE} (h : HasN e (names c)) (way one two : Int) (k : Int) : TOk (drawnRow way one two (names c) k) ∧ TAll e (drawnRow way one two (names c) k) := by
  have nm4 : ∀ {i : Int}, nameOk (nm (names c) (i % 4)) := fun {i} => nm_okN c (by omega)
  have hs4 : ∀ {i : Int}, (get e (nm (names c) (i % 4))).isSome = true := fun {i} => h _ (by omega)
  unfold drawnRow
  split
  · refine ⟨⟨mixed_ok c one, fun q hq => ?_, ?_, ?_⟩, fun x hx => ?_⟩
    · have hq := mem_take hq
      rcases List.mem_cons.mp hq with e | hq
      · subst e; exact ⟨nm4, mixed_ok c _⟩
      · rw [List.mem_singleton.mp hq]; exact ⟨nm4, mixed_ok c _⟩
    · rw [List.map_take]
      refine (List.take_sublist _ _).nodup ?_
      show [nm (names c) ((one + two) % 4), nm (names c) ((one + two + 1) % 4)].Nodup
      rw [List.nodup_cons]
      refine ⟨fun hm => ?_, List.nodup_cons.mpr ⟨fun z => (nomatch z), List.nodup_nil⟩⟩
      have := nm_inj c (by omega) (by omega) (List.mem_singleton.mp hm)
      omega
    · rw [List.length_take]
      exact Nat.le_trans (Nat.min_le_right _ _) (Nat.le_of_ble_eq_true rfl)
    · rcases List.mem_append.mp hx with hx | hx
      · exact mixed_has h one x hx
      · obtain ⟨q, hq, hx⟩ := List.mem_flatMap.mp hx
        have hq := mem_take hq
        rcases List.mem_cons.mp hq with e | hq
        · subst e
          rcases List.mem_cons.mp hx with e | hx
          · subst e; exact hs4
          · exact mixed_has h _ x hx
        · rw [List.mem_singleton.mp hq] at hx
          rcases List.mem_cons.mp hx with e | hx
          · subst e; exact hs4
          · exact mixed_has h _ x hx
  split
  · exact ⟨⟨nm4, number_bd two⟩, fun x hx => by rw [List.mem_singleton.mp hx]; exact hs4⟩
  split
  · exact ⟨mixed_ok c two, fun x hx => mixed_has h two x hx⟩
  split
  · refine ⟨⟨nm4, mixed_ok c two⟩, fun x hx => ?_⟩
    rcases List.mem_cons.mp hx with e | hx
    · subst e; exact hs4
    · exact mixed_has h two x hx
  · refine ⟨⟨nm4, mixed_ok c one, mixed_ok c two⟩, fun x hx => ?_⟩
    rcases List.mem_cons.mp hx with e | hx
    · subst e; exact hs4
    · exact (List.mem_append.mp hx).elim (mixed_has h one x) (mixed_has h two x)
theorem patRows_ok {e : NE} {o t f : Str} (ho : nameOk o) (ht : nameOk t) (hf : nameOk f) (eo : (get e o).isSome = true) (et : (get e t).isSome = true) (ef : (get e f).isSome = true) (way cell : Int) : ∀ r ∈ patRows way cell o t f, TOk r ∧ TAll e r := by
  have g1 : ∀ {x : Str} {n : Bool} {p st : Int}, nameOk x → (get e x).isSome = true → TOk (.g (.n x) n p st []) ∧ TAll e (.g (.n x) n p st []) := fun hx hg => ⟨⟨hx, (fun q hq => nomatch hq), List.nodup_nil, Nat.zero_le _⟩, fun y hy => by rw [List.mem_singleton.mp hy]; exact hg⟩
  have o1 : ∀ {w : Op} {x a b : Str}, nameOk x → nameOk a → nameOk b → (get e x).isSome = true → (get e a).isSome = true → (get e b).isSome = true → TOk (.r (.op w x (.n a) (.n b))) ∧ TAll e (.r (.op w x (.n a) (.n b))) := fun h1 h2 h3 k1 k2 k3 => ⟨⟨h1, h2, h3⟩, fun y hy => by
    rcases List.mem_cons.mp hy with e | hy
    · subst e; exact k1
    rcases List.mem_cons.mp hy with e | hy
    · subst e; exact k2
    · rw [List.mem_singleton.mp hy]; exact k3⟩
  have c1 : ∀ {x a : Str}, nameOk x → nameOk a → (get e x).isSome = true → (get e a).isSome = true → TOk (.r (.copy x (.n a))) ∧ TAll e (.r (.copy x (.n a))) := fun h1 h2 k1 k2 => ⟨⟨h1, h2⟩, fun y hy => by
    rcases List.mem_cons.mp hy with e | hy
    · subst e; exact k1
    · rw [List.mem_singleton.mp hy]; exact k2⟩
  have p1 : ∀ {x : Str} {v : Int}, nameOk x → (get e x).isSome = true → 0 ≤ v → v < 1000000 → TOk (.r (.put x v)) ∧ TAll e (.r (.put x v)) := fun h1 k1 h2 h3 => ⟨⟨h1, h2, h3⟩, fun y hy => by rw [List.mem_singleton.mp hy]; exact k1⟩
  have t1 : ∀ {x : Str}, nameOk x → (get e x).isSome = true → TOk (.r (.tell (.n x))) ∧ TAll e (.r (.tell (.n x))) := fun h1 k1 => ⟨h1, fun y hy => by rw [List.mem_singleton.mp hy]; exact k1⟩
  have co : ∀ {r : TR} {rs : List TR}, TOk r ∧ TAll e r → (∀ r ∈ rs, TOk r ∧ TAll e r) → ∀ x ∈ r :: rs, TOk x ∧ TAll e x := fun h1 h2 x hx => (List.mem_cons.mp hx).elim (fun e => e ▸ h1) (h2 x)
  have nl : ∀ r ∈ ([] : List TR), TOk r ∧ TAll e r := fun r hr => nomatch hr
  have rest : ∀ r ∈ patRest cell o t f, TOk r ∧ TAll e r := co (g1 hf ef) (co (p1 ht et (by decide) (by decide)) (co (p1 ho eo (by decide) (by decide)) nl))
  unfold patRows
  split
  · exact co (g1 ho eo) (co (o1 ho ht hf eo et ef) (co (g1 ho eo) (co (t1 ho eo) nl)))
  split
  · exact co (c1 ht ho et eo) (co (o1 ho ho hf eo eo ef) (co (t1 ht et) (co (g1 ht et) nl)))
  split
  · exact co (c1 ho ht eo et) (co (o1 ht hf hf et ef ef) rest)
  split
  · exact co (p1 ht et (by decide) (by decide)) (co (c1 ho ht eo et) rest)
  split
  · exact co (o1 ht ho ho et eo eo) (co (o1 hf ho ho ef eo eo) (co (t1 ht et) nl))
  · exact co (p1 ho eo (by decide) (by decide)) (co (o1 ht ho hf et eo ef) (co (c1 hf ht ef et) (co (g1 ht et) rest)))
theorem trRows_ok (ns : List Int) (c : Int) {e : NE} (h : HasN e (names c)) : ∀ t ∈ trRows ns (names c), TOk t ∧ TAll e t := by
  have hd : ∀ n, ∀ t ∈ drawnRows ns (names c) n, TOk t ∧ TAll e t := fun n t ht => by
    unfold drawnRows at ht
    obtain ⟨k, _, e⟩ := List.mem_map.mp ht
    subst e
    exact drawnRow_ok c h _ _ _ _
  unfold trRows
  split
  · intro t ht
    rcases List.mem_append.mp ht with ht | ht
    · rcases List.mem_append.mp ht with ht | ht
      · exact hd _ t (List.mem_of_mem_take ht)
      · exact patRows_ok (nm_okN c (by omega)) (nm_okN c (by omega)) (nm_okN c (by omega)) (h _ (by omega)) (h _ (by omega)) (h _ (by omega)) _ _ t ht
    · exact hd _ t (List.mem_of_mem_drop ht)
  · exact hd _
theorem patRows_len (way cell : Int) (o t f : Str) : (patRows way cell o t f).length ≤ 10 := by
  unfold patRows
  repeat (first | exact Nat.le_of_ble_eq_true rfl | split)
theorem trRows_len (ns : List Int) (nms : List Str) : (trRows ns nms).length ≤ 50 := by
  have hl : ∀ n, (drawnRows ns nms n).length = n := fun n => by unfold drawnRows; rw [List.length_map, List.length_range]
  have hp := patRows_len ((cell ns 0 + cell ns 1) % 8) (cell ns 4) (nm nms (cell ns 4 % 4)) (nm nms ((cell ns 4 + 1) % 4)) (nm nms ((cell ns 4 + 2) % 4))
  have h14 : (cell ns 0 % 14).toNat < 14 := by omega
  unfold trRows
  split
  · have h2 : (pattern ((cell ns 0 + cell ns 1) % 8) (cell ns 4) nms).length ≤ 10 := hp
    rw [List.length_append, List.length_append, List.length_take, List.length_drop, hl]; omega
  · rw [hl]; omega
theorem valAt_bd (c : Int) : 0 ≤ valAt c ∧ valAt c < 1000000 := by
  unfold valAt
  split
  · omega
  split
  · omega
  · exact number_bd _
theorem dVals_ok (ns : List Int) (nms : List Str) (turn : Nat) : ∀ k, Bd (dVals ns nms turn k) ∧ Nd (dVals ns nms turn k) ∧ ∀ i : Int, 0 ≤ i ∧ i < k → (get (dVals ns nms turn k) (nm nms i)).isSome = true
  | 0 => ⟨(fun x v h => by cases h), List.nodup_nil, fun i h => absurd h.2 (by have := h.1; show ¬ i < ((0 : Nat) : Int); omega)⟩
  | k + 1 => by
    obtain ⟨h1, h2, h3⟩ := dVals_ok ns nms turn k
    have hv := valAt_bd (valCell ns turn k)
    refine ⟨bd_put h1 ⟨by omega, by omega⟩, nd_put h2 _ _, fun i hi => ?_⟩
    by_cases e : i = k
    · subst e; exact has_put_self
    · exact has_put (h3 i (by omega))
theorem dVals_has (ns : List Int) (nms : List Str) (turn : Nat) : HasN (dVals ns nms turn 5) nms := fun i hi => (dVals_ok ns nms turn 5).2.2 i (by omega)
theorem ev_neDA {e1 e2 : NE} (h : EqNE e1 e2) (ha : Evd K ta δ (.dic (encD e1))) (hb : Evd K tb δ (.dic (encD e2))) : Evd K (tOp rNeDA ta tb) δ (.bl false) := ev_op ha hb fun B G H σ x y R rx ry Q q => by
  cases rx with
  | @dic a ks _ h1 r1 =>
  cases ry with
  | @dic b ls _ h2 r2 =>
  have e1' := repsK_enc r1
  have e2' := repsK_enc r2
  subst e1'
  subst e2'
  refine ⟨a, b, encV e1, encV e2, rfl, rfl, R.gh _ _ h1, R.gh _ _ h2, by unfold encV; rw [List.length_map, List.length_map]; exact h.len, ?_, q _ G H R (Step.refl R.gh) (.bl false)⟩
  intro p hp
  obtain ⟨z, hz, ez⟩ := List.mem_map.mp hp
  subst ez
  refine ⟨?_, rfl⟩
  show valV (encV e2) (Sum.inr z.1 : Key) = some (V.int z.2)
  rw [val_encV, h.to z hz]
  rfl
/-- dicts of numbers, whatever their order -/
theorem eqP_enc {e1 e2 : NE} {n : Nat} (h : EqNE e1 e2) : EqP (n + 2) (.dic (encD e1)) (.dic (encD e2)) := by
  refine Or.inr (Or.inr (Or.inr (Or.inr ⟨_, _, rfl, rfl, by rw [enc_len, enc_len]; exact h.len, fun p hp => ?_⟩)))
  obtain ⟨z, hz, ez⟩ := List.mem_map.mp hp
  subst ez
  exact ⟨.int z.2, by rw [look_enc, h.to z hz]; rfl, Or.inl ⟨rfl, rfl⟩⟩
theorem eqP_flat {n : Nat} {d : PD} (f : flat d = true) : EqP (n + 1) d d := Or.inl ⟨rfl, f⟩
theorem eqP_ints {n : Nat} (ts : List Int) : EqP (n + 2) (.lst (ts.map PD.int)) (.lst (ts.map PD.int)) := Or.inr (Or.inr (Or.inr (Or.inl ⟨_, _, rfl, rfl, paired_self (n := 0) fun x hx => by
  obtain ⟨t, _, e⟩ := List.mem_map.mp hx
  subst e
  exact Or.inl ⟨rfl, rfl⟩⟩)))
end
/-! the plain run: the names in their order, the steps, the promises -/
open PySem L2 Fw PyProof.Rows Tset
open PySem.Spec (ltCps)
/-! ### texts in their order -/
def leS (a b : Str) : Bool := !ltCps b.cps.toList a.cps.toList
theorem lt_cps : ∀ a b : List Nat, ltCps a b = decide (a < b)
  | [], [] => by simp [ltCps]
  | [], _ :: _ => by simp [ltCps]
  | _ :: _, [] => by simp [ltCps]
  | x :: r, y :: t => by
    rw [ltCps, lt_cps r t, Bool.eq_iff_iff]
    simp [List.cons_lt_cons_iff]
theorem leS_iff {a b : Str} : leS a b = true ↔ a.cps.toList ≤ b.cps.toList := by
  unfold leS
  rw [lt_cps]
  rw [Bool.not_eq_true', decide_eq_false_iff_not]
  exact List.not_lt
theorem sorted_iff : ∀ ss : List Str, sortedS ss = true ↔ ss.Pairwise fun a b => leS a b = true
  | [] => by simp [sortedS]
  | x :: r => by
    have go : ∀ (r : List Str) (p : Str), risingS p r = true ↔ (∀ y ∈ r, leS p y = true) ∧ r.Pairwise fun a b => leS a b = true := fun r => by
      induction r with
      | nil => intro p; simp [risingS]
      | cons y r ih =>
        intro p
        show (leS p y && risingS y r) = true ↔ _
        rw [Bool.and_eq_true, ih y]
        constructor
        · rintro ⟨h1, h2, h3⟩
          refine ⟨fun z hz => ?_, List.pairwise_cons.mpr ⟨h2, h3⟩⟩
          rcases List.mem_cons.mp hz with e | hz
          · subst e; exact h1
          · exact leS_iff.mpr (List.le_trans (leS_iff.mp h1) (leS_iff.mp (h2 z hz)))
        · rintro ⟨h1, h2⟩
          obtain ⟨h3, h4⟩ := List.pairwise_cons.mp h2
          exact ⟨h1 y List.mem_cons_self, h3, h4⟩
    show risingS x r = true ↔ _
    rw [go r x, List.pairwise_cons]
def sortT (l : List Str) : List Str := l.mergeSort leS
theorem sortT_perm (l : List Str) : (sortT l).Perm l := List.mergeSort_perm l leS
theorem sortT_only {l ss : List Str} (p : ss.Perm l) (h : sortedS ss = true) : ss = sortT l := by
  refine List.Perm.eq_of_pairwise (le := fun a b => leS a b = true) (fun a b _ _ h1 h2 => ?_) ((sorted_iff ss).mp h) (List.pairwise_mergeSort (le := leS) (fun a b c h1 h2 => leS_iff.mpr (List.le_trans (leS_iff.mp h1) (leS_iff.mp h2))) (fun a b => ?_) l) (p.trans (sortT_perm l).symm)
  · have e := List.le_antisymm (leS_iff.mp h1) (leS_iff.mp h2)
    cases a; cases b
    exact congrArg Str.mk (Array.toList_inj.mp e)
  · rw [Bool.or_eq_true, leS_iff, leS_iff]
    exact List.le_total _ _
/-! ### the names of the rows -/
def rowsNm (rows : List Row) (i : Nat) : List Str := rNames (rows.getD i .stop)
def namesIn (rows : List Row) : List Str := sortT (total (rowsNm rows) rows.length)
theorem mem_addL {l : List Str} {k x : Str} : x ∈ addL l k ↔ x ∈ l ∨ x = k := by
  unfold addL
  split
  · rename_i h
    exact ⟨Or.inl, fun z => z.elim id fun e => e ▸ h⟩
  · rw [List.mem_cons]; exact Or.comm
theorem mem_addAll {x : Str} : ∀ {ks l : List Str}, x ∈ addAll l ks ↔ x ∈ l ∨ x ∈ ks
  | [], l => by simp [addAll]
  | k :: ks, l => by
    show x ∈ addAll (addL l k) ks ↔ _
    rw [mem_addAll (ks := ks), mem_addL, List.mem_cons]
    exact or_assoc
theorem nd_addL {l : List Str} {k : Str} (h : l.Nodup) : (addL l k).Nodup := by
  unfold addL
  split
  · exact h
  · exact List.nodup_cons.mpr ⟨by assumption, h⟩
theorem nd_addAll : ∀ {ks l : List Str}, l.Nodup → (addAll l ks).Nodup
  | [], _, h => h
  | k :: ks, l, h => nd_addAll (ks := ks) (l := addL l k) (nd_addL h)
theorem mem_total {nm : Nat → List Str} {x : Str} : ∀ {n : Nat}, x ∈ total nm n ↔ ∃ i, i < n ∧ x ∈ nm i
  | 0 => by simp [total]
  | n + 1 => by
    show x ∈ addAll (total nm n) (nm n) ↔ _
    rw [mem_addAll, mem_total]
    constructor
    · rintro (⟨i, h1, h2⟩ | h)
      · exact ⟨i, by omega, h2⟩
      · exact ⟨n, by omega, h⟩
    · rintro ⟨i, h1, h2⟩
      by_cases e : i = n
      · exact Or.inr (e ▸ h2)
      · exact Or.inl ⟨i, by omega, h2⟩
theorem nd_total {nm : Nat → List Str} : ∀ n, (total nm n).Nodup
  | 0 => List.nodup_nil
  | n + 1 => nd_addAll (nd_total n)
theorem nd_namesIn (rows : List Row) : (namesIn rows).Nodup := (sortT_perm _).nodup_iff.mpr (nd_total _)
theorem mem_namesIn {rows : List Row} {x : Str} : x ∈ namesIn rows ↔ ∃ r ∈ rows, x ∈ rNames r := by
  unfold namesIn
  rw [(sortT_perm _).mem_iff, mem_total]
  constructor
  · rintro ⟨i, h1, h2⟩
    have e := List.getElem?_eq_getElem h1
    refine ⟨rows[i], List.getElem_mem h1, ?_⟩
    unfold rowsNm at h2
    rw [List.getD_eq_getElem?_getD, e] at h2
    exact h2
  · rintro ⟨r, hr, hx⟩
    obtain ⟨i, hi, e⟩ := List.mem_iff_getElem.mp hr
    refine ⟨i, hi, ?_⟩
    unfold rowsNm
    rw [List.getD_eq_getElem?_getD, List.getElem?_eq_getElem hi, e]
    exact hx
theorem rNames_len {n : Nat} {r : Row} (h : RowOk n r) : (rNames r).length ≤ 3 := by
  have one : ∀ {s : Src}, srcOk s → srcNames s = [] ∨ ∃ y, srcNames s = [y] := fun h => by obtain ⟨y, rfl, _⟩ := h; exact Or.inr ⟨y, rfl⟩
  cases r with
  | put x v => exact Nat.le_of_ble_eq_true rfl
  | copy x s => obtain ⟨y, rfl, _⟩ := h.2; exact Nat.le_of_ble_eq_true rfl
  | op w x a b => obtain ⟨y, rfl, _⟩ := h.2.1; obtain ⟨z, rfl, _⟩ := h.2.2; exact Nat.le_of_ble_eq_true rfl
  | tell s => obtain ⟨y, rfl, _⟩ := h; exact Nat.le_of_ble_eq_true rfl
  | jump p => exact Nat.zero_le _
  | zero x p => exact Nat.le_of_ble_eq_true rfl
  | stop => exact Nat.zero_le _
theorem items_names {n : Nat} {r : Row} (h : RowOk n r) {x : Str} (hx : PD.str x ∈ r.items.drop 1) : x ∈ rNames r := by
  cases r with
  | put y v => simp [Row.items] at hx; subst hx; exact List.mem_cons_self
  | copy y s => obtain ⟨z, rfl, _⟩ := h.2; simpa [Row.items, Src.pd, rNames, srcNames] using hx
  | op w y a b => obtain ⟨z, rfl, _⟩ := h.2.1; obtain ⟨u, rfl, _⟩ := h.2.2; simpa [Row.items, Src.pd, rNames, srcNames] using hx
  | tell s => obtain ⟨z, rfl, _⟩ := h; simpa [Row.items, Src.pd, rNames, srcNames] using hx
  | jump p => simp [Row.items] at hx
  | zero y p => simp [Row.items] at hx; subst hx; exact List.mem_cons_self
  | stop => simp [Row.items] at hx
def zeros (ns : List Str) : NE := ns.foldl (fun e x => eput e x 0) []
theorem zeros_keeps : ∀ (ns : List Str) (e : NE), Zero e → Zero (ns.foldl (fun e x => eput e x 0) e) ∧ ∀ x, (get (ns.foldl (fun e x => eput e x 0) e) x).isSome = true ↔ (get e x).isSome = true ∨ x ∈ ns
  | [], e, h => ⟨h, fun x => by simp⟩
  | y :: ns, e, h => by
    have h1 : Zero (eput e y 0) := ⟨nd_put h.nd _ _, fun x v hv => by
      rw [get_eput] at hv
      split at hv
      · cases hv; rfl
      · exact h.z x v hv⟩
    obtain ⟨k1, k2⟩ := zeros_keeps ns (eput e y 0) h1
    refine ⟨k1, fun x => (k2 x).trans ?_⟩
    rw [get_eput, List.mem_cons]
    by_cases e : x = y
    · subst e; simp
    · have e' : ¬ y = x := fun z => e z.symm
      simp [e, e']
/-- two dicts that hold the same -/
structure QE (e1 e2 : NE) : Prop where
  at_ : ∀ x, get e1 x = get e2 x
  len : e1.length = e2.length
  n1 : Nd e1
  n2 : Nd e2
theorem QE.eq {e1 e2 : NE} (h : QE e1 e2) (hl : e1.length ≤ 10000) : EqNE e1 e2 := ⟨h.len, hl, fun p hp => by rw [← h.at_]; exact nd_get h.n1 p hp, fun p hp => by rw [h.at_, nd_get h.n2 p hp]; rfl⟩
theorem eput_len (e : NE) (x : Str) (v : Int) : (eput e x v).length = if (get e x).isSome = true then e.length else e.length + 1 := by
  split
  · exact put_len_has (by assumption)
  · rename_i h
    have z : ¬ (e.any fun p => decide (p.1 = x)) = true := fun z => by
      obtain ⟨p, hp, q⟩ := List.any_eq_true.mp z
      exact h (mem_get.mp (List.mem_map.mpr ⟨p, hp, of_decide_eq_true q⟩))
    unfold eput
    rw [if_neg z, List.length_append]; rfl
theorem QE.put {e1 e2 : NE} (h : QE e1 e2) (x : Str) (v : Int) : QE (eput e1 x v) (eput e2 x v) := ⟨fun y => by rw [get_eput, get_eput, h.at_], by rw [eput_len, eput_len, h.at_, h.len], nd_put h.n1 _ _, nd_put h.n2 _ _⟩
theorem QE.srcv {e1 e2 : NE} (h : QE e1 e2) (s : Src) : sv e1 s = sv e2 s := by
  cases s with
  | i v => rfl
  | n x => exact h.at_ x
theorem QE.stp {e1 e2 e1' : NE} (h : QE e1 e2) {row : Row} {i p : Int} {ts : List Int} (hs : step row i e1 = some (p, e1', ts)) : ∃ e2', step row i e2 = some (p, e2', ts) ∧ QE e1' e2' := by
  have go : ∀ {row : Row}, step row i e1 = (done e1 row).map (fun e' => (i + 1, e', tells e1 row)) → step row i e2 = (done e2 row).map (fun e' => (i + 1, e', tells e2 row)) → tells e1 row = tells e2 row → (∀ e', done e1 row = some e' → ∃ e2', done e2 row = some e2' ∧ QE e' e2') → step row i e1 = some (p, e1', ts) → ∃ e2', step row i e2 = some (p, e2', ts) ∧ QE e1' e2' := fun {row} a1 a2 ht hd hs => by
    rw [a1] at hs
    cases hz : done e1 row with
    | none => rw [hz] at hs; cases hs
    | some e' =>
      rw [hz] at hs
      obtain ⟨e2', b1, b2⟩ := hd e' hz
      cases hs
      exact ⟨e2', by rw [a2, b1, ← ht]; rfl, b2⟩
  cases row with
  | jump q => cases hs; exact ⟨e2, rfl, h⟩
  | stop => cases hs
  | zero x q =>
    have hs : (get e1 x).map (fun v => ((if v = 0 then q else i + 1), e1, ([] : List Int))) = some (p, e1', ts) := hs
    show ∃ e2', (get e2 x).map (fun v => ((if v = 0 then q else i + 1), e2, ([] : List Int))) = some (p, e2', ts) ∧ _
    rw [h.at_] at hs
    cases hz : get e2 x with
    | none => rw [hz] at hs; cases hs
    | some v =>
      rw [hz] at hs
      cases hs
      exact ⟨e2, rfl, h⟩
  | tell s =>
    refine go (row := .tell s) rfl rfl ?_ (fun e' hd => ?_) hs
    · show (sv e1 s).toList = (sv e2 s).toList
      rw [h.srcv]
    · have hd : (sv e1 s).map (fun _ => e1) = some e' := hd
      rw [h.srcv] at hd
      cases hz : sv e2 s with
      | none => rw [hz] at hd; cases hd
      | some v => rw [hz] at hd; cases hd; exact ⟨e2, by show (sv e2 s).map _ = _; rw [hz]; rfl, h⟩
  | put x v => exact go (row := .put x v) rfl rfl rfl (fun e' hd => by cases hd; exact ⟨_, rfl, h.put x v⟩) hs
  | copy x s =>
    refine go (row := .copy x s) rfl rfl rfl (fun e' hd => ?_) hs
    have hd : (sv e1 s).map (fun v => eput e1 x v) = some e' := hd
    rw [h.srcv] at hd
    cases hz : sv e2 s with
    | none => rw [hz] at hd; cases hd
    | some v => rw [hz] at hd; cases hd; exact ⟨_, by show (sv e2 s).map _ = _; rw [hz]; rfl, h.put x v⟩
  | op w x a b =>
    refine go (row := .op w x a b) rfl rfl rfl (fun e' hd => ?_) hs
    have hd : ((sv e1 a).bind fun i => (sv e1 b).map fun j => eput e1 x (w.val i j)) = some e' := hd
    rw [h.srcv, h.srcv] at hd
    cases hz : sv e2 a with
    | none => rw [hz] at hd; cases hd
    | some u =>
      cases hy : sv e2 b with
      | none => rw [hz, hy] at hd; cases hd
      | some v => rw [hz, hy] at hd; cases hd; exact ⟨_, by show ((sv e2 a).bind fun i => (sv e2 b).map _) = _; rw [hz, hy]; rfl, h.put x _⟩
/-! the plain run as a whole -/
open PySem L2 Fw PyProof.Rows
abbrev St3 : Type := Nat × NE × List Int
def nextS (rows : List Row) (s : St3) : St3 := match step (rows.getD s.1 .stop) s.1 s.2.1 with
  | some (q, e', us) => (q.toNat, e', s.2.2 ++ us)
  | none => s
/-- the standings, the first one s, at most f steps -/
def stands (rows : List Row) : Nat → St3 → List St3
  | 0, s => [s]
  | f + 1, s => if overAt rows s.1 = true then [s] else s :: stands rows f (nextS rows s)
/-- the last standing, the steps -/
def final (rows : List Row) : Nat → St3 → Nat → St3 × Nat
  | 0, s, k => (s, k)
  | f + 1, s, k => if overAt rows s.1 = true then (s, k) else final rows f (nextS rows s) (k + 1)
theorem stands_ne (rows : List Row) : ∀ f s, stands rows f s ≠ []
  | 0, s => fun z => nomatch z
  | f + 1, s => by
    show (if overAt rows s.1 = true then [s] else _) ≠ []
    split
    · exact fun z => nomatch z
    · exact fun z => nomatch z
theorem stands_last (rows : List Row) : ∀ f s k, (stands rows f s).getLast? = some (final rows f s k).1 ∧ k + (stands rows f s).length = (final rows f s k).2 + 1
  | 0, s, k => ⟨rfl, rfl⟩
  | f + 1, s, k => by
    show (if overAt rows s.1 = true then [s] else s :: stands rows f (nextS rows s)).getLast? = some (if overAt rows s.1 = true then (s, k) else final rows f (nextS rows s) (k + 1)).1 ∧ k + (if overAt rows s.1 = true then [s] else s :: stands rows f (nextS rows s)).length = (if overAt rows s.1 = true then (s, k) else final rows f (nextS rows s) (k + 1)).2 + 1
    split
    · exact ⟨rfl, rfl⟩
    · obtain ⟨h1, h2⟩ := stands_last rows f (nextS rows s) (k + 1)
      refine ⟨?_, by rw [← h2, List.length_cons]; omega⟩
      rw [← h1]
      cases hz : stands rows f (nextS rows s) with
      | nil => exact absurd hz (stands_ne rows f _)
      | cons y r => rfl
theorem stands_len (rows : List Row) : ∀ f s, (stands rows f s).length ≤ f + 1
  | 0, s => Nat.le_refl _
  | f + 1, s => by
    show (if overAt rows s.1 = true then [s] else s :: stands rows f (nextS rows s)).length ≤ _
    split
    · exact Nat.succ_le_succ (Nat.zero_le _)
    · exact Nat.succ_le_succ (stands_len rows f _)
/-- a standing that may go on -/
structure Good (rows : List Row) (s : St3) (k : Nat) : Prop where
  bd : Bd s.2.1
  nd : Nd s.2.1
  all : ∀ r ∈ rows, All s.2.1 r
  el : s.2.1.length ≤ 600 + k
  tl : s.2.2.length ≤ k
theorem step_has3 {row : Row} {i p : Int} {e e' : NE} {ts : List Int} (h : step row i e = some (p, e', ts)) {x : Str} (hx : (get e x).isSome = true) : (get e' x).isSome = true := by
  have go : (done e row).map (fun e' => (i + 1, e', tells e row)) = some (p, e', ts) → (∀ e', done e row = some e' → (get e' x).isSome = true) → (get e' x).isSome = true := fun h k => by
    cases hz : done e row with
    | none => rw [hz] at h; cases h
    | some e2 => rw [hz] at h; cases h; exact k _ hz
  cases row with
  | jump q => cases h; exact hx
  | stop => cases h
  | zero y q =>
    have h : (get e y).map (fun v => ((if v = 0 then q else i + 1), e, ([] : List Int))) = some (p, e', ts) := h
    cases hz : get e y with
    | none => rw [hz] at h; cases h
    | some v => rw [hz] at h; cases h; exact hx
  | tell s =>
    refine go h fun e2 hd => ?_
    have hd : (sv e s).map (fun _ => e) = some e2 := hd
    cases hz : sv e s with
    | none => rw [hz] at hd; cases hd
    | some v => rw [hz] at hd; cases hd; exact hx
  | put y v => exact go h fun e2 hd => by cases hd; exact has_put hx
  | copy y s =>
    refine go h fun e2 hd => ?_
    have hd : (sv e s).map (fun v => eput e y v) = some e2 := hd
    cases hz : sv e s with
    | none => rw [hz] at hd; cases hd
    | some v => rw [hz] at hd; cases hd; exact has_put hx
  | op w y a b =>
    refine go h fun e2 hd => ?_
    have hd : ((sv e a).bind fun i => (sv e b).map fun j => eput e y (w.val i j)) = some e2 := hd
    cases hz : sv e a with
    | none => rw [hz] at hd; cases hd
    | some u =>
      cases hy : sv e b with
      | none => rw [hz, hy] at hd; cases hd
      | some v => rw [hz, hy] at hd; cases hd; exact has_put hx
theorem step_place3 {n : Nat} {row : Row} (ok : RowOk n row) {i : Nat} {p : Int} {e e' : NE} {ts : List Int} (h : step row i e = some (p, e', ts)) : 0 ≤ p := by
  have go : (done e row).map (fun e' => ((i : Int) + 1, e', tells e row)) = some (p, e', ts) → 0 ≤ p := fun h => by
    cases hz : done e row with
    | none => rw [hz] at h; cases h
    | some e2 => rw [hz] at h; cases h; omega
  cases row with
  | jump q => cases h; exact ok.1
  | stop => cases h
  | zero y q =>
    have h : (get e y).map (fun v => ((if v = 0 then q else (i : Int) + 1), e, ([] : List Int))) = some (p, e', ts) := h
    cases hz : get e y with
    | none => rw [hz] at h; cases h
    | some v =>
      rw [hz] at h
      cases h
      have := ok.2.1
      split <;> omega
  | tell s => exact go h
  | put y v => exact go h
  | copy y s => exact go h
  | op w y a b => exact go h
/-- the step that is made where the run is not over -/
theorem next_at {rows : List Row} (hp : Prog rows) {s : St3} {k : Nat} (g : Good rows s k) (ho : overAt rows s.1 = false) :
    ∃ row q ts, rows[s.1]? = some row ∧ RowOk rows.length row ∧ row ≠ .stop ∧ step row s.1 s.2.1 = some (((nextS rows s).1 : Int), (nextS rows s).2.1, ts) ∧ (nextS rows s).2.2 = s.2.2 ++ ts ∧ (q : Nat) = (nextS rows s).1 ∧ Good rows (nextS rows s) (k + 1) := by
  unfold overAt at ho
  cases hr : rows[s.1]? with
  | none => rw [hr] at ho; cases ho
  | some row =>
    have hs : row ≠ .stop := fun z => by subst z; rw [hr] at ho; cases ho
    have hm := List.mem_of_getElem? hr
    have ok := hp.2 row hm
    obtain ⟨p, e', ts, hst⟩ := step_some (i := s.1) (g.all row hm) hs
    have h0 := step_place3 ok hst
    have en : nextS rows s = (p.toNat, e', s.2.2 ++ ts) := by
      unfold nextS
      rw [List.getD_eq_getElem?_getD, hr]
      show (match step row s.1 s.2.1 with | some (q, e', us) => (q.toNat, e', s.2.2 ++ us) | none => s) = _
      rw [hst]
    obtain ⟨k1, k2, k3, k4⟩ := step_keeps g.bd (rowOk_named ok).2 g.nd hst
    rw [en]
    have el := g.el
    have tl := g.tl
    refine ⟨row, p.toNat, ts, rfl, ok, hs, by rw [hst, Int.toNat_of_nonneg h0], rfl, rfl, ⟨k1, k2, fun r hr x hx => step_has3 hst (g.all r hr x hx), (by show e'.length ≤ 600 + (k + 1); omega), ?_⟩⟩
    show (s.2.2 ++ ts).length ≤ k + 1
    rw [List.length_append]; omega
/-- two standings that hold the same -/
structure QS (s t : St3) : Prop where
  p : s.1 = t.1
  e : QE s.2.1 t.2.1
  ts : s.2.2 = t.2.2
theorem QS.next {rows : List Row} {s t : St3} (h : QS s t) : QS (nextS rows s) (nextS rows t) := by
  unfold nextS
  rw [← h.p]
  cases hz : step (rows.getD s.1 .stop) s.1 s.2.1 with
  | none =>
    cases hy : step (rows.getD s.1 .stop) s.1 t.2.1 with
    | none => exact h
    | some r =>
      obtain ⟨q, e2, us⟩ := r
      obtain ⟨e1, h1, _⟩ := (QE.mk (fun x => (h.e.at_ x).symm) h.e.len.symm h.e.n2 h.e.n1).stp hy
      rw [hz] at h1; cases h1
  | some r =>
    obtain ⟨q, e1, us⟩ := r
    obtain ⟨e2, h1, h2⟩ := h.e.stp hz
    rw [h1]
    exact ⟨rfl, h2, by show s.2.2 ++ us = t.2.2 ++ us; rw [h.ts]⟩
theorem QS.final {rows : List Row} : ∀ f {s t : St3} k, QS s t → QS (final rows f s k).1 (final rows f t k).1 ∧ (Lw.final rows f s k).2 = (Lw.final rows f t k).2
  | 0, s, t, k, h => ⟨h, rfl⟩
  | f + 1, s, t, k, h => by
    show QS (if overAt rows s.1 = true then (s, k) else Lw.final rows f (nextS rows s) (k + 1)).1 (if overAt rows t.1 = true then (t, k) else Lw.final rows f (nextS rows t) (k + 1)).1 ∧ (if overAt rows s.1 = true then (s, k) else Lw.final rows f (nextS rows s) (k + 1)).2 = (if overAt rows t.1 = true then (t, k) else Lw.final rows f (nextS rows t) (k + 1)).2
    rw [← h.p]
    split
    · exact ⟨h, rfl⟩
    · exact QS.final f (k + 1) h.next
theorem final_good {rows : List Row} (hp : Prog rows) : ∀ f s k, Good rows s k → Good rows (final rows f s k).1 (final rows f s k).2 ∧ (final rows f s k).2 ≤ k + f
  | 0, s, k, g => ⟨g, Nat.le_refl _⟩
  | f + 1, s, k, g => by
    show Good rows (if overAt rows s.1 = true then (s, k) else final rows f (nextS rows s) (k + 1)).1 (if overAt rows s.1 = true then (s, k) else final rows f (nextS rows s) (k + 1)).2 ∧ (if overAt rows s.1 = true then (s, k) else final rows f (nextS rows s) (k + 1)).2 ≤ k + (f + 1)
    by_cases ho : overAt rows s.1 = true
    · rw [if_pos ho]; exact ⟨g, by show k ≤ _; omega⟩
    · rw [if_neg ho]
      obtain ⟨_, _, _, _, _, _, _, _, _, g'⟩ := next_at hp g (by cases z : overAt rows s.1 with | true => exact absurd z ho | false => rfl)
      obtain ⟨h1, h2⟩ := final_good hp f _ _ g'
      exact ⟨h1, by omega⟩
/-! ### the starts -/
def start1 (rows : List Row) : St3 := (0, zeros (namesIn rows), [])
def start2 (rows : List Row) : St3 := (0, allNames rows, [])
theorem mem_all {rows : List Row} (hp : Prog rows) {x : Str} : (get (allNames rows) x).isSome = true ↔ ∃ r ∈ rows, x ∈ rNames r := by
  constructor
  · have key : ∀ (ds : List PD) (e : NE), (get (ds.foldl zeroPart e) x).isSome = true → (get e x).isSome = true ∨ PD.str x ∈ ds := fun ds => by
      induction ds with
      | nil => exact fun e h => Or.inl h
      | cons d ds ih =>
        intro e h
        rcases ih (zeroPart e d) h with h | h
        · cases d with
          | str y =>
            have h : (get (eput e y 0) x).isSome = true := h
            rw [get_eput] at h
            by_cases z : y = x
            · subst z; exact Or.inr List.mem_cons_self
            · rw [if_neg z] at h; exact Or.inl h
          | _ => exact Or.inl h
        · exact Or.inr (List.mem_cons_of_mem _ h)
    have keyR : ∀ (rs : List Row) (e : NE), (get (rs.foldl allRow e) x).isSome = true → (get e x).isSome = true ∨ ∃ r ∈ rs, PD.str x ∈ r.items.drop 1 := fun rs => by
      induction rs with
      | nil => exact fun e h => Or.inl h
      | cons r rs ih =>
        intro e h
        rcases ih (allRow e r) h with h | ⟨r', h1, h2⟩
        · rcases key _ _ h with h | h
          · exact Or.inl h
          · exact Or.inr ⟨r, List.mem_cons_self, h⟩
        · exact Or.inr ⟨r', List.mem_cons_of_mem _ h1, h2⟩
    intro h
    rcases keyR rows [] h with h | ⟨r, h1, h2⟩
    · cases h
    · exact ⟨r, h1, items_names (hp.2 r h1) h2⟩
  · rintro ⟨r, h1, h2⟩
    exact all_all rows r h1 x h2
theorem zeros_start {rows : List Row} : Zero (zeros (namesIn rows)) ∧ ∀ x, (get (zeros (namesIn rows)) x).isSome = true ↔ x ∈ namesIn rows := by
  obtain ⟨h1, h2⟩ := zeros_keeps (namesIn rows) [] ⟨nd_nil, fun x v h => nomatch h⟩
  exact ⟨h1, fun x => (h2 x).trans ⟨fun z => z.elim (fun w => nomatch w) id, Or.inr⟩⟩
theorem starts {rows : List Row} (hp : Prog rows) : QS (start1 rows) (start2 rows) := by
  obtain ⟨z1, z2⟩ := zeros_start (rows := rows)
  have z3 := all_zero rows
  have hk : ∀ x, (get (zeros (namesIn rows)) x).isSome = true ↔ (get (allNames rows) x).isSome = true := fun x => by rw [z2, mem_namesIn, mem_all hp]
  refine ⟨rfl, ⟨fun x => ?_, ?_, z1.nd, z3.nd⟩, rfl⟩
  · show get (zeros (namesIn rows)) x = get (allNames rows) x
    cases h1 : get (zeros (namesIn rows)) x with
    | none =>
      cases h2 : get (allNames rows) x with
      | none => rfl
      | some v =>
        have := (hk x).mpr (by rw [h2]; rfl)
        rw [h1] at this; cases this
    | some u =>
      cases h2 : get (allNames rows) x with
      | none =>
        have := (hk x).mp (by rw [h1]; rfl)
        rw [h2] at this; cases this
      | some v => rw [z1.z x u h1, z3.z x v h2]
  · show (zeros (namesIn rows)).length = (allNames rows).length
    have p := (List.perm_ext_iff_of_nodup z1.nd z3.nd).mpr fun x => by rw [mem_get, mem_get]; exact hk x
    have := p.length_eq
    rw [List.length_map, List.length_map] at this
    exact this
theorem good2 {rows : List Row} (hp : Prog rows) : Good rows (start2 rows) 0 := by
  have z := all_zero rows
  have h := all_len rows
  have := hp.1
  exact ⟨fun x v hv => by rw [z.z x v hv]; exact ⟨by decide, by decide⟩, z.nd, all_all rows, by show (allNames rows).length ≤ _; omega, Nat.zero_le _⟩
theorem good1 {rows : List Row} (hp : Prog rows) : Good rows (start1 rows) 0 := by
  obtain ⟨z1, z2⟩ := zeros_start (rows := rows)
  have q := (starts hp).e.len
  have g := (good2 hp).el
  exact ⟨fun x v hv => by rw [z1.z x v hv]; exact ⟨by decide, by decide⟩, z1.nd, fun r hr x hx => (z2 x).mpr (mem_namesIn.mpr ⟨r, hr, hx⟩), by rw [q]; exact g, Nat.zero_le _⟩
/-! ### the promises -/
def shapeOf : Row → List Str
  | .put _ _ => ["name", "number"]
  | .copy _ _ => ["name", "name"]
  | .op _ _ _ _ => ["name", "name", "name"]
  | .tell _ => ["name"]
  | .jump _ => ["place"]
  | .zero _ _ => ["name", "place"]
  | .stop => []
def wordR : Row → Str
  | .put _ _ => "put" | .copy _ _ => "copy" | .op w _ _ _ => w.word | .tell _ => "tell" | .jump _ => "jump" | .zero _ _ => "zero" | .stop => "stop"
def PartOk (d : PD) (k : Str) : Prop := (k = "name" ∧ ∃ x, d = .str x ∧ nameOk x) ∨ (k = "number" ∧ ∃ v, d = .int v ∧ 0 ≤ v ∧ v < 1000000) ∨ (k = "place" ∧ ∃ v, d = .int v)
def pdS (s : St3) : PD := pdT s.1 s.2.1 s.2.2
def P_is_name (ds : List PD) (r : Rt) : Prop := ∃ x, nameOk x ∧ ds = [.str x] ∧ r = .val (.bl true)
def P_is_whole (ds : List PD) (r : Rt) : Prop := ∃ v, ds = [.int v] ∧ r = .val (.bl true)
def P_is_number (ds : List PD) (r : Rt) : Prop := ∃ v, (0 ≤ v ∧ v < 1000000) ∧ ds = [.int v] ∧ r = .val (.bl true)
def P_is_part (ds : List PD) (r : Rt) : Prop := ∃ d k, PartOk d k ∧ ds = [d, .str k] ∧ r = .val (.bl true)
def P_is_row (ds : List PD) (r : Rt) : Prop := ∃ n row, RowOk n row ∧ ds = [row.pd] ∧ r = .val (.bl true)
def P_has_its_place (ds : List PD) (r : Rt) : Prop := ∃ (n : Nat) (row : Row), RowOk n row ∧ ds = [row.pd, .int n] ∧ r = .val (.bl true)
def P_checked (ds : List PD) (r : Rt) : Prop := ∃ rows, Prog rows ∧ ds = [.lst (rows.map Row.pd)] ∧ r = .val .non
def P_names_of (ds : List PD) (r : Rt) : Prop := ∃ n row, RowOk n row ∧ ds = [row.pd] ∧ r = .own (.lst ((rNames row).map PD.str))
def P_names_in (ds : List PD) (r : Rt) : Prop := ∃ rows, Prog rows ∧ ds = [.lst (rows.map Row.pd)] ∧ r = .own (.lst ((namesIn rows).map PD.str))
def finalC (x : St3 × Nat) : List (PD ⊕ OD) := [.inr (.lst (x.1.2.2.map PD.int)), .inl (.int (x.1.1 : Nat)), .inr (.dic (encD x.1.2.1)), .inl (.int (x.2 : Nat))]
def P_plain (ds : List PD) (r : Rt) : Prop := ∃ rows, ∃ most : Nat, Prog rows ∧ most ≤ 400 ∧ ds = [.lst (rows.map Row.pd), .int most] ∧ r = .otup (finalC (final rows most (start1 rows) 0))
def P_law_plain (ds : List PD) (r : Rt) : Prop := ∃ rows, ∃ most : Nat, Prog rows ∧ most ≤ 400 ∧ ds = [.lst (rows.map Row.pd), .int most] ∧ r = .own (.lst ((stands rows most (start2 rows)).map pdS))
def P_law_bits (ds : List PD) (r : Rt) : Prop := ∃ (ts : List Int) (p k : Int) (e : NE), ts.length ≤ 10000 ∧ e.length ≤ 10000 ∧ Nd e ∧ ds = [.tup [.lst (ts.map PD.int), .int p, .dic (encD e), .int k]] ∧ r = .val (.bl true)
abbrev sp_is_name (K : FK) : Sp := spP K P_is_name
abbrev sp_is_whole (K : FK) : Sp := spP K P_is_whole
abbrev sp_is_number (K : FK) : Sp := spP K P_is_number
abbrev sp_is_part (K : FK) : Sp := spP K P_is_part
abbrev sp_is_row (K : FK) : Sp := spP K P_is_row
abbrev sp_has_its_place (K : FK) : Sp := spP K P_has_its_place
abbrev sp_checked (K : FK) : Sp := spP K P_checked
abbrev sp_names_of (K : FK) : Sp := spP K P_names_of
abbrev sp_names_in (K : FK) : Sp := spP K P_names_in
abbrev sp_plain (K : FK) : Sp := spP K P_plain
abbrev sp_law_plain (K : FK) : Sp := spP K P_law_plain
abbrev sp_law_bits (K : FK) : Sp := spP K P_law_bits
def t_is_name (K : FK) : TS := tSeq (tIfS (tOr (tNot (tB (tCB (rIsi K) (tCons (tVar 0) (tCons (tC (.ty "str")) (tNil)))))) (tNot (tTest (tChain rLeI rLeI (tC (.int 1)) (tCB rLenStr (tCons (tVar 0) (tNil))) (tC (.int 8)))))) (tRet (tC (.bl false))) (tNext)) (tRet (Gx.tGen (·.all id) (He.cT K ("is_name", none)).2 ["letter"] (iStr (tVar 0)) (gName 0) (tChain Fw.rLeStr Fw.rLeStr (tC (.str "a")) (tVar 0) (tC (.str "z")))))
def t_is_whole (K : FK) : TS := tRet (tAndV (tCB (rIsi K) (tCons (tVar 0) (tCons (tC (.ty "int")) (tNil)))) (tNotV (tCB (rIsi K) (tCons (tVar 0) (tCons (tC (.ty "bool")) (tNil))))))
def t_is_number (K : FK) : TS := tRet (tAndV (tCall (sp_is_whole K) [] E0 (tCons (tVar 0) (tNil))) (tChain rLeI rLtI (tC (.int 0)) (tVar 0) (tC (.int 1000000))))
def t_is_part (K : FK) : TS := tSeq (tIfS (tTest (tOp rEq (tVar 1) (tC (.str "name")))) (tRet (tCall (sp_is_name K) [] E0 (tCons (tVar 0) (tNil)))) (tNext)) (tSeq (tIfS (tTest (tOp rEq (tVar 1) (tC (.str "number")))) (tRet (tCall (sp_is_number K) [] E0 (tCons (tVar 0) (tNil)))) (tNext)) (tRet (tCall (sp_is_whole K) [] E0 (tCons (tVar 0) (tNil)))))
def t_is_row (K : FK) : TS := tSeq (tIfS (tOr (tNot (tB (tCB (rIsi K) (tCons (tVar 0) (tCons (tC (.ty "tuple")) (tNil)))))) (tOr (tNot (tTru K (tVar 0))) (tNot (tB (tCB (rIsi K) (tCons (tOp (rIxT K) (tVar 0) (tC (.int 0))) (tCons (tC (.ty "str")) (tNil)))))))) (tRet (tC (.bl false))) (tNext)) (tSeq (tAsg (Fw.tKGet K (aTop K "SHAPES") (tOp (rIxT K) (tVar 0) (tC (.int 0)))) (gName 1)) (tSeq (tIfS (tOr (tB (tIsN (tVar 1))) (tTest (tOp rNe (tCB (rLenS K) (tCons (tVar 0) (tNil))) (tOp rAddI (tCB (rLenS K) (tCons (tVar 1) (tNil))) (tC (.int 1)))))) (tRet (tC (.bl false))) (tNext)) (tRet (Gx.tGen (·.all id) (He.cT K ("is_row", none)).2 ["part", "kind"] (RZ.iZipA K (tCons (tSl (rSlA K) (tVar 0) (tPart (tC (.int 1))) (tNoPart)) (tCons (tVar 1) (tNil)))) (gTup K 2 (gCons (gName 0) (gCons (gName 1) (gNil)))) (tCall (sp_is_part K) [] E0 (tCons (tVar 0) (tCons (tVar 1) (tNil))))))))
def t_has_its_place (K : FK) : TS := tSeq (tIfS (tTest (tOp (rIn K true) (tOp (rIxT K) (tVar 0) (tC (.int 0))) (tTup (tCons (tC (.str "jump")) (tCons (tC (.str "zero")) (tNil)))))) (tRet (tC (.bl true))) (tNext)) (tRet (tChain rLeI rLtI (tC (.int 0)) (tOp (rIxT K) (tVar 0) (tUn (rU fun i => .int (-i)) (tC (.int 1)))) (tVar 1)))
def t_checked (K : FK) : TS := tFor (iEnum K (tCons (tVar 0) (tNil))) (gTup K 2 (gCons (gName 1) (gCons (gName 2) (gNil)))) (tSeq (tIfS (tNot (tB (tCall (sp_is_row K) [] E0 (tCons (tVar 2) (tNil))))) (tNever) (tNext)) (tIfS (tNot (tB (tCall (sp_has_its_place K) [] E0 (tCons (tVar 2) (tCons (tCB (rLenS K) (tCons (tVar 0) (tNil))) (tNil)))))) (tNever) (tNext)))
def t_names_of (K : FK) : TS := tRet (tLc (RZ.iZipA K (tCons (tSl (rSlA K) (tVar 0) (tPart (tC (.int 1))) (tNoPart)) (tCons (tOp (Fw.rKIx K (aTop K "SHAPES")) (tC (.ref (aTop K "SHAPES"))) (tOp (rIxT K) (tVar 0) (tC (.int 0)))) (tNil)))) (gTup K 2 (gCons (gName 1) (gCons (gName 2) (gNil)))) (tTest (tOp rEq (tVar 2) (tC (.str "name")))) (tVar 1) [1, 2])
def t_names_in (K : FK) : TS := tRet (Tset.tSortTwo (iList K (tVar 0)) (gName 1) (iList K (tCall (sp_names_of K) [] E0 (tCons (tVar 1) (tNil)))) (gName 2) (tVar 2) [1, 2] [2])
def t_plain (K : FK) : TS := tSeq (tDrop (tCall (sp_checked K) [] E0 (tCons (tVar 0) (tNil)))) (tSeq (tAsg (tDc (iList K (tCall (sp_names_in K) [] E0 (tCons (tVar 0) (tNil)))) (gName 6) (tYes) (tVar 6) (tC (.int 0)) [6]) (gName 2)) (tSeq (tAsg (tLst (tNil)) (gName 3)) (tSeq (tAsg (tC (.int 0)) (gName 4)) (tSeq (tAsg (tC (.int 0)) (gName 5)) (tSeq (tWhile (tAnd (tTest (tOp rLtI (tVar 5) (tVar 1))) (tNot (tB (tCall (sp_is_over K) [] E0 (tCons (tVar 0) (tCons (tVar 4) (tNil))))))) (tSeq (tAsg (tCall (sp_do_step K) [] E0 (tCons (tOp (rIxL K) (tVar 0) (tVar 4)) (tCons (tVar 4) (tCons (tVar 2) (tCons (tVar 3) (tNil)))))) (gName 4)) (tAug 5 (tC (.int 1)) (ipI fun i j => i + j)))) (tRet (tTup (tCons (tVar 3) (tCons (tVar 4) (tCons (tVar 2) (tCons (tVar 5) (tNil))))))))))))
def t_law_plain (K : FK) : TS := tSeq (tAsg (tLst (tCons (tTup (tCons (tC (.int 0)) (tCons (tCall (sp_law_all K) [] E0 (tCons (tVar 0) (tNil))) (tCons (tLst (tNil)) (tNil))))) (tNil))) (gName 2)) (tSeq (tWhile (tAnd (tTest (tOp rLeI (tCB (rLenS K) (tCons (tVar 2) (tNil))) (tVar 1))) (tNot (tB (tCall (sp_law_over K) [] E0 (tCons (tVar 0) (tCons (tOp (rIxT K) (tOp (rIxL K) (tVar 2) (tUn (rU fun i => .int (-i)) (tC (.int 1)))) (tC (.int 0))) (tNil))))))) (tSeq (tAsg (tCall (sp_law_step K) [] E0 (tCons (tVar 0) (tCons (tOp (rIxT K) (tOp (rIxL K) (tVar 2) (tUn (rU fun i => .int (-i)) (tC (.int 1)))) (tC (.int 0))) (tCons (tOp (rIxT K) (tOp (rIxL K) (tVar 2) (tUn (rU fun i => .int (-i)) (tC (.int 1)))) (tC (.int 1))) (tNil))))) (gName 3)) (tDrop (tBM K "list" rAppend (tVar 2) (tCons (tTup (tCons (tOp (rIxT K) (tVar 3) (tC (.int 0))) (tCons (tOp (rIxT K) (tVar 3) (tC (.int 1))) (tCons (tOp rCat (tOp (rIxT K) (tOp (rIxL K) (tVar 2) (tUn (rU fun i => .int (-i)) (tC (.int 1)))) (tC (.int 2))) (tOp (rIxT K) (tVar 3) (tC (.int 2)))) (tNil))))) (tNil)))))) (tRet (tVar 2)))
def t_law_bits (K : FK) : TS := tSeq (tIfS (tOr (tNot (tB (tCB (rIsi K) (tCons (tVar 0) (tCons (tC (.ty "tuple")) (tNil)))))) (tOr (tTest (tOp rLtI (tCB (rLenS K) (tCons (tVar 0) (tNil))) (tC (.int 4)))) (tNot (tB (tCB (rIsi K) (tCons (tOp (rIxT K) (tVar 0) (tC (.int 0))) (tCons (tC (.ty "list")) (tNil)))))))) (tRet (tC (.bl false))) (tNext)) (tSeq (tIfS (tNot (tB (tCB (rIsi K) (tCons (tOp (rIxT K) (tVar 0) (tC (.int 2))) (tCons (tC (.ty "dict")) (tNil)))))) (tRet (tC (.bl false))) (tNext)) (tSeq (tIfS (tOr (tNot (tB (tCB (rAll K) (tCons (tLc (iList K (tOp (rIxT K) (tVar 0) (tC (.int 0)))) (gName 2) (tYes) (tCall (sp_law_whole K) [] E0 (tCons (tVar 2) (tNil))) [2]) (tNil))))) (tOr (tNot (tB (tCall (sp_law_whole K) [] E0 (tCons (tOp (rIxT K) (tVar 0) (tC (.int 1))) (tNil))))) (tNot (tB (tCall (sp_law_whole K) [] E0 (tCons (tOp (rIxT K) (tVar 0) (tC (.int 3))) (tNil))))))) (tRet (tC (.bl false))) (tNext)) (tRet (tCB (rAll K) (tCons (tLc (iList K (tCB rListD (tCons (tOp (rIxT K) (tVar 0) (tC (.int 2))) (tNil)))) (gName 1) (tYes) (tAndV (tCB (rIsi K) (tCons (tVar 1) (tCons (tC (.ty "str")) (tNil)))) (tCall (sp_law_whole K) [] E0 (tCons (tDGet (tOp (rIxT K) (tVar 0) (tC (.int 2))) (tVar 1)) (tNil)))) [1]) (tNil))))))
/-- the shapes in the module's top -/
structure ShT (K : FK) : Prop where
  at_ : ∀ row : Row, tupIn K.F (aTop K "SHAPES") (wordR row) (shapeOf row) = true
/-- the tables that may grow -/
structure TnT (K : FK) : Prop where
  nm : (He.cT K.F ("is_name", none)).2 ∈ K.T
  rw : (He.cT K.F ("is_row", none)).2 ∈ K.T
section
variable {K : FK} {δ : AE} {ta tb te : TE} {P : Post}
theorem et_truT {xs : List PD} (ha : Evd K te δ (.tup xs)) : Evt K (tTru K te) δ (!xs.isEmpty) := fun B G H σ R Q q => ha B G H σ R _ fun v G1 H1 R1 s1 rv => by
  cases rv with
  | @tup a vs _ hp rs =>
    refine ⟨!xs.isEmpty, ?_, q G1 H1 R1 s1⟩
    have e : xs.isEmpty = vs.isEmpty := by cases rs <;> rfl
    rw [e]
    exact Or.inr (Or.inl ⟨vs, same_sqT R1.gh hp, rfl⟩)
theorem sx_is_name (T : TnT K) (ds : List PD) (r : Rt) (h : P_is_name ds r) : Sx K (t_is_name K) (ae 1 ds) (Gives r) := by
  obtain ⟨x, ⟨h1, h2, h3⟩, rfl, rfl⟩ := h
  unfold t_is_name
  refine q_if (x := false) ?_ (fun z => nomatch z) (fun _ => q_next ?_)
  · refine et_or (x := false) (et_not (x := true) (et_B (ev_isi (d := .str x) (ev_var rfl) rfl))) fun _ => et_not (x := true) (et_is (et_test (ev_leLe (ev_int 1) (ev_lenS (ev_var rfl) (Nat.le_trans h3 (Nat.le_of_ble_eq_true rfl))) (ev_int 8))) ?_)
    rw [decide_eq_true (by omega), decide_eq_true (by omega)]; rfl
  refine s_ret (d := .bl true) (ev_is (ev_gen (out := (·.all id)) (L := List.replicate x.cps.size true) T.nm (List.length_replicate ..) (ei_str (z := x) (ev_var rfl)) fun i b hb => ⟨_, _, eg_name rfl, ?_, rfl⟩) ?_) rfl
  · have eb := List.eq_of_mem_replicate (List.mem_of_getElem? hb)
    subst eb
    have hi : i < x.cps.size := by
      have := (List.getElem?_eq_some_iff.mp hb).1
      rw [List.length_replicate] at this; exact this
    have hc := h1 (x.cps.getD i 0) (by
      rw [Array.getD_eq_getD_getElem?, Array.getElem?_eq_getElem hi]
      exact Array.getElem_mem_toList hi)
    generalize x.cps.getD i 0 = c at hc
    refine ev_is (ev_leLeS (ev_str "a") (ev_var (d := .str ⟨#[c]⟩) rfl) (ev_str "z")) ?_
    have e1 : decide (([c] : List Nat) < [97]) = false := decide_eq_false (by simp [List.cons_lt_cons_iff]; omega)
    have e2 : decide (([122] : List Nat) < [c]) = false := decide_eq_false (by simp [List.cons_lt_cons_iff]; omega)
    show PD.bl (!decide (([c] : List Nat) < [97]) && !decide (([122] : List Nat) < [c])) = .bl true
    rw [e1, e2]; rfl
  · show PD.bl ((List.replicate x.cps.size true).all id) = .bl true
    rw [List.all_eq_true.mpr fun b hb => by rw [List.eq_of_mem_replicate hb]; rfl]
theorem sx_is_whole (ds : List PD) (r : Rt) (h : P_is_whole ds r) : Sx K (t_is_whole K) (ae 1 ds) (Gives r) := by
  obtain ⟨v, rfl, rfl⟩ := h
  unfold t_is_whole
  exact s_ret (d := .bl true) (ev_is (ev_andV (x := true) (y := true) (ev_isi (d := .int v) (ev_var rfl) rfl) fun _ => ev_notV (x := false) (ev_isi (d := .int v) (ev_var rfl) rfl)) rfl) rfl
theorem sx_is_number (ds : List PD) (r : Rt) (h : P_is_number ds r) : Sx K (t_is_number K) (ae 1 ds) (Gives r) := by
  obtain ⟨v, ⟨h1, h2⟩, rfl, rfl⟩ := h
  unfold t_is_number
  refine s_ret (d := .bl true) (ev_is (ev_andV (x := true) (ev_call (P := P_is_whole) (es_cons (ev_var rfl) es_nil) ⟨v, rfl, rfl⟩) fun _ => ev_leLt (ev_int 0) (ev_var (d := .int v) rfl) (ev_int 1000000)) ?_) rfl
  rw [decide_eq_true h1, decide_eq_true h2]; rfl
theorem sx_is_part (ds : List PD) (r : Rt) (h : P_is_part ds r) : Sx K (t_is_part K) (ae 2 ds) (Gives r) := by
  obtain ⟨d, k, h, rfl, rfl⟩ := h
  unfold t_is_part
  rcases h with ⟨rfl, x, rfl, hx⟩ | ⟨rfl, v, rfl, hv⟩ | ⟨rfl, v, rfl⟩
  · exact q_if (x := true) (et_is (et_test (ev_eqS (ev_var rfl) (ev_str "name"))) (decide_eq_true rfl)) (fun _ => q_ret (s_ret (d := .bl true) (ev_call (P := P_is_name) (es_cons (ev_var rfl) es_nil) ⟨x, hx, rfl, rfl⟩) rfl)) (fun z => nomatch z)
  · refine q_if (x := false) (et_is (et_test (ev_eqS (ev_var rfl) (ev_str "name"))) (decide_eq_false (by decide))) (fun z => nomatch z) (fun _ => q_next ?_)
    exact q_if (x := true) (et_is (et_test (ev_eqS (ev_var rfl) (ev_str "number"))) (decide_eq_true rfl)) (fun _ => q_ret (s_ret (d := .bl true) (ev_call (P := P_is_number) (es_cons (ev_var rfl) es_nil) ⟨v, hv, rfl, rfl⟩) rfl)) (fun z => nomatch z)
  · refine q_if (x := false) (et_is (et_test (ev_eqS (ev_var rfl) (ev_str "name"))) (decide_eq_false (by decide))) (fun z => nomatch z) (fun _ => q_next ?_)
    refine q_if (x := false) (et_is (et_test (ev_eqS (ev_var rfl) (ev_str "number"))) (decide_eq_false (by decide))) (fun z => nomatch z) (fun _ => q_next ?_)
    exact s_ret (d := .bl true) (ev_call (P := P_is_whole) (es_cons (ev_var rfl) es_nil) ⟨v, rfl, rfl⟩) rfl
theorem row_word (row : Row) : row.items[0]? = some (.str (wordR row)) := by
  cases row with
  | op w x a b => rfl
  | _ => rfl
theorem row_len (row : Row) : row.items.length = (shapeOf row).length + 1 := by cases row <;> rfl
theorem row_rest (row : Row) : cutD row.items (some 1) none = row.items.drop 1 := by cases row <;> rfl
theorem row_parts {n : Nat} {row : Row} (h : RowOk n row) : ∀ (i : Nat) (d : PD) (k : Str), (row.items.drop 1)[i]? = some d → (shapeOf row)[i]? = some k → PartOk d k := by
  have nmOk : ∀ {x : Str}, nameOk x → PartOk (.str x) "name" := fun h => Or.inl ⟨rfl, _, rfl, h⟩
  have srOk : ∀ {s : Src}, srcOk s → PartOk s.pd "name" := fun h => by obtain ⟨y, rfl, hy⟩ := h; exact nmOk hy
  intro i d k hd hk
  cases row with
  | put x v =>
    match i with
    | 0 => cases hd; cases hk; exact nmOk h.1
    | 1 => cases hd; cases hk; exact Or.inr (Or.inl ⟨rfl, v, rfl, h.2⟩)
    | j + 2 => exact absurd hk (by simp [shapeOf])
  | copy x s =>
    match i with
    | 0 => cases hd; cases hk; exact nmOk h.1
    | 1 => cases hd; cases hk; exact srOk h.2
    | j + 2 => exact absurd hk (by simp [shapeOf])
  | op w x a b =>
    match i with
    | 0 => cases hd; cases hk; exact nmOk h.1
    | 1 => cases hd; cases hk; exact srOk h.2.1
    | 2 => cases hd; cases hk; exact srOk h.2.2
    | j + 3 => exact absurd hk (by simp [shapeOf])
  | tell s =>
    match i with
    | 0 => cases hd; cases hk; exact srOk h
    | j + 1 => exact absurd hk (by simp [shapeOf])
  | jump p =>
    match i with
    | 0 => cases hd; cases hk; exact Or.inr (Or.inr ⟨rfl, p, rfl⟩)
    | j + 1 => exact absurd hk (by simp [shapeOf])
  | zero x p =>
    match i with
    | 0 => cases hd; cases hk; exact nmOk h.1
    | 1 => cases hd; cases hk; exact Or.inr (Or.inr ⟨rfl, p, rfl⟩)
    | j + 2 => exact absurd hk (by simp [shapeOf])
  | stop => exact absurd hk (by simp [shapeOf])
theorem ev_rword {i : Nat} {row : Row} (h : δ[i]? = some (.sh row.pd)) : Evd K (tOp (rIxT K) (tVar i) (tC (.int 0))) δ (.str (wordR row)) := ev_ixT (ds := row.items) (ev_var h) (ev_int 0) (atI_nat (j := 0) (row_word row))
theorem ev_rrest {i : Nat} {row : Row} (h : δ[i]? = some (.sh row.pd)) : Evd K (tSl (rSlA K) (tVar i) (tPart (tC (.int 1))) tNoPart) δ (.tup (row.items.drop 1)) := by
  rw [← row_rest]
  exact ev_slT (ds := row.items) (ev_var h) (ep_some (ev_int 1)) ep_none
theorem min_len (row : Row) : min (row.items.drop 1).length ((shapeOf row).map PD.str).length = (shapeOf row).length := by
  rw [List.length_drop, row_len, List.length_map]; omega
theorem sx_is_row (S : ShT K) (T : TnT K) (ds : List PD) (r : Rt) (h : P_is_row ds r) : Sx K (t_is_row K) (ae 2 ds) (Gives r) := by
  obtain ⟨n, row, hok, rfl, rfl⟩ := h
  unfold t_is_row
  refine q_if (x := false) ?_ (fun z => nomatch z) (fun _ => q_next ?_)
  · refine et_or (x := false) (et_not (x := true) (et_B (ev_isi (d := row.pd) (ev_var rfl) rfl))) fun _ => et_or (x := false) (et_not (x := true) (et_is (et_truT (xs := row.items) (ev_var rfl)) ?_)) fun _ => et_not (x := true) (et_B (ev_isi (ev_rword rfl) rfl))
    cases row <;> rfl
  refine q_asg (d := .tup ((shapeOf row).map PD.str)) (ev_kgetT (ev_rword rfl) (S.at_ row)) rfl ?_
  refine q_if (x := false) ?_ (fun z => nomatch z) (fun _ => q_next ?_)
  · refine et_or (x := false) (et_is (et_B (ev_isN (d := .tup ((shapeOf row).map PD.str)) (ev_var rfl))) rfl) fun _ => et_is (et_test (ev_neI (ev_lenT (ds := row.items) (ev_var rfl)) (e_add (ev_lenT (ds := (shapeOf row).map PD.str) (ev_var rfl)) (ev_int 1)))) ?_
    rw [List.length_map, row_len]
    simp
  refine s_ret (d := .bl true) (ev_is (ev_gen (out := (·.all id)) (L := List.replicate (shapeOf row).length true) T.rw (by rw [List.length_replicate, min_len]) (ei_zipT (ds := row.items.drop 1) (es := (shapeOf row).map PD.str) (ev_rrest rfl) (ev_var rfl)) fun i b hb => ⟨_, _, eg_tup (ds := [(row.items.drop 1).getD i .non, ((shapeOf row).map PD.str).getD i .non]) rfl (egs_cons (eg_name rfl) (egs_cons (eg_name rfl) egs_nil)), ?_, rfl⟩) ?_) rfl
  · have eb := List.eq_of_mem_replicate (List.mem_of_getElem? hb)
    subst eb
    have hi : i < (shapeOf row).length := by
      have := (List.getElem?_eq_some_iff.mp hb).1
      rw [List.length_replicate] at this; exact this
    have ek := List.getElem?_eq_getElem hi
    have hl : i < (row.items.drop 1).length := by rw [List.length_drop, row_len]; omega
    have ed := List.getElem?_eq_getElem hl
    have e1 : ((shapeOf row).map PD.str).getD i .non = .str (shapeOf row)[i] := by rw [List.getD_eq_getElem?_getD, List.getElem?_map, ek]; rfl
    have e2 : (row.items.drop 1).getD i .non = (row.items.drop 1)[i] := by rw [List.getD_eq_getElem?_getD, ed]; rfl
    rw [e1, e2]
    exact ev_call (P := P_is_part) (es_cons (ev_var rfl) (es_cons (ev_var rfl) es_nil)) ⟨_, _, row_parts hok i _ _ ed ek, rfl, rfl⟩
  · show PD.bl ((List.replicate (shapeOf row).length true).all id) = .bl true
    rw [List.all_eq_true.mpr fun b hb => by rw [List.eq_of_mem_replicate hb]; rfl]
end
section
variable {K : FK} {δ : AE} {ta tb te : TE} {P : Post}
theorem sx_has_its_place (ds : List PD) (r : Rt) (h : P_has_its_place ds r) : Sx K (t_has_its_place K) (ae 2 ds) (Gives r) := by
  obtain ⟨n, row, hok, rfl, rfl⟩ := h
  unfold t_has_its_place
  have tst : ∀ b, (!inV (.str (wordR row)) [.str "jump", .str "zero"]) = b → Evt K (tTest (tOp (rIn K true) (tOp (rIxT K) (tVar 0) (tC (.int 0))) (tTup (tCons (tC (.str "jump")) (tCons (tC (.str "zero")) (tNil)))))) (ae 2 [row.pd, .int n]) b := fun b hb =>
    et_is (et_test (ev_inT (ds := [.str "jump", .str "zero"]) true (ev_rword rfl) (ev_tup (es_cons (ev_str _) (es_cons (ev_str _) es_nil)) (Nat.le_of_ble_eq_true rfl)) rfl rfl)) hb
  have free : (!inV (.str (wordR row)) [.str "jump", .str "zero"]) = true → Sx K (tSeq (tIfS (tTest (tOp (rIn K true) (tOp (rIxT K) (tVar 0) (tC (.int 0))) (tTup (tCons (tC (.str "jump")) (tCons (tC (.str "zero")) (tNil)))))) (tRet (tC (.bl true))) (tNext)) (tRet (tChain rLeI rLtI (tC (.int 0)) (tOp (rIxT K) (tVar 0) (tUn (rU fun i => .int (-i)) (tC (.int 1)))) (tVar 1)))) (ae 2 [row.pd, .int n]) (Gives (.val (.bl true))) := fun hb =>
    q_if (x := true) (tst true hb) (fun _ => q_ret (s_ret (d := .bl true) (ev_bl true) rfl)) (fun z => nomatch z)
  have place : ∀ p : Int, 0 ≤ p → p < n → (!inV (.str (wordR row)) [.str "jump", .str "zero"]) = false → atI row.items (-1) = some (.int p) → Sx K (tSeq (tIfS (tTest (tOp (rIn K true) (tOp (rIxT K) (tVar 0) (tC (.int 0))) (tTup (tCons (tC (.str "jump")) (tCons (tC (.str "zero")) (tNil)))))) (tRet (tC (.bl true))) (tNext)) (tRet (tChain rLeI rLtI (tC (.int 0)) (tOp (rIxT K) (tVar 0) (tUn (rU fun i => .int (-i)) (tC (.int 1)))) (tVar 1)))) (ae 2 [row.pd, .int n]) (Gives (.val (.bl true))) := fun p h0 h1 hb ha =>
    q_if (x := false) (tst false hb) (fun z => nomatch z) (fun _ => q_next (s_ret (d := .bl true) (ev_is (ev_leLt (ev_int 0) (ev_ixT (ds := row.items) (ev_var rfl) (ev_neg (ev_int 1)) ha) (ev_var (d := .int n) rfl)) (by rw [decide_eq_true h0, decide_eq_true h1]; rfl)) rfl))
  cases row with
  | put x v => exact free rfl
  | copy x s => exact free rfl
  | op w x a b => exact free (by cases w <;> rfl)
  | tell s => exact free rfl
  | stop => exact free rfl
  | jump p => exact place p hok.1 hok.2 rfl rfl
  | zero x p => exact place p hok.2.1 hok.2.2 rfl rfl
theorem sx_checked (ds : List PD) (r : Rt) (h : P_checked ds r) : Sx K (t_checked K) (ae 3 ds) (Gives r) := by
  obtain ⟨rows, hp, rfl, rfl⟩ := h
  unfold t_checked
  refine s_forD (n := rows.length) (f := fun i => .tup [.int (i : Nat), (rows.map Row.pd).getD i .non]) [1, 2] (fun _ => [.sh (.lst (rows.map Row.pd)), .no, .no]) (ei_is (ei_enum (ev_var rfl)) (by rw [List.length_map]) fun _ _ => rfl) rfl (fun i hi => ?_) rfl
  have e := List.getElem?_eq_getElem hi
  have hm := List.getElem_mem hi
  have hok := hp.2 _ hm
  have e1 : (rows.map Row.pd).getD i .non = rows[i].pd := by rw [List.getD_eq_getElem?_getD, List.getElem?_map, e]; rfl
  rw [e1]
  refine ⟨_, _, eg_tup (ds := [.int (i : Nat), rows[i].pd]) rfl (egs_cons (eg_name rfl) (egs_cons (eg_name rfl) egs_nil)), ?_⟩
  refine q_if (x := false) (et_not (x := true) (et_B (ev_call (P := P_is_row) (es_cons (ev_var rfl) es_nil) ⟨_, _, hok, rfl, rfl⟩))) (fun z => nomatch z) (fun _ => q_next ?_)
  refine s_if (x := false) (et_not (x := true) (et_B (ev_call (P := P_has_its_place) (es_cons (ev_var rfl) (es_cons (ev_is (ev_lenL (rd_lst (ev_var rfl))) (by rw [List.length_map])) es_nil)) ⟨rows.length, _, hok, rfl, rfl⟩))) (fun z => nomatch z) (fun _ => sx_next rfl)
theorem sx_names_of (S : ShT K) (ds : List PD) (r : Rt) (h : P_names_of ds r) : Sx K (t_names_of K) (ae 3 ds) (Gives r) := by
  obtain ⟨n, row, hok, rfl, rfl⟩ := h
  unfold t_names_of
  refine s_retO (eo_is (eo_lc (n := (shapeOf row).length) (f := fun i => .tup [(row.items.drop 1).getD i .non, ((shapeOf row).map PD.str).getD i .non]) (fun i => decide ((shapeOf row).getD i "" = "name")) (fun i => (row.items.drop 1).getD i .non)
    (ei_is (ei_zipT (ds := row.items.drop 1) (es := (shapeOf row).map PD.str) (ev_rrest rfl) (ev_kixT (ev_rword rfl) (S.at_ row))) (min_len row) fun _ _ => rfl) (by cases row <;> exact Nat.le_of_ble_eq_true rfl) fun i hi => ?_) ?_) rfl
  · have ek := List.getElem?_eq_getElem hi
    have e1 : ((shapeOf row).map PD.str).getD i .non = .str (shapeOf row)[i] := by rw [List.getD_eq_getElem?_getD, List.getElem?_map, ek]; rfl
    have e2 : (shapeOf row).getD i "" = (shapeOf row)[i] := by rw [List.getD_eq_getElem?_getD, ek]; rfl
    rw [e1, e2]
    exact ⟨_, _, eg_tup (ds := [(row.items.drop 1).getD i .non, .str (shapeOf row)[i]]) rfl (egs_cons (eg_name rfl) (egs_cons (eg_name rfl) egs_nil)), fun j hj => hj, et_test (ev_eqS (ev_var rfl) (ev_str "name")), fun _ => ev_var rfl⟩
  · cases row with
    | put x v => rfl
    | copy x s => obtain ⟨y, rfl, _⟩ := hok.2; rfl
    | op w x a b => obtain ⟨y, rfl, _⟩ := hok.2.1; obtain ⟨z, rfl, _⟩ := hok.2.2; rfl
    | tell s => obtain ⟨y, rfl, _⟩ := hok; rfl
    | jump p => rfl
    | zero x p => rfl
    | stop => rfl
theorem sx_names_in (ds : List PD) (r : Rt) (h : P_names_in ds r) : Sx K (t_names_in K) (ae 3 ds) (Gives r) := by
  obtain ⟨rows, hp, rfl, rfl⟩ := h
  unfold t_names_in
  have hl := hp.1
  refine s_retO (eo_sortTwo (n := rows.length) (m := 3) (f := fun i => (rows.map Row.pd).getD i .non) (rowsNm rows) (namesIn rows) (ei_is (ei_list (ev_var rfl)) (by rw [List.length_map]) fun _ _ => rfl) (by omega) (fun i => ?_) (fun ss pm so => sortT_only pm so) fun i hi => ?_) rfl
  · unfold rowsNm
    by_cases hi : i < rows.length
    · rw [List.getD_eq_getElem?_getD, List.getElem?_eq_getElem hi]
      exact rNames_len (hp.2 _ (List.getElem_mem hi))
    · rw [List.getD_eq_getElem?_getD, List.getElem?_eq_none (by omega)]
      exact Nat.zero_le _
  · have e := List.getElem?_eq_getElem hi
    have hok := hp.2 _ (List.getElem_mem hi)
    have e1 : (rows.map Row.pd).getD i .non = rows[i].pd := by rw [List.getD_eq_getElem?_getD, List.getElem?_map, e]; rfl
    have e2 : rowsNm rows i = rNames rows[i] := by unfold rowsNm; rw [List.getD_eq_getElem?_getD, e]; rfl
    rw [e1, e2]
    refine ⟨_, _, fun j => ((rNames rows[i]).map PD.str).getD j .non, eg_name rfl, fun j hj => by rw [List.mem_singleton.mp hj]; exact List.mem_cons_self, rfl, ei_is (ei_list (evd_of_evo (o := .lst ((rNames rows[i]).map PD.str)) (eo_call (P := P_names_of) (es_cons (ev_var rfl) es_nil) ⟨_, _, hok, rfl, rfl⟩))) (by rw [List.length_map]) fun _ _ => rfl, fun j z hz => ⟨_, _, eg_name rfl, fun k hk => hk, ?_⟩⟩
    refine ev_is (ev_var rfl) ?_
    show ((rNames rows[i]).map PD.str).getD j .non = .str z
    rw [List.getD_eq_getElem?_getD, List.getElem?_map, hz]; rfl
theorem puts_zero (ns : List Str) : ∀ n, n ≤ ns.length → puts (fun i => (ns[i]?).map fun x => ((Sum.inr x : Key), PD.int 0)) n = encD (zeros (ns.take n))
  | 0, _ => by rw [List.take_zero]; rfl
  | n + 1, hn => by
    have ih := puts_zero ns n (by omega)
    have e := List.getElem?_eq_getElem (show n < ns.length by omega)
    show (match (ns[n]?).map (fun x => ((Sum.inr x : Key), PD.int 0)) with | some (k, d) => Fw.put (puts _ n) k d | none => puts _ n) = _
    rw [e]
    show Fw.put (puts _ n) (.inr ns[n]) (.int 0) = _
    rw [ih, put_enc, List.take_add_one, e]
    unfold zeros
    show _ = Fw.encD ((ns.take n ++ [ns[n]]).foldl _ [])
    rw [List.foldl_append]; rfl
theorem sx_plain (ds : List PD) (r : Rt) (h : P_plain ds r) : Sx K (t_plain K) (ae 7 ds) (Gives r) := by
  obtain ⟨rows, most, hp, hm, rfl, rfl⟩ := h
  unfold t_plain
  refine sx_seq (M := fun d => d = ae 7 [.lst (rows.map Row.pd), .int most]) (s_drop (ev_call (P := P_checked) (es_cons (ev_var rfl) es_nil) ⟨rows, hp, rfl, rfl⟩) rfl) fun d e => ?_
  subst e
  have hnl : (namesIn rows).length ≤ 400 := by
    have := good1 hp
    have h1 := (sortT_perm (total (rowsNm rows) rows.length)).length_eq
    have h2 := total_len (nm := rowsNm rows) (m := 3) (fun i => by
      unfold rowsNm
      by_cases hi : i < rows.length
      · rw [List.getD_eq_getElem?_getD, List.getElem?_eq_getElem hi]; exact rNames_len (hp.2 _ (List.getElem_mem hi))
      · rw [List.getD_eq_getElem?_getD, List.getElem?_eq_none (by omega)]; exact Nat.zero_le _) rows.length
    have h3 := hp.1
    unfold namesIn; omega
  refine q_asgO (o := .dic (encD (zeros (namesIn rows)))) (eo_is (eo_dc (n := (namesIn rows).length) (f := fun i => ((namesIn rows).map PD.str).getD i .non) (fun i => ((namesIn rows)[i]?).map fun x => ((Sum.inr x : Key), PD.int 0)) (ei_is (ei_list (evd_of_evo (o := .lst ((namesIn rows).map PD.str)) (eo_call (P := P_names_in) (es_cons (ev_var rfl) es_nil) ⟨rows, hp, rfl, rfl⟩))) (by rw [List.length_map]) fun _ _ => rfl) (by omega) fun i hi => ?_) ?_) ?_
  · have e := List.getElem?_eq_getElem hi
    have e1 : ((namesIn rows).map PD.str).getD i .non = .str (namesIn rows)[i] := by rw [List.getD_eq_getElem?_getD, List.getElem?_map, e]; rfl
    rw [e1, e]
    refine ⟨_, _, eg_name rfl, fun j hj => hj, et_yes, fun k v hkv => ?_⟩
    cases hkv
    exact ⟨ev_var rfl, ev_int 0⟩
  · rw [puts_zero _ _ (Nat.le_refl _), List.take_length]
  refine q_asgO (o := .lst []) (eo_lst es_nil (Nat.zero_le _)) ?_
  refine q_asg (d := .int 0) (ev_int 0) rfl ?_
  refine q_asg (d := .int 0) (ev_int 0) rfl ?_
  let F := final rows most (start1 rows) 0
  let A : St3 → Nat → AE := fun s k => [.sh (.lst (rows.map Row.pd)), .sh (.int most), .ow (.dic (encD s.2.1)), .ow (.lst (s.2.2.map PD.int)), .sh (.int (s.1 : Nat)), .sh (.int (k : Nat)), .no]
  refine sx_seq (M := fun d => d = A F.1 F.2) (s_while (fun m d => ∃ s k, m + k = most ∧ Good rows s k ∧ final rows m s k = F ∧ d = A s k) most ⟨start1 rows, 0, rfl, good1 hp, rfl, rfl⟩ fun m d hW => ?_) fun d e => ?_
  · obtain ⟨s, k, hmk, hg, hf, rfl⟩ := hW
    refine ⟨decide ((k : Int) < most) && !overAt rows s.1, et_and (et_test (e_lt (ev_var rfl) (ev_var rfl))) fun _ => et_not (et_B (ev_call (P := P_is_over) (es_cons (ev_var rfl) (es_cons (ev_var rfl) es_nil)) ⟨rows, s.1, rfl, rfl⟩)), fun hx => ?_, fun hx => ?_⟩
    · rw [Bool.and_eq_true, decide_eq_true_eq] at hx
      have ho : overAt rows s.1 = false := by
        cases z : overAt rows s.1 with
        | false => rfl
        | true => rw [z] at hx; exact absurd hx.2 (by decide)
      obtain ⟨row, q, ts, hr, hok, hns, hst, hts, _, hg'⟩ := next_at hp hg ho
      match m, hmk with
      | 0, hmk => exact absurd hx.1 (by omega)
      | m' + 1, hmk =>
      have hf' : final rows m' (nextS rows s) (k + 1) = F := by
        rw [← hf]
        show _ = if overAt rows s.1 = true then (s, k) else final rows m' (nextS rows s) (k + 1)
        rw [ho]; rfl
      have hel := hg.el
      have htl := hg.tl
      refine q_doStep (i := 2) (j := 3) (k := 4) (row := row) (us := s.2.2) (e := s.2.1) (e' := (nextS rows s).2.1) (ts := ts) (n := (s.1 : Int)) (p := ((nextS rows s).1 : Nat)) (ev_ixL (ds := rows.map Row.pd) (rd_lst (ev_var rfl)) (ev_var rfl) (atI_nat (by rw [List.getElem?_map, hr]; rfl))) (ev_var rfl) rfl rfl (by decide) hg.bd (by omega) (by omega) (rowOk_named hok).1 hst rfl ?_
      refine s_aug (x := (k : Int)) (y := 1) rfl (ev_int 1) ⟨m', Nat.lt_succ_self _, nextS rows s, k + 1, by omega, hg', hf', ?_⟩
      show _ = A (nextS rows s) (k + 1)
      have e5 : ((k : Int) + 1) = ((k + 1 : Nat) : Int) := by rw [Int.natCast_add]; rfl
      show [_, _, _, Sl.ow (.lst ((s.2.2 ++ ts).map PD.int)), _, Sl.sh (.int ((k : Int) + 1)), _] = A (nextS rows s) (k + 1)
      rw [e5, ← hts]
    · show A s k = A F.1 F.2
      have e : (s, k) = F := by
        rw [← hf]
        match m, hmk with
        | 0, _ => rfl
        | m' + 1, hmk =>
          show _ = if overAt rows s.1 = true then (s, k) else final rows m' (nextS rows s) (k + 1)
          have ho : overAt rows s.1 = true := by
            cases z : overAt rows s.1 with
            | true => rfl
            | false =>
              rw [z, decide_eq_true (by omega)] at hx
              cases hx
          rw [ho]; rfl
      rw [← e]
  · subst e
    exact s_retT (cs := finalC F) (ecs_own (k := 3) rfl (ecs_val (ev_var rfl) (ecs_own (k := 2) rfl (ecs_val (ev_var rfl) ecs_nil) (by decide))) (by decide)) (Nat.le_of_ble_eq_true rfl) rfl
end
section
variable {K : FK} {δ : AE} {ta tb te : TE} {P : Post}
theorem last_at {xs : List PD} {d : PD} : atI (xs ++ [d]) (-1) = some d := by
  unfold atI
  rw [List.length_append]
  have e : ixN (xs.length + [d].length) (-1) = some xs.length := by
    unfold ixN
    simp only [List.length_cons, List.length_nil]
    split
    · first | omega | (congr 1; omega)
    · split <;> first | omega | (congr 1; omega)
  rw [e]
  simp
theorem pdS_items (s : St3) : pdS s = .tup [.int (s.1 : Nat), .dic (encD s.2.1), .lst (s.2.2.map PD.int)] := rfl
theorem sx_law_plain (ds : List PD) (r : Rt) (h : P_law_plain ds r) : Sx K (t_law_plain K) (ae 4 ds) (Gives r) := by
  obtain ⟨rows, most, hp, hm, rfl, rfl⟩ := h
  unfold t_law_plain
  have hpl := hp.1
  refine q_asgO (o := .lst [pdS (start2 rows)]) (eo_lst (es_cons (ev_tup (ds := [.int 0, .dic (encD (allNames rows)), .lst []]) (es_cons (ev_int 0) (es_cons (evd_of_evo (o := .dic (encD (allNames rows))) (eo_call (P := P_law_all) (es_cons (ev_var rfl) es_nil) ⟨rows, by omega, rfl, rfl⟩)) (es_cons (evd_of_evo (o := .lst []) (eo_lst es_nil (Nat.zero_le _))) es_nil))) (Nat.le_of_ble_eq_true rfl)) es_nil) (Nat.le_of_ble_eq_true rfl)) ?_
  let ALL := stands rows most (start2 rows)
  let A : List St3 → Sl → AE := fun l x => [.sh (.lst (rows.map Row.pd)), .sh (.int most), .ow (.lst (l.map pdS)), x]
  refine sx_seq (M := fun d => ∃ x, d = A ALL x) (s_while (fun m d => ∃ acc s k x, m + k = most ∧ acc.length = k ∧ Good rows s k ∧ acc ++ stands rows m s = ALL ∧ (x = .no ∨ ∃ e, x = .sh e) ∧ d = A (acc ++ [s]) x) most ⟨[], start2 rows, 0, .no, rfl, rfl, good2 hp, rfl, Or.inl rfl, rfl⟩ fun m d hW => ?_) fun d e => ?_
  · obtain ⟨acc, s, k, x, hmk, hal, hg, hf, hx3, rfl⟩ := hW
    have el : ((acc ++ [s]).map pdS) = acc.map pdS ++ [pdS s] := by rw [List.map_append]; rfl
    have lst : ∀ {D : AE}, D[2]? = some (.ow (.lst ((acc ++ [s]).map pdS))) → Evd K (tOp (rIxL K) (tVar 2) (tUn (rU fun i => .int (-i)) (tC (.int 1)))) D (.tup [.int (s.1 : Nat), .dic (encD s.2.1), .lst (s.2.2.map PD.int)]) := fun h => ev_ixL (ds := (acc ++ [s]).map pdS) (rd_ow h) (ev_neg (ev_int 1)) (by rw [el]; exact last_at)
    have at0 : ∀ {D : AE}, D[2]? = some (.ow (.lst ((acc ++ [s]).map pdS))) → Evd K (tOp (rIxT K) (tOp (rIxL K) (tVar 2) (tUn (rU fun i => .int (-i)) (tC (.int 1)))) (tC (.int 0))) D (.int (s.1 : Nat)) := fun h => ev_ixT (lst h) (ev_int 0) rfl
    refine ⟨decide ((k + 1 : Nat) ≤ (most : Int)) && !overAt rows s.1, et_and (et_is (et_test (e_le (ev_lenL (ds := (acc ++ [s]).map pdS) (rd_ow rfl)) (ev_var rfl))) ?_) fun _ => et_not (et_B (ev_call (P := P_law_over) (es_cons (ev_var rfl) (es_cons (at0 rfl) es_nil)) ⟨rows, s.1, rfl, rfl⟩)), fun hx => ?_, fun hx => ?_⟩
    · rw [List.length_map, List.length_append, hal]; rfl
    · rw [Bool.and_eq_true, decide_eq_true_eq] at hx
      have ho : overAt rows s.1 = false := by
        cases z : overAt rows s.1 with
        | false => rfl
        | true => rw [z] at hx; exact absurd hx.2 (by decide)
      obtain ⟨row, q, ts, hr, hok, hns, hst, hts, _, hg'⟩ := next_at hp hg ho
      match m, hmk with
      | 0, hmk => exact absurd hx.1 (by omega)
      | m' + 1, hmk =>
      have hf' : (acc ++ [s]) ++ stands rows m' (nextS rows s) = ALL := by
        rw [← hf, List.append_assoc]
        show acc ++ (s :: stands rows m' (nextS rows s)) = acc ++ if overAt rows s.1 = true then [s] else s :: stands rows m' (nextS rows s)
        rw [ho]; rfl
      have hel := hg.el
      have htl := hg.tl
      have n3 : notPn (A (acc ++ [s]) x) 3 = true := by rcases hx3 with rfl | ⟨e, rfl⟩ <;> rfl
      refine q_asg (d := .tup [.int ((nextS rows s).1 : Nat), .dic (encD (nextS rows s).2.1), .lst (ts.map PD.int)]) (ev_call (P := P_law_step) (es_cons (ev_var rfl) (es_cons (at0 rfl) (es_cons (ev_ixT (lst rfl) (ev_int 1) rfl) es_nil))) ⟨rows, s.1, row, s.2.1, _, _, ts, hg.bd, (rowOk_named hok).2, by omega, hr, hst, rfl, rfl⟩) n3 ?_
      refine s_app (i := 2) (xs := (acc ++ [s]).map pdS) (d := pdS (nextS rows s)) (Or.inl rfl) (ev_tup (ds := [.int ((nextS rows s).1 : Nat), .dic (encD (nextS rows s).2.1), .lst ((nextS rows s).2.2.map PD.int)]) (es_cons (ev_ixT (ds := [.int ((nextS rows s).1 : Nat), .dic (encD (nextS rows s).2.1), .lst (ts.map PD.int)]) (ev_var rfl) (ev_int 0) rfl) (es_cons (ev_ixT (ds := [.int ((nextS rows s).1 : Nat), .dic (encD (nextS rows s).2.1), .lst (ts.map PD.int)]) (ev_var rfl) (ev_int 1) rfl) (es_cons (evd_of_evo (o := .lst ((nextS rows s).2.2.map PD.int)) (eo_is (eo_cat (xs := s.2.2.map PD.int) (ys := ts.map PD.int) (rd_lst (ev_ixT (lst rfl) (ev_int 2) rfl)) (rd_lst (ev_ixT (ds := [.int ((nextS rows s).1 : Nat), .dic (encD (nextS rows s).2.1), .lst (ts.map PD.int)]) (ev_var rfl) (ev_int 2) rfl)) ?_) ?_)) es_nil))) (Nat.le_of_ble_eq_true rfl)) ?_ ⟨m', Nat.lt_succ_self _, acc ++ [s], nextS rows s, k + 1, .sh (.tup [.int ((nextS rows s).1 : Nat), .dic (encD (nextS rows s).2.1), .lst (ts.map PD.int)]), by omega, by rw [List.length_append, hal]; rfl, hg', hf', Or.inr ⟨.tup [.int ((nextS rows s).1 : Nat), .dic (encD (nextS rows s).2.1), .lst (ts.map PD.int)], rfl⟩, ?_⟩
      · have h1 := hg'.tl
        rw [hts, List.length_append] at h1
        rw [List.length_map, List.length_map]; omega
      · rw [hts, List.map_append]
      · rw [List.length_map, List.length_append, hal]; show k + 1 < 100000; omega
      · show [_, _, Sl.ow (.lst ((acc ++ [s]).map pdS ++ [pdS (nextS rows s)])), _] = A (acc ++ [s] ++ [nextS rows s]) (.sh (.tup [.int ((nextS rows s).1 : Nat), .dic (encD (nextS rows s).2.1), .lst (ts.map PD.int)]))
        rw [show (acc ++ [s]).map pdS ++ [pdS (nextS rows s)] = (acc ++ [s] ++ [nextS rows s]).map pdS by rw [List.map_append (l₁ := acc ++ [s])]; rfl]
    · refine ⟨x, ?_⟩
      show A (acc ++ [s]) x = A ALL x
      have e : acc ++ [s] = ALL := by
        rw [← hf]
        match m, hmk with
        | 0, _ => rfl
        | m' + 1, hmk =>
          show acc ++ [s] = acc ++ if overAt rows s.1 = true then [s] else s :: stands rows m' (nextS rows s)
          have ho : overAt rows s.1 = true := by
            cases z : overAt rows s.1 with
            | true => rfl
            | false =>
              rw [z, decide_eq_true (by omega)] at hx
              cases hx
          rw [ho]; rfl
      rw [e]
  · obtain ⟨x, rfl⟩ := e
    exact s_retV (i := 2) rfl rfl
theorem all_true3 (n : Nat) : (List.replicate n true).all id = true := List.all_eq_true.mpr fun b hb => by rw [List.eq_of_mem_replicate hb]; rfl
theorem given_true3 (n : Nat) : given n (fun _ => true) (fun _ => PD.bl true) = (List.replicate n true).map PD.bl := by
  rw [given_all]
  apply List.ext_getElem
  · simp
  · intro i h1 h2; simp
theorem sx_law_bits (ds : List PD) (r : Rt) (h : P_law_bits ds r) : Sx K (t_law_bits K) (ae 3 ds) (Gives r) := by
  obtain ⟨ts, p, k, e, htl, hel, hnd, rfl, rfl⟩ := h
  unfold t_law_bits
  have it : ∀ {D : AE} (j : Nat) {d : PD}, D[0]? = some (.sh (.tup [.lst (ts.map PD.int), .int p, .dic (encD e), .int k])) → ([.lst (ts.map PD.int), .int p, .dic (encD e), .int k] : List PD)[j]? = some d → Evd K (tOp (rIxT K) (tVar 0) (tC (.int (j : Int)))) D d := fun {D} j {d} h hj => ev_ixT (ev_var h) (ev_int _) (atI_nat hj)
  refine q_if (x := false) ?_ (fun z => nomatch z) (fun _ => q_next ?_)
  · refine et_or (x := false) (et_not (x := true) (et_B (ev_isi (d := .tup [.lst (ts.map PD.int), .int p, .dic (encD e), .int k]) (ev_var rfl) rfl))) fun _ => et_or (x := false) (et_is (et_test (e_lt (ev_lenT (ds := [.lst (ts.map PD.int), .int p, .dic (encD e), .int k]) (ev_var rfl)) (ev_int 4))) rfl) fun _ => et_not (x := true) (et_B (ev_isi (it 0 rfl rfl) rfl))
  refine q_if (x := false) (et_not (x := true) (et_B (ev_isi (it 2 rfl rfl) rfl))) (fun z => nomatch z) (fun _ => q_next ?_)
  refine q_if (x := false) ?_ (fun z => nomatch z) (fun _ => q_next ?_)
  · refine et_or (x := false) (et_not (x := true) (et_B (ev_is (ev_all (bs := List.replicate ts.length true) (rd_of_evo (eo_is (eo_lc (n := ts.length) (f := fun i => (ts.map PD.int).getD i .non) (fun _ => true) (fun _ => .bl true) (ei_is (ei_list (it 0 rfl rfl)) (by rw [List.length_map]) fun _ _ => rfl) (by omega) fun i hi => ?_) (by rw [given_true3])))) (by rw [all_true3])))) fun _ => ?_
    · have ex := List.getElem?_eq_getElem hi
      have e1 : (ts.map PD.int).getD i .non = .int ts[i] := by rw [List.getD_eq_getElem?_getD, List.getElem?_map, ex]; rfl
      rw [e1]
      exact ⟨_, _, eg_name rfl, fun j hj => hj, et_yes, fun _ => ev_call (P := P_law_whole) (es_cons (ev_var rfl) es_nil) ⟨.int ts[i], rfl, rfl, rfl⟩⟩
    · exact et_or (x := false) (et_not (x := true) (et_B (ev_call (P := P_law_whole) (es_cons (it 1 rfl rfl) es_nil) ⟨.int p, rfl, rfl, rfl⟩))) fun _ => et_not (x := true) (et_B (ev_call (P := P_law_whole) (es_cons (it 3 rfl rfl) es_nil) ⟨.int k, rfl, rfl, rfl⟩))
  refine s_ret (d := .bl true) (ev_is (ev_all (bs := List.replicate e.length true) (rd_of_evo (eo_is (eo_lc (n := e.length) (f := fun i => ((e.map (·.1)).map PD.str).getD i .non) (fun _ => true) (fun _ => .bl true) (ei_is (ei_list (evd_of_evo (o := .lst ((e.map (·.1)).map PD.str)) (eo_is (eo_listD (kds := encD e) (rd_dic (it 2 rfl rfl))) (by rw [keys_pd])))) (by rw [List.length_map, List.length_map]) fun _ _ => rfl) (by omega) fun i hi => ?_) (by rw [given_true3])))) (by rw [all_true3])) rfl
  have ex := List.getElem?_eq_getElem hi
  have e1 : ((e.map (·.1)).map PD.str).getD i .non = .str e[i].1 := by rw [List.getD_eq_getElem?_getD, List.getElem?_map, List.getElem?_map, ex]; rfl
  have hg := nd_get hnd e[i] (List.getElem_mem hi)
  rw [e1]
  exact ⟨_, _, eg_name rfl, fun j hj => hj, et_yes, fun _ => ev_is (ev_andV (x := true) (y := true) (ev_isi (d := .str e[i].1) (ev_var rfl) rfl) fun _ => ev_call (P := P_law_whole) (es_cons (ev_dget (z := e[i].1) (d := .int e[i].2) (rd_dic (it 2 rfl rfl)) (ev_var rfl) (by rw [look_enc, hg]; rfl)) es_nil) ⟨.int e[i].2, rfl, rfl, rfl⟩) rfl⟩
end
def t_law (K : FK) : TS := tSeq (tAsg (tCall (sp_law_program K) [] E0 (tCons (tVar 0) (tNil))) (gName 1)) (tSeq (tAsg (tCall (sp_law_most K) [] E0 (tCons (tVar 0) (tNil))) (gName 2)) (tSeq (tAsg (tCall (sp_law_plain K) [] E0 (tCons (tVar 1) (tCons (tVar 2) (tNil)))) (gName 3)) (tSeq (tAsg (tOp (rIxL K) (tVar 3) (tUn (rU fun i => .int (-i)) (tC (.int 1)))) (gName 4)) (tSeq (tAsg (tTup (tCons (tOp (rIxT K) (tVar 4) (tC (.int 2))) (tCons (tOp (rIxT K) (tVar 4) (tC (.int 0))) (tCons (tOp (rIxT K) (tVar 4) (tC (.int 1))) (tCons (tOp rSubI (tCB (rLenS K) (tCons (tVar 3) (tNil))) (tC (.int 1))) (tNil)))))) (gName 5)) (tSeq (tAsg (tCB (rListOf K) (tCons (tVar 1) (tNil))) (gName 6)) (tSeq (tAsg (tCall (sp_plain K) [] E0 (tCons (tVar 6) (tCons (tVar 2) (tNil)))) (gName 7)) (tSeq (tIfS (tOr (tNot (tB (tCall (sp_law_bits K) [] E0 (tCons (tVar 7) (tNil))))) (tTest (tOp (Fw.rNeW K) (tVar 7) (tVar 5)))) (tRet (tC (.bl false))) (tNext)) (tSeq (tDrop (tBM K "list" rAppend (tOp (rIxT K) (tVar 7) (tC (.int 0))) (tCons (tC (.int 1)) (tNil)))) (tSeq (tDrop (tBM0 K "dict" rDClear (tOp (rIxT K) (tVar 7) (tC (.int 2))))) (tRet (tAndV (tOp (Fw.rEqW K) (tCall (sp_plain K) [] E0 (tCons (tVar 6) (tCons (tVar 2) (tNil)))) (tVar 5)) (tCall (sp_law_alike K) [] E0 (tCons (tVar 6) (tCons (tVar 1) (tNil)))))))))))))))
section
variable {K : FK} {δ : AE} {ta tb : TE} {P : Post}
theorem most_le (c : Int) : ((([0, 1, 17, 60, 120, 200, 260, c / 8 % 301] : List Int).getD (c % 8).toNat 0).toNat) ≤ 400 := by
  have h : (c % 8).toNat < 8 := by omega
  generalize (c % 8).toNat = j at h
  match j, h with
  | 0, _ => exact Nat.le_of_ble_eq_true rfl
  | 1, _ => exact Nat.le_of_ble_eq_true rfl
  | 2, _ => exact Nat.le_of_ble_eq_true rfl
  | 3, _ => exact Nat.le_of_ble_eq_true rfl
  | 4, _ => exact Nat.le_of_ble_eq_true rfl
  | 5, _ => exact Nat.le_of_ble_eq_true rfl
  | 6, _ => exact Nat.le_of_ble_eq_true rfl
  | 7, _ => show (c / 8 % 301).toNat ≤ 400; omega
  | n + 8, h => omega
theorem at_last {xs : List PD} {d : PD} (h : xs.getLast? = some d) : atI xs (-1) = some d := by
  obtain ⟨ys, rfl⟩ := List.getLast?_eq_some_iff.mp h
  exact last_at
theorem sx_law (ds : List PD) (r : Rt) (h : P_law ds r) : Sx K (t_law K) (ae 8 ds) (Gives r) := by
  obtain ⟨ns, hns, rfl, rfl⟩ := h
  unfold t_law
  have hp := prog_ok ns
  refine q_asgO (o := .lst ((program ns).map Row.pd)) (eo_call (P := P_law_program) (es_cons (ev_var rfl) es_nil) ⟨ns, hns, rfl, rfl⟩) (q_share (i := 1) rfl ?_)
  generalize program ns = rows at hp ⊢
  have hm := most_le (cell ns 1)
  refine q_asg (d := .int (((([0, 1, 17, 60, 120, 200, 260, cell ns 1 / 8 % 301] : List Int).getD (cell ns 1 % 8).toNat 0).toNat : Nat) : Int)) (ev_call (P := P_law_most) (es_cons (ev_var rfl) es_nil) ⟨ns, rfl, rfl⟩) rfl ?_
  generalize ((([0, 1, 17, 60, 120, 200, 260, cell ns 1 / 8 % 301] : List Int).getD (cell ns 1 % 8).toNat 0).toNat) = most at hm ⊢
  refine q_asgO (o := .lst ((stands rows most (start2 rows)).map pdS)) (eo_call (P := P_law_plain) (es_cons (ev_var rfl) (es_cons (ev_var rfl) es_nil)) ⟨rows, most, hp, hm, rfl, rfl⟩) (q_share (i := 3) rfl ?_)
  obtain ⟨l1, l2⟩ := stands_last rows most (start2 rows) 0
  have sl := stands_len rows most (start2 rows)
  obtain ⟨q1, q2⟩ := (starts hp).final most 0
  obtain ⟨g1, g2⟩ := final_good hp most (start1 rows) 0 (good1 hp)
  obtain ⟨g3, g4⟩ := final_good hp most (start2 rows) 0 (good2 hp)
  have hP : P_plain [.lst (rows.map Row.pd), .int most] (.otup (finalC (final rows most (start1 rows) 0))) := ⟨rows, most, hp, hm, rfl, rfl⟩
  revert hP
  generalize final rows most (start1 rows) 0 = F at *
  generalize final rows most (start2 rows) 0 = L at *
  intro hP
  obtain ⟨⟨p1, e1, t1⟩, k1⟩ := F
  obtain ⟨⟨p2, e2, t2⟩, k2⟩ := L
  obtain ⟨qp, qe, qt⟩ := q1
  have qp : p1 = p2 := qp
  have qt : t1 = t2 := qt
  have qe : QE e1 e2 := qe
  have q2 : k1 = k2 := q2
  subst qp qt q2
  have hel : e1.length ≤ 600 + k1 := g1.el
  have htl : t1.length ≤ k1 := g1.tl
  have hnd : Nd e1 := g1.nd
  have g2 : k1 ≤ 0 + most := g2
  have l1 : (stands rows most (start2 rows)).getLast? = some (p1, e2, t1) := l1
  have l2 : 0 + (stands rows most (start2 rows)).length = k1 + 1 := l2
  have hz : e1.length ≤ 10000 := by omega
  have hq : EqNE e1 e2 := qe.eq hz
  generalize stands rows most (start2 rows) = ST at *
  refine q_asg (d := .tup [.int (p1 : Nat), .dic (encD e2), .lst (t1.map PD.int)]) (ev_ixL (ds := ST.map pdS) (rd_lst (ev_var rfl)) (ev_neg (ev_int 1)) (at_last (by rw [List.getLast?_map, l1]; rfl))) rfl ?_
  have due : ∀ {D : AE} (j : Nat) {d : PD}, D[4]? = some (.sh (.tup [.int (p1 : Nat), .dic (encD e2), .lst (t1.map PD.int)])) → ([.int (p1 : Nat), .dic (encD e2), .lst (t1.map PD.int)] : List PD)[j]? = some d → Evd K (tOp (rIxT K) (tVar 4) (tC (.int (j : Int)))) D d := fun {D} j {d} h hj => ev_ixT (ev_var h) (ev_int _) (atI_nat hj)
  refine q_asg (d := .tup [.lst (t1.map PD.int), .int (p1 : Nat), .dic (encD e2), .int (k1 : Nat)]) (ev_tup (es_cons (due 2 rfl rfl) (es_cons (due 0 rfl rfl) (es_cons (due 1 rfl rfl) (es_cons (ev_is (e_sub (ev_lenL (ds := ST.map pdS) (rd_lst (ev_var rfl))) (ev_int 1)) ?_) es_nil)))) (Nat.le_of_ble_eq_true rfl)) rfl ?_
  · rw [List.length_map, show ST.length = k1 + 1 by omega]
    congr 1
    omega
  refine q_asgO (o := .lst (rows.map Row.pd)) (eo_listL (rd_lst (ev_var rfl))) (q_share (i := 6) rfl ?_)
  refine q_asgT (PP := P_plain) (cs := finalC ((p1, e1, t1), k1)) rfl (by show 7 < 8; decide) (es_cons (ev_var rfl) (es_cons (ev_var rfl) es_nil)) hP ?_
  have pr : Paired (EqP 3) [.lst (t1.map PD.int), .int (p1 : Nat), .dic (encD e1), .int (k1 : Nat)] [.lst (t1.map PD.int), .int (p1 : Nat), .dic (encD e2), .int (k1 : Nat)] := .cons (eqP_ints _) (.cons (eqP_flat rfl) (.cons (eqP_enc hq) (.cons (eqP_flat rfl) .nil)))
  show OTx K _ [.sh (.scr ns), .sh (.lst (rows.map Row.pd)), .sh (.int most), .sh (.lst (ST.map pdS)), .sh (.tup [.int (p1 : Nat), .dic (encD e2), .lst (t1.map PD.int)]), .sh (.tup [.lst (t1.map PD.int), .int (p1 : Nat), .dic (encD e2), .int (k1 : Nat)]), .sh (.lst (rows.map Row.pd)), .no] 7 _ _
  refine ot_if rfl (by show 7 < 8; decide) (et_or (x := false) (y := false) (et_not (x := true) (et_B (ev_call (P := P_law_bits) (es_cons (ev_var rfl) es_nil) ⟨t1, (p1 : Nat), (k1 : Nat), e1, by omega, by omega, hnd, rfl, rfl⟩))) fun _ => et_test (ev_neW (xs := [.lst (t1.map PD.int), .int (p1 : Nat), .dic (encD e1), .int (k1 : Nat)]) (n := 3) (ev_var rfl) (ev_var rfl) pr (by decide))) ?_
  refine ot_app (j := 0) (k := 0) (ds := t1.map PD.int) rfl rfl rfl (ev_int 1) (by rw [List.length_map]; omega) ?_
  refine ot_clearD (j := 2) (k := 2) (ds := encD e1) rfl rfl rfl ?_
  refine ot_forget ?_
  refine s_ret (d := .bl true) (ev_is (ev_andV (x := true) (y := true) (ev_eqW (n := 3) (a := .tup [.lst (t1.map PD.int), .int (p1 : Nat), .dic (encD e1), .int (k1 : Nat)]) (ev_callT (PP := P_plain) (cs := finalC ((p1, e1, t1), k1)) (es_cons (ev_var rfl) (es_cons (ev_var rfl) es_nil)) hP) (ev_var rfl) (Or.inr (Or.inl ⟨_, _, rfl, rfl, pr⟩)) (by decide) rfl rfl) fun _ => ev_call (P := P_law_alike) (es_cons (ev_var rfl) (es_cons (ev_var rfl) es_nil)) ⟨rows, hp, rfl, rfl⟩) rfl) rfl
end
section
variable {K : FK}
theorem len_is_name (vs : List V) (H : Hp) (Q : VK) (E : XK) (h : sp_is_name K vs H Q E) : vs.length = 1 := spP_len (fun ds r h => by
  unfold P_is_name at h
  repeat obtain ⟨_, h⟩ := h
  subst_vars
  rfl) vs H Q E h
theorem rd_is_name (f_tn : TnT K) (vs : List V) (H : Hp) (Q : VK) (E : XK) (h : sp_is_name K vs H Q E) : t_is_name K { nx := fun _ H' => Q .non H', rt := Q } (L2.start ["part"] vs) H := def_ok (N := ["part"]) (fun ds r h => sx_is_name f_tn ds r h) vs H Q E h
theorem len_is_whole (vs : List V) (H : Hp) (Q : VK) (E : XK) (h : sp_is_whole K vs H Q E) : vs.length = 1 := spP_len (fun ds r h => by
  unfold P_is_whole at h
  repeat obtain ⟨_, h⟩ := h
  subst_vars
  rfl) vs H Q E h
theorem rd_is_whole (vs : List V) (H : Hp) (Q : VK) (E : XK) (h : sp_is_whole K vs H Q E) : t_is_whole K { nx := fun _ H' => Q .non H', rt := Q } (L2.start ["part"] vs) H := def_ok (N := ["part"]) (fun ds r h => sx_is_whole ds r h) vs H Q E h
theorem len_is_number (vs : List V) (H : Hp) (Q : VK) (E : XK) (h : sp_is_number K vs H Q E) : vs.length = 1 := spP_len (fun ds r h => by
  unfold P_is_number at h
  repeat obtain ⟨_, h⟩ := h
  subst_vars
  rfl) vs H Q E h
theorem rd_is_number (vs : List V) (H : Hp) (Q : VK) (E : XK) (h : sp_is_number K vs H Q E) : t_is_number K { nx := fun _ H' => Q .non H', rt := Q } (L2.start ["part"] vs) H := def_ok (N := ["part"]) (fun ds r h => sx_is_number ds r h) vs H Q E h
theorem len_is_part (vs : List V) (H : Hp) (Q : VK) (E : XK) (h : sp_is_part K vs H Q E) : vs.length = 2 := spP_len (fun ds r h => by
  unfold P_is_part at h
  repeat obtain ⟨_, h⟩ := h
  subst_vars
  rfl) vs H Q E h
theorem rd_is_part (vs : List V) (H : Hp) (Q : VK) (E : XK) (h : sp_is_part K vs H Q E) : t_is_part K { nx := fun _ H' => Q .non H', rt := Q } (L2.start ["part", "kind"] vs) H := def_ok (N := ["part", "kind"]) (fun ds r h => sx_is_part ds r h) vs H Q E h
theorem len_is_row (vs : List V) (H : Hp) (Q : VK) (E : XK) (h : sp_is_row K vs H Q E) : vs.length = 1 := spP_len (fun ds r h => by
  unfold P_is_row at h
  repeat obtain ⟨_, h⟩ := h
  subst_vars
  rfl) vs H Q E h
theorem rd_is_row (f_sh : ShT K) (f_tn : TnT K) (vs : List V) (H : Hp) (Q : VK) (E : XK) (h : sp_is_row K vs H Q E) : t_is_row K { nx := fun _ H' => Q .non H', rt := Q } (L2.start ["row", "shape"] vs) H := def_ok (N := ["row", "shape"]) (fun ds r h => sx_is_row f_sh f_tn ds r h) vs H Q E h
theorem len_has_its_place (vs : List V) (H : Hp) (Q : VK) (E : XK) (h : sp_has_its_place K vs H Q E) : vs.length = 2 := spP_len (fun ds r h => by
  unfold P_has_its_place at h
  repeat obtain ⟨_, h⟩ := h
  subst_vars
  rfl) vs H Q E h
theorem rd_has_its_place (vs : List V) (H : Hp) (Q : VK) (E : XK) (h : sp_has_its_place K vs H Q E) : t_has_its_place K { nx := fun _ H' => Q .non H', rt := Q } (L2.start ["row", "many"] vs) H := def_ok (N := ["row", "many"]) (fun ds r h => sx_has_its_place ds r h) vs H Q E h
theorem len_checked (vs : List V) (H : Hp) (Q : VK) (E : XK) (h : sp_checked K vs H Q E) : vs.length = 1 := spP_len (fun ds r h => by
  unfold P_checked at h
  repeat obtain ⟨_, h⟩ := h
  subst_vars
  rfl) vs H Q E h
theorem rd_checked (vs : List V) (H : Hp) (Q : VK) (E : XK) (h : sp_checked K vs H Q E) : t_checked K { nx := fun _ H' => Q .non H', rt := Q } (L2.start ["rows", "at", "row"] vs) H := def_ok (N := ["rows", "at", "row"]) (fun ds r h => sx_checked ds r h) vs H Q E h
theorem len_names_of (vs : List V) (H : Hp) (Q : VK) (E : XK) (h : sp_names_of K vs H Q E) : vs.length = 1 := spP_len (fun ds r h => by
  unfold P_names_of at h
  repeat obtain ⟨_, h⟩ := h
  subst_vars
  rfl) vs H Q E h
theorem rd_names_of (f_sh : ShT K) (vs : List V) (H : Hp) (Q : VK) (E : XK) (h : sp_names_of K vs H Q E) : t_names_of K { nx := fun _ H' => Q .non H', rt := Q } (L2.start ["row", "part", "kind"] vs) H := def_ok (N := ["row", "part", "kind"]) (fun ds r h => sx_names_of f_sh ds r h) vs H Q E h
theorem len_names_in (vs : List V) (H : Hp) (Q : VK) (E : XK) (h : sp_names_in K vs H Q E) : vs.length = 1 := spP_len (fun ds r h => by
  unfold P_names_in at h
  repeat obtain ⟨_, h⟩ := h
  subst_vars
  rfl) vs H Q E h
theorem rd_names_in (vs : List V) (H : Hp) (Q : VK) (E : XK) (h : sp_names_in K vs H Q E) : t_names_in K { nx := fun _ H' => Q .non H', rt := Q } (L2.start ["rows", "row", "name"] vs) H := def_ok (N := ["rows", "row", "name"]) (fun ds r h => sx_names_in ds r h) vs H Q E h
theorem len_outcome (vs : List V) (H : Hp) (Q : VK) (E : XK) (h : sp_outcome K vs H Q E) : vs.length = 3 := spP_len (fun ds r h => by
  unfold P_outcome at h
  repeat obtain ⟨_, h⟩ := h
  subst_vars
  rfl) vs H Q E h
theorem rd_outcome (vs : List V) (H : Hp) (Q : VK) (E : XK) (h : sp_outcome K vs H Q E) : t_outcome K { nx := fun _ H' => Q .non H', rt := Q } (L2.start ["word", "one", "other"] vs) H := def_ok (N := ["word", "one", "other"]) (fun ds r h => sx_outcome ds r h) vs H Q E h
theorem len_held (vs : List V) (H : Hp) (Q : VK) (E : XK) (h : sp_held K vs H Q E) : vs.length = 2 := spP_len (fun ds r h => by
  unfold P_held at h
  repeat obtain ⟨_, h⟩ := h
  subst_vars
  rfl) vs H Q E h
theorem rd_held (vs : List V) (H : Hp) (Q : VK) (E : XK) (h : sp_held K vs H Q E) : t_held K { nx := fun _ H' => Q .non H', rt := Q } (L2.start ["source", "names"] vs) H := def_ok (N := ["source", "names"]) (fun ds r h => sx_held ds r h) vs H Q E h
theorem len_number_for (vs : List V) (H : Hp) (Q : VK) (E : XK) (h : sp_number_for K vs H Q E) : vs.length = 2 := spP_len (fun ds r h => by
  unfold P_number_for at h
  repeat obtain ⟨_, h⟩ := h
  subst_vars
  rfl) vs H Q E h
theorem rd_number_for (vs : List V) (H : Hp) (Q : VK) (E : XK) (h : sp_number_for K vs H Q E) : t_number_for K { nx := fun _ H' => Q .non H', rt := Q } (L2.start ["row", "names"] vs) H := def_ok (N := ["row", "names"]) (fun ds r h => sx_number_for ds r h) vs H Q E h
theorem len_is_over (vs : List V) (H : Hp) (Q : VK) (E : XK) (h : sp_is_over K vs H Q E) : vs.length = 2 := spP_len (fun ds r h => by
  unfold P_is_over at h
  repeat obtain ⟨_, h⟩ := h
  subst_vars
  rfl) vs H Q E h
theorem rd_is_over (vs : List V) (H : Hp) (Q : VK) (E : XK) (h : sp_is_over K vs H Q E) : t_is_over K { nx := fun _ H' => Q .non H', rt := Q } (L2.start ["rows", "place"] vs) H := def_ok (N := ["rows", "place"]) (fun ds r h => sx_is_over ds r h) vs H Q E h
theorem len_plain (vs : List V) (H : Hp) (Q : VK) (E : XK) (h : sp_plain K vs H Q E) : vs.length = 2 := spP_len (fun ds r h => by
  unfold P_plain at h
  repeat obtain ⟨_, h⟩ := h
  subst_vars
  rfl) vs H Q E h
theorem rd_plain (vs : List V) (H : Hp) (Q : VK) (E : XK) (h : sp_plain K vs H Q E) : t_plain K { nx := fun _ H' => Q .non H', rt := Q } (L2.start ["rows", "most", "names", "told", "place", "steps", "name"] vs) H := def_ok (N := ["rows", "most", "names", "told", "place", "steps", "name"]) (fun ds r h => sx_plain ds r h) vs H Q E h
theorem len_law_cell_at (vs : List V) (H : Hp) (Q : VK) (E : XK) (h : sp_law_cell_at K vs H Q E) : vs.length = 2 := spP_len (fun ds r h => by
  unfold P_law_cell_at at h
  repeat obtain ⟨_, h⟩ := h
  subst_vars
  rfl) vs H Q E h
theorem rd_law_cell_at (vs : List V) (H : Hp) (Q : VK) (E : XK) (h : sp_law_cell_at K vs H Q E) : t_law_cell_at K { nx := fun _ H' => Q .non H', rt := Q } (L2.start ["_law_script", "_law_k"] vs) H := def_ok (N := ["_law_script", "_law_k"]) (fun ds r h => sx_law_cell_at ds r h) vs H Q E h
theorem len_law_whole (vs : List V) (H : Hp) (Q : VK) (E : XK) (h : sp_law_whole K vs H Q E) : vs.length = 1 := spP_len (fun ds r h => by
  unfold P_law_whole at h
  repeat obtain ⟨_, h⟩ := h
  subst_vars
  rfl) vs H Q E h
theorem rd_law_whole (vs : List V) (H : Hp) (Q : VK) (E : XK) (h : sp_law_whole K vs H Q E) : t_law_whole K { nx := fun _ H' => Q .non H', rt := Q } (L2.start ["_law_found"] vs) H := def_ok (N := ["_law_found"]) (fun ds r h => sx_law_whole ds r h) vs H Q E h
theorem len_law_names (vs : List V) (H : Hp) (Q : VK) (E : XK) (h : sp_law_names K vs H Q E) : vs.length = 1 := spP_len (fun ds r h => by
  unfold P_law_names at h
  repeat obtain ⟨_, h⟩ := h
  subst_vars
  rfl) vs H Q E h
theorem rd_law_names (vs : List V) (H : Hp) (Q : VK) (E : XK) (h : sp_law_names K vs H Q E) : t_law_names K { nx := fun _ H' => Q .non H', rt := Q } (L2.start ["_law_cell", "_law_letters", "_law_size", "_law_found", "_law_k", "_law_sign", "_law_place", "_law_ahead", "_law_behind"] vs) H := def_ok (N := ["_law_cell", "_law_letters", "_law_size", "_law_found", "_law_k", "_law_sign", "_law_place", "_law_ahead", "_law_behind"]) (fun ds r h => sx_law_names ds r h) vs H Q E h
theorem len_law_number (vs : List V) (H : Hp) (Q : VK) (E : XK) (h : sp_law_number K vs H Q E) : vs.length = 1 := spP_len (fun ds r h => by
  unfold P_law_number at h
  repeat obtain ⟨_, h⟩ := h
  subst_vars
  rfl) vs H Q E h
theorem rd_law_number (vs : List V) (H : Hp) (Q : VK) (E : XK) (h : sp_law_number K vs H Q E) : t_law_number K { nx := fun _ H' => Q .non H', rt := Q } (L2.start ["_law_cell"] vs) H := def_ok (N := ["_law_cell"]) (fun ds r h => sx_law_number ds r h) vs H Q E h
theorem len_law_straight (vs : List V) (H : Hp) (Q : VK) (E : XK) (h : sp_law_straight K vs H Q E) : vs.length = 3 := spP_len (fun ds r h => by
  unfold P_law_straight at h
  repeat obtain ⟨_, h⟩ := h
  subst_vars
  rfl) vs H Q E h
theorem rd_law_straight (vs : List V) (H : Hp) (Q : VK) (E : XK) (h : sp_law_straight K vs H Q E) : t_law_straight K { nx := fun _ H' => Q .non H', rt := Q } (L2.start ["_law_way", "_law_cell", "_law_names_here", "_law_name", "_law_one", "_law_other", "_law_word"] vs) H := def_ok (N := ["_law_way", "_law_cell", "_law_names_here", "_law_name", "_law_one", "_law_other", "_law_word"]) (fun ds r h => sx_law_straight ds r h) vs H Q E h
theorem len_law_body (vs : List V) (H : Hp) (Q : VK) (E : XK) (h : sp_law_body K vs H Q E) : vs.length = 5 := spP_len (fun ds r h => by
  unfold P_law_body at h
  repeat obtain ⟨_, h⟩ := h
  subst_vars
  rfl) vs H Q E h
theorem rd_law_body (vs : List V) (H : Hp) (Q : VK) (E : XK) (h : sp_law_body K vs H Q E) : t_law_body K { nx := fun _ H' => Q .non H', rt := Q } (L2.start ["_law_script", "_law_first", "_law_size", "_law_names_here", "_law_start", "_law_rows", "_law_k", "_law_way", "_law_cell"] vs) H := def_ok (N := ["_law_script", "_law_first", "_law_size", "_law_names_here", "_law_start", "_law_rows", "_law_k", "_law_way", "_law_cell"]) (fun ds r h => sx_law_body ds r h) vs H Q E h
theorem len_law_wild (vs : List V) (H : Hp) (Q : VK) (E : XK) (h : sp_law_wild K vs H Q E) : vs.length = 4 := spP_len (fun ds r h => by
  unfold P_law_wild at h
  repeat obtain ⟨_, h⟩ := h
  subst_vars
  rfl) vs H Q E h
theorem rd_law_wild (vs : List V) (H : Hp) (Q : VK) (E : XK) (h : sp_law_wild K vs H Q E) : t_law_wild K { nx := fun _ H' => Q .non H', rt := Q } (L2.start ["_law_script", "_law_first", "_law_size", "_law_names_here", "_law_rows", "_law_k", "_law_way", "_law_cell"] vs) H := def_ok (N := ["_law_script", "_law_first", "_law_size", "_law_names_here", "_law_rows", "_law_k", "_law_way", "_law_cell"]) (fun ds r h => sx_law_wild ds r h) vs H Q E h
theorem len_law_turn (vs : List V) (H : Hp) (Q : VK) (E : XK) (h : sp_law_turn K vs H Q E) : vs.length = 2 := spP_len (fun ds r h => by
  unfold P_law_turn at h
  repeat obtain ⟨_, h⟩ := h
  subst_vars
  rfl) vs H Q E h
theorem rd_law_turn (vs : List V) (H : Hp) (Q : VK) (E : XK) (h : sp_law_turn K vs H Q E) : t_law_turn K { nx := fun _ H' => Q .non H', rt := Q } (L2.start ["_law_count", "_law_names_here", "_law_rows"] vs) H := def_ok (N := ["_law_count", "_law_names_here", "_law_rows"]) (fun ds r h => sx_law_turn ds r h) vs H Q E h
theorem len_law_program (vs : List V) (H : Hp) (Q : VK) (E : XK) (h : sp_law_program K vs H Q E) : vs.length = 1 := spP_len (fun ds r h => by
  unfold P_law_program at h
  repeat obtain ⟨_, h⟩ := h
  subst_vars
  rfl) vs H Q E h
theorem rd_law_program (vs : List V) (H : Hp) (Q : VK) (E : XK) (h : sp_law_program K vs H Q E) : t_law_program K { nx := fun _ H' => Q .non H', rt := Q } (L2.start ["_law_script", "_law_names_here", "_law_size", "_law_count", "_law_way", "_law_ahead", "_law_body_here", "_law_times", "_law_rows", "_law_last", "_law_k"] vs) H := def_ok (N := ["_law_script", "_law_names_here", "_law_size", "_law_count", "_law_way", "_law_ahead", "_law_body_here", "_law_times", "_law_rows", "_law_last", "_law_k"]) (fun ds r h => sx_law_program ds r h) vs H Q E h
theorem len_law_most (vs : List V) (H : Hp) (Q : VK) (E : XK) (h : sp_law_most K vs H Q E) : vs.length = 1 := spP_len (fun ds r h => by
  unfold P_law_most at h
  repeat obtain ⟨_, h⟩ := h
  subst_vars
  rfl) vs H Q E h
theorem rd_law_most (vs : List V) (H : Hp) (Q : VK) (E : XK) (h : sp_law_most K vs H Q E) : t_law_most K { nx := fun _ H' => Q .non H', rt := Q } (L2.start ["_law_script", "_law_cell"] vs) H := def_ok (N := ["_law_script", "_law_cell"]) (fun ds r h => sx_law_most ds r h) vs H Q E h
theorem len_law_value (vs : List V) (H : Hp) (Q : VK) (E : XK) (h : sp_law_value K vs H Q E) : vs.length = 2 := spP_len (fun ds r h => by
  unfold P_law_value at h
  repeat obtain ⟨_, h⟩ := h
  subst_vars
  rfl) vs H Q E h
theorem rd_law_value (vs : List V) (H : Hp) (Q : VK) (E : XK) (h : sp_law_value K vs H Q E) : t_law_value K { nx := fun _ H' => Q .non H', rt := Q } (L2.start ["_law_names_here", "_law_source"] vs) H := def_ok (N := ["_law_names_here", "_law_source"]) (fun ds r h => sx_law_value ds r h) vs H Q E h
theorem len_law_done (vs : List V) (H : Hp) (Q : VK) (E : XK) (h : sp_law_done K vs H Q E) : vs.length = 2 := spP_len (fun ds r h => by
  unfold P_law_done at h
  repeat obtain ⟨_, h⟩ := h
  subst_vars
  rfl) vs H Q E h
theorem rd_law_done (vs : List V) (H : Hp) (Q : VK) (E : XK) (h : sp_law_done K vs H Q E) : t_law_done K { nx := fun _ H' => Q .non H', rt := Q } (L2.start ["_law_row", "_law_names_here", "_law_found", "_law_one", "_law_other", "_law_come"] vs) H := def_ok (N := ["_law_row", "_law_names_here", "_law_found", "_law_one", "_law_other", "_law_come"]) (fun ds r h => sx_law_done ds r h) vs H Q E h
theorem len_law_told (vs : List V) (H : Hp) (Q : VK) (E : XK) (h : sp_law_told K vs H Q E) : vs.length = 2 := spP_len (fun ds r h => by
  unfold P_law_told at h
  repeat obtain ⟨_, h⟩ := h
  subst_vars
  rfl) vs H Q E h
theorem rd_law_told (vs : List V) (H : Hp) (Q : VK) (E : XK) (h : sp_law_told K vs H Q E) : t_law_told K { nx := fun _ H' => Q .non H', rt := Q } (L2.start ["_law_row", "_law_names_here"] vs) H := def_ok (N := ["_law_row", "_law_names_here"]) (fun ds r h => sx_law_told ds r h) vs H Q E h
theorem len_law_step (vs : List V) (H : Hp) (Q : VK) (E : XK) (h : sp_law_step K vs H Q E) : vs.length = 3 := spP_len (fun ds r h => by
  unfold P_law_step at h
  repeat obtain ⟨_, h⟩ := h
  subst_vars
  rfl) vs H Q E h
theorem rd_law_step (vs : List V) (H : Hp) (Q : VK) (E : XK) (h : sp_law_step K vs H Q E) : t_law_step K { nx := fun _ H' => Q .non H', rt := Q } (L2.start ["_law_rows", "_law_place", "_law_names_here", "_law_row"] vs) H := def_ok (N := ["_law_rows", "_law_place", "_law_names_here", "_law_row"]) (fun ds r h => sx_law_step ds r h) vs H Q E h
theorem len_law_over (vs : List V) (H : Hp) (Q : VK) (E : XK) (h : sp_law_over K vs H Q E) : vs.length = 2 := spP_len (fun ds r h => by
  unfold P_law_over at h
  repeat obtain ⟨_, h⟩ := h
  subst_vars
  rfl) vs H Q E h
theorem rd_law_over (vs : List V) (H : Hp) (Q : VK) (E : XK) (h : sp_law_over K vs H Q E) : t_law_over K { nx := fun _ H' => Q .non H', rt := Q } (L2.start ["_law_rows", "_law_place"] vs) H := def_ok (N := ["_law_rows", "_law_place"]) (fun ds r h => sx_law_over ds r h) vs H Q E h
theorem len_law_all (vs : List V) (H : Hp) (Q : VK) (E : XK) (h : sp_law_all K vs H Q E) : vs.length = 1 := spP_len (fun ds r h => by
  unfold P_law_all at h
  repeat obtain ⟨_, h⟩ := h
  subst_vars
  rfl) vs H Q E h
theorem rd_law_all (vs : List V) (H : Hp) (Q : VK) (E : XK) (h : sp_law_all K vs H Q E) : t_law_all K { nx := fun _ H' => Q .non H', rt := Q } (L2.start ["_law_rows", "_law_found", "_law_row", "_law_part"] vs) H := def_ok (N := ["_law_rows", "_law_found", "_law_row", "_law_part"]) (fun ds r h => sx_law_all ds r h) vs H Q E h
theorem len_law_plain (vs : List V) (H : Hp) (Q : VK) (E : XK) (h : sp_law_plain K vs H Q E) : vs.length = 2 := spP_len (fun ds r h => by
  unfold P_law_plain at h
  repeat obtain ⟨_, h⟩ := h
  subst_vars
  rfl) vs H Q E h
theorem rd_law_plain (vs : List V) (H : Hp) (Q : VK) (E : XK) (h : sp_law_plain K vs H Q E) : t_law_plain K { nx := fun _ H' => Q .non H', rt := Q } (L2.start ["_law_rows", "_law_most_here", "_law_found", "_law_step_here"] vs) H := def_ok (N := ["_law_rows", "_law_most_here", "_law_found", "_law_step_here"]) (fun ds r h => sx_law_plain ds r h) vs H Q E h
theorem len_law_bits (vs : List V) (H : Hp) (Q : VK) (E : XK) (h : sp_law_bits K vs H Q E) : vs.length = 1 := spP_len (fun ds r h => by
  unfold P_law_bits at h
  repeat obtain ⟨_, h⟩ := h
  subst_vars
  rfl) vs H Q E h
theorem rd_law_bits (vs : List V) (H : Hp) (Q : VK) (E : XK) (h : sp_law_bits K vs H Q E) : t_law_bits K { nx := fun _ H' => Q .non H', rt := Q } (L2.start ["_law_found", "_law_name", "_law_number_here"] vs) H := def_ok (N := ["_law_found", "_law_name", "_law_number_here"]) (fun ds r h => sx_law_bits ds r h) vs H Q E h
theorem len_law_alike (vs : List V) (H : Hp) (Q : VK) (E : XK) (h : sp_law_alike K vs H Q E) : vs.length = 2 := spP_len (fun ds r h => by
  unfold P_law_alike at h
  repeat obtain ⟨_, h⟩ := h
  subst_vars
  rfl) vs H Q E h
theorem rd_law_alike (vs : List V) (H : Hp) (Q : VK) (E : XK) (h : sp_law_alike K vs H Q E) : t_law_alike K { nx := fun _ H' => Q .non H', rt := Q } (L2.start ["_law_rows", "_law_kept"] vs) H := def_ok (N := ["_law_rows", "_law_kept"]) (fun ds r h => sx_law_alike ds r h) vs H Q E h
theorem len_law (vs : List V) (H : Hp) (Q : VK) (E : XK) (h : sp_law K vs H Q E) : vs.length = 1 := spP_len (fun ds r h => by
  unfold P_law at h
  repeat obtain ⟨_, h⟩ := h
  subst_vars
  rfl) vs H Q E h
theorem rd_law (vs : List V) (H : Hp) (Q : VK) (E : XK) (h : sp_law K vs H Q E) : t_law K { nx := fun _ H' => Q .non H', rt := Q } (L2.start ["_law_script", "_law_rows", "_law_most_here", "_law_standings", "_law_last", "_law_due", "_law_kept", "_law_found"] vs) H := def_ok (N := ["_law_script", "_law_rows", "_law_most_here", "_law_standings", "_law_last", "_law_due", "_law_kept", "_law_found"]) (fun ds r h => sx_law ds r h) vs H Q E h
end
open PySem PySem.Spec PyProof.Rows L2 Fw
def top (i : Nat) : Stmt := PySem.Challenge.pw_tracefold_k03_a_plain_run.main.body.getD i (.Pass ⟨0, 0, 0, 0⟩)
def inClass (st : Stmt) (j : Nat) : Stmt := match st with
  | .ClassDef _ _ _ body _ _ _ _ _ _ _ => body.getD j (.Pass ⟨0, 0, 0, 0⟩)
  | _ => .Pass ⟨0, 0, 0, 0⟩
abbrev s_is_name : Stmt := top 8
abbrev s_is_whole : Stmt := top 9
abbrev s_is_number : Stmt := top 10
abbrev s_is_part : Stmt := top 11
abbrev s_is_row : Stmt := top 12
abbrev s_has_its_place : Stmt := top 13
abbrev s_checked : Stmt := top 14
abbrev s_names_of : Stmt := top 15
abbrev s_names_in : Stmt := top 16
abbrev s_outcome : Stmt := top 18
abbrev s_held : Stmt := top 19
abbrev s_number_for : Stmt := top 20
abbrev s_do_step : Stmt := top 21
abbrev s_is_over : Stmt := top 22
abbrev s_plain : Stmt := top 23
abbrev s_law_cell_at : Stmt := top 25
abbrev s_law_whole : Stmt := top 26
abbrev s_law_names : Stmt := top 27
abbrev s_law_number : Stmt := top 28
abbrev s_law_straight : Stmt := top 29
abbrev s_law_body : Stmt := top 30
abbrev s_law_wild : Stmt := top 31
abbrev s_law_turn : Stmt := top 32
abbrev s_law_program : Stmt := top 33
abbrev s_law_most : Stmt := top 34
abbrev s_law_value : Stmt := top 35
abbrev s_law_done : Stmt := top 36
abbrev s_law_told : Stmt := top 37
abbrev s_law_step : Stmt := top 38
abbrev s_law_over : Stmt := top 39
abbrev s_law_all : Stmt := top 40
abbrev s_law_plain : Stmt := top 41
abbrev s_law_bits : Stmt := top 42
abbrev s_law_alike : Stmt := top 43
abbrev s_law : Stmt := top 44
theorem sc_is_name : FnScope ["part"] ["part"] (defScope s_is_name) := ⟨rfl, rfl, rfl, by decide +kernel, rfl, by decide +kernel, by decide +kernel⟩
theorem sc_is_whole : FnScope ["part"] ["part"] (defScope s_is_whole) := ⟨rfl, rfl, rfl, by decide +kernel, rfl, by decide +kernel, by decide +kernel⟩
theorem sc_is_number : FnScope ["part"] ["part"] (defScope s_is_number) := ⟨rfl, rfl, rfl, by decide +kernel, rfl, by decide +kernel, by decide +kernel⟩
theorem sc_is_part : FnScope ["part", "kind"] ["part", "kind"] (defScope s_is_part) := ⟨rfl, rfl, rfl, by decide +kernel, rfl, by decide +kernel, by decide +kernel⟩
theorem sc_is_row : FnScope ["row", "shape"] ["row"] (defScope s_is_row) := ⟨rfl, rfl, rfl, by decide +kernel, rfl, by decide +kernel, by decide +kernel⟩
theorem sc_has_its_place : FnScope ["row", "many"] ["row", "many"] (defScope s_has_its_place) := ⟨rfl, rfl, rfl, by decide +kernel, rfl, by decide +kernel, by decide +kernel⟩
theorem sc_checked : FnScope ["rows", "at", "row"] ["rows"] (defScope s_checked) := ⟨rfl, rfl, rfl, by decide +kernel, rfl, by decide +kernel, by decide +kernel⟩
theorem sc_names_of : FnScope ["row", "part", "kind"] ["row"] (defScope s_names_of) := ⟨rfl, rfl, rfl, by decide +kernel, rfl, by decide +kernel, by decide +kernel⟩
theorem sc_names_in : FnScope ["rows", "row", "name"] ["rows"] (defScope s_names_in) := ⟨rfl, rfl, rfl, by decide +kernel, rfl, by decide +kernel, by decide +kernel⟩
theorem sc_outcome : FnScope ["word", "one", "other"] ["word", "one", "other"] (defScope s_outcome) := ⟨rfl, rfl, rfl, by decide +kernel, rfl, by decide +kernel, by decide +kernel⟩
theorem sc_held : FnScope ["source", "names"] ["source", "names"] (defScope s_held) := ⟨rfl, rfl, rfl, by decide +kernel, rfl, by decide +kernel, by decide +kernel⟩
theorem sc_number_for : FnScope ["row", "names"] ["row", "names"] (defScope s_number_for) := ⟨rfl, rfl, rfl, by decide +kernel, rfl, by decide +kernel, by decide +kernel⟩
theorem sc_do_step : FnScope ["row", "place", "names", "told"] ["row", "place", "names", "told"] (defScope s_do_step) := ⟨rfl, rfl, rfl, by decide +kernel, rfl, by decide +kernel, by decide +kernel⟩
theorem sc_is_over : FnScope ["rows", "place"] ["rows", "place"] (defScope s_is_over) := ⟨rfl, rfl, rfl, by decide +kernel, rfl, by decide +kernel, by decide +kernel⟩
theorem sc_plain : FnScope ["rows", "most", "names", "told", "place", "steps", "name"] ["rows", "most"] (defScope s_plain) := ⟨rfl, rfl, rfl, by decide +kernel, rfl, by decide +kernel, by decide +kernel⟩
theorem sc_law_cell_at : FnScope ["_law_script", "_law_k"] ["_law_script", "_law_k"] (defScope s_law_cell_at) := ⟨rfl, rfl, rfl, by decide +kernel, rfl, by decide +kernel, by decide +kernel⟩
theorem sc_law_whole : FnScope ["_law_found"] ["_law_found"] (defScope s_law_whole) := ⟨rfl, rfl, rfl, by decide +kernel, rfl, by decide +kernel, by decide +kernel⟩
theorem sc_law_names : FnScope ["_law_cell", "_law_letters", "_law_size", "_law_found", "_law_k", "_law_sign", "_law_place", "_law_ahead", "_law_behind"] ["_law_cell"] (defScope s_law_names) := ⟨rfl, rfl, rfl, by decide +kernel, rfl, by decide +kernel, by decide +kernel⟩
theorem sc_law_number : FnScope ["_law_cell"] ["_law_cell"] (defScope s_law_number) := ⟨rfl, rfl, rfl, by decide +kernel, rfl, by decide +kernel, by decide +kernel⟩
theorem sc_law_straight : FnScope ["_law_way", "_law_cell", "_law_names_here", "_law_name", "_law_one", "_law_other", "_law_word"] ["_law_way", "_law_cell", "_law_names_here"] (defScope s_law_straight) := ⟨rfl, rfl, rfl, by decide +kernel, rfl, by decide +kernel, by decide +kernel⟩
theorem sc_law_body : FnScope ["_law_script", "_law_first", "_law_size", "_law_names_here", "_law_start", "_law_rows", "_law_k", "_law_way", "_law_cell"] ["_law_script", "_law_first", "_law_size", "_law_names_here", "_law_start"] (defScope s_law_body) := ⟨rfl, rfl, rfl, by decide +kernel, rfl, by decide +kernel, by decide +kernel⟩
theorem sc_law_wild : FnScope ["_law_script", "_law_first", "_law_size", "_law_names_here", "_law_rows", "_law_k", "_law_way", "_law_cell"] ["_law_script", "_law_first", "_law_size", "_law_names_here"] (defScope s_law_wild) := ⟨rfl, rfl, rfl, by decide +kernel, rfl, by decide +kernel, by decide +kernel⟩
theorem sc_law_turn : FnScope ["_law_count", "_law_names_here", "_law_rows"] ["_law_count", "_law_names_here"] (defScope s_law_turn) := ⟨rfl, rfl, rfl, by decide +kernel, rfl, by decide +kernel, by decide +kernel⟩
theorem sc_law_program : FnScope ["_law_script", "_law_names_here", "_law_size", "_law_count", "_law_way", "_law_ahead", "_law_body_here", "_law_times", "_law_rows", "_law_last", "_law_k"] ["_law_script"] (defScope s_law_program) := ⟨rfl, rfl, rfl, by decide +kernel, rfl, by decide +kernel, by decide +kernel⟩
theorem sc_law_most : FnScope ["_law_script", "_law_cell"] ["_law_script"] (defScope s_law_most) := ⟨rfl, rfl, rfl, by decide +kernel, rfl, by decide +kernel, by decide +kernel⟩
theorem sc_law_value : FnScope ["_law_names_here", "_law_source"] ["_law_names_here", "_law_source"] (defScope s_law_value) := ⟨rfl, rfl, rfl, by decide +kernel, rfl, by decide +kernel, by decide +kernel⟩
theorem sc_law_done : FnScope ["_law_row", "_law_names_here", "_law_found", "_law_one", "_law_other", "_law_come"] ["_law_row", "_law_names_here"] (defScope s_law_done) := ⟨rfl, rfl, rfl, by decide +kernel, rfl, by decide +kernel, by decide +kernel⟩
theorem sc_law_told : FnScope ["_law_row", "_law_names_here"] ["_law_row", "_law_names_here"] (defScope s_law_told) := ⟨rfl, rfl, rfl, by decide +kernel, rfl, by decide +kernel, by decide +kernel⟩
theorem sc_law_step : FnScope ["_law_rows", "_law_place", "_law_names_here", "_law_row"] ["_law_rows", "_law_place", "_law_names_here"] (defScope s_law_step) := ⟨rfl, rfl, rfl, by decide +kernel, rfl, by decide +kernel, by decide +kernel⟩
theorem sc_law_over : FnScope ["_law_rows", "_law_place"] ["_law_rows", "_law_place"] (defScope s_law_over) := ⟨rfl, rfl, rfl, by decide +kernel, rfl, by decide +kernel, by decide +kernel⟩
theorem sc_law_all : FnScope ["_law_rows", "_law_found", "_law_row", "_law_part"] ["_law_rows"] (defScope s_law_all) := ⟨rfl, rfl, rfl, by decide +kernel, rfl, by decide +kernel, by decide +kernel⟩
theorem sc_law_plain : FnScope ["_law_rows", "_law_most_here", "_law_found", "_law_step_here"] ["_law_rows", "_law_most_here"] (defScope s_law_plain) := ⟨rfl, rfl, rfl, by decide +kernel, rfl, by decide +kernel, by decide +kernel⟩
theorem sc_law_bits : FnScope ["_law_found", "_law_name", "_law_number_here"] ["_law_found"] (defScope s_law_bits) := ⟨rfl, rfl, rfl, by decide +kernel, rfl, by decide +kernel, by decide +kernel⟩
theorem sc_law_alike : FnScope ["_law_rows", "_law_kept"] ["_law_rows", "_law_kept"] (defScope s_law_alike) := ⟨rfl, rfl, rfl, by decide +kernel, rfl, by decide +kernel, by decide +kernel⟩
theorem sc_law : FnScope ["_law_script", "_law_rows", "_law_most_here", "_law_standings", "_law_last", "_law_due", "_law_kept", "_law_found"] ["_law_script"] (defScope s_law) := ⟨rfl, rfl, rfl, by decide +kernel, rfl, by decide +kernel, by decide +kernel⟩
structure Tx (w : World) (K : PySem.W.Frag) (mg : Str → Option Value) : Prop where
  d_is_name : DefAtT K mg "is_name" s_is_name
  d_is_whole : DefAt K mg "is_whole" s_is_whole
  d_is_number : DefAt K mg "is_number" s_is_number
  d_is_part : DefAt K mg "is_part" s_is_part
  d_is_row : DefAtT K mg "is_row" s_is_row
  d_has_its_place : DefAt K mg "has_its_place" s_has_its_place
  d_checked : DefAt K mg "checked" s_checked
  d_names_of : DefAt K mg "names_of" s_names_of
  d_names_in : DefAt K mg "names_in" s_names_in
  d_outcome : DefAt K mg "outcome" s_outcome
  d_held : DefAt K mg "held" s_held
  d_number_for : DefAt K mg "number_for" s_number_for
  d_do_step : DefAt K mg "do_step" s_do_step
  d_is_over : DefAt K mg "is_over" s_is_over
  d_plain : DefAt K mg "plain" s_plain
  d_law_cell_at : DefAt K mg "_law_cell_at" s_law_cell_at
  d_law_whole : DefAt K mg "_law_whole" s_law_whole
  d_law_names : DefAt K mg "_law_names" s_law_names
  d_law_number : DefAt K mg "_law_number" s_law_number
  d_law_straight : DefAt K mg "_law_straight" s_law_straight
  d_law_body : DefAt K mg "_law_body" s_law_body
  d_law_wild : DefAt K mg "_law_wild" s_law_wild
  d_law_turn : DefAt K mg "_law_turn" s_law_turn
  d_law_program : DefAt K mg "_law_program" s_law_program
  d_law_most : DefAt K mg "_law_most" s_law_most
  d_law_value : DefAt K mg "_law_value" s_law_value
  d_law_done : DefAt K mg "_law_done" s_law_done
  d_law_told : DefAt K mg "_law_told" s_law_told
  d_law_step : DefAt K mg "_law_step" s_law_step
  d_law_over : DefAt K mg "_law_over" s_law_over
  d_law_all : DefAt K mg "_law_all" s_law_all
  d_law_plain : DefAt K mg "_law_plain" s_law_plain
  d_law_bits : DefAt K mg "_law_bits" s_law_bits
  d_law_alike : DefAt K mg "_law_alike" s_law_alike
  d_law : DefAt K mg "law" s_law
  m_all : mg "all" = none
  m_bool : mg "bool" = none
  m_dict : mg "dict" = none
  m_enumerate : mg "enumerate" = none
  m_int : mg "int" = none
  m_isinstance : mg "isinstance" = none
  m_len : mg "len" = none
  m_list : mg "list" = none
  m_min : mg "min" = none
  m_range : mg "range" = none
  m_sorted : mg "sorted" = none
  m_str : mg "str" = none
  m_tuple : mg "tuple" = none
  m_zip : mg "zip" = none
  n_MOST_LETTERS : ∃ t, mg "MOST_LETTERS" = some (.int 8 t)
  n_NUMBERS : ∃ t, mg "NUMBERS" = some (.int 1000000 t)
  k_SHAPES : mg "SHAPES" = some (.ref (He.ga K "SHAPES"))
  t_SHAPES : ∃ es n, KDict K w (He.ga K "SHAPES") es n
section
variable {P : Program} {w : World} {K : PySem.W.Frag} {tbs : List Addr} {mg : Str → Option Value} {base : Heap}
theorem ok_is_name (T : Tx w K mg) (f_tn : TnT ⟨K, tbs⟩) (TB : GxR.TabB base mg (He.codeOf K ("is_name", none)) (He.cT K ("is_name", none)).2)  : Ok P w K mg base 2 "is_name" ["part"] (sp_is_name ⟨K, tbs⟩) :=
  Ok.byT (ts := t_is_name ⟨K, tbs⟩) T.d_is_name sc_is_name len_is_name (fun _ _ _ _ _ _ us hl => match us, hl with | [_], _ => rfl) (rd_is_name f_tn) fun f A outer s H E hr =>
    pss_cons (ps_if (PW.pt (pw_or (pt_not (pt_val (pe_callB call_isi (by rfl) T.m_isinstance (by decide +kernel) (pa_cons (pv 0) (pa_cons (pe_ty (by rfl) T.m_str (by decide +kernel)) (pa_nil)))))) (pw_or1 (pt_not (pt_chain op_le op_le (pe_int) (pe_callB call_len_str (by rfl) T.m_len (by decide +kernel) (pa_cons (pv 0) (pa_nil))) (pe_globI (by rfl) T.n_MOST_LETTERS)))))) (pss_one (ps_ret (pe_bl))) (pss_nil)) (pss_one (ps_ret (Fw.pe_allT (k := 0) (N := ["letter"]) (hr.mono (by decide)) (by rfl) T.m_all TB rfl ⟨rfl, rfl, by decide +kernel, rfl⟩ (by rfl) (pi_str (pv 0)) (fun _ => rfl) (fun Y Z => ⟨Fw.g_name Z (i := 0), pe_chain op_le_str op_le_str (pe_str) (Fw.g_var Z 0) (pe_str)⟩))))
theorem ok_is_whole (T : Tx w K mg)  : Ok P w K mg base 1 "is_whole" ["part"] (sp_is_whole ⟨K, tbs⟩) :=
  Ok.by_ (ts := t_is_whole ⟨K, tbs⟩) T.d_is_whole sc_is_whole len_is_whole (fun _ _ _ _ _ _ us hl => match us, hl with | [_], _ => rfl) rd_is_whole fun f cdv A outer s H E hr =>
    pss_one (ps_ret (pe_and (pe_callB call_isi (by rfl) T.m_isinstance (by decide +kernel) (pa_cons (pv 0) (pa_cons (pe_ty (by rfl) T.m_int (by decide +kernel)) (pa_nil)))) (pe_one (pe_not (pe_callB call_isi (by rfl) T.m_isinstance (by decide +kernel) (pa_cons (pv 0) (pa_cons (pe_ty (by rfl) T.m_bool (by decide +kernel)) (pa_nil))))))))
theorem ok_is_number (T : Tx w K mg) (c_is_whole : Ok P w K mg base 1 "is_whole" ["part"] (sp_is_whole ⟨K, tbs⟩)) : Ok P w K mg base 2 "is_number" ["part"] (sp_is_number ⟨K, tbs⟩) :=
  Ok.by_ (ts := t_is_number ⟨K, tbs⟩) T.d_is_number sc_is_number len_is_number (fun _ _ _ _ _ _ us hl => match us, hl with | [_], _ => rfl) rd_is_number fun f cdv A outer s H E hr =>
    pss_one (ps_ret (pe_and (pe_callO c_is_whole (hr.mono (by decide)) (by rfl) (pa_cons (pv 0) (pa_nil))) (pe_one (pe_chain op_le op_lt (pe_int) (pv 0) (pe_globI (by rfl) T.n_NUMBERS)))))
theorem ok_is_part (T : Tx w K mg) (c_is_whole : Ok P w K mg base 1 "is_whole" ["part"] (sp_is_whole ⟨K, tbs⟩)) (c_is_name : Ok P w K mg base 2 "is_name" ["part"] (sp_is_name ⟨K, tbs⟩)) (c_is_number : Ok P w K mg base 2 "is_number" ["part"] (sp_is_number ⟨K, tbs⟩)) : Ok P w K mg base 3 "is_part" ["part", "kind"] (sp_is_part ⟨K, tbs⟩) :=
  Ok.by_ (ts := t_is_part ⟨K, tbs⟩) T.d_is_part sc_is_part len_is_part (fun _ _ _ _ _ _ us hl => match us, hl with | [_, _], _ => rfl) rd_is_part fun f cdv A outer s H E hr =>
    pss_cons (ps_if (pt_cmpR op_eq (pv 1) (pe_str) (nomark _)) (pss_one (ps_ret (pe_callO c_is_name (hr.mono (by decide)) (by rfl) (pa_cons (pv 0) (pa_nil))))) (pss_nil)) (pss_cons (ps_if (pt_cmpR op_eq (pv 1) (pe_str) (nomark _)) (pss_one (ps_ret (pe_callO c_is_number (hr.mono (by decide)) (by rfl) (pa_cons (pv 0) (pa_nil))))) (pss_nil)) (pss_one (ps_ret (pe_callO c_is_whole (hr.mono (by decide)) (by rfl) (pa_cons (pv 0) (pa_nil))))))
theorem ok_is_row (T : Tx w K mg) (f_sh : ShT ⟨K, tbs⟩) (f_tn : TnT ⟨K, tbs⟩) (TB : GxR.TabB base mg (He.codeOf K ("is_row", none)) (He.cT K ("is_row", none)).2) (c_is_part : Ok P w K mg base 3 "is_part" ["part", "kind"] (sp_is_part ⟨K, tbs⟩)) : Ok P w K mg base 5 "is_row" ["row"] (sp_is_row ⟨K, tbs⟩) :=
  Ok.byT (ts := t_is_row ⟨K, tbs⟩) T.d_is_row sc_is_row len_is_row (fun _ _ _ _ _ _ us hl => match us, hl with | [_], _ => rfl) (rd_is_row f_sh f_tn) fun f A outer s H E hr =>
    pss_cons (ps_if (PW.pt (pw_or (pt_not (pt_val (pe_callB call_isi (by rfl) T.m_isinstance (by decide +kernel) (pa_cons (pv 0) (pa_cons (pe_ty (by rfl) T.m_tuple (by decide +kernel)) (pa_nil)))))) (pw_or (pt_not (pt_truth (pv 0) (by intro _; rfl))) (pw_or1 (pt_not (pt_val (pe_callB call_isi (by rfl) T.m_isinstance (by decide +kernel) (pa_cons (pe_ix ix_tup (pv 0) (pe_int) (fun _ _ => rfl)) (pa_cons (pe_ty (by rfl) T.m_str (by decide +kernel)) (pa_nil)))))))))) (pss_one (ps_ret (pe_bl))) (pss_nil)) (pss_cons (ps_set (i := 1) sc_is_row.nd rfl (Or.inl rfl) (Fw.pe_kget T.t_SHAPES (pe_glob (by rfl) T.k_SHAPES rfl) (pe_ix ix_tup (pv 0) (pe_int) (fun _ _ => rfl)) ⟨rfl, rfl, rfl, rfl⟩)) (pss_cons (ps_if (PW.pt (pw_or (pt_cmp (pc_isN (pv 1))) (pw_or1 (pt_cmpR op_ne (pe_callB call_len_seq (by rfl) T.m_len (by decide +kernel) (pa_cons (pv 0) (pa_nil))) (pe_op op_add (pe_callB call_len_seq (by rfl) T.m_len (by decide +kernel) (pa_cons (pv 1) (pa_nil))) (pe_int)) (nomark _))))) (pss_one (ps_ret (pe_bl))) (pss_nil)) (pss_one (ps_ret (Fw.pe_allT (k := 3) (N := ["part", "kind"]) (hr.mono (by decide)) (by rfl) T.m_all TB rfl ⟨rfl, rfl, by decide +kernel, rfl⟩ (by rfl) (RZ.pi_zipA (by rfl) T.m_zip (pa_cons (pe_slice sl_tupA (pv 0) (po_some (pe_int)) (po_none)) (pa_cons (pv 1) (pa_nil)))) (fun _ => rfl) (fun Y Z => ⟨Fw.g_tup Z (pgs_cons (Fw.g_name Z (i := 0)) (pgs_cons (Fw.g_name Z (i := 1)) (pgs_nil))), Fw.g_call Z c_is_part (by decide) rfl (pa_cons (Fw.g_var Z 0) (pa_cons (Fw.g_var Z 1) (pa_nil)))⟩))))))
theorem ok_has_its_place (T : Tx w K mg)  : Ok P w K mg base 1 "has_its_place" ["row", "many"] (sp_has_its_place ⟨K, tbs⟩) :=
  Ok.by_ (ts := t_has_its_place ⟨K, tbs⟩) T.d_has_its_place sc_has_its_place len_has_its_place (fun _ _ _ _ _ _ us hl => match us, hl with | [_, _], _ => rfl) rd_has_its_place fun f cdv A outer s H E hr =>
    pss_cons (ps_if (pt_cmpR op_notIn_seq (pe_ix ix_tup (pv 0) (pe_int) (fun _ _ => rfl)) (pe_tup (pa_cons (pe_str) (pa_cons (pe_str) (pa_nil)))) (by rfl)) (pss_one (ps_ret (pe_bl))) (pss_nil)) (pss_one (ps_ret (pe_chain op_le op_lt (pe_int) (pe_ix ix_tup (pv 0) (pe_un un_neg (pe_int)) (fun _ _ => rfl)) (pv 1))))
theorem ok_checked (T : Tx w K mg) (c_is_row : Ok P w K mg base 5 "is_row" ["row"] (sp_is_row ⟨K, tbs⟩)) (c_has_its_place : Ok P w K mg base 1 "has_its_place" ["row", "many"] (sp_has_its_place ⟨K, tbs⟩)) : Ok P w K mg base 6 "checked" ["rows"] (sp_checked ⟨K, tbs⟩) :=
  Ok.by_ (ts := t_checked ⟨K, tbs⟩) T.d_checked sc_checked len_checked (fun _ _ _ _ _ _ us hl => match us, hl with | [_], _ => rfl) rd_checked fun f cdv A outer s H E hr =>
    pss_one (ps_for PassesOwn.never rfl (pi_enum (by rfl) T.m_enumerate (pa_cons (pv 0) (pa_nil))) (pg_tup rfl (pgs_cons (pg_name (i := 1) sc_checked.nd rfl (Or.inl rfl)) (pgs_cons (pg_name (i := 2) sc_checked.nd rfl (Or.inl rfl)) (pgs_nil)))) (pss_cons (ps_if (pt_not (pt_val (pe_callO c_is_row (hr.mono (by decide)) (by rfl) (pa_cons (pv 2) (pa_nil))))) (pss_one (ps_never)) (pss_nil)) (pss_one (ps_if (pt_not (pt_val (pe_callO c_has_its_place (hr.mono (by decide)) (by rfl) (pa_cons (pv 2) (pa_cons (pe_callB call_len_seq (by rfl) T.m_len (by decide +kernel) (pa_cons (pv 0) (pa_nil))) (pa_nil)))))) (pss_one (ps_never)) (pss_nil)))))
theorem ok_names_of (T : Tx w K mg) (f_sh : ShT ⟨K, tbs⟩)  : Ok P w K mg base 1 "names_of" ["row"] (sp_names_of ⟨K, tbs⟩) :=
  Ok.by_ (ts := t_names_of ⟨K, tbs⟩) T.d_names_of sc_names_of len_names_of (fun _ _ _ _ _ _ us hl => match us, hl with | [_], _ => rfl) (rd_names_of f_sh) fun f cdv A outer s H E hr =>
    pss_one (ps_ret (pe_lc (own := [("part", 1), ("kind", 2)]) (g := gTup K 2 (gCons (gName 1) (gCons (gName 2) (gNil)))) (tt := tTest (tOp rEq (tVar 2) (tC (.str "name")))) rfl sc_names_of.nd (RZ.pi_zipA (by rfl) T.m_zip (pa_cons (pe_slice sl_tupA (pv 0) (po_some (pe_int)) (po_none)) (pa_cons (pe_ix (Fw.ix_kd T.t_SHAPES) (pe_glob (by rfl) T.k_SHAPES rfl) (pe_ix ix_tup (pv 0) (pe_int) (fun _ _ => rfl)) (fun _ _ => rfl)) (pa_nil)))) (blkOk_by (own := [("part", 1), ("kind", 2)]) (N := ["row", "part", "kind"]) (sc := defScope s_names_of) (by decide +kernel)) (fun _ _ _ _ _ => pg_tup rfl (pgs_cons (pg_name (i := 1) sc_names_of.nd rfl (Or.inl rfl)) (pgs_cons (pg_name (i := 2) sc_names_of.nd rfl (Or.inl rfl)) (pgs_nil)))) (fun _ _ _ _ _ => pts_one (pt_cmpR op_eq (pv 2) (pe_str) (nomark _))) (fun _ _ _ _ _ => pv 1)))
theorem ok_names_in (T : Tx w K mg) (c_names_of : Ok P w K mg base 1 "names_of" ["row"] (sp_names_of ⟨K, tbs⟩)) : Ok P w K mg base 2 "names_in" ["rows"] (sp_names_in ⟨K, tbs⟩) :=
  Ok.by_ (ts := t_names_in ⟨K, tbs⟩) T.d_names_in sc_names_in len_names_in (fun _ _ _ _ _ _ us hl => match us, hl with | [_], _ => rfl) rd_names_in fun f cdv A outer s H E hr =>
    pss_one (ps_ret (Tset.pe_sortTwo (own := [("row", 1), ("name", 2)]) (vs1 := [2]) (g := gName 1) (g1 := gName 2) rfl (by rfl) T.m_sorted sc_names_in.nd (pi_list (pv 0)) (blkOk_by (own := [("row", 1), ("name", 2)]) (N := ["rows", "row", "name"]) (sc := defScope s_names_in) (by decide +kernel)) (by decide) (fun _ _ _ _ _ => pg_name (i := 1) sc_names_in.nd rfl (Or.inl rfl)) (fun _ _ _ _ _ => pi_list (pe_callO c_names_of (hr.mono (by decide)) (by rfl) (pa_cons (pv 1) (pa_nil)))) (fun _ _ _ _ _ => pg_name (i := 2) sc_names_in.nd rfl (Or.inl rfl)) (fun _ _ _ _ _ => pv 2)))
theorem ok_outcome (T : Tx w K mg)  : Ok P w K mg base 1 "outcome" ["word", "one", "other"] (sp_outcome ⟨K, tbs⟩) :=
  Ok.by_ (ts := t_outcome ⟨K, tbs⟩) T.d_outcome sc_outcome len_outcome (fun _ _ _ _ _ _ us hl => match us, hl with | [_, _, _], _ => rfl) rd_outcome fun f cdv A outer s H E hr =>
    pss_cons (ps_if (pt_cmpR op_eq (pv 0) (pe_str) (nomark _)) (pss_one (ps_ret (pe_op op_mod (pe_op op_add (pv 1) (pv 2)) (pe_globI (by rfl) T.n_NUMBERS)))) (pss_nil)) (pss_cons (ps_if (pt_cmpR op_eq (pv 0) (pe_str) (nomark _)) (pss_one (ps_ret (pe_op op_mod (pe_op op_sub (pv 1) (pv 2)) (pe_globI (by rfl) T.n_NUMBERS)))) (pss_nil)) (pss_cons (ps_if (pt_cmpR op_eq (pv 0) (pe_str) (nomark _)) (pss_one (ps_ret (pe_op op_mod (pe_op op_mul (pv 1) (pv 2)) (pe_globI (by rfl) T.n_NUMBERS)))) (pss_nil)) (pss_one (ps_ret (pe_ifExp (pt_cmpR op_lt (pv 1) (pv 2) (nomark _)) (pe_int) (pe_int))))))
theorem ok_held (T : Tx w K mg)  : Ok P w K mg base 1 "held" ["source", "names"] (sp_held ⟨K, tbs⟩) :=
  Ok.by_ (ts := t_held ⟨K, tbs⟩) T.d_held sc_held len_held (fun _ _ _ _ _ _ us hl => match us, hl with | [_, _], _ => rfl) rd_held fun f cdv A outer s H E hr =>
    pss_one (ps_ret (pe_ifExp (pt_val (pe_callB call_isi (by rfl) T.m_isinstance (by decide +kernel) (pa_cons (pv 0) (pa_cons (pe_ty (by rfl) T.m_int (by decide +kernel)) (pa_nil))))) (pv 0) (pe_dget (hu_of hr) (pv 1) (pv 0) (fun _ _ => rfl))))
theorem ok_number_for (T : Tx w K mg) (c_outcome : Ok P w K mg base 1 "outcome" ["word", "one", "other"] (sp_outcome ⟨K, tbs⟩)) (c_held : Ok P w K mg base 1 "held" ["source", "names"] (sp_held ⟨K, tbs⟩)) : Ok P w K mg base 2 "number_for" ["row", "names"] (sp_number_for ⟨K, tbs⟩) :=
  Ok.by_ (ts := t_number_for ⟨K, tbs⟩) T.d_number_for sc_number_for len_number_for (fun _ _ _ _ _ _ us hl => match us, hl with | [_, _], _ => rfl) rd_number_for fun f cdv A outer s H E hr =>
    pss_cons (ps_if (pt_cmpR op_eq (pe_ix ix_tup (pv 0) (pe_int) (fun _ _ => rfl)) (pe_str) (nomark _)) (pss_one (ps_ret (pe_ix ix_tup (pv 0) (pe_int) (fun _ _ => rfl)))) (pss_nil)) (pss_cons (ps_if (pt_cmpR op_eq (pe_ix ix_tup (pv 0) (pe_int) (fun _ _ => rfl)) (pe_str) (nomark _)) (pss_one (ps_ret (pe_callO c_held (hr.mono (by decide)) (by rfl) (pa_cons (pe_ix ix_tup (pv 0) (pe_int) (fun _ _ => rfl)) (pa_cons (pv 1) (pa_nil)))))) (pss_nil)) (pss_one (ps_ret (pe_callO c_outcome (hr.mono (by decide)) (by rfl) (pa_cons (pe_ix ix_tup (pv 0) (pe_int) (fun _ _ => rfl)) (pa_cons (pe_callO c_held (hr.mono (by decide)) (by rfl) (pa_cons (pe_ix ix_tup (pv 0) (pe_int) (fun _ _ => rfl)) (pa_cons (pv 1) (pa_nil)))) (pa_cons (pe_callO c_held (hr.mono (by decide)) (by rfl) (pa_cons (pe_ix ix_tup (pv 0) (pe_int) (fun _ _ => rfl)) (pa_cons (pv 1) (pa_nil)))) (pa_nil))))))))
theorem ok_do_step (T : Tx w K mg) (c_number_for : Ok P w K mg base 2 "number_for" ["row", "names"] (sp_number_for ⟨K, tbs⟩)) : Ok P w K mg base 3 "do_step" ["row", "place", "names", "told"] (sp_do_step ⟨K, tbs⟩) :=
  Ok.by_ (ts := t_do_step ⟨K, tbs⟩) T.d_do_step sc_do_step len_do_step (fun _ _ _ _ _ _ us hl => match us, hl with | [_, _, _, _], _ => rfl) rd_do_step fun f cdv A outer s H E hr =>
    pss_cons (ps_if (pt_cmpR op_eq (pe_ix ix_tup (pv 0) (pe_int) (fun _ _ => rfl)) (pe_str) (nomark _)) (pss_one (ps_ret (pe_ix ix_tup (pv 0) (pe_int) (fun _ _ => rfl)))) (pss_nil)) (pss_cons (ps_if (pt_cmpR op_eq (pe_ix ix_tup (pv 0) (pe_int) (fun _ _ => rfl)) (pe_str) (nomark _)) (pss_one (ps_ret (pe_ifExp (pt_cmpR op_eq (pe_dget (hu_of hr) (pv 2) (pe_ix ix_tup (pv 0) (pe_int) (fun _ _ => rfl)) (fun _ _ => rfl)) (pe_int) (nomark _)) (pe_ix ix_tup (pv 0) (pe_int) (fun _ _ => rfl)) (pe_op op_add (pv 1) (pe_int))))) (pss_nil)) (pss_cons (ps_if (pt_cmpR op_eq (pe_ix ix_tup (pv 0) (pe_int) (fun _ _ => rfl)) (pe_str) (nomark _)) (pss_one (ps_expr (pe_bm PySem.F.plainAttrs_list PySem.F.slot_list_append PySem.F.type_list_append mt_append (pv 3) (pa_cons (pe_dget (hu_of hr) (pv 2) (pe_ix ix_tup (pv 0) (pe_int) (fun _ _ => rfl)) (fun _ _ => rfl)) (pa_nil))))) (pss_one (ps_dput (hu_of hr) (pv 2) (pe_ix ix_tup (pv 0) (pe_int) (fun _ _ => rfl)) (pe_callO c_number_for (hr.mono (by decide)) (by rfl) (pa_cons (pv 0) (pa_cons (pv 2) (pa_nil)))) rfl))) (pss_one (ps_ret (pe_op op_add (pv 1) (pe_int))))))
theorem ok_is_over (T : Tx w K mg)  : Ok P w K mg base 1 "is_over" ["rows", "place"] (sp_is_over ⟨K, tbs⟩) :=
  Ok.by_ (ts := t_is_over ⟨K, tbs⟩) T.d_is_over sc_is_over len_is_over (fun _ _ _ _ _ _ us hl => match us, hl with | [_, _], _ => rfl) rd_is_over fun f cdv A outer s H E hr =>
    pss_one (ps_ret (pe_or (pe_cmpR op_ge (pv 1) (pe_callB call_len_seq (by rfl) T.m_len (by decide +kernel) (pa_cons (pv 0) (pa_nil))) (nomark _)) (pe_one (pe_cmpR op_eq (pe_ix ix_tup (pe_ix ix_list (pv 0) (pv 1) (fun _ _ => rfl)) (pe_int) (fun _ _ => rfl)) (pe_str) (nomark _)))))
theorem ok_plain (T : Tx w K mg) (c_checked : Ok P w K mg base 6 "checked" ["rows"] (sp_checked ⟨K, tbs⟩)) (c_do_step : Ok P w K mg base 3 "do_step" ["row", "place", "names", "told"] (sp_do_step ⟨K, tbs⟩)) (c_names_in : Ok P w K mg base 2 "names_in" ["rows"] (sp_names_in ⟨K, tbs⟩)) (c_is_over : Ok P w K mg base 1 "is_over" ["rows", "place"] (sp_is_over ⟨K, tbs⟩)) : Ok P w K mg base 7 "plain" ["rows", "most"] (sp_plain ⟨K, tbs⟩) :=
  Ok.by_ (ts := t_plain ⟨K, tbs⟩) T.d_plain sc_plain len_plain (fun _ _ _ _ _ _ us hl => match us, hl with | [_, _], _ => rfl) rd_plain fun f cdv A outer s H E hr =>
    pss_cons (ps_expr (pe_callO c_checked (hr.mono (by decide)) (by rfl) (pa_cons (pv 0) (pa_nil)))) (pss_cons (Fw.ps_setDc (i := 2) (own := [("name", 6)]) (g := gName 6) (tt := tYes) rfl sc_plain.nd rfl rfl (Fw.sw_trueD rfl rfl rfl (by decide +kernel)) (pi_list (pe_callO c_names_in (hr.mono (by decide)) (by rfl) (pa_cons (pv 0) (pa_nil)))) (blkOk_by (own := [("name", 6)]) (N := ["rows", "most", "names", "told", "place", "steps", "name"]) (sc := defScope s_plain) (by decide +kernel)) (fun _ _ _ _ _ => pg_name (i := 6) sc_plain.nd rfl (Or.inl rfl)) (fun _ _ _ _ _ => pts_nil) (fun _ _ _ _ _ => pv 6) (fun _ _ _ _ _ => pe_int)) (pss_cons (ps_set (i := 3) sc_plain.nd rfl (Or.inl rfl) (pe_lst (pa_nil))) (pss_cons (ps_set (i := 4) sc_plain.nd rfl (Or.inl rfl) (pe_int)) (pss_cons (ps_set (i := 5) sc_plain.nd rfl (Or.inl rfl) (pe_int)) (pss_cons (ps_while PassesOwn.never (PW.pt (pw_and (pt_cmpR op_lt (pv 5) (pv 1) (nomark _)) (pw_and1 (pt_not (pt_val (pe_callO c_is_over (hr.mono (by decide)) (by rfl) (pa_cons (pv 0) (pa_cons (pv 4) (pa_nil))))))))) (pss_cons (ps_set (i := 4) sc_plain.nd rfl (Or.inl rfl) (pe_callO c_do_step (hr.mono (by decide)) (by rfl) (pa_cons (pe_ix ix_list (pv 0) (pv 4) (fun _ _ => rfl)) (pa_cons (pv 4) (pa_cons (pv 2) (pa_cons (pv 3) (pa_nil))))))) (pss_one (ps_aug (i := 5) sc_plain.nd rfl (Or.inl rfl) (pe_int) ip_add)))) (pss_one (ps_ret (pe_tup (pa_cons (pv 3) (pa_cons (pv 4) (pa_cons (pv 2) (pa_cons (pv 5) (pa_nil)))))))))))))
theorem ok_law_cell_at (T : Tx w K mg)  : Ok P w K mg base 1 "_law_cell_at" ["_law_script", "_law_k"] (sp_law_cell_at ⟨K, tbs⟩) :=
  Ok.by_ (ts := t_law_cell_at ⟨K, tbs⟩) T.d_law_cell_at sc_law_cell_at len_law_cell_at (fun _ _ _ _ _ _ us hl => match us, hl with | [_, _], _ => rfl) rd_law_cell_at fun f cdv A outer s H E hr =>
    pss_cons (ps_if (pt_cmpR op_lt (pv 1) (pe_callB call_len_seq (by rfl) T.m_len (by decide +kernel) (pa_cons (pv 0) (pa_nil))) (nomark _)) (pss_one (ps_ret (pe_ix ix_list (pv 0) (pv 1) (fun _ _ => rfl)))) (pss_nil)) (pss_one (ps_ret (pe_int)))
theorem ok_law_whole (T : Tx w K mg)  : Ok P w K mg base 1 "_law_whole" ["_law_found"] (sp_law_whole ⟨K, tbs⟩) :=
  Ok.by_ (ts := t_law_whole ⟨K, tbs⟩) T.d_law_whole sc_law_whole len_law_whole (fun _ _ _ _ _ _ us hl => match us, hl with | [_], _ => rfl) rd_law_whole fun f cdv A outer s H E hr =>
    pss_one (ps_ret (pe_and (pe_callB call_isi (by rfl) T.m_isinstance (by decide +kernel) (pa_cons (pv 0) (pa_cons (pe_ty (by rfl) T.m_int (by decide +kernel)) (pa_nil)))) (pe_one (pe_not (pe_callB call_isi (by rfl) T.m_isinstance (by decide +kernel) (pa_cons (pv 0) (pa_cons (pe_ty (by rfl) T.m_bool (by decide +kernel)) (pa_nil))))))))
theorem ok_law_names (T : Tx w K mg)  : Ok P w K mg base 1 "_law_names" ["_law_cell"] (sp_law_names ⟨K, tbs⟩) :=
  Ok.by_ (ts := t_law_names ⟨K, tbs⟩) T.d_law_names sc_law_names len_law_names (fun _ _ _ _ _ _ us hl => match us, hl with | [_], _ => rfl) rd_law_names fun f cdv A outer s H E hr =>
    pss_cons (ps_set (i := 1) sc_law_names.nd rfl (Or.inl rfl) (pe_str)) (pss_cons (ps_set (i := 2) sc_law_names.nd rfl (Or.inl rfl) (pe_op op_add (pe_int) (pe_op op_mod (pe_op op_fdiv (pv 0) (pe_int)) (pe_int)))) (pss_cons (ps_set (i := 3) sc_law_names.nd rfl (Or.inl rfl) (pe_lst (pa_nil))) (pss_cons (ps_for PassesOwn.never rfl (pi_range1 (by rfl) T.m_range (pa_cons (pe_int) (pa_nil))) (pg_name (i := 4) sc_law_names.nd rfl (Or.inl rfl)) (pss_cons (ps_set (i := 5) sc_law_names.nd rfl (Or.inl rfl) (pe_ix ix_str (pv 1) (pe_op op_mod (pe_op op_add (pe_op op_fdiv (pv 0) (pe_int)) (pe_op op_mul (pe_int) (pv 4))) (pe_int)) (fun _ _ => rfl))) (pss_one (ps_if (pt_cmpR op_eq (pe_op op_mod (pv 0) (pe_int)) (pe_int) (nomark _)) (pss_one (ps_expr (pe_bm PySem.F.plainAttrs_list PySem.F.slot_list_append PySem.F.type_list_append mt_append (pv 3) (pa_cons (pe_op op_mulStr (pe_ix ix_str (pv 1) (pe_op op_mod (pe_op op_fdiv (pv 0) (pe_int)) (pe_int)) (fun _ _ => rfl)) (pe_op op_add (pv 4) (pe_int))) (pa_nil))))) (pss_cons (ps_set (i := 6) sc_law_names.nd rfl (Or.inl rfl) (pe_op op_mod (pe_op op_fdiv (pv 0) (pe_int)) (pv 2))) (pss_cons (ps_set (i := 7) sc_law_names.nd rfl (Or.inl rfl) (pe_op op_mulStr (pe_ix ix_str (pv 1) (pv 2) (fun _ _ => rfl)) (pv 6))) (pss_cons (ps_set (i := 8) sc_law_names.nd rfl (Or.inl rfl) (pe_op op_mulStr (pe_ix ix_str (pv 1) (pe_op op_add (pv 2) (pe_op op_mod (pv 0) (pe_int))) (fun _ _ => rfl)) (pe_op op_sub (pe_op op_sub (pv 2) (pe_int)) (pv 6)))) (pss_one (ps_expr (pe_bm PySem.F.plainAttrs_list PySem.F.slot_list_append PySem.F.type_list_append mt_append (pv 3) (pa_cons (pe_op op_add_str (pe_op op_add_str (pv 7) (pv 5)) (pv 8)) (pa_nil)))))))))))) (pss_one (ps_ret (pv 3))))))
theorem ok_law_number (T : Tx w K mg)  : Ok P w K mg base 1 "_law_number" ["_law_cell"] (sp_law_number ⟨K, tbs⟩) :=
  Ok.by_ (ts := t_law_number ⟨K, tbs⟩) T.d_law_number sc_law_number len_law_number (fun _ _ _ _ _ _ us hl => match us, hl with | [_], _ => rfl) rd_law_number fun f cdv A outer s H E hr =>
    pss_cons (ps_if (pt_cmpR op_eq (pe_op op_mod (pv 0) (pe_int)) (pe_int) (nomark _)) (pss_one (ps_ret (pe_op op_mod (pe_op op_fdiv (pv 0) (pe_int)) (pe_op op_pow (pe_int) (pe_int))))) (pss_nil)) (pss_cons (ps_if (pt_cmpR op_eq (pe_op op_mod (pv 0) (pe_int)) (pe_int) (nomark _)) (pss_one (ps_ret (pe_op op_sub (pe_op op_sub (pe_op op_pow (pe_int) (pe_int)) (pe_int)) (pe_op op_mod (pe_op op_fdiv (pv 0) (pe_int)) (pe_int))))) (pss_nil)) (pss_one (ps_ret (pe_op op_mod (pe_op op_fdiv (pv 0) (pe_int)) (pe_int)))))
theorem ok_law_straight (T : Tx w K mg) (c_law_number : Ok P w K mg base 1 "_law_number" ["_law_cell"] (sp_law_number ⟨K, tbs⟩)) : Ok P w K mg base 2 "_law_straight" ["_law_way", "_law_cell", "_law_names_here"] (sp_law_straight ⟨K, tbs⟩) :=
  Ok.by_ (ts := t_law_straight ⟨K, tbs⟩) T.d_law_straight sc_law_straight len_law_straight (fun _ _ _ _ _ _ us hl => match us, hl with | [_, _, _], _ => rfl) rd_law_straight fun f cdv A outer s H E hr =>
    pss_cons (ps_set (i := 3) sc_law_straight.nd rfl (Or.inl rfl) (pe_ix ix_list (pv 2) (pe_op op_add (pe_int) (pe_op op_mod (pv 1) (pe_int))) (fun _ _ => rfl))) (pss_cons (ps_set (i := 4) sc_law_straight.nd rfl (Or.inl rfl) (pe_ix ix_list (pv 2) (pe_op op_mod (pe_op op_fdiv (pv 1) (pe_int)) (pe_int)) (fun _ _ => rfl))) (pss_cons (ps_set (i := 5) sc_law_straight.nd rfl (Or.inl rfl) (pe_ix ix_list (pv 2) (pe_op op_mod (pe_op op_fdiv (pv 1) (pe_int)) (pe_int)) (fun _ _ => rfl))) (pss_cons (ps_set (i := 6) sc_law_straight.nd rfl (Or.inl rfl) (pe_ix ix_list (pe_lst (pa_cons (pe_str) (pa_cons (pe_str) (pa_cons (pe_str) (pa_cons (pe_str) (pa_cons (pe_str) (pa_cons (pe_str) (pa_cons (pe_str) (pa_nil))))))))) (pe_op op_mod (pv 0) (pe_int)) (fun _ _ => rfl))) (pss_cons (ps_if (pt_cmpR op_eq (pv 6) (pe_str) (nomark _)) (pss_one (ps_ret (pe_tup (pa_cons (pv 6) (pa_cons (pv 3) (pa_cons (pe_callO c_law_number (hr.mono (by decide)) (by rfl) (pa_cons (pe_op op_fdiv (pv 1) (pe_int)) (pa_nil))) (pa_nil))))))) (pss_nil)) (pss_cons (ps_if (pt_cmpR op_eq (pv 6) (pe_str) (nomark _)) (pss_one (ps_ret (pe_tup (pa_cons (pv 6) (pa_cons (pv 3) (pa_cons (pv 4) (pa_nil))))))) (pss_nil)) (pss_cons (ps_if (pt_cmpR op_eq (pv 6) (pe_str) (nomark _)) (pss_one (ps_ret (pe_tup (pa_cons (pv 6) (pa_cons (pv 4) (pa_nil)))))) (pss_nil)) (pss_one (ps_ret (pe_tup (pa_cons (pv 6) (pa_cons (pv 3) (pa_cons (pv 4) (pa_cons (pv 5) (pa_nil))))))))))))))
theorem ok_law_body (T : Tx w K mg) (c_law_cell_at : Ok P w K mg base 1 "_law_cell_at" ["_law_script", "_law_k"] (sp_law_cell_at ⟨K, tbs⟩)) (c_law_straight : Ok P w K mg base 2 "_law_straight" ["_law_way", "_law_cell", "_law_names_here"] (sp_law_straight ⟨K, tbs⟩)) : Ok P w K mg base 3 "_law_body" ["_law_script", "_law_first", "_law_size", "_law_names_here", "_law_start"] (sp_law_body ⟨K, tbs⟩) :=
  Ok.by_ (ts := t_law_body ⟨K, tbs⟩) T.d_law_body sc_law_body len_law_body (fun _ _ _ _ _ _ us hl => match us, hl with | [_, _, _, _, _], _ => rfl) rd_law_body fun f cdv A outer s H E hr =>
    pss_cons (ps_set (i := 5) sc_law_body.nd rfl (Or.inl rfl) (pe_lst (pa_nil))) (pss_cons (ps_for PassesOwn.never rfl (pi_range1 (by rfl) T.m_range (pa_cons (pv 2) (pa_nil))) (pg_name (i := 6) sc_law_body.nd rfl (Or.inl rfl)) (pss_cons (ps_set (i := 7) sc_law_body.nd rfl (Or.inl rfl) (pe_op op_mod (pe_callO c_law_cell_at (hr.mono (by decide)) (by rfl) (pa_cons (pv 0) (pa_cons (pe_op op_add (pv 1) (pe_op op_mul (pe_int) (pv 6))) (pa_nil)))) (pe_int))) (pss_cons (ps_set (i := 8) sc_law_body.nd rfl (Or.inl rfl) (pe_callO c_law_cell_at (hr.mono (by decide)) (by rfl) (pa_cons (pv 0) (pa_cons (pe_op op_add (pe_op op_add (pv 1) (pe_op op_mul (pe_int) (pv 6))) (pe_int)) (pa_nil))))) (pss_one (ps_if (pt_cmpR op_gt (pv 7) (pe_int) (nomark _)) (pss_one (ps_expr (pe_bm PySem.F.plainAttrs_list PySem.F.slot_list_append PySem.F.type_list_append mt_append (pv 5) (pa_cons (pe_tup (pa_cons (pe_str) (pa_cons (pe_ix ix_list (pv 3) (pe_op op_add (pe_int) (pe_op op_mod (pv 8) (pe_int))) (fun _ _ => rfl)) (pa_cons (pe_op op_add (pv 4) (pe_callB (call_min2 rfl) (by rfl) T.m_min (by decide +kernel) (pa_cons (pv 2) (pa_cons (pe_op op_add (pe_op op_add (pv 6) (pe_int)) (pe_op op_mod (pe_op op_fdiv (pv 8) (pe_int)) (pe_int))) (pa_nil))))) (pa_nil))))) (pa_nil))))) (pss_one (ps_if (PW.pt (pw_and (pt_cmpR op_eq (pv 7) (pe_int) (nomark _)) (pw_and1 (pt_cmpR op_eq (pe_op op_mod (pv 8) (pe_int)) (pe_int) (nomark _))))) (pss_one (ps_expr (pe_bm PySem.F.plainAttrs_list PySem.F.slot_list_append PySem.F.type_list_append mt_append (pv 5) (pa_cons (pe_tup (pa_cons (pe_str) (pa_cons (pe_op op_add (pv 4) (pe_callB (call_min2 rfl) (by rfl) T.m_min (by decide +kernel) (pa_cons (pv 2) (pa_cons (pe_op op_add (pe_op op_add (pv 6) (pe_int)) (pe_op op_mod (pe_op op_fdiv (pv 8) (pe_int)) (pe_int))) (pa_nil))))) (pa_nil)))) (pa_nil))))) (pss_one (ps_expr (pe_bm PySem.F.plainAttrs_list PySem.F.slot_list_append PySem.F.type_list_append mt_append (pv 5) (pa_cons (pe_callO c_law_straight (hr.mono (by decide)) (by rfl) (pa_cons (pv 7) (pa_cons (pv 8) (pa_cons (pv 3) (pa_nil))))) (pa_nil)))))))))))) (pss_one (ps_ret (pv 5))))
theorem ok_law_wild (T : Tx w K mg) (c_law_cell_at : Ok P w K mg base 1 "_law_cell_at" ["_law_script", "_law_k"] (sp_law_cell_at ⟨K, tbs⟩)) (c_law_straight : Ok P w K mg base 2 "_law_straight" ["_law_way", "_law_cell", "_law_names_here"] (sp_law_straight ⟨K, tbs⟩)) : Ok P w K mg base 3 "_law_wild" ["_law_script", "_law_first", "_law_size", "_law_names_here"] (sp_law_wild ⟨K, tbs⟩) :=
  Ok.by_ (ts := t_law_wild ⟨K, tbs⟩) T.d_law_wild sc_law_wild len_law_wild (fun _ _ _ _ _ _ us hl => match us, hl with | [_, _, _, _], _ => rfl) rd_law_wild fun f cdv A outer s H E hr =>
    pss_cons (ps_set (i := 4) sc_law_wild.nd rfl (Or.inl rfl) (pe_lst (pa_nil))) (pss_cons (ps_for PassesOwn.never rfl (pi_range1 (by rfl) T.m_range (pa_cons (pv 2) (pa_nil))) (pg_name (i := 5) sc_law_wild.nd rfl (Or.inl rfl)) (pss_cons (ps_set (i := 6) sc_law_wild.nd rfl (Or.inl rfl) (pe_op op_mod (pe_callO c_law_cell_at (hr.mono (by decide)) (by rfl) (pa_cons (pv 0) (pa_cons (pe_op op_add (pv 1) (pe_op op_mul (pe_int) (pv 5))) (pa_nil)))) (pe_int))) (pss_cons (ps_set (i := 7) sc_law_wild.nd rfl (Or.inl rfl) (pe_callO c_law_cell_at (hr.mono (by decide)) (by rfl) (pa_cons (pv 0) (pa_cons (pe_op op_add (pe_op op_add (pv 1) (pe_op op_mul (pe_int) (pv 5))) (pe_int)) (pa_nil))))) (pss_one (ps_if (pt_cmpR op_gt (pv 6) (pe_int) (nomark _)) (pss_one (ps_expr (pe_bm PySem.F.plainAttrs_list PySem.F.slot_list_append PySem.F.type_list_append mt_append (pv 4) (pa_cons (pe_tup (pa_cons (pe_str) (pa_cons (pe_ix ix_list (pv 3) (pe_op op_mod (pv 7) (pe_int)) (fun _ _ => rfl)) (pa_cons (pe_op op_mod (pe_op op_fdiv (pv 7) (pe_int)) (pv 2)) (pa_nil))))) (pa_nil))))) (pss_one (ps_if (pt_cmpR op_eq (pv 6) (pe_int) (nomark _)) (pss_one (ps_expr (pe_bm PySem.F.plainAttrs_list PySem.F.slot_list_append PySem.F.type_list_append mt_append (pv 4) (pa_cons (pe_ix ix_list (pe_lst (pa_cons (pe_tup (pa_cons (pe_str) (pa_cons (pe_op op_mod (pe_op op_fdiv (pv 7) (pe_int)) (pv 2)) (pa_nil)))) (pa_cons (pe_tup (pa_cons (pe_str) (pa_nil))) (pa_cons (pe_tup (pa_cons (pe_str) (pa_cons (pe_op op_fdiv (pv 5) (pe_int)) (pa_nil)))) (pa_nil))))) (pe_op op_mod (pv 7) (pe_int)) (fun _ _ => rfl)) (pa_nil))))) (pss_one (ps_expr (pe_bm PySem.F.plainAttrs_list PySem.F.slot_list_append PySem.F.type_list_append mt_append (pv 4) (pa_cons (pe_callO c_law_straight (hr.mono (by decide)) (by rfl) (pa_cons (pv 6) (pa_cons (pv 7) (pa_cons (pv 3) (pa_nil))))) (pa_nil)))))))))))) (pss_one (ps_ret (pv 4))))
theorem ok_law_turn (T : Tx w K mg)  : Ok P w K mg base 1 "_law_turn" ["_law_count", "_law_names_here"] (sp_law_turn ⟨K, tbs⟩) :=
  Ok.by_ (ts := t_law_turn ⟨K, tbs⟩) T.d_law_turn sc_law_turn len_law_turn (fun _ _ _ _ _ _ us hl => match us, hl with | [_, _], _ => rfl) rd_law_turn fun f cdv A outer s H E hr =>
    pss_cons (ps_if (pt_cmpR op_ne (pe_op op_mod (pv 0) (pe_int)) (pe_int) (nomark _)) (pss_one (ps_ret (pe_lst (pa_nil)))) (pss_nil)) (pss_cons (ps_set (i := 2) sc_law_turn.nd rfl (Or.inl rfl) (pe_lst (pa_cons (pe_tup (pa_cons (pe_str) (pa_cons (pe_ix ix_list (pv 1) (pe_int) (fun _ _ => rfl)) (pa_cons (pe_op op_add (pe_int) (pe_op op_mod (pe_op op_fdiv (pv 0) (pe_int)) (pe_int))) (pa_nil))))) (pa_cons (pe_tup (pa_cons (pe_str) (pa_cons (pe_ix ix_list (pv 1) (pe_int) (fun _ _ => rfl)) (pa_cons (pe_ix ix_list (pv 1) (pe_int) (fun _ _ => rfl)) (pa_cons (pe_ix ix_list (pv 1) (pe_int) (fun _ _ => rfl)) (pa_nil)))))) (pa_nil))))) (pss_one (ps_ret (pe_op op_cat (pv 2) (pe_lst (pa_cons (pe_tup (pa_cons (pe_str) (pa_cons (pe_ix ix_list (pv 1) (pe_int) (fun _ _ => rfl)) (pa_cons (pe_int) (pa_nil))))) (pa_cons (pe_tup (pa_cons (pe_str) (pa_cons (pe_ix ix_list (pv 1) (pe_int) (fun _ _ => rfl)) (pa_cons (pe_ix ix_list (pv 1) (pe_int) (fun _ _ => rfl)) (pa_cons (pe_ix ix_list (pv 1) (pe_int) (fun _ _ => rfl)) (pa_nil)))))) (pa_nil))))))))
theorem ok_law_program (T : Tx w K mg) (c_law_names : Ok P w K mg base 1 "_law_names" ["_law_cell"] (sp_law_names ⟨K, tbs⟩)) (c_law_cell_at : Ok P w K mg base 1 "_law_cell_at" ["_law_script", "_law_k"] (sp_law_cell_at ⟨K, tbs⟩)) (c_law_turn : Ok P w K mg base 1 "_law_turn" ["_law_count", "_law_names_here"] (sp_law_turn ⟨K, tbs⟩)) (c_law_wild : Ok P w K mg base 3 "_law_wild" ["_law_script", "_law_first", "_law_size", "_law_names_here"] (sp_law_wild ⟨K, tbs⟩)) (c_law_body : Ok P w K mg base 3 "_law_body" ["_law_script", "_law_first", "_law_size", "_law_names_here", "_law_start"] (sp_law_body ⟨K, tbs⟩)) : Ok P w K mg base 4 "_law_program" ["_law_script"] (sp_law_program ⟨K, tbs⟩) :=
  Ok.by_ (ts := t_law_program ⟨K, tbs⟩) T.d_law_program sc_law_program len_law_program (fun _ _ _ _ _ _ us hl => match us, hl with | [_], _ => rfl) rd_law_program fun f cdv A outer s H E hr =>
    pss_cons (ps_set (i := 1) sc_law_program.nd rfl (Or.inr rfl) (pe_callO c_law_names (hr.mono (by decide)) (by rfl) (pa_cons (pe_callO c_law_cell_at (hr.mono (by decide)) (by rfl) (pa_cons (pv 0) (pa_cons (pe_int) (pa_nil)))) (pa_nil)))) (pss_cons (ps_set (i := 2) sc_law_program.nd rfl (Or.inl rfl) (pe_op op_mod (pe_callO c_law_cell_at (hr.mono (by decide)) (by rfl) (pa_cons (pv 0) (pa_cons (pe_int) (pa_nil)))) (pe_int))) (pss_cons (ps_if (pt_cmpR op_gt (pe_callB call_len_seq (by rfl) T.m_len (by decide +kernel) (pa_cons (pv 0) (pa_nil))) (pe_int) (nomark _)) (pss_one (ps_set (i := 2) sc_law_program.nd rfl (Or.inl rfl) (pe_op op_add (pv 2) (pe_int)))) (pss_nil)) (pss_cons (ps_set (i := 3) sc_law_program.nd rfl (Or.inl rfl) (pe_callO c_law_cell_at (hr.mono (by decide)) (by rfl) (pa_cons (pv 0) (pa_cons (pe_int) (pa_nil))))) (pss_cons (ps_set (i := 4) sc_law_program.nd rfl (Or.inl rfl) (pe_op op_mod (pe_callO c_law_cell_at (hr.mono (by decide)) (by rfl) (pa_cons (pv 0) (pa_cons (pe_int) (pa_nil)))) (pe_int))) (pss_cons (ps_if (pt_cmpR op_eq (pv 4) (pe_int) (nomark _)) (pss_one (ps_ret (pe_callO c_law_wild (hr.mono (by decide)) (by rfl) (pa_cons (pv 0) (pa_cons (pe_int) (pa_cons (pv 2) (pa_cons (pv 1) (pa_nil)))))))) (pss_nil)) (pss_cons (ps_set (i := 5) sc_law_program.nd rfl (Or.inl rfl) (pe_callO c_law_turn (hr.mono (by decide)) (by rfl) (pa_cons (pv 3) (pa_cons (pv 1) (pa_nil))))) (pss_cons (ps_set (i := 6) sc_law_program.nd rfl (Or.inl rfl) (pe_op op_cat (pv 5) (pe_callO c_law_body (hr.mono (by decide)) (by rfl) (pa_cons (pv 0) (pa_cons (pe_int) (pa_cons (pv 2) (pa_cons (pv 1) (pa_cons (pe_op op_add (pe_int) (pe_callB call_len_seq (by rfl) T.m_len (by decide +kernel) (pa_cons (pv 5) (pa_nil)))) (pa_nil))))))))) (pss_cons (ps_if (pt_cmpR op_eq (pe_op op_mod (pv 3) (pe_int)) (pe_int) (nomark _)) (pss_one (ps_setLc (i := 6) (own := [("_law_k", 10)]) (g := gName 10) (tt := tYes) rfl sc_law_program.nd rfl rfl (sw_true rfl rfl rfl (by decide +kernel)) (pi_range1 (by rfl) T.m_range (pa_cons (pe_ix ix_list (pe_lst (pa_cons (pe_int) (pa_cons (pe_int) (pa_nil)))) (pe_op op_mod (pe_op op_fdiv (pv 3) (pe_int)) (pe_int)) (fun _ _ => rfl)) (pa_nil))) (blkOk_by (own := [("_law_k", 10)]) (N := ["_law_script", "_law_names_here", "_law_size", "_law_count", "_law_way", "_law_ahead", "_law_body_here", "_law_times", "_law_rows", "_law_last", "_law_k"]) (sc := defScope s_law_program) (by decide +kernel)) (fun _ _ _ _ _ => pg_name (i := 10) sc_law_program.nd rfl (Or.inl rfl)) (fun _ _ _ _ _ => pts_nil) (fun _ _ _ _ _ => pe_tup (pa_cons (pe_str) (pa_cons (pe_ix ix_list (pv 1) (pe_int) (fun _ _ => rfl)) (pa_cons (pv 10) (pa_nil))))))) (pss_nil)) (pss_cons (ps_set (i := 7) sc_law_program.nd rfl (Or.inl rfl) (pe_ix ix_list (pe_lst (pa_cons (pe_op op_add (pe_int) (pe_op op_mod (pv 3) (pe_int))) (pa_cons (pe_int) (pa_nil)))) (pe_callTy call_int1 (by rfl) T.m_int (by decide +kernel) (pa_cons (pe_cmpR op_gt (pe_callB call_len_seq (by rfl) T.m_len (by decide +kernel) (pa_cons (pv 5) (pa_nil))) (pe_int) (nomark _)) (pa_nil))) (fun _ _ => rfl))) (pss_cons (ps_set (i := 8) sc_law_program.nd rfl (Or.inl rfl) (pe_lst (pa_cons (pe_tup (pa_cons (pe_str) (pa_cons (pe_ix ix_list (pv 1) (pe_int) (fun _ _ => rfl)) (pa_cons (pe_op op_add (pe_int) (pe_op op_mod (pe_op op_fdiv (pv 3) (pe_int)) (pe_int))) (pa_nil))))) (pa_cons (pe_tup (pa_cons (pe_str) (pa_cons (pe_ix ix_list (pv 1) (pe_int) (fun _ _ => rfl)) (pa_cons (pe_int) (pa_nil))))) (pa_cons (pe_tup (pa_cons (pe_str) (pa_cons (pe_ix ix_list (pv 1) (pe_int) (fun _ _ => rfl)) (pa_cons (pv 7) (pa_nil))))) (pa_nil)))))) (pss_cons (ps_set (i := 9) sc_law_program.nd rfl (Or.inl rfl) (pe_op op_add (pe_int) (pe_callB call_len_seq (by rfl) T.m_len (by decide +kernel) (pa_cons (pv 6) (pa_nil))))) (pss_cons (ps_set (i := 8) sc_law_program.nd rfl (Or.inl rfl) (pe_op op_cat (pe_op op_cat (pv 8) (pv 6)) (pe_lst (pa_cons (pe_tup (pa_cons (pe_str) (pa_cons (pe_ix ix_list (pv 1) (pe_int) (fun _ _ => rfl)) (pa_cons (pe_ix ix_list (pv 1) (pe_int) (fun _ _ => rfl)) (pa_cons (pe_ix ix_list (pv 1) (pe_int) (fun _ _ => rfl)) (pa_nil)))))) (pa_cons (pe_tup (pa_cons (pe_str) (pa_cons (pe_ix ix_list (pv 1) (pe_int) (fun _ _ => rfl)) (pa_cons (pe_op op_add (pv 9) (pe_int)) (pa_nil))))) (pa_cons (pe_tup (pa_cons (pe_str) (pa_cons (pe_int) (pa_nil)))) (pa_nil))))))) (pss_cons (ps_if (pt_cmpR op_gt (pv 4) (pe_int) (nomark _)) (pss_one (ps_set (i := 8) sc_law_program.nd rfl (Or.inl rfl) (pe_op op_cat (pv 8) (pe_lst (pa_cons (pe_tup (pa_cons (pe_str) (pa_cons (pe_ix ix_list (pv 1) (pe_int) (fun _ _ => rfl)) (pa_cons (pe_ix ix_list (pv 1) (pe_int) (fun _ _ => rfl)) (pa_cons (pe_ix ix_list (pv 1) (pe_int) (fun _ _ => rfl)) (pa_nil)))))) (pa_cons (pe_tup (pa_cons (pe_str) (pa_cons (pe_ix ix_list (pv 1) (pe_int) (fun _ _ => rfl)) (pa_cons (pe_op op_add (pv 9) (pe_int)) (pa_nil))))) (pa_cons (pe_tup (pa_cons (pe_str) (pa_cons (pe_int) (pa_nil)))) (pa_nil)))))))) (pss_nil)) (pss_one (ps_ret (pe_op op_cat (pv 8) (pe_slice sl_list (pe_lst (pa_cons (pe_tup (pa_cons (pe_str) (pa_cons (pe_ix ix_list (pv 1) (pe_int) (fun _ _ => rfl)) (pa_nil)))) (pa_cons (pe_tup (pa_cons (pe_str) (pa_cons (pe_ix ix_list (pv 1) (pe_int) (fun _ _ => rfl)) (pa_nil)))) (pa_cons (pe_tup (pa_cons (pe_str) (pa_nil))) (pa_nil))))) (po_none) (po_some (pe_op op_sub (pe_int) (pv 4))))))))))))))))))))
theorem ok_law_most (T : Tx w K mg) (c_law_cell_at : Ok P w K mg base 1 "_law_cell_at" ["_law_script", "_law_k"] (sp_law_cell_at ⟨K, tbs⟩)) : Ok P w K mg base 2 "_law_most" ["_law_script"] (sp_law_most ⟨K, tbs⟩) :=
  Ok.by_ (ts := t_law_most ⟨K, tbs⟩) T.d_law_most sc_law_most len_law_most (fun _ _ _ _ _ _ us hl => match us, hl with | [_], _ => rfl) rd_law_most fun f cdv A outer s H E hr =>
    pss_cons (ps_set (i := 1) sc_law_most.nd rfl (Or.inl rfl) (pe_callO c_law_cell_at (hr.mono (by decide)) (by rfl) (pa_cons (pv 0) (pa_cons (pe_int) (pa_nil))))) (pss_one (ps_ret (pe_ix ix_list (pe_lst (pa_cons (pe_int) (pa_cons (pe_int) (pa_cons (pe_int) (pa_cons (pe_int) (pa_cons (pe_int) (pa_cons (pe_int) (pa_cons (pe_int) (pa_cons (pe_op op_mod (pe_op op_fdiv (pv 1) (pe_int)) (pe_int)) (pa_nil)))))))))) (pe_op op_mod (pv 1) (pe_int)) (fun _ _ => rfl))))
theorem ok_law_value (T : Tx w K mg)  : Ok P w K mg base 1 "_law_value" ["_law_names_here", "_law_source"] (sp_law_value ⟨K, tbs⟩) :=
  Ok.by_ (ts := t_law_value ⟨K, tbs⟩) T.d_law_value sc_law_value len_law_value (fun _ _ _ _ _ _ us hl => match us, hl with | [_, _], _ => rfl) rd_law_value fun f cdv A outer s H E hr =>
    pss_cons (ps_if (pt_val (pe_callB call_isi (by rfl) T.m_isinstance (by decide +kernel) (pa_cons (pv 1) (pa_cons (pe_ty (by rfl) T.m_int (by decide +kernel)) (pa_nil))))) (pss_one (ps_ret (pv 1))) (pss_nil)) (pss_one (ps_ret (pe_dget (hu_of hr) (pv 0) (pv 1) (fun _ _ => rfl))))
theorem ok_law_done (T : Tx w K mg) (c_law_value : Ok P w K mg base 1 "_law_value" ["_law_names_here", "_law_source"] (sp_law_value ⟨K, tbs⟩)) : Ok P w K mg base 2 "_law_done" ["_law_row", "_law_names_here"] (sp_law_done ⟨K, tbs⟩) :=
  Ok.by_ (ts := t_law_done ⟨K, tbs⟩) T.d_law_done sc_law_done len_law_done (fun _ _ _ _ _ _ us hl => match us, hl with | [_, _], _ => rfl) rd_law_done fun f cdv A outer s H E hr =>
    pss_cons (ps_set (i := 2) sc_law_done.nd rfl (Or.inl rfl) (pe_callTy call_dictD (by rfl) T.m_dict (by decide +kernel) (pa_cons (pv 1) (pa_nil)))) (pss_cons (ps_if (pt_cmpR op_eq (pe_ix ix_tup (pv 0) (pe_int) (fun _ _ => rfl)) (pe_str) (nomark _)) (pss_one (ps_ret (pv 2))) (pss_nil)) (pss_cons (ps_set (i := 3) sc_law_done.nd rfl (Or.inl rfl) (pe_callO c_law_value (hr.mono (by decide)) (by rfl) (pa_cons (pv 1) (pa_cons (pe_ix ix_tup (pv 0) (pe_int) (fun _ _ => rfl)) (pa_nil))))) (pss_cons (ps_if (pt_cmpR op_in_seq (pe_ix ix_tup (pv 0) (pe_int) (fun _ _ => rfl)) (pe_lst (pa_cons (pe_str) (pa_cons (pe_str) (pa_nil)))) (by rfl)) (pss_cons (ps_dput (hu_of hr) (pv 2) (pe_ix ix_tup (pv 0) (pe_int) (fun _ _ => rfl)) (pv 3) rfl) (pss_one (ps_ret (pv 2)))) (pss_nil)) (pss_cons (ps_set (i := 4) sc_law_done.nd rfl (Or.inl rfl) (pe_callO c_law_value (hr.mono (by decide)) (by rfl) (pa_cons (pv 1) (pa_cons (pe_ix ix_tup (pv 0) (pe_int) (fun _ _ => rfl)) (pa_nil))))) (pss_cons (ps_if (pt_cmpR op_eq (pe_ix ix_tup (pv 0) (pe_int) (fun _ _ => rfl)) (pe_str) (nomark _)) (pss_one (ps_dput (hu_of hr) (pv 2) (pe_ix ix_tup (pv 0) (pe_int) (fun _ _ => rfl)) (pe_callTy call_int1 (by rfl) T.m_int (by decide +kernel) (pa_cons (pe_cmpR op_lt (pv 3) (pv 4) (nomark _)) (pa_nil))) rfl)) (pss_cons (ps_set (i := 5) sc_law_done.nd rfl (Or.inl rfl) (pe_disp (pps_cons (pe_str) (pe_op op_add (pv 3) (pv 4)) (pps_cons (pe_str) (pe_op op_sub (pv 3) (pv 4)) (pps_cons (pe_str) (pe_op op_mul (pv 3) (pv 4)) (pps_nil)))) (by rfl) (by rfl) (fun z => by cases z) (by decide))) (pss_one (ps_dput (hu_of hr) (pv 2) (pe_ix ix_tup (pv 0) (pe_int) (fun _ _ => rfl)) (pe_op op_mod (pe_dget (hu_of hr) (pv 5) (pe_ix ix_tup (pv 0) (pe_int) (fun _ _ => rfl)) (fun _ _ => rfl)) (pe_op op_pow (pe_int) (pe_int))) rfl)))) (pss_one (ps_ret (pv 2))))))))
theorem ok_law_told (T : Tx w K mg) (c_law_value : Ok P w K mg base 1 "_law_value" ["_law_names_here", "_law_source"] (sp_law_value ⟨K, tbs⟩)) : Ok P w K mg base 2 "_law_told" ["_law_row", "_law_names_here"] (sp_law_told ⟨K, tbs⟩) :=
  Ok.by_ (ts := t_law_told ⟨K, tbs⟩) T.d_law_told sc_law_told len_law_told (fun _ _ _ _ _ _ us hl => match us, hl with | [_, _], _ => rfl) rd_law_told fun f cdv A outer s H E hr =>
    pss_cons (ps_if (pt_cmpR op_eq (pe_ix ix_tup (pv 0) (pe_int) (fun _ _ => rfl)) (pe_str) (nomark _)) (pss_one (ps_ret (pe_lst (pa_cons (pe_callO c_law_value (hr.mono (by decide)) (by rfl) (pa_cons (pv 1) (pa_cons (pe_ix ix_tup (pv 0) (pe_int) (fun _ _ => rfl)) (pa_nil)))) (pa_nil))))) (pss_nil)) (pss_one (ps_ret (pe_lst (pa_nil))))
theorem ok_law_step (T : Tx w K mg) (c_law_done : Ok P w K mg base 2 "_law_done" ["_law_row", "_law_names_here"] (sp_law_done ⟨K, tbs⟩)) (c_law_told : Ok P w K mg base 2 "_law_told" ["_law_row", "_law_names_here"] (sp_law_told ⟨K, tbs⟩)) : Ok P w K mg base 3 "_law_step" ["_law_rows", "_law_place", "_law_names_here"] (sp_law_step ⟨K, tbs⟩) :=
  Ok.by_ (ts := t_law_step ⟨K, tbs⟩) T.d_law_step sc_law_step len_law_step (fun _ _ _ _ _ _ us hl => match us, hl with | [_, _, _], _ => rfl) rd_law_step fun f cdv A outer s H E hr =>
    pss_cons (ps_set (i := 3) sc_law_step.nd rfl (Or.inl rfl) (pe_ix ix_list (pv 0) (pv 1) (fun _ _ => rfl))) (pss_cons (ps_if (pt_cmpR op_eq (pe_ix ix_tup (pv 3) (pe_int) (fun _ _ => rfl)) (pe_str) (nomark _)) (pss_one (ps_ret (pe_tup (pa_cons (pe_ix ix_tup (pv 3) (pe_int) (fun _ _ => rfl)) (pa_cons (pv 2) (pa_cons (pe_lst (pa_nil)) (pa_nil))))))) (pss_nil)) (pss_cons (ps_if (pt_cmpR op_eq (pe_ix ix_tup (pv 3) (pe_int) (fun _ _ => rfl)) (pe_str) (nomark _)) (pss_cons (ps_if (pt_cmpR op_eq (pe_dget (hu_of hr) (pv 2) (pe_ix ix_tup (pv 3) (pe_int) (fun _ _ => rfl)) (fun _ _ => rfl)) (pe_int) (nomark _)) (pss_one (ps_ret (pe_tup (pa_cons (pe_ix ix_tup (pv 3) (pe_int) (fun _ _ => rfl)) (pa_cons (pv 2) (pa_cons (pe_lst (pa_nil)) (pa_nil))))))) (pss_nil)) (pss_one (ps_ret (pe_tup (pa_cons (pe_op op_add (pv 1) (pe_int)) (pa_cons (pv 2) (pa_cons (pe_lst (pa_nil)) (pa_nil)))))))) (pss_nil)) (pss_one (ps_ret (pe_tup (pa_cons (pe_op op_add (pv 1) (pe_int)) (pa_cons (pe_callO c_law_done (hr.mono (by decide)) (by rfl) (pa_cons (pv 3) (pa_cons (pv 2) (pa_nil)))) (pa_cons (pe_callO c_law_told (hr.mono (by decide)) (by rfl) (pa_cons (pv 3) (pa_cons (pv 2) (pa_nil)))) (pa_nil)))))))))
theorem ok_law_over (T : Tx w K mg)  : Ok P w K mg base 1 "_law_over" ["_law_rows", "_law_place"] (sp_law_over ⟨K, tbs⟩) :=
  Ok.by_ (ts := t_law_over ⟨K, tbs⟩) T.d_law_over sc_law_over len_law_over (fun _ _ _ _ _ _ us hl => match us, hl with | [_, _], _ => rfl) rd_law_over fun f cdv A outer s H E hr =>
    pss_one (ps_ret (pe_or (pe_cmpR op_ge (pv 1) (pe_callB call_len_seq (by rfl) T.m_len (by decide +kernel) (pa_cons (pv 0) (pa_nil))) (nomark _)) (pe_one (pe_cmpR op_eq (pe_ix ix_tup (pe_ix ix_list (pv 0) (pv 1) (fun _ _ => rfl)) (pe_int) (fun _ _ => rfl)) (pe_str) (nomark _)))))
theorem ok_law_all (T : Tx w K mg)  : Ok P w K mg base 1 "_law_all" ["_law_rows"] (sp_law_all ⟨K, tbs⟩) :=
  Ok.by_ (ts := t_law_all ⟨K, tbs⟩) T.d_law_all sc_law_all len_law_all (fun _ _ _ _ _ _ us hl => match us, hl with | [_], _ => rfl) rd_law_all fun f cdv A outer s H E hr =>
    pss_cons (ps_set (i := 1) sc_law_all.nd rfl (Or.inl rfl) (pe_dnewK)) (pss_cons (ps_for PassesOwn.never rfl (pi_list (pv 0)) (pg_name (i := 2) sc_law_all.nd rfl (Or.inl rfl)) (pss_one (ps_for PassesOwn.never rfl (pi_tup (pe_slice sl_tupA (pv 2) (po_some (pe_int)) (po_none))) (pg_name (i := 3) sc_law_all.nd rfl (Or.inl rfl)) (pss_one (ps_if (pt_val (pe_callB call_isi (by rfl) T.m_isinstance (by decide +kernel) (pa_cons (pv 3) (pa_cons (pe_ty (by rfl) T.m_str (by decide +kernel)) (pa_nil))))) (pss_one (ps_dput (hu_of hr) (pv 1) (pv 3) (pe_int) rfl)) (pss_nil)))))) (pss_one (ps_ret (pv 1))))
theorem ok_law_plain (T : Tx w K mg) (c_law_step : Ok P w K mg base 3 "_law_step" ["_law_rows", "_law_place", "_law_names_here"] (sp_law_step ⟨K, tbs⟩)) (c_law_all : Ok P w K mg base 1 "_law_all" ["_law_rows"] (sp_law_all ⟨K, tbs⟩)) (c_law_over : Ok P w K mg base 1 "_law_over" ["_law_rows", "_law_place"] (sp_law_over ⟨K, tbs⟩)) : Ok P w K mg base 4 "_law_plain" ["_law_rows", "_law_most_here"] (sp_law_plain ⟨K, tbs⟩) :=
  Ok.by_ (ts := t_law_plain ⟨K, tbs⟩) T.d_law_plain sc_law_plain len_law_plain (fun _ _ _ _ _ _ us hl => match us, hl with | [_, _], _ => rfl) rd_law_plain fun f cdv A outer s H E hr =>
    pss_cons (ps_set (i := 2) sc_law_plain.nd rfl (Or.inl rfl) (pe_lst (pa_cons (pe_tup (pa_cons (pe_int) (pa_cons (pe_callO c_law_all (hr.mono (by decide)) (by rfl) (pa_cons (pv 0) (pa_nil))) (pa_cons (pe_lst (pa_nil)) (pa_nil))))) (pa_nil)))) (pss_cons (ps_while PassesOwn.never (PW.pt (pw_and (pt_cmpR op_le (pe_callB call_len_seq (by rfl) T.m_len (by decide +kernel) (pa_cons (pv 2) (pa_nil))) (pv 1) (nomark _)) (pw_and1 (pt_not (pt_val (pe_callO c_law_over (hr.mono (by decide)) (by rfl) (pa_cons (pv 0) (pa_cons (pe_ix ix_tup (pe_ix ix_list (pv 2) (pe_un un_neg (pe_int)) (fun _ _ => rfl)) (pe_int) (fun _ _ => rfl)) (pa_nil))))))))) (pss_cons (ps_set (i := 3) sc_law_plain.nd rfl (Or.inl rfl) (pe_callO c_law_step (hr.mono (by decide)) (by rfl) (pa_cons (pv 0) (pa_cons (pe_ix ix_tup (pe_ix ix_list (pv 2) (pe_un un_neg (pe_int)) (fun _ _ => rfl)) (pe_int) (fun _ _ => rfl)) (pa_cons (pe_ix ix_tup (pe_ix ix_list (pv 2) (pe_un un_neg (pe_int)) (fun _ _ => rfl)) (pe_int) (fun _ _ => rfl)) (pa_nil)))))) (pss_one (ps_expr (pe_bm PySem.F.plainAttrs_list PySem.F.slot_list_append PySem.F.type_list_append mt_append (pv 2) (pa_cons (pe_tup (pa_cons (pe_ix ix_tup (pv 3) (pe_int) (fun _ _ => rfl)) (pa_cons (pe_ix ix_tup (pv 3) (pe_int) (fun _ _ => rfl)) (pa_cons (pe_op op_cat (pe_ix ix_tup (pe_ix ix_list (pv 2) (pe_un un_neg (pe_int)) (fun _ _ => rfl)) (pe_int) (fun _ _ => rfl)) (pe_ix ix_tup (pv 3) (pe_int) (fun _ _ => rfl))) (pa_nil))))) (pa_nil))))))) (pss_one (ps_ret (pv 2))))
theorem ok_law_bits (T : Tx w K mg) (c_law_whole : Ok P w K mg base 1 "_law_whole" ["_law_found"] (sp_law_whole ⟨K, tbs⟩)) : Ok P w K mg base 2 "_law_bits" ["_law_found"] (sp_law_bits ⟨K, tbs⟩) :=
  Ok.by_ (ts := t_law_bits ⟨K, tbs⟩) T.d_law_bits sc_law_bits len_law_bits (fun _ _ _ _ _ _ us hl => match us, hl with | [_], _ => rfl) rd_law_bits fun f cdv A outer s H E hr =>
    pss_cons (ps_if (PW.pt (pw_or (pt_not (pt_val (pe_callB call_isi (by rfl) T.m_isinstance (by decide +kernel) (pa_cons (pv 0) (pa_cons (pe_ty (by rfl) T.m_tuple (by decide +kernel)) (pa_nil)))))) (pw_or (pt_cmpR op_lt (pe_callB call_len_seq (by rfl) T.m_len (by decide +kernel) (pa_cons (pv 0) (pa_nil))) (pe_int) (nomark _)) (pw_or1 (pt_not (pt_val (pe_callB call_isi (by rfl) T.m_isinstance (by decide +kernel) (pa_cons (pe_ix ix_tup (pv 0) (pe_int) (fun _ _ => rfl)) (pa_cons (pe_ty (by rfl) T.m_list (by decide +kernel)) (pa_nil)))))))))) (pss_one (ps_ret (pe_bl))) (pss_nil)) (pss_cons (ps_if (pt_not (pt_val (pe_callB call_isi (by rfl) T.m_isinstance (by decide +kernel) (pa_cons (pe_ix ix_tup (pv 0) (pe_int) (fun _ _ => rfl)) (pa_cons (pe_ty (by rfl) T.m_dict (by decide +kernel)) (pa_nil)))))) (pss_one (ps_ret (pe_bl))) (pss_nil)) (pss_cons (ps_if (PW.pt (pw_or (pt_not (pt_val (pe_callB (cr_all rfl) (by rfl) T.m_all (by decide +kernel) (pa_cons (pe_lc (own := [("_law_number_here", 2)]) (g := gName 2) (tt := tYes) rfl sc_law_bits.nd (pi_list (pe_ix ix_tup (pv 0) (pe_int) (fun _ _ => rfl))) (blkOk_by (own := [("_law_number_here", 2)]) (N := ["_law_found", "_law_name", "_law_number_here"]) (sc := defScope s_law_bits) (by decide +kernel)) (fun _ _ _ _ _ => pg_name (i := 2) sc_law_bits.nd rfl (Or.inl rfl)) (fun _ _ _ _ _ => pts_nil) (fun _ _ _ _ _ => pe_callO c_law_whole (hr.mono (by decide)) (by rfl) (pa_cons (pv 2) (pa_nil)))) (pa_nil))))) (pw_or (pt_not (pt_val (pe_callO c_law_whole (hr.mono (by decide)) (by rfl) (pa_cons (pe_ix ix_tup (pv 0) (pe_int) (fun _ _ => rfl)) (pa_nil))))) (pw_or1 (pt_not (pt_val (pe_callO c_law_whole (hr.mono (by decide)) (by rfl) (pa_cons (pe_ix ix_tup (pv 0) (pe_int) (fun _ _ => rfl)) (pa_nil))))))))) (pss_one (ps_ret (pe_bl))) (pss_nil)) (pss_one (ps_ret (pe_callB (cr_all rfl) (by rfl) T.m_all (by decide +kernel) (pa_cons (pe_lc (own := [("_law_name", 1)]) (g := gName 1) (tt := tYes) rfl sc_law_bits.nd (pi_list (pe_callTy (call_list_dK rfl) (by rfl) T.m_list (by decide +kernel) (pa_cons (pe_ix ix_tup (pv 0) (pe_int) (fun _ _ => rfl)) (pa_nil)))) (blkOk_by (own := [("_law_name", 1)]) (N := ["_law_found", "_law_name", "_law_number_here"]) (sc := defScope s_law_bits) (by decide +kernel)) (fun _ _ _ _ _ => pg_name (i := 1) sc_law_bits.nd rfl (Or.inl rfl)) (fun _ _ _ _ _ => pts_nil) (fun _ _ _ _ _ => pe_and (pe_callB call_isi (by rfl) T.m_isinstance (by decide +kernel) (pa_cons (pv 1) (pa_cons (pe_ty (by rfl) T.m_str (by decide +kernel)) (pa_nil)))) (pe_one (pe_callO c_law_whole (hr.mono (by decide)) (by rfl) (pa_cons (pe_dget (hu_of hr) (pe_ix ix_tup (pv 0) (pe_int) (fun _ _ => rfl)) (pv 1) (fun _ _ => rfl)) (pa_nil)))))) (pa_nil)))))))
theorem ok_law_alike (T : Tx w K mg)  : Ok P w K mg base 1 "_law_alike" ["_law_rows", "_law_kept"] (sp_law_alike ⟨K, tbs⟩) :=
  Ok.by_ (ts := t_law_alike ⟨K, tbs⟩) T.d_law_alike sc_law_alike len_law_alike (fun _ _ _ _ _ _ us hl => match us, hl with | [_, _], _ => rfl) rd_law_alike fun f cdv A outer s H E hr =>
    pss_one (ps_ret (pe_and (pe_callB call_isi (by rfl) T.m_isinstance (by decide +kernel) (pa_cons (pv 0) (pa_cons (pe_ty (by rfl) T.m_list (by decide +kernel)) (pa_nil)))) (pe_and (pe_cmpR op_eq (pe_callB call_len_seq (by rfl) T.m_len (by decide +kernel) (pa_cons (pv 0) (pa_nil))) (pe_callB call_len_seq (by rfl) T.m_len (by decide +kernel) (pa_cons (pv 1) (pa_nil))) (nomark _)) (pe_one (pe_cmpR (op_eqD hr.units) (pv 0) (pv 1) (nomark _))))))
theorem ok_law (T : Tx w K mg) (c_law_program : Ok P w K mg base 4 "_law_program" ["_law_script"] (sp_law_program ⟨K, tbs⟩)) (c_law_most : Ok P w K mg base 2 "_law_most" ["_law_script"] (sp_law_most ⟨K, tbs⟩)) (c_law_plain : Ok P w K mg base 4 "_law_plain" ["_law_rows", "_law_most_here"] (sp_law_plain ⟨K, tbs⟩)) (c_plain : Ok P w K mg base 7 "plain" ["rows", "most"] (sp_plain ⟨K, tbs⟩)) (c_law_alike : Ok P w K mg base 1 "_law_alike" ["_law_rows", "_law_kept"] (sp_law_alike ⟨K, tbs⟩)) (c_law_bits : Ok P w K mg base 2 "_law_bits" ["_law_found"] (sp_law_bits ⟨K, tbs⟩)) : Ok P w K mg base 8 "law" ["_law_script"] (sp_law ⟨K, tbs⟩) :=
  Ok.by_ (ts := t_law ⟨K, tbs⟩) T.d_law sc_law len_law (fun _ _ _ _ _ _ us hl => match us, hl with | [_], _ => rfl) rd_law fun f cdv A outer s H E hr =>
    pss_cons (ps_set (i := 1) sc_law.nd rfl (Or.inl rfl) (pe_callO c_law_program (hr.mono (by decide)) (by rfl) (pa_cons (pv 0) (pa_nil)))) (pss_cons (ps_set (i := 2) sc_law.nd rfl (Or.inl rfl) (pe_callO c_law_most (hr.mono (by decide)) (by rfl) (pa_cons (pv 0) (pa_nil)))) (pss_cons (ps_set (i := 3) sc_law.nd rfl (Or.inl rfl) (pe_callO c_law_plain (hr.mono (by decide)) (by rfl) (pa_cons (pv 1) (pa_cons (pv 2) (pa_nil))))) (pss_cons (ps_set (i := 4) sc_law.nd rfl (Or.inl rfl) (pe_ix ix_list (pv 3) (pe_un un_neg (pe_int)) (fun _ _ => rfl))) (pss_cons (ps_set (i := 5) sc_law.nd rfl (Or.inl rfl) (pe_tup (pa_cons (pe_ix ix_tup (pv 4) (pe_int) (fun _ _ => rfl)) (pa_cons (pe_ix ix_tup (pv 4) (pe_int) (fun _ _ => rfl)) (pa_cons (pe_ix ix_tup (pv 4) (pe_int) (fun _ _ => rfl)) (pa_cons (pe_op op_sub (pe_callB call_len_seq (by rfl) T.m_len (by decide +kernel) (pa_cons (pv 3) (pa_nil))) (pe_int)) (pa_nil))))))) (pss_cons (ps_set (i := 6) sc_law.nd rfl (Or.inl rfl) (pe_callTy call_list_of (by rfl) T.m_list (by decide +kernel) (pa_cons (pv 1) (pa_nil)))) (pss_cons (ps_set (i := 7) sc_law.nd rfl (Or.inl rfl) (pe_callO c_plain (hr.mono (by decide)) (by rfl) (pa_cons (pv 6) (pa_cons (pv 2) (pa_nil))))) (pss_cons (ps_if (PW.pt (pw_or (pt_not (pt_val (pe_callO c_law_bits (hr.mono (by decide)) (by rfl) (pa_cons (pv 7) (pa_nil))))) (pw_or1 (pt_cmpR (Fw.op_neW hr.units) (pv 7) (pv 5) (nomark _))))) (pss_one (ps_ret (pe_bl))) (pss_nil)) (pss_cons (ps_expr (pe_bm PySem.F.plainAttrs_list PySem.F.slot_list_append PySem.F.type_list_append mt_append (pe_ix ix_tup (pv 7) (pe_int) (fun _ _ => rfl)) (pa_cons (pe_int) (pa_nil)))) (pss_cons (ps_expr (pe_dclear (pe_ix ix_tup (pv 7) (pe_int) (fun _ _ => rfl)))) (pss_one (ps_ret (pe_and (pe_cmpR (Fw.op_eqW hr.units) (pe_callO c_plain (hr.mono (by decide)) (by rfl) (pa_cons (pv 6) (pa_cons (pv 2) (pa_nil)))) (pv 5) (nomark _)) (pe_one (pe_callO c_law_alike (hr.mono (by decide)) (by rfl) (pa_cons (pv 6) (pa_cons (pv 1) (pa_nil)))))))))))))))))
theorem ok_all (T : Tx w K mg) (TB_is_name : GxR.TabB base mg (He.codeOf K ("is_name", none)) (He.cT K ("is_name", none)).2) (TB_is_row : GxR.TabB base mg (He.codeOf K ("is_row", none)) (He.cT K ("is_row", none)).2) (f_tn : TnT ⟨K, tbs⟩) (f_sh : ShT ⟨K, tbs⟩) : Ok P w K mg base 8 "law" ["_law_script"] (sp_law ⟨K, tbs⟩) := by
  have o_is_name := ok_is_name (P := P) (w := w) (base := base) (tbs := tbs) T f_tn TB_is_name 
  have o_is_whole := ok_is_whole (P := P) (w := w) (base := base) (tbs := tbs) T 
  have o_is_number := ok_is_number (P := P) (w := w) (base := base) (tbs := tbs) T o_is_whole
  have o_is_part := ok_is_part (P := P) (w := w) (base := base) (tbs := tbs) T o_is_whole o_is_name o_is_number
  have o_is_row := ok_is_row (P := P) (w := w) (base := base) (tbs := tbs) T f_sh f_tn TB_is_row o_is_part
  have o_has_its_place := ok_has_its_place (P := P) (w := w) (base := base) (tbs := tbs) T 
  have o_checked := ok_checked (P := P) (w := w) (base := base) (tbs := tbs) T o_is_row o_has_its_place
  have o_names_of := ok_names_of (P := P) (w := w) (base := base) (tbs := tbs) T f_sh 
  have o_names_in := ok_names_in (P := P) (w := w) (base := base) (tbs := tbs) T o_names_of
  have o_outcome := ok_outcome (P := P) (w := w) (base := base) (tbs := tbs) T 
  have o_held := ok_held (P := P) (w := w) (base := base) (tbs := tbs) T 
  have o_number_for := ok_number_for (P := P) (w := w) (base := base) (tbs := tbs) T o_outcome o_held
  have o_do_step := ok_do_step (P := P) (w := w) (base := base) (tbs := tbs) T o_number_for
  have o_is_over := ok_is_over (P := P) (w := w) (base := base) (tbs := tbs) T 
  have o_plain := ok_plain (P := P) (w := w) (base := base) (tbs := tbs) T o_checked o_do_step o_names_in o_is_over
  have o_law_cell_at := ok_law_cell_at (P := P) (w := w) (base := base) (tbs := tbs) T 
  have o_law_whole := ok_law_whole (P := P) (w := w) (base := base) (tbs := tbs) T 
  have o_law_names := ok_law_names (P := P) (w := w) (base := base) (tbs := tbs) T 
  have o_law_number := ok_law_number (P := P) (w := w) (base := base) (tbs := tbs) T 
  have o_law_straight := ok_law_straight (P := P) (w := w) (base := base) (tbs := tbs) T o_law_number
  have o_law_body := ok_law_body (P := P) (w := w) (base := base) (tbs := tbs) T o_law_cell_at o_law_straight
  have o_law_wild := ok_law_wild (P := P) (w := w) (base := base) (tbs := tbs) T o_law_cell_at o_law_straight
  have o_law_turn := ok_law_turn (P := P) (w := w) (base := base) (tbs := tbs) T 
  have o_law_program := ok_law_program (P := P) (w := w) (base := base) (tbs := tbs) T o_law_names o_law_cell_at o_law_turn o_law_wild o_law_body
  have o_law_most := ok_law_most (P := P) (w := w) (base := base) (tbs := tbs) T o_law_cell_at
  have o_law_value := ok_law_value (P := P) (w := w) (base := base) (tbs := tbs) T 
  have o_law_done := ok_law_done (P := P) (w := w) (base := base) (tbs := tbs) T o_law_value
  have o_law_told := ok_law_told (P := P) (w := w) (base := base) (tbs := tbs) T o_law_value
  have o_law_step := ok_law_step (P := P) (w := w) (base := base) (tbs := tbs) T o_law_done o_law_told
  have o_law_over := ok_law_over (P := P) (w := w) (base := base) (tbs := tbs) T 
  have o_law_all := ok_law_all (P := P) (w := w) (base := base) (tbs := tbs) T 
  have o_law_plain := ok_law_plain (P := P) (w := w) (base := base) (tbs := tbs) T o_law_step o_law_all o_law_over
  have o_law_bits := ok_law_bits (P := P) (w := w) (base := base) (tbs := tbs) T o_law_whole
  have o_law_alike := ok_law_alike (P := P) (w := w) (base := base) (tbs := tbs) T 
  have o_law := ok_law (P := P) (w := w) (base := base) (tbs := tbs) T o_law_program o_law_most o_law_plain o_plain o_law_alike o_law_bits
  exact o_law
end
def dd_is_name : He.DefD := ⟨("is_name", none), "is_name", "is_name", defArgs s_is_name, defBody s_is_name, defScope s_is_name, [], []⟩
def dd_is_whole : He.DefD := ⟨("is_whole", none), "is_whole", "is_whole", defArgs s_is_whole, defBody s_is_whole, defScope s_is_whole, [], []⟩
def dd_is_number : He.DefD := ⟨("is_number", none), "is_number", "is_number", defArgs s_is_number, defBody s_is_number, defScope s_is_number, [], []⟩
def dd_is_part : He.DefD := ⟨("is_part", none), "is_part", "is_part", defArgs s_is_part, defBody s_is_part, defScope s_is_part, [], []⟩
def dd_is_row : He.DefD := ⟨("is_row", none), "is_row", "is_row", defArgs s_is_row, defBody s_is_row, defScope s_is_row, [], []⟩
def dd_has_its_place : He.DefD := ⟨("has_its_place", none), "has_its_place", "has_its_place", defArgs s_has_its_place, defBody s_has_its_place, defScope s_has_its_place, [], []⟩
def dd_checked : He.DefD := ⟨("checked", none), "checked", "checked", defArgs s_checked, defBody s_checked, defScope s_checked, [], []⟩
def dd_names_of : He.DefD := ⟨("names_of", none), "names_of", "names_of", defArgs s_names_of, defBody s_names_of, defScope s_names_of, [], []⟩
def dd_names_in : He.DefD := ⟨("names_in", none), "names_in", "names_in", defArgs s_names_in, defBody s_names_in, defScope s_names_in, [], []⟩
def dd_outcome : He.DefD := ⟨("outcome", none), "outcome", "outcome", defArgs s_outcome, defBody s_outcome, defScope s_outcome, [], []⟩
def dd_held : He.DefD := ⟨("held", none), "held", "held", defArgs s_held, defBody s_held, defScope s_held, [], []⟩
def dd_number_for : He.DefD := ⟨("number_for", none), "number_for", "number_for", defArgs s_number_for, defBody s_number_for, defScope s_number_for, [], []⟩
def dd_do_step : He.DefD := ⟨("do_step", none), "do_step", "do_step", defArgs s_do_step, defBody s_do_step, defScope s_do_step, [], []⟩
def dd_is_over : He.DefD := ⟨("is_over", none), "is_over", "is_over", defArgs s_is_over, defBody s_is_over, defScope s_is_over, [], []⟩
def dd_plain : He.DefD := ⟨("plain", none), "plain", "plain", defArgs s_plain, defBody s_plain, defScope s_plain, [], []⟩
def dd_law_cell_at : He.DefD := ⟨("_law_cell_at", none), "_law_cell_at", "_law_cell_at", defArgs s_law_cell_at, defBody s_law_cell_at, defScope s_law_cell_at, [], []⟩
def dd_law_whole : He.DefD := ⟨("_law_whole", none), "_law_whole", "_law_whole", defArgs s_law_whole, defBody s_law_whole, defScope s_law_whole, [], []⟩
def dd_law_names : He.DefD := ⟨("_law_names", none), "_law_names", "_law_names", defArgs s_law_names, defBody s_law_names, defScope s_law_names, [], []⟩
def dd_law_number : He.DefD := ⟨("_law_number", none), "_law_number", "_law_number", defArgs s_law_number, defBody s_law_number, defScope s_law_number, [], []⟩
def dd_law_straight : He.DefD := ⟨("_law_straight", none), "_law_straight", "_law_straight", defArgs s_law_straight, defBody s_law_straight, defScope s_law_straight, [], []⟩
def dd_law_body : He.DefD := ⟨("_law_body", none), "_law_body", "_law_body", defArgs s_law_body, defBody s_law_body, defScope s_law_body, [], []⟩
def dd_law_wild : He.DefD := ⟨("_law_wild", none), "_law_wild", "_law_wild", defArgs s_law_wild, defBody s_law_wild, defScope s_law_wild, [], []⟩
def dd_law_turn : He.DefD := ⟨("_law_turn", none), "_law_turn", "_law_turn", defArgs s_law_turn, defBody s_law_turn, defScope s_law_turn, [], []⟩
def dd_law_program : He.DefD := ⟨("_law_program", none), "_law_program", "_law_program", defArgs s_law_program, defBody s_law_program, defScope s_law_program, [], []⟩
def dd_law_most : He.DefD := ⟨("_law_most", none), "_law_most", "_law_most", defArgs s_law_most, defBody s_law_most, defScope s_law_most, [], []⟩
def dd_law_value : He.DefD := ⟨("_law_value", none), "_law_value", "_law_value", defArgs s_law_value, defBody s_law_value, defScope s_law_value, [], []⟩
def dd_law_done : He.DefD := ⟨("_law_done", none), "_law_done", "_law_done", defArgs s_law_done, defBody s_law_done, defScope s_law_done, [], []⟩
def dd_law_told : He.DefD := ⟨("_law_told", none), "_law_told", "_law_told", defArgs s_law_told, defBody s_law_told, defScope s_law_told, [], []⟩
def dd_law_step : He.DefD := ⟨("_law_step", none), "_law_step", "_law_step", defArgs s_law_step, defBody s_law_step, defScope s_law_step, [], []⟩
def dd_law_over : He.DefD := ⟨("_law_over", none), "_law_over", "_law_over", defArgs s_law_over, defBody s_law_over, defScope s_law_over, [], []⟩
def dd_law_all : He.DefD := ⟨("_law_all", none), "_law_all", "_law_all", defArgs s_law_all, defBody s_law_all, defScope s_law_all, [], []⟩
def dd_law_plain : He.DefD := ⟨("_law_plain", none), "_law_plain", "_law_plain", defArgs s_law_plain, defBody s_law_plain, defScope s_law_plain, [], []⟩
def dd_law_bits : He.DefD := ⟨("_law_bits", none), "_law_bits", "_law_bits", defArgs s_law_bits, defBody s_law_bits, defScope s_law_bits, [], []⟩
def dd_law_alike : He.DefD := ⟨("_law_alike", none), "_law_alike", "_law_alike", defArgs s_law_alike, defBody s_law_alike, defScope s_law_alike, [], []⟩
def dd_law : He.DefD := ⟨("law", none), "law", "law", defArgs s_law, defBody s_law, defScope s_law, [], []⟩
def fn : List He.DefD := (dd_is_name :: dd_is_whole :: dd_is_number :: dd_is_part :: dd_is_row :: dd_has_its_place :: dd_checked :: dd_names_of :: dd_names_in :: dd_outcome :: dd_held :: dd_number_for :: dd_do_step :: dd_is_over :: dd_plain :: dd_law_cell_at :: dd_law_whole :: dd_law_names :: dd_law_number :: dd_law_straight :: dd_law_body :: dd_law_wild :: dd_law_turn :: dd_law_program :: dd_law_most :: dd_law_value :: dd_law_done :: dd_law_told :: dd_law_step :: dd_law_over :: dd_law_all :: dd_law_plain :: dd_law_bits :: dd_law_alike :: dd_law :: [])
def fa : List He.Fa := (.glo "is_name" :: .glo "is_whole" :: .glo "is_number" :: .glo "is_part" :: .glo "is_row" :: .glo "has_its_place" :: .glo "checked" :: .glo "names_of" :: .glo "names_in" :: .glo "outcome" :: .glo "held" :: .glo "number_for" :: .glo "do_step" :: .glo "is_over" :: .glo "plain" :: .glo "_law_cell_at" :: .glo "_law_whole" :: .glo "_law_names" :: .glo "_law_number" :: .glo "_law_straight" :: .glo "_law_body" :: .glo "_law_wild" :: .glo "_law_turn" :: .glo "_law_program" :: .glo "_law_most" :: .glo "_law_value" :: .glo "_law_done" :: .glo "_law_told" :: .glo "_law_step" :: .glo "_law_over" :: .glo "_law_all" :: .glo "_law_plain" :: .glo "_law_bits" :: .glo "_law_alike" :: .glo "law" :: .free "all" :: .free "bool" :: .free "dict" :: .free "enumerate" :: .free "int" :: .free "isinstance" :: .free "len" :: .free "list" :: .free "min" :: .free "range" :: .free "sorted" :: .free "str" :: .free "tuple" :: .free "zip" :: .int "MOST_LETTERS" 8 :: .int "NUMBERS" 1000000 :: .glo "SHAPES" :: [])
def ts : List He.Tab := [(fun K => He.ga K "SHAPES", ["put", "copy", "add", "minus", "times", "less", "tell", "jump", "zero", "stop"])]
def tf : List He.Defn := [("is_name", none), ("is_row", none)]
def ex (K : PySem.W.Frag) : Bool := tupIn K (He.ga K "SHAPES") "put" ["name", "number"] && (tupIn K (He.ga K "SHAPES") "copy" ["name", "name"] && (tupIn K (He.ga K "SHAPES") "add" ["name", "name", "name"] && (tupIn K (He.ga K "SHAPES") "minus" ["name", "name", "name"] && (tupIn K (He.ga K "SHAPES") "times" ["name", "name", "name"] && (tupIn K (He.ga K "SHAPES") "less" ["name", "name", "name"] && (tupIn K (He.ga K "SHAPES") "tell" ["name"] && (tupIn K (He.ga K "SHAPES") "jump" ["place"] && (tupIn K (He.ga K "SHAPES") "zero" ["name", "place"] && (tupIn K (He.ga K "SHAPES") "stop" [])))))))))
theorem shapes_of {K : PySem.W.Frag} {tbs : List Addr} (h : ex K = true) : ShT ⟨K, tbs⟩ := by
  obtain ⟨h_put, h⟩ := He.ba h
  obtain ⟨h_copy, h⟩ := He.ba h
  obtain ⟨h_add, h⟩ := He.ba h
  obtain ⟨h_minus, h⟩ := He.ba h
  obtain ⟨h_times, h⟩ := He.ba h
  obtain ⟨h_less, h⟩ := He.ba h
  obtain ⟨h_tell, h⟩ := He.ba h
  obtain ⟨h_jump, h⟩ := He.ba h
  obtain ⟨h_zero, h⟩ := He.ba h
  refine ⟨fun row => ?_⟩
  cases row with
  | put x v => exact h_put
  | copy x s => exact h_copy
  | op w x a b => cases w <;> assumption
  | tell s => exact h_tell
  | jump p => exact h_jump
  | zero x p => exact h_zero
  | stop => exact h
abbrev R : PySem.W.OpenRow := PySem.W.OpenLaw.row PySem.Challenge.rw_tracefold_k03_a_plain_run
abbrev hk : PySem.W.Hook := He.hookX 5 fa fn ts tf ex
def ob (s : PySem.W.SharedT) : He.AlX := He.obsX 5 fa fn ts tf ex (HandSHeadRun.getT s)
theorem ob_eq (s : PySem.W.SharedT) : ob s = hk.obs s.abs := He.obsX_eq (HandSHeadRun.getT_eq s)
theorem run (w : World) : HandSHeadRun.RunEq R (PySem.W.view R.prog [44]) hk ob 5000 ("FoldError" :: "NoRow" :: "NoPlace" :: "NUMBERS" :: "MOST_LETTERS" :: "SHAPES" :: "is_name" :: "is_whole" :: "is_number" :: "is_part" :: "is_row" :: "has_its_place" :: "checked" :: "names_of" :: "names_in" :: "outcome" :: "held" :: "number_for" :: "do_step" :: "is_over" :: "plain" :: "_law_cell_at" :: "_law_whole" :: "_law_names" :: "_law_number" :: "_law_straight" :: "_law_body" :: "_law_wild" :: "_law_turn" :: "_law_program" :: "_law_most" :: "_law_value" :: "_law_done" :: "_law_told" :: "_law_step" :: "_law_over" :: "_law_all" :: "_law_plain" :: "_law_bits" :: "_law_alike" :: []) w :=
  PySem.W.byRow2 "special-get-raises" (P := fun w => HandSHeadRun.RunEq R (PySem.W.view R.prog [44]) hk ob 5000 ("FoldError" :: "NoRow" :: "NoPlace" :: "NUMBERS" :: "MOST_LETTERS" :: "SHAPES" :: "is_name" :: "is_whole" :: "is_number" :: "is_part" :: "is_row" :: "has_its_place" :: "checked" :: "names_of" :: "names_in" :: "outcome" :: "held" :: "number_for" :: "do_step" :: "is_over" :: "plain" :: "_law_cell_at" :: "_law_whole" :: "_law_names" :: "_law_number" :: "_law_straight" :: "_law_body" :: "_law_wild" :: "_law_turn" :: "_law_program" :: "_law_most" :: "_law_value" :: "_law_done" :: "_law_told" :: "_law_step" :: "_law_over" :: "_law_all" :: "_law_plain" :: "_law_bits" :: "_law_alike" :: []) w) (fun w => by
  intro os
  kernel_rfl) (fun w => by
  intro os
  kernel_rfl) w
theorem facts {P : Program} {w : World} {K : PySem.W.Frag} {h : Heap} {mg : Str → Option Value} {f : Addr} (X : K.In h) (G : h.Ns mainGlobals mg) (hfa : mg ("law" : Str) = some (.ref f)) (c : He.SaysX fa fn ts tf ex w h K) :
    ∃ fd : FuncData, (∀ (s : Shared) (v : Value), BindsTo s fd ⟨[v], []⟩ [("_law_script", v)]) ∧ ∀ base : Heap, K.In base → base.Ns mainGlobals mg → (∀ p ∈ tf.map (He.cT K), LamX.TabB base mg p.1 p.2) → FnOk P w K mg base CX0 8 f fd ["_law_script"] (sp_law ⟨K, [(He.cT K ("is_name", none)).2, (He.cT K ("is_row", none)).2]⟩) := by
  have D_is_name : DefAtT K mg "is_name" s_is_name := by
    obtain ⟨fd, F⟩ := c.t.d.def_ 0 (d := dd_is_name) rfl
    exact ⟨fd, F, He.glo_ok X G (c.t.d.fact 0 (f := .glo "is_name") rfl)⟩
  have D_is_whole : DefAt K mg "is_whole" s_is_whole := by
    obtain ⟨fd, F⟩ := c.t.d.def_ 1 (d := dd_is_whole) rfl
    exact ⟨_, fd, F, He.glo_ok X G (c.t.d.fact 1 (f := .glo "is_whole") rfl)⟩
  have D_is_number : DefAt K mg "is_number" s_is_number := by
    obtain ⟨fd, F⟩ := c.t.d.def_ 2 (d := dd_is_number) rfl
    exact ⟨_, fd, F, He.glo_ok X G (c.t.d.fact 2 (f := .glo "is_number") rfl)⟩
  have D_is_part : DefAt K mg "is_part" s_is_part := by
    obtain ⟨fd, F⟩ := c.t.d.def_ 3 (d := dd_is_part) rfl
    exact ⟨_, fd, F, He.glo_ok X G (c.t.d.fact 3 (f := .glo "is_part") rfl)⟩
  have D_is_row : DefAtT K mg "is_row" s_is_row := by
    obtain ⟨fd, F⟩ := c.t.d.def_ 4 (d := dd_is_row) rfl
    exact ⟨fd, F, He.glo_ok X G (c.t.d.fact 4 (f := .glo "is_row") rfl)⟩
  have D_has_its_place : DefAt K mg "has_its_place" s_has_its_place := by
    obtain ⟨fd, F⟩ := c.t.d.def_ 5 (d := dd_has_its_place) rfl
    exact ⟨_, fd, F, He.glo_ok X G (c.t.d.fact 5 (f := .glo "has_its_place") rfl)⟩
  have D_checked : DefAt K mg "checked" s_checked := by
    obtain ⟨fd, F⟩ := c.t.d.def_ 6 (d := dd_checked) rfl
    exact ⟨_, fd, F, He.glo_ok X G (c.t.d.fact 6 (f := .glo "checked") rfl)⟩
  have D_names_of : DefAt K mg "names_of" s_names_of := by
    obtain ⟨fd, F⟩ := c.t.d.def_ 7 (d := dd_names_of) rfl
    exact ⟨_, fd, F, He.glo_ok X G (c.t.d.fact 7 (f := .glo "names_of") rfl)⟩
  have D_names_in : DefAt K mg "names_in" s_names_in := by
    obtain ⟨fd, F⟩ := c.t.d.def_ 8 (d := dd_names_in) rfl
    exact ⟨_, fd, F, He.glo_ok X G (c.t.d.fact 8 (f := .glo "names_in") rfl)⟩
  have D_outcome : DefAt K mg "outcome" s_outcome := by
    obtain ⟨fd, F⟩ := c.t.d.def_ 9 (d := dd_outcome) rfl
    exact ⟨_, fd, F, He.glo_ok X G (c.t.d.fact 9 (f := .glo "outcome") rfl)⟩
  have D_held : DefAt K mg "held" s_held := by
    obtain ⟨fd, F⟩ := c.t.d.def_ 10 (d := dd_held) rfl
    exact ⟨_, fd, F, He.glo_ok X G (c.t.d.fact 10 (f := .glo "held") rfl)⟩
  have D_number_for : DefAt K mg "number_for" s_number_for := by
    obtain ⟨fd, F⟩ := c.t.d.def_ 11 (d := dd_number_for) rfl
    exact ⟨_, fd, F, He.glo_ok X G (c.t.d.fact 11 (f := .glo "number_for") rfl)⟩
  have D_do_step : DefAt K mg "do_step" s_do_step := by
    obtain ⟨fd, F⟩ := c.t.d.def_ 12 (d := dd_do_step) rfl
    exact ⟨_, fd, F, He.glo_ok X G (c.t.d.fact 12 (f := .glo "do_step") rfl)⟩
  have D_is_over : DefAt K mg "is_over" s_is_over := by
    obtain ⟨fd, F⟩ := c.t.d.def_ 13 (d := dd_is_over) rfl
    exact ⟨_, fd, F, He.glo_ok X G (c.t.d.fact 13 (f := .glo "is_over") rfl)⟩
  have D_plain : DefAt K mg "plain" s_plain := by
    obtain ⟨fd, F⟩ := c.t.d.def_ 14 (d := dd_plain) rfl
    exact ⟨_, fd, F, He.glo_ok X G (c.t.d.fact 14 (f := .glo "plain") rfl)⟩
  have D_law_cell_at : DefAt K mg "_law_cell_at" s_law_cell_at := by
    obtain ⟨fd, F⟩ := c.t.d.def_ 15 (d := dd_law_cell_at) rfl
    exact ⟨_, fd, F, He.glo_ok X G (c.t.d.fact 15 (f := .glo "_law_cell_at") rfl)⟩
  have D_law_whole : DefAt K mg "_law_whole" s_law_whole := by
    obtain ⟨fd, F⟩ := c.t.d.def_ 16 (d := dd_law_whole) rfl
    exact ⟨_, fd, F, He.glo_ok X G (c.t.d.fact 16 (f := .glo "_law_whole") rfl)⟩
  have D_law_names : DefAt K mg "_law_names" s_law_names := by
    obtain ⟨fd, F⟩ := c.t.d.def_ 17 (d := dd_law_names) rfl
    exact ⟨_, fd, F, He.glo_ok X G (c.t.d.fact 17 (f := .glo "_law_names") rfl)⟩
  have D_law_number : DefAt K mg "_law_number" s_law_number := by
    obtain ⟨fd, F⟩ := c.t.d.def_ 18 (d := dd_law_number) rfl
    exact ⟨_, fd, F, He.glo_ok X G (c.t.d.fact 18 (f := .glo "_law_number") rfl)⟩
  have D_law_straight : DefAt K mg "_law_straight" s_law_straight := by
    obtain ⟨fd, F⟩ := c.t.d.def_ 19 (d := dd_law_straight) rfl
    exact ⟨_, fd, F, He.glo_ok X G (c.t.d.fact 19 (f := .glo "_law_straight") rfl)⟩
  have D_law_body : DefAt K mg "_law_body" s_law_body := by
    obtain ⟨fd, F⟩ := c.t.d.def_ 20 (d := dd_law_body) rfl
    exact ⟨_, fd, F, He.glo_ok X G (c.t.d.fact 20 (f := .glo "_law_body") rfl)⟩
  have D_law_wild : DefAt K mg "_law_wild" s_law_wild := by
    obtain ⟨fd, F⟩ := c.t.d.def_ 21 (d := dd_law_wild) rfl
    exact ⟨_, fd, F, He.glo_ok X G (c.t.d.fact 21 (f := .glo "_law_wild") rfl)⟩
  have D_law_turn : DefAt K mg "_law_turn" s_law_turn := by
    obtain ⟨fd, F⟩ := c.t.d.def_ 22 (d := dd_law_turn) rfl
    exact ⟨_, fd, F, He.glo_ok X G (c.t.d.fact 22 (f := .glo "_law_turn") rfl)⟩
  have D_law_program : DefAt K mg "_law_program" s_law_program := by
    obtain ⟨fd, F⟩ := c.t.d.def_ 23 (d := dd_law_program) rfl
    exact ⟨_, fd, F, He.glo_ok X G (c.t.d.fact 23 (f := .glo "_law_program") rfl)⟩
  have D_law_most : DefAt K mg "_law_most" s_law_most := by
    obtain ⟨fd, F⟩ := c.t.d.def_ 24 (d := dd_law_most) rfl
    exact ⟨_, fd, F, He.glo_ok X G (c.t.d.fact 24 (f := .glo "_law_most") rfl)⟩
  have D_law_value : DefAt K mg "_law_value" s_law_value := by
    obtain ⟨fd, F⟩ := c.t.d.def_ 25 (d := dd_law_value) rfl
    exact ⟨_, fd, F, He.glo_ok X G (c.t.d.fact 25 (f := .glo "_law_value") rfl)⟩
  have D_law_done : DefAt K mg "_law_done" s_law_done := by
    obtain ⟨fd, F⟩ := c.t.d.def_ 26 (d := dd_law_done) rfl
    exact ⟨_, fd, F, He.glo_ok X G (c.t.d.fact 26 (f := .glo "_law_done") rfl)⟩
  have D_law_told : DefAt K mg "_law_told" s_law_told := by
    obtain ⟨fd, F⟩ := c.t.d.def_ 27 (d := dd_law_told) rfl
    exact ⟨_, fd, F, He.glo_ok X G (c.t.d.fact 27 (f := .glo "_law_told") rfl)⟩
  have D_law_step : DefAt K mg "_law_step" s_law_step := by
    obtain ⟨fd, F⟩ := c.t.d.def_ 28 (d := dd_law_step) rfl
    exact ⟨_, fd, F, He.glo_ok X G (c.t.d.fact 28 (f := .glo "_law_step") rfl)⟩
  have D_law_over : DefAt K mg "_law_over" s_law_over := by
    obtain ⟨fd, F⟩ := c.t.d.def_ 29 (d := dd_law_over) rfl
    exact ⟨_, fd, F, He.glo_ok X G (c.t.d.fact 29 (f := .glo "_law_over") rfl)⟩
  have D_law_all : DefAt K mg "_law_all" s_law_all := by
    obtain ⟨fd, F⟩ := c.t.d.def_ 30 (d := dd_law_all) rfl
    exact ⟨_, fd, F, He.glo_ok X G (c.t.d.fact 30 (f := .glo "_law_all") rfl)⟩
  have D_law_plain : DefAt K mg "_law_plain" s_law_plain := by
    obtain ⟨fd, F⟩ := c.t.d.def_ 31 (d := dd_law_plain) rfl
    exact ⟨_, fd, F, He.glo_ok X G (c.t.d.fact 31 (f := .glo "_law_plain") rfl)⟩
  have D_law_bits : DefAt K mg "_law_bits" s_law_bits := by
    obtain ⟨fd, F⟩ := c.t.d.def_ 32 (d := dd_law_bits) rfl
    exact ⟨_, fd, F, He.glo_ok X G (c.t.d.fact 32 (f := .glo "_law_bits") rfl)⟩
  have D_law_alike : DefAt K mg "_law_alike" s_law_alike := by
    obtain ⟨fd, F⟩ := c.t.d.def_ 33 (d := dd_law_alike) rfl
    exact ⟨_, fd, F, He.glo_ok X G (c.t.d.fact 33 (f := .glo "_law_alike") rfl)⟩
  have D_law : DefAt K mg "law" s_law := by
    obtain ⟨fd, F⟩ := c.t.d.def_ 34 (d := dd_law) rfl
    exact ⟨_, fd, F, He.glo_ok X G (c.t.d.fact 34 (f := .glo "law") rfl)⟩
  have T : Tx w K mg := ⟨D_is_name, D_is_whole, D_is_number, D_is_part, D_is_row, D_has_its_place, D_checked, D_names_of, D_names_in, D_outcome, D_held, D_number_for, D_do_step, D_is_over, D_plain, D_law_cell_at, D_law_whole, D_law_names, D_law_number, D_law_straight, D_law_body, D_law_wild, D_law_turn, D_law_program, D_law_most, D_law_value, D_law_done, D_law_told, D_law_step, D_law_over, D_law_all, D_law_plain, D_law_bits, D_law_alike, D_law, He.free_ok X G (c.t.d.fact 35 (f := .free "all") rfl), He.free_ok X G (c.t.d.fact 36 (f := .free "bool") rfl), He.free_ok X G (c.t.d.fact 37 (f := .free "dict") rfl), He.free_ok X G (c.t.d.fact 38 (f := .free "enumerate") rfl), He.free_ok X G (c.t.d.fact 39 (f := .free "int") rfl), He.free_ok X G (c.t.d.fact 40 (f := .free "isinstance") rfl), He.free_ok X G (c.t.d.fact 41 (f := .free "len") rfl), He.free_ok X G (c.t.d.fact 42 (f := .free "list") rfl), He.free_ok X G (c.t.d.fact 43 (f := .free "min") rfl), He.free_ok X G (c.t.d.fact 44 (f := .free "range") rfl), He.free_ok X G (c.t.d.fact 45 (f := .free "sorted") rfl), He.free_ok X G (c.t.d.fact 46 (f := .free "str") rfl), He.free_ok X G (c.t.d.fact 47 (f := .free "tuple") rfl), He.free_ok X G (c.t.d.fact 48 (f := .free "zip") rfl), He.int_ok X G (c.t.d.fact 49 (f := .int "MOST_LETTERS" 8) rfl), He.int_ok X G (c.t.d.fact 50 (f := .int "NUMBERS" 1000000) rfl), He.glo_ok X G (c.t.d.fact 51 (f := .glo "SHAPES") rfl), c.t.tab 0⟩
  have f_tn : TnT ⟨K, [(He.cT K ("is_name", none)).2, (He.cT K ("is_row", none)).2]⟩ := ⟨List.mem_cons_self, List.mem_cons_of_mem _ List.mem_cons_self⟩
  have f_sh : ShT ⟨K, [(He.cT K ("is_name", none)).2, (He.cT K ("is_row", none)).2]⟩ := shapes_of c.more
  obtain ⟨fdL, FL⟩ := c.t.d.def_ 34 (d := dd_law) rfl
  have b := FunD.bindsA (ps := ["_law_script"]) FL fun _ _ _ _ _ _ us hl => match us, hl with | [_], _ => rfl
  have e := hfa.symm.trans (He.glo_ok X G (c.t.d.fact 34 (f := .glo "law") rfl))
  cases e
  refine ⟨fdL, fun s v => b s [v] rfl, fun base _ _ hTB => ?_⟩
  have TB_is_name : GxR.TabB base mg (He.codeOf K ("is_name", none)) (He.cT K ("is_name", none)).2 := by
    have z := hTB (He.cT K ("is_name", none)) List.mem_cons_self
    exact ⟨z.code, z.bm, z.gP⟩
  have TB_is_row : GxR.TabB base mg (He.codeOf K ("is_row", none)) (He.cT K ("is_row", none)).2 := by
    have z := hTB (He.cT K ("is_row", none)) (List.mem_cons_of_mem _ List.mem_cons_self)
    exact ⟨z.code, z.bm, z.gP⟩
  obtain ⟨f2, fd2, o⟩ := ok_all (P := P) (w := w) (base := base) (tbs := [(He.cT K ("is_name", none)).2, (He.cT K ("is_row", none)).2]) T TB_is_name TB_is_row f_tn f_sh
  have e2 := hfa.symm.trans o.mg
  cases e2
  have hok := o.ok
  have e3 : fd2 = fdL := ok_same (st := s_law) o FL
  subst e3
  exact hok
end Lw
open PySem PySem.W PySem.Calls PyProof.Rows
set_option maxRecDepth 100000 in
set_option maxHeartbeats 0 in
theorem PySem.Challenge.cw_tracefold_k03_a_plain_run_holds : PySem.Challenge.rw_tracefold_k03_a_plain_run.Holds := by
  w_on; o_law
  refine HandSHeadRun.head_any (r := OpenLaw.row PySem.Challenge.rw_tracefold_k03_a_plain_run) (q := view (OpenLaw.row PySem.Challenge.rw_tracefold_k03_a_plain_run).prog [44]) (H := Lw.hk) (ob := Lw.ob) (M := 5000) (loose := ("FoldError" :: "NoRow" :: "NoPlace" :: "NUMBERS" :: "MOST_LETTERS" :: "SHAPES" :: "is_name" :: "is_whole" :: "is_number" :: "is_part" :: "is_row" :: "has_its_place" :: "checked" :: "names_of" :: "names_in" :: "outcome" :: "held" :: "number_for" :: "do_step" :: "is_over" :: "plain" :: "_law_cell_at" :: "_law_whole" :: "_law_names" :: "_law_number" :: "_law_straight" :: "_law_body" :: "_law_wild" :: "_law_turn" :: "_law_program" :: "_law_most" :: "_law_value" :: "_law_done" :: "_law_told" :: "_law_step" :: "_law_over" :: "_law_all" :: "_law_plain" :: "_law_bits" :: "_law_alike" :: [])) (d := HandSHeadRun.topDef (OpenLaw.row PySem.Challenge.rw_tracefold_k03_a_plain_run).prog 44) (kwd := []) Lw.ob_eq
    (by kernel_rfl) (fun s => by kernel_rfl) Lw.run (by kernel_rfl) (by kernel_rfl) (by kernel_rfl) (by rfl) (by first | assumption | decide +kernel) (by decide +kernel) ⟨rfl, rfl, rfl, rfl, rfl, by decide +kernel⟩ ?hw ?hc
  case hw => w_witness2
  case hc =>
    refine LamX.walk_ofTsE (l := PySem.Challenge.rw_tracefold_k03_a_plain_run) (n := 63) (k := 8) (x := "_law_script") (CX := fun _ => L2.CX0) rfl (by decide) (by kernel_rfl) ⟨rfl, by decide, by decide⟩ ?F (fun _ _ _ _ _ z => z)
    intro w mg fa h Y G hmg0
    obtain ⟨K, KX, c⟩ := Y
    have hmg : mg ("law" : PySem.Str) = some (.ref fa) := by
      have e : (HandSHeadRun.topDef (OpenLaw.row PySem.Challenge.rw_tracefold_k03_a_plain_run).prog 44).name = ("law" : PySem.Str) := by kernel_rfl
      rw [← e]
      exact hmg0
    obtain ⟨fd, hb, hF⟩ := Lw.facts (P := (PySem.Challenge.rw_tracefold_k03_a_plain_run).prog) (w := w) KX G hmg c
    exact ⟨K, KX, fd, Lw.tf.map (He.cT K), Lw.sp_law ⟨K, [(He.cT K ("is_name", none)).2, (He.cT K ("is_row", none)).2]⟩, fun p hp => by obtain ⟨q, hq, e⟩ := List.mem_map.mp hp; subst e; exact c.empty q hq, fun p hp => by obtain ⟨q, hq, e⟩ := List.mem_map.mp hp; subst e; exact c.out q hq, fun p hp => by obtain ⟨q, hq, e⟩ := List.mem_map.mp hp; subst e; exact PySem.W.codeHd_of_K KX (c.hd q hq), hb, fun H a ns hl _ hT hS => Lw.law_asked hl hS (fun t ht => by
      obtain ⟨p, hp, e⟩ := List.mem_map.mp (show t ∈ (Lw.tf.map (He.cT K)).map (fun p => p.2) from ht)
      subst e
      exact ⟨#[], hT p hp, True.intro⟩), fun base kb ns tb => hF base kb ns tb⟩
