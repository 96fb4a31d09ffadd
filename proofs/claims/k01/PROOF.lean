import PyProof.Rows.All
import Wide.All
import OpenK.AllK
import Wide.FinOn
import HandS.ForMost
import HandS.Evl
import HandS.Walk
import HandS.Star
import HandS.Property
import HandS.ClsMeth
import HandS.TupAny
import HandS.TupMul
import HandS.IsInst
import HandS.EndTab
import HandS.Conv
import HandS.Style
import HandS.Zip
import HandS.RaiseMore
import HandS.FStr
import HandS.ExcSuper
import HandS.ExcInit
import HandS.WordsExc
import HandS.Small
import HandS.WideBits
import HandS.Wide
import HandS.ListItems
import HandS.ExcIs
import HandS.SetFor
import KE.GoesEnum
import HandS.Records
import HandS.Gcd
import HandS.Iter
import HandS.GenBody
import HandS.GenYield
import HandS.GenCall
import HandS.GenList
import PyProof.GenComp
import HandS.Deep
import OpenK.KMeth
import HandS.RevRange
import HandS.Sort
import HandS.Codes
import HandS.Flt
import HandS.MethStar
import HandS.Flow
import HandS.SortInts
import HandS.Lambda
import KE.KExcSuper
import HandS.TryOnly
import HandS.ExcField
import HandS.MapObj
import KE.DatumOrd
import HandS.HeadWalk
import PySem.Challenge.RW_topletter_k01_timetables_and_their_signs
set_option Elab.async false
set_option linter.all false
set_option maxRecDepth 100000
set_option maxHeartbeats 4000000
namespace Q
open PySem PySem.Spec PyProof.Rows L2
open Evl (Ex)


/-! ### what values are, told of a heap that only grows -/
inductive D where
  | p (d : PyData)
  | scr (ns : List Int)
  | tt (rows : List (Int × Int))
  | adr (a : Addr)
  | dct (f : Int → Option Int)
  /-- a tuple of four, a dict of numbers in its second place -/
  | pl4 (a : PyData) (f : Int → Option Int) (b c : PyData)
  /-- range(hi) -/
  | rng (hi : Int)
  /-- a tuple of which it is known that it has no dict: what a star parameter is given -/
  | ptup (ds : List PyData)
  /-- whatever a heap of data tells of it -/
  | sem (R : Hp → V → Prop)
abbrev rowD (r : Int × Int) : PyData := .tuple [.int r.1, .int r.2]
mutual
inductive Rp (G : Hp) : V → PyData → Prop
  | non : Rp G .non .none
  | bl (b : Bool) : Rp G (.bl b) (.bool b)
  | int (i : Int) : Rp G (.int i) (.int i)
  | str (x : Str) : Rp G (.str x) (.str x)
  | lst {a : Addr} {xs : List V} {ds : List PyData} : G a = some (.lst xs) → RpAll G xs ds → Rp G (.ref a) (.list ds)
  | tup {a : Addr} {xs : List V} {ds : List PyData} : G a = some (.tup xs) → RpAll G xs ds → Rp G (.ref a) (.tuple ds)
inductive RpAll (G : Hp) : List V → List PyData → Prop
  | nil : RpAll G [] []
  | cons {v : V} {vs : List V} {d : PyData} {ds : List PyData} : Rp G v d → RpAll G vs ds → RpAll G (v :: vs) (d :: ds)
end
mutual
theorem Rp.mono {G G' : Hp} (e : Ex G G') : ∀ (d : PyData) (v : V), Rp G v d → Rp G' v d
  | .none, _, h => by cases h; exact .non
  | .bool b, _, h => by cases h; exact .bl b
  | .int i, _, h => by cases h; exact .int i
  | .str x, _, h => by cases h; exact .str x
  | .list ds, _, h => by
    cases h with
    | lst hs ha => exact .lst (e _ _ hs) (RpAll.mono e ds _ ha)
  | .tuple ds, _, h => by
    cases h with
    | tup hs ha => exact .tup (e _ _ hs) (RpAll.mono e ds _ ha)
  | .dict _, _, h => by cases h
theorem RpAll.mono {G G' : Hp} (e : Ex G G') : ∀ (ds : List PyData) (vs : List V), RpAll G vs ds → RpAll G' vs ds
  | [], _, h => by cases h; exact .nil
  | d :: ds, _, h => by
    cases h with
    | cons h1 h2 => exact .cons (Rp.mono e d _ h1) (RpAll.mono e ds _ h2)
end
mutual
theorem Rp.dp {K : PySem.W.Frag} {G H : Hp} (e : Ex G H) : ∀ (d : PyData) (v : V), Rp G v d → Dp K H v d
  | .none, _, h => by cases h; exact .non
  | .bool b, _, h => by cases h; exact .bl b
  | .int i, _, h => by cases h; exact .int i
  | .str x, _, h => by cases h; exact .str x
  | .list ds, _, h => by
    cases h with
    | lst hs ha => exact .lst (SqL.of (e _ _ hs)) (RpAll.dp e ds _ ha)
  | .tuple ds, _, h => by
    cases h with
    | tup hs ha => exact .tup (SqT.of (e _ _ hs)) (RpAll.dp e ds _ ha)
  | .dict _, _, h => by cases h
theorem RpAll.dp {K : PySem.W.Frag} {G H : Hp} (e : Ex G H) : ∀ (ds : List PyData) (vs : List V), RpAll G vs ds → DpAll K H vs ds
  | [], _, h => by cases h; exact .nil
  | d :: ds, _, h => by
    cases h with
    | cons h1 h2 => exact .cons (Rp.dp e d _ h1) (RpAll.dp e ds _ h2)
end
theorem RpAll.len {G : Hp} : ∀ {vs : List V} {ds : List PyData}, RpAll G vs ds → vs.length = ds.length
  | _, _, .nil => rfl
  | _, _, .cons _ h => by simp [RpAll.len h]
theorem RpAll.get {G : Hp} : ∀ {vs : List V} {ds : List PyData} {i : Nat} {d : PyData}, RpAll G vs ds → ds[i]? = some d → ∃ v, vs[i]? = some v ∧ Rp G v d
  | _, _, _, _, .nil, e => by simp at e
  | _, _, 0, _, .cons h _, e => by simp at e; subst e; exact ⟨_, rfl, h⟩
  | _, _, i + 1, _, .cons _ h, e => by
    obtain ⟨v, a, b⟩ := RpAll.get (i := i) h (by simpa using e)
    exact ⟨v, by simpa using a, b⟩
theorem RpAll.getV {G : Hp} : ∀ {vs : List V} {ds : List PyData} {i : Nat} {v : V}, RpAll G vs ds → vs[i]? = some v → ∃ d, ds[i]? = some d ∧ Rp G v d
  | _, _, _, _, .nil, e => by simp at e
  | _, _, 0, _, .cons h _, e => by simp at e; subst e; exact ⟨_, rfl, h⟩
  | _, _, i + 1, _, .cons _ h, e => by
    obtain ⟨v, a, b⟩ := RpAll.getV (i := i) h (by simpa using e)
    exact ⟨v, by simpa using a, b⟩
theorem RpAll.app {G : Hp} : ∀ {vs us : List V} {ds es : List PyData}, RpAll G vs ds → RpAll G us es → RpAll G (vs ++ us) (ds ++ es)
  | _, _, _, _, .nil, h => h
  | _, _, _, _, .cons a b, h => .cons a (RpAll.app b h)
theorem RpAll.take {G : Hp} : ∀ {vs : List V} {ds : List PyData} (n : Nat), RpAll G vs ds → RpAll G (vs.take n) (ds.take n)
  | _, _, 0, _ => .nil
  | _, _, _ + 1, .nil => .nil
  | _, _, n + 1, .cons a b => .cons a (RpAll.take n b)
theorem RpAll.drop {G : Hp} : ∀ {vs : List V} {ds : List PyData} (n : Nat), RpAll G vs ds → RpAll G (vs.drop n) (ds.drop n)
  | _, _, 0, h => h
  | _, _, _ + 1, .nil => .nil
  | _, _, n + 1, .cons _ b => RpAll.drop n b
theorem RpAll.rev {G : Hp} : ∀ {vs : List V} {ds : List PyData}, RpAll G vs ds → RpAll G vs.reverse ds.reverse
  | _, _, .nil => .nil
  | _, _, .cons a b => by simpa using (RpAll.rev b).app (.cons a .nil)
theorem RpAll.set {G : Hp} {v : V} {d : PyData} (h : Rp G v d) : ∀ {vs : List V} {ds : List PyData} (n : Nat), RpAll G vs ds → RpAll G (vs.set n v) (ds.set n d)
  | _, _, _, .nil => .nil
  | _, _, 0, .cons _ b => .cons h b
  | _, _, n + 1, .cons a b => .cons a (RpAll.set h n b)
theorem RpAll.ints {G : Hp} : ∀ {vs : List V} {ns : List Int}, RpAll G vs (ns.map .int) → vs = ns.map V.int
  | _, [], h => by cases h; rfl
  | _, n :: ns, h => by
    cases h with
    | cons a b =>
      cases a
      rw [RpAll.ints b] <;> rfl
theorem RpAll.bools {G : Hp} : ∀ {vs : List V} {ns : List Bool}, RpAll G vs (ns.map .bool) → vs = ns.map V.bl
  | _, [], h => by cases h; rfl
  | _, n :: ns, h => by
    cases h with
    | cons a b =>
      cases a
      rw [RpAll.bools b] <;> rfl
theorem RpAll.strs {G : Hp} : ∀ {vs : List V} {ns : List Str}, RpAll G vs (ns.map .str) → vs = ns.map V.str
  | _, [], h => by cases h; rfl
  | _, n :: ns, h => by
    cases h with
    | cons a b =>
      cases a
      rw [RpAll.strs b] <;> rfl

/-- a timetable: an instance of the class at C whose rows are a tuple -/
def Rep (K : PySem.W.Frag) (C : Addr) (G : Hp) (v : V) : D → Prop
  | .p d => Rp G v d
  | .scr ns => ∃ a, v = .ref a ∧ SqL K G a (ns.map V.int)
  | .tt rows => ∃ a dx t, v = .ref a ∧ G a = some (.ins C dx [("_rows", t)]) ∧ Rp G t (.tuple (rows.map rowD))
  | .adr a => v = .ref a
  | .dct f => ∃ (a : Addr) (kvs : List (Key × V)), v = .ref a ∧ G a = some (.dK kvs) ∧ ∀ x : Int, valV kvs (.inl x) = (f x).map V.int
  | .pl4 d1 f d3 d4 => ∃ (a q : Addr) (kvs : List (Key × V)) (v1 v3 v4 : V), v = .ref a ∧ G a = some (.tup [v1, .ref q, v3, v4]) ∧ Rp G v1 d1 ∧ (G q = some (.dK kvs) ∧ ∀ x : Int, valV kvs (.inl x) = (f x).map V.int) ∧ Rp G v3 d3 ∧ Rp G v4 d4
  | .rng hi => ∃ a, v = .ref a ∧ G a = some (.rng 0 hi)
  | .ptup ds => ∃ (a : Addr) (o : Obj) (xs : List V), v = .ref a ∧ G a = some (.frz o (.tup xs)) ∧ (o.cls = .type "tuple" ∧ o.dict = none) ∧ RpAll G xs ds
  | .sem R => (∃ a, v = .ref a) ∧ ∃ G0, Ex G0 G ∧ R G0 v
theorem Rep.mono {K : PySem.W.Frag} {C : Addr} {G G' : Hp} (e : Ex G G') {v : V} : ∀ {d : D}, Rep K C G v d → Rep K C G' v d
  | .p d, h => Rp.mono e d v h
  | .scr _, ⟨a, h, k⟩ => ⟨a, h, Evl.ex_l e k⟩
  | .tt _, ⟨a, dx, t, h, k, l⟩ => ⟨a, dx, t, h, e _ _ k, Rp.mono e _ _ l⟩
  | .adr _, h => h
  | .dct _, ⟨a, kvs, h, k, l⟩ => ⟨a, kvs, h, e _ _ k, l⟩
  | .pl4 _ _ _ _, ⟨a, q, kvs, v1, v3, v4, h, k, r1, ⟨l, m⟩, r3, r4⟩ => ⟨a, q, kvs, v1, v3, v4, h, e _ _ k, Rp.mono e _ _ r1, ⟨e _ _ l, m⟩, Rp.mono e _ _ r3, Rp.mono e _ _ r4⟩
  | .rng _, ⟨a, h, k⟩ => ⟨a, h, e _ _ k⟩
  | .ptup _, ⟨a, o, xs, h, k, c, l⟩ => ⟨a, o, xs, h, e _ _ k, c, RpAll.mono e _ _ l⟩
  | .sem _, ⟨a, G0, e0, r⟩ => ⟨a, G0, e0.trans e, r⟩
inductive RepAll (K : PySem.W.Frag) (C : Addr) (G : Hp) : List V → List D → Prop
  | nil : RepAll K C G [] []
  | cons {v : V} {vs : List V} {d : D} {ds : List D} : Rep K C G v d → RepAll K C G vs ds → RepAll K C G (v :: vs) (d :: ds)
theorem RepAll.mono {K : PySem.W.Frag} {C : Addr} {G G' : Hp} (e : Ex G G') : ∀ {vs : List V} {ds : List D}, RepAll K C G vs ds → RepAll K C G' vs ds
  | _, _, .nil => .nil
  | _, _, .cons a b => .cons (a.mono e) (b.mono e)
theorem RepAll.len {K : PySem.W.Frag} {C : Addr} {G : Hp} : ∀ {vs : List V} {ds : List D}, RepAll K C G vs ds → vs.length = ds.length
  | _, _, .nil => rfl
  | _, _, .cons _ h => by simp [RepAll.len h]
theorem RepAll.app {K : PySem.W.Frag} {C : Addr} {G : Hp} : ∀ {vs us : List V} {ds es : List D}, RepAll K C G vs ds → RepAll K C G us es → RepAll K C G (vs ++ us) (ds ++ es)
  | _, _, _, _, .nil, h => h
  | _, _, _, _, .cons a b, h => .cons a (RepAll.app b h)
theorem RepAll.data {K : PySem.W.Frag} {C : Addr} {G : Hp} : ∀ {vs : List V} {ds : List PyData}, RepAll K C G vs (ds.map .p) → RpAll G vs ds
  | _, [], h => by cases h; exact .nil
  | _, _ :: _, h => by cases h with | cons a b => exact .cons a (RepAll.data b)
theorem RpAll.rep {K : PySem.W.Frag} {C : Addr} {G : Hp} : ∀ {vs : List V} {ds : List PyData}, RpAll G vs ds → RepAll K C G vs (ds.map .p)
  | _, _, .nil => .nil
  | _, _, .cons a b => .cons a (RpAll.rep b)

/-! ### the heap: what only grows, what is owned, the tables of code objects -/
/-- an owned object, told by data -/
inductive OD where
  | l (ds : List D)
  | ins (Cl dx : Addr) (fs : List (Str × D))
  /-- a dict of numbers, at most n of them -/
  | d (n : Nat) (f : Int → Option Int)
  /-- a list of just these values -/
  | lx (xs : List V) (ds : List D)
  /-- a dict of numbers and texts, at most n of them, its values numbers -/
  | dk (n : Nat) (f : Key → Option Int)
  /-- just this dict, while it is walked -/
  | dz (od : Obj) (kvs : List (Key × V))
abbrev Ow := List (Addr × OD)
def ORep (K : PySem.W.Frag) (C : Addr) (G : Hp) (o : HO) : OD → Prop
  | .l ds => ∃ xs, o = .lst xs ∧ RepAll K C G xs ds
  | .ins Cl dx fs => ∃ gs, o = .ins Cl dx gs ∧ gs.map (·.1) = fs.map (·.1) ∧ RepAll K C G (gs.map (·.2)) (fs.map (·.2))
  | .d n f => ∃ kvs : List (Key × V), o = .dK kvs ∧ kvs.length ≤ n ∧ ∀ x : Int, valV kvs (.inl x) = (f x).map V.int
  | .lx xs ds => o = .lst xs ∧ RepAll K C G xs ds
  | .dk n f => ∃ kvs : List (Key × V), o = .dK kvs ∧ kvs.length ≤ n ∧ ∀ x : Key, valV kvs x = (f x).map V.int
  | .dz od kvs => o = .frz od (.dK kvs)
theorem ORep.mono {K : PySem.W.Frag} {C : Addr} {G G' : Hp} (e : Ex G G') {o : HO} : ∀ {u : OD}, ORep K C G o u → ORep K C G' o u
  | .l _, ⟨xs, h, k⟩ => ⟨xs, h, k.mono e⟩
  | .ins _ _ _, ⟨gs, h, k, l⟩ => ⟨gs, h, k, l.mono e⟩
  | .d _ _, h => h
  | .lx _ _, ⟨h, k⟩ => ⟨h, k.mono e⟩
  | .dk _ _, h => h
  | .dz _ _, h => h
structure Hs (K : PySem.W.Frag) (C : Addr) (T : List (Addr × Str)) (G : Hp) (W : Ow) (H : Hp) : Prop where
  g : Ex G H
  w : ∀ p ∈ W, ∃ o, H p.1 = some o ∧ ORep K C G o p.2
  d : ∀ p ∈ W, G p.1 = none
  n : (W.map (·.1)).Nodup
  t : LamX.Tabs T H
  nt : ∀ b ps, G b ≠ some (.tbl ps)
section
variable {K : PySem.W.Frag} {C : Addr} {T : List (Addr × Str)} {G G' H : Hp} {W : Ow} {p : Addr} {o o' : HO} {u u' : OD}
theorem Hs.fresh (h : Hs K C T G W H) (hp : H p = none) : G p = none := Evl.fresh_back h.g hp
theorem Hs.notin (h : Hs K C T G W H) (hp : H p = none) : p ∉ W.map (·.1) := fun z => by
  obtain ⟨q, hq, e⟩ := List.mem_map.mp z
  obtain ⟨o, ho, _⟩ := h.w q hq
  rw [e, hp] at ho
  cases ho
theorem Hs.new (h : Hs K C T G W H) (hp : H p = none) (ho : ∀ ps, o ≠ .tbl ps := by exact fun _ z => nomatch z) : Hs K C T (upd G p o) W (upd H p o) := by
  refine ⟨fun a u e => ?_, fun q hq => ?_, fun q hq => ?_, h.n, h.t.ext (Ex.new hp), fun b ps e => ?_⟩
  · by_cases ha : a = p
    · subst ha; rw [upd_same] at e ⊢; exact e
    · rw [upd_ne ha] at e ⊢; exact h.g a u e
  · obtain ⟨o, ho, r⟩ := h.w q hq
    exact ⟨o, Ex.new hp _ _ ho, r.mono (Ex.new (h.fresh hp))⟩
  · obtain ⟨o, ho, r⟩ := h.w q hq
    rw [upd_ne (ne_of_none ho hp)]; exact h.d q hq
  · by_cases ha : b = p
    · subst ha; rw [upd_same] at e; exact ho ps (Option.some.inj e)
    · rw [upd_ne ha] at e; exact h.nt b ps e
theorem Hs.ex (h : Hs K C T G W H) (hp : H p = none) : Ex G (upd G p o) := Ex.new (h.fresh hp)
theorem Hs.own (h : Hs K C T G W H) (hp : H p = none) (r : ORep K C G o u) : Hs K C T G ((p, u) :: W) (upd H p o) := by
  refine ⟨h.g.trans (Ex.new hp), fun q hq => ?_, fun q hq => ?_, ?_, h.t.ext (Ex.new hp), h.nt⟩
  · rcases List.mem_cons.mp hq with e | e
    · rw [e]; exact ⟨o, upd_same, r⟩
    · obtain ⟨o', ho, r'⟩ := h.w q e
      exact ⟨o', Ex.new hp _ _ ho, r'⟩
  · rcases List.mem_cons.mp hq with e | e
    · rw [e]; exact h.fresh hp
    · exact h.d q e
  · exact List.nodup_cons.mpr ⟨h.notin hp, h.n⟩
def Plain : HO → Prop
  | .lst _ | .dK _ | .dT _ | .ins _ _ _ | .frz _ _ => True
  | _ => False
theorem ORep.plain (r : ORep K C G o u) : Plain o := by
  cases u with
  | l ds => obtain ⟨xs, e, _⟩ := r; rw [e]; exact True.intro
  | ins a b fs => obtain ⟨xs, e, _⟩ := r; rw [e]; exact True.intro
  | d n f => obtain ⟨xs, e, _⟩ := r; rw [e]; exact True.intro
  | lx xs ds => obtain ⟨e, _⟩ := r; rw [e]; exact True.intro
  | dk n f => obtain ⟨xs, e, _⟩ := r; rw [e]; exact True.intro
  | dz od kvs => rw [show o = .frz od (.dK kvs) from r]; exact True.intro
theorem Hs.notbl {q : Addr × Str} (h : Hs K C T G W H) (hq : q ∈ T) (hp : H p = some o) (ho : Plain o) : q.1 ≠ p := fun e => by
  obtain ⟨ps, h1, _⟩ := h.t q hq
  rw [e, hp] at h1
  rw [Option.some.inj h1] at ho
  exact ho
theorem Ow.apart {W1 W2 : Ow} (hn : ((W1 ++ (p, u) :: W2).map (·.1)).Nodup) : ∀ q ∈ W1 ++ W2, q.1 ≠ p := fun q hq e => by
  rw [List.map_append, List.map_cons] at hn
  have h3 := List.nodup_append.mp hn
  rcases List.mem_append.mp hq with z | z
  · exact h3.2.2 q.1 (List.mem_map.mpr ⟨q, z, rfl⟩) p (by simp) e
  · exact (List.nodup_cons.mp h3.2.1).1 (List.mem_map.mpr ⟨q, z, e⟩)
theorem Hs.at_ {W1 W2 : Ow} (h : Hs K C T G (W1 ++ (p, u) :: W2) H) : ∃ o, H p = some o ∧ ORep K C G o u := h.w (p, u) (by simp)
/-- an owned object is written -/
theorem Hs.put {W1 W2 : Ow} (h : Hs K C T G (W1 ++ (p, u) :: W2) H) (r : ORep K C G o' u') : Hs K C T G (W1 ++ (p, u') :: W2) (upd H p o') := by
  obtain ⟨o, hp, ro⟩ := h.at_
  have ho := ro.plain
  have hd : G p = none := h.d (p, u) (by simp)
  have n1 := Ow.apart h.n
  have hn := h.n
  rw [List.map_append, List.map_cons] at hn
  have old : ∀ q ∈ W1 ++ W2, ∃ o, upd H p o' q.1 = some o ∧ ORep K C G o q.2 := fun q hq => by
    obtain ⟨o2, h2, r2⟩ := h.w q (by rcases List.mem_append.mp hq with e | e <;> simp [e])
    exact ⟨o2, by rw [upd_ne (n1 q hq)]; exact h2, r2⟩
  refine ⟨fun a u e => ?_, fun q hq => ?_, fun q hq => ?_, ?_, fun q hq => ?_, h.nt⟩
  · rw [upd_ne (ne_of_none e hd)]; exact h.g a u e
  · rcases List.mem_append.mp hq with e | e
    · exact old q (by simp [e])
    · rcases List.mem_cons.mp e with e | e
      · rw [e]; exact ⟨o', upd_same, r⟩
      · exact old q (by simp [e])
  · rcases List.mem_append.mp hq with e | e
    · exact h.d q (by simp [e])
    · rcases List.mem_cons.mp e with e | e
      · rw [e]; exact hd
      · exact h.d q (by simp [e])
  · rw [List.map_append, List.map_cons]; exact hn
  · obtain ⟨ps, h1, h2, h3⟩ := h.t q hq
    refine ⟨ps, by rw [upd_ne (h.notbl hq hp ho)]; exact h1, h2, fun pos cv hc => ?_⟩
    obtain ⟨c, e1, e2⟩ := h3 pos cv hc
    refine ⟨c, e1, ?_⟩
    rw [upd_ne fun z => ?_]
    · exact e2
    · rw [z, hp] at e2
      rw [Option.some.inj e2] at ho
      exact ho
/-- an owned object only grows from now on -/
theorem Hs.give {W1 W2 : Ow} (h : Hs K C T G (W1 ++ (p, u) :: W2) H) (hp : H p = some o) : Hs K C T (upd G p o) (W1 ++ W2) H := by
  have n1 := Ow.apart h.n
  have hn := h.n
  have hd : G p = none := h.d (p, u) (by simp)
  rw [List.map_append, List.map_cons] at hn
  obtain ⟨o1, hp1, ro1⟩ := h.at_
  rw [hp] at hp1
  cases hp1
  have hpl := ro1.plain
  refine ⟨fun a u e => ?_, fun q hq => ?_, fun q hq => ?_, ?_, h.t, fun b ps e => ?_⟩
  · by_cases ha : a = p
    · subst ha; rw [upd_same] at e; rw [← e]; exact hp
    · rw [upd_ne ha] at e; exact h.g a u e
  · obtain ⟨o2, h2, r2⟩ := h.w q (by rcases List.mem_append.mp hq with e | e <;> simp [e])
    exact ⟨o2, h2, r2.mono (Ex.new hd)⟩
  · rw [upd_ne (n1 q hq)]
    exact h.d q (by rcases List.mem_append.mp hq with e | e <;> simp [e])
  · rw [List.map_append]
    have h3 := List.nodup_append.mp hn
    refine List.nodup_append.mpr ⟨h3.1, (List.nodup_cons.mp h3.2.1).2, fun a ha b hb => h3.2.2 a ha b (List.mem_cons_of_mem _ hb)⟩
  · by_cases ha : b = p
    · subst ha
      rw [upd_same] at e
      rw [Option.some.inj e] at hpl
      exact hpl
    · rw [upd_ne ha] at e; exact h.nt b ps e
theorem Hs.gave {W1 W2 : Ow} (h : Hs K C T G (W1 ++ (p, u) :: W2) H) : Ex G (upd G p o) := Ex.new (h.d (p, u) (by simp))
/-- a part of what is owned -/
theorem Hs.part {W1 W2 : Ow} (h : Hs K C T G (W1 ++ W2) H) : Hs K C T G W1 H :=
  ⟨h.g, fun p hp => h.w p (by simp [hp]), fun p hp => h.d p (by simp [hp]), by have := h.n; rw [List.map_append] at this; exact (List.nodup_append.mp this).1, h.t, h.nt⟩
end

end Q
namespace Q
open PySem PySem.Spec PyProof.Rows L2
open Evl (Ex)

/-! ### the meaning of a piece of syntax as a reading of its own -/
def SemE (X : Cx) (e : Expr) : TE := fun σ H Q => ∀ (pins : List (Addr × Obj)) (s : Shared), Inv X pins σ H s → wpAny (model X.prog X.w) X.A (eval e X.env) (EP X pins σ Q) X.xe s
theorem pe_sem {X : Cx} {e : Expr} : PE X e (SemE X e) := ⟨fun pins s _ _ _ I h => h pins s I⟩
theorem SemE.of {X : Cx} {e : Expr} {t : TE} {σ : L2.St} {H : Hp} {Q : VK} (h : PE X e t) (q : t σ H Q) : SemE X e σ H Q := fun pins s I => h.run pins s σ H Q I q
def SemT (X : Cx) (e : Expr) : TT := fun σ H Q => ∀ (pins : List (Addr × Obj)) (s : Shared), Inv X pins σ H s → wpAny (model X.prog X.w) X.A (isTrue e X.env (eval e X.env)) (TP X pins σ Q) X.xe s
theorem pt_sem {X : Cx} {e : Expr} : PT X e (SemT X e) := ⟨fun pins s _ _ _ I h => h pins s I⟩
theorem SemT.of {X : Cx} {e : Expr} {t : TT} {σ : L2.St} {H : Hp} {Q : Bool → Hp → Prop} (h : PT X e t) (q : t σ H Q) : SemT X e σ H Q := fun pins s I => h.run pins s σ H Q I q
/-- a test whatever its whole -/
def SemW (X : Cx) (e : Expr) : TT := fun σ H Q => ∀ (whole : Sem Value) (pins : List (Addr × Obj)) (s : Shared), Inv X pins σ H s → wpAny (model X.prog X.w) X.A (isTrue e X.env whole) (TP X pins σ Q) X.xe s
theorem pw_sem {X : Cx} {e : Expr} : PW X e (SemW X e) := ⟨fun w pins s _ _ _ I h => h w pins s I⟩
theorem SemW.of {X : Cx} {e : Expr} {t : TT} {σ : L2.St} {H : Hp} {Q : Bool → Hp → Prop} (h : PW X e t) (q : t σ H Q) : SemW X e σ H Q := fun w pins s I => h.run w pins s σ H Q I q
def SemA (X : Cx) (es : List Expr) : TA := fun σ H Q => ∀ (pos : Pos) (pins : List (Addr × Obj)) (s : Shared), Inv X pins σ H s → wpAny (model X.prog X.w) X.A (spliced (backTo pos (starEach es X.env))) (AP X pins σ Q) X.xe s
theorem pa_sem {X : Cx} {es : List Expr} : PA X es (SemA X es) := ⟨fun pos pins s _ _ _ I h => h pos pins s I⟩
theorem SemA.of {X : Cx} {es : List Expr} {t : TA} {σ : L2.St} {H : Hp} {Q : List V → Hp → Prop} (h : PA X es t) (q : t σ H Q) : SemA X es σ H Q := fun pos pins s I => h.run pos pins s σ H Q I q
def SemS (X : Cx) (st : Stmt) : TS := fun Dn σ H => ∀ (pins : List (Addr × Obj)) (s : Shared), Inv X pins σ H s → wpAny (model X.prog X.w) X.A (exec st X.env) (SP X pins Dn) X.xe s
theorem ps_sem {X : Cx} {st : Stmt} : PS X st (SemS X st) := ⟨fun pins s _ _ _ I h => h pins s I⟩
theorem SemS.of {X : Cx} {st : Stmt} {t : TS} {σ : L2.St} {H : Hp} {Dn : Ends} (h : PS X st t) (q : t Dn σ H) : SemS X st Dn σ H := fun pins s I => h.run pins s σ H Dn I q
def SemB (X : Cx) (sts : List Stmt) : TS := fun Dn σ H => ∀ (pins : List (Addr × Obj)) (s : Shared), Inv X pins σ H s → wpAny (model X.prog X.w) X.A (execs sts X.env) (SP X pins Dn) X.xe s
theorem pss_sem {X : Cx} {sts : List Stmt} : PSs X sts (SemB X sts) := ⟨fun pins s _ _ _ I h => h pins s I⟩
theorem SemB.of {X : Cx} {sts : List Stmt} {t : TS} {σ : L2.St} {H : Hp} {Dn : Ends} (h : PSs X sts t) (q : t Dn σ H) : SemB X sts Dn σ H := fun pins s I => h.run pins s σ H Dn I q
def SemG (X : Cx) (tg : Expr) : TG := fun v σ H Q => ∀ (pins : List (Addr × Obj)) (s : Shared) (u : Value), Inv X pins σ H s → RelV v u → wpAny (model X.prog X.w) X.A (assign tg X.env u) (fun _ s' => ∃ σ' H', Inv X pins σ' H' s' ∧ Q σ' H') X.xe s
theorem pg_sem {X : Cx} {tg : Expr} : PG X tg (SemG X tg) := ⟨fun pins s _ _ _ u _ I r h => h pins s u I r⟩
theorem SemG.of {X : Cx} {tg : Expr} {t : TG} {v : V} {σ : L2.St} {H : Hp} {Q : L2.St → Hp → Prop} (h : PG X tg t) (q : t v σ H Q) : SemG X tg v σ H Q := fun pins s u I r => h.run pins s σ H v u Q I r q

/-! ### the context of a proof -/
inductive Xc where
  | num | nol | noa | tab (i : Int)
structure Ct where
  X : Cx
  T : List (Addr × Str)
  C : Addr
  /-- the classes of the exceptions: InvalidNumber, NoLetters, NoAnswer, InvalidTimetable -/
  cN : Addr
  cL : Addr
  cA : Addr
  cT : Addr
  G : Hp
  Ξ : Xc → Ow → Prop
  E : XK
  k : Nat
/-- an exception as it comes out of a call: its class, its dict -/
def XRep (cN cL cA cT : Addr) (x : Xc) (cls : Value) (dd : Option Addr) (H : Hp) : Prop := match x with
  | .num => cls = .ref cN ∧ dd = none
  | .nol => cls = .ref cL ∧ dd = none
  | .noa => cls = .ref cA ∧ dd = none
  | .tab i => cls = .ref cT ∧ ∃ d, dd = some d ∧ H d = some (.xd [("index", .int i)])
structure Ct.Ok (U : Ct) : Prop where
  calm : U.X.calm = true
  room : Room U.k U.X.A
  nd : U.X.N.Nodup
  po : PassesOwn (model U.X.prog U.X.w) U.X.A U.X.env U.X.xe
  tk : Takes U.X (fun cls d _ H => U.E cls d H)
  ex : ∀ x cls dd G H W, Ex U.G G → Hs U.X.K U.C U.T G W H → XRep U.cN U.cL U.cA U.cT x cls dd H → U.Ξ x W → U.E cls dd H
abbrev Ct.R (U : Ct) (G : Hp) (v : V) (d : D) : Prop := Rep U.X.K U.C G v d
abbrev Ev0 := List (Option D)
def Slots (K : PySem.W.Frag) (C : Addr) (G : Hp) (σ : L2.St) (env : Ev0) : Prop := σ.length = env.length ∧ ∀ (i : Nat) (d : D), env[i]? = some (some d) → ∃ v, σ[i]? = some (some v) ∧ Rep K C G v d
theorem Slots.mono {K : PySem.W.Frag} {C : Addr} {G G' : Hp} {σ : L2.St} {env : Ev0} (e : Ex G G') (h : Slots K C G σ env) : Slots K C G' σ env := ⟨h.1, fun i d q => by
  obtain ⟨v, a, b⟩ := h.2 i d q
  exact ⟨v, a, b.mono e⟩⟩
theorem Slots.set {K : PySem.W.Frag} {C : Addr} {G : Hp} {σ : L2.St} {env : Ev0} {i : Nat} {v : V} {d : D} (h : Slots K C G σ env) (r : Rep K C G v d) : Slots K C G (σ.set i (some v)) (env.set i (some d)) := by
  refine ⟨by simp [h.1], fun j e q => ?_⟩
  by_cases hj : i = j
  · subst hj
    by_cases hl : i < env.length
    · rw [List.getElem?_set_self hl] at q
      cases q
      exact ⟨v, List.getElem?_set_self (by rw [h.1]; exact hl), r⟩
    · rw [List.getElem?_eq_none (by simpa using hl)] at q
      cases q
  · rw [List.getElem?_set_ne hj] at q ⊢
    exact h.2 j e q
theorem Slots.gone {K : PySem.W.Frag} {C : Addr} {G : Hp} {σ : L2.St} {env : Ev0} {i : Nat} (h : Slots K C G σ env) : Slots K C G (σ.set i none) (env.set i none) := by
  refine ⟨by simp [h.1], fun j e q => ?_⟩
  by_cases hj : i = j
  · subst hj
    by_cases hl : i < env.length
    · rw [List.getElem?_set_self hl] at q
      cases q
    · rw [List.getElem?_eq_none (by simpa using hl)] at q
      cases q
  · rw [List.getElem?_set_ne hj] at q ⊢
    exact h.2 j e q
def wipeE (env : Ev0) : List Nat → Ev0
  | [] => env
  | v :: vs => (wipeE env vs).set v none
theorem Slots.wipe {K : PySem.W.Frag} {C : Addr} {G : Hp} {σ : L2.St} {env : Ev0} (h : Slots K C G σ env) : ∀ vs : List Nat, Slots K C G (wipe σ vs) (wipeE env vs)
  | [] => h
  | v :: vs => (Slots.wipe h vs).gone

/-- an expression: from the names' data and what is owned to its value's data and what is owned then -/
def Ev (U : Ct) (e : Expr) (env : Ev0) (W : Ow) (Ψ : D → Ow → Prop) : Prop :=
  ∀ (σ : L2.St) (G H : Hp), Ex U.G G → Hs U.X.K U.C U.T G W H → Slots U.X.K U.C G σ env → ∀ Q : VK,
    (∀ v G2 H2 d W2, Ex G G2 → Hs U.X.K U.C U.T G2 W2 H2 → U.R G2 v d → Ψ d W2 → Q v H2) → SemE U.X e σ H Q
def EvT (U : Ct) (e : Expr) (env : Ev0) (W : Ow) (Ψ : Bool → Ow → Prop) : Prop :=
  ∀ (σ : L2.St) (G H : Hp), Ex U.G G → Hs U.X.K U.C U.T G W H → Slots U.X.K U.C G σ env → ∀ Q : Bool → Hp → Prop,
    (∀ b G2 H2 W2, Ex G G2 → Hs U.X.K U.C U.T G2 W2 H2 → Ψ b W2 → Q b H2) → SemT U.X e σ H Q
def EvW (U : Ct) (e : Expr) (env : Ev0) (W : Ow) (Ψ : Bool → Ow → Prop) : Prop :=
  ∀ (σ : L2.St) (G H : Hp), Ex U.G G → Hs U.X.K U.C U.T G W H → Slots U.X.K U.C G σ env → ∀ Q : Bool → Hp → Prop,
    (∀ b G2 H2 W2, Ex G G2 → Hs U.X.K U.C U.T G2 W2 H2 → Ψ b W2 → Q b H2) → SemW U.X e σ H Q
def EvA (U : Ct) (es : List Expr) (env : Ev0) (W : Ow) (Ψ : List D → Ow → Prop) : Prop :=
  ∀ (σ : L2.St) (G H : Hp), Ex U.G G → Hs U.X.K U.C U.T G W H → Slots U.X.K U.C G σ env → ∀ Q : List V → Hp → Prop,
    (∀ vs G2 H2 ds W2, Ex G G2 → Hs U.X.K U.C U.T G2 W2 H2 → RepAll U.X.K U.C G2 vs ds → Ψ ds W2 → Q vs H2) → SemA U.X es σ H Q
/-- a target, stored with data d -/
def EvG (U : Ct) (js : List Nat) (tg : Expr) (d : D) (env : Ev0) (W : Ow) (Ψ : Ev0 → Ow → Prop) : Prop :=
  ∀ (σ : L2.St) (G H : Hp) (v : V), Ex U.G G → Hs U.X.K U.C U.T G W H → Slots U.X.K U.C G σ env → U.R G v d → ∀ Q : L2.St → Hp → Prop,
    (∀ σ2 G2 H2 env2 W2, Ex G G2 → Hs U.X.K U.C U.T G2 W2 H2 → Slots U.X.K U.C G2 σ2 env2 → (σ2.length = σ.length ∧ ∀ i, i ∉ js → σ2[i]? = σ[i]?) → Ψ env2 W2 → Q σ2 H2) → SemG U.X tg v σ H Q
structure Ke where
  nx : Ev0 → Ow → Prop
  rt : D → Ow → Prop
  bk : Ev0 → Ow → Prop := fun _ _ => False
  ct : Ev0 → Ow → Prop := fun _ _ => False
structure KeOk (U : Ct) (G : Hp) (Φ : Ke) (Dn : Ends) : Prop where
  nx : ∀ σ G2 H2 env W, Ex G G2 → Hs U.X.K U.C U.T G2 W H2 → Slots U.X.K U.C G2 σ env → Φ.nx env W → Dn.nx σ H2
  rt : ∀ v G2 H2 d W, Ex G G2 → Hs U.X.K U.C U.T G2 W H2 → U.R G2 v d → Φ.rt d W → Dn.rt v H2
  bk : ∀ σ G2 H2 env W, Ex G G2 → Hs U.X.K U.C U.T G2 W H2 → Slots U.X.K U.C G2 σ env → Φ.bk env W → Dn.bk σ H2
  ct : ∀ σ G2 H2 env W, Ex G G2 → Hs U.X.K U.C U.T G2 W H2 → Slots U.X.K U.C G2 σ env → Φ.ct env W → Dn.ct σ H2
theorem KeOk.mono {U : Ct} {G G2 : Hp} {Φ : Ke} {Dn : Ends} (h : KeOk U G Φ Dn) (e : Ex G G2) : KeOk U G2 Φ Dn :=
  ⟨fun σ G3 H3 env W a => h.nx σ G3 H3 env W (e.trans a), fun v G3 H3 d W a => h.rt v G3 H3 d W (e.trans a), fun σ G3 H3 env W a => h.bk σ G3 H3 env W (e.trans a), fun σ G3 H3 env W a => h.ct σ G3 H3 env W (e.trans a)⟩
def Wp1 (U : Ct) (st : Stmt) (env : Ev0) (W : Ow) (Φ : Ke) : Prop :=
  ∀ (σ : L2.St) (G H : Hp), Ex U.G G → Hs U.X.K U.C U.T G W H → Slots U.X.K U.C G σ env → ∀ Dn : Ends, KeOk U G Φ Dn → SemS U.X st Dn σ H
def Wp (U : Ct) (sts : List Stmt) (env : Ev0) (W : Ow) (Φ : Ke) : Prop :=
  ∀ (σ : L2.St) (G H : Hp), Ex U.G G → Hs U.X.K U.C U.T G W H → Slots U.X.K U.C G σ env → ∀ Dn : Ends, KeOk U G Φ Dn → SemB U.X sts Dn σ H

section
variable {U : Ct} {env : Ev0} {W : Ow} {Ψ : D → Ow → Prop} {Φ : Ke} {e a b c : Expr} {pos : Pos}
theorem Ev.imp {Ψ' : D → Ow → Prop} (h : Ev U e env W Ψ') (k : ∀ d W', Ψ' d W' → Ψ d W') : Ev U e env W Ψ := fun σ G H eg hs sl Q q => h σ G H eg hs sl Q fun v G2 H2 d W2 a b c z => q v G2 H2 d W2 a b c (k _ _ z)
/-- by a rule without parts: its reading gives the data d at once -/
theorem Ev.here {t : TE} (h : PE U.X e t) (q : ∀ (σ : L2.St) (G H : Hp), Ex U.G G → Hs U.X.K U.C U.T G W H → Slots U.X.K U.C G σ env → ∀ Q : VK,
    (∀ v G2 H2 d W2, Ex G G2 → Hs U.X.K U.C U.T G2 W2 H2 → U.R G2 v d → Ψ d W2 → Q v H2) → t σ H Q) : Ev U e env W Ψ := fun σ G H eg hs sl Q k => SemE.of h (q σ G H eg hs sl Q k)
/-! ### names, constants -/
theorem ev_name (i : Nat) {x : Str} {d : D} (hN : U.X.N[i]? = some x) (hv : Vis U.X.env.scope x) (he : env[i]? = some (some d)) (k : Ψ d W)
    (hd : (x == ("__debug__" : Str)) = false := by decide) (hcd : (x == ("__classdict__" : Str)) = false := by decide) : Ev U (.Name x pos) env W Ψ :=
  .here (pe_var hN hv hd hcd) fun σ G H eg hs sl Q q => by
    obtain ⟨v, h1, h2⟩ := sl.2 i d he
    exact ⟨v, h1, q v G H d W (Ex.refl G) hs h2 k⟩
theorem ev_int {i : Int} {j} (k : Ψ (.p (.int i)) W) : Ev U (.Constant (.int i) j pos) env W Ψ := .here pe_int fun σ G H eg hs sl Q q => q _ G H (.p (.int i)) W (Ex.refl G) hs (Rp.int i) k
theorem ev_bl {i : Bool} {j} (k : Ψ (.p (.bool i)) W) : Ev U (.Constant (.bool i) j pos) env W Ψ := .here pe_bl fun σ G H eg hs sl Q q => q _ G H (.p (.bool i)) W (Ex.refl G) hs (Rp.bl i) k
theorem ev_non {j} (k : Ψ (.p .none) W) : Ev U (.Constant .none j pos) env W Ψ := .here pe_non fun σ G H eg hs sl Q q => q _ G H (.p .none) W (Ex.refl G) hs Rp.non k
theorem ev_str {x : Str} {j} (k : Ψ (.p (.str x)) W) : Ev U (.Constant (.str x) j pos) env W Ψ := .here pe_str fun σ G H eg hs sl Q q => q _ G H (.p (.str x)) W (Ex.refl G) hs (Rp.str x) k
theorem ev_globI {x : Str} {i : Int} (hg : Gl U.X x) (hm : ∃ t, U.X.mg x = some (.int i t)) (k : Ψ (.p (.int i)) W) (hd : (x == ("__debug__" : Str)) = false := by decide) : Ev U (.Name x pos) env W Ψ := by
  obtain ⟨t, hm⟩ := hm
  exact .here (pe_glob (v := .int i) hg hm ⟨t, rfl⟩ hd) fun σ G H eg hs sl Q q => q _ G H (.p (.int i)) W (Ex.refl G) hs (Rp.int i) k
theorem ev_globS {x : Str} {i : Str} (hg : Gl U.X x) (hm : ∃ t, U.X.mg x = some (.str i t)) (k : Ψ (.p (.str i)) W) (hd : (x == ("__debug__" : Str)) = false := by decide) : Ev U (.Name x pos) env W Ψ := by
  obtain ⟨t, hm⟩ := hm
  exact .here (pe_glob (v := .str i) hg hm ⟨t, rfl⟩ hd) fun σ G H eg hs sl Q q => q _ G H (.p (.str i)) W (Ex.refl G) hs (Rp.str i) k
theorem ev_globR {x : Str} {p : Addr} (hg : Gl U.X x) (hm : U.X.mg x = some (.ref p)) (k : Ψ (.adr p) W) (hd : (x == ("__debug__" : Str)) = false := by decide) : Ev U (.Name x pos) env W Ψ :=
  .here (pe_glob (v := .ref p) hg hm rfl hd) fun σ G H eg hs sl Q q => q _ G H (.adr p) W (Ex.refl G) hs (show V.ref p = .ref p from rfl) k
/-! ### operators -/
/-- an operation by values: from the data of both -/
def OpD (U : Ct) (r : R2) (d1 d2 : D) (W : Ow) (Ψ : D → Ow → Prop) : Prop :=
  ∀ (G H : Hp) (x y : V), Ex U.G G → Hs U.X.K U.C U.T G W H → U.R G x d1 → U.R G y d2 → ∀ Q : VK, (∀ v G2 H2 d W2, Ex G G2 → Hs U.X.K U.C U.T G2 W2 H2 → U.R G2 v d → Ψ d W2 → Q v H2) → r x y H Q
theorem ev_bin {op : Operator} {r : R2} (ho : OpR U.X (binaryOp op) r) (h : Ev U a env W fun d1 W1 => Ev U b env W1 fun d2 W2 => OpD U r d1 d2 W2 Ψ) : Ev U (.BinOp a op b pos) env W Ψ :=
  .here (pe_op ho pe_sem pe_sem) fun σ G H eg hs sl Q q => h σ G H eg hs sl _ fun x G1 H1 d1 W1 e1 h1 r1 z1 =>
    z1 σ G1 H1 (eg.trans e1) h1 (sl.mono e1) _ fun y G2 H2 d2 W2 e2 h2 r2 z2 => z2 G2 H2 x y ((eg.trans e1).trans e2) h2 (r1.mono e2) r2 Q fun v G3 H3 d W3 e3 h3 r3 z3 => q v G3 H3 d W3 ((e1.trans e2).trans e3) h3 r3 z3
theorem ev_cmp {op : CmpOp} {r : R2} (ho : OpR U.X (compareOp op) r) (hm : behindInMarks op b = false) (h : Ev U a env W fun d1 W1 => Ev U b env W1 fun d2 W2 => OpD U r d1 d2 W2 Ψ) : Ev U (.Compare a [op] [b] pos) env W Ψ :=
  .here (pe_cmpR ho pe_sem pe_sem hm) fun σ G H eg hs sl Q q => h σ G H eg hs sl _ fun x G1 H1 d1 W1 e1 h1 r1 z1 =>
    z1 σ G1 H1 (eg.trans e1) h1 (sl.mono e1) _ fun y G2 H2 d2 W2 e2 h2 r2 z2 => z2 G2 H2 x y ((eg.trans e1).trans e2) h2 (r1.mono e2) r2 Q fun v G3 H3 d W3 e3 h3 r3 z3 => q v G3 H3 d W3 ((e1.trans e2).trans e3) h3 r3 z3
theorem opd_I0 {g : Int → Int → V} {f : Int → Int → PyData} {i j : Int} (hg : ∀ G, Rp G (g i j) (f i j)) (k : Ψ (.p (f i j)) W) : OpD U (rI0 g) (.p (.int i)) (.p (.int j)) W Ψ := by
  intro G H x y eg hs rx ry Q q
  cases rx; cases ry
  exact ⟨i, j, rfl, rfl, q _ G H (.p (f i j)) W (Ex.refl G) hs (hg G) k⟩
theorem opd_I {g : Int → Int → V} {C : Int → Int → Prop} {f : Int → Int → PyData} {i j : Int} (hg : ∀ G, Rp G (g i j) (f i j)) (hc : C i j) (k : Ψ (.p (f i j)) W) : OpD U (rI C g) (.p (.int i)) (.p (.int j)) W Ψ := by
  intro G H x y eg hs rx ry Q q
  cases rx; cases ry
  exact ⟨i, j, rfl, rfl, hc, q _ G H (.p (f i j)) W (Ex.refl G) hs (hg G) k⟩
def AddD : D → D → (D → Prop) → Prop
  | .p (.int a), .p (.int b), k => k (.p (.int (a + b)))
  | .p (.str a), .p (.str b), k => a.length + b.length ≤ sizeLine ∧ k (.p (.str (a ++ b)))
  | .p (.list a), .p (.list b), k => a.length + b.length ≤ sizeLine ∧ k (.p (.list (a ++ b)))
  | _, _, _ => False
theorem ev_add (h : Ev U a env W fun d1 W1 => Ev U b env W1 fun d2 W2 => AddD d1 d2 fun d => Ψ d W2) : Ev U (.BinOp a .Add b pos) env W Ψ := by
  refine ev_bin (OpR.or op_add (OpR.or op_add_str op_cat)) (h.imp fun d1 W1 h1 => h1.imp fun d2 W2 h2 => ?_)
  intro G H x y eg hs rx ry Q q
  unfold AddD at h2
  split at h2
  · cases rx; cases ry
    exact .inl ⟨_, _, rfl, rfl, q _ G H (.p (.int _)) W2 (Ex.refl G) hs (Rp.int _) h2⟩
  · cases rx; cases ry
    exact .inr (.inl ⟨_, _, rfl, rfl, h2.1, q _ G H (.p (.str _)) W2 (Ex.refl G) hs (Rp.str _) h2.2⟩)
  · cases rx with
    | lst h1 r1 =>
      cases ry with
      | lst h3 r3 =>
        refine .inr (.inr ⟨_, _, _, _, rfl, rfl, hs.g _ _ h1, hs.g _ _ h3, by rw [r1.len, r3.len]; exact h2.1, fun p hp => ?_⟩)
        exact q _ _ _ (.p (.list _)) W2 (hs.ex hp) (hs.new hp) (Rp.lst upd_same ((RpAll.mono (hs.ex hp) _ _ r1).app (RpAll.mono (hs.ex hp) _ _ r3))) h2.2
  · exact h2.elim
end

end Q
namespace Q
open PySem PySem.Spec PyProof.Rows L2
open Evl (Ex)

section
variable {U : Ct} {env : Ev0} {W : Ow} {Ψ : D → Ow → Prop} {Φ : Ke} {e a b c : Expr} {pos : Pos}
theorem EvT.imp {Ψ Ψ' : Bool → Ow → Prop} (h : EvT U e env W Ψ') (k : ∀ d W', Ψ' d W' → Ψ d W') : EvT U e env W Ψ := fun σ G H eg hs sl Q q => h σ G H eg hs sl Q fun v G2 H2 W2 a b z => q v G2 H2 W2 a b (k _ _ z)
/-! ### operators, further -/
def SubD : D → D → (D → Prop) → Prop
  | .p (.int a), .p (.int b), k => k (.p (.int (a - b)))
  | _, _, _ => False
theorem ev_sub (h : Ev U a env W fun d1 W1 => Ev U b env W1 fun d2 W2 => SubD d1 d2 fun d => Ψ d W2) : Ev U (.BinOp a .Sub b pos) env W Ψ := by
  refine ev_bin op_sub (h.imp fun d1 W1 h1 => h1.imp fun d2 W2 h2 => ?_)
  unfold SubD at h2
  split at h2
  · exact opd_I0 (f := fun i j => .int (i - j)) (fun _ => Rp.int _) h2
  · exact h2.elim
def small (i : Int) : Prop := -(2 ^ 64) < i ∧ i < 2 ^ 64
def MulD : D → D → (D → Prop) → Prop
  | .p (.int a), .p (.int b), k => (small a ∨ small b) ∧ k (.p (.int (a * b)))
  | .p (.list a), .p (.int b), k => -(2 ^ 63) ≤ b ∧ b < 2 ^ 63 ∧ a.length * b.toNat ≤ sizeLine ∧ k (.p (.list (List.replicate b.toNat a).flatten))
  | _, _, _ => False
theorem RpAll.flat {G : Hp} {vs : List V} {ds : List PyData} (h : RpAll G vs ds) : ∀ n, RpAll G (List.replicate n vs).flatten (List.replicate n ds).flatten
  | 0 => .nil
  | n + 1 => by
    rw [List.replicate_succ, List.replicate_succ, List.flatten_cons, List.flatten_cons]
    exact h.app (RpAll.flat h n)
theorem ev_mul (h : Ev U a env W fun d1 W1 => Ev U b env W1 fun d2 W2 => MulD d1 d2 fun d => Ψ d W2) : Ev U (.BinOp a .Mult b pos) env W Ψ := by
  refine ev_bin (OpR.or op_mul op_rep) (h.imp fun d1 W1 h1 => h1.imp fun d2 W2 h2 => ?_)
  intro G H x y eg hs rx ry Q q
  unfold MulD at h2
  split at h2
  · cases rx; cases ry
    exact .inl ⟨_, _, rfl, rfl, h2.1, q _ G H (.p (.int _)) W2 (Ex.refl G) hs (Rp.int _) h2.2⟩
  · cases ry
    cases rx with
    | lst h1 r1 =>
      refine .inr ⟨_, _, _, rfl, rfl, hs.g _ _ h1, h2.1, h2.2.1, by rw [r1.len]; exact h2.2.2.1, fun p hp => ?_⟩
      exact q _ _ _ (.p (.list _)) W2 (hs.ex hp) (hs.new hp) (Rp.lst upd_same ((RpAll.mono (hs.ex hp) _ _ r1).flat _)) h2.2.2.2
  · exact h2.elim
def DivD : D → D → (D → Prop) → Prop
  | .p (.int a), .p (.int b), k => (0 < b ∧ b.natAbs.log2 < 9000) ∧ k (.p (.int (a / b)))
  | _, _, _ => False
theorem ev_div (h : Ev U a env W fun d1 W1 => Ev U b env W1 fun d2 W2 => DivD d1 d2 fun d => Ψ d W2) : Ev U (.BinOp a .FloorDiv b pos) env W Ψ := by
  refine ev_bin op_fdivW (h.imp fun d1 W1 h1 => h1.imp fun d2 W2 h2 => ?_)
  unfold DivD at h2
  split at h2
  · exact opd_I (f := fun i j => .int (i / j)) (fun _ => Rp.int _) h2.1 h2.2
  · exact h2.elim
def ModD : D → D → (D → Prop) → Prop
  | .p (.int a), .p (.int b), k => 0 < b ∧ k (.p (.int (a % b)))
  | _, _, _ => False
theorem ev_mod (h : Ev U a env W fun d1 W1 => Ev U b env W1 fun d2 W2 => ModD d1 d2 fun d => Ψ d W2) : Ev U (.BinOp a .Mod b pos) env W Ψ := by
  refine ev_bin op_mod (h.imp fun d1 W1 h1 => h1.imp fun d2 W2 h2 => ?_)
  unfold ModD at h2
  split at h2
  · exact opd_I (f := fun i j => .int (i % j)) (fun _ => Rp.int _) h2.1 h2.2
  · exact h2.elim
def PowD : D → D → (D → Prop) → Prop
  | .p (.int a), .p (.int b), k => (0 ≤ b ∧ b ≤ 1000000 ∧ a.natAbs < 2 ^ 64) ∧ k (.p (.int (a ^ b.toNat)))
  | _, _, _ => False
theorem ev_pow (h : Ev U a env W fun d1 W1 => Ev U b env W1 fun d2 W2 => PowD d1 d2 fun d => Ψ d W2) : Ev U (.BinOp a .Pow b pos) env W Ψ := by
  refine ev_bin op_pow (h.imp fun d1 W1 h1 => h1.imp fun d2 W2 h2 => ?_)
  unfold PowD at h2
  split at h2
  · exact opd_I (f := fun i j => .int (i ^ j.toNat)) (fun _ => Rp.int _) h2.1 h2.2
  · exact h2.elim
def NegD : D → (D → Prop) → Prop
  | .p (.int a), k => k (.p (.int (-a)))
  | _, _ => False
theorem ev_neg (h : Ev U a env W fun d1 W1 => NegD d1 fun d => Ψ d W1) : Ev U (.UnaryOp .USub a pos) env W Ψ :=
  .here (pe_un un_neg pe_sem) fun σ G H eg hs sl Q q => h σ G H eg hs sl _ fun x G1 H1 d1 W1 e1 h1 r1 z1 => by
    dsimp only at z1
    unfold NegD at z1
    split at z1
    · cases r1
      exact ⟨_, rfl, q _ G1 H1 (.p (.int _)) W1 e1 h1 (Rp.int _) z1⟩
    · exact z1.elim
/-! ### comparisons -/
def CmpD (f : Int → Int → Bool) : D → D → (Bool → Prop) → Prop
  | .p (.int a), .p (.int b), k => k (f a b)
  | _, _, _ => False
theorem ev_cmpI {op : CmpOp} {f : Int → Int → Bool} (ho : OpR U.X (compareOp op) (rI0 fun i j => .bl (f i j))) (hm : behindInMarks op b = false)
    (h : Ev U a env W fun d1 W1 => Ev U b env W1 fun d2 W2 => CmpD f d1 d2 fun r => Ψ (.p (.bool r)) W2) : Ev U (.Compare a [op] [b] pos) env W Ψ := by
  refine ev_cmp ho hm (h.imp fun d1 W1 h1 => h1.imp fun d2 W2 h2 => ?_)
  unfold CmpD at h2
  split at h2
  · exact opd_I0 (f := fun i j => .bool (f i j)) (fun _ => Rp.bl _) h2
  · exact h2.elim
theorem ev_lt (h : Ev U a env W fun d1 W1 => Ev U b env W1 fun d2 W2 => CmpD (fun i j => decide (i < j)) d1 d2 fun r => Ψ (.p (.bool r)) W2) : Ev U (.Compare a [.Lt] [b] pos) env W Ψ := ev_cmpI op_lt (nomark _) h
theorem ev_le (h : Ev U a env W fun d1 W1 => Ev U b env W1 fun d2 W2 => CmpD (fun i j => decide (i ≤ j)) d1 d2 fun r => Ψ (.p (.bool r)) W2) : Ev U (.Compare a [.LtE] [b] pos) env W Ψ := ev_cmpI op_le (nomark _) h
theorem ev_gt (h : Ev U a env W fun d1 W1 => Ev U b env W1 fun d2 W2 => CmpD (fun i j => decide (j < i)) d1 d2 fun r => Ψ (.p (.bool r)) W2) : Ev U (.Compare a [.Gt] [b] pos) env W Ψ := ev_cmpI op_gt (nomark _) h
theorem ev_ge (h : Ev U a env W fun d1 W1 => Ev U b env W1 fun d2 W2 => CmpD (fun i j => decide (j ≤ i)) d1 d2 fun r => Ψ (.p (.bool r)) W2) : Ev U (.Compare a [.GtE] [b] pos) env W Ψ := ev_cmpI op_ge (nomark _) h
/-- lo <= x <= hi -/
theorem ev_chain_le (hm : lastMarks [CmpOp.LtE, CmpOp.LtE] [b, c] = false) (h : Ev U a env W fun d1 W1 => Ev U b env W1 fun d2 W2 => CmpD (fun i j => decide (i ≤ j)) d1 d2 fun r =>
    (r = false → Ψ (.p (.bool false)) W2) ∧ (r = true → Ev U c env W2 fun d3 W3 => CmpD (fun i j => decide (i ≤ j)) d2 d3 fun r' => Ψ (.p (.bool r')) W3)) : Ev U (.Compare a [.LtE, .LtE] [b, c] pos) env W Ψ :=
  .here (pe_chain op_le op_le pe_sem pe_sem pe_sem hm) fun σ G H eg hs sl Q q => h σ G H eg hs sl _ fun x G1 H1 d1 W1 e1 h1 r1 z1 =>
    z1 σ G1 H1 (eg.trans e1) h1 (sl.mono e1) _ fun y G2 H2 d2 W2 e2 h2 r2 z2 => by
      dsimp only at z2
      unfold CmpD at z2
      split at z2
      · cases r1; cases r2
        refine ⟨_, _, rfl, rfl, _, rfl, ?_⟩
        split
        · rename_i hd
          refine z2.2 hd σ G2 H2 ((eg.trans e1).trans e2) h2 (sl.mono (e1.trans e2)) _ fun w G3 H3 d3 W3 e3 h3 r3 z3 => ?_
          dsimp only at z3
          split at z3
          · rename_i hh
            cases hh
            cases r3
            exact ⟨_, _, rfl, rfl, q _ G3 H3 (.p (.bool _)) W3 ((e1.trans e2).trans e3) h3 (Rp.bl _) z3⟩
          · exact z3.elim
        · rename_i hd
          exact q _ G2 H2 (.p (.bool false)) W2 (e1.trans e2) h2 (Rp.bl _) (z2.1 (by simpa using hd))
      · exact z2.elim
def EqD (f : Bool → Bool) : D → D → (D → Prop) → Prop
  | .p (.int a), .p (.int b), k => k (.p (.bool (f (decide (a = b)))))
  | .p a, .p b, k => SeqAt.shaped a = true ∧ SeqAt.shaped b = true ∧ k (.p (.bool (f (PyData.eqv a b))))
  | _, _, _ => False
theorem shaped_int (i : Int) : SeqAt.shaped (.int i) = true := by first | rfl | decide | simp [SeqAt.shaped, PyData.canLay0, PyData.depth]
theorem eqv_int (i j : Int) : PyData.eqv (.int i) (.int j) = decide (i = j) := by
  unfold PyData.eqv
  by_cases h : i = j
  · subst h; simp
  · rw [decide_eq_false h]; exact beq_eq_false_iff_ne.mpr h
theorem ev_eq (ok : U.Ok) (h : Ev U a env W fun d1 W1 => Ev U b env W1 fun d2 W2 => EqD id d1 d2 fun d => Ψ d W2) : Ev U (.Compare a [.Eq] [b] pos) env W Ψ := by
  refine ev_cmp (op_eqD ok.room.units) (nomark _) (h.imp fun d1 W1 h1 => h1.imp fun d2 W2 h2 => ?_)
  intro G H x y eg hs rx ry Q q
  unfold EqD at h2
  split at h2
  · refine ⟨_, _, Rp.dp hs.g _ _ rx, Rp.dp hs.g _ _ ry, shaped_int _, shaped_int _, ?_⟩
    rw [eqv_int]
    exact q _ G H (.p (.bool _)) W2 (Ex.refl G) hs (Rp.bl _) h2
  · exact ⟨_, _, Rp.dp hs.g _ _ rx, Rp.dp hs.g _ _ ry, h2.1, h2.2.1, q _ G H (.p (.bool _)) W2 (Ex.refl G) hs (Rp.bl _) h2.2.2⟩
  · exact h2.elim
theorem ev_ne (ok : U.Ok) (h : Ev U a env W fun d1 W1 => Ev U b env W1 fun d2 W2 => EqD not d1 d2 fun d => Ψ d W2) : Ev U (.Compare a [.NotEq] [b] pos) env W Ψ := by
  refine ev_cmp (op_neD ok.room.units) (nomark _) (h.imp fun d1 W1 h1 => h1.imp fun d2 W2 h2 => ?_)
  intro G H x y eg hs rx ry Q q
  unfold EqD at h2
  split at h2
  · refine ⟨_, _, Rp.dp hs.g _ _ rx, Rp.dp hs.g _ _ ry, shaped_int _, shaped_int _, ?_⟩
    rw [eqv_int]
    exact q _ G H (.p (.bool _)) W2 (Ex.refl G) hs (Rp.bl _) h2
  · exact ⟨_, _, Rp.dp hs.g _ _ rx, Rp.dp hs.g _ _ ry, h2.1, h2.2.1, q _ G H (.p (.bool _)) W2 (Ex.refl G) hs (Rp.bl _) h2.2.2⟩
  · exact h2.elim
def isNoneD : D → Bool
  | .p .none => true
  | _ => false
theorem Rep.non {K : PySem.W.Frag} {C : Addr} {G : Hp} {v : V} {d : D} (h : Rep K C G v d) : decide (v = .non) = isNoneD d := by
  cases d with
  | p d =>
    cases d <;> (cases h <;> first | rfl | exact decide_eq_false (fun z => nomatch z))
  | scr ns => obtain ⟨a, rfl, _⟩ := h; exact decide_eq_false (fun z => nomatch z)
  | tt rows => obtain ⟨a, _, _, rfl, _⟩ := h; exact decide_eq_false (fun z => nomatch z)
  | adr a => rw [show v = .ref a from h]; exact decide_eq_false (fun z => nomatch z)
  | dct f => obtain ⟨a, _, rfl, _⟩ := h; exact decide_eq_false (fun z => nomatch z)
  | pl4 _ _ _ _ => obtain ⟨a, _, _, _, _, _, rfl, _⟩ := h; exact decide_eq_false (fun z => nomatch z)
  | rng _ => obtain ⟨a, rfl, _⟩ := h; exact decide_eq_false (fun z => nomatch z)
  | ptup _ => obtain ⟨a, _, _, rfl, _⟩ := h; exact decide_eq_false (fun z => nomatch z)
  | sem _ => obtain ⟨⟨a, rfl⟩, _⟩ := h; exact decide_eq_false (fun z => nomatch z)
theorem ev_isN {j} {p2 : Pos} (h : Ev U a env W fun d1 W1 => Ψ (.p (.bool (isNoneD d1))) W1) : Ev U (.Compare a [.Is] [.Constant .none j p2] pos) env W Ψ :=
  .here (pe_cmpR op_isN pe_sem pe_non (nomark _)) fun σ G H eg hs sl Q q => h σ G H eg hs sl _ fun x G1 H1 d1 W1 e1 h1 r1 z1 =>
    ⟨rfl, by rw [Rep.non r1]; exact q _ G1 H1 (.p (.bool _)) W1 e1 h1 (Rp.bl _) z1⟩
theorem ev_isnotN {j} {p2 : Pos} (h : Ev U a env W fun d1 W1 => Ψ (.p (.bool (!isNoneD d1))) W1) : Ev U (.Compare a [.IsNot] [.Constant .none j p2] pos) env W Ψ :=
  .here (pe_cmpR op_notN pe_sem pe_non (nomark _)) fun σ G H eg hs sl Q q => h σ G H eg hs sl _ fun x G1 H1 d1 W1 e1 h1 r1 z1 =>
    ⟨rfl, by rw [Rep.non r1]; exact q _ G1 H1 (.p (.bool _)) W1 e1 h1 (Rp.bl _) z1⟩
/-- one sign in a text -/
def InS : D → D → (Bool → Prop) → Prop
  | .p (.str x), .p (.str z), k => ∃ c : Nat, x = ⟨#[c]⟩ ∧ k (decide (c ∈ z.cps.toList))
  | _, _, _ => False
theorem ev_inS (hm : behindInMarks .In b = false) (h : Ev U a env W fun d1 W1 => Ev U b env W1 fun d2 W2 => InS d1 d2 fun r => Ψ (.p (.bool r)) W2) : Ev U (.Compare a [.In] [b] pos) env W Ψ := by
  refine ev_cmp op_in_sign hm (h.imp fun d1 W1 h1 => h1.imp fun d2 W2 h2 => ?_)
  intro G H x y eg hs rx ry Q q
  unfold InS at h2
  split at h2
  · cases rx; cases ry
    obtain ⟨c, rfl, k⟩ := h2
    exact ⟨c, _, rfl, rfl, q _ G H (.p (.bool _)) W2 (Ex.refl G) hs (Rp.bl _) k⟩
  · exact h2.elim
/-! ### tests -/
/-- truth by data -/
def TruD : D → (Bool → Prop) → Prop
  | .p .none, k => k false
  | .p (.bool b), k => k b
  | .p (.int i), k => k (i != 0)
  | .p (.str s), k => s.length ≤ sizeLine ∧ k ((s.length : Int) != 0)
  | .p (.list xs), k => k (!xs.isEmpty)
  | .p (.tuple xs), k => k (!xs.isEmpty)
  | _, _ => False
theorem isEmpty_len {α β : Type} {xs : List α} {ys : List β} (h : xs.length = ys.length) : xs.isEmpty = ys.isEmpty := by
  cases xs <;> cases ys <;> simp_all
theorem TruD.ok {K : PySem.W.Frag} {C : Addr} {G H : Hp} (e : Ex G H) {v : V} {d : D} {k : Bool → Prop} (r : Rep K C G v d) (h : TruD d k) : ∃ b, TruV K v H b ∧ k b := by
  unfold TruD at h
  split at h
  · cases r; exact ⟨_, rfl, h⟩
  · cases r; exact ⟨_, rfl, h⟩
  · cases r; exact ⟨_, rfl, h⟩
  · cases r; exact ⟨_, ⟨h.1, rfl⟩, h.2⟩
  · cases r with
    | lst h1 r1 => exact ⟨_, .inl ⟨_, SqL.of (e _ _ h1), rfl⟩, by rw [isEmpty_len r1.len]; exact h⟩
  · cases r with
    | tup h1 r1 => exact ⟨_, .inr (.inl ⟨_, SqT.of (e _ _ h1), rfl⟩), by rw [isEmpty_len r1.len]; exact h⟩
  · exact h.elim
theorem et_val {Ψ : Bool → Ow → Prop} (h : Ev U e env W fun d W' => TruD d fun b => Ψ b W') (he : ∀ whole, isTrue e U.X.env whole = (do let v ← whole; standAt e.pos; holding [v] (truthy v)) := by intro _; rfl) : EvT U e env W Ψ :=
  fun σ G H eg hs sl Q q => SemT.of (pt_truth pe_sem he) (h σ G H eg hs sl _ fun v G1 H1 d W1 e1 h1 r1 z1 => by
    obtain ⟨b, t, z⟩ := TruD.ok h1.g r1 z1
    exact ⟨b, t, q b G1 H1 W1 e1 h1 z⟩)
theorem et_not {Ψ : Bool → Ow → Prop} (h : EvT U e env W fun b W' => Ψ (!b) W') : EvT U (.UnaryOp .Not e pos) env W Ψ :=
  fun σ G H eg hs sl Q q => SemT.of (pt_not pt_sem) (h σ G H eg hs sl _ fun b G1 H1 W1 e1 h1 z1 => q _ G1 H1 W1 e1 h1 z1)
theorem et_of {Ψ : Bool → Ow → Prop} (h : EvW U e env W Ψ) : EvT U e env W Ψ := fun σ G H eg hs sl Q q => SemT.of pw_sem.pt (h σ G H eg hs sl Q q)
theorem ew_one {Ψ : Bool → Ow → Prop} {op : BoolOp} (h : EvT U e env W Ψ) : EvW U (.BoolOp op [e] pos) env W Ψ := fun σ G H eg hs sl Q q => by
  cases op with
  | And => exact SemW.of (pw_and1 pt_sem) (h σ G H eg hs sl Q q)
  | Or => exact SemW.of (pw_or1 pt_sem) (h σ G H eg hs sl Q q)
theorem ew_and {Ψ : Bool → Ow → Prop} {rest : List Expr} (h : EvT U a env W fun k W1 => (k = false → Ψ false W1) ∧ (k = true → EvW U (.BoolOp .And (b :: rest) pos) env W1 Ψ)) : EvW U (.BoolOp .And (a :: b :: rest) pos) env W Ψ :=
  fun σ G H eg hs sl Q q => SemW.of (pw_and pt_sem pw_sem) (h σ G H eg hs sl _ fun k G1 H1 W1 e1 h1 z1 => by
    cases k with
    | true => exact z1.2 rfl σ G1 H1 (eg.trans e1) h1 (sl.mono e1) Q fun v G2 H2 W2 a b z => q v G2 H2 W2 (e1.trans a) b z
    | false => exact q false G1 H1 W1 e1 h1 (z1.1 rfl))
theorem ew_or {Ψ : Bool → Ow → Prop} {rest : List Expr} (h : EvT U a env W fun k W1 => (k = true → Ψ true W1) ∧ (k = false → EvW U (.BoolOp .Or (b :: rest) pos) env W1 Ψ)) : EvW U (.BoolOp .Or (a :: b :: rest) pos) env W Ψ :=
  fun σ G H eg hs sl Q q => SemW.of (pw_or pt_sem pw_sem) (h σ G H eg hs sl _ fun k G1 H1 W1 e1 h1 z1 => by
    cases k with
    | false => exact z1.2 rfl σ G1 H1 (eg.trans e1) h1 (sl.mono e1) Q fun v G2 H2 W2 a b z => q v G2 H2 W2 (e1.trans a) b z
    | true => exact q true G1 H1 W1 e1 h1 (z1.1 rfl))
/-! ### and, or, not, if as values -/
def BoolD : D → (Bool → Prop) → Prop
  | .p (.bool b), k => k b
  | _, _ => False
theorem ev_one {op : BoolOp} (h : Ev U a env W Ψ) : Ev U (.BoolOp op [a] pos) env W Ψ := .here (pe_one pe_sem) fun σ G H eg hs sl Q q => h σ G H eg hs sl Q q
theorem ev_and {rest : List Expr} (h : Ev U a env W fun d W1 => BoolD d fun k => (k = false → Ψ (.p (.bool false)) W1) ∧ (k = true → Ev U (.BoolOp .And (b :: rest) pos) env W1 Ψ)) : Ev U (.BoolOp .And (a :: b :: rest) pos) env W Ψ :=
  .here (pe_and pe_sem pe_sem) fun σ G H eg hs sl Q q => h σ G H eg hs sl _ fun x G1 H1 d1 W1 e1 h1 r1 z1 => by
    dsimp only at z1
    unfold BoolD at z1
    split at z1
    · rename_i k
      cases r1
      refine ⟨_, rfl, ?_⟩
      cases k with
      | true => exact z1.2 rfl σ G1 H1 (eg.trans e1) h1 (sl.mono e1) Q fun v G2 H2 d W2 a b c z => q v G2 H2 d W2 (e1.trans a) b c z
      | false => exact q _ G1 H1 (.p (.bool false)) W1 e1 h1 (Rp.bl _) (z1.1 rfl)
    · exact z1.elim
theorem ev_or {rest : List Expr} (h : Ev U a env W fun d W1 => BoolD d fun k => (k = true → Ψ (.p (.bool true)) W1) ∧ (k = false → Ev U (.BoolOp .Or (b :: rest) pos) env W1 Ψ)) : Ev U (.BoolOp .Or (a :: b :: rest) pos) env W Ψ :=
  .here (pe_or pe_sem pe_sem) fun σ G H eg hs sl Q q => h σ G H eg hs sl _ fun x G1 H1 d1 W1 e1 h1 r1 z1 => by
    dsimp only at z1
    unfold BoolD at z1
    split at z1
    · rename_i k
      cases r1
      refine ⟨_, rfl, ?_⟩
      cases k with
      | false => exact z1.2 rfl σ G1 H1 (eg.trans e1) h1 (sl.mono e1) Q fun v G2 H2 d W2 a b c z => q v G2 H2 d W2 (e1.trans a) b c z
      | true => exact q _ G1 H1 (.p (.bool true)) W1 e1 h1 (Rp.bl _) (z1.1 rfl)
    · exact z1.elim
theorem ev_not (h : Ev U a env W fun d W1 => BoolD d fun k => Ψ (.p (.bool (!k))) W1) : Ev U (.UnaryOp .Not a pos) env W Ψ :=
  .here (pe_not pe_sem) fun σ G H eg hs sl Q q => h σ G H eg hs sl _ fun x G1 H1 d1 W1 e1 h1 r1 z1 => by
    dsimp only at z1
    unfold BoolD at z1
    split at z1
    · cases r1
      exact ⟨_, rfl, q _ G1 H1 (.p (.bool _)) W1 e1 h1 (Rp.bl _) z1⟩
    · exact z1.elim
theorem ev_if (h : EvT U c env W fun k W1 => (k = true → Ev U a env W1 Ψ) ∧ (k = false → Ev U b env W1 Ψ)) : Ev U (.IfExp c a b pos) env W Ψ :=
  .here (pe_ifExp pt_sem pe_sem pe_sem) fun σ G H eg hs sl Q q => h σ G H eg hs sl _ fun k G1 H1 W1 e1 h1 z1 => by
    cases k with
    | true => exact z1.1 rfl σ G1 H1 (eg.trans e1) h1 (sl.mono e1) Q fun v G2 H2 d W2 a b c z => q v G2 H2 d W2 (e1.trans a) b c z
    | false => exact z1.2 rfl σ G1 H1 (eg.trans e1) h1 (sl.mono e1) Q fun v G2 H2 d W2 a b c z => q v G2 H2 d W2 (e1.trans a) b c z
/-! ### arguments, displays -/
theorem ea_nil {Ψ : List D → Ow → Prop} (k : Ψ [] W) : EvA U [] env W Ψ := fun σ G H eg hs sl Q q => SemA.of pa_nil (q [] G H [] W (Ex.refl G) hs .nil k)
theorem ea_cons {Ψ : List D → Ow → Prop} {es : List Expr} (h : Ev U e env W fun d W1 => EvA U es env W1 fun ds W2 => Ψ (d :: ds) W2) (hs : starEach (e :: es) U.X.env = (false, eval e U.X.env) :: starEach es U.X.env := by rfl) : EvA U (e :: es) env W Ψ :=
  fun σ G H eg h0 sl Q q => SemA.of (pa_cons pe_sem pa_sem hs) (h σ G H eg h0 sl _ fun x G1 H1 d1 W1 e1 h1 r1 z1 =>
    z1 σ G1 H1 (eg.trans e1) h1 (sl.mono e1) _ fun vs G2 H2 ds W2 e2 h2 r2 z2 => q _ G2 H2 _ W2 (e1.trans e2) h2 (.cons (r1.mono e2) r2) z2)
/-- all of them data -/
def AllP : List D → (List PyData → Prop) → Prop
  | [], k => k []
  | .p d :: ds, k => AllP ds fun r => k (d :: r)
  | _ :: _, _ => False
theorem AllP.ok {ds : List D} : ∀ {k : List PyData → Prop}, AllP ds k → ∃ ps, ds = ps.map .p ∧ k ps := by
  induction ds with
  | nil => intro k h; exact ⟨[], rfl, h⟩
  | cons d ds ih =>
    intro k h
    cases d with
    | p d =>
      obtain ⟨ps, e, q⟩ := ih (show AllP ds fun r => k (d :: r) from h)
      exact ⟨d :: ps, by rw [e] <;> rfl, q⟩
    | scr _ => exact (show False from h).elim
    | tt _ => exact (show False from h).elim
    | adr _ => exact (show False from h).elim
    | dct _ => exact (show False from h).elim
    | pl4 _ _ _ _ => exact (show False from h).elim
    | rng _ => exact (show False from h).elim
    | ptup _ => exact (show False from h).elim
    | sem _ => exact (show False from h).elim
theorem ev_tup {es : List Expr} {x1} (h : EvA U es env W fun ds W1 => AllP ds fun ps => ps.length ≤ 1000 ∧ Ψ (.p (.tuple ps)) W1) : Ev U (.Tuple es x1 pos) env W Ψ :=
  .here (pe_tup pa_sem) fun σ G H eg hs sl Q q => h σ G H eg hs sl _ fun vs G1 H1 ds W1 e1 h1 r1 z1 => by
    obtain ⟨ps, e, z, k⟩ := AllP.ok z1
    subst e
    have ra := RepAll.data r1
    refine ⟨by rw [ra.len]; exact Nat.le_of_lt (small1000 z), fun p hp => ?_⟩
    exact q _ _ _ (.p (.tuple ps)) W1 (e1.trans (h1.ex hp)) (h1.new hp) (Rp.tup upd_same (RpAll.mono (h1.ex hp) _ _ ra)) k
/-- a written list: from now on it only grows as a whole -/
theorem ev_lst {es : List Expr} (h : EvA U es env W fun ds W1 => AllP ds fun ps => ps.length ≤ 1000 ∧ Ψ (.p (.list ps)) W1) : Ev U (.List es pos) env W Ψ :=
  .here (pe_lst pa_sem) fun σ G H eg hs sl Q q => h σ G H eg hs sl _ fun vs G1 H1 ds W1 e1 h1 r1 z1 => by
    obtain ⟨ps, e, z, k⟩ := AllP.ok z1
    subst e
    have ra := RepAll.data r1
    refine ⟨by rw [ra.len]; exact Nat.le_of_lt (small1000 z), fun p hp => ?_⟩
    exact q _ _ _ (.p (.list ps)) W1 (e1.trans (h1.ex hp)) (h1.new hp) (Rp.lst upd_same (RpAll.mono (h1.ex hp) _ _ ra)) k
/-- a written list that is owned -/
theorem ev_lstO {es : List Expr} (h : EvA U es env W fun ds W1 => ds.length ≤ 1000 ∧ ∀ p : Addr, Ψ (.adr p) ((p, .l ds) :: W1)) : Ev U (.List es pos) env W Ψ :=
  .here (pe_lst pa_sem) fun σ G H eg hs sl Q q => h σ G H eg hs sl _ fun vs G1 H1 ds W1 e1 h1 r1 z1 =>
    ⟨by rw [r1.len]; exact Nat.le_of_lt (small1000 z1.1), fun p hp => q _ G1 _ (.adr p) _ e1 (h1.own (u := .l ds) hp ⟨vs, rfl, r1⟩) rfl (z1.2 p)⟩
end

end Q
namespace Q
open PySem PySem.Spec PyProof.Rows L2
open Evl (Ex)

section
variable {U : Ct} {env : Ev0} {W : Ow} {Ψ : D → Ow → Prop} {Φ : Ke} {e a b c : Expr} {pos p0 : Pos} {es : List Expr}
theorem EvA.imp {Ψ Ψ' : List D → Ow → Prop} (h : EvA U es env W Ψ') (k : ∀ d W', Ψ' d W' → Ψ d W') : EvA U es env W Ψ := fun σ G H eg hs sl Q q => h σ G H eg hs sl Q fun v G2 H2 d W2 a b c z => q v G2 H2 d W2 a b c (k _ _ z)
/-! ### items -/
theorem RpAll.intsOf {α : Type} {G : Hp} (f : α → Int) : ∀ l : List α, RpAll G (l.map fun n => V.int (f n)) (l.map fun n => .int (f n))
  | [] => .nil
  | _ :: l => .cons (.int _) (RpAll.intsOf f l)
theorem RpAll.at {G : Hp} {vs : List V} {ds : List PyData} {i : Int} {d : PyData} (h : RpAll G vs ds) (e : atI ds i = some d) : ∃ v, atI vs i = some v ∧ Rp G v d := by
  unfold atI at e ⊢
  rw [h.len]
  cases hx : ixN ds.length i with
  | none => rw [hx] at e; cases e
  | some j => rw [hx] at e; exact h.get e
theorem RepAll.get {K : PySem.W.Frag} {C : Addr} {G : Hp} : ∀ {vs : List V} {ds : List D} {i : Nat} {d : D}, RepAll K C G vs ds → ds[i]? = some d → ∃ v, vs[i]? = some v ∧ Rep K C G v d
  | _, _, _, _, .nil, e => by simp at e
  | _, _, 0, _, .cons h _, e => by simp at e; subst e; exact ⟨_, rfl, h⟩
  | _, _, i + 1, _, .cons _ h, e => by
    obtain ⟨v, a, b⟩ := RepAll.get (i := i) h (by simpa using e)
    exact ⟨v, by simpa using a, b⟩
theorem RepAll.at {K : PySem.W.Frag} {C : Addr} {G : Hp} {vs : List V} {ds : List D} {i : Int} {d : D} (h : RepAll K C G vs ds) (e : atI ds i = some d) : ∃ v, atI vs i = some v ∧ Rep K C G v d := by
  unfold atI at e ⊢
  rw [h.len]
  cases hx : ixN ds.length i with
  | none => rw [hx] at e; cases e
  | some j => rw [hx] at e; exact h.get e
theorem RepAll.set {K : PySem.W.Frag} {C : Addr} {G : Hp} {v : V} {d : D} (h : Rep K C G v d) : ∀ {vs : List V} {ds : List D} (n : Nat), RepAll K C G vs ds → RepAll K C G (vs.set n v) (ds.set n d)
  | _, _, _, .nil => .nil
  | _, _, 0, .cons _ b => .cons h b
  | _, _, n + 1, .cons a b => .cons a (RepAll.set h n b)
theorem at_map {α β : Type} {xs : List α} {f : α → β} {i : Int} {x : α} (e : atI xs i = some x) : atI (xs.map f) i = some (f x) := by
  unfold atI at e ⊢
  rw [List.length_map]
  cases hx : ixN xs.length i with
  | none => rw [hx] at e; cases e
  | some j =>
    rw [hx] at e
    show (xs.map f)[j]? = some (f x)
    rw [List.getElem?_map, show xs[j]? = some x from e] <;> rfl
def GetD : D → D → (D → Prop) → Prop
  | .p (.list ds), .p (.int i), k => ∃ d, atI ds i = some d ∧ k (.p d)
  | .p (.tuple ds), .p (.int i), k => ∃ d, atI ds i = some d ∧ k (.p d)
  | .scr ns, .p (.int i), k => ∃ n, atI ns i = some n ∧ k (.p (.int n))
  | _, _, _ => False
theorem ev_ix (h : Ev U a env W fun d1 W1 => Ev U b env W1 fun d2 W2 => GetD d1 d2 fun d => Ψ d W2) (hs : PlainIx b := by exact fun _ _ => rfl) : Ev U (.Subscript a b pos) env W Ψ :=
  .here (pe_ix (IxR.or ix_list ix_tup) pe_sem pe_sem hs) fun σ G H eg h0 sl Q q => h σ G H eg h0 sl _ fun x G1 H1 d1 W1 e1 h1 r1 z1 =>
    z1 σ G1 H1 (eg.trans e1) h1 (sl.mono e1) _ fun y G2 H2 d2 W2 e2 h2 r2 z2 => by
      replace r1 := r1.mono e2
      dsimp only at z2
      unfold GetD at z2
      split at z2
      · cases r2
        obtain ⟨d, hd, k⟩ := z2
        cases r1 with
        | lst hl ra =>
          obtain ⟨v, hv, rv⟩ := ra.at hd
          exact .inl ⟨_, _, _, v, rfl, rfl, SqL.of (h2.g _ _ hl), hv, q v G2 H2 (.p d) W2 (e1.trans e2) h2 rv k⟩
      · cases r2
        obtain ⟨d, hd, k⟩ := z2
        cases r1 with
        | tup hl ra =>
          obtain ⟨v, hv, rv⟩ := ra.at hd
          exact .inr ⟨_, _, _, v, rfl, rfl, SqT.of (h2.g _ _ hl), hv, q v G2 H2 (.p d) W2 (e1.trans e2) h2 rv k⟩
      · cases r2
        obtain ⟨n, hd, k⟩ := z2
        obtain ⟨a, rfl, hq⟩ := r1
        exact .inl ⟨_, _, _, _, rfl, rfl, Evl.ex_l h2.g hq, at_map hd, q _ G2 H2 (.p (.int n)) W2 (e1.trans e2) h2 (Rp.int n) k⟩
      · exact z2.elim
/-- an item of an owned list -/
theorem ev_ixO (h : Ev U a env W fun d1 W1 => Ev U b env W1 fun d2 W2 => ∃ (p : Addr) (i : Int) (L R : Ow) (ds : List D) (d : D), d1 = .adr p ∧ d2 = .p (.int i) ∧ W2 = L ++ (p, .l ds) :: R ∧ atI ds i = some d ∧ Ψ d W2) (hs : PlainIx b := by exact fun _ _ => rfl) : Ev U (.Subscript a b pos) env W Ψ :=
  .here (pe_ix ix_list pe_sem pe_sem hs) fun σ G H eg h0 sl Q q => h σ G H eg h0 sl _ fun x G1 H1 d1 W1 e1 h1 r1 z1 =>
    z1 σ G1 H1 (eg.trans e1) h1 (sl.mono e1) _ fun y G2 H2 d2 W2 e2 h2 r2 z2 => by
      obtain ⟨p, i, L, R, ds, d, rfl, rfl, eW, hd, k⟩ := z2
      subst eW
      obtain rfl : x = .ref p := r1
      cases r2
      obtain ⟨o, ho, xs, rfl, ra⟩ := h2.at_
      obtain ⟨v, hv, rv⟩ := ra.at hd
      exact ⟨_, _, _, v, rfl, rfl, SqL.of ho, hv, q v G2 H2 d _ (e1.trans e2) h2 rv k⟩
/-! ### slices -/
def cutD (xs : List PyData) (lo hi : Option Int) : List PyData := (xs.drop (HT.sIx xs.length 0 lo)).take (HT.sIx xs.length xs.length hi - HT.sIx xs.length 0 lo)
theorem RpAll.cut {G : Hp} {vs : List V} {ds : List PyData} (h : RpAll G vs ds) (lo hi : Option Int) : RpAll G (cutV vs lo hi) (cutD ds lo hi) := by
  unfold cutV cutD
  rw [h.len]
  exact (h.drop _).take _
def EvO (U : Ct) (e : Option Expr) (env : Ev0) (W : Ow) (Ψ : Option Int → Ow → Prop) : Prop :=
  match e with
  | none => Ψ none W
  | some e => Ev U e env W fun d W1 => ∃ i, d = .p (.int i) ∧ Ψ (some i) W1
def SlD (lo hi : Option Int) : D → (D → Prop) → Prop
  | .p (.list xs), k => k (.p (.list (cutD xs lo hi)))
  | .p (.tuple xs), k => k (.p (.tuple (cutD xs lo hi)))
  | _, _ => False
def tO (X : Cx) : Option Expr → TO
  | none => tNoPart
  | some e => tPart (SemE X e)
theorem po_sem {X : Cx} {e : Option Expr} : PO X e (tO X e) := by
  cases e with
  | none => exact po_none
  | some e => exact po_some pe_sem
theorem EvO.run {lo : Option Expr} {Ψ : Option Int → Ow → Prop} (h : EvO U lo env W Ψ) {σ : L2.St} {G H : Hp} (eg : Ex U.G G) (hs : Hs U.X.K U.C U.T G W H) (sl : Slots U.X.K U.C G σ env) {Q : Option Int → Hp → Prop}
    (q : ∀ i G2 H2 W2, Ex G G2 → Hs U.X.K U.C U.T G2 W2 H2 → Ψ i W2 → Q i H2) : tO U.X lo σ H Q := by
  cases lo with
  | none => exact q none G H W (Ex.refl G) hs h
  | some e =>
    refine (show Ev U e env W fun d W1 => ∃ i, d = .p (.int i) ∧ Ψ (some i) W1 from h) σ G H eg hs sl _ fun v G2 H2 d W2 e2 h2 r2 z1 => ?_
    obtain ⟨i, ed, z⟩ := z1
    subst ed
    cases r2
    exact ⟨i, rfl, q _ G2 H2 W2 e2 h2 z⟩
theorem ev_slice {lo hi : Option Expr} {p2 : Pos} (h : Ev U e env W fun d W1 => EvO U lo env W1 fun l W2 => EvO U hi env W2 fun u W3 => SlD l u d fun r => Ψ r W3) : Ev U (.Subscript e (.Slice lo hi none p2) pos) env W Ψ :=
  .here (pe_slice (SlR.or sl_list sl_tupA) pe_sem po_sem po_sem) fun σ G H eg h0 sl Q q => h σ G H eg h0 sl _ fun x G1 H1 d1 W1 e1 h1 r1 z1 =>
    z1.run (eg.trans e1) h1 (sl.mono e1) fun l G2 H2 W2 e2 h2 z2 => z2.run ((eg.trans e1).trans e2) h2 (sl.mono (e1.trans e2)) fun u G3 H3 W3 e3 h3 z3 => by
      replace r1 := r1.mono (e2.trans e3)
      unfold SlD at z3
      split at z3
      · cases r1 with
        | lst hl ra =>
          refine .inl ⟨_, _, rfl, SqL.of (h3.g _ _ hl), fun p hp => ?_⟩
          exact q _ _ _ (.p (.list _)) W3 (((e1.trans e2).trans e3).trans (h3.ex hp)) (h3.new hp) (Rp.lst upd_same (RpAll.mono (h3.ex hp) _ _ (ra.cut l u))) z3
      · cases r1 with
        | tup hl ra =>
          refine .inr ⟨_, _, rfl, SqT.of (h3.g _ _ hl), fun hw => ?_, fun hw p hp => ?_⟩
          · have ec : ∀ {α : Type} (ys : List α), HT.sIx ys.length 0 l = 0 → HT.sIx ys.length ys.length u = ys.length → (ys.drop (HT.sIx ys.length 0 l)).take (HT.sIx ys.length ys.length u - HT.sIx ys.length 0 l) = ys := fun ys a b => by
              rw [a, b]; simp
            have e4 : cutD _ l u = _ := ec _ (by rw [← ra.len]; exact hw.1) (by rw [← ra.len]; exact hw.2)
            rw [e4] at z3
            exact q _ G3 H3 (.p (.tuple _)) W3 ((e1.trans e2).trans e3) h3 (Rp.tup hl ra) z3
          · exact q _ _ _ (.p (.tuple _)) W3 (((e1.trans e2).trans e3).trans (h3.ex hp)) (h3.new hp) (Rp.tup upd_same (RpAll.mono (h3.ex hp) _ _ (ra.cut l u))) z3
      · exact z3.elim
def RevD : D → (D → Prop) → Prop
  | .p (.list xs), k => k (.p (.list xs.reverse))
  | _, _ => False
theorem ev_rev {k : Nat} {p1 p2 p3 : Pos} (h : Ev U e env W fun d W1 => RevD d fun r => Ψ r W1) : Ev U (.Subscript e (.Slice none none (some (.UnaryOp .USub (.Constant (.int 1) k p1) p2)) p3) pos) env W Ψ :=
  .here (pe_revL pe_sem) fun σ G H eg h0 sl Q q => h σ G H eg h0 sl _ fun x G1 H1 d1 W1 e1 h1 r1 z1 => by
    dsimp only at z1
    unfold RevD at z1
    split at z1
    · cases r1 with
      | lst hl ra =>
        refine ⟨_, _, rfl, SqL.of (h1.g _ _ hl), fun p hp => ?_⟩
        exact q _ _ _ (.p (.list _)) W1 (e1.trans (h1.ex hp)) (h1.new hp) (Rp.lst upd_same (RpAll.mono (h1.ex hp) _ _ ra.rev)) z1
    · exact z1.elim
/-! ### built-in calls -/
def CallD (U : Ct) (r : List V → Hp → VK → Prop) (ds : List D) (W : Ow) (Ψ : D → Ow → Prop) : Prop :=
  ∀ (G H : Hp) (vs : List V), Ex U.G G → Hs U.X.K U.C U.T G W H → RepAll U.X.K U.C G vs ds → ∀ Q : VK, (∀ v G2 H2 d W2, Ex G G2 → Hs U.X.K U.C U.T G2 W2 H2 → U.R G2 v d → Ψ d W2 → Q v H2) → r vs H Q
theorem ev_callB {x : Str} {id : String} {r : List V → Hp → VK → Prop} (hc : CallR U.X (.builtin id) r) (hg : Gl U.X x) (hm : U.X.mg x = none) (hv : bootBuiltins x = some (.builtin id)) (h : EvA U (e :: es) env W fun ds W1 => CallD U r ds W1 Ψ) (hn : x ≠ "__name__" := by decide) (hdb : (x == ("__debug__" : Str)) = false := by decide)
    (he : starEach (e :: es) U.X.env = (false, eval e U.X.env) :: starEach es U.X.env := by rfl) (hpl : (backTo pos (starEach es U.X.env)).any (·.1) = false := by rfl) : Ev U (.Call (.Name x p0) (e :: es) [] pos) env W Ψ :=
  .here (pe_callB hc hg hm hv pa_sem hn hdb he hpl) fun σ G H eg h0 sl Q q => h σ G H eg h0 sl _ fun vs G1 H1 ds W1 e1 h1 r1 z1 =>
    z1 G1 H1 vs (eg.trans e1) h1 r1 Q fun v G2 H2 d W2 e2 h2 r2 z2 => q v G2 H2 d W2 (e1.trans e2) h2 r2 z2
theorem ev_callTy {x : Str} {id : String} {r : List V → Hp → VK → Prop} (hc : CallR U.X (.type id) r) (hg : Gl U.X x) (hm : U.X.mg x = none) (hv : bootBuiltins x = some (.type id)) (h : EvA U (e :: es) env W fun ds W1 => CallD U r ds W1 Ψ) (hn : x ≠ "__name__" := by decide) (hdb : (x == ("__debug__" : Str)) = false := by decide)
    (he : starEach (e :: es) U.X.env = (false, eval e U.X.env) :: starEach es U.X.env := by rfl) (hpl : (backTo pos (starEach es U.X.env)).any (·.1) = false := by rfl) : Ev U (.Call (.Name x p0) (e :: es) [] pos) env W Ψ :=
  .here (pe_callTy hc hg hm hv pa_sem hn hdb he hpl) fun σ G H eg h0 sl Q q => h σ G H eg h0 sl _ fun vs G1 H1 ds W1 e1 h1 r1 z1 =>
    z1 G1 H1 vs (eg.trans e1) h1 r1 Q fun v G2 H2 d W2 e2 h2 r2 z2 => q v G2 H2 d W2 (e1.trans e2) h2 r2 z2
/-- the built-in names that the text does not bind -/
structure Blt (mg : Str → Option Value) : Prop where
  len : mg "len" = none
  int : mg "int" = none
  str : mg "str" = none
  min : mg "min" = none
  max : mg "max" = none
  sum : mg "sum" = none
  list : mg "list" = none
  tuple : mg "tuple" = none
  range : mg "range" = none
  divmod : mg "divmod" = none
  isinstance : mg "isinstance" = none
  bool : mg "bool" = none
  any : mg "any" = none
  enumerate : mg "enumerate" = none
  zip : mg "zip" = none
def LenD : List D → (D → Prop) → Prop
  | [.p (.list xs)], k => k (.p (.int xs.length))
  | [.p (.tuple xs)], k => k (.p (.int xs.length))
  | [.p (.str x)], k => x.length ≤ sizeLine ∧ k (.p (.int x.length))
  | [.scr ns], k => k (.p (.int ns.length))
  | _, _ => False
theorem call_len_ok {ds : List D} (h : LenD ds fun d => Ψ d W) : CallD U (fun xs H Q => ∃ x n, xs = [x] ∧ LenV U.X.K x H n ∧ Q (.int n) H) ds W Ψ := by
  intro G H vs eg hs ra Q q
  unfold LenD at h
  split at h
  · cases ra with
    | cons r1 r2 =>
      cases r2
      cases r1 with
      | lst hl rr => exact ⟨_, _, rfl, .inl ⟨_, SqL.of (hs.g _ _ hl), rfl⟩, by rw [rr.len]; exact q _ G H (.p (.int _)) W (Ex.refl G) hs (Rp.int _) h⟩
  · cases ra with
    | cons r1 r2 =>
      cases r2
      cases r1 with
      | tup hl rr => exact ⟨_, _, rfl, .inr ⟨_, SqT.of (hs.g _ _ hl), rfl⟩, by rw [rr.len]; exact q _ G H (.p (.int _)) W (Ex.refl G) hs (Rp.int _) h⟩
  · cases ra with
    | cons r1 r2 =>
      cases r2
      cases r1
      exact ⟨_, _, rfl, ⟨h.1, rfl⟩, q _ G H (.p (.int _)) W (Ex.refl G) hs (Rp.int _) h.2⟩
  · cases ra with
    | cons r1 r2 =>
      cases r2
      obtain ⟨a, rfl, hq⟩ := r1
      exact ⟨_, _, rfl, .inl ⟨_, Evl.ex_l hs.g hq, rfl⟩, by rw [List.length_map]; exact q _ G H (.p (.int _)) W (Ex.refl G) hs (Rp.int _) h⟩
  · exact h.elim
theorem ev_len (B : Blt U.X.mg) (hg : Gl U.X "len") (h : EvA U [e] env W fun ds W1 => LenD ds fun d => Ψ d W1) (he : starEach [e] U.X.env = (false, eval e U.X.env) :: starEach [] U.X.env := by rfl) : Ev U (.Call (.Name "len" p0) [e] [] pos) env W Ψ :=
  ev_callB call_len hg B.len PySem.boot_len (h.imp fun _ _ z => call_len_ok z) (he := he) (hpl := rfl)
/-- len of an owned list -/
theorem ev_lenO (B : Blt U.X.mg) (hg : Gl U.X "len") (h : EvA U [e] env W fun ds W1 => ∃ (p : Addr) (L R : Ow) (xs : List D), ds = [.adr p] ∧ W1 = L ++ (p, .l xs) :: R ∧ Ψ (.p (.int xs.length)) W1) (he : starEach [e] U.X.env = (false, eval e U.X.env) :: starEach [] U.X.env := by rfl) : Ev U (.Call (.Name "len" p0) [e] [] pos) env W Ψ :=
  ev_callB call_len hg B.len PySem.boot_len (h.imp fun ds W1 z => by
    intro G H vs eg hs ra Q q
    obtain ⟨p, L, R, xs, rfl, rfl, k⟩ := z
    cases ra with
    | cons r1 r2 =>
      cases r2
      obtain rfl : _ = V.ref p := r1
      obtain ⟨o, ho, ys, rfl, rr⟩ := hs.at_
      exact ⟨_, _, rfl, .inl ⟨_, SqL.of ho, rfl⟩, by rw [rr.len]; exact q _ G H (.p (.int _)) _ (Ex.refl G) hs (Rp.int _) k⟩) (he := he) (hpl := rfl)
def Int1 : List D → (D → Prop) → Prop
  | [.p (.int i)], k => k (.p (.int i))
  | [.p (.bool b)], k => k (.p (.int (if b then 1 else 0)))
  | [.p (.str x)], k => ∃ n, PySem.intText? x = some n ∧ x.length ≤ 640 ∧ k (.p (.int n))
  | _, _ => False
theorem ev_toint (B : Blt U.X.mg) (hg : Gl U.X "int") (h : EvA U [e] env W fun ds W1 => Int1 ds fun d => Ψ d W1) (he : starEach [e] U.X.env = (false, eval e U.X.env) :: starEach [] U.X.env := by rfl) : Ev U (.Call (.Name "int" p0) [e] [] pos) env W Ψ :=
  ev_callTy (CallR.or call_int1 call_int_str) hg B.int (by decide +kernel) (h.imp fun ds W1 z => by
    intro G H vs eg hs ra Q q
    unfold Int1 at z
    split at z
    · cases ra with
      | cons r1 r2 => cases r2; cases r1; exact .inl (.inl ⟨_, rfl, q _ G H (.p (.int _)) _ (Ex.refl G) hs (Rp.int _) z⟩)
    · cases ra with
      | cons r1 r2 => cases r2; cases r1; exact .inl (.inr ⟨_, rfl, q _ G H (.p (.int _)) _ (Ex.refl G) hs (Rp.int _) z⟩)
    · cases ra with
      | cons r1 r2 =>
        cases r2; cases r1
        obtain ⟨n, hn, hl, k⟩ := z
        exact .inr ⟨_, n, rfl, hn, hl, q _ G H (.p (.int _)) _ (Ex.refl G) hs (Rp.int _) k⟩
    · exact z.elim) (he := he) (hpl := rfl)
def Str1 : List D → (D → Prop) → Prop
  | [.p (.int i)], k => i.natAbs.log2 < 1920 ∧ k (.p (.str (toString i)))
  | _, _ => False
theorem ev_tostr (B : Blt U.X.mg) (hg : Gl U.X "str") (h : EvA U [e] env W fun ds W1 => Str1 ds fun d => Ψ d W1) (he : starEach [e] U.X.env = (false, eval e U.X.env) :: starEach [] U.X.env := by rfl) : Ev U (.Call (.Name "str" p0) [e] [] pos) env W Ψ :=
  ev_callTy call_str_int hg B.str (by decide +kernel) (h.imp fun ds W1 z => by
    intro G H vs eg hs ra Q q
    unfold Str1 at z
    split at z
    · cases ra with
      | cons r1 r2 => cases r2; cases r1; exact ⟨_, rfl, z.1, q _ G H (.p (.str _)) _ (Ex.refl G) hs (Rp.str _) z.2⟩
    · exact z.elim) (he := he) (hpl := rfl)
def Two (f : Int → Int → Int) : List D → (D → Prop) → Prop
  | [.p (.int i), .p (.int j)], k => k (.p (.int (f i j)))
  | _, _ => False
theorem max_if (i j : Int) : (if j > i then j else i) = max i j := by
  by_cases h : j > i
  · rw [if_pos h]; omega
  · rw [if_neg h]; omega
theorem min_if (i j : Int) : (if j < i then j else i) = min i j := by
  by_cases h : j < i
  · rw [if_pos h]; omega
  · rw [if_neg h]; omega
theorem ev_max2 (ok : U.Ok) (B : Blt U.X.mg) (hg : Gl U.X "max") (h : EvA U [a, b] env W fun ds W1 => Two max ds fun d => Ψ d W1) (he : starEach [a, b] U.X.env = (false, eval a U.X.env) :: starEach [b] U.X.env := by rfl) (hpl : (backTo pos (starEach [b] U.X.env)).any (·.1) = false := by rfl) : Ev U (.Call (.Name "max" p0) [a, b] [] pos) env W Ψ :=
  ev_callB (call_max2 ok.calm) hg B.max (by decide +kernel) (h.imp fun ds W1 z => by
    intro G H vs eg hs ra Q q
    unfold Two at z
    split at z
    · cases ra with
      | cons r1 r2 => cases r2 with | cons r3 r4 => cases r4; cases r1; cases r3; exact ⟨_, _, rfl, by rw [max_if]; exact q _ G H (.p (.int _)) _ (Ex.refl G) hs (Rp.int _) z⟩
    · exact z.elim) (he := he) (hpl := hpl)
theorem ev_min2 (ok : U.Ok) (B : Blt U.X.mg) (hg : Gl U.X "min") (h : EvA U [a, b] env W fun ds W1 => Two min ds fun d => Ψ d W1) (he : starEach [a, b] U.X.env = (false, eval a U.X.env) :: starEach [b] U.X.env := by rfl) (hpl : (backTo pos (starEach [b] U.X.env)).any (·.1) = false := by rfl) : Ev U (.Call (.Name "min" p0) [a, b] [] pos) env W Ψ :=
  ev_callB (call_min2 ok.calm) hg B.min (by decide +kernel) (h.imp fun ds W1 z => by
    intro G H vs eg hs ra Q q
    unfold Two at z
    split at z
    · cases ra with
      | cons r1 r2 => cases r2 with | cons r3 r4 => cases r4; cases r1; cases r3; exact ⟨_, _, rfl, by rw [min_if]; exact q _ G H (.p (.int _)) _ (Ex.refl G) hs (Rp.int _) z⟩
    · exact z.elim) (he := he) (hpl := hpl)
theorem ev_sum (ok : U.Ok) (B : Blt U.X.mg) (hg : Gl U.X "sum") (h : EvA U [e] env W fun ds W1 => ∃ ns : List Int, ds = [.p (.list (ns.map .int))] ∧ Ψ (.p (.int ns.sum)) W1) (he : starEach [e] U.X.env = (false, eval e U.X.env) :: starEach [] U.X.env := by rfl) : Ev U (.Call (.Name "sum" p0) [e] [] pos) env W Ψ :=
  ev_callB (cr_sum ok.calm) hg B.sum (by decide +kernel) (h.imp fun ds W1 z => by
    intro G H vs eg hs ra Q q
    obtain ⟨ns, rfl, k⟩ := z
    cases ra with
    | cons r1 r2 =>
      cases r2
      cases r1 with
      | lst hl rr => exact ⟨_, ns, rfl, by rw [← rr.ints]; exact SqL.of (hs.g _ _ hl), q _ G H (.p (.int _)) _ (Ex.refl G) hs (Rp.int _) k⟩) (he := he) (hpl := rfl)
theorem ev_any (ok : U.Ok) (B : Blt U.X.mg) (hg : Gl U.X "any") (h : EvA U [e] env W fun ds W1 => ∃ ns : List Bool, ds = [.p (.list (ns.map .bool))] ∧ Ψ (.p (.bool (ns.any id))) W1) (he : starEach [e] U.X.env = (false, eval e U.X.env) :: starEach [] U.X.env := by rfl) : Ev U (.Call (.Name "any" p0) [e] [] pos) env W Ψ :=
  ev_callB (cr_any ok.calm) hg B.any (by decide +kernel) (h.imp fun ds W1 z => by
    intro G H vs eg hs ra Q q
    obtain ⟨ns, rfl, k⟩ := z
    cases ra with
    | cons r1 r2 =>
      cases r2
      cases r1 with
      | lst hl rr => exact ⟨_, ns, rfl, by rw [← rr.bools]; exact SqL.of (hs.g _ _ hl), q _ G H (.p (.bool _)) _ (Ex.refl G) hs (Rp.bl _) k⟩) (he := he) (hpl := rfl)
def ListOf : List D → (D → Prop) → Prop
  | [.p (.list xs)], k => k (.p (.list xs))
  | [.p (.tuple xs)], k => k (.p (.list xs))
  | _, _ => False
theorem ev_list (B : Blt U.X.mg) (hg : Gl U.X "list") (h : EvA U [e] env W fun ds W1 => ListOf ds fun d => Ψ d W1) (he : starEach [e] U.X.env = (false, eval e U.X.env) :: starEach [] U.X.env := by rfl) : Ev U (.Call (.Name "list" p0) [e] [] pos) env W Ψ :=
  ev_callTy call_list_of hg B.list (by decide +kernel) (h.imp fun ds W1 z => by
    intro G H vs eg hs ra Q q
    unfold ListOf at z
    split at z
    · cases ra with
      | cons r1 r2 =>
        cases r2
        cases r1 with
        | lst hl rr => exact ⟨_, _, rfl, .inl (SqL.of (hs.g _ _ hl)), fun p hp => q _ _ _ (.p (.list _)) _ (hs.ex hp) (hs.new hp) (Rp.lst upd_same (RpAll.mono (hs.ex hp) _ _ rr)) z⟩
    · cases ra with
      | cons r1 r2 =>
        cases r2
        cases r1 with
        | tup hl rr => exact ⟨_, _, rfl, .inr (SqT.of (hs.g _ _ hl)), fun p hp => q _ _ _ (.p (.list _)) _ (hs.ex hp) (hs.new hp) (Rp.lst upd_same (RpAll.mono (hs.ex hp) _ _ rr)) z⟩
    · exact z.elim) (he := he) (hpl := rfl)
def TupOf : List D → (D → Prop) → Prop
  | [.p (.list xs)], k => k (.p (.tuple xs))
  | [.p (.tuple xs)], k => k (.p (.tuple xs))
  | _, _ => False
theorem ev_tuple (B : Blt U.X.mg) (hg : Gl U.X "tuple") (h : EvA U [e] env W fun ds W1 => TupOf ds fun d => Ψ d W1) (he : starEach [e] U.X.env = (false, eval e U.X.env) :: starEach [] U.X.env := by rfl) : Ev U (.Call (.Name "tuple" p0) [e] [] pos) env W Ψ :=
  ev_callTy call_tuple_of hg B.tuple (by decide +kernel) (h.imp fun ds W1 z => by
    intro G H vs eg hs ra Q q
    unfold TupOf at z
    split at z
    · cases ra with
      | cons r1 r2 =>
        cases r2
        cases r1 with
        | lst hl rr => exact ⟨_, _, rfl, .inl ⟨SqL.of (hs.g _ _ hl), fun p hp => q _ _ _ (.p (.tuple _)) _ (hs.ex hp) (hs.new hp) (Rp.tup upd_same (RpAll.mono (hs.ex hp) _ _ rr)) z⟩⟩
    · cases ra with
      | cons r1 r2 =>
        cases r2
        cases r1 with
        | tup hl rr => exact ⟨_, _, rfl, .inr ⟨SqT.of (hs.g _ _ hl), q _ G H (.p (.tuple _)) _ (Ex.refl G) hs (Rp.tup hl rr) z⟩⟩
    · exact z.elim) (he := he) (hpl := rfl)
def DivmodD : List D → (D → Prop) → Prop
  | [.p (.int i), .p (.int j)], k => (0 < j ∧ j < 1073741824) ∧ k (.p (.tuple [.int (i / j), .int (i % j)]))
  | _, _ => False
theorem ev_divmod (B : Blt U.X.mg) (hg : Gl U.X "divmod") (h : EvA U [a, b] env W fun ds W1 => DivmodD ds fun d => Ψ d W1) (he : starEach [a, b] U.X.env = (false, eval a U.X.env) :: starEach [b] U.X.env := by rfl) (hpl : (backTo pos (starEach [b] U.X.env)).any (·.1) = false := by rfl) : Ev U (.Call (.Name "divmod" p0) [a, b] [] pos) env W Ψ :=
  ev_callB call_divmod hg B.divmod (by decide +kernel) (h.imp fun ds W1 z => by
    intro G H vs eg hs ra Q q
    unfold DivmodD at z
    split at z
    · cases ra with
      | cons r1 r2 =>
        cases r2 with
        | cons r3 r4 =>
          cases r4; cases r1; cases r3
          exact ⟨_, _, rfl, z.1, fun p hp => q _ _ _ (.p (.tuple _)) _ (hs.ex hp) (hs.new hp) (Rp.tup upd_same (.cons (.int _) (.cons (.int _) .nil))) z.2⟩
    · exact z.elim) (he := he) (hpl := hpl)
/-- list(range(a, b)) -/
theorem ev_listRg2 (ok : U.Ok) (B : Blt U.X.mg) {p2 p3 : Pos} (hg : Gl U.X "list") (hg2 : Gl U.X "range") (h : Ev U a env W fun d1 W1 => Ev U b env W1 fun d2 W2 => ∃ i j, d1 = .p (.int i) ∧ d2 = .p (.int j) ∧ RgOk i j ∧ Ψ (.p (.list ((List.range (j - i).toNat).map fun n => .int (i + (n : Nat))))) W2)
    (na : starEach [.Call (.Name "range" p2) [a, b] [] p3] U.X.env = (false, eval (.Call (.Name "range" p2) [a, b] [] p3) U.X.env) :: starEach [] U.X.env := by rfl)
    (n1 : starEach [a, b] U.X.env = (false, eval a U.X.env) :: starEach [b] U.X.env := by rfl) (n2 : starEach [b] U.X.env = (false, eval b U.X.env) :: starEach [] U.X.env := by rfl) (n3 : ((backTo p3 (starEach [b] U.X.env)).any fun x => x.fst) = false := by rfl) : Ev U (.Call (.Name "list" p0) [.Call (.Name "range" p2) [a, b] [] p3] [] pos) env W Ψ :=
  .here (pe_listRg ok.calm hg B.list (prg_2 hg2 B.range pe_sem pe_sem n1 n2 n3) na) fun σ G H eg h0 sl Q q => h σ G H eg h0 sl _ fun x G1 H1 d1 W1 e1 h1 r1 z1 =>
    z1 σ G1 H1 (eg.trans e1) h1 (sl.mono e1) _ fun y G2 H2 d2 W2 e2 h2 r2 z2 => by
      obtain ⟨i, j, rfl, rfl, rg, k⟩ := z2
      cases r1; cases r2
      refine ⟨i, j, rfl, rfl, rg, fun p hp => ?_⟩
      refine q _ _ _ (.p (.list _)) W2 ((e1.trans e2).trans (h2.ex hp)) (h2.new hp) (Rp.lst upd_same ?_) k
      exact RpAll.intsOf _ _
end

end Q
namespace Q
open PySem PySem.Spec PyProof.Rows L2
open Evl (Ex)

section
variable {U : Ct} {env : Ev0} {W : Ow} {Ψ : D → Ow → Prop} {Φ : Ke} {e a b c : Expr} {pos p0 : Pos} {es : List Expr}
/-! ### targets -/
theorem eg_name (ok : U.Ok) (i : Nat) {x : Str} {d : D} {Ψ : Ev0 → Ow → Prop} (hi : U.X.N[i]? = some x) (hx : Loc U.X.env.scope x) (hf : U.X.fn x = true ∨ U.X.env.scope.names.lookup x = some .local) (k : Ψ (env.set i (some d)) W) : EvG U [i] (.Name x pos) d env W Ψ :=
  fun σ G H v eg hs sl r Q q => SemG.of (pg_name ok.nd hi hx hf) (q _ G H _ W (Ex.refl G) hs (sl.set r) ⟨by simp, fun j hj => List.getElem?_set_ne (fun z => hj (by simp [z]))⟩ k)
def SemGs (X : Cx) (ts : List Expr) : TGs := fun vs σ H Q => ∀ (pins : List (Addr × Obj)) (s : Shared) (us : List Value), Inv X pins σ H s → Vals vs us →
  wpAny (model X.prog X.w) X.A (assignInOrder ((assignEach ts X.env).map (·.2)) us) (fun _ s' => ∃ σ' H', Inv X pins σ' H' s' ∧ Q σ' H') X.xe s
theorem pgs_sem {X : Cx} {ts : List Expr} : PGs X ts (SemGs X ts) := ⟨fun pins s _ _ _ us _ I r h => h pins s us I r⟩
theorem SemGs.of {X : Cx} {ts : List Expr} {t : TGs} {vs : List V} {σ : L2.St} {H : Hp} {Q : L2.St → Hp → Prop} (h : PGs X ts t) (q : t vs σ H Q) : SemGs X ts vs σ H Q := fun pins s us I r => h.run pins s σ H vs us Q I r q
def EvGs (U : Ct) (js : List Nat) (es : List Expr) (ds : List D) (env : Ev0) (W : Ow) (Ψ : Ev0 → Ow → Prop) : Prop :=
  ∀ (σ : L2.St) (G H : Hp) (vs : List V), Ex U.G G → Hs U.X.K U.C U.T G W H → Slots U.X.K U.C G σ env → RepAll U.X.K U.C G vs ds → ∀ Q : L2.St → Hp → Prop,
    (∀ σ2 G2 H2 env2 W2, Ex G G2 → Hs U.X.K U.C U.T G2 W2 H2 → Slots U.X.K U.C G2 σ2 env2 → (σ2.length = σ.length ∧ ∀ i, i ∉ js → σ2[i]? = σ[i]?) → Ψ env2 W2 → Q σ2 H2) → SemGs U.X es vs σ H Q
theorem egs_nil {Ψ : Ev0 → Ow → Prop} (k : Ψ env W) : EvGs U [] [] [] env W Ψ := fun σ G H vs eg hs sl ra Q q => by
  cases ra
  exact SemGs.of pgs_nil ⟨rfl, q σ G H env W (Ex.refl G) hs sl ⟨rfl, fun _ _ => rfl⟩ k⟩
theorem egs_cons {js1 js2 : List Nat} {es : List Expr} {d : D} {ds : List D} {Ψ : Ev0 → Ow → Prop} (h : EvG U js1 e d env W fun env1 W1 => EvGs U js2 es ds env1 W1 Ψ)
    (hs : (assignEach (e :: es) U.X.env).map (·.2) = assign e U.X.env :: (assignEach es U.X.env).map (·.2) := by rfl) : EvGs U (js1 ++ js2) (e :: es) (d :: ds) env W Ψ := fun σ G H vs eg h0 sl ra Q q => by
  cases ra with
  | cons r1 r2 =>
    refine SemGs.of (pgs_cons pg_sem pgs_sem hs) ⟨_, _, rfl, h σ G H _ eg h0 sl r1 _ fun σ1 G1 H1 env1 W1 e1 h1 s1 f1 z1 => ?_⟩
    exact z1 σ1 G1 H1 _ (eg.trans e1) h1 s1 (r2.mono e1) Q fun σ2 G2 H2 env2 W2 e2 h2 s2 f2 z2 => q σ2 G2 H2 env2 W2 (e1.trans e2) h2 s2 ⟨by rw [f2.1, f1.1], fun i hi => by
      rw [f2.2 i (fun z => hi (List.mem_append_right _ z)), f1.2 i (fun z => hi (List.mem_append_left _ z))]⟩ z2
/-- a, b = a tuple -/
theorem eg_tup (ok : U.Ok) {js : List Nat} {es : List Expr} {d : D} {Ψ : Ev0 → Ow → Prop} {k1} (h : ∃ ds, d = .p (.tuple ds) ∧ ds.length = es.length ∧ EvGs U js es (ds.map .p) env W Ψ)
    (hn : (assignEach es U.X.env).length = es.length := by rfl) (hst : (assignEach es U.X.env).findIdx? (·.1) = none := by rfl) : EvG U js (.Tuple es k1 pos) d env W Ψ := by
  intro σ G H v eg hs sl r Q q
  obtain ⟨ds, rfl, hl, h⟩ := h
  cases r with
  | tup hl0 ra => exact SemG.of (pg_tup ok.calm pgs_sem hn hst) ⟨_, _, rfl, SqT.of (hs.g _ _ hl0), by rw [ra.len, hl], h σ G H _ eg hs sl ra.rep Q q⟩
/-- o[i] = .., o an owned list -/
theorem eg_subO {o i : Expr} {d : D} {Ψ : Ev0 → Ow → Prop} (h : Ev U o env W fun d1 W1 => Ev U i env W1 fun d2 W2 => ∃ (p : Addr) (k : Int) (j : Nat) (L R : Ow) (ds : List D), d1 = .adr p ∧ d2 = .p (.int k) ∧ W2 = L ++ (p, .l ds) :: R ∧ ixN ds.length k = some j ∧ Ψ env (L ++ (p, .l (ds.set j d)) :: R))
    (ha : ∀ v, assign (.Subscript o i pos) U.X.env v = (do
      let ov ← holding [v] (eval o U.X.env)
      let iv ← holding [v, ov] (eval i U.X.env)
      standAt pos
      holding [v, ov, iv] (setItem ov iv v)
      release [v, ov, iv] []) := by intro _; rfl) : EvG U [] (.Subscript o i pos) d env W Ψ := by
  intro σ G H v eg hs sl r Q q
  refine SemG.of (pg_sub pe_sem pe_sem set_list ha) (h σ G H eg hs sl _ fun x G1 H1 d1 W1 e1 h1 r1 z1 => z1 σ G1 H1 (eg.trans e1) h1 (sl.mono e1) _ fun y G2 H2 d2 W2 e2 h2 r2 z2 => ?_)
  obtain ⟨p, k, j, L, R, ds, rfl, rfl, rfl, hj, z⟩ := z2
  obtain rfl : x = .ref p := r1
  cases r2
  obtain ⟨o1, ho, xs, rfl, ra⟩ := h2.at_
  refine ⟨p, xs, k, j, rfl, rfl, ho, by rw [ra.len]; exact hj, ?_⟩
  exact q σ G2 _ env _ (e1.trans e2) (h2.put (u' := .l (ds.set j d)) ⟨_, rfl, RepAll.set (r.mono (e1.trans e2)) j ra⟩) (sl.mono (e1.trans e2)) ⟨rfl, fun _ _ => rfl⟩ z
/-! ### what is walked -/
def SemI (X : Cx) (tg iter : Expr) : TI := fun σ H R => ∀ (pins : List (Addr × Obj)) (s : Shared), Inv X pins σ H s →
  wpAny (model X.prog X.w) X.A (eval iter X.env) (fun v s1 => wpAny (model X.prog X.w) X.A (pyIter v) (PIE X pins σ tg R) X.xe s1) X.xe s
theorem pi_sem {X : Cx} {tg iter : Expr} : PI X tg iter (SemI X tg iter) := ⟨fun pins s _ _ _ I h => h pins s I⟩
theorem SemI.of {X : Cx} {tg iter : Expr} {t : TI} {σ : L2.St} {H : Hp} {R : It → Hp → Prop} (h : PI X tg iter t) (q : t σ H R) : SemI X tg iter σ H R := fun pins s I => h.run pins s σ H R I q
/-- n items, the i-th of the data item i -/
def EvI (U : Ct) (tg iter : Expr) (env : Ev0) (W : Ow) (Ψ : Nat → (Nat → D) → Ow → Prop) : Prop :=
  ∀ (σ : L2.St) (G H : Hp), Ex U.G G → Hs U.X.K U.C U.T G W H → Slots U.X.K U.C G σ env → ∀ R : It → Hp → Prop,
    (∀ (J : It) (n : Nat) (item : Nat → D) (G2 H2 : Hp) (W2 : Ow) (Gd : Hp → Prop) (Y : Nat → Hp → V → Hp → Prop), Walk J n Gd Y → Ex G G2 → Hs U.X.K U.C U.T G2 W2 H2 →
      (∀ G3 H3 W3, Ex G2 G3 → Hs U.X.K U.C U.T G3 W3 H3 → Gd H3) →
      (∀ i H3 x H4 G3 W3, i < n → Ex G2 G3 → Hs U.X.K U.C U.T G3 W3 H3 → Y i H3 x H4 → ∃ G4, Ex G3 G4 ∧ Hs U.X.K U.C U.T G4 W3 H4 ∧ U.R G4 x (item i)) → Ψ n item W2 → R J H2) → SemI U.X tg iter σ H R
def datAt (ds : List PyData) (i : Nat) : D := .p (ds.getD i .none)
theorem RpAll.nth {G : Hp} {vs : List V} {ds : List PyData} {i : Nat} {v : V} (h : RpAll G vs ds) (e : vs[i]? = some v) : Rp G v (ds.getD i .none) := by
  obtain ⟨d, hd, r⟩ := h.getV e
  rw [List.getD_eq_getElem?_getD, hd]
  exact r
theorem ei_tup {tg : Expr} {Ψ : Nat → (Nat → D) → Ow → Prop} (h : Ev U e env W fun d W1 => ∃ ds, d = .p (.tuple ds) ∧ Ψ ds.length (datAt ds) W1) : EvI U tg e env W Ψ :=
  fun σ G H eg hs sl R q => SemI.of (pi_tup pe_sem) (h σ G H eg hs sl _ fun x G1 H1 d1 W1 e1 h1 r1 z1 => by
    obtain ⟨ds, rfl, k⟩ := z1
    cases r1 with
    | @tup a xs _ hl ra =>
      refine ⟨a, rfl, ⟨xs, SqT.of (h1.g _ _ hl)⟩, q _ _ (datAt ds) G1 H1 W1 _ _ walk_tup e1 h1 (fun G3 H3 W3 e3 h3 => SqT.of (h3.g _ _ (e3 _ _ hl))) (fun i H3 y H4 G3 W3 hi e3 h3 y4 => ?_) (by rw [ra.len]; exact k)⟩
      obtain ⟨rfl, hy⟩ := y4
      exact ⟨G3, Ex.refl _, h3, (RpAll.mono e3 _ _ ra).nth hy⟩)
theorem ei_lst {tg : Expr} {Ψ : Nat → (Nat → D) → Ow → Prop} (h : Ev U e env W fun d W1 => ∃ ds, d = .p (.list ds) ∧ Ψ ds.length (datAt ds) W1) : EvI U tg e env W Ψ :=
  fun σ G H eg hs sl R q => SemI.of (pi_list pe_sem) (h σ G H eg hs sl _ fun x G1 H1 d1 W1 e1 h1 r1 z1 => by
    obtain ⟨ds, rfl, k⟩ := z1
    cases r1 with
    | @lst a xs _ hl ra =>
      refine ⟨a, rfl, ⟨xs, SqL.of (h1.g _ _ hl)⟩, q _ _ (datAt ds) G1 H1 W1 _ _ walk_list e1 h1 (fun G3 H3 W3 e3 h3 => SqL.of (h3.g _ _ (e3 _ _ hl))) (fun i H3 y H4 G3 W3 hi e3 h3 y4 => ?_) (by rw [ra.len]; exact k)⟩
      obtain ⟨rfl, hy⟩ := y4
      exact ⟨G3, Ex.refl _, h3, (RpAll.mono e3 _ _ ra).nth hy⟩)
def intAt (ns : List Int) (i : Nat) : D := .p (.int (ns.getD i 0))
theorem ei_scr {tg : Expr} {Ψ : Nat → (Nat → D) → Ow → Prop} (h : Ev U e env W fun d W1 => ∃ ns, d = .scr ns ∧ Ψ ns.length (fun i => .p (.int (ns.getD i 0))) W1) : EvI U tg e env W Ψ :=
  fun σ G H eg hs sl R q => SemI.of (pi_list pe_sem) (h σ G H eg hs sl _ fun x G1 H1 d1 W1 e1 h1 r1 z1 => by
    obtain ⟨ns, rfl, k⟩ := z1
    obtain ⟨a, rfl, hq⟩ := r1
    refine ⟨a, rfl, ⟨_, Evl.ex_l h1.g hq⟩, q _ _ (intAt ns) G1 H1 W1 _ _ (walk_list (xs := ns.map V.int)) e1 h1 (fun G3 H3 W3 e3 h3 => Evl.ex_l (e3.trans h3.g) hq) (fun i H3 y H4 G3 W3 hi e3 h3 y4 => ?_) (by rw [List.length_map]; exact k)⟩
    obtain ⟨rfl, hy⟩ := y4
    refine ⟨G3, Ex.refl _, h3, ?_⟩
    rw [List.getElem?_map] at hy
    show Rp G3 y (.int (ns.getD i 0))
    rw [List.getD_eq_getElem?_getD]
    cases hn : ns[i]? with
    | none => rw [hn] at hy; cases hy
    | some n => rw [hn] at hy; cases hy; exact .int n)
theorem ei_rng1 (B : Blt U.X.mg) {tg : Expr} {Ψ : Nat → (Nat → D) → Ow → Prop} (hg : Gl U.X "range") (h : EvA U [e] env W fun ds W1 => ∃ j : Int, ds = [.p (.int j)] ∧ -(2 ^ 62) ≤ j ∧ j < 2 ^ 62 ∧ Ψ j.toNat (fun i => .p (.int i)) W1) (hst : starEach [e] U.X.env = [(false, eval e U.X.env)] := by rfl) : EvI U tg (.Call (.Name "range" p0) [e] [] pos) env W Ψ :=
  fun σ G H eg hs sl R q => SemI.of (pi_range1 hg B.range pa_sem hst) (h σ G H eg hs sl _ fun x G1 H1 d1 W1 e1 h1 r1 z1 => by
    obtain ⟨j, rfl, j1, j2, k⟩ := z1
    cases r1 with
    | cons r1 r2 =>
      cases r2
      cases r1
      refine ⟨j, rfl, j1, j2, q _ _ (fun i => .p (.int i)) G1 H1 W1 _ _ walk_range e1 h1 (fun _ _ _ _ _ => True.intro) (fun i H3 y H4 G3 W3 hi e3 h3 y4 => ?_) k⟩
      obtain ⟨rfl, hy⟩ := y4
      subst hy
      refine ⟨G3, Ex.refl _, h3, ?_⟩
      show Rp G3 (.int (0 + (i : Int))) (.int i)
      rw [Int.zero_add]
      exact Rp.int _)
theorem ei_str {tg : Expr} {Ψ : Nat → (Nat → D) → Ow → Prop} (h : Ev U e env W fun d W1 => ∃ z : Str, d = .p (.str z) ∧ Ψ z.cps.size (fun i => .p (.str ⟨#[z.cps.getD i 0]⟩)) W1) : EvI U tg e env W Ψ :=
  fun σ G H eg hs sl R q => SemI.of (pi_str pe_sem) (h σ G H eg hs sl _ fun x G1 H1 d1 W1 e1 h1 r1 z1 => by
    obtain ⟨z, rfl, k⟩ := z1
    cases r1
    refine ⟨z, rfl, q _ _ (fun i => .p (.str ⟨#[z.cps.getD i 0]⟩)) G1 H1 W1 _ _ walk_str e1 h1 (fun _ _ _ _ _ => True.intro) (fun i H3 y H4 G3 W3 hi e3 h3 y4 => ?_) k⟩
    obtain ⟨rfl, c, hc, rfl⟩ := y4
    refine ⟨G3, Ex.refl _, h3, ?_⟩
    have e : z.cps.getD i 0 = c := by
      rw [Array.getD_eq_getD_getElem?, hc] <;> rfl
    show Rp G3 (.str ⟨#[c]⟩) (.str ⟨#[z.cps.getD i 0]⟩)
    rw [e]
    exact .str _)
/-! ### comprehensions -/
def Ct.blk (U : Ct) (s : Shared) (H : Hp) (scope : Scope) (C : Addr) (cl : List (Str × Addr)) (fp : List Addr) : Ct :=
  { U with X := U.X.blk s H scope (compEnvC scope cl C U.X.env) fp, Ξ := fun _ _ => False, E := fun _ _ _ => False }
theorem Ct.Ok.blk {s : Shared} {H : Hp} {scope : Scope} {C : Addr} {cl : List (Str × Addr)} {fp : List Addr} (ok : U.Ok) : (U.blk s H scope C cl fp).Ok where
  calm := ok.calm
  room := ok.room
  nd := ok.nd
  po := PassesOwn.never
  tk := fun _ _ x => by
    obtain ⟨_, _, _, _, _, _, _, _, _, _, _, _, _, _, _, _, z⟩ := x
    exact z.elim
  ex := fun _ _ _ _ _ _ _ _ _ z => z.elim
theorem wipe_get (σ : L2.St) (i : Nat) : ∀ vs : List Nat, (wipe σ vs)[i]? = if i ∈ vs ∧ i < σ.length then some none else σ[i]?
  | [] => by simp [wipe]
  | v :: vs => by
    unfold wipe
    by_cases hi : v = i
    · subst hi
      by_cases hl : v < σ.length
      · rw [List.getElem?_set_self (by rw [wipe_length]; exact hl), if_pos ⟨by simp, hl⟩]
      · rw [List.getElem?_eq_none (by rw [List.length_set, wipe_length]; omega), if_neg (fun z => hl z.2), List.getElem?_eq_none (by omega)]
    · rw [List.getElem?_set_ne hi, wipe_get σ i vs]
      by_cases hm : i ∈ vs ∧ i < σ.length
      · rw [if_pos hm, if_pos ⟨List.mem_cons_of_mem _ hm.1, hm.2⟩]
      · rw [if_neg hm, if_neg (fun z => hm ⟨(List.mem_cons.mp z.1).resolve_left (fun q => hi q.symm), z.2⟩)]
theorem wipe_same {σ σ2 : L2.St} {vs : List Nat} (hl : σ2.length = (wipe σ vs).length) (h : ∀ i, i ∉ vs → σ2[i]? = (wipe σ vs)[i]?) : wipe σ2 vs = wipe σ vs := by
  refine List.ext_getElem? fun i => ?_
  rw [wipe_get σ2 i vs]
  rw [wipe_length] at hl
  by_cases hi : i ∈ vs
  · rw [wipe_get σ i vs]
    by_cases hs : i < σ.length
    · rw [if_pos ⟨hi, by omega⟩, if_pos ⟨hi, hs⟩]
    · rw [if_neg (fun z => hs (by omega)), if_neg (fun z => hs z.2), List.getElem?_eq_none (by omega), List.getElem?_eq_none (by omega)]
  · rw [if_neg (fun z => hi z.1)]
    exact h i hi
/-- the tests of a clause: none, or one -/
def EvTs (U : Ct) (ifs : List Expr) (env : Ev0) (W : Ow) (Ψ : Bool → Ow → Prop) : Prop := match ifs with
  | [] => Ψ true W
  | [c] => EvT U c env W Ψ
  | _ => False
def tTs (X : Cx) : List Expr → TT
  | [] => tYes
  | [c] => SemT X c
  | _ => fun _ _ _ => False
theorem pts_sem {X : Cx} {ifs : List Expr} (h : ifs.length ≤ 1) : PTs X ifs (tTs X ifs) := by
  cases ifs with
  | nil => exact pts_nil
  | cons c r =>
    cases r with
    | nil => exact pts_one pt_sem
    | cons _ _ => simp at h
theorem EvTs.run {ifs : List Expr} {Ψ : Bool → Ow → Prop} (h : EvTs U ifs env W Ψ) {σ : L2.St} {G H : Hp} (eg : Ex U.G G) (hs : Hs U.X.K U.C U.T G W H) (sl : Slots U.X.K U.C G σ env) {Q : Bool → Hp → Prop}
    (q : ∀ b G2 H2 W2, Ex G G2 → Hs U.X.K U.C U.T G2 W2 H2 → Ψ b W2 → Q b H2) : tTs U.X ifs σ H Q := by
  cases ifs with
  | nil => exact q true G H W (Ex.refl G) hs h
  | cons c r =>
    cases r with
    | nil => exact (show EvT U c env W Ψ from h) σ G H eg hs sl Q q
    | cons _ _ => exact (show False from h).elim
def gB (U : Ct) (scope : Scope) (tg : Expr) : TG := fun v σ H' Q => ∀ (s : Shared) (H : Hp) (C : Addr) (cl : List (Str × Addr)) (fp : List Addr), SemG (U.blk s H scope C cl fp).X tg v σ H' Q
def ttB (U : Ct) (scope : Scope) (ifs : List Expr) : TT := fun σ H' Q => ∀ (s : Shared) (H : Hp) (C : Addr) (cl : List (Str × Addr)) (fp : List Addr), tTs (U.blk s H scope C cl fp).X ifs σ H' Q
def teB (U : Ct) (scope : Scope) (elt : Expr) : TE := fun σ H' Q => ∀ (s : Shared) (H : Hp) (C : Addr) (cl : List (Str × Addr)) (fp : List Addr), SemE (U.blk s H scope C cl fp).X elt σ H' Q
/-- [elt for tg in iter if ..]; own: the block's own names with their places; Pv: by the turn, what is made so far, what is owned; E2: the names' data behind the target; B: the test's answer -/
def LcOk (U : Ct) (elt tg iter : Expr) (ifs : List Expr) (scope : Scope) (own : List (Str × Nat)) (js : List Nat) (env : Ev0) (W : Ow) (Ψ : D → Ow → Prop) : Prop :=
    EvI U tg iter env W fun n item W1 => ∃ (Pv : Nat → List PyData → Ow → Prop) (E2 : Nat → Ev0) (B : Nat → Bool), n ≤ 1000000 ∧ Pv 0 [] W1 ∧
      (∀ (s : Shared) (H : Hp) (C : Addr) (cl : List (Str × Addr)) (fp : List Addr) (i : Nat) (Wi : Ow), i < n → EvG (U.blk s H scope C cl fp) js tg (item i) (wipeE env (own.map (·.2))) Wi fun env2 W2 => env2 = E2 i ∧ W2 = Wi) ∧
      (∀ (s : Shared) (H : Hp) (C : Addr) (cl : List (Str × Addr)) (fp : List Addr) (i : Nat) (Wi : Ow), i < n → EvTs (U.blk s H scope C cl fp) ifs (E2 i) Wi fun t W2 => t = B i ∧ W2 = Wi) ∧
      (∀ (s : Shared) (H : Hp) (C : Addr) (cl : List (Str × Addr)) (fp : List Addr) (i : Nat) (acc : List PyData) (Wi : Ow) (Dl : Addr), i < n → Pv i acc Wi → B i = true →
        Ev (U.blk s H scope C cl fp) elt (E2 i) ((Dl, .l (acc.map .p)) :: Wi) fun d W4 => ∃ pd W5, d = .p pd ∧ W4 = (Dl, .l (acc.map .p)) :: W5 ∧ Pv (i + 1) (acc ++ [pd]) W5) ∧
      (∀ (i : Nat) (acc : List PyData) (Wi : Ow), i < n → Pv i acc Wi → B i = false → Pv (i + 1) acc Wi) ∧
      ∀ acc W2, acc.length ≤ n → Pv n acc W2 → Ψ (.p (.list acc)) W2
theorem LcOk.reading {elt tg iter : Expr} {ifs : List Expr} {scope : Scope} {own : List (Str × Nat)} {js : List Nat} (hjs : ∀ j ∈ js, j ∈ own.map (·.2)) (h : LcOk U elt tg iter ifs scope own js env W Ψ) :
    ∀ (σ : L2.St) (G H : Hp), Ex U.G G → Hs U.X.K U.C U.T G W H → Slots U.X.K U.C G σ env → ∀ Q : VK, (∀ v G2 H2 d W2, Ex G G2 → Hs U.X.K U.C U.T G2 W2 H2 → U.R G2 v d → Ψ d W2 → Q v H2) →
      tLc (SemI U.X tg iter) (gB U scope tg) (ttB U scope ifs) (teB U scope elt) (own.map (·.2)) σ H Q := by
  intro σ G H eg h0 sl Q q
  refine h σ G H eg h0 sl _ fun J n item G2 H2 W2 Gd Y wk e2 h2 hGd hY z => ?_
  obtain ⟨Pv, E2, B, hn, p0, htg, hts, hel, hno, fin⟩ := z
  intro Dl hD
  have sl2 := sl.mono e2
  refine lc_it (g := gB U scope tg) (tt := ttB U scope ifs) (te := teB U scope elt) (vs := own.map (·.2)) (σ := σ) (Qd := fun H => Q (.ref Dl) H) wk (fun i H' => ∃ G' W' acc, Ex G2 G' ∧ Hs U.X.K U.C U.T G' ((Dl, .l (acc.map .p)) :: W') H' ∧ acc.length ≤ i ∧ Pv i acc W') ⟨G2, W2, [], Ex.refl _, h2.own (u := .l []) hD ⟨[], rfl, .nil⟩, Nat.le_refl _, p0⟩ ?_ ?_ ?_
  · rintro i H' _ ⟨G', W', acc, e', h', _, _⟩
    exact hGd G' H' _ e' h'
  · rintro i x H3 H4 hi ⟨G', W', acc, e', h', hl, pv⟩ y
    obtain ⟨G4, e4, h4, r4⟩ := hY i H3 x H4 G' _ hi e' h' y
    intro s Hb C cl fp
    have sl4 := ((sl2.mono e').mono e4).wipe (own.map (·.2))
    have eg4 := ((eg.trans e2).trans e').trans e4
    refine htg s Hb C cl fp i _ hi _ G4 H4 x eg4 h4 sl4 r4 _ fun σ5 G5 H5 env5 W5 e5 h5 s5 f5 z5 => ?_
    obtain ⟨ee, ew⟩ := z5
    subst ee ew
    refine ⟨wipe_same f5.1 fun i hi => f5.2 i fun hj => hi (hjs i hj), fun s1 Hb1 C1 cl1 fp1 => ?_⟩
    have eg5 := eg4.trans e5
    refine EvTs.run (U := U.blk s1 Hb1 scope C1 cl1 fp1) (hts s1 Hb1 C1 cl1 fp1 i _ hi) eg5 h5 s5 fun b G6 H6 W6 e6 h6 z6 => ?_
    obtain ⟨eb, ew⟩ := z6
    subst ew
    by_cases hb : b = true
    · rw [if_pos hb]
      intro s2 Hb2 C2 cl2 fp2
      refine hel s2 Hb2 C2 cl2 fp2 i acc W' Dl hi pv (eb ▸ hb) σ5 G6 H6 (eg5.trans e6) h6 (s5.mono e6) _ fun v G7 H7 d W7 e7 h7 r7 z7 => ?_
      obtain ⟨pd, W8, ed, ew, pv2⟩ := z7
      subst ed ew
      obtain ⟨o, ho, xs, eo, ra⟩ := Hs.at_ (W1 := []) h7
      rw [eo] at ho
      have hxl : xs.length = acc.length := by rw [ra.len, List.length_map]
      refine ⟨xs, ho, by rw [hxl]; exact Nat.lt_of_lt_of_le (show acc.length < 10000000 by omega) (by rw [sizeLine_eq]; decide), G7, W8, acc ++ [pd], ((e'.trans e4).trans e5).trans (e6.trans e7), ?_, by rw [List.length_append]; simp; omega, pv2⟩
      exact Hs.put (W1 := []) (u' := .l ((acc ++ [pd]).map .p)) h7 ⟨xs ++ [v], rfl, by rw [List.map_append]; exact ra.app (.cons r7 .nil)⟩
    · rw [if_neg hb]
      have hb' : B i = false := by rw [← eb]; simpa using hb
      exact ⟨G6, W', acc, ((e'.trans e4).trans e5).trans e6, h6, by omega, hno i acc W' hi pv hb'⟩
  · rintro H' ⟨G', W', acc, e', h', hl, pv⟩
    obtain ⟨o, ho, xs, eo, ra⟩ := Hs.at_ (W1 := []) h'
    rw [eo] at ho
    refine q _ _ H' (.p (.list acc)) W' ((e2.trans e').trans (Hs.gave (W1 := []) h')) (Hs.give (W1 := []) h' ho) (Rp.lst upd_same (RpAll.mono (Hs.gave (W1 := []) h') _ _ (RepAll.data ra))) (fin acc W' hl pv)
theorem pe_lcB (ok : U.Ok) {elt tg iter : Expr} {ifs : List Expr} {scope : Scope} {own : List (Str × Nat)} (bok : BlkOk U.X.N U.X.env.scope scope own) (hif : ifs.length ≤ 1) (hs : ∀ x, foldedSetIterable iter U.X.env x = pure x) :
    PE U.X (.ListComp elt [⟨tg, iter, ifs, 0⟩] scope pos) (tLc (SemI U.X tg iter) (gB U scope tg) (ttB U scope ifs) (teB U scope elt) (own.map (·.2))) :=
  pe_lc (own := own) ok.calm ok.nd pi_sem bok (fun s H C cl fp => ⟨fun pins s' σ H' v u Q I r h => h s H C cl fp pins s' u I r⟩)
    (fun s H C cl fp => ⟨fun pins s' σ H' Q I h => (pts_sem hif).run pins s' σ H' Q I (h s H C cl fp)⟩) (fun s H C cl fp => ⟨fun pins s' σ H' Q I h => h s H C cl fp pins s' I⟩) hs
theorem ev_lc (ok : U.Ok) {elt tg iter : Expr} {ifs : List Expr} {scope : Scope} (own : List (Str × Nat)) (js : List Nat) (hjs : ∀ j ∈ js, j ∈ own.map (·.2)) (bok : BlkOk U.X.N U.X.env.scope scope own) (hif : ifs.length ≤ 1)
    (h : LcOk U elt tg iter ifs scope own js env W Ψ) (hs : ∀ x, foldedSetIterable iter U.X.env x = pure x := by intro _; rfl) : Ev U (.ListComp elt [⟨tg, iter, ifs, 0⟩] scope pos) env W Ψ :=
  fun σ G H eg h0 sl Q q => SemE.of (pe_lcB ok bok hif hs) (h.reading hjs σ G H eg h0 sl Q q)
/-- without a test, nothing owned is changed -/
theorem lc_pure {elt tg iter : Expr} {scope : Scope} {own : List (Str × Nat)} {js : List Nat}
    (h : EvI U tg iter env W fun n item W1 => ∃ (E2 : Nat → Ev0) (f : Nat → PyData), n ≤ 1000000 ∧
      (∀ (s : Shared) (H : Hp) (C : Addr) (cl : List (Str × Addr)) (fp : List Addr) (i : Nat) (Wi : Ow), i < n → EvG (U.blk s H scope C cl fp) js tg (item i) (wipeE env (own.map (·.2))) Wi fun env2 W2 => env2 = E2 i ∧ W2 = Wi) ∧
      (∀ (s : Shared) (H : Hp) (C : Addr) (cl : List (Str × Addr)) (fp : List Addr) (i : Nat) (Wi : Ow), i < n → Ev (U.blk s H scope C cl fp) elt (E2 i) Wi fun d W4 => d = .p (f i) ∧ W4 = Wi) ∧
      Ψ (.p (.list ((List.range n).map f))) W1) : LcOk U elt tg iter [] scope own js env W Ψ := by
  refine fun σ G H eg h0 sl R q => h σ G H eg h0 sl R fun J n item G2 H2 W2 Gd Y wk e2 h2 hGd hY z => q J n item G2 H2 W2 Gd Y wk e2 h2 hGd hY ?_
  obtain ⟨E2, f, hn, htg, hel, fin⟩ := z
  refine ⟨fun i acc Wi => acc = (List.range i).map f ∧ Wi = W2, E2, fun _ => true, hn, ⟨rfl, rfl⟩, htg, fun _ _ _ _ _ _ _ _ => ⟨rfl, rfl⟩, fun s H C cl fp i acc Wi Dl hi pv _ => (hel s H C cl fp i _ hi).imp fun d W4 z => ?_, fun _ _ _ _ _ z => (by cases z), fun acc W3 _ pv => ?_⟩
  · obtain ⟨rfl, rfl⟩ := z
    obtain ⟨rfl, rfl⟩ := pv
    refine ⟨f i, _, rfl, rfl, ?_, rfl⟩
    rw [List.range_succ, List.map_append] <;> rfl
  · obtain ⟨rfl, rfl⟩ := pv
    exact fin
end

end Q
namespace Q
open PySem PySem.Spec PyProof.Rows L2
open Evl (Ex)

section
variable {U : Ct} {env : Ev0} {W : Ow} {Ψ : D → Ow → Prop} {Φ : Ke} {e a b c : Expr} {pos p0 : Pos} {es : List Expr} {st : Stmt} {rest body : List Stmt}
/-! ### blocks -/
theorem wp_nil (k : Φ.nx env W) : Wp U [] env W Φ := fun σ G H eg hs sl Dn ke => SemB.of pss_nil (ke.nx σ G H env W (Ex.refl G) hs sl k)
theorem wp_cons (h : Wp1 U st env W { Φ with nx := fun env' W' => Wp U rest env' W' Φ }) : Wp U (st :: rest) env W Φ := fun σ G H eg hs sl Dn ke =>
  SemB.of (pss_cons ps_sem pss_sem) (h σ G H eg hs sl { Dn with nx := SemB U.X rest Dn } ⟨fun σ2 G2 H2 env2 W2 e2 h2 s2 k2 => k2 σ2 G2 H2 (eg.trans e2) h2 s2 Dn (ke.mono e2), ke.rt, ke.bk, ke.ct⟩)
theorem wp_one (h : Wp1 U st env W Φ) : Wp U [st] env W Φ := fun σ G H eg hs sl Dn ke => SemB.of (pss_one ps_sem) (h σ G H eg hs sl Dn ke)
/-- an owned list grows no more: it is data from here on -/
theorem wp_give {sts : List Stmt} (i : Nat) {p : Addr} {L R : Ow} {ds : List PyData} (he : env[i]? = some (some (.adr p))) (h : Wp U sts (env.set i (some (.p (.list ds)))) (L ++ R) Φ) : Wp U sts env (L ++ (p, .l (ds.map .p)) :: R) Φ := by
  intro σ G H eg hs sl Dn ke
  obtain ⟨o, ho, xs, rfl, ra⟩ := hs.at_
  have ex := hs.gave (o := .lst xs)
  obtain ⟨v, hv, rv⟩ := sl.2 i _ he
  obtain rfl : v = .ref p := rv
  have s2 : Slots U.X.K U.C (upd G p (.lst xs)) σ (env.set i (some (.p (.list ds)))) := by
    have z := (sl.mono ex).set (i := i) (v := .ref p) (d := .p (.list ds)) (show Rp _ _ _ from Rp.lst upd_same (RpAll.mono ex _ _ (RepAll.data ra)))
    have e : σ.set i (some (V.ref p)) = σ := by
      refine List.ext_getElem? fun j => ?_
      by_cases hj : i = j
      · subst hj
        have hl : i < σ.length := (List.getElem?_eq_some_iff.mp hv).1
        rw [List.getElem?_set_self hl, hv]
      · rw [List.getElem?_set_ne hj]
    rw [e] at z
    exact z
  exact h σ _ H (eg.trans ex) (hs.give ho) s2 Dn (ke.mono ex)
/-! ### small statements -/
theorem w_set (ok : U.Ok) (i : Nat) {x : Str} {p1 : Pos} (hi : U.X.N[i]? = some x) (hx : Loc U.X.env.scope x) (h : Ev U e env W fun d W1 => Φ.nx (env.set i (some d)) W1)
    (hf : U.X.fn x = true ∨ U.X.env.scope.names.lookup x = some .local := by first | exact .inl rfl | exact .inr rfl) (hs : swapsWith e (some (.Name x p1)) pos.line U.X.env = pure false := by rfl) : Wp1 U (.Assign [.Name x p1] e pos) env W Φ :=
  fun σ G H eg h0 sl Dn ke => SemS.of (ps_set ok.nd hi hx pe_sem hs hf) (h σ G H eg h0 sl _ fun v G2 H2 d W2 e2 h2 r2 z => ke.nx _ G2 H2 _ W2 e2 h2 ((sl.mono e2).set r2) z)
theorem w_setLc (ok : U.Ok) (i : Nat) {x : Str} {p1 ps : Pos} {elt tg iter : Expr} {ifs : List Expr} {scope : Scope} (own : List (Str × Nat)) (js : List Nat) (hi : U.X.N[i]? = some x) (hl : U.X.env.scope.names.lookup x = some .local) (hjs : ∀ j ∈ js, j ∈ own.map (·.2)) (bok : BlkOk U.X.N U.X.env.scope scope own) (hif : ifs.length ≤ 1)
    (hsw : swapsWith (.ListComp elt [⟨tg, iter, ifs, 0⟩] scope pos) (some (.Name x p1)) ps.line U.X.env = pure true) (h : LcOk U elt tg iter ifs scope own js env W fun d W1 => Φ.nx (env.set i (some d)) W1) (hs : ∀ x, foldedSetIterable iter U.X.env x = pure x := by intro _; rfl) :
    Wp1 U (.Assign [.Name x p1] (.ListComp elt [⟨tg, iter, ifs, 0⟩] scope pos) ps) env W Φ :=
  fun σ G H eg h0 sl Dn ke => SemS.of (ps_setLc (own := own) (g := gB U scope tg) (tt := ttB U scope ifs) (te := teB U scope elt) ok.calm ok.nd hi hl hsw pi_sem bok (fun s H C cl fp => ⟨fun pins s' σ H' v u Q I r h => h s H C cl fp pins s' u I r⟩)
    (fun s H C cl fp => ⟨fun pins s' σ H' Q I h => (pts_sem hif).run pins s' σ H' Q I (h s H C cl fp)⟩) (fun s H C cl fp => ⟨fun pins s' σ H' Q I h => h s H C cl fp pins s' I⟩) hs)
    (h.reading hjs σ G H eg h0 sl _ fun v G2 H2 d W2 e2 h2 r2 z => ke.nx _ G2 H2 _ W2 e2 h2 ((sl.mono e2).set r2) z)
/-- any one target -/
theorem w_asg {tg : Expr} (js : List Nat) (h : Ev U e env W fun d W1 => EvG U js tg d env W1 Φ.nx) (hs : swapsWithSole [tg] e pos.line U.X.env = pure false := by rfl) (hw : swappedStores [tg] e U.X.env = pure none := by rfl)
    (h1 : (assignEach [tg] U.X.env).map (·.2) = [assign tg U.X.env] := by rfl) : Wp1 U (.Assign [tg] e pos) env W Φ :=
  fun σ G H eg h0 sl Dn ke => SemS.of (ps_asg pe_sem pg_sem hs hw h1) (h σ G H eg h0 sl _ fun v G2 H2 d W2 e2 h2 r2 z => z σ G2 H2 v (eg.trans e2) h2 (sl.mono e2) r2 _ fun σ3 G3 H3 env3 W3 e3 h3 s3 _ z3 => ke.nx σ3 G3 H3 env3 W3 (e2.trans e3) h3 s3 z3)
/-- a, b = x, y: plain local names -/
theorem w_par (ok : U.Ok) (i j : Nat) {x y : Str} {px py pt : Pos} {kt k2 pt2} (hi : U.X.N[i]? = some x) (hj : U.X.N[j]? = some y) (hij : i ≠ j) (hx : U.X.env.scope.names.lookup x = some .local) (hy : U.X.env.scope.names.lookup y = some .local)
    (h : EvA U [a, b] env W fun ds W1 => ∃ d1 d2, ds = [d1, d2] ∧ Φ.nx ((env.set i (some d1)).set j (some d2)) W1)
    (hw : swappedStores [.Tuple [.Name x px, .Name y py] kt pt] (.Tuple [a, b] k2 pt2) U.X.env = pure (some [x, y]) := by rfl)
    (hs : swapsWithSole [.Tuple [.Name x px, .Name y py] kt pt] (.Tuple [a, b] k2 pt2) pos.line U.X.env = pure false := by rfl) : Wp1 U (.Assign [.Tuple [.Name x px, .Name y py] kt pt] (.Tuple [a, b] k2 pt2) pos) env W Φ :=
  fun σ G H eg h0 sl Dn ke => SemS.of (ps_par ok.calm ok.nd hi hj hij hx hy pa_sem hw hs) (h σ G H eg h0 sl _ fun vs G2 H2 ds W2 e2 h2 r2 z => by
    obtain ⟨d1, d2, rfl, k⟩ := z
    cases r2 with
    | cons r1 r3 =>
      cases r3 with
      | cons r3 r4 =>
        cases r4
        exact ⟨_, _, rfl, ke.nx _ G2 H2 _ W2 e2 h2 (((sl.mono e2).set r1).set r3) k⟩)
/-- a, b, .. = x, y, ..: by a new tuple -/
theorem w_tup (ok : U.Ok) (js : List Nat) {ts as : List Expr} {kt k2 : Nat} {pt pt2 : Pos} (h : EvA U as env W fun ds W1 => ds.length ≤ 1000 ∧ ds.length = ts.length ∧ EvGs U js ts ds env W1 Φ.nx)
    (hs : swapsWithSole [.Tuple ts kt pt] (.Tuple as k2 pt2) pos.line U.X.env = pure false := by rfl) (hw : swappedStores [.Tuple ts kt pt] (.Tuple as k2 pt2) U.X.env = pure none := by rfl)
    (h1 : (assignEach [.Tuple ts kt pt] U.X.env).map (·.2) = [assign (.Tuple ts kt pt) U.X.env] := by rfl) (hn : (assignEach ts U.X.env).length = ts.length := by rfl) (hst : (assignEach ts U.X.env).findIdx? (·.1) = none := by rfl) :
    Wp1 U (.Assign [.Tuple ts kt pt] (.Tuple as k2 pt2) pos) env W Φ :=
  fun σ G H eg h0 sl Dn ke => SemS.of (ps_asg (pe_tup pa_sem) (pg_tup ok.calm pgs_sem hn hst) hs hw h1) (h σ G H eg h0 sl _ fun vs G2 H2 ds W2 e2 h2 r2 z => by
    obtain ⟨hl, hlen, k⟩ := z
    refine ⟨by rw [r2.len]; exact Nat.le_of_lt (small1000 hl), fun p hp => ⟨p, vs, rfl, SqT.of upd_same, by rw [r2.len, hlen], ?_⟩⟩
    exact k σ _ _ vs ((eg.trans e2).trans (h2.ex hp)) (h2.new hp) (sl.mono (e2.trans (h2.ex hp))) (r2.mono (h2.ex hp)) _ fun σ3 G3 H3 env3 W3 e3 h3 s3 _ z3 => ke.nx σ3 G3 H3 env3 W3 ((e2.trans (h2.ex hp)).trans e3) h3 s3 z3)
theorem w_ret (h : Ev U e env W Φ.rt) : Wp1 U (.Return (some e) pos) env W Φ :=
  fun σ G H eg h0 sl Dn ke => SemS.of (ps_ret pe_sem) (h σ G H eg h0 sl _ fun v G2 H2 d W2 e2 h2 r2 z => ke.rt v G2 H2 d W2 e2 h2 r2 z)
theorem w_expr (h : Ev U e env W fun _ W1 => Φ.nx env W1) (hs : swapsWith e none pos.line U.X.env = pure false := by rfl) : Wp1 U (.Expr e pos) env W Φ :=
  fun σ G H eg h0 sl Dn ke => SemS.of (ps_expr pe_sem hs) (h σ G H eg h0 sl _ fun v G2 H2 d W2 e2 h2 r2 z => ke.nx σ G2 H2 env W2 e2 h2 (sl.mono e2) z)
theorem w_if {p q : List Stmt} (h : EvT U c env W fun k W1 => (k = true → Wp U p env W1 Φ) ∧ (k = false → Wp U q env W1 Φ)) : Wp1 U (.If c p q pos) env W Φ :=
  fun σ G H eg h0 sl Dn ke => SemS.of (ps_if pt_sem pss_sem pss_sem) (h σ G H eg h0 sl _ fun k G2 H2 W2 e2 h2 z => by
    cases k with
    | true => exact z.1 rfl σ G2 H2 (eg.trans e2) h2 (sl.mono e2) Dn (ke.mono e2)
    | false => exact z.2 rfl σ G2 H2 (eg.trans e2) h2 (sl.mono e2) Dn (ke.mono e2))
theorem w_for (ok : U.Ok) {tg iter : Expr} (js : List Nat) (h : EvI U tg iter env W fun n item W1 => ∃ Pv : Nat → Ev0 → Ow → Prop, Pv 0 env W1 ∧
      (∀ i env' W', i < n → Pv i env' W' → EvG U js tg (item i) env' W' fun env2 W2 => Wp U body env2 W2 ⟨Pv (i + 1), Φ.rt, Φ.nx, Pv (i + 1)⟩) ∧ ∀ env' W', Pv n env' W' → Φ.nx env' W') (hs : ∀ x, foldedSetIterable iter U.X.env x = pure x := by intro _; rfl) :
    Wp1 U (.For tg iter body [] pos) env W Φ := by
  intro σ G H eg h0 sl Dn ke
  refine SemS.of (ps_for ok.po ok.calm pi_sem pg_sem pss_sem hs) ?_
  refine h σ G H eg h0 sl _ fun J n item G2 H2 W2 Gd Y wk e2 h2 hGd hY z => ?_
  obtain ⟨Pv, p0, turn, fin⟩ := z
  refine for_it wk (fun i σ' H' => ∃ G' W' env', Ex G2 G' ∧ Hs U.X.K U.C U.T G' W' H' ∧ Slots U.X.K U.C G' σ' env' ∧ Pv i env' W') ⟨G2, W2, env, Ex.refl _, h2, sl.mono e2, p0⟩ ?_ ?_ ?_
  · rintro i σ' H' _ ⟨G', W', env', e', h', _, _⟩
    exact hGd G' H' _ e' h'
  · rintro i x σ' H3 H4 hi ⟨G', W', env', e', h', s', pv⟩ y
    obtain ⟨G4, e4, h4, r4⟩ := hY i H3 x H4 G' _ hi e' h' y
    have eg4 := ((eg.trans e2).trans e').trans e4
    refine turn i env' W' hi pv σ' G4 H4 x eg4 h4 (s'.mono e4) r4 _ fun σ5 G5 H5 env5 W5 e5 h5 s5 _ z5 => ?_
    have e25 := (e'.trans e4).trans e5
    refine z5 σ5 G5 H5 (eg4.trans e5) h5 s5 _ ⟨fun σ6 G6 H6 env6 W6 e6 h6 s6 k6 => ⟨G6, W6, env6, e25.trans e6, h6, s6, k6⟩, fun v G6 H6 d W6 e6 h6 r6 k6 => ke.rt v G6 H6 d W6 ((e2.trans e25).trans e6) h6 r6 k6,
      fun σ6 G6 H6 env6 W6 e6 h6 s6 k6 => ke.nx σ6 G6 H6 env6 W6 ((e2.trans e25).trans e6) h6 s6 k6, fun σ6 G6 H6 env6 W6 e6 h6 s6 k6 => ⟨G6, W6, env6, e25.trans e6, h6, s6, k6⟩⟩
  · rintro σ' H' ⟨G', W', env', e', h', s', pv⟩
    exact ke.nx σ' G' H' env' W' (e2.trans e') h' s' (fin env' W' pv)
/-- x.append(e), x an owned list -/
theorem w_app {o : Expr} {pa pc : Pos} (h : Ev U o env W fun d1 W1 => ∃ (p : Addr) (L R : Ow) (ds : List D), d1 = .adr p ∧ W1 = L ++ (p, .l ds) :: R ∧ Ev U e env W1 fun d W2 => ∃ L2 R2 ds2, W2 = L2 ++ (p, .l ds2) :: R2 ∧ ds2.length ≤ 1000000 ∧ Φ.nx env (L2 ++ (p, .l (ds2 ++ [d])) :: R2))
    (hs : swapsWith (.Call (.Attribute o "append" pa) [e] [] pc) none pos.line U.X.env = pure false := by rfl) (hbase : attributeBase o "append" U.X.env (eval o U.X.env) = eval o U.X.env := by rfl)
    (hfew : ((backTo pc (starEach [e] U.X.env)).all (fun x => !x.1) && (backToKw pc (keywordEach [] U.X.env)).all (fun x => x.1.isSome)
      && decide (([e] : List Expr).length + ([] : List Keyword).length + (if ([] : List Keyword).isEmpty then 0 else 1) < 30)) = true := by rfl)
    (hline : (pa.endLine == pc.line) = true := by rfl) (hst : starEach [e] U.X.env = (false, eval e U.X.env) :: starEach [] U.X.env := by rfl) : Wp1 U (.Expr (.Call (.Attribute o "append" pa) [e] [] pc) pos) env W Φ :=
  fun σ G H eg h0 sl Dn ke => SemS.of (ps_expr (pe_bm PySem.F.plainAttrs_list PySem.F.slot_list_append PySem.F.type_list_append mt_append pe_sem (pa_cons pe_sem pa_nil hst) hbase hfew hline hst rfl) hs)
    (h σ G H eg h0 sl _ fun x G1 H1 d1 W1 e1 h1 r1 z1 => by
      obtain ⟨p, L, R, ds, rfl, rfl, z1⟩ := z1
      obtain rfl : x = .ref p := r1
      obtain ⟨o1, ho1, xs1, rfl, ra1⟩ := h1.at_
      refine ⟨.inl ⟨rfl, xs1, SqL.of ho1⟩, z1 σ G1 H1 (eg.trans e1) h1 (sl.mono e1) _ fun y G2 H2 d2 W2 e2 h2 r2 z2 => ?_⟩
      obtain ⟨L2, R2, ds2, rfl, hl, k⟩ := z2
      obtain ⟨o2, ho2, xs2, rfl, ra2⟩ := h2.at_
      refine ⟨p, xs2, y, rfl, rfl, ho2, ?_, ?_⟩
      · rw [ra2.len]
        exact Nat.lt_of_lt_of_le (show ds2.length < 10000000 by omega) (by rw [sizeLine_eq]; decide)
      · exact ke.nx σ G2 _ env _ (e1.trans e2) (h2.put (u' := .l (ds2 ++ [d2])) ⟨_, rfl, ra2.app (.cons r2 .nil)⟩) (sl.mono (e1.trans e2)) k)
/-! ### defs: what they promise, how they are called -/
/-- a def's contract: from its arguments' data and what is owned, what is wished for its value, for its exceptions -/
abbrev Con := List D → Ow → (D → Ow → Prop) → (Xc → Ow → Prop) → Prop
/-- the program's place: what all proofs of a text share -/
structure Pl where
  P : Program
  w : World
  K : PySem.W.Frag
  mg : Str → Option Value
  base : Heap
  C : Addr
  cN : Addr
  cL : Addr
  cA : Addr
  cT : Addr
/-- U is in the text of L -/
structure Pl.Has (L : Pl) (U : Ct) : Prop where
  P : U.X.prog = L.P
  w : U.X.w = L.w
  K : U.X.K = L.K
  mg : U.X.mg = L.mg
  base : U.X.base = L.base
  C : U.C = L.C
  cN : U.cN = L.cN
  cL : U.cL = L.cL
  cA : U.cA = L.cA
  cT : U.cT = L.cT
def spG (L : Pl) (Cn : Con) : Sp := fun vs H Q E => ∃ (T : List (Addr × Str)) (G : Hp) (W : Ow) (ds : List D) (Ψ : D → Ow → Prop) (Ξ : Xc → Ow → Prop), Hs L.K L.C T G W H ∧ RepAll L.K L.C G vs ds ∧ Cn ds W Ψ Ξ ∧
  (∀ v G2 H2 d W2, Ex G G2 → Hs L.K L.C T G2 W2 H2 → Rep L.K L.C G2 v d → Ψ d W2 → Q v H2) ∧ (∀ x cls dd G2 H2 W2, Ex G G2 → Hs L.K L.C T G2 W2 H2 → XRep L.cN L.cL L.cA L.cT x cls dd H2 → Ξ x W2 → E cls dd H2)
/-- the contract is kept by what stands at f -/
def FnC (L : Pl) (k : Nat) (f : Addr) (Cn : Con) : Prop := FnR L.P L.w L.K L.mg L.base (L2.CX L.P L.w) k f (spG L Cn)
theorem FnC.mono {L : Pl} {j k : Nat} {f : Addr} {Cn : Con} (F : FnC L j f Cn) (h : j ≤ k) : FnC L k f Cn := FnR.mono F h
theorem FnC.imp {L : Pl} {k : Nat} {f : Addr} {Cn Cn' : Con} (F : FnC L k f Cn) (h : ∀ ds W Ψ Ξ, Cn' ds W Ψ Ξ → Cn ds W Ψ Ξ) : FnC L k f Cn' :=
  FnR.imp F fun vs H Q E ⟨T, G, W, ds, Ψ, Ξ, a, b, c, d, e⟩ => ⟨T, G, W, ds, Ψ, Ξ, a, b, h _ _ _ _ c, d, e⟩
/-- a call, from within U -/
theorem sp_run {L : Pl} {Cn : Con} (hL : L.Has U) (ok : U.Ok) {G H : Hp} {vs : List V} {ds : List D} (eg : Ex U.G G) (hs : Hs U.X.K U.C U.T G W H) (ra : RepAll U.X.K U.C G vs ds) (h : Cn ds W Ψ U.Ξ) {Q : VK}
    (q : ∀ v G2 H2 d W2, Ex G G2 → Hs U.X.K U.C U.T G2 W2 H2 → U.R G2 v d → Ψ d W2 → Q v H2) : spG L Cn vs H Q U.E :=
  ⟨U.T, G, W, ds, Ψ, U.Ξ, by rw [← hL.K, ← hL.C]; exact hs, by rw [← hL.K, ← hL.C]; exact ra, h, by rw [← hL.K, ← hL.C]; exact q,
    fun x cls dd G2 H2 W2 e2 h2 xr z => ok.ex x cls dd G2 H2 W2 (eg.trans e2) (by rw [hL.K, hL.C]; exact h2) (by rw [hL.cN, hL.cL, hL.cA, hL.cT]; exact xr) z⟩
theorem passU {L : Pl} (hL : L.Has U) (ok : U.Ok) : Passes (L2.CX L.P L.w) U.X U.E := by
  rw [← hL.P, ← hL.w]
  exact passes_call ok.tk fun _ _ _ _ z => z
theorem FnC.at_ {L : Pl} {k : Nat} {f : Addr} {Cn : Con} (hL : L.Has U) (F : FnC L k f Cn) : FnR U.X.prog U.X.w U.X.K U.X.mg U.X.base (L2.CX L.P L.w) k f (spG L Cn) := by
  rw [hL.P, hL.w, hL.K, hL.mg, hL.base]
  exact F
/-- a def of the module, called with plain arguments -/
theorem pe_callR {X : Cx} {CX : CXT} {k : Nat} {f : Addr} {x : Str} {sp : Sp} {E : XK} {t : TA} (F : FnR X.prog X.w X.K X.mg X.base CX k f sp) (hr : Room k X.A) (hk : PySem.W.keepIn X.K (.ref f) = true) (hg : Gl X x) (hm : X.mg x = some (.ref f)) (hx : Passes CX X E) (ha : PA X (e :: es) t) (hd : (x == ("__debug__" : Str)) = false := by decide)
    (he : starEach (e :: es) X.env = (false, eval e X.env) :: starEach es X.env := by rfl) (hpl : (backTo pos (starEach es X.env)).any (·.1) = false := by rfl) :
    PE X (.Call (.Name x p0) (e :: es) [] pos) (fun σ H Q => t σ H fun vs H1 => sp vs H1 Q E) := by
  refine ⟨fun pins s σ H Q I h => ?_⟩
  refine wpAny_Call_Name_kw (ld_glob I hg hm ?_ hd)
  refine PySem.W.callWith_K (h₀ := X.base) I.ok.mod.kin hk (thn (ha.run pos pins s σ H _ I h) fun us s1 ⟨vs, H1, I1, r, q⟩ => ⟨I1.kIn, ?_⟩) he hpl
  exact wpAny_call (run_fnR F hr hx I1 r q)
/-- what a caller must know of a def of the module -/
structure DefC (L : Pl) (x : Str) (k : Nat) (Cn : Con) : Prop where
  ex : ∃ f, FnC L k f Cn ∧ L.mg x = some (.ref f) ∧ PySem.W.keepIn L.K (.ref f) = true
theorem ev_call {L : Pl} {x : Str} {k : Nat} {Cn : Con} (hL : L.Has U) (ok : U.Ok) (D : DefC L x k Cn) (hk : k ≤ U.k) (hg : Gl U.X x) (h : EvA U (e :: es) env W fun ds W1 => Cn ds W1 Ψ U.Ξ) (hd : (x == ("__debug__" : Str)) = false := by decide)
    (he : starEach (e :: es) U.X.env = (false, eval e U.X.env) :: starEach es U.X.env := by rfl) (hpl : (backTo pos (starEach es U.X.env)).any (·.1) = false := by rfl) : Ev U (.Call (.Name x p0) (e :: es) [] pos) env W Ψ := by
  obtain ⟨f, F, hm, kp⟩ := D.ex
  refine .here (pe_callR (E := U.E) (F.at_ hL) (ok.room.mono hk) (by rw [hL.K]; exact kp) hg (by rw [hL.mg]; exact hm) (passU hL ok) pa_sem hd he hpl) fun σ G H eg hs sl Q q => ?_
  exact h σ G H eg hs sl _ fun vs G1 H1 ds W1 e1 h1 r1 z => sp_run hL ok (eg.trans e1) h1 r1 z fun v G2 H2 d W2 e2 h2 r2 z2 => q v G2 H2 d W2 (e1.trans e2) h2 r2 z2
/-! ### a def of the text, by its body -/
/-- the context of a body -/
def ctOf (L : Pl) (N : List Str) (qual : Str) (scope : Scope) (f : Addr) (cd : Value) (A : Around) (outer : List Env) (s : Shared) (H : Hp) (E : XK) (T : List (Addr × Str)) (G : Hp) (Ξ : Xc → Ow → Prop) (k : Nat) : Ct where
  X := cxOf (L2.CX L.P L.w) L.P L.w L.K L.mg L.base N qual scope f cd A outer s H E
  T := T
  C := L.C
  cN := L.cN
  cL := L.cL
  cA := L.cA
  cT := L.cT
  G := G
  Ξ := Ξ
  E := E
  k := k
def startE (N : List Str) (ds : List D) : Ev0 := ds.map some ++ List.replicate (N.length - ds.length) none
theorem startE_ok {K : PySem.W.Frag} {C : Addr} {G : Hp} {N : List Str} {vs : List V} {ds : List D} (h : RepAll K C G vs ds) : Slots K C G (L2.start N vs) (startE N ds) := by
  refine ⟨by unfold L2.start startE; rw [List.length_append, List.length_append, List.length_map, List.length_map, List.length_replicate, List.length_replicate, h.len], fun i d q => ?_⟩
  unfold startE at q
  by_cases hi : i < ds.length
  · rw [List.getElem?_append_left (by simpa using hi), List.getElem?_map] at q
    cases hd : ds[i]? with
    | none => rw [hd] at q; cases q
    | some e =>
      rw [hd] at q
      cases q
      obtain ⟨v, hv, r⟩ := h.get hd
      refine ⟨v, ?_, r⟩
      unfold L2.start
      rw [List.getElem?_append_left (by rw [List.length_map, h.len]; exact hi), List.getElem?_map, hv] <;> rfl
  · rw [List.getElem?_append_right (by simpa using hi), List.getElem?_replicate] at q
    split at q <;> cases q
theorem FnOk.toR {P : Program} {w : World} {K : PySem.W.Frag} {mg : Str → Option Value} {base : Heap} {CX : CXT} {k : Nat} {f : Addr} {fd : FuncData} {ps : List Str} {sp : Sp} (F : FnOk P w K mg base CX k f fd ps sp) (b : Binds K fd ps []) : FnR P w K mg base CX k f sp := by
  intro A outer s H us vs Q E hr e0 r h
  have hl := F.len _ _ _ _ h
  have KX : K.In s.heap := e0.mod.kin.keeps fun b o e => (e0.bs b o e).1
  have hb := b s us KX (by rw [List.append_nil, ← r.length, hl])
  rw [List.append_nil] at hb
  exact F.run A outer s H ⟨us, []⟩ us vs Q E hr e0 hb r h
theorem ct_ok {L : Pl} {N : List Str} {qual : Str} {scope : Scope} {f : Addr} {cd : Value} {A : Around} {outer : List Env} {s : Shared} {H : Hp} {E : XK} {T : List (Addr × Str)} {G : Hp} {Ξ : Xc → Ow → Prop} {k : Nat} (hr : Room k (A.deeper (envOfC qual scope s.heap.objs.size f cd))) (nd : N.Nodup)
    (he : ∀ x cls dd G2 H2 W2, Ex G G2 → Hs L.K L.C T G2 W2 H2 → XRep L.cN L.cL L.cA L.cT x cls dd H2 → Ξ x W2 → E cls dd H2) : (ctOf L N qual scope f cd A outer s H E T G Ξ k).Ok where
  calm := rfl
  room := hr
  nd := nd
  po := passes_of rfl
  tk := takes_of rfl rfl rfl rfl
  ex := he
theorem has_ct {L : Pl} {N : List Str} {qual : Str} {scope : Scope} {f : Addr} {cd : Value} {A : Around} {outer : List Env} {s : Shared} {H : Hp} {E : XK} {T : List (Addr × Str)} {G : Hp} {Ξ : Xc → Ow → Prop} {k : Nat} : L.Has (ctOf L N qual scope f cd A outer s H E T G Ξ k) :=
  ⟨rfl, rfl, rfl, rfl, rfl, rfl, rfl, rfl, rfl, rfl⟩
/-- the rule for a def -/
theorem fn_body {L : Pl} {x qual : Str} {st : Stmt} {f : Addr} {fd : FuncData} {N ps : List Str} {k : Nat} {Cn : Con} (F : Fun L.K x qual st f fd) (S : FnScope N ps (defScope st)) (b : Binds L.K fd ps []) (len : ∀ ds W Ψ Ξ, Cn ds W Ψ Ξ → ds.length = ps.length)
    (h : ∀ U : Ct, L.Has U → U.Ok → U.k = k → (∃ (f' : Addr) (cd : Value) (A : Around) (outer : List Env) (s : Shared) (H : Hp) (E : XK) (T : List (Addr × Str)) (G : Hp) (Ξ : Xc → Ow → Prop), U = ctOf L N qual (defScope st) f' cd A outer s H E T G Ξ k) →
      ∀ ds W Ψ, Cn ds W Ψ U.Ξ → Wp U (defBody st) (startE N ds) W ⟨fun _ W => Ψ (.p .none) W, Ψ, fun _ _ => False, fun _ _ => False⟩) : FnC L (k + 1) f Cn := by
  refine FnOk.toR (F.okX S (fun vs H Q E ⟨T, G, W, ds, Ψ, Ξ, _, ra, c, _, _⟩ => by rw [ra.len]; exact len _ _ _ _ c) fun cdv A outer s H vs Q E hr hsp => ?_) b
  obtain ⟨T, G, W, ds, Ψ, Ξ, hs, ra, c, q, qe⟩ := hsp
  have z := h (ctOf L N qual (defScope st) f cdv A outer s H E T G Ξ k) has_ct (ct_ok hr S.nd qe) rfl ⟨f, cdv, A, outer, s, H, E, T, G, Ξ, rfl⟩ ds W Ψ c
  refine ⟨_, pss_sem, z (L2.start N vs) G H (Ex.refl G) hs (startE_ok ra) _ ⟨fun σ G2 H2 env W2 e2 h2 s2 k2 => q .non G2 H2 _ W2 e2 h2 (show Rep _ _ _ V.non (.p .none) from Rp.non) k2, fun v G2 H2 d W2 e2 h2 r2 k2 => q v G2 H2 d W2 e2 h2 r2 k2, fun _ _ _ _ _ _ _ _ z => z, fun _ _ _ _ _ _ _ _ z => z⟩⟩
end

end Q
namespace Q
open PySem PySem.Spec PyProof.Rows L2
open Evl (Ex)

theorem lt_some {α : Type} {l : List α} {i : Nat} (h : i < l.length) : ∃ r, l[i]? = some r := ⟨l[i], by simp [h]⟩
theorem datAt_map {α : Type} {l : List α} {f : α → PyData} {i : Nat} {r : α} (h : l[i]? = some r) : datAt (l.map f) i = .p (f r) := by
  unfold datAt
  rw [List.getD_eq_getElem?_getD, List.getElem?_map, h] <;> rfl
theorem take_one {α : Type} {l : List α} {i : Nat} {r : α} (h : l[i]? = some r) : l.take (i + 1) = l.take i ++ [r] := by
  rw [List.take_add_one, h] <;> rfl
theorem range_map_getD {α β : Type} (l : List α) (d : α) (f : α → β) : (List.range l.length).map (fun i => f (l.getD i d)) = l.map f := by
  refine List.ext_getElem (by simp) fun i h1 h2 => ?_
  have h3 : i < l.length := by simpa using h2
  simp [List.getD_eq_getElem?_getD, h3]
theorem atI_some {α : Type} {xs : List α} {i : Int} (h0 : 0 ≤ i) (h1 : i < xs.length) : ∃ x, atI xs i = some x := by
  unfold atI ixN
  rw [if_pos h0, if_pos h1]
  exact ⟨xs[i.toNat]'(by omega), List.getElem?_eq_getElem (by omega)⟩

end Q
namespace Q
open PySem PySem.Spec PyProof.Rows L2
open Evl (Ex)

open PySem PySem.Spec PyProof.Rows L2
open PySem.Sem (wp)
open Evl (Ex)
abbrev IsZipB (h : Heap) (z TI TO T : Addr) (b : Bool) : Prop := h.get? z = some { cls := .type "zip", dict := none, data := .fields #[rawInt T, .bool b, .bool false, .ref TI, .ref TO], slots := #[] }
section
variable {prog : Program} {w : World} {A : Around} {E : Value → Shared → Prop} {s : Shared}
theorem owned_busy {z TI TO T : Addr} {b : Bool} {o : Obj} {Q : Bool → Shared → Prop} (hz : IsZipB s.heap z TI TO T b) (ho : s.heap.get? T = some o)
    (hQ : ∀ h', IsZipB h' z TI TO T true → Heap.SameBut z s.heap h' → Q false { s with heap := h' }) : wpAny (model prog w) A (Builtin.SmallTypes.ownedTupleIsFree (.ref z)) Q E s := by
  unfold Builtin.SmallTypes.ownedTupleIsFree
  refine wpAny_bind (wpAny_field hz rfl (x := rawInt T) rfl ?_)
  show wpAny _ _ (loadIfAlive ((T : Int).toNat) >>= _) _ _ _
  rw [Int.toNat_natCast]
  refine wpAny_bind (PySem.W.kdx_alive ho ?_)
  simp only [Option.isNone_some, Bool.false_eq_true, if_false]
  refine wpAny_bind (wpAny_field hz rfl (x := .bool b) rfl ?_)
  cases b with
  | true =>
    rw [if_neg (show ¬ ((Value.bool true != Value.bool true) = true) from Bool.false_ne_true)]
    exact wpAny_pure (hQ _ hz (Heap.SameBut.refl _ _))
  | false =>
    rw [if_pos (show (Value.bool false != Value.bool true) = true from rfl)]
    refine wpAny_bind (wpAny_setField_rec hz (by simp) fun h₃ he₃ hs₃ => ?_)
    exact wpAny_pure (hQ h₃ he₃ hs₃)
theorem zip_busy_item {z TI TO T i1 i2 l1 l2 : Addr} {k1 k2 : Nat} {xs ys : Array Value} {x y : Value} {b : Bool} {o : Obj} {Q : Value → Shared → Prop} (D : ZipApart z TI TO i1 i2 l1 l2)
    (hz : IsZipB s.heap z TI TO T b) (ho : s.heap.get? T = some o) (hTI : IsPair s.heap TI (.ref i1) (.ref i2))
    (h1 : s.heap.IsListIter i1 l1 k1) (h2 : s.heap.IsListIter i2 l2 k2) (hl1 : s.heap.IsList l1 xs) (hl2 : s.heap.IsList l2 ys) (hx : xs[k1]? = some x) (hy : ys[k2]? = some y)
    (hQ : ∀ h', IsZipB h' z TI TO T true → h'.IsListIter i1 l1 (k1 + 1) → h'.IsListIter i2 l2 (k2 + 1) → IsPair h' s.heap.objs.size x y →
      (∀ c o, c ≠ z → c ≠ TO → c ≠ i1 → c ≠ i2 → s.heap.get? c = some o → h'.get? c = some o) → Q (.ref s.heap.objs.size) { s with heap := h' }) :
    wpAny (model prog w) A (Builtin.«zip.__next__» ⟨[.ref z], []⟩) (fun fin s' => ∃ v, fin = .done (.ret v) ∧ Q v s') E s := by
  show wpAny _ _ (field (.ref z) 2 >>= _) _ _ _
  refine wpAny_bind (wpAny_field hz rfl (x := .bool false) rfl ?_)
  show wpAny _ _ (field (.ref z) 3 >>= _) _ _ _
  refine wpAny_bind (wpAny_field hz rfl (x := .ref TI) rfl ?_)
  refine wpAny_bind (wpAny_seqItems hTI rfl ?_)
  show wpAny _ _ (Builtin.SmallTypes.ownedTupleIsFree (.ref z) >>= _) _ _ _
  refine wpAny_bind (owned_busy hz ho fun g1 hz1 hs1 => ?_)
  simp only [Bool.false_eq_true, if_false, List.forIn_toArray, List.forIn_cons, List.forIn_nil]
  refine wpAny_bind (wpAny_bind (wpAny_bind (wpAny_holding ?_)))
  show wpAny _ _ (Builtin.SmallTypes.nextOf (.ref i1) >>= _) _ _ _
  refine wpAny_bind (wpAny_nextOf_list_item (h1.extBut hs1.extBut D.i1z) (hl1.extBut hs1.extBut D.l1z) hx fun g2 h1₂ hs2 => wpAny_pure ?_)
  refine wpAny_pure ?_
  refine wpAny_bind (wpAny_bind (wpAny_holding ?_))
  show wpAny _ _ (Builtin.SmallTypes.nextOf (.ref i2) >>= _) _ _ _
  refine wpAny_bind (wpAny_nextOf_list_item ((h2.extBut hs1.extBut D.i2z).extBut hs2.extBut D.i12.symm) ((hl2.extBut hs1.extBut D.l2z).extBut hs2.extBut D.l2i1) hy fun g3 h2₃ hs3 => wpAny_pure ?_)
  refine wpAny_pure (wpAny_pure ?_)
  refine wpAny_bind (wpAny_newTuple ?_ (by show 2 ≤ sizeLine; decide))
  have hsz : g3.objs.size = s.heap.objs.size := by rw [hs3.1, hs2.1, hs1.1]
  have up : ∀ {c : Addr} {o : Obj}, g3.get? c = some o → (g3.push { cls := .type "tuple", data := .seq #[x, y] }).get? c = some o := fun e => Heap.get?_push_of_some _ e
  refine wpAny_pure ⟨_, rfl, ?_⟩
  show Q (.ref g3.objs.size) _
  rw [hsz]
  refine hQ _ (up (hs3.extBut _ _ D.i2z.symm (hs2.extBut _ _ D.i1z.symm hz1))) ((h1₂.extBut hs3.extBut D.i12).at fun o e => up e) (h2₃.at fun o e => up e) (by have z := Heap.get?_push_size g3 (o := { cls := .type "tuple", data := .seq #[x, y] }) rfl; rw [hsz] at z; exact z) fun c o c1 c2 c3 c4 e => up (hs3.extBut _ _ c4 (hs2.extBut _ _ c3 (hs1.extBut _ _ c1 e)))
theorem zip_busy_end {z TI TO T i1 i2 l1 l2 : Addr} {k1 k2 : Nat} {xs ys : Array Value} {b : Bool} {o : Obj} {Q : Fin → Shared → Prop} (hh : A.handled = none) (D : ZipApart z TI TO i1 i2 l1 l2)
    (hz : IsZipB s.heap z TI TO T b) (ho : s.heap.get? T = some o) (hTI : IsPair s.heap TI (.ref i1) (.ref i2))
    (h1 : s.heap.IsListIter i1 l1 k1) (h2 : s.heap.IsListIter i2 l2 k2) (hl1 : s.heap.IsList l1 xs) (hl2 : s.heap.IsList l2 ys) (hend : xs[k1]? = none ∨ ys[k2]? = none)
    (hE : ∀ h' e, (∀ c o, c ≠ z → c ≠ TO → c ≠ i1 → c ≠ i2 → s.heap.get? c = some o → h'.get? c = some o) → (∃ o, h'.get? e = some o ∧ o.cls = .type "StopIteration") → E (.ref e) { s with heap := h' }) :
    wpAny (model prog w) A (Builtin.«zip.__next__» ⟨[.ref z], []⟩) Q E s := by
  show wpAny _ _ (field (.ref z) 2 >>= _) _ _ _
  refine wpAny_bind (wpAny_field hz rfl (x := .bool false) rfl ?_)
  show wpAny _ _ (field (.ref z) 3 >>= _) _ _ _
  refine wpAny_bind (wpAny_field hz rfl (x := .ref TI) rfl ?_)
  refine wpAny_bind (wpAny_seqItems hTI rfl ?_)
  show wpAny _ _ (Builtin.SmallTypes.ownedTupleIsFree (.ref z) >>= _) _ _ _
  refine wpAny_bind (owned_busy hz ho fun g1 hz1 hs1 => ?_)
  simp only [Bool.false_eq_true, if_false, List.forIn_toArray, List.forIn_cons, List.forIn_nil]
  refine wpAny_bind (wpAny_bind (wpAny_bind (wpAny_holding ?_)))
  show wpAny _ _ (Builtin.SmallTypes.nextOf (.ref i1) >>= _) _ _ _
  cases hx : xs[k1]? with
  | none =>
    refine wpAny_bind (wpAny_nextOf_list_end hh (h1.extBut hs1.extBut D.i1z) (hl1.extBut hs1.extBut D.l1z) hx fun h₂ e hs₂ he => ?_)
    exact hE h₂ e (fun c o c1 _ c3 _ x => hs₂ _ _ c3 (hs1.extBut _ _ c1 x)) he
  | some x =>
    have hy : ys[k2]? = none := by rcases hend with h | h; rw [hx] at h; cases h; exact h
    refine wpAny_bind (wpAny_nextOf_list_item (h1.extBut hs1.extBut D.i1z) (hl1.extBut hs1.extBut D.l1z) hx fun g2 h1₂ hs2 => wpAny_pure ?_)
    refine wpAny_pure ?_
    refine wpAny_bind (wpAny_bind (wpAny_holding ?_))
    show wpAny _ _ (Builtin.SmallTypes.nextOf (.ref i2) >>= _) _ _ _
    refine wpAny_bind (wpAny_nextOf_list_end hh ((h2.extBut hs1.extBut D.i2z).extBut hs2.extBut D.i12.symm) ((hl2.extBut hs1.extBut D.l2z).extBut hs2.extBut D.l2i1) hy fun h₄ e hs₄ he => ?_)
    exact hE h₄ e (fun c o c1 _ c3 c4 x => hs₄ _ _ c4 (hs2.extBut _ _ c3 (hs1.extBut _ _ c1 x))) he
theorem pyNext_zipb_item {z TI TO T i1 i2 l1 l2 : Addr} {k1 k2 : Nat} {xs ys : Array Value} {x y : Value} {b : Bool} {o : Obj} {Q : Option Value → Shared → Prop} (D : ZipApart z TI TO i1 i2 l1 l2)
    (hz : IsZipB s.heap z TI TO T b) (ho : s.heap.get? T = some o) (hTI : IsPair s.heap TI (.ref i1) (.ref i2))
    (h1 : s.heap.IsListIter i1 l1 k1) (h2 : s.heap.IsListIter i2 l2 k2) (hl1 : s.heap.IsList l1 xs) (hl2 : s.heap.IsList l2 ys) (hx : xs[k1]? = some x) (hy : ys[k2]? = some y)
    (hQ : ∀ h', IsZipB h' z TI TO T true → h'.IsListIter i1 l1 (k1 + 1) → h'.IsListIter i2 l2 (k2 + 1) → IsPair h' s.heap.objs.size x y →
      (∀ c o, c ≠ z → c ≠ TO → c ≠ i1 → c ≠ i2 → s.heap.get? c = some o → h'.get? c = some o) → Q (some (.ref s.heap.objs.size)) { s with heap := h' }) :
    wpAny (model prog w) A (pyNext (.ref z)) Q E s := by
  have hT : s.TypeIs (.ref z) "zip" := ⟨_, hz, rfl⟩
  unfold pyNext
  exact wpAny_bind (wpAny_attempt (wpAny_callSpecial?_slot (name := Str.ofString "__next__") hT F.slot_zip_next
    (wpAny_call_entry F.slot_zip_next hT F.entry_zip_next
      (zip_busy_item D hz ho hTI h1 h2 hl1 hl2 hx hy fun h' a1 a2 a3 a4 a5 => wpAny_pure (hQ h' a1 a2 a3 a4 a5)) (F.args_zip_next_1 _))))
theorem pyNext_zipb_end {z TI TO T i1 i2 l1 l2 : Addr} {k1 k2 : Nat} {xs ys : Array Value} {b : Bool} {o : Obj} {Q : Option Value → Shared → Prop} (hh : A.handled = none) (D : ZipApart z TI TO i1 i2 l1 l2)
    (hz : IsZipB s.heap z TI TO T b) (ho : s.heap.get? T = some o) (hTI : IsPair s.heap TI (.ref i1) (.ref i2))
    (h1 : s.heap.IsListIter i1 l1 k1) (h2 : s.heap.IsListIter i2 l2 k2) (hl1 : s.heap.IsList l1 xs) (hl2 : s.heap.IsList l2 ys) (hend : xs[k1]? = none ∨ ys[k2]? = none)
    (hQ : ∀ h', (∀ c o, c ≠ z → c ≠ TO → c ≠ i1 → c ≠ i2 → s.heap.get? c = some o → h'.get? c = some o) → Q none { s with heap := h' }) : wpAny (model prog w) A (pyNext (.ref z)) Q E s := by
  have hT : s.TypeIs (.ref z) "zip" := ⟨_, hz, rfl⟩
  unfold pyNext
  refine wpAny_bind (wpAny_attempt (wpAny_callSpecial?_slot (name := Str.ofString "__next__") hT F.slot_zip_next
    (wpAny_call_entry F.slot_zip_next hT F.entry_zip_next (zip_busy_end hh D hz ho hTI h1 h2 hl1 hl2 hend fun h' e hk he => ?_) (F.args_zip_next_1 _))))
  obtain ⟨o, ho, hc⟩ := he
  refine wpAny_bind (wpAny_isInstance (T := "StopIteration") (b := true) ⟨o, ho, hc⟩ isSubtype_stop ?_)
  exact wpAny_pure (hQ _ hk)
/-- the cells of a zip of two lists, i turns done -/
structure ZCell where
  z : Addr
  TI : Addr
  TO : Addr
  i1 : Addr
  i2 : Addr
  l1 : Addr
  l2 : Addr
structure ZSt (c : ZCell) (S : Addr) (xs ys : Array Value) (i : Nat) (h : Heap) : Prop where
  st : (i = 0 ∧ IsZip h c.z c.TI c.TO .none ∧ ∃ a b, IsPair h c.TO a b) ∨ ∃ T b o, IsZipB h c.z c.TI c.TO T b ∧ h.get? T = some o ∧ S < T
  ti : IsPair h c.TI (.ref c.i1) (.ref c.i2)
  h1 : h.IsListIter c.i1 c.l1 i
  h2 : h.IsListIter c.i2 c.l2 i
  l1 : h.IsList c.l1 xs
  l2 : h.IsList c.l2 ys
/-- the cells lie below the new list -/
structure ZLow (c : ZCell) (S : Addr) : Prop where
  ap : ZipApart c.z c.TI c.TO c.i1 c.i2 c.l1 c.l2
  z : c.z < S
  TI : c.TI < S
  TO : c.TO < S
  i1 : c.i1 < S
  i2 : c.i2 < S
  l1 : c.l1 < S
  l2 : c.l2 < S
theorem ZSt.keep {c : ZCell} {S : Addr} {xs ys : Array Value} {i : Nat} {h h' : Heap} (L : ZLow c S) (x : ZSt c S xs ys i h) (hk : ∀ b o, b ≠ S → h.get? b = some o → h'.get? b = some o) : ZSt c S xs ys i h' := by
  refine ⟨?_, hk _ _ (Nat.ne_of_lt L.TI) x.ti, x.h1.at fun o e => hk _ _ (Nat.ne_of_lt L.i1) e, x.h2.at fun o e => hk _ _ (Nat.ne_of_lt L.i2) e, x.l1.at fun o e => hk _ _ (Nat.ne_of_lt L.l1) e, x.l2.at fun o e => hk _ _ (Nat.ne_of_lt L.l2) e⟩
  rcases x.st with ⟨e, hz, a, b, e'⟩ | ⟨T, b, o, hz, ho, hs⟩
  · exact .inl ⟨e, hk _ _ (Nat.ne_of_lt L.z) hz, a, b, hk _ _ (Nat.ne_of_lt L.TO) e'⟩
  · exact .inr ⟨T, b, o, hk _ _ (Nat.ne_of_lt L.z) hz, hk _ _ (Nat.ne_of_gt hs) ho, hs⟩
theorem zst_item {c : ZCell} {S : Addr} {xs ys : Array Value} {i : Nat} {x y : Value} {Q : Option Value → Shared → Prop} (L : ZLow c S) (hS : S < s.heap.objs.size) (st : ZSt c S xs ys i s.heap) (hx : xs[i]? = some x) (hy : ys[i]? = some y)
    (hQ : ∀ h', ZSt c S xs ys (i + 1) h' → IsPair h' s.heap.objs.size x y → (∀ b o, b ≠ c.z → b ≠ c.TO → b ≠ c.i1 → b ≠ c.i2 → s.heap.get? b = some o → h'.get? b = some o) → Q (some (.ref s.heap.objs.size)) { s with heap := h' }) :
    wpAny (model prog w) A (pyNext (.ref c.z)) Q E s := by
  have D := L.ap
  rcases st.st with ⟨e, hz, a0, b0, hto⟩ | ⟨T, b, o, hz, ho, hs⟩
  · refine wpAny_pyNext_zip_item D hz st.ti hto st.h1 st.h2 st.l1 st.l2 hx hy fun h' hz' hto' h1' h2' hp hsz hk => hQ h' ⟨.inr ⟨s.heap.objs.size, false, _, hz', hp, hS⟩, ?_, h1', h2', ?_, ?_⟩ hp hk
    · exact hk _ _ D.TIz D.TITO D.TIi1 D.TIi2 st.ti
    · exact st.l1.at fun o e => hk _ _ D.l1z D.l1TO D.l1i1 D.l1i2 e
    · exact st.l2.at fun o e => hk _ _ D.l2z D.l2TO D.l2i1 D.l2i2 e
  · have ne : ∀ {q : Addr}, q < S → T ≠ q := fun hq => Nat.ne_of_gt (Nat.lt_trans hq hs)
    refine pyNext_zipb_item D hz ho st.ti st.h1 st.h2 st.l1 st.l2 hx hy fun h' hz' h1' h2' hp hk => hQ h' ⟨.inr ⟨T, true, o, hz', hk _ _ (ne L.z) (ne L.TO) (ne L.i1) (ne L.i2) ho, hs⟩, ?_, h1', h2', ?_, ?_⟩ hp hk
    · exact hk _ _ D.TIz D.TITO D.TIi1 D.TIi2 st.ti
    · exact st.l1.at fun o e => hk _ _ D.l1z D.l1TO D.l1i1 D.l1i2 e
    · exact st.l2.at fun o e => hk _ _ D.l2z D.l2TO D.l2i1 D.l2i2 e
theorem zst_done {c : ZCell} {S : Addr} {xs ys : Array Value} {i : Nat} {Q : Option Value → Shared → Prop} (hh : A.handled = none) (L : ZLow c S) (st : ZSt c S xs ys i s.heap) (hend : xs[i]? = none ∨ ys[i]? = none)
    (hQ : ∀ h', (∀ b o, b ≠ c.z → b ≠ c.TO → b ≠ c.i1 → b ≠ c.i2 → s.heap.get? b = some o → h'.get? b = some o) → Q none { s with heap := h' }) : wpAny (model prog w) A (pyNext (.ref c.z)) Q E s := by
  have D := L.ap
  rcases st.st with ⟨e, hz, a0, b0, hto⟩ | ⟨T, b, o, hz, ho, hs⟩
  · exact wpAny_pyNext_zip_end hh D hz st.ti hto st.h1 st.h2 st.l1 st.l2 hend hQ
  · exact pyNext_zipb_end hh D hz ho st.ti st.h1 st.h2 st.l1 st.l2 hend hQ
/-- the new tuples: above S, the j-th of the j-th items -/
structure ZG (xs ys : Array Value) (S : Addr) (h : Heap) (as : List Addr) : Prop where
  rise : as.Pairwise (· < ·)
  above : ∀ a ∈ as, S < a
  pairs : ∀ (j : Nat) (a : Addr), as[j]? = some a → ∃ x y, xs[j]? = some x ∧ ys[j]? = some y ∧ IsPair h a x y
theorem ZG.there {xs ys : Array Value} {S : Addr} {h : Heap} {as : List Addr} (g : ZG xs ys S h as) {a : Addr} (ha : a ∈ as) : a < h.objs.size := by
  obtain ⟨j, hj⟩ := List.mem_iff_getElem?.mp ha
  obtain ⟨_, _, _, _, e⟩ := g.pairs j a hj
  exact Heap.lt_size e
theorem z_loop {R : Result → Shared → Prop} {c : ZCell} {S : Addr} {xs ys : Array Value} {n : Nat} (hh : A.handled = none) (L : ZLow c S) (hn : n ≤ sizeLine) (hmin : n = min xs.size ys.size) (res : Value) {h₁ : Heap}
    (hR : ∀ h' tk acc c' as, (∀ b o, b ≠ S → b ≠ c.z → b ≠ c.TO → b ≠ c.i1 → b ≠ c.i2 → h₁.get? b = some o → h'.get? b = some o) → h'.get? S = some { cls := .type "list", dict := none, data := .seq acc c', slots := #[] } → as.length = n → ZG xs ys S h' as →
      acc.toList = as.map Value.ref → R (.ok (.ret res)) { s with heap := h', toks := tk }) :
    ∀ (k i : Nat) (h : Heap) (tk c' : Nat) (acc : Array Value) (as : List Addr), n - i = k → i ≤ n → ZSt c S xs ys i h → (∀ b o, b ≠ S → b ≠ c.z → b ≠ c.TO → b ≠ c.i1 → b ≠ c.i2 → h₁.get? b = some o → h.get? b = some o) →
      h.get? S = some { cls := .type "list", dict := none, data := .seq acc c', slots := #[] } → acc.toList = as.map Value.ref → as.length = i → ZG xs ys S h as →
      codeAny (model prog w) A (.builtin "list.extend.loop" ⟨[.ref S, .ref c.z, res], []⟩) R { s with heap := h, toks := tk } := by
  intro k
  induction k with
  | zero =>
    intro i h tk c' acc as hk hi hst hkeep hS hacc hal hG
    have hin : i = n := by omega
    refine codeAny_builtin PySem.F.entry_extend_loop ?_
    rw [Around.under_plainId PySem.F.plain_extend_loop _]
    show wpAny _ A.in1 (pyNext (.ref c.z) >>= _) _ _ _
    refine wpAny_bind (zst_done (s := { s with heap := h, toks := tk }) (A := A.in1) hh L hst ?_ fun h' he => ?_)
    · rcases Nat.le_total xs.size ys.size with z | z
      · exact .inl (Array.getElem?_eq_none (by omega))
      · exact .inr (Array.getElem?_eq_none (by omega))
    · refine wpAny_pure (hR h' tk acc c' as (fun b o h1 h2 h3 h4 h5 e => he b o h2 h3 h4 h5 (hkeep b o h1 h2 h3 h4 h5 e)) (he S _ (Nat.ne_of_gt L.z) (Nat.ne_of_gt L.TO) (Nat.ne_of_gt L.i1) (Nat.ne_of_gt L.i2) hS) (by omega) ⟨hG.rise, hG.above, fun j a hj => ?_⟩ hacc)
      obtain ⟨x, y, e1, e2, e3⟩ := hG.pairs j a hj
      have hb := hG.above a (List.mem_of_getElem? hj)
      exact ⟨x, y, e1, e2, he a _ (Nat.ne_of_gt (Nat.lt_trans L.z hb)) (Nat.ne_of_gt (Nat.lt_trans L.TO hb)) (Nat.ne_of_gt (Nat.lt_trans L.i1 hb)) (Nat.ne_of_gt (Nat.lt_trans L.i2 hb)) e3⟩
  | succ k ih =>
    intro i h tk c' acc as hk hi hst hkeep hS hacc hal hG
    have hlt : i < n := by omega
    have hx : xs[i]? = some (xs[i]'(by omega)) := Array.getElem?_eq_getElem (by omega)
    have hy : ys[i]? = some (ys[i]'(by omega)) := Array.getElem?_eq_getElem (by omega)
    have hsz : acc.size = i := by rw [← Array.length_toList, hacc, List.length_map, hal]
    have hSl : S < h.objs.size := Heap.lt_size hS
    refine codeAny_builtin PySem.F.entry_extend_loop ?_
    rw [Around.under_plainId PySem.F.plain_extend_loop _]
    show wpAny _ A.in1 (pyNext (.ref c.z) >>= _) _ _ _
    refine wpAny_bind (zst_item (s := { s with heap := h, toks := tk }) L hSl hst hx hy fun h' hst' ht hkp => ?_)
    dsimp only at ht hkp ⊢
    have hS' := hkp S _ (Nat.ne_of_gt L.z) (Nat.ne_of_gt L.TO) (Nat.ne_of_gt L.i1) (Nat.ne_of_gt L.i2) hS
    have up : ∀ b o, b ≠ S → h'.get? b = some o → (h'.update S (Obj.mapSeq (·.push (Value.ref h.objs.size)))).get? b = some o := fun b o hb e => (Heap.get?_update_other _ _ (Ne.symm hb)).trans e
    show wpAny _ A.in1 (updateSeq S (·.push (Value.ref h.objs.size)) >>= _) _ _ _
    refine wpAny_bind ?_
    refine wpAny_updateSeq hS' rfl (wpAny_pure ⟨plainId_quiet PySem.F.plain_extend_loop _, ih (i + 1) _ tk _ (acc.push (Value.ref h.objs.size)) (as ++ [h.objs.size]) (by omega) hlt (hst'.keep L up)
      (fun b o h1 h2 h3 h4 h5 e => up b o h1 (hkp b o h2 h3 h4 h5 (hkeep b o h1 h2 h3 h4 h5 e))) (Heap.get?_update_self _ hS' rfl) (by rw [Array.toList_push, hacc, List.map_append]; rfl) (by rw [List.length_append, hal]; rfl) ⟨?_, ?_, ?_⟩⟩) (by rw [hsz]; omega) (by show (acc.push (Value.ref h.objs.size)).size ≤ sizeLine + 1; rw [Array.size_push, hsz]; omega)
    · refine List.pairwise_append.mpr ⟨hG.rise, List.pairwise_singleton _ _, fun a ha b hb => ?_⟩
      rw [List.mem_singleton.mp hb]
      exact hG.there ha
    · intro a ha
      rcases List.mem_append.mp ha with ha | ha
      · exact hG.above a ha
      · rw [List.mem_singleton.mp ha]; exact hSl
    · intro j b hj
      rcases Nat.lt_trichotomy j as.length with h1 | h1 | h1
      · rw [List.getElem?_append_left h1] at hj
        obtain ⟨x', y', e1, e2, e3⟩ := hG.pairs j b hj
        have hb := hG.above b (List.mem_of_getElem? hj)
        exact ⟨x', y', e1, e2, up b _ (Nat.ne_of_gt hb) (hkp b _ (Nat.ne_of_gt (Nat.lt_trans L.z hb)) (Nat.ne_of_gt (Nat.lt_trans L.TO hb)) (Nat.ne_of_gt (Nat.lt_trans L.i1 hb)) (Nat.ne_of_gt (Nat.lt_trans L.i2 hb)) e3)⟩
      · subst h1
        have hb : h.objs.size = b := by simpa using hj
        subst hb
        exact ⟨_, _, by rw [hal]; exact hx, by rw [hal]; exact hy, up _ _ (Nat.ne_of_gt hSl) ht⟩
      · have hnone : (as ++ [h.objs.size])[j]? = none := List.getElem?_eq_none (by rw [List.length_append, List.length_singleton]; omega)
        rw [hnone] at hj; cases hj
theorem zip_no_len : typeLookup (.type "zip") "__len__" = pure none := by rw [typeLookup_type, builtinLookup_eq_fast]; kernel_rfl
theorem zip_no_hint : typeLookup (.type "zip") "__length_hint__" = pure none := by rw [typeLookup_type, builtinLookup_eq_fast]; kernel_rfl
theorem z_extend {R : Result → Shared → Prop} {c : ZCell} {S : Addr} {xs ys : Array Value} {n : Nat} (hh : A.handled = none) (L : ZLow c S) (hn : n ≤ sizeLine) (hmin : n = min xs.size ys.size) (res : Value) (c₀ : Nat) (hst : ZSt c S xs ys 0 s.heap) (hzz : IsZip s.heap c.z c.TI c.TO .none) (hS : s.heap.get? S = some { cls := .type "list", data := .seq #[] c₀ })
    (hR : ∀ h' tk acc c' as, (∀ b o, b ≠ S → b ≠ c.z → b ≠ c.TO → b ≠ c.i1 → b ≠ c.i2 → s.heap.get? b = some o → h'.get? b = some o) → h'.get? S = some { cls := .type "list", dict := none, data := .seq acc c', slots := #[] } → as.length = n → ZG xs ys S h' as →
      acc.toList = as.map Value.ref → R (.ok (.ret res)) { s with heap := h', toks := tk }) :
    wpAny (model prog w) A.in1 (Builtin.List.listExtendWith (.ref S) (.ref c.z) res)
      (fun fin s' => match fin with | .done f => R (.ok f) s' | .again c' => c'.quiet = true ∧ codeAny (model prog w) A c' R s') (fun e s' => R (.error e) s') s := by
  have hT : s.TypeIs (.ref c.z) "zip" := ⟨_, hzz, rfl⟩
  unfold Builtin.List.listExtendWith
  refine wpAny_bind (wpAny_typeOf hT ?_)
  have h1 : Builtin.List.listSameRef (.ref S) (.ref c.z) = false := by simp [Builtin.List.listSameRef, Nat.ne_of_gt L.z]
  have h2 : (Value.type "zip" == Value.type "list") = false := by decide
  have h3 : (Value.type "zip" == Value.type "tuple") = false := by decide
  simp only [h1, h2, h3, Bool.or_false, Bool.false_eq_true, if_false]
  refine wpAny_bind (wpAny_pyIter_zip hzz ?_)
  refine wpAny_bind (wpAny_holding ?_)
  unfold Builtin.List.listLengthHint
  refine wpAny_bind (wpAny_specialOf hT zip_no_len ?_)
  show wpAny _ A.in1 (specialOf (Value.ref c.z) (Str.ofString "__length_hint__") >>= _) _ _ _
  refine wpAny_bind (wpAny_specialOf hT zip_no_hint ?_)
  refine wpAny_pure ?_
  show wpAny _ A.in1 (rule "list.extend.makes-room" >>= fun _ => Builtin.List.listTouch (.ref S) >>= fun _ => again (.builtin "list.extend.loop" ⟨[.ref S, .ref c.z, res], []⟩)) _ _ _
  refine wpAny_bind (wpAny_rule ?_)
  refine wpAny_bind ?_
  show wpAny _ _ (updateSeq S (·.push .none) >>= fun _ => updateSeq S (·.pop)) _ _ _
  refine wpAny_bind (wpAny_updateSeq hS rfl ?_)
  have hS₂ := Heap.get?_update_self (Obj.mapSeq (·.push Value.none)) hS rfl
  refine wpAny_updateSeq (hz := by seq_fits) hS₂ rfl ?_
  have hS₃ := Heap.get?_update_self (Obj.mapSeq (·.pop)) hS₂ rfl
  have oth : ∀ b o, b ≠ S → s.heap.get? b = some o → ((s.heap.update S (Obj.mapSeq (·.push Value.none))).update S (Obj.mapSeq (·.pop))).get? b = some o := fun b o hb e => (Heap.get?_update_other _ _ (Ne.symm hb)).trans ((Heap.get?_update_other _ _ (Ne.symm hb)).trans e)
  refine wpAny_pure ⟨plainId_quiet PySem.F.plain_extend_loop _, z_loop (s := s) (h₁ := s.heap) hh L hn hmin res hR n 0 _ s.toks _ #[] [] (Nat.sub_zero _) (Nat.zero_le _) (hst.keep L oth) (fun b o h1 _ _ _ _ e => oth b o h1 e) hS₃ rfl rfl ⟨List.Pairwise.nil, (fun _ ha => nomatch ha), (fun j a hj => by simp at hj)⟩⟩
theorem z_call {Q : Value → Shared → Prop} {c : ZCell} {xs ys : Array Value} {n : Nat} (hh : A.handled = none) (L : ZLow c s.heap.objs.size) (hn : n ≤ sizeLine) (hmin : n = min xs.size ys.size) (hst : ZSt c s.heap.objs.size xs ys 0 s.heap) (hzz : IsZip s.heap c.z c.TI c.TO .none)
    (hQ : ∀ h' tk acc c' as, (∀ b o, b ≠ c.z → b ≠ c.TO → b ≠ c.i1 → b ≠ c.i2 → s.heap.get? b = some o → h'.get? b = some o) → h'.get? s.heap.objs.size = some { cls := .type "list", dict := none, data := .seq acc c', slots := #[] } → as.length = n → ZG xs ys s.heap.objs.size h' as →
      acc.toList = as.map Value.ref → Q (.ref s.heap.objs.size) { s with heap := h', toks := tk }) :
    wpAny (model prog w) A (call (.type "list") [.ref c.z]) Q E s := by
  refine callType_codes (Q₁ := fun obj s₁ => obj = .ref s.heap.objs.size ∧ s₁ = { s with heap := s.heap.push { cls := .type "list", data := .seq #[] } }) PySem.F.called_list (PySem.F.typeCall_list_1 _) PySem.F.entry_list_init
    (code_list_new _ ⟨rfl, rfl⟩) fun obj s₁ h₁ => ?_
  obtain ⟨rfl, rfl⟩ := h₁
  have hS : (s.heap.push { cls := .type "list", data := .seq #[] }).get? s.heap.objs.size = some { cls := .type "list", data := .seq #[] } := Heap.get?_push_size _ rfl
  refine ⟨⟨_, hS, rfl⟩, PySem.F.args_list_init_2 _ _, ?_⟩
  have hst1 : ZSt c s.heap.objs.size xs ys 0 (s.heap.push { cls := .type "list", data := .seq #[] }) := hst.keep L fun b o _ e => Heap.get?_push_of_some _ e
  show wpAny _ _ (do let old ← Builtin.List.listItems (.ref s.heap.objs.size); Builtin.List.listUpdate (.ref s.heap.objs.size) (fun _ => #[]); letGo old.toList.reverse; Builtin.List.listExtendWith (.ref s.heap.objs.size) (.ref c.z) .none) _ _ _
  refine wpAny_bind ?_
  unfold Builtin.List.listItems
  refine wpAny_bind (wpAny_seqItems hS rfl (wpAny_pure ?_))
  show wpAny _ _ (updateSeq s.heap.objs.size (fun _ => #[]) >>= fun _ => letGo (#[] : Array Value).toList.reverse >>= fun _ => Builtin.List.listExtendWith (.ref s.heap.objs.size) (.ref c.z) .none) _ _ _
  refine wpAny_bind (wpAny_updateSeq hS rfl ?_)
  have hS₂ := Heap.get?_update_self (Obj.mapSeq (fun _ => (#[] : Array Value))) hS rfl
  have oth : ∀ b o, b ≠ s.heap.objs.size → (s.heap.push { cls := .type "list", data := .seq #[] }).get? b = some o → ((s.heap.push { cls := .type "list", data := .seq #[] }).update s.heap.objs.size (Obj.mapSeq (fun _ => (#[] : Array Value)))).get? b = some o :=
    fun b o hb e => (Heap.get?_update_other _ _ (Ne.symm hb)).trans e
  refine wpAny_bind (wpAny_letGo ?_)
  refine z_extend (A := A.in1) hh L hn hmin .none _ (hst1.keep L oth) (oth _ _ (Nat.ne_of_lt L.z) (Heap.get?_push_of_some _ hzz)) hS₂ fun h' tk acc c' as hk hS' hl hG hacc => ?_
  exact ⟨rfl, hQ h' tk acc c' as (fun b o a1 a2 a3 a4 e => hk b o (Nat.ne_of_lt (Heap.lt_size e)) a1 a2 a3 a4 (oth _ _ (Nat.ne_of_lt (Heap.lt_size e)) (Heap.get?_push_of_some _ e))) hS' hl hG hacc⟩
end

/-! ### the rule -/
def putZ : Hp → List Addr → List (V × V) → Hp
  | H, a :: as, p :: kvs => putZ (upd H a (.tup [p.1, p.2])) as kvs
  | H, _, _ => H
theorem putZ_off {b : Addr} : ∀ (as : List Addr) (kvs : List (V × V)) (H : Hp), b ∉ as → putZ H as kvs b = H b
  | [], _, _, _ => rfl
  | _ :: _, [], _, _ => rfl
  | a :: as, p :: kvs, H, h => by
    show putZ (upd H a (.tup [p.1, p.2])) as kvs b = H b
    rw [putZ_off as kvs _ (fun z => h (List.mem_cons_of_mem _ z)), upd_ne (fun z => h (by rw [z]; exact List.mem_cons_self))]
theorem putZ_at : ∀ (as : List Addr) (kvs : List (V × V)) (H : Hp), as.length = kvs.length → as.Nodup → Paired (fun (t : Addr) (p : V × V) => putZ H as kvs t = some (.tup [p.1, p.2])) as kvs
  | [], [], _, _, _ => .nil
  | [], _ :: _, _, h, _ => by cases h
  | _ :: _, [], _, h, _ => by cases h
  | a :: as, p :: kvs, H, h, hn => by
    have hn' := List.nodup_cons.mp hn
    have ih := putZ_at as kvs (upd H a (.tup [p.1, p.2])) (Nat.succ.inj h) hn'.2
    refine .cons ?_ ih
    show putZ (upd H a (.tup [p.1, p.2])) as kvs a = some (.tup [p.1, p.2])
    rw [putZ_off as kvs _ hn'.1, upd_same]
section
variable {X : Cx} {e e2 : Expr} {ta : TA} {p0 p1 cpos pos : Pos}
theorem zip_laid {pins : List (Addr × Obj)} {σ : L2.St} {H : Hp} {s : Shared} {h' : Heap} {tk : Nat} {vs us : List V} {xs ys : List Value} {acc : Array Value} {c : Nat} {as : List Addr} {S : Addr} (I : Inv X pins σ H s) (hz : as.length ≤ sizeLine) (rx : Vals vs xs) (ry : Vals us ys) (hle : s.heap.objs.size ≤ S)
    (hk : ∀ b o, s.heap.get? b = some o → h'.get? b = some o) (hS : h'.get? S = some { cls := .type "list", dict := none, data := .seq acc c, slots := #[] }) (hl : as.length = min vs.length us.length) (hG : ZG xs.toArray ys.toArray S h' as) (hacc : acc.toList = as.map Value.ref) :
    ∃ H' : Hp, (∀ b o, H b = some o → H' b = some o) ∧ H S = none ∧ (∀ t ∈ as, H t = none) ∧ H' S = some (.lst (as.map V.ref)) ∧ Paired (fun (t : Addr) (q : V × V) => H' t = some (.tup [q.1, q.2])) as (vs.zip us) ∧ Inv X pins σ H' { s with heap := h', toks := tk } := by
  have hSn : S ∉ as := fun z => Nat.lt_irrefl _ (hG.above _ z)
  have nd : as.Nodup := List.Pairwise.imp (fun {a b} (h : a < b) => Nat.ne_of_lt h) hG.rise
  have new : ∀ t ∈ as, H t = none := fun t ht => I.hok.fresh (Nat.le_of_lt (Nat.lt_of_le_of_lt hle (hG.above t ht)))
  have newS : H S = none := I.hok.fresh hle
  have atP := putZ_at as (vs.zip us) (upd H S (.lst (as.map V.ref))) (by rw [List.length_zip]; exact hl) nd
  have off : ∀ b, b ∉ as → b ≠ S → putZ (upd H S (.lst (as.map V.ref))) as (vs.zip us) b = H b := fun b h1 h2 => by rw [putZ_off as _ _ h1, upd_ne h2]
  have low : ∀ b o, s.heap.get? b = some o → b ∉ as ∧ b ≠ S := fun b o e => ⟨fun z => absurd (Heap.lt_size e) (Nat.not_lt.mpr (Nat.le_trans hle (Nat.le_of_lt (hG.above b z)))), Nat.ne_of_lt (Nat.lt_of_lt_of_le (Heap.lt_size e) hle)⟩
  have kp : ∀ b u, H b = some u → (putZ (upd H S (.lst (as.map V.ref))) as (vs.zip us)) b = some u := fun b u e => by
    rw [off b (fun z => by rw [new b z] at e; cases e) (fun z => by rw [z, newS] at e; cases e)]
    exact e
  have eS : putZ (upd H S (.lst (as.map V.ref))) as (vs.zip us) S = some (.lst (as.map V.ref)) := by rw [putZ_off as _ _ hSn, upd_same]
  refine ⟨putZ (upd H S (.lst (as.map V.ref))) as (vs.zip us), kp, newS, new, eS, atP, ?_⟩
  refine I.call' (ch := []) rfl ⟨fun b o q _ _ _ => hk b o q, fun b o q _ _ _ => ⟨o.slots, hk b o q⟩, fun b o q n _ => ?_, fun b o q _ => ⟨o, hk b o q⟩, fun b xs q => kp b _ q, fun b o u q => kp b _ q, fun b ps q => ⟨#[], by rw [kp b _ q]; simp⟩⟩ (fun b u q => ?_) I.bare fun b z => by simp at z
  · obtain ⟨z1, z2⟩ := low b o q
    rw [off b z1 z2]
    exact n
  · by_cases hb : b ∈ as
    · obtain ⟨j, pk, e1, e2, e3⟩ := LiI.paired_ix atP hb
      rw [e3] at q
      cases q
      obtain ⟨x, y, f1, f2, f3⟩ := hG.pairs j b e1
      have f1' : xs[j]? = some x := by simpa using f1
      have f2' : ys[j]? = some y := by simpa using f2
      obtain ⟨g1, g2⟩ := List.getElem?_zip_eq_some.mp e2
      obtain ⟨x', hx', r1⟩ := rx.get g1
      obtain ⟨y', hy', r2⟩ := ry.get g2
      rw [f1'] at hx'
      rw [f2'] at hy'
      cases hx'
      cases hy'
      exact ⟨by show 2 ≤ sizeLine; decide, [x, y], .cons r1 (.cons r2 .nil), ⟨_, f3, rfl, _, rfl⟩⟩
    · by_cases hb2 : b = S
      · rw [hb2] at q ⊢
        rw [eS] at q
        cases q
        refine ⟨by rw [List.length_map]; omega, acc.toList, c, by rw [hacc]; exact LiI.vals_refs as, ?_⟩
        rw [Array.toArray_toList]
        exact hS
      · rw [off b hb hb2] at q
        exact (I.hok b u q).stay (fun d v _ y => hk d v y) (fun d y => kp d _ y) fun d xs y => kp d _ y
def tListZip (K : PySem.W.Frag) (ta : TA) : TE := fun σ H Q => ta σ H fun ws H1 => ∃ a b vs us, ws = [.ref a, .ref b] ∧ SqL K H1 a vs ∧ SqL K H1 b us ∧
  ∀ (H' : Hp) (p : Addr) (ts : List Addr), (∀ b o, H1 b = some o → H' b = some o) → H1 p = none → (∀ t ∈ ts, H1 t = none) → H' p = some (.lst (ts.map V.ref)) → Paired (fun (t : Addr) (q : V × V) => H' t = some (.tup [q.1, q.2])) ts (vs.zip us) → Q (.ref p) H'
theorem pe_listZip (hc : X.calm = true) (hg : Gl X "list") (hm : X.mg "list" = none) (hg2 : Gl X "zip") (hm2 : X.mg "zip" = none) (ha : PA X [e, e2] ta)
    (na : starEach [.Call (.Name "zip" p1) [e, e2] [] cpos] X.env = (false, eval (.Call (.Name "zip" p1) [e, e2] [] cpos) X.env) :: starEach [] X.env := by rfl)
    (hs : starEach [e, e2] X.env = (false, eval e X.env) :: starEach [e2] X.env := by rfl) (hpl : (backTo cpos (starEach [e2] X.env)).any (·.1) = false := by rfl) :
    PE X (.Call (.Name "list" p0) [.Call (.Name "zip" p1) [e, e2] [] cpos] [] pos) (tListZip X.K ta) := by
  refine ⟨fun pins s σ H Q I h => ?_⟩
  refine Call_ (ld_blt I hg hm boot_list (PyProof.Rows.callWith_type1 (args_cons ?_ na) na))
  refine Call_ (ld_blt I hg2 hm2 PyProof.Rows.boot_zip (PyProof.Rows.callWith_type1 (thn (ha.run cpos pins s σ H _ I h) fun us s1 ⟨vs, H1, I1, r1, q1⟩ => ?_) hs hpl))
  obtain ⟨a, b, xs, ys, ex, hqx, hqy, q1⟩ := q1
  subst ex
  cases r1 with
  | cons r rr =>
    cases rr with
    | cons r' rr =>
      cases rr
      cases r
      cases r'
      obtain ⟨its, rv, p1, hz1⟩ := I1.list hqx
      obtain ⟨its2, rv2, p2, hz2⟩ := I1.list hqy
      refine call_zip_2 p1.isList p2.isList fun h' hz hTI hTO h1 h2 hsz hk => args_nil ?_
      have I2 : Inv X pins σ H1 { s1 with heap := h' } := I1.kept (t' := s1.toks) hk
      have l1 := rv.length
      have l2 := rv2.length
      have hmin : min its.toArray.size its2.toArray.size = min xs.length ys.length := by simp [l1, l2]
      have ap := PySem.W.ktu_apart s1.heap.objs.size a b p1.lt p2.lt
      have L : ZLow ⟨s1.heap.objs.size + 4, s1.heap.objs.size + 2, s1.heap.objs.size + 3, s1.heap.objs.size, s1.heap.objs.size + 1, a, b⟩ h'.objs.size := by
        have q1 := p1.lt
        have q2 := p2.lt
        have e : h'.objs.size = s1.heap.objs.size + 5 := hsz
        refine ⟨ap, ?_, ?_, ?_, ?_, ?_, ?_, ?_⟩ <;> dsimp only <;> rw [e]
        · exact Nat.add_lt_add_left (by decide) _
        · exact Nat.add_lt_add_left (by decide) _
        · exact Nat.add_lt_add_left (by decide) _
        · exact Nat.lt_add_of_pos_right (by decide)
        · exact Nat.add_lt_add_left (by decide) _
        · exact Nat.lt_of_lt_of_le q1 (Nat.le_add_right _ _)
        · exact Nat.lt_of_lt_of_le q2 (Nat.le_add_right _ _)
      refine z_call (s := { s1 with heap := h' }) (xs := its.toArray) (ys := its2.toArray) (n := min its.toArray.size its2.toArray.size) (I1.ok.hd hc) L (by rw [hmin]; omega) rfl ⟨.inl ⟨rfl, hz, _, _, hTO⟩, hTI, h1, h2, p1.isList.at fun o e => hk _ _ e, p2.isList.at fun o e => hk _ _ e⟩ hz fun h2' tk acc c' as hk2 hS hl hG hacc => ?_
      have hk3 : ∀ b o, s1.heap.get? b = some o → h2'.get? b = some o := fun b o e => by
        have lt := Heap.lt_size e
        have ne : ∀ k, b ≠ s1.heap.objs.size + k := fun k => Nat.ne_of_lt (Nat.lt_of_lt_of_le lt (Nat.le_add_right _ _))
        exact hk2 b o (ne 4) (ne 3) (ne 0) (ne 1) (hk b o e)
      obtain ⟨H', k1, k2, k3, k4, k5, J⟩ := zip_laid (tk := tk) I1 (by rw [hl, hmin]; omega) rv rv2 (by rw [hsz]; exact Nat.le_add_right _ _) hk3 hS (by rw [hl, hmin]) hG hacc
      exact ⟨.ref _, H', J, rfl, q1 H' _ as k1 k2 k3 k4 k5⟩
end

/-- much that is new at once -/
theorem Hs.grow {K : PySem.W.Frag} {C : Addr} {T : List (Addr × Str)} {G H H' : Hp} {W : Ow} (h : Hs K C T G W H) (e : Ex H H') (as : List Addr) (ha : ∀ a ∈ as, H a = none) (hnt : ∀ a ∈ as, ∀ ps, H' a ≠ some (.tbl ps)) : ∃ G', Ex G G' ∧ Hs K C T G' W H' ∧ ∀ a ∈ as, G' a = H' a := by
  classical
  refine ⟨fun b => if b ∈ as then H' b else G b, fun b o q => ?_, ⟨fun b o q => ?_, fun q hq => ?_, fun q hq => ?_, h.n, h.t.ext e, fun b ps q => ?_⟩, fun a q => if_pos q⟩
  · have z : b ∉ as := fun z => by rw [h.fresh (ha b z)] at q; cases q
    show (if b ∈ as then H' b else G b) = some o
    rw [if_neg z]; exact q
  · replace q : (if b ∈ as then H' b else G b) = some o := q
    by_cases z : b ∈ as
    · rw [if_pos z] at q; exact q
    · rw [if_neg z] at q; exact e _ _ (h.g _ _ q)
  · obtain ⟨o, ho, r⟩ := h.w q hq
    refine ⟨o, e _ _ ho, r.mono fun b o q => ?_⟩
    have z : b ∉ as := fun z => by rw [h.fresh (ha b z)] at q; cases q
    show (if b ∈ as then H' b else G b) = some o
    rw [if_neg z]; exact q
  · obtain ⟨o, ho, r⟩ := h.w q hq
    have z : q.1 ∉ as := fun z => by rw [ha _ z] at ho; cases ho
    show (if q.1 ∈ as then H' q.1 else G q.1) = none
    rw [if_neg z]; exact h.d q hq
  · replace q : (if b ∈ as then H' b else G b) = some (.tbl ps) := q
    by_cases z : b ∈ as
    · rw [if_pos z] at q; exact hnt b z ps q
    · rw [if_neg z] at q; exact h.nt b ps q
theorem rp_pairs {G : Hp} : ∀ {vs us : List V} {ds es : List PyData} {ts : List Addr}, RpAll G vs ds → RpAll G us es → Paired (fun (t : Addr) (q : V × V) => G t = some (.tup [q.1, q.2])) ts (vs.zip us) → RpAll G (ts.map V.ref) ((ds.zip es).map fun p => .tuple [p.1, p.2])
  | _, _, _, _, _, .nil, _, h => by cases h; exact .nil
  | _, _, _, _, _, .cons _ _, .nil, h => by cases h; exact .nil
  | _, _, _, _, _, .cons a b, .cons c d, h => by
    cases h with
    | cons h1 h2 => exact .cons (.tup h1 (.cons a (.cons c .nil))) (rp_pairs b d h2)
section
variable {U : Ct} {env : Ev0} {W : Ow} {Ψ : D → Ow → Prop} {a b e : Expr} {pos p0 p1 cpos : Pos}
theorem ev_listZip (ok : U.Ok) (B : Blt U.X.mg) (hg : Gl U.X "list") (hg2 : Gl U.X "zip") (h : EvA U [a, b] env W fun ds W1 => ∃ xs ys, ds = [.p (.list xs), .p (.list ys)] ∧ Ψ (.p (.list ((xs.zip ys).map fun p => .tuple [p.1, p.2]))) W1)
    (na : starEach [.Call (.Name "zip" p1) [a, b] [] cpos] U.X.env = (false, eval (.Call (.Name "zip" p1) [a, b] [] cpos) U.X.env) :: starEach [] U.X.env := by rfl)
    (hs : starEach [a, b] U.X.env = (false, eval a U.X.env) :: starEach [b] U.X.env := by rfl) (hpl : (backTo cpos (starEach [b] U.X.env)).any (·.1) = false := by rfl) :
    Ev U (.Call (.Name "list" p0) [.Call (.Name "zip" p1) [a, b] [] cpos] [] pos) env W Ψ :=
  .here (pe_listZip ok.calm hg B.list hg2 B.zip pa_sem na hs hpl) fun σ G H eg h0 sl Q q => h σ G H eg h0 sl _ fun vs G1 H1 ds W1 e1 h1 r1 z1 => by
    obtain ⟨xs, ys, rfl, k⟩ := z1
    cases r1 with
    | cons r1 r2 =>
      cases r2 with
      | cons r2 r3 =>
        cases r3
        cases r1 with
        | lst hl1 ra1 =>
          cases r2 with
          | lst hl2 ra2 =>
            refine ⟨_, _, _, _, rfl, SqL.of (h1.g _ _ hl1), SqL.of (h1.g _ _ hl2), fun H' p ts e' hp hts hl hpr => ?_⟩
            obtain ⟨G', eG, h', at'⟩ := h1.grow e' (p :: ts) (fun x hx => by
              rcases List.mem_cons.mp hx with z | z
              · rw [z]; exact hp
              · exact hts x z)
              fun x hx ps => by
              rcases List.mem_cons.mp hx with z | z
              · rw [z, hl]; exact fun z => nomatch Option.some.inj z
              · obtain ⟨j, y, _, _, f⟩ := LiI.paired_ix hpr z
                rw [f]; exact fun z => nomatch Option.some.inj z
            have at1 := by
              have aux : ∀ {l : List Addr} {ps : List (V × V)}, (∀ x ∈ l, G' x = H' x) → Paired (fun (t : Addr) (q : V × V) => H' t = some (.tup [q.1, q.2])) l ps → Paired (fun (t : Addr) (q : V × V) => G' t = some (.tup [q.1, q.2])) l ps := by
                intro l ps hl hp
                induction hp with
                | nil => exact .nil
                | cons a b ih => exact .cons (by rw [hl _ List.mem_cons_self]; exact a) (ih fun x hx => hl x (List.mem_cons_of_mem _ hx))
              exact aux (fun x hx => at' x (List.mem_cons_of_mem _ hx)) hpr
            exact q _ G' H' (.p (.list _)) W1 (e1.trans eG) h' (Rp.lst (by rw [at' p List.mem_cons_self]; exact hl) (rp_pairs (RpAll.mono eG _ _ ra1) (RpAll.mono eG _ _ ra2) at1)) k
end
/-! ### enumerate over a tuple -/
def IteT (K : PySem.W.Frag) (a : Addr) : It :=
  ⟨fun i H => ∃ (xs : List V) (x : V), SqT K H a xs ∧ xs[i]? = some x, fun i H v H' => ∃ T x, v = .ref T ∧ H T = none ∧ H' = upd H T (.tup [.int (i : Nat), x]) ∧ ∀ xs, SqT K H a xs → xs[i]? = some x, fun i H => ∃ xs : List V, SqT K H a xs ∧ xs.length = i⟩
theorem turn_enumT {P : Program} {w : World} {K : PySem.W.Frag} {elts : List Expr} {kk : Nat} {tpos : Pos} (a e it : Addr) (hne0 : a ≠ it) (hae : a ≠ e) :
    Turn P w K (.Tuple elts kk tpos) (IteT K a) [e, it] e (fun i h => (∃ old, IsEnum h e it ((i : Nat) : Int) old) ∧ h.IsTupleIter it a i ∧ e ≠ it) where
  mem := by simp
  obj := fun i h st b hb => by
    obtain ⟨⟨old, he⟩, ⟨o, ho, hc, hd⟩, _⟩ := st
    have e' : b = e ∨ b = it := by simpa using hb
    rcases e' with z | z
    · rw [z]; exact ⟨_, he, fun v q => nomatch q⟩
    · rw [z]; exact ⟨o, ho, fun v q => by rw [hd] at q; cases q⟩
  keep := fun i h h' st k => let ⟨⟨old, he⟩, hi, hne⟩ := st; ⟨⟨old, k e (by simp) _ he⟩, hi.at fun o q => k it (by simp) o q, hne⟩
  item := by
    intro X hP hw hK hc i pins s σ H E I hf st hg
    subst hP hw hK
    obtain ⟨⟨old, he⟩, hit, hne⟩ := st
    obtain ⟨xs, x, hq, hx⟩ := hg
    obtain ⟨its, rv, p, hz⟩ := I.tuple hq
    obtain ⟨u, hu, ru⟩ := rv.get hx
    have hel : e < s.heap.objs.size := Heap.lt_size he
    have hil : it < s.heap.objs.size := by obtain ⟨_, q, _⟩ := hit; exact Heap.lt_size q
    have hlt : i < its.toArray.size := by
      have := (List.getElem?_eq_some_iff.mp hu).1
      simpa using this
    refine wpAny_pyNext_enum_itemD (i := i) (Draws.tuple (A := X.A.in1) (show X.A.in1.handled = none from I.ok.hd hc) it a hne0 its.toArray) he ⟨hit, p⟩ hlt hne (by simp [hne, Ne.symm hae]) fun x' h' tk hx' ho hst' hT hsz hk => ?_
    have ex' : x' = u := by
      have z : its[i]? = some x' := by simpa using hx'
      rw [hu] at z; exact (Option.some.inj z).symm
    subst ex'
    refine ⟨_, rfl, wpAny_letOwnedTupleGo_enum (s := { s with heap := h', toks := tk + 1 }) ho fun h'' he' sb => ?_⟩
    have hT2 : h''.get? s.heap.objs.size = some { cls := .type "tuple", data := .seq #[.int i tk, x'] } := (sb.2 _ (Nat.ne_of_gt hel)).trans hT
    have new : ObjOk X.prog X.w (upd H s.heap.objs.size (.tup [.int (i : Nat), x])) h'' s.heap.objs.size (.tup [.int (i : Nat), x]) :=
      ⟨by show 2 ≤ sizeLine; decide, [.int i tk, x'], .cons ⟨_, rfl⟩ (.cons ru .nil), ⟨_, hT2, rfl, _, rfl⟩⟩
    have I1 : Inv X pins σ (upd H s.heap.objs.size (.tup [.int (i : Nat), x])) { s with heap := h'', toks := tk + 1 } :=
      I.turnedNew (ch := [e, it]) (fun b ob hb q => (sb.2 b (fun z => hb (by simp [z]))).trans (hk b ob (fun z => hb (by simp [z])) (fun z => hb (by simp [z])) q)) hf (Nat.le_refl _) new
    refine ⟨.ref s.heap.objs.size, _, I1, rfl, ⟨_, x, rfl, I.hok.fresh (Nat.le_refl _), rfl, fun ys hy => by rw [I.tuple_inj hy hq]; exact hx⟩, ⟨⟨x', ?_⟩, hst'.1.at fun o q => (sb.2 it (Ne.symm hne)).trans q, hne⟩, fun b hb => ?_⟩
    · have e1 : ((i + 1 : Nat) : Int) = (i : Int) + 1 := by omega
      rw [e1]; exact he'
    · have hb' : b < s.heap.objs.size := by
        have e' : b = e ∨ b = it := by simpa using hb
        rcases e' with z | z
        · rw [z]; exact hel
        · rw [z]; exact hil
      rw [upd_ne (Nat.ne_of_lt hb')]
      exact (hf b hb).1
  done := by
    intro X hP hw hK hc i pins s σ H E I hf st hg
    subst hP hw hK
    obtain ⟨⟨old, he⟩, hit, hne⟩ := st
    obtain ⟨xs, hq, hx⟩ := hg
    obtain ⟨its, rv, p, hz⟩ := I.tuple hq
    obtain ⟨f0, f1, f2, f3, f4, f5⟩ := hf it (by simp)
    have hl := rv.length
    have en : its.toArray.size = i := by simp; omega
    exact wpAny_pyNext_enum_endD (Draws.tuple (A := X.A.in1) (show X.A.in1.handled = none from I.ok.hd hc) it a hne0 its.toArray) he (by rw [en]; exact ⟨hit, p⟩) fun h' eb => ⟨rfl, I.turned (t' := s.toks) (fun b o hb q => eb b o hb q) f0 f1 f3 f4 f5⟩
  self := fun A i s Q E st h => let ⟨⟨_, he⟩, _⟩ := st; wpAny_pyIter_enum he h
def iEnumT (K : PySem.W.Frag) (ta : TA) : TI := fun σ H R => ta σ H fun vs H1 => ∃ a xs, vs = [.ref a] ∧ SqT K H1 a xs ∧ R (IteT K a) H1
set_option maxHeartbeats 4000000 in
theorem meets_enum_newB1 {v : Value} {o : Obj} {H : Heap → Prop} (B : Begins v o H) :
    Meets (Builtin.«enumerate.__new__» ⟨[.type "enumerate", v], []⟩) (fun _ R s => H s.heap ∧
      R (.ok (.ret (.ref (s.heap.push o).objs.size))) { s with heap := (s.heap.push o).push { cls := .type "enumerate", data := .fields #[.none, .bool false, .ref s.heap.objs.size, rawInt 0, .none, .none] } }) :=
  .of_wp fun prog w A R s h => by
    obtain ⟨hp, g, d, tk, os⟩ := s; obtain ⟨h1, h⟩ := h
    have hsub := sub_enumerate
    have q1 : ∀ {A' : Around} {E : Value → Shared → Prop} {Q : Value → Shared → Prop}, Q (.ref hp.objs.size) ⟨hp.push o, g, d, tk, os⟩ → wpAny (model prog w) A' (pyIter v) Q E ⟨hp, g, d, tk, os⟩ :=
      fun q => B.iter prog w _ _ ⟨hp, g, d, tk, os⟩ _ h1 q
    wp_walk using q1
    refine wpAny_stack_any fun st => wpAny_pure ?_
    split
    · rename_i c _ _ _ _ _
      cases (c == Value.type "enumerate")
      · wp_walk using q1
        exact ⟨_, rfl, h⟩
      · wp_walk using q1
        exact ⟨_, rfl, h⟩
    · wp_walk using q1
      exact ⟨_, rfl, h⟩
theorem call_enum_tuple {prog : Program} {w : World} {A : Around} {E : Value → Shared → Prop} {s : Shared} {l : Addr} {items : Array Value} {Q : Value → Shared → Prop} (hl : s.heap.IsTuple l items)
    (h : ∀ h', IsEnum h' (s.heap.objs.size + 1) s.heap.objs.size 0 .none → h'.IsTupleIter s.heap.objs.size l 0 → h'.objs.size = s.heap.objs.size + 2 →
      (∀ b o, s.heap.get? b = some o → h'.get? b = some o) → Q (.ref (s.heap.objs.size + 1)) { s with heap := h' }) :
    wpAny (model prog w) A (call (.type "enumerate") [.ref l]) Q E s := by
  refine callType_new F.called_enumerate (by decide) (F.typeCall_enumerate_1 _) (F.newCall_enumerate_1 _) (fun obj => F.args_object_init_2 obj _) F.entry_enumerate_new
    (meets_enum_newB1 (begins_tuple l items)) ⟨hl, ?_⟩
  have hz : (s.heap.push { cls := .type "tuple_iterator", data := .fields #[.ref l, .int 0 0] }).objs.size = s.heap.objs.size + 1 := Heap.size_push ..
  show _ ∧ _
  rw [hz]
  have he : IsEnum ((s.heap.push { cls := .type "tuple_iterator", data := .fields #[.ref l, .int 0 0] }).push
      { cls := .type "enumerate", data := .fields #[.none, .bool false, .ref s.heap.objs.size, rawInt 0, .none, .none] }) (s.heap.objs.size + 1) s.heap.objs.size 0 .none := by
    have := Heap.get?_push_size (s.heap.push { cls := .type "tuple_iterator", data := .fields #[.ref l, .int 0 0] })
      (o := { cls := .type "enumerate", data := .fields #[.none, .bool false, .ref s.heap.objs.size, rawInt 0, .none, .none] }) rfl
    rw [hz] at this; exact this
  refine ⟨⟨_, he, rfl⟩, h _ he ⟨_, Heap.get?_push_of_some _ (Heap.get?_push_size _ rfl), rfl, rfl⟩ (by rw [Heap.size_push, hz]) fun b o x => Heap.get?_push_of_some _ (Heap.get?_push_of_some _ x)⟩
theorem pi_enumT {X : Cx} {e : Expr} {ta : TA} {p pos tpos : Pos} {elts : List Expr} {kk : Nat} (hg : Gl X "enumerate") (hm : X.mg "enumerate" = none) (ha : PA X [e] ta) (hs : starEach [e] X.env = [(false, eval e X.env)] := by rfl) :
    PI X (.Tuple elts kk tpos) (.Call (.Name "enumerate" p) [e] [] pos) (iEnumT X.K ta) := by
  refine ⟨fun pins s σ H R I h => ?_⟩
  refine Call_ (ld_blt I hg hm boot_enumerate (PyProof.Rows.callWith_type1 (thn (ha.run pos pins s σ H _ I h) fun us s1 ⟨vs, H1, I1, r1, q1⟩ => ?_) hs rfl))
  obtain ⟨a, xs, ex, hq, q⟩ := q1
  subst ex
  cases r1 with
  | cons r rr =>
    cases rr
    cases r
    obtain ⟨its, rv, p', hz⟩ := I1.tuple hq
    have lta : a < s1.heap.objs.size := by obtain ⟨_, q, _⟩ := p'; exact Heap.lt_size q
    refine call_enum_tuple p' fun h' he hit hsz hk => wpAny_pyIter_enum he ?_
    have I2 : Inv X pins σ H1 { s1 with heap := h' } := I1.kept (t' := s1.toks) hk
    refine ⟨s1.heap.objs.size + 1, [s1.heap.objs.size + 1, s1.heap.objs.size], _, _, H1, rfl, I2, turn_enumT a (s1.heap.objs.size + 1) s1.heap.objs.size (Nat.ne_of_lt lta) (Nat.ne_of_lt (Nat.lt_of_lt_of_le lta (Nat.le_add_right _ _))), ⟨⟨.none, he⟩, hit, Nat.succ_ne_self _⟩, fun b hb => ?_, q⟩
    have e' : b = s1.heap.objs.size + 1 ∨ b = s1.heap.objs.size := by simpa using hb
    have hle : s1.heap.objs.size ≤ b := by
      rcases e' with z | z
      · rw [z]; exact Nat.le_add_right _ _
      · rw [z]; exact Nat.le_refl _
    exact I1.fpOk hle (I1.hok.fresh hle)
theorem walk_enumT {K : PySem.W.Frag} {a : Addr} {xs : List V} : Walk (IteT K a) xs.length (fun H => SqT K H a xs) (YPair (fun i => some (.int (i : Nat))) (fun i => xs[i]?)) := by
  refine ⟨fun i _ hi q => ⟨xs, xs[i], q, by simp [hi]⟩, fun _ q => ⟨xs, q, rfl⟩, fun i H v H' _ q y => ?_⟩
  obtain ⟨T, x, h1, h2, h3, h4⟩ := y
  exact ⟨T, .int (i : Nat), x, h1, h2, h3, rfl, h4 xs q⟩
section
variable {U : Ct} {env : Ev0} {W : Ow} {Ψ : D → Ow → Prop} {a b e : Expr} {pos p0 p1 cpos tpos : Pos}
theorem ei_enumT (B : Blt U.X.mg) {elts : List Expr} {kk : Nat} {Ψ : Nat → (Nat → D) → Ow → Prop} (hg : Gl U.X "enumerate") (h : EvA U [e] env W fun ds W1 => ∃ xs, ds = [.p (.tuple xs)] ∧ Ψ xs.length (fun i => .p (.tuple [.int i, xs.getD i .none])) W1) (hs : starEach [e] U.X.env = [(false, eval e U.X.env)] := by rfl) :
    EvI U (.Tuple elts kk tpos) (.Call (.Name "enumerate" p0) [e] [] pos) env W Ψ :=
  fun σ G H eg h0 sl R q => SemI.of (pi_enumT hg B.enumerate pa_sem hs) (h σ G H eg h0 sl _ fun vs G1 H1 ds W1 e1 h1 r1 z1 => by
    obtain ⟨ds', rfl, k⟩ := z1
    cases r1 with
    | cons r1 r2 =>
      cases r2
      cases r1 with
      | @tup a xs _ hl ra =>
        refine ⟨a, xs, rfl, SqT.of (h1.g _ _ hl), q _ _ (fun i => .p (.tuple [.int i, ds'.getD i .none])) G1 H1 W1 _ _ walk_enumT e1 h1 (fun G3 H3 W3 e3 h3 => SqT.of (h3.g _ _ (e3 _ _ hl))) (fun i H3 y H4 G3 W3 hi e3 h3 y4 => ?_) (by rw [ra.len]; exact k)⟩
        obtain ⟨T, v1, v2, rfl, hT, rfl, e4, e5⟩ := y4
        cases e4
        refine ⟨_, h3.ex hT, h3.new hT, ?_⟩
        have rr := (RpAll.mono e3 _ _ ra).nth e5
        exact Rp.tup upd_same (.cons (.int _) (.cons (Rp.mono (h3.ex hT) _ _ rr) .nil)))
end

end Q
namespace Q
open PySem PySem.Spec PyProof.Rows L2
open Evl (Ex)

section
variable {U : Ct} {env : Ev0} {W : Ow} {Ψ : D → Ow → Prop} {Φ : Ke} {e a b c o : Expr} {pos p0 p1 pa : Pos} {es : List Expr} {st : Stmt} {rest body : List Stmt}
/-! ### isinstance with a built-in type -/
def tyN : D → Option String
  | .p .none => some "NoneType"
  | .p (.bool _) => some "bool"
  | .p (.int _) => some "int"
  | .p (.str _) => some "str"
  | .p (.list _) => some "list"
  | .p (.tuple _) => some "tuple"
  | _ => none
theorem tyN_ok {K : PySem.W.Frag} {C : Addr} {G H : Hp} (e : Ex G H) {v : V} {d : D} {t : String} (r : Rep K C G v d) (h : tyN d = some t) : TyX K H v (.type t) := by
  unfold tyN at h
  split at h
  · cases h; cases r; exact .base .non
  · cases h; cases r; exact .base (.bl _)
  · cases h; cases r; exact .base (.int _)
  · cases h; cases r; exact .base (.str _)
  · cases h; cases r with | lst h1 _ => exact .base (.lst (e _ _ h1))
  · cases h; cases r with | tup h1 _ => exact .base (.tup (e _ _ h1))
  · cases h
theorem ev_isi {x : Str} {T : String} (B : Blt U.X.mg) (hg : Gl U.X "isinstance") (hgx : Gl U.X x) (hmx : U.X.mg x = none) (hv : bootBuiltins x = some (.type T)) (h : Ev U e env W fun d W1 => ∃ t b, tyN d = some t ∧ kitB t T = some b ∧ Ψ (.p (.bool b)) W1)
    (hn : x ≠ "__name__" := by decide) (hdb : (x == ("__debug__" : Str)) = false := by decide) (he : starEach [e, .Name x p1] U.X.env = (false, eval e U.X.env) :: starEach [.Name x p1] U.X.env := by rfl) (he2 : starEach [.Name x p1] U.X.env = (false, eval (.Name x p1) U.X.env) :: starEach [] U.X.env := by rfl)
    (hpl : (backTo pos (starEach [.Name x p1] U.X.env)).any (·.1) = false := by rfl) : Ev U (.Call (.Name "isinstance" p0) [e, .Name x p1] [] pos) env W Ψ :=
  .here (pe_callB call_isi hg B.isinstance (by decide +kernel) (pa_cons pe_sem (pa_cons (pe_bltn (v := .ty T) hgx hmx hv rfl hn hdb) pa_nil he2) he) (he := he) (hpl := hpl)) fun σ G H eg h0 sl Q q => h σ G H eg h0 sl _ fun v G1 H1 d W1 e1 h1 r1 z1 => by
    obtain ⟨t, b, ht, hk, k⟩ := z1
    exact ⟨v, .ty T, .type t, .type T, b, rfl, .ty T, tyN_ok h1.g r1 ht, kit_ty hk, q _ G1 H1 (.p (.bool b)) W1 e1 h1 (Rp.bl b) k⟩
/-! ### join -/
theorem ev_join0 {o0 : Str} (h : Ev U e env W fun d W1 => ∃ ys : List Str, d = .p (.list (ys.map .str)) ∧ (ys.map (·.length)).sum + ys.length * o0.length ≤ 16777216 ∧ Ψ (.p (.str (Txt.join o0 ys))) W1) {j} {p2 : Pos}
    (hs : starEach [e] U.X.env = [(false, eval e U.X.env)] := by rfl) (hbase : attributeBase (.Constant (.str o0) j p2) "join" U.X.env (eval (.Constant (.str o0) j p2) U.X.env) = eval (.Constant (.str o0) j p2) U.X.env := by rfl) (hline : (pa.endLine == pos.line) = true := by rfl) :
    Ev U (.Call (.Attribute (.Constant (.str o0) j p2) "join" pa) [e] [] pos) env W Ψ :=
  .here (pe_join pe_str pe_sem hs hbase hline) fun σ G H eg h0 sl Q q => by
    refine ⟨⟨o0, rfl⟩, ?_⟩
    refine h σ G H eg h0 sl _ fun v G1 H1 d W1 e1 h1 r1 z1 => ?_
    obtain ⟨ys, rfl, hz, k⟩ := z1
    cases r1 with
    | lst hl ra =>
      have e2 := ra.strs
      subst e2
      exact ⟨o0, _, ys, rfl, rfl, .inl (SqL.of (h1.g _ _ hl)), hz, q _ G1 H1 (.p (.str _)) W1 e1 h1 (Rp.str _) k⟩
/-! ### raise X(f"..{a}..{b}") of an own class without __init__ -/
theorem ev_fmt (h : Ev U e env W fun d W1 => ∃ i : Int, d = .p (.int i) ∧ i.natAbs.log2 < 1920 ∧ Ψ (.p (.str (toString i))) W1) : Ev U (.FormattedValue e (-1) none pos) env W Ψ :=
  .here (pe_fmt pe_sem) fun σ G H eg h0 sl Q q => by
    show SemE U.X e σ H _
    refine h σ G H eg h0 sl _ fun v G1 H1 d W1 e1 h1 r1 z1 => ?_
    obtain ⟨i, rfl, hz, k⟩ := z1
    cases r1
    exact .inr ⟨i, rfl, hz, q _ G1 H1 (.p (.str _)) W1 e1 h1 (Rp.str _) k⟩
/-- the parts of a text, one behind the other -/
def EvJ (U : Ct) : List Expr → Str → Ev0 → Ow → (Str → Ow → Prop) → Prop
  | [], acc, _, W, Ψ => Ψ acc W
  | e :: es, acc, env, W, Ψ => Ev U e env W fun d W1 => ∃ y : Str, d = .p (.str y) ∧ (acc ++ y).length ≤ sizeLine ∧ EvJ U es (acc ++ y) env W1 Ψ
def semJ (X : Cx) : List Expr → List TE
  | [] => []
  | e :: es => SemE X e :: semJ X es
theorem pj_sem {X : Cx} : ∀ es : List Expr, PJ X es (semJ X es)
  | [] => .nil
  | _ :: es => .cons pe_sem (pj_sem es)
theorem EvJ.run {U : Ct} {env : Ev0} {Ψ : Str → Ow → Prop} : ∀ (es : List Expr) (acc : Str) (W : Ow), EvJ U es acc env W Ψ → ∀ (σ : L2.St) (G H : Hp), Ex U.G G → Hs U.X.K U.C U.T G W H → Slots U.X.K U.C G σ env → ∀ Q : Str → Hp → Prop,
    (∀ y G2 H2 W2, Ex G G2 → Hs U.X.K U.C U.T G2 W2 H2 → Ψ y W2 → Q y H2) → tJs (semJ U.X es) acc σ H Q
  | [], acc, W, h, σ, G, H, eg, hs, sl, Q, q => q acc G H W (Ex.refl G) hs h
  | e :: es, acc, W, h, σ, G, H, eg, hs, sl, Q, q => by
    refine (show Ev U e env W _ from h) σ G H eg hs sl _ fun v G1 H1 d W1 e1 h1 r1 z1 => ?_
    obtain ⟨y, rfl, hz, k⟩ := z1
    cases r1
    exact ⟨y, rfl, hz, EvJ.run es (acc ++ y) W1 k σ G1 H1 (eg.trans e1) h1 (sl.mono e1) Q fun y2 G2 H2 W2 a b z => q y2 G2 H2 W2 (e1.trans a) b z⟩
theorem ev_joined {v1 v2 : Expr} {rest : List Expr} (h : EvJ U (v1 :: v2 :: rest) Str.empty env W fun y W1 => Ψ (.p (.str y)) W1) : Ev U (.JoinedStr (v1 :: v2 :: rest) pos) env W Ψ :=
  .here (pe_joined (pj_sem _)) fun σ G H eg h0 sl Q q => EvJ.run _ _ _ h σ G H eg h0 sl _ fun y G2 H2 W2 a b z => q _ G2 H2 (.p (.str y)) W2 a b (Rp.str y) z
/-- what the text must have for `raise X(e)`: X an own class of errors without __init__ -/
structure ExcP (K : PySem.W.Frag) (P : Program) (w : World) (C : Addr) : Prop where
  q : ∃ (B newId initId : String) (bmB : List Value), ExcBaseFacts B newId initId bmB ∧ PySem.W.excIn K C bmB newId = true
  kp : PySem.W.keepIn K (.ref C) = true
  r : ∀ X : Cx, X.K = K → Raises X (.ref C)
theorem w_raise (ok : U.Ok) {x : Str} {p p2 : Pos} {Cx' : Addr} {xc : Xc} (E : ExcP U.X.K U.X.prog U.X.w Cx') (gC : U.X.mg x = some (.ref Cx')) (hg : Gl U.X x) (hx : ∀ H, XRep U.cN U.cL U.cA U.cT xc (.ref Cx') none H) (h : Ev U e env W fun _ W1 => U.Ξ xc W1)
    (hs : starEach [e] U.X.env = (false, eval e U.X.env) :: starEach [] U.X.env := by rfl) (hdb : (x == ("__debug__" : Str)) = false := by decide) : Wp1 U (.Raise (some (.Call (.Name x p) [e] [] p2)) none pos) env W Φ := by
  obtain ⟨B, ni, ii, bmB, F, q⟩ := E.q
  refine fun σ G H eg h0 sl Dn ke => SemS.of (L2.ps_raise ok.calm ok.tk (SkE.pmk_own1 F q gC E.kp (E.r U.X rfl) hg pe_sem hs hdb)) ?_
  exact h σ G H eg h0 sl _ fun v G1 H1 d W1 e1 h1 r1 z1 => ok.ex xc _ _ G1 H1 W1 (eg.trans e1) h1 (hx H1) z1
end

end Q
namespace Q
open PySem PySem.Spec PyProof.Rows L2
open Evl (Ex)

section
variable {U : Ct} {env : Ev0} {W : Ow} {Ψ : D → Ow → Prop} {Φ : Ke} {e a b c o v : Expr} {pos p0 p1 pa : Pos} {es : List Expr} {st : Stmt} {rest body : List Stmt}
/-! ### attributes of an instance -/
/-- t._rows, t a timetable -/
theorem ev_rows (c : Cls U.X.K U.C) (n : NoAttr U.X.K U.C "_rows") (h : Ev U e env W fun d W1 => ∃ rows, d = .tt rows ∧ Ψ (.p (.tuple (rows.map rowD))) W1) (hb : attributeBase e "_rows" U.X.env (eval e U.X.env) = eval e U.X.env := by rfl) : Ev U (.Attribute e "_rows" pos) env W Ψ :=
  .here (pe_fld pe_sem hb) fun σ G H eg h0 sl Q q => by
    refine h σ G H eg h0 sl _ fun x G1 H1 d W1 e1 h1 r1 z1 => ?_
    obtain ⟨rows, rfl, k⟩ := z1
    obtain ⟨a, dx, t, rfl, hi, rt⟩ := r1
    exact ⟨a, U.C, dx, _, t, rfl, h1.g _ _ hi, c, n, rfl, q t G1 H1 (.p (.tuple _)) W1 e1 h1 rt k⟩
/-- o.f = v, the first attribute of an owned instance -/
theorem w_fld0 {f : Str} (c : Cls U.X.K U.C) (n : NoAttr U.X.K U.C f) (h : Ev U v env W fun d W1 => Ev U o env W1 fun d2 W2 => ∃ (p dx : Addr) (L R : Ow), d2 = .adr p ∧ W2 = L ++ (p, .ins U.C dx []) :: R ∧ Φ.nx env (L ++ (p, .ins U.C dx [(f, d)]) :: R))
    (hs : swapsWith v (some (.Attribute o f pa)) pos.line U.X.env = pure false := by rfl) : Wp1 U (.Assign [.Attribute o f pa] v pos) env W Φ :=
  fun σ G H eg h0 sl Dn ke => SemS.of (ps_fld pe_sem pe_sem hs) (by
    refine h σ G H eg h0 sl _ fun y G1 H1 d W1 e1 h1 r1 z1 => ?_
    refine z1 σ G1 H1 (eg.trans e1) h1 (sl.mono e1) _ fun x G2 H2 d2 W2 e2 h2 r2 z2 => ?_
    obtain ⟨p, dx, L, R, rfl, rfl, k⟩ := z2
    obtain rfl : x = .ref p := r2
    obtain ⟨o1, ho, gs, rfl, hm, _⟩ := h2.at_
    have hg : gs = [] := by cases gs with | nil => rfl | cons _ _ => cases hm
    subst hg
    refine ⟨p, U.C, dx, [], rfl, ho, c, n, by decide, ?_⟩
    exact ke.nx σ G2 _ env _ (e1.trans e2) (h2.put (u' := .ins U.C dx [(f, d)]) ⟨[(f, y)], rfl, rfl, .cons (r1.mono e2) .nil⟩) (sl.mono (e1.trans e2)) k)
/-! ### making a timetable: c(*rows), c the class -/
/-- the promise of an __init__(self, *rows): told of self and of the tuple of what is left over -/
def starSp (sp : Sp) : Sp := fun vs H Q E => ∃ ws rest, vs = ws ++ rest ∧ ws.length = 1 ∧ rest.length ≤ sizeLine ∧ ∀ p, H p = none → sp (ws ++ [V.ref p]) (upd H p (.tup rest)) Q E
theorem make_ok {L : Pl} {Cn : Con} {k : Nat} {f : Addr} (hL : L.Has U) (ok : U.Ok) (M : Mk U.X.K U.C f) (F : FnR L.P L.w L.K L.mg L.base (L2.CX L.P L.w) k f (starSp (spG L Cn))) (hk : k + 1 ≤ U.k) {G H : Hp} {vs : List V} {ds : List PyData} (eg : Ex U.G G) (hs : Hs U.X.K U.C U.T G W H) (ra : RpAll G vs ds) (hz : ds.length ≤ 1000)
    (h : ∀ x dx : Addr, Cn [.adr x, .p (.tuple ds)] ((x, .ins U.C dx []) :: W) (fun d W2 => d = .p .none ∧ ∃ rows W3, W2 = (x, .ins U.C dx [("_rows", .p (.tuple (rows.map rowD)))]) :: W3 ∧ Ψ (.tt rows) W3) fun xc W2 => ∃ W3, W2 = (x, .ins U.C dx []) :: W3 ∧ U.Ξ xc W3) {Q : VK}
    (q : ∀ v G2 H2 d W2, Ex G G2 → Hs U.X.K U.C U.T G2 W2 H2 → U.R G2 v d → Ψ d W2 → Q v H2) {pins : List (Addr × Obj)} {σ : L2.St} {s : Shared} {us : List Value} (I : Inv U.X pins σ H s) (r : Vals vs us) :
    wpAny (model U.X.prog U.X.w) U.X.A (call (.ref U.C) us) (EP U.X pins σ Q) U.X.xe s := by
  have F' : FnR U.X.prog U.X.w U.X.K U.X.mg U.X.base (L2.CX L.P L.w) k f (starSp (spG L Cn)) := by rw [hL.P, hL.w, hL.K, hL.mg, hL.base]; exact F
  refine StX.run_makeR M F' (ok.room.mono hk) (passU hL ok) I r fun x dx hx hdx hne => ?_
  refine ⟨[V.ref x], vs, rfl, rfl, by rw [ra.len]; exact Nat.le_of_lt (small1000 hz), fun p hp => ?_⟩
  -- the instance's dict, the instance, the tuple
  have h1 : Hs U.X.K U.C U.T (upd G dx (.own x)) W (upd H dx (.own x)) := hs.new hdx
  have e1 := hs.ex (o := .own x) hdx
  have hx1 : upd H dx (.own x) x = none := by rw [upd_ne (Ne.symm hne)]; exact hx
  have h2 : Hs U.X.K U.C U.T (upd G dx (.own x)) ((x, .ins U.C dx []) :: W) (upd (upd H dx (.own x)) x (.ins U.C dx [])) := h1.own (u := .ins U.C dx []) hx1 ⟨[], rfl, rfl, .nil⟩
  have h3 := h2.new (o := .tup vs) hp
  have e3 := h2.ex (o := .tup vs) hp
  have rr : RepAll L.K L.C (upd (upd G dx (.own x)) p (.tup vs)) ([V.ref x] ++ [V.ref p]) [.adr x, .p (.tuple ds)] := .cons rfl (.cons (show Rp _ _ _ from Rp.tup upd_same (RpAll.mono (e1.trans e3) _ _ ra)) .nil)
  refine ⟨U.T, _, _, _, _, _, by rw [← hL.K, ← hL.C]; exact h3, rr, h x dx, fun v G2 H2 d W2 e2 h4 r4 z => ?_, fun xc cls dd G2 H2 W2 e2 h4 xr z => ?_⟩
  · rw [← hL.K, ← hL.C] at h4
    obtain ⟨rfl, rows, W3, rfl, k⟩ := z
    cases (show Rp G2 v .none from r4)
    refine ⟨rfl, ?_⟩
    obtain ⟨ox, hox, gs, rfl, hm, hr⟩ := Hs.at_ (W1 := []) h4
    have h5 := Hs.give (W1 := []) h4 hox
    have e5 := Hs.gave (W1 := []) (o := .ins U.C dx gs) h4
    cases gs with
    | nil => cases hm
    | cons g gs =>
      obtain ⟨gf, gv⟩ := g
      cases gs with
      | cons _ _ => cases hm
      | nil =>
        obtain rfl : gf = "_rows" := by simpa using hm
        cases hr with
        | cons r5 _ =>
          refine q _ _ H2 (.tt rows) W3 (((e1.trans e3).trans e2).trans e5) h5 ?_ k
          exact ⟨x, dx, gv, rfl, upd_same, Rp.mono e5 _ _ r5⟩
  · rw [← hL.K, ← hL.C] at h4
    obtain ⟨W3, rfl, k⟩ := z
    obtain ⟨ox, hox, rx⟩ := Hs.at_ (W1 := []) h4
    have h5 := Hs.give (W1 := []) h4 hox
    have e5 := Hs.gave (W1 := []) (o := ox) h4
    exact ok.ex xc cls dd _ H2 W3 (eg.trans (((e1.trans e3).trans e2).trans e5)) h5 (by rw [hL.cN, hL.cL, hL.cA, hL.cT]; exact xr) k

def tMakeS (X : Cx) (C : Addr) (tf te : TE) : TE := fun σ H Q => tf σ H fun y H1 => y = .ref C ∧ te σ H1 fun x H2 => ∃ a xs, x = V.ref a ∧ (SqT X.K H2 a xs ∨ SqL X.K H2 a xs) ∧
  ∀ (pins : List (Addr × Obj)) (s : Shared) (us : List Value), Inv X pins σ H2 s → Vals xs us → wpAny (model X.prog X.w) X.A (call (.ref C) us) (EP X pins σ Q) X.xe s
theorem pe_makeS {X : Cx} {C : Addr} {fe e : Expr} {tf te : TE} {sp_ pos : Pos} (kp : PySem.W.keepIn X.K (.ref C) = true) (hf : PE X fe tf) (he : PE X e te)
    (ht : eval (.Call fe [.Starred e sp_] [] pos) X.env = (do callWith pos (← eval fe X.env) [] (backTo pos (starEach [.Starred e sp_] X.env)) (backToKw pos (keywordEach [] X.env))) := by rfl)
    (hst : starEach [.Starred e sp_] X.env = [(true, eval e X.env)] := by rfl) : PE X (.Call fe [.Starred e sp_] [] pos) (tMakeS X C tf te) := by
  refine ⟨fun pins s σ H Q I h => ?_⟩
  refine Call_ (thn (hf.run pins s σ H _ I h) fun u s1 ⟨y, H1, I1, ry, ey, q⟩ => ?_) ht
  subst ey
  obtain rfl : u = Value.ref C := ry
  refine PySem.W.callWith_S (h₀ := X.base) I.ok.mod.kin kp (thn (he.run pins s1 σ H1 _ I1 q) fun v s2 ⟨x, H2, I2, rx, a, xs, ex, hx, k⟩ => ?_) hst
  subst ex
  obtain rfl : v = Value.ref a := rx
  exact StX.star_any I2 hx fun us s3 I3 rv => ⟨I3.kIn, k pins s3 us I3 rv⟩
theorem ev_makeS {L : Pl} {Cn : Con} {k : Nat} {f : Addr} {fe e : Expr} {sp_ : Pos} (hL : L.Has U) (ok : U.Ok) (M : Mk U.X.K U.C f) (F : FnR L.P L.w L.K L.mg L.base (L2.CX L.P L.w) k f (starSp (spG L Cn))) (hk : k + 1 ≤ U.k)
    (h : Ev U fe env W fun d1 W1 => d1 = .adr U.C ∧ Ev U e env W1 fun d2 W2 => ∃ ds, (d2 = .p (.list ds) ∨ d2 = .p (.tuple ds)) ∧ ds.length ≤ 1000 ∧ ∀ x dx : Addr, Cn [.adr x, .p (.tuple ds)] ((x, .ins U.C dx []) :: W2)
      (fun d W3 => d = .p .none ∧ ∃ rows W4, W3 = (x, .ins U.C dx [("_rows", .p (.tuple (rows.map rowD)))]) :: W4 ∧ Ψ (.tt rows) W4) fun xc W3 => ∃ W4, W3 = (x, .ins U.C dx []) :: W4 ∧ U.Ξ xc W4)
    (ht : eval (.Call fe [.Starred e sp_] [] pos) U.X.env = (do callWith pos (← eval fe U.X.env) [] (backTo pos (starEach [.Starred e sp_] U.X.env)) (backToKw pos (keywordEach [] U.X.env))) := by rfl)
    (hst : starEach [.Starred e sp_] U.X.env = [(true, eval e U.X.env)] := by rfl) : Ev U (.Call fe [.Starred e sp_] [] pos) env W Ψ :=
  .here (pe_makeS M.kp pe_sem pe_sem ht hst) fun σ G H eg h0 sl Q q => by
    refine h σ G H eg h0 sl _ fun y G1 H1 d1 W1 e1 h1 r1 z1 => ?_
    obtain ⟨rfl, z1⟩ := z1
    refine ⟨r1, z1 σ G1 H1 (eg.trans e1) h1 (sl.mono e1) _ fun x G2 H2 d2 W2 e2 h2 r2 z2 => ?_⟩
    obtain ⟨ds, hd, hz, kk⟩ := z2
    have fin : ∀ (a : Addr) (xs : List V), x = .ref a → (SqT U.X.K H2 a xs ∨ SqL U.X.K H2 a xs) → RpAll G2 xs ds → ∃ a xs, x = V.ref a ∧ (SqT U.X.K H2 a xs ∨ SqL U.X.K H2 a xs) ∧
        ∀ (pins : List (Addr × Obj)) (s : Shared) (us : List Value), Inv U.X pins σ H2 s → Vals xs us → wpAny (model U.X.prog U.X.w) U.X.A (call (.ref U.C) us) (EP U.X pins σ Q) U.X.xe s := fun a xs ex hx ra =>
      ⟨a, xs, ex, hx, fun pins s us I r => make_ok hL ok M F hk ((eg.trans e1).trans e2) h2 ra hz kk (fun v G3 H3 d3 W3 e3 h3 r3 z3 => q v G3 H3 d3 W3 ((e1.trans e2).trans e3) h3 r3 z3) I r⟩
    rcases hd with rfl | rfl
    · cases r2 with
      | lst hl ra => exact fin _ _ rfl (.inr (SqL.of (h2.g _ _ hl))) ra
    · cases r2 with
      | tup hl ra => exact fin _ _ rfl (.inl (SqT.of (h2.g _ _ hl))) ra
/-! ### a classmethod, called on the class -/
theorem ev_cmeth {L : Pl} {Cn : Con} {k : Nat} {p g : Addr} {mc : Value} {m : Str} {pl : Sem Bool} (hL : L.Has U) (ok : U.Ok) (r : ClX.CRead U.X.K U.C mc) (c : ClX.CMet U.X.K U.C mc m p g) (F : FnC L k g Cn) (hk : k ≤ U.k)
    (h : Ev U o env W fun d1 W1 => d1 = .adr U.C ∧ EvA U (e :: es) env W1 fun ds W2 => Cn (.adr U.C :: ds) W2 Ψ U.Ξ)
    (hst : starEach (e :: es) U.X.env = (false, eval e U.X.env) :: starEach es U.X.env := by rfl) (hpl : (backTo pos (starEach es U.X.env)).any (·.1) = false := by rfl)
    (ht : eval (.Call (.Attribute o m pa) (e :: es) [] pos) U.X.env = (do
      let ov ← eval o U.X.env
      standAt pa.atName
      let (f, first) ← holding [ov] (getMethod ov m pl)
      callWith pos f first (backTo pos (starEach (e :: es) U.X.env)) (backToKw pos (keywordEach [] U.X.env))) := by rfl) : Ev U (.Call (.Attribute o m pa) (e :: es) [] pos) env W Ψ :=
  .here (ClX.pe_cmeth (E := U.E) pe_sem r c (F.at_ hL) (ok.room.mono hk) (passU hL ok) pa_sem hst hpl ht) fun σ G H eg h0 sl Q q => by
    refine h σ G H eg h0 sl _ fun x G1 H1 d W1 e1 h1 r1 z1 => ?_
    obtain ⟨rfl, z1⟩ := z1
    refine ⟨r1, z1 σ G1 H1 (eg.trans e1) h1 (sl.mono e1) _ fun vs G2 H2 ds W2 e2 h2 r2 z2 => ?_⟩
    exact sp_run hL ok ((eg.trans e1).trans e2) h2 (.cons (d := .adr U.C) (show Rep U.X.K U.C G2 (.ref U.C) (.adr U.C) from rfl) r2) z2 fun v G3 H3 d3 W3 e3 h3 r3 z3 => q v G3 H3 d3 W3 ((e1.trans e2).trans e3) h3 r3 z3
/-! ### an instance, called -/
theorem ev_callO {L : Pl} {Cn : Con} {k : Nat} {g : Addr} {fe : Expr} (hL : L.Has U) (ok : U.Ok) (c : StX.CallO U.X.K U.C g) (F : FnC L k g Cn) (hk : k ≤ U.k)
    (h : Ev U fe env W fun d1 W1 => (∃ rows, d1 = .tt rows) ∧ EvA U (e :: es) env W1 fun ds W2 => Cn (d1 :: ds) W2 Ψ U.Ξ)
    (ht : eval (.Call fe (e :: es) [] pos) U.X.env = (do callWith pos (← eval fe U.X.env) [] (backTo pos (starEach (e :: es) U.X.env)) (backToKw pos (keywordEach [] U.X.env))) := by rfl)
    (he : starEach (e :: es) U.X.env = (false, eval e U.X.env) :: starEach es U.X.env := by rfl) (hpl : (backTo pos (starEach es U.X.env)).any (·.1) = false := by rfl) : Ev U (.Call fe (e :: es) [] pos) env W Ψ :=
  .here (StX.pe_callO (E := U.E) pe_sem c (F.at_ hL) (ok.room.mono hk) (passU hL ok) pa_sem ht he hpl) fun σ G H eg h0 sl Q q => by
    refine h σ G H eg h0 sl _ fun x G1 H1 d W1 e1 h1 r1 z1 => ?_
    obtain ⟨⟨rows, rfl⟩, z1⟩ := z1
    obtain ⟨a, dx, t, rfl, hi, rt⟩ := r1
    refine ⟨a, rfl, z1 σ G1 H1 (eg.trans e1) h1 (sl.mono e1) _ fun vs G2 H2 ds W2 e2 h2 r2 z2 => ⟨.inr ⟨dx, _, h2.g _ _ (e2 _ _ hi)⟩, ?_⟩⟩
    refine sp_run hL ok ((eg.trans e1).trans e2) h2 (.cons (d := .tt rows) ⟨a, dx, t, rfl, e2 _ _ hi, Rp.mono e2 _ _ rt⟩ r2) z2 fun v G3 H3 d3 W3 e3 h3 r3 z3 => q v G3 H3 d3 W3 ((e1.trans e2).trans e3) h3 r3 z3
/-! ### a property -/
theorem getprop_R {X : Cx} {CX : CXT} {C p g a dx : Addr} {k : Nat} {fs : List (Str × V)} {f : Str} {sp : Sp} {E : XK} {pins : List (Addr × Obj)} {σ : L2.St} {H : Hp} {s : Shared} {Q : VK} {b : Bool} {E' : Value → Shared → Prop} (I : Inv X pins σ H s) (ea : H a = some (.ins C dx fs)) (c : Cls X.K C) (hp : PropOf X.K C f p g)
    (F : FnR X.prog X.w X.K X.mg X.base CX k g sp) (hr : Room (k + 1) X.A) (hx : Passes CX X.nox E) (h : sp [.ref a] H Q E) :
    wpAny (model X.prog X.w) X.A (getAttr (.ref a) f b) (EP X pins σ Q) E' s := by
  obtain ⟨mA, O, _, _, _, _⟩ := ins_get I.hok ea
  obtain ⟨od, J, _⟩ := O.look
  obtain ⟨rest, hrec⟩ := hp.rec_
  have I1 := I.tok (s.toks + 1)
  have hc : (PySem.W.clsIn X.K C).isSome = true := by
    obtain ⟨cd, hc, _⟩ := PySem.W.any_some c.hd
    rw [hc]
    rfl
  refine PySem.W.get_bind I.kIn J (PySem.W.plainGet_of (c.get f)).1 (PySem.W.findObj_data hc hp.at_ hp.get hp.tak) (PySem.W.plainGet_of (c.get f)).2 (wpAny_call (PySem.W.prop_get (s := { s with toks := s.toks + 1 }) I.kIn hrec ?_))
  refine codeAny_mono (F X.A.in1 X.stack { s with toks := s.toks + 1 } H [.ref a] [.ref a] Q E hr.in1 I1.env0.in1 (.cons rfl .nil) h) fun r s' hq => ?_
  cases r with
  | error er => exact False.elim (hx pins σ H { s with toks := s.toks + 1 } er s' (I1.wish _) hq)
  | ok fl =>
    cases fl with
    | ret u =>
      obtain ⟨v, H', I3, rv, q3⟩ := I1.after hq
      show wpAny _ _ (handedOut u) _ _ _
      rw [PySem.W.handedOut_of (handed_of rv)]
      exact wpAny_pure ⟨v, H', I3, rv, q3⟩
    | next => exact False.elim hq
    | brk => exact False.elim hq
    | cont => exact False.elim hq
def E0 : XK := fun _ _ _ => False
theorem ev_prop {L : Pl} {Cn : Con} {k : Nat} {p g : Addr} {f : Str} (hL : L.Has U) (ok : U.Ok) (c : Cls U.X.K U.C) (hp : PropOf U.X.K U.C f p g) (F : FnC L k g Cn) (hk : k + 1 ≤ U.k) (h : Ev U e env W fun d W1 => (∃ rows, d = .tt rows) ∧ Cn [d] W1 Ψ fun _ _ => False)
    (hb : attributeBase e f U.X.env (eval e U.X.env) = eval e U.X.env := by rfl) : Ev U (.Attribute e f pos) env W Ψ := by
  intro σ G H eg h0 sl Q q pins s I
  refine attr_of hb (thn (h σ G H eg h0 sl (fun x H1 => ∃ a dx fs, x = .ref a ∧ H1 a = some (.ins U.C dx fs) ∧ spG L Cn [.ref a] H1 Q E0) (fun x G1 H1 d W1 e1 h1 r1 z1 => ?_) pins s I) fun u s1 ⟨x, H1, I1, rx, a, dx, fs, ex, ea, hq⟩ => ?_)
  · obtain ⟨⟨rows, rfl⟩, z1⟩ := z1
    have r1' := r1
    obtain ⟨a, dx, t, rfl, hi, rt⟩ := r1
    refine ⟨a, dx, _, rfl, h1.g _ _ hi, ?_⟩
    exact ⟨U.T, G1, W1, _, Ψ, _, by rw [← hL.K, ← hL.C]; exact h1, .cons (by rw [← hL.K, ← hL.C]; exact r1') .nil, z1, by rw [← hL.K, ← hL.C]; exact fun v G2 H2 d W2 e2 h2 r2 z2 => q v G2 H2 d W2 (e1.trans e2) h2 r2 z2, fun _ _ _ _ _ _ _ _ _ z => z.elim⟩
  · subst ex
    obtain rfl : u = Value.ref a := rx
    have hx : Passes (L2.CX L.P L.w) U.X.nox E0 := by
      rw [← hL.P, ← hL.w]
      exact passes_call (W := fun _ _ _ _ => False) LamX.takes0 fun _ _ _ _ z => z
    exact getprop_R I1 ea c hp (F.at_ hL) (ok.room.mono hk) hx hq
end
/-! ### def __init__(self, *rows) -/
theorem fn_body_star {L : Pl} {x qual pv : Str} {st : Stmt} {f : Addr} {fd : FuncData} {N : List Str} {p1 : Str} {k : Nat} {Cn : Con} (F : Fun L.K x qual st f fd) (S : FnScope N [p1, pv] (defScope st))
    (h0 : ∀ (kV doc pm : Value) (an : Option Addr) (cdv ct : Value) (a : Value), bindArgs (PySem.W.fnOf x qual (defArgs st) (defBody st) (defScope st) .none kV doc pm an cdv ct) ⟨[a], []⟩ = (newTuple [] >>= fun t => pure [(p1, a), (pv, t)]))
    (h1 : ∀ (kV doc pm : Value) (an : Option Addr) (cdv ct : Value) (a r : Value) (rs : List Value), bindArgs (PySem.W.fnOf x qual (defArgs st) (defBody st) (defScope st) .none kV doc pm an cdv ct) ⟨a :: r :: rs, []⟩ = (newTuple (r :: rs) >>= fun t => pure [(p1, a), (pv, t)]))
    (h : ∀ U : Ct, L.Has U → U.Ok → U.k = k → (∃ (f' : Addr) (cd : Value) (A : Around) (outer : List Env) (s : Shared) (H : Hp) (E : XK) (T : List (Addr × Str)) (G : Hp) (Ξ : Xc → Ow → Prop), U = ctOf L N qual (defScope st) f' cd A outer s H E T G Ξ k) →
      ∀ ds W Ψ, Cn ds W Ψ U.Ξ → Wp U (defBody st) (startE N ds) W ⟨fun _ W => Ψ (.p .none) W, Ψ, fun _ _ => False, fun _ _ => False⟩) : FnR L.P L.w L.K L.mg L.base (L2.CX L.P L.w) (k + 1) f (starSp (spG L Cn)) := by
  obtain ⟨oc, od, kV, doc, pm, an, cdv, ct, osl, rfl, lk, hcd⟩ := F.ex
  refine FnR.imp (StX.fn_star (ps := [p1]) (pv := pv) (sp := spG L Cn) lk hcd S StX.cxUp (StX.bind_star1 (B := fun us => bindArgs (PySem.W.fnOf x qual (defArgs st) (defBody st) (defScope st) .none kV doc pm an cdv ct) ⟨us, []⟩) (h0 kV doc pm an cdv ct) (h1 kV doc pm an cdv ct)) fun A outer s H vs Q E hr hsp => ?_) fun vs H Q E z => z
  obtain ⟨T, G, W, ds, Ψ, Ξ, hs, ra, c, q, qe⟩ := hsp
  have z := h (ctOf L N qual (defScope st) f cdv A outer s H E T G Ξ k) has_ct (ct_ok hr S.nd qe) rfl ⟨f, cdv, A, outer, s, H, E, T, G, Ξ, rfl⟩ ds W Ψ c
  refine ⟨_, pss_sem, z (L2.start N vs) G H (Ex.refl G) hs (startE_ok ra) _ ⟨fun σ G2 H2 env W2 e2 h2 s2 k2 => q .non G2 H2 _ W2 e2 h2 (show Rep _ _ _ V.non (.p .none) from Rp.non) k2, fun v G2 H2 d W2 e2 h2 r2 k2 => q v G2 H2 d W2 e2 h2 r2 k2, fun _ _ _ _ _ _ _ _ z => z, fun _ _ _ _ _ _ _ _ z => z⟩⟩

end Q
namespace Q
open PySem PySem.Spec PyProof.Rows L2
open Evl (Ex)

section
variable {U : Ct} {env : Ev0} {W : Ow} {Ψ : D → Ow → Prop} {Φ : Ke} {e a b c o v : Expr} {pos p0 p1 pa : Pos} {es : List Expr} {st : Stmt} {rest body : List Stmt}
theorem ev_nm (i : Nat) {x : Str} {d : D} (k : Ψ d W) (hN : U.X.N[i]? = some x := by rfl) (hv : Vis U.X.env.scope x := by first | exact Or.inl rfl | exact Or.inr (Or.inl rfl) | exact Or.inr (Or.inr rfl)) (he : env[i]? = some (some d) := by rfl)
    (hd : (x == ("__debug__" : Str)) = false := by decide) (hcd : (x == ("__classdict__" : Str)) = false := by decide) : Ev U (.Name x pos) env W Ψ := ev_name i hN hv he k hd hcd
theorem eg_nm (ok : U.Ok) (i : Nat) {x : Str} {d : D} {Ψ : Ev0 → Ow → Prop} (k : Ψ (env.set i (some d)) W) (hi : U.X.N[i]? = some x := by rfl) (hx : Loc U.X.env.scope x := by first | exact Or.inl rfl | exact Or.inr rfl) (hf : U.X.fn x = true ∨ U.X.env.scope.names.lookup x = some .local := by first | exact Or.inl rfl | exact Or.inr rfl) : EvG U [i] (.Name x pos) d env W Ψ := eg_name ok i hi hx hf k
theorem w_st (ok : U.Ok) (i : Nat) {x : Str} {p1 : Pos} (h : Ev U e env W fun d W1 => Φ.nx (env.set i (some d)) W1) (hi : U.X.N[i]? = some x := by rfl) (hx : Loc U.X.env.scope x := by first | exact Or.inl rfl | exact Or.inr rfl)
    (hf : U.X.fn x = true ∨ U.X.env.scope.names.lookup x = some .local := by first | exact .inl rfl | exact .inr rfl) (hs : swapsWith e (some (.Name x p1)) pos.line U.X.env = pure false := by rfl) : Wp1 U (.Assign [.Name x p1] e pos) env W Φ := w_set ok i hi hx h hf hs
/-! ### comparisons as tests -/
theorem et_cmpG {op : CmpOp} {r : R2} {Ψ : Bool → Ow → Prop} (ho : OpR U.X (compareOp op) r) (hm : behindInMarks op b = false) (h : Ev U a env W fun d1 W1 => Ev U b env W1 fun d2 W2 => OpD U r d1 d2 W2 fun d W3 => ∃ k, d = .p (.bool k) ∧ Ψ k W3) : EvT U (.Compare a [op] [b] pos) env W Ψ :=
  fun σ G H eg h0 sl Q q => SemT.of (pt_cmpR ho pe_sem pe_sem hm) (by
    refine h σ G H eg h0 sl _ fun x G1 H1 d1 W1 e1 h1 r1 z1 => ?_
    refine z1 σ G1 H1 (eg.trans e1) h1 (sl.mono e1) _ fun y G2 H2 d2 W2 e2 h2 r2 z2 => ?_
    refine z2 G2 H2 x y ((eg.trans e1).trans e2) h2 (r1.mono e2) r2 _ fun v G3 H3 d W3 e3 h3 r3 z3 => ?_
    obtain ⟨k, rfl, z⟩ := z3
    cases r3
    exact ⟨k, rfl, q k G3 H3 W3 ((e1.trans e2).trans e3) h3 z⟩)
theorem et_cmpI {op : CmpOp} {f : Int → Int → Bool} {Ψ : Bool → Ow → Prop} (ho : OpR U.X (compareOp op) (rI0 fun i j => .bl (f i j))) (hm : behindInMarks op b = false)
    (h : Ev U a env W fun d1 W1 => Ev U b env W1 fun d2 W2 => CmpD f d1 d2 fun r => Ψ r W2) : EvT U (.Compare a [op] [b] pos) env W Ψ := by
  refine et_cmpG ho hm (h.imp fun d1 W1 h1 => h1.imp fun d2 W2 h2 => ?_)
  unfold CmpD at h2
  split at h2
  · exact opd_I0 (f := fun i j => .bool (f i j)) (fun _ => Rp.bl _) ⟨_, rfl, h2⟩
  · exact h2.elim
theorem et_lt {Ψ : Bool → Ow → Prop} (h : Ev U a env W fun d1 W1 => Ev U b env W1 fun d2 W2 => CmpD (fun i j => decide (i < j)) d1 d2 fun r => Ψ r W2) : EvT U (.Compare a [.Lt] [b] pos) env W Ψ := et_cmpI op_lt (nomark _) h
theorem et_le {Ψ : Bool → Ow → Prop} (h : Ev U a env W fun d1 W1 => Ev U b env W1 fun d2 W2 => CmpD (fun i j => decide (i ≤ j)) d1 d2 fun r => Ψ r W2) : EvT U (.Compare a [.LtE] [b] pos) env W Ψ := et_cmpI op_le (nomark _) h
theorem et_gt {Ψ : Bool → Ow → Prop} (h : Ev U a env W fun d1 W1 => Ev U b env W1 fun d2 W2 => CmpD (fun i j => decide (j < i)) d1 d2 fun r => Ψ r W2) : EvT U (.Compare a [.Gt] [b] pos) env W Ψ := et_cmpI op_gt (nomark _) h
theorem et_ge {Ψ : Bool → Ow → Prop} (h : Ev U a env W fun d1 W1 => Ev U b env W1 fun d2 W2 => CmpD (fun i j => decide (j ≤ i)) d1 d2 fun r => Ψ r W2) : EvT U (.Compare a [.GtE] [b] pos) env W Ψ := et_cmpI op_ge (nomark _) h
def TBool : D → (Bool → Prop) → Prop
  | .p (.bool k), q => q k
  | _, _ => False
theorem EqD.map {f : Bool → Bool} {d1 d2 : D} {k k' : D → Prop} (h : EqD f d1 d2 k) (hk : ∀ b, k (.p (.bool b)) → k' (.p (.bool b))) : EqD f d1 d2 k' := by
  unfold EqD at h ⊢
  split at h
  · exact hk _ h
  · exact ⟨h.1, h.2.1, hk _ h.2.2⟩
  · exact h.elim
theorem et_eq (ok : U.Ok) {Ψ : Bool → Ow → Prop} (h : Ev U a env W fun d1 W1 => Ev U b env W1 fun d2 W2 => EqD id d1 d2 fun d => TBool d fun k => Ψ k W2) : EvT U (.Compare a [.Eq] [b] pos) env W Ψ := by
  refine et_cmpG (op_eqD ok.room.units) (nomark _) (h.imp fun d1 W1 h1 => h1.imp fun d2 W2 h2 => ?_)
  intro G H x y eg hs rx ry Q q
  unfold EqD at h2
  split at h2
  · refine ⟨_, _, Rp.dp hs.g _ _ rx, Rp.dp hs.g _ _ ry, shaped_int _, shaped_int _, ?_⟩
    rw [eqv_int]
    exact q _ G H (.p (.bool _)) W2 (Ex.refl G) hs (Rp.bl _) ⟨_, rfl, h2⟩
  · exact ⟨_, _, Rp.dp hs.g _ _ rx, Rp.dp hs.g _ _ ry, h2.1, h2.2.1, q _ G H (.p (.bool _)) W2 (Ex.refl G) hs (Rp.bl _) ⟨_, rfl, h2.2.2⟩⟩
  · exact h2.elim
theorem et_ne (ok : U.Ok) {Ψ : Bool → Ow → Prop} (h : Ev U a env W fun d1 W1 => Ev U b env W1 fun d2 W2 => EqD not d1 d2 fun d => TBool d fun k => Ψ k W2) : EvT U (.Compare a [.NotEq] [b] pos) env W Ψ := by
  refine et_cmpG (op_neD ok.room.units) (nomark _) (h.imp fun d1 W1 h1 => h1.imp fun d2 W2 h2 => ?_)
  intro G H x y eg hs rx ry Q q
  unfold EqD at h2
  split at h2
  · refine ⟨_, _, Rp.dp hs.g _ _ rx, Rp.dp hs.g _ _ ry, shaped_int _, shaped_int _, ?_⟩
    rw [eqv_int]
    exact q _ G H (.p (.bool _)) W2 (Ex.refl G) hs (Rp.bl _) ⟨_, rfl, h2⟩
  · exact ⟨_, _, Rp.dp hs.g _ _ rx, Rp.dp hs.g _ _ ry, h2.1, h2.2.1, q _ G H (.p (.bool _)) W2 (Ex.refl G) hs (Rp.bl _) ⟨_, rfl, h2.2.2⟩⟩
  · exact h2.elim
theorem et_inS {Ψ : Bool → Ow → Prop} (h : Ev U a env W fun d1 W1 => Ev U b env W1 fun d2 W2 => InS d1 d2 fun r => Ψ r W2) (hm : behindInMarks .In b = false := by rfl) : EvT U (.Compare a [.In] [b] pos) env W Ψ := by
  refine et_cmpG op_in_sign hm (h.imp fun d1 W1 h1 => h1.imp fun d2 W2 h2 => ?_)
  intro G H x y eg hs rx ry Q q
  unfold InS at h2
  split at h2
  · cases rx; cases ry
    obtain ⟨c, rfl, k⟩ := h2
    exact ⟨c, _, rfl, rfl, q _ G H (.p (.bool _)) W2 (Ex.refl G) hs (Rp.bl _) ⟨_, rfl, k⟩⟩
  · exact h2.elim
theorem et_isN {j} {p2 : Pos} {Ψ : Bool → Ow → Prop} (h : Ev U a env W fun d1 W1 => Ψ (isNoneD d1) W1) : EvT U (.Compare a [.Is] [.Constant .none j p2] pos) env W Ψ :=
  fun σ G H eg h0 sl Q q => SemT.of (pt_cmpR op_isN pe_sem pe_non (nomark _)) (by
    refine h σ G H eg h0 sl _ fun x G1 H1 d1 W1 e1 h1 r1 z1 => ?_
    exact ⟨rfl, by rw [Rep.non r1]; exact ⟨_, rfl, q _ G1 H1 W1 e1 h1 z1⟩⟩)
theorem et_isnotN {j} {p2 : Pos} {Ψ : Bool → Ow → Prop} (h : Ev U a env W fun d1 W1 => Ψ (!isNoneD d1) W1) : EvT U (.Compare a [.IsNot] [.Constant .none j p2] pos) env W Ψ :=
  fun σ G H eg h0 sl Q q => SemT.of (pt_cmpR op_notN pe_sem pe_non (nomark _)) (by
    refine h σ G H eg h0 sl _ fun x G1 H1 d1 W1 e1 h1 r1 z1 => ?_
    exact ⟨rfl, by rw [Rep.non r1]; exact ⟨_, rfl, q _ G1 H1 W1 e1 h1 z1⟩⟩)
theorem addD_i {a b : Int} {k : D → Prop} (q : k (.p (.int (a + b)))) : AddD (.p (.int a)) (.p (.int b)) k := q
theorem addD_l {a b : List PyData} {k : D → Prop} (h : a.length + b.length ≤ sizeLine) (q : k (.p (.list (a ++ b)))) : AddD (.p (.list a)) (.p (.list b)) k := ⟨h, q⟩
theorem subD {a b : Int} {k : D → Prop} (q : k (.p (.int (a - b)))) : SubD (.p (.int a)) (.p (.int b)) k := q
theorem negD {a : Int} {k : D → Prop} (q : k (.p (.int (-a)))) : NegD (.p (.int a)) k := q
theorem cmpD {f : Int → Int → Bool} {a b : Int} {k : Bool → Prop} (q : k (f a b)) : CmpD f (.p (.int a)) (.p (.int b)) k := q
theorem eqD_i {f : Bool → Bool} {a b : Int} {k : D → Prop} (q : k (.p (.bool (f (decide (a = b)))))) : EqD f (.p (.int a)) (.p (.int b)) k := q
theorem int1_i {a : Int} {k : D → Prop} (q : k (.p (.int a))) : Int1 [.p (.int a)] k := q
theorem int1_b {a : Bool} {k : D → Prop} (q : k (.p (.int (if a then 1 else 0)))) : Int1 [.p (.bool a)] k := q
theorem lenD_l {a : List PyData} {k : D → Prop} (q : k (.p (.int a.length))) : LenD [.p (.list a)] k := q
theorem lenD_t {a : List PyData} {k : D → Prop} (q : k (.p (.int a.length))) : LenD [.p (.tuple a)] k := q
theorem lenD_n {a : List Int} {k : D → Prop} (q : k (.p (.int a.length))) : LenD [.scr a] k := q
theorem two_i {f : Int → Int → Int} {a b : Int} {k : D → Prop} (q : k (.p (.int (f a b)))) : Two f [.p (.int a), .p (.int b)] k := q
theorem listOf_l {a : List PyData} {k : D → Prop} (q : k (.p (.list a))) : ListOf [.p (.list a)] k := q
theorem tupOf_l {a : List PyData} {k : D → Prop} (q : k (.p (.tuple a))) : TupOf [.p (.list a)] k := q
theorem boolD {a : Bool} {k : Bool → Prop} (q : k a) : BoolD (.p (.bool a)) k := q
theorem tbool {a : Bool} {k : Bool → Prop} (q : k a) : TBool (.p (.bool a)) k := q
theorem truD_b {a : Bool} {k : Bool → Prop} (q : k a) : TruD (.p (.bool a)) k := q
theorem truD_i {a : Int} {k : Bool → Prop} (q : k (a != 0)) : TruD (.p (.int a)) k := q
theorem truD_t {a : List PyData} {k : Bool → Prop} (q : k (!a.isEmpty)) : TruD (.p (.tuple a)) k := q
theorem truD_l {a : List PyData} {k : Bool → Prop} (q : k (!a.isEmpty)) : TruD (.p (.list a)) k := q
theorem sl_t {a : List PyData} {lo hi : Option Int} {k : D → Prop} (q : k (.p (.tuple (cutD a lo hi)))) : SlD lo hi (.p (.tuple a)) k := q
theorem sl_l {a : List PyData} {lo hi : Option Int} {k : D → Prop} (q : k (.p (.list (cutD a lo hi)))) : SlD lo hi (.p (.list a)) k := q
theorem rev_l {a : List PyData} {k : D → Prop} (q : k (.p (.list a.reverse))) : RevD (.p (.list a)) k := q
theorem getD_t {a : List PyData} {i : Int} {d : PyData} {k : D → Prop} (h : atI a i = some d) (q : k (.p d)) : GetD (.p (.tuple a)) (.p (.int i)) k := ⟨d, h, q⟩
theorem getD_l {a : List PyData} {i : Int} {d : PyData} {k : D → Prop} (h : atI a i = some d) (q : k (.p d)) : GetD (.p (.list a)) (.p (.int i)) k := ⟨d, h, q⟩
theorem getD_n {a : List Int} {i : Int} {d : Int} {k : D → Prop} (h : atI a i = some d) (q : k (.p (.int d))) : GetD (.scr a) (.p (.int i)) k := ⟨d, h, q⟩
theorem divmodD {a b : Int} {k : D → Prop} (h : 0 < b) (h2 : b < 1073741824) (q : k (.p (.tuple [.int (a / b), .int (a % b)]))) : DivmodD [.p (.int a), .p (.int b)] k := ⟨⟨h, h2⟩, q⟩
theorem str1 {a : Int} {k : D → Prop} (h : a.natAbs.log2 < 1920) (q : k (.p (.str (toString a)))) : Str1 [.p (.int a)] k := ⟨h, q⟩
theorem allP_nil {k : List PyData → Prop} (q : k []) : AllP [] k := q
theorem allP_cons {d : PyData} {ds : List D} {k : List PyData → Prop} (q : AllP ds fun r => k (d :: r)) : AllP (.p d :: ds) k := q
theorem both {a b : Prop} (p : a) (q : b) : a ∧ b := ⟨p, q⟩
theorem branch' {t : Bool} {p q : Prop} (h1 : t = false → p) (h2 : t = true → q) : (t = false → p) ∧ (t = true → q) := ⟨h1, h2⟩
theorem branch {t : Bool} {p q : Prop} (h1 : t = true → p) (h2 : t = false → q) : (t = true → p) ∧ (t = false → q) := ⟨h1, h2⟩
theorem mulD_r {a b : Int} {k : D → Prop} (h : -(2 ^ 64) < b ∧ b < 2 ^ 64) (q : k (.p (.int (a * b)))) : MulD (.p (.int a)) (.p (.int b)) k := ⟨.inr h, q⟩
theorem mulD_l {a b : Int} {k : D → Prop} (h : -(2 ^ 64) < a ∧ a < 2 ^ 64) (q : k (.p (.int (a * b)))) : MulD (.p (.int a)) (.p (.int b)) k := ⟨.inl h, q⟩
theorem divD {a b : Int} {k : D → Prop} (h : 0 < b) (h2 : b.natAbs.log2 < 9000) (q : k (.p (.int (a / b)))) : DivD (.p (.int a)) (.p (.int b)) k := ⟨⟨h, h2⟩, q⟩
theorem modD {a b : Int} {k : D → Prop} (h : 0 < b) (q : k (.p (.int (a % b)))) : ModD (.p (.int a)) (.p (.int b)) k := ⟨h, q⟩
theorem powD {a b : Int} {k : D → Prop} (h : 0 ≤ b) (h2 : b ≤ 1000000) (h3 : a.natAbs < 2 ^ 64) (q : k (.p (.int (a ^ b.toNat)))) : PowD (.p (.int a)) (.p (.int b)) k := ⟨⟨h, h2, h3⟩, q⟩
end

end Q
namespace Q
open PySem PySem.Spec PyProof.Rows L2
open Evl (Ex)

/-! ### list.count, list.index of bools -/
def rCntF (K : PySem.W.Frag) : V → List V → Hp → VK → Prop := fun x xs H Q => ∃ (a : Addr) (ys : List V) (y : V), x = V.ref a ∧ xs = [y] ∧ SqL K H a ys ∧ flatV y = true ∧ ys.all flatV = true ∧ Q (.int (ys.countP (fun z => eqV z y) : Nat)) H
theorem cnt_vals {y : V} : ∀ {ys : List V} {us : List Value}, Vals ys us → ys.all flatV = true → us.countP (eqU y) = ys.countP fun z => eqV z y
  | _, _, .nil, _ => rfl
  | _, _, .cons r t, h => by
    have h1 : flatV _ = true := List.all_eq_true.mp h _ List.mem_cons_self
    have h2 := cnt_vals (y := y) t (List.all_eq_true.mpr fun z hz => List.all_eq_true.mp h z (List.mem_cons_of_mem _ hz))
    rw [List.countP_cons, List.countP_cons, h2, eqU_of r h1]
theorem mt_lcountF {X : Cx} : MtR X "list.count" (rCntF X.K) := by
  intro pins s σ H x xs v us Q I rx rxs h
  obtain ⟨a, ys, y, rfl, rfl, hs, fy, fys, q⟩ := h
  cases rx
  cases rxs with
  | cons ry rt =>
    rename_i uy ut
    cases rt
    obtain ⟨its, rv, ⟨⟨cls, dd, data, sl⟩, n, ho, hc, hdn, hd⟩, hlen⟩ := I.list hs
    simp only at hc hd
    subst hc hd
    refine call_meets PySem.F.slot_list_count ⟨_, ho, rfl⟩ PySem.F.entry_list_count (PySem.F.args_list_count_2 _ _)
      (SeqAt.list_countAt a its.toArray n dd sl uy (eqU y)) ⟨ho, fun u' hu' => mem_eqAt ry fy rv fys u' (by simpa using hu'), ?_⟩
    refine ⟨.int (ys.countP (fun z => eqV z y) : Nat), H, I.tok _, ⟨s.toks, ?_⟩, q⟩
    show Value.int ((its.toArray.toList.countP (eqU y) : Nat) : Int) s.toks = _
    rw [show its.toArray.toList = its by simp, cnt_vals rv fys]
theorem RepAll.boolsO {K : PySem.W.Frag} {C : Addr} {G : Hp} : ∀ {vs : List V} {bs : List Bool}, RepAll K C G vs (bs.map fun b => .p (.bool b)) → vs = bs.map V.bl
  | _, [], h => by cases h; rfl
  | _, b :: bs, h => by
    cases h with
    | cons a t =>
      cases a
      rw [RepAll.boolsO t] <;> rfl
theorem flat_bls : ∀ bs : List Bool, (bs.map V.bl).all flatV = true
  | [] => rfl
  | _ :: bs => by rw [List.map_cons, List.all_cons, flat_bls bs] <;> rfl
theorem cnt_bls : ∀ bs : List Bool, (bs.map V.bl).countP (fun z => eqV z (.bl true)) = bs.count true
  | [] => rfl
  | b :: bs => by
    rw [List.map_cons, List.countP_cons, cnt_bls bs, List.count_cons]
    cases b <;> rfl
section
variable {U : Ct} {env : Ev0} {W : Ow} {Ψ : D → Ow → Prop} {Φ : Ke} {e a b c o v : Expr} {pos p0 p1 pa pc : Pos} {es : List Expr}
/-- o.count(True), o an owned list of bools -/
theorem ev_countB {j p2} (h : Ev U o env W fun d1 W1 => ∃ (p : Addr) (L R : Ow) (bs : List Bool), d1 = .adr p ∧ W1 = L ++ (p, .l (bs.map fun b => .p (.bool b))) :: R ∧ Ψ (.p (.int (bs.count true : Nat))) W1)
    (hbase : attributeBase o "count" U.X.env (eval o U.X.env) = eval o U.X.env := by rfl)
    (hfew : ((backTo pc (starEach [.Constant (.bool true) j p2] U.X.env)).all (fun x => !x.1) && (backToKw pc (keywordEach [] U.X.env)).all (fun x => x.1.isSome)
      && decide (([.Constant (.bool true) j p2] : List Expr).length + ([] : List Keyword).length + (if ([] : List Keyword).isEmpty then 0 else 1) < 30)) = true := by rfl)
    (hline : (pa.endLine == pc.line) = true := by rfl) (hst : starEach [.Constant (.bool true) j p2] U.X.env = (false, eval (.Constant (.bool true) j p2) U.X.env) :: starEach [] U.X.env := by rfl) : Ev U (.Call (.Attribute o "count" pa) [.Constant (.bool true) j p2] [] pc) env W Ψ :=
  .here (pe_bm PySem.F.plainAttrs_list PySem.F.slot_list_count PySem.F.type_list_count mt_lcountF pe_sem (pa_cons pe_bl pa_nil hst) hbase hfew hline hst rfl) fun σ G H eg h0 sl Q q => by
    refine h σ G H eg h0 sl _ fun x G1 H1 d1 W1 e1 h1 r1 z1 => ?_
    obtain ⟨p, L, R, bs, rfl, rfl, z⟩ := z1
    obtain rfl : x = .ref p := r1
    obtain ⟨o1, ho1, xs1, rfl, ra1⟩ := h1.at_
    have e2 := ra1.boolsO
    subst e2
    refine ⟨.inl ⟨rfl, _, SqL.of ho1⟩, ⟨p, _, .bl true, rfl, rfl, SqL.of ho1, rfl, flat_bls bs, ?_⟩⟩
    rw [cnt_bls]
    exact q _ G1 H1 (.p (.int _)) _ e1 h1 (Rp.int _) z
theorem ev_indexB {j p2} (h : Ev U o env W fun d1 W1 => ∃ (p : Addr) (L R : Ow) (bs : List Bool) (i : Nat), d1 = .adr p ∧ W1 = L ++ (p, .l (bs.map fun b => .p (.bool b))) :: R ∧ bs[i]? = some true ∧ (∀ m, m < i → bs[m]? = some false) ∧ Ψ (.p (.int (i : Nat))) W1)
    (hbase : attributeBase o "index" U.X.env (eval o U.X.env) = eval o U.X.env := by rfl)
    (hfew : ((backTo pc (starEach [.Constant (.bool true) j p2] U.X.env)).all (fun x => !x.1) && (backToKw pc (keywordEach [] U.X.env)).all (fun x => x.1.isSome)
      && decide (([.Constant (.bool true) j p2] : List Expr).length + ([] : List Keyword).length + (if ([] : List Keyword).isEmpty then 0 else 1) < 30)) = true := by rfl)
    (hline : (pa.endLine == pc.line) = true := by rfl) (hst : starEach [.Constant (.bool true) j p2] U.X.env = (false, eval (.Constant (.bool true) j p2) U.X.env) :: starEach [] U.X.env := by rfl) : Ev U (.Call (.Attribute o "index" pa) [.Constant (.bool true) j p2] [] pc) env W Ψ :=
  .here (pe_bm PySem.F.plainAttrs_list PySem.F.slot_list_index PySem.F.type_list_index mt_index pe_sem (pa_cons pe_bl pa_nil hst) hbase hfew hline hst rfl) fun σ G H eg h0 sl Q q => by
    refine h σ G H eg h0 sl _ fun x G1 H1 d1 W1 e1 h1 r1 z1 => ?_
    obtain ⟨p, L, R, bs, i, rfl, rfl, hi, hno, z⟩ := z1
    obtain rfl : x = .ref p := r1
    obtain ⟨o1, ho1, xs1, rfl, ra1⟩ := h1.at_
    have e2 := ra1.boolsO
    subst e2
    refine ⟨.inl ⟨rfl, _, SqL.of ho1⟩, ⟨p, _, .bl true, i, .bl true, rfl, rfl, SqL.of ho1, rfl, flat_bls bs, by rw [List.getElem?_map, hi] <;> rfl, rfl, fun m z' hm hz => ?_, ?_⟩⟩
    · rw [List.getElem?_map, hno m hm] at hz
      cases hz
      rfl
    · exact q _ G1 H1 (.p (.int _)) _ e1 h1 (Rp.int _) z
/-! ### in an except clause: calm is not asked -/
theorem w_stN (nd : U.X.N.Nodup) (i : Nat) {x : Str} {p1 : Pos} (h : Ev U e env W fun d W1 => Φ.nx (env.set i (some d)) W1) (hi : U.X.N[i]? = some x := by rfl) (hx : Loc U.X.env.scope x := by first | exact Or.inl rfl | exact Or.inr rfl)
    (hf : U.X.fn x = true ∨ U.X.env.scope.names.lookup x = some .local := by first | exact .inl rfl | exact .inr rfl) (hs : swapsWith e (some (.Name x p1)) pos.line U.X.env = pure false := by rfl) : Wp1 U (.Assign [.Name x p1] e pos) env W Φ :=
  fun σ G H eg h0 sl Dn ke => SemS.of (ps_set nd hi hx pe_sem hs hf) (h σ G H eg h0 sl _ fun v G2 H2 d W2 e2 h2 r2 z => ke.nx _ G2 H2 _ W2 e2 h2 ((sl.mono e2).set r2) z)
/-- isinstance of the error that is handled -/
theorem ev_isiE {ad D0 : Addr} {x : Expr} (hc : CallR U.X (.builtin "isinstance") (rIsE U.X.K D0 ad)) (B : Blt U.X.mg) (hg : Gl U.X "isinstance") (h : EvA U [e, x] env W fun ds W1 => ∃ c b, ds = [.adr ad, .adr c] ∧ PySem.W.kitOne U.X.K (.ref D0) (.ref c) = some b ∧ Ψ (.p (.bool b)) W1)
    (he : starEach [e, x] U.X.env = (false, eval e U.X.env) :: starEach [x] U.X.env := by rfl) (hpl : (backTo pos (starEach [x] U.X.env)).any (·.1) = false := by rfl) : Ev U (.Call (.Name "isinstance" p0) [e, x] [] pos) env W Ψ :=
  .here (pe_callB hc hg B.isinstance (by decide +kernel) pa_sem (he := he) (hpl := hpl)) fun σ G H eg h0 sl Q q => by
    refine h σ G H eg h0 sl _ fun vs G1 H1 ds W1 e1 h1 r1 z1 => ?_
    obtain ⟨c, b, rfl, hk, z⟩ := z1
    cases r1 with
    | cons ra rb =>
      cases rb with
      | cons rb rc =>
        cases rc
        obtain rfl : _ = V.ref ad := ra
        obtain rfl : _ = V.ref c := rb
        exact ⟨.ref c, .ref c, b, rfl, fun u hu => hu, hk, q _ G1 H1 (.p (.bool b)) W1 e1 h1 (Rp.bl b) z⟩
theorem ev_isiET {ad D0 : Addr} {x : Str} {Tn : String} (hc : CallR U.X (.builtin "isinstance") (rIsE U.X.K D0 ad)) (B : Blt U.X.mg) (hg : Gl U.X "isinstance") (hgx : Gl U.X x) (hmx : U.X.mg x = none) (hv : bootBuiltins x = some (.type Tn))
    (h : Ev U e env W fun d W1 => ∃ b, d = .adr ad ∧ PySem.W.kitOne U.X.K (.ref D0) (.type Tn) = some b ∧ Ψ (.p (.bool b)) W1)
    (hn : x ≠ "__name__" := by decide) (hdb : (x == ("__debug__" : Str)) = false := by decide) (he : starEach [e, .Name x p1] U.X.env = (false, eval e U.X.env) :: starEach [.Name x p1] U.X.env := by rfl) (he2 : starEach [.Name x p1] U.X.env = (false, eval (.Name x p1) U.X.env) :: starEach [] U.X.env := by rfl)
    (hpl : (backTo pos (starEach [.Name x p1] U.X.env)).any (·.1) = false := by rfl) : Ev U (.Call (.Name "isinstance" p0) [e, .Name x p1] [] pos) env W Ψ :=
  .here (pe_callB hc hg B.isinstance (by decide +kernel) (pa_cons pe_sem (pa_cons (pe_bltn (v := .ty Tn) hgx hmx hv rfl hn hdb) pa_nil he2) he) (he := he) (hpl := hpl)) fun σ G H eg h0 sl Q q => by
    refine h σ G H eg h0 sl _ fun v G1 H1 d W1 e1 h1 r1 z1 => ?_
    obtain ⟨b, rfl, hk, z⟩ := z1
    obtain rfl : v = V.ref ad := r1
    exact ⟨.ty Tn, .type Tn, b, rfl, fun u hu => hu, hk, q _ G1 H1 (.p (.bool b)) W1 e1 h1 (Rp.bl b) z⟩
end

end Q
namespace Q
open PySem PySem.Spec PyProof.Rows L2
open Evl (Ex)

section
variable {U : Ct} {env : Ev0} {W : Ow} {Ψ : D → Ow → Prop} {Φ : Ke} {e a b c o i v : Expr} {pos p0 p1 pa : Pos} {es : List Expr} {st : Stmt} {rest body : List Stmt}
/-! ### while -/
theorem w_while (ok : U.Ok) (Pv : Ev0 → Ow → Prop) (μ : Ev0 → Nat) (h0 : Pv env W)
    (hs : ∀ env' W', Pv env' W' → EvT U c env' W' fun b W2 => (b = true → Wp U body env' W2 ⟨fun e2 W3 => Pv e2 W3 ∧ μ e2 < μ env', Φ.rt, Φ.nx, fun e2 W3 => Pv e2 W3 ∧ μ e2 < μ env'⟩) ∧ (b = false → Φ.nx env' W2)) :
    Wp1 U (.While c body [] pos) env W Φ := by
  intro σ G H eg hs0 sl Dn ke
  refine SemS.of (ps_while ok.po pt_sem pss_sem) ?_
  refine ⟨fun m σ' H' => ∃ G' W' env', m = μ env' ∧ Ex G G' ∧ Hs U.X.K U.C U.T G' W' H' ∧ Slots U.X.K U.C G' σ' env' ∧ Pv env' W', ⟨_, G, W, env, rfl, Ex.refl _, hs0, sl, h0⟩, ?_⟩
  rintro m σ' H' ⟨G', W', env', rfl, e', h', s', pv⟩
  refine hs env' W' pv σ' G' H' (eg.trans e') h' s' _ fun b G2 H2 W2 e2 h2 z => ?_
  cases b with
  | true =>
    rw [if_pos rfl]
    have e02 := (eg.trans e').trans e2
    refine ⟨fun σ3 H3 => ∃ G3 W3 env3, μ env3 < μ env' ∧ Ex G G3 ∧ Hs U.X.K U.C U.T G3 W3 H3 ∧ Slots U.X.K U.C G3 σ3 env3 ∧ Pv env3 W3, fun σ3 H3 ⟨G3, W3, env3, l, e3, h3, s3, p3⟩ => ⟨_, l, G3, W3, env3, rfl, e3, h3, s3, p3⟩, ?_⟩
    exact z.1 rfl σ' G2 H2 e02 h2 (s'.mono e2) _ ⟨fun σ6 G6 H6 env6 W6 e6 h6 s6 k6 => ⟨G6, W6, env6, k6.2, (e'.trans e2).trans e6, h6, s6, k6.1⟩, fun v G6 H6 d W6 e6 h6 r6 k6 => ke.rt v G6 H6 d W6 ((e'.trans e2).trans e6) h6 r6 k6,
      fun σ6 G6 H6 env6 W6 e6 h6 s6 k6 => ke.nx σ6 G6 H6 env6 W6 ((e'.trans e2).trans e6) h6 s6 k6, fun σ6 G6 H6 env6 W6 e6 h6 s6 k6 => ⟨G6, W6, env6, k6.2, (e'.trans e2).trans e6, h6, s6, k6.1⟩⟩
  | false =>
    rw [if_neg (by simp)]
    exact ke.nx σ' G2 H2 env' W2 (e'.trans e2) h2 (s'.mono e2) (z.2 rfl)
/-! ### the truth of an instance with __bool__ -/
structure BoolO (K : PySem.W.Frag) (C g : Addr) : Prop where
  at_ : PySem.W.findIn K (.ref C) "__bool__" = some (some (.ref g))
  fn : PySem.W.isFn K (.ref g) = true
open PySem.W in
theorem truthy_in {M : Model} {A : Around} {E : Value → Shared → Prop} {s : Shared} {K : PySem.W.Frag} {x C f : Addr} {ox : Obj} {od : Option Obj} {Q : Bool → Shared → Prop} (X : K.In s.heap) (I : InstAt s.heap x ox C od) (hs : findIn K (.ref C) "__bool__" = some (some (.ref f))) (hf : isFn K (.ref f) = true)
    (h : wpAny M A (call (.ref f) [.ref x]) (PySem.W.BoolBack Q) E s) : wpAny M A (truthy (.ref x)) Q E s := by
  unfold truthy
  refine wpAny_bind (m := callSpecial? (.ref x) (Str.ofString "__bool__")) (special_fn X I hs (beq_iff_eq.mp hf) (wpAny_mono h (fun r s' hr => ?_) fun _ _ y => y))
  cases r <;> first | exact hr.elim | skip
  exact wpAny_pure hr
theorem tru_own {X : Cx} {CX : CXT} {C g : Addr} {k : Nat} {sp : Sp} {E : XK} (bo : BoolO X.K C g) (F : FnR X.prog X.w X.K X.mg X.base CX k g sp) (hr : Room k X.A) (hx : Passes CX X E) :
    TruR X (fun x H Q => ∃ a, x = .ref a ∧ StX.InsC X H a C ∧ sp [.ref a] H (fun v H' => ∃ b, v = .bl b ∧ Q b H') E) := by
  intro pins s σ H x v Q I rx h
  obtain ⟨a, rfl, hi, q⟩ := h
  cases rx
  obtain ⟨ox, od, J, hd⟩ := StX.insC_at I hi
  refine truthy_in I.kIn J bo.at_ bo.fn (thn (wpAny_call (run_fnR (us := [.ref a]) (vs := [.ref a]) F hr hx I (.cons rfl .nil) q)) fun u s' ⟨y, H', I', ry, b, eb, qb⟩ => ?_)
  subst eb
  cases ry
  exact ⟨H', I', qb⟩
theorem et_tt {L : Pl} {Cn : Con} {k : Nat} {g : Addr} {Ψ : Bool → Ow → Prop} (hL : L.Has U) (ok : U.Ok) (bo : BoolO U.X.K U.C g) (F : FnC L k g Cn) (hk : k ≤ U.k)
    (h : Ev U e env W fun d W1 => (∃ rows, d = .tt rows) ∧ Cn [d] W1 (fun d2 W2 => ∃ b, d2 = .p (.bool b) ∧ Ψ b W2) U.Ξ)
    (he : ∀ whole, isTrue e U.X.env whole = (do let v ← whole; standAt e.pos; holding [v] (truthy v)) := by intro _; rfl) : EvT U e env W Ψ := fun σ G H eg h0 sl Q q =>
  SemT.of (pt_truthR pe_sem (tru_own bo (F.at_ hL) (ok.room.mono hk) (passU hL ok)) he) (h σ G H eg h0 sl _ fun x G1 H1 d W1 e1 h1 r1 z1 => by
    obtain ⟨⟨rows, rfl⟩, z1⟩ := z1
    have r1' := r1
    obtain ⟨a, dx, t, rfl, hi, rt⟩ := r1
    refine ⟨a, rfl, .inr ⟨dx, _, h1.g _ _ hi⟩, sp_run hL ok (eg.trans e1) h1 (.cons (d := .tt rows) r1' .nil) z1 fun v G2 H2 d2 W2 e2 h2 r2 z2 => ?_⟩
    obtain ⟨b, rfl, z2⟩ := z2
    cases (show Rp _ _ _ from r2)
    exact ⟨b, rfl, q b G2 H2 W2 (e1.trans e2) h2 z2⟩)
/-! ### x += n -/
theorem w_aug (ok : U.Ok) (i : Nat) {x : Str} {p1 : Pos} (h : ∃ a : Int, env[i]? = some (some (.p (.int a))) ∧ Ev U e env W fun d W1 => ∃ b : Int, d = .p (.int b) ∧ Φ.nx (env.set i (some (.p (.int (a + b))))) W1)
    (hi : U.X.N[i]? = some x := by rfl) (hx : Loc U.X.env.scope x := by first | exact Or.inl rfl | exact Or.inr rfl) (hf : U.X.fn x = true ∨ U.X.env.scope.names.lookup x = some .local := by first | exact .inl rfl | exact .inr rfl) : Wp1 U (.AugAssign (.Name x p1) .Add e pos) env W Φ := fun σ G H eg h0 sl Dn ke =>
  SemS.of (ps_aug ok.nd hi hx pe_sem ip_add hf) (by
    obtain ⟨a, he, h⟩ := h
    obtain ⟨v, hv, rv⟩ := sl.2 i _ he
    cases (show Rp _ _ _ from rv)
    refine ⟨_, hv, h σ G H eg h0 sl _ fun y G1 H1 d W1 e1 h1 r1 z1 => ?_⟩
    obtain ⟨b, rfl, k⟩ := z1
    cases (show Rp _ _ _ from r1)
    exact ⟨a, b, rfl, rfl, ke.nx _ G1 H1 _ W1 e1 h1 ((sl.mono e1).set (d := .p (.int (a + b))) (show Rp _ _ _ from Rp.int _)) k⟩)
/-! ### dicts of numbers -/
def dset (f : Int → Option Int) (x y : Int) : Int → Option Int := fun z => if z = x then some y else f z
theorem ev_dnew (h : ∀ p : Addr, Ψ (.adr p) ((p, .d 0 fun _ => none) :: W)) : Ev U (.Dict [] [] pos) env W Ψ :=
  .here pe_dnewK fun σ G H eg h0 sl Q q p hp => q _ G _ (.adr p) _ (Ex.refl G) (h0.own (u := .d 0 fun _ => none) hp ⟨[], rfl, Nat.le_refl _, fun _ => rfl⟩) (show V.ref p = .ref p from rfl) (h p)
theorem unit1 (ok : U.Ok) : U.X.A.units + 1 < cLine := by have := ok.room.units; omega
theorem w_dput (ok : U.Ok) {p2 : Pos} (h : Ev U v env W fun d0 W0 => Ev U o env W0 fun d1 W1 => Ev U i env W1 fun d2 W2 => ∃ (p : Addr) (x y : Int) (n : Nat) (f : Int → Option Int) (L R : Ow), d0 = .p (.int y) ∧ d1 = .adr p ∧ d2 = .p (.int x) ∧ W2 = L ++ (p, .d n f) :: R ∧ n ≤ 1000000 ∧ Φ.nx env (L ++ (p, .d (n + 1) (dset f x y)) :: R))
    (hs : swapsWith v (some (.Subscript o i p2)) pos.line U.X.env = pure false := by rfl) : Wp1 U (.Assign [.Subscript o i p2] v pos) env W Φ := fun σ G H eg h0 sl Dn ke =>
  SemS.of (ps_dput (unit1 ok) pe_sem pe_sem pe_sem hs) (h σ G H eg h0 sl _ fun x0 G1 H1 d0 W1 e1 h1 r1 z1 => z1 σ G1 H1 (eg.trans e1) h1 (sl.mono e1) _ fun x1 G2 H2 d1 W2 e2 h2 r2 z2 =>
    z2 σ G2 H2 ((eg.trans e1).trans e2) h2 (sl.mono (e1.trans e2)) _ fun x2 G3 H3 d2 W3 e3 h3 r3 z3 => by
      obtain ⟨p, x, y, n, f, L, R, rfl, rfl, rfl, rfl, hn, k⟩ := z3
      cases (show Rp _ _ _ from r1)
      cases (show Rp _ _ _ from r3)
      obtain rfl : x1 = .ref p := r2
      obtain ⟨ob, ho, kvs, rfl, hl, hf⟩ := h3.at_
      refine ⟨p, _, rfl, DPut.k (k := .inl x) ho (Nat.lt_of_le_of_lt (Nat.le_trans hl hn) (by rw [sizeLine_eq]; decide)), ?_⟩
      refine ke.nx σ G3 _ env _ ((e1.trans e2).trans e3) (h3.put (u' := .d (n + 1) (dset f x y)) ⟨_, rfl, Nat.le_trans (length_putK _ _ _) (by omega), fun z => ?_⟩) (sl.mono ((e1.trans e2).trans e3)) k
      rw [valV_put]
      unfold dset
      by_cases hz : z = x
      · subst hz; rw [if_pos rfl, if_pos rfl] <;> rfl
      · rw [if_neg (fun q => hz (Sum.inl.inj q)), if_neg hz]; exact hf z)
/-- an owned dict is data from here on -/
theorem wp_giveD {sts : List Stmt} (i : Nat) {p : Addr} {L R : Ow} {n : Nat} {f : Int → Option Int} (he : env[i]? = some (some (.adr p))) (h : Wp U sts (env.set i (some (.dct f))) (L ++ R) Φ) : Wp U sts env (L ++ (p, .d n f) :: R) Φ := by
  intro σ G H eg hs sl Dn ke
  obtain ⟨o, ho, kvs, rfl, hl, hf⟩ := hs.at_
  have ex := hs.gave (o := .dK kvs)
  obtain ⟨v, hv, rv⟩ := sl.2 i _ he
  obtain rfl : v = .ref p := rv
  have s2 : Slots U.X.K U.C (upd G p (.dK kvs)) σ (env.set i (some (.dct f))) := by
    have z := (sl.mono ex).set (i := i) (v := .ref p) (d := .dct f) ⟨p, kvs, rfl, upd_same, hf⟩
    have e : σ.set i (some (V.ref p)) = σ := by
      refine List.ext_getElem? fun j => ?_
      by_cases hj : i = j
      · subst hj
        have hl : i < σ.length := (List.getElem?_eq_some_iff.mp hv).1
        rw [List.getElem?_set_self hl, hv]
      · rw [List.getElem?_set_ne hj]
    rw [e] at z
    exact z
  exact h σ _ H (eg.trans ex) (hs.give ho) s2 Dn (ke.mono ex)
def optD : Option Int → PyData
  | none => .none
  | some i => .int i
/-- d.get(x) -/
theorem ev_dget (ok : U.Ok) (h : Ev U o env W fun d1 W1 => (∃ f, d1 = .dct f) ∧ Ev U e env W1 fun d2 W2 => ∃ f x, d1 = .dct f ∧ d2 = .p (.int x) ∧ Ψ (.p (optD (f x))) W2)
    (m1 : attributeBase o "get" U.X.env (eval o U.X.env) = eval o U.X.env := by rfl)
    (m2 : ((backTo pos (starEach [e] U.X.env)).all (fun x => !x.1) && (backToKw pos (keywordEach [] U.X.env)).all (fun x => x.1.isSome) && decide (([e] : List Expr).length + ([] : List Keyword).length + (if ([] : List Keyword).isEmpty then 0 else 1) < 30)) = true := by rfl)
    (m3 : (pa.endLine == pos.line) = true := by rfl) (m4 : backTo pos (starEach [e] U.X.env) = [(false, eval e U.X.env)] := by rfl) : Ev U (.Call (.Attribute o "get" pa) [e] [] pos) env W Ψ :=
  .here (pe_dget1 (unit1 ok) pe_sem pe_sem ⟨m1, m2, m3, m4⟩) fun σ G H eg h0 sl Q q => h σ G H eg h0 sl _ fun x1 G1 H1 d1 W1 e1 h1 r1 z1 => by
    obtain ⟨⟨f, rfl⟩, z1⟩ := z1
    obtain ⟨a, kvs, rfl, ha, hf⟩ := r1
    refine ⟨a, rfl, .inl ⟨kvs, .inl (h1.g _ _ ha)⟩, z1 σ G1 H1 (eg.trans e1) h1 (sl.mono e1) _ fun x2 G2 H2 d2 W2 e2 h2 r2 z2 => ?_⟩
    obtain ⟨f', x, hff, rfl, k⟩ := z2
    cases hff
    cases (show Rp _ _ _ from r2)
    refine ⟨_, DGet.k (k := .inl x) (h2.g _ _ (e2 _ _ ha)), ?_⟩
    rw [hf x]
    have e12 := e1.trans e2
    cases hx : f x with
    | none => rw [hx] at k; exact q .non G2 H2 (.p .none) W2 e12 h2 (show Rp _ _ _ from Rp.non) k
    | some y => rw [hx] at k; exact q (.int y) G2 H2 (.p (.int y)) W2 e12 h2 (show Rp _ _ _ from Rp.int y) k
/-! ### [x for .. if test]: a test that changes nothing -/
theorem lc_if {elt tg iter t : Expr} {scope : Scope} {own : List (Str × Nat)} {js : List Nat}
    (h : EvI U tg iter env W fun n item W1 => ∃ (E2 : Nat → Ev0) (B : Nat → Bool) (f : Nat → PyData), n ≤ 1000000 ∧
      (∀ (s : Shared) (H : Hp) (C : Addr) (cl : List (Str × Addr)) (fp : List Addr) (i : Nat) (Wi : Ow), i < n → EvG (U.blk s H scope C cl fp) js tg (item i) (wipeE env (own.map (·.2))) Wi fun env2 W2 => env2 = E2 i ∧ W2 = Wi) ∧
      (∀ (s : Shared) (H : Hp) (C : Addr) (cl : List (Str × Addr)) (fp : List Addr) (i : Nat) (Wi : Ow), i < n → EvT (U.blk s H scope C cl fp) t (E2 i) Wi fun b W2 => b = B i ∧ W2 = Wi) ∧
      (∀ (s : Shared) (H : Hp) (C : Addr) (cl : List (Str × Addr)) (fp : List Addr) (i : Nat) (Wi : Ow), i < n → B i = true → Ev (U.blk s H scope C cl fp) elt (E2 i) Wi fun d W4 => d = .p (f i) ∧ W4 = Wi) ∧
      Ψ (.p (.list (((List.range n).filter B).map f))) W1) : LcOk U elt tg iter [t] scope own js env W Ψ := by
  refine fun σ G H eg h0 sl R q => h σ G H eg h0 sl R fun J n item G2 H2 W2 Gd Y wk e2 h2 hGd hY z => q J n item G2 H2 W2 Gd Y wk e2 h2 hGd hY ?_
  obtain ⟨E2, B, f, hn, htg, hts, hel, fin⟩ := z
  refine ⟨fun i acc Wi => acc = ((List.range i).filter B).map f ∧ Wi = W2, E2, B, hn, ⟨rfl, rfl⟩, htg, hts, fun s H C cl fp i acc Wi Dl hi pv hb => (hel s H C cl fp i _ hi hb).imp fun d W4 z => ?_, fun i acc Wi hi pv hb => ?_, fun acc W3 _ pv => ?_⟩
  · obtain ⟨rfl, rfl⟩ := z
    obtain ⟨rfl, rfl⟩ := pv
    refine ⟨f i, _, rfl, rfl, ?_, rfl⟩
    rw [List.range_succ, List.filter_append, List.map_append]
    simp [hb]
  · obtain ⟨rfl, rfl⟩ := pv
    refine ⟨?_, rfl⟩
    rw [List.range_succ, List.filter_append, List.map_append]
    simp [hb]
  · obtain ⟨rfl, rfl⟩ := pv
    exact fin
end

end Q
namespace Q
open PySem PySem.Spec PyProof.Rows L2
open Evl (Ex)

section
variable {U : Ct} {env : Ev0} {W : Ow} {Ψ : D → Ow → Prop} {Φ : Ke} {e a b c o i v : Expr} {pos p0 p1 pa : Pos} {es : List Expr} {st : Stmt} {rest body : List Stmt}
/-! ### lcm -/
def rLcm : List V → Hp → VK → Prop := fun vs H Q => ∃ a b : Nat, vs = [.int a, .int b] ∧ a < 2 ^ 15 ∧ b < 2 ^ 15 ∧ Q (.int ((Nat.lcm a b : Nat) : Int)) H
theorem lcm_le (a b : Nat) : Nat.lcm a b ≤ a * b := Nat.div_le_self _ _
theorem cr_lcm {X : Cx} : CallR X (.builtin "math.lcm") rLcm := by
  intro pins s σ H vs us Q I r h
  obtain ⟨a, b, rfl, ha, hb, q⟩ := h
  obtain ⟨t, u, rfl⟩ := Vals.int2 r
  have e : (Nat.lcm 1 (Int.natAbs (a : Int))).lcm (Int.natAbs (b : Int)) = Nat.lcm a b := by rw [Int.natAbs_natCast, Int.natAbs_natCast, Nat.lcm_one_left]
  have hl : Nat.lcm a b < 2 ^ 31 := Nat.lt_of_le_of_lt (lcm_le a b) (Nat.lt_of_le_of_lt (Nat.mul_le_mul (Nat.le_of_lt ha) (Nat.le_of_lt hb)) (by decide))
  refine PySem.W.mg_lcm (by rw [Int.natAbs_natCast]; exact Nat.lt_trans ha (by decide)) (by rw [Int.natAbs_natCast]; exact Nat.lt_trans hb (by decide)) ?_ ?_
  · rw [e, Int.natAbs_natCast]
    have h2 := PySem.W.mg_log (n := Nat.lcm a b) (k := 30) hl
    exact Nat.lt_of_le_of_lt h2 (by decide +kernel)
  · rw [e]
    exact ⟨.int _, H, I.tok _, ⟨_, rfl⟩, q⟩
theorem ev_lcm (hg : Gl U.X "lcm") (hm : U.X.mg "lcm" = some (.builtin "math.lcm")) (h : EvA U [a, b] env W fun ds W1 => ∃ i j : Nat, ds = [.p (.int i), .p (.int j)] ∧ i < 2 ^ 15 ∧ j < 2 ^ 15 ∧ Ψ (.p (.int (Nat.lcm i j : Nat))) W1)
    (he : starEach [a, b] U.X.env = (false, eval a U.X.env) :: starEach [b] U.X.env := by rfl) (hpl : (backTo pos (starEach [b] U.X.env)).any (·.1) = false := by rfl) : Ev U (.Call (.Name "lcm" p0) [a, b] [] pos) env W Ψ :=
  .here (pe_callBfun cr_lcm hg hm pa_sem (by decide) he hpl) fun σ G H eg h0 sl Q q => h σ G H eg h0 sl _ fun vs G1 H1 ds W1 e1 h1 r1 z1 => by
    obtain ⟨i, j, rfl, hi, hj, k⟩ := z1
    cases r1 with
    | cons r1 r2 =>
      cases r2 with
      | cons r2 r3 =>
        cases r3
        cases (show Rp _ _ _ from r1)
        cases (show Rp _ _ _ from r2)
        exact ⟨i, j, rfl, hi, hj, q _ G1 H1 (.p (.int _)) W1 e1 h1 (show Rp _ _ _ from Rp.int _) k⟩
/-! ### len of an instance with __len__ -/
structure LenO (K : PySem.W.Frag) (C g : Addr) : Prop where
  at_ : PySem.W.findIn K (.ref C) "__len__" = some (some (.ref g))
  fn : PySem.W.isFn K (.ref g) = true
open PySem.W in
theorem len_in {prog : Program} {w : World} {A : Around} {E : Value → Shared → Prop} {s : Shared} {K : PySem.W.Frag} {x C f : Addr} {ox : Obj} {od : Option Obj} {Q : Value → Shared → Prop} (X : K.In s.heap) (I : InstAt s.heap x ox C od) (hs : findIn K (.ref C) "__len__" = some (some (.ref f))) (hf : isFn K (.ref f) = true)
    (h : wpAny (model prog w) A.in1 (call (.ref f) [.ref x]) (PySem.W.LenBack Q) E s) : wpAny (model prog w) A (call (.builtin "len") [.ref x]) Q E s := by
  refine Calls.call_function_entry kind_len plain_len entry_len (args_len1 _) ?_
  unfold Builtin.«len»
  refine wpAny_bind (m := oneArg "len" _) (wpAny_pure ?_)
  refine wpAny_bind (m := callSpecial? (.ref x) (Str.ofString "__len__")) (special_fn X I hs (beq_iff_eq.mp hf) (wpAny_mono h (fun r s' hr => ?_) fun _ _ y => y))
  cases r <;> first | exact hr.elim | skip
  rename_i n u
  obtain ⟨⟨h0, h1⟩, hq⟩ := hr
  refine wpAny_bind (wpAny_holding (wpAny_pure ?_))
  refine wpAny_bind (wpAny_letGo ?_)
  show wpAny _ _ (if n < 0 then _ else _) _ _ _
  rw [if_neg (by omega)]
  show wpAny _ _ (if n ≥ 2 ^ 63 then _ else _) _ _ _
  rw [if_neg (by omega)]
  exact wpAny_bind (wpAny_mkInt (wpAny_pure ⟨_, rfl, hq⟩))
def rLenO (CX : CXT) (K : PySem.W.Frag) (C : Addr) (sp : Sp) : List V → Hp → VK → Prop := fun vs H Q => ∃ a dx fs, vs = [.ref a] ∧ H a = some (.ins C dx fs) ∧ sp [.ref a] H (fun v H' => ∃ n : Int, v = .int n ∧ 0 ≤ n ∧ n < 2 ^ 63 ∧ Q (.int n) H') E0
theorem cr_lenO {X : Cx} {CX : CXT} {C g : Addr} {k : Nat} {sp : Sp} (lo : LenO X.K C g) (F : FnR X.prog X.w X.K X.mg X.base CX k g sp) (hr : Room (k + 1) X.A) (hx : Passes CX X.nox E0) : CallR X (.builtin "len") (rLenO CX X.K C sp) := by
  intro pins s σ H vs us Q I r h
  obtain ⟨a, dx, fs, rfl, ea, q⟩ := h
  cases r with
  | cons r1 r2 =>
    cases r2
    cases r1
    obtain ⟨mA, O, _⟩ := ins_get I.hok ea
    obtain ⟨od, J, _⟩ := O.look
    refine len_in I.kIn J lo.at_ lo.fn (wpAny_call ?_)
    refine codeAny_mono (F X.A.in1 X.stack s H [.ref a] [.ref a] _ E0 hr.in1 I.env0.in1 (.cons rfl .nil) q) fun r s' hq => ?_
    cases r with
    | error er => exact False.elim (hx pins σ H s er s' (I.wish _) hq)
    | ok fl =>
      cases fl with
      | ret u =>
        obtain ⟨v, H', I3, rv, n, rfl, n0, n1, q3⟩ := I.after hq
        obtain ⟨t, rfl⟩ := rv
        exact ⟨⟨n0, n1⟩, .int n, H', I3.tok _, ⟨_, rfl⟩, q3⟩
      | next => exact False.elim hq
      | brk => exact False.elim hq
      | cont => exact False.elim hq
theorem ev_lenT {L : Pl} {Cn : Con} {k : Nat} {g : Addr} (hL : L.Has U) (ok : U.Ok) (B : Blt U.X.mg) (lo : LenO U.X.K U.C g) (F : FnC L k g Cn) (hk : k + 1 ≤ U.k) (hg : Gl U.X "len")
    (h : EvA U [e] env W fun ds W1 => (∃ rows, ds = [.tt rows]) ∧ Cn ds W1 (fun d2 W2 => ∃ n : Int, d2 = .p (.int n) ∧ 0 ≤ n ∧ n < 2 ^ 63 ∧ Ψ (.p (.int n)) W2) fun _ _ => False)
    (he : starEach [e] U.X.env = (false, eval e U.X.env) :: starEach [] U.X.env := by rfl) : Ev U (.Call (.Name "len" p0) [e] [] pos) env W Ψ := by
  have hx : Passes (L2.CX L.P L.w) U.X.nox E0 := by
    rw [← hL.P, ← hL.w]
    exact passes_call (W := fun _ _ _ _ => False) LamX.takes0 fun _ _ _ _ z => z
  refine ev_callB (cr_lenO lo (F.at_ hL) (ok.room.mono hk) hx) hg B.len (by decide +kernel) (h.imp fun ds W1 z => ?_) (he := he) (hpl := rfl)
  intro G H vs eg hs ra Q q
  obtain ⟨⟨rows, rfl⟩, z⟩ := z
  cases ra with
  | cons r1 r2 =>
    cases r2
    have r1' := r1
    obtain ⟨a, dx, t, rfl, hi, rt⟩ := r1
    refine ⟨a, dx, _, rfl, hs.g _ _ hi, ?_⟩
    exact ⟨U.T, G, W1, _, _, fun _ _ => False, by rw [← hL.K, ← hL.C]; exact hs, .cons (by rw [← hL.K, ← hL.C]; exact r1') .nil, z, by
      rw [← hL.K, ← hL.C]
      intro v G2 H2 d W2 e2 h2 r2 z2
      obtain ⟨n, rfl, n0, n1, k⟩ := z2
      cases (show Rp _ _ _ from r2)
      exact ⟨n, rfl, n0, n1, q _ G2 H2 _ W2 e2 h2 r2 k⟩, fun _ _ _ _ _ _ _ _ _ z => z.elim⟩
/-! ### range(i, j, -1) -/
theorem ei_rngDn (B : Blt U.X.mg) {tg : Expr} {Ψ : Nat → (Nat → D) → Ow → Prop} (hg : Gl U.X "range") (h : EvA U [a, b, c] env W fun ds W1 => ∃ i j : Int, ds = [.p (.int i), .p (.int j), .p (.int (-1))] ∧ -(2 ^ 62) ≤ i ∧ i < 2 ^ 62 ∧ -(2 ^ 62) ≤ j ∧ j < 2 ^ 62 ∧ Ψ (i - j).toNat (fun k => .p (.int (i - k))) W1)
    (hs : starEach [a, b, c] U.X.env = (false, eval a U.X.env) :: starEach [b, c] U.X.env := by rfl) (hpl : (backTo pos (starEach [b, c] U.X.env)).any (·.1) = false := by rfl) : EvI U tg (.Call (.Name "range" p0) [a, b, c] [] pos) env W Ψ :=
  fun σ G H eg h0 sl R q => SemI.of (pi_range3 hg B.range pa_sem hs hpl) (h σ G H eg h0 sl _ fun x G1 H1 d1 W1 e1 h1 r1 z1 => by
    obtain ⟨i, j, rfl, i0, i1, j0, j1, k⟩ := z1
    cases r1 with
    | cons r1 r2 =>
      cases r2 with
      | cons r2 r3 =>
        cases r3 with
        | cons r3 r4 =>
          cases r4
          cases (show Rp _ _ _ from r1)
          cases (show Rp _ _ _ from r2)
          cases (show Rp _ _ _ from r3)
          refine ⟨i, j, -1, (i - j).toNat, rfl, RgC.neg i0 i1 j0 j1, q _ _ (fun k => .p (.int (i - k))) G1 H1 W1 _ _ walk_rangeC e1 h1 (fun _ _ _ _ _ => True.intro) (fun m H3 y H4 G3 W3 hm e3 h3 y4 => ?_) k⟩
          obtain ⟨rfl, hy⟩ := y4
          subst hy
          refine ⟨G3, Ex.refl _, h3, ?_⟩
          show Rp G3 (.int (i + (m : Nat) * (-1))) (.int (i - m))
          rw [show i + ((m : Nat) : Int) * (-1) = i - m by omega]
          exact Rp.int _)
end

end Q
namespace Q
open PySem PySem.Spec PyProof.Rows L2
open Evl (Ex)

section
variable {U : Ct} {env : Ev0} {W : Ow} {Ψ : D → Ow → Prop} {Φ : Ke} {e a b c o i v : Expr} {pos p0 p1 pa : Pos} {es : List Expr} {st : Stmt} {rest body : List Stmt}
/-- max of a list of numbers -/
theorem ev_max1 (ok : U.Ok) (B : Blt U.X.mg) (hg : Gl U.X "max") (h : EvA U [e] env W fun ds W1 => ∃ ns : List Int, ds = [.p (.list (ns.map .int))] ∧ 0 < ns.length ∧ ∀ m, m ∈ ns → (∀ y, y ∈ ns → y ≤ m) → Ψ (.p (.int m)) W1) (he : starEach [e] U.X.env = (false, eval e U.X.env) :: starEach [] U.X.env := by rfl) : Ev U (.Call (.Name "max" p0) [e] [] pos) env W Ψ :=
  ev_callB (cr_max ok.calm) hg B.max (by decide +kernel) (h.imp fun ds W1 z => by
    intro G H vs eg hs ra Q q
    obtain ⟨ns, rfl, hn, k⟩ := z
    cases ra with
    | cons r1 r2 =>
      cases r2
      cases r1 with
      | lst hl rr => exact ⟨_, ns, rfl, by rw [← rr.ints]; exact SqL.of (hs.g _ _ hl), hn, fun m h1 h2 => q _ G H (.p (.int _)) _ (Ex.refl G) hs (Rp.int _) (k m h1 h2)⟩) (he := he) (hpl := rfl)
/-- a, b, c = x, y, z -/
theorem w_par3 (ok : U.Ok) (i j l : Nat) {x y z : Str} {px py pz pt : Pos} {kt k2 pt2} (hi : U.X.N[i]? = some x) (hj : U.X.N[j]? = some y) (hl : U.X.N[l]? = some z) (hij : i ≠ j) (hil : i ≠ l) (hjl : j ≠ l)
    (hx : U.X.env.scope.names.lookup x = some .local) (hy : U.X.env.scope.names.lookup y = some .local) (hz : U.X.env.scope.names.lookup z = some .local)
    (h : EvA U [a, b, c] env W fun ds W1 => ∃ d1 d2 d3, ds = [d1, d2, d3] ∧ Φ.nx (((env.set i (some d1)).set j (some d2)).set l (some d3)) W1)
    (hw : swappedStores [.Tuple [.Name x px, .Name y py, .Name z pz] kt pt] (.Tuple [a, b, c] k2 pt2) U.X.env = pure (some [x, y, z]) := by rfl)
    (hs : swapsWithSole [.Tuple [.Name x px, .Name y py, .Name z pz] kt pt] (.Tuple [a, b, c] k2 pt2) pos.line U.X.env = pure false := by rfl) : Wp1 U (.Assign [.Tuple [.Name x px, .Name y py, .Name z pz] kt pt] (.Tuple [a, b, c] k2 pt2) pos) env W Φ :=
  fun σ G H eg h0 sl Dn ke => SemS.of (ps_par3 ok.calm ok.nd hi hj hl hij hil hjl hx hy hz pa_sem hw hs) (h σ G H eg h0 sl _ fun vs G2 H2 ds W2 e2 h2 r2 zz => by
    obtain ⟨d1, d2, d3, rfl, k⟩ := zz
    cases r2 with
    | cons r1 r3 =>
      cases r3 with
      | cons r3 r4 =>
        cases r4 with
        | cons r5 r6 =>
          cases r6
          exact ⟨_, _, _, rfl, ke.nx _ G2 H2 _ W2 e2 h2 ((((sl.mono e2).set r1).set r3).set r5) k⟩)
/-- d[x], a dict of numbers that is data -/
theorem ev_dix (ok : U.Ok) (h : Ev U o env W fun d1 W1 => Ev U i env W1 fun d2 W2 => ∃ f x y, d1 = .dct f ∧ d2 = .p (.int x) ∧ f x = some y ∧ Ψ (.p (.int y)) W2) (hs : NoSl i := by exact fun _ _ => rfl) : Ev U (.Subscript o i pos) env W Ψ :=
  .here (pe_dget (unit1 ok) pe_sem pe_sem hs) fun σ G H eg h0 sl Q q => h σ G H eg h0 sl _ fun x1 G1 H1 d1 W1 e1 h1 r1 z1 =>
    z1 σ G1 H1 (eg.trans e1) h1 (sl.mono e1) _ fun x2 G2 H2 d2 W2 e2 h2 r2 z2 => by
      obtain ⟨f, x, y, rfl, rfl, hf, k⟩ := z2
      obtain ⟨a, kvs, rfl, ha, hv⟩ := r1
      cases (show Rp _ _ _ from r2)
      refine ⟨a, .int y, rfl, ?_, q _ G2 H2 (.p (.int y)) W2 (e1.trans e2) h2 (show Rp _ _ _ from Rp.int y) k⟩
      have e := hv x
      rw [hf] at e
      exact (show some (V.int y) = (some y).map V.int from rfl) ▸ e ▸ DGet.k (k := .inl x) (h2.g _ _ (e2 _ _ ha))
/-- a tuple behind a tuple -/
theorem ev_addT (h : Ev U a env W fun d1 W1 => Ev U b env W1 fun d2 W2 => ∃ xs ys, d1 = .p (.tuple xs) ∧ d2 = .p (.tuple ys) ∧ xs.length + ys.length ≤ sizeLine ∧ Ψ (.p (.tuple (xs ++ ys))) W2) : Ev U (.BinOp a .Add b pos) env W Ψ := by
  refine ev_bin op_catA (h.imp fun d1 W1 h1 => h1.imp fun d2 W2 h2 => ?_)
  intro G H x y eg hs rx ry Q q
  obtain ⟨xs, ys, rfl, rfl, hz, k⟩ := h2
  cases (show Rp G x (.tuple xs) from rx) with
  | tup h1 r1 =>
    cases (show Rp G y (.tuple ys) from ry) with
    | tup h3 r3 =>
      refine ⟨_, _, _, _, rfl, rfl, SqT.of (hs.g _ _ h1), SqT.of (hs.g _ _ h3), by rw [r1.len, r3.len]; exact hz, fun e => ?_, fun e1 e2 => ?_, fun e1 e2 p hp => ?_⟩
      · subst e
        cases r1
        exact q _ G H (.p (.tuple ys)) W2 (Ex.refl G) hs (show Rp _ _ _ from Rp.tup h3 r3) k
      · subst e2
        cases r3
        rw [List.append_nil] at k
        exact q _ G H (.p (.tuple xs)) W2 (Ex.refl G) hs (show Rp _ _ _ from Rp.tup h1 r1) k
      · exact q _ _ _ (.p (.tuple _)) W2 (hs.ex hp) (hs.new hp) (show Rp _ _ _ from Rp.tup upd_same ((RpAll.mono (hs.ex hp) _ _ r1).app (RpAll.mono (hs.ex hp) _ _ r3))) k
/-- range(i, j) -/
theorem ei_rng2 (B : Blt U.X.mg) {tg : Expr} {Ψ : Nat → (Nat → D) → Ow → Prop} (hg : Gl U.X "range") (h : EvA U [a, b] env W fun ds W1 => ∃ i j : Int, ds = [.p (.int i), .p (.int j)] ∧ (-(2 ^ 62) ≤ i ∧ i < 2 ^ 62 ∧ -(2 ^ 62) ≤ j ∧ j < 2 ^ 62) ∧ Ψ (j - i).toNat (fun k => .p (.int (i + (k : Nat)))) W1)
    (hst : starEach [a, b] U.X.env = [(false, eval a U.X.env), (false, eval b U.X.env)] := by rfl) (hst2 : starEach [b] U.X.env = [(false, eval b U.X.env)] := by rfl) : EvI U tg (.Call (.Name "range" p0) [a, b] [] pos) env W Ψ :=
  fun σ G H eg h0 sl R q => SemI.of (pi_range2 hg B.range pa_sem hst hst2) (h σ G H eg h0 sl _ fun x G1 H1 d1 W1 e1 h1 r1 z1 => by
    obtain ⟨i, j, rfl, rg, k⟩ := z1
    cases r1 with
    | cons r1 r2 =>
      cases r2 with
      | cons r2 r3 =>
        cases r3
        cases (show Rp _ _ _ from r1)
        cases (show Rp _ _ _ from r2)
        refine ⟨i, j, rfl, rg, q _ _ (fun k => .p (.int (i + (k : Nat)))) G1 H1 W1 _ _ walk_range e1 h1 (fun _ _ _ _ _ => True.intro) (fun m H3 y H4 G3 W3 hm e3 h3 y4 => ?_) k⟩
        obtain ⟨rfl, hy⟩ := y4
        subst hy
        exact ⟨G3, Ex.refl _, h3, show Rp G3 (.int (i + (m : Nat))) (.int (i + (m : Nat))) from Rp.int _⟩)
end

end Q
namespace Q
open PySem PySem.Spec PyProof.Rows L2
open Evl (Ex)

/-! ### for .. in a generator's body -/
theorem seg_For {M : Model} {A : Around} {R : GenEnd} {Y : Protocol} {n : Nat} {s₀ : Shared} {c : Code} {fs : List Frame} {s : Shared} {env : Env} {K : Flow → Sem PySem.Fin} {H : Value → Sem PySem.Fin} {gd : Bool → Bool} {lv : List Value → List Value} {tg iter : Expr} {body orelse : List Stmt} {pos : Pos}
    (hs : ∀ x, foldedSetIterable iter env x = pure x)
    (h : wpAny M (A.over c fs) (eval iter env) (fun x s1 => wpAny M (A.over c fs) (pyIter x) (fun it s2 => ∀ p lv', Seg M A R Y n s₀ (.forLoop tg it body orelse env) (M.den (.forLoop tg it body orelse env))
      (.ret (fun r => ((match r with | .ok f => (.pure f : Sem Flow) | .error e => .raise e).onRaise fun (x : Value) => do
        if (← field x 1) == Value.none then unsupported "frame.own-activation:exception-without-traceback"
        setFlight x env.frame).wrap K H gd lv) none (gd false) lv' c p [] :: fs) s2) (fun x s' => Seg M A R Y n s₀ c (H x) fs s') s1) (fun x s' => Seg M A R Y n s₀ c (H x) fs s') s) :
    Seg M A R Y n s₀ c ((exec (.For tg iter body orelse pos) env).wrap K H gd lv) fs s := by
  rw [exec_For]
  refine seg_bind_wrap (wpAny_standAt ?_)
  refine seg_bind_wrap (wpAny_mono h (fun x s1 h1 => ?_) fun _ _ e => e)
  refine seg_bind_wrap (wpAny_of_eq (hs x) ?_)
  refine seg_bind_wrap (wpAny_standAt ?_)
  refine seg_bind_wrap (wpAny_holding (wpAny_mono h1 (fun it s2 h2 => ?_) fun _ _ e => e))
  exact seg_call fun p => h2 p _
def tGFor (wi : TI) (g : TG) (tb : TGn) : TGn := fun D ys σ H => wi σ H fun J H1 => ∃ W : Nat → Nat → List V → L2.St → Hp → Prop, (∃ m, W 0 m ys σ H1) ∧ ∀ i m ys σ H, W i m ys σ H →
  (J.stop i H ∧ D.nx ys σ H) ∨ (J.go i H ∧ ∃ N : List V → L2.St → Hp → Prop, (∀ ys' σ' H', N ys' σ' H' → ∃ m', m' < m ∧ W (i + 1) m' ys' σ' H') ∧ ∀ x H', J.yld i H x H' → g x σ H' fun σ2 H2 => tb { D with nx := N, ct := N, bk := D.nx } ys σ2 H2)
theorem gs_for {X : Cx} {tg iter : Expr} {body : List Stmt} {wi : TI} {gg : TG} {tb : TGn} {pos : Pos} (hp : PassesOwn (model X.prog X.w) X.A X.env X.xe) (hc : X.calm = true) (hi : PI X tg iter wi) (hg : PG X tg gg) (hb : GSs X body tb)
    (hs : ∀ x, foldedSetIterable iter X.env x = pure x := by intro _; rfl) : GS X (.For tg iter body [] pos) (tGFor wi gg tb) := by
  refine ⟨fun A S ip R n ys s₀ c fs K J gd lv s σ H D g hn k hI ht => ?_⟩
  obtain ⟨acc0, cc0, r0, I0⟩ := hI
  refine seg_For hs ?_
  rw [g.over]
  refine wpAny_mono (hi.run _ s σ H _ I0 ht) (fun v s1 h1 => wpAny_mono h1 (fun itv s2 h2 => ?_) fun x s' hx => k.exc n s₀ x s' hx) fun x s' hx => k.exc n s₀ x s' hx
  obtain ⟨it, fp, tn, Jt, H2, e, I2, T, st2, f2, W, ⟨m0, w0⟩, turn⟩ := h2
  subst e
  intro p lv'
  have gl := fun (kk : Result → Sem PySem.Fin) => gc_loop (k := kk) (c' := .forLoop tg (.ref it) body [] X.env) (l := lv') (kp := []) (p := p) g rfl rfl
  have fS : ∀ b ∈ fp, b ≠ S := fun b hb e => (f2 b hb).2.2.2.2.2 (S, lstObj acc0 cc0) (List.mem_append_right _ List.mem_cons_self) e.symm
  have stat : ∀ {H' : Hp} {acc : Array Value} {cc : Nat}, (∀ b ∈ fp, H' b = none) → ∀ b ∈ fp, FpOk X ((S, lstObj acc cc) :: ip) H' b := fun hn b hb => by
    obtain ⟨_, a2, a3, a4, a5, a6⟩ := f2 b hb
    refine ⟨hn b hb, a2, a3, a4, a5, fun q hq => ?_⟩
    rcases List.mem_append.mp hq with z | z
    · exact a6 q (List.mem_append_left _ z)
    · rcases List.mem_cons.mp z with z | z
      · rw [z]; exact fun e => fS b hb e.symm
      · exact a6 q (List.mem_append_right _ (List.mem_cons_of_mem _ z))
  have loop : ∀ (m i n : Nat) (ys : List V) (s₀ s : Shared) (σ : L2.St) (H : Hp), n + ys.length = sizeLine → W i m ys σ H → tn i s.heap → (∀ b ∈ fp, H b = none) → GI X S ip ys σ H s →
      Seg (model X.prog X.w) A R (GY X S) n s₀ (.forLoop tg (.ref it) body [] X.env) ((model X.prog X.w).den (.forLoop tg (.ref it) body [] X.env))
        (.ret (fun r => ((match r with | .ok f => (.pure f : Sem Flow) | .error e => .raise e).onRaise (cameBack X.env)).wrap K J gd lv) none (gd false) lv' c p [] :: fs) s := by
    intro m
    induction m using Nat.strongRecOn with
    | ind m ih =>
      intro i n ys s₀ s σ H hn w st fr hI
      have ee : ∀ (n : Nat) (s₀ : Shared) (x : Value) (s' : Shared), X.xe x s' → Seg (model X.prog X.w) A R (GY X S) n s₀ (.forLoop tg (.ref it) body [] X.env)
          ((do noteFrame x X.env; theTreesLotGoes x : Sem Unit).bind fun _ => (.raise x : Sem PySem.Fin))
          (.ret (fun r => ((match r with | .ok f => (.pure f : Sem Flow) | .error e => .raise e).onRaise (cameBack X.env)).wrap K J gd lv) none (gd false) lv' c p [] :: fs) s' := fun n s₀ x s' hx => by
        rw [Sem.bind_eq_wrap]
        refine seg_wrap ?_
        rw [(gl _).over]
        refine wpAny_bind (wpAny_mono (hp x s' hx) (fun _ s'' hcb => wpAny_theTreesLotGoes ?_) fun y s'' hcb => ?_)
        · exact seg_leaf (.error x) (seg_cameBack g k hcb)
        · exact seg_leaf (.error y) (seg_cameBack g k hcb)
      obtain ⟨acc, cc, r, I⟩ := hI
      show Seg _ A R (GY X S) n s₀ _ ((forTurn tg (.ref it) body [] X.env).onRaise (fun x => do noteFrame x X.env; theTreesLotGoes x)) _ s
      unfold forTurn
      rw [Sem.onRaise_eq_wrap]
      refine seg_bind_wrap (wpAny_standAt ?_)
      refine seg_bind_wrap ?_
      rw [(gl _).over]
      rcases turn i m ys σ H w with ⟨stop, qn⟩ | ⟨go, N, hN, step⟩
      · refine wpAny_onRaise (wpAny_mono (T.done X rfl rfl rfl hc i _ s σ H X.xe I (stat fr) st stop) (fun rr s4 ⟨hr, I4⟩ => ?_) fun x s' hx => wpAny_standAt (ee n s₀ x s' hx))
        subst hr
        refine seg_again (c' := .block [] X.env) rfl ?_
        exact seg_leaf (.ok .next) (k.ok n ys s₀ s4 .next hn ⟨σ, H, ⟨acc, cc, r, I4⟩, qn⟩)
      · refine wpAny_onRaise (wpAny_mono (T.item X rfl rfl rfl hc i _ s σ H X.xe I (stat fr) st go) (fun rr s4 ⟨u, hr, h4⟩ => ?_) fun x s' hx => wpAny_standAt (ee n s₀ x s' hx))
        subst hr
        refine seg_bind_wrap ?_
        rw [(gl _).over]
        refine wpAny_mono h4 (fun _ s5 ⟨x, H5, I5, r5, y5, st5, fr5⟩ => ?_) fun x s' hx => ee n s₀ x s' hx
        have I5' := I5.pinned (stat fr5) (T.obj _ _ st5)
        refine seg_bind_wrap ?_
        rw [(gl _).over]
        refine wpAny_mono (hg.run _ s5 σ H5 x u _ I5' r5 (step x H5 y5)) (fun _ s6 ⟨σ6, H6, I6, q6⟩ => ?_) fun x s' hx => ee n s₀ x s' hx
        rw [Sem.bind_eq_wrap', Sem.wrap_wrap]
        have gcb : GC X S (ip ++ pinsAt fp s5.heap) A (.forLoop tg (.ref it) body [] X.env) (.ret (fun r => ((match r with | .ok f => (.pure f : Sem Flow) | .error e => .raise e).onRaise (cameBack X.env)).wrap K J gd lv) none (gd false) lv' c p [] :: fs) id :=
          { gl _ with
            ip := fun q hq => by
              rcases List.mem_append.mp hq with z | z
              · exact g.ip q z
              · exact fS q.1 (of_pinsAt z).1 }
        refine hb.run A S (ip ++ pinsAt fp s5.heap) R n ys s₀ _ _ _ _ id id s6 σ6 H6 { D with nx := N, ct := N, bk := D.nx } gcb hn ⟨fun n' ys' s₀' s7 f hn' hs' => ?_, fun n' s₀' x s7 hx => ee n' s₀' x s7 hx⟩ ⟨acc, cc, r, I6⟩ q6
        have un : ∀ {ys : List V} {σ7 : L2.St} {H7 : Hp}, GI X S (ip ++ pinsAt fp s5.heap) ys σ7 H7 s7 → GI X S ip ys σ7 H7 s7 ∧ tn (i + 1) s7.heap ∧ ∀ b ∈ fp, H7 b = none := fun {ys σ7 H7} hI7 => by
          obtain ⟨acc7, cc7, r7, I7⟩ := hI7
          refine ⟨⟨acc7, cc7, r7, Inv.unpinned (pl := pinsAt fp s5.heap) I7⟩, T.keep _ _ _ st5 fun b hb o e => ?_, fun b hb => ?_⟩
          · exact (I7.pin (b, o) (List.mem_append_right _ (List.mem_cons_of_mem _ (List.mem_append_right _ (mem_pinsAt hb e))))).1
          · obtain ⟨o, e, d⟩ := T.obj _ _ st5 b hb
            exact (I7.pin (b, o) (List.mem_append_right _ (List.mem_cons_of_mem _ (List.mem_append_right _ (mem_pinsAt hb e))))).2.1
        cases f with
        | next =>
          obtain ⟨σ7, H7, I7, n7⟩ := hs'
          obtain ⟨m', hm, w7⟩ := hN ys' σ7 H7 n7
          obtain ⟨a1, a2, a3⟩ := un I7
          exact seg_again rfl (ih m' hm (i + 1) n' ys' s₀' s7 σ7 H7 hn' w7 a2 a3 a1)
        | cont =>
          obtain ⟨σ7, H7, I7, n7⟩ := hs'
          obtain ⟨m', hm, w7⟩ := hN ys' σ7 H7 n7
          obtain ⟨a1, a2, a3⟩ := un I7
          exact seg_again rfl (ih m' hm (i + 1) n' ys' s₀' s7 σ7 H7 hn' w7 a2 a3 a1)
        | brk =>
          obtain ⟨σ7, H7, I7, q7⟩ := hs'
          exact seg_leaf (.ok .next) (k.ok n' ys' s₀' s7 .next hn' ⟨σ7, H7, (un I7).1, q7⟩)
        | ret v =>
          obtain ⟨x7, σ7, H7, I7, rv, q7⟩ := hs'
          exact seg_leaf (.ok (.ret v)) (k.ok n' ys' s₀' s7 (.ret v) hn' ⟨x7, σ7, H7, (un I7).1, rv, q7⟩)
  exact loop m0 0 n ys s₀ s2 σ H2 hn w0 st2 (fun b hb => (f2 b hb).1) ⟨acc0, cc0, r0, I2⟩

end Q
namespace Q
open PySem PySem.Spec PyProof.Rows L2
open Evl (Ex)

section
variable {U : Ct} {env : Ev0} {W : Ow} {Ψ : D → Ow → Prop} {Φ : Ke} {e a b c o i v : Expr} {pos p0 p1 pa : Pos} {es : List Expr} {st : Stmt} {rest body : List Stmt}
/-! ### a list that a comprehension makes and that is owned behind it -/
def LcOkO (U : Ct) (elt tg iter : Expr) (ifs : List Expr) (scope : Scope) (own : List (Str × Nat)) (js : List Nat) (env : Ev0) (W : Ow) (Ψ : D → Ow → Prop) : Prop :=
    EvI U tg iter env W fun n item W1 => ∃ (Pv : Nat → List PyData → Ow → Prop) (E2 : Nat → Ev0) (B : Nat → Bool), n ≤ 1000000 ∧ Pv 0 [] W1 ∧
      (∀ (s : Shared) (H : Hp) (C : Addr) (cl : List (Str × Addr)) (fp : List Addr) (i : Nat) (Wi : Ow), i < n → EvG (U.blk s H scope C cl fp) js tg (item i) (wipeE env (own.map (·.2))) Wi fun env2 W2 => env2 = E2 i ∧ W2 = Wi) ∧
      (∀ (s : Shared) (H : Hp) (C : Addr) (cl : List (Str × Addr)) (fp : List Addr) (i : Nat) (Wi : Ow), i < n → EvTs (U.blk s H scope C cl fp) ifs (E2 i) Wi fun t W2 => t = B i ∧ W2 = Wi) ∧
      (∀ (s : Shared) (H : Hp) (C : Addr) (cl : List (Str × Addr)) (fp : List Addr) (i : Nat) (acc : List PyData) (Wi : Ow) (Dl : Addr), i < n → Pv i acc Wi → B i = true →
        Ev (U.blk s H scope C cl fp) elt (E2 i) ((Dl, .l (acc.map .p)) :: Wi) fun d W4 => ∃ pd W5, d = .p pd ∧ W4 = (Dl, .l (acc.map .p)) :: W5 ∧ Pv (i + 1) (acc ++ [pd]) W5) ∧
      (∀ (i : Nat) (acc : List PyData) (Wi : Ow), i < n → Pv i acc Wi → B i = false → Pv (i + 1) acc Wi) ∧
      ∀ acc W2 (Dl : Addr), acc.length ≤ n → Pv n acc W2 → Ψ (.adr Dl) ((Dl, .l (acc.map .p)) :: W2)
theorem LcOkO.reading {elt tg iter : Expr} {ifs : List Expr} {scope : Scope} {own : List (Str × Nat)} {js : List Nat} (hjs : ∀ j ∈ js, j ∈ own.map (·.2)) (h : LcOkO U elt tg iter ifs scope own js env W Ψ) :
    ∀ (σ : L2.St) (G H : Hp), Ex U.G G → Hs U.X.K U.C U.T G W H → Slots U.X.K U.C G σ env → ∀ Q : VK, (∀ v G2 H2 d W2, Ex G G2 → Hs U.X.K U.C U.T G2 W2 H2 → U.R G2 v d → Ψ d W2 → Q v H2) →
      tLc (SemI U.X tg iter) (gB U scope tg) (ttB U scope ifs) (teB U scope elt) (own.map (·.2)) σ H Q := by
  intro σ G H eg h0 sl Q q
  refine h σ G H eg h0 sl _ fun J n item G2 H2 W2 Gd Y wk e2 h2 hGd hY z => ?_
  obtain ⟨Pv, E2, B, hn, p0, htg, hts, hel, hno, fin⟩ := z
  intro Dl hD
  have sl2 := sl.mono e2
  refine lc_it (g := gB U scope tg) (tt := ttB U scope ifs) (te := teB U scope elt) (vs := own.map (·.2)) (σ := σ) (Qd := fun H => Q (.ref Dl) H) wk (fun i H' => ∃ G' W' acc, Ex G2 G' ∧ Hs U.X.K U.C U.T G' ((Dl, .l (acc.map .p)) :: W') H' ∧ acc.length ≤ i ∧ Pv i acc W') ⟨G2, W2, [], Ex.refl _, h2.own (u := .l []) hD ⟨[], rfl, .nil⟩, Nat.le_refl _, p0⟩ ?_ ?_ ?_
  · rintro i H' _ ⟨G', W', acc, e', h', _, _⟩
    exact hGd G' H' _ e' h'
  · rintro i x H3 H4 hi ⟨G', W', acc, e', h', hl, pv⟩ y
    obtain ⟨G4, e4, h4, r4⟩ := hY i H3 x H4 G' _ hi e' h' y
    intro s Hb C cl fp
    have sl4 := ((sl2.mono e').mono e4).wipe (own.map (·.2))
    have eg4 := ((eg.trans e2).trans e').trans e4
    refine htg s Hb C cl fp i _ hi _ G4 H4 x eg4 h4 sl4 r4 _ fun σ5 G5 H5 env5 W5 e5 h5 s5 f5 z5 => ?_
    obtain ⟨ee, ew⟩ := z5
    subst ee ew
    refine ⟨wipe_same f5.1 fun i hi => f5.2 i fun hj => hi (hjs i hj), fun s1 Hb1 C1 cl1 fp1 => ?_⟩
    have eg5 := eg4.trans e5
    refine EvTs.run (U := U.blk s1 Hb1 scope C1 cl1 fp1) (hts s1 Hb1 C1 cl1 fp1 i _ hi) eg5 h5 s5 fun b G6 H6 W6 e6 h6 z6 => ?_
    obtain ⟨eb, ew⟩ := z6
    subst ew
    by_cases hb : b = true
    · rw [if_pos hb]
      intro s2 Hb2 C2 cl2 fp2
      refine hel s2 Hb2 C2 cl2 fp2 i acc W' Dl hi pv (eb ▸ hb) σ5 G6 H6 (eg5.trans e6) h6 (s5.mono e6) _ fun v G7 H7 d W7 e7 h7 r7 z7 => ?_
      obtain ⟨pd, W8, ed, ew, pv2⟩ := z7
      subst ed ew
      obtain ⟨o, ho, xs, eo, ra⟩ := Hs.at_ (W1 := []) h7
      rw [eo] at ho
      have hxl : xs.length = acc.length := by rw [ra.len, List.length_map]
      refine ⟨xs, ho, by rw [hxl]; exact Nat.lt_of_lt_of_le (show acc.length < 10000000 by omega) (by rw [sizeLine_eq]; decide), G7, W8, acc ++ [pd], ((e'.trans e4).trans e5).trans (e6.trans e7), ?_, by rw [List.length_append]; simp; omega, pv2⟩
      exact Hs.put (W1 := []) (u' := .l ((acc ++ [pd]).map .p)) h7 ⟨xs ++ [v], rfl, by rw [List.map_append]; exact ra.app (.cons r7 .nil)⟩
    · rw [if_neg hb]
      have hb' : B i = false := by rw [← eb]; simpa using hb
      exact ⟨G6, W', acc, ((e'.trans e4).trans e5).trans e6, h6, by omega, hno i acc W' hi pv hb'⟩
  · rintro H' ⟨G', W', acc, e', h', hl, pv⟩
    exact q _ G' H' (.adr Dl) _ (e2.trans e') h' rfl (fin acc W' Dl hl pv)
theorem w_setLcO (ok : U.Ok) (i : Nat) {x : Str} {p1 ps : Pos} {elt tg iter : Expr} {ifs : List Expr} {scope : Scope} (own : List (Str × Nat)) (js : List Nat) (hi : U.X.N[i]? = some x) (hl : U.X.env.scope.names.lookup x = some .local) (hjs : ∀ j ∈ js, j ∈ own.map (·.2)) (bok : BlkOk U.X.N U.X.env.scope scope own) (hif : ifs.length ≤ 1)
    (hsw : swapsWith (.ListComp elt [⟨tg, iter, ifs, 0⟩] scope pos) (some (.Name x p1)) ps.line U.X.env = pure true) (h : LcOkO U elt tg iter ifs scope own js env W fun d W1 => Φ.nx (env.set i (some d)) W1) (hs : ∀ x, foldedSetIterable iter U.X.env x = pure x := by intro _; rfl) :
    Wp1 U (.Assign [.Name x p1] (.ListComp elt [⟨tg, iter, ifs, 0⟩] scope pos) ps) env W Φ :=
  fun σ G H eg h0 sl Dn ke => SemS.of (ps_setLc (own := own) (g := gB U scope tg) (tt := ttB U scope ifs) (te := teB U scope elt) ok.calm ok.nd hi hl hsw pi_sem bok (fun s H C cl fp => ⟨fun pins s' σ H' v u Q I r h => h s H C cl fp pins s' u I r⟩)
    (fun s H C cl fp => ⟨fun pins s' σ H' Q I h => (pts_sem hif).run pins s' σ H' Q I (h s H C cl fp)⟩) (fun s H C cl fp => ⟨fun pins s' σ H' Q I h => h s H C cl fp pins s' I⟩) hs)
    (h.reading hjs σ G H eg h0 sl _ fun v G2 H2 d W2 e2 h2 r2 z => ke.nx _ G2 H2 _ W2 e2 h2 ((sl.mono e2).set r2) z)
/-! ### [e for .. in x], x an owned list, nothing owned is changed -/
theorem Hs.as_ {K : PySem.W.Frag} {C : Addr} {T : List (Addr × Str)} {G H : Hp} {W1 W2 : Ow} {p : Addr} {u u' : OD} {o : HO} (h : Hs K C T G (W1 ++ (p, u) :: W2) H) (ho : H p = some o) (r : ORep K C G o u') : Hs K C T G (W1 ++ (p, u') :: W2) H := by
  have z := h.put r
  have e : upd H p o = H := by
    funext q
    by_cases hq : q = p
    · subst hq; rw [upd_same, ho]
    · rw [upd_ne hq]
  rw [e] at z
  exact z
theorem ev_lcOwn (ok : U.Ok) {elt tg iter : Expr} {scope : Scope} (own : List (Str × Nat)) (js : List Nat) (hjs : ∀ j ∈ js, j ∈ own.map (·.2)) (bok : BlkOk U.X.N U.X.env.scope scope own)
    (h : Ev U iter env W fun d W1 => ∃ (p : Addr) (L R : Ow) (ds : List PyData) (E2 : Nat → Ev0) (f : Nat → PyData), d = .adr p ∧ W1 = L ++ (p, .l (ds.map .p)) :: R ∧ ds.length ≤ 1000000 ∧
      (∀ (s : Shared) (H : Hp) (C : Addr) (cl : List (Str × Addr)) (fp : List Addr) (i : Nat) (Wi : Ow), i < ds.length → EvG (U.blk s H scope C cl fp) js tg (datAt ds i) (wipeE env (own.map (·.2))) Wi fun env2 W2 => env2 = E2 i ∧ W2 = Wi) ∧
      (∀ (s : Shared) (H : Hp) (C : Addr) (cl : List (Str × Addr)) (fp : List Addr) (i : Nat) (Wi : Ow), i < ds.length → Ev (U.blk s H scope C cl fp) elt (E2 i) Wi fun d W4 => d = .p (f i) ∧ W4 = Wi) ∧
      Ψ (.p (.list ((List.range ds.length).map f))) W1) (hs : ∀ x, foldedSetIterable iter U.X.env x = pure x := by intro _; rfl) : Ev U (.ListComp elt [⟨tg, iter, [], 0⟩] scope pos) env W Ψ :=
  fun σ G H eg h0 sl Q q => SemE.of (pe_lcB ok bok (by decide) hs) (SemI.of (pi_list pe_sem) (h σ G H eg h0 sl _ fun x G1 H1 d1 W1 e1 h1 r1 z1 => by
    obtain ⟨p, L, R, ds, E2, f, rfl, rfl, hn, htg, hel, fin⟩ := z1
    obtain rfl : x = .ref p := r1
    obtain ⟨o1, ho1, xs, rfl, ra⟩ := h1.at_
    have rd := RepAll.data ra
    have hx : xs.length = ds.length := rd.len
    have h1x : Hs U.X.K U.C U.T G1 (L ++ (p, .lx xs (ds.map .p)) :: R) H1 := h1.as_ ho1 ⟨rfl, ra⟩
    refine ⟨p, rfl, ⟨xs, SqL.of ho1⟩, ?_⟩
    intro Dl hD
    have sl1 := sl.mono e1
    have atx : ∀ {G' H' : Hp} {A : Ow}, Hs U.X.K U.C U.T G' (A ++ (p, .lx xs (ds.map .p)) :: R) H' → H' p = some (.lst xs) := fun hh => by
      obtain ⟨o, ho, eo, _⟩ := hh.at_
      rw [ho, eo]
    refine lc_it (g := gB U scope tg) (tt := ttB U scope []) (te := teB U scope elt) (vs := own.map (·.2)) (σ := σ) (Qd := fun H => Q (.ref Dl) H) (walk_list (xs := xs)) (fun i H' => ∃ G', Ex G1 G' ∧ Hs U.X.K U.C U.T G' ((Dl, .l (((List.range i).map f).map .p)) :: (L ++ (p, .lx xs (ds.map .p)) :: R)) H') ⟨G1, Ex.refl _, h1x.own (u := .l []) hD ⟨[], rfl, .nil⟩⟩ ?_ ?_ ?_
    · rintro i H' _ ⟨G', e', h'⟩
      exact SqL.of (atx (A := (Dl, .l (((List.range i).map f).map .p)) :: L) h')
    · rintro i x H3 H4 hi ⟨G', e', h'⟩ y
      obtain ⟨rfl, hy⟩ := y
      intro s Hb C cl fp
      have sl4 := (sl1.mono e').wipe (own.map (·.2))
      have eg4 := (eg.trans e1).trans e'
      refine htg s Hb C cl fp i _ (by omega) _ G' _ x eg4 h' sl4 (show Rp G' x _ from (RpAll.mono e' _ _ rd).nth hy) _ fun σ5 G5 H5 env5 W5 e5 h5 s5 f5 z5 => ?_
      obtain ⟨ee, ew⟩ := z5
      subst ee ew
      refine ⟨wipe_same f5.1 fun i hi => f5.2 i fun hj => hi (hjs i hj), fun s1 Hb1 C1 cl1 fp1 => ?_⟩
      have eg5 := eg4.trans e5
      refine EvTs.run (U := U.blk s1 Hb1 scope C1 cl1 fp1) (ifs := []) (env := E2 i) (W := (Dl, .l (((List.range i).map f).map .p)) :: (L ++ (p, .lx xs (ds.map .p)) :: R)) (Ψ := fun t W2 => t = true ∧ W2 = (Dl, .l (((List.range i).map f).map .p)) :: (L ++ (p, .lx xs (ds.map .p)) :: R)) ⟨rfl, rfl⟩ eg5 h5 s5 fun b G6 H6 W6 e6 h6 z6 => ?_
      obtain ⟨eb, ew⟩ := z6
      subst eb ew
      rw [if_pos rfl]
      intro s2 Hb2 C2 cl2 fp2
      refine hel s2 Hb2 C2 cl2 fp2 i _ (by omega) σ5 G6 H6 (eg5.trans e6) h6 (s5.mono e6) _ fun v G7 H7 d W7 e7 h7 r7 z7 => ?_
      obtain ⟨ed, ew⟩ := z7
      subst ed ew
      obtain ⟨o, ho, ys, eo, ra7⟩ := Hs.at_ (W1 := []) h7
      rw [eo] at ho
      have hxl : ys.length = i := by rw [ra7.len, List.length_map, List.length_map, List.length_range]
      refine ⟨ys, ho, by rw [hxl]; exact Nat.lt_of_lt_of_le (show i < 10000000 by omega) (by rw [sizeLine_eq]; decide), G7, ((e'.trans e5).trans e6).trans e7, ?_⟩
      exact Hs.put (W1 := []) (u' := .l (((List.range (i + 1)).map f).map .p)) h7 ⟨ys ++ [v], rfl, by rw [List.range_succ, List.map_append, List.map_append]; exact ra7.app (.cons r7 .nil)⟩
    · rintro H' ⟨G', e', h'⟩
      obtain ⟨o, ho, zs, eo, rz⟩ := Hs.at_ (W1 := []) h'
      rw [eo] at ho
      have hg := Hs.give (W1 := []) h' ho
      have ge := Hs.gave (o := .lst zs) (W1 := []) h'
      rw [hx] at rz
      refine q _ _ H' (.p (.list ((List.range ds.length).map f))) (L ++ (p, .l (ds.map .p)) :: R) ((e1.trans e').trans ge) (Hs.as_ hg (atx (A := L) hg) ⟨xs, rfl, (ra.mono e').mono ge⟩) (Rp.lst upd_same (RpAll.mono ge _ _ (RepAll.data rz))) fin))
/-! ### None in x, x a list of data -/
theorem et_inL (ok : U.Ok) {Ψ : Bool → Ow → Prop} (h : Ev U a env W fun d1 W1 => Ev U b env W1 fun d2 W2 => ∃ d ds, d1 = .p d ∧ d2 = .p (.list ds) ∧ SeqAt.shaped d = true ∧ SeqAt.shaped (.list ds) = true ∧ Ψ (ds.any fun z => PyData.eqv z d) W2) (hm : behindInMarks .In b = false := by rfl) : EvT U (.Compare a [.In] [b] pos) env W Ψ := by
  refine et_cmpG (op_inD (by have := ok.room.un; omega)) hm (h.imp fun d1 W1 h1 => h1.imp fun d2 W2 h2 => ?_)
  intro G H x y eg hs rx ry Q q
  obtain ⟨d, ds, rfl, rfl, s1, s2, k⟩ := h2
  exact ⟨_, _, Rp.dp hs.g _ _ rx, Rp.dp hs.g _ _ ry, s1, s2, q _ G H (.p (.bool _)) W2 (Ex.refl G) hs (Rp.bl _) ⟨_, rfl, k⟩⟩
/-! ### x.pop(0), x an owned list -/
theorem ev_pop0 {o : Expr} {pa pc : Pos} (h : Ev U o env W fun d1 W1 => ∃ (p : Addr) (L R : Ow) (ds : List D), d1 = .adr p ∧ W1 = L ++ (p, .l ds) :: R ∧ Ev U e env W1 fun d W2 => ∃ L2 R2 x ds2, d = .p (.int 0) ∧ W2 = L2 ++ (p, .l (x :: ds2)) :: R2 ∧ Ψ x (L2 ++ (p, .l ds2) :: R2))
    (hbase : attributeBase o "pop" U.X.env (eval o U.X.env) = eval o U.X.env := by rfl)
    (hfew : ((backTo pc (starEach [e] U.X.env)).all (fun x => !x.1) && (backToKw pc (keywordEach [] U.X.env)).all (fun x => x.1.isSome)
      && decide (([e] : List Expr).length + ([] : List Keyword).length + (if ([] : List Keyword).isEmpty then 0 else 1) < 30)) = true := by rfl)
    (hline : (pa.endLine == pc.line) = true := by rfl) (hst : starEach [e] U.X.env = (false, eval e U.X.env) :: starEach [] U.X.env := by rfl) : Ev U (.Call (.Attribute o "pop" pa) [e] [] pc) env W Ψ :=
  .here (pe_bm PySem.F.plainAttrs_list PySem.F.slot_list_pop PySem.F.type_list_pop mt_popAt pe_sem (pa_cons pe_sem pa_nil hst) hbase hfew hline hst rfl) fun σ G H eg h0 sl Q q =>
    h σ G H eg h0 sl _ fun x G1 H1 d1 W1 e1 h1 r1 z1 => by
      obtain ⟨p, L, R, ds, rfl, rfl, z1⟩ := z1
      obtain rfl : x = .ref p := r1
      obtain ⟨o1, ho1, xs1, rfl, ra1⟩ := h1.at_
      refine ⟨.inl ⟨rfl, xs1, SqL.of ho1⟩, z1 σ G1 H1 (eg.trans e1) h1 (sl.mono e1) _ fun y G2 H2 d2 W2 e2 h2 r2 z2 => ?_⟩
      obtain ⟨L2, R2, x0, ds2, rfl, rfl, k⟩ := z2
      cases (show Rp _ _ _ from r2)
      obtain ⟨o2, ho2, xs2, rfl, ra2⟩ := h2.at_
      obtain ⟨v0, vs0, rfl, r0, ra3⟩ : ∃ v0 vs0, xs2 = v0 :: vs0 ∧ Rep U.X.K U.C G2 v0 x0 ∧ RepAll U.X.K U.C G2 vs0 ds2 := by
        cases ra2 with
        | cons a b => exact ⟨_, _, rfl, a, b⟩
      refine ⟨p, v0 :: vs0, 0, 0, v0, rfl, rfl, ho2, by decide, by decide, by simp [seqIndex?], rfl, ?_⟩
      exact q v0 G2 _ x0 _ (e1.trans e2) (h2.put (u' := .l ds2) ⟨vs0, rfl, ra3⟩) r0 k
/-! ### x in d, d a dict of numbers -/
theorem pe_din (ok : U.Ok) (hm : behindInMarks .In o = false) : PE U.X (.Compare i [.In] [o] pos) (tDIn (SemE U.X i) (SemE U.X o)) := pe_cmp (pc_din (unit1 ok) pe_sem pe_sem) hm
theorem pt_din (ok : U.Ok) (hm : behindInMarks .In o = false) : PT U.X (.Compare i [.In] [o] pos) (tB (tDIn (SemE U.X i) (SemE U.X o))) := pt_cmp (pc_din (unit1 ok) pe_sem pe_sem) hm
theorem ev_inD (ok : U.Ok) (h : Ev U i env W fun d1 W1 => ∃ x : Int, d1 = .p (.int x) ∧ Ev U o env W1 fun d2 W2 => ∃ f, d2 = .dct f ∧ Ψ (.p (.bool (f x).isSome)) W2) (hm : behindInMarks .In o = false := by rfl) : Ev U (.Compare i [.In] [o] pos) env W Ψ :=
  .here (pe_din ok hm) fun σ G H eg h0 sl Q q => h σ G H eg h0 sl _ fun x1 G1 H1 d1 W1 e1 h1 r1 z1 => by
    obtain ⟨x, rfl, z1⟩ := z1
    cases (show Rp _ _ _ from r1)
    refine z1 σ G1 H1 (eg.trans e1) h1 (sl.mono e1) _ fun x2 G2 H2 d2 W2 e2 h2 r2 z2 => ?_
    obtain ⟨f, rfl, k⟩ := z2
    obtain ⟨a, kvs, rfl, ha, hf⟩ := r2
    refine ⟨a, _, rfl, DGet.k (k := .inl x) (h2.g _ _ ha), ?_⟩
    rw [hf x, Option.isSome_map]
    exact q (.bl _) G2 H2 (.p (.bool _)) W2 (e1.trans e2) h2 (Rp.bl _) k
theorem et_inD (ok : U.Ok) {Ψ : Bool → Ow → Prop} (h : Ev U i env W fun d1 W1 => ∃ x : Int, d1 = .p (.int x) ∧ Ev U o env W1 fun d2 W2 => ∃ f, d2 = .dct f ∧ Ψ (f x).isSome W2) (hm : behindInMarks .In o = false := by rfl) : EvT U (.Compare i [.In] [o] pos) env W Ψ :=
  fun σ G H eg h0 sl Q q => SemT.of (pt_din ok hm) (h σ G H eg h0 sl _ fun x1 G1 H1 d1 W1 e1 h1 r1 z1 => by
    obtain ⟨x, rfl, z1⟩ := z1
    cases (show Rp _ _ _ from r1)
    refine z1 σ G1 H1 (eg.trans e1) h1 (sl.mono e1) _ fun x2 G2 H2 d2 W2 e2 h2 r2 z2 => ?_
    obtain ⟨f, rfl, k⟩ := z2
    obtain ⟨a, kvs, rfl, ha, hf⟩ := r2
    refine ⟨a, _, rfl, DGet.k (k := .inl x) (h2.g _ _ ha), _, rfl, ?_⟩
    rw [hf x, Option.isSome_map]
    exact q _ G2 H2 W2 (e1.trans e2) h2 k)
end

end Q
namespace Q
open PySem PySem.Spec PyProof.Rows L2
open Evl (Ex)

/-! ### x[i], x of the class -/
structure GetO (K : PySem.W.Frag) (C g : Addr) : Prop where
  at_ : PySem.W.findIn K (.ref C) "__getitem__" = some (some (.ref g))
  fd : PySem.W.fnIn K g = true
  fn : PySem.W.isFn K (.ref g) = true
theorem sub_in {prog : Program} {w : World} {A : Around} {E : Value → Shared → Prop} {s : Shared} {K : PySem.W.Frag} {x C f : Addr} {ox : Obj} {od : Option Obj} {value slice : Expr} {i : Value} {Q : Value → Shared → Prop} (X : K.In s.heap) (I : PySem.W.InstAt s.heap x ox C od)
    (go : GetO K C f) (h : wpAny (model prog w) A.in1 (call (.ref f) [.ref x, i]) Q E s) (hsl : subscripted slice true (.ref x) i = runValue (Code.builtin "lifetime.subscript" { pos := [.ref x, i] })) : wpAny (model prog w) A (subscriptTail value slice (.ref x) i) Q E s := by
  have hf := go.fd
  unfold PySem.W.fnIn at hf
  split at hf
  · rename_i heq
    refine wpAny_bind (wpAny_bind (wpAny_bind (PySem.W.Looks.here I.type (PySem.W.Looks.here (PySem.W.looks_findIn X go.at_) ?_))))
    refine wpAny_bind (wpAny_load (X f _ heq) (wpAny_pure ?_))
    show wpAny _ _ (subscripted slice true (.ref x) i >>= fun r => letTemporaryGo value (.ref x) r >>= fun _ => pure r) _ _ _
    rw [hsl]
    refine wpAny_bind (wpAny_runValue (codeAny_builtin PySem.W.entry_sub ?_))
    exact wpAny_bind (PySem.W.special_fn X I go.at_ (beq_iff_eq.mp go.fn) (wpAny_mono h (fun v s' z => wpAny_pure (wpAny_bind (wpAny_letTemporaryGo (wpAny_pure z)))) fun _ _ z => z))
  · cases hf
section
variable {U : Ct} {env : Ev0} {W : Ow} {Ψ : D → Ow → Prop} {Φ : Ke} {e a b c o i v : Expr} {pos p0 p1 pa : Pos} {es : List Expr} {st : Stmt} {rest body : List Stmt}
def tGetO (C : Addr) (sp : Sp) (E : XK) (ta tb : TE) : TE := fun σ H Q => ta σ H fun x H1 => tb σ H1 fun y H2 => ∃ a dx fs, x = .ref a ∧ H2 a = some (.ins C dx fs) ∧ sp [x, y] H2 Q E
theorem pe_getO {X : Cx} {CX : CXT} {C g : Addr} {k : Nat} {sp : Sp} {E : XK} {ta tb : TE} (go : GetO X.K C g) (F : FnR X.prog X.w X.K X.mg X.base CX k g sp) (hr : Room (k + 1) X.A) (hx : Passes CX X E) (ha : PE X a ta) (hb : PE X b tb)
    (hsl : ∀ (x : Addr) (i : Value), subscripted b true (.ref x) i = runValue (Code.builtin "lifetime.subscript" { pos := [.ref x, i] })) (hce : CX = L2.CX X.prog X.w) : PE X (.Subscript a b pos) (tGetO C sp E ta tb) := by
  subst hce
  refine ⟨fun pins s σ H Q I h => ?_⟩
  rw [eval_Subscript]
  refine wpAny_bind (wpAny_mono (ha.run pins s σ H _ I h) (fun v s1 h1 => ?_) fun _ _ e => e)
  obtain ⟨x, H1, I1, rx, h1⟩ := h1
  refine wpAny_bind (wpAny_holding (wpAny_mono (hb.run pins s1 σ H1 _ I1 h1) (fun u s2 h2 => ?_) fun _ _ e => e))
  obtain ⟨y, H2, I2, ry, h2⟩ := h2
  refine wpAny_bind (wpAny_standAt ?_)
  obtain ⟨a', dx, fs, rfl, ea, q⟩ := h2
  cases rx
  obtain ⟨mA, O, _⟩ := ins_get I2.hok ea
  obtain ⟨od, J, _⟩ := O.look
  refine sub_in I2.kIn J go (wpAny_call ?_) (hsl a' u)
  refine codeAny_mono (F X.A.in1 X.stack s2 H2 [.ref a', u] [.ref a', y] _ E hr.in1 I2.env0.in1 (.cons rfl (.cons ry .nil)) q) fun r s' hq => ?_
  cases r with
  | error er => exact hx pins σ H2 s2 er s' I2 hq
  | ok fl =>
    cases fl with
    | ret u => exact I2.after hq
    | next => exact False.elim hq
    | brk => exact False.elim hq
    | cont => exact False.elim hq
theorem ev_getO {L : Pl} {Cn : Con} {k : Nat} {g : Addr} (hL : L.Has U) (ok : U.Ok) (go : GetO U.X.K U.C g) (F : FnC L k g Cn) (hk : k + 1 ≤ U.k)
    (h : Ev U a env W fun d1 W1 => (∃ rows, d1 = .tt rows) ∧ Ev U b env W1 fun d2 W2 => Cn [d1, d2] W2 Ψ U.Ξ)
    (hsl : ∀ (x : Addr) (i : Value), subscripted b true (.ref x) i = runValue (Code.builtin "lifetime.subscript" { pos := [.ref x, i] }) := by intro _ _; rfl) : Ev U (.Subscript a b pos) env W Ψ :=
  .here (pe_getO (E := U.E) go (F.at_ hL) (ok.room.mono hk) (passU hL ok) pe_sem pe_sem hsl (by rw [hL.P, hL.w])) fun σ G H eg h0 sl Q q => by
    refine h σ G H eg h0 sl _ fun x G1 H1 d W1 e1 h1 r1 z1 => ?_
    obtain ⟨⟨rows, rfl⟩, z1⟩ := z1
    refine z1 σ G1 H1 (eg.trans e1) h1 (sl.mono e1) _ fun y G2 H2 d2 W2 e2 h2 r2 z2 => ?_
    have r1' := r1
    obtain ⟨a, dx, t, rfl, hi, rt⟩ := r1
    refine ⟨a, dx, _, rfl, h2.g _ _ (e2 _ _ hi), ?_⟩
    exact sp_run hL ok ((eg.trans e1).trans e2) h2 (.cons (Rep.mono e2 r1') (.cons r2 .nil)) z2 fun v G3 H3 d3 W3 e3 h3 r3 z3 => q v G3 H3 d3 W3 ((e1.trans e2).trans e3) h3 r3 z3
end
/-! ### generators -/
def SemGB (X : Cx) (sts : List Stmt) : TGn := fun D ys σ H => ∀ (A : Around) (S : Addr) (ip : List (Addr × Obj)) (R : GenEnd) (n : Nat) (s₀ : Shared) (c : Code) (fs : List Frame) (K : Flow → Sem PySem.Fin) (J : Value → Sem PySem.Fin) (gd : Bool → Bool) (lv : List Value → List Value) (s : Shared),
  GC X S ip A c fs gd → n + ys.length = sizeLine → GK X S ip A R c fs K J D → GI X S ip ys σ H s → Seg (model X.prog X.w) A R (GY X S) n s₀ c ((execs sts X.env).wrap K J gd lv) fs s
theorem gss_sem {X : Cx} {sts : List Stmt} : GSs X sts (SemGB X sts) := ⟨fun A S ip R n ys s₀ c fs K J gd lv s σ H D g hn k I h => h A S ip R n s₀ c fs K J gd lv s g hn k I⟩
theorem SemGB.of {X : Cx} {sts : List Stmt} {t : TGn} {D : GEnds} {ys : List V} {σ : L2.St} {H : Hp} (h : GSs X sts t) (q : t D ys σ H) : SemGB X sts D ys σ H := fun A S ip R n s₀ c fs K J gd lv s g hn k I => h.run A S ip R n ys s₀ c fs K J gd lv s σ H D g hn k I q
structure KeG where
  nx : List D → Ev0 → Ow → Prop
  rt : List D → D → Ow → Prop
structure KgOk (U : Ct) (G : Hp) (Φ : KeG) (Dn : GEnds) : Prop where
  nx : ∀ ys dys σ G2 H2 env W, Ex G G2 → Hs U.X.K U.C U.T G2 W H2 → Slots U.X.K U.C G2 σ env → RepAll U.X.K U.C G2 ys dys → Φ.nx dys env W → Dn.nx ys σ H2
  rt : ∀ ys dys v G2 H2 d W, Ex G G2 → Hs U.X.K U.C U.T G2 W H2 → U.R G2 v d → RepAll U.X.K U.C G2 ys dys → Φ.rt dys d W → Dn.rt ys v H2
theorem KgOk.mono {U : Ct} {G G2 : Hp} {Φ : KeG} {Dn : GEnds} (h : KgOk U G Φ Dn) (e : Ex G G2) : KgOk U G2 Φ Dn :=
  ⟨fun ys dys σ G3 H3 env W a => h.nx ys dys σ G3 H3 env W (e.trans a), fun ys dys v G3 H3 d W a => h.rt ys dys v G3 H3 d W (e.trans a)⟩
def GWp (U : Ct) (sts : List Stmt) (dys : List D) (env : Ev0) (W : Ow) (Φ : KeG) : Prop :=
  ∀ (σ : L2.St) (G H : Hp) (ys : List V), Ex U.G G → Hs U.X.K U.C U.T G W H → Slots U.X.K U.C G σ env → RepAll U.X.K U.C G ys dys → ∀ Dn : GEnds, KgOk U G Φ Dn → SemGB U.X sts Dn ys σ H
section
variable {U : Ct} {env : Ev0} {W : Ow} {Ψ : D → Ow → Prop} {Φ : KeG} {e a b c o i v : Expr} {pos p0 p1 pa : Pos} {es : List Expr} {st : Stmt} {rest body : List Stmt} {dys : List D}
theorem gw_nil (h : Φ.nx dys env W) : GWp U [] dys env W Φ := fun σ G H ys eg hs sl ra Dn ke => SemGB.of gss_nil (ke.nx ys dys σ G H env W (Ex.refl _) hs sl ra h)
/-- a statement that yields nothing -/
theorem gw_plain (h : Wp1 U st env W ⟨fun env' W' => GWp U rest dys env' W' Φ, Φ.rt dys, fun _ _ => False, fun _ _ => False⟩) : GWp U (st :: rest) dys env W Φ := fun σ G H ys eg hs sl ra Dn ke =>
  SemGB.of (gss_cons (gs_ps ps_sem) gss_sem) (h σ G H eg hs sl _ ⟨fun σ2 G2 H2 env2 W2 e2 h2 s2 k2 => k2 σ2 G2 H2 ys (eg.trans e2) h2 s2 (ra.mono e2) Dn (ke.mono e2), fun v G2 H2 d W2 e2 h2 r2 k2 => ke.rt ys dys v G2 H2 d W2 e2 h2 r2 (ra.mono e2) k2, fun _ _ _ _ _ _ _ _ z => z.elim, fun _ _ _ _ _ _ _ _ z => z.elim⟩)
/-- for x in e: yield x -/
theorem gw_forY (ok : U.Ok) (i : Nat) {x : Str} {px p2 yp p3 : Pos} (h : EvI U (.Name x px) e env W fun n item W1 => n + dys.length ≤ 1000000 ∧ ∀ o, GWp U rest (dys ++ (List.range n).map item) (env.set i o) W1 Φ)
    (hi : U.X.N[i]? = some x) (hx : Loc U.X.env.scope x) (hv : Vis U.X.env.scope x) (hf : U.X.fn x = true ∨ U.X.env.scope.names.lookup x = some .local) (hlen : i < env.length) (hco : U.X.env.scope.isCoroutine = false) (hin : interactive U.X.env = false)
    (hd : (x == ("__debug__" : Str)) = false := by decide) (hcd : (x == ("__classdict__" : Str)) = false := by decide)
    (hs : ∀ x, foldedSetIterable e U.X.env x = pure x := by intro _; rfl) : GWp U (.For (.Name x px) e [.Expr (.Yield (some (.Name x p2)) yp) p3] [] pos :: rest) dys env W Φ := by
  intro σ G H ys eg h0 sl ra Dn ke
  refine SemGB.of (gss_cons (gs_for ok.po ok.calm pi_sem pg_sem (gss_cons (gs_yield pe_sem hco hin) gss_nil) hs) gss_sem) ?_
  refine h σ G H eg h0 sl _ fun J n item G2 H2 W2 Gd Y wk e2 h2 hGd hY z => ?_
  obtain ⟨hn, fin⟩ := z
  refine ⟨fun j m ys' σ' H' => m + j = n ∧ ∃ G' o, Ex G2 G' ∧ Hs U.X.K U.C U.T G' W2 H' ∧ Slots U.X.K U.C G' σ' (env.set i o) ∧ RepAll U.X.K U.C G' ys' (dys ++ (List.range j).map item), ⟨n, rfl, G2, (env[i]?).getD none, Ex.refl _, h2, ?_, ?_⟩, ?_⟩
  · have : env.set i ((env[i]?).getD none) = env := by
      refine List.ext_getElem? fun j => ?_
      by_cases hj : i = j
      · subst hj
        rw [List.getElem?_set_self hlen, List.getElem?_eq_getElem hlen]
        rfl
      · rw [List.getElem?_set_ne hj]
    rw [this]
    exact sl.mono e2
  · simpa using ra.mono e2
  · rintro j m ys' σ' H' ⟨hm, G', o, e', h', s', ra'⟩
    by_cases hj : j < n
    · refine .inr ⟨wk.goes j H' hj (hGd G' H' W2 e' h'), fun ys2 σ2 H2' => ∃ G3 o, Ex G2 G3 ∧ Hs U.X.K U.C U.T G3 W2 H2' ∧ Slots U.X.K U.C G3 σ2 (env.set i o) ∧ RepAll U.X.K U.C G3 ys2 (dys ++ (List.range (j + 1)).map item), fun ys2 σ2 H2' ⟨G3, o, a1, a2, a3, a4⟩ => ⟨n - (j + 1), by omega, by omega, G3, o, a1, a2, a3, a4⟩, fun xv H4 yl => ?_⟩
      obtain ⟨G4, e4, h4, r4⟩ := hY j H' xv H4 G' _ hj e' h' (wk.yields j H' xv H4 hj (hGd G' H' W2 e' h') yl)
      have eg4 := ((eg.trans e2).trans e').trans e4
      refine eg_name ok i hi hx hf (Ψ := fun env2 W3 => env2 = env.set i (some (item j)) ∧ W3 = W2) ⟨by rw [List.set_set], rfl⟩ σ' G4 H4 xv eg4 h4 (s'.mono e4) r4 _ fun σ5 G5 H5 env5 W5 e5 h5 s5 _ z5 => ?_
      obtain ⟨rfl, rfl⟩ := z5
      refine ⟨by rw [ra'.len, List.length_append, List.length_map, List.length_range]; exact Nat.lt_of_lt_of_le (show dys.length + j < 10000000 by omega) (by rw [sizeLine_eq]; decide), ?_⟩
      refine ev_name (d := item j) (Ψ := fun d W3 => d = item j ∧ W3 = W5) i hi hv (by rw [List.getElem?_set_self hlen]) ⟨rfl, rfl⟩ hd hcd σ5 G5 H5 (eg4.trans e5) h5 s5 _ fun w G6 H6 d W6 e6 h6 r6 z6 => ?_
      obtain ⟨rfl, rfl⟩ := z6
      refine ⟨G6, _, ((e'.trans e4).trans e5).trans e6, h6, s5.mono e6, ?_⟩
      rw [List.range_succ, List.map_append, ← List.append_assoc]
      exact (ra'.mono ((e4.trans e5).trans e6)).app (.cons r6 .nil)
    · have ej : j = n := by omega
      subst ej
      exact .inl ⟨wk.stops H' (hGd G' H' W2 e' h'), fin o σ' G' H' ys' ((eg.trans e2).trans e') h' s' ra' Dn (ke.mono (e2.trans e'))⟩
end
/-! ### a generator's def -/
abbrev ConG := List D → Ow → (List D → Ow → Prop) → (Xc → Ow → Prop) → Prop
def spGG (L : Pl) (Cn : ConG) : SpG := fun vs H Q E => ∃ (T : List (Addr × Str)) (G : Hp) (W : Ow) (ds : List D) (Ψ : List D → Ow → Prop) (Ξ : Xc → Ow → Prop), Hs L.K L.C T G W H ∧ RepAll L.K L.C G vs ds ∧ Cn ds W Ψ Ξ ∧
  (∀ ys G2 H2 dys W2, Ex G G2 → Hs L.K L.C T G2 W2 H2 → RepAll L.K L.C G2 ys dys → Ψ dys W2 → Q ys H2) ∧ (∀ x cls dd G2 H2 W2, Ex G G2 → Hs L.K L.C T G2 W2 H2 → XRep L.cN L.cL L.cA L.cT x cls dd H2 → Ξ x W2 → E cls dd H2)
def ctG (L : Pl) (N : List Str) (qual : Str) (scope : Scope) (f : Addr) (cd : Value) (A : Around) (outer : List Env) (s : Shared) (H : Hp) (E : XK) (T : List (Addr × Str)) (G : Hp) (Ξ : Xc → Ow → Prop) (k : Nat) (pn : List (Addr × Obj)) : Ct where
  X := gcxOf L.P L.w L.K L.mg L.base N qual scope f cd A outer s H E pn
  T := T
  C := L.C
  cN := L.cN
  cL := L.cL
  cA := L.cA
  cT := L.cT
  G := G
  Ξ := Ξ
  E := E
  k := k
/-- what a caller must know of a generator of the module -/
structure DefG (L : Pl) (x : Str) (k : Nat) (ps : List Str) (Cn : ConG) : Prop where
  ex : ∃ f fd, GFn L.P L.w L.K L.mg L.base k f fd ps (spGG L Cn) ∧ Binds L.K fd ps [] ∧ L.mg x = some (.ref f) ∧ PySem.W.keepIn L.K (.ref f) = true
theorem gfn_body {L : Pl} {x qual : Str} {st : Stmt} {f : Addr} {fd : FuncData} {N ps : List Str} {k : Nat} {Cn : ConG} (F : Fun L.K x qual st f fd) (S : GScope N ps (defScope st)) (len : ∀ ds W Ψ Ξ, Cn ds W Ψ Ξ → ds.length = ps.length)
    (h : ∀ U : Ct, L.Has U → U.Ok → U.k = k → (∃ (f' : Addr) (cd : Value) (A : Around) (outer : List Env) (s : Shared) (H : Hp) (E : XK) (T : List (Addr × Str)) (G : Hp) (Ξ : Xc → Ow → Prop) (pn : List (Addr × Obj)), U = ctG L N qual (defScope st) f' cd A outer s H E T G Ξ k pn) →
      ∀ ds W Ψ, Cn ds W Ψ U.Ξ → GWp U (defBody st) [] (startE N ds) W ⟨fun dys _ W => Ψ dys W, fun dys d W => d = .p .none ∧ Ψ dys W⟩) : GFn L.P L.w L.K L.mg L.base (k + 1) f fd ps (spGG L Cn) := by
  obtain ⟨oc, od, kV, doc, pm, an, cdv, ct, osl, rfl, lk, hcd⟩ := F.ex
  refine gfn_of lk hcd S (fun vs H Q E ⟨T, G, W, ds, Ψ, Ξ, _, ra, c, _, _⟩ => by rw [ra.len]; exact len _ _ _ _ c) fun A outer s H vs Q E pn hr hsp => ?_
  obtain ⟨T, G, W, ds, Ψ, Ξ, hs, ra, c, q, qe⟩ := hsp
  have ok : (ctG L N qual (defScope st) f cdv A outer s H E T G Ξ k pn).Ok := ⟨rfl, hr, S.nd, owns_gcx, takes_gcx, qe⟩
  have z := h (ctG L N qual (defScope st) f cdv A outer s H E T G Ξ k pn) ⟨rfl, rfl, rfl, rfl, rfl, rfl, rfl, rfl, rfl, rfl⟩ ok rfl ⟨f, cdv, A, outer, s, H, E, T, G, Ξ, pn, rfl⟩ ds W Ψ c
  refine ⟨_, gss_sem, z (L2.start N vs) G H [] (Ex.refl G) hs (startE_ok ra) .nil _ ⟨fun ys dys σ G2 H2 env W2 e2 h2 s2 r2 k2 => q ys G2 H2 dys W2 e2 h2 r2 k2, fun ys dys v G2 H2 d W2 e2 h2 rv r2 k2 => ?_⟩⟩
  obtain ⟨rfl, k2⟩ := k2
  cases (show Rp G2 v .none from rv)
  exact ⟨rfl, q ys G2 H2 dys W2 e2 h2 r2 k2⟩
section
variable {U : Ct} {env : Ev0} {W : Ow} {Ψ : D → Ow → Prop} {e a b c o i v : Expr} {pos p0 p1 p2 : Pos} {es : List Expr}
/-- list(g(..)), where nothing is raised -/
theorem ev_listG {L : Pl} {x : Str} {k : Nat} {ps : List Str} {Cn : ConG} (hL : L.Has U) (ok : U.Ok) (B : Blt U.X.mg) (D : DefG L x k ps Cn) (hk : k + 3 ≤ U.k) (hg : Gl U.X x) (hgl : Gl U.X "list")
    (h : EvA U (e :: es) env W fun ds W1 => Cn ds W1 (fun dys W2 => ∃ pds : List PyData, dys = pds.map .p ∧ Ψ (.p (.list pds)) W2) fun _ _ => False) (hd : (x == ("__debug__" : Str)) = false := by decide)
    (he : starEach (e :: es) U.X.env = (false, eval e U.X.env) :: starEach es U.X.env := by rfl) (hpl : (backTo pos (starEach es U.X.env)).any (·.1) = false := by rfl)
    (he2 : starEach [.Call (.Name x p0) (e :: es) [] pos] U.X.env = (false, eval (.Call (.Name x p0) (e :: es) [] pos) U.X.env) :: starEach [] U.X.env := by rfl) : Ev U (.Call (.Name "list" p1) [.Call (.Name x p0) (e :: es) [] pos] [] p2) env W Ψ := by
  obtain ⟨f, fd, F, bi, hm, kp⟩ := D.ex
  have F' : GFn U.X.prog U.X.w U.X.K U.X.mg U.X.base k f fd ps (spGG L Cn) := by
    rw [hL.P, hL.w, hL.K, hL.mg, hL.base]
    exact F
  refine .here (pe_listG (E := E0) (pgen_call (E := E0) (dvs := []) (ds := []) F' (ok.room.mono (by omega)) hg (by rw [hL.mg]; exact hm) (by rw [hL.K]; exact kp) (by rw [hL.K]; exact bi) .nil pa_sem hd he hpl) (passes_call LamX.takes0 fun _ _ _ _ z => z.elim) (fun _ _ _ z => z.elim) (ok.room.mono hk) hgl B.list (by decide +kernel) (by decide) (by decide) he2) fun σ G H eg hs sl Q q => ?_
  refine h σ G H eg hs sl _ fun vs G1 H1 ds W1 e1 h1 r1 z => ?_
  refine ⟨U.T, G1, W1, ds, _, _, by rw [← hL.K, ← hL.C]; exact h1, by rw [← hL.K, ← hL.C, List.append_nil]; exact r1, z, ?_, fun _ _ _ _ _ _ _ _ _ y => y.elim⟩
  rw [← hL.K, ← hL.C]
  rintro ys G2 H2 dys W2 e2 h2 r2 ⟨pds, rfl, k2⟩ p hp
  exact q _ _ _ (.p (.list pds)) W2 ((e1.trans e2).trans (h2.ex hp)) (h2.new hp) (Rp.lst upd_same (RpAll.mono (h2.ex hp) _ _ (RepAll.data r2))) k2
/-- reversed(range(n)) -/
theorem ei_revR (B : Blt U.X.mg) {tg : Expr} {Ψ : Nat → (Nat → D) → Ow → Prop} (hg : Gl U.X "range") (hgr : Gl U.X "reversed") (hmr : U.X.mg "reversed" = none) (h : Ev U e env W fun d W1 => ∃ j : Int, d = .p (.int j) ∧ -(2 ^ 62) ≤ j ∧ j < 2 ^ 62 ∧ Ψ j.toNat (fun i => .p (.int ((j.toNat : Nat) - 1 - (i : Nat)))) W1)
    (he : starEach [e] U.X.env = (false, eval e U.X.env) :: starEach [] U.X.env := by rfl) (he2 : starEach [.Call (.Name "range" p0) [e] [] pos] U.X.env = (false, eval (.Call (.Name "range" p0) [e] [] pos) U.X.env) :: starEach [] U.X.env := by rfl) : EvI U tg (.Call (.Name "reversed" p1) [.Call (.Name "range" p0) [e] [] pos] [] p2) env W Ψ :=
  fun σ G H eg hs sl R q => SemI.of (pi_revR hgr hmr (prg_1 hg B.range pe_sem he) he2) (h σ G H eg hs sl _ fun x G1 H1 d1 W1 e1 h1 r1 z1 => by
    obtain ⟨j, rfl, b0, b1, k⟩ := z1
    cases (show Rp _ _ _ from r1)
    refine ⟨j, rfl, ?_⟩
    refine ⟨by decide, by decide, b0, b1, ?_⟩
    rw [Int.sub_zero]
    refine q _ _ (fun i => .p (.int ((j.toNat : Nat) - 1 - (i : Nat)))) G1 H1 W1 _ _ walk_rangeC e1 h1 (fun _ _ _ _ _ => trivial) (fun i H3 y H4 G3 W3 hi e3 h3 y4 => ?_) k
    obtain ⟨rfl, rfl⟩ := y4
    refine ⟨G3, Ex.refl _, h3, ?_⟩
    show Rp G3 (.int _) (.int _)
    rw [show (0 : Int) + (j.toNat : Nat) - 1 + (i : Nat) * (-1) = (j.toNat : Nat) - 1 - (i : Nat) by omega]
    exact .int _)
end

end Q
namespace Q
open PySem PySem.Spec PyProof.Rows L2
open Evl (Ex)

section
variable {U : Ct} {env : Ev0} {W : Ow} {Ψ : D → Ow → Prop} {Φ : Ke} {e a b c o i v : Expr} {pos p0 p1 pa : Pos} {es : List Expr}
/-! ### a tuple of four with a dict -/
theorem ev_tupP {es : List Expr} {x1} (h : EvA U es env W fun ds W1 => ∃ d1 f d3 d4, ds = [.p d1, .dct f, .p d3, .p d4] ∧ Ψ (.pl4 d1 f d3 d4) W1) : Ev U (.Tuple es x1 pos) env W Ψ :=
  .here (pe_tup pa_sem) fun σ G H eg hs sl Q q => h σ G H eg hs sl _ fun vs G1 H1 ds W1 e1 h1 ra z1 => by
    obtain ⟨d1, f, d3, d4, rfl, k⟩ := z1
    obtain ⟨v1, v2, v3, v4, rfl, r1, r2, r3, r4⟩ : ∃ v1 v2 v3 v4, vs = [v1, v2, v3, v4] ∧ Rep U.X.K U.C G1 v1 (.p d1) ∧ Rep U.X.K U.C G1 v2 (.dct f) ∧ Rep U.X.K U.C G1 v3 (.p d3) ∧ Rep U.X.K U.C G1 v4 (.p d4) := by
      cases ra with
      | cons a r => cases r with
        | cons b r => cases r with
          | cons c r => cases r with
            | cons d r => cases r; exact ⟨_, _, _, _, rfl, a, b, c, d⟩
    obtain ⟨q0, kvs, rfl, hq, hf⟩ := r2
    refine ⟨by rw [sizeLine_eq]; show 4 ≤ 16777216; omega, fun p hp => ?_⟩
    have ex := h1.ex (o := .tup [v1, .ref q0, v3, v4]) hp
    exact q _ _ _ (.pl4 d1 f d3 d4) W1 (e1.trans ex) (h1.new hp) ⟨p, q0, kvs, v1, v3, v4, rfl, upd_same, Rp.mono ex _ _ r1, ⟨ex _ _ hq, hf⟩, Rp.mono ex _ _ r3, Rp.mono ex _ _ r4⟩ k
theorem eg_tupP (ok : U.Ok) {js : List Nat} {es : List Expr} {d : D} {Ψ : Ev0 → Ow → Prop} {k1} (h : ∃ d1 f d3 d4, d = .pl4 d1 f d3 d4 ∧ es.length = 4 ∧ EvGs U js es [.p d1, .dct f, .p d3, .p d4] env W Ψ)
    (hn : (assignEach es U.X.env).length = es.length := by rfl) (hst : (assignEach es U.X.env).findIdx? (·.1) = none := by rfl) : EvG U js (.Tuple es k1 pos) d env W Ψ := by
  intro σ G H v eg hs sl r Q q
  obtain ⟨d1, f, d3, d4, rfl, hl, h⟩ := h
  obtain ⟨a, q0, kvs, v1, v3, v4, rfl, ha, r1, ⟨hq, hf⟩, r3, r4⟩ := r
  refine SemG.of (pg_tup ok.calm pgs_sem hn hst) ⟨_, _, rfl, SqT.of (hs.g _ _ ha), by rw [hl] <;> rfl, h σ G H _ eg hs sl ?_ Q q⟩
  exact .cons r1 (.cons ⟨q0, kvs, rfl, hq, hf⟩ (.cons r3 (.cons r4 .nil)))
/-! ### x.pop(), x an owned list -/
theorem RepAll.snoc {K : PySem.W.Frag} {C : Addr} {G : Hp} {x : D} : ∀ {ds : List D} {xs : List V}, RepAll K C G xs (ds ++ [x]) → ∃ ys y, xs = ys ++ [y] ∧ RepAll K C G ys ds ∧ Rep K C G y x
  | [], xs, h => by
    cases h with
    | cons a r => cases r; exact ⟨[], _, rfl, .nil, a⟩
  | d :: ds, xs, h => by
    cases h with
    | cons a r =>
      obtain ⟨ys, y, rfl, h1, h2⟩ := RepAll.snoc r
      exact ⟨_ :: ys, y, rfl, .cons a h1, h2⟩
theorem ev_popE {o : Expr} {pa pc : Pos} (h : Ev U o env W fun d1 W1 => ∃ (p : Addr) (L R : Ow) (ds : List D) (x : D), d1 = .adr p ∧ W1 = L ++ (p, .l (ds ++ [x])) :: R ∧ Ψ x (L ++ (p, .l ds) :: R))
    (hbase : attributeBase o "pop" U.X.env (eval o U.X.env) = eval o U.X.env := by rfl) (hline : (pa.endLine == pc.line) = true := by rfl) : Ev U (.Call (.Attribute o "pop" pa) [] [] pc) env W Ψ :=
  .here (pe_bm0 PySem.F.plainAttrs_list PySem.F.slot_list_pop PySem.F.type_list_pop mt_pop pe_sem hbase hline) fun σ G H eg h0 sl Q q =>
    h σ G H eg h0 sl _ fun x G1 H1 d1 W1 e1 h1 r1 z1 => by
      obtain ⟨p, L, R, ds, x0, rfl, rfl, k⟩ := z1
      obtain rfl : x = .ref p := r1
      obtain ⟨o1, ho1, xs1, rfl, ra1⟩ := h1.at_
      obtain ⟨ys, y, rfl, ry, r0⟩ := ra1.snoc
      refine ⟨.inl ⟨rfl, _, SqL.of ho1⟩, p, ys ++ [y], y, rfl, rfl, ho1, by simp, ?_⟩
      rw [List.dropLast_concat]
      exact q y G1 _ x0 _ e1 (h1.put (u' := .l ds) ⟨ys, rfl, ry⟩) r0 k
end

end Q
namespace Q
open PySem PySem.Spec PyProof.Rows L2
open Evl (Ex)

/-! ### a tuple told once -/
theorem tuple_mul1 (l : Addr) (items : Array Value) (n : Nat) (dd : Option Addr) (sl : Array (Option Value)) (u : Tok) :
    Meets (Builtin.«tuple.__mul__» ⟨[.ref l, .int 1 u], []⟩) (fun _ R s => s.heap.get? l = some { cls := .type "tuple", dict := dd, data := .seq items n, slots := sl } ∧ R (.ok (.ret (Value.ref l))) s) :=
  .of_wp fun prog w A R s h => by
    obtain ⟨hp, g, d, tk, os⟩ := s
    obtain ⟨hl, h⟩ := h
    have f1 := AutoSeq1.idx_int
    wp_walk using AutoSeq1.wpAny_loadPart' hl
    exact ⟨_, rfl, h⟩
def rRepT1 (K : PySem.W.Frag) : R2 := fun x y H Q => ∃ l xs, x = .ref l ∧ y = .int 1 ∧ SqT K H l xs ∧ Q (.ref l) H
theorem op_repT1 {X : Cx} : OpR X (binaryOp .Mult) (rRepT1 X.K) := by
  intro pins s σ H x y v u Q I rx ry h
  obtain ⟨l, xs, rfl, rfl, hT, q⟩ := h
  cases rx
  obtain ⟨t, rfl⟩ := ry
  obtain ⟨its, r, ⟨⟨cls, dd, data, sl⟩, ho, hc, n, hd⟩, hs⟩ := I.tuple hT
  simp only at hc hd; subst hc hd
  refine wpAny_binaryOp_repeat_ref (T := "tuple") (U := "int") (by decide) ⟨_, ho, rfl⟩ (fun s' => typeIs_int s' 1 t) noFill_tuple_mul F.fills_int_mul F.slot_int_rmul repeat_tuple F.slot_int_index.lookup (call_meets F.slot_int_rmul (typeIs_int s 1 t) F.entry_int_rmul (F.args_int_rmul_2 _ _) (int_rmul_tuple 1 t l its.toArray n dd sl) ⟨ho, rfl, ⟨_, ho, rfl⟩, call_meets F.slot_tuple_mul ⟨_, ho, rfl⟩ F.entry_tuple_mul (F.args_tuple_mul_2 _ _) (tuple_mul1 l its.toArray n dd sl t) ⟨ho, ?_⟩⟩)
  exact ⟨.ref l, H, I.tok _, rfl, q⟩
section
variable {U : Ct} {env : Ev0} {W : Ow} {Ψ : D → Ow → Prop} {Φ : Ke} {e a b c o i v : Expr} {pos p0 p1 pa : Pos} {es : List Expr}
theorem ev_mulT (h : Ev U a env W fun d1 W1 => Ev U b env W1 fun d2 W2 => ∃ (ds : List PyData) (k : Nat), d1 = .p (.tuple ds) ∧ d2 = .p (.int (k : Nat)) ∧ ds ≠ [] ∧ 1 ≤ k ∧ k ≤ 1000 ∧ ds.length ≤ 1000 ∧ Ψ (.p (.tuple (List.replicate k ds).flatten)) W2) : Ev U (.BinOp a .Mult b pos) env W Ψ := by
  refine ev_bin (OpR.or op_repT op_repT1) (h.imp fun d1 W1 h1 => h1.imp fun d2 W2 h2 => ?_)
  intro G H x y eg hs rx ry Q q
  obtain ⟨ds, k, rfl, rfl, hn, h1, h2, hz, z⟩ := h2
  cases (show Rp _ _ _ from ry)
  cases (show Rp G x (.tuple ds) from rx) with
  | tup hl ra =>
    by_cases hk : k = 1
    · subst hk
      rw [show (List.replicate 1 ds).flatten = ds by simp] at z
      exact .inr ⟨_, _, rfl, rfl, SqT.of (hs.g _ _ hl), q _ G H (.p (.tuple ds)) W2 (Ex.refl G) hs (show Rp _ _ _ from Rp.tup hl ra) z⟩
    · refine .inl ⟨_, _, _, rfl, rfl, SqT.of (hs.g _ _ hl), fun e => ?_, by omega, by omega, by rw [ra.len]; exact hz, fun p hp => ?_⟩
      · have := ra.len
        rw [e] at this
        exact hn (List.eq_nil_of_length_eq_zero this.symm)
      · rw [Int.toNat_natCast]
        exact q _ _ _ (.p (.tuple _)) W2 (hs.ex hp) (hs.new hp) (show Rp _ _ _ from Rp.tup upd_same ((RpAll.mono (hs.ex hp) _ _ ra).flat k)) z
/-! ### range(n) as a value -/
theorem cr_range1 {X : Cx} : CallR X (.type "range") (fun vs H Q => ∃ j, vs = [V.int j] ∧ ∀ p, H p = none → Q (.ref p) (upd H p (.rng 0 j))) := by
  intro pins s σ H vs us Q I r h
  obtain ⟨j, rfl, q⟩ := h
  cases r with
  | cons r rr =>
    cases rr
    obtain ⟨t, rfl⟩ := r
    refine call_range_1 ⟨.ref s.heap.objs.size, upd H s.heap.objs.size (.rng 0 j), I.laid (t' := s.toks + 1 + 1) (fun b o e => Heap.get?_push_of_some _ e) (Nat.le_refl _) ?_, rfl, q _ (I.hok.fresh (Nat.le_refl _))⟩
    exact ⟨s.toks, t, s.toks + 1, Heap.get?_push_size _ rfl⟩
theorem ev_rng1 (B : Blt U.X.mg) (hg : Gl U.X "range") (h : EvA U [e] env W fun ds W1 => ∃ j : Int, ds = [.p (.int j)] ∧ Ψ (.rng j) W1) (he : starEach [e] U.X.env = (false, eval e U.X.env) :: starEach [] U.X.env := by rfl) : Ev U (.Call (.Name "range" p0) [e] [] pos) env W Ψ :=
  ev_callTy cr_range1 hg B.range boot_range (h.imp fun ds W1 z => by
    intro G H vs eg hs ra Q q
    obtain ⟨j, rfl, k⟩ := z
    cases ra with
    | cons r1 r2 =>
      cases r2
      cases (show Rp _ _ _ from r1)
      exact ⟨j, rfl, fun p hp => q _ _ _ (.rng j) _ (hs.ex hp) (hs.new hp) ⟨p, rfl, upd_same⟩ k⟩) (he := he) (hpl := rfl)
def iRngV (tl : TE) : TI := fun σ H R => tl σ H fun x H1 => ∃ a j, x = .ref a ∧ H1 a = some (.rng 0 j) ∧ -(2 ^ 62) ≤ j ∧ j < 2 ^ 62 ∧ R (Itr 0 j.toNat) H1
theorem pi_rngV {X : Cx} {tg l : Expr} {tl : TE} (hl : PE X l tl) : PI X tg l (iRngV tl) := by
  refine ⟨fun pins s σ H R I h => ?_⟩
  refine thn (hl.run pins s σ H _ I h) fun v s1 ⟨x, H1, I1, r1, q1⟩ => ?_
  obtain ⟨a, j, e, ha, j1, j2, q⟩ := q1
  subst e
  cases r1
  obtain ⟨t, u, w, ho⟩ := I1.hok a _ ha
  refine wpAny_pyIter_range (show IsRange _ a 0 j 1 t u w from ho) (small_one (by omega) (by omega) j1 j2) ?_
  refine ⟨s1.heap.objs.size, [s1.heap.objs.size], _, _, H1, rfl, I1.kept (t' := s1.toks) fun b o e => Heap.get?_push_of_some _ e, turn_range _ 0 j.toNat, ?_, fun b hb => ?_, q⟩
  · have e1 : (0 : Int) + ((0 : Nat) : Int) * 1 = 0 := by simp
    have e2 : ((j.toNat : Nat) : Int) - ((0 : Nat) : Int) = Builtin.Range.rangeSize 0 j 1 := by rw [rangeSize_one]; split <;> omega
    show IsRangeIter _ _ ((0 : Int) + ((0 : Nat) : Int) * 1) (((j.toNat : Nat) : Int) - ((0 : Nat) : Int)) 1
    rw [e1, e2]; exact Heap.get?_push_size _ rfl
  · obtain rfl : b = s1.heap.objs.size := by simpa using hb
    exact I1.fpOk (Nat.le_refl _) (I1.hok.fresh (Nat.le_refl _))
theorem ei_rngV {tg : Expr} {Ψ : Nat → (Nat → D) → Ow → Prop} (h : Ev U e env W fun d W1 => ∃ j : Int, d = .rng j ∧ -(2 ^ 62) ≤ j ∧ j < 2 ^ 62 ∧ Ψ j.toNat (fun i => .p (.int i)) W1) : EvI U tg e env W Ψ :=
  fun σ G H eg hs sl R q => SemI.of (pi_rngV pe_sem) (h σ G H eg hs sl _ fun x G1 H1 d1 W1 e1 h1 r1 z1 => by
    obtain ⟨j, rfl, j1, j2, k⟩ := z1
    obtain ⟨a, rfl, ha⟩ := r1
    refine ⟨a, j, rfl, h1.g _ _ ha, j1, j2, q _ _ (fun i => .p (.int i)) G1 H1 W1 _ _ walk_range e1 h1 (fun _ _ _ _ _ => True.intro) (fun i H3 y H4 G3 W3 hi e3 h3 y4 => ?_) k⟩
    obtain ⟨rfl, hy⟩ := y4
    subst hy
    refine ⟨G3, Ex.refl _, h3, ?_⟩
    show Rp G3 (.int (0 + (i : Int))) (.int i)
    rw [Int.zero_add]
    exact Rp.int _)
/-! ### x + y, x == y of the class -/
structure AddO (K : PySem.W.Frag) (C g : Addr) : Prop where
  at_ : PySem.W.findIn K (.ref C) "__add__" = some (some (.ref g))
  fn : PySem.W.isFn K (.ref g) = true
  sf : PySem.W.selfFirst K C = true
structure EqO (K : PySem.W.Frag) (C g : Addr) : Prop where
  at_ : PySem.W.findIn K (.ref C) "__eq__" = some (some (.ref g))
  fn : PySem.W.isFn K (.ref g) = true
def rOwn (C : Addr) (sp : Sp) (E : XK) : R2 := fun x y H Q => ∃ a b dx dy fs gs, x = .ref a ∧ y = .ref b ∧ H a = some (.ins C dx fs) ∧ H b = some (.ins C dy gs) ∧ sp [x, y] H Q E
theorem backV {Q : Value → Shared → Prop} {z : V} {w : Value} {s' : Shared} (r : RelV z w) (h : Q w s') : PySem.W.CmpBack Q w s' := by
  cases w <;> first | exact h | (exfalso; cases z <;> first | (cases r; done) | (obtain ⟨_, r⟩ := r; cases r))
theorem op_addO {X : Cx} {CX : CXT} {C g : Addr} {k : Nat} {sp : Sp} {E : XK} (ao : AddO X.K C g) (F : FnR X.prog X.w X.K X.mg X.base CX k g sp) (hr : Room k X.A) (hx : Passes CX X E) : OpR X (binaryOp .Add) (rOwn C sp E) := by
  intro pins s σ H x y v u Q I rx ry h
  obtain ⟨a, b, dx, dy, fs, gs, rfl, rfl, ea, eb, q⟩ := h
  cases rx; cases ry
  obtain ⟨_, O, _⟩ := ins_get I.hok ea
  obtain ⟨_, O', _⟩ := ins_get I.hok eb
  obtain ⟨_, J, _⟩ := O.look
  obtain ⟨_, J', _⟩ := O'.look
  obtain ⟨_, hF⟩ := I.fr
  exact PySem.W.binop_K (op := .Add) hF I.ok.mod.kin J J'.type ao.sf ao.at_ ao.fn (thn (wpAny_call (run_fnR (us := [.ref a, .ref b]) (vs := [.ref a, .ref b]) F hr hx I (.cons rfl (.cons rfl .nil)) q)) fun w s' z => by
    obtain ⟨y, H', I', r, z⟩ := z
    exact backV r ⟨y, H', I', r, z⟩)
theorem op_eqO {X : Cx} {CX : CXT} {C g : Addr} {k : Nat} {sp : Sp} {E : XK} (ao : EqO X.K C g) (F : FnR X.prog X.w X.K X.mg X.base CX k g sp) (hr : Room k X.A) (hx : Passes CX X E) : OpR X (compareOp .Eq) (rOwn C sp E) := by
  intro pins s σ H x y v u Q I rx ry h
  obtain ⟨a, b, dx, dy, fs, gs, rfl, rfl, ea, eb, q⟩ := h
  cases rx; cases ry
  obtain ⟨_, O, _⟩ := ins_get I.hok ea
  obtain ⟨_, O', _⟩ := ins_get I.hok eb
  obtain ⟨_, J, _⟩ := O.look
  obtain ⟨_, J', _⟩ := O'.look
  obtain ⟨_, hF⟩ := I.fr
  exact PySem.W.cmp_K (op := .Eq) (tb := .ref C) hr.units0 hF I.ok.mod.kin J J'.type (by simp [PySem.W.notFirst]) ao.at_ ao.fn (thn (wpAny_call (run_fnR (us := [.ref a, .ref b]) (vs := [.ref a, .ref b]) F hr hx I (.cons rfl (.cons rfl .nil)) q)) fun w s' z => by
    obtain ⟨y, H', I', r, z⟩ := z
    exact backV r ⟨y, H', I', r, z⟩)
theorem opd_own {L : Pl} {Cn : Con} {C' : Addr} {d1 d2 : D} {W2 : Ow} (hC : C' = U.C) (hL : L.Has U) (ok : U.Ok) (h : (∃ r1 r2, d1 = .tt r1 ∧ d2 = .tt r2) ∧ Cn [d1, d2] W2 Ψ U.Ξ) : OpD U (rOwn C' (spG L Cn) U.E) d1 d2 W2 Ψ := by
  intro G H x y eg hs rx ry Q q
  obtain ⟨⟨r1, r2, rfl, rfl⟩, z⟩ := h
  have rx' := rx
  have ry' := ry
  obtain ⟨a, dx, t, rfl, hi, _⟩ := rx
  obtain ⟨b, dy, t', rfl, hj, _⟩ := ry
  subst hC
  exact ⟨a, b, dx, dy, _, _, rfl, rfl, hs.g _ _ hi, hs.g _ _ hj, sp_run hL ok eg hs (.cons rx' (.cons ry' .nil)) z q⟩
theorem ev_addO {L : Pl} {Cn : Con} {k : Nat} {g : Addr} (hL : L.Has U) (ok : U.Ok) (ao : AddO U.X.K U.C g) (F : FnC L k g Cn) (hk : k ≤ U.k)
    (h : Ev U a env W fun d1 W1 => Ev U b env W1 fun d2 W2 => (∃ r1 r2, d1 = .tt r1 ∧ d2 = .tt r2) ∧ Cn [d1, d2] W2 Ψ U.Ξ) : Ev U (.BinOp a .Add b pos) env W Ψ :=
  ev_bin (op_addO (E := U.E) ao (F.at_ hL) (ok.room.mono hk) (passU hL ok)) (h.imp fun d1 W1 h1 => h1.imp fun d2 W2 h2 => opd_own rfl hL ok h2)
theorem ev_eqO {L : Pl} {Cn : Con} {k : Nat} {g : Addr} (hL : L.Has U) (ok : U.Ok) (ao : EqO U.X.K U.C g) (F : FnC L k g Cn) (hk : k ≤ U.k)
    (h : Ev U a env W fun d1 W1 => Ev U b env W1 fun d2 W2 => (∃ r1 r2, d1 = .tt r1 ∧ d2 = .tt r2) ∧ Cn [d1, d2] W2 Ψ U.Ξ) : Ev U (.Compare a [.Eq] [b] pos) env W Ψ :=
  ev_cmp (op_eqO (E := U.E) ao (F.at_ hL) (ok.room.mono hk) (passU hL ok)) (nomark _) (h.imp fun d1 W1 h1 => h1.imp fun d2 W2 h2 => opd_own rfl hL ok h2)
theorem et_eqO {L : Pl} {Cn : Con} {k : Nat} {g : Addr} {Ψ : Bool → Ow → Prop} (hL : L.Has U) (ok : U.Ok) (ao : EqO U.X.K U.C g) (F : FnC L k g Cn) (hk : k ≤ U.k)
    (h : Ev U a env W fun d1 W1 => Ev U b env W1 fun d2 W2 => (∃ r1 r2, d1 = .tt r1 ∧ d2 = .tt r2) ∧ Cn [d1, d2] W2 (fun d W3 => ∃ k, d = .p (.bool k) ∧ Ψ k W3) U.Ξ) : EvT U (.Compare a [.Eq] [b] pos) env W Ψ :=
  et_cmpG (op_eqO (E := U.E) ao (F.at_ hL) (ok.room.mono hk) (passU hL ok)) (nomark _) (h.imp fun d1 W1 h1 => h1.imp fun d2 W2 h2 => opd_own rfl hL ok h2)
/-! ### isinstance(x, C), C the class -/
theorem ev_isC {x : Expr} (c : C8.InsC U.X.K U.C) (B : Blt U.X.mg) (hg : Gl U.X "isinstance") (h : EvA U [e, x] env W fun ds W1 => ∃ rows, ds = [.tt rows, .adr U.C] ∧ Ψ (.p (.bool true)) W1)
    (he : starEach [e, x] U.X.env = (false, eval e U.X.env) :: starEach [x] U.X.env := by rfl) (hpl : (backTo pos (starEach [x] U.X.env)).any (·.1) = false := by rfl) : Ev U (.Call (.Name "isinstance" p0) [e, x] [] pos) env W Ψ :=
  ev_callB (C8.call_isC c) hg B.isinstance (by decide +kernel) (h.imp fun ds W1 z => by
    intro G H vs eg hs ra Q q
    obtain ⟨rows, rfl, k⟩ := z
    cases ra with
    | cons r1 r2 =>
      cases r2 with
      | cons r3 r4 =>
        cases r4
        obtain ⟨a, dx, t, rfl, hi, rt⟩ := r1
        obtain rfl := show _ = V.ref U.C from r3
        exact ⟨a, dx, _, rfl, hs.g _ _ hi, q _ G H (.p (.bool true)) _ (Ex.refl G) hs (show Rp _ _ _ from Rp.bl _) k⟩) (he := he) (hpl := hpl)
/-! ### a play's parts, d.get(x, None) -/
def at4 (a : PyData) (f : Int → Option Int) (b c : PyData) : Nat → D
  | 0 => .p a
  | 1 => .dct f
  | 2 => .p b
  | _ => .p c
theorem ev_ix4 (h : Ev U a env W fun d1 W1 => Ev U b env W1 fun d2 W2 => ∃ q1 f q3 q4 i, d1 = .pl4 q1 f q3 q4 ∧ d2 = .p (.int ((i : Nat) : Int)) ∧ i < 4 ∧ Ψ (at4 q1 f q3 q4 i) W2) (hs : PlainIx b := by exact fun _ _ => rfl) : Ev U (.Subscript a b pos) env W Ψ :=
  .here (pe_ix ix_tup pe_sem pe_sem hs) fun σ G H eg h0 sl Q q => h σ G H eg h0 sl _ fun x G1 H1 d1 W1 e1 h1 r1 z1 =>
    z1 σ G1 H1 (eg.trans e1) h1 (sl.mono e1) _ fun y G2 H2 d2 W2 e2 h2 r2 z2 => by
      obtain ⟨q1, f, q3, q4, i, rfl, rfl, hi, k⟩ := z2
      obtain ⟨t, d, kvs, v1, v3, v4, rfl, ht, s1, ⟨hd, hf⟩, s3, s4⟩ := r1.mono e2
      cases (show Rp _ _ _ from r2)
      have e : i = 0 ∨ i = 1 ∨ i = 2 ∨ i = 3 := by omega
      rcases e with rfl | rfl | rfl | rfl
      · exact ⟨_, _, _, v1, rfl, rfl, SqT.of (h2.g _ _ ht), rfl, q v1 G2 H2 (.p q1) W2 (e1.trans e2) h2 s1 k⟩
      · exact ⟨_, _, _, .ref d, rfl, rfl, SqT.of (h2.g _ _ ht), rfl, q (.ref d) G2 H2 (.dct f) W2 (e1.trans e2) h2 ⟨d, kvs, rfl, hd, hf⟩ k⟩
      · exact ⟨_, _, _, v3, rfl, rfl, SqT.of (h2.g _ _ ht), rfl, q v3 G2 H2 (.p q3) W2 (e1.trans e2) h2 s3 k⟩
      · exact ⟨_, _, _, v4, rfl, rfl, SqT.of (h2.g _ _ ht), rfl, q v4 G2 H2 (.p q4) W2 (e1.trans e2) h2 s4 k⟩
theorem ev_dget2 (ok : U.Ok) {e2 : Expr} (h : Ev U o env W fun d1 W1 => (∃ f, d1 = .dct f) ∧ Ev U e env W1 fun d2 W2 => ∃ f x, d1 = .dct f ∧ d2 = .p (.int x) ∧ Ev U e2 env W2 fun d3 W3 => d3 = .p .none ∧ Ψ (.p (optD (f x))) W3)
    (m1 : attributeBase o "get" U.X.env (eval o U.X.env) = eval o U.X.env := by rfl)
    (m2 : ((backTo pos (starEach [e, e2] U.X.env)).all (fun x => !x.1) && (backToKw pos (keywordEach [] U.X.env)).all (fun x => x.1.isSome) && decide (([e, e2] : List Expr).length + ([] : List Keyword).length + (if ([] : List Keyword).isEmpty then 0 else 1) < 30)) = true := by rfl)
    (m3 : (pa.endLine == pos.line) = true := by rfl) (m4 : backTo pos (starEach [e, e2] U.X.env) = [(false, eval e U.X.env), (false, eval e2 U.X.env)] := by rfl) : Ev U (.Call (.Attribute o "get" pa) [e, e2] [] pos) env W Ψ :=
  .here (pe_dget2 (unit1 ok) pe_sem pe_sem pe_sem ⟨m1, m2, m3, m4⟩) fun σ G H eg h0 sl Q q => h σ G H eg h0 sl _ fun x1 G1 H1 d1 W1 e1 h1 r1 z1 => by
    obtain ⟨⟨f, rfl⟩, z1⟩ := z1
    obtain ⟨a, kvs, rfl, ha, hf⟩ := r1
    refine ⟨a, rfl, .inl ⟨kvs, .inl (h1.g _ _ ha)⟩, z1 σ G1 H1 (eg.trans e1) h1 (sl.mono e1) _ fun x2 G2 H2 d2 W2 e2 h2 r2 z2 => ?_⟩
    obtain ⟨f', x, hff, rfl, z2⟩ := z2
    cases hff
    cases (show Rp _ _ _ from r2)
    refine z2 σ G2 H2 ((eg.trans e1).trans e2) h2 (sl.mono (e1.trans e2)) _ fun x3 G3 H3 d3 W3 e3 h3 r3 z3 => ?_
    obtain ⟨rfl, k⟩ := z3
    cases (show Rp _ _ _ from r3)
    refine ⟨_, DGet.k (k := .inl x) (h3.g _ _ (e3 _ _ (e2 _ _ ha))), ?_⟩
    rw [hf x]
    have e12 := (e1.trans e2).trans e3
    cases hx : f x with
    | none => rw [hx] at k; exact q .non G3 H3 (.p .none) W3 e12 h3 (show Rp _ _ _ from Rp.non) k
    | some y => rw [hx] at k; exact q (.int y) G3 H3 (.p (.int y)) W3 e12 h3 (show Rp _ _ _ from Rp.int y) k
/-! ### [e for .. in x], x an owned list of any data -/
theorem RepAll.nth {K : PySem.W.Frag} {C : Addr} {G : Hp} : ∀ {vs : List V} {ds : List D} {i : Nat} {v : V}, RepAll K C G vs ds → vs[i]? = some v → Rep K C G v (ds.getD i (.p .none))
  | _, _, _, _, .nil, e => by simp at e
  | _, _, 0, _, .cons h _, e => by simp at e; subst e; exact h
  | _, _, i + 1, _, .cons _ h, e => by simpa using RepAll.nth (i := i) h (by simpa using e)
def LcOwn (U : Ct) (elt tg iter : Expr) (scope : Scope) (own : List (Str × Nat)) (js : List Nat) (env : Ev0) (W : Ow) (Ψ : D → Ow → Prop) : Prop :=
  Ev U iter env W fun d W1 => ∃ (p : Addr) (L R : Ow) (ds : List D) (E2 : Nat → Ev0) (f : Nat → PyData), d = .adr p ∧ W1 = L ++ (p, .l ds) :: R ∧ ds.length ≤ 1000000 ∧
      (∀ (s : Shared) (H : Hp) (C : Addr) (cl : List (Str × Addr)) (fp : List Addr) (i : Nat) (Wi : Ow), i < ds.length → EvG (U.blk s H scope C cl fp) js tg (ds.getD i (.p .none)) (wipeE env (own.map (·.2))) Wi fun env2 W2 => env2 = E2 i ∧ W2 = Wi) ∧
      (∀ (s : Shared) (H : Hp) (C : Addr) (cl : List (Str × Addr)) (fp : List Addr) (i : Nat) (Wi : Ow), i < ds.length → Ev (U.blk s H scope C cl fp) elt (E2 i) Wi fun d W4 => d = .p (f i) ∧ W4 = Wi) ∧
      Ψ (.p (.list ((List.range ds.length).map f))) W1
theorem LcOwn.reading {elt tg iter : Expr} {scope : Scope} {own : List (Str × Nat)} {js : List Nat} (hjs : ∀ j ∈ js, j ∈ own.map (·.2)) (h : LcOwn U elt tg iter scope own js env W Ψ) :
    ∀ (σ : L2.St) (G H : Hp), Ex U.G G → Hs U.X.K U.C U.T G W H → Slots U.X.K U.C G σ env → ∀ Q : VK, (∀ v G2 H2 d W2, Ex G G2 → Hs U.X.K U.C U.T G2 W2 H2 → U.R G2 v d → Ψ d W2 → Q v H2) →
      tLc (SemI U.X tg iter) (gB U scope tg) (ttB U scope []) (teB U scope elt) (own.map (·.2)) σ H Q :=
  fun σ G H eg h0 sl Q q => SemI.of (pi_list pe_sem) (h σ G H eg h0 sl _ fun x G1 H1 d1 W1 e1 h1 r1 z1 => by
    obtain ⟨p, L, R, ds, E2, f, rfl, rfl, hn, htg, hel, fin⟩ := z1
    obtain rfl : x = .ref p := r1
    obtain ⟨o1, ho1, xs, rfl, ra⟩ := h1.at_
    have hx : xs.length = ds.length := ra.len
    have h1x : Hs U.X.K U.C U.T G1 (L ++ (p, .lx xs ds) :: R) H1 := h1.as_ ho1 ⟨rfl, ra⟩
    refine ⟨p, rfl, ⟨xs, SqL.of ho1⟩, ?_⟩
    intro Dl hD
    have sl1 := sl.mono e1
    have atx : ∀ {G' H' : Hp} {A : Ow}, Hs U.X.K U.C U.T G' (A ++ (p, .lx xs ds) :: R) H' → H' p = some (.lst xs) := fun hh => by
      obtain ⟨o, ho, eo, _⟩ := hh.at_
      rw [ho, eo]
    refine lc_it (g := gB U scope tg) (tt := ttB U scope []) (te := teB U scope elt) (vs := own.map (·.2)) (σ := σ) (Qd := fun H => Q (.ref Dl) H) (walk_list (xs := xs)) (fun i H' => ∃ G', Ex G1 G' ∧ Hs U.X.K U.C U.T G' ((Dl, .l (((List.range i).map f).map .p)) :: (L ++ (p, .lx xs ds) :: R)) H') ⟨G1, Ex.refl _, h1x.own (u := .l []) hD ⟨[], rfl, .nil⟩⟩ ?_ ?_ ?_
    · rintro i H' _ ⟨G', e', h'⟩
      exact SqL.of (atx (A := (Dl, .l (((List.range i).map f).map .p)) :: L) h')
    · rintro i x H3 H4 hi ⟨G', e', h'⟩ y
      obtain ⟨rfl, hy⟩ := y
      intro s Hb C cl fp
      have sl4 := (sl1.mono e').wipe (own.map (·.2))
      have eg4 := (eg.trans e1).trans e'
      refine htg s Hb C cl fp i _ (by omega) _ G' _ x eg4 h' sl4 ((ra.mono e').nth hy) _ fun σ5 G5 H5 env5 W5 e5 h5 s5 f5 z5 => ?_
      obtain ⟨ee, ew⟩ := z5
      subst ee ew
      refine ⟨wipe_same f5.1 fun i hi => f5.2 i fun hj => hi (hjs i hj), fun s1 Hb1 C1 cl1 fp1 => ?_⟩
      have eg5 := eg4.trans e5
      refine EvTs.run (U := U.blk s1 Hb1 scope C1 cl1 fp1) (ifs := []) (env := E2 i) (W := (Dl, .l (((List.range i).map f).map .p)) :: (L ++ (p, .lx xs ds) :: R)) (Ψ := fun t W2 => t = true ∧ W2 = (Dl, .l (((List.range i).map f).map .p)) :: (L ++ (p, .lx xs ds) :: R)) ⟨rfl, rfl⟩ eg5 h5 s5 fun b G6 H6 W6 e6 h6 z6 => ?_
      obtain ⟨eb, ew⟩ := z6
      subst eb ew
      rw [if_pos rfl]
      intro s2 Hb2 C2 cl2 fp2
      refine hel s2 Hb2 C2 cl2 fp2 i _ (by omega) σ5 G6 H6 (eg5.trans e6) h6 (s5.mono e6) _ fun v G7 H7 d W7 e7 h7 r7 z7 => ?_
      obtain ⟨ed, ew⟩ := z7
      subst ed ew
      obtain ⟨o, ho, ys, eo, ra7⟩ := Hs.at_ (W1 := []) h7
      rw [eo] at ho
      have hxl : ys.length = i := by rw [ra7.len, List.length_map, List.length_map, List.length_range]
      refine ⟨ys, ho, by rw [hxl]; exact Nat.lt_of_lt_of_le (show i < 10000000 by omega) (by rw [sizeLine_eq]; decide), G7, ((e'.trans e5).trans e6).trans e7, ?_⟩
      exact Hs.put (W1 := []) (u' := .l (((List.range (i + 1)).map f).map .p)) h7 ⟨ys ++ [v], rfl, by rw [List.range_succ, List.map_append, List.map_append]; exact ra7.app (.cons r7 .nil)⟩
    · rintro H' ⟨G', e', h'⟩
      obtain ⟨o, ho, zs, eo, rz⟩ := Hs.at_ (W1 := []) h'
      rw [eo] at ho
      have hg := Hs.give (W1 := []) h' ho
      have ge := Hs.gave (o := .lst zs) (W1 := []) h'
      rw [hx] at rz
      refine q _ _ H' (.p (.list ((List.range ds.length).map f))) (L ++ (p, .l ds) :: R) ((e1.trans e').trans ge) (Hs.as_ hg (atx (A := L) hg) ⟨xs, rfl, (ra.mono e').mono ge⟩) (show Rp _ _ _ from Rp.lst upd_same (RpAll.mono ge _ _ (RepAll.data rz))) fin)
theorem ev_lcOwnD (ok : U.Ok) {elt tg iter : Expr} {scope : Scope} (own : List (Str × Nat)) (js : List Nat) (hjs : ∀ j ∈ js, j ∈ own.map (·.2)) (bok : BlkOk U.X.N U.X.env.scope scope own)
    (h : LcOwn U elt tg iter scope own js env W Ψ) (hs : ∀ x, foldedSetIterable iter U.X.env x = pure x := by intro _; rfl) : Ev U (.ListComp elt [⟨tg, iter, [], 0⟩] scope pos) env W Ψ :=
  fun σ G H eg h0 sl Q q => SemE.of (pe_lcB ok bok (by decide) hs) (h.reading hjs σ G H eg h0 sl Q q)
theorem w_setLcOwn (ok : U.Ok) (i : Nat) {x : Str} {p1 ps : Pos} {elt tg iter : Expr} {scope : Scope} (own : List (Str × Nat)) (js : List Nat) (hi : U.X.N[i]? = some x) (hl : U.X.env.scope.names.lookup x = some .local) (hjs : ∀ j ∈ js, j ∈ own.map (·.2)) (bok : BlkOk U.X.N U.X.env.scope scope own)
    (hsw : swapsWith (.ListComp elt [⟨tg, iter, [], 0⟩] scope pos) (some (.Name x p1)) ps.line U.X.env = pure true) (h : LcOwn U elt tg iter scope own js env W fun d W1 => Φ.nx (env.set i (some d)) W1) (hs : ∀ x, foldedSetIterable iter U.X.env x = pure x := by intro _; rfl) :
    Wp1 U (.Assign [.Name x p1] (.ListComp elt [⟨tg, iter, [], 0⟩] scope pos) ps) env W Φ :=
  fun σ G H eg h0 sl Dn ke => SemS.of (ps_setLc (own := own) (g := gB U scope tg) (tt := ttB U scope []) (te := teB U scope elt) ok.calm ok.nd hi hl hsw pi_sem bok (fun s H C cl fp => ⟨fun pins s' σ H' v u Q I r h => h s H C cl fp pins s' u I r⟩)
    (fun s H C cl fp => ⟨fun pins s' σ H' Q I h => (pts_sem (by decide)).run pins s' σ H' Q I (h s H C cl fp)⟩) (fun s H C cl fp => ⟨fun pins s' σ H' Q I h => h s H C cl fp pins s' I⟩) hs)
    (h.reading hjs σ G H eg h0 sl _ fun v G2 H2 d W2 e2 h2 r2 z => ke.nx _ G2 H2 _ W2 e2 h2 ((sl.mono e2).set r2) z)
/-! ### min of three -/
theorem min2_ints (i j : Int) : nuMin2 (.int i) (.int j) = some (.int (min i j)) := by
  show some (if decide (j < i) = true then V.int j else V.int i) = _
  by_cases h : j < i
  · rw [decide_eq_true h, if_pos rfl, show min i j = j by omega]
  · rw [decide_eq_false h, if_neg (by simp), show min i j = i by omega]
theorem min3_ints (i j k : Int) : nuMin3 (.int i) (.int j) (.int k) = some (.int (min (min i j) k)) := by
  show (nuMin2 (.int i) (.int j)).bind (fun m => nuMin2 m (.int k)) = _
  rw [min2_ints]
  exact min2_ints _ _
theorem ev_min3 (ok : U.Ok) (B : Blt U.X.mg) (hg : Gl U.X "min") (h : EvA U [a, b, c] env W fun ds W1 => ∃ i j k : Int, ds = [.p (.int i), .p (.int j), .p (.int k)] ∧ Ψ (.p (.int (min (min i j) k))) W1) (he : starEach [a, b, c] U.X.env = (false, eval a U.X.env) :: starEach [b, c] U.X.env := by rfl) (hpl : (backTo pos (starEach [b, c] U.X.env)).any (·.1) = false := by rfl) : Ev U (.Call (.Name "min" p0) [a, b, c] [] pos) env W Ψ :=
  ev_callB (call_min3Nu ok.calm) hg B.min (by decide +kernel) (h.imp fun ds W1 z => by
    intro G H vs eg hs ra Q q
    obtain ⟨i, j, k, rfl, z⟩ := z
    cases ra with
    | cons r1 r2 => cases r2 with
      | cons r3 r4 => cases r4 with
        | cons r5 r6 =>
          cases r6; cases r1; cases r3; cases r5
          exact ⟨_, _, _, _, rfl, min3_ints i j k, q _ G H (.p (.int _)) _ (Ex.refl G) hs (show Rp _ _ _ from Rp.int _) z⟩) (he := he) (hpl := hpl)
end

end Q
namespace Q
open PySem PySem.Spec PyProof.Rows L2
open Evl (Ex)

/-! ### def f(a, .., *v): what is left over is a tuple without a dict -/
def starZ (n : Nat) (sp : Sp) : Sp := fun vs H Q E => ∃ ws rest, vs = ws ++ rest ∧ ws.length = n ∧ rest.length ≤ sizeLine ∧ ∀ (p : Addr) (o : Obj), H p = none → o.cls = .type "tuple" → o.dict = none → sp (ws ++ [V.ref p]) (upd H p (.frz o (.tup rest))) Q E
section
variable {CX : CXT} {P : Program} {w : World} {K : PySem.W.Frag} {mg : Str → Option Value} {base : Heap} {k : Nat} {f : Addr} {name qual : Str} {params : Arguments} {body : List Stmt} {scope : Scope} {dV kV doc pm cdv ct oc : Value} {an od : Option Addr} {osl : Array (Option Value)} {N ps : List Str} {sp : Sp}
theorem fn_starZ {pv : Str} (lk : K.lookup f = some ⟨oc, od, .func (PySem.W.fnOf name qual params body scope dV kV doc pm an cdv ct), osl⟩) (hcd : PySem.W.codeIn K cdv qual = true) (S : FnScope N (ps ++ [pv]) scope) (hCX : StX.CXUp CX)
    (hb : ∀ us rest : List Value, us.length = ps.length → bindArgs (PySem.W.fnOf name qual params body scope dV kV doc pm an cdv ct) ⟨us ++ rest, []⟩ = (newTuple rest >>= fun t => pure (ps.zip us ++ [(pv, t)])))
    (hbody : ∀ (A : Around) (outer : List Env) (s : Shared) (H : Hp) (vs : List V) (Q : VK) (E : XK), Room k (A.deeper (envOfC qual scope s.heap.objs.size f cdv)) → sp vs H Q E → ∃ t, PSs (cxOf CX P w K mg base N qual scope f cdv A outer s H E) body t ∧ t { nx := fun _ H' => Q .non H', rt := Q } (start N vs) H) :
    FnR P w K mg base CX (k + 1) f (starZ ps.length sp) := by
  intro A outer s H us vs Q E hr e0 r ⟨ws, rest, ev, hl, hz, hq⟩
  subst ev
  obtain ⟨u1, u2, eu, r1, r2⟩ := StX.vals_split r
  subst eu
  have hn : H s.heap.objs.size = Option.none := e0.hok.fresh (Nat.le_refl _); have hl1 : u1.length = ps.length := by rw [← r1.length]; exact hl
  have hl2 : u2.length ≤ sizeLine := by rw [← r2.length]; exact hz
  let ob : Obj := { cls := .type "tuple", data := .seq u2.toArray }
  refine StX.run_bnd lk hcd S hr e0 (G := fun xs H2 => ∃ p, H p = Option.none ∧ xs = ws ++ [V.ref p] ∧ H2 = upd H p (.frz ob (.tup rest))) (fun A' Ex Q' h => ?_) fun s2 H2 xs ⟨p, hp, ex, eH⟩ hr' => ?_
  · rw [hb u1 u2 hl1]; refine wpAny_bind (wpAny_newTuple (wpAny_pure ?_) hl2)
    have tp : ∀ H', ObjOk P w H' (s.heap.push ob) s.heap.objs.size (.tup rest) := fun _ => ⟨hz, u2, r2, ⟨_, Heap.get?_push_size _ rfl, rfl, _, rfl⟩⟩
    have new : ObjOk P w (upd H s.heap.objs.size (.frz ob (.tup rest))) (s.heap.push ob) s.heap.objs.size (.frz ob (.tup rest)) := ⟨Heap.get?_push_size _ rfl, tp _⟩
    have un := StX.un_laid (fs := frs outer) (s := s) (o := ob) (u := .frz ob (.tup rest)) hn
    have z := h _ _ (ws ++ [V.ref s.heap.objs.size]) (u1 ++ [Value.ref s.heap.objs.size]) (StX.env0_laid e0 new) un rfl (fun e s' => hCX outer s H _ _ E e s' un (fun b o q => Heap.get?_push_of_some _ q) rfl) (r1.append (.cons rfl .nil)) (by rw [List.length_append, List.length_append, hl] <;> rfl) ⟨_, hn, rfl, rfl⟩
    rw [List.zip_append hl1.symm] at z; exact z
  · subst ex eH; exact hbody A outer s2 _ _ Q E hr' (hq p ob hp rfl rfl)
end
/-- a contract of a def with a star parameter behind n others, by the arguments themselves -/
def stC (n : Nat) (Cn : Con) : Con := fun ds W Ψ Ξ => ∃ (ws : List D) (rest : List PyData), ds = ws ++ rest.map .p ∧ ws.length = n ∧ rest.length ≤ 1000 ∧ Cn (ws ++ [.ptup rest]) W Ψ Ξ
theorem RepAll.split {K : PySem.W.Frag} {C : Addr} {G : Hp} : ∀ {ds es : List D} {vs : List V}, RepAll K C G vs (ds ++ es) → ∃ v1 v2, vs = v1 ++ v2 ∧ RepAll K C G v1 ds ∧ RepAll K C G v2 es
  | [], _, vs, h => ⟨[], vs, rfl, .nil, h⟩
  | _ :: _, _, _, h => by
    cases h with
    | cons a r =>
      obtain ⟨v1, v2, rfl, h1, h2⟩ := RepAll.split r
      exact ⟨_ :: v1, v2, rfl, .cons a h1, h2⟩
theorem star_fnC {L : Pl} {Cn : Con} {n k : Nat} {f : Addr} (F : FnR L.P L.w L.K L.mg L.base (L2.CX L.P L.w) k f (starZ n (spG L Cn))) : FnC L k f (stC n Cn) :=
  FnR.imp F fun vs H Q E ⟨T, G, W, ds, Ψ, Ξ, hs, ra, c, q, qe⟩ => by
    obtain ⟨ws, rest, rfl, hl, hz, c⟩ := c
    obtain ⟨v1, v2, rfl, h1, h2⟩ := ra.split
    have rd := RepAll.data h2
    refine ⟨v1, v2, rfl, by rw [h1.len]; exact hl, by rw [rd.len]; exact Nat.le_of_lt (small1000 hz), fun p o hp hc hd => ?_⟩
    have ex := hs.ex (o := .frz o (.tup v2)) hp
    exact ⟨T, upd G p (.frz o (.tup v2)), W, ws ++ [.ptup rest], Ψ, Ξ, hs.new hp, (h1.mono ex).app (.cons (d := .ptup rest) ⟨p, o, v2, rfl, upd_same, ⟨hc, hd⟩, RpAll.mono ex _ _ rd⟩ .nil), c, fun v G2 H2 d W2 e => q v G2 H2 d W2 (ex.trans e), fun x cls dd G2 H2 W2 e => qe x cls dd G2 H2 W2 (ex.trans e)⟩
section
variable {U : Ct} {env : Ev0} {W : Ow} {Ψ : D → Ow → Prop} {Φ : Ke} {e a b c o v : Expr} {pos p0 p1 pa pc : Pos} {es : List Expr}
theorem fn_body_starZ {L : Pl} {x qual pv : Str} {st : Stmt} {f : Addr} {fd : FuncData} {N ps : List Str} {k : Nat} {Cn : Con} (F : Fun L.K x qual st f fd) (S : FnScope N (ps ++ [pv]) (defScope st))
    (hb : ∀ (kV doc pm : Value) (an : Option Addr) (cdv ct : Value) (us rest : List Value), us.length = ps.length → bindArgs (PySem.W.fnOf x qual (defArgs st) (defBody st) (defScope st) .none kV doc pm an cdv ct) ⟨us ++ rest, []⟩ = (newTuple rest >>= fun t => pure (ps.zip us ++ [(pv, t)])))
    (h : ∀ U : Ct, L.Has U → U.Ok → U.k = k → (∃ (f' : Addr) (cd : Value) (A : Around) (outer : List Env) (s : Shared) (H : Hp) (E : XK) (T : List (Addr × Str)) (G : Hp) (Ξ : Xc → Ow → Prop), U = ctOf L N qual (defScope st) f' cd A outer s H E T G Ξ k) →
      ∀ ds W Ψ, Cn ds W Ψ U.Ξ → Wp U (defBody st) (startE N ds) W ⟨fun _ W => Ψ (.p .none) W, Ψ, fun _ _ => False, fun _ _ => False⟩) : FnC L (k + 1) f (stC ps.length Cn) := by
  obtain ⟨oc, od, kV, doc, pm, an, cdv, ct, osl, rfl, lk, hcd⟩ := F.ex
  refine star_fnC (fn_starZ (ps := ps) (pv := pv) (sp := spG L Cn) lk hcd S StX.cxUp (hb kV doc pm an cdv ct) fun A outer s H vs Q E hr hsp => ?_)
  obtain ⟨T, G, W, ds, Ψ, Ξ, hs, ra, c, q, qe⟩ := hsp
  have z := h (ctOf L N qual (defScope st) f cdv A outer s H E T G Ξ k) has_ct (ct_ok hr S.nd qe) rfl ⟨f, cdv, A, outer, s, H, E, T, G, Ξ, rfl⟩ ds W Ψ c
  refine ⟨_, pss_sem, z (L2.start N vs) G H (Ex.refl G) hs (startE_ok ra) _ ⟨fun σ G2 H2 env W2 e2 h2 s2 k2 => q .non G2 H2 _ W2 e2 h2 (show Rep _ _ _ V.non (.p .none) from Rp.non) k2, fun v G2 H2 d W2 e2 h2 r2 k2 => q v G2 H2 d W2 e2 h2 r2 k2, fun _ _ _ _ _ _ _ _ z => z, fun _ _ _ _ _ _ _ _ z => z⟩⟩
/-! ### o.m(e, ..), o.m( *e), o of the class -/
theorem ev_methC {L : Pl} {Cn : Con} {k : Nat} {g : Addr} {m : Str} {pl : Sem Bool} (hL : L.Has U) (ok : U.Ok) (c : Cls U.X.K U.C) (hm : Meth U.X.K U.C m g) (F : FnC L k g Cn) (hk : k ≤ U.k)
    (h : Ev U o env W fun d1 W1 => (∃ rows, d1 = .tt rows) ∧ EvA U (e :: es) env W1 fun ds W2 => Cn (d1 :: ds) W2 Ψ U.Ξ) (hl : ∀ t : V, ([("_rows", t)] : List (Str × V)).lookup m = none := by intro _; rfl)
    (hst : starEach (e :: es) U.X.env = (false, eval e U.X.env) :: starEach es U.X.env := by rfl) (hpl : (backTo pos (starEach es U.X.env)).any (·.1) = false := by rfl)
    (ht : eval (.Call (.Attribute o m pa) (e :: es) [] pos) U.X.env = (do
      let ov ← eval o U.X.env
      standAt pa.atName
      let (f, first) ← holding [ov] (getMethod ov m pl)
      callWith pos f first (backTo pos (starEach (e :: es) U.X.env)) (backToKw pos (keywordEach [] U.X.env))) := by rfl) : Ev U (.Call (.Attribute o m pa) (e :: es) [] pos) env W Ψ :=
  .here (pe_methR (E := U.E) (pl := pl) pe_sem c hm (F.at_ hL) (ok.room.mono hk) (passU hL ok) pa_sem hst hpl ht) fun σ G H eg h0 sl Q q => by
    refine h σ G H eg h0 sl _ fun x G1 H1 d W1 e1 h1 r1 z1 => ?_
    obtain ⟨⟨rows, rfl⟩, z1⟩ := z1
    have r1' := r1
    obtain ⟨a, dx, t, rfl, hi, rt⟩ := r1
    refine ⟨a, dx, _, rfl, h1.g _ _ hi, hl t, z1 σ G1 H1 (eg.trans e1) h1 (sl.mono e1) _ fun vs G2 H2 ds W2 e2 h2 r2 z2 => ?_⟩
    exact sp_run hL ok ((eg.trans e1).trans e2) h2 (.cons (Rep.mono e2 r1') r2) z2 fun v G3 H3 d3 W3 e3 h3 r3 z3 => q v G3 H3 d3 W3 ((e1.trans e2).trans e3) h3 r3 z3
def tMethZ (K : PySem.W.Frag) (C : Addr) (m : Str) (g : Addr) (sp : Sp) (E : XK) (ta te : TE) : TE := fun σ H Q => ta σ H fun x H1 => ∃ a dx fs, x = .ref a ∧ H1 a = some (.ins C dx fs) ∧ fs.lookup m = none ∧ ∀ q, H1 q = none → te σ (upd H1 q (.met g a)) fun y H2 => ∃ b vs, y = .ref b ∧ (SqT K H2 b vs ∨ SqL K H2 b vs) ∧ H2 q = some (.met g a) ∧ sp (.ref a :: vs) H2 Q E
theorem pe_methZ {X : Cx} {CX : CXT} {k : Nat} {C g : Addr} {m : Str} {sp : Sp} {E : XK} {o e : Expr} {ta te : TE} {p apos pos : Pos} (he : PE X o ta) (c : Cls X.K C) (b : BMeth X.K C m g) (F : FnR X.prog X.w X.K X.mg X.base CX k g sp) (hr : Room k X.A) (hx : Passes CX X E) (ha : PE X e te) (hbase : attributeBase o m X.env (eval o X.env) = eval o X.env := by rfl) : PE X (.Call (.Attribute o m apos) [.Starred e p] [] pos) (tMethZ X.K C m g sp E ta te) := by
  refine ⟨fun pins s σ H Q I h => starcall_of hbase (thn (he.run pins s σ H _ I h) fun u s1 ⟨x, H1, I1, rx, a, dx, fs, ex, ea, l, q⟩ => ?_)⟩
  subst ex
  obtain rfl : u = Value.ref a := rx
  refine getbound_ok I1 ea c b l fun q1 s2 hq1 I2 => PySem.W.ks_call (P := PySem.W.MethP X.K q1 g (.ref a)) rfl (PySem.W.keeps_M b.fi) (PySem.W.ks_lone (thn (ha.run pins s2 σ _ _ I2 (q q1 hq1)) fun v s3 ⟨y, H2, I3, ry, t, vs, ey, ht, hm, hsp⟩ => ?_))
  subst ey
  obtain rfl : v = Value.ref t := ry
  exact StX.star_any I3 ht fun us s4 I4 rv => ⟨met_P I4 hm, wpAny_call (PySem.W.method_call (met_P I4 hm).1 (run_fnR (us := Value.ref a :: us) (vs := V.ref a :: vs) F hr hx I4 (.cons rfl rv) hsp))⟩
theorem ev_methZ {L : Pl} {Cn : Con} {k : Nat} {g : Addr} {m : Str} {sp_ : Pos} (hL : L.Has U) (ok : U.Ok) (c : Cls U.X.K U.C) (hm : BMeth U.X.K U.C m g) (F : FnC L k g Cn) (hk : k ≤ U.k)
    (h : Ev U o env W fun d1 W1 => (∃ rows, d1 = .tt rows) ∧ Ev U e env W1 fun d2 W2 => ∃ ds, (d2 = .p (.list ds) ∨ d2 = .ptup ds) ∧ Cn (d1 :: ds.map .p) W2 Ψ U.Ξ) (hl : ∀ t : V, ([("_rows", t)] : List (Str × V)).lookup m = none := by intro _; rfl)
    (hbase : attributeBase o m U.X.env (eval o U.X.env) = eval o U.X.env := by rfl) : Ev U (.Call (.Attribute o m pa) [.Starred e sp_] [] pos) env W Ψ :=
  .here (pe_methZ (E := U.E) pe_sem c hm (F.at_ hL) (ok.room.mono hk) (passU hL ok) pe_sem hbase) fun σ G H eg h0 sl Q q => by
    refine h σ G H eg h0 sl _ fun x G1 H1 d W1 e1 h1 r1 z1 => ?_
    obtain ⟨⟨rows, rfl⟩, z1⟩ := z1
    have r1' := r1
    obtain ⟨a, dx, t, rfl, hi, rt⟩ := r1
    refine ⟨a, dx, _, rfl, h1.g _ _ hi, hl t, fun qm hqm => ?_⟩
    have em := h1.ex (o := .met g a) hqm
    refine z1 σ _ _ ((eg.trans e1).trans em) (h1.new hqm) (sl.mono (e1.trans em)) _ fun y G2 H2 d2 W2 e2 h2 r2 z2 => ?_
    have hmm : H2 qm = some (.met g a) := h2.g _ _ (e2 _ _ upd_same)
    obtain ⟨ds, hd, z2⟩ := z2
    have fin : ∀ (b : Addr) (vs : List V), y = .ref b → (SqT U.X.K H2 b vs ∨ SqL U.X.K H2 b vs) → RpAll G2 vs ds → ∃ b vs, y = .ref b ∧ (SqT U.X.K H2 b vs ∨ SqL U.X.K H2 b vs) ∧ H2 qm = some (.met g a) ∧ spG L Cn (.ref a :: vs) H2 Q U.E := fun b vs eb hb ra =>
      ⟨b, vs, eb, hb, hmm, sp_run hL ok (((eg.trans e1).trans em).trans e2) h2 (.cons (Rep.mono (em.trans e2) r1') ra.rep) z2 fun v G3 H3 d3 W3 e3 h3 r3 z3 => q v G3 H3 d3 W3 (((e1.trans em).trans e2).trans e3) h3 r3 z3⟩
    rcases hd with rfl | rfl
    · cases (show Rp G2 y (.list ds) from r2) with
      | lst hl ra => exact fin _ _ rfl (.inr (SqL.of (h2.g _ _ hl))) ra
    · obtain ⟨b, ob, xs, rfl, hb, _, ra⟩ := r2
      exact fin b xs rfl (.inl (.inl (.inr ⟨ob, h2.g _ _ hb⟩))) ra
/-! ### try, of which the body raises nothing -/
def Ct.nox (U : Ct) : Ct := { U with X := U.X.nox, Ξ := fun _ _ => False, E := fun _ _ _ => False }
theorem Ct.Ok.nox (ok : U.Ok) : U.nox.Ok where
  calm := ok.calm
  room := ok.room
  nd := ok.nd
  po := PassesOwn.never
  tk := fun _ _ x => by
    obtain ⟨_, _, _, _, _, _, _, _, _, _, _, _, _, _, _, _, z⟩ := x
    exact z.elim
  ex := fun _ _ _ _ _ _ _ _ _ z => z.elim
theorem Pl.Has.nox {L : Pl} (h : L.Has U) : L.Has U.nox := ⟨h.P, h.w, h.K, h.mg, h.base, h.C, h.cN, h.cL, h.cA, h.cT⟩
theorem w_try {body : List Stmt} {h₀ : ExceptHandler} {hds : List ExceptHandler} (h : Wp U.nox body env W Φ) : Wp1 U (.Try body (h₀ :: hds) [] [] pos) env W Φ :=
  fun σ G H eg hs sl Dn ke => SemS.of (ps_try_thru0 (X := U.X) (t := SemB U.X.nox body) ⟨fun pins s σ H D I z => z pins s I⟩) (h σ G H eg hs sl Dn ⟨ke.nx, ke.rt, ke.bk, ke.ct⟩)
/-! ### a star parameter: walked, counted -/
theorem ei_ptup {tg : Expr} {Ψ : Nat → (Nat → D) → Ow → Prop} (h : Ev U e env W fun d W1 => ∃ ds, d = .ptup ds ∧ Ψ ds.length (datAt ds) W1) : EvI U tg e env W Ψ :=
  fun σ G H eg hs sl R q => SemI.of (pi_tup pe_sem) (h σ G H eg hs sl _ fun x G1 H1 d1 W1 e1 h1 r1 z1 => by
    obtain ⟨ds, rfl, k⟩ := z1
    obtain ⟨a, ob, xs, rfl, hb, _, ra⟩ := r1
    refine ⟨a, rfl, ⟨xs, .inl (.inr ⟨ob, h1.g _ _ hb⟩)⟩, q _ _ (datAt ds) G1 H1 W1 _ _ walk_tup e1 h1 (fun G3 H3 W3 e3 h3 => .inl (.inr ⟨ob, h3.g _ _ (e3 _ _ hb)⟩)) (fun i H3 y H4 G3 W3 hi e3 h3 y4 => ?_) (by rw [ra.len]; exact k)⟩
    obtain ⟨rfl, hy⟩ := y4
    exact ⟨G3, Ex.refl _, h3, (RpAll.mono e3 _ _ ra).nth hy⟩)
def tCntZ (to te : TE) : TE := fun σ H Q => to σ H fun x H1 => ∃ (a : Addr) (o : Obj) (ns : List Int), x = .ref a ∧ H1 a = some (.frz o (.tup (ns.map V.int))) ∧ o.cls = .type "tuple" ∧ o.dict = none ∧ te σ H1 fun y H2 => H2 a = some (.frz o (.tup (ns.map V.int))) ∧ ∃ k : Int, y = .int k ∧ Q (.int (ns.count k : Nat)) H2
theorem pe_cntZ {X : Cx} {to te : TE} {o e : Expr} {apos cpos : Pos} (ho : PE X o to) (he : PE X e te) (hbase : attributeBase o "count" X.env (eval o X.env) = eval o X.env := by rfl)
    (hfew : ((backTo cpos (starEach [e] X.env)).all (fun x => !x.1) && (backToKw cpos (keywordEach [] X.env)).all (fun x => x.1.isSome) && decide (([e] : List Expr).length + ([] : List Keyword).length + (if ([] : List Keyword).isEmpty then 0 else 1) < 30)) = true := by rfl)
    (hline : (apos.endLine == cpos.line) = true := by rfl) (hs : starEach [e] X.env = [(false, eval e X.env)] := by rfl) : PE X (.Call (.Attribute o "count" apos) [e] [] cpos) (tCntZ to te) := by
  refine ⟨fun pins s σ H Q I h => wpAny_Call_method_late hbase hfew hline rfl (thn (ho.run pins s σ H _ I h) fun v s1 ⟨x, H1, I1, r1, a, ob, ns, ex, ha, hc, hd, q1⟩ => ?_)⟩
  subst ex
  obtain rfl : v = Value.ref a := r1
  obtain ⟨hg, _⟩ := I1.hok a _ ha
  refine ⟨"tuple", "tuple.count", PySem.F.plainAttrs_tuple, PySem.F.slot_tuple_count, PySem.F.type_tuple_count, ⟨ob, hg, hc⟩, (fun b e => by cases e; exact ⟨ob, hg, hd⟩), ?_⟩
  rw [show backTo cpos (starEach [e] X.env) = [(false, eval e X.env)] by rw [hs] <;> rfl]
  refine Calls.callWith_builtin rfl (Calls.evalArgs_plain (Calls.spliced_cons (thn (he.run pins s1 σ H1 _ I1 q1) fun kv s2 ⟨y, H2, I2, ry, ha2, k, ey, q2⟩ => Calls.spliced_nil ?_)))
  subst ey
  obtain ⟨t, rfl⟩ := ry
  obtain ⟨hg2, hz, its, rv, ⟨ob', hg3, hc3, n, hdt⟩⟩ := I2.hok a _ ha2
  obtain ⟨cls, dd, data, sl⟩ := ob
  rw [hg2] at hg3
  cases hg3
  simp only at hc hdt
  subst hc hdt
  have hi := ints_of_vals rv
  refine call_meets PySem.F.slot_tuple_count ⟨_, hg2, rfl⟩ PySem.F.entry_tuple_count (PySem.F.args_tuple_count_2 _ _) (SeqAt.tuple_countAt a its.toArray n dd sl (.int k t) (eqk k)) ⟨hg2, fun y hy => (eqk_gives hi y (by simpa using hy)).at _ _, ?_⟩
  have ec : its.toArray.toList.countP (eqk k) = ns.count k := eqk_count hi
  refine ⟨.int (ns.count k : Nat), H2, I2.tok _, ⟨s2.toks, ?_⟩, q2⟩
  show Value.int ((its.toArray.toList.countP (eqk k) : Nat) : Int) s2.toks = _
  rw [ec]
theorem ev_pcount (h : Ev U o env W fun d1 W1 => ∃ ns : List Int, d1 = .ptup (ns.map .int) ∧ Ev U e env W1 fun d2 W2 => ∃ k : Int, d2 = .p (.int k) ∧ Ψ (.p (.int (ns.count k : Nat))) W2) (hbase : attributeBase o "count" U.X.env (eval o U.X.env) = eval o U.X.env := by rfl)
    (hfew : ((backTo pc (starEach [e] U.X.env)).all (fun x => !x.1) && (backToKw pc (keywordEach [] U.X.env)).all (fun x => x.1.isSome) && decide (([e] : List Expr).length + ([] : List Keyword).length + (if ([] : List Keyword).isEmpty then 0 else 1) < 30)) = true := by rfl)
    (hline : (pa.endLine == pc.line) = true := by rfl) (hs : starEach [e] U.X.env = [(false, eval e U.X.env)] := by rfl) : Ev U (.Call (.Attribute o "count" pa) [e] [] pc) env W Ψ :=
  .here (pe_cntZ pe_sem pe_sem hbase hfew hline hs) fun σ G H eg h0 sl Q q => h σ G H eg h0 sl _ fun x G1 H1 d1 W1 e1 h1 r1 z1 => by
    obtain ⟨ns, rfl, z1⟩ := z1
    obtain ⟨a, ob, xs, rfl, hb, ⟨hc, hd⟩, ra⟩ := r1
    have ex := ra.ints
    subst ex
    refine ⟨a, ob, ns, rfl, h1.g _ _ hb, hc, hd, z1 σ G1 H1 (eg.trans e1) h1 (sl.mono e1) _ fun y G2 H2 d2 W2 e2 h2 r2 z2 => ?_⟩
    obtain ⟨k, rfl, kk⟩ := z2
    cases (show Rp _ _ _ from r2)
    exact ⟨h2.g _ _ (e2 _ _ hb), k, rfl, q _ G2 H2 (.p (.int _)) W2 (e1.trans e2) h2 (show Rp _ _ _ from Rp.int _) kk⟩
end

end Q
namespace Q
open PySem PySem.Spec PyProof.Rows L2
open Evl (Ex)

section
variable {U : Ct} {env : Ev0} {W : Ow} {Ψ : D → Ow → Prop} {Φ : Ke} {e a b c o v : Expr} {pos p0 p1 pa pc : Pos} {es : List Expr}
/-- t1 = t2 = e -/
theorem w_asg2 {t1 t2 : Expr} (js1 js2 : List Nat) (h : Ev U e env W fun d W1 => EvG U js1 t1 d env W1 fun env1 W2 => EvG U js2 t2 d env1 W2 Φ.nx) (ha : (assignEach [t1, t2] U.X.env).map (·.2) = [assign t1 U.X.env, assign t2 U.X.env] := by rfl) (hw : swappedStores [t1, t2] e U.X.env = pure none := by rfl) : Wp1 U (.Assign [t1, t2] e pos) env W Φ :=
  fun σ G H eg h0 sl Dn ke => SemS.of (ps_asg2 pe_sem pg_sem pg_sem ha hw) (h σ G H eg h0 sl _ fun v G2 H2 d W2 e2 h2 r2 z => z σ G2 H2 v (eg.trans e2) h2 (sl.mono e2) r2 _ fun σ3 G3 H3 env3 W3 e3 h3 s3 _ z3 => z3 σ3 G3 H3 v ((eg.trans e2).trans e3) h3 s3 (r2.mono e3) _ fun σ4 G4 H4 env4 W4 e4 h4 s4 _ z4 => ke.nx σ4 G4 H4 env4 W4 ((e2.trans e3).trans e4) h4 s4 z4)
/-- sorted(x), x a list of ints -/
theorem ev_sortedI (hg : Gl U.X "sorted") (hm : U.X.mg "sorted" = none) (h : EvA U [e] env W fun ds W1 => ∃ ns : List Int, ds = [.p (.list (ns.map .int))] ∧ ∀ ns' : List Int, ns'.Perm ns → ns'.Pairwise (· ≤ ·) → Ψ (.p (.list (ns'.map .int))) W1) (he : starEach [e] U.X.env = (false, eval e U.X.env) :: starEach [] U.X.env := by rfl) : Ev U (.Call (.Name "sorted" p0) [e] [] pos) env W Ψ :=
  ev_callB cr_sortedI hg hm (by decide +kernel) (h.imp fun ds W1 z => by
    intro G H vs eg hs ra Q q
    obtain ⟨ns, rfl, k⟩ := z
    cases ra with
    | cons r1 r2 =>
      cases r2
      cases (show Rp _ _ _ from r1) with
      | lst hl rr =>
        have ex := rr.ints
        subst ex
        exact ⟨_, ns, rfl, SqL.of (hs.g _ _ hl), fun ns' p hp hs' hn => q _ _ _ (.p (.list (ns'.map .int))) _ (hs.ex hn) (hs.new hn) (show Rp _ _ _ from Rp.lst upd_same (RpAll.intsOf id ns')) (k ns' hp hs')⟩) (he := he) (hpl := rfl)
end

end Q
namespace Q
open PySem PySem.Spec PyProof.Rows L2
open Evl (Ex)

section
variable {U : Ct} {env : Ev0} {W : Ow} {Ψ : D → Ow → Prop} {Φ : Ke} {e a b c o i v : Expr} {pos p0 p1 pa pc : Pos} {es : List Expr}
/-! ### dicts of numbers and texts that are owned -/
def keyD : Key → PyData
  | .inl i => .int i
  | .inr x => .str x
theorem rp_key {G : Hp} {v : V} {k : Key} (r : Rp G v (keyD k)) : v = kV k := by
  cases k <;> (cases r; rfl)
theorem key_rp (G : Hp) (k : Key) : Rp G (kV k) (keyD k) := by
  cases k with
  | inl i => exact .int i
  | inr x => exact .str x
def kset (f : Key → Option Int) (x : Key) (y : Int) : Key → Option Int := fun z => if z = x then some y else f z
/-- an owned dict, also while it is walked -/
inductive DkAt (W : Ow) (p : Addr) (f : Key → Option Int) : Prop
  | own (L R : Ow) (n : Nat) : W = L ++ (p, .dk n f) :: R → DkAt W p f
  | walked (L R : Ow) (od : Obj) (kvs : List (Key × V)) : W = L ++ (p, .dz od kvs) :: R → (∀ k : Key, valV kvs k = (f k).map V.int) → DkAt W p f
theorem DkAt.get {K : PySem.W.Frag} {C : Addr} {T : List (Addr × Str)} {G H : Hp} {p : Addr} {f : Key → Option Int} (h : DkAt W p f) (hs : Hs K C T G W H) : ∃ kvs, Rd H p (.dK kvs) ∧ ∀ k : Key, valV kvs k = (f k).map V.int := by
  cases h with
  | own L R n e =>
    subst e
    obtain ⟨o, ho, kvs, rfl, _, hf⟩ := hs.at_
    exact ⟨kvs, .inl ho, hf⟩
  | walked L R od kvs e hf =>
    subst e
    obtain ⟨o, ho, eo⟩ := hs.at_
    have eo : o = .frz od (.dK kvs) := eo
    subst eo
    exact ⟨kvs, .inr ⟨od, ho⟩, hf⟩
theorem ev_dnewX (h : ∀ p : Addr, Ψ (.adr p) ((p, .dk 0 fun _ => none) :: W)) : Ev U (.Dict [] [] pos) env W Ψ :=
  .here pe_dnewK fun σ G H eg h0 sl Q q p hp => q _ G _ (.adr p) _ (Ex.refl G) (h0.own (u := .dk 0 fun _ => none) hp ⟨[], rfl, Nat.le_refl _, fun _ => rfl⟩) (show V.ref p = .ref p from rfl) (h p)
/-- d[x] = y -/
theorem w_dputX (ok : U.Ok) {p2 : Pos} (h : Ev U v env W fun d0 W0 => Ev U o env W0 fun d1 W1 => Ev U i env W1 fun d2 W2 => ∃ (p : Addr) (x : Key) (y : Int) (n : Nat) (f : Key → Option Int) (L R : Ow), d0 = .p (.int y) ∧ d1 = .adr p ∧ d2 = .p (keyD x) ∧ W2 = L ++ (p, .dk n f) :: R ∧ n ≤ 1000000 ∧ Φ.nx env (L ++ (p, .dk (n + 1) (kset f x y)) :: R))
    (hs : swapsWith v (some (.Subscript o i p2)) pos.line U.X.env = pure false := by rfl) : Wp1 U (.Assign [.Subscript o i p2] v pos) env W Φ := fun σ G H eg h0 sl Dn ke =>
  SemS.of (ps_dput (unit1 ok) pe_sem pe_sem pe_sem hs) (h σ G H eg h0 sl _ fun x0 G1 H1 d0 W1 e1 h1 r1 z1 => z1 σ G1 H1 (eg.trans e1) h1 (sl.mono e1) _ fun x1 G2 H2 d1 W2 e2 h2 r2 z2 =>
    z2 σ G2 H2 ((eg.trans e1).trans e2) h2 (sl.mono (e1.trans e2)) _ fun x2 G3 H3 d2 W3 e3 h3 r3 z3 => by
      obtain ⟨p, x, y, n, f, L, R, rfl, rfl, rfl, rfl, hn, k⟩ := z3
      cases (show Rp _ _ _ from r1)
      obtain rfl := rp_key (show Rp _ _ (keyD x) from r3)
      obtain rfl : x1 = .ref p := r2
      obtain ⟨ob, ho, kvs, rfl, hl, hf⟩ := h3.at_
      refine ⟨p, _, rfl, DPut.k (k := x) ho (Nat.lt_of_le_of_lt (Nat.le_trans hl hn) (by rw [sizeLine_eq]; decide)), ?_⟩
      refine ke.nx σ G3 _ env _ ((e1.trans e2).trans e3) (h3.put (u' := .dk (n + 1) (kset f x y)) ⟨_, rfl, Nat.le_trans (length_putK _ _ _) (by omega), fun z => ?_⟩) (sl.mono ((e1.trans e2).trans e3)) k
      rw [valV_put]
      unfold kset
      by_cases hz : z = x
      · subst hz; rw [if_pos rfl, if_pos rfl] <;> rfl
      · rw [if_neg hz, if_neg hz]; exact hf z)
/-- d.get(x) -/
theorem ev_dgetX (ok : U.Ok) (h : Ev U o env W fun d1 W1 => (∃ p f, d1 = .adr p ∧ DkAt W1 p f) ∧ Ev U e env W1 fun d2 W2 => ∃ p f x, d1 = .adr p ∧ DkAt W2 p f ∧ d2 = .p (keyD x) ∧ Ψ (.p (optD (f x))) W2)
    (m1 : attributeBase o "get" U.X.env (eval o U.X.env) = eval o U.X.env := by rfl)
    (m2 : ((backTo pos (starEach [e] U.X.env)).all (fun x => !x.1) && (backToKw pos (keywordEach [] U.X.env)).all (fun x => x.1.isSome) && decide (([e] : List Expr).length + ([] : List Keyword).length + (if ([] : List Keyword).isEmpty then 0 else 1) < 30)) = true := by rfl)
    (m3 : (pa.endLine == pos.line) = true := by rfl) (m4 : backTo pos (starEach [e] U.X.env) = [(false, eval e U.X.env)] := by rfl) : Ev U (.Call (.Attribute o "get" pa) [e] [] pos) env W Ψ :=
  .here (pe_dget1 (unit1 ok) pe_sem pe_sem ⟨m1, m2, m3, m4⟩) fun σ G H eg h0 sl Q q => h σ G H eg h0 sl _ fun x1 G1 H1 d1 W1 e1 h1 r1 z1 => by
    obtain ⟨⟨p, f, rfl, at_⟩, z1⟩ := z1
    obtain rfl : x1 = .ref p := r1
    obtain ⟨kvs, rd, hf⟩ := at_.get h1
    refine ⟨p, rfl, .inl ⟨kvs, rd⟩, z1 σ G1 H1 (eg.trans e1) h1 (sl.mono e1) _ fun x2 G2 H2 d2 W2 e2 h2 r2 z2 => ?_⟩
    obtain ⟨p', f', x, hff, at2, rfl, k⟩ := z2
    cases hff
    obtain rfl := rp_key (show Rp _ _ (keyD x) from r2)
    obtain ⟨kvs2, rd2, hf2⟩ := at2.get h2
    refine ⟨_, .inl ⟨kvs2, x, rd2, rfl, rfl⟩, ?_⟩
    rw [hf2 x]
    have e12 := e1.trans e2
    cases hx : f' x with
    | none => rw [hx] at k; exact q .non G2 H2 (.p .none) W2 e12 h2 (show Rp _ _ _ from Rp.non) k
    | some y => rw [hx] at k; exact q (.int y) G2 H2 (.p (.int y)) W2 e12 h2 (show Rp _ _ _ from Rp.int y) k
/-- d[x] -/
theorem ev_dixX (ok : U.Ok) (h : Ev U o env W fun d1 W1 => Ev U i env W1 fun d2 W2 => ∃ p f x y, d1 = .adr p ∧ DkAt W2 p f ∧ d2 = .p (keyD x) ∧ f x = some y ∧ Ψ (.p (.int y)) W2) (hs : NoSl i := by exact fun _ _ => rfl) : Ev U (.Subscript o i pos) env W Ψ :=
  .here (pe_dget (unit1 ok) pe_sem pe_sem hs) fun σ G H eg h0 sl Q q => h σ G H eg h0 sl _ fun x1 G1 H1 d1 W1 e1 h1 r1 z1 =>
    z1 σ G1 H1 (eg.trans e1) h1 (sl.mono e1) _ fun x2 G2 H2 d2 W2 e2 h2 r2 z2 => by
      obtain ⟨p, f, x, y, rfl, at_, rfl, hfx, k⟩ := z2
      obtain rfl : x1 = .ref p := r1
      obtain rfl := rp_key (show Rp _ _ (keyD x) from r2)
      obtain ⟨kvs, rd, hf⟩ := at_.get h2
      refine ⟨p, .int y, rfl, .inl ⟨kvs, x, rd, rfl, ?_⟩, q _ G2 H2 (.p (.int y)) W2 (e1.trans e2) h2 (show Rp _ _ _ from Rp.int y) k⟩
      rw [hf x, hfx] <;> rfl
/-- x not in d -/
theorem et_notInX (ok : U.Ok) {Ψ : Bool → Ow → Prop} (h : Ev U i env W fun d1 W1 => Ev U o env W1 fun d2 W2 => ∃ p f x, d1 = .p (keyD x) ∧ d2 = .adr p ∧ DkAt W2 p f ∧ Ψ (!(f x).isSome) W2) (hm : behindInMarks .NotIn o = false := by rfl) : EvT U (.Compare i [.NotIn] [o] pos) env W Ψ :=
  fun σ G H eg h0 sl Q q => SemT.of (pt_cmp (pc_dnotin (unit1 ok) pe_sem pe_sem) hm) (h σ G H eg h0 sl _ fun x1 G1 H1 d1 W1 e1 h1 r1 z1 => z1 σ G1 H1 (eg.trans e1) h1 (sl.mono e1) _ fun x2 G2 H2 d2 W2 e2 h2 r2 z2 => by
    obtain ⟨p, f, x, rfl, rfl, at_, k⟩ := z2
    obtain rfl := rp_key (show Rp _ _ (keyD x) from r1)
    obtain rfl : x2 = .ref p := r2
    obtain ⟨kvs, rd, hf⟩ := at_.get h2
    refine ⟨p, _, rfl, .inl ⟨kvs, x, rd, rfl, rfl⟩, _, rfl, ?_⟩
    rw [hf x, Option.isSome_map]
    exact q _ G2 H2 W2 (e1.trans e2) h2 k)
theorem valV_key {kvs : List (Key × V)} {f : Key → Option Int} (hf : ∀ k : Key, valV kvs k = (f k).map V.int) (hv : ∀ (k : Key) (v : V), (k, v) ∈ kvs → (valV kvs k).isSome) : ∀ k ∈ kvs.map (·.1), (f k).isSome := fun k hk => by
  obtain ⟨⟨k', v⟩, hm, rfl⟩ := List.mem_map.mp hk
  have z := hv k' v hm
  rw [hf] at z
  rw [Option.isSome_map] at z
  exact z
theorem valV_mem {kvs : List (Key × V)} {k : Key} {v : V} (h : (k, v) ∈ kvs) : (valV kvs k).isSome := by
  unfold valV
  rw [Option.isSome_map]
  exact List.find?_isSome.mpr ⟨(k, v), h, by simp⟩
/-! ### [x for k in d if test], d owned; nothing is changed -/
def LcX (U : Ct) (elt tg iter t : Expr) (scope : Scope) (own : List (Str × Nat)) (js : List Nat) (env : Ev0) (p : Addr) (L R : Ow) (n : Nat) (f : Key → Option Int) (Ψ : D → Ow → Prop) : Prop :=
∀ (od : Obj) (kvs : List (Key × V)), (∀ k : Key, valV kvs k = (f k).map V.int) → Ev U iter env (L ++ (p, .dz od kvs) :: R) fun d W1 => d = .adr p ∧ W1 = L ++ (p, .dz od kvs) :: R ∧ ∀ ks : List Key, ks.length ≤ n → (∀ k ∈ ks, (f k).isSome) → ∃ (E2 : Nat → Ev0) (B : Nat → Bool) (g : Nat → PyData),
      (∀ (s : Shared) (H : Hp) (C : Addr) (cl : List (Str × Addr)) (fp : List Addr) (i : Nat) (Wi : Ow), i < ks.length → EvG (U.blk s H scope C cl fp) js tg (.p (keyD (ks.getD i (.inl 0)))) (wipeE env (own.map (·.2))) Wi fun env2 W2 => env2 = E2 i ∧ W2 = Wi) ∧
      (∀ (s : Shared) (H : Hp) (C : Addr) (cl : List (Str × Addr)) (fp : List Addr) (i : Nat) (Dl : Addr) (u : OD), i < ks.length → EvT (U.blk s H scope C cl fp) t (E2 i) ((Dl, u) :: (L ++ (p, .dz od kvs) :: R)) fun b W2 => b = B i ∧ W2 = (Dl, u) :: (L ++ (p, .dz od kvs) :: R)) ∧
      (∀ (s : Shared) (H : Hp) (C : Addr) (cl : List (Str × Addr)) (fp : List Addr) (i : Nat) (Dl : Addr) (u : OD), i < ks.length → B i = true → Ev (U.blk s H scope C cl fp) elt (E2 i) ((Dl, u) :: (L ++ (p, .dz od kvs) :: R)) fun d W4 => d = .p (g i) ∧ W4 = (Dl, u) :: (L ++ (p, .dz od kvs) :: R)) ∧
      Ψ (.p (.list (((List.range ks.length).filter B).map g))) (L ++ (p, .dk n f) :: R)
theorem LcX.reading (ok : U.Ok) {elt tg iter t : Expr} {scope : Scope} {own : List (Str × Nat)} {js : List Nat} (hjs : ∀ j ∈ js, j ∈ own.map (·.2)) {p : Addr} {L R : Ow} {n : Nat} {f : Key → Option Int} (hn : n ≤ 1000000) (h : LcX U elt tg iter t scope own js env p L R n f Ψ)
    {σ : L2.St} {G H : Hp} (eg : Ex U.G G) (h0 : Hs U.X.K U.C U.T G (L ++ (p, .dk n f) :: R) H) (sl : Slots U.X.K U.C G σ env) {Q : VK} (q : ∀ v G2 H2 d W2, Ex G G2 → Hs U.X.K U.C U.T G2 W2 H2 → U.R G2 v d → Ψ d W2 → Q v H2) {kvs : List (Key × V)} (hob : H p = some (.dK kvs)) (hl : kvs.length ≤ n) (hf : ∀ k : Key, valV kvs k = (f k).map V.int) (od : Obj) :
    tLc (SemI U.X tg iter) (gB U scope tg) (ttB U scope [t]) (teB U scope elt) (own.map (·.2)) σ (upd H p (.frz od (.dK kvs))) (fun v H' => H' p = some (.frz od (.dK kvs)) ∧ Q v (upd H' p (.dK kvs))) := by
  have hz : Hs U.X.K U.C U.T G (L ++ (p, .dz od kvs) :: R) (upd H p (.frz od (.dK kvs))) := h0.put (u' := .dz od kvs) rfl
  refine SemI.of (pi_keys pe_sem) (h od kvs hf σ G _ eg hz sl _ fun x G1 H1 d1 W1 e1 h1 r1 z1 => ?_)
  obtain ⟨rfl, rfl, z1⟩ := z1
  obtain rfl : x = .ref p := r1
  have atx : ∀ {G' H' : Hp} {A : Ow}, Hs U.X.K U.C U.T G' (A ++ (p, .dz od kvs) :: R) H' → H' p = some (.frz od (.dK kvs)) := fun hh => by
    obtain ⟨o, ho, eo⟩ := hh.at_
    rw [ho, show o = .frz od (.dK kvs) from eo]
  have hkl : (kvs.map (·.1)).length = kvs.length := List.length_map _
  obtain ⟨E2, B, g, htg, hts, hel, fin⟩ := z1 (kvs.map (·.1)) (by omega) (valV_key hf fun k v hm => valV_mem hm)
  refine ⟨p, od, rfl, .inl ⟨kvs, atx h1, ?_⟩⟩
  intro Dl hD
  have sl1 := sl.mono e1
  refine lc_it (g := gB U scope tg) (tt := ttB U scope [t]) (te := teB U scope elt) (vs := own.map (·.2)) (σ := σ) (Qd := fun H => H p = some (.frz od (.dK kvs)) ∧ Q (.ref Dl) (upd H p (.dK kvs))) (walk_keys (d := p) (o := od) (kvs := kvs)) (fun i H' => ∃ G', Ex G1 G' ∧ Hs U.X.K U.C U.T G' ((Dl, .l ((((List.range i).filter B).map g).map .p)) :: (L ++ (p, .dz od kvs) :: R)) H') ⟨G1, Ex.refl _, h1.own (u := .l []) hD ⟨[], rfl, .nil⟩⟩ ?_ ?_ ?_
  · rintro i H' _ ⟨G', e', h'⟩
    exact atx (A := (Dl, .l ((((List.range i).filter B).map g).map .p)) :: L) h'
  · rintro i x H3 H4 hi ⟨G', e', h'⟩ y
    obtain ⟨rfl, k, v, hk, rfl⟩ := y
    intro s Hb C cl fp
    have sl4 := (sl1.mono e').wipe (own.map (·.2))
    have eg4 := (eg.trans e1).trans e'
    have hg : (kvs.map (·.1)).getD i (.inl 0) = k := by rw [List.getD_eq_getElem?_getD, List.getElem?_map, hk] <;> rfl
    have hg2 := htg s Hb C cl fp i
    rw [hg] at hg2
    refine hg2 _ (by omega) _ G' _ (kV k) eg4 h' sl4 (show Rp G' (kV k) (keyD k) from key_rp G' k) _ fun σ5 G5 H5 env5 W5 e5 h5 s5 f5 z5 => ?_
    obtain ⟨ee, ew⟩ := z5
    subst ee ew
    refine ⟨wipe_same f5.1 fun i hi => f5.2 i fun hj => hi (hjs i hj), fun s1 Hb1 C1 cl1 fp1 => ?_⟩
    have eg5 := eg4.trans e5
    refine EvTs.run (U := U.blk s1 Hb1 scope C1 cl1 fp1) (ifs := [t]) (env := E2 i) (Ψ := fun b W2 => b = B i ∧ W2 = (Dl, .l ((((List.range i).filter B).map g).map .p)) :: (L ++ (p, .dz od kvs) :: R)) (hts s1 Hb1 C1 cl1 fp1 i Dl _ (by omega)) eg5 h5 s5 fun b G6 H6 W6 e6 h6 z6 => ?_
    obtain ⟨eb, ew⟩ := z6
    subst ew
    by_cases hb : b = true
    · rw [if_pos hb]
      have hb' : B i = true := by rw [← eb]; exact hb
      intro s2 Hb2 C2 cl2 fp2
      refine hel s2 Hb2 C2 cl2 fp2 i Dl _ (by omega) hb' σ5 G6 H6 (eg5.trans e6) h6 (s5.mono e6) _ fun v G7 H7 d W7 e7 h7 r7 z7 => ?_
      obtain ⟨ed, ew⟩ := z7
      subst ed ew
      obtain ⟨o, ho, ys, eo, ra7⟩ := Hs.at_ (W1 := []) h7
      rw [eo] at ho
      have hfl := List.length_filter_le B (List.range i)
      rw [List.length_range] at hfl
      have hxl : ys.length ≤ i := by rw [ra7.len, List.length_map, List.length_map]; exact hfl
      refine ⟨ys, ho, Nat.lt_of_lt_of_le (show ys.length < 10000000 by omega) (by rw [sizeLine_eq]; decide), G7, ((e'.trans e5).trans e6).trans e7, ?_⟩
      refine Hs.put (W1 := []) (u' := .l ((((List.range (i + 1)).filter B).map g).map .p)) h7 ⟨ys ++ [v], rfl, ?_⟩
      rw [List.range_succ, List.filter_append, List.map_append, List.map_append]
      refine ra7.app ?_
      have ef : [i].filter B = [i] := by rw [List.filter_cons, if_pos hb'] <;> rfl
      rw [ef]
      exact .cons r7 .nil
    · rw [if_neg hb]
      have hb' : ¬ B i = true := by rw [← eb]; exact hb
      refine ⟨G6, (e'.trans e5).trans e6, ?_⟩
      have ef : (List.range (i + 1)).filter B = (List.range i).filter B := by
        rw [List.range_succ, List.filter_append]
        have : [i].filter B = [] := by rw [List.filter_cons, if_neg hb'] <;> rfl
        rw [this, List.append_nil]
      rw [ef]
      exact h6
  · rintro H' ⟨G', e', h'⟩
    have hp' := atx (A := (Dl, .l ((((List.range kvs.length).filter B).map g).map .p)) :: L) h'
    obtain ⟨o, ho, zs, eo, rz⟩ := Hs.at_ (W1 := []) h'
    rw [eo] at ho
    have hg := Hs.give (W1 := []) h' ho
    have ge := Hs.gave (o := .lst zs) (W1 := []) h'
    refine ⟨hp', ?_⟩
    rw [hkl] at fin
    refine q _ _ _ (.p (.list (((List.range kvs.length).filter B).map g))) (L ++ (p, .dk n f) :: R) ((e1.trans e').trans ge) (Hs.put (u' := .dk n f) hg ⟨kvs, rfl, hl, hf⟩) (Rp.lst upd_same (RpAll.mono (Ex.refl _) _ _ (RepAll.data (rz.mono ge)))) fin
theorem ev_lcX (ok : U.Ok) {elt tg iter t : Expr} {scope : Scope} (own : List (Str × Nat)) (js : List Nat) (hjs : ∀ j ∈ js, j ∈ own.map (·.2)) (bok : BlkOk U.X.N U.X.env.scope scope own) {p : Addr} {L R : Ow} {n : Nat} {f : Key → Option Int} (hW : W = L ++ (p, .dk n f) :: R) (hn : n ≤ 1000000)
    (h : LcX U elt tg iter t scope own js env p L R n f Ψ) (hs : ∀ x, foldedSetIterable iter U.X.env x = pure x := by intro _; rfl) : Ev U (.ListComp elt [⟨tg, iter, [t], 0⟩] scope pos) env W Ψ := by
  subst hW
  intro σ G H eg h0 sl Q q
  obtain ⟨ob, hob, kvs, rfl, hl, hf⟩ := h0.at_
  exact SemE.of (pe_lock (pe_lcB ok bok (Nat.le_refl 1) hs)) ⟨p, .dK kvs, hob, trivial, fun od => h.reading ok hjs hn eg h0 sl q hob hl hf od⟩
/-- y = [x for k in d if test] -/
theorem w_setLcX (ok : U.Ok) (i : Nat) {x : Str} {p1 ps : Pos} {elt tg iter t : Expr} {scope : Scope} (own : List (Str × Nat)) (js : List Nat) (hi : U.X.N[i]? = some x) (hl : U.X.env.scope.names.lookup x = some .local) (hjs : ∀ j ∈ js, j ∈ own.map (·.2)) (bok : BlkOk U.X.N U.X.env.scope scope own)
    (hsw : swapsWith (.ListComp elt [⟨tg, iter, [t], 0⟩] scope pos) (some (.Name x p1)) ps.line U.X.env = pure true) {p : Addr} {L R : Ow} {n : Nat} {f : Key → Option Int} (hW : W = L ++ (p, .dk n f) :: R) (hn : n ≤ 1000000)
    (h : LcX U elt tg iter t scope own js env p L R n f fun d W1 => Φ.nx (env.set i (some d)) W1) (hs : ∀ x, foldedSetIterable iter U.X.env x = pure x := by intro _; rfl) : Wp1 U (.Assign [.Name x p1] (.ListComp elt [⟨tg, iter, [t], 0⟩] scope pos) ps) env W Φ := by
  subst hW
  intro σ G H eg h0 sl Dn ke
  obtain ⟨ob, hob, kvs, rfl, hlk, hf⟩ := h0.at_
  exact SemS.of (ps_lock (ps_setLc (own := own) (g := gB U scope tg) (tt := ttB U scope [t]) (te := teB U scope elt) ok.calm ok.nd hi hl hsw pi_sem bok (fun s H C cl fp => ⟨fun pins s' σ H' v u Q I r h => h s H C cl fp pins s' u I r⟩)
    (fun s H C cl fp => ⟨fun pins s' σ H' Q I h => (pts_sem (ifs := [t]) (Nat.le_refl 1)).run pins s' σ H' Q I (h s H C cl fp)⟩) (fun s H C cl fp => ⟨fun pins s' σ H' Q I h => h s H C cl fp pins s' I⟩) hs))
    ⟨p, .dK kvs, hob, trivial, fun od => h.reading (Q := fun v H' => Dn.nx (σ.set i (some v)) H') ok hjs hn eg h0 sl (fun v G2 H2 d W2 e2 h2 r2 z => ke.nx _ G2 H2 _ W2 e2 h2 ((sl.mono e2).set r2) z) hob hlk hf od⟩
end

end Q
namespace Q
open PySem PySem.Spec PyProof.Rows L2
open Evl (Ex)

section
variable {U : Ct} {env : Ev0} {W : Ow} {Ψ : D → Ow → Prop} {Φ : Ke} {e a b c o i v : Expr} {pos p0 p1 p2 pa pc : Pos} {es : List Expr}
/-- a bare return -/
theorem w_retN (h : Φ.rt (.p .none) W) : Wp1 U (.Return none pos) env W Φ :=
  fun σ G H eg h0 sl Dn ke => SemS.of ps_retN (ke.rt .non G H (.p .none) W (Ex.refl G) h0 (show Rp _ _ _ from Rp.non) h)
theorem w_cont (h : Φ.ct env W) : Wp1 U (.Continue pos) env W Φ :=
  fun σ G H eg h0 sl Dn ke => SemS.of ps_continue (ke.ct σ G H env W (Ex.refl G) h0 sl h)
/-- list(g(..)), where only NoAnswer is raised -/
theorem ev_listGA {L : Pl} {x : Str} {k : Nat} {ps : List Str} {Cn : ConG} (hL : L.Has U) (ok : U.Ok) (B : Blt U.X.mg) (D : DefG L x k ps Cn) (hns : PySem.W.subIn U.X.K (.ref U.cA) (.type "StopIteration") = some false) (hk : k + 3 ≤ U.k) (hg : Gl U.X x) (hgl : Gl U.X "list")
    (h : EvA U (e :: es) env W fun ds W1 => Cn ds W1 (fun dys W2 => ∃ pds : List PyData, dys = pds.map .p ∧ Ψ (.p (.list pds)) W2) fun xc W2 => xc = .noa ∧ U.Ξ .noa W2) (hd : (x == ("__debug__" : Str)) = false := by decide)
    (he : starEach (e :: es) U.X.env = (false, eval e U.X.env) :: starEach es U.X.env := by rfl) (hpl : (backTo pos (starEach es U.X.env)).any (·.1) = false := by rfl)
    (he2 : starEach [.Call (.Name x p0) (e :: es) [] pos] U.X.env = (false, eval (.Call (.Name x p0) (e :: es) [] pos) U.X.env) :: starEach [] U.X.env := by rfl) : Ev U (.Call (.Name "list" p1) [.Call (.Name x p0) (e :: es) [] pos] [] p2) env W Ψ := by
  obtain ⟨f, fd, F, bi, hm, kp⟩ := D.ex
  have F' : GFn U.X.prog U.X.w U.X.K U.X.mg U.X.base k f fd ps (spGG L Cn) := by
    rw [hL.P, hL.w, hL.K, hL.mg, hL.base]
    exact F
  let EA : XK := fun cls d H => cls = .ref U.cA ∧ d = none ∧ ∃ G2 W2, Ex U.G G2 ∧ Hs U.X.K U.C U.T G2 W2 H ∧ U.Ξ .noa W2
  refine .here (pe_listG (E := EA) (pgen_call (E := EA) (dvs := []) (ds := []) F' (ok.room.mono (by omega)) hg (by rw [hL.mg]; exact hm) (by rw [hL.K]; exact kp) (by rw [hL.K]; exact bi) .nil pa_sem hd he hpl) (passes_call ok.tk fun cls d σ H z => by
    obtain ⟨z1, z2, G2, W2, z3, z4, z5⟩ := z
    exact ok.ex .noa cls d G2 H W2 z3 z4 ⟨z1, z2⟩ z5) (fun cls d H z => by
    obtain ⟨z1, _⟩ := z
    rw [z1]
    exact hns) (ok.room.mono hk) hgl B.list (by decide +kernel) (by decide) (by decide) he2) fun σ G H eg hs sl Q q => ?_
  refine h σ G H eg hs sl _ fun vs G1 H1 ds W1 e1 h1 r1 z => ?_
  refine ⟨U.T, G1, W1, ds, _, _, by rw [← hL.K, ← hL.C]; exact h1, by rw [← hL.K, ← hL.C, List.append_nil]; exact r1, z, ?_, fun x cls dd G2 H2 W2 e2 h2 xr y => ?_⟩
  · rw [← hL.K, ← hL.C]
    rintro ys G2 H2 dys W2 e2 h2 r2 ⟨pds, rfl, k2⟩ p hp
    exact q _ _ _ (.p (.list pds)) W2 ((e1.trans e2).trans (h2.ex hp)) (h2.new hp) (Rp.lst upd_same (RpAll.mono (h2.ex hp) _ _ (RepAll.data r2))) k2
  · obtain ⟨rfl, z⟩ := y
    rw [← hL.K, ← hL.C] at h2
    have xr : cls = .ref L.cA ∧ dd = none := xr
    exact ⟨by rw [hL.cA]; exact xr.1, xr.2, G2, W2, (eg.trans e1).trans e2, h2, z⟩
end

end Q
namespace Q
open PySem PySem.Spec PyProof.Rows L2
open Evl (Ex)

open PySem PySem.Spec PyProof.Rows L2 GenW
open Evl (Ex)
/-! ### a generator of whole numbers, walked by somebody who changes objects of his own (F) between two of them -/
structure Nap (F : List Addr) (s s' : Shared) : Prop where
  os : s'.os = s.os
  bare : AllBare s'.gens
  keep : ∀ b o, b ∉ F → s.heap.get? b = some o → s'.heap.get? b = some o
  own : ∀ b ∈ F, ∃ o, s'.heap.get? b = some o ∧ ∀ v, o.data ≠ .cell v
def OwnF (F : List Addr) (h : Heap) : Prop := ∀ b ∈ F, ∃ o, h.get? b = some o ∧ ∀ v, o.data ≠ .cell v
def FarF (X : Cx) (F : List Addr) : Prop := ∀ b ∈ F, b ≠ X.env.locals ∧ b ∉ X.fs ∧ (b ∈ X.ex ∨ X.s_0.heap.objs.size ≤ b) ∧ (∀ x c, X.env.cells.lookup x = some c → c ≠ b) ∧ ∀ p ∈ X.pn, p.1 ≠ b
theorem freeF {X : Cx} {F : List Addr} {ip : List (Addr × Obj)} {σ : L2.St} {H : Hp} {s : Shared} {h : Heap} (own : OwnF F h) (I : Inv X (pinsAt F h ++ ip) σ H s) : ∀ b ∈ F, H b = none ∧ s.heap.get? b = h.get? b := fun b hb => by
  obtain ⟨o, e, _⟩ := own b hb
  obtain ⟨q1, q2, _⟩ := I.pin (b, o) (List.mem_append_right _ (List.mem_append_left _ (mem_pinsAt hb e)))
  exact ⟨q2, q1.trans e.symm⟩
theorem Nap.inv {X : Cx} {F : List Addr} {ip : List (Addr × Obj)} {σ : L2.St} {H : Hp} {s s' : Shared} {h : Heap} (far : FarF X F) (own : OwnF F h) (dis : ∀ p ∈ ip, p.1 ∉ F) (I : Inv X (pinsAt F h ++ ip) σ H s) (z : Nap F s s') : Inv X (pinsAt F s'.heap ++ ip) σ H s' := by
  have fr := freeF own I
  have I0 : Inv X ip σ H s := I.pins_of fun p hp => I.pin p (List.mem_append_right _ (List.mem_append_right _ hp))
  have hF : ∀ b ∈ F, FpOk X ip H b := fun b hb => by
    obtain ⟨q1, q2, q3, q4, q5⟩ := far b hb
    exact ⟨(fr b hb).1, q1, q2, q3, q4, fun p hp => (List.mem_append.mp hp).elim (q5 p) fun y e => dis p y (by rw [e]; exact hb)⟩
  obtain ⟨z1, z2, z3, z4⟩ := z
  obtain ⟨hh, gg, dd, tt, oo⟩ := s'
  have ho : oo = s.os := z1
  subst ho
  have J : Inv X ip σ H { s with heap := hh, gens := gg, drawn := dd, toks := tt } := by
    refine I0.step (ch := F) (fun b hb => ⟨(hF b hb).2.2.2.1, (hF b hb).2.1, (hF b hb).2.2.2.2.1, (hF b hb).2.2.2.2.2⟩) (fun b ob _ _ nb q _ => z3 b ob nb q)
      (fun b ob _ _ nb q _ => ⟨ob.slots, z3 b ob nb q⟩) (fun _ _ _ _ y => y) (fun b ob nb q => ⟨ob, z3 b ob nb q⟩) (fun _ _ y => y) (fun _ _ _ y => y) (fun _ ps y => ⟨#[], by rw [y, Array.append_empty]⟩) (fun m hm => ?_) (fun b u q => ?_) z2
    · obtain ⟨ob, es, ep, hob, r⟩ := hm
      exact ⟨ob, es, ep, z3 _ ob (fun e => (hF _ e).2.1 rfl) hob, r⟩
    · refine (I0.hok b u q).stay (fun c v hc y => z3 c v (fun e => ?_) y) (fun _ y => y) fun _ _ y => y
      have n := (fr c e).1
      rcases hc with rfl | hc
      · rw [q] at n; cases n
      · rw [hc] at n; cases n
  have J2 := J.pinned hF z4
  exact J2.pins_of fun p hp => J2.pin p (List.mem_append_right _ ((List.mem_append.mp hp).elim (List.mem_append_right _) (List.mem_append_left _)))
def GYn (X : Cx) (F : List Addr) (zs : List Int) : Protocol := fun n s₀ v s kap => ∃ ip σ H j k, n + 1 + j = sizeLine ∧ zs[j]? = some k ∧ RelV (.int k) v ∧ OwnF F s₀.heap ∧ Inv X (pinsAt F s₀.heap ++ ip) σ H s ∧ ∀ s', Nap F s s' → kap (.send .none) s'
structure AtC (X : Cx) (A : Around) (c : Code) (fs : List Frame) (gd : Bool → Bool) : Prop where
  over : A.over c fs = X.A
  split : splitAtGen fs = none
  guard : fs.any Frame.guarded = false
  gd : gd false = false
structure GKn (X : Cx) (A : Around) (F : List Addr) (zs : List Int) (R : GenEnd) (c : Code) (fs : List Frame) (K : Flow → Sem PySem.Fin) (J : Value → Sem PySem.Fin) (Dn : Hp → Prop) : Prop where
  ok : ∀ (n : Nat) (s₀ s : Shared) (ip : List (Addr × Obj)) (σ : L2.St) (H : Hp), n + zs.length = sizeLine → OwnF F s₀.heap → Inv X (pinsAt F s₀.heap ++ ip) σ H s → Dn H → Seg (model X.prog X.w) A R (GYn X F zs) n s₀ c (K .next) fs s
  exc : ∀ (n : Nat) (s₀ : Shared) (e : Value) (s : Shared), X.xe e s → Seg (model X.prog X.w) A R (GYn X F zs) n s₀ c (J e) fs s
def GBn (X : Cx) (zs : List Int) (sts : List Stmt) (Dn : Hp → Prop) (σ : L2.St) (H : Hp) : Prop := ∀ (A : Around) (F : List Addr) (R : GenEnd) (s₀ : Shared) (c : Code) (fs : List Frame) (K : Flow → Sem PySem.Fin) (J : Value → Sem PySem.Fin) (gd : Bool → Bool) (lv : List Value → List Value) (s : Shared),
  FarF X F → OwnF F s₀.heap → AtC X A c fs gd → GKn X A F zs R c fs K J Dn → Inv X (pinsAt F s₀.heap) σ H s → Seg (model X.prog X.w) A R (GYn X F zs) sizeLine s₀ c ((execs sts X.env).wrap K J gd lv) fs s
theorem gb_plain {X : Cx} {zs : List Int} {st : Stmt} {rest : List Stmt} {Dn : Hp → Prop} {σ : L2.St} {H : Hp} {t : TS} (h : PS X st t) (q : t ⟨fun σ' H' => GBn X zs rest Dn σ' H', fun _ _ => False, fun _ _ => False, fun _ _ => False⟩ σ H) : GBn X zs (st :: rest) Dn σ H := by
  intro A F R s₀ c fs K J gd lv s far own g k I
  refine seg_execs_cons (seg_wrap ?_)
  rw [g.over]
  refine wpAny_mono (h.run _ s σ H _ I q) (fun f s' hs => ?_) fun x s' hx => k.exc _ _ x s' hx
  cases f with
  | next =>
    obtain ⟨σ', H', I', z⟩ := hs
    exact z A F R s₀ c fs K J gd lv s' far own g k I'
  | brk => obtain ⟨_, _, _, z⟩ := hs; exact z.elim
  | cont => obtain ⟨_, _, _, z⟩ := hs; exact z.elim
  | ret v => obtain ⟨_, _, _, _, _, z⟩ := hs; exact z.elim
/-- a name's value, the state as it was -/
theorem ev_nameS {X : Cx} {pins : List (Addr × Obj)} {σ : L2.St} {H : Hp} {s : Shared} {i : Nat} {x : Str} {v : V} {p : Pos} {E : Value → Shared → Prop} {Qv : Value → Shared → Prop} (I : Inv X pins σ H s) (hi : X.N[i]? = some x) (hs : σ[i]? = some (some v)) (hv : Vis X.env.scope x) (q : ∀ u, RelV v u → Qv u s)
    (hd : (x == ("__debug__" : Str)) = false := by decide) (hcd : (x == ("__classdict__" : Str)) = false := by decide) : wpAny (model X.prog X.w) X.A (eval (.Name x p) X.env) Qv E s := by
  obtain ⟨m, hn, hl⟩ := I.loc
  obtain ⟨u, r, l⟩ := hl i x v hi hs hv
  rcases l with ⟨hk, hm⟩ | ⟨hk | hk, c, hc, hcell⟩
  · exact wpAny_Name (wpAny_loadName_local I.ok.kind hk hn hm (q u r)) hd
  · exact wpAny_Name (wpAny_loadName_cell I.ok.kind hk hc hcell (q u r)) hd
  · exact wpAny_Name (wpAny_loadName_free I.ok.kind hk hc hcell (q u r) hcd) hd
/-- for x in e: yield x, the last statement -/
theorem gb_forY {X : Cx} {zs : List Int} {Dn : Hp → Prop} {σ : L2.St} {H : Hp} {wi : TI} {e : Expr} {i : Nat} {x : Str} {px p2 yp p3 pos : Pos} (hc : X.calm = true) (hN : X.N.Nodup) (hi : PI X (.Name x px) e wi)
    (hx : X.N[i]? = some x) (hlx : Loc X.env.scope x) (hv : Vis X.env.scope x) (hf : X.fn x = true ∨ X.env.scope.names.lookup x = some .local) (hlen : i < X.N.length) (hco : X.env.scope.isCoroutine = false) (hin : interactive X.env = false) (hz : zs.length ≤ sizeLine)
    (hd : (x == ("__debug__" : Str)) = false) (hcd : (x == ("__classdict__" : Str)) = false) (hs : ∀ x, foldedSetIterable e X.env x = pure x)
    (q : wi σ H fun Jt H1 => ∃ Wv : Nat → Hp → Prop, Wv 0 H1 ∧ ∀ j H, Wv j H → (j = zs.length ∧ Jt.stop j H ∧ Dn H) ∨ ∃ k, zs[j]? = some k ∧ Jt.go j H ∧ ∀ y H', Jt.yld j H y H' → y = .int k ∧ Wv (j + 1) H') :
    GBn X zs [.For (.Name x px) e [.Expr (.Yield (some (.Name x p2)) yp) p3] [] pos] Dn σ H := by
  intro A F R s₀ c fs K J gd lv s far own g k I
  refine seg_execs_cons (seg_For hs ?_)
  rw [g.over]
  refine wpAny_mono (hi.run _ s σ H _ I q) (fun v s1 h1 => wpAny_mono h1 (fun itv s2 h2 => ?_) fun x s' hx => k.exc _ _ x s' hx) fun x s' hx => k.exc _ _ x s' hx
  obtain ⟨it, fp, tn, Jt, H2, rfl, I2, T, st2, f2, Wv, w0, turn⟩ := h2
  intro p lv'
  have fS : ∀ b ∈ fp, b ∉ F := fun b hb hbF => by
    obtain ⟨o, eo, _⟩ := own b hbF
    exact (f2 b hb).2.2.2.2.2 (b, o) (List.mem_append_right _ (mem_pinsAt hbF eo)) rfl
  have stat : ∀ {H' : Hp} {h : Heap}, (∀ b ∈ fp, H' b = none) → ∀ b ∈ fp, FpOk X (pinsAt F h) H' b := fun hn b hb => by
    obtain ⟨_, a2, a3, a4, a5, a6⟩ := f2 b hb
    refine ⟨hn b hb, a2, a3, a4, a5, fun q hq => (List.mem_append.mp hq).elim (fun y => a6 q (List.mem_append_left _ y)) fun y ee => fS b hb ?_⟩
    rw [← ee]
    exact (of_pinsAt y).1
  generalize hC : Code.forLoop (.Name x px) (.ref it) [.Expr (.Yield (some (.Name x p2)) yp) p3] [] X.env = CC
  have loop : ∀ (r j n : Nat) (s₀ s : Shared) (σ : L2.St) (H : Hp), r + j = zs.length → n + j = sizeLine → OwnF F s₀.heap → Wv j H → tn j s.heap → (∀ b ∈ fp, H b = none) → Inv X (pinsAt F s₀.heap) σ H s →
      Seg (model X.prog X.w) A R (GYn X F zs) n s₀ CC ((model X.prog X.w).den CC)
        (.ret (fun r => ((match r with | .ok f => (.pure f : Sem Flow) | .error e => .raise e).onRaise (cameBack X.env)).wrap (fun (f : Flow) => match f with | .next => (execs [] X.env).wrap K J gd lv | f => K f) J gd lv) none (gd false) lv' c p [] :: fs) s := by
    have ov : ∀ (kk : Result → Sem PySem.Fin), A.over CC (.ret kk none (gd false) lv' c p [] :: fs) = X.A := fun kk => by
      subst hC
      exact (over_loop rfl rfl).trans g.over
    intro r
    induction r with
    | zero =>
      intro j n s₀ s σ H hr hn own w st fr I
      subst hC
      show Seg _ A R _ n s₀ _ ((forTurn (.Name x px) (.ref it) [.Expr (.Yield (some (.Name x p2)) yp) p3] [] X.env).onRaise (fun x => do noteFrame x X.env; theTreesLotGoes x)) _ s
      unfold forTurn
      rw [Sem.onRaise_eq_wrap]
      refine seg_bind_wrap (wpAny_standAt ?_)
      refine seg_bind_wrap ?_
      rw [ov]
      rcases turn j H w with ⟨hj, stop, qn⟩ | ⟨k0, hk0, _⟩
      · refine wpAny_onRaise (wpAny_mono (T.done X rfl rfl rfl hc j _ s σ H (fun _ _ => False) I (stat fr) st stop) (fun rr s4 ⟨hr, I4⟩ => ?_) fun x s' hx => hx.elim)
        subst hr
        refine seg_again (c' := .block [] X.env) rfl ?_
        refine seg_leaf (.ok .next) (seg_execs_nil (env := X.env) (k.ok n s₀ s4 [] σ H (by omega) own (by rw [List.append_nil]; exact I4) qn))
      · have := (List.getElem?_eq_some_iff.mp hk0).1
        omega
    | succ r ih =>
      intro j n s₀ s σ H hr hn own w st fr I
      subst hC
      show Seg _ A R _ n s₀ _ ((forTurn (.Name x px) (.ref it) [.Expr (.Yield (some (.Name x p2)) yp) p3] [] X.env).onRaise (fun x => do noteFrame x X.env; theTreesLotGoes x)) _ s
      unfold forTurn
      rw [Sem.onRaise_eq_wrap]
      refine seg_bind_wrap (wpAny_standAt ?_)
      refine seg_bind_wrap ?_
      rw [ov]
      rcases turn j H w with ⟨hj, _⟩ | ⟨k0, hk0, go, step⟩
      · omega
      refine wpAny_onRaise (wpAny_mono (T.item X rfl rfl rfl hc j _ s σ H (fun _ _ => False) I (stat fr) st go) (fun rr s4 ⟨u, hr, h4⟩ => ?_) fun x s' hx => hx.elim)
      subst hr
      refine seg_bind_wrap ?_
      rw [ov]
      refine wpAny_mono h4 (fun _ s5 ⟨y, H5, I5, r5, y5, st5, fr5⟩ => ?_) fun x s' hx => hx.elim
      obtain ⟨rfl, w5⟩ := step y H5 y5
      have I5' := I5.pinned (stat fr5) (T.obj _ _ st5)
      refine seg_bind_wrap ?_
      rw [ov]
      refine wpAny_assign_Name (store_ok I5' hN hx hlx r5 (fun s6 I6 => ?_) hf)
      rw [Sem.bind_eq_wrap', Sem.wrap_wrap]
      obtain ⟨n, rfl⟩ : ∃ m, n = m + 1 := ⟨n - 1, by omega⟩
      refine seg_execs_cons (seg_Expr_Yield ?_ rfl ?_ ?_ hco hin)
      · show (splitAtGen fs).map _ = none
        rw [g.split]; rfl
      · show (gd false || fs.any Frame.guarded) = false
        rw [g.gd, g.guard]; rfl
      rw [ov]
      have hσ : i < σ.length := by rw [I.len]; exact hlen
      refine ev_nameS (v := .int k0) I6 hx (List.getElem?_set_self hσ) hv (fun u6 r6 => ?_) hd hcd
      intro kap hk
      refine ⟨pinsAt fp s5.heap, _, H5, j, k0, hn, hk0, r6, own, I6, fun s7 nap => hk .none s7 ?_⟩
      have dis : ∀ q ∈ pinsAt fp s5.heap, q.1 ∉ F := fun q hq => fS q.1 (of_pinsAt hq).1
      have I7 := nap.inv far own dis I6
      refine seg_execs_nil (env := X.env) (seg_again rfl (ih (j + 1) n s7 s7 _ H5 (by omega) (by omega) nap.own w5 (T.keep _ _ _ st5 fun b hb o eo => ?_) fr5 I7.unpinned))
      exact (I7.pin (b, o) (List.mem_append_right _ (List.mem_append_right _ (mem_pinsAt hb eo)))).1
  subst hC
  exact loop zs.length 0 sizeLine s₀ s2 σ H2 (by omega) (by omega) own w0 st2 (fun b hb => (f2 b hb).1) I2

end Q
namespace Q
open PySem PySem.Spec PyProof.Rows L2
open Evl (Ex)

open PySem PySem.Spec PyProof.Rows L2 GenW
open Evl (Ex)
def EndI (P : Program) (w : World) (outer : List Env) (H : Hp) (s : Shared) (F : List Addr) (zs : List Int) (Qh : Hp → Prop) (n : Nat) (s₀ s1 : Shared) : Prop :=
  ∃ H', s1.os = s.os ∧ AllBare s1.gens ∧ Un (frs outer) [] H H' s.heap s1.heap ∧ HOk P w H' s1.heap ∧ (∀ b ∈ F, H' b = none ∧ s1.heap.get? b = s₀.heap.get? b) ∧ n + zs.length = sizeLine ∧ Qh H'
def RI (P : Program) (w : World) (outer : List Env) (H : Hp) (s : Shared) (F : List Addr) (zs : List Int) (Qh : Hp → Prop) : GenEnd := fun n s₀ r s1 =>
  ((r = .ok (.ret .none) ∨ r = .ok .next) ∧ EndI P w outer H s F zs Qh n s₀ s1) ∨ ∃ e, r = .error e ∧ (fun _ _ => False : Value → Shared → Prop) e s1
def YI (outer : List Env) (H : Hp) (s : Shared) (F : List Addr) (a : Addr) (g : Nat) (zs : List Int) : Protocol := fun n s₀ v s1 kap =>
  s1.os = s.os ∧ AllBare s1.gens ∧ s1.heap.NoLimit ∧ s1.heap.IsGen a g ∧ (∀ b ∈ F, s1.heap.get? b = s₀.heap.get? b) ∧ (∃ H', Un (frs outer) [] H H' s.heap s1.heap) ∧ (∃ j k, n + 1 + j = sizeLine ∧ zs[j]? = some k ∧ RelV (.int k) v) ∧ ∀ s', Nap F s1 s' → kap (.send .none) s'
/-- a generator that has not begun -/
def MadeI (P : Program) (w : World) (k : Nat) (outer : List Env) (H : Hp) (s : Shared) (zs : List Int) (Qh : Hp → Prop) (u : Value) (s' : Shared) : Prop :=
  ∃ (a : Addr) (g : Nat) (c : Code), u = .ref a ∧ (s.heap.objs.size ≤ a ∧ a < s'.heap.objs.size) ∧ (s'.heap.IsGen a g ∧ s'.gens[g]? = some (.fresh c)) ∧ (s'.os = s.os ∧ AllBare s'.gens ∧ s'.heap.NoLimit) ∧ (∀ b o, s.heap.get? b = some o → s'.heap.get? b = some o) ∧
    ∀ (A : Around) (F : List Addr) (s2 : Shared), Room k A → A.frames = some outer → (∀ b ∈ F, s'.heap.objs.size ≤ b) → (∀ b o, s'.heap.get? b = some o → s2.heap.get? b = some o) → OwnF F s2.heap → s2.os = s.os → AllBare s2.gens →
      Seg (model P w) A (RI P w outer H s F zs Qh) (YI outer H s F a g zs) sizeLine s2 c ((model P w).den c) [] s2
abbrev SpI := List V → Hp → List Int → (Hp → Prop) → Prop
structure FnI (P : Program) (w : World) (K : PySem.W.Frag) (mg : Str → Option Value) (base : Heap) (k : Nat) (f : Addr) (fd : FuncData) (ps : List Str) (sp : SpI) : Prop where
  len : ∀ vs H zs Qh, sp vs H zs Qh → vs.length = ps.length
  run : ∀ (A : Around) (outer : List Env) (s : Shared) (H : Hp) (args : Args) (us : List Value) (vs : List V) (zs : List Int) (Qh : Hp → Prop), Room k A → Env0 P w K mg base A outer s H → BindsTo s fd args (ps.zip us) → Vals vs us → sp vs H zs Qh →
    codeAny (model P w) A (.call (.ref f) args) (fun r s' => match r with | .ok (.ret u) => MadeI P w k outer H s zs Qh u s' | _ => False) s
/-- a generator's def, by its body -/
theorem fnI_of {P : Program} {w : World} {K : PySem.W.Frag} {mg : Str → Option Value} {base : Heap} {k : Nat} {f : Addr} {nm qual : Str} {params : Arguments} {body : List Stmt} {scope : Scope} {dV kV doc pm cdv ct oc : Value} {an od : Option Addr}
    {osl : Array (Option Value)} {N ps : List Str} {sp : SpI} (look : K.lookup f = some ⟨oc, od, .func (PySem.W.fnOf nm qual params body scope dV kV doc pm an cdv ct), osl⟩) (hcode : PySem.W.codeIn K cdv qual = true) (Sg : GScope N ps scope)
    (len : ∀ vs H zs Qh, sp vs H zs Qh → vs.length = ps.length)
    (hbody : ∀ (A : Around) (outer : List Env) (s : Shared) (H : Hp) (vs : List V) (zs : List Int) (Qh : Hp → Prop) (pn : List (Addr × Obj)), Room k (A.deeper (envOfC qual scope s.heap.objs.size f cdv)) → sp vs H zs Qh →
      GBn (gcxOf P w K mg base N qual scope f cdv A outer s H E0 pn) zs body Qh (L2.start N vs) H) :
    FnI P w K mg base (k + 1) f (PySem.W.fnOf nm qual params body scope dV kV doc pm an cdv ct) ps sp := by
  refine ⟨len, fun A outer s H args us vs zs Qh room e0 bd rv hsp => ?_⟩
  have hl := len _ _ _ _ hsp
  have kin : K.In s.heap := e0.mod.kin.keeps fun b o y => (e0.bs b o y).1
  have nol : s.heap.NoLimit := e0.mod.nolimit.keeps fun b o y => (e0.bs b o y).1
  refine codeAny_call_generator room.depth (kin _ _ look) rfl Sg.co Sg.gen rfl (PySem.W.codeRec_of kin hcode) (bd _ _ _ _ (wpAny_newFunctionEnv_cells Sg.kind (fun y hy => ?_) fun env henv s1 x => ?_))
  · rcases Sg.par y.1 (List.of_mem_zip (a := y.1) (b := y.2) hy).1 with q | q
    · exact .inl q
    · exact .inr ⟨q, PySem.W.cellsFrom_some _ _ _ (.inl q)⟩
  subst henv
  have nol1 : s1.heap.NoLimit := nol.keeps x.toInCall.keep
  refine ⟨nol1, ?_⟩
  have I1A := fun (Aw : Around) (hr : Room (k + 1) Aw) (hf : Aw.frames = some outer) => inv_startG (A := Aw) (E := E0) Sg hr.hd ⟨hf, e0.mod, e0.bs, e0.bsz, e0.funs, e0.frf, e0.hok, e0.bare⟩ hl rv x
  obtain ⟨h1, tk, es1, _⟩ := x.done
  have os1 : s1.os = s.os := by rw [es1]
  have gen1 : s1.gens = s.gens := by rw [es1]
  have lt1 : s.heap.objs.size < s1.heap.objs.size := x.toInCall.ns.lt
  have kp1 : ∀ b o, s.heap.get? b = some o → s1.heap.get? b = some o := x.toInCall.keep
  have main : ∀ (go : Obj) (v1 v2 : Value) (tk2 : Nat), go.cls = .type "generator" → go.data = .fields #[.int s1.gens.size 0, v1, v2] → go.slots = #[] → (∀ h : Heap, (h.push go).get? h.objs.size = some go) →
      MadeI P w (k + 1) outer H s zs Qh (.ref s1.heap.objs.size) { s1 with gens := s1.gens.push (.fresh (.func body (envOfC qual scope s.heap.objs.size f cdv))), toks := tk2, heap := s1.heap.push go } := by
    intro go v1 v2 tk2 gc gd0 gs gp
    have isg : ∀ h : Heap, h.get? s1.heap.objs.size = some go → h.IsGen s1.heap.objs.size s1.gens.size := fun h y => ⟨go, v1, v2, y, gc, gd0, gs⟩
    have pushed : (s1.heap.push go).get? s1.heap.objs.size = some go := gp _
    refine ⟨s1.heap.objs.size, s1.gens.size, _, rfl, ⟨Nat.le_of_lt lt1, ?_⟩, ⟨isg _ pushed, Array.getElem?_push_size ..⟩, ⟨os1, AllBare.push (by rw [gen1]; exact e0.bare) rfl, nol1.keeps fun b o y => Heap.get?_push_of_some _ y⟩, fun b o y => Heap.get?_push_of_some _ (kp1 b o y), ?_⟩
    · show s1.heap.objs.size < (s1.heap.push go).objs.size
      rw [Heap.size_push]; exact Nat.lt_succ_self _
    intro Aw F s2 rw' hfr hF kp hO hos hba
    have I1 := I1A Aw rw' hfr
    have kp2 : ∀ b o, s1.heap.get? b = some o → s2.heap.get? b = some o := fun b o y => kp b o (Heap.get?_push_of_some _ y)
    have I2 := I1.call' (s' := s2) (ch := []) (hos.trans os1.symm) (Un.kept kp2) (I1.hok.kept kp2) hba fun b z => by simp at z
    have hFs : ∀ b ∈ F, s1.heap.objs.size < b := fun b hb => by
      have y : (s1.heap.push go).objs.size ≤ b := hF b hb
      rw [Heap.size_push] at y
      exact y
    have hgo : s2.heap.get? s1.heap.objs.size = some go := kp _ _ pushed
    have young : ∀ b, s1.heap.objs.size ≤ b → H b = none ∧ b ≠ s.heap.objs.size ∧ b ∉ frs outer ∧ s.heap.objs.size ≤ b ∧ ∀ y c, (cellsFrom (s.heap.objs.size + 1) scope.names []).lookup y = some c → c ≠ b := fun b hb => by
      refine ⟨I1.hok.fresh hb, Nat.ne_of_gt (Nat.lt_of_lt_of_le lt1 hb), I1.nofs hb, Nat.le_trans (Nat.le_of_lt lt1) hb, fun y c yc z => ?_⟩
      obtain ⟨v, ob, ho, _⟩ := I1.cell y c yc
      have lo := Heap.lt_size ho
      rw [z] at lo
      exact absurd (Nat.lt_of_lt_of_le lo hb) (Nat.lt_irrefl _)
    have IG : Inv (gcxOf P w K mg base N qual scope f cdv Aw outer s H E0 [(s1.heap.objs.size, go)]) (pinsAt F s2.heap) (L2.start N vs) H s2 := by
      refine Inv.pinnedG I2 fun p hp => ?_
      rcases List.mem_append.mp hp with z | z
      · rw [List.mem_singleton.mp z]
        obtain ⟨y1, y2, y3, _⟩ := young s1.heap.objs.size (Nat.le_refl _)
        exact ⟨hgo, y1, y2, y3, fun v y => by rw [gd0] at y; cases y⟩
      · obtain ⟨hb, eb⟩ := of_pinsAt z
        obtain ⟨o, eo, nc⟩ := hO _ hb
        obtain ⟨y1, y2, y3, _⟩ := young p.1 (Nat.le_of_lt (hFs _ hb))
        rw [eb] at eo
        cases eo
        exact ⟨eb, y1, y2, y3, nc⟩
    have far : FarF (gcxOf P w K mg base N qual scope f cdv Aw outer s H E0 [(s1.heap.objs.size, go)]) F := fun b hb => by
      obtain ⟨_, y2, y3, y4, y5⟩ := young b (Nat.le_of_lt (hFs b hb))
      exact ⟨y2, y3, .inr y4, y5, fun p hp => by rw [List.mem_singleton.mp hp]; exact Nat.ne_of_lt (hFs b hb)⟩
    refine seg_func ?_
    refine seg_imp (R := RI P w outer H s F zs Qh) (Y := GYn (gcxOf P w K mg base N qual scope f cdv Aw outer s H E0 [(s1.heap.objs.size, go)]) F zs) (fun _ _ _ _ y => y) (fun n s₀ v s1' kap kap' hkk hY => ?_) sizeLine ?_
    · obtain ⟨ip, σ', H', j, kk, hn, hk, hr, ho, hI, hw⟩ := hY
      refine ⟨hI.os, hI.bare, hI.nolimit, isg _ (hI.pin (s1.heap.objs.size, go) (List.mem_append_left _ (List.mem_singleton.mpr rfl))).1, fun b hb => (freeF ho hI b hb).2, ⟨H', hI.base⟩, ⟨j, kk, hn, hk, hr⟩, fun s' z => hkk _ _ (hw s' z)⟩
    · refine hbody Aw outer s H vs zs Qh _ (rw'.deeper _) hsp Aw F _ s2 _ [] _ _ id id s2 far hO ⟨over_func, rfl, rfl, rfl⟩ ⟨fun n s₀ s' ip σ' H' hn ho hI hq => ?_, fun n s₀ y s' hx => ?_⟩ IG
      · refine seg_end (.ok (.ret .none)) (.inl ⟨.inl rfl, H', hI.os, hI.bare, hI.base, hI.hok, fun b hb => freeF ho hI b hb, hn, hq⟩)
      · refine seg_wrap ?_
        rw [over_func]
        refine wpAny_mono (show wpAny (model P w) (Aw.deeper (envOfC qual scope s.heap.objs.size f cdv)) (leaving (envOfC qual scope s.heap.objs.size f cdv) y) (fun _ s'' => CX P w outer H s E0 y s'' ∧ ∀ p ∈ [(s1.heap.objs.size, go)], s''.heap.get? p.1 = some p.2) (fun _ _ => False) s' from hx) (fun _ s'' z => ?_) fun _ s'' z => z.elim
        obtain ⟨⟨_, _, _, _, _, _, _, _, _, _, _, _, no⟩, _⟩ := z
        exact no.elim
  exact main _ _ _ _ rfl rfl rfl fun h => Heap.get?_push_size _ rfl

end Q
namespace Q
open PySem PySem.Spec PyProof.Rows L2
open Evl (Ex)

open PySem PySem.Spec PyProof.Rows L2 GenW
open Evl (Ex)
/-! ### [x - u * v for x in g(..)], g a generator of whole numbers, u and v cells of the def -/
/-- what the walk's block must be: x its own, u and v taken from around -/
structure GenBlk (X : Cx) (scope : Scope) (x u v : Str) : Prop where
  kind : scope.kind = .function
  free : ∀ y ∈ scope.names, y.2 = .free → X.env.scope.names.lookup y.1 = some .cell ∨ X.env.scope.names.lookup y.1 = some .free
  loc : ∀ y ∈ scope.names, y.2 = .local → scope.names.lookup y.1 = some .local
  cu : ∀ n (cl : List (Str × Addr)), (cellsFrom n scope.names (cloFrom cl scope.names [])).lookup u = some ((cl.lookup u).getD 0)
  cv : ∀ n (cl : List (Str × Addr)), (cellsFrom n scope.names (cloFrom cl scope.names [])).lookup v = some ((cl.lookup v).getD 0)
  kx : ∀ cl C, (compEnvC scope cl C X.env).kindOf x = some .local
  ku : ∀ cl C, (compEnvC scope cl C X.env).kindOf u = some .cell
  kv : ∀ cl C, (compEnvC scope cl C X.env).kindOf v = some .cell
  uc : X.env.kindOf u = some .cell
  vc : X.env.kindOf v = some .cell
theorem cell_any {fs : List Addr} {H H' : Hp} {h h' : Heap} {c : Addr} {v : Option Value} (u : Un fs [] H H' h h') (z : h.IsCell c v) (n : H c = none) : h'.IsCell c v := by
  obtain ⟨o, e, d⟩ := z
  obtain ⟨sl, e2⟩ := u.any e n (by simp)
  exact ⟨_, e2, d⟩
section
variable {X : Cx} {k : Nat} {f : Addr} {fd : FuncData} {ps : List Str} {sp : SpI}
/-- a cell's value, the state as it was -/
theorem ev_cellS {P : Program} {w : World} {A : Around} {ce : Env} {x : Str} {p : Pos} {c : Addr} {u : Value} {s : Shared} {E Qv : Value → Shared → Prop} (hk : ce.scope.kind = .function) (hx : ce.kindOf x = some .cell) (hc : ce.cells.lookup x = some c) (hv : s.heap.IsCell c (some u)) (q : Qv u s)
    (hd : (x == ("__debug__" : Str)) = false) : wpAny (model P w) A (eval (.Name x p) ce) Qv E s := wpAny_Name (wpAny_loadName_cell hk hx hc hv q) hd
/-- where the walk stands: j of the numbers have come -/
structure Amid (X : Cx) (sc : Shared) (H1 : Hp) (zs : List Int) (Qh : Hp → Prop) (cut : Int) (a g D C : Nat) (j : Nat) (s : Shared) : Prop where
  os : s.os = sc.os
  bare : AllBare s.gens
  nol : s.heap.NoLimit
  gen : s.heap.IsGen a g
  un : ∃ H', Un (frs X.stack) [] H1 H' sc.heap s.heap
  out : ∃ acc c, s.heap.get? D = some (lstObj acc c) ∧ Vals ((zs.take j).map fun z => V.int (z - cut)) acc.toList
  ns : ∃ m, s.heap.Ns C m
  le : j ≤ zs.length
  go : ∃ gs, s.gens[g]? = some gs ∧ gs.Goes (model X.prog X.w) X.A.in1 (RI X.prog X.w X.stack H1 sc [D, C] zs Qh) (YI X.stack H1 sc [D, C] a g zs) (sizeLine - j) (.send .none) (s.setGen g .running)
theorem take_succ_get {zs : List Int} {j : Nat} {k : Int} (h : zs[j]? = some k) : zs.take (j + 1) = zs.take j ++ [k] := by
  rw [List.take_add_one, h]; rfl
theorem gen_loop {pins : List (Addr × Obj)} {σ : L2.St} {H1 : Hp} {sc s4 : Shared} {zs : List Int} {Qh : Hp → Prop} {a g D C cuA cvA : Nat} {bu bv : Int} {tu tv : Tok} {ce : Env} {x u v : Str} {px p1 p2 p3 p4 p5 lpos : Pos} {iter : Expr} {scope : Scope} {R : Result → Shared → Prop}
    (I1 : Inv X pins σ H1 sc) (room : Room (k + 1) X.A) (hz : zs.length < sizeLine) (hm : IntMulOk bu bv) (hDC : D ≠ C) (haD : a ≠ D) (haC : a ≠ C) (hsD : cStatics ≠ D) (hsC : cStatics ≠ C) (hscD : sc.heap.objs.size ≤ D) (hscC : sc.heap.objs.size ≤ C)
    (uA : sc.heap.IsCell cuA (some (.int bu tu))) (vA : sc.heap.IsCell cvA (some (.int bv tv))) (nu : H1 cuA = none) (nv : H1 cvA = none)
    (hk : ce.scope.kind = .function) (kx : ce.kindOf x = some .local) (ku : ce.kindOf u = some .cell) (kv : ce.kindOf v = some .cell) (lu : ce.cells.lookup u = some cuA) (lv : ce.cells.lookup v = some cvA) (cL : ce.locals = C)
    (dx : (x == ("__debug__" : Str)) = false) (du : (u == ("__debug__" : Str)) = false) (dv : (v == ("__debug__" : Str)) = false)
    (hR : ∀ (s : Shared) (H' : Hp), Inv X pins σ (upd H' D (.lst (zs.map fun z => V.int (z - bu * bv)))) s → Qh H' → (∃ m, s.heap.Ns C m) → H' C = none → H' D = none → R (.ok .next) s)
    (st : Amid X sc H1 zs Qh (bu * bv) a g D C 0 s4) :
    codeAny (model X.prog X.w) X.A (.compLoop (.ListComp (.BinOp (.Name x p1) .Sub (.BinOp (.Name u p2) .Mult (.Name v p3) p4) p5) [⟨.Name x px, iter, [], 0⟩] scope lpos) 0 (.ref a) (.ref D) ce) R s4 := by
  refine compLoop_any (fun m s' => ∃ j, m + j = zs.length ∧ Amid X sc H1 zs Qh (bu * bv) a g D C j s') ?_ zs.length ⟨0, rfl, st⟩
  rintro m s ⟨j, hmj, am⟩
  obtain ⟨os, bare, nol, gen, un, ⟨acc, cc, hD, va⟩, ⟨mm, hns⟩, le, gs, hgs, hgo⟩ := am
  have hF : ∀ b ∈ [D, C], b = D ∨ b = C := fun b hb => by simpa using hb
  obtain ⟨n, hn⟩ : ∃ n, n + j = sizeLine := ⟨sizeLine - j, by omega⟩
  rw [show sizeLine - j = n by omega] at hgo
  obtain ⟨n, rfl⟩ : ∃ i, n = i + 1 := ⟨n - 1, by omega⟩
  have hgl : g < s.gens.size := (Array.getElem?_eq_some_iff.mp hgs).1
  refine wpAny_gsz (n := g + 1) hgl (next_genG (A := X.A) room.hd nol (by have := room.dp; omega) gen hgs (F := EndI X.prog X.w X.stack H1 sc [D, C] zs Qh) (Er := fun _ _ => False) hgo (fun w s₁ gs' hb hv hsz => ?_) (fun s₁ hp h' kp hsz => ?_) fun e s₁ no => no.elim)
  · obtain ⟨os1, bare1, nol1, gen1, same1, un1, ⟨j', z, hj', hz', rz⟩, wake⟩ := hv
    have ej : j' = j := by omega
    subst ej
    obtain ⟨t, rfl⟩ := rz
    obtain ⟨go, v1, v2, g1, g2, g3, g4⟩ := id gen1
    refine go_of (s := s₁.setGen g gs') g1 g2 g3 (by decide) ?_
    have hD1 : s₁.heap.get? D = some (lstObj acc cc) := (same1 D (by simp)).trans hD
    have hns1 : s₁.heap.Ns C mm := by
      obtain ⟨o, es, ep, ho, r⟩ := hns
      exact ⟨o, es, ep, (same1 C (by simp)).trans ho, r⟩
    refine wpAny_assign_Name (wpAny_storeName_local (s := s₁.setGen g gs') kx (by rw [cL]; exact hns1) (fun h2 ns2 sb2 => ?_) (by rw [hk]; rfl))
    rw [cL] at sb2
    refine wpAny_tests_nil ?_
    rw [if_pos rfl]
    obtain ⟨H2, un1⟩ := un1
    have kp2 : ∀ b, b ≠ C → h2.get? b = s₁.heap.get? b := fun b hb => sb2.2 b hb
    have cellOf : ∀ {c : Addr} {o : Option Value}, sc.heap.IsCell c o → H1 c = none → h2.IsCell c o := fun {c o} y n0 => by
      obtain ⟨ob, eo, dd⟩ := cell_any un1 y n0
      obtain ⟨_, eo0, _⟩ := y
      exact ⟨ob, (kp2 c (Nat.ne_of_lt (Nat.lt_of_lt_of_le (Heap.lt_size eo0) hscC))).trans eo, dd⟩
    refine wpAny_BinOp ?_
    refine wpAny_Name (wpAny_loadName_local hk kx ns2 (by rw [if_pos rfl]) ?_) dx
    refine wpAny_BinOp ?_
    refine ev_cellS hk ku lu (cellOf uA nu) ?_ du
    refine ev_cellS hk kv lv (cellOf vA nv) ?_ dv
    refine PySem.P.mul_int (PySem.P.sub_int ?_) hm
    have hD2 : h2.get? D = some (lstObj acc cc) := (kp2 D hDC).trans hD1
    have hzl := va.length
    have hsz2 : acc.size ≤ sizeLine := by
      have y : acc.toList.length = acc.size := by simp
      simp only [List.length_map, List.length_take] at hzl
      omega
    refine append_at (hsz := hsz2) hD2 fun h3 sb3 hD3 => ?_
    have kp3 : ∀ b, b ≠ D → b ≠ C → h3.get? b = s₁.heap.get? b := fun b h1 h2' => (sb3.2 b h1).trans (kp2 b h2')
    have hlt := (List.getElem?_eq_some_iff.mp hz').1
    have bareT : AllBare (s₁.setGen g gs').gens := allBare_setGen bare1 hb
    refine ⟨m - 1, by omega, j' + 1, by omega, ?_⟩
    refine ⟨os1, bareT, ?_, ?_, ⟨H2, ?_⟩, ⟨_, _, hD3, ?_⟩, ⟨_, Heap.Ns.sameBut (by rw [← cL]; exact ns2) sb3 (Ne.symm hDC)⟩, hlt, ⟨gs', ?_, ?_⟩⟩
    · exact (nol1.sameBut sb2 hsC).sameBut sb3 hsD
    · exact (gen1.sameBut sb2 haC).sameBut sb3 haD
    · have ne : ∀ b o, sc.heap.get? b = some o → h3.get? b = s₁.heap.get? b := fun b o y => kp3 b (Nat.ne_of_lt (Nat.lt_of_lt_of_le (Heap.lt_size y) hscD)) (Nat.ne_of_lt (Nat.lt_of_lt_of_le (Heap.lt_size y) hscC))
      exact ⟨fun b o y n1 n2 n3 => (ne b o y).trans (un1.keep b o y n1 n2 n3), fun b o y n1 n2 n3 => (un1.slot b o y n1 n2 n3).imp fun sl z => (ne b o y).trans z, un1.free, fun b o y n3 => (un1.there b o y n3).imp fun o' z => (ne b o y).trans z, un1.tups, un1.frzs, un1.tbls⟩
    · rw [take_succ_get hz', List.map_append, Array.toList_push]
      exact va.append (.cons ⟨_, rfl⟩ .nil)
    · have hs1 : g < s₁.gens.size := by
        have y : (s₁.setGen g gs').gens.size = s₁.gens.size := setGen_size _ _ _
        have y2 : g + 1 ≤ (s₁.setGen g gs').gens.size := hsz
        omega
      exact setGen_at (s := s₁) hs1
    · rw [show sizeLine - (j' + 1) = n by omega]
      refine wake _ ⟨rfl, allBare_setGen (s := { s₁ with gens := (s₁.setGen g gs').gens }) bareT rfl, fun b o hb y => (kp3 b (fun z => hb (by simp [z])) (fun z => hb (by simp [z]))).trans y, fun b hb => ?_⟩
      rcases hF b hb with rfl | rfl
      · exact ⟨_, hD3, fun v y => by cases y⟩
      · obtain ⟨o, es, ep, ho, dd, _⟩ : h3.Ns b _ := Heap.Ns.sameBut (by rw [← cL]; exact ns2) sb3 (Ne.symm hDC)
        exact ⟨o, ho, fun v y => by rw [dd] at y; cases y⟩
  · obtain ⟨H', os1, bare1, un1, hok1, same1, hfin, hq⟩ := hp
    have ej : j = zs.length := by omega
    subst ej
    rw [List.take_length] at va
    have hD1 := kp D _ ((same1 D (by simp)).2.trans hD)
    refine hR { s₁.setGen g .finished with heap := h' } H' (I1.drained (s' := { s₁.setGen g .finished with heap := h' }) hscD (by rw [List.length_map]; omega) hD1 va ExOk.nil os1 (allBare_setGen bare1 rfl) (un1.trans (Un.kept kp)) (hok1.kept kp) (same1 D (by simp)).1) hq ⟨mm, ?_⟩ (same1 C (by simp)).1 (same1 D (by simp)).1
    obtain ⟨o, es, ep, ho, r⟩ := hns
    exact ⟨o, es, ep, kp C o ((same1 C (by simp)).2.trans ho), r⟩
end

end Q
namespace Q
open PySem PySem.Spec PyProof.Rows L2
open Evl (Ex)

open PySem PySem.Spec PyProof.Rows L2 GenW
open Evl (Ex)
section
variable {X : Cx} {k : Nat} {f : Addr} {fd : FuncData} {ps : List Str} {sp : SpI}
def tGenC (sp : SpI) (ta : TA) (i iu iv : Nat) : TS := fun Dn σ H => ta σ H fun vs H1 => ∃ zs Qh bu bv, sp vs H1 zs Qh ∧ σ[iu]? = some (some (.int bu)) ∧ σ[iv]? = some (some (.int bv)) ∧ zs.length < sizeLine ∧ IntMulOk bu bv ∧
  ∀ H2, Qh H2 → ∀ p, H2 p = none → gName i (.ref p) σ (upd H2 p (.lst (zs.map fun z => V.int (z - bu * bv)))) Dn.nx
theorem ps_setGenC (F : FnI X.prog X.w X.K X.mg X.base k f fd ps sp) (room : Room (k + 1) X.A) (hN : X.N.Nodup) {i iu iv : Nat} {y x u v gn : Str} {py px p1 p2 p3 p4 p5 lpos spos gp cpos : Pos} {e : Expr} {es : List Expr} {scope : Scope} {ta : TA}
    (hy : X.N[i]? = some y) (hyl : X.env.scope.names.lookup y = some .local) (hu : X.N[iu]? = some u) (hv : X.N[iv]? = some v) (bk : GenBlk X scope x u v)
    (hsw : swapsWith (.ListComp (.BinOp (.Name x p1) .Sub (.BinOp (.Name u p2) .Mult (.Name v p3) p4) p5) [⟨.Name x px, .Call (.Name gn gp) (e :: es) [] cpos, [], 0⟩] scope lpos) (some (.Name y py)) spos.line X.env = pure true)
    (hg : Gl X gn) (hm : X.mg gn = some (.ref f)) (hkp : PySem.W.keepIn X.K (.ref f) = true) (hb : Binds X.K fd ps []) (ha : PA X (e :: es) ta)
    (dg : (gn == ("__debug__" : Str)) = false) (dx : (x == ("__debug__" : Str)) = false) (du : (u == ("__debug__" : Str)) = false) (dv : (v == ("__debug__" : Str)) = false)
    (he : starEach (e :: es) X.env = (false, eval e X.env) :: starEach es X.env) (hpl : (backTo cpos (starEach es X.env)).any (·.1) = false) :
    PS X (.Assign [.Name y py] (.ListComp (.BinOp (.Name x p1) .Sub (.BinOp (.Name u p2) .Mult (.Name v p3) p4) p5) [⟨.Name x px, .Call (.Name gn gp) (e :: es) [] cpos, [], 0⟩] scope lpos) spos) (tGenC sp ta i iu iv) := by
  refine ⟨fun pins s σ H Dn I h => ?_⟩
  rw [exec_Assign_Name_used _ _ _ _ hsw]
  have hfree : ∀ z ∈ scope.names, z.2 = .free → ∃ c, X.env.cells.lookup z.1 = some c := fun z hz ez => (bk.free z hz ez).elim (fun q => I.ok.has _ (.inl q)) fun q => I.ok.has _ (.inr q)
  refine wpAny_bind (wpAny_standAt (wpAny_bind (wpAny_bind (thn ?core fun _ s' hq => wpAny_pure (wpAny_pure hq)))))
  case core =>
  refine wpAny_comprehension_free (use := some (assign (.Name y py) X.env)) (Q := fun _ s' => SP X pins Dn .next s') rfl (fun _ => rfl) (closure_ok hfree) bk.kind bk.loc ?_
  refine wpAny_Call_Name_kw (ld_glob I hg hm (PySem.W.callWith_K (h₀ := X.base) I.ok.mod.kin hkp (thn (ha.run cpos pins s σ H _ I h) fun us sc ⟨vs, H1, I1, rv, zs, Qh, bu, bv, hsp, hbu, hbv, hz, hmu, fin⟩ => ⟨I1.kIn, ?_⟩) he hpl) dg)
  have hl2 : us.length = ps.length := by rw [← rv.length]; exact F.len _ _ _ _ hsp
  have bd := hb sc us I1.kIn (by rw [List.append_nil]; exact hl2)
  rw [List.append_nil] at bd
  refine wpAny_call (codeAny_mono (F.run X.A X.stack sc H1 ⟨us, []⟩ us vs zs Qh (room.mono (by omega)) I1.env0 bd rv hsp) fun r s2 hq => ?_)
  cases r with
  | error e => exact hq.elim
  | ok fl =>
    cases fl with
    | next => exact hq.elim
    | brk => exact hq.elim
    | cont => exact hq.elim
    | ret w =>
      obtain ⟨a, g, c, rfl, ⟨ha1, ha2⟩, ⟨isg, hgs⟩, ⟨os2, bare2, nol2⟩, kp, wake⟩ := hq
      refine wpAny_pyIter_gen isg (wpAny_newObj_type (newEnv_comp ?_) (by show 0 ≤ sizeLine; decide))
      generalize hDe : s2.heap.objs.size = D
      have hD0 : (s2.heap.push { cls := .type "list", data := .seq ([] : List Value).toArray }).get? D = some (lstObj #[] 0) := by rw [← hDe]; exact Heap.get?_push_size _ rfl
      have hsz3 : (s2.heap.push { cls := .type "list", data := .seq ([] : List Value).toArray }).objs.size = D + 1 := by rw [Heap.size_push, hDe]
      generalize hCe : (s2.heap.push { cls := .type "list", data := .seq ([] : List Value).toArray }).objs.size = C
      have hCD : C = D + 1 := hCe.symm.trans hsz3
      have lt_sc : sc.heap.objs.size < s2.heap.objs.size := Nat.lt_of_le_of_lt ha1 ha2
      have kp4 : ∀ b o, (s2.heap.push { cls := .type "list", data := .seq ([] : List Value).toArray }).get? b = some o → (pushCells ((s2.heap.push { cls := .type "list", data := .seq ([] : List Value).toArray }).push { cls := .type "dict", data := .dict #[] }) scope.names).get? b = some o := fun b o q => pushCells_keeps _ _ _ _ (Heap.get?_push_of_some _ q)
      have kp24 : ∀ b o, s2.heap.get? b = some o → (pushCells ((s2.heap.push { cls := .type "list", data := .seq ([] : List Value).toArray }).push { cls := .type "dict", data := .dict #[] }) scope.names).get? b = some o := fun b o q => kp4 b o (Heap.get?_push_of_some _ q)
      have nsC : (pushCells ((s2.heap.push { cls := .type "list", data := .seq ([] : List Value).toArray }).push { cls := .type "dict", data := .dict #[] }) scope.names).Ns C fun _ => none := by
        rw [← hCe]
        exact Heap.Ns.keeps (Heap.Ns.new ..) fun b o q => pushCells_keeps _ _ _ _ q
      have cellAt : ∀ {j : Nat} {z : Str} {b : Int}, X.N[j]? = some z → σ[j]? = some (some (.int b)) → X.env.kindOf z = some .cell → ∃ c t, X.env.cells.lookup z = some c ∧ sc.heap.IsCell c (some (.int b t)) ∧ H1 c = none := fun {j z b} hj hσ hz => by
        obtain ⟨m, _, hl⟩ := I1.loc
        obtain ⟨w, ⟨t, rfl⟩, l⟩ := hl j z _ hj hσ (.inr (.inl hz))
        rcases l with ⟨q, _⟩ | ⟨_, c, hc, hcell⟩
        · rw [hz] at q; cases q
        · exact ⟨c, t, hc, hcell, I1.freeC z c hc⟩
      obtain ⟨cu, tu, lcu, uA, nu⟩ := cellAt hu hbu bk.uc
      obtain ⟨cv, tv, lcv, vA, nv⟩ := cellAt hv hbv bk.vc
      have cst : cStatics < s2.heap.objs.size := let ⟨_, q, _⟩ := nol2; q.lt
      show codeAny _ _ (.compStart _ 0 (.ref a) (.ref D) (compEnvC scope (cellsFrom (C + 1) scope.names (cloFrom X.env.cells scope.names [])) C X.env)) (compPost (model X.prog X.w) X.A X.xe (some (assign (.Name y py) X.env)) _ (.ref D) C) _
      generalize hs4 : ({ s2 with heap := pushCells ((s2.heap.push { cls := .type "list", data := .seq ([] : List Value).toArray }).push { cls := .type "dict", data := .dict #[] }) scope.names } : Shared) = s4
      have e4 : s4.heap = pushCells ((s2.heap.push { cls := .type "list", data := .seq ([] : List Value).toArray }).push { cls := .type "dict", data := .dict #[] }) scope.names := by rw [← hs4]
      rw [← e4] at kp4 kp24 nsC
      have g4 : s4.gens = s2.gens := by rw [← hs4]
      have o4 : s4.os = s2.os := by rw [← hs4]
      have hD4 : s4.heap.get? D = some (lstObj #[] 0) := kp4 _ _ hD0
      have am : Amid X sc H1 zs Qh (bu * bv) a g D C 0 s4 := by
        refine ⟨o4.trans os2, by rw [g4]; exact bare2, nol2.keeps kp24, isg.keeps kp24, ⟨H1, Un.kept fun b o q => kp24 b o (kp b o q)⟩, ⟨#[], 0, hD4, .nil⟩, ⟨_, nsC⟩, Nat.zero_le _, ⟨.fresh c, by rw [g4]; exact hgs, rfl, ?_⟩⟩
        refine wake X.A.in1 [D, C] _ room.in1 (by rw [← I1.ok.frames]) (fun b hb => ?_) (fun b o q => kp24 b o q) (fun b hb => ?_) (o4.trans os2) (allBare_setGen (by rw [g4]; exact bare2) rfl)
        · rcases (show b = D ∨ b = C by simpa using hb) with q | q
          · rw [q, hDe]; exact Nat.le_refl _
          · rw [q, hDe, hCD]; exact Nat.le_succ _
        · rcases (show b = D ∨ b = C by simpa using hb) with rfl | rfl
          · exact ⟨_, hD4, fun v q => by cases q⟩
          · obtain ⟨o, es, ep, ho, dd, _⟩ := nsC
            exact ⟨o, ho, fun v q => by rw [dd] at q; cases q⟩
      have lD : sc.heap.objs.size < D := by rw [← hDe]; exact lt_sc
      have laD : a < D := by rw [← hDe]; exact ha2
      have lcD : cStatics < D := by rw [← hDe]; exact cst
      have lDC : D < C := by rw [hCD]; exact Nat.lt_succ_self _
      have neDC : D ≠ C := Nat.ne_of_lt lDC
      have neaD : a ≠ D := Nat.ne_of_lt laD
      have neaC : a ≠ C := Nat.ne_of_lt (Nat.lt_trans laD lDC)
      have necD : cStatics ≠ D := Nat.ne_of_lt lcD
      have necC : cStatics ≠ C := Nat.ne_of_lt (Nat.lt_trans lcD lDC)
      have lscD : sc.heap.objs.size ≤ D := Nat.le_of_lt lD
      have lscC : sc.heap.objs.size ≤ C := Nat.le_of_lt (Nat.lt_trans lD lDC)
      have ll := gen_loop (R := compPost (model X.prog X.w) X.A X.xe (some (assign (.Name y py) X.env)) (fun _ s' => SP X pins Dn .next s') (.ref D) C) (iter := .Call (.Name gn gp) (e :: es) [] cpos) (p1 := p1) (p2 := p2) (p3 := p3) (p4 := p4) (p5 := p5) (px := px) (lpos := lpos) (scope := scope)
        (ce := compEnvC scope (cellsFrom (C + 1) scope.names (cloFrom X.env.cells scope.names [])) C X.env) (x := x) (u := u) (v := v) (D := D) (C := C) I1 room hz hmu neDC neaD neaC necD necC lscD lscC uA vA nu nv
        bk.kind (bk.kx _ _) (bk.ku _ _) (bk.kv _ _) (by rw [show (compEnvC scope (cellsFrom (C + 1) scope.names (cloFrom X.env.cells scope.names [])) C X.env).cells = cellsFrom (C + 1) scope.names (cloFrom X.env.cells scope.names []) from rfl, bk.cu, lcu]; rfl)
        (by rw [show (compEnvC scope (cellsFrom (C + 1) scope.names (cloFrom X.env.cells scope.names [])) C X.env).cells = cellsFrom (C + 1) scope.names (cloFrom X.env.cells scope.names []) from rfl, bk.cv, lcv]; rfl) rfl dx du dv (fun s' H' I' hq ⟨mC, hn⟩ hC hDn => ?_) am
      · exact codeAny_compStart_list ll (wpAny_pyIter_gen (isg.keeps kp24) ll)
      · show wpAny _ _ (assign (.Name y py) X.env (.ref D)) _ _ _
        have fC : FpOk X pins (upd H' D (.lst (zs.map fun z => V.int (z - bu * bv)))) C := I1.fpOk lscC (by rw [upd_ne (Ne.symm neDC)]; exact hC)
        obtain ⟨f0, f1, f2, f3, f4, f5⟩ := fC
        refine wpAny_assign_Name (store_ok2 (v := V.ref D) I' hN hy (.inl hyl) rfl (fun s5 I5 ⟨b, sb, hb⟩ => ?_) (.inr hyl))
        have hbC : C ≠ b := by
          rcases hb with z | z
          · rw [z]; exact f1
          · exact fun q => f4 y b z q.symm
        refine ⟨mC, hn.sameBut sb hbC, fun h6 sb6 => ⟨_, _, I5.turned (t' := s5.toks) (fun b o hb q => (sb6.2 b hb).trans q) f0 f1 f3 f4 f5, fin H' hq D hDn⟩⟩
end

end Q
namespace Q
open PySem PySem.Spec PyProof.Rows L2
open Evl (Ex)

open PySem PySem.Spec PyProof.Rows L2 GenW
open Evl (Ex)
abbrev ConI := List D → Ow → List Int → (Ow → Prop) → Prop
def spGI (L : Pl) (Cn : ConI) : SpI := fun vs H zs Qh => ∃ (T : List (Addr × Str)) (G : Hp) (W : Ow) (ds : List D) (Ψ : Ow → Prop), Hs L.K L.C T G W H ∧ RepAll L.K L.C G vs ds ∧ Cn ds W zs Ψ ∧ ∀ G2 H2 W2, Ex G G2 → Hs L.K L.C T G2 W2 H2 → Ψ W2 → Qh H2
structure DefI (L : Pl) (x : Str) (k : Nat) (ps : List Str) (Cn : ConI) : Prop where
  ex : ∃ f fd, FnI L.P L.w L.K L.mg L.base k f fd ps (spGI L Cn) ∧ Binds L.K fd ps [] ∧ L.mg x = some (.ref f) ∧ PySem.W.keepIn L.K (.ref f) = true
def HWp (U : Ct) (sts : List Stmt) (zs : List Int) (env : Ev0) (W : Ow) (Φ : Ow → Prop) : Prop :=
  ∀ (σ : L2.St) (G H : Hp), Ex U.G G → Hs U.X.K U.C U.T G W H → Slots U.X.K U.C G σ env → ∀ Dn : Hp → Prop, (∀ G2 H2 W2, Ex G G2 → Hs U.X.K U.C U.T G2 W2 H2 → Φ W2 → Dn H2) → GBn U.X zs sts Dn σ H
section
variable {U : Ct} {env : Ev0} {W : Ow} {Φ : Ow → Prop} {e : Expr} {pos : Pos} {es : List Expr} {st : Stmt} {rest : List Stmt} {zs : List Int}
theorem hw_plain (h : Wp1 U st env W ⟨fun env' W' => HWp U rest zs env' W' Φ, fun _ _ => False, fun _ _ => False, fun _ _ => False⟩) : HWp U (st :: rest) zs env W Φ := fun σ G H eg hs sl Dn ke =>
  gb_plain ps_sem (h σ G H eg hs sl _ ⟨fun σ2 G2 H2 env2 W2 e2 h2 s2 k2 => k2 σ2 G2 H2 (eg.trans e2) h2 s2 Dn fun G3 H3 W3 e3 => ke G3 H3 W3 (e2.trans e3), fun _ _ _ _ _ _ _ _ z => z.elim, fun _ _ _ _ _ _ _ _ z => z.elim, fun _ _ _ _ _ _ _ _ z => z.elim⟩)
theorem hw_forY (ok : U.Ok) (i : Nat) {x : Str} {px p2 yp p3 : Pos} (h : EvI U (.Name x px) e env W fun n item W1 => n = zs.length ∧ n ≤ 1000000 ∧ (∀ j, j < n → item j = .p (.int (zs.getD j 0))) ∧ Φ W1)
    (hi : U.X.N[i]? = some x) (hx : Loc U.X.env.scope x) (hv : Vis U.X.env.scope x) (hf : U.X.fn x = true ∨ U.X.env.scope.names.lookup x = some .local) (hlen : i < U.X.N.length) (hco : U.X.env.scope.isCoroutine = false) (hin : interactive U.X.env = false)
    (hz : zs.length ≤ sizeLine) (hd : (x == ("__debug__" : Str)) = false := by decide) (hcd : (x == ("__classdict__" : Str)) = false := by decide)
    (hs : ∀ x, foldedSetIterable e U.X.env x = pure x := by intro _; rfl) : HWp U [.For (.Name x px) e [.Expr (.Yield (some (.Name x p2)) yp) p3] [] pos] zs env W Φ := by
  intro σ G H eg h0 sl Dn ke A F R s₀ c fs K J gd lv s far own g k I
  refine gb_forY ok.calm ok.nd pi_sem hi hx hv hf hlen hco hin hz hd hcd hs (h σ G H eg h0 sl _ fun Jt n item G2 H2 W2 Gd Y wk e2 h2 hGd hY z => ?_) A F R s₀ c fs K J gd lv s far own g k I
  obtain ⟨rfl, hn, hit, fin⟩ := z
  refine ⟨fun j H' => j ≤ zs.length ∧ ∃ G', Ex G2 G' ∧ Hs U.X.K U.C U.T G' W2 H', ⟨Nat.zero_le _, G2, Ex.refl _, h2⟩, fun j H' ⟨hj, G', e', h'⟩ => ?_⟩
  by_cases hlt : j < zs.length
  · refine .inr ⟨zs[j], List.getElem?_eq_getElem hlt, wk.goes j H' hlt (hGd G' H' W2 e' h'), fun y H4 yl => ?_⟩
    obtain ⟨G4, e4, h4, r4⟩ := hY j H' y H4 G' _ hlt e' h' (wk.yields j H' y H4 hlt (hGd G' H' W2 e' h') yl)
    have ei := hit j hlt
    rw [List.getD_eq_getElem?_getD, List.getElem?_eq_getElem hlt] at ei
    rw [ei] at r4
    cases (show Rp G4 y (.int _) from r4)
    exact ⟨rfl, hlt, G4, e'.trans e4, h4⟩
  · have ej : j = zs.length := by omega
    subst ej
    exact .inl ⟨rfl, wk.stops H' (hGd G' H' W2 e' h'), ke _ _ _ (e2.trans e') h' fin⟩
/-- name = [x - u * v for x in g(..)] -/
theorem w_setGenC {Φk : Ke} {L : Pl} {k : Nat} {ps : List Str} {Cn : ConI} {gn : Str} (hL : L.Has U) (ok : U.Ok) (Dg : DefI L gn k ps Cn) (i iu iv : Nat) {y x u v : Str} {py px p1 p2 p3 p4 p5 lpos spos gp cpos : Pos} {scope : Scope} (hk : k + 1 ≤ U.k)
    (h : EvA U (e :: es) env W fun ds W1 => ∃ zs bu bv, env[iu]? = some (some (.p (.int bu))) ∧ env[iv]? = some (some (.p (.int bv))) ∧ zs.length ≤ 1000000 ∧ CMul bu bv ∧ Cn ds W1 zs fun W2 => Φk.nx (env.set i (some (.p (.list (zs.map fun z => .int (z - bu * bv)))))) W2)
    (hy : U.X.N[i]? = some y) (hyl : U.X.env.scope.names.lookup y = some .local) (hu : U.X.N[iu]? = some u) (hv : U.X.N[iv]? = some v) (bk : GenBlk U.X scope x u v)
    (hsw : swapsWith (.ListComp (.BinOp (.Name x p1) .Sub (.BinOp (.Name u p2) .Mult (.Name v p3) p4) p5) [⟨.Name x px, .Call (.Name gn gp) (e :: es) [] cpos, [], 0⟩] scope lpos) (some (.Name y py)) spos.line U.X.env = pure true)
    (hg : Gl U.X gn) (dg : (gn == ("__debug__" : Str)) = false := by decide) (dx : (x == ("__debug__" : Str)) = false := by decide) (du : (u == ("__debug__" : Str)) = false := by decide) (dv : (v == ("__debug__" : Str)) = false := by decide)
    (he : starEach (e :: es) U.X.env = (false, eval e U.X.env) :: starEach es U.X.env := by rfl) (hpl : (backTo cpos (starEach es U.X.env)).any (·.1) = false := by rfl) :
    Wp1 U (.Assign [.Name y py] (.ListComp (.BinOp (.Name x p1) .Sub (.BinOp (.Name u p2) .Mult (.Name v p3) p4) p5) [⟨.Name x px, .Call (.Name gn gp) (e :: es) [] cpos, [], 0⟩] scope lpos) spos) env W Φk := by
  obtain ⟨f, fd, F, bi, hm, kp⟩ := Dg.ex
  have F' : FnI U.X.prog U.X.w U.X.K U.X.mg U.X.base k f fd ps (spGI L Cn) := by
    rw [hL.P, hL.w, hL.K, hL.mg, hL.base]
    exact F
  intro σ G H eg h0 sl Dn ke
  refine SemS.of (ps_setGenC F' (ok.room.mono hk) ok.nd hy hyl hu hv bk hsw hg (by rw [hL.mg]; exact hm) (by rw [hL.K]; exact kp) (by rw [hL.K]; exact bi) pa_sem dg dx du dv he hpl) (h σ G H eg h0 sl _ fun vs G1 H1 ds W1 e1 h1 r1 z => ?_)
  obtain ⟨zs, bu, bv, hbu, hbv, hz, hmu, z⟩ := z
  have num : ∀ {j : Nat} {b : Int}, env[j]? = some (some (.p (.int b))) → σ[j]? = some (some (.int b)) := fun {j b} hj => by
    obtain ⟨w, hw, r⟩ := sl.2 j _ hj
    cases (show Rp G w (.int b) from r)
    exact hw
  refine ⟨zs, fun H2 => ∀ p, H2 p = none → gName i (V.ref p) σ (upd H2 p (.lst (zs.map fun z => V.int (z - bu * bv)))) Dn.nx, bu, bv, ⟨U.T, G1, W1, ds, _, by rw [← hL.K, ← hL.C]; exact h1, by rw [← hL.K, ← hL.C]; exact r1, z, ?_⟩, num hbu, num hbv, Nat.lt_of_le_of_lt hz (by rw [sizeLine_eq]; decide), hmu.ok, fun H2 q p hp => q p hp⟩
  rw [← hL.K, ← hL.C]
  intro G2 H2 W2 e2 h2 z2 p hp
  have intz : ∀ l : List Int, RpAll (upd G2 p (.lst (zs.map fun z => V.int (z - bu * bv)))) (l.map fun z => V.int (z - bu * bv)) (l.map fun z => PyData.int (z - bu * bv)) := fun l => by
    induction l with
    | nil => exact .nil
    | cons a l ih => exact .cons (.int _) ih
  have e3 := (e1.trans e2).trans (h2.ex (o := .lst (zs.map fun z => V.int (z - bu * bv))) hp)
  exact ke.nx _ _ _ _ W2 e3 (h2.new hp) ((sl.mono e3).set (show Rep _ _ _ _ (.p _) from Rp.lst upd_same (intz zs))) z2
end
/-- a generator's def, of whole numbers -/
theorem fnI_body {L : Pl} {x qual : Str} {st : Stmt} {f : Addr} {fd : FuncData} {N ps : List Str} {k : Nat} {Cn : ConI} (F : Fun L.K x qual st f fd) (S : GScope N ps (defScope st)) (len : ∀ ds W zs Ψ, Cn ds W zs Ψ → ds.length = ps.length)
    (h : ∀ U : Ct, L.Has U → U.Ok → U.k = k → (∃ (f' : Addr) (cd : Value) (A : Around) (outer : List Env) (s : Shared) (H : Hp) (E : XK) (T : List (Addr × Str)) (G : Hp) (Ξ : Xc → Ow → Prop) (pn : List (Addr × Obj)), U = ctG L N qual (defScope st) f' cd A outer s H E T G Ξ k pn) →
      ∀ ds W zs Ψ, Cn ds W zs Ψ → HWp U (defBody st) zs (startE N ds) W Ψ) : FnI L.P L.w L.K L.mg L.base (k + 1) f fd ps (spGI L Cn) := by
  obtain ⟨oc, od, kV, doc, pm, an, cdv, ct, osl, rfl, lk, hcd⟩ := F.ex
  refine fnI_of lk hcd S (fun vs H zs Qh ⟨T, G, W, ds, Ψ, _, ra, c, _⟩ => by rw [ra.len]; exact len _ _ _ _ c) fun A outer s H vs zs Qh pn hr hsp => ?_
  obtain ⟨T, G, W, ds, Ψ, hs, ra, c, q⟩ := hsp
  have ok : (ctG L N qual (defScope st) f cdv A outer s H E0 T G (fun _ _ => False) k pn).Ok := ⟨rfl, hr, S.nd, owns_gcx, takes_gcx, fun _ _ _ _ _ _ _ _ _ z => z.elim⟩
  have z := h (ctG L N qual (defScope st) f cdv A outer s H E0 T G (fun _ _ => False) k pn) ⟨rfl, rfl, rfl, rfl, rfl, rfl, rfl, rfl, rfl, rfl⟩ ok rfl ⟨f, cdv, A, outer, s, H, E0, T, G, _, pn, rfl⟩ ds W zs Ψ c
  exact z (L2.start N vs) G H (Ex.refl G) hs (startE_ok ra) Qh q

end Q
namespace Q
open PySem PySem.Spec PyProof.Rows L2
open Evl (Ex)

open PySem PySem.Spec PyProof.Rows L2 GenW
open Evl (Ex)
/-! ### lambdas as values: at most one parameter, which has a whole number as its default and is not read -/
abbrev lmO (q : Str) (params : Arguments) (body : Expr) (scope : Scope) (cl : List (Str × Addr)) (dV pm : Value) (c' : Addr) (ctv : Value) : Obj :=
  { cls := .type "function", data := .func { PySem.W.kla_fn "<lambda>" q params body scope cl pm (.ref c') ctv with defaults := dV } }
section
variable {M : Model} {A : Around} {E : Value → Shared → Prop} {s : Shared} {q : Str} {params : Arguments} {body : Expr} {scope : Scope} {env : Env} {c P : Addr} {tb : Array Value} {pos : Pos} {mg : Str → Option Value} {cl : List (Str × Addr)} {Qv : Value → Shared → Prop} {dV : Value}
/-- its code object is new -/
theorem tail_new (c1 : closureFor scope env = pure cl) (c2 : env.globals = mainGlobals) (c3 : s.heap.Ns mainGlobals mg) (c4 : env.code = .ref c) (CH : PySem.W.CodeHd s.heap c P) (hP : s.heap.get? P = some { cls := .none, data := .fields tb }) (ht : TriplesOk tb.toList)
    (no : codeAmong pos tb.toList = none) (gP : mainGlobals ≠ P) (BA : s.heap.BuiltinsAt mg P)
    (k : ∀ c' ctv h2 tk, Heap.ExtBut P s.heap h2 → s.heap.objs.size ≤ c' → c' < h2.objs.size → h2.CodeRec (.ref c') q → h2.get? P = some { cls := .none, data := .fields (tb ++ #[rawInt pos.line, rawInt pos.col, .ref c']) } →
      Qv (.ref h2.objs.size) { s with heap := h2.push (lmO q params body scope cl dV ((mg "__name__").getD .none) c' ctv), toks := tk }) :
    wpAny M A (makeTail "<lambda>" q params (.expr body) scope env dV .none none pos pos.line) Qv E s := by
  obtain ⟨bm, ob, e1, e2, _, e3, e4, e5, e6, e7⟩ := BA
  unfold makeTail
  rw [c1, c2]
  refine wpAny_bind (wpAny_pure ?_)
  cases cl with
  | nil =>
    refine wpAny_bind (wpAny_pure (wpAny_bind (wpAny_functionCodeX c4 (CH.code hP ht) (CH.tab hP) no fun c' h2 tk x2 lo hi _ rec tab2 _ => ?_)))
    have n2 := c3.extBut x2 gP
    refine wpAny_bind (wpAny_builtinsFor n2 e1 e2 (x2 _ _ e3 e4) e5 e6 e7 (wpAny_bind (wpAny_nsGet n2 (wpAny_bind (wpAny_pure (wpAny_newObj_type (k c' .none h2 tk x2 lo hi rec tab2.2) (by size_fits)))))))
  | cons y r =>
    refine wpAny_bind (wpAny_newTextTuple (wpAny_bind (wpAny_functionCodeX c4 ((CH.keeps fun b o z => Heap.get?_push_of_some _ z).code (Heap.get?_push_of_some _ hP) ht) ((CH.keeps fun b o z => Heap.get?_push_of_some _ z).tab (Heap.get?_push_of_some _ hP)) no fun c' h2 tk x2 lo hi _ rec tab2 _ => ?_)))
    have n2 := (c3.push _).extBut x2 gP
    have x3 : Heap.ExtBut P s.heap h2 := fun b o hb z => x2 b o hb (Heap.get?_push_of_some _ z)
    have lo3 : s.heap.objs.size ≤ c' := Nat.le_trans (by rw [Heap.size_push]; omega) lo
    refine wpAny_bind (wpAny_builtinsFor n2 e1 e2 (x3 _ _ e3 e4) e5 e6 e7 (wpAny_bind (wpAny_nsGet n2 (wpAny_bind (wpAny_pure (wpAny_newObj_type (k c' _ h2 tk x3 lo3 hi rec tab2.2) (by size_fits)))))))
/-- its code object is in the table -/
theorem tail_hit {c' : Addr} (c1 : closureFor scope env = pure cl) (c2 : env.globals = mainGlobals) (c3 : s.heap.Ns mainGlobals mg) (c4 : env.code = .ref c) (CH : PySem.W.CodeHd s.heap c P) (hP : s.heap.get? P = some { cls := .none, data := .fields tb }) (ht : TriplesOk tb.toList)
    (yes : codeAmong pos tb.toList = some (.ref c')) (BA : s.heap.BuiltinsAt mg P)
    (k : ∀ (ctv : Value) (h2 : Heap) (tk : Tok), (∀ b o, s.heap.get? b = some o → h2.get? b = some o) → s.heap.objs.size ≤ h2.objs.size →
      Qv (.ref h2.objs.size) { s with heap := h2.push (lmO q params body scope cl dV ((mg "__name__").getD .none) c' ctv), toks := tk }) :
    wpAny M A (makeTail "<lambda>" q params (.expr body) scope env dV .none none pos pos.line) Qv E s := by
  obtain ⟨bm, ob, e1, e2, _, e3, e4, e5, e6, e7⟩ := BA
  unfold makeTail
  rw [c1, c2]
  refine wpAny_bind (wpAny_pure ?_)
  cases cl with
  | nil =>
    refine wpAny_bind (wpAny_pure (wpAny_bind (wpAny_functionCode_hit c4 (CH.code hP ht) yes (wpAny_bind (wpAny_builtinsFor c3 e1 e2 e4 e5 e6 e7 (wpAny_bind (wpAny_nsGet c3 (wpAny_bind (wpAny_pure (wpAny_newObj_type (k .none s.heap s.toks (fun _ _ z => z) (Nat.le_refl _)) (by size_fits)))))))))))
  | cons y r =>
    have big : ∀ oT : Obj, s.heap.objs.size ≤ (s.heap.push oT).objs.size := fun oT => by rw [Heap.size_push]; omega
    refine wpAny_bind (wpAny_newTextTuple (wpAny_bind (wpAny_functionCode_hit c4 ((CH.keeps fun b o z => Heap.get?_push_of_some _ z).code (Heap.get?_push_of_some _ hP) ht) yes (wpAny_bind (wpAny_builtinsFor (c3.push _) e1 e2 (Heap.get?_push_of_some _ e4) e5 e6 e7 (wpAny_bind (wpAny_nsGet (c3.push _) (wpAny_bind (wpAny_pure (wpAny_newObj_type (k _ _ s.toks (fun b o z => Heap.get?_push_of_some _ z) (big _)) (by size_fits)))))))))))
end

end Q
namespace Q
open PySem PySem.Spec PyProof.Rows L2
open Evl (Ex)

open PySem PySem.Spec PyProof.Rows L2 GenW LamX
open Evl (Ex)
section
variable {X : Cx} {pins : List (Addr × Obj)} {σ : L2.St} {H : Hp} {s : Shared}
abbrev lmQ (X : Cx) : Str := X.env.qual ++ "<lambda>"
/-- a lambda's function object is known, and its code object -/
structure LmAt (X : Cx) (params : Arguments) (body : Expr) (scope : Scope) (dV : Value) (H : Hp) (f c' : Addr) : Prop where
  fn : ∃ pm ctv, H f = some (.frz (lmO (lmQ X) params body scope (cloFrom X.env.cells scope.names []) dV pm c' ctv) (.own f))
  co : H c' = some (CodeO c' (lmQ X))
theorem lm_tail {T : List (Addr × Str)} {c P : Addr} {params : Arguments} {body : Expr} {scope : Scope} {pos : Pos} {dV : Value} {E : Value → Shared → Prop} {Qv : Value → Shared → Prop} (I : Inv X pins σ H s) (TB : TabB X.base X.mg c P) (hcode : X.env.code = .ref c)
    (hm : (P, lmQ X) ∈ T) (hu : ∀ p ∈ T, p.1 = P → p.2 = lmQ X) (hT : Tabs T H) (hfree : ∀ y ∈ scope.names, y.2 = .free → ∃ c, X.env.cells.lookup y.1 = some c)
    (k : ∀ (f c' : Addr) (H1 : Hp) (s' : Shared), Inv X pins σ H1 s' → ExtN H H1 → Tabs T H1 → H f = none → f ≠ c' → LmAt X params body scope dV H1 f c' → Qv (.ref f) s') :
    wpAny (model X.prog X.w) X.A (makeTail "<lambda>" (lmQ X) params (.expr body) scope X.env dV .none none pos pos.line) Qv E s := by
  obtain ⟨tb, hP, ht, ha⟩ := hT _ hm
  have bP : s.heap.BuiltinsAt X.mg P := TB.bm.keeps I.bk
  have hP' : s.heap.get? P = some { cls := .none, data := .fields tb } := I.hok P _ hP
  have nG := I.mod.glob.keeps I.bk
  have CH := TB.code.keeps I.bk
  cases hc : codeAmong pos tb.toList with
  | none =>
    refine tail_new (mg := X.mg) (closure_ok hfree) I.ok.glob nG hcode CH hP' ht hc TB.gP bP fun c' ctv h2 tk x2 lo hi rec tab2 => ?_
    obtain ⟨c2, oc, vs, t, e2, hoc, hd, hv⟩ := rec
    cases e2
    have nC : H c' = none := I.hok.fresh lo
    have I1 := inv_table (t' := tk) (more := #[rawInt pos.line, rawInt pos.col, .ref c']) (h' := h2) I hP x2 tab2 lo ⟨oc, vs, t, hoc, hd, hv⟩
    have hE : ExtN H (upd (upd H P (.tbl (tb ++ #[rawInt pos.line, rawInt pos.col, .ref c']))) c' (CodeO c' (lmQ X))) := fun b o e n => by
      rw [upd_ne (ne_of_none e nC), upd_ne fun z => n tb (Option.some.inj (e.symm.trans (by rw [z]; exact hP)))]
      exact e
    have eL : (tb ++ #[rawInt pos.line, rawInt pos.col, .ref c']).toList = tb.toList ++ [rawInt pos.line, rawInt pos.col, .ref c'] := by simp
    have hT1 : Tabs T (upd (upd H P (.tbl (tb ++ #[rawInt pos.line, rawInt pos.col, .ref c']))) c' (CodeO c' (lmQ X))) := fun p hp => by
      by_cases hb : p.1 = P
      · rw [hu p hp hb, hb]
        refine ⟨_, by rw [upd_ne (ne_of_none hP nC), upd_same], by rw [eL]; exact PySem.TriplesOk_snoc _ _ _ _ ht, fun p' cv hcv => ?_⟩
        rw [eL] at hcv
        rcases among_app _ ht hcv with z | z
        · obtain ⟨c0, z1, z2⟩ := ha p' cv z
          exact ⟨c0, z1, hE _ _ z2 codeO_ne⟩
        · exact ⟨c', z, upd_same⟩
      · obtain ⟨tb', a1, a2, a3⟩ := hT p hp
        refine ⟨tb', by rw [upd_ne (ne_of_none a1 nC), upd_ne hb]; exact a1, a2, fun p' cv hcv => ?_⟩
        obtain ⟨c0, z1, z2⟩ := a3 p' cv hcv
        exact ⟨c0, z1, hE _ _ z2 codeO_ne⟩
    have sz : s.heap.objs.size ≤ h2.objs.size := Nat.le_trans lo (Nat.le_of_lt hi)
    have fr1 := I1.hok.fresh (Nat.le_refl h2.objs.size)
    have I2 := I1.laid (t' := tk) (a := h2.objs.size) (o := .frz (lmO (lmQ X) params body scope (cloFrom X.env.cells scope.names []) dV ((X.mg "__name__").getD .none) c' ctv) (.own h2.objs.size)) (fun b o e => Heap.get?_push_of_some _ e) (Nat.le_refl _) ⟨Heap.get?_push_size _ rfl, _, Heap.get?_push_size _ rfl⟩
    refine k _ c' _ _ I2 (hE.trans fun b o e n => by rw [upd_ne (ne_of_none e fr1)]; exact e) (hT1.ext fun b o e => by rw [upd_ne (ne_of_none e fr1)]; exact e) (I.hok.fresh sz) (Nat.ne_of_gt hi) ⟨⟨_, _, upd_same⟩, by rw [upd_ne (Nat.ne_of_lt hi), upd_same]⟩
  | some cv =>
    obtain ⟨c', e, hco⟩ := ha pos cv hc
    subst e
    refine tail_hit (mg := X.mg) (closure_ok hfree) I.ok.glob nG hcode CH hP' ht hc bP fun ctv h2 tk x2 sz => ?_
    have fr := I.hok.fresh sz
    have I2 := I.laid (t' := tk) (h' := h2.push (lmO (lmQ X) params body scope (cloFrom X.env.cells scope.names []) dV ((X.mg "__name__").getD .none) c' ctv)) (a := h2.objs.size) (o := .frz (lmO (lmQ X) params body scope (cloFrom X.env.cells scope.names []) dV ((X.mg "__name__").getD .none) c' ctv) (.own h2.objs.size)) (fun b o e => Heap.get?_push_of_some _ (x2 b o e)) sz ⟨Heap.get?_push_size _ rfl, _, Heap.get?_push_size _ rfl⟩
    have nfc : h2.objs.size ≠ c' := fun z => by rw [z, hco] at fr; cases fr
    refine k _ c' _ _ I2 (fun b o e n => by rw [upd_ne (ne_of_none e fr)]; exact e) (hT.ext fun b o e => by rw [upd_ne (ne_of_none e fr)]; exact e) fr nfc ⟨⟨_, _, upd_same⟩, by rw [upd_ne (Ne.symm nfc)]; exact hco⟩
/-- the default, written -/
def dfE (dk : Option Int) (j : Nat) (p : Pos) (env : Env) : List (Sem Value) := match dk with
  | none => []
  | some z => [eval (.Constant (.int z) j p) env]
/-- what stands for a default -/
def DfAt (dk : Option Int) (dV : Value) (H : Hp) : Prop := match dk with
  | none => dV = .none
  | some z => ∃ t, dV = .ref t ∧ H t = some (.tup [.int z])
/-- the lambda is made -/
theorem lm_make {T : List (Addr × Str)} {c P : Addr} {params : Arguments} {body : Expr} {scope : Scope} {pos : Pos} {dk : Option Int} {j : Nat} {p2 : Pos} {E : Value → Shared → Prop} {Qv : Value → Shared → Prop} (I : Inv X pins σ H s) (TB : TabB X.base X.mg c P) (hcode : X.env.code = .ref c)
    (hm : (P, lmQ X) ∈ T) (hu : ∀ p ∈ T, p.1 = P → p.2 = lmQ X) (hT : Tabs T H) (hfree : ∀ y ∈ scope.names, y.2 = .free → ∃ c, X.env.cells.lookup y.1 = some c)
    (hd : defaultsOf params X.env = (dfE dk j p2 X.env, [])) (hkw : params.kwonlyargs = [])
    (k : ∀ (f c' : Addr) (dV : Value) (H1 : Hp) (s' : Shared), Inv X pins σ H1 s' → ExtN H H1 → Tabs T H1 → H f = none → f ≠ c' → LmAt X params body scope dV H1 f c' → DfAt dk dV H1 → (∀ t, dV = .ref t → H t = none ∧ t ≠ f ∧ t ≠ c') → Qv (.ref f) s') :
    wpAny (model X.prog X.w) X.A (eval (.Lambda params body scope pos) X.env) Qv E s := by
  rw [arm_eval_Lambda, hd]
  cases dk with
  | none =>
    refine wpAny_bind (m := evalAll []) (wpAny_pure (wpAny_bind (wpAny_holding (m := evalAllOpt []) (wpAny_pure ?_))))
    rw [makeFunction_eq]
    simp only [hkw, List.zip_nil_left, List.filterMap_nil, List.isEmpty_nil, if_true, pure_bind]
    exact lm_tail I TB hcode hm hu hT hfree fun f c' H1 s' I1 eN T1 nf nfc la => k f c' .none H1 s' I1 eN T1 nf nfc la rfl fun t z => nomatch z
  | some z =>
    refine wpAny_bind (m := evalAll [eval (.Constant (.int z) j p2) X.env]) (wpAny_bind (m := eval (.Constant (.int z) j p2) X.env) (wpAny_Constant_int (wpAny_bind (wpAny_holding (m := evalAll []) (wpAny_pure (wpAny_pure (wpAny_bind (wpAny_holding (m := evalAllOpt []) (wpAny_pure ?_)))))))))
    rw [makeFunction_eq]
    simp only [hkw, List.zip_nil_left, List.filterMap_nil, List.isEmpty_nil, List.isEmpty_cons, Bool.false_eq_true, if_false, if_true, pure_bind]
    refine wpAny_bind (wpAny_newTextTuple ?_)
    have fr := I.hok.fresh (Nat.le_refl s.heap.objs.size)
    have I1 := I.laid (t' := s.toks + 1) (h' := s.heap.push { cls := .type "tuple", data := .seq [Value.int z s.toks].toArray }) (a := s.heap.objs.size) (o := .tup [.int z]) (fun b o e => Heap.get?_push_of_some _ e) (Nat.le_refl _)
      ⟨by rw [sizeLine_eq]; show 1 ≤ 16777216; omega, [Value.int z s.toks], .cons ⟨_, rfl⟩ .nil, ⟨_, Heap.get?_push_size _ rfl, rfl, 0, rfl⟩⟩
    have eN0 : ∀ b o, H b = some o → upd H s.heap.objs.size (.tup [.int z]) b = some o := fun b o e => by rw [upd_ne (ne_of_none e fr)]; exact e
    refine lm_tail I1 TB hcode hm hu (hT.ext eN0) hfree fun f c' H1 s' I2 eN T1 nf nfc la => ?_
    have ef : f ≠ s.heap.objs.size := fun e => by rw [e, upd_same] at nf; cases nf
    have hT0 := eN s.heap.objs.size _ upd_same fun ps z => nomatch z
    refine k f c' (.ref s.heap.objs.size) H1 s' I2 (fun b o e n => eN b o (eN0 b o e) n) T1 (by rw [upd_ne ef] at nf; exact nf) nfc la ⟨_, rfl, hT0⟩ fun t ht => ?_
    cases ht
    refine ⟨fr, Ne.symm ef, fun e => ?_⟩
    have co := la.co
    rw [← e, hT0] at co
    cases co
end

end Q
namespace Q
open PySem PySem.Spec PyProof.Rows L2
open Evl (Ex)

open PySem PySem.Spec PyProof.Rows L2 GenW LamX
open Evl (Ex)
/-! ### a lambda is called -/
/-- its names: captured ones, globals, and one of its own that the def around does not have -/
structure LmS (N : List Str) (sc scope : Scope) : Prop where
  kind : scope.kind = .function
  co : scope.isCoroutine = false
  gen : scope.isGenerator = false
  nocell : ∀ y ∈ scope.names, y.2 ≠ .cell
  own : ∀ y ∈ scope.names, y.2 = .local → y.1 ∉ N
  free : ∀ y ∈ scope.names, y.2 = .free → sc.names.lookup y.1 = some .cell ∨ sc.names.lookup y.1 = some .free
def lmSB (N : List Str) (sc scope : Scope) : Bool :=
  decide (scope.kind = .function) && !scope.isCoroutine && !scope.isGenerator && scope.names.all fun y => !decide (y.2 = .cell) && (!decide (y.2 = .local) || !N.contains y.1) && (!decide (y.2 = .free) || decide (sc.names.lookup y.1 = some .cell) || decide (sc.names.lookup y.1 = some .free))
theorem lmS_by {N : List Str} {sc scope : Scope} (h : lmSB N sc scope = true) : LmS N sc scope := by
  unfold lmSB at h
  simp only [Bool.and_eq_true, Bool.or_eq_true, Bool.not_eq_true', decide_eq_true_eq, decide_eq_false_iff_not, List.all_eq_true] at h
  obtain ⟨⟨⟨h1, h2⟩, h3⟩, h4⟩ := h
  refine ⟨h1, h2, h3, fun y hy => (h4 y hy).1.1, fun y hy e => ?_, fun y hy e => ?_⟩
  · rcases (h4 y hy).1.2 with z | z
    · exact absurd e z
    · simpa using z
  · rcases (h4 y hy).2 with (z | z) | z
    · exact absurd e z
    · exact .inl z
    · exact .inr z
theorem LmS.has {X : Cx} {scope : Scope} (L : LmS X.N X.env.scope scope) (ok : X.Ok) : ∀ y ∈ scope.names, y.2 = .free → ∃ c, X.env.cells.lookup y.1 = some c := fun y hy e => (L.free y hy e).elim (fun k => ok.has _ (.inl k)) fun k => ok.has _ (.inr k)
/-- what a call of it binds -/
def LmB (params : Arguments) (body : Expr) (scope : Scope) (dk : Option Int) : Prop := match dk with
  | none => ∀ (q : Str) (cl : List (Str × Addr)) (pm cv ctv : Value), bindArgs { PySem.W.kla_fn "<lambda>" q params body scope cl pm cv ctv with defaults := .none } ⟨[], []⟩ = pure []
  | some _ => ∃ a : Str, scope.names.lookup a = some .local ∧ ∀ (q : Str) (cl : List (Str × Addr)) (pm cv ctv : Value) (t : Addr) (v : Value), ∃ k : Option (Array Value) → Sem (List (Str × Value)), bindArgs { PySem.W.kla_fn "<lambda>" q params body scope cl pm cv ctv with defaults := .ref t } ⟨[], []⟩ = (seqItems? (.ref t) >>= k) ∧ k (some #[v]) = pure [(a, v)]
section
variable {X : Cx} {pins : List (Addr × Obj)} {σ : L2.St} {H HZ : Hp} {s s1 : Shared}
theorem lm_start {A : Around} {outer : List Env} {E : XK} {scope : Scope} {f c' : Addr} {h1 : Heap} {tk : Nat} {m : Str → Option Value} (I : Inv X pins σ H s) (L : LmS X.N X.env.scope scope) (e0 : Env0 X.prog X.w X.K X.mg X.base A outer s1 HZ) (hd : A.handled = none)
    (un : Un (frs X.stack) [] H HZ s.heap s1.heap) (hns : h1.Ns s1.heap.objs.size m) (kp : ∀ b o, s1.heap.get? b = some o → h1.get? b = some o) :
    Inv (lamCx X A outer s1 HZ E scope f c') [] σ HZ { s1 with heap := h1, toks := tk } := by
  have hfree := L.has I.ok
  have cm : ∀ {y c}, (cloFrom X.env.cells scope.names []).lookup y = some c → X.env.cells.lookup y = some c := fun {y c} e => by
    rcases cloFrom_mem (PySem.mem_of_lookup e) with hm | ⟨z1, z2⟩
    · cases hm
    · obtain ⟨c1, hc⟩ := hfree _ z1 rfl
      have hc : X.env.cells.lookup y = some c1 := hc
      rw [show c = c1 by rw [z2, hc] <;> rfl]
      exact hc
  have look : ∀ {y}, scope.names.lookup y = some .free → ∃ c, (cloFrom X.env.cells scope.names []).lookup y = some c := fun {y} hl => mem_lookup (cloFrom_has (cells := X.env.cells) (acc := []) (show (y, NameKind.free) ∈ scope.names from PySem.mem_of_lookup hl))
  have cellK : ∀ {c : Addr} {v : Option Value}, H c = none → s.heap.IsCell c v → h1.IsCell c v := fun {c v} n ⟨o, ho, hdd⟩ => by
    obtain ⟨sl, z⟩ := un.any ho n (by simp)
    exact ⟨_, kp _ _ z, hdd⟩
  have noA : ∀ b : Addr, b ∉ (lamCx X A outer s1 HZ E scope f c').ex := fun b z => absurd (show b ∈ ([] : List Addr) from z) (by simp)
  have nocell : ∀ {y}, scope.names.lookup y ≠ some .cell := fun {y} z => L.nocell _ (PySem.mem_of_lookup z) rfl
  refine ⟨⟨e0.mod, L.kind, rfl, rfl, Nat.le_refl _, fun y z c a1 a2 => I.ok.inj y z c (cm a1) (cm a2), fun y hy => ?_, fun y c z _ => Bool.noConfusion (show false = true from z), fun _ => hd, Around.frames_deeper e0.frames, .inr ⟨rfl, rfl⟩, fun b z => absurd z (noA b), e0.bs, e0.bsz, fun b _ _ => noA b,
      fun b z => absurd z (noA b), e0.funs, e0.frf⟩,
    rfl, e0.bare, Un.kept kp, ⟨_, hns, fun i y v a1 a2 a3 => ?_⟩, fun y c e => ?_, e0.hok.fresh (Nat.le_refl _), fun y c e => ?_, fun q hq => absurd (show q ∈ ([] : List (Addr × Obj)) ++ [] from hq) (by simp), e0.hok.kept kp, I.len⟩
  · have hy : scope.names.lookup y = some .cell ∨ scope.names.lookup y = some .free := hy
    exact hy.elim (fun z => absurd z nocell) look
  · have a3 : Vis scope y := a3
    rcases a3 with z | z | z
    · exact absurd (List.mem_of_getElem? (show X.N[i]? = some y from a1)) (L.own _ (PySem.mem_of_lookup z) rfl)
    · exact absurd z nocell
    · obtain ⟨m0, _, hl⟩ := I.loc
      have vis : Vis X.env.scope y := (L.free _ (PySem.mem_of_lookup z) rfl).elim (fun w => .inr (.inl w)) fun w => .inr (.inr w)
      obtain ⟨w', r, q⟩ := hl i y v a1 a2 vis
      obtain ⟨c2, h2⟩ := look z
      refine ⟨w', r, .inr ⟨.inr z, c2, h2, ?_⟩⟩
      rcases q with ⟨k', _⟩ | ⟨_, c3, e', cc⟩
      · have k' : X.env.scope.names.lookup y = some .local := k'
        rcases L.free _ (PySem.mem_of_lookup z) rfl with k2 | k2 <;> rw [show X.env.scope.names.lookup y = _ from k2] at k' <;> cases k'
      · rw [cm h2] at e'
        cases e'
        exact cellK (I.freeC y _ (cm h2)) cc
  · obtain ⟨w', z⟩ := I.cell y c (cm e)
    exact ⟨w', cellK (I.freeC y c (cm e)) z⟩
  · obtain ⟨v, o, ho, hdd⟩ := I.cell y c (cm e)
    exact un.free c o ho (I.freeC y c (cm e)) (by simp)
/-- the call, from any state behind s -/
theorem lm_call {A : Around} {outer : List Env} {E : XK} {params : Arguments} {body : Expr} {scope : Scope} {dk : Option Int} {dV : Value} {f c' : Addr} {k : Nat} {tb : TE} {Qv : VK} (I : Inv X pins σ H s) (L : LmS X.N X.env.scope scope) (Bd : LmB params body scope dk) (la : LmAt X params body scope dV HZ f c') (da : DfAt dk dV HZ)
    (e0 : Env0 X.prog X.w X.K X.mg X.base A outer s1 HZ) (un : Un (frs X.stack) [] H HZ s.heap s1.heap) (hr : Room (k + 1) A) (hbody : Room k (A.deeper (lamEnv X scope s1.heap.objs.size f c')) → PE (lamCx X A outer s1 HZ E scope f c') body tb) (ht : tb σ HZ Qv) :
    codeAny (model X.prog X.w) A (.call (.ref f) ⟨[], []⟩) (CR (L2.CX X.prog X.w) outer X.prog X.w HZ s1 Qv E) s1 := by
  obtain ⟨⟨pm, ctv, hf⟩, hco⟩ := la
  obtain ⟨of1, _⟩ := e0.hok f _ hf
  obtain ⟨⟨oc, vs, t, hoc, hdc, hvc⟩, _, _⟩ := e0.hok c' _ hco
  have lim : s1.heap.NoLimit := e0.mod.nolimit.keeps fun b o e => (e0.bs b o e).1
  refine PySem.W.kla_callFunE hr.depth of1 rfl L.co L.gen rfl ⟨c', oc, vs, t, rfl, hoc, hdc, hvc⟩ ?_
  have enter : ∀ binds : List (Str × Value), (∀ y ∈ binds, scope.names.lookup y.1 = some .local) → wpAny (model X.prog X.w) A.in1 (newFunctionEnv scope mainGlobals (cloFrom X.env.cells scope.names []) binds (lmQ X ++ ".<locals>.") (some f) (.ref c') none builtinsNs)
      (fun env s₂ => s₂.heap.NoLimit ∧ codeAny (model X.prog X.w) A (.expr body env) (CR (L2.CX X.prog X.w) outer X.prog X.w HZ s1 Qv E) s₂) (fun e s' => CR (L2.CX X.prog X.w) outer X.prog X.w HZ s1 Qv E (.error e) s') s1 := by
    intro binds hb
    refine wpAny_newFunctionEnv (fun y hy => L.nocell y hy) (fun y hy => hb y hy) (fun h1 hns hsb => ⟨lim.fresh _ hsb, ?_⟩) L.kind
    show codeAny _ _ (.expr body (lamEnv X scope s1.heap.objs.size f c')) _ _
    have kp : ∀ b o, s1.heap.get? b = some o → h1.get? b = some o := fun b o e => hsb.extBut b o (Nat.ne_of_lt (Heap.lt_size e)) (Heap.get?_push_of_some _ e)
    have J : Inv (lamCx X A outer s1 HZ E scope f c') [] σ HZ { s1 with heap := h1, toks := s1.toks + binds.length } := lm_start I L e0 hr.hd un hns kp
    refine PySem.W.kla_codeExpr (wpAny_mono ((hbody (hr.deeper _)).run [] _ _ HZ Qv J ht) (fun v s' hq => ?_) fun e s' hq => hq)
    obtain ⟨w', H', J', rv, q⟩ := hq
    exact ⟨w', H', J'.os, J'.bare, J'.base, J'.hok, rv, q⟩
  cases dk with
  | none =>
    have da : dV = .none := da
    subst da
    rw [Bd]
    exact wpAny_pure (enter [] fun y hy => absurd hy (by simp))
  | some z =>
    obtain ⟨t, rfl, hT⟩ := da
    obtain ⟨a, hloc, hB⟩ := Bd
    obtain ⟨_, its, rv, o, ho, hcl, n, hdt⟩ := e0.hok t _ hT
    obtain ⟨v, rfl, _⟩ := vals1 rv
    obtain ⟨kk, e1, e2⟩ := hB (lmQ X) (cloFrom X.env.cells scope.names []) pm (.ref c') ctv t v
    rw [e1]
    refine wpAny_bind (wpAny_seqItems ho hdt ?_)
    rw [show kk (some [v].toArray) = pure [(a, v)] from e2]
    exact wpAny_pure (enter [(a, v)] fun y hy => by rw [List.mem_singleton.mp hy]; exact hloc)
end

end Q
namespace Q
open PySem PySem.Spec PyProof.Rows L2
open Evl (Ex)

open PySem PySem.Spec PyProof.Rows L2 GenW LamX
open Evl (Ex)
section
variable {X : Cx} {pins : List (Addr × Obj)} {σ : L2.St} {H HZ : Hp} {s s1 : Shared}
theorem LmAt.mono {params : Arguments} {body : Expr} {scope : Scope} {dV : Value} {H1 : Hp} {f c' : Addr} (la : LmAt X params body scope dV H f c') (e : ∀ b o u, H b = some (.frz o u) → H1 b = some (.frz o u)) (co : H1 c' = some (CodeO c' (lmQ X))) : LmAt X params body scope dV H1 f c' := by
  obtain ⟨⟨pm, ctv, hf⟩, _⟩ := la
  exact ⟨⟨pm, ctv, e _ _ _ hf⟩, co⟩
theorem DfAt.mono {dk : Option Int} {dV : Value} {H1 : Hp} (da : DfAt dk dV H) (e : ∀ b xs, H b = some (.tup xs) → H1 b = some (.tup xs)) : DfAt dk dV H1 := by
  cases dk with
  | none => exact da
  | some z =>
    obtain ⟨t, h1, h2⟩ := da
    exact ⟨t, h1, e _ _ h2⟩
/-- a(), in the def that got the lambda -/
theorem pe_actV {CXg : CXT} {Eg : XK} {Ng : List Str} {qg : Str} {sg : Scope} {g f c' : Addr} {cdg dV : Value} {params : Arguments} {body : Expr} {scope : Scope} {dk : Option Int} {k i : Nat} {a : Str} {pn : List (Addr × Obj)} {xe : Value → Shared → Prop} {W : WX} {E : XK} {tb : TE} {p1 p2 : Pos}
    (I : Inv X pins σ H s) (L : LmS X.N X.env.scope scope) (Bd : LmB params body scope dk) (la : LmAt X params body scope dV H f c') (da : DfAt dk dV H)
    (tk : Takes ((cxOf CXg X.prog X.w X.K X.mg X.base Ng qg sg g cdg X.A X.stack s H Eg).tr pn xe) W) (hW : ∀ cls d σ' H', E cls d H' → W cls d σ' H') (hr : Room (k + 1) (X.A.deeper (envOfC qg sg s.heap.objs.size g cdg)))
    (hbody : ∀ (A : Around) (outer : List Env) (s : Shared) (H : Hp), Room k (A.deeper (lamEnv X scope s.heap.objs.size f c')) → PE (lamCx X A outer s H E scope f c') body tb)
    (hN : Ng[i]? = some a) (hv : Vis sg a) (hd : (a == ("__debug__" : Str)) = false := by decide) (hcd : (a == ("__classdict__" : Str)) = false := by decide) :
    PE ((cxOf CXg X.prog X.w X.K X.mg X.base Ng qg sg g cdg X.A X.stack s H Eg).tr pn xe) (.Call (.Name a p1) [] [] p2)
      (fun σZ HZ Qv => σZ[i]? = some (some (.ref f)) ∧ HZ c' = some (CodeO c' (lmQ X)) ∧ tb σ HZ Qv) := by
  refine ⟨fun pinsZ sZ σZ HZ Qv IZ h => ?_⟩
  obtain ⟨hs, hc, ht⟩ := h
  refine wpAny_Call_Name_kw (thn ((pe_var (pos := p1) (i := i) hN hv hd hcd).run pinsZ sZ σZ HZ (fun v H1 => v = .ref f ∧ H1 = HZ) IZ ⟨.ref f, hs, rfl, rfl⟩) fun u s1 ⟨v, H1, I1, r1, ev, eH⟩ => ?_)
  subst ev
  rw [eH] at I1
  obtain rfl : u = Value.ref f := r1
  have la1 : LmAt X params body scope dV HZ f c' := la.mono I1.base.frzs hc
  have da1 : DfAt dk dV HZ := da.mono I1.base.tups
  obtain ⟨pm, ctv, hf1⟩ := id la1.fn
  obtain ⟨of1, _⟩ := I1.hok f _ hf1
  refine PySem.W.callWith_F0 ⟨_, _, _, _, of1⟩ ?_
  have rc := lm_call (k := k) (E := E) (Qv := Qv) (tb := tb) I L Bd la1 da1 I1.env0 I1.base hr (fun hr2 => hbody _ _ s1 HZ hr2) ht
  have hx : Passes (L2.CX X.prog X.w) ((cxOf CXg X.prog X.w X.K X.mg X.base Ng qg sg g cdg X.A X.stack s H Eg).tr pn xe) E := passes_call tk hW
  refine wpAny_call (codeAny_mono rc fun r s' hq => ?_)
  cases r with
  | error e => exact hx pinsZ σZ HZ s1 e s' I1 hq
  | ok fl =>
    cases fl with
    | ret u => exact I1.after hq
    | next => exact False.elim hq
    | brk => exact False.elim hq
    | cont => exact False.elim hq
/-- told, handed a lambda that is there: the call itself -/
theorem told_call {TT : (XK → Hp → VK → Prop) → Hp → VK → Prop} {x a : Str} {g : Addr} {k : Nat} {pg : Arguments} {bg : List Stmt} {sg : Scope} {dG kV doc pm cdv ct oc : Value} {an od : Option Addr} {osl : Array (Option Value)} {Ng : List Str}
    {params : Arguments} {body : Expr} {scope : Scope} {dk : Option Int} {dV : Value} {f c' : Addr} {t : XK → TE} {Qv : VK} (I : Inv X pins σ H s)
    (lk : X.K.lookup g = some ⟨oc, od, .func (PySem.W.fnOf x x pg bg sg dG kV doc pm an cdv ct), osl⟩) (hcg : PySem.W.codeIn X.K cdv x = true) (hb : L2.Binds X.K (PySem.W.fnOf x x pg bg sg dG kV doc pm an cdv ct) [a] []) (Sg : FnScope Ng [a] sg) (hNg : Ng[0]? = some a) (hva : Vis sg a)
    (hG : GivesTo X Ng x sg g cdv bg a (lmQ X) TT) (hr : Room (k + 2) X.A) (L : LmS X.N X.env.scope scope) (Bd : LmB params body scope dk) (la : LmAt X params body scope dV H f c') (da : DfAt dk dV H)
    (hbody : ∀ (A : Around) (outer : List Env) (s : Shared) (H : Hp) (E : XK), Room k (A.deeper (lamEnv X scope s.heap.objs.size f c')) → PE (lamCx X A outer s H E scope f c') body (t E)) (q : TT (fun E H' Q' => t E σ H' Q') H Qv)
    (hd : (a == ("__debug__" : Str)) = false := by decide) (hcd : (a == ("__classdict__" : Str)) = false := by decide) :
    codeAny (model X.prog X.w) X.A (.call (.ref g) ⟨[.ref f], []⟩) (CR C8.CX0 X.stack X.prog X.w H s Qv C8.E0) s := by
  refine run_ofS (N := Ng) (ps := [a]) (us := [.ref f]) (vs := [.ref f]) lk hcg Sg hr I.env0 (hb s [.ref f] I.kIn rfl) (.cons rfl .nil) rfl fun hr' => ?_
  obtain ⟨t', ht', hq'⟩ := hG f c' s H Qv (fun E H' Q' => t E σ H' Q') (fun W pn xe E p1 p2 tk hW => pe_actV (i := 0) I L Bd la da tk hW hr' (fun A outer s H hr2 => hbody A outer s H E hr2) hNg hva hd hcd) la.co q
  exact ⟨t', ht'.nox, hq'⟩
end

end Q
namespace Q
open PySem PySem.Spec PyProof.Rows L2
open Evl (Ex)

open PySem PySem.Spec PyProof.Rows L2 GenW LamX
open Evl (Ex)
def tLamV (X : Cx) (T : List (Addr × Str)) (params : Arguments) (body : Expr) (scope : Scope) (dk : Option Int) : TE := fun σ H Qv => Tabs T H ∧ ∀ (f c' : Addr) (dV : Value) (H1 : Hp), ExtN H H1 → Tabs T H1 → H f = none → f ≠ c' → LmAt X params body scope dV H1 f c' → DfAt dk dV H1 → (∀ t, dV = .ref t → H t = none ∧ t ≠ f ∧ t ≠ c') → Qv (.ref f) H1
theorem pe_lamV {X : Cx} {T : List (Addr × Str)} {c P : Addr} {params : Arguments} {body : Expr} {scope : Scope} {pos : Pos} {dk : Option Int} {j : Nat} {p2 : Pos} (TB : TabB X.base X.mg c P) (hcode : X.env.code = .ref c)
    (hm : (P, lmQ X) ∈ T) (hu : ∀ p ∈ T, p.1 = P → p.2 = lmQ X) (L : LmS X.N X.env.scope scope) (hd : defaultsOf params X.env = (dfE dk j p2 X.env, [])) (hkw : params.kwonlyargs = []) :
    PE X (.Lambda params body scope pos) (tLamV X T params body scope dk) :=
  ⟨fun pins s σ H Qv I ⟨hT, h⟩ => lm_make I TB hcode hm hu hT (L.has I.ok) hd hkw fun f c' dV H1 s' I1 eN T1 nf nfc la da fr => ⟨.ref f, H1, I1, rfl, h f c' dV H1 eN T1 nf nfc la da fr⟩⟩
/-- a lambda's value, by what stands in a heap of data -/
def LamR (X : Cx) (params : Arguments) (body : Expr) (scope : Scope) (dk : Option Int) : Hp → V → Prop := fun G v => ∃ f c' dV, v = .ref f ∧ LmAt X params body scope dV G f c' ∧ DfAt dk dV G
theorem LamR.up {X : Cx} {params : Arguments} {body : Expr} {scope : Scope} {dk : Option Int} {G G1 : Hp} {v : V} (e : Ex G G1) (h : LamR X params body scope dk G v) : LamR X params body scope dk G1 v := by
  obtain ⟨f, c', dV, h1, la, da⟩ := h
  exact ⟨f, c', dV, h1, la.mono (fun b o u z => e _ _ z) (e _ _ la.co), da.mono fun b xs z => e _ _ z⟩
theorem noext {K : PySem.W.Frag} {C : Addr} {G : Hp} {o : HO} {u : OD} (r : ORep K C G o u) (φ : Heap → Prop) : o ≠ .ext φ := by
  cases u with
  | l ds => obtain ⟨xs, rfl, _⟩ := r; exact fun z => nomatch z
  | ins Cl dx fs => obtain ⟨gs, rfl, _⟩ := r; exact fun z => nomatch z
  | d n f => obtain ⟨kvs, rfl, _⟩ := r; exact fun z => nomatch z
  | lx xs ds => obtain ⟨rfl, _⟩ := r; exact fun z => nomatch z
  | dk n f => obtain ⟨kvs, rfl, _⟩ := r; exact fun z => nomatch z
  | dz od kvs =>
    have r : o = .frz od (.dK kvs) := r
    rw [r]; exact fun z => nomatch z
section
variable {U : Ct} {env : Ev0} {W : Ow} {Ψ : D → Ow → Prop}
/-- lambda: body -/
theorem ev_lam {c P : Addr} {params : Arguments} {body : Expr} {scope : Scope} {pos : Pos} (dk : Option Int) {j : Nat} {p2 : Pos} (TB : TabB U.X.base U.X.mg c P) (hcode : U.X.env.code = .ref c) (hmT : (P, lmQ U.X) ∈ U.T) (hu : ∀ p ∈ U.T, p.1 = P → p.2 = lmQ U.X)
    (L : LmS U.X.N U.X.env.scope scope) (h : Ψ (.sem (LamR U.X params body scope dk)) W) (hd : defaultsOf params U.X.env = (dfE dk j p2 U.X.env, []) := by rfl) (hkw : params.kwonlyargs = [] := by rfl) :
    Ev U (.Lambda params body scope pos) env W Ψ :=
  .here (pe_lamV TB hcode hmT hu L hd hkw) fun σ G H eg hs sl Qv q => ⟨hs.t, fun f c' dV H1 eN T1 nf nfc la da fr => by
    classical
    have keep : ∀ b o, G b = some o → H1 b = some o := fun b o e => eN b o (hs.g b o e) fun ps z => hs.nt b ps (by rw [e, z])
    let G2 : Hp := fun b => if b = f ∨ b = c' ∨ dV = .ref b then H1 b else G b
    have gH : Ex G2 H1 := fun b o e => by
      by_cases z : b = f ∨ b = c' ∨ dV = .ref b
      · have e : (if b = f ∨ b = c' ∨ dV = .ref b then H1 b else G b) = some o := e
        rw [if_pos z] at e
        exact e
      · have e : (if b = f ∨ b = c' ∨ dV = .ref b then H1 b else G b) = some o := e
        rw [if_neg z] at e
        exact keep b o e
    have gG : Ex G G2 := fun b o e => by
      show (if b = f ∨ b = c' ∨ dV = .ref b then H1 b else G b) = some o
      split
      · exact keep b o e
      · exact e
    have at_ : ∀ b, (b = f ∨ b = c' ∨ dV = .ref b) → G2 b = H1 b := fun b z => if_pos z
    have hs2 : Hs U.X.K U.C U.T G2 W H1 := by
      refine ⟨gH, fun p hp => ?_, fun p hp => ?_, hs.n, T1, fun b ps e => ?_⟩
      · obtain ⟨o, ho, r⟩ := hs.w p hp
        have pl := r.plain
        exact ⟨o, eN _ _ ho fun ps z => by rw [z] at pl; exact pl, r.mono gG⟩
      · obtain ⟨o, ho, r⟩ := hs.w p hp
        have pl := r.plain
        have ho1 := eN _ _ ho fun ps z => by rw [z] at pl; exact pl
        show (if p.1 = f ∨ p.1 = c' ∨ dV = .ref p.1 then H1 p.1 else G p.1) = none
        rw [if_neg]
        · exact hs.d p hp
        · rintro (z | z | z)
          · rw [z, nf] at ho; cases ho
          · rw [z, la.co] at ho1
            exact noext r _ (Option.some.inj ho1).symm
          · rw [(fr _ z).1] at ho; cases ho
      · have e1 := gH b _ e
        by_cases z : b = f ∨ b = c' ∨ dV = .ref b
        · rcases z with z | z | z
          · obtain ⟨pm, ctv, hf⟩ := la.fn
            rw [z, hf] at e1; cases e1
          · rw [z, la.co] at e1
            exact codeO_ne ps (Option.some.inj e1)
          · cases dk with
            | none => rw [show dV = .none from da] at z; cases z
            | some zz =>
              obtain ⟨t, e2, hT⟩ := da
              rw [e2] at z
              cases z
              rw [hT] at e1; cases e1
        · have e : (if b = f ∨ b = c' ∨ dV = .ref b then H1 b else G b) = some (.tbl ps) := e
          rw [if_neg z] at e
          exact hs.nt b ps e
    refine q (.ref f) G2 H1 (.sem (LamR U.X params body scope dk)) W gG hs2 ⟨⟨f, rfl⟩, G2, Ex.refl _, f, c', dV, rfl, ⟨?_, ?_⟩, ?_⟩ h
    · obtain ⟨pm, ctv, hf⟩ := la.fn
      exact ⟨pm, ctv, (at_ f (.inl rfl)).trans hf⟩
    · exact (at_ c' (.inr (.inl rfl))).trans la.co
    · cases dk with
      | none => exact da
      | some zz =>
        obtain ⟨t, e2, hT⟩ := da
        exact ⟨t, e2, (at_ t (.inr (.inr e2))).trans hT⟩⟩
end

end Q
namespace Q
open PySem PySem.Spec PyProof.Rows L2
open Evl (Ex)

open PySem PySem.Spec PyProof.Rows L2 GenW LamX
open Evl (Ex)
/-! ### [e for x in ..], where e may lean on the def's own frame -/
theorem pe_lcV {X : Cx} {elt tg iter : Expr} {scope : Scope} {own : List (Str × Nat)} {pos : Pos} {wi : TI} {g : TG} {te : L2.St → TE} (hc : X.calm = true) (hN : X.N.Nodup) (hi : PI X tg iter wi) (bok : BlkOk X.N X.env.scope scope own)
    (hg : ∀ (s : Shared) (H : Hp) (C : Addr) (cl : List (Str × Addr)) (fp : List Addr), PG (X.blk s H scope (compEnvC scope cl C X.env) fp) tg g)
    (he : ∀ (pins : List (Addr × Obj)) (σ : L2.St) (s : Shared) (H : Hp) (C : Addr) (cl : List (Str × Addr)) (fp : List Addr), Inv X pins σ H s → (∀ b ∈ fp, FpOk X pins H b) → PE (X.blk s H scope (compEnvC scope cl C X.env) fp) elt (te σ))
    (hs : ∀ x, foldedSetIterable iter X.env x = pure x := by intro _; rfl) : PE X (.ListComp elt [⟨tg, iter, [], 0⟩] scope pos) fun σ H Qv => tLc wi g tYes (te σ) (own.map (·.2)) σ H Qv := by
  refine ⟨fun pins s σ H Qv I h => ?_⟩
  rw [eval_ListComp]
  have hfree : ∀ y ∈ scope.names, y.2 = .free → ∃ c, X.env.cells.lookup y.1 = some c := fun y hy e => (bok.free y hy e).elim (fun z => I.ok.has _ (.inl z)) fun z => I.ok.has _ (.inr z)
  refine wpAny_comprehension_free (use := none) (Q := EP X pins σ Qv) rfl hs (closure_ok hfree) bok.kind (fun y hy e => by rw [bok.uniq y hy, e]) (thn (hi.run pins s σ H _ I h) fun xv s1 hx => thn hx fun itv s2 h2 => ?_)
  obtain ⟨it, fp, tn, Jt, H2, rfl, I2, Tn, st2, f2, rest⟩ := h2
  refine wpAny_newObj_type (newEnv_comp ?_) (by show 0 ≤ sizeLine; decide)
  generalize hDe : s2.heap.objs.size = D
  have hD0 : H2 D = none := I2.hok.fresh (Nat.le_of_eq hDe)
  obtain ⟨Wv, ⟨m0, w0⟩, turn⟩ := rest D hD0
  generalize es3 : ({ s2 with heap := s2.heap.push { cls := .type "list", data := .seq ([] : List Value).toArray } } : Shared) = s3
  have e3 : s3.heap = s2.heap.push { cls := .type "list", data := .seq ([] : List Value).toArray } := by rw [← es3]
  have I3 : Inv X pins σ (upd H2 D (.lst [])) s3 := by
    rw [← es3]
    refine I2.laid (t' := s2.toks) (fun b o z => Heap.get?_push_of_some _ z) (Nat.le_of_eq hDe) ⟨Nat.zero_le _, [], 0, .nil, by rw [← hDe]; exact Heap.get?_push_size _ rfl⟩
  have lt2 : ∀ b ∈ fp, b < s2.heap.objs.size := fun b hb => by
    obtain ⟨o, z, _⟩ := Tn.obj _ _ st2 b hb
    exact Heap.lt_size z
  have f3 : ∀ b ∈ fp, FpOk X pins (upd H2 D (.lst [])) b := fun b hb => ⟨by rw [upd_ne (by rw [← hDe]; exact Nat.ne_of_lt (lt2 b hb))]; exact (f2 b hb).1, (f2 b hb).2⟩
  have st3 : tn 0 s3.heap := Tn.keep _ _ _ st2 fun b _ o z => by rw [e3]; exact Heap.get?_push_of_some _ z
  have I4 := block_start I3 bok hN fun b hb => ⟨f3 b hb, by rw [e3, Heap.size_push]; exact Nat.lt_succ_of_lt (lt2 b hb)⟩
  have pg := hg s3 (upd H2 D (.lst [])) s3.heap.objs.size (cellsFrom (s3.heap.objs.size + 1) scope.names (cloFrom X.env.cells scope.names [])) fp
  have pe := he pins σ s3 (upd H2 D (.lst [])) s3.heap.objs.size (cellsFrom (s3.heap.objs.size + 1) scope.names (cloFrom X.env.cells scope.names [])) fp I3 f3
  have goal : codeAny (model X.prog X.w) X.A (.compStart (.ListComp elt [⟨tg, iter, [], 0⟩] scope pos) 0 (.ref it) (.ref D) (compEnvC scope (cellsFrom (s3.heap.objs.size + 1) scope.names (cloFrom X.env.cells scope.names [])) s3.heap.objs.size X.env))
      (compPost (model X.prog X.w) X.A X.xe none (EP X pins σ Qv) (.ref D) s3.heap.objs.size) { s3 with heap := pushCells (s3.heap.push { cls := .type "dict", data := .dict #[] }) scope.names } := by
    generalize hce : compEnvC scope (cellsFrom (s3.heap.objs.size + 1) scope.names (cloFrom X.env.cells scope.names [])) s3.heap.objs.size X.env = ce at I4 pg pe ⊢
    have cL : ce.locals = s3.heap.objs.size := by subst hce; rfl
    generalize eH3 : upd H2 D (.lst []) = H3 at I3 I4 pg pe w0 f3
    generalize es4 : ({ s3 with heap := pushCells (s3.heap.push { cls := .type "dict", data := .dict #[] }) scope.names } : Shared) = s4 at I4 ⊢
    have st4 : tn 0 s4.heap := Tn.keep _ _ _ st3 fun b _ o z => by rw [← es4]; exact pushCells_keeps _ _ _ _ (Heap.get?_push_of_some _ z)
    have stat : ∀ {σ' : L2.St} {H' : Hp} {s' : Shared}, Inv (X.blk s3 H3 scope ce fp) [] σ' H' s' → (∀ b ∈ fp, H' b = none) → ∀ b ∈ fp, FpOk (X.blk s3 H3 scope ce fp) [] H' b := fun {σ' H' s'} I' hn b hb =>
      ⟨hn b hb, (I'.ok.exf b hb).1, I'.ok.exfs b hb, .inl hb, (I'.ok.exf b hb).2, fun p hp => absurd (show p ∈ ([] : List (Addr × Obj)) ++ [] from hp) (by simp)⟩
    have loop : codeAny (model X.prog X.w) X.A (.compLoop (.ListComp elt [⟨tg, iter, [], 0⟩] scope pos) 0 (.ref it) (.ref D) ce) (compPost (model X.prog X.w) X.A X.xe none (EP X pins σ Qv) (.ref D) s3.heap.objs.size) s4 := by
      refine compLoop_any (fun n s' => ∃ i H', Inv (X.blk s3 H3 scope ce fp) [] (wipe σ (own.map (·.2))) H' s' ∧ tn i s'.heap ∧ (∀ b ∈ fp, H' b = none) ∧ Wv i n H') ?_ m0 ⟨0, H3, I4, st4, fun b hb => (f3 b hb).1, w0⟩
      rintro n s5 ⟨i, H5, I5, st5, n5, w5⟩
      rcases turn i n H5 w5 with ⟨stop, qq⟩ | ⟨go, Nx, hNx, step⟩
      · refine thnF (Tn.done (X.blk s3 H3 scope ce fp) rfl rfl rfl hc i [] s5 _ H5 (fun _ _ => False) I5 (stat I5 n5) st5 stop) fun r s6 ⟨hr, I6⟩ => ?_
        subst hr
        have I7 : Inv X pins σ H5 s6 := I3.call' (ch := fp) I6.os I6.base I6.hok I6.bare fun b hb => ⟨(f3 b hb).2.2.2.1, (f3 b hb).2.1, (f3 b hb).2.2.2.2.1, (f3 b hb).2.2.2.2.2⟩
        have nC : H5 s3.heap.objs.size = none := by
          have z : H5 ce.locals = none := I6.free
          rw [cL] at z
          exact z
        obtain ⟨m, hn, _⟩ := I6.loc
        have hn : s6.heap.Ns ce.locals m := hn
        rw [cL] at hn
        obtain ⟨g0, g1, g2, g3, g4, g5⟩ := I3.fpOk (Nat.le_refl _) nC
        exact ⟨m, hn, fun h'' sb => ⟨.ref D, H5, I7.turned (t' := s6.toks) (fun b o hb z => (sb.2 b hb).trans z) g0 g1 g3 g4 g5, rfl, qq⟩⟩
      · refine thnF (Tn.item (X.blk s3 H3 scope ce fp) rfl rfl rfl hc i [] s5 _ H5 (fun _ _ => False) I5 (stat I5 n5) st5 go) fun r s6 ⟨u, hr, h6⟩ => ?_
        subst hr
        refine thnF h6 fun _ s7 ⟨x, H7, I7, r7, y7, st7, n7⟩ => ?_
        have I7' := I7.pinned (stat I7 n7) (Tn.obj _ _ st7)
        refine thnF (pg.run _ s7 _ H7 x u _ I7' r7 (step x H7 y7)) fun _ s8 ⟨σ8, H8, I8, hw8, q8⟩ => ?_
        refine wpAny_tests_nil ?_
        rw [if_pos rfl]
        have q8 : te σ σ8 H8 _ := q8
        refine thnF (pe.run _ s8 σ8 H8 _ I8 q8) fun z s10 ⟨yv, H10, I10, r10, acc, hD10, hz10, nx⟩ => ?_
        refine app_ok (X := X.blk s3 H3 scope ce fp) I10 hD10 hz10 r10 fun s11 I11 => ?_
        obtain ⟨m', hm, w'⟩ := hNx _ nx
        have pin' : ∀ b ∈ fp, ∀ o, s7.heap.get? b = some o → s11.heap.get? b = some o ∧ upd H10 D (.lst (acc ++ [yv])) b = none := fun b hb o z =>
          let y := I11.pin (b, o) (List.mem_append_right _ (List.mem_append_right _ (mem_pinsAt hb z)))
          ⟨y.1, y.2.1⟩
        refine ⟨m', hm, i + 1, _, (I11.unpinned (pins := [])).weak (by rw [← hw8, wipe_length]) (fun j v z => ?_), Tn.keep _ _ _ st7 fun b hb o z => (pin' b hb o z).1, fun b hb => ?_, w'⟩
        · rw [← hw8] at z
          exact (wipe_some z).1
        · obtain ⟨o, z, _⟩ := Tn.obj _ _ st7 b hb
          exact (pin' b hb o z).2
    exact codeAny_compStart_list loop (Tn.self X.A 0 _ _ _ st4 loop)
  exact goal

end Q
namespace Q
open PySem PySem.Spec PyProof.Rows L2
open Evl (Ex)

open PySem PySem.Spec PyProof.Rows L2 GenW LamX
open Evl (Ex)
/-- a def that calls the one thing it is given -/
structure Told (X : Cx) (x a : Str) (g : Addr) (Ng : List Str) (TT : (XK → Hp → VK → Prop) → Hp → VK → Prop) : Prop where
  ex : ∃ (pg : Arguments) (bg : List Stmt) (sg : Scope) (dG kV doc pm cdv ct oc : Value) (an od : Option Addr) (osl : Array (Option Value)), X.K.lookup g = some ⟨oc, od, .func (PySem.W.fnOf x x pg bg sg dG kV doc pm an cdv ct), osl⟩ ∧ PySem.W.codeIn X.K cdv x = true ∧
    L2.Binds X.K (PySem.W.fnOf x x pg bg sg dG kV doc pm an cdv ct) [a] [] ∧ FnScope Ng [a] sg ∧ Ng[0]? = some a ∧ Vis sg a ∧ GivesTo X Ng x sg g cdv bg a (lmQ X) TT
  m : X.mg x = some (.ref g)
  k : PySem.W.keepIn X.K (.ref g) = true
  d : (a == ("__debug__" : Str)) = false ∧ (a == ("__classdict__" : Str)) = false
/-- the reading of the body, wherever the call stands -/
def rdB (X : Cx) (k : Nat) (scope : Scope) (body : Expr) (f c' : Addr) (σ : L2.St) : XK → Hp → VK → Prop := fun E H' Q' => ∀ (A : Around) (outer : List Env) (s : Shared) (Hb : Hp), Room k (A.deeper (lamEnv X scope s.heap.objs.size f c')) → SemE (lamCx X A outer s Hb E scope f c') body σ H' Q'
/-- the lambda at f in H, handed to told -/
def tGive (X : Cx) (k : Nat) (TT : (XK → Hp → VK → Prop) → Hp → VK → Prop) (σ : L2.St) (v : V) (H : Hp) (Qv : VK) : Prop := ∃ (f c' : Addr) (dV : Value) (params : Arguments) (body : Expr) (scope : Scope) (dk : Option Int), v = .ref f ∧ LmAt X params body scope dV H f c' ∧ DfAt dk dV H ∧ LmS X.N X.env.scope scope ∧ LmB params body scope dk ∧ TT (rdB X k scope body f c' σ) H Qv
section
variable {X : Cx} {x a : Str} {g : Addr} {Ng : List Str} {TT : (XK → Hp → VK → Prop) → Hp → VK → Prop} {k : Nat}
theorem Told.call {pins : List (Addr × Obj)} {σ : L2.St} {H : Hp} {s : Shared} {v : V} {u : Value} {Qv : VK} (To : Told X x a g Ng TT) (I : Inv X pins σ H s) (hr : Room (k + 2) X.A) (rv : RelV v u) (h : tGive X k TT σ v H Qv) :
    codeAny (model X.prog X.w) X.A (.call (.ref g) ⟨[u], []⟩) (CR C8.CX0 X.stack X.prog X.w H s Qv C8.E0) s := by
  obtain ⟨f, c', dV, params, body, scope, dk, rfl, la, da, L, Bd, q⟩ := h
  obtain rfl : u = Value.ref f := rv
  obtain ⟨pg, bg, sg, dG, kV, doc, pm, cdv, ct, oc, an, od, osl, lk, hcg, hb, Sg, hNg, hva, hG⟩ := To.ex
  exact told_call (t := fun E σ' H' Q' => rdB X k scope body f c' σ' E H' Q') I lk hcg hb Sg hNg hva hG hr L Bd la da (fun A outer s Hb E hr2 => ⟨fun pins s' σ' H' Q' J h => h A outer s Hb hr2 pins s' J⟩) q To.d.1 To.d.2
/-- told(e), in the def -/
theorem pe_toldV {e : Expr} {te : TA} {p pos : Pos} (To : Told X x a g Ng TT) (hg : Gl X x) (hr : Room (k + 2) X.A) (he : PA X [e] te) (hdb : (x == ("__debug__" : Str)) = false := by decide) (hst : starEach [e] X.env = (false, eval e X.env) :: starEach [] X.env := by rfl) :
    PE X (.Call (.Name x p) [e] [] pos) (fun σ H Qv => te σ H fun vs H1 => ∃ v, vs = [v] ∧ tGive X k TT σ v H1 Qv) := by
  refine ⟨fun pins s σ H Qv I h => ?_⟩
  refine wpAny_Call_Name_kw (ld_glob I hg To.m (PySem.W.callWith_K (h₀ := X.base) I.ok.mod.kin To.k (thn (he.run pos pins s σ H _ I h) fun us s1 ⟨vs, H1, I1, rv, v, ev, q⟩ => ⟨I1.kIn, ?_⟩) hst (by rfl)) hdb)
  subst ev
  obtain ⟨u, rfl, ru⟩ := vals1 rv
  refine wpAny_call (codeAny_mono (To.call I1 hr ru q) fun r s2 hq => ?_)
  cases r with
  | error e => exact (show False from hq).elim
  | ok fl =>
    cases fl with
    | ret u => exact I1.after hq
    | next => exact False.elim hq
    | brk => exact False.elim hq
    | cont => exact False.elim hq
/-- told(c), in a block of the def -/
theorem pe_toldB {pins : List (Addr × Obj)} {σ : L2.St} {s : Shared} {H : Hp} {scope : Scope} {ce : Env} {fp : List Addr} {i : Nat} {y : Str} {p p2 pos : Pos} (To : Told X x a g Ng TT) (I : Inv X pins σ H s) (hfp : ∀ b ∈ fp, FpOk X pins H b) (hr : Room (k + 2) X.A)
    (hg : Gl (X.blk s H scope ce fp) x) (hy : X.N[i]? = some y) (hv : Vis ce.scope y) (hdb : (x == ("__debug__" : Str)) = false := by decide) (hd : (y == ("__debug__" : Str)) = false := by decide) (hcd : (y == ("__classdict__" : Str)) = false := by decide)
    (hst : starEach [Expr.Name y p2] ce = (false, eval (.Name y p2) ce) :: starEach [] ce := by rfl) :
    PE (X.blk s H scope ce fp) (.Call (.Name x p) [.Name y p2] [] pos) (fun σ2 H2 Qv => ∃ v, σ2[i]? = some (some v) ∧ tGive X k TT σ v H2 Qv) := by
  refine ⟨fun pinsB s5 σB HB Qv IB h => ?_⟩
  obtain ⟨v, hσ, q⟩ := h
  refine wpAny_Call_Name_kw (ld_glob IB hg To.m (PySem.W.callWith_K (h₀ := X.base) I.ok.mod.kin To.k (thn ((pa_cons (pe_var (X := X.blk s H scope ce fp) (pos := p2) hy hv hd hcd) pa_nil hst).run pos pinsB s5 σB HB (fun vs H1 => vs = [v] ∧ H1 = HB) IB ⟨v, hσ, rfl, rfl⟩) fun us s6 ⟨vs, H1, I6, rv, ev, eH⟩ => ⟨I6.kIn, ?_⟩) hst (by rfl)) hdb)
  subst ev
  subst eH
  obtain ⟨u, rfl, ru⟩ := vals1 rv
  have J : Inv X pins σ H1 s6 := I.call' (ch := fp) I6.os I6.base I6.hok I6.bare fun b hb => ⟨(hfp b hb).2.2.2.1, (hfp b hb).2.1, (hfp b hb).2.2.2.2.1, (hfp b hb).2.2.2.2.2⟩
  refine wpAny_call (codeAny_mono (To.call J hr ru q) fun r s2 hq => ?_)
  cases r with
  | error e => exact (show False from hq).elim
  | ok fl =>
    cases fl with
    | ret u => exact I6.after hq
    | next => exact False.elim hq
    | brk => exact False.elim hq
    | cont => exact False.elim hq
end

end Q
namespace Q
open PySem PySem.Spec PyProof.Rows L2
open Evl (Ex)

open PySem PySem.Spec PyProof.Rows L2 GenW LamX
open Evl (Ex)
/-! ### a tuple of two, a list, of any data -/
def PairR (K : PySem.W.Frag) (C : Addr) (d1 d2 : D) : Hp → V → Prop := fun G v => ∃ (a : Addr) (v1 v2 : V), v = .ref a ∧ G a = some (.tup [v1, v2]) ∧ Rep K C G v1 d1 ∧ Rep K C G v2 d2
def LstR (K : PySem.W.Frag) (C : Addr) (ds : List D) : Hp → V → Prop := fun G v => ∃ (a : Addr) (xs : List V), v = .ref a ∧ G a = some (.lst xs) ∧ RepAll K C G xs ds
section
variable {U : Ct} {env : Ev0} {W : Ow} {Ψ : D → Ow → Prop} {e : Expr} {pos : Pos} {es : List Expr}
theorem ev_tup2 {x1} (h : EvA U es env W fun ds W1 => ∃ d1 d2, ds = [d1, d2] ∧ Ψ (.sem (PairR U.X.K U.C d1 d2)) W1) : Ev U (.Tuple es x1 pos) env W Ψ :=
  .here (pe_tup pa_sem) fun σ G H eg hs sl Q q => h σ G H eg hs sl _ fun vs G1 H1 ds W1 e1 h1 ra z1 => by
    obtain ⟨d1, d2, rfl, k⟩ := z1
    obtain ⟨v1, v2, rfl, r1, r2⟩ : ∃ v1 v2, vs = [v1, v2] ∧ Rep U.X.K U.C G1 v1 d1 ∧ Rep U.X.K U.C G1 v2 d2 := by
      cases ra with
      | cons a r => cases r with
        | cons b r => cases r; exact ⟨_, _, rfl, a, b⟩
    refine ⟨by rw [sizeLine_eq]; show 2 ≤ 16777216; omega, fun p hp => ?_⟩
    have ex := h1.ex (o := .tup [v1, v2]) hp
    exact q _ _ _ (.sem (PairR U.X.K U.C d1 d2)) W1 (e1.trans ex) (h1.new hp) ⟨⟨p, rfl⟩, _, Ex.refl _, p, v1, v2, rfl, upd_same, r1.mono ex, r2.mono ex⟩ k
theorem eg_pair (ok : U.Ok) {js : List Nat} {d : D} {Ψ : Ev0 → Ow → Prop} {k1} (h : ∃ d1 d2, d = .sem (PairR U.X.K U.C d1 d2) ∧ es.length = 2 ∧ EvGs U js es [d1, d2] env W Ψ)
    (hn : (assignEach es U.X.env).length = es.length := by rfl) (hst : (assignEach es U.X.env).findIdx? (·.1) = none := by rfl) : EvG U js (.Tuple es k1 pos) d env W Ψ := by
  intro σ G H v eg hs sl r Q q
  obtain ⟨d1, d2, rfl, hl, h⟩ := h
  obtain ⟨_, G0, e0, a, v1, v2, rfl, ha, r1, r2⟩ := r
  refine SemG.of (pg_tup ok.calm pgs_sem hn hst) ⟨_, _, rfl, SqT.of (hs.g _ _ (e0 _ _ ha)), by rw [hl] <;> rfl, h σ G H _ eg hs sl ?_ Q q⟩
  exact .cons (r1.mono e0) (.cons (r2.mono e0) .nil)
/-- a written list of any data: from now on it only grows as a whole -/
theorem ev_lstS (h : EvA U es env W fun ds W1 => ds.length ≤ 1000 ∧ Ψ (.sem (LstR U.X.K U.C ds)) W1) : Ev U (.List es pos) env W Ψ :=
  .here (pe_lst pa_sem) fun σ G H eg hs sl Q q => h σ G H eg hs sl _ fun vs G1 H1 ds W1 e1 h1 r1 z1 => by
    refine ⟨by rw [r1.len]; exact Nat.le_of_lt (small1000 z1.1), fun p hp => ?_⟩
    have ex := h1.ex (o := .lst vs) hp
    exact q _ _ _ (.sem (LstR U.X.K U.C ds)) W1 (e1.trans ex) (h1.new hp) ⟨⟨p, rfl⟩, _, Ex.refl _, p, vs, rfl, upd_same, r1.mono ex⟩ z1.2
theorem ei_lstS {tg : Expr} {Ψ : Nat → (Nat → D) → Ow → Prop} (h : Ev U e env W fun d W1 => ∃ ds, d = .sem (LstR U.X.K U.C ds) ∧ Ψ ds.length (fun i => ds.getD i (.p .none)) W1) : EvI U tg e env W Ψ :=
  fun σ G H eg hs sl R q => SemI.of (pi_list pe_sem) (h σ G H eg hs sl _ fun x G1 H1 d1 W1 e1 h1 r1 z1 => by
    obtain ⟨ds, rfl, k⟩ := z1
    obtain ⟨_, G0, e0, a, xs, rfl, hl, ra⟩ := r1
    have hl1 := e0 _ _ hl
    have ra1 := ra.mono e0
    refine ⟨a, rfl, ⟨xs, SqL.of (h1.g _ _ hl1)⟩, q _ _ (fun i => ds.getD i (.p .none)) G1 H1 W1 _ _ walk_list e1 h1 (fun G3 H3 W3 e3 h3 => SqL.of (h3.g _ _ (e3 _ _ hl1))) (fun i H3 y H4 G3 W3 hi e3 h3 y4 => ?_) (by rw [ra.len]; exact k)⟩
    obtain ⟨rfl, hy⟩ := y4
    exact ⟨G3, Ex.refl _, h3, (ra1.mono e3).nth hy⟩)
end

end Q
namespace Q
open PySem PySem.Spec PyProof.Rows L2
open Evl (Ex)

open PySem PySem.Spec PyProof.Rows L2 GenW LamX
open Evl (Ex)
/-! ### what is owned is lent: for the time of an expression it is data -/
def AtomD : PyData → Prop
  | .none | .bool _ | .int _ | .str _ => True
  | _ => False
theorem Rp.atom {G G' : Hp} {v : V} : ∀ {d : PyData}, AtomD d → Rp G v d → Rp G' v d
  | .none, _, h => by cases h; exact .non
  | .bool b, _, h => by cases h; exact .bl b
  | .int i, _, h => by cases h; exact .int i
  | .str x, _, h => by cases h; exact .str x
  | .list _, h, _ => h.elim
  | .tuple _, h, _ => h.elim
  | .dict _, h, _ => h.elim
theorem RpAll.ofInts {G : Hp} : ∀ ns : List Int, RpAll G (ns.map V.int) (ns.map .int)
  | [] => .nil
  | n :: ns => .cons (.int n) (RpAll.ofInts ns)
inductive Lent (W : Ow) : Ev0 → Ev0 → Prop
  | nil : Lent W [] []
  | same {x : Option D} {e e' : Ev0} : Lent W e e' → Lent W (x :: e) (x :: e')
  | lent {p : Addr} {pds : List PyData} {e e' : Ev0} : (p, OD.l (pds.map .p)) ∈ W → Lent W e e' → Lent W (some (.adr p) :: e) (some (.p (.list pds)) :: e')
theorem Lent.len {W : Ow} {e e' : Ev0} (h : Lent W e e') : e.length = e'.length := by
  induction h with
  | nil => rfl
  | same _ ih => rw [List.length_cons, List.length_cons, ih]
  | lent _ _ ih => rw [List.length_cons, List.length_cons, ih]
theorem Lent.at_ {W : Ow} {e e' : Ev0} (h : Lent W e e') : ∀ (i : Nat) (d' : D), e'[i]? = some (some d') → e[i]? = some (some d') ∨ ∃ p pds, e[i]? = some (some (.adr p)) ∧ d' = .p (.list pds) ∧ (p, OD.l (pds.map .p)) ∈ W := by
  induction h with
  | nil => intro i d' z; simp at z
  | same _ ih =>
    intro i d' z
    cases i with
    | zero => exact .inl z
    | succ i => exact ih i d' z
  | @lent p pds e e' hm _ ih =>
    intro i d' z
    cases i with
    | zero =>
      have z : some (some (D.p (.list pds))) = some (some d') := z
      cases z
      exact .inr ⟨p, pds, rfl, rfl, hm⟩
    | succ i => exact ih i d' z
section
variable {U : Ct} {env : Ev0} {W : Ow} {Ψ : D → Ow → Prop} {Φ : Ke} {e a b c : Expr} {pos p0 p1 p2 : Pos} {es : List Expr}
theorem ev_lend {env' : Ev0} (le : Lent W env env') (h : Ev U e env' [] fun d W2 => (∃ x, AtomD x ∧ d = .p x ∧ W2 = [] ∧ Ψ d W) ∨ ∃ (q : Addr) (ns : List Int), d = .adr q ∧ W2 = [(q, .l ((ns.map PyData.int).map .p))] ∧ Ψ d ((q, .l ((ns.map PyData.int).map .p)) :: W)) : Ev U e env W Ψ := by
  intro σ G H eg hs sl Q q
  classical
  let G1 : Hp := fun b => if b ∈ W.map (·.1) then H b else G b
  have gG : Ex G G1 := fun b o e => by
    show (if b ∈ W.map (·.1) then H b else G b) = some o
    split
    · exact hs.g b o e
    · exact e
  have gH : Ex G1 H := fun b o e => by
    have e : (if b ∈ W.map (·.1) then H b else G b) = some o := e
    split at e
    · exact e
    · exact hs.g b o e
  have at1 : ∀ p ∈ W, G1 p.1 = H p.1 := fun p hp => if_pos (List.mem_map.mpr ⟨p, hp, rfl⟩)
  have hs1 : Hs U.X.K U.C U.T G1 [] H := ⟨gH, (fun _ z => nomatch z), (fun _ z => nomatch z), List.nodup_nil, hs.t, fun b ps e => by
    have e : (if b ∈ W.map (·.1) then H b else G b) = some (.tbl ps) := e
    split at e
    · rename_i hb
      obtain ⟨p, hp, rfl⟩ := List.mem_map.mp hb
      obtain ⟨o, ho, r⟩ := hs.w p hp
      have pl := r.plain
      rw [e] at ho
      cases ho
      exact pl
    · exact hs.nt b ps e⟩
  have sl1 : Slots U.X.K U.C G1 σ env' := ⟨by rw [sl.1, le.len], fun i d hd => by
    rcases le.at_ i d hd with z | ⟨p, pds, z, rfl, hm⟩
    · obtain ⟨v, a, b⟩ := sl.2 i d z
      exact ⟨v, a, b.mono gG⟩
    · obtain ⟨v, a, b⟩ := sl.2 i _ z
      obtain rfl : v = .ref p := b
      obtain ⟨o, ho, xs, rfl, ra⟩ := hs.w _ hm
      exact ⟨.ref p, a, Rp.lst ((at1 _ hm).trans ho) (RpAll.mono gG _ _ (RepAll.data ra))⟩⟩
  refine h σ G1 H (eg.trans gG) hs1 sl1 Q fun v G2 H2 d W2 e2 h2 r2 z => ?_
  let G3 : Hp := fun b => if b ∈ W.map (·.1) then none else G2 b
  have g32 : Ex G3 G2 := fun b o e => by
    have e : (if b ∈ W.map (·.1) then none else G2 b) = some o := e
    split at e
    · cases e
    · exact e
  have g3 : Ex G G3 := fun b o e => by
    show (if b ∈ W.map (·.1) then none else G2 b) = some o
    rw [if_neg]
    · exact e2 b o (gG b o e)
    · intro hb
      obtain ⟨p, hp, rfl⟩ := List.mem_map.mp hb
      rw [hs.d p hp] at e
      cases e
  have hs3 : Hs U.X.K U.C U.T G3 W H2 := ⟨g32.trans h2.g, fun p hp => by
      obtain ⟨o, ho, r⟩ := hs.w p hp
      exact ⟨o, h2.g _ _ (e2 _ _ ((at1 p hp).trans ho)), r.mono g3⟩, fun p hp => if_pos (List.mem_map.mpr ⟨p, hp, rfl⟩), hs.n, h2.t, fun b ps e => h2.nt b ps (g32 _ _ e)⟩
  rcases z with ⟨x, ha, rfl, rfl, k⟩ | ⟨q', ns, rfl, rfl, k⟩
  · exact q v G3 H2 (.p x) W g3 hs3 (Rp.atom ha r2) k
  · obtain rfl : v = .ref q' := r2
    obtain ⟨o, ho, xs, rfl, ra⟩ := Hs.at_ (W1 := []) h2
    have hd : G2 q' = none := h2.d (q', _) List.mem_cons_self
    have hx : xs = ns.map V.int := (RepAll.data ra).ints
    subst hx
    refine q (.ref q') G3 H2 (.adr q') _ g3 ⟨hs3.g, fun p hp => ?_, fun p hp => ?_, ?_, hs3.t, hs3.nt⟩ rfl k
    · rcases List.mem_cons.mp hp with rfl | hp
      · exact ⟨_, ho, _, rfl, RpAll.rep (RpAll.ofInts ns)⟩
      · exact hs3.w p hp
    · rcases List.mem_cons.mp hp with rfl | hp
      · show (if q' ∈ W.map (·.1) then none else G2 q') = none
        split
        · rfl
        · exact hd
      · exact hs3.d p hp
    · rw [List.map_cons, List.nodup_cons]
      refine ⟨fun hm => ?_, hs.n⟩
      obtain ⟨p, hp, e⟩ := List.mem_map.mp hm
      have e : p.1 = q' := e
      obtain ⟨o, ho2, _⟩ := hs.w p hp
      have := e2 _ _ ((at1 p hp).trans ho2)
      rw [e, hd] at this
      cases this
/-- an owned list becomes data -/
theorem ev_give (h : Ev U e env W fun d W1 => ∃ (p : Addr) (L R : Ow) (pds : List PyData), d = .adr p ∧ W1 = L ++ (p, .l (pds.map .p)) :: R ∧ Ψ (.p (.list pds)) (L ++ R)) : Ev U e env W Ψ :=
  fun σ G H eg hs sl Q q => h σ G H eg hs sl _ fun v G1 H1 d W1 e1 h1 r1 z1 => by
    obtain ⟨p, L, R, pds, rfl, rfl, k⟩ := z1
    obtain rfl : v = .ref p := r1
    obtain ⟨o, ho, xs, rfl, ra⟩ := h1.at_
    exact q (.ref p) _ H1 (.p (.list pds)) (L ++ R) (e1.trans h1.gave) (h1.give ho) (Rp.lst upd_same (RpAll.mono h1.gave _ _ (RepAll.data ra))) k
theorem ev_giveS (h : Ev U e env W fun d W1 => ∃ (p : Addr) (L R : Ow) (ds : List D), d = .adr p ∧ W1 = L ++ (p, .l ds) :: R ∧ Ψ (.sem (LstR U.X.K U.C ds)) (L ++ R)) : Ev U e env W Ψ :=
  fun σ G H eg hs sl Q q => h σ G H eg hs sl _ fun v G1 H1 d W1 e1 h1 r1 z1 => by
    obtain ⟨p, L, R, ds, rfl, rfl, k⟩ := z1
    obtain rfl : v = .ref p := r1
    obtain ⟨o, ho, xs, rfl, ra⟩ := h1.at_
    exact q (.ref p) _ H1 (.sem (LstR U.X.K U.C ds)) (L ++ R) (e1.trans h1.gave) (h1.give ho) ⟨⟨p, rfl⟩, _, Ex.refl _, p, xs, rfl, upd_same, ra.mono h1.gave⟩ k
/-- a list many times, a new list that is owned -/
theorem ev_mulO (h : Ev U a env W fun d1 W1 => Ev U b env W1 fun d2 W2 => ∃ (ds : List PyData) (k : Int), d1 = .p (.list ds) ∧ d2 = .p (.int k) ∧ -(2 ^ 63) ≤ k ∧ k < 2 ^ 63 ∧ ds.length * k.toNat ≤ sizeLine ∧ ∀ p, Ψ (.adr p) ((p, .l (((List.replicate k.toNat ds).flatten).map .p)) :: W2)) : Ev U (.BinOp a .Mult b pos) env W Ψ := by
  refine ev_bin (OpR.or op_mul op_rep) (h.imp fun d1 W1 h1 => h1.imp fun d2 W2 h2 => ?_)
  intro G H x y eg hs rx ry Q q
  obtain ⟨ds, k, rfl, rfl, k1, k2, k3, fin⟩ := h2
  cases ry
  cases rx with
  | lst h1 r1 =>
    refine .inr ⟨_, _, _, rfl, rfl, hs.g _ _ h1, k1, k2, by rw [r1.len]; exact k3, fun p hp => ?_⟩
    exact q _ G _ (.adr p) _ (Ex.refl G) (hs.own (u := .l (((List.replicate k.toNat ds).flatten).map .p)) hp ⟨_, rfl, RpAll.rep (r1.flat _)⟩) rfl (fin p)
/-- two lists of data, a new list that is owned -/
theorem ev_addDO (h : Ev U a env W fun d1 W1 => Ev U b env W1 fun d2 W2 => ∃ xs ys : List PyData, d1 = .p (.list xs) ∧ d2 = .p (.list ys) ∧ xs.length + ys.length ≤ 100000 ∧ ∀ r, Ψ (.adr r) ((r, .l ((xs ++ ys).map .p)) :: W2)) : Ev U (.BinOp a .Add b pos) env W Ψ := by
  refine ev_bin op_cat (h.imp fun d1 W1 h1 => h1.imp fun d2 W2 h2 => ?_)
  intro G H x y eg hs rx ry Q q
  obtain ⟨xs, ys, rfl, rfl, hz, k⟩ := h2
  cases rx with
  | lst h1 r1 =>
    cases ry with
    | lst h2 r2 =>
      refine ⟨_, _, _, _, rfl, rfl, hs.g _ _ h1, hs.g _ _ h2, by rw [r1.len, r2.len, sizeLine_eq]; omega, fun r hr => ?_⟩
      exact q _ G _ (.adr r) _ (Ex.refl G) (hs.own (u := .l ((xs ++ ys).map .p)) hr ⟨_, rfl, RpAll.rep (r1.app r2)⟩) rfl (k r)
/-- a comprehension whose list is owned -/
theorem ev_lcR (ok : U.Ok) {elt tg iter : Expr} {ifs : List Expr} {scope : Scope} (own : List (Str × Nat)) (js : List Nat) (hjs : ∀ j ∈ js, j ∈ own.map (·.2)) (bok : BlkOk U.X.N U.X.env.scope scope own) (hif : ifs.length ≤ 1)
    (h : LcOkO U elt tg iter ifs scope own js env W Ψ) (hs : ∀ x, foldedSetIterable iter U.X.env x = pure x := by intro _; rfl) : Ev U (.ListComp elt [⟨tg, iter, ifs, 0⟩] scope pos) env W Ψ :=
  fun σ G H eg h0 sl Q q => SemE.of (pe_lcB ok bok hif hs) (h.reading hjs σ G H eg h0 sl Q q)
/-- list(x), x an owned list: data -/
theorem ev_listOwn (B : Blt U.X.mg) (hg : Gl U.X "list") (h : EvA U [e] env W fun ds W1 => ∃ (p : Addr) (pds : List PyData), ds = [.adr p] ∧ (p, OD.l (pds.map .p)) ∈ W1 ∧ Ψ (.p (.list pds)) W1) (he : starEach [e] U.X.env = (false, eval e U.X.env) :: starEach [] U.X.env := by rfl) : Ev U (.Call (.Name "list" p0) [e] [] pos) env W Ψ :=
  ev_callTy call_list_of hg B.list (by decide +kernel) (h.imp fun ds W1 z => by
    intro G H vs eg hs ra Q q
    obtain ⟨p, pds, rfl, hm, k⟩ := z
    obtain ⟨o, ho, xs, rfl, rr⟩ := hs.w _ hm
    cases ra with
    | cons r1 r2 =>
      cases r2
      obtain rfl := (show _ = V.ref p from r1)
      exact ⟨_, _, rfl, .inl (SqL.of ho), fun p hp => q _ _ _ (.p (.list _)) _ (hs.ex hp) (hs.new hp) (Rp.lst upd_same (RpAll.mono (hs.ex hp) _ _ (RepAll.data rr))) k⟩) (he := he) (hpl := rfl)
/-- list(g(..)), owned -/
theorem ev_listGO {L : Pl} {x : Str} {k : Nat} {ps : List Str} {Cn : ConG} (hL : L.Has U) (ok : U.Ok) (B : Blt U.X.mg) (D : DefG L x k ps Cn) (hk : k + 3 ≤ U.k) (hg : Gl U.X x) (hgl : Gl U.X "list")
    (h : EvA U (e :: es) env W fun ds W1 => Cn ds W1 (fun dys W2 => ∀ p, Ψ (.adr p) ((p, .l dys) :: W2)) fun _ _ => False) (hd : (x == ("__debug__" : Str)) = false := by decide)
    (he : starEach (e :: es) U.X.env = (false, eval e U.X.env) :: starEach es U.X.env := by rfl) (hpl : (backTo pos (starEach es U.X.env)).any (·.1) = false := by rfl)
    (he2 : starEach [.Call (.Name x p0) (e :: es) [] pos] U.X.env = (false, eval (.Call (.Name x p0) (e :: es) [] pos) U.X.env) :: starEach [] U.X.env := by rfl) : Ev U (.Call (.Name "list" p1) [.Call (.Name x p0) (e :: es) [] pos] [] p2) env W Ψ := by
  obtain ⟨f, fd, F, bi, hm, kp⟩ := D.ex
  have F' : GFn U.X.prog U.X.w U.X.K U.X.mg U.X.base k f fd ps (spGG L Cn) := by
    rw [hL.P, hL.w, hL.K, hL.mg, hL.base]
    exact F
  refine .here (pe_listG (E := C8.E0) (pgen_call (E := C8.E0) (dvs := []) (ds := []) F' (ok.room.mono (by omega)) hg (by rw [hL.mg]; exact hm) (by rw [hL.K]; exact kp) (by rw [hL.K]; exact bi) .nil pa_sem hd he hpl) (passes_call LamX.takes0 fun _ _ _ _ z => z.elim) (fun _ _ _ z => z.elim) (ok.room.mono hk) hgl B.list (by decide +kernel) (by decide) (by decide) he2) fun σ G H eg hs sl Q q => ?_
  refine h σ G H eg hs sl _ fun vs G1 H1 ds W1 e1 h1 r1 z => ?_
  refine ⟨U.T, G1, W1, ds, _, _, by rw [← hL.K, ← hL.C]; exact h1, by rw [← hL.K, ← hL.C, List.append_nil]; exact r1, z, ?_, fun _ _ _ _ _ _ _ _ _ y => y.elim⟩
  rw [← hL.K, ← hL.C]
  rintro ys G2 H2 dys W2 e2 h2 r2 k2 p hp
  exact q _ _ _ (.adr p) _ (e1.trans e2) (h2.own (u := .l dys) hp ⟨ys, rfl, r2⟩) rfl (k2 p)
/-- a or b, as values, a an owned list or None -/
theorem pe_orT {X : Cx} {ta tb : TE} {t : V → Hp → (Bool → Hp → Prop) → Prop} {rest : List Expr} (ha : PE X a ta) (ht : TruR X t) (hb : PE X (.BoolOp .Or (b :: rest) pos) tb) : PE X (.BoolOp .Or (a :: b :: rest) pos) fun σ H Q => ta σ H fun v H1 => t v H1 fun c H2 => if c = true then Q v H2 else tb σ H2 Q := by
  refine ⟨fun pins s σ H Q I h => ?_⟩
  refine BoolOp_or (thn (ha.run pins s σ H _ I h) fun v s1 ⟨x, H1, I1, r1, q1⟩ => ?_)
  refine thn (ht pins s1 σ H1 x v _ I1 r1 q1) fun c s2 ⟨H2, I2, q2⟩ => ?_
  cases c with
  | false => exact hb.run pins s2 σ H2 Q I2 q2
  | true => exact ⟨x, H2, I2, r1, q2⟩
theorem ev_orL {rest : List Expr} (h : Ev U a env W fun d W1 => (d = .p .none ∧ Ev U (.BoolOp .Or (b :: rest) pos) env W1 Ψ) ∨ ∃ (p : Addr) (ds : List D), d = .adr p ∧ (p, OD.l ds) ∈ W1 ∧ (ds = [] → Ev U (.BoolOp .Or (b :: rest) pos) env W1 Ψ) ∧ (ds ≠ [] → Ψ d W1)) : Ev U (.BoolOp .Or (a :: b :: rest) pos) env W Ψ :=
  .here (pe_orT pe_sem tru_ok pe_sem) fun σ G H eg hs sl Q q => h σ G H eg hs sl _ fun x G1 H1 d1 W1 e1 h1 r1 z1 => by
    have next : Ev U (.BoolOp .Or (b :: rest) pos) env W1 Ψ → SemE U.X (.BoolOp .Or (b :: rest) pos) σ H1 Q := fun hb => hb σ G1 H1 (eg.trans e1) h1 (sl.mono e1) Q fun v G2 H2 d W2 a b c z => q v G2 H2 d W2 (e1.trans a) b c z
    rcases z1 with ⟨rfl, hb⟩ | ⟨p, ds, rfl, hm, k0, k1⟩
    · cases r1
      exact ⟨false, rfl, next hb⟩
    · obtain rfl : x = .ref p := r1
      obtain ⟨o, ho, xs, rfl, ra⟩ := h1.w _ hm
      refine ⟨!xs.isEmpty, .inl ⟨xs, SqL.of ho, rfl⟩, ?_⟩
      cases ds with
      | nil =>
        cases ra
        exact next (k0 rfl)
      | cons d ds =>
        cases ra with
        | cons r rr => exact q _ G1 H1 (.adr p) W1 e1 h1 rfl (k1 (by simp))
/-- while, by what is owned too -/
theorem w_whileW {body : List Stmt} (ok : U.Ok) (Pv : Nat → Ev0 → Ow → Prop) {m0 : Nat} (h0 : Pv m0 env W)
    (hs : ∀ m env' W', Pv m env' W' → EvT U c env' W' fun b W2 => (b = true → Wp U body env' W2 ⟨fun e2 W3 => ∃ m', m' < m ∧ Pv m' e2 W3, Φ.rt, Φ.nx, fun e2 W3 => ∃ m', m' < m ∧ Pv m' e2 W3⟩) ∧ (b = false → Φ.nx env' W2)) :
    Wp1 U (.While c body [] pos) env W Φ := by
  intro σ G H eg hs0 sl Dn ke
  refine SemS.of (ps_while ok.po pt_sem pss_sem) ?_
  refine ⟨fun m σ' H' => ∃ G' W' env', Ex G G' ∧ Hs U.X.K U.C U.T G' W' H' ∧ Slots U.X.K U.C G' σ' env' ∧ Pv m env' W', ⟨m0, G, W, env, Ex.refl _, hs0, sl, h0⟩, ?_⟩
  rintro m σ' H' ⟨G', W', env', e', h', s', pv⟩
  refine hs m env' W' pv σ' G' H' (eg.trans e') h' s' _ fun b G2 H2 W2 e2 h2 z => ?_
  cases b with
  | true =>
    rw [if_pos rfl]
    have e02 := (eg.trans e').trans e2
    refine ⟨fun σ3 H3 => ∃ G3 W3 env3 m', m' < m ∧ Ex G G3 ∧ Hs U.X.K U.C U.T G3 W3 H3 ∧ Slots U.X.K U.C G3 σ3 env3 ∧ Pv m' env3 W3, fun σ3 H3 ⟨G3, W3, env3, m', l, e3, h3, s3, p3⟩ => ⟨_, l, G3, W3, env3, e3, h3, s3, p3⟩, ?_⟩
    exact z.1 rfl σ' G2 H2 e02 h2 (s'.mono e2) _ ⟨fun σ6 G6 H6 env6 W6 e6 h6 s6 ⟨m', l, k6⟩ => ⟨G6, W6, env6, m', l, (e'.trans e2).trans e6, h6, s6, k6⟩, fun v G6 H6 d W6 e6 h6 r6 k6 => ke.rt v G6 H6 d W6 ((e'.trans e2).trans e6) h6 r6 k6,
      fun σ6 G6 H6 env6 W6 e6 h6 s6 k6 => ke.nx σ6 G6 H6 env6 W6 ((e'.trans e2).trans e6) h6 s6 k6, fun σ6 G6 H6 env6 W6 e6 h6 s6 ⟨m', l, k6⟩ => ⟨G6, W6, env6, m', l, (e'.trans e2).trans e6, h6, s6, k6⟩⟩
  | false =>
    rw [if_neg (by simp)]
    exact ke.nx σ' G2 H2 env' W2 (e'.trans e2) h2 (s'.mono e2) (z.2 rfl)
end

end Q
namespace Q
open PySem PySem.Spec PyProof.Rows L2
open Evl (Ex)

open PySem PySem.Spec PyProof.Rows L2 GenW LamX
open Evl (Ex)
/-! ### a lambda that a block calls itself -/
abbrev EN : XK := fun _ _ _ => False
/-- the lambda at v in H, called -/
def lGive (X : Cx) (k : Nat) (σ : L2.St) (v : V) (H : Hp) (Qv : VK) : Prop := ∃ (f c' : Addr) (dV : Value) (params : Arguments) (body : Expr) (scope : Scope) (dk : Option Int), v = .ref f ∧ LmAt X params body scope dV H f c' ∧ DfAt dk dV H ∧ LmS X.N X.env.scope scope ∧ LmB params body scope dk ∧
  ∀ (A : Around) (outer : List Env) (s : Shared) (Hb : Hp), Room k (A.deeper (lamEnv X scope s.heap.objs.size f c')) → SemE (lamCx X A outer s Hb EN scope f c') body σ H Qv
theorem pe_lamB {X : Cx} {k : Nat} {pins : List (Addr × Obj)} {σ : L2.St} {s : Shared} {H : Hp} {scope : Scope} {ce : Env} {fp : List Addr} {i : Nat} {y : Str} {p1 p2 : Pos} (I : Inv X pins σ H s) (hfp : ∀ b ∈ fp, FpOk X pins H b) (hr : Room (k + 1) X.A)
    (hy : X.N[i]? = some y) (hv : Vis ce.scope y) (hd : (y == ("__debug__" : Str)) = false := by decide) (hcd : (y == ("__classdict__" : Str)) = false := by decide) :
    PE (X.blk s H scope ce fp) (.Call (.Name y p1) [] [] p2) (fun σ2 H2 Qv => ∃ v, σ2[i]? = some (some v) ∧ lGive X k σ v H2 Qv) := by
  refine ⟨fun pinsB s5 σB HB Qv IB h => ?_⟩
  obtain ⟨v, hσ, f, c', dV, params, body, scope', dk, rfl, la, da, L, Bd, hb⟩ := h
  refine wpAny_Call_Name_kw (thn ((pe_var (X := X.blk s H scope ce fp) (pos := p1) (i := i) hy hv hd hcd).run pinsB s5 σB HB (fun v H1 => v = .ref f ∧ H1 = HB) IB ⟨.ref f, hσ, rfl, rfl⟩) fun u s1 ⟨v, H1, I1, r1, ev, eH⟩ => ?_)
  subst ev
  rw [eH] at I1
  obtain rfl : u = Value.ref f := r1
  obtain ⟨pm, ctv, hf1⟩ := id la.fn
  obtain ⟨of1, _⟩ := I1.hok f _ hf1
  refine PySem.W.callWith_F0 ⟨_, _, _, _, of1⟩ ?_
  have J : Inv X pins σ HB s1 := I.call' (ch := fp) I1.os I1.base I1.hok I1.bare fun b hb => ⟨(hfp b hb).2.2.2.1, (hfp b hb).2.1, (hfp b hb).2.2.2.2.1, (hfp b hb).2.2.2.2.2⟩
  have rc := lm_call (k := k) (E := EN) (Qv := Qv) (tb := SemE (lamCx X X.A X.stack s1 HB EN scope' f c') body) J L Bd la da J.env0 Un.refl hr (fun _ => pe_sem) (hb X.A X.stack s1 HB (hr.deeper _))
  refine wpAny_call (codeAny_mono rc fun r s' hq => ?_)
  cases r with
  | error e => exact passes_call (X := X.blk s H scope ce fp) LamX.takes0 (fun _ _ _ _ z => z.elim) pinsB σB HB s1 e s' I1 hq
  | ok fl =>
    cases fl with
    | ret u => exact I1.after hq
    | next => exact False.elim hq
    | brk => exact False.elim hq
    | cont => exact False.elim hq
abbrev lamN (U : Ct) (A : Around) (outer : List Env) (s : Shared) (Hb : Hp) (scope : Scope) (f c' : Addr) (G : Hp) (k : Nat) : Ct := { U with X := LamX.lamCx U.X A outer s Hb EN scope f c', G := G, Ξ := fun _ _ => False, E := EN, k := k }
theorem lamN_ok {U : Ct} (ok : U.Ok) {A : Around} {outer : List Env} {s : Shared} {Hb : Hp} {scope : Scope} {f c' : Addr} {G : Hp} {k : Nat} (hr : Room k (A.deeper (LamX.lamEnv U.X scope s.heap.objs.size f c'))) : (lamN U A outer s Hb scope f c' G k).Ok where
  calm := rfl
  room := hr
  nd := ok.nd
  po := passes_of rfl
  tk := takes_of rfl rfl rfl rfl
  ex := fun _ _ _ _ _ _ _ _ _ z => z.elim
theorem lamN_has {L : Pl} {U : Ct} (hL : L.Has U) {A : Around} {outer : List Env} {s : Shared} {Hb : Hp} {scope : Scope} {f c' : Addr} {G : Hp} {k : Nat} : L.Has (lamN U A outer s Hb scope f c' G k) :=
  ⟨hL.P, hL.w, hL.K, hL.mg, hL.base, hL.C, hL.cN, hL.cL, hL.cA, hL.cT⟩
/-- the body, wherever it is called; nothing is raised -/
def LamEvN (L : Pl) (U : Ct) (k : Nat) (scope : Scope) (body : Expr) (env : Ev0) (W : Ow) (Ψ : D → Ow → Prop) : Prop :=
  ∀ (A : Around) (outer : List Env) (s : Shared) (Hb : Hp) (f c' : Addr) (G : Hp), (lamN U A outer s Hb scope f c' G k).Ok → L.Has (lamN U A outer s Hb scope f c' G k) → Ev (lamN U A outer s Hb scope f c' G k) body env W Ψ

end Q
namespace Q
open PySem PySem.Spec PyProof.Rows L2
open Evl (Ex)

open PySem PySem.Spec PyProof.Rows L2 GenW LamX
open Evl (Ex)
theorem lcV_core {X : Cx} {pins : List (Addr × Obj)} {s : Shared} {σ : L2.St} {H : Hp} {Q : VK} {use : Option (Value → Sem Unit)} {Qf : Value → Shared → Prop} {elt tg iter : Expr} {scope : Scope} {own : List (Str × Nat)} {pos pos' : Pos} {wi : TI} {g : TG} {te : L2.St → TE} (I : Inv X pins σ H s) (hc : X.calm = true) (hN : X.N.Nodup) (hi : PI X tg iter wi) (bok : BlkOk X.N X.env.scope scope own)
    (hg : ∀ (s : Shared) (H : Hp) (C : Addr) (cl : List (Str × Addr)) (fp : List Addr), PG (X.blk s H scope (compEnvC scope cl C X.env) fp) tg g)
    (he : ∀ (pins : List (Addr × Obj)) (σ : L2.St) (s : Shared) (H : Hp) (C : Addr) (cl : List (Str × Addr)) (fp : List Addr), Inv X pins σ H s → (∀ b ∈ fp, FpOk X pins H b) → PE (X.blk s H scope (compEnvC scope cl C X.env) fp) elt (te σ))
    (hs : ∀ x, foldedSetIterable iter X.env x = pure x) (h : tLc wi g tYes (te σ) (own.map (·.2)) σ H Q)
    (hRR : ∀ D C s' m H', Inv X pins σ H' s' → Q (.ref D) H' → s'.heap.Ns C m → FpOk X pins H' C → compPost (model X.prog X.w) X.A X.xe use Qf (.ref D) C (.ok .next) s') :
    wpAny (model X.prog X.w) X.A (comprehension (.ListComp elt [⟨tg, iter, [], 0⟩] scope pos) scope X.env pos' (newList []) false (eval iter X.env) use) Qf X.xe s := by
  have hfree : ∀ y ∈ scope.names, y.2 = .free → ∃ c, X.env.cells.lookup y.1 = some c := fun y hy e => (bok.free y hy e).elim (fun z => I.ok.has _ (.inl z)) fun z => I.ok.has _ (.inr z)
  refine wpAny_comprehension_free (use := use) (Q := Qf) rfl hs (closure_ok hfree) bok.kind (fun y hy e => by rw [bok.uniq y hy, e]) (thn (hi.run pins s σ H _ I h) fun xv s1 hx => thn hx fun itv s2 h2 => ?_)
  obtain ⟨it, fp, tn, Jt, H2, rfl, I2, Tn, st2, f2, rest⟩ := h2
  refine wpAny_newObj_type (newEnv_comp ?_) (by show 0 ≤ sizeLine; decide)
  generalize hDe : s2.heap.objs.size = D
  have hD0 : H2 D = none := I2.hok.fresh (Nat.le_of_eq hDe)
  obtain ⟨Wv, ⟨m0, w0⟩, turn⟩ := rest D hD0
  generalize es3 : ({ s2 with heap := s2.heap.push { cls := .type "list", data := .seq ([] : List Value).toArray } } : Shared) = s3
  have e3 : s3.heap = s2.heap.push { cls := .type "list", data := .seq ([] : List Value).toArray } := by rw [← es3]
  have I3 : Inv X pins σ (upd H2 D (.lst [])) s3 := by
    rw [← es3]
    refine I2.laid (t' := s2.toks) (fun b o z => Heap.get?_push_of_some _ z) (Nat.le_of_eq hDe) ⟨Nat.zero_le _, [], 0, .nil, by rw [← hDe]; exact Heap.get?_push_size _ rfl⟩
  have lt2 : ∀ b ∈ fp, b < s2.heap.objs.size := fun b hb => by
    obtain ⟨o, z, _⟩ := Tn.obj _ _ st2 b hb
    exact Heap.lt_size z
  have f3 : ∀ b ∈ fp, FpOk X pins (upd H2 D (.lst [])) b := fun b hb => ⟨by rw [upd_ne (by rw [← hDe]; exact Nat.ne_of_lt (lt2 b hb))]; exact (f2 b hb).1, (f2 b hb).2⟩
  have st3 : tn 0 s3.heap := Tn.keep _ _ _ st2 fun b _ o z => by rw [e3]; exact Heap.get?_push_of_some _ z
  have I4 := block_start I3 bok hN fun b hb => ⟨f3 b hb, by rw [e3, Heap.size_push]; exact Nat.lt_succ_of_lt (lt2 b hb)⟩
  have pg := hg s3 (upd H2 D (.lst [])) s3.heap.objs.size (cellsFrom (s3.heap.objs.size + 1) scope.names (cloFrom X.env.cells scope.names [])) fp
  have pe := he pins σ s3 (upd H2 D (.lst [])) s3.heap.objs.size (cellsFrom (s3.heap.objs.size + 1) scope.names (cloFrom X.env.cells scope.names [])) fp I3 f3
  have goal : codeAny (model X.prog X.w) X.A (.compStart (.ListComp elt [⟨tg, iter, [], 0⟩] scope pos) 0 (.ref it) (.ref D) (compEnvC scope (cellsFrom (s3.heap.objs.size + 1) scope.names (cloFrom X.env.cells scope.names [])) s3.heap.objs.size X.env))
      (compPost (model X.prog X.w) X.A X.xe use Qf (.ref D) s3.heap.objs.size) { s3 with heap := pushCells (s3.heap.push { cls := .type "dict", data := .dict #[] }) scope.names } := by
    generalize hce : compEnvC scope (cellsFrom (s3.heap.objs.size + 1) scope.names (cloFrom X.env.cells scope.names [])) s3.heap.objs.size X.env = ce at I4 pg pe ⊢
    have cL : ce.locals = s3.heap.objs.size := by subst hce; rfl
    generalize eH3 : upd H2 D (.lst []) = H3 at I3 I4 pg pe w0 f3
    generalize es4 : ({ s3 with heap := pushCells (s3.heap.push { cls := .type "dict", data := .dict #[] }) scope.names } : Shared) = s4 at I4 ⊢
    have st4 : tn 0 s4.heap := Tn.keep _ _ _ st3 fun b _ o z => by rw [← es4]; exact pushCells_keeps _ _ _ _ (Heap.get?_push_of_some _ z)
    have stat : ∀ {σ' : L2.St} {H' : Hp} {s' : Shared}, Inv (X.blk s3 H3 scope ce fp) [] σ' H' s' → (∀ b ∈ fp, H' b = none) → ∀ b ∈ fp, FpOk (X.blk s3 H3 scope ce fp) [] H' b := fun {σ' H' s'} I' hn b hb =>
      ⟨hn b hb, (I'.ok.exf b hb).1, I'.ok.exfs b hb, .inl hb, (I'.ok.exf b hb).2, fun p hp => absurd (show p ∈ ([] : List (Addr × Obj)) ++ [] from hp) (by simp)⟩
    have loop : codeAny (model X.prog X.w) X.A (.compLoop (.ListComp elt [⟨tg, iter, [], 0⟩] scope pos) 0 (.ref it) (.ref D) ce) (compPost (model X.prog X.w) X.A X.xe use Qf (.ref D) s3.heap.objs.size) s4 := by
      refine compLoop_any (fun n s' => ∃ i H', Inv (X.blk s3 H3 scope ce fp) [] (wipe σ (own.map (·.2))) H' s' ∧ tn i s'.heap ∧ (∀ b ∈ fp, H' b = none) ∧ Wv i n H') ?_ m0 ⟨0, H3, I4, st4, fun b hb => (f3 b hb).1, w0⟩
      rintro n s5 ⟨i, H5, I5, st5, n5, w5⟩
      rcases turn i n H5 w5 with ⟨stop, qq⟩ | ⟨go, Nx, hNx, step⟩
      · refine thnF (Tn.done (X.blk s3 H3 scope ce fp) rfl rfl rfl hc i [] s5 _ H5 (fun _ _ => False) I5 (stat I5 n5) st5 stop) fun r s6 ⟨hr, I6⟩ => ?_
        subst hr
        have I7 : Inv X pins σ H5 s6 := I3.call' (ch := fp) I6.os I6.base I6.hok I6.bare fun b hb => ⟨(f3 b hb).2.2.2.1, (f3 b hb).2.1, (f3 b hb).2.2.2.2.1, (f3 b hb).2.2.2.2.2⟩
        have nC : H5 s3.heap.objs.size = none := by
          have z : H5 ce.locals = none := I6.free
          rw [cL] at z
          exact z
        obtain ⟨m, hn, _⟩ := I6.loc
        have hn : s6.heap.Ns ce.locals m := hn
        rw [cL] at hn
        exact hRR D s3.heap.objs.size s6 m H5 I7 qq hn (I3.fpOk (Nat.le_refl _) nC)
      · refine thnF (Tn.item (X.blk s3 H3 scope ce fp) rfl rfl rfl hc i [] s5 _ H5 (fun _ _ => False) I5 (stat I5 n5) st5 go) fun r s6 ⟨u, hr, h6⟩ => ?_
        subst hr
        refine thnF h6 fun _ s7 ⟨x, H7, I7, r7, y7, st7, n7⟩ => ?_
        have I7' := I7.pinned (stat I7 n7) (Tn.obj _ _ st7)
        refine thnF (pg.run _ s7 _ H7 x u _ I7' r7 (step x H7 y7)) fun _ s8 ⟨σ8, H8, I8, hw8, q8⟩ => ?_
        refine wpAny_tests_nil ?_
        rw [if_pos rfl]
        have q8 : te σ σ8 H8 _ := q8
        refine thnF (pe.run _ s8 σ8 H8 _ I8 q8) fun z s10 ⟨yv, H10, I10, r10, acc, hD10, hz10, nx⟩ => ?_
        refine app_ok (X := X.blk s3 H3 scope ce fp) I10 hD10 hz10 r10 fun s11 I11 => ?_
        obtain ⟨m', hm, w'⟩ := hNx _ nx
        have pin' : ∀ b ∈ fp, ∀ o, s7.heap.get? b = some o → s11.heap.get? b = some o ∧ upd H10 D (.lst (acc ++ [yv])) b = none := fun b hb o z =>
          let y := I11.pin (b, o) (List.mem_append_right _ (List.mem_append_right _ (mem_pinsAt hb z)))
          ⟨y.1, y.2.1⟩
        refine ⟨m', hm, i + 1, _, (I11.unpinned (pins := [])).weak (by rw [← hw8, wipe_length]) (fun j v z => ?_), Tn.keep _ _ _ st7 fun b hb o z => (pin' b hb o z).1, fun b hb => ?_, w'⟩
        · rw [← hw8] at z
          exact (wipe_some z).1
        · obtain ⟨o, z, _⟩ := Tn.obj _ _ st7 b hb
          exact (pin' b hb o z).2
    exact codeAny_compStart_list loop (Tn.self X.A 0 _ _ _ st4 loop)
  exact goal
theorem pe_lcV2 {X : Cx} {elt tg iter : Expr} {scope : Scope} {own : List (Str × Nat)} {pos : Pos} {wi : TI} {g : TG} {te : L2.St → TE} (hc : X.calm = true) (hN : X.N.Nodup) (hi : PI X tg iter wi) (bok : BlkOk X.N X.env.scope scope own)
    (hg : ∀ (s : Shared) (H : Hp) (C : Addr) (cl : List (Str × Addr)) (fp : List Addr), PG (X.blk s H scope (compEnvC scope cl C X.env) fp) tg g)
    (he : ∀ (pins : List (Addr × Obj)) (σ : L2.St) (s : Shared) (H : Hp) (C : Addr) (cl : List (Str × Addr)) (fp : List Addr), Inv X pins σ H s → (∀ b ∈ fp, FpOk X pins H b) → PE (X.blk s H scope (compEnvC scope cl C X.env) fp) elt (te σ))
    (hs : ∀ x, foldedSetIterable iter X.env x = pure x) : PE X (.ListComp elt [⟨tg, iter, [], 0⟩] scope pos) fun σ H Qv => tLc wi g tYes (te σ) (own.map (·.2)) σ H Qv := by
  refine ⟨fun pins s σ H Q I h => ?_⟩
  rw [eval_ListComp]
  refine lcV_core I hc hN hi bok hg he hs h fun D C s' m H' I' q hn f => ⟨m, hn, fun h'' sb => ?_⟩
  obtain ⟨f0, f1, f2, f3, f4, f5⟩ := f
  exact ⟨.ref D, H', I'.turned (t' := s'.toks) (fun b o hb e => (sb.2 b hb).trans e) f0 f1 f3 f4 f5, rfl, q⟩
theorem ps_setLcV {X : Cx} {i : Nat} {y : Str} {py : Pos} {elt tg iter : Expr} {scope : Scope} {own : List (Str × Nat)} {pos spos : Pos} {wi : TI} {g : TG} {te : L2.St → TE} (hc : X.calm = true) (hN : X.N.Nodup) (hy : X.N[i]? = some y) (hyl : X.env.scope.names.lookup y = some .local)
    (hsw : swapsWith (.ListComp elt [⟨tg, iter, [], 0⟩] scope pos) (some (.Name y py)) spos.line X.env = pure true) (hi : PI X tg iter wi) (bok : BlkOk X.N X.env.scope scope own)
    (hg : ∀ (s : Shared) (H : Hp) (C : Addr) (cl : List (Str × Addr)) (fp : List Addr), PG (X.blk s H scope (compEnvC scope cl C X.env) fp) tg g)
    (he : ∀ (pins : List (Addr × Obj)) (σ : L2.St) (s : Shared) (H : Hp) (C : Addr) (cl : List (Str × Addr)) (fp : List Addr), Inv X pins σ H s → (∀ b ∈ fp, FpOk X pins H b) → PE (X.blk s H scope (compEnvC scope cl C X.env) fp) elt (te σ))
    (hs : ∀ x, foldedSetIterable iter X.env x = pure x) :
    PS X (.Assign [.Name y py] (.ListComp elt [⟨tg, iter, [], 0⟩] scope pos) spos) (tAsg (fun σ H Qv => tLc wi g tYes (te σ) (own.map (·.2)) σ H Qv) (gName i)) := by
  refine ⟨fun pins s σ H D I h => ?_⟩
  rw [exec_Assign_Name_used _ _ _ _ hsw]
  refine wpAny_bind (wpAny_standAt (wpAny_bind ?_))
  show wpAny _ X.A (do let _ ← comprehension (.ListComp elt [⟨tg, iter, [], 0⟩] scope pos) scope X.env (firstIterPos [⟨tg, iter, [], 0⟩] pos) (newList []) false (eval iter X.env) (some (assign (.Name y py) X.env))) _ _ s
  have h : tLc wi g tYes (te σ) (own.map (·.2)) σ H (fun x H1 => gName i x σ H1 D.nx) := h
  refine wpAny_bind (thn (lcV_core (Qf := fun _ s' => SP X pins D .next s') I hc hN hi bok hg he hs h fun L C s' m H' I' q hn f => ?_) fun _ s' hq => wpAny_pure (wpAny_pure hq))
  show wpAny _ _ (assign (.Name y py) X.env (.ref L)) _ _ _
  refine wpAny_assign_Name (store_ok2 (v := V.ref L) I' hN hy (.inl hyl) rfl (fun s2 I2 ⟨a, sb, ha⟩ => ?_) (.inr hyl))
  obtain ⟨f0, f1, f2, f3, f4, f5⟩ := f
  have haC : C ≠ a := by
    rcases ha with z | z
    · rw [z]; exact f1
    · exact fun e => f4 y a z e.symm
  refine ⟨m, hn.sameBut sb haC, fun h3 sb3 => ?_⟩
  exact ⟨_, H', I2.turned (t' := s2.toks) (fun b o hb e => (sb3.2 b hb).trans e) f0 f1 f3 f4 f5, q⟩
section
variable {L : Pl} {U : Ct} {env : Ev0} {W : Ow} {Ψ : D → Ow → Prop} {k : Nat}
/-- what a comprehension that calls lambdas is given -/
def LcLam (L : Pl) (U : Ct) (k : Nat) (iter : Expr) (env : Ev0) (W : Ow) (Ψ : D → Ow → Prop) : Prop :=
  Ev U iter env W fun d W1 => ∃ (a : Addr) (L1 R : Ow) (ds : List D) (Pv : Nat → List D → Ow → Prop), d = .adr a ∧ W1 = L1 ++ (a, .l ds) :: R ∧ ds.length ≤ 1000 ∧ Pv 0 [] [] ∧
      (∀ (i : Nat) (acc : List D) (An : Ow) (q1 q2 : Addr × OD), i < ds.length → Pv i acc An → ∃ params body scope dk, ds.getD i (.p .none) = .sem (LamR U.X params body scope dk) ∧ LmS U.X.N U.X.env.scope scope ∧ LmB params body scope dk ∧ LamEvN L U k scope body env (An ++ q1 :: (L1 ++ q2 :: R)) fun d W2 => ∃ An', W2 = An' ++ q1 :: (L1 ++ q2 :: R) ∧ Pv (i + 1) (acc ++ [d]) An') ∧
      ∀ (acc : List D) (An : Ow) (Dl : Addr), acc.length = ds.length → Pv ds.length acc An → Ψ (.adr Dl) (An ++ (Dl, .l acc) :: (L1 ++ (a, .l ds) :: R))
abbrev teLam (U : Ct) (k iy : Nat) (σ : L2.St) : TE := fun σ2 H2 Qv => ∃ v, σ2[iy]? = some (some v) ∧ lGive U.X k σ v H2 Qv
theorem LcLam.reading {iter tg : Expr} (iy : Nat) (hL : L.Has U) (ok : U.Ok) (hlen0 : iy < env.length) (h : LcLam L U k iter env W Ψ) :
    ∀ (σ : L2.St) (G H : Hp), Ex U.G G → Hs U.X.K U.C U.T G W H → Slots U.X.K U.C G σ env → ∀ Q : VK, (∀ v G2 H2 d W2, Ex G G2 → Hs U.X.K U.C U.T G2 W2 H2 → U.R G2 v d → Ψ d W2 → Q v H2) →
      tLc (SemI U.X tg iter) (gName iy) tYes (teLam U k iy σ) [iy] σ H Q := fun σ G H eg h0 sl Q q => SemI.of (pi_list pe_sem) (h σ G H eg h0 sl _ fun x G1 H1 d1 W1 e1 h1 r1 z1 => by
    obtain ⟨a, L1, R, ds, Pv, rfl, rfl, hn, p0, step, fin⟩ := z1
    obtain rfl : x = .ref a := r1
    obtain ⟨o1, ho1, xs, rfl, ra⟩ := h1.at_
    have hx : xs.length = ds.length := ra.len
    have h1x : Hs U.X.K U.C U.T G1 (L1 ++ (a, .lx xs ds) :: R) H1 := h1.as_ ho1 ⟨rfl, ra⟩
    refine ⟨a, rfl, ⟨xs, SqL.of ho1⟩, ?_⟩
    intro Dl hD
    have sl1 := sl.mono e1
    have sp : ∀ (An : Ow) (q : Addr × OD) (u : OD), An ++ q :: (L1 ++ (a, u) :: R) = (An ++ q :: L1) ++ (a, u) :: R := fun An q u => by simp
    have atx : ∀ {G' H' : Hp} {A : Ow} {q : Addr × OD}, Hs U.X.K U.C U.T G' (A ++ q :: (L1 ++ (a, .lx xs ds) :: R)) H' → H' a = some (.lst xs) := fun hh => by
      rw [sp] at hh
      obtain ⟨o, ho, eo, _⟩ := hh.at_
      rw [ho, eo]
    refine lc_list (K := U.X.K) (a := a) (xs := xs) (tt := tYes) (te := fun σ2 H2 Qv => ∃ v, σ2[iy]? = some (some v) ∧ lGive U.X k σ v H2 Qv) (vs := [iy]) (σ := σ) (Qd := fun H => Q (.ref Dl) H) (fun i H' => ∃ G' acc An, Ex G1 G' ∧ Pv i acc An ∧ acc.length = i ∧ Hs U.X.K U.C U.T G' (An ++ (Dl, .l acc) :: (L1 ++ (a, .lx xs ds) :: R)) H')
      ⟨G1, [], [], Ex.refl _, p0, rfl, h1x.own (u := .l []) hD ⟨[], rfl, .nil⟩⟩ ?_ ?_ ?_
    · rintro i H' _ ⟨G', acc, An, e', _, _, h'⟩
      exact SqL.of (atx h')
    · rintro i xv H3 hxv ⟨G', acc, An, e', pv, hla, h'⟩
      have hi : i < ds.length := by
        have := (List.getElem?_eq_some_iff.mp hxv).1
        omega
      have hlen : iy < (wipe σ [iy]).length := by
        rw [wipe_length, sl.1]
        exact hlen0
      refine ⟨?_, ?_⟩
      · exact wipe_same (List.length_set ..) fun j hj => List.getElem?_set_ne fun e => hj (by simp [e])
      · show ∃ v, ((wipe σ [iy]).set iy (some xv))[iy]? = some (some v) ∧ _
        refine ⟨xv, List.getElem?_set_self hlen, ?_⟩
        obtain ⟨params, body, scope', dk, ed, Ls, Bd, hb⟩ := step i acc An (Dl, .l acc) (a, .lx xs ds) hi pv
        have rx : Rep U.X.K U.C G' xv (.sem (LamR U.X params body scope' dk)) := ed ▸ (ra.mono e').nth hxv
        obtain ⟨_, G0, e0, lr⟩ := rx
        obtain ⟨f, c', dV, rfl, la, da⟩ := lr.up (e0.trans h'.g)
        refine ⟨f, c', dV, params, body, scope', dk, rfl, la, da, Ls, Bd, fun A outer s Hb hr2 => hb A outer s Hb f c' G' (lamN_ok ok hr2) (lamN_has hL) σ G' _ (Ex.refl G') h' (sl1.mono e') _ fun v G2 H2 d W2 e2 h2 r2 z2 => ?_⟩
        obtain ⟨An', rfl, pv2⟩ := z2
        obtain ⟨o, ho, ys, eo, ra7⟩ := Hs.at_ (W1 := An') h2
        rw [eo] at ho
        have hxl : ys.length = i := by rw [ra7.len, hla]
        refine ⟨ys, ho, by rw [hxl]; exact Nat.lt_of_lt_of_le (show i < 10000000 by omega) (by rw [sizeLine_eq]; decide), G2, acc ++ [d], An', e'.trans e2, pv2, by rw [List.length_append, hla]; rfl, ?_⟩
        exact Hs.put (W1 := An') (u' := .l (acc ++ [d])) h2 ⟨ys ++ [v], rfl, ra7.app (.cons r2 .nil)⟩
    · rintro H' ⟨G', acc, An, e', pv, hla, h'⟩
      rw [hx] at pv hla
      have hh := h'
      rw [sp] at hh
      refine q _ G' H' (.adr Dl) (An ++ (Dl, .l acc) :: (L1 ++ (a, .l ds) :: R)) (e1.trans e') ?_ rfl (fin acc An Dl hla pv)
      rw [sp]
      exact hh.as_ (atx h') ⟨xs, rfl, ra.mono e'⟩)
/-- [y() for y in e], e an owned list of lambdas -/
theorem ev_lcLam {iter : Expr} {y : Str} {py p pos pos2 : Pos} {scope : Scope} (iy : Nat) (hL : L.Has U) (ok : U.Ok) (hk : k + 1 ≤ U.k) (bok : BlkOk U.X.N U.X.env.scope scope [(y, iy)]) (hy : U.X.N[iy]? = some y) (hlen0 : iy < env.length)
    (hlx : ∀ (C : Addr) (cl : List (Str × Addr)), Loc (compEnvC scope cl C U.X.env).scope y) (hlv : ∀ (C : Addr) (cl : List (Str × Addr)), Vis (compEnvC scope cl C U.X.env).scope y)
    (hlf : ∀ (s : Shared) (H : Hp) (C : Addr) (cl : List (Str × Addr)) (fp : List Addr), (U.X.blk s H scope (compEnvC scope cl C U.X.env) fp).fn y = true ∨ (compEnvC scope cl C U.X.env).scope.names.lookup y = some .local)
    (h : LcLam L U k iter env W Ψ) (hd : (y == ("__debug__" : Str)) = false := by decide) (hcd : (y == ("__classdict__" : Str)) = false := by decide) (hs : ∀ x, foldedSetIterable iter U.X.env x = pure x := by intro _; rfl) :
    Ev U (.ListComp (.Call (.Name y p) [] [] pos2) [⟨.Name y py, iter, [], 0⟩] scope pos) env W Ψ :=
  fun σ G H eg h0 sl Q q => SemE.of (pe_lcV2 (own := [(y, iy)]) (te := teLam U k iy) ok.calm ok.nd pi_sem bok (fun s H C cl fp => pg_name ok.nd hy (hlx C cl) (hlf s H C cl fp))
    (fun pins σ s H C cl fp I hfp => pe_lamB (k := k) I hfp (ok.room.mono hk) hy (hlv C cl) hd hcd) hs) (h.reading iy hL ok hlen0 σ G H eg h0 sl Q q)
/-- x = [y() for y in e] -/
theorem w_setLcLam {Φ : Ke} {x : Str} {p1 ps : Pos} (ix : Nat) {iter : Expr} {y : Str} {py p pos pos2 : Pos} {scope : Scope} (iy : Nat) (hL : L.Has U) (ok : U.Ok) (hk : k + 1 ≤ U.k) (bok : BlkOk U.X.N U.X.env.scope scope [(y, iy)]) (hy : U.X.N[iy]? = some y) (hlen0 : iy < env.length)
    (hlx : ∀ (C : Addr) (cl : List (Str × Addr)), Loc (compEnvC scope cl C U.X.env).scope y) (hlv : ∀ (C : Addr) (cl : List (Str × Addr)), Vis (compEnvC scope cl C U.X.env).scope y)
    (hlf : ∀ (s : Shared) (H : Hp) (C : Addr) (cl : List (Str × Addr)) (fp : List Addr), (U.X.blk s H scope (compEnvC scope cl C U.X.env) fp).fn y = true ∨ (compEnvC scope cl C U.X.env).scope.names.lookup y = some .local)
    (hi : U.X.N[ix]? = some x) (hl : U.X.env.scope.names.lookup x = some .local) (hsw : swapsWith (.ListComp (.Call (.Name y p) [] [] pos2) [⟨.Name y py, iter, [], 0⟩] scope pos) (some (.Name x p1)) ps.line U.X.env = pure true)
    (h : LcLam L U k iter env W fun d W1 => Φ.nx (env.set ix (some d)) W1) (hd : (y == ("__debug__" : Str)) = false := by decide) (hcd : (y == ("__classdict__" : Str)) = false := by decide) (hs : ∀ x, foldedSetIterable iter U.X.env x = pure x := by intro _; rfl) :
    Wp1 U (.Assign [.Name x p1] (.ListComp (.Call (.Name y p) [] [] pos2) [⟨.Name y py, iter, [], 0⟩] scope pos) ps) env W Φ :=
  fun σ G H eg h0 sl Dn ke => SemS.of (ps_setLcV (own := [(y, iy)]) (te := teLam U k iy) ok.calm ok.nd hi hl hsw pi_sem bok (fun s H C cl fp => pg_name ok.nd hy (hlx C cl) (hlf s H C cl fp))
    (fun pins σ s H C cl fp I hfp => pe_lamB (k := k) I hfp (ok.room.mono hk) hy (hlv C cl) hd hcd) hs) (h.reading iy hL ok hlen0 σ G H eg h0 sl _ fun v G2 H2 d W2 e2 h2 r2 z => ke.nx _ G2 H2 _ W2 e2 h2 ((sl.mono e2).set r2) z)
end
end Q
namespace Q
open PySem PySem.Spec PyProof.Rows L2 GenW LamX
open Evl (Ex)
/-- an owned list that a name holds becomes data -/
theorem wp_giveS {U : Ct} {env : Ev0} {W : Ow} {Φ : Ke} {st : List Stmt} {i : Nat} {p : Addr} {L R : Ow} {ds : List D} (he : env[i]? = some (some (.adr p))) (hW : W = L ++ (p, .l ds) :: R) (h : Wp U st (env.set i (some (.sem (LstR U.X.K U.C ds)))) (L ++ R) Φ) : Wp U st env W Φ := by
  intro σ G H eg hs sl Dn ke
  subst hW
  obtain ⟨o, ho, xs, rfl, ra⟩ := hs.at_
  have ge : Ex G (upd G p (.lst xs)) := hs.gave
  obtain ⟨v, hv, r⟩ := sl.2 i _ he
  obtain rfl : v = .ref p := r
  have sl2 := (sl.mono ge).set (i := i) (v := .ref p) (d := .sem (LstR U.X.K U.C ds)) ⟨⟨p, rfl⟩, _, Ex.refl _, p, xs, rfl, upd_same, ra.mono ge⟩
  have es : σ.set i (some (.ref p)) = σ := by
    apply List.ext_getElem?
    intro j
    by_cases e : i = j
    · subst e
      have hl := (List.getElem?_eq_some_iff.mp hv).1
      rw [List.getElem?_set_self hl, hv]
    · rw [List.getElem?_set_ne e]
  rw [es] at sl2
  exact h σ _ H (eg.trans ge) (hs.give ho) sl2 Dn (ke.mono ge)

end Q
namespace Q
open PySem PySem.Spec PyProof.Rows L2
open Evl (Ex)

open PySem PySem.Spec PyProof.Rows L2 GenW LamX
open Evl (Ex)
/-! ### an own exception over ValueError whose __init__ (self, x) says super().__init__(text), self.f = x -/
section
open PySem.W PySem.Calls
variable {prog : Program} {w : World} {A : Around} {E : Value → Shared → Prop} {h : Heap} {g : Array GenState} {d : Drawn} {t : Nat} {os : OsState}
variable {nm q : Str} {C N : Addr} {bs bm : List Value} {hdct : Bool} {sn : List Str} {sub : List Value} {ab : Bool} {col : Option Bool} {dd : Option Addr} {k0 k1 k2 k3 k5 : Option Value}
theorem call_mwV {u e t0 : Addr} {rest : List Value} {Q : Value → Shared → Prop}
    (hC : h.get? C = some (excClassObj nm q C N bs bm hdct sn sub ab col dd k0 k1 k2 k3 k5 "ValueError.__new__")) (he : h.get? e = some (HandSPX.excO C t0)) (hu : h.get? u = some (kxs_mw "ValueError.__init__" e)) (hrest : rest.length ≤ sizeLine)
    (hq : ∀ h' t1, (∀ b o, b ≠ e → h.get? b = some o → h'.get? b = some o) → h'.get? e = some (HandSPX.excO C t1) → Q .none ⟨h', g, d, t, os⟩) :
    wpAny (model prog w) A (call (.ref u) rest) Q E ⟨h, g, d, t, os⟩ := by
  refine wpAny_call (codeAny_of_tree ?_)
  show wpAny _ A.in1 (callAny (.ref u) ⟨rest, []⟩) _ _ _
  simp only [callAny]
  refine wpAny_bind (wpAny_load hu ?_)
  simp only [kxs_mw, show (Value.type "method-wrapper" == Value.type "method" || Value.type "method-wrapper" == Value.type "builtin_function_or_method" || Value.type "method-wrapper" == Value.type "method-wrapper") = true by decide, if_true]
  refine W.KFB.if_so (by decide) ?_
  refine wpAny_bind (ESX.check_bound F.excBase_ValueError hC he rfl ?_)
  refine wpAny_bind (wpAny_pure (wpAny_pure ?_))
  refine ⟨Code.quiet_builtin _ (by decide +kernel), codeAny_builtin F.excBase_ValueError.initEntry ?_⟩
  rw [Around.under_plainId F.excBase_ValueError.init.plain _]
  wp_walk
  refine hq _ h.objs.size (fun b o hb ho => ?_) ?_
  · rw [Heap.get?_update_other _ _ (Ne.symm hb)]
    exact Heap.get?_push_of_some _ ho
  · rw [Heap.get?_update_self _ (Heap.get?_push_of_some _ he) rfl]
    rfl
end
abbrev xiEnv (qual : Str) (scope : Scope) (L f : Addr) (cd : Value) (cl : Addr) : Env := newEnv scope L mainGlobals [("__class__", cl)] (qual ++ ".<locals>.") (some f) cd none builtinsNs
/-- the context of such an __init__ -/
def xiCx (CX : CXT) (P : Program) (w : World) (K : PySem.W.Frag) (mg : Str → Option Value) (base : Heap) (N : List Str) (qual : Str) (scope : Scope) (f : Addr) (cd : Value) (cl : Addr) (A : Around) (outer : List Env) (s : Shared) (H : Hp) (E : XK) : Cx where
  prog := P
  w := w
  K := K
  mg := mg
  base := base
  A := A.deeper (xiEnv qual scope s.heap.objs.size f cd cl)
  N := N
  s_0 := s
  H_0 := H
  env := xiEnv qual scope s.heap.objs.size f cd cl
  outer := outer
  stack := xiEnv qual scope s.heap.objs.size f cd cl :: outer
  ex := []
  calm := true
  fn := fun _ => false
  pn := []
  xe := fun e s' => wpAny (model P w) (A.deeper (xiEnv qual scope s.heap.objs.size f cd cl)) (leaving (xiEnv qual scope s.heap.objs.size f cd cl) e) (fun _ s'' => CX outer H s E e s'') (fun e' s'' => CX outer H s E e' s'') s'
structure XiS (a b : Str) (sc : Scope) : Prop where
  kind : sc.kind = .function
  co : sc.isCoroutine = false
  gen : sc.isGenerator = false
  nocell : ∀ y ∈ sc.names, y.2 ≠ .cell
  free : ∀ y ∈ sc.names, y.2 = .free → y.1 = "__class__"
  la : sc.names.lookup a = some .local
  lb : sc.names.lookup b = some .local
  ne : a ≠ b
  sup : sc.names.lookup ("super" : Str) = some .globalImplicit
  cls : sc.names.lookup ("__class__" : Str) = some .free
theorem xi_start {CX : CXT} {P : Program} {w : World} {K : PySem.W.Frag} {mg : Str → Option Value} {base : Heap} {a b : Str} {qual : Str} {scope : Scope} {f : Addr} {cd : Value} {cl : Addr} {A : Around} {outer : List Env} {s : Shared} {H : Hp} {E : XK} {ua ub : Value} {va vb : V} {h1 : Heap} {tk : Tok}
    (S : XiS a b scope) (hd : A.handled = none) (e0 : Env0 P w K mg base A outer s H) (hcl : ∃ v o, base.get? cl = some o ∧ o.data = .cell v) (ra : RelV va ua) (rb : RelV vb ub)
    (hns : h1.Ns s.heap.objs.size (fun x => [(b, ub), (a, ua)].lookup x)) (kp : ∀ b o, s.heap.get? b = some o → h1.get? b = some o) :
    Inv (xiCx CX P w K mg base [a, b] qual scope f cd cl A outer s H E) [] [some va, some vb] H { s with heap := h1, toks := tk } := by
  obtain ⟨v0, o0, hb0, hd0⟩ := hcl
  have noA : ∀ b' : Addr, b' ∉ (xiCx CX P w K mg base [a, b] qual scope f cd cl A outer s H E).ex := fun b' z => absurd (show b' ∈ ([] : List Addr) from z) (by simp)
  have cl1 : ∀ {y c}, ([("__class__", cl)] : List (Str × Addr)).lookup y = some c → y = "__class__" ∧ c = cl := fun {y c} e => by
    have := PySem.mem_of_lookup e
    rw [List.mem_singleton] at this
    cases this
    exact ⟨rfl, rfl⟩
  refine ⟨⟨e0.mod, S.kind, rfl, rfl, Nat.le_refl _, fun y z c a1 a2 => ?_, fun y hy => ?_, fun y c z _ => Bool.noConfusion (show false = true from z), fun _ => hd, Around.frames_deeper e0.frames, .inr ⟨rfl, rfl⟩, fun b z => absurd z (noA b), e0.bs, e0.bsz, fun b _ _ => noA b,
      fun b z => absurd z (noA b), e0.funs, e0.frf⟩,
    rfl, e0.bare, Un.kept kp, ⟨_, hns, fun i y v a1 a2 a3 => ?_⟩, fun y c e => ?_, e0.hok.fresh (Nat.le_refl _), fun y c e => ?_, fun q hq => absurd (show q ∈ ([] : List (Addr × Obj)) ++ [] from hq) (by simp), e0.hok.kept kp, rfl⟩
  · rw [(cl1 a1).1, (cl1 a2).1]
  · have hy : scope.names.lookup y = some .cell ∨ scope.names.lookup y = some .free := hy
    rcases hy with hy | hy
    · exact absurd rfl (S.nocell _ (PySem.mem_of_lookup hy))
    · have e := S.free _ (PySem.mem_of_lookup hy) rfl
      have e : y = "__class__" := e
      subst e
      exact ⟨cl, rfl⟩
  · have hne := S.ne
    match i, a1, a2 with
    | 0, a1, a2 =>
      cases a1
      cases a2
      refine ⟨ua, ra, .inl ⟨S.la, ?_⟩⟩
      have : (a == b) = false := by simpa using hne
      simp [List.lookup, this]
    | 1, a1, a2 =>
      cases a1
      cases a2
      refine ⟨ub, rb, .inl ⟨S.lb, ?_⟩⟩
      simp [List.lookup]
    | n + 2, a1, a2 => cases a1
  · obtain ⟨_, rfl⟩ := cl1 e
    exact ⟨v0, o0, kp _ _ (e0.bs _ _ hb0).1, hd0⟩
  · obtain ⟨_, rfl⟩ := cl1 e
    exact (e0.bs _ _ hb0).2

end Q
namespace Q
open PySem PySem.Spec PyProof.Rows L2
open Evl (Ex)

open PySem PySem.Spec PyProof.Rows L2 GenW LamX
open Evl (Ex)
abbrev xiFn (qual : Str) (params : Arguments) (body : List Stmt) (scope : Scope) (kV doc pm : Value) (an : Option Addr) (cdv ct : Value) (cl : Addr) : FuncData :=
  { PySem.W.fnOf "__init__" qual params body scope .none kV doc pm an cdv ct with closure := [("__class__", cl)] }
abbrev xiBody (fl a b : Str) (msg : Expr) (p0 p1 p2 p3 p4 p5 p6 p7 p8 : Pos) : List Stmt :=
  [.Expr (.Call (.Attribute (.Call (.Name "super" p0) [] [] p1) "__init__" p2) [msg] [] p3) p4, .Assign [.Attribute (.Name a p5) fl p6] (.Name b p7) p8]
/-- self.f = x has been said, nothing else is told -/
def spXi (C : Addr) (fl : Str) (Msg : V → Prop) : Sp := fun vs H Q E => ∃ (e : Addr) (y : V), vs = [.ref e, y] ∧ H e = some (exo e C none) ∧ Msg y ∧ ∀ dx, H dx = none → dx ≠ e → Q .non (upd (upd H dx (exd dx [(fl, y)])) e (exo e C (some dx)))
/-- the text's part -/
structure XiK (K : PySem.W.Frag) (P : Program) (mg : Str → Option Value) (base : Heap) (C f cl : Addr) (qual fl : Str) (scope : Scope) (fd : FuncData) : Prop where
  lk : ∃ oc od osl, K.lookup f = some ⟨oc, od, .func fd, osl⟩
  code : ∃ (cc : Addr) (ccl : Value) (cdd : Option Addr) (vs : Array Value) (ccs : Array (Option Value)) (file : Str) (tf : Tok), fd.code = .ref cc ∧ K.lookup cc = some ⟨ccl, cdd, .fields vs, ccs⟩ ∧ vs[2]? = some (.str file tf) ∧ ((P.main.file : Str) == file) = true ∧ PySem.W.codeIn K (.ref cc) qual = true
  top : (P.main.scope.names.lookup ("super" : Str)).isSome = false
  cell : ∃ a b d, K.lookup cl = some ⟨a, b, .cell (some (.ref C)), d⟩
  T : OexC K C
  sub : PySem.W.mroIn K C (.ref C) = some true
  any : PySem.W.nsIn K cStatics "thirdparty.any" = some none
  up : PySem.W.ks_superIn K C C "__init__" = some (some (.builtin "ValueError.__init__"))
  ve : PySem.W.subIn K (.ref C) (.type "ValueError") = some true
  no : PySem.W.findIn K (.ref C) fl = some none
  sup : mg "super" = none
theorem xi_ok {CX : CXT} {P : Program} {w : World} {K : PySem.W.Frag} {mg : Str → Option Value} {base : Heap} {k : Nat} {C f cl : Addr} {qual fl a b : Str} {params : Arguments} {scope : Scope} {kV doc pm cdv ct : Value} {an : Option Addr} {msg : Expr} {p0 p1 p2 p3 p4 p5 p6 p7 p8 : Pos} {ar : Arg} {Msg : V → Prop}
    (Z : XiK K P mg base C f cl qual fl scope (xiFn qual params (xiBody fl a b msg p0 p1 p2 p3 p4 p5 p6 p7 p8) scope kV doc pm an cdv ct cl)) (S : XiS a b scope) (hp : (params.posonlyargs ++ params.args).head? = some ar) (har : ar.arg = a)
    (hmsg : ∀ (A : Around) (outer : List Env) (s : Shared) (H : Hp) (E : XK), Room k (A.deeper (xiEnv qual scope s.heap.objs.size f cdv cl)) → PE (xiCx CX P w K mg base [a, b] qual scope f cdv cl A outer s H E) msg (fun σ H Q => (∃ y, σ[1]? = some (some y) ∧ Msg y) ∧ ∀ v, Q v H))
    (hev : ∀ env, ∃ pl : Sem Bool, eval (.Call (.Attribute (.Call (.Name "super" p0) [] [] p1) "__init__" p2) [msg] [] p3) env = (do
      let ov ← attributeBase (.Call (.Name "super" p0) [] [] p1) "__init__" env (eval (.Call (.Name "super" p0) [] [] p1) env)
      standAt p2.atName
      let (f, first) ← holding [ov] (getMethod ov "__init__" pl)
      callWith p3 f first (backTo p3 (starEach [msg] env)) []) := by intro env; exact ⟨_, rfl⟩)
    (hst : ∀ env, starEach [msg] env = (false, eval msg env) :: starEach [] env := by intro _; rfl) (hda : (a == ("__debug__" : Str)) = false := by decide) (hdb : (b == ("__debug__" : Str)) = false := by decide) (hca : (a == ("__classdict__" : Str)) = false := by decide) (hcb : (b == ("__classdict__" : Str)) = false := by decide) :
    FnOk P w K mg base CX (k + 1) f (xiFn qual params (xiBody fl a b msg p0 p1 p2 p3 p4 p5 p6 p7 p8) scope kV doc pm an cdv ct cl) [a, b] (spXi C fl Msg) := by
  obtain ⟨oc, od, osl, lk⟩ := Z.lk
  obtain ⟨cc, ccl, cdd, vs0, ccs, file, tf, hcode, hcc, hvs, hfile, hcd⟩ := Z.code
  have hcode : cdv = .ref cc := hcode
  subst hcode
  obtain ⟨x1, x2, x3, hcell⟩ := Z.cell
  refine ⟨fun vs H Q E ⟨_, _, h, _⟩ => by rw [h] <;> rfl, fun A outer s H args us vs Q E hr e0 hb r hsp => ?_⟩
  obtain ⟨e, y, rfl, he, hy, q⟩ := hsp
  obtain ⟨ua, ub, rfl, ra, rb⟩ : ∃ ua ub, us = [ua, ub] ∧ RelV (.ref e) ua ∧ RelV y ub := by
    cases r with
    | cons r1 rr => cases rr with
      | cons r2 rr => cases rr; exact ⟨_, _, rfl, r1, r2⟩
  obtain rfl : ua = .ref e := ra
  have KX : K.In s.heap := e0.mod.kin.keeps fun b o e => (e0.bs b o e).1
  have lim : s.heap.NoLimit := e0.mod.nolimit.keeps fun b o e => (e0.bs b o e).1
  refine codeAny_call_function hr.depth (KX _ _ lk) rfl S.co S.gen rfl (PySem.W.codeRec_of KX hcd) (hb _ _ _ _ ?_)
  refine wpAny_newFunctionEnv (fun y hy => S.nocell y hy) (fun y hy => ?_) (fun h1 hns hsb => ⟨lim.fresh _ hsb, ?_⟩) S.kind
  · have hy : y ∈ [(a, Value.ref e), (b, ub)] := hy
    rcases List.mem_cons.mp hy with rfl | hy
    · exact S.la
    · rw [List.mem_singleton.mp hy]; exact S.lb
  show codeAny _ _ (.func (xiBody fl a b msg p0 p1 p2 p3 p4 p5 p6 p7 p8) (xiEnv qual scope s.heap.objs.size f (.ref cc) cl)) _ _
  have kp : ∀ b o, s.heap.get? b = some o → h1.get? b = some o := fun b o e => hsb.extBut b o (Nat.ne_of_lt (Heap.lt_size e)) (Heap.get?_push_of_some _ e)
  have I0 : Inv (xiCx CX P w K mg base [a, b] qual scope f (.ref cc) cl A outer s H E) [] [some (.ref e), some y] H { s with heap := h1, toks := s.toks + ([a, b].zip [Value.ref e, ub]).length } :=
    xi_start S hr.hd e0 ⟨_, _, e0.mod.kin _ _ hcell, rfl⟩ rfl rb hns kp
  have hroom := hr.deeper (xiEnv qual scope s.heap.objs.size f (.ref cc) cl)
  have pm := hmsg A outer s H E hroom
  have KX1 : K.In h1 := KX.keeps kp
  obtain ⟨t1, hoe⟩ := exo_at I0.hok he
  obtain ⟨nm, q2, N, bs, bm, sn, sub, ab, col, dd, k0, k1, k2, k3, k5, hC, hbm⟩ := Z.T.cls
  have hxC : e ≠ C := fun z => by
    have := KX1 _ _ hC
    rw [← z, hoe] at this
    cases this
  obtain ⟨pl, hev⟩ := hev (xiEnv qual scope s.heap.objs.size f (.ref cc) cl)
  refine ks_codeAny_funcAt ?_
  refine ks_wpAt_execs_cons (ks_wpAt_Expr_any (ks_wpAt_MethodCall (ks_wpAt_super_base S.sup S.cls (by decide) rfl (KX1 _ _ lk) rfl hp rfl (KX1 _ _ hcc) rfl hvs hfile Z.top ?_) hev) (by unfold interactive; simp [xiEnv, newEnv, S.kind]))
  obtain ⟨mb, hb1, hb2⟩ := I0.mod.blt
  refine PySem.W.ks_loadName_global S.kind S.sup (Calls.loadGlobal_builtin (by exact I0.mod.glob.keeps I0.bk) Z.sup (by exact hb1.keeps I0.bk) ((hb2 "super" (by decide)).trans (by decide +kernel)) ⟨rfl, ?_⟩)
  refine wpAny_loadName_free S.kind S.cls rfl ⟨_, KX1 _ _ hcell, rfl⟩ ?_
  have hva : (fun x => ([a, b].zip [Value.ref e, ub]).reverse.lookup x) ar.arg = some (Value.ref e) := by
    rw [har]
    show [(b, ub), (a, Value.ref e)].lookup a = some (Value.ref e)
    have : (a == b) = false := by simpa using S.ne
    simp [List.lookup, this]
  refine wpAny_loadName_local S.kind (by rw [har]; exact S.la) hns hva ?_
  refine ks_wpAny_isType_cls (KX1 _ _ hC) rfl ⟨rfl, ?_⟩
  refine ks_wpAny_call_super (KX1 _ _ hC) rfl hoe rfl (fun c z => nomatch z) (PySem.W.looks_mroIn KX1 Z.sub) fun h2 hso k2 => ?_
  have I2 := I0.un (t' := s.toks + ([a, b].zip [Value.ref e, ub]).length) (Un.kept k2) (I0.hok.kept k2)
  have KX2 : K.In h2 := KX1.keeps k2
  have hoe2 := k2 _ _ hoe
  have hcl : PySem.W.clsIn K C = some { name := nm, bases := bs, mro := .ref C :: bm, ns := N, qualname := q2, hasDict := true, slotNames := sn, subclasses := sub, abstract := ab, collection := col, hasDel := false } := by unfold PySem.W.clsIn; rw [hC] <;> rfl
  have up := Z.up
  unfold PySem.W.ks_superIn at up
  rw [hcl] at up
  have It : PySem.W.InstAt h2 e _ C none := ⟨hoe2, rfl, rfl, trivial⟩
  refine PySem.W.kxs_getMethod PySem.W.kxs_ValueError hso (PySem.W.looks_opaque KX2 Z.any) (l₀ := .ref C :: bm) ?_ rfl KX2 up (It.type.andThen (PySem.W.looks_subIn KX2 Z.ve)) hxC (by decide) ?_
  · exact fun A Q E s k q => wpAny_bind ((PySem.W.looks_clsIn KX2 hcl) A _ E s k (wpAny_pure q))
  have k3' : ∀ b o, h2.get? b = some o → (h2.push (PySem.W.kxs_mw "ValueError.__init__" e)).get? b = some o := fun b o z => Heap.get?_push_of_some _ z
  have I3 := I2.un (t' := s.toks + ([a, b].zip [Value.ref e, ub]).length + 1) (Un.kept k3') (I2.hok.kept k3')
  have fresh : H h2.objs.size = none := I2.hok.fresh (Nat.le_refl _)
  have hu : (h2.push (PySem.W.kxs_mw "ValueError.__init__" e)).get? h2.objs.size = some (PySem.W.kxs_mw "ValueError.__init__" e) := Heap.get?_push_at rfl rfl
  have I4 := I3.pinned (fp := [h2.objs.size]) (fun b hb => by rw [List.mem_singleton.mp hb]; exact I2.fpOk (Nat.le_refl _) fresh) (fun b hb => by rw [List.mem_singleton.mp hb]; exact ⟨_, hu, fun v z => nomatch z⟩)
  have hplain : (backTo p3 (starEach [msg] (xiEnv qual scope s.heap.objs.size f (.ref cc) cl))).any (·.1) = false := by rw [hst]; rfl
  show wpAny _ _ (callWith p3 (Value.ref h2.objs.size) [] (backTo p3 (starEach [msg] (xiEnv qual scope s.heap.objs.size f (.ref cc) cl))) []) _ _ _
  refine PySem.W.kxs_callWith (i := "ValueError.__init__") (x := e) hplain ?_
  have pa := (pa_cons pm pa_nil (hst _)).run p3 _ _ _ H (fun vs H1 => (∃ v, vs = [v]) ∧ H1 = H) I4 ⟨⟨y, rfl, hy⟩, fun v => ⟨⟨v, rfl⟩, rfl⟩⟩
  rw [hst] at pa ⊢
  refine Calls.evalArgs_plain (thn pa fun us s5 ⟨vs5, H5, I5, rv5, ⟨v5, ev5⟩, eH⟩ => ?_)
  subst ev5 eH
  have hmw := (I5.pin (h2.objs.size, PySem.W.kxs_mw "ValueError.__init__" e) (List.mem_append_right _ (List.mem_append_right _ (mem_pinsAt (List.mem_singleton.mpr rfl) hu)))).1
  refine ⟨hmw, ?_⟩
  have I6 := I5.unpinned (pins := [])
  obtain ⟨t5, hoe5⟩ := exo_at I6.hok he
  obtain ⟨h5, g5, d5, tk5, os5⟩ := s5
  refine call_mwV (I6.kIn _ _ hC) hoe5 hmw (by
    obtain ⟨u5, rfl, _⟩ := vals1 rv5
    rw [sizeLine_eq]; show 1 ≤ 16777216; omega) fun h6 t6 k6 hx6 => ?_
  have J0 := I6.write (t' := tk5) (x := e) (e := e) (o := exo e C none) (by rw [he]; exact True.intro) (.inl rfl) k6 ⟨_, hx6⟩ (exo_ok hx6)
  have eu : upd H5 e (exo e C none) = H5 := by
    funext b
    by_cases hb : b = e
    · rw [hb, upd_same, he]
    · rw [upd_ne hb]
  rw [eu] at J0
  show _root_.PySem.wpAt _ _ _ (execs [.Assign [.Attribute (.Name a p5) fl p6] (.Name b p7) p8] (xiEnv qual scope s.heap.objs.size f (.ref cc) cl)) _ _ _
  refine _root_.PySem.wpAt_of_wpAny ?_
  have st := (pss_one (ps_ost (X := xiCx CX P w K mg base [a, b] qual scope f (.ref cc) cl A outer s H5 E) (f := fl) (p' := p6) (pos := p8) (pe_var (pos := p5) (i := 0) (x := a) rfl (Or.inl S.la) hda hca) (pe_var (pos := p7) (i := 1) (x := b) rfl (Or.inl S.lb) hdb hcb))).run [] _ _ H5 { nx := fun _ H' => Q .non H', rt := Q } J0 ⟨y, rfl, .ref e, rfl, e, C, rfl, Z.T, Z.no, .inl ⟨he, fun dx n ne => q dx n ne⟩⟩
  refine wpAny_mono st (fun fl s' hs => ?_) fun e s' hs => hs
  have fin : ∀ {σ' : L2.St} {H' : Hp} {v : V} {u : Value}, Inv (xiCx CX P w K mg base [a, b] qual scope f (.ref cc) cl A outer s H5 E) [] σ' H' s' → RelV v u → Q v H' → CE outer P w H5 s Q u s' :=
    fun {σ' H' v u} J rv q => ⟨v, H', J.os, J.bare, J.base, J.hok, rv, q⟩
  cases fl with
  | ret u =>
    obtain ⟨v, σ', H', J, rv, q⟩ := hs
    exact fin J rv q
  | next =>
    obtain ⟨σ', H', J, q⟩ := hs
    exact fin (v := V.non) (u := Value.none) J rfl q
  | brk =>
    obtain ⟨_, _, _, q⟩ := hs
    exact False.elim q
  | cont =>
    obtain ⟨_, _, _, q⟩ := hs
    exact False.elim q

end Q
namespace Q
open PySem PySem.Spec PyProof.Rows L2
open Evl (Ex)

open PySem PySem.Spec PyProof.Rows L2 GenW LamX
open Evl (Ex)
/-! ### raise X(e), X's own __init__ keeping e in a field -/
section
variable {U : Ct} {env : Ev0} {W : Ow} {Φ : Ke} {e : Expr} {pos p p2 : Pos}
theorem w_raiseI (ok : U.Ok) {x fl : Str} {Ce fI : Addr} {fd : FuncData} {ps : List Str} {k : Nat} {Msg : V → Prop} (T : OexC U.X.K Ce) (iC : PySem.W.findIn U.X.K (.ref Ce) "__init__" = some (some (.ref fI))) (tI : PySem.W.typeIn U.X.K (.ref fI) = some (.type "function"))
    (F1 : FnOk U.X.prog U.X.w U.X.K U.X.mg U.X.base C8.CX0 k fI fd ps (spXi Ce fl Msg)) (hk : k + 1 ≤ U.k) (hb : L2.Binds U.X.K fd ps []) (hg : Gl U.X x) (hm : U.X.mg x = some (.ref Ce))
    (h : Ev U e env W fun d W1 => ∀ G v, U.R G v d → Msg v ∧ ∃ xc : Xc, (∀ H dd, H dd = some (.xd [(fl, v)]) → XRep U.cN U.cL U.cA U.cT xc (.ref Ce) (some dd) H) ∧ U.Ξ xc W1)
    (hs : starEach [e] U.X.env = (false, eval e U.X.env) :: starEach [] U.X.env := by rfl) (hdb : (x == ("__debug__" : Str)) = false := by decide) : Wp1 U (.Raise (some (.Call (.Name x p) [e] [] p2)) none pos) env W Φ := by
  refine fun σ G H eg h0 sl Dn ke => SemS.of (L2.ps_raise ok.calm ok.tk (pmk_oex (dvs := []) T iC tI F1 (ok.room.mono hk) hb .nil (fun _ _ _ _ _ _ _ z => z.elim) hg hm (pa_cons pe_sem pa_nil hs) hdb hs (by rfl))) ?_
  refine h σ G H eg h0 sl _ fun v G1 H1 d W1 e1 h1 r1 z1 => ?_
  obtain ⟨hM, xc, hx, hΞ⟩ := z1 G1 v r1
  refine ⟨by show 1 ≤ 1000; omega, fun a ha => ?_⟩
  refine ⟨a, v, rfl, upd_same, hM, fun dx hdx hne => ?_⟩
  have hd1 : H1 dx = none := by rw [upd_ne hne] at hdx; exact hdx
  refine ⟨rfl, dx, [(fl, v)], upd_same, by rw [upd_ne hne, upd_same], hd1, ?_⟩
  have eH : upd (del (upd (upd (upd H1 a (exo a Ce none)) dx (exd dx [(fl, v)])) a (exo a Ce (some dx))) a) dx (.xd [(fl, v)]) = upd H1 dx (.xd [(fl, v)]) := by
    funext b
    by_cases hb : b = dx
    · rw [hb, upd_same, upd_same]
    · rw [upd_ne hb, upd_ne hb]
      by_cases hba : b = a
      · rw [hba, del_same, ha]
      · rw [del_ne hba, upd_ne hba, upd_ne hb, upd_ne hba]
  rw [eH]
  have hn := h1.new (o := .xd [(fl, v)]) hd1
  exact ok.ex xc _ _ _ _ W1 ((eg.trans e1).trans (h1.ex hd1)) hn (hx _ _ upd_same) hΞ
end
end Q
namespace Q
open PySem PySem.Spec PyProof.Rows L2 GenW LamX
open Evl (Ex)
/-- InvalidTimetable, as the text has it -/
structure RaI (L : Pl) (k : Nat) : Prop where
  T : OexC L.K L.cT
  ex : ∃ (fI : Addr) (fd : FuncData) (ps : List Str), PySem.W.findIn L.K (.ref L.cT) "__init__" = some (some (.ref fI)) ∧ PySem.W.typeIn L.K (.ref fI) = some (.type "function") ∧ FnOk L.P L.w L.K L.mg L.base C8.CX0 k fI fd ps (spXi L.cT "index" fun v => ∃ i : Int, v = .int i ∧ 0 ≤ i ∧ i < 100) ∧ L2.Binds L.K fd ps []
  m : L.mg "InvalidTimetable" = some (.ref L.cT)
theorem w_raiseT {L : Pl} {U : Ct} {env : Ev0} {W : Ow} {Φ : Ke} {e : Expr} {pos p p2 : Pos} {k : Nat} (hL : L.Has U) (ok : U.Ok) (R : RaI L k) (hk : k + 1 ≤ U.k) (hg : Gl U.X "InvalidTimetable")
    (h : Ev U e env W fun d W1 => ∃ i : Int, d = .p (.int i) ∧ 0 ≤ i ∧ i < 100 ∧ U.Ξ (.tab i) W1) (hs : starEach [e] U.X.env = (false, eval e U.X.env) :: starEach [] U.X.env := by rfl) : Wp1 U (.Raise (some (.Call (.Name "InvalidTimetable" p) [e] [] p2)) none pos) env W Φ := by
  obtain ⟨fI, fd, ps, iC, tI, F1, hb⟩ := R.ex
  refine w_raiseI (Ce := L.cT) (fl := "index") ok (by rw [hL.K]; exact R.T) (by rw [hL.K]; exact iC) (by rw [hL.K]; exact tI) (by rw [hL.P, hL.w, hL.K, hL.mg, hL.base]; exact F1) hk (by rw [hL.K]; exact hb) hg (by rw [hL.mg]; exact R.m) (h.imp fun d W1 z => ?_) hs
  obtain ⟨i, rfl, h0, h1, k⟩ := z
  intro G v r
  cases (show Rp G v (.int i) from r)
  exact ⟨⟨i, rfl, h0, h1⟩, .tab i, fun H dd e => ⟨by rw [hL.cT], dd, rfl, e⟩, k⟩

end Q
namespace Q
open PySem PySem.Spec PyProof.Rows L2
open Evl (Ex)

open PySem PySem.Spec PyProof.Rows L2 GenW LamX
open Evl (Ex)
/-! ### try: body, except X: suite, where the suite asks nothing of the names -/
/-- what the body may raise -/
def xiTry (U : Ct) (exm : Xc → Bool) (suite : List Stmt) (Φ : Ke) : Xc → Ow → Prop := fun xc W1 =>
  (exm xc = true → ∀ (a : Addr) (oe : Obj) (pn : List (Addr × Obj)) (G : Hp), Wp { U with X := U.X.suite a ((a, oe) :: pn), G := G } suite (List.replicate U.X.N.length none) W1 Φ) ∧ (exm xc = false → U.Ξ xc W1)
def eTry (U : Ct) (G : Hp) (Ξ' : Xc → Ow → Prop) : XK := fun cls d H' => ∃ xc : Xc, XRep U.cN U.cL U.cA U.cT xc cls d H' ∧ ∃ G2 W2, Ex G G2 ∧ Hs U.X.K U.C U.T G2 W2 H' ∧ Ξ' xc W2
abbrev trU (U : Ct) (pn : List (Addr × Obj)) (xe : Value → Shared → Prop) (G : Hp) (Ξ' : Xc → Ow → Prop) : Ct := { U with X := U.X.tr pn xe, G := G, Ξ := Ξ', E := eTry U G Ξ' }
theorem Pl.Has.tr {L : Pl} {U : Ct} (h : L.Has U) {pn : List (Addr × Obj)} {xe : Value → Shared → Prop} {G : Hp} {Ξ' : Xc → Ow → Prop} : L.Has (trU U pn xe G Ξ') := ⟨h.P, h.w, h.K, h.mg, h.base, h.C, h.cN, h.cL, h.cA, h.cT⟩
theorem w_tryC {U : Ct} {env : Ev0} {W : Ow} {Φ : Ke} {x : Str} {c : Value} {body suite : List Stmt} {b0 : Stmt} {np pos pos' : Pos} (ok : U.Ok) (exm : Xc → Bool) (hs : U.X.stack = U.X.env :: U.X.outer) (hf : U.X.env.frame = some U.X.env.locals) (hc : Names U.X x c)
    (hx : ∀ xc cls d H, XRep U.cN U.cL U.cA U.cT xc cls d H → PySem.W.exmOne U.X.K cls c = some (exm xc))
    (h : ∀ (pn : List (Addr × Obj)) (xe : Value → Shared → Prop) (G : Hp), (trU U pn xe G (xiTry U exm (b0 :: suite) Φ)).Ok → Wp (trU U pn xe G (xiTry U exm (b0 :: suite) Φ)) body env W Φ) :
    Wp1 U (.Try body [.ExceptHandler (some (.Name x np)) none (b0 :: suite) pos'] [] [] pos) env W Φ := by
  intro σ G H eg h0 sl Dn ke
  refine SemS.of (ps_try_only (X := U.X) (Wout := fun cls d _ H => U.E cls d H) (tb := fun W' D σ' H' => ∀ (pn : List (Addr × Obj)) (xe : Value → Shared → Prop), Takes (U.X.tr pn xe) W' → PassesOwn (model U.X.prog U.X.w) U.X.A U.X.env xe → SemB (U.X.tr pn xe) body D σ' H')
    (ts := fun a cls d D σ' H' => ∀ (oe : Obj) (pn : List (Addr × Obj)), SemB (U.X.suite a ((a, oe) :: pn)) (b0 :: suite) D σ' H') hs hf hc ok.tk
    (fun W' pn xe tk po => ⟨fun pins s σ' H' D I z => z pn xe tk po pins s I⟩) (fun a oe cls d pn hz hfl => ⟨fun pins s σ' H' D I z => z oe pn pins s I⟩)) ?_
  intro pn xe tk po
  have okT : (trU U pn xe G (xiTry U exm (b0 :: suite) Φ)).Ok := {
    calm := ok.calm
    room := ok.room
    nd := ok.nd
    po := po
    tk := tk.imp fun cls d σ' H' he => by
      obtain ⟨xc, xr, G2, W2, e2, h2, y1, y2⟩ := he
      refine ⟨exm xc, hx xc cls d H' xr, fun hb a ha oe pn2 => ?_, fun hb => ok.ex xc cls d G2 H' W2 (eg.trans e2) h2 xr (y2 hb)⟩
      intro pins s I
      have len : σ'.length = U.X.N.length := I.len
      exact y1 hb a oe pn2 G2 σ' G2 H' (Ex.refl _) h2 ⟨by rw [len, List.length_replicate], fun i d q => by rw [List.getElem?_replicate] at q; split at q <;> cases q⟩ Dn (let k := ke.mono e2; ⟨k.nx, k.rt, k.bk, k.ct⟩) pins s I
    ex := fun xc cls dd G2 H2 W2 e2 h2 xr z => ⟨xc, xr, G2, W2, e2, h2, z⟩ }
  exact h pn xe G okT σ G H (Ex.refl _) h0 sl Dn ⟨ke.nx, ke.rt, ke.bk, ke.ct⟩

end Q
namespace Q
open PySem PySem.Spec PyProof.Rows L2
open Evl (Ex)

open PySem PySem.Spec PyProof.Rows L2 GenW LamX
open Evl (Ex)
theorem flat_intsV : ∀ ns : List Int, (ns.map V.int).all flatV = true
  | [] => rfl
  | _ :: ns => by rw [List.map_cons, List.all_cons, flat_intsV ns] <;> rfl
theorem cnt_intsV (k : Int) : ∀ ns : List Int, (ns.map V.int).countP (fun z => eqV z (.int k)) = ns.count k
  | [] => rfl
  | n :: ns => by
    rw [List.map_cons, List.countP_cons, cnt_intsV k ns, List.count_cons]
    have e : eqV (.int n) (.int k) = (n == k) := rfl
    rw [e]
section
variable {U : Ct} {env : Ev0} {W : Ow} {Ψ : D → Ow → Prop} {Φ : Ke} {e e2 a b c o v : Expr} {pos p0 p1 pa pc : Pos} {es : List Expr}
/-- o.count(e), o a list of whole numbers -/
theorem ev_countI (h : Ev U o env W fun d1 W1 => (∃ ns : List Int, d1 = .p (.list (ns.map .int))) ∧ Ev U e env W1 fun d2 W2 => ∃ (ns : List Int) (k : Int), d1 = .p (.list (ns.map .int)) ∧ d2 = .p (.int k) ∧ Ψ (.p (.int (ns.count k : Nat))) W2)
    (hbase : attributeBase o "count" U.X.env (eval o U.X.env) = eval o U.X.env := by rfl)
    (hfew : ((backTo pc (starEach [e] U.X.env)).all (fun x => !x.1) && (backToKw pc (keywordEach [] U.X.env)).all (fun x => x.1.isSome)
      && decide (([e] : List Expr).length + ([] : List Keyword).length + (if ([] : List Keyword).isEmpty then 0 else 1) < 30)) = true := by rfl)
    (hline : (pa.endLine == pc.line) = true := by rfl) (hst : starEach [e] U.X.env = (false, eval e U.X.env) :: starEach [] U.X.env := by rfl) : Ev U (.Call (.Attribute o "count" pa) [e] [] pc) env W Ψ :=
  .here (pe_bm PySem.F.plainAttrs_list PySem.F.slot_list_count PySem.F.type_list_count mt_lcountF pe_sem (pa_cons pe_sem pa_nil hst) hbase hfew hline hst rfl) fun σ G H eg h0 sl Q q => by
    refine h σ G H eg h0 sl _ fun x G1 H1 d1 W1 e1 h1 r1 z1 => ?_
    obtain ⟨⟨ns, rfl⟩, z1⟩ := z1
    cases r1 with
    | @lst p xs _ hp ra =>
      have hx := ra.ints
      subst hx
      refine ⟨.inl ⟨rfl, _, SqL.of (h1.g _ _ hp)⟩, ?_⟩
      refine z1 σ G1 H1 (eg.trans e1) h1 (sl.mono e1) _ fun y G2 H2 d2 W2 e2 h2 r2 z2 => ?_
      obtain ⟨ns', k, en, rfl, kk⟩ := z2
      have en : ns.map PyData.int = ns'.map PyData.int := by injection en with en; injection en
      have en' : ns = ns' := by
        have inj : Function.Injective PyData.int := fun a b h => by injection h
        exact (List.map_inj_right (fun a b h => inj h)).mp en
      subst en'
      cases (show Rp _ _ _ from r2)
      refine ⟨p, _, .int k, rfl, rfl, SqL.of (h2.g _ _ (e2 _ _ hp)), rfl, flat_intsV ns, ?_⟩
      rw [cnt_intsV]
      exact q _ G2 H2 (.p (.int _)) W2 (e1.trans e2) h2 (Rp.int _) kk
/-- d.get(x, y), all whole numbers -/
theorem ev_dgetI (ok : U.Ok) (h : Ev U o env W fun d1 W1 => (∃ f, d1 = .dct f) ∧ Ev U e env W1 fun d2 W2 => ∃ f x, d1 = .dct f ∧ d2 = .p (.int x) ∧ Ev U e2 env W2 fun d3 W3 => ∃ z : Int, d3 = .p (.int z) ∧ Ψ (.p (.int ((f x).getD z))) W3)
    (m1 : attributeBase o "get" U.X.env (eval o U.X.env) = eval o U.X.env := by rfl)
    (m2 : ((backTo pos (starEach [e, e2] U.X.env)).all (fun x => !x.1) && (backToKw pos (keywordEach [] U.X.env)).all (fun x => x.1.isSome) && decide (([e, e2] : List Expr).length + ([] : List Keyword).length + (if ([] : List Keyword).isEmpty then 0 else 1) < 30)) = true := by rfl)
    (m3 : (pa.endLine == pos.line) = true := by rfl) (m4 : backTo pos (starEach [e, e2] U.X.env) = [(false, eval e U.X.env), (false, eval e2 U.X.env)] := by rfl) : Ev U (.Call (.Attribute o "get" pa) [e, e2] [] pos) env W Ψ :=
  .here (pe_dget2 (unit1 ok) pe_sem pe_sem pe_sem ⟨m1, m2, m3, m4⟩) fun σ G H eg h0 sl Q q => h σ G H eg h0 sl _ fun x1 G1 H1 d1 W1 e1 h1 r1 z1 => by
    obtain ⟨⟨f, rfl⟩, z1⟩ := z1
    obtain ⟨a, kvs, rfl, ha, hf⟩ := r1
    refine ⟨a, rfl, .inl ⟨kvs, .inl (h1.g _ _ ha)⟩, z1 σ G1 H1 (eg.trans e1) h1 (sl.mono e1) _ fun x2 G2 H2 d2 W2 e2 h2 r2 z2 => ?_⟩
    obtain ⟨f', x, hff, rfl, z2⟩ := z2
    cases hff
    cases (show Rp _ _ _ from r2)
    refine z2 σ G2 H2 ((eg.trans e1).trans e2) h2 (sl.mono (e1.trans e2)) _ fun x3 G3 H3 d3 W3 e3 h3 r3 z3 => ?_
    obtain ⟨z, rfl, k⟩ := z3
    cases (show Rp _ _ _ from r3)
    refine ⟨_, DGet.k (k := .inl x) (h3.g _ _ (e3 _ _ (e2 _ _ ha))), ?_⟩
    rw [hf x]
    have e12 := (e1.trans e2).trans e3
    cases hx : f x with
    | none => rw [hx] at k; exact q (.int z) G3 H3 (.p (.int z)) W3 e12 h3 (show Rp _ _ _ from Rp.int z) k
    | some y => rw [hx] at k; exact q (.int y) G3 H3 (.p (.int y)) W3 e12 h3 (show Rp _ _ _ from Rp.int y) k
end

end Q
namespace Q
open PySem PySem.Spec PyProof.Rows L2
open Evl (Ex)

open PySem PySem.Spec PyProof.Rows L2 GenW LamX
open Evl (Ex)
def tMakeP (X : Cx) (C : Addr) (ta : TA) : TE := fun σ H Q => ta σ H fun vs H1 => ∀ (pins : List (Addr × Obj)) (s : Shared) (us : List Value), Inv X pins σ H1 s → Vals vs us → wpAny (model X.prog X.w) X.A (call (.ref C) us) (EP X pins σ Q) X.xe s
theorem pe_makeP {X : Cx} {C : Addr} {x : Str} {e : Expr} {es : List Expr} {ta : TA} {p pos : Pos} (hg : Gl X x) (hm : X.mg x = some (.ref C)) (kC : PySem.W.keepIn X.K (.ref C) = true) (ha : PA X (e :: es) ta)
    (hdb : (x == ("__debug__" : Str)) = false := by decide) (he : starEach (e :: es) X.env = (false, eval e X.env) :: starEach es X.env := by rfl) (hpl : (backTo pos (starEach es X.env)).any (·.1) = false := by rfl) :
    PE X (.Call (.Name x p) (e :: es) [] pos) (tMakeP X C ta) := by
  refine ⟨fun pins s σ H Q I h => ?_⟩
  refine wpAny_Call_Name_kw (ld_glob I hg hm ?_ hdb)
  refine PySem.W.callWith_K (h₀ := X.base) I.ok.mod.kin kC (thn (ha.run pos pins s σ H _ I h) fun us s1 ⟨vs, H1, I1, r1, q1⟩ => ⟨I1.kIn, ?_⟩) he hpl
  show wpAny _ _ (call (.ref C) us) _ _ _
  exact q1 pins s1 us I1 r1
/-- the class called with its rows, one by one -/
theorem ev_make {L : Pl} {U : Ct} {env : Ev0} {W : Ow} {Ψ : D → Ow → Prop} {Cn : Con} {k : Nat} {f : Addr} {x : Str} {e : Expr} {es : List Expr} {p pos : Pos} (hL : L.Has U) (ok : U.Ok) (M : Mk U.X.K U.C f) (F : FnR L.P L.w L.K L.mg L.base (L2.CX L.P L.w) k f (starSp (spG L Cn))) (hk : k + 1 ≤ U.k) (hg : Gl U.X x) (hm : U.X.mg x = some (.ref U.C))
    (h : EvA U (e :: es) env W fun ds W2 => ∃ pds : List PyData, ds = pds.map .p ∧ pds.length ≤ 1000 ∧ ∀ x dx : Addr, Cn [.adr x, .p (.tuple pds)] ((x, .ins U.C dx []) :: W2)
      (fun d W3 => d = .p .none ∧ ∃ rows W4, W3 = (x, .ins U.C dx [("_rows", .p (.tuple (rows.map rowD)))]) :: W4 ∧ Ψ (.tt rows) W4) fun xc W3 => ∃ W4, W3 = (x, .ins U.C dx []) :: W4 ∧ U.Ξ xc W4)
    (hdb : (x == ("__debug__" : Str)) = false := by decide) (he : starEach (e :: es) U.X.env = (false, eval e U.X.env) :: starEach es U.X.env := by rfl) (hpl : (backTo pos (starEach es U.X.env)).any (·.1) = false := by rfl) : Ev U (.Call (.Name x p) (e :: es) [] pos) env W Ψ :=
  .here (pe_makeP hg hm M.kp pa_sem hdb he hpl) fun σ G H eg h0 sl Q q => h σ G H eg h0 sl _ fun vs G2 H2 ds W2 e2 h2 r2 z2 => by
    obtain ⟨pds, rfl, hz, kk⟩ := z2
    exact fun pins s us I r => make_ok hL ok M F hk (eg.trans e2) h2 (RepAll.data r2) hz kk (fun v G3 H3 d3 W3 e3 h3 r3 z3 => q v G3 H3 d3 W3 (e2.trans e3) h3 r3 z3) I r

end Q
namespace Q
open PySem PySem.Spec PyProof.Rows L2
open Evl (Ex)

open PySem PySem.Spec PyProof.Rows L2 GenW LamX
open Evl (Ex)
/-! ### isinstance of a caught exception that has a dict -/
section
open PySem.W PySem.Calls
variable {prog : Program} {w : World} {A : Around} {E : Value → Shared → Prop} {s : Shared} {K : PySem.W.Frag} {x D : Addr} {ox od : Obj}
/-- e.__class__, asked by isinstance -/
theorem xd_class (Z : ExcC K D) {Q : Option Value → Shared → Prop} (KX : K.In s.heap) (I : PySem.W.InstAt s.heap x ox D (some od)) (q : Q (some (.ref D)) { s with toks := s.toks + 1 }) : wpAny (model prog w) A (getAttr? (.ref x) "__class__") Q E s := by
  have hs : (PySem.W.clsIn K D).isSome = true := by obtain ⟨_, hc, _⟩ := PySem.W.any_some Z.hd; rw [hc]; rfl
  have hf := PySem.W.findObj_data (od := od) hs Z.ha Z.hn Z.ht
  obtain ⟨hp, g, d, t, os⟩ := s
  have la := looks_findIn (M := model prog w) KX Z.hg; have lb := looks_findIn (M := model prog w) KX Z.hk
  have lc := looks_find (M := model prog w) KX I hf; have lt := I.type (M := model prog w)
  have ls : Looks (model prog w) hp (isInstance (.ref x) (.type "BaseException")) true := lt.andThen (looks_subIn KX Z.hs)
  have ne2 : (Value.builtin "BaseException.__getattribute__" == Value.builtin "object.__getattribute__") = false := by decide
  have c0 : (false && onTheHeap (Value.builtin "BaseException.__getattribute__")) = false := rfl
  have c1 : (onTheHeap (Value.ref D) && Value.builtin "BaseException.__getattribute__" == Value.builtin "object.__getattribute__") = false := by
    rw [ne2]; rfl
  unfold getAttr? getAttrBy? getAttrBy
  refine wpAny_bind (wpAny_mkText (wpAny_bind (wpAny_attempt (wpAny_holding (wpAny_bind (lt.at (wpAny_bind (la.at ?_))))))))
  show wpAny _ _ (if (onTheHeap (Value.ref D) && Value.builtin "BaseException.__getattribute__" == Value.builtin "object.__getattribute__") = true then _ else _) _ _ _
  rw [c1, if_neg Bool.false_ne_true]; unfold getAttrByItsOwn hookBefore; refine wpAny_bind ?_
  rw [if_pos (show onTheHeap (Value.ref D) = true from rfl)]; refine lb.at (wpAny_bind (wpAny_attempt (wpAny_holding ?_)))
  unfold callGetattribute; rw [c0, if_neg Bool.false_ne_true]; unfold boundAndCalled; rw [PySem.F.excAttr_ValueError.ga.bind (.ref x)]
  refine wpAny_bind (wpAny_pure ?_)
  show wpAny _ _ (call (.builtin "BaseException.__getattribute__") [.ref x, .str "__class__" t]) _ _ _
  refine wpAny_call (codeAny_call_builtin PySem.F.excAttr_ValueError.ga.plain PySem.F.entry_bexc_ga (@check_slot (model prog w) _ _ ⟨hp, g, d, t + 1, os⟩ "BaseException.__getattribute__" "BaseException" "__getattribute__" (.ref x) [.str "__class__" t] [] _ (by decide +kernel) (by decide +kernel) ls (PySem.F.args_bexc_ga (.ref x) (.str "__class__" t)) ?_))
  unfold Builtin.«object.__getattribute__»
  refine wpAny_bind (wpAny_of_eq (a := ((Value.ref x : Value), [Value.str "__class__" t])) (by first | rfl | (simp only [slotArgs]; rfl)) (wpAny_bind (wpAny_pure (wpAny_bind (lt.at (wpAny_bind (lc.at ?_)))))))
  show wpAny _ _ (holding [Value.builtin "object.__class__"] (call (.builtin "getset_descriptor.__get__") [.builtin "object.__class__", .ref x, .ref D]) >>= ret) _ _ _
  refine wpAny_bind (wpAny_holding (wpAny_call (class_get (s := ⟨hp, g, d, t + 1, os⟩) (ox := ox) (od := some od) KX I Z.hm (wpAny_pure ?_))))
  show wpAny _ _ (handedOut (.ref D)) _ _ _
  rw [handedOut_of (v := .ref D) rfl]
  first
    | exact wpAny_pure (wpAny_pure q)
    | exact wpAny_pure q
    | exact wpAny_pure (wpAny_bind (wpAny_pure (wpAny_pure q)))
theorem xd_kit (Z : ExcC K D) : PySem.W.KitX K (.ref x) (.ref D) (fun h => PySem.W.InstAt h x ox D (some od)) where
  ty := fun _ _ _ I => I.type
  it := fun _ _ KX _ => by
    obtain ⟨_, hc, _⟩ := PySem.W.any_some Z.hd
    unfold PySem.W.clsIn at hc
    split at hc
    · rename_i ho
      exact fun A' Q' E' s' k q => by
        unfold isType loadHead
        exact wpAny_bind (wpAny_loadPart (k _ _ (KX _ _ ho)) (wpAny_pure q))
    · cases hc
  ne := (PySem.W.handS_kitx_exc (x := x) (ox := ox) Z.hg Z.hk Z.hs Z.hd Z.ha Z.hn Z.ht Z.hm).ne
  ca := fun KX I k => xd_class Z KX I k
end
def rIsD (K : PySem.W.Frag) (D a dd : Addr) : List V → Hp → VK → Prop := fun xs H Q => ∃ (c : V) (cv : Value) (b : Bool) (fs : List (Str × V)), xs = [.ref a, c] ∧ H dd = some (.xd fs) ∧ (∀ u, RelV c u → u = cv) ∧ PySem.W.kitOne K (.ref D) cv = some b ∧ Q (.bl b) H
theorem call_isD {X : Cx} {a D dd : Addr} {oe : Obj} {pn : List (Addr × Obj)} (C : ExcC X.K D) (hz : Zc (.ref D) (some dd) oe) (hf : ∃ vs, oe.data = .fields vs) : CallR (X.suite a ((a, oe) :: pn)) (.builtin "isinstance") (rIsD X.K D a dd) := by
  intro pins s σ H xs us Q I r h
  obtain ⟨c, cv, b, fs, rfl, ea, hcv, e, q⟩ := h
  cases r with
  | cons rx rr =>
    cases rr with
    | cons rt rr =>
      cases rr
      cases rx
      have ec := hcv _ rt
      subst ec
      obtain ⟨hget, _⟩ := I.pin (a, oe) (List.mem_append_left _ List.mem_cons_self)
      obtain ⟨vs, hv⟩ := hf
      have hx : ObjOk X.prog X.w H s.heap dd (.xd fs) := I.hok dd _ ea
      obtain ⟨mA, hns, hr⟩ := hx
      obtain ⟨od, ho, hl⟩ := lookIn_ns hns
      have J : PySem.W.InstAt s.heap a oe D (some od) := ⟨hget, hz.1, by unfold PySem.W.notCls; rw [hv] <;> rfl, by rw [hz.2]; exact ho⟩
      exact PySem.W.kia_one (xd_kit C) I.kIn J e (fun z => nomatch z) fun tk => ⟨.bl b, H, I.kept (t' := tk) fun _ _ z => z, rfl, q⟩
section
variable {U : Ct} {env : Ev0} {W : Ow} {Ψ : D → Ow → Prop} {Φ : Ke} {e x : Expr} {pos p0 : Pos} {ad dd D0 : Addr} {i : Int}
/-- U's heap of data has the exception's dict -/
theorem ev_isD (hd : U.G dd = some (.xd [("index", .int i)])) (hc : CallR U.X (.builtin "isinstance") (rIsD U.X.K D0 ad dd)) (B : Blt U.X.mg) (hg : Gl U.X "isinstance") (h : EvA U [e, x] env W fun ds W1 => ∃ c b, ds = [.adr ad, .adr c] ∧ PySem.W.kitOne U.X.K (.ref D0) (.ref c) = some b ∧ Ψ (.p (.bool b)) W1)
    (he : starEach [e, x] U.X.env = (false, eval e U.X.env) :: starEach [x] U.X.env := by rfl) (hpl : (backTo pos (starEach [x] U.X.env)).any (·.1) = false := by rfl) : Ev U (.Call (.Name "isinstance" p0) [e, x] [] pos) env W Ψ :=
  ev_callB hc hg B.isinstance (by decide +kernel) (h.imp fun ds W1 z => by
    intro G H vs eg hs ra Q q
    obtain ⟨c, b, rfl, hk, k⟩ := z
    cases ra with
    | cons ra rr =>
      cases rr with
      | cons rb rr =>
        cases rr
        obtain rfl : _ = V.ref ad := ra
        obtain rfl : _ = V.ref c := rb
        exact ⟨.ref c, .ref c, b, _, rfl, hs.g _ _ (eg _ _ hd), fun _ z => z, hk, q _ G H (.p (.bool b)) W1 (Ex.refl G) hs (show Rp _ _ _ from Rp.bl b) k⟩) (he := he) (hpl := hpl)
theorem ev_isDT {y : Str} {Tn : String} {p1 : Pos} (hd : U.G dd = some (.xd [("index", .int i)])) (hc : CallR U.X (.builtin "isinstance") (rIsD U.X.K D0 ad dd)) (B : Blt U.X.mg) (hg : Gl U.X "isinstance") (hgx : Gl U.X y) (hmx : U.X.mg y = none) (hv : bootBuiltins y = some (.type Tn))
    (h : Ev U e env W fun d W1 => ∃ b, d = .adr ad ∧ PySem.W.kitOne U.X.K (.ref D0) (.type Tn) = some b ∧ Ψ (.p (.bool b)) W1)
    (hn : y ≠ "__name__" := by decide) (hdb : (y == ("__debug__" : Str)) = false := by decide) (he : starEach [e, .Name y p1] U.X.env = (false, eval e U.X.env) :: starEach [.Name y p1] U.X.env := by rfl) (he2 : starEach [.Name y p1] U.X.env = (false, eval (.Name y p1) U.X.env) :: starEach [] U.X.env := by rfl)
    (hpl : (backTo pos (starEach [.Name y p1] U.X.env)).any (·.1) = false := by rfl) : Ev U (.Call (.Name "isinstance" p0) [e, .Name y p1] [] pos) env W Ψ :=
  .here (pe_callB hc hg B.isinstance (by decide +kernel) (pa_cons pe_sem (pa_cons (pe_bltn (v := .ty Tn) hgx hmx hv rfl hn hdb) pa_nil he2) he) (he := he) (hpl := hpl)) fun σ G H eg h0 sl Q q => by
    refine h σ G H eg h0 sl _ fun v G1 H1 d W1 e1 h1 r1 z1 => ?_
    obtain ⟨b, rfl, hk, z⟩ := z1
    obtain rfl : v = V.ref ad := r1
    exact ⟨.ty Tn, .type Tn, b, _, rfl, h1.g _ _ (e1 _ _ (eg _ _ hd)), fun u hu => hu, hk, q _ G1 H1 (.p (.bool b)) W1 e1 h1 (Rp.bl b) z⟩
end
/-- e.index -/
theorem ev_xf {X : Cx} {U : Ct} {env : Ev0} {W : Ow} {Ψ : D → Ow → Prop} {e : Expr} {pos : Pos} {a C dd : Addr} {oe : Obj} {pn : List (Addr × Obj)} {i : Int} (hX : U.X = X.suite a ((a, oe) :: pn)) (T : XfC X.K C) (hno : PySem.W.findIn X.K (.ref C) "index" = some none) (hz : Zc (.ref C) (some dd) oe) (hf : ∃ vs, oe.data = .fields vs) (hd : U.G dd = some (.xd [("index", .int i)]))
    (h : Ev U e env W fun d W1 => d = .adr a ∧ Ψ (.p (.int i)) W1) (hb : attributeBase e "index" X.env (eval e X.env) = eval e X.env := by rfl) : Ev U (.Attribute e "index" pos) env W Ψ := by
  refine .here (by rw [hX]; exact pe_xf T hno hz hf pe_sem hb) fun σ G H eg hs sl Q q => ?_
  have h' := h σ G H eg hs sl (fun x H1 => x = .ref a ∧ Value.ref C = Value.ref C ∧ ∃ (dd' : Addr) (fs : List (Str × V)) (v : V), some dd = some dd' ∧ H1 dd' = some (.xd fs) ∧ fs.lookup ("index" : Str) = some v ∧ Q v H1) fun v G1 H1 d W1 e1 h1 r1 z1 => by
    obtain ⟨rfl, k⟩ := z1
    obtain rfl : v = V.ref a := r1
    exact ⟨rfl, rfl, dd, _, .int i, rfl, h1.g _ _ (e1 _ _ (eg _ _ hd)), rfl, q _ G1 H1 (.p (.int i)) W1 e1 h1 (show Rp _ _ _ from Rp.int i) k⟩
  rw [hX] at h'
  exact h'
/-- what stands in the heap and is no one's own may be taken for data -/
theorem Hs.adopt {K : PySem.W.Frag} {C : Addr} {T : List (Addr × Str)} {G H : Hp} {W : Ow} {d : Addr} {fs : List (Str × V)} (h : Hs K C T G W H) (hd : H d = some (.xd fs)) : Ex G (upd G d (.xd fs)) ∧ Hs K C T (upd G d (.xd fs)) W H := by
  have ex : Ex G (upd G d (.xd fs)) := fun a u e => by
    by_cases ha : a = d
    · subst ha
      have := h.g _ _ e
      rw [hd] at this
      rw [upd_same, ← this]
    · rw [upd_ne ha]; exact e
  refine ⟨ex, fun a u e => ?_, fun p hp => ?_, fun p hp => ?_, h.n, h.t, fun b ps e => ?_⟩
  · by_cases ha : a = d
    · subst ha; rw [upd_same] at e; rw [hd]; exact e
    · rw [upd_ne ha] at e; exact h.g _ _ e
  · obtain ⟨o, ho, r⟩ := h.w p hp
    exact ⟨o, ho, r.mono ex⟩
  · obtain ⟨o, ho, r⟩ := h.w p hp
    have hne : p.1 ≠ d := fun z => by
      rw [z, hd] at ho
      cases ho
      have := r.plain
      exact this
    rw [upd_ne hne]; exact h.d p hp
  · by_cases ha : b = d
    · subst ha; rw [upd_same] at e; cases e
    · rw [upd_ne ha] at e; exact h.nt b ps e

end Q
namespace Q
open PySem PySem.Spec PyProof.Rows L2
open Evl (Ex)

open PySem PySem.Spec PyProof.Rows L2 GenW LamX
open Evl (Ex)
section
variable {U : Ct} {env : Ev0} {W : Ow} {Ψ : D → Ow → Prop} {Φ : Ke} {e a b c o i v x : Expr} {pos p0 p1 pa : Pos} {es : List Expr}
/-! ### isinstance of data and an own class -/
theorem ev_isDat {C' : Addr} (B : Blt U.X.mg) (hg : Gl U.X "isinstance") (h : EvA U [e, x] env W fun ds W1 => ∃ d t b, ds = [d, .adr C'] ∧ tyN d = some t ∧ PySem.W.kitOne U.X.K (.type t) (.ref C') = some b ∧ Ψ (.p (.bool b)) W1)
    (he : starEach [e, x] U.X.env = (false, eval e U.X.env) :: starEach [x] U.X.env := by rfl) (hpl : (backTo pos (starEach [x] U.X.env)).any (·.1) = false := by rfl) : Ev U (.Call (.Name "isinstance" p0) [e, x] [] pos) env W Ψ :=
  ev_callB call_isi hg B.isinstance (by decide +kernel) (h.imp fun ds W1 z => by
    intro G H vs eg hs ra Q q
    obtain ⟨d, t, b, rfl, ht, hk, k⟩ := z
    cases ra with
    | cons r1 r2 =>
      cases r2 with
      | cons r3 r4 =>
        cases r4
        obtain rfl : _ = V.ref C' := r3
        exact ⟨_, .ref C', .type t, .ref C', b, rfl, .own C', tyN_ok hs.g r1 ht, hk, q _ G H (.p (.bool b)) _ (Ex.refl G) hs (show Rp _ _ _ from Rp.bl b) k⟩) (he := he) (hpl := hpl)
/-! ### own == with data on its right -/
theorem op_eqXD {X : Cx} {CX : CXT} {C g : Addr} {k : Nat} {sp : Sp} {E : XK} (ao : EqO X.K C g) (F : FnR X.prog X.w X.K X.mg X.base CX k g sp) (hr : Room k X.A) (hx : Passes CX X E) : OpR X (compareOp .Eq) (fun x y H Q => ∃ a dx fs t, x = .ref a ∧ H a = some (.ins C dx fs) ∧ TyX X.K H y (.type t) ∧ PySem.W.subIn X.K (.type t) (.ref C) = some false ∧ sp [x, y] H Q E) := by
  intro pins s σ H x y v u Q I rx ry h
  obtain ⟨a, dx, fs, t, rfl, ea, ty, sub, q⟩ := h
  cases rx
  obtain ⟨_, O, _⟩ := ins_get I.hok ea
  obtain ⟨_, J, _⟩ := O.look
  obtain ⟨P, kx, hp, _⟩ := kit_of I ry ty
  obtain ⟨_, hF⟩ := I.fr
  exact PySem.W.cmp_K (op := .Eq) (tb := .type t) hr.units0 hF I.ok.mod.kin J (kx.ty _ _ I.kIn hp) (by simp [PySem.W.notFirst, sub]) ao.at_ ao.fn (thn (wpAny_call (run_fnR (us := [.ref a, u]) (vs := [.ref a, y]) F hr hx I (.cons rfl (.cons ry .nil)) q)) fun w s' z => by
    obtain ⟨y, H', I', r, z⟩ := z
    exact backV r ⟨y, H', I', r, z⟩)
theorem ev_eqXD {L : Pl} {Cn : Con} {k : Nat} {g : Addr} (hL : L.Has U) (ok : U.Ok) (ao : EqO U.X.K U.C g) (F : FnC L k g Cn) (hk : k ≤ U.k)
    (h : Ev U a env W fun d1 W1 => Ev U b env W1 fun d2 W2 => (∃ r1 t, d1 = .tt r1 ∧ tyN d2 = some t ∧ PySem.W.subIn U.X.K (.type t) (.ref U.C) = some false) ∧ Cn [d1, d2] W2 Ψ U.Ξ) : Ev U (.Compare a [.Eq] [b] pos) env W Ψ :=
  ev_cmp (op_eqXD (E := U.E) ao (F.at_ hL) (ok.room.mono hk) (passU hL ok)) (nomark _) (h.imp fun d1 W1 h1 => h1.imp fun d2 W2 h2 => by
    intro G H x y eg hs rx ry Q q
    obtain ⟨⟨r1, t, rfl, ht, hsb⟩, z⟩ := h2
    have rx' := rx
    obtain ⟨a, dx, t', rfl, hi, _⟩ := rx
    exact ⟨a, dx, _, t, rfl, hs.g _ _ hi, tyN_ok hs.g ry ht, hsb, sp_run hL ok eg hs (.cons rx' (.cons ry .nil)) z q⟩)
theorem et_eqXD {L : Pl} {Cn : Con} {k : Nat} {g : Addr} {Ψ : Bool → Ow → Prop} (hL : L.Has U) (ok : U.Ok) (ao : EqO U.X.K U.C g) (F : FnC L k g Cn) (hk : k ≤ U.k)
    (h : Ev U a env W fun d1 W1 => Ev U b env W1 fun d2 W2 => (∃ r1 t, d1 = .tt r1 ∧ tyN d2 = some t ∧ PySem.W.subIn U.X.K (.type t) (.ref U.C) = some false) ∧ Cn [d1, d2] W2 (fun d W3 => ∃ k, d = .p (.bool k) ∧ Ψ k W3) U.Ξ) : EvT U (.Compare a [.Eq] [b] pos) env W Ψ :=
  et_cmpG (op_eqXD (E := U.E) ao (F.at_ hL) (ok.room.mono hk) (passU hL ok)) (nomark _) (h.imp fun d1 W1 h1 => h1.imp fun d2 W2 h2 => by
    intro G H x y eg hs rx ry Q q
    obtain ⟨⟨r1, t, rfl, ht, hsb⟩, z⟩ := h2
    have rx' := rx
    obtain ⟨a, dx, t', rfl, hi, _⟩ := rx
    exact ⟨a, dx, _, t, rfl, hs.g _ _ hi, tyN_ok hs.g ry ht, hsb, sp_run hL ok eg hs (.cons rx' (.cons ry .nil)) z q⟩)
/-- lo <= x < hi, tested -/
theorem et_chainL {Ψ : Bool → Ow → Prop} (hm : lastMarks [CmpOp.LtE, CmpOp.Lt] [b, c] = false) (h : Ev U a env W fun d1 W1 => Ev U b env W1 fun d2 W2 => CmpD (fun i j => decide (i ≤ j)) d1 d2 fun r =>
    (r = false → Ψ false W2) ∧ (r = true → Ev U c env W2 fun d3 W3 => CmpD (fun i j => decide (i < j)) d2 d3 fun r' => Ψ r' W3)) : EvT U (.Compare a [.LtE, .Lt] [b, c] pos) env W Ψ :=
  fun σ G H eg hs sl Q q => SemT.of (pt_chain op_le op_lt pe_sem pe_sem pe_sem hm) (h σ G H eg hs sl _ fun x G1 H1 d1 W1 e1 h1 r1 z1 =>
    z1 σ G1 H1 (eg.trans e1) h1 (sl.mono e1) _ fun y G2 H2 d2 W2 e2 h2 r2 z2 => by
      dsimp only at z2
      unfold CmpD at z2
      split at z2
      · cases r1; cases r2
        refine ⟨_, _, rfl, rfl, _, rfl, ?_⟩
        split
        · rename_i hd
          refine z2.2 hd σ G2 H2 ((eg.trans e1).trans e2) h2 (sl.mono (e1.trans e2)) _ fun w G3 H3 d3 W3 e3 h3 r3 z3 => ?_
          dsimp only at z3
          split at z3
          · rename_i hh
            cases hh
            cases r3
            exact ⟨_, _, rfl, rfl, _, rfl, q _ G3 H3 W3 ((e1.trans e2).trans e3) h3 z3⟩
          · exact z3.elim
        · rename_i hd
          exact ⟨_, rfl, q false G2 H2 W2 (e1.trans e2) h2 (z2.1 (by simpa using hd))⟩
      · exact z2.elim)
/-! ### bool(x), x an instance with __bool__ -/
theorem bool_in {prog : Program} {w : World} {A : Around} {E : Value → Shared → Prop} {s : Shared} {x : Value} {Q : Value → Shared → Prop} (h : wpAny (model prog w) A.in1.in1 (truthy x) (fun b s1 => Q (.bool b) s1) E s) : wpAny (model prog w) A (call (.type "bool") [x]) Q E s := by
  have g : MeetsIn prog w (Builtin.«bool.__new__» ⟨[.type "bool", x], []⟩) (fun A R s => wpAny (model prog w) A.in1 (truthy x) (fun b s1 => R (.ok (.ret (.bool b))) s1) (fun e s1 => R (.error e) s1) s) :=
    .of_wp fun A R s h => by
      have f1 := F.conv_sub_bool
      unfold Builtin.«bool.__new__»
      refine wpAny_bind (m := isType _) (wpAny_pure ?_)
      refine wpAny_bind (m := isSubtype _ _) (wpAny_of_eq f1 ?_)
      refine wpAny_bind (wpAny_of_eq (a := [x]) (by first | rfl | kernel_rfl) ?_)
      refine wpAny_bind (wpAny_mono h (fun b s1 hb => ?_) fun _ _ z => z)
      exact wpAny_pure ⟨_, rfl, hb⟩
  refine callType_newIn F.called_bool F.newNe_bool (F.typeCall_bool_1 x) (F.newCall_bool_1 x) (fun obj => F.args_object_init_2 obj x) F.entry_bool_new g ?_
  show wpAny (model prog w) A.in1.in1 (truthy x) _ _ _
  refine wpAny_mono h (fun b s1 hb => ?_) fun _ _ z => z
  exact ⟨rfl, hb⟩
theorem cr_boolO {X : Cx} {CX : CXT} {C g : Addr} {k : Nat} {sp : Sp} (bo : BoolO X.K C g) (F : FnR X.prog X.w X.K X.mg X.base CX k g sp) (hr : Room (k + 2) X.A) (hx : Passes CX X.nox E0) : CallR X (.type "bool") (fun vs H Q => ∃ a dx fs, vs = [.ref a] ∧ H a = some (.ins C dx fs) ∧ sp [.ref a] H (fun v H' => ∃ b : Bool, v = .bl b ∧ Q (.bl b) H') E0) := by
  intro pins s σ H vs us Q I r h
  obtain ⟨a, dx, fs, rfl, ea, q⟩ := h
  cases r with
  | cons r1 r2 =>
    cases r2
    cases r1
    obtain ⟨mA, O, _⟩ := ins_get I.hok ea
    obtain ⟨od, J, _⟩ := O.look
    refine bool_in (truthy_in I.kIn J bo.at_ bo.fn (wpAny_call ?_))
    refine codeAny_mono (F X.A.in1.in1 X.stack s H [.ref a] [.ref a] _ E0 hr.in1.in1 I.env0.in1.in1 (.cons rfl .nil) q) fun r s' hq => ?_
    cases r with
    | error er => exact False.elim (hx pins σ H s er s' (I.wish _) hq)
    | ok fl =>
      cases fl with
      | ret u =>
        obtain ⟨v, H', I3, rv, b, rfl, q3⟩ := I.after hq
        cases rv
        exact ⟨.bl b, H', I3, rfl, q3⟩
      | next => exact False.elim hq
      | brk => exact False.elim hq
      | cont => exact False.elim hq
theorem ev_boolT {L : Pl} {Cn : Con} {k : Nat} {g : Addr} (hL : L.Has U) (ok : U.Ok) (B : Blt U.X.mg) (bo : BoolO U.X.K U.C g) (F : FnC L k g Cn) (hk : k + 2 ≤ U.k) (hg : Gl U.X "bool")
    (h : EvA U [e] env W fun ds W1 => (∃ rows, ds = [.tt rows]) ∧ Cn ds W1 (fun d2 W2 => ∃ b : Bool, d2 = .p (.bool b) ∧ Ψ (.p (.bool b)) W2) fun _ _ => False)
    (he : starEach [e] U.X.env = (false, eval e U.X.env) :: starEach [] U.X.env := by rfl) : Ev U (.Call (.Name "bool" p0) [e] [] pos) env W Ψ := by
  have hx : Passes (L2.CX L.P L.w) U.X.nox E0 := by
    rw [← hL.P, ← hL.w]
    exact passes_call (W := fun _ _ _ _ => False) LamX.takes0 fun _ _ _ _ z => z
  refine ev_callTy (cr_boolO bo (F.at_ hL) (ok.room.mono hk) hx) hg B.bool (by decide +kernel) (h.imp fun ds W1 z => ?_) (he := he) (hpl := rfl)
  intro G H vs eg hs ra Q q
  obtain ⟨⟨rows, rfl⟩, z⟩ := z
  cases ra with
  | cons r1 r2 =>
    cases r2
    have r1' := r1
    obtain ⟨a, dx, t, rfl, hi, rt⟩ := r1
    refine ⟨a, dx, _, rfl, hs.g _ _ hi, ?_⟩
    exact ⟨U.T, G, W1, _, _, fun _ _ => False, by rw [← hL.K, ← hL.C]; exact hs, .cons (by rw [← hL.K, ← hL.C]; exact r1') .nil, z, by
      rw [← hL.K, ← hL.C]
      intro v G2 H2 d W2 e2 h2 r2 z2
      obtain ⟨b, rfl, k⟩ := z2
      cases (show Rp _ _ _ from r2)
      exact ⟨b, rfl, q _ G2 H2 _ W2 e2 h2 r2 k⟩, fun _ _ _ _ _ _ _ _ _ z => z.elim⟩
/-! ### max of a pair -/
theorem cr_maxT {X : Cx} (hc : X.calm = true) (hu : X.A.units + 64 < cLine) : CallR X (.builtin "max") (fun vs H Q => ∃ (t : Addr) (i j : Int), vs = [V.ref t] ∧ SqT X.K H t [.int i, .int j] ∧ Q (.int (max i j)) H) := by
  intro pins s σ H vs us Q I r h
  obtain ⟨t, i, j, rfl, hT, q⟩ := h
  obtain rfl := Vals.ref1 r
  obtain ⟨its, rv, pl, _⟩ := I.tuple hT
  have hi := rv.ints (ns := [i, j])
  refine PySem.W.max_tuple_datum (α := Int) (x := i) (xs := [j]) (I.ok.hd hc) (by obtain ⟨o1, h1, h2, n1, h3⟩ := pl; exact ⟨o1, h1, h2, n1, h3⟩) (PySem.W.HoldAll.of_ints hi) (by have h2 : PySem.W.Datum.depth Int ≤ 2 := (by decide); omega) fun n v h' tk hv hm hk => ?_
  obtain ⟨t1, rfl⟩ := PySem.W.int_of_holds hm
  have e : PySem.W.maxOf i [j] = max i j := by
    unfold PySem.W.maxOf
    simp [PySem.W.DatumOrd.lt]
    omega
  rw [e]
  exact ⟨.int _, H, I.kept hk, ⟨_, rfl⟩, q⟩
theorem ev_maxP (ok : U.Ok) (B : Blt U.X.mg) (hg : Gl U.X "max") (h : EvA U [e] env W fun ds W1 => ∃ i j : Int, ds = [.p (.tuple [.int i, .int j])] ∧ Ψ (.p (.int (max i j))) W1) (he : starEach [e] U.X.env = (false, eval e U.X.env) :: starEach [] U.X.env := by rfl) : Ev U (.Call (.Name "max" p0) [e] [] pos) env W Ψ :=
  ev_callB (cr_maxT ok.calm ok.room.units) hg B.max (by decide +kernel) (h.imp fun ds W1 z => by
    intro G H vs eg hs ra Q q
    obtain ⟨i, j, rfl, k⟩ := z
    cases ra with
    | cons r1 r2 =>
      cases r2
      cases (show Rp G _ (.tuple ([i, j].map .int)) from r1) with
      | tup hl rr => exact ⟨_, i, j, rfl, by have := rr.ints; rw [this] at hl; exact SqT.of (hs.g _ _ hl), q _ G H (.p (.int _)) _ (Ex.refl G) hs (show Rp _ _ _ from Rp.int _) k⟩) (he := he) (hpl := rfl)
/-! ### a text * n -/
theorem op_mulS {X : Cx} : OpR X (binaryOp .Mult) (fun x y H Q => ∃ (z : Str) (n : Int), x = .str z ∧ y = .int n ∧ PySem.MulOk z n ∧ Q (.str (Txt.mul z n)) H) := by
  intro pins s σ H x y v u Q I rx ry h
  obtain ⟨z, n, rfl, rfl, hm, q⟩ := h
  obtain ⟨t, rfl⟩ := rx
  obtain ⟨t2, rfl⟩ := ry
  exact SB.mul hm fun t' k => ⟨.str _, H, I.tok _, ⟨_, rfl⟩, q⟩
theorem ev_mulS (h : Ev U a env W fun d1 W1 => Ev U b env W1 fun d2 W2 => ∃ (z : Str) (n : Int), d1 = .p (.str z) ∧ d2 = .p (.int n) ∧ PySem.MulOk z n ∧ Ψ (.p (.str (Txt.mul z n))) W2) : Ev U (.BinOp a .Mult b pos) env W Ψ := by
  refine ev_bin op_mulS (h.imp fun d1 W1 h1 => h1.imp fun d2 W2 h2 => ?_)
  intro G H x y eg hs rx ry Q q
  obtain ⟨z, n, rfl, rfl, hm, k⟩ := h2
  cases (show Rp _ _ _ from rx)
  cases (show Rp _ _ _ from ry)
  exact ⟨z, n, rfl, rfl, hm, q _ G H (.p (.str _)) W2 (Ex.refl G) hs (show Rp _ _ _ from Rp.str _) k⟩
/-! ### a, b, .. = a list -/
theorem eg_tupL (ok : U.Ok) {js : List Nat} {es : List Expr} {d : D} {Ψ : Ev0 → Ow → Prop} {k1} (h : ∃ ds, d = .p (.list ds) ∧ ds.length = es.length ∧ EvGs U js es (ds.map .p) env W Ψ)
    (hn : (assignEach es U.X.env).length = es.length := by rfl) (hst : (assignEach es U.X.env).findIdx? (·.1) = none := by rfl) : EvG U js (.Tuple es k1 pos) d env W Ψ := by
  intro σ G H v eg hs sl r Q q
  obtain ⟨ds, rfl, hl, h⟩ := h
  cases r with
  | lst hl0 ra => exact SemG.of (pg_lst ok.calm pgs_sem hn hst) ⟨_, _, rfl, SqL.of (hs.g _ _ hl0), by rw [ra.len, hl], h σ G H _ eg hs sl ra.rep Q q⟩
end

end Q
namespace Q
open PySem PySem.Spec PyProof.Rows L2
open Evl (Ex)

open PySem PySem.Spec PyProof.Rows L2 GenW LamX
open Evl (Ex)
/-! ### defs that make lambdas of their own: their callers' tables hold theirs -/
def spGT (L : Pl) (PT : List (Addr × Str) → Prop) (Cn : Con) : Sp := fun vs H Q E => ∃ (T : List (Addr × Str)) (G : Hp) (W : Ow) (ds : List D) (Ψ : D → Ow → Prop) (Ξ : Xc → Ow → Prop), PT T ∧ Hs L.K L.C T G W H ∧ RepAll L.K L.C G vs ds ∧ Cn ds W Ψ Ξ ∧
  (∀ v G2 H2 d W2, Ex G G2 → Hs L.K L.C T G2 W2 H2 → Rep L.K L.C G2 v d → Ψ d W2 → Q v H2) ∧ (∀ x cls dd G2 H2 W2, Ex G G2 → Hs L.K L.C T G2 W2 H2 → XRep L.cN L.cL L.cA L.cT x cls dd H2 → Ξ x W2 → E cls dd H2)
structure DefT (L : Pl) (PT : List (Addr × Str) → Prop) (x : Str) (k : Nat) (Cn : Con) : Prop where
  ex : ∃ f, FnR L.P L.w L.K L.mg L.base (L2.CX L.P L.w) k f (spGT L PT Cn) ∧ L.mg x = some (.ref f) ∧ PySem.W.keepIn L.K (.ref f) = true
theorem ev_callT {U : Ct} {env : Ev0} {W : Ow} {Ψ : D → Ow → Prop} {e : Expr} {es : List Expr} {p0 pos : Pos} {L : Pl} {PT : List (Addr × Str) → Prop} {x : Str} {k : Nat} {Cn : Con} (hL : L.Has U) (ok : U.Ok) (D : DefT L PT x k Cn) (hT : PT U.T) (hk : k ≤ U.k) (hg : Gl U.X x) (h : EvA U (e :: es) env W fun ds W1 => Cn ds W1 Ψ U.Ξ) (hd : (x == ("__debug__" : Str)) = false := by decide)
    (he : starEach (e :: es) U.X.env = (false, eval e U.X.env) :: starEach es U.X.env := by rfl) (hpl : (backTo pos (starEach es U.X.env)).any (·.1) = false := by rfl) : Ev U (.Call (.Name x p0) (e :: es) [] pos) env W Ψ := by
  obtain ⟨f, F, hm, kp⟩ := D.ex
  have F' : FnR U.X.prog U.X.w U.X.K U.X.mg U.X.base (L2.CX L.P L.w) k f (spGT L PT Cn) := by rw [hL.P, hL.w, hL.K, hL.mg, hL.base]; exact F
  refine .here (pe_callR (E := U.E) F' (ok.room.mono hk) (by rw [hL.K]; exact kp) hg (by rw [hL.mg]; exact hm) (passU hL ok) pa_sem hd he hpl) fun σ G H eg hs sl Q q => ?_
  refine h σ G H eg hs sl _ fun vs G1 H1 ds W1 e1 h1 r1 z => ?_
  obtain ⟨T', G', W', ds', Ψ', Ξ', a1, a2, a3, a4, a5⟩ := sp_run hL ok (eg.trans e1) h1 r1 z fun v G2 H2 d W2 e2 h2 r2 z2 => q v G2 H2 d W2 (e1.trans e2) h2 r2 z2
  exact ⟨U.T, G1, W1, ds, Ψ, U.Ξ, hT, by rw [← hL.K, ← hL.C]; exact h1, by rw [← hL.K, ← hL.C]; exact r1, z, by rw [← hL.K, ← hL.C]; exact fun v G2 H2 d W2 e2 h2 r2 z2 => q v G2 H2 d W2 (e1.trans e2) h2 r2 z2,
    fun x cls dd G2 H2 W2 e2 h2 xr z => ok.ex x cls dd G2 H2 W2 ((eg.trans e1).trans e2) (by rw [hL.K, hL.C]; exact h2) (by rw [hL.cN, hL.cL, hL.cA, hL.cT]; exact xr) z⟩
theorem fn_bodyT {L : Pl} {PT : List (Addr × Str) → Prop} {x : Str} {st : Stmt} {f c : Addr} {N ps : List Str} {k : Nat} {Cn : Con} {oc kV doc pm ct : Value} {od an : Option Addr} {osl : Array (Option Value)}
    (lk : L.K.lookup f = some ⟨oc, od, .func (PySem.W.fnOf x x (defArgs st) (defBody st) (defScope st) .none kV doc pm an (.ref c) ct), osl⟩) (hcd : PySem.W.codeIn L.K (.ref c) x = true) (S : FnScope N ps (defScope st)) (b : Binds L.K (PySem.W.fnOf x x (defArgs st) (defBody st) (defScope st) .none kV doc pm an (.ref c) ct) ps []) (len : ∀ ds W Ψ Ξ, Cn ds W Ψ Ξ → ds.length = ps.length)
    (h : ∀ U : Ct, L.Has U → U.Ok → PT U.T → U.k = k → (∃ (A : Around) (outer : List Env) (s : Shared) (H : Hp) (E : XK) (T : List (Addr × Str)) (G : Hp) (Ξ : Xc → Ow → Prop), U = ctOf L N x (defScope st) f (.ref c) A outer s H E T G Ξ k) →
      ∀ ds W Ψ, Cn ds W Ψ U.Ξ → Wp U (defBody st) (startE N ds) W ⟨fun _ W => Ψ (.p .none) W, Ψ, fun _ _ => False, fun _ _ => False⟩) : FnR L.P L.w L.K L.mg L.base (L2.CX L.P L.w) (k + 1) f (spGT L PT Cn) := by
  refine FnOk.toR (fn_of lk hcd S (fun vs H Q E ⟨T, G, W, ds, Ψ, Ξ, _, _, ra, c, _, _⟩ => by rw [ra.len]; exact len _ _ _ _ c) fun A outer s H vs Q E hr hsp => ?_) b
  obtain ⟨T, G, W, ds, Ψ, Ξ, hT, hs, ra, cn, q, qe⟩ := hsp
  have z := h (ctOf L N x (defScope st) f (.ref c) A outer s H E T G Ξ k) has_ct (ct_ok hr S.nd qe) hT rfl ⟨A, outer, s, H, E, T, G, Ξ, rfl⟩ ds W Ψ cn
  refine ⟨_, pss_sem, z (L2.start N vs) G H (Ex.refl G) hs (startE_ok ra) _ ⟨fun σ G2 H2 env W2 e2 h2 s2 k2 => q .non G2 H2 _ W2 e2 h2 (show Rep _ _ _ V.non (.p .none) from Rp.non) k2, fun v G2 H2 d W2 e2 h2 r2 k2 => q v G2 H2 d W2 e2 h2 r2 k2, fun _ _ _ _ _ _ _ _ z => z, fun _ _ _ _ _ _ _ _ z => z⟩⟩

end Q
namespace Q
open PySem PySem.Spec PyProof.Rows L2
open Evl (Ex)
def topS (i : Nat) : Stmt := PySem.Challenge.pw_topletter_k01_timetables_and_their_signs.main.body.getD i (.Pass ⟨0, 0, 0, 0⟩)
/-! ### _height_from -/
abbrev sHF : Stmt := topS 14
def hAfter (rows : List (Int × Int)) (h : Int) : Int := rows.foldl (fun h r => max 0 (h + r.1 - r.2)) h
def cHF : Con := fun ds W Ψ Ξ => ∃ rows h, ds = [.p (.int h), .p (.tuple (rows.map rowD))] ∧ Ψ (.p (.int (hAfter rows h))) W
theorem scHF : FnScope ["height", "rows", "come", "answers"] ["height", "rows"] (defScope sHF) := ⟨rfl, rfl, rfl, by decide +kernel, rfl, by decide +kernel, by decide +kernel⟩
theorem bHF {K : PySem.W.Frag} {f : Addr} {fd : FuncData} (F : Fun K "_height_from" "_height_from" sHF f fd) : Binds K fd ["height", "rows"] [] := F.binds fun _ _ _ _ _ _ us hl => match us, hl with | [_, _], _ => rfl
theorem okHF {L : Pl} {f : Addr} {fd : FuncData} (B : Blt L.mg) (F : Fun L.K "_height_from" "_height_from" sHF f fd) : FnC L 1 f cHF := by
  refine fn_body F scHF (bHF F) (fun ds W Ψ Ξ ⟨_, _, h, _⟩ => by rw [h] <;> rfl) ?_
  rintro U hL ok hk ⟨f', cd, A, outer, s, H, E, T, G, Ξ, rfl⟩ ds W Ψ ⟨rows, h, rfl, k⟩
  refine wp_cons ?_
  refine w_for ok ([2] ++ ([3] ++ [])) ?_
  refine ei_tup ?_
  refine ev_nm 1 ?_
  refine ⟨_, rfl, ?_⟩
  refine ⟨fun i env W' => W' = W ∧ ∃ c a, env = [some (.p (.int (hAfter (rows.take i) h))), some (.p (.tuple (rows.map rowD))), c, a], ⟨rfl, none, none, rfl⟩, ?_, ?_⟩
  · rintro i env' W' hi ⟨rfl, c, a, rfl⟩
    obtain ⟨r, hr⟩ := lt_some (l := rows) (i := i) (by simpa using hi)
    rw [datAt_map hr]
    refine eg_tup ok ⟨_, rfl, rfl, ?_⟩
    refine egs_cons (eg_nm ok 2 ?_)
    refine egs_cons (eg_nm ok 3 ?_)
    refine egs_nil ?_
    refine wp_one ?_
    refine w_st ok 0 ?_
    refine ev_max2 ok B rfl ?_
    refine ea_cons ?_
    refine ev_int ?_
    refine ea_cons ?_
    refine ev_sub ?_
    refine ev_add ?_
    refine ev_nm 0 ?_
    refine ev_nm 2 ?_
    refine ev_nm 3 ?_
    refine ea_nil ?_
    refine ⟨rfl, some (.p (.int r.1)), some (.p (.int r.2)), ?_⟩
    rw [take_one hr]
    unfold hAfter
    rw [List.foldl_append]
    rfl
  · rintro env' W' ⟨rfl, c, a, rfl⟩
    refine wp_one ?_
    refine w_ret ?_
    refine ev_nm 0 ?_
    have e : (rows.map rowD).length = rows.length := List.length_map _
    rw [e, List.take_length]
    exact k

end Q
namespace Q
open PySem PySem.Spec PyProof.Rows L2
open Evl (Ex)
/-- operations on values -/
local macro_rules | `(tactic| walk_at "qo") => `(tactic| repeat (first
  | (with_reducible refine addD_i ?_) | (with_reducible refine subD ?_) | (with_reducible refine negD ?_) | (with_reducible refine cmpD ?_) | (with_reducible refine eqD_i ?_) | (with_reducible refine int1_i ?_) | (with_reducible refine int1_b ?_) | (with_reducible refine lenD_l ?_) | (with_reducible refine lenD_t ?_) | (with_reducible refine lenD_n ?_) | (with_reducible refine two_i ?_) | (with_reducible refine listOf_l ?_) | (with_reducible refine tupOf_l ?_) | (with_reducible refine boolD ?_) | (with_reducible refine tbool ?_)
  | (with_reducible refine truD_b ?_) | (with_reducible refine truD_i ?_) | (with_reducible refine truD_t ?_) | (with_reducible refine truD_l ?_) | (with_reducible refine sl_t ?_) | (with_reducible refine sl_l ?_) | (with_reducible refine rev_l ?_) | (with_reducible refine allP_nil ?_) | (with_reducible refine allP_cons ?_)
  | ((with_reducible refine str1 ?_ ?_); (first | omega | (constructor <;> omega) | (constructor <;> (split <;> omega)) | assumption | decide)) | ((with_reducible refine mulD_r ?_ ?_); (first | omega | (constructor <;> omega) | (constructor <;> (split <;> omega)) | assumption | decide)) | ((with_reducible refine mulD_l ?_ ?_); (first | omega | (constructor <;> omega) | (constructor <;> (split <;> omega)) | assumption | decide))
  | ((with_reducible refine divD ?_ ?_ ?_); (first | omega | (constructor <;> omega) | (constructor <;> (split <;> omega)) | assumption | decide); (first | omega | (constructor <;> omega) | (constructor <;> (split <;> omega)) | assumption | decide)) | ((with_reducible refine modD ?_ ?_); (first | omega | (constructor <;> omega) | (constructor <;> (split <;> omega)) | assumption | decide)) | ((with_reducible refine powD ?_ ?_ ?_ ?_); (first | omega | (constructor <;> omega) | (constructor <;> (split <;> omega)) | assumption | decide); (first | omega | (constructor <;> omega) | (constructor <;> (split <;> omega)) | assumption | decide); (first | omega | (constructor <;> omega) | (constructor <;> (split <;> omega)) | assumption | decide))))
/-- an item of the dice -/
local macro_rules | `(tactic| walk_at "qx") => `(tactic| refine ⟨_, _, _, _, _, _, rfl, rfl, rfl, rfl, ?_⟩)
abbrev diceL (sc : List Int) (pos mix rest : Int) : OD := .l [.scr sc, .p (.int pos), .p (.int mix), .p (.int rest)]
def isDice (u : OD) : Prop := ∃ sc pos mix rest, u = diceL sc pos mix rest ∧ 0 ≤ pos
abbrev sDice : Stmt := topS 27
def cDice : Con := fun ds W Ψ Ξ => ∃ sc, ds = [.scr sc] ∧ ∀ a u, isDice u → Ψ (.adr a) ((a, u) :: W)
theorem scDice : FnScope ["_law_script", "_law_mixed", "_law_cell"] ["_law_script"] (defScope sDice) := ⟨rfl, rfl, rfl, by decide +kernel, rfl, by decide +kernel, by decide +kernel⟩
theorem bDice {K : PySem.W.Frag} {f : Addr} {fd : FuncData} (F : Fun K "_law_dice" "_law_dice" sDice f fd) : Binds K fd ["_law_script"] [] := F.binds fun _ _ _ _ _ _ us hl => match us, hl with | [_], _ => rfl
theorem small_lit {i : Int} (h : -(2 ^ 64) < i ∧ i < 2 ^ 64) : small i := h
theorem okDice {L : Pl} {f : Addr} {fd : FuncData} (B : Blt L.mg) (F : Fun L.K "_law_dice" "_law_dice" sDice f fd) : FnC L 1 f cDice := by
  refine fn_body F scDice (bDice F) (fun ds W Ψ Ξ ⟨_, h, _⟩ => by rw [h] <;> rfl) ?_
  rintro U hL ok hk ⟨f', cd, A, outer, s, H, E, T, G, Ξ, rfl⟩ ds W Ψ ⟨sc, rfl, k⟩
  refine wp_cons ?_
  refine w_st ok 1 ?_
  refine ev_int ?_
  refine wp_cons ?_
  refine w_for ok [2] ?_
  refine ei_scr ?_
  refine ev_nm 0 ?_
  refine ⟨_, rfl, ?_⟩
  refine ⟨fun i env' W' => W' = W ∧ ∃ m c, env' = [some (.scr sc), some (.p (.int m)), c], ⟨rfl, _, _, rfl⟩, ?_, ?_⟩
  · rintro i env' W' hi ⟨rfl, m, c, rfl⟩
    refine eg_nm ok 2 ?_
    refine wp_one ?_
    refine w_st ok 1 ?_
    refine ev_mod ?_
    refine ev_toint B rfl ?_
    refine ea_cons ?_
    refine ev_add ?_
    refine ev_add ?_
    refine ev_mul ?_
    refine ev_nm 1 ?_
    refine ev_int ?_
    walk_at "qo"
    refine ev_mul ?_
    refine ev_mod ?_
    refine ev_toint B rfl ?_
    refine ea_cons ?_
    refine ev_nm 2 ?_
    refine ea_nil ?_
    walk_at "qo"
    refine ev_int ?_
    walk_at "qo"
    refine ev_int ?_
    walk_at "qo"
    walk_at "qo"
    refine ev_int ?_
    walk_at "qo"
    refine ea_nil ?_
    walk_at "qo"
    refine ev_int ?_
    walk_at "qo"
    exact ⟨rfl, _, _, rfl⟩
  · rintro env' W' ⟨rfl, m, c, rfl⟩
    refine wp_one ?_
    refine w_ret ?_
    refine ev_lstO ?_
    refine ea_cons ?_
    refine ev_nm 0 ?_
    refine ea_cons ?_
    refine ev_int ?_
    refine ea_cons ?_
    refine ev_mul ?_
    refine ev_nm 1 ?_
    refine ev_toint B rfl ?_
    refine ea_cons ?_
    refine ev_gt ?_
    refine ev_len B rfl ?_
    refine ea_cons ?_
    refine ev_nm 0 ?_
    refine ea_nil ?_
    walk_at "qo"
    refine ev_int ?_
    walk_at "qo"
    refine ea_nil ?_
    walk_at "qo"
    walk_at "qo"
    refine ea_cons ?_
    refine ev_int ?_
    refine ea_nil ?_
    walk_at "qo"
    refine both (by simp) ?_
    intro p
    exact k _ _ ⟨_, _, _, _, rfl, by omega⟩
abbrev sNext : Stmt := topS 28
def cNext : Con := fun ds W Ψ Ξ => ∃ (a : Addr) (m : Int) (L R : Ow) (u : OD), ds = [.adr a, .p (.int m)] ∧ 0 < m ∧ m.natAbs.log2 < 9000 ∧ W = L ++ (a, u) :: R ∧ isDice u ∧ ∀ r u', 0 ≤ r → r < m → isDice u' → Ψ (.p (.int r)) (L ++ (a, u') :: R)
theorem scNext : FnScope ["_law_dice_here", "_law_many", "_law_found", "_law_cell"] ["_law_dice_here", "_law_many"] (defScope sNext) := ⟨rfl, rfl, rfl, by decide +kernel, rfl, by decide +kernel, by decide +kernel⟩
theorem bNext {K : PySem.W.Frag} {f : Addr} {fd : FuncData} (F : Fun K "_law_next" "_law_next" sNext f fd) : Binds K fd ["_law_dice_here", "_law_many"] [] := F.binds fun _ _ _ _ _ _ us hl => match us, hl with | [_, _], _ => rfl
theorem log2_7 : (7 : Int).natAbs.log2 < 9000 := by decide +kernel
theorem okNext {L : Pl} {f : Addr} {fd : FuncData} (B : Blt L.mg) (F : Fun L.K "_law_next" "_law_next" sNext f fd) : FnC L 1 f cNext := by
  refine fn_body F scNext (bNext F) (fun ds W Ψ Ξ ⟨_, _, _, _, _, h, _⟩ => by rw [h] <;> rfl) ?_
  rintro U hL ok hk ⟨f', cd, A, outer, s, H, E, T, G, Ξ, rfl⟩ ds W Ψ ⟨a, m, Lw, Rw, u, rfl, hm, hm2, rfl, ⟨sc, pos, mix, rest, rfl, hp⟩, k⟩
  refine wp_cons ?_
  refine w_if ?_
  refine et_gt ?_
  refine ev_ixO ?_
  refine ev_nm 0 ?_
  refine ev_int ?_
  walk_at "qx"
  refine ev_int ?_
  walk_at "qo"
  refine branch (fun hb => ?_) fun hb => ?_
  ·
    refine wp_cons ?_
    refine w_st ok 2 ?_
    refine ev_mod ?_
    refine ev_toint B rfl ?_
    refine ea_cons ?_
    refine ev_ixO ?_
    refine ev_nm 0 ?_
    refine ev_int ?_
    walk_at "qx"
    refine ea_nil ?_
    walk_at "qo"
    refine ev_nm 1 ?_
    walk_at "qo"
    refine wp_cons ?_
    refine w_asg [] ?_
    refine ev_div ?_
    refine ev_ixO ?_
    refine ev_nm 0 ?_
    refine ev_int ?_
    walk_at "qx"
    refine ev_nm 1 ?_
    walk_at "qo"
    refine eg_subO ?_
    refine ev_nm 0 ?_
    refine ev_int ?_
    refine ⟨_, _, 3, _, _, _, rfl, rfl, rfl, rfl, ?_⟩
    refine wp_one ?_
    refine w_ret ?_
    refine ev_nm 2 ?_
    exact k _ _ (Int.emod_nonneg _ (by omega)) (Int.emod_lt_of_pos _ hm) ⟨_, _, _, _, rfl, hp⟩
  · refine wp_nil ?_
    refine wp_cons ?_
    refine w_asg [] ?_
    refine ev_add ?_
    refine ev_ixO ?_
    refine ev_nm 0 ?_
    refine ev_int ?_
    walk_at "qx"
    refine ev_int ?_
    walk_at "qo"
    refine eg_subO ?_
    refine ev_nm 0 ?_
    refine ev_int ?_
    refine ⟨_, _, 1, _, _, _, rfl, rfl, rfl, rfl, ?_⟩
    refine wp_cons ?_
    refine w_if ?_
    refine et_le ?_
    refine ev_ixO ?_
    refine ev_nm 0 ?_
    refine ev_int ?_
    walk_at "qx"
    refine ev_len B rfl ?_
    refine ea_cons ?_
    refine ev_ixO ?_
    refine ev_nm 0 ?_
    refine ev_int ?_
    walk_at "qx"
    refine ea_nil ?_
    walk_at "qo"
    walk_at "qo"
    refine branch (fun hb => ?_) fun hb => ?_
    ·
      have hb2 : pos + 1 ≤ sc.length := of_decide_eq_true hb
      obtain ⟨cell, hc⟩ := atI_some (xs := sc) (i := pos + 1 - 1) (by omega) (by omega)
      refine wp_cons ?_
      refine w_st ok 3 ?_
      refine ev_ix ?_
      refine ev_ixO ?_
      refine ev_nm 0 ?_
      refine ev_int ?_
      walk_at "qx"
      refine ev_sub ?_
      refine ev_ixO ?_
      refine ev_nm 0 ?_
      refine ev_int ?_
      walk_at "qx"
      refine ev_int ?_
      walk_at "qo"
      refine getD_n hc ?_
      refine wp_cons ?_
      refine w_asg [] ?_
      refine Ev.imp (Ψ' := fun d W1 => (∃ q : Int, d = .p (.int q)) ∧ W1 = Lw ++ (a, diceL sc (pos + 1) mix rest) :: Rw) (ev_if ?_) ?_
      · refine et_ge ?_
        refine ev_nm 3 ?_
        refine ev_pow ?_
        refine ev_int ?_
        refine ev_int ?_
        walk_at "qo"
        refine branch (fun hb => ?_) fun hb => ?_
        · refine ev_div ?_
          refine ev_nm 3 ?_
          refine ev_nm 1 ?_
          walk_at "qo"
          exact ⟨⟨_, rfl⟩, rfl⟩
        · refine ev_int ?_
          exact ⟨⟨_, rfl⟩, rfl⟩
      rintro d W1 ⟨⟨q, rfl⟩, rfl⟩
      refine eg_subO ?_
      refine ev_nm 0 ?_
      refine ev_int ?_
      refine ⟨_, _, 3, _, _, _, rfl, rfl, rfl, rfl, ?_⟩
      refine wp_one ?_
      refine w_ret ?_
      refine ev_mod ?_
      refine ev_toint B rfl ?_
      refine ea_cons ?_
      refine ev_nm 3 ?_
      refine ea_nil ?_
      walk_at "qo"
      refine ev_nm 1 ?_
      walk_at "qo"
      exact k _ _ (Int.emod_nonneg _ (by omega)) (Int.emod_lt_of_pos _ hm) ⟨_, _, _, _, rfl, by omega⟩
    ·
      refine wp_nil ?_
      refine wp_cons ?_
      refine w_asg [] ?_
      refine ev_mod ?_
      refine ev_toint B rfl ?_
      refine ea_cons ?_
      refine ev_mul ?_
      refine ev_ixO ?_
      refine ev_nm 0 ?_
      refine ev_int ?_
      walk_at "qx"
      refine ev_int ?_
      walk_at "qo"
      refine ea_nil ?_
      walk_at "qo"
      refine ev_int ?_
      walk_at "qo"
      refine eg_subO ?_
      refine ev_nm 0 ?_
      refine ev_int ?_
      refine ⟨_, _, 2, _, _, _, rfl, rfl, rfl, rfl, ?_⟩
      refine wp_one ?_
      refine w_ret ?_
      refine ev_mod ?_
      refine ev_toint B rfl ?_
      refine ea_cons ?_
      refine ev_div ?_
      refine ev_ixO ?_
      refine ev_nm 0 ?_
      refine ev_int ?_
      walk_at "qx"
      refine ev_int ?_
      walk_at "qo"
      refine ea_nil ?_
      walk_at "qo"
      refine ev_nm 1 ?_
      walk_at "qo"
      exact k _ _ (Int.emod_nonneg _ (by omega)) (Int.emod_lt_of_pos _ hm) ⟨_, _, _, _, rfl, by omega⟩

end Q
namespace Q
open PySem PySem.Spec PyProof.Rows L2
open Evl (Ex)
/-- the constants of the program -/
structure Glo (mg : Str → Option Value) : Prop where
  last : ∃ t, mg "LAST" = some (.int 1000000000000000000 t)
  rows : ∃ t, mg "MOST_ROWS" = some (.int 24 t)
  inRow : ∃ t, mg "MOST_IN_ROW" = some (.int 9 t)
  figs : ∃ t, mg "FIGURES" = some (.str "0123456789" t)
abbrev sIsNum : Stmt := topS 9
def isNum (lo hi : Int) : PyData → Bool
  | .int i => decide (lo ≤ i) && decide (i ≤ hi)
  | _ => false
def numKind : PyData → Bool
  | .int _ | .bool _ | .none | .str _ => true
  | _ => false
def cIsNum : Con := fun ds W Ψ Ξ => ∃ pd lo hi, ds = [.p pd, .p (.int lo), .p (.int hi)] ∧ numKind pd = true ∧ Ψ (.p (.bool (isNum lo hi pd))) W
theorem scIsNum : FnScope ["value", "lowest", "highest"] ["value", "lowest", "highest"] (defScope sIsNum) := ⟨rfl, rfl, rfl, by decide +kernel, rfl, by decide +kernel, by decide +kernel⟩
theorem bIsNum {K : PySem.W.Frag} {f : Addr} {fd : FuncData} (F : Fun K "is_number" "is_number" sIsNum f fd) : Binds K fd ["value", "lowest", "highest"] [] := F.binds fun _ _ _ _ _ _ us hl => match us, hl with | [_, _, _], _ => rfl
theorem kII : kitB "int" "int" = some true := by decide +kernel
theorem kIB : kitB "int" "bool" = some false := by decide +kernel
theorem kBI : kitB "bool" "int" = some true := by decide +kernel
theorem kBB : kitB "bool" "bool" = some true := by decide +kernel
theorem kStI : kitB "str" "int" = some false := by decide +kernel
theorem kNI : kitB "NoneType" "int" = some false := by decide +kernel
theorem kTT : kitB "tuple" "tuple" = some true := by decide +kernel
theorem kSS : kitB "str" "str" = some true := by decide +kernel
theorem btInt : bootBuiltins "int" = some (.type "int") := by decide +kernel
theorem btBool : bootBuiltins "bool" = some (.type "bool") := by decide +kernel
theorem btTuple : bootBuiltins "tuple" = some (.type "tuple") := by decide +kernel
theorem btStr : bootBuiltins "str" = some (.type "str") := by decide +kernel
theorem okIsNum {L : Pl} {f : Addr} {fd : FuncData} (B : Blt L.mg) (F : Fun L.K "is_number" "is_number" sIsNum f fd) : FnC L 1 f cIsNum := by
  refine fn_body F scIsNum (bIsNum F) (fun ds W Ψ Ξ ⟨_, _, _, h, _⟩ => by rw [h] <;> rfl) ?_
  rintro U hL ok hk ⟨f', cd, A, outer, s, H, E, T, G, Ξ, rfl⟩ ds W Ψ ⟨pd, lo, hi, rfl, hnk, k⟩
  refine wp_one ?_
  refine w_ret ?_
  refine ev_and ?_
  refine ev_isi (T := "int") B rfl rfl B.int btInt ?_
  refine ev_nm 0 ?_
  cases pd with
  | int i =>
    refine ⟨"int", true, rfl, kII, boolD (branch' (fun h => nomatch h) fun _ => ?_)⟩
    refine ev_and ?_
    refine ev_not ?_
    refine ev_isi (T := "bool") B rfl rfl B.bool btBool ?_
    refine ev_nm 0 ?_
    refine ⟨"int", false, rfl, kIB, boolD (boolD (branch' (fun h => nomatch h) fun _ => ?_))⟩
    refine ev_one ?_
    refine ev_chain_le rfl ?_
    refine ev_nm 1 ?_
    refine ev_nm 0 ?_
    refine cmpD ?_
    refine ⟨fun hb => ?_, fun hb => ?_⟩
    · have e : isNum lo hi (.int i) = false := by
        have hb' : ¬ lo ≤ i := of_decide_eq_false hb
        simp [isNum, hb']
      rw [e] at k
      exact k
    · refine ev_nm 2 ?_
      refine cmpD ?_
      have e : isNum lo hi (.int i) = decide (i ≤ hi) := by
        have hb' : lo ≤ i := of_decide_eq_true hb
        simp [isNum, hb']
      rw [e] at k
      exact k
  | bool b =>
    refine ⟨"bool", true, rfl, kBI, boolD (branch' (fun h => nomatch h) fun _ => ?_)⟩
    refine ev_and ?_
    refine ev_not ?_
    refine ev_isi (T := "bool") B rfl rfl B.bool btBool ?_
    refine ev_nm 0 ?_
    exact ⟨"bool", true, rfl, kBB, boolD (boolD (branch' (fun _ => k) fun h => nomatch h))⟩
  | none => exact ⟨"NoneType", false, rfl, kNI, boolD (branch' (fun _ => k) fun h => nomatch h)⟩
  | str _ => exact ⟨"str", false, rfl, kStI, boolD (branch' (fun _ => k) fun h => nomatch h)⟩
  | list _ => cases hnk
  | tuple _ => cases hnk
  | dict _ => cases hnk
/-! ### check_number -/
abbrev sCheck : Stmt := topS 10
def cCheck : Con := fun ds W Ψ Ξ => ∃ pd lo hi, ds = [.p pd, .p (.int lo), .p (.int hi)] ∧ numKind pd = true ∧ lo.natAbs.log2 < 1000 ∧ hi.natAbs.log2 < 1000 ∧ (toString lo : Str).length ≤ 1000 ∧ (toString hi : Str).length ≤ 1000 ∧ (isNum lo hi pd = true → Ψ (.p .none) W) ∧ (isNum lo hi pd = false → Ξ .num W)
theorem scCheck : FnScope ["value", "lowest", "highest"] ["value", "lowest", "highest"] (defScope sCheck) := ⟨rfl, rfl, rfl, by decide +kernel, rfl, by decide +kernel, by decide +kernel⟩
theorem bCheck {K : PySem.W.Frag} {f : Addr} {fd : FuncData} (F : Fun K "check_number" "check_number" sCheck f fd) : Binds K fd ["value", "lowest", "highest"] [] := F.binds fun _ _ _ _ _ _ us hl => match us, hl with | [_, _, _], _ => rfl
theorem okCheck {L : Pl} {f : Addr} {fd : FuncData} (B : Blt L.mg) (X : ExcP L.K L.P L.w L.cN) (gN : L.mg "InvalidNumber" = some (.ref L.cN)) (DN : DefC L "is_number" 1 cIsNum) (F : Fun L.K "check_number" "check_number" sCheck f fd) : FnC L 2 f cCheck := by
  refine fn_body F scCheck (bCheck F) (fun ds W Ψ Ξ ⟨_, _, _, h, _⟩ => by rw [h] <;> rfl) ?_
  rintro U hL ok hk ⟨f', cd, A, outer, s, H, E, T, G, Ξ, rfl⟩ ds W Ψ ⟨pd, lo, hi, rfl, hnk, hlo, hhi, hl1, hl2, k1, k2⟩
  refine wp_one ?_
  refine w_if ?_
  refine et_not ?_
  refine et_val ?_
  refine ev_call hL ok DN (Nat.le_refl _) rfl ?_
  refine ea_cons ?_
  refine ev_nm 0 ?_
  refine ea_cons ?_
  refine ev_nm 1 ?_
  refine ea_cons ?_
  refine ev_nm 2 ?_
  refine ea_nil ?_
  refine ⟨pd, lo, hi, rfl, hnk, ?_⟩
  refine truD_b ?_
  refine branch (fun hb => ?_) fun hb => ?_
  · refine wp_one ?_
    refine w_raise (xc := .num) ok X gN rfl (fun H => ⟨rfl, rfl⟩) ?_
    refine ev_joined ?_
    refine ev_str ?_
    have sz : ∀ n : Nat, n ≤ 10000 → n ≤ sizeLine := fun n h => by rw [sizeLine_eq]; omega
    have c1 : (Str.empty ++ "this must be a number from " : Str).length ≤ 100 := by decide +kernel
    have c2 : (" to " : Str).length ≤ 100 := by decide +kernel
    refine ⟨_, rfl, sz _ (by omega), ?_⟩
    refine ev_fmt ?_
    refine ev_nm 1 ?_
    refine ⟨lo, rfl, by omega, ?_⟩
    refine ⟨_, rfl, sz _ (by rw [PySem.Str.length_append]; omega), ?_⟩
    refine ev_str ?_
    refine ⟨_, rfl, sz _ (by rw [PySem.Str.length_append, PySem.Str.length_append]; omega), ?_⟩
    refine ev_fmt ?_
    refine ev_nm 2 ?_
    refine ⟨hi, rfl, by omega, ?_⟩
    refine ⟨_, rfl, sz _ (by rw [PySem.Str.length_append, PySem.Str.length_append, PySem.Str.length_append]; omega), ?_⟩
    exact k2 (by simpa using hb)
  · refine wp_nil ?_
    exact k1 (by simpa using hb)
/-! ### _is_row -/
abbrev sIsRow : Stmt := topS 20
def rowOk (r : Int × Int) : Prop := 0 ≤ r.1 ∧ r.1 ≤ 9 ∧ 0 ≤ r.2 ∧ r.2 ≤ 9
def cIsRow : Con := fun ds W Ψ Ξ => ∃ r, ds = [.p (rowD r)] ∧ rowOk r ∧ Ψ (.p (.bool true)) W
theorem scIsRow : FnScope ["value"] ["value"] (defScope sIsRow) := ⟨rfl, rfl, rfl, by decide +kernel, rfl, by decide +kernel, by decide +kernel⟩
theorem bIsRow {K : PySem.W.Frag} {f : Addr} {fd : FuncData} (F : Fun K "_is_row" "_is_row" sIsRow f fd) : Binds K fd ["value"] [] := F.binds fun _ _ _ _ _ _ us hl => match us, hl with | [_], _ => rfl
theorem isNum_in {i : Int} (h0 : 0 ≤ i) (h1 : i ≤ 9) : isNum 0 9 (.int i) = true := by simp [isNum, h0, h1]
theorem okIsRow {L : Pl} {f : Addr} {fd : FuncData} (B : Blt L.mg) (Gs : Glo L.mg) (DN : DefC L "is_number" 1 cIsNum) (F : Fun L.K "_is_row" "_is_row" sIsRow f fd) : FnC L 2 f cIsRow := by
  refine fn_body F scIsRow (bIsRow F) (fun ds W Ψ Ξ ⟨_, h, _⟩ => by rw [h] <;> rfl) ?_
  rintro U hL ok hk ⟨f', cd, A, outer, s, H, E, T, G, Ξ, rfl⟩ ds W Ψ ⟨r, rfl, ⟨h1, h2, h3, h4⟩, k⟩
  refine wp_cons ?_
  refine w_if ?_
  refine et_of ?_
  refine ew_or ?_
  refine et_not ?_
  refine et_val ?_
  refine ev_isi (T := "tuple") B rfl rfl B.tuple btTuple ?_
  refine ev_nm 0 ?_
  refine ⟨"tuple", true, rfl, kTT, truD_b (branch (fun h => nomatch h) fun _ => ?_)⟩
  refine ew_one ?_
  refine et_ne ok ?_
  refine ev_len B rfl ?_
  refine ea_cons ?_
  refine ev_nm 0 ?_
  refine ea_nil ?_
  refine lenD_t ?_
  refine ev_int ?_
  refine eqD_i (tbool (branch (fun h => nomatch h) fun _ => ?_))
  refine wp_nil ?_
  refine wp_one ?_
  refine w_ret ?_
  refine ev_and ?_
  refine ev_call hL ok DN (Nat.le_refl _) rfl ?_
  refine ea_cons ?_
  refine ev_ix ?_
  refine ev_nm 0 ?_
  refine ev_int ?_
  refine getD_t (d := .int r.1) rfl ?_
  refine ea_cons ?_
  refine ev_int ?_
  refine ea_cons ?_
  refine ev_globI rfl Gs.inRow ?_
  refine ea_nil ?_
  refine ⟨_, _, _, rfl, rfl, ?_⟩
  rw [isNum_in h1 h2]
  refine boolD (branch' (fun h => nomatch h) fun _ => ?_)
  refine ev_one ?_
  refine ev_call hL ok DN (Nat.le_refl _) rfl ?_
  refine ea_cons ?_
  refine ev_ix ?_
  refine ev_nm 0 ?_
  refine ev_int ?_
  refine getD_t (d := .int r.2) rfl ?_
  refine ea_cons ?_
  refine ev_int ?_
  refine ea_cons ?_
  refine ev_globI rfl Gs.inRow ?_
  refine ea_nil ?_
  refine ⟨_, _, _, rfl, rfl, ?_⟩
  rw [isNum_in h3 h4]
  exact k
/-! ### _first_wrong -/
abbrev sFW : Stmt := topS 21
def cFW : Con := fun ds W Ψ Ξ => ∃ rows : List (Int × Int), ds = [.p (.tuple (rows.map rowD))] ∧ 0 < rows.length ∧ rows.length ≤ 24 ∧ (∀ r ∈ rows, rowOk r) ∧ Ψ (.p .none) W
theorem scFW : FnScope ["rows", "index", "row"] ["rows"] (defScope sFW) := ⟨rfl, rfl, rfl, by decide +kernel, rfl, by decide +kernel, by decide +kernel⟩
theorem bFW {K : PySem.W.Frag} {f : Addr} {fd : FuncData} (F : Fun K "_first_wrong" "_first_wrong" sFW f fd) : Binds K fd ["rows"] [] := F.binds fun _ _ _ _ _ _ us hl => match us, hl with | [_], _ => rfl
theorem okFW {L : Pl} {f : Addr} {fd : FuncData} (B : Blt L.mg) (Gs : Glo L.mg) (DR : DefC L "_is_row" 2 cIsRow) (F : Fun L.K "_first_wrong" "_first_wrong" sFW f fd) : FnC L 3 f cFW := by
  refine fn_body F scFW (bFW F) (fun ds W Ψ Ξ ⟨_, h, _⟩ => by rw [h] <;> rfl) ?_
  rintro U hL ok hk ⟨f', cd, A, outer, s, H, E, T, G, Ξ, rfl⟩ ds W Ψ ⟨rows, rfl, hl0, hl1, hr, k⟩
  refine wp_cons ?_
  refine w_if ?_
  refine et_not ?_
  refine et_val ?_
  refine ev_nm 0 ?_
  refine truD_t ?_
  refine branch (fun hb => ?_) fun hb => ?_
  · cases rows with
    | nil => simp at hl0
    | cons _ _ => cases hb
  · refine wp_nil ?_
    refine wp_cons ?_
    refine w_for ok ([1] ++ ([2] ++ [])) ?_
    refine ei_enumT B rfl ?_
    refine ea_cons ?_
    refine ev_nm 0 ?_
    refine ea_nil ?_
    refine ⟨_, rfl, ?_⟩
    refine ⟨fun i env' W' => W' = W ∧ ∃ a b, env' = [some (.p (.tuple (rows.map rowD))), a, b], ⟨rfl, _, _, rfl⟩, ?_, ?_⟩
    · rintro i env' W' hi ⟨rfl, a, b, rfl⟩
      have hi' : i < rows.length := by simpa using hi
      obtain ⟨r, hr'⟩ := lt_some hi'
      have er : (rows.map rowD).getD i .none = rowD r := by rw [List.getD_eq_getElem?_getD, List.getElem?_map, hr'] <;> rfl
      refine eg_tup ok ⟨[.int i, rowD r], by rw [← er], rfl, ?_⟩
      refine egs_cons ?_
      refine eg_nm ok 1 ?_
      refine egs_cons ?_
      refine eg_nm ok 2 ?_
      refine egs_nil ?_
      refine wp_one ?_
      refine w_if ?_
      refine et_of ?_
      refine ew_or ?_
      refine et_eq ok ?_
      refine ev_nm 1 ?_
      refine ev_globI rfl Gs.rows ?_
      refine eqD_i (tbool (branch (fun h => ?_) fun _ => ?_))
      · have h' : (i : Int) = 24 := of_decide_eq_true h
        omega
      refine ew_one ?_
      refine et_not ?_
      refine et_val ?_
      refine ev_call hL ok DR (Nat.le_refl _) rfl ?_
      refine ea_cons ?_
      refine ev_nm 2 ?_
      refine ea_nil ?_
      refine ⟨r, rfl, hr r (List.mem_of_getElem? hr'), ?_⟩
      refine truD_b (branch (fun h => nomatch h) fun _ => ?_)
      refine wp_nil ?_
      exact ⟨rfl, _, _, rfl⟩
    · rintro env' W' ⟨rfl, a, b, rfl⟩
      refine wp_one ?_
      refine w_ret ?_
      refine ev_non ?_
      exact k
/-! ### _figures, _simple_rows -/
abbrev sFig : Stmt := topS 22
/-- the text of a list of figures -/
def figS (ns : List Nat) : Str := ⟨(ns.map (· + 48)).toArray⟩
def cFig : Con := fun ds W Ψ Ξ => ∃ ns : List Nat, ds = [.p (.str (figS ns))] ∧ (∀ n ∈ ns, n ≤ 9) ∧ ns.length ≤ 1000 ∧ Ψ (.p (.list (ns.map fun n => .int (n : Nat)))) W
theorem scFig : FnScope ["text", "mark"] ["text"] (defScope sFig) := ⟨rfl, rfl, rfl, by decide +kernel, rfl, by decide +kernel, by decide +kernel⟩
theorem bFig {K : PySem.W.Frag} {f : Addr} {fd : FuncData} (F : Fun K "_figures" "_figures" sFig f fd) : Binds K fd ["text"] [] := F.binds fun _ _ _ _ _ _ us hl => match us, hl with | [_], _ => rfl
theorem fig_digit : ∀ n : Fin 10, PySem.intText? ⟨#[n.val + 48]⟩ = some (n.val : Int) := by decide +kernel
theorem fig_in : ∀ n : Fin 10, decide ((n.val + 48) ∈ ("0123456789" : Str).cps.toList) = true := by decide +kernel
theorem figS_at {ns : List Nat} {i : Nat} {n : Nat} (h : ns[i]? = some n) : (figS ns).cps.getD i 0 = n + 48 := by
  unfold figS
  rw [Array.getD_eq_getD_getElem?]
  simp [h]
theorem okFig {L : Pl} {f : Addr} {fd : FuncData} (B : Blt L.mg) (Gs : Glo L.mg) (F : Fun L.K "_figures" "_figures" sFig f fd) : FnC L 1 f cFig := by
  refine fn_body F scFig (bFig F) (fun ds W Ψ Ξ ⟨_, h, _⟩ => by rw [h] <;> rfl) ?_
  rintro U hL ok hk ⟨f', cd, A, outer, s, H, E, T, G, Ξ, rfl⟩ ds W Ψ ⟨ns, rfl, hn, hlen, k⟩
  refine wp_cons ?_
  refine w_if ?_
  refine et_not ?_
  refine et_val ?_
  refine ev_isi (T := "str") B rfl rfl B.str btStr ?_
  refine ev_nm 0 ?_
  refine ⟨"str", true, rfl, kSS, truD_b (branch (fun h => nomatch h) fun _ => ?_)⟩
  refine wp_nil ?_
  refine wp_one ?_
  refine w_ret ?_
  refine ev_lc ok [("mark", 1)] [1] (by simp) (blkOk_by (by rfl)) (by decide) (lc_pure ?_)
  refine ei_str ?_
  refine ev_nm 0 ?_
  refine ⟨_, rfl, ?_⟩
  have hsz : (figS ns).cps.size = ns.length := by simp [figS]
  rw [hsz]
  refine ⟨fun i => [some (.p (.str (figS ns))), some (.p (.str ⟨#[(figS ns).cps.getD i 0]⟩))], fun i => .int (ns.getD i 0 : Nat), by omega, ?_, ?_, ?_⟩
  · intro s H C cl fp i Wi hi
    refine eg_nm ok.blk 1 ?_
    exact ⟨rfl, rfl⟩
  · intro s H C cl fp i Wi hi
    obtain ⟨n, hn'⟩ := lt_some hi
    have hn9 := hn n (List.mem_of_getElem? hn')
    have eg : (figS ns).cps.getD i 0 = n + 48 := figS_at hn'
    have en : ns.getD i 0 = n := by rw [List.getD_eq_getElem?_getD, hn'] <;> rfl
    show Ev _ _ [some (.p (.str (figS ns))), some (.p (.str ⟨#[(figS ns).cps.getD i 0]⟩))] _ fun d W4 => d = D.p (.int (ns.getD i 0 : Nat)) ∧ W4 = Wi
    rw [eg, en]
    refine ev_if ?_
    refine et_inS ?_
    refine ev_nm 1 ?_
    refine ev_globS rfl Gs.figs ?_
    refine ⟨n + 48, rfl, branch (fun _ => ?_) fun hb => ?_⟩
    · refine ev_toint B rfl ?_
      refine ea_cons ?_
      refine ev_nm 1 ?_
      refine ea_nil ?_
      exact ⟨(n : Int), fig_digit ⟨n, by omega⟩, by show (1 : Nat) ≤ 640; omega, rfl, rfl⟩
    · have := fig_in ⟨n, by omega⟩
      rw [this] at hb
      cases hb
  · rw [range_map_getD ns 0 fun n => PyData.int (n : Nat)]
    exact k
abbrev sSR : Stmt := topS 23
def rowsN (ps : List (Nat × Nat)) : List (Int × Int) := ps.map fun p => ((p.1 : Nat), (p.2 : Nat))
def cSR : Con := fun ds W Ψ Ξ => ∃ ps : List (Nat × Nat), ds = [.p (.str (figS (ps.map (·.1)))), .p (.str (figS (ps.map (·.2))))] ∧ (∀ p ∈ ps, p.1 ≤ 9 ∧ p.2 ≤ 9) ∧ ps.length ≤ 1000 ∧ Ψ (.p (.list ((rowsN ps).map rowD))) W
theorem scSR : FnScope ["letters", "answers", "come", "answered", "rows"] ["letters", "answers"] (defScope sSR) := ⟨rfl, rfl, rfl, by decide +kernel, rfl, by decide +kernel, by decide +kernel⟩
theorem bSR {K : PySem.W.Frag} {f : Addr} {fd : FuncData} (F : Fun K "_simple_rows" "_simple_rows" sSR f fd) : Binds K fd ["letters", "answers"] [] := F.binds fun _ _ _ _ _ _ us hl => match us, hl with | [_, _], _ => rfl
theorem zip_rows : ∀ ps : List (Nat × Nat), ((((ps.map (·.1)).map fun n => PyData.int (n : Nat)).zip ((ps.map (·.2)).map fun n => PyData.int (n : Nat))).map fun p => PyData.tuple [p.1, p.2]) = (rowsN ps).map rowD
  | [] => rfl
  | p :: ps => by
    show PyData.tuple [.int (p.1 : Nat), .int (p.2 : Nat)] :: _ = _ :: _
    exact congrArg (PyData.tuple [.int (p.1 : Nat), .int (p.2 : Nat)] :: ·) (zip_rows ps)
theorem okSR {L : Pl} {f : Addr} {fd : FuncData} (B : Blt L.mg) (DF : DefC L "_figures" 1 cFig) (F : Fun L.K "_simple_rows" "_simple_rows" sSR f fd) : FnC L 2 f cSR := by
  refine fn_body F scSR (bSR F) (fun ds W Ψ Ξ ⟨_, h, _⟩ => by rw [h] <;> rfl) ?_
  rintro U hL ok hk ⟨f', cd, A, outer, s, H, E, T, G, Ξ, rfl⟩ ds W Ψ ⟨ps, rfl, hp, hlen, k⟩
  refine wp_cons ?_
  refine w_st ok 2 ?_
  refine ev_call hL ok DF (Nat.le_refl _) rfl ?_
  refine ea_cons ?_
  refine ev_nm 0 ?_
  refine ea_nil ?_
  refine ⟨_, rfl, fun n hn => ?_, by simpa using hlen, ?_⟩
  · obtain ⟨p, hp', rfl⟩ := List.mem_map.mp hn
    exact (hp p hp').1
  refine wp_cons ?_
  refine w_st ok 3 ?_
  refine ev_call hL ok DF (Nat.le_refl _) rfl ?_
  refine ea_cons ?_
  refine ev_nm 1 ?_
  refine ea_nil ?_
  refine ⟨_, rfl, fun n hn => ?_, by simpa using hlen, ?_⟩
  · obtain ⟨p, hp', rfl⟩ := List.mem_map.mp hn
    exact (hp p hp').2
  refine wp_cons ?_
  refine w_st ok 4 ?_
  refine ev_listZip ok B rfl rfl ?_
  refine ea_cons ?_
  refine ev_nm 2 ?_
  refine ea_cons ?_
  refine ev_nm 3 ?_
  refine ea_nil ?_
  refine ⟨_, _, rfl, ?_⟩
  rw [zip_rows ps]
  refine wp_cons ?_
  refine w_if ?_
  refine et_ne ok ?_
  refine ev_len B rfl ?_
  refine ea_cons ?_
  refine ev_nm 2 ?_
  refine ea_nil ?_
  refine lenD_l ?_
  refine ev_len B rfl ?_
  refine ea_cons ?_
  refine ev_nm 3 ?_
  refine ea_nil ?_
  refine lenD_l (eqD_i (tbool (branch (fun hb => ?_) fun _ => ?_)))
  · simp at hb
  refine wp_nil ?_
  refine wp_one ?_
  refine w_ret ?_
  refine ev_nm 4 ?_
  exact k

end Q
namespace Q
open PySem PySem.Spec PyProof.Rows L2
open Evl (Ex)
abbrev sInit : Stmt := inClass (topS 25) 0
abbrev sSimple : Stmt := inClass (topS 25) 1
abbrev sGrow : Stmt := inClass (topS 25) 4
abbrev sCall : Stmt := inClass (topS 25) 11
/-- what the text must have of the class -/
structure TCl (K : PySem.W.Frag) (C : Addr) : Prop where
  cls : Cls K C
  rows : NoAttr K C "_rows"
def rowsOk (rows : List (Int × Int)) : Prop := 0 < rows.length ∧ rows.length ≤ 24 ∧ ∀ r ∈ rows, rowOk r
def cInit (C : Addr) : Con := fun ds W Ψ Ξ => ∃ (x dx : Addr) (rows : List (Int × Int)) (Lw Rw : Ow), ds = [.adr x, .p (.tuple (rows.map rowD))] ∧ rowsOk rows ∧ W = Lw ++ (x, .ins C dx []) :: Rw ∧ Ψ (.p .none) (Lw ++ (x, .ins C dx [("_rows", .p (.tuple (rows.map rowD)))]) :: Rw)
theorem scInit : FnScope ["self", "rows", "wrong", "come", "answers"] ["self", "rows"] (defScope sInit) := ⟨rfl, rfl, rfl, by decide +kernel, rfl, by decide +kernel, by decide +kernel⟩
theorem okInit {L : Pl} {f : Addr} {fd : FuncData} (B : Blt L.mg) (TC : TCl L.K L.C) (DW : DefC L "_first_wrong" 3 cFW) (F : Fun L.K "__init__" "Timetable.__init__" sInit f fd) : FnR L.P L.w L.K L.mg L.base (L2.CX L.P L.w) 4 f (starSp (spG L (cInit L.C))) := by
  refine fn_body_star F scInit (fun _ _ _ _ _ _ _ => rfl) (fun _ _ _ _ _ _ _ _ _ => rfl) ?_
  rintro U hL ok hk ⟨f', cd, A, outer, s, H, E, T, G, Ξ, rfl⟩ ds W Ψ ⟨x, dx, rows, Lw, Rw, rfl, ⟨hl0, hl1, hr⟩, rfl, k⟩
  refine wp_cons ?_
  refine w_st ok 2 ?_
  refine ev_call hL ok DW (Nat.le_refl _) rfl ?_
  refine ea_cons ?_
  refine ev_nm 1 ?_
  refine ea_nil ?_
  refine ⟨rows, rfl, hl0, hl1, hr, ?_⟩
  refine wp_cons ?_
  refine w_if ?_
  refine et_isnotN ?_
  refine ev_nm 2 ?_
  refine branch (fun hb => nomatch hb) fun _ => ?_
  refine wp_nil ?_
  refine wp_one ?_
  refine w_fld0 TC.cls TC.rows ?_
  refine ev_tuple B rfl ?_
  refine ea_cons ?_
  refine ev_lc ok [("come", 3), ("answers", 4)] ([3] ++ ([4] ++ [])) (by simp) (blkOk_by (by rfl)) (by decide) (lc_pure ?_)
  refine ei_tup ?_
  refine ev_nm 1 ?_
  refine ⟨_, rfl, ?_⟩
  have el : (rows.map rowD).length = rows.length := List.length_map _
  refine ⟨fun i => [some (.adr x), some (.p (.tuple (rows.map rowD))), some (.p .none), some (.p (.int (rows.getD i (0, 0)).1)), some (.p (.int (rows.getD i (0, 0)).2))], fun i => rowD (rows.getD i (0, 0)), by omega, ?_, ?_, ?_⟩
  · intro s H C cl fp i Wi hi
    obtain ⟨r, hr'⟩ := lt_some (l := rows) (i := i) (by omega)
    have er : rows.getD i (0, 0) = r := by rw [List.getD_eq_getElem?_getD, hr'] <;> rfl
    rw [datAt_map hr']
    subst er
    refine eg_tup ok.blk ⟨_, rfl, rfl, ?_⟩
    refine egs_cons ?_
    refine eg_nm ok.blk 3 ?_
    refine egs_cons ?_
    refine eg_nm ok.blk 4 ?_
    refine egs_nil ?_
    exact ⟨rfl, rfl⟩
  · intro s H C cl fp i Wi hi
    refine ev_tup ?_
    refine ea_cons ?_
    refine ev_nm 3 ?_
    refine ea_cons ?_
    refine ev_nm 4 ?_
    refine ea_nil ?_
    refine allP_cons (allP_cons (allP_nil ⟨by show 2 ≤ 1000; omega, rfl, rfl⟩))
  rw [el, range_map_getD rows (0, 0) rowD]
  refine ea_nil ?_
  refine tupOf_l ?_
  refine ev_nm 0 ?_
  exact ⟨x, dx, Lw, Rw, rfl, rfl, k⟩
/-! ### simple -/
def psOk (ps : List (Nat × Nat)) : Prop := 0 < ps.length ∧ ps.length ≤ 24 ∧ ∀ p ∈ ps, p.1 ≤ 9 ∧ p.2 ≤ 9
theorem psOk.rows {ps : List (Nat × Nat)} (h : psOk ps) : rowsOk (rowsN ps) := by
  refine ⟨by simpa [rowsN] using h.1, by simpa [rowsN] using h.2.1, fun r hr => ?_⟩
  obtain ⟨p, hp, rfl⟩ := List.mem_map.mp hr
  have := h.2.2 p hp
  exact ⟨by show (0 : Int) ≤ (p.1 : Nat); omega, by show ((p.1 : Nat) : Int) ≤ 9; omega, by show (0 : Int) ≤ (p.2 : Nat); omega, by show ((p.2 : Nat) : Int) ≤ 9; omega⟩
def cSimple (C : Addr) : Con := fun ds W Ψ Ξ => ∃ ps : List (Nat × Nat), ds = [.adr C, .p (.str (figS (ps.map (·.1)))), .p (.str (figS (ps.map (·.2))))] ∧ psOk ps ∧ Ψ (.tt (rowsN ps)) W
theorem scSimple : FnScope ["cls", "letters", "answers", "rows"] ["cls", "letters", "answers"] (defScope sSimple) := ⟨rfl, rfl, rfl, by decide +kernel, rfl, by decide +kernel, by decide +kernel⟩
theorem bSimple {K : PySem.W.Frag} {f : Addr} {fd : FuncData} (F : Fun K "simple" "Timetable.simple" sSimple f fd) : Binds K fd ["cls", "letters", "answers"] [] := F.binds fun _ _ _ _ _ _ us hl => match us, hl with | [_, _, _], _ => rfl
theorem okSimple {L : Pl} {f fi : Addr} {fd : FuncData} (M : Mk L.K L.C fi) (FI : FnR L.P L.w L.K L.mg L.base (L2.CX L.P L.w) 4 fi (starSp (spG L (cInit L.C)))) (DS : DefC L "_simple_rows" 2 cSR) (F : Fun L.K "simple" "Timetable.simple" sSimple f fd) : FnC L 6 f (cSimple L.C) := by
  refine fn_body F scSimple (bSimple F) (fun ds W Ψ Ξ ⟨_, h, _⟩ => by rw [h] <;> rfl) ?_
  rintro U hL ok hk ⟨f', cd, A, outer, s, H, E, T, G, Ξ, rfl⟩ ds W Ψ ⟨ps, rfl, hp, k⟩
  refine wp_cons ?_
  refine w_st ok 3 ?_
  refine ev_call hL ok DS (by show 2 ≤ 5; omega) rfl ?_
  refine ea_cons ?_
  refine ev_nm 1 ?_
  refine ea_cons ?_
  refine ev_nm 2 ?_
  refine ea_nil ?_
  refine ⟨ps, rfl, hp.2.2, by have := hp.2.1; omega, ?_⟩
  refine wp_one ?_
  refine w_ret ?_
  refine ev_makeS hL ok M FI (by show 5 ≤ 5; omega) ?_
  refine ev_nm 0 ?_
  refine both rfl ?_
  refine ev_nm 3 ?_
  refine ⟨_, .inl rfl, by have := hp.rows.2.1; rw [List.length_map]; omega, fun x dx => ?_⟩
  exact ⟨x, dx, rowsN ps, [], _, rfl, hp.rows, rfl, rfl, rowsN ps, _, rfl, k⟩
/-! ### growth_of, height_before; growth, the call -/
def total (rows : List (Int × Int)) : Int := (rows.map fun r => r.1 - r.2).sum
abbrev sGO : Stmt := topS 13
def cGO : Con := fun ds W Ψ Ξ => ∃ rows, ds = [.p (.tuple (rows.map rowD))] ∧ rowsOk rows ∧ Ψ (.p (.int (max 0 (total rows)))) W
theorem scGO : FnScope ["rows", "come", "answers"] ["rows"] (defScope sGO) := ⟨rfl, rfl, rfl, by decide +kernel, rfl, by decide +kernel, by decide +kernel⟩
theorem bGO {K : PySem.W.Frag} {f : Addr} {fd : FuncData} (F : Fun K "growth_of" "growth_of" sGO f fd) : Binds K fd ["rows"] [] := F.binds fun _ _ _ _ _ _ us hl => match us, hl with | [_], _ => rfl
theorem okGO {L : Pl} {f : Addr} {fd : FuncData} (B : Blt L.mg) (F : Fun L.K "growth_of" "growth_of" sGO f fd) : FnC L 1 f cGO := by
  refine fn_body F scGO (bGO F) (fun ds W Ψ Ξ ⟨_, h, _⟩ => by rw [h] <;> rfl) ?_
  rintro U hL ok hk ⟨f', cd, A, outer, s, H, E, T, G, Ξ, rfl⟩ ds W Ψ ⟨rows, rfl, ⟨hl0, hl1, hr⟩, k⟩
  refine wp_one ?_
  refine w_ret ?_
  refine ev_max2 ok B rfl ?_
  refine ea_cons ?_
  refine ev_int ?_
  refine ea_cons ?_
  refine ev_sum ok B rfl ?_
  refine ea_cons ?_
  refine ev_lc ok [("come", 1), ("answers", 2)] ([1] ++ ([2] ++ [])) (by simp) (blkOk_by (by rfl)) (by decide) (lc_pure ?_)
  refine ei_tup ?_
  refine ev_nm 0 ?_
  refine ⟨_, rfl, ?_⟩
  have el : (rows.map rowD).length = rows.length := List.length_map _
  refine ⟨fun i => [some (.p (.tuple (rows.map rowD))), some (.p (.int (rows.getD i (0, 0)).1)), some (.p (.int (rows.getD i (0, 0)).2))], fun i => .int ((rows.getD i (0, 0)).1 - (rows.getD i (0, 0)).2), by omega, ?_, ?_, ?_⟩
  · intro s H C cl fp i Wi hi
    obtain ⟨r, hr'⟩ := lt_some (l := rows) (i := i) (by omega)
    have er : rows.getD i (0, 0) = r := by rw [List.getD_eq_getElem?_getD, hr'] <;> rfl
    rw [datAt_map hr']
    subst er
    refine eg_tup ok.blk ⟨_, rfl, rfl, ?_⟩
    refine egs_cons ?_
    refine eg_nm ok.blk 1 ?_
    refine egs_cons ?_
    refine eg_nm ok.blk 2 ?_
    refine egs_nil ?_
    exact ⟨rfl, rfl⟩
  · intro s H C cl fp i Wi hi
    refine ev_sub ?_
    refine ev_nm 1 ?_
    refine ev_nm 2 ?_
    refine subD ?_
    exact ⟨rfl, rfl⟩
  rw [el, range_map_getD rows (0, 0) fun r => PyData.int (r.1 - r.2)]
  refine ea_nil ?_
  refine ⟨rows.map fun r => r.1 - r.2, by rw [List.map_map] <;> rfl, ?_⟩
  refine ea_nil ?_
  refine two_i ?_
  exact k
def cGrow : Con := fun ds W Ψ Ξ => ∃ rows, ds = [.tt rows] ∧ rowsOk rows ∧ Ψ (.p (.int (max 0 (total rows)))) W
theorem scGrow : FnScope ["self"] ["self"] (defScope sGrow) := ⟨rfl, rfl, rfl, by decide +kernel, rfl, by decide +kernel, by decide +kernel⟩
theorem bGrow {K : PySem.W.Frag} {f : Addr} {fd : FuncData} (F : Fun K "growth" "Timetable.growth" sGrow f fd) : Binds K fd ["self"] [] := F.binds fun _ _ _ _ _ _ us hl => match us, hl with | [_], _ => rfl
theorem okGrow {L : Pl} {f : Addr} {fd : FuncData} (TC : TCl L.K L.C) (DG : DefC L "growth_of" 1 cGO) (F : Fun L.K "growth" "Timetable.growth" sGrow f fd) : FnC L 2 f cGrow := by
  refine fn_body F scGrow (bGrow F) (fun ds W Ψ Ξ ⟨_, h, _⟩ => by rw [h] <;> rfl) ?_
  rintro U hL ok hk ⟨f', cd, A, outer, s, H, E, T, G, Ξ, rfl⟩ ds W Ψ ⟨rows, rfl, hok, k⟩
  refine wp_one ?_
  refine w_ret ?_
  refine ev_call hL ok DG (Nat.le_refl _) rfl ?_
  refine ea_cons ?_
  refine ev_rows TC.cls TC.rows ?_
  refine ev_nm 0 ?_
  refine ⟨rows, rfl, ?_⟩
  refine ea_nil ?_
  exact ⟨rows, rfl, hok, k⟩
/-- the height before a tick, as the program reckons it -/
def hB (rows : List (Int × Int)) (t : Int) : Int :=
  hAfter (rows.take (t % rows.length).toNat) (if 0 < t / rows.length then hAfter rows 0 + (t / rows.length - 1) * max 0 (total rows) else 0)
abbrev LASTN : Int := 1000000000000000000
theorem total_small : ∀ {rows : List (Int × Int)}, (∀ r ∈ rows, rowOk r) → -(9 * (rows.length : Int)) ≤ total rows ∧ total rows ≤ 9 * rows.length
  | [], _ => by simp [total]
  | r :: rows, h => by
    have h1 := total_small (rows := rows) fun x hx => h x (List.mem_cons_of_mem _ hx)
    have h2 := h r List.mem_cons_self
    have e : total (r :: rows) = r.1 - r.2 + total rows := by simp [total]
    obtain ⟨a, b, c, d⟩ := h2
    rw [e, List.length_cons]
    omega
theorem isNum_int {lo hi : Int} {pd : PyData} (h : isNum lo hi pd = true) : ∃ t, pd = .int t ∧ lo ≤ t ∧ t ≤ hi := by
  cases pd with
  | int t => exact ⟨t, rfl, by simpa [isNum] using h⟩
  | _ => cases h
theorem cut_take {xs : List PyData} {k : Int} (h0 : 0 ≤ k) (h1 : k ≤ xs.length) : cutD xs none (some k) = xs.take k.toNat := by
  unfold cutD
  have e : HT.sIx xs.length xs.length (some k) = k.toNat := by
    show (if k < 0 then _ else min k.toNat xs.length) = _
    rw [if_neg (by omega)]
    omega
  rw [e, HT.sIx_none, List.drop_zero, Nat.sub_zero]
theorem c0_1 : (0 : Int).natAbs.log2 < 1000 := by decide +kernel
theorem cL_1 : LASTN.natAbs.log2 < 1000 := by decide +kernel
theorem c0_2 : (toString (0 : Int) : Str).length ≤ 1000 := by decide +kernel
theorem cL_2 : (toString LASTN : Str).length ≤ 1000 := by decide +kernel
abbrev sHB : Stmt := topS 15
abbrev nHB : List Str := ["rows", "tick", "turns", "row", "height"]
def cHB : Con := fun ds W Ψ Ξ => ∃ rows t, ds = [.p (.tuple (rows.map rowD)), .p (.int t)] ∧ rowsOk rows ∧ 0 ≤ t ∧ Ψ (.p (.int (hB rows t))) W
theorem scHB : FnScope nHB ["rows", "tick"] (defScope sHB) := ⟨rfl, rfl, rfl, by decide +kernel, rfl, by decide +kernel, by decide +kernel⟩
theorem bHB {K : PySem.W.Frag} {f : Addr} {fd : FuncData} (F : Fun K "height_before" "height_before" sHB f fd) : Binds K fd ["rows", "tick"] [] := F.binds fun _ _ _ _ _ _ us hl => match us, hl with | [_, _], _ => rfl
theorem okHB {L : Pl} {f : Addr} {fd : FuncData} (B : Blt L.mg) (DG : DefC L "growth_of" 1 cGO) (DH : DefC L "_height_from" 1 cHF) (F : Fun L.K "height_before" "height_before" sHB f fd) : FnC L 2 f cHB := by
  refine fn_body F scHB (bHB F) (fun ds W Ψ Ξ ⟨_, _, h, _⟩ => by rw [h] <;> rfl) ?_
  rintro U hL ok hk ⟨f', cd, A, outer, s, H, E, T, G, Ξ, rfl⟩ ds W Ψ ⟨rows, t, rfl, ⟨hl0, hl1, hr⟩, ht0, k⟩
  have hn0 : (0 : Int) < rows.length := by omega
  have hm0 := Int.emod_nonneg t (b := (rows.length : Int)) (by omega)
  have hm1 := Int.emod_lt_of_pos t hn0
  have hts := total_small hr
  have el : (rows.map rowD).length = rows.length := List.length_map _
  refine wp_cons ?_
  refine w_asg ([2] ++ ([3] ++ [])) ?_
  refine ev_divmod B rfl ?_
  refine ea_cons ?_
  refine ev_nm 1 ?_
  refine ea_cons ?_
  refine ev_len B rfl ?_
  refine ea_cons ?_
  refine ev_nm 0 ?_
  refine ea_nil ?_
  refine lenD_t ?_
  rw [el]
  refine ea_nil ?_
  refine divmodD hn0 (by omega) ?_
  refine eg_tup ok ⟨_, rfl, rfl, ?_⟩
  refine egs_cons ?_
  refine eg_nm ok 2 ?_
  refine egs_cons ?_
  refine eg_nm ok 3 ?_
  refine egs_nil ?_
  refine wp_cons ?_
  refine w_st ok 4 ?_
  refine ev_int ?_
  -- the end, at any height
  have last : ∀ h0 : Int, hAfter (rows.take (t % rows.length).toNat) h0 = hB rows t → Wp (ctOf L nHB "height_before" (defScope sHB) f' cd A outer s H E T G Ξ 1) ((defBody sHB).drop 3)
      [some (.p (.tuple (rows.map rowD))), some (.p (.int t)), some (.p (.int (t / rows.length))), some (.p (.int (t % rows.length))), some (.p (.int h0))] W ⟨fun _ W => Ψ (.p .none) W, Ψ, fun _ _ => False, fun _ _ => False⟩ := by
    intro h0 e0
    refine wp_one ?_
    refine w_ret ?_
    refine ev_call hL ok DH (by show 1 ≤ 1; omega) rfl ?_
    refine ea_cons ?_
    refine ev_nm 4 ?_
    refine ea_cons ?_
    refine ev_slice ?_
    refine ev_nm 0 ?_
    refine ev_nm 3 ?_
    refine ⟨_, rfl, ?_⟩
    refine sl_t ?_
    rw [cut_take (by omega) (by omega)]
    refine ea_nil ?_
    refine ⟨rows.take (t % rows.length).toNat, h0, by rw [List.map_take], ?_⟩
    rw [e0]
    exact k
  refine wp_cons ?_
  refine w_if ?_
  refine et_gt ?_
  refine ev_nm 2 ?_
  refine ev_int ?_
  refine cmpD ?_
  refine branch (fun hb => ?_) fun hb => ?_
  · have hb' : 0 < t / rows.length := of_decide_eq_true hb
    refine wp_one ?_
    refine w_st ok 4 ?_
    refine ev_add ?_
    refine ev_call hL ok DH (by show 1 ≤ 1; omega) rfl ?_
    refine ea_cons ?_
    refine ev_int ?_
    refine ea_cons ?_
    refine ev_nm 0 ?_
    refine ea_nil ?_
    refine ⟨rows, 0, rfl, ?_⟩
    refine ev_mul ?_
    refine ev_sub ?_
    refine ev_nm 2 ?_
    refine ev_int ?_
    refine subD ?_
    refine ev_call hL ok DG (by show 1 ≤ 1; omega) rfl ?_
    refine ea_cons ?_
    refine ev_nm 0 ?_
    refine ea_nil ?_
    refine ⟨rows, rfl, ⟨hl0, hl1, hr⟩, ?_⟩
    refine mulD_r (by omega) ?_
    refine addD_i ?_
    refine last _ ?_
    unfold hB
    rw [if_pos hb']
  · have hb' : ¬ 0 < t / rows.length := of_decide_eq_false hb
    refine wp_nil ?_
    refine last _ ?_
    unfold hB
    rw [if_neg hb']
def cCall : Con := fun ds W Ψ Ξ => ∃ rows pd, ds = [.tt rows, .p pd] ∧ rowsOk rows ∧ numKind pd = true ∧ (∀ t, pd = .int t → isNum 0 LASTN pd = true → Ψ (.p (.int (hB rows (t + 1)))) W) ∧ (isNum 0 LASTN pd = false → Ξ .num W)
theorem scCall : FnScope ["self", "tick"] ["self", "tick"] (defScope sCall) := ⟨rfl, rfl, rfl, by decide +kernel, rfl, by decide +kernel, by decide +kernel⟩
theorem bCall {K : PySem.W.Frag} {f : Addr} {fd : FuncData} (F : Fun K "__call__" "Timetable.__call__" sCall f fd) : Binds K fd ["self", "tick"] [] := F.binds fun _ _ _ _ _ _ us hl => match us, hl with | [_, _], _ => rfl
theorem okCall {L : Pl} {f : Addr} {fd : FuncData} (B : Blt L.mg) (Gs : Glo L.mg) (TC : TCl L.K L.C) (DC : DefC L "check_number" 2 cCheck) (DB : DefC L "height_before" 2 cHB) (F : Fun L.K "__call__" "Timetable.__call__" sCall f fd) : FnC L 4 f cCall := by
  refine fn_body F scCall (bCall F) (fun ds W Ψ Ξ ⟨_, _, h, _⟩ => by rw [h] <;> rfl) ?_
  rintro U hL ok hk ⟨f', cd, A, outer, s, H, E, T, G, Ξ, rfl⟩ ds W Ψ ⟨rows, pd, rfl, hok, hnk, k1, k2⟩
  refine wp_cons ?_
  refine w_expr ?_
  refine ev_call hL ok DC (by show 2 ≤ 3; omega) rfl ?_
  refine ea_cons ?_
  refine ev_nm 1 ?_
  refine ea_cons ?_
  refine ev_int ?_
  refine ea_cons ?_
  refine ev_globI rfl Gs.last ?_
  refine ea_nil ?_
  refine ⟨pd, 0, LASTN, rfl, hnk, c0_1, cL_1, c0_2, cL_2, fun hn => ?_, k2⟩
  obtain ⟨t, rfl, ht0, ht1⟩ := isNum_int hn
  have k := k1 t rfl hn
  refine wp_one ?_
  refine w_ret ?_
  refine ev_call hL ok DB (by show 2 ≤ 3; omega) rfl ?_
  refine ea_cons ?_
  refine ev_rows TC.cls TC.rows ?_
  refine ev_nm 0 ?_
  refine ⟨rows, rfl, ?_⟩
  refine ea_cons ?_
  refine ev_add ?_
  refine ev_nm 1 ?_
  refine ev_int ?_
  refine addD_i ?_
  refine ea_nil ?_
  exact ⟨rows, t + 1, rfl, hok, by omega, k⟩

end Q
namespace Q
open PySem PySem.Spec PyProof.Rows L2
open Evl (Ex)
theorem log2_le {n : Nat} (h : n ≤ 1000) : n.log2 < 9000 := Nat.lt_of_le_of_lt (Nat.log2_le_self n) (by omega)
theorem atI_mem {α : Type} {xs : List α} {i : Int} {x : α} (h : atI xs i = some x) : x ∈ xs := by
  unfold atI at h
  cases e : ixN xs.length i with
  | none => rw [e] at h; cases h
  | some j => rw [e] at h; exact List.mem_of_getElem? h
abbrev sPick : Stmt := topS 29
def cPick : Con := fun ds W Ψ Ξ => ∃ (a : Addr) (xs : List PyData) (Lw Rw : Ow) (u : OD), ds = [.adr a, .p (.list xs)] ∧ 0 < xs.length ∧ xs.length ≤ 1000 ∧ W = Lw ++ (a, u) :: Rw ∧ isDice u ∧ ∀ x u', x ∈ xs → isDice u' → Ψ (.p x) (Lw ++ (a, u') :: Rw)
theorem scPick : FnScope ["_law_d", "_law_some"] ["_law_d", "_law_some"] (defScope sPick) := ⟨rfl, rfl, rfl, by decide +kernel, rfl, by decide +kernel, by decide +kernel⟩
theorem bPick {K : PySem.W.Frag} {f : Addr} {fd : FuncData} (F : Fun K "_law_pick" "_law_pick" sPick f fd) : Binds K fd ["_law_d", "_law_some"] [] := F.binds fun _ _ _ _ _ _ us hl => match us, hl with | [_, _], _ => rfl
theorem okPick {L : Pl} {f : Addr} {fd : FuncData} (B : Blt L.mg) (DN : DefC L "_law_next" 1 cNext) (F : Fun L.K "_law_pick" "_law_pick" sPick f fd) : FnC L 2 f cPick := by
  refine fn_body F scPick (bPick F) (fun ds W Ψ Ξ ⟨_, _, _, _, _, h, _⟩ => by rw [h] <;> rfl) ?_
  rintro U hL ok hk ⟨f', cd, A, outer, s, H, E, T, G, Ξ, rfl⟩ ds W Ψ ⟨a, xs, Lw, Rw, u, rfl, hl0, hl1, rfl, hu, k⟩
  refine wp_one ?_
  refine w_ret ?_
  refine ev_ix ?_
  refine ev_nm 1 ?_
  refine ev_call hL ok DN (Nat.le_refl _) rfl ?_
  refine ea_cons ?_
  refine ev_nm 0 ?_
  refine ea_cons ?_
  refine ev_len B rfl ?_
  refine ea_cons ?_
  refine ev_nm 1 ?_
  refine ea_nil ?_
  refine lenD_l ?_
  refine ea_nil ?_
  refine ⟨a, _, Lw, Rw, u, rfl, by omega, by rw [Int.natAbs_natCast]; exact log2_le hl1, rfl, hu, fun r u' h0 h1 hu' => ?_⟩
  obtain ⟨x, hx⟩ := atI_some h0 h1
  exact getD_l hx (k x u' (atI_mem hx) hu')
/-! ### _law_rows -/
abbrev sRows : Stmt := topS 31
def rowIn (m : Int) (r : Int × Int) : Prop := 0 ≤ r.1 ∧ r.1 ≤ m ∧ 0 ≤ r.2 ∧ r.2 ≤ m
def cRows : Con := fun ds W Ψ Ξ => ∃ (a : Addr) (sz m : Int) (Lw Rw : Ow) (u : OD), ds = [.adr a, .p (.int sz), .p (.int m)] ∧ 0 < sz ∧ sz ≤ 1000 ∧ 1 ≤ m ∧ m ≤ 1000 ∧ W = Lw ++ (a, u) :: Rw ∧ isDice u ∧
  ∀ (rows : List (Int × Int)) (u' : OD), 0 < rows.length → (rows.length : Int) ≤ sz → (∀ r ∈ rows, rowIn m r) → (∃ r ∈ rows, 0 < r.1) → isDice u' → Ψ (.p (.list (rows.map rowD))) (Lw ++ (a, u') :: Rw)
theorem scRows : FnScope ["_law_d", "_law_size", "_law_most", "_law_rows_here", "_law_kind", "_law_k", "_law_come", "_law_answers"] ["_law_d", "_law_size", "_law_most"] (defScope sRows) := ⟨rfl, rfl, rfl, by decide +kernel, rfl, by decide +kernel, by decide +kernel⟩
theorem bRows {K : PySem.W.Frag} {f : Addr} {fd : FuncData} (F : Fun K "_law_rows" "_law_rows" sRows f fd) : Binds K fd ["_law_d", "_law_size", "_law_most"] [] := F.binds fun _ _ _ _ _ _ us hl => match us, hl with | [_, _, _], _ => rfl
theorem three_at {k : Int} (h0 : 0 ≤ k) (h1 : k < 3) (r0 r1 r2 : Int × Int) : ∃ r, atI [rowD r0, rowD r1, rowD r2] k = some (rowD r) ∧ (r = r0 ∨ r = r1 ∨ r = r2) := by
  have e : k = 0 ∨ k = 1 ∨ k = 2 := by omega
  rcases e with rfl | rfl | rfl
  · exact ⟨r0, rfl, .inl rfl⟩
  · exact ⟨r1, rfl, .inr (.inl rfl)⟩
  · exact ⟨r2, rfl, .inr (.inr rfl)⟩
theorem log2_int {m : Int} (h0 : 0 ≤ m) (h1 : m ≤ 2000) : m.natAbs.log2 < 9000 := Nat.lt_of_le_of_lt (Nat.log2_le_self _) (by omega)
abbrev rowsO (rows : List (Int × Int)) : OD := .l ((rows.map rowD).map .p)
theorem okRows {L : Pl} {f : Addr} {fd : FuncData} (B : Blt L.mg) (DN : DefC L "_law_next" 1 cNext) (F : Fun L.K "_law_rows" "_law_rows" sRows f fd) : FnC L 2 f cRows := by
  refine fn_body F scRows (bRows F) (fun ds W Ψ Ξ ⟨_, _, _, _, _, _, h, _⟩ => by rw [h] <;> rfl) ?_
  rintro U hL ok hk ⟨f', cd, A, outer, s, H, E, T, G, Ξ, rfl⟩ ds W Ψ ⟨a, sz, m, Lw, Rw, u, rfl, hs0, hs1, hm0, hm1, rfl, hu, k⟩
  refine wp_cons ?_
  refine w_par ok 3 4 rfl rfl (by decide) rfl rfl ?_
  refine ea_cons ?_
  refine ev_lstO ?_
  refine ea_nil ?_
  refine ⟨by simp, fun p => ?_⟩
  refine ea_cons ?_
  refine ev_call hL ok DN (Nat.le_refl _) rfl ?_
  refine ea_cons ?_
  refine ev_nm 0 ?_
  refine ea_cons ?_
  refine ev_int ?_
  refine ea_nil ?_
  refine ⟨a, 3, (p, .l []) :: Lw, Rw, u, rfl, by omega, log2_int (by omega) (by omega), rfl, hu, fun kd u1 hk0 hk1 hu1 => ?_⟩
  refine ea_nil ?_
  refine ⟨_, _, rfl, ?_⟩
  refine wp_cons ?_
  refine w_for ok [5] ?_
  refine ei_rng1 B rfl ?_
  refine ea_cons ?_
  refine ev_add ?_
  refine ev_int ?_
  refine ev_call hL ok DN (Nat.le_refl _) rfl ?_
  refine ea_cons ?_
  refine ev_nm 0 ?_
  refine ea_cons ?_
  refine ev_nm 1 ?_
  refine ea_nil ?_
  refine ⟨a, sz, (p, .l []) :: Lw, Rw, u1, rfl, hs0, log2_int (by omega) (by omega), rfl, hu1, fun n u2 hn0 hn1 hu2 => ?_⟩
  refine addD_i ?_
  refine ea_nil ?_
  refine ⟨_, rfl, by omega, by omega, ?_⟩
  have hc : ((1 + n).toNat : Int) = 1 + n := by omega
  refine ⟨fun i env' W' => ∃ rows u' x5 x6 x7, W' = (p, rowsO rows) :: Lw ++ (a, u') :: Rw ∧ rows.length = i ∧ (∀ r ∈ rows, rowIn m r) ∧ isDice u' ∧
    env' = [some (.adr a), some (.p (.int sz)), some (.p (.int m)), some (.adr p), some (.p (.int kd)), x5, x6, x7], ⟨[], u2, none, none, none, rfl, rfl, (fun _ z => nomatch z), hu2, rfl⟩, ?_, ?_⟩
  · rintro i env' W' hi ⟨rows, u', x5, x6, x7, rfl, hlen, hr, hu', rfl⟩
    refine eg_nm ok 5 ?_
    refine wp_cons ?_
    refine w_par ok 6 7 rfl rfl (by decide) rfl rfl ?_
    refine ea_cons ?_
    refine ev_call hL ok DN (Nat.le_refl _) rfl ?_
    refine ea_cons ?_
    refine ev_nm 0 ?_
    refine ea_cons ?_
    refine ev_add ?_
    refine ev_int ?_
    refine ev_nm 2 ?_
    refine addD_i ?_
    refine ea_nil ?_
    refine ⟨a, 1 + m, (p, rowsO rows) :: Lw, Rw, u', rfl, by omega, log2_int (by omega) (by omega), rfl, hu', fun c u3 hc0 hc1 hu3 => ?_⟩
    refine ea_cons ?_
    refine ev_call hL ok DN (Nat.le_refl _) rfl ?_
    refine ea_cons ?_
    refine ev_nm 0 ?_
    refine ea_cons ?_
    refine ev_add ?_
    refine ev_int ?_
    refine ev_nm 2 ?_
    refine addD_i ?_
    refine ea_nil ?_
    refine ⟨a, 1 + m, (p, rowsO rows) :: Lw, Rw, u3, rfl, by omega, log2_int (by omega) (by omega), rfl, hu3, fun b u4 hb0 hb1 hu4 => ?_⟩
    refine ea_nil ?_
    refine ⟨_, _, rfl, ?_⟩
    obtain ⟨r, hr1, hr2⟩ := three_at hk0 hk1 (c, b) (c, min m (b + 1)) (c, max 0 (b - 1))
    have hrin : rowIn m r := by
      rcases hr2 with rfl | rfl | rfl
      · exact ⟨hc0, by show c ≤ m; omega, hb0, by show b ≤ m; omega⟩
      · exact ⟨hc0, by show c ≤ m; omega, by show 0 ≤ min m (b + 1); omega, by show min m (b + 1) ≤ m; omega⟩
      · exact ⟨hc0, by show c ≤ m; omega, by show 0 ≤ max 0 (b - 1); omega, by show max 0 (b - 1) ≤ m; omega⟩
    refine wp_one ?_
    refine w_app ?_
    refine ev_nm 3 ?_
    refine ⟨p, [], Lw ++ (a, u4) :: Rw, _, rfl, rfl, ?_⟩
    refine ev_ix ?_
    refine ev_lst ?_
    refine ea_cons ?_
    refine ev_tup ?_
    refine ea_cons ?_
    refine ev_nm 6 ?_
    refine ea_cons ?_
    refine ev_nm 7 ?_
    refine ea_nil ?_
    refine allP_cons (allP_cons (allP_nil ⟨by show 2 ≤ 1000; omega, ?_⟩))
    refine ea_cons ?_
    refine ev_tup ?_
    refine ea_cons ?_
    refine ev_nm 6 ?_
    refine ea_cons ?_
    refine ev_min2 ok B rfl ?_
    refine ea_cons ?_
    refine ev_nm 2 ?_
    refine ea_cons ?_
    refine ev_add ?_
    refine ev_nm 7 ?_
    refine ev_int ?_
    refine addD_i ?_
    refine ea_nil ?_
    refine two_i ?_
    refine ea_nil ?_
    refine allP_cons (allP_cons (allP_nil ⟨by show 2 ≤ 1000; omega, ?_⟩))
    refine ea_cons ?_
    refine ev_tup ?_
    refine ea_cons ?_
    refine ev_nm 6 ?_
    refine ea_cons ?_
    refine ev_max2 ok B rfl ?_
    refine ea_cons ?_
    refine ev_int ?_
    refine ea_cons ?_
    refine ev_sub ?_
    refine ev_nm 7 ?_
    refine ev_int ?_
    refine subD ?_
    refine ea_nil ?_
    refine two_i ?_
    refine ea_nil ?_
    refine allP_cons (allP_cons (allP_nil ⟨by show 2 ≤ 1000; omega, ?_⟩))
    refine ea_nil ?_
    refine allP_cons (allP_cons (allP_cons (allP_nil ⟨by show 3 ≤ 1000; omega, ?_⟩)))
    refine ev_nm 4 ?_
    refine getD_l hr1 ?_
    refine ⟨[], Lw ++ (a, u4) :: Rw, _, rfl, by rw [List.length_map, List.length_map, hlen]; omega, ?_⟩
    refine ⟨rows ++ [r], u4, _, _, _, by simp, by simp [hlen], fun q hq => ?_, hu4, rfl⟩
    rcases List.mem_append.mp hq with z | z
    · exact hr q z
    · rw [List.mem_singleton.mp z]; exact hrin
  · rintro env' W' ⟨rows, u', x5, x6, x7, rfl, hlen, hr, hu', rfl⟩
    have hlen0 : 0 < rows.length := by omega
    refine wp_cons ?_
    refine w_st ok 5 ?_
    refine ev_call hL ok DN (Nat.le_refl _) rfl ?_
    refine ea_cons ?_
    refine ev_nm 0 ?_
    refine ea_cons ?_
    refine ev_lenO B rfl ?_
    refine ea_cons ?_
    refine ev_nm 3 ?_
    refine ea_nil ?_
    refine ⟨p, [], Lw ++ (a, u') :: Rw, _, rfl, rfl, ?_⟩
    rw [List.length_map, List.length_map]
    refine ea_nil ?_
    refine ⟨a, rows.length, (p, rowsO rows) :: Lw, Rw, u', rfl, by omega, log2_int (by omega) (by omega), rfl, hu', fun j u5 hj0 hj1 hu5 => ?_⟩
    obtain ⟨r, hrj⟩ := atI_some hj0 hj1
    have hrin := hr r (atI_mem hrj)
    have hat : atI ((rows.map rowD).map D.p) j = some (.p (rowD r)) := at_map (at_map hrj)
    refine wp_cons ?_
    refine w_asg [] ?_
    refine ev_tup ?_
    refine ea_cons ?_
    refine ev_max2 ok B rfl ?_
    refine ea_cons ?_
    refine ev_int ?_
    refine ea_cons ?_
    refine ev_ix ?_
    refine ev_ixO ?_
    refine ev_nm 3 ?_
    refine ev_nm 5 ?_
    refine ⟨p, j, [], Lw ++ (a, u5) :: Rw, _, _, rfl, rfl, rfl, hat, ?_⟩
    refine ev_int ?_
    refine getD_t (d := .int r.1) rfl ?_
    refine ea_nil ?_
    refine two_i ?_
    refine ea_cons ?_
    refine ev_ix ?_
    refine ev_ixO ?_
    refine ev_nm 3 ?_
    refine ev_nm 5 ?_
    refine ⟨p, j, [], Lw ++ (a, u5) :: Rw, _, _, rfl, rfl, rfl, hat, ?_⟩
    refine ev_int ?_
    refine getD_t (d := .int r.2) rfl ?_
    refine ea_nil ?_
    refine allP_cons (allP_cons (allP_nil ⟨by show 2 ≤ 1000; omega, ?_⟩))
    refine eg_subO ?_
    refine ev_nm 3 ?_
    refine ev_nm 5 ?_
    have hix : ixN ((rows.map rowD).map D.p).length j = some j.toNat := by
      unfold ixN
      rw [List.length_map, List.length_map, if_pos hj0, if_pos hj1]
    refine ⟨p, j, j.toNat, [], Lw ++ (a, u5) :: Rw, _, rfl, rfl, rfl, hix, ?_⟩
    have es : ((rows.map rowD).map D.p).set j.toNat (.p (.tuple [.int (max 1 r.1), .int r.2])) = ((rows.set j.toNat (max 1 r.1, r.2)).map rowD).map D.p := by
      rw [List.map_set, List.map_set]
    rw [es]
    refine wp_give (L := []) 3 rfl ?_
    refine wp_one ?_
    refine w_ret ?_
    refine ev_nm 3 ?_
    refine k _ u5 (by simpa using hlen0) (by rw [List.length_set]; omega) (fun q hq => ?_) ⟨(max 1 r.1, r.2), List.mem_set (by omega) _, by show 0 < max 1 r.1; omega⟩ hu5
    rcases List.mem_or_eq_of_mem_set hq with z | z
    · exact hr q z
    · rw [z]
      obtain ⟨h1, h2, h3, h4⟩ := hrin
      exact ⟨by show 0 ≤ max 1 r.1; omega, by show max 1 r.1 ≤ m; omega, h3, h4⟩

end Q
namespace Q
open PySem PySem.Spec PyProof.Rows L2
open Evl (Ex)
/-! ### _law_made -/
theorem tl_dig : ∀ n : Fin 10, TL.tl (Str.ofString (toString ((n.val : Nat) : Int))) = [n.val + 48] := by decide +kernel
theorem joinL_nil : ∀ ps : List (List Nat), TL.joinL [] ps = ps.flatten
  | [] => rfl
  | [p] => by simp [TL.joinL]
  | p :: q :: r => by
    show p ++ ([] ++ TL.joinL [] (q :: r)) = _
    rw [joinL_nil (q :: r)]
    simp
theorem dig_text (n : Nat) (h : n ≤ 9) : (Str.ofString (toString (n : Int))).length = 1 := by
  have e : ∀ k : Fin 10, (Str.ofString (toString ((k.val : Nat) : Int))).length = 1 := by decide +kernel
  exact e ⟨n, by omega⟩
theorem join_figs (ns : List Nat) (h : ∀ n ∈ ns, n ≤ 9) : Txt.join ("" : Str) (ns.map fun n : Nat => Str.ofString (toString (n : Int))) = figS ns := by
  refine TL.ext_tl ?_
  rw [TL.join_eq, TL.tl_join]
  have e0 : TL.tl ("" : Str) = [] := by decide +kernel
  rw [e0, joinL_nil]
  show _ = ns.map (· + 48)
  induction ns with
  | nil => rfl
  | cons n ns ih =>
    have hn := h n List.mem_cons_self
    have e1 : TL.tl (Str.ofString (toString (n : Int))) = [n + 48] := tl_dig ⟨n, by omega⟩
    rw [List.map_cons, List.map_cons, List.flatten_cons, ih fun x hx => h x (List.mem_cons_of_mem _ hx), e1]
    rfl
abbrev sMade : Stmt := topS 32
def psOf (rows : List (Int × Int)) : List (Nat × Nat) := rows.map fun r => (r.1.toNat, r.2.toNat)
theorem rowsN_psOf {rows : List (Int × Int)} (h : ∀ r ∈ rows, rowOk r) : rowsN (psOf rows) = rows := by
  unfold rowsN psOf
  rw [List.map_map]
  refine (List.map_congr_left (g := id) fun r hr => ?_).trans (List.map_id _)
  obtain ⟨h1, h2, h3, h4⟩ := h r hr
  show (((r.1.toNat : Nat) : Int), ((r.2.toNat : Nat) : Int)) = r
  rw [Int.toNat_of_nonneg h1, Int.toNat_of_nonneg h3]
theorem psOf_ok {rows : List (Int × Int)} (h : rowsOk rows) : psOk (psOf rows) := by
  refine ⟨by simpa [psOf] using h.1, by simpa [psOf] using h.2.1, fun p hp => ?_⟩
  obtain ⟨r, hr, rfl⟩ := List.mem_map.mp hp
  obtain ⟨h1, h2, h3, h4⟩ := h.2.2 r hr
  exact ⟨by show r.1.toNat ≤ 9; omega, by show r.2.toNat ≤ 9; omega⟩
def cMade : Con := fun ds W Ψ Ξ => ∃ rows, ds = [.p (.list (rows.map rowD))] ∧ rowsOk rows ∧ Ψ (.tt rows) W
theorem scMade : FnScope ["_law_rows_here", "_law_come", "_law_answers", "_law_row"] ["_law_rows_here"] (defScope sMade) := ⟨rfl, rfl, rfl, by decide +kernel, rfl, by decide +kernel, by decide +kernel⟩
theorem bMade {K : PySem.W.Frag} {f : Addr} {fd : FuncData} (F : Fun K "_law_made" "_law_made" sMade f fd) : Binds K fd ["_law_rows_here"] [] := F.binds fun _ _ _ _ _ _ us hl => match us, hl with | [_], _ => rfl
theorem sum_ones : ∀ (ns : List Nat), (∀ n ∈ ns, n ≤ 9) → ((ns.map fun n : Nat => Str.ofString (toString (n : Int))).map (·.length)).sum = ns.length
  | [], _ => rfl
  | n :: ns, h => by
    rw [List.map_cons, List.map_cons, List.sum_cons, sum_ones ns fun x hx => h x (List.mem_cons_of_mem _ hx), dig_text n (h n List.mem_cons_self), List.length_cons]
    omega
/-- the names of the class in the text -/
structure CNm (L : Pl) (mc : Value) (p g : Addr) : Prop where
  mg : L.mg "Timetable" = some (.ref L.C)
  rd : ClX.CRead L.K L.C mc
  cm : ClX.CMet L.K L.C mc "simple" p g
theorem okMade {L : Pl} {f p g : Addr} {mc : Value} {fd : FuncData} (B : Blt L.mg) (N : CNm L mc p g) (FS : FnC L 6 g (cSimple L.C)) (F : Fun L.K "_law_made" "_law_made" sMade f fd) : FnC L 7 f cMade := by
  refine fn_body F scMade (bMade F) (fun ds W Ψ Ξ ⟨_, h, _⟩ => by rw [h] <;> rfl) ?_
  rintro U hL ok hk ⟨f', cd, A, outer, s, H, E, T, G, Ξ, rfl⟩ ds W Ψ ⟨rows, rfl, hr, k⟩
  have hps := psOf_ok hr
  have er := rowsN_psOf hr.2.2
  have el : (rows.map rowD).length = rows.length := List.length_map _
  have en : rows.length ≤ 24 := hr.2.1
  have nn : ∀ r ∈ rows, ((r.1.toNat : Nat) : Int) = r.1 ∧ ((r.2.toNat : Nat) : Int) = r.2 := fun r hr' => by
    obtain ⟨h1, h2, h3, h4⟩ := hr.2.2 r hr'
    exact ⟨Int.toNat_of_nonneg h1, Int.toNat_of_nonneg h3⟩
  have sm : ∀ i : Nat, i < rows.length → (rows.getD i (0, 0)).1.natAbs.log2 < 1920 ∧ (rows.getD i (0, 0)).2.natAbs.log2 < 1920 := fun i hi => by
    obtain ⟨r, hr'⟩ := lt_some hi
    have e2 : rows.getD i (0, 0) = r := by rw [List.getD_eq_getElem?_getD, hr'] <;> rfl
    rw [e2]
    obtain ⟨h1, h2, h3, h4⟩ := hr.2.2 r (List.mem_of_getElem? hr')
    exact ⟨Nat.lt_of_le_of_lt (Nat.log2_le_self _) (by omega), Nat.lt_of_le_of_lt (Nat.log2_le_self _) (by omega)⟩
  refine wp_one ?_
  refine w_ret ?_
  refine ev_cmeth hL ok N.rd N.cm FS (Nat.le_refl _) ?_
  refine ev_globR rfl N.mg ?_
  refine both rfl ?_
  refine ea_cons ?_
  refine ev_join0 ?_
  refine ev_lc ok [("_law_come", 1), ("_law_answers", 2)] ([1] ++ ([2] ++ [])) (by simp) (blkOk_by (by rfl)) (by decide) (lc_pure ?_)
  refine ei_lst ?_
  refine ev_nm 0 ?_
  refine ⟨_, rfl, ?_⟩
  refine ⟨fun i => [some (.p (.list (rows.map rowD))), some (.p (.int (rows.getD i (0, 0)).1)), some (.p (.int (rows.getD i (0, 0)).2)), none], fun i => .str (Str.ofString (toString (rows.getD i (0, 0)).1)), by omega, ?_, ?_, ?_⟩
  · intro s H C cl fp i Wi hi
    obtain ⟨r, hr'⟩ := lt_some (l := rows) (i := i) (by omega)
    have er : rows.getD i (0, 0) = r := by rw [List.getD_eq_getElem?_getD, hr'] <;> rfl
    rw [datAt_map hr']
    subst er
    refine eg_tup ok.blk ⟨_, rfl, rfl, ?_⟩
    refine egs_cons ?_
    refine eg_nm ok.blk 1 ?_
    refine egs_cons ?_
    refine eg_nm ok.blk 2 ?_
    refine egs_nil ?_
    exact ⟨rfl, rfl⟩
  · intro s H C cl fp i Wi hi
    refine ev_tostr B rfl ?_
    refine ea_cons ?_
    refine ev_nm 1 ?_
    refine ea_nil ?_
    refine str1 (sm i (by omega)).1 ?_
    exact ⟨rfl, rfl⟩
  rw [el, range_map_getD rows (0, 0) fun r => PyData.str (Str.ofString (toString r.1))]
  have e1 : (rows.map fun r => PyData.str (Str.ofString (toString r.1))) = (((psOf rows).map (·.1)).map fun n : Nat => Str.ofString (toString (n : Int))).map .str := by
    unfold psOf
    rw [List.map_map, List.map_map, List.map_map]
    refine List.map_congr_left fun r hr' => ?_
    show _ = PyData.str (Str.ofString (toString ((r.1.toNat : Nat) : Int)))
    rw [(nn r hr').1]
  have d1 : ∀ n ∈ (psOf rows).map (·.1), n ≤ 9 := fun n hn => by
    obtain ⟨p, hp, rfl⟩ := List.mem_map.mp hn
    exact (hps.2.2 p hp).1
  have d2 : ∀ n ∈ (psOf rows).map (·.2), n ≤ 9 := fun n hn => by
    obtain ⟨p, hp, rfl⟩ := List.mem_map.mp hn
    exact (hps.2.2 p hp).2
  have lp : (psOf rows).length = rows.length := List.length_map _
  refine ⟨_, congrArg (fun z => D.p (.list z)) e1, ?_, ?_⟩
  · rw [sum_ones _ d1, List.length_map, List.length_map, lp]
    have : (Str.length (Str.ofString "")) = 0 := rfl
    rw [this]
    omega
  rw [join_figs _ d1]
  refine ea_cons ?_
  refine ev_join0 ?_
  refine ev_lc ok [("_law_row", 3)] [3] (by simp) (blkOk_by (by rfl)) (by decide) (lc_pure ?_)
  refine ei_lst ?_
  refine ev_nm 0 ?_
  refine ⟨_, rfl, ?_⟩
  refine ⟨fun i => [some (.p (.list (rows.map rowD))), none, none, some (.p (rowD (rows.getD i (0, 0))))], fun i => .str (Str.ofString (toString (rows.getD i (0, 0)).2)), by omega, ?_, ?_, ?_⟩
  · intro s H C cl fp i Wi hi
    obtain ⟨r, hr'⟩ := lt_some (l := rows) (i := i) (by omega)
    have er : rows.getD i (0, 0) = r := by rw [List.getD_eq_getElem?_getD, hr'] <;> rfl
    rw [datAt_map hr']
    subst er
    refine eg_nm ok.blk 3 ?_
    exact ⟨rfl, rfl⟩
  · intro s H C cl fp i Wi hi
    refine ev_tostr B rfl ?_
    refine ea_cons ?_
    refine ev_ix ?_
    refine ev_nm 3 ?_
    refine ev_int ?_
    refine getD_t (d := .int (rows.getD i (0, 0)).2) rfl ?_
    refine ea_nil ?_
    refine str1 (sm i (by omega)).2 ?_
    exact ⟨rfl, rfl⟩
  rw [el, range_map_getD rows (0, 0) fun r => PyData.str (Str.ofString (toString r.2))]
  have e2 : (rows.map fun r => PyData.str (Str.ofString (toString r.2))) = (((psOf rows).map (·.2)).map fun n : Nat => Str.ofString (toString (n : Int))).map .str := by
    unfold psOf
    rw [List.map_map, List.map_map, List.map_map]
    refine List.map_congr_left fun r hr' => ?_
    show _ = PyData.str (Str.ofString (toString ((r.2.toNat : Nat) : Int)))
    rw [(nn r hr').2]
  refine ⟨_, congrArg (fun z => D.p (.list z)) e2, ?_, ?_⟩
  · rw [sum_ones _ d2, List.length_map, List.length_map, lp]
    have : (Str.length (Str.ofString "")) = 0 := rfl
    rw [this]
    omega
  rw [join_figs _ d2]
  refine ea_nil ?_
  refine ⟨psOf rows, rfl, hps, ?_⟩
  rw [er]
  exact k

end Q
namespace Q
open PySem PySem.Spec PyProof.Rows L2
open Evl (Ex)
/-! ### _law_played, from the top, nothing more, nothing less -/
def rowAt (rows : List (Int × Int)) (t : Nat) : Int × Int := rows.getD (t % rows.length) (0, 0)
/-- the height of the pile behind t ticks -/
def hP (rows : List (Int × Int)) : Nat → Int
  | 0 => 0
  | t + 1 => max 0 (hP rows t + (rowAt rows t).1 - (rowAt rows t).2)
theorem row_ok {rows : List (Int × Int)} (h : rowsOk rows) (t : Nat) : rows[t % rows.length]? = some (rowAt rows t) ∧ rowOk (rowAt rows t) := by
  have hm : t % rows.length < rows.length := Nat.mod_lt _ h.1
  obtain ⟨r, hr⟩ := lt_some hm
  have e : rowAt rows t = r := by unfold rowAt; rw [List.getD_eq_getElem?_getD, hr] <;> rfl
  rw [e]
  exact ⟨hr, h.2.2 r (List.mem_of_getElem? hr)⟩
theorem hP_nn {rows : List (Int × Int)} : ∀ t, 0 ≤ hP rows t
  | 0 => by simp [hP]
  | t + 1 => by unfold hP; omega
theorem hP_le {rows : List (Int × Int)} (h : rowsOk rows) : ∀ t, hP rows t ≤ 9 * t
  | 0 => by simp [hP]
  | t + 1 => by
    have h1 := hP_le h t
    obtain ⟨_, a, b, c, d⟩ := row_ok h t
    unfold hP
    omega
theorem szL {n : Nat} (h : n ≤ 1000000) : n ≤ sizeLine := by rw [sizeLine_eq]; omega
theorem sh_non : SeqAt.shaped .none = true := by first | rfl | decide | simp [SeqAt.shaped, PyData.canLay0, PyData.depth]
theorem eqv_in (i : Int) : PyData.eqv (.int i) .none = false := by first | rfl | simp [PyData.eqv]
theorem atI_map {rows : List (Int × Int)} (h : rowsOk rows) (t : Nat) : atI (rows.map rowD) ((t : Int) % (rows.length : Nat)) = some (rowD (rowAt rows t)) := by
  have e : ((t : Int) % (rows.length : Nat)) = ((t % rows.length : Nat) : Int) := by omega
  rw [e]
  refine at_map ?_
  have hm : t % rows.length < rows.length := Nat.mod_lt _ h.1
  unfold atI ixN
  rw [if_pos (by omega), if_pos (by omega)]
  exact (row_ok h t).1
theorem eqD_in {t : Int} {f : Bool → Bool} {k : D → Prop} (q : k (.p (.bool (f false)))) : EqD f (.p (.int t)) (.p .none) k := by
  refine ⟨shaped_int t, sh_non, ?_⟩
  rw [eqv_in]
  exact q
theorem mulD_list {a : List PyData} {b : Int} {k : D → Prop} (h0 : b = 0) (q : k (.p (.list []))) : MulD (.p (.list a)) (.p (.int b)) k := by
  subst h0
  exact ⟨by decide, by decide, by simp, q⟩
theorem evo_none {U : Ct} {env : Ev0} {W : Ow} {Ψ : Option Int → Ow → Prop} (h : Ψ none W) : EvO U none env W Ψ := h

end Q
namespace Q
open PySem PySem.Spec PyProof.Rows L2
open Evl (Ex)
/-! ### the heights, as numbers -/
theorem hAfter_cons (r : Int × Int) (rs : List (Int × Int)) (h : Int) : hAfter (r :: rs) h = hAfter rs (max 0 (h + r.1 - r.2)) := rfl
theorem total_cons (r : Int × Int) (rs : List (Int × Int)) : total (r :: rs) = r.1 - r.2 + total rs := by simp [total]
theorem hAfter_max : ∀ (rs : List (Int × Int)) (h : Int), 0 ≤ h → hAfter rs h = max (h + total rs) (hAfter rs 0)
  | [], h, h0 => by simp [hAfter, total]; omega
  | r :: rs, h, h0 => by
    rw [hAfter_cons, hAfter_cons, total_cons, hAfter_max rs _ (by omega), hAfter_max rs (max 0 (0 + r.1 - r.2)) (by omega)]
    omega
theorem hAfter_app (a b : List (Int × Int)) (h : Int) : hAfter (a ++ b) h = hAfter b (hAfter a h) := by unfold hAfter; rw [List.foldl_append]
theorem hAfter_nn : ∀ (rs : List (Int × Int)) (h : Int), 0 ≤ h → 0 ≤ hAfter rs h
  | [], h, h0 => h0
  | r :: rs, h, h0 => by rw [hAfter_cons]; exact hAfter_nn rs _ (by omega)
theorem total_app (a b : List (Int × Int)) : total (a ++ b) = total a + total b := by simp [total]
/-- the part that fell below nothing, in a round's beginning -/
theorem hAfter_take (rows : List (Int × Int)) (j : Nat) : hAfter (rows.take j) 0 - total (rows.take j) ≤ hAfter rows 0 - total rows := by
  have e := List.take_append_drop j rows
  have h1 : hAfter rows 0 = hAfter (rows.drop j) (hAfter (rows.take j) 0) := by rw [← hAfter_app, e]
  have h2 : total rows = total (rows.take j) + total (rows.drop j) := by rw [← total_app, e]
  have h3 := hAfter_max (rows.drop j) _ (hAfter_nn (rows.take j) 0 (by omega))
  omega
theorem hP_round (rows : List (Int × Int)) (q : Nat) : ∀ j, j ≤ rows.length → hP rows (rows.length * q + j) = hAfter (rows.take j) (hP rows (rows.length * q))
  | 0, _ => rfl
  | j + 1, h => by
    obtain ⟨r, hr⟩ := lt_some (show j < rows.length by omega)
    have e : rowAt rows (rows.length * q + j) = r := by
      unfold rowAt
      rw [Nat.mul_add_mod, Nat.mod_eq_of_lt (by omega), List.getD_eq_getElem?_getD, hr] <;> rfl
    rw [take_one hr, hAfter_app, ← hP_round rows q j (by omega)]
    show max 0 (hP rows (rows.length * q + j) + (rowAt rows (rows.length * q + j)).1 - (rowAt rows (rows.length * q + j)).2) = _
    rw [e]
    rfl
theorem hP_rounds (rows : List (Int × Int)) : ∀ q : Nat, hP rows (rows.length * (q + 1)) = hAfter rows 0 + q * max 0 (total rows)
  | 0 => by
    have h := hP_round rows 0 rows.length (Nat.le_refl _)
    rw [List.take_length] at h
    simpa [hP] using h
  | q + 1 => by
    have h := hP_round rows (q + 1) rows.length (Nat.le_refl _)
    rw [List.take_length, hP_rounds rows q] at h
    have e : rows.length * (q + 1 + 1) = rows.length * (q + 1) + rows.length := by rw [Nat.mul_add]; omega
    have g0 : 0 ≤ max 0 (total rows) := by omega
    have m0 := hAfter_nn rows 0 (by omega)
    have qg : 0 ≤ (q : Int) * max 0 (total rows) := Int.mul_nonneg (by omega) g0
    rw [e, h, hAfter_max rows _ (by omega)]
    have e2 : ((q + 1 : Nat) : Int) * max 0 (total rows) = q * max 0 (total rows) + max 0 (total rows) := by rw [Int.natCast_add, Int.add_mul]; simp
    rw [e2]
    by_cases ht : 0 ≤ total rows
    · have : max 0 (total rows) = total rows := by omega
      rw [this] at qg ⊢
      omega
    · have : max 0 (total rows) = 0 := by omega
      rw [this] at qg ⊢
      omega
/-- the program's height is the pile's -/
theorem hB_hP {rows : List (Int × Int)} (h0 : 0 < rows.length) (t : Nat) : hB rows t = hP rows t := by
  have hm : t % rows.length < rows.length := Nat.mod_lt _ h0
  have e1 : ((t : Int) % (rows.length : Nat)).toNat = t % rows.length := by omega
  have e2 : (t : Int) / (rows.length : Nat) = ((t / rows.length : Nat) : Int) := by omega
  have hd := Nat.div_add_mod t rows.length
  have e3 : hP rows t = hP rows (rows.length * (t / rows.length) + t % rows.length) := by rw [hd]
  unfold hB
  rw [e1, e2, e3, hP_round rows (t / rows.length) _ (by omega)]
  congr 1
  cases hq : t / rows.length with
  | zero => simp [hP]
  | succ q =>
    rw [if_pos (by omega), hP_rounds rows q]
    have : ((q + 1 : Nat) : Int) - 1 = q := by omega
    rw [this]
theorem hB_hP1 {rows : List (Int × Int)} (h0 : 0 < rows.length) (t : Nat) : hB rows ((t : Int) + 1) = hP rows (t + 1) := hB_hP h0 (t + 1)
/-- from the second round on, each round adds the growth -/
theorem hP_grow (rows : List (Int × Int)) (q j : Nat) (hj : j ≤ rows.length) : hP rows (rows.length * (q + 2) + j) = hP rows (rows.length * (q + 1) + j) + max 0 (total rows) := by
  rw [hP_round rows (q + 2) j hj, hP_round rows (q + 1) j hj, hP_rounds rows (q + 1), hP_rounds rows q]
  have g0 : 0 ≤ max 0 (total rows) := by omega
  have m0 := hAfter_nn rows 0 (by omega)
  have qg : 0 ≤ (q : Int) * max 0 (total rows) := Int.mul_nonneg (by omega) g0
  have e2 : ((q + 1 : Nat) : Int) * max 0 (total rows) = q * max 0 (total rows) + max 0 (total rows) := by rw [Int.natCast_add, Int.add_mul]; simp
  have ht := hAfter_take rows j
  rw [hAfter_max (rows.take j) _ (by omega), hAfter_max (rows.take j) (hAfter rows 0 + q * max 0 (total rows)) (by omega), e2]
  by_cases hs : 0 ≤ total rows
  · have : max 0 (total rows) = total rows := by omega
    rw [this] at qg ⊢
    omega
  · have : max 0 (total rows) = 0 := by omega
    rw [this] at qg ⊢
    omega
theorem hP_far (rows : List (Int × Int)) (j : Nat) (hj : j ≤ rows.length) : ∀ q : Nat, hP rows (rows.length * (q + 2) + j) = hP rows (rows.length * 2 + j) + q * max 0 (total rows)
  | 0 => by simp
  | q + 1 => by
    rw [show q + 1 + 2 = (q + 1) + 2 from rfl, hP_grow rows (q + 1) j hj, show q + 1 + 1 = q + 2 from rfl, hP_far rows j hj q]
    have e2 : ((q + 1 : Nat) : Int) * max 0 (total rows) = q * max 0 (total rows) + max 0 (total rows) := by rw [Int.natCast_add, Int.add_mul]; simp
    omega

end Q
namespace Q
open PySem PySem.Spec PyProof.Rows L2
open Evl (Ex)
/-! ### the pile, letter by letter -/
def numT (rows : List (Int × Int)) : Nat → Int
  | 0 => 0
  | t + 1 => numT rows t + (rowAt rows t).1
def newL (rows : List (Int × Int)) (t : Nat) : List Int := (List.range (rowAt rows t).1.toNat).map fun j => numT rows t + (j : Nat)
def pileT (rows : List (Int × Int)) : Nat → List Int
  | 0 => []
  | t + 1 => (pileT rows t ++ newL rows t).take ((pileT rows t ++ newL rows t).length - (rowAt rows t).2.toNat)
def pileB (rows : List (Int × Int)) (t : Nat) : List Int := pileT rows t ++ newL rows t
def goneT (rows : List (Int × Int)) (t : Nat) : List Int := ((pileB rows t).drop ((pileB rows t).length - (rowAt rows t).2.toNat)).reverse
theorem pileT_succ (rows : List (Int × Int)) (t : Nat) : pileT rows (t + 1) = (pileB rows t).take ((pileB rows t).length - (rowAt rows t).2.toNat) := rfl
/-- the letters due before an answer of the letter above b others of tick c, behind i ticks -/
def dueP (rows : List (Int × Int)) (c b : Nat) : Nat → Int
  | 0 => -(b : Int)
  | i + 1 => dueP rows c b i + (rowAt rows (c + i)).1 - (rowAt rows (c + i)).2
def wAt (rows : List (Int × Int)) (c b : Nat) : Option Nat := (List.range rows.length).find? fun k => decide (dueP rows c b (k + 1) ≤ 0)
theorem rowAt_per (rows : List (Int × Int)) (t : Nat) : rowAt rows (t + rows.length) = rowAt rows t := by unfold rowAt; rw [Nat.add_mod_right]
theorem rowAt_far (rows : List (Int × Int)) (t : Nat) : ∀ q : Nat, rowAt rows (t + q * rows.length) = rowAt rows t
  | 0 => by simp
  | q + 1 => by rw [Nat.succ_mul, ← Nat.add_assoc, rowAt_per, rowAt_far rows t q]
theorem numT_per (rows : List (Int × Int)) : ∀ t : Nat, numT rows (t + rows.length) = numT rows t + numT rows rows.length
  | 0 => by simp [numT]
  | t + 1 => by
    rw [Nat.add_right_comm]
    show numT rows (t + rows.length) + (rowAt rows (t + rows.length)).1 = numT rows t + (rowAt rows t).1 + _
    rw [numT_per rows t, rowAt_per]
    omega
theorem numT_far (rows : List (Int × Int)) (t : Nat) : ∀ q : Nat, numT rows (t + q * rows.length) = numT rows t + q * numT rows rows.length
  | 0 => by simp
  | q + 1 => by
    rw [Nat.succ_mul, ← Nat.add_assoc, numT_per, numT_far rows t q]
    have e : ((q + 1 : Nat) : Int) * numT rows rows.length = q * numT rows rows.length + numT rows rows.length := by rw [Int.natCast_add, Int.add_mul]; simp
    omega
theorem numT_step {rows : List (Int × Int)} (h : rowsOk rows) (t : Nat) : numT rows t ≤ numT rows (t + 1) := by
  obtain ⟨_, a, _⟩ := row_ok h t
  show _ ≤ numT rows t + _
  omega
theorem numT_mono {rows : List (Int × Int)} (h : rowsOk rows) {s : Nat} : ∀ {t : Nat}, s ≤ t → numT rows s ≤ numT rows t
  | 0, e => by have : s = 0 := by omega
               subst this; exact Int.le_refl _
  | t + 1, e => by
    by_cases hs : s = t + 1
    · subst hs; exact Int.le_refl _
    · exact Int.le_trans (numT_mono h (by omega)) (numT_step h t)
theorem numT_nn {rows : List (Int × Int)} (h : rowsOk rows) (t : Nat) : 0 ≤ numT rows t := numT_mono h (Nat.zero_le t)
theorem numT_le {rows : List (Int × Int)} (h : rowsOk rows) : ∀ t : Nat, numT rows t ≤ 9 * t
  | 0 => by simp [numT]
  | t + 1 => by
    obtain ⟨_, _, a, _⟩ := row_ok h t
    have := numT_le h t
    show numT rows t + _ ≤ _
    omega
/-- where a letter comes is one place -/
theorem place_one {rows : List (Int × Int)} (h : rowsOk rows) {c b c' b' : Nat} (e : numT rows c + b = numT rows c' + b') (hb : (b : Int) < (rowAt rows c).1) (hb' : (b' : Int) < (rowAt rows c').1) : c = c' ∧ b = b' := by
  have up : ∀ {c c' b b' : Nat}, numT rows c + b = numT rows c' + b' → (b : Int) < (rowAt rows c).1 → c < c' → False := fun {c c' b b'} e hb hc => by
    have := numT_mono h (show c + 1 ≤ c' from hc)
    have h2 : numT rows (c + 1) = numT rows c + (rowAt rows c).1 := rfl
    omega
  have hc : c = c' := by
    by_cases h1 : c < c'
    · exact (up e hb h1).elim
    · by_cases h2 : c' < c
      · exact (up e.symm hb' h2).elim
      · omega
  subst hc
  exact ⟨rfl, by omega⟩
theorem place_ex {rows : List (Int × Int)} (h : rowsOk rows) : ∀ {T : Nat} {x : Int}, 0 ≤ x → x < numT rows T → ∃ c b : Nat, c < T ∧ x = numT rows c + b ∧ (b : Int) < (rowAt rows c).1
  | 0, x, h0, h1 => by have : numT rows 0 = 0 := rfl
                       omega
  | T + 1, x, h0, h1 => by
    by_cases hx : x < numT rows T
    · obtain ⟨c, b, a1, a2, a3⟩ := place_ex h h0 hx
      exact ⟨c, b, by omega, a2, a3⟩
    · have h2 : numT rows (T + 1) = numT rows T + (rowAt rows T).1 := rfl
      exact ⟨T, (x - numT rows T).toNat, by omega, by omega, by omega⟩
theorem dueP_far (rows : List (Int × Int)) (c b q : Nat) : ∀ i : Nat, dueP rows (c + q * rows.length) b i = dueP rows c b i
  | 0 => rfl
  | i + 1 => by
    show dueP rows (c + q * rows.length) b i + (rowAt rows (c + q * rows.length + i)).1 - (rowAt rows (c + q * rows.length + i)).2 = dueP rows c b i + (rowAt rows (c + i)).1 - (rowAt rows (c + i)).2
    rw [dueP_far rows c b q i, show c + q * rows.length + i = c + i + q * rows.length by omega, rowAt_far]
theorem wAt_far (rows : List (Int × Int)) (c b q : Nat) : wAt rows (c + q * rows.length) b = wAt rows c b := by
  unfold wAt
  congr 1
  funext k
  rw [dueP_far]
theorem dueP_per (rows : List (Int × Int)) (c b : Nat) : ∀ k : Nat, dueP rows c b (k + rows.length) = dueP rows c b k + (dueP rows c b rows.length + b)
  | 0 => by
    rw [Nat.zero_add]
    show _ = -(b : Int) + _
    omega
  | k + 1 => by
    rw [Nat.add_right_comm]
    show dueP rows c b (k + rows.length) + (rowAt rows (c + (k + rows.length))).1 - (rowAt rows (c + (k + rows.length))).2 = dueP rows c b k + (rowAt rows (c + k)).1 - (rowAt rows (c + k)).2 + _
    rw [dueP_per rows c b k, ← Nat.add_assoc, rowAt_per]
    omega
theorem wAt_some {rows : List (Int × Int)} {c b w : Nat} : wAt rows c b = some w ↔ dueP rows c b (w + 1) ≤ 0 ∧ w < rows.length ∧ ∀ j, j < w → 0 < dueP rows c b (j + 1) := by
  unfold wAt
  rw [List.find?_range_eq_some]
  simp only [decide_eq_true_eq, List.mem_range, Bool.not_eq_eq_eq_not, Bool.not_true, decide_eq_false_iff_not, Int.not_le]
theorem wAt_none {rows : List (Int × Int)} {c b : Nat} : wAt rows c b = none ↔ ∀ j, j < rows.length → 0 < dueP rows c b (j + 1) := by
  unfold wAt
  rw [List.find?_range_eq_none]
  simp only [Bool.not_eq_eq_eq_not, Bool.not_true, decide_eq_false_iff_not, Int.not_le]
theorem never {rows : List (Int × Int)} (h0 : 0 < rows.length) {c b : Nat} (h : wAt rows c b = none) : ∀ k, 0 < dueP rows c b (k + 1) := by
  have h1 := wAt_none.mp h
  have hn : 0 < dueP rows c b rows.length := by
    have := h1 (rows.length - 1) (by omega)
    rwa [Nat.sub_add_cancel h0] at this
  intro k
  induction k using Nat.strongRecOn with
  | _ k ih =>
    by_cases hk : k < rows.length
    · exact h1 k hk
    · have e := dueP_per rows c b (k + 1 - rows.length)
      rw [Nat.sub_add_cancel (by omega)] at e
      by_cases h2 : k + 1 - rows.length = 0
      · rw [h2] at e
        have : dueP rows c b 0 = -(b : Int) := rfl
        omega
      · have := ih (k - rows.length) (by omega)
        rw [show k - rows.length + 1 = k + 1 - rows.length by omega] at this
        omega
theorem new_ge {rows : List (Int × Int)} {t : Nat} {y : Int} (h : y ∈ newL rows t) : numT rows t ≤ y ∧ y < numT rows t + (rowAt rows t).1 := by
  unfold newL at h
  obtain ⟨j, hj, rfl⟩ := List.mem_map.mp h
  have := List.mem_range.mp hj
  omega
theorem pile_lt {rows : List (Int × Int)} (h : rowsOk rows) : ∀ {t : Nat} {y : Int}, y ∈ pileT rows t → y < numT rows t
  | 0, y, hy => by cases hy
  | t + 1, y, hy => by
    rw [pileT_succ] at hy
    rcases List.mem_append.mp (List.mem_of_mem_take hy) with z | z
    · exact Int.lt_of_lt_of_le (pile_lt h z) (numT_step h t)
    · exact (new_ge z).2
theorem gone_in {rows : List (Int × Int)} {t : Nat} {y : Int} (h : y ∈ goneT rows t) : y ∈ pileB rows t := List.mem_of_mem_drop (List.mem_reverse.mp h)
theorem gone_lt {rows : List (Int × Int)} (h : rowsOk rows) {t : Nat} {y : Int} (hy : y ∈ goneT rows t) : y < numT rows (t + 1) := by
  rcases List.mem_append.mp (gone_in hy) with z | z
  · exact Int.lt_of_lt_of_le (pile_lt h z) (numT_step h t)
  · exact (new_ge z).2
/-- where the letter lies, ahead of the answers of the tick k behind its own -/
theorem lies {rows : List (Int × Int)} (h : rowsOk rows) {c b : Nat} (hb : (b : Int) < (rowAt rows c).1) : ∀ k : Nat, (∀ j, j < k → 0 < dueP rows c b (j + 1)) →
    ∃ lo hi, pileB rows (c + k) = lo ++ (numT rows c + b) :: hi ∧ (hi.length : Int) + 1 = dueP rows c b k + (rowAt rows (c + k)).1 ∧ numT rows c + b ∉ lo ∧ numT rows c + b ∉ hi ∧ lo = pileT rows c ++ (newL rows c).take b
  | 0, _ => by
    have hl : (newL rows c).length = (rowAt rows c).1.toNat := by simp [newL]
    have hx : (newL rows c)[b]? = some (numT rows c + b) := by
      unfold newL
      rw [List.getElem?_map, List.getElem?_range (by omega)]
      rfl
    have hb' : b < (newL rows c).length := by omega
    have hg : (newL rows c)[b] = numT rows c + b := by
      have := List.getElem?_eq_getElem hb'
      rw [hx] at this
      exact (Option.some.inj this).symm
    have hs : newL rows c = (newL rows c).take b ++ (numT rows c + b) :: (newL rows c).drop (b + 1) := by
      conv => lhs; rw [← List.take_append_drop b (newL rows c)]
      rw [List.drop_eq_getElem_cons hb', hg]
    refine ⟨pileT rows c ++ (newL rows c).take b, (newL rows c).drop (b + 1), ?_, ?_, ?_, ?_, rfl⟩
    · show pileT rows c ++ newL rows c = _
      conv => lhs; rw [hs]
      rw [List.append_assoc]
    · rw [List.length_drop, hl]
      show _ = -(b : Int) + (rowAt rows c).1
      omega
    · intro z
      rcases List.mem_append.mp z with z | z
      · have := pile_lt h z; omega
      · unfold newL at z
        rw [← List.map_take, List.take_range] at z
        obtain ⟨j, hj, e⟩ := List.mem_map.mp z
        have := List.mem_range.mp hj
        omega
    · intro z
      unfold newL at z
      rw [← List.map_drop] at z
      obtain ⟨j, hj, e⟩ := List.mem_map.mp z
      obtain ⟨i, hi⟩ := List.mem_iff_getElem?.mp hj
      rw [List.getElem?_drop] at hi
      have hi' : b + 1 + i < (rowAt rows c).1.toNat := by
        have := (List.getElem?_eq_some_iff.mp hi).1
        simpa using this
      rw [List.getElem?_range hi'] at hi
      have := Option.some.inj hi
      omega
  | k + 1, hk => by
    obtain ⟨lo, hi, e, hl, h1, h2, h3⟩ := lies h hb k fun j hj => hk j (by omega)
    have hd := hk k (by omega)
    obtain ⟨_, q1, q2, q3, q4⟩ := row_ok h (c + k)
    have hda : dueP rows c b (k + 1) = dueP rows c b k + (rowAt rows (c + k)).1 - (rowAt rows (c + k)).2 := rfl
    have ha : (rowAt rows (c + k)).2.toNat ≤ hi.length := by omega
    have el : (pileB rows (c + k)).length - (rowAt rows (c + k)).2.toNat = lo.length + (1 + (hi.length - (rowAt rows (c + k)).2.toNat)) := by
      rw [e, List.length_append, List.length_cons]
      omega
    have et : pileT rows (c + k + 1) = lo ++ (numT rows c + b) :: hi.take (hi.length - (rowAt rows (c + k)).2.toNat) := by
      rw [pileT_succ, el, e, List.take_length_add_append, Nat.add_comm 1, List.take_succ_cons]
    refine ⟨lo, hi.take (hi.length - (rowAt rows (c + k)).2.toNat) ++ newL rows (c + (k + 1)), ?_, ?_, h1, ?_, h3⟩
    · show pileT rows (c + k + 1) ++ _ = _
      rw [et, List.append_assoc]
      rfl
    · have hl2 : (newL rows (c + (k + 1))).length = (rowAt rows (c + (k + 1))).1.toNat := by simp [newL]
      obtain ⟨_, p1, _⟩ := row_ok h (c + (k + 1))
      rw [List.length_append, List.length_take, hl2]
      omega
    · intro z
      rcases List.mem_append.mp z with z | z
      · exact h2 (List.mem_of_mem_take z)
      · have := (new_ge z).1
        have h5 := numT_mono h (show c + 1 ≤ c + (k + 1) by omega)
        have h6 : numT rows (c + 1) = numT rows c + (rowAt rows c).1 := rfl
        omega
theorem not_gone {rows : List (Int × Int)} (h : rowsOk rows) {c b : Nat} (hb : (b : Int) < (rowAt rows c).1) {k : Nat} (hk : ∀ j, j < k + 1 → 0 < dueP rows c b (j + 1)) : numT rows c + b ∉ goneT rows (c + k) := by
  obtain ⟨lo, hi, e, hl, h1, h2, h3⟩ := lies h hb k fun j hj => hk j (by omega)
  have hd := hk k (by omega)
  obtain ⟨_, q1, q2, q3, q4⟩ := row_ok h (c + k)
  have hda : dueP rows c b (k + 1) = dueP rows c b k + (rowAt rows (c + k)).1 - (rowAt rows (c + k)).2 := rfl
  intro z
  have z := List.mem_reverse.mp z
  have el : (pileB rows (c + k)).length - (rowAt rows (c + k)).2.toNat = lo.length + (1 + (hi.length - (rowAt rows (c + k)).2.toNat)) := by
    rw [e, List.length_append, List.length_cons]
    omega
  rw [el, e, List.drop_length_add_append, Nat.add_comm 1, List.drop_succ_cons] at z
  exact h2 (List.mem_of_mem_drop z)
theorem is_gone {rows : List (Int × Int)} (h : rowsOk rows) {c b w : Nat} (hb : (b : Int) < (rowAt rows c).1) (hw : wAt rows c b = some w) : numT rows c + b ∈ goneT rows (c + w) ∧ numT rows c + b ∉ pileT rows (c + w + 1) := by
  obtain ⟨d1, d2, d3⟩ := wAt_some.mp hw
  obtain ⟨lo, hi, e, hl, h1, h2, h3⟩ := lies h hb w d3
  obtain ⟨_, q1, q2, q3, q4⟩ := row_ok h (c + w)
  have hda : dueP rows c b (w + 1) = dueP rows c b w + (rowAt rows (c + w)).1 - (rowAt rows (c + w)).2 := rfl
  have el : (pileB rows (c + w)).length - (rowAt rows (c + w)).2.toNat ≤ lo.length := by
    rw [e, List.length_append, List.length_cons]
    omega
  constructor
  · refine List.mem_reverse.mpr ?_
    rw [e] at el ⊢
    rw [List.drop_append_of_le_length el]
    simp
  · rw [pileT_succ]
    intro z
    rw [e] at el z
    rw [List.take_append_of_le_length el] at z
    exact h1 (List.mem_of_mem_take z)
theorem stays_gone {rows : List (Int × Int)} (h : rowsOk rows) {c b : Nat} (hb : (b : Int) < (rowAt rows c).1) {t : Nat} (ht : c < t) (hx : numT rows c + b ∉ pileT rows t) : numT rows c + b ∉ goneT rows t ∧ numT rows c + b ∉ pileT rows (t + 1) := by
  have hB : numT rows c + b ∉ pileB rows t := fun z => by
    rcases List.mem_append.mp z with z | z
    · exact hx z
    · have := (new_ge z).1
      have h5 := numT_mono h (show c + 1 ≤ t from ht)
      have h6 : numT rows (c + 1) = numT rows c + (rowAt rows c).1 := rfl
      omega
  exact ⟨fun z => hB (gone_in z), fun z => hB (List.mem_of_mem_take z)⟩
/-- the last tick with x among what g tells -/
def lastF (g : Nat → List Int) : Nat → Int → Option Int
  | 0, _ => none
  | t + 1, x => if x ∈ g t then some (t : Int) else lastF g t x
theorem last_before {rows : List (Int × Int)} (h : rowsOk rows) {c b : Nat} : ∀ t, t ≤ c → lastF (goneT rows) t (numT rows c + b) = none
  | 0, _ => rfl
  | t + 1, ht => by
    have hx : numT rows c + b ∉ goneT rows t := fun z => by
      have h1 := gone_lt h z
      have h2 := numT_mono h ht
      omega
    show (if numT rows c + (b : Int) ∈ goneT rows t then _ else _) = _
    rw [if_neg hx, last_before h t (by omega)]
theorem last_wait {rows : List (Int × Int)} (h : rowsOk rows) {c b : Nat} (hb : (b : Int) < (rowAt rows c).1) : ∀ k, (∀ j, j < k → 0 < dueP rows c b (j + 1)) → lastF (goneT rows) (c + k) (numT rows c + b) = none
  | 0, _ => last_before h c (Nat.le_refl _)
  | k + 1, hk => by
    exact (if_neg (not_gone h hb hk)).trans (last_wait h hb k fun j hj => hk j (by omega))
theorem last_after {rows : List (Int × Int)} (h : rowsOk rows) {c b w : Nat} (hb : (b : Int) < (rowAt rows c).1) (hw : wAt rows c b = some w) : ∀ m, lastF (goneT rows) (c + w + 1 + m) (numT rows c + b) = some ((c : Int) + w) ∧ numT rows c + b ∉ pileT rows (c + w + 1 + m)
  | 0 => by
    refine ⟨?_, (is_gone h hb hw).2⟩
    show (if numT rows c + (b : Int) ∈ goneT rows (c + w) then some ((c + w : Nat) : Int) else _) = _
    rw [if_pos (is_gone h hb hw).1] <;> rfl
  | m + 1 => by
    obtain ⟨e, hx⟩ := last_after h hb hw m
    obtain ⟨g1, g2⟩ := stays_gone h hb (show c < c + w + 1 + m by omega) hx
    refine ⟨?_, g2⟩
    exact (if_neg g1).trans e
/-- what a long play tells of a letter -/
theorem last_is {rows : List (Int × Int)} (h : rowsOk rows) {c b T : Nat} (hb : (b : Int) < (rowAt rows c).1) (hT : c + rows.length ≤ T) : lastF (goneT rows) T (numT rows c + b) = (wAt rows c b).map fun w : Nat => (c : Int) + (w : Int) := by
  cases hw : wAt rows c b with
  | none =>
    have := last_wait h hb (T - c) fun j _ => never h.1 hw j
    rwa [Nat.add_sub_cancel' (by have := h.1; omega)] at this
  | some w =>
    have hl := (wAt_some.mp hw).2.1
    have := (last_after h hb hw (T - (c + w + 1))).1
    rwa [Nat.add_sub_cancel' (by omega)] at this
theorem gone_len {rows : List (Int × Int)} (h : rowsOk rows) (t : Nat) : (goneT rows t).length ≤ 9 := by
  obtain ⟨_, _, _, q3, q4⟩ := row_ok h t
  unfold goneT
  rw [List.length_reverse, List.length_drop]
  omega
theorem pile_len {rows : List (Int × Int)} (h : rowsOk rows) : ∀ t : Nat, (pileT rows t).length ≤ 9 * t
  | 0 => Nat.le_refl _
  | t + 1 => by
    obtain ⟨_, q1, q2, _⟩ := row_ok h t
    have := pile_len h t
    rw [pileT_succ, List.length_take]
    have e : (pileB rows t).length = (pileT rows t).length + (rowAt rows t).1.toNat := by simp [pileB, newL]
    omega
theorem pileB_len {rows : List (Int × Int)} (h : rowsOk rows) (t : Nat) : (pileB rows t).length ≤ 9 * (t + 1) := by
  obtain ⟨_, q1, q2, _⟩ := row_ok h t
  have := pile_len h t
  have e : (pileB rows t).length = (pileT rows t).length + (rowAt rows t).1.toNat := by simp [pileB, newL]
  omega
/-- the list of the letters' ticks -/
def begL (rows : List (Int × Int)) : Nat → List Int
  | 0 => []
  | t + 1 => begL rows t ++ List.replicate (rowAt rows t).1.toNat (t : Int)
theorem begL_len {rows : List (Int × Int)} (h : rowsOk rows) : ∀ t : Nat, ((begL rows t).length : Int) = numT rows t
  | 0 => rfl
  | t + 1 => by
    obtain ⟨_, q1, _⟩ := row_ok h t
    show ((begL rows t ++ List.replicate (rowAt rows t).1.toNat (t : Int)).length : Int) = numT rows t + (rowAt rows t).1
    rw [List.length_append, List.length_replicate, Int.natCast_add, begL_len h t]
    omega
theorem begL_at {rows : List (Int × Int)} (h : rowsOk rows) {c b : Nat} (hb : (b : Int) < (rowAt rows c).1) : ∀ {T : Nat}, c < T → (begL rows T)[(numT rows c + b).toNat]? = some (c : Int)
  | T + 1, hc => by
    have hl := begL_len h T
    have hn := numT_nn h c
    show (begL rows T ++ List.replicate (rowAt rows T).1.toNat (T : Int))[_]? = _
    by_cases e : c = T
    · subst e
      rw [List.getElem?_append_right (by omega)]
      rw [List.getElem?_replicate, if_pos (by omega)]
    · have h5 := numT_mono h (show c + 1 ≤ T by omega)
      have h6 : numT rows (c + 1) = numT rows c + (rowAt rows c).1 := rfl
      rw [List.getElem?_append_left (by omega)]
      exact begL_at h hb (by omega)

end Q
namespace Q
open PySem PySem.Spec PyProof.Rows L2
open Evl (Ex)
theorem rowAt_i {rows : List (Int × Int)} (h : rowsOk rows) (t : Nat) : atI (rows.map rowD) ((t : Int) % (rows.length : Nat)) = some (rowD (rowAt rows t)) := atI_map h t
theorem modLen {rows : List (Int × Int)} (h : rowsOk rows) : (0 : Int) < (rows.length : Nat) := by have := h.1; omega
/-! ### row_at -/
/-! ### place_in, place_of -/
theorem numT_take {rows : List (Int × Int)} : ∀ j, j ≤ rows.length → numT rows j = ((rows.take j).map (·.1)).sum
  | 0, _ => rfl
  | j + 1, hj => by
    obtain ⟨r, hr⟩ := lt_some (show j < rows.length by omega)
    have e : rowAt rows j = r := by
      unfold rowAt
      rw [Nat.mod_eq_of_lt (by omega), List.getD_eq_getElem?_getD, hr] <;> rfl
    rw [take_one hr, List.map_append, List.sum_append, ← numT_take j (by omega)]
    show numT rows j + (rowAt rows j).1 = _
    rw [e]
    simp
theorem numT_all (rows : List (Int × Int)) : (rows.map (·.1)).sum = numT rows rows.length := by
  rw [numT_take rows.length (Nat.le_refl _), List.take_length]
/-- a letter's place: its tick, the letters of this tick below it -/
def Place (rows : List (Int × Int)) (x : Int) (c b : Nat) : Prop := x = numT rows c + b ∧ (b : Int) < (rowAt rows c).1
/-! ### wait_at, wait_of, answer_of -/

end Q
namespace Q
open PySem PySem.Spec PyProof.Rows L2
open Evl (Ex)
/-! ### the class: truth, rows -/
def anyL (rows : List (Int × Int)) : Bool := (rows.map fun r => decide (0 < r.1)).any id
theorem anyL_pos {rows : List (Int × Int)} (h : rowsOk rows) : anyL rows = true → 0 < numT rows rows.length := by
  intro ha
  obtain ⟨b, hb, e⟩ := List.any_eq_true.mp ha
  obtain ⟨r, hr, rfl⟩ := List.mem_map.mp hb
  have hp : 0 < r.1 := of_decide_eq_true e
  obtain ⟨i, hi⟩ := List.mem_iff_getElem?.mp hr
  have hil := (List.getElem?_eq_some_iff.mp hi).1
  have er : rowAt rows i = r := by
    unfold rowAt
    rw [Nat.mod_eq_of_lt hil, List.getD_eq_getElem?_getD, hi] <;> rfl
  have h1 := numT_mono h (show i + 1 ≤ rows.length from hil)
  have h2 : numT rows (i + 1) = numT rows i + (rowAt rows i).1 := rfl
  have h3 := numT_nn h i
  rw [er] at h2
  omega
theorem anyL_of {rows : List (Int × Int)} {r : Int × Int} (hr : r ∈ rows) (hp : 0 < r.1) : anyL rows = true := List.any_eq_true.mpr ⟨true, List.mem_map.mpr ⟨r, hr, decide_eq_true hp⟩, rfl⟩
def cBool : Con := fun ds W Ψ Ξ => ∃ rows, ds = [.tt rows] ∧ rowsOk rows ∧ Ψ (.p (.bool (anyL rows))) W
abbrev sBool : Stmt := inClass (topS 25) 8
theorem scBool : FnScope ["self", "come", "_"] ["self"] (defScope sBool) := ⟨rfl, rfl, rfl, by decide +kernel, rfl, by decide +kernel, by decide +kernel⟩
theorem bBool {K : PySem.W.Frag} {f : Addr} {fd : FuncData} (F : Fun K "__bool__" "Timetable.__bool__" sBool f fd) : Binds K fd ["self"] [] := F.binds fun _ _ _ _ _ _ us hl => match us, hl with | [_], _ => rfl
theorem okBool {L : Pl} {f : Addr} {fd : FuncData} (B : Blt L.mg) (TC : TCl L.K L.C) (F : Fun L.K "__bool__" "Timetable.__bool__" sBool f fd) : FnC L 1 f cBool := by
  refine fn_body F scBool (bBool F) (fun ds W Ψ Ξ ⟨_, h, _⟩ => by rw [h] <;> rfl) ?_
  rintro U hL ok hk ⟨f', cd, A, outer, s, H, E, T, G, Ξ, rfl⟩ ds W Ψ ⟨rows, rfl, ⟨hl0, hl1, hr⟩, k⟩
  refine wp_one ?_
  refine w_ret ?_
  refine ev_any ok B rfl ?_
  refine ea_cons ?_
  refine ev_lc ok [("come", 1), ("_", 2)] ([1] ++ ([2] ++ [])) (by simp) (blkOk_by (by rfl)) (by decide) (lc_pure ?_)
  refine ei_tup ?_
  refine ev_rows TC.cls TC.rows ?_
  refine ev_nm 0 ?_
  refine ⟨rows, rfl, ?_⟩
  refine ⟨_, rfl, ?_⟩
  have el : (rows.map rowD).length = rows.length := List.length_map _
  refine ⟨fun i => [some (.tt rows), some (.p (.int (rows.getD i (0, 0)).1)), some (.p (.int (rows.getD i (0, 0)).2))], fun i => .bool (decide (0 < (rows.getD i (0, 0)).1)), by omega, ?_, ?_, ?_⟩
  · intro s H C cl fp i Wi hi
    obtain ⟨r, hr'⟩ := lt_some (l := rows) (i := i) (by omega)
    have er : rows.getD i (0, 0) = r := by rw [List.getD_eq_getElem?_getD, hr'] <;> rfl
    rw [datAt_map hr']
    subst er
    refine eg_tup ok.blk ⟨_, rfl, rfl, ?_⟩
    refine egs_cons ?_
    refine eg_nm ok.blk 1 ?_
    refine egs_cons ?_
    refine eg_nm ok.blk 2 ?_
    refine egs_nil ?_
    exact ⟨rfl, rfl⟩
  · intro s H C cl fp i Wi hi
    refine ev_gt ?_
    refine ev_nm 1 ?_
    refine ev_int ?_
    refine cmpD ?_
    exact ⟨rfl, rfl⟩
  rw [el, range_map_getD rows (0, 0) fun r => PyData.bool (decide (0 < r.1))]
  refine ea_nil ?_
  exact ⟨rows.map fun r : Int × Int => decide (0 < r.1), by rw [List.map_map] <;> rfl, k⟩
def cRp : Con := fun ds W Ψ Ξ => ∃ rows, ds = [.tt rows] ∧ Ψ (.p (.tuple (rows.map rowD))) W
abbrev sRp : Stmt := inClass (topS 25) 2
theorem scRp : FnScope ["self"] ["self"] (defScope sRp) := ⟨rfl, rfl, rfl, by decide +kernel, rfl, by decide +kernel, by decide +kernel⟩
theorem bRp {K : PySem.W.Frag} {f : Addr} {fd : FuncData} (F : Fun K "rows" "Timetable.rows" sRp f fd) : Binds K fd ["self"] [] := F.binds fun _ _ _ _ _ _ us hl => match us, hl with | [_], _ => rfl
theorem okRp {L : Pl} {f : Addr} {fd : FuncData} (TC : TCl L.K L.C) (F : Fun L.K "rows" "Timetable.rows" sRp f fd) : FnC L 1 f cRp := by
  refine fn_body F scRp (bRp F) (fun ds W Ψ Ξ ⟨_, h, _⟩ => by rw [h] <;> rfl) ?_
  rintro U hL ok hk ⟨f', cd, A, outer, s, H, E, T, G, Ξ, rfl⟩ ds W Ψ ⟨rows, rfl, k⟩
  refine wp_one ?_
  refine w_ret ?_
  refine ev_rows TC.cls TC.rows ?_
  refine ev_nm 0 ?_
  exact ⟨rows, rfl, k⟩
/-! ### letters -/
def cArr (R : List (Int × Int) → Nat → Nat → PyData) : Con := fun ds W Ψ Ξ => ∃ rows pd, ds = [.tt rows, .p pd] ∧ rowsOk rows ∧ numKind pd = true ∧ (anyL rows = false → Ξ .nol W) ∧ (anyL rows = true → isNum 0 LASTN pd = false → Ξ .num W) ∧
  (anyL rows = true → ∀ x : Int, pd = .int x → isNum 0 LASTN pd = true → ∀ c b : Nat, Place rows x c b → Ψ (.p (R rows c b)) W)
/-- what the defs of this part stand on -/
structure Lts (L : Pl) (pr gr : Addr) : Prop where
  TC : TCl L.K L.C
  PR : PropOf L.K L.C "rows" pr gr
  FR : FnC L 1 gr cRp
  DL : DefC L "check_letters" 2 cChkL
  DC : DefC L "check_number" 2 cCheck
  last : ∃ t, L.mg "LAST" = some (.int 1000000000000000000 t)

end Q
namespace Q
open PySem PySem.Spec PyProof.Rows L2
open Evl (Ex)
theorem lay_ints : ∀ ns : List Int, PyData.canLayAll0 (ns.map .int) = true ∧ PyData.depthAll (ns.map .int) = 0
  | [] => ⟨by simp [PyData.canLayAll0], by simp [PyData.depthAll]⟩
  | n :: ns => by
    have h := lay_ints ns
    exact ⟨by simp [PyData.canLayAll0, PyData.canLay0, h.1], by simp [PyData.depthAll, PyData.depth, h.2]⟩
theorem sh_ints (ns : List Int) : SeqAt.shaped (.list (ns.map .int)) = true := by
  have h := lay_ints ns
  unfold SeqAt.shaped
  simp [PyData.canLay0, PyData.depth, h.1, h.2]
theorem eqD_list {f : Bool → Bool} {a b : List PyData} {ns : List Int} {k : D → Prop} (ha : a = ns.map .int) (hb : b = ns.map .int) (q : k (.p (.bool (f true)))) : EqD f (.p (.list a)) (.p (.list b)) k := by
  subst ha hb
  have hs := sh_ints ns
  refine ⟨hs, hs, ?_⟩
  rw [PySem.SeqAt.eqv_refl _ (SeqAt.canLay_of_shaped hs)]
  exact q
theorem cut_rng {N lo hi : Nat} {f : Nat → PyData} (h1 : lo ≤ hi) (h2 : hi ≤ N) : cutD ((List.range N).map f) (some (lo : Int)) (some (hi : Int)) = (List.range (hi - lo)).map fun j => f (lo + j) := by
  unfold cutD
  have e0 : ((List.range N).map f).length = N := by simp
  rw [e0, HT.sIx_nat, HT.sIx_nat, Nat.min_eq_left (by omega), Nat.min_eq_left (by omega)]
  refine List.ext_getElem? fun i => ?_
  rw [List.getElem?_take]
  by_cases hi' : i < hi - lo
  · rw [if_pos hi', List.getElem?_drop, List.getElem?_map, List.getElem?_map, List.getElem?_range (by omega), List.getElem?_range (by omega)]
    rfl
  · rw [if_neg hi', List.getElem?_eq_none (by simp; omega)]
theorem cut_rng2 {N lo : Nat} {f : Nat → PyData} (h2 : lo ≤ N) : cutD ((List.range N).map f) (some (lo : Int)) none = (List.range (N - lo)).map fun j => f (lo + j) := by
  have h := cut_rng (f := f) h2 (Nat.le_refl N)
  have e0 : ((List.range N).map f).length = N := by simp
  unfold cutD at h ⊢
  rw [e0] at h ⊢
  rw [HT.sIx_nat, HT.sIx_nat, Nat.min_self] at h
  rw [HT.sIx_nat, HT.sIx_none]
  exact h
theorem at_rng {N i : Nat} {f : Nat → PyData} (h : i < N) : atI ((List.range N).map f) (i : Int) = some (f i) := by
  unfold atI ixN
  have e0 : ((List.range N).map f).length = N := by simp
  rw [e0, if_pos (by omega), if_pos (by omega)]
  show ((List.range N).map f)[(i : Int).toNat]? = _
  rw [Int.toNat_natCast, List.getElem?_map, List.getElem?_range h]
  rfl
theorem Pl.Has.blk {L : Pl} {U : Ct} (hL : L.Has U) {s : Shared} {H : Hp} {scope : Scope} {C : Addr} {cl : List (Str × Addr)} {fp : List Addr} : L.Has (U.blk s H scope C cl fp) := ⟨hL.P, hL.w, hL.K, hL.mg, hL.base, hL.C, hL.cN, hL.cL, hL.cA, hL.cT⟩
theorem three_int {r : Int} (h0 : 0 ≤ r) (h1 : r < 3) : ∃ m : Int, atI [PyData.int 2, .int 5, .int 9] r = some (.int m) ∧ 2 ≤ m ∧ m ≤ 9 := by
  have e : r = 0 ∨ r = 1 ∨ r = 2 := by omega
  rcases e with rfl | rfl | rfl
  · exact ⟨2, rfl, by omega, by omega⟩
  · exact ⟨5, rfl, by omega, by omega⟩
  · exact ⟨9, rfl, by omega, by omega⟩
theorem p10_18 : (10 : Int) ^ (18 : Int).toNat = LASTN := by decide +kernel
theorem p10_9 : (10 : Int) ^ (9 : Int).toNat = 1000000000 := by decide +kernel

end Q
namespace Q
open PySem PySem.Spec PyProof.Rows L2
open Evl (Ex)
/-! ### _law_played, in full, from the top -/
theorem cut_drop {xs : List PyData} {k : Int} (h0 : 0 ≤ k) (h1 : k ≤ xs.length) : cutD xs (some k) none = xs.drop k.toNat := by
  unfold cutD
  have e : HT.sIx xs.length 0 (some k) = k.toNat := by
    show (if k < 0 then _ else min k.toNat xs.length) = _
    rw [if_neg (by omega)]
    omega
  rw [e, HT.sIx_none]
  exact List.take_of_length_le (by rw [List.length_drop]; omega)
abbrev intsL (l : List Int) : List PyData := l.map .int
def cPlayT : Con := fun ds W Ψ Ξ => ∃ (rows : List (Int × Int)) (n : Nat), ds = [.p (.list (rows.map rowD)), .p (.int n), .p .none, .p .none, .p (.bool true)] ∧ rowsOk rows ∧ n ≤ 1000 ∧
  ∀ x3 : PyData, Ψ (.p (.tuple [.list ((List.range n).map fun t => .int ((pileT rows (t + 1)).length : Nat)), .list ((List.range n).map fun t => .list (intsL (pileB rows t))), .list ((List.range n).map fun t => .list (intsL (goneT rows t))), x3])) W
/-! ### _law_ends, _law_begins -/

end Q
namespace Q
open PySem PySem.Spec PyProof.Rows L2
open Evl (Ex)
/-! ### _law_like, of what is equal -/
def flatN : PyData → Bool
  | .none => true
  | .int _ => true
  | _ => false
theorem sh_optl : ∀ {as : List PyData}, (∀ a ∈ as, flatN a = true) → PyData.canLayAll0 as = true ∧ PyData.depthAll as = 0
  | [], _ => ⟨by simp [PyData.canLayAll0], by simp [PyData.depthAll]⟩
  | a :: as, h => by
    have h1 := sh_optl fun x hx => h x (List.mem_cons_of_mem _ hx)
    have h2 := h a List.mem_cons_self
    cases a with
    | none => exact ⟨by simp [PyData.canLayAll0, PyData.canLay0, h1.1], by simp [PyData.depthAll, PyData.depth, h1.2]⟩
    | int i => exact ⟨by simp [PyData.canLayAll0, PyData.canLay0, h1.1], by simp [PyData.depthAll, PyData.depth, h1.2]⟩
    | _ => cases h2
theorem sh_flat {a : PyData} (h : flatN a = true) : SeqAt.shaped a = true := by
  cases a with
  | none => exact sh_non
  | int i => exact shaped_int i
  | _ => cases h
theorem sh_boolD (b : Bool) : SeqAt.shaped (.bool b) = true := by cases b <;> decide +kernel
theorem eqD_same {f : Bool → Bool} {a : PyData} {k : D → Prop} (hs : SeqAt.shaped a = true) (q : k (.p (.bool (f true)))) : EqD f (.p a) (.p a) k := by
  have hv : PyData.eqv a a = true := PySem.SeqAt.eqv_refl _ (SeqAt.canLay_of_shaped hs)
  cases a with
  | int i =>
    show k (.p (.bool (f (decide (i = i)))))
    rw [decide_eq_true rfl]
    exact q
  | _ =>
    refine ⟨hs, hs, ?_⟩
    rw [hv]
    exact q
theorem kNT : kitB "NoneType" "tuple" = some false := by decide +kernel
theorem kNLs : kitB "NoneType" "list" = some false := by decide +kernel
theorem kNBl : kitB "NoneType" "bool" = some false := by decide +kernel
theorem kNSt : kitB "NoneType" "str" = some false := by decide +kernel
theorem kIT : kitB "int" "tuple" = some false := by decide +kernel
theorem kILs : kitB "int" "list" = some false := by decide +kernel
theorem kIS : kitB "int" "str" = some false := by decide +kernel
theorem kLT : kitB "list" "tuple" = some false := by decide +kernel
theorem kLL : kitB "list" "list" = some true := by decide +kernel
theorem btList : bootBuiltins "list" = some (.type "list") := by decide +kernel
/-- the type of a flat value, and what isinstance tells of it -/
theorem flat_ty {a : PyData} (h : flatN a = true) : ∃ t bi, tyN (.p a) = some t ∧ kitB t "tuple" = some false ∧ kitB t "list" = some false ∧ kitB t "bool" = some false ∧ kitB t "int" = some bi ∧ kitB t "str" = some false := by
  cases a with
  | none => exact ⟨"NoneType", false, rfl, kNT, kNLs, kNBl, kNI, kNSt⟩
  | int i => exact ⟨"int", true, rfl, kIT, kILs, kIB, kII, kIS⟩
  | _ => cases h

end Q
namespace Q
open PySem PySem.Spec PyProof.Rows L2
open Evl (Ex)
/-! ### letters_in, letters_per_round, len -/
abbrev sLI : Stmt := topS 12
def cLI : Con := fun ds W Ψ Ξ => ∃ rows, ds = [.p (.tuple (rows.map rowD))] ∧ rowsOk rows ∧ Ψ (.p (.int (numT rows rows.length))) W
theorem scLI : FnScope ["rows", "come", "_"] ["rows"] (defScope sLI) := ⟨rfl, rfl, rfl, by decide +kernel, rfl, by decide +kernel, by decide +kernel⟩
theorem bLI {K : PySem.W.Frag} {f : Addr} {fd : FuncData} (F : Fun K "letters_in" "letters_in" sLI f fd) : Binds K fd ["rows"] [] := F.binds fun _ _ _ _ _ _ us hl => match us, hl with | [_], _ => rfl
theorem okLI {L : Pl} {f : Addr} {fd : FuncData} (B : Blt L.mg) (F : Fun L.K "letters_in" "letters_in" sLI f fd) : FnC L 1 f cLI := by
  refine fn_body F scLI (bLI F) (fun ds W Ψ Ξ ⟨_, h, _⟩ => by rw [h] <;> rfl) ?_
  rintro U hL ok hk ⟨f', cd, A, outer, s, H, E, T, G, Ξ, rfl⟩ ds W Ψ ⟨rows, rfl, ⟨hl0, hl1, hr⟩, k⟩
  refine wp_one ?_
  refine w_ret ?_
  refine ev_sum ok B rfl ?_
  refine ea_cons ?_
  refine ev_lc ok [("come", 1), ("_", 2)] ([1] ++ ([2] ++ [])) (by simp) (blkOk_by (by rfl)) (by decide) (lc_pure ?_)
  refine ei_tup ?_
  refine ev_nm 0 ?_
  refine ⟨_, rfl, ?_⟩
  have el : (rows.map rowD).length = rows.length := List.length_map _
  refine ⟨fun i => [some (.p (.tuple (rows.map rowD))), some (.p (.int (rows.getD i (0, 0)).1)), some (.p (.int (rows.getD i (0, 0)).2))], fun i => .int (rows.getD i (0, 0)).1, by omega, ?_, ?_, ?_⟩
  · intro s H C cl fp i Wi hi
    obtain ⟨r, hr'⟩ := lt_some (l := rows) (i := i) (by omega)
    have er : rows.getD i (0, 0) = r := by rw [List.getD_eq_getElem?_getD, hr'] <;> rfl
    rw [datAt_map hr']
    subst er
    refine eg_tup ok.blk ⟨_, rfl, rfl, ?_⟩
    refine egs_cons ?_
    refine eg_nm ok.blk 1 ?_
    refine egs_cons ?_
    refine eg_nm ok.blk 2 ?_
    refine egs_nil ?_
    exact ⟨rfl, rfl⟩
  · intro s H C cl fp i Wi hi
    refine ev_nm 1 ?_
    exact ⟨rfl, rfl⟩
  rw [el, range_map_getD rows (0, 0) fun r => PyData.int r.1]
  refine ea_nil ?_
  refine ⟨rows.map fun r => r.1, by rw [List.map_map] <;> rfl, ?_⟩
  rw [numT_all]
  exact k
abbrev sLpr : Stmt := inClass (topS 25) 3
def cLpr : Con := fun ds W Ψ Ξ => ∃ rows, ds = [.tt rows] ∧ rowsOk rows ∧ Ψ (.p (.int (numT rows rows.length))) W
theorem scLpr : FnScope ["self"] ["self"] (defScope sLpr) := ⟨rfl, rfl, rfl, by decide +kernel, rfl, by decide +kernel, by decide +kernel⟩
theorem bLpr {K : PySem.W.Frag} {f : Addr} {fd : FuncData} (F : Fun K "letters_per_round" "Timetable.letters_per_round" sLpr f fd) : Binds K fd ["self"] [] := F.binds fun _ _ _ _ _ _ us hl => match us, hl with | [_], _ => rfl
theorem okLpr {L : Pl} {f : Addr} {fd : FuncData} (TC : TCl L.K L.C) (DG : DefC L "letters_in" 1 cLI) (F : Fun L.K "letters_per_round" "Timetable.letters_per_round" sLpr f fd) : FnC L 2 f cLpr := by
  refine fn_body F scLpr (bLpr F) (fun ds W Ψ Ξ ⟨_, h, _⟩ => by rw [h] <;> rfl) ?_
  rintro U hL ok hk ⟨f', cd, A, outer, s, H, E, T, G, Ξ, rfl⟩ ds W Ψ ⟨rows, rfl, hok, k⟩
  refine wp_one ?_
  refine w_ret ?_
  refine ev_call hL ok DG (Nat.le_refl _) rfl ?_
  refine ea_cons ?_
  refine ev_rows TC.cls TC.rows ?_
  refine ev_nm 0 ?_
  refine ⟨rows, rfl, ?_⟩
  refine ea_nil ?_
  exact ⟨rows, rfl, hok, k⟩
abbrev sLen : Stmt := inClass (topS 25) 5
def cLen : Con := fun ds W Ψ Ξ => ∃ rows, ds = [.tt rows] ∧ Ψ (.p (.int (rows.length : Nat))) W
theorem scLen : FnScope ["self"] ["self"] (defScope sLen) := ⟨rfl, rfl, rfl, by decide +kernel, rfl, by decide +kernel, by decide +kernel⟩
theorem bLen {K : PySem.W.Frag} {f : Addr} {fd : FuncData} (F : Fun K "__len__" "Timetable.__len__" sLen f fd) : Binds K fd ["self"] [] := F.binds fun _ _ _ _ _ _ us hl => match us, hl with | [_], _ => rfl
theorem okLen {L : Pl} {f : Addr} {fd : FuncData} (B : Blt L.mg) (TC : TCl L.K L.C) (F : Fun L.K "__len__" "Timetable.__len__" sLen f fd) : FnC L 1 f cLen := by
  refine fn_body F scLen (bLen F) (fun ds W Ψ Ξ ⟨_, h, _⟩ => by rw [h] <;> rfl) ?_
  rintro U hL ok hk ⟨f', cd, A, outer, s, H, E, T, G, Ξ, rfl⟩ ds W Ψ ⟨rows, rfl, k⟩
  refine wp_one ?_
  refine w_ret ?_
  refine ev_len B rfl ?_
  refine ea_cons ?_
  refine ev_rows TC.cls TC.rows ?_
  refine ev_nm 0 ?_
  refine ⟨rows, rfl, ?_⟩
  refine ea_nil ?_
  refine lenD_t ?_
  rw [List.length_map]
  exact k
/-! ### letters that are unlike, as numbers -/
theorem place_all {rows : List (Int × Int)} (h : rowsOk rows) (h0 : 0 < numT rows rows.length) (x : Nat) : ∃ c b : Nat, Place rows x c b := by
  have e := numT_far rows 0 (x + 1)
  rw [Nat.zero_add] at e
  have e0 : numT rows 0 = 0 := rfl
  have h1 : ((x + 1 : Nat) : Int) * 1 ≤ ((x + 1 : Nat) : Int) * numT rows rows.length := Int.mul_le_mul_of_nonneg_left (by omega) (by omega)
  obtain ⟨c, b, _, hx, hb⟩ := place_ex h (T := (x + 1) * rows.length) (x := (x : Int)) (by omega) (by rw [e, e0]; omega)
  exact ⟨c, b, hx, hb⟩
def df (r1 r2 : List (Int × Int)) (x : Nat) : Prop := ∃ c1 b1 c2 b2 : Nat, Place r1 x c1 b1 ∧ Place r2 x c2 b2 ∧ (c1 ≠ c2 ∨ wAt r1 c1 b1 ≠ wAt r2 c2 b2)
theorem df_iff {r1 r2 : List (Int × Int)} (h1 : rowsOk r1) (h2 : rowsOk r2) {x c1 b1 c2 b2 : Nat} (p1 : Place r1 x c1 b1) (p2 : Place r2 x c2 b2) : df r1 r2 x ↔ (c1 ≠ c2 ∨ wAt r1 c1 b1 ≠ wAt r2 c2 b2) := by
  constructor
  · rintro ⟨d1, e1, d2, e2, q1, q2, h⟩
    obtain ⟨rfl, rfl⟩ := place_one h1 (p1.1.symm.trans q1.1) p1.2 q1.2
    obtain ⟨rfl, rfl⟩ := place_one h2 (p2.1.symm.trans q2.1) p2.2 q2.2
    exact h
  · exact fun h => ⟨c1, b1, c2, b2, p1, p2, h⟩
theorem df_comm {r1 r2 : List (Int × Int)} {x : Nat} (h : df r1 r2 x) : df r2 r1 x := by
  obtain ⟨c1, b1, c2, b2, p1, p2, h⟩ := h
  exact ⟨c2, b2, c1, b1, p2, p1, h.imp Ne.symm Ne.symm⟩
theorem place_shift {rows : List (Int × Int)} {x c b m q : Nat} {T : Nat} (hT : (T : Int) = m * numT rows rows.length) (p : Place rows x c b) : Place rows ((x + q * T : Nat) : Int) (c + q * m * rows.length) b := by
  refine ⟨?_, by rw [rowAt_far]; exact p.2⟩
  have e := p.1
  rw [numT_far, Int.natCast_add, Int.natCast_mul, Int.natCast_mul, hT, e, Int.mul_assoc]
  omega
/-- where both come as many in the time after which both begin anew -/
theorem df_period {r1 r2 : List (Int × Int)} (h1 : rowsOk r1) (h2 : rowsOk r2) (L1 : 0 < numT r1 r1.length) (L2 : 0 < numT r2 r2.length) {m1 m2 T : Nat} (hn : m1 * r1.length = m2 * r2.length) (T1 : (T : Int) = m1 * numT r1 r1.length) (T2 : (T : Int) = m2 * numT r2 r2.length)
    {x q : Nat} (h : df r1 r2 (x + q * T)) : df r1 r2 x := by
  obtain ⟨c1, b1, p1⟩ := place_all h1 L1 x
  obtain ⟨c2, b2, p2⟩ := place_all h2 L2 x
  have s1 := place_shift (q := q) T1 p1
  have s2 := place_shift (q := q) T2 p2
  have z := (df_iff h1 h2 s1 s2).mp h
  refine (df_iff h1 h2 p1 p2).mpr ?_
  rw [Nat.mul_assoc, Nat.mul_assoc, hn] at z
  rcases z with z | z
  · exact .inl (by omega)
  · refine .inr ?_
    rw [← Nat.mul_assoc, wAt_far, Nat.mul_assoc, ← hn, ← Nat.mul_assoc, wAt_far] at z
    exact z
def manyU (r1 r2 : List (Int × Int)) : Int := max ((Nat.lcm r1.length r2.length / r1.length : Nat) * numT r1 r1.length) ((Nat.lcm r1.length r2.length / r2.length : Nat) * numT r2 r2.length)
/-- of letters that are unlike, one comes soon -/
theorem df_soon {r1 r2 : List (Int × Int)} (h1 : rowsOk r1) (h2 : rowsOk r2) (L1 : 0 < numT r1 r1.length) (L2 : 0 < numT r2 r2.length)
    (hm : Nat.lcm r1.length r2.length / r1.length ≤ 2 ∨ Nat.lcm r1.length r2.length / r2.length ≤ 2 ∨ (Nat.lcm r1.length r2.length / r1.length = 4 ∧ Nat.lcm r1.length r2.length / r2.length = 3) ∨ (Nat.lcm r1.length r2.length / r1.length = 3 ∧ Nat.lcm r1.length r2.length / r2.length = 4))
    {x : Nat} (h : df r1 r2 x) : ∃ y, df r1 r2 y ∧ (y : Int) < manyU r1 r2 ∧ (y : Int) < 2 * (numT r1 r1.length + numT r2 r2.length) := by
  have d1 := Nat.div_mul_cancel (Nat.dvd_lcm_left r1.length r2.length)
  have d2 := Nat.div_mul_cancel (Nat.dvd_lcm_right r1.length r2.length)
  have hl := Nat.lcm_pos h1.1 h2.1
  unfold manyU
  generalize Nat.lcm r1.length r2.length / r1.length = m1 at *
  generalize Nat.lcm r1.length r2.length / r2.length = m2 at *
  generalize Nat.lcm r1.length r2.length = l at *
  have hm1 : 0 < m1 := by
    by_cases e : m1 = 0
    · subst e; omega
    · omega
  have hm2 : 0 < m2 := by
    by_cases e : m2 = 0
    · subst e; omega
    · omega
  have t1 : numT r1 l = m1 * numT r1 r1.length := by
    have := numT_far r1 0 m1
    rw [Nat.zero_add, d1] at this
    rw [this]
    show (0 : Int) + _ = _
    omega
  have t2 : numT r2 l = m2 * numT r2 r2.length := by
    have := numT_far r2 0 m2
    rw [Nat.zero_add, d2] at this
    rw [this]
    show (0 : Int) + _ = _
    omega
  generalize eL1 : numT r1 r1.length = a1 at *
  generalize eL2 : numT r2 r2.length = a2 at *
  have q1 : 0 < (m1 : Int) * a1 := Int.mul_pos (by omega) L1
  have q2 : 0 < (m2 : Int) * a2 := Int.mul_pos (by omega) L2
  -- what is small, by the four cases
  have sm1 : (m1 : Int) * a1 < m2 * a2 → (m1 : Int) * a1 < 2 * (a1 + a2) := fun hlt => by
    rcases hm with h | h | ⟨h, h'⟩ | ⟨h, h'⟩
    · have : (m1 : Int) * a1 ≤ 2 * a1 := Int.mul_le_mul_of_nonneg_right (by omega) (by omega)
      omega
    · have : (m2 : Int) * a2 ≤ 2 * a2 := Int.mul_le_mul_of_nonneg_right (by omega) (by omega)
      omega
    · subst h h'; omega
    · subst h h'; omega
  have sm2 : (m2 : Int) * a2 < m1 * a1 → (m2 : Int) * a2 < 2 * (a1 + a2) := fun hlt => by
    rcases hm with h | h | ⟨h, h'⟩ | ⟨h, h'⟩
    · have : (m1 : Int) * a1 ≤ 2 * a1 := Int.mul_le_mul_of_nonneg_right (by omega) (by omega)
      omega
    · have : (m2 : Int) * a2 ≤ 2 * a2 := Int.mul_le_mul_of_nonneg_right (by omega) (by omega)
      omega
    · subst h h'; omega
    · subst h h'; omega
  have sm3 : (m1 : Int) * a1 = m2 * a2 → (m1 : Int) * a1 ≤ 2 * (a1 + a2) := fun hlt => by
    rcases hm with h | h | ⟨h, h'⟩ | ⟨h, h'⟩
    · have : (m1 : Int) * a1 ≤ 2 * a1 := Int.mul_le_mul_of_nonneg_right (by omega) (by omega)
      omega
    · have : (m2 : Int) * a2 ≤ 2 * a2 := Int.mul_le_mul_of_nonneg_right (by omega) (by omega)
      omega
    · subst h h'; omega
    · subst h h'; omega
  -- the letter with which one has already begun anew
  have apart : ∀ {r r' : List (Int × Int)} {y : Nat}, rowsOk r → rowsOk r' → 0 < numT r r.length → 0 < numT r' r'.length → (y : Int) = numT r l → (y : Int) < numT r' l → df r r' y := fun {r r' y} h h' p p' e hlt => by
    obtain ⟨c, b, pl⟩ := place_all h p y
    obtain ⟨c', b', pl'⟩ := place_all h' p' y
    refine (df_iff h h' pl pl').mpr (.inl ?_)
    have hc : l ≤ c := by
      by_cases z : l ≤ c
      · exact z
      · have := numT_mono h (show c + 1 ≤ l by omega)
        have h6 : numT r (c + 1) = numT r c + (rowAt r c).1 := rfl
        have a := pl.1
        have b := pl.2
        omega
    have hc' : c' < l := by
      by_cases z : c' < l
      · exact z
      · have := numT_mono h' (show l ≤ c' by omega)
        have a := pl'.1
        omega
    omega
  by_cases e : (m1 : Int) * a1 = m2 * a2
  · obtain ⟨T, hT⟩ := Int.eq_ofNat_of_zero_le (Int.le_of_lt q1)
    have hT0 : 0 < T := by omega
    refine ⟨x % T, ?_, ?_, ?_⟩
    · have hx : x % T + (x / T) * T = x := by rw [Nat.mul_comm]; exact Nat.mod_add_div x T
      rw [← hx] at h
      exact df_period h1 h2 (by omega) (by omega) (m1 := m1) (m2 := m2) (by omega) (by rw [eL1]; omega) (by rw [eL2]; omega) h
    · have := Nat.mod_lt x hT0
      omega
    · have := Nat.mod_lt x hT0
      have := sm3 e
      omega
  · by_cases lt : (m1 : Int) * a1 < m2 * a2
    · obtain ⟨y, hy⟩ := Int.eq_ofNat_of_zero_le (Int.le_of_lt q1)
      refine ⟨y, apart h1 h2 (by omega) (by omega) (by omega) (by omega), by omega, ?_⟩
      have := sm1 lt
      omega
    · obtain ⟨y, hy⟩ := Int.eq_ofNat_of_zero_le (Int.le_of_lt q2)
      refine ⟨y, df_comm (apart h2 h1 (by omega) (by omega) (by omega) (by omega)), by omega, ?_⟩
      have := sm2 (by omega)
      omega
/-- the first below m with P -/
def IsFst (P : Nat → Prop) (m : Int) : Option Nat → Prop
  | some x => (x : Int) < m ∧ P x ∧ ∀ y, y < x → ¬ P y
  | none => ∀ y : Nat, (y : Int) < m → ¬ P y
theorem fst_eq {P P' : Nat → Prop} {m m' : Int} {o o' : Option Nat} (h : IsFst P m o) (h' : IsFst P' m' o') (e : ∀ y : Nat, (y : Int) < m' → (P y ↔ P' y)) (soon : ∀ x, P x → ∃ y, P y ∧ (y : Int) < m ∧ (y : Int) < m') : o = o' := by
  cases o with
  | none =>
    cases o' with
    | none => rfl
    | some x' =>
      obtain ⟨a, b, c⟩ := h'
      obtain ⟨y, p, q, _⟩ := soon x' ((e x' a).mpr b)
      exact absurd p (h y q)
  | some x =>
    obtain ⟨a, b, c⟩ := h
    have key : (x : Int) < m' := by
      obtain ⟨y, p, q, r⟩ := soon x b
      by_cases z : y < x
      · exact absurd p (c y z)
      · omega
    cases o' with
    | none => exact absurd ((e x key).mp b) (h' x key)
    | some x' =>
      obtain ⟨a', b', c'⟩ := h'
      have h1 : ¬ x < x' := fun z => c' x z ((e x key).mp b)
      have h2 : ¬ x' < x := fun z => c x' z ((e x' a').mpr b')
      exact congrArg some (by omega)

end Q
namespace Q
open PySem PySem.Spec PyProof.Rows L2
open Evl (Ex)
/-! ### equality of numbers or None, of courses -/
theorem sh_optD (o : Option Int) : SeqAt.shaped (optD o) = true := by cases o <;> first | exact sh_non | exact shaped_int _
theorem eqv_optD (a b : Option Int) : PyData.eqv (optD a) (optD b) = decide (a = b) := by
  cases a with
  | none => cases b <;> simp [optD, PyData.eqv]
  | some i =>
    cases b with
    | none => simp [optD, PyData.eqv]
    | some j =>
      show PyData.eqv (.int i) (.int j) = _
      rw [eqv_int]
      simp
theorem eqD_opt {f : Bool → Bool} {a b : Option Int} {k : D → Prop} (q : k (.p (.bool (f (decide (a = b)))))) : EqD f (.p (optD a)) (.p (optD b)) k := by
  have hv := eqv_optD a b
  have ha := sh_optD a
  have hb := sh_optD b
  rw [← hv] at q
  cases a <;> cases b <;> first | exact ⟨ha, hb, q⟩ | skip
  rename_i i j
  rw [show PyData.eqv (optD (some i)) (optD (some j)) = decide (i = j) from eqv_int i j] at q
  exact q
abbrev crs (c : Nat) (o : Option Int) : PyData := .tuple [.int (c : Nat), optD o]
theorem sh_crs (c : Nat) (o : Option Int) : SeqAt.shaped (crs c o) = true := by
  have h := sh_optl (as := [.int (c : Nat), optD o]) (fun a ha => by
    rcases List.mem_cons.mp ha with rfl | ha
    · rfl
    · rw [List.mem_singleton.mp ha]; cases o <;> rfl)
  unfold SeqAt.shaped
  simp [PyData.canLay0, PyData.depth, h.1, h.2]
theorem eqv_crs (c c' : Nat) (o o' : Option Int) : PyData.eqv (crs c o) (crs c' o') = decide (c = c' ∧ o = o') := by
  by_cases h : c = c' ∧ o = o'
  · obtain ⟨rfl, rfl⟩ := h
    rw [PySem.SeqAt.eqv_refl _ (SeqAt.canLay_of_shaped (sh_crs c o))]
    simp
  · rw [decide_eq_false h]
    have h1 := eqv_int (c : Nat) (c' : Nat)
    have h2 := eqv_optD o o'
    unfold crs
    simp only [PyData.eqv, PyData.eqvAll] at h1 h2 ⊢
    first
      | (rw [h1, h2]; simp; intro a b; exact h ⟨by omega, b⟩)
      | (simp [h1, h2]; intro a b; exact h ⟨by omega, b⟩)
theorem eqD_crs {f : Bool → Bool} {c c' : Nat} {o o' : Option Int} {k : D → Prop} (q : k (.p (.bool (f (decide (c = c' ∧ o = o')))))) : EqD f (.p (crs c o)) (.p (crs c' o')) k := by
  refine ⟨sh_crs c o, sh_crs c' o', ?_⟩
  rw [eqv_crs]
  exact q
theorem waits_eq {a b : Option Nat} : (a.map fun w => ((w : Nat) : Int)) = (b.map fun w => ((w : Nat) : Int)) ↔ a = b := by
  cases a <;> cases b <;> simp <;> omega
/-! ### _course, first_unlike -/

end Q
namespace Q
open PySem PySem.Spec PyProof.Rows L2
open Evl (Ex)
/-! ### the law's own reckoning -/
def begO (r : List (Int × Int)) (T x : Nat) : Option Int := (begL r T)[x]?
def dlw (r1 r2 : List (Int × Int)) (T1 T2 S x : Nat) : Bool := decide (begO r1 T1 x ≠ begO r2 T2 x) || decide (lastF (goneT r1) S x ≠ lastF (goneT r2) S x)
theorem begO_in {r : List (Int × Int)} (h : rowsOk r) {T x : Nat} (hx : (x : Int) < numT r T) : ∃ c b : Nat, c < T ∧ Place r x c b ∧ begO r T x = some (c : Int) := by
  obtain ⟨c, b, hc, e, hb⟩ := place_ex h (T := T) (x := (x : Int)) (by omega) hx
  refine ⟨c, b, hc, ⟨e, hb⟩, ?_⟩
  have z := begL_at h hb hc
  rw [← e, Int.toNat_natCast] at z
  exact z
theorem dlw_df {r1 r2 : List (Int × Int)} (h1 : rowsOk r1) (h2 : rowsOk r2) {T1 T2 S x : Nat} (x1 : (x : Int) < numT r1 T1) (x2 : (x : Int) < numT r2 T2) (s1 : T1 + r1.length ≤ S + 1) (s2 : T2 + r2.length ≤ S + 1) : df r1 r2 x ↔ dlw r1 r2 T1 T2 S x = true := by
  obtain ⟨c1, b1, hc1, p1, g1⟩ := begO_in h1 x1
  obtain ⟨c2, b2, hc2, p2, g2⟩ := begO_in h2 x2
  have l1 := last_is h1 p1.2 (T := S) (by omega)
  have l2 := last_is h2 p2.2 (T := S) (by omega)
  rw [← p1.1] at l1
  rw [← p2.1] at l2
  rw [df_iff h1 h2 p1 p2]
  unfold dlw
  rw [g1, g2, l1, l2, Bool.or_eq_true, decide_eq_true_eq, decide_eq_true_eq]
  by_cases hc : c1 = c2
  · subst hc
    cases wAt r1 c1 b1 <;> cases wAt r2 c1 b2 <;> simp <;> omega
  · have : (some (c1 : Int) : Option Int) ≠ some (c2 : Int) := fun z => hc (by have := Option.some.inj z; omega)
    exact ⟨fun _ => .inl this, fun _ => .inl hc⟩
theorem numT_zero {r : List (Int × Int)} (h : numT r r.length = 0) (q : Nat) : numT r (q * r.length) = 0 := by
  have e := numT_far r 0 q
  rw [Nat.zero_add, h, Int.mul_zero] at e
  rw [e]
  rfl
theorem dlw_zero {r1 r2 : List (Int × Int)} (h1 : rowsOk r1) (h2 : rowsOk r2) {T1 q S : Nat} (x1 : (0 : Int) < numT r1 T1) (z : numT r2 r2.length = 0) : dlw r1 r2 T1 (q * r2.length) S 0 = true := by
  obtain ⟨c1, b1, hc1, p1, g1⟩ := begO_in h1 (x := 0) x1
  have e : begO r2 (q * r2.length) 0 = none := by
    have hl := begL_len h2 (q * r2.length)
    rw [numT_zero z q] at hl
    unfold begO
    exact List.getElem?_eq_none (by omega)
  unfold dlw
  rw [g1, e]
  simp
theorem at_none {l : List Int} {n x : Nat} (hx : x < l.length + n) : atI (intsL l ++ List.replicate n PyData.none) (x : Int) = some (optD (l[x]?)) := by
  have el : (intsL l).length = l.length := List.length_map _
  unfold atI ixN
  rw [if_pos (by omega), if_pos (by rw [List.length_append, List.length_replicate, el]; omega)]
  show (intsL l ++ List.replicate n PyData.none)[((x : Nat) : Int).toNat]? = _
  rw [Int.toNat_natCast]
  by_cases h : x < l.length
  · rw [List.getElem?_append_left (by omega), List.getElem?_map]
    obtain ⟨y, hy⟩ := lt_some h
    rw [hy]
    rfl
  · rw [List.getElem?_append_right (by omega), List.getElem?_replicate, if_pos (by omega), List.getElem?_eq_none (by omega)]
    rfl
/-- what is asked of the other rows -/
structure Oth (r1 r2 : List (Int × Int)) : Prop where
  ok : rowsOk r2
  len : r2.length ≤ 8
  big : numT r2 r2.length ≤ 24
  or : (anyL r2 = false ∧ numT r2 r2.length = 0) ∨ (anyL r2 = true ∧ (Nat.lcm r1.length r2.length / r1.length ≤ 2 ∨ Nat.lcm r1.length r2.length / r2.length ≤ 2 ∨ (Nat.lcm r1.length r2.length / r1.length = 4 ∧ Nat.lcm r1.length r2.length / r2.length = 3) ∨ (Nat.lcm r1.length r2.length / r1.length = 3 ∧ Nat.lcm r1.length r2.length / r2.length = 4)) ∧
    2 * (numT r1 r1.length + numT r2 r2.length) ≤ 40 * numT r1 r1.length ∧ 2 * (numT r1 r1.length + numT r2 r2.length) ≤ 40 * numT r2 r2.length)
theorem lcm_all : ∀ a : Fin 5, ∀ b : Fin 9, 0 < a.val → 0 < b.val → (b.val ≤ 4 ∨ b.val = 2 * a.val) → (Nat.lcm a.val b.val / a.val ≤ 2 ∨ Nat.lcm a.val b.val / b.val ≤ 2 ∨ (Nat.lcm a.val b.val / a.val = 4 ∧ Nat.lcm a.val b.val / b.val = 3) ∨ (Nat.lcm a.val b.val / a.val = 3 ∧ Nat.lcm a.val b.val / b.val = 4)) := by decide +kernel
theorem lcm_hm {a b : Nat} (ha : 0 < a) (hb : 0 < b) (ha4 : a ≤ 4) (h : b ≤ 4 ∨ b = 2 * a) : Nat.lcm a b / a ≤ 2 ∨ Nat.lcm a b / b ≤ 2 ∨ (Nat.lcm a b / a = 4 ∧ Nat.lcm a b / b = 3) ∨ (Nat.lcm a b / a = 3 ∧ Nat.lcm a b / b = 4) := lcm_all ⟨a, by omega⟩ ⟨b, by omega⟩ ha hb h
theorem numT_rows {r1 r2 : List (Int × Int)} (h : r1.map (·.1) = r2.map (·.1)) : numT r1 r1.length = numT r2 r2.length := by rw [← numT_all, ← numT_all, h]
theorem anyL_rows {r1 r2 : List (Int × Int)} (h : r1.map (·.1) = r2.map (·.1)) : anyL r1 = anyL r2 := by
  have e : ∀ r : List (Int × Int), (r.map fun r => decide (0 < r.1)) = (r.map (·.1)).map fun x => decide (0 < x) := fun r => by rw [List.map_map] <;> rfl
  unfold anyL
  rw [e, e, h]
/-- what is found while the letters are looked at from the last one on -/
def IsFrom (P : Nat → Bool) (m i : Nat) : Option Nat → Prop
  | some x => m ≤ x + i ∧ x < m ∧ P x = true ∧ ∀ y, m ≤ y + i → y < x → P y = false
  | none => ∀ y, m ≤ y + i → y < m → P y = false
theorem from_end {P : Nat → Bool} {m : Nat} {o : Option Nat} (h : IsFrom P m m o) : IsFst (fun y => P y = true) (m : Int) o := by
  have no : ∀ {y : Nat}, P y = false → ¬ (P y = true) := fun e z => by rw [e] at z; cases z
  cases o with
  | none => exact fun y hy => no (h y (by omega) (by omega))
  | some x =>
    obtain ⟨a, b, c, d⟩ := h
    exact ⟨by omega, c, fun y hy => no (d y (by omega) hy)⟩
theorem from_yes {P : Nat → Bool} {m i y : Nat} (hy : y + i + 1 = m) (hp : P y = true) : IsFrom P m (i + 1) (some y) := ⟨by omega, by omega, hp, fun z h1 h2 => by omega⟩
theorem from_no {P : Nat → Bool} {m i y : Nat} {o : Option Nat} (hy : y + i + 1 = m) (hp : P y = false) (h : IsFrom P m i o) : IsFrom P m (i + 1) o := by
  cases o with
  | none =>
    intro z h1 h2
    by_cases e : z = y
    · subst e; exact hp
    · exact h z (by omega) h2
  | some x =>
    obtain ⟨a, b, c, d⟩ := h
    refine ⟨by omega, b, c, fun z h1 h2 => ?_⟩
    by_cases e : z = y
    · subst e; exact hp
    · exact d z (by omega) h2
theorem three_int1 {r : Int} (h0 : 0 ≤ r) (h1 : r < 3) : ∃ m : Int, atI [PyData.int 1, .int 2, .int 3] r = some (.int m) ∧ 1 ≤ m ∧ m ≤ 3 := by
  have e : r = 0 ∨ r = 1 ∨ r = 2 := by omega
  rcases e with rfl | rfl | rfl
  · exact ⟨1, rfl, by omega, by omega⟩
  · exact ⟨2, rfl, by omega, by omega⟩
  · exact ⟨3, rfl, by omega, by omega⟩
theorem numT_most {rows : List (Int × Int)} {m : Int} (hr : ∀ r ∈ rows, rowIn m r) (h : rowsOk rows) : ∀ t : Nat, numT rows t ≤ m * t
  | 0 => by show (0 : Int) ≤ _; omega
  | t + 1 => by
    have e := numT_most hr h t
    have z := hr _ (List.mem_of_getElem? (row_ok h t).1)
    obtain ⟨_, a, _⟩ := z
    show numT rows t + (rowAt rows t).1 ≤ _
    have : m * ((t + 1 : Nat) : Int) = m * t + m := by rw [Int.natCast_add, Int.mul_add]; simp
    omega

end Q
namespace Q
open PySem PySem.Spec PyProof.Rows L2
open Evl (Ex)
/-! ### the bottom letter first, as numbers -/
def outT (rows : List (Int × Int)) : Nat → Int
  | 0 => 0
  | t + 1 => min (outT rows t + (rowAt rows t).2) (numT rows (t + 1))
theorem outT_le {rows : List (Int × Int)} : ∀ t, outT rows t ≤ numT rows t
  | 0 => Int.le_refl _
  | t + 1 => by show min _ _ ≤ _; omega
theorem outT_step {rows : List (Int × Int)} (h : rowsOk rows) (t : Nat) : outT rows t ≤ outT rows (t + 1) := by
  obtain ⟨_, _, _, a, _⟩ := row_ok h t
  have h1 := outT_le (rows := rows) t
  have h2 := numT_step h t
  show _ ≤ min _ _
  omega
theorem outT_mono {rows : List (Int × Int)} (h : rowsOk rows) {s : Nat} : ∀ {t : Nat}, s ≤ t → outT rows s ≤ outT rows t
  | 0, e => by have : s = 0 := by omega
               subst this; exact Int.le_refl _
  | t + 1, e => by
    by_cases hs : s = t + 1
    · subst hs; exact Int.le_refl _
    · exact Int.le_trans (outT_mono h (by omega)) (outT_step h t)
theorem outT_nn {rows : List (Int × Int)} (h : rowsOk rows) (t : Nat) : 0 ≤ outT rows t := outT_mono h (Nat.zero_le t)
theorem out_hP {rows : List (Int × Int)} (h : rowsOk rows) : ∀ t, hP rows t = numT rows t - outT rows t
  | 0 => rfl
  | t + 1 => by
    have e := out_hP h t
    show max 0 (hP rows t + (rowAt rows t).1 - (rowAt rows t).2) = numT rows t + (rowAt rows t).1 - min (outT rows t + (rowAt rows t).2) (numT rows t + (rowAt rows t).1)
    omega
/-- the tick of a letter's answer -/
def AnsB (rows : List (Int × Int)) (x : Int) (t : Nat) : Prop := outT rows t ≤ x ∧ x < outT rows (t + 1)
theorem ansB_one {rows : List (Int × Int)} (h : rowsOk rows) {x : Int} {t t' : Nat} (a : AnsB rows x t) (b : AnsB rows x t') : t = t' := by
  by_cases h1 : t < t'
  · have := outT_mono h (show t + 1 ≤ t' from h1)
    have := a.2
    have := b.1
    omega
  · by_cases h2 : t' < t
    · have := outT_mono h (show t' + 1 ≤ t from h2)
      have := b.2
      have := a.1
      omega
    · omega
theorem ansB_ex {rows : List (Int × Int)} (h : rowsOk rows) {x : Int} (h0 : 0 ≤ x) : ∀ {T : Nat}, x < outT rows T → ∃ t, t < T ∧ AnsB rows x t
  | 0, h1 => by have : outT rows 0 = 0 := rfl
                omega
  | T + 1, h1 => by
    by_cases hx : x < outT rows T
    · obtain ⟨t, a, b⟩ := ansB_ex h h0 hx
      exact ⟨t, by omega, b⟩
    · exact ⟨T, by omega, by omega, h1⟩
theorem ansB_place {rows : List (Int × Int)} (h : rowsOk rows) {x : Int} {t c b : Nat} (a : AnsB rows x t) (p : Place rows x c b) : c ≤ t := by
  by_cases z : c ≤ t
  · exact z
  · have h1 := outT_le (rows := rows) (t + 1)
    have h2 := numT_mono h (show t + 1 ≤ c by omega)
    have := a.2
    have := p.1
    omega
/-- as long as the letter waits no answer is idle -/
theorem outT_run {rows : List (Int × Int)} (h : rowsOk rows) {c : Nat} {x : Int} (hx : x < numT rows (c + 1)) (S : Nat → Int) (S0 : S 0 = 0) (S1 : ∀ i, S (i + 1) = S i + (rowAt rows (c + i)).2) : ∀ w, outT rows c + S w ≤ x → outT rows (c + w) = outT rows c + S w
  | 0, _ => by rw [S0, Nat.add_zero, Int.add_zero]
  | w + 1, hw => by
    obtain ⟨_, _, _, a, _⟩ := row_ok h (c + w)
    have e1 := S1 w
    have e := outT_run h hx S S0 S1 w (by omega)
    show min (outT rows (c + w) + (rowAt rows (c + w)).2) (numT rows (c + w + 1)) = _
    have h2 := numT_mono h (show c + 1 ≤ c + w + 1 by omega)
    rw [e]
    omega
/-- rows, from a row on, answers ahead of letters -/
def turned (rows : List (Int × Int)) (c : Nat) : List (Int × Int) := (rows.drop (c % rows.length) ++ rows.take (c % rows.length)).map fun r => (r.2, r.1)
theorem turned_len {rows : List (Int × Int)} (h0 : 0 < rows.length) (c : Nat) : (turned rows c).length = rows.length := by
  have := Nat.mod_lt c h0
  unfold turned
  rw [List.length_map, List.length_append, List.length_drop, List.length_take]
  omega
theorem turned_ok {rows : List (Int × Int)} (h : rowsOk rows) (c : Nat) : rowsOk (turned rows c) := by
  refine ⟨by rw [turned_len h.1]; exact h.1, by rw [turned_len h.1]; exact h.2.1, fun r hr => ?_⟩
  unfold turned at hr
  obtain ⟨q, hq, rfl⟩ := List.mem_map.mp hr
  have hq' : q ∈ rows := by
    rcases List.mem_append.mp hq with z | z
    · exact List.mem_of_mem_drop z
    · exact List.mem_of_mem_take z
  obtain ⟨a, b, c', d⟩ := h.2.2 q hq'
  exact ⟨c', d, a, b⟩
theorem turned_at {rows : List (Int × Int)} (h : rowsOk rows) (c i : Nat) : (rowAt (turned rows c) i).1 = (rowAt rows (c + i)).2 := by
  have hm := Nat.mod_lt c h.1
  have hi := Nat.mod_lt i h.1
  have hlen := turned_len h.1 c
  have key : (turned rows c)[i % rows.length]? = some ((rowAt rows (c + i)).2, (rowAt rows (c + i)).1) := by
    have hr := (row_ok h (c + i)).1
    unfold turned
    rw [List.getElem?_map]
    by_cases hb : c % rows.length + i % rows.length < rows.length
    · have e : (c + i) % rows.length = c % rows.length + i % rows.length := by
        rw [Nat.add_mod, Nat.mod_eq_of_lt hb]
      rw [List.getElem?_append_left (by rw [List.length_drop]; omega), List.getElem?_drop, ← e, hr]
      rfl
    · have e : (c + i) % rows.length = c % rows.length + i % rows.length - rows.length := by
        rw [Nat.add_mod, Nat.mod_eq_sub_mod (by omega), Nat.mod_eq_of_lt (by omega)]
      rw [List.getElem?_append_right (by rw [List.length_drop]; omega), List.length_drop, List.getElem?_take_of_lt (by omega)]
      rw [show i % rows.length - (rows.length - c % rows.length) = (c + i) % rows.length by omega, hr]
      rfl
  have : rowAt (turned rows c) i = ((rowAt rows (c + i)).2, (rowAt rows (c + i)).1) := by
    unfold rowAt
    rw [hlen, List.getD_eq_getElem?_getD, key]
    rfl
  rw [this]
/-- what the program reckons -/
theorem ansB_of {rows : List (Int × Int)} (h : rowsOk rows) {x : Int} {c b w b' : Nat} (p : Place rows x c b) (p' : Place (turned rows c) (hP rows c + b) w b') : AnsB rows x (c + w) := by
  have hx : x < numT rows (c + 1) := by
    have e : numT rows (c + 1) = numT rows c + (rowAt rows c).1 := rfl
    have := p.1
    have := p.2
    omega
  have eH := out_hP h c
  have S1 : ∀ i, numT (turned rows c) (i + 1) = numT (turned rows c) i + (rowAt rows (c + i)).2 := fun i => by
    show numT (turned rows c) i + (rowAt (turned rows c) i).1 = _
    rw [turned_at h]
  have q1 := p'.1
  have q2 := p'.2
  have q3 := p.1
  rw [turned_at h] at q2
  have e := outT_run h hx (numT (turned rows c)) rfl S1 w (by omega)
  refine ⟨by omega, ?_⟩
  show x < min (outT rows (c + w) + (rowAt rows (c + w)).2) (numT rows (c + w + 1))
  have h2 := numT_mono h (show c + 1 ≤ c + w + 1 by omega)
  omega
/-! ### rounds -/
theorem hP_round2 {rows : List (Int × Int)} (h : rowsOk rows) (hg : total rows ≤ 0) (t : Nat) (ht : rows.length ≤ t) : hP rows (t + rows.length) = hP rows t := by
  obtain ⟨q, j, hj, rfl⟩ : ∃ q j, j < rows.length ∧ t = rows.length * (q + 1) + j := ⟨t / rows.length - 1, t % rows.length, Nat.mod_lt _ h.1, by
    have h1 := Nat.div_add_mod t rows.length
    have h2 : 1 ≤ t / rows.length := (Nat.le_div_iff_mul_le h.1).mpr (by omega)
    rw [Nat.sub_add_cancel h2]
    exact h1.symm⟩
  have e := hP_grow rows q j (by omega)
  rw [show max 0 (total rows) = 0 by omega, Int.add_zero] at e
  rw [show rows.length * (q + 1) + j + rows.length = rows.length * (q + 2) + j by rw [Nat.mul_add rows.length q 2, Nat.mul_add rows.length q 1]; omega]
  exact e
theorem hP_round1 {rows : List (Int × Int)} (h : rowsOk rows) (t : Nat) (ht : t ≤ rows.length) : hP rows t ≤ hP rows (t + rows.length) := by
  have e1 := hP_round rows 0 t ht
  have e2 := hP_round rows 1 t ht
  rw [Nat.mul_zero, Nat.zero_add] at e1
  rw [Nat.mul_one] at e2
  rw [Nat.add_comm t, e1, e2]
  have h0 := hP_nn (rows := rows) rows.length
  rw [hAfter_max (rows.take t) _ h0]
  show hAfter (rows.take t) 0 ≤ _
  omega
theorem outT_round {rows : List (Int × Int)} (h : rowsOk rows) (hg : total rows ≤ 0) (t : Nat) : outT rows (t + rows.length) ≤ outT rows t + numT rows rows.length ∧ (rows.length ≤ t → outT rows (t + rows.length) = outT rows t + numT rows rows.length) := by
  have e1 := out_hP h t
  have e2 := out_hP h (t + rows.length)
  have e3 := numT_per rows t
  constructor
  · by_cases z : t ≤ rows.length
    · have := hP_round1 h t z
      omega
    · have := hP_round2 h hg t (by omega)
      omega
  · intro z
    have := hP_round2 h hg t z
    omega
theorem place_next {rows : List (Int × Int)} {x : Int} {c b : Nat} (p : Place rows x c b) : Place rows (x + numT rows rows.length) (c + rows.length) b := by
  refine ⟨?_, by rw [rowAt_per]; exact p.2⟩
  rw [numT_per, p.1]
  omega
/-- behind the first round, letters at the same place wait as long -/
theorem ansB_next {rows : List (Int × Int)} (h : rowsOk rows) (hg : total rows ≤ 0) {x : Int} {t c b : Nat} (p : Place rows x c b) (hx : numT rows rows.length ≤ x) (a : AnsB rows x t) : AnsB rows (x + numT rows rows.length) (t + rows.length) := by
  have hc : rows.length ≤ c := by
    by_cases z : rows.length ≤ c
    · exact z
    · have h1 := numT_mono h (show c + 1 ≤ rows.length by omega)
      have h2 : numT rows (c + 1) = numT rows c + (rowAt rows c).1 := rfl
      have := p.1
      have := p.2
      omega
  have ht := ansB_place h a p
  have e1 := (outT_round h hg t).2 (by omega)
  have e2 := (outT_round h hg (t + 1)).2 (by omega)
  rw [Nat.add_right_comm] at e2
  have a1 := a.1
  have a2 := a.2
  exact ⟨by omega, by omega⟩
/-- in the first round they wait no longer -/
theorem ansB_first {rows : List (Int × Int)} (h : rowsOk rows) (hg : total rows ≤ 0) {x : Int} {t t' : Nat} (a : AnsB rows x t) (a' : AnsB rows (x + numT rows rows.length) t') : t + rows.length ≤ t' := by
  by_cases z : t + rows.length ≤ t'
  · exact z
  · have h1 := outT_mono h (show t' + 1 ≤ t + rows.length by omega)
    have h2 := (outT_round h hg t).1
    have := a.1
    have := a'.2
    omega
/-- all letters of the first rounds are answered soon -/
theorem outT_big {rows : List (Int × Int)} (h : rowsOk rows) (hg : total rows ≤ 0) : ∀ q : Nat, (q : Int) * numT rows rows.length ≤ outT rows ((q + 1) * rows.length)
  | 0 => by
    have := outT_nn h ((0 + 1) * rows.length)
    rw [show ((0 : Nat) : Int) * numT rows rows.length = 0 by simp]
    exact this
  | q + 1 => by
    have e := outT_big h hg q
    have e2 := (outT_round h hg ((q + 1) * rows.length)).2 (Nat.le_mul_of_pos_left _ (by omega))
    rw [Nat.succ_mul (q + 1), e2]
    have : ((q + 1 : Nat) : Int) * numT rows rows.length = q * numT rows rows.length + numT rows rows.length := by rw [Int.natCast_add, Int.add_mul]; simp
    omega
/-! ### the letters that are out -/
def rngL (lo hi : Int) : List Int := (List.range (hi - lo).toNat).map fun j => lo + (j : Nat)
theorem mem_rng {lo hi x : Int} : x ∈ rngL lo hi ↔ lo ≤ x ∧ x < hi := by
  unfold rngL
  constructor
  · intro z
    obtain ⟨j, hj, rfl⟩ := List.mem_map.mp z
    have := List.mem_range.mp hj
    omega
  · rintro ⟨a, b⟩
    exact List.mem_map.mpr ⟨(x - lo).toNat, List.mem_range.mpr (by omega), by omega⟩
def goneB (rows : List (Int × Int)) (t : Nat) : List Int := rngL (outT rows t) (outT rows (t + 1))
theorem goneB_len {rows : List (Int × Int)} (h : rowsOk rows) (t : Nat) : (goneB rows t).length ≤ 9 := by
  obtain ⟨_, _, _, a, b⟩ := row_ok h t
  unfold goneB rngL
  rw [List.length_map, List.length_range]
  have : outT rows (t + 1) ≤ outT rows t + (rowAt rows t).2 := by show min _ _ ≤ _; omega
  omega
theorem lastB {rows : List (Int × Int)} (h : rowsOk rows) {x : Int} : ∀ T : Nat, (∀ t, AnsB rows x t → t < T → lastF (goneB rows) T x = some ((t : Nat) : Int)) ∧ ((∀ t, AnsB rows x t → ¬ t < T) → lastF (goneB rows) T x = none)
  | 0 => ⟨fun t _ ht => absurd ht (Nat.not_lt_zero _), fun _ => rfl⟩
  | T + 1 => by
    obtain ⟨i1, i2⟩ := lastB h (x := x) T
    have e : lastF (goneB rows) (T + 1) x = if x ∈ goneB rows T then some ((T : Nat) : Int) else lastF (goneB rows) T x := rfl
    have hm : x ∈ goneB rows T ↔ AnsB rows x T := mem_rng
    rw [e]
    by_cases z : AnsB rows x T
    · rw [if_pos (hm.mpr z)]
      exact ⟨fun t a _ => by rw [ansB_one h a z], fun n => absurd (Nat.lt_succ_self T) (n T z)⟩
    · rw [if_neg fun y => z (hm.mp y)]
      refine ⟨fun t a ht => ?_, fun n => i2 fun t a ht => n t a (by omega)⟩
      have : t ≠ T := fun y => z (y ▸ a)
      exact i1 t a (by omega)
/-! ### sums of heights -/
def sumTo (f : Nat → Int) : Nat → Int
  | 0 => 0
  | n + 1 => sumTo f n + f n
def sumH (rows : List (Int × Int)) (n : Nat) : Int := sumTo (fun t => hP rows (t + 1)) n
theorem sumTo_list (f : Nat → Int) : ∀ n, ((List.range n).map f).sum = sumTo f n
  | 0 => rfl
  | n + 1 => by
    rw [List.range_succ, List.map_append, List.sum_append, sumTo_list f n]
    simp [sumTo]
theorem sumTo_same {f g : Nat → Int} : ∀ n, (∀ i, i < n → f i = g i) → sumTo f n = sumTo g n
  | 0, _ => rfl
  | n + 1, h => by
    show sumTo f n + f n = sumTo g n + g n
    rw [sumTo_same n fun i hi => h i (by omega), h n (by omega)]
theorem sumTo_one {f g : Nat → Int} {k : Nat} {d : Int} : ∀ n, k < n → (∀ i, i < n → i ≠ k → g i = f i) → g k = f k + d → sumTo g n = sumTo f n + d
  | 0, h, _, _ => absurd h (Nat.not_lt_zero _)
  | n + 1, h, h1, h2 => by
    show sumTo g n + g n = sumTo f n + f n + d
    by_cases e : k = n
    · subst e
      rw [sumTo_same (f := g) (g := f) k fun i hi => h1 i (by omega) (by omega), h2]
      omega
    · rw [sumTo_one n (by omega) (fun i hi hk => h1 i (by omega) hk) h2, h1 n (by omega) (fun z => e z.symm)]
      omega
def turnsF (n : Nat) (cnt : Nat) (r : Nat) : Int := max 0 ((cnt : Int) - r + n - 1) / n
def partF (rows : List (Int × Int)) (cnt : Nat) (r : Nat) : Int := turnsF rows.length cnt r * hP rows (r + 1) + turnsF rows.length cnt r * (turnsF rows.length cnt r - 1) / 2 * max 0 (total rows)
theorem turns_low {n cnt r : Nat} (h0 : 0 < n) (hr : n ≤ r) (hc : cnt < n + 1) : turnsF n cnt r = 0 := by
  unfold turnsF
  have h1 : 0 ≤ max 0 ((cnt : Int) - r + n - 1) := by omega
  have h2 : max 0 ((cnt : Int) - r + n - 1) < (n : Int) := by omega
  exact Int.ediv_eq_zero_of_lt h1 h2
theorem turns_at {n q i k : Nat} (h0 : 0 < n) (hi : i < n) (hk : k < n) : turnsF n (n + q * n + k) (n + i) = if i < k then (q : Int) + 1 else q := by
  unfold turnsF
  have e : max 0 (((n + q * n + k : Nat) : Int) - ((n + i : Nat) : Int) + n - 1) = (q : Int) * n + ((k : Int) - i + n - 1) := by
    have : (0 : Int) ≤ (q : Int) * n := Int.mul_nonneg (by omega) (by omega)
    rw [Int.natCast_add, Int.natCast_add, Int.natCast_mul]
    omega
  rw [e, Int.add_comm, Int.add_mul_ediv_right _ _ (by omega : (n : Int) ≠ 0)]
  by_cases z : i < k
  · rw [if_pos z]
    have : ((k : Int) - i + n - 1) / (n : Int) = 1 := by
      have e2 : (k : Int) - i + n - 1 = ((k : Int) - i - 1) + 1 * n := by omega
      rw [e2, Int.add_mul_ediv_right _ _ (by omega : (n : Int) ≠ 0), Int.ediv_eq_zero_of_lt (by omega) (by omega)]
      omega
    omega
  · rw [if_neg z, Int.ediv_eq_zero_of_lt (by omega) (by omega)]
    omega
theorem half_next (q : Int) : (q + 1) * (q + 1 - 1) / 2 = q * (q - 1) / 2 + q := by
  have e : (q + 1) * (q + 1 - 1) = q * (q - 1) + q * 2 := by
    rw [Int.add_sub_cancel, Int.mul_sub, Int.add_mul]
    omega
  rw [e, Int.add_mul_ediv_right _ _ (by decide : (2 : Int) ≠ 0)]
theorem part_next (q hh g : Int) : (q + 1) * hh + (q + 1) * (q + 1 - 1) / 2 * g = q * hh + q * (q - 1) / 2 * g + (hh + q * g) := by
  rw [half_next]
  generalize q * (q - 1) / 2 = z
  rw [Int.add_mul, Int.add_mul]
  omega
theorem hP_far1 (rows : List (Int × Int)) (j : Nat) (hj : j ≤ rows.length) : ∀ q : Nat, hP rows (rows.length * (q + 1) + j) = hP rows (rows.length + j) + q * max 0 (total rows)
  | 0 => by simp
  | q + 1 => by
    rw [show q + 1 + 1 = q + 2 from rfl, hP_grow rows q j hj, hP_far1 rows j hj q]
    have e2 : ((q + 1 : Nat) : Int) * max 0 (total rows) = q * max 0 (total rows) + max 0 (total rows) := by rw [Int.natCast_add, Int.add_mul]; simp
    omega
/-- the program's sum is the sum -/
theorem total_is {rows : List (Int × Int)} (h : rowsOk rows) : ∀ cnt : Nat, sumTo (fun t => hP rows (t + 1)) (min cnt rows.length) + sumTo (fun i => partF rows cnt (rows.length + i)) rows.length = sumH rows cnt
  | 0 => by
    have e : sumTo (fun i => partF rows 0 (rows.length + i)) rows.length = sumTo (fun _ => 0) rows.length := sumTo_same _ fun i hi => by
      unfold partF
      rw [turns_low h.1 (by omega) (by omega)]
      simp
    have z : ∀ n, sumTo (fun _ => 0) n = 0 := fun n => by induction n with
      | zero => rfl
      | succ n ih => show sumTo _ n + 0 = 0; omega
    rw [e, z, Nat.zero_min]
    rfl
  | cnt + 1 => by
    have ih := total_is h cnt
    have es : sumH rows (cnt + 1) = sumH rows cnt + hP rows (cnt + 1) := rfl
    rw [es, ← ih]
    by_cases hc : cnt < rows.length
    · have e : sumTo (fun i => partF rows (cnt + 1) (rows.length + i)) rows.length = sumTo (fun i => partF rows cnt (rows.length + i)) rows.length := sumTo_same _ fun i hi => by
        unfold partF
        rw [turns_low h.1 (by omega) (by omega), turns_low h.1 (by omega) (by omega)]
      rw [e, show min (cnt + 1) rows.length = cnt + 1 by omega, show min cnt rows.length = cnt by omega]
      show sumTo _ cnt + hP rows (cnt + 1) + _ = _
      omega
    · obtain ⟨q, k, hk, e0⟩ : ∃ q k, k < rows.length ∧ cnt = rows.length + q * rows.length + k := ⟨(cnt - rows.length) / rows.length, (cnt - rows.length) % rows.length, Nat.mod_lt _ h.1, by
        have := Nat.div_add_mod (cnt - rows.length) rows.length
        rw [Nat.mul_comm] at this
        omega⟩
      have nt : ∀ i, i < rows.length → turnsF rows.length (cnt + 1) (rows.length + i) = if i < k + 1 then (q : Int) + 1 else q := fun i hi => by
        by_cases hk1 : k + 1 < rows.length
        · rw [e0]
          have tt := turns_at (q := q) h.1 hi hk1
          rw [← Nat.add_assoc] at tt
          exact tt
        · have ek : cnt + 1 = rows.length + (q + 1) * rows.length + 0 := by rw [Nat.succ_mul]; omega
          rw [ek, turns_at (q := q + 1) h.1 hi h.1, if_neg (by omega), if_pos (by omega)]
          omega
      have ot : ∀ i, i < rows.length → turnsF rows.length cnt (rows.length + i) = if i < k then (q : Int) + 1 else q := fun i hi => by
        rw [e0]
        exact turns_at h.1 hi hk
      have c1 : ∀ i, i < rows.length → i ≠ k → partF rows (cnt + 1) (rows.length + i) = partF rows cnt (rows.length + i) := fun i hi hik => by
        unfold partF
        rw [nt i hi, ot i hi]
        by_cases z : i < k
        · rw [if_pos z, if_pos (by omega)]
        · rw [if_neg z, if_neg (by omega)]
      have c2 : partF rows (cnt + 1) (rows.length + k) = partF rows cnt (rows.length + k) + (hP rows (rows.length + k + 1) + q * max 0 (total rows)) := by
        have n1 := nt k hk
        have o1 := ot k hk
        rw [if_pos (by omega)] at n1
        rw [if_neg (by omega)] at o1
        unfold partF
        rw [n1, o1]
        exact part_next _ _ _
      have one : sumTo (fun i => partF rows (cnt + 1) (rows.length + i)) rows.length = sumTo (fun i => partF rows cnt (rows.length + i)) rows.length + (hP rows (rows.length + k + 1) + q * max 0 (total rows)) :=
        sumTo_one rows.length hk c1 c2
      have far := hP_far1 rows (k + 1) (by omega) q
      rw [one, show min (cnt + 1) rows.length = min cnt rows.length by omega]
      have ec : cnt + 1 = rows.length * (q + 1) + (k + 1) := by rw [e0, Nat.mul_add, Nat.mul_comm rows.length q]; omega
      rw [ec, far, show rows.length + (k + 1) = rows.length + k + 1 by omega]
      omega

end Q
namespace Q
open PySem PySem.Spec PyProof.Rows L2
open Evl (Ex)
/-! ### orders -/
def ansSum (rows : List (Int × Int)) : Int := (rows.map (·.2)).sum
theorem turned_sum {rows : List (Int × Int)} (h : rowsOk rows) (c : Nat) : numT (turned rows c) (turned rows c).length = ansSum rows := by
  rw [← numT_all]
  unfold turned ansSum
  rw [List.map_map]
  show ((rows.drop (c % rows.length) ++ rows.take (c % rows.length)).map (·.2)).sum = _
  rw [List.map_append, List.sum_append]
  conv => rhs; rw [← List.take_append_drop (c % rows.length) rows]
  rw [List.map_append, List.sum_append]
  omega
theorem ansSum_nn {rows : List (Int × Int)} (h : ∀ r ∈ rows, rowOk r) : 0 ≤ ansSum rows := by
  induction rows with
  | nil => exact Int.le_refl _
  | cons r rs ih =>
    have e := ih fun x hx => h x (List.mem_cons_of_mem _ hx)
    obtain ⟨_, _, a, _⟩ := h r List.mem_cons_self
    show 0 ≤ r.2 + ansSum rs
    omega
theorem total_sums (rows : List (Int × Int)) : total rows = numT rows rows.length - ansSum rows := by
  rw [← numT_all]
  unfold total ansSum
  induction rows with
  | nil => rfl
  | cons r rs ih =>
    simp only [List.map_cons, List.sum_cons]
    omega

end Q
namespace Q
open PySem PySem.Spec PyProof.Rows L2
open Evl (Ex)
/-! ### the law's helpers -/
abbrev sGain : Stmt := topS 33
def cGain : Con := fun ds W Ψ Ξ => ∃ rows, ds = [.p (.list (rows.map rowD))] ∧ rowsOk rows ∧ Ψ (.p (.int (total rows))) W
theorem scGain : FnScope ["_law_rows_here", "_law_come", "_law_answers"] ["_law_rows_here"] (defScope sGain) := ⟨rfl, rfl, rfl, by decide +kernel, rfl, by decide +kernel, by decide +kernel⟩
theorem bGain {K : PySem.W.Frag} {f : Addr} {fd : FuncData} (F : Fun K "_law_gain" "_law_gain" sGain f fd) : Binds K fd ["_law_rows_here"] [] := F.binds fun _ _ _ _ _ _ us hl => match us, hl with | [_], _ => rfl
theorem okGain {L : Pl} {f : Addr} {fd : FuncData} (B : Blt L.mg) (F : Fun L.K "_law_gain" "_law_gain" sGain f fd) : FnC L 1 f cGain := by
  refine fn_body F scGain (bGain F) (fun ds W Ψ Ξ ⟨_, h, _⟩ => by rw [h] <;> rfl) ?_
  rintro U hL ok hk ⟨f', cd, A, outer, s, H, E, T, G, Ξ, rfl⟩ ds W Ψ ⟨rows, rfl, ⟨hl0, hl1, hr⟩, k⟩
  refine wp_one ?_
  refine w_ret ?_
  refine ev_sum ok B rfl ?_
  refine ea_cons ?_
  refine ev_lc ok [("_law_come", 1), ("_law_answers", 2)] ([1] ++ ([2] ++ [])) (by simp) (blkOk_by (by rfl)) (by decide) (lc_pure ?_)
  refine ei_lst ?_
  refine ev_nm 0 ?_
  refine ⟨_, rfl, ?_⟩
  have el : (rows.map rowD).length = rows.length := List.length_map _
  refine ⟨fun i => [some (.p (.list (rows.map rowD))), some (.p (.int (rows.getD i (0, 0)).1)), some (.p (.int (rows.getD i (0, 0)).2))], fun i => .int ((rows.getD i (0, 0)).1 - (rows.getD i (0, 0)).2), by omega, ?_, ?_, ?_⟩
  · intro s H C cl fp i Wi hi
    obtain ⟨r, hr'⟩ := lt_some (l := rows) (i := i) (by omega)
    have er : rows.getD i (0, 0) = r := by rw [List.getD_eq_getElem?_getD, hr'] <;> rfl
    rw [datAt_map hr']
    subst er
    refine eg_tup ok.blk ⟨_, rfl, rfl, ?_⟩
    refine egs_cons ?_
    refine eg_nm ok.blk 1 ?_
    refine egs_cons ?_
    refine eg_nm ok.blk 2 ?_
    refine egs_nil ?_
    exact ⟨rfl, rfl⟩
  · intro s H C cl fp i Wi hi
    refine ev_sub ?_
    refine ev_nm 1 ?_
    refine ev_nm 2 ?_
    refine subD ?_
    exact ⟨rfl, rfl⟩
  rw [el, range_map_getD rows (0, 0) fun r => PyData.int (r.1 - r.2)]
  refine ea_nil ?_
  exact ⟨rows.map fun r : Int × Int => r.1 - r.2, by rw [List.map_map] <;> rfl, k⟩

end Q
namespace Q
open PySem PySem.Spec PyProof.Rows L2
open Evl (Ex)
/-! ### _law_played, from the bottom -/
theorem rng_len {lo hi : Int} : (rngL lo hi).length = (hi - lo).toNat := by unfold rngL; rw [List.length_map, List.length_range]
theorem rng_app {lo mid hi : Int} (h1 : lo ≤ mid) (h2 : mid ≤ hi) : rngL lo mid ++ rngL mid hi = rngL lo hi := by
  refine List.ext_getElem? fun i => ?_
  unfold rngL
  by_cases h : i < (mid - lo).toNat
  · rw [List.getElem?_append_left (by simpa using h), List.getElem?_map, List.getElem?_map, List.getElem?_range h, List.getElem?_range (by omega)]
  · rw [List.getElem?_append_right (by simpa using h), List.getElem?_map, List.getElem?_map, List.length_map, List.length_range]
    by_cases h' : i < (hi - lo).toNat
    · rw [List.getElem?_range (by omega), List.getElem?_range h']
      show some (mid + ((i - (mid - lo).toNat : Nat) : Int)) = some (lo + (i : Nat))
      congr 1
      omega
    · rw [List.getElem?_eq_none (by simp; omega), List.getElem?_eq_none (by simp; omega)]
      rfl
theorem rng_take {lo hi : Int} {k : Nat} (h : lo + k ≤ hi) : (rngL lo hi).take k = rngL lo (lo + k) := by
  have e := rng_app (lo := lo) (mid := lo + k) (hi := hi) (by omega) h
  rw [← e]
  exact List.take_left' (by rw [rng_len]; omega)
theorem rng_drop {lo hi : Int} {k : Nat} (h : lo + k ≤ hi) : (rngL lo hi).drop k = rngL (lo + k) hi := by
  have e := rng_app (lo := lo) (mid := lo + k) (hi := hi) (by omega) h
  rw [← e]
  exact List.drop_left' (by rw [rng_len]; omega)
abbrev pileQ (rows : List (Int × Int)) (t : Nat) : List Int := rngL (outT rows t) (numT rows t)
def cPlayB : Con := fun ds W Ψ Ξ => ∃ (rows : List (Int × Int)) (n : Nat), ds = [.p (.list (rows.map rowD)), .p (.int n), .p .none, .p .none, .p (.bool false)] ∧ rowsOk rows ∧ n ≤ 1000 ∧
  ∀ x1 x3 : PyData, Ψ (.p (.tuple [.list ((List.range n).map fun t => .int (hP rows (t + 1))), x1, .list ((List.range n).map fun t => .list (intsL (goneB rows t))), x3])) W

end Q
namespace Q
open PySem PySem.Spec PyProof.Rows L2
open Evl (Ex)
/-! ### longest_wait, and that the bottom letter first waits no longer -/
theorem net_due {rows : List (Int × Int)} (h : rowsOk rows) (c b : Nat) : ∀ k : Nat, dueP rows c b k = numT rows (c + k) - numT rows c - b - numT (turned rows c) k
  | 0 => by
    show -(b : Int) = numT rows (c + 0) - numT rows c - b - 0
    rw [Nat.add_zero]
    omega
  | k + 1 => by
    have e := net_due h c b k
    have e2 := turned_at h c k
    have e3 : numT rows (c + (k + 1)) = numT rows (c + k) + (rowAt rows (c + k)).1 := rfl
    have e4 : numT (turned rows c) (k + 1) = numT (turned rows c) k + (rowAt (turned rows c) k).1 := rfl
    have e5 : dueP rows c b (k + 1) = dueP rows c b k + (rowAt rows (c + k)).1 - (rowAt rows (c + k)).2 := rfl
    omega
theorem wAt_all {rows : List (Int × Int)} (h : rowsOk rows) (hg : total rows ≤ 0) (c b : Nat) : ∃ w, wAt rows c b = some w := by
  cases e : wAt rows c b with
  | some w => exact ⟨w, rfl⟩
  | none =>
    have h0 := h.1
    have z := never h0 e (rows.length - 1)
    rw [Nat.sub_add_cancel h0, net_due h] at z
    have e1 := numT_per rows c
    have e2 := turned_sum h c
    rw [turned_len h0 c] at e2
    have e3 := total_sums rows
    omega
theorem last_zero (rows : List (Int × Int)) : ∀ c : Nat, ∃ s, s ≤ c ∧ hP rows s = 0 ∧ ∀ t, s < t → t ≤ c → 0 < hP rows t
  | 0 => ⟨0, Nat.le_refl _, rfl, fun t h1 h2 => by omega⟩
  | c + 1 => by
    by_cases z : hP rows (c + 1) = 0
    · exact ⟨c + 1, Nat.le_refl _, z, fun t h1 h2 => by omega⟩
    · obtain ⟨s, h1, h2, h3⟩ := last_zero rows c
      refine ⟨s, by omega, h2, fun t h4 h5 => ?_⟩
      by_cases e : t = c + 1
      · subst e
        have := hP_nn (rows := rows) (c + 1)
        omega
      · exact h3 t h4 (by omega)
theorem busy {rows : List (Int × Int)} {s : Nat} (h0 : hP rows s = 0) : ∀ k : Nat, (∀ t, s < t → t ≤ s + k → 0 < hP rows t) → hP rows (s + k) = dueP rows s 0 k
  | 0, _ => by
    show hP rows (s + 0) = -((0 : Nat) : Int)
    rw [Nat.add_zero, h0]
    rfl
  | k + 1, h => by
    have e := busy h0 k fun t h1 h2 => h t h1 (by omega)
    have p := h (s + (k + 1)) (by omega) (Nat.le_refl _)
    have e1 : hP rows (s + (k + 1)) = max 0 (hP rows (s + k) + (rowAt rows (s + k)).1 - (rowAt rows (s + k)).2) := rfl
    have e2 : dueP rows s 0 (k + 1) = dueP rows s 0 k + (rowAt rows (s + k)).1 - (rowAt rows (s + k)).2 := rfl
    omega
/-- a wait is that of a letter of the first round -/
theorem wait_first {rows : List (Int × Int)} (h : rowsOk rows) {c b w : Nat} (hb : (b : Int) < (rowAt rows c).1) (hw : wAt rows c b = some w) : ∃ (i c1 b1 : Nat), (i : Int) < numT rows rows.length ∧ Place rows i c1 b1 ∧ wAt rows c1 b1 = some w := by
  have h0 := h.1
  have e : c = c % rows.length + c / rows.length * rows.length := by
    have := Nat.mod_add_div c rows.length
    rw [Nat.mul_comm] at this
    omega
  have hm := Nat.mod_lt c h0
  rw [e, rowAt_far] at hb
  rw [e, wAt_far] at hw
  obtain ⟨n, hn⟩ := Int.eq_ofNat_of_zero_le (numT_nn h (c % rows.length))
  have e1 := numT_mono h (show c % rows.length + 1 ≤ rows.length from hm)
  have e2 : numT rows (c % rows.length + 1) = numT rows (c % rows.length) + (rowAt rows (c % rows.length)).1 := rfl
  exact ⟨n + b, c % rows.length, b, by omega, ⟨by omega, hb⟩, hw⟩

end Q
namespace Q
open PySem PySem.Spec PyProof.Rows L2
open Evl (Ex)
/-! ### the pile from its top, backwards -/
def newM (rows : List (Int × Int)) (t m : Nat) : List Int := (List.range m).map fun j => numT rows t + (j : Nat)
theorem newM_take (rows : List (Int × Int)) (t : Nat) {m c : Nat} (h : m ≤ c) : (newM rows t c).take m = newM rows t m := by
  unfold newM
  rw [← List.map_take, List.take_range, show min m c = m by omega]
theorem newL_M (rows : List (Int × Int)) (t : Nat) : newL rows t = newM rows t (rowAt rows t).1.toNat := rfl
theorem newM_len (rows : List (Int × Int)) (t m : Nat) : (newM rows t m).length = m := by unfold newM; rw [List.length_map, List.length_range]
theorem pile_hP {rows : List (Int × Int)} (h : rowsOk rows) : ∀ t : Nat, ((pileT rows t).length : Int) = hP rows t
  | 0 => rfl
  | t + 1 => by
    have e := pile_hP h t
    obtain ⟨_, a, _, b, _⟩ := row_ok h t
    have e1 : hP rows (t + 1) = max 0 (hP rows t + (rowAt rows t).1 - (rowAt rows t).2) := rfl
    rw [pileT_succ, List.length_take]
    unfold pileB
    rw [List.length_append, newL_M, newM_len, e1]
    omega
theorem pile_step {rows : List (Int × Int)} {s sp : Nat} {fd B : List Int} (e : B = (pileT rows (s + 1)).take ((pileT rows (s + 1)).length - sp) ++ fd.reverse) :
    ((rowAt rows s).2.toNat + sp < (rowAt rows s).1.toNat → B = (pileT rows s).take ((pileT rows s).length - 0) ++ (fd ++ (newM rows s ((rowAt rows s).1.toNat - ((rowAt rows s).2.toNat + sp))).reverse).reverse) ∧
    (¬ (rowAt rows s).2.toNat + sp < (rowAt rows s).1.toNat → B = (pileT rows s).take ((pileT rows s).length - ((rowAt rows s).2.toNat + sp - (rowAt rows s).1.toNat)) ++ fd.reverse) := by
  have lb : (pileB rows s).length = (pileT rows s).length + (rowAt rows s).1.toNat := by
    unfold pileB
    rw [List.length_append, newL_M, newM_len]
  have e1 : (pileT rows (s + 1)).take ((pileT rows (s + 1)).length - sp) = (pileB rows s).take ((pileT rows s).length + (rowAt rows s).1.toNat - (rowAt rows s).2.toNat - sp) := by
    rw [pileT_succ, List.take_take, List.length_take, lb]
    congr 1
    omega
  have e2 : ∀ n, (pileB rows s).take n = (pileT rows s).take n ++ (newM rows s (rowAt rows s).1.toNat).take (n - (pileT rows s).length) := fun n => by
    unfold pileB
    rw [List.take_append, newL_M]
  rw [e1, e2] at e
  refine ⟨fun h => ?_, fun h => ?_⟩
  · rw [e, newM_take _ _ (by omega), List.reverse_append, List.reverse_reverse, List.append_assoc]
    rw [List.take_of_length_le (by omega), List.take_of_length_le (by omega)]
    congr 3
    omega
  · rw [e, show (pileT rows s).length + (rowAt rows s).1.toNat - (rowAt rows s).2.toNat - sp - (pileT rows s).length = 0 by omega, List.take_zero, List.append_nil]
    congr 2
    omega
theorem rev_drop (l : List Int) (k : Nat) : (l.drop (l.length - k)).reverse = l.reverse.take k := (List.take_reverse).symm
theorem rev_take (l : List Int) (k : Nat) : (l.take (l.length - k)).reverse = l.reverse.drop k := (List.drop_reverse).symm
/-- letters_in of the first rows -/
def cLIs : Con := fun ds W Ψ Ξ => ∃ rows : List (Int × Int), ds = [.p (.tuple (rows.map rowD))] ∧ rows.length ≤ 24 ∧ Ψ (.p (.int (rows.map (·.1)).sum)) W
theorem okLIs {L : Pl} {f : Addr} {fd : FuncData} (B : Blt L.mg) (F : Fun L.K "letters_in" "letters_in" sLI f fd) : FnC L 1 f cLIs := by
  refine fn_body F scLI (bLI F) (fun ds W Ψ Ξ ⟨_, h, _⟩ => by rw [h] <;> rfl) ?_
  rintro U hL ok hk ⟨f', cd, A, outer, s, H, E, T, G, Ξ, rfl⟩ ds W Ψ ⟨rows, rfl, hl1, k⟩
  refine wp_one ?_
  refine w_ret ?_
  refine ev_sum ok B rfl ?_
  refine ea_cons ?_
  refine ev_lc ok [("come", 1), ("_", 2)] ([1] ++ ([2] ++ [])) (by simp) (blkOk_by (by rfl)) (by decide) (lc_pure ?_)
  refine ei_tup ?_
  refine ev_nm 0 ?_
  refine ⟨_, rfl, ?_⟩
  have el : (rows.map rowD).length = rows.length := List.length_map _
  refine ⟨fun i => [some (.p (.tuple (rows.map rowD))), some (.p (.int (rows.getD i (0, 0)).1)), some (.p (.int (rows.getD i (0, 0)).2))], fun i => .int (rows.getD i (0, 0)).1, by omega, ?_, ?_, ?_⟩
  · intro s H C cl fp i Wi hi
    obtain ⟨r, hr'⟩ := lt_some (l := rows) (i := i) (by omega)
    have er : rows.getD i (0, 0) = r := by rw [List.getD_eq_getElem?_getD, hr'] <;> rfl
    rw [datAt_map hr']
    subst er
    refine eg_tup ok.blk ⟨_, rfl, rfl, ?_⟩
    refine egs_cons ?_
    refine eg_nm ok.blk 1 ?_
    refine egs_cons ?_
    refine eg_nm ok.blk 2 ?_
    refine egs_nil ?_
    exact ⟨rfl, rfl⟩
  · intro s H C cl fp i Wi hi
    refine ev_nm 1 ?_
    exact ⟨rfl, rfl⟩
  rw [el, range_map_getD rows (0, 0) fun r => PyData.int r.1]
  refine ea_nil ?_
  refine ⟨rows.map fun r => r.1, by rw [List.map_map] <;> rfl, ?_⟩
  exact k

end Q
namespace Q
open PySem PySem.Spec PyProof.Rows L2
open Evl (Ex)
/-! ### tt[i], the letters that are answered, the letters at the top -/
theorem sh_row (r : Int × Int) : SeqAt.shaped (rowD r) = true := by
  unfold SeqAt.shaped
  simp [rowD, PyData.canLay0, PyData.canLayAll0, PyData.depth, PyData.depthAll]
abbrev sGet : Stmt := inClass (topS 25) 6
def cGet : Con := fun ds W Ψ Ξ => ∃ (rows : List (Int × Int)) (t : Nat), ds = [.tt rows, .p (.int t)] ∧ rowsOk rows ∧ (t : Int) ≤ LASTN ∧ Ψ (.p (rowD (rowAt rows t))) W
theorem scGet : FnScope ["self", "at"] ["self", "at"] (defScope sGet) := ⟨rfl, rfl, rfl, by decide +kernel, rfl, by decide +kernel, by decide +kernel⟩
theorem bGet {K : PySem.W.Frag} {f : Addr} {fd : FuncData} (F : Fun K "__getitem__" "Timetable.__getitem__" sGet f fd) : Binds K fd ["self", "at"] [] := F.binds fun _ _ _ _ _ _ us hl => match us, hl with | [_, _], _ => rfl
theorem isNum_nat {t : Nat} (h : (t : Int) ≤ LASTN) : isNum 0 LASTN (.int (t : Nat)) = true := by simp [isNum, h]
theorem okGet {L : Pl} {f : Addr} {fd : FuncData} (B : Blt L.mg) (TC : TCl L.K L.C) (last : ∃ t, L.mg "LAST" = some (.int 1000000000000000000 t)) (DC : DefC L "check_number" 2 cCheck) (F : Fun L.K "__getitem__" "Timetable.__getitem__" sGet f fd) : FnC L 3 f cGet := by
  refine fn_body F scGet (bGet F) (fun ds W Ψ Ξ ⟨_, _, h, _⟩ => by rw [h] <;> rfl) ?_
  rintro U hL ok hk ⟨f', cd, A, outer, s, H, E, T, G, Ξ, rfl⟩ ds W Ψ ⟨rows, t, rfl, hok, ht, k⟩
  have hl0 := hok.1
  refine wp_cons ?_
  refine w_expr ?_
  refine ev_call hL ok DC (by show 2 ≤ 2; omega) rfl ?_
  refine ea_cons ?_
  refine ev_nm 1 ?_
  refine ea_cons ?_
  refine ev_int ?_
  refine ea_cons ?_
  refine ev_globI rfl last ?_
  refine ea_nil ?_
  refine ⟨.int (t : Nat), 0, LASTN, rfl, rfl, c0_1, cL_1, c0_2, cL_2, fun _ => ?_, fun h => by rw [isNum_nat ht] at h; cases h⟩
  refine wp_one ?_
  refine w_ret ?_
  refine ev_ix ?_
  refine ev_rows TC.cls TC.rows ?_
  refine ev_nm 0 ?_
  refine ⟨rows, rfl, ?_⟩
  refine ev_mod ?_
  refine ev_toint B rfl ?_
  refine ea_cons ?_
  refine ev_nm 1 ?_
  refine ea_nil ?_
  refine int1_i ?_
  refine ev_len B rfl ?_
  refine ea_cons ?_
  refine ev_rows TC.cls TC.rows ?_
  refine ev_nm 0 ?_
  refine ⟨rows, rfl, ?_⟩
  refine ea_nil ?_
  refine lenD_t ?_
  rw [List.length_map]
  refine modD (by omega) ?_
  exact getD_t (rowAt_i hok t) k
theorem dat_all (ds : List PyData) : (List.range ds.length).map (datAt ds) = ds.map .p := range_map_getD ds .none D.p
theorem goneT_top (rows : List (Int × Int)) (t : Nat) : (pileB rows t).reverse.take (rowAt rows t).2.toNat = goneT rows t := (rev_drop _ _).symm
theorem pileT_top (rows : List (Int × Int)) (t : Nat) : (pileB rows t).reverse.drop (rowAt rows t).2.toNat = (pileT rows (t + 1)).reverse := (rev_take _ _).symm

end Q
namespace Q
open PySem PySem.Spec PyProof.Rows L2
open Evl (Ex)
/-! ### the letters that are never answered, counted -/
def nX (rows : List (Int × Int)) : Nat → Int
  | 0 => 0
  | t + 1 => nX rows t + (rowAt rows t).1 - (rowAt rows t).2
theorem due_nX (rows : List (Int × Int)) (c b : Nat) : ∀ k, dueP rows c b k = nX rows (c + k) - nX rows c - b
  | 0 => by
    show -(b : Int) = nX rows (c + 0) - nX rows c - b
    rw [Nat.add_zero]
    omega
  | k + 1 => by
    have e := due_nX rows c b k
    have e1 : dueP rows c b (k + 1) = dueP rows c b k + (rowAt rows (c + k)).1 - (rowAt rows (c + k)).2 := rfl
    have e2 : nX rows (c + (k + 1)) = nX rows (c + k) + (rowAt rows (c + k)).1 - (rowAt rows (c + k)).2 := rfl
    omega
theorem nX_take {rows : List (Int × Int)} (h : rowsOk rows) : ∀ j, j ≤ rows.length → nX rows j = total (rows.take j)
  | 0, _ => by simp [nX, total]
  | j + 1, hj => by
    have e := nX_take h j (by omega)
    have r := (row_ok h j).1
    rw [Nat.mod_eq_of_lt (by omega)] at r
    rw [take_one r, total_app]
    show nX rows j + (rowAt rows j).1 - (rowAt rows j).2 = _
    have : total [rowAt rows j] = (rowAt rows j).1 - (rowAt rows j).2 := by simp [total]
    omega
theorem nX_per {rows : List (Int × Int)} (h : rowsOk rows) : ∀ t, nX rows (t + rows.length) = nX rows t + total rows
  | 0 => by
    have e := nX_take h rows.length (Nat.le_refl _)
    rw [List.take_length] at e
    rw [Nat.zero_add, e]
    show total rows = 0 + total rows
    omega
  | t + 1 => by
    have e := nX_per h t
    rw [Nat.add_right_comm]
    show nX rows (t + rows.length) + (rowAt rows (t + rows.length)).1 - (rowAt rows (t + rows.length)).2 = nX rows t + (rowAt rows t).1 - (rowAt rows t).2 + total rows
    rw [rowAt_per]
    omega
def minF (f : Nat → Int) : Nat → Int
  | 0 => f 0
  | n + 1 => min (minF f n) (f (n + 1))
theorem minF_le {f : Nat → Int} {k : Nat} : ∀ {n : Nat}, k ≤ n → minF f n ≤ f k
  | 0, h => by
    have : k = 0 := by omega
    subst this
    exact Int.le_refl _
  | n + 1, h => by
    show min _ _ ≤ _
    by_cases e : k = n + 1
    · subst e; omega
    · have := minF_le (f := f) (show k ≤ n by omega)
      omega
theorem minF_ex (f : Nat → Int) : ∀ n : Nat, ∃ k, k ≤ n ∧ minF f n = f k
  | 0 => ⟨0, Nat.le_refl _, rfl⟩
  | n + 1 => by
    obtain ⟨k, hk, e⟩ := minF_ex f n
    by_cases z : minF f n ≤ f (n + 1)
    · exact ⟨k, by omega, by show min _ _ = _; omega⟩
    · exact ⟨n + 1, Nat.le_refl _, by show min _ _ = _; omega⟩
theorem minF_add (f : Nat → Int) (d : Int) : ∀ n : Nat, minF (fun k => f k + d) n = minF f n + d
  | 0 => rfl
  | n + 1 => by
    show min (minF (fun k => f k + d) n) (f (n + 1) + d) = min (minF f n) (f (n + 1)) + d
    rw [minF_add f d n]
    omega
def yX (rows : List (Int × Int)) (c : Nat) : Int := minF (fun k => nX rows (c + k)) (rows.length - 1)
theorem yX_step {rows : List (Int × Int)} (h : rowsOk rows) (ht : 0 ≤ total rows) (c : Nat) : yX rows c = min (nX rows c) (yX rows (c + 1)) := by
  have h0 := h.1
  obtain ⟨k1, hk1, e1⟩ := minF_ex (fun k => nX rows (c + k)) (rows.length - 1)
  obtain ⟨k2, hk2, e2⟩ := minF_ex (fun k => nX rows (c + 1 + k)) (rows.length - 1)
  have a1 : yX rows c ≤ nX rows c := minF_le (f := fun k => nX rows (c + k)) (k := 0) (by omega)
  have a2 : yX rows c ≤ yX rows (c + 1) := by
    show yX rows c ≤ minF (fun k => nX rows (c + 1 + k)) (rows.length - 1)
    rw [e2]
    show yX rows c ≤ nX rows (c + 1 + k2)
    by_cases z : k2 + 1 ≤ rows.length - 1
    · have := minF_le (f := fun k => nX rows (c + k)) (k := k2 + 1) z
      rw [show c + 1 + k2 = c + (k2 + 1) by omega]
      exact this
    · rw [show c + 1 + k2 = c + rows.length by omega, nX_per h]
      omega
  have a3 : min (nX rows c) (yX rows (c + 1)) ≤ yX rows c := by
    show _ ≤ minF (fun k => nX rows (c + k)) (rows.length - 1)
    rw [e1]
    show _ ≤ nX rows (c + k1)
    cases k1 with
    | zero =>
      show _ ≤ nX rows c
      omega
    | succ k =>
      have := minF_le (f := fun k => nX rows (c + 1 + k)) (k := k) (n := rows.length - 1) (by omega)
      have e : yX rows (c + 1) ≤ nX rows (c + 1 + k) := this
      rw [show c + (k + 1) = c + 1 + k by omega]
      omega
  omega
theorem yX_per {rows : List (Int × Int)} (h : rowsOk rows) (c : Nat) : yX rows (c + rows.length) = yX rows c + total rows := by
  unfold yX
  rw [← minF_add]
  congr 1
  funext k
  rw [Nat.add_right_comm, nX_per h]
theorem none_iff {rows : List (Int × Int)} (h : rowsOk rows) (c b : Nat) : wAt rows c b = none ↔ (b : Int) < yX rows (c + 1) - nX rows c := by
  have h0 := h.1
  rw [wAt_none]
  constructor
  · intro z
    obtain ⟨k, hk, e⟩ := minF_ex (fun k => nX rows (c + 1 + k)) (rows.length - 1)
    have e' : yX rows (c + 1) = nX rows (c + 1 + k) := e
    have := z k (by omega)
    rw [due_nX, show c + (k + 1) = c + 1 + k by omega] at this
    omega
  · intro z j hj
    have := minF_le (f := fun k => nX rows (c + 1 + k)) (k := j) (n := rows.length - 1) (by omega)
    have e : yX rows (c + 1) ≤ nX rows (c + 1 + j) := this
    rw [due_nX, show c + (j + 1) = c + 1 + j by omega]
    omega
/-- the wait of letter x -/
noncomputable def wl (rows : List (Int × Int)) (x : Nat) : Option Nat := by
  classical
  exact if h : ∃ p : Nat × Nat, Place rows x p.1 p.2 then wAt rows h.choose.1 h.choose.2 else none
theorem wl_at {rows : List (Int × Int)} (h : rowsOk rows) {x c b : Nat} (p : Place rows x c b) : wl rows x = wAt rows c b := by
  have ex : ∃ p : Nat × Nat, Place rows x p.1 p.2 := ⟨(c, b), p⟩
  unfold wl
  rw [dif_pos ex]
  have q := ex.choose_spec
  obtain ⟨e1, e2⟩ := place_one h (p.1.symm.trans q.1) p.2 q.2
  rw [← e1, ← e2]
noncomputable def nev (rows : List (Int × Int)) (x : Nat) : Bool := (wl rows x).isNone
theorem filt_len (m : Int) : ∀ n : Nat, ((List.range n).filter fun b : Nat => decide ((b : Int) < m)).length = min n m.toNat
  | 0 => by simp
  | n + 1 => by
    rw [List.range_succ, List.filter_append, List.length_append, filt_len m n]
    by_cases z : (n : Int) < m
    · rw [List.filter_cons_of_pos (by simpa using z)]
      show min n m.toNat + 1 = _
      omega
    · rw [List.filter_cons_of_neg (by simpa using z)]
      show min n m.toNat + 0 = _
      omega
theorem range_more (a b : Nat) : List.range (a + b) = List.range a ++ (List.range b).map fun j => a + j := by
  refine List.ext_getElem? fun i => ?_
  by_cases h : i < a
  · rw [List.getElem?_append_left (by simpa using h), List.getElem?_range (by omega), List.getElem?_range h]
  · rw [List.getElem?_append_right (by simpa using h), List.getElem?_map, List.length_range]
    by_cases h2 : i < a + b
    · rw [List.getElem?_range h2, List.getElem?_range (by omega)]
      show some i = some (a + (i - a))
      congr 1
      omega
    · rw [List.getElem?_eq_none (by simp; omega), List.getElem?_eq_none (by simp; omega)]
      rfl
theorem nev_count {rows : List (Int × Int)} (h : rowsOk rows) (ht : 0 ≤ total rows) : ∀ T : Nat, ((((List.range (numT rows T).toNat).filter (nev rows)).length : Nat) : Int) = yX rows T - yX rows 0
  | 0 => by
    show ((((List.range 0).filter (nev rows)).length : Nat) : Int) = _
    simp
  | T + 1 => by
    have e := nev_count h ht T
    obtain ⟨_, c0, c1, a0, a1⟩ := row_ok h T
    have nn := numT_nn h T
    have e1 : (numT rows (T + 1)).toNat = (numT rows T).toNat + (rowAt rows T).1.toNat := by
      show (numT rows T + (rowAt rows T).1).toNat = _
      omega
    have st := yX_step h ht T
    have up : yX rows (T + 1) ≤ nX rows (T + 1) := minF_le (f := fun k => nX rows (T + 1 + k)) (k := 0) (by omega)
    have ex : nX rows (T + 1) = nX rows T + (rowAt rows T).1 - (rowAt rows T).2 := rfl
    rw [e1, range_more, List.filter_append, List.length_append, List.filter_map, List.length_map]
    have fc : (List.range (rowAt rows T).1.toNat).filter (nev rows ∘ fun j => (numT rows T).toNat + j) = (List.range (rowAt rows T).1.toNat).filter fun b : Nat => decide ((b : Int) < yX rows (T + 1) - nX rows T) := by
      refine List.filter_congr fun b hb => ?_
      have hb' := List.mem_range.mp hb
      have p : Place rows ((numT rows T).toNat + b : Nat) T b := ⟨by omega, by omega⟩
      show (wl rows ((numT rows T).toNat + b)).isNone = _
      rw [wl_at h p]
      have ni := none_iff h T b
      by_cases z : (b : Int) < yX rows (T + 1) - nX rows T
      · rw [ni.mpr z, decide_eq_true z] <;> rfl
      · rw [decide_eq_false z]
        cases w : wAt rows T b with
        | none => exact absurd (ni.mp w) z
        | some _ => rfl
    rw [fc, filt_len]
    omega
theorem nev_total {rows : List (Int × Int)} (h : rowsOk rows) (L1 : 0 < numT rows rows.length) : ((((List.range (numT rows rows.length).toNat).filter (nev rows)).length : Nat) : Int) = max 0 (total rows) := by
  by_cases ht : 0 ≤ total rows
  · have e := nev_count h ht rows.length
    have p := yX_per h 0
    rw [Nat.zero_add] at p
    omega
  · have e : (List.range (numT rows rows.length).toNat).filter (nev rows) = [] := by
      refine List.filter_eq_nil_iff.mpr fun x hx => ?_
      obtain ⟨c, b, p⟩ := place_all h L1 x
      obtain ⟨w, hw⟩ := wAt_all h (by omega) c b
      show ¬ (wl rows x).isNone = true
      rw [wl_at h p, hw]
      simp
    rw [e]
    show ((0 : Nat) : Int) = _
    omega
/-! ### where all are answered, the pile comes again -/
theorem zero_ex {rows : List (Int × Int)} (h : rowsOk rows) (hg : total rows ≤ 0) : ∃ s, rows.length < s ∧ s ≤ 2 * rows.length ∧ hP rows s = 0 := by
  have h0 := h.1
  obtain ⟨s, h1, h2, h3⟩ := last_zero rows (2 * rows.length)
  by_cases z : rows.length < s
  · exact ⟨s, z, h1, h2⟩
  · obtain ⟨w, hw⟩ := wAt_all h hg s 0
    obtain ⟨w1, w2, _⟩ := wAt_some.mp hw
    have e := busy h2 (w + 1) fun t h4 h5 => h3 t h4 (by omega)
    have := h3 (s + (w + 1)) (by omega) (by omega)
    omega
theorem newL_per (rows : List (Int × Int)) (t : Nat) : newL rows (t + rows.length) = (newL rows t).map fun x => x + numT rows rows.length := by
  unfold newL
  rw [rowAt_per, numT_per, List.map_map]
  refine List.map_congr_left fun j _ => ?_
  show numT rows t + numT rows rows.length + (j : Nat) = numT rows t + (j : Nat) + numT rows rows.length
  omega
theorem pile_per {rows : List (Int × Int)} (h : rowsOk rows) (hg : total rows ≤ 0) {t : Nat} (ht : 2 * rows.length ≤ t) : pileT rows (t + rows.length) = (pileT rows t).map fun x => x + numT rows rows.length := by
  obtain ⟨s, h1, h2, h3⟩ := zero_ex h hg
  have h4 := hP_round2 h hg s (by omega)
  have nil : ∀ q, hP rows q = 0 → pileT rows q = [] := fun q z => List.eq_nil_of_length_eq_zero (by have := pile_hP h q; omega)
  have all : ∀ k, pileT rows (s + k + rows.length) = (pileT rows (s + k)).map fun x => x + numT rows rows.length := fun k => by
    induction k with
    | zero =>
      rw [Nat.add_zero, nil _ h3, nil _ (by omega)]
      rfl
    | succ k ih =>
      have eb : pileB rows (s + k + rows.length) = (pileB rows (s + k)).map fun x => x + numT rows rows.length := by
        unfold pileB
        rw [ih, newL_per, List.map_append]
      rw [show s + (k + 1) + rows.length = s + k + rows.length + 1 by omega, show s + (k + 1) = s + k + 1 by omega, pileT_succ, pileT_succ, eb, rowAt_per, List.length_map, List.map_take]
  have := all (t - s)
  rw [show s + (t - s) = t by omega] at this
  exact this
theorem sh_flats {as : List PyData} (h : ∀ a ∈ as, flatN a = true) : SeqAt.shaped (.list as) = true := by
  have z := sh_optl h
  unfold SeqAt.shaped
  simp [PyData.canLay0, PyData.depth, z.1, z.2]
noncomputable def neverL (rows : List (Int × Int)) : List Int := ((List.range (numT rows rows.length).toNat).filter (nev rows)).map fun i => ((i : Nat) : Int)

end Q
namespace Q
open PySem PySem.Spec PyProof.Rows L2
open Evl (Ex)
/-! ### the sum of two timetables, == of two timetables -/
def sumRows (r1 r2 : List (Int × Int)) : List (Int × Int) := (List.range (Nat.lcm r1.length r2.length)).map fun t => ((rowAt r1 t).1 + (rowAt r2 t).1, (rowAt r1 t).2 + (rowAt r2 t).2)
abbrev sAdded : Stmt := topS 24
def cAdded : Con := fun ds W Ψ Ξ => ∃ r1 r2, ds = [.tt r1, .tt r2] ∧ rowsOk r1 ∧ rowsOk r2 ∧ Ψ (.p (.list ((sumRows r1 r2).map rowD))) W
theorem scAdded : FnScope ["one", "other", "ticks", "tick"] ["one", "other"] (defScope sAdded) := ⟨rfl, rfl, rfl, by decide +kernel, rfl, by decide +kernel, by decide +kernel⟩
theorem bAdded {K : PySem.W.Frag} {f : Addr} {fd : FuncData} (F : Fun K "_added_rows" "_added_rows" sAdded f fd) : Binds K fd ["one", "other"] [] := F.binds fun _ _ _ _ _ _ us hl => match us, hl with | [_, _], _ => rfl
theorem okAdded {L : Pl} {f gl gi : Addr} {fd : FuncData} (B : Blt L.mg) (mLcm : L.mg "lcm" = some (.builtin "math.lcm")) (lo : LenO L.K L.C gl) (FL : FnC L 1 gl cLen) (gO : GetO L.K L.C gi) (FG : FnC L 3 gi cGet) (F : Fun L.K "_added_rows" "_added_rows" sAdded f fd) : FnC L 5 f cAdded := by
  refine fn_body F scAdded (bAdded F) (fun ds W Ψ Ξ ⟨_, _, h, _⟩ => by rw [h] <;> rfl) ?_
  rintro U hL ok hk ⟨f', cd, A, outer, s, H, E, T, G, Ξ, rfl⟩ ds W Ψ ⟨r1, r2, rfl, h1, h2, k⟩
  have l1 := h1.2.1
  have l2 := h2.2.1
  have hl : Nat.lcm r1.length r2.length ≤ 576 := Nat.le_trans (lcm_le _ _) (Nat.mul_le_mul l1 l2)
  have hlast : ∀ t : Nat, t < 576 → (t : Int) ≤ LASTN := fun t ht => by show (t : Int) ≤ 1000000000000000000; omega
  refine wp_cons ?_
  refine w_st ok 2 ?_
  refine ev_rng1 B rfl ?_
  refine ea_cons ?_
  refine ev_lcm rfl mLcm ?_
  refine ea_cons ?_
  refine ev_lenT hL ok B lo FL (by show 2 ≤ 4; omega) rfl ?_
  refine ea_cons ?_
  refine ev_nm 0 ?_
  refine ea_nil ?_
  refine both ⟨_, rfl⟩ ?_
  refine ⟨r1, rfl, _, rfl, by omega, by omega, ?_⟩
  refine ea_cons ?_
  refine ev_lenT hL ok B lo FL (by show 2 ≤ 4; omega) rfl ?_
  refine ea_cons ?_
  refine ev_nm 1 ?_
  refine ea_nil ?_
  refine both ⟨_, rfl⟩ ?_
  refine ⟨r2, rfl, _, rfl, by omega, by omega, ?_⟩
  refine ea_nil ?_
  refine ⟨r1.length, r2.length, rfl, by omega, by omega, ?_⟩
  refine ea_nil ?_
  refine ⟨_, rfl, ?_⟩
  refine wp_one ?_
  refine w_ret ?_
  refine ev_lc ok [("tick", 3)] [3] (by simp) (blkOk_by (by rfl)) (by decide) (lc_pure ?_)
  refine ei_rngV ?_
  refine ev_nm 2 ?_
  refine ⟨_, rfl, by omega, by omega, ?_⟩
  rw [Int.toNat_natCast]
  refine ⟨fun i => [some (.tt r1), some (.tt r2), some (.rng (Nat.lcm r1.length r2.length : Nat)), some (.p (.int (i : Nat)))], fun i => rowD ((rowAt r1 i).1 + (rowAt r2 i).1, (rowAt r1 i).2 + (rowAt r2 i).2), by omega, ?_, ?_, ?_⟩
  · intro s H C cl fp i Wi hi
    refine eg_nm ok.blk 3 ?_
    exact ⟨rfl, rfl⟩
  · intro s H C cl fp i Wi hi
    refine ev_tup ?_
    refine ea_cons ?_
    refine ev_add ?_
    refine ev_ix ?_
    refine ev_getO hL.blk ok.blk gO FG (by show 4 ≤ 4; omega) ?_
    refine ev_nm 0 ?_
    refine both ⟨r1, rfl⟩ ?_
    refine ev_nm 3 ?_
    refine ⟨r1, i, rfl, h1, hlast i (by omega), ?_⟩
    refine ev_int ?_
    refine getD_t rfl ?_
    refine ev_ix ?_
    refine ev_getO hL.blk ok.blk gO FG (by show 4 ≤ 4; omega) ?_
    refine ev_nm 1 ?_
    refine both ⟨r2, rfl⟩ ?_
    refine ev_nm 3 ?_
    refine ⟨r2, i, rfl, h2, hlast i (by omega), ?_⟩
    refine ev_int ?_
    refine getD_t rfl ?_
    refine addD_i ?_
    refine ea_cons ?_
    refine ev_add ?_
    refine ev_ix ?_
    refine ev_getO hL.blk ok.blk gO FG (by show 4 ≤ 4; omega) ?_
    refine ev_nm 0 ?_
    refine both ⟨r1, rfl⟩ ?_
    refine ev_nm 3 ?_
    refine ⟨r1, i, rfl, h1, hlast i (by omega), ?_⟩
    refine ev_int ?_
    refine getD_t rfl ?_
    refine ev_ix ?_
    refine ev_getO hL.blk ok.blk gO FG (by show 4 ≤ 4; omega) ?_
    refine ev_nm 1 ?_
    refine both ⟨r2, rfl⟩ ?_
    refine ev_nm 3 ?_
    refine ⟨r2, i, rfl, h2, hlast i (by omega), ?_⟩
    refine ev_int ?_
    refine getD_t rfl ?_
    refine addD_i ?_
    refine ea_nil ?_
    refine allP_cons (allP_cons (allP_nil ⟨by show 2 ≤ 1000; omega, ?_⟩))
    exact ⟨rfl, rfl⟩
  · have e : (sumRows r1 r2).map rowD = (List.range (Nat.lcm r1.length r2.length)).map fun i => rowD ((rowAt r1 i).1 + (rowAt r2 i).1, (rowAt r1 i).2 + (rowAt r2 i).2) := by
      unfold sumRows
      rw [List.map_map] <;> rfl
    rw [← e]
    exact k
abbrev sAdd : Stmt := inClass (topS 25) 9
def cAdd : Con := fun ds W Ψ Ξ => ∃ r1 r2, ds = [.tt r1, .tt r2] ∧ rowsOk r1 ∧ rowsOk r2 ∧ rowsOk (sumRows r1 r2) ∧ Ψ (.tt (sumRows r1 r2)) W
theorem scAdd : FnScope ["self", "other", "rows"] ["self", "other"] (defScope sAdd) := ⟨rfl, rfl, rfl, by decide +kernel, rfl, by decide +kernel, by decide +kernel⟩
theorem bAdd {K : PySem.W.Frag} {f : Addr} {fd : FuncData} (F : Fun K "__add__" "Timetable.__add__" sAdd f fd) : Binds K fd ["self", "other"] [] := F.binds fun _ _ _ _ _ _ us hl => match us, hl with | [_, _], _ => rfl
theorem okAdd {L : Pl} {f fi : Addr} {fd : FuncData} (B : Blt L.mg) (mC : L.mg "Timetable" = some (.ref L.C)) (IC : C8.InsC L.K L.C) (M : Mk L.K L.C fi) (FI : FnR L.P L.w L.K L.mg L.base (L2.CX L.P L.w) 4 fi (starSp (spG L (cInit L.C)))) (DA : DefC L "_added_rows" 5 cAdded) (F : Fun L.K "__add__" "Timetable.__add__" sAdd f fd) : FnC L 6 f cAdd := by
  refine fn_body F scAdd (bAdd F) (fun ds W Ψ Ξ ⟨_, _, h, _⟩ => by rw [h] <;> rfl) ?_
  rintro U hL ok hk ⟨f', cd, A, outer, s, H, E, T, G, Ξ, rfl⟩ ds W Ψ ⟨r1, r2, rfl, h1, h2, h3, k⟩
  refine wp_cons ?_
  refine w_if ?_
  refine et_not ?_
  refine et_val ?_
  refine ev_isC IC B rfl ?_
  refine ea_cons ?_
  refine ev_nm 1 ?_
  refine ea_cons ?_
  refine ev_globR rfl mC ?_
  refine ea_nil ?_
  refine ⟨r2, rfl, ?_⟩
  refine truD_b ?_
  refine branch (fun z => nomatch z) fun _ => ?_
  refine wp_nil ?_
  refine wp_cons ?_
  refine w_st ok 2 ?_
  refine ev_call hL ok DA (by show 5 ≤ 5; omega) rfl ?_
  refine ea_cons ?_
  refine ev_nm 0 ?_
  refine ea_cons ?_
  refine ev_nm 1 ?_
  refine ea_nil ?_
  refine ⟨r1, r2, rfl, h1, h2, ?_⟩
  refine wp_one ?_
  refine w_ret ?_
  refine ev_makeS hL ok M FI (by show 5 ≤ 5; omega) ?_
  refine ev_globR rfl mC ?_
  refine both rfl ?_
  refine ev_nm 2 ?_
  refine ⟨_, .inl rfl, by have := h3.2.1; rw [List.length_map]; omega, fun x dx => ?_⟩
  exact ⟨x, dx, sumRows r1 r2, [], _, rfl, h3, rfl, rfl, sumRows r1 r2, _, rfl, k⟩
abbrev sEq : Stmt := inClass (topS 25) 10
/-- both told to the same length -/
def eqRows (r1 r2 : List (Int × Int)) : Bool := decide ((List.replicate r2.length r1).flatten = (List.replicate r1.length r2).flatten)
def cEq : Con := fun ds W Ψ Ξ => ∃ r1 r2, ds = [.tt r1, .tt r2] ∧ rowsOk r1 ∧ rowsOk r2 ∧ Ψ (.p (.bool (eqRows r1 r2))) W
theorem scEq : FnScope ["self", "other"] ["self", "other"] (defScope sEq) := ⟨rfl, rfl, rfl, by decide +kernel, rfl, by decide +kernel, by decide +kernel⟩
theorem bEq {K : PySem.W.Frag} {f : Addr} {fd : FuncData} (F : Fun K "__eq__" "Timetable.__eq__" sEq f fd) : Binds K fd ["self", "other"] [] := F.binds fun _ _ _ _ _ _ us hl => match us, hl with | [_, _], _ => rfl
theorem flat_rows (r : List (Int × Int)) (n : Nat) : (List.replicate n (r.map rowD)).flatten = ((List.replicate n r).flatten).map rowD := by
  rw [List.map_flatten, List.map_replicate]
theorem eqvAll_map {α : Type} [DecidableEq α] {f : α → PyData} (hf : ∀ a b, PyData.eqv (f a) (f b) = decide (a = b)) : ∀ xs ys : List α, PyData.eqvAll (xs.map f) (ys.map f) = decide (xs = ys)
  | [], [] => by simp [PyData.eqvAll]
  | [], _ :: _ => by simp [PyData.eqvAll]
  | _ :: _, [] => by simp [PyData.eqvAll]
  | x :: xs, y :: ys => by
    have e := eqvAll_map hf xs ys
    rw [List.map_cons, List.map_cons]
    simp only [PyData.eqvAll]
    rw [hf, e]
    by_cases h1 : x = y <;> by_cases h2 : xs = ys <;> simp [h1, h2]
theorem eqv_rowD (r q : Int × Int) : PyData.eqv (rowD r) (rowD q) = decide (r = q) := by
  obtain ⟨a, b⟩ := r
  obtain ⟨c, d⟩ := q
  have e1 := eqv_int a c
  have e2 := eqv_int b d
  show PyData.eqv (.tuple [.int a, .int b]) (.tuple [.int c, .int d]) = _
  simp only [PyData.eqv, PyData.eqvAll] at e1 e2 ⊢
  rw [e1, e2]
  by_cases h1 : a = c <;> by_cases h2 : b = d <;> simp [h1, h2]
theorem lay_rows : ∀ rows : List (Int × Int), PyData.canLayAll0 (rows.map rowD) = true ∧ PyData.depthAll (rows.map rowD) ≤ 1
  | [] => ⟨by simp [PyData.canLayAll0], by simp [PyData.depthAll]⟩
  | r :: rows => by
    obtain ⟨a, b⟩ := lay_rows rows
    rw [List.map_cons]
    refine ⟨?_, ?_⟩
    · simp [PyData.canLayAll0, PyData.canLay0, a]
    · simp only [PyData.depthAll, PyData.depth]
      omega
theorem shT_rows (rows : List (Int × Int)) : SeqAt.shaped (.tuple (rows.map rowD)) = true := by
  obtain ⟨a, b⟩ := lay_rows rows
  unfold SeqAt.shaped
  simp only [PyData.canLay0, PyData.depth, a, Bool.true_and]
  exact decide_eq_true (by omega)
theorem shL_rows (rows : List (Int × Int)) : SeqAt.shaped (.list (rows.map rowD)) = true := by
  obtain ⟨a, b⟩ := lay_rows rows
  unfold SeqAt.shaped
  simp only [PyData.canLay0, PyData.depth, a, Bool.true_and]
  exact decide_eq_true (by omega)
theorem eqD_rowsT {f : Bool → Bool} {xs ys : List (Int × Int)} {k : D → Prop} (q : k (.p (.bool (f (decide (xs = ys)))))) : EqD f (.p (.tuple (xs.map rowD))) (.p (.tuple (ys.map rowD))) k := by
  refine ⟨shT_rows xs, shT_rows ys, ?_⟩
  rw [show PyData.eqv (.tuple (xs.map rowD)) (.tuple (ys.map rowD)) = PyData.eqvAll (xs.map rowD) (ys.map rowD) by simp only [PyData.eqv], eqvAll_map eqv_rowD]
  exact q
theorem eqD_rowsL {f : Bool → Bool} {xs ys : List (Int × Int)} {k : D → Prop} (q : k (.p (.bool (f (decide (xs = ys)))))) : EqD f (.p (.list (xs.map rowD))) (.p (.list (ys.map rowD))) k := by
  refine ⟨shL_rows xs, shL_rows ys, ?_⟩
  rw [show PyData.eqv (.list (xs.map rowD)) (.list (ys.map rowD)) = PyData.eqvAll (xs.map rowD) (ys.map rowD) by simp only [PyData.eqv], eqvAll_map eqv_rowD]
  exact q
theorem okEq {L : Pl} {f pr gr : Addr} {fd : FuncData} (B : Blt L.mg) (TC : TCl L.K L.C) (mC : L.mg "Timetable" = some (.ref L.C)) (IC : C8.InsC L.K L.C) (PR : PropOf L.K L.C "rows" pr gr) (FR : FnC L 1 gr cRp) (F : Fun L.K "__eq__" "Timetable.__eq__" sEq f fd) : FnC L 3 f cEq := by
  refine fn_body F scEq (bEq F) (fun ds W Ψ Ξ ⟨_, _, h, _⟩ => by rw [h] <;> rfl) ?_
  rintro U hL ok hk ⟨f', cd, A, outer, s, H, E, T, G, Ξ, rfl⟩ ds W Ψ ⟨r1, r2, rfl, h1, h2, k⟩
  have a1 := h1.1
  have a2 := h2.1
  have b1 := h1.2.1
  have b2 := h2.2.1
  have ne : ∀ {r : List (Int × Int)}, 0 < r.length → r.map rowD ≠ [] := fun {r} h e => by
    cases r with
    | nil => exact absurd h (by decide)
    | cons _ _ => cases e
  refine wp_cons ?_
  refine w_if ?_
  refine et_not ?_
  refine et_val ?_
  refine ev_isC IC B rfl ?_
  refine ea_cons ?_
  refine ev_nm 1 ?_
  refine ea_cons ?_
  refine ev_globR rfl mC ?_
  refine ea_nil ?_
  refine ⟨r2, rfl, ?_⟩
  refine truD_b ?_
  refine branch (fun z => nomatch z) fun _ => ?_
  refine wp_nil ?_
  refine wp_one ?_
  refine w_ret ?_
  refine ev_eq ok ?_
  refine ev_mulT ?_
  refine ev_rows TC.cls TC.rows ?_
  refine ev_nm 0 ?_
  refine ⟨r1, rfl, ?_⟩
  refine ev_len B rfl ?_
  refine ea_cons ?_
  refine ev_prop hL ok TC.cls PR FR (by show 2 ≤ 2; omega) ?_
  refine ev_nm 1 ?_
  refine both ⟨_, rfl⟩ ?_
  refine ⟨r2, rfl, ?_⟩
  refine ea_nil ?_
  refine lenD_t ?_
  rw [List.length_map]
  refine ⟨_, r2.length, rfl, rfl, ne a1, by omega, by omega, by rw [List.length_map]; omega, ?_⟩
  refine ev_mulT ?_
  refine ev_prop hL ok TC.cls PR FR (by show 2 ≤ 2; omega) ?_
  refine ev_nm 1 ?_
  refine both ⟨_, rfl⟩ ?_
  refine ⟨r2, rfl, ?_⟩
  refine ev_len B rfl ?_
  refine ea_cons ?_
  refine ev_rows TC.cls TC.rows ?_
  refine ev_nm 0 ?_
  refine ⟨r1, rfl, ?_⟩
  refine ea_nil ?_
  refine lenD_t ?_
  rw [List.length_map]
  refine ⟨_, r1.length, rfl, rfl, ne a2, by omega, by omega, by rw [List.length_map]; omega, ?_⟩
  rw [flat_rows, flat_rows]
  exact eqD_rowsT k

end Q
namespace Q
open PySem PySem.Spec PyProof.Rows L2
open Evl (Ex)
/-! ### further answers -/
abbrev intsN (ts : List Nat) : List PyData := intsL (ts.map fun t : Nat => (t : Int))
def moreRows (r : List (Int × Int)) (ts : List Nat) : List (Int × Int) := (List.range r.length).map fun i => ((r.getD i (0, 0)).1, (r.getD i (0, 0)).2 + (ts.count i : Nat))
theorem more_len (r : List (Int × Int)) (ts : List Nat) : (moreRows r ts).length = r.length := by unfold moreRows; rw [List.length_map, List.length_range]
theorem count_cast (ts : List Nat) (i : Nat) : (ts.map fun t : Nat => (t : Int)).count (i : Int) = ts.count i := by
  induction ts with
  | nil => rfl
  | cons t ts ih =>
    rw [List.map_cons, List.count_cons, List.count_cons, ih]
    by_cases e : t = i
    · subst e; simp
    · have e2 : ¬ ((t : Int) = (i : Int)) := by omega
      simp [e, e2]
theorem str24 : ∀ k : Fin 24, (toString ((k.val : Nat) : Int) : Str).length ≤ 1000 := by decide +kernel
theorem log24 {m : Int} (h0 : 0 ≤ m) (h1 : m < 24) : m.natAbs.log2 < 1000 := Nat.lt_of_le_of_lt (Nat.log2_le_self _) (by omega)
abbrev sWA : Stmt := inClass (topS 25) 12
def cWA : Con := fun ds W Ψ Ξ => ∃ (r : List (Int × Int)) (ts : List Nat), ds = [.tt r, .ptup (intsN ts)] ∧ rowsOk r ∧ (∀ t ∈ ts, t < r.length) ∧ ts.length ≤ 1000 ∧ rowsOk (moreRows r ts) ∧ Ψ (.tt (moreRows r ts)) W
theorem scWA : FnScope ["self", "ticks", "tick", "rows", "row", "come", "answers"] ["self", "ticks"] (defScope sWA) := ⟨rfl, rfl, rfl, by decide +kernel, rfl, by decide +kernel, by decide +kernel⟩
theorem okWA {L : Pl} {f fi : Addr} {fd : FuncData} (B : Blt L.mg) (TC : TCl L.K L.C) (mC : L.mg "Timetable" = some (.ref L.C)) (M : Mk L.K L.C fi) (FI : FnR L.P L.w L.K L.mg L.base (L2.CX L.P L.w) 4 fi (starSp (spG L (cInit L.C)))) (DC : DefC L "check_number" 2 cCheck) (F : Fun L.K "with_answers" "Timetable.with_answers" sWA f fd) : FnC L 6 f (stC 1 cWA) := by
  refine fn_body_starZ (ps := ["self"]) (pv := "ticks") F scWA (fun kV doc pm an cdv ct => StX.bind_star1 (B := fun us => bindArgs (PySem.W.fnOf "with_answers" "Timetable.with_answers" (defArgs sWA) (defBody sWA) (defScope sWA) .none kV doc pm an cdv ct) ⟨us, []⟩) (fun _ => rfl) (fun _ _ _ => rfl)) ?_
  rintro U hL ok hk ⟨f', cd, A, outer, s, H, E, T, G, Ξ, rfl⟩ ds W Ψ ⟨r, ts, rfl, hr, hts, hz, hm, k⟩
  have h0 := hr.1
  have h24 := hr.2.1
  have el : (intsN ts).length = ts.length := by rw [List.length_map, List.length_map]
  refine wp_cons ?_
  refine w_for ok [2] ?_
  refine ei_ptup ?_
  refine ev_nm 1 ?_
  refine ⟨_, rfl, ?_⟩
  refine ⟨fun i env' W' => W' = W ∧ ∃ x2, env' = [some (.tt r), some (.ptup (intsN ts)), x2, none, none, none, none], ⟨rfl, _, rfl⟩, ?_, ?_⟩
  · rintro i env' W' hi ⟨rfl, x2, rfl⟩
    obtain ⟨t, ht⟩ := lt_some (l := ts) (i := i) (by omega)
    have hlt := hts t (List.mem_of_getElem? ht)
    rw [datAt_map (f := PyData.int) (l := ts.map fun t : Nat => (t : Int)) (i := i) (r := ((t : Nat) : Int)) (by rw [List.getElem?_map, ht] <;> rfl)]
    refine eg_nm ok 2 ?_
    refine wp_one ?_
    refine w_expr ?_
    refine ev_call hL ok DC (by show 2 ≤ 5; omega) rfl ?_
    refine ea_cons ?_
    refine ev_nm 2 ?_
    refine ea_cons ?_
    refine ev_int ?_
    refine ea_cons ?_
    refine ev_sub ?_
    refine ev_len B rfl ?_
    refine ea_cons ?_
    refine ev_rows TC.cls TC.rows ?_
    refine ev_nm 0 ?_
    refine ⟨r, rfl, ?_⟩
    refine ea_nil ?_
    refine lenD_t ?_
    rw [List.length_map]
    refine ev_int ?_
    refine subD ?_
    refine ea_nil ?_
    have es : ((r.length : Nat) : Int) - 1 = ((r.length - 1 : Nat) : Int) := by omega
    rw [es]
    have hn : isNum 0 ((r.length - 1 : Nat) : Int) (.int (t : Nat)) = true := by simp [isNum]; omega
    refine ⟨.int (t : Nat), 0, ((r.length - 1 : Nat) : Int), rfl, rfl, c0_1, log24 (by omega) (by omega), c0_2, str24 ⟨r.length - 1, by omega⟩, fun _ => ?_, fun h => by rw [hn] at h; cases h⟩
    exact ⟨rfl, _, rfl⟩
  rintro env' W' ⟨rfl, x2, rfl⟩
  refine wp_cons ?_
  refine w_setLc ok 3 [("row", 4), ("come", 5), ("answers", 6)] ([4] ++ (([5] ++ ([6] ++ [])) ++ [])) rfl rfl (by simp) (blkOk_by (by rfl)) (by decide) (sw_true rfl rfl rfl (by decide +kernel)) (lc_pure ?_)
  refine ei_enumT B rfl ?_
  refine ea_cons ?_
  refine ev_rows TC.cls TC.rows ?_
  refine ev_nm 0 ?_
  refine ⟨r, rfl, ?_⟩
  refine ea_nil ?_
  refine ⟨_, rfl, ?_⟩
  have elr : (r.map rowD).length = r.length := List.length_map _
  refine ⟨fun i => [some (.tt r), some (.ptup (intsN ts)), x2, none, some (.p (.int (i : Nat))), some (.p (.int (r.getD i (0, 0)).1)), some (.p (.int (r.getD i (0, 0)).2))], fun i => rowD ((r.getD i (0, 0)).1, (r.getD i (0, 0)).2 + (ts.count i : Nat)), by omega, ?_, ?_, ?_⟩
  · intro s H C cl fp i Wi hi
    obtain ⟨q, hq⟩ := lt_some (l := r) (i := i) (by omega)
    have eq : r.getD i (0, 0) = q := by rw [List.getD_eq_getElem?_getD, hq] <;> rfl
    have e2 : (r.map rowD).getD i .none = rowD q := by rw [List.getD_eq_getElem?_getD, List.getElem?_map, hq] <;> rfl
    show EvG _ _ _ (D.p (.tuple [.int (i : Nat), (r.map rowD).getD i .none])) _ _ _
    rw [e2]
    subst eq
    refine eg_tup ok.blk ⟨_, rfl, rfl, ?_⟩
    refine egs_cons ?_
    refine eg_nm ok.blk 4 ?_
    refine egs_cons ?_
    refine eg_tup ok.blk ⟨_, rfl, rfl, ?_⟩
    refine egs_cons ?_
    refine eg_nm ok.blk 5 ?_
    refine egs_cons ?_
    refine eg_nm ok.blk 6 ?_
    refine egs_nil ?_
    refine egs_nil ?_
    exact ⟨rfl, rfl⟩
  · intro s H C cl fp i Wi hi
    refine ev_tup ?_
    refine ea_cons ?_
    refine ev_nm 5 ?_
    refine ea_cons ?_
    refine ev_add ?_
    refine ev_nm 6 ?_
    refine ev_pcount ?_
    refine ev_nm 1 ?_
    refine ⟨_, rfl, ?_⟩
    refine ev_nm 4 ?_
    refine ⟨_, rfl, ?_⟩
    rw [count_cast]
    refine addD_i ?_
    refine ea_nil ?_
    refine allP_cons (allP_cons (allP_nil ⟨by show 2 ≤ 1000; omega, ?_⟩))
    exact ⟨rfl, rfl⟩
  have er : (List.range (r.map rowD).length).map (fun i => rowD ((r.getD i (0, 0)).1, (r.getD i (0, 0)).2 + (ts.count i : Nat))) = (moreRows r ts).map rowD := by
    unfold moreRows
    rw [elr, List.map_map] <;> rfl
  rw [er]
  refine wp_one ?_
  refine w_ret ?_
  refine ev_makeS hL ok M FI (by show 5 ≤ 5; omega) ?_
  refine ev_globR rfl mC ?_
  refine both rfl ?_
  refine ev_nm 3 ?_
  refine ⟨_, .inl rfl, by rw [List.length_map, more_len]; omega, fun x dx => ?_⟩
  exact ⟨x, dx, moreRows r ts, [], _, rfl, hm, rfl, rfl, moreRows r ts, _, rfl, k⟩
/-! ### the first letter that waits longer -/
noncomputable def lateB (r : List (Int × Int)) (most : Int) (x : Nat) : Bool := match wl r x with
  | none => true
  | some w => decide (most < (w : Int))
theorem due_sub (r : List (Int × Int)) (c b : Nat) : ∀ k, dueP r c b k = dueP r c 0 k - b
  | 0 => by show -((b : Nat) : Int) = -((0 : Nat) : Int) - b; omega
  | k + 1 => by
    have e := due_sub r c b k
    show dueP r c b k + (rowAt r (c + k)).1 - (rowAt r (c + k)).2 = dueP r c 0 k + (rowAt r (c + k)).1 - (rowAt r (c + k)).2 - b
    omega
theorem wait_up {r : List (Int × Int)} {c b w : Nat} (h : wAt r c 0 = some w) : ∃ w', w' ≤ w ∧ wAt r c b = some w' := by
  obtain ⟨h1, h2, h3⟩ := wAt_some.mp h
  cases hw : wAt r c b with
  | none =>
    have := wAt_none.mp hw w h2
    rw [due_sub] at this
    omega
  | some w' =>
    refine ⟨w', ?_, rfl⟩
    obtain ⟨_, _, g3⟩ := wAt_some.mp hw
    by_cases z : w' ≤ w
    · exact z
    · have := g3 w (by omega)
      rw [due_sub] at this
      omega
abbrev castO (o : Option Nat) : PyData := optD (o.map fun w => ((w : Nat) : Int))
theorem none_cast (o : Option Nat) : isNoneD (.p (castO o)) = o.isNone := by cases o <;> rfl
abbrev lateFst (r : List (Int × Int)) (most : Int) (o : Option Nat) : Prop := IsFst (fun x => lateB r most x = true) (numT r r.length) o

end Q
namespace Q
open PySem PySem.Spec PyProof.Rows L2
open Evl (Ex)
/-! ### rows that may be wrong -/
def rowB (r : Int × Int) : Bool := isNum 0 9 (.int r.1) && isNum 0 9 (.int r.2)
theorem rowB_ok {r : Int × Int} (h : rowB r = true) : rowOk r := by
  unfold rowB at h
  rw [Bool.and_eq_true] at h
  obtain ⟨h1, h2⟩ := h
  simp [isNum] at h1 h2
  exact ⟨h1.1, h1.2, h2.1, h2.2⟩
def badIx (rows : List (Int × Int)) : Option Nat := rows.findIdx? fun r => !rowB r
theorem badIx_none {rows : List (Int × Int)} (h : ∀ (i : Nat) (r : Int × Int), rows[i]? = some r → rowB r = true) : badIx rows = none := by
  unfold badIx
  rw [List.findIdx?_eq_none_iff]
  intro r hr
  obtain ⟨i, hi, e⟩ := List.mem_iff_getElem.mp hr
  rw [h i r (by rw [List.getElem?_eq_getElem hi, e])]
  rfl
theorem badIx_some {rows : List (Int × Int)} {i : Nat} {r : Int × Int} (hi : rows[i]? = some r) (hr : rowB r = false) (h : ∀ (j : Nat) (q : Int × Int), j < i → rows[j]? = some q → rowB q = true) : badIx rows = some i := by
  unfold badIx
  rw [List.findIdx?_eq_some_iff_getElem]
  obtain ⟨hl, e⟩ := List.getElem?_eq_some_iff.mp hi
  refine ⟨hl, by rw [e, hr]; rfl, fun j hj => ?_⟩
  rw [h j rows[j] hj (List.getElem?_eq_getElem (by omega))]
  simp
def cIsRowG : Con := fun ds W Ψ Ξ => ∃ r, ds = [.p (rowD r)] ∧ Ψ (.p (.bool (rowB r))) W
theorem okIsRowG {L : Pl} {f : Addr} {fd : FuncData} (B : Blt L.mg) (Gs : Glo L.mg) (DN : DefC L "is_number" 1 cIsNum) (F : Fun L.K "_is_row" "_is_row" sIsRow f fd) : FnC L 2 f cIsRowG := by
  refine fn_body F scIsRow (bIsRow F) (fun ds W Ψ Ξ ⟨_, h, _⟩ => by rw [h] <;> rfl) ?_
  rintro U hL ok hk ⟨f', cd, A, outer, s, H, E, T, G, Ξ, rfl⟩ ds W Ψ ⟨r, rfl, k⟩
  refine wp_cons ?_
  refine w_if ?_
  refine et_of ?_
  refine ew_or ?_
  refine et_not ?_
  refine et_val ?_
  refine ev_isi (T := "tuple") B rfl rfl B.tuple btTuple ?_
  refine ev_nm 0 ?_
  refine ⟨"tuple", true, rfl, kTT, truD_b (branch (fun h => nomatch h) fun _ => ?_)⟩
  refine ew_one ?_
  refine et_ne ok ?_
  refine ev_len B rfl ?_
  refine ea_cons ?_
  refine ev_nm 0 ?_
  refine ea_nil ?_
  refine lenD_t ?_
  refine ev_int ?_
  refine eqD_i (tbool (branch (fun h => nomatch h) fun _ => ?_))
  refine wp_nil ?_
  refine wp_one ?_
  refine w_ret ?_
  refine ev_and ?_
  refine ev_call hL ok DN (Nat.le_refl _) rfl ?_
  refine ea_cons ?_
  refine ev_ix ?_
  refine ev_nm 0 ?_
  refine ev_int ?_
  refine getD_t (d := .int r.1) rfl ?_
  refine ea_cons ?_
  refine ev_int ?_
  refine ea_cons ?_
  refine ev_globI rfl Gs.inRow ?_
  refine ea_nil ?_
  refine ⟨_, _, _, rfl, rfl, ?_⟩
  refine boolD (branch' (fun hb => ?_) fun hb => ?_)
  · have e : rowB r = false := by unfold rowB; rw [hb]; rfl
    rw [e] at k
    exact k
  have e : rowB r = isNum 0 9 (.int r.2) := by unfold rowB; rw [hb]; rfl
  rw [e] at k
  refine ev_one ?_
  refine ev_call hL ok DN (Nat.le_refl _) rfl ?_
  refine ea_cons ?_
  refine ev_ix ?_
  refine ev_nm 0 ?_
  refine ev_int ?_
  refine getD_t (d := .int r.2) rfl ?_
  refine ea_cons ?_
  refine ev_int ?_
  refine ea_cons ?_
  refine ev_globI rfl Gs.inRow ?_
  refine ea_nil ?_
  exact ⟨_, _, _, rfl, rfl, k⟩
def cFWG : Con := fun ds W Ψ Ξ => ∃ rows : List (Int × Int), ds = [.p (.tuple (rows.map rowD))] ∧ 0 < rows.length ∧ rows.length ≤ 24 ∧ (badIx rows = none → Ψ (.p .none) W) ∧ ∀ i : Nat, badIx rows = some i → Ψ (.p (.int (i : Nat))) W
theorem okFWG {L : Pl} {f : Addr} {fd : FuncData} (B : Blt L.mg) (Gs : Glo L.mg) (DR : DefC L "_is_row" 2 cIsRowG) (F : Fun L.K "_first_wrong" "_first_wrong" sFW f fd) : FnC L 3 f cFWG := by
  refine fn_body F scFW (bFW F) (fun ds W Ψ Ξ ⟨_, h, _⟩ => by rw [h] <;> rfl) ?_
  rintro U hL ok hk ⟨f', cd, A, outer, s, H, E, T, G, Ξ, rfl⟩ ds W Ψ ⟨rows, rfl, hl0, hl1, k0, k⟩
  refine wp_cons ?_
  refine w_if ?_
  refine et_not ?_
  refine et_val ?_
  refine ev_nm 0 ?_
  refine truD_t ?_
  refine branch (fun hb => ?_) fun hb => ?_
  · cases rows with
    | nil => simp at hl0
    | cons _ _ => cases hb
  · refine wp_nil ?_
    refine wp_cons ?_
    refine w_for ok ([1] ++ ([2] ++ [])) ?_
    refine ei_enumT B rfl ?_
    refine ea_cons ?_
    refine ev_nm 0 ?_
    refine ea_nil ?_
    refine ⟨_, rfl, ?_⟩
    refine ⟨fun i env' W' => W' = W ∧ (∀ (j : Nat) (q : Int × Int), j < i → rows[j]? = some q → rowB q = true) ∧ ∃ a b, env' = [some (.p (.tuple (rows.map rowD))), a, b], ⟨rfl, (fun _ _ z => absurd z (Nat.not_lt_zero _)), _, _, rfl⟩, ?_, ?_⟩
    · rintro i env' W' hi ⟨rfl, hall, a, b, rfl⟩
      have hi' : i < rows.length := by simpa using hi
      obtain ⟨r, hr'⟩ := lt_some hi'
      have er : (rows.map rowD).getD i .none = rowD r := by rw [List.getD_eq_getElem?_getD, List.getElem?_map, hr'] <;> rfl
      refine eg_tup ok ⟨[.int i, rowD r], by rw [← er], rfl, ?_⟩
      refine egs_cons ?_
      refine eg_nm ok 1 ?_
      refine egs_cons ?_
      refine eg_nm ok 2 ?_
      refine egs_nil ?_
      refine wp_one ?_
      refine w_if ?_
      refine et_of ?_
      refine ew_or ?_
      refine et_eq ok ?_
      refine ev_nm 1 ?_
      refine ev_globI rfl Gs.rows ?_
      refine eqD_i (tbool (branch (fun h => ?_) fun _ => ?_))
      · have h' : (i : Int) = 24 := of_decide_eq_true h
        omega
      refine ew_one ?_
      refine et_not ?_
      refine et_val ?_
      refine ev_call hL ok DR (Nat.le_refl _) rfl ?_
      refine ea_cons ?_
      refine ev_nm 2 ?_
      refine ea_nil ?_
      refine ⟨r, rfl, ?_⟩
      refine truD_b (branch (fun hb => ?_) fun hb => ?_)
      · refine wp_one ?_
        refine w_ret ?_
        refine ev_nm 1 ?_
        exact k i (badIx_some hr' (by simpa using hb) hall)
      · refine wp_nil ?_
        refine ⟨rfl, fun j q hj hq => ?_, _, _, rfl⟩
        by_cases e : j = i
        · subst e
          rw [hr'] at hq
          cases hq
          simpa using hb
        · exact hall j q (by omega) hq
    · rintro env' W' ⟨rfl, hall, a, b, rfl⟩
      refine wp_one ?_
      refine w_ret ?_
      refine ev_non ?_
      exact k0 (badIx_none fun i r hi => hall i r (by have := (List.getElem?_eq_some_iff.mp hi).1; simpa using this) hi)
def cInitG (C : Addr) : Con := fun ds W Ψ Ξ => ∃ (x dx : Addr) (rows : List (Int × Int)) (Lw Rw : Ow), ds = [.adr x, .p (.tuple (rows.map rowD))] ∧ 0 < rows.length ∧ rows.length ≤ 24 ∧ W = Lw ++ (x, .ins C dx []) :: Rw ∧ (∀ i : Nat, badIx rows = some i → Ξ (.tab i) W) ∧ (badIx rows = none → Ψ (.p .none) (Lw ++ (x, .ins C dx [("_rows", .p (.tuple (rows.map rowD)))]) :: Rw))
theorem okInitG {L : Pl} {f : Addr} {fd : FuncData} (B : Blt L.mg) (TC : TCl L.K L.C) (DW : DefC L "_first_wrong" 3 cFWG) (R : RaI L 2) (F : Fun L.K "__init__" "Timetable.__init__" sInit f fd) : FnR L.P L.w L.K L.mg L.base (L2.CX L.P L.w) 4 f (starSp (spG L (cInitG L.C))) := by
  refine fn_body_star F scInit (fun _ _ _ _ _ _ _ => rfl) (fun _ _ _ _ _ _ _ _ _ => rfl) ?_
  rintro U hL ok hk ⟨f', cd, A, outer, s, H, E, T, G, Ξ, rfl⟩ ds W Ψ ⟨x, dx, rows, Lw, Rw, rfl, hl0, hl1, rfl, kx, k⟩
  refine wp_cons ?_
  refine w_st ok 2 ?_
  refine ev_call hL ok DW (Nat.le_refl _) rfl ?_
  refine ea_cons ?_
  refine ev_nm 1 ?_
  refine ea_nil ?_
  refine ⟨rows, rfl, hl0, hl1, fun hn => ?_, fun i hi => ?_⟩
  · refine wp_cons ?_
    refine w_if ?_
    refine et_isnotN ?_
    refine ev_nm 2 ?_
    refine branch (fun hb => nomatch hb) fun _ => ?_
    refine wp_nil ?_
    refine wp_one ?_
    refine w_fld0 TC.cls TC.rows ?_
    refine ev_tuple B rfl ?_
    refine ea_cons ?_
    refine ev_lc ok [("come", 3), ("answers", 4)] ([3] ++ ([4] ++ [])) (by simp) (blkOk_by (by rfl)) (by decide) (lc_pure ?_)
    refine ei_tup ?_
    refine ev_nm 1 ?_
    refine ⟨_, rfl, ?_⟩
    have el : (rows.map rowD).length = rows.length := List.length_map _
    refine ⟨fun i => [some (.adr x), some (.p (.tuple (rows.map rowD))), some (.p .none), some (.p (.int (rows.getD i (0, 0)).1)), some (.p (.int (rows.getD i (0, 0)).2))], fun i => rowD (rows.getD i (0, 0)), by omega, ?_, ?_, ?_⟩
    · intro s H C cl fp i Wi hi
      obtain ⟨r, hr'⟩ := lt_some (l := rows) (i := i) (by omega)
      have er : rows.getD i (0, 0) = r := by rw [List.getD_eq_getElem?_getD, hr'] <;> rfl
      rw [datAt_map hr']
      subst er
      refine eg_tup ok.blk ⟨_, rfl, rfl, ?_⟩
      refine egs_cons ?_
      refine eg_nm ok.blk 3 ?_
      refine egs_cons ?_
      refine eg_nm ok.blk 4 ?_
      refine egs_nil ?_
      exact ⟨rfl, rfl⟩
    · intro s H C cl fp i Wi hi
      refine ev_tup ?_
      refine ea_cons ?_
      refine ev_nm 3 ?_
      refine ea_cons ?_
      refine ev_nm 4 ?_
      refine ea_nil ?_
      refine allP_cons (allP_cons (allP_nil ⟨by show 2 ≤ 1000; omega, rfl, rfl⟩))
    rw [el, range_map_getD rows (0, 0) rowD]
    refine ea_nil ?_
    refine tupOf_l ?_
    refine ev_nm 0 ?_
    exact ⟨x, dx, Lw, Rw, rfl, rfl, k hn⟩
  · refine wp_cons ?_
    refine w_if ?_
    refine et_isnotN ?_
    refine ev_nm 2 ?_
    refine branch (fun _ => ?_) fun hb => nomatch hb
    refine wp_one ?_
    refine w_raiseT hL ok R (by show 3 ≤ 3; omega) rfl ?_
    refine ev_nm 2 ?_
    have hlt : i < rows.length := by
      unfold badIx at hi
      rw [List.findIdx?_eq_some_iff_getElem] at hi
      exact hi.1
    exact ⟨((i : Nat) : Int), rfl, by omega, by omega, kx i hi⟩

end Q
namespace Q
open PySem PySem.Spec PyProof.Rows L2
open Evl (Ex)
theorem bad_rows {rows : List (Int × Int)} (h : badIx rows = none) (h0 : 0 < rows.length) (h24 : rows.length ≤ 24) : rowsOk rows := by
  refine ⟨h0, h24, fun r hr => rowB_ok ?_⟩
  unfold badIx at h
  rw [List.findIdx?_eq_none_iff] at h
  simpa using h r hr
def cWAG : Con := fun ds W Ψ Ξ => ∃ (r : List (Int × Int)) (ts : List Nat), ds = [.tt r, .ptup (intsN ts)] ∧ rowsOk r ∧ (∀ t ∈ ts, t < r.length) ∧ ts.length ≤ 1000 ∧ (∀ i : Nat, badIx (moreRows r ts) = some i → Ξ (.tab i) W) ∧ (badIx (moreRows r ts) = none → Ψ (.tt (moreRows r ts)) W)
theorem okWAG {L : Pl} {f fi : Addr} {fd : FuncData} (B : Blt L.mg) (TC : TCl L.K L.C) (mC : L.mg "Timetable" = some (.ref L.C)) (M : Mk L.K L.C fi) (FI : FnR L.P L.w L.K L.mg L.base (L2.CX L.P L.w) 4 fi (starSp (spG L (cInitG L.C)))) (DC : DefC L "check_number" 2 cCheck) (F : Fun L.K "with_answers" "Timetable.with_answers" sWA f fd) : FnC L 6 f (stC 1 cWAG) := by
  refine fn_body_starZ (ps := ["self"]) (pv := "ticks") F scWA (fun kV doc pm an cdv ct => StX.bind_star1 (B := fun us => bindArgs (PySem.W.fnOf "with_answers" "Timetable.with_answers" (defArgs sWA) (defBody sWA) (defScope sWA) .none kV doc pm an cdv ct) ⟨us, []⟩) (fun _ => rfl) (fun _ _ _ => rfl)) ?_
  rintro U hL ok hk ⟨f', cd, A, outer, s, H, E, T, G, Ξ, rfl⟩ ds W Ψ ⟨r, ts, rfl, hr, hts, hz, kx, k⟩
  have h0 := hr.1
  have h24 := hr.2.1
  have el : (intsN ts).length = ts.length := by rw [List.length_map, List.length_map]
  refine wp_cons ?_
  refine w_for ok [2] ?_
  refine ei_ptup ?_
  refine ev_nm 1 ?_
  refine ⟨_, rfl, ?_⟩
  refine ⟨fun i env' W' => W' = W ∧ ∃ x2, env' = [some (.tt r), some (.ptup (intsN ts)), x2, none, none, none, none], ⟨rfl, _, rfl⟩, ?_, ?_⟩
  · rintro i env' W' hi ⟨rfl, x2, rfl⟩
    obtain ⟨t, ht⟩ := lt_some (l := ts) (i := i) (by omega)
    have hlt := hts t (List.mem_of_getElem? ht)
    rw [datAt_map (f := PyData.int) (l := ts.map fun t : Nat => (t : Int)) (i := i) (r := ((t : Nat) : Int)) (by rw [List.getElem?_map, ht] <;> rfl)]
    refine eg_nm ok 2 ?_
    refine wp_one ?_
    refine w_expr ?_
    refine ev_call hL ok DC (by show 2 ≤ 5; omega) rfl ?_
    refine ea_cons ?_
    refine ev_nm 2 ?_
    refine ea_cons ?_
    refine ev_int ?_
    refine ea_cons ?_
    refine ev_sub ?_
    refine ev_len B rfl ?_
    refine ea_cons ?_
    refine ev_rows TC.cls TC.rows ?_
    refine ev_nm 0 ?_
    refine ⟨r, rfl, ?_⟩
    refine ea_nil ?_
    refine lenD_t ?_
    rw [List.length_map]
    refine ev_int ?_
    refine subD ?_
    refine ea_nil ?_
    have es : ((r.length : Nat) : Int) - 1 = ((r.length - 1 : Nat) : Int) := by omega
    rw [es]
    have hn : isNum 0 ((r.length - 1 : Nat) : Int) (.int (t : Nat)) = true := by simp [isNum]; omega
    refine ⟨.int (t : Nat), 0, ((r.length - 1 : Nat) : Int), rfl, rfl, c0_1, log24 (by omega) (by omega), c0_2, str24 ⟨r.length - 1, by omega⟩, fun _ => ?_, fun h => by rw [hn] at h; cases h⟩
    exact ⟨rfl, _, rfl⟩
  rintro env' W' ⟨rfl, x2, rfl⟩
  refine wp_cons ?_
  refine w_setLc ok 3 [("row", 4), ("come", 5), ("answers", 6)] ([4] ++ (([5] ++ ([6] ++ [])) ++ [])) rfl rfl (by simp) (blkOk_by (by rfl)) (by decide) (sw_true rfl rfl rfl (by decide +kernel)) (lc_pure ?_)
  refine ei_enumT B rfl ?_
  refine ea_cons ?_
  refine ev_rows TC.cls TC.rows ?_
  refine ev_nm 0 ?_
  refine ⟨r, rfl, ?_⟩
  refine ea_nil ?_
  refine ⟨_, rfl, ?_⟩
  have elr : (r.map rowD).length = r.length := List.length_map _
  refine ⟨fun i => [some (.tt r), some (.ptup (intsN ts)), x2, none, some (.p (.int (i : Nat))), some (.p (.int (r.getD i (0, 0)).1)), some (.p (.int (r.getD i (0, 0)).2))], fun i => rowD ((r.getD i (0, 0)).1, (r.getD i (0, 0)).2 + (ts.count i : Nat)), by omega, ?_, ?_, ?_⟩
  · intro s H C cl fp i Wi hi
    obtain ⟨q, hq⟩ := lt_some (l := r) (i := i) (by omega)
    have eq : r.getD i (0, 0) = q := by rw [List.getD_eq_getElem?_getD, hq] <;> rfl
    have e2 : (r.map rowD).getD i .none = rowD q := by rw [List.getD_eq_getElem?_getD, List.getElem?_map, hq] <;> rfl
    show EvG _ _ _ (D.p (.tuple [.int (i : Nat), (r.map rowD).getD i .none])) _ _ _
    rw [e2]
    subst eq
    refine eg_tup ok.blk ⟨_, rfl, rfl, ?_⟩
    refine egs_cons ?_
    refine eg_nm ok.blk 4 ?_
    refine egs_cons ?_
    refine eg_tup ok.blk ⟨_, rfl, rfl, ?_⟩
    refine egs_cons ?_
    refine eg_nm ok.blk 5 ?_
    refine egs_cons ?_
    refine eg_nm ok.blk 6 ?_
    refine egs_nil ?_
    refine egs_nil ?_
    exact ⟨rfl, rfl⟩
  · intro s H C cl fp i Wi hi
    refine ev_tup ?_
    refine ea_cons ?_
    refine ev_nm 5 ?_
    refine ea_cons ?_
    refine ev_add ?_
    refine ev_nm 6 ?_
    refine ev_pcount ?_
    refine ev_nm 1 ?_
    refine ⟨_, rfl, ?_⟩
    refine ev_nm 4 ?_
    refine ⟨_, rfl, ?_⟩
    rw [count_cast]
    refine addD_i ?_
    refine ea_nil ?_
    refine allP_cons (allP_cons (allP_nil ⟨by show 2 ≤ 1000; omega, ?_⟩))
    exact ⟨rfl, rfl⟩
  have er : (List.range (r.map rowD).length).map (fun i => rowD ((r.getD i (0, 0)).1, (r.getD i (0, 0)).2 + (ts.count i : Nat))) = (moreRows r ts).map rowD := by
    unfold moreRows
    rw [elr, List.map_map] <;> rfl
  rw [er]
  refine wp_one ?_
  refine w_ret ?_
  refine ev_makeS hL ok M FI (by show 5 ≤ 5; omega) ?_
  refine ev_globR rfl mC ?_
  refine both rfl ?_
  refine ev_nm 3 ?_
  refine ⟨_, .inl rfl, by rw [List.length_map, more_len]; omega, fun x dx => ?_⟩
  exact ⟨x, dx, moreRows r ts, [], _, rfl, by rw [more_len]; exact h0, by rw [more_len]; exact h24, rfl, fun i hi => ⟨_, rfl, kx i hi⟩, fun hn => ⟨rfl, moreRows r ts, _, rfl, k hn⟩⟩
def exT : Xc → Bool
  | .tab _ => true
  | _ => false
/-- which errors an except clause for InvalidTimetable takes -/
structure ExT (L : Pl) : Prop where
  m : L.mg "InvalidTimetable" = some (.ref L.cT)
  hx : ∀ xc cls d H, XRep L.cN L.cL L.cA L.cT xc cls d H → PySem.W.exmOne L.K cls (.ref L.cT) = some (exT xc)

end Q
namespace Q
open PySem PySem.Spec PyProof.Rows L2
open Evl (Ex)
/-! ### ticks that are not of the round -/
def cWAb : Con := fun ds W Ψ Ξ => ∃ (r : List (Int × Int)) (t : Int), ds = [.tt r, .ptup [.int t]] ∧ rowsOk r ∧ (r.length : Int) ≤ t ∧ Ξ .num W
theorem okWAb {L : Pl} {f : Addr} {fd : FuncData} (B : Blt L.mg) (TC : TCl L.K L.C) (DC : DefC L "check_number" 2 cCheck) (F : Fun L.K "with_answers" "Timetable.with_answers" sWA f fd) : FnC L 6 f (stC 1 cWAb) := by
  refine fn_body_starZ (ps := ["self"]) (pv := "ticks") F scWA (fun kV doc pm an cdv ct => StX.bind_star1 (B := fun us => bindArgs (PySem.W.fnOf "with_answers" "Timetable.with_answers" (defArgs sWA) (defBody sWA) (defScope sWA) .none kV doc pm an cdv ct) ⟨us, []⟩) (fun _ => rfl) (fun _ _ _ => rfl)) ?_
  rintro U hL ok hk ⟨f', cd, A, outer, s, H, E, T, G, Ξ, rfl⟩ ds W Ψ ⟨r, t, rfl, hr, hbad, k⟩
  have h0 := hr.1
  have h24 := hr.2.1
  refine wp_cons ?_
  refine w_for ok [2] ?_
  refine ei_ptup ?_
  refine ev_nm 1 ?_
  refine ⟨_, rfl, ?_⟩
  refine ⟨fun i env' W' => i = 0 ∧ W' = W ∧ ∃ x2, env' = [some (.tt r), some (.ptup [.int t]), x2, none, none, none, none], ⟨rfl, rfl, _, rfl⟩, ?_, fun env' W' z => absurd (show (1 : Nat) = 0 from z.1) (by decide)⟩
  rintro i env' W' hi ⟨rfl, rfl, x2, rfl⟩
  refine eg_nm ok 2 ?_
  refine wp_one ?_
  refine w_expr ?_
  refine ev_call hL ok DC (by show 2 ≤ 5; omega) rfl ?_
  refine ea_cons ?_
  refine ev_nm 2 ?_
  refine ea_cons ?_
  refine ev_int ?_
  refine ea_cons ?_
  refine ev_sub ?_
  refine ev_len B rfl ?_
  refine ea_cons ?_
  refine ev_rows TC.cls TC.rows ?_
  refine ev_nm 0 ?_
  refine ⟨r, rfl, ?_⟩
  refine ea_nil ?_
  refine lenD_t ?_
  rw [List.length_map]
  refine ev_int ?_
  refine subD ?_
  refine ea_nil ?_
  have es : ((r.length : Nat) : Int) - 1 = ((r.length - 1 : Nat) : Int) := by omega
  rw [es]
  have hn : isNum 0 ((r.length - 1 : Nat) : Int) (.int t) = false := by simp [isNum]; omega
  exact ⟨.int t, 0, ((r.length - 1 : Nat) : Int), rfl, rfl, c0_1, log24 (by omega) (by omega), c0_2, str24 ⟨r.length - 1, by omega⟩, fun h => (by rw [hn] at h; cases h), fun _ => k⟩
theorem WA_of {L : Pl} {f : Addr} (h : FnC L 6 f (stC 1 cWAG)) : FnC L 6 f (stC 1 cWA) := h.imp fun ds W Ψ Ξ ⟨ws, rest, e, hl, hz, r, ts, e2, hr, hts, hn, hm, k⟩ => ⟨ws, rest, e, hl, hz, r, ts, e2, hr, hts, hn, (fun i hi => by
  have : badIx (moreRows r ts) = none := badIx_none fun i x hx => by
    obtain ⟨a, b, c, d⟩ := hm.2.2 x (List.mem_of_getElem? hx)
    unfold rowB
    rw [isNum_in a b, isNum_in c d]
    rfl
  rw [this] at hi
  cases hi), fun _ => k⟩

end Q
namespace Q
open PySem PySem.Spec PyProof.Rows L2
open Evl (Ex)
/-! ### rows that are anything -/
def rowBD : PyData → Bool
  | .tuple [a, b] => isNum 0 9 a && isNum 0 9 b
  | _ => false
def rowKind : PyData → Prop
  | .tuple ds => ∀ x ∈ ds, numKind x = true
  | .dict _ => False
  | _ => True
def cIsRowD : Con := fun ds W Ψ Ξ => ∃ d, ds = [.p d] ∧ rowKind d ∧ Ψ (.p (.bool (rowBD d))) W
theorem jIT : kitB "int" "tuple" = some false := by decide +kernel
theorem jBT : kitB "bool" "tuple" = some false := by decide +kernel
theorem jNT : kitB "NoneType" "tuple" = some false := by decide +kernel
theorem jST : kitB "str" "tuple" = some false := by decide +kernel
theorem jLT : kitB "list" "tuple" = some false := by decide +kernel
theorem rowBD_len {es : List PyData} (h : es.length ≠ 2) : rowBD (.tuple es) = false := by
  match es, h with
  | [], _ => rfl
  | [_], _ => rfl
  | [_, _], h => exact absurd rfl h
  | _ :: _ :: _ :: _, _ => rfl
theorem okIsRowD {L : Pl} {f : Addr} {fd : FuncData} (B : Blt L.mg) (Gs : Glo L.mg) (DN : DefC L "is_number" 1 cIsNum) (F : Fun L.K "_is_row" "_is_row" sIsRow f fd) : FnC L 2 f cIsRowD := by
  refine fn_body F scIsRow (bIsRow F) (fun ds W Ψ Ξ ⟨_, h, _⟩ => by rw [h] <;> rfl) ?_
  rintro U hL ok hk ⟨f', cd, A, outer, s, H, E, T, G, Ξ, rfl⟩ ds W Ψ ⟨d, rfl, hkd, k⟩
  have no : ∀ d0 : PyData, rowBD d0 = false → Ψ (.p (.bool (rowBD d0))) W → Ψ (.p (.bool false)) W := fun d0 e z => e ▸ z
  refine wp_cons ?_
  refine w_if ?_
  refine et_of ?_
  refine ew_or ?_
  refine et_not ?_
  refine et_val ?_
  refine ev_isi (T := "tuple") B rfl rfl B.tuple btTuple ?_
  refine ev_nm 0 ?_
  cases d with
  | int i =>
    refine ⟨"int", false, rfl, jIT, truD_b (branch (fun _ => branch (fun _ => ?_) fun h => nomatch h) fun h => nomatch h)⟩
    refine wp_one ?_
    refine w_ret ?_
    refine ev_bl ?_
    exact k
  | bool i =>
    refine ⟨"bool", false, rfl, jBT, truD_b (branch (fun _ => branch (fun _ => ?_) fun h => nomatch h) fun h => nomatch h)⟩
    refine wp_one ?_
    refine w_ret ?_
    refine ev_bl ?_
    exact k
  | none =>
    refine ⟨"NoneType", false, rfl, jNT, truD_b (branch (fun _ => branch (fun _ => ?_) fun h => nomatch h) fun h => nomatch h)⟩
    refine wp_one ?_
    refine w_ret ?_
    refine ev_bl ?_
    exact k
  | str i =>
    refine ⟨"str", false, rfl, jST, truD_b (branch (fun _ => branch (fun _ => ?_) fun h => nomatch h) fun h => nomatch h)⟩
    refine wp_one ?_
    refine w_ret ?_
    refine ev_bl ?_
    exact k
  | list i =>
    refine ⟨"list", false, rfl, jLT, truD_b (branch (fun _ => branch (fun _ => ?_) fun h => nomatch h) fun h => nomatch h)⟩
    refine wp_one ?_
    refine w_ret ?_
    refine ev_bl ?_
    exact k
  | dict i => exact hkd.elim
  | tuple es =>
  refine ⟨"tuple", true, rfl, kTT, truD_b (branch (fun h => nomatch h) fun _ => ?_)⟩
  refine ew_one ?_
  refine et_ne ok ?_
  refine ev_len B rfl ?_
  refine ea_cons ?_
  refine ev_nm 0 ?_
  refine ea_nil ?_
  refine lenD_t ?_
  refine ev_int ?_
  refine eqD_i (tbool (branch (fun h => ?_) fun h => ?_))
  · refine wp_one ?_
    refine w_ret ?_
    refine ev_bl ?_
    have hl : es.length ≠ 2 := fun e => by
      rw [e] at h
      revert h
      decide
    rw [rowBD_len hl] at k
    exact k
  have hl : (es.length : Int) = 2 := by simpa using h
  match es, hl with
  | [d1, d2], _ =>
  have n1 : numKind d1 = true := hkd d1 (by simp)
  have n2 : numKind d2 = true := hkd d2 (by simp)
  refine wp_nil ?_
  refine wp_one ?_
  refine w_ret ?_
  refine ev_and ?_
  refine ev_call hL ok DN (Nat.le_refl _) rfl ?_
  refine ea_cons ?_
  refine ev_ix ?_
  refine ev_nm 0 ?_
  refine ev_int ?_
  refine getD_t (d := d1) rfl ?_
  refine ea_cons ?_
  refine ev_int ?_
  refine ea_cons ?_
  refine ev_globI rfl Gs.inRow ?_
  refine ea_nil ?_
  refine ⟨_, _, _, rfl, n1, ?_⟩
  refine boolD (branch' (fun hb => ?_) fun hb => ?_)
  · have e : rowBD (.tuple [d1, d2]) = false := by show (isNum 0 9 d1 && isNum 0 9 d2) = false; rw [hb]; rfl
    rw [e] at k
    exact k
  have e : rowBD (.tuple [d1, d2]) = isNum 0 9 d2 := by show (isNum 0 9 d1 && isNum 0 9 d2) = isNum 0 9 d2; rw [hb]; rfl
  rw [e] at k
  refine ev_one ?_
  refine ev_call hL ok DN (Nat.le_refl _) rfl ?_
  refine ea_cons ?_
  refine ev_ix ?_
  refine ev_nm 0 ?_
  refine ev_int ?_
  refine getD_t (d := d2) rfl ?_
  refine ea_cons ?_
  refine ev_int ?_
  refine ea_cons ?_
  refine ev_globI rfl Gs.inRow ?_
  refine ea_nil ?_
  exact ⟨_, _, _, rfl, n2, k⟩
/-- i is the first row that is wrong -/
structure BadAt (rows : List PyData) (i : Nat) : Prop where
  lt : i < rows.length
  bad : i = 24 ∨ rowBD (rows.getD i .none) = false
  good : ∀ j, j < i → j ≠ 24 ∧ rowBD (rows.getD j .none) = true
  kinds : ∀ r ∈ rows, rowKind r
def cFWb : Con := fun ds W Ψ Ξ => ∃ (rows : List PyData) (i : Nat), ds = [.p (.tuple rows)] ∧ rows.length ≤ 1000 ∧ BadAt rows i ∧ Ψ (.p (.int (i : Nat))) W
theorem okFWb {L : Pl} {f : Addr} {fd : FuncData} (B : Blt L.mg) (Gs : Glo L.mg) (DR : DefC L "_is_row" 2 cIsRowD) (F : Fun L.K "_first_wrong" "_first_wrong" sFW f fd) : FnC L 3 f cFWb := by
  refine fn_body F scFW (bFW F) (fun ds W Ψ Ξ ⟨_, _, h, _⟩ => by rw [h] <;> rfl) ?_
  rintro U hL ok hk ⟨f', cd, A, outer, s, H, E, T, G, Ξ, rfl⟩ ds W Ψ ⟨rows, n, rfl, hlen, hb, k⟩
  refine wp_cons ?_
  refine w_if ?_
  refine et_not ?_
  refine et_val ?_
  refine ev_nm 0 ?_
  refine truD_t ?_
  refine branch (fun he => ?_) fun _ => ?_
  · have := hb.lt
    cases rows with
    | nil => simp at this
    | cons _ _ => cases he
  refine wp_nil ?_
  refine wp_cons ?_
  refine w_for ok ([1] ++ ([2] ++ [])) ?_
  refine ei_enumT B rfl ?_
  refine ea_cons ?_
  refine ev_nm 0 ?_
  refine ea_nil ?_
  refine ⟨_, rfl, ?_⟩
  refine ⟨fun i env' W' => W' = W ∧ i ≤ n ∧ ∃ a b, env' = [some (.p (.tuple rows)), a, b], ⟨rfl, Nat.zero_le _, _, _, rfl⟩, ?_, ?_⟩
  · rintro i env' W' hi ⟨rfl, hin, a, b, rfl⟩
    refine eg_tup ok ⟨[.int i, rows.getD i .none], rfl, rfl, ?_⟩
    refine egs_cons ?_
    refine eg_nm ok 1 ?_
    refine egs_cons ?_
    refine eg_nm ok 2 ?_
    refine egs_nil ?_
    have hk' : rowKind (rows.getD i .none) := by
      rw [List.getD_eq_getElem?_getD, List.getElem?_eq_getElem hi]
      exact hb.kinds _ (List.getElem_mem hi)
    have go : i = n → Ψ (.p (.int (i : Nat))) W' := fun e => e ▸ k
    refine wp_one ?_
    refine w_if ?_
    refine et_of ?_
    refine ew_or ?_
    refine et_eq ok ?_
    refine ev_nm 1 ?_
    refine ev_globI rfl Gs.rows ?_
    refine eqD_i (tbool (branch (fun h => branch (fun _ => ?_) fun z => nomatch z) fun h24 => ?_))
    · have h' : (i : Int) = 24 := of_decide_eq_true h
      refine wp_one ?_
      refine w_ret ?_
      refine ev_nm 1 ?_
      refine go ?_
      by_cases e : i = n
      · exact e
      · exact absurd (show i = 24 by omega) (hb.good i (by omega)).1
    have h24' : ¬ (i : Int) = 24 := of_decide_eq_false h24
    refine ew_one ?_
    refine et_not ?_
    refine et_val ?_
    refine ev_call hL ok DR (Nat.le_refl _) rfl ?_
    refine ea_cons ?_
    refine ev_nm 2 ?_
    refine ea_nil ?_
    refine ⟨_, rfl, hk', ?_⟩
    refine truD_b (branch (fun hr => ?_) fun hr => ?_)
    · refine wp_one ?_
      refine w_ret ?_
      refine ev_nm 1 ?_
      refine go ?_
      by_cases e : i = n
      · exact e
      · have := (hb.good i (by omega)).2
        rw [this] at hr
        cases hr
    · refine wp_nil ?_
      refine ⟨rfl, ?_, _, _, rfl⟩
      by_cases e : i = n
      · subst e
        rcases hb.bad with z | z
        · omega
        · rw [z] at hr; cases hr
      · omega
  · rintro env' W' ⟨rfl, hin, a, b, rfl⟩
    exact absurd hb.lt (by omega)
def cInitB (C : Addr) : Con := fun ds W Ψ Ξ => ∃ (x dx : Addr) (rows : List PyData) (i : Nat) (Lw Rw : Ow), ds = [.adr x, .p (.tuple rows)] ∧ rows.length ≤ 1000 ∧ BadAt rows i ∧ i < 100 ∧ W = Lw ++ (x, .ins C dx []) :: Rw ∧ Ξ (.tab i) W
theorem okInitB {L : Pl} {f : Addr} {fd : FuncData} (B : Blt L.mg) (DW : DefC L "_first_wrong" 3 cFWb) (R : RaI L 2) (F : Fun L.K "__init__" "Timetable.__init__" sInit f fd) : FnR L.P L.w L.K L.mg L.base (L2.CX L.P L.w) 4 f (starSp (spG L (cInitB L.C))) := by
  refine fn_body_star F scInit (fun _ _ _ _ _ _ _ => rfl) (fun _ _ _ _ _ _ _ _ _ => rfl) ?_
  rintro U hL ok hk ⟨f', cd, A, outer, s, H, E, T, G, Ξ, rfl⟩ ds W Ψ ⟨x, dx, rows, i, Lw, Rw, rfl, hl, hb, hi, rfl, kx⟩
  refine wp_cons ?_
  refine w_st ok 2 ?_
  refine ev_call hL ok DW (Nat.le_refl _) rfl ?_
  refine ea_cons ?_
  refine ev_nm 1 ?_
  refine ea_nil ?_
  refine ⟨rows, i, rfl, hl, hb, ?_⟩
  refine wp_cons ?_
  refine w_if ?_
  refine et_isnotN ?_
  refine ev_nm 2 ?_
  refine branch (fun _ => ?_) fun hb => nomatch hb
  refine wp_one ?_
  refine w_raiseT hL ok R (by show 3 ≤ 3; omega) rfl ?_
  refine ev_nm 2 ?_
  exact ⟨((i : Nat) : Int), rfl, by omega, by omega, kx⟩
/-! ### simple, of too many -/
theorem bad_25 {ps : List (Nat × Nat)} (hp : ∀ p ∈ ps, p.1 ≤ 9 ∧ p.2 ≤ 9) (h : 24 < ps.length) : BadAt ((rowsN ps).map rowD) 24 := by
  have el : ((rowsN ps).map rowD).length = ps.length := by rw [List.length_map]; unfold rowsN; rw [List.length_map]
  refine ⟨by rw [el]; exact h, .inl rfl, fun j hj => ⟨by omega, ?_⟩, fun r hr => ?_⟩
  · obtain ⟨p, hp'⟩ := lt_some (l := ps) (i := j) (by omega)
    have e : ((rowsN ps).map rowD).getD j .none = rowD ((p.1 : Nat), (p.2 : Nat)) := by
      rw [List.getD_eq_getElem?_getD, List.getElem?_map]
      unfold rowsN
      rw [List.getElem?_map, hp'] <;> rfl
    rw [e]
    have hm := hp p (List.mem_of_getElem? hp')
    show (isNum 0 9 (.int ((p.1 : Nat) : Int)) && isNum 0 9 (.int ((p.2 : Nat) : Int))) = true
    rw [isNum_in (by omega) (by omega), isNum_in (by omega) (by omega)]
    rfl
  · obtain ⟨q, _, rfl⟩ := List.mem_map.mp hr
    exact fun x hx => by
      have hx : x = .int q.1 ∨ x = .int q.2 := by simpa using hx
      rcases hx with rfl | rfl <;> rfl
def cSimpleB (C : Addr) : Con := fun ds W Ψ Ξ => ∃ ps : List (Nat × Nat), ds = [.adr C, .p (.str (figS (ps.map (·.1)))), .p (.str (figS (ps.map (·.2))))] ∧ (∀ p ∈ ps, p.1 ≤ 9 ∧ p.2 ≤ 9) ∧ ps.length ≤ 1000 ∧ 24 < ps.length ∧ Ξ (.tab 24) W
theorem okSimpleB {L : Pl} {f fi : Addr} {fd : FuncData} (M : Mk L.K L.C fi) (FI : FnR L.P L.w L.K L.mg L.base (L2.CX L.P L.w) 4 fi (starSp (spG L (cInitB L.C)))) (DS : DefC L "_simple_rows" 2 cSR) (F : Fun L.K "simple" "Timetable.simple" sSimple f fd) : FnC L 6 f (cSimpleB L.C) := by
  refine fn_body F scSimple (bSimple F) (fun ds W Ψ Ξ ⟨_, h, _⟩ => by rw [h] <;> rfl) ?_
  rintro U hL ok hk ⟨f', cd, A, outer, s, H, E, T, G, Ξ, rfl⟩ ds W Ψ ⟨ps, rfl, hp, hl, h25, k⟩
  have el : ((rowsN ps).map rowD).length = ps.length := by rw [List.length_map]; unfold rowsN; rw [List.length_map]
  refine wp_cons ?_
  refine w_st ok 3 ?_
  refine ev_call hL ok DS (by show 2 ≤ 5; omega) rfl ?_
  refine ea_cons ?_
  refine ev_nm 1 ?_
  refine ea_cons ?_
  refine ev_nm 2 ?_
  refine ea_nil ?_
  refine ⟨ps, rfl, hp, hl, ?_⟩
  refine wp_one ?_
  refine w_ret ?_
  refine ev_makeS hL ok M FI (by show 5 ≤ 5; omega) ?_
  refine ev_nm 0 ?_
  refine both rfl ?_
  refine ev_nm 3 ?_
  refine ⟨_, .inl rfl, by rw [el]; omega, fun x dx => ?_⟩
  exact ⟨x, dx, _, 24, [], _, rfl, by rw [el]; omega, bad_25 hp h25, by omega, rfl, _, rfl, k⟩
/-! ### ticks that are none -/
def cGetB : Con := fun ds W Ψ Ξ => ∃ (rows : List (Int × Int)) (pd : PyData), ds = [.tt rows, .p pd] ∧ numKind pd = true ∧ isNum 0 LASTN pd = false ∧ Ξ .num W
theorem okGetB {L : Pl} {f : Addr} {fd : FuncData} (last : ∃ t, L.mg "LAST" = some (.int 1000000000000000000 t)) (DC : DefC L "check_number" 2 cCheck) (F : Fun L.K "__getitem__" "Timetable.__getitem__" sGet f fd) : FnC L 3 f cGetB := by
  refine fn_body F scGet (bGet F) (fun ds W Ψ Ξ ⟨_, _, h, _⟩ => by rw [h] <;> rfl) ?_
  rintro U hL ok hk ⟨f', cd, A, outer, s, H, E, T, G, Ξ, rfl⟩ ds W Ψ ⟨rows, pd, rfl, hn, hb, k⟩
  refine wp_cons ?_
  refine w_expr ?_
  refine ev_call hL ok DC (by show 2 ≤ 2; omega) rfl ?_
  refine ea_cons ?_
  refine ev_nm 1 ?_
  refine ea_cons ?_
  refine ev_int ?_
  refine ea_cons ?_
  refine ev_globI rfl last ?_
  refine ea_nil ?_
  exact ⟨pd, 0, LASTN, rfl, hn, c0_1, cL_1, c0_2, cL_2, (fun h => by rw [hb] at h; cases h), fun _ => k⟩
def cWAn : Con := fun ds W Ψ Ξ => ∃ (r : List (Int × Int)) (pd : PyData) (rest : List PyData), ds = [.tt r, .ptup (pd :: rest)] ∧ rowsOk r ∧ numKind pd = true ∧ isNum 0 ((r.length - 1 : Nat) : Int) pd = false ∧ Ξ .num W
theorem okWAn {L : Pl} {f : Addr} {fd : FuncData} (B : Blt L.mg) (TC : TCl L.K L.C) (DC : DefC L "check_number" 2 cCheck) (F : Fun L.K "with_answers" "Timetable.with_answers" sWA f fd) : FnC L 6 f (stC 1 cWAn) := by
  refine fn_body_starZ (ps := ["self"]) (pv := "ticks") F scWA (fun kV doc pm an cdv ct => StX.bind_star1 (B := fun us => bindArgs (PySem.W.fnOf "with_answers" "Timetable.with_answers" (defArgs sWA) (defBody sWA) (defScope sWA) .none kV doc pm an cdv ct) ⟨us, []⟩) (fun _ => rfl) (fun _ _ _ => rfl)) ?_
  rintro U hL ok hk ⟨f', cd, A, outer, s, H, E, T, G, Ξ, rfl⟩ ds W Ψ ⟨r, pd, rest, rfl, hr, hn, hbad, k⟩
  have h0 := hr.1
  have h24 := hr.2.1
  refine wp_cons ?_
  refine w_for ok [2] ?_
  refine ei_ptup ?_
  refine ev_nm 1 ?_
  refine ⟨_, rfl, ?_⟩
  refine ⟨fun i env' W' => i = 0 ∧ W' = W ∧ ∃ x2, env' = [some (.tt r), some (.ptup (pd :: rest)), x2, none, none, none, none], ⟨rfl, rfl, _, rfl⟩, ?_, fun env' W' z => absurd (show (pd :: rest).length = 0 from z.1) (by simp)⟩
  rintro i env' W' hi ⟨rfl, rfl, x2, rfl⟩
  refine eg_nm ok 2 ?_
  refine wp_one ?_
  refine w_expr ?_
  refine ev_call hL ok DC (by show 2 ≤ 5; omega) rfl ?_
  refine ea_cons ?_
  refine ev_nm 2 ?_
  refine ea_cons ?_
  refine ev_int ?_
  refine ea_cons ?_
  refine ev_sub ?_
  refine ev_len B rfl ?_
  refine ea_cons ?_
  refine ev_rows TC.cls TC.rows ?_
  refine ev_nm 0 ?_
  refine ⟨r, rfl, ?_⟩
  refine ea_nil ?_
  refine lenD_t ?_
  rw [List.length_map]
  refine ev_int ?_
  refine subD ?_
  refine ea_nil ?_
  have es : ((r.length : Nat) : Int) - 1 = ((r.length - 1 : Nat) : Int) := by omega
  rw [es]
  exact ⟨pd, 0, ((r.length - 1 : Nat) : Int), rfl, hn, c0_1, log24 (by omega) (by omega), c0_2, str24 ⟨r.length - 1, by omega⟩, fun h => (by rw [hbad] at h; cases h), fun _ => k⟩
/-! ### == of a timetable and what is none, + -/
def cEqD (L : Pl) : Con := fun ds W Ψ Ξ => ∃ (r : List (Int × Int)) (d : D) (t : String), ds = [.tt r, d] ∧ tyN d = some t ∧ PySem.W.kitOne L.K (.type t) (.ref L.C) = some false ∧ Ψ (.p (.bool false)) W
theorem okEqD {L : Pl} {f : Addr} {fd : FuncData} (B : Blt L.mg) (mC : L.mg "Timetable" = some (.ref L.C)) (F : Fun L.K "__eq__" "Timetable.__eq__" sEq f fd) : FnC L 3 f (cEqD L) := by
  refine fn_body F scEq (bEq F) (fun ds W Ψ Ξ ⟨_, _, _, h, _⟩ => by rw [h] <;> rfl) ?_
  rintro U hL ok hk ⟨f', cd, A, outer, s, H, E, T, G, Ξ, rfl⟩ ds W Ψ ⟨r, d, t, rfl, ht, hkt, k⟩
  refine wp_cons ?_
  refine w_if ?_
  refine et_not ?_
  refine et_val ?_
  refine ev_isDat (C' := L.C) B rfl ?_
  refine ea_cons ?_
  refine ev_nm 1 ?_
  refine ea_cons ?_
  refine ev_globR rfl mC ?_
  refine ea_nil ?_
  refine ⟨d, t, false, rfl, ht, hkt, ?_⟩
  refine truD_b (branch (fun _ => ?_) fun h => nomatch h)
  refine wp_one ?_
  refine w_ret ?_
  refine ev_bl ?_
  exact k
def cAddG : Con := fun ds W Ψ Ξ => ∃ r1 r2, ds = [.tt r1, .tt r2] ∧ rowsOk r1 ∧ rowsOk r2 ∧ 0 < (sumRows r1 r2).length ∧ (sumRows r1 r2).length ≤ 24 ∧ (∀ i : Nat, badIx (sumRows r1 r2) = some i → Ξ (.tab i) W) ∧ (badIx (sumRows r1 r2) = none → Ψ (.tt (sumRows r1 r2)) W)
theorem okAddG {L : Pl} {f fi : Addr} {fd : FuncData} (B : Blt L.mg) (mC : L.mg "Timetable" = some (.ref L.C)) (IC : C8.InsC L.K L.C) (M : Mk L.K L.C fi) (FI : FnR L.P L.w L.K L.mg L.base (L2.CX L.P L.w) 4 fi (starSp (spG L (cInitG L.C)))) (DA : DefC L "_added_rows" 5 cAdded) (F : Fun L.K "__add__" "Timetable.__add__" sAdd f fd) : FnC L 6 f cAddG := by
  refine fn_body F scAdd (bAdd F) (fun ds W Ψ Ξ ⟨_, _, h, _⟩ => by rw [h] <;> rfl) ?_
  rintro U hL ok hk ⟨f', cd, A, outer, s, H, E, T, G, Ξ, rfl⟩ ds W Ψ ⟨r1, r2, rfl, h1, h2, l0, l24, kx, k⟩
  refine wp_cons ?_
  refine w_if ?_
  refine et_not ?_
  refine et_val ?_
  refine ev_isC IC B rfl ?_
  refine ea_cons ?_
  refine ev_nm 1 ?_
  refine ea_cons ?_
  refine ev_globR rfl mC ?_
  refine ea_nil ?_
  refine ⟨r2, rfl, ?_⟩
  refine truD_b ?_
  refine branch (fun z => nomatch z) fun _ => ?_
  refine wp_nil ?_
  refine wp_cons ?_
  refine w_st ok 2 ?_
  refine ev_call hL ok DA (by show 5 ≤ 5; omega) rfl ?_
  refine ea_cons ?_
  refine ev_nm 0 ?_
  refine ea_cons ?_
  refine ev_nm 1 ?_
  refine ea_nil ?_
  refine ⟨r1, r2, rfl, h1, h2, ?_⟩
  refine wp_one ?_
  refine w_ret ?_
  refine ev_makeS hL ok M FI (by show 5 ≤ 5; omega) ?_
  refine ev_globR rfl mC ?_
  refine both rfl ?_
  refine ev_nm 2 ?_
  refine ⟨_, .inl rfl, by rw [List.length_map]; omega, fun x dx => ?_⟩
  exact ⟨x, dx, sumRows r1 r2, [], _, rfl, l0, l24, rfl, fun i hi => ⟨_, rfl, kx i hi⟩, fun hn => ⟨rfl, sumRows r1 r2, _, rfl, k hn⟩⟩

end Q
namespace Q
open PySem PySem.Spec PyProof.Rows L2
open Evl (Ex)
/-! ### _law_told, handed a lambda that raises InvalidNumber or NoLetters -/
abbrev sTold : Stmt := topS 30
abbrev nTold : List Str := ["_law_work", "_law_e", "_law_some", "_law_k"]
theorem scTold : FnScope nTold ["_law_work"] (defScope sTold) := ⟨rfl, rfl, rfl, by decide +kernel, rfl, by decide +kernel, by decide +kernel⟩
/-- the classes of errors, as the text has them -/
structure ErCls (K : PySem.W.Frag) (CS cN cL cA cT cX : Addr) (bN bL bA : Bool) : Prop where
  ex : PySem.W.exmOne K (.ref cX) (.ref CS) = some true
  ec : ExcC K cX
  kT : PySem.W.kitOne K (.ref cX) (.ref cT) = some false
  kN : PySem.W.kitOne K (.ref cX) (.ref cN) = some bN
  kL : PySem.W.kitOne K (.ref cX) (.ref cL) = some bL
  kA : PySem.W.kitOne K (.ref cX) (.ref cA) = some bA
  kV : PySem.W.kitOne K (.ref cX) (.type "ValueError") = some true
structure Errs (K : PySem.W.Frag) (mg : Str → Option Value) (CS cN cL cA cT : Addr) : Prop where
  mS : mg "PileError" = some (.ref CS)
  mN : mg "InvalidNumber" = some (.ref cN)
  mL : mg "NoLetters" = some (.ref cL)
  mA : mg "NoAnswer" = some (.ref cA)
  mT : mg "InvalidTimetable" = some (.ref cT)
  mV : mg "ValueError" = none
  n : ErCls K CS cN cL cA cT cN true false false
  l : ErCls K CS cN cL cA cT cL false true false
abbrev errN : PyData := .tuple [.str "error", .str "InvalidNumber"]
abbrev errL : PyData := .tuple [.str "error", .str "NoLetters"]
/-- what told makes of an error -/
def errOf : Xc → PyData
  | .num => errN
  | .nol => errL
  | _ => .none
def TTe (K : PySem.W.Frag) (C cN cL cA cT : Addr) : (XK → Hp → VK → Prop) → Hp → VK → Prop := fun tl H Q => ∃ E : XK, tl E H Q ∧ ∀ cls d H', E cls d H' → ∃ xc : Xc, (xc = .num ∨ xc = .nol) ∧ XRep cN cL cA cT xc cls d H' ∧
  ∃ (T : List (Addr × Str)) (G : Hp) (W : Ow), Hs K C T G W H' ∧ ∀ v G2 H2, Ex G G2 → Hs K C T G2 W H2 → Rp G2 v (errOf xc) → Q v H2
theorem Hs.tail {K : PySem.W.Frag} {C : Addr} {T : List (Addr × Str)} {G H : Hp} {W : Ow} {q : Addr × OD} (h : Hs K C T G (q :: W) H) : Hs K C T G W H :=
  ⟨h.g, fun p hp => h.w p (List.mem_cons_of_mem _ hp), fun p hp => h.d p (List.mem_cons_of_mem _ hp), (List.nodup_cons.mp h.n).2, h.t, h.nt⟩
theorem et_eqN {U : Ct} {env : Ev0} {W : Ow} {a b : Expr} {pos : Pos} (hu : U.X.A.units + 64 < cLine) {Ψ : Bool → Ow → Prop} (h : Ev U a env W fun d1 W1 => Ev U b env W1 fun d2 W2 => EqD id d1 d2 fun d => TBool d fun k => Ψ k W2) : EvT U (.Compare a [.Eq] [b] pos) env W Ψ := by
  refine et_cmpG (op_eqD hu) (nomark _) (h.imp fun d1 W1 h1 => h1.imp fun d2 W2 h2 => ?_)
  intro G H x y eg hs rx ry Q q
  unfold EqD at h2
  split at h2
  · refine ⟨_, _, Rp.dp hs.g _ _ rx, Rp.dp hs.g _ _ ry, shaped_int _, shaped_int _, ?_⟩
    rw [eqv_int]
    exact q _ G H (.p (.bool _)) W2 (Ex.refl G) hs (Rp.bl _) ⟨_, rfl, h2⟩
  · exact ⟨_, _, Rp.dp hs.g _ _ rx, Rp.dp hs.g _ _ ry, h2.1, h2.2.1, q _ G H (.p (.bool _)) W2 (Ex.refl G) hs (Rp.bl _) ⟨_, rfl, h2.2.2⟩⟩
  · exact h2.elim
theorem btVE : bootBuiltins "ValueError" = some (.type "ValueError") := by decide +kernel
def trySuite : List Stmt := match defBody sTold with
  | [.Try _ [.ExceptHandler _ _ b _] _ _ _] => b
  | _ => []
section
variable {P : Program} {w : World} {K : PySem.W.Frag} {mg : Str → Option Value} {base : Heap} {g : Addr} {cdg : Value} {A : Around} {outer : List Env} {s : Shared} {H : Hp}
abbrev tdX (P : Program) (w : World) (K : PySem.W.Frag) (mg : Str → Option Value) (base : Heap) (g : Addr) (cdg : Value) (A : Around) (outer : List Env) (s : Shared) (H : Hp) : Cx :=
  (cxOf C8.CX0 P w K mg base nTold "_law_told" (defScope sTold) g cdg A outer s H C8.E0).nox
/-- the context of the except clause -/
abbrev suU (X : Cx) (a : Addr) (oe : Obj) (pn : List (Addr × Obj)) (T : List (Addr × Str)) (C cN cL cA cT : Addr) (G : Hp) (k : Nat) : Ct := { X := X.suite a ((a, oe) :: pn), T := T, C := C, cN := cN, cL := cL, cA := cA, cT := cT, G := G, Ξ := fun _ _ => False, E := fun _ _ _ => False, k := k }
theorem suite_N {a : Addr} {oe : Obj} {pn : List (Addr × Obj)} {T : List (Addr × Str)} {C CS cN cL cA cT : Addr} {G : Hp} {k : Nat} (B : Blt mg) (Er : Errs K mg CS cN cL cA cT) (hu : (tdX P w K mg base g cdg A outer s H).A.units + 64 < cLine)
    (hz : Zc (.ref cN) none oe) (hf : ∃ vs, oe.data = .fields vs) (W : Ow) (Φ : Ke) (hΦ : ∀ q, Φ.rt (.p errN) (q :: W)) : Wp (suU (tdX P w K mg base g cdg A outer s H) a oe pn T C cN cL cA cT G k) trySuite [none, some (.adr a), none, none] W Φ := by
  have nd : nTold.Nodup := scTold.nd
  have hc : CallR (suU (tdX P w K mg base g cdg A outer s H) a oe pn T C cN cL cA cT G k).X (.builtin "isinstance") (rIsE K cN a) := call_isE (X := tdX P w K mg base g cdg A outer s H) Er.n.ec hz hf
  refine wp_cons ?_
  refine w_stN nd 2 ?_
  refine ev_lstO ?_
  refine ea_cons ?_
  refine ev_isiE hc B rfl ?_
  refine ea_cons ?_
  refine ev_nm 1 ?_
  refine ea_cons ?_
  refine ev_globR rfl Er.mT ?_
  refine ea_nil ?_
  refine ⟨_, _, rfl, Er.n.kT, ?_⟩
  refine ea_cons ?_
  refine ev_isiE hc B rfl ?_
  refine ea_cons ?_
  refine ev_nm 1 ?_
  refine ea_cons ?_
  refine ev_globR rfl Er.mN ?_
  refine ea_nil ?_
  refine ⟨_, _, rfl, Er.n.kN, ?_⟩
  refine ea_cons ?_
  refine ev_isiE hc B rfl ?_
  refine ea_cons ?_
  refine ev_nm 1 ?_
  refine ea_cons ?_
  refine ev_globR rfl Er.mL ?_
  refine ea_nil ?_
  refine ⟨_, _, rfl, Er.n.kL, ?_⟩
  refine ea_nil ?_
  refine ⟨by simp, fun p => ?_⟩
  refine wp_cons ?_
  refine w_app ?_
  refine ev_nm 2 ?_
  refine ⟨p, [], W, _, rfl, rfl, ?_⟩
  refine ev_isiE hc B rfl ?_
  refine ea_cons ?_
  refine ev_nm 1 ?_
  refine ea_cons ?_
  refine ev_globR rfl Er.mA ?_
  refine ea_nil ?_
  refine ⟨_, _, rfl, Er.n.kA, ?_⟩
  refine ⟨[], W, _, rfl, by show 3 ≤ 1000000; omega, ?_⟩
  refine wp_cons ?_
  refine w_stN nd 3 ?_
  refine ev_if ?_
  refine et_of ?_
  refine ew_and ?_
  refine et_eqN hu ?_
  refine ev_countB ?_
  refine ev_nm 2 ?_
  refine ⟨p, [], W, [false, true, false, false], rfl, rfl, ?_⟩
  refine ev_int ?_
  refine eqD_i (tbool (branch' (fun h => absurd h (by decide)) fun _ => ?_))
  refine ew_one ?_
  refine et_val ?_
  refine ev_isiET hc B rfl rfl Er.mV btVE ?_
  refine ev_nm 1 ?_
  refine ⟨true, rfl, Er.n.kV, truD_b (branch (fun _ => ?_) fun h => nomatch h)⟩
  refine ev_indexB ?_
  refine ev_nm 2 ?_
  refine ⟨p, [], W, [false, true, false, false], 1, rfl, rfl, rfl, fun m hm => by
    have : m = 0 := by omega
    subst this; rfl, ?_⟩
  refine wp_cons ?_
  refine w_if ?_
  refine et_eqN hu ?_
  refine ev_nm 3 ?_
  refine ev_int ?_
  refine eqD_i (tbool (branch (fun h => absurd h (by decide)) fun _ => ?_))
  refine wp_nil ?_
  refine wp_one ?_
  refine w_ret ?_
  refine ev_tup ?_
  refine ea_cons ?_
  refine ev_str ?_
  refine ea_cons ?_
  refine ev_ix ?_
  refine ev_lst ?_
  refine ea_cons ?_
  refine ev_str ?_
  refine ea_cons ?_
  refine ev_str ?_
  refine ea_cons ?_
  refine ev_str ?_
  refine ea_cons ?_
  refine ev_str ?_
  refine ea_cons ?_
  refine ev_str ?_
  refine ea_nil ?_
  refine allP_cons (allP_cons (allP_cons (allP_cons (allP_cons (allP_nil ⟨by show 5 ≤ 1000; omega, ?_⟩)))))
  refine ev_nm 3 ?_
  refine getD_l (d := .str "InvalidNumber") rfl ?_
  refine ea_nil ?_
  refine allP_cons (allP_cons (allP_nil ⟨by show 2 ≤ 1000; omega, ?_⟩))
  exact hΦ _
theorem suite_L {a : Addr} {oe : Obj} {pn : List (Addr × Obj)} {T : List (Addr × Str)} {C CS cN cL cA cT : Addr} {G : Hp} {k : Nat} (B : Blt mg) (Er : Errs K mg CS cN cL cA cT) (hu : (tdX P w K mg base g cdg A outer s H).A.units + 64 < cLine)
    (hz : Zc (.ref cL) none oe) (hf : ∃ vs, oe.data = .fields vs) (W : Ow) (Φ : Ke) (hΦ : ∀ q, Φ.rt (.p errL) (q :: W)) : Wp (suU (tdX P w K mg base g cdg A outer s H) a oe pn T C cN cL cA cT G k) trySuite [none, some (.adr a), none, none] W Φ := by
  have nd : nTold.Nodup := scTold.nd
  have hc : CallR (suU (tdX P w K mg base g cdg A outer s H) a oe pn T C cN cL cA cT G k).X (.builtin "isinstance") (rIsE K cL a) := call_isE (X := tdX P w K mg base g cdg A outer s H) Er.l.ec hz hf
  refine wp_cons ?_
  refine w_stN nd 2 ?_
  refine ev_lstO ?_
  refine ea_cons ?_
  refine ev_isiE hc B rfl ?_
  refine ea_cons ?_
  refine ev_nm 1 ?_
  refine ea_cons ?_
  refine ev_globR rfl Er.mT ?_
  refine ea_nil ?_
  refine ⟨_, _, rfl, Er.l.kT, ?_⟩
  refine ea_cons ?_
  refine ev_isiE hc B rfl ?_
  refine ea_cons ?_
  refine ev_nm 1 ?_
  refine ea_cons ?_
  refine ev_globR rfl Er.mN ?_
  refine ea_nil ?_
  refine ⟨_, _, rfl, Er.l.kN, ?_⟩
  refine ea_cons ?_
  refine ev_isiE hc B rfl ?_
  refine ea_cons ?_
  refine ev_nm 1 ?_
  refine ea_cons ?_
  refine ev_globR rfl Er.mL ?_
  refine ea_nil ?_
  refine ⟨_, _, rfl, Er.l.kL, ?_⟩
  refine ea_nil ?_
  refine ⟨by simp, fun p => ?_⟩
  refine wp_cons ?_
  refine w_app ?_
  refine ev_nm 2 ?_
  refine ⟨p, [], W, _, rfl, rfl, ?_⟩
  refine ev_isiE hc B rfl ?_
  refine ea_cons ?_
  refine ev_nm 1 ?_
  refine ea_cons ?_
  refine ev_globR rfl Er.mA ?_
  refine ea_nil ?_
  refine ⟨_, _, rfl, Er.l.kA, ?_⟩
  refine ⟨[], W, _, rfl, by show 3 ≤ 1000000; omega, ?_⟩
  refine wp_cons ?_
  refine w_stN nd 3 ?_
  refine ev_if ?_
  refine et_of ?_
  refine ew_and ?_
  refine et_eqN hu ?_
  refine ev_countB ?_
  refine ev_nm 2 ?_
  refine ⟨p, [], W, [false, false, true, false], rfl, rfl, ?_⟩
  refine ev_int ?_
  refine eqD_i (tbool (branch' (fun h => absurd h (by decide)) fun _ => ?_))
  refine ew_one ?_
  refine et_val ?_
  refine ev_isiET hc B rfl rfl Er.mV btVE ?_
  refine ev_nm 1 ?_
  refine ⟨true, rfl, Er.l.kV, truD_b (branch (fun _ => ?_) fun h => nomatch h)⟩
  refine ev_indexB ?_
  refine ev_nm 2 ?_
  refine ⟨p, [], W, [false, false, true, false], 2, rfl, rfl, rfl, fun m hm => by
    have : m = 0 ∨ m = 1 := by omega
    rcases this with rfl | rfl <;> rfl, ?_⟩
  refine wp_cons ?_
  refine w_if ?_
  refine et_eqN hu ?_
  refine ev_nm 3 ?_
  refine ev_int ?_
  refine eqD_i (tbool (branch (fun h => absurd h (by decide)) fun _ => ?_))
  refine wp_nil ?_
  refine wp_one ?_
  refine w_ret ?_
  refine ev_tup ?_
  refine ea_cons ?_
  refine ev_str ?_
  refine ea_cons ?_
  refine ev_ix ?_
  refine ev_lst ?_
  refine ea_cons ?_
  refine ev_str ?_
  refine ea_cons ?_
  refine ev_str ?_
  refine ea_cons ?_
  refine ev_str ?_
  refine ea_cons ?_
  refine ev_str ?_
  refine ea_cons ?_
  refine ev_str ?_
  refine ea_nil ?_
  refine allP_cons (allP_cons (allP_cons (allP_cons (allP_cons (allP_nil ⟨by show 5 ≤ 1000; omega, ?_⟩)))))
  refine ev_nm 3 ?_
  refine getD_l (d := .str "NoLetters") rfl ?_
  refine ea_nil ?_
  refine allP_cons (allP_cons (allP_nil ⟨by show 2 ≤ 1000; omega, ?_⟩))
  exact hΦ _
end

end Q
namespace Q
open PySem PySem.Spec PyProof.Rows L2
open Evl (Ex)
theorem told_gives {X : Cx} {L : Pl} {C CS cN cL cA cT g : Addr} {cdg : Value} {q : Str} {k : Nat} (B : Blt X.mg) (Er : Errs X.K X.mg CS cN cL cA cT) (hr : Room (k + 1) X.A) :
    LamX.GivesTo X nTold "_law_told" (defScope sTold) g cdg (defBody sTold) "_law_work" q (TTe X.K C cN cL cA cT) := by
  intro f c' s H Q tl act hc ⟨E, h1, h2⟩
  have hu : (tdX X.prog X.w X.K X.mg X.base g cdg X.A X.stack s H).A.units + 64 < cLine := (hr.deeper (envOfC "_law_told" (defScope sTold) s.heap.objs.size g cdg)).units
  refine ⟨_, pss_one (ps_try_as (X := tdX X.prog X.w X.K X.mg X.base g cdg X.A X.stack s H) (i := 1) (c := .ref CS)
    (tb := fun W D σ H => ∃ Ech : XK, (∀ cls d σ' H', Ech cls d H' → W cls d σ' H') ∧ σ[0]? = some (some (.ref f)) ∧ H c' = some (LamX.CodeO c' q) ∧ tl Ech H D.rt)
    (ts := fun a cls d D σ H' => ∀ (oe : Obj) (pn : List (Addr × Obj)), Zc cls d oe → (∃ vs, oe.data = .fields vs) → SemB ((tdX X.prog X.w X.K X.mg X.base g cdg X.A X.stack s H).suite a ((a, oe) :: pn)) trySuite D σ H')
    rfl rfl scTold.nd rfl rfl ⟨rfl, by decide, .inl Er.mS⟩ LamX.takes0 (fun W pn xe tk _ => ?_) (fun a oe cls d pn hz hf => ⟨fun pins s' σ H' D I h => h oe pn hz hf pins s' I⟩)), ?_⟩
  · refine ⟨fun pins s' σ H' D I h' => ?_⟩
    obtain ⟨Ech, hW, e1, e2, e3⟩ := h'
    exact (pss_one (ps_ret (act W pn xe Ech _ _ tk hW))).run pins s' σ H' D I ⟨e1, e2, e3⟩
  · refine ⟨E, fun cls d σ' H' he => ?_, rfl, hc, h1⟩
    obtain ⟨xc, hxc, xr, T, G, W, hs, hQ⟩ := h2 cls d H' he
    rcases hxc with rfl | rfl
    · obtain ⟨rfl, rfl⟩ : cls = .ref cN ∧ d = none := xr
      refine ⟨true, Er.n.ex, fun _ a ha oe pn hz hf pins s' I => ?_, fun hb => nomatch hb⟩
      have sl : Slots X.K C G (σ'.set 1 (some (.ref a))) [none, some (.adr a), none, none] := by
        have hl : (σ'.set 1 (some (V.ref a))).length = 4 := I.len
        refine ⟨hl, fun i d q => ?_⟩
        have hi : i = 1 := by
          match i, q with
          | 0, q => cases q
          | 1, _ => rfl
          | 2, q => cases q
          | 3, q => cases q
          | n + 4, q => simp at q
        subst hi
        cases q
        refine ⟨.ref a, ?_, rfl⟩
        rw [List.getElem?_set_self (by rw [List.length_set] at hl; omega)]
      have z := suite_N (P := X.prog) (w := X.w) (K := X.K) (mg := X.mg) (base := X.base) (g := g) (cdg := cdg) (A := X.A) (outer := X.stack) (s := s) (H := H) (a := a) (oe := oe) (pn := pn) (T := T) (C := C) (G := G) (k := k) B Er hu hz hf W ⟨fun _ _ => False, fun d W2 => d = .p errN ∧ ∃ q, W2 = q :: W, fun _ _ => False, fun _ _ => False⟩ (fun q => ⟨rfl, q, rfl⟩)
      refine z (σ'.set 1 (some (.ref a))) G H' (Ex.refl G) hs sl _ ⟨fun _ _ _ _ _ _ _ _ z => z.elim, fun v G2 H2 d W2 e2 h2' r2 z2 => ?_, fun _ _ _ _ _ _ _ _ z => z.elim, fun _ _ _ _ _ _ _ _ z => z.elim⟩ pins s' I
      obtain ⟨rfl, qq, rfl⟩ := z2
      exact hQ v G2 H2 e2 h2'.tail r2
    · obtain ⟨rfl, rfl⟩ : cls = .ref cL ∧ d = none := xr
      refine ⟨true, Er.l.ex, fun _ a ha oe pn hz hf pins s' I => ?_, fun hb => nomatch hb⟩
      have sl : Slots X.K C G (σ'.set 1 (some (.ref a))) [none, some (.adr a), none, none] := by
        have hl : (σ'.set 1 (some (V.ref a))).length = 4 := I.len
        refine ⟨hl, fun i d q => ?_⟩
        have hi : i = 1 := by
          match i, q with
          | 0, q => cases q
          | 1, _ => rfl
          | 2, q => cases q
          | 3, q => cases q
          | n + 4, q => simp at q
        subst hi
        cases q
        refine ⟨.ref a, ?_, rfl⟩
        rw [List.getElem?_set_self (by rw [List.length_set] at hl; omega)]
      have z := suite_L (P := X.prog) (w := X.w) (K := X.K) (mg := X.mg) (base := X.base) (g := g) (cdg := cdg) (A := X.A) (outer := X.stack) (s := s) (H := H) (a := a) (oe := oe) (pn := pn) (T := T) (C := C) (G := G) (k := k) B Er hu hz hf W ⟨fun _ _ => False, fun d W2 => d = .p errL ∧ ∃ q, W2 = q :: W, fun _ _ => False, fun _ _ => False⟩ (fun q => ⟨rfl, q, rfl⟩)
      refine z (σ'.set 1 (some (.ref a))) G H' (Ex.refl G) hs sl _ ⟨fun _ _ _ _ _ _ _ _ z => z.elim, fun v G2 H2 d W2 e2 h2' r2 z2 => ?_, fun _ _ _ _ _ _ _ _ z => z.elim, fun _ _ _ _ _ _ _ _ z => z.elim⟩ pins s' I
      obtain ⟨rfl, qq, rfl⟩ := z2
      exact hQ v G2 H2 e2 h2'.tail r2

end Q
namespace Q
open PySem PySem.Spec PyProof.Rows L2
open Evl (Ex)
/-! ### told, by data -/
abbrev lamV (U : Ct) (A : Around) (outer : List Env) (s : Shared) (Hb : Hp) (scope : Scope) (f c' : Addr) (G : Hp) (Ξ' : Xc → Ow → Prop) (E : XK) (k : Nat) : Ct := { U with X := LamX.lamCx U.X A outer s Hb E scope f c', G := G, Ξ := Ξ', E := E, k := k }
def lamEx (U : Ct) (G : Hp) (Ξ' : Xc → Ow → Prop) : XK := fun cls d H' => ∃ xc : Xc, XRep U.cN U.cL U.cA U.cT xc cls d H' ∧ ∃ G2 W2, Ex G G2 ∧ Hs U.X.K U.C U.T G2 W2 H' ∧ Ξ' xc W2
theorem lamV_ok {U : Ct} (ok : U.Ok) {A : Around} {outer : List Env} {s : Shared} {Hb : Hp} {scope : Scope} {f c' : Addr} {G : Hp} {Ξ' : Xc → Ow → Prop} {k : Nat} (hr : Room k (A.deeper (LamX.lamEnv U.X scope s.heap.objs.size f c'))) : (lamV U A outer s Hb scope f c' G Ξ' (lamEx U G Ξ') k).Ok where
  calm := rfl
  room := hr
  nd := ok.nd
  po := passes_of rfl
  tk := takes_of rfl rfl rfl rfl
  ex := fun xc cls dd G2 H2 W2 e2 h2 xr z => ⟨xc, xr, G2, W2, e2, h2, z⟩
theorem lamV_has {L : Pl} {U : Ct} (hL : L.Has U) {A : Around} {outer : List Env} {s : Shared} {Hb : Hp} {scope : Scope} {f c' : Addr} {G : Hp} {Ξ' : Xc → Ow → Prop} {E : XK} {k : Nat} : L.Has (lamV U A outer s Hb scope f c' G Ξ' E k) :=
  ⟨hL.P, hL.w, hL.K, hL.mg, hL.base, hL.C, hL.cN, hL.cL, hL.cA, hL.cT⟩
/-- what the body may tell -/
def xiOf (Ψ : D → Ow → Prop) : Xc → Ow → Prop := fun xc W' => (xc = .num ∨ xc = .nol) ∧ Ψ (.p (errOf xc)) W'
/-- the body, wherever it is called -/
def LamEv (L : Pl) (U : Ct) (k : Nat) (scope : Scope) (body : Expr) (env : Ev0) (W : Ow) (Ψ : D → Ow → Prop) : Prop :=
  ∀ (A : Around) (outer : List Env) (s : Shared) (Hb : Hp) (f c' : Addr) (G : Hp), (lamV U A outer s Hb scope f c' G (xiOf Ψ) (lamEx U G (xiOf Ψ)) k).Ok → L.Has (lamV U A outer s Hb scope f c' G (xiOf Ψ) (lamEx U G (xiOf Ψ)) k) → Ev (lamV U A outer s Hb scope f c' G (xiOf Ψ) (lamEx U G (xiOf Ψ)) k) body env W Ψ
theorem give_of {L : Pl} {U : Ct} {k : Nat} {params : Arguments} {body : Expr} {scope : Scope} {dk : Option Int} {env : Ev0} {W : Ow} {Ψ : D → Ow → Prop} {σ : L2.St} {G H : Hp} {v : V} {Qv : VK} (hL : L.Has U) (ok : U.Ok) (eg : Ex U.G G) (hs : Hs U.X.K U.C U.T G W H) (sl : Slots U.X.K U.C G σ env)
    (r : Rep U.X.K U.C G v (.sem (LamR U.X params body scope dk))) (Ls : LmS U.X.N U.X.env.scope scope) (Bd : LmB params body scope dk) (h : LamEv L U k scope body env W Ψ) (q : ∀ v G2 H2 d W2, Ex G G2 → Hs U.X.K U.C U.T G2 W2 H2 → U.R G2 v d → Ψ d W2 → Qv v H2) :
    tGive U.X k (TTe U.X.K U.C U.cN U.cL U.cA U.cT) σ v H Qv := by
  obtain ⟨_, G0, e0, lr⟩ := r
  obtain ⟨f, c', dV, rfl, la, da⟩ := lr.up (e0.trans hs.g)
  refine ⟨f, c', dV, params, body, scope, dk, rfl, la, da, Ls, Bd, lamEx U G (xiOf Ψ), fun A outer s Hb hr2 => ?_, fun cls d H' he => ?_⟩
  · exact h A outer s Hb f c' G (lamV_ok ok hr2) (lamV_has hL) σ G H (Ex.refl G) hs sl Qv q
  · obtain ⟨xc, xr, G2, W2, e2, h2, hk, z⟩ := he
    exact ⟨xc, hk, xr, U.T, G2, W2, h2, fun v G3 H3 e3 h3 r3 => q v G3 H3 (.p (errOf xc)) W2 (e2.trans e3) h3 r3 z⟩
section
variable {L : Pl} {U : Ct} {env : Ev0} {W : Ow} {Ψ : D → Ow → Prop} {g : Addr} {k : Nat}
/-- _law_told(e), e a lambda -/
theorem ev_toldS {e : Expr} {p pos : Pos} (hL : L.Has U) (ok : U.Ok) (To : Told U.X "_law_told" "_law_work" g nTold (TTe U.X.K U.C U.cN U.cL U.cA U.cT)) (hg : Gl U.X "_law_told") (hk : k + 2 ≤ U.k)
    (h : Ev U e env W fun d W1 => ∃ params body scope dk, d = .sem (LamR U.X params body scope dk) ∧ LmS U.X.N U.X.env.scope scope ∧ LmB params body scope dk ∧ LamEv L U k scope body env W1 Ψ) (hst : starEach [e] U.X.env = (false, eval e U.X.env) :: starEach [] U.X.env := by rfl) : Ev U (.Call (.Name "_law_told" p) [e] [] pos) env W Ψ :=
  .here (pe_toldV (k := k) To hg (ok.room.mono hk) pa_sem (by decide) hst) fun σ G H eg hs sl Qv q => by
    refine (ea_cons (Ψ := fun ds W1 => ∃ d, ds = [d] ∧ ∃ params body scope dk, d = .sem (LamR U.X params body scope dk) ∧ LmS U.X.N U.X.env.scope scope ∧ LmB params body scope dk ∧ LamEv L U k scope body env W1 Ψ) (h.imp fun d W1 z => ea_nil ⟨d, rfl, z⟩) hst) σ G H eg hs sl _ fun vs G1 H1 ds W1 e1 h1 ra z1 => ?_
    obtain ⟨d, rfl, params, body, scope, dk, rfl, Ls, Bd, hb⟩ := z1
    cases ra with
    | cons r rr =>
      cases rr
      exact ⟨_, rfl, give_of hL ok (eg.trans e1) h1 (sl.mono e1) r Ls Bd hb fun v G2 H2 d W2 e2 h2 r2 z2 => q v G2 H2 d W2 (e1.trans e2) h2 r2 z2⟩
/-- [_law_told(y) for y in e], e an owned list of lambdas, the youngest thing owned -/
theorem ev_lcTold {iter : Expr} {y : Str} {py p p2 pos pos2 : Pos} {scope : Scope} (iy : Nat) (hL : L.Has U) (ok : U.Ok) (To : Told U.X "_law_told" "_law_work" g nTold (TTe U.X.K U.C U.cN U.cL U.cA U.cT)) (hk : k + 2 ≤ U.k) (bok : BlkOk U.X.N U.X.env.scope scope [(y, iy)]) (hy : U.X.N[iy]? = some y) (hlen0 : iy < env.length)
    (hgB : ∀ (s : Shared) (H : Hp) (C : Addr) (cl : List (Str × Addr)) (fp : List Addr), Gl (U.X.blk s H scope (compEnvC scope cl C U.X.env) fp) "_law_told") (hlx : ∀ (C : Addr) (cl : List (Str × Addr)), Loc (compEnvC scope cl C U.X.env).scope y) (hlv : ∀ (C : Addr) (cl : List (Str × Addr)), Vis (compEnvC scope cl C U.X.env).scope y)
    (hlf : ∀ (s : Shared) (H : Hp) (C : Addr) (cl : List (Str × Addr)) (fp : List Addr), (U.X.blk s H scope (compEnvC scope cl C U.X.env) fp).fn y = true ∨ (compEnvC scope cl C U.X.env).scope.names.lookup y = some .local)
    (h : Ev U iter env W fun d W1 => ∃ (a : Addr) (R : Ow) (ds : List D) (rs : Nat → PyData) (Pv : Nat → Ow → Prop), d = .adr a ∧ W1 = (a, .l ds) :: R ∧ ds.length ≤ 1000 ∧ Pv 0 R ∧
      (∀ (i : Nat) (Ri : Ow) (q1 q2 : Addr × OD), i < ds.length → Pv i Ri → ∃ params body scope dk, ds.getD i (.p .none) = .sem (LamR U.X params body scope dk) ∧ LmS U.X.N U.X.env.scope scope ∧ LmB params body scope dk ∧ LamEv L U k scope body env (q1 :: q2 :: Ri) fun d W2 => ∃ R', W2 = q1 :: q2 :: R' ∧ d = .p (rs i) ∧ Pv (i + 1) R') ∧
      ∀ R', Pv ds.length R' → Ψ (.p (.list ((List.range ds.length).map rs))) ((a, .l ds) :: R'))
    (hd : (y == ("__debug__" : Str)) = false := by decide) (hcd : (y == ("__classdict__" : Str)) = false := by decide) (hs : ∀ x, foldedSetIterable iter U.X.env x = pure x := by intro _; rfl)
    (hst : ∀ ce : Env, starEach [Expr.Name y p2] ce = (false, eval (.Name y p2) ce) :: starEach [] ce := by intro _; rfl) :
    Ev U (.ListComp (.Call (.Name "_law_told" p) [.Name y p2] [] pos2) [⟨.Name y py, iter, [], 0⟩] scope pos) env W Ψ := by
  have hr : Room (k + 2) U.X.A := ok.room.mono hk
  refine .here (pe_lcV (own := [(y, iy)]) (te := fun σ σ2 H2 Qv => ∃ v, σ2[iy]? = some (some v) ∧ tGive U.X k (TTe U.X.K U.C U.cN U.cL U.cA U.cT) σ v H2 Qv) ok.calm ok.nd (pi_list pe_sem) bok (fun s H C cl fp => pg_name ok.nd hy (hlx C cl) (hlf s H C cl fp))
    (fun pins σ s H C cl fp I hfp => pe_toldB (k := k) To I hfp hr (hgB s H C cl fp) hy (hlv C cl) (by decide) hd hcd (hst _)) hs) fun σ G H eg h0 sl Q q => h σ G H eg h0 sl _ fun x G1 H1 d1 W1 e1 h1 r1 z1 => ?_
  obtain ⟨a, R, ds, rs, Pv, rfl, rfl, hn, p0, step, fin⟩ := z1
  obtain rfl : x = .ref a := r1
  obtain ⟨o1, ho1, xs, rfl, ra⟩ := Hs.at_ (W1 := []) h1
  have hx : xs.length = ds.length := ra.len
  have h1x : Hs U.X.K U.C U.T G1 ((a, .lx xs ds) :: R) H1 := Hs.as_ (W1 := []) h1 ho1 ⟨rfl, ra⟩
  refine ⟨a, rfl, ⟨xs, SqL.of ho1⟩, ?_⟩
  intro Dl hD
  have sl1 := sl.mono e1
  have atx : ∀ {G' H' : Hp} {A R' : Ow}, Hs U.X.K U.C U.T G' (A ++ (a, .lx xs ds) :: R') H' → H' a = some (.lst xs) := fun hh => by
    obtain ⟨o, ho, eo, _⟩ := hh.at_
    rw [ho, eo]
  refine lc_list (K := U.X.K) (a := a) (xs := xs) (tt := tYes) (te := fun σ2 H2 Qv => ∃ v, σ2[iy]? = some (some v) ∧ tGive U.X k (TTe U.X.K U.C U.cN U.cL U.cA U.cT) σ v H2 Qv) (vs := [iy]) (σ := σ) (Qd := fun H => Q (.ref Dl) H) (fun i H' => ∃ G' R', Ex G1 G' ∧ Pv i R' ∧ Hs U.X.K U.C U.T G' ((Dl, .l (((List.range i).map rs).map .p)) :: (a, .lx xs ds) :: R') H')
    ⟨G1, R, Ex.refl _, p0, h1x.own (u := .l []) hD ⟨[], rfl, .nil⟩⟩ ?_ ?_ ?_
  · rintro i H' _ ⟨G', R', e', _, h'⟩
    exact SqL.of (atx (A := [(Dl, .l (((List.range i).map rs).map .p))]) h')
  · rintro i xv H3 hxv ⟨G', R', e', pv, h'⟩
    have hi : i < ds.length := by
      have := (List.getElem?_eq_some_iff.mp hxv).1
      omega
    have hlen : iy < (wipe σ [iy]).length := by
      rw [wipe_length, sl.1]
      exact hlen0
    refine ⟨?_, ?_⟩
    · exact wipe_same (List.length_set ..) fun j hj => List.getElem?_set_ne fun e => hj (by simp [e])
    · show ∃ v, ((wipe σ [iy]).set iy (some xv))[iy]? = some (some v) ∧ _
      refine ⟨xv, List.getElem?_set_self hlen, ?_⟩
      obtain ⟨params, body, scope', dk, ed, Ls, Bd, hb⟩ := step i R' (Dl, .l (((List.range i).map rs).map .p)) (a, .lx xs ds) hi pv
      have rx : Rep U.X.K U.C G' xv (.sem (LamR U.X params body scope' dk)) := ed ▸ (ra.mono e').nth hxv
      refine give_of hL ok ((eg.trans e1).trans e') h' (sl1.mono e') rx Ls Bd hb fun v G2 H2 d W2 e2 h2 r2 z2 => ?_
      obtain ⟨R2, rfl, rfl, pv2⟩ := z2
      obtain ⟨o, ho, ys, eo, ra7⟩ := Hs.at_ (W1 := []) h2
      rw [eo] at ho
      have hxl : ys.length = i := by rw [ra7.len, List.length_map, List.length_map, List.length_range]
      refine ⟨ys, ho, by rw [hxl]; exact Nat.lt_of_lt_of_le (show i < 10000000 by omega) (by rw [sizeLine_eq]; decide), G2, R2, e'.trans e2, pv2, ?_⟩
      exact Hs.put (W1 := []) (u' := .l (((List.range (i + 1)).map rs).map .p)) h2 ⟨ys ++ [v], rfl, by rw [List.range_succ, List.map_append, List.map_append]; exact ra7.app (.cons r2 .nil)⟩
  · rintro H' ⟨G', R', e', pv, h'⟩
    obtain ⟨o, ho, zs, eo, rz⟩ := Hs.at_ (W1 := []) h'
    rw [eo] at ho
    have hg := Hs.give (W1 := []) h' ho
    have ge := Hs.gave (o := .lst zs) (W1 := []) h'
    rw [hx] at rz pv
    refine q _ _ H' (.p (.list ((List.range ds.length).map rs))) ((a, .l ds) :: R') ((e1.trans e').trans ge) (Hs.as_ (W1 := []) hg (atx (A := []) hg) ⟨xs, rfl, (ra.mono e').mono ge⟩) (show Rp _ _ _ from Rp.lst upd_same (RpAll.mono ge _ _ (RepAll.data rz))) (fin R' pv)
end

end Q
namespace Q
open PySem PySem.Spec PyProof.Rows L2
open Evl (Ex)
/-! ### told, InvalidTimetable too -/
structure ErT (K : PySem.W.Frag) (CS cN cL cA cT : Addr) : Prop where
  ex : PySem.W.exmOne K (.ref cT) (.ref CS) = some true
  ec : ExcC K cT
  kN : PySem.W.kitOne K (.ref cT) (.ref cN) = some false
  kL : PySem.W.kitOne K (.ref cT) (.ref cL) = some false
  kA : PySem.W.kitOne K (.ref cT) (.ref cA) = some false
  kV : PySem.W.kitOne K (.ref cT) (.type "ValueError") = some true
  xf : XfC K cT
  no : PySem.W.findIn K (.ref cT) "index" = some none
theorem kit_selfT {K : PySem.W.Frag} {t : Addr} : PySem.W.kitOne K (.ref t) (.ref t) = some true := by
  unfold PySem.W.kitOne
  rw [if_pos (by simp)]
abbrev errT (i : Int) : PyData := .tuple [.str "error", .str "InvalidTimetable", .int i]
def errOfT : Xc → PyData
  | .num => errN
  | .nol => errL
  | .tab i => errT i
  | .noa => .none
def TTt (K : PySem.W.Frag) (C cN cL cA cT : Addr) : (XK → Hp → VK → Prop) → Hp → VK → Prop := fun tl H Q => ∃ E : XK, tl E H Q ∧ ∀ cls d H', E cls d H' → ∃ xc : Xc, (xc = .num ∨ xc = .nol ∨ ∃ i, xc = .tab i) ∧ XRep cN cL cA cT xc cls d H' ∧
  ∃ (T : List (Addr × Str)) (G : Hp) (W : Ow), Hs K C T G W H' ∧ ∀ v G2 H2, Ex G G2 → Hs K C T G2 W H2 → Rp G2 v (errOfT xc) → Q v H2
section
variable {P : Program} {w : World} {K : PySem.W.Frag} {mg : Str → Option Value} {base : Heap} {g : Addr} {cdg : Value} {A : Around} {outer : List Env} {s : Shared} {H : Hp}
theorem suite_T {a dd : Addr} {ix : Int} {oe : Obj} {pn : List (Addr × Obj)} {T : List (Addr × Str)} {C CS cN cL cA cT : Addr} {G : Hp} {k : Nat} (B : Blt mg) (Er : Errs K mg CS cN cL cA cT) (ErX : ErT K CS cN cL cA cT) (hu : (tdX P w K mg base g cdg A outer s H).A.units + 64 < cLine)
    (hz : Zc (.ref cT) (some dd) oe) (hG : G dd = some (.xd [("index", .int ix)])) (hf : ∃ vs, oe.data = .fields vs) (W : Ow) (Φ : Ke) (hΦ : ∀ q, Φ.rt (.p (errT ix)) (q :: W)) : Wp (suU (tdX P w K mg base g cdg A outer s H) a oe pn T C cN cL cA cT G k) trySuite [none, some (.adr a), none, none] W Φ := by
  have nd : nTold.Nodup := scTold.nd
  have hc : CallR (suU (tdX P w K mg base g cdg A outer s H) a oe pn T C cN cL cA cT G k).X (.builtin "isinstance") (rIsD K cT a dd) := call_isD (X := tdX P w K mg base g cdg A outer s H) ErX.ec hz hf
  refine wp_cons ?_
  refine w_stN nd 2 ?_
  refine ev_lstO ?_
  refine ea_cons ?_
  refine ev_isD hG hc B rfl ?_
  refine ea_cons ?_
  refine ev_nm 1 ?_
  refine ea_cons ?_
  refine ev_globR rfl Er.mT ?_
  refine ea_nil ?_
  refine ⟨_, _, rfl, kit_selfT, ?_⟩
  refine ea_cons ?_
  refine ev_isD hG hc B rfl ?_
  refine ea_cons ?_
  refine ev_nm 1 ?_
  refine ea_cons ?_
  refine ev_globR rfl Er.mN ?_
  refine ea_nil ?_
  refine ⟨_, _, rfl, ErX.kN, ?_⟩
  refine ea_cons ?_
  refine ev_isD hG hc B rfl ?_
  refine ea_cons ?_
  refine ev_nm 1 ?_
  refine ea_cons ?_
  refine ev_globR rfl Er.mL ?_
  refine ea_nil ?_
  refine ⟨_, _, rfl, ErX.kL, ?_⟩
  refine ea_nil ?_
  refine ⟨by simp, fun p => ?_⟩
  refine wp_cons ?_
  refine w_app ?_
  refine ev_nm 2 ?_
  refine ⟨p, [], W, _, rfl, rfl, ?_⟩
  refine ev_isD hG hc B rfl ?_
  refine ea_cons ?_
  refine ev_nm 1 ?_
  refine ea_cons ?_
  refine ev_globR rfl Er.mA ?_
  refine ea_nil ?_
  refine ⟨_, _, rfl, ErX.kA, ?_⟩
  refine ⟨[], W, _, rfl, by show 3 ≤ 1000000; omega, ?_⟩
  refine wp_cons ?_
  refine w_stN nd 3 ?_
  refine ev_if ?_
  refine et_of ?_
  refine ew_and ?_
  refine et_eqN hu ?_
  refine ev_countB ?_
  refine ev_nm 2 ?_
  refine ⟨p, [], W, [true, false, false, false], rfl, rfl, ?_⟩
  refine ev_int ?_
  refine eqD_i (tbool (branch' (fun h => absurd h (by decide)) fun _ => ?_))
  refine ew_one ?_
  refine et_val ?_
  refine ev_isDT hG hc B rfl rfl Er.mV btVE ?_
  refine ev_nm 1 ?_
  refine ⟨true, rfl, ErX.kV, truD_b (branch (fun _ => ?_) fun h => nomatch h)⟩
  refine ev_indexB ?_
  refine ev_nm 2 ?_
  refine ⟨p, [], W, [true, false, false, false], 0, rfl, rfl, rfl, fun m hm => absurd hm (Nat.not_lt_zero _), ?_⟩
  refine wp_cons ?_
  refine w_if ?_
  refine et_eqN hu ?_
  refine ev_nm 3 ?_
  refine ev_int ?_
  refine eqD_i (tbool (branch (fun _ => ?_) fun h => absurd h (by decide)))
  refine wp_one ?_
  refine w_ret ?_
  refine ev_tup ?_
  refine ea_cons ?_
  refine ev_str ?_
  refine ea_cons ?_
  refine ev_str ?_
  refine ea_cons ?_
  refine ev_xf (X := tdX P w K mg base g cdg A outer s H) rfl ErX.xf ErX.no hz hf hG ?_
  refine ev_nm 1 ?_
  refine both rfl ?_
  refine ea_nil ?_
  refine allP_cons (allP_cons (allP_cons (allP_nil ⟨by show 3 ≤ 1000; omega, ?_⟩)))
  exact hΦ _
end
theorem told_givesT {X : Cx} {L : Pl} {C CS cN cL cA cT g : Addr} {cdg : Value} {q : Str} {k : Nat} (B : Blt X.mg) (Er : Errs X.K X.mg CS cN cL cA cT) (ErX : ErT X.K CS cN cL cA cT) (hr : Room (k + 1) X.A) :
    LamX.GivesTo X nTold "_law_told" (defScope sTold) g cdg (defBody sTold) "_law_work" q (TTt X.K C cN cL cA cT) := by
  intro f c' s H Q tl act hc ⟨E, h1, h2⟩
  have hu : (tdX X.prog X.w X.K X.mg X.base g cdg X.A X.stack s H).A.units + 64 < cLine := (hr.deeper (envOfC "_law_told" (defScope sTold) s.heap.objs.size g cdg)).units
  refine ⟨_, pss_one (ps_try_as (X := tdX X.prog X.w X.K X.mg X.base g cdg X.A X.stack s H) (i := 1) (c := .ref CS)
    (tb := fun W D σ H => ∃ Ech : XK, (∀ cls d σ' H', Ech cls d H' → W cls d σ' H') ∧ σ[0]? = some (some (.ref f)) ∧ H c' = some (LamX.CodeO c' q) ∧ tl Ech H D.rt)
    (ts := fun a cls d D σ H' => ∀ (oe : Obj) (pn : List (Addr × Obj)), Zc cls d oe → (∃ vs, oe.data = .fields vs) → SemB ((tdX X.prog X.w X.K X.mg X.base g cdg X.A X.stack s H).suite a ((a, oe) :: pn)) trySuite D σ H')
    rfl rfl scTold.nd rfl rfl ⟨rfl, by decide, .inl Er.mS⟩ LamX.takes0 (fun W pn xe tk _ => ?_) (fun a oe cls d pn hz hf => ⟨fun pins s' σ H' D I h => h oe pn hz hf pins s' I⟩)), ?_⟩
  · refine ⟨fun pins s' σ H' D I h' => ?_⟩
    obtain ⟨Ech, hW, e1, e2, e3⟩ := h'
    exact (pss_one (ps_ret (act W pn xe Ech _ _ tk hW))).run pins s' σ H' D I ⟨e1, e2, e3⟩
  · refine ⟨E, fun cls d σ' H' he => ?_, rfl, hc, h1⟩
    obtain ⟨xc, hxc, xr, T, G, W, hs, hQ⟩ := h2 cls d H' he
    rcases hxc with rfl | rfl | ⟨ix, rfl⟩
    · obtain ⟨rfl, rfl⟩ : cls = .ref cN ∧ d = none := xr
      refine ⟨true, Er.n.ex, fun _ a ha oe pn hz hf pins s' I => ?_, fun hb => nomatch hb⟩
      have sl : Slots X.K C G (σ'.set 1 (some (.ref a))) [none, some (.adr a), none, none] := by
        have hl : (σ'.set 1 (some (V.ref a))).length = 4 := I.len
        refine ⟨hl, fun i d q => ?_⟩
        have hi : i = 1 := by
          match i, q with
          | 0, q => cases q
          | 1, _ => rfl
          | 2, q => cases q
          | 3, q => cases q
          | n + 4, q => simp at q
        subst hi
        cases q
        refine ⟨.ref a, ?_, rfl⟩
        rw [List.getElem?_set_self (by rw [List.length_set] at hl; omega)]
      have z := suite_N (P := X.prog) (w := X.w) (K := X.K) (mg := X.mg) (base := X.base) (g := g) (cdg := cdg) (A := X.A) (outer := X.stack) (s := s) (H := H) (a := a) (oe := oe) (pn := pn) (T := T) (C := C) (G := G) (k := k) B Er hu hz hf W ⟨fun _ _ => False, fun d W2 => d = .p errN ∧ ∃ q, W2 = q :: W, fun _ _ => False, fun _ _ => False⟩ (fun q => ⟨rfl, q, rfl⟩)
      refine z (σ'.set 1 (some (.ref a))) G H' (Ex.refl G) hs sl _ ⟨fun _ _ _ _ _ _ _ _ z => z.elim, fun v G2 H2 d W2 e2 h2' r2 z2 => ?_, fun _ _ _ _ _ _ _ _ z => z.elim, fun _ _ _ _ _ _ _ _ z => z.elim⟩ pins s' I
      obtain ⟨rfl, qq, rfl⟩ := z2
      exact hQ v G2 H2 e2 h2'.tail r2
    · obtain ⟨rfl, rfl⟩ : cls = .ref cL ∧ d = none := xr
      refine ⟨true, Er.l.ex, fun _ a ha oe pn hz hf pins s' I => ?_, fun hb => nomatch hb⟩
      have sl : Slots X.K C G (σ'.set 1 (some (.ref a))) [none, some (.adr a), none, none] := by
        have hl : (σ'.set 1 (some (V.ref a))).length = 4 := I.len
        refine ⟨hl, fun i d q => ?_⟩
        have hi : i = 1 := by
          match i, q with
          | 0, q => cases q
          | 1, _ => rfl
          | 2, q => cases q
          | 3, q => cases q
          | n + 4, q => simp at q
        subst hi
        cases q
        refine ⟨.ref a, ?_, rfl⟩
        rw [List.getElem?_set_self (by rw [List.length_set] at hl; omega)]
      have z := suite_L (P := X.prog) (w := X.w) (K := X.K) (mg := X.mg) (base := X.base) (g := g) (cdg := cdg) (A := X.A) (outer := X.stack) (s := s) (H := H) (a := a) (oe := oe) (pn := pn) (T := T) (C := C) (G := G) (k := k) B Er hu hz hf W ⟨fun _ _ => False, fun d W2 => d = .p errL ∧ ∃ q, W2 = q :: W, fun _ _ => False, fun _ _ => False⟩ (fun q => ⟨rfl, q, rfl⟩)
      refine z (σ'.set 1 (some (.ref a))) G H' (Ex.refl G) hs sl _ ⟨fun _ _ _ _ _ _ _ _ z => z.elim, fun v G2 H2 d W2 e2 h2' r2 z2 => ?_, fun _ _ _ _ _ _ _ _ z => z.elim, fun _ _ _ _ _ _ _ _ z => z.elim⟩ pins s' I
      obtain ⟨rfl, qq, rfl⟩ := z2
      exact hQ v G2 H2 e2 h2'.tail r2
    · obtain ⟨rfl, dd, rfl, hdd⟩ := xr
      refine ⟨true, ErX.ex, fun _ a ha oe pn hz hf pins s' I => ?_, fun hb => nomatch hb⟩
      obtain ⟨ex, hs2⟩ := Hs.adopt hs hdd
      have sl : Slots X.K C (upd G dd (.xd [("index", .int ix)])) (σ'.set 1 (some (.ref a))) [none, some (.adr a), none, none] := by
        have hl : (σ'.set 1 (some (V.ref a))).length = 4 := I.len
        refine ⟨hl, fun i d q => ?_⟩
        have hi : i = 1 := by
          match i, q with
          | 0, q => cases q
          | 1, _ => rfl
          | 2, q => cases q
          | 3, q => cases q
          | n + 4, q => simp at q
        subst hi
        cases q
        refine ⟨.ref a, ?_, rfl⟩
        rw [List.getElem?_set_self (by rw [List.length_set] at hl; omega)]
      have z := suite_T (P := X.prog) (w := X.w) (K := X.K) (mg := X.mg) (base := X.base) (g := g) (cdg := cdg) (A := X.A) (outer := X.stack) (s := s) (H := H) (a := a) (oe := oe) (pn := pn) (T := T) (C := C) (G := upd G dd (.xd [("index", .int ix)])) (k := k) B Er ErX hu hz upd_same hf W ⟨fun _ _ => False, fun d W2 => d = .p (errT ix) ∧ ∃ q, W2 = q :: W, fun _ _ => False, fun _ _ => False⟩ (fun q => ⟨rfl, q, rfl⟩)
      refine z (σ'.set 1 (some (.ref a))) _ H' (Ex.refl _) hs2 sl _ ⟨fun _ _ _ _ _ _ _ _ z => z.elim, fun v G2 H2 d W2 e2 h2' r2 z2 => ?_, fun _ _ _ _ _ _ _ _ z => z.elim, fun _ _ _ _ _ _ _ _ z => z.elim⟩ pins s' I
      obtain ⟨rfl, qq, rfl⟩ := z2
      exact hQ v G2 H2 (ex.trans e2) h2'.tail r2
/-- what the body may tell -/
def xiOfT (Ψ : D → Ow → Prop) : Xc → Ow → Prop := fun xc W' => (xc = .num ∨ xc = .nol ∨ ∃ i, xc = .tab i) ∧ Ψ (.p (errOfT xc)) W'
/-- the body, wherever it is called -/
def LamEvT (L : Pl) (U : Ct) (k : Nat) (scope : Scope) (body : Expr) (env : Ev0) (W : Ow) (Ψ : D → Ow → Prop) : Prop :=
  ∀ (A : Around) (outer : List Env) (s : Shared) (Hb : Hp) (f c' : Addr) (G : Hp), (lamV U A outer s Hb scope f c' G (xiOfT Ψ) (lamEx U G (xiOfT Ψ)) k).Ok → L.Has (lamV U A outer s Hb scope f c' G (xiOfT Ψ) (lamEx U G (xiOfT Ψ)) k) → Ev (lamV U A outer s Hb scope f c' G (xiOfT Ψ) (lamEx U G (xiOfT Ψ)) k) body env W Ψ
theorem give_ofT {L : Pl} {U : Ct} {k : Nat} {params : Arguments} {body : Expr} {scope : Scope} {dk : Option Int} {env : Ev0} {W : Ow} {Ψ : D → Ow → Prop} {σ : L2.St} {G H : Hp} {v : V} {Qv : VK} (hL : L.Has U) (ok : U.Ok) (eg : Ex U.G G) (hs : Hs U.X.K U.C U.T G W H) (sl : Slots U.X.K U.C G σ env)
    (r : Rep U.X.K U.C G v (.sem (LamR U.X params body scope dk))) (Ls : LmS U.X.N U.X.env.scope scope) (Bd : LmB params body scope dk) (h : LamEvT L U k scope body env W Ψ) (q : ∀ v G2 H2 d W2, Ex G G2 → Hs U.X.K U.C U.T G2 W2 H2 → U.R G2 v d → Ψ d W2 → Qv v H2) :
    tGive U.X k (TTt U.X.K U.C U.cN U.cL U.cA U.cT) σ v H Qv := by
  obtain ⟨_, G0, e0, lr⟩ := r
  obtain ⟨f, c', dV, rfl, la, da⟩ := lr.up (e0.trans hs.g)
  refine ⟨f, c', dV, params, body, scope, dk, rfl, la, da, Ls, Bd, lamEx U G (xiOfT Ψ), fun A outer s Hb hr2 => ?_, fun cls d H' he => ?_⟩
  · exact h A outer s Hb f c' G (lamV_ok ok hr2) (lamV_has hL) σ G H (Ex.refl G) hs sl Qv q
  · obtain ⟨xc, xr, G2, W2, e2, h2, hk, z⟩ := he
    exact ⟨xc, hk, xr, U.T, G2, W2, h2, fun v G3 H3 e3 h3 r3 => q v G3 H3 (.p (errOfT xc)) W2 (e2.trans e3) h3 r3 z⟩
section
variable {L : Pl} {U : Ct} {env : Ev0} {W : Ow} {Ψ : D → Ow → Prop} {g : Addr} {k : Nat}
/-- _law_told(e), e a lambda -/
theorem ev_toldT {e : Expr} {p pos : Pos} (hL : L.Has U) (ok : U.Ok) (To : Told U.X "_law_told" "_law_work" g nTold (TTt U.X.K U.C U.cN U.cL U.cA U.cT)) (hg : Gl U.X "_law_told") (hk : k + 2 ≤ U.k)
    (h : Ev U e env W fun d W1 => ∃ params body scope dk, d = .sem (LamR U.X params body scope dk) ∧ LmS U.X.N U.X.env.scope scope ∧ LmB params body scope dk ∧ LamEvT L U k scope body env W1 Ψ) (hst : starEach [e] U.X.env = (false, eval e U.X.env) :: starEach [] U.X.env := by rfl) : Ev U (.Call (.Name "_law_told" p) [e] [] pos) env W Ψ :=
  .here (pe_toldV (k := k) To hg (ok.room.mono hk) pa_sem (by decide) hst) fun σ G H eg hs sl Qv q => by
    refine (ea_cons (Ψ := fun ds W1 => ∃ d, ds = [d] ∧ ∃ params body scope dk, d = .sem (LamR U.X params body scope dk) ∧ LmS U.X.N U.X.env.scope scope ∧ LmB params body scope dk ∧ LamEvT L U k scope body env W1 Ψ) (h.imp fun d W1 z => ea_nil ⟨d, rfl, z⟩) hst) σ G H eg hs sl _ fun vs G1 H1 ds W1 e1 h1 ra z1 => ?_
    obtain ⟨d, rfl, params, body, scope, dk, rfl, Ls, Bd, hb⟩ := z1
    cases ra with
    | cons r rr =>
      cases rr
      exact ⟨_, rfl, give_ofT hL ok (eg.trans e1) h1 (sl.mono e1) r Ls Bd hb fun v G2 H2 d W2 e2 h2 r2 z2 => q v G2 H2 d W2 (e1.trans e2) h2 r2 z2⟩
end
theorem told_ofT {L : Pl} {U : Ct} {CS g : Addr} {fd : FuncData} (ok : U.Ok) (B : Blt U.X.mg) (Er : Errs U.X.K U.X.mg CS U.cN U.cL U.cA U.cT) (ErX : ErT U.X.K CS U.cN U.cL U.cA U.cT) (F : Fun U.X.K "_law_told" "_law_told" sTold g fd) (mT : U.X.mg "_law_told" = some (.ref g)) (hk : 1 ≤ U.k) :
    Told U.X "_law_told" "_law_work" g nTold (TTt U.X.K U.C U.cN U.cL U.cA U.cT) := by
  obtain ⟨oc, od, kV, doc, pm, an, cdv, ct, osl, rfl, lk, hcd⟩ := F.ex
  have bnd := F.binds (ps := ["_law_work"]) fun _ _ _ _ _ _ us hl => match us, hl with | [_], _ => rfl
  exact ⟨⟨_, _, _, _, _, _, _, _, _, _, _, _, _, lk, hcd, bnd, scTold, rfl, Or.inl rfl, told_givesT (L := L) (C := U.C) (k := 0) B Er ErX (ok.room.mono hk)⟩, mT, F.kp, ⟨by decide, by decide⟩⟩

end Q
namespace Q
open PySem PySem.Spec PyProof.Rows L2
open Evl (Ex)
/-! ### the rows of two timetables together, as the law adds them -/
abbrev sSm : Stmt := topS 35
abbrev nSm : List Str := ["_law_one", "_law_two", "_law_size", "_law_rows_here", "_law_k", "_law_mine", "_law_yours", "_law_bad"]
theorem scSm : FnScope nSm ["_law_one", "_law_two"] (defScope sSm) := ⟨rfl, rfl, rfl, by decide +kernel, rfl, by decide +kernel, by decide +kernel⟩
theorem bSm {K : PySem.W.Frag} {f : Addr} {fd : FuncData} (F : Fun K "_law_sum" "_law_sum" sSm f fd) : Binds K fd ["_law_one", "_law_two"] [] := F.binds fun _ _ _ _ _ _ us hl => match us, hl with | [_, _], _ => rfl
def sumD (r1 r2 : List (Int × Int)) : PyData := match badIx (sumRows r1 r2) with
  | some i => errT (i : Nat)
  | none => .tuple ((sumRows r1 r2).map rowD)
theorem sum_len (r1 r2 : List (Int × Int)) : (sumRows r1 r2).length = Nat.lcm r1.length r2.length := by unfold sumRows; rw [List.length_map, List.length_range]
theorem sum_at {r1 r2 : List (Int × Int)} {i : Nat} (h : i < Nat.lcm r1.length r2.length) : (sumRows r1 r2)[i]? = some ((rowAt r1 i).1 + (rowAt r2 i).1, (rowAt r1 i).2 + (rowAt r2 i).2) := by
  unfold sumRows
  rw [List.getElem?_map, List.getElem?_range h] <;> rfl
/-- the first number below n of which p holds -/
theorem filt_first {p : Nat → Bool} {n m : Nat} (hm : m < n) (hp : p m = true) (h : ∀ j, j < m → p j = false) : ∃ rest, (List.range n).filter p = m :: rest := by
  have e : List.range n = List.range m ++ (List.range' m (n - m)) := by
    rw [List.range_eq_range', List.range_eq_range']
    have := List.range'_append_1 (s := 0) (m := m) (n := n - m)
    rw [Nat.zero_add] at this
    rw [this, show m + (n - m) = n by omega]
  have e2 : List.range' m (n - m) = m :: List.range' (m + 1) (n - m - 1) := by
    rw [show n - m = (n - m - 1) + 1 by omega, List.range'_succ] <;> rfl
  have e3 : (List.range m).filter p = [] := by
    rw [List.filter_eq_nil_iff]
    intro a ha
    rw [h a (List.mem_range.mp ha)]
    decide
  exact ⟨(List.range' (m + 1) (n - m - 1)).filter p, by rw [e, e2, List.filter_append, e3, List.nil_append, List.filter_cons_of_pos hp]⟩
theorem filt_none {p : Nat → Bool} {n : Nat} (h : ∀ j, j < n → p j = false) : (List.range n).filter p = [] := by
  rw [List.filter_eq_nil_iff]
  intro a ha
  rw [h a (List.mem_range.mp ha)]
  decide
def bothDv (a b : Nat) (i : Nat) : Bool := decide (((1 : Int) + (i : Nat)) % (a : Nat) = 0) && decide (((1 : Int) + (i : Nat)) % (b : Nat) = 0)
theorem both_first {a b : Nat} (ha : 0 < a) (hb : 0 < b) : ∃ rest, (List.range (a * b)).filter (bothDv a b) = (Nat.lcm a b - 1) :: rest := by
  have hl := Nat.lcm_pos ha hb
  have hle := lcm_le a b
  have dv : ∀ (i c : Nat), ((1 : Int) + (i : Nat)) % (c : Nat) = 0 ↔ c ∣ (i + 1) := fun i c => by
    have e : ((1 : Int) + (i : Nat)) = ((i + 1 : Nat) : Int) := by omega
    rw [e, ← Int.natCast_dvd_natCast]
    exact (Int.dvd_iff_emod_eq_zero).symm
  refine filt_first (by omega) ?_ fun j hj => ?_
  · unfold bothDv
    rw [Bool.and_eq_true, decide_eq_true_eq, decide_eq_true_eq, dv, dv, show Nat.lcm a b - 1 + 1 = Nat.lcm a b by omega]
    exact ⟨Nat.dvd_lcm_left a b, Nat.dvd_lcm_right a b⟩
  · unfold bothDv
    refine Bool.eq_false_iff.mpr fun z => ?_
    rw [Bool.and_eq_true, decide_eq_true_eq, decide_eq_true_eq, dv, dv] at z
    have := Nat.le_of_dvd (by omega) (Nat.lcm_dvd z.1 z.2)
    omega
theorem rowB_max {c b : Int} (hc : 0 ≤ c) (hb : 0 ≤ b) : rowB (c, b) = !decide (9 < max c b) := by
  unfold rowB
  simp only [isNum]
  by_cases h1 : c ≤ 9 <;> by_cases h2 : b ≤ 9
  · simp [hc, hb, h1, h2]; omega
  · have : ¬ max c b ≤ 9 := by omega
    simp [hc, hb, h1, h2]; omega
  · simp [hc, hb, h1, h2]; omega
  · simp [hc, hb, h1, h2]; omega
theorem bad_filt {rows : List (Int × Int)} {n : Nat} (hn : rows.length = n) (p : Nat → Bool) (hp : ∀ (i : Nat) (r : Int × Int), rows[i]? = some r → p i = !rowB r) :
    (badIx rows = none ∧ (List.range n).filter p = []) ∨ ∃ (i : Nat) (rest : List Nat), badIx rows = some i ∧ i < n ∧ (List.range n).filter p = i :: rest := by
  cases hb : badIx rows with
  | none =>
    refine .inl ⟨rfl, filt_none fun j hj => ?_⟩
    obtain ⟨r, hr⟩ := lt_some (l := rows) (i := j) (by omega)
    unfold badIx at hb
    rw [List.findIdx?_eq_none_iff] at hb
    rw [hp j r hr]
    exact hb r (List.mem_of_getElem? hr)
  | some i =>
    unfold badIx at hb
    rw [List.findIdx?_eq_some_iff_getElem] at hb
    obtain ⟨hl, h1, h2⟩ := hb
    obtain ⟨rest, e⟩ := filt_first (p := p) (n := n) (m := i) (by omega) (by rw [hp i _ (List.getElem?_eq_getElem hl)]; exact h1) fun j hj => by
      rw [hp j _ (List.getElem?_eq_getElem (by omega))]
      exact Bool.eq_false_iff.mpr (h2 j hj)
    exact .inr ⟨i, rest, rfl, by omega, e⟩

end Q
namespace Q
open PySem PySem.Spec PyProof.Rows L2
open Evl (Ex)
theorem at_zero {α : Type} {x : α} {xs : List α} : atI (x :: xs) 0 = some x := by
  unfold atI ixN
  rw [if_pos (by decide), if_pos (by simp)]
  rfl
def cSm : Con := fun ds W Ψ Ξ => ∃ r1 r2, ds = [.p (.list (r1.map rowD)), .p (.list (r2.map rowD))] ∧ rowsOk r1 ∧ rowsOk r2 ∧ Nat.lcm r1.length r2.length ≤ 24 ∧ Ψ (.p (sumD r1 r2)) W
theorem eqD_listN {f : Bool → Bool} {ns : List Int} {k : D → Prop} (q : k (.p (.bool (f (decide (ns = [])))))) : EqD f (.p (.list (ns.map .int))) (.p (.list [])) k := by
  refine ⟨sh_ints ns, sh_ints [], ?_⟩
  have e : PyData.eqv (.list (ns.map PyData.int)) (.list []) = decide (ns = []) := by
    rw [show PyData.eqv (.list (ns.map PyData.int)) (.list []) = PyData.eqvAll (ns.map PyData.int) (([] : List Int).map PyData.int) by simp only [PyData.eqv, List.map_nil]]
    exact eqvAll_map eqv_int ns []
  rw [e]
  exact q
theorem okSm {L : Pl} {f : Addr} {fd : FuncData} (B : Blt L.mg) (F : Fun L.K "_law_sum" "_law_sum" sSm f fd) : FnC L 1 f cSm := by
  refine fn_body F scSm (bSm F) (fun ds W Ψ Ξ ⟨_, _, h, _⟩ => by rw [h] <;> rfl) ?_
  rintro U hL ok hk ⟨f', cd, A, outer, s, H, E, T, G, Ξ, rfl⟩ ds W Ψ ⟨r1, r2, rfl, h1, h2, h24, k⟩
  have l1 := h1.1
  have l2 := h2.1
  have m1 := h1.2.1
  have m2 := h2.2.1
  have hle : r1.length * r2.length ≤ 576 := Nat.mul_le_mul m1 m2
  have hl0 := Nat.lcm_pos l1 l2
  have hl2 := lcm_le r1.length r2.length
  have ll : ∀ r : List (Int × Int), (r.map rowD).length = r.length := fun r => List.length_map _
  refine wp_cons ?_
  refine w_st ok 2 ?_
  refine ev_ix ?_
  refine ev_lc ok [("_law_k", 4)] [4] (by simp) (blkOk_by (by rfl)) (by decide) (lc_if ?_)
  refine ei_rng2 B rfl ?_
  refine ea_cons ?_
  refine ev_int ?_
  refine ea_cons ?_
  refine ev_add ?_
  refine ev_int ?_
  refine ev_mul ?_
  refine ev_len B rfl ?_
  refine ea_cons ?_
  refine ev_nm 0 ?_
  refine ea_nil ?_
  refine lenD_l ?_
  refine ev_len B rfl ?_
  refine ea_cons ?_
  refine ev_nm 1 ?_
  refine ea_nil ?_
  refine lenD_l ?_
  rw [ll, ll]
  refine mulD_r ⟨by omega, by omega⟩ ?_
  refine addD_i ?_
  refine ea_nil ?_
  have en : ((r1.length : Nat) : Int) * ((r2.length : Nat) : Int) = ((r1.length * r2.length : Nat) : Int) := (Int.natCast_mul _ _).symm
  rw [en]
  refine ⟨1, _, rfl, ⟨by omega, by omega, by omega, by omega⟩, ?_⟩
  rw [show (1 + ((r1.length * r2.length : Nat) : Int) - 1).toNat = r1.length * r2.length by omega]
  refine ⟨fun i => [some (.p (.list (r1.map rowD))), some (.p (.list (r2.map rowD))), none, none, some (.p (.int (1 + (i : Nat)))), none, none, none], bothDv r1.length r2.length, fun i => .int (1 + (i : Nat)), by omega, ?_, ?_, ?_, ?_⟩
  · intro s H C cl fp i Wi hi
    refine eg_nm ok.blk 4 ?_
    exact ⟨rfl, rfl⟩
  · intro s H C cl fp i Wi hi
    refine et_of ?_
    refine ew_and ?_
    refine et_eq ok.blk ?_
    refine ev_mod ?_
    refine ev_toint B rfl ?_
    refine ea_cons ?_
    refine ev_nm 4 ?_
    refine ea_nil ?_
    refine int1_i ?_
    refine ev_len B rfl ?_
    refine ea_cons ?_
    refine ev_nm 0 ?_
    refine ea_nil ?_
    refine lenD_l ?_
    rw [ll]
    refine modD (by omega) ?_
    refine ev_int ?_
    refine eqD_i (tbool (branch' (fun hb => ?_) fun hb => ?_))
    · have hb' : decide (((1 : Int) + (i : Nat)) % (r1.length : Nat) = 0) = false := hb
      refine ⟨?_, rfl⟩
      unfold bothDv
      rw [hb']
      rfl
    have hb' : decide (((1 : Int) + (i : Nat)) % (r1.length : Nat) = 0) = true := hb
    refine ew_one ?_
    refine et_eq ok.blk ?_
    refine ev_mod ?_
    refine ev_toint B rfl ?_
    refine ea_cons ?_
    refine ev_nm 4 ?_
    refine ea_nil ?_
    refine int1_i ?_
    refine ev_len B rfl ?_
    refine ea_cons ?_
    refine ev_nm 1 ?_
    refine ea_nil ?_
    refine lenD_l ?_
    rw [ll]
    refine modD (by omega) ?_
    refine ev_int ?_
    refine eqD_i (tbool ⟨?_, rfl⟩)
    unfold bothDv
    rw [hb']
    rfl
  · intro s H C cl fp i Wi hi hb
    refine ev_nm 4 ?_
    exact ⟨rfl, rfl⟩
  obtain ⟨rest, er⟩ := both_first l1 l2
  rw [er]
  refine ev_int ?_
  refine getD_l (d := .int (1 + ((Nat.lcm r1.length r2.length - 1 : Nat) : Int))) (by rw [List.map_cons]; exact at_zero) ?_
  rw [show (1 : Int) + ((Nat.lcm r1.length r2.length - 1 : Nat) : Int) = ((Nat.lcm r1.length r2.length : Nat) : Int) by omega]
  generalize en : Nat.lcm r1.length r2.length = n at *
  refine wp_cons ?_
  refine w_st ok 3 ?_
  refine ev_lstO ?_
  refine ea_nil ?_
  refine ⟨by simp, fun q => ?_⟩
  refine wp_cons ?_
  refine w_for ok [4] ?_
  refine ei_rng1 B rfl ?_
  refine ea_cons ?_
  refine ev_nm 2 ?_
  refine ea_nil ?_
  refine ⟨_, rfl, by omega, by omega, ?_⟩
  rw [Int.toNat_natCast]
  refine ⟨fun i env' W' => W' = (q, rowsO ((sumRows r1 r2).take i)) :: W ∧ ∃ x4 x5 x6, env' = [some (.p (.list (r1.map rowD))), some (.p (.list (r2.map rowD))), some (.p (.int (n : Nat))), some (.adr q), x4, x5, x6, none], ⟨rfl, _, _, _, rfl⟩, ?_, ?_⟩
  · rintro i env' W' hi ⟨rfl, x4, x5, x6, rfl⟩
    refine eg_nm ok 4 ?_
    refine wp_cons ?_
    refine w_par ok 5 6 rfl rfl (by decide) rfl rfl ?_
    refine ea_cons ?_
    refine ev_ix ?_
    refine ev_nm 0 ?_
    refine ev_mod ?_
    refine ev_toint B rfl ?_
    refine ea_cons ?_
    refine ev_nm 4 ?_
    refine ea_nil ?_
    refine int1_i ?_
    refine ev_len B rfl ?_
    refine ea_cons ?_
    refine ev_nm 0 ?_
    refine ea_nil ?_
    refine lenD_l ?_
    rw [ll]
    refine modD (by omega) ?_
    refine getD_l (rowAt_i h1 i) ?_
    refine ea_cons ?_
    refine ev_ix ?_
    refine ev_nm 1 ?_
    refine ev_mod ?_
    refine ev_toint B rfl ?_
    refine ea_cons ?_
    refine ev_nm 4 ?_
    refine ea_nil ?_
    refine int1_i ?_
    refine ev_len B rfl ?_
    refine ea_cons ?_
    refine ev_nm 1 ?_
    refine ea_nil ?_
    refine lenD_l ?_
    rw [ll]
    refine modD (by omega) ?_
    refine getD_l (rowAt_i h2 i) ?_
    refine ea_nil ?_
    refine ⟨_, _, rfl, ?_⟩
    refine wp_one ?_
    refine w_app ?_
    refine ev_nm 3 ?_
    refine ⟨q, [], W, _, rfl, rfl, ?_⟩
    refine ev_tup ?_
    refine ea_cons ?_
    refine ev_add ?_
    refine ev_ix ?_
    refine ev_nm 5 ?_
    refine ev_int ?_
    refine getD_t (d := .int (rowAt r1 i).1) rfl ?_
    refine ev_ix ?_
    refine ev_nm 6 ?_
    refine ev_int ?_
    refine getD_t (d := .int (rowAt r2 i).1) rfl ?_
    refine addD_i ?_
    refine ea_cons ?_
    refine ev_add ?_
    refine ev_ix ?_
    refine ev_nm 5 ?_
    refine ev_int ?_
    refine getD_t (d := .int (rowAt r1 i).2) rfl ?_
    refine ev_ix ?_
    refine ev_nm 6 ?_
    refine ev_int ?_
    refine getD_t (d := .int (rowAt r2 i).2) rfl ?_
    refine addD_i ?_
    refine ea_nil ?_
    refine allP_cons (allP_cons (allP_nil ⟨by show 2 ≤ 1000; omega, ?_⟩))
    have hi' : i < Nat.lcm r1.length r2.length := by omega
    refine ⟨[], W, _, rfl, by rw [List.length_map, List.length_map, List.length_take]; omega, ?_⟩
    refine ⟨?_, _, _, _, rfl⟩
    rw [take_one (sum_at hi')]
    simp [rowsO]
  rintro env' W' ⟨rfl, x4, x5, x6, rfl⟩
  have es : (sumRows r1 r2).take n = sumRows r1 r2 := by rw [← en, ← sum_len, List.take_length]
  rw [es]
  have esl : (sumRows r1 r2).length = n := by rw [sum_len, en]
  refine wp_give (L := []) 3 rfl ?_
  refine wp_cons ?_
  refine w_setLc ok 7 [("_law_k", 4)] [4] rfl rfl (by simp) (blkOk_by (by rfl)) (by decide) (sw_true rfl rfl rfl (by decide +kernel)) (lc_if ?_)
  refine ei_rng1 B rfl ?_
  refine ea_cons ?_
  refine ev_nm 2 ?_
  refine ea_nil ?_
  refine ⟨_, rfl, by omega, by omega, ?_⟩
  rw [Int.toNat_natCast]
  have hat : ∀ i : Nat, i < n → ∃ c b : Int, (sumRows r1 r2)[i]? = some (c, b) ∧ 0 ≤ c ∧ 0 ≤ b := fun i hi => by
    obtain ⟨_, a1, a2, a3, a4⟩ := row_ok h1 i
    obtain ⟨_, b1, b2, b3, b4⟩ := row_ok h2 i
    exact ⟨_, _, sum_at (by omega), by omega, by omega⟩
  refine ⟨fun i => [some (.p (.list (r1.map rowD))), some (.p (.list (r2.map rowD))), some (.p (.int (n : Nat))), some (.p (.list ((sumRows r1 r2).map rowD))), some (.p (.int (i : Nat))), x5, x6, none], fun i => !rowB ((sumRows r1 r2).getD i (0, 0)), fun i => .int (i : Nat), by omega, ?_, ?_, ?_, ?_⟩
  · intro s H C cl fp i Wi hi
    refine eg_nm ok.blk 4 ?_
    exact ⟨rfl, rfl⟩
  · intro s H C cl fp i Wi hi
    obtain ⟨c, b, hr, c0, b0⟩ := hat i hi
    have eg : (sumRows r1 r2).getD i (0, 0) = (c, b) := by rw [List.getD_eq_getElem?_getD, hr] <;> rfl
    refine et_of ?_
    refine ew_or ?_
    refine et_eq ok.blk ?_
    refine ev_nm 4 ?_
    refine ev_int ?_
    refine eqD_i (tbool (branch (fun h => ?_) fun _ => ?_))
    · have h' : (i : Int) = 24 := of_decide_eq_true h
      omega
    refine ew_one ?_
    refine et_gt ?_
    refine ev_maxP ok.blk B rfl ?_
    refine ea_cons ?_
    refine ev_ix ?_
    refine ev_nm 3 ?_
    refine ev_nm 4 ?_
    refine getD_l (d := rowD (c, b)) (at_map (x := (c, b)) (by unfold atI ixN; rw [if_pos (by omega), if_pos (by omega)]; exact hr)) ?_
    refine ea_nil ?_
    refine ⟨c, b, rfl, ?_⟩
    refine ev_int ?_
    refine cmpD ⟨?_, rfl⟩
    show decide (9 < max c b) = !rowB ((sumRows r1 r2).getD i (0, 0))
    rw [eg, rowB_max c0 b0, Bool.not_not]
  · intro s H C cl fp i Wi hi hb
    refine ev_nm 4 ?_
    exact ⟨rfl, rfl⟩
  have hp : ∀ (i : Nat) (r : Int × Int), (sumRows r1 r2)[i]? = some r → (!rowB ((sumRows r1 r2).getD i (0, 0))) = !rowB r := fun i r hr => by
    rw [show (sumRows r1 r2).getD i (0, 0) = r by rw [List.getD_eq_getElem?_getD, hr] <;> rfl]
  refine wp_one ?_
  refine w_ret ?_
  refine ev_if ?_
  refine et_ne ok ?_
  refine ev_nm 7 ?_
  refine ev_lst ?_
  refine ea_nil ?_
  refine allP_nil ⟨by show 0 ≤ 1000; omega, ?_⟩
  have em : ∀ l : List Nat, l.map (fun i : Nat => PyData.int (i : Nat)) = (l.map fun i : Nat => (i : Int)).map PyData.int := fun l => by rw [List.map_map] <;> rfl
  rw [em]
  refine eqD_listN (tbool ?_)
  rcases bad_filt esl (fun i => !rowB ((sumRows r1 r2).getD i (0, 0))) hp with ⟨hb, ef⟩ | ⟨i, rest, hb, hi, ef⟩
  · have eS : sumD r1 r2 = .tuple ((sumRows r1 r2).map rowD) := by unfold sumD; rw [hb]
    rw [eS] at k
    rw [ef]
    refine branch (fun h => nomatch h) fun _ => ?_
    refine ev_tuple B rfl ?_
    refine ea_cons ?_
    refine ev_nm 3 ?_
    refine ea_nil ?_
    exact tupOf_l k
  · have eS : sumD r1 r2 = errT (i : Nat) := by unfold sumD; rw [hb]
    rw [eS] at k
    rw [ef]
    refine branch (fun _ => ?_) fun h => nomatch h
    refine ev_tup ?_
    refine ea_cons ?_
    refine ev_str ?_
    refine ea_cons ?_
    refine ev_str ?_
    refine ea_cons ?_
    refine ev_ix ?_
    refine ev_nm 7 ?_
    refine ev_int ?_
    refine getD_l (d := .int (i : Nat)) (by rw [List.map_cons, List.map_cons]; exact at_zero) ?_
    refine ea_nil ?_
    exact allP_cons (allP_cons (allP_cons (allP_nil ⟨by show 3 ≤ 1000; omega, k⟩)))

end Q
namespace Q
open PySem PySem.Spec PyProof.Rows L2
open Evl (Ex)
/-! ### _law_bad_rows -/
abbrev sBR : Stmt := topS 34
abbrev nBR : List Str := ["_law_d", "_law_rows_here", "_law_k", "_law_odd", "_law_one", "_law_two", "_law_three", "_law_four", "_law_work"]
theorem scBR : FnScope nBR ["_law_d", "_law_rows_here"] (defScope sBR) := ⟨rfl, rfl, rfl, by decide +kernel, rfl, by decide +kernel, by decide +kernel⟩
abbrev qBR : Str := (envOfC "_law_bad_rows" (defScope sBR) 0 0 .none).qual ++ "<lambda>"
def PTab (P2 : Addr) : List (Addr × Str) → Prop := fun T => (P2, qBR) ∈ T ∧ ∀ y ∈ T, y.1 = P2 → y.2 = qBR
def cBR : Con := fun ds W Ψ Ξ => ∃ (a : Addr) (r : List (Int × Int)) (Lw Rw : Ow) (u : OD), ds = [.adr a, .p (.list (r.map rowD))] ∧ rowsOk r ∧ r.length ≤ 3 ∧ W = Lw ++ (a, u) :: Rw ∧ isDice u ∧ ∀ (Lw' : Ow) (u' : OD), isDice u' → Ψ (.p (.bool true)) (Lw' ++ (a, u') :: Rw)
theorem sh_errT (i : Int) : SeqAt.shaped (errT i) = true := by
  unfold SeqAt.shaped
  simp [PyData.canLay0, PyData.canLayAll0, PyData.depth, PyData.depthAll]
  exact ⟨by decide +kernel, by decide +kernel⟩
def oddL : List PyData := [.tuple [.int 10, .int 0], .tuple [.int 0, .int 10], .tuple [.int (-1), .int 0], .tuple [.int 0, .bool true], .tuple [.int 1], .tuple [.int 1, .int 1, .int 1], .list [.int 1, .int 1], .none, .tuple [.int 1, .str "1"], .str "11"]
theorem odd_bad {x : PyData} (h : x ∈ oddL) : rowBD x = false ∧ rowKind x := by
  unfold oddL at h
  simp only [List.mem_cons, List.not_mem_nil, or_false] at h
  rcases h with rfl | rfl | rfl | rfl | rfl | rfl | rfl | rfl | rfl | rfl
  all_goals refine ⟨by first | rfl | decide, ?_⟩
  all_goals first | exact True.intro | exact fun x hx => by (simp at hx; rcases hx with rfl | rfl | rfl <;> rfl) | exact fun x hx => by (simp at hx; rcases hx with rfl | rfl <;> rfl) | exact fun x hx => by (simp at hx; subst hx; rfl)
theorem bad_in {r : List (Int × Int)} {x : PyData} {k : Nat} (hr : rowsOk r) (h3 : r.length ≤ 3) (hk : k ≤ r.length) (hx : x ∈ oddL) : BadAt ((r.map rowD).take k ++ x :: (r.map rowD).drop k) k := by
  have lk : ((r.map rowD).take k).length = k := by rw [List.length_take, List.length_map]; omega
  have at_ : ∀ j, j < k → ((r.map rowD).take k ++ x :: (r.map rowD).drop k).getD j .none = (r.map rowD).getD j .none := fun j hj => by
    rw [List.getD_eq_getElem?_getD, List.getElem?_append_left (by omega), List.getElem?_take_of_lt hj, ← List.getD_eq_getElem?_getD]
  refine ⟨by rw [List.length_append, lk, List.length_cons]; omega, .inr ?_, fun j hj => ⟨by omega, ?_⟩, fun d hd => ?_⟩
  · rw [List.getD_eq_getElem?_getD, List.getElem?_append_right (by omega), lk, Nat.sub_self]
    exact (odd_bad hx).1
  · rw [at_ j hj]
    obtain ⟨q, hq⟩ := lt_some (l := r) (i := j) (by omega)
    have e : (r.map rowD).getD j .none = rowD q := by rw [List.getD_eq_getElem?_getD, List.getElem?_map, hq] <;> rfl
    rw [e]
    obtain ⟨a1, a2, a3, a4⟩ := hr.2.2 q (List.mem_of_getElem? hq)
    show (isNum 0 9 (.int q.1) && isNum 0 9 (.int q.2)) = true
    rw [isNum_in a1 a2, isNum_in a3 a4]
    rfl
  · have rk : ∀ d ∈ r.map rowD, rowKind d := fun d hd => by
      obtain ⟨q, _, rfl⟩ := List.mem_map.mp hd
      exact fun x hx => by
        have hx : x = .int q.1 ∨ x = .int q.2 := by simpa using hx
        rcases hx with rfl | rfl <;> rfl
    rcases List.mem_append.mp hd with z | z
    · exact rk d (List.mem_of_mem_take z)
    · rcases List.mem_cons.mp z with rfl | z
      · exact (odd_bad hx).2
      · exact rk d (List.mem_of_mem_drop z)
theorem cut_dropK {xs : List PyData} {k : Nat} (h : k ≤ xs.length) : cutD xs (some ((k : Nat) : Int)) none = xs.drop k := by
  unfold cutD
  rw [HT.sIx_nat, HT.sIx_none, Nat.min_eq_left h, List.take_of_length_le (by rw [List.length_drop]; omega)]
theorem four {R : List PyData} {x : PyData} {k : Nat} (hk : k ≤ R.length) (h0 : 0 < R.length) (h3 : R.length ≤ 3) : ∃ d1 d2 d3 d4, cutD (cutD R none (some ((k : Nat) : Int)) ++ [x] ++ cutD R (some ((k : Nat) : Int)) none ++ [.int 0, .int 0, .int 0]) none (some 4) = [d1, d2, d3, d4] ∧
    (R.length = 1 → [d1, d2] = R.take k ++ x :: R.drop k) ∧ (R.length = 2 → [d1, d2, d3] = R.take k ++ x :: R.drop k) ∧ (R.length = 3 → [d1, d2, d3, d4] = R.take k ++ x :: R.drop k) := by
  have e1 : cutD R none (some ((k : Nat) : Int)) = R.take k := by
    have := cut_take (xs := R) (k := (k : Nat)) (by omega) (by omega)
    rw [this, Int.toNat_natCast]
  have e4 : ∀ L : List PyData, 4 ≤ L.length → cutD L none (some 4) = L.take 4 := fun L hL => cut_take (k := 4) (by omega) (by omega)
  rw [e1, cut_dropK hk, e4 _ (by simp; omega)]
  match R, k, hk, h0, h3 with
  | [a], 0, _, _, _ => exact ⟨_, _, _, _, rfl, (fun _ => rfl), (fun h => absurd h (by simp)), (fun h => absurd h (by simp))⟩
  | [a], 1, _, _, _ => exact ⟨_, _, _, _, rfl, (fun _ => rfl), (fun h => absurd h (by simp)), (fun h => absurd h (by simp))⟩
  | [a, b], 0, _, _, _ => exact ⟨_, _, _, _, rfl, (fun h => absurd h (by simp)), (fun _ => rfl), (fun h => absurd h (by simp))⟩
  | [a, b], 1, _, _, _ => exact ⟨_, _, _, _, rfl, (fun h => absurd h (by simp)), (fun _ => rfl), (fun h => absurd h (by simp))⟩
  | [a, b], 2, _, _, _ => exact ⟨_, _, _, _, rfl, (fun h => absurd h (by simp)), (fun _ => rfl), (fun h => absurd h (by simp))⟩
  | [a, b, c], 0, _, _, _ => exact ⟨_, _, _, _, rfl, (fun h => absurd h (by simp)), (fun h => absurd h (by simp)), (fun _ => rfl)⟩
  | [a, b, c], 1, _, _, _ => exact ⟨_, _, _, _, rfl, (fun h => absurd h (by simp)), (fun h => absurd h (by simp)), (fun _ => rfl)⟩
  | [a, b, c], 2, _, _, _ => exact ⟨_, _, _, _, rfl, (fun h => absurd h (by simp)), (fun h => absurd h (by simp)), (fun _ => rfl)⟩
  | [a, b, c], 3, _, _, _ => exact ⟨_, _, _, _, rfl, (fun h => absurd h (by simp)), (fun h => absurd h (by simp)), (fun _ => rfl)⟩
  | [], _, _, h0, _ => exact absurd h0 (by decide)
  | [a], n + 2, h, _, _ => exact absurd h (by simp)
  | [a, b], n + 3, h, _, _ => exact absurd h (by simp)
  | [a, b, c], n + 4, h, _, _ => exact absurd h (by simp)
  | a :: b :: c :: d :: R, _, _, _, h => exact absurd h (by simp)

end Q
namespace Q
open PySem PySem.Spec PyProof.Rows L2
open Evl (Ex)
theorem brEq {L : Pl} {f c P2 gt CS fi : Addr} {oc kV doc pm ct : Value} {od an : Option Addr} {osl : Array (Option Value)} {fdT : FuncData}
    (lk : L.K.lookup f = some ⟨oc, od, .func (PySem.W.fnOf "_law_bad_rows" "_law_bad_rows" (defArgs sBR) (defBody sBR) (defScope sBR) .none kV doc pm an (.ref c) ct), osl⟩) (hcd : PySem.W.codeIn L.K (.ref c) "_law_bad_rows" = true) (kp : PySem.W.keepIn L.K (.ref f) = true) (TB : LamX.TabB L.base L.mg c P2)
    (B : Blt L.mg) (Er : Errs L.K L.mg CS L.cN L.cL L.cA L.cT) (ErX : ErT L.K CS L.cN L.cL L.cA L.cT) (FT : Fun L.K "_law_told" "_law_told" sTold gt fdT) (mT : L.mg "_law_told" = some (.ref gt)) (mC : L.mg "Timetable" = some (.ref L.C)) (M : Mk L.K L.C fi) (FI : FnR L.P L.w L.K L.mg L.base (L2.CX L.P L.w) 4 fi (starSp (spG L (cInitB L.C))))
    (dN : DefC L "_law_next" 1 cNext) (dP : DefC L "_law_pick" 2 cPick) : FnR L.P L.w L.K L.mg L.base (L2.CX L.P L.w) 8 f (spGT L (PTab P2) cBR) := by
  refine fn_bodyT (PT := PTab P2) lk hcd scBR ((fun_mk (x := "_law_bad_rows") (st := sBR) lk hcd kp).binds fun _ _ _ _ _ _ us hl => match us, hl with | [_, _], _ => rfl) (fun ds W Ψ Ξ ⟨_, _, _, _, _, h, _⟩ => by rw [h] <;> rfl) ?_
  rintro U hL ok hPT hk ⟨A, outer, s, H, E, T, G, Ξ, rfl⟩ ds W Ψ ⟨a, r, Lw, Rw, u, rfl, hr, h3, rfl, hu, k⟩
  have h0 := hr.1
  obtain ⟨hT, hq⟩ := hPT
  have hTo := told_ofT (L := L) ok B Er ErX FT mT (by show 1 ≤ 7; omega)
  have ll : (r.map rowD).length = r.length := List.length_map _
  refine wp_cons ?_
  refine w_st ok 2 ?_
  refine ev_call hL ok dN (by show 1 ≤ 7; omega) rfl ?_
  refine ea_cons ?_
  refine ev_nm 0 ?_
  refine ea_cons ?_
  refine ev_add ?_
  refine ev_len B rfl ?_
  refine ea_cons ?_
  refine ev_nm 1 ?_
  refine ea_nil ?_
  refine lenD_l ?_
  rw [ll]
  refine ev_int ?_
  refine addD_i ?_
  refine ea_nil ?_
  refine ⟨a, _, Lw, Rw, u, rfl, by omega, log2_int (by omega) (by omega), rfl, hu, fun kk u2 k0 k1 hu2 => ?_⟩
  obtain ⟨n, rfl⟩ := Int.eq_ofNat_of_zero_le k0
  refine wp_cons ?_
  refine w_st ok 3 ?_
  refine ev_lst ?_
  refine ea_cons ?_
  refine ev_tup ?_
  refine ea_cons ?_
  refine ev_int ?_
  refine ea_cons ?_
  refine ev_int ?_
  refine ea_nil ?_
  refine allP_cons (allP_cons (allP_nil ⟨by show 2 ≤ 1000; omega, ?_⟩))
  refine ea_cons ?_
  refine ev_tup ?_
  refine ea_cons ?_
  refine ev_int ?_
  refine ea_cons ?_
  refine ev_int ?_
  refine ea_nil ?_
  refine allP_cons (allP_cons (allP_nil ⟨by show 2 ≤ 1000; omega, ?_⟩))
  refine ea_cons ?_
  refine ev_tup ?_
  refine ea_cons ?_
  refine ev_neg ?_
  refine ev_int ?_
  refine negD ?_
  refine ea_cons ?_
  refine ev_int ?_
  refine ea_nil ?_
  refine allP_cons (allP_cons (allP_nil ⟨by show 2 ≤ 1000; omega, ?_⟩))
  refine ea_cons ?_
  refine ev_tup ?_
  refine ea_cons ?_
  refine ev_int ?_
  refine ea_cons ?_
  refine ev_bl ?_
  refine ea_nil ?_
  refine allP_cons (allP_cons (allP_nil ⟨by show 2 ≤ 1000; omega, ?_⟩))
  refine ea_cons ?_
  refine ev_tup ?_
  refine ea_cons ?_
  refine ev_int ?_
  refine ea_nil ?_
  refine allP_cons (allP_nil ⟨by show 1 ≤ 1000; omega, ?_⟩)
  refine ea_cons ?_
  refine ev_tup ?_
  refine ea_cons ?_
  refine ev_int ?_
  refine ea_cons ?_
  refine ev_int ?_
  refine ea_cons ?_
  refine ev_int ?_
  refine ea_nil ?_
  refine allP_cons (allP_cons (allP_cons (allP_nil ⟨by show 3 ≤ 1000; omega, ?_⟩)))
  refine ea_cons ?_
  refine ev_lst ?_
  refine ea_cons ?_
  refine ev_int ?_
  refine ea_cons ?_
  refine ev_int ?_
  refine ea_nil ?_
  refine allP_cons (allP_cons (allP_nil ⟨by show 2 ≤ 1000; omega, ?_⟩))
  refine ea_cons ?_
  refine ev_non ?_
  refine ea_cons ?_
  refine ev_tup ?_
  refine ea_cons ?_
  refine ev_int ?_
  refine ea_cons ?_
  refine ev_str ?_
  refine ea_nil ?_
  refine allP_cons (allP_cons (allP_nil ⟨by show 2 ≤ 1000; omega, ?_⟩))
  refine ea_cons ?_
  refine ev_str ?_
  refine ea_nil ?_
  refine allP_cons (allP_cons (allP_cons (allP_cons (allP_cons (allP_cons (allP_cons (allP_cons (allP_cons (allP_cons (allP_nil ⟨by show 10 ≤ 1000; omega, ?_⟩))))))))))
  refine wp_cons ?_
  refine w_asg ([4] ++ ([5] ++ ([6] ++ ([7] ++ [])))) ?_
  refine ev_slice ?_
  refine ev_add ?_
  refine ev_add ?_
  refine ev_add ?_
  refine ev_slice ?_
  refine ev_nm 1 ?_
  refine evo_none ?_
  refine ev_nm 2 ?_
  refine ⟨_, rfl, ?_⟩
  refine sl_l ?_
  refine ev_lst ?_
  refine ea_cons ?_
  refine ev_call hL ok dP (by show 2 ≤ 7; omega) rfl ?_
  refine ea_cons ?_
  refine ev_nm 0 ?_
  refine ea_cons ?_
  refine ev_nm 3 ?_
  refine ea_nil ?_
  refine ⟨a, oddL, Lw, Rw, u2, rfl, by decide, by decide, rfl, hu2, fun x u3 hx hu3 => ?_⟩
  refine ea_nil ?_
  refine allP_cons (allP_nil ⟨by show 1 ≤ 1000; omega, ?_⟩)
  have hkn : n ≤ (r.map rowD).length := by omega
  obtain ⟨d1, d2, d3, d4, e4, c1, c2, c3⟩ := four (R := r.map rowD) (x := x) hkn (by omega) (by omega)
  have bad := bad_in hr h3 (show n ≤ r.length by omega) hx
  have lc1 : (cutD (r.map rowD) none (some ((n : Nat) : Int))).length ≤ 3 := by unfold cutD; rw [List.length_take, List.length_drop]; omega
  have lc2 : (cutD (r.map rowD) (some ((n : Nat) : Int)) none).length ≤ 3 := by unfold cutD; rw [List.length_take, List.length_drop]; omega
  refine addD_l (szL (by rw [List.length_singleton]; omega)) ?_
  refine ev_slice ?_
  refine ev_nm 1 ?_
  refine ev_nm 2 ?_
  refine ⟨_, rfl, ?_⟩
  refine evo_none ?_
  refine sl_l ?_
  refine addD_l (szL (by rw [List.length_append, List.length_singleton]; omega)) ?_
  refine ev_lst ?_
  refine ea_cons ?_
  refine ev_int ?_
  refine ea_cons ?_
  refine ev_int ?_
  refine ea_cons ?_
  refine ev_int ?_
  refine ea_nil ?_
  refine allP_cons (allP_cons (allP_cons (allP_nil ⟨by show 3 ≤ 1000; omega, ?_⟩)))
  refine addD_l (szL (by rw [List.length_append, List.length_append, List.length_singleton]; show _ + 3 ≤ 1000000; omega)) ?_
  refine evo_none ?_
  refine ev_int ?_
  refine ⟨_, rfl, ?_⟩
  refine sl_l ?_
  rw [e4]
  refine eg_tupL ok ⟨_, rfl, rfl, ?_⟩
  refine egs_cons ?_
  refine eg_nm ok 4 ?_
  refine egs_cons ?_
  refine eg_nm ok 5 ?_
  refine egs_cons ?_
  refine eg_nm ok 6 ?_
  refine egs_cons ?_
  refine eg_nm ok 7 ?_
  refine egs_nil ?_
  refine wp_cons ?_
  refine w_st ok 8 ?_
  refine ev_lstO ?_
  refine ea_cons ?_
  refine ev_lam (j := 0) (p2 := ⟨0, 0, 0, 0⟩) none TB rfl hT hq (lmS_by rfl) ?_
  refine ea_cons ?_
  refine ev_lam (some 0) TB rfl hT hq (lmS_by rfl) ?_
  refine ea_cons ?_
  refine ev_lam (some 0) TB rfl hT hq (lmS_by rfl) ?_
  refine ea_nil ?_
  refine ⟨by show 3 ≤ 1000; omega, fun q => ?_⟩
  refine wp_cons ?_
  refine w_app ?_
  refine ev_nm 8 ?_
  refine ⟨q, [], _, _, rfl, rfl, ?_⟩
  refine ev_lam (some 0) TB rfl hT hq (lmS_by rfl) ?_
  refine ⟨[], _, _, rfl, by show 3 ≤ 1000000; omega, ?_⟩
  refine wp_one ?_
  refine w_ret ?_
  refine ev_eq ok ?_
  refine ev_toldT (k := 5) hL ok hTo rfl (by show 7 ≤ 7; omega) ?_
  refine ev_ixO ?_
  refine ev_nm 8 ?_
  refine ev_len B rfl ?_
  refine ea_cons ?_
  refine ev_nm 1 ?_
  refine ea_nil ?_
  refine lenD_l ?_
  rw [ll]
  have e : r.length = 1 ∨ r.length = 2 ∨ r.length = 3 := by omega
  rcases e with e | e | e
  · rw [e]
    rw [← c1 (by omega)] at bad
    refine ⟨q, 1, [], _, _, _, rfl, rfl, rfl, rfl, ?_⟩
    refine ⟨_, _, _, some 0, rfl, lmS_by rfl, ⟨"_law_a", rfl, fun _ _ _ _ _ _ _ => ⟨_, rfl, rfl⟩⟩, fun A outer s Hb f c' G1 ok1 hL1 => ?_⟩
    refine ev_make hL1 ok1 M FI (by show 5 ≤ 5; omega) rfl mC ?_
    refine ea_cons ?_
    refine ev_nm 4 ?_
    refine ea_cons ?_
    refine ev_nm 5 ?_
    refine ea_nil ?_
    refine ⟨[d1, d2], rfl, by show 2 ≤ 1000; omega, fun x dx => ⟨x, dx, [d1, d2], n, [], _, rfl, by show 2 ≤ 1000; omega, bad, by omega, rfl, _, rfl, .inr (.inr ⟨_, rfl⟩), ?_⟩⟩
    refine ev_tup ?_
    refine ea_cons ?_
    refine ev_str ?_
    refine ea_cons ?_
    refine ev_str ?_
    refine ea_cons ?_
    refine ev_nm 2 ?_
    refine ea_nil ?_
    refine allP_cons (allP_cons (allP_cons (allP_nil ⟨by show 3 ≤ 1000; omega, ?_⟩)))
    refine eqD_same (a := errT (n : Nat)) (sh_errT _) ?_
    exact k (_ :: Lw) u3 hu3
  · rw [e]
    rw [← c2 (by omega)] at bad
    refine ⟨q, 2, [], _, _, _, rfl, rfl, rfl, rfl, ?_⟩
    refine ⟨_, _, _, some 0, rfl, lmS_by rfl, ⟨"_law_b", rfl, fun _ _ _ _ _ _ _ => ⟨_, rfl, rfl⟩⟩, fun A outer s Hb f c' G1 ok1 hL1 => ?_⟩
    refine ev_make hL1 ok1 M FI (by show 5 ≤ 5; omega) rfl mC ?_
    refine ea_cons ?_
    refine ev_nm 4 ?_
    refine ea_cons ?_
    refine ev_nm 5 ?_
    refine ea_cons ?_
    refine ev_nm 6 ?_
    refine ea_nil ?_
    refine ⟨[d1, d2, d3], rfl, by show 3 ≤ 1000; omega, fun x dx => ⟨x, dx, [d1, d2, d3], n, [], _, rfl, by show 3 ≤ 1000; omega, bad, by omega, rfl, _, rfl, .inr (.inr ⟨_, rfl⟩), ?_⟩⟩
    refine ev_tup ?_
    refine ea_cons ?_
    refine ev_str ?_
    refine ea_cons ?_
    refine ev_str ?_
    refine ea_cons ?_
    refine ev_nm 2 ?_
    refine ea_nil ?_
    refine allP_cons (allP_cons (allP_cons (allP_nil ⟨by show 3 ≤ 1000; omega, ?_⟩)))
    refine eqD_same (a := errT (n : Nat)) (sh_errT _) ?_
    exact k (_ :: Lw) u3 hu3
  · rw [e]
    rw [← c3 (by omega)] at bad
    refine ⟨q, 3, [], _, _, _, rfl, rfl, rfl, rfl, ?_⟩
    refine ⟨_, _, _, some 0, rfl, lmS_by rfl, ⟨"_law_c", rfl, fun _ _ _ _ _ _ _ => ⟨_, rfl, rfl⟩⟩, fun A outer s Hb f c' G1 ok1 hL1 => ?_⟩
    refine ev_make hL1 ok1 M FI (by show 5 ≤ 5; omega) rfl mC ?_
    refine ea_cons ?_
    refine ev_nm 4 ?_
    refine ea_cons ?_
    refine ev_nm 5 ?_
    refine ea_cons ?_
    refine ev_nm 6 ?_
    refine ea_cons ?_
    refine ev_nm 7 ?_
    refine ea_nil ?_
    refine ⟨[d1, d2, d3, d4], rfl, by show 4 ≤ 1000; omega, fun x dx => ⟨x, dx, [d1, d2, d3, d4], n, [], _, rfl, by show 4 ≤ 1000; omega, bad, by omega, rfl, _, rfl, .inr (.inr ⟨_, rfl⟩), ?_⟩⟩
    refine ev_tup ?_
    refine ea_cons ?_
    refine ev_str ?_
    refine ea_cons ?_
    refine ev_str ?_
    refine ea_cons ?_
    refine ev_nm 2 ?_
    refine ea_nil ?_
    refine allP_cons (allP_cons (allP_cons (allP_nil ⟨by show 3 ≤ 1000; omega, ?_⟩)))
    refine eqD_same (a := errT (n : Nat)) (sh_errT _) ?_
    exact k (_ :: Lw) u3 hu3

end Q
namespace Q
open PySem PySem.Spec PyProof.Rows L2
open Evl (Ex)
/-! ### what the law says of rows, as mathematics -/
theorem lcm_39 : ∀ a : Fin 4, ∀ b : Fin 10, Nat.lcm a.val b.val ≤ 24 := by decide +kernel
theorem rowAt_modL {r : List (Int × Int)} {l : Nat} (h : r.length ∣ l) (t : Nat) : rowAt r t = rowAt r (t % l) := by
  unfold rowAt
  rw [Nat.mod_mod_of_dvd t h]
theorem rowAt_map (r : List (Int × Int)) : (List.range r.length).map (rowAt r) = r := by
  refine Eq.trans (List.map_congr_left (g := fun i => r.getD i (0, 0)) fun i hi => ?_) ?_
  · have hi := List.mem_range.mp hi
    unfold rowAt
    rw [Nat.mod_eq_of_lt hi]
  · have := range_map_getD r (0, 0) id
    simpa using this
theorem flat_rowAt (r : List (Int × Int)) : ∀ n : Nat, (List.replicate n r).flatten = (List.range (n * r.length)).map (rowAt r)
  | 0 => by simp
  | n + 1 => by
    rw [List.replicate_succ, List.flatten_cons, flat_rowAt r n, show (n + 1) * r.length = r.length + n * r.length by rw [Nat.add_mul]; omega, List.range_add, List.map_append, rowAt_map, List.map_map]
    congr 1
    refine List.map_congr_left fun t _ => ?_
    show rowAt r t = rowAt r (r.length + t)
    rw [Nat.add_comm, rowAt_per]
theorem map_range_eq {f g : Nat → Int × Int} {n : Nat} : (List.range n).map f = (List.range n).map g ↔ ∀ t, t < n → f t = g t := by
  constructor
  · intro h t ht
    have := congrArg (fun l => l[t]?) h
    simp only [List.getElem?_map, List.getElem?_range ht, Option.map_some] at this
    exact Option.some.inj this
  · exact fun h => List.map_congr_left fun t ht => h t (List.mem_range.mp ht)
theorem same_period {r1 r2 : List (Int × Int)} {n : Nat} (hn : Nat.lcm r1.length r2.length ≤ n) (h0 : 0 < Nat.lcm r1.length r2.length) (h : ∀ t, t < n → rowAt r1 t = rowAt r2 t) (t : Nat) : rowAt r1 t = rowAt r2 t := by
  rw [rowAt_modL (Nat.dvd_lcm_left r1.length r2.length) t, rowAt_modL (Nat.dvd_lcm_right r1.length r2.length) t]
  exact h _ (Nat.lt_of_lt_of_le (Nat.mod_lt _ h0) hn)
theorem eqRows_24 {r1 r2 : List (Int × Int)} (h1 : 0 < r1.length) (h2 : 0 < r2.length) (h24 : Nat.lcm r1.length r2.length ≤ 24) : eqRows r1 r2 = decide ((List.range 24).map (rowAt r1) = (List.range 24).map (rowAt r2)) := by
  have h0 := Nat.lcm_pos h1 h2
  have hle := lcm_le r1.length r2.length
  unfold eqRows
  rw [flat_rowAt, flat_rowAt, Nat.mul_comm r2.length]
  refine decide_eq_decide.mpr ?_
  rw [map_range_eq, map_range_eq]
  exact ⟨fun h t _ => same_period hle h0 h t, fun h t _ => same_period h24 h0 h t⟩
theorem flat_dbl {α : Type} (r : List α) : ∀ n : Nat, (List.replicate n (r ++ r)).flatten = (List.replicate (n + n) r).flatten
  | 0 => rfl
  | n + 1 => by
    rw [List.replicate_succ, List.flatten_cons, flat_dbl r n, show n + 1 + (n + 1) = n + n + 1 + 1 by omega, List.replicate_succ, List.replicate_succ, List.flatten_cons, List.flatten_cons, List.append_assoc]
theorem eqRows_dbl (r : List (Int × Int)) : eqRows r (r ++ r) = true := by
  unfold eqRows
  rw [flat_dbl, List.length_append]
  exact decide_eq_true rfl
/-- two answers more in one tick -/
theorem more_two {r : List (Int × Int)} {n : Nat} {q : Int × Int} (h : r[n]? = some q) : moreRows r [n, n] = r.take n ++ [(q.1, q.2 + 2)] ++ r.drop (n + 1) := by
  have hn := (List.getElem?_eq_some_iff.mp h).1
  refine List.ext_getElem? fun i => ?_
  unfold moreRows
  rw [List.getElem?_map]
  by_cases hi : i < r.length
  · rw [List.getElem?_range hi]
    obtain ⟨x, hx⟩ := lt_some hi
    have ex : r.getD i (0, 0) = x := by rw [List.getD_eq_getElem?_getD, hx] <;> rfl
    show some ((r.getD i (0, 0)).1, (r.getD i (0, 0)).2 + (([n, n].count i : Nat) : Int)) = _
    rw [ex, List.append_assoc]
    by_cases h1 : i < n
    · rw [List.getElem?_append_left (by rw [List.length_take]; omega), List.getElem?_take_of_lt h1, hx]
      have hc : [n, n].count i = 0 := by simp [List.count_cons]; omega
      rw [hc]
      simp
    · rw [List.getElem?_append_right (by rw [List.length_take]; omega), List.length_take, Nat.min_eq_left (by omega)]
      by_cases h2 : i = n
      · subst h2
        rw [h] at hx
        cases hx
        rw [Nat.sub_self]
        have hc : [i, i].count i = 2 := by simp [List.count_cons]
        rw [hc]
        rfl
      · have hc : [n, n].count i = 0 := by simp [List.count_cons]; omega
        rw [hc, List.getElem?_append_right (by simp; omega), List.length_singleton, List.getElem?_drop, show n + 1 + (i - n - 1) = i by omega, hx]
        simp
  · rw [List.getElem?_eq_none (by simpa using hi), List.getElem?_eq_none (by simp; omega)]
    rfl
theorem more_okK {r : List (Int × Int)} {m : Int} (h : rowsOk r) (hi : ∀ x ∈ r, rowIn m x) {ts : List Nat} (hz : m + ts.length ≤ 9) : rowsOk (moreRows r ts) := by
  refine ⟨by rw [more_len]; exact h.1, by rw [more_len]; exact h.2.1, fun x hx => ?_⟩
  obtain ⟨i, hi', rfl⟩ := List.mem_map.mp hx
  have hlt : i < r.length := List.mem_range.mp hi'
  have e : r.getD i (0, 0) = r[i] := by rw [List.getD_eq_getElem?_getD, List.getElem?_eq_getElem hlt] <;> rfl
  obtain ⟨a, b, c, d⟩ := hi _ (List.getElem_mem hlt)
  have hc : ts.count i ≤ ts.length := List.count_le_length
  rw [e]
  exact ⟨a, by show _ ≤ (9 : Int); omega, by show 0 ≤ _ + _; omega, by show _ + _ ≤ (9 : Int); omega⟩
theorem badIx_okK {r : List (Int × Int)} (h : rowsOk r) : badIx r = none := badIx_none fun i x hx => by
  obtain ⟨a, b, c, d⟩ := h.2.2 x (List.mem_of_getElem? hx)
  unfold rowB
  rw [isNum_in a b, isNum_in c d]
  rfl
abbrev RF : List (Int × Int) := [(1, 9), (1, 8)]
theorem RF_ok : rowsOk RF := bad_rows (by decide +kernel) (by decide) (by decide)
theorem RF_bad : badIx (moreRows RF [1, 0]) = some 0 := by decide +kernel
abbrev ps1 (n : Nat) : List (Nat × Nat) := List.replicate n (1, 1)
theorem mul_1 : Txt.mul ("1" : Str) 24 = figS ((ps1 24).map (·.1)) ∧ Txt.mul ("1" : Str) 24 = figS ((ps1 24).map (·.2)) ∧ Txt.mul ("1" : Str) 25 = figS ((ps1 25).map (·.1)) ∧ Txt.mul ("1" : Str) 25 = figS ((ps1 25).map (·.2)) := by decide +kernel
theorem mulOk_1 {n : Int} (h : n = 24 ∨ n = 25) : PySem.MulOk ("1" : Str) n := by
  rcases h with rfl | rfl
  · exact ⟨by decide, fun _ _ => by decide +kernel, fun _ _ => by decide +kernel⟩
  · exact ⟨by decide, fun _ _ => by decide +kernel, fun _ _ => by decide +kernel⟩
/-! ### what is compared, shaped -/
theorem sh_sumD (r1 r2 : List (Int × Int)) : SeqAt.shaped (sumD r1 r2) = true := by
  unfold sumD
  split
  · exact sh_errT _
  · exact shT_rows _
theorem sh_quad (r : List (Int × Int)) (i j : Int) (b : Bool) : SeqAt.shaped (.tuple [.tuple (r.map rowD), .int i, .int j, .bool b]) = true := by
  obtain ⟨h1, h2⟩ := lay_rows r
  unfold SeqAt.shaped
  simp [PyData.canLay0, PyData.canLayAll0, PyData.depth, PyData.depthAll, h1]
  omega
theorem sh_errN : SeqAt.shaped errN = true := by
  unfold SeqAt.shaped
  simp [PyData.canLay0, PyData.canLayAll0, PyData.depth, PyData.depthAll]
  exact ⟨by decide +kernel, by decide +kernel⟩
theorem sh_bool1 (a : Bool) : SeqAt.shaped (.bool a) = true := by first | rfl | decide | simp [SeqAt.shaped, PyData.canLay0, PyData.depth]
theorem eqD_bb1 {f : Bool → Bool} {a b : Bool} {k : D → Prop} (q : k (.p (.bool (f (a == b))))) : EqD f (.p (.bool a)) (.p (.bool b)) k := by
  refine ⟨sh_bool1 a, sh_bool1 b, ?_⟩
  rw [show PyData.eqv (.bool a) (.bool b) = (a == b) by simp only [PyData.eqv]]
  exact q
/-- a statement, cut: what is behind it is proved once -/
theorem Wp1.cut {U : Ct} {st : Stmt} {env : Ev0} {W : Ow} {Φ : Ke} (P : Ev0 → Ow → Prop) (h : Wp1 U st env W ⟨P, Φ.rt, Φ.bk, Φ.ct⟩) (k : ∀ env' W', P env' W' → Φ.nx env' W') : Wp1 U st env W Φ :=
  fun σ G H eg hs sl Dn ke => h σ G H eg hs sl Dn ⟨fun σ2 G2 H2 env2 W2 e2 h2 s2 z => ke.nx σ2 G2 H2 env2 W2 e2 h2 s2 (k _ _ z), ke.rt, ke.bk, ke.ct⟩
/-! ### the law -/
abbrev sLaw : Stmt := topS 36
abbrev nLaw : List Str := ["_law_script", "_law_d", "_law_turn", "_law_rows_here", "_law_other", "_law_one", "_law_two", "_law_come", "_law_same", "_law_tick", "_law_good", "_law_k", "_law_due", "_law_count", "_law_found", "_law_full", "_law_row"]
theorem scLaw : FnScope nLaw ["_law_script"] (defScope sLaw) := ⟨rfl, rfl, rfl, by decide +kernel, rfl, by decide +kernel, by decide +kernel⟩
structure AllC (L : Pl) (gt CS fi pr gr pp gp pg gg gl gb gi ga ge gw p g P2 : Addr) (mc : Value) (fdT : FuncData) : Prop where
  B : Blt L.mg
  TC : TCl L.K L.C
  dDice : DefC L "_law_dice" 1 cDice
  dNext : DefC L "_law_next" 1 cNext
  dPick : DefC L "_law_pick" 2 cPick
  dRows : DefC L "_law_rows" 2 cRows
  dMade : DefC L "_law_made" 7 cMade
  dGain : DefC L "_law_gain" 1 cGain
  dSm : DefC L "_law_sum" 1 cSm
  dBR : DefT L (PTab P2) "_law_bad_rows" 8 cBR
  PR : PropOf L.K L.C "rows" pr gr
  FR : FnC L 1 gr cRp
  PP : PropOf L.K L.C "letters_per_round" pp gp
  FP : FnC L 2 gp cLpr
  PG : PropOf L.K L.C "growth" pg gg
  FGr : FnC L 2 gg cGrow
  lo : LenO L.K L.C gl
  FL : FnC L 1 gl cLen
  bo : BoolO L.K L.C gb
  FB : FnC L 1 gb cBool
  gO : GetO L.K L.C gi
  FG : FnC L 3 gi cGet
  FGb : FnC L 3 gi cGetB
  ao : AddO L.K L.C ga
  FA : FnC L 6 ga cAddG
  eo : EqO L.K L.C ge
  FE : FnC L 3 ge cEq
  FEd : FnC L 3 ge (cEqD L)
  bm : BMeth L.K L.C "with_answers" gw
  FW : FnC L 6 gw (stC 1 cWAG)
  FWn : FnC L 6 gw (stC 1 cWAn)
  rd : ClX.CRead L.K L.C mc
  cm : ClX.CMet L.K L.C mc "simple" p g
  FS : FnC L 6 g (cSimple L.C)
  FSb : FnC L 6 g (cSimpleB L.C)
  M : Mk L.K L.C fi
  FI : FnR L.P L.w L.K L.mg L.base (L2.CX L.P L.w) 4 fi (starSp (spG L (cInitG L.C)))
  mC : L.mg "Timetable" = some (.ref L.C)
  Er : Errs L.K L.mg CS L.cN L.cL L.cA L.cT
  ErX : ErT L.K CS L.cN L.cL L.cA L.cT
  FT : Fun L.K "_law_told" "_law_told" sTold gt fdT
  mT : L.mg "_law_told" = some (.ref gt)
  sT : PySem.W.subIn L.K (.type "tuple") (.ref L.C) = some false
  kT : PySem.W.kitOne L.K (.type "tuple") (.ref L.C) = some false

end Q
namespace Q
open PySem PySem.Spec PyProof.Rows L2
open Evl (Ex)
theorem law_ok {L : Pl} {gt CS fi pr gr pp gp pg gg gl gb gi ga ge gw p g P2 c Pt : Addr} {mc : Value} {fdT : FuncData} (Z : AllC L gt CS fi pr gr pp gp pg gg gl gb gi ga ge gw p g P2 mc fdT) (TB : LamX.TabB L.base L.mg c Pt) {f' : Addr} {A : Around} {outer : List Env} {s : Shared} {H : Hp} {E : XK} {T : List (Addr × Str)} {G : Hp} {Ξ : Xc → Ow → Prop}
    (hT : (Pt, (envOfC "law" (defScope sLaw) s.heap.objs.size f' (.ref c)).qual ++ "<lambda>") ∈ T) (hq : ∀ q ∈ T, q.1 = Pt → q.2 = (envOfC "law" (defScope sLaw) s.heap.objs.size f' (.ref c)).qual ++ "<lambda>") (hPT : PTab P2 T)
    (ok : (ctOf L nLaw "law" (defScope sLaw) f' (.ref c) A outer s H E T G Ξ 11).Ok) (sc : List Int) (W : Ow) (Ψ : D → Ow → Prop) (k : ∀ W', Ψ (.p (.bool true)) W') :
    Wp (ctOf L nLaw "law" (defScope sLaw) f' (.ref c) A outer s H E T G Ξ 11) (defBody sLaw) (startE nLaw [.scr sc]) W ⟨fun _ W => Ψ (.p .none) W, Ψ, fun _ _ => False, fun _ _ => False⟩ := by
  have hPl : L.Has (ctOf L nLaw "law" (defScope sLaw) f' (.ref c) A outer s H E T G Ξ 11) := has_ct
  have B := Z.B
  have TC := Z.TC
  have hTo := told_ofT (L := L) ok B Z.Er Z.ErX Z.FT Z.mT (by show 1 ≤ 11; omega)
  have ll : ∀ r : List (Int × Int), (r.map rowD).length = r.length := fun r => List.length_map _
  refine wp_cons ?_
  refine w_st ok 1 ?_
  refine ev_call hPl ok Z.dDice (by show 1 ≤ 11; omega) rfl ?_
  refine ea_cons ?_
  refine ev_nm 0 ?_
  refine ea_nil ?_
  refine ⟨sc, rfl, fun a u hu => ?_⟩
  refine wp_cons ?_
  refine w_for ok [2] ?_
  refine ei_rng1 B rfl ?_
  refine ea_cons ?_
  refine ev_int ?_
  refine ea_nil ?_
  refine ⟨_, rfl, by omega, by omega, ?_⟩
  refine ⟨fun i env' W' => ∃ (Lw : Ow) (u : OD) (x2 x3 x4 x5 x6 x7 x8 x9 x10 x11 x12 x13 x14 x15 x16 : Option D), isDice u ∧ W' = Lw ++ (a, u) :: W ∧ env' = [some (.scr sc), some (.adr a), x2, x3, x4, x5, x6, x7, x8, x9, x10, x11, x12, x13, x14, x15, x16], ⟨[], u, none, none, none, none, none, none, none, none, none, none, none, none, none, none, none, hu, rfl, rfl⟩, ?_, ?_⟩
  · rintro i env' W' hi ⟨Lw, u, x2, x3, x4, x5, x6, x7, x8, x9, x10, x11, x12, x13, x14, x15, x16, hu, rfl, rfl⟩
    refine eg_nm ok 2 ?_
    refine wp_cons ?_
    refine w_tup ok ([3] ++ ([4] ++ [])) ?_
    refine ea_cons ?_
    refine ev_call hPl ok Z.dRows (by show 2 ≤ 11; omega) rfl ?_
    refine ea_cons ?_
    refine ev_nm 1 ?_
    refine ea_cons ?_
    refine ev_int ?_
    refine ea_cons ?_
    refine ev_int ?_
    refine ea_nil ?_
    refine ⟨a, 3, 5, Lw, W, u, rfl, by omega, by omega, by omega, by omega, rfl, hu, fun r1 u1 r10 r11 hi1 hpos1 hu1 => ?_⟩
    refine ea_cons ?_
    refine ev_call hPl ok Z.dRows (by show 2 ≤ 11; omega) rfl ?_
    refine ea_cons ?_
    refine ev_nm 1 ?_
    refine ea_cons ?_
    refine ev_ix ?_
    refine ev_lst ?_
    refine ea_cons ?_
    refine ev_int ?_
    refine ea_cons ?_
    refine ev_int ?_
    refine ea_nil ?_
    refine allP_cons (allP_cons (allP_nil ⟨by show 2 ≤ 1000; omega, ?_⟩))
    refine ev_call hPl ok Z.dNext (by show 1 ≤ 11; omega) rfl ?_
    refine ea_cons ?_
    refine ev_nm 1 ?_
    refine ea_cons ?_
    refine ev_int ?_
    refine ea_nil ?_
    refine ⟨a, 2, Lw, W, u1, rfl, by omega, by decide, rfl, hu1, fun z u2 z0 z1 hu2 => ?_⟩
    obtain ⟨sz, hsz, s0, s9⟩ : ∃ sz : Int, atI [PyData.int 3, .int 9] z = some (.int sz) ∧ 0 < sz ∧ sz ≤ 9 := by
      have e : z = 0 ∨ z = 1 := by omega
      rcases e with rfl | rfl
      · exact ⟨3, rfl, by omega, by omega⟩
      · exact ⟨9, rfl, by omega, by omega⟩
    refine getD_l hsz ?_
    refine ea_cons ?_
    refine ev_int ?_
    refine ea_nil ?_
    refine ⟨a, sz, 5, Lw, W, u2, rfl, s0, by omega, by omega, by omega, rfl, hu2, fun r2 u3 r20 r21 hi2 hpos2 hu3 => ?_⟩
    refine ea_nil ?_
    refine ⟨by show 2 ≤ 1000; omega, rfl, ?_⟩
    refine egs_cons ?_
    refine eg_nm ok 3 ?_
    refine egs_cons ?_
    refine eg_nm ok 4 ?_
    refine egs_nil ?_
    have h1 : rowsOk r1 := ⟨r10, by omega, fun x hx => by
      obtain ⟨a1, a2, a3, a4⟩ := hi1 x hx
      exact ⟨a1, by omega, a3, by omega⟩⟩
    have h2 : rowsOk r2 := ⟨r20, by omega, fun x hx => by
      obtain ⟨a1, a2, a3, a4⟩ := hi2 x hx
      exact ⟨a1, by omega, a3, by omega⟩⟩
    have h24 : Nat.lcm r1.length r2.length ≤ 24 := lcm_39 ⟨r1.length, by omega⟩ ⟨r2.length, by omega⟩
    have h3 : r1.length ≤ 3 := by omega
    obtain ⟨q1, hq1, hq10⟩ := hpos1
    have ha1 : anyL r1 = true := anyL_of hq1 hq10
    refine wp_cons ?_
    refine w_tup ok ([5] ++ ([6] ++ [])) ?_
    refine ea_cons ?_
    refine ev_call hPl ok Z.dMade (by show 7 ≤ 11; omega) rfl ?_
    refine ea_cons ?_
    refine ev_nm 3 ?_
    refine ea_nil ?_
    refine ⟨r1, rfl, h1, ?_⟩
    refine ea_cons ?_
    refine ev_call hPl ok Z.dMade (by show 7 ≤ 11; omega) rfl ?_
    refine ea_cons ?_
    refine ev_nm 4 ?_
    refine ea_nil ?_
    refine ⟨r2, rfl, h2, ?_⟩
    refine ea_nil ?_
    refine ⟨by show 2 ≤ 1000; omega, rfl, ?_⟩
    refine egs_cons ?_
    refine eg_nm ok 5 ?_
    refine egs_cons ?_
    refine eg_nm ok 6 ?_
    refine egs_nil ?_
    refine wp_cons ?_
    refine w_st ok 7 ?_
    refine ev_sum ok B rfl ?_
    refine ea_cons ?_
    refine ev_lc ok [("_law_row", 16)] [16] (by simp) (blkOk_by (by rfl)) (by decide) (lc_pure ?_)
    refine ei_lst ?_
    refine ev_nm 3 ?_
    refine ⟨_, rfl, ?_⟩
    refine ⟨fun j => [some (.scr sc), some (.adr a), some (.p (.int (i : Nat))), some (.p (.list (r1.map rowD))), some (.p (.list (r2.map rowD))), some (.tt r1), some (.tt r2), x7, x8, x9, x10, x11, x12, x13, x14, x15, some (.p (rowD (r1.getD j (0, 0))))], fun j => .int (r1.getD j (0, 0)).1, by rw [ll]; omega, ?_, ?_, ?_⟩
    · intro s H C cl fp j Wi hj
      obtain ⟨r, hr'⟩ := lt_some (l := r1) (i := j) (by rw [ll] at hj; omega)
      have er : r1.getD j (0, 0) = r := by rw [List.getD_eq_getElem?_getD, hr'] <;> rfl
      rw [datAt_map hr']
      subst er
      refine eg_nm ok.blk 16 ?_
      exact ⟨rfl, rfl⟩
    · intro s H C cl fp j Wi hj
      refine ev_ix ?_
      refine ev_nm 16 ?_
      refine ev_int ?_
      refine getD_t (d := .int (r1.getD j (0, 0)).1) rfl ?_
      exact ⟨rfl, rfl⟩
    rw [ll, range_map_getD r1 (0, 0) fun r => PyData.int r.1]
    refine ea_nil ?_
    refine ⟨r1.map fun r => r.1, by rw [List.map_map] <;> rfl, ?_⟩
    rw [numT_all]
    refine wp_cons ?_
    refine w_if ?_
    refine et_ne ok ?_
    refine ev_tup ?_
    refine ea_cons ?_
    refine ev_prop hPl ok TC.cls Z.PR Z.FR (by show 2 ≤ 11; omega) ?_
    refine ev_nm 5 ?_
    refine both ⟨_, rfl⟩ ?_
    refine ⟨r1, rfl, ?_⟩
    refine ea_cons ?_
    refine ev_lenT hPl ok B Z.lo Z.FL (by show 2 ≤ 11; omega) rfl ?_
    refine ea_cons ?_
    refine ev_nm 5 ?_
    refine ea_nil ?_
    refine both ⟨_, rfl⟩ ?_
    refine ⟨r1, rfl, _, rfl, by omega, by omega, ?_⟩
    refine ea_cons ?_
    refine ev_prop hPl ok TC.cls Z.PP Z.FP (by show 3 ≤ 11; omega) ?_
    refine ev_nm 5 ?_
    refine both ⟨_, rfl⟩ ?_
    refine ⟨r1, rfl, h1, ?_⟩
    refine ea_cons ?_
    refine ev_boolT hPl ok B Z.bo Z.FB (by show 3 ≤ 11; omega) rfl ?_
    refine ea_cons ?_
    refine ev_nm 5 ?_
    refine ea_nil ?_
    refine both ⟨_, rfl⟩ ?_
    refine ⟨r1, rfl, h1, _, rfl, ?_⟩
    rw [ha1]
    refine ea_nil ?_
    refine allP_cons (allP_cons (allP_cons (allP_cons (allP_nil ⟨by show 4 ≤ 1000; omega, ?_⟩))))
    refine ev_tup ?_
    refine ea_cons ?_
    refine ev_tuple B rfl ?_
    refine ea_cons ?_
    refine ev_nm 3 ?_
    refine ea_nil ?_
    refine tupOf_l ?_
    refine ea_cons ?_
    refine ev_len B rfl ?_
    refine ea_cons ?_
    refine ev_nm 3 ?_
    refine ea_nil ?_
    refine lenD_l ?_
    rw [ll]
    refine ea_cons ?_
    refine ev_nm 7 ?_
    refine ea_cons ?_
    refine ev_bl ?_
    refine ea_nil ?_
    refine allP_cons (allP_cons (allP_cons (allP_cons (allP_nil ⟨by show 4 ≤ 1000; omega, ?_⟩))))
    refine eqD_same (sh_quad _ _ _ _) (tbool (branch (fun h => nomatch h) fun _ => ?_))
    refine wp_nil ?_
    refine wp_cons ?_
    refine w_if ?_
    refine et_of ?_
    refine ew_or ?_
    refine et_ne ok ?_
    refine ev_prop hPl ok TC.cls Z.PG Z.FGr (by show 3 ≤ 11; omega) ?_
    refine ev_nm 5 ?_
    refine both ⟨_, rfl⟩ ?_
    refine ⟨r1, rfl, h1, ?_⟩
    refine ev_max2 ok B rfl ?_
    refine ea_cons ?_
    refine ev_int ?_
    refine ea_cons ?_
    refine ev_call hPl ok Z.dGain (by show 1 ≤ 11; omega) rfl ?_
    refine ea_cons ?_
    refine ev_nm 3 ?_
    refine ea_nil ?_
    refine ⟨r1, rfl, h1, ?_⟩
    refine ea_nil ?_
    refine two_i ?_
    refine eqD_i (tbool (branch (fun h => absurd h (by simp)) fun _ => ?_))
    refine ew_one ?_
    refine et_val ?_
    refine ev_boolT hPl ok B Z.bo Z.FB (by show 3 ≤ 11; omega) rfl ?_
    refine ea_cons ?_
    refine ev_call hPl ok Z.dMade (by show 7 ≤ 11; omega) rfl ?_
    refine ea_cons ?_
    refine ev_lst ?_
    refine ea_cons ?_
    refine ev_tup ?_
    refine ea_cons ?_
    refine ev_int ?_
    refine ea_cons ?_
    refine ev_int ?_
    refine ea_nil ?_
    refine allP_cons (allP_cons (allP_nil ⟨by show 2 ≤ 1000; omega, ?_⟩))
    refine ea_nil ?_
    refine allP_cons (allP_nil ⟨by show 1 ≤ 1000; omega, ?_⟩)
    refine ea_nil ?_
    have h03 : rowsOk [((0 : Int), (3 : Int))] := bad_rows (by decide +kernel) (by decide) (by decide)
    refine ⟨[(0, 3)], rfl, h03, ?_⟩
    refine ea_nil ?_
    refine both ⟨_, rfl⟩ ?_
    refine ⟨_, rfl, h03, false, rfl, ?_⟩
    refine truD_b (branch (fun h => nomatch h) fun _ => ?_)
    refine wp_nil ?_
    -- the sum
    have lm := Nat.lcm_pos h1.1 h2.1
    refine wp_cons ?_
    refine w_if ?_
    refine et_ne ok ?_
    refine Ev.imp (Ψ' := fun d W' => d = .p (sumD r1 r2) ∧ W' = Lw ++ (a, u3) :: W) ?_ ?_
    · refine ev_toldT (k := 9) hPl ok hTo rfl (by show 11 ≤ 11; omega) ?_
      refine ev_lam (j := 0) (p2 := ⟨0, 0, 0, 0⟩) none TB rfl hT hq (lmS_by rfl) ?_
      refine ⟨_, _, _, none, rfl, lmS_by rfl, fun _ _ _ _ _ => rfl, fun A outer s Hb f c' G1 ok1 hL1 => ?_⟩
      refine ev_prop hL1 ok1 TC.cls Z.PR Z.FR (by show 2 ≤ 9; omega) ?_
      refine ev_addO hL1 ok1 Z.ao Z.FA (by show 6 ≤ 9; omega) ?_
      refine ev_nm 5 ?_
      refine ev_nm 6 ?_
      refine both ⟨_, _, rfl, rfl⟩ ?_
      refine ⟨r1, r2, rfl, h1, h2, by rw [sum_len]; exact lm, by rw [sum_len]; exact h24, fun j hj => ?_, fun hn => ?_⟩
      · refine ⟨.inr (.inr ⟨_, rfl⟩), ?_, rfl⟩
        show D.p (errT (j : Nat)) = .p (sumD r1 r2)
        unfold sumD
        rw [hj]
      · refine both ⟨_, rfl⟩ ?_
        refine ⟨_, rfl, ?_, rfl⟩
        unfold sumD
        rw [hn]
    rintro d W' ⟨rfl, rfl⟩
    refine ev_call hPl ok Z.dSm (by show 1 ≤ 11; omega) rfl ?_
    refine ea_cons ?_
    refine ev_nm 3 ?_
    refine ea_cons ?_
    refine ev_nm 4 ?_
    refine ea_nil ?_
    refine ⟨r1, r2, rfl, h1, h2, h24, ?_⟩
    refine eqD_same (sh_sumD _ _) (tbool (branch (fun h => nomatch h) fun _ => ?_))
    refine wp_nil ?_
    -- the same for long
    refine wp_cons ?_
    refine w_st ok 8 ?_
    refine ev_eq ok ?_
    refine ev_lc ok [("_law_k", 11)] [11] (by simp) (blkOk_by (by rfl)) (by decide) (lc_pure ?_)
    refine ei_rng1 B rfl ?_
    refine ea_cons ?_
    refine ev_int ?_
    refine ea_nil ?_
    refine ⟨_, rfl, by omega, by omega, ?_⟩
    refine ⟨fun j => [some (.scr sc), some (.adr a), some (.p (.int (i : Nat))), some (.p (.list (r1.map rowD))), some (.p (.list (r2.map rowD))), some (.tt r1), some (.tt r2), some (.p (.int (numT r1 r1.length))), x8, x9, x10, some (.p (.int (j : Nat))), x12, x13, x14, x15, x16], fun j => rowD (rowAt r1 j), by decide, ?_, ?_, ?_⟩
    · intro s H C cl fp j Wi hj
      refine eg_nm ok.blk 11 ?_
      exact ⟨rfl, rfl⟩
    · intro s H C cl fp j Wi hj
      refine ev_ix ?_
      refine ev_nm 3 ?_
      refine ev_mod ?_
      refine ev_toint B rfl ?_
      refine ea_cons ?_
      refine ev_nm 11 ?_
      refine ea_nil ?_
      refine int1_i ?_
      refine ev_len B rfl ?_
      refine ea_cons ?_
      refine ev_nm 3 ?_
      refine ea_nil ?_
      refine lenD_l ?_
      rw [ll]
      refine modD (by omega) ?_
      refine getD_l (rowAt_i h1 j) ?_
      exact ⟨rfl, rfl⟩
    refine ev_lc ok [("_law_k", 11)] [11] (by simp) (blkOk_by (by rfl)) (by decide) (lc_pure ?_)
    refine ei_rng1 B rfl ?_
    refine ea_cons ?_
    refine ev_int ?_
    refine ea_nil ?_
    refine ⟨_, rfl, by omega, by omega, ?_⟩
    refine ⟨fun j => [some (.scr sc), some (.adr a), some (.p (.int (i : Nat))), some (.p (.list (r1.map rowD))), some (.p (.list (r2.map rowD))), some (.tt r1), some (.tt r2), some (.p (.int (numT r1 r1.length))), x8, x9, x10, some (.p (.int (j : Nat))), x12, x13, x14, x15, x16], fun j => rowD (rowAt r2 j), by decide, ?_, ?_, ?_⟩
    · intro s H C cl fp j Wi hj
      refine eg_nm ok.blk 11 ?_
      exact ⟨rfl, rfl⟩
    · intro s H C cl fp j Wi hj
      refine ev_ix ?_
      refine ev_nm 4 ?_
      refine ev_mod ?_
      refine ev_toint B rfl ?_
      refine ea_cons ?_
      refine ev_nm 11 ?_
      refine ea_nil ?_
      refine int1_i ?_
      refine ev_len B rfl ?_
      refine ea_cons ?_
      refine ev_nm 4 ?_
      refine ea_nil ?_
      refine lenD_l ?_
      rw [ll]
      refine modD (by omega) ?_
      refine getD_l (rowAt_i h2 j) ?_
      exact ⟨rfl, rfl⟩
    have em : ∀ r : List (Int × Int), (List.range ((24 : Int)).toNat).map (fun j => rowD (rowAt r j)) = ((List.range 24).map (rowAt r)).map rowD := fun r => by rw [List.map_map] <;> rfl
    rw [em, em]
    refine eqD_rowsL ?_
    -- ==
    refine wp_cons ?_
    refine w_if ?_
    refine et_of ?_
    refine ew_or ?_
    refine et_not ?_
    refine et_eqO hPl ok Z.eo Z.FE (by show 3 ≤ 11; omega) ?_
    refine ev_nm 5 ?_
    refine ev_call hPl ok Z.dMade (by show 7 ≤ 11; omega) rfl ?_
    refine ea_cons ?_
    refine ev_add ?_
    refine ev_nm 3 ?_
    refine ev_nm 3 ?_
    refine addD_l (szL (by rw [ll]; omega)) ?_
    refine ea_nil ?_
    have hd : rowsOk (r1 ++ r1) := ⟨by rw [List.length_append]; omega, by rw [List.length_append]; omega, fun x hx => (List.mem_append.mp hx).elim (h1.2.2 x) (h1.2.2 x)⟩
    refine ⟨r1 ++ r1, by rw [List.map_append], hd, ?_⟩
    refine both ⟨_, _, rfl, rfl⟩ ?_
    refine ⟨r1, r1 ++ r1, rfl, h1, hd, _, rfl, ?_⟩
    rw [eqRows_dbl]
    refine branch (fun h => nomatch h) fun _ => ?_
    refine ew_or ?_
    refine et_eqXD hPl ok Z.eo Z.FEd (by show 3 ≤ 11; omega) ?_
    refine ev_nm 5 ?_
    refine ev_tuple B rfl ?_
    refine ea_cons ?_
    refine ev_nm 3 ?_
    refine ea_nil ?_
    refine tupOf_l ?_
    refine both ⟨_, "tuple", rfl, rfl, Z.sT⟩ ?_
    refine ⟨r1, _, "tuple", rfl, rfl, Z.kT, _, rfl, ?_⟩
    refine branch (fun h => nomatch h) fun _ => ?_
    refine ew_one ?_
    refine et_ne ok ?_
    refine ev_eqO hPl ok Z.eo Z.FE (by show 3 ≤ 11; omega) ?_
    refine ev_nm 5 ?_
    refine ev_nm 6 ?_
    refine both ⟨_, _, rfl, rfl⟩ ?_
    refine ⟨r1, r2, rfl, h1, h2, ?_⟩
    rw [eqRows_24 h1.1 h2.1 h24]
    refine ev_nm 8 ?_
    refine eqD_bb1 (tbool (branch (fun h => absurd h (by simp)) fun _ => ?_))
    refine wp_nil ?_
    -- the tick
    refine wp_cons ?_
    refine w_st ok 9 ?_
    refine ev_call hPl ok Z.dPick (by show 2 ≤ 11; omega) rfl ?_
    refine ea_cons ?_
    refine ev_nm 1 ?_
    refine ea_cons ?_
    refine ev_lst ?_
    refine ea_cons ?_
    refine ev_int ?_
    refine ea_cons ?_
    refine ev_pow ?_
    refine ev_int ?_
    refine ev_int ?_
    refine powD (by omega) (by omega) (by decide) ?_
    rw [p10_18]
    refine ea_cons ?_
    refine ev_add ?_
    refine ev_pow ?_
    refine ev_int ?_
    refine ev_int ?_
    refine powD (by omega) (by omega) (by decide) ?_
    rw [p10_18]
    refine ev_int ?_
    refine addD_i ?_
    refine ea_cons ?_
    refine ev_neg ?_
    refine ev_int ?_
    refine negD ?_
    refine ea_cons ?_
    refine ev_non ?_
    refine ea_cons ?_
    refine ev_bl ?_
    refine ea_cons ?_
    refine ev_call hPl ok Z.dNext (by show 1 ≤ 11; omega) rfl ?_
    refine ea_cons ?_
    refine ev_nm 1 ?_
    refine ea_cons ?_
    refine ev_pow ?_
    refine ev_int ?_
    refine ev_int ?_
    refine powD (by omega) (by omega) (by decide) ?_
    rw [p10_18]
    refine ea_nil ?_
    refine ⟨a, LASTN, Lw, W, u3, rfl, by decide, by decide +kernel, rfl, hu3, fun zt u4 zt0 zt1 hu4 => ?_⟩
    refine ea_nil ?_
    refine allP_cons (allP_cons (allP_cons (allP_cons (allP_cons (allP_cons (allP_cons (allP_nil ⟨by show 7 ≤ 1000; omega, ?_⟩)))))))
    refine ea_nil ?_
    refine ⟨a, _, Lw, W, u4, rfl, by show 0 < 7; omega, by show 7 ≤ 1000; omega, rfl, hu4, fun tk u5 htk hu5 => ?_⟩
    have htk2 : tk = .int 0 ∨ tk = .int LASTN ∨ tk = .int (LASTN + 1) ∨ tk = .int (-1) ∨ tk = .none ∨ tk = .bool true ∨ tk = .int zt := by simpa using htk
    have hnk : numKind tk = true := by
      rcases htk2 with rfl | rfl | rfl | rfl | rfl | rfl | rfl <;> rfl
    have hgood : isNum 0 LASTN tk = true → ∃ t : Nat, tk = .int ((t : Nat) : Int) ∧ ((t : Nat) : Int) ≤ LASTN := fun hg => by
      cases tk with
      | int v =>
        simp only [isNum, Bool.and_eq_true, decide_eq_true_eq] at hg
        exact ⟨v.toNat, by rw [Int.toNat_of_nonneg hg.1], by rw [Int.toNat_of_nonneg hg.1]; exact hg.2⟩
      | _ => cases hg
    refine wp_cons ?_
    refine w_st ok 10 ?_
    refine Ev.imp (Ψ' := fun d W' => d = .p (.bool (isNum 0 LASTN tk)) ∧ W' = Lw ++ (a, u5) :: W) ?_ ?_
    · refine ev_and ?_
      refine ev_isi (T := "int") B rfl rfl B.int btInt ?_
      refine ev_nm 9 ?_
      cases tk with
      | int v =>
        refine ⟨"int", true, rfl, kII, boolD (branch' (fun h => nomatch h) fun _ => ?_)⟩
        refine ev_and ?_
        refine ev_not ?_
        refine ev_isi (T := "bool") B rfl rfl B.bool btBool ?_
        refine ev_nm 9 ?_
        refine ⟨"int", false, rfl, kIB, boolD (boolD (branch' (fun h => nomatch h) fun _ => ?_))⟩
        refine ev_one ?_
        refine ev_chain_le rfl ?_
        refine ev_int ?_
        refine ev_nm 9 ?_
        refine cmpD ?_
        refine ⟨fun hb => ⟨?_, rfl⟩, fun hb => ?_⟩
        · have hb' : ¬ 0 ≤ v := of_decide_eq_false hb
          simp [isNum, hb']
        · refine ev_pow ?_
          refine ev_int ?_
          refine ev_int ?_
          refine powD (by omega) (by omega) (by decide) ?_
          rw [p10_18]
          have hb' : 0 ≤ v := of_decide_eq_true hb
          refine cmpD ⟨?_, rfl⟩
          simp [isNum, hb']
      | bool v =>
        refine ⟨"bool", true, rfl, kBI, boolD (branch' (fun h => nomatch h) fun _ => ?_)⟩
        refine ev_and ?_
        refine ev_not ?_
        refine ev_isi (T := "bool") B rfl rfl B.bool btBool ?_
        refine ev_nm 9 ?_
        exact ⟨"bool", true, rfl, kBB, boolD (boolD (branch' (fun _ => ⟨rfl, rfl⟩) fun h => nomatch h))⟩
      | none => exact ⟨"NoneType", false, rfl, kNI, boolD (branch' (fun _ => ⟨rfl, rfl⟩) fun h => nomatch h)⟩
      | str _ => exact ⟨"str", false, rfl, kStI, boolD (branch' (fun _ => ⟨rfl, rfl⟩) fun h => nomatch h)⟩
      | list _ => cases hnk
      | tuple _ => cases hnk
      | dict _ => cases hnk
    rintro d W' ⟨rfl, rfl⟩
    refine wp_cons ?_
    refine w_if ?_
    refine EvT.imp (Ψ' := fun b W' => b = false ∧ W' = Lw ++ (a, u5) :: W) ?_ ?_
    · refine et_ne ok ?_
      refine ev_toldT (k := 9) hPl ok hTo rfl (by show 11 ≤ 11; omega) ?_
      refine ev_lam (some 0) TB rfl hT hq (lmS_by rfl) ?_
      refine ⟨_, _, _, some 0, rfl, lmS_by rfl, ⟨"_law_a", rfl, fun _ _ _ _ _ _ _ => ⟨_, rfl, rfl⟩⟩, fun A outer s Hb f c' G1 ok1 hL1 => ?_⟩
      by_cases hg : isNum 0 LASTN tk = true
      · obtain ⟨t, et, ht⟩ := hgood hg
        refine ev_getO hL1 ok1 Z.gO Z.FG (by show 4 ≤ 9; omega) ?_
        refine ev_nm 5 ?_
        refine both ⟨r1, rfl⟩ ?_
        refine ev_nm 9 ?_
        refine ⟨r1, t, by rw [et], h1, ht, ?_⟩
        refine ev_if ?_
        refine et_val ?_
        refine ev_nm 10 ?_
        refine truD_b ?_
        rw [hg]
        refine branch (fun _ => ?_) fun h => nomatch h
        refine ev_ix ?_
        refine ev_nm 3 ?_
        refine ev_mod ?_
        refine ev_toint B rfl ?_
        refine ea_cons ?_
        refine ev_nm 9 ?_
        refine ea_nil ?_
        rw [et]
        refine int1_i ?_
        refine ev_len B rfl ?_
        refine ea_cons ?_
        refine ev_nm 3 ?_
        refine ea_nil ?_
        refine lenD_l ?_
        rw [ll]
        refine modD (by omega) ?_
        refine getD_l (rowAt_i h1 t) ?_
        exact eqD_same (sh_row _) (tbool ⟨rfl, rfl⟩)
      · have hg' : isNum 0 LASTN tk = false := by simpa using hg
        refine ev_getO hL1 ok1 Z.gO Z.FGb (by show 4 ≤ 9; omega) ?_
        refine ev_nm 5 ?_
        refine both ⟨r1, rfl⟩ ?_
        refine ev_nm 9 ?_
        refine ⟨r1, tk, rfl, hnk, hg', .inl rfl, ?_⟩
        refine ev_if ?_
        refine et_val ?_
        refine ev_nm 10 ?_
        refine truD_b ?_
        rw [hg']
        refine branch (fun h => nomatch h) fun _ => ?_
        refine ev_tup ?_
        refine ea_cons ?_
        refine ev_str ?_
        refine ea_cons ?_
        refine ev_str ?_
        refine ea_nil ?_
        refine allP_cons (allP_cons (allP_nil ⟨by show 2 ≤ 1000; omega, ?_⟩))
        exact eqD_same (a := errN) sh_errN (tbool ⟨rfl, rfl⟩)
    rintro b W' ⟨rfl, rfl⟩
    refine branch (fun h => nomatch h) fun _ => ?_
    refine wp_nil ?_
    -- further answers
    refine wp_cons ?_
    refine w_st ok 11 ?_
    refine ev_call hPl ok Z.dPick (by show 2 ≤ 11; omega) rfl ?_
    refine ea_cons ?_
    refine ev_nm 1 ?_
    refine ea_cons ?_
    refine ev_lst ?_
    refine ea_cons ?_
    refine ev_int ?_
    refine ea_cons ?_
    refine ev_sub ?_
    refine ev_len B rfl ?_
    refine ea_cons ?_
    refine ev_nm 3 ?_
    refine ea_nil ?_
    refine lenD_l ?_
    rw [ll]
    refine ev_int ?_
    refine subD ?_
    refine ea_cons ?_
    refine ev_len B rfl ?_
    refine ea_cons ?_
    refine ev_nm 3 ?_
    refine ea_nil ?_
    refine lenD_l ?_
    rw [ll]
    refine ea_cons ?_
    refine ev_neg ?_
    refine ev_int ?_
    refine negD ?_
    refine ea_cons ?_
    refine ev_non ?_
    refine ea_nil ?_
    refine allP_cons (allP_cons (allP_cons (allP_cons (allP_cons (allP_nil ⟨by show 5 ≤ 1000; omega, ?_⟩)))))
    refine ea_nil ?_
    refine ⟨a, _, Lw, W, u5, rfl, by show 0 < 5; omega, by show 5 ≤ 1000; omega, rfl, hu5, fun kx u6 hkx hu6 => ?_⟩
    have hk2 : kx = .int 0 ∨ kx = .int ((r1.length : Nat) - 1) ∨ kx = .int (r1.length : Nat) ∨ kx = .int (-1) ∨ kx = .none := by simpa using hkx
    have hnx : numKind kx = true := by
      rcases hk2 with rfl | rfl | rfl | rfl | rfl <;> rfl
    obtain ⟨dK, hdK⟩ : ∃ dK : PyData, (∃ (n : Nat) (q : Int × Int), kx = .int ((n : Nat) : Int) ∧ r1[n]? = some q ∧ dK = .tuple ((moreRows r1 [n, n]).map rowD)) ∨ (isNum 0 ((r1.length - 1 : Nat) : Int) kx = false ∧ (kx = .none ∨ ∃ v : Int, kx = .int v ∧ ¬ (0 ≤ v ∧ v < (r1.length : Nat))) ∧ dK = errN) := by
      rcases hk2 with rfl | rfl | rfl | rfl | rfl
      · obtain ⟨q, hq⟩ := lt_some (l := r1) (i := 0) (by omega)
        exact ⟨_, .inl ⟨0, q, rfl, hq, rfl⟩⟩
      · obtain ⟨q, hq⟩ := lt_some (l := r1) (i := r1.length - 1) (by omega)
        exact ⟨_, .inl ⟨r1.length - 1, q, by rw [show ((r1.length - 1 : Nat) : Int) = (r1.length : Nat) - 1 by omega], hq, rfl⟩⟩
      · exact ⟨_, .inr ⟨by simp [isNum]; omega, .inr ⟨_, rfl, by omega⟩, rfl⟩⟩
      · exact ⟨_, .inr ⟨by simp [isNum], .inr ⟨_, rfl, by omega⟩, rfl⟩⟩
      · exact ⟨_, .inr ⟨rfl, .inl rfl, rfl⟩⟩
    refine wp_cons ?_
    refine w_st ok 12 ?_
    refine ev_tup ?_
    refine ea_cons ?_
    refine ev_str ?_
    refine ea_cons ?_
    refine ev_str ?_
    refine ea_nil ?_
    refine allP_cons (allP_cons (allP_nil ⟨by show 2 ≤ 1000; omega, ?_⟩))
    refine wp_cons ?_
    refine Wp1.cut (fun env' W' => W' = Lw ++ (a, u6) :: W ∧ env' = [some (.scr sc), some (.adr a), some (.p (.int (i : Nat))), some (.p (.list (r1.map rowD))), some (.p (.list (r2.map rowD))), some (.tt r1), some (.tt r2), some (.p (.int (numT r1 r1.length))), some (.p (.bool (decide ((List.range 24).map (rowAt r1) = (List.range 24).map (rowAt r2))))), some (.p tk), some (.p (.bool (isNum 0 LASTN tk))), some (.p kx), some (.p dK), x13, x14, x15, x16]) ?_ ?_
    · refine w_if ?_
      refine et_of ?_
      refine ew_and ?_
      refine et_isnotN ?_
      refine ev_nm 11 ?_
      rcases hdK with ⟨n, q, rfl, hq', rfl⟩ | ⟨hb, hbad, rfl⟩
      · have hn := (List.getElem?_eq_some_iff.mp hq').1
        refine branch' (fun h => nomatch h) fun _ => ?_
        refine ew_one ?_
        refine et_chainL rfl ?_
        refine ev_int ?_
        refine ev_nm 11 ?_
        refine cmpD ?_
        refine ⟨fun hb => absurd (of_decide_eq_false hb) (by omega), fun _ => ?_⟩
        refine ev_len B rfl ?_
        refine ea_cons ?_
        refine ev_nm 3 ?_
        refine ea_nil ?_
        refine lenD_l ?_
        rw [ll]
        refine cmpD ?_
        refine branch (fun _ => ?_) fun hb => absurd (of_decide_eq_false hb) (by omega)
        have hat : atI (r1.map rowD) ((n : Nat) : Int) = some (rowD q) := at_map (x := q) (by unfold atI ixN; rw [if_pos (by omega), if_pos (by omega)]; exact hq')
        have c1 : cutD (r1.map rowD) none (some ((n : Nat) : Int)) = (r1.take n).map rowD := by
          have := cut_take (xs := r1.map rowD) (k := (n : Nat)) (by omega) (by rw [ll]; omega)
          rw [this, Int.toNat_natCast, List.map_take]
        have c2 : cutD (r1.map rowD) (some (((n : Nat) : Int) + 1)) none = (r1.drop (n + 1)).map rowD := by
          rw [show ((n : Nat) : Int) + 1 = ((n + 1 : Nat) : Int) by omega, cut_dropK (by rw [ll]; omega), List.map_drop]
        refine wp_one ?_
        refine w_st ok 12 ?_
        refine ev_tuple B rfl ?_
        refine ea_cons ?_
        refine ev_add ?_
        refine ev_add ?_
        refine ev_slice ?_
        refine ev_nm 3 ?_
        refine evo_none ?_
        refine ev_nm 11 ?_
        refine ⟨_, rfl, ?_⟩
        refine sl_l ?_
        refine ev_lst ?_
        refine ea_cons ?_
        refine ev_tup ?_
        refine ea_cons ?_
        refine ev_ix ?_
        refine ev_ix ?_
        refine ev_nm 3 ?_
        refine ev_nm 11 ?_
        refine getD_l hat ?_
        refine ev_int ?_
        refine getD_t (d := .int q.1) rfl ?_
        refine ea_cons ?_
        refine ev_add ?_
        refine ev_ix ?_
        refine ev_ix ?_
        refine ev_nm 3 ?_
        refine ev_nm 11 ?_
        refine getD_l hat ?_
        refine ev_int ?_
        refine getD_t (d := .int q.2) rfl ?_
        refine ev_int ?_
        refine addD_i ?_
        refine ea_nil ?_
        refine allP_cons (allP_cons (allP_nil ⟨by show 2 ≤ 1000; omega, ?_⟩))
        refine ea_nil ?_
        refine allP_cons (allP_nil ⟨by show 1 ≤ 1000; omega, ?_⟩)
        rw [c1]
        refine addD_l (szL (by rw [List.length_map, List.length_take, List.length_singleton]; omega)) ?_
        refine ev_slice ?_
        refine ev_nm 3 ?_
        refine ev_add ?_
        refine ev_nm 11 ?_
        refine ev_int ?_
        refine addD_i ?_
        refine ⟨_, rfl, ?_⟩
        refine evo_none ?_
        refine sl_l ?_
        rw [c2]
        refine addD_l (szL (by rw [List.length_append, List.length_map, List.length_take, List.length_singleton, List.length_map, List.length_drop]; omega)) ?_
        refine ea_nil ?_
        refine tupOf_l ?_
        refine ⟨rfl, ?_⟩
        rw [more_two hq', List.map_append, List.map_append]
        rfl
      · rcases hbad with rfl | ⟨v, rfl, hv⟩
        · refine branch' (fun _ => ?_) fun h => nomatch h
          refine branch (fun h => nomatch h) fun _ => ?_
          refine wp_nil ?_
          exact ⟨rfl, rfl⟩
        · refine branch' (fun h => nomatch h) fun _ => ?_
          refine ew_one ?_
          refine et_chainL rfl ?_
          refine ev_int ?_
          refine ev_nm 11 ?_
          refine cmpD ?_
          refine ⟨fun _ => ?_, fun h0 => ?_⟩
          · refine branch (fun h => nomatch h) fun _ => ?_
            refine wp_nil ?_
            exact ⟨rfl, rfl⟩
          · have h0' : 0 ≤ v := of_decide_eq_true h0
            refine ev_len B rfl ?_
            refine ea_cons ?_
            refine ev_nm 3 ?_
            refine ea_nil ?_
            refine lenD_l ?_
            rw [ll]
            refine cmpD ?_
            refine branch (fun h => absurd (of_decide_eq_true h) (by omega)) fun _ => ?_
            refine wp_nil ?_
            exact ⟨rfl, rfl⟩
    rintro env' W' ⟨rfl, rfl⟩
    refine wp_one ?_
    refine w_if ?_
    refine et_of ?_
    refine ew_or ?_
    refine EvT.imp (Ψ' := fun b W' => b = false ∧ W' = Lw ++ (a, u6) :: W) ?_ ?_
    · refine et_ne ok ?_
      refine ev_toldT (k := 9) hPl ok hTo rfl (by show 11 ≤ 11; omega) ?_
      refine ev_lam (some 0) TB rfl hT hq (lmS_by rfl) ?_
      refine ⟨_, _, _, some 0, rfl, lmS_by rfl, ⟨"_law_b", rfl, fun _ _ _ _ _ _ _ => ⟨_, rfl, rfl⟩⟩, fun A outer s Hb f c' G1 ok1 hL1 => ?_⟩
      refine ev_prop hL1 ok1 TC.cls Z.PR Z.FR (by show 2 ≤ 9; omega) ?_
      rcases hdK with ⟨n, q, ek, hq', rfl⟩ | ⟨hb, _, rfl⟩
      · have hn := (List.getElem?_eq_some_iff.mp hq').1
        have hmo : rowsOk (moreRows r1 [n, n]) := more_okK h1 hi1 (by show (5 : Int) + ((2 : Nat) : Int) ≤ 9; decide)
        refine ev_methC hL1 ok1 TC.cls Z.bm.mt Z.FW (by show 6 ≤ 9; omega) ?_
        refine ev_nm 5 ?_
        refine both ⟨_, rfl⟩ ?_
        refine ea_cons ?_
        refine ev_nm 11 ?_
        refine ea_cons ?_
        refine ev_nm 11 ?_
        refine ea_nil ?_
        rw [ek]
        refine ⟨[.tt r1], [.int ((n : Nat) : Int), .int ((n : Nat) : Int)], rfl, rfl, by show 2 ≤ 1000; omega, r1, [n, n], rfl, h1, fun t ht => ?_, by show 2 ≤ 1000; omega, fun j hj => ?_, fun _ => ?_⟩
        · have ht : t = n := by simpa using ht
          omega
        · rw [badIx_okK hmo] at hj; cases hj
        refine both ⟨_, rfl⟩ ?_
        refine ⟨_, rfl, ?_⟩
        refine ev_nm 12 ?_
        exact eqD_same (shT_rows _) (tbool ⟨rfl, rfl⟩)
      · refine ev_methC hL1 ok1 TC.cls Z.bm.mt Z.FWn (by show 6 ≤ 9; omega) ?_
        refine ev_nm 5 ?_
        refine both ⟨_, rfl⟩ ?_
        refine ea_cons ?_
        refine ev_nm 11 ?_
        refine ea_cons ?_
        refine ev_nm 11 ?_
        refine ea_nil ?_
        refine ⟨[.tt r1], [kx, kx], rfl, rfl, by show 2 ≤ 1000; omega, r1, kx, [kx], rfl, h1, hnx, hb, .inl rfl, ?_⟩
        refine ev_nm 12 ?_
        exact eqD_same (a := errN) sh_errN (tbool ⟨rfl, rfl⟩)
    rintro b W' ⟨rfl, rfl⟩
    refine branch (fun h => nomatch h) fun _ => ?_
    refine ew_one ?_
    refine et_not ?_
    refine et_val ?_
    refine ev_callT hPl ok Z.dBR hPT (by show 8 ≤ 11; omega) rfl ?_
    refine ea_cons ?_
    refine ev_nm 1 ?_
    refine ea_cons ?_
    refine ev_nm 3 ?_
    refine ea_nil ?_
    refine ⟨a, r1, Lw, W, u6, rfl, h1, h3, rfl, hu6, fun Lw' u7 hu7 => ?_⟩
    refine truD_b (branch (fun h => nomatch h) fun _ => ?_)
    refine wp_nil ?_
    exact ⟨Lw', u7, _, _, _, _, _, _, _, _, _, _, _, _, _, _, _, hu7, rfl, rfl⟩
  · rintro env' W' ⟨Lw, u, x2, x3, x4, x5, x6, x7, x8, x9, x10, x11, x12, x13, x14, x15, x16, hu, rfl, rfl⟩
    obtain ⟨m1, m2, m3, m4⟩ := mul_1
    refine wp_cons ?_
    refine w_st ok 13 ?_
    refine ev_add ?_
    refine ev_int ?_
    refine ev_call hPl ok Z.dNext (by show 1 ≤ 11; omega) rfl ?_
    refine ea_cons ?_
    refine ev_nm 1 ?_
    refine ea_cons ?_
    refine ev_int ?_
    refine ea_nil ?_
    refine ⟨a, 2, Lw, W, u, rfl, by omega, by decide, rfl, hu, fun z u2 z0 z1 hu2 => ?_⟩
    refine addD_i ?_
    have ez : (24 + z = 24 ∨ 24 + z = 25) := by omega
    generalize 24 + z = cn at ez ⊢
    obtain ⟨fD, hfD⟩ : ∃ fD : PyData, (cn = 24 ∧ fD = .int 24) ∨ (cn = 25 ∧ fD = errT 24) := by
      rcases ez with e | e
      · exact ⟨_, .inl ⟨e, rfl⟩⟩
      · exact ⟨_, .inr ⟨e, rfl⟩⟩
    refine wp_cons ?_
    refine w_st ok 14 ?_
    refine Ev.imp (Ψ' := fun d W' => d = .p fD ∧ W' = Lw ++ (a, u2) :: W) ?_ ?_
    · refine ev_toldT (k := 9) hPl ok hTo rfl (by show 11 ≤ 11; omega) ?_
      refine ev_lam (some 0) TB rfl hT hq (lmS_by rfl) ?_
      refine ⟨_, _, _, some 0, rfl, lmS_by rfl, ⟨"_law_e", rfl, fun _ _ _ _ _ _ _ => ⟨_, rfl, rfl⟩⟩, fun A outer s Hb f c' G1 ok1 hL1 => ?_⟩
      refine ev_lenT hL1 ok1 B Z.lo Z.FL (by show 2 ≤ 9; omega) rfl ?_
      refine ea_cons ?_
      rcases hfD with ⟨rfl, rfl⟩ | ⟨rfl, rfl⟩
      · refine ev_cmeth hL1 ok1 Z.rd Z.cm Z.FS (by show 6 ≤ 9; omega) ?_
        refine ev_globR rfl Z.mC ?_
        refine both rfl ?_
        refine ea_cons ?_
        refine ev_mulS ?_
        refine ev_str ?_
        refine ev_nm 13 ?_
        refine ⟨_, 24, rfl, rfl, mulOk_1 (.inl rfl), ?_⟩
        refine ea_cons ?_
        refine ev_mulS ?_
        refine ev_str ?_
        refine ev_nm 13 ?_
        refine ⟨_, 24, rfl, rfl, mulOk_1 (.inl rfl), ?_⟩
        refine ea_nil ?_
        refine ⟨ps1 24, by rw [← m1, ← m2]; rfl, ⟨by decide, by decide, by decide⟩, ?_⟩
        refine ea_nil ?_
        refine both ⟨_, rfl⟩ ?_
        exact ⟨_, rfl, _, rfl, by decide, by decide, rfl, rfl⟩
      · refine ev_cmeth hL1 ok1 Z.rd Z.cm Z.FSb (by show 6 ≤ 9; omega) ?_
        refine ev_globR rfl Z.mC ?_
        refine both rfl ?_
        refine ea_cons ?_
        refine ev_mulS ?_
        refine ev_str ?_
        refine ev_nm 13 ?_
        refine ⟨_, 25, rfl, rfl, mulOk_1 (.inr rfl), ?_⟩
        refine ea_cons ?_
        refine ev_mulS ?_
        refine ev_str ?_
        refine ev_nm 13 ?_
        refine ⟨_, 25, rfl, rfl, mulOk_1 (.inr rfl), ?_⟩
        refine ea_nil ?_
        exact ⟨ps1 25, by rw [← m3, ← m4]; rfl, by decide, by decide, by decide, .inr (.inr ⟨_, rfl⟩), rfl, rfl⟩
    rintro d W' ⟨rfl, rfl⟩
    refine wp_cons ?_
    refine w_if ?_
    refine EvT.imp (Ψ' := fun b W' => b = false ∧ W' = Lw ++ (a, u2) :: W) ?_ ?_
    · refine et_ne ok ?_
      refine ev_nm 14 ?_
      refine ev_if ?_
      refine et_eq ok ?_
      refine ev_nm 13 ?_
      refine ev_int ?_
      rcases hfD with ⟨rfl, rfl⟩ | ⟨rfl, rfl⟩
      · refine eqD_i (tbool (branch (fun _ => ?_) fun h => absurd h (by decide)))
        refine ev_int ?_
        exact eqD_i (tbool ⟨rfl, rfl⟩)
      · refine eqD_i (tbool (branch (fun h => absurd h (by decide)) fun _ => ?_))
        refine ev_tup ?_
        refine ea_cons ?_
        refine ev_str ?_
        refine ea_cons ?_
        refine ev_str ?_
        refine ea_cons ?_
        refine ev_int ?_
        refine ea_nil ?_
        refine allP_cons (allP_cons (allP_cons (allP_nil ⟨by show 3 ≤ 1000; omega, ?_⟩)))
        exact eqD_same (a := errT 24) (sh_errT _) (tbool ⟨rfl, rfl⟩)
    rintro b W' ⟨rfl, rfl⟩
    refine branch (fun h => nomatch h) fun _ => ?_
    refine wp_nil ?_
    refine wp_cons ?_
    refine w_st ok 15 ?_
    refine ev_make hPl ok Z.M Z.FI (by show 5 ≤ 11; omega) rfl Z.mC ?_
    refine ea_cons ?_
    refine ev_tup ?_
    refine ea_cons ?_
    refine ev_int ?_
    refine ea_cons ?_
    refine ev_int ?_
    refine ea_nil ?_
    refine allP_cons (allP_cons (allP_nil ⟨by show 2 ≤ 1000; omega, ?_⟩))
    refine ea_cons ?_
    refine ev_tup ?_
    refine ea_cons ?_
    refine ev_int ?_
    refine ea_cons ?_
    refine ev_int ?_
    refine ea_nil ?_
    refine allP_cons (allP_cons (allP_nil ⟨by show 2 ≤ 1000; omega, ?_⟩))
    refine ea_nil ?_
    refine ⟨RF.map rowD, rfl, by show 2 ≤ 1000; omega, fun x dx => ⟨x, dx, RF, [], _, rfl, by decide, by decide, rfl, fun j hj => ?_, fun _ => ⟨rfl, RF, _, rfl, ?_⟩⟩⟩
    · rw [badIx_okK RF_ok] at hj; cases hj
    refine wp_one ?_
    refine w_ret ?_
    refine ev_eq ok ?_
    refine ev_toldT (k := 9) hPl ok hTo rfl (by show 11 ≤ 11; omega) ?_
    refine ev_lam (some 0) TB rfl hT hq (lmS_by rfl) ?_
    refine ⟨_, _, _, some 0, rfl, lmS_by rfl, ⟨"_law_c", rfl, fun _ _ _ _ _ _ _ => ⟨_, rfl, rfl⟩⟩, fun A outer s Hb f c' G1 ok1 hL1 => ?_⟩
    refine ev_methC hL1 ok1 TC.cls Z.bm.mt Z.FW (by show 6 ≤ 9; omega) ?_
    refine ev_nm 15 ?_
    refine both ⟨_, rfl⟩ ?_
    refine ea_cons ?_
    refine ev_int ?_
    refine ea_cons ?_
    refine ev_int ?_
    refine ea_nil ?_
    refine ⟨[.tt RF], [.int ((1 : Nat) : Int), .int ((0 : Nat) : Int)], rfl, rfl, by show 2 ≤ 1000; omega, RF, [1, 0], rfl, RF_ok, by decide, by show 2 ≤ 1000; omega, fun j hj => ?_, fun hn => ?_⟩
    · rw [RF_bad] at hj
      obtain rfl : 0 = j := Option.some.inj hj
      refine ⟨.inr (.inr ⟨_, rfl⟩), ?_⟩
      refine ev_tup ?_
      refine ea_cons ?_
      refine ev_str ?_
      refine ea_cons ?_
      refine ev_str ?_
      refine ea_cons ?_
      refine ev_int ?_
      refine ea_nil ?_
      refine allP_cons (allP_cons (allP_cons (allP_nil ⟨by show 3 ≤ 1000; omega, ?_⟩)))
      exact eqD_same (a := errT 0) (sh_errT _) (k _)
    · rw [RF_bad] at hn
      cases hn

end Q
namespace Q
open PySem PySem.Spec PyProof.Rows L2
open Evl (Ex)
/-! ### InvalidTimetable -/
abbrev sXI : Stmt := inClass (topS 3) 0
theorem scXI : XiS "self" "index" (defScope sXI) := ⟨rfl, rfl, rfl, by decide +kernel, by decide +kernel, by decide +kernel, by decide +kernel, by decide +kernel, by decide +kernel, by decide +kernel⟩
theorem str100 : ∀ k : Fin 100, (toString ((k.val : Nat) : Int) : Str).length ≤ 1000 := by decide +kernel
theorem xiMsg {X : Cx} (hN : X.N[1]? = some ("index" : Str)) (hv : Vis X.env.scope "index") {j0 j3 : Nat} {p0 p1 p2 p3 p4 : Pos} : PE X (.JoinedStr [.Constant (.str "row ") j0 p0, .FormattedValue (.Name "index" p1) (-1) none p2, .Constant (.str " makes no timetable") j3 p3] p4)
    (fun σ H Q => (∃ y, σ[1]? = some (some y) ∧ ∃ i : Int, y = .int i ∧ 0 ≤ i ∧ i < 100) ∧ ∀ v, Q v H) := by
  refine ⟨fun pins s σ H Q I h => ?_⟩
  obtain ⟨⟨y, hy, i, rfl, h0, h1⟩, q⟩ := h
  obtain ⟨n, rfl⟩ := Int.eq_ofNat_of_zero_le h0
  have hs := str100 ⟨n, by omega⟩
  have hs : (toString ((n : Nat) : Int) : Str).length ≤ 1000 := hs
  have c1 : (Str.empty ++ "row " : Str).length ≤ 100 := by decide +kernel
  have c2 : (" makes no timetable" : Str).length ≤ 100 := by decide +kernel
  have sz : ∀ n : Nat, n ≤ 10000 → n ≤ sizeLine := fun n h => by rw [sizeLine_eq]; omega
  refine (pe_joined (.cons pe_str (.cons (pe_fmt (pe_var (i := 1) hN hv (by decide) (by decide))) (.cons pe_str .nil)))).run pins s σ H Q I ?_
  refine ⟨_, rfl, sz _ (by omega), ?_⟩
  refine ⟨.int (n : Int), hy, .inr ⟨(n : Int), rfl, Nat.lt_of_le_of_lt (Nat.log2_le_self _) (by omega), ?_⟩⟩
  refine ⟨_, rfl, sz _ (by rw [PySem.Str.length_append]; omega), ?_⟩
  refine ⟨_, rfl, sz _ (by rw [PySem.Str.length_append, PySem.Str.length_append]; omega), ?_⟩
  exact q _
abbrev fdXI (kV doc pm : Value) (an : Option Addr) (cdv ct : Value) (cl : Addr) : FuncData := xiFn "InvalidTimetable.__init__" (defArgs sXI) (defBody sXI) (defScope sXI) kV doc pm an cdv ct cl
theorem raI_of {L : Pl} {fT cl : Addr} {kV doc pm cdv ct : Value} {an : Option Addr} (iC : PySem.W.findIn L.K (.ref L.cT) "__init__" = some (some (.ref fT))) (tI : PySem.W.typeIn L.K (.ref fT) = some (.type "function")) (mT : L.mg "InvalidTimetable" = some (.ref L.cT))
    (Z : XiK L.K L.P L.mg L.base L.cT fT cl "InvalidTimetable.__init__" "index" (defScope sXI) (fdXI kV doc pm an cdv ct cl)) : RaI L 2 := by
  refine ⟨Z.T, ⟨fT, fdXI kV doc pm an cdv ct cl, ["self", "index"], iC, tI, ?_, .all fun us hl => ?_⟩, mT⟩
  · exact xi_ok (k := 1) (a := "self") (b := "index") Z scXI rfl rfl (fun A outer s H E _ => xiMsg rfl (Or.inl rfl))
  · match us, hl with
    | [_, _], _ => rfl
theorem exT_of {L : Pl} (m : L.mg "InvalidTimetable" = some (.ref L.cT)) (hN : PySem.W.exmOne L.K (.ref L.cN) (.ref L.cT) = some false) (hL : PySem.W.exmOne L.K (.ref L.cL) (.ref L.cT) = some false) (hA : PySem.W.exmOne L.K (.ref L.cA) (.ref L.cT) = some false) (hT : PySem.W.exmOne L.K (.ref L.cT) (.ref L.cT) = some true) : ExT L := by
  refine ⟨m, fun xc cls d H xr => ?_⟩
  cases xc with
  | num => obtain ⟨rfl, _⟩ : cls = .ref L.cN ∧ d = none := xr; exact hN
  | nol => obtain ⟨rfl, _⟩ : cls = .ref L.cL ∧ d = none := xr; exact hL
  | noa => obtain ⟨rfl, _⟩ : cls = .ref L.cA ∧ d = none := xr; exact hA
  | tab i => rw [show cls = .ref L.cT from xr.1]; exact hT

end Q
namespace Q
open PySem PySem.Spec PyProof.Rows L2
open Evl (Ex)
/-! ### the law's promise -/
def noTbl (H : Hp) : Hp := fun b => match H b with
  | some (.tbl _) => none
  | o => o
theorem noTbl_ex (H : Hp) : Ex (noTbl H) H := fun a o e => by
  unfold noTbl at e
  split at e
  · cases e
  · exact e
theorem noTbl_nt (H : Hp) : ∀ b ps, noTbl H b ≠ some (.tbl ps) := fun b ps e => by
  unfold noTbl at e
  split at e
  · cases e
  · rename_i h
    exact h ps e
theorem noTbl_at {H : Hp} {a : Addr} {o : HO} (h : H a = some o) (hn : ∀ ps, o ≠ .tbl ps) : noTbl H a = some o := by
  unfold noTbl
  split
  · rename_i ps e
    rw [h] at e
    exact absurd (Option.some.inj e) (hn ps)
  · exact h
theorem noTbl_sq {K : PySem.W.Frag} {H : Hp} {a : Addr} {xs : List V} (h : SqL K H a xs) : SqL K (noTbl H) a xs := by
  rcases h with h | h
  · refine .inl ?_
    rcases h with h | ⟨ob, h⟩
    · exact .inl (noTbl_at h fun ps z => nomatch z)
    · exact .inr ⟨ob, noTbl_at h fun ps z => nomatch z⟩
  · exact .inr h
def spLaw (K : PySem.W.Frag) (Pt P2 : Addr) : Sp := fun vs H Q E => ∃ (a : Addr) (ns : List Int), vs = [.ref a] ∧ SqL K H a (ns.map V.int) ∧ H Pt = some (.tbl #[]) ∧ H P2 = some (.tbl #[]) ∧ ∀ H', Q (.bl true) H'
theorem law_fn {L : Pl} {gt CS fi pr gr pp gp pg gg gl gb gi ga ge gw p g P2 c Pt fl : Addr} {mc : Value} {fdT : FuncData} {oc kV doc pm ct : Value} {od an : Option Addr} {osl : Array (Option Value)} (Z : AllC L gt CS fi pr gr pp gp pg gg gl gb gi ga ge gw p g P2 mc fdT) (TB : LamX.TabB L.base L.mg c Pt) (ne : Pt ≠ P2)
    (lk : L.K.lookup fl = some ⟨oc, od, .func (PySem.W.fnOf "law" "law" (defArgs sLaw) (defBody sLaw) (defScope sLaw) .none kV doc pm an (.ref c) ct), osl⟩) (hcd : PySem.W.codeIn L.K (.ref c) "law" = true) :
    FnOk L.P L.w L.K L.mg L.base (L2.CX L.P L.w) 12 fl (PySem.W.fnOf "law" "law" (defArgs sLaw) (defBody sLaw) (defScope sLaw) .none kV doc pm an (.ref c) ct) ["_law_script"] (spLaw L.K Pt P2) := by
  refine fn_of lk hcd scLaw (fun vs H Q E ⟨a, ns, e, _⟩ => by rw [e] <;> rfl) fun A outer s H vs Q E hr hsp => ?_
  obtain ⟨a, ns, rfl, hs, hP, hP2, q⟩ := hsp
  have q0 : ∀ H', Q (.bl true) H' := q
  have mem : ∀ z ∈ [(Pt, (envOfC "law" (defScope sLaw) s.heap.objs.size fl (.ref c)).qual ++ "<lambda>"), (P2, qBR)], z = (Pt, (envOfC "law" (defScope sLaw) s.heap.objs.size fl (.ref c)).qual ++ "<lambda>") ∨ z = (P2, qBR) := fun z hz => by
    rcases List.mem_cons.mp hz with h | h
    · exact .inl h
    · exact .inr (List.mem_singleton.mp h)
  have hH : Hs L.K L.C [(Pt, (envOfC "law" (defScope sLaw) s.heap.objs.size fl (.ref c)).qual ++ "<lambda>"), (P2, qBR)] (noTbl H) [] H :=
    ⟨noTbl_ex H, (fun _ z => nomatch z), (fun _ z => nomatch z), List.nodup_nil, fun z hz => by
      rcases mem z hz with rfl | rfl
      · exact LamX.TabS.nil hP
      · exact LamX.TabS.nil hP2, noTbl_nt H⟩
  have ok := ct_ok (L := L) (N := nLaw) (qual := "law") (scope := defScope sLaw) (f := fl) (cd := .ref c) (A := A) (outer := outer) (s := s) (H := H) (E := E) (T := [(Pt, (envOfC "law" (defScope sLaw) s.heap.objs.size fl (.ref c)).qual ++ "<lambda>"), (P2, qBR)]) (G := noTbl H) (Ξ := fun _ _ => False) (k := 11) hr scLaw.nd (fun _ _ _ _ _ _ _ _ _ z => z.elim)
  have z := law_ok Z TB (f' := fl) List.mem_cons_self (fun y hy e => by
      rcases mem y hy with rfl | rfl
      · rfl
      · exact absurd e.symm ne) ⟨List.mem_cons_of_mem _ (List.mem_singleton.mpr rfl), fun y hy e => by
      rcases mem y hy with rfl | rfl
      · exact absurd e ne
      · rfl⟩ ok ns [] (fun d W => d = .p (.bool true)) (fun _ => rfl)
  refine ⟨_, pss_sem, z (L2.start nLaw [.ref a]) (noTbl H) H (Ex.refl _) hH (startE_ok (.cons (d := .scr ns) ⟨a, rfl, noTbl_sq hs⟩ .nil)) _ ⟨fun σ G2 H2 env W2 e2 h2 s2 k2 => (by cases k2), fun v G2 H2 d W2 e2 h2 r2 k2 => ?_, fun _ _ _ _ _ _ _ _ z => z, fun _ _ _ _ _ _ _ _ z => z⟩⟩
  subst k2
  cases (show Rp G2 v (.bool true) from r2)
  exact q0 _

end Q
namespace Q
open PySem PySem.Spec PyProof.Rows L2
open Evl (Ex)
/-! ### from what the top has written -/
structure FunIn (K : PySem.W.Frag) (x : Str) (st : Stmt) : Prop where
  ex : ∃ (f : Addr) (fd : FuncData), PySem.W.nsIn K mainGlobals x = some (some (.ref f)) ∧ Fun K x x st f fd
theorem funIn {K : PySem.W.Frag} {x : Str} {st : Stmt} {f : Addr} {oc kV dc pm cd ct : Value} {od an : Option Addr} {sl : Array (Option Value)} (a : PySem.W.nsIn K mainGlobals x = some (some (.ref f)))
    (l : K.lookup f = some ⟨oc, od, .func (PySem.W.fnOf x x (defArgs st) (defBody st) (defScope st) .none kV dc pm an cd ct), sl⟩) (c : PySem.W.codeIn K cd x = true) (k : PySem.W.keepIn K (.ref f) = true) : FunIn K x st := ⟨f, _, a, fun_mk l c k⟩
/-- a method of the class -/
structure MetIn (K : PySem.W.Frag) (q : Str) (x : Str) (st : Stmt) (g : Addr) : Prop where
  ex : ∃ fd : FuncData, Fun K x q st g fd
theorem metIn {K : PySem.W.Frag} {x q : Str} {st : Stmt} {f : Addr} {oc kV dc pm cd ct : Value} {od an : Option Addr} {sl : Array (Option Value)}
    (l : K.lookup f = some ⟨oc, od, .func (PySem.W.fnOf x q (defArgs st) (defBody st) (defScope st) .none kV dc pm an cd ct), sl⟩) (c : PySem.W.codeIn K cd q = true) (k : PySem.W.keepIn K (.ref f) = true) : MetIn K q x st f := ⟨_, fun_mk l c k⟩
theorem defC {L : Pl} {h : Heap} {x : Str} {st : Stmt} {k : Nat} {Cn : Con} (X : L.K.In h) (G : h.Ns mainGlobals L.mg) (F : FunIn L.K x st) (ok : ∀ (f : Addr) (fd : FuncData), Fun L.K x x st f fd → FnC L k f Cn) : DefC L x k Cn := by
  obtain ⟨f, fd, a, Fn⟩ := F.ex
  exact ⟨f, ok f fd Fn, PySem.W.mg_of X G a, Fn.kp⟩
/-- an own exception without __init__ -/
structure ErrK (K : PySem.W.Frag) (x : Str) (c : Addr) : Prop where
  n : PySem.W.nsIn K mainGlobals x = some (some (.ref c))
  q : ∃ (B newId initId : String) (bmB : List Value), ExcBaseFacts B newId initId bmB ∧ PySem.W.excIn K c bmB newId = true
  k : PySem.W.keepIn K (.ref c) = true
  r1 : PySem.W.subIn K (.ref c) (.type "BaseException") = some true
  r2 : PySem.W.typeIn K (.ref c) = some (.type "type")
theorem ErrK.p {K : PySem.W.Frag} {x : Str} {c : Addr} {P : Program} {w : World} (e : ErrK K x c) : ExcP K P w c := ⟨e.q, e.k, fun Y hY => raises_own (by rw [hY]; exact e.r1) (by rw [hY]; exact e.r2)⟩
/-- the class Timetable in the text -/
structure ClsK (K : PySem.W.Frag) (C fi ps gs : Addr) (mc : Value) : Prop where
  nC : PySem.W.nsIn K mainGlobals "Timetable" = some (some (.ref C))
  mkr : Mk K C fi
  cls : Cls K C
  rows : NoAttr K C "_rows"
  rd : ClX.CRead K C mc
  cm : ClX.CMet K C mc "simple" ps gs
  mI : MetIn K "Timetable.__init__" "__init__" sInit fi
  mS : MetIn K "Timetable.simple" "simple" sSimple gs
/-- the built-in names, the constants -/
structure BuiK (K : PySem.W.Frag) : Prop where
  zs : ∀ x ∈ ["len", "int", "str", "min", "max", "sum", "list", "tuple", "range", "divmod", "isinstance", "bool", "any", "enumerate", "zip", "ValueError"], PySem.W.nsIn K mainGlobals (Str.ofString x) = some none
  g1 : ∃ t, PySem.W.nsIn K mainGlobals "LAST" = some (some (.int 1000000000000000000 t))
  g2 : ∃ t, PySem.W.nsIn K mainGlobals "MOST_ROWS" = some (some (.int 24 t))
  g3 : ∃ t, PySem.W.nsIn K mainGlobals "MOST_IN_ROW" = some (some (.int 9 t))
  g4 : ∃ t, PySem.W.nsIn K mainGlobals "FIGURES" = some (some (.str "0123456789" t))
theorem BuiK.b {K : PySem.W.Frag} {mg : Str → Option Value} {h : Heap} (Z : BuiK K) (X : K.In h) (G : h.Ns mainGlobals mg) : Blt mg := by
  have z := Z.zs
  exact ⟨PySem.W.mg_none_of X G (z "len" (by simp)), PySem.W.mg_none_of X G (z "int" (by simp)), PySem.W.mg_none_of X G (z "str" (by simp)), PySem.W.mg_none_of X G (z "min" (by simp)), PySem.W.mg_none_of X G (z "max" (by simp)), PySem.W.mg_none_of X G (z "sum" (by simp)), PySem.W.mg_none_of X G (z "list" (by simp)), PySem.W.mg_none_of X G (z "tuple" (by simp)), PySem.W.mg_none_of X G (z "range" (by simp)), PySem.W.mg_none_of X G (z "divmod" (by simp)), PySem.W.mg_none_of X G (z "isinstance" (by simp)), PySem.W.mg_none_of X G (z "bool" (by simp)), PySem.W.mg_none_of X G (z "any" (by simp)), PySem.W.mg_none_of X G (z "enumerate" (by simp)), PySem.W.mg_none_of X G (z "zip" (by simp))⟩
theorem BuiK.g {K : PySem.W.Frag} {mg : Str → Option Value} {h : Heap} (Z : BuiK K) (X : K.In h) (G : h.Ns mainGlobals mg) : Glo mg := by
  obtain ⟨t1, h1⟩ := Z.g1
  obtain ⟨t2, h2⟩ := Z.g2
  obtain ⟨t3, h3⟩ := Z.g3
  obtain ⟨t4, h4⟩ := Z.g4
  exact ⟨⟨t1, PySem.W.mg_of X G h1⟩, ⟨t2, PySem.W.mg_of X G h2⟩, ⟨t3, PySem.W.mg_of X G h3⟩, ⟨t4, PySem.W.mg_of X G h4⟩⟩

end Q
namespace Q
open PySem PySem.Spec PyProof.Rows L2
open Evl (Ex)
/-- a method of the class that is also taken as a value -/
structure BMK (K : PySem.W.Frag) (C g : Addr) (m : Str) : Prop where
  at_ : PySem.W.findIn K (.ref C) m = some (some (.ref g))
  fn : PySem.W.isFn K (.ref g) = true
  kp : PySem.W.keepIn K (.ref g) = true
  gf : PySem.W.specialIn K (.ref g) "__get__" = some (some (.builtin "function.__get__"))
  tk : PySem.W.takesIn K (.ref g) = some false
  fi : PySem.W.fnIn K g = true
theorem bmeth {K : PySem.W.Frag} {C g : Addr} (b : BMK K C g "with_answers") : BMeth K C "with_answers" g := ⟨⟨b.at_, b.fn, b.kp⟩, b.gf, b.tk, by decide +kernel, b.fi⟩
structure InvK (K : PySem.W.Frag) (P : Program) (C : Addr) : Prop where
  n : PySem.W.nsIn K mainGlobals "super" = some none
  X : ∃ (f cl : Addr) (kV doc pm cdv ct : Value) (an : Option Addr), PySem.W.findIn K (.ref C) "__init__" = some (some (.ref f)) ∧ PySem.W.typeIn K (.ref f) = some (.type "function") ∧ ∀ (mg : Str → Option Value) (base : Heap), mg "super" = none → XiK K P mg base C f cl "InvalidTimetable.__init__" "index" (defScope sXI) (fdXI kV doc pm an cdv ct cl)
theorem inv_mk {K : PySem.W.Frag} {P : Program} {C f cl cc : Addr} {kV doc pm ct : Value} {an : Option Addr} {oc : Value} {od : Option Addr} {osl : Array (Option Value)} {ccl : Value} {cdd : Option Addr} {vs : Array Value} {ccs : Array (Option Value)} {file : Str} {tf : Tok} {oa : Value} {ob : Option Addr} {oe : Array (Option Value)}
    (a1 : PySem.W.nsIn K mainGlobals "super" = some none) (a2 : PySem.W.findIn K (.ref C) "__init__" = some (some (.ref f))) (a3 : PySem.W.typeIn K (.ref f) = some (.type "function"))
    (a4 : K.lookup f = some ⟨oc, od, .func (fdXI kV doc pm an (.ref cc) ct cl), osl⟩) (a5 : K.lookup cc = some ⟨ccl, cdd, .fields vs, ccs⟩) (a6 : vs[2]? = some (.str file tf)) (a7 : ((P.main.file : Str) == file) = true) (a8 : PySem.W.codeIn K (.ref cc) "InvalidTimetable.__init__" = true)
    (a9 : (P.main.scope.names.lookup ("super" : Str)).isSome = false) (b1 : K.lookup cl = some ⟨oa, ob, .cell (some (.ref C)), oe⟩)
    (b2 : OexC K C) (b3 : PySem.W.mroIn K C (.ref C) = some true) (b4 : PySem.W.nsIn K cStatics "thirdparty.any" = some none) (b5 : PySem.W.ks_superIn K C C "__init__" = some (some (.builtin "ValueError.__init__"))) (b6 : PySem.W.subIn K (.ref C) (.type "ValueError") = some true) (b7 : PySem.W.findIn K (.ref C) "index" = some none) : InvK K P C :=
  ⟨a1, f, cl, kV, doc, pm, .ref cc, ct, an, a2, a3, fun mg base sup => ⟨⟨_, _, _, a4⟩, ⟨cc, _, _, vs, _, file, tf, rfl, a5, a6, a7, a8⟩, a9, ⟨_, _, _, b1⟩, b2, b3, b4, b5, b6, b7, sup⟩⟩
theorem oex_mk {K : PySem.W.Frag} {C N : Addr} {nm q : Str} {bs bm : List Value} {sn : List Str} {sub : List Value} {ab : Bool} {col : Option Bool} {dd : Option Addr} {k0 k1 k2 k3 k5 : Option Value} (h : K.lookup C = some (excClassObj nm q C N bs bm true sn sub ab col dd k0 k1 k2 k3 k5 "ValueError.__new__")) (h0 : PySem.HandSPX.refsVE bm = true) (h2 : PySem.W.findIn K (.ref C) "__setattr__" = some (some (.builtin "object.__setattr__"))) (h3 : PySem.W.subIn K (.ref C) (.type "BaseException") = some true) (h4 : PySem.W.typeIn K (.ref C) = some (.type "type")) (h5 : PySem.W.keepIn K (.ref C) = true) : OexC K C :=
  ⟨⟨nm, q, N, bs, bm, sn, sub, ab, col, dd, k0, k1, k2, k3, k5, h, h0⟩, h2, h3, h4, h5⟩
/-- what isinstance asks of the class -/
structure ClsI (K : PySem.W.Frag) (C : Addr) : Prop where
  ha : PySem.W.findIn K (.ref C) "__class__" = some (some (.builtin "object.__class__"))
  hn : PySem.W.specialIn K (.builtin "object.__class__") "__get__" = some (some (.builtin "getset_descriptor.__get__"))
  ht : PySem.W.takesIn K (.builtin "object.__class__") = some true
  hm : PySem.W.mroIn K C (.type "object") = some true
theorem insC {K : PySem.W.Frag} {C : Addr} (c : Cls K C) (i : ClsI K C) : C8.InsC K C := ⟨c, i.ha, i.hn, i.ht, i.hm, by
  unfold PySem.W.kitOne
  rw [if_pos (by simp)]⟩
structure BRK (K : PySem.W.Frag) (f c P : Addr) : Prop where
  n : PySem.W.nsIn K mainGlobals "_law_bad_rows" = some (some (.ref f))
  lk : ∃ (oc kV doc pm ct : Value) (od an : Option Addr) (osl : Array (Option Value)), K.lookup f = some ⟨oc, od, .func (PySem.W.fnOf "_law_bad_rows" "_law_bad_rows" (defArgs sBR) (defBody sBR) (defScope sBR) .none kV doc pm an (.ref c) ct), osl⟩
  cd : PySem.W.codeIn K (.ref c) "_law_bad_rows" = true
  kp : PySem.W.keepIn K (.ref f) = true
  hd : PySem.W.codeHdIn K c P = true
  nT : K.lookup P = none
theorem brk_mk {K : PySem.W.Frag} {f c P : Addr} {oc kV doc pm ct : Value} {od an : Option Addr} {osl : Array (Option Value)} (a1 : PySem.W.nsIn K mainGlobals "_law_bad_rows" = some (some (.ref f)))
    (a2 : K.lookup f = some ⟨oc, od, .func (PySem.W.fnOf "_law_bad_rows" "_law_bad_rows" (defArgs sBR) (defBody sBR) (defScope sBR) .none kV doc pm an (.ref c) ct), osl⟩) (a3 : PySem.W.codeIn K (.ref c) "_law_bad_rows" = true) (a4 : PySem.W.keepIn K (.ref f) = true) (a5 : PySem.W.codeHdIn K c P = true) (a6 : K.lookup P = none) : BRK K f c P :=
  ⟨a1, ⟨_, _, _, _, _, _, _, _, a2⟩, a3, a4, a5, a6⟩
theorem kit_tup {K : PySem.W.Frag} {c : Addr} (h1 : PySem.W.isClsIn K c = true) (h2 : PySem.W.typeIn K (.ref c) = some (.type "type")) (h3 : PySem.W.subIn K (.type "tuple") (.ref c) = some false) : PySem.W.kitOne K (.type "tuple") (.ref c) = some false := by
  have h1' : (PySem.W.clsIn K c).isSome = true := h1
  unfold PySem.W.kitOne
  rw [if_neg (show ¬ ((Value.type "tuple" == Value.ref c) = true) from fun z => by cases (beq_iff_eq.mp z))]
  show (if ((PySem.W.clsIn K c).isSome && PySem.W.typeIn K (.ref c) == some (.type "type")) = true then PySem.W.subIn K (.type "tuple") (.ref c) else none) = some false
  rw [if_pos (by rw [h1', h2] <;> rfl)]
  exact h3
structure TxtK (K : PySem.W.Frag) (P : Program) (C cS cN cL cA cT fi ps gs pr gr gb pp gp pg gg gw gl gi ga ge fb cb P2 : Addr) (mc : Value) : Prop where
  c : ClsK K C fi ps gs mc
  ic : ClsI K C
  eN : ErrK K "InvalidNumber" cN
  eL : ErrK K "NoLetters" cL
  nA : PySem.W.nsIn K mainGlobals "NoAnswer" = some (some (.ref cA))
  nS : PySem.W.nsIn K mainGlobals "PileError" = some (some (.ref cS))
  nT : PySem.W.nsIn K mainGlobals "InvalidTimetable" = some (some (.ref cT))
  iT : InvK K P cT
  pR : PropOf K C "rows" pr gr
  pP : PropOf K C "letters_per_round" pp gp
  pG : PropOf K C "growth" pg gg
  bo : BoolO K C gb
  lo : LenO K C gl
  gO : GetO K C gi
  ao : AddO K C ga
  eo : EqO K C ge
  bw : BMK K C gw "with_answers"
  mL : MetIn K "Timetable.__len__" "__len__" sLen gl
  mR : MetIn K "Timetable.rows" "rows" sRp gr
  mP : MetIn K "Timetable.letters_per_round" "letters_per_round" sLpr gp
  mG : MetIn K "Timetable.growth" "growth" sGrow gg
  mB : MetIn K "Timetable.__bool__" "__bool__" sBool gb
  mI2 : MetIn K "Timetable.__getitem__" "__getitem__" sGet gi
  mA : MetIn K "Timetable.__add__" "__add__" sAdd ga
  mE : MetIn K "Timetable.__eq__" "__eq__" sEq ge
  mW : MetIn K "Timetable.with_answers" "with_answers" sWA gw
  lcm : PySem.W.nsIn K mainGlobals "lcm" = some (some (.builtin "math.lcm"))
  br : BRK K fb cb P2
  b : BuiK K
  f_is_number : FunIn K "is_number" (topS 9)
  f_check_number : FunIn K "check_number" (topS 10)
  f_letters_in : FunIn K "letters_in" (topS 12)
  f_growth_of : FunIn K "growth_of" (topS 13)
  f__is_row : FunIn K "_is_row" (topS 20)
  f__first_wrong : FunIn K "_first_wrong" (topS 21)
  f__figures : FunIn K "_figures" (topS 22)
  f__simple_rows : FunIn K "_simple_rows" (topS 23)
  f__added_rows : FunIn K "_added_rows" (topS 24)
  f__law_dice : FunIn K "_law_dice" (topS 27)
  f__law_next : FunIn K "_law_next" (topS 28)
  f__law_pick : FunIn K "_law_pick" (topS 29)
  f__law_rows : FunIn K "_law_rows" (topS 31)
  f__law_made : FunIn K "_law_made" (topS 32)
  f__law_told : FunIn K "_law_told" (topS 30)
  f__law_gain : FunIn K "_law_gain" (topS 33)
  f__law_sum : FunIn K "_law_sum" (topS 35)
  exN : PySem.W.exmOne K (.ref cN) (.ref cS) = some true
  ecN : ExcC K cN
  kTN : PySem.W.kitOne K (.ref cN) (.ref cT) = some false
  kNN : PySem.W.kitOne K (.ref cN) (.ref cN) = some true
  kLN : PySem.W.kitOne K (.ref cN) (.ref cL) = some false
  kAN : PySem.W.kitOne K (.ref cN) (.ref cA) = some false
  kVN : PySem.W.kitOne K (.ref cN) (.type "ValueError") = some true
  nSIN : PySem.W.subIn K (.ref cN) (.type "StopIteration") = some false
  exL : PySem.W.exmOne K (.ref cL) (.ref cS) = some true
  ecL : ExcC K cL
  kTL : PySem.W.kitOne K (.ref cL) (.ref cT) = some false
  kNL : PySem.W.kitOne K (.ref cL) (.ref cN) = some false
  kLL : PySem.W.kitOne K (.ref cL) (.ref cL) = some true
  kAL : PySem.W.kitOne K (.ref cL) (.ref cA) = some false
  kVL : PySem.W.kitOne K (.ref cL) (.type "ValueError") = some true
  nSIL : PySem.W.subIn K (.ref cL) (.type "StopIteration") = some false
  exT : PySem.W.exmOne K (.ref cT) (.ref cS) = some true
  ecT : ExcC K cT
  kNX : PySem.W.kitOne K (.ref cT) (.ref cN) = some false
  kLX : PySem.W.kitOne K (.ref cT) (.ref cL) = some false
  kAX : PySem.W.kitOne K (.ref cT) (.ref cA) = some false
  kVX : PySem.W.kitOne K (.ref cT) (.type "ValueError") = some true
  xfX : XfC K cT
  cTC : PySem.W.isClsIn K C = true
  tTC : PySem.W.typeIn K (.ref C) = some (.type "type")
  sTC : PySem.W.subIn K (.type "tuple") (.ref C) = some false
theorem all_ok {P : Program} {w : World} {K : PySem.W.Frag} {mg : Str → Option Value} {h : Heap} {C cS cN cL cA cT fi ps gs pr gr gb pp gp pg gg gw gl gi ga ge fb cb P2 : Addr} {mc : Value} (X : K.In h) (G : h.Ns mainGlobals mg) (Z : TxtK K P C cS cN cL cA cT fi ps gs pr gr gb pp gp pg gg gw gl gi ga ge fb cb P2 mc) : ∃ (gt : Addr) (fdT : FuncData), ∀ base : Heap, LamX.TabB base mg cb P2 → AllC ⟨P, w, K, mg, base, C, cN, cL, cA, cT⟩ gt cS fi pr gr pp gp pg gg gl gb gi ga ge gw ps gs P2 mc fdT := by
  obtain ⟨gt, fdT, aT, FT⟩ := Z.f__law_told.ex
  refine ⟨gt, fdT, fun base TB2 => ?_⟩
  have B : Blt mg := Z.b.b X G
  have Gs : Glo mg := Z.b.g X G
  have TC : TCl K C := ⟨Z.c.cls, Z.c.rows⟩
  have IC : C8.InsC K C := insC Z.c.cls Z.ic
  have mLcm := PySem.W.mg_of X G Z.lcm
  have mN := PySem.W.mg_of X G Z.eN.n
  have mL := PySem.W.mg_of X G Z.eL.n
  have mTT := PySem.W.mg_of X G Z.c.nC
  let L : Pl := ⟨P, w, K, mg, base, C, cN, cL, cA, cT⟩
  have mS := PySem.W.mg_of X G Z.nS
  have mA := PySem.W.mg_of X G Z.nA
  have mT := PySem.W.mg_of X G Z.nT
  have mV := PySem.W.mg_none_of X G (Z.b.zs "ValueError" (by simp))
  have hX : RaI L 2 ∧ PySem.W.findIn K (.ref cT) "index" = some none := by
    obtain ⟨f, cl, kV, doc, pm, cdv, ct, an, iC, tI, z⟩ := Z.iT.X
    have zz := z mg base (PySem.W.mg_none_of X G Z.iT.n)
    exact ⟨raI_of (L := L) iC tI mT zz, zz.no⟩
  obtain ⟨R, noX⟩ := hX
  have dNum : DefC L "is_number" 1 cIsNum := defC X G Z.f_is_number fun f fd F => okIsNum B F
  have dChk : DefC L "check_number" 2 cCheck := defC X G Z.f_check_number fun f fd F => okCheck B Z.eN.p mN dNum F
  have dRow : DefC L "_is_row" 2 cIsRow := defC X G Z.f__is_row fun f fd F => okIsRow B Gs dNum F
  have dFW : DefC L "_first_wrong" 3 cFW := defC X G Z.f__first_wrong fun f fd F => okFW B Gs dRow F
  have dRowG : DefC L "_is_row" 2 cIsRowG := defC X G Z.f__is_row fun f fd F => okIsRowG B Gs dNum F
  have dFWG : DefC L "_first_wrong" 3 cFWG := defC X G Z.f__first_wrong fun f fd F => okFWG B Gs dRowG F
  have dRowD : DefC L "_is_row" 2 cIsRowD := defC X G Z.f__is_row fun f fd F => okIsRowD B Gs dNum F
  have dFWb : DefC L "_first_wrong" 3 cFWb := defC X G Z.f__first_wrong fun f fd F => okFWb B Gs dRowD F
  have dFig : DefC L "_figures" 1 cFig := defC X G Z.f__figures fun f fd F => okFig B Gs F
  have dSR : DefC L "_simple_rows" 2 cSR := defC X G Z.f__simple_rows fun f fd F => okSR B dFig F
  have dGO : DefC L "growth_of" 1 cGO := defC X G Z.f_growth_of fun f fd F => okGO B F
  have dLI : DefC L "letters_in" 1 cLI := defC X G Z.f_letters_in fun f fd F => okLI B F
  obtain ⟨fdI, FI⟩ := Z.c.mI.ex
  obtain ⟨fdS, FS⟩ := Z.c.mS.ex
  obtain ⟨fdR, FR⟩ := Z.mR.ex
  obtain ⟨fdP, FP⟩ := Z.mP.ex
  obtain ⟨fdG, FG⟩ := Z.mG.ex
  obtain ⟨fdB, FB⟩ := Z.mB.ex
  obtain ⟨fdL, FL⟩ := Z.mL.ex
  obtain ⟨fdi, Fi⟩ := Z.mI2.ex
  obtain ⟨fdA, FA⟩ := Z.mA.ex
  obtain ⟨fdE, FE⟩ := Z.mE.ex
  obtain ⟨fdW, FW⟩ := Z.mW.ex
  have hI := okInit (L := L) B TC dFW FI
  have hIG := okInitG (L := L) B TC dFWG R FI
  have hIB := okInitB (L := L) B dFWb R FI
  have hS := okSimple (L := L) Z.c.mkr hI dSR FS
  have hSb := okSimpleB (L := L) Z.c.mkr hIB dSR FS
  have hL := okLen (L := L) B TC FL
  have hGi := okGet (L := L) B TC Gs.last dChk Fi
  have dAdd : DefC L "_added_rows" 5 cAdded := defC X G Z.f__added_rows fun f fd F => okAdded (L := L) B mLcm Z.lo hL Z.gO hGi F
  have dN : DefC L "_law_next" 1 cNext := defC X G Z.f__law_next fun f fd F => okNext B F
  have dP : DefC L "_law_pick" 2 cPick := defC X G Z.f__law_pick fun f fd F => okPick B dN F
  have kTC := kit_tup Z.cTC Z.tTC Z.sTC
  have Er : Errs L.K L.mg cS L.cN L.cL L.cA L.cT := ⟨mS, mN, mL, mA, mT, mV, ⟨Z.exN, Z.ecN, Z.kTN, Z.kNN, Z.kLN, Z.kAN, Z.kVN⟩, ⟨Z.exL, Z.ecL, Z.kTL, Z.kNL, Z.kLL, Z.kAL, Z.kVL⟩⟩
  have ErX : ErT L.K cS L.cN L.cL L.cA L.cT := ⟨Z.exT, Z.ecT, Z.kNX, Z.kLX, Z.kAX, Z.kVX, Z.xfX, noX⟩
  have mTo : L.mg "_law_told" = some (.ref gt) := PySem.W.mg_of X G aT
  obtain ⟨oc, kV, doc, pm, ct, od, an, osl, blk⟩ := Z.br.lk
  have dBR : DefT L (PTab P2) "_law_bad_rows" 8 cBR := ⟨fb, brEq (L := L) blk Z.br.cd Z.br.kp TB2 B Er ErX FT mTo mTT Z.c.mkr hIB dN dP, PySem.W.mg_of X G Z.br.n, Z.br.kp⟩
  exact
    { B := B
      TC := TC
      dDice := defC X G Z.f__law_dice fun f fd F => okDice B F
      dNext := dN
      dPick := dP
      dRows := defC X G Z.f__law_rows fun f fd F => okRows B dN F
      dMade := defC X G Z.f__law_made fun f fd F => okMade (L := L) B ⟨mTT, Z.c.rd, Z.c.cm⟩ hS F
      dGain := defC X G Z.f__law_gain fun f fd F => okGain B F
      dSm := defC X G Z.f__law_sum fun f fd F => okSm B F
      dBR := dBR
      PR := Z.pR
      FR := okRp (L := L) TC FR
      PP := Z.pP
      FP := okLpr (L := L) TC dLI FP
      PG := Z.pG
      FGr := okGrow (L := L) TC dGO FG
      lo := Z.lo
      FL := hL
      bo := Z.bo
      FB := okBool (L := L) B TC FB
      gO := Z.gO
      FG := hGi
      FGb := okGetB (L := L) Gs.last dChk Fi
      ao := Z.ao
      FA := okAddG (L := L) B mTT IC Z.c.mkr hIG dAdd FA
      eo := Z.eo
      FE := okEq (L := L) B TC mTT IC Z.pR (okRp (L := L) TC FR) FE
      FEd := okEqD (L := L) B mTT FE
      bm := bmeth Z.bw
      FW := okWAG (L := L) B TC mTT Z.c.mkr hIG dChk FW
      FWn := okWAn (L := L) B TC dChk FW
      rd := Z.c.rd
      cm := Z.c.cm
      FS := hS
      FSb := hSb
      M := Z.c.mkr
      FI := hIG
      mC := mTT
      Er := Er
      ErX := ErX
      FT := FT
      mT := mTo
      sT := Z.sTC
      kT := kTC }
theorem law_at {l : PySem.W.OpenLaw} {w : World} {K : PySem.W.Frag} {mg : Str → Option Value} {h : Heap} {fa fl c P C cS cN cL cA cT fi ps gs pr gr gb pp gp pg gg gw gl gi ga ge fb cb P2 : Addr} {mc oc kV doc pm ct : Value} {od an : Option Addr} {osl : Array (Option Value)} (X : K.In h) (G : h.Ns mainGlobals mg) (hfa : mg "law" = some (.ref fa))
    (hT : h.get? P = some (PySem.W.tabObj #[])) (hT2 : h.get? P2 = some (PySem.W.tabObj #[])) (ne : P ≠ P2) (Z : TxtK K l.prog C cS cN cL cA cT fi ps gs pr gr gb pp gp pg gg gw gl gi ga ge fb cb P2 mc) (aL : PySem.W.nsIn K mainGlobals "law" = some (some (.ref fl)))
    (lk : K.lookup fl = some ⟨oc, od, .func (PySem.W.fnOf "law" "law" (defArgs sLaw) (defBody sLaw) (defScope sLaw) .none kV doc pm an (.ref c) ct), osl⟩) (hcd : PySem.W.codeIn K (.ref c) "law" = true) (hC : PySem.W.codeHdIn K c P = true) (nT : K.lookup P = none) :
    LamX.LawAtS l w K (L2.CX l.prog w) 12 63 "_law_script" mg fa h := by
  have e := hfa.symm.trans (PySem.W.mg_of X G aL)
  cases e
  obtain ⟨gt, fdT, all⟩ := all_ok (P := l.prog) (w := w) X G Z
  have mem : ∀ p ∈ [(c, P), (cb, P2)], p = (c, P) ∨ p = (cb, P2) := fun p hp => by
    rcases List.mem_cons.mp hp with h | h
    · exact .inl h
    · exact .inr (List.mem_singleton.mp h)
  refine ⟨PySem.W.fnOf "law" "law" (defArgs sLaw) (defBody sLaw) (defScope sLaw) .none kV doc pm an (.ref c) ct, [(c, P), (cb, P2)], spLaw K P P2, fun p hp => ?_, fun p hp => ?_, fun p hp => ?_, fun s v => .of_eq rfl, fun H a ns hl hb hH hS => ⟨a, ns, rfl, hS, hH (c, P) (by simp), hH (cb, P2) (by simp), fun _ => rfl⟩, fun base hK hG hTB => law_fn (L := ⟨l.prog, w, K, mg, base, C, cN, cL, cA, cT⟩) (all base (hTB (cb, P2) (by simp))) (hTB (c, P) (by simp)) ne lk hcd⟩
  · rcases mem p hp with rfl | rfl
    · exact hT
    · exact hT2
  · rcases mem p hp with rfl | rfl
    · exact nT
    · exact Z.br.nT
  · rcases mem p hp with rfl | rfl
    · exact PySem.W.codeHd_of_K X hC
    · exact PySem.W.codeHd_of_K X Z.br.hd

end Q
namespace Q
open PySem PySem.Spec PyProof.Rows L2
open Evl (Ex)
theorem walk {l : PySem.W.OpenLaw} {q : Program} {loose : List Str} {XP : (Str → Option Value) → Heap → Prop} {YP : World → Heap → Prop} {d : DefRec} {K : Params → PySem.W.Frag} (hn : l.most = some 63) (hdf : d.params.defaults = [])
    (hY : ∀ (w : World) (h : Heap), YP w h → (K w.params).In h)
    (F : ∀ (w : World) (mg : Str → Option Value) (fa : Addr) (h : Heap), YP w h → (K w.params).In h → h.Ns mainGlobals mg → mg d.name = some (.ref fa) → LamX.LawAtS l w (K w.params) (L2.CX l.prog w) 12 63 "_law_script" mg fa h) :
    PySem.W.WalkO q loose XP YP l.row.toRowW d [] (fun f vs => PySem.call f vs) :=
  LamX.walk_ofTs (n := 63) (k := 12) (x := "_law_script") (CX := fun w => L2.CX l.prog w) hn (by decide) hdf ⟨rfl, by decide, by decide⟩ hY F fun w H s e s' z => by
    obtain ⟨_, _, _, _, _, _, _, _, _, _, _, _, z⟩ := z
    exact z

end Q
namespace Q
open PySem PySem.Spec PyProof.Rows L2
open Evl (Ex)
theorem kit_own {K : PySem.W.Frag} {t c : Addr} {b : Bool} (hne : (Value.ref t == Value.ref c) = false) (h1 : PySem.W.isClsIn K c = true) (h2 : PySem.W.typeIn K (.ref c) = some (.type "type")) (h3 : PySem.W.subIn K (.ref t) (.ref c) = some b) : PySem.W.kitOne K (.ref t) (.ref c) = some b := by
  have h1' : (PySem.W.clsIn K c).isSome = true := h1
  unfold PySem.W.kitOne
  rw [hne]
  show (if ((PySem.W.clsIn K c).isSome && PySem.W.typeIn K (.ref c) == some (.type "type")) = true then PySem.W.subIn K (.ref t) (.ref c) else none) = some b
  rw [if_pos (by rw [h1', h2] <;> rfl)]
  exact h3
theorem kit_self {K : PySem.W.Frag} {t : Addr} : PySem.W.kitOne K (.ref t) (.ref t) = some true := by
  unfold PySem.W.kitOne
  rw [if_pos (by simp)]
theorem kitMeta_VE : PySem.W.kitMeta "ValueError" = true := by decide +kernel
theorem kit_VE {K : PySem.W.Frag} {t : Addr} {b : Bool} (h3 : PySem.W.subIn K (.ref t) (.type "ValueError") = some b) : PySem.W.kitOne K (.ref t) (.type "ValueError") = some b := by
  unfold PySem.W.kitOne
  rw [if_neg (show ¬ ((Value.ref t == Value.type "ValueError") = true) by simp)]
  show (if PySem.W.kitMeta "ValueError" = true then PySem.W.subIn K (.ref t) (.type "ValueError") else none) = some b
  rw [if_pos kitMeta_VE]
  exact h3
theorem codeHd_l {K : PySem.W.Frag} {c P : Addr} {o : Obj} (lk : K.lookup c = some o) (h : PySem.W.codeHdIn [(c, o)] c P = true) : PySem.W.codeHdIn K c P = true := by
  unfold PySem.W.codeHdIn at h ⊢
  have e : List.lookup c [(c, o)] = some o := by simp [List.lookup]
  rw [e] at h
  rw [lk]
  exact h
theorem zs_mk {K : PySem.W.Frag} (h1 : PySem.W.nsIn K mainGlobals "len" = some none) (h2 : PySem.W.nsIn K mainGlobals "int" = some none) (h3 : PySem.W.nsIn K mainGlobals "str" = some none) (h4 : PySem.W.nsIn K mainGlobals "min" = some none) (h5 : PySem.W.nsIn K mainGlobals "max" = some none) (h6 : PySem.W.nsIn K mainGlobals "sum" = some none) (h7 : PySem.W.nsIn K mainGlobals "list" = some none) (h8 : PySem.W.nsIn K mainGlobals "tuple" = some none)
    (h9 : PySem.W.nsIn K mainGlobals "range" = some none) (h10 : PySem.W.nsIn K mainGlobals "divmod" = some none) (h11 : PySem.W.nsIn K mainGlobals "isinstance" = some none) (h12 : PySem.W.nsIn K mainGlobals "bool" = some none) (h13 : PySem.W.nsIn K mainGlobals "any" = some none) (h14 : PySem.W.nsIn K mainGlobals "enumerate" = some none) (h15 : PySem.W.nsIn K mainGlobals "zip" = some none) (h16 : PySem.W.nsIn K mainGlobals "ValueError" = some none) :
    ∀ x ∈ ["len", "int", "str", "min", "max", "sum", "list", "tuple", "range", "divmod", "isinstance", "bool", "any", "enumerate", "zip", "ValueError"], PySem.W.nsIn K mainGlobals (Str.ofString x) = some none := by
  intro x hx
  simp only [List.mem_cons, List.not_mem_nil, or_false] at hx
  rcases hx with rfl | rfl | rfl | rfl | rfl | rfl | rfl | rfl | rfl | rfl | rfl | rfl | rfl | rfl | rfl | rfl
  · exact h1
  · exact h2
  · exact h3
  · exact h4
  · exact h5
  · exact h6
  · exact h7
  · exact h8
  · exact h9
  · exact h10
  · exact h11
  · exact h12
  · exact h13
  · exact h14
  · exact h15
  · exact h16
theorem q_mk {K : PySem.W.Frag} {C : Addr} (h : PySem.W.excIn K C [.type "ValueError", .type "Exception", .type "BaseException", .type "object"] "ValueError.__new__" = true) : ∃ (B newId initId : String) (bmB : List Value), ExcBaseFacts B newId initId bmB ∧ PySem.W.excIn K C bmB newId = true :=
  ⟨_, _, _, _, PySem.F.excBase_ValueError, h⟩
theorem cm_mk {K : PySem.W.Frag} {C : Addr} {mc : Value} {m : Str} {p g : Addr} {rest : List Value} (h1 : PySem.W.findCls K (.ref C) mc m = some (.get (.builtin "classmethod.__get__") (.ref p) .none (.ref C))) (h2 : PySem.W.recIn K p "classmethod" = some (.ref g :: rest)) (h3 : PySem.W.fnIn K g = true) : ClX.CMet K C mc m p g := ⟨h1, ⟨rest, h2⟩, h3⟩
theorem pg_mk {K : PySem.W.Frag} {C : Addr} {f : Str} {p g : Addr} {rest : List Value} (h1 : PySem.W.findIn K (.ref C) f = some (some (.ref p))) (h2 : PySem.W.specialIn K (.ref p) "__get__" = some (some (.builtin "property.__get__"))) (h3 : PySem.W.takesIn K (.ref p) = some true) (h4 : PySem.W.recIn K p "property" = some (.ref g :: rest)) : PropOf K C f p g := ⟨h1, h2, h3, ⟨rest, h4⟩⟩
theorem g_int {K : PySem.W.Frag} {x : Str} {n : Int} {t : Tok} (h : PySem.W.nsIn K mainGlobals x = some (some (.int n t))) : ∃ t, PySem.W.nsIn K mainGlobals x = some (some (.int n t)) := ⟨t, h⟩
theorem g_str {K : PySem.W.Frag} {x y : Str} {t : Tok} (h : PySem.W.nsIn K mainGlobals x = some (some (.str y t))) : ∃ t, PySem.W.nsIn K mainGlobals x = some (some (.str y t)) := ⟨t, h⟩

end Q
open PySem PySem.W PyProof.Rows in
set_option maxRecDepth 100000 in
set_option maxHeartbeats 0 in
theorem PySem.Challenge.cw_topletter_k01_timetables_and_their_signs_holds : PySem.Challenge.rw_topletter_k01_timetables_and_their_signs.Holds := by
  w_on; o_law; k_head; (case hw => w_witness2)
  k_fill
  refine Q.walk (l := PySem.Challenge.rw_topletter_k01_timetables_and_their_signs) rfl rfl (fun w h Y => km_in_of Y) ?F
  case F =>
    intro w mg fa h Y KX G hmg
    have hT := km_tabs_of Y _ (List.mem_cons_of_mem _ (List.mem_singleton.mpr rfl))
    have hT2 := km_tabs_of Y _ List.mem_cons_self
    clear Y
    refine' Q.law_at (mc := .type "type") KX G hmg hT hT2 ?ne ?Z ?aL ?lk ?hcd ?hC ?nTab
    case Z =>
      refine' Q.TxtK.mk ⟨?nC, ⟨?m1, ?m2, ?m3, ?m4⟩, ⟨?c1, ?c2, ?c3, ?c4⟩, ?rows, ⟨?rd1, ?rd2⟩, Q.cm_mk ?cm1 ?cm2 ?cm3, Q.metIn ?mIl ?mIc ?mIk, Q.metIn ?mSl ?mSc ?mSk⟩
        ⟨?ic1, ?ic2, ?ic3, ?ic4⟩
        ⟨?eNn, Q.q_mk ?eNq, ?eNk, ?eNr1, ?eNr2⟩
        ⟨?eLn, Q.q_mk ?eLq, ?eLk, ?eLr1, ?eLr2⟩
        ?nA
        ?nS
        ?nT
        (Q.inv_mk ?ia1 ?ia2 ?ia3 ?ia4 ?ia5 ?ia6 ?ia7 ?ia8 ?ia9 ?ib1 (Q.oex_mk ?ix1 ?ix6 ?ix2 ?ix3 ?ix4 ?ix5) ?ib3 ?ib4 ?ib5 ?ib6 ?ib7)
        (Q.pg_mk ?pR1 ?pR2 ?pR3 ?pR4)
        (Q.pg_mk ?pP1 ?pP2 ?pP3 ?pP4)
        (Q.pg_mk ?pG1 ?pG2 ?pG3 ?pG4)
        ⟨?bo1, ?bo2⟩
        ⟨?lo1, ?lo2⟩
        ⟨?gO1, ?gO2, ?gO3⟩
        ⟨?ao1, ?ao2, ?ao3⟩
        ⟨?eo1, ?eo2⟩
        ⟨?bw1, ?bw2, ?bw3, ?bw4, ?bw5, ?bw6⟩
        (Q.metIn ?mLl ?mLc ?mLk)
        (Q.metIn ?mRl ?mRc ?mRk)
        (Q.metIn ?mPl ?mPc ?mPk)
        (Q.metIn ?mGl ?mGc ?mGk)
        (Q.metIn ?mBl ?mBc ?mBk)
        (Q.metIn ?mI2l ?mI2c ?mI2k)
        (Q.metIn ?mAl ?mAc ?mAk)
        (Q.metIn ?mEl ?mEc ?mEk)
        (Q.metIn ?mWl ?mWc ?mWk)
        ?lcm
        (Q.brk_mk ?br1 ?br2 ?br3 ?br4 (Q.codeHd_l ?br5 ?br6) ?br7)
        ⟨Q.zs_mk ?z1 ?z2 ?z3 ?z4 ?z5 ?z6 ?z7 ?z8 ?z9 ?z10 ?z11 ?z12 ?z13 ?z14 ?z15 ?z16, Q.g_int ?g1, Q.g_int ?g2, Q.g_int ?g3, Q.g_str ?g4⟩
        (Q.funIn ?f_is_numbera ?f_is_numberl ?f_is_numberc ?f_is_numberk)
        (Q.funIn ?f_check_numbera ?f_check_numberl ?f_check_numberc ?f_check_numberk)
        (Q.funIn ?f_letters_ina ?f_letters_inl ?f_letters_inc ?f_letters_ink)
        (Q.funIn ?f_growth_ofa ?f_growth_ofl ?f_growth_ofc ?f_growth_ofk)
        (Q.funIn ?f__is_rowa ?f__is_rowl ?f__is_rowc ?f__is_rowk)
        (Q.funIn ?f__first_wronga ?f__first_wrongl ?f__first_wrongc ?f__first_wrongk)
        (Q.funIn ?f__figuresa ?f__figuresl ?f__figuresc ?f__figuresk)
        (Q.funIn ?f__simple_rowsa ?f__simple_rowsl ?f__simple_rowsc ?f__simple_rowsk)
        (Q.funIn ?f__added_rowsa ?f__added_rowsl ?f__added_rowsc ?f__added_rowsk)
        (Q.funIn ?f__law_dicea ?f__law_dicel ?f__law_dicec ?f__law_dicek)
        (Q.funIn ?f__law_nexta ?f__law_nextl ?f__law_nextc ?f__law_nextk)
        (Q.funIn ?f__law_picka ?f__law_pickl ?f__law_pickc ?f__law_pickk)
        (Q.funIn ?f__law_rowsa ?f__law_rowsl ?f__law_rowsc ?f__law_rowsk)
        (Q.funIn ?f__law_madea ?f__law_madel ?f__law_madec ?f__law_madek)
        (Q.funIn ?f__law_tolda ?f__law_toldl ?f__law_toldc ?f__law_toldk)
        (Q.funIn ?f__law_gaina ?f__law_gainl ?f__law_gainc ?f__law_gaink)
        (Q.funIn ?f__law_suma ?f__law_suml ?f__law_sumc ?f__law_sumk)
        (exm_ref ?exN1 ?exN2 ?exN3 ?exN4)
        ⟨?ecN1, ?ecN2, ?ecN3, ?ecN4, ?ecN5, ?ecN6, ?ecN7, ?ecN8⟩
        (Q.kit_own ?kTN1 ?kTN2 ?kTN3 ?kTN4)
        Q.kit_self
        (Q.kit_own ?kLN1 ?kLN2 ?kLN3 ?kLN4)
        (Q.kit_own ?kAN1 ?kAN2 ?kAN3 ?kAN4)
        (Q.kit_VE ?kVN1)
        ?nSIN
        (exm_ref ?exL1 ?exL2 ?exL3 ?exL4)
        ⟨?ecL1, ?ecL2, ?ecL3, ?ecL4, ?ecL5, ?ecL6, ?ecL7, ?ecL8⟩
        (Q.kit_own ?kTL1 ?kTL2 ?kTL3 ?kTL4)
        (Q.kit_own ?kNL1 ?kNL2 ?kNL3 ?kNL4)
        Q.kit_self
        (Q.kit_own ?kAL1 ?kAL2 ?kAL3 ?kAL4)
        (Q.kit_VE ?kVL1)
        ?nSIL
        (exm_ref ?exT1 ?exT2 ?exT3 ?exT4)
        ⟨?ecT1, ?ecT2, ?ecT3, ?ecT4, ?ecT5, ?ecT6, ?ecT7, ?ecT8⟩
        (Q.kit_own ?kNX1 ?kNX2 ?kNX3 ?kNX4)
        (Q.kit_own ?kLX1 ?kLX2 ?kLX3 ?kLX4)
        (Q.kit_own ?kAX1 ?kAX2 ?kAX3 ?kAX4)
        (Q.kit_VE ?kVX1)
        ⟨?xfX1, ?xfX2, ?xfX3, ?xfX4⟩
        ?cTC
        ?tTC
        ?sTC
      (case nC => k_is)
      (case m2 => k_is)
      (case m1 => k_is)
      (case m3 => k_is)
      (case m4 => k_is)
      (case c1 => k_is)
      (case c2 => k_is)
      (case c3 => k_is)
      (case c4 => k_is)
      (case rows => first | (show findIn _ _ _ = some none; k_is))
      (case rd1 => k_is)
      (case rd2 => k_is)
      (case cm1 => k_is)
      (case cm2 => k_is)
      (case cm3 => k_is)
      (case mIl => k_is)
      (case mIc => k_is)
      (case mIk => k_is)
      (case mSl => k_is)
      (case mSc => k_is)
      (case mSk => k_is)
      (case ic1 => k_is)
      (case ic2 => k_is)
      (case ic3 => k_is)
      (case ic4 => k_is)
      (case eNn => k_is)
      (case eNq => first | rfl | kernel_rfl)
      (case eNk => k_is)
      (case eNr1 => k_is)
      (case eNr2 => k_is)
      (case eLn => k_is)
      (case eLq => first | rfl | kernel_rfl)
      (case eLk => k_is)
      (case eLr1 => k_is)
      (case eLr2 => k_is)
      (case nA => k_is)
      (case nS => k_is)
      (case nT => k_is)
      (case ia1 => k_is)
      (case ia2 => k_is)
      (case ia3 => k_is)
      (case ia4 => k_is)
      (case ia5 => k_is)
      (case ia6 => first | rfl | decide | kernel_rfl)
      (case ia7 => first | rfl | decide +kernel | kernel_rfl)
      (case ia8 => k_is)
      (case ia9 => first | rfl | decide +kernel | kernel_rfl)
      (case ib1 => k_is)
      (case ix1 => k_is)
      (case ix6 => first | rfl | decide +kernel | kernel_rfl)
      (case ix2 => k_is)
      (case ix3 => k_is)
      (case ix4 => k_is)
      (case ix5 => k_is)
      (case ib3 => first | k_is | rfl | kernel_rfl)
      (case ib4 => k_is)
      (case ib5 => first | k_is | rfl | kernel_rfl)
      (case ib6 => k_is)
      (case ib7 => first | (show findIn _ _ _ = some none; k_is) | k_is)
      (case pR1 => k_is)
      (case pR2 => k_is)
      (case pR3 => k_is)
      (case pR4 => k_is)
      (case pP1 => k_is)
      (case pP2 => k_is)
      (case pP3 => k_is)
      (case pP4 => k_is)
      (case pG1 => k_is)
      (case pG2 => k_is)
      (case pG3 => k_is)
      (case pG4 => k_is)
      (case bo1 => k_is)
      (case bo2 => k_is)
      (case lo1 => k_is)
      (case lo2 => k_is)
      (case gO1 => k_is)
      (case gO2 => k_is)
      (case gO3 => k_is)
      (case ao1 => k_is)
      (case ao2 => k_is)
      (case ao3 => k_is)
      (case eo1 => k_is)
      (case eo2 => k_is)
      (case bw1 => k_is)
      (case bw2 => k_is)
      (case bw3 => k_is)
      (case bw4 => k_is)
      (case bw5 => k_is)
      (case bw6 => k_is)
      (case mLl => k_is)
      (case mLc => k_is)
      (case mLk => k_is)
      (case mRl => k_is)
      (case mRc => k_is)
      (case mRk => k_is)
      (case mPl => k_is)
      (case mPc => k_is)
      (case mPk => k_is)
      (case mGl => k_is)
      (case mGc => k_is)
      (case mGk => k_is)
      (case mBl => k_is)
      (case mBc => k_is)
      (case mBk => k_is)
      (case mI2l => k_is)
      (case mI2c => k_is)
      (case mI2k => k_is)
      (case mAl => k_is)
      (case mAc => k_is)
      (case mAk => k_is)
      (case mEl => k_is)
      (case mEc => k_is)
      (case mEk => k_is)
      (case mWl => k_is)
      (case mWc => k_is)
      (case mWk => k_is)
      (case lcm => k_is)
      (case br1 => k_is)
      (case br2 => k_is)
      (case br3 => k_is)
      (case br4 => k_is)
      (case br5 => k_is)
      (case br6 => first | rfl | kernel_rfl | decide +kernel)
      (case br7 => first | rfl | kernel_rfl)
      (case z1 => k_is)
      (case z2 => k_is)
      (case z3 => k_is)
      (case z4 => k_is)
      (case z5 => k_is)
      (case z6 => k_is)
      (case z7 => k_is)
      (case z8 => k_is)
      (case z9 => k_is)
      (case z10 => k_is)
      (case z11 => k_is)
      (case z12 => k_is)
      (case z13 => k_is)
      (case z14 => k_is)
      (case z15 => k_is)
      (case z16 => k_is)
      (case g1 => k_is)
      (case g2 => k_is)
      (case g3 => k_is)
      (case g4 => k_is)
      (case f_is_numbera => k_is)
      (case f_is_numberl => k_is)
      (case f_is_numberc => k_is)
      (case f_is_numberk => k_is)
      (case f_check_numbera => k_is)
      (case f_check_numberl => k_is)
      (case f_check_numberc => k_is)
      (case f_check_numberk => k_is)
      (case f_letters_ina => k_is)
      (case f_letters_inl => k_is)
      (case f_letters_inc => k_is)
      (case f_letters_ink => k_is)
      (case f_growth_ofa => k_is)
      (case f_growth_ofl => k_is)
      (case f_growth_ofc => k_is)
      (case f_growth_ofk => k_is)
      (case f__is_rowa => k_is)
      (case f__is_rowl => k_is)
      (case f__is_rowc => k_is)
      (case f__is_rowk => k_is)
      (case f__first_wronga => k_is)
      (case f__first_wrongl => k_is)
      (case f__first_wrongc => k_is)
      (case f__first_wrongk => k_is)
      (case f__figuresa => k_is)
      (case f__figuresl => k_is)
      (case f__figuresc => k_is)
      (case f__figuresk => k_is)
      (case f__simple_rowsa => k_is)
      (case f__simple_rowsl => k_is)
      (case f__simple_rowsc => k_is)
      (case f__simple_rowsk => k_is)
      (case f__added_rowsa => k_is)
      (case f__added_rowsl => k_is)
      (case f__added_rowsc => k_is)
      (case f__added_rowsk => k_is)
      (case f__law_dicea => k_is)
      (case f__law_dicel => k_is)
      (case f__law_dicec => k_is)
      (case f__law_dicek => k_is)
      (case f__law_nexta => k_is)
      (case f__law_nextl => k_is)
      (case f__law_nextc => k_is)
      (case f__law_nextk => k_is)
      (case f__law_picka => k_is)
      (case f__law_pickl => k_is)
      (case f__law_pickc => k_is)
      (case f__law_pickk => k_is)
      (case f__law_rowsa => k_is)
      (case f__law_rowsl => k_is)
      (case f__law_rowsc => k_is)
      (case f__law_rowsk => k_is)
      (case f__law_madea => k_is)
      (case f__law_madel => k_is)
      (case f__law_madec => k_is)
      (case f__law_madek => k_is)
      (case f__law_tolda => k_is)
      (case f__law_toldl => k_is)
      (case f__law_toldc => k_is)
      (case f__law_toldk => k_is)
      (case f__law_gaina => k_is)
      (case f__law_gainl => k_is)
      (case f__law_gainc => k_is)
      (case f__law_gaink => k_is)
      (case f__law_suma => k_is)
      (case f__law_suml => k_is)
      (case f__law_sumc => k_is)
      (case f__law_sumk => k_is)
      (case exN1 => k_is)
      (case exN2 => k_is)
      (case exN3 => k_is)
      (case exN4 => k_is)
      (case ecN1 => k_is)
      (case ecN2 => k_is)
      (case ecN3 => k_is)
      (case ecN4 => k_is)
      (case ecN5 => k_is)
      (case ecN6 => k_is)
      (case ecN7 => k_is)
      (case ecN8 => k_is)
      (case kTN1 => first | decide | rfl)
      (case kTN2 => k_is)
      (case kTN3 => k_is)
      (case kTN4 => k_is)
      (case kLN1 => first | decide | rfl)
      (case kLN2 => k_is)
      (case kLN3 => k_is)
      (case kLN4 => k_is)
      (case kAN1 => first | decide | rfl)
      (case kAN2 => k_is)
      (case kAN3 => k_is)
      (case kAN4 => k_is)
      (case kVN1 => k_is)
      (case nSIN => k_is)
      (case exL1 => k_is)
      (case exL2 => k_is)
      (case exL3 => k_is)
      (case exL4 => k_is)
      (case ecL1 => k_is)
      (case ecL2 => k_is)
      (case ecL3 => k_is)
      (case ecL4 => k_is)
      (case ecL5 => k_is)
      (case ecL6 => k_is)
      (case ecL7 => k_is)
      (case ecL8 => k_is)
      (case kTL1 => first | decide | rfl)
      (case kTL2 => k_is)
      (case kTL3 => k_is)
      (case kTL4 => k_is)
      (case kNL1 => first | decide | rfl)
      (case kNL2 => k_is)
      (case kNL3 => k_is)
      (case kNL4 => k_is)
      (case kAL1 => first | decide | rfl)
      (case kAL2 => k_is)
      (case kAL3 => k_is)
      (case kAL4 => k_is)
      (case kVL1 => k_is)
      (case nSIL => k_is)
      (case exT1 => k_is)
      (case exT2 => k_is)
      (case exT3 => k_is)
      (case exT4 => k_is)
      (case ecT1 => k_is)
      (case ecT2 => k_is)
      (case ecT3 => k_is)
      (case ecT4 => k_is)
      (case ecT5 => k_is)
      (case ecT6 => k_is)
      (case ecT7 => k_is)
      (case ecT8 => k_is)
      (case kNX1 => first | decide | rfl)
      (case kNX2 => k_is)
      (case kNX3 => k_is)
      (case kNX4 => k_is)
      (case kLX1 => first | decide | rfl)
      (case kLX2 => k_is)
      (case kLX3 => k_is)
      (case kLX4 => k_is)
      (case kAX1 => first | decide | rfl)
      (case kAX2 => k_is)
      (case kAX3 => k_is)
      (case kAX4 => k_is)
      (case kVX1 => k_is)
      (case xfX1 => k_is)
      (case xfX2 => k_is)
      (case xfX3 => k_is)
      (case xfX4 => k_is)
      (case cTC => k_is)
      (case tTC => k_is)
      (case sTC => k_is)
    (case aL => k_is)
    (case lk => k_is)
    (case hcd => k_is)
    (case ne => decide)
    (case hC => first | (refine' Q.codeHd_l ?lkc ?hh; (case lkc => k_is); (case hh => first | rfl | kernel_rfl | decide +kernel)))
    (case nTab => first | rfl | kernel_rfl)
