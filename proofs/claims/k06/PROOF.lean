import PyProof.Rows.All
import Wide.All
import OpenK.AllK
import Wide.FinOn
import HandS.ForMost
import HandS.ForExc
import HandS.Lambda
import HandS.TupAny
import HandS.Deep
import HandS.Wide
import HandS.Zip
import HandS.Style
import KE.GoesMore
import KE.GoesEnum
import HandS.CallSlots
import HandS.TupMul
import HandS.IsInst
import HandS.FStr
import HandS.Small
import HandS.ExcInit
import KE.KExcIs
import HandS.ExcIs
import HandS.ExcField
import HandS.EndTab
import PySem.Challenge.RW_skypairs_k06_lights_turned
set_option Elab.async false
set_option linter.all false
set_option maxRecDepth 100000
namespace Rx
open PySem PySem.Spec PyProof.Rows L2

/-! ### data -/
inductive D where
  | non | bl (b : Bool) | int (i : Int) | str (x : Str) | tup (ds : List D) | lst (ds : List D) | ref (k : Nat) | scr (ds : List D) | ktup (ds : List D)
/-- what stands at a handle -/
inductive MO where
  | dead | lst (ds : List D) | dic (kvs : List (List Key × D))
abbrev Mu := List MO
abbrev Sd := List (Option D)
/-- an exception: its class by name, its fields -/
structure Ex where
  cls : Str
  fs : List (Str × D)
inductive Res (α : Type) where
  | ok (a : α) (m : Mu) | exc (x : Ex) (m : Mu) | stuck
@[simp] def Res.bind {α β : Type} (r : Res α) (f : α → Mu → Res β) : Res β := match r with
  | .ok a m => f a m
  | .exc x m => .exc x m
  | .stuck => .stuck
inductive SRes where
  | nx (s : Sd) (m : Mu) | ret (d : D) (m : Mu) | bk (s : Sd) (m : Mu) | ct (s : Sd) (m : Mu) | exc (x : Ex) (s : Sd) (m : Mu) | stuck
abbrev SEx := Sd → Mu → Res D
abbrev SBl := Sd → Mu → Res Bool
abbrev SAr := Sd → Mu → Res (List D)
abbrev SSt := Sd → Mu → SRes
/-! ### the world: the part of the heap that never changes, the addresses of the handles -/
structure Wd where
  g : Hp
  r : List Addr
mutual
inductive Dat (K : PySem.W.Frag) (w : Wd) : V → D → Prop where
  | non : Dat K w .non .non
  | bl (b : Bool) : Dat K w (.bl b) (.bl b)
  | int (i : Int) : Dat K w (.int i) (.int i)
  | str (x : Str) : Dat K w (.str x) (.str x)
  | tup {a : Addr} {vs : List V} {ds : List D} (h : w.g a = some (.tup vs)) (r : DatL K w vs ds) : Dat K w (.ref a) (.tup ds)
  | ktup {a : Addr} {vs : List V} {ds : List D} (h : SqT K w.g a vs) (r : DatL K w vs ds) : Dat K w (.ref a) (.ktup ds)
  | lst {a : Addr} {vs : List V} {ds : List D} (h : w.g a = some (.lst vs)) (r : DatL K w vs ds) : Dat K w (.ref a) (.lst ds)
  | scr {a : Addr} {vs : List V} {ds : List D} (h : SqL K w.g a vs) (r : DatL K w vs ds) : Dat K w (.ref a) (.scr ds)
  | ref {a : Addr} {k : Nat} (h : w.r[k]? = some a) : Dat K w (.ref a) (.ref k)
inductive DatL (K : PySem.W.Frag) (w : Wd) : List V → List D → Prop where
  | nil : DatL K w [] []
  | cons {v : V} {d : D} {vs : List V} {ds : List D} (h : Dat K w v d) (r : DatL K w vs ds) : DatL K w (v :: vs) (d :: ds)
end
/-- a tuple -/
def tupOf : D → Option (List D)
  | .tup ds => some ds
  | .ktup ds => some ds
  | _ => none
/-- the keys' rows of a dict with tuple keys -/
inductive KvL (K : PySem.W.Frag) (w : Wd) : List (List Key × V) → List (List Key × D) → Prop where
  | nil : KvL K w [] []
  | cons {k : List Key} {v : V} {d : D} {vs ds} (h : Dat K w v d) (r : KvL K w vs ds) : KvL K w ((k, v) :: vs) ((k, d) :: ds)
/-- the world grows -/
structure Gr (w w' : Wd) : Prop where
  g : Same w.g w'.g
  r : ∃ more, w'.r = w.r ++ more
theorem Gr.refl (w : Wd) : Gr w w := ⟨Same.refl _, [], by simp⟩
theorem Gr.trans {a b c : Wd} (x : Gr a b) (y : Gr b c) : Gr a c := ⟨x.g.trans y.g, by
  obtain ⟨m, e⟩ := x.r
  obtain ⟨n, f⟩ := y.r
  exact ⟨m ++ n, by rw [f, e, List.append_assoc]⟩⟩
theorem Gr.get {w w' : Wd} (x : Gr w w') {k : Nat} {a : Addr} (h : w.r[k]? = some a) : w'.r[k]? = some a := by
  obtain ⟨m, e⟩ := x.r
  rw [e, List.getElem?_append_left]
  · exact h
  · exact (List.getElem?_eq_some_iff.mp h).1
theorem same_sqT {K : PySem.W.Frag} {H H' : Hp} {a : Addr} {xs : List V} (e : Same H H') (h : SqT K H a xs) : SqT K H' a xs := by
  rcases h with (h | ⟨o, h⟩) | h
  · exact .inl (.inl (e _ _ h))
  · exact .inl (.inr ⟨o, e _ _ h⟩)
  · exact .inr h
mutual
theorem Dat.mono {K : PySem.W.Frag} {w w' : Wd} (x : Gr w w') : ∀ {v d}, Dat K w v d → Dat K w' v d
  | _, _, .non => .non
  | _, _, .bl b => .bl b
  | _, _, .int b => .int b
  | _, _, .str b => .str b
  | _, _, .tup h r => .tup (x.g _ _ h) (DatL.mono x r)
  | _, _, .ktup h r => .ktup (same_sqT x.g h) (DatL.mono x r)
  | _, _, .lst h r => .lst (x.g _ _ h) (DatL.mono x r)
  | _, _, .scr h r => .scr (x.g.seq h) (DatL.mono x r)
  | _, _, .ref h => .ref (x.get h)
theorem DatL.mono {K : PySem.W.Frag} {w w' : Wd} (x : Gr w w') : ∀ {v d}, DatL K w v d → DatL K w' v d
  | _, _, .nil => .nil
  | _, _, .cons h r => .cons (Dat.mono x h) (DatL.mono x r)
end
theorem KvL.mono {K : PySem.W.Frag} {w w' : Wd} (x : Gr w w') : ∀ {v d}, KvL K w v d → KvL K w' v d
  | _, _, .nil => .nil
  | _, _, .cons h r => .cons (h.mono x) (KvL.mono x r)
theorem DatL.length {K : PySem.W.Frag} {w : Wd} : ∀ {vs ds}, DatL K w vs ds → vs.length = ds.length
  | _, _, .nil => rfl
  | _, _, .cons _ r => by rw [List.length_cons, List.length_cons, r.length]
theorem DatL.get {K : PySem.W.Frag} {w : Wd} : ∀ {vs ds} {i : Nat} {d : D}, DatL K w vs ds → ds[i]? = some d → ∃ v, vs[i]? = some v ∧ Dat K w v d
  | _, _, _, _, .nil, e => by simp at e
  | _, _, 0, _, .cons h r, e => by simp at e; subst e; exact ⟨_, rfl, h⟩
  | _, _, i + 1, d, .cons h r, e => by
    obtain ⟨v, e1, h1⟩ := DatL.get (i := i) (d := d) r (by simpa using e)
    exact ⟨v, by simpa using e1, h1⟩
theorem DatL.getv {K : PySem.W.Frag} {w : Wd} : ∀ {vs ds} {i : Nat} {v : V}, DatL K w vs ds → vs[i]? = some v → ∃ d, ds[i]? = some d ∧ Dat K w v d
  | _, _, _, _, .nil, e => by simp at e
  | _, _, 0, _, .cons h r, e => by simp at e; subst e; exact ⟨_, rfl, h⟩
  | _, _, i + 1, d, .cons h r, e => by
    obtain ⟨v, e1, h1⟩ := DatL.getv (i := i) (v := d) r (by simpa using e)
    exact ⟨v, by simpa using e1, h1⟩
theorem DatL.append {K : PySem.W.Frag} {w : Wd} : ∀ {vs ds us es}, DatL K w vs ds → DatL K w us es → DatL K w (vs ++ us) (ds ++ es)
  | _, _, _, _, .nil, s => s
  | _, _, _, _, .cons h r, s => .cons h (DatL.append r s)
theorem DatL.take {K : PySem.W.Frag} {w : Wd} : ∀ {vs ds} (n : Nat), DatL K w vs ds → DatL K w (vs.take n) (ds.take n)
  | _, _, 0, _ => .nil
  | _, _, _ + 1, .nil => .nil
  | _, _, n + 1, .cons h r => .cons h (DatL.take n r)
theorem DatL.drop {K : PySem.W.Frag} {w : Wd} : ∀ {vs ds} (n : Nat), DatL K w vs ds → DatL K w (vs.drop n) (ds.drop n)
  | _, _, 0, h => h
  | _, _, _ + 1, .nil => .nil
  | _, _, n + 1, .cons h r => DatL.drop n r
theorem DatL.set {K : PySem.W.Frag} {w : Wd} {v : V} {d : D} (h : Dat K w v d) : ∀ {vs ds} (i : Nat), DatL K w vs ds → DatL K w (vs.set i v) (ds.set i d)
  | _, _, _, .nil => .nil
  | _, _, 0, .cons _ r => .cons h r
  | _, _, i + 1, .cons h' r => .cons h' (DatL.set h i r)
theorem DatL.erase {K : PySem.W.Frag} {w : Wd} : ∀ {vs ds} (i : Nat), DatL K w vs ds → DatL K w (vs.eraseIdx i) (ds.eraseIdx i)
  | _, _, _, .nil => .nil
  | _, _, 0, .cons _ r => r
  | _, _, i + 1, .cons h' r => .cons h' (DatL.erase i r)
theorem DatL.dropLast {K : PySem.W.Frag} {w : Wd} {vs ds} (h : DatL K w vs ds) : DatL K w vs.dropLast ds.dropLast := by
  rw [List.dropLast_eq_take, List.dropLast_eq_take, h.length]
  exact h.take _
/-! ### the store and the heap -/
/-- what stands at a, told -/
def MOk (K : PySem.W.Frag) (w : Wd) (H : Hp) (a : Addr) : MO → Prop
  | .dead => True
  | .lst ds => ∃ vs, H a = some (.lst vs) ∧ DatL K w vs ds
  | .dic kvs => ∃ vs, H a = some (.dT vs) ∧ KvL K w vs kvs
def MO.live : MO → Bool
  | .dead => false
  | _ => true
def Live (w : Wd) (m : Mu) (a : Addr) : Prop := ∃ (k : Nat) (o : MO), w.r[k]? = some a ∧ m[k]? = some o ∧ o.live = true
/-- what is told of the place where a text is run: its tables of code objects, the world at its entry -/
structure Tb where
  t : List (Addr × Str)
  w : Wd
def Told (T : Tb) (w : Wd) : Prop := Gr T.w w
theorem Told.mono {T : Tb} {w w' : Wd} (h : Told T w) (g : Gr w w') : Told T w' := Gr.trans h g
structure Rel (K : PySem.W.Frag) (T : Tb) (w : Wd) (m : Mu) (H : Hp) : Prop where
  sub : Same w.g H
  len : w.r.length = m.length
  obj : ∀ (k : Nat) (o : MO) (a : Addr), m[k]? = some o → w.r[k]? = some a → o.live = true → w.g a = none ∧ MOk K w H a o
  inj : ∀ (j k : Nat) (o u : MO) (a : Addr), m[j]? = some o → m[k]? = some u → o.live = true → u.live = true → w.r[j]? = some a → w.r[k]? = some a → j = k
  tab : LamX.Tabs T.t H
  nt : ∀ b ps, w.g b ≠ some (.tbl ps)
  tk : Told T w
/-- nothing stands there, or a table -/
def Free (H : Hp) (a : Addr) : Prop := ∀ o, H a = some o → ∃ ps, o = .tbl ps
theorem Free.no {H : Hp} {a : Addr} (h : H a = none) : Free H a := fun o e => by rw [h] at e; cases e
/-- no list stands there -/
def Free2 (H : Hp) (a : Addr) : Prop := ∀ o, H a = some o → ∀ vs, o ≠ .lst vs
theorem Free2.no {H : Hp} {a : Addr} (h : H a = none) : Free2 H a := fun o e => by rw [h] at e; cases e
/-- from one state to a later one -/
structure Tr (w : Wd) (m : Mu) (H : Hp) (w' : Wd) (m' : Mu) (H' : Hp) : Prop where
  gr : Gr w w'
  fr : ∀ b o, H b = some o → ¬ Live w m b → (∀ ps, o ≠ .tbl ps) → H' b = some o
  li : ∀ a, Live w' m' a → Live w m a ∨ Free H a
  gn : ∀ b o, w'.g b = some o → w.g b = some o ∨ Free2 H b ∨ Live w m b
theorem Tr.refl (w : Wd) (m : Mu) (H : Hp) : Tr w m H w m H := ⟨Gr.refl w, fun _ _ h _ _ => h, fun _ h => .inl h, fun b o h => .inl h⟩
theorem Rel.live_ne {K : PySem.W.Frag} {T} {w : Wd} {m : Mu} {H : Hp} (R : Rel K T w m H) {a : Addr} (h : Live w m a) : ∃ o, H a = some o ∧ ∀ ps, o ≠ .tbl ps := by
  obtain ⟨k, o, e1, e2, e3⟩ := h
  have q := (R.obj k o a e2 e1 e3).2
  cases o with
  | dead => cases e3
  | lst ds => obtain ⟨vs, h, _⟩ := q; exact ⟨_, h, fun ps z => by cases z⟩
  | dic kvs => obtain ⟨vs, h, _⟩ := q; exact ⟨_, h, fun ps z => by cases z⟩
theorem Tr.back {w w1 : Wd} {m m1 : Mu} {H H1 : Hp} (x : Tr w m H w1 m1 H1) {a : Addr} (l : Free H1 a) : Live w m a ∨ Free H a := by
  by_cases h : Live w m a
  · exact .inl h
  · refine .inr fun o e => ?_
    by_cases t : ∃ ps, o = .tbl ps
    · exact t
    · exact l o (x.fr a o e h (fun ps z => t ⟨ps, z⟩))
theorem Tr.back2 {w w1 : Wd} {m m1 : Mu} {H H1 : Hp} (x : Tr w m H w1 m1 H1) {a : Addr} (l : Free2 H1 a) : Live w m a ∨ Free2 H a := by
  by_cases h : Live w m a
  · exact .inl h
  · refine .inr fun o e vs z => ?_
    subst z
    exact l _ (x.fr a _ e h (fun ps z => by cases z)) vs rfl
theorem Tr.trans {w w1 w2 : Wd} {m m1 m2 : Mu} {H H1 H2 : Hp} (x : Tr w m H w1 m1 H1) (y : Tr w1 m1 H1 w2 m2 H2) : Tr w m H w2 m2 H2 where
  gr := x.gr.trans y.gr
  fr := fun b o h n t => y.fr b o (x.fr b o h n t) (fun l => by
    rcases x.li b l with l | l
    · exact n l
    · obtain ⟨ps, e⟩ := l o h
      exact t ps e) t
  li := fun a l => by
    rcases y.li a l with l | l
    · exact x.li a l
    · exact x.back l
  gn := fun b o e => by
    rcases y.gn b o e with e | e | e
    · exact x.gn b o e
    · rcases x.back2 e with e | e
      · exact .inr (.inr e)
      · exact .inr (.inl e)
    · rcases x.li b e with e | e
      · exact .inr (.inr e)
      · exact .inr (.inl fun o h vs z => by
          obtain ⟨ps, e2⟩ := e o h
          rw [e2] at z
          cases z)
/-- the heap alone has grown -/
theorem Tr.grown {w : Wd} {m : Mu} {H H' : Hp} (s : Same H H') : Tr w m H w m H' := ⟨Gr.refl w, fun b o h _ _ => s b o h, fun _ h => .inl h, fun b o h => .inl h⟩
theorem MOk.same {K : PySem.W.Frag} {w w' : Wd} {H H' : Hp} {a : Addr} {o : MO} (g : Gr w w') (s : ∀ u, H a = some u → (∀ ps, u ≠ .tbl ps) → H' a = some u) (h : MOk K w H a o) : MOk K w' H' a o := by
  cases o with
  | dead => trivial
  | lst ds => obtain ⟨vs, e, r⟩ := h; exact ⟨vs, s _ e (fun ps z => by cases z), r.mono g⟩
  | dic ds => obtain ⟨vs, e, r⟩ := h; exact ⟨vs, s _ e (fun ps z => by cases z), r.mono g⟩
theorem same_upd {H : Hp} {a : Addr} {o : HO} (h : H a = none) : Same H (upd H a o) := fun b u e => by rw [upd_ne (ne_of_none e h)]; exact e
section
variable {K : PySem.W.Frag} {T : Tb} {w : Wd} {m : Mu} {H H' : Hp}
/-- a new thing that never changes -/
theorem Rel.frozen (R : Rel K T w m H) {p : Addr} {o : HO} (h : H p = none) (no : ∀ ps, o ≠ .tbl ps := by intro ps z; cases z) : Rel K T ⟨upd w.g p o, w.r⟩ m (upd H p o) ∧ Tr w m H ⟨upd w.g p o, w.r⟩ m (upd H p o) := by
  have hg : w.g p = none := by
    cases e : w.g p with
    | none => rfl
    | some u => rw [R.sub p u e] at h; cases h
  have G : Gr w ⟨upd w.g p o, w.r⟩ := ⟨same_upd hg, [], by simp⟩
  refine ⟨⟨fun b u e => ?_, R.len, fun k u a e1 e2 e3 => ?_, R.inj, R.tab.ext (same_upd h), fun b ps e => ?_, R.tk.mono G⟩, ⟨G, fun b u e _ _ => same_upd h b u e, fun a l => .inl l, fun b u e => ?_⟩⟩
  · by_cases hb : b = p
    · subst hb
      have e' : upd w.g b o b = some u := e
      rw [upd_same] at e' ⊢
      exact e'
    · have e' : upd w.g p o b = some u := e
      rw [upd_ne hb] at e' ⊢
      exact R.sub b u e'
  · obtain ⟨q1, q2⟩ := R.obj k u a e1 e2 e3
    obtain ⟨z, hz, _⟩ := R.live_ne ⟨k, u, e2, e1, e3⟩
    have ne : a ≠ p := ne_of_none hz h
    exact ⟨by show upd w.g p o a = none; rw [upd_ne ne]; exact q1, q2.same G fun z hz _ => by rw [upd_ne ne]; exact hz⟩
  · have e' : upd w.g p o b = some (.tbl ps) := e
    by_cases hb : b = p
    · subst hb
      rw [upd_same] at e'
      exact no ps (Option.some.inj e')
    · rw [upd_ne hb] at e'
      exact R.nt b ps e'
  · have e' : upd w.g p o b = some u := e
    by_cases hb : b = p
    · exact .inr (.inl (by rw [hb]; exact .no h))
    · rw [upd_ne hb] at e'
      exact .inl e'
/-- a new thing that may change -/
theorem Rel.fresh (R : Rel K T w m H) {p : Addr} {o : HO} {u : MO} (h : H p = none) (ul : u.live = true) (hm : ∀ w', Gr w w' → MOk K w' (upd H p o) p u) :
    Rel K T ⟨w.g, w.r ++ [p]⟩ (m ++ [u]) (upd H p o) ∧ Tr w m H ⟨w.g, w.r ++ [p]⟩ (m ++ [u]) (upd H p o) := by
  have hg : w.g p = none := by
    cases e : w.g p with
    | none => rfl
    | some u => rw [R.sub p u e] at h; cases h
  have G : Gr w ⟨w.g, w.r ++ [p]⟩ := ⟨Same.refl _, [p], rfl⟩
  have len := R.len
  have old : ∀ (k : Nat) (a : Addr), k < m.length → (w.r ++ [p])[k]? = some a → w.r[k]? = some a := fun k a hk e => by
    rwa [List.getElem?_append_left (by omega)] at e
  have oldm : ∀ (k : Nat) (o : MO), k < m.length → (m ++ [u])[k]? = some o → m[k]? = some o := fun k a hk e => by
    rwa [List.getElem?_append_left (by omega)] at e
  have cs : ∀ (k : Nat) (o : MO), (m ++ [u])[k]? = some o → k < m.length ∨ (k = m.length ∧ o = u) := fun k o e => by
    by_cases hk : k < m.length
    · exact .inl hk
    · rw [List.getElem?_append_right (by omega)] at e
      have hk' := (List.getElem?_eq_some_iff.mp e).1
      have e0 : k = m.length := by simp at hk'; omega
      subst e0
      simp at e
      exact .inr ⟨rfl, e.symm⟩
  have last : ∀ a, (w.r ++ [p])[m.length]? = some a → a = p := fun a e => by
    rw [← len] at e
    simp at e
    exact e.symm
  have nl : ∀ (k : Nat) (o : MO) (a : Addr), m[k]? = some o → w.r[k]? = some a → o.live = true → a ≠ p := fun k o a e1 e2 e3 => by
    obtain ⟨z, hz, _⟩ := R.live_ne ⟨k, o, e2, e1, e3⟩
    exact ne_of_none hz h
  refine ⟨⟨fun b v e => same_upd h b v (R.sub b v e), by simp [len], fun k o' a e1 e2 e3 => ?_, fun j k o' v a e1 e2 e3 e4 e5 e6 => ?_, R.tab.ext (same_upd h), R.nt, R.tk.mono G⟩,
    ⟨G, fun b v e _ _ => same_upd h b v e, fun a l => ?_, fun b o e => .inl e⟩⟩
  · rcases cs k o' e1 with hk | ⟨rfl, rfl⟩
    · obtain ⟨q1, q2⟩ := R.obj k o' a (oldm k o' hk e1) (old k a hk e2) e3
      have ne := nl k o' a (oldm k o' hk e1) (old k a hk e2) e3
      exact ⟨q1, q2.same G fun z hz _ => by rw [upd_ne ne]; exact hz⟩
    · have e := last a e2
      subst e
      exact ⟨hg, hm _ G⟩
  · rcases cs j o' e1 with hj | ⟨rfl, rfl⟩
    · rcases cs k v e2 with hk | ⟨rfl, rfl⟩
      · exact R.inj j k o' v a (oldm j o' hj e1) (oldm k v hk e2) e3 e4 (old j a hj e5) (old k a hk e6)
      · exact absurd (last a e6) (nl j o' a (oldm j o' hj e1) (old j a hj e5) e3)
    · rcases cs k v e2 with hk | ⟨rfl, rfl⟩
      · exact absurd (last a e5) (nl k v a (oldm k v hk e2) (old k a hk e6) e4)
      · rfl
  · obtain ⟨k, o', e1, e2, e3⟩ := l
    rcases cs k o' e2 with hk | ⟨rfl, rfl⟩
    · exact .inl ⟨k, o', old k a hk e1, oldm k o' hk e2, e3⟩
    · have e := last a e1
      subst e
      exact .inr (.no h)
/-- the thing at a handle is written -/
theorem Rel.write (R : Rel K T w m H) {k : Nat} {p : Addr} {u0 u : MO} {o : HO} (e1 : m[k]? = some u0) (e2 : w.r[k]? = some p) (l0 : u0.live = true) (ul : u.live = true) (hm : MOk K w (upd H p o) p u) :
    Rel K T w (m.set k u) (upd H p o) ∧ Tr w m H w (m.set k u) (upd H p o) := by
  obtain ⟨hg, q0⟩ := R.obj k u0 p e1 e2 l0
  obtain ⟨o0, ho0, nt0⟩ := R.live_ne ⟨k, u0, e2, e1, l0⟩
  have km : k < m.length := (List.getElem?_eq_some_iff.mp e1).1
  have at_ : ∀ (j : Nat) (v : MO), (m.set k u)[j]? = some v → (j = k ∧ v = u) ∨ (j ≠ k ∧ m[j]? = some v) := fun j v e => by
    by_cases hj : j = k
    · subst hj
      rw [List.getElem?_set_self km] at e
      exact .inl ⟨rfl, (Option.some.inj e).symm⟩
    · rw [List.getElem?_set_ne (Ne.symm hj)] at e
      exact .inr ⟨hj, e⟩
  have back : ∀ (j : Nat) (v : MO), (m.set k u)[j]? = some v → v.live = true → ∃ v', m[j]? = some v' ∧ v'.live = true := fun j v e l => by
    rcases at_ j v e with ⟨rfl, rfl⟩ | ⟨_, e⟩
    · exact ⟨u0, e1, l0⟩
    · exact ⟨v, e, l⟩
  have ntab : ∀ b ps, H b = some (.tbl ps) → b ≠ p := fun b ps e z => by
    subst z
    rw [ho0] at e
    exact nt0 ps (Option.some.inj e)
  refine ⟨⟨fun b v e => ?_, by simp [R.len], fun j v a f1 f2 f3 => ?_, fun i j v v' a f1 f2 f3 f4 f5 f6 => ?_, fun q hq => ?_, R.nt, R.tk⟩, ⟨Gr.refl w, fun b v e n _ => ?_, fun a l => ?_, fun b o e => .inl e⟩⟩
  · have ne : b ≠ p := fun z => by subst z; rw [hg] at e; cases e
    rw [upd_ne ne]
    exact R.sub b v e
  · rcases at_ j v f1 with ⟨rfl, rfl⟩ | ⟨nj, f1⟩
    · rw [e2] at f2
      cases f2
      exact ⟨hg, hm⟩
    · obtain ⟨q1, q2⟩ := R.obj j v a f1 f2 f3
      have ne : a ≠ p := fun z => by subst z; exact nj (R.inj j k v u0 a f1 e1 f3 l0 f2 e2)
      exact ⟨q1, q2.same (Gr.refl w) fun z hz _ => by rw [upd_ne ne]; exact hz⟩
  · obtain ⟨v1, g1, l1⟩ := back i v f1 f3
    obtain ⟨v2, g2, l2⟩ := back j v' f2 f4
    exact R.inj i j v1 v2 a g1 g2 l1 l2 f5 f6
  · obtain ⟨ps, a1, a2, a3⟩ := R.tab q hq
    refine ⟨ps, by rw [upd_ne (ntab _ ps a1)]; exact a1, a2, fun pos cv hcv => ?_⟩
    obtain ⟨c0, b1, b2⟩ := a3 pos cv hcv
    refine ⟨c0, b1, ?_⟩
    rw [upd_ne]
    · exact b2
    · intro z
      subst z
      rw [b2] at ho0
      cases ho0
      cases u0 with
      | dead => cases l0
      | lst ds => obtain ⟨vs, h, _⟩ := q0; rw [b2] at h; unfold LamX.CodeO at h; cases h
      | dic ds => obtain ⟨vs, h, _⟩ := q0; rw [b2] at h; unfold LamX.CodeO at h; cases h
  · have ne : b ≠ p := fun z => by subst z; exact n ⟨k, u0, e2, e1, l0⟩
    rw [upd_ne ne]
    exact e
  · obtain ⟨j, v, f1, f2, f3⟩ := l
    obtain ⟨v', g1, g2⟩ := back j v f2 f3
    exact .inl ⟨j, v', f1, g1, g2⟩
/-- the list at a handle is never changed any more -/
theorem Rel.freeze (R : Rel K T w m H) {k : Nat} {p : Addr} {ds : List D} (e1 : m[k]? = some (.lst ds)) (e2 : w.r[k]? = some p) :
    ∃ w', Rel K T w' (m.set k .dead) H ∧ Tr w m H w' (m.set k .dead) H ∧ Dat K w' (.ref p) (.lst ds) := by
  obtain ⟨hg, vs, hv, dv⟩ := R.obj k _ p e1 e2 rfl
  have km : k < m.length := (List.getElem?_eq_some_iff.mp e1).1
  have G : Gr w ⟨upd w.g p (.lst vs), w.r⟩ := ⟨same_upd hg, [], by simp⟩
  have at_ : ∀ (j : Nat) (v : MO), (m.set k .dead)[j]? = some v → v.live = true → j ≠ k ∧ m[j]? = some v := fun j v e l => by
    by_cases hj : j = k
    · subst hj
      rw [List.getElem?_set_self km] at e
      cases e
      cases l
    · rw [List.getElem?_set_ne (Ne.symm hj)] at e
      exact ⟨hj, e⟩
  refine ⟨⟨upd w.g p (.lst vs), w.r⟩, ⟨fun b v e => ?_, by simp [R.len], fun j v a f1 f2 f3 => ?_, fun i j v v' a f1 f2 f3 f4 f5 f6 => ?_, R.tab, fun b ps e => ?_, R.tk.mono G⟩, ⟨G, fun b v e n _ => e, fun a l => ?_, fun b v e => ?_⟩, .lst upd_same (dv.mono G)⟩
  · have e' : upd w.g p (.lst vs) b = some v := e
    by_cases hb : b = p
    · subst hb
      rw [upd_same] at e'
      rw [hv]; exact e'
    · rw [upd_ne hb] at e'
      exact R.sub b v e'
  · obtain ⟨nj, f1⟩ := at_ j v f1 f3
    obtain ⟨q1, q2⟩ := R.obj j v a f1 f2 f3
    have ne : a ≠ p := fun z => by subst z; exact nj (R.inj j k v _ a f1 e1 f3 rfl f2 e2)
    exact ⟨by show upd w.g p (.lst vs) a = none; rw [upd_ne ne]; exact q1, q2.same G fun z hz _ => hz⟩
  · obtain ⟨_, g1⟩ := at_ i v f1 f3
    obtain ⟨_, g2⟩ := at_ j v' f2 f4
    exact R.inj i j v v' a g1 g2 f3 f4 f5 f6
  · have e' : upd w.g p (.lst vs) b = some (.tbl ps) := e
    by_cases hb : b = p
    · subst hb
      rw [upd_same] at e'
      cases e'
    · rw [upd_ne hb] at e'
      exact R.nt b ps e'
  · obtain ⟨j, v, f1, f2, f3⟩ := l
    obtain ⟨_, g1⟩ := at_ j v f2 f3
    exact .inl ⟨j, v, f1, g1, f3⟩
  · have e' : upd w.g p (.lst vs) b = some v := e
    by_cases hb : b = p
    · exact .inr (.inr (by rw [hb]; exact ⟨k, _, e2, e1, rfl⟩))
    · rw [upd_ne hb] at e'
      exact .inl e'
/-- a code object is made, or found -/
theorem Rel.extN (R : Rel K T w m H) (e : LamX.ExtN H H') (t : LamX.Tabs T.t H') : Rel K T w m H' :=
  ⟨fun b o h => e b o (R.sub b o h) fun ps z => R.nt b ps (by rw [h, z]), R.len, fun k o a e1 e2 e3 => ⟨(R.obj k o a e1 e2 e3).1, (R.obj k o a e1 e2 e3).2.same (Gr.refl w) fun u hu hn => e _ _ hu hn⟩, R.inj, t, R.nt, R.tk⟩
theorem Tr.extN (e : LamX.ExtN H H') : Tr w m H w m H' := ⟨Gr.refl w, fun b o h _ n => e b o h n, fun _ h => .inl h, fun b o h => .inl h⟩
/-- told of another place -/
theorem Rel.at_ {T' : Tb} (R : Rel K T w m H) (e : T'.t = T.t) (h : Gr T'.w w) : Rel K T' w m H := ⟨R.sub, R.len, R.obj, R.inj, by rw [e]; exact R.tab, R.nt, h⟩
/-- a handle for an address that is not told -/
theorem Rel.nail (R : Rel K T w m H) (a : Addr) : Rel K T ⟨w.g, w.r ++ [a]⟩ (m ++ [.dead]) H ∧ Tr w m H ⟨w.g, w.r ++ [a]⟩ (m ++ [.dead]) H := by
  have G : Gr w ⟨w.g, w.r ++ [a]⟩ := ⟨Same.refl _, [a], rfl⟩
  have len := R.len
  have cs : ∀ (k : Nat) (o : MO) (b : Addr), (m ++ [MO.dead])[k]? = some o → o.live = true → (w.r ++ [a])[k]? = some b → m[k]? = some o ∧ w.r[k]? = some b := fun k o b e l f => by
    by_cases hk : k < m.length
    · rw [List.getElem?_append_left hk] at e
      rw [List.getElem?_append_left (by omega)] at f
      exact ⟨e, f⟩
    · rw [List.getElem?_append_right (by omega)] at e
      have hk' := (List.getElem?_eq_some_iff.mp e).1
      have e0 : k = m.length := by simp at hk'; omega
      subst e0
      simp at e
      subst e
      cases l
  refine ⟨⟨R.sub, by simp [len], fun k o b e1 e2 e3 => ?_, fun j k o u b e1 e2 e3 e4 e5 e6 => ?_, R.tab, R.nt, R.tk.mono G⟩, ⟨G, fun b o h _ _ => h, fun b l => ?_, fun b o h => .inl h⟩⟩
  · obtain ⟨f1, f2⟩ := cs k o b e1 e3 e2
    exact ⟨(R.obj k o b f1 f2 e3).1, (R.obj k o b f1 f2 e3).2.same G fun u hu _ => hu⟩
  · obtain ⟨f1, f2⟩ := cs j o b e1 e3 e5
    obtain ⟨f3, f4⟩ := cs k u b e2 e4 e6
    exact R.inj j k o u b f1 f3 e3 e4 f2 f4
  · obtain ⟨k, o, e1, e2, e3⟩ := l
    obtain ⟨f1, f2⟩ := cs k o b e2 e3 e1
    exact .inl ⟨k, o, f2, f1, e3⟩
/-- a thing that stands for good -/
theorem Rel.know (R : Rel K T w m H) {p : Addr} {o : HO} (h : H p = some o) (n1 : ∀ ps, o ≠ .tbl ps := by intro ps z; cases z) (n2 : ∀ ps, o ≠ .lst ps := by intro ps z; cases z) (n3 : ∀ ps, o ≠ .dT ps := by intro ps z; cases z) : ∃ w', Gr w w' ∧ w'.r = w.r ∧ w'.g p = some o ∧ Rel K T w' m H ∧ Tr w m H w' m H := by
  cases e : w.g p with
  | some o' =>
    have e2 := R.sub p o' e
    rw [h] at e2
    obtain rfl := Option.some.inj e2
    exact ⟨w, Gr.refl w, rfl, e, R, Tr.refl _ _ _⟩
  | none =>
    have G : Gr w ⟨upd w.g p o, w.r⟩ := ⟨same_upd e, [], by simp⟩
    refine ⟨⟨upd w.g p o, w.r⟩, G, rfl, upd_same, ⟨fun b u e' => ?_, R.len, fun k u a e1 e2 e3 => ?_, R.inj, R.tab, fun b ps e' => ?_, R.tk.mono G⟩, ⟨G, fun b u h _ _ => h, fun b l => .inl l, fun b u e' => ?_⟩⟩
    · have e' : upd w.g p o b = some u := e'
      by_cases hb : b = p
      · subst hb; rw [upd_same] at e'; rw [h]; exact e'
      · rw [upd_ne hb] at e'; exact R.sub b u e'
    · obtain ⟨q1, q2⟩ := R.obj k u a e1 e2 e3
      have ne : a ≠ p := fun z => by
        subst z
        cases u with
        | dead => cases e3
        | lst ds => obtain ⟨vs', z, _⟩ := q2; rw [h] at z; exact n2 _ (Option.some.inj z)
        | dic ds => obtain ⟨vs', z, _⟩ := q2; rw [h] at z; exact n3 _ (Option.some.inj z)
      exact ⟨by show upd w.g p o a = none; rw [upd_ne ne]; exact q1, q2.same G fun z hz _ => hz⟩
    · have e' : upd w.g p o b = some (.tbl ps) := e'
      by_cases hb : b = p
      · subst hb; rw [upd_same] at e'; exact n1 _ (Option.some.inj e')
      · rw [upd_ne hb] at e'; exact R.nt b ps e'
    · have e' : upd w.g p o b = some u := e'
      by_cases hb : b = p
      · subst hb
        refine .inr (.inl fun o' ho vs z => ?_)
        rw [h] at ho
        exact n2 vs ((Option.some.inj ho).trans z)
      · rw [upd_ne hb] at e'; exact .inl e'
end
end Rx
set_option Elab.async false
set_option linter.all false
set_option maxRecDepth 100000
namespace Rx
open PySem PySem.Spec PyProof.Rows L2

/-! ### readings -/
def XRel (K : PySem.W.Frag) (mg : Str → Option Value) (w : Wd) (H : Hp) (cls : Value) (dd : Option Addr) (x : Ex) : Prop :=
  (∃ C, mg x.cls = some (.ref C) ∧ cls = .ref C) ∧ ((dd = none ∧ x.fs = []) ∨ ∃ a vs, dd = some a ∧ H a = some (.xd vs) ∧ ∀ f d, x.fs.lookup f = some d → ∃ v, vs.lookup f = some v ∧ Dat K w v d)
def Then {α : Type} (K : PySem.W.Frag) (mg : Str → Option Value) (T : Tb) (W : WX) (w : Wd) (m : Mu) (H : Hp) (σ : L2.St) (r : Res α) (k : α → Mu → Wd → Hp → Prop) : Prop := match r with
  | .ok a m' => ∀ w' H', Tr w m H w' m' H' → Rel K T w' m' H' → k a m' w' H'
  | .exc x m' => ∀ w' H' cls dd, Tr w m H w' m' H' → Rel K T w' m' H' → XRel K mg w' H' cls dd x → W cls dd σ H'
  | .stuck => False
def Slots (K : PySem.W.Frag) (w : Wd) (σ : L2.St) (s : Sd) : Prop := σ.length = s.length ∧ ∀ (i : Nat) (d : D), s[i]? = some (some d) → ∃ v, σ[i]? = some (some v) ∧ Dat K w v d
def rdE (K : PySem.W.Frag) (mg : Str → Option Value) (T : Tb) (W : WX) (f : SEx) : TE := fun σ H Q => ∃ w s m, Rel K T w m H ∧ Slots K w σ s ∧ Then K mg T W w m H σ (f s m) fun d _ w' H' => ∀ v, Dat K w' v d → Q v H'
def rdB (K : PySem.W.Frag) (mg : Str → Option Value) (T : Tb) (W : WX) (f : SBl) : TT := fun σ H Q => ∃ w s m, Rel K T w m H ∧ Slots K w σ s ∧ Then K mg T W w m H σ (f s m) fun b _ _ H' => Q b H'
def rdA (K : PySem.W.Frag) (mg : Str → Option Value) (T : Tb) (W : WX) (f : SAr) : TA := fun σ H Q => ∃ w s m, Rel K T w m H ∧ Slots K w σ s ∧ Then K mg T W w m H σ (f s m) fun ds _ w' H' => ∀ vs, DatL K w' vs ds → Q vs H'
theorem Slots.mono {K : PySem.W.Frag} {w w' : Wd} {σ : L2.St} {s : Sd} (h : Slots K w σ s) (g : Gr w w') : Slots K w' σ s := ⟨h.1, fun i d e => by
  obtain ⟨v, e1, e2⟩ := h.2 i d e
  exact ⟨v, e1, e2.mono g⟩⟩
theorem Slots.set {K : PySem.W.Frag} {w : Wd} {σ : L2.St} {s : Sd} (h : Slots K w σ s) (i : Nat) {v : V} {d : D} (r : Dat K w v d) : Slots K w (σ.set i (some v)) (s.set i (some d)) := ⟨by simp [h.1], fun j e q => by
  by_cases hj : j = i
  · subst hj
    have hl : j < (s.set j (some d)).length := (List.getElem?_eq_some_iff.mp q).1
    have hl' : j < s.length := by simpa using hl
    rw [List.getElem?_set_self hl'] at q
    cases q
    exact ⟨v, by rw [List.getElem?_set_self (by rw [h.1]; exact hl')], r⟩
  · rw [List.getElem?_set_ne (Ne.symm hj)] at q
    obtain ⟨u, e1, e2⟩ := h.2 j e q
    exact ⟨u, by rw [List.getElem?_set_ne (Ne.symm hj)]; exact e1, e2⟩⟩
section
variable {X : Cx} {K : PySem.W.Frag} {mg : Str → Option Value} {T : Tb} {W : WX} {w w1 : Wd} {m m1 : Mu} {H H1 : Hp} {σ : L2.St}
theorem XRel.to {w' : Wd} {H' : Hp} {cls dd x} (h : XRel K mg w H cls dd x) (g : Gr w w') (s : ∀ a vs, H a = some (.xd vs) → H' a = some (.xd vs)) : XRel K mg w' H' cls dd x := ⟨h.1, by
  rcases h.2 with h | ⟨a, vs, e2, e3, h⟩
  · exact .inl h
  · refine .inr ⟨a, vs, e2, s _ _ e3, fun f d e1 => ?_⟩
    obtain ⟨v, e4, e5⟩ := h f d e1
    exact ⟨v, e4, e5.mono g⟩⟩
theorem Then.from_ {α : Type} {r : Res α} {k : α → Mu → Wd → Hp → Prop} (h : Then K mg T W w m H σ r k) (t : Tr w m H w1 m1 H1) : Then K mg T W w1 m1 H1 σ r k := by
  cases r with
  | ok a m' => exact fun w' H' t' R => h w' H' (t.trans t') R
  | exc x m' => exact fun w' H' cls dd t' R => h w' H' cls dd (t.trans t') R
  | stuck => exact h
theorem Then.mono {α : Type} {r : Res α} {k k' : α → Mu → Wd → Hp → Prop} (h : Then K mg T W w m H σ r k) (i : ∀ a m' w' H', Tr w m H w' m' H' → Rel K T w' m' H' → k a m' w' H' → k' a m' w' H') : Then K mg T W w m H σ r k' := by
  cases r with
  | ok a m' => exact fun w' H' t' R => i a m' w' H' t' R (h w' H' t' R)
  | exc x m' => exact h
  | stuck => exact h
theorem Then.bind {α β : Type} {r : Res α} {f : α → Mu → Res β} {k : β → Mu → Wd → Hp → Prop} (h : Then K mg T W w m H σ (r.bind f) k) :
    Then K mg T W w m H σ r fun a m' w' H' => Then K mg T W w' m' H' σ (f a m') k := by
  cases r with
  | ok a m' => exact fun w' H' t' R => Then.from_ h t'
  | exc x m' => exact h
  | stuck => exact h
theorem Then.now {α : Type} {a : α} {k : α → Mu → Wd → Hp → Prop} (h : Then K mg T W w m H σ (.ok a m) k) (R : Rel K T w m H) : k a m w H := h w H (Tr.refl w m H) R
/-- an equal reading -/
theorem _root_.L2.PE.imp {e : Expr} {t t' : TE} (h : PE X e t) (i : ∀ σ H Q, t' σ H Q → t σ H Q) : PE X e t' := ⟨fun pins s σ H Q I q => h.run pins s σ H Q I (i σ H Q q)⟩
theorem _root_.L2.PT.imp {e : Expr} {t t' : TT} (h : PT X e t) (i : ∀ σ H Q, t' σ H Q → t σ H Q) : PT X e t' := ⟨fun pins s σ H Q I q => h.run pins s σ H Q I (i σ H Q q)⟩
theorem _root_.L2.PW.imp {e : Expr} {t t' : TT} (h : PW X e t) (i : ∀ σ H Q, t' σ H Q → t σ H Q) : PW X e t' := ⟨fun wh pins s σ H Q I q => h.run wh pins s σ H Q I (i σ H Q q)⟩
theorem _root_.L2.PA.imp {e : List Expr} {t t' : TA} (h : PA X e t) (i : ∀ σ H Q, t' σ H Q → t σ H Q) : PA X e t' := ⟨fun pos pins s σ H Q I q => h.run pos pins s σ H Q I (i σ H Q q)⟩
end
/-! ### names, constants -/
def sVar (i : Nat) : SEx := fun s m => match s[i]? with
  | some (some d) => .ok d m
  | _ => .stuck
def sC (d : D) : SEx := fun _ m => .ok d m
def s2 (g : D → D → Mu → Res D) (a b : SEx) : SEx := fun s m => (a s m).bind fun x m => (b s m).bind fun y m => g x y m
def s1 (g : D → Mu → Res D) (a : SEx) : SEx := fun s m => (a s m).bind fun x m => g x m
def aNil : SAr := fun _ m => .ok [] m
def aCons (a : SEx) (r : SAr) : SAr := fun s m => (a s m).bind fun x m => (r s m).bind fun xs m => .ok (x :: xs) m
def sTup (a : SAr) : SEx := fun s m => (a s m).bind fun ds m => if ds.length ≤ 1000 then .ok (.tup ds) m else .stuck
def sLst (a : SAr) : SEx := fun s m => (a s m).bind fun ds m => if ds.length ≤ 1000 then .ok (.lst ds) m else .stuck
def sNew (a : SAr) : SEx := fun s m => (a s m).bind fun ds m => if ds.length ≤ 1000 then .ok (.ref m.length) (m ++ [.lst ds]) else .stuck
section
variable {X : Cx} {T : Tb} {W : WX} {pos : Pos}
theorem re_var {i : Nat} {x : Str} (h : PE X (.Name x pos) (tVar i)) : PE X (.Name x pos) (rdE X.K X.mg T W (sVar i)) := by
  refine h.imp fun σ H Q ⟨w, s, m, R, S, t⟩ => ?_
  unfold sVar at t
  split at t
  · rename_i d hd
    obtain ⟨v, e1, e2⟩ := S.2 i d hd
    exact ⟨v, e1, t.now R v e2⟩
  · exact t.elim
theorem re_c {e : Expr} {v : V} {d : D} (h : PE X e (tC v)) (r : ∀ w, Dat X.K w v d) : PE X e (rdE X.K X.mg T W (sC d)) :=
  h.imp fun σ H Q ⟨w, s, m, R, S, t⟩ => Then.now (K := X.K) (mg := X.mg) (T := T) (W := W) (σ := σ) t R v (r w)
theorem re_two {a b e : Expr} {r : R2} {f1 f2 : SEx} {g : D → D → Mu → Res D} (h : PE X a (rdE X.K X.mg T W f1) → PE X b (rdE X.K X.mg T W f2) → PE X e (tOp r (rdE X.K X.mg T W f1) (rdE X.K X.mg T W f2))) (ha : PE X a (rdE X.K X.mg T W f1)) (hb : PE X b (rdE X.K X.mg T W f2))
    (hr : ∀ (w : Wd) (m : Mu) (H : Hp) (σ : L2.St) (x y : D) (u v : V) (Q : VK), Rel X.K T w m H → Dat X.K w u x → Dat X.K w v y → Then X.K X.mg T W w m H σ (g x y m) (fun d _ w' H' => ∀ v, Dat X.K w' v d → Q v H') → r u v H Q) : PE X e (rdE X.K X.mg T W (s2 g f1 f2)) := by
  refine (h ha hb).imp fun σ H Q ⟨w, s, m, R, S, t⟩ => ?_
  refine ⟨w, s, m, R, S, (Then.bind t).mono fun x m1 w1 H1 t1 R1 t u hu => ?_⟩
  refine ⟨w1, s, m1, R1, S.mono t1.gr, (Then.bind t).mono fun y m2 w2 H2 t2 R2 t v hv => ?_⟩
  exact hr w2 m2 H2 σ x y u v Q R2 (hu.mono t2.gr) hv t
theorem re_one {a e : Expr} {r : V → Hp → VK → Prop} {f1 : SEx} {g : D → Mu → Res D} (h : PE X a (rdE X.K X.mg T W f1) → PE X e (fun σ H Q => rdE X.K X.mg T W f1 σ H fun x H1 => r x H1 Q)) (ha : PE X a (rdE X.K X.mg T W f1))
    (hr : ∀ (w : Wd) (m : Mu) (H : Hp) (σ : L2.St) (x : D) (u : V) (Q : VK), Rel X.K T w m H → Dat X.K w u x → Then X.K X.mg T W w m H σ (g x m) (fun d _ w' H' => ∀ v, Dat X.K w' v d → Q v H') → r u H Q) : PE X e (rdE X.K X.mg T W (s1 g f1)) := by
  refine (h ha).imp fun σ H Q ⟨w, s, m, R, S, t⟩ => ?_
  exact ⟨w, s, m, R, S, (Then.bind t).mono fun x m1 w1 H1 t1 R1 t u hu => hr w1 m1 H1 σ x u Q R1 hu t⟩
theorem ra_nil : PA X [] (rdA X.K X.mg T W aNil) := pa_nil.imp fun σ H Q ⟨w, s, m, R, S, t⟩ => Then.now (K := X.K) (mg := X.mg) (T := T) (W := W) (σ := σ) t R [] .nil
theorem ra_cons {e : Expr} {es : List Expr} {f : SEx} {r : SAr} (ha : PE X e (rdE X.K X.mg T W f)) (hr : PA X es (rdA X.K X.mg T W r)) (hs : starEach (e :: es) X.env = (false, eval e X.env) :: starEach es X.env := by rfl) : PA X (e :: es) (rdA X.K X.mg T W (aCons f r)) := by
  refine (pa_cons ha hr hs).imp fun σ H Q ⟨w, s, m, R, S, t⟩ => ?_
  refine ⟨w, s, m, R, S, (Then.bind t).mono fun x m1 w1 H1 t1 R1 t u hu => ?_⟩
  refine ⟨w1, s, m1, R1, S.mono t1.gr, (Then.bind t).mono fun y m2 w2 H2 t2 R2 t v hv => ?_⟩
  exact Then.now (K := X.K) (mg := X.mg) (T := T) (W := W) (σ := σ) t R2 _ (.cons (hu.mono t2.gr) hv)
/-- over arguments -/
theorem re_args {es : List Expr} {e : Expr} {r : List V → Hp → VK → Prop} {f : SAr} {g : List D → Mu → Res D} (h : PA X es (rdA X.K X.mg T W f) → PE X e (fun σ H Q => rdA X.K X.mg T W f σ H fun x H1 => r x H1 Q)) (ha : PA X es (rdA X.K X.mg T W f))
    (hr : ∀ (w : Wd) (m : Mu) (H : Hp) (σ : L2.St) (x : List D) (u : List V) (Q : VK), Rel X.K T w m H → DatL X.K w u x → Then X.K X.mg T W w m H σ (g x m) (fun d _ w' H' => ∀ v, Dat X.K w' v d → Q v H') → r u H Q) :
    PE X e (rdE X.K X.mg T W fun s m => (f s m).bind fun xs m => g xs m) := by
  refine (h ha).imp fun σ H Q ⟨w, s, m, R, S, t⟩ => ?_
  exact ⟨w, s, m, R, S, (Then.bind t).mono fun x m1 w1 H1 t1 R1 t u hu => hr w1 m1 H1 σ x u Q R1 hu t⟩
theorem line1000 {n : Nat} (h : n ≤ 1000) : n ≤ sizeLine := by rw [sizeLine_eq]; omega
/-- the end of an operation that lays a thing that never changes -/
theorem fin_frozen {w : Wd} {m : Mu} {H : Hp} {σ : L2.St} {d : D} {o : HO} {Q : VK} (R : Rel X.K T w m H) (t : Then X.K X.mg T W w m H σ (.ok d m) (fun d _ w' H' => ∀ v, Dat X.K w' v d → Q v H')) {p : Addr} (hp : H p = none) (hd : ∀ w', Gr w w' → w'.g p = some o → Dat X.K w' (.ref p) d) (no : ∀ ps, o ≠ .tbl ps := by intro ps z; cases z) : Q (.ref p) (upd H p o) := by
  obtain ⟨R1, t1⟩ := R.frozen (o := o) hp no
  exact t _ _ t1 R1 _ (hd _ t1.gr upd_same)
theorem re_tup {es : List Expr} {f : SAr} {k} (ha : PA X es (rdA X.K X.mg T W f)) : PE X (.Tuple es k pos) (rdE X.K X.mg T W (sTup f)) := by
  refine re_args (r := fun xs H1 Q => xs.length ≤ sizeLine ∧ ∀ p, H1 p = none → Q (.ref p) (upd H1 p (.tup xs))) (fun h => pe_tup h) ha fun w m H σ x u Q R hu t => ?_
  split at t
  · rename_i hl
    exact ⟨by rw [hu.length]; exact line1000 hl, fun p hp => fin_frozen R t hp fun w' g e => .tup e (hu.mono g)⟩
  · exact t.elim
theorem re_lst {es : List Expr} {f : SAr} (ha : PA X es (rdA X.K X.mg T W f)) : PE X (.List es pos) (rdE X.K X.mg T W (sLst f)) := by
  refine re_args (r := fun xs H1 Q => xs.length ≤ sizeLine ∧ ∀ p, H1 p = none → Q (.ref p) (upd H1 p (.lst xs))) (fun h => pe_lst h) ha fun w m H σ x u Q R hu t => ?_
  split at t
  · rename_i hl
    exact ⟨by rw [hu.length]; exact line1000 hl, fun p hp => fin_frozen R t hp fun w' g e => .lst e (hu.mono g)⟩
  · exact t.elim
theorem re_new {es : List Expr} {f : SAr} (ha : PA X es (rdA X.K X.mg T W f)) : PE X (.List es pos) (rdE X.K X.mg T W (sNew f)) := by
  refine re_args (r := fun xs H1 Q => xs.length ≤ sizeLine ∧ ∀ p, H1 p = none → Q (.ref p) (upd H1 p (.lst xs))) (fun h => pe_lst h) ha fun w m H σ x u Q R hu t => ?_
  split at t
  · rename_i hl
    refine ⟨by rw [hu.length]; exact line1000 hl, fun p hp => ?_⟩
    obtain ⟨R1, t1⟩ := R.fresh (u := .lst x) (o := .lst u) hp rfl fun w' g => ⟨u, upd_same, hu.mono g⟩
    exact t _ _ t1 R1 _ (.ref (by show (w.r ++ [p])[m.length]? = some p; rw [← R.len]; simp))
  · exact t.elim
theorem tup_at {K : PySem.W.Frag} {w : Wd} {v : V} {d : D} (h : Dat K w v d) {ds : List D} (e : tupOf d = some ds) : ∃ a vs, v = .ref a ∧ SqT K w.g a vs ∧ DatL K w vs ds := by
  cases h with
  | tup h r => cases e; exact ⟨_, _, rfl, .of h, r⟩
  | ktup h r => cases e; exact ⟨_, _, rfl, h, r⟩
  | _ => cases e
end
end Rx
set_option Elab.async false
set_option linter.all false
set_option maxRecDepth 100000
namespace Rx
open PySem PySem.Spec PyProof.Rows L2

/-! ### statements -/
def SThen (K : PySem.W.Frag) (mg : Str → Option Value) (T : Tb) (W : WX) (w : Wd) (m : Mu) (H : Hp) (r : SRes) (D : Ends) : Prop := match r with
  | .nx s' m' => ∀ w' H' σ', Tr w m H w' m' H' → Rel K T w' m' H' → Slots K w' σ' s' → D.nx σ' H'
  | .ret d m' => ∀ w' H' v, Tr w m H w' m' H' → Rel K T w' m' H' → Dat K w' v d → D.rt v H'
  | .bk s' m' => ∀ w' H' σ', Tr w m H w' m' H' → Rel K T w' m' H' → Slots K w' σ' s' → D.bk σ' H'
  | .ct s' m' => ∀ w' H' σ', Tr w m H w' m' H' → Rel K T w' m' H' → Slots K w' σ' s' → D.ct σ' H'
  | .exc x s' m' => ∀ w' H' σ' cls dd, Tr w m H w' m' H' → Rel K T w' m' H' → Slots K w' σ' s' → XRel K mg w' H' cls dd x → W cls dd σ' H'
  | .stuck => False
def rdS (K : PySem.W.Frag) (mg : Str → Option Value) (T : Tb) (W : WX) (f : SSt) : TS := fun D σ H => ∃ w s m, Rel K T w m H ∧ Slots K w σ s ∧ SThen K mg T W w m H (f s m) D
@[simp] def Res.toS {α : Type} (r : Res α) (s : Sd) (f : α → Mu → SRes) : SRes := match r with
  | .ok a m => f a m
  | .exc x m => .exc x s m
  | .stuck => .stuck
section
variable {X : Cx} {K : PySem.W.Frag} {mg : Str → Option Value} {T : Tb} {W : WX} {w w1 w0 : Wd} {m m1 m0 : Mu} {H H1 H0 : Hp} {σ : L2.St} {D : Ends}
theorem SThen.from_ {r : SRes} (h : SThen K mg T W w m H r D) (t : Tr w m H w1 m1 H1) : SThen K mg T W w1 m1 H1 r D := by
  cases r with
  | nx s' m' => exact fun w' H' σ' t' => h w' H' σ' (t.trans t')
  | ret s' m' => exact fun w' H' σ' t' => h w' H' σ' (t.trans t')
  | bk s' m' => exact fun w' H' σ' t' => h w' H' σ' (t.trans t')
  | ct s' m' => exact fun w' H' σ' t' => h w' H' σ' (t.trans t')
  | exc x s' m' => exact fun w' H' σ' cls dd t' => h w' H' σ' cls dd (t.trans t')
  | stuck => exact h
/-- an expression ahead of a statement's rest; the slots are as they are -/
theorem SThen.ofS {α : Type} {r : Res α} {s : Sd} {f : α → Mu → SRes} (h : SThen K mg T W w m H (r.toS s f) D) (S : Slots K w σ s) :
    Then K mg T W w m H σ r fun a m' w' H' => SThen K mg T W w' m' H' (f a m') D := by
  cases r with
  | ok a m' => exact fun w' H' t' R => SThen.from_ h t'
  | exc x m' => exact fun w' H' cls dd t' R x => h w' H' σ cls dd t' R (S.mono t'.gr) x
  | stuck => exact h
theorem _root_.L2.PS.imp {e : Stmt} {t t' : TS} (h : PS X e t) (i : ∀ D σ H, t' D σ H → t D σ H) : PS X e t' := ⟨fun pins s σ H D I q => h.run pins s σ H D I (i D σ H q)⟩
theorem _root_.L2.PSs.imp {e : List Stmt} {t t' : TS} (h : PSs X e t) (i : ∀ D σ H, t' D σ H → t D σ H) : PSs X e t' := ⟨fun pins s σ H D I q => h.run pins s σ H D I (i D σ H q)⟩
end
def sNil : SSt := fun s m => .nx s m
def sSeq (a b : SSt) : SSt := fun s m => match a s m with
  | .nx s' m' => b s' m'
  | r => r
def sSet (i : Nat) (f : SEx) : SSt := fun s m => (f s m).toS s fun d m' => .nx (s.set i (some d)) m'
def sRet (f : SEx) : SSt := fun s m => (f s m).toS s fun d m' => .ret d m'
def sRetN : SSt := fun s m => .ret .non m
def sDo (f : SEx) : SSt := fun s m => (f s m).toS s fun _ m' => .nx s m'
def sIf (c : SBl) (a b : SSt) : SSt := fun s m => (c s m).toS s fun k m' => if k = true then a s m' else b s m'
def sCont : SSt := fun s m => .ct s m
def sBrk : SSt := fun s m => .bk s m
/-- targets -/
abbrev STg := D → Sd → Option Sd
abbrev STgs := List D → Sd → Option Sd
def gN (i : Nat) : STg := fun d s => some (s.set i (some d))
def gT (t : STgs) : STg := fun d s => match tupOf d with
  | some ds => t ds s
  | none => none
def gsNil : STgs := fun ds s => match ds with
  | [] => some s
  | _ => none
def gsCons (g : STg) (r : STgs) : STgs := fun ds s => match ds with
  | d :: ds => (g d s).bind fun s' => r ds s'
  | _ => none
def sAsg (f : SEx) (g : STg) : SSt := fun s m => (f s m).toS s fun d m' => match g d s with
  | some s' => .nx s' m'
  | none => .stuck
def sPar (i j : Nat) (a : SAr) : SSt := fun s m => (a s m).toS s fun ds m' => match ds with
  | [x, y] => .nx ((s.set i (some x)).set j (some y)) m'
  | _ => .stuck
def sPar3 (i j l : Nat) (a : SAr) : SSt := fun s m => (a s m).toS s fun ds m' => match ds with
  | [x, y, z] => .nx (((s.set i (some x)).set j (some y)).set l (some z)) m'
  | _ => .stuck
/-- what a target may do to the slots -/
structure GRel (P : L2.St → L2.St → Prop) : Prop where
  refl : ∀ σ, P σ σ
  trans : ∀ a b c, P a b → P b c → P a c
abbrev gAny : L2.St → L2.St → Prop := fun _ _ => True
theorem gAny_ok : GRel gAny := ⟨fun _ => trivial, fun _ _ _ _ _ => trivial⟩
def rdG (K : PySem.W.Frag) (T : Tb) (P : L2.St → L2.St → Prop) (g : STg) : TG := fun v σ H Q => ∃ w s m d, Rel K T w m H ∧ Slots K w σ s ∧ Dat K w v d ∧ match g d s with
  | some s' => ∀ σ', Slots K w σ' s' → P σ σ' → Q σ' H
  | none => False
def rdGs (K : PySem.W.Frag) (T : Tb) (P : L2.St → L2.St → Prop) (g : STgs) : TGs := fun vs σ H Q => ∃ w s m ds, Rel K T w m H ∧ Slots K w σ s ∧ DatL K w vs ds ∧ match g ds s with
  | some s' => ∀ σ', Slots K w σ' s' → P σ σ' → Q σ' H
  | none => False
section
variable {X : Cx} {T : Tb} {W : WX} {pos : Pos}
theorem _root_.L2.PG.imp {e : Expr} {t t' : TG} (h : PG X e t) (i : ∀ v σ H Q, t' v σ H Q → t v σ H Q) : PG X e t' := ⟨fun pins s σ H v u Q I r q => h.run pins s σ H v u Q I r (i v σ H Q q)⟩
theorem _root_.L2.PGs.imp {e : List Expr} {t t' : TGs} (h : PGs X e t) (i : ∀ v σ H Q, t' v σ H Q → t v σ H Q) : PGs X e t' := ⟨fun pins s σ H v u Q I r q => h.run pins s σ H v u Q I r (i v σ H Q q)⟩
theorem rg_n {P : L2.St → L2.St → Prop} {i : Nat} {e : Expr} (h : PG X e (gName i)) (hP : ∀ σ x, P σ (σ.set i x)) : PG X e (rdG X.K T P (gN i)) := h.imp fun v σ H Q ⟨w, s, m, d, R, S, r, q⟩ => q _ (S.set i r) (hP _ _)
theorem rgs_nil {P : L2.St → L2.St → Prop} (hP : GRel P) : PGs X [] (rdGs X.K T P gsNil) := pgs_nil.imp fun v σ H Q ⟨w, s, m, d, R, S, r, q⟩ => by
  cases r with
  | nil => exact ⟨rfl, q _ S (hP.refl _)⟩
  | cons h r => exact q.elim
theorem rgs_cons {P : L2.St → L2.St → Prop} (hP : GRel P) {e : Expr} {es : List Expr} {g : STg} {r : STgs} (h1 : PG X e (rdG X.K T P g)) (h2 : PGs X es (rdGs X.K T P r)) (hs : (assignEach (e :: es) X.env).map (·.2) = assign e X.env :: (assignEach es X.env).map (·.2) := by rfl) : PGs X (e :: es) (rdGs X.K T P (gsCons g r)) :=
  (pgs_cons h1 h2 hs).imp fun v σ H Q ⟨w, s, m, d, R, S, rr, q⟩ => by
    cases rr with
    | nil => exact q.elim
    | @cons v d vs ds hh rr =>
      refine ⟨_, _, rfl, w, s, m, d, R, S, hh, ?_⟩
      unfold gsCons at q
      simp only at q
      cases e1 : g d s with
      | none => rw [e1] at q; exact q.elim
      | some s' =>
        rw [e1] at q
        refine fun σ' S' p1 => ⟨w, s', m, ds, R, S', rr, ?_⟩
        have q2 : match r ds s' with
          | some s' => ∀ σ', Slots X.K w σ' s' → P σ σ' → Q σ' H
          | none => False := q
        revert q2
        cases r ds s' with
        | none => exact fun q2 => q2
        | some s2 => exact fun q2 σ2 S2 p2 => q2 σ2 S2 (hP.trans _ _ _ p1 p2)
theorem rg_t {P : L2.St → L2.St → Prop} {es : List Expr} {k : Nat} {t : STgs} {n : Nat} (hc : X.calm = true) (h : PGs X es (rdGs X.K T P t)) (hl : ∀ ds s s', t ds s = some s' → ds.length = n) (hn : (assignEach es X.env).length = n := by rfl) (hst : (assignEach es X.env).findIdx? (·.1) = none := by rfl) :
    PG X (.Tuple es k pos) (rdG X.K T P (gT t)) := (pg_tup hc h hn hst).imp fun v σ H Q ⟨w, s, m, d, R, S, r, q⟩ => by
  unfold gT at q
  cases e0 : tupOf d with
  | none => rw [e0] at q; exact q.elim
  | some ds =>
    rw [e0] at q
    obtain ⟨a, vs, rfl, hq, rr⟩ := tup_at r e0
    refine ⟨a, vs, rfl, same_sqT R.sub hq, ?_, w, s, m, ds, R, S, rr, q⟩
    cases e1 : t ds s with
    | none => simp only [e1] at q
    | some s' => rw [rr.length]; exact hl ds s s' e1
theorem gsNil_len : ∀ ds s s', gsNil ds s = some s' → ds.length = 0 := fun ds s s' e => by
  cases ds with
  | nil => rfl
  | cons _ _ => cases e
theorem gsCons_len {g : STg} {r : STgs} {n : Nat} (h : ∀ ds s s', r ds s = some s' → ds.length = n) : ∀ ds s s', gsCons g r ds s = some s' → ds.length = n + 1 := fun ds s s' e => by
  cases ds with
  | nil => cases e
  | cons d ds =>
    unfold gsCons at e
    simp only at e
    cases e1 : g d s with
    | none => rw [e1] at e; cases e
    | some s1 => rw [e1] at e; rw [List.length_cons, h ds s1 s' e]
theorem rs_nil : PSs X [] (rdS X.K X.mg T W sNil) := pss_nil.imp fun D σ H ⟨w, s, m, R, S, t⟩ => t w H σ (Tr.refl w m H) R S
theorem rs_cons {st : Stmt} {rest : List Stmt} {a b : SSt} (h1 : PS X st (rdS X.K X.mg T W a)) (h2 : PSs X rest (rdS X.K X.mg T W b)) : PSs X (st :: rest) (rdS X.K X.mg T W (sSeq a b)) := (pss_cons h1 h2).imp fun D σ H ⟨w, s, m, R, S, t⟩ => by
  refine ⟨w, s, m, R, S, ?_⟩
  unfold sSeq at t
  revert t
  cases a s m with
  | nx s' m' => exact fun t w' H' σ' t1 R1 S1 => ⟨w', s', m', R1, S1, SThen.from_ t t1⟩
  | ret d m' => exact fun t => t
  | bk d m' => exact fun t => t
  | ct d m' => exact fun t => t
  | exc x d m' => exact fun t => t
  | stuck => exact fun t => t
theorem rs_one {st : Stmt} {a : SSt} (h1 : PS X st (rdS X.K X.mg T W a)) : PSs X [st] (rdS X.K X.mg T W a) := pss_one h1
theorem rs_set {i : Nat} {st : Stmt} {e : Expr} {f : SEx} (h : PE X e (rdE X.K X.mg T W f) → PS X st (tAsg (rdE X.K X.mg T W f) (gName i))) (he : PE X e (rdE X.K X.mg T W f)) : PS X st (rdS X.K X.mg T W (sSet i f)) := (h he).imp fun D σ H ⟨w, s, m, R, S, t⟩ =>
  ⟨w, s, m, R, S, (SThen.ofS t S).mono fun d m' w' H' t' R' q v hv => q w' H' _ (Tr.refl _ _ _) R' ((S.mono t'.gr).set i hv)⟩
theorem rs_asg {st : Stmt} {e tg : Expr} {f : SEx} {g : STg} (h : PE X e (rdE X.K X.mg T W f) → PG X tg (rdG X.K T gAny g) → PS X st (tAsg (rdE X.K X.mg T W f) (rdG X.K T gAny g))) (he : PE X e (rdE X.K X.mg T W f)) (hg : PG X tg (rdG X.K T gAny g)) : PS X st (rdS X.K X.mg T W (sAsg f g)) := (h he hg).imp fun D σ H ⟨w, s, m, R, S, t⟩ => by
  refine ⟨w, s, m, R, S, (SThen.ofS t S).mono fun d m' w' H' t' R' q v hv => ⟨w', s, m', d, R', S.mono t'.gr, hv, ?_⟩⟩
  cases e1 : g d s with
  | none => rw [e1] at q; exact q.elim
  | some s' => rw [e1] at q; exact fun σ' S' _ => q w' H' σ' (Tr.refl _ _ _) R' S'
theorem rs_par {st : Stmt} {es : List Expr} {i j : Nat} {a : SAr} (h : PA X es (rdA X.K X.mg T W a) → PS X st (tPar i j (rdA X.K X.mg T W a))) (ha : PA X es (rdA X.K X.mg T W a)) : PS X st (rdS X.K X.mg T W (sPar i j a)) := (h ha).imp fun D σ H ⟨w, s, m, R, S, t⟩ => by
  refine ⟨w, s, m, R, S, (SThen.ofS t S).mono fun d m' w' H' t' R' q v hv => ?_⟩
  split at q
  · cases hv with
    | cons h1 hv => cases hv with
      | cons h2 hv => cases hv; exact ⟨_, _, rfl, q w' H' _ (Tr.refl _ _ _) R' (((S.mono t'.gr).set i h1).set j h2)⟩
  · exact q.elim
theorem rs_par3 {st : Stmt} {es : List Expr} {i j l : Nat} {a : SAr} (h : PA X es (rdA X.K X.mg T W a) → PS X st (tPar3 i j l (rdA X.K X.mg T W a))) (ha : PA X es (rdA X.K X.mg T W a)) : PS X st (rdS X.K X.mg T W (sPar3 i j l a)) := (h ha).imp fun D σ H ⟨w, s, m, R, S, t⟩ => by
  refine ⟨w, s, m, R, S, (SThen.ofS t S).mono fun d m' w' H' t' R' q v hv => ?_⟩
  split at q
  · cases hv with
    | cons h1 hv => cases hv with
      | cons h2 hv => cases hv with
        | cons h3 hv => cases hv; exact ⟨_, _, _, rfl, q w' H' _ (Tr.refl _ _ _) R' ((((S.mono t'.gr).set i h1).set j h2).set l h3)⟩
  · exact q.elim
theorem rs_ret {e : Expr} {f : SEx} (he : PE X e (rdE X.K X.mg T W f)) : PS X (.Return (some e) pos) (rdS X.K X.mg T W (sRet f)) := (ps_ret he).imp fun D σ H ⟨w, s, m, R, S, t⟩ =>
  ⟨w, s, m, R, S, (SThen.ofS t S).mono fun d m' w' H' t' R' q v hv => q w' H' v (Tr.refl _ _ _) R' hv⟩
theorem rs_retN : PS X (.Return none pos) (rdS X.K X.mg T W sRetN) := ps_retN.imp fun D σ H ⟨w, s, m, R, S, t⟩ => t w H _ (Tr.refl w m H) R .non
theorem rs_do {e : Expr} {f : SEx} (he : PE X e (rdE X.K X.mg T W f)) (hs : swapsWith e none pos.line X.env = pure false := by rfl) : PS X (.Expr e pos) (rdS X.K X.mg T W (sDo f)) := (ps_expr he hs).imp fun D σ H ⟨w, s, m, R, S, t⟩ =>
  ⟨w, s, m, R, S, (SThen.ofS t S).mono fun d m' w' H' t' R' q v hv => q w' H' _ (Tr.refl _ _ _) R' (S.mono t'.gr)⟩
theorem rs_if {c : Expr} {a b : List Stmt} {fc : SBl} {fa fb : SSt} (hc : PT X c (rdB X.K X.mg T W fc)) (ha : PSs X a (rdS X.K X.mg T W fa)) (hb : PSs X b (rdS X.K X.mg T W fb)) : PS X (.If c a b pos) (rdS X.K X.mg T W (sIf fc fa fb)) := (ps_if hc ha hb).imp fun D σ H ⟨w, s, m, R, S, t⟩ => by
  refine ⟨w, s, m, R, S, (SThen.ofS t S).mono fun k m' w' H' t' R' q => ?_⟩
  cases k with
  | true => exact ⟨w', s, m', R', S.mono t'.gr, q⟩
  | false => exact ⟨w', s, m', R', S.mono t'.gr, q⟩
theorem rs_cont : PS X (.Continue pos) (rdS X.K X.mg T W sCont) := ps_continue.imp fun D σ H ⟨w, s, m, R, S, t⟩ => t w H σ (Tr.refl w m H) R S
theorem rs_brk : PS X (.Break pos) (rdS X.K X.mg T W sBrk) := ps_break.imp fun D σ H ⟨w, s, m, R, S, t⟩ => t w H σ (Tr.refl w m H) R S
theorem rs_pass : PS X (.Pass pos) (rdS X.K X.mg T W sNil) := ps_pass.imp fun D σ H ⟨w, s, m, R, S, t⟩ => t w H σ (Tr.refl w m H) R S
end

/-! ### loops -/
/-- the iterator J yields ds, one behind the other -/
structure ItOk (K : PySem.W.Frag) (T : Tb) (J : It) (w : Wd) (ds : List D) : Prop where
  go : ∀ (w1 : Wd) (m1 : Mu) (H : Hp) (i : Nat) (d : D), Gr w w1 → Rel K T w1 m1 H → ds[i]? = some d → J.go i H ∧ ∀ x H', J.yld i H x H' → ∃ w2, Rel K T w2 m1 H' ∧ Tr w1 m1 H w2 m1 H' ∧ Dat K w2 x d
  stop : ∀ (w1 : Wd) (m1 : Mu) (H : Hp) (i : Nat), Gr w w1 → Rel K T w1 m1 H → ds.length ≤ i → J.stop i H
theorem ItOk.mono {K : PySem.W.Frag} {T} {J : It} {w w' : Wd} {ds : List D} (h : ItOk K T J w ds) (g : Gr w w') : ItOk K T J w' ds := ⟨fun w1 m1 H i d g1 => h.go w1 m1 H i d (g.trans g1), fun w1 m1 H i g1 => h.stop w1 m1 H i (g.trans g1)⟩
def rdI (K : PySem.W.Frag) (mg : Str → Option Value) (T : Tb) (W : WX) (f : SAr) : TI := fun σ H R => ∃ w s m, Rel K T w m H ∧ Slots K w σ s ∧ Then K mg T W w m H σ (f s m) fun ds _ w' H' => ∀ J, ItOk K T J w' ds → R J H'
def forL (g : STg) (body : SSt) : List D → Sd → Mu → SRes
  | [], s, m => .nx s m
  | d :: ds, s, m => match g d s with
    | none => .stuck
    | some s1 => match body s1 m with
      | .nx s2 m2 => forL g body ds s2 m2
      | .ct s2 m2 => forL g body ds s2 m2
      | .bk s2 m2 => .nx s2 m2
      | .ret d m2 => .ret d m2
      | .exc x s2 m2 => .exc x s2 m2
      | .stuck => .stuck
def sFor (src : SAr) (g : STg) (body : SSt) : SSt := fun s m => (src s m).toS s fun ds m' => forL g body ds s m'
def whL (c : SBl) (body : SSt) : Nat → Sd → Mu → SRes
  | 0, _, _ => .stuck
  | n + 1, s, m => match c s m with
    | .ok true m1 => (match body s m1 with
      | .nx s2 m2 => whL c body n s2 m2
      | .ct s2 m2 => whL c body n s2 m2
      | .bk s2 m2 => .nx s2 m2
      | .ret d m2 => .ret d m2
      | .exc x s2 m2 => .exc x s2 m2
      | .stuck => .stuck)
    | .ok false m1 => .nx s m1
    | .exc x m1 => .exc x s m1
    | .stuck => .stuck
def sWhile (n : Nat) (c : SBl) (body : SSt) : SSt := fun s m => whL c body n s m
section
variable {X : Cx} {T : Tb} {W : WX} {pos : Pos}
theorem rs_for {tg iter : Expr} {body : List Stmt} {src : SAr} {g : STg} {fb : SSt} (hp : PassesOwn (model X.prog X.w) X.A X.env X.xe) (hc : X.calm = true) (hi : PI X tg iter (rdI X.K X.mg T W src)) (hg : PG X tg (rdG X.K T gAny g)) (hb : PSs X body (rdS X.K X.mg T W fb))
    (hs : ∀ x, foldedSetIterable iter X.env x = pure x := by intro _; rfl) : PS X (.For tg iter body [] pos) (rdS X.K X.mg T W (sFor src g fb)) := (ps_for hp hc hi hg hb hs).imp fun D σ H ⟨w, s, m, R, S, t⟩ => by
  refine ⟨w, s, m, R, S, (SThen.ofS t S).mono fun ds m0 w0 H0 t0 R0 q J hJ => ?_⟩
  refine ⟨fun i n σ H => i + n = ds.length ∧ ∃ w' s' m', Gr w0 w' ∧ Rel X.K T w' m' H ∧ Slots X.K w' σ s' ∧ SThen X.K X.mg T W w' m' H (forL g fb (ds.drop i) s' m') D, ⟨ds.length, by omega, w0, s, m0, Gr.refl _, R0, S.mono t0.gr, by simpa using q⟩, ?_⟩
  rintro i n σ1 H1 ⟨hn, w1, s1, m1, g1, R1, S1, q1⟩
  by_cases hi' : i < ds.length
  · right
    have e0 : ds[i]? = some ds[i] := List.getElem?_eq_getElem hi'
    have ed : ds.drop i = ds[i] :: ds.drop (i + 1) := List.drop_eq_getElem_cons hi'
    obtain ⟨go, yl⟩ := hJ.go w1 m1 H1 i ds[i] g1 R1 e0
    refine ⟨go, fun σ' H' => i + 1 + (n - 1) = ds.length ∧ ∃ w' s' m', Gr w0 w' ∧ Rel X.K T w' m' H' ∧ Slots X.K w' σ' s' ∧ SThen X.K X.mg T W w' m' H' (forL g fb (ds.drop (i + 1)) s' m') D, fun σ' H' h => ⟨n - 1, by omega, h⟩, fun x H' hy => ?_⟩
    obtain ⟨w2, R2, t2, hx⟩ := yl x H' hy
    refine ⟨w2, s1, m1, ds[i], R2, S1.mono t2.gr, hx, ?_⟩
    rw [ed] at q1
    unfold forL at q1
    cases e1 : g ds[i] s1 with
    | none => rw [e1] at q1; exact q1.elim
    | some s2 =>
      rw [e1] at q1
      simp only at q1 ⊢
      refine fun σ' S' _ => ⟨w2, s2, m1, R2, S', ?_⟩
      have q2 := SThen.from_ q1 t2
      revert q2
      cases fb s2 m1 with
      | nx s3 m3 => exact fun q2 w' H'' σ'' t3 R3 S3 => ⟨by omega, w', s3, m3, g1.trans (t2.gr.trans t3.gr), R3, S3, SThen.from_ q2 t3⟩
      | ct s3 m3 => exact fun q2 w' H'' σ'' t3 R3 S3 => ⟨by omega, w', s3, m3, g1.trans (t2.gr.trans t3.gr), R3, S3, SThen.from_ q2 t3⟩
      | bk s3 m3 => exact fun q2 => q2
      | ret d m3 => exact fun q2 => q2
      | exc x d m3 => exact fun q2 => q2
      | stuck => exact fun q2 => q2
  · left
    have ed : ds.drop i = [] := List.drop_eq_nil_of_le (by omega)
    rw [ed] at q1
    exact ⟨hJ.stop w1 m1 H1 i g1 R1 (by omega), q1 w1 H1 σ1 (Tr.refl _ _ _) R1 S1⟩
theorem rs_while {c : Expr} {body : List Stmt} {fc : SBl} {fb : SSt} (n : Nat) (hp : PassesOwn (model X.prog X.w) X.A X.env X.xe) (hc : PT X c (rdB X.K X.mg T W fc)) (hb : PSs X body (rdS X.K X.mg T W fb)) : PS X (.While c body [] pos) (rdS X.K X.mg T W (sWhile n fc fb)) := (ps_while hp hc hb).imp fun D σ H ⟨w, s, m, R, S, t⟩ => by
  refine ⟨fun n σ H => ∃ w s m, Rel X.K T w m H ∧ Slots X.K w σ s ∧ SThen X.K X.mg T W w m H (whL fc fb n s m) D, ⟨n, w, s, m, R, S, t⟩, ?_⟩
  rintro n σ1 H1 ⟨w1, s1, m1, R1, S1, q1⟩
  cases n with
  | zero => exact q1.elim
  | succ n =>
    refine ⟨w1, s1, m1, R1, S1, ?_⟩
    unfold whL at q1
    revert q1
    cases fc s1 m1 with
    | ok b m2 =>
      cases b with
      | false => exact fun q1 w' H' t' R' => q1 w' H' σ1 t' R' (S1.mono t'.gr)
      | true =>
        intro q1 w' H' t' R'
        refine ⟨fun σ' H' => ∃ w s m, Rel X.K T w m H' ∧ Slots X.K w σ' s ∧ SThen X.K X.mg T W w m H' (whL fc fb n s m) D, fun σ' H' h => ⟨n, Nat.lt_succ_self _, h⟩, w', s1, m2, R', S1.mono t'.gr, ?_⟩
        have q2 := SThen.from_ q1 t'
        revert q2
        dsimp only
        cases fb s1 m2 with
        | nx s3 m3 => exact fun q2 w' H'' σ'' t3 R3 S3 => ⟨w', s3, m3, R3, S3, SThen.from_ q2 t3⟩
        | ct s3 m3 => exact fun q2 w' H'' σ'' t3 R3 S3 => ⟨w', s3, m3, R3, S3, SThen.from_ q2 t3⟩
        | bk s3 m3 => exact fun q2 => q2
        | ret d m3 => exact fun q2 => q2
        | exc x d m3 => exact fun q2 => q2
        | stuck => exact fun q2 => q2
    | exc x m2 => exact fun q1 w' H' cls dd t' R' x => q1 w' H' σ1 cls dd t' R' (S1.mono t'.gr) x
    | stuck => exact fun q1 => q1
end
end Rx
set_option Elab.async false
set_option linter.all false
set_option maxRecDepth 100000
namespace Rx
open PySem PySem.Spec PyProof.Rows L2

/-! ### what is walked -/
/-- a list or tuple, as a value or at a handle: false a list, true a tuple -/
def seqOf (m : Mu) : D → Option (Bool × List D)
  | .lst ds => some (false, ds)
  | .scr ds => some (false, ds)
  | .tup ds => some (true, ds)
  | .ktup ds => some (true, ds)
  | .ref k => match m[k]? with
    | some (.lst ds) => some (false, ds)
    | _ => none
  | _ => none
section
variable {K : PySem.W.Frag} {T : Tb} {w w' : Wd} {m : Mu} {H : Hp}
theorem seq_at (R : Rel K T w m H) {v : V} {d : D} (h : Dat K w v d) {b : Bool} {ds : List D} (e : seqOf m d = some (b, ds)) : ∃ a vs, v = .ref a ∧ DatL K w vs ds ∧ ((b = false ∧ SqL K H a vs) ∨ (b = true ∧ SqT K H a vs)) := by
  cases h with
  | tup hq r => cases e; exact ⟨_, _, rfl, r, .inr ⟨rfl, .of (R.sub _ _ hq)⟩⟩
  | ktup hq r => cases e; exact ⟨_, _, rfl, r, .inr ⟨rfl, same_sqT R.sub hq⟩⟩
  | lst hq r => cases e; exact ⟨_, _, rfl, r, .inl ⟨rfl, .of (R.sub _ _ hq)⟩⟩
  | scr hq r => cases e; exact ⟨_, _, rfl, r, .inl ⟨rfl, R.sub.seq hq⟩⟩
  | @ref a k hk =>
    unfold seqOf at e
    simp only at e
    split at e
    · rename_i ds' e1
      cases e
      obtain ⟨q1, vs, q2, q3⟩ := R.obj k _ a e1 hk rfl
      exact ⟨a, vs, rfl, q3, .inl ⟨rfl, .of q2⟩⟩
    · cases e
  | _ => cases e
/-- the walk of a list or tuple that never changes -/
def valsOf : D → Option (List D)
  | .lst ds => some ds
  | .scr ds => some ds
  | .tup ds => some ds
  | .ktup ds => some ds
  | _ => none
theorem itok_list {a : Addr} {vs : List V} {ds : List D} (h : SqL K w.g a vs) (hu : ∀ xs H, Same w.g H → SqL K H a xs → xs = vs) (r : DatL K w vs ds) : True := trivial
end
section
variable {X : Cx} {T : Tb} {W : WX} {w : Wd}
/-- the list at a as it stood at first; J is the layer's iterator restricted to it -/
def Itl1 (a : Addr) (vs : List V) (K : PySem.W.Frag) : It := ⟨fun i H => SqL K H a vs ∧ i < vs.length, fun i H x H' => H' = H ∧ vs[i]? = some x, fun i H => SqL K H a vs ∧ vs.length ≤ i⟩
def Itt1 (a : Addr) (vs : List V) (K : PySem.W.Frag) : It := ⟨fun i H => SqT K H a vs ∧ i < vs.length, fun i H x H' => H' = H ∧ vs[i]? = some x, fun i H => SqT K H a vs ∧ vs.length ≤ i⟩
theorem Turn.weak {P : Program} {w : World} {K : PySem.W.Frag} {tg : Expr} {J J' : It} {fp : List Addr} {it : Addr} {tn : Nat → Heap → Prop} (h : Turn P w K tg J fp it tn) (g : ∀ i H, J'.go i H → J.go i H) (s : ∀ i H, J'.stop i H → J.stop i H) (y : ∀ i H x H', J'.go i H → J.yld i H x H' → J'.yld i H x H') : Turn P w K tg J' fp it tn :=
  ⟨h.mem, h.obj, h.keep, fun X hP hw hK hc i pins s σ H E I hf st hg => wpAny_mono (h.item X hP hw hK hc i pins s σ H E I hf st (g i H hg)) (fun r s1 ⟨u, e, q⟩ => ⟨u, e, wpAny_mono q (fun _ s2 ⟨x, H', I', rx, yy, z⟩ => ⟨x, H', I', rx, y i H x H' hg yy, z⟩) fun _ _ z => z⟩) fun _ _ z => z,
    fun X hP hw hK hc i pins s' σ H E I hf st hg => h.done X hP hw hK hc i pins s' σ H E I hf st (s i H hg), h.self⟩
theorem turn_l1 {P : Program} {w : World} {K : PySem.W.Frag} {tg : Expr} (a it : Addr) (vs : List V) : Turn P w K tg (Itl1 a vs K) [it] it (fun i h => h.IsListIter it a i) :=
  Turn.weak (turn_list a it) (fun i H ⟨h, l⟩ => ⟨vs, vs[i], h, List.getElem?_eq_getElem l⟩) (fun i H ⟨h, l⟩ => ⟨vs, h, l⟩) (fun i H x H' ⟨h, _⟩ ⟨e, f⟩ => ⟨e, f vs h⟩)
theorem turn_t1 {P : Program} {w : World} {K : PySem.W.Frag} {tg : Expr} (a it : Addr) (vs : List V) : Turn P w K tg (Itt1 a vs K) [it] it (fun i h => h.IsTupleIter it a i) :=
  Turn.weak (turn_tuple a it) (fun i H ⟨h, l⟩ => ⟨vs, vs[i], h, List.getElem?_eq_getElem l⟩) (fun i H ⟨h, l⟩ => ⟨vs, h, l⟩) (fun i H x H' ⟨h, _⟩ ⟨e, f⟩ => ⟨e, f vs h⟩)
theorem itok_l1 {K : PySem.W.Frag} {a : Addr} {vs : List V} {ds : List D} (h : SqL K w.g a vs) (r : DatL K w vs ds) : ItOk K T (Itl1 a vs K) w ds where
  go := fun w1 m1 H i d g R e => ⟨⟨R.sub.seq (g.g.seq h), by rw [r.length]; exact (List.getElem?_eq_some_iff.mp e).1⟩, fun x H' ⟨e1, e2⟩ => by
    subst e1
    obtain ⟨d', e3, hd⟩ := r.getv e2
    rw [e] at e3
    cases e3
    exact ⟨w1, R, Tr.refl _ _ _, hd.mono g⟩⟩
  stop := fun w1 m1 H i g R l => ⟨R.sub.seq (g.g.seq h), by rw [r.length]; exact l⟩
theorem itok_t1 {K : PySem.W.Frag} {a : Addr} {vs : List V} {ds : List D} (h : SqT K w.g a vs) (r : DatL K w vs ds) : ItOk K T (Itt1 a vs K) w ds where
  go := fun w1 m1 H i d g R e => ⟨⟨same_sqT R.sub (same_sqT g.g h), by rw [r.length]; exact (List.getElem?_eq_some_iff.mp e).1⟩, fun x H' ⟨e1, e2⟩ => by
    subst e1
    obtain ⟨d', e3, hd⟩ := r.getv e2
    rw [e] at e3
    cases e3
    exact ⟨w1, R, Tr.refl _ _ _, hd.mono g⟩⟩
  stop := fun w1 m1 H i g R l => ⟨same_sqT R.sub (same_sqT g.g h), by rw [r.length]; exact l⟩
/-- walked: a list or a tuple -/
def iSeq1 (X : Cx) (tl : TE) : TI := fun σ H R => tl σ H fun x H1 => ∃ a vs, x = .ref a ∧ ((SqL X.K H1 a vs ∧ R (Itl1 a vs X.K) H1) ∨ (SqT X.K H1 a vs ∧ R (Itt1 a vs X.K) H1))
theorem pi_seq1 {tg l : Expr} {tl : TE} (hl : PE X l tl) : PI X tg l (iSeq1 X tl) := by
  refine ⟨fun pins s σ H R I h => ?_⟩
  refine thn (hl.run pins s σ H _ I h) fun v s1 ⟨x, H1, I1, r1, q1⟩ => ?_
  obtain ⟨a, vs, e, q⟩ := q1
  subst e
  cases r1
  rcases q with ⟨hq, q⟩ | ⟨hq, q⟩
  · obtain ⟨its, rv, p, hz⟩ := I1.list hq
    refine wpAny_pyIter_list p.isList ?_
    refine ⟨s1.heap.objs.size, [s1.heap.objs.size], _, _, H1, rfl, I1.kept (t' := s1.toks) fun b o e => Heap.get?_push_of_some _ e, turn_l1 a _ vs, ⟨_, Heap.get?_push_size _ rfl, rfl, rfl⟩, fun b hb => ?_, q⟩
    have e : b = s1.heap.objs.size := by simpa using hb
    subst e
    exact I1.fpOk (Nat.le_refl _) (I1.hok.fresh (Nat.le_refl _))
  · obtain ⟨its, rv, p, hz⟩ := I1.tuple hq
    refine wpAny_pyIter_tuple (show s1.heap.IsTuple a its.toArray from p) ?_
    refine ⟨s1.heap.objs.size, [s1.heap.objs.size], _, _, H1, rfl, I1.kept (t' := s1.toks) fun b o e => Heap.get?_push_of_some _ e, turn_t1 a _ vs, ⟨_, Heap.get?_push_size _ rfl, rfl, rfl⟩, fun b hb => ?_, q⟩
    have e : b = s1.heap.objs.size := by simpa using hb
    subst e
    exact I1.fpOk (Nat.le_refl _) (I1.hok.fresh (Nat.le_refl _))
theorem _root_.L2.PI.imp {tg iter : Expr} {t t' : TI} (h : PI X tg iter t) (i : ∀ σ H R, t' σ H R → t σ H R) : PI X tg iter t' := ⟨fun pins s σ H R I q => h.run pins s σ H R I (i σ H R q)⟩
def iVal (f : SEx) : SAr := fun s m => (f s m).bind fun d m => match valsOf d with
  | some ds => .ok ds m
  | none => .stuck
theorem ri_val {tg e : Expr} {f : SEx} (he : PE X e (rdE X.K X.mg T W f)) : PI X tg e (rdI X.K X.mg T W (iVal f)) := (pi_seq1 he).imp fun σ H Q ⟨w, s, m, R, S, t⟩ => by
  refine ⟨w, s, m, R, S, (Then.bind t).mono fun d m' w' H' t' R' q v hv => ?_⟩
  cases hv with
  | tup hq r => exact ⟨_, _, rfl, .inr ⟨.of (R'.sub _ _ hq), (Then.now q R') _ (itok_t1 (.of hq) r)⟩⟩
  | ktup hq r => exact ⟨_, _, rfl, .inr ⟨same_sqT R'.sub hq, (Then.now q R') _ (itok_t1 hq r)⟩⟩
  | lst hq r => exact ⟨_, _, rfl, .inl ⟨.of (R'.sub _ _ hq), (Then.now q R') _ (itok_l1 (.of hq) r)⟩⟩
  | scr hq r => exact ⟨_, _, rfl, .inl ⟨R'.sub.seq hq, (Then.now q R') _ (itok_l1 hq r)⟩⟩
  | _ => exact q.elim
/-! range -/
theorem itok_r {K : PySem.W.Frag} (lo : Int) (n : Nat) : ItOk K T (Itr lo n) w ((List.range n).map fun (i : Nat) => D.int (lo + i)) where
  go := fun w1 m1 H i d g R e => by
    obtain ⟨h1, h2⟩ := List.getElem?_eq_some_iff.mp e
    have hn : i < n := by simpa using h1
    simp at h2
    exact ⟨hn, fun x H' ⟨e1, e2⟩ => by subst e1 e2 h2; exact ⟨w1, R, Tr.refl _ _ _, .int _⟩⟩
  stop := fun w1 m1 H i g R l => by
    have : n ≤ i := by simpa using l
    exact this
def rangeD (lo : Int) (n : Nat) : List D := (List.range n).map fun (i : Nat) => D.int (lo + i)
def iR1 (f : SAr) : SAr := fun s m => (f s m).bind fun ds m => match ds with
  | [.int j] => if -(2 ^ 62) ≤ j ∧ j < 2 ^ 62 then .ok (rangeD 0 j.toNat) m else .stuck
  | _ => .stuck
def iR2 (f : SAr) : SAr := fun s m => (f s m).bind fun ds m => match ds with
  | [.int i, .int j] => if -(2 ^ 62) ≤ i ∧ i < 2 ^ 62 ∧ -(2 ^ 62) ≤ j ∧ j < 2 ^ 62 then .ok (rangeD i (j - i).toNat) m else .stuck
  | _ => .stuck
theorem ri_r1 {tg iter : Expr} {es : List Expr} {f : SAr} (h : PA X es (rdA X.K X.mg T W f) → PI X tg iter (iRng1 (rdA X.K X.mg T W f))) (ha : PA X es (rdA X.K X.mg T W f)) : PI X tg iter (rdI X.K X.mg T W (iR1 f)) := (h ha).imp fun σ H Q ⟨w, s, m, R, S, t⟩ => by
  refine ⟨w, s, m, R, S, (Then.bind t).mono fun d m' w' H' t' R' q v hv => ?_⟩
  split at q
  · rename_i j
    split at q
    · rename_i hj
      cases hv with
      | cons h1 hv => cases hv; cases h1; exact ⟨j, rfl, hj.1, hj.2, (Then.now q R') _ (itok_r 0 j.toNat)⟩
    · exact q.elim
  · exact q.elim
theorem ri_r2 {tg iter : Expr} {es : List Expr} {f : SAr} (h : PA X es (rdA X.K X.mg T W f) → PI X tg iter (iRng2 (rdA X.K X.mg T W f))) (ha : PA X es (rdA X.K X.mg T W f)) : PI X tg iter (rdI X.K X.mg T W (iR2 f)) := (h ha).imp fun σ H Q ⟨w, s, m, R, S, t⟩ => by
  refine ⟨w, s, m, R, S, (Then.bind t).mono fun d m' w' H' t' R' q v hv => ?_⟩
  split at q
  · rename_i i j
    split at q
    · rename_i hj
      cases hv with
      | cons h1 hv =>
        cases hv with
        | cons h2 hv => cases hv; cases h1; cases h2; exact ⟨i, j, rfl, hj, (Then.now q R') _ (itok_r i (j - i).toNat)⟩
    · exact q.elim
  · exact q.elim
/-! enumerate -/
def enumD (n : Nat) : List D → List D
  | [] => []
  | d :: ds => .tup [.int n, d] :: enumD (n + 1) ds
theorem enumD_get : ∀ (ds : List D) (n i : Nat) (d : D), (enumD n ds)[i]? = some d → ∃ e, ds[i]? = some e ∧ d = .tup [.int ((n + i : Nat) : Int), e]
  | [], n, i, d, h => by simp [enumD] at h
  | e :: ds, n, 0, d, h => by simp [enumD] at h; exact ⟨e, by simp, h.symm⟩
  | e :: ds, n, i + 1, d, h => by
    obtain ⟨e', h1, h2⟩ := enumD_get ds (n + 1) i d (by simpa [enumD] using h)
    exact ⟨e', by simpa using h1, by rw [h2]; congr 4; omega⟩
theorem enumD_len : ∀ (ds : List D) (n : Nat), (enumD n ds).length = ds.length
  | [], n => rfl
  | d :: ds, n => by unfold enumD; rw [List.length_cons, List.length_cons, enumD_len ds (n + 1)]
/-- the pairs of places and items, each a new tuple -/
def Ite1 (P : Hp → Prop) (vs : List V) : It := ⟨fun i H => P H ∧ i < vs.length, fun i H v H' => ∃ p x, v = .ref p ∧ H p = none ∧ H' = upd H p (.tup [.int (i : Nat), x]) ∧ vs[i]? = some x, fun i H => P H ∧ vs.length ≤ i⟩
theorem itok_e1 {K : PySem.W.Frag} {P : Hp → Prop} {vs : List V} {ds : List D} (hP : ∀ H, Same w.g H → P H) (r : DatL K w vs ds) : ItOk K T (Ite1 P vs) w (enumD 0 ds) where
  go := fun w1 m1 H i d g R e => by
    obtain ⟨e', h1, h2⟩ := enumD_get ds 0 i d e
    have hl := (List.getElem?_eq_some_iff.mp h1).1
    refine ⟨⟨hP H (g.g.trans R.sub), by rw [r.length]; exact hl⟩, fun x H' ⟨p, x', e1, e2, e3, e4⟩ => ?_⟩
    subst e1 e3 h2
    obtain ⟨R2, t2⟩ := R.frozen (o := .tup [.int (i : Nat), x']) e2
    obtain ⟨d', e5, hd⟩ := r.getv e4
    rw [h1] at e5
    cases e5
    refine ⟨_, R2, t2, .tup (show upd w1.g p _ p = some (.tup [.int (i : Nat), x']) from upd_same) (.cons ?_ (.cons ((hd.mono g).mono t2.gr) .nil))⟩
    rw [Nat.zero_add]
    exact .int _
  stop := fun w1 m1 H i g R l => ⟨hP H (g.g.trans R.sub), by rw [r.length, ← enumD_len ds 0]; exact l⟩
theorem turn_el {P : Program} {w : World} {K : PySem.W.Frag} {elts : List Expr} {kk : Nat} {tpos : Pos} (a e it : Addr) (vs : List V) :
    Turn P w K (.Tuple elts kk tpos) (Ite1 (fun H => SqL K H a vs) vs) [e, it] e (fun i h => (∃ old, IsEnum h e it ((i : Nat) : Int) old) ∧ h.IsListIter it a i ∧ e ≠ it) :=
  Turn.weak (turn_enum a e it) (fun i H ⟨h, l⟩ => ⟨vs, vs[i], h, List.getElem?_eq_getElem l⟩) (fun i H ⟨h, l⟩ => ⟨vs, h, l⟩) (fun i H x H' ⟨h, _⟩ ⟨p, y, e1, e2, e3, f⟩ => ⟨p, y, e1, e2, e3, f vs h⟩)
end
end Rx
set_option Elab.async false
set_option linter.all false
set_option maxRecDepth 100000
set_option maxHeartbeats 1000000
namespace PySem
theorem rx_meets_enum1 {v : Value} {o : Obj} {H : Heap → Prop} (B : Begins v o H) :
    Meets (Builtin.«enumerate.__new__» ⟨[.type "enumerate", v], []⟩) (fun _ R s => H s.heap ∧
      R (.ok (.ret (.ref (s.heap.push o).objs.size))) { s with heap := (s.heap.push o).push { cls := .type "enumerate", data := .fields #[.none, .bool false, .ref s.heap.objs.size, rawInt 0, .none, .none] } }) :=
  .of_wp fun prog w A R s h => by
    obtain ⟨hp, g, d, tk, os⟩ := s; obtain ⟨h1, h⟩ := h
    have hsub := sub_enumerate
    have q1 : ∀ {A' : Around} {E : Value → Shared → Prop} {Q : Value → Shared → Prop}, Q (.ref hp.objs.size) ⟨hp.push o, g, d, tk, os⟩ → wpAny (model prog w) A' (pyIter v) Q E ⟨hp, g, d, tk, os⟩ :=
      fun q => B.iter prog w _ _ ⟨hp, g, d, tk, os⟩ _ h1 q
    wp_walk using q1
    refine wpAny_stack_any fun st => wpAny_pure ?_
    split
    · rename_i c _ _ _ _ _
      cases (c == Value.type "enumerate")
      · wp_walk using q1
        exact ⟨_, rfl, h⟩
      · wp_walk using q1
        exact ⟨_, rfl, h⟩
    · wp_walk using q1
      exact ⟨_, rfl, h⟩
theorem rx_call_enum1 {prog : Program} {w : World} {A : Around} {E : Value → Shared → Prop} {s : Shared} {v : Value} {o : Obj} {H : Heap → Prop} {Q : Value → Shared → Prop} (B : Begins v o H) (h1 : H s.heap)
    (h : ∀ h', IsEnum h' (s.heap.objs.size + 1) s.heap.objs.size 0 .none → h'.get? s.heap.objs.size = some o → h'.objs.size = s.heap.objs.size + 2 →
      (∀ b o, s.heap.get? b = some o → h'.get? b = some o) → Q (.ref (s.heap.objs.size + 1)) { s with heap := h' }) :
    wpAny (model prog w) A (call (.type "enumerate") [v]) Q E s := by
  refine callType_new F.called_enumerate (by decide) (F.typeCall_enumerate_1 _) (F.newCall_enumerate_1 _) (fun obj => F.args_object_init_2 obj _) F.entry_enumerate_new
    (rx_meets_enum1 B) ⟨h1, ?_⟩
  have hz : (s.heap.push o).objs.size = s.heap.objs.size + 1 := Heap.size_push ..
  show _ ∧ _
  rw [hz]
  have he : IsEnum ((s.heap.push o).push { cls := .type "enumerate", data := .fields #[.none, .bool false, .ref s.heap.objs.size, rawInt 0, .none, .none] }) (s.heap.objs.size + 1) s.heap.objs.size 0 .none := by
    have := Heap.get?_push_size (s.heap.push o) (o := { cls := .type "enumerate", data := .fields #[.none, .bool false, .ref s.heap.objs.size, rawInt 0, .none, .none] }) rfl
    rw [hz] at this; exact this
  refine ⟨⟨_, he, rfl⟩, h _ he (Heap.get?_push_of_some _ (Heap.get?_push_size _ B.free)) (by rw [Heap.size_push, hz]) fun b o x => Heap.get?_push_of_some _ (Heap.get?_push_of_some _ x)⟩
end PySem
namespace Rx
open PySem PySem.Spec PyProof.Rows L2
/-! ### enumerate of a tuple -/
theorem turn_et {P : Program} {w : World} {K : PySem.W.Frag} {elts : List Expr} {kk : Nat} {tpos : Pos} (a e it : Addr) (vs : List V) :
    Turn P w K (.Tuple elts kk tpos) (Ite1 (fun H => SqT K H a vs) vs) [e, it] e (fun i h => (∃ old, IsEnum h e it ((i : Nat) : Int) old) ∧ h.IsTupleIter it a i ∧ e ≠ it) where
  mem := by simp
  obj := fun i h st b hb => by
    obtain ⟨⟨old, he⟩, ⟨o, ho, hc, hd⟩, _⟩ := st
    have e' : b = e ∨ b = it := by simpa using hb
    rcases e' with z | z
    · rw [z]; exact ⟨_, he, fun v q => nomatch q⟩
    · rw [z]; exact ⟨o, ho, fun v q => by rw [hd] at q; cases q⟩
  keep := fun i h h' st k => let ⟨⟨old, he⟩, hi, hne⟩ := st; ⟨⟨old, k e (by simp) _ he⟩, hi.at fun o q => k it (by simp) o q, hne⟩
  item := by
    intro X hP hw hK hc i pins s σ H E I hf st hg
    subst hP hw hK
    obtain ⟨⟨old, he⟩, hit, hne⟩ := st
    obtain ⟨hq, hl⟩ := hg
    have hx : vs[i]? = some vs[i] := List.getElem?_eq_getElem hl
    obtain ⟨its, rv, p, hz⟩ := I.tuple hq
    have pt : s.heap.IsTuple a its.toArray := p
    obtain ⟨u, hu, ru⟩ := rv.get hx
    have hel : e < s.heap.objs.size := Heap.lt_size he
    have hil : it < s.heap.objs.size := by obtain ⟨_, q, _⟩ := hit; exact Heap.lt_size q
    have hai : a ≠ it := fun z => by
      obtain ⟨o1, e1, c1, _⟩ := pt
      obtain ⟨o2, e2, c2, _⟩ := hit
      rw [z, e2] at e1
      cases e1
      rw [c2] at c1
      exact absurd c1 (by decide +kernel)
    have hae : e ≠ a := fun z => by
      obtain ⟨o1, e1, c1, _⟩ := pt
      have he' := he
      unfold IsEnum at he'
      rw [← z, he'] at e1
      cases e1
      exact absurd (show Value.type "enumerate" = Value.type "tuple" from c1) (by decide +kernel)
    have D := Draws.tuple (prog := X.prog) (w := X.w) (A := X.A.in1) (I.ok.hd hc) it a hai its.toArray
    have hlen : i < its.toArray.size := by have := rv.length; simp; omega
    refine wpAny_pyNext_enum_itemD D he ⟨hit, pt⟩ hlen hne (by simp [hne, hae]) fun x h' tk hP ho st' hT hsz hk => ?_
    have hxu : x = u := by
      have : its.toArray[i]? = some u := by simpa using hu
      rw [this] at hP
      exact (Option.some.inj hP).symm
    subst hxu
    refine ⟨_, rfl, wpAny_letOwnedTupleGo_enum (s := { s with heap := h', toks := tk + 1 }) ho fun h'' he' sb => ?_⟩
    have hT2 : h''.get? s.heap.objs.size = some { cls := .type "tuple", data := .seq #[.int i tk, x] } := (sb.2 _ (Nat.ne_of_gt hel)).trans hT
    have new : ObjOk X.prog X.w (upd H s.heap.objs.size (.tup [.int (i : Nat), vs[i]])) h'' s.heap.objs.size (.tup [.int (i : Nat), vs[i]]) :=
      ⟨by show 2 ≤ sizeLine; decide, [.int i tk, x], .cons ⟨_, rfl⟩ (.cons ru .nil), ⟨_, hT2, rfl, _, rfl⟩⟩
    have I1 : Inv X pins σ (upd H s.heap.objs.size (.tup [.int (i : Nat), vs[i]])) { s with heap := h'', toks := tk + 1 } :=
      I.turnedNew (ch := [e, it]) (fun b ob hb q => (sb.2 b (fun z => hb (by simp [z]))).trans (hk b ob (fun z => hb (by simp [z])) (fun z => hb (by simp [z])) q)) hf (Nat.le_refl _) new
    refine ⟨.ref s.heap.objs.size, _, I1, rfl, ⟨_, _, rfl, I.hok.fresh (Nat.le_refl _), rfl, hx⟩, ⟨⟨x, ?_⟩, st'.1.at fun o q => (sb.2 it (Ne.symm hne)).trans q, hne⟩, fun b hb => ?_⟩
    · have e1 : ((i + 1 : Nat) : Int) = (i : Int) + 1 := by omega
      rw [e1]; exact he'
    · have hb' : b < s.heap.objs.size := by
        have e' : b = e ∨ b = it := by simpa using hb
        rcases e' with z | z
        · rw [z]; exact hel
        · rw [z]; exact hil
      rw [upd_ne (Nat.ne_of_lt hb')]
      exact (hf b hb).1
  done := by
    intro X hP hw hK hc i pins s σ H E I hf st hg
    subst hP hw hK
    obtain ⟨⟨old, he⟩, hit, hne⟩ := st
    obtain ⟨hq, hl⟩ := hg
    obtain ⟨its, rv, p, hz⟩ := I.tuple hq
    have pt : s.heap.IsTuple a its.toArray := p
    obtain ⟨f0, f1, f2, f3, f4, f5⟩ := hf it (by simp)
    have hai : a ≠ it := fun z => by
      obtain ⟨o1, e1, c1, _⟩ := pt
      obtain ⟨o2, e2, c2, _⟩ := hit
      rw [z, e2] at e1
      cases e1
      rw [c2] at c1
      exact absurd c1 (by decide +kernel)
    have hT : s.TypeIs (.ref e) "enumerate" := ⟨_, he, rfl⟩
    have hnone : its.toArray[i]? = none := by have := rv.length; simp; omega
    unfold pyNext
    refine wpAny_bind (wpAny_attempt (wpAny_callSpecial?_slot (name := Str.ofString "__next__") hT F.slot_enumerate_next
      (wpAny_call_entry F.slot_enumerate_next hT F.entry_enumerate_next ?_ (F.args_enumerate_next_1 _))))
    show wpAny _ _ (field (.ref e) 2 >>= _) _ _ _
    refine wpAny_bind (wpAny_field he rfl (x := .ref it) rfl ?_)
    refine wpAny_bind (wpAny_nextOf_tuple_end (I.ok.hd hc) hit pt hnone fun h' x he' hx' => ?_)
    obtain ⟨o, ho, hcx⟩ := hx'
    refine wpAny_bind (wpAny_isInstance (T := "StopIteration") (b := true) ⟨o, ho, hcx⟩ isSubtype_stop ?_)
    exact wpAny_pure ⟨rfl, I.turned (t' := s.toks) (fun b o hb q => he' b o hb q) f0 f1 f3 f4 f5⟩
  self := fun A i s Q E st h => let ⟨⟨_, he⟩, _⟩ := st; wpAny_pyIter_enum he h
def iEnum1 (X : Cx) (ta : TA) : TI := fun σ H R => ta σ H fun us H1 => ∃ a vs, us = [.ref a] ∧ ((SqL X.K H1 a vs ∧ R (Ite1 (fun H => SqL X.K H a vs) vs) H1) ∨ (SqT X.K H1 a vs ∧ R (Ite1 (fun H => SqT X.K H a vs) vs) H1))
theorem pi_enum1 {X : Cx} {e : Expr} {ta : TA} {p pos tpos : Pos} {elts : List Expr} {kk : Nat} (hg : Gl X "enumerate") (hm : X.mg "enumerate" = none) (ha : PA X [e] ta) (hs : starEach [e] X.env = [(false, eval e X.env)] := by rfl) :
    PI X (.Tuple elts kk tpos) (.Call (.Name "enumerate" p) [e] [] pos) (iEnum1 X ta) := by
  refine ⟨fun pins s σ H R I h => ?_⟩
  refine Call_ (ld_blt I hg hm boot_enumerate (PyProof.Rows.callWith_type1 (thn (ha.run pos pins s σ H _ I h) fun us s1 ⟨vs, H1, I1, r1, q1⟩ => ?_) hs rfl))
  obtain ⟨a, xs, ex, q⟩ := q1
  subst ex
  have fresh : ∀ b, b ∈ [s1.heap.objs.size + 1, s1.heap.objs.size] → FpOk X pins H1 b := fun b hb => by
    have e' : b = s1.heap.objs.size + 1 ∨ b = s1.heap.objs.size := by simpa using hb
    have hle : s1.heap.objs.size ≤ b := by
      rcases e' with z | z
      · rw [z]; exact Nat.le_add_right _ _
      · rw [z]; exact Nat.le_refl _
    exact I1.fpOk hle (I1.hok.fresh hle)
  cases r1 with
  | cons r rr =>
    cases rr
    cases r
    rcases q with ⟨hq, q⟩ | ⟨hq, q⟩
    · obtain ⟨its, rv, p', hz⟩ := I1.list hq
      refine call_enumerate_list p'.isList fun h' he hit hsz hk => wpAny_pyIter_enum he ?_
      have I2 : Inv X pins σ H1 { s1 with heap := h' } := I1.kept (t' := s1.toks) hk
      exact ⟨s1.heap.objs.size + 1, [s1.heap.objs.size + 1, s1.heap.objs.size], _, _, H1, rfl, I2, turn_el a (s1.heap.objs.size + 1) s1.heap.objs.size xs, ⟨⟨.none, he⟩, hit, Nat.succ_ne_self _⟩, fresh, q⟩
    · obtain ⟨its, rv, p', hz⟩ := I1.tuple hq
      have pt : s1.heap.IsTuple a its.toArray := p'
      refine rx_call_enum1 (begins_tuple a its.toArray) pt fun h' he hit hsz hk => wpAny_pyIter_enum he ?_
      have I2 : Inv X pins σ H1 { s1 with heap := h' } := I1.kept (t' := s1.toks) hk
      exact ⟨s1.heap.objs.size + 1, [s1.heap.objs.size + 1, s1.heap.objs.size], _, _, H1, rfl, I2, turn_et a (s1.heap.objs.size + 1) s1.heap.objs.size xs, ⟨⟨.none, he⟩, ⟨_, hit, rfl, rfl⟩, Nat.succ_ne_self _⟩, fresh, q⟩
section
variable {X : Cx} {T : Tb} {W : WX} {w : Wd}
def iEn (f : SAr) : SAr := fun s m => (f s m).bind fun ds m => match ds with
  | [d] => (match valsOf d with
    | some ds => .ok (enumD 0 ds) m
    | none => .stuck)
  | _ => .stuck
theorem ri_en {tg iter : Expr} {es : List Expr} {f : SAr} (h : PA X es (rdA X.K X.mg T W f) → PI X tg iter (iEnum1 X (rdA X.K X.mg T W f))) (ha : PA X es (rdA X.K X.mg T W f)) : PI X tg iter (rdI X.K X.mg T W (iEn f)) := (h ha).imp fun σ H Q ⟨w, s, m, R, S, t⟩ => by
  refine ⟨w, s, m, R, S, (Then.bind t).mono fun d m' w' H' t' R' q v hv => ?_⟩
  split at q
  · rename_i d
    cases hv with
    | cons h1 hv =>
      cases hv
      cases h1 with
      | tup hq r => exact ⟨_, _, rfl, .inr ⟨.of (R'.sub _ _ hq), (Then.now q R') _ (itok_e1 (fun H s => .of (s _ _ hq)) r)⟩⟩
      | ktup hq r => exact ⟨_, _, rfl, .inr ⟨same_sqT R'.sub hq, (Then.now q R') _ (itok_e1 (fun H s => same_sqT s hq) r)⟩⟩
      | lst hq r => exact ⟨_, _, rfl, .inl ⟨.of (R'.sub _ _ hq), (Then.now q R') _ (itok_e1 (fun H s => .of (s _ _ hq)) r)⟩⟩
      | scr hq r => exact ⟨_, _, rfl, .inl ⟨R'.sub.seq hq, (Then.now q R') _ (itok_e1 (fun H s => s.seq hq) r)⟩⟩
      | _ => exact q.elim
  · exact q.elim
/-! ### zip of two lists or of two tuples -/
def zipD : List D → List D → List D
  | d :: ds, e :: es => .tup [d, e] :: zipD ds es
  | _, _ => []
theorem zipD_get : ∀ (ds es : List D) (i : Nat) (d : D), (zipD ds es)[i]? = some d → ∃ a b, ds[i]? = some a ∧ es[i]? = some b ∧ d = .tup [a, b]
  | [], es, i, d, h => by simp [zipD] at h
  | a :: ds, [], i, d, h => by simp [zipD] at h
  | a :: ds, b :: es, 0, d, h => by simp [zipD] at h; exact ⟨a, b, by simp, by simp, h.symm⟩
  | a :: ds, b :: es, i + 1, d, h => by
    obtain ⟨a', b', h1, h2, h3⟩ := zipD_get ds es i d (by simpa [zipD] using h)
    exact ⟨a', b', by simpa using h1, by simpa using h2, h3⟩
theorem zipD_len : ∀ (ds es : List D) (i : Nat), (zipD ds es).length ≤ i → ds.length ≤ i ∨ es.length ≤ i
  | [], es, i, h => .inl (Nat.zero_le _)
  | a :: ds, [], i, h => .inr (Nat.zero_le _)
  | a :: ds, b :: es, 0, h => by simp [zipD] at h
  | a :: ds, b :: es, i + 1, h => by
    rcases zipD_len ds es i (by simpa [zipD] using h) with h | h
    · exact .inl (by simpa using h)
    · exact .inr (by simpa using h)
/-- the pairs of two sequences -/
def Itz1 (P : Hp → Prop) (xs ys : List V) : It := ⟨fun i H => P H ∧ i < xs.length ∧ i < ys.length, fun i H v H' => ∃ p x y, v = .ref p ∧ H p = none ∧ H' = upd H p (.tup [x, y]) ∧ xs[i]? = some x ∧ ys[i]? = some y, fun i H => P H ∧ (xs.length ≤ i ∨ ys.length ≤ i)⟩
theorem itok_z1 {K : PySem.W.Frag} {P : Hp → Prop} {xs ys : List V} {ds es : List D} (hP : ∀ H, Same w.g H → P H) (r : DatL K w xs ds) (r' : DatL K w ys es) : ItOk K T (Itz1 P xs ys) w (zipD ds es) where
  go := fun w1 m1 H i d g R e => by
    obtain ⟨a, b, h1, h2, h3⟩ := zipD_get ds es i d e
    have hl := (List.getElem?_eq_some_iff.mp h1).1
    have hl' := (List.getElem?_eq_some_iff.mp h2).1
    refine ⟨⟨hP H (g.g.trans R.sub), by rw [r.length]; exact hl, by rw [r'.length]; exact hl'⟩, fun v H' ⟨p, x, y, e1, e2, e3, e4, e5⟩ => ?_⟩
    subst e1 e3 h3
    obtain ⟨R2, t2⟩ := R.frozen (o := .tup [x, y]) e2
    obtain ⟨d', e6, hd⟩ := r.getv e4
    rw [h1] at e6
    cases e6
    obtain ⟨d', e7, hd'⟩ := r'.getv e5
    rw [h2] at e7
    cases e7
    exact ⟨_, R2, t2, .tup (show upd w1.g p _ p = some (.tup [x, y]) from upd_same) (.cons ((hd.mono g).mono t2.gr) (.cons ((hd'.mono g).mono t2.gr) .nil))⟩
  stop := fun w1 m1 H i g R l => ⟨hP H (g.g.trans R.sub), by rw [r.length, r'.length]; exact zipD_len ds es i l⟩
def iZip1 (X : Cx) (ta : TA) : TI := fun σ H R => ta σ H fun us H1 => ∃ a b xs ys, us = [.ref a, .ref b] ∧ ((SqL X.K H1 a xs ∧ SqL X.K H1 b ys ∧ R (Itz1 (fun H => SqL X.K H a xs ∧ SqL X.K H b ys) xs ys) H1) ∨ (SqT X.K H1 a xs ∧ SqT X.K H1 b ys ∧ R (Itz1 (fun H => SqT X.K H a xs ∧ SqT X.K H b ys) xs ys) H1))
theorem pi_weak {X : Cx} {tg iter : Expr} {t t' : TI} (h : PI X tg iter t) (i : ∀ σ H R, t' σ H R → t σ H fun J H' => ∃ J', (∀ i H, J'.go i H → J.go i H) ∧ (∀ i H, J'.stop i H → J.stop i H) ∧ (∀ i H x H', J'.go i H → J.yld i H x H' → J'.yld i H x H') ∧ R J' H') : PI X tg iter t' := by
  refine ⟨fun pins s σ H R I q => thn (h.run pins s σ H _ I (i σ H R q)) fun v s1 q1 => thn q1 fun itv s2 q2 => ?_⟩
  obtain ⟨it, fp, tn, J, H', e, I2, T, st, f, J', g1, g2, g3, q3⟩ := q2
  exact ⟨it, fp, tn, J', H', e, I2, Turn.weak T g1 g2 g3, st, f, q3⟩
theorem pi_zip1 {X : Cx} {tg iter : Expr} {ta : TA} (h : PI X tg iter (RZ.iZipA X.K ta)) (hm : ∀ (σ : L2.St) (H : Hp) (Q Q' : List V → Hp → Prop), (∀ v H, Q v H → Q' v H) → ta σ H Q → ta σ H Q') : PI X tg iter (iZip1 X ta) := by
  refine pi_weak h fun σ H R q => hm σ H _ _ (fun us H1 q => ?_) q
  obtain ⟨a, b, xs, ys, e, q⟩ := q
  refine ⟨a, b, xs, ys, e, ?_⟩
  rcases q with ⟨h1, h2, q⟩ | ⟨h1, h2, q⟩
  · exact .inl ⟨h1, h2, Itz1 (fun H => SqL X.K H a xs ∧ SqL X.K H b ys) xs ys, fun i H ⟨⟨g1, g2⟩, l1, l2⟩ => ⟨xs, ys, xs[i], ys[i], g1, g2, List.getElem?_eq_getElem l1, List.getElem?_eq_getElem l2⟩, fun i H ⟨⟨g1, g2⟩, l⟩ => ⟨xs, ys, g1, g2, l⟩,
      fun i H x H' ⟨⟨g1, g2⟩, _⟩ ⟨p, x', y', e1, e2, e3, f1, f2⟩ => ⟨p, x', y', e1, e2, e3, f1 xs g1, f2 ys g2⟩, q⟩
  · exact .inr ⟨h1, h2, Itz1 (fun H => SqT X.K H a xs ∧ SqT X.K H b ys) xs ys, fun i H ⟨⟨g1, g2⟩, l1, l2⟩ => ⟨xs, ys, xs[i], ys[i], g1, g2, List.getElem?_eq_getElem l1, List.getElem?_eq_getElem l2⟩, fun i H ⟨⟨g1, g2⟩, l⟩ => ⟨xs, ys, g1, g2, l⟩,
      fun i H x H' ⟨⟨g1, g2⟩, _⟩ ⟨p, x', y', e1, e2, e3, f1, f2⟩ => ⟨p, x', y', e1, e2, e3, f1 xs g1, f2 ys g2⟩, q⟩
theorem rdA_mono {f : SAr} (σ : L2.St) (H : Hp) (Q Q' : List V → Hp → Prop) (i : ∀ v H, Q v H → Q' v H) (h : rdA X.K X.mg T W f σ H Q) : rdA X.K X.mg T W f σ H Q' := by
  obtain ⟨w, s, m, R, S, t⟩ := h
  exact ⟨w, s, m, R, S, t.mono fun a m' w' H' _ _ q v hv => i _ _ (q v hv)⟩
def iZp (f : SAr) : SAr := fun s m => (f s m).bind fun ds m => match ds with
  | [x, y] => (match tupOf x, tupOf y with
    | some xs, some ys => .ok (zipD xs ys) m
    | _, _ => (match x, y with
      | .lst xs, .lst ys => .ok (zipD xs ys) m
      | _, _ => .stuck))
  | _ => .stuck
theorem ri_zp {tg iter : Expr} {es : List Expr} {f : SAr} (h : PA X es (rdA X.K X.mg T W f) → PI X tg iter (RZ.iZipA X.K (rdA X.K X.mg T W f))) (ha : PA X es (rdA X.K X.mg T W f)) : PI X tg iter (rdI X.K X.mg T W (iZp f)) := (pi_zip1 (h ha) rdA_mono).imp fun σ H Q ⟨w, s, m, R, S, t⟩ => by
  refine ⟨w, s, m, R, S, (Then.bind t).mono fun d m' w' H' t' R' q v hv => ?_⟩
  split at q
  · rename_i x y
    cases hv with
    | cons h1 hv =>
      cases hv with
      | cons h2 hv =>
        cases hv
        split at q
        · rename_i xs ys e1 e2
          obtain ⟨a, vs, rfl, hq, r⟩ := tup_at h1 e1
          obtain ⟨b, us, rfl, hq2, r2⟩ := tup_at h2 e2
          exact ⟨_, _, _, _, rfl, .inr ⟨same_sqT R'.sub hq, same_sqT R'.sub hq2, (Then.now q R') _ (itok_z1 (fun H s => ⟨same_sqT s hq, same_sqT s hq2⟩) r r2)⟩⟩
        · split at q
          · cases h1 with
            | lst hq r => cases h2 with
              | lst hq2 r2 => exact ⟨_, _, _, _, rfl, .inl ⟨.of (R'.sub _ _ hq), .of (R'.sub _ _ hq2), (Then.now q R') _ (itok_z1 (fun H s => ⟨.of (s _ _ hq), .of (s _ _ hq2)⟩) r r2)⟩⟩
          · exact q.elim
  · exact q.elim
end
end Rx
set_option Elab.async false
set_option linter.all false
set_option maxRecDepth 100000
set_option maxHeartbeats 1000000
namespace Rx
open PySem PySem.Spec PyProof.Rows L2

/-! ### comprehensions -/
def wipeD (s : Sd) : List Nat → Sd
  | [] => s
  | v :: vs => (wipeD s vs).set v none
theorem Slots.wipe {K : PySem.W.Frag} {w : Wd} {σ : L2.St} {s : Sd} (h : Slots K w σ s) : ∀ vs : List Nat, Slots K w (L2.wipe σ vs) (wipeD s vs)
  | [] => h
  | v :: vs => by
    have ih := Slots.wipe h vs
    refine ⟨by show ((L2.wipe σ vs).set v none).length = ((wipeD s vs).set v none).length; rw [List.length_set, List.length_set]; exact ih.1, fun i d e => ?_⟩
    have e' : ((wipeD s vs).set v none)[i]? = some (some d) := e
    show ∃ u, ((L2.wipe σ vs).set v none)[i]? = some (some u) ∧ _
    by_cases hi : v = i
    · subst hi
      rw [List.getElem?_set] at e'
      simp at e'
    · rw [List.getElem?_set_ne hi] at e' ⊢
      exact ih.2 i d e'
theorem wipe_set : ∀ (vs : List Nat) (σ : L2.St) (i : Nat) (x : Option V), i ∈ vs → L2.wipe (σ.set i x) vs = L2.wipe σ vs
  | [], σ, i, x, h => by simp at h
  | v :: vs, σ, i, x, h => by
    show (L2.wipe (σ.set i x) vs).set v none = (L2.wipe σ vs).set v none
    by_cases hv : i ∈ vs
    · rw [wipe_set vs σ i x hv]
    · have e : i = v := by simpa [hv] using h
      subst e
      have key : ∀ (us : List Nat), i ∉ us → L2.wipe (σ.set i x) us = (L2.wipe σ us).set i x := by
        intro us
        induction us with
        | nil => intro _; rfl
        | cons u us ih =>
          intro hn
          simp only [List.mem_cons, not_or] at hn
          show (L2.wipe (σ.set i x) us).set u none = ((L2.wipe σ us).set u none).set i x
          rw [ih hn.2, List.set_comm _ _ hn.1]
      rw [key vs hv, List.set_set]
theorem wipe_wipe (vs : List Nat) (σ : L2.St) : L2.wipe (L2.wipe σ vs) vs = L2.wipe σ vs := by
  have key : ∀ (us : List Nat), (∀ u ∈ us, u ∈ vs) → ∀ σ, L2.wipe (L2.wipe σ us) vs = L2.wipe σ vs := by
    intro us
    induction us with
    | nil => intro _ _; rfl
    | cons u us ih =>
      intro h σ
      show L2.wipe ((L2.wipe σ us).set u none) vs = _
      rw [wipe_set vs _ u none (h u (List.mem_cons_self ..)), ih (fun v hv => h v (List.mem_cons_of_mem _ hv))]
  exact key vs (fun _ h => h) σ
abbrev gOwn (vs : List Nat) : L2.St → L2.St → Prop := fun σ σ' => L2.wipe σ' vs = L2.wipe σ vs
theorem gOwn_ok (vs : List Nat) : GRel (gOwn vs) := ⟨fun _ => rfl, fun _ _ _ h1 h2 => h2.trans h1⟩
def W0 : WX := fun _ _ _ _ => False
def lcL (g : STg) (tt : SBl) (el : SEx) (s : Sd) : List D → Mu → Res (List D)
  | [], m => .ok [] m
  | d :: ds, m => match g d s with
    | none => .stuck
    | some s1 => match tt s1 m with
      | .ok true m1 => (match el s1 m1 with
        | .ok y m2 => (match lcL g tt el s ds m2 with
          | .ok ys m3 => .ok (y :: ys) m3
          | _ => .stuck)
        | _ => .stuck)
      | .ok false m1 => lcL g tt el s ds m1
      | _ => .stuck
def sLc (src : SAr) (g : STg) (tt : SBl) (el : SEx) (own : List Nat) : SEx := fun s m => (src s m).bind fun ds m1 => if ds.length ≤ 1000000 then (match lcL g tt el (wipeD s own) ds m1 with
  | .ok ys m2 => .ok (.lst ys) m2
  | _ => .stuck) else .stuck
def sLcN (src : SAr) (g : STg) (tt : SBl) (el : SEx) (own : List Nat) : SEx := fun s m => (src s m).bind fun ds m1 => if ds.length ≤ 1000000 then (match lcL g tt el (wipeD s own) ds m1 with
  | .ok ys m2 => .ok (.ref m2.length) (m2 ++ [.lst ys])
  | _ => .stuck) else .stuck
def bYes : SBl := fun _ m => .ok true m
section
variable {K : PySem.W.Frag} {T : Tb} {w w0 : Wd} {m m0 : Mu} {H H0 : Hp}
/-- a thing of ours that is not told is written -/
theorem Rel.poke (R : Rel K T w m H) {p : Addr} {o : HO} (hg : w.g p = none) (hl : ¬ Live w m p) (ht : ∀ ps, H p ≠ some (.tbl ps)) (hc : ∀ q, H p ≠ some (LamX.CodeO p q)) : Rel K T w m (upd H p o) where
  sub := fun b v e => by
    have ne : b ≠ p := fun z => by subst z; rw [hg] at e; cases e
    rw [upd_ne ne]; exact R.sub b v e
  len := R.len
  obj := fun k u a e1 e2 e3 => by
    obtain ⟨q1, q2⟩ := R.obj k u a e1 e2 e3
    have ne : a ≠ p := fun z => by subst z; exact hl ⟨k, u, e2, e1, e3⟩
    exact ⟨q1, q2.same (Gr.refl w) fun z hz _ => by rw [upd_ne ne]; exact hz⟩
  inj := R.inj
  tab := fun q hq => by
    obtain ⟨ps, a1, a2, a3⟩ := R.tab q hq
    refine ⟨ps, by rw [upd_ne (fun z => by rw [z] at a1; exact ht ps a1)]; exact a1, a2, fun pos cv hcv => ?_⟩
    obtain ⟨c0, b1, b2⟩ := a3 pos cv hcv
    exact ⟨c0, b1, by rw [upd_ne (fun z => by rw [← z] at hc; exact hc _ b2)]; exact b2⟩
  nt := R.nt
  tk := R.tk
theorem Tr.poke (t : Tr w0 m0 H0 w m H) {p : Addr} {o : HO} (h0 : H0 p = none) : Tr w0 m0 H0 w m (upd H p o) where
  gr := t.gr
  fr := fun b v e n q => by
    have ne : b ≠ p := fun z => by subst z; rw [h0] at e; cases e
    rw [upd_ne ne]; exact t.fr b v e n q
  li := t.li
  gn := t.gn
/-- a list of ours that stands in the heap is told from now on: it never changes -/
theorem Rel.adopt (R : Rel K T w m H) {p : Addr} {o : HO} (h : H p = some o) (hg : w.g p = none) (hl : ¬ Live w m p) (no : ∀ ps, o ≠ .tbl ps := by intro ps z; cases z) : Rel K T ⟨upd w.g p o, w.r⟩ m H ∧ Gr w ⟨upd w.g p o, w.r⟩ := by
  have G : Gr w ⟨upd w.g p o, w.r⟩ := ⟨same_upd hg, [], by simp⟩
  refine ⟨⟨fun b u e => ?_, R.len, fun k u a e1 e2 e3 => ?_, R.inj, R.tab, fun b ps e => ?_, R.tk.mono G⟩, G⟩
  · have e' : upd w.g p o b = some u := e
    by_cases hb : b = p
    · subst hb; rw [upd_same] at e'; rw [h]; exact e'
    · rw [upd_ne hb] at e'; exact R.sub b u e'
  · obtain ⟨q1, q2⟩ := R.obj k u a e1 e2 e3
    have ne : a ≠ p := fun z => by subst z; exact hl ⟨k, u, e2, e1, e3⟩
    exact ⟨by show upd w.g p o a = none; rw [upd_ne ne]; exact q1, q2.same G fun z hz _ => hz⟩
  · have e' : upd w.g p o b = some (.tbl ps) := e
    by_cases hb : b = p
    · subst hb
      rw [upd_same] at e'
      exact no ps (Option.some.inj e')
    · rw [upd_ne hb] at e'
      exact R.nt b ps e'
theorem Tr.adopt (t : Tr w0 m0 H0 w m H) {p : Addr} {o : HO} (g : Gr w ⟨upd w.g p o, w.r⟩) (h0 : H0 p = none) : Tr w0 m0 H0 ⟨upd w.g p o, w.r⟩ m H := ⟨t.gr.trans g, t.fr, fun a l => t.li a l, fun b u e => by
    have e' : upd w.g p o b = some u := e
    by_cases hb : b = p
    · exact .inr (.inl (by rw [hb]; exact .no h0))
    · rw [upd_ne hb] at e'
      exact t.gn b u e'⟩
/-- .. it may change -/
theorem Rel.adoptN (R : Rel K T w m H) {p : Addr} {vs : List V} {ds : List D} (h : H p = some (.lst vs)) (hd : DatL K w vs ds) (hg : w.g p = none) (hl : ¬ Live w m p) : Rel K T ⟨w.g, w.r ++ [p]⟩ (m ++ [.lst ds]) H := by
  have G : Gr w ⟨w.g, w.r ++ [p]⟩ := ⟨Same.refl _, [p], rfl⟩
  have len := R.len
  have cs : ∀ (k : Nat) (o : MO) (a : Addr), (m ++ [MO.lst ds])[k]? = some o → (w.r ++ [p])[k]? = some a → (m[k]? = some o ∧ w.r[k]? = some a) ∨ (k = m.length ∧ o = .lst ds ∧ a = p) := fun k o a e f => by
    by_cases hk : k < m.length
    · rw [List.getElem?_append_left hk] at e
      rw [List.getElem?_append_left (by omega)] at f
      exact .inl ⟨e, f⟩
    · rw [List.getElem?_append_right (by omega)] at e
      have hk' := (List.getElem?_eq_some_iff.mp e).1
      have e0 : k = m.length := by simp at hk'; omega
      subst e0
      simp at e
      rw [← len] at f
      simp at f
      exact .inr ⟨rfl, e.symm, f.symm⟩
  refine ⟨R.sub, by simp [len], fun k o a e1 e2 e3 => ?_, fun j k o u a e1 e2 e3 e4 e5 e6 => ?_, R.tab, R.nt, R.tk.mono G⟩
  · rcases cs k o a e1 e2 with ⟨f1, f2⟩ | ⟨rfl, rfl, rfl⟩
    · obtain ⟨q1, q2⟩ := R.obj k o a f1 f2 e3
      exact ⟨q1, q2.same G fun z hz _ => hz⟩
    · exact ⟨hg, vs, h, hd.mono G⟩
  · rcases cs j o a e1 e5 with ⟨f1, f2⟩ | ⟨rfl, rfl, rfl⟩
    · rcases cs k u a e2 e6 with ⟨f3, f4⟩ | ⟨rfl, rfl, rfl⟩
      · exact R.inj j k o u a f1 f3 e3 e4 f2 f4
      · exact absurd ⟨j, o, f2, f1, e3⟩ hl
    · rcases cs k u a e2 e6 with ⟨f3, f4⟩ | ⟨rfl, _, _⟩
      · exact absurd ⟨k, u, f4, f3, e4⟩ hl
      · rfl
theorem Tr.adoptN (t : Tr w0 m0 H0 w m H) (len : w.r.length = m.length) {p : Addr} {ds : List D} (h0 : H0 p = none) : Tr w0 m0 H0 ⟨w.g, w.r ++ [p]⟩ (m ++ [.lst ds]) H := ⟨t.gr.trans ⟨Same.refl _, [p], rfl⟩, t.fr, fun a l => by
    obtain ⟨k, o, e1, e2, e3⟩ := l
    have e1 : (w.r ++ [p])[k]? = some a := e1
    by_cases hk : k < m.length
    · rw [List.getElem?_append_left hk] at e2
      rw [List.getElem?_append_left (by omega)] at e1
      exact t.li a ⟨k, o, e1, e2, e3⟩
    · rw [List.getElem?_append_right (by omega)] at e1
      have hk' := (List.getElem?_eq_some_iff.mp e1).1
      have e0 : k = w.r.length := by simp at hk'; omega
      subst e0
      simp at e1
      subst e1
      exact .inr (.no h0), t.gn⟩
end
theorem Then_ok {α : Type} {K mg T W w m H σ} {a : α} {m' : Mu} {k : α → Mu → Wd → Hp → Prop} {r : Res α} (e : r = .ok a m') (h : ∀ w' H', Tr w m H w' m' H' → Rel K T w' m' H' → k a m' w' H') : Then K mg T W w m H σ r k := by subst e; exact h
section
variable {X : Cx} {T : Tb} {W : WX}
/-- the walk of a comprehension: what stands at the end -/
theorem lc_walk {g : STg} {tt : SBl} {el : SEx} {vs : List Nat} {σ : L2.St} {Q : VK} {ds ys : List D} {s : Sd} {m0 mE : Mu} {w0 : Wd} {H0 : Hp} (R0 : Rel X.K T w0 m0 H0) (S0 : Slots X.K w0 σ s) (hl : ds.length ≤ 1000000)
    (e0 : lcL g tt el (wipeD s vs) ds m0 = .ok ys mE) {J : It} (hJ : ItOk X.K T J w0 ds)
    (q : ∀ w H (p : Addr) us, Tr w0 m0 H0 w mE H → Rel X.K T w mE H → H0 p = none → H p = some (.lst us) → DatL X.K w us ys → w.g p = none → ¬ Live w mE p → Q (.ref p) H) :
    ∀ D, H0 D = none → ∃ W' : Nat → Nat → Hp → Prop, (∃ m, W' 0 m (upd H0 D (.lst []))) ∧ ∀ i m H, W' i m H →
      (J.stop i H ∧ Q (.ref D) H) ∨ (J.go i H ∧ ∃ Nx : Hp → Prop, (∀ H', Nx H' → ∃ m', m' < m ∧ W' (i + 1) m' H') ∧ ∀ x H', J.yld i H x H' → rdG X.K T (gOwn vs) g x (L2.wipe σ vs) H' fun σ2 H2 => L2.wipe σ2 vs = L2.wipe σ vs ∧ rdB X.K X.mg T W0 tt σ2 H2 fun b H3 =>
        if b = true then rdE X.K X.mg T W0 el σ2 H3 fun y H4 => ∃ acc, H4 D = some (.lst acc) ∧ acc.length < sizeLine ∧ Nx (upd H4 D (.lst (acc ++ [y]))) else Nx H3) := by
  intro D hD
  have gD : w0.g D = none := by
    cases e : w0.g D with
    | none => rfl
    | some u => rw [R0.sub D u e] at hD; cases hD
  have lD : ¬ Live w0 m0 D := fun l => by
    obtain ⟨o, ho, _⟩ := R0.live_ne l
    rw [hD] at ho; cases ho
  -- the state of a turn
  let B : Nat → Hp → Prop := fun i H => ∃ w m acc us rest, Tr w0 m0 H0 w m H ∧ Rel X.K T w m H ∧ H D = some (.lst us) ∧ DatL X.K w us acc ∧ acc.length ≤ i ∧ w.g D = none ∧ ¬ Live w m D ∧ lcL g tt el (wipeD s vs) (ds.drop i) m = .ok rest mE ∧ acc ++ rest = ys
  refine ⟨fun i n H => i + n = ds.length ∧ B i H, ⟨ds.length, by omega, w0, m0, [], [], ys, (Tr.refl _ _ _).poke hD, R0.poke gD lD (fun ps z => by rw [hD] at z; cases z) (fun q z => by rw [hD] at z; cases z), upd_same, .nil, by simp, gD, lD, by simpa using e0, rfl⟩, ?_⟩
  rintro i n H ⟨hn, w, m, acc, us, rest, t, R, hH, dl, al, hg, hl', e, ey⟩
  by_cases hi : i < ds.length
  · right
    have ei : ds[i]? = some ds[i] := List.getElem?_eq_getElem hi
    have ed : ds.drop i = ds[i] :: ds.drop (i + 1) := List.drop_eq_getElem_cons hi
    obtain ⟨go, yl⟩ := hJ.go w m H i ds[i] t.gr R ei
    refine ⟨go, fun H' => i + 1 + (n - 1) = ds.length ∧ B (i + 1) H', fun H' h => ⟨n - 1, by omega, h⟩, fun x H' hy => ?_⟩
    obtain ⟨w2, R2, t2, hx⟩ := yl x H' hy
    -- D stands through a step
    have keepD : ∀ {w w' : Wd} {m m' : Mu} {H H' : Hp} {us : List V}, Tr w m H w' m' H' → H D = some (.lst us) → w.g D = none → ¬ Live w m D → H' D = some (.lst us) ∧ w'.g D = none ∧ ¬ Live w' m' D := fun {w w' m m' H H' us} t h1 h2 h3 => by
      refine ⟨t.fr D _ h1 h3 (fun ps z => by cases z), ?_, fun l => ?_⟩
      · cases e : w'.g D with
        | none => rfl
        | some o =>
          rcases t.gn D o e with e | e | e
          · rw [h2] at e; cases e
          · exact absurd rfl (e _ h1 _)
          · exact absurd e h3
      · rcases t.li D l with l | l
        · exact h3 l
        · obtain ⟨ps, z⟩ := l _ h1; cases z
    obtain ⟨d1, d2, d3⟩ := keepD t2 hH hg hl'
    rw [ed] at e
    unfold lcL at e
    refine ⟨w2, wipeD s vs, m, ds[i], R2, (S0.mono (t.gr.trans t2.gr)).wipe vs, hx, ?_⟩
    cases e1 : g ds[i] (wipeD s vs) with
    | none => rw [e1] at e; cases e
    | some s1 =>
      rw [e1] at e
      simp only at e ⊢
      intro σ2 S2 p2
      refine ⟨by rw [p2]; exact wipe_wipe vs σ, w2, s1, m, R2, S2, ?_⟩
      revert e
      cases tt s1 m with
      | stuck => intro e; cases e
      | exc x m1 => intro e; cases e
      | ok b m1 =>
        intro e w3 H3 t3 R3
        obtain ⟨f1, f2, f3⟩ := keepD t3 d1 d2 d3
        cases b with
        | false =>
          rw [if_neg Bool.false_ne_true]
          exact ⟨by omega, w3, m1, acc, us, rest, t.trans (t2.trans t3), R3, f1, (dl.mono t2.gr).mono t3.gr, by omega, f2, f3, e, ey⟩
        | true =>
          rw [if_pos rfl]
          refine ⟨w3, s1, m1, R3, S2.mono t3.gr, ?_⟩
          revert e
          dsimp only
          cases el s1 m1 with
          | stuck => intro e; cases e
          | exc x m2 => intro e; cases e
          | ok y m2 =>
            dsimp only
            intro e w4 H4 t4 R4 v hv
            obtain ⟨g1, g2, g3⟩ := keepD t4 f1 f2 f3
            revert e
            cases e2 : lcL g tt el (wipeD s vs) (ds.drop (i + 1)) m2 with
            | stuck => intro e; cases e
            | exc x m2 => intro e; cases e
            | ok ys' m3 =>
              intro e
              cases e
              have al2 : us.length ≤ i := by rw [dl.length]; exact al
              refine ⟨us, g1, by rw [sizeLine_eq]; omega, by omega, w4, m2, acc ++ [y], us ++ [v], ys', (t.trans (t2.trans (t3.trans t4))).poke hD, R4.poke g2 g3 (fun ps z => by rw [g1] at z; cases z) (fun q z => by rw [g1] at z; unfold LamX.CodeO at z; cases z), upd_same,
                (((dl.mono t2.gr).mono t3.gr).mono t4.gr).append (.cons hv .nil), by simp; omega, g2, g3, e2, by simpa using ey⟩
  · left
    have ed : ds.drop i = [] := List.drop_eq_nil_of_le (by omega)
    rw [ed] at e
    unfold lcL at e
    cases e
    rw [List.append_nil] at ey
    subst ey
    exact ⟨hJ.stop w _ H i t.gr R (by omega), q w H D us t R hD hH dl hg hl'⟩
/-- [elt for target in iter if ..], as a value that never changes; hlc is the layer's rule (pe_lc, or ps_setLc's first part) -/
theorem rd_lc {src : SAr} {g : STg} {tt : SBl} {el : SEx} {vs : List Nat} {wi : TI} (hw : wi = rdI X.K X.mg T W src) (σ : L2.St) (H : Hp) (Q : VK) (h : rdE X.K X.mg T W (sLc src g tt el vs) σ H Q) :
    tLc wi (rdG X.K T (gOwn vs) g) (rdB X.K X.mg T W0 tt) (rdE X.K X.mg T W0 el) vs σ H Q := by
  subst hw
  obtain ⟨w, s, m, R, S, t⟩ := h
  refine ⟨w, s, m, R, S, (Then.bind t).mono fun ds m0 w0 H0 t0 R0 q J hJ => ?_⟩
  split at q
  · rename_i hl
    split at q
    · rename_i ys mE e0
      exact lc_walk R0 (S.mono t0.gr) hl e0 hJ fun w1 H1 p us t1 R1 h1 h2 h3 h4 h5 => by
        obtain ⟨R2, G⟩ := R1.adopt h2 h4 h5
        exact q _ _ (t1.adopt G h1) R2 _ (.lst (show upd w1.g p _ p = _ from upd_same) (h3.mono G))
    · exact q.elim
  · exact q.elim
theorem rd_lcN {src : SAr} {g : STg} {tt : SBl} {el : SEx} {vs : List Nat} {wi : TI} (hw : wi = rdI X.K X.mg T W src) (σ : L2.St) (H : Hp) (Q : VK) (h : rdE X.K X.mg T W (sLcN src g tt el vs) σ H Q) :
    tLc wi (rdG X.K T (gOwn vs) g) (rdB X.K X.mg T W0 tt) (rdE X.K X.mg T W0 el) vs σ H Q := by
  subst hw
  obtain ⟨w, s, m, R, S, t⟩ := h
  refine ⟨w, s, m, R, S, (Then.bind t).mono fun ds m0 w0 H0 t0 R0 q J hJ => ?_⟩
  split at q
  · rename_i hl
    split at q
    · rename_i ys mE e0
      exact lc_walk R0 (S.mono t0.gr) hl e0 hJ fun w1 H1 p us t1 R1 h1 h2 h3 h4 h5 =>
        q _ _ (t1.adoptN R1.len h1) (R1.adoptN h2 h3 h4 h5) _ (.ref (by show (w1.r ++ [p])[mE.length]? = some p; rw [← R1.len]; simp))
    · exact q.elim
  · exact q.elim
end
/-! ### defs -/
/-- how a def's body is run: the slots at its entry, what is told at its end -/
def fin (r : SRes) : Res D := match r with
  | .ret d m => .ok d m
  | .nx _ m => .ok .non m
  | .exc x _ m => .exc x m
  | _ => .stuck
def run (n : Nat) (b : SSt) (ds : List D) (m : Mu) : Res D := fin (b (ds.map some ++ List.replicate (n - ds.length) none) m)
/-- no handle from n on -/
def D.undr (n : Nat) : D → Bool
  | .ref k => decide (k < n)
  | .tup ds => all ds
  | .lst ds => all ds
  | .scr ds => all ds
  | .ktup ds => all ds
  | _ => true
where all : List D → Bool
  | [] => true
  | d :: ds => D.undr n d && all ds
def MO.undr (n : Nat) : MO → Bool
  | .dead => true
  | .lst ds => D.undr.all n ds
  | .dic kvs => kvs.all fun p => D.undr n p.2
/-- .. the handles that it made are forgotten -/
def trim (n : Nat) (r : Res D) : Res D := match r with
  | .ok d m => if D.undr n d = true ∧ (m.take n).all (MO.undr n) = true ∧ n ≤ m.length then .ok d (m.take n) else .stuck
  | .exc x m => if x.fs.all (fun p => D.undr n p.2) = true ∧ (m.take n).all (MO.undr n) = true ∧ n ≤ m.length then .exc x (m.take n) else .stuck
  | .stuck => .stuck
def runT (n : Nat) (b : SSt) (ds : List D) (m : Mu) : Res D := trim m.length (run n b ds m)
mutual
theorem Dat.cut {K : PySem.W.Frag} {w : Wd} {n : Nat} : ∀ {v d}, Dat K w v d → D.undr n d = true → Dat K ⟨w.g, w.r.take n⟩ v d
  | _, _, .non, _ => .non
  | _, _, .bl b, _ => .bl b
  | _, _, .int b, _ => .int b
  | _, _, .str b, _ => .str b
  | _, _, .tup h r, e => .tup h (DatL.cut r (by simpa only [D.undr] using e))
  | _, _, .lst h r, e => .lst h (DatL.cut r (by simpa only [D.undr] using e))
  | _, _, .scr h r, e => .scr h (DatL.cut r (by simpa only [D.undr] using e))
  | _, _, .ktup h r, e => .ktup h (DatL.cut r (by simpa only [D.undr] using e))
  | _, _, .ref (k := k) h, e => .ref (by
      have hk : k < n := by simpa [D.undr] using e
      show (w.r.take n)[k]? = _
      rw [List.getElem?_take_of_lt hk]; exact h)
theorem DatL.cut {K : PySem.W.Frag} {w : Wd} {n : Nat} : ∀ {v d}, DatL K w v d → D.undr.all n d = true → DatL K ⟨w.g, w.r.take n⟩ v d
  | _, _, .nil, _ => .nil
  | _, _, .cons h r, e => by
    simp only [D.undr.all, Bool.and_eq_true] at e
    exact .cons (Dat.cut h e.1) (DatL.cut r e.2)
end
theorem KvL.cut {K : PySem.W.Frag} {w : Wd} {n : Nat} : ∀ {v d}, KvL K w v d → (d.all fun p => D.undr n p.2) = true → KvL K ⟨w.g, w.r.take n⟩ v d
  | _, _, .nil, _ => .nil
  | _, _, .cons h r, e => by
    simp only [List.all_cons, Bool.and_eq_true] at e
    exact .cons (h.cut e.1) (KvL.cut r e.2)
theorem Rel.cut {K : PySem.W.Frag} {T} {w : Wd} {m : Mu} {H : Hp} (R : Rel K T w m H) {n : Nat} (e : (m.take n).all (MO.undr n) = true) (hp : T.w.r.length ≤ n) : Rel K T ⟨w.g, w.r.take n⟩ (m.take n) H where
  sub := R.sub
  len := by show (w.r.take n).length = _; rw [List.length_take, List.length_take, R.len]
  obj := fun k o a e1 e2 e3 => by
    have e2 : (w.r.take n)[k]? = some a := e2
    rw [List.getElem?_take] at e1 e2
    split at e1
    · rename_i hk
      rw [if_pos hk] at e2
      obtain ⟨q1, q2⟩ := R.obj k o a e1 e2 e3
      have eo : MO.undr n o = true := List.all_eq_true.mp e o (List.mem_of_getElem? (i := k) (by rw [List.getElem?_take, if_pos hk]; exact e1))
      refine ⟨q1, ?_⟩
      cases o with
      | dead => trivial
      | lst ds => obtain ⟨vs, h, r⟩ := q2; exact ⟨vs, h, r.cut eo⟩
      | dic ds => obtain ⟨vs, h, r⟩ := q2; exact ⟨vs, h, r.cut eo⟩
    · cases e1
  inj := fun j k o u a e1 e2 e3 e4 e5 e6 => by
    have e5 : (w.r.take n)[j]? = some a := e5
    have e6 : (w.r.take n)[k]? = some a := e6
    rw [List.getElem?_take] at e1 e2 e5 e6
    split at e1
    · split at e2
      · rename_i h1 h2
        rw [if_pos h1] at e5
        rw [if_pos h2] at e6
        exact R.inj j k o u a e1 e2 e3 e4 e5 e6
      · cases e2
    · cases e1
  tab := R.tab
  nt := R.nt
  tk := ⟨R.tk.g, by
    obtain ⟨more, e⟩ := R.tk.r
    refine ⟨more.take (n - T.w.r.length), ?_⟩
    show w.r.take n = _
    rw [e, List.take_append, List.take_of_length_le hp]⟩
theorem Rel.pinned {K : PySem.W.Frag} {T} {w : Wd} {m : Mu} {H : Hp} (R : Rel K T w m H) : T.w.r.length ≤ m.length := by
  obtain ⟨more, e⟩ := R.tk.r
  rw [← R.len, e, List.length_append]
  omega
theorem Tr.cut {w w' : Wd} {m m' : Mu} {H H' : Hp} (t : Tr w m H w' m' H') (l : w.r.length = m.length) : Tr w m H ⟨w'.g, w'.r.take m.length⟩ (m'.take m.length) H' where
  gr := ⟨t.gr.g, [], by
    obtain ⟨more, e⟩ := t.gr.r
    show w'.r.take m.length = w.r ++ []
    rw [e, List.append_nil, ← l, List.take_left]⟩
  fr := t.fr
  li := fun a h => by
    obtain ⟨k, o, e1, e2, e3⟩ := h
    have e1 : (w'.r.take m.length)[k]? = some a := e1
    rw [List.getElem?_take] at e1 e2
    split at e1
    · rename_i hk
      rw [if_pos hk] at e2
      exact t.li a ⟨k, o, e1, e2, e3⟩
    · cases e1
  gn := t.gn
/-- a def's promise: what C tells of it -/
def spI (K : PySem.W.Frag) (mg : Str → Option Value) (T : Tb) (n : Nat) (f : List D → Mu → Res D) : Sp := fun vs H Q E => vs.length = n ∧ ∃ w m ds, Rel K T w m H ∧ DatL K w vs ds ∧
  Then K mg T (fun c d _ H' => E c d H') w m H [] (f ds m) fun d _ w' H' => ∀ v, Dat K w' v d → Q v H'
end Rx
set_option Elab.async false
set_option linter.all false
set_option maxRecDepth 100000
set_option maxHeartbeats 1000000
namespace Rx
open PySem PySem.Spec PyProof.Rows L2
section
variable {P : Program} {w : World} {K : PySem.W.Frag} {mg : Str → Option Value} {base : Heap} {T : Tb}
theorem slots_start {wd : Wd} {vs : List V} {ds : List D} (r : DatL K wd vs ds) (N : List Str) : Slots K wd (L2.start N vs) (ds.map some ++ List.replicate (N.length - ds.length) none) := by
  refine ⟨by unfold L2.start; simp [r.length], fun i d e => ?_⟩
  unfold L2.start
  by_cases hi : i < ds.length
  · rw [List.getElem?_append_left (by simpa using hi), List.getElem?_map] at e
    cases e1 : ds[i]? with
    | none => rw [e1] at e; cases e
    | some d' =>
      rw [e1] at e
      cases e
      obtain ⟨v, e2, hv⟩ := r.get e1
      refine ⟨v, ?_, hv⟩
      rw [List.getElem?_append_left (by simp; rw [r.length]; exact hi), List.getElem?_map, e2]
      rfl
  · rw [List.getElem?_append_right (by simp; omega), List.getElem?_replicate] at e
    split at e <;> cases e
/-- a def that stands in the table: its promise at level k -/
structure Cal (P : Program) (w : World) (K : PySem.W.Frag) (mg : Str → Option Value) (base : Heap) (T : Tb) (k : Nat) (x : Str) (n : Nat) (f : List D → Mu → Res D) : Prop where
  ex : ∃ (fa : Addr) (fd : FuncData) (ps : List Str), FnOk P w K mg base (L2.CX P w) k fa fd ps (spI K mg T n f) ∧ mg x = some (.ref fa) ∧ PySem.W.keepIn K (.ref fa) = true ∧ Binds K fd ps [] ∧ ps.length = n
/-- a def by its body -/
theorem fn_run {x qual : Str} {st : Stmt} {f : Addr} {fd : FuncData} {N ps : List Str} {k : Nat} {b : SSt} (F : Fun K x qual st f fd) (S : FnScope N ps (defScope st))
    (hbody : ∀ (cdv : Value) (A : Around) (outer : List Env) (s : Shared) (H : Hp) (E : XK), Room k (A.deeper (envOfC qual (defScope st) s.heap.objs.size f cdv)) →
      PSs (cxOf (L2.CX P w) P w K mg base N qual (defScope st) f cdv A outer s H E) (defBody st) (rdS K mg T (fun c d _ H => E c d H) b)) :
    FnOk P w K mg base (L2.CX P w) (k + 1) f fd ps (spI K mg T ps.length (run N.length b)) := by
  refine F.okX S (fun vs H Q E h => h.1) fun cdv A outer s H vs Q E hr h => ⟨_, hbody cdv A outer s H E hr, ?_⟩
  obtain ⟨hl, wd, m, ds, R, dl, t⟩ := h
  refine ⟨wd, _, m, R, slots_start dl N, ?_⟩
  unfold run at t
  revert t
  cases b (ds.map some ++ List.replicate (N.length - ds.length) none) m with
  | nx s' m' => exact fun t w' H' σ' tr R' S' => t w' H' tr R' _ .non
  | ret d m' => exact fun t w' H' v tr R' hv => t w' H' tr R' v hv
  | bk _ _ => exact fun t => t.elim
  | ct _ _ => exact fun t => t.elim
  | exc x s' m' => exact fun t w' H' σ' cls dd tr R' S' hx => t w' H' cls dd tr R' hx
  | stuck => exact fun t => t.elim
theorem XRel.cut {K : PySem.W.Frag} {mg} {wd : Wd} {H : Hp} {cls dd x} {n : Nat} (h : XRel K mg wd H cls dd x) (e : x.fs.all (fun p => D.undr n p.2) = true) : XRel K mg ⟨wd.g, wd.r.take n⟩ H cls dd x := ⟨h.1, by
  rcases h.2 with h | ⟨a, vs, e2, e3, h⟩
  · exact .inl h
  · refine .inr ⟨a, vs, e2, e3, fun f d e1 => ?_⟩
    obtain ⟨v, e4, e5⟩ := h f d e1
    exact ⟨v, e4, e5.cut (List.all_eq_true.mp e (f, d) (PySem.mem_of_lookup e1))⟩⟩
/-- .. its handles forgotten -/
theorem fn_runT {x qual : Str} {st : Stmt} {f : Addr} {fd : FuncData} {N ps : List Str} {k : Nat} {b : SSt} (F : Fun K x qual st f fd) (S : FnScope N ps (defScope st))
    (hbody : ∀ (cdv : Value) (A : Around) (outer : List Env) (s : Shared) (H : Hp) (E : XK), Room k (A.deeper (envOfC qual (defScope st) s.heap.objs.size f cdv)) →
      PSs (cxOf (L2.CX P w) P w K mg base N qual (defScope st) f cdv A outer s H E) (defBody st) (rdS K mg T (fun c d _ H => E c d H) b)) :
    FnOk P w K mg base (L2.CX P w) (k + 1) f fd ps (spI K mg T ps.length (runT N.length b)) := by
  refine (fn_run F S hbody).imp fun vs H Q E h => ?_
  obtain ⟨hl, wd, m, ds, R, dl, t⟩ := h
  refine ⟨hl, wd, m, ds, R, dl, ?_⟩
  unfold runT at t
  revert t
  cases run N.length b ds m with
  | ok d m' =>
    intro t w' H' tr R' v hv
    unfold trim at t
    dsimp only at t
    split at t
    · rename_i hc
      exact t _ _ (tr.cut R.len) (R'.cut hc.2.1 R.pinned) v (hv.cut hc.1)
    · exact t.elim
  | exc x m' =>
    intro t w' H' cls dd tr R' hx
    unfold trim at t
    dsimp only at t
    split at t
    · rename_i hc
      exact t _ _ cls dd (tr.cut R.len) (R'.cut hc.2.1 R.pinned) (hx.cut hc.1)
    · exact t.elim
  | stuck => exact fun t => t.elim
end
/-- f(a, ..) -/
def sCall (n : Nat) (f : List D → Mu → Res D) (a : SAr) : SEx := fun s m => (a s m).bind fun ds m => if ds.length = n then f ds m else .stuck
section
variable {X : Cx} {T : Tb} {W : WX} {pos : Pos}
theorem re_call {k : Nat} {x : Str} {n : Nat} {f : List D → Mu → Res D} {a : SAr} {e : Expr} {es : List Expr} {p : Pos} (c : Cal X.prog X.w X.K X.mg X.base T k x n f) (hr : Room k X.A) (tk : Takes X W) (hg : Gl X x) (ha : PA X (e :: es) (rdA X.K X.mg T W a))
    (hdb : (x == ("__debug__" : Str)) = false := by decide) (he : starEach (e :: es) X.env = (false, eval e X.env) :: starEach es X.env := by rfl) (hpl : (backTo pos (starEach es X.env)).any (·.1) = false := by rfl) :
    PE X (.Call (.Name x p) (e :: es) [] pos) (rdE X.K X.mg T W (sCall n f a)) := by
  obtain ⟨fa, fd, ps, F, hm, hk, hb, hn⟩ := c.ex
  refine (pe_callS F hr hg hm hk hb (fun σ => passAt tk σ) ha hdb he hpl).imp fun σ H Q ⟨w, s, m, R, S, t⟩ => ?_
  refine ⟨w, s, m, R, S, (Then.bind t).mono fun ds m' w' H' t' R' q vs hv => ?_⟩
  split at q
  · rename_i hl
    refine ⟨by rw [hv.length]; exact hl, w', m', ds, R', hv, ?_⟩
    revert q
    cases f ds m' with
    | ok d m2 => exact fun q => q
    | exc x m2 => exact fun q => q
    | stuck => exact fun q => q
  · exact q.elim
end
end Rx
set_option Elab.async false
set_option linter.all false
set_option maxRecDepth 100000
set_option maxHeartbeats 1000000
namespace Rx
open PySem PySem.Spec PyProof.Rows L2

/-! ### operations on data -/
/-- a list that is tracked as such -/
def lOf (m : Mu) : D → Option (List D)
  | .lst ds => some ds
  | .ref k => match m[k]? with
    | some (.lst ds) => some ds
    | _ => none
  | _ => none
section
variable {K : PySem.W.Frag} {T : Tb} {w w' : Wd} {m : Mu} {H : Hp}
theorem lst_at (R : Rel K T w m H) {v : V} {d : D} (h : Dat K w v d) {ds : List D} (e : lOf m d = some ds) : ∃ a vs, v = .ref a ∧ DatL K w vs ds ∧ H a = some (.lst vs) := by
  cases h with
  | lst hq r => cases e; exact ⟨_, _, rfl, r, R.sub _ _ hq⟩
  | @ref a k hk =>
    unfold lOf at e
    simp only at e
    split at e
    · rename_i ds' e1
      cases e
      obtain ⟨q1, vs, q2, q3⟩ := R.obj k _ a e1 hk rfl
      exact ⟨a, vs, rfl, q3, q2⟩
    · cases e
  | _ => cases e
end
/-! data as a whole -/
def pyD : D → PyData
  | .non => .none
  | .bl b => .bool b
  | .int i => .int i
  | .str x => .str x
  | .tup ds => .tuple (pyL ds)
  | .lst ds => .list (pyL ds)
  | .scr ds => .list (pyL ds)
  | .ktup ds => .tuple (pyL ds)
  | .ref _ => .none
where pyL : List D → List PyData
  | [] => []
  | d :: ds => pyD d :: pyL ds
mutual
theorem dp_of {K : PySem.W.Frag} {w : Wd} {H : Hp} (s : Same w.g H) : ∀ {v d}, Dat K w v d → D.undr 0 d = true → Dp K H v (pyD d)
  | _, _, .non, _ => by unfold pyD; exact .non
  | _, _, .bl b, _ => by unfold pyD; exact .bl b
  | _, _, .int b, _ => by unfold pyD; exact .int b
  | _, _, .str b, _ => by unfold pyD; exact .str b
  | _, _, .tup h r, e => by unfold pyD; exact .tup (.of (s _ _ h)) (dpL_of s r (by simpa only [D.undr] using e))
  | _, _, .ktup h r, e => by unfold pyD; exact .tup (same_sqT s h) (dpL_of s r (by simpa only [D.undr] using e))
  | _, _, .lst h r, e => by unfold pyD; exact .lst (.of (s _ _ h)) (dpL_of s r (by simpa only [D.undr] using e))
  | _, _, .scr h r, e => by unfold pyD; exact .lst (s.seq h) (dpL_of s r (by simpa only [D.undr] using e))
  | _, _, .ref (k := k) h, e => by simp [D.undr] at e
theorem dpL_of {K : PySem.W.Frag} {w : Wd} {H : Hp} (s : Same w.g H) : ∀ {v d}, DatL K w v d → D.undr.all 0 d = true → DpAll K H v (pyD.pyL d)
  | _, _, .nil, _ => by unfold pyD.pyL; exact .nil
  | _, _, .cons h r, e => by
    simp only [D.undr.all, Bool.and_eq_true] at e
    unfold pyD.pyL
    exact .cons (dp_of s h e.1) (dpL_of s r e.2)
end
/-- data that == may be asked of: no handles, not too deep -/
def okD (d : D) : Bool := D.undr 0 d && SeqAt.shaped (pyD d)
def deref (m : Mu) (d : D) : D := match d with
  | .ref k => (match m[k]? with
    | some (.lst ds) => .lst ds
    | _ => .ref k)
  | d => d
theorem dp_at {K : PySem.W.Frag} {T} {w : Wd} {m : Mu} {H : Hp} (R : Rel K T w m H) {v : V} {d : D} (h : Dat K w v d) (e : okD (deref m d) = true) : Dp K H v (pyD (deref m d)) ∧ SeqAt.shaped (pyD (deref m d)) = true := by
  unfold okD at e
  rw [Bool.and_eq_true] at e
  refine ⟨?_, e.2⟩
  cases h with
  | @ref a k hk =>
    unfold deref at e ⊢
    simp only at e ⊢
    split at e
    · rename_i ds e1
      obtain ⟨q1, vs, q2, q3⟩ := R.obj k _ a e1 hk rfl
      have e0 := e.1
      simp only [D.undr] at e0
      unfold pyD
      exact .lst (.of q2) (dpL_of R.sub q3 e0)
    · have := e.1
      simp [D.undr] at this
  | non => exact dp_of R.sub .non e.1
  | bl b => exact dp_of R.sub (.bl b) e.1
  | int b => exact dp_of R.sub (.int b) e.1
  | str b => exact dp_of R.sub (.str b) e.1
  | tup h r => exact dp_of R.sub (.tup h r) e.1
  | ktup h r => exact dp_of R.sub (.ktup h r) e.1
  | lst h r => exact dp_of R.sub (.lst h r) e.1
  | scr h r => exact dp_of R.sub (.scr h r) e.1
def dEqv (x y : D) : Bool := PyData.eqv (pyD x) (pyD y)
def dEq (x y : D) (m : Mu) : Res D := if okD (deref m x) = true ∧ okD (deref m y) = true then .ok (.bl (dEqv (deref m x) (deref m y))) m else .stuck
def dNe (x y : D) (m : Mu) : Res D := if okD (deref m x) = true ∧ okD (deref m y) = true then .ok (.bl (!dEqv (deref m x) (deref m y))) m else .stuck
def dIn (x y : D) (m : Mu) : Res D := match seqOf m y with
  | some (_, ds) => if okD x = true ∧ okD (.lst ds) = true then .ok (.bl (ds.any fun z => dEqv z x)) m else .stuck
  | none => .stuck
def dNotIn (x y : D) (m : Mu) : Res D := match seqOf m y with
  | some (_, ds) => if okD x = true ∧ okD (.lst ds) = true then .ok (.bl (!ds.any fun z => dEqv z x)) m else .stuck
  | none => .stuck
def dAdd (x y : D) (m : Mu) : Res D := match x, y with
  | .int i, .int j => .ok (.int (i + j)) m
  | .str i, .str j => if i.length + j.length ≤ 1000000 then .ok (.str (i ++ j)) m else .stuck
  | .tup a, .tup b => if a.length + b.length ≤ 1000000 then .ok (.tup (a ++ b)) m else .stuck
  | x, y => match lOf m x, lOf m y with
    | some a, some b => if a.length + b.length ≤ 1000000 then .ok (.lst (a ++ b)) m else .stuck
    | _, _ => .stuck
def dSub (x y : D) (m : Mu) : Res D := match x, y with
  | .int i, .int j => .ok (.int (i - j)) m
  | _, _ => .stuck
def dMul (x y : D) (m : Mu) : Res D := match x, y with
  | .int i, .int j => if (-(2 ^ 64) < i ∧ i < 2 ^ 64) ∨ (-(2 ^ 64) < j ∧ j < 2 ^ 64) then .ok (.int (i * j)) m else .stuck
  | x, .int k => match lOf m x with
    | some a => if 0 ≤ k ∧ k ≤ 1000 ∧ a.length ≤ 1000 then .ok (.lst (List.replicate k.toNat a).flatten) m else .stuck
    | none => .stuck
  | _, _ => .stuck
def dMulN (x y : D) (m : Mu) : Res D := match x, y with
  | x, .int k => match lOf m x with
    | some a => if 0 ≤ k ∧ k ≤ 1000 ∧ a.length ≤ 1000 then .ok (.ref m.length) (m ++ [.lst (List.replicate k.toNat a).flatten]) else .stuck
    | none => .stuck
  | _, _ => .stuck
def dAddN (x y : D) (m : Mu) : Res D := match lOf m x, lOf m y with
    | some a, some b => if a.length + b.length ≤ 1000000 then .ok (.ref m.length) (m ++ [.lst (a ++ b)]) else .stuck
    | _, _ => .stuck
def dDiv (x y : D) (m : Mu) : Res D := match x, y with
  | .int i, .int j => if 0 < j ∧ j < 1073741824 then .ok (.int (i / j)) m else .stuck
  | _, _ => .stuck
def dMod (x y : D) (m : Mu) : Res D := match x, y with
  | .int i, .int j => if 0 < j then .ok (.int (i % j)) m else .stuck
  | _, _ => .stuck
def dPow (x y : D) (m : Mu) : Res D := match x, y with
  | .int i, .int j => if 0 ≤ j ∧ j ≤ 1000000 ∧ i.natAbs < 2 ^ 64 then .ok (.int (i ^ j.toNat)) m else .stuck
  | _, _ => .stuck
def dNeg (x : D) (m : Mu) : Res D := match x with
  | .int i => .ok (.int (-i)) m
  | _ => .stuck
def dLt (x y : D) (m : Mu) : Res D := match x, y with
  | .int i, .int j => .ok (.bl (decide (i < j))) m
  | _, _ => .stuck
def dLe (x y : D) (m : Mu) : Res D := match x, y with
  | .int i, .int j => .ok (.bl (decide (i ≤ j))) m
  | _, _ => .stuck
def dGt (x y : D) (m : Mu) : Res D := match x, y with
  | .int i, .int j => .ok (.bl (decide (j < i))) m
  | _, _ => .stuck
def dGe (x y : D) (m : Mu) : Res D := match x, y with
  | .int i, .int j => .ok (.bl (decide (j ≤ i))) m
  | _, _ => .stuck
def isNon : D → Bool
  | .non => true
  | _ => false
def dIsN (x y : D) (m : Mu) : Res D := match y with
  | .non => .ok (.bl (isNon x)) m
  | _ => .stuck
def dNotN (x y : D) (m : Mu) : Res D := match y with
  | .non => .ok (.bl (!isNon x)) m
  | _ => .stuck
def dIx (x y : D) (m : Mu) : Res D := match y with
  | .int i => (match seqOf m x with
    | some (_, ds) => (match atI ds i with
      | some d => .ok d m
      | none => .stuck)
    | none => .stuck)
  | _ => .stuck
/-- what a rule asks of values, from what is told of data -/
def Ru2 (X : Cx) (T : Tb) (W : WX) (r : R2) (g : D → D → Mu → Res D) : Prop := ∀ (w : Wd) (m : Mu) (H : Hp) (σ : L2.St) (x y : D) (u v : V) (Q : VK), Rel X.K T w m H → Dat X.K w u x → Dat X.K w v y → Then X.K X.mg T W w m H σ (g x y m) (fun d _ w' H' => ∀ v, Dat X.K w' v d → Q v H') → r u v H Q
section
variable {X : Cx} {T : Tb} {W : WX} {pos : Pos}
theorem ru_eq : Ru2 X T W (rEqD X.K) dEq := fun w m H σ x y u v Q R hu hv t => by
  unfold dEq at t
  split at t
  · rename_i hc
    obtain ⟨a1, a2⟩ := dp_at R hu hc.1
    obtain ⟨b1, b2⟩ := dp_at R hv hc.2
    exact ⟨_, _, a1, b1, a2, b2, t.now R _ (.bl _)⟩
  · exact t.elim
theorem ru_ne : Ru2 X T W (rNeD X.K) dNe := fun w m H σ x y u v Q R hu hv t => by
  unfold dNe at t
  split at t
  · rename_i hc
    obtain ⟨a1, a2⟩ := dp_at R hu hc.1
    obtain ⟨b1, b2⟩ := dp_at R hv hc.2
    exact ⟨_, _, a1, b1, a2, b2, t.now R _ (.bl _)⟩
  · exact t.elim
theorem pyL_any (x : D) : ∀ ds : List D, ((pyD.pyL ds).any fun z => PyData.eqv z (pyD x)) = ds.any fun z => dEqv z x
  | [] => rfl
  | d :: ds => by
    unfold pyD.pyL
    rw [List.any_cons, List.any_cons, pyL_any x ds]
    rfl
/-- in of a list or a tuple -/
def rInA (K : PySem.W.Frag) (neg : Bool) : R2 := fun x y H Q => ∃ d ds, Dp K H x d ∧ (Dp K H y (.list ds) ∨ Dp K H y (.tuple ds)) ∧ SeqAt.shaped d = true ∧ SeqAt.shaped (.list ds) = true ∧ Q (.bl (if neg then !ds.any fun z => PyData.eqv z d else ds.any fun z => PyData.eqv z d)) H
theorem op_inA (hu : X.A.units + 65 < cLine) : OpR X (compareOp .In) (rInA X.K false) := by
  intro pins s σ H x y v u Q I rx ry h
  obtain ⟨d, ds, hd, he, sd, se, q⟩ := h
  obtain ⟨as, r1⟩ := Dp.reads I d x v hd rx
  rcases he with he | he
  · obtain ⟨bs, r2⟩ := Dp.reads I (.list ds) y u he ry
    exact SeqAt.in_list_reads r2 r1 (SeqAt.canLay_of_shaped se) (SeqAt.canLay_of_shaped sd) (room_in_shaped sd hu) ⟨.bl _, H, I, rfl, q⟩
  · obtain ⟨bs, r2⟩ := Dp.reads I (.tuple ds) y u he ry
    exact SeqAt.in_tuple_reads r2 r1 (SeqAt.canLay_of_shaped se) (SeqAt.canLay_of_shaped sd) (room_in_shaped sd hu) ⟨.bl _, H, I, rfl, q⟩
theorem op_notInA (hu : X.A.units + 65 < cLine) : OpR X (compareOp .NotIn) (rInA X.K true) := by
  intro pins s σ H x y v u Q I rx ry h
  obtain ⟨d, ds, hd, he, sd, se, q⟩ := h
  obtain ⟨as, r1⟩ := Dp.reads I d x v hd rx
  rcases he with he | he
  · obtain ⟨bs, r2⟩ := Dp.reads I (.list ds) y u he ry
    exact SeqAt.notIn_list_reads r2 r1 (SeqAt.canLay_of_shaped se) (SeqAt.canLay_of_shaped sd) (room_in_shaped sd hu) ⟨.bl _, H, I, rfl, q⟩
  · obtain ⟨bs, r2⟩ := Dp.reads I (.tuple ds) y u he ry
    exact SeqAt.notIn_tuple_reads r2 r1 (SeqAt.canLay_of_shaped se) (SeqAt.canLay_of_shaped sd) (room_in_shaped sd hu) ⟨.bl _, H, I, rfl, q⟩
theorem in_help {w : Wd} {m : Mu} {H : Hp} {x y : D} {u v : V} {b : Bool} {ds : List D} (R : Rel X.K T w m H) (hu : Dat X.K w u x) (hv : Dat X.K w v y) (e : seqOf m y = some (b, ds)) (h1 : okD x = true) (h2 : okD (.lst ds) = true) :
    Dp X.K H u (pyD x) ∧ (Dp X.K H v (.list (pyD.pyL ds)) ∨ Dp X.K H v (.tuple (pyD.pyL ds))) ∧ SeqAt.shaped (pyD x) = true ∧ SeqAt.shaped (.list (pyD.pyL ds)) = true := by
  unfold okD at h1 h2
  rw [Bool.and_eq_true] at h1 h2
  refine ⟨dp_of R.sub hu h1.1, ?_, h1.2, by have := h2.2; unfold pyD at this; exact this⟩
  obtain ⟨a, vs, rfl, r, hq⟩ := seq_at R hv e
  have h3 : D.undr.all 0 ds = true := by have := h2.1; simpa only [D.undr] using this
  rcases hq with ⟨_, hq⟩ | ⟨_, hq⟩
  · exact .inl (.lst hq (dpL_of R.sub r h3))
  · exact .inr (.tup hq (dpL_of R.sub r h3))
theorem ru_in : Ru2 X T W (rInA X.K false) dIn := fun w m H σ x y u v Q R hu hv t => by
  unfold dIn at t
  split at t
  · rename_i b ds e
    split at t
    · rename_i hc
      obtain ⟨a1, a2, a3, a4⟩ := in_help R hu hv e hc.1 hc.2
      refine ⟨_, _, a1, a2, a3, a4, ?_⟩
      rw [if_neg Bool.false_ne_true, pyL_any]
      exact t.now R _ (.bl _)
    · exact t.elim
  · exact t.elim
theorem ru_notin : Ru2 X T W (rInA X.K true) dNotIn := fun w m H σ x y u v Q R hu hv t => by
  unfold dNotIn at t
  split at t
  · rename_i b ds e
    split at t
    · rename_i hc
      obtain ⟨a1, a2, a3, a4⟩ := in_help R hu hv e hc.1 hc.2
      refine ⟨_, _, a1, a2, a3, a4, ?_⟩
      rw [if_pos rfl, pyL_any]
      exact t.now R _ (.bl _)
    · exact t.elim
  · exact t.elim
theorem line6 {n : Nat} (h : n ≤ 1000000) : n ≤ sizeLine := by rw [sizeLine_eq]; omega
/-- + : ints, texts, tuples, lists -/
def rAddA (K : PySem.W.Frag) : R2 := fun x y H Q => (rI0 (fun i j => .int (i + j)) x y H Q) ∨ (∃ i j, x = .str i ∧ y = .str j ∧ i.length + j.length ≤ sizeLine ∧ Q (.str (i ++ j)) H) ∨ rCatA K x y H Q ∨ rCat x y H Q
theorem op_addA : OpR X (binaryOp .Add) (rAddA X.K) := op_add.or (op_add_str.or (op_catA.or op_cat))
theorem ru_add : Ru2 X T W (rAddA X.K) dAdd := fun w m H σ x y u v Q R hu hv t => by
  unfold dAdd at t
  split at t
  · cases hu; cases hv; exact .inl ⟨_, _, rfl, rfl, t.now R _ (.int _)⟩
  · split at t
    · rename_i hl
      cases hu; cases hv; exact .inr (.inl ⟨_, _, rfl, rfl, line6 hl, t.now R _ (.str _)⟩)
    · exact t.elim
  · rename_i a b
    split at t
    · rename_i hl
      cases hu with
      | tup h1 r1 => cases hv with
        | tup h2 r2 =>
          refine .inr (.inr (.inl ⟨_, _, _, _, rfl, rfl, .of (R.sub _ _ h1), .of (R.sub _ _ h2), by rw [r1.length, r2.length]; exact line6 hl, fun e => ?_, fun e e2 => ?_, fun e e2 p hp => fin_frozen R t hp fun w' g e3 => .tup e3 ((r1.append r2).mono g)⟩))
          · subst e; cases r1; exact t.now R _ (.tup h2 r2)
          · subst e2; cases r2; rw [List.append_nil] at t; exact t.now R _ (.tup h1 r1)
    · exact t.elim
  · split at t
    · rename_i a b e1 e2
      split at t
      · rename_i hl
        obtain ⟨p, us, rfl, r1, h1⟩ := lst_at R hu e1
        obtain ⟨q, vs, rfl, r2, h2⟩ := lst_at R hv e2
        exact .inr (.inr (.inr ⟨_, _, _, _, rfl, rfl, h1, h2, by rw [r1.length, r2.length]; exact line6 hl, fun p hp => fin_frozen R t hp fun w' g e3 => .lst e3 ((r1.append r2).mono g)⟩))
      · exact t.elim
    · exact t.elim
/-- the end of an operation that lays a list that may change -/
theorem fin_new {w : Wd} {m : Mu} {H : Hp} {σ : L2.St} {ds : List D} {vs : List V} {Q : VK} (R : Rel X.K T w m H) (t : Then X.K X.mg T W w m H σ (.ok (.ref m.length) (m ++ [.lst ds])) (fun d _ w' H' => ∀ v, Dat X.K w' v d → Q v H')) (r : DatL X.K w vs ds) {p : Addr} (hp : H p = none) : Q (.ref p) (upd H p (.lst vs)) := by
  obtain ⟨R1, t1⟩ := R.fresh (u := .lst ds) (o := .lst vs) hp rfl fun w' g => ⟨vs, upd_same, r.mono g⟩
  exact t _ _ t1 R1 _ (.ref (by show (w.r ++ [p])[m.length]? = some p; rw [← R.len]; simp))
theorem ru_addN : Ru2 X T W rCat dAddN := fun w m H σ x y u v Q R hu hv t => by
  unfold dAddN at t
  split at t
  · rename_i a b e1 e2
    split at t
    · rename_i hl
      obtain ⟨p, us, rfl, r1, h1⟩ := lst_at R hu e1
      obtain ⟨q, vs, rfl, r2, h2⟩ := lst_at R hv e2
      exact ⟨_, _, _, _, rfl, rfl, h1, h2, by rw [r1.length, r2.length]; exact line6 hl, fun p hp => fin_new R t (r1.append r2) hp⟩
    · exact t.elim
  · exact t.elim
theorem ru_sub : Ru2 X T W (rI0 fun i j => .int (i - j)) dSub := fun w m H σ x y u v Q R hu hv t => by
  unfold dSub at t
  split at t
  · cases hu; cases hv; exact ⟨_, _, rfl, rfl, t.now R _ (.int _)⟩
  · exact t.elim
theorem DatL.rep {K : PySem.W.Frag} {w : Wd} {vs ds} (h : DatL K w vs ds) : ∀ n : Nat, DatL K w (List.replicate n vs).flatten (List.replicate n ds).flatten
  | 0 => .nil
  | n + 1 => by
    rw [List.replicate_succ, List.replicate_succ, List.flatten_cons, List.flatten_cons]
    exact h.append (DatL.rep h n)
def rMulA : R2 := fun x y H Q => (rI CMul (fun i j => .int (i * j)) x y H Q) ∨ rRep x y H Q
theorem op_mulA : OpR X (binaryOp .Mult) rMulA := op_mul.or op_rep
theorem rep_help {k : Int} {n : Nat} (h0 : 0 ≤ k) (h1 : k ≤ 1000) (h2 : n ≤ 1000) : -(2 ^ 63) ≤ k ∧ k < 2 ^ 63 ∧ n * k.toNat ≤ sizeLine := by
  have h3 : n * k.toNat ≤ 1000 * 1000 := Nat.mul_le_mul h2 (by omega)
  rw [sizeLine_eq]
  refine ⟨by omega, by omega, by omega⟩
theorem ru_mul : Ru2 X T W rMulA dMul := fun w m H σ x y u v Q R hu hv t => by
  unfold dMul at t
  split at t
  · split at t
    · rename_i hc
      cases hu; cases hv; exact .inl ⟨_, _, rfl, rfl, hc, t.now R _ (.int _)⟩
    · exact t.elim
  · split at t
    · rename_i a e
      split at t
      · rename_i hc
        obtain ⟨p, us, rfl, r1, h1⟩ := lst_at R hu e
        cases hv
        obtain ⟨b1, b2, b3⟩ := rep_help hc.1 hc.2.1 hc.2.2
        exact .inr ⟨_, _, _, rfl, rfl, h1, b1, b2, by rw [r1.length]; exact b3, fun p hp => fin_frozen R t hp fun w' g e3 => .lst e3 ((r1.rep _).mono g)⟩
      · exact t.elim
    · exact t.elim
  · exact t.elim
theorem ru_mulN : Ru2 X T W rRep dMulN := fun w m H σ x y u v Q R hu hv t => by
  unfold dMulN at t
  split at t
  · split at t
    · rename_i a e
      split at t
      · rename_i hc
        obtain ⟨p, us, rfl, r1, h1⟩ := lst_at R hu e
        cases hv
        obtain ⟨b1, b2, b3⟩ := rep_help hc.1 hc.2.1 hc.2.2
        exact ⟨_, _, _, rfl, rfl, h1, b1, b2, by rw [r1.length]; exact b3, fun p hp => fin_new R t (r1.rep _) hp⟩
      · exact t.elim
    · exact t.elim
  · exact t.elim
theorem ru_div : Ru2 X T W (rI CDiv fun i j => .int (i / j)) dDiv := fun w m H σ x y u v Q R hu hv t => by
  unfold dDiv at t
  split at t
  · split at t
    · rename_i hc
      cases hu; cases hv; exact ⟨_, _, rfl, rfl, hc, t.now R _ (.int _)⟩
    · exact t.elim
  · exact t.elim
theorem ru_mod : Ru2 X T W (rI (fun _ j => 0 < j) fun i j => .int (i % j)) dMod := fun w m H σ x y u v Q R hu hv t => by
  unfold dMod at t
  split at t
  · split at t
    · rename_i hc
      cases hu; cases hv; exact ⟨_, _, rfl, rfl, hc, t.now R _ (.int _)⟩
    · exact t.elim
  · exact t.elim
theorem ru_pow : Ru2 X T W (rI CPow fun i j => .int (i ^ j.toNat)) dPow := fun w m H σ x y u v Q R hu hv t => by
  unfold dPow at t
  split at t
  · split at t
    · rename_i hc
      cases hu; cases hv; exact ⟨_, _, rfl, rfl, hc, t.now R _ (.int _)⟩
    · exact t.elim
  · exact t.elim
theorem ru_lt : Ru2 X T W (rI0 fun i j => .bl (decide (i < j))) dLt := fun w m H σ x y u v Q R hu hv t => by
  unfold dLt at t
  split at t
  · cases hu; cases hv; exact ⟨_, _, rfl, rfl, t.now R _ (.bl _)⟩
  · exact t.elim
theorem ru_le : Ru2 X T W (rI0 fun i j => .bl (decide (i ≤ j))) dLe := fun w m H σ x y u v Q R hu hv t => by
  unfold dLe at t
  split at t
  · cases hu; cases hv; exact ⟨_, _, rfl, rfl, t.now R _ (.bl _)⟩
  · exact t.elim
theorem ru_gt : Ru2 X T W (rI0 fun i j => .bl (decide (j < i))) dGt := fun w m H σ x y u v Q R hu hv t => by
  unfold dGt at t
  split at t
  · cases hu; cases hv; exact ⟨_, _, rfl, rfl, t.now R _ (.bl _)⟩
  · exact t.elim
theorem ru_ge : Ru2 X T W (rI0 fun i j => .bl (decide (j ≤ i))) dGe := fun w m H σ x y u v Q R hu hv t => by
  unfold dGe at t
  split at t
  · cases hu; cases hv; exact ⟨_, _, rfl, rfl, t.now R _ (.bl _)⟩
  · exact t.elim
theorem isNon_of {K : PySem.W.Frag} {w : Wd} {u : V} {x : D} (h : Dat K w u x) : decide (u = .non) = isNon x := by
  cases h <;> simp [isNon]
theorem ru_isN : Ru2 X T W (fun x y H Q => y = .non ∧ Q (.bl (decide (x = .non))) H) dIsN := fun w m H σ x y u v Q R hu hv t => by
  unfold dIsN at t
  split at t
  · cases hv; refine ⟨rfl, ?_⟩; rw [isNon_of hu]; exact t.now R _ (.bl _)
  · exact t.elim
theorem ru_notN : Ru2 X T W (fun x y H Q => y = .non ∧ Q (.bl (!decide (x = .non))) H) dNotN := fun w m H σ x y u v Q R hu hv t => by
  unfold dNotN at t
  split at t
  · cases hv; refine ⟨rfl, ?_⟩; rw [isNon_of hu]; exact t.now R _ (.bl _)
  · exact t.elim
theorem atI_dat {K : PySem.W.Frag} {w : Wd} {vs : List V} {ds : List D} (r : DatL K w vs ds) {i : Int} {d : D} (e : atI ds i = some d) : ∃ v, atI vs i = some v ∧ Dat K w v d := by
  unfold atI at e ⊢
  rw [r.length]
  cases h : ixN ds.length i with
  | none => rw [h] at e; cases e
  | some j => rw [h] at e; exact r.get e
theorem ru_ix : Ru2 X T W (rIx X.K) dIx := fun w m H σ x y u v Q R hu hv t => by
  unfold dIx at t
  split at t
  · split at t
    · rename_i b ds e
      split at t
      · rename_i d e1
        cases hv
        obtain ⟨a, vs, rfl, r, hq⟩ := seq_at R hu e
        obtain ⟨v, e2, hd⟩ := atI_dat r e1
        rcases hq with ⟨_, hq⟩ | ⟨_, hq⟩
        · exact .inl ⟨_, _, _, _, rfl, rfl, hq, e2, t.now R _ hd⟩
        · exact .inr (.inl ⟨_, _, _, _, rfl, rfl, hq, e2, t.now R _ hd⟩)
      · exact t.elim
    · exact t.elim
  · exact t.elim
theorem re_bin {op : Operator} {r : R2} {a b : Expr} {f1 f2 : SEx} {g : D → D → Mu → Res D} (ho : OpR X (binaryOp op) r) (hr : Ru2 X T W r g) (ha : PE X a (rdE X.K X.mg T W f1)) (hb : PE X b (rdE X.K X.mg T W f2)) : PE X (.BinOp a op b pos) (rdE X.K X.mg T W (s2 g f1 f2)) := re_two (pe_op ho) ha hb hr
theorem re_cmp {op : CmpOp} {r : R2} {a b : Expr} {f1 f2 : SEx} {g : D → D → Mu → Res D} (ho : OpR X (compareOp op) r) (hr : Ru2 X T W r g) (ha : PE X a (rdE X.K X.mg T W f1)) (hb : PE X b (rdE X.K X.mg T W f2)) (hm : behindInMarks op b = false) : PE X (.Compare a [op] [b] pos) (rdE X.K X.mg T W (s2 g f1 f2)) := re_two (fun ha hb => pe_cmpR ho ha hb hm) ha hb hr
theorem re_ix {a b : Expr} {f1 f2 : SEx} (ha : PE X a (rdE X.K X.mg T W f1)) (hb : PE X b (rdE X.K X.mg T W f2)) (hs : PlainIx b) : PE X (.Subscript a b pos) (rdE X.K X.mg T W (s2 dIx f1 f2)) := re_two (fun ha hb => pe_ix ix_seq ha hb hs) ha hb ru_ix
theorem re_neg {a : Expr} {f : SEx} (ha : PE X a (rdE X.K X.mg T W f)) : PE X (.UnaryOp .USub a pos) (rdE X.K X.mg T W (s1 dNeg f)) := re_one (fun h => pe_un un_neg h) ha fun w m H σ x u Q R hu t => by
  unfold dNeg at t
  split at t
  · cases hu; exact ⟨_, rfl, t.now R _ (.int _)⟩
  · exact t.elim
/-! tests -/
def sTst (f : SEx) : SBl := fun s m => (f s m).bind fun d m => match d with
  | .bl b => .ok b m
  | _ => .stuck
def bNot (c : SBl) : SBl := fun s m => (c s m).bind fun b m => .ok (!b) m
def bAnd (c d : SBl) : SBl := fun s m => (c s m).bind fun b m => if b = true then d s m else .ok false m
def bOr (c d : SBl) : SBl := fun s m => (c s m).bind fun b m => if b = true then .ok true m else d s m
theorem rt_of {e : Expr} {f : SEx} {t : TE} (h : PT X e (tTest t)) (i : ∀ σ H Q, rdE X.K X.mg T W f σ H Q → t σ H Q) : PT X e (rdB X.K X.mg T W (sTst f)) := h.imp fun σ H Q ⟨w, s, m, R, S, t⟩ => i _ _ _ ⟨w, s, m, R, S, (Then.bind t).mono fun d m' w' H' t' R' q v hv => by
  split at q
  · cases hv; exact ⟨_, rfl, q.now R'⟩
  · exact q.elim⟩
theorem rt_cmp {op : CmpOp} {r : R2} {a b : Expr} {f1 f2 : SEx} {g : D → D → Mu → Res D} (ho : OpR X (compareOp op) r) (hr : Ru2 X T W r g) (ha : PE X a (rdE X.K X.mg T W f1)) (hb : PE X b (rdE X.K X.mg T W f2)) (hm : behindInMarks op b = false) : PT X (.Compare a [op] [b] pos) (rdB X.K X.mg T W (sTst (s2 g f1 f2))) := by
  refine rt_of (pt_cmpR ho ha hb hm) fun σ H Q ⟨w, s, m, R, S, t⟩ => ?_
  refine ⟨w, s, m, R, S, (Then.bind t).mono fun x m1 w1 H1 t1 R1 t u hu => ?_⟩
  refine ⟨w1, s, m1, R1, S.mono t1.gr, (Then.bind t).mono fun y m2 w2 H2 t2 R2 t v hv => ?_⟩
  exact hr w2 m2 H2 σ x y u v Q R2 (hu.mono t2.gr) hv t
theorem rt_val {e : Expr} {f : SEx} (h : PE X e (rdE X.K X.mg T W f)) (he : ∀ whole, isTrue e X.env whole = (do let v ← whole; standAt e.pos; holding [v] (truthy v)) := by intro _; rfl) : PT X e (rdB X.K X.mg T W (sTst f)) := by
  have q : PT X e (tTest (rdE X.K X.mg T W f)) := (pt_val h he).imp fun σ H Q x => x
  exact rt_of q fun σ H Q x => x
theorem rt_not {a : Expr} {c : SBl} (ha : PT X a (rdB X.K X.mg T W c)) : PT X (.UnaryOp .Not a pos) (rdB X.K X.mg T W (bNot c)) := (pt_not ha).imp fun σ H Q ⟨w, s, m, R, S, t⟩ => ⟨w, s, m, R, S, (Then.bind t).mono fun b m' w' H' t' R' q => q.now R'⟩
theorem rw_one_and {a : Expr} {c : SBl} (ha : PT X a (rdB X.K X.mg T W c)) : PW X (.BoolOp .And [a] pos) (rdB X.K X.mg T W c) := pw_and1 ha
theorem rw_one_or {a : Expr} {c : SBl} (ha : PT X a (rdB X.K X.mg T W c)) : PW X (.BoolOp .Or [a] pos) (rdB X.K X.mg T W c) := pw_or1 ha
theorem rw_and {a b : Expr} {rest : List Expr} {c d : SBl} (ha : PT X a (rdB X.K X.mg T W c)) (hb : PW X (.BoolOp .And (b :: rest) pos) (rdB X.K X.mg T W d)) : PW X (.BoolOp .And (a :: b :: rest) pos) (rdB X.K X.mg T W (bAnd c d)) := (pw_and ha hb).imp fun σ H Q ⟨w, s, m, R, S, t⟩ => ⟨w, s, m, R, S, (Then.bind t).mono fun k m' w' H' t' R' q => by
  cases k with
  | true => exact ⟨w', s, m', R', S.mono t'.gr, q⟩
  | false => exact q.now R'⟩
theorem rw_or {a b : Expr} {rest : List Expr} {c d : SBl} (ha : PT X a (rdB X.K X.mg T W c)) (hb : PW X (.BoolOp .Or (b :: rest) pos) (rdB X.K X.mg T W d)) : PW X (.BoolOp .Or (a :: b :: rest) pos) (rdB X.K X.mg T W (bOr c d)) := (pw_or ha hb).imp fun σ H Q ⟨w, s, m, R, S, t⟩ => ⟨w, s, m, R, S, (Then.bind t).mono fun k m' w' H' t' R' q => by
  cases k with
  | true => exact q.now R'
  | false => exact ⟨w', s, m', R', S.mono t'.gr, q⟩⟩
/-! and, or, not, if as values -/
def sNot (f : SEx) : SEx := fun s m => (f s m).bind fun d m => match d with
  | .bl b => .ok (.bl (!b)) m
  | _ => .stuck
def sAnd (f g : SEx) : SEx := fun s m => (f s m).bind fun d m => match d with
  | .bl b => if b = true then g s m else .ok (.bl false) m
  | _ => .stuck
def sOr (f g : SEx) : SEx := fun s m => (f s m).bind fun d m => match d with
  | .bl b => if b = true then .ok (.bl true) m else g s m
  | _ => .stuck
def sIte (c : SBl) (f g : SEx) : SEx := fun s m => (c s m).bind fun b m => if b = true then f s m else g s m
theorem re_not {a : Expr} {f : SEx} (ha : PE X a (rdE X.K X.mg T W f)) : PE X (.UnaryOp .Not a pos) (rdE X.K X.mg T W (sNot f)) := (pe_not ha).imp fun σ H Q ⟨w, s, m, R, S, t⟩ => ⟨w, s, m, R, S, (Then.bind t).mono fun d m' w' H' t' R' q v hv => by
  split at q
  · cases hv; exact ⟨_, rfl, q.now R' _ (.bl _)⟩
  · exact q.elim⟩
theorem re_one_b {op} {a : Expr} {f : SEx} (ha : PE X a (rdE X.K X.mg T W f)) : PE X (.BoolOp op [a] pos) (rdE X.K X.mg T W f) := pe_one ha
theorem re_and {a b : Expr} {rest : List Expr} {f g : SEx} (ha : PE X a (rdE X.K X.mg T W f)) (hb : PE X (.BoolOp .And (b :: rest) pos) (rdE X.K X.mg T W g)) : PE X (.BoolOp .And (a :: b :: rest) pos) (rdE X.K X.mg T W (sAnd f g)) := (pe_and ha hb).imp fun σ H Q ⟨w, s, m, R, S, t⟩ => ⟨w, s, m, R, S, (Then.bind t).mono fun d m' w' H' t' R' q v hv => by
  split at q
  · rename_i b
    cases hv
    refine ⟨_, rfl, ?_⟩
    cases b with
    | true => exact ⟨w', s, m', R', S.mono t'.gr, q⟩
    | false => exact q.now R' _ (.bl _)
  · exact q.elim⟩
theorem re_or {a b : Expr} {rest : List Expr} {f g : SEx} (ha : PE X a (rdE X.K X.mg T W f)) (hb : PE X (.BoolOp .Or (b :: rest) pos) (rdE X.K X.mg T W g)) : PE X (.BoolOp .Or (a :: b :: rest) pos) (rdE X.K X.mg T W (sOr f g)) := (pe_or ha hb).imp fun σ H Q ⟨w, s, m, R, S, t⟩ => ⟨w, s, m, R, S, (Then.bind t).mono fun d m' w' H' t' R' q v hv => by
  split at q
  · rename_i b
    cases hv
    refine ⟨_, rfl, ?_⟩
    cases b with
    | true => exact q.now R' _ (.bl _)
    | false => exact ⟨w', s, m', R', S.mono t'.gr, q⟩
  · exact q.elim⟩
theorem re_ite {a b c : Expr} {fc : SBl} {f g : SEx} (hc : PT X c (rdB X.K X.mg T W fc)) (ha : PE X a (rdE X.K X.mg T W f)) (hb : PE X b (rdE X.K X.mg T W g)) : PE X (.IfExp c a b pos) (rdE X.K X.mg T W (sIte fc f g)) := (pe_ifExp hc ha hb).imp fun σ H Q ⟨w, s, m, R, S, t⟩ => ⟨w, s, m, R, S, (Then.bind t).mono fun k m' w' H' t' R' q => by
  cases k with
  | true => exact ⟨w', s, m', R', S.mono t'.gr, q⟩
  | false => exact ⟨w', s, m', R', S.mono t'.gr, q⟩⟩
end
end Rx
set_option Elab.async false
set_option linter.all false
set_option maxRecDepth 100000
set_option maxHeartbeats 1000000
namespace Rx
open PySem PySem.Spec PyProof.Rows L2

/-! ### slices -/
abbrev SOp := Sd → Mu → Res (Option Int)
def oNo : SOp := fun _ m => .ok none m
def oSo (f : SEx) : SOp := fun s m => (f s m).bind fun d m => match d with
  | .int i => .ok (some i) m
  | _ => .stuck
def cutD (xs : List D) (lo hi : Option Int) : List D := (xs.drop (HT.sIx xs.length 0 lo)).take (HT.sIx xs.length xs.length hi - HT.sIx xs.length 0 lo)
def dSl (x : D) (lo hi : Option Int) (m : Mu) : Res D := match seqOf m x with
  | some (false, ds) => .ok (.lst (cutD ds lo hi)) m
  | some (true, ds) => if HT.sIx ds.length 0 lo = 0 ∧ HT.sIx ds.length ds.length hi = ds.length then .ok x m else .ok (.tup (cutD ds lo hi)) m
  | none => .stuck
def sSl (f : SEx) (lo hi : SOp) : SEx := fun s m => (f s m).bind fun x m => (lo s m).bind fun l m => (hi s m).bind fun h m => dSl x l h m
/-! stores -/
/-- the list at a handle -/
def hOf (m : Mu) : D → Option (Nat × List D)
  | .ref k => match m[k]? with
    | some (.lst ds) => some (k, ds)
    | _ => none
  | _ => none
def dPutI (x i v : D) (m : Mu) : Option Mu := match hOf m x, i with
  | some (k, ds), .int j => (ixN ds.length j).map fun n => m.set k (.lst (ds.set n v))
  | _, _ => none
def sPut (v o i : SEx) : SSt := fun s m => (v s m).toS s fun v m => (o s m).toS s fun x m => (i s m).toS s fun j m => match dPutI x j v m with
  | some m' => .nx s m'
  | none => .stuck
def sAug (g : D → D → Mu → Res D) (o i e : SEx) : SSt := fun s m => (o s m).toS s fun x m => (i s m).toS s fun j m => (dIx x j m).toS s fun a m => (e s m).toS s fun b m => (g a b m).toS s fun c m => match dPutI x j c m with
  | some m' => .nx s m'
  | none => .stuck
def sAugN (g : D → D → Mu → Res D) (k : Nat) (e : SEx) : SSt := fun s m => (sVar k s m).toS s fun a m => (e s m).toS s fun b m => (g a b m).toS s fun c m => .nx (s.set k (some c)) m
/-! methods of lists -/
def dApp (x v : D) (m : Mu) : Res D := match hOf m x with
  | some (k, ds) => if ds.length ≤ 1000000 then .ok .non (m.set k (.lst (ds ++ [v]))) else .stuck
  | none => .stuck
/-- it is a list -/
def isL (m : Mu) (x : D) : Bool := match seqOf m x with
  | some (false, _) => true
  | _ => false
def sM1 (g : D → D → Mu → Res D) (fo fe : SEx) : SEx := fun s m => (fo s m).bind fun x m => if isL m x = true then (fe s m).bind fun y m => g x y m else .stuck
def sM0 (g : D → Mu → Res D) (fo : SEx) : SEx := fun s m => (fo s m).bind fun x m => if isL m x = true then g x m else .stuck
def dPop (x : D) (m : Mu) : Res D := match hOf m x with
  | some (k, ds) => (match ds[ds.length - 1]? with
    | some d => .ok d (m.set k (.lst ds.dropLast))
    | none => .stuck)
  | none => .stuck
/-! len, abs, sum, list, tuple -/
def dLen (xs : List D) (m : Mu) : Res D := match xs with
  | [x] => (match seqOf m x with
    | some (_, ds) => .ok (.int ds.length) m
    | none => .stuck)
  | _ => .stuck
def dAbs (xs : List D) (m : Mu) : Res D := match xs with
  | [.int i] => .ok (.int i.natAbs) m
  | _ => .stuck
def intsOf : List D → Option (List Int)
  | [] => some []
  | .int i :: ds => (intsOf ds).map fun l => i :: l
  | _ => none
def blsOf : List D → Option (List Bool)
  | [] => some []
  | .bl i :: ds => (blsOf ds).map fun l => i :: l
  | _ => none
def dSum (xs : List D) (m : Mu) : Res D := match xs with
  | [x] => (match seqOf m x with
    | some (false, ds) => (match intsOf ds with
      | some l => .ok (.int l.sum) m
      | none => .stuck)
    | _ => .stuck)
  | _ => .stuck
def dAll (xs : List D) (m : Mu) : Res D := match xs with
  | [x] => (match seqOf m x with
    | some (false, ds) => (match blsOf ds with
      | some l => .ok (.bl (l.all id)) m
      | none => .stuck)
    | _ => .stuck)
  | _ => .stuck
def dList (xs : List D) (m : Mu) : Res D := match xs with
  | [x] => (match seqOf m x with
    | some (_, ds) => .ok (.lst ds) m
    | none => .stuck)
  | _ => .stuck
def dListN (xs : List D) (m : Mu) : Res D := match xs with
  | [x] => (match seqOf m x with
    | some (_, ds) => .ok (.ref m.length) (m ++ [.lst ds])
    | none => .stuck)
  | _ => .stuck
def dTuple (xs : List D) (m : Mu) : Res D := match xs with
  | [x] => (match seqOf m x with
    | some (false, ds) => .ok (.tup ds) m
    | some (true, _) => .ok x m
    | none => .stuck)
  | _ => .stuck
def sB (g : List D → Mu → Res D) (a : SAr) : SEx := fun s m => (a s m).bind fun xs m => g xs m
/-- a list that never changes from now on -/
def dFrz (x : D) (m : Mu) : Res D := match hOf m x with
  | some (k, ds) => .ok (.lst ds) (m.set k .dead)
  | none => .stuck
/-- .. and the lists in it -/
def frzAll (m : Mu) : List D → Option (List D × Mu)
  | [] => some ([], m)
  | x :: xs => match hOf m x with
    | some (k, ds) => (frzAll (m.set k .dead) xs).map fun p => (.lst ds :: p.1, p.2)
    | none => none
def sFrz (f : SEx) : SEx := fun s m => (f s m).bind fun x m => dFrz x m
section
variable {K : PySem.W.Frag} {T : Tb} {w w' : Wd} {m : Mu} {H : Hp}
theorem h_at (R : Rel K T w m H) {v : V} {d : D} (h : Dat K w v d) {k : Nat} {ds : List D} (e : hOf m d = some (k, ds)) : ∃ a vs, v = .ref a ∧ d = .ref k ∧ m[k]? = some (.lst ds) ∧ w.r[k]? = some a ∧ DatL K w vs ds ∧ H a = some (.lst vs) := by
  cases h with
  | @ref a k' hk =>
    unfold hOf at e
    simp only at e
    split at e
    · rename_i ds' e1
      cases e
      obtain ⟨q1, vs, q2, q3⟩ := R.obj k _ a e1 hk rfl
      exact ⟨a, vs, rfl, rfl, e1, hk, q3, q2⟩
    · cases e
  | _ => cases e
/-- the list at a handle is written -/
theorem write_at (R : Rel K T w m H) {k : Nat} {a : Addr} {ds ds' : List D} {vs' : List V} (e1 : m[k]? = some (.lst ds)) (e2 : w.r[k]? = some a) (r : DatL K w vs' ds') : Rel K T w (m.set k (.lst ds')) (upd H a (.lst vs')) ∧ Tr w m H w (m.set k (.lst ds')) (upd H a (.lst vs')) :=
  R.write (u := .lst ds') e1 e2 rfl rfl ⟨vs', upd_same, r⟩
end
section
variable {X : Cx} {T : Tb} {W : WX} {pos : Pos}
def rdO (K : PySem.W.Frag) (mg : Str → Option Value) (T : Tb) (W : WX) (f : SOp) : TO := fun σ H Q => ∃ w s m, Rel K T w m H ∧ Slots K w σ s ∧ Then K mg T W w m H σ (f s m) fun o _ _ H' => Q o H'
theorem _root_.L2.PO.imp {e : Option Expr} {t t' : TO} (h : PO X e t) (i : ∀ σ H Q, t' σ H Q → t σ H Q) : PO X e t' := ⟨fun pins s σ H Q I q => h.run pins s σ H Q I (i σ H Q q)⟩
theorem ro_no : PO X none (rdO X.K X.mg T W oNo) := po_none.imp fun σ H Q ⟨w, s, m, R, S, t⟩ => t.now R
theorem ro_so {e : Expr} {f : SEx} (h : PE X e (rdE X.K X.mg T W f)) : PO X (some e) (rdO X.K X.mg T W (oSo f)) := (po_some h).imp fun σ H Q ⟨w, s, m, R, S, t⟩ => ⟨w, s, m, R, S, (Then.bind t).mono fun d m' w' H' t' R' q v hv => by
  split at q
  · cases hv; exact ⟨_, rfl, q.now R'⟩
  · exact q.elim⟩
theorem DatL.cutV {K : PySem.W.Frag} {w : Wd} {vs ds} (r : DatL K w vs ds) (lo hi : Option Int) : DatL K w (L2.cutV vs lo hi) (cutD ds lo hi) := by
  unfold L2.cutV cutD
  rw [r.length]
  exact (r.drop _).take _
theorem re_sl {e : Expr} {lo hi : Option Expr} {f : SEx} {fl fh : SOp} {p2 : Pos} (he : PE X e (rdE X.K X.mg T W f)) (hl : PO X lo (rdO X.K X.mg T W fl)) (hh : PO X hi (rdO X.K X.mg T W fh)) : PE X (.Subscript e (.Slice lo hi none p2) pos) (rdE X.K X.mg T W (sSl f fl fh)) := by
  refine (pe_slice (sl_list.or sl_tupA) he hl hh).imp fun σ H Q ⟨w, s, m, R, S, t⟩ => ?_
  refine ⟨w, s, m, R, S, (Then.bind t).mono fun x m1 w1 H1 t1 R1 t u hu => ?_⟩
  refine ⟨w1, s, m1, R1, S.mono t1.gr, (Then.bind t).mono fun l m2 w2 H2 t2 R2 t => ?_⟩
  refine ⟨w2, s, m2, R2, (S.mono t1.gr).mono t2.gr, (Then.bind t).mono fun h m3 w3 H3 t3 R3 t => ?_⟩
  have hu3 := (hu.mono t2.gr).mono t3.gr
  unfold dSl at t
  split at t
  · rename_i ds e
    obtain ⟨a, vs, rfl, r, hq⟩ := seq_at R3 hu3 e
    rcases hq with ⟨_, hq⟩ | ⟨z, _⟩
    · exact .inl ⟨a, vs, rfl, hq, fun p hp => fin_frozen R3 t hp fun w' g e3 => .lst e3 ((r.cutV l h).mono g)⟩
    · cases z
  · rename_i ds e
    obtain ⟨a, vs, rfl, r, hq⟩ := seq_at R3 hu3 e
    rcases hq with ⟨z, _⟩ | ⟨_, hq⟩
    · cases z
    · refine .inr ⟨a, vs, rfl, hq, fun c => ?_, fun c p hp => ?_⟩
      · rw [if_pos (by rw [← r.length]; exact c)] at t
        exact t.now R3 _ hu3
      · rw [if_neg (by rw [← r.length]; exact c)] at t
        exact fin_frozen R3 t hp fun w' g e3 => .tup e3 ((r.cutV l h).mono g)
  · exact t.elim
/-! stores -/
theorem put_ok {w : Wd} {m m' : Mu} {H : Hp} {x j v : D} {o i y : V} {Q : Hp → Prop} (R : Rel X.K T w m H) (ho : Dat X.K w o x) (hi : Dat X.K w i j) (hy : Dat X.K w y v) (e : dPutI x j v m = some m')
    (q : ∀ H', Tr w m H w m' H' → Rel X.K T w m' H' → Q H') : rSetL o i y H Q := by
  unfold dPutI at e
  split at e
  · rename_i k ds n e1
    obtain ⟨a, vs, rfl, rfl, f1, f2, r, hH⟩ := h_at R ho e1
    cases hi
    obtain ⟨jn, e2, e3⟩ := Option.map_eq_some_iff.mp e
    subst e3
    obtain ⟨R1, t1⟩ := write_at R f1 f2 (r.set hy jn)
    exact ⟨a, vs, _, jn, rfl, rfl, hH, by rw [r.length]; exact e2, q _ t1 R1⟩
  · cases e
theorem rs_put {st : Stmt} {v o i : Expr} {fv fo fi : SEx} (h : PE X v (rdE X.K X.mg T W fv) → PE X o (rdE X.K X.mg T W fo) → PE X i (rdE X.K X.mg T W fi) → PS X st (tAsg (rdE X.K X.mg T W fv) (gSub (rdE X.K X.mg T W fo) (rdE X.K X.mg T W fi) rSetL)))
    (hv : PE X v (rdE X.K X.mg T W fv)) (ho : PE X o (rdE X.K X.mg T W fo)) (hi : PE X i (rdE X.K X.mg T W fi)) : PS X st (rdS X.K X.mg T W (sPut fv fo fi)) := (h hv ho hi).imp fun D σ H ⟨w, s, m, R, S, t⟩ => by
  refine ⟨w, s, m, R, S, (SThen.ofS t S).mono fun d m1 w1 H1 t1 R1 q v hv => ?_⟩
  have S1 := S.mono t1.gr
  refine ⟨w1, s, m1, R1, S1, (SThen.ofS q S1).mono fun x m2 w2 H2 t2 R2 q u hu => ?_⟩
  have S2 := S1.mono t2.gr
  refine ⟨w2, s, m2, R2, S2, (SThen.ofS q S2).mono fun j m3 w3 H3 t3 R3 q z hz => ?_⟩
  cases e : dPutI x j d m3 with
  | none => rw [e] at q; exact q.elim
  | some m4 =>
    rw [e] at q
    exact put_ok R3 (hu.mono t3.gr) hz ((hv.mono t2.gr).mono t3.gr) e fun H' t' R' => q w3 H' σ t' R' (S2.mono t3.gr)
/-- o[i] op= e, o a list -/
theorem rs_aug {st : Stmt} {o i e : Expr} {fo fi fe : SEx} {g : D → D → Mu → Res D} {r : R2}
    (h : PE X o (rdE X.K X.mg T W fo) → PE X i (rdE X.K X.mg T W fi) → PE X e (rdE X.K X.mg T W fe) → PS X st (tAugS (rdE X.K X.mg T W fo) (rdE X.K X.mg T W fi) (rdE X.K X.mg T W fe) (rIx X.K) r rSetL)) (hr : Ru2 X T W r g)
    (ho : PE X o (rdE X.K X.mg T W fo)) (hi : PE X i (rdE X.K X.mg T W fi)) (he : PE X e (rdE X.K X.mg T W fe)) : PS X st (rdS X.K X.mg T W (sAug g fo fi fe)) := (h ho hi he).imp fun D σ H ⟨w, s, m, R, S, t⟩ => by
  refine ⟨w, s, m, R, S, (SThen.ofS t S).mono fun x m1 w1 H1 t1 R1 q u hu => ?_⟩
  have S1 := S.mono t1.gr
  refine ⟨w1, s, m1, R1, S1, (SThen.ofS q S1).mono fun j m2 w2 H2 t2 R2 q z hz => ?_⟩
  have S2 := S1.mono t2.gr
  have hu2 := hu.mono t2.gr
  refine ru_ix w2 m2 H2 σ x j u z _ R2 hu2 hz ((SThen.ofS q S2).mono fun a m3 w3 H3 t3 R3 q va hva => ?_)
  have S3 := S2.mono t3.gr
  refine ⟨w3, s, m3, R3, S3, (SThen.ofS q S3).mono fun b m4 w4 H4 t4 R4 q vb hvb => ?_⟩
  have S4 := S3.mono t4.gr
  refine hr w4 m4 H4 σ a b va vb _ R4 (hva.mono t4.gr) hvb ((SThen.ofS q S4).mono fun c m5 w5 H5 t5 R5 q vc hvc => ?_)
  have g5 : Gr w2 w5 := (t3.gr.trans t4.gr).trans t5.gr
  cases e : dPutI x j c m5 with
  | none => rw [e] at q; exact q.elim
  | some m6 =>
    rw [e] at q
    exact put_ok R5 (hu2.mono g5) (hz.mono g5) hvc e fun H' t' R' => q w5 H' σ t' R' (S2.mono g5)
theorem rs_augN {st : Stmt} {e : Expr} {fe : SEx} {k : Nat} {g : D → D → Mu → Res D} {r : R2} (h : PE X e (rdE X.K X.mg T W fe) → PS X st (tAug k (rdE X.K X.mg T W fe) r)) (hr : Ru2 X T W r g) (he : PE X e (rdE X.K X.mg T W fe)) : PS X st (rdS X.K X.mg T W (sAugN g k fe)) := (h he).imp fun D σ H ⟨w, s, m, R, S, t⟩ => by
  unfold sAugN at t
  cases e1 : s[k]? with
  | none => unfold sVar at t; rw [e1] at t; exact t.elim
  | some o =>
    cases o with
    | none => unfold sVar at t; rw [e1] at t; exact t.elim
    | some a =>
      obtain ⟨v, e2, hv⟩ := S.2 k a e1
      have ev : sVar k s m = .ok a m := by unfold sVar; rw [e1]
      rw [ev] at t
      refine ⟨v, e2, w, s, m, R, S, (SThen.ofS (r := fe s m) t S).mono fun b m1 w1 H1 t1 R1 q u hu => ?_⟩
      have S1 := S.mono t1.gr
      refine hr w1 m1 H1 σ a b v u _ R1 (hv.mono t1.gr) hu ((SThen.ofS q S1).mono fun c m2 w2 H2 t2 R2 q z hz => ?_)
      exact q w2 H2 _ (Tr.refl _ _ _) R2 ((S1.mono t2.gr).set k hz)
/-! methods -/
theorem tyL_of {w : Wd} {m : Mu} {H : Hp} {x : D} {u : V} (R : Rel X.K T w m H) (hu : Dat X.K w u x) (e : isL m x = true) : tyV X.K "list" u H := by
  unfold isL at e
  split at e
  · rename_i ds e1
    obtain ⟨a, vs, rfl, r, hq⟩ := seq_at R hu e1
    rcases hq with ⟨_, hq⟩ | ⟨z, _⟩
    · exact .inl ⟨rfl, vs, hq⟩
    · cases z
  · cases e
/-- o.m(e), o a list -/
theorem re_m1 {o e : Expr} {fo fe : SEx} {ex : Expr} {r : V → List V → Hp → VK → Prop} {g : D → D → Mu → Res D} (h : PE X o (rdE X.K X.mg T W fo) → PA X [e] (rdA X.K X.mg T W (aCons fe aNil)) → PE X ex (tBM X.K "list" r (rdE X.K X.mg T W fo) (rdA X.K X.mg T W (aCons fe aNil))))
    (hr : Ru2 X T W (fun x y H Q => r x [y] H Q) g) (ho : PE X o (rdE X.K X.mg T W fo)) (he : PE X e (rdE X.K X.mg T W fe)) (hs : starEach [e] X.env = (false, eval e X.env) :: starEach [] X.env := by rfl) : PE X ex (rdE X.K X.mg T W (sM1 g fo fe)) := (h ho (ra_cons he ra_nil hs)).imp fun σ H Q ⟨w, s, m, R, S, t⟩ => by
  refine ⟨w, s, m, R, S, (Then.bind t).mono fun x m1 w1 H1 t1 R1 t u hu => ?_⟩
  have S1 := S.mono t1.gr
  split at t
  · rename_i hl
    refine ⟨tyL_of R1 hu hl, w1, s, m1, R1, S1, ?_⟩
    unfold aCons aNil
    revert t
    cases fe s m1 with
    | ok y m2 =>
      intro t w2 H2 t2 R2 vs hv
      cases hv with
      | cons hy hv => cases hv; exact hr w2 m2 H2 σ x y u _ Q R2 (hu.mono t2.gr) hy (Then.from_ t t2)
    | exc z m2 => exact fun t => t
    | stuck => exact fun t => t
  · exact t.elim
/-- o.m(), o a list -/
theorem re_m0 {o : Expr} {fo : SEx} {ex : Expr} {r : V → List V → Hp → VK → Prop} {g : D → Mu → Res D} (h : PE X o (rdE X.K X.mg T W fo) → PE X ex (tBM0 X.K "list" r (rdE X.K X.mg T W fo)))
    (hr : ∀ (w : Wd) (m : Mu) (H : Hp) (σ : L2.St) (x : D) (u : V) (Q : VK), Rel X.K T w m H → Dat X.K w u x → Then X.K X.mg T W w m H σ (g x m) (fun d _ w' H' => ∀ v, Dat X.K w' v d → Q v H') → r u [] H Q) (ho : PE X o (rdE X.K X.mg T W fo)) : PE X ex (rdE X.K X.mg T W (sM0 g fo)) := (h ho).imp fun σ H Q ⟨w, s, m, R, S, t⟩ => by
  refine ⟨w, s, m, R, S, (Then.bind t).mono fun x m1 w1 H1 t1 R1 t u hu => ?_⟩
  split at t
  · rename_i hl
    exact ⟨tyL_of R1 hu hl, hr w1 m1 H1 σ x u Q R1 hu t⟩
  · exact t.elim
theorem ru_app : Ru2 X T W (fun x y H Q => rAppend x [y] H Q) dApp := fun w m H σ x y u v Q R hu hv t => by
  unfold dApp at t
  split at t
  · rename_i k ds e
    split at t
    · rename_i hl
      obtain ⟨a, vs, rfl, rfl, f1, f2, r, hH⟩ := h_at R hu e
      obtain ⟨R3, t3⟩ := write_at R f1 f2 (r.append (.cons hv .nil))
      exact ⟨a, vs, v, rfl, rfl, hH, by rw [r.length, sizeLine_eq]; omega, t _ _ t3 R3 _ .non⟩
    · exact t.elim
  · exact t.elim
theorem ru_pop : ∀ (w : Wd) (m : Mu) (H : Hp) (σ : L2.St) (x : D) (u : V) (Q : VK), Rel X.K T w m H → Dat X.K w u x → Then X.K X.mg T W w m H σ (dPop x m) (fun d _ w' H' => ∀ v, Dat X.K w' v d → Q v H') → rPop u [] H Q := fun w m H σ x u Q R hu t => by
  unfold dPop at t
  split at t
  · rename_i k ds e
    obtain ⟨a, vs, rfl, rfl, f1, f2, r, hH⟩ := h_at R hu e
    split at t
    · rename_i d e1
      obtain ⟨v, e2, hd⟩ := r.get e1
      obtain ⟨R3, t3⟩ := write_at R f1 f2 r.dropLast
      exact ⟨a, vs, v, rfl, rfl, hH, by rw [r.length]; exact e2, t _ _ t3 R3 _ hd⟩
    · exact t.elim
  · exact t.elim
/-! built-in functions -/
theorem re_b {es : List Expr} {ex : Expr} {a : SAr} {r : List V → Hp → VK → Prop} {g : List D → Mu → Res D} (h : PA X es (rdA X.K X.mg T W a) → PE X ex (tCB r (rdA X.K X.mg T W a)))
    (hr : ∀ (w : Wd) (m : Mu) (H : Hp) (σ : L2.St) (xs : List D) (us : List V) (Q : VK), Rel X.K T w m H → DatL X.K w us xs → Then X.K X.mg T W w m H σ (g xs m) (fun d _ w' H' => ∀ v, Dat X.K w' v d → Q v H') → r us H Q) (ha : PA X es (rdA X.K X.mg T W a)) : PE X ex (rdE X.K X.mg T W (sB g a)) := re_args (r := r) h ha hr
abbrev RuB (X : Cx) (T : Tb) (W : WX) (r : List V → Hp → VK → Prop) (g : List D → Mu → Res D) : Prop := ∀ (w : Wd) (m : Mu) (H : Hp) (σ : L2.St) (xs : List D) (us : List V) (Q : VK), Rel X.K T w m H → DatL X.K w us xs → Then X.K X.mg T W w m H σ (g xs m) (fun d _ w' H' => ∀ v, Dat X.K w' v d → Q v H') → r us H Q
def rLen (K : PySem.W.Frag) : List V → Hp → VK → Prop := fun xs H Q => ∃ p ys, xs = [.ref p] ∧ (SqL K H p ys ∨ SqT K H p ys) ∧ Q (.int ys.length) H
theorem ru_len : RuB X T W (rLen X.K) dLen := fun w m H σ xs us Q R hu t => by
  unfold dLen at t
  split at t
  · split at t
    · rename_i b ds e
      cases hu with
      | cons h1 hu =>
        cases hu
        obtain ⟨a, vs, rfl, r, hq⟩ := seq_at R h1 e
        refine ⟨a, vs, rfl, ?_, by rw [r.length]; exact t.now R _ (.int _)⟩
        rcases hq with ⟨_, hq⟩ | ⟨_, hq⟩
        · exact .inl hq
        · exact .inr hq
    · exact t.elim
  · exact t.elim
theorem ints_at {K : PySem.W.Frag} {w : Wd} : ∀ {vs ds} {l : List Int}, DatL K w vs ds → intsOf ds = some l → vs = l.map V.int ∧ ds = l.map D.int
  | _, _, _, .nil, e => by cases e; exact ⟨rfl, rfl⟩
  | _, _, l, .cons (d := d) h r, e => by
    cases d with
    | int i =>
      unfold intsOf at e
      obtain ⟨l', e1, e2⟩ := Option.map_eq_some_iff.mp e
      subst e2
      cases h
      obtain ⟨a, b⟩ := ints_at r e1
      exact ⟨by rw [a]; rfl, by rw [b]; rfl⟩
    | _ => cases e
theorem bls_at {K : PySem.W.Frag} {w : Wd} : ∀ {vs ds} {l : List Bool}, DatL K w vs ds → blsOf ds = some l → vs = l.map V.bl ∧ ds = l.map D.bl
  | _, _, _, .nil, e => by cases e; exact ⟨rfl, rfl⟩
  | _, _, l, .cons (d := d) h r, e => by
    cases d with
    | bl i =>
      unfold blsOf at e
      obtain ⟨l', e1, e2⟩ := Option.map_eq_some_iff.mp e
      subst e2
      cases h
      obtain ⟨a, b⟩ := bls_at r e1
      exact ⟨by rw [a]; rfl, by rw [b]; rfl⟩
    | _ => cases e
theorem ru_sum : RuB X T W (rSum X.K) dSum := fun w m H σ xs us Q R hu t => by
  unfold dSum at t
  split at t
  · split at t
    · rename_i ds e
      split at t
      · rename_i l e1
        cases hu with
        | cons h1 hu =>
          cases hu
          obtain ⟨a, vs, rfl, r, hq⟩ := seq_at R h1 e
          obtain ⟨e2, _⟩ := ints_at r e1
          rcases hq with ⟨_, hq⟩ | ⟨z, _⟩
          · exact ⟨a, l, rfl, by rw [← e2]; exact hq, t.now R _ (.int _)⟩
          · cases z
      · exact t.elim
    · exact t.elim
  · exact t.elim
theorem ru_all : RuB X T W (rAll X.K) dAll := fun w m H σ xs us Q R hu t => by
  unfold dAll at t
  split at t
  · split at t
    · rename_i ds e
      split at t
      · rename_i l e1
        cases hu with
        | cons h1 hu =>
          cases hu
          obtain ⟨a, vs, rfl, r, hq⟩ := seq_at R h1 e
          obtain ⟨e2, _⟩ := bls_at r e1
          rcases hq with ⟨_, hq⟩ | ⟨z, _⟩
          · exact ⟨a, l, rfl, by rw [← e2]; exact hq, t.now R _ (.bl _)⟩
          · cases z
      · exact t.elim
    · exact t.elim
  · exact t.elim
def rListOf (K : PySem.W.Frag) : List V → Hp → VK → Prop := fun xs H Q => ∃ p ys, xs = [.ref p] ∧ (SqL K H p ys ∨ SqT K H p ys) ∧ ∀ l, H l = none → Q (.ref l) (upd H l (.lst ys))
theorem ru_list : RuB X T W (rListOf X.K) dList := fun w m H σ xs us Q R hu t => by
  unfold dList at t
  split at t
  · split at t
    · rename_i b ds e
      cases hu with
      | cons h1 hu =>
        cases hu
        obtain ⟨a, vs, rfl, r, hq⟩ := seq_at R h1 e
        refine ⟨a, vs, rfl, ?_, fun p hp => fin_frozen R t hp fun w' g e3 => .lst e3 (r.mono g)⟩
        rcases hq with ⟨_, hq⟩ | ⟨_, hq⟩
        · exact .inl hq
        · exact .inr hq
    · exact t.elim
  · exact t.elim
theorem ru_listN : RuB X T W (rListOf X.K) dListN := fun w m H σ xs us Q R hu t => by
  unfold dListN at t
  split at t
  · split at t
    · rename_i b ds e
      cases hu with
      | cons h1 hu =>
        cases hu
        obtain ⟨a, vs, rfl, r, hq⟩ := seq_at R h1 e
        refine ⟨a, vs, rfl, ?_, fun p hp => fin_new R t r hp⟩
        rcases hq with ⟨_, hq⟩ | ⟨_, hq⟩
        · exact .inl hq
        · exact .inr hq
    · exact t.elim
  · exact t.elim
def rTupleOf (K : PySem.W.Frag) : List V → Hp → VK → Prop := fun xs H Q => ∃ p ys, xs = [.ref p] ∧ ((SqL K H p ys ∧ ∀ l, H l = none → Q (.ref l) (upd H l (.tup ys))) ∨ (SqT K H p ys ∧ Q (.ref p) H))
theorem ru_tuple : RuB X T W (rTupleOf X.K) dTuple := fun w m H σ xs us Q R hu t => by
  unfold dTuple at t
  split at t
  · rename_i x
    cases hu with
    | cons h1 hu =>
      cases hu
      split at t
      · rename_i ds e
        obtain ⟨a, vs, rfl, r, hq⟩ := seq_at R h1 e
        rcases hq with ⟨_, hq⟩ | ⟨z, _⟩
        · exact ⟨a, vs, rfl, .inl ⟨hq, fun p hp => fin_frozen R t hp fun w' g e3 => .tup e3 (r.mono g)⟩⟩
        · cases z
      · rename_i ds e
        obtain ⟨a, vs, rfl, r, hq⟩ := seq_at R h1 e
        rcases hq with ⟨z, _⟩ | ⟨_, hq⟩
        · cases z
        · exact ⟨a, vs, rfl, .inr ⟨hq, t.now R _ h1⟩⟩
      · exact t.elim
  · exact t.elim
/-- a list that never changes from now on; nothing happens in the program -/
theorem re_frz {e : Expr} {f : SEx} (h : PE X e (rdE X.K X.mg T W f)) : PE X e (rdE X.K X.mg T W (sFrz f)) := h.imp fun σ H Q ⟨w, s, m, R, S, t⟩ => by
  refine ⟨w, s, m, R, S, (Then.bind t).mono fun x m1 w1 H1 t1 R1 t u hu => ?_⟩
  unfold dFrz at t
  split at t
  · rename_i k ds e
    obtain ⟨a, vs, rfl, rfl, f1, f2, r, hH⟩ := h_at R1 hu e
    obtain ⟨w2, R2, t2, hd⟩ := R1.freeze f1 f2
    exact t _ _ t2 R2 _ hd
  · exact t.elim
end
end Rx
set_option Elab.async false
set_option linter.all false
set_option maxRecDepth 100000
set_option maxHeartbeats 1000000
namespace Rx
open PySem PySem.Spec PyProof.Rows L2

/-! ### dicts with tuple keys -/
def keyOf : D → Option Key
  | .int i => some (.inl i)
  | .str x => some (.inr x)
  | _ => none
def keysOf : List D → Option (List Key)
  | [] => some []
  | d :: ds => (keyOf d).bind fun k => (keysOf ds).map fun ks => k :: ks
/-- a tuple as a key -/
def tkeyOf : D → Option (List Key)
  | .tup ds => keysOf ds
  | _ => none
def valD (kvs : List (List Key × D)) (k : List Key) : Option D := (kvs.find? fun kv => decide (kv.1 = k)).map (·.2)
def putD (kvs : List (List Key × D)) (k : List Key) (v : D) : List (List Key × D) :=
  if (kvs.any fun kv => decide (kv.1 = k)) = true then kvs.map (fun kv => if kv.1 = k then (kv.1, v) else kv) else kvs ++ [(k, v)]
def dicOf (m : Mu) : D → Option (Nat × List (List Key × D))
  | .ref k => match m[k]? with
    | some (.dic kvs) => some (k, kvs)
    | _ => none
  | _ => none
def sDic : SEx := fun _ m => .ok (.ref m.length) (m ++ [.dic []])
def dDin (y x : D) (m : Mu) : Res D := match dicOf m x, tkeyOf y with
  | some (_, kvs), some k => .ok (.bl (valD kvs k).isSome) m
  | _, _ => .stuck
def dDnotin (y x : D) (m : Mu) : Res D := match dicOf m x, tkeyOf y with
  | some (_, kvs), some k => .ok (.bl (!(valD kvs k).isSome)) m
  | _, _ => .stuck
def dDget (x y : D) (m : Mu) : Res D := match dicOf m x, tkeyOf y with
  | some (_, kvs), some k => (match valD kvs k with
    | some d => .ok d m
    | none => .stuck)
  | _, _ => .stuck
def dDput (x y v : D) (m : Mu) : Option Mu := match dicOf m x, tkeyOf y with
  | some (i, kvs), some k => if kvs.length ≤ 1000000 then some (m.set i (.dic (putD kvs k v))) else none
  | _, _ => none
def sDput (v o i : SEx) : SSt := fun s m => (v s m).toS s fun v m => (o s m).toS s fun x m => (i s m).toS s fun j m => match dDput x j v m with
  | some m' => .nx s m'
  | none => .stuck
section
variable {K : PySem.W.Frag} {T : Tb} {w w' : Wd} {m : Mu} {H : Hp}
theorem key_at {u : V} {d : D} {k : Key} (h : Dat K w u d) (e : keyOf d = some k) : u = kV k := by
  cases h <;> (try cases e) <;> rfl
theorem keys_at : ∀ {vs ds} {ks : List Key}, DatL K w vs ds → keysOf ds = some ks → vs = ks.map kV
  | _, _, ks, .nil, e => by cases e; rfl
  | _, _, ks, .cons (v := v) h r, e => by
    unfold keysOf at e
    obtain ⟨k, e1, e2⟩ := Option.bind_eq_some_iff.mp e
    obtain ⟨ks', e3, e4⟩ := Option.map_eq_some_iff.mp e2
    subst e4
    rw [List.map_cons, ← keys_at r e3, ← key_at h e1]
theorem tkey_at (s : Same w.g H) {u : V} {d : D} {k : List Key} (h : Dat K w u d) (e : tkeyOf d = some k) : ∃ b, u = .ref b ∧ H b = some (.tup (k.map kV)) := by
  cases h with
  | tup hq r => exact ⟨_, rfl, by rw [← keys_at r e]; exact s _ _ hq⟩
  | _ => cases e
theorem dic_at (R : Rel K T w m H) {v : V} {d : D} (h : Dat K w v d) {k : Nat} {kvs : List (List Key × D)} (e : dicOf m d = some (k, kvs)) : ∃ a vs, v = .ref a ∧ m[k]? = some (.dic kvs) ∧ w.r[k]? = some a ∧ KvL K w vs kvs ∧ H a = some (.dT vs) := by
  cases h with
  | @ref a k' hk =>
    unfold dicOf at e
    simp only at e
    split at e
    · rename_i ds' e1
      cases e
      obtain ⟨q1, vs, q2, q3⟩ := R.obj k _ a e1 hk rfl
      exact ⟨a, vs, rfl, e1, hk, q3, q2⟩
    · cases e
  | _ => cases e
theorem KvL.val : ∀ {vs kvs} (k : List Key), KvL K w vs kvs → ((valV vs k).isSome = (valD kvs k).isSome) ∧ ∀ d, valD kvs k = some d → ∃ v, valV vs k = some v ∧ Dat K w v d
  | _, _, k, .nil => ⟨rfl, fun d e => by cases e⟩
  | _, _, k, .cons (k := j) (v := v) (d := d) (vs := vs) (ds := ds) h r => by
    obtain ⟨i1, i2⟩ := KvL.val k r
    by_cases e : j = k
    · rw [valV_pos (p := (j, v)) e]
      have e2 : valD ((j, d) :: ds) k = some d := by unfold valD; simp [List.find?_cons, e]
      rw [e2]
      exact ⟨rfl, fun d' e3 => by cases e3; exact ⟨v, rfl, h⟩⟩
    · rw [valV_neg (p := (j, v)) e]
      have e2 : valD ((j, d) :: ds) k = valD ds k := by unfold valD; simp [List.find?_cons, e]
      rw [e2]
      exact ⟨i1, i2⟩
theorem KvL.any : ∀ {vs kvs} (k : List Key), KvL K w vs kvs → (vs.any fun kv => decide (kv.1 = k)) = (kvs.any fun kv => decide (kv.1 = k))
  | _, _, k, .nil => rfl
  | _, _, k, .cons h r => by rw [List.any_cons, List.any_cons, KvL.any k r]
theorem KvL.map : ∀ {vs kvs} {v : V} {d : D} (k : List Key), Dat K w v d → KvL K w vs kvs → KvL K w (vs.map fun kv => if kv.1 = k then (kv.1, v) else kv) (kvs.map fun kv => if kv.1 = k then (kv.1, d) else kv)
  | _, _, _, _, k, _, .nil => .nil
  | _, _, v, d, k, hd, .cons (k := j) h r => by
    rw [List.map_cons, List.map_cons]
    by_cases e : j = k
    · simp only [if_pos e]; exact .cons hd (KvL.map k hd r)
    · simp only [if_neg e]; exact .cons h (KvL.map k hd r)
theorem KvL.snoc : ∀ {vs kvs} {v : V} {d : D} (k : List Key), Dat K w v d → KvL K w vs kvs → KvL K w (vs ++ [(k, v)]) (kvs ++ [(k, d)])
  | _, _, _, _, k, hd, .nil => .cons hd .nil
  | _, _, v, d, k, hd, .cons (k := j) h r => .cons h (KvL.snoc k hd r)
theorem KvL.put {vs kvs} {v : V} {d : D} (k : List Key) (hd : Dat K w v d) (r : KvL K w vs kvs) : KvL K w (putK vs k v) (putD kvs k d) := by
  unfold putK putD
  rw [r.any k]
  split
  · exact r.map k hd
  · exact r.snoc k hd
theorem KvL.length : ∀ {vs kvs}, KvL K w vs kvs → vs.length = kvs.length
  | _, _, .nil => rfl
  | _, _, .cons h r => by rw [List.length_cons, List.length_cons, r.length]
end
section
variable {X : Cx} {T : Tb} {W : WX} {pos : Pos}
theorem re_dic : PE X (.Dict [] [] pos) (rdE X.K X.mg T W sDic) := pe_dnewT.imp fun σ H Q ⟨w, s, m, R, S, t⟩ p hp => by
  obtain ⟨R1, t1⟩ := R.fresh (u := .dic []) (o := .dT []) hp rfl fun w' g => ⟨[], upd_same, .nil⟩
  exact t _ _ t1 R1 _ (.ref (by show (w.r ++ [p])[m.length]? = some p; rw [← R.len]; simp))
theorem two_help {f1 f2 : SEx} {g : D → D → Mu → Res D} {P : V → V → Hp → VK → Prop} (hr : Ru2 X T W P g) (σ : L2.St) (H : Hp) (Q : VK) (h : rdE X.K X.mg T W (s2 g f1 f2) σ H Q) :
    rdE X.K X.mg T W f1 σ H fun x H1 => rdE X.K X.mg T W f2 σ H1 fun y H2 => P x y H2 Q := by
  obtain ⟨w, s, m, R, S, t⟩ := h
  refine ⟨w, s, m, R, S, (Then.bind t).mono fun x m1 w1 H1 t1 R1 t u hu => ?_⟩
  refine ⟨w1, s, m1, R1, S.mono t1.gr, (Then.bind t).mono fun y m2 w2 H2 t2 R2 t v hv => ?_⟩
  exact hr w2 m2 H2 σ x y u v Q R2 (hu.mono t2.gr) hv t
theorem ru_din : Ru2 X T W (fun y x H Q => ∃ a o, x = .ref a ∧ DGet H a y o ∧ Q (.bl o.isSome) H) dDin := fun w m H σ y x u v Q R hu hv t => by
  unfold dDin at t
  split at t
  · rename_i i kvs k e1 e2
    obtain ⟨a, vs, rfl, f1, f2, r, hH⟩ := dic_at R hv e1
    obtain ⟨b, rfl, hb⟩ := tkey_at R.sub hu e2
    refine ⟨a, _, rfl, .t hH hb, ?_⟩
    rw [(r.val k).1]
    exact t.now R _ (.bl _)
  · exact t.elim
theorem ru_dnotin : Ru2 X T W (fun y x H Q => ∃ a o, x = .ref a ∧ DGet H a y o ∧ Q (.bl (!o.isSome)) H) dDnotin := fun w m H σ y x u v Q R hu hv t => by
  unfold dDnotin at t
  split at t
  · rename_i i kvs k e1 e2
    obtain ⟨a, vs, rfl, f1, f2, r, hH⟩ := dic_at R hv e1
    obtain ⟨b, rfl, hb⟩ := tkey_at R.sub hu e2
    refine ⟨a, _, rfl, .t hH hb, ?_⟩
    rw [(r.val k).1]
    exact t.now R _ (.bl _)
  · exact t.elim
theorem ru_dget : Ru2 X T W (fun x y H Q => ∃ a v, x = .ref a ∧ DGet H a y (some v) ∧ Q v H) dDget := fun w m H σ x y u v Q R hu hv t => by
  unfold dDget at t
  split at t
  · rename_i i kvs k e1 e2
    split at t
    · rename_i d e3
      obtain ⟨a, vs, rfl, f1, f2, r, hH⟩ := dic_at R hu e1
      obtain ⟨b, rfl, hb⟩ := tkey_at R.sub hv e2
      obtain ⟨z, e4, hz⟩ := (r.val k).2 d e3
      exact ⟨a, z, rfl, by rw [← e4]; exact .t hH hb, t.now R _ hz⟩
    · exact t.elim
  · exact t.elim
theorem re_din {a b : Expr} {f1 f2 : SEx} (hu : X.A.units + 1 < cLine) (ha : PE X a (rdE X.K X.mg T W f1)) (hb : PE X b (rdE X.K X.mg T W f2)) (hm : behindInMarks .In b = false) : PE X (.Compare a [.In] [b] pos) (rdE X.K X.mg T W (s2 dDin f1 f2)) := (pe_cmp (pc_din hu ha hb) hm).imp fun σ H Q h => two_help ru_din σ H Q h
theorem re_dnotin {a b : Expr} {f1 f2 : SEx} (hu : X.A.units + 1 < cLine) (ha : PE X a (rdE X.K X.mg T W f1)) (hb : PE X b (rdE X.K X.mg T W f2)) (hm : behindInMarks .NotIn b = false) : PE X (.Compare a [.NotIn] [b] pos) (rdE X.K X.mg T W (s2 dDnotin f1 f2)) := (pe_cmp (pc_dnotin hu ha hb) hm).imp fun σ H Q h => two_help ru_dnotin σ H Q h
theorem rt_din {a b : Expr} {f1 f2 : SEx} (hu : X.A.units + 1 < cLine) (ha : PE X a (rdE X.K X.mg T W f1)) (hb : PE X b (rdE X.K X.mg T W f2)) (hm : behindInMarks .In b = false) : PT X (.Compare a [.In] [b] pos) (rdB X.K X.mg T W (sTst (s2 dDin f1 f2))) := by
  have h : PT X (.Compare a [.In] [b] pos) (tTest (tDIn (rdE X.K X.mg T W f1) (rdE X.K X.mg T W f2))) := pt_cmp (pc_din hu ha hb) hm
  exact rt_of h fun σ H Q h => two_help ru_din σ H Q h
theorem rt_dnotin {a b : Expr} {f1 f2 : SEx} (hu : X.A.units + 1 < cLine) (ha : PE X a (rdE X.K X.mg T W f1)) (hb : PE X b (rdE X.K X.mg T W f2)) (hm : behindInMarks .NotIn b = false) : PT X (.Compare a [.NotIn] [b] pos) (rdB X.K X.mg T W (sTst (s2 dDnotin f1 f2))) := by
  have h : PT X (.Compare a [.NotIn] [b] pos) (tTest (tDNotIn (rdE X.K X.mg T W f1) (rdE X.K X.mg T W f2))) := pt_cmp (pc_dnotin hu ha hb) hm
  exact rt_of h fun σ H Q h => two_help ru_dnotin σ H Q h
theorem re_dget {a b : Expr} {f1 f2 : SEx} (hu : X.A.units + 1 < cLine) (ha : PE X a (rdE X.K X.mg T W f1)) (hb : PE X b (rdE X.K X.mg T W f2)) (hs : NoSl b) : PE X (.Subscript a b pos) (rdE X.K X.mg T W (s2 dDget f1 f2)) := (pe_dget hu ha hb hs).imp fun σ H Q h => two_help ru_dget σ H Q h
theorem rs_dput {v o i : Expr} {fv fo fi : SEx} {pos' : Pos} (hu : X.A.units + 1 < cLine) (hv : PE X v (rdE X.K X.mg T W fv)) (ho : PE X o (rdE X.K X.mg T W fo)) (hi : PE X i (rdE X.K X.mg T W fi)) (hs : swapsWith v (some (.Subscript o i pos')) pos.line X.env = pure false := by rfl) : PS X (.Assign [.Subscript o i pos'] v pos) (rdS X.K X.mg T W (sDput fv fo fi)) := (ps_dput hu ho hi hv hs).imp fun D σ H ⟨w, s, m, R, S, t⟩ => by
  refine ⟨w, s, m, R, S, (SThen.ofS t S).mono fun d m1 w1 H1 t1 R1 q v hv => ?_⟩
  have S1 := S.mono t1.gr
  refine ⟨w1, s, m1, R1, S1, (SThen.ofS q S1).mono fun x m2 w2 H2 t2 R2 q u hu => ?_⟩
  have S2 := S1.mono t2.gr
  refine ⟨w2, s, m2, R2, S2, (SThen.ofS q S2).mono fun j m3 w3 H3 t3 R3 q z hz => ?_⟩
  cases e : dDput x j d m3 with
  | none => rw [e] at q; exact q.elim
  | some m4 =>
    rw [e] at q
    unfold dDput at e
    split at e
    · rename_i i kvs k e1 e2
      split at e
      · rename_i hl
        cases e
        obtain ⟨a, vs, rfl, f1, f2, r, hH⟩ := dic_at R3 (hu.mono t3.gr) e1
        obtain ⟨b, rfl, hb⟩ := tkey_at R3.sub hz e2
        have hd := (hv.mono t2.gr).mono t3.gr
        obtain ⟨R4, t4⟩ := R3.write (u := .dic (putD kvs k d)) (o := .dT (putK vs k v)) f1 f2 rfl rfl ⟨_, upd_same, r.put k hd⟩
        exact ⟨a, _, rfl, .t hH hb (by rw [r.length, sizeLine_eq]; omega), q w3 _ σ t4 R4 (S2.mono t3.gr)⟩
      · cases e
    · cases e
/-! ### raise of own classes -/
/-- X(..), no field -/
def sRaise0 (cls : Str) (a : SAr) : SSt := fun s m => (a s m).toS s fun ds m => if ds.length ≤ 1000 then .exc ⟨cls, []⟩ s m else .stuck
/-- X(e), one field -/
def sRaise1 (cls f : Str) (a : SAr) : SSt := fun s m => (a s m).toS s fun ds m => match ds with
  | [.int i] => if i.natAbs.log2 < 1920 then .exc ⟨cls, [(f, .int i)]⟩ s m else .stuck
  | _ => .stuck
theorem rs_raise0 {x : Str} {C : Addr} {e ex : Expr} {es : List Expr} {a : SAr} (hc : X.calm = true) (tk : Takes X W) (hm : X.mg x = some (.ref C)) (h : PA X (e :: es) (rdA X.K X.mg T W a) → PMk X ex (fun σ H Q => rdA X.K X.mg T W a σ H fun vs H1 => vs.length ≤ sizeLine ∧ Q (.ref C) none H1)) (ha : PA X (e :: es) (rdA X.K X.mg T W a)) :
    PS X (.Raise (some ex) none pos) (rdS X.K X.mg T W (sRaise0 x a)) := (ps_raise hc tk (h ha)).imp fun D σ H ⟨w, s, m, R, S, t⟩ => by
  refine ⟨w, s, m, R, S, (SThen.ofS t S).mono fun ds m1 w1 H1 t1 R1 q vs hv => ?_⟩
  split at q
  · rename_i hl
    exact ⟨by rw [hv.length]; exact line1000 hl, q w1 H1 σ _ _ (Tr.refl _ _ _) R1 (S.mono t1.gr) ⟨⟨C, hm, rfl⟩, .inl ⟨rfl, rfl⟩⟩⟩
  · exact q.elim
/-- what an __init__ promises that stores its one argument -/
def spInit (K : PySem.W.Frag) (f : Str) : Sp := fun vs H Q E => ∃ (a C : Addr) (i : Int), vs = [.ref a, .int i] ∧ i.natAbs.log2 < 1920 ∧ OexC K C ∧ PySem.W.findIn K (.ref C) f = some none ∧ H a = some (exo a C none) ∧
  ∀ dx, H dx = none → dx ≠ a → Q .non (upd (upd H dx (exd dx [(f, .int i)])) a (exo a C (some dx)))
theorem Rel.grown {K : PySem.W.Frag} {T} {w : Wd} {m : Mu} {H H' : Hp} (R : Rel K T w m H) (s : Same H H') : Rel K T w m H' :=
  ⟨R.sub.trans s, R.len, fun k o a e1 e2 e3 => ⟨(R.obj k o a e1 e2 e3).1, (R.obj k o a e1 e2 e3).2.same (Gr.refl w) fun u hu _ => s _ _ hu⟩, R.inj, R.tab.ext s, R.nt, R.tk⟩
theorem rs_raise1 {x f : Str} {C : Addr} {e ex : Expr} {a : SAr} (hc : X.calm = true) (tk : Takes X W) (hm : X.mg x = some (.ref C)) (TC : OexC X.K C) (hf : PySem.W.findIn X.K (.ref C) f = some none) (h : PA X [e] (rdA X.K X.mg T W a) → PMk X ex (tMkO C (spInit X.K f) [] (rdA X.K X.mg T W a))) (ha : PA X [e] (rdA X.K X.mg T W a)) :
    PS X (.Raise (some ex) none pos) (rdS X.K X.mg T W (sRaise1 x f a)) := (ps_raise hc tk (h ha)).imp fun D σ H ⟨w, s, m, R, S, t⟩ => by
  refine ⟨w, s, m, R, S, (SThen.ofS t S).mono fun ds m1 w1 H1 t1 R1 q vs hv => ?_⟩
  split at q
  · rename_i i
    split at q
    · rename_i hi
      cases hv with
      | cons h1 hv =>
        cases hv
        cases h1
        refine ⟨by show 1 ≤ 1000; decide, fun a na => ⟨a, C, i, rfl, hi, TC, hf, upd_same, fun dx nd ne => ?_⟩⟩
        rw [upd_ne ne] at nd
        refine ⟨rfl, dx, [(f, .int i)], upd_same, by rw [upd_ne ne, upd_same], nd, ?_⟩
        have sm : Same H1 (upd (del (upd (upd (upd H1 a (exo a C none)) dx (exd dx [(f, V.int i)])) a (exo a C (some dx))) a) dx (.xd [(f, V.int i)])) := fun b o e => by
          have n1 : b ≠ dx := ne_of_none e nd
          have n2 : b ≠ a := ne_of_none e na
          rw [upd_ne n1, del_ne n2, upd_ne n2, upd_ne n1, upd_ne n2]
          exact e
        refine q w1 _ σ _ _ (Tr.grown sm) (R1.grown sm) (S.mono t1.gr) ⟨⟨C, hm, rfl⟩, .inr ⟨dx, _, rfl, upd_same, fun g d e => ?_⟩⟩
        have e' : (List.lookup g [(f, Rx.D.int i)]) = some d := e
        by_cases hg : g = f
        · subst hg
          simp [List.lookup] at e'
          subst e'
          exact ⟨_, by simp [List.lookup], .int _⟩
        · have : (g == f) = false := by simpa using hg
          simp [List.lookup, this] at e'
    · exact q.elim
  · exact q.elim
end
/-! ### isinstance -/
inductive Ty where
  | int | bool | str | tuple | list
inductive Kd where
  | non | bl | int | str | tup | lst
def Ty.nm : Ty → String
  | .int => "int" | .bool => "bool" | .str => "str" | .tuple => "tuple" | .list => "list"
def Kd.nm : Kd → String
  | .non => "NoneType" | .bl => "bool" | .int => "int" | .str => "str" | .tup => "tuple" | .lst => "list"
def isKd : Kd → Ty → Bool
  | .bl, .int => true | .bl, .bool => true | .int, .int => true | .str, .str => true | .tup, .tuple => true | .lst, .list => true
  | _, _ => false
theorem kit_kd : ∀ (k : Kd) (t : Ty), kitB k.nm t.nm = some (isKd k t) := by
  intro k t
  cases k <;> cases t <;> decide +kernel
def kdOf (m : Mu) (x : D) : Option Kd := match x with
  | .non => some .non
  | .bl _ => some .bl
  | .int _ => some .int
  | .str _ => some .str
  | x => match seqOf m x with
    | some (false, _) => some .lst
    | some (true, _) => some .tup
    | none => none
def dIsi (ts : List Ty) (x : D) (m : Mu) : Res D := match kdOf m x with
  | some k => .ok (.bl (ts.any fun t => isKd k t)) m
  | none => .stuck
theorem tyx_list {K : PySem.W.Frag} {H : Hp} {a : Addr} {vs : List V} (h : SqL K H a vs) : TyX K H (.ref a) (.type "list") := by
  rcases h with (h | ⟨o, h⟩) | ⟨o, its, n, h1, h2, _⟩
  · exact .base (.lst h)
  · exact .base (.frz h)
  · exact .kList h1 h2
theorem tyx_tup {K : PySem.W.Frag} {H : Hp} {a : Addr} {vs : List V} (h : SqT K H a vs) : TyX K H (.ref a) (.type "tuple") := by
  rcases h with (h | ⟨o, h⟩) | ⟨o, its, n, h1, h2, _⟩
  · exact .base (.tup h)
  · exact .fTuple h
  · exact .kTuple h1 h2
theorem kd_at {K : PySem.W.Frag} {T} {w : Wd} {m : Mu} {H : Hp} (R : Rel K T w m H) {u : V} {x : D} (h : Dat K w u x) {k : Kd} (e : kdOf m x = some k) : TyX K H u (.type k.nm) := by
  have sq : ∀ {b ds}, seqOf m x = some (b, ds) → (match (some (b, ds) : Option (Bool × List D)) with | some (false, _) => some Kd.lst | some (true, _) => some Kd.tup | none => none) = some k → TyX K H u (.type k.nm) := fun {b ds} e1 e2 => by
    obtain ⟨a, vs, rfl, r, hq⟩ := seq_at R h e1
    rcases hq with ⟨rfl, hq⟩ | ⟨rfl, hq⟩
    · cases e2; exact tyx_list hq
    · cases e2; exact tyx_tup hq
  cases h with
  | non => cases e; exact .base .non
  | bl b => cases e; exact .base (.bl b)
  | int i => cases e; exact .base (.int i)
  | str z => cases e; exact .base (.str z)
  | tup hq r => exact sq rfl e
  | ktup hq r => exact sq rfl e
  | lst hq r => exact sq rfl e
  | scr hq r => exact sq rfl e
  | @ref a j hj =>
    unfold kdOf at e
    dsimp only at e
    cases e1 : seqOf m (.ref j) with
    | none => rw [e1] at e; cases e
    | some p => rw [e1] at e; exact sq (b := p.1) (ds := p.2) e1 e
theorem kit_any {K : PySem.W.Frag} (k : Kd) : ∀ ts : List Ty, PySem.W.kitAny K (.type k.nm) (ts.map fun t => .type t.nm) = some (ts.any fun t => isKd k t)
  | [] => rfl
  | t :: ts => by
    have h := kit_ty (K := K) (kit_kd k t)
    rw [List.map_cons, List.any_cons]
    cases e : isKd k t with
    | true => exact kitAny_cons (h.trans (by rw [e])) (fun z => by cases z) (fun _ => by simp)
    | false => exact kitAny_cons (h.trans (by rw [e])) (fun _ => by rw [kit_any k ts]; simp) (fun z => by cases z)
section
variable {X : Cx} {T : Tb} {W : WX} {pos : Pos}
/-- isinstance(x, T) -/
theorem re_isi {t : Ty} {e ex : Expr} {f : SEx} (h : PE X e (rdE X.K X.mg T W f) → PE X ex (tCB (rIsi X.K) (tCons (rdE X.K X.mg T W f) (tCons (tC (.ty t.nm)) tNil)))) (he : PE X e (rdE X.K X.mg T W f)) : PE X ex (rdE X.K X.mg T W (s1 (dIsi [t]) f)) := (h he).imp fun σ H Q ⟨w, s, m, R, S, t0⟩ => by
  refine ⟨w, s, m, R, S, (Then.bind t0).mono fun x m1 w1 H1 t1 R1 q u hu => ?_⟩
  unfold dIsi at q
  split at q
  · rename_i k e
    refine ⟨u, .ty t.nm, _, _, isKd k t, rfl, .ty _, kd_at R1 hu e, kit_ty (kit_kd k t), ?_⟩
    have := q.now R1 _ (.bl _)
    simpa using this
  · exact q.elim
/-- isinstance(x, (T, U)) -/
theorem re_isi2 {t1 t2 : Ty} {e ex : Expr} {f : SEx} (h : PE X e (rdE X.K X.mg T W f) → PE X ex (tCB (rIsiT X.K) (tCons (rdE X.K X.mg T W f) (tCons (tTup (tCons (tC (.ty t1.nm)) (tCons (tC (.ty t2.nm)) tNil))) tNil)))) (he : PE X e (rdE X.K X.mg T W f)) : PE X ex (rdE X.K X.mg T W (s1 (dIsi [t1, t2]) f)) := (h he).imp fun σ H Q ⟨w, s, m, R, S, t0⟩ => by
  refine ⟨w, s, m, R, S, (Then.bind t0).mono fun x m1 w1 H1 tr R1 q u hu => ?_⟩
  unfold dIsi at q
  split at q
  · rename_i k e
    refine ⟨by show 2 ≤ sizeLine; decide, fun p hp => ?_⟩
    obtain ⟨R2, t2'⟩ := R1.frozen (o := .tup [.ty t1.nm, .ty t2.nm]) hp
    exact ⟨u, p, _, _, [.type t1.nm, .type t2.nm], _, rfl, upd_same, .cons (.ty _) (.cons (.ty _) .nil), kd_at R2 (hu.mono t2'.gr) e, kit_any k [t1, t2], q _ _ t2' R2 _ (.bl _)⟩
  · exact q.elim
/-! ### more built-in functions -/
theorem ru_abs : RuB X T W (fun xs H Q => ∃ i, xs = [.int i] ∧ Q (.int (if i < 0 then -i else i)) H) dAbs := fun w m H σ xs us Q R hu t => by
  unfold dAbs at t
  split at t
  · rename_i i
    cases hu with
    | cons h1 hu =>
      cases hu; cases h1
      refine ⟨i, rfl, ?_⟩
      have e : (if i < 0 then -i else i) = (i.natAbs : Int) := by split <;> omega
      rw [e]
      exact t.now R _ (.int _)
  · exact t.elim
def dMax2 (xs : List D) (m : Mu) : Res D := match xs with
  | [.int i, .int j] => .ok (.int (if j > i then j else i)) m
  | _ => .stuck
def dMin2 (xs : List D) (m : Mu) : Res D := match xs with
  | [.int i, .int j] => .ok (.int (if j < i then j else i)) m
  | _ => .stuck
def dInt (xs : List D) (m : Mu) : Res D := match xs with
  | [.int i] => .ok (.int i) m
  | [.bl k] => .ok (.int (if k then 1 else 0)) m
  | _ => .stuck
theorem ru_max2 : RuB X T W (fun xs H Q => ∃ i j, xs = [.int i, .int j] ∧ Q (.int (if j > i then j else i)) H) dMax2 := fun w m H σ xs us Q R hu t => by
  unfold dMax2 at t
  split at t
  · cases hu with
    | cons h1 hu => cases hu with
      | cons h2 hu => cases hu; cases h1; cases h2; exact ⟨_, _, rfl, t.now R _ (.int _)⟩
  · exact t.elim
theorem ru_min2 : RuB X T W (fun xs H Q => ∃ i j, xs = [.int i, .int j] ∧ Q (.int (if j < i then j else i)) H) dMin2 := fun w m H σ xs us Q R hu t => by
  unfold dMin2 at t
  split at t
  · cases hu with
    | cons h1 hu => cases hu with
      | cons h2 hu => cases hu; cases h1; cases h2; exact ⟨_, _, rfl, t.now R _ (.int _)⟩
  · exact t.elim
theorem ru_int : RuB X T W (fun xs H Q => (∃ i, xs = [.int i] ∧ Q (.int i) H) ∨ ∃ k, xs = [.bl k] ∧ Q (.int (if k then 1 else 0)) H) dInt := fun w m H σ xs us Q R hu t => by
  unfold dInt at t
  split at t
  · cases hu with
    | cons h1 hu => cases hu; cases h1; exact .inl ⟨_, rfl, t.now R _ (.int _)⟩
  · cases hu with
    | cons h1 hu => cases hu; cases h1; exact .inr ⟨_, rfl, t.now R _ (.int _)⟩
  · exact t.elim
/-- an f-string of texts and ints; its text is not told -/
def sFs (a : SAr) : SEx := fun s m => (a s m).bind fun ds m => if (ds.all fun d => match d with | .int i => decide (i.natAbs.log2 < 1920) | _ => false) = true ∧ ds.length ≤ 4 then .ok .non m else .stuck
end
end Rx
set_option Elab.async false
set_option linter.all false
set_option maxRecDepth 100000
set_option maxHeartbeats 1000000
namespace Rx
open PySem PySem.Spec PyProof.Rows L2

/-- a def of the text, where it stands -/
structure DefAt (K : PySem.W.Frag) (mg : Str → Option Value) (x : Str) (st : Stmt) (ps : List Str) : Prop where
  ex : ∃ (fa : Addr) (fd : FuncData), Fun K x x st fa fd ∧ mg x = some (.ref fa) ∧ Binds K fd ps []
theorem units65 {k : Nat} {A : Around} (hr : Room k A) : A.units + 65 < cLine := by have := hr.un; omega
theorem fn_stuck {P : Program} {w : World} {K : PySem.W.Frag} {mg : Str → Option Value} {base : Heap} {T : Tb} {CX : CXT} {k n : Nat} {f : Addr} {fd : FuncData} {ps : List Str} (hn : ps.length = n := by rfl) : FnOk P w K mg base CX k f fd ps (spI K mg T n fun _ _ => .stuck) :=
  ⟨fun vs H Q E h => h.1.trans hn.symm, fun A outer s H args us vs Q E hr e0 hb hv h => by obtain ⟨_, w, m, ds, R, r, t⟩ := h; exact t.elim⟩
/-- a op b op' c -/
def sChain (g1 g2 : D → D → Mu → Res D) (a b c : SEx) : SEx := fun s m => (a s m).bind fun x m => (b s m).bind fun y m => (g1 x y m).bind fun z m => match z with
  | .bl k => if k = true then (c s m).bind fun v m => g2 y v m else .ok (.bl false) m
  | _ => .stuck
section
variable {X : Cx} {T : Tb} {W : WX} {pos : Pos}
theorem chain_help {r r' : R2} {g1 g2 : D → D → Mu → Res D} {fa fb fc : SEx} (h1 : Ru2 X T W r g1) (h2 : Ru2 X T W r' g2) (σ : L2.St) (H : Hp) (Q : VK) (h : rdE X.K X.mg T W (sChain g1 g2 fa fb fc) σ H Q) :
    tChain r r' (rdE X.K X.mg T W fa) (rdE X.K X.mg T W fb) (rdE X.K X.mg T W fc) σ H Q := by
  obtain ⟨w, s, m, R, S, t⟩ := h
  refine ⟨w, s, m, R, S, (Then.bind t).mono fun x m1 w1 H1 t1 R1 t u hu => ?_⟩
  refine ⟨w1, s, m1, R1, S.mono t1.gr, (Then.bind t).mono fun y m2 w2 H2 t2 R2 t v hv => ?_⟩
  refine h1 w2 m2 H2 σ x y u v _ R2 (hu.mono t2.gr) hv ((Then.bind t).mono fun z m3 w3 H3 t3 R3 t c hc => ?_)
  split at t
  · rename_i k
    cases hc
    refine ⟨k, rfl, ?_⟩
    cases k with
    | true => exact ⟨w3, s, m3, R3, ((S.mono t1.gr).mono t2.gr).mono t3.gr, (Then.bind t).mono fun e m4 w4 H4 t4 R4 t d hd => h2 w4 m4 H4 σ y e v d _ R4 ((hv.mono t3.gr).mono t4.gr) hd t⟩
    | false => exact t.now R3 _ (.bl _)
  · exact t.elim
theorem re_chain {op op' : CmpOp} {r r' : R2} {g1 g2 : D → D → Mu → Res D} {a b c : Expr} {fa fb fc : SEx} (ho : OpR X (compareOp op) r) (ho' : OpR X (compareOp op') r') (h1 : Ru2 X T W r g1) (h2 : Ru2 X T W r' g2) (ha : PE X a (rdE X.K X.mg T W fa)) (hb : PE X b (rdE X.K X.mg T W fb)) (hc : PE X c (rdE X.K X.mg T W fc))
    (hm : lastMarks [op, op'] [b, c] = false := by with_unfolding_all rfl) : PE X (.Compare a [op, op'] [b, c] pos) (rdE X.K X.mg T W (sChain g1 g2 fa fb fc)) := (pe_chain ho ho' ha hb hc hm).imp fun σ H Q h => chain_help h1 h2 σ H Q h
theorem rt_chain {op op' : CmpOp} {r r' : R2} {g1 g2 : D → D → Mu → Res D} {a b c : Expr} {fa fb fc : SEx} (ho : OpR X (compareOp op) r) (ho' : OpR X (compareOp op') r') (h1 : Ru2 X T W r g1) (h2 : Ru2 X T W r' g2) (ha : PE X a (rdE X.K X.mg T W fa)) (hb : PE X b (rdE X.K X.mg T W fb)) (hc : PE X c (rdE X.K X.mg T W fc))
    (hm : lastMarks [op, op'] [b, c] = false := by with_unfolding_all rfl) : PT X (.Compare a [op, op'] [b, c] pos) (rdB X.K X.mg T W (sTst (sChain g1 g2 fa fb fc))) := rt_of (pt_chain ho ho' ha hb hc hm) fun σ H Q h => chain_help h1 h2 σ H Q h
theorem rpts_nil : PTs X [] (rdB X.K X.mg T W bYes) := ⟨fun pins s σ H Q I h => (pts_nil (X := X)).run pins s σ H Q I (by
  obtain ⟨w, s, m, R, S, t⟩ := h
  exact t.now R)⟩
theorem rs_setLc {st : Stmt} {i : Nat} {f : SEx} {t : TE} (hr : ∀ (D : Ends) (σ : L2.St) (H : Hp) (Q : VK), rdE X.K X.mg T W f σ H Q → t σ H Q) (h : PS X st (tAsg t (gName i))) : PS X st (rdS X.K X.mg T W (sSet i f)) := h.imp fun D σ H ⟨w, s, m, R, S, q⟩ =>
  hr D σ H _ ⟨w, s, m, R, S, (SThen.ofS q S).mono fun d m' w' H' t' R' q v hv => q w' H' _ (Tr.refl _ _ _) R' ((S.mono t'.gr).set i hv)⟩
/-- the truth of a list or tuple -/
def sTru (f : SEx) : SBl := fun s m => (f s m).bind fun d m => match seqOf m d with
  | some (_, ds) => .ok (!ds.isEmpty) m
  | none => .stuck
theorem rt_tru {a : Expr} {f : SEx} (ha : PE X a (rdE X.K X.mg T W f)) (he : ∀ whole, isTrue a X.env whole = (do let v ← whole; standAt a.pos; holding [v] (truthy v)) := by intro _; rfl) : PT X a (rdB X.K X.mg T W (sTru f)) := (pt_truth ha he).imp fun σ H Q ⟨w, s, m, R, S, t⟩ => ⟨w, s, m, R, S, (Then.bind t).mono fun d m' w' H' t' R' q v hv => by
  split at q
  · rename_i b ds e
    obtain ⟨a, vs, rfl, r, hq⟩ := seq_at R' hv e
    have e2 : vs.isEmpty = ds.isEmpty := by cases r <;> rfl
    refine ⟨!ds.isEmpty, ?_, q.now R'⟩
    rcases hq with ⟨_, hq⟩ | ⟨_, hq⟩
    · exact .inl ⟨vs, hq, by rw [e2]⟩
    · exact .inr (.inl ⟨vs, hq, by rw [e2]⟩)
  · exact q.elim⟩
/-! ### f-strings -/
def sJ : List (Sum Str SEx) → Str → SEx
  | [], acc => fun _ m => .ok (.str acc) m
  | .inl c :: r, acc => fun s m => if (acc ++ c).length ≤ 1000000 then sJ r (acc ++ c) s m else .stuck
  | .inr f :: r, acc => fun s m => (f s m).bind fun d m => match d with
    | .int i => if i.natAbs.log2 < 1920 ∧ (acc ++ (toString i : String)).length ≤ 1000000 then sJ r (acc ++ (toString i : String)) s m else .stuck
    | _ => .stuck
def sJs (ps : List (Sum Str SEx)) : SEx := sJ ps Str.empty
inductive RJ (X : Cx) (T : Tb) (W : WX) : List Expr → List (Sum Str SEx) → Prop where
  | nil : RJ X T W [] []
  | cs {c : Str} {j : Nat} {p : Pos} {es ps} (r : RJ X T W es ps) : RJ X T W (.Constant (.str c) j p :: es) (.inl c :: ps)
  | fm {e : Expr} {f : SEx} {p : Pos} {es ps} (h : PE X e (rdE X.K X.mg T W f)) (r : RJ X T W es ps) : RJ X T W (.FormattedValue e (-1) none p :: es) (.inr f :: ps)
theorem RJ.pj {es ps} (h : RJ X T W es ps) : ∃ ts, PJ X es ts ∧ ∀ (acc : Str) (σ : L2.St) (H : Hp) (Q : VK), rdE X.K X.mg T W (sJ ps acc) σ H Q → tJs ts acc σ H fun out H1 => Q (.str out) H1 := by
  induction h with
  | nil => exact ⟨[], .nil, fun acc σ H Q ⟨w, s, m, R, S, t⟩ => t.now R _ (.str _)⟩
  | @cs c j p es ps r ih =>
    obtain ⟨ts, h1, h2⟩ := ih
    refine ⟨tC (.str c) :: ts, .cons pe_str h1, fun acc σ H Q ⟨w, s, m, R, S, t⟩ => ?_⟩
    unfold sJ at t
    split at t
    · rename_i hl
      exact ⟨c, rfl, line6 hl, h2 _ σ H Q ⟨w, s, m, R, S, t⟩⟩
    · exact t.elim
  | @fm e f p es ps h r ih =>
    obtain ⟨ts, h1, h2⟩ := ih
    refine ⟨tFmt (rdE X.K X.mg T W f) :: ts, .cons (pe_fmt h) h1, fun acc σ H Q ⟨w, s, m, R, S, t⟩ => ?_⟩
    unfold sJ at t
    refine ⟨w, s, m, R, S, (Then.bind t).mono fun d m' w' H' t' R' q v hv => ?_⟩
    split at q
    · rename_i i
      split at q
      · rename_i hl
        cases hv
        exact .inr ⟨i, rfl, hl.1, _, rfl, line6 hl.2, h2 _ σ H' Q ⟨w', s, m', R', S.mono t'.gr, q⟩⟩
      · exact q.elim
    · exact q.elim
theorem re_js {v1 v2 : Expr} {rest : List Expr} {ps : List (Sum Str SEx)} (h : RJ X T W (v1 :: v2 :: rest) ps) : PE X (.JoinedStr (v1 :: v2 :: rest) pos) (rdE X.K X.mg T W (sJs ps)) := by
  obtain ⟨ts, h1, h2⟩ := h.pj
  exact (pe_joined h1).imp fun σ H Q q => h2 _ σ H Q q
end
end Rx
set_option Elab.async false
set_option linter.all false
set_option maxRecDepth 100000
set_option maxHeartbeats 1000000
namespace Rx
open PySem PySem.Spec PyProof.Rows L2

/-! ### own exception classes -/
/-- a class over ValueError without __init__ -/
structure Cls0 (K : PySem.W.Frag) (mg : Str → Option Value) (x : Str) : Prop where
  ex : ∃ C, mg x = some (.ref C) ∧ PySem.W.excIn K C [.type "ValueError", .type "Exception", .type "BaseException", .type "object"] "ValueError.__new__" = true ∧ PySem.W.keepIn K (.ref C) = true ∧ PySem.W.subIn K (.ref C) (.type "BaseException") = some true ∧ PySem.W.typeIn K (.ref C) = some (.type "type")
/-- SkyError.__init__, found in ValueError -/
structure BaseInit (K : PySem.W.Frag) (mg : Str → Option Value) (x : Str) : Prop where
  ex : ∃ C, mg x = some (.ref C) ∧ PySem.W.specialIn K (.ref C) "__getattribute__" = some (some (.builtin "type.__getattribute__")) ∧ PySem.W.readsIn K C (.type "type") = true ∧ PySem.W.findCls K (.ref C) (.type "type") "__init__" = some (.val (.builtin "ValueError.__init__"))
/-- a class with an __init__ -/
structure Cls1 (K : PySem.W.Frag) (mg : Str → Option Value) (x q : Str) (st : Stmt) (ps : List Str) (f : Str) : Prop where
  ex : ∃ C fI fd, mg x = some (.ref C) ∧ OexC K C ∧ PySem.W.findIn K (.ref C) f = some none ∧ PySem.W.findIn K (.ref C) "__init__" = some (some (.ref fI)) ∧ PySem.W.typeIn K (.ref fI) = some (.type "function") ∧ Fun K "__init__" q st fI fd ∧ Binds K fd ps []
/-- .. whose __init__ keeps its promise -/
structure Rais1 (P : Program) (w : World) (K : PySem.W.Frag) (mg : Str → Option Value) (base : Heap) (k : Nat) (x f : Str) (ps : List Str) : Prop where
  ex : ∃ C fI fd, mg x = some (.ref C) ∧ OexC K C ∧ PySem.W.findIn K (.ref C) f = some none ∧ PySem.W.findIn K (.ref C) "__init__" = some (some (.ref fI)) ∧ PySem.W.typeIn K (.ref fI) = some (.type "function") ∧
    FnOk P w K mg base (L2.CX P w) k fI fd ps (spInit K f) ∧ Binds K fd ps []
section
variable {X : Cx} {T : Tb} {W : WX} {pos p : Pos}
theorem rs_rais0 {x : Str} {e : Expr} {es : List Expr} {a : SAr} {p' pos' : Pos} (c : Cls0 X.K X.mg x) (hc : X.calm = true) (tk : Takes X W) (hg : Gl X x) (ha : PA X (e :: es) (rdA X.K X.mg T W a)) (hdb : (x == ("__debug__" : Str)) = false := by decide)
    (he : starEach (e :: es) X.env = (false, eval e X.env) :: starEach es X.env := by rfl) (hpl : (backTo pos' (starEach es X.env)).any (·.1) = false := by rfl) :
    PS X (.Raise (some (.Call (.Name x p') (e :: es) [] pos')) none pos) (rdS X.K X.mg T W (sRaise0 x a)) := by
  obtain ⟨C, gC, q, kC, bC, tC⟩ := c.ex
  exact rs_raise0 hc tk gC (fun h => pmk_ownA F.excBase_ValueError q gC kC (raises_own bC tC) hg h hdb he hpl) ha
theorem rs_rais1 {k : Nat} {x f : Str} {ps : List Str} {e : Expr} {a : SAr} {p' pos' : Pos} (c : Rais1 X.prog X.w X.K X.mg X.base k x f ps) (hr : Room (k + 1) X.A) (hc : X.calm = true) (tk : Takes X W) (hg : Gl X x) (ha : PA X [e] (rdA X.K X.mg T W a)) (hdb : (x == ("__debug__" : Str)) = false := by decide)
    (he : starEach [e] X.env = (false, eval e X.env) :: starEach [] X.env := by rfl) (hpl : (backTo pos' (starEach [] X.env)).any (·.1) = false := by rfl) :
    PS X (.Raise (some (.Call (.Name x p') [e] [] pos')) none pos) (rdS X.K X.mg T W (sRaise1 x f a)) := by
  obtain ⟨C, fI, fd, gC, ox, nf, iC, tI, FI, bI⟩ := c.ex
  exact rs_raise1 hc tk gC ox nf (fun h => pmk_oex ox iC tI FI hr bI .nil passL hg gC h hdb he hpl) ha
/-- C.__init__(self, ..), C an own class that finds ValueError's -/
theorem pe_skyinit {x : Str} {e : Expr} {es : List Expr} {ta : TA} {p1 p2 : Pos} {pl : Sem Bool} (b : BaseInit X.K X.mg x) (hg : Gl X x) (ha : PA X (e :: es) ta) (hdb : (x == ("__debug__" : Str)) = false := by decide)
    (hc : eval (.Call (.Attribute (.Name x p1) "__init__" p2) (e :: es) [] pos) X.env = (do
      let ov ← eval (.Name x p1) X.env
      standAt p2.atName
      let (f, first) ← holding [ov] (getMethod ov "__init__" pl)
      callWith pos f first (backTo pos (starEach (e :: es) X.env)) (backToKw pos (keywordEach [] X.env))) := by rfl)
    (he : starEach (e :: es) X.env = (false, eval e X.env) :: starEach es X.env := by rfl) (hpl : (backTo pos (starEach es X.env)).any (·.1) = false := by rfl) :
    PE X (.Call (.Attribute (.Name x p1) "__init__" p2) (e :: es) [] pos) (tVeI X.K ta) := by
  obtain ⟨C, gC, b1, b2, b3⟩ := b.ex
  refine ⟨fun pins s σ H Q I h => ?_⟩
  refine PySem.W.methodCall_KW (ld_glob I hg gC ?_ hdb) hc
  refine PySem.W.method_cls I.kIn b1 (PySem.W.cls_value I.kIn b2 b3 (by decide +kernel) ?_)
  show wpAny _ _ (callWith pos (Value.builtin "ValueError.__init__") [] (backTo pos (starEach (e :: es) X.env)) []) _ _ _
  refine PyProof.Rows.callWith_method1 (thn (ha.run pos pins _ σ H _ (I.tok _) h) fun us s1 ⟨vs, H1, I1, r1, a, C', ws, ev, hl, T, ea, q⟩ => ?_) he hpl
  subst ev
  cases r1 with
  | @cons _ u0 _ ur ra rw' =>
    obtain rfl : u0 = Value.ref a := ra
    have hlen : ur.length ≤ sizeLine := by
      rw [← Paired.length rw', sizeLine_eq]
      omega
    exact oinit_ok T I1 ea hlen fun s' J => ⟨.non, H1, J, rfl, q⟩
theorem text_num {i : Int} (h : i.natAbs.log2 < 1920) : (Str.ofString (toString i)).length ≤ 2000 := by
  have e := PySem.int_text_length_le (k := 1920) (by decide) h
  rw [PySem.ofString_length]
  omega
end
/-- def __init__(self, n): SkyError.__init__(self, f'a {n} b'); self.f = n -/
theorem init_ok {P : Program} {w : World} {K : PySem.W.Frag} {mg : Str → Option Value} {base : Heap} {x sky q f n self : Str} {st : Stmt} {t1 t2 : Str} {p1 p2 p3 p4 p5 p6 p7 p8 p9 q1 q2 q3 q4 q5 : Pos} {j1 j2 : Nat} (c : Cls1 K mg x q st [self, n] f) (b : BaseInit K mg sky) (S : FnScope [self, n] [self, n] (defScope st))
    (hb : defBody st = [.Expr (.Call (.Attribute (.Name sky p1) "__init__" p2) [.Name self p3, .JoinedStr [.Constant (.str t1) j1 p4, .FormattedValue (.Name n p5) (-1) none p6, .Constant (.str t2) j2 p7] p8] [] p9) q1, .Assign [.Attribute (.Name self q2) f q3] (.Name n q4) q5])
    (hg : (defScope st).names.lookup sky = some .globalImplicit) (h1 : (sky == ("__debug__" : Str)) = false) (v1 : Vis (defScope st) self) (v2 : Vis (defScope st) n) (d1 : (self == ("__debug__" : Str)) = false) (d2 : (self == ("__classdict__" : Str)) = false) (d3 : (n == ("__debug__" : Str)) = false) (d4 : (n == ("__classdict__" : Str)) = false)
    (l1 : t1.length ≤ 1000) (l2 : t2.length ≤ 1000)
    (hev : ∀ env : PySem.Env, ∃ pl, eval (.Call (.Attribute (.Name sky p1) "__init__" p2) [.Name self p3, .JoinedStr [.Constant (.str t1) j1 p4, .FormattedValue (.Name n p5) (-1) none p6, .Constant (.str t2) j2 p7] p8] [] p9) env = (do
      let ov ← eval (.Name sky p1) env
      standAt p2.atName
      let (f, first) ← holding [ov] (getMethod ov "__init__" pl)
      callWith p9 f first (backTo p9 (starEach [.Name self p3, .JoinedStr [.Constant (.str t1) j1 p4, .FormattedValue (.Name n p5) (-1) none p6, .Constant (.str t2) j2 p7] p8] env)) (backToKw p9 (keywordEach [] env)))) : Rais1 P w K mg base 1 x f [self, n] := by
  obtain ⟨C, fI, fd, gC, ox, nf, iC, tI, F, bI⟩ := c.ex
  refine ⟨C, fI, fd, gC, ox, nf, iC, tI, ?_, bI⟩
  refine F.okX S (fun vs H Q E h => ?_) fun cdv A outer s H vs Q E hr h => ?_
  · obtain ⟨_, _, _, rfl, _⟩ := h
    rfl
  · obtain ⟨a, C, i, rfl, hi, T, hno, hH, k⟩ := h
    have hX : (cxOf (L2.CX P w) P w K mg base [self, n] q (defScope st) fI cdv A outer s H E).env.scope = defScope st := rfl
    have s0 : PE (cxOf (L2.CX P w) P w K mg base [self, n] q (defScope st) fI cdv A outer s H E) (.Name self p3) (tVar 0) := pe_var rfl v1 d1 d2
    have s0' : PE (cxOf (L2.CX P w) P w K mg base [self, n] q (defScope st) fI cdv A outer s H E) (.Name self q2) (tVar 0) := pe_var rfl v1 d1 d2
    have s1 : PE (cxOf (L2.CX P w) P w K mg base [self, n] q (defScope st) fI cdv A outer s H E) (.Name n p5) (tVar 1) := pe_var rfl v2 d3 d4
    have s1' : PE (cxOf (L2.CX P w) P w K mg base [self, n] q (defScope st) fI cdv A outer s H E) (.Name n q4) (tVar 1) := pe_var rfl v2 d3 d4
    rw [hb]
    obtain ⟨pl, hev⟩ := hev (cxOf (L2.CX P w) P w K mg base [self, n] q (defScope st) fI cdv A outer s H E).env
    refine ⟨_, pss_cons (ps_expr (pe_skyinit b hg (pa_cons s0 (pa_cons (pe_joined (.cons pe_str (.cons (pe_fmt s1) (.cons pe_str .nil)))) pa_nil)) h1 (hc := hev))) (pss_one (ps_ost s0' s1')), ?_⟩
    have ln := text_num hi
    refine ⟨_, rfl, t1, rfl, ?_, _, rfl, .inr ⟨i, rfl, hi, _, rfl, ?_, t2, rfl, ?_, a, C, _, rfl, by show 1 ≤ 1000; decide, T, hH, _, rfl, _, rfl, a, C, rfl, T, hno, .inl ⟨hH, k⟩⟩⟩
    · rw [sizeLine_eq]; simp only [Str.length_append]; show 0 + _ ≤ _; omega
    · rw [sizeLine_eq]; simp only [Str.length_append]; show 0 + _ + _ ≤ _; omega
    · rw [sizeLine_eq]; simp only [Str.length_append]; show 0 + _ + _ + _ ≤ _; omega
/-! ### constants of the module -/
structure KAt (K : PySem.W.Frag) (mg : Str → Option Value) (x : Str) (d : D) : Prop where
  ex : ∃ u v, mg x = some u ∧ RelV v u ∧ ∀ w, Dat K w v d
theorem re_glob {X : Cx} {T : Tb} {W : WX} {pos : Pos} {x : Str} {d : D} (h : KAt X.K X.mg x d) (hg : Gl X x) (hd : (x == ("__debug__" : Str)) = false := by decide) : PE X (.Name x pos) (rdE X.K X.mg T W (sC d)) := by
  obtain ⟨u, v, h1, h2, h3⟩ := h.ex
  exact re_c (pe_glob hg h1 h2 hd) h3
/-- a written tuple of ints -/
theorem ktup_of {K : PySem.W.Frag} {w : Wd} {a : Addr} {o : Obj} {us : List Value} {n : Nat} {vs : List V} {ds : List D} (h : K.lookup a = some o) (hc : o.cls = .type "tuple") (hd : o.data = .seq us.toArray n) (hl : us.length ≤ sizeLine) (rv : Vals vs us) (r : DatL K w vs ds) : Dat K w (.ref a) (.ktup ds) :=
  .ktup (.inr ⟨o, us.toArray, n, h, hc, hd, by simpa using hl, by simpa using rv⟩) r
end Rx
set_option Elab.async false
set_option linter.all false
set_option maxRecDepth 100000
set_option maxHeartbeats 1000000
namespace Rx
open PySem PySem.Spec PyProof.Rows L2

/-! ### list.count, list.index -/
section
variable {X : Cx}
def rCountD (K : PySem.W.Frag) : V → List V → Hp → VK → Prop := fun x xs H Q => ∃ (a : Addr) (y : V) (d : PyData) (ds : List PyData), x = V.ref a ∧ xs = [y] ∧ Dp K H (V.ref a) (.list ds) ∧ Dp K H y d ∧
  SeqAt.shaped (.list ds) = true ∧ SeqAt.shaped d = true ∧ Q (.int (ds.countP fun z => PyData.eqv z d : Nat)) H
theorem mt_countD (hu : X.A.units + 65 < cLine) : MtR X "list.count" (rCountD X.K) := by
  intro pins s σ H x xs v us Q I rx rxs h
  obtain ⟨a, y, d, ds, rfl, rfl, hl, hy, sl, sd, q⟩ := h
  cases rx
  obtain ⟨uy, rfl, ry⟩ := rxs.one
  obtain ⟨bs, r1⟩ := Dp.reads I d y uy hy ry
  have hxs : PyData.canLayAll0 ds = true := SeqAt.canLay_of_shaped sl
  have hroom : X.A.units + 1 + min (PyData.depthAll ds) d.depth < cLine := room_in_shaped sd hu
  cases hl with
  | lst hs ha =>
    obtain ⟨its, rv, ⟨⟨cls, dd, data, sls⟩, n, ho, hc, hdn, hdt⟩, hlen⟩ := I.list hs
    simp only at hc hdt
    subst hc hdt
    obtain ⟨as, h4⟩ := Dp.readsAll I ds _ its ha rv
    have hmap : its.map (SeqAt.readOf s.heap) = ds := SeqAt.readsAll_map ds its as hxs h4
    refine call_meets PySem.F.slot_list_count ⟨_, ho, rfl⟩ PySem.F.entry_list_count (PySem.F.args_list_count_2 _ _)
      (SeqAt.list_countAt a its.toArray n dd sls uy (fun u => PyData.eqv (SeqAt.readOf s.heap u) d)) ⟨ho, SeqAt.items_eqAt (vs := its.toArray) (show ReadsAll s.heap its.toArray.toList ds as from h4) r1 hxs (SeqAt.canLay_of_shaped sd) hroom, ?_⟩
    have ec : its.toArray.toList.countP (fun u => PyData.eqv (SeqAt.readOf s.heap u) d) = ds.countP fun z => PyData.eqv z d := by
      rw [← hmap, List.countP_map]
      rfl
    refine ⟨.int (ds.countP fun z => PyData.eqv z d : Nat), H, I.tok _, ⟨s.toks, ?_⟩, q⟩
    rw [ec]
end
def dCount (x y : D) (m : Mu) : Res D := match seqOf m x with
  | some (false, ds) => if okD y = true ∧ okD (.lst ds) = true then .ok (.int ((ds.countP fun z => dEqv z y : Nat) : Int)) m else .stuck
  | _ => .stuck
def dIndex (x y : D) (m : Mu) : Res D := match seqOf m x with
  | some (false, ds) => if okD y = true ∧ okD (.lst ds) = true then (match ds.findIdx? (fun z => dEqv z y) with
    | some j => .ok (.int (j : Nat)) m
    | none => .stuck) else .stuck
  | _ => .stuck
theorem pyL_map : ∀ ds : List D, pyD.pyL ds = ds.map pyD
  | [] => rfl
  | d :: ds => by show pyD d :: pyD.pyL ds = _; rw [pyL_map ds]; rfl
section
variable {X : Cx} {T : Tb} {W : WX} {pos : Pos}
theorem ru_count : Ru2 X T W (fun x y H Q => rCountD X.K x [y] H Q) dCount := fun w m H σ x y u v Q R hu hv t => by
  unfold dCount at t
  split at t
  · rename_i ds e
    split at t
    · rename_i hc
      obtain ⟨a1, a2, a3, a4⟩ := in_help R hv hu e hc.1 hc.2
      obtain ⟨a, vs, rfl, r, hq⟩ := seq_at R hu e
      rcases hq with ⟨_, hq⟩ | ⟨z, _⟩
      · have a2' : Dp X.K H (.ref a) (.list (pyD.pyL ds)) := by
          have h3 : D.undr.all 0 ds = true := by
            have h2 := hc.2
            unfold okD at h2
            rw [Bool.and_eq_true] at h2
            have := h2.1
            simpa only [D.undr] using this
          exact .lst hq (dpL_of R.sub r h3)
        refine ⟨a, v, _, _, rfl, rfl, a2', a1, a4, a3, ?_⟩
        have en : (pyD.pyL ds).countP (fun z => PyData.eqv z (pyD y)) = ds.countP fun z => dEqv z y := by
          rw [pyL_map, List.countP_map]
          rfl
        rw [en]
        exact t.now R _ (.int _)
      · cases z
    · exact t.elim
  · exact t.elim
theorem ru_index : Ru2 X T W (fun x y H Q => rIndexD X.K x [y] H Q) dIndex := fun w m H σ x y u v Q R hu hv t => by
  unfold dIndex at t
  split at t
  · rename_i ds e
    split at t
    · rename_i hc
      split at t
      · rename_i j ej
        obtain ⟨a1, a2, a3, a4⟩ := in_help R hv hu e hc.1 hc.2
        obtain ⟨a, vs, rfl, r, hq⟩ := seq_at R hu e
        rcases hq with ⟨_, hq⟩ | ⟨z, _⟩
        · have a2' : Dp X.K H (.ref a) (.list (pyD.pyL ds)) := by
            have h3 : D.undr.all 0 ds = true := by
              have h2 := hc.2
              unfold okD at h2
              rw [Bool.and_eq_true] at h2
              have := h2.1
              simpa only [D.undr] using this
            exact .lst hq (dpL_of R.sub r h3)
          obtain ⟨hj, e1, e2⟩ := List.findIdx?_eq_some_iff_getElem.mp ej
          refine ⟨a, v, pyD y, pyD.pyL ds, j, pyD ds[j], rfl, rfl, a2', a1, a4, a3, ?_, e1, fun i z hi ez => ?_, t.now R _ (.int _)⟩
          · rw [pyL_map, List.getElem?_map, List.getElem?_eq_getElem hj]
            rfl
          · rw [pyL_map, List.getElem?_map, List.getElem?_eq_getElem (by omega)] at ez
            cases ez
            have := e2 i hi
            simpa [dEqv] using this
        · cases z
      · exact t.elim
    · exact t.elim
  · exact t.elim
end
/-! ### another place -/
theorem Then.at_ {α : Type} {K : PySem.W.Frag} {mg : Str → Option Value} {T T' : Tb} {W W' : WX} {w : Wd} {m : Mu} {H : Hp} {σ σ' : L2.St} {r : Res α} {k : α → Mu → Wd → Hp → Prop} (h : Then K mg T W w m H σ r k) (e : T.t = T'.t) (g : Gr T.w w) (hW : ∀ c d H', W c d σ H' → W' c d σ' H') : Then K mg T' W' w m H σ' r k := by
  cases r with
  | ok a m' => exact fun w' H' t R => h w' H' t (R.at_ e (g.trans t.gr))
  | exc x m' => exact fun w' H' cls dd t R hx => hW _ _ _ (h w' H' cls dd t (R.at_ e (g.trans t.gr)) hx)
  | stuck => exact h
/-! ### a function that was handed in -/
def sAct (k n i : Nat) (r : Mu → Res D) : SEx := fun s m => match s[i]? with
  | some (some (.ref j)) => if j = k ∧ s.length = n then r m else .stuck
  | _ => .stuck
/-- it does not look at the slots -/
def Blind (W : WX) : Prop := ∀ cls d σ σ' H, σ'.length = σ.length → W cls d σ H → W cls d σ' H
theorem takes_len {X : Cx} {W : WX} (tk : Takes X W) : Takes X (fun c d σ H => σ.length = X.N.length → W c d σ H) := fun u s' ⟨a, B, sI, pins, σ, H, cls, d, e, I, nb, up, sky, na, os, ag, w⟩ =>
  tk u s' ⟨a, B, sI, pins, σ, H, cls, d, e, I, nb, up, sky, na, os, ag, w I.len⟩
/-- what is told of its call -/
def Tells (K : PySem.W.Frag) (mg : Str → Option Value) (T0 : Tb) (wl : Wd) (tl : XK → Hp → VK → Prop) (r : Mu → Res D) : Prop := ∀ (E : XK) (w : Wd) (m : Mu) (H : Hp) (Q : VK), Gr wl w → Rel K T0 w m H →
  Then K mg T0 (fun c d _ H => E c d H) w m H [] (r m) (fun d _ w' H' => ∀ v, Dat K w' v d → Q v H') → tl E H Q
theorem re_act {Z : Cx} {T0 T1 : Tb} {W : WX} {wl : Wd} {e : Expr} {k i : Nat} {f c' : Addr} {q : Str} {tl : XK → Hp → VK → Prop} {r : Mu → Res D} (hT : T1.t = T0.t) (h0 : Gr T0.w T1.w) (hk : T1.w.r[k]? = some f) (hc : T1.w.g c' = some (LamX.CodeO c' q)) (hw : Gr wl T1.w) (ht : Tells Z.K Z.mg T0 wl tl r)
    (hb : Blind W) (tk : Takes Z W) (act : ∀ (W : WX) (E : XK), Takes Z W → (∀ cls d σ' H', E cls d H' → W cls d σ' H') → PE Z e (fun σZ HZ Q => σZ[i]? = some (some (.ref f)) ∧ HZ c' = some (LamX.CodeO c' q) ∧ tl E HZ Q)) :
    PE Z e (rdE Z.K Z.mg T1 W (sAct k Z.N.length i r)) :=
  (act _ (fun cls d H' => ∀ σ', σ'.length = Z.N.length → W cls d σ' H') (takes_len tk) (fun cls d σ' H' h hl => h σ' hl)).imp fun σ H Q ⟨w, s, m, R, S, t⟩ => by
    unfold sAct at t
    split at t
    · rename_i j hj
      split at t
      · rename_i hjn
        obtain ⟨rfl, hn⟩ := hjn
        obtain ⟨v, e1, e2⟩ := S.2 i _ hj
        cases e2 with
        | @ref a k e2 =>
          have e3 := R.tk.get hk
          rw [e3] at e2
          cases e2
          refine ⟨e1, R.sub _ _ (R.tk.g _ _ hc), ht _ w m H Q (hw.trans R.tk) (R.at_ hT.symm (h0.trans R.tk)) ?_⟩
          refine Then.at_ t hT R.tk fun c d H' h σ' hl => hb c d σ σ' H' ?_ h
          rw [hl, S.1, hn]
      · exact t.elim
    · exact t.elim
/-! ### try .. except X as e -/
def sTry (i : Nat) (cs : List Str) (b : SSt) (h : Nat → Ex → SSt) : SSt := fun s m => match b s m with
  | .exc x s' m' => if cs.contains x.cls = true ∧ (x.fs.all fun p => match p.2 with | .int _ => true | _ => false) = true ∧ i < s'.length then (match h m'.length x ((s'.map fun _ => none).set i (some (.ref m'.length))) (m' ++ [.dead]) with
      | .nx s2 m2 => .nx (s2.set i none) m2
      | .ret d m2 => .ret d m2
      | _ => .stuck) else .stuck
  | r => r
/-- what a suite knows of its exception -/
structure Caught (mg : Str → Option Value) (a : Addr) (cls : Value) (dd : Option Addr) (k : Nat) (x : Ex) (T : Tb) : Prop where
  at_ : T.w.r[k]? = some a
  cls : ∃ C, mg x.cls = some (.ref C) ∧ cls = .ref C
  fs : (dd = none ∧ x.fs = []) ∨ ∃ b vs, dd = some b ∧ T.w.g b = some (.xd vs) ∧ ∀ f i, x.fs.lookup f = some (.int i) → vs.lookup f = some (V.int i)
theorem slots_none {K : PySem.W.Frag} {w : Wd} {σ : L2.St} {s : Sd} (h : σ.length = s.length) : Slots K w σ (s.map fun _ => none) := ⟨by simp [h], fun i d e => by
  rw [List.getElem?_map] at e
  cases e1 : s[i]? with
  | none => rw [e1] at e; cases e
  | some y => rw [e1] at e; cases e⟩
theorem Slots.unset {K : PySem.W.Frag} {w : Wd} {σ : L2.St} {s : Sd} (h : Slots K w σ s) (i : Nat) : Slots K w (σ.set i none) (s.set i none) := ⟨by simp [h.1], fun j d e => by
  by_cases hj : j = i
  · subst hj
    have hl : j < (s.set j none).length := (List.getElem?_eq_some_iff.mp e).1
    rw [List.getElem?_set_self (by simpa using hl)] at e
    cases e
  · rw [List.getElem?_set_ne (Ne.symm hj)] at e
    obtain ⟨v, e1, e2⟩ := h.2 j d e
    exact ⟨v, by rw [List.getElem?_set_ne (Ne.symm hj)]; exact e1, e2⟩⟩
/-- the reading of a suite -/
def tSuite (K : PySem.W.Frag) (mg : Str → Option Value) (T : Tb) (cs : List Str) (h : Nat → Ex → SSt) (a : Addr) (cls : Value) (dd : Option Addr) : TS := fun D σ H => ∃ k x T2, T2.t = T.t ∧ cs.contains x.cls = true ∧ Caught mg a cls dd k x T2 ∧ rdS K mg T2 W0 (h k x) D σ H
theorem ps_any {X : Cx} {ι : Type} {ss : List Stmt} {t : ι → TS} (h : ∀ i, PSs X ss (t i)) : PSs X ss fun D σ H => ∃ i, t i D σ H := ⟨fun pins s σ H D I ⟨i, q⟩ => (h i).run pins s σ H D I q⟩
section
variable {X : Cx} {T : Tb} {n x : Str} {S : Addr} {i : Nat} {cs : List Str} {body suite : List Stmt} {b₀ : Stmt} {np pos pos' : Pos} {b : SSt} {h : Nat → Ex → SSt}
theorem rs_try (hex : ∀ y ∈ cs, ∀ C, X.mg y = some (.ref C) → PySem.W.exmOne X.K (.ref C) (.ref S) = some true) (hs : X.stack = X.env :: X.outer) (hf : X.env.frame = some X.env.locals) (hN : X.N.Nodup) (hi : X.N[i]? = some n) (hln : X.env.kindOf n = some .local) (hc : Names X x (.ref S))
    (hb : ∀ (W : WX) (pn : List (Addr × Obj)) (xe : Value → Shared → Prop), Takes (X.tr pn xe) W → Blind W → PSs (X.tr pn xe) body (rdS X.K X.mg T W b))
    (hsu : ∀ (a : Addr) (oe : Obj) (cls : Value) (dd : Option Addr) (pn : List (Addr × Obj)) (k : Nat) (y : Ex) (T2 : Tb), Zc cls dd oe → (∃ vs, oe.data = .fields vs) → cs.contains y.cls = true → Caught X.mg a cls dd k y T2 → PSs (X.suite a ((a, oe) :: pn)) (b₀ :: suite) (rdS X.K X.mg T2 W0 (h k y))) :
    PS X (.Try body [.ExceptHandler (some (.Name x np)) (some n) (b₀ :: suite) pos'] [] [] pos) (rdS X.K X.mg T W0 (sTry i cs b h)) := by
  refine (ps_try_as (ts := tSuite X.K X.mg T cs h) (tb := fun W => rdS X.K X.mg T (fun cls d σ H => ∀ σ', σ'.length = σ.length → W cls d σ' H) b) (Wout := W0) hs hf hN hi hln hc (fun _ _ x => by
    obtain ⟨_, _, _, _, _, _, _, _, _, _, _, _, _, _, _, _, z⟩ := x
    exact z.elim) (fun W pn xe tk _ => hb (fun cls d σ H => ∀ σ', σ'.length = σ.length → W cls d σ' H) pn xe (tk.imp fun c d σ H q => q σ rfl) (by
    intro c d σ σ' H e q σ2 e2
    exact q σ2 (e2.trans e))) (fun a oe cls d pn hz hv => ⟨fun pins s σ H D I q => ?_⟩)).imp fun D σ H ⟨w, s, m, R, S0, t⟩ => ⟨w, s, m, R, S0, ?_⟩
  · obtain ⟨k, y, T2, eT, hcs, ca, q⟩ := q
    exact (hsu a oe cls d pn k y T2 hz hv hcs ca).run pins s σ H D I q
  · unfold sTry at t
    revert t
    cases b s m with
    | nx s' m' => exact fun t => t
    | ret d m' => exact fun t => t
    | bk s' m' => exact fun t => t
    | ct s' m' => exact fun t => t
    | stuck => exact fun t => t
    | exc y s' m' =>
      intro t w' H' σ' cls dd tr R' S' hx σ2 hl
      dsimp only at t
      split at t
      · rename_i hcond
        obtain ⟨hcs, hint, hil⟩ := hcond
        obtain ⟨C, hC, rfl⟩ := hx.1
        refine ⟨true, hex _ (by simpa using hcs) C hC, fun _ a na => ?_, fun z => by cases z⟩
        -- the world with the exception's fields, then with the handle
        have hfr : ∃ w2, Gr w' w2 ∧ w2.r = w'.r ∧ Rel X.K T w2 m' H' ∧ Tr w' m' H' w2 m' H' ∧ ((dd = none ∧ y.fs = []) ∨ ∃ b vs, dd = some b ∧ w2.g b = some (.xd vs) ∧ ∀ f i, y.fs.lookup f = some (.int i) → vs.lookup f = some (V.int i)) := by
          rcases hx.2 with hx | ⟨b, vs, e1, e2, e3⟩
          · exact ⟨w', Gr.refl _, rfl, R', Tr.refl _ _ _, .inl hx⟩
          · obtain ⟨w2, g1, g2, g3, g4, g5⟩ := R'.know e2
            refine ⟨w2, g1, g2, g4, g5, .inr ⟨b, vs, e1, g3, fun f i e => ?_⟩⟩
            obtain ⟨v, e4, e5⟩ := e3 f _ e
            cases e5
            exact e4
        obtain ⟨w2, g1, g2, R2, t2, hfs⟩ := hfr
        obtain ⟨R3, t3⟩ := R2.nail a
        have hlen : w2.r.length = m'.length := R2.len
        have hat : (w2.r ++ [a])[m'.length]? = some a := by rw [← hlen]; simp
        refine ⟨m'.length, y, ⟨T.t, ⟨w2.g, w2.r ++ [a]⟩⟩, rfl, hcs, ⟨hat, ⟨C, hC, rfl⟩, hfs⟩, ⟨w2.g, w2.r ++ [a]⟩, _, _, R3.at_ rfl (Gr.refl _), (slots_none (s := s') (by rw [hl, S'.1])).set i (.ref hat), ?_⟩
        have tt := tr.trans (t2.trans t3)
        revert t
        cases h m'.length y ((s'.map fun _ => none).set i (some (.ref m'.length))) (m' ++ [.dead]) with
        | nx s2 m2 => exact fun t w4 H4 σ4 t4 R4 S4 => t w4 H4 (σ4.set i none) (tt.trans t4) (R4.at_ rfl (((R'.tk.mono t2.gr).mono t3.gr).trans t4.gr)) (S4.unset i)
        | ret d m2 => exact fun t w4 H4 v t4 R4 hv => t w4 H4 v (tt.trans t4) (R4.at_ rfl (((R'.tk.mono t2.gr).mono t3.gr).trans t4.gr)) hv
        | bk s2 m2 => exact fun t => t.elim
        | ct s2 m2 => exact fun t => t.elim
        | exc y2 s2 m2 => exact fun t => t.elim
        | stuck => exact fun t => t.elim
      · exact t.elim
end
end Rx
set_option Elab.async false
set_option linter.all false
set_option maxRecDepth 100000
set_option maxHeartbeats 1000000
namespace Rx
open PySem PySem.Spec PyProof.Rows L2

/-! ### the error that a suite holds -/
/-- a class of errors, told: S the class that the clause names, cs the classes, fl the names of fields -/
structure ErrC (K : PySem.W.Frag) (mg : Str → Option Value) (S : Addr) (cs fl : List Str) (y : Str) (C : Addr) : Prop where
  gC : mg y = some (.ref C)
  ec : ExcC K C
  xf : XfC K C
  fl : ∀ f ∈ fl, PySem.W.findIn K (.ref C) f = some none
  ex : PySem.W.exmOne K (.ref C) (.ref S) = some true
  ki : ∀ z ∈ cs, ∀ Cz, mg z = some (.ref Cz) → PySem.W.kitOne K (.ref C) (.ref Cz) = some (decide (y = z))
  kv : PySem.W.kitOne K (.ref C) (.type "ValueError") = some true
structure Errs (K : PySem.W.Frag) (mg : Str → Option Value) (sky : Str) (cs fl : List Str) : Prop where
  ex : ∃ S, mg sky = some (.ref S) ∧ ∀ y ∈ cs, ∃ C, ErrC K mg S cs fl y C
/-- isinstance(e, c) -/
def rIsE2 (K : PySem.W.Frag) (D a : Addr) (dd : Option Addr) : List V → Hp → VK → Prop := fun xs H Q => ∃ (c : V) (cv : Value) (b : Bool), xs = [.ref a, c] ∧ (∀ u, RelV c u → u = cv) ∧ PySem.W.kitOne K (.ref D) cv = some b ∧ (dd = none ∨ ∃ p vs, dd = some p ∧ H p = some (.xd vs)) ∧ Q (.bl b) H
theorem call_isE2 {X : Cx} {a D : Addr} {dd : Option Addr} {oe : Obj} {pn : List (Addr × Obj)} (C : ExcC X.K D) (hz : Zc (.ref D) dd oe) (hf : ∃ vs, oe.data = .fields vs) : CallR (X.suite a ((a, oe) :: pn)) (.builtin "isinstance") (rIsE2 X.K D a dd) := by
  intro pins s σ H xs us Q I r h
  obtain ⟨c, cv, b, rfl, hcv, e, hd, q⟩ := h
  cases r with
  | cons rx rr =>
    cases rr with
    | cons rt rr =>
      cases rr
      cases rx
      have ec := hcv _ rt
      subst ec
      obtain ⟨hget, _⟩ := I.pin (a, oe) (List.mem_append.mpr (.inl List.mem_cons_self))
      obtain ⟨vs, hv⟩ := hf
      have hcl : (PySem.W.clsIn X.K D).isSome = true := by
        obtain ⟨cd, hc, _⟩ := PySem.W.any_some C.hd
        rw [hc]
        rfl
      have J : ∃ od, PySem.W.InstAt s.heap a oe D od := by
        rcases hd with rfl | ⟨p, fs, rfl, hp⟩
        · refine ⟨none, hget, hz.1, by unfold PySem.W.notCls; rw [hv] <;> rfl, ?_⟩
          rw [hz.2]
          exact trivial
        · have hx : ObjOk X.prog X.w H s.heap p (.xd fs) := I.hok p _ hp
          obtain ⟨mA, hns, hr⟩ := hx
          obtain ⟨od, ho, hl⟩ := lookIn_ns hns
          refine ⟨some od, hget, hz.1, by unfold PySem.W.notCls; rw [hv] <;> rfl, ?_⟩
          rw [hz.2]
          exact ho
      obtain ⟨od, J⟩ := J
      exact PySem.W.kia_one (PySem.W.kitx_exc hcl C.hg C.hk C.hs C.ha C.hn C.ht C.hm) I.kIn J e (fun z => nomatch z) fun tk => ⟨.bl b, H, I.kept (t' := tk) fun _ _ z => z, rfl, q⟩
def sIsE (k : Nat) (b : Bool) (f : SEx) : SEx := fun s m => (f s m).bind fun d m => match d with
  | .ref j => if j = k then .ok (.bl b) m else .stuck
  | _ => .stuck
def sFld (k : Nat) (x : Ex) (n : Str) (f : SEx) : SEx := fun s m => (f s m).bind fun d m => match d with
  | .ref j => if j = k then (match x.fs.lookup n with
    | some (.int i) => .ok (.int i) m
    | _ => .stuck) else .stuck
  | _ => .stuck
section
variable {X : Cx} {T : Tb} {W : WX} {pos : Pos} {a : Addr} {oe : Obj} {cls : Value} {dd : Option Addr} {pn : List (Addr × Obj)} {k : Nat} {x : Ex} {sky : Str} {cs fl : List Str}
theorem caught_xd (ca : Caught X.mg a cls dd k x T) {w : Wd} {m : Mu} {H : Hp} (R : Rel X.K T w m H) : dd = none ∨ ∃ p vs, dd = some p ∧ H p = some (.xd vs) := by
  rcases ca.fs with ⟨h, _⟩ | ⟨b, vs, h1, h2, _⟩
  · exact .inl h
  · exact .inr ⟨b, vs, h1, R.sub _ _ (R.tk.g _ _ h2)⟩
theorem re_isE {ex : Expr} {f : SEx} {cv : Value} {c : V} {b : Bool} (hb : ∀ C, cls = .ref C → PySem.W.kitOne X.K (.ref C) cv = some b) (hcv : ∀ u, RelV c u → u = cv) (ca : Caught X.mg a cls dd k x T) (er : Errs X.K X.mg sky cs fl) (hcs : cs.contains x.cls = true) (hz : Zc cls dd oe) (hf : ∃ vs, oe.data = .fields vs)
    (h : ∀ r, CallR (X.suite a ((a, oe) :: pn)) (.builtin "isinstance") r → PE (X.suite a ((a, oe) :: pn)) ex (tCB r (tCons (rdE X.K X.mg T W f) (tCons (tC c) tNil)))) : PE (X.suite a ((a, oe) :: pn)) ex (rdE X.K X.mg T W (sIsE k b f)) := by
  obtain ⟨C, hC, rfl⟩ := ca.cls
  obtain ⟨S, hS, hE⟩ := er.ex
  obtain ⟨C', E⟩ := hE _ (by simpa using hcs)
  have := E.gC.symm.trans hC
  cases this
  refine (h _ (call_isE2 E.ec hz hf)).imp fun σ H Q ⟨w, s, m, R, S0, t⟩ => ⟨w, s, m, R, S0, (Then.bind t).mono fun d m1 w1 H1 t1 R1 q v hv => ?_⟩
  split at q
  · rename_i j
    split at q
    · rename_i hj
      subst hj
      cases hv with
      | ref hr =>
        have e3 := R1.tk.get ca.at_
        rw [hr] at e3
        cases e3
        exact ⟨c, cv, b, rfl, hcv, hb _ rfl, caught_xd ca R1, q.now R1 _ (.bl b)⟩
    · exact q.elim
  · exact q.elim
theorem re_fld {e : Expr} {f : SEx} {n : Str} (hn : n ∈ fl) (ca : Caught X.mg a cls dd k x T) (er : Errs X.K X.mg sky cs fl) (hcs : cs.contains x.cls = true) (hz : Zc cls dd oe) (hf : ∃ vs, oe.data = .fields vs) (he : PE (X.suite a ((a, oe) :: pn)) e (rdE X.K X.mg T W f)) (hb : attributeBase e n X.env (eval e X.env) = eval e X.env := by rfl) :
    PE (X.suite a ((a, oe) :: pn)) (.Attribute e n pos) (rdE X.K X.mg T W (sFld k x n f)) := by
  obtain ⟨C, hC, rfl⟩ := ca.cls
  obtain ⟨S, hS, hE⟩ := er.ex
  obtain ⟨C', E⟩ := hE _ (by simpa using hcs)
  have := E.gC.symm.trans hC
  cases this
  refine (pe_xf E.xf (E.fl n hn) hz hf he hb).imp fun σ H Q ⟨w, s, m, R, S0, t⟩ => ⟨w, s, m, R, S0, (Then.bind t).mono fun d m1 w1 H1 t1 R1 q v hv => ?_⟩
  split at q
  · rename_i j
    split at q
    · rename_i hj
      subst hj
      split at q
      · rename_i i ei
        cases hv with
        | ref hr =>
          have e3 := R1.tk.get ca.at_
          rw [hr] at e3
          cases e3
          rcases ca.fs with ⟨_, h2⟩ | ⟨b, vs, h1, h2, h3⟩
          · rw [h2] at ei
            cases ei
          · exact ⟨rfl, rfl, b, vs, .int i, h1, R1.sub _ _ (R1.tk.g _ _ h2), h3 n i ei, q.now R1 _ (.int i)⟩
      · exact q.elim
    · exact q.elim
  · exact q.elim
end
/-! ### the def that calls what it got -/
def word (n : Nat) (b : Nat → (Mu → Res D) → SSt) (r : Mu → Res D) (m : Mu) : Res D := trim m.length (fin (b m.length r (some (.ref m.length) :: List.replicate (n - 1) none) (m ++ [.dead])))
def TTw (K : PySem.W.Frag) (mg : Str → Option Value) (T0 : Tb) (n : Nat) (b : Nat → (Mu → Res D) → SSt) : (XK → Hp → VK → Prop) → Hp → VK → Prop := fun tl H Q => ∃ wl m r, Rel K T0 wl m H ∧ Tells K mg T0 wl tl r ∧ Then K mg T0 W0 wl m H [] (word n b r m) fun d _ w' H' => ∀ v, Dat K w' v d → Q v H'
theorem codeO_nt {c : Addr} {q : Str} : (∀ ps, LamX.CodeO c q ≠ .tbl ps) ∧ (∀ ps, LamX.CodeO c q ≠ .lst ps) ∧ ∀ ps, LamX.CodeO c q ≠ .dT ps := by
  unfold LamX.CodeO
  exact ⟨fun _ z => (by cases z), fun _ z => (by cases z), fun _ z => (by cases z)⟩
theorem word_gives {X : Cx} {T0 : Tb} {Ng : List Str} {x a q : Str} {sg : Scope} {g : Addr} {cdg : Value} {bg : List Stmt} {n : Nat} {b : Nat → (Mu → Res D) → SSt} (hn : Ng.length = n)
    (hbody : ∀ (f c' : Addr) (s : Shared) (H : Hp) (tl : XK → Hp → VK → Prop) (wl : Wd) (r : Mu → Res D) (k : Nat) (T1 : Tb), T1.t = T0.t → Gr T0.w T1.w → T1.w.r[k]? = some f → T1.w.g c' = some (LamX.CodeO c' q) → Gr wl T1.w → Tells X.K X.mg T0 wl tl r →
      (∀ (pn : List (Addr × Obj)) (xe : Value → Shared → Prop) (p1 p2 : Pos) (W : WX) (E : XK), Takes ((cxOf C8.CX0 X.prog X.w X.K X.mg X.base Ng x sg g cdg X.A X.stack s H C8.E0).nox.tr pn xe) W → (∀ cls d σ' H', E cls d H' → W cls d σ' H') →
        PE ((cxOf C8.CX0 X.prog X.w X.K X.mg X.base Ng x sg g cdg X.A X.stack s H C8.E0).nox.tr pn xe) (.Call (.Name a p1) [] [] p2) (fun σZ HZ Q => σZ[0]? = some (some (.ref f)) ∧ HZ c' = some (LamX.CodeO c' q) ∧ tl E HZ Q)) →
      PSs (cxOf C8.CX0 X.prog X.w X.K X.mg X.base Ng x sg g cdg X.A X.stack s H C8.E0).nox bg (rdS X.K X.mg T1 W0 (b k r))) :
    LamX.GivesTo X Ng x sg g cdg bg a q (TTw X.K X.mg T0 n b) := by
  intro f c' s H Q tl act hc ⟨wl, m, r, R, ht, t⟩
  obtain ⟨z1, z2, z3⟩ := codeO_nt (c := c') (q := q)
  obtain ⟨w1, g1, e1, k1, R1, t1⟩ := R.know hc z1 z2 z3
  obtain ⟨R2, t2⟩ := R1.nail f
  have len := R1.len
  have g12 : Gr wl ⟨w1.g, w1.r ++ [f]⟩ := t1.gr.trans t2.gr
  refine ⟨_, hbody f c' s H tl wl r m.length ⟨T0.t, ⟨w1.g, w1.r ++ [f]⟩⟩ rfl (Gr.trans R.tk g12) (by rw [← len]; simp) k1 g12 ht (fun pn xe p1 p2 W E tk hW => act W pn xe E p1 p2 tk hW), ?_⟩
  refine ⟨⟨w1.g, w1.r ++ [f]⟩, some (.ref m.length) :: List.replicate (n - 1) none, _, R2.at_ rfl (Gr.refl _), ?_, ?_⟩
  · have := slots_start (K := X.K) (wd := ⟨w1.g, w1.r ++ [f]⟩) (vs := [.ref f]) (ds := [.ref m.length]) (.cons (.ref (by rw [← len]; simp)) .nil) Ng
    rw [hn] at this
    exact this
  · unfold word trim at t
    have tt := t1.trans t2
    have fine : ∀ {w' : Wd} {m' : Mu} {H' : Hp}, Tr ⟨w1.g, w1.r ++ [f]⟩ (m ++ [.dead]) H w' m' H' → Rel X.K ⟨T0.t, ⟨w1.g, w1.r ++ [f]⟩⟩ w' m' H' → Rel X.K T0 w' m' H' := fun tr R' => R'.at_ rfl ((Gr.trans R.tk g12).trans tr.gr)
    revert t
    cases b m.length r (some (.ref m.length) :: List.replicate (n - 1) none) (m ++ [.dead]) with
    | nx s' m' =>
      intro t w' H' σ' tr R' S'
      dsimp only [fin] at t
      split at t
      · rename_i hcd
        exact t _ _ ((tt.trans tr).cut R.len) ((fine tr R').cut hcd.2.1 R.pinned) _ .non
      · exact t.elim
    | ret d m' =>
      intro t w' H' v tr R' hv
      dsimp only [fin] at t
      split at t
      · rename_i hcd
        exact t _ _ ((tt.trans tr).cut R.len) ((fine tr R').cut hcd.2.1 R.pinned) v (hv.cut hcd.1)
      · exact t.elim
    | bk _ _ => exact fun t => t.elim
    | ct _ _ => exact fun t => t.elim
    | exc y s' m' =>
      intro t w' H' σ' cls dd tr R' S' hx
      dsimp only [fin] at t
      split at t
      · rename_i hcd
        exact t _ _ cls dd ((tt.trans tr).cut R.len) ((fine tr R').cut hcd.2.1 R.pinned) (hx.cut hcd.1)
      · exact t.elim
    | stuck => exact fun t => t.elim
/-- x(lambda: e) -/
def sLam (n : Nat) (b : Nat → (Mu → Res D) → SSt) (fb : SEx) : SEx := fun s m => match word n b (fun m' => fb s m') m with
  | .exc _ _ => .stuck
  | r => r
section
variable {X : Cx}
theorem re_lam {T : Tb} {W : WX} {x a : Str} {g c P : Addr} {k n : Nat} {b : Nat → (Mu → Res D) → SSt} {fb : SEx} {st : Stmt} {fd : FuncData} {Ng : List Str} {params : Arguments} {body : Expr} {scope : Scope} {p lpos pos : Pos} (hg : Gl X x) (hm : X.mg x = some (.ref g)) (F : Fun X.K x x st g fd) (hb : Binds X.K fd [a] [])
    (Sg : FnScope Ng [a] (defScope st)) (hNg : Ng[0]? = some a) (hva : Vis (defScope st) a) (hG : ∀ cdg, LamX.GivesTo X Ng x (defScope st) g cdg (defBody st) a (X.env.qual ++ "<lambda>") (TTw X.K X.mg T n b))
    (TB : LamX.TabB X.base X.mg c P) (hcode : X.env.code = .ref c) (hmT : (P, X.env.qual ++ "<lambda>") ∈ T.t) (hu : ∀ p ∈ T.t, p.1 = P → p.2 = X.env.qual ++ "<lambda>") (hr : Room (k + 2) X.A) (L : LamX.LamS X.env.scope scope) (hdef : defaultsOf params X.env = ([], []))
    (hbind : ∀ (q : Str) (cl : List (Str × Addr)) (pm cv ctv : Value), bindArgs (PySem.W.kla_fn "<lambda>" q params body scope cl pm cv ctv) ⟨[], []⟩ = pure [])
    (hbody : ∀ (A : Around) (outer : List Env) (s : Shared) (H : Hp) (E : XK) (f c' : Addr), Room k (A.deeper (LamX.lamEnv X scope s.heap.objs.size f c')) → PE (LamX.lamCx X A outer s H E scope f c') body (rdE X.K X.mg T (fun c d _ H => E c d H) fb))
    (hdb : (x == ("__debug__" : Str)) = false := by decide) (hd : (a == ("__debug__" : Str)) = false := by decide) (hcd : (a == ("__classdict__" : Str)) = false := by decide) :
    PE X (.Call (.Name x p) [.Lambda params body scope lpos] [] pos) (rdE X.K X.mg T W (sLam n b fb)) := by
  obtain ⟨oc, od, kV, doc, pm, an, cdv, ct, osl, rfl, lk, hcdv⟩ := F.ex
  refine (LamX.pe_lamcall (T := T.t) hg hm F.kp lk hcdv hb Sg hNg hva (hG cdv) TB hcode hmT hu hr L hdef hbind (t := fun E => rdE X.K X.mg T (fun c d _ H => E c d H) fb) hbody hdb hd hcd).imp fun σ H Q ⟨w, s, m, R, S, t⟩ => ⟨R.tab, fun H1 e T1 => ⟨w, m, fun m' => fb s m', R.extN e T1, fun E w' m' H' Q' g R' t' => ⟨w', s, m', R', S.mono g, t'.at_ rfl R'.tk fun _ _ _ h => h⟩, ?_⟩⟩
  unfold sLam at t
  revert t
  cases word n b (fun m' => fb s m') m with
  | ok d m' => exact fun t w' H' tr R' => t w' H' ((Tr.extN e).trans tr) R'
  | exc y m' => exact fun t => t.elim
  | stuck => exact fun t => t
end
end Rx
set_option Elab.async false
set_option linter.all false
set_option maxRecDepth 100000
set_option maxHeartbeats 1000000
namespace Rx
open PySem PySem.Spec PyProof.Rows L2
section
variable {X : Cx} {T : Tb} {W : WX} {pos : Pos} {a : Addr} {oe : Obj} {cls : Value} {dd : Option Addr} {pn : List (Addr × Obj)} {k : Nat} {x : Ex} {sky : Str} {cs fl : List Str}
/-- isinstance(e, C), C an own class -/
theorem re_isC {z : Str} {e : Expr} {f : SEx} {p1 p2 : Pos} (hzs : z ∈ cs) (ca : Caught X.mg a cls dd k x T) (er : Errs X.K X.mg sky cs fl) (hcs : cs.contains x.cls = true) (hz : Zc cls dd oe) (hf : ∃ vs, oe.data = .fields vs) (hni : X.mg "isinstance" = none)
    (he : PE (X.suite a ((a, oe) :: pn)) e (rdE X.K X.mg T W f)) (hg : Gl X "isinstance" := by rfl) (hgz : Gl X z := by rfl) (hdz : (z == ("__debug__" : Str)) = false := by decide)
    (h1 : starEach [e, .Name z p2] X.env = (false, eval e X.env) :: starEach [.Name z p2] X.env := by rfl) (h2 : starEach [.Name z p2] X.env = (false, eval (.Name z p2) X.env) :: starEach [] X.env := by rfl) (hpl : (backTo pos (starEach [.Name z p2] X.env)).any (·.1) = false := by rfl) :
    PE (X.suite a ((a, oe) :: pn)) (.Call (.Name "isinstance" p1) [e, .Name z p2] [] pos) (rdE X.K X.mg T W (sIsE k (decide (x.cls = z)) f)) := by
  obtain ⟨S, hS, hE⟩ := er.ex
  obtain ⟨Cz, Ez⟩ := hE z hzs
  obtain ⟨C, hC, rfl⟩ := ca.cls
  obtain ⟨C', E⟩ := hE _ (by simpa using hcs)
  have := E.gC.symm.trans hC
  cases this
  refine re_isE (c := .ref Cz) (cv := .ref Cz) (fun C2 e2 => ?_) (fun u h => h) ca er hcs hz hf fun r hr => ?_
  · cases e2
    exact E.ki z hzs Cz Ez.gC
  · exact pe_callB (X := X.suite a ((a, oe) :: pn)) hr hg hni (by decide +kernel) (pa_cons he (pa_cons (pe_glob (X := X.suite a ((a, oe) :: pn)) (v := .ref Cz) hgz Ez.gC rfl hdz) pa_nil h2) h1) (he := h1) (hpl := hpl)
/-- isinstance(e, ValueError) -/
theorem re_isV {e : Expr} {f : SEx} {p1 p2 : Pos} (ca : Caught X.mg a cls dd k x T) (er : Errs X.K X.mg sky cs fl) (hcs : cs.contains x.cls = true) (hz : Zc cls dd oe) (hf : ∃ vs, oe.data = .fields vs) (hni : X.mg "isinstance" = none) (hnv : X.mg "ValueError" = none)
    (he : PE (X.suite a ((a, oe) :: pn)) e (rdE X.K X.mg T W f)) (hg : Gl X "isinstance" := by rfl) (hgz : Gl X "ValueError" := by rfl)
    (h1 : starEach [e, .Name "ValueError" p2] X.env = (false, eval e X.env) :: starEach [.Name "ValueError" p2] X.env := by rfl) (h2 : starEach [.Name "ValueError" p2] X.env = (false, eval (.Name "ValueError" p2) X.env) :: starEach [] X.env := by rfl) (hpl : (backTo pos (starEach [.Name "ValueError" p2] X.env)).any (·.1) = false := by rfl) :
    PE (X.suite a ((a, oe) :: pn)) (.Call (.Name "isinstance" p1) [e, .Name "ValueError" p2] [] pos) (rdE X.K X.mg T W (sIsE k true f)) := by
  obtain ⟨S, hS, hE⟩ := er.ex
  obtain ⟨C, hC, rfl⟩ := ca.cls
  obtain ⟨C', E⟩ := hE _ (by simpa using hcs)
  have := E.gC.symm.trans hC
  cases this
  refine re_isE (c := .ty "ValueError") (cv := .type "ValueError") (fun C2 e2 => ?_) (fun u h => h) ca er hcs hz hf fun r hr => ?_
  · cases e2
    exact E.kv
  · exact pe_callB (X := X.suite a ((a, oe) :: pn)) hr hg hni (by decide +kernel) (pa_cons he (pa_cons (pe_bltn (X := X.suite a ((a, oe) :: pn)) (v := .ty "ValueError") (u := .type "ValueError") hgz hnv (by decide +kernel) (by rfl)) pa_nil h2) h1) (he := h1) (hpl := hpl)
end
/-- a def whose code object is told -/
structure FunC (K : PySem.W.Frag) (x qual : Str) (st : Stmt) (f : Addr) (fd : FuncData) (c : Addr) : Prop where
  ex : ∃ (oc : Value) (od : Option Addr) (kV doc pm : Value) (an : Option Addr) (ct : Value) (osl : Array (Option Value)),
    fd = PySem.W.fnOf x qual (defArgs st) (defBody st) (defScope st) .none kV doc pm an (.ref c) ct ∧ K.lookup f = some ⟨oc, od, .func fd, osl⟩ ∧ PySem.W.codeIn K (.ref c) qual = true
theorem fn_runC {P : Program} {w : World} {K : PySem.W.Frag} {mg : Str → Option Value} {base : Heap} {T : Tb} {x qual : Str} {st : Stmt} {f c : Addr} {fd : FuncData} {N ps : List Str} {k : Nat} {b : SSt} (F : FunC K x qual st f fd c) (S : FnScope N ps (defScope st))
    (hbody : ∀ (A : Around) (outer : List Env) (s : Shared) (H : Hp) (E : XK), Room k (A.deeper (envOfC qual (defScope st) s.heap.objs.size f (.ref c))) →
      PSs (cxOf (L2.CX P w) P w K mg base N qual (defScope st) f (.ref c) A outer s H E) (defBody st) (rdS K mg T (fun c d _ H => E c d H) b)) :
    FnOk P w K mg base (L2.CX P w) (k + 1) f fd ps (spI K mg T ps.length (run N.length b)) := by
  obtain ⟨oc, od, kV, doc, pm, an, ct, osl, rfl, lk, hcd⟩ := F.ex
  refine fn_of lk hcd S (fun vs H Q E h => h.1) fun A outer s H vs Q E hr h => ⟨_, hbody A outer s H E hr, ?_⟩
  obtain ⟨hl, wd, m, ds, R, dl, t⟩ := h
  refine ⟨wd, _, m, R, slots_start dl N, ?_⟩
  unfold run at t
  revert t
  cases b (ds.map some ++ List.replicate (N.length - ds.length) none) m with
  | nx s' m' => exact fun t w' H' σ' tr R' S' => t w' H' tr R' _ .non
  | ret d m' => exact fun t w' H' v tr R' hv => t w' H' tr R' v hv
  | bk _ _ => exact fun t => t.elim
  | ct _ _ => exact fun t => t.elim
  | exc x s' m' => exact fun t w' H' σ' cls dd tr R' S' hx => t w' H' cls dd tr R' hx
  | stuck => exact fun t => t.elim
end Rx
set_option Elab.async false
set_option linter.all false
set_option maxRecDepth 100000
set_option maxHeartbeats 1000000
namespace Rx
open PySem PySem.Spec PyProof.Rows L2
/-! ### the end: facts by the kernel -/
def gA (K : PySem.W.Frag) (x : Str) : Addr := match PySem.W.nsIn K mainGlobals x with
  | some (some (.ref a)) => a
  | _ => 0
def ckGlo (K : PySem.W.Frag) (x : Str) : Bool := decide (PySem.W.nsIn K mainGlobals x = some (some (.ref (gA K x))))
def ckFree (K : PySem.W.Frag) (x : Str) : Bool := decide (PySem.W.nsIn K mainGlobals x = some none)
def ckC0 (K : PySem.W.Frag) (x : Str) : Bool := ckGlo K x && (PySem.W.excIn K (gA K x) [.type "ValueError", .type "Exception", .type "BaseException", .type "object"] "ValueError.__new__" && (PySem.W.keepIn K (.ref (gA K x)) && (decide (PySem.W.subIn K (.ref (gA K x)) (.type "BaseException") = some true) && decide (PySem.W.typeIn K (.ref (gA K x)) = some (.type "type")))))
def ckBase (K : PySem.W.Frag) (x : Str) : Bool := ckGlo K x && (decide (PySem.W.specialIn K (.ref (gA K x)) "__getattribute__" = some (some (.builtin "type.__getattribute__"))) && (PySem.W.readsIn K (gA K x) (.type "type") && (match PySem.W.findCls K (.ref (gA K x)) (.type "type") "__init__" with | some (.val v) => decide (v = .builtin "ValueError.__init__") | _ => false)))
def ckErr1 (K : PySem.W.Frag) (S : Addr) (cs fl : List Str) (y : Str) (C : Addr) : Bool :=
  xfB K C && (decide (PySem.W.findIn K (.ref C) "__class__" = some (some (.builtin "object.__class__"))) && (decide (PySem.W.specialIn K (.builtin "object.__class__") "__get__" = some (some (.builtin "getset_descriptor.__get__"))) && (decide (PySem.W.takesIn K (.builtin "object.__class__") = some true) && (decide (PySem.W.mroIn K C (.type "object") = some true) &&
    ((fl.all fun f => decide (PySem.W.findIn K (.ref C) f = some none)) && (decide (PySem.W.exmOne K (.ref C) (.ref S) = some true) && ((cs.all fun z => decide (PySem.W.kitOne K (.ref C) (.ref (gA K z)) = some (decide (y = z)))) && decide (PySem.W.kitOne K (.ref C) (.type "ValueError") = some true))))))))
def ckErrs (K : PySem.W.Frag) (sky : Str) (cs fl : List Str) : Bool := ckGlo K sky && ((cs.all fun y => ckGlo K y) && cs.all fun y => ckErr1 K (gA K sky) cs fl y (gA K y))
/-- a constant -/
def ckD (K : PySem.W.Frag) (u : Value) : D → Bool
  | .int i => (match u with | .int j _ => decide (j = i) | _ => false)
  | .str x => (match u with | .str y _ => decide (y = x) | _ => false)
  | .bl b => (match u with | .bool c => decide (c = b) | _ => false)
  | .non => (match u with | .none => true | _ => false)
  | .ktup ds => (match u with
    | .ref a => (match K.lookup a with
      | some ⟨.type "tuple", _, .seq its _, _⟩ => decide (its.size ≤ sizeLine) && all its.toList ds
      | _ => false)
    | _ => false)
  | _ => false
where all : List Value → List D → Bool
  | [], [] => true
  | u :: us, d :: ds => ckD K u d && all us ds
  | _, _ => false
def ckK (K : PySem.W.Frag) (x : Str) (d : D) : Bool := match PySem.W.nsIn K mainGlobals x with
  | some (some u) => ckD K u d
  | _ => false
theorem ba {a b : Bool} (h : (a && b) = true) : a = true ∧ b = true := Bool.and_eq_true_iff.mp h
mutual
theorem ckD_ok {K : PySem.W.Frag} : ∀ (d : D) (u : Value), ckD K u d = true → ∃ v, RelV v u ∧ ∀ w, Dat K w v d
  | .int i, u, h => by
    unfold ckD at h
    split at h
    · rename_i j t
      have e := of_decide_eq_true h
      subst e
      exact ⟨.int j, ⟨_, rfl⟩, fun _ => .int _⟩
    · cases h
  | .str i, u, h => by
    unfold ckD at h
    split at h
    · rename_i j t
      have e := of_decide_eq_true h
      subst e
      exact ⟨.str j, ⟨_, rfl⟩, fun _ => .str _⟩
    · cases h
  | .bl i, u, h => by
    unfold ckD at h
    split at h
    · rename_i j
      have e := of_decide_eq_true h
      subst e
      exact ⟨.bl j, rfl, fun _ => .bl _⟩
    · cases h
  | .non, u, h => by
    unfold ckD at h
    split at h
    · exact ⟨.non, rfl, fun _ => .non⟩
    · cases h
  | .ktup ds, u, h => by
    unfold ckD at h
    split at h
    · rename_i a
      split at h
      · rename_i od its n sl e
        obtain ⟨h1, h2⟩ := ba h
        obtain ⟨vs, r, q⟩ := ckDs_ok ds its.toList h2
        exact ⟨.ref a, rfl, fun w => .ktup (.inr ⟨_, its, n, e, rfl, rfl, of_decide_eq_true h1, r⟩) (q w)⟩
      · cases h
    · cases h
  | .tup ds, u, h => by unfold ckD at h; cases h
  | .lst ds, u, h => by unfold ckD at h; cases h
  | .scr ds, u, h => by unfold ckD at h; cases h
  | .ref ds, u, h => by unfold ckD at h; cases h
theorem ckDs_ok {K : PySem.W.Frag} : ∀ (ds : List D) (us : List Value), ckD.all K us ds = true → ∃ vs, Vals vs us ∧ ∀ w, DatL K w vs ds
  | [], [], _ => ⟨[], .nil, fun _ => .nil⟩
  | d :: ds, u :: us, h => by
    unfold ckD.all at h
    obtain ⟨h1, h2⟩ := ba h
    obtain ⟨v, r, q⟩ := ckD_ok d u h1
    obtain ⟨vs, r2, q2⟩ := ckDs_ok ds us h2
    exact ⟨v :: vs, .cons r r2, fun w => .cons (q w) (q2 w)⟩
  | [], _ :: _, h => by unfold ckD.all at h; cases h
  | _ :: _, [], h => by unfold ckD.all at h; cases h
end
section
variable {K : PySem.W.Frag} {h : Heap} {mg : Str → Option Value}
theorem glo_of (X : K.In h) (G : h.Ns mainGlobals mg) {x : Str} (c : ckGlo K x = true) : mg x = some (.ref (gA K x)) := PySem.W.mg_of X G (of_decide_eq_true c)
theorem free_of (X : K.In h) (G : h.Ns mainGlobals mg) {x : Str} (c : ckFree K x = true) : mg x = none := PySem.W.mg_none_of X G (of_decide_eq_true c)
theorem cls0_of (X : K.In h) (G : h.Ns mainGlobals mg) {x : Str} (c : ckC0 K x = true) : Cls0 K mg x := by
  obtain ⟨c1, c⟩ := ba c
  obtain ⟨c2, c⟩ := ba c
  obtain ⟨c3, c⟩ := ba c
  obtain ⟨c4, c5⟩ := ba c
  exact ⟨_, glo_of X G c1, c2, c3, of_decide_eq_true c4, of_decide_eq_true c5⟩
theorem base_of (X : K.In h) (G : h.Ns mainGlobals mg) {x : Str} (c : ckBase K x = true) : BaseInit K mg x := by
  obtain ⟨c1, c⟩ := ba c
  obtain ⟨c2, c⟩ := ba c
  obtain ⟨c3, c4⟩ := ba c
  refine ⟨_, glo_of X G c1, of_decide_eq_true c2, c3, ?_⟩
  split at c4
  · rename_i v e
    rw [e, of_decide_eq_true c4]
  · cases c4
theorem errs_of (X : K.In h) (G : h.Ns mainGlobals mg) {sky : Str} {cs fl : List Str} (c : ckErrs K sky cs fl = true) : Errs K mg sky cs fl := by
  obtain ⟨c1, c⟩ := ba c
  obtain ⟨c2, c3⟩ := ba c
  refine ⟨_, glo_of X G c1, fun y hy => ⟨gA K y, ?_⟩⟩
  have e := List.all_eq_true.mp c3 y hy
  obtain ⟨e1, e⟩ := ba e
  obtain ⟨e2, e⟩ := ba e
  obtain ⟨e3, e⟩ := ba e
  obtain ⟨e4, e⟩ := ba e
  obtain ⟨e5, e⟩ := ba e
  obtain ⟨e6, e⟩ := ba e
  obtain ⟨e7, e⟩ := ba e
  obtain ⟨e8, e9⟩ := ba e
  have xf := xfB_ok e1
  exact ⟨glo_of X G (List.all_eq_true.mp c2 y hy), ⟨xf.ga, xf.gg, xf.exC, xf.hdC, of_decide_eq_true e2, of_decide_eq_true e3, of_decide_eq_true e4, of_decide_eq_true e5⟩, xf, fun f hf => of_decide_eq_true (List.all_eq_true.mp e6 f hf), of_decide_eq_true e7,
    fun z hz Cz ez => by
      have := (glo_of X G (List.all_eq_true.mp c2 z hz)).symm.trans ez
      cases this
      exact of_decide_eq_true (List.all_eq_true.mp e8 z hz), of_decide_eq_true e9⟩
theorem kat_of (X : K.In h) (G : h.Ns mainGlobals mg) {x : Str} {d : D} (c : ckK K x d = true) : KAt K mg x d := by
  unfold ckK at c
  split at c
  · rename_i u e
    obtain ⟨v, r, q⟩ := ckD_ok d u c
    exact ⟨u, v, PySem.W.mg_of X G e, r, q⟩
  · cases c
theorem defAt_mk {x : Str} {st : Stmt} {ps : List Str} {f : Addr} {oc : Value} {od an : Option Addr} {osl : Array (Option Value)} {kV doc pm cdv ct : Value} (X : K.In h) (G : h.Ns mainGlobals mg) (a : PySem.W.nsIn K mainGlobals x = some (some (.ref f)))
    (l : K.lookup f = some ⟨oc, od, .func (PySem.W.fnOf x x (defArgs st) (defBody st) (defScope st) .none kV doc pm an cdv ct), osl⟩) (c : PySem.W.codeIn K cdv x = true) (k : PySem.W.keepIn K (.ref f) = true)
    (b : ∀ (kV doc pm : Value) (an : Option Addr) (cdv ct : Value) (us : List Value), us.length = ps.length → bindArgs (PySem.W.fnOf x x (defArgs st) (defBody st) (defScope st) .none kV doc pm an cdv ct) ⟨us, []⟩ = pure (ps.zip us)) : DefAt K mg x st ps :=
  ⟨f, _, fun_mk l c k, PySem.W.mg_of X G a, (fun_mk l c k).binds b⟩
theorem cls1_mk {x q f : Str} {st : Stmt} {ps : List Str} {C fI : Addr} {oc : Value} {od an : Option Addr} {osl : Array (Option Value)} {kV doc pm cdv ct : Value}
    {nm qn : Str} {N : Addr} {bs bm : List Value} {sn : List Str} {sub : List Value} {ab : Bool} {col : Option Bool} {dd : Option Addr} {m0 m1 m2 m3 m5 : Option Value} (X : K.In h) (G : h.Ns mainGlobals mg) (a : PySem.W.nsIn K mainGlobals x = some (some (.ref C)))
    (xL : K.lookup C = some (excClassObj nm qn C N bs bm true sn sub ab col dd m0 m1 m2 m3 m5 "ValueError.__new__")) (rv : PySem.HandSPX.refsVE bm = true)
    (sa : PySem.W.findIn K (.ref C) "__setattr__" = some (some (.builtin "object.__setattr__"))) (eC : PySem.W.subIn K (.ref C) (.type "BaseException") = some true) (tC : PySem.W.typeIn K (.ref C) = some (.type "type")) (kC : PySem.W.keepIn K (.ref C) = true)
    (nf : PySem.W.findIn K (.ref C) f = some none) (i : PySem.W.findIn K (.ref C) "__init__" = some (some (.ref fI))) (tI : PySem.W.typeIn K (.ref fI) = some (.type "function"))
    (l : K.lookup fI = some ⟨oc, od, .func (PySem.W.fnOf "__init__" q (defArgs st) (defBody st) (defScope st) .none kV doc pm an cdv ct), osl⟩) (c : PySem.W.codeIn K cdv q = true) (k : PySem.W.keepIn K (.ref fI) = true)
    (b : ∀ (kV doc pm : Value) (an : Option Addr) (cdv ct : Value) (us : List Value), us.length = ps.length → bindArgs (PySem.W.fnOf "__init__" q (defArgs st) (defBody st) (defScope st) .none kV doc pm an cdv ct) ⟨us, []⟩ = pure (ps.zip us)) : Cls1 K mg x q st ps f :=
  ⟨C, fI, _, PySem.W.mg_of X G a, ⟨⟨nm, qn, N, bs, bm, sn, sub, ab, col, dd, m0, m1, m2, m3, m5, xL, rv⟩, sa, eC, tC, kC⟩, nf, i, tI, fun_mk l c k, (fun_mk l c k).binds b⟩
end
abbrev DefAtX {K : PySem.W.Frag} {h : Heap} (_ : K.In h) (mg : Str → Option Value) (x : Str) (st : Stmt) (ps : List Str) : Prop := DefAt K mg x st ps
abbrev Cls1X {K : PySem.W.Frag} {h : Heap} (_ : K.In h) (mg : Str → Option Value) (x q : Str) (st : Stmt) (ps : List Str) (f : Str) : Prop := Cls1 K mg x q st ps f
/-! ### the law -/
def w00 : Wd := ⟨fun _ => none, []⟩
theorem datL_ints {K : PySem.W.Frag} {w : Wd} : ∀ ns : List Int, DatL K w (ns.map V.int) (ns.map D.int)
  | [] => .nil
  | n :: ns => .cons (.int n) (datL_ints ns)
theorem rel_start {K : PySem.W.Frag} {ts : List (Addr × Str)} {H : Hp} {a : Addr} {ns : List Int} (ht : ∀ p ∈ ts, H p.1 = some (.tbl #[])) (hS : SqL K H a (ns.map V.int)) : ∃ w, Rel K ⟨ts, w00⟩ w [] H ∧ Dat K w (.ref a) (.scr (ns.map D.int)) := by
  refine ⟨⟨fun b => match H b with | some (.tbl _) => none | o => o, []⟩, ⟨fun b o e => ?_, rfl, fun k o a e => by simp at e, fun j k o u a e => by simp at e, fun p hp => LamX.TabS.nil (ht p hp), fun b ps e => ?_, ⟨fun b o e => (by cases e), [], rfl⟩⟩, .scr ?_ (datL_ints ns)⟩
  · have e' : (match H b with | some (.tbl _) => none | o => o) = some o := e
    split at e'
    · cases e'
    · exact e'
  · have e' : (match H b with | some (.tbl _) => none | o => o) = some (.tbl ps) := e
    split at e'
    · cases e'
    · rename_i h
      exact h ps e'
  · rcases hS with (hS | ⟨o, hS⟩) | hS
    · exact .inl (.inl (by show (match H a with | some (.tbl _) => none | o => o) = _; rw [hS]))
    · exact .inl (.inr ⟨o, by show (match H a with | some (.tbl _) => none | o => o) = _; rw [hS]⟩)
    · exact .inr hS
/-- the law is true on every script: its row -/
theorem law_at {l : PySem.W.OpenLaw} {w : World} {K : PySem.W.Frag} {lv n : Nat} {x : Str} {mg : Str → Option Value} {fa c Pt : Addr} {q : Str} {h : Heap} {fd : FuncData} {f : List D → Mu → Res D} (hT : h.get? Pt = some { cls := .none, data := .fields #[] }) (nT : K.lookup Pt = none) (ch : PySem.W.CodeHd h c Pt)
    (hb : ∀ (s : Shared) (u : Value), BindsTo s fd ⟨[u], []⟩ [(x, u)]) (hF : ∀ base : Heap, K.In base → base.Ns mainGlobals mg → LamX.TabB base mg c Pt → FnOk l.prog w K mg base (L2.CX l.prog w) lv fa fd [x] (spI K mg ⟨[(Pt, q)], w00⟩ 1 f))
    (hf : ∀ ns : List Int, ns.length ≤ n → (∀ z ∈ ns, Builtin.Int.intBits z ≤ 1048576) → ∃ m, f [.scr (ns.map D.int)] [] = .ok (.bl true) m) : LamX.LawAtS l w K (L2.CX l.prog w) lv n x mg fa h := by
  refine ⟨fd, [(c, Pt)], spI K mg ⟨[(Pt, q)], w00⟩ 1 f, fun p hp => ?_, fun p hp => ?_, fun p hp => ?_, hb, fun H a ns hl hbits hH hS => ?_, fun base h1 h2 h3 => hF base h1 h2 (h3 (c, Pt) (List.mem_singleton.mpr rfl))⟩
  · rw [List.mem_singleton.mp hp]; exact hT
  · rw [List.mem_singleton.mp hp]; exact nT
  · rw [List.mem_singleton.mp hp]; exact ch
  · obtain ⟨m, e⟩ := hf ns hl hbits
    obtain ⟨w0, R, d⟩ := rel_start (K := K) (ts := [(Pt, q)]) (fun p hp => by rw [List.mem_singleton.mp hp]; exact hH (c, Pt) (List.mem_singleton.mpr rfl)) hS
    refine ⟨rfl, w0, [], [.scr (ns.map D.int)], R, .cons d .nil, ?_⟩
    rw [e]
    intro w' H' _ _ v hv
    cases hv
    rfl
theorem code_of {K : PySem.W.Frag} {cdv : Value} {q : Str} (e : PySem.W.codeIn K cdv q = true) : ∃ c, cdv = .ref c := by
  unfold PySem.W.codeIn at e
  split at e
  · exact ⟨_, rfl⟩
  · cases e
theorem hCX_ {P : Program} : ∀ (w : World) (H : L2.Hp) (s : Shared) (e : Value) (s' : Shared), L2.CX P w [] H s (fun _ _ _ => False) e s' → False := by
  intro w H s e s' h
  obtain ⟨_, _, _, _, _, _, _, _, _, _, _, _, h⟩ := h
  exact h
end Rx
set_option Elab.async false
set_option linter.all false
set_option maxRecDepth 100000
set_option maxHeartbeats 4000000
namespace Tx
open PySem PySem.Spec PyProof.Rows L2 Rx
abbrev top (i : Nat) : Stmt := PySem.Challenge.pw_skypairs_k06_lights_turned.main.body.getD i (.Pass ⟨0, 0, 0, 0⟩)

abbrev errs_ : List Str := ["BadLights", "BadRule", "BadSlip", "BadCount", "NoLight", "BadDeed", "Halted", "BadText"]
def k_MOST_LIGHTS : D := (.int 16)
def k_LIGHT_BOUNDS : D := (.ktup [(.ktup [(.int (-999)), (.int 999)]), (.ktup [(.int (-999)), (.int 999)]), (.ktup [(.int 0), (.int 99)])])
def k_TURNS : D := (.ktup [(.ktup [(.int 1), (.int 0), (.int 0), (.int 1)]), (.ktup [(.int 0), (.int (-1)), (.int 1), (.int 0)]), (.ktup [(.int (-1)), (.int 0), (.int 0), (.int (-1))]), (.ktup [(.int 0), (.int 1), (.int (-1)), (.int 0)]), (.ktup [(.int (-1)), (.int 0), (.int 0), (.int 1)]), (.ktup [(.int 0), (.int 1), (.int 1), (.int 0)]), (.ktup [(.int 1), (.int 0), (.int 0), (.int (-1))]), (.ktup [(.int 0), (.int (-1)), (.int (-1)), (.int 0)])])
abbrev st_BadLights : Stmt := match top 2 with | .ClassDef (body := b) .. => b.getD 0 (.Pass ⟨0, 0, 0, 0⟩) | s => s
theorem sc_BadLights : FnScope ["self", "number"] ["self", "number"] (defScope st_BadLights) := ⟨rfl, rfl, rfl, by decide +kernel, rfl, by decide +kernel, by decide +kernel⟩
abbrev st_is_number : Stmt := top 13
theorem sc_is_number : FnScope ["thing", "low", "high"] ["thing", "low", "high"] (defScope st_is_number) := ⟨rfl, rfl, rfl, by decide +kernel, rfl, by decide +kernel, by decide +kernel⟩
abbrev st_are_numbers : Stmt := top 14
theorem sc_are_numbers : FnScope ["thing", "bounds", "part", "low", "high"] ["thing", "bounds"] (defScope st_are_numbers) := ⟨rfl, rfl, rfl, by decide +kernel, rfl, by decide +kernel, by decide +kernel⟩
abbrev st_check_lights : Stmt := top 15
theorem sc_check_lights : FnScope ["lights", "places", "number", "light", "place"] ["lights"] (defScope st_check_lights) := ⟨rfl, rfl, rfl, by decide +kernel, rfl, by decide +kernel, by decide +kernel⟩
abbrev st_check_count : Stmt := top 16
theorem sc_check_count : FnScope ["thing", "low", "high"] ["thing", "low", "high"] (defScope st_check_count) := ⟨rfl, rfl, rfl, by decide +kernel, rfl, by decide +kernel, by decide +kernel⟩
abbrev st_check_turn : Stmt := top 20
theorem sc_check_turn : FnScope ["turn"] ["turn"] (defScope st_check_turn) := ⟨rfl, rfl, rfl, by decide +kernel, rfl, by decide +kernel, by decide +kernel⟩
abbrev st_turned_lights : Stmt := top 21
theorem sc_turned_lights : FnScope ["lights", "turn", "a", "b", "c", "d", "x", "y", "glow"] ["lights", "turn"] (defScope st_turned_lights) := ⟨rfl, rfl, rfl, by decide +kernel, rfl, by decide +kernel, by decide +kernel⟩
abbrev st_turned : Stmt := top 19
theorem sc_turned : FnScope ["lights", "turn"] ["lights", "turn"] (defScope st_turned) := ⟨rfl, rfl, rfl, by decide +kernel, rfl, by decide +kernel, by decide +kernel⟩
abbrev st__law_row : Stmt := top 23
theorem sc__law_row : FnScope ["_law_script", "_law_mixed", "_law_cell"] ["_law_script"] (defScope st__law_row) := ⟨rfl, rfl, rfl, by decide +kernel, rfl, by decide +kernel, by decide +kernel⟩
abbrev st__law_taken : Stmt := top 24
theorem sc__law_taken : FnScope ["_law_row_here", "_law_many", "_law_found", "_law_cell"] ["_law_row_here", "_law_many"] (defScope st__law_taken) := ⟨rfl, rfl, rfl, by decide +kernel, rfl, by decide +kernel, by decide +kernel⟩
abbrev st__law_light : Stmt := top 25
theorem sc__law_light : FnScope ["_law_row_here", "_law_wide"] ["_law_row_here", "_law_wide"] (defScope st__law_light) := ⟨rfl, rfl, rfl, by decide +kernel, rfl, by decide +kernel, by decide +kernel⟩
abbrev st__law_lights : Stmt := top 26
theorem sc__law_lights : FnScope ["_law_row_here", "_law_many", "_law_wide", "_law_k", "_law_found", "_law_places", "_law_light_here"] ["_law_row_here", "_law_many", "_law_wide"] (defScope st__law_lights) := ⟨rfl, rfl, rfl, by decide +kernel, rfl, by decide +kernel, by decide +kernel⟩
abbrev st__law_alike : Stmt := top 27
theorem sc__law_alike : FnScope ["_law_found", "_law_due", "_law_same_kind", "_law_k"] ["_law_found", "_law_due"] (defScope st__law_alike) := ⟨rfl, rfl, rfl, by decide +kernel, rfl, by decide +kernel, by decide +kernel⟩
abbrev st__law_word : Stmt := top 28
theorem sc__law_word : FnScope ["_law_work", "_law_found", "e", "_law_kinds", "_law_names", "_law_name"] ["_law_work"] (defScope st__law_word) := ⟨rfl, rfl, rfl, by decide +kernel, rfl, by decide +kernel, by decide +kernel⟩
abbrev st__law_way : Stmt := top 29
theorem sc__law_way : FnScope ["_law_number", "_law_x", "_law_y", "_law_some"] ["_law_number", "_law_x", "_law_y"] (defScope st__law_way) := ⟨rfl, rfl, rfl, by decide +kernel, rfl, by decide +kernel, by decide +kernel⟩
abbrev st_law : Stmt := top 30
theorem sc_law : FnScope ["_law_script", "_law_row_here", "_law_k", "_law_due", "_law_odd", "_law_lights_here", "_law_number", "_law_x", "_law_y", "_law_glow", "_law_way_here"] ["_law_script"] (defScope st_law) := ⟨rfl, rfl, rfl, by decide +kernel, rfl, by decide +kernel, by decide +kernel⟩
structure Facts (K : PySem.W.Frag) (mg : Str → Option Value) : Prop where
  n_ValueError : mg "ValueError" = none
  n_all : mg "all" = none
  n_bool : mg "bool" = none
  n_enumerate : mg "enumerate" = none
  n_int : mg "int" = none
  n_isinstance : mg "isinstance" = none
  n_len : mg "len" = none
  n_list : mg "list" = none
  n_range : mg "range" = none
  n_str : mg "str" = none
  n_tuple : mg "tuple" = none
  n_zip : mg "zip" = none
  d_is_number : DefAt K mg "is_number" st_is_number ["thing", "low", "high"]
  d_are_numbers : DefAt K mg "are_numbers" st_are_numbers ["thing", "bounds"]
  d_check_lights : DefAt K mg "check_lights" st_check_lights ["lights"]
  d_check_count : DefAt K mg "check_count" st_check_count ["thing", "low", "high"]
  d_check_turn : DefAt K mg "check_turn" st_check_turn ["turn"]
  d_turned_lights : DefAt K mg "turned_lights" st_turned_lights ["lights", "turn"]
  d_turned : DefAt K mg "turned" st_turned ["lights", "turn"]
  d__law_row : DefAt K mg "_law_row" st__law_row ["_law_script"]
  d__law_taken : DefAt K mg "_law_taken" st__law_taken ["_law_row_here", "_law_many"]
  d__law_light : DefAt K mg "_law_light" st__law_light ["_law_row_here", "_law_wide"]
  d__law_lights : DefAt K mg "_law_lights" st__law_lights ["_law_row_here", "_law_many", "_law_wide"]
  d__law_alike : DefAt K mg "_law_alike" st__law_alike ["_law_found", "_law_due"]
  d__law_word : DefAt K mg "_law_word" st__law_word ["_law_work"]
  d__law_way : DefAt K mg "_law_way" st__law_way ["_law_number", "_law_x", "_law_y"]
  errs : Errs K mg "SkyError" errs_ ["number", "done", "row"]
  x_BadLights : Cls1 K mg "BadLights" "BadLights.__init__" st_BadLights ["self", "number"] "number"
  b_SkyError : BaseInit K mg "SkyError"
  x_BadCount : Cls0 K mg "BadCount"
  g_MOST_LIGHTS : KAt K mg "MOST_LIGHTS" k_MOST_LIGHTS
  g_LIGHT_BOUNDS : KAt K mg "LIGHT_BOUNDS" k_LIGHT_BOUNDS
  g_TURNS : KAt K mg "TURNS" k_TURNS
section
variable {P : Program} {w : World} {K : PySem.W.Frag} {mg : Str → Option Value} {base : Heap}
theorem i_BadLights (M : Facts K mg) : Rais1 P w K mg base 1 "BadLights" "number" ["self", "number"] := init_ok M.x_BadLights M.b_SkyError sc_BadLights rfl rfl (by decide) (.inl rfl) (.inl rfl) (by decide) (by decide) (by decide) (by decide) (by decide) (by decide) (fun _ => ⟨_, rfl⟩)
def b_is_number : SSt := (sRet (sAnd (s1 (dIsi [Ty.int]) (sVar 0)) (sAnd (sNot (s1 (dIsi [Ty.bool]) (sVar 0))) (sChain dLe dLe (sVar 1) (sVar 0) (sVar 2)))))
def f_is_number : List D → Mu → Res D := run 3 b_is_number
theorem c_is_number (M : Facts K mg) (T_ : Tb) : Cal P w K mg base T_ 1 "is_number" 3 f_is_number := by
  obtain ⟨fa, fd, F, hm, hb⟩ := M.d_is_number.ex
  refine ⟨fa, fd, ["thing", "low", "high"], fn_run F sc_is_number (fun cdv A outer s H E hr => ?_), hm, F.kp, hb, rfl⟩
  have tk := takes_of (X := cxOf (L2.CX P w) P w K mg base ["thing", "low", "high"] "is_number" (defScope st_is_number) fa cdv A outer s H E) rfl rfl rfl rfl
  have hu1 := hu_of hr; have hu64 := hr.units; have hu65 := units65 hr
  exact (rs_one (rs_ret (re_and (re_isi (t := Ty.int) (fun h => pe_callB call_isi (by rfl) M.n_isinstance (by decide +kernel) (pa_cons h (pa_cons (pe_bltn (v := .ty "int") (u := .type "int") (by rfl) M.n_int (by decide +kernel) (by rfl)) pa_nil))) (re_var (pv 0))) (re_and (re_not (re_isi (t := Ty.bool) (fun h => pe_callB call_isi (by rfl) M.n_isinstance (by decide +kernel) (pa_cons h (pa_cons (pe_bltn (v := .ty "bool") (u := .type "bool") (by rfl) M.n_bool (by decide +kernel) (by rfl)) pa_nil))) (re_var (pv 0)))) (re_one_b (re_chain (op_le) (op_le) ru_le ru_le (re_var (pv 1)) (re_var (pv 0)) (re_var (pv 2))))))))
def b_are_numbers : SSt := (sSeq (sIf (bOr (bNot (sTst (s1 (dIsi [Ty.tuple]) (sVar 0)))) (sTst (s2 dNe (sB dLen (aCons (sVar 0) aNil)) (sB dLen (aCons (sVar 1) aNil))))) (sRet (sC (.bl false))) sNil) (sRet (sB dAll (aCons (sLc (iZp (aCons (sVar 0) (aCons (sVar 1) aNil))) (gT (gsCons (gN 2) (gsCons (gT (gsCons (gN 3) (gsCons (gN 4) gsNil))) gsNil))) bYes (sCall 3 f_is_number (aCons (sVar 2) (aCons (sVar 3) (aCons (sVar 4) aNil)))) [2, 3, 4]) aNil))))
def f_are_numbers : List D → Mu → Res D := run 5 b_are_numbers
theorem c_are_numbers (M : Facts K mg) (T_ : Tb) : Cal P w K mg base T_ 2 "are_numbers" 2 f_are_numbers := by
  obtain ⟨fa, fd, F, hm, hb⟩ := M.d_are_numbers.ex
  refine ⟨fa, fd, ["thing", "bounds"], fn_run F sc_are_numbers (fun cdv A outer s H E hr => ?_), hm, F.kp, hb, rfl⟩
  have tk := takes_of (X := cxOf (L2.CX P w) P w K mg base ["thing", "bounds", "part", "low", "high"] "are_numbers" (defScope st_are_numbers) fa cdv A outer s H E) rfl rfl rfl rfl
  have hu1 := hu_of hr; have hu64 := hr.units; have hu65 := units65 hr
  exact (rs_cons (rs_if (PW.pt (rw_or (rt_not (rt_val (re_isi (t := Ty.tuple) (fun h => pe_callB call_isi (by rfl) M.n_isinstance (by decide +kernel) (pa_cons h (pa_cons (pe_bltn (v := .ty "tuple") (u := .type "tuple") (by rfl) M.n_tuple (by decide +kernel) (by rfl)) pa_nil))) (re_var (pv 0))))) (rw_one_or (rt_cmp (op_neD hu64) ru_ne (re_b (fun h => pe_callB (call_len_seq) (by rfl) M.n_len PySem.boot_len h) ru_len (ra_cons (re_var (pv 0)) ra_nil)) (re_b (fun h => pe_callB (call_len_seq) (by rfl) M.n_len PySem.boot_len h) ru_len (ra_cons (re_var (pv 1)) ra_nil)) (nomark _))))) (rs_one (rs_ret (re_c pe_bl fun _ => .bl _))) rs_nil) (rs_one (rs_ret (re_b (fun h => pe_callB (cr_all (by rfl)) (by rfl) M.n_all (by decide +kernel) h) ru_all (ra_cons (PE.imp (pe_lc (own := [("part", 2), ("low", 3), ("high", 4)]) rfl sc_are_numbers.nd (ri_zp (fun h => RZ.pi_zipA (by rfl) M.n_zip h) (ra_cons (re_var (pv 0)) (ra_cons (re_var (pv 1)) ra_nil))) (blkOk_by (N := ["thing", "bounds", "part", "low", "high"]) (sc := defScope st_are_numbers) (by decide +kernel)) (fun _ _ _ _ _ => (rg_t rfl (rgs_cons (gOwn_ok _) (rg_n (pg_name (i := 2) sc_are_numbers.nd (by rfl) (by first | exact Or.inl rfl | exact Or.inr rfl)) (fun _ _ => wipe_set _ _ _ _ (by decide))) (rgs_cons (gOwn_ok _) (rg_t rfl (rgs_cons (gOwn_ok _) (rg_n (pg_name (i := 3) sc_are_numbers.nd (by rfl) (by first | exact Or.inl rfl | exact Or.inr rfl)) (fun _ _ => wipe_set _ _ _ _ (by decide))) (rgs_cons (gOwn_ok _) (rg_n (pg_name (i := 4) sc_are_numbers.nd (by rfl) (by first | exact Or.inl rfl | exact Or.inr rfl)) (fun _ _ => wipe_set _ _ _ _ (by decide))) (rgs_nil (gOwn_ok _)))) (gsCons_len (gsCons_len gsNil_len))) (rgs_nil (gOwn_ok _)))) (gsCons_len (gsCons_len gsNil_len)))) (fun _ _ _ _ _ => rpts_nil) (fun _ _ _ _ _ => (re_call (c_is_number M T_) (hr.mono (by decide)) takes0 (by rfl) (ra_cons (re_var (pv 2)) (ra_cons (re_var (pv 3)) (ra_cons (re_var (pv 4)) ra_nil)))))) (fun σ H Q h => rd_lc rfl σ H Q h)) ra_nil)))))
def b_check_lights : SSt := (sSeq (sIf (bNot (sTst (s1 (dIsi [Ty.tuple]) (sVar 0)))) (sRaise1 "BadLights" "number" (aCons (sC (.int 0)) aNil)) sNil) (sSeq (sSet 1 sDic) (sFor (iEn (aCons (sVar 0) aNil)) (gT (gsCons (gN 2) (gsCons (gN 3) gsNil))) (sSeq (sIf (bOr (sTst (s2 dEq (sVar 2) (sC k_MOST_LIGHTS))) (bNot (sTst (sCall 2 f_are_numbers (aCons (sVar 3) (aCons (sC k_LIGHT_BOUNDS) aNil)))))) (sRaise1 "BadLights" "number" (aCons (sVar 2) aNil)) sNil) (sSeq (sSet 4 (sSl (sVar 3) oNo (oSo (sC (.int 2))))) (sSeq (sIf (sTst (s2 dDin (sVar 4) (sVar 1))) (sRaise1 "BadLights" "number" (aCons (sVar 2) aNil)) sNil) (sDput (sC (.bl true)) (sVar 1) (sVar 4))))))))
def f_check_lights : List D → Mu → Res D := runT 5 b_check_lights
theorem c_check_lights (M : Facts K mg) (T_ : Tb) : Cal P w K mg base T_ 3 "check_lights" 1 f_check_lights := by
  obtain ⟨fa, fd, F, hm, hb⟩ := M.d_check_lights.ex
  refine ⟨fa, fd, ["lights"], fn_runT F sc_check_lights (fun cdv A outer s H E hr => ?_), hm, F.kp, hb, rfl⟩
  have tk := takes_of (X := cxOf (L2.CX P w) P w K mg base ["lights", "places", "number", "light", "place"] "check_lights" (defScope st_check_lights) fa cdv A outer s H E) rfl rfl rfl rfl
  have hu1 := hu_of hr; have hu64 := hr.units; have hu65 := units65 hr
  exact (rs_cons (rs_if (rt_not (rt_val (re_isi (t := Ty.tuple) (fun h => pe_callB call_isi (by rfl) M.n_isinstance (by decide +kernel) (pa_cons h (pa_cons (pe_bltn (v := .ty "tuple") (u := .type "tuple") (by rfl) M.n_tuple (by decide +kernel) (by rfl)) pa_nil))) (re_var (pv 0))))) (rs_one (rs_rais1 (i_BadLights M) (hr.mono (by decide)) rfl tk rfl (ra_cons (re_c pe_int fun _ => .int _) ra_nil))) rs_nil) (rs_cons (rs_set (fun h => ps_set (i := 1) sc_check_lights.nd rfl (by first | exact Or.inl rfl | exact Or.inr rfl) h) re_dic) (rs_one (rs_for (passes_of rfl) rfl (ri_en (fun h => pi_enum1 (by rfl) M.n_enumerate h) (ra_cons (re_var (pv 0)) ra_nil)) (rg_t rfl (rgs_cons gAny_ok (rg_n (pg_name (i := 2) sc_check_lights.nd (by rfl) (by first | exact Or.inl rfl | exact Or.inr rfl)) (fun _ _ => trivial)) (rgs_cons gAny_ok (rg_n (pg_name (i := 3) sc_check_lights.nd (by rfl) (by first | exact Or.inl rfl | exact Or.inr rfl)) (fun _ _ => trivial)) (rgs_nil gAny_ok))) (gsCons_len (gsCons_len gsNil_len))) (rs_cons (rs_if (PW.pt (rw_or (rt_cmp (op_eqD hu64) ru_eq (re_var (pv 2)) (re_glob M.g_MOST_LIGHTS rfl) (nomark _)) (rw_one_or (rt_not (rt_val (re_call (c_are_numbers M T_) (hr.mono (by decide)) tk (by rfl) (ra_cons (re_var (pv 3)) (ra_cons (re_glob M.g_LIGHT_BOUNDS rfl) ra_nil)))))))) (rs_one (rs_rais1 (i_BadLights M) (hr.mono (by decide)) rfl tk rfl (ra_cons (re_var (pv 2)) ra_nil))) rs_nil) (rs_cons (rs_set (fun h => ps_set (i := 4) sc_check_lights.nd rfl (by first | exact Or.inl rfl | exact Or.inr rfl) h) (re_sl (re_var (pv 3)) ro_no (ro_so (re_c pe_int fun _ => .int _)))) (rs_cons (rs_if (rt_din hu1 (re_var (pv 4)) (re_var (pv 1)) (by with_unfolding_all rfl)) (rs_one (rs_rais1 (i_BadLights M) (hr.mono (by decide)) rfl tk rfl (ra_cons (re_var (pv 2)) ra_nil))) rs_nil) (rs_one (rs_dput hu1 (re_c pe_bl fun _ => .bl _) (re_var (pv 1)) (re_var (pv 4)))))))))))
def b_check_count : SSt := (sIf (bNot (sTst (sCall 3 f_is_number (aCons (sVar 0) (aCons (sVar 1) (aCons (sVar 2) aNil)))))) (sRaise0 "BadCount" (aCons (sJs (.inl "a number from " :: (.inr (sVar 1) :: (.inl " to " :: (.inr (sVar 2) :: (.inl " is asked here" :: [])))))) aNil)) sNil)
def f_check_count : List D → Mu → Res D := run 3 b_check_count
theorem c_check_count (M : Facts K mg) (T_ : Tb) : Cal P w K mg base T_ 3 "check_count" 3 f_check_count := by
  obtain ⟨fa, fd, F, hm, hb⟩ := M.d_check_count.ex
  refine ⟨fa, fd, ["thing", "low", "high"], fn_run F sc_check_count (fun cdv A outer s H E hr => ?_), hm, F.kp, hb, rfl⟩
  have tk := takes_of (X := cxOf (L2.CX P w) P w K mg base ["thing", "low", "high"] "check_count" (defScope st_check_count) fa cdv A outer s H E) rfl rfl rfl rfl
  have hu1 := hu_of hr; have hu64 := hr.units; have hu65 := units65 hr
  exact (rs_one (rs_if (rt_not (rt_val (re_call (c_is_number M T_) (hr.mono (by decide)) tk (by rfl) (ra_cons (re_var (pv 0)) (ra_cons (re_var (pv 1)) (ra_cons (re_var (pv 2)) ra_nil)))))) (rs_one (rs_rais0 M.x_BadCount rfl tk rfl (ra_cons (re_js (RJ.cs (RJ.fm (re_var (pv 1)) (RJ.cs (RJ.fm (re_var (pv 2)) (RJ.cs RJ.nil)))))) ra_nil))) rs_nil))
def b_check_turn : SSt := (sDo (sCall 3 f_check_count (aCons (sVar 0) (aCons (sC (.int 0)) (aCons (s2 dSub (sB dLen (aCons (sC k_TURNS) aNil)) (sC (.int 1))) aNil)))))
def f_check_turn : List D → Mu → Res D := run 1 b_check_turn
theorem c_check_turn (M : Facts K mg) (T_ : Tb) : Cal P w K mg base T_ 4 "check_turn" 1 f_check_turn := by
  obtain ⟨fa, fd, F, hm, hb⟩ := M.d_check_turn.ex
  refine ⟨fa, fd, ["turn"], fn_run F sc_check_turn (fun cdv A outer s H E hr => ?_), hm, F.kp, hb, rfl⟩
  have tk := takes_of (X := cxOf (L2.CX P w) P w K mg base ["turn"] "check_turn" (defScope st_check_turn) fa cdv A outer s H E) rfl rfl rfl rfl
  have hu1 := hu_of hr; have hu64 := hr.units; have hu65 := units65 hr
  exact (rs_one (rs_do (re_call (c_check_count M T_) (hr.mono (by decide)) tk (by rfl) (ra_cons (re_var (pv 0)) (ra_cons (re_c pe_int fun _ => .int _) (ra_cons (re_bin op_sub ru_sub (re_b (fun h => pe_callB (call_len_seq) (by rfl) M.n_len PySem.boot_len h) ru_len (ra_cons (re_glob M.g_TURNS rfl) ra_nil)) (re_c pe_int fun _ => .int _)) ra_nil))))))
def b_turned_lights : SSt := (sSeq (sAsg (s2 dIx (sC k_TURNS) (sVar 1)) (gT (gsCons (gN 2) (gsCons (gN 3) (gsCons (gN 4) (gsCons (gN 5) gsNil)))))) (sRet (sB dTuple (aCons (sLc (iVal (sVar 0)) (gT (gsCons (gN 6) (gsCons (gN 7) (gsCons (gN 8) gsNil)))) bYes (sTup (aCons (s2 dAdd (s2 dMul (sVar 2) (sVar 6)) (s2 dMul (sVar 3) (sVar 7))) (aCons (s2 dAdd (s2 dMul (sVar 4) (sVar 6)) (s2 dMul (sVar 5) (sVar 7))) (aCons (sVar 8) aNil)))) [6, 7, 8]) aNil))))
def f_turned_lights : List D → Mu → Res D := run 9 b_turned_lights
theorem c_turned_lights (M : Facts K mg) (T_ : Tb) : Cal P w K mg base T_ 1 "turned_lights" 2 f_turned_lights := by
  obtain ⟨fa, fd, F, hm, hb⟩ := M.d_turned_lights.ex
  refine ⟨fa, fd, ["lights", "turn"], fn_run F sc_turned_lights (fun cdv A outer s H E hr => ?_), hm, F.kp, hb, rfl⟩
  have tk := takes_of (X := cxOf (L2.CX P w) P w K mg base ["lights", "turn", "a", "b", "c", "d", "x", "y", "glow"] "turned_lights" (defScope st_turned_lights) fa cdv A outer s H E) rfl rfl rfl rfl
  have hu1 := hu_of hr; have hu64 := hr.units; have hu65 := units65 hr
  exact (rs_cons (rs_asg (fun h1 h2 => ps_asg h1 h2) (re_ix (re_glob M.g_TURNS rfl) (re_var (pv 1)) (fun _ _ => rfl)) (rg_t rfl (rgs_cons gAny_ok (rg_n (pg_name (i := 2) sc_turned_lights.nd (by rfl) (by first | exact Or.inl rfl | exact Or.inr rfl)) (fun _ _ => trivial)) (rgs_cons gAny_ok (rg_n (pg_name (i := 3) sc_turned_lights.nd (by rfl) (by first | exact Or.inl rfl | exact Or.inr rfl)) (fun _ _ => trivial)) (rgs_cons gAny_ok (rg_n (pg_name (i := 4) sc_turned_lights.nd (by rfl) (by first | exact Or.inl rfl | exact Or.inr rfl)) (fun _ _ => trivial)) (rgs_cons gAny_ok (rg_n (pg_name (i := 5) sc_turned_lights.nd (by rfl) (by first | exact Or.inl rfl | exact Or.inr rfl)) (fun _ _ => trivial)) (rgs_nil gAny_ok))))) (gsCons_len (gsCons_len (gsCons_len (gsCons_len gsNil_len)))))) (rs_one (rs_ret (re_b (fun h => pe_callTy (call_tuple_of) (by rfl) M.n_tuple (by decide +kernel) h) ru_tuple (ra_cons (PE.imp (pe_lc (own := [("x", 6), ("y", 7), ("glow", 8)]) rfl sc_turned_lights.nd (ri_val (re_var (pv 0))) (blkOk_by (N := ["lights", "turn", "a", "b", "c", "d", "x", "y", "glow"]) (sc := defScope st_turned_lights) (by decide +kernel)) (fun _ _ _ _ _ => (rg_t rfl (rgs_cons (gOwn_ok _) (rg_n (pg_name (i := 6) sc_turned_lights.nd (by rfl) (by first | exact Or.inl rfl | exact Or.inr rfl)) (fun _ _ => wipe_set _ _ _ _ (by decide))) (rgs_cons (gOwn_ok _) (rg_n (pg_name (i := 7) sc_turned_lights.nd (by rfl) (by first | exact Or.inl rfl | exact Or.inr rfl)) (fun _ _ => wipe_set _ _ _ _ (by decide))) (rgs_cons (gOwn_ok _) (rg_n (pg_name (i := 8) sc_turned_lights.nd (by rfl) (by first | exact Or.inl rfl | exact Or.inr rfl)) (fun _ _ => wipe_set _ _ _ _ (by decide))) (rgs_nil (gOwn_ok _))))) (gsCons_len (gsCons_len (gsCons_len gsNil_len))))) (fun _ _ _ _ _ => rpts_nil) (fun _ _ _ _ _ => (re_tup (ra_cons (re_bin op_addA ru_add (re_bin op_mulA ru_mul (re_var (pv 2)) (re_var (pv 6))) (re_bin op_mulA ru_mul (re_var (pv 3)) (re_var (pv 7)))) (ra_cons (re_bin op_addA ru_add (re_bin op_mulA ru_mul (re_var (pv 4)) (re_var (pv 6))) (re_bin op_mulA ru_mul (re_var (pv 5)) (re_var (pv 7)))) (ra_cons (re_var (pv 8)) ra_nil)))))) (fun σ H Q h => rd_lc rfl σ H Q h)) ra_nil)))))
def b_turned : SSt := (sSeq (sDo (sCall 1 f_check_lights (aCons (sVar 0) aNil))) (sSeq (sDo (sCall 1 f_check_turn (aCons (sVar 1) aNil))) (sRet (sCall 2 f_turned_lights (aCons (sVar 0) (aCons (sVar 1) aNil))))))
def f_turned : List D → Mu → Res D := run 2 b_turned
theorem c_turned (M : Facts K mg) (T_ : Tb) : Cal P w K mg base T_ 5 "turned" 2 f_turned := by
  obtain ⟨fa, fd, F, hm, hb⟩ := M.d_turned.ex
  refine ⟨fa, fd, ["lights", "turn"], fn_run F sc_turned (fun cdv A outer s H E hr => ?_), hm, F.kp, hb, rfl⟩
  have tk := takes_of (X := cxOf (L2.CX P w) P w K mg base ["lights", "turn"] "turned" (defScope st_turned) fa cdv A outer s H E) rfl rfl rfl rfl
  have hu1 := hu_of hr; have hu64 := hr.units; have hu65 := units65 hr
  exact (rs_cons (rs_do (re_call (c_check_lights M T_) (hr.mono (by decide)) tk (by rfl) (ra_cons (re_var (pv 0)) ra_nil))) (rs_cons (rs_do (re_call (c_check_turn M T_) (hr.mono (by decide)) tk (by rfl) (ra_cons (re_var (pv 1)) ra_nil))) (rs_one (rs_ret (re_call (c_turned_lights M T_) (hr.mono (by decide)) tk (by rfl) (ra_cons (re_var (pv 0)) (ra_cons (re_var (pv 1)) ra_nil)))))))
def b__law_row : SSt := (sSeq (sSet 1 (sC (.int 7))) (sSeq (sFor (iVal (sVar 0)) (gN 2) (sSet 1 (s2 dMod (s2 dAdd (s2 dAdd (s2 dMul (sVar 1) (sC (.int 48271))) (sVar 2)) (sC (.int 11))) (sC (.int 2147483647))))) (sRet (sNew (aCons (sVar 0) (aCons (sC (.int 0)) (aCons (sC (.int 0)) (aCons (sVar 1) aNil))))))))
def f__law_row : List D → Mu → Res D := run 3 b__law_row
theorem c__law_row (M : Facts K mg) (T_ : Tb) : Cal P w K mg base T_ 1 "_law_row" 1 f__law_row := by
  obtain ⟨fa, fd, F, hm, hb⟩ := M.d__law_row.ex
  refine ⟨fa, fd, ["_law_script"], fn_run F sc__law_row (fun cdv A outer s H E hr => ?_), hm, F.kp, hb, rfl⟩
  have tk := takes_of (X := cxOf (L2.CX P w) P w K mg base ["_law_script", "_law_mixed", "_law_cell"] "_law_row" (defScope st__law_row) fa cdv A outer s H E) rfl rfl rfl rfl
  have hu1 := hu_of hr; have hu64 := hr.units; have hu65 := units65 hr
  exact (rs_cons (rs_set (fun h => ps_set (i := 1) sc__law_row.nd rfl (by first | exact Or.inl rfl | exact Or.inr rfl) h) (re_c pe_int fun _ => .int _)) (rs_cons (rs_for (passes_of rfl) rfl (ri_val (re_var (pv 0))) (rg_n (pg_name (i := 2) sc__law_row.nd (by rfl) (by first | exact Or.inl rfl | exact Or.inr rfl)) (fun _ _ => trivial)) (rs_one (rs_set (fun h => ps_set (i := 1) sc__law_row.nd rfl (by first | exact Or.inl rfl | exact Or.inr rfl) h) (re_bin op_mod ru_mod (re_bin op_addA ru_add (re_bin op_addA ru_add (re_bin op_mulA ru_mul (re_var (pv 1)) (re_c pe_int fun _ => .int _)) (re_var (pv 2))) (re_c pe_int fun _ => .int _)) (re_c pe_int fun _ => .int _))))) (rs_one (rs_ret (re_new (ra_cons (re_var (pv 0)) (ra_cons (re_c pe_int fun _ => .int _) (ra_cons (re_c pe_int fun _ => .int _) (ra_cons (re_var (pv 1)) ra_nil)))))))))
def b__law_taken : SSt := (sSeq (sIf (sTst (s2 dGt (s2 dIx (sVar 0) (sC (.int 2))) (sC (.int 0)))) (sSeq (sSet 2 (s2 dMod (s2 dIx (sVar 0) (sC (.int 2))) (sVar 1))) (sSeq (sPut (s2 dDiv (s2 dIx (sVar 0) (sC (.int 2))) (sVar 1)) (sVar 0) (sC (.int 2))) (sRet (sVar 2)))) sNil) (sSeq (sIf (sTst (s2 dLt (s2 dIx (sVar 0) (sC (.int 1))) (sB dLen (aCons (s2 dIx (sVar 0) (sC (.int 0))) aNil)))) (sSeq (sSet 3 (s2 dIx (s2 dIx (sVar 0) (sC (.int 0))) (s2 dIx (sVar 0) (sC (.int 1))))) (sSeq (sPut (s2 dAdd (s2 dIx (sVar 0) (sC (.int 1))) (sC (.int 1))) (sVar 0) (sC (.int 1))) (sSeq (sIf (sTst (s2 dGe (sVar 3) (s2 dPow (sC (.int 10)) (sC (.int 18))))) (sPut (s2 dDiv (sVar 3) (sVar 1)) (sVar 0) (sC (.int 2))) sNil) (sRet (s2 dMod (sVar 3) (sVar 1)))))) sNil) (sSeq (sPut (s2 dMod (s2 dAdd (s2 dMul (s2 dIx (sVar 0) (sC (.int 3))) (sC (.int 48271))) (sC (.int 12345))) (sC (.int 2147483647))) (sVar 0) (sC (.int 3))) (sRet (s2 dMod (s2 dDiv (s2 dIx (sVar 0) (sC (.int 3))) (sC (.int 1009))) (sVar 1))))))
def f__law_taken : List D → Mu → Res D := run 4 b__law_taken
theorem c__law_taken (M : Facts K mg) (T_ : Tb) : Cal P w K mg base T_ 1 "_law_taken" 2 f__law_taken := by
  obtain ⟨fa, fd, F, hm, hb⟩ := M.d__law_taken.ex
  refine ⟨fa, fd, ["_law_row_here", "_law_many"], fn_run F sc__law_taken (fun cdv A outer s H E hr => ?_), hm, F.kp, hb, rfl⟩
  have tk := takes_of (X := cxOf (L2.CX P w) P w K mg base ["_law_row_here", "_law_many", "_law_found", "_law_cell"] "_law_taken" (defScope st__law_taken) fa cdv A outer s H E) rfl rfl rfl rfl
  have hu1 := hu_of hr; have hu64 := hr.units; have hu65 := units65 hr
  exact (rs_cons (rs_if (rt_cmp (op_gt) ru_gt (re_ix (re_var (pv 0)) (re_c pe_int fun _ => .int _) (fun _ _ => rfl)) (re_c pe_int fun _ => .int _) (nomark _)) (rs_cons (rs_set (fun h => ps_set (i := 2) sc__law_taken.nd rfl (by first | exact Or.inl rfl | exact Or.inr rfl) h) (re_bin op_mod ru_mod (re_ix (re_var (pv 0)) (re_c pe_int fun _ => .int _) (fun _ _ => rfl)) (re_var (pv 1)))) (rs_cons (rs_put (fun h1 h2 h3 => ps_asg h1 (pg_sub h2 h3 set_list)) (re_bin op_fdiv ru_div (re_ix (re_var (pv 0)) (re_c pe_int fun _ => .int _) (fun _ _ => rfl)) (re_var (pv 1))) (re_var (pv 0)) (re_c pe_int fun _ => .int _)) (rs_one (rs_ret (re_var (pv 2)))))) rs_nil) (rs_cons (rs_if (rt_cmp (op_lt) ru_lt (re_ix (re_var (pv 0)) (re_c pe_int fun _ => .int _) (fun _ _ => rfl)) (re_b (fun h => pe_callB (call_len_seq) (by rfl) M.n_len PySem.boot_len h) ru_len (ra_cons (re_ix (re_var (pv 0)) (re_c pe_int fun _ => .int _) (fun _ _ => rfl)) ra_nil)) (nomark _)) (rs_cons (rs_set (fun h => ps_set (i := 3) sc__law_taken.nd rfl (by first | exact Or.inl rfl | exact Or.inr rfl) h) (re_ix (re_ix (re_var (pv 0)) (re_c pe_int fun _ => .int _) (fun _ _ => rfl)) (re_ix (re_var (pv 0)) (re_c pe_int fun _ => .int _) (fun _ _ => rfl)) (fun _ _ => rfl))) (rs_cons (rs_put (fun h1 h2 h3 => ps_asg h1 (pg_sub h2 h3 set_list)) (re_bin op_addA ru_add (re_ix (re_var (pv 0)) (re_c pe_int fun _ => .int _) (fun _ _ => rfl)) (re_c pe_int fun _ => .int _)) (re_var (pv 0)) (re_c pe_int fun _ => .int _)) (rs_cons (rs_if (rt_cmp (op_ge) ru_ge (re_var (pv 3)) (re_bin op_pow ru_pow (re_c pe_int fun _ => .int _) (re_c pe_int fun _ => .int _)) (nomark _)) (rs_one (rs_put (fun h1 h2 h3 => ps_asg h1 (pg_sub h2 h3 set_list)) (re_bin op_fdiv ru_div (re_var (pv 3)) (re_var (pv 1))) (re_var (pv 0)) (re_c pe_int fun _ => .int _))) rs_nil) (rs_one (rs_ret (re_bin op_mod ru_mod (re_var (pv 3)) (re_var (pv 1)))))))) rs_nil) (rs_cons (rs_put (fun h1 h2 h3 => ps_asg h1 (pg_sub h2 h3 set_list)) (re_bin op_mod ru_mod (re_bin op_addA ru_add (re_bin op_mulA ru_mul (re_ix (re_var (pv 0)) (re_c pe_int fun _ => .int _) (fun _ _ => rfl)) (re_c pe_int fun _ => .int _)) (re_c pe_int fun _ => .int _)) (re_c pe_int fun _ => .int _)) (re_var (pv 0)) (re_c pe_int fun _ => .int _)) (rs_one (rs_ret (re_bin op_mod ru_mod (re_bin op_fdiv ru_div (re_ix (re_var (pv 0)) (re_c pe_int fun _ => .int _) (fun _ _ => rfl)) (re_c pe_int fun _ => .int _)) (re_var (pv 1))))))))
def b__law_light : SSt := (sRet (sTup (aCons (s2 dSub (sCall 2 f__law_taken (aCons (sVar 0) (aCons (s2 dAdd (s2 dMul (sC (.int 2)) (sVar 1)) (sC (.int 1))) aNil))) (sVar 1)) (aCons (s2 dSub (sCall 2 f__law_taken (aCons (sVar 0) (aCons (s2 dAdd (s2 dMul (sC (.int 2)) (sVar 1)) (sC (.int 1))) aNil))) (sVar 1)) (aCons (sCall 2 f__law_taken (aCons (sVar 0) (aCons (sC (.int 4)) aNil))) aNil)))))
def f__law_light : List D → Mu → Res D := run 2 b__law_light
theorem c__law_light (M : Facts K mg) (T_ : Tb) : Cal P w K mg base T_ 2 "_law_light" 2 f__law_light := by
  obtain ⟨fa, fd, F, hm, hb⟩ := M.d__law_light.ex
  refine ⟨fa, fd, ["_law_row_here", "_law_wide"], fn_run F sc__law_light (fun cdv A outer s H E hr => ?_), hm, F.kp, hb, rfl⟩
  have tk := takes_of (X := cxOf (L2.CX P w) P w K mg base ["_law_row_here", "_law_wide"] "_law_light" (defScope st__law_light) fa cdv A outer s H E) rfl rfl rfl rfl
  have hu1 := hu_of hr; have hu64 := hr.units; have hu65 := units65 hr
  exact (rs_one (rs_ret (re_tup (ra_cons (re_bin op_sub ru_sub (re_call (c__law_taken M T_) (hr.mono (by decide)) tk (by rfl) (ra_cons (re_var (pv 0)) (ra_cons (re_bin op_addA ru_add (re_bin op_mulA ru_mul (re_c pe_int fun _ => .int _) (re_var (pv 1))) (re_c pe_int fun _ => .int _)) ra_nil))) (re_var (pv 1))) (ra_cons (re_bin op_sub ru_sub (re_call (c__law_taken M T_) (hr.mono (by decide)) tk (by rfl) (ra_cons (re_var (pv 0)) (ra_cons (re_bin op_addA ru_add (re_bin op_mulA ru_mul (re_c pe_int fun _ => .int _) (re_var (pv 1))) (re_c pe_int fun _ => .int _)) ra_nil))) (re_var (pv 1))) (ra_cons (re_call (c__law_taken M T_) (hr.mono (by decide)) tk (by rfl) (ra_cons (re_var (pv 0)) (ra_cons (re_c pe_int fun _ => .int _) ra_nil))) ra_nil))))))
def b__law_lights : SSt := (sSeq (sPar 4 5 (aCons (sTup aNil) (aCons (sNew aNil) aNil))) (sSeq (sFor (iR1 (aCons (sCall 2 f__law_taken (aCons (sVar 0) (aCons (s2 dAdd (sVar 1) (sC (.int 1))) aNil))) aNil)) (gN 3) (sSeq (sSet 6 (sCall 2 f__law_light (aCons (sVar 0) (aCons (sVar 2) aNil)))) (sIf (sTst (s2 dNotIn (sSl (sVar 6) oNo (oSo (sC (.int 2)))) (sVar 5))) (sSeq (sSet 4 (s2 dAdd (sVar 4) (sTup (aCons (sVar 6) aNil)))) (sDo (sM1 dApp (sVar 5) (sSl (sVar 6) oNo (oSo (sC (.int 2))))))) sNil))) (sRet (sVar 4))))
def f__law_lights : List D → Mu → Res D := runT 7 b__law_lights
theorem c__law_lights (M : Facts K mg) (T_ : Tb) : Cal P w K mg base T_ 3 "_law_lights" 3 f__law_lights := by
  obtain ⟨fa, fd, F, hm, hb⟩ := M.d__law_lights.ex
  refine ⟨fa, fd, ["_law_row_here", "_law_many", "_law_wide"], fn_runT F sc__law_lights (fun cdv A outer s H E hr => ?_), hm, F.kp, hb, rfl⟩
  have tk := takes_of (X := cxOf (L2.CX P w) P w K mg base ["_law_row_here", "_law_many", "_law_wide", "_law_k", "_law_found", "_law_places", "_law_light_here"] "_law_lights" (defScope st__law_lights) fa cdv A outer s H E) rfl rfl rfl rfl
  have hu1 := hu_of hr; have hu64 := hr.units; have hu65 := units65 hr
  exact (rs_cons (rs_par (fun h => ps_par (i := 4) (j := 5) rfl sc__law_lights.nd rfl rfl (by decide) rfl rfl h rfl) (ra_cons (re_tup ra_nil) (ra_cons (re_new ra_nil) ra_nil))) (rs_cons (rs_for (passes_of rfl) rfl (ri_r1 (fun h => pi_range1 (by rfl) M.n_range h) (ra_cons (re_call (c__law_taken M T_) (hr.mono (by decide)) tk (by rfl) (ra_cons (re_var (pv 0)) (ra_cons (re_bin op_addA ru_add (re_var (pv 1)) (re_c pe_int fun _ => .int _)) ra_nil))) ra_nil)) (rg_n (pg_name (i := 3) sc__law_lights.nd (by rfl) (by first | exact Or.inl rfl | exact Or.inr rfl)) (fun _ _ => trivial)) (rs_cons (rs_set (fun h => ps_set (i := 6) sc__law_lights.nd rfl (by first | exact Or.inl rfl | exact Or.inr rfl) h) (re_call (c__law_light M T_) (hr.mono (by decide)) tk (by rfl) (ra_cons (re_var (pv 0)) (ra_cons (re_var (pv 2)) ra_nil)))) (rs_one (rs_if (rt_cmp (op_notInA hu65) ru_notin (re_sl (re_var (pv 6)) ro_no (ro_so (re_c pe_int fun _ => .int _))) (re_var (pv 5)) (by with_unfolding_all rfl)) (rs_cons (rs_set (fun h => ps_set (i := 4) sc__law_lights.nd rfl (by first | exact Or.inl rfl | exact Or.inr rfl) h) (re_bin op_addA ru_add (re_var (pv 4)) (re_tup (ra_cons (re_var (pv 6)) ra_nil)))) (rs_one (rs_do (re_m1 (fun ho ha => pe_bm PySem.F.plainAttrs_list PySem.F.slot_list_append PySem.F.type_list_append mt_append ho ha) ru_app (re_var (pv 5)) (re_sl (re_var (pv 6)) ro_no (ro_so (re_c pe_int fun _ => .int _))))))) rs_nil)))) (rs_one (rs_ret (re_var (pv 4))))))
def b__law_alike (self_ : List D → Mu → Res D) : SSt := (sSeq (sIf (sTst (s1 (dIsi [Ty.tuple, Ty.list]) (sVar 1))) (sSeq (sIf (bOr (sTst (s2 dNe (s1 (dIsi [Ty.tuple]) (sVar 0)) (s1 (dIsi [Ty.tuple]) (sVar 1)))) (bNot (sTst (s1 (dIsi [Ty.tuple, Ty.list]) (sVar 0))))) (sRet (sC (.bl false))) sNil) (sSeq (sIf (sTst (s2 dNe (sB dLen (aCons (sVar 0) aNil)) (sB dLen (aCons (sVar 1) aNil)))) (sRet (sC (.bl false))) sNil) (sRet (s2 dEq (sLc (iR1 (aCons (sB dLen (aCons (sVar 1) aNil)) aNil)) (gN 3) (bNot (sTst (sCall 2 self_ (aCons (s2 dIx (sVar 0) (sVar 3)) (aCons (s2 dIx (sVar 1) (sVar 3)) aNil))))) (sVar 3) [3]) (sLst aNil))))) sNil) (sSeq (sIf (bOr (sTst (s2 dIsN (sVar 1) (sC .non))) (sTst (s2 dIsN (sVar 0) (sC .non)))) (sRet (sAnd (s2 dIsN (sVar 1) (sC .non)) (s2 dIsN (sVar 0) (sC .non)))) sNil) (sSeq (sSet 2 (s2 dEq (s1 (dIsi [Ty.str]) (sVar 1)) (s1 (dIsi [Ty.str]) (sVar 0)))) (sRet (sAnd (sVar 2) (sAnd (s2 dEq (s1 (dIsi [Ty.bool]) (sVar 1)) (s1 (dIsi [Ty.bool]) (sVar 0))) (s2 dEq (sVar 0) (sVar 1))))))))
def g__law_alike : Nat → List D → Mu → Res D
  | 0 => fun _ _ => .stuck
  | n + 1 => run 4 (b__law_alike (g__law_alike n))
def f__law_alike : List D → Mu → Res D := g__law_alike 8
theorem r__law_alike (M : Facts K mg) (T_ : Tb) : ∀ n : Nat, Cal P w K mg base T_ (n + 1) "_law_alike" 2 (g__law_alike n) := by
  obtain ⟨fa, fd, F, hm, hb⟩ := M.d__law_alike.ex
  intro n
  induction n with
  | zero => exact ⟨fa, fd, ["_law_found", "_law_due"], fn_stuck, hm, F.kp, hb, rfl⟩
  | succ n cself =>
    refine ⟨fa, fd, ["_law_found", "_law_due"], FnOk.mono (fn_run F sc__law_alike (fun cdv A outer s H E hr => ?_)) (j := n + 1 + 1) (by omega), hm, F.kp, hb, rfl⟩
    have tk := takes_of (X := cxOf (L2.CX P w) P w K mg base ["_law_found", "_law_due", "_law_same_kind", "_law_k"] "_law_alike" (defScope st__law_alike) fa cdv A outer s H E) rfl rfl rfl rfl
    have hu1 := hu_of hr; have hu64 := hr.units; have hu65 := units65 hr
    exact (rs_cons (rs_if (rt_val (re_isi2 (t1 := Ty.tuple) (t2 := Ty.list) (fun h => pe_callB call_isiT (by rfl) M.n_isinstance (by decide +kernel) (pa_cons h (pa_cons (pe_tup (pa_cons (pe_bltn (v := .ty "tuple") (u := .type "tuple") (by rfl) M.n_tuple (by decide +kernel) (by rfl)) (pa_cons (pe_bltn (v := .ty "list") (u := .type "list") (by rfl) M.n_list (by decide +kernel) (by rfl)) pa_nil))) pa_nil))) (re_var (pv 1)))) (rs_cons (rs_if (PW.pt (rw_or (rt_cmp (op_neD hu64) ru_ne (re_isi (t := Ty.tuple) (fun h => pe_callB call_isi (by rfl) M.n_isinstance (by decide +kernel) (pa_cons h (pa_cons (pe_bltn (v := .ty "tuple") (u := .type "tuple") (by rfl) M.n_tuple (by decide +kernel) (by rfl)) pa_nil))) (re_var (pv 0))) (re_isi (t := Ty.tuple) (fun h => pe_callB call_isi (by rfl) M.n_isinstance (by decide +kernel) (pa_cons h (pa_cons (pe_bltn (v := .ty "tuple") (u := .type "tuple") (by rfl) M.n_tuple (by decide +kernel) (by rfl)) pa_nil))) (re_var (pv 1))) (nomark _)) (rw_one_or (rt_not (rt_val (re_isi2 (t1 := Ty.tuple) (t2 := Ty.list) (fun h => pe_callB call_isiT (by rfl) M.n_isinstance (by decide +kernel) (pa_cons h (pa_cons (pe_tup (pa_cons (pe_bltn (v := .ty "tuple") (u := .type "tuple") (by rfl) M.n_tuple (by decide +kernel) (by rfl)) (pa_cons (pe_bltn (v := .ty "list") (u := .type "list") (by rfl) M.n_list (by decide +kernel) (by rfl)) pa_nil))) pa_nil))) (re_var (pv 0)))))))) (rs_one (rs_ret (re_c pe_bl fun _ => .bl _))) rs_nil) (rs_cons (rs_if (rt_cmp (op_neD hu64) ru_ne (re_b (fun h => pe_callB (call_len_seq) (by rfl) M.n_len PySem.boot_len h) ru_len (ra_cons (re_var (pv 0)) ra_nil)) (re_b (fun h => pe_callB (call_len_seq) (by rfl) M.n_len PySem.boot_len h) ru_len (ra_cons (re_var (pv 1)) ra_nil)) (nomark _)) (rs_one (rs_ret (re_c pe_bl fun _ => .bl _))) rs_nil) (rs_one (rs_ret (re_cmp (op_eqD hu64) ru_eq (PE.imp (pe_lc (own := [("_law_k", 3)]) rfl sc__law_alike.nd (ri_r1 (fun h => pi_range1 (by rfl) M.n_range h) (ra_cons (re_b (fun h => pe_callB (call_len_seq) (by rfl) M.n_len PySem.boot_len h) ru_len (ra_cons (re_var (pv 1)) ra_nil)) ra_nil)) (blkOk_by (N := ["_law_found", "_law_due", "_law_same_kind", "_law_k"]) (sc := defScope st__law_alike) (by decide +kernel)) (fun _ _ _ _ _ => (rg_n (pg_name (i := 3) sc__law_alike.nd (by rfl) (by first | exact Or.inl rfl | exact Or.inr rfl)) (fun _ _ => wipe_set _ _ _ _ (by decide)))) (fun _ _ _ _ _ => (pts_one (rt_not (rt_val (re_call cself (hr.mono (by omega)) takes0 (by rfl) (ra_cons (re_ix (re_var (pv 0)) (re_var (pv 3)) (fun _ _ => rfl)) (ra_cons (re_ix (re_var (pv 1)) (re_var (pv 3)) (fun _ _ => rfl)) ra_nil))))))) (fun _ _ _ _ _ => (re_var (pv 3)))) (fun σ H Q h => rd_lc rfl σ H Q h)) (re_lst ra_nil) (nomark _)))))) rs_nil) (rs_cons (rs_if (PW.pt (rw_or (rt_cmp (op_isN) ru_isN (re_var (pv 1)) (re_c pe_non fun _ => .non) (nomark _)) (rw_one_or (rt_cmp (op_isN) ru_isN (re_var (pv 0)) (re_c pe_non fun _ => .non) (nomark _))))) (rs_one (rs_ret (re_and (re_cmp (op_isN) ru_isN (re_var (pv 1)) (re_c pe_non fun _ => .non) (nomark _)) (re_one_b (re_cmp (op_isN) ru_isN (re_var (pv 0)) (re_c pe_non fun _ => .non) (nomark _)))))) rs_nil) (rs_cons (rs_set (fun h => ps_set (i := 2) sc__law_alike.nd rfl (by first | exact Or.inl rfl | exact Or.inr rfl) h) (re_cmp (op_eqD hu64) ru_eq (re_isi (t := Ty.str) (fun h => pe_callB call_isi (by rfl) M.n_isinstance (by decide +kernel) (pa_cons h (pa_cons (pe_bltn (v := .ty "str") (u := .type "str") (by rfl) M.n_str (by decide +kernel) (by rfl)) pa_nil))) (re_var (pv 1))) (re_isi (t := Ty.str) (fun h => pe_callB call_isi (by rfl) M.n_isinstance (by decide +kernel) (pa_cons h (pa_cons (pe_bltn (v := .ty "str") (u := .type "str") (by rfl) M.n_str (by decide +kernel) (by rfl)) pa_nil))) (re_var (pv 0))) (nomark _))) (rs_one (rs_ret (re_and (re_var (pv 2)) (re_and (re_cmp (op_eqD hu64) ru_eq (re_isi (t := Ty.bool) (fun h => pe_callB call_isi (by rfl) M.n_isinstance (by decide +kernel) (pa_cons h (pa_cons (pe_bltn (v := .ty "bool") (u := .type "bool") (by rfl) M.n_bool (by decide +kernel) (by rfl)) pa_nil))) (re_var (pv 1))) (re_isi (t := Ty.bool) (fun h => pe_callB call_isi (by rfl) M.n_isinstance (by decide +kernel) (pa_cons h (pa_cons (pe_bltn (v := .ty "bool") (u := .type "bool") (by rfl) M.n_bool (by decide +kernel) (by rfl)) pa_nil))) (re_var (pv 0))) (nomark _)) (re_one_b (re_cmp (op_eqD hu64) ru_eq (re_var (pv 0)) (re_var (pv 1)) (nomark _))))))))))
theorem c__law_alike (M : Facts K mg) (T_ : Tb) : Cal P w K mg base T_ 9 "_law_alike" 2 f__law_alike := r__law_alike M T_ 8
def b__law_word (k_ : Nat) (r_ : Mu → Res D) : SSt := (sSeq (sSet 1 (sNew aNil)) (sSeq (sTry 2 errs_ (sDo (sM1 dApp (sVar 1) (sAct k_ 6 0 r_))) (fun k_ x_ => (sSeq (sSet 3 (sLst (aCons (sIsE k_ (decide (x_.cls = "BadLights")) (sVar 2)) (aCons (sIsE k_ (decide (x_.cls = "BadRule")) (sVar 2)) (aCons (sIsE k_ (decide (x_.cls = "BadSlip")) (sVar 2)) (aCons (sIsE k_ (decide (x_.cls = "BadCount")) (sVar 2)) aNil)))))) (sSeq (sSet 3 (s2 dAdd (sVar 3) (sLst (aCons (sIsE k_ (decide (x_.cls = "NoLight")) (sVar 2)) (aCons (sIsE k_ (decide (x_.cls = "BadDeed")) (sVar 2)) (aCons (sIsE k_ (decide (x_.cls = "Halted")) (sVar 2)) (aCons (sIsE k_ (decide (x_.cls = "BadText")) (sVar 2)) aNil))))))) (sSeq (sSet 4 (sLst (aCons (sC (.str "lights")) (aCons (sC (.str "rule")) (aCons (sC (.str "slip")) (aCons (sC (.str "count")) (aCons (sC (.str "nolight")) (aCons (sC (.str "deed")) (aCons (sC (.str "halted")) (aCons (sC (.str "text")) aNil)))))))))) (sSeq (sIf (bOr (sTst (s2 dNe (sM1 dCount (sVar 3) (sC (.bl true))) (sC (.int 1)))) (bNot (sTst (sIsE k_ true (sVar 2))))) (sRet (sTup (aCons (sC (.str "other")) (aCons (sC .non) aNil)))) sNil) (sSeq (sSet 5 (s2 dIx (sVar 4) (sM1 dIndex (sVar 3) (sC (.bl true))))) (sSeq (sIf (sTst (s2 dEq (sVar 5) (sC (.str "halted")))) (sRet (sTup (aCons (sVar 5) (aCons (sTup (aCons (sFld k_ x_ "number" (sVar 2)) (aCons (sFld k_ x_ "done" (sVar 2)) aNil))) aNil)))) sNil) (sSeq (sIf (sTst (s2 dEq (sVar 5) (sC (.str "text")))) (sRet (sTup (aCons (sVar 5) (aCons (sFld k_ x_ "row" (sVar 2)) aNil)))) sNil) (sRet (sIte (sTst (s2 dIn (sVar 5) (sTup (aCons (sC (.str "lights")) (aCons (sC (.str "deed")) aNil))))) (sTup (aCons (sVar 5) (aCons (sFld k_ x_ "number" (sVar 2)) aNil))) (sTup (aCons (sVar 5) (aCons (sC .non) aNil)))))))))))))) (sRet (sTup (aCons (sC (.str "")) (aCons (s2 dIx (sVar 1) (sC (.int 0))) aNil))))))
theorem gv__law_word {X : Cx} (M : Facts X.K X.mg) (T0 : Tb) {q : Str} {g : Addr} {cdg : Value} {k : Nat} (hr0 : Room (k + 1) X.A) : LamX.GivesTo X ["_law_work", "_law_found", "e", "_law_kinds", "_law_names", "_law_name"] "_law_word" (defScope st__law_word) g cdg (defBody st__law_word) "_law_work" q (TTw X.K X.mg T0 6 b__law_word) := by
  obtain ⟨S_, hS_, hE_⟩ := M.errs.ex
  have hex_ : ∀ y ∈ errs_, ∀ C, X.mg y = some (.ref C) → PySem.W.exmOne X.K (.ref C) (.ref S_) = some true := fun y hy C hC => by
    obtain ⟨C2, E2⟩ := hE_ y hy
    have e2 := E2.gC.symm.trans hC
    cases e2
    exact E2.ex
  refine word_gives rfl fun f c2 s H tl wl r_ k_ T1 hT h0 hk hc_ hw ht act => ?_
  have hr := hr0.deeper (envOfC "_law_word" (defScope st__law_word) s.heap.objs.size g cdg)
  have hu1 := hu_of hr; have hu64 := hr.units; have hu65 := units65 hr
  exact (rs_cons (rs_set (fun h => ps_set (i := 1) sc__law_word.nd rfl (by first | exact Or.inl rfl | exact Or.inr rfl) h) (re_new ra_nil)) (rs_cons (rs_try hex_ rfl rfl sc__law_word.nd rfl rfl ⟨rfl, by decide, .inl hS_⟩ (fun W pn xe tk2 bl => (rs_one (rs_do (re_m1 (fun ho ha => pe_bm PySem.F.plainAttrs_list PySem.F.slot_list_append PySem.F.type_list_append mt_append ho ha) ru_app (re_var (pv 1)) (re_act hT h0 hk hc_ hw ht bl tk2 (fun W E tk hW => act pn xe _ _ W E tk hW)))))) (fun a oe cls dd pn k_ x_ T2 hz hf hcs ca => (rs_cons (rs_set (fun h => ps_set (i := 3) sc__law_word.nd rfl (by first | exact Or.inl rfl | exact Or.inr rfl) h) (re_lst (ra_cons (re_isC (z := "BadLights") (by decide) ca M.errs hcs hz hf M.n_isinstance (re_var (pv 2))) (ra_cons (re_isC (z := "BadRule") (by decide) ca M.errs hcs hz hf M.n_isinstance (re_var (pv 2))) (ra_cons (re_isC (z := "BadSlip") (by decide) ca M.errs hcs hz hf M.n_isinstance (re_var (pv 2))) (ra_cons (re_isC (z := "BadCount") (by decide) ca M.errs hcs hz hf M.n_isinstance (re_var (pv 2))) ra_nil)))))) (rs_cons (rs_set (fun h => ps_set (i := 3) sc__law_word.nd rfl (by first | exact Or.inl rfl | exact Or.inr rfl) h) (re_bin op_addA ru_add (re_var (pv 3)) (re_lst (ra_cons (re_isC (z := "NoLight") (by decide) ca M.errs hcs hz hf M.n_isinstance (re_var (pv 2))) (ra_cons (re_isC (z := "BadDeed") (by decide) ca M.errs hcs hz hf M.n_isinstance (re_var (pv 2))) (ra_cons (re_isC (z := "Halted") (by decide) ca M.errs hcs hz hf M.n_isinstance (re_var (pv 2))) (ra_cons (re_isC (z := "BadText") (by decide) ca M.errs hcs hz hf M.n_isinstance (re_var (pv 2))) ra_nil))))))) (rs_cons (rs_set (fun h => ps_set (i := 4) sc__law_word.nd rfl (by first | exact Or.inl rfl | exact Or.inr rfl) h) (re_lst (ra_cons (re_c pe_str fun _ => .str _) (ra_cons (re_c pe_str fun _ => .str _) (ra_cons (re_c pe_str fun _ => .str _) (ra_cons (re_c pe_str fun _ => .str _) (ra_cons (re_c pe_str fun _ => .str _) (ra_cons (re_c pe_str fun _ => .str _) (ra_cons (re_c pe_str fun _ => .str _) (ra_cons (re_c pe_str fun _ => .str _) ra_nil)))))))))) (rs_cons (rs_if (PW.pt (rw_or (rt_cmp (op_neD hu64) ru_ne (re_m1 (fun ho ha => pe_bm PySem.F.plainAttrs_list PySem.F.slot_list_count PySem.F.type_list_count (mt_countD hu65) ho ha) ru_count (re_var (pv 3)) (re_c pe_bl fun _ => .bl _)) (re_c pe_int fun _ => .int _) (nomark _)) (rw_one_or (rt_not (rt_val (re_isV ca M.errs hcs hz hf M.n_isinstance M.n_ValueError (re_var (pv 2)))))))) (rs_one (rs_ret (re_tup (ra_cons (re_c pe_str fun _ => .str _) (ra_cons (re_c pe_non fun _ => .non) ra_nil))))) rs_nil) (rs_cons (rs_set (fun h => ps_set (i := 5) sc__law_word.nd rfl (by first | exact Or.inl rfl | exact Or.inr rfl) h) (re_ix (re_var (pv 4)) (re_m1 (fun ho ha => pe_bm PySem.F.plainAttrs_list PySem.F.slot_list_index PySem.F.type_list_index (mt_indexD hu65) ho ha) ru_index (re_var (pv 3)) (re_c pe_bl fun _ => .bl _)) (fun _ _ => rfl))) (rs_cons (rs_if (rt_cmp (op_eqD hu64) ru_eq (re_var (pv 5)) (re_c pe_str fun _ => .str _) (nomark _)) (rs_one (rs_ret (re_tup (ra_cons (re_var (pv 5)) (ra_cons (re_tup (ra_cons (re_fld (n := "number") (by decide) ca M.errs hcs hz hf (re_var (pv 2))) (ra_cons (re_fld (n := "done") (by decide) ca M.errs hcs hz hf (re_var (pv 2))) ra_nil))) ra_nil))))) rs_nil) (rs_cons (rs_if (rt_cmp (op_eqD hu64) ru_eq (re_var (pv 5)) (re_c pe_str fun _ => .str _) (nomark _)) (rs_one (rs_ret (re_tup (ra_cons (re_var (pv 5)) (ra_cons (re_fld (n := "row") (by decide) ca M.errs hcs hz hf (re_var (pv 2))) ra_nil))))) rs_nil) (rs_one (rs_ret (re_ite (rt_cmp (op_inA hu65) ru_in (re_var (pv 5)) (re_tup (ra_cons (re_c pe_str fun _ => .str _) (ra_cons (re_c pe_str fun _ => .str _) ra_nil))) (by with_unfolding_all rfl)) (re_tup (ra_cons (re_var (pv 5)) (ra_cons (re_fld (n := "number") (by decide) ca M.errs hcs hz hf (re_var (pv 2))) ra_nil))) (re_tup (ra_cons (re_var (pv 5)) (ra_cons (re_c pe_non fun _ => .non) ra_nil))))))))))))))) (rs_one (rs_ret (re_tup (ra_cons (re_c pe_str fun _ => .str _) (ra_cons (re_ix (re_var (pv 1)) (re_c pe_int fun _ => .int _) (fun _ _ => rfl)) ra_nil)))))))
def b__law_way : SSt := (sSeq (sSet 3 (sLst (aCons (sTup (aCons (sVar 1) (aCons (sVar 2) aNil))) (aCons (sTup (aCons (s2 dSub (sC (.int 0)) (sVar 2)) (aCons (sVar 1) aNil))) (aCons (sTup (aCons (s2 dSub (sC (.int 0)) (sVar 1)) (aCons (s2 dSub (sC (.int 0)) (sVar 2)) aNil))) (aCons (sTup (aCons (sVar 2) (aCons (s2 dSub (sC (.int 0)) (sVar 1)) aNil))) (aCons (sTup (aCons (s2 dSub (sC (.int 0)) (sVar 1)) (aCons (sVar 2) aNil))) (aCons (sTup (aCons (sVar 2) (aCons (sVar 1) aNil))) (aCons (sTup (aCons (sVar 1) (aCons (s2 dSub (sC (.int 0)) (sVar 2)) aNil))) (aCons (sTup (aCons (s2 dSub (sC (.int 0)) (sVar 2)) (aCons (s2 dSub (sC (.int 0)) (sVar 1)) aNil))) aNil)))))))))) (sRet (s2 dIx (sVar 3) (sVar 0))))
def f__law_way : List D → Mu → Res D := run 4 b__law_way
theorem c__law_way (M : Facts K mg) (T_ : Tb) : Cal P w K mg base T_ 1 "_law_way" 3 f__law_way := by
  obtain ⟨fa, fd, F, hm, hb⟩ := M.d__law_way.ex
  refine ⟨fa, fd, ["_law_number", "_law_x", "_law_y"], fn_run F sc__law_way (fun cdv A outer s H E hr => ?_), hm, F.kp, hb, rfl⟩
  have tk := takes_of (X := cxOf (L2.CX P w) P w K mg base ["_law_number", "_law_x", "_law_y", "_law_some"] "_law_way" (defScope st__law_way) fa cdv A outer s H E) rfl rfl rfl rfl
  have hu1 := hu_of hr; have hu64 := hr.units; have hu65 := units65 hr
  exact (rs_cons (rs_set (fun h => ps_set (i := 3) sc__law_way.nd rfl (by first | exact Or.inl rfl | exact Or.inr rfl) h) (re_lst (ra_cons (re_tup (ra_cons (re_var (pv 1)) (ra_cons (re_var (pv 2)) ra_nil))) (ra_cons (re_tup (ra_cons (re_bin op_sub ru_sub (re_c pe_int fun _ => .int _) (re_var (pv 2))) (ra_cons (re_var (pv 1)) ra_nil))) (ra_cons (re_tup (ra_cons (re_bin op_sub ru_sub (re_c pe_int fun _ => .int _) (re_var (pv 1))) (ra_cons (re_bin op_sub ru_sub (re_c pe_int fun _ => .int _) (re_var (pv 2))) ra_nil))) (ra_cons (re_tup (ra_cons (re_var (pv 2)) (ra_cons (re_bin op_sub ru_sub (re_c pe_int fun _ => .int _) (re_var (pv 1))) ra_nil))) (ra_cons (re_tup (ra_cons (re_bin op_sub ru_sub (re_c pe_int fun _ => .int _) (re_var (pv 1))) (ra_cons (re_var (pv 2)) ra_nil))) (ra_cons (re_tup (ra_cons (re_var (pv 2)) (ra_cons (re_var (pv 1)) ra_nil))) (ra_cons (re_tup (ra_cons (re_var (pv 1)) (ra_cons (re_bin op_sub ru_sub (re_c pe_int fun _ => .int _) (re_var (pv 2))) ra_nil))) (ra_cons (re_tup (ra_cons (re_bin op_sub ru_sub (re_c pe_int fun _ => .int _) (re_var (pv 2))) (ra_cons (re_bin op_sub ru_sub (re_c pe_int fun _ => .int _) (re_var (pv 1))) ra_nil))) ra_nil)))))))))) (rs_one (rs_ret (re_ix (re_var (pv 3)) (re_var (pv 0)) (fun _ _ => rfl)))))
def b_law : SSt := (sSeq (sSet 1 (sCall 1 f__law_row (aCons (sVar 0) aNil))) (sSeq (sFor (iR1 (aCons (sC (.int 4)) aNil)) (gN 2) (sSeq (sAsg (sTup (aCons (sCall 3 f__law_lights (aCons (sVar 1) (aCons (sC (.int 8)) (aCons (sC (.int 9)) aNil)))) (aCons (sCall 2 f__law_taken (aCons (sVar 1) (aCons (sC (.int 8)) aNil))) aNil))) (gT (gsCons (gN 5) (gsCons (gN 6) gsNil)))) (sSeq (sSet 3 (sTup aNil)) (sSeq (sFor (iVal (sVar 5)) (gT (gsCons (gN 7) (gsCons (gN 8) (gsCons (gN 9) gsNil)))) (sSeq (sSet 10 (sCall 3 f__law_way (aCons (sVar 6) (aCons (sVar 7) (aCons (sVar 8) aNil))))) (sSet 3 (s2 dAdd (sVar 3) (sTup (aCons (s2 dAdd (sVar 10) (sTup (aCons (sVar 9) aNil))) aNil)))))) (sSeq (sIf (bNot (sTst (sCall 2 f__law_alike (aCons (sCall 2 f_turned (aCons (sVar 5) (aCons (sVar 6) aNil))) (aCons (sVar 3) aNil))))) (sRet (sC (.bl false))) sNil) (sSeq (sSet 4 (s2 dIx (sLst (aCons (s2 dAdd (sC (.int 8)) (s2 dMul (sCall 2 f__law_taken (aCons (sVar 1) (aCons (sC (.int 2)) aNil))) (sCall 2 f__law_taken (aCons (sVar 1) (aCons (sC (.int 99)) aNil))))) (aCons (s2 dSub (sC (.int 0)) (sC (.int 1))) (aCons (sC .non) (aCons (sC (.bl true)) (aCons (sC (.str "1")) aNil)))))) (sCall 2 f__law_taken (aCons (sVar 1) (aCons (sC (.int 5)) aNil))))) (sIf (sTst (s2 dNe (sLam 6 b__law_word (sCall 2 f_turned (aCons (sVar 5) (aCons (sVar 4) aNil)))) (sTup (aCons (sC (.str "count")) (aCons (sC .non) aNil))))) (sRet (sC (.bl false))) sNil))))))) (sRet (sC (.bl true)))))
def f_law : List D → Mu → Res D := run 11 b_law
theorem k_law (M : Facts K mg) {fa c Pt : Addr} {fd : FuncData} (F : FunC K "law" "law" st_law fa fd c) (TB : LamX.TabB base mg c Pt) (w0 : Wd) : FnOk P w K mg base (L2.CX P w) 12 fa fd ["_law_script"] (spI K mg ⟨[(Pt, (envOfC "law" (defScope st_law) 0 fa (.ref c)).qual ++ "<lambda>")], w0⟩ 1 f_law) := by
  obtain ⟨law_word_g, law_word_d, law_word_F, law_word_m, law_word_b⟩ := M.d__law_word.ex
  refine fn_runC F sc_law fun A outer s H E hr => ?_
  have tk := takes_of (X := cxOf (L2.CX P w) P w K mg base ["_law_script", "_law_row_here", "_law_k", "_law_due", "_law_odd", "_law_lights_here", "_law_number", "_law_x", "_law_y", "_law_glow", "_law_way_here"] "law" (defScope st_law) fa (.ref c) A outer s H E) rfl rfl rfl rfl
  have hu1 := hu_of hr; have hu64 := hr.units; have hu65 := units65 hr
  exact (rs_cons (rs_set (fun h => ps_set (i := 1) sc_law.nd rfl (by first | exact Or.inl rfl | exact Or.inr rfl) h) (re_call (c__law_row M _) (hr.mono (by decide)) tk (by rfl) (ra_cons (re_var (pv 0)) ra_nil))) (rs_cons (rs_for (passes_of rfl) rfl (ri_r1 (fun h => pi_range1 (by rfl) M.n_range h) (ra_cons (re_c pe_int fun _ => .int _) ra_nil)) (rg_n (pg_name (i := 2) sc_law.nd (by rfl) (by first | exact Or.inl rfl | exact Or.inr rfl)) (fun _ _ => trivial)) (rs_cons (rs_asg (fun h1 h2 => ps_asg h1 h2) (re_tup (ra_cons (re_call (c__law_lights M _) (hr.mono (by decide)) tk (by rfl) (ra_cons (re_var (pv 1)) (ra_cons (re_c pe_int fun _ => .int _) (ra_cons (re_c pe_int fun _ => .int _) ra_nil)))) (ra_cons (re_call (c__law_taken M _) (hr.mono (by decide)) tk (by rfl) (ra_cons (re_var (pv 1)) (ra_cons (re_c pe_int fun _ => .int _) ra_nil))) ra_nil))) (rg_t rfl (rgs_cons gAny_ok (rg_n (pg_name (i := 5) sc_law.nd (by rfl) (by first | exact Or.inl rfl | exact Or.inr rfl)) (fun _ _ => trivial)) (rgs_cons gAny_ok (rg_n (pg_name (i := 6) sc_law.nd (by rfl) (by first | exact Or.inl rfl | exact Or.inr rfl)) (fun _ _ => trivial)) (rgs_nil gAny_ok))) (gsCons_len (gsCons_len gsNil_len)))) (rs_cons (rs_set (fun h => ps_set (i := 3) sc_law.nd rfl (by first | exact Or.inl rfl | exact Or.inr rfl) h) (re_tup ra_nil)) (rs_cons (rs_for (passes_of rfl) rfl (ri_val (re_var (pv 5))) (rg_t rfl (rgs_cons gAny_ok (rg_n (pg_name (i := 7) sc_law.nd (by rfl) (by first | exact Or.inl rfl | exact Or.inr rfl)) (fun _ _ => trivial)) (rgs_cons gAny_ok (rg_n (pg_name (i := 8) sc_law.nd (by rfl) (by first | exact Or.inl rfl | exact Or.inr rfl)) (fun _ _ => trivial)) (rgs_cons gAny_ok (rg_n (pg_name (i := 9) sc_law.nd (by rfl) (by first | exact Or.inl rfl | exact Or.inr rfl)) (fun _ _ => trivial)) (rgs_nil gAny_ok)))) (gsCons_len (gsCons_len (gsCons_len gsNil_len)))) (rs_cons (rs_set (fun h => ps_set (i := 10) sc_law.nd rfl (by first | exact Or.inl rfl | exact Or.inr rfl) h) (re_call (c__law_way M _) (hr.mono (by decide)) tk (by rfl) (ra_cons (re_var (pv 6)) (ra_cons (re_var (pv 7)) (ra_cons (re_var (pv 8)) ra_nil))))) (rs_one (rs_set (fun h => ps_set (i := 3) sc_law.nd rfl (by first | exact Or.inl rfl | exact Or.inr rfl) h) (re_bin op_addA ru_add (re_var (pv 3)) (re_tup (ra_cons (re_bin op_addA ru_add (re_var (pv 10)) (re_tup (ra_cons (re_var (pv 9)) ra_nil))) ra_nil))))))) (rs_cons (rs_if (rt_not (rt_val (re_call (c__law_alike M _) (hr.mono (by decide)) tk (by rfl) (ra_cons (re_call (c_turned M _) (hr.mono (by decide)) tk (by rfl) (ra_cons (re_var (pv 5)) (ra_cons (re_var (pv 6)) ra_nil))) (ra_cons (re_var (pv 3)) ra_nil))))) (rs_one (rs_ret (re_c pe_bl fun _ => .bl _))) rs_nil) (rs_cons (rs_set (fun h => ps_set (i := 4) sc_law.nd rfl (by first | exact Or.inl rfl | exact Or.inr rfl) h) (re_ix (re_lst (ra_cons (re_bin op_addA ru_add (re_c pe_int fun _ => .int _) (re_bin op_mulA ru_mul (re_call (c__law_taken M _) (hr.mono (by decide)) tk (by rfl) (ra_cons (re_var (pv 1)) (ra_cons (re_c pe_int fun _ => .int _) ra_nil))) (re_call (c__law_taken M _) (hr.mono (by decide)) tk (by rfl) (ra_cons (re_var (pv 1)) (ra_cons (re_c pe_int fun _ => .int _) ra_nil))))) (ra_cons (re_bin op_sub ru_sub (re_c pe_int fun _ => .int _) (re_c pe_int fun _ => .int _)) (ra_cons (re_c pe_non fun _ => .non) (ra_cons (re_c pe_bl fun _ => .bl _) (ra_cons (re_c pe_str fun _ => .str _) ra_nil)))))) (re_call (c__law_taken M _) (hr.mono (by decide)) tk (by rfl) (ra_cons (re_var (pv 1)) (ra_cons (re_c pe_int fun _ => .int _) ra_nil))) (fun _ _ => rfl))) (rs_one (rs_if (rt_cmp (op_neD hu64) ru_ne (re_lam (k := 5) rfl law_word_m law_word_F law_word_b sc__law_word rfl (Or.inl rfl) (fun cdg => gv__law_word (X := cxOf (L2.CX P w) P w K mg base ["_law_script", "_law_row_here", "_law_k", "_law_due", "_law_odd", "_law_lights_here", "_law_number", "_law_x", "_law_y", "_law_glow", "_law_way_here"] "law" (defScope st_law) fa (.ref c) A outer s H E) M _ (k := 8) (hr.mono (by decide))) TB rfl (List.mem_singleton.mpr rfl) (fun p hp _ => by rw [List.mem_singleton.mp hp]; rfl) (hr.mono (by decide)) (LamX.lamS_by (sc := defScope st_law) (by decide +kernel)) rfl (fun _ _ _ _ _ => rfl) (fun A outer s H E f c2 hr2 => (re_call (c_turned M _) (hr2.mono (by decide)) (takes_of rfl rfl rfl rfl) (by rfl) (ra_cons (re_var (pv 5)) (ra_cons (re_var (pv 4)) ra_nil))))) (re_tup (ra_cons (re_c pe_str fun _ => .str _) (ra_cons (re_c pe_non fun _ => .non) ra_nil))) (nomark _)) (rs_one (rs_ret (re_c pe_bl fun _ => .bl _))) rs_nil)))))))) (rs_one (rs_ret (re_c pe_bl fun _ => .bl _)))))
end
end Tx
set_option Elab.async false
set_option linter.all false
set_option maxRecDepth 100000
namespace Tx
open PySem PySem.Spec PyProof.Rows L2 Rx
def rowM (ns : List Int) (i : Nat) (c x : Int) : MO := .lst [.scr (ns.map .int), .int i, .int c, .int x]
def Row (ns : List Int) (r : MO) : Prop := ∃ i c x, r = rowM ns i c x
theorem taken_ok {ns : List Int} {r : MO} (h : Row ns r) {k : Int} (hk : 0 < k) (hk2 : k < 1073741824) (rest : Mu) : ∃ z r', f__law_taken [.ref 0, .int k] (r :: rest) = .ok (.int z) (r' :: rest) ∧ Row ns r' ∧ 0 ≤ z ∧ z < k := by
  obtain ⟨i, c, x, rfl⟩ := h
  have h1 : ∀ y : Int, 0 ≤ y % k ∧ y % k < k := fun y => ⟨Int.emod_nonneg _ (by omega), Int.emod_lt_of_pos _ hk⟩
  unfold f__law_taken Rx.run b__law_taken
  by_cases c1 : 0 < c
  · refine ⟨c % k, rowM ns i (c / k) x, ?_, ⟨_, _, _, rfl⟩, h1 _⟩
    simp [Rx.sNil, Rx.sSeq, Rx.sSet, Rx.sRet, Rx.sRetN, Rx.sDo, Rx.sIf, Rx.sCont, Rx.sBrk, Rx.sAsg, Rx.sPar, Rx.sPar3, Rx.gN, Rx.gT, Rx.gsNil, Rx.gsCons, Rx.tupOf, Rx.sFor, Rx.iVal, Rx.valsOf, Rx.s1, Rx.s2, Rx.sVar, Rx.sC, Rx.aNil, Rx.aCons, Rx.sTup, Rx.sLst, Rx.sNew, Rx.sTst, Rx.bNot, Rx.bAnd, Rx.bOr, Rx.sNot, Rx.sAnd, Rx.sOr, Rx.sIte, Rx.dIx, Rx.seqOf, Rx.dGt, Rx.dLt, Rx.dGe, Rx.dLe, Rx.dSub, Rx.dAdd, Rx.dMul, Rx.dDiv, Rx.dMod, Rx.dPow, Rx.sPut, Rx.dPutI, Rx.hOf, Rx.sB, Rx.dLen, Rx.fin, Rx.sCall, Rx.Res.toS, Rx.Res.bind, Rx.sChain, Rx.iR1, Rx.iR2, L2.atI, L2.ixN, rowM, c1, hk, hk2]
  · by_cases c2 : i < ns.length
    · by_cases c3 : 1000000000000000000 ≤ ns[i]
      · refine ⟨ns[i] % k, rowM ns (i + 1) (ns[i] / k) x, ?_, ⟨_, _, _, rfl⟩, h1 _⟩
        simp [Rx.sNil, Rx.sSeq, Rx.sSet, Rx.sRet, Rx.sRetN, Rx.sDo, Rx.sIf, Rx.sCont, Rx.sBrk, Rx.sAsg, Rx.sPar, Rx.sPar3, Rx.gN, Rx.gT, Rx.gsNil, Rx.gsCons, Rx.tupOf, Rx.sFor, Rx.iVal, Rx.valsOf, Rx.s1, Rx.s2, Rx.sVar, Rx.sC, Rx.aNil, Rx.aCons, Rx.sTup, Rx.sLst, Rx.sNew, Rx.sTst, Rx.bNot, Rx.bAnd, Rx.bOr, Rx.sNot, Rx.sAnd, Rx.sOr, Rx.sIte, Rx.dIx, Rx.seqOf, Rx.dGt, Rx.dLt, Rx.dGe, Rx.dLe, Rx.dSub, Rx.dAdd, Rx.dMul, Rx.dDiv, Rx.dMod, Rx.dPow, Rx.sPut, Rx.dPutI, Rx.hOf, Rx.sB, Rx.dLen, Rx.fin, Rx.sCall, Rx.Res.toS, Rx.Res.bind, Rx.sChain, Rx.iR1, Rx.iR2, L2.atI, L2.ixN, rowM, c1, c2, c3, hk, hk2]
      · refine ⟨ns[i] % k, rowM ns (i + 1) c x, ?_, ⟨_, _, _, rfl⟩, h1 _⟩
        simp [Rx.sNil, Rx.sSeq, Rx.sSet, Rx.sRet, Rx.sRetN, Rx.sDo, Rx.sIf, Rx.sCont, Rx.sBrk, Rx.sAsg, Rx.sPar, Rx.sPar3, Rx.gN, Rx.gT, Rx.gsNil, Rx.gsCons, Rx.tupOf, Rx.sFor, Rx.iVal, Rx.valsOf, Rx.s1, Rx.s2, Rx.sVar, Rx.sC, Rx.aNil, Rx.aCons, Rx.sTup, Rx.sLst, Rx.sNew, Rx.sTst, Rx.bNot, Rx.bAnd, Rx.bOr, Rx.sNot, Rx.sAnd, Rx.sOr, Rx.sIte, Rx.dIx, Rx.seqOf, Rx.dGt, Rx.dLt, Rx.dGe, Rx.dLe, Rx.dSub, Rx.dAdd, Rx.dMul, Rx.dDiv, Rx.dMod, Rx.dPow, Rx.sPut, Rx.dPutI, Rx.hOf, Rx.sB, Rx.dLen, Rx.fin, Rx.sCall, Rx.Res.toS, Rx.Res.bind, Rx.sChain, Rx.iR1, Rx.iR2, L2.atI, L2.ixN, rowM, c1, c2, c3, hk, hk2]
    · refine ⟨((x * 48271 + 12345) % 2147483647) / 1009 % k, rowM ns i c ((x * 48271 + 12345) % 2147483647), ?_, ⟨_, _, _, rfl⟩, h1 _⟩
      simp [Rx.sNil, Rx.sSeq, Rx.sSet, Rx.sRet, Rx.sRetN, Rx.sDo, Rx.sIf, Rx.sCont, Rx.sBrk, Rx.sAsg, Rx.sPar, Rx.sPar3, Rx.gN, Rx.gT, Rx.gsNil, Rx.gsCons, Rx.tupOf, Rx.sFor, Rx.iVal, Rx.valsOf, Rx.s1, Rx.s2, Rx.sVar, Rx.sC, Rx.aNil, Rx.aCons, Rx.sTup, Rx.sLst, Rx.sNew, Rx.sTst, Rx.bNot, Rx.bAnd, Rx.bOr, Rx.sNot, Rx.sAnd, Rx.sOr, Rx.sIte, Rx.dIx, Rx.seqOf, Rx.dGt, Rx.dLt, Rx.dGe, Rx.dLe, Rx.dSub, Rx.dAdd, Rx.dMul, Rx.dDiv, Rx.dMod, Rx.dPow, Rx.sPut, Rx.dPutI, Rx.hOf, Rx.sB, Rx.dLen, Rx.fin, Rx.sCall, Rx.Res.toS, Rx.Res.bind, Rx.sChain, Rx.iR1, Rx.iR2, L2.atI, L2.ixN, rowM, c1, c2, hk, hk2]
theorem row_ok (ns : List Int) : ∃ r, f__law_row [.scr (ns.map .int)] [] = .ok (.ref 0) [r] ∧ Row ns r := by
  unfold f__law_row Rx.run b__law_row
  have key : ∀ (l : List Int) (a b : Option D) (x : Int), ∃ b' x', forL (gN 2) (sSet 1 (s2 dMod (s2 dAdd (s2 dAdd (s2 dMul (sVar 1) (sC (.int 48271))) (sVar 2)) (sC (.int 11))) (sC (.int 2147483647)))) (l.map .int) [a, some (.int x), b] [] = .nx [a, some (.int x'), b'] [] := by
    intro l
    induction l with
    | nil => exact fun a b x => ⟨b, x, rfl⟩
    | cons y l ih =>
      intro a b x
      obtain ⟨b', x', e⟩ := ih a (some (.int y)) ((x * 48271 + y + 11) % 2147483647)
      refine ⟨b', x', ?_⟩
      rw [← e]
      simp [Rx.sNil, Rx.sSeq, Rx.sSet, Rx.sRet, Rx.sRetN, Rx.sDo, Rx.sIf, Rx.sCont, Rx.sBrk, Rx.sAsg, Rx.sPar, Rx.sPar3, Rx.gN, Rx.gT, Rx.gsNil, Rx.gsCons, Rx.tupOf, Rx.sFor, Rx.iVal, Rx.valsOf, Rx.s1, Rx.s2, Rx.sVar, Rx.sC, Rx.aNil, Rx.aCons, Rx.sTup, Rx.sLst, Rx.sNew, Rx.sTst, Rx.bNot, Rx.bAnd, Rx.bOr, Rx.sNot, Rx.sAnd, Rx.sOr, Rx.sIte, Rx.dIx, Rx.seqOf, Rx.dGt, Rx.dLt, Rx.dGe, Rx.dLe, Rx.dSub, Rx.dAdd, Rx.dMul, Rx.dDiv, Rx.dMod, Rx.dPow, Rx.sPut, Rx.dPutI, Rx.hOf, Rx.sB, Rx.dLen, Rx.fin, Rx.sCall, Rx.Res.toS, Rx.Res.bind, Rx.sChain, Rx.iR1, Rx.iR2, L2.atI, L2.ixN, forL]
  obtain ⟨b', x', e⟩ := key ns (some (.scr (ns.map .int))) none 7
  refine ⟨rowM ns 0 0 x', ?_, ⟨_, _, _, rfl⟩⟩
  simp [Rx.sNil, Rx.sSeq, Rx.sSet, Rx.sRet, Rx.sRetN, Rx.sDo, Rx.sIf, Rx.sCont, Rx.sBrk, Rx.sAsg, Rx.sPar, Rx.sPar3, Rx.gN, Rx.gT, Rx.gsNil, Rx.gsCons, Rx.tupOf, Rx.sFor, Rx.iVal, Rx.valsOf, Rx.s1, Rx.s2, Rx.sVar, Rx.sC, Rx.aNil, Rx.aCons, Rx.sTup, Rx.sLst, Rx.sNew, Rx.sTst, Rx.bNot, Rx.bAnd, Rx.bOr, Rx.sNot, Rx.sAnd, Rx.sOr, Rx.sIte, Rx.dIx, Rx.seqOf, Rx.dGt, Rx.dLt, Rx.dGe, Rx.dLe, Rx.dSub, Rx.dAdd, Rx.dMul, Rx.dDiv, Rx.dMod, Rx.dPow, Rx.sPut, Rx.dPutI, Rx.hOf, Rx.sB, Rx.dLen, Rx.fin, Rx.sCall, Rx.Res.toS, Rx.Res.bind, Rx.sChain, Rx.iR1, Rx.iR2, L2.atI, L2.ixN]
  rw [e]
  simp [Rx.sNil, Rx.sSeq, Rx.sSet, Rx.sRet, Rx.sRetN, Rx.sDo, Rx.sIf, Rx.sCont, Rx.sBrk, Rx.sAsg, Rx.sPar, Rx.sPar3, Rx.gN, Rx.gT, Rx.gsNil, Rx.gsCons, Rx.tupOf, Rx.sFor, Rx.iVal, Rx.valsOf, Rx.s1, Rx.s2, Rx.sVar, Rx.sC, Rx.aNil, Rx.aCons, Rx.sTup, Rx.sLst, Rx.sNew, Rx.sTst, Rx.bNot, Rx.bAnd, Rx.bOr, Rx.sNot, Rx.sAnd, Rx.sOr, Rx.sIte, Rx.dIx, Rx.seqOf, Rx.dGt, Rx.dLt, Rx.dGe, Rx.dLe, Rx.dSub, Rx.dAdd, Rx.dMul, Rx.dDiv, Rx.dMod, Rx.dPow, Rx.sPut, Rx.dPutI, Rx.hOf, Rx.sB, Rx.dLen, Rx.fin, Rx.sCall, Rx.Res.toS, Rx.Res.bind, Rx.sChain, Rx.iR1, Rx.iR2, L2.atI, L2.ixN, rowM]
end Tx
set_option Elab.async false
set_option linter.all false
set_option maxRecDepth 100000
namespace Tx
open PySem PySem.Spec PyProof.Rows L2 Rx
theorem light_ok {ns : List Int} {r : MO} (h : Row ns r) (rest : Mu) : ∃ x y g r', f__law_light [.ref 0, .int 9] (r :: rest) = .ok (.tup [.int x, .int y, .int g]) (r' :: rest) ∧ Row ns r' ∧ -9 ≤ x ∧ x ≤ 9 ∧ -9 ≤ y ∧ y ≤ 9 ∧ 0 ≤ g ∧ g < 4 := by
  obtain ⟨a, r1, e1, h1, a1, a2⟩ := taken_ok h (k := 19) (by decide) (by decide) rest
  obtain ⟨b, r2, e2, h2, b1, b2⟩ := taken_ok h1 (k := 19) (by decide) (by decide) rest
  obtain ⟨c, r3, e3, h3, c1, c2⟩ := taken_ok h2 (k := 4) (by decide) (by decide) rest
  refine ⟨a - 9, b - 9, c, r3, ?_, h3, by omega, by omega, by omega, by omega, c1, c2⟩
  unfold f__law_light Rx.run b__law_light
  simp [Rx.sNil, Rx.sSeq, Rx.sSet, Rx.sRet, Rx.sRetN, Rx.sDo, Rx.sIf, Rx.sCont, Rx.sBrk, Rx.sAsg, Rx.sPar, Rx.sPar3, Rx.gN, Rx.gT, Rx.gsNil, Rx.gsCons, Rx.tupOf, Rx.sFor, Rx.iVal, Rx.valsOf, Rx.s1, Rx.s2, Rx.sVar, Rx.sC, Rx.aNil, Rx.aCons, Rx.sTup, Rx.sLst, Rx.sNew, Rx.sTst, Rx.bNot, Rx.bAnd, Rx.bOr, Rx.sNot, Rx.sAnd, Rx.sOr, Rx.sIte, Rx.dIx, Rx.seqOf, Rx.dGt, Rx.dLt, Rx.dGe, Rx.dLe, Rx.dSub, Rx.dAdd, Rx.dMul, Rx.dDiv, Rx.dMod, Rx.dPow, Rx.sPut, Rx.dPutI, Rx.hOf, Rx.sB, Rx.dLen, Rx.fin, Rx.sCall, Rx.Res.toS, Rx.Res.bind, Rx.sChain, Rx.iR1, Rx.iR2, L2.atI, L2.ixN, e1, e2, e3]
abbrev Lt : Type := Int × Int × Int
def lD (t : Lt) : D := .tup [.int t.1, .int t.2.1, .int t.2.2]
def pD (t : Lt) : D := .tup [.int t.1, .int t.2.1]
theorem okD_int (i : Int) : okD (.int i) = true := by unfold okD pyD SeqAt.shaped; simp [Rx.sNil, Rx.sSeq, Rx.sSet, Rx.sRet, Rx.sRetN, Rx.sDo, Rx.sIf, Rx.sCont, Rx.sBrk, Rx.sAsg, Rx.sPar, Rx.sPar3, Rx.gN, Rx.gT, Rx.gsNil, Rx.gsCons, Rx.tupOf, Rx.sFor, Rx.iVal, Rx.valsOf, Rx.s1, Rx.s2, Rx.sVar, Rx.sC, Rx.aNil, Rx.aCons, Rx.sTup, Rx.sLst, Rx.sNew, Rx.sTst, Rx.bNot, Rx.bAnd, Rx.bOr, Rx.sNot, Rx.sAnd, Rx.sOr, Rx.sIte, Rx.dIx, Rx.seqOf, Rx.dGt, Rx.dLt, Rx.dGe, Rx.dLe, Rx.dSub, Rx.dAdd, Rx.dMul, Rx.dDiv, Rx.dMod, Rx.dPow, Rx.sPut, Rx.dPutI, Rx.hOf, Rx.sB, Rx.dLen, Rx.fin, Rx.sCall, Rx.Res.toS, Rx.Res.bind, Rx.sChain, Rx.iR1, Rx.iR2, L2.atI, L2.ixN, D.undr, PyData.canLay0, PyData.depth]
theorem okD_p (t : Lt) : okD (pD t) = true := by unfold okD pD; simp [Rx.sNil, Rx.sSeq, Rx.sSet, Rx.sRet, Rx.sRetN, Rx.sDo, Rx.sIf, Rx.sCont, Rx.sBrk, Rx.sAsg, Rx.sPar, Rx.sPar3, Rx.gN, Rx.gT, Rx.gsNil, Rx.gsCons, Rx.tupOf, Rx.sFor, Rx.iVal, Rx.valsOf, Rx.s1, Rx.s2, Rx.sVar, Rx.sC, Rx.aNil, Rx.aCons, Rx.sTup, Rx.sLst, Rx.sNew, Rx.sTst, Rx.bNot, Rx.bAnd, Rx.bOr, Rx.sNot, Rx.sAnd, Rx.sOr, Rx.sIte, Rx.dIx, Rx.seqOf, Rx.dGt, Rx.dLt, Rx.dGe, Rx.dLe, Rx.dSub, Rx.dAdd, Rx.dMul, Rx.dDiv, Rx.dMod, Rx.dPow, Rx.sPut, Rx.dPutI, Rx.hOf, Rx.sB, Rx.dLen, Rx.fin, Rx.sCall, Rx.Res.toS, Rx.Res.bind, Rx.sChain, Rx.iR1, Rx.iR2, L2.atI, L2.ixN, D.undr, D.undr.all, pyD, pyD.pyL, SeqAt.shaped, PyData.canLay0, PyData.canLayAll0, PyData.depth, PyData.depthAll]
theorem undr_ps : ∀ ts : List Lt, D.undr.all 0 (ts.map pD) = true
  | [] => rfl
  | t :: ts => by simp [Rx.sNil, Rx.sSeq, Rx.sSet, Rx.sRet, Rx.sRetN, Rx.sDo, Rx.sIf, Rx.sCont, Rx.sBrk, Rx.sAsg, Rx.sPar, Rx.sPar3, Rx.gN, Rx.gT, Rx.gsNil, Rx.gsCons, Rx.tupOf, Rx.sFor, Rx.iVal, Rx.valsOf, Rx.s1, Rx.s2, Rx.sVar, Rx.sC, Rx.aNil, Rx.aCons, Rx.sTup, Rx.sLst, Rx.sNew, Rx.sTst, Rx.bNot, Rx.bAnd, Rx.bOr, Rx.sNot, Rx.sAnd, Rx.sOr, Rx.sIte, Rx.dIx, Rx.seqOf, Rx.dGt, Rx.dLt, Rx.dGe, Rx.dLe, Rx.dSub, Rx.dAdd, Rx.dMul, Rx.dDiv, Rx.dMod, Rx.dPow, Rx.sPut, Rx.dPutI, Rx.hOf, Rx.sB, Rx.dLen, Rx.fin, Rx.sCall, Rx.Res.toS, Rx.Res.bind, Rx.sChain, Rx.iR1, Rx.iR2, L2.atI, L2.ixN, D.undr.all, undr_ps ts, pD, D.undr]
theorem lay_ps : ∀ ts : List Lt, PyData.canLayAll0 (pyD.pyL (ts.map pD)) = true
  | [] => by simp [Rx.sNil, Rx.sSeq, Rx.sSet, Rx.sRet, Rx.sRetN, Rx.sDo, Rx.sIf, Rx.sCont, Rx.sBrk, Rx.sAsg, Rx.sPar, Rx.sPar3, Rx.gN, Rx.gT, Rx.gsNil, Rx.gsCons, Rx.tupOf, Rx.sFor, Rx.iVal, Rx.valsOf, Rx.s1, Rx.s2, Rx.sVar, Rx.sC, Rx.aNil, Rx.aCons, Rx.sTup, Rx.sLst, Rx.sNew, Rx.sTst, Rx.bNot, Rx.bAnd, Rx.bOr, Rx.sNot, Rx.sAnd, Rx.sOr, Rx.sIte, Rx.dIx, Rx.seqOf, Rx.dGt, Rx.dLt, Rx.dGe, Rx.dLe, Rx.dSub, Rx.dAdd, Rx.dMul, Rx.dDiv, Rx.dMod, Rx.dPow, Rx.sPut, Rx.dPutI, Rx.hOf, Rx.sB, Rx.dLen, Rx.fin, Rx.sCall, Rx.Res.toS, Rx.Res.bind, Rx.sChain, Rx.iR1, Rx.iR2, L2.atI, L2.ixN, pyD.pyL, PyData.canLayAll0]
  | t :: ts => by simp [Rx.sNil, Rx.sSeq, Rx.sSet, Rx.sRet, Rx.sRetN, Rx.sDo, Rx.sIf, Rx.sCont, Rx.sBrk, Rx.sAsg, Rx.sPar, Rx.sPar3, Rx.gN, Rx.gT, Rx.gsNil, Rx.gsCons, Rx.tupOf, Rx.sFor, Rx.iVal, Rx.valsOf, Rx.s1, Rx.s2, Rx.sVar, Rx.sC, Rx.aNil, Rx.aCons, Rx.sTup, Rx.sLst, Rx.sNew, Rx.sTst, Rx.bNot, Rx.bAnd, Rx.bOr, Rx.sNot, Rx.sAnd, Rx.sOr, Rx.sIte, Rx.dIx, Rx.seqOf, Rx.dGt, Rx.dLt, Rx.dGe, Rx.dLe, Rx.dSub, Rx.dAdd, Rx.dMul, Rx.dDiv, Rx.dMod, Rx.dPow, Rx.sPut, Rx.dPutI, Rx.hOf, Rx.sB, Rx.dLen, Rx.fin, Rx.sCall, Rx.Res.toS, Rx.Res.bind, Rx.sChain, Rx.iR1, Rx.iR2, L2.atI, L2.ixN, pyD.pyL, PyData.canLayAll0, PyData.canLay0, lay_ps ts, pD, pyD]
theorem depth_ps : ∀ ts : List Lt, PyData.depthAll (pyD.pyL (ts.map pD)) ≤ 5
  | [] => by simp [Rx.sNil, Rx.sSeq, Rx.sSet, Rx.sRet, Rx.sRetN, Rx.sDo, Rx.sIf, Rx.sCont, Rx.sBrk, Rx.sAsg, Rx.sPar, Rx.sPar3, Rx.gN, Rx.gT, Rx.gsNil, Rx.gsCons, Rx.tupOf, Rx.sFor, Rx.iVal, Rx.valsOf, Rx.s1, Rx.s2, Rx.sVar, Rx.sC, Rx.aNil, Rx.aCons, Rx.sTup, Rx.sLst, Rx.sNew, Rx.sTst, Rx.bNot, Rx.bAnd, Rx.bOr, Rx.sNot, Rx.sAnd, Rx.sOr, Rx.sIte, Rx.dIx, Rx.seqOf, Rx.dGt, Rx.dLt, Rx.dGe, Rx.dLe, Rx.dSub, Rx.dAdd, Rx.dMul, Rx.dDiv, Rx.dMod, Rx.dPow, Rx.sPut, Rx.dPutI, Rx.hOf, Rx.sB, Rx.dLen, Rx.fin, Rx.sCall, Rx.Res.toS, Rx.Res.bind, Rx.sChain, Rx.iR1, Rx.iR2, L2.atI, L2.ixN, pyD.pyL, PyData.depthAll]
  | t :: ts => by
    have ih := depth_ps ts
    simp [Rx.sNil, Rx.sSeq, Rx.sSet, Rx.sRet, Rx.sRetN, Rx.sDo, Rx.sIf, Rx.sCont, Rx.sBrk, Rx.sAsg, Rx.sPar, Rx.sPar3, Rx.gN, Rx.gT, Rx.gsNil, Rx.gsCons, Rx.tupOf, Rx.sFor, Rx.iVal, Rx.valsOf, Rx.s1, Rx.s2, Rx.sVar, Rx.sC, Rx.aNil, Rx.aCons, Rx.sTup, Rx.sLst, Rx.sNew, Rx.sTst, Rx.bNot, Rx.bAnd, Rx.bOr, Rx.sNot, Rx.sAnd, Rx.sOr, Rx.sIte, Rx.dIx, Rx.seqOf, Rx.dGt, Rx.dLt, Rx.dGe, Rx.dLe, Rx.dSub, Rx.dAdd, Rx.dMul, Rx.dDiv, Rx.dMod, Rx.dPow, Rx.sPut, Rx.dPutI, Rx.hOf, Rx.sB, Rx.dLen, Rx.fin, Rx.sCall, Rx.Res.toS, Rx.Res.bind, Rx.sChain, Rx.iR1, Rx.iR2, L2.atI, L2.ixN, pyD.pyL, PyData.depthAll, PyData.depth, pD, pyD] at ih ⊢
    omega
theorem okD_ps (ts : List Lt) : okD (.lst (ts.map pD)) = true := by
  have h3 := depth_ps ts
  unfold okD
  simp [Rx.sNil, Rx.sSeq, Rx.sSet, Rx.sRet, Rx.sRetN, Rx.sDo, Rx.sIf, Rx.sCont, Rx.sBrk, Rx.sAsg, Rx.sPar, Rx.sPar3, Rx.gN, Rx.gT, Rx.gsNil, Rx.gsCons, Rx.tupOf, Rx.sFor, Rx.iVal, Rx.valsOf, Rx.s1, Rx.s2, Rx.sVar, Rx.sC, Rx.aNil, Rx.aCons, Rx.sTup, Rx.sLst, Rx.sNew, Rx.sTst, Rx.bNot, Rx.bAnd, Rx.bOr, Rx.sNot, Rx.sAnd, Rx.sOr, Rx.sIte, Rx.dIx, Rx.seqOf, Rx.dGt, Rx.dLt, Rx.dGe, Rx.dLe, Rx.dSub, Rx.dAdd, Rx.dMul, Rx.dDiv, Rx.dMod, Rx.dPow, Rx.sPut, Rx.dPutI, Rx.hOf, Rx.sB, Rx.dLen, Rx.fin, Rx.sCall, Rx.Res.toS, Rx.Res.bind, Rx.sChain, Rx.iR1, Rx.iR2, L2.atI, L2.ixN, D.undr, undr_ps, pyD, SeqAt.shaped, PyData.canLay0, lay_ps, PyData.depth]
  omega
def pl (t : Lt) : Int × Int := (t.1, t.2.1)
theorem eqv_p (t u : Lt) : dEqv (pD t) (pD u) = decide (pl t = pl u) := by
  unfold dEqv pD pl
  simp [Rx.sNil, Rx.sSeq, Rx.sSet, Rx.sRet, Rx.sRetN, Rx.sDo, Rx.sIf, Rx.sCont, Rx.sBrk, Rx.sAsg, Rx.sPar, Rx.sPar3, Rx.gN, Rx.gT, Rx.gsNil, Rx.gsCons, Rx.tupOf, Rx.sFor, Rx.iVal, Rx.valsOf, Rx.s1, Rx.s2, Rx.sVar, Rx.sC, Rx.aNil, Rx.aCons, Rx.sTup, Rx.sLst, Rx.sNew, Rx.sTst, Rx.bNot, Rx.bAnd, Rx.bOr, Rx.sNot, Rx.sAnd, Rx.sOr, Rx.sIte, Rx.dIx, Rx.seqOf, Rx.dGt, Rx.dLt, Rx.dGe, Rx.dLe, Rx.dSub, Rx.dAdd, Rx.dMul, Rx.dDiv, Rx.dMod, Rx.dPow, Rx.sPut, Rx.dPutI, Rx.hOf, Rx.sB, Rx.dLen, Rx.fin, Rx.sCall, Rx.Res.toS, Rx.Res.bind, Rx.sChain, Rx.iR1, Rx.iR2, L2.atI, L2.ixN, pyD, pyD.pyL, PyData.eqv, PyData.eqvAll]
  rw [Bool.eq_iff_iff]
  simp [Rx.sNil, Rx.sSeq, Rx.sSet, Rx.sRet, Rx.sRetN, Rx.sDo, Rx.sIf, Rx.sCont, Rx.sBrk, Rx.sAsg, Rx.sPar, Rx.sPar3, Rx.gN, Rx.gT, Rx.gsNil, Rx.gsCons, Rx.tupOf, Rx.sFor, Rx.iVal, Rx.valsOf, Rx.s1, Rx.s2, Rx.sVar, Rx.sC, Rx.aNil, Rx.aCons, Rx.sTup, Rx.sLst, Rx.sNew, Rx.sTst, Rx.bNot, Rx.bAnd, Rx.bOr, Rx.sNot, Rx.sAnd, Rx.sOr, Rx.sIte, Rx.dIx, Rx.seqOf, Rx.dGt, Rx.dLt, Rx.dGe, Rx.dLe, Rx.dSub, Rx.dAdd, Rx.dMul, Rx.dDiv, Rx.dMod, Rx.dPow, Rx.sPut, Rx.dPutI, Rx.hOf, Rx.sB, Rx.dLen, Rx.fin, Rx.sCall, Rx.Res.toS, Rx.Res.bind, Rx.sChain, Rx.iR1, Rx.iR2, L2.atI, L2.ixN]
def Fine (t : Lt) : Prop := -9 ≤ t.1 ∧ t.1 ≤ 9 ∧ -9 ≤ t.2.1 ∧ t.2.1 ≤ 9 ∧ 0 ≤ t.2.2 ∧ t.2.2 < 4
def Good (ts : List Lt) : Prop := (∀ t ∈ ts, Fine t) ∧ (ts.map pl).Nodup
theorem cut2 (a b c : D) : cutD [a, b, c] none (some 2) = [a, b] := rfl
/-- the loop of lights -/
theorem lights_loop {ns : List Int} : ∀ (l : List D) (ts : List Lt) (r : MO) (s2_ s3_ : Option D), Row ns r → Good ts → ts.length + l.length ≤ 8 → ∃ ts' r' a b, forL (gN 3) (sSeq (sSet 6 (sCall 2 f__law_light (aCons (sVar 0) (aCons (sVar 2) aNil)))) (sIf (sTst (s2 dNotIn (sSl (sVar 6) oNo (oSo (sC (.int 2)))) (sVar 5))) (sSeq (sSet 4 (s2 dAdd (sVar 4) (sTup (aCons (sVar 6) aNil)))) (sDo (sM1 dApp (sVar 5) (sSl (sVar 6) oNo (oSo (sC (.int 2))))))) sNil))
    l [some (.ref 0), some (.int 8), some (.int 9), s2_, some (.tup (ts.map lD)), some (.ref 1), s3_] [r, .lst (ts.map pD)] = .nx [some (.ref 0), some (.int 8), some (.int 9), a, some (.tup (ts'.map lD)), some (.ref 1), b] [r', .lst (ts'.map pD)] ∧ Row ns r' ∧ Good ts' ∧ ts'.length ≤ 8
  | [], ts, r, u, v, hr, hg, hl => ⟨ts, r, u, v, rfl, hr, hg, by simpa [Rx.sNil, Rx.sSeq, Rx.sSet, Rx.sRet, Rx.sRetN, Rx.sDo, Rx.sIf, Rx.sCont, Rx.sBrk, Rx.sAsg, Rx.sPar, Rx.sPar3, Rx.gN, Rx.gT, Rx.gsNil, Rx.gsCons, Rx.tupOf, Rx.sFor, Rx.iVal, Rx.valsOf, Rx.s1, Rx.s2, Rx.sVar, Rx.sC, Rx.aNil, Rx.aCons, Rx.sTup, Rx.sLst, Rx.sNew, Rx.sTst, Rx.bNot, Rx.bAnd, Rx.bOr, Rx.sNot, Rx.sAnd, Rx.sOr, Rx.sIte, Rx.dIx, Rx.seqOf, Rx.dGt, Rx.dLt, Rx.dGe, Rx.dLe, Rx.dSub, Rx.dAdd, Rx.dMul, Rx.dDiv, Rx.dMod, Rx.dPow, Rx.sPut, Rx.dPutI, Rx.hOf, Rx.sB, Rx.dLen, Rx.fin, Rx.sCall, Rx.Res.toS, Rx.Res.bind, Rx.sChain, Rx.iR1, Rx.iR2, L2.atI, L2.ixN] using hl⟩
  | d :: l, ts, r, u, v, hr, hg, hl => by
    obtain ⟨x, y, g, r1, e, h1, b1, b2, b3, b4, b5, b6⟩ := light_ok hr [.lst (ts.map pD)]
    have hl' : ts.length + (l.length + 1) ≤ 8 := by simpa [Rx.sNil, Rx.sSeq, Rx.sSet, Rx.sRet, Rx.sRetN, Rx.sDo, Rx.sIf, Rx.sCont, Rx.sBrk, Rx.sAsg, Rx.sPar, Rx.sPar3, Rx.gN, Rx.gT, Rx.gsNil, Rx.gsCons, Rx.tupOf, Rx.sFor, Rx.iVal, Rx.valsOf, Rx.s1, Rx.s2, Rx.sVar, Rx.sC, Rx.aNil, Rx.aCons, Rx.sTup, Rx.sLst, Rx.sNew, Rx.sTst, Rx.bNot, Rx.bAnd, Rx.bOr, Rx.sNot, Rx.sAnd, Rx.sOr, Rx.sIte, Rx.dIx, Rx.seqOf, Rx.dGt, Rx.dLt, Rx.dGe, Rx.dLe, Rx.dSub, Rx.dAdd, Rx.dMul, Rx.dDiv, Rx.dMod, Rx.dPow, Rx.sPut, Rx.dPutI, Rx.hOf, Rx.sB, Rx.dLen, Rx.fin, Rx.sCall, Rx.Res.toS, Rx.Res.bind, Rx.sChain, Rx.iR1, Rx.iR2, L2.atI, L2.ixN] using hl
    have any_ : (ts.map pD).any (fun z => dEqv z (pD (x, y, g))) = decide (pl (x, y, g) ∈ ts.map pl) := by
      rw [List.any_map]
      rw [Bool.eq_iff_iff]
      simp only [List.any_eq_true, Function.comp, eqv_p, decide_eq_true_eq, List.mem_map]
    have op := okD_p (x, y, g)
    have ops := okD_ps ts
    have hs1 : HT.sIx 3 0 none = 0 := rfl
    have hs2 : HT.sIx 3 3 (some 2) = 2 := by decide
    have op' : okD (.tup [.int x, .int y]) = true := op
    have any' : (ts.map pD).any (fun z => dEqv z (.tup [.int x, .int y])) = decide (pl (x, y, g) ∈ ts.map pl) := any_
    unfold forL
    by_cases c : pl (x, y, g) ∈ ts.map pl
    · obtain ⟨ts', r', a, b, e2, z1, z2, z3⟩ := lights_loop l ts r1 (some d) (some (lD (x, y, g))) h1 hg (by omega)
      refine ⟨ts', r', a, b, ?_, z1, z2, z3⟩
      rw [← e2]
      simp [Rx.sNil, Rx.sSeq, Rx.sSet, Rx.sRet, Rx.sRetN, Rx.sDo, Rx.sIf, Rx.sCont, Rx.sBrk, Rx.sAsg, Rx.sPar, Rx.sPar3, Rx.gN, Rx.gT, Rx.gsNil, Rx.gsCons, Rx.tupOf, Rx.sFor, Rx.iVal, Rx.valsOf, Rx.s1, Rx.s2, Rx.sVar, Rx.sC, Rx.aNil, Rx.aCons, Rx.sTup, Rx.sLst, Rx.sNew, Rx.sTst, Rx.bNot, Rx.bAnd, Rx.bOr, Rx.sNot, Rx.sAnd, Rx.sOr, Rx.sIte, Rx.dIx, Rx.seqOf, Rx.dGt, Rx.dLt, Rx.dGe, Rx.dLe, Rx.dSub, Rx.dAdd, Rx.dMul, Rx.dDiv, Rx.dMod, Rx.dPow, Rx.sPut, Rx.dPutI, Rx.hOf, Rx.sB, Rx.dLen, Rx.fin, Rx.sCall, Rx.Res.toS, Rx.Res.bind, Rx.sChain, Rx.iR1, Rx.iR2, L2.atI, L2.ixN, e, sSl, oNo, oSo, dSl, cut2, dNotIn, hs1, hs2, op', ops, any', c, -List.any_map, -List.mem_map]
      rfl
    · have hg' : Good (ts ++ [(x, y, g)]) := by
        refine ⟨fun t ht => ?_, ?_⟩
        · rcases List.mem_append.mp ht with ht | ht
          · exact hg.1 t ht
          · rw [List.mem_singleton.mp ht]
            exact ⟨b1, b2, b3, b4, b5, b6⟩
        · rw [List.map_append, List.nodup_append]
          refine ⟨hg.2, by simp [Rx.sNil, Rx.sSeq, Rx.sSet, Rx.sRet, Rx.sRetN, Rx.sDo, Rx.sIf, Rx.sCont, Rx.sBrk, Rx.sAsg, Rx.sPar, Rx.sPar3, Rx.gN, Rx.gT, Rx.gsNil, Rx.gsCons, Rx.tupOf, Rx.sFor, Rx.iVal, Rx.valsOf, Rx.s1, Rx.s2, Rx.sVar, Rx.sC, Rx.aNil, Rx.aCons, Rx.sTup, Rx.sLst, Rx.sNew, Rx.sTst, Rx.bNot, Rx.bAnd, Rx.bOr, Rx.sNot, Rx.sAnd, Rx.sOr, Rx.sIte, Rx.dIx, Rx.seqOf, Rx.dGt, Rx.dLt, Rx.dGe, Rx.dLe, Rx.dSub, Rx.dAdd, Rx.dMul, Rx.dDiv, Rx.dMod, Rx.dPow, Rx.sPut, Rx.dPutI, Rx.hOf, Rx.sB, Rx.dLen, Rx.fin, Rx.sCall, Rx.Res.toS, Rx.Res.bind, Rx.sChain, Rx.iR1, Rx.iR2, L2.atI, L2.ixN], fun p hp q hq z => ?_⟩
          simp [Rx.sNil, Rx.sSeq, Rx.sSet, Rx.sRet, Rx.sRetN, Rx.sDo, Rx.sIf, Rx.sCont, Rx.sBrk, Rx.sAsg, Rx.sPar, Rx.sPar3, Rx.gN, Rx.gT, Rx.gsNil, Rx.gsCons, Rx.tupOf, Rx.sFor, Rx.iVal, Rx.valsOf, Rx.s1, Rx.s2, Rx.sVar, Rx.sC, Rx.aNil, Rx.aCons, Rx.sTup, Rx.sLst, Rx.sNew, Rx.sTst, Rx.bNot, Rx.bAnd, Rx.bOr, Rx.sNot, Rx.sAnd, Rx.sOr, Rx.sIte, Rx.dIx, Rx.seqOf, Rx.dGt, Rx.dLt, Rx.dGe, Rx.dLe, Rx.dSub, Rx.dAdd, Rx.dMul, Rx.dDiv, Rx.dMod, Rx.dPow, Rx.sPut, Rx.dPutI, Rx.hOf, Rx.sB, Rx.dLen, Rx.fin, Rx.sCall, Rx.Res.toS, Rx.Res.bind, Rx.sChain, Rx.iR1, Rx.iR2, L2.atI, L2.ixN] at hq
          subst z
          rw [hq] at hp
          exact c hp
      obtain ⟨ts', r', a, b, e2, z1, z2, z3⟩ := lights_loop l (ts ++ [(x, y, g)]) r1 (some d) (some (lD (x, y, g))) h1 hg' (by simp [Rx.sNil, Rx.sSeq, Rx.sSet, Rx.sRet, Rx.sRetN, Rx.sDo, Rx.sIf, Rx.sCont, Rx.sBrk, Rx.sAsg, Rx.sPar, Rx.sPar3, Rx.gN, Rx.gT, Rx.gsNil, Rx.gsCons, Rx.tupOf, Rx.sFor, Rx.iVal, Rx.valsOf, Rx.s1, Rx.s2, Rx.sVar, Rx.sC, Rx.aNil, Rx.aCons, Rx.sTup, Rx.sLst, Rx.sNew, Rx.sTst, Rx.bNot, Rx.bAnd, Rx.bOr, Rx.sNot, Rx.sAnd, Rx.sOr, Rx.sIte, Rx.dIx, Rx.seqOf, Rx.dGt, Rx.dLt, Rx.dGe, Rx.dLe, Rx.dSub, Rx.dAdd, Rx.dMul, Rx.dDiv, Rx.dMod, Rx.dPow, Rx.sPut, Rx.dPutI, Rx.hOf, Rx.sB, Rx.dLen, Rx.fin, Rx.sCall, Rx.Res.toS, Rx.Res.bind, Rx.sChain, Rx.iR1, Rx.iR2, L2.atI, L2.ixN]; omega)
      refine ⟨ts', r', a, b, ?_, z1, z2, z3⟩
      rw [← e2]
      have l9 : ts.length ≤ 999999 := by omega
      have l10 : ts.length ≤ 1000000 := by omega
      simp [Rx.sNil, Rx.sSeq, Rx.sSet, Rx.sRet, Rx.sRetN, Rx.sDo, Rx.sIf, Rx.sCont, Rx.sBrk, Rx.sAsg, Rx.sPar, Rx.sPar3, Rx.gN, Rx.gT, Rx.gsNil, Rx.gsCons, Rx.tupOf, Rx.sFor, Rx.iVal, Rx.valsOf, Rx.s1, Rx.s2, Rx.sVar, Rx.sC, Rx.aNil, Rx.aCons, Rx.sTup, Rx.sLst, Rx.sNew, Rx.sTst, Rx.bNot, Rx.bAnd, Rx.bOr, Rx.sNot, Rx.sAnd, Rx.sOr, Rx.sIte, Rx.dIx, Rx.seqOf, Rx.dGt, Rx.dLt, Rx.dGe, Rx.dLe, Rx.dSub, Rx.dAdd, Rx.dMul, Rx.dDiv, Rx.dMod, Rx.dPow, Rx.sPut, Rx.dPutI, Rx.hOf, Rx.sB, Rx.dLen, Rx.fin, Rx.sCall, Rx.Res.toS, Rx.Res.bind, Rx.sChain, Rx.iR1, Rx.iR2, L2.atI, L2.ixN, e, sSl, oNo, oSo, dSl, cut2, dNotIn, hs1, hs2, op', ops, any', c, -List.any_map, -List.mem_map, sM1, isL, dApp, l9, l10]
      rfl
theorem undr_ints (n : Nat) : ∀ l : List Int, D.undr.all n (l.map .int) = true
  | [] => rfl
  | i :: l => by simp [Rx.sNil, Rx.sSeq, Rx.sSet, Rx.sRet, Rx.sRetN, Rx.sDo, Rx.sIf, Rx.sCont, Rx.sBrk, Rx.sAsg, Rx.sPar, Rx.sPar3, Rx.gN, Rx.gT, Rx.gsNil, Rx.gsCons, Rx.tupOf, Rx.sFor, Rx.iVal, Rx.valsOf, Rx.s1, Rx.s2, Rx.sVar, Rx.sC, Rx.aNil, Rx.aCons, Rx.sTup, Rx.sLst, Rx.sNew, Rx.sTst, Rx.bNot, Rx.bAnd, Rx.bOr, Rx.sNot, Rx.sAnd, Rx.sOr, Rx.sIte, Rx.dIx, Rx.seqOf, Rx.dGt, Rx.dLt, Rx.dGe, Rx.dLe, Rx.dSub, Rx.dAdd, Rx.dMul, Rx.dDiv, Rx.dMod, Rx.dPow, Rx.sPut, Rx.dPutI, Rx.hOf, Rx.sB, Rx.dLen, Rx.fin, Rx.sCall, Rx.Res.toS, Rx.Res.bind, Rx.sChain, Rx.iR1, Rx.iR2, L2.atI, L2.ixN, D.undr.all, D.undr, undr_ints n l]
theorem undr_row {ns : List Int} {r : MO} (h : Row ns r) (n : Nat) : MO.undr n r = true := by
  obtain ⟨i, c, x, rfl⟩ := h
  simp [Rx.sNil, Rx.sSeq, Rx.sSet, Rx.sRet, Rx.sRetN, Rx.sDo, Rx.sIf, Rx.sCont, Rx.sBrk, Rx.sAsg, Rx.sPar, Rx.sPar3, Rx.gN, Rx.gT, Rx.gsNil, Rx.gsCons, Rx.tupOf, Rx.sFor, Rx.iVal, Rx.valsOf, Rx.s1, Rx.s2, Rx.sVar, Rx.sC, Rx.aNil, Rx.aCons, Rx.sTup, Rx.sLst, Rx.sNew, Rx.sTst, Rx.bNot, Rx.bAnd, Rx.bOr, Rx.sNot, Rx.sAnd, Rx.sOr, Rx.sIte, Rx.dIx, Rx.seqOf, Rx.dGt, Rx.dLt, Rx.dGe, Rx.dLe, Rx.dSub, Rx.dAdd, Rx.dMul, Rx.dDiv, Rx.dMod, Rx.dPow, Rx.sPut, Rx.dPutI, Rx.hOf, Rx.sB, Rx.dLen, Rx.fin, Rx.sCall, Rx.Res.toS, Rx.Res.bind, Rx.sChain, Rx.iR1, Rx.iR2, L2.atI, L2.ixN, MO.undr, rowM, D.undr.all, D.undr, undr_ints]
theorem undr_ls (n : Nat) : ∀ ts : List Lt, D.undr.all n (ts.map lD) = true
  | [] => rfl
  | t :: ts => by simp [Rx.sNil, Rx.sSeq, Rx.sSet, Rx.sRet, Rx.sRetN, Rx.sDo, Rx.sIf, Rx.sCont, Rx.sBrk, Rx.sAsg, Rx.sPar, Rx.sPar3, Rx.gN, Rx.gT, Rx.gsNil, Rx.gsCons, Rx.tupOf, Rx.sFor, Rx.iVal, Rx.valsOf, Rx.s1, Rx.s2, Rx.sVar, Rx.sC, Rx.aNil, Rx.aCons, Rx.sTup, Rx.sLst, Rx.sNew, Rx.sTst, Rx.bNot, Rx.bAnd, Rx.bOr, Rx.sNot, Rx.sAnd, Rx.sOr, Rx.sIte, Rx.dIx, Rx.seqOf, Rx.dGt, Rx.dLt, Rx.dGe, Rx.dLe, Rx.dSub, Rx.dAdd, Rx.dMul, Rx.dDiv, Rx.dMod, Rx.dPow, Rx.sPut, Rx.dPutI, Rx.hOf, Rx.sB, Rx.dLen, Rx.fin, Rx.sCall, Rx.Res.toS, Rx.Res.bind, Rx.sChain, Rx.iR1, Rx.iR2, L2.atI, L2.ixN, D.undr.all, undr_ls n ts, lD, D.undr]
theorem lights_ok {ns : List Int} {r : MO} (h : Row ns r) : ∃ ts r', f__law_lights [.ref 0, .int 8, .int 9] [r] = .ok (.tup (ts.map lD)) [r'] ∧ Row ns r' ∧ Good ts ∧ ts.length ≤ 8 := by
  obtain ⟨n, r1, e, h1, n1, n2⟩ := taken_ok h (k := 9) (by decide) (by decide) [.lst []]
  obtain ⟨ts, r', a, b, e2, z1, z2, z3⟩ := lights_loop (rangeD 0 n.toNat) [] r1 none none h1 ⟨by simp [Rx.sNil, Rx.sSeq, Rx.sSet, Rx.sRet, Rx.sRetN, Rx.sDo, Rx.sIf, Rx.sCont, Rx.sBrk, Rx.sAsg, Rx.sPar, Rx.sPar3, Rx.gN, Rx.gT, Rx.gsNil, Rx.gsCons, Rx.tupOf, Rx.sFor, Rx.iVal, Rx.valsOf, Rx.s1, Rx.s2, Rx.sVar, Rx.sC, Rx.aNil, Rx.aCons, Rx.sTup, Rx.sLst, Rx.sNew, Rx.sTst, Rx.bNot, Rx.bAnd, Rx.bOr, Rx.sNot, Rx.sAnd, Rx.sOr, Rx.sIte, Rx.dIx, Rx.seqOf, Rx.dGt, Rx.dLt, Rx.dGe, Rx.dLe, Rx.dSub, Rx.dAdd, Rx.dMul, Rx.dDiv, Rx.dMod, Rx.dPow, Rx.sPut, Rx.dPutI, Rx.hOf, Rx.sB, Rx.dLen, Rx.fin, Rx.sCall, Rx.Res.toS, Rx.Res.bind, Rx.sChain, Rx.iR1, Rx.iR2, L2.atI, L2.ixN], by simp [Rx.sNil, Rx.sSeq, Rx.sSet, Rx.sRet, Rx.sRetN, Rx.sDo, Rx.sIf, Rx.sCont, Rx.sBrk, Rx.sAsg, Rx.sPar, Rx.sPar3, Rx.gN, Rx.gT, Rx.gsNil, Rx.gsCons, Rx.tupOf, Rx.sFor, Rx.iVal, Rx.valsOf, Rx.s1, Rx.s2, Rx.sVar, Rx.sC, Rx.aNil, Rx.aCons, Rx.sTup, Rx.sLst, Rx.sNew, Rx.sTst, Rx.bNot, Rx.bAnd, Rx.bOr, Rx.sNot, Rx.sAnd, Rx.sOr, Rx.sIte, Rx.dIx, Rx.seqOf, Rx.dGt, Rx.dLt, Rx.dGe, Rx.dLe, Rx.dSub, Rx.dAdd, Rx.dMul, Rx.dDiv, Rx.dMod, Rx.dPow, Rx.sPut, Rx.dPutI, Rx.hOf, Rx.sB, Rx.dLen, Rx.fin, Rx.sCall, Rx.Res.toS, Rx.Res.bind, Rx.sChain, Rx.iR1, Rx.iR2, L2.atI, L2.ixN]⟩ (by simp [Rx.sNil, Rx.sSeq, Rx.sSet, Rx.sRet, Rx.sRetN, Rx.sDo, Rx.sIf, Rx.sCont, Rx.sBrk, Rx.sAsg, Rx.sPar, Rx.sPar3, Rx.gN, Rx.gT, Rx.gsNil, Rx.gsCons, Rx.tupOf, Rx.sFor, Rx.iVal, Rx.valsOf, Rx.s1, Rx.s2, Rx.sVar, Rx.sC, Rx.aNil, Rx.aCons, Rx.sTup, Rx.sLst, Rx.sNew, Rx.sTst, Rx.bNot, Rx.bAnd, Rx.bOr, Rx.sNot, Rx.sAnd, Rx.sOr, Rx.sIte, Rx.dIx, Rx.seqOf, Rx.dGt, Rx.dLt, Rx.dGe, Rx.dLe, Rx.dSub, Rx.dAdd, Rx.dMul, Rx.dDiv, Rx.dMod, Rx.dPow, Rx.sPut, Rx.dPutI, Rx.hOf, Rx.sB, Rx.dLen, Rx.fin, Rx.sCall, Rx.Res.toS, Rx.Res.bind, Rx.sChain, Rx.iR1, Rx.iR2, L2.atI, L2.ixN, rangeD]; omega)
  refine ⟨ts, r', ?_, z1, z2, z3⟩
  unfold f__law_lights runT Rx.run b__law_lights
  have hn : -4611686018427387904 ≤ n ∧ n < 4611686018427387904 := by omega
  simp [Rx.sNil, Rx.sSeq, Rx.sSet, Rx.sRet, Rx.sRetN, Rx.sDo, Rx.sIf, Rx.sCont, Rx.sBrk, Rx.sAsg, Rx.sPar, Rx.sPar3, Rx.gN, Rx.gT, Rx.gsNil, Rx.gsCons, Rx.tupOf, Rx.sFor, Rx.iVal, Rx.valsOf, Rx.s1, Rx.s2, Rx.sVar, Rx.sC, Rx.aNil, Rx.aCons, Rx.sTup, Rx.sLst, Rx.sNew, Rx.sTst, Rx.bNot, Rx.bAnd, Rx.bOr, Rx.sNot, Rx.sAnd, Rx.sOr, Rx.sIte, Rx.dIx, Rx.seqOf, Rx.dGt, Rx.dLt, Rx.dGe, Rx.dLe, Rx.dSub, Rx.dAdd, Rx.dMul, Rx.dDiv, Rx.dMod, Rx.dPow, Rx.sPut, Rx.dPutI, Rx.hOf, Rx.sB, Rx.dLen, Rx.fin, Rx.sCall, Rx.Res.toS, Rx.Res.bind, Rx.sChain, Rx.iR1, Rx.iR2, L2.atI, L2.ixN, e, hn]
  simp [Rx.sNil, Rx.sSeq, Rx.sSet, Rx.sRet, Rx.sRetN, Rx.sDo, Rx.sIf, Rx.sCont, Rx.sBrk, Rx.sAsg, Rx.sPar, Rx.sPar3, Rx.gN, Rx.gT, Rx.gsNil, Rx.gsCons, Rx.tupOf, Rx.sFor, Rx.iVal, Rx.valsOf, Rx.s1, Rx.s2, Rx.sVar, Rx.sC, Rx.aNil, Rx.aCons, Rx.sTup, Rx.sLst, Rx.sNew, Rx.sTst, Rx.bNot, Rx.bAnd, Rx.bOr, Rx.sNot, Rx.sAnd, Rx.sOr, Rx.sIte, Rx.dIx, Rx.seqOf, Rx.dGt, Rx.dLt, Rx.dGe, Rx.dLe, Rx.dSub, Rx.dAdd, Rx.dMul, Rx.dDiv, Rx.dMod, Rx.dPow, Rx.sPut, Rx.dPutI, Rx.hOf, Rx.sB, Rx.dLen, Rx.fin, Rx.sCall, Rx.Res.toS, Rx.Res.bind, Rx.sChain, Rx.iR1, Rx.iR2, L2.atI, L2.ixN] at e2
  rw [e2]
  simp [Rx.sNil, Rx.sSeq, Rx.sSet, Rx.sRet, Rx.sRetN, Rx.sDo, Rx.sIf, Rx.sCont, Rx.sBrk, Rx.sAsg, Rx.sPar, Rx.sPar3, Rx.gN, Rx.gT, Rx.gsNil, Rx.gsCons, Rx.tupOf, Rx.sFor, Rx.iVal, Rx.valsOf, Rx.s1, Rx.s2, Rx.sVar, Rx.sC, Rx.aNil, Rx.aCons, Rx.sTup, Rx.sLst, Rx.sNew, Rx.sTst, Rx.bNot, Rx.bAnd, Rx.bOr, Rx.sNot, Rx.sAnd, Rx.sOr, Rx.sIte, Rx.dIx, Rx.seqOf, Rx.dGt, Rx.dLt, Rx.dGe, Rx.dLe, Rx.dSub, Rx.dAdd, Rx.dMul, Rx.dDiv, Rx.dMod, Rx.dPow, Rx.sPut, Rx.dPutI, Rx.hOf, Rx.sB, Rx.dLen, Rx.fin, Rx.sCall, Rx.Res.toS, Rx.Res.bind, Rx.sChain, Rx.iR1, Rx.iR2, L2.atI, L2.ixN, trim, D.undr, undr_ls, undr_row z1]
end Tx
set_option Elab.async false
set_option linter.all false
set_option maxRecDepth 100000
namespace Tx
open PySem PySem.Spec PyProof.Rows L2 Rx
theorem number_ok (i lo hi : Int) (m : Mu) : f_is_number [.int i, .int lo, .int hi] m = .ok (.bl (decide (lo ≤ i) && decide (i ≤ hi))) m := by
  unfold f_is_number Rx.run b_is_number
  by_cases c : lo ≤ i <;> simp [Rx.sNil, Rx.sSeq, Rx.sSet, Rx.sRet, Rx.sRetN, Rx.sDo, Rx.sIf, Rx.sCont, Rx.sBrk, Rx.sAsg, Rx.sPar, Rx.sPar3, Rx.gN, Rx.gT, Rx.gsNil, Rx.gsCons, Rx.tupOf, Rx.sFor, Rx.iVal, Rx.valsOf, Rx.s1, Rx.s2, Rx.sVar, Rx.sC, Rx.aNil, Rx.aCons, Rx.sTup, Rx.sLst, Rx.sNew, Rx.sTst, Rx.bNot, Rx.bAnd, Rx.bOr, Rx.sNot, Rx.sAnd, Rx.sOr, Rx.sIte, Rx.dIx, Rx.seqOf, Rx.dGt, Rx.dLt, Rx.dGe, Rx.dLe, Rx.dSub, Rx.dAdd, Rx.dMul, Rx.dDiv, Rx.dMod, Rx.dPow, Rx.sPut, Rx.dPutI, Rx.hOf, Rx.sB, Rx.dLen, Rx.fin, Rx.sCall, Rx.Res.toS, Rx.Res.bind, Rx.sChain, Rx.iR1, Rx.iR2, L2.atI, L2.ixN, dIsi, kdOf, isKd, c]
theorem numbers_ok {t : Lt} (h : Fine t) (m : Mu) : f_are_numbers [lD t, k_LIGHT_BOUNDS] m = .ok (.bl true) m := by
  obtain ⟨h1, h2, h3, h4, h5, h6⟩ := h
  have e1 : decide ((-999 : Int) ≤ t.1) = true := decide_eq_true (by omega)
  have e2 : decide (t.1 ≤ 999) = true := decide_eq_true (by omega)
  have e3 : decide ((-999 : Int) ≤ t.2.1) = true := decide_eq_true (by omega)
  have e4 : decide (t.2.1 ≤ 999) = true := decide_eq_true (by omega)
  have e5 : decide ((0 : Int) ≤ t.2.2) = true := decide_eq_true (by omega)
  have e6 : decide (t.2.2 ≤ 99) = true := decide_eq_true (by omega)
  unfold f_are_numbers Rx.run b_are_numbers
  simp [Rx.sNil, Rx.sSeq, Rx.sSet, Rx.sRet, Rx.sRetN, Rx.sDo, Rx.sIf, Rx.sCont, Rx.sBrk, Rx.sAsg, Rx.sPar, Rx.sPar3, Rx.gN, Rx.gT, Rx.gsNil, Rx.gsCons, Rx.tupOf, Rx.sFor, Rx.iVal, Rx.valsOf, Rx.s1, Rx.s2, Rx.sVar, Rx.sC, Rx.aNil, Rx.aCons, Rx.sTup, Rx.sLst, Rx.sNew, Rx.sTst, Rx.bNot, Rx.bAnd, Rx.bOr, Rx.sNot, Rx.sAnd, Rx.sOr, Rx.sIte, Rx.dIx, Rx.seqOf, Rx.dGt, Rx.dLt, Rx.dGe, Rx.dLe, Rx.dSub, Rx.dAdd, Rx.dMul, Rx.dDiv, Rx.dMod, Rx.dPow, Rx.sPut, Rx.dPutI, Rx.hOf, Rx.sB, Rx.dLen, Rx.fin, Rx.sCall, Rx.Res.toS, Rx.Res.bind, Rx.sChain, Rx.iR1, Rx.iR2, L2.atI, L2.ixN, dIsi, kdOf, isKd, lD, k_LIGHT_BOUNDS, dNe, deref, okD_int, dEqv, pyD, PyData.eqv, sLc, lcL, iZp, zipD, wipeD, bYes, number_ok, dAll, blsOf]
  omega
def kt (t : Lt) : List Key := [.inl t.1, .inl t.2.1]
theorem kt_inj {t u : Lt} : kt t = kt u ↔ pl t = pl u := by unfold kt pl; simp [Rx.sNil, Rx.sSeq, Rx.sSet, Rx.sRet, Rx.sRetN, Rx.sDo, Rx.sIf, Rx.sCont, Rx.sBrk, Rx.sAsg, Rx.sPar, Rx.sPar3, Rx.gN, Rx.gT, Rx.gsNil, Rx.gsCons, Rx.tupOf, Rx.sFor, Rx.iVal, Rx.valsOf, Rx.s1, Rx.s2, Rx.sVar, Rx.sC, Rx.aNil, Rx.aCons, Rx.sTup, Rx.sLst, Rx.sNew, Rx.sTst, Rx.bNot, Rx.bAnd, Rx.bOr, Rx.sNot, Rx.sAnd, Rx.sOr, Rx.sIte, Rx.dIx, Rx.seqOf, Rx.dGt, Rx.dLt, Rx.dGe, Rx.dLe, Rx.dSub, Rx.dAdd, Rx.dMul, Rx.dDiv, Rx.dMod, Rx.dPow, Rx.sPut, Rx.dPutI, Rx.hOf, Rx.sB, Rx.dLen, Rx.fin, Rx.sCall, Rx.Res.toS, Rx.Res.bind, Rx.sChain, Rx.iR1, Rx.iR2, L2.atI, L2.ixN]
theorem valD_none {kvs : List (List Key × D)} {k : List Key} (h : k ∉ kvs.map (·.1)) : (valD kvs k).isSome = false := by
  unfold valD
  rw [Option.isSome_map]
  cases e : kvs.find? fun kv => decide (kv.1 = k) with
  | none => rfl
  | some kv =>
    have h1 := List.find?_some e
    have h2 := List.mem_of_find?_eq_some e
    exact absurd (List.mem_map.mpr ⟨kv, h2, of_decide_eq_true h1⟩) h
theorem putD_new {kvs : List (List Key × D)} {k : List Key} (v : D) (h : k ∉ kvs.map (·.1)) : putD kvs k v = kvs ++ [(k, v)] := by
  unfold putD
  rw [if_neg]
  intro z
  obtain ⟨kv, h2, h1⟩ := List.any_eq_true.mp z
  exact h (List.mem_map.mpr ⟨kv, h2, of_decide_eq_true h1⟩)
theorem forL_step {g : STg} {body : SSt} {d : D} {ds : List D} {s s1 s2 : Sd} {m m2 : Mu} (hg : g d s = some s1) (hb : body s1 m = .nx s2 m2) : forL g body (d :: ds) s m = forL g body ds s2 m2 := by
  rw [forL, hg]
  dsimp only
  rw [hb]
def bCheck : SSt := (sSeq (sIf (bOr (sTst (s2 dEq (sVar 2) (sC k_MOST_LIGHTS))) (bNot (sTst (sCall 2 f_are_numbers (aCons (sVar 3) (aCons (sC k_LIGHT_BOUNDS) aNil)))))) (sRaise1 "BadLights" "number" (aCons (sVar 2) aNil)) sNil) (sSeq (sSet 4 (sSl (sVar 3) oNo (oSo (sC (.int 2))))) (sSeq (sIf (sTst (s2 dDin (sVar 4) (sVar 1))) (sRaise1 "BadLights" "number" (aCons (sVar 2) aNil)) sNil) (sDput (sC (.bl true)) (sVar 1) (sVar 4)))))
theorem check_loop (a : Option D) (m : Mu) : ∀ (ts : List Lt) (n : Nat) (kvs : List (List Key × D)) (u v w : Option D), (∀ t ∈ ts, Fine t) → kvs.length = n → n + ts.length ≤ 8 → (ts.map kt).Nodup → (∀ t ∈ ts, kt t ∉ kvs.map (·.1)) →
    ∃ u' v' w' kvs', forL (gT (gsCons (gN 2) (gsCons (gN 3) gsNil))) bCheck (enumD n (ts.map lD)) [a, some (.ref m.length), u, v, w] (m ++ [.dic kvs]) = .nx [a, some (.ref m.length), u', v', w'] (m ++ [.dic kvs'])
  | [], n, kvs, u, v, w, _, _, _, _, _ => ⟨u, v, w, kvs, rfl⟩
  | t :: ts, n, kvs, u, v, w, hf, hk, hn, hd, hx => by
    have hf1 := hf t (List.mem_cons_self)
    have hx1 := hx t (List.mem_cons_self)
    have hd' := List.nodup_cons.mp (show (kt t :: ts.map kt).Nodup from hd)
    have hn' : n + (ts.length + 1) ≤ 8 := by simpa [Rx.sNil, Rx.sSeq, Rx.sSet, Rx.sRet, Rx.sRetN, Rx.sDo, Rx.sIf, Rx.sCont, Rx.sBrk, Rx.sAsg, Rx.sPar, Rx.sPar3, Rx.gN, Rx.gT, Rx.gsNil, Rx.gsCons, Rx.tupOf, Rx.sFor, Rx.iVal, Rx.valsOf, Rx.s1, Rx.s2, Rx.sVar, Rx.sC, Rx.aNil, Rx.aCons, Rx.sTup, Rx.sLst, Rx.sNew, Rx.sTst, Rx.bNot, Rx.bAnd, Rx.bOr, Rx.sNot, Rx.sAnd, Rx.sOr, Rx.sIte, Rx.dIx, Rx.seqOf, Rx.dGt, Rx.dLt, Rx.dGe, Rx.dLe, Rx.dSub, Rx.dAdd, Rx.dMul, Rx.dDiv, Rx.dMod, Rx.dPow, Rx.sPut, Rx.dPutI, Rx.hOf, Rx.sB, Rx.dLen, Rx.fin, Rx.sCall, Rx.Res.toS, Rx.Res.bind, Rx.sChain, Rx.iR1, Rx.iR2, L2.atI, L2.ixN] using hn
    obtain ⟨u', v', w', kvs', e⟩ := check_loop a m ts (n + 1) (kvs ++ [(kt t, .bl true)]) (some (.int n)) (some (lD t)) (some (.tup [.int t.1, .int t.2.1])) (fun x hx => hf x (List.mem_cons_of_mem _ hx)) (by simp [Rx.sNil, Rx.sSeq, Rx.sSet, Rx.sRet, Rx.sRetN, Rx.sDo, Rx.sIf, Rx.sCont, Rx.sBrk, Rx.sAsg, Rx.sPar, Rx.sPar3, Rx.gN, Rx.gT, Rx.gsNil, Rx.gsCons, Rx.tupOf, Rx.sFor, Rx.iVal, Rx.valsOf, Rx.s1, Rx.s2, Rx.sVar, Rx.sC, Rx.aNil, Rx.aCons, Rx.sTup, Rx.sLst, Rx.sNew, Rx.sTst, Rx.bNot, Rx.bAnd, Rx.bOr, Rx.sNot, Rx.sAnd, Rx.sOr, Rx.sIte, Rx.dIx, Rx.seqOf, Rx.dGt, Rx.dLt, Rx.dGe, Rx.dLe, Rx.dSub, Rx.dAdd, Rx.dMul, Rx.dDiv, Rx.dMod, Rx.dPow, Rx.sPut, Rx.dPutI, Rx.hOf, Rx.sB, Rx.dLen, Rx.fin, Rx.sCall, Rx.Res.toS, Rx.Res.bind, Rx.sChain, Rx.iR1, Rx.iR2, L2.atI, L2.ixN, hk]) (by omega) hd'.2 (fun x hx2 z => by
      rw [List.map_append] at z
      rcases List.mem_append.mp z with z | z
      · exact hx x (List.mem_cons_of_mem _ hx2) z
      · simp [Rx.sNil, Rx.sSeq, Rx.sSet, Rx.sRet, Rx.sRetN, Rx.sDo, Rx.sIf, Rx.sCont, Rx.sBrk, Rx.sAsg, Rx.sPar, Rx.sPar3, Rx.gN, Rx.gT, Rx.gsNil, Rx.gsCons, Rx.tupOf, Rx.sFor, Rx.iVal, Rx.valsOf, Rx.s1, Rx.s2, Rx.sVar, Rx.sC, Rx.aNil, Rx.aCons, Rx.sTup, Rx.sLst, Rx.sNew, Rx.sTst, Rx.bNot, Rx.bAnd, Rx.bOr, Rx.sNot, Rx.sAnd, Rx.sOr, Rx.sIte, Rx.dIx, Rx.seqOf, Rx.dGt, Rx.dLt, Rx.dGe, Rx.dLe, Rx.dSub, Rx.dAdd, Rx.dMul, Rx.dDiv, Rx.dMod, Rx.dPow, Rx.sPut, Rx.dPutI, Rx.hOf, Rx.sB, Rx.dLen, Rx.fin, Rx.sCall, Rx.Res.toS, Rx.Res.bind, Rx.sChain, Rx.iR1, Rx.iR2, L2.atI, L2.ixN] at z
        exact hd'.1 (by rw [← z]; exact List.mem_map_of_mem hx2))
    refine ⟨u', v', w', kvs', ?_⟩
    have hs1 : HT.sIx 3 0 none = 0 := rfl
    have hs2 : HT.sIx 3 3 (some 2) = 2 := by decide
    have n16 : ¬ ((n : Int) = 16) := by omega
    have nb := numbers_ok hf1 (m ++ [.dic kvs])
    have v1 := valD_none hx1
    have v2 := putD_new (.bl true) hx1
    have k6 : kvs.length ≤ 1000000 := by omega
    have hb : bCheck [a, some (.ref m.length), some (.int n), some (lD t), w] (m ++ [.dic kvs]) = .nx [a, some (.ref m.length), some (.int n), some (lD t), some (.tup [.int t.1, .int t.2.1])] (m ++ [.dic (kvs ++ [(kt t, .bl true)])]) := by
      unfold lD at nb ⊢
      unfold kt at v1 v2 ⊢
      simp [Rx.sNil, Rx.sSeq, Rx.sSet, Rx.sRet, Rx.sRetN, Rx.sDo, Rx.sIf, Rx.sCont, Rx.sBrk, Rx.sAsg, Rx.sPar, Rx.sPar3, Rx.gN, Rx.gT, Rx.gsNil, Rx.gsCons, Rx.tupOf, Rx.sFor, Rx.iVal, Rx.valsOf, Rx.s1, Rx.s2, Rx.sVar, Rx.sC, Rx.aNil, Rx.aCons, Rx.sTup, Rx.sLst, Rx.sNew, Rx.sTst, Rx.bNot, Rx.bAnd, Rx.bOr, Rx.sNot, Rx.sAnd, Rx.sOr, Rx.sIte, Rx.dIx, Rx.seqOf, Rx.dGt, Rx.dLt, Rx.dGe, Rx.dLe, Rx.dSub, Rx.dAdd, Rx.dMul, Rx.dDiv, Rx.dMod, Rx.dPow, Rx.sPut, Rx.dPutI, Rx.hOf, Rx.sB, Rx.dLen, Rx.fin, Rx.sCall, Rx.Res.toS, Rx.Res.bind, Rx.sChain, Rx.iR1, Rx.iR2, L2.atI, L2.ixN, bCheck, dEq, deref, k_MOST_LIGHTS, okD_int, dEqv, pyD, PyData.eqv, n16, nb, sSl, oNo, oSo, dSl, cut2, hs1, hs2, dDin, dicOf, tkeyOf, keysOf, keyOf, v1, sDput, dDput, v2, k6]
    exact (forL_step rfl hb).trans e
theorem check_ok {ts : List Lt} (h : Good ts) (hl : ts.length ≤ 8) {m : Mu} (hu : m.all (MO.undr m.length) = true) : f_check_lights [.tup (ts.map lD)] m = .ok .non m := by
  obtain ⟨u', v', w', kvs', e⟩ := check_loop (some (.tup (ts.map lD))) m ts 0 [] none none none h.1 rfl (by omega) (by
    have := h.2
    rw [show ts.map kt = (ts.map pl).map fun p => [Sum.inl p.1, Sum.inl p.2] by rw [List.map_map]; rfl]
    exact List.Pairwise.map _ (fun a b (z : a ≠ b) e => z (by
      simp [Rx.sNil, Rx.sSeq, Rx.sSet, Rx.sRet, Rx.sRetN, Rx.sDo, Rx.sIf, Rx.sCont, Rx.sBrk, Rx.sAsg, Rx.sPar, Rx.sPar3, Rx.gN, Rx.gT, Rx.gsNil, Rx.gsCons, Rx.tupOf, Rx.sFor, Rx.iVal, Rx.valsOf, Rx.s1, Rx.s2, Rx.sVar, Rx.sC, Rx.aNil, Rx.aCons, Rx.sTup, Rx.sLst, Rx.sNew, Rx.sTst, Rx.bNot, Rx.bAnd, Rx.bOr, Rx.sNot, Rx.sAnd, Rx.sOr, Rx.sIte, Rx.dIx, Rx.seqOf, Rx.dGt, Rx.dLt, Rx.dGe, Rx.dLe, Rx.dSub, Rx.dAdd, Rx.dMul, Rx.dDiv, Rx.dMod, Rx.dPow, Rx.sPut, Rx.dPutI, Rx.hOf, Rx.sB, Rx.dLen, Rx.fin, Rx.sCall, Rx.Res.toS, Rx.Res.bind, Rx.sChain, Rx.iR1, Rx.iR2, L2.atI, L2.ixN] at e
      exact Prod.ext e.1 e.2)) this) (fun t _ => by simp [Rx.sNil, Rx.sSeq, Rx.sSet, Rx.sRet, Rx.sRetN, Rx.sDo, Rx.sIf, Rx.sCont, Rx.sBrk, Rx.sAsg, Rx.sPar, Rx.sPar3, Rx.gN, Rx.gT, Rx.gsNil, Rx.gsCons, Rx.tupOf, Rx.sFor, Rx.iVal, Rx.valsOf, Rx.s1, Rx.s2, Rx.sVar, Rx.sC, Rx.aNil, Rx.aCons, Rx.sTup, Rx.sLst, Rx.sNew, Rx.sTst, Rx.bNot, Rx.bAnd, Rx.bOr, Rx.sNot, Rx.sAnd, Rx.sOr, Rx.sIte, Rx.dIx, Rx.seqOf, Rx.dGt, Rx.dLt, Rx.dGe, Rx.dLe, Rx.dSub, Rx.dAdd, Rx.dMul, Rx.dDiv, Rx.dMod, Rx.dPow, Rx.sPut, Rx.dPutI, Rx.hOf, Rx.sB, Rx.dLen, Rx.fin, Rx.sCall, Rx.Res.toS, Rx.Res.bind, Rx.sChain, Rx.iR1, Rx.iR2, L2.atI, L2.ixN])
  unfold f_check_lights runT Rx.run b_check_lights
  simp [Rx.sNil, Rx.sSeq, Rx.sSet, Rx.sRet, Rx.sRetN, Rx.sDo, Rx.sIf, Rx.sCont, Rx.sBrk, Rx.sAsg, Rx.sPar, Rx.sPar3, Rx.gN, Rx.gT, Rx.gsNil, Rx.gsCons, Rx.tupOf, Rx.sFor, Rx.iVal, Rx.valsOf, Rx.s1, Rx.s2, Rx.sVar, Rx.sC, Rx.aNil, Rx.aCons, Rx.sTup, Rx.sLst, Rx.sNew, Rx.sTst, Rx.bNot, Rx.bAnd, Rx.bOr, Rx.sNot, Rx.sAnd, Rx.sOr, Rx.sIte, Rx.dIx, Rx.seqOf, Rx.dGt, Rx.dLt, Rx.dGe, Rx.dLe, Rx.dSub, Rx.dAdd, Rx.dMul, Rx.dDiv, Rx.dMod, Rx.dPow, Rx.sPut, Rx.dPutI, Rx.hOf, Rx.sB, Rx.dLen, Rx.fin, Rx.sCall, Rx.Res.toS, Rx.Res.bind, Rx.sChain, Rx.iR1, Rx.iR2, L2.atI, L2.ixN, dIsi, kdOf, isKd, sDic, iEn]
  unfold bCheck at e
  rw [e]
  simp [Rx.sNil, Rx.sSeq, Rx.sSet, Rx.sRet, Rx.sRetN, Rx.sDo, Rx.sIf, Rx.sCont, Rx.sBrk, Rx.sAsg, Rx.sPar, Rx.sPar3, Rx.gN, Rx.gT, Rx.gsNil, Rx.gsCons, Rx.tupOf, Rx.sFor, Rx.iVal, Rx.valsOf, Rx.s1, Rx.s2, Rx.sVar, Rx.sC, Rx.aNil, Rx.aCons, Rx.sTup, Rx.sLst, Rx.sNew, Rx.sTst, Rx.bNot, Rx.bAnd, Rx.bOr, Rx.sNot, Rx.sAnd, Rx.sOr, Rx.sIte, Rx.dIx, Rx.seqOf, Rx.dGt, Rx.dLt, Rx.dGe, Rx.dLe, Rx.dSub, Rx.dAdd, Rx.dMul, Rx.dDiv, Rx.dMod, Rx.dPow, Rx.sPut, Rx.dPutI, Rx.hOf, Rx.sB, Rx.dLen, Rx.fin, Rx.sCall, Rx.Res.toS, Rx.Res.bind, Rx.sChain, Rx.iR1, Rx.iR2, L2.atI, L2.ixN, trim, D.undr, hu]
end Tx
set_option Elab.async false
set_option linter.all false
set_option maxRecDepth 100000
namespace Tx
open PySem PySem.Spec PyProof.Rows L2 Rx
def W (n x y : Int) : Int × Int := if n = 0 then (x, y) else if n = 1 then (0 - y, x) else if n = 2 then (0 - x, 0 - y) else if n = 3 then (y, 0 - x) else if n = 4 then (0 - x, y) else if n = 5 then (y, x) else if n = 6 then (x, 0 - y) else (0 - y, 0 - x)
theorem cases8 {n : Int} (h1 : 0 ≤ n) (h2 : n < 8) : n = 0 ∨ n = 1 ∨ n = 2 ∨ n = 3 ∨ n = 4 ∨ n = 5 ∨ n = 6 ∨ n = 7 := by omega
theorem way_ok {n : Int} (h1 : 0 ≤ n) (h2 : n < 8) (x y : Int) (m : Mu) : f__law_way [.int n, .int x, .int y] m = .ok (.tup [.int (W n x y).1, .int (W n x y).2]) m := by
  unfold f__law_way Rx.run b__law_way
  rcases cases8 h1 h2 with rfl | rfl | rfl | rfl | rfl | rfl | rfl | rfl <;> simp [Rx.sNil, Rx.sSeq, Rx.sSet, Rx.sRet, Rx.sRetN, Rx.sDo, Rx.sIf, Rx.sCont, Rx.sBrk, Rx.sAsg, Rx.sPar, Rx.sPar3, Rx.gN, Rx.gT, Rx.gsNil, Rx.gsCons, Rx.tupOf, Rx.sFor, Rx.iVal, Rx.valsOf, Rx.s1, Rx.s2, Rx.sVar, Rx.sC, Rx.aNil, Rx.aCons, Rx.sTup, Rx.sLst, Rx.sNew, Rx.sTst, Rx.bNot, Rx.bAnd, Rx.bOr, Rx.sNot, Rx.sAnd, Rx.sOr, Rx.sIte, Rx.dIx, Rx.seqOf, Rx.dGt, Rx.dLt, Rx.dGe, Rx.dLe, Rx.dSub, Rx.dAdd, Rx.dMul, Rx.dDiv, Rx.dMod, Rx.dPow, Rx.sPut, Rx.dPutI, Rx.hOf, Rx.sB, Rx.dLen, Rx.fin, Rx.sCall, Rx.Res.toS, Rx.Res.bind, Rx.sChain, Rx.iR1, Rx.iR2, L2.atI, L2.ixN, W]
def tl (n : Int) (t : Lt) : Lt := ((W n t.1 t.2.1).1, (W n t.1 t.2.1).2, t.2.2)
theorem lcL_all {g : STg} {tt : SBl} {el : SEx} {s : Sd} {m : Mu} {f : Lt → D} : ∀ (ts : List Lt), (∀ t ∈ ts, ∃ s1, g (lD t) s = some s1 ∧ tt s1 m = .ok true m ∧ el s1 m = .ok (f t) m) → lcL g tt el s (ts.map lD) m = .ok (ts.map f) m
  | [], _ => rfl
  | t :: ts, h => by
    obtain ⟨s1, e1, e2, e3⟩ := h t List.mem_cons_self
    rw [List.map_cons, lcL, e1]
    dsimp only
    rw [e2]
    dsimp only
    rw [e3]
    dsimp only
    rw [lcL_all ts fun x hx => h x (List.mem_cons_of_mem _ hx)]
    rfl
theorem turned_lights_ok {n : Int} (h1 : 0 ≤ n) (h2 : n < 8) {ts : List Lt} (hl : ts.length ≤ 8) (m : Mu) : f_turned_lights [.tup (ts.map lD), .int n] m = .ok (.tup ((ts.map (tl n)).map lD)) m := by
  have l9 : ts.length ≤ 1000000 := by omega
  have key : ∀ a b c d : Int, (a = 0 ∨ a = 1 ∨ a = -1) → (b = 0 ∨ b = 1 ∨ b = -1) → (c = 0 ∨ c = 1 ∨ c = -1) → (d = 0 ∨ d = 1 ∨ d = -1) → (∀ x y, a * x + b * y = (W n x y).1 ∧ c * x + d * y = (W n x y).2) → ∀ (s0 s1 s6 s7 s8 : Option D),
      lcL (gT (gsCons (gN 6) (gsCons (gN 7) (gsCons (gN 8) gsNil)))) bYes (sTup (aCons (s2 dAdd (s2 dMul (sVar 2) (sVar 6)) (s2 dMul (sVar 3) (sVar 7))) (aCons (s2 dAdd (s2 dMul (sVar 4) (sVar 6)) (s2 dMul (sVar 5) (sVar 7))) (aCons (sVar 8) aNil)))) [s0, s1, some (.int a), some (.int b), some (.int c), some (.int d), s6, s7, s8] (ts.map lD) m = .ok (ts.map fun t => lD (tl n t)) m := by
    intro a b c d ha hb hc hd he s0 s1' s6 s7 s8
    refine lcL_all ts fun t _ => ⟨[s0, s1', some (.int a), some (.int b), some (.int c), some (.int d), some (.int t.1), some (.int t.2.1), some (.int t.2.2)], rfl, rfl, ?_⟩
    have xa : -18446744073709551616 < a ∧ a < 18446744073709551616 := by omega
    have xb : -18446744073709551616 < b ∧ b < 18446744073709551616 := by omega
    have xc : -18446744073709551616 < c ∧ c < 18446744073709551616 := by omega
    have xd : -18446744073709551616 < d ∧ d < 18446744073709551616 := by omega
    simp [Rx.sNil, Rx.sSeq, Rx.sSet, Rx.sRet, Rx.sRetN, Rx.sDo, Rx.sIf, Rx.sCont, Rx.sBrk, Rx.sAsg, Rx.sPar, Rx.sPar3, Rx.gN, Rx.gT, Rx.gsNil, Rx.gsCons, Rx.tupOf, Rx.sFor, Rx.iVal, Rx.valsOf, Rx.s1, Rx.s2, Rx.sVar, Rx.sC, Rx.aNil, Rx.aCons, Rx.sTup, Rx.sLst, Rx.sNew, Rx.sTst, Rx.bNot, Rx.bAnd, Rx.bOr, Rx.sNot, Rx.sAnd, Rx.sOr, Rx.sIte, Rx.dIx, Rx.seqOf, Rx.dGt, Rx.dLt, Rx.dGe, Rx.dLe, Rx.dSub, Rx.dAdd, Rx.dMul, Rx.dDiv, Rx.dMod, Rx.dPow, Rx.sPut, Rx.dPutI, Rx.hOf, Rx.sB, Rx.dLen, Rx.fin, Rx.sCall, Rx.Res.toS, Rx.Res.bind, Rx.sChain, Rx.iR1, Rx.iR2, L2.atI, L2.ixN, xa, xb, xc, xd, he, lD, tl]
  unfold f_turned_lights Rx.run b_turned_lights
  rcases cases8 h1 h2 with rfl | rfl | rfl | rfl | rfl | rfl | rfl | rfl <;> (
    simp [Rx.sNil, Rx.sSeq, Rx.sSet, Rx.sRet, Rx.sRetN, Rx.sDo, Rx.sIf, Rx.sCont, Rx.sBrk, Rx.sAsg, Rx.sPar, Rx.sPar3, Rx.gN, Rx.gT, Rx.gsNil, Rx.gsCons, Rx.tupOf, Rx.sFor, Rx.iVal, Rx.valsOf, Rx.s1, Rx.s2, Rx.sVar, Rx.sC, Rx.aNil, Rx.aCons, Rx.sTup, Rx.sLst, Rx.sNew, Rx.sTst, Rx.bNot, Rx.bAnd, Rx.bOr, Rx.sNot, Rx.sAnd, Rx.sOr, Rx.sIte, Rx.dIx, Rx.seqOf, Rx.dGt, Rx.dLt, Rx.dGe, Rx.dLe, Rx.dSub, Rx.dAdd, Rx.dMul, Rx.dDiv, Rx.dMod, Rx.dPow, Rx.sPut, Rx.dPutI, Rx.hOf, Rx.sB, Rx.dLen, Rx.fin, Rx.sCall, Rx.Res.toS, Rx.Res.bind, Rx.sChain, Rx.iR1, Rx.iR2, L2.atI, L2.ixN, k_TURNS, sLc, wipeD, l9]
    rw [key _ _ _ _ (by decide) (by decide) (by decide) (by decide) (by intro x y; simp [Rx.sNil, Rx.sSeq, Rx.sSet, Rx.sRet, Rx.sRetN, Rx.sDo, Rx.sIf, Rx.sCont, Rx.sBrk, Rx.sAsg, Rx.sPar, Rx.sPar3, Rx.gN, Rx.gT, Rx.gsNil, Rx.gsCons, Rx.tupOf, Rx.sFor, Rx.iVal, Rx.valsOf, Rx.s1, Rx.s2, Rx.sVar, Rx.sC, Rx.aNil, Rx.aCons, Rx.sTup, Rx.sLst, Rx.sNew, Rx.sTst, Rx.bNot, Rx.bAnd, Rx.bOr, Rx.sNot, Rx.sAnd, Rx.sOr, Rx.sIte, Rx.dIx, Rx.seqOf, Rx.dGt, Rx.dLt, Rx.dGe, Rx.dLe, Rx.dSub, Rx.dAdd, Rx.dMul, Rx.dDiv, Rx.dMod, Rx.dPow, Rx.sPut, Rx.dPutI, Rx.hOf, Rx.sB, Rx.dLen, Rx.fin, Rx.sCall, Rx.Res.toS, Rx.Res.bind, Rx.sChain, Rx.iR1, Rx.iR2, L2.atI, L2.ixN, W]; try omega)]
    simp [Rx.sNil, Rx.sSeq, Rx.sSet, Rx.sRet, Rx.sRetN, Rx.sDo, Rx.sIf, Rx.sCont, Rx.sBrk, Rx.sAsg, Rx.sPar, Rx.sPar3, Rx.gN, Rx.gT, Rx.gsNil, Rx.gsCons, Rx.tupOf, Rx.sFor, Rx.iVal, Rx.valsOf, Rx.s1, Rx.s2, Rx.sVar, Rx.sC, Rx.aNil, Rx.aCons, Rx.sTup, Rx.sLst, Rx.sNew, Rx.sTst, Rx.bNot, Rx.bAnd, Rx.bOr, Rx.sNot, Rx.sAnd, Rx.sOr, Rx.sIte, Rx.dIx, Rx.seqOf, Rx.dGt, Rx.dLt, Rx.dGe, Rx.dLe, Rx.dSub, Rx.dAdd, Rx.dMul, Rx.dDiv, Rx.dMod, Rx.dPow, Rx.sPut, Rx.dPutI, Rx.hOf, Rx.sB, Rx.dLen, Rx.fin, Rx.sCall, Rx.Res.toS, Rx.Res.bind, Rx.sChain, Rx.iR1, Rx.iR2, L2.atI, L2.ixN, dTuple, Function.comp])
end Tx
set_option Elab.async false
set_option linter.all false
set_option maxRecDepth 100000
namespace Tx
open PySem PySem.Spec PyProof.Rows L2 Rx
theorem check_turn_ok {n : Int} (h1 : 0 ≤ n) (h2 : n < 8) (m : Mu) : f_check_turn [.int n] m = .ok .non m := by
  have e1 : n ≤ 7 := by omega
  have e : f_check_count [.int n, .int 0, .int 7] m = .ok .non m := by
    unfold f_check_count Rx.run b_check_count
    simp [Rx.sNil, Rx.sSeq, Rx.sSet, Rx.sRet, Rx.sRetN, Rx.sDo, Rx.sIf, Rx.sCont, Rx.sBrk, Rx.sAsg, Rx.sPar, Rx.sPar3, Rx.gN, Rx.gT, Rx.gsNil, Rx.gsCons, Rx.tupOf, Rx.sFor, Rx.iVal, Rx.valsOf, Rx.s1, Rx.s2, Rx.sVar, Rx.sC, Rx.aNil, Rx.aCons, Rx.sTup, Rx.sLst, Rx.sNew, Rx.sTst, Rx.bNot, Rx.bAnd, Rx.bOr, Rx.sNot, Rx.sAnd, Rx.sOr, Rx.sIte, Rx.dIx, Rx.seqOf, Rx.dGt, Rx.dLt, Rx.dGe, Rx.dLe, Rx.dSub, Rx.dAdd, Rx.dMul, Rx.dDiv, Rx.dMod, Rx.dPow, Rx.sPut, Rx.dPutI, Rx.hOf, Rx.sB, Rx.dLen, Rx.fin, Rx.sCall, Rx.Res.toS, Rx.Res.bind, Rx.sChain, Rx.iR1, Rx.iR2, L2.atI, L2.ixN, number_ok, h1, e1]
  unfold f_check_turn Rx.run b_check_turn
  simp [Rx.sNil, Rx.sSeq, Rx.sSet, Rx.sRet, Rx.sRetN, Rx.sDo, Rx.sIf, Rx.sCont, Rx.sBrk, Rx.sAsg, Rx.sPar, Rx.sPar3, Rx.gN, Rx.gT, Rx.gsNil, Rx.gsCons, Rx.tupOf, Rx.sFor, Rx.iVal, Rx.valsOf, Rx.s1, Rx.s2, Rx.sVar, Rx.sC, Rx.aNil, Rx.aCons, Rx.sTup, Rx.sLst, Rx.sNew, Rx.sTst, Rx.bNot, Rx.bAnd, Rx.bOr, Rx.sNot, Rx.sAnd, Rx.sOr, Rx.sIte, Rx.dIx, Rx.seqOf, Rx.dGt, Rx.dLt, Rx.dGe, Rx.dLe, Rx.dSub, Rx.dAdd, Rx.dMul, Rx.dDiv, Rx.dMod, Rx.dPow, Rx.sPut, Rx.dPutI, Rx.hOf, Rx.sB, Rx.dLen, Rx.fin, Rx.sCall, Rx.Res.toS, Rx.Res.bind, Rx.sChain, Rx.iR1, Rx.iR2, L2.atI, L2.ixN, k_TURNS, e]
/-- the odd turns -/
def Odd (d : D) : Prop := (∃ i : Int, d = .int i ∧ ¬ (0 ≤ i ∧ i ≤ 7)) ∨ d = .non ∨ d = .bl true ∨ d = .str "1"
theorem check_turn_bad {d : D} (h : Odd d) (m : Mu) : f_check_turn [d] m = .exc ⟨"BadCount", []⟩ m := by
  have hn : f_is_number [d, .int 0, .int 7] m = .ok (.bl false) m := by
    rcases h with ⟨i, rfl, hi⟩ | rfl | rfl | rfl
    · rw [number_ok]
      have : (decide ((0 : Int) ≤ i) && decide (i ≤ 7)) = false := by
        rw [← Bool.not_eq_true]
        simp [Rx.sNil, Rx.sSeq, Rx.sSet, Rx.sRet, Rx.sRetN, Rx.sDo, Rx.sIf, Rx.sCont, Rx.sBrk, Rx.sAsg, Rx.sPar, Rx.sPar3, Rx.gN, Rx.gT, Rx.gsNil, Rx.gsCons, Rx.tupOf, Rx.sFor, Rx.iVal, Rx.valsOf, Rx.s1, Rx.s2, Rx.sVar, Rx.sC, Rx.aNil, Rx.aCons, Rx.sTup, Rx.sLst, Rx.sNew, Rx.sTst, Rx.bNot, Rx.bAnd, Rx.bOr, Rx.sNot, Rx.sAnd, Rx.sOr, Rx.sIte, Rx.dIx, Rx.seqOf, Rx.dGt, Rx.dLt, Rx.dGe, Rx.dLe, Rx.dSub, Rx.dAdd, Rx.dMul, Rx.dDiv, Rx.dMod, Rx.dPow, Rx.sPut, Rx.dPutI, Rx.hOf, Rx.sB, Rx.dLen, Rx.fin, Rx.sCall, Rx.Res.toS, Rx.Res.bind, Rx.sChain, Rx.iR1, Rx.iR2, L2.atI, L2.ixN]
        omega
      rw [this]
    · unfold f_is_number Rx.run b_is_number; simp [Rx.sNil, Rx.sSeq, Rx.sSet, Rx.sRet, Rx.sRetN, Rx.sDo, Rx.sIf, Rx.sCont, Rx.sBrk, Rx.sAsg, Rx.sPar, Rx.sPar3, Rx.gN, Rx.gT, Rx.gsNil, Rx.gsCons, Rx.tupOf, Rx.sFor, Rx.iVal, Rx.valsOf, Rx.s1, Rx.s2, Rx.sVar, Rx.sC, Rx.aNil, Rx.aCons, Rx.sTup, Rx.sLst, Rx.sNew, Rx.sTst, Rx.bNot, Rx.bAnd, Rx.bOr, Rx.sNot, Rx.sAnd, Rx.sOr, Rx.sIte, Rx.dIx, Rx.seqOf, Rx.dGt, Rx.dLt, Rx.dGe, Rx.dLe, Rx.dSub, Rx.dAdd, Rx.dMul, Rx.dDiv, Rx.dMod, Rx.dPow, Rx.sPut, Rx.dPutI, Rx.hOf, Rx.sB, Rx.dLen, Rx.fin, Rx.sCall, Rx.Res.toS, Rx.Res.bind, Rx.sChain, Rx.iR1, Rx.iR2, L2.atI, L2.ixN, dIsi, kdOf, isKd]
    · unfold f_is_number Rx.run b_is_number; simp [Rx.sNil, Rx.sSeq, Rx.sSet, Rx.sRet, Rx.sRetN, Rx.sDo, Rx.sIf, Rx.sCont, Rx.sBrk, Rx.sAsg, Rx.sPar, Rx.sPar3, Rx.gN, Rx.gT, Rx.gsNil, Rx.gsCons, Rx.tupOf, Rx.sFor, Rx.iVal, Rx.valsOf, Rx.s1, Rx.s2, Rx.sVar, Rx.sC, Rx.aNil, Rx.aCons, Rx.sTup, Rx.sLst, Rx.sNew, Rx.sTst, Rx.bNot, Rx.bAnd, Rx.bOr, Rx.sNot, Rx.sAnd, Rx.sOr, Rx.sIte, Rx.dIx, Rx.seqOf, Rx.dGt, Rx.dLt, Rx.dGe, Rx.dLe, Rx.dSub, Rx.dAdd, Rx.dMul, Rx.dDiv, Rx.dMod, Rx.dPow, Rx.sPut, Rx.dPutI, Rx.hOf, Rx.sB, Rx.dLen, Rx.fin, Rx.sCall, Rx.Res.toS, Rx.Res.bind, Rx.sChain, Rx.iR1, Rx.iR2, L2.atI, L2.ixN, dIsi, kdOf, isKd]
    · unfold f_is_number Rx.run b_is_number; simp [Rx.sNil, Rx.sSeq, Rx.sSet, Rx.sRet, Rx.sRetN, Rx.sDo, Rx.sIf, Rx.sCont, Rx.sBrk, Rx.sAsg, Rx.sPar, Rx.sPar3, Rx.gN, Rx.gT, Rx.gsNil, Rx.gsCons, Rx.tupOf, Rx.sFor, Rx.iVal, Rx.valsOf, Rx.s1, Rx.s2, Rx.sVar, Rx.sC, Rx.aNil, Rx.aCons, Rx.sTup, Rx.sLst, Rx.sNew, Rx.sTst, Rx.bNot, Rx.bAnd, Rx.bOr, Rx.sNot, Rx.sAnd, Rx.sOr, Rx.sIte, Rx.dIx, Rx.seqOf, Rx.dGt, Rx.dLt, Rx.dGe, Rx.dLe, Rx.dSub, Rx.dAdd, Rx.dMul, Rx.dDiv, Rx.dMod, Rx.dPow, Rx.sPut, Rx.dPutI, Rx.hOf, Rx.sB, Rx.dLen, Rx.fin, Rx.sCall, Rx.Res.toS, Rx.Res.bind, Rx.sChain, Rx.iR1, Rx.iR2, L2.atI, L2.ixN, dIsi, kdOf, isKd]
  have e : f_check_count [d, .int 0, .int 7] m = .exc ⟨"BadCount", []⟩ m := by
    have c1 : (Str.empty ++ Str.ofString "a number from ").length ≤ 1000000 := by decide +kernel
    have c2 : (Str.empty ++ Str.ofString "a number from " ++ Str.ofString (Int.repr 0)).length ≤ 1000000 := by decide +kernel
    have c3 : (Str.empty ++ Str.ofString "a number from " ++ Str.ofString (Int.repr 0) ++ Str.ofString " to ").length ≤ 1000000 := by decide +kernel
    have c4 : Nat.log2 7 < 1920 ∧ (Str.empty ++ Str.ofString "a number from " ++ Str.ofString (Int.repr 0) ++ Str.ofString " to " ++ Str.ofString (Int.repr 7)).length ≤ 1000000 := by decide +kernel
    have c5 : (Str.empty ++ Str.ofString "a number from " ++ Str.ofString (Int.repr 0) ++ Str.ofString " to " ++ Str.ofString (Int.repr 7) ++ Str.ofString " is asked here").length ≤ 1000000 := by decide +kernel
    unfold f_check_count Rx.run b_check_count
    simp [Rx.sNil, Rx.sSeq, Rx.sSet, Rx.sRet, Rx.sRetN, Rx.sDo, Rx.sIf, Rx.sCont, Rx.sBrk, Rx.sAsg, Rx.sPar, Rx.sPar3, Rx.gN, Rx.gT, Rx.gsNil, Rx.gsCons, Rx.tupOf, Rx.sFor, Rx.iVal, Rx.valsOf, Rx.s1, Rx.s2, Rx.sVar, Rx.sC, Rx.aNil, Rx.aCons, Rx.sTup, Rx.sLst, Rx.sNew, Rx.sTst, Rx.bNot, Rx.bAnd, Rx.bOr, Rx.sNot, Rx.sAnd, Rx.sOr, Rx.sIte, Rx.dIx, Rx.seqOf, Rx.dGt, Rx.dLt, Rx.dGe, Rx.dLe, Rx.dSub, Rx.dAdd, Rx.dMul, Rx.dDiv, Rx.dMod, Rx.dPow, Rx.sPut, Rx.dPutI, Rx.hOf, Rx.sB, Rx.dLen, Rx.fin, Rx.sCall, Rx.Res.toS, Rx.Res.bind, Rx.sChain, Rx.iR1, Rx.iR2, L2.atI, L2.ixN, hn, sRaise0, sJs, sJ, c1, c2, c3, c4, c5]
  unfold f_check_turn Rx.run b_check_turn
  simp [Rx.sNil, Rx.sSeq, Rx.sSet, Rx.sRet, Rx.sRetN, Rx.sDo, Rx.sIf, Rx.sCont, Rx.sBrk, Rx.sAsg, Rx.sPar, Rx.sPar3, Rx.gN, Rx.gT, Rx.gsNil, Rx.gsCons, Rx.tupOf, Rx.sFor, Rx.iVal, Rx.valsOf, Rx.s1, Rx.s2, Rx.sVar, Rx.sC, Rx.aNil, Rx.aCons, Rx.sTup, Rx.sLst, Rx.sNew, Rx.sTst, Rx.bNot, Rx.bAnd, Rx.bOr, Rx.sNot, Rx.sAnd, Rx.sOr, Rx.sIte, Rx.dIx, Rx.seqOf, Rx.dGt, Rx.dLt, Rx.dGe, Rx.dLe, Rx.dSub, Rx.dAdd, Rx.dMul, Rx.dDiv, Rx.dMod, Rx.dPow, Rx.sPut, Rx.dPutI, Rx.hOf, Rx.sB, Rx.dLen, Rx.fin, Rx.sCall, Rx.Res.toS, Rx.Res.bind, Rx.sChain, Rx.iR1, Rx.iR2, L2.atI, L2.ixN, k_TURNS, e]
theorem turned_ok {n : Int} (h1 : 0 ≤ n) (h2 : n < 8) {ts : List Lt} (hg : Good ts) (hl : ts.length ≤ 8) {m : Mu} (hu : m.all (MO.undr m.length) = true) : f_turned [.tup (ts.map lD), .int n] m = .ok (.tup ((ts.map (tl n)).map lD)) m := by
  unfold f_turned Rx.run b_turned
  simp [Rx.sNil, Rx.sSeq, Rx.sSet, Rx.sRet, Rx.sRetN, Rx.sDo, Rx.sIf, Rx.sCont, Rx.sBrk, Rx.sAsg, Rx.sPar, Rx.sPar3, Rx.gN, Rx.gT, Rx.gsNil, Rx.gsCons, Rx.tupOf, Rx.sFor, Rx.iVal, Rx.valsOf, Rx.s1, Rx.s2, Rx.sVar, Rx.sC, Rx.aNil, Rx.aCons, Rx.sTup, Rx.sLst, Rx.sNew, Rx.sTst, Rx.bNot, Rx.bAnd, Rx.bOr, Rx.sNot, Rx.sAnd, Rx.sOr, Rx.sIte, Rx.dIx, Rx.seqOf, Rx.dGt, Rx.dLt, Rx.dGe, Rx.dLe, Rx.dSub, Rx.dAdd, Rx.dMul, Rx.dDiv, Rx.dMod, Rx.dPow, Rx.sPut, Rx.dPutI, Rx.hOf, Rx.sB, Rx.dLen, Rx.fin, Rx.sCall, Rx.Res.toS, Rx.Res.bind, Rx.sChain, Rx.iR1, Rx.iR2, L2.atI, L2.ixN, check_ok hg hl hu, check_turn_ok h1 h2, turned_lights_ok h1 h2 hl, -List.map_map]
theorem turned_bad {d : D} (h : Odd d) {ts : List Lt} (hg : Good ts) (hl : ts.length ≤ 8) {m : Mu} (hu : m.all (MO.undr m.length) = true) : f_turned [.tup (ts.map lD), d] m = .exc ⟨"BadCount", []⟩ m := by
  unfold f_turned Rx.run b_turned
  simp [Rx.sNil, Rx.sSeq, Rx.sSet, Rx.sRet, Rx.sRetN, Rx.sDo, Rx.sIf, Rx.sCont, Rx.sBrk, Rx.sAsg, Rx.sPar, Rx.sPar3, Rx.gN, Rx.gT, Rx.gsNil, Rx.gsCons, Rx.tupOf, Rx.sFor, Rx.iVal, Rx.valsOf, Rx.s1, Rx.s2, Rx.sVar, Rx.sC, Rx.aNil, Rx.aCons, Rx.sTup, Rx.sLst, Rx.sNew, Rx.sTst, Rx.bNot, Rx.bAnd, Rx.bOr, Rx.sNot, Rx.sAnd, Rx.sOr, Rx.sIte, Rx.dIx, Rx.seqOf, Rx.dGt, Rx.dLt, Rx.dGe, Rx.dLe, Rx.dSub, Rx.dAdd, Rx.dMul, Rx.dDiv, Rx.dMod, Rx.dPow, Rx.sPut, Rx.dPutI, Rx.hOf, Rx.sB, Rx.dLen, Rx.fin, Rx.sCall, Rx.Res.toS, Rx.Res.bind, Rx.sChain, Rx.iR1, Rx.iR2, L2.atI, L2.ixN, check_ok hg hl hu, check_turn_bad h]
/-! ### alike -/
theorem okD_bl (b : Bool) : okD (.bl b) = true := by unfold okD pyD SeqAt.shaped; simp [Rx.sNil, Rx.sSeq, Rx.sSet, Rx.sRet, Rx.sRetN, Rx.sDo, Rx.sIf, Rx.sCont, Rx.sBrk, Rx.sAsg, Rx.sPar, Rx.sPar3, Rx.gN, Rx.gT, Rx.gsNil, Rx.gsCons, Rx.tupOf, Rx.sFor, Rx.iVal, Rx.valsOf, Rx.s1, Rx.s2, Rx.sVar, Rx.sC, Rx.aNil, Rx.aCons, Rx.sTup, Rx.sLst, Rx.sNew, Rx.sTst, Rx.bNot, Rx.bAnd, Rx.bOr, Rx.sNot, Rx.sAnd, Rx.sOr, Rx.sIte, Rx.dIx, Rx.seqOf, Rx.dGt, Rx.dLt, Rx.dGe, Rx.dLe, Rx.dSub, Rx.dAdd, Rx.dMul, Rx.dDiv, Rx.dMod, Rx.dPow, Rx.sPut, Rx.dPutI, Rx.hOf, Rx.sB, Rx.dLen, Rx.fin, Rx.sCall, Rx.Res.toS, Rx.Res.bind, Rx.sChain, Rx.iR1, Rx.iR2, L2.atI, L2.ixN, D.undr, PyData.canLay0, PyData.depth]
theorem okD_nil : okD (.lst []) = true := by unfold okD; simp [Rx.sNil, Rx.sSeq, Rx.sSet, Rx.sRet, Rx.sRetN, Rx.sDo, Rx.sIf, Rx.sCont, Rx.sBrk, Rx.sAsg, Rx.sPar, Rx.sPar3, Rx.gN, Rx.gT, Rx.gsNil, Rx.gsCons, Rx.tupOf, Rx.sFor, Rx.iVal, Rx.valsOf, Rx.s1, Rx.s2, Rx.sVar, Rx.sC, Rx.aNil, Rx.aCons, Rx.sTup, Rx.sLst, Rx.sNew, Rx.sTst, Rx.bNot, Rx.bAnd, Rx.bOr, Rx.sNot, Rx.sAnd, Rx.sOr, Rx.sIte, Rx.dIx, Rx.seqOf, Rx.dGt, Rx.dLt, Rx.dGe, Rx.dLe, Rx.dSub, Rx.dAdd, Rx.dMul, Rx.dDiv, Rx.dMod, Rx.dPow, Rx.sPut, Rx.dPutI, Rx.hOf, Rx.sB, Rx.dLen, Rx.fin, Rx.sCall, Rx.Res.toS, Rx.Res.bind, Rx.sChain, Rx.iR1, Rx.iR2, L2.atI, L2.ixN, D.undr, D.undr.all, pyD, pyD.pyL, SeqAt.shaped, PyData.canLay0, PyData.canLayAll0, PyData.depth, PyData.depthAll]
theorem alike_int (n : Nat) (i : Int) (m : Mu) : g__law_alike (n + 1) [.int i, .int i] m = .ok (.bl true) m := by
  unfold g__law_alike Rx.run b__law_alike
  simp [Rx.sNil, Rx.sSeq, Rx.sSet, Rx.sRet, Rx.sRetN, Rx.sDo, Rx.sIf, Rx.sCont, Rx.sBrk, Rx.sAsg, Rx.sPar, Rx.sPar3, Rx.gN, Rx.gT, Rx.gsNil, Rx.gsCons, Rx.tupOf, Rx.sFor, Rx.iVal, Rx.valsOf, Rx.s1, Rx.s2, Rx.sVar, Rx.sC, Rx.aNil, Rx.aCons, Rx.sTup, Rx.sLst, Rx.sNew, Rx.sTst, Rx.bNot, Rx.bAnd, Rx.bOr, Rx.sNot, Rx.sAnd, Rx.sOr, Rx.sIte, Rx.dIx, Rx.seqOf, Rx.dGt, Rx.dLt, Rx.dGe, Rx.dLe, Rx.dSub, Rx.dAdd, Rx.dMul, Rx.dDiv, Rx.dMod, Rx.dPow, Rx.sPut, Rx.dPutI, Rx.hOf, Rx.sB, Rx.dLen, Rx.fin, Rx.sCall, Rx.Res.toS, Rx.Res.bind, Rx.sChain, Rx.iR1, Rx.iR2, L2.atI, L2.ixN, dIsi, kdOf, isKd, dIsN, isNon, dEq, deref, okD_bl, okD_int, dEqv, pyD, PyData.eqv]
theorem lcL_none {g : STg} {tt : SBl} {el : SEx} {s : Sd} {m : Mu} : ∀ (ds : List D), (∀ d ∈ ds, ∃ s1, g d s = some s1 ∧ tt s1 m = .ok false m) → lcL g tt el s ds m = .ok [] m
  | [], _ => rfl
  | d :: ds, h => by
    obtain ⟨s1, e1, e2⟩ := h d List.mem_cons_self
    rw [lcL, e1]
    dsimp only
    rw [e2]
    exact lcL_none ds fun x hx => h x (List.mem_cons_of_mem _ hx)
theorem hn_ {j : Int} (h1 : 0 ≤ j) (h2 : j ≤ 1000) : -4611686018427387904 ≤ j ∧ j < 4611686018427387904 := by omega
theorem p62 : ((2 : Int) ^ 62) = 4611686018427387904 := by decide
theorem iR1_ok {f : SAr} {s : Sd} {m m' : Mu} {j : Int} (h : f s m = .ok [.int j] m') (h1 : 0 ≤ j) (h2 : j ≤ 1000) : iR1 f s m = .ok (rangeD 0 j.toNat) m' := by
  have hn := hn_ h1 h2
  unfold iR1
  rw [h]
  simp only [Res.bind]
  split
  · rfl
  · rename_i c
    rw [p62] at c
    exact absurd hn c
theorem sSeq_nx {a b : SSt} {s s' : Sd} {m m' : Mu} (h : a s m = .nx s' m') : sSeq a b s m = b s' m' := by unfold sSeq; rw [h]
theorem sSeq_ret {a b : SSt} {s : Sd} {d : D} {m m' : Mu} (h : a s m = .ret d m') : sSeq a b s m = .ret d m' := by unfold sSeq; rw [h]
theorem sIf_t {c : SBl} {a b : SSt} {s : Sd} {m m' : Mu} (h : c s m = .ok true m') : sIf c a b s m = a s m' := by unfold sIf; rw [h]; rfl
theorem sIf_f {c : SBl} {a b : SSt} {s : Sd} {m m' : Mu} (h : c s m = .ok false m') : sIf c a b s m = b s m' := by unfold sIf; rw [h]; rfl
theorem sRet_of {f : SEx} {s : Sd} {d : D} {m m' : Mu} (h : f s m = .ok d m') : sRet f s m = .ret d m' := by unfold sRet; rw [h]; rfl
theorem alike_tup (n : Nat) (ds : List D) (m : Mu) (hl : ds.length ≤ 1000) (h : ∀ d ∈ ds, g__law_alike n [d, d] m = .ok (.bl true) m) : g__law_alike (n + 1) [.tup ds, .tup ds] m = .ok (.bl true) m := by
  have h0 : lcL (gN 3) (bNot (sTst (sCall 2 (g__law_alike n) (aCons (s2 dIx (sVar 0) (sVar 3)) (aCons (s2 dIx (sVar 1) (sVar 3)) aNil))))) (sVar 3) [some (.tup ds), some (.tup ds), none, none] (rangeD 0 ds.length) m = .ok [] m := by
    refine lcL_none _ fun d hd => ?_
    unfold rangeD at hd
    obtain ⟨i, hi, rfl⟩ := List.mem_map.mp hd
    have hi := List.mem_range.mp hi
    have e := h ds[i] (List.getElem_mem hi)
    refine ⟨_, rfl, ?_⟩
    simp [Rx.sNil, Rx.sSeq, Rx.sSet, Rx.sRet, Rx.sRetN, Rx.sDo, Rx.sIf, Rx.sCont, Rx.sBrk, Rx.sAsg, Rx.sPar, Rx.sPar3, Rx.gN, Rx.gT, Rx.gsNil, Rx.gsCons, Rx.tupOf, Rx.sFor, Rx.iVal, Rx.valsOf, Rx.s1, Rx.s2, Rx.sVar, Rx.sC, Rx.aNil, Rx.aCons, Rx.sTup, Rx.sLst, Rx.sNew, Rx.sTst, Rx.bNot, Rx.bAnd, Rx.bOr, Rx.sNot, Rx.sAnd, Rx.sOr, Rx.sIte, Rx.dIx, Rx.seqOf, Rx.dGt, Rx.dLt, Rx.dGe, Rx.dLe, Rx.dSub, Rx.dAdd, Rx.dMul, Rx.dDiv, Rx.dMod, Rx.dPow, Rx.sPut, Rx.dPutI, Rx.hOf, Rx.sB, Rx.dLen, Rx.fin, Rx.sCall, Rx.Res.toS, Rx.Res.bind, Rx.sChain, Rx.iR1, Rx.iR2, L2.atI, L2.ixN, hi, e]
  have l1 : (rangeD 0 ds.length).length ≤ 1000000 := by simp [Rx.sNil, Rx.sSeq, Rx.sSet, Rx.sRet, Rx.sRetN, Rx.sDo, Rx.sIf, Rx.sCont, Rx.sBrk, Rx.sAsg, Rx.sPar, Rx.sPar3, Rx.gN, Rx.gT, Rx.gsNil, Rx.gsCons, Rx.tupOf, Rx.sFor, Rx.iVal, Rx.valsOf, Rx.s1, Rx.s2, Rx.sVar, Rx.sC, Rx.aNil, Rx.aCons, Rx.sTup, Rx.sLst, Rx.sNew, Rx.sTst, Rx.bNot, Rx.bAnd, Rx.bOr, Rx.sNot, Rx.sAnd, Rx.sOr, Rx.sIte, Rx.dIx, Rx.seqOf, Rx.dGt, Rx.dLt, Rx.dGe, Rx.dLe, Rx.dSub, Rx.dAdd, Rx.dMul, Rx.dDiv, Rx.dMod, Rx.dPow, Rx.sPut, Rx.dPutI, Rx.hOf, Rx.sB, Rx.dLen, Rx.fin, Rx.sCall, Rx.Res.toS, Rx.Res.bind, Rx.sChain, Rx.iR1, Rx.iR2, L2.atI, L2.ixN, rangeD]; omega
  have hr : iR1 (aCons (sB dLen (aCons (sVar 1) aNil)) aNil) [some (.tup ds), some (.tup ds), none, none] m = .ok (rangeD 0 ds.length) m :=
    iR1_ok (j := (ds.length : Nat)) (by simp [Rx.sNil, Rx.sSeq, Rx.sSet, Rx.sRet, Rx.sRetN, Rx.sDo, Rx.sIf, Rx.sCont, Rx.sBrk, Rx.sAsg, Rx.sPar, Rx.sPar3, Rx.gN, Rx.gT, Rx.gsNil, Rx.gsCons, Rx.tupOf, Rx.sFor, Rx.iVal, Rx.valsOf, Rx.s1, Rx.s2, Rx.sVar, Rx.sC, Rx.aNil, Rx.aCons, Rx.sTup, Rx.sLst, Rx.sNew, Rx.sTst, Rx.bNot, Rx.bAnd, Rx.bOr, Rx.sNot, Rx.sAnd, Rx.sOr, Rx.sIte, Rx.dIx, Rx.seqOf, Rx.dGt, Rx.dLt, Rx.dGe, Rx.dLe, Rx.dSub, Rx.dAdd, Rx.dMul, Rx.dDiv, Rx.dMod, Rx.dPow, Rx.sPut, Rx.dPutI, Rx.hOf, Rx.sB, Rx.dLen, Rx.fin, Rx.sCall, Rx.Res.toS, Rx.Res.bind, Rx.sChain, Rx.iR1, Rx.iR2, L2.atI, L2.ixN]) (by omega) (by omega)
  generalize rangeD 0 ds.length = L at h0 l1 hr
  clear hl h
  generalize hS : ([some (.tup ds), some (.tup ds), none, none] : Sd) = S at *
  have v0 : sVar 0 S m = .ok (.tup ds) m := by subst hS; rfl
  have v1 : sVar 1 S m = .ok (.tup ds) m := by subst hS; rfl
  have c1 : sTst (s1 (dIsi [Ty.tuple, Ty.list]) (sVar 1)) S m = .ok true m := by simp only [sTst, s1, v1, Res.bind]; rfl
  have c1' : sTst (s1 (dIsi [Ty.tuple, Ty.list]) (sVar 0)) S m = .ok true m := by simp only [sTst, s1, v0, Res.bind]; rfl
  have c2 : sTst (s2 dNe (s1 (dIsi [Ty.tuple]) (sVar 0)) (s1 (dIsi [Ty.tuple]) (sVar 1))) S m = .ok false m := by
    subst hS
    simp [Rx.sNil, Rx.sSeq, Rx.sSet, Rx.sRet, Rx.sRetN, Rx.sDo, Rx.sIf, Rx.sCont, Rx.sBrk, Rx.sAsg, Rx.sPar, Rx.sPar3, Rx.gN, Rx.gT, Rx.gsNil, Rx.gsCons, Rx.tupOf, Rx.sFor, Rx.iVal, Rx.valsOf, Rx.s1, Rx.s2, Rx.sVar, Rx.sC, Rx.aNil, Rx.aCons, Rx.sTup, Rx.sLst, Rx.sNew, Rx.sTst, Rx.bNot, Rx.bAnd, Rx.bOr, Rx.sNot, Rx.sAnd, Rx.sOr, Rx.sIte, Rx.dIx, Rx.seqOf, Rx.dGt, Rx.dLt, Rx.dGe, Rx.dLe, Rx.dSub, Rx.dAdd, Rx.dMul, Rx.dDiv, Rx.dMod, Rx.dPow, Rx.sPut, Rx.dPutI, Rx.hOf, Rx.sB, Rx.dLen, Rx.fin, Rx.sCall, Rx.Res.toS, Rx.Res.bind, Rx.sChain, Rx.iR1, Rx.iR2, L2.atI, L2.ixN, dIsi, kdOf, isKd, dNe, deref, okD_bl, dEqv, pyD, PyData.eqv]
  have c3 : sTst (s2 dNe (sB dLen (aCons (sVar 0) aNil)) (sB dLen (aCons (sVar 1) aNil))) S m = .ok false m := by
    subst hS
    simp [Rx.sNil, Rx.sSeq, Rx.sSet, Rx.sRet, Rx.sRetN, Rx.sDo, Rx.sIf, Rx.sCont, Rx.sBrk, Rx.sAsg, Rx.sPar, Rx.sPar3, Rx.gN, Rx.gT, Rx.gsNil, Rx.gsCons, Rx.tupOf, Rx.sFor, Rx.iVal, Rx.valsOf, Rx.s1, Rx.s2, Rx.sVar, Rx.sC, Rx.aNil, Rx.aCons, Rx.sTup, Rx.sLst, Rx.sNew, Rx.sTst, Rx.bNot, Rx.bAnd, Rx.bOr, Rx.sNot, Rx.sAnd, Rx.sOr, Rx.sIte, Rx.dIx, Rx.seqOf, Rx.dGt, Rx.dLt, Rx.dGe, Rx.dLe, Rx.dSub, Rx.dAdd, Rx.dMul, Rx.dDiv, Rx.dMod, Rx.dPow, Rx.sPut, Rx.dPutI, Rx.hOf, Rx.sB, Rx.dLen, Rx.fin, Rx.sCall, Rx.Res.toS, Rx.Res.bind, Rx.sChain, Rx.iR1, Rx.iR2, L2.atI, L2.ixN, dNe, deref, okD_int, dEqv, pyD, PyData.eqv]
  have c4 : (sLc (iR1 (aCons (sB dLen (aCons (sVar 1) aNil)) aNil)) (gN 3) (bNot (sTst (sCall 2 (g__law_alike n) (aCons (s2 dIx (sVar 0) (sVar 3)) (aCons (s2 dIx (sVar 1) (sVar 3)) aNil))))) (sVar 3) [3]) S m = .ok (.lst []) m := by
    unfold sLc
    rw [hr]
    simp only [Res.bind]
    rw [if_pos l1]
    have : wipeD S [3] = S := by subst hS; rfl
    rw [this, h0]
  have c5 : dEq (.lst []) (.lst []) m = .ok (.bl true) m := by simp [Rx.sNil, Rx.sSeq, Rx.sSet, Rx.sRet, Rx.sRetN, Rx.sDo, Rx.sIf, Rx.sCont, Rx.sBrk, Rx.sAsg, Rx.sPar, Rx.sPar3, Rx.gN, Rx.gT, Rx.gsNil, Rx.gsCons, Rx.tupOf, Rx.sFor, Rx.iVal, Rx.valsOf, Rx.s1, Rx.s2, Rx.sVar, Rx.sC, Rx.aNil, Rx.aCons, Rx.sTup, Rx.sLst, Rx.sNew, Rx.sTst, Rx.bNot, Rx.bAnd, Rx.bOr, Rx.sNot, Rx.sAnd, Rx.sOr, Rx.sIte, Rx.dIx, Rx.seqOf, Rx.dGt, Rx.dLt, Rx.dGe, Rx.dLe, Rx.dSub, Rx.dAdd, Rx.dMul, Rx.dDiv, Rx.dMod, Rx.dPow, Rx.sPut, Rx.dPutI, Rx.hOf, Rx.sB, Rx.dLen, Rx.fin, Rx.sCall, Rx.Res.toS, Rx.Res.bind, Rx.sChain, Rx.iR1, Rx.iR2, L2.atI, L2.ixN, dEq, deref, okD_nil, dEqv, pyD, pyD.pyL, PyData.eqv, PyData.eqvAll]
  have c7 : s2 dEq (sLc (iR1 (aCons (sB dLen (aCons (sVar 1) aNil)) aNil)) (gN 3) (bNot (sTst (sCall 2 (g__law_alike n) (aCons (s2 dIx (sVar 0) (sVar 3)) (aCons (s2 dIx (sVar 1) (sVar 3)) aNil))))) (sVar 3) [3]) (sLst aNil) S m = .ok (.bl true) m := by
    unfold s2 at c4 ⊢
    rw [c4]
    exact c5
  have c6 : bOr (sTst (s2 dNe (s1 (dIsi [Ty.tuple]) (sVar 0)) (s1 (dIsi [Ty.tuple]) (sVar 1)))) (bNot (sTst (s1 (dIsi [Ty.tuple, Ty.list]) (sVar 0)))) S m = .ok false m := by
    unfold bOr
    rw [c2]
    unfold bNot
    simp only [Res.bind]
    rw [c1']
    rfl
  have key : b__law_alike (g__law_alike n) S m = .ret (.bl true) m := by
    unfold b__law_alike
    exact sSeq_ret ((sIf_t c1).trans ((sSeq_nx ((sIf_f c6).trans rfl)).trans ((sSeq_nx ((sIf_f c3).trans rfl)).trans (sRet_of c7))))
  subst hS
  unfold g__law_alike Rx.run
  simp only [List.map_cons, List.map_nil, List.length_cons, List.length_nil, List.cons_append, List.nil_append]
  rw [show List.replicate (4 - (0 + 1 + 1)) (none : Option D) = [none, none] from rfl, key]
  rfl
theorem alike_ok (ts : List Lt) (hl : ts.length ≤ 8) (m : Mu) : f__law_alike [.tup (ts.map lD), .tup (ts.map lD)] m = .ok (.bl true) m := by
  unfold f__law_alike
  refine alike_tup 7 _ m (by simp [Rx.sNil, Rx.sSeq, Rx.sSet, Rx.sRet, Rx.sRetN, Rx.sDo, Rx.sIf, Rx.sCont, Rx.sBrk, Rx.sAsg, Rx.sPar, Rx.sPar3, Rx.gN, Rx.gT, Rx.gsNil, Rx.gsCons, Rx.tupOf, Rx.sFor, Rx.iVal, Rx.valsOf, Rx.s1, Rx.s2, Rx.sVar, Rx.sC, Rx.aNil, Rx.aCons, Rx.sTup, Rx.sLst, Rx.sNew, Rx.sTst, Rx.bNot, Rx.bAnd, Rx.bOr, Rx.sNot, Rx.sAnd, Rx.sOr, Rx.sIte, Rx.dIx, Rx.seqOf, Rx.dGt, Rx.dLt, Rx.dGe, Rx.dLe, Rx.dSub, Rx.dAdd, Rx.dMul, Rx.dDiv, Rx.dMod, Rx.dPow, Rx.sPut, Rx.dPutI, Rx.hOf, Rx.sB, Rx.dLen, Rx.fin, Rx.sCall, Rx.Res.toS, Rx.Res.bind, Rx.sChain, Rx.iR1, Rx.iR2, L2.atI, L2.ixN]; omega) fun d hd => ?_
  obtain ⟨t, _, rfl⟩ := List.mem_map.mp hd
  refine alike_tup 6 _ m (by simp [Rx.sNil, Rx.sSeq, Rx.sSet, Rx.sRet, Rx.sRetN, Rx.sDo, Rx.sIf, Rx.sCont, Rx.sBrk, Rx.sAsg, Rx.sPar, Rx.sPar3, Rx.gN, Rx.gT, Rx.gsNil, Rx.gsCons, Rx.tupOf, Rx.sFor, Rx.iVal, Rx.valsOf, Rx.s1, Rx.s2, Rx.sVar, Rx.sC, Rx.aNil, Rx.aCons, Rx.sTup, Rx.sLst, Rx.sNew, Rx.sTst, Rx.bNot, Rx.bAnd, Rx.bOr, Rx.sNot, Rx.sAnd, Rx.sOr, Rx.sIte, Rx.dIx, Rx.seqOf, Rx.dGt, Rx.dLt, Rx.dGe, Rx.dLe, Rx.dSub, Rx.dAdd, Rx.dMul, Rx.dDiv, Rx.dMod, Rx.dPow, Rx.sPut, Rx.dPutI, Rx.hOf, Rx.sB, Rx.dLen, Rx.fin, Rx.sCall, Rx.Res.toS, Rx.Res.bind, Rx.sChain, Rx.iR1, Rx.iR2, L2.atI, L2.ixN]) fun d hd => ?_
  simp [Rx.sNil, Rx.sSeq, Rx.sSet, Rx.sRet, Rx.sRetN, Rx.sDo, Rx.sIf, Rx.sCont, Rx.sBrk, Rx.sAsg, Rx.sPar, Rx.sPar3, Rx.gN, Rx.gT, Rx.gsNil, Rx.gsCons, Rx.tupOf, Rx.sFor, Rx.iVal, Rx.valsOf, Rx.s1, Rx.s2, Rx.sVar, Rx.sC, Rx.aNil, Rx.aCons, Rx.sTup, Rx.sLst, Rx.sNew, Rx.sTst, Rx.bNot, Rx.bAnd, Rx.bOr, Rx.sNot, Rx.sAnd, Rx.sOr, Rx.sIte, Rx.dIx, Rx.seqOf, Rx.dGt, Rx.dLt, Rx.dGe, Rx.dLe, Rx.dSub, Rx.dAdd, Rx.dMul, Rx.dDiv, Rx.dMod, Rx.dPow, Rx.sPut, Rx.dPutI, Rx.hOf, Rx.sB, Rx.dLen, Rx.fin, Rx.sCall, Rx.Res.toS, Rx.Res.bind, Rx.sChain, Rx.iR1, Rx.iR2, L2.atI, L2.ixN] at hd
  rcases hd with rfl | rfl | rfl <;> exact alike_int 5 _ m
/-! ### the word -/
theorem word_count {m : Mu} {r : Mu → Res D} (h : r (m ++ [.dead, .lst []]) = .exc ⟨"BadCount", []⟩ (m ++ [.dead, .lst []])) (hu : m.all (MO.undr m.length) = true) : word 6 b__law_word r m = .ok (.tup [.str "count", .non]) m := by
  have d1 : ¬ (Str.ofString "BadCount" = Str.ofString "BadLights") := by decide +kernel
  have d2 : ¬ (Str.ofString "BadCount" = Str.ofString "BadRule") := by decide +kernel
  have d3 : ¬ (Str.ofString "BadCount" = Str.ofString "BadSlip") := by decide +kernel
  have d4 : ¬ (Str.ofString "BadCount" = Str.ofString "NoLight") := by decide +kernel
  have d5 : ¬ (Str.ofString "BadCount" = Str.ofString "BadDeed") := by decide +kernel
  have d6 : ¬ (Str.ofString "BadCount" = Str.ofString "Halted") := by decide +kernel
  have d7 : ¬ (Str.ofString "BadCount" = Str.ofString "BadText") := by decide +kernel
  have o1 : okD (.lst [.bl false, .bl false, .bl false, .bl true, .bl false, .bl false, .bl false, .bl false]) = true := by decide +kernel
  have hc : ∀ m : Mu, dCount (.lst [.bl false, .bl false, .bl false, .bl true, .bl false, .bl false, .bl false, .bl false]) (.bl true) m = .ok (.int 1) m := fun m => by
    simp [Rx.sNil, Rx.sSeq, Rx.sSet, Rx.sRet, Rx.sRetN, Rx.sDo, Rx.sIf, Rx.sCont, Rx.sBrk, Rx.sAsg, Rx.sPar, Rx.sPar3, Rx.gN, Rx.gT, Rx.gsNil, Rx.gsCons, Rx.tupOf, Rx.sFor, Rx.iVal, Rx.valsOf, Rx.s1, Rx.s2, Rx.sVar, Rx.sC, Rx.aNil, Rx.aCons, Rx.sTup, Rx.sLst, Rx.sNew, Rx.sTst, Rx.bNot, Rx.bAnd, Rx.bOr, Rx.sNot, Rx.sAnd, Rx.sOr, Rx.sIte, Rx.dIx, Rx.seqOf, Rx.dGt, Rx.dLt, Rx.dGe, Rx.dLe, Rx.dSub, Rx.dAdd, Rx.dMul, Rx.dDiv, Rx.dMod, Rx.dPow, Rx.sPut, Rx.dPutI, Rx.hOf, Rx.sB, Rx.dLen, Rx.fin, Rx.sCall, Rx.Res.toS, Rx.Res.bind, Rx.sChain, Rx.iR1, Rx.iR2, L2.atI, L2.ixN, dCount, o1, okD_bl, dEqv, pyD, PyData.eqv]
  have hi : ∀ m : Mu, dIndex (.lst [.bl false, .bl false, .bl false, .bl true, .bl false, .bl false, .bl false, .bl false]) (.bl true) m = .ok (.int 3) m := fun m => by
    simp [Rx.sNil, Rx.sSeq, Rx.sSet, Rx.sRet, Rx.sRetN, Rx.sDo, Rx.sIf, Rx.sCont, Rx.sBrk, Rx.sAsg, Rx.sPar, Rx.sPar3, Rx.gN, Rx.gT, Rx.gsNil, Rx.gsCons, Rx.tupOf, Rx.sFor, Rx.iVal, Rx.valsOf, Rx.s1, Rx.s2, Rx.sVar, Rx.sC, Rx.aNil, Rx.aCons, Rx.sTup, Rx.sLst, Rx.sNew, Rx.sTst, Rx.bNot, Rx.bAnd, Rx.bOr, Rx.sNot, Rx.sAnd, Rx.sOr, Rx.sIte, Rx.dIx, Rx.seqOf, Rx.dGt, Rx.dLt, Rx.dGe, Rx.dLe, Rx.dSub, Rx.dAdd, Rx.dMul, Rx.dDiv, Rx.dMod, Rx.dPow, Rx.sPut, Rx.dPutI, Rx.hOf, Rx.sB, Rx.dLen, Rx.fin, Rx.sCall, Rx.Res.toS, Rx.Res.bind, Rx.sChain, Rx.iR1, Rx.iR2, L2.atI, L2.ixN, dIndex, o1, okD_bl, dEqv, pyD, PyData.eqv, List.findIdx?_cons]
  have s0 : okD (.str "count") = true := by decide +kernel
  have s1' : okD (.str "halted") = true := by decide +kernel
  have s2' : okD (.str "text") = true := by decide +kernel
  have s3 : okD (.lst [.str "lights", .str "deed"]) = true := by decide +kernel
  have q1 : ¬ (Str.ofString "count" = Str.ofString "halted") := by decide +kernel
  have q2 : ¬ (Str.ofString "count" = Str.ofString "text") := by decide +kernel
  have q3 : ¬ (Str.ofString "lights" = Str.ofString "count") := by decide +kernel
  have q4 : ¬ (Str.ofString "deed" = Str.ofString "count") := by decide +kernel
  unfold word b__law_word
  simp [Rx.sNil, Rx.sSeq, Rx.sSet, Rx.sRet, Rx.sRetN, Rx.sDo, Rx.sIf, Rx.sCont, Rx.sBrk, Rx.sAsg, Rx.sPar, Rx.sPar3, Rx.gN, Rx.gT, Rx.gsNil, Rx.gsCons, Rx.tupOf, Rx.sFor, Rx.iVal, Rx.valsOf, Rx.s1, Rx.s2, Rx.sVar, Rx.sC, Rx.aNil, Rx.aCons, Rx.sTup, Rx.sLst, Rx.sNew, Rx.sTst, Rx.bNot, Rx.bAnd, Rx.bOr, Rx.sNot, Rx.sAnd, Rx.sOr, Rx.sIte, Rx.dIx, Rx.seqOf, Rx.dGt, Rx.dLt, Rx.dGe, Rx.dLe, Rx.dSub, Rx.dAdd, Rx.dMul, Rx.dDiv, Rx.dMod, Rx.dPow, Rx.sPut, Rx.dPutI, Rx.hOf, Rx.sB, Rx.dLen, Rx.fin, Rx.sCall, Rx.Res.toS, Rx.Res.bind, Rx.sChain, Rx.iR1, Rx.iR2, L2.atI, L2.ixN, sTry, sM1, isL, sAct, h, sIsE, d1, d2, d3, d4, d5, d6, d7, lOf, hc, hi, dNe, dEq, dIn, deref, okD_int, dEqv, pyD, PyData.eqv, s0, s1', s2', s3, q1, q2, q3, q4]
  simp [Rx.sNil, Rx.sSeq, Rx.sSet, Rx.sRet, Rx.sRetN, Rx.sDo, Rx.sIf, Rx.sCont, Rx.sBrk, Rx.sAsg, Rx.sPar, Rx.sPar3, Rx.gN, Rx.gT, Rx.gsNil, Rx.gsCons, Rx.tupOf, Rx.sFor, Rx.iVal, Rx.valsOf, Rx.s1, Rx.s2, Rx.sVar, Rx.sC, Rx.aNil, Rx.aCons, Rx.sTup, Rx.sLst, Rx.sNew, Rx.sTst, Rx.bNot, Rx.bAnd, Rx.bOr, Rx.sNot, Rx.sAnd, Rx.sOr, Rx.sIte, Rx.dIx, Rx.seqOf, Rx.dGt, Rx.dLt, Rx.dGe, Rx.dLe, Rx.dSub, Rx.dAdd, Rx.dMul, Rx.dDiv, Rx.dMod, Rx.dPow, Rx.sPut, Rx.dPutI, Rx.hOf, Rx.sB, Rx.dLen, Rx.fin, Rx.sCall, Rx.Res.toS, Rx.Res.bind, Rx.sChain, Rx.iR1, Rx.iR2, L2.atI, L2.ixN, trim, D.undr, D.undr.all, hu]
/-! ### the law -/
theorem undr_rows {ns : List Int} {r : MO} (h : Row ns r) : List.all [r] (MO.undr [r].length) = true := by simp [Rx.sNil, Rx.sSeq, Rx.sSet, Rx.sRet, Rx.sRetN, Rx.sDo, Rx.sIf, Rx.sCont, Rx.sBrk, Rx.sAsg, Rx.sPar, Rx.sPar3, Rx.gN, Rx.gT, Rx.gsNil, Rx.gsCons, Rx.tupOf, Rx.sFor, Rx.iVal, Rx.valsOf, Rx.s1, Rx.s2, Rx.sVar, Rx.sC, Rx.aNil, Rx.aCons, Rx.sTup, Rx.sLst, Rx.sNew, Rx.sTst, Rx.bNot, Rx.bAnd, Rx.bOr, Rx.sNot, Rx.sAnd, Rx.sOr, Rx.sIte, Rx.dIx, Rx.seqOf, Rx.dGt, Rx.dLt, Rx.dGe, Rx.dLe, Rx.dSub, Rx.dAdd, Rx.dMul, Rx.dDiv, Rx.dMod, Rx.dPow, Rx.sPut, Rx.dPutI, Rx.hOf, Rx.sB, Rx.dLen, Rx.fin, Rx.sCall, Rx.Res.toS, Rx.Res.bind, Rx.sChain, Rx.iR1, Rx.iR2, L2.atI, L2.ixN, undr_row h]
end Tx
set_option Elab.async false
set_option linter.all false
set_option maxRecDepth 100000
namespace Tx
open PySem PySem.Spec PyProof.Rows L2 Rx
def bDue : SSt := (sSeq (sSet 10 (sCall 3 f__law_way (aCons (sVar 6) (aCons (sVar 7) (aCons (sVar 8) aNil))))) (sSet 3 (s2 dAdd (sVar 3) (sTup (aCons (s2 dAdd (sVar 10) (sTup (aCons (sVar 9) aNil))) aNil)))))
theorem due_loop {n : Int} (h1 : 0 ≤ n) (h2 : n < 8) (a b c e f : Option D) (m : Mu) : ∀ (ts us : List Lt) (x y g w : Option D), us.length + ts.length ≤ 8 → ∃ x' y' g' w', forL (gT (gsCons (gN 7) (gsCons (gN 8) (gsCons (gN 9) gsNil)))) bDue (ts.map lD) [a, b, c, some (.tup (us.map lD)), e, f, some (.int n), x, y, g, w] m =
    .nx [a, b, c, some (.tup ((us ++ ts.map (tl n)).map lD)), e, f, some (.int n), x', y', g', w'] m
  | [], us, x, y, g, w, _ => ⟨x, y, g, w, by simp [Rx.sNil, Rx.sSeq, Rx.sSet, Rx.sRet, Rx.sRetN, Rx.sDo, Rx.sIf, Rx.sCont, Rx.sBrk, Rx.sAsg, Rx.sPar, Rx.sPar3, Rx.gN, Rx.gT, Rx.gsNil, Rx.gsCons, Rx.tupOf, Rx.sFor, Rx.iVal, Rx.valsOf, Rx.s1, Rx.s2, Rx.sVar, Rx.sC, Rx.aNil, Rx.aCons, Rx.sTup, Rx.sLst, Rx.sNew, Rx.sTst, Rx.bNot, Rx.bAnd, Rx.bOr, Rx.sNot, Rx.sAnd, Rx.sOr, Rx.sIte, Rx.dIx, Rx.seqOf, Rx.dGt, Rx.dLt, Rx.dGe, Rx.dLe, Rx.dSub, Rx.dAdd, Rx.dMul, Rx.dDiv, Rx.dMod, Rx.dPow, Rx.sPut, Rx.dPutI, Rx.hOf, Rx.sB, Rx.dLen, Rx.fin, Rx.sCall, Rx.Res.toS, Rx.Res.bind, Rx.sChain, Rx.iR1, Rx.iR2, L2.atI, L2.ixN, forL]⟩
  | t :: ts, us, x, y, g, w, hl => by
    have hl' : us.length + (ts.length + 1) ≤ 8 := by simpa [Rx.sNil, Rx.sSeq, Rx.sSet, Rx.sRet, Rx.sRetN, Rx.sDo, Rx.sIf, Rx.sCont, Rx.sBrk, Rx.sAsg, Rx.sPar, Rx.sPar3, Rx.gN, Rx.gT, Rx.gsNil, Rx.gsCons, Rx.tupOf, Rx.sFor, Rx.iVal, Rx.valsOf, Rx.s1, Rx.s2, Rx.sVar, Rx.sC, Rx.aNil, Rx.aCons, Rx.sTup, Rx.sLst, Rx.sNew, Rx.sTst, Rx.bNot, Rx.bAnd, Rx.bOr, Rx.sNot, Rx.sAnd, Rx.sOr, Rx.sIte, Rx.dIx, Rx.seqOf, Rx.dGt, Rx.dLt, Rx.dGe, Rx.dLe, Rx.dSub, Rx.dAdd, Rx.dMul, Rx.dDiv, Rx.dMod, Rx.dPow, Rx.sPut, Rx.dPutI, Rx.hOf, Rx.sB, Rx.dLen, Rx.fin, Rx.sCall, Rx.Res.toS, Rx.Res.bind, Rx.sChain, Rx.iR1, Rx.iR2, L2.atI, L2.ixN] using hl
    obtain ⟨x', y', g', w', e1⟩ := due_loop h1 h2 a b c e f m ts (us ++ [tl n t]) (some (.int t.1)) (some (.int t.2.1)) (some (.int t.2.2)) (some (.tup [.int (W n t.1 t.2.1).1, .int (W n t.1 t.2.1).2])) (by simp [Rx.sNil, Rx.sSeq, Rx.sSet, Rx.sRet, Rx.sRetN, Rx.sDo, Rx.sIf, Rx.sCont, Rx.sBrk, Rx.sAsg, Rx.sPar, Rx.sPar3, Rx.gN, Rx.gT, Rx.gsNil, Rx.gsCons, Rx.tupOf, Rx.sFor, Rx.iVal, Rx.valsOf, Rx.s1, Rx.s2, Rx.sVar, Rx.sC, Rx.aNil, Rx.aCons, Rx.sTup, Rx.sLst, Rx.sNew, Rx.sTst, Rx.bNot, Rx.bAnd, Rx.bOr, Rx.sNot, Rx.sAnd, Rx.sOr, Rx.sIte, Rx.dIx, Rx.seqOf, Rx.dGt, Rx.dLt, Rx.dGe, Rx.dLe, Rx.dSub, Rx.dAdd, Rx.dMul, Rx.dDiv, Rx.dMod, Rx.dPow, Rx.sPut, Rx.dPutI, Rx.hOf, Rx.sB, Rx.dLen, Rx.fin, Rx.sCall, Rx.Res.toS, Rx.Res.bind, Rx.sChain, Rx.iR1, Rx.iR2, L2.atI, L2.ixN]; omega)
    refine ⟨x', y', g', w', ?_⟩
    have l9 : us.length ≤ 999999 := by omega
    have hb : bDue [a, b, c, some (.tup (us.map lD)), e, f, some (.int n), some (.int t.1), some (.int t.2.1), some (.int t.2.2), w] m = .nx [a, b, c, some (.tup ((us ++ [tl n t]).map lD)), e, f, some (.int n), some (.int t.1), some (.int t.2.1), some (.int t.2.2), some (.tup [.int (W n t.1 t.2.1).1, .int (W n t.1 t.2.1).2])] m := by
      simp [Rx.sNil, Rx.sSeq, Rx.sSet, Rx.sRet, Rx.sRetN, Rx.sDo, Rx.sIf, Rx.sCont, Rx.sBrk, Rx.sAsg, Rx.sPar, Rx.sPar3, Rx.gN, Rx.gT, Rx.gsNil, Rx.gsCons, Rx.tupOf, Rx.sFor, Rx.iVal, Rx.valsOf, Rx.s1, Rx.s2, Rx.sVar, Rx.sC, Rx.aNil, Rx.aCons, Rx.sTup, Rx.sLst, Rx.sNew, Rx.sTst, Rx.bNot, Rx.bAnd, Rx.bOr, Rx.sNot, Rx.sAnd, Rx.sOr, Rx.sIte, Rx.dIx, Rx.seqOf, Rx.dGt, Rx.dLt, Rx.dGe, Rx.dLe, Rx.dSub, Rx.dAdd, Rx.dMul, Rx.dDiv, Rx.dMod, Rx.dPow, Rx.sPut, Rx.dPutI, Rx.hOf, Rx.sB, Rx.dLen, Rx.fin, Rx.sCall, Rx.Res.toS, Rx.Res.bind, Rx.sChain, Rx.iR1, Rx.iR2, L2.atI, L2.ixN, bDue, way_ok h1 h2, l9, lD, tl]
    refine (forL_step rfl hb).trans (e1.trans ?_)
    simp [Rx.sNil, Rx.sSeq, Rx.sSet, Rx.sRet, Rx.sRetN, Rx.sDo, Rx.sIf, Rx.sCont, Rx.sBrk, Rx.sAsg, Rx.sPar, Rx.sPar3, Rx.gN, Rx.gT, Rx.gsNil, Rx.gsCons, Rx.tupOf, Rx.sFor, Rx.iVal, Rx.valsOf, Rx.s1, Rx.s2, Rx.sVar, Rx.sC, Rx.aNil, Rx.aCons, Rx.sTup, Rx.sLst, Rx.sNew, Rx.sTst, Rx.bNot, Rx.bAnd, Rx.bOr, Rx.sNot, Rx.sAnd, Rx.sOr, Rx.sIte, Rx.dIx, Rx.seqOf, Rx.dGt, Rx.dLt, Rx.dGe, Rx.dLe, Rx.dSub, Rx.dAdd, Rx.dMul, Rx.dDiv, Rx.dMod, Rx.dPow, Rx.sPut, Rx.dPutI, Rx.hOf, Rx.sB, Rx.dLen, Rx.fin, Rx.sCall, Rx.Res.toS, Rx.Res.bind, Rx.sChain, Rx.iR1, Rx.iR2, L2.atI, L2.ixN]
def bOdd : SEx := (s2 dIx (sLst (aCons (s2 dAdd (sC (.int 8)) (s2 dMul (sCall 2 f__law_taken (aCons (sVar 1) (aCons (sC (.int 2)) aNil))) (sCall 2 f__law_taken (aCons (sVar 1) (aCons (sC (.int 99)) aNil))))) (aCons (s2 dSub (sC (.int 0)) (sC (.int 1))) (aCons (sC .non) (aCons (sC (.bl true)) (aCons (sC (.str "1")) aNil)))))) (sCall 2 f__law_taken (aCons (sVar 1) (aCons (sC (.int 5)) aNil))))
theorem odd_ok {ns : List Int} {r : MO} (h : Row ns r) (s : Sd) (hs : s[1]? = some (some (.ref 0))) : ∃ d r', bOdd s [r] = .ok d [r'] ∧ Row ns r' ∧ Odd d := by
  obtain ⟨a, r1, e1, h1, a1, a2⟩ := taken_ok h (k := 2) (by decide) (by decide) []
  obtain ⟨b, r2, e2, h2, b1, b2⟩ := taken_ok h1 (k := 99) (by decide) (by decide) []
  obtain ⟨c, r3, e3, h3, c1, c2⟩ := taken_ok h2 (k := 5) (by decide) (by decide) []
  have xa : -18446744073709551616 < a ∧ a < 18446744073709551616 := by omega
  have hm : 0 ≤ a * b := Int.mul_nonneg a1 b1
  have c5 : c = 0 ∨ c = 1 ∨ c = 2 ∨ c = 3 ∨ c = 4 := by omega
  rcases c5 with rfl | rfl | rfl | rfl | rfl
  · exact ⟨.int (8 + a * b), r3, by simp [Rx.sNil, Rx.sSeq, Rx.sSet, Rx.sRet, Rx.sRetN, Rx.sDo, Rx.sIf, Rx.sCont, Rx.sBrk, Rx.sAsg, Rx.sPar, Rx.sPar3, Rx.gN, Rx.gT, Rx.gsNil, Rx.gsCons, Rx.tupOf, Rx.sFor, Rx.iVal, Rx.valsOf, Rx.s1, Rx.s2, Rx.sVar, Rx.sC, Rx.aNil, Rx.aCons, Rx.sTup, Rx.sLst, Rx.sNew, Rx.sTst, Rx.bNot, Rx.bAnd, Rx.bOr, Rx.sNot, Rx.sAnd, Rx.sOr, Rx.sIte, Rx.dIx, Rx.seqOf, Rx.dGt, Rx.dLt, Rx.dGe, Rx.dLe, Rx.dSub, Rx.dAdd, Rx.dMul, Rx.dDiv, Rx.dMod, Rx.dPow, Rx.sPut, Rx.dPutI, Rx.hOf, Rx.sB, Rx.dLen, Rx.fin, Rx.sCall, Rx.Res.toS, Rx.Res.bind, Rx.sChain, Rx.iR1, Rx.iR2, L2.atI, L2.ixN, bOdd, hs, e1, e2, e3, xa], h3, .inl ⟨_, rfl, by omega⟩⟩
  · exact ⟨.int (-1), r3, by simp [Rx.sNil, Rx.sSeq, Rx.sSet, Rx.sRet, Rx.sRetN, Rx.sDo, Rx.sIf, Rx.sCont, Rx.sBrk, Rx.sAsg, Rx.sPar, Rx.sPar3, Rx.gN, Rx.gT, Rx.gsNil, Rx.gsCons, Rx.tupOf, Rx.sFor, Rx.iVal, Rx.valsOf, Rx.s1, Rx.s2, Rx.sVar, Rx.sC, Rx.aNil, Rx.aCons, Rx.sTup, Rx.sLst, Rx.sNew, Rx.sTst, Rx.bNot, Rx.bAnd, Rx.bOr, Rx.sNot, Rx.sAnd, Rx.sOr, Rx.sIte, Rx.dIx, Rx.seqOf, Rx.dGt, Rx.dLt, Rx.dGe, Rx.dLe, Rx.dSub, Rx.dAdd, Rx.dMul, Rx.dDiv, Rx.dMod, Rx.dPow, Rx.sPut, Rx.dPutI, Rx.hOf, Rx.sB, Rx.dLen, Rx.fin, Rx.sCall, Rx.Res.toS, Rx.Res.bind, Rx.sChain, Rx.iR1, Rx.iR2, L2.atI, L2.ixN, bOdd, hs, e1, e2, e3, xa], h3, .inl ⟨_, rfl, by omega⟩⟩
  · exact ⟨.non, r3, by simp [Rx.sNil, Rx.sSeq, Rx.sSet, Rx.sRet, Rx.sRetN, Rx.sDo, Rx.sIf, Rx.sCont, Rx.sBrk, Rx.sAsg, Rx.sPar, Rx.sPar3, Rx.gN, Rx.gT, Rx.gsNil, Rx.gsCons, Rx.tupOf, Rx.sFor, Rx.iVal, Rx.valsOf, Rx.s1, Rx.s2, Rx.sVar, Rx.sC, Rx.aNil, Rx.aCons, Rx.sTup, Rx.sLst, Rx.sNew, Rx.sTst, Rx.bNot, Rx.bAnd, Rx.bOr, Rx.sNot, Rx.sAnd, Rx.sOr, Rx.sIte, Rx.dIx, Rx.seqOf, Rx.dGt, Rx.dLt, Rx.dGe, Rx.dLe, Rx.dSub, Rx.dAdd, Rx.dMul, Rx.dDiv, Rx.dMod, Rx.dPow, Rx.sPut, Rx.dPutI, Rx.hOf, Rx.sB, Rx.dLen, Rx.fin, Rx.sCall, Rx.Res.toS, Rx.Res.bind, Rx.sChain, Rx.iR1, Rx.iR2, L2.atI, L2.ixN, bOdd, hs, e1, e2, e3, xa], h3, .inr (.inl rfl)⟩
  · exact ⟨.bl true, r3, by simp [Rx.sNil, Rx.sSeq, Rx.sSet, Rx.sRet, Rx.sRetN, Rx.sDo, Rx.sIf, Rx.sCont, Rx.sBrk, Rx.sAsg, Rx.sPar, Rx.sPar3, Rx.gN, Rx.gT, Rx.gsNil, Rx.gsCons, Rx.tupOf, Rx.sFor, Rx.iVal, Rx.valsOf, Rx.s1, Rx.s2, Rx.sVar, Rx.sC, Rx.aNil, Rx.aCons, Rx.sTup, Rx.sLst, Rx.sNew, Rx.sTst, Rx.bNot, Rx.bAnd, Rx.bOr, Rx.sNot, Rx.sAnd, Rx.sOr, Rx.sIte, Rx.dIx, Rx.seqOf, Rx.dGt, Rx.dLt, Rx.dGe, Rx.dLe, Rx.dSub, Rx.dAdd, Rx.dMul, Rx.dDiv, Rx.dMod, Rx.dPow, Rx.sPut, Rx.dPutI, Rx.hOf, Rx.sB, Rx.dLen, Rx.fin, Rx.sCall, Rx.Res.toS, Rx.Res.bind, Rx.sChain, Rx.iR1, Rx.iR2, L2.atI, L2.ixN, bOdd, hs, e1, e2, e3, xa], h3, .inr (.inr (.inl rfl))⟩
  · exact ⟨.str "1", r3, by simp [Rx.sNil, Rx.sSeq, Rx.sSet, Rx.sRet, Rx.sRetN, Rx.sDo, Rx.sIf, Rx.sCont, Rx.sBrk, Rx.sAsg, Rx.sPar, Rx.sPar3, Rx.gN, Rx.gT, Rx.gsNil, Rx.gsCons, Rx.tupOf, Rx.sFor, Rx.iVal, Rx.valsOf, Rx.s1, Rx.s2, Rx.sVar, Rx.sC, Rx.aNil, Rx.aCons, Rx.sTup, Rx.sLst, Rx.sNew, Rx.sTst, Rx.bNot, Rx.bAnd, Rx.bOr, Rx.sNot, Rx.sAnd, Rx.sOr, Rx.sIte, Rx.dIx, Rx.seqOf, Rx.dGt, Rx.dLt, Rx.dGe, Rx.dLe, Rx.dSub, Rx.dAdd, Rx.dMul, Rx.dDiv, Rx.dMod, Rx.dPow, Rx.sPut, Rx.dPutI, Rx.hOf, Rx.sB, Rx.dLen, Rx.fin, Rx.sCall, Rx.Res.toS, Rx.Res.bind, Rx.sChain, Rx.iR1, Rx.iR2, L2.atI, L2.ixN, bOdd, hs, e1, e2, e3, xa], h3, .inr (.inr (.inr rfl))⟩
end Tx
set_option Elab.async false
set_option linter.all false
set_option maxRecDepth 100000
namespace Tx
open PySem PySem.Spec PyProof.Rows L2 Rx
def bStep : SSt := (sSeq (sAsg (sTup (aCons (sCall 3 f__law_lights (aCons (sVar 1) (aCons (sC (.int 8)) (aCons (sC (.int 9)) aNil)))) (aCons (sCall 2 f__law_taken (aCons (sVar 1) (aCons (sC (.int 8)) aNil))) aNil))) (gT (gsCons (gN 5) (gsCons (gN 6) gsNil)))) (sSeq (sSet 3 (sTup aNil)) (sSeq (sFor (iVal (sVar 5)) (gT (gsCons (gN 7) (gsCons (gN 8) (gsCons (gN 9) gsNil)))) bDue)
  (sSeq (sIf (bNot (sTst (sCall 2 f__law_alike (aCons (sCall 2 f_turned (aCons (sVar 5) (aCons (sVar 6) aNil))) (aCons (sVar 3) aNil))))) (sRet (sC (.bl false))) sNil) (sSeq (sSet 4 bOdd) (sIf (sTst (s2 dNe (sLam 6 b__law_word (sCall 2 f_turned (aCons (sVar 5) (aCons (sVar 4) aNil)))) (sTup (aCons (sC (.str "count")) (aCons (sC .non) aNil))))) (sRet (sC (.bl false))) sNil))))))
theorem step_ok {ns : List Int} {r : MO} (h : Row ns r) (a k o2 o3 o4 o5 o6 o7 o8 o9 : Option D) : ∃ q3 q4 q5 q6 q7 q8 q9 q10 r', bStep [a, some (.ref 0), k, o2, o3, o4, o5, o6, o7, o8, o9] [r] = .nx [a, some (.ref 0), k, q3, q4, q5, q6, q7, q8, q9, q10] [r'] ∧ Row ns r' := by
  obtain ⟨ts, r1, e1, h1, g1, l1⟩ := lights_ok h
  obtain ⟨n, r2, e2, h2, n1, n2⟩ := taken_ok h1 (k := 8) (by decide) (by decide) []
  obtain ⟨x', y', g', w', e3⟩ := due_loop n1 n2 a (some (.ref 0)) k o3 (some (.tup (ts.map lD))) [r2] ts [] o6 o7 o8 o9 (by simpa [Rx.sNil, Rx.sSeq, Rx.sSet, Rx.sRet, Rx.sRetN, Rx.sDo, Rx.sIf, Rx.sCont, Rx.sBrk, Rx.sAsg, Rx.sPar, Rx.sPar3, Rx.gN, Rx.gT, Rx.gsNil, Rx.gsCons, Rx.tupOf, Rx.sFor, Rx.iVal, Rx.valsOf, Rx.s1, Rx.s2, Rx.sVar, Rx.sC, Rx.aNil, Rx.aCons, Rx.sTup, Rx.sLst, Rx.sNew, Rx.sTst, Rx.bNot, Rx.bAnd, Rx.bOr, Rx.sNot, Rx.sAnd, Rx.sOr, Rx.sIte, Rx.dIx, Rx.seqOf, Rx.dGt, Rx.dLt, Rx.dGe, Rx.dLe, Rx.dSub, Rx.dAdd, Rx.dMul, Rx.dDiv, Rx.dMod, Rx.dPow, Rx.sPut, Rx.dPutI, Rx.hOf, Rx.sB, Rx.dLen, Rx.fin, Rx.sCall, Rx.Res.toS, Rx.Res.bind, Rx.sChain, Rx.iR1, Rx.iR2, L2.atI, L2.ixN] using l1)
  obtain ⟨d, r3, e4, h3, od⟩ := odd_ok h2 [a, some (.ref 0), k, some (.tup ((ts.map (tl n)).map lD)), o3, some (.tup (ts.map lD)), some (.int n), x', y', g', w'] rfl
  have l2 : (ts.map (tl n)).length ≤ 8 := by simpa [Rx.sNil, Rx.sSeq, Rx.sSet, Rx.sRet, Rx.sRetN, Rx.sDo, Rx.sIf, Rx.sCont, Rx.sBrk, Rx.sAsg, Rx.sPar, Rx.sPar3, Rx.gN, Rx.gT, Rx.gsNil, Rx.gsCons, Rx.tupOf, Rx.sFor, Rx.iVal, Rx.valsOf, Rx.s1, Rx.s2, Rx.sVar, Rx.sC, Rx.aNil, Rx.aCons, Rx.sTup, Rx.sLst, Rx.sNew, Rx.sTst, Rx.bNot, Rx.bAnd, Rx.bOr, Rx.sNot, Rx.sAnd, Rx.sOr, Rx.sIte, Rx.dIx, Rx.seqOf, Rx.dGt, Rx.dLt, Rx.dGe, Rx.dLe, Rx.dSub, Rx.dAdd, Rx.dMul, Rx.dDiv, Rx.dMod, Rx.dPow, Rx.sPut, Rx.dPutI, Rx.hOf, Rx.sB, Rx.dLen, Rx.fin, Rx.sCall, Rx.Res.toS, Rx.Res.bind, Rx.sChain, Rx.iR1, Rx.iR2, L2.atI, L2.ixN] using l1
  have e5 := turned_ok n1 n2 g1 l1 (undr_rows h2)
  have e6 := alike_ok (ts.map (tl n)) l2 [r2]
  have e7 : f_turned [.tup (ts.map lD), d] ([r3] ++ [.dead, .lst []]) = .exc ⟨"BadCount", []⟩ ([r3] ++ [.dead, .lst []]) := turned_bad od g1 l1 (by
    show (MO.undr 3 r3 && (MO.undr 3 .dead && (MO.undr 3 (.lst []) && true))) = true
    rw [undr_row h3]
    rfl)
  have e8 := word_count (m := [r3]) (r := fun m => sCall 2 f_turned (aCons (sVar 5) (aCons (sVar 4) aNil)) [a, some (.ref 0), k, some (.tup ((ts.map (tl n)).map lD)), some d, some (.tup (ts.map lD)), some (.int n), x', y', g', w'] m) (by
    simp [Rx.sNil, Rx.sSeq, Rx.sSet, Rx.sRet, Rx.sRetN, Rx.sDo, Rx.sIf, Rx.sCont, Rx.sBrk, Rx.sAsg, Rx.sPar, Rx.sPar3, Rx.gN, Rx.gT, Rx.gsNil, Rx.gsCons, Rx.tupOf, Rx.sFor, Rx.iVal, Rx.valsOf, Rx.s1, Rx.s2, Rx.sVar, Rx.sC, Rx.aNil, Rx.aCons, Rx.sTup, Rx.sLst, Rx.sNew, Rx.sTst, Rx.bNot, Rx.bAnd, Rx.bOr, Rx.sNot, Rx.sAnd, Rx.sOr, Rx.sIte, Rx.dIx, Rx.seqOf, Rx.dGt, Rx.dLt, Rx.dGe, Rx.dLe, Rx.dSub, Rx.dAdd, Rx.dMul, Rx.dDiv, Rx.dMod, Rx.dPow, Rx.sPut, Rx.dPutI, Rx.hOf, Rx.sB, Rx.dLen, Rx.fin, Rx.sCall, Rx.Res.toS, Rx.Res.bind, Rx.sChain, Rx.iR1, Rx.iR2, L2.atI, L2.ixN] at e7 ⊢
    exact e7) (undr_rows h3)
  refine ⟨some (.tup ((ts.map (tl n)).map lD)), some d, some (.tup (ts.map lD)), some (.int n), x', y', g', w', r3, ?_, h3⟩
  unfold bStep
  refine (sSeq_nx (s' := [a, some (.ref 0), k, o2, o3, some (.tup (ts.map lD)), some (.int n), o6, o7, o8, o9]) (m' := [r2]) (by simp [Rx.sNil, Rx.sSeq, Rx.sSet, Rx.sRet, Rx.sRetN, Rx.sDo, Rx.sIf, Rx.sCont, Rx.sBrk, Rx.sAsg, Rx.sPar, Rx.sPar3, Rx.gN, Rx.gT, Rx.gsNil, Rx.gsCons, Rx.tupOf, Rx.sFor, Rx.iVal, Rx.valsOf, Rx.s1, Rx.s2, Rx.sVar, Rx.sC, Rx.aNil, Rx.aCons, Rx.sTup, Rx.sLst, Rx.sNew, Rx.sTst, Rx.bNot, Rx.bAnd, Rx.bOr, Rx.sNot, Rx.sAnd, Rx.sOr, Rx.sIte, Rx.dIx, Rx.seqOf, Rx.dGt, Rx.dLt, Rx.dGe, Rx.dLe, Rx.dSub, Rx.dAdd, Rx.dMul, Rx.dDiv, Rx.dMod, Rx.dPow, Rx.sPut, Rx.dPutI, Rx.hOf, Rx.sB, Rx.dLen, Rx.fin, Rx.sCall, Rx.Res.toS, Rx.Res.bind, Rx.sChain, Rx.iR1, Rx.iR2, L2.atI, L2.ixN, e1, e2])).trans ?_
  refine (sSeq_nx (s' := [a, some (.ref 0), k, some (.tup []), o3, some (.tup (ts.map lD)), some (.int n), o6, o7, o8, o9]) (m' := [r2]) (by simp [Rx.sNil, Rx.sSeq, Rx.sSet, Rx.sRet, Rx.sRetN, Rx.sDo, Rx.sIf, Rx.sCont, Rx.sBrk, Rx.sAsg, Rx.sPar, Rx.sPar3, Rx.gN, Rx.gT, Rx.gsNil, Rx.gsCons, Rx.tupOf, Rx.sFor, Rx.iVal, Rx.valsOf, Rx.s1, Rx.s2, Rx.sVar, Rx.sC, Rx.aNil, Rx.aCons, Rx.sTup, Rx.sLst, Rx.sNew, Rx.sTst, Rx.bNot, Rx.bAnd, Rx.bOr, Rx.sNot, Rx.sAnd, Rx.sOr, Rx.sIte, Rx.dIx, Rx.seqOf, Rx.dGt, Rx.dLt, Rx.dGe, Rx.dLe, Rx.dSub, Rx.dAdd, Rx.dMul, Rx.dDiv, Rx.dMod, Rx.dPow, Rx.sPut, Rx.dPutI, Rx.hOf, Rx.sB, Rx.dLen, Rx.fin, Rx.sCall, Rx.Res.toS, Rx.Res.bind, Rx.sChain, Rx.iR1, Rx.iR2, L2.atI, L2.ixN])).trans ?_
  refine (sSeq_nx (s' := [a, some (.ref 0), k, some (.tup ((ts.map (tl n)).map lD)), o3, some (.tup (ts.map lD)), some (.int n), x', y', g', w']) (m' := [r2]) ?_).trans ?_
  · have e3' := e3
    rw [List.nil_append, List.map_nil] at e3'
    rw [← e3']
    rfl
  refine (sSeq_nx (s' := [a, some (.ref 0), k, some (.tup ((ts.map (tl n)).map lD)), o3, some (.tup (ts.map lD)), some (.int n), x', y', g', w']) (m' := [r2]) ?_).trans ?_
  · refine (sIf_f (m' := [r2]) ?_).trans rfl
    simp [Rx.sNil, Rx.sSeq, Rx.sSet, Rx.sRet, Rx.sRetN, Rx.sDo, Rx.sIf, Rx.sCont, Rx.sBrk, Rx.sAsg, Rx.sPar, Rx.sPar3, Rx.gN, Rx.gT, Rx.gsNil, Rx.gsCons, Rx.tupOf, Rx.sFor, Rx.iVal, Rx.valsOf, Rx.s1, Rx.s2, Rx.sVar, Rx.sC, Rx.aNil, Rx.aCons, Rx.sTup, Rx.sLst, Rx.sNew, Rx.sTst, Rx.bNot, Rx.bAnd, Rx.bOr, Rx.sNot, Rx.sAnd, Rx.sOr, Rx.sIte, Rx.dIx, Rx.seqOf, Rx.dGt, Rx.dLt, Rx.dGe, Rx.dLe, Rx.dSub, Rx.dAdd, Rx.dMul, Rx.dDiv, Rx.dMod, Rx.dPow, Rx.sPut, Rx.dPutI, Rx.hOf, Rx.sB, Rx.dLen, Rx.fin, Rx.sCall, Rx.Res.toS, Rx.Res.bind, Rx.sChain, Rx.iR1, Rx.iR2, L2.atI, L2.ixN, e5, e6, -List.map_map]
  refine (sSeq_nx (s' := [a, some (.ref 0), k, some (.tup ((ts.map (tl n)).map lD)), some d, some (.tup (ts.map lD)), some (.int n), x', y', g', w']) (m' := [r3]) (by rw [sSet, e4]; rfl)).trans ?_
  refine (sIf_f (m' := [r3]) ?_).trans rfl
  have e9 : sLam 6 b__law_word (sCall 2 f_turned (aCons (sVar 5) (aCons (sVar 4) aNil))) [a, some (.ref 0), k, some (.tup ((ts.map (tl n)).map lD)), some d, some (.tup (ts.map lD)), some (.int n), x', y', g', w'] [r3] = .ok (.tup [.str "count", .non]) [r3] := by
    unfold sLam
    rw [e8]
  have o1 : okD (.tup [.str "count", .non]) = true := by decide +kernel
  have e10 : dNe (.tup [.str "count", .non]) (.tup [.str "count", .non]) [r3] = .ok (.bl false) [r3] := by
    simp [Rx.sNil, Rx.sSeq, Rx.sSet, Rx.sRet, Rx.sRetN, Rx.sDo, Rx.sIf, Rx.sCont, Rx.sBrk, Rx.sAsg, Rx.sPar, Rx.sPar3, Rx.gN, Rx.gT, Rx.gsNil, Rx.gsCons, Rx.tupOf, Rx.sFor, Rx.iVal, Rx.valsOf, Rx.s1, Rx.s2, Rx.sVar, Rx.sC, Rx.aNil, Rx.aCons, Rx.sTup, Rx.sLst, Rx.sNew, Rx.sTst, Rx.bNot, Rx.bAnd, Rx.bOr, Rx.sNot, Rx.sAnd, Rx.sOr, Rx.sIte, Rx.dIx, Rx.seqOf, Rx.dGt, Rx.dLt, Rx.dGe, Rx.dLe, Rx.dSub, Rx.dAdd, Rx.dMul, Rx.dDiv, Rx.dMod, Rx.dPow, Rx.sPut, Rx.dPutI, Rx.hOf, Rx.sB, Rx.dLen, Rx.fin, Rx.sCall, Rx.Res.toS, Rx.Res.bind, Rx.sChain, Rx.iR1, Rx.iR2, L2.atI, L2.ixN, dNe, deref, o1, dEqv, pyD, pyD.pyL, PyData.eqv, PyData.eqvAll]
  unfold sTst s2
  rw [e9]
  simp only [Res.bind]
  exact (by
    simp [Rx.sNil, Rx.sSeq, Rx.sSet, Rx.sRet, Rx.sRetN, Rx.sDo, Rx.sIf, Rx.sCont, Rx.sBrk, Rx.sAsg, Rx.sPar, Rx.sPar3, Rx.gN, Rx.gT, Rx.gsNil, Rx.gsCons, Rx.tupOf, Rx.sFor, Rx.iVal, Rx.valsOf, Rx.s1, Rx.s2, Rx.sVar, Rx.sC, Rx.aNil, Rx.aCons, Rx.sTup, Rx.sLst, Rx.sNew, Rx.sTst, Rx.bNot, Rx.bAnd, Rx.bOr, Rx.sNot, Rx.sAnd, Rx.sOr, Rx.sIte, Rx.dIx, Rx.seqOf, Rx.dGt, Rx.dLt, Rx.dGe, Rx.dLe, Rx.dSub, Rx.dAdd, Rx.dMul, Rx.dDiv, Rx.dMod, Rx.dPow, Rx.sPut, Rx.dPutI, Rx.hOf, Rx.sB, Rx.dLen, Rx.fin, Rx.sCall, Rx.Res.toS, Rx.Res.bind, Rx.sChain, Rx.iR1, Rx.iR2, L2.atI, L2.ixN, e10])
theorem law_loop {ns : List Int} (a : Option D) : ∀ (l : List D) (r : MO) (k o2 o3 o4 o5 o6 o7 o8 o9 : Option D), Row ns r → ∃ s' r', forL (gN 2) bStep l [a, some (.ref 0), k, o2, o3, o4, o5, o6, o7, o8, o9] [r] = .nx s' [r'] 
  | [], r, k, o2, o3, o4, o5, o6, o7, o8, o9, h => ⟨_, r, rfl⟩
  | d :: l, r, k, o2, o3, o4, o5, o6, o7, o8, o9, h => by
    obtain ⟨q3, q4, q5, q6, q7, q8, q9, q10, r', e, h'⟩ := step_ok h a (some d) o2 o3 o4 o5 o6 o7 o8 o9
    obtain ⟨s', r2, e2⟩ := law_loop a l r' (some d) q3 q4 q5 q6 q7 q8 q9 q10 h'
    exact ⟨s', r2, (forL_step rfl e).trans e2⟩
theorem law_math : ∀ ns : List Int, ns.length ≤ 63 → (∀ z ∈ ns, PySem.Builtin.Int.intBits z ≤ 1048576) → ∃ m, f_law [.scr (ns.map D.int)] [] = .ok (.bl true) m := by
  intro ns _ _
  obtain ⟨r, e, h⟩ := row_ok ns
  obtain ⟨s', r', e2⟩ := law_loop (some (.scr (ns.map D.int))) (rangeD 0 4) r none none none none none none none none none h
  refine ⟨[r'], ?_⟩
  have e3 : b_law [some (.scr (ns.map D.int)), none, none, none, none, none, none, none, none, none, none] [] = .ret (.bl true) [r'] := by
    unfold b_law
    refine (sSeq_nx (s' := [some (.scr (ns.map D.int)), some (.ref 0), none, none, none, none, none, none, none, none, none]) (m' := [r]) (by simp [Rx.sNil, Rx.sSeq, Rx.sSet, Rx.sRet, Rx.sRetN, Rx.sDo, Rx.sIf, Rx.sCont, Rx.sBrk, Rx.sAsg, Rx.sPar, Rx.sPar3, Rx.gN, Rx.gT, Rx.gsNil, Rx.gsCons, Rx.tupOf, Rx.sFor, Rx.iVal, Rx.valsOf, Rx.s1, Rx.s2, Rx.sVar, Rx.sC, Rx.aNil, Rx.aCons, Rx.sTup, Rx.sLst, Rx.sNew, Rx.sTst, Rx.bNot, Rx.bAnd, Rx.bOr, Rx.sNot, Rx.sAnd, Rx.sOr, Rx.sIte, Rx.dIx, Rx.seqOf, Rx.dGt, Rx.dLt, Rx.dGe, Rx.dLe, Rx.dSub, Rx.dAdd, Rx.dMul, Rx.dDiv, Rx.dMod, Rx.dPow, Rx.sPut, Rx.dPutI, Rx.hOf, Rx.sB, Rx.dLen, Rx.fin, Rx.sCall, Rx.Res.toS, Rx.Res.bind, Rx.sChain, Rx.iR1, Rx.iR2, L2.atI, L2.ixN, e])).trans ?_
    refine (sSeq_nx (s' := s') (m' := [r']) ?_).trans rfl
    exact e2
  unfold f_law Rx.run
  simp only [List.map_cons, List.map_nil, List.length_cons, List.length_nil, List.cons_append, List.nil_append]
  rw [show List.replicate (11 - (0 + 1)) (none : Option D) = [none, none, none, none, none, none, none, none, none, none] from rfl, e3]
  rfl
end Tx
namespace Tx
open PySem PySem.Spec PyProof.Rows L2 Rx
theorem law_end {w : World} {K : PySem.W.Frag} {mg : Str → Option Value} {fa f1 c Pt : Addr} {h : Heap} {oc : Value} {od an : Option Addr} {osl : Array (Option Value)} {kV doc pm ct : Value} (X : K.In h) (G : h.Ns mainGlobals mg) (hfa : mg "law" = some (.ref fa)) (M : Facts K mg)
    (a : PySem.W.nsIn K mainGlobals "law" = some (some (.ref f1))) (l : K.lookup f1 = some ⟨oc, od, .func (PySem.W.fnOf "law" "law" (defArgs st_law) (defBody st_law) (defScope st_law) .none kV doc pm an (.ref c) ct), osl⟩) (cd : PySem.W.codeIn K (.ref c) "law" = true)
    (hT : h.get? Pt = some { cls := .none, data := .fields #[] }) (nT : K.lookup Pt = none) (ch : PySem.W.codeHdIn K c Pt = true) : LamX.LawAtS PySem.Challenge.rw_skypairs_k06_lights_turned w K (L2.CX PySem.Challenge.rw_skypairs_k06_lights_turned.prog w) 12 63 "_law_script" mg fa h := by
  have e := hfa.symm.trans (PySem.W.mg_of X G a)
  cases e
  exact law_at hT nT (PySem.W.codeHd_of_K X ch) (fun s u => .of_eq rfl) (fun base _ _ TB => k_law M ⟨_, _, _, _, _, _, _, _, rfl, l, cd⟩ TB w00) law_math
end Tx
open PySem PySem.W PyProof.Rows
set_option maxRecDepth 100000 in
set_option maxHeartbeats 0 in
theorem PySem.Challenge.cw_skypairs_k06_lights_turned_holds : PySem.Challenge.rw_skypairs_k06_lights_turned.Holds := by
  w_on; o_law; k_head; (case hw => w_witness2)
  k_fill
  refine LamX.walk_ofTs (l := PySem.Challenge.rw_skypairs_k06_lights_turned) (k := 12) (x := "_law_script") (CX := fun w => L2.CX PySem.Challenge.rw_skypairs_k06_lights_turned.prog w) rfl (by decide) rfl ⟨rfl, by decide, by decide⟩ (fun w h Y => PySem.W.km_in_of Y) ?F Rx.hCX_
  case F =>
    intro w mg fa h Y KX G hmg
    have tab := PySem.W.km_tabs_of Y
    have n_ValueError := Rx.free_of (x := "ValueError") KX G (by kernel_rfl)
    have n_all := Rx.free_of (x := "all") KX G (by kernel_rfl)
    have n_bool := Rx.free_of (x := "bool") KX G (by kernel_rfl)
    have n_enumerate := Rx.free_of (x := "enumerate") KX G (by kernel_rfl)
    have n_int := Rx.free_of (x := "int") KX G (by kernel_rfl)
    have n_isinstance := Rx.free_of (x := "isinstance") KX G (by kernel_rfl)
    have n_len := Rx.free_of (x := "len") KX G (by kernel_rfl)
    have n_list := Rx.free_of (x := "list") KX G (by kernel_rfl)
    have n_range := Rx.free_of (x := "range") KX G (by kernel_rfl)
    have n_str := Rx.free_of (x := "str") KX G (by kernel_rfl)
    have n_tuple := Rx.free_of (x := "tuple") KX G (by kernel_rfl)
    have n_zip := Rx.free_of (x := "zip") KX G (by kernel_rfl)
    have d_is_number : Rx.DefAtX KX mg "is_number" Tx.st_is_number ["thing", "low", "high"] := by
      refine' Rx.defAt_mk KX G ?a ?l ?c ?k (fun _ _ _ _ _ _ us hl => match us, hl with | [_, _, _], _ => rfl)
      (case a => k_is); (case l => k_is); (case c => k_is); (case k => k_is)
    have d_are_numbers : Rx.DefAtX KX mg "are_numbers" Tx.st_are_numbers ["thing", "bounds"] := by
      refine' Rx.defAt_mk KX G ?a ?l ?c ?k (fun _ _ _ _ _ _ us hl => match us, hl with | [_, _], _ => rfl)
      (case a => k_is); (case l => k_is); (case c => k_is); (case k => k_is)
    have d_check_lights : Rx.DefAtX KX mg "check_lights" Tx.st_check_lights ["lights"] := by
      refine' Rx.defAt_mk KX G ?a ?l ?c ?k (fun _ _ _ _ _ _ us hl => match us, hl with | [_], _ => rfl)
      (case a => k_is); (case l => k_is); (case c => k_is); (case k => k_is)
    have d_check_count : Rx.DefAtX KX mg "check_count" Tx.st_check_count ["thing", "low", "high"] := by
      refine' Rx.defAt_mk KX G ?a ?l ?c ?k (fun _ _ _ _ _ _ us hl => match us, hl with | [_, _, _], _ => rfl)
      (case a => k_is); (case l => k_is); (case c => k_is); (case k => k_is)
    have d_check_turn : Rx.DefAtX KX mg "check_turn" Tx.st_check_turn ["turn"] := by
      refine' Rx.defAt_mk KX G ?a ?l ?c ?k (fun _ _ _ _ _ _ us hl => match us, hl with | [_], _ => rfl)
      (case a => k_is); (case l => k_is); (case c => k_is); (case k => k_is)
    have d_turned_lights : Rx.DefAtX KX mg "turned_lights" Tx.st_turned_lights ["lights", "turn"] := by
      refine' Rx.defAt_mk KX G ?a ?l ?c ?k (fun _ _ _ _ _ _ us hl => match us, hl with | [_, _], _ => rfl)
      (case a => k_is); (case l => k_is); (case c => k_is); (case k => k_is)
    have d_turned : Rx.DefAtX KX mg "turned" Tx.st_turned ["lights", "turn"] := by
      refine' Rx.defAt_mk KX G ?a ?l ?c ?k (fun _ _ _ _ _ _ us hl => match us, hl with | [_, _], _ => rfl)
      (case a => k_is); (case l => k_is); (case c => k_is); (case k => k_is)
    have d__law_row : Rx.DefAtX KX mg "_law_row" Tx.st__law_row ["_law_script"] := by
      refine' Rx.defAt_mk KX G ?a ?l ?c ?k (fun _ _ _ _ _ _ us hl => match us, hl with | [_], _ => rfl)
      (case a => k_is); (case l => k_is); (case c => k_is); (case k => k_is)
    have d__law_taken : Rx.DefAtX KX mg "_law_taken" Tx.st__law_taken ["_law_row_here", "_law_many"] := by
      refine' Rx.defAt_mk KX G ?a ?l ?c ?k (fun _ _ _ _ _ _ us hl => match us, hl with | [_, _], _ => rfl)
      (case a => k_is); (case l => k_is); (case c => k_is); (case k => k_is)
    have d__law_light : Rx.DefAtX KX mg "_law_light" Tx.st__law_light ["_law_row_here", "_law_wide"] := by
      refine' Rx.defAt_mk KX G ?a ?l ?c ?k (fun _ _ _ _ _ _ us hl => match us, hl with | [_, _], _ => rfl)
      (case a => k_is); (case l => k_is); (case c => k_is); (case k => k_is)
    have d__law_lights : Rx.DefAtX KX mg "_law_lights" Tx.st__law_lights ["_law_row_here", "_law_many", "_law_wide"] := by
      refine' Rx.defAt_mk KX G ?a ?l ?c ?k (fun _ _ _ _ _ _ us hl => match us, hl with | [_, _, _], _ => rfl)
      (case a => k_is); (case l => k_is); (case c => k_is); (case k => k_is)
    have d__law_alike : Rx.DefAtX KX mg "_law_alike" Tx.st__law_alike ["_law_found", "_law_due"] := by
      refine' Rx.defAt_mk KX G ?a ?l ?c ?k (fun _ _ _ _ _ _ us hl => match us, hl with | [_, _], _ => rfl)
      (case a => k_is); (case l => k_is); (case c => k_is); (case k => k_is)
    have d__law_word : Rx.DefAtX KX mg "_law_word" Tx.st__law_word ["_law_work"] := by
      refine' Rx.defAt_mk KX G ?a ?l ?c ?k (fun _ _ _ _ _ _ us hl => match us, hl with | [_], _ => rfl)
      (case a => k_is); (case l => k_is); (case c => k_is); (case k => k_is)
    have d__law_way : Rx.DefAtX KX mg "_law_way" Tx.st__law_way ["_law_number", "_law_x", "_law_y"] := by
      refine' Rx.defAt_mk KX G ?a ?l ?c ?k (fun _ _ _ _ _ _ us hl => match us, hl with | [_, _, _], _ => rfl)
      (case a => k_is); (case l => k_is); (case c => k_is); (case k => k_is)
    have errs := Rx.errs_of (sky := "SkyError") (cs := Tx.errs_) (fl := ["number", "done", "row"]) KX G (by kernel_rfl)
    have x_BadLights : Rx.Cls1X KX mg "BadLights" "BadLights.__init__" Tx.st_BadLights ["self", "number"] "number" := by
      refine' Rx.cls1_mk KX G ?a ?xL ?rv ?sa ?eC ?tC ?kC ?nf ?i ?tI ?l ?c ?k (fun _ _ _ _ _ _ us hl => match us, hl with | [_, _], _ => rfl)
      (case a => k_is); (case xL => k_is); (case rv => kernel_rfl); (case sa => k_is); (case eC => k_is); (case tC => k_is); (case kC => k_is); (case nf => k_is); (case i => k_is); (case tI => k_is); (case l => k_is); (case c => k_is); (case k => k_is)
    have b_SkyError := Rx.base_of (x := "SkyError") KX G (by kernel_rfl)
    have x_BadCount := Rx.cls0_of (x := "BadCount") KX G (by kernel_rfl)
    have g_MOST_LIGHTS := Rx.kat_of (x := "MOST_LIGHTS") (d := Tx.k_MOST_LIGHTS) KX G (by kernel_rfl)
    have g_LIGHT_BOUNDS := Rx.kat_of (x := "LIGHT_BOUNDS") (d := Tx.k_LIGHT_BOUNDS) KX G (by kernel_rfl)
    have g_TURNS := Rx.kat_of (x := "TURNS") (d := Tx.k_TURNS) KX G (by kernel_rfl)
    have M := Tx.Facts.mk n_ValueError n_all n_bool n_enumerate n_int n_isinstance n_len n_list n_range n_str n_tuple n_zip d_is_number d_are_numbers d_check_lights d_check_count d_check_turn d_turned_lights d_turned d__law_row d__law_taken d__law_light d__law_lights d__law_alike d__law_word d__law_way errs x_BadLights b_SkyError x_BadCount g_MOST_LIGHTS g_LIGHT_BOUNDS g_TURNS
    refine' Tx.law_end KX G hmg M ?a ?l ?cd (tab _ (List.mem_singleton.mpr rfl)) ?nT ?ch
    (case a => k_is); (case l => k_is); (case cd => k_is); (case nT => rfl); (case ch => kernel_rfl)
