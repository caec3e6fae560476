import PyProof.Rows.All
import Wide.All
import OpenK.AllK
import Wide.FinOn
import HandS.ForMost
import HandS.ForExc
import HandS.Lambda
import HandS.TupAny
import HandS.Deep
import HandS.Wide
import HandS.Zip
import HandS.Style
import KE.GoesMore
import KE.GoesEnum
import HandS.CallSlots
import HandS.TupMul
import HandS.IsInst
import HandS.FStr
import HandS.Small
import HandS.ExcInit
import KE.KExcIs
import HandS.ExcIs
import HandS.ExcField
import HandS.EndTab
import HandS.Conv
import HandS.SetFor
import HandS.SortRule
import KE.DataMinMax
import HandS.Defaults
import HandS.MakeKwOnly
import HandS.NoneIn
import KE.KTupSum
import HandS.More
import PySem.Challenge.RW_skypairs_k23_whole_wider_rules
set_option Elab.async false
set_option linter.all false
set_option maxRecDepth 100000
namespace Rx
open PySem PySem.Spec PyProof.Rows L2

/-! ### data -/
inductive D where
  | non | bl (b : Bool) | int (i : Int) | str (x : Str) | tup (ds : List D) | lst (ds : List D) | ref (k : Nat) | scr (ds : List D) | ktup (ds : List D)
/-- what stands at a handle -/
inductive MO where
  | dead | lst (ds : List D) | dic (kvs : List (List Key × D)) | dik (kvs : List (Key × D)) | ins (cls : Str) (fs : List (Str × D))
abbrev Mu := List MO
abbrev Sd := List (Option D)
/-- an exception: its class by name, its fields -/
structure Ex where
  cls : Str
  fs : List (Str × D)
inductive Res (α : Type) where
  | ok (a : α) (m : Mu) | exc (x : Ex) (m : Mu) | stuck
@[simp] def Res.bind {α β : Type} (r : Res α) (f : α → Mu → Res β) : Res β := match r with
  | .ok a m => f a m
  | .exc x m => .exc x m
  | .stuck => .stuck
inductive SRes where
  | nx (s : Sd) (m : Mu) | ret (d : D) (m : Mu) | bk (s : Sd) (m : Mu) | ct (s : Sd) (m : Mu) | exc (x : Ex) (s : Sd) (m : Mu) | stuck
abbrev SEx := Sd → Mu → Res D
abbrev SBl := Sd → Mu → Res Bool
abbrev SAr := Sd → Mu → Res (List D)
abbrev SSt := Sd → Mu → SRes
/-! ### the world: the part of the heap that never changes, the addresses of the handles -/
structure Wd where
  g : Hp
  r : List Addr
mutual
inductive Dat (K : PySem.W.Frag) (w : Wd) : V → D → Prop where
  | non : Dat K w .non .non
  | bl (b : Bool) : Dat K w (.bl b) (.bl b)
  | int (i : Int) : Dat K w (.int i) (.int i)
  | str (x : Str) : Dat K w (.str x) (.str x)
  | tup {a : Addr} {vs : List V} {ds : List D} (h : w.g a = some (.tup vs)) (r : DatL K w vs ds) : Dat K w (.ref a) (.tup ds)
  | ktup {a : Addr} {vs : List V} {ds : List D} (h : SqT K w.g a vs) (r : DatL K w vs ds) : Dat K w (.ref a) (.ktup ds)
  | lst {a : Addr} {vs : List V} {ds : List D} (h : w.g a = some (.lst vs)) (r : DatL K w vs ds) : Dat K w (.ref a) (.lst ds)
  | scr {a : Addr} {vs : List V} {ds : List D} (h : SqL K w.g a vs) (r : DatL K w vs ds) : Dat K w (.ref a) (.scr ds)
  | ref {a : Addr} {k : Nat} (h : w.r[k]? = some a) : Dat K w (.ref a) (.ref k)
inductive DatL (K : PySem.W.Frag) (w : Wd) : List V → List D → Prop where
  | nil : DatL K w [] []
  | cons {v : V} {d : D} {vs : List V} {ds : List D} (h : Dat K w v d) (r : DatL K w vs ds) : DatL K w (v :: vs) (d :: ds)
end
/-- a tuple -/
def tupOf : D → Option (List D)
  | .tup ds => some ds
  | .ktup ds => some ds
  | _ => none
/-- the keys' rows of a dict with tuple keys -/
inductive KvL (K : PySem.W.Frag) (w : Wd) : List (List Key × V) → List (List Key × D) → Prop where
  | nil : KvL K w [] []
  | cons {k : List Key} {v : V} {d : D} {vs ds} (h : Dat K w v d) (r : KvL K w vs ds) : KvL K w ((k, v) :: vs) ((k, d) :: ds)
/-- rows of a dict with keys that are ints and texts, of an instance's fields -/
inductive KiL {κ : Type} (K : PySem.W.Frag) (w : Wd) : List (κ × V) → List (κ × D) → Prop where
  | nil : KiL K w [] []
  | cons {k : κ} {v : V} {d : D} {vs ds} (h : Dat K w v d) (r : KiL K w vs ds) : KiL K w ((k, v) :: vs) ((k, d) :: ds)
/-- the class of that name -/
def gA (K : PySem.W.Frag) (x : Str) : Addr := match PySem.W.nsIn K mainGlobals x with
  | some (some (.ref a)) => a
  | _ => 0
/-- the world grows -/
structure Gr (w w' : Wd) : Prop where
  g : Same w.g w'.g
  r : ∃ more, w'.r = w.r ++ more
theorem Gr.refl (w : Wd) : Gr w w := ⟨Same.refl _, [], by simp⟩
theorem Gr.trans {a b c : Wd} (x : Gr a b) (y : Gr b c) : Gr a c := ⟨x.g.trans y.g, by
  obtain ⟨m, e⟩ := x.r
  obtain ⟨n, f⟩ := y.r
  exact ⟨m ++ n, by rw [f, e, List.append_assoc]⟩⟩
theorem Gr.get {w w' : Wd} (x : Gr w w') {k : Nat} {a : Addr} (h : w.r[k]? = some a) : w'.r[k]? = some a := by
  obtain ⟨m, e⟩ := x.r
  rw [e, List.getElem?_append_left]
  · exact h
  · exact (List.getElem?_eq_some_iff.mp h).1
theorem same_sqT {K : PySem.W.Frag} {H H' : Hp} {a : Addr} {xs : List V} (e : Same H H') (h : SqT K H a xs) : SqT K H' a xs := by
  rcases h with (h | ⟨o, h⟩) | h
  · exact .inl (.inl (e _ _ h))
  · exact .inl (.inr ⟨o, e _ _ h⟩)
  · exact .inr h
mutual
theorem Dat.mono {K : PySem.W.Frag} {w w' : Wd} (x : Gr w w') : ∀ {v d}, Dat K w v d → Dat K w' v d
  | _, _, .non => .non
  | _, _, .bl b => .bl b
  | _, _, .int b => .int b
  | _, _, .str b => .str b
  | _, _, .tup h r => .tup (x.g _ _ h) (DatL.mono x r)
  | _, _, .ktup h r => .ktup (same_sqT x.g h) (DatL.mono x r)
  | _, _, .lst h r => .lst (x.g _ _ h) (DatL.mono x r)
  | _, _, .scr h r => .scr (x.g.seq h) (DatL.mono x r)
  | _, _, .ref h => .ref (x.get h)
theorem DatL.mono {K : PySem.W.Frag} {w w' : Wd} (x : Gr w w') : ∀ {v d}, DatL K w v d → DatL K w' v d
  | _, _, .nil => .nil
  | _, _, .cons h r => .cons (Dat.mono x h) (DatL.mono x r)
end
theorem KvL.mono {K : PySem.W.Frag} {w w' : Wd} (x : Gr w w') : ∀ {v d}, KvL K w v d → KvL K w' v d
  | _, _, .nil => .nil
  | _, _, .cons h r => .cons (h.mono x) (KvL.mono x r)
theorem KiL.mono {κ : Type} {K : PySem.W.Frag} {w w' : Wd} (x : Gr w w') : ∀ {v d}, KiL (κ := κ) K w v d → KiL K w' v d
  | _, _, .nil => .nil
  | _, _, .cons h r => .cons (h.mono x) (KiL.mono x r)
theorem DatL.length {K : PySem.W.Frag} {w : Wd} : ∀ {vs ds}, DatL K w vs ds → vs.length = ds.length
  | _, _, .nil => rfl
  | _, _, .cons _ r => by rw [List.length_cons, List.length_cons, r.length]
theorem DatL.get {K : PySem.W.Frag} {w : Wd} : ∀ {vs ds} {i : Nat} {d : D}, DatL K w vs ds → ds[i]? = some d → ∃ v, vs[i]? = some v ∧ Dat K w v d
  | _, _, _, _, .nil, e => by simp at e
  | _, _, 0, _, .cons h r, e => by simp at e; subst e; exact ⟨_, rfl, h⟩
  | _, _, i + 1, d, .cons h r, e => by
    obtain ⟨v, e1, h1⟩ := DatL.get (i := i) (d := d) r (by simpa using e)
    exact ⟨v, by simpa using e1, h1⟩
theorem DatL.getv {K : PySem.W.Frag} {w : Wd} : ∀ {vs ds} {i : Nat} {v : V}, DatL K w vs ds → vs[i]? = some v → ∃ d, ds[i]? = some d ∧ Dat K w v d
  | _, _, _, _, .nil, e => by simp at e
  | _, _, 0, _, .cons h r, e => by simp at e; subst e; exact ⟨_, rfl, h⟩
  | _, _, i + 1, d, .cons h r, e => by
    obtain ⟨v, e1, h1⟩ := DatL.getv (i := i) (v := d) r (by simpa using e)
    exact ⟨v, by simpa using e1, h1⟩
theorem DatL.append {K : PySem.W.Frag} {w : Wd} : ∀ {vs ds us es}, DatL K w vs ds → DatL K w us es → DatL K w (vs ++ us) (ds ++ es)
  | _, _, _, _, .nil, s => s
  | _, _, _, _, .cons h r, s => .cons h (DatL.append r s)
theorem DatL.take {K : PySem.W.Frag} {w : Wd} : ∀ {vs ds} (n : Nat), DatL K w vs ds → DatL K w (vs.take n) (ds.take n)
  | _, _, 0, _ => .nil
  | _, _, _ + 1, .nil => .nil
  | _, _, n + 1, .cons h r => .cons h (DatL.take n r)
theorem DatL.drop {K : PySem.W.Frag} {w : Wd} : ∀ {vs ds} (n : Nat), DatL K w vs ds → DatL K w (vs.drop n) (ds.drop n)
  | _, _, 0, h => h
  | _, _, _ + 1, .nil => .nil
  | _, _, n + 1, .cons h r => DatL.drop n r
theorem DatL.set {K : PySem.W.Frag} {w : Wd} {v : V} {d : D} (h : Dat K w v d) : ∀ {vs ds} (i : Nat), DatL K w vs ds → DatL K w (vs.set i v) (ds.set i d)
  | _, _, _, .nil => .nil
  | _, _, 0, .cons _ r => .cons h r
  | _, _, i + 1, .cons h' r => .cons h' (DatL.set h i r)
theorem DatL.erase {K : PySem.W.Frag} {w : Wd} : ∀ {vs ds} (i : Nat), DatL K w vs ds → DatL K w (vs.eraseIdx i) (ds.eraseIdx i)
  | _, _, _, .nil => .nil
  | _, _, 0, .cons _ r => r
  | _, _, i + 1, .cons h' r => .cons h' (DatL.erase i r)
theorem DatL.dropLast {K : PySem.W.Frag} {w : Wd} {vs ds} (h : DatL K w vs ds) : DatL K w vs.dropLast ds.dropLast := by
  rw [List.dropLast_eq_take, List.dropLast_eq_take, h.length]
  exact h.take _
/-! ### the store and the heap -/
/-- what stands at a, told -/
def MOk (K : PySem.W.Frag) (w : Wd) (H : Hp) (a : Addr) : MO → Prop
  | .dead => True
  | .lst ds => ∃ vs, H a = some (.lst vs) ∧ DatL K w vs ds
  | .dic kvs => ∃ vs, H a = some (.dT vs) ∧ KvL K w vs kvs
  | .dik kvs => ∃ vs, H a = some (.dK vs) ∧ KiL K w vs kvs
  | .ins c fs => ∃ dx vs, H a = some (.ins (gA K c) dx vs) ∧ KiL K w vs fs
def MO.live : MO → Bool
  | .dead => false
  | _ => true
def Live (w : Wd) (m : Mu) (a : Addr) : Prop := ∃ (k : Nat) (o : MO), w.r[k]? = some a ∧ m[k]? = some o ∧ o.live = true
/-- what is told of the place where a text is run: its tables of code objects, the world at its entry -/
structure Tb where
  t : List (Addr × Str)
  w : Wd
def Told (T : Tb) (w : Wd) : Prop := Gr T.w w
theorem Told.mono {T : Tb} {w w' : Wd} (h : Told T w) (g : Gr w w') : Told T w' := Gr.trans h g
structure Rel (K : PySem.W.Frag) (T : Tb) (w : Wd) (m : Mu) (H : Hp) : Prop where
  sub : Same w.g H
  len : w.r.length = m.length
  obj : ∀ (k : Nat) (o : MO) (a : Addr), m[k]? = some o → w.r[k]? = some a → o.live = true → w.g a = none ∧ MOk K w H a o
  inj : ∀ (j k : Nat) (o u : MO) (a : Addr), m[j]? = some o → m[k]? = some u → o.live = true → u.live = true → w.r[j]? = some a → w.r[k]? = some a → j = k
  tab : LamX.Tabs T.t H
  nt : ∀ b ps, w.g b ≠ some (.tbl ps)
  tk : Told T w
/-- nothing stands there, or a table -/
def Free (H : Hp) (a : Addr) : Prop := ∀ o, H a = some o → ∃ ps, o = .tbl ps
theorem Free.no {H : Hp} {a : Addr} (h : H a = none) : Free H a := fun o e => by rw [h] at e; cases e
/-- no list stands there -/
def Free2 (H : Hp) (a : Addr) : Prop := ∀ o, H a = some o → ∀ vs, o ≠ .lst vs
theorem Free2.no {H : Hp} {a : Addr} (h : H a = none) : Free2 H a := fun o e => by rw [h] at e; cases e
/-- from one state to a later one -/
structure Tr (w : Wd) (m : Mu) (H : Hp) (w' : Wd) (m' : Mu) (H' : Hp) : Prop where
  gr : Gr w w'
  fr : ∀ b o, H b = some o → ¬ Live w m b → (∀ ps, o ≠ .tbl ps) → H' b = some o
  li : ∀ a, Live w' m' a → Live w m a ∨ Free H a
  gn : ∀ b o, w'.g b = some o → w.g b = some o ∨ Free2 H b ∨ Live w m b
theorem Tr.refl (w : Wd) (m : Mu) (H : Hp) : Tr w m H w m H := ⟨Gr.refl w, fun _ _ h _ _ => h, fun _ h => .inl h, fun b o h => .inl h⟩
theorem Rel.live_ne {K : PySem.W.Frag} {T} {w : Wd} {m : Mu} {H : Hp} (R : Rel K T w m H) {a : Addr} (h : Live w m a) : ∃ o, H a = some o ∧ ∀ ps, o ≠ .tbl ps := by
  obtain ⟨k, o, e1, e2, e3⟩ := h
  have q := (R.obj k o a e2 e1 e3).2
  cases o with
  | dead => cases e3
  | lst ds => obtain ⟨vs, h, _⟩ := q; exact ⟨_, h, fun ps z => by cases z⟩
  | dic kvs => obtain ⟨vs, h, _⟩ := q; exact ⟨_, h, fun ps z => by cases z⟩
  | dik kvs => obtain ⟨vs, h, _⟩ := q; exact ⟨_, h, fun ps z => by cases z⟩
  | ins c fs => obtain ⟨dx, vs, h, _⟩ := q; exact ⟨_, h, fun ps z => by cases z⟩
theorem Tr.back {w w1 : Wd} {m m1 : Mu} {H H1 : Hp} (x : Tr w m H w1 m1 H1) {a : Addr} (l : Free H1 a) : Live w m a ∨ Free H a := by
  by_cases h : Live w m a
  · exact .inl h
  · refine .inr fun o e => ?_
    by_cases t : ∃ ps, o = .tbl ps
    · exact t
    · exact l o (x.fr a o e h (fun ps z => t ⟨ps, z⟩))
theorem Tr.back2 {w w1 : Wd} {m m1 : Mu} {H H1 : Hp} (x : Tr w m H w1 m1 H1) {a : Addr} (l : Free2 H1 a) : Live w m a ∨ Free2 H a := by
  by_cases h : Live w m a
  · exact .inl h
  · refine .inr fun o e vs z => ?_
    subst z
    exact l _ (x.fr a _ e h (fun ps z => by cases z)) vs rfl
theorem Tr.trans {w w1 w2 : Wd} {m m1 m2 : Mu} {H H1 H2 : Hp} (x : Tr w m H w1 m1 H1) (y : Tr w1 m1 H1 w2 m2 H2) : Tr w m H w2 m2 H2 where
  gr := x.gr.trans y.gr
  fr := fun b o h n t => y.fr b o (x.fr b o h n t) (fun l => by
    rcases x.li b l with l | l
    · exact n l
    · obtain ⟨ps, e⟩ := l o h
      exact t ps e) t
  li := fun a l => by
    rcases y.li a l with l | l
    · exact x.li a l
    · exact x.back l
  gn := fun b o e => by
    rcases y.gn b o e with e | e | e
    · exact x.gn b o e
    · rcases x.back2 e with e | e
      · exact .inr (.inr e)
      · exact .inr (.inl e)
    · rcases x.li b e with e | e
      · exact .inr (.inr e)
      · exact .inr (.inl fun o h vs z => by
          obtain ⟨ps, e2⟩ := e o h
          rw [e2] at z
          cases z)
/-- the heap alone has grown -/
theorem Tr.grown {w : Wd} {m : Mu} {H H' : Hp} (s : Same H H') : Tr w m H w m H' := ⟨Gr.refl w, fun b o h _ _ => s b o h, fun _ h => .inl h, fun b o h => .inl h⟩
theorem MOk.same {K : PySem.W.Frag} {w w' : Wd} {H H' : Hp} {a : Addr} {o : MO} (g : Gr w w') (s : ∀ u, H a = some u → (∀ ps, u ≠ .tbl ps) → H' a = some u) (h : MOk K w H a o) : MOk K w' H' a o := by
  cases o with
  | dead => trivial
  | lst ds => obtain ⟨vs, e, r⟩ := h; exact ⟨vs, s _ e (fun ps z => by cases z), r.mono g⟩
  | dic ds => obtain ⟨vs, e, r⟩ := h; exact ⟨vs, s _ e (fun ps z => by cases z), r.mono g⟩
  | dik ds => obtain ⟨vs, e, r⟩ := h; exact ⟨vs, s _ e (fun ps z => by cases z), r.mono g⟩
  | ins c fs => obtain ⟨dx, vs, e, r⟩ := h; exact ⟨dx, vs, s _ e (fun ps z => by cases z), r.mono g⟩
theorem same_upd {H : Hp} {a : Addr} {o : HO} (h : H a = none) : Same H (upd H a o) := fun b u e => by rw [upd_ne (ne_of_none e h)]; exact e
section
variable {K : PySem.W.Frag} {T : Tb} {w : Wd} {m : Mu} {H H' : Hp}
/-- a new thing that never changes -/
theorem Rel.frozen (R : Rel K T w m H) {p : Addr} {o : HO} (h : H p = none) (no : ∀ ps, o ≠ .tbl ps := by intro ps z; cases z) : Rel K T ⟨upd w.g p o, w.r⟩ m (upd H p o) ∧ Tr w m H ⟨upd w.g p o, w.r⟩ m (upd H p o) := by
  have hg : w.g p = none := by
    cases e : w.g p with
    | none => rfl
    | some u => rw [R.sub p u e] at h; cases h
  have G : Gr w ⟨upd w.g p o, w.r⟩ := ⟨same_upd hg, [], by simp⟩
  refine ⟨⟨fun b u e => ?_, R.len, fun k u a e1 e2 e3 => ?_, R.inj, R.tab.ext (same_upd h), fun b ps e => ?_, R.tk.mono G⟩, ⟨G, fun b u e _ _ => same_upd h b u e, fun a l => .inl l, fun b u e => ?_⟩⟩
  · by_cases hb : b = p
    · subst hb
      have e' : upd w.g b o b = some u := e
      rw [upd_same] at e' ⊢
      exact e'
    · have e' : upd w.g p o b = some u := e
      rw [upd_ne hb] at e' ⊢
      exact R.sub b u e'
  · obtain ⟨q1, q2⟩ := R.obj k u a e1 e2 e3
    obtain ⟨z, hz, _⟩ := R.live_ne ⟨k, u, e2, e1, e3⟩
    have ne : a ≠ p := ne_of_none hz h
    exact ⟨by show upd w.g p o a = none; rw [upd_ne ne]; exact q1, q2.same G fun z hz _ => by rw [upd_ne ne]; exact hz⟩
  · have e' : upd w.g p o b = some (.tbl ps) := e
    by_cases hb : b = p
    · subst hb
      rw [upd_same] at e'
      exact no ps (Option.some.inj e')
    · rw [upd_ne hb] at e'
      exact R.nt b ps e'
  · have e' : upd w.g p o b = some u := e
    by_cases hb : b = p
    · exact .inr (.inl (by rw [hb]; exact .no h))
    · rw [upd_ne hb] at e'
      exact .inl e'
/-- a new thing that may change -/
theorem Rel.fresh (R : Rel K T w m H) {p : Addr} {o : HO} {u : MO} (h : H p = none) (ul : u.live = true) (hm : ∀ w', Gr w w' → MOk K w' (upd H p o) p u) :
    Rel K T ⟨w.g, w.r ++ [p]⟩ (m ++ [u]) (upd H p o) ∧ Tr w m H ⟨w.g, w.r ++ [p]⟩ (m ++ [u]) (upd H p o) := by
  have hg : w.g p = none := by
    cases e : w.g p with
    | none => rfl
    | some u => rw [R.sub p u e] at h; cases h
  have G : Gr w ⟨w.g, w.r ++ [p]⟩ := ⟨Same.refl _, [p], rfl⟩
  have len := R.len
  have old : ∀ (k : Nat) (a : Addr), k < m.length → (w.r ++ [p])[k]? = some a → w.r[k]? = some a := fun k a hk e => by
    rwa [List.getElem?_append_left (by omega)] at e
  have oldm : ∀ (k : Nat) (o : MO), k < m.length → (m ++ [u])[k]? = some o → m[k]? = some o := fun k a hk e => by
    rwa [List.getElem?_append_left (by omega)] at e
  have cs : ∀ (k : Nat) (o : MO), (m ++ [u])[k]? = some o → k < m.length ∨ (k = m.length ∧ o = u) := fun k o e => by
    by_cases hk : k < m.length
    · exact .inl hk
    · rw [List.getElem?_append_right (by omega)] at e
      have hk' := (List.getElem?_eq_some_iff.mp e).1
      have e0 : k = m.length := by simp at hk'; omega
      subst e0
      simp at e
      exact .inr ⟨rfl, e.symm⟩
  have last : ∀ a, (w.r ++ [p])[m.length]? = some a → a = p := fun a e => by
    rw [← len] at e
    simp at e
    exact e.symm
  have nl : ∀ (k : Nat) (o : MO) (a : Addr), m[k]? = some o → w.r[k]? = some a → o.live = true → a ≠ p := fun k o a e1 e2 e3 => by
    obtain ⟨z, hz, _⟩ := R.live_ne ⟨k, o, e2, e1, e3⟩
    exact ne_of_none hz h
  refine ⟨⟨fun b v e => same_upd h b v (R.sub b v e), by simp [len], fun k o' a e1 e2 e3 => ?_, fun j k o' v a e1 e2 e3 e4 e5 e6 => ?_, R.tab.ext (same_upd h), R.nt, R.tk.mono G⟩,
    ⟨G, fun b v e _ _ => same_upd h b v e, fun a l => ?_, fun b o e => .inl e⟩⟩
  · rcases cs k o' e1 with hk | ⟨rfl, rfl⟩
    · obtain ⟨q1, q2⟩ := R.obj k o' a (oldm k o' hk e1) (old k a hk e2) e3
      have ne := nl k o' a (oldm k o' hk e1) (old k a hk e2) e3
      exact ⟨q1, q2.same G fun z hz _ => by rw [upd_ne ne]; exact hz⟩
    · have e := last a e2
      subst e
      exact ⟨hg, hm _ G⟩
  · rcases cs j o' e1 with hj | ⟨rfl, rfl⟩
    · rcases cs k v e2 with hk | ⟨rfl, rfl⟩
      · exact R.inj j k o' v a (oldm j o' hj e1) (oldm k v hk e2) e3 e4 (old j a hj e5) (old k a hk e6)
      · exact absurd (last a e6) (nl j o' a (oldm j o' hj e1) (old j a hj e5) e3)
    · rcases cs k v e2 with hk | ⟨rfl, rfl⟩
      · exact absurd (last a e5) (nl k v a (oldm k v hk e2) (old k a hk e6) e4)
      · rfl
  · obtain ⟨k, o', e1, e2, e3⟩ := l
    rcases cs k o' e2 with hk | ⟨rfl, rfl⟩
    · exact .inl ⟨k, o', old k a hk e1, oldm k o' hk e2, e3⟩
    · have e := last a e1
      subst e
      exact .inr (.no h)
/-- the thing at a handle is written -/
theorem Rel.write (R : Rel K T w m H) {k : Nat} {p : Addr} {u0 u : MO} {o : HO} (e1 : m[k]? = some u0) (e2 : w.r[k]? = some p) (l0 : u0.live = true) (ul : u.live = true) (hm : MOk K w (upd H p o) p u) :
    Rel K T w (m.set k u) (upd H p o) ∧ Tr w m H w (m.set k u) (upd H p o) := by
  obtain ⟨hg, q0⟩ := R.obj k u0 p e1 e2 l0
  obtain ⟨o0, ho0, nt0⟩ := R.live_ne ⟨k, u0, e2, e1, l0⟩
  have km : k < m.length := (List.getElem?_eq_some_iff.mp e1).1
  have at_ : ∀ (j : Nat) (v : MO), (m.set k u)[j]? = some v → (j = k ∧ v = u) ∨ (j ≠ k ∧ m[j]? = some v) := fun j v e => by
    by_cases hj : j = k
    · subst hj
      rw [List.getElem?_set_self km] at e
      exact .inl ⟨rfl, (Option.some.inj e).symm⟩
    · rw [List.getElem?_set_ne (Ne.symm hj)] at e
      exact .inr ⟨hj, e⟩
  have back : ∀ (j : Nat) (v : MO), (m.set k u)[j]? = some v → v.live = true → ∃ v', m[j]? = some v' ∧ v'.live = true := fun j v e l => by
    rcases at_ j v e with ⟨rfl, rfl⟩ | ⟨_, e⟩
    · exact ⟨u0, e1, l0⟩
    · exact ⟨v, e, l⟩
  have ntab : ∀ b ps, H b = some (.tbl ps) → b ≠ p := fun b ps e z => by
    subst z
    rw [ho0] at e
    exact nt0 ps (Option.some.inj e)
  refine ⟨⟨fun b v e => ?_, by simp [R.len], fun j v a f1 f2 f3 => ?_, fun i j v v' a f1 f2 f3 f4 f5 f6 => ?_, fun q hq => ?_, R.nt, R.tk⟩, ⟨Gr.refl w, fun b v e n _ => ?_, fun a l => ?_, fun b o e => .inl e⟩⟩
  · have ne : b ≠ p := fun z => by subst z; rw [hg] at e; cases e
    rw [upd_ne ne]
    exact R.sub b v e
  · rcases at_ j v f1 with ⟨rfl, rfl⟩ | ⟨nj, f1⟩
    · rw [e2] at f2
      cases f2
      exact ⟨hg, hm⟩
    · obtain ⟨q1, q2⟩ := R.obj j v a f1 f2 f3
      have ne : a ≠ p := fun z => by subst z; exact nj (R.inj j k v u0 a f1 e1 f3 l0 f2 e2)
      exact ⟨q1, q2.same (Gr.refl w) fun z hz _ => by rw [upd_ne ne]; exact hz⟩
  · obtain ⟨v1, g1, l1⟩ := back i v f1 f3
    obtain ⟨v2, g2, l2⟩ := back j v' f2 f4
    exact R.inj i j v1 v2 a g1 g2 l1 l2 f5 f6
  · obtain ⟨ps, a1, a2, a3⟩ := R.tab q hq
    refine ⟨ps, by rw [upd_ne (ntab _ ps a1)]; exact a1, a2, fun pos cv hcv => ?_⟩
    obtain ⟨c0, b1, b2⟩ := a3 pos cv hcv
    refine ⟨c0, b1, ?_⟩
    rw [upd_ne]
    · exact b2
    · intro z
      subst z
      rw [b2] at ho0
      cases ho0
      cases u0 with
      | dead => cases l0
      | lst ds => obtain ⟨vs, h, _⟩ := q0; rw [b2] at h; unfold LamX.CodeO at h; cases h
      | dic ds => obtain ⟨vs, h, _⟩ := q0; rw [b2] at h; unfold LamX.CodeO at h; cases h
      | dik ds => obtain ⟨vs, h, _⟩ := q0; rw [b2] at h; unfold LamX.CodeO at h; cases h
      | ins c fs => obtain ⟨dx, vs, h, _⟩ := q0; rw [b2] at h; unfold LamX.CodeO at h; cases h
  · have ne : b ≠ p := fun z => by subst z; exact n ⟨k, u0, e2, e1, l0⟩
    rw [upd_ne ne]
    exact e
  · obtain ⟨j, v, f1, f2, f3⟩ := l
    obtain ⟨v', g1, g2⟩ := back j v f2 f3
    exact .inl ⟨j, v', f1, g1, g2⟩
/-- the list at a handle is never changed any more -/
theorem Rel.freeze (R : Rel K T w m H) {k : Nat} {p : Addr} {ds : List D} (e1 : m[k]? = some (.lst ds)) (e2 : w.r[k]? = some p) :
    ∃ w', Rel K T w' (m.set k .dead) H ∧ Tr w m H w' (m.set k .dead) H ∧ Dat K w' (.ref p) (.lst ds) := by
  obtain ⟨hg, vs, hv, dv⟩ := R.obj k _ p e1 e2 rfl
  have km : k < m.length := (List.getElem?_eq_some_iff.mp e1).1
  have G : Gr w ⟨upd w.g p (.lst vs), w.r⟩ := ⟨same_upd hg, [], by simp⟩
  have at_ : ∀ (j : Nat) (v : MO), (m.set k .dead)[j]? = some v → v.live = true → j ≠ k ∧ m[j]? = some v := fun j v e l => by
    by_cases hj : j = k
    · subst hj
      rw [List.getElem?_set_self km] at e
      cases e
      cases l
    · rw [List.getElem?_set_ne (Ne.symm hj)] at e
      exact ⟨hj, e⟩
  refine ⟨⟨upd w.g p (.lst vs), w.r⟩, ⟨fun b v e => ?_, by simp [R.len], fun j v a f1 f2 f3 => ?_, fun i j v v' a f1 f2 f3 f4 f5 f6 => ?_, R.tab, fun b ps e => ?_, R.tk.mono G⟩, ⟨G, fun b v e n _ => e, fun a l => ?_, fun b v e => ?_⟩, .lst upd_same (dv.mono G)⟩
  · have e' : upd w.g p (.lst vs) b = some v := e
    by_cases hb : b = p
    · subst hb
      rw [upd_same] at e'
      rw [hv]; exact e'
    · rw [upd_ne hb] at e'
      exact R.sub b v e'
  · obtain ⟨nj, f1⟩ := at_ j v f1 f3
    obtain ⟨q1, q2⟩ := R.obj j v a f1 f2 f3
    have ne : a ≠ p := fun z => by subst z; exact nj (R.inj j k v _ a f1 e1 f3 rfl f2 e2)
    exact ⟨by show upd w.g p (.lst vs) a = none; rw [upd_ne ne]; exact q1, q2.same G fun z hz _ => hz⟩
  · obtain ⟨_, g1⟩ := at_ i v f1 f3
    obtain ⟨_, g2⟩ := at_ j v' f2 f4
    exact R.inj i j v v' a g1 g2 f3 f4 f5 f6
  · have e' : upd w.g p (.lst vs) b = some (.tbl ps) := e
    by_cases hb : b = p
    · subst hb
      rw [upd_same] at e'
      cases e'
    · rw [upd_ne hb] at e'
      exact R.nt b ps e'
  · obtain ⟨j, v, f1, f2, f3⟩ := l
    obtain ⟨_, g1⟩ := at_ j v f2 f3
    exact .inl ⟨j, v, f1, g1, f3⟩
  · have e' : upd w.g p (.lst vs) b = some v := e
    by_cases hb : b = p
    · exact .inr (.inr (by rw [hb]; exact ⟨k, _, e2, e1, rfl⟩))
    · rw [upd_ne hb] at e'
      exact .inl e'
/-- a code object is made, or found -/
theorem Rel.extN (R : Rel K T w m H) (e : LamX.ExtN H H') (t : LamX.Tabs T.t H') : Rel K T w m H' :=
  ⟨fun b o h => e b o (R.sub b o h) fun ps z => R.nt b ps (by rw [h, z]), R.len, fun k o a e1 e2 e3 => ⟨(R.obj k o a e1 e2 e3).1, (R.obj k o a e1 e2 e3).2.same (Gr.refl w) fun u hu hn => e _ _ hu hn⟩, R.inj, t, R.nt, R.tk⟩
theorem Tr.extN (e : LamX.ExtN H H') : Tr w m H w m H' := ⟨Gr.refl w, fun b o h _ n => e b o h n, fun _ h => .inl h, fun b o h => .inl h⟩
/-- told of another place -/
theorem Rel.at_ {T' : Tb} (R : Rel K T w m H) (e : T'.t = T.t) (h : Gr T'.w w) : Rel K T' w m H := ⟨R.sub, R.len, R.obj, R.inj, by rw [e]; exact R.tab, R.nt, h⟩
/-- a handle for an address that is not told -/
theorem Rel.nail (R : Rel K T w m H) (a : Addr) : Rel K T ⟨w.g, w.r ++ [a]⟩ (m ++ [.dead]) H ∧ Tr w m H ⟨w.g, w.r ++ [a]⟩ (m ++ [.dead]) H := by
  have G : Gr w ⟨w.g, w.r ++ [a]⟩ := ⟨Same.refl _, [a], rfl⟩
  have len := R.len
  have cs : ∀ (k : Nat) (o : MO) (b : Addr), (m ++ [MO.dead])[k]? = some o → o.live = true → (w.r ++ [a])[k]? = some b → m[k]? = some o ∧ w.r[k]? = some b := fun k o b e l f => by
    by_cases hk : k < m.length
    · rw [List.getElem?_append_left hk] at e
      rw [List.getElem?_append_left (by omega)] at f
      exact ⟨e, f⟩
    · rw [List.getElem?_append_right (by omega)] at e
      have hk' := (List.getElem?_eq_some_iff.mp e).1
      have e0 : k = m.length := by simp at hk'; omega
      subst e0
      simp at e
      subst e
      cases l
  refine ⟨⟨R.sub, by simp [len], fun k o b e1 e2 e3 => ?_, fun j k o u b e1 e2 e3 e4 e5 e6 => ?_, R.tab, R.nt, R.tk.mono G⟩, ⟨G, fun b o h _ _ => h, fun b l => ?_, fun b o h => .inl h⟩⟩
  · obtain ⟨f1, f2⟩ := cs k o b e1 e3 e2
    exact ⟨(R.obj k o b f1 f2 e3).1, (R.obj k o b f1 f2 e3).2.same G fun u hu _ => hu⟩
  · obtain ⟨f1, f2⟩ := cs j o b e1 e3 e5
    obtain ⟨f3, f4⟩ := cs k u b e2 e4 e6
    exact R.inj j k o u b f1 f3 e3 e4 f2 f4
  · obtain ⟨k, o, e1, e2, e3⟩ := l
    obtain ⟨f1, f2⟩ := cs k o b e2 e3 e1
    exact .inl ⟨k, o, f2, f1, e3⟩
/-- a thing that stands for good -/
theorem Rel.know (R : Rel K T w m H) {p : Addr} {o : HO} (h : H p = some o) (n1 : ∀ ps, o ≠ .tbl ps := by intro ps z; cases z) (n2 : ∀ ps, o ≠ .lst ps := by intro ps z; cases z) (n3 : ∀ ps, o ≠ .dT ps := by intro ps z; cases z) (n4 : ∀ ps, o ≠ .dK ps := by intro ps z; cases z) (n5 : ∀ C dx ps, o ≠ .ins C dx ps := by intro C dx ps z; cases z) : ∃ w', Gr w w' ∧ w'.r = w.r ∧ w'.g p = some o ∧ Rel K T w' m H ∧ Tr w m H w' m H := by
  cases e : w.g p with
  | some o' =>
    have e2 := R.sub p o' e
    rw [h] at e2
    obtain rfl := Option.some.inj e2
    exact ⟨w, Gr.refl w, rfl, e, R, Tr.refl _ _ _⟩
  | none =>
    have G : Gr w ⟨upd w.g p o, w.r⟩ := ⟨same_upd e, [], by simp⟩
    refine ⟨⟨upd w.g p o, w.r⟩, G, rfl, upd_same, ⟨fun b u e' => ?_, R.len, fun k u a e1 e2 e3 => ?_, R.inj, R.tab, fun b ps e' => ?_, R.tk.mono G⟩, ⟨G, fun b u h _ _ => h, fun b l => .inl l, fun b u e' => ?_⟩⟩
    · have e' : upd w.g p o b = some u := e'
      by_cases hb : b = p
      · subst hb; rw [upd_same] at e'; rw [h]; exact e'
      · rw [upd_ne hb] at e'; exact R.sub b u e'
    · obtain ⟨q1, q2⟩ := R.obj k u a e1 e2 e3
      have ne : a ≠ p := fun z => by
        subst z
        cases u with
        | dead => cases e3
        | lst ds => obtain ⟨vs', z, _⟩ := q2; rw [h] at z; exact n2 _ (Option.some.inj z)
        | dic ds => obtain ⟨vs', z, _⟩ := q2; rw [h] at z; exact n3 _ (Option.some.inj z)
        | dik ds => obtain ⟨vs', z, _⟩ := q2; rw [h] at z; exact n4 _ (Option.some.inj z)
        | ins c fs => obtain ⟨dx, vs', z, _⟩ := q2; rw [h] at z; exact n5 _ _ _ (Option.some.inj z)
      exact ⟨by show upd w.g p o a = none; rw [upd_ne ne]; exact q1, q2.same G fun z hz _ => hz⟩
    · have e' : upd w.g p o b = some (.tbl ps) := e'
      by_cases hb : b = p
      · subst hb; rw [upd_same] at e'; exact n1 _ (Option.some.inj e')
      · rw [upd_ne hb] at e'; exact R.nt b ps e'
    · have e' : upd w.g p o b = some u := e'
      by_cases hb : b = p
      · subst hb
        refine .inr (.inl fun o' ho vs z => ?_)
        rw [h] at ho
        exact n2 vs ((Option.some.inj ho).trans z)
      · rw [upd_ne hb] at e'; exact .inl e'
end
end Rx
set_option Elab.async false
set_option linter.all false
set_option maxRecDepth 100000
namespace Rx
open PySem PySem.Spec PyProof.Rows L2

/-! ### readings -/
def XRel (K : PySem.W.Frag) (mg : Str → Option Value) (w : Wd) (H : Hp) (cls : Value) (dd : Option Addr) (x : Ex) : Prop :=
  (∃ C, mg x.cls = some (.ref C) ∧ cls = .ref C) ∧ ((dd = none ∧ x.fs = []) ∨ ∃ a vs, dd = some a ∧ H a = some (.xd vs) ∧ ∀ f d, x.fs.lookup f = some d → ∃ v, vs.lookup f = some v ∧ Dat K w v d)
def Then {α : Type} (K : PySem.W.Frag) (mg : Str → Option Value) (T : Tb) (W : WX) (w : Wd) (m : Mu) (H : Hp) (σ : L2.St) (r : Res α) (k : α → Mu → Wd → Hp → Prop) : Prop := match r with
  | .ok a m' => ∀ w' H', Tr w m H w' m' H' → Rel K T w' m' H' → k a m' w' H'
  | .exc x m' => ∀ w' H' cls dd, Tr w m H w' m' H' → Rel K T w' m' H' → XRel K mg w' H' cls dd x → W cls dd σ H'
  | .stuck => False
def Slots (K : PySem.W.Frag) (w : Wd) (σ : L2.St) (s : Sd) : Prop := σ.length = s.length ∧ ∀ (i : Nat) (d : D), s[i]? = some (some d) → ∃ v, σ[i]? = some (some v) ∧ Dat K w v d
def rdE (K : PySem.W.Frag) (mg : Str → Option Value) (T : Tb) (W : WX) (f : SEx) : TE := fun σ H Q => ∃ w s m, Rel K T w m H ∧ Slots K w σ s ∧ Then K mg T W w m H σ (f s m) fun d _ w' H' => ∀ v, Dat K w' v d → Q v H'
def rdB (K : PySem.W.Frag) (mg : Str → Option Value) (T : Tb) (W : WX) (f : SBl) : TT := fun σ H Q => ∃ w s m, Rel K T w m H ∧ Slots K w σ s ∧ Then K mg T W w m H σ (f s m) fun b _ _ H' => Q b H'
def rdA (K : PySem.W.Frag) (mg : Str → Option Value) (T : Tb) (W : WX) (f : SAr) : TA := fun σ H Q => ∃ w s m, Rel K T w m H ∧ Slots K w σ s ∧ Then K mg T W w m H σ (f s m) fun ds _ w' H' => ∀ vs, DatL K w' vs ds → Q vs H'
theorem Slots.mono {K : PySem.W.Frag} {w w' : Wd} {σ : L2.St} {s : Sd} (h : Slots K w σ s) (g : Gr w w') : Slots K w' σ s := ⟨h.1, fun i d e => by
  obtain ⟨v, e1, e2⟩ := h.2 i d e
  exact ⟨v, e1, e2.mono g⟩⟩
theorem Slots.set {K : PySem.W.Frag} {w : Wd} {σ : L2.St} {s : Sd} (h : Slots K w σ s) (i : Nat) {v : V} {d : D} (r : Dat K w v d) : Slots K w (σ.set i (some v)) (s.set i (some d)) := ⟨by simp [h.1], fun j e q => by
  by_cases hj : j = i
  · subst hj
    have hl : j < (s.set j (some d)).length := (List.getElem?_eq_some_iff.mp q).1
    have hl' : j < s.length := by simpa using hl
    rw [List.getElem?_set_self hl'] at q
    cases q
    exact ⟨v, by rw [List.getElem?_set_self (by rw [h.1]; exact hl')], r⟩
  · rw [List.getElem?_set_ne (Ne.symm hj)] at q
    obtain ⟨u, e1, e2⟩ := h.2 j e q
    exact ⟨u, by rw [List.getElem?_set_ne (Ne.symm hj)]; exact e1, e2⟩⟩
section
variable {X : Cx} {K : PySem.W.Frag} {mg : Str → Option Value} {T : Tb} {W : WX} {w w1 : Wd} {m m1 : Mu} {H H1 : Hp} {σ : L2.St}
theorem XRel.to {w' : Wd} {H' : Hp} {cls dd x} (h : XRel K mg w H cls dd x) (g : Gr w w') (s : ∀ a vs, H a = some (.xd vs) → H' a = some (.xd vs)) : XRel K mg w' H' cls dd x := ⟨h.1, by
  rcases h.2 with h | ⟨a, vs, e2, e3, h⟩
  · exact .inl h
  · refine .inr ⟨a, vs, e2, s _ _ e3, fun f d e1 => ?_⟩
    obtain ⟨v, e4, e5⟩ := h f d e1
    exact ⟨v, e4, e5.mono g⟩⟩
theorem Then.from_ {α : Type} {r : Res α} {k : α → Mu → Wd → Hp → Prop} (h : Then K mg T W w m H σ r k) (t : Tr w m H w1 m1 H1) : Then K mg T W w1 m1 H1 σ r k := by
  cases r with
  | ok a m' => exact fun w' H' t' R => h w' H' (t.trans t') R
  | exc x m' => exact fun w' H' cls dd t' R => h w' H' cls dd (t.trans t') R
  | stuck => exact h
theorem Then.mono {α : Type} {r : Res α} {k k' : α → Mu → Wd → Hp → Prop} (h : Then K mg T W w m H σ r k) (i : ∀ a m' w' H', Tr w m H w' m' H' → Rel K T w' m' H' → k a m' w' H' → k' a m' w' H') : Then K mg T W w m H σ r k' := by
  cases r with
  | ok a m' => exact fun w' H' t' R => i a m' w' H' t' R (h w' H' t' R)
  | exc x m' => exact h
  | stuck => exact h
theorem Then.bind {α β : Type} {r : Res α} {f : α → Mu → Res β} {k : β → Mu → Wd → Hp → Prop} (h : Then K mg T W w m H σ (r.bind f) k) :
    Then K mg T W w m H σ r fun a m' w' H' => Then K mg T W w' m' H' σ (f a m') k := by
  cases r with
  | ok a m' => exact fun w' H' t' R => Then.from_ h t'
  | exc x m' => exact h
  | stuck => exact h
theorem Then.now {α : Type} {a : α} {k : α → Mu → Wd → Hp → Prop} (h : Then K mg T W w m H σ (.ok a m) k) (R : Rel K T w m H) : k a m w H := h w H (Tr.refl w m H) R
/-- an equal reading -/
theorem _root_.L2.PE.imp {e : Expr} {t t' : TE} (h : PE X e t) (i : ∀ σ H Q, t' σ H Q → t σ H Q) : PE X e t' := ⟨fun pins s σ H Q I q => h.run pins s σ H Q I (i σ H Q q)⟩
theorem _root_.L2.PT.imp {e : Expr} {t t' : TT} (h : PT X e t) (i : ∀ σ H Q, t' σ H Q → t σ H Q) : PT X e t' := ⟨fun pins s σ H Q I q => h.run pins s σ H Q I (i σ H Q q)⟩
theorem _root_.L2.PW.imp {e : Expr} {t t' : TT} (h : PW X e t) (i : ∀ σ H Q, t' σ H Q → t σ H Q) : PW X e t' := ⟨fun wh pins s σ H Q I q => h.run wh pins s σ H Q I (i σ H Q q)⟩
theorem _root_.L2.PA.imp {e : List Expr} {t t' : TA} (h : PA X e t) (i : ∀ σ H Q, t' σ H Q → t σ H Q) : PA X e t' := ⟨fun pos pins s σ H Q I q => h.run pos pins s σ H Q I (i σ H Q q)⟩
end
/-! ### names, constants -/
def sVar (i : Nat) : SEx := fun s m => match s[i]? with
  | some (some d) => .ok d m
  | _ => .stuck
def sC (d : D) : SEx := fun _ m => .ok d m
def s2 (g : D → D → Mu → Res D) (a b : SEx) : SEx := fun s m => (a s m).bind fun x m => (b s m).bind fun y m => g x y m
def s1 (g : D → Mu → Res D) (a : SEx) : SEx := fun s m => (a s m).bind fun x m => g x m
def aNil : SAr := fun _ m => .ok [] m
def aCons (a : SEx) (r : SAr) : SAr := fun s m => (a s m).bind fun x m => (r s m).bind fun xs m => .ok (x :: xs) m
def sTup (a : SAr) : SEx := fun s m => (a s m).bind fun ds m => if ds.length ≤ 1000 then .ok (.tup ds) m else .stuck
def sLst (a : SAr) : SEx := fun s m => (a s m).bind fun ds m => if ds.length ≤ 1000 then .ok (.lst ds) m else .stuck
def sNew (a : SAr) : SEx := fun s m => (a s m).bind fun ds m => if ds.length ≤ 1000 then .ok (.ref m.length) (m ++ [.lst ds]) else .stuck
section
variable {X : Cx} {T : Tb} {W : WX} {pos : Pos}
theorem re_var {i : Nat} {x : Str} (h : PE X (.Name x pos) (tVar i)) : PE X (.Name x pos) (rdE X.K X.mg T W (sVar i)) := by
  refine h.imp fun σ H Q ⟨w, s, m, R, S, t⟩ => ?_
  unfold sVar at t
  split at t
  · rename_i d hd
    obtain ⟨v, e1, e2⟩ := S.2 i d hd
    exact ⟨v, e1, t.now R v e2⟩
  · exact t.elim
theorem re_c {e : Expr} {v : V} {d : D} (h : PE X e (tC v)) (r : ∀ w, Dat X.K w v d) : PE X e (rdE X.K X.mg T W (sC d)) :=
  h.imp fun σ H Q ⟨w, s, m, R, S, t⟩ => Then.now (K := X.K) (mg := X.mg) (T := T) (W := W) (σ := σ) t R v (r w)
theorem re_two {a b e : Expr} {r : R2} {f1 f2 : SEx} {g : D → D → Mu → Res D} (h : PE X a (rdE X.K X.mg T W f1) → PE X b (rdE X.K X.mg T W f2) → PE X e (tOp r (rdE X.K X.mg T W f1) (rdE X.K X.mg T W f2))) (ha : PE X a (rdE X.K X.mg T W f1)) (hb : PE X b (rdE X.K X.mg T W f2))
    (hr : ∀ (w : Wd) (m : Mu) (H : Hp) (σ : L2.St) (x y : D) (u v : V) (Q : VK), Rel X.K T w m H → Dat X.K w u x → Dat X.K w v y → Then X.K X.mg T W w m H σ (g x y m) (fun d _ w' H' => ∀ v, Dat X.K w' v d → Q v H') → r u v H Q) : PE X e (rdE X.K X.mg T W (s2 g f1 f2)) := by
  refine (h ha hb).imp fun σ H Q ⟨w, s, m, R, S, t⟩ => ?_
  refine ⟨w, s, m, R, S, (Then.bind t).mono fun x m1 w1 H1 t1 R1 t u hu => ?_⟩
  refine ⟨w1, s, m1, R1, S.mono t1.gr, (Then.bind t).mono fun y m2 w2 H2 t2 R2 t v hv => ?_⟩
  exact hr w2 m2 H2 σ x y u v Q R2 (hu.mono t2.gr) hv t
theorem re_one {a e : Expr} {r : V → Hp → VK → Prop} {f1 : SEx} {g : D → Mu → Res D} (h : PE X a (rdE X.K X.mg T W f1) → PE X e (fun σ H Q => rdE X.K X.mg T W f1 σ H fun x H1 => r x H1 Q)) (ha : PE X a (rdE X.K X.mg T W f1))
    (hr : ∀ (w : Wd) (m : Mu) (H : Hp) (σ : L2.St) (x : D) (u : V) (Q : VK), Rel X.K T w m H → Dat X.K w u x → Then X.K X.mg T W w m H σ (g x m) (fun d _ w' H' => ∀ v, Dat X.K w' v d → Q v H') → r u H Q) : PE X e (rdE X.K X.mg T W (s1 g f1)) := by
  refine (h ha).imp fun σ H Q ⟨w, s, m, R, S, t⟩ => ?_
  exact ⟨w, s, m, R, S, (Then.bind t).mono fun x m1 w1 H1 t1 R1 t u hu => hr w1 m1 H1 σ x u Q R1 hu t⟩
theorem ra_nil : PA X [] (rdA X.K X.mg T W aNil) := pa_nil.imp fun σ H Q ⟨w, s, m, R, S, t⟩ => Then.now (K := X.K) (mg := X.mg) (T := T) (W := W) (σ := σ) t R [] .nil
theorem ra_cons {e : Expr} {es : List Expr} {f : SEx} {r : SAr} (ha : PE X e (rdE X.K X.mg T W f)) (hr : PA X es (rdA X.K X.mg T W r)) (hs : starEach (e :: es) X.env = (false, eval e X.env) :: starEach es X.env := by rfl) : PA X (e :: es) (rdA X.K X.mg T W (aCons f r)) := by
  refine (pa_cons ha hr hs).imp fun σ H Q ⟨w, s, m, R, S, t⟩ => ?_
  refine ⟨w, s, m, R, S, (Then.bind t).mono fun x m1 w1 H1 t1 R1 t u hu => ?_⟩
  refine ⟨w1, s, m1, R1, S.mono t1.gr, (Then.bind t).mono fun y m2 w2 H2 t2 R2 t v hv => ?_⟩
  exact Then.now (K := X.K) (mg := X.mg) (T := T) (W := W) (σ := σ) t R2 _ (.cons (hu.mono t2.gr) hv)
/-- over arguments -/
theorem re_args {es : List Expr} {e : Expr} {r : List V → Hp → VK → Prop} {f : SAr} {g : List D → Mu → Res D} (h : PA X es (rdA X.K X.mg T W f) → PE X e (fun σ H Q => rdA X.K X.mg T W f σ H fun x H1 => r x H1 Q)) (ha : PA X es (rdA X.K X.mg T W f))
    (hr : ∀ (w : Wd) (m : Mu) (H : Hp) (σ : L2.St) (x : List D) (u : List V) (Q : VK), Rel X.K T w m H → DatL X.K w u x → Then X.K X.mg T W w m H σ (g x m) (fun d _ w' H' => ∀ v, Dat X.K w' v d → Q v H') → r u H Q) :
    PE X e (rdE X.K X.mg T W fun s m => (f s m).bind fun xs m => g xs m) := by
  refine (h ha).imp fun σ H Q ⟨w, s, m, R, S, t⟩ => ?_
  exact ⟨w, s, m, R, S, (Then.bind t).mono fun x m1 w1 H1 t1 R1 t u hu => hr w1 m1 H1 σ x u Q R1 hu t⟩
theorem line1000 {n : Nat} (h : n ≤ 1000) : n ≤ sizeLine := by rw [sizeLine_eq]; omega
/-- the end of an operation that lays a thing that never changes -/
theorem fin_frozen {w : Wd} {m : Mu} {H : Hp} {σ : L2.St} {d : D} {o : HO} {Q : VK} (R : Rel X.K T w m H) (t : Then X.K X.mg T W w m H σ (.ok d m) (fun d _ w' H' => ∀ v, Dat X.K w' v d → Q v H')) {p : Addr} (hp : H p = none) (hd : ∀ w', Gr w w' → w'.g p = some o → Dat X.K w' (.ref p) d) (no : ∀ ps, o ≠ .tbl ps := by intro ps z; cases z) : Q (.ref p) (upd H p o) := by
  obtain ⟨R1, t1⟩ := R.frozen (o := o) hp no
  exact t _ _ t1 R1 _ (hd _ t1.gr upd_same)
theorem re_tup {es : List Expr} {f : SAr} {k} (ha : PA X es (rdA X.K X.mg T W f)) : PE X (.Tuple es k pos) (rdE X.K X.mg T W (sTup f)) := by
  refine re_args (r := fun xs H1 Q => xs.length ≤ sizeLine ∧ ∀ p, H1 p = none → Q (.ref p) (upd H1 p (.tup xs))) (fun h => pe_tup h) ha fun w m H σ x u Q R hu t => ?_
  split at t
  · rename_i hl
    exact ⟨by rw [hu.length]; exact line1000 hl, fun p hp => fin_frozen R t hp fun w' g e => .tup e (hu.mono g)⟩
  · exact t.elim
theorem re_lst {es : List Expr} {f : SAr} (ha : PA X es (rdA X.K X.mg T W f)) : PE X (.List es pos) (rdE X.K X.mg T W (sLst f)) := by
  refine re_args (r := fun xs H1 Q => xs.length ≤ sizeLine ∧ ∀ p, H1 p = none → Q (.ref p) (upd H1 p (.lst xs))) (fun h => pe_lst h) ha fun w m H σ x u Q R hu t => ?_
  split at t
  · rename_i hl
    exact ⟨by rw [hu.length]; exact line1000 hl, fun p hp => fin_frozen R t hp fun w' g e => .lst e (hu.mono g)⟩
  · exact t.elim
theorem re_new {es : List Expr} {f : SAr} (ha : PA X es (rdA X.K X.mg T W f)) : PE X (.List es pos) (rdE X.K X.mg T W (sNew f)) := by
  refine re_args (r := fun xs H1 Q => xs.length ≤ sizeLine ∧ ∀ p, H1 p = none → Q (.ref p) (upd H1 p (.lst xs))) (fun h => pe_lst h) ha fun w m H σ x u Q R hu t => ?_
  split at t
  · rename_i hl
    refine ⟨by rw [hu.length]; exact line1000 hl, fun p hp => ?_⟩
    obtain ⟨R1, t1⟩ := R.fresh (u := .lst x) (o := .lst u) hp rfl fun w' g => ⟨u, upd_same, hu.mono g⟩
    exact t _ _ t1 R1 _ (.ref (by show (w.r ++ [p])[m.length]? = some p; rw [← R.len]; simp))
  · exact t.elim
theorem tup_at {K : PySem.W.Frag} {w : Wd} {v : V} {d : D} (h : Dat K w v d) {ds : List D} (e : tupOf d = some ds) : ∃ a vs, v = .ref a ∧ SqT K w.g a vs ∧ DatL K w vs ds := by
  cases h with
  | tup h r => cases e; exact ⟨_, _, rfl, .of h, r⟩
  | ktup h r => cases e; exact ⟨_, _, rfl, h, r⟩
  | _ => cases e
end
end Rx
set_option Elab.async false
set_option linter.all false
set_option maxRecDepth 100000
namespace Rx
open PySem PySem.Spec PyProof.Rows L2

/-! ### statements -/
def SThen (K : PySem.W.Frag) (mg : Str → Option Value) (T : Tb) (W : WX) (w : Wd) (m : Mu) (H : Hp) (r : SRes) (D : Ends) : Prop := match r with
  | .nx s' m' => ∀ w' H' σ', Tr w m H w' m' H' → Rel K T w' m' H' → Slots K w' σ' s' → D.nx σ' H'
  | .ret d m' => ∀ w' H' v, Tr w m H w' m' H' → Rel K T w' m' H' → Dat K w' v d → D.rt v H'
  | .bk s' m' => ∀ w' H' σ', Tr w m H w' m' H' → Rel K T w' m' H' → Slots K w' σ' s' → D.bk σ' H'
  | .ct s' m' => ∀ w' H' σ', Tr w m H w' m' H' → Rel K T w' m' H' → Slots K w' σ' s' → D.ct σ' H'
  | .exc x s' m' => ∀ w' H' σ' cls dd, Tr w m H w' m' H' → Rel K T w' m' H' → Slots K w' σ' s' → XRel K mg w' H' cls dd x → W cls dd σ' H'
  | .stuck => False
def rdS (K : PySem.W.Frag) (mg : Str → Option Value) (T : Tb) (W : WX) (f : SSt) : TS := fun D σ H => ∃ w s m, Rel K T w m H ∧ Slots K w σ s ∧ SThen K mg T W w m H (f s m) D
@[simp] def Res.toS {α : Type} (r : Res α) (s : Sd) (f : α → Mu → SRes) : SRes := match r with
  | .ok a m => f a m
  | .exc x m => .exc x s m
  | .stuck => .stuck
section
variable {X : Cx} {K : PySem.W.Frag} {mg : Str → Option Value} {T : Tb} {W : WX} {w w1 w0 : Wd} {m m1 m0 : Mu} {H H1 H0 : Hp} {σ : L2.St} {D : Ends}
theorem SThen.from_ {r : SRes} (h : SThen K mg T W w m H r D) (t : Tr w m H w1 m1 H1) : SThen K mg T W w1 m1 H1 r D := by
  cases r with
  | nx s' m' => exact fun w' H' σ' t' => h w' H' σ' (t.trans t')
  | ret s' m' => exact fun w' H' σ' t' => h w' H' σ' (t.trans t')
  | bk s' m' => exact fun w' H' σ' t' => h w' H' σ' (t.trans t')
  | ct s' m' => exact fun w' H' σ' t' => h w' H' σ' (t.trans t')
  | exc x s' m' => exact fun w' H' σ' cls dd t' => h w' H' σ' cls dd (t.trans t')
  | stuck => exact h
/-- an expression ahead of a statement's rest; the slots are as they are -/
theorem SThen.ofS {α : Type} {r : Res α} {s : Sd} {f : α → Mu → SRes} (h : SThen K mg T W w m H (r.toS s f) D) (S : Slots K w σ s) :
    Then K mg T W w m H σ r fun a m' w' H' => SThen K mg T W w' m' H' (f a m') D := by
  cases r with
  | ok a m' => exact fun w' H' t' R => SThen.from_ h t'
  | exc x m' => exact fun w' H' cls dd t' R x => h w' H' σ cls dd t' R (S.mono t'.gr) x
  | stuck => exact h
theorem _root_.L2.PS.imp {e : Stmt} {t t' : TS} (h : PS X e t) (i : ∀ D σ H, t' D σ H → t D σ H) : PS X e t' := ⟨fun pins s σ H D I q => h.run pins s σ H D I (i D σ H q)⟩
theorem _root_.L2.PSs.imp {e : List Stmt} {t t' : TS} (h : PSs X e t) (i : ∀ D σ H, t' D σ H → t D σ H) : PSs X e t' := ⟨fun pins s σ H D I q => h.run pins s σ H D I (i D σ H q)⟩
end
def sNil : SSt := fun s m => .nx s m
def sSeq (a b : SSt) : SSt := fun s m => match a s m with
  | .nx s' m' => b s' m'
  | r => r
def sSet (i : Nat) (f : SEx) : SSt := fun s m => (f s m).toS s fun d m' => .nx (s.set i (some d)) m'
def sRet (f : SEx) : SSt := fun s m => (f s m).toS s fun d m' => .ret d m'
def sRetN : SSt := fun s m => .ret .non m
def sDo (f : SEx) : SSt := fun s m => (f s m).toS s fun _ m' => .nx s m'
def sIf (c : SBl) (a b : SSt) : SSt := fun s m => (c s m).toS s fun k m' => if k = true then a s m' else b s m'
def sCont : SSt := fun s m => .ct s m
def sBrk : SSt := fun s m => .bk s m
/-- targets -/
abbrev STg := D → Sd → Option Sd
abbrev STgs := List D → Sd → Option Sd
def gN (i : Nat) : STg := fun d s => some (s.set i (some d))
def gT (t : STgs) : STg := fun d s => match tupOf d with
  | some ds => t ds s
  | none => none
def gsNil : STgs := fun ds s => match ds with
  | [] => some s
  | _ => none
def gsCons (g : STg) (r : STgs) : STgs := fun ds s => match ds with
  | d :: ds => (g d s).bind fun s' => r ds s'
  | _ => none
def sAsg (f : SEx) (g : STg) : SSt := fun s m => (f s m).toS s fun d m' => match g d s with
  | some s' => .nx s' m'
  | none => .stuck
def sPar (i j : Nat) (a : SAr) : SSt := fun s m => (a s m).toS s fun ds m' => match ds with
  | [x, y] => .nx ((s.set i (some x)).set j (some y)) m'
  | _ => .stuck
def sPar3 (i j l : Nat) (a : SAr) : SSt := fun s m => (a s m).toS s fun ds m' => match ds with
  | [x, y, z] => .nx (((s.set i (some x)).set j (some y)).set l (some z)) m'
  | _ => .stuck
/-- what a target may do to the slots -/
structure GRel (P : L2.St → L2.St → Prop) : Prop where
  refl : ∀ σ, P σ σ
  trans : ∀ a b c, P a b → P b c → P a c
abbrev gAny : L2.St → L2.St → Prop := fun _ _ => True
theorem gAny_ok : GRel gAny := ⟨fun _ => trivial, fun _ _ _ _ _ => trivial⟩
def rdG (K : PySem.W.Frag) (T : Tb) (P : L2.St → L2.St → Prop) (g : STg) : TG := fun v σ H Q => ∃ w s m d, Rel K T w m H ∧ Slots K w σ s ∧ Dat K w v d ∧ match g d s with
  | some s' => ∀ σ', Slots K w σ' s' → P σ σ' → Q σ' H
  | none => False
def rdGs (K : PySem.W.Frag) (T : Tb) (P : L2.St → L2.St → Prop) (g : STgs) : TGs := fun vs σ H Q => ∃ w s m ds, Rel K T w m H ∧ Slots K w σ s ∧ DatL K w vs ds ∧ match g ds s with
  | some s' => ∀ σ', Slots K w σ' s' → P σ σ' → Q σ' H
  | none => False
section
variable {X : Cx} {T : Tb} {W : WX} {pos : Pos}
theorem _root_.L2.PG.imp {e : Expr} {t t' : TG} (h : PG X e t) (i : ∀ v σ H Q, t' v σ H Q → t v σ H Q) : PG X e t' := ⟨fun pins s σ H v u Q I r q => h.run pins s σ H v u Q I r (i v σ H Q q)⟩
theorem _root_.L2.PGs.imp {e : List Expr} {t t' : TGs} (h : PGs X e t) (i : ∀ v σ H Q, t' v σ H Q → t v σ H Q) : PGs X e t' := ⟨fun pins s σ H v u Q I r q => h.run pins s σ H v u Q I r (i v σ H Q q)⟩
theorem rg_n {P : L2.St → L2.St → Prop} {i : Nat} {e : Expr} (h : PG X e (gName i)) (hP : ∀ σ x, P σ (σ.set i x)) : PG X e (rdG X.K T P (gN i)) := h.imp fun v σ H Q ⟨w, s, m, d, R, S, r, q⟩ => q _ (S.set i r) (hP _ _)
theorem rgs_nil {P : L2.St → L2.St → Prop} (hP : GRel P) : PGs X [] (rdGs X.K T P gsNil) := pgs_nil.imp fun v σ H Q ⟨w, s, m, d, R, S, r, q⟩ => by
  cases r with
  | nil => exact ⟨rfl, q _ S (hP.refl _)⟩
  | cons h r => exact q.elim
theorem rgs_cons {P : L2.St → L2.St → Prop} (hP : GRel P) {e : Expr} {es : List Expr} {g : STg} {r : STgs} (h1 : PG X e (rdG X.K T P g)) (h2 : PGs X es (rdGs X.K T P r)) (hs : (assignEach (e :: es) X.env).map (·.2) = assign e X.env :: (assignEach es X.env).map (·.2) := by rfl) : PGs X (e :: es) (rdGs X.K T P (gsCons g r)) :=
  (pgs_cons h1 h2 hs).imp fun v σ H Q ⟨w, s, m, d, R, S, rr, q⟩ => by
    cases rr with
    | nil => exact q.elim
    | @cons v d vs ds hh rr =>
      refine ⟨_, _, rfl, w, s, m, d, R, S, hh, ?_⟩
      unfold gsCons at q
      simp only at q
      cases e1 : g d s with
      | none => rw [e1] at q; exact q.elim
      | some s' =>
        rw [e1] at q
        refine fun σ' S' p1 => ⟨w, s', m, ds, R, S', rr, ?_⟩
        have q2 : match r ds s' with
          | some s' => ∀ σ', Slots X.K w σ' s' → P σ σ' → Q σ' H
          | none => False := q
        revert q2
        cases r ds s' with
        | none => exact fun q2 => q2
        | some s2 => exact fun q2 σ2 S2 p2 => q2 σ2 S2 (hP.trans _ _ _ p1 p2)
theorem rg_t {P : L2.St → L2.St → Prop} {es : List Expr} {k : Nat} {t : STgs} {n : Nat} (hc : X.calm = true) (h : PGs X es (rdGs X.K T P t)) (hl : ∀ ds s s', t ds s = some s' → ds.length = n) (hn : (assignEach es X.env).length = n := by rfl) (hst : (assignEach es X.env).findIdx? (·.1) = none := by rfl) :
    PG X (.Tuple es k pos) (rdG X.K T P (gT t)) := (pg_tup hc h hn hst).imp fun v σ H Q ⟨w, s, m, d, R, S, r, q⟩ => by
  unfold gT at q
  cases e0 : tupOf d with
  | none => rw [e0] at q; exact q.elim
  | some ds =>
    rw [e0] at q
    obtain ⟨a, vs, rfl, hq, rr⟩ := tup_at r e0
    refine ⟨a, vs, rfl, same_sqT R.sub hq, ?_, w, s, m, ds, R, S, rr, q⟩
    cases e1 : t ds s with
    | none => simp only [e1] at q
    | some s' => rw [rr.length]; exact hl ds s s' e1
theorem gsNil_len : ∀ ds s s', gsNil ds s = some s' → ds.length = 0 := fun ds s s' e => by
  cases ds with
  | nil => rfl
  | cons _ _ => cases e
theorem gsCons_len {g : STg} {r : STgs} {n : Nat} (h : ∀ ds s s', r ds s = some s' → ds.length = n) : ∀ ds s s', gsCons g r ds s = some s' → ds.length = n + 1 := fun ds s s' e => by
  cases ds with
  | nil => cases e
  | cons d ds =>
    unfold gsCons at e
    simp only at e
    cases e1 : g d s with
    | none => rw [e1] at e; cases e
    | some s1 => rw [e1] at e; rw [List.length_cons, h ds s1 s' e]
theorem rs_nil : PSs X [] (rdS X.K X.mg T W sNil) := pss_nil.imp fun D σ H ⟨w, s, m, R, S, t⟩ => t w H σ (Tr.refl w m H) R S
theorem rs_cons {st : Stmt} {rest : List Stmt} {a b : SSt} (h1 : PS X st (rdS X.K X.mg T W a)) (h2 : PSs X rest (rdS X.K X.mg T W b)) : PSs X (st :: rest) (rdS X.K X.mg T W (sSeq a b)) := (pss_cons h1 h2).imp fun D σ H ⟨w, s, m, R, S, t⟩ => by
  refine ⟨w, s, m, R, S, ?_⟩
  unfold sSeq at t
  revert t
  cases a s m with
  | nx s' m' => exact fun t w' H' σ' t1 R1 S1 => ⟨w', s', m', R1, S1, SThen.from_ t t1⟩
  | ret d m' => exact fun t => t
  | bk d m' => exact fun t => t
  | ct d m' => exact fun t => t
  | exc x d m' => exact fun t => t
  | stuck => exact fun t => t
theorem rs_one {st : Stmt} {a : SSt} (h1 : PS X st (rdS X.K X.mg T W a)) : PSs X [st] (rdS X.K X.mg T W a) := pss_one h1
theorem rs_set {i : Nat} {st : Stmt} {e : Expr} {f : SEx} (h : PE X e (rdE X.K X.mg T W f) → PS X st (tAsg (rdE X.K X.mg T W f) (gName i))) (he : PE X e (rdE X.K X.mg T W f)) : PS X st (rdS X.K X.mg T W (sSet i f)) := (h he).imp fun D σ H ⟨w, s, m, R, S, t⟩ =>
  ⟨w, s, m, R, S, (SThen.ofS t S).mono fun d m' w' H' t' R' q v hv => q w' H' _ (Tr.refl _ _ _) R' ((S.mono t'.gr).set i hv)⟩
theorem rs_asg {st : Stmt} {e tg : Expr} {f : SEx} {g : STg} (h : PE X e (rdE X.K X.mg T W f) → PG X tg (rdG X.K T gAny g) → PS X st (tAsg (rdE X.K X.mg T W f) (rdG X.K T gAny g))) (he : PE X e (rdE X.K X.mg T W f)) (hg : PG X tg (rdG X.K T gAny g)) : PS X st (rdS X.K X.mg T W (sAsg f g)) := (h he hg).imp fun D σ H ⟨w, s, m, R, S, t⟩ => by
  refine ⟨w, s, m, R, S, (SThen.ofS t S).mono fun d m' w' H' t' R' q v hv => ⟨w', s, m', d, R', S.mono t'.gr, hv, ?_⟩⟩
  cases e1 : g d s with
  | none => rw [e1] at q; exact q.elim
  | some s' => rw [e1] at q; exact fun σ' S' _ => q w' H' σ' (Tr.refl _ _ _) R' S'
theorem rs_par {st : Stmt} {es : List Expr} {i j : Nat} {a : SAr} (h : PA X es (rdA X.K X.mg T W a) → PS X st (tPar i j (rdA X.K X.mg T W a))) (ha : PA X es (rdA X.K X.mg T W a)) : PS X st (rdS X.K X.mg T W (sPar i j a)) := (h ha).imp fun D σ H ⟨w, s, m, R, S, t⟩ => by
  refine ⟨w, s, m, R, S, (SThen.ofS t S).mono fun d m' w' H' t' R' q v hv => ?_⟩
  split at q
  · cases hv with
    | cons h1 hv => cases hv with
      | cons h2 hv => cases hv; exact ⟨_, _, rfl, q w' H' _ (Tr.refl _ _ _) R' (((S.mono t'.gr).set i h1).set j h2)⟩
  · exact q.elim
theorem rs_par3 {st : Stmt} {es : List Expr} {i j l : Nat} {a : SAr} (h : PA X es (rdA X.K X.mg T W a) → PS X st (tPar3 i j l (rdA X.K X.mg T W a))) (ha : PA X es (rdA X.K X.mg T W a)) : PS X st (rdS X.K X.mg T W (sPar3 i j l a)) := (h ha).imp fun D σ H ⟨w, s, m, R, S, t⟩ => by
  refine ⟨w, s, m, R, S, (SThen.ofS t S).mono fun d m' w' H' t' R' q v hv => ?_⟩
  split at q
  · cases hv with
    | cons h1 hv => cases hv with
      | cons h2 hv => cases hv with
        | cons h3 hv => cases hv; exact ⟨_, _, _, rfl, q w' H' _ (Tr.refl _ _ _) R' ((((S.mono t'.gr).set i h1).set j h2).set l h3)⟩
  · exact q.elim
theorem rs_ret {e : Expr} {f : SEx} (he : PE X e (rdE X.K X.mg T W f)) : PS X (.Return (some e) pos) (rdS X.K X.mg T W (sRet f)) := (ps_ret he).imp fun D σ H ⟨w, s, m, R, S, t⟩ =>
  ⟨w, s, m, R, S, (SThen.ofS t S).mono fun d m' w' H' t' R' q v hv => q w' H' v (Tr.refl _ _ _) R' hv⟩
theorem rs_retN : PS X (.Return none pos) (rdS X.K X.mg T W sRetN) := ps_retN.imp fun D σ H ⟨w, s, m, R, S, t⟩ => t w H _ (Tr.refl w m H) R .non
theorem rs_do {e : Expr} {f : SEx} (he : PE X e (rdE X.K X.mg T W f)) (hs : swapsWith e none pos.line X.env = pure false := by rfl) : PS X (.Expr e pos) (rdS X.K X.mg T W (sDo f)) := (ps_expr he hs).imp fun D σ H ⟨w, s, m, R, S, t⟩ =>
  ⟨w, s, m, R, S, (SThen.ofS t S).mono fun d m' w' H' t' R' q v hv => q w' H' _ (Tr.refl _ _ _) R' (S.mono t'.gr)⟩
theorem rs_if {c : Expr} {a b : List Stmt} {fc : SBl} {fa fb : SSt} (hc : PT X c (rdB X.K X.mg T W fc)) (ha : PSs X a (rdS X.K X.mg T W fa)) (hb : PSs X b (rdS X.K X.mg T W fb)) : PS X (.If c a b pos) (rdS X.K X.mg T W (sIf fc fa fb)) := (ps_if hc ha hb).imp fun D σ H ⟨w, s, m, R, S, t⟩ => by
  refine ⟨w, s, m, R, S, (SThen.ofS t S).mono fun k m' w' H' t' R' q => ?_⟩
  cases k with
  | true => exact ⟨w', s, m', R', S.mono t'.gr, q⟩
  | false => exact ⟨w', s, m', R', S.mono t'.gr, q⟩
theorem rs_cont : PS X (.Continue pos) (rdS X.K X.mg T W sCont) := ps_continue.imp fun D σ H ⟨w, s, m, R, S, t⟩ => t w H σ (Tr.refl w m H) R S
theorem rs_brk : PS X (.Break pos) (rdS X.K X.mg T W sBrk) := ps_break.imp fun D σ H ⟨w, s, m, R, S, t⟩ => t w H σ (Tr.refl w m H) R S
theorem rs_pass : PS X (.Pass pos) (rdS X.K X.mg T W sNil) := ps_pass.imp fun D σ H ⟨w, s, m, R, S, t⟩ => t w H σ (Tr.refl w m H) R S
end

/-! ### loops -/
/-- the iterator J yields ds, one behind the other -/
structure ItOk (K : PySem.W.Frag) (T : Tb) (J : It) (w : Wd) (ds : List D) : Prop where
  go : ∀ (w1 : Wd) (m1 : Mu) (H : Hp) (i : Nat) (d : D), Gr w w1 → Rel K T w1 m1 H → ds[i]? = some d → J.go i H ∧ ∀ x H', J.yld i H x H' → ∃ w2, Rel K T w2 m1 H' ∧ Tr w1 m1 H w2 m1 H' ∧ Dat K w2 x d
  stop : ∀ (w1 : Wd) (m1 : Mu) (H : Hp) (i : Nat), Gr w w1 → Rel K T w1 m1 H → ds.length ≤ i → J.stop i H
theorem ItOk.mono {K : PySem.W.Frag} {T} {J : It} {w w' : Wd} {ds : List D} (h : ItOk K T J w ds) (g : Gr w w') : ItOk K T J w' ds := ⟨fun w1 m1 H i d g1 => h.go w1 m1 H i d (g.trans g1), fun w1 m1 H i g1 => h.stop w1 m1 H i (g.trans g1)⟩
def rdI (K : PySem.W.Frag) (mg : Str → Option Value) (T : Tb) (W : WX) (f : SAr) : TI := fun σ H R => ∃ w s m, Rel K T w m H ∧ Slots K w σ s ∧ Then K mg T W w m H σ (f s m) fun ds _ w' H' => ∀ J, ItOk K T J w' ds → R J H'
def forL (g : STg) (body : SSt) : List D → Sd → Mu → SRes
  | [], s, m => .nx s m
  | d :: ds, s, m => match g d s with
    | none => .stuck
    | some s1 => match body s1 m with
      | .nx s2 m2 => forL g body ds s2 m2
      | .ct s2 m2 => forL g body ds s2 m2
      | .bk s2 m2 => .nx s2 m2
      | .ret d m2 => .ret d m2
      | .exc x s2 m2 => .exc x s2 m2
      | .stuck => .stuck
def sFor (src : SAr) (g : STg) (body : SSt) : SSt := fun s m => (src s m).toS s fun ds m' => forL g body ds s m'
def whL (c : SBl) (body : SSt) : Nat → Sd → Mu → SRes
  | 0, _, _ => .stuck
  | n + 1, s, m => match c s m with
    | .ok true m1 => (match body s m1 with
      | .nx s2 m2 => whL c body n s2 m2
      | .ct s2 m2 => whL c body n s2 m2
      | .bk s2 m2 => .nx s2 m2
      | .ret d m2 => .ret d m2
      | .exc x s2 m2 => .exc x s2 m2
      | .stuck => .stuck)
    | .ok false m1 => .nx s m1
    | .exc x m1 => .exc x s m1
    | .stuck => .stuck
def sWhile (n : Nat) (c : SBl) (body : SSt) : SSt := fun s m => whL c body n s m
section
variable {X : Cx} {T : Tb} {W : WX} {pos : Pos}
theorem rs_for {tg iter : Expr} {body : List Stmt} {src : SAr} {g : STg} {fb : SSt} (hp : PassesOwn (model X.prog X.w) X.A X.env X.xe) (hc : X.calm = true) (hi : PI X tg iter (rdI X.K X.mg T W src)) (hg : PG X tg (rdG X.K T gAny g)) (hb : PSs X body (rdS X.K X.mg T W fb))
    (hs : ∀ x, foldedSetIterable iter X.env x = pure x := by intro _; rfl) : PS X (.For tg iter body [] pos) (rdS X.K X.mg T W (sFor src g fb)) := (ps_for hp hc hi hg hb hs).imp fun D σ H ⟨w, s, m, R, S, t⟩ => by
  refine ⟨w, s, m, R, S, (SThen.ofS t S).mono fun ds m0 w0 H0 t0 R0 q J hJ => ?_⟩
  refine ⟨fun i n σ H => i + n = ds.length ∧ ∃ w' s' m', Gr w0 w' ∧ Rel X.K T w' m' H ∧ Slots X.K w' σ s' ∧ SThen X.K X.mg T W w' m' H (forL g fb (ds.drop i) s' m') D, ⟨ds.length, by omega, w0, s, m0, Gr.refl _, R0, S.mono t0.gr, by simpa using q⟩, ?_⟩
  rintro i n σ1 H1 ⟨hn, w1, s1, m1, g1, R1, S1, q1⟩
  by_cases hi' : i < ds.length
  · right
    have e0 : ds[i]? = some ds[i] := List.getElem?_eq_getElem hi'
    have ed : ds.drop i = ds[i] :: ds.drop (i + 1) := List.drop_eq_getElem_cons hi'
    obtain ⟨go, yl⟩ := hJ.go w1 m1 H1 i ds[i] g1 R1 e0
    refine ⟨go, fun σ' H' => i + 1 + (n - 1) = ds.length ∧ ∃ w' s' m', Gr w0 w' ∧ Rel X.K T w' m' H' ∧ Slots X.K w' σ' s' ∧ SThen X.K X.mg T W w' m' H' (forL g fb (ds.drop (i + 1)) s' m') D, fun σ' H' h => ⟨n - 1, by omega, h⟩, fun x H' hy => ?_⟩
    obtain ⟨w2, R2, t2, hx⟩ := yl x H' hy
    refine ⟨w2, s1, m1, ds[i], R2, S1.mono t2.gr, hx, ?_⟩
    rw [ed] at q1
    unfold forL at q1
    cases e1 : g ds[i] s1 with
    | none => rw [e1] at q1; exact q1.elim
    | some s2 =>
      rw [e1] at q1
      simp only at q1 ⊢
      refine fun σ' S' _ => ⟨w2, s2, m1, R2, S', ?_⟩
      have q2 := SThen.from_ q1 t2
      revert q2
      cases fb s2 m1 with
      | nx s3 m3 => exact fun q2 w' H'' σ'' t3 R3 S3 => ⟨by omega, w', s3, m3, g1.trans (t2.gr.trans t3.gr), R3, S3, SThen.from_ q2 t3⟩
      | ct s3 m3 => exact fun q2 w' H'' σ'' t3 R3 S3 => ⟨by omega, w', s3, m3, g1.trans (t2.gr.trans t3.gr), R3, S3, SThen.from_ q2 t3⟩
      | bk s3 m3 => exact fun q2 => q2
      | ret d m3 => exact fun q2 => q2
      | exc x d m3 => exact fun q2 => q2
      | stuck => exact fun q2 => q2
  · left
    have ed : ds.drop i = [] := List.drop_eq_nil_of_le (by omega)
    rw [ed] at q1
    exact ⟨hJ.stop w1 m1 H1 i g1 R1 (by omega), q1 w1 H1 σ1 (Tr.refl _ _ _) R1 S1⟩
theorem rs_while {c : Expr} {body : List Stmt} {fc : SBl} {fb : SSt} (n : Nat) (hp : PassesOwn (model X.prog X.w) X.A X.env X.xe) (hc : PT X c (rdB X.K X.mg T W fc)) (hb : PSs X body (rdS X.K X.mg T W fb)) : PS X (.While c body [] pos) (rdS X.K X.mg T W (sWhile n fc fb)) := (ps_while hp hc hb).imp fun D σ H ⟨w, s, m, R, S, t⟩ => by
  refine ⟨fun n σ H => ∃ w s m, Rel X.K T w m H ∧ Slots X.K w σ s ∧ SThen X.K X.mg T W w m H (whL fc fb n s m) D, ⟨n, w, s, m, R, S, t⟩, ?_⟩
  rintro n σ1 H1 ⟨w1, s1, m1, R1, S1, q1⟩
  cases n with
  | zero => exact q1.elim
  | succ n =>
    refine ⟨w1, s1, m1, R1, S1, ?_⟩
    unfold whL at q1
    revert q1
    cases fc s1 m1 with
    | ok b m2 =>
      cases b with
      | false => exact fun q1 w' H' t' R' => q1 w' H' σ1 t' R' (S1.mono t'.gr)
      | true =>
        intro q1 w' H' t' R'
        refine ⟨fun σ' H' => ∃ w s m, Rel X.K T w m H' ∧ Slots X.K w σ' s ∧ SThen X.K X.mg T W w m H' (whL fc fb n s m) D, fun σ' H' h => ⟨n, Nat.lt_succ_self _, h⟩, w', s1, m2, R', S1.mono t'.gr, ?_⟩
        have q2 := SThen.from_ q1 t'
        revert q2
        dsimp only
        cases fb s1 m2 with
        | nx s3 m3 => exact fun q2 w' H'' σ'' t3 R3 S3 => ⟨w', s3, m3, R3, S3, SThen.from_ q2 t3⟩
        | ct s3 m3 => exact fun q2 w' H'' σ'' t3 R3 S3 => ⟨w', s3, m3, R3, S3, SThen.from_ q2 t3⟩
        | bk s3 m3 => exact fun q2 => q2
        | ret d m3 => exact fun q2 => q2
        | exc x d m3 => exact fun q2 => q2
        | stuck => exact fun q2 => q2
    | exc x m2 => exact fun q1 w' H' cls dd t' R' x => q1 w' H' σ1 cls dd t' R' (S1.mono t'.gr) x
    | stuck => exact fun q1 => q1
end
end Rx
set_option Elab.async false
set_option linter.all false
set_option maxRecDepth 100000
namespace Rx
open PySem PySem.Spec PyProof.Rows L2

/-! ### what is walked -/
/-- a list or tuple, as a value or at a handle: false a list, true a tuple -/
def seqOf (m : Mu) : D → Option (Bool × List D)
  | .lst ds => some (false, ds)
  | .scr ds => some (false, ds)
  | .tup ds => some (true, ds)
  | .ktup ds => some (true, ds)
  | .ref k => match m[k]? with
    | some (.lst ds) => some (false, ds)
    | _ => none
  | _ => none
section
variable {K : PySem.W.Frag} {T : Tb} {w w' : Wd} {m : Mu} {H : Hp}
theorem seq_at (R : Rel K T w m H) {v : V} {d : D} (h : Dat K w v d) {b : Bool} {ds : List D} (e : seqOf m d = some (b, ds)) : ∃ a vs, v = .ref a ∧ DatL K w vs ds ∧ ((b = false ∧ SqL K H a vs) ∨ (b = true ∧ SqT K H a vs)) := by
  cases h with
  | tup hq r => cases e; exact ⟨_, _, rfl, r, .inr ⟨rfl, .of (R.sub _ _ hq)⟩⟩
  | ktup hq r => cases e; exact ⟨_, _, rfl, r, .inr ⟨rfl, same_sqT R.sub hq⟩⟩
  | lst hq r => cases e; exact ⟨_, _, rfl, r, .inl ⟨rfl, .of (R.sub _ _ hq)⟩⟩
  | scr hq r => cases e; exact ⟨_, _, rfl, r, .inl ⟨rfl, R.sub.seq hq⟩⟩
  | @ref a k hk =>
    unfold seqOf at e
    simp only at e
    split at e
    · rename_i ds' e1
      cases e
      obtain ⟨q1, vs, q2, q3⟩ := R.obj k _ a e1 hk rfl
      exact ⟨a, vs, rfl, q3, .inl ⟨rfl, .of q2⟩⟩
    · cases e
  | _ => cases e
/-- the walk of a list or tuple that never changes -/
def valsOf : D → Option (List D)
  | .lst ds => some ds
  | .scr ds => some ds
  | .tup ds => some ds
  | .ktup ds => some ds
  | _ => none
theorem itok_list {a : Addr} {vs : List V} {ds : List D} (h : SqL K w.g a vs) (hu : ∀ xs H, Same w.g H → SqL K H a xs → xs = vs) (r : DatL K w vs ds) : True := trivial
end
section
variable {X : Cx} {T : Tb} {W : WX} {w : Wd}
/-- the list at a as it stood at first; J is the layer's iterator restricted to it -/
def Itl1 (a : Addr) (vs : List V) (K : PySem.W.Frag) : It := ⟨fun i H => SqL K H a vs ∧ i < vs.length, fun i H x H' => H' = H ∧ vs[i]? = some x, fun i H => SqL K H a vs ∧ vs.length ≤ i⟩
def Itt1 (a : Addr) (vs : List V) (K : PySem.W.Frag) : It := ⟨fun i H => SqT K H a vs ∧ i < vs.length, fun i H x H' => H' = H ∧ vs[i]? = some x, fun i H => SqT K H a vs ∧ vs.length ≤ i⟩
theorem Turn.weak {P : Program} {w : World} {K : PySem.W.Frag} {tg : Expr} {J J' : It} {fp : List Addr} {it : Addr} {tn : Nat → Heap → Prop} (h : Turn P w K tg J fp it tn) (g : ∀ i H, J'.go i H → J.go i H) (s : ∀ i H, J'.stop i H → J.stop i H) (y : ∀ i H x H', J'.go i H → J.yld i H x H' → J'.yld i H x H') : Turn P w K tg J' fp it tn :=
  ⟨h.mem, h.obj, h.keep, fun X hP hw hK hc i pins s σ H E I hf st hg => wpAny_mono (h.item X hP hw hK hc i pins s σ H E I hf st (g i H hg)) (fun r s1 ⟨u, e, q⟩ => ⟨u, e, wpAny_mono q (fun _ s2 ⟨x, H', I', rx, yy, z⟩ => ⟨x, H', I', rx, y i H x H' hg yy, z⟩) fun _ _ z => z⟩) fun _ _ z => z,
    fun X hP hw hK hc i pins s' σ H E I hf st hg => h.done X hP hw hK hc i pins s' σ H E I hf st (s i H hg), h.self⟩
theorem turn_l1 {P : Program} {w : World} {K : PySem.W.Frag} {tg : Expr} (a it : Addr) (vs : List V) : Turn P w K tg (Itl1 a vs K) [it] it (fun i h => h.IsListIter it a i) :=
  Turn.weak (turn_list a it) (fun i H ⟨h, l⟩ => ⟨vs, vs[i], h, List.getElem?_eq_getElem l⟩) (fun i H ⟨h, l⟩ => ⟨vs, h, l⟩) (fun i H x H' ⟨h, _⟩ ⟨e, f⟩ => ⟨e, f vs h⟩)
theorem turn_t1 {P : Program} {w : World} {K : PySem.W.Frag} {tg : Expr} (a it : Addr) (vs : List V) : Turn P w K tg (Itt1 a vs K) [it] it (fun i h => h.IsTupleIter it a i) :=
  Turn.weak (turn_tuple a it) (fun i H ⟨h, l⟩ => ⟨vs, vs[i], h, List.getElem?_eq_getElem l⟩) (fun i H ⟨h, l⟩ => ⟨vs, h, l⟩) (fun i H x H' ⟨h, _⟩ ⟨e, f⟩ => ⟨e, f vs h⟩)
theorem itok_l1 {K : PySem.W.Frag} {a : Addr} {vs : List V} {ds : List D} (h : SqL K w.g a vs) (r : DatL K w vs ds) : ItOk K T (Itl1 a vs K) w ds where
  go := fun w1 m1 H i d g R e => ⟨⟨R.sub.seq (g.g.seq h), by rw [r.length]; exact (List.getElem?_eq_some_iff.mp e).1⟩, fun x H' ⟨e1, e2⟩ => by
    subst e1
    obtain ⟨d', e3, hd⟩ := r.getv e2
    rw [e] at e3
    cases e3
    exact ⟨w1, R, Tr.refl _ _ _, hd.mono g⟩⟩
  stop := fun w1 m1 H i g R l => ⟨R.sub.seq (g.g.seq h), by rw [r.length]; exact l⟩
theorem itok_t1 {K : PySem.W.Frag} {a : Addr} {vs : List V} {ds : List D} (h : SqT K w.g a vs) (r : DatL K w vs ds) : ItOk K T (Itt1 a vs K) w ds where
  go := fun w1 m1 H i d g R e => ⟨⟨same_sqT R.sub (same_sqT g.g h), by rw [r.length]; exact (List.getElem?_eq_some_iff.mp e).1⟩, fun x H' ⟨e1, e2⟩ => by
    subst e1
    obtain ⟨d', e3, hd⟩ := r.getv e2
    rw [e] at e3
    cases e3
    exact ⟨w1, R, Tr.refl _ _ _, hd.mono g⟩⟩
  stop := fun w1 m1 H i g R l => ⟨same_sqT R.sub (same_sqT g.g h), by rw [r.length]; exact l⟩
/-- walked: a list or a tuple -/
def iSeq1 (X : Cx) (tl : TE) : TI := fun σ H R => tl σ H fun x H1 => ∃ a vs, x = .ref a ∧ ((SqL X.K H1 a vs ∧ R (Itl1 a vs X.K) H1) ∨ (SqT X.K H1 a vs ∧ R (Itt1 a vs X.K) H1))
theorem pi_seq1 {tg l : Expr} {tl : TE} (hl : PE X l tl) : PI X tg l (iSeq1 X tl) := by
  refine ⟨fun pins s σ H R I h => ?_⟩
  refine thn (hl.run pins s σ H _ I h) fun v s1 ⟨x, H1, I1, r1, q1⟩ => ?_
  obtain ⟨a, vs, e, q⟩ := q1
  subst e
  cases r1
  rcases q with ⟨hq, q⟩ | ⟨hq, q⟩
  · obtain ⟨its, rv, p, hz⟩ := I1.list hq
    refine wpAny_pyIter_list p.isList ?_
    refine ⟨s1.heap.objs.size, [s1.heap.objs.size], _, _, H1, rfl, I1.kept (t' := s1.toks) fun b o e => Heap.get?_push_of_some _ e, turn_l1 a _ vs, ⟨_, Heap.get?_push_size _ rfl, rfl, rfl⟩, fun b hb => ?_, q⟩
    have e : b = s1.heap.objs.size := by simpa using hb
    subst e
    exact I1.fpOk (Nat.le_refl _) (I1.hok.fresh (Nat.le_refl _))
  · obtain ⟨its, rv, p, hz⟩ := I1.tuple hq
    refine wpAny_pyIter_tuple (show s1.heap.IsTuple a its.toArray from p) ?_
    refine ⟨s1.heap.objs.size, [s1.heap.objs.size], _, _, H1, rfl, I1.kept (t' := s1.toks) fun b o e => Heap.get?_push_of_some _ e, turn_t1 a _ vs, ⟨_, Heap.get?_push_size _ rfl, rfl, rfl⟩, fun b hb => ?_, q⟩
    have e : b = s1.heap.objs.size := by simpa using hb
    subst e
    exact I1.fpOk (Nat.le_refl _) (I1.hok.fresh (Nat.le_refl _))
theorem _root_.L2.PI.imp {tg iter : Expr} {t t' : TI} (h : PI X tg iter t) (i : ∀ σ H R, t' σ H R → t σ H R) : PI X tg iter t' := ⟨fun pins s σ H R I q => h.run pins s σ H R I (i σ H R q)⟩
def iVal (f : SEx) : SAr := fun s m => (f s m).bind fun d m => match valsOf d with
  | some ds => .ok ds m
  | none => .stuck
theorem ri_val {tg e : Expr} {f : SEx} (he : PE X e (rdE X.K X.mg T W f)) : PI X tg e (rdI X.K X.mg T W (iVal f)) := (pi_seq1 he).imp fun σ H Q ⟨w, s, m, R, S, t⟩ => by
  refine ⟨w, s, m, R, S, (Then.bind t).mono fun d m' w' H' t' R' q v hv => ?_⟩
  cases hv with
  | tup hq r => exact ⟨_, _, rfl, .inr ⟨.of (R'.sub _ _ hq), (Then.now q R') _ (itok_t1 (.of hq) r)⟩⟩
  | ktup hq r => exact ⟨_, _, rfl, .inr ⟨same_sqT R'.sub hq, (Then.now q R') _ (itok_t1 hq r)⟩⟩
  | lst hq r => exact ⟨_, _, rfl, .inl ⟨.of (R'.sub _ _ hq), (Then.now q R') _ (itok_l1 (.of hq) r)⟩⟩
  | scr hq r => exact ⟨_, _, rfl, .inl ⟨R'.sub.seq hq, (Then.now q R') _ (itok_l1 hq r)⟩⟩
  | _ => exact q.elim
/-! range -/
theorem itok_r {K : PySem.W.Frag} (lo : Int) (n : Nat) : ItOk K T (Itr lo n) w ((List.range n).map fun (i : Nat) => D.int (lo + i)) where
  go := fun w1 m1 H i d g R e => by
    obtain ⟨h1, h2⟩ := List.getElem?_eq_some_iff.mp e
    have hn : i < n := by simpa using h1
    simp at h2
    exact ⟨hn, fun x H' ⟨e1, e2⟩ => by subst e1 e2 h2; exact ⟨w1, R, Tr.refl _ _ _, .int _⟩⟩
  stop := fun w1 m1 H i g R l => by
    have : n ≤ i := by simpa using l
    exact this
def rangeD (lo : Int) (n : Nat) : List D := (List.range n).map fun (i : Nat) => D.int (lo + i)
def iR1 (f : SAr) : SAr := fun s m => (f s m).bind fun ds m => match ds with
  | [.int j] => if -(2 ^ 62) ≤ j ∧ j < 2 ^ 62 then .ok (rangeD 0 j.toNat) m else .stuck
  | _ => .stuck
def iR2 (f : SAr) : SAr := fun s m => (f s m).bind fun ds m => match ds with
  | [.int i, .int j] => if -(2 ^ 62) ≤ i ∧ i < 2 ^ 62 ∧ -(2 ^ 62) ≤ j ∧ j < 2 ^ 62 then .ok (rangeD i (j - i).toNat) m else .stuck
  | _ => .stuck
theorem ri_r1 {tg iter : Expr} {es : List Expr} {f : SAr} (h : PA X es (rdA X.K X.mg T W f) → PI X tg iter (iRng1 (rdA X.K X.mg T W f))) (ha : PA X es (rdA X.K X.mg T W f)) : PI X tg iter (rdI X.K X.mg T W (iR1 f)) := (h ha).imp fun σ H Q ⟨w, s, m, R, S, t⟩ => by
  refine ⟨w, s, m, R, S, (Then.bind t).mono fun d m' w' H' t' R' q v hv => ?_⟩
  split at q
  · rename_i j
    split at q
    · rename_i hj
      cases hv with
      | cons h1 hv => cases hv; cases h1; exact ⟨j, rfl, hj.1, hj.2, (Then.now q R') _ (itok_r 0 j.toNat)⟩
    · exact q.elim
  · exact q.elim
theorem ri_r2 {tg iter : Expr} {es : List Expr} {f : SAr} (h : PA X es (rdA X.K X.mg T W f) → PI X tg iter (iRng2 (rdA X.K X.mg T W f))) (ha : PA X es (rdA X.K X.mg T W f)) : PI X tg iter (rdI X.K X.mg T W (iR2 f)) := (h ha).imp fun σ H Q ⟨w, s, m, R, S, t⟩ => by
  refine ⟨w, s, m, R, S, (Then.bind t).mono fun d m' w' H' t' R' q v hv => ?_⟩
  split at q
  · rename_i i j
    split at q
    · rename_i hj
      cases hv with
      | cons h1 hv =>
        cases hv with
        | cons h2 hv => cases hv; cases h1; cases h2; exact ⟨i, j, rfl, hj, (Then.now q R') _ (itok_r i (j - i).toNat)⟩
    · exact q.elim
  · exact q.elim
/-! enumerate -/
def enumD (n : Nat) : List D → List D
  | [] => []
  | d :: ds => .tup [.int n, d] :: enumD (n + 1) ds
theorem enumD_get : ∀ (ds : List D) (n i : Nat) (d : D), (enumD n ds)[i]? = some d → ∃ e, ds[i]? = some e ∧ d = .tup [.int ((n + i : Nat) : Int), e]
  | [], n, i, d, h => by simp [enumD] at h
  | e :: ds, n, 0, d, h => by simp [enumD] at h; exact ⟨e, by simp, h.symm⟩
  | e :: ds, n, i + 1, d, h => by
    obtain ⟨e', h1, h2⟩ := enumD_get ds (n + 1) i d (by simpa [enumD] using h)
    exact ⟨e', by simpa using h1, by rw [h2]; congr 4; omega⟩
theorem enumD_len : ∀ (ds : List D) (n : Nat), (enumD n ds).length = ds.length
  | [], n => rfl
  | d :: ds, n => by unfold enumD; rw [List.length_cons, List.length_cons, enumD_len ds (n + 1)]
/-- the pairs of places and items, each a new tuple -/
def Ite1 (P : Hp → Prop) (vs : List V) : It := ⟨fun i H => P H ∧ i < vs.length, fun i H v H' => ∃ p x, v = .ref p ∧ H p = none ∧ H' = upd H p (.tup [.int (i : Nat), x]) ∧ vs[i]? = some x, fun i H => P H ∧ vs.length ≤ i⟩
theorem itok_e1 {K : PySem.W.Frag} {P : Hp → Prop} {vs : List V} {ds : List D} (hP : ∀ H, Same w.g H → P H) (r : DatL K w vs ds) : ItOk K T (Ite1 P vs) w (enumD 0 ds) where
  go := fun w1 m1 H i d g R e => by
    obtain ⟨e', h1, h2⟩ := enumD_get ds 0 i d e
    have hl := (List.getElem?_eq_some_iff.mp h1).1
    refine ⟨⟨hP H (g.g.trans R.sub), by rw [r.length]; exact hl⟩, fun x H' ⟨p, x', e1, e2, e3, e4⟩ => ?_⟩
    subst e1 e3 h2
    obtain ⟨R2, t2⟩ := R.frozen (o := .tup [.int (i : Nat), x']) e2
    obtain ⟨d', e5, hd⟩ := r.getv e4
    rw [h1] at e5
    cases e5
    refine ⟨_, R2, t2, .tup (show upd w1.g p _ p = some (.tup [.int (i : Nat), x']) from upd_same) (.cons ?_ (.cons ((hd.mono g).mono t2.gr) .nil))⟩
    rw [Nat.zero_add]
    exact .int _
  stop := fun w1 m1 H i g R l => ⟨hP H (g.g.trans R.sub), by rw [r.length, ← enumD_len ds 0]; exact l⟩
theorem turn_el {P : Program} {w : World} {K : PySem.W.Frag} {elts : List Expr} {kk : Nat} {tpos : Pos} (a e it : Addr) (vs : List V) :
    Turn P w K (.Tuple elts kk tpos) (Ite1 (fun H => SqL K H a vs) vs) [e, it] e (fun i h => (∃ old, IsEnum h e it ((i : Nat) : Int) old) ∧ h.IsListIter it a i ∧ e ≠ it) :=
  Turn.weak (turn_enum a e it) (fun i H ⟨h, l⟩ => ⟨vs, vs[i], h, List.getElem?_eq_getElem l⟩) (fun i H ⟨h, l⟩ => ⟨vs, h, l⟩) (fun i H x H' ⟨h, _⟩ ⟨p, y, e1, e2, e3, f⟩ => ⟨p, y, e1, e2, e3, f vs h⟩)
end
end Rx
set_option Elab.async false
set_option linter.all false
set_option maxRecDepth 100000
set_option maxHeartbeats 1000000
namespace PySem
theorem rx_meets_enum1 {v : Value} {o : Obj} {H : Heap → Prop} (B : Begins v o H) :
    Meets (Builtin.«enumerate.__new__» ⟨[.type "enumerate", v], []⟩) (fun _ R s => H s.heap ∧
      R (.ok (.ret (.ref (s.heap.push o).objs.size))) { s with heap := (s.heap.push o).push { cls := .type "enumerate", data := .fields #[.none, .bool false, .ref s.heap.objs.size, rawInt 0, .none, .none] } }) :=
  .of_wp fun prog w A R s h => by
    obtain ⟨hp, g, d, tk, os⟩ := s; obtain ⟨h1, h⟩ := h
    have hsub := sub_enumerate
    have q1 : ∀ {A' : Around} {E : Value → Shared → Prop} {Q : Value → Shared → Prop}, Q (.ref hp.objs.size) ⟨hp.push o, g, d, tk, os⟩ → wpAny (model prog w) A' (pyIter v) Q E ⟨hp, g, d, tk, os⟩ :=
      fun q => B.iter prog w _ _ ⟨hp, g, d, tk, os⟩ _ h1 q
    wp_walk using q1
    refine wpAny_stack_any fun st => wpAny_pure ?_
    split
    · rename_i c _ _ _ _ _
      cases (c == Value.type "enumerate")
      · wp_walk using q1
        exact ⟨_, rfl, h⟩
      · wp_walk using q1
        exact ⟨_, rfl, h⟩
    · wp_walk using q1
      exact ⟨_, rfl, h⟩
theorem rx_call_enum1 {prog : Program} {w : World} {A : Around} {E : Value → Shared → Prop} {s : Shared} {v : Value} {o : Obj} {H : Heap → Prop} {Q : Value → Shared → Prop} (B : Begins v o H) (h1 : H s.heap)
    (h : ∀ h', IsEnum h' (s.heap.objs.size + 1) s.heap.objs.size 0 .none → h'.get? s.heap.objs.size = some o → h'.objs.size = s.heap.objs.size + 2 →
      (∀ b o, s.heap.get? b = some o → h'.get? b = some o) → Q (.ref (s.heap.objs.size + 1)) { s with heap := h' }) :
    wpAny (model prog w) A (call (.type "enumerate") [v]) Q E s := by
  refine callType_new F.called_enumerate (by decide) (F.typeCall_enumerate_1 _) (F.newCall_enumerate_1 _) (fun obj => F.args_object_init_2 obj _) F.entry_enumerate_new
    (rx_meets_enum1 B) ⟨h1, ?_⟩
  have hz : (s.heap.push o).objs.size = s.heap.objs.size + 1 := Heap.size_push ..
  show _ ∧ _
  rw [hz]
  have he : IsEnum ((s.heap.push o).push { cls := .type "enumerate", data := .fields #[.none, .bool false, .ref s.heap.objs.size, rawInt 0, .none, .none] }) (s.heap.objs.size + 1) s.heap.objs.size 0 .none := by
    have := Heap.get?_push_size (s.heap.push o) (o := { cls := .type "enumerate", data := .fields #[.none, .bool false, .ref s.heap.objs.size, rawInt 0, .none, .none] }) rfl
    rw [hz] at this; exact this
  refine ⟨⟨_, he, rfl⟩, h _ he (Heap.get?_push_of_some _ (Heap.get?_push_size _ B.free)) (by rw [Heap.size_push, hz]) fun b o x => Heap.get?_push_of_some _ (Heap.get?_push_of_some _ x)⟩
end PySem
namespace Rx
open PySem PySem.Spec PyProof.Rows L2
/-! ### enumerate of a tuple -/
theorem turn_et {P : Program} {w : World} {K : PySem.W.Frag} {elts : List Expr} {kk : Nat} {tpos : Pos} (a e it : Addr) (vs : List V) :
    Turn P w K (.Tuple elts kk tpos) (Ite1 (fun H => SqT K H a vs) vs) [e, it] e (fun i h => (∃ old, IsEnum h e it ((i : Nat) : Int) old) ∧ h.IsTupleIter it a i ∧ e ≠ it) where
  mem := by simp
  obj := fun i h st b hb => by
    obtain ⟨⟨old, he⟩, ⟨o, ho, hc, hd⟩, _⟩ := st
    have e' : b = e ∨ b = it := by simpa using hb
    rcases e' with z | z
    · rw [z]; exact ⟨_, he, fun v q => nomatch q⟩
    · rw [z]; exact ⟨o, ho, fun v q => by rw [hd] at q; cases q⟩
  keep := fun i h h' st k => let ⟨⟨old, he⟩, hi, hne⟩ := st; ⟨⟨old, k e (by simp) _ he⟩, hi.at fun o q => k it (by simp) o q, hne⟩
  item := by
    intro X hP hw hK hc i pins s σ H E I hf st hg
    subst hP hw hK
    obtain ⟨⟨old, he⟩, hit, hne⟩ := st
    obtain ⟨hq, hl⟩ := hg
    have hx : vs[i]? = some vs[i] := List.getElem?_eq_getElem hl
    obtain ⟨its, rv, p, hz⟩ := I.tuple hq
    have pt : s.heap.IsTuple a its.toArray := p
    obtain ⟨u, hu, ru⟩ := rv.get hx
    have hel : e < s.heap.objs.size := Heap.lt_size he
    have hil : it < s.heap.objs.size := by obtain ⟨_, q, _⟩ := hit; exact Heap.lt_size q
    have hai : a ≠ it := fun z => by
      obtain ⟨o1, e1, c1, _⟩ := pt
      obtain ⟨o2, e2, c2, _⟩ := hit
      rw [z, e2] at e1
      cases e1
      rw [c2] at c1
      exact absurd c1 (by decide +kernel)
    have hae : e ≠ a := fun z => by
      obtain ⟨o1, e1, c1, _⟩ := pt
      have he' := he
      unfold IsEnum at he'
      rw [← z, he'] at e1
      cases e1
      exact absurd (show Value.type "enumerate" = Value.type "tuple" from c1) (by decide +kernel)
    have D := Draws.tuple (prog := X.prog) (w := X.w) (A := X.A.in1) (I.ok.hd hc) it a hai its.toArray
    have hlen : i < its.toArray.size := by have := rv.length; simp; omega
    refine wpAny_pyNext_enum_itemD D he ⟨hit, pt⟩ hlen hne (by simp [hne, hae]) fun x h' tk hP ho st' hT hsz hk => ?_
    have hxu : x = u := by
      have : its.toArray[i]? = some u := by simpa using hu
      rw [this] at hP
      exact (Option.some.inj hP).symm
    subst hxu
    refine ⟨_, rfl, wpAny_letOwnedTupleGo_enum (s := { s with heap := h', toks := tk + 1 }) ho fun h'' he' sb => ?_⟩
    have hT2 : h''.get? s.heap.objs.size = some { cls := .type "tuple", data := .seq #[.int i tk, x] } := (sb.2 _ (Nat.ne_of_gt hel)).trans hT
    have new : ObjOk X.prog X.w (upd H s.heap.objs.size (.tup [.int (i : Nat), vs[i]])) h'' s.heap.objs.size (.tup [.int (i : Nat), vs[i]]) :=
      ⟨by show 2 ≤ sizeLine; decide, [.int i tk, x], .cons ⟨_, rfl⟩ (.cons ru .nil), ⟨_, hT2, rfl, _, rfl⟩⟩
    have I1 : Inv X pins σ (upd H s.heap.objs.size (.tup [.int (i : Nat), vs[i]])) { s with heap := h'', toks := tk + 1 } :=
      I.turnedNew (ch := [e, it]) (fun b ob hb q => (sb.2 b (fun z => hb (by simp [z]))).trans (hk b ob (fun z => hb (by simp [z])) (fun z => hb (by simp [z])) q)) hf (Nat.le_refl _) new
    refine ⟨.ref s.heap.objs.size, _, I1, rfl, ⟨_, _, rfl, I.hok.fresh (Nat.le_refl _), rfl, hx⟩, ⟨⟨x, ?_⟩, st'.1.at fun o q => (sb.2 it (Ne.symm hne)).trans q, hne⟩, fun b hb => ?_⟩
    · have e1 : ((i + 1 : Nat) : Int) = (i : Int) + 1 := by omega
      rw [e1]; exact he'
    · have hb' : b < s.heap.objs.size := by
        have e' : b = e ∨ b = it := by simpa using hb
        rcases e' with z | z
        · rw [z]; exact hel
        · rw [z]; exact hil
      rw [upd_ne (Nat.ne_of_lt hb')]
      exact (hf b hb).1
  done := by
    intro X hP hw hK hc i pins s σ H E I hf st hg
    subst hP hw hK
    obtain ⟨⟨old, he⟩, hit, hne⟩ := st
    obtain ⟨hq, hl⟩ := hg
    obtain ⟨its, rv, p, hz⟩ := I.tuple hq
    have pt : s.heap.IsTuple a its.toArray := p
    obtain ⟨f0, f1, f2, f3, f4, f5⟩ := hf it (by simp)
    have hai : a ≠ it := fun z => by
      obtain ⟨o1, e1, c1, _⟩ := pt
      obtain ⟨o2, e2, c2, _⟩ := hit
      rw [z, e2] at e1
      cases e1
      rw [c2] at c1
      exact absurd c1 (by decide +kernel)
    have hT : s.TypeIs (.ref e) "enumerate" := ⟨_, he, rfl⟩
    have hnone : its.toArray[i]? = none := by have := rv.length; simp; omega
    unfold pyNext
    refine wpAny_bind (wpAny_attempt (wpAny_callSpecial?_slot (name := Str.ofString "__next__") hT F.slot_enumerate_next
      (wpAny_call_entry F.slot_enumerate_next hT F.entry_enumerate_next ?_ (F.args_enumerate_next_1 _))))
    show wpAny _ _ (field (.ref e) 2 >>= _) _ _ _
    refine wpAny_bind (wpAny_field he rfl (x := .ref it) rfl ?_)
    refine wpAny_bind (wpAny_nextOf_tuple_end (I.ok.hd hc) hit pt hnone fun h' x he' hx' => ?_)
    obtain ⟨o, ho, hcx⟩ := hx'
    refine wpAny_bind (wpAny_isInstance (T := "StopIteration") (b := true) ⟨o, ho, hcx⟩ isSubtype_stop ?_)
    exact wpAny_pure ⟨rfl, I.turned (t' := s.toks) (fun b o hb q => he' b o hb q) f0 f1 f3 f4 f5⟩
  self := fun A i s Q E st h => let ⟨⟨_, he⟩, _⟩ := st; wpAny_pyIter_enum he h
def iEnum1 (X : Cx) (ta : TA) : TI := fun σ H R => ta σ H fun us H1 => ∃ a vs, us = [.ref a] ∧ ((SqL X.K H1 a vs ∧ R (Ite1 (fun H => SqL X.K H a vs) vs) H1) ∨ (SqT X.K H1 a vs ∧ R (Ite1 (fun H => SqT X.K H a vs) vs) H1))
theorem pi_enum1 {X : Cx} {e : Expr} {ta : TA} {p pos tpos : Pos} {elts : List Expr} {kk : Nat} (hg : Gl X "enumerate") (hm : X.mg "enumerate" = none) (ha : PA X [e] ta) (hs : starEach [e] X.env = [(false, eval e X.env)] := by rfl) :
    PI X (.Tuple elts kk tpos) (.Call (.Name "enumerate" p) [e] [] pos) (iEnum1 X ta) := by
  refine ⟨fun pins s σ H R I h => ?_⟩
  refine Call_ (ld_blt I hg hm boot_enumerate (PyProof.Rows.callWith_type1 (thn (ha.run pos pins s σ H _ I h) fun us s1 ⟨vs, H1, I1, r1, q1⟩ => ?_) hs rfl))
  obtain ⟨a, xs, ex, q⟩ := q1
  subst ex
  have fresh : ∀ b, b ∈ [s1.heap.objs.size + 1, s1.heap.objs.size] → FpOk X pins H1 b := fun b hb => by
    have e' : b = s1.heap.objs.size + 1 ∨ b = s1.heap.objs.size := by simpa using hb
    have hle : s1.heap.objs.size ≤ b := by
      rcases e' with z | z
      · rw [z]; exact Nat.le_add_right _ _
      · rw [z]; exact Nat.le_refl _
    exact I1.fpOk hle (I1.hok.fresh hle)
  cases r1 with
  | cons r rr =>
    cases rr
    cases r
    rcases q with ⟨hq, q⟩ | ⟨hq, q⟩
    · obtain ⟨its, rv, p', hz⟩ := I1.list hq
      refine call_enumerate_list p'.isList fun h' he hit hsz hk => wpAny_pyIter_enum he ?_
      have I2 : Inv X pins σ H1 { s1 with heap := h' } := I1.kept (t' := s1.toks) hk
      exact ⟨s1.heap.objs.size + 1, [s1.heap.objs.size + 1, s1.heap.objs.size], _, _, H1, rfl, I2, turn_el a (s1.heap.objs.size + 1) s1.heap.objs.size xs, ⟨⟨.none, he⟩, hit, Nat.succ_ne_self _⟩, fresh, q⟩
    · obtain ⟨its, rv, p', hz⟩ := I1.tuple hq
      have pt : s1.heap.IsTuple a its.toArray := p'
      refine rx_call_enum1 (begins_tuple a its.toArray) pt fun h' he hit hsz hk => wpAny_pyIter_enum he ?_
      have I2 : Inv X pins σ H1 { s1 with heap := h' } := I1.kept (t' := s1.toks) hk
      exact ⟨s1.heap.objs.size + 1, [s1.heap.objs.size + 1, s1.heap.objs.size], _, _, H1, rfl, I2, turn_et a (s1.heap.objs.size + 1) s1.heap.objs.size xs, ⟨⟨.none, he⟩, ⟨_, hit, rfl, rfl⟩, Nat.succ_ne_self _⟩, fresh, q⟩
section
variable {X : Cx} {T : Tb} {W : WX} {w : Wd}
def iEn (f : SAr) : SAr := fun s m => (f s m).bind fun ds m => match ds with
  | [d] => (match valsOf d with
    | some ds => .ok (enumD 0 ds) m
    | none => .stuck)
  | _ => .stuck
theorem ri_en {tg iter : Expr} {es : List Expr} {f : SAr} (h : PA X es (rdA X.K X.mg T W f) → PI X tg iter (iEnum1 X (rdA X.K X.mg T W f))) (ha : PA X es (rdA X.K X.mg T W f)) : PI X tg iter (rdI X.K X.mg T W (iEn f)) := (h ha).imp fun σ H Q ⟨w, s, m, R, S, t⟩ => by
  refine ⟨w, s, m, R, S, (Then.bind t).mono fun d m' w' H' t' R' q v hv => ?_⟩
  split at q
  · rename_i d
    cases hv with
    | cons h1 hv =>
      cases hv
      cases h1 with
      | tup hq r => exact ⟨_, _, rfl, .inr ⟨.of (R'.sub _ _ hq), (Then.now q R') _ (itok_e1 (fun H s => .of (s _ _ hq)) r)⟩⟩
      | ktup hq r => exact ⟨_, _, rfl, .inr ⟨same_sqT R'.sub hq, (Then.now q R') _ (itok_e1 (fun H s => same_sqT s hq) r)⟩⟩
      | lst hq r => exact ⟨_, _, rfl, .inl ⟨.of (R'.sub _ _ hq), (Then.now q R') _ (itok_e1 (fun H s => .of (s _ _ hq)) r)⟩⟩
      | scr hq r => exact ⟨_, _, rfl, .inl ⟨R'.sub.seq hq, (Then.now q R') _ (itok_e1 (fun H s => s.seq hq) r)⟩⟩
      | _ => exact q.elim
  · exact q.elim
/-! ### zip of two lists or of two tuples -/
def zipD : List D → List D → List D
  | d :: ds, e :: es => .tup [d, e] :: zipD ds es
  | _, _ => []
theorem zipD_get : ∀ (ds es : List D) (i : Nat) (d : D), (zipD ds es)[i]? = some d → ∃ a b, ds[i]? = some a ∧ es[i]? = some b ∧ d = .tup [a, b]
  | [], es, i, d, h => by simp [zipD] at h
  | a :: ds, [], i, d, h => by simp [zipD] at h
  | a :: ds, b :: es, 0, d, h => by simp [zipD] at h; exact ⟨a, b, by simp, by simp, h.symm⟩
  | a :: ds, b :: es, i + 1, d, h => by
    obtain ⟨a', b', h1, h2, h3⟩ := zipD_get ds es i d (by simpa [zipD] using h)
    exact ⟨a', b', by simpa using h1, by simpa using h2, h3⟩
theorem zipD_len : ∀ (ds es : List D) (i : Nat), (zipD ds es).length ≤ i → ds.length ≤ i ∨ es.length ≤ i
  | [], es, i, h => .inl (Nat.zero_le _)
  | a :: ds, [], i, h => .inr (Nat.zero_le _)
  | a :: ds, b :: es, 0, h => by simp [zipD] at h
  | a :: ds, b :: es, i + 1, h => by
    rcases zipD_len ds es i (by simpa [zipD] using h) with h | h
    · exact .inl (by simpa using h)
    · exact .inr (by simpa using h)
/-- the pairs of two sequences -/
def Itz1 (P : Hp → Prop) (xs ys : List V) : It := ⟨fun i H => P H ∧ i < xs.length ∧ i < ys.length, fun i H v H' => ∃ p x y, v = .ref p ∧ H p = none ∧ H' = upd H p (.tup [x, y]) ∧ xs[i]? = some x ∧ ys[i]? = some y, fun i H => P H ∧ (xs.length ≤ i ∨ ys.length ≤ i)⟩
theorem itok_z1 {K : PySem.W.Frag} {P : Hp → Prop} {xs ys : List V} {ds es : List D} (hP : ∀ H, Same w.g H → P H) (r : DatL K w xs ds) (r' : DatL K w ys es) : ItOk K T (Itz1 P xs ys) w (zipD ds es) where
  go := fun w1 m1 H i d g R e => by
    obtain ⟨a, b, h1, h2, h3⟩ := zipD_get ds es i d e
    have hl := (List.getElem?_eq_some_iff.mp h1).1
    have hl' := (List.getElem?_eq_some_iff.mp h2).1
    refine ⟨⟨hP H (g.g.trans R.sub), by rw [r.length]; exact hl, by rw [r'.length]; exact hl'⟩, fun v H' ⟨p, x, y, e1, e2, e3, e4, e5⟩ => ?_⟩
    subst e1 e3 h3
    obtain ⟨R2, t2⟩ := R.frozen (o := .tup [x, y]) e2
    obtain ⟨d', e6, hd⟩ := r.getv e4
    rw [h1] at e6
    cases e6
    obtain ⟨d', e7, hd'⟩ := r'.getv e5
    rw [h2] at e7
    cases e7
    exact ⟨_, R2, t2, .tup (show upd w1.g p _ p = some (.tup [x, y]) from upd_same) (.cons ((hd.mono g).mono t2.gr) (.cons ((hd'.mono g).mono t2.gr) .nil))⟩
  stop := fun w1 m1 H i g R l => ⟨hP H (g.g.trans R.sub), by rw [r.length, r'.length]; exact zipD_len ds es i l⟩
def iZip1 (X : Cx) (ta : TA) : TI := fun σ H R => ta σ H fun us H1 => ∃ a b xs ys, us = [.ref a, .ref b] ∧ ((SqL X.K H1 a xs ∧ SqL X.K H1 b ys ∧ R (Itz1 (fun H => SqL X.K H a xs ∧ SqL X.K H b ys) xs ys) H1) ∨ (SqT X.K H1 a xs ∧ SqT X.K H1 b ys ∧ R (Itz1 (fun H => SqT X.K H a xs ∧ SqT X.K H b ys) xs ys) H1))
theorem pi_weak {X : Cx} {tg iter : Expr} {t t' : TI} (h : PI X tg iter t) (i : ∀ σ H R, t' σ H R → t σ H fun J H' => ∃ J', (∀ i H, J'.go i H → J.go i H) ∧ (∀ i H, J'.stop i H → J.stop i H) ∧ (∀ i H x H', J'.go i H → J.yld i H x H' → J'.yld i H x H') ∧ R J' H') : PI X tg iter t' := by
  refine ⟨fun pins s σ H R I q => thn (h.run pins s σ H _ I (i σ H R q)) fun v s1 q1 => thn q1 fun itv s2 q2 => ?_⟩
  obtain ⟨it, fp, tn, J, H', e, I2, T, st, f, J', g1, g2, g3, q3⟩ := q2
  exact ⟨it, fp, tn, J', H', e, I2, Turn.weak T g1 g2 g3, st, f, q3⟩
theorem pi_zip1 {X : Cx} {tg iter : Expr} {ta : TA} (h : PI X tg iter (RZ.iZipA X.K ta)) (hm : ∀ (σ : L2.St) (H : Hp) (Q Q' : List V → Hp → Prop), (∀ v H, Q v H → Q' v H) → ta σ H Q → ta σ H Q') : PI X tg iter (iZip1 X ta) := by
  refine pi_weak h fun σ H R q => hm σ H _ _ (fun us H1 q => ?_) q
  obtain ⟨a, b, xs, ys, e, q⟩ := q
  refine ⟨a, b, xs, ys, e, ?_⟩
  rcases q with ⟨h1, h2, q⟩ | ⟨h1, h2, q⟩
  · exact .inl ⟨h1, h2, Itz1 (fun H => SqL X.K H a xs ∧ SqL X.K H b ys) xs ys, fun i H ⟨⟨g1, g2⟩, l1, l2⟩ => ⟨xs, ys, xs[i], ys[i], g1, g2, List.getElem?_eq_getElem l1, List.getElem?_eq_getElem l2⟩, fun i H ⟨⟨g1, g2⟩, l⟩ => ⟨xs, ys, g1, g2, l⟩,
      fun i H x H' ⟨⟨g1, g2⟩, _⟩ ⟨p, x', y', e1, e2, e3, f1, f2⟩ => ⟨p, x', y', e1, e2, e3, f1 xs g1, f2 ys g2⟩, q⟩
  · exact .inr ⟨h1, h2, Itz1 (fun H => SqT X.K H a xs ∧ SqT X.K H b ys) xs ys, fun i H ⟨⟨g1, g2⟩, l1, l2⟩ => ⟨xs, ys, xs[i], ys[i], g1, g2, List.getElem?_eq_getElem l1, List.getElem?_eq_getElem l2⟩, fun i H ⟨⟨g1, g2⟩, l⟩ => ⟨xs, ys, g1, g2, l⟩,
      fun i H x H' ⟨⟨g1, g2⟩, _⟩ ⟨p, x', y', e1, e2, e3, f1, f2⟩ => ⟨p, x', y', e1, e2, e3, f1 xs g1, f2 ys g2⟩, q⟩
theorem rdA_mono {f : SAr} (σ : L2.St) (H : Hp) (Q Q' : List V → Hp → Prop) (i : ∀ v H, Q v H → Q' v H) (h : rdA X.K X.mg T W f σ H Q) : rdA X.K X.mg T W f σ H Q' := by
  obtain ⟨w, s, m, R, S, t⟩ := h
  exact ⟨w, s, m, R, S, t.mono fun a m' w' H' _ _ q v hv => i _ _ (q v hv)⟩
def iZp (f : SAr) : SAr := fun s m => (f s m).bind fun ds m => match ds with
  | [x, y] => (match tupOf x, tupOf y with
    | some xs, some ys => .ok (zipD xs ys) m
    | _, _ => (match x, y with
      | .lst xs, .lst ys => .ok (zipD xs ys) m
      | _, _ => .stuck))
  | _ => .stuck
theorem ri_zp {tg iter : Expr} {es : List Expr} {f : SAr} (h : PA X es (rdA X.K X.mg T W f) → PI X tg iter (RZ.iZipA X.K (rdA X.K X.mg T W f))) (ha : PA X es (rdA X.K X.mg T W f)) : PI X tg iter (rdI X.K X.mg T W (iZp f)) := (pi_zip1 (h ha) rdA_mono).imp fun σ H Q ⟨w, s, m, R, S, t⟩ => by
  refine ⟨w, s, m, R, S, (Then.bind t).mono fun d m' w' H' t' R' q v hv => ?_⟩
  split at q
  · rename_i x y
    cases hv with
    | cons h1 hv =>
      cases hv with
      | cons h2 hv =>
        cases hv
        split at q
        · rename_i xs ys e1 e2
          obtain ⟨a, vs, rfl, hq, r⟩ := tup_at h1 e1
          obtain ⟨b, us, rfl, hq2, r2⟩ := tup_at h2 e2
          exact ⟨_, _, _, _, rfl, .inr ⟨same_sqT R'.sub hq, same_sqT R'.sub hq2, (Then.now q R') _ (itok_z1 (fun H s => ⟨same_sqT s hq, same_sqT s hq2⟩) r r2)⟩⟩
        · split at q
          · cases h1 with
            | lst hq r => cases h2 with
              | lst hq2 r2 => exact ⟨_, _, _, _, rfl, .inl ⟨.of (R'.sub _ _ hq), .of (R'.sub _ _ hq2), (Then.now q R') _ (itok_z1 (fun H s => ⟨.of (s _ _ hq), .of (s _ _ hq2)⟩) r r2)⟩⟩
          · exact q.elim
  · exact q.elim
end
end Rx
set_option Elab.async false
set_option linter.all false
set_option maxRecDepth 100000
set_option maxHeartbeats 1000000
namespace Rx
open PySem PySem.Spec PyProof.Rows L2

/-! ### comprehensions -/
def wipeD (s : Sd) : List Nat → Sd
  | [] => s
  | v :: vs => (wipeD s vs).set v none
theorem Slots.wipe {K : PySem.W.Frag} {w : Wd} {σ : L2.St} {s : Sd} (h : Slots K w σ s) : ∀ vs : List Nat, Slots K w (L2.wipe σ vs) (wipeD s vs)
  | [] => h
  | v :: vs => by
    have ih := Slots.wipe h vs
    refine ⟨by show ((L2.wipe σ vs).set v none).length = ((wipeD s vs).set v none).length; rw [List.length_set, List.length_set]; exact ih.1, fun i d e => ?_⟩
    have e' : ((wipeD s vs).set v none)[i]? = some (some d) := e
    show ∃ u, ((L2.wipe σ vs).set v none)[i]? = some (some u) ∧ _
    by_cases hi : v = i
    · subst hi
      rw [List.getElem?_set] at e'
      simp at e'
    · rw [List.getElem?_set_ne hi] at e' ⊢
      exact ih.2 i d e'
theorem wipe_set : ∀ (vs : List Nat) (σ : L2.St) (i : Nat) (x : Option V), i ∈ vs → L2.wipe (σ.set i x) vs = L2.wipe σ vs
  | [], σ, i, x, h => by simp at h
  | v :: vs, σ, i, x, h => by
    show (L2.wipe (σ.set i x) vs).set v none = (L2.wipe σ vs).set v none
    by_cases hv : i ∈ vs
    · rw [wipe_set vs σ i x hv]
    · have e : i = v := by simpa [hv] using h
      subst e
      have key : ∀ (us : List Nat), i ∉ us → L2.wipe (σ.set i x) us = (L2.wipe σ us).set i x := by
        intro us
        induction us with
        | nil => intro _; rfl
        | cons u us ih =>
          intro hn
          simp only [List.mem_cons, not_or] at hn
          show (L2.wipe (σ.set i x) us).set u none = ((L2.wipe σ us).set u none).set i x
          rw [ih hn.2, List.set_comm _ _ hn.1]
      rw [key vs hv, List.set_set]
theorem wipe_wipe (vs : List Nat) (σ : L2.St) : L2.wipe (L2.wipe σ vs) vs = L2.wipe σ vs := by
  have key : ∀ (us : List Nat), (∀ u ∈ us, u ∈ vs) → ∀ σ, L2.wipe (L2.wipe σ us) vs = L2.wipe σ vs := by
    intro us
    induction us with
    | nil => intro _ _; rfl
    | cons u us ih =>
      intro h σ
      show L2.wipe ((L2.wipe σ us).set u none) vs = _
      rw [wipe_set vs _ u none (h u (List.mem_cons_self ..)), ih (fun v hv => h v (List.mem_cons_of_mem _ hv))]
  exact key vs (fun _ h => h) σ
abbrev gOwn (vs : List Nat) : L2.St → L2.St → Prop := fun σ σ' => L2.wipe σ' vs = L2.wipe σ vs
theorem gOwn_ok (vs : List Nat) : GRel (gOwn vs) := ⟨fun _ => rfl, fun _ _ _ h1 h2 => h2.trans h1⟩
def W0 : WX := fun _ _ _ _ => False
def lcL (g : STg) (tt : SBl) (el : SEx) (s : Sd) : List D → Mu → Res (List D)
  | [], m => .ok [] m
  | d :: ds, m => match g d s with
    | none => .stuck
    | some s1 => match tt s1 m with
      | .ok true m1 => (match el s1 m1 with
        | .ok y m2 => (match lcL g tt el s ds m2 with
          | .ok ys m3 => .ok (y :: ys) m3
          | _ => .stuck)
        | _ => .stuck)
      | .ok false m1 => lcL g tt el s ds m1
      | _ => .stuck
def sLc (src : SAr) (g : STg) (tt : SBl) (el : SEx) (own : List Nat) : SEx := fun s m => (src s m).bind fun ds m1 => if ds.length ≤ 1000000 then (match lcL g tt el (wipeD s own) ds m1 with
  | .ok ys m2 => .ok (.lst ys) m2
  | _ => .stuck) else .stuck
def sLcN (src : SAr) (g : STg) (tt : SBl) (el : SEx) (own : List Nat) : SEx := fun s m => (src s m).bind fun ds m1 => if ds.length ≤ 1000000 then (match lcL g tt el (wipeD s own) ds m1 with
  | .ok ys m2 => .ok (.ref m2.length) (m2 ++ [.lst ys])
  | _ => .stuck) else .stuck
def bYes : SBl := fun _ m => .ok true m
section
variable {K : PySem.W.Frag} {T : Tb} {w w0 : Wd} {m m0 : Mu} {H H0 : Hp}
/-- a thing of ours that is not told is written -/
theorem Rel.poke (R : Rel K T w m H) {p : Addr} {o : HO} (hg : w.g p = none) (hl : ¬ Live w m p) (ht : ∀ ps, H p ≠ some (.tbl ps)) (hc : ∀ q, H p ≠ some (LamX.CodeO p q)) : Rel K T w m (upd H p o) where
  sub := fun b v e => by
    have ne : b ≠ p := fun z => by subst z; rw [hg] at e; cases e
    rw [upd_ne ne]; exact R.sub b v e
  len := R.len
  obj := fun k u a e1 e2 e3 => by
    obtain ⟨q1, q2⟩ := R.obj k u a e1 e2 e3
    have ne : a ≠ p := fun z => by subst z; exact hl ⟨k, u, e2, e1, e3⟩
    exact ⟨q1, q2.same (Gr.refl w) fun z hz _ => by rw [upd_ne ne]; exact hz⟩
  inj := R.inj
  tab := fun q hq => by
    obtain ⟨ps, a1, a2, a3⟩ := R.tab q hq
    refine ⟨ps, by rw [upd_ne (fun z => by rw [z] at a1; exact ht ps a1)]; exact a1, a2, fun pos cv hcv => ?_⟩
    obtain ⟨c0, b1, b2⟩ := a3 pos cv hcv
    exact ⟨c0, b1, by rw [upd_ne (fun z => by rw [← z] at hc; exact hc _ b2)]; exact b2⟩
  nt := R.nt
  tk := R.tk
theorem Tr.poke (t : Tr w0 m0 H0 w m H) {p : Addr} {o : HO} (h0 : H0 p = none) : Tr w0 m0 H0 w m (upd H p o) where
  gr := t.gr
  fr := fun b v e n q => by
    have ne : b ≠ p := fun z => by subst z; rw [h0] at e; cases e
    rw [upd_ne ne]; exact t.fr b v e n q
  li := t.li
  gn := t.gn
/-- a list of ours that stands in the heap is told from now on: it never changes -/
theorem Rel.adopt (R : Rel K T w m H) {p : Addr} {o : HO} (h : H p = some o) (hg : w.g p = none) (hl : ¬ Live w m p) (no : ∀ ps, o ≠ .tbl ps := by intro ps z; cases z) : Rel K T ⟨upd w.g p o, w.r⟩ m H ∧ Gr w ⟨upd w.g p o, w.r⟩ := by
  have G : Gr w ⟨upd w.g p o, w.r⟩ := ⟨same_upd hg, [], by simp⟩
  refine ⟨⟨fun b u e => ?_, R.len, fun k u a e1 e2 e3 => ?_, R.inj, R.tab, fun b ps e => ?_, R.tk.mono G⟩, G⟩
  · have e' : upd w.g p o b = some u := e
    by_cases hb : b = p
    · subst hb; rw [upd_same] at e'; rw [h]; exact e'
    · rw [upd_ne hb] at e'; exact R.sub b u e'
  · obtain ⟨q1, q2⟩ := R.obj k u a e1 e2 e3
    have ne : a ≠ p := fun z => by subst z; exact hl ⟨k, u, e2, e1, e3⟩
    exact ⟨by show upd w.g p o a = none; rw [upd_ne ne]; exact q1, q2.same G fun z hz _ => hz⟩
  · have e' : upd w.g p o b = some (.tbl ps) := e
    by_cases hb : b = p
    · subst hb
      rw [upd_same] at e'
      exact no ps (Option.some.inj e')
    · rw [upd_ne hb] at e'
      exact R.nt b ps e'
theorem Tr.adopt (t : Tr w0 m0 H0 w m H) {p : Addr} {o : HO} (g : Gr w ⟨upd w.g p o, w.r⟩) (h0 : H0 p = none) : Tr w0 m0 H0 ⟨upd w.g p o, w.r⟩ m H := ⟨t.gr.trans g, t.fr, fun a l => t.li a l, fun b u e => by
    have e' : upd w.g p o b = some u := e
    by_cases hb : b = p
    · exact .inr (.inl (by rw [hb]; exact .no h0))
    · rw [upd_ne hb] at e'
      exact t.gn b u e'⟩
/-- .. it may change -/
theorem Rel.adoptN (R : Rel K T w m H) {p : Addr} {vs : List V} {ds : List D} (h : H p = some (.lst vs)) (hd : DatL K w vs ds) (hg : w.g p = none) (hl : ¬ Live w m p) : Rel K T ⟨w.g, w.r ++ [p]⟩ (m ++ [.lst ds]) H := by
  have G : Gr w ⟨w.g, w.r ++ [p]⟩ := ⟨Same.refl _, [p], rfl⟩
  have len := R.len
  have cs : ∀ (k : Nat) (o : MO) (a : Addr), (m ++ [MO.lst ds])[k]? = some o → (w.r ++ [p])[k]? = some a → (m[k]? = some o ∧ w.r[k]? = some a) ∨ (k = m.length ∧ o = .lst ds ∧ a = p) := fun k o a e f => by
    by_cases hk : k < m.length
    · rw [List.getElem?_append_left hk] at e
      rw [List.getElem?_append_left (by omega)] at f
      exact .inl ⟨e, f⟩
    · rw [List.getElem?_append_right (by omega)] at e
      have hk' := (List.getElem?_eq_some_iff.mp e).1
      have e0 : k = m.length := by simp at hk'; omega
      subst e0
      simp at e
      rw [← len] at f
      simp at f
      exact .inr ⟨rfl, e.symm, f.symm⟩
  refine ⟨R.sub, by simp [len], fun k o a e1 e2 e3 => ?_, fun j k o u a e1 e2 e3 e4 e5 e6 => ?_, R.tab, R.nt, R.tk.mono G⟩
  · rcases cs k o a e1 e2 with ⟨f1, f2⟩ | ⟨rfl, rfl, rfl⟩
    · obtain ⟨q1, q2⟩ := R.obj k o a f1 f2 e3
      exact ⟨q1, q2.same G fun z hz _ => hz⟩
    · exact ⟨hg, vs, h, hd.mono G⟩
  · rcases cs j o a e1 e5 with ⟨f1, f2⟩ | ⟨rfl, rfl, rfl⟩
    · rcases cs k u a e2 e6 with ⟨f3, f4⟩ | ⟨rfl, rfl, rfl⟩
      · exact R.inj j k o u a f1 f3 e3 e4 f2 f4
      · exact absurd ⟨j, o, f2, f1, e3⟩ hl
    · rcases cs k u a e2 e6 with ⟨f3, f4⟩ | ⟨rfl, _, _⟩
      · exact absurd ⟨k, u, f4, f3, e4⟩ hl
      · rfl
theorem Tr.adoptN (t : Tr w0 m0 H0 w m H) (len : w.r.length = m.length) {p : Addr} {ds : List D} (h0 : H0 p = none) : Tr w0 m0 H0 ⟨w.g, w.r ++ [p]⟩ (m ++ [.lst ds]) H := ⟨t.gr.trans ⟨Same.refl _, [p], rfl⟩, t.fr, fun a l => by
    obtain ⟨k, o, e1, e2, e3⟩ := l
    have e1 : (w.r ++ [p])[k]? = some a := e1
    by_cases hk : k < m.length
    · rw [List.getElem?_append_left hk] at e2
      rw [List.getElem?_append_left (by omega)] at e1
      exact t.li a ⟨k, o, e1, e2, e3⟩
    · rw [List.getElem?_append_right (by omega)] at e1
      have hk' := (List.getElem?_eq_some_iff.mp e1).1
      have e0 : k = w.r.length := by simp at hk'; omega
      subst e0
      simp at e1
      subst e1
      exact .inr (.no h0), t.gn⟩
end
theorem Then_ok {α : Type} {K mg T W w m H σ} {a : α} {m' : Mu} {k : α → Mu → Wd → Hp → Prop} {r : Res α} (e : r = .ok a m') (h : ∀ w' H', Tr w m H w' m' H' → Rel K T w' m' H' → k a m' w' H') : Then K mg T W w m H σ r k := by subst e; exact h
section
variable {X : Cx} {T : Tb} {W : WX}
/-- what is walked, told from where the walk began -/
structure ItOkT (K : PySem.W.Frag) (T : Tb) (J : It) (w : Wd) (m : Mu) (H0 : Hp) (ds : List D) : Prop where
  go : ∀ (w1 : Wd) (m1 : Mu) (H : Hp) (i : Nat) (d : D), Tr w m H0 w1 m1 H → Rel K T w1 m1 H → ds[i]? = some d → J.go i H ∧ ∀ x H', J.yld i H x H' → ∃ w2, Rel K T w2 m1 H' ∧ Tr w1 m1 H w2 m1 H' ∧ Dat K w2 x d
  stop : ∀ (w1 : Wd) (m1 : Mu) (H : Hp) (i : Nat), Tr w m H0 w1 m1 H → Rel K T w1 m1 H → ds.length ≤ i → J.stop i H
theorem ItOk.toT {K : PySem.W.Frag} {T : Tb} {J : It} {w : Wd} {m : Mu} {H0 : Hp} {ds : List D} (h : ItOk K T J w ds) : ItOkT K T J w m H0 ds := ⟨fun w1 m1 H i d t => h.go w1 m1 H i d t.gr, fun w1 m1 H i t => h.stop w1 m1 H i t.gr⟩
/-- the walk of a comprehension: what stands at the end -/
theorem lc_walk {g : STg} {tt : SBl} {el : SEx} {vs : List Nat} {σ : L2.St} {Q : VK} {ds ys : List D} {s : Sd} {m0 mE : Mu} {w0 : Wd} {H0 : Hp} (R0 : Rel X.K T w0 m0 H0) (S0 : Slots X.K w0 σ s) (hl : ds.length ≤ 1000000)
    (e0 : lcL g tt el (wipeD s vs) ds m0 = .ok ys mE) {J : It} (hJ : ItOkT X.K T J w0 m0 H0 ds)
    (q : ∀ w H (p : Addr) us, Tr w0 m0 H0 w mE H → Rel X.K T w mE H → H0 p = none → H p = some (.lst us) → DatL X.K w us ys → w.g p = none → ¬ Live w mE p → Q (.ref p) H) :
    ∀ D, H0 D = none → ∃ W' : Nat → Nat → Hp → Prop, (∃ m, W' 0 m (upd H0 D (.lst []))) ∧ ∀ i m H, W' i m H →
      (J.stop i H ∧ Q (.ref D) H) ∨ (J.go i H ∧ ∃ Nx : Hp → Prop, (∀ H', Nx H' → ∃ m', m' < m ∧ W' (i + 1) m' H') ∧ ∀ x H', J.yld i H x H' → rdG X.K T (gOwn vs) g x (L2.wipe σ vs) H' fun σ2 H2 => L2.wipe σ2 vs = L2.wipe σ vs ∧ rdB X.K X.mg T W0 tt σ2 H2 fun b H3 =>
        if b = true then rdE X.K X.mg T W0 el σ2 H3 fun y H4 => ∃ acc, H4 D = some (.lst acc) ∧ acc.length < sizeLine ∧ Nx (upd H4 D (.lst (acc ++ [y]))) else Nx H3) := by
  intro D hD
  have gD : w0.g D = none := by
    cases e : w0.g D with
    | none => rfl
    | some u => rw [R0.sub D u e] at hD; cases hD
  have lD : ¬ Live w0 m0 D := fun l => by
    obtain ⟨o, ho, _⟩ := R0.live_ne l
    rw [hD] at ho; cases ho
  -- the state of a turn
  let B : Nat → Hp → Prop := fun i H => ∃ w m acc us rest, Tr w0 m0 H0 w m H ∧ Rel X.K T w m H ∧ H D = some (.lst us) ∧ DatL X.K w us acc ∧ acc.length ≤ i ∧ w.g D = none ∧ ¬ Live w m D ∧ lcL g tt el (wipeD s vs) (ds.drop i) m = .ok rest mE ∧ acc ++ rest = ys
  refine ⟨fun i n H => i + n = ds.length ∧ B i H, ⟨ds.length, by omega, w0, m0, [], [], ys, (Tr.refl _ _ _).poke hD, R0.poke gD lD (fun ps z => by rw [hD] at z; cases z) (fun q z => by rw [hD] at z; cases z), upd_same, .nil, by simp, gD, lD, by simpa using e0, rfl⟩, ?_⟩
  rintro i n H ⟨hn, w, m, acc, us, rest, t, R, hH, dl, al, hg, hl', e, ey⟩
  by_cases hi : i < ds.length
  · right
    have ei : ds[i]? = some ds[i] := List.getElem?_eq_getElem hi
    have ed : ds.drop i = ds[i] :: ds.drop (i + 1) := List.drop_eq_getElem_cons hi
    obtain ⟨go, yl⟩ := hJ.go w m H i ds[i] t R ei
    refine ⟨go, fun H' => i + 1 + (n - 1) = ds.length ∧ B (i + 1) H', fun H' h => ⟨n - 1, by omega, h⟩, fun x H' hy => ?_⟩
    obtain ⟨w2, R2, t2, hx⟩ := yl x H' hy
    -- D stands through a step
    have keepD : ∀ {w w' : Wd} {m m' : Mu} {H H' : Hp} {us : List V}, Tr w m H w' m' H' → H D = some (.lst us) → w.g D = none → ¬ Live w m D → H' D = some (.lst us) ∧ w'.g D = none ∧ ¬ Live w' m' D := fun {w w' m m' H H' us} t h1 h2 h3 => by
      refine ⟨t.fr D _ h1 h3 (fun ps z => by cases z), ?_, fun l => ?_⟩
      · cases e : w'.g D with
        | none => rfl
        | some o =>
          rcases t.gn D o e with e | e | e
          · rw [h2] at e; cases e
          · exact absurd rfl (e _ h1 _)
          · exact absurd e h3
      · rcases t.li D l with l | l
        · exact h3 l
        · obtain ⟨ps, z⟩ := l _ h1; cases z
    obtain ⟨d1, d2, d3⟩ := keepD t2 hH hg hl'
    rw [ed] at e
    unfold lcL at e
    refine ⟨w2, wipeD s vs, m, ds[i], R2, (S0.mono (t.gr.trans t2.gr)).wipe vs, hx, ?_⟩
    cases e1 : g ds[i] (wipeD s vs) with
    | none => rw [e1] at e; cases e
    | some s1 =>
      rw [e1] at e
      simp only at e ⊢
      intro σ2 S2 p2
      refine ⟨by rw [p2]; exact wipe_wipe vs σ, w2, s1, m, R2, S2, ?_⟩
      revert e
      cases tt s1 m with
      | stuck => intro e; cases e
      | exc x m1 => intro e; cases e
      | ok b m1 =>
        intro e w3 H3 t3 R3
        obtain ⟨f1, f2, f3⟩ := keepD t3 d1 d2 d3
        cases b with
        | false =>
          rw [if_neg Bool.false_ne_true]
          exact ⟨by omega, w3, m1, acc, us, rest, t.trans (t2.trans t3), R3, f1, (dl.mono t2.gr).mono t3.gr, by omega, f2, f3, e, ey⟩
        | true =>
          rw [if_pos rfl]
          refine ⟨w3, s1, m1, R3, S2.mono t3.gr, ?_⟩
          revert e
          dsimp only
          cases el s1 m1 with
          | stuck => intro e; cases e
          | exc x m2 => intro e; cases e
          | ok y m2 =>
            dsimp only
            intro e w4 H4 t4 R4 v hv
            obtain ⟨g1, g2, g3⟩ := keepD t4 f1 f2 f3
            revert e
            cases e2 : lcL g tt el (wipeD s vs) (ds.drop (i + 1)) m2 with
            | stuck => intro e; cases e
            | exc x m2 => intro e; cases e
            | ok ys' m3 =>
              intro e
              cases e
              have al2 : us.length ≤ i := by rw [dl.length]; exact al
              refine ⟨us, g1, by rw [sizeLine_eq]; omega, by omega, w4, m2, acc ++ [y], us ++ [v], ys', (t.trans (t2.trans (t3.trans t4))).poke hD, R4.poke g2 g3 (fun ps z => by rw [g1] at z; cases z) (fun q z => by rw [g1] at z; unfold LamX.CodeO at z; cases z), upd_same,
                (((dl.mono t2.gr).mono t3.gr).mono t4.gr).append (.cons hv .nil), by simp; omega, g2, g3, e2, by simpa using ey⟩
  · left
    have ed : ds.drop i = [] := List.drop_eq_nil_of_le (by omega)
    rw [ed] at e
    unfold lcL at e
    cases e
    rw [List.append_nil] at ey
    subst ey
    exact ⟨hJ.stop w _ H i t R (by omega), q w H D us t R hD hH dl hg hl'⟩
/-- [elt for target in iter if ..], as a value that never changes; hlc is the layer's rule (pe_lc, or ps_setLc's first part) -/
theorem rd_lc {src : SAr} {g : STg} {tt : SBl} {el : SEx} {vs : List Nat} {wi : TI} (hw : wi = rdI X.K X.mg T W src) (σ : L2.St) (H : Hp) (Q : VK) (h : rdE X.K X.mg T W (sLc src g tt el vs) σ H Q) :
    tLc wi (rdG X.K T (gOwn vs) g) (rdB X.K X.mg T W0 tt) (rdE X.K X.mg T W0 el) vs σ H Q := by
  subst hw
  obtain ⟨w, s, m, R, S, t⟩ := h
  refine ⟨w, s, m, R, S, (Then.bind t).mono fun ds m0 w0 H0 t0 R0 q J hJ => ?_⟩
  split at q
  · rename_i hl
    split at q
    · rename_i ys mE e0
      exact lc_walk R0 (S.mono t0.gr) hl e0 hJ.toT fun w1 H1 p us t1 R1 h1 h2 h3 h4 h5 => by
        obtain ⟨R2, G⟩ := R1.adopt h2 h4 h5
        exact q _ _ (t1.adopt G h1) R2 _ (.lst (show upd w1.g p _ p = _ from upd_same) (h3.mono G))
    · exact q.elim
  · exact q.elim
theorem rd_lcN {src : SAr} {g : STg} {tt : SBl} {el : SEx} {vs : List Nat} {wi : TI} (hw : wi = rdI X.K X.mg T W src) (σ : L2.St) (H : Hp) (Q : VK) (h : rdE X.K X.mg T W (sLcN src g tt el vs) σ H Q) :
    tLc wi (rdG X.K T (gOwn vs) g) (rdB X.K X.mg T W0 tt) (rdE X.K X.mg T W0 el) vs σ H Q := by
  subst hw
  obtain ⟨w, s, m, R, S, t⟩ := h
  refine ⟨w, s, m, R, S, (Then.bind t).mono fun ds m0 w0 H0 t0 R0 q J hJ => ?_⟩
  split at q
  · rename_i hl
    split at q
    · rename_i ys mE e0
      exact lc_walk R0 (S.mono t0.gr) hl e0 hJ.toT fun w1 H1 p us t1 R1 h1 h2 h3 h4 h5 =>
        q _ _ (t1.adoptN R1.len h1) (R1.adoptN h2 h3 h4 h5) _ (.ref (by show (w1.r ++ [p])[mE.length]? = some p; rw [← R1.len]; simp))
    · exact q.elim
  · exact q.elim
end
/-! ### defs -/
/-- how a def's body is run: the slots at its entry, what is told at its end -/
def fin (r : SRes) : Res D := match r with
  | .ret d m => .ok d m
  | .nx _ m => .ok .non m
  | .exc x _ m => .exc x m
  | _ => .stuck
def run (n : Nat) (b : SSt) (ds : List D) (m : Mu) : Res D := fin (b (ds.map some ++ List.replicate (n - ds.length) none) m)
/-- no handle from n on -/
def D.undr (n : Nat) : D → Bool
  | .ref k => decide (k < n)
  | .tup ds => all ds
  | .lst ds => all ds
  | .scr ds => all ds
  | .ktup ds => all ds
  | _ => true
where all : List D → Bool
  | [] => true
  | d :: ds => D.undr n d && all ds
def MO.undr (n : Nat) : MO → Bool
  | .dead => true
  | .lst ds => D.undr.all n ds
  | .dic kvs => kvs.all fun p => D.undr n p.2
  | .dik kvs => kvs.all fun p => D.undr n p.2
  | .ins _ fs => fs.all fun p => D.undr n p.2
/-- .. the handles that it made are forgotten -/
def trim (n : Nat) (r : Res D) : Res D := match r with
  | .ok d m => if D.undr n d = true ∧ (m.take n).all (MO.undr n) = true ∧ n ≤ m.length then .ok d (m.take n) else .stuck
  | .exc x m => if x.fs.all (fun p => D.undr n p.2) = true ∧ (m.take n).all (MO.undr n) = true ∧ n ≤ m.length then .exc x (m.take n) else .stuck
  | .stuck => .stuck
def runT (n : Nat) (b : SSt) (ds : List D) (m : Mu) : Res D := trim m.length (run n b ds m)
mutual
theorem Dat.cut {K : PySem.W.Frag} {w : Wd} {n : Nat} : ∀ {v d}, Dat K w v d → D.undr n d = true → Dat K ⟨w.g, w.r.take n⟩ v d
  | _, _, .non, _ => .non
  | _, _, .bl b, _ => .bl b
  | _, _, .int b, _ => .int b
  | _, _, .str b, _ => .str b
  | _, _, .tup h r, e => .tup h (DatL.cut r (by simpa only [D.undr] using e))
  | _, _, .lst h r, e => .lst h (DatL.cut r (by simpa only [D.undr] using e))
  | _, _, .scr h r, e => .scr h (DatL.cut r (by simpa only [D.undr] using e))
  | _, _, .ktup h r, e => .ktup h (DatL.cut r (by simpa only [D.undr] using e))
  | _, _, .ref (k := k) h, e => .ref (by
      have hk : k < n := by simpa [D.undr] using e
      show (w.r.take n)[k]? = _
      rw [List.getElem?_take_of_lt hk]; exact h)
theorem DatL.cut {K : PySem.W.Frag} {w : Wd} {n : Nat} : ∀ {v d}, DatL K w v d → D.undr.all n d = true → DatL K ⟨w.g, w.r.take n⟩ v d
  | _, _, .nil, _ => .nil
  | _, _, .cons h r, e => by
    simp only [D.undr.all, Bool.and_eq_true] at e
    exact .cons (Dat.cut h e.1) (DatL.cut r e.2)
end
theorem KvL.cut {K : PySem.W.Frag} {w : Wd} {n : Nat} : ∀ {v d}, KvL K w v d → (d.all fun p => D.undr n p.2) = true → KvL K ⟨w.g, w.r.take n⟩ v d
  | _, _, .nil, _ => .nil
  | _, _, .cons h r, e => by
    simp only [List.all_cons, Bool.and_eq_true] at e
    exact .cons (h.cut e.1) (KvL.cut r e.2)
theorem KiL.cut {κ : Type} {K : PySem.W.Frag} {w : Wd} {n : Nat} : ∀ {v d}, KiL (κ := κ) K w v d → (d.all fun p => D.undr n p.2) = true → KiL K ⟨w.g, w.r.take n⟩ v d
  | _, _, .nil, _ => .nil
  | _, _, .cons h r, e => by
    simp only [List.all_cons, Bool.and_eq_true] at e
    exact .cons (h.cut e.1) (KiL.cut r e.2)
theorem Rel.cut {K : PySem.W.Frag} {T} {w : Wd} {m : Mu} {H : Hp} (R : Rel K T w m H) {n : Nat} (e : (m.take n).all (MO.undr n) = true) (hp : T.w.r.length ≤ n) : Rel K T ⟨w.g, w.r.take n⟩ (m.take n) H where
  sub := R.sub
  len := by show (w.r.take n).length = _; rw [List.length_take, List.length_take, R.len]
  obj := fun k o a e1 e2 e3 => by
    have e2 : (w.r.take n)[k]? = some a := e2
    rw [List.getElem?_take] at e1 e2
    split at e1
    · rename_i hk
      rw [if_pos hk] at e2
      obtain ⟨q1, q2⟩ := R.obj k o a e1 e2 e3
      have eo : MO.undr n o = true := List.all_eq_true.mp e o (List.mem_of_getElem? (i := k) (by rw [List.getElem?_take, if_pos hk]; exact e1))
      refine ⟨q1, ?_⟩
      cases o with
      | dead => trivial
      | lst ds => obtain ⟨vs, h, r⟩ := q2; exact ⟨vs, h, r.cut eo⟩
      | dic ds => obtain ⟨vs, h, r⟩ := q2; exact ⟨vs, h, r.cut eo⟩
      | dik ds => obtain ⟨vs, h, r⟩ := q2; exact ⟨vs, h, r.cut eo⟩
      | ins c fs => obtain ⟨dx, vs, h, r⟩ := q2; exact ⟨dx, vs, h, r.cut eo⟩
    · cases e1
  inj := fun j k o u a e1 e2 e3 e4 e5 e6 => by
    have e5 : (w.r.take n)[j]? = some a := e5
    have e6 : (w.r.take n)[k]? = some a := e6
    rw [List.getElem?_take] at e1 e2 e5 e6
    split at e1
    · split at e2
      · rename_i h1 h2
        rw [if_pos h1] at e5
        rw [if_pos h2] at e6
        exact R.inj j k o u a e1 e2 e3 e4 e5 e6
      · cases e2
    · cases e1
  tab := R.tab
  nt := R.nt
  tk := ⟨R.tk.g, by
    obtain ⟨more, e⟩ := R.tk.r
    refine ⟨more.take (n - T.w.r.length), ?_⟩
    show w.r.take n = _
    rw [e, List.take_append, List.take_of_length_le hp]⟩
theorem Rel.pinned {K : PySem.W.Frag} {T} {w : Wd} {m : Mu} {H : Hp} (R : Rel K T w m H) : T.w.r.length ≤ m.length := by
  obtain ⟨more, e⟩ := R.tk.r
  rw [← R.len, e, List.length_append]
  omega
theorem Tr.cut {w w' : Wd} {m m' : Mu} {H H' : Hp} (t : Tr w m H w' m' H') (l : w.r.length = m.length) : Tr w m H ⟨w'.g, w'.r.take m.length⟩ (m'.take m.length) H' where
  gr := ⟨t.gr.g, [], by
    obtain ⟨more, e⟩ := t.gr.r
    show w'.r.take m.length = w.r ++ []
    rw [e, List.append_nil, ← l, List.take_left]⟩
  fr := t.fr
  li := fun a h => by
    obtain ⟨k, o, e1, e2, e3⟩ := h
    have e1 : (w'.r.take m.length)[k]? = some a := e1
    rw [List.getElem?_take] at e1 e2
    split at e1
    · rename_i hk
      rw [if_pos hk] at e2
      exact t.li a ⟨k, o, e1, e2, e3⟩
    · cases e1
  gn := t.gn
/-- a def's promise: what C tells of it -/
def spI (K : PySem.W.Frag) (mg : Str → Option Value) (T : Tb) (n : Nat) (f : List D → Mu → Res D) : Sp := fun vs H Q E => vs.length = n ∧ ∃ w m ds, Rel K T w m H ∧ DatL K w vs ds ∧
  Then K mg T (fun c d _ H' => E c d H') w m H [] (f ds m) fun d _ w' H' => ∀ v, Dat K w' v d → Q v H'
end Rx
set_option Elab.async false
set_option linter.all false
set_option maxRecDepth 100000
set_option maxHeartbeats 1000000
namespace Rx
open PySem PySem.Spec PyProof.Rows L2
section
variable {P : Program} {w : World} {K : PySem.W.Frag} {mg : Str → Option Value} {base : Heap} {T : Tb}
theorem slots_start {wd : Wd} {vs : List V} {ds : List D} (r : DatL K wd vs ds) (N : List Str) : Slots K wd (L2.start N vs) (ds.map some ++ List.replicate (N.length - ds.length) none) := by
  refine ⟨by unfold L2.start; simp [r.length], fun i d e => ?_⟩
  unfold L2.start
  by_cases hi : i < ds.length
  · rw [List.getElem?_append_left (by simpa using hi), List.getElem?_map] at e
    cases e1 : ds[i]? with
    | none => rw [e1] at e; cases e
    | some d' =>
      rw [e1] at e
      cases e
      obtain ⟨v, e2, hv⟩ := r.get e1
      refine ⟨v, ?_, hv⟩
      rw [List.getElem?_append_left (by simp; rw [r.length]; exact hi), List.getElem?_map, e2]
      rfl
  · rw [List.getElem?_append_right (by simp; omega), List.getElem?_replicate] at e
    split at e <;> cases e
/-- a def that stands in the table: its promise at level k -/
structure Cal (P : Program) (w : World) (K : PySem.W.Frag) (mg : Str → Option Value) (base : Heap) (T : Tb) (k : Nat) (x : Str) (n : Nat) (f : List D → Mu → Res D) : Prop where
  ex : ∃ (fa : Addr) (fd : FuncData) (ps : List Str), FnOk P w K mg base (L2.CX P w) k fa fd ps (spI K mg T n f) ∧ mg x = some (.ref fa) ∧ PySem.W.keepIn K (.ref fa) = true ∧ Binds K fd ps [] ∧ ps.length = n
/-- a def by its body -/
theorem fn_run {x qual : Str} {st : Stmt} {f : Addr} {fd : FuncData} {N ps : List Str} {k : Nat} {b : SSt} (F : Fun K x qual st f fd) (S : FnScope N ps (defScope st))
    (hbody : ∀ (cdv : Value) (A : Around) (outer : List Env) (s : Shared) (H : Hp) (E : XK), Room k (A.deeper (envOfC qual (defScope st) s.heap.objs.size f cdv)) →
      PSs (cxOf (L2.CX P w) P w K mg base N qual (defScope st) f cdv A outer s H E) (defBody st) (rdS K mg T (fun c d _ H => E c d H) b)) :
    FnOk P w K mg base (L2.CX P w) (k + 1) f fd ps (spI K mg T ps.length (run N.length b)) := by
  refine F.okX S (fun vs H Q E h => h.1) fun cdv A outer s H vs Q E hr h => ⟨_, hbody cdv A outer s H E hr, ?_⟩
  obtain ⟨hl, wd, m, ds, R, dl, t⟩ := h
  refine ⟨wd, _, m, R, slots_start dl N, ?_⟩
  unfold run at t
  revert t
  cases b (ds.map some ++ List.replicate (N.length - ds.length) none) m with
  | nx s' m' => exact fun t w' H' σ' tr R' S' => t w' H' tr R' _ .non
  | ret d m' => exact fun t w' H' v tr R' hv => t w' H' tr R' v hv
  | bk _ _ => exact fun t => t.elim
  | ct _ _ => exact fun t => t.elim
  | exc x s' m' => exact fun t w' H' σ' cls dd tr R' S' hx => t w' H' cls dd tr R' hx
  | stuck => exact fun t => t.elim
theorem XRel.cut {K : PySem.W.Frag} {mg} {wd : Wd} {H : Hp} {cls dd x} {n : Nat} (h : XRel K mg wd H cls dd x) (e : x.fs.all (fun p => D.undr n p.2) = true) : XRel K mg ⟨wd.g, wd.r.take n⟩ H cls dd x := ⟨h.1, by
  rcases h.2 with h | ⟨a, vs, e2, e3, h⟩
  · exact .inl h
  · refine .inr ⟨a, vs, e2, e3, fun f d e1 => ?_⟩
    obtain ⟨v, e4, e5⟩ := h f d e1
    exact ⟨v, e4, e5.cut (List.all_eq_true.mp e (f, d) (PySem.mem_of_lookup e1))⟩⟩
/-- .. its handles forgotten -/
theorem fn_runT {x qual : Str} {st : Stmt} {f : Addr} {fd : FuncData} {N ps : List Str} {k : Nat} {b : SSt} (F : Fun K x qual st f fd) (S : FnScope N ps (defScope st))
    (hbody : ∀ (cdv : Value) (A : Around) (outer : List Env) (s : Shared) (H : Hp) (E : XK), Room k (A.deeper (envOfC qual (defScope st) s.heap.objs.size f cdv)) →
      PSs (cxOf (L2.CX P w) P w K mg base N qual (defScope st) f cdv A outer s H E) (defBody st) (rdS K mg T (fun c d _ H => E c d H) b)) :
    FnOk P w K mg base (L2.CX P w) (k + 1) f fd ps (spI K mg T ps.length (runT N.length b)) := by
  refine (fn_run F S hbody).imp fun vs H Q E h => ?_
  obtain ⟨hl, wd, m, ds, R, dl, t⟩ := h
  refine ⟨hl, wd, m, ds, R, dl, ?_⟩
  unfold runT at t
  revert t
  cases run N.length b ds m with
  | ok d m' =>
    intro t w' H' tr R' v hv
    unfold trim at t
    dsimp only at t
    split at t
    · rename_i hc
      exact t _ _ (tr.cut R.len) (R'.cut hc.2.1 R.pinned) v (hv.cut hc.1)
    · exact t.elim
  | exc x m' =>
    intro t w' H' cls dd tr R' hx
    unfold trim at t
    dsimp only at t
    split at t
    · rename_i hc
      exact t _ _ cls dd (tr.cut R.len) (R'.cut hc.2.1 R.pinned) (hx.cut hc.1)
    · exact t.elim
  | stuck => exact fun t => t.elim
end
/-- f(a, ..) -/
def sCall (n : Nat) (f : List D → Mu → Res D) (a : SAr) : SEx := fun s m => (a s m).bind fun ds m => if ds.length = n then f ds m else .stuck
section
variable {X : Cx} {T : Tb} {W : WX} {pos : Pos}
theorem re_call {k : Nat} {x : Str} {n : Nat} {f : List D → Mu → Res D} {a : SAr} {e : Expr} {es : List Expr} {p : Pos} (c : Cal X.prog X.w X.K X.mg X.base T k x n f) (hr : Room k X.A) (tk : Takes X W) (hg : Gl X x) (ha : PA X (e :: es) (rdA X.K X.mg T W a))
    (hdb : (x == ("__debug__" : Str)) = false := by decide) (he : starEach (e :: es) X.env = (false, eval e X.env) :: starEach es X.env := by rfl) (hpl : (backTo pos (starEach es X.env)).any (·.1) = false := by rfl) :
    PE X (.Call (.Name x p) (e :: es) [] pos) (rdE X.K X.mg T W (sCall n f a)) := by
  obtain ⟨fa, fd, ps, F, hm, hk, hb, hn⟩ := c.ex
  refine (pe_callS F hr hg hm hk hb (fun σ => passAt tk σ) ha hdb he hpl).imp fun σ H Q ⟨w, s, m, R, S, t⟩ => ?_
  refine ⟨w, s, m, R, S, (Then.bind t).mono fun ds m' w' H' t' R' q vs hv => ?_⟩
  split at q
  · rename_i hl
    refine ⟨by rw [hv.length]; exact hl, w', m', ds, R', hv, ?_⟩
    revert q
    cases f ds m' with
    | ok d m2 => exact fun q => q
    | exc x m2 => exact fun q => q
    | stuck => exact fun q => q
  · exact q.elim
end
end Rx
set_option Elab.async false
set_option linter.all false
set_option maxRecDepth 100000
set_option maxHeartbeats 1000000
namespace Rx
open PySem PySem.Spec PyProof.Rows L2

/-! ### operations on data -/
/-- a list that is tracked as such -/
def lOf (m : Mu) : D → Option (List D)
  | .lst ds => some ds
  | .ref k => match m[k]? with
    | some (.lst ds) => some ds
    | _ => none
  | _ => none
section
variable {K : PySem.W.Frag} {T : Tb} {w w' : Wd} {m : Mu} {H : Hp}
theorem lst_at (R : Rel K T w m H) {v : V} {d : D} (h : Dat K w v d) {ds : List D} (e : lOf m d = some ds) : ∃ a vs, v = .ref a ∧ DatL K w vs ds ∧ H a = some (.lst vs) := by
  cases h with
  | lst hq r => cases e; exact ⟨_, _, rfl, r, R.sub _ _ hq⟩
  | @ref a k hk =>
    unfold lOf at e
    simp only at e
    split at e
    · rename_i ds' e1
      cases e
      obtain ⟨q1, vs, q2, q3⟩ := R.obj k _ a e1 hk rfl
      exact ⟨a, vs, rfl, q3, q2⟩
    · cases e
  | _ => cases e
end
/-! data as a whole -/
def pyD : D → PyData
  | .non => .none
  | .bl b => .bool b
  | .int i => .int i
  | .str x => .str x
  | .tup ds => .tuple (pyL ds)
  | .lst ds => .list (pyL ds)
  | .scr ds => .list (pyL ds)
  | .ktup ds => .tuple (pyL ds)
  | .ref _ => .none
where pyL : List D → List PyData
  | [] => []
  | d :: ds => pyD d :: pyL ds
mutual
theorem dp_of {K : PySem.W.Frag} {w : Wd} {H : Hp} (s : Same w.g H) : ∀ {v d}, Dat K w v d → D.undr 0 d = true → Dp K H v (pyD d)
  | _, _, .non, _ => by unfold pyD; exact .non
  | _, _, .bl b, _ => by unfold pyD; exact .bl b
  | _, _, .int b, _ => by unfold pyD; exact .int b
  | _, _, .str b, _ => by unfold pyD; exact .str b
  | _, _, .tup h r, e => by unfold pyD; exact .tup (.of (s _ _ h)) (dpL_of s r (by simpa only [D.undr] using e))
  | _, _, .ktup h r, e => by unfold pyD; exact .tup (same_sqT s h) (dpL_of s r (by simpa only [D.undr] using e))
  | _, _, .lst h r, e => by unfold pyD; exact .lst (.of (s _ _ h)) (dpL_of s r (by simpa only [D.undr] using e))
  | _, _, .scr h r, e => by unfold pyD; exact .lst (s.seq h) (dpL_of s r (by simpa only [D.undr] using e))
  | _, _, .ref (k := k) h, e => by simp [D.undr] at e
theorem dpL_of {K : PySem.W.Frag} {w : Wd} {H : Hp} (s : Same w.g H) : ∀ {v d}, DatL K w v d → D.undr.all 0 d = true → DpAll K H v (pyD.pyL d)
  | _, _, .nil, _ => by unfold pyD.pyL; exact .nil
  | _, _, .cons h r, e => by
    simp only [D.undr.all, Bool.and_eq_true] at e
    unfold pyD.pyL
    exact .cons (dp_of s h e.1) (dpL_of s r e.2)
end
/-- data that == may be asked of: no handles, not too deep -/
def okD (d : D) : Bool := D.undr 0 d && SeqAt.shaped (pyD d)
def deref (m : Mu) (d : D) : D := match d with
  | .ref k => (match m[k]? with
    | some (.lst ds) => .lst ds
    | _ => .ref k)
  | d => d
theorem dp_at {K : PySem.W.Frag} {T} {w : Wd} {m : Mu} {H : Hp} (R : Rel K T w m H) {v : V} {d : D} (h : Dat K w v d) (e : okD (deref m d) = true) : Dp K H v (pyD (deref m d)) ∧ SeqAt.shaped (pyD (deref m d)) = true := by
  unfold okD at e
  rw [Bool.and_eq_true] at e
  refine ⟨?_, e.2⟩
  cases h with
  | @ref a k hk =>
    unfold deref at e ⊢
    simp only at e ⊢
    split at e
    · rename_i ds e1
      obtain ⟨q1, vs, q2, q3⟩ := R.obj k _ a e1 hk rfl
      have e0 := e.1
      simp only [D.undr] at e0
      unfold pyD
      exact .lst (.of q2) (dpL_of R.sub q3 e0)
    · have := e.1
      simp [D.undr] at this
  | non => exact dp_of R.sub .non e.1
  | bl b => exact dp_of R.sub (.bl b) e.1
  | int b => exact dp_of R.sub (.int b) e.1
  | str b => exact dp_of R.sub (.str b) e.1
  | tup h r => exact dp_of R.sub (.tup h r) e.1
  | ktup h r => exact dp_of R.sub (.ktup h r) e.1
  | lst h r => exact dp_of R.sub (.lst h r) e.1
  | scr h r => exact dp_of R.sub (.scr h r) e.1
def dEqv (x y : D) : Bool := PyData.eqv (pyD x) (pyD y)
def dEq (x y : D) (m : Mu) : Res D := if okD (deref m x) = true ∧ okD (deref m y) = true then .ok (.bl (dEqv (deref m x) (deref m y))) m else .stuck
def dNe (x y : D) (m : Mu) : Res D := if okD (deref m x) = true ∧ okD (deref m y) = true then .ok (.bl (!dEqv (deref m x) (deref m y))) m else .stuck
def dIn (x y : D) (m : Mu) : Res D := match seqOf m y with
  | some (_, ds) => if okD x = true ∧ okD (.lst ds) = true then .ok (.bl (ds.any fun z => dEqv z x)) m else .stuck
  | none => .stuck
def dNotIn (x y : D) (m : Mu) : Res D := match seqOf m y with
  | some (_, ds) => if okD x = true ∧ okD (.lst ds) = true then .ok (.bl (!ds.any fun z => dEqv z x)) m else .stuck
  | none => .stuck
def dAdd (x y : D) (m : Mu) : Res D := match x, y with
  | .int i, .int j => .ok (.int (i + j)) m
  | .str i, .str j => if i.length + j.length ≤ 1000000 then .ok (.str (i ++ j)) m else .stuck
  | .tup a, .tup b => if a.length + b.length ≤ 1000000 then .ok (.tup (a ++ b)) m else .stuck
  | x, y => match lOf m x, lOf m y with
    | some a, some b => if a.length + b.length ≤ 1000000 then .ok (.lst (a ++ b)) m else .stuck
    | _, _ => .stuck
def dSub (x y : D) (m : Mu) : Res D := match x, y with
  | .int i, .int j => .ok (.int (i - j)) m
  | _, _ => .stuck
def dMul (x y : D) (m : Mu) : Res D := match x, y with
  | .int i, .int j => if (-(2 ^ 64) < i ∧ i < 2 ^ 64) ∨ (-(2 ^ 64) < j ∧ j < 2 ^ 64) then .ok (.int (i * j)) m else .stuck
  | x, .int k => match lOf m x with
    | some a => if 0 ≤ k ∧ k ≤ 1000 ∧ a.length ≤ 1000 then .ok (.lst (List.replicate k.toNat a).flatten) m else .stuck
    | none => .stuck
  | _, _ => .stuck
def dMulN (x y : D) (m : Mu) : Res D := match x, y with
  | x, .int k => match lOf m x with
    | some a => if 0 ≤ k ∧ k ≤ 1000 ∧ a.length ≤ 1000 then .ok (.ref m.length) (m ++ [.lst (List.replicate k.toNat a).flatten]) else .stuck
    | none => .stuck
  | _, _ => .stuck
def dAddN (x y : D) (m : Mu) : Res D := match lOf m x, lOf m y with
    | some a, some b => if a.length + b.length ≤ 1000000 then .ok (.ref m.length) (m ++ [.lst (a ++ b)]) else .stuck
    | _, _ => .stuck
def dDiv (x y : D) (m : Mu) : Res D := match x, y with
  | .int i, .int j => if 0 < j ∧ j < 1073741824 then .ok (.int (i / j)) m else .stuck
  | _, _ => .stuck
def dMod (x y : D) (m : Mu) : Res D := match x, y with
  | .int i, .int j => if 0 < j then .ok (.int (i % j)) m else .stuck
  | _, _ => .stuck
def dPow (x y : D) (m : Mu) : Res D := match x, y with
  | .int i, .int j => if 0 ≤ j ∧ j ≤ 1000000 ∧ i.natAbs < 2 ^ 64 then .ok (.int (i ^ j.toNat)) m else .stuck
  | _, _ => .stuck
def dNeg (x : D) (m : Mu) : Res D := match x with
  | .int i => .ok (.int (-i)) m
  | _ => .stuck
def dLt (x y : D) (m : Mu) : Res D := match x, y with
  | .int i, .int j => .ok (.bl (decide (i < j))) m
  | _, _ => .stuck
def dLe (x y : D) (m : Mu) : Res D := match x, y with
  | .int i, .int j => .ok (.bl (decide (i ≤ j))) m
  | _, _ => .stuck
def dGt (x y : D) (m : Mu) : Res D := match x, y with
  | .int i, .int j => .ok (.bl (decide (j < i))) m
  | _, _ => .stuck
def dGe (x y : D) (m : Mu) : Res D := match x, y with
  | .int i, .int j => .ok (.bl (decide (j ≤ i))) m
  | _, _ => .stuck
def isNon : D → Bool
  | .non => true
  | _ => false
def dIsN (x y : D) (m : Mu) : Res D := match y with
  | .non => .ok (.bl (isNon x)) m
  | _ => .stuck
def dNotN (x y : D) (m : Mu) : Res D := match y with
  | .non => .ok (.bl (!isNon x)) m
  | _ => .stuck
def dIx (x y : D) (m : Mu) : Res D := match y with
  | .int i => (match seqOf m x with
    | some (_, ds) => (match atI ds i with
      | some d => .ok d m
      | none => .stuck)
    | none => .stuck)
  | _ => .stuck
/-- what a rule asks of values, from what is told of data -/
def Ru2 (X : Cx) (T : Tb) (W : WX) (r : R2) (g : D → D → Mu → Res D) : Prop := ∀ (w : Wd) (m : Mu) (H : Hp) (σ : L2.St) (x y : D) (u v : V) (Q : VK), Rel X.K T w m H → Dat X.K w u x → Dat X.K w v y → Then X.K X.mg T W w m H σ (g x y m) (fun d _ w' H' => ∀ v, Dat X.K w' v d → Q v H') → r u v H Q
section
variable {X : Cx} {T : Tb} {W : WX} {pos : Pos}
theorem ru_eq : Ru2 X T W (rEqD X.K) dEq := fun w m H σ x y u v Q R hu hv t => by
  unfold dEq at t
  split at t
  · rename_i hc
    obtain ⟨a1, a2⟩ := dp_at R hu hc.1
    obtain ⟨b1, b2⟩ := dp_at R hv hc.2
    exact ⟨_, _, a1, b1, a2, b2, t.now R _ (.bl _)⟩
  · exact t.elim
theorem ru_ne : Ru2 X T W (rNeD X.K) dNe := fun w m H σ x y u v Q R hu hv t => by
  unfold dNe at t
  split at t
  · rename_i hc
    obtain ⟨a1, a2⟩ := dp_at R hu hc.1
    obtain ⟨b1, b2⟩ := dp_at R hv hc.2
    exact ⟨_, _, a1, b1, a2, b2, t.now R _ (.bl _)⟩
  · exact t.elim
theorem pyL_any (x : D) : ∀ ds : List D, ((pyD.pyL ds).any fun z => PyData.eqv z (pyD x)) = ds.any fun z => dEqv z x
  | [] => rfl
  | d :: ds => by
    unfold pyD.pyL
    rw [List.any_cons, List.any_cons, pyL_any x ds]
    rfl
/-- in of a list or a tuple -/
def rInA (K : PySem.W.Frag) (neg : Bool) : R2 := fun x y H Q => ∃ d ds, Dp K H x d ∧ (Dp K H y (.list ds) ∨ Dp K H y (.tuple ds)) ∧ SeqAt.shaped d = true ∧ SeqAt.shaped (.list ds) = true ∧ Q (.bl (if neg then !ds.any fun z => PyData.eqv z d else ds.any fun z => PyData.eqv z d)) H
theorem op_inA (hu : X.A.units + 65 < cLine) : OpR X (compareOp .In) (rInA X.K false) := by
  intro pins s σ H x y v u Q I rx ry h
  obtain ⟨d, ds, hd, he, sd, se, q⟩ := h
  obtain ⟨as, r1⟩ := Dp.reads I d x v hd rx
  rcases he with he | he
  · obtain ⟨bs, r2⟩ := Dp.reads I (.list ds) y u he ry
    exact SeqAt.in_list_reads r2 r1 (SeqAt.canLay_of_shaped se) (SeqAt.canLay_of_shaped sd) (room_in_shaped sd hu) ⟨.bl _, H, I, rfl, q⟩
  · obtain ⟨bs, r2⟩ := Dp.reads I (.tuple ds) y u he ry
    exact SeqAt.in_tuple_reads r2 r1 (SeqAt.canLay_of_shaped se) (SeqAt.canLay_of_shaped sd) (room_in_shaped sd hu) ⟨.bl _, H, I, rfl, q⟩
theorem op_notInA (hu : X.A.units + 65 < cLine) : OpR X (compareOp .NotIn) (rInA X.K true) := by
  intro pins s σ H x y v u Q I rx ry h
  obtain ⟨d, ds, hd, he, sd, se, q⟩ := h
  obtain ⟨as, r1⟩ := Dp.reads I d x v hd rx
  rcases he with he | he
  · obtain ⟨bs, r2⟩ := Dp.reads I (.list ds) y u he ry
    exact SeqAt.notIn_list_reads r2 r1 (SeqAt.canLay_of_shaped se) (SeqAt.canLay_of_shaped sd) (room_in_shaped sd hu) ⟨.bl _, H, I, rfl, q⟩
  · obtain ⟨bs, r2⟩ := Dp.reads I (.tuple ds) y u he ry
    exact SeqAt.notIn_tuple_reads r2 r1 (SeqAt.canLay_of_shaped se) (SeqAt.canLay_of_shaped sd) (room_in_shaped sd hu) ⟨.bl _, H, I, rfl, q⟩
theorem in_help {w : Wd} {m : Mu} {H : Hp} {x y : D} {u v : V} {b : Bool} {ds : List D} (R : Rel X.K T w m H) (hu : Dat X.K w u x) (hv : Dat X.K w v y) (e : seqOf m y = some (b, ds)) (h1 : okD x = true) (h2 : okD (.lst ds) = true) :
    Dp X.K H u (pyD x) ∧ (Dp X.K H v (.list (pyD.pyL ds)) ∨ Dp X.K H v (.tuple (pyD.pyL ds))) ∧ SeqAt.shaped (pyD x) = true ∧ SeqAt.shaped (.list (pyD.pyL ds)) = true := by
  unfold okD at h1 h2
  rw [Bool.and_eq_true] at h1 h2
  refine ⟨dp_of R.sub hu h1.1, ?_, h1.2, by have := h2.2; unfold pyD at this; exact this⟩
  obtain ⟨a, vs, rfl, r, hq⟩ := seq_at R hv e
  have h3 : D.undr.all 0 ds = true := by have := h2.1; simpa only [D.undr] using this
  rcases hq with ⟨_, hq⟩ | ⟨_, hq⟩
  · exact .inl (.lst hq (dpL_of R.sub r h3))
  · exact .inr (.tup hq (dpL_of R.sub r h3))
theorem ru_in : Ru2 X T W (rInA X.K false) dIn := fun w m H σ x y u v Q R hu hv t => by
  unfold dIn at t
  split at t
  · rename_i b ds e
    split at t
    · rename_i hc
      obtain ⟨a1, a2, a3, a4⟩ := in_help R hu hv e hc.1 hc.2
      refine ⟨_, _, a1, a2, a3, a4, ?_⟩
      rw [if_neg Bool.false_ne_true, pyL_any]
      exact t.now R _ (.bl _)
    · exact t.elim
  · exact t.elim
theorem ru_notin : Ru2 X T W (rInA X.K true) dNotIn := fun w m H σ x y u v Q R hu hv t => by
  unfold dNotIn at t
  split at t
  · rename_i b ds e
    split at t
    · rename_i hc
      obtain ⟨a1, a2, a3, a4⟩ := in_help R hu hv e hc.1 hc.2
      refine ⟨_, _, a1, a2, a3, a4, ?_⟩
      rw [if_pos rfl, pyL_any]
      exact t.now R _ (.bl _)
    · exact t.elim
  · exact t.elim
theorem line6 {n : Nat} (h : n ≤ 1000000) : n ≤ sizeLine := by rw [sizeLine_eq]; omega
/-- + : ints, texts, tuples, lists -/
def rAddA (K : PySem.W.Frag) : R2 := fun x y H Q => (rI0 (fun i j => .int (i + j)) x y H Q) ∨ (∃ i j, x = .str i ∧ y = .str j ∧ i.length + j.length ≤ sizeLine ∧ Q (.str (i ++ j)) H) ∨ rCatA K x y H Q ∨ rCat x y H Q
theorem op_addA : OpR X (binaryOp .Add) (rAddA X.K) := op_add.or (op_add_str.or (op_catA.or op_cat))
theorem ru_add : Ru2 X T W (rAddA X.K) dAdd := fun w m H σ x y u v Q R hu hv t => by
  unfold dAdd at t
  split at t
  · cases hu; cases hv; exact .inl ⟨_, _, rfl, rfl, t.now R _ (.int _)⟩
  · split at t
    · rename_i hl
      cases hu; cases hv; exact .inr (.inl ⟨_, _, rfl, rfl, line6 hl, t.now R _ (.str _)⟩)
    · exact t.elim
  · rename_i a b
    split at t
    · rename_i hl
      cases hu with
      | tup h1 r1 => cases hv with
        | tup h2 r2 =>
          refine .inr (.inr (.inl ⟨_, _, _, _, rfl, rfl, .of (R.sub _ _ h1), .of (R.sub _ _ h2), by rw [r1.length, r2.length]; exact line6 hl, fun e => ?_, fun e e2 => ?_, fun e e2 p hp => fin_frozen R t hp fun w' g e3 => .tup e3 ((r1.append r2).mono g)⟩))
          · subst e; cases r1; exact t.now R _ (.tup h2 r2)
          · subst e2; cases r2; rw [List.append_nil] at t; exact t.now R _ (.tup h1 r1)
    · exact t.elim
  · split at t
    · rename_i a b e1 e2
      split at t
      · rename_i hl
        obtain ⟨p, us, rfl, r1, h1⟩ := lst_at R hu e1
        obtain ⟨q, vs, rfl, r2, h2⟩ := lst_at R hv e2
        exact .inr (.inr (.inr ⟨_, _, _, _, rfl, rfl, h1, h2, by rw [r1.length, r2.length]; exact line6 hl, fun p hp => fin_frozen R t hp fun w' g e3 => .lst e3 ((r1.append r2).mono g)⟩))
      · exact t.elim
    · exact t.elim
/-- the end of an operation that lays a list that may change -/
theorem fin_new {w : Wd} {m : Mu} {H : Hp} {σ : L2.St} {ds : List D} {vs : List V} {Q : VK} (R : Rel X.K T w m H) (t : Then X.K X.mg T W w m H σ (.ok (.ref m.length) (m ++ [.lst ds])) (fun d _ w' H' => ∀ v, Dat X.K w' v d → Q v H')) (r : DatL X.K w vs ds) {p : Addr} (hp : H p = none) : Q (.ref p) (upd H p (.lst vs)) := by
  obtain ⟨R1, t1⟩ := R.fresh (u := .lst ds) (o := .lst vs) hp rfl fun w' g => ⟨vs, upd_same, r.mono g⟩
  exact t _ _ t1 R1 _ (.ref (by show (w.r ++ [p])[m.length]? = some p; rw [← R.len]; simp))
theorem ru_addN : Ru2 X T W rCat dAddN := fun w m H σ x y u v Q R hu hv t => by
  unfold dAddN at t
  split at t
  · rename_i a b e1 e2
    split at t
    · rename_i hl
      obtain ⟨p, us, rfl, r1, h1⟩ := lst_at R hu e1
      obtain ⟨q, vs, rfl, r2, h2⟩ := lst_at R hv e2
      exact ⟨_, _, _, _, rfl, rfl, h1, h2, by rw [r1.length, r2.length]; exact line6 hl, fun p hp => fin_new R t (r1.append r2) hp⟩
    · exact t.elim
  · exact t.elim
theorem ru_sub : Ru2 X T W (rI0 fun i j => .int (i - j)) dSub := fun w m H σ x y u v Q R hu hv t => by
  unfold dSub at t
  split at t
  · cases hu; cases hv; exact ⟨_, _, rfl, rfl, t.now R _ (.int _)⟩
  · exact t.elim
theorem DatL.rep {K : PySem.W.Frag} {w : Wd} {vs ds} (h : DatL K w vs ds) : ∀ n : Nat, DatL K w (List.replicate n vs).flatten (List.replicate n ds).flatten
  | 0 => .nil
  | n + 1 => by
    rw [List.replicate_succ, List.replicate_succ, List.flatten_cons, List.flatten_cons]
    exact h.append (DatL.rep h n)
def rMulA : R2 := fun x y H Q => (rI CMul (fun i j => .int (i * j)) x y H Q) ∨ rRep x y H Q
theorem op_mulA : OpR X (binaryOp .Mult) rMulA := op_mul.or op_rep
theorem rep_help {k : Int} {n : Nat} (h0 : 0 ≤ k) (h1 : k ≤ 1000) (h2 : n ≤ 1000) : -(2 ^ 63) ≤ k ∧ k < 2 ^ 63 ∧ n * k.toNat ≤ sizeLine := by
  have h3 : n * k.toNat ≤ 1000 * 1000 := Nat.mul_le_mul h2 (by omega)
  rw [sizeLine_eq]
  refine ⟨by omega, by omega, by omega⟩
theorem ru_mul : Ru2 X T W rMulA dMul := fun w m H σ x y u v Q R hu hv t => by
  unfold dMul at t
  split at t
  · split at t
    · rename_i hc
      cases hu; cases hv; exact .inl ⟨_, _, rfl, rfl, hc, t.now R _ (.int _)⟩
    · exact t.elim
  · split at t
    · rename_i a e
      split at t
      · rename_i hc
        obtain ⟨p, us, rfl, r1, h1⟩ := lst_at R hu e
        cases hv
        obtain ⟨b1, b2, b3⟩ := rep_help hc.1 hc.2.1 hc.2.2
        exact .inr ⟨_, _, _, rfl, rfl, h1, b1, b2, by rw [r1.length]; exact b3, fun p hp => fin_frozen R t hp fun w' g e3 => .lst e3 ((r1.rep _).mono g)⟩
      · exact t.elim
    · exact t.elim
  · exact t.elim
theorem ru_mulN : Ru2 X T W rRep dMulN := fun w m H σ x y u v Q R hu hv t => by
  unfold dMulN at t
  split at t
  · split at t
    · rename_i a e
      split at t
      · rename_i hc
        obtain ⟨p, us, rfl, r1, h1⟩ := lst_at R hu e
        cases hv
        obtain ⟨b1, b2, b3⟩ := rep_help hc.1 hc.2.1 hc.2.2
        exact ⟨_, _, _, rfl, rfl, h1, b1, b2, by rw [r1.length]; exact b3, fun p hp => fin_new R t (r1.rep _) hp⟩
      · exact t.elim
    · exact t.elim
  · exact t.elim
theorem ru_div : Ru2 X T W (rI CDiv fun i j => .int (i / j)) dDiv := fun w m H σ x y u v Q R hu hv t => by
  unfold dDiv at t
  split at t
  · split at t
    · rename_i hc
      cases hu; cases hv; exact ⟨_, _, rfl, rfl, hc, t.now R _ (.int _)⟩
    · exact t.elim
  · exact t.elim
theorem ru_mod : Ru2 X T W (rI (fun _ j => 0 < j) fun i j => .int (i % j)) dMod := fun w m H σ x y u v Q R hu hv t => by
  unfold dMod at t
  split at t
  · split at t
    · rename_i hc
      cases hu; cases hv; exact ⟨_, _, rfl, rfl, hc, t.now R _ (.int _)⟩
    · exact t.elim
  · exact t.elim
theorem ru_pow : Ru2 X T W (rI CPow fun i j => .int (i ^ j.toNat)) dPow := fun w m H σ x y u v Q R hu hv t => by
  unfold dPow at t
  split at t
  · split at t
    · rename_i hc
      cases hu; cases hv; exact ⟨_, _, rfl, rfl, hc, t.now R _ (.int _)⟩
    · exact t.elim
  · exact t.elim
theorem ru_lt : Ru2 X T W (rI0 fun i j => .bl (decide (i < j))) dLt := fun w m H σ x y u v Q R hu hv t => by
  unfold dLt at t
  split at t
  · cases hu; cases hv; exact ⟨_, _, rfl, rfl, t.now R _ (.bl _)⟩
  · exact t.elim
theorem ru_le : Ru2 X T W (rI0 fun i j => .bl (decide (i ≤ j))) dLe := fun w m H σ x y u v Q R hu hv t => by
  unfold dLe at t
  split at t
  · cases hu; cases hv; exact ⟨_, _, rfl, rfl, t.now R _ (.bl _)⟩
  · exact t.elim
theorem ru_gt : Ru2 X T W (rI0 fun i j => .bl (decide (j < i))) dGt := fun w m H σ x y u v Q R hu hv t => by
  unfold dGt at t
  split at t
  · cases hu; cases hv; exact ⟨_, _, rfl, rfl, t.now R _ (.bl _)⟩
  · exact t.elim
theorem ru_ge : Ru2 X T W (rI0 fun i j => .bl (decide (j ≤ i))) dGe := fun w m H σ x y u v Q R hu hv t => by
  unfold dGe at t
  split at t
  · cases hu; cases hv; exact ⟨_, _, rfl, rfl, t.now R _ (.bl _)⟩
  · exact t.elim
theorem isNon_of {K : PySem.W.Frag} {w : Wd} {u : V} {x : D} (h : Dat K w u x) : decide (u = .non) = isNon x := by
  cases h <;> simp [isNon]
theorem ru_isN : Ru2 X T W (fun x y H Q => y = .non ∧ Q (.bl (decide (x = .non))) H) dIsN := fun w m H σ x y u v Q R hu hv t => by
  unfold dIsN at t
  split at t
  · cases hv; refine ⟨rfl, ?_⟩; rw [isNon_of hu]; exact t.now R _ (.bl _)
  · exact t.elim
theorem ru_notN : Ru2 X T W (fun x y H Q => y = .non ∧ Q (.bl (!decide (x = .non))) H) dNotN := fun w m H σ x y u v Q R hu hv t => by
  unfold dNotN at t
  split at t
  · cases hv; refine ⟨rfl, ?_⟩; rw [isNon_of hu]; exact t.now R _ (.bl _)
  · exact t.elim
theorem atI_dat {K : PySem.W.Frag} {w : Wd} {vs : List V} {ds : List D} (r : DatL K w vs ds) {i : Int} {d : D} (e : atI ds i = some d) : ∃ v, atI vs i = some v ∧ Dat K w v d := by
  unfold atI at e ⊢
  rw [r.length]
  cases h : ixN ds.length i with
  | none => rw [h] at e; cases e
  | some j => rw [h] at e; exact r.get e
theorem ru_ix : Ru2 X T W (rIx X.K) dIx := fun w m H σ x y u v Q R hu hv t => by
  unfold dIx at t
  split at t
  · split at t
    · rename_i b ds e
      split at t
      · rename_i d e1
        cases hv
        obtain ⟨a, vs, rfl, r, hq⟩ := seq_at R hu e
        obtain ⟨v, e2, hd⟩ := atI_dat r e1
        rcases hq with ⟨_, hq⟩ | ⟨_, hq⟩
        · exact .inl ⟨_, _, _, _, rfl, rfl, hq, e2, t.now R _ hd⟩
        · exact .inr (.inl ⟨_, _, _, _, rfl, rfl, hq, e2, t.now R _ hd⟩)
      · exact t.elim
    · exact t.elim
  · exact t.elim
theorem re_bin {op : Operator} {r : R2} {a b : Expr} {f1 f2 : SEx} {g : D → D → Mu → Res D} (ho : OpR X (binaryOp op) r) (hr : Ru2 X T W r g) (ha : PE X a (rdE X.K X.mg T W f1)) (hb : PE X b (rdE X.K X.mg T W f2)) : PE X (.BinOp a op b pos) (rdE X.K X.mg T W (s2 g f1 f2)) := re_two (pe_op ho) ha hb hr
theorem re_cmp {op : CmpOp} {r : R2} {a b : Expr} {f1 f2 : SEx} {g : D → D → Mu → Res D} (ho : OpR X (compareOp op) r) (hr : Ru2 X T W r g) (ha : PE X a (rdE X.K X.mg T W f1)) (hb : PE X b (rdE X.K X.mg T W f2)) (hm : behindInMarks op b = false) : PE X (.Compare a [op] [b] pos) (rdE X.K X.mg T W (s2 g f1 f2)) := re_two (fun ha hb => pe_cmpR ho ha hb hm) ha hb hr
theorem re_ix {a b : Expr} {f1 f2 : SEx} (ha : PE X a (rdE X.K X.mg T W f1)) (hb : PE X b (rdE X.K X.mg T W f2)) (hs : PlainIx b) : PE X (.Subscript a b pos) (rdE X.K X.mg T W (s2 dIx f1 f2)) := re_two (fun ha hb => pe_ix ix_seq ha hb hs) ha hb ru_ix
theorem re_neg {a : Expr} {f : SEx} (ha : PE X a (rdE X.K X.mg T W f)) : PE X (.UnaryOp .USub a pos) (rdE X.K X.mg T W (s1 dNeg f)) := re_one (fun h => pe_un un_neg h) ha fun w m H σ x u Q R hu t => by
  unfold dNeg at t
  split at t
  · cases hu; exact ⟨_, rfl, t.now R _ (.int _)⟩
  · exact t.elim
/-! tests -/
def sTst (f : SEx) : SBl := fun s m => (f s m).bind fun d m => match d with
  | .bl b => .ok b m
  | _ => .stuck
def bNot (c : SBl) : SBl := fun s m => (c s m).bind fun b m => .ok (!b) m
def bAnd (c d : SBl) : SBl := fun s m => (c s m).bind fun b m => if b = true then d s m else .ok false m
def bOr (c d : SBl) : SBl := fun s m => (c s m).bind fun b m => if b = true then .ok true m else d s m
theorem rt_of {e : Expr} {f : SEx} {t : TE} (h : PT X e (tTest t)) (i : ∀ σ H Q, rdE X.K X.mg T W f σ H Q → t σ H Q) : PT X e (rdB X.K X.mg T W (sTst f)) := h.imp fun σ H Q ⟨w, s, m, R, S, t⟩ => i _ _ _ ⟨w, s, m, R, S, (Then.bind t).mono fun d m' w' H' t' R' q v hv => by
  split at q
  · cases hv; exact ⟨_, rfl, q.now R'⟩
  · exact q.elim⟩
theorem rt_cmp {op : CmpOp} {r : R2} {a b : Expr} {f1 f2 : SEx} {g : D → D → Mu → Res D} (ho : OpR X (compareOp op) r) (hr : Ru2 X T W r g) (ha : PE X a (rdE X.K X.mg T W f1)) (hb : PE X b (rdE X.K X.mg T W f2)) (hm : behindInMarks op b = false) : PT X (.Compare a [op] [b] pos) (rdB X.K X.mg T W (sTst (s2 g f1 f2))) := by
  refine rt_of (pt_cmpR ho ha hb hm) fun σ H Q ⟨w, s, m, R, S, t⟩ => ?_
  refine ⟨w, s, m, R, S, (Then.bind t).mono fun x m1 w1 H1 t1 R1 t u hu => ?_⟩
  refine ⟨w1, s, m1, R1, S.mono t1.gr, (Then.bind t).mono fun y m2 w2 H2 t2 R2 t v hv => ?_⟩
  exact hr w2 m2 H2 σ x y u v Q R2 (hu.mono t2.gr) hv t
theorem rt_val {e : Expr} {f : SEx} (h : PE X e (rdE X.K X.mg T W f)) (he : ∀ whole, isTrue e X.env whole = (do let v ← whole; standAt e.pos; holding [v] (truthy v)) := by intro _; rfl) : PT X e (rdB X.K X.mg T W (sTst f)) := by
  have q : PT X e (tTest (rdE X.K X.mg T W f)) := (pt_val h he).imp fun σ H Q x => x
  exact rt_of q fun σ H Q x => x
theorem rt_not {a : Expr} {c : SBl} (ha : PT X a (rdB X.K X.mg T W c)) : PT X (.UnaryOp .Not a pos) (rdB X.K X.mg T W (bNot c)) := (pt_not ha).imp fun σ H Q ⟨w, s, m, R, S, t⟩ => ⟨w, s, m, R, S, (Then.bind t).mono fun b m' w' H' t' R' q => q.now R'⟩
theorem rw_one_and {a : Expr} {c : SBl} (ha : PT X a (rdB X.K X.mg T W c)) : PW X (.BoolOp .And [a] pos) (rdB X.K X.mg T W c) := pw_and1 ha
theorem rw_one_or {a : Expr} {c : SBl} (ha : PT X a (rdB X.K X.mg T W c)) : PW X (.BoolOp .Or [a] pos) (rdB X.K X.mg T W c) := pw_or1 ha
theorem rw_and {a b : Expr} {rest : List Expr} {c d : SBl} (ha : PT X a (rdB X.K X.mg T W c)) (hb : PW X (.BoolOp .And (b :: rest) pos) (rdB X.K X.mg T W d)) : PW X (.BoolOp .And (a :: b :: rest) pos) (rdB X.K X.mg T W (bAnd c d)) := (pw_and ha hb).imp fun σ H Q ⟨w, s, m, R, S, t⟩ => ⟨w, s, m, R, S, (Then.bind t).mono fun k m' w' H' t' R' q => by
  cases k with
  | true => exact ⟨w', s, m', R', S.mono t'.gr, q⟩
  | false => exact q.now R'⟩
theorem rw_or {a b : Expr} {rest : List Expr} {c d : SBl} (ha : PT X a (rdB X.K X.mg T W c)) (hb : PW X (.BoolOp .Or (b :: rest) pos) (rdB X.K X.mg T W d)) : PW X (.BoolOp .Or (a :: b :: rest) pos) (rdB X.K X.mg T W (bOr c d)) := (pw_or ha hb).imp fun σ H Q ⟨w, s, m, R, S, t⟩ => ⟨w, s, m, R, S, (Then.bind t).mono fun k m' w' H' t' R' q => by
  cases k with
  | true => exact q.now R'
  | false => exact ⟨w', s, m', R', S.mono t'.gr, q⟩⟩
/-! and, or, not, if as values -/
def sNot (f : SEx) : SEx := fun s m => (f s m).bind fun d m => match d with
  | .bl b => .ok (.bl (!b)) m
  | _ => .stuck
def sAnd (f g : SEx) : SEx := fun s m => (f s m).bind fun d m => match d with
  | .bl b => if b = true then g s m else .ok (.bl false) m
  | _ => .stuck
def sOr (f g : SEx) : SEx := fun s m => (f s m).bind fun d m => match d with
  | .bl b => if b = true then .ok (.bl true) m else g s m
  | _ => .stuck
def sIte (c : SBl) (f g : SEx) : SEx := fun s m => (c s m).bind fun b m => if b = true then f s m else g s m
theorem re_not {a : Expr} {f : SEx} (ha : PE X a (rdE X.K X.mg T W f)) : PE X (.UnaryOp .Not a pos) (rdE X.K X.mg T W (sNot f)) := (pe_not ha).imp fun σ H Q ⟨w, s, m, R, S, t⟩ => ⟨w, s, m, R, S, (Then.bind t).mono fun d m' w' H' t' R' q v hv => by
  split at q
  · cases hv; exact ⟨_, rfl, q.now R' _ (.bl _)⟩
  · exact q.elim⟩
theorem re_one_b {op} {a : Expr} {f : SEx} (ha : PE X a (rdE X.K X.mg T W f)) : PE X (.BoolOp op [a] pos) (rdE X.K X.mg T W f) := pe_one ha
theorem re_and {a b : Expr} {rest : List Expr} {f g : SEx} (ha : PE X a (rdE X.K X.mg T W f)) (hb : PE X (.BoolOp .And (b :: rest) pos) (rdE X.K X.mg T W g)) : PE X (.BoolOp .And (a :: b :: rest) pos) (rdE X.K X.mg T W (sAnd f g)) := (pe_and ha hb).imp fun σ H Q ⟨w, s, m, R, S, t⟩ => ⟨w, s, m, R, S, (Then.bind t).mono fun d m' w' H' t' R' q v hv => by
  split at q
  · rename_i b
    cases hv
    refine ⟨_, rfl, ?_⟩
    cases b with
    | true => exact ⟨w', s, m', R', S.mono t'.gr, q⟩
    | false => exact q.now R' _ (.bl _)
  · exact q.elim⟩
theorem re_or {a b : Expr} {rest : List Expr} {f g : SEx} (ha : PE X a (rdE X.K X.mg T W f)) (hb : PE X (.BoolOp .Or (b :: rest) pos) (rdE X.K X.mg T W g)) : PE X (.BoolOp .Or (a :: b :: rest) pos) (rdE X.K X.mg T W (sOr f g)) := (pe_or ha hb).imp fun σ H Q ⟨w, s, m, R, S, t⟩ => ⟨w, s, m, R, S, (Then.bind t).mono fun d m' w' H' t' R' q v hv => by
  split at q
  · rename_i b
    cases hv
    refine ⟨_, rfl, ?_⟩
    cases b with
    | true => exact q.now R' _ (.bl _)
    | false => exact ⟨w', s, m', R', S.mono t'.gr, q⟩
  · exact q.elim⟩
theorem re_ite {a b c : Expr} {fc : SBl} {f g : SEx} (hc : PT X c (rdB X.K X.mg T W fc)) (ha : PE X a (rdE X.K X.mg T W f)) (hb : PE X b (rdE X.K X.mg T W g)) : PE X (.IfExp c a b pos) (rdE X.K X.mg T W (sIte fc f g)) := (pe_ifExp hc ha hb).imp fun σ H Q ⟨w, s, m, R, S, t⟩ => ⟨w, s, m, R, S, (Then.bind t).mono fun k m' w' H' t' R' q => by
  cases k with
  | true => exact ⟨w', s, m', R', S.mono t'.gr, q⟩
  | false => exact ⟨w', s, m', R', S.mono t'.gr, q⟩⟩
end
end Rx
set_option Elab.async false
set_option linter.all false
set_option maxRecDepth 100000
set_option maxHeartbeats 1000000
namespace Rx
open PySem PySem.Spec PyProof.Rows L2

/-! ### slices -/
abbrev SOp := Sd → Mu → Res (Option Int)
def oNo : SOp := fun _ m => .ok none m
def oSo (f : SEx) : SOp := fun s m => (f s m).bind fun d m => match d with
  | .int i => .ok (some i) m
  | _ => .stuck
def cutD (xs : List D) (lo hi : Option Int) : List D := (xs.drop (HT.sIx xs.length 0 lo)).take (HT.sIx xs.length xs.length hi - HT.sIx xs.length 0 lo)
def dSl (x : D) (lo hi : Option Int) (m : Mu) : Res D := match seqOf m x with
  | some (false, ds) => .ok (.lst (cutD ds lo hi)) m
  | some (true, ds) => if HT.sIx ds.length 0 lo = 0 ∧ HT.sIx ds.length ds.length hi = ds.length then .ok x m else .ok (.tup (cutD ds lo hi)) m
  | none => .stuck
def sSl (f : SEx) (lo hi : SOp) : SEx := fun s m => (f s m).bind fun x m => (lo s m).bind fun l m => (hi s m).bind fun h m => dSl x l h m
/-! stores -/
/-- the list at a handle -/
def hOf (m : Mu) : D → Option (Nat × List D)
  | .ref k => match m[k]? with
    | some (.lst ds) => some (k, ds)
    | _ => none
  | _ => none
def dPutI (x i v : D) (m : Mu) : Option Mu := match hOf m x, i with
  | some (k, ds), .int j => (ixN ds.length j).map fun n => m.set k (.lst (ds.set n v))
  | _, _ => none
def sPut (v o i : SEx) : SSt := fun s m => (v s m).toS s fun v m => (o s m).toS s fun x m => (i s m).toS s fun j m => match dPutI x j v m with
  | some m' => .nx s m'
  | none => .stuck
def sAug (g : D → D → Mu → Res D) (o i e : SEx) : SSt := fun s m => (o s m).toS s fun x m => (i s m).toS s fun j m => (dIx x j m).toS s fun a m => (e s m).toS s fun b m => (g a b m).toS s fun c m => match dPutI x j c m with
  | some m' => .nx s m'
  | none => .stuck
def sAugN (g : D → D → Mu → Res D) (k : Nat) (e : SEx) : SSt := fun s m => (sVar k s m).toS s fun a m => (e s m).toS s fun b m => (g a b m).toS s fun c m => .nx (s.set k (some c)) m
/-! methods of lists -/
def dApp (x v : D) (m : Mu) : Res D := match hOf m x with
  | some (k, ds) => if ds.length ≤ 1000000 then .ok .non (m.set k (.lst (ds ++ [v]))) else .stuck
  | none => .stuck
/-- it is a list -/
def isL (m : Mu) (x : D) : Bool := match seqOf m x with
  | some (false, _) => true
  | _ => false
def sM1 (g : D → D → Mu → Res D) (fo fe : SEx) : SEx := fun s m => (fo s m).bind fun x m => if isL m x = true then (fe s m).bind fun y m => g x y m else .stuck
def sM0 (g : D → Mu → Res D) (fo : SEx) : SEx := fun s m => (fo s m).bind fun x m => if isL m x = true then g x m else .stuck
def dPop (x : D) (m : Mu) : Res D := match hOf m x with
  | some (k, ds) => (match ds[ds.length - 1]? with
    | some d => .ok d (m.set k (.lst ds.dropLast))
    | none => .stuck)
  | none => .stuck
/-! len, abs, sum, list, tuple -/
def dLen (xs : List D) (m : Mu) : Res D := match xs with
  | [x] => (match seqOf m x with
    | some (_, ds) => .ok (.int ds.length) m
    | none => .stuck)
  | _ => .stuck
def dAbs (xs : List D) (m : Mu) : Res D := match xs with
  | [.int i] => .ok (.int i.natAbs) m
  | _ => .stuck
def intsOf : List D → Option (List Int)
  | [] => some []
  | .int i :: ds => (intsOf ds).map fun l => i :: l
  | _ => none
def blsOf : List D → Option (List Bool)
  | [] => some []
  | .bl i :: ds => (blsOf ds).map fun l => i :: l
  | _ => none
def dSum (xs : List D) (m : Mu) : Res D := match xs with
  | [x] => (match seqOf m x with
    | some (false, ds) => (match intsOf ds with
      | some l => .ok (.int l.sum) m
      | none => .stuck)
    | _ => .stuck)
  | _ => .stuck
def dAll (xs : List D) (m : Mu) : Res D := match xs with
  | [x] => (match seqOf m x with
    | some (false, ds) => (match blsOf ds with
      | some l => .ok (.bl (l.all id)) m
      | none => .stuck)
    | _ => .stuck)
  | _ => .stuck
def dList (xs : List D) (m : Mu) : Res D := match xs with
  | [x] => (match seqOf m x with
    | some (_, ds) => .ok (.lst ds) m
    | none => .stuck)
  | _ => .stuck
def dListN (xs : List D) (m : Mu) : Res D := match xs with
  | [x] => (match seqOf m x with
    | some (_, ds) => .ok (.ref m.length) (m ++ [.lst ds])
    | none => .stuck)
  | _ => .stuck
def dTuple (xs : List D) (m : Mu) : Res D := match xs with
  | [x] => (match seqOf m x with
    | some (false, ds) => .ok (.tup ds) m
    | some (true, _) => .ok x m
    | none => .stuck)
  | _ => .stuck
def sB (g : List D → Mu → Res D) (a : SAr) : SEx := fun s m => (a s m).bind fun xs m => g xs m
/-- a list that never changes from now on -/
def dFrz (x : D) (m : Mu) : Res D := match hOf m x with
  | some (k, ds) => .ok (.lst ds) (m.set k .dead)
  | none => .stuck
/-- .. and the lists in it -/
def frzAll (m : Mu) : List D → Option (List D × Mu)
  | [] => some ([], m)
  | x :: xs => match hOf m x with
    | some (k, ds) => (frzAll (m.set k .dead) xs).map fun p => (.lst ds :: p.1, p.2)
    | none => none
def sFrz (f : SEx) : SEx := fun s m => (f s m).bind fun x m => dFrz x m
section
variable {K : PySem.W.Frag} {T : Tb} {w w' : Wd} {m : Mu} {H : Hp}
theorem h_at (R : Rel K T w m H) {v : V} {d : D} (h : Dat K w v d) {k : Nat} {ds : List D} (e : hOf m d = some (k, ds)) : ∃ a vs, v = .ref a ∧ d = .ref k ∧ m[k]? = some (.lst ds) ∧ w.r[k]? = some a ∧ DatL K w vs ds ∧ H a = some (.lst vs) := by
  cases h with
  | @ref a k' hk =>
    unfold hOf at e
    simp only at e
    split at e
    · rename_i ds' e1
      cases e
      obtain ⟨q1, vs, q2, q3⟩ := R.obj k _ a e1 hk rfl
      exact ⟨a, vs, rfl, rfl, e1, hk, q3, q2⟩
    · cases e
  | _ => cases e
/-- the list at a handle is written -/
theorem write_at (R : Rel K T w m H) {k : Nat} {a : Addr} {ds ds' : List D} {vs' : List V} (e1 : m[k]? = some (.lst ds)) (e2 : w.r[k]? = some a) (r : DatL K w vs' ds') : Rel K T w (m.set k (.lst ds')) (upd H a (.lst vs')) ∧ Tr w m H w (m.set k (.lst ds')) (upd H a (.lst vs')) :=
  R.write (u := .lst ds') e1 e2 rfl rfl ⟨vs', upd_same, r⟩
end
section
variable {X : Cx} {T : Tb} {W : WX} {pos : Pos}
def rdO (K : PySem.W.Frag) (mg : Str → Option Value) (T : Tb) (W : WX) (f : SOp) : TO := fun σ H Q => ∃ w s m, Rel K T w m H ∧ Slots K w σ s ∧ Then K mg T W w m H σ (f s m) fun o _ _ H' => Q o H'
theorem _root_.L2.PO.imp {e : Option Expr} {t t' : TO} (h : PO X e t) (i : ∀ σ H Q, t' σ H Q → t σ H Q) : PO X e t' := ⟨fun pins s σ H Q I q => h.run pins s σ H Q I (i σ H Q q)⟩
theorem ro_no : PO X none (rdO X.K X.mg T W oNo) := po_none.imp fun σ H Q ⟨w, s, m, R, S, t⟩ => t.now R
theorem ro_so {e : Expr} {f : SEx} (h : PE X e (rdE X.K X.mg T W f)) : PO X (some e) (rdO X.K X.mg T W (oSo f)) := (po_some h).imp fun σ H Q ⟨w, s, m, R, S, t⟩ => ⟨w, s, m, R, S, (Then.bind t).mono fun d m' w' H' t' R' q v hv => by
  split at q
  · cases hv; exact ⟨_, rfl, q.now R'⟩
  · exact q.elim⟩
theorem DatL.cutV {K : PySem.W.Frag} {w : Wd} {vs ds} (r : DatL K w vs ds) (lo hi : Option Int) : DatL K w (L2.cutV vs lo hi) (cutD ds lo hi) := by
  unfold L2.cutV cutD
  rw [r.length]
  exact (r.drop _).take _
theorem re_sl {e : Expr} {lo hi : Option Expr} {f : SEx} {fl fh : SOp} {p2 : Pos} (he : PE X e (rdE X.K X.mg T W f)) (hl : PO X lo (rdO X.K X.mg T W fl)) (hh : PO X hi (rdO X.K X.mg T W fh)) : PE X (.Subscript e (.Slice lo hi none p2) pos) (rdE X.K X.mg T W (sSl f fl fh)) := by
  refine (pe_slice (sl_list.or sl_tupA) he hl hh).imp fun σ H Q ⟨w, s, m, R, S, t⟩ => ?_
  refine ⟨w, s, m, R, S, (Then.bind t).mono fun x m1 w1 H1 t1 R1 t u hu => ?_⟩
  refine ⟨w1, s, m1, R1, S.mono t1.gr, (Then.bind t).mono fun l m2 w2 H2 t2 R2 t => ?_⟩
  refine ⟨w2, s, m2, R2, (S.mono t1.gr).mono t2.gr, (Then.bind t).mono fun h m3 w3 H3 t3 R3 t => ?_⟩
  have hu3 := (hu.mono t2.gr).mono t3.gr
  unfold dSl at t
  split at t
  · rename_i ds e
    obtain ⟨a, vs, rfl, r, hq⟩ := seq_at R3 hu3 e
    rcases hq with ⟨_, hq⟩ | ⟨z, _⟩
    · exact .inl ⟨a, vs, rfl, hq, fun p hp => fin_frozen R3 t hp fun w' g e3 => .lst e3 ((r.cutV l h).mono g)⟩
    · cases z
  · rename_i ds e
    obtain ⟨a, vs, rfl, r, hq⟩ := seq_at R3 hu3 e
    rcases hq with ⟨z, _⟩ | ⟨_, hq⟩
    · cases z
    · refine .inr ⟨a, vs, rfl, hq, fun c => ?_, fun c p hp => ?_⟩
      · rw [if_pos (by rw [← r.length]; exact c)] at t
        exact t.now R3 _ hu3
      · rw [if_neg (by rw [← r.length]; exact c)] at t
        exact fin_frozen R3 t hp fun w' g e3 => .tup e3 ((r.cutV l h).mono g)
  · exact t.elim
/-! stores -/
theorem put_ok {w : Wd} {m m' : Mu} {H : Hp} {x j v : D} {o i y : V} {Q : Hp → Prop} (R : Rel X.K T w m H) (ho : Dat X.K w o x) (hi : Dat X.K w i j) (hy : Dat X.K w y v) (e : dPutI x j v m = some m')
    (q : ∀ H', Tr w m H w m' H' → Rel X.K T w m' H' → Q H') : rSetL o i y H Q := by
  unfold dPutI at e
  split at e
  · rename_i k ds n e1
    obtain ⟨a, vs, rfl, rfl, f1, f2, r, hH⟩ := h_at R ho e1
    cases hi
    obtain ⟨jn, e2, e3⟩ := Option.map_eq_some_iff.mp e
    subst e3
    obtain ⟨R1, t1⟩ := write_at R f1 f2 (r.set hy jn)
    exact ⟨a, vs, _, jn, rfl, rfl, hH, by rw [r.length]; exact e2, q _ t1 R1⟩
  · cases e
theorem rs_put {st : Stmt} {v o i : Expr} {fv fo fi : SEx} (h : PE X v (rdE X.K X.mg T W fv) → PE X o (rdE X.K X.mg T W fo) → PE X i (rdE X.K X.mg T W fi) → PS X st (tAsg (rdE X.K X.mg T W fv) (gSub (rdE X.K X.mg T W fo) (rdE X.K X.mg T W fi) rSetL)))
    (hv : PE X v (rdE X.K X.mg T W fv)) (ho : PE X o (rdE X.K X.mg T W fo)) (hi : PE X i (rdE X.K X.mg T W fi)) : PS X st (rdS X.K X.mg T W (sPut fv fo fi)) := (h hv ho hi).imp fun D σ H ⟨w, s, m, R, S, t⟩ => by
  refine ⟨w, s, m, R, S, (SThen.ofS t S).mono fun d m1 w1 H1 t1 R1 q v hv => ?_⟩
  have S1 := S.mono t1.gr
  refine ⟨w1, s, m1, R1, S1, (SThen.ofS q S1).mono fun x m2 w2 H2 t2 R2 q u hu => ?_⟩
  have S2 := S1.mono t2.gr
  refine ⟨w2, s, m2, R2, S2, (SThen.ofS q S2).mono fun j m3 w3 H3 t3 R3 q z hz => ?_⟩
  cases e : dPutI x j d m3 with
  | none => rw [e] at q; exact q.elim
  | some m4 =>
    rw [e] at q
    exact put_ok R3 (hu.mono t3.gr) hz ((hv.mono t2.gr).mono t3.gr) e fun H' t' R' => q w3 H' σ t' R' (S2.mono t3.gr)
/-- o[i] op= e, o a list -/
theorem rs_aug {st : Stmt} {o i e : Expr} {fo fi fe : SEx} {g : D → D → Mu → Res D} {r : R2}
    (h : PE X o (rdE X.K X.mg T W fo) → PE X i (rdE X.K X.mg T W fi) → PE X e (rdE X.K X.mg T W fe) → PS X st (tAugS (rdE X.K X.mg T W fo) (rdE X.K X.mg T W fi) (rdE X.K X.mg T W fe) (rIx X.K) r rSetL)) (hr : Ru2 X T W r g)
    (ho : PE X o (rdE X.K X.mg T W fo)) (hi : PE X i (rdE X.K X.mg T W fi)) (he : PE X e (rdE X.K X.mg T W fe)) : PS X st (rdS X.K X.mg T W (sAug g fo fi fe)) := (h ho hi he).imp fun D σ H ⟨w, s, m, R, S, t⟩ => by
  refine ⟨w, s, m, R, S, (SThen.ofS t S).mono fun x m1 w1 H1 t1 R1 q u hu => ?_⟩
  have S1 := S.mono t1.gr
  refine ⟨w1, s, m1, R1, S1, (SThen.ofS q S1).mono fun j m2 w2 H2 t2 R2 q z hz => ?_⟩
  have S2 := S1.mono t2.gr
  have hu2 := hu.mono t2.gr
  refine ru_ix w2 m2 H2 σ x j u z _ R2 hu2 hz ((SThen.ofS q S2).mono fun a m3 w3 H3 t3 R3 q va hva => ?_)
  have S3 := S2.mono t3.gr
  refine ⟨w3, s, m3, R3, S3, (SThen.ofS q S3).mono fun b m4 w4 H4 t4 R4 q vb hvb => ?_⟩
  have S4 := S3.mono t4.gr
  refine hr w4 m4 H4 σ a b va vb _ R4 (hva.mono t4.gr) hvb ((SThen.ofS q S4).mono fun c m5 w5 H5 t5 R5 q vc hvc => ?_)
  have g5 : Gr w2 w5 := (t3.gr.trans t4.gr).trans t5.gr
  cases e : dPutI x j c m5 with
  | none => rw [e] at q; exact q.elim
  | some m6 =>
    rw [e] at q
    exact put_ok R5 (hu2.mono g5) (hz.mono g5) hvc e fun H' t' R' => q w5 H' σ t' R' (S2.mono g5)
theorem rs_augN {st : Stmt} {e : Expr} {fe : SEx} {k : Nat} {g : D → D → Mu → Res D} {r : R2} (h : PE X e (rdE X.K X.mg T W fe) → PS X st (tAug k (rdE X.K X.mg T W fe) r)) (hr : Ru2 X T W r g) (he : PE X e (rdE X.K X.mg T W fe)) : PS X st (rdS X.K X.mg T W (sAugN g k fe)) := (h he).imp fun D σ H ⟨w, s, m, R, S, t⟩ => by
  unfold sAugN at t
  cases e1 : s[k]? with
  | none => unfold sVar at t; rw [e1] at t; exact t.elim
  | some o =>
    cases o with
    | none => unfold sVar at t; rw [e1] at t; exact t.elim
    | some a =>
      obtain ⟨v, e2, hv⟩ := S.2 k a e1
      have ev : sVar k s m = .ok a m := by unfold sVar; rw [e1]
      rw [ev] at t
      refine ⟨v, e2, w, s, m, R, S, (SThen.ofS (r := fe s m) t S).mono fun b m1 w1 H1 t1 R1 q u hu => ?_⟩
      have S1 := S.mono t1.gr
      refine hr w1 m1 H1 σ a b v u _ R1 (hv.mono t1.gr) hu ((SThen.ofS q S1).mono fun c m2 w2 H2 t2 R2 q z hz => ?_)
      exact q w2 H2 _ (Tr.refl _ _ _) R2 ((S1.mono t2.gr).set k hz)
/-! methods -/
theorem tyL_of {w : Wd} {m : Mu} {H : Hp} {x : D} {u : V} (R : Rel X.K T w m H) (hu : Dat X.K w u x) (e : isL m x = true) : tyV X.K "list" u H := by
  unfold isL at e
  split at e
  · rename_i ds e1
    obtain ⟨a, vs, rfl, r, hq⟩ := seq_at R hu e1
    rcases hq with ⟨_, hq⟩ | ⟨z, _⟩
    · exact .inl ⟨rfl, vs, hq⟩
    · cases z
  · cases e
/-- o.m(e), o a list -/
theorem re_m1 {o e : Expr} {fo fe : SEx} {ex : Expr} {r : V → List V → Hp → VK → Prop} {g : D → D → Mu → Res D} (h : PE X o (rdE X.K X.mg T W fo) → PA X [e] (rdA X.K X.mg T W (aCons fe aNil)) → PE X ex (tBM X.K "list" r (rdE X.K X.mg T W fo) (rdA X.K X.mg T W (aCons fe aNil))))
    (hr : Ru2 X T W (fun x y H Q => r x [y] H Q) g) (ho : PE X o (rdE X.K X.mg T W fo)) (he : PE X e (rdE X.K X.mg T W fe)) (hs : starEach [e] X.env = (false, eval e X.env) :: starEach [] X.env := by rfl) : PE X ex (rdE X.K X.mg T W (sM1 g fo fe)) := (h ho (ra_cons he ra_nil hs)).imp fun σ H Q ⟨w, s, m, R, S, t⟩ => by
  refine ⟨w, s, m, R, S, (Then.bind t).mono fun x m1 w1 H1 t1 R1 t u hu => ?_⟩
  have S1 := S.mono t1.gr
  split at t
  · rename_i hl
    refine ⟨tyL_of R1 hu hl, w1, s, m1, R1, S1, ?_⟩
    unfold aCons aNil
    revert t
    cases fe s m1 with
    | ok y m2 =>
      intro t w2 H2 t2 R2 vs hv
      cases hv with
      | cons hy hv => cases hv; exact hr w2 m2 H2 σ x y u _ Q R2 (hu.mono t2.gr) hy (Then.from_ t t2)
    | exc z m2 => exact fun t => t
    | stuck => exact fun t => t
  · exact t.elim
/-- o.m(), o a list -/
theorem re_m0 {o : Expr} {fo : SEx} {ex : Expr} {r : V → List V → Hp → VK → Prop} {g : D → Mu → Res D} (h : PE X o (rdE X.K X.mg T W fo) → PE X ex (tBM0 X.K "list" r (rdE X.K X.mg T W fo)))
    (hr : ∀ (w : Wd) (m : Mu) (H : Hp) (σ : L2.St) (x : D) (u : V) (Q : VK), Rel X.K T w m H → Dat X.K w u x → Then X.K X.mg T W w m H σ (g x m) (fun d _ w' H' => ∀ v, Dat X.K w' v d → Q v H') → r u [] H Q) (ho : PE X o (rdE X.K X.mg T W fo)) : PE X ex (rdE X.K X.mg T W (sM0 g fo)) := (h ho).imp fun σ H Q ⟨w, s, m, R, S, t⟩ => by
  refine ⟨w, s, m, R, S, (Then.bind t).mono fun x m1 w1 H1 t1 R1 t u hu => ?_⟩
  split at t
  · rename_i hl
    exact ⟨tyL_of R1 hu hl, hr w1 m1 H1 σ x u Q R1 hu t⟩
  · exact t.elim
theorem ru_app : Ru2 X T W (fun x y H Q => rAppend x [y] H Q) dApp := fun w m H σ x y u v Q R hu hv t => by
  unfold dApp at t
  split at t
  · rename_i k ds e
    split at t
    · rename_i hl
      obtain ⟨a, vs, rfl, rfl, f1, f2, r, hH⟩ := h_at R hu e
      obtain ⟨R3, t3⟩ := write_at R f1 f2 (r.append (.cons hv .nil))
      exact ⟨a, vs, v, rfl, rfl, hH, by rw [r.length, sizeLine_eq]; omega, t _ _ t3 R3 _ .non⟩
    · exact t.elim
  · exact t.elim
theorem ru_pop : ∀ (w : Wd) (m : Mu) (H : Hp) (σ : L2.St) (x : D) (u : V) (Q : VK), Rel X.K T w m H → Dat X.K w u x → Then X.K X.mg T W w m H σ (dPop x m) (fun d _ w' H' => ∀ v, Dat X.K w' v d → Q v H') → rPop u [] H Q := fun w m H σ x u Q R hu t => by
  unfold dPop at t
  split at t
  · rename_i k ds e
    obtain ⟨a, vs, rfl, rfl, f1, f2, r, hH⟩ := h_at R hu e
    split at t
    · rename_i d e1
      obtain ⟨v, e2, hd⟩ := r.get e1
      obtain ⟨R3, t3⟩ := write_at R f1 f2 r.dropLast
      exact ⟨a, vs, v, rfl, rfl, hH, by rw [r.length]; exact e2, t _ _ t3 R3 _ hd⟩
    · exact t.elim
  · exact t.elim
/-! built-in functions -/
theorem re_b {es : List Expr} {ex : Expr} {a : SAr} {r : List V → Hp → VK → Prop} {g : List D → Mu → Res D} (h : PA X es (rdA X.K X.mg T W a) → PE X ex (tCB r (rdA X.K X.mg T W a)))
    (hr : ∀ (w : Wd) (m : Mu) (H : Hp) (σ : L2.St) (xs : List D) (us : List V) (Q : VK), Rel X.K T w m H → DatL X.K w us xs → Then X.K X.mg T W w m H σ (g xs m) (fun d _ w' H' => ∀ v, Dat X.K w' v d → Q v H') → r us H Q) (ha : PA X es (rdA X.K X.mg T W a)) : PE X ex (rdE X.K X.mg T W (sB g a)) := re_args (r := r) h ha hr
abbrev RuB (X : Cx) (T : Tb) (W : WX) (r : List V → Hp → VK → Prop) (g : List D → Mu → Res D) : Prop := ∀ (w : Wd) (m : Mu) (H : Hp) (σ : L2.St) (xs : List D) (us : List V) (Q : VK), Rel X.K T w m H → DatL X.K w us xs → Then X.K X.mg T W w m H σ (g xs m) (fun d _ w' H' => ∀ v, Dat X.K w' v d → Q v H') → r us H Q
def rLen (K : PySem.W.Frag) : List V → Hp → VK → Prop := fun xs H Q => ∃ p ys, xs = [.ref p] ∧ (SqL K H p ys ∨ SqT K H p ys) ∧ Q (.int ys.length) H
theorem ru_len : RuB X T W (rLen X.K) dLen := fun w m H σ xs us Q R hu t => by
  unfold dLen at t
  split at t
  · split at t
    · rename_i b ds e
      cases hu with
      | cons h1 hu =>
        cases hu
        obtain ⟨a, vs, rfl, r, hq⟩ := seq_at R h1 e
        refine ⟨a, vs, rfl, ?_, by rw [r.length]; exact t.now R _ (.int _)⟩
        rcases hq with ⟨_, hq⟩ | ⟨_, hq⟩
        · exact .inl hq
        · exact .inr hq
    · exact t.elim
  · exact t.elim
theorem ints_at {K : PySem.W.Frag} {w : Wd} : ∀ {vs ds} {l : List Int}, DatL K w vs ds → intsOf ds = some l → vs = l.map V.int ∧ ds = l.map D.int
  | _, _, _, .nil, e => by cases e; exact ⟨rfl, rfl⟩
  | _, _, l, .cons (d := d) h r, e => by
    cases d with
    | int i =>
      unfold intsOf at e
      obtain ⟨l', e1, e2⟩ := Option.map_eq_some_iff.mp e
      subst e2
      cases h
      obtain ⟨a, b⟩ := ints_at r e1
      exact ⟨by rw [a]; rfl, by rw [b]; rfl⟩
    | _ => cases e
theorem bls_at {K : PySem.W.Frag} {w : Wd} : ∀ {vs ds} {l : List Bool}, DatL K w vs ds → blsOf ds = some l → vs = l.map V.bl ∧ ds = l.map D.bl
  | _, _, _, .nil, e => by cases e; exact ⟨rfl, rfl⟩
  | _, _, l, .cons (d := d) h r, e => by
    cases d with
    | bl i =>
      unfold blsOf at e
      obtain ⟨l', e1, e2⟩ := Option.map_eq_some_iff.mp e
      subst e2
      cases h
      obtain ⟨a, b⟩ := bls_at r e1
      exact ⟨by rw [a]; rfl, by rw [b]; rfl⟩
    | _ => cases e
theorem ru_sum : RuB X T W (rSum X.K) dSum := fun w m H σ xs us Q R hu t => by
  unfold dSum at t
  split at t
  · split at t
    · rename_i ds e
      split at t
      · rename_i l e1
        cases hu with
        | cons h1 hu =>
          cases hu
          obtain ⟨a, vs, rfl, r, hq⟩ := seq_at R h1 e
          obtain ⟨e2, _⟩ := ints_at r e1
          rcases hq with ⟨_, hq⟩ | ⟨z, _⟩
          · exact ⟨a, l, rfl, by rw [← e2]; exact hq, t.now R _ (.int _)⟩
          · cases z
      · exact t.elim
    · exact t.elim
  · exact t.elim
theorem ru_all : RuB X T W (rAll X.K) dAll := fun w m H σ xs us Q R hu t => by
  unfold dAll at t
  split at t
  · split at t
    · rename_i ds e
      split at t
      · rename_i l e1
        cases hu with
        | cons h1 hu =>
          cases hu
          obtain ⟨a, vs, rfl, r, hq⟩ := seq_at R h1 e
          obtain ⟨e2, _⟩ := bls_at r e1
          rcases hq with ⟨_, hq⟩ | ⟨z, _⟩
          · exact ⟨a, l, rfl, by rw [← e2]; exact hq, t.now R _ (.bl _)⟩
          · cases z
      · exact t.elim
    · exact t.elim
  · exact t.elim
def rListOf (K : PySem.W.Frag) : List V → Hp → VK → Prop := fun xs H Q => ∃ p ys, xs = [.ref p] ∧ (SqL K H p ys ∨ SqT K H p ys) ∧ ∀ l, H l = none → Q (.ref l) (upd H l (.lst ys))
theorem ru_list : RuB X T W (rListOf X.K) dList := fun w m H σ xs us Q R hu t => by
  unfold dList at t
  split at t
  · split at t
    · rename_i b ds e
      cases hu with
      | cons h1 hu =>
        cases hu
        obtain ⟨a, vs, rfl, r, hq⟩ := seq_at R h1 e
        refine ⟨a, vs, rfl, ?_, fun p hp => fin_frozen R t hp fun w' g e3 => .lst e3 (r.mono g)⟩
        rcases hq with ⟨_, hq⟩ | ⟨_, hq⟩
        · exact .inl hq
        · exact .inr hq
    · exact t.elim
  · exact t.elim
theorem ru_listN : RuB X T W (rListOf X.K) dListN := fun w m H σ xs us Q R hu t => by
  unfold dListN at t
  split at t
  · split at t
    · rename_i b ds e
      cases hu with
      | cons h1 hu =>
        cases hu
        obtain ⟨a, vs, rfl, r, hq⟩ := seq_at R h1 e
        refine ⟨a, vs, rfl, ?_, fun p hp => fin_new R t r hp⟩
        rcases hq with ⟨_, hq⟩ | ⟨_, hq⟩
        · exact .inl hq
        · exact .inr hq
    · exact t.elim
  · exact t.elim
def rTupleOf (K : PySem.W.Frag) : List V → Hp → VK → Prop := fun xs H Q => ∃ p ys, xs = [.ref p] ∧ ((SqL K H p ys ∧ ∀ l, H l = none → Q (.ref l) (upd H l (.tup ys))) ∨ (SqT K H p ys ∧ Q (.ref p) H))
theorem ru_tuple : RuB X T W (rTupleOf X.K) dTuple := fun w m H σ xs us Q R hu t => by
  unfold dTuple at t
  split at t
  · rename_i x
    cases hu with
    | cons h1 hu =>
      cases hu
      split at t
      · rename_i ds e
        obtain ⟨a, vs, rfl, r, hq⟩ := seq_at R h1 e
        rcases hq with ⟨_, hq⟩ | ⟨z, _⟩
        · exact ⟨a, vs, rfl, .inl ⟨hq, fun p hp => fin_frozen R t hp fun w' g e3 => .tup e3 (r.mono g)⟩⟩
        · cases z
      · rename_i ds e
        obtain ⟨a, vs, rfl, r, hq⟩ := seq_at R h1 e
        rcases hq with ⟨z, _⟩ | ⟨_, hq⟩
        · cases z
        · exact ⟨a, vs, rfl, .inr ⟨hq, t.now R _ h1⟩⟩
      · exact t.elim
  · exact t.elim
/-- a list that never changes from now on; nothing happens in the program -/
theorem re_frz {e : Expr} {f : SEx} (h : PE X e (rdE X.K X.mg T W f)) : PE X e (rdE X.K X.mg T W (sFrz f)) := h.imp fun σ H Q ⟨w, s, m, R, S, t⟩ => by
  refine ⟨w, s, m, R, S, (Then.bind t).mono fun x m1 w1 H1 t1 R1 t u hu => ?_⟩
  unfold dFrz at t
  split at t
  · rename_i k ds e
    obtain ⟨a, vs, rfl, rfl, f1, f2, r, hH⟩ := h_at R1 hu e
    obtain ⟨w2, R2, t2, hd⟩ := R1.freeze f1 f2
    exact t _ _ t2 R2 _ hd
  · exact t.elim
end
end Rx
set_option Elab.async false
set_option linter.all false
set_option maxRecDepth 100000
set_option maxHeartbeats 1000000
namespace Rx
open PySem PySem.Spec PyProof.Rows L2

/-! ### dicts with tuple keys -/
def keyOf : D → Option Key
  | .int i => some (.inl i)
  | .str x => some (.inr x)
  | _ => none
def keysOf : List D → Option (List Key)
  | [] => some []
  | d :: ds => (keyOf d).bind fun k => (keysOf ds).map fun ks => k :: ks
/-- a tuple as a key -/
def tkeyOf : D → Option (List Key)
  | .tup ds => keysOf ds
  | _ => none
def valD (kvs : List (List Key × D)) (k : List Key) : Option D := (kvs.find? fun kv => decide (kv.1 = k)).map (·.2)
def putD (kvs : List (List Key × D)) (k : List Key) (v : D) : List (List Key × D) :=
  if (kvs.any fun kv => decide (kv.1 = k)) = true then kvs.map (fun kv => if kv.1 = k then (kv.1, v) else kv) else kvs ++ [(k, v)]
def dicOf (m : Mu) : D → Option (Nat × List (List Key × D))
  | .ref k => match m[k]? with
    | some (.dic kvs) => some (k, kvs)
    | _ => none
  | _ => none
def sDic : SEx := fun _ m => .ok (.ref m.length) (m ++ [.dic []])
def dDin (y x : D) (m : Mu) : Res D := match dicOf m x, tkeyOf y with
  | some (_, kvs), some k => .ok (.bl (valD kvs k).isSome) m
  | _, _ => .stuck
def dDnotin (y x : D) (m : Mu) : Res D := match dicOf m x, tkeyOf y with
  | some (_, kvs), some k => .ok (.bl (!(valD kvs k).isSome)) m
  | _, _ => .stuck
def dDget (x y : D) (m : Mu) : Res D := match dicOf m x, tkeyOf y with
  | some (_, kvs), some k => (match valD kvs k with
    | some d => .ok d m
    | none => .stuck)
  | _, _ => .stuck
def dDput (x y v : D) (m : Mu) : Option Mu := match dicOf m x, tkeyOf y with
  | some (i, kvs), some k => if kvs.length ≤ 1000000 then some (m.set i (.dic (putD kvs k v))) else none
  | _, _ => none
def sDput (v o i : SEx) : SSt := fun s m => (v s m).toS s fun v m => (o s m).toS s fun x m => (i s m).toS s fun j m => match dDput x j v m with
  | some m' => .nx s m'
  | none => .stuck
section
variable {K : PySem.W.Frag} {T : Tb} {w w' : Wd} {m : Mu} {H : Hp}
theorem key_at {u : V} {d : D} {k : Key} (h : Dat K w u d) (e : keyOf d = some k) : u = kV k := by
  cases h <;> (try cases e) <;> rfl
theorem keys_at : ∀ {vs ds} {ks : List Key}, DatL K w vs ds → keysOf ds = some ks → vs = ks.map kV
  | _, _, ks, .nil, e => by cases e; rfl
  | _, _, ks, .cons (v := v) h r, e => by
    unfold keysOf at e
    obtain ⟨k, e1, e2⟩ := Option.bind_eq_some_iff.mp e
    obtain ⟨ks', e3, e4⟩ := Option.map_eq_some_iff.mp e2
    subst e4
    rw [List.map_cons, ← keys_at r e3, ← key_at h e1]
theorem tkey_at (s : Same w.g H) {u : V} {d : D} {k : List Key} (h : Dat K w u d) (e : tkeyOf d = some k) : ∃ b, u = .ref b ∧ H b = some (.tup (k.map kV)) := by
  cases h with
  | tup hq r => exact ⟨_, rfl, by rw [← keys_at r e]; exact s _ _ hq⟩
  | _ => cases e
theorem dic_at (R : Rel K T w m H) {v : V} {d : D} (h : Dat K w v d) {k : Nat} {kvs : List (List Key × D)} (e : dicOf m d = some (k, kvs)) : ∃ a vs, v = .ref a ∧ m[k]? = some (.dic kvs) ∧ w.r[k]? = some a ∧ KvL K w vs kvs ∧ H a = some (.dT vs) := by
  cases h with
  | @ref a k' hk =>
    unfold dicOf at e
    simp only at e
    split at e
    · rename_i ds' e1
      cases e
      obtain ⟨q1, vs, q2, q3⟩ := R.obj k _ a e1 hk rfl
      exact ⟨a, vs, rfl, e1, hk, q3, q2⟩
    · cases e
  | _ => cases e
theorem KvL.val : ∀ {vs kvs} (k : List Key), KvL K w vs kvs → ((valV vs k).isSome = (valD kvs k).isSome) ∧ ∀ d, valD kvs k = some d → ∃ v, valV vs k = some v ∧ Dat K w v d
  | _, _, k, .nil => ⟨rfl, fun d e => by cases e⟩
  | _, _, k, .cons (k := j) (v := v) (d := d) (vs := vs) (ds := ds) h r => by
    obtain ⟨i1, i2⟩ := KvL.val k r
    by_cases e : j = k
    · rw [valV_pos (p := (j, v)) e]
      have e2 : valD ((j, d) :: ds) k = some d := by unfold valD; simp [List.find?_cons, e]
      rw [e2]
      exact ⟨rfl, fun d' e3 => by cases e3; exact ⟨v, rfl, h⟩⟩
    · rw [valV_neg (p := (j, v)) e]
      have e2 : valD ((j, d) :: ds) k = valD ds k := by unfold valD; simp [List.find?_cons, e]
      rw [e2]
      exact ⟨i1, i2⟩
theorem KvL.any : ∀ {vs kvs} (k : List Key), KvL K w vs kvs → (vs.any fun kv => decide (kv.1 = k)) = (kvs.any fun kv => decide (kv.1 = k))
  | _, _, k, .nil => rfl
  | _, _, k, .cons h r => by rw [List.any_cons, List.any_cons, KvL.any k r]
theorem KvL.map : ∀ {vs kvs} {v : V} {d : D} (k : List Key), Dat K w v d → KvL K w vs kvs → KvL K w (vs.map fun kv => if kv.1 = k then (kv.1, v) else kv) (kvs.map fun kv => if kv.1 = k then (kv.1, d) else kv)
  | _, _, _, _, k, _, .nil => .nil
  | _, _, v, d, k, hd, .cons (k := j) h r => by
    rw [List.map_cons, List.map_cons]
    by_cases e : j = k
    · simp only [if_pos e]; exact .cons hd (KvL.map k hd r)
    · simp only [if_neg e]; exact .cons h (KvL.map k hd r)
theorem KvL.snoc : ∀ {vs kvs} {v : V} {d : D} (k : List Key), Dat K w v d → KvL K w vs kvs → KvL K w (vs ++ [(k, v)]) (kvs ++ [(k, d)])
  | _, _, _, _, k, hd, .nil => .cons hd .nil
  | _, _, v, d, k, hd, .cons (k := j) h r => .cons h (KvL.snoc k hd r)
theorem KvL.put {vs kvs} {v : V} {d : D} (k : List Key) (hd : Dat K w v d) (r : KvL K w vs kvs) : KvL K w (putK vs k v) (putD kvs k d) := by
  unfold putK putD
  rw [r.any k]
  split
  · exact r.map k hd
  · exact r.snoc k hd
theorem KvL.length : ∀ {vs kvs}, KvL K w vs kvs → vs.length = kvs.length
  | _, _, .nil => rfl
  | _, _, .cons h r => by rw [List.length_cons, List.length_cons, r.length]
end
section
variable {X : Cx} {T : Tb} {W : WX} {pos : Pos}
theorem re_dic : PE X (.Dict [] [] pos) (rdE X.K X.mg T W sDic) := pe_dnewT.imp fun σ H Q ⟨w, s, m, R, S, t⟩ p hp => by
  obtain ⟨R1, t1⟩ := R.fresh (u := .dic []) (o := .dT []) hp rfl fun w' g => ⟨[], upd_same, .nil⟩
  exact t _ _ t1 R1 _ (.ref (by show (w.r ++ [p])[m.length]? = some p; rw [← R.len]; simp))
theorem two_help {f1 f2 : SEx} {g : D → D → Mu → Res D} {P : V → V → Hp → VK → Prop} (hr : Ru2 X T W P g) (σ : L2.St) (H : Hp) (Q : VK) (h : rdE X.K X.mg T W (s2 g f1 f2) σ H Q) :
    rdE X.K X.mg T W f1 σ H fun x H1 => rdE X.K X.mg T W f2 σ H1 fun y H2 => P x y H2 Q := by
  obtain ⟨w, s, m, R, S, t⟩ := h
  refine ⟨w, s, m, R, S, (Then.bind t).mono fun x m1 w1 H1 t1 R1 t u hu => ?_⟩
  refine ⟨w1, s, m1, R1, S.mono t1.gr, (Then.bind t).mono fun y m2 w2 H2 t2 R2 t v hv => ?_⟩
  exact hr w2 m2 H2 σ x y u v Q R2 (hu.mono t2.gr) hv t
theorem ru_din : Ru2 X T W (fun y x H Q => ∃ a o, x = .ref a ∧ DGet H a y o ∧ Q (.bl o.isSome) H) dDin := fun w m H σ y x u v Q R hu hv t => by
  unfold dDin at t
  split at t
  · rename_i i kvs k e1 e2
    obtain ⟨a, vs, rfl, f1, f2, r, hH⟩ := dic_at R hv e1
    obtain ⟨b, rfl, hb⟩ := tkey_at R.sub hu e2
    refine ⟨a, _, rfl, .t hH hb, ?_⟩
    rw [(r.val k).1]
    exact t.now R _ (.bl _)
  · exact t.elim
theorem ru_dnotin : Ru2 X T W (fun y x H Q => ∃ a o, x = .ref a ∧ DGet H a y o ∧ Q (.bl (!o.isSome)) H) dDnotin := fun w m H σ y x u v Q R hu hv t => by
  unfold dDnotin at t
  split at t
  · rename_i i kvs k e1 e2
    obtain ⟨a, vs, rfl, f1, f2, r, hH⟩ := dic_at R hv e1
    obtain ⟨b, rfl, hb⟩ := tkey_at R.sub hu e2
    refine ⟨a, _, rfl, .t hH hb, ?_⟩
    rw [(r.val k).1]
    exact t.now R _ (.bl _)
  · exact t.elim
theorem ru_dget : Ru2 X T W (fun x y H Q => ∃ a v, x = .ref a ∧ DGet H a y (some v) ∧ Q v H) dDget := fun w m H σ x y u v Q R hu hv t => by
  unfold dDget at t
  split at t
  · rename_i i kvs k e1 e2
    split at t
    · rename_i d e3
      obtain ⟨a, vs, rfl, f1, f2, r, hH⟩ := dic_at R hu e1
      obtain ⟨b, rfl, hb⟩ := tkey_at R.sub hv e2
      obtain ⟨z, e4, hz⟩ := (r.val k).2 d e3
      exact ⟨a, z, rfl, by rw [← e4]; exact .t hH hb, t.now R _ hz⟩
    · exact t.elim
  · exact t.elim
theorem re_din {a b : Expr} {f1 f2 : SEx} (hu : X.A.units + 1 < cLine) (ha : PE X a (rdE X.K X.mg T W f1)) (hb : PE X b (rdE X.K X.mg T W f2)) (hm : behindInMarks .In b = false) : PE X (.Compare a [.In] [b] pos) (rdE X.K X.mg T W (s2 dDin f1 f2)) := (pe_cmp (pc_din hu ha hb) hm).imp fun σ H Q h => two_help ru_din σ H Q h
theorem re_dnotin {a b : Expr} {f1 f2 : SEx} (hu : X.A.units + 1 < cLine) (ha : PE X a (rdE X.K X.mg T W f1)) (hb : PE X b (rdE X.K X.mg T W f2)) (hm : behindInMarks .NotIn b = false) : PE X (.Compare a [.NotIn] [b] pos) (rdE X.K X.mg T W (s2 dDnotin f1 f2)) := (pe_cmp (pc_dnotin hu ha hb) hm).imp fun σ H Q h => two_help ru_dnotin σ H Q h
theorem rt_din {a b : Expr} {f1 f2 : SEx} (hu : X.A.units + 1 < cLine) (ha : PE X a (rdE X.K X.mg T W f1)) (hb : PE X b (rdE X.K X.mg T W f2)) (hm : behindInMarks .In b = false) : PT X (.Compare a [.In] [b] pos) (rdB X.K X.mg T W (sTst (s2 dDin f1 f2))) := by
  have h : PT X (.Compare a [.In] [b] pos) (tTest (tDIn (rdE X.K X.mg T W f1) (rdE X.K X.mg T W f2))) := pt_cmp (pc_din hu ha hb) hm
  exact rt_of h fun σ H Q h => two_help ru_din σ H Q h
theorem rt_dnotin {a b : Expr} {f1 f2 : SEx} (hu : X.A.units + 1 < cLine) (ha : PE X a (rdE X.K X.mg T W f1)) (hb : PE X b (rdE X.K X.mg T W f2)) (hm : behindInMarks .NotIn b = false) : PT X (.Compare a [.NotIn] [b] pos) (rdB X.K X.mg T W (sTst (s2 dDnotin f1 f2))) := by
  have h : PT X (.Compare a [.NotIn] [b] pos) (tTest (tDNotIn (rdE X.K X.mg T W f1) (rdE X.K X.mg T W f2))) := pt_cmp (pc_dnotin hu ha hb) hm
  exact rt_of h fun σ H Q h => two_help ru_dnotin σ H Q h
theorem re_dget {a b : Expr} {f1 f2 : SEx} (hu : X.A.units + 1 < cLine) (ha : PE X a (rdE X.K X.mg T W f1)) (hb : PE X b (rdE X.K X.mg T W f2)) (hs : NoSl b) : PE X (.Subscript a b pos) (rdE X.K X.mg T W (s2 dDget f1 f2)) := (pe_dget hu ha hb hs).imp fun σ H Q h => two_help ru_dget σ H Q h
theorem rs_dput {v o i : Expr} {fv fo fi : SEx} {pos' : Pos} (hu : X.A.units + 1 < cLine) (hv : PE X v (rdE X.K X.mg T W fv)) (ho : PE X o (rdE X.K X.mg T W fo)) (hi : PE X i (rdE X.K X.mg T W fi)) (hs : swapsWith v (some (.Subscript o i pos')) pos.line X.env = pure false := by rfl) : PS X (.Assign [.Subscript o i pos'] v pos) (rdS X.K X.mg T W (sDput fv fo fi)) := (ps_dput hu ho hi hv hs).imp fun D σ H ⟨w, s, m, R, S, t⟩ => by
  refine ⟨w, s, m, R, S, (SThen.ofS t S).mono fun d m1 w1 H1 t1 R1 q v hv => ?_⟩
  have S1 := S.mono t1.gr
  refine ⟨w1, s, m1, R1, S1, (SThen.ofS q S1).mono fun x m2 w2 H2 t2 R2 q u hu => ?_⟩
  have S2 := S1.mono t2.gr
  refine ⟨w2, s, m2, R2, S2, (SThen.ofS q S2).mono fun j m3 w3 H3 t3 R3 q z hz => ?_⟩
  cases e : dDput x j d m3 with
  | none => rw [e] at q; exact q.elim
  | some m4 =>
    rw [e] at q
    unfold dDput at e
    split at e
    · rename_i i kvs k e1 e2
      split at e
      · rename_i hl
        cases e
        obtain ⟨a, vs, rfl, f1, f2, r, hH⟩ := dic_at R3 (hu.mono t3.gr) e1
        obtain ⟨b, rfl, hb⟩ := tkey_at R3.sub hz e2
        have hd := (hv.mono t2.gr).mono t3.gr
        obtain ⟨R4, t4⟩ := R3.write (u := .dic (putD kvs k d)) (o := .dT (putK vs k v)) f1 f2 rfl rfl ⟨_, upd_same, r.put k hd⟩
        exact ⟨a, _, rfl, .t hH hb (by rw [r.length, sizeLine_eq]; omega), q w3 _ σ t4 R4 (S2.mono t3.gr)⟩
      · cases e
    · cases e
/-! ### raise of own classes -/
/-- X(..), no field -/
def sRaise0 (cls : Str) (a : SAr) : SSt := fun s m => (a s m).toS s fun ds m => if ds.length ≤ 1000 then .exc ⟨cls, []⟩ s m else .stuck
/-- X(e), one field -/
def sRaise1 (cls f : Str) (a : SAr) : SSt := fun s m => (a s m).toS s fun ds m => match ds with
  | [.int i] => if i.natAbs.log2 < 1920 then .exc ⟨cls, [(f, .int i)]⟩ s m else .stuck
  | _ => .stuck
theorem rs_raise0 {x : Str} {C : Addr} {e ex : Expr} {es : List Expr} {a : SAr} (hc : X.calm = true) (tk : Takes X W) (hm : X.mg x = some (.ref C)) (h : PA X (e :: es) (rdA X.K X.mg T W a) → PMk X ex (fun σ H Q => rdA X.K X.mg T W a σ H fun vs H1 => vs.length ≤ sizeLine ∧ Q (.ref C) none H1)) (ha : PA X (e :: es) (rdA X.K X.mg T W a)) :
    PS X (.Raise (some ex) none pos) (rdS X.K X.mg T W (sRaise0 x a)) := (ps_raise hc tk (h ha)).imp fun D σ H ⟨w, s, m, R, S, t⟩ => by
  refine ⟨w, s, m, R, S, (SThen.ofS t S).mono fun ds m1 w1 H1 t1 R1 q vs hv => ?_⟩
  split at q
  · rename_i hl
    exact ⟨by rw [hv.length]; exact line1000 hl, q w1 H1 σ _ _ (Tr.refl _ _ _) R1 (S.mono t1.gr) ⟨⟨C, hm, rfl⟩, .inl ⟨rfl, rfl⟩⟩⟩
  · exact q.elim
/-- what an __init__ promises that stores its one argument -/
def spInit (K : PySem.W.Frag) (f : Str) : Sp := fun vs H Q E => ∃ (a C : Addr) (i : Int), vs = [.ref a, .int i] ∧ i.natAbs.log2 < 1920 ∧ OexC K C ∧ PySem.W.findIn K (.ref C) f = some none ∧ H a = some (exo a C none) ∧
  ∀ dx, H dx = none → dx ≠ a → Q .non (upd (upd H dx (exd dx [(f, .int i)])) a (exo a C (some dx)))
theorem Rel.grown {K : PySem.W.Frag} {T} {w : Wd} {m : Mu} {H H' : Hp} (R : Rel K T w m H) (s : Same H H') : Rel K T w m H' :=
  ⟨R.sub.trans s, R.len, fun k o a e1 e2 e3 => ⟨(R.obj k o a e1 e2 e3).1, (R.obj k o a e1 e2 e3).2.same (Gr.refl w) fun u hu _ => s _ _ hu⟩, R.inj, R.tab.ext s, R.nt, R.tk⟩
theorem rs_raise1 {x f : Str} {C : Addr} {e ex : Expr} {a : SAr} (hc : X.calm = true) (tk : Takes X W) (hm : X.mg x = some (.ref C)) (TC : OexC X.K C) (hf : PySem.W.findIn X.K (.ref C) f = some none) (h : PA X [e] (rdA X.K X.mg T W a) → PMk X ex (tMkO C (spInit X.K f) [] (rdA X.K X.mg T W a))) (ha : PA X [e] (rdA X.K X.mg T W a)) :
    PS X (.Raise (some ex) none pos) (rdS X.K X.mg T W (sRaise1 x f a)) := (ps_raise hc tk (h ha)).imp fun D σ H ⟨w, s, m, R, S, t⟩ => by
  refine ⟨w, s, m, R, S, (SThen.ofS t S).mono fun ds m1 w1 H1 t1 R1 q vs hv => ?_⟩
  split at q
  · rename_i i
    split at q
    · rename_i hi
      cases hv with
      | cons h1 hv =>
        cases hv
        cases h1
        refine ⟨by show 1 ≤ 1000; decide, fun a na => ⟨a, C, i, rfl, hi, TC, hf, upd_same, fun dx nd ne => ?_⟩⟩
        rw [upd_ne ne] at nd
        refine ⟨rfl, dx, [(f, .int i)], upd_same, by rw [upd_ne ne, upd_same], nd, ?_⟩
        have sm : Same H1 (upd (del (upd (upd (upd H1 a (exo a C none)) dx (exd dx [(f, V.int i)])) a (exo a C (some dx))) a) dx (.xd [(f, V.int i)])) := fun b o e => by
          have n1 : b ≠ dx := ne_of_none e nd
          have n2 : b ≠ a := ne_of_none e na
          rw [upd_ne n1, del_ne n2, upd_ne n2, upd_ne n1, upd_ne n2]
          exact e
        refine q w1 _ σ _ _ (Tr.grown sm) (R1.grown sm) (S.mono t1.gr) ⟨⟨C, hm, rfl⟩, .inr ⟨dx, _, rfl, upd_same, fun g d e => ?_⟩⟩
        have e' : (List.lookup g [(f, Rx.D.int i)]) = some d := e
        by_cases hg : g = f
        · subst hg
          simp [List.lookup] at e'
          subst e'
          exact ⟨_, by simp [List.lookup], .int _⟩
        · have : (g == f) = false := by simpa using hg
          simp [List.lookup, this] at e'
    · exact q.elim
  · exact q.elim
end
/-! ### isinstance -/
inductive Ty where
  | int | bool | str | tuple | list
inductive Kd where
  | non | bl | int | str | tup | lst
def Ty.nm : Ty → String
  | .int => "int" | .bool => "bool" | .str => "str" | .tuple => "tuple" | .list => "list"
def Kd.nm : Kd → String
  | .non => "NoneType" | .bl => "bool" | .int => "int" | .str => "str" | .tup => "tuple" | .lst => "list"
def isKd : Kd → Ty → Bool
  | .bl, .int => true | .bl, .bool => true | .int, .int => true | .str, .str => true | .tup, .tuple => true | .lst, .list => true
  | _, _ => false
theorem kit_kd : ∀ (k : Kd) (t : Ty), kitB k.nm t.nm = some (isKd k t) := by
  intro k t
  cases k <;> cases t <;> decide +kernel
def kdOf (m : Mu) (x : D) : Option Kd := match x with
  | .non => some .non
  | .bl _ => some .bl
  | .int _ => some .int
  | .str _ => some .str
  | x => match seqOf m x with
    | some (false, _) => some .lst
    | some (true, _) => some .tup
    | none => none
def dIsi (ts : List Ty) (x : D) (m : Mu) : Res D := match kdOf m x with
  | some k => .ok (.bl (ts.any fun t => isKd k t)) m
  | none => .stuck
theorem tyx_list {K : PySem.W.Frag} {H : Hp} {a : Addr} {vs : List V} (h : SqL K H a vs) : TyX K H (.ref a) (.type "list") := by
  rcases h with (h | ⟨o, h⟩) | ⟨o, its, n, h1, h2, _⟩
  · exact .base (.lst h)
  · exact .base (.frz h)
  · exact .kList h1 h2
theorem tyx_tup {K : PySem.W.Frag} {H : Hp} {a : Addr} {vs : List V} (h : SqT K H a vs) : TyX K H (.ref a) (.type "tuple") := by
  rcases h with (h | ⟨o, h⟩) | ⟨o, its, n, h1, h2, _⟩
  · exact .base (.tup h)
  · exact .fTuple h
  · exact .kTuple h1 h2
theorem kd_at {K : PySem.W.Frag} {T} {w : Wd} {m : Mu} {H : Hp} (R : Rel K T w m H) {u : V} {x : D} (h : Dat K w u x) {k : Kd} (e : kdOf m x = some k) : TyX K H u (.type k.nm) := by
  have sq : ∀ {b ds}, seqOf m x = some (b, ds) → (match (some (b, ds) : Option (Bool × List D)) with | some (false, _) => some Kd.lst | some (true, _) => some Kd.tup | none => none) = some k → TyX K H u (.type k.nm) := fun {b ds} e1 e2 => by
    obtain ⟨a, vs, rfl, r, hq⟩ := seq_at R h e1
    rcases hq with ⟨rfl, hq⟩ | ⟨rfl, hq⟩
    · cases e2; exact tyx_list hq
    · cases e2; exact tyx_tup hq
  cases h with
  | non => cases e; exact .base .non
  | bl b => cases e; exact .base (.bl b)
  | int i => cases e; exact .base (.int i)
  | str z => cases e; exact .base (.str z)
  | tup hq r => exact sq rfl e
  | ktup hq r => exact sq rfl e
  | lst hq r => exact sq rfl e
  | scr hq r => exact sq rfl e
  | @ref a j hj =>
    unfold kdOf at e
    dsimp only at e
    cases e1 : seqOf m (.ref j) with
    | none => rw [e1] at e; cases e
    | some p => rw [e1] at e; exact sq (b := p.1) (ds := p.2) e1 e
theorem kit_any {K : PySem.W.Frag} (k : Kd) : ∀ ts : List Ty, PySem.W.kitAny K (.type k.nm) (ts.map fun t => .type t.nm) = some (ts.any fun t => isKd k t)
  | [] => rfl
  | t :: ts => by
    have h := kit_ty (K := K) (kit_kd k t)
    rw [List.map_cons, List.any_cons]
    cases e : isKd k t with
    | true => exact kitAny_cons (h.trans (by rw [e])) (fun z => by cases z) (fun _ => by simp)
    | false => exact kitAny_cons (h.trans (by rw [e])) (fun _ => by rw [kit_any k ts]; simp) (fun z => by cases z)
section
variable {X : Cx} {T : Tb} {W : WX} {pos : Pos}
/-- isinstance(x, T) -/
theorem re_isi {t : Ty} {e ex : Expr} {f : SEx} (h : PE X e (rdE X.K X.mg T W f) → PE X ex (tCB (rIsi X.K) (tCons (rdE X.K X.mg T W f) (tCons (tC (.ty t.nm)) tNil)))) (he : PE X e (rdE X.K X.mg T W f)) : PE X ex (rdE X.K X.mg T W (s1 (dIsi [t]) f)) := (h he).imp fun σ H Q ⟨w, s, m, R, S, t0⟩ => by
  refine ⟨w, s, m, R, S, (Then.bind t0).mono fun x m1 w1 H1 t1 R1 q u hu => ?_⟩
  unfold dIsi at q
  split at q
  · rename_i k e
    refine ⟨u, .ty t.nm, _, _, isKd k t, rfl, .ty _, kd_at R1 hu e, kit_ty (kit_kd k t), ?_⟩
    have := q.now R1 _ (.bl _)
    simpa using this
  · exact q.elim
/-- isinstance(x, (T, U)) -/
theorem re_isi2 {t1 t2 : Ty} {e ex : Expr} {f : SEx} (h : PE X e (rdE X.K X.mg T W f) → PE X ex (tCB (rIsiT X.K) (tCons (rdE X.K X.mg T W f) (tCons (tTup (tCons (tC (.ty t1.nm)) (tCons (tC (.ty t2.nm)) tNil))) tNil)))) (he : PE X e (rdE X.K X.mg T W f)) : PE X ex (rdE X.K X.mg T W (s1 (dIsi [t1, t2]) f)) := (h he).imp fun σ H Q ⟨w, s, m, R, S, t0⟩ => by
  refine ⟨w, s, m, R, S, (Then.bind t0).mono fun x m1 w1 H1 tr R1 q u hu => ?_⟩
  unfold dIsi at q
  split at q
  · rename_i k e
    refine ⟨by show 2 ≤ sizeLine; decide, fun p hp => ?_⟩
    obtain ⟨R2, t2'⟩ := R1.frozen (o := .tup [.ty t1.nm, .ty t2.nm]) hp
    exact ⟨u, p, _, _, [.type t1.nm, .type t2.nm], _, rfl, upd_same, .cons (.ty _) (.cons (.ty _) .nil), kd_at R2 (hu.mono t2'.gr) e, kit_any k [t1, t2], q _ _ t2' R2 _ (.bl _)⟩
  · exact q.elim
/-! ### more built-in functions -/
theorem ru_abs : RuB X T W (fun xs H Q => ∃ i, xs = [.int i] ∧ Q (.int (if i < 0 then -i else i)) H) dAbs := fun w m H σ xs us Q R hu t => by
  unfold dAbs at t
  split at t
  · rename_i i
    cases hu with
    | cons h1 hu =>
      cases hu; cases h1
      refine ⟨i, rfl, ?_⟩
      have e : (if i < 0 then -i else i) = (i.natAbs : Int) := by split <;> omega
      rw [e]
      exact t.now R _ (.int _)
  · exact t.elim
def dMax2 (xs : List D) (m : Mu) : Res D := match xs with
  | [.int i, .int j] => .ok (.int (if j > i then j else i)) m
  | _ => .stuck
def dMin2 (xs : List D) (m : Mu) : Res D := match xs with
  | [.int i, .int j] => .ok (.int (if j < i then j else i)) m
  | _ => .stuck
def dInt (xs : List D) (m : Mu) : Res D := match xs with
  | [.int i] => .ok (.int i) m
  | [.bl k] => .ok (.int (if k then 1 else 0)) m
  | _ => .stuck
theorem ru_max2 : RuB X T W (fun xs H Q => ∃ i j, xs = [.int i, .int j] ∧ Q (.int (if j > i then j else i)) H) dMax2 := fun w m H σ xs us Q R hu t => by
  unfold dMax2 at t
  split at t
  · cases hu with
    | cons h1 hu => cases hu with
      | cons h2 hu => cases hu; cases h1; cases h2; exact ⟨_, _, rfl, t.now R _ (.int _)⟩
  · exact t.elim
theorem ru_min2 : RuB X T W (fun xs H Q => ∃ i j, xs = [.int i, .int j] ∧ Q (.int (if j < i then j else i)) H) dMin2 := fun w m H σ xs us Q R hu t => by
  unfold dMin2 at t
  split at t
  · cases hu with
    | cons h1 hu => cases hu with
      | cons h2 hu => cases hu; cases h1; cases h2; exact ⟨_, _, rfl, t.now R _ (.int _)⟩
  · exact t.elim
theorem ru_int : RuB X T W (fun xs H Q => (∃ i, xs = [.int i] ∧ Q (.int i) H) ∨ ∃ k, xs = [.bl k] ∧ Q (.int (if k then 1 else 0)) H) dInt := fun w m H σ xs us Q R hu t => by
  unfold dInt at t
  split at t
  · cases hu with
    | cons h1 hu => cases hu; cases h1; exact .inl ⟨_, rfl, t.now R _ (.int _)⟩
  · cases hu with
    | cons h1 hu => cases hu; cases h1; exact .inr ⟨_, rfl, t.now R _ (.int _)⟩
  · exact t.elim
/-- an f-string of texts and ints; its text is not told -/
def sFs (a : SAr) : SEx := fun s m => (a s m).bind fun ds m => if (ds.all fun d => match d with | .int i => decide (i.natAbs.log2 < 1920) | _ => false) = true ∧ ds.length ≤ 4 then .ok .non m else .stuck
end
end Rx
set_option Elab.async false
set_option linter.all false
set_option maxRecDepth 100000
set_option maxHeartbeats 1000000
namespace Rx
open PySem PySem.Spec PyProof.Rows L2

/-- a def of the text, where it stands -/
structure DefAt (K : PySem.W.Frag) (mg : Str → Option Value) (x : Str) (st : Stmt) (ps : List Str) : Prop where
  ex : ∃ (fa : Addr) (fd : FuncData), Fun K x x st fa fd ∧ mg x = some (.ref fa) ∧ Binds K fd ps []
theorem units65 {k : Nat} {A : Around} (hr : Room k A) : A.units + 65 < cLine := by have := hr.un; omega
theorem fn_stuck {P : Program} {w : World} {K : PySem.W.Frag} {mg : Str → Option Value} {base : Heap} {T : Tb} {CX : CXT} {k n : Nat} {f : Addr} {fd : FuncData} {ps : List Str} (hn : ps.length = n := by rfl) : FnOk P w K mg base CX k f fd ps (spI K mg T n fun _ _ => .stuck) :=
  ⟨fun vs H Q E h => h.1.trans hn.symm, fun A outer s H args us vs Q E hr e0 hb hv h => by obtain ⟨_, w, m, ds, R, r, t⟩ := h; exact t.elim⟩
/-- a op b op' c -/
def sChain (g1 g2 : D → D → Mu → Res D) (a b c : SEx) : SEx := fun s m => (a s m).bind fun x m => (b s m).bind fun y m => (g1 x y m).bind fun z m => match z with
  | .bl k => if k = true then (c s m).bind fun v m => g2 y v m else .ok (.bl false) m
  | _ => .stuck
section
variable {X : Cx} {T : Tb} {W : WX} {pos : Pos}
theorem chain_help {r r' : R2} {g1 g2 : D → D → Mu → Res D} {fa fb fc : SEx} (h1 : Ru2 X T W r g1) (h2 : Ru2 X T W r' g2) (σ : L2.St) (H : Hp) (Q : VK) (h : rdE X.K X.mg T W (sChain g1 g2 fa fb fc) σ H Q) :
    tChain r r' (rdE X.K X.mg T W fa) (rdE X.K X.mg T W fb) (rdE X.K X.mg T W fc) σ H Q := by
  obtain ⟨w, s, m, R, S, t⟩ := h
  refine ⟨w, s, m, R, S, (Then.bind t).mono fun x m1 w1 H1 t1 R1 t u hu => ?_⟩
  refine ⟨w1, s, m1, R1, S.mono t1.gr, (Then.bind t).mono fun y m2 w2 H2 t2 R2 t v hv => ?_⟩
  refine h1 w2 m2 H2 σ x y u v _ R2 (hu.mono t2.gr) hv ((Then.bind t).mono fun z m3 w3 H3 t3 R3 t c hc => ?_)
  split at t
  · rename_i k
    cases hc
    refine ⟨k, rfl, ?_⟩
    cases k with
    | true => exact ⟨w3, s, m3, R3, ((S.mono t1.gr).mono t2.gr).mono t3.gr, (Then.bind t).mono fun e m4 w4 H4 t4 R4 t d hd => h2 w4 m4 H4 σ y e v d _ R4 ((hv.mono t3.gr).mono t4.gr) hd t⟩
    | false => exact t.now R3 _ (.bl _)
  · exact t.elim
theorem re_chain {op op' : CmpOp} {r r' : R2} {g1 g2 : D → D → Mu → Res D} {a b c : Expr} {fa fb fc : SEx} (ho : OpR X (compareOp op) r) (ho' : OpR X (compareOp op') r') (h1 : Ru2 X T W r g1) (h2 : Ru2 X T W r' g2) (ha : PE X a (rdE X.K X.mg T W fa)) (hb : PE X b (rdE X.K X.mg T W fb)) (hc : PE X c (rdE X.K X.mg T W fc))
    (hm : lastMarks [op, op'] [b, c] = false := by with_unfolding_all rfl) : PE X (.Compare a [op, op'] [b, c] pos) (rdE X.K X.mg T W (sChain g1 g2 fa fb fc)) := (pe_chain ho ho' ha hb hc hm).imp fun σ H Q h => chain_help h1 h2 σ H Q h
theorem rt_chain {op op' : CmpOp} {r r' : R2} {g1 g2 : D → D → Mu → Res D} {a b c : Expr} {fa fb fc : SEx} (ho : OpR X (compareOp op) r) (ho' : OpR X (compareOp op') r') (h1 : Ru2 X T W r g1) (h2 : Ru2 X T W r' g2) (ha : PE X a (rdE X.K X.mg T W fa)) (hb : PE X b (rdE X.K X.mg T W fb)) (hc : PE X c (rdE X.K X.mg T W fc))
    (hm : lastMarks [op, op'] [b, c] = false := by with_unfolding_all rfl) : PT X (.Compare a [op, op'] [b, c] pos) (rdB X.K X.mg T W (sTst (sChain g1 g2 fa fb fc))) := rt_of (pt_chain ho ho' ha hb hc hm) fun σ H Q h => chain_help h1 h2 σ H Q h
theorem rpts_nil : PTs X [] (rdB X.K X.mg T W bYes) := ⟨fun pins s σ H Q I h => (pts_nil (X := X)).run pins s σ H Q I (by
  obtain ⟨w, s, m, R, S, t⟩ := h
  exact t.now R)⟩
theorem rs_setLc {st : Stmt} {i : Nat} {f : SEx} {t : TE} (hr : ∀ (D : Ends) (σ : L2.St) (H : Hp) (Q : VK), rdE X.K X.mg T W f σ H Q → t σ H Q) (h : PS X st (tAsg t (gName i))) : PS X st (rdS X.K X.mg T W (sSet i f)) := h.imp fun D σ H ⟨w, s, m, R, S, q⟩ =>
  hr D σ H _ ⟨w, s, m, R, S, (SThen.ofS q S).mono fun d m' w' H' t' R' q v hv => q w' H' _ (Tr.refl _ _ _) R' ((S.mono t'.gr).set i hv)⟩
/-- the truth of a list or tuple -/
def sTru (f : SEx) : SBl := fun s m => (f s m).bind fun d m => match seqOf m d with
  | some (_, ds) => .ok (!ds.isEmpty) m
  | none => .stuck
theorem rt_tru {a : Expr} {f : SEx} (ha : PE X a (rdE X.K X.mg T W f)) (he : ∀ whole, isTrue a X.env whole = (do let v ← whole; standAt a.pos; holding [v] (truthy v)) := by intro _; rfl) : PT X a (rdB X.K X.mg T W (sTru f)) := (pt_truth ha he).imp fun σ H Q ⟨w, s, m, R, S, t⟩ => ⟨w, s, m, R, S, (Then.bind t).mono fun d m' w' H' t' R' q v hv => by
  split at q
  · rename_i b ds e
    obtain ⟨a, vs, rfl, r, hq⟩ := seq_at R' hv e
    have e2 : vs.isEmpty = ds.isEmpty := by cases r <;> rfl
    refine ⟨!ds.isEmpty, ?_, q.now R'⟩
    rcases hq with ⟨_, hq⟩ | ⟨_, hq⟩
    · exact .inl ⟨vs, hq, by rw [e2]⟩
    · exact .inr (.inl ⟨vs, hq, by rw [e2]⟩)
  · exact q.elim⟩
/-! ### f-strings -/
def sJ : List (Sum Str SEx) → Str → SEx
  | [], acc => fun _ m => .ok (.str acc) m
  | .inl c :: r, acc => fun s m => if (acc ++ c).length ≤ 1000000 then sJ r (acc ++ c) s m else .stuck
  | .inr f :: r, acc => fun s m => (f s m).bind fun d m => match d with
    | .int i => if i.natAbs.log2 < 1920 ∧ (acc ++ (toString i : String)).length ≤ 1000000 then sJ r (acc ++ (toString i : String)) s m else .stuck
    | _ => .stuck
def sJs (ps : List (Sum Str SEx)) : SEx := sJ ps Str.empty
inductive RJ (X : Cx) (T : Tb) (W : WX) : List Expr → List (Sum Str SEx) → Prop where
  | nil : RJ X T W [] []
  | cs {c : Str} {j : Nat} {p : Pos} {es ps} (r : RJ X T W es ps) : RJ X T W (.Constant (.str c) j p :: es) (.inl c :: ps)
  | fm {e : Expr} {f : SEx} {p : Pos} {es ps} (h : PE X e (rdE X.K X.mg T W f)) (r : RJ X T W es ps) : RJ X T W (.FormattedValue e (-1) none p :: es) (.inr f :: ps)
theorem RJ.pj {es ps} (h : RJ X T W es ps) : ∃ ts, PJ X es ts ∧ ∀ (acc : Str) (σ : L2.St) (H : Hp) (Q : VK), rdE X.K X.mg T W (sJ ps acc) σ H Q → tJs ts acc σ H fun out H1 => Q (.str out) H1 := by
  induction h with
  | nil => exact ⟨[], .nil, fun acc σ H Q ⟨w, s, m, R, S, t⟩ => t.now R _ (.str _)⟩
  | @cs c j p es ps r ih =>
    obtain ⟨ts, h1, h2⟩ := ih
    refine ⟨tC (.str c) :: ts, .cons pe_str h1, fun acc σ H Q ⟨w, s, m, R, S, t⟩ => ?_⟩
    unfold sJ at t
    split at t
    · rename_i hl
      exact ⟨c, rfl, line6 hl, h2 _ σ H Q ⟨w, s, m, R, S, t⟩⟩
    · exact t.elim
  | @fm e f p es ps h r ih =>
    obtain ⟨ts, h1, h2⟩ := ih
    refine ⟨tFmt (rdE X.K X.mg T W f) :: ts, .cons (pe_fmt h) h1, fun acc σ H Q ⟨w, s, m, R, S, t⟩ => ?_⟩
    unfold sJ at t
    refine ⟨w, s, m, R, S, (Then.bind t).mono fun d m' w' H' t' R' q v hv => ?_⟩
    split at q
    · rename_i i
      split at q
      · rename_i hl
        cases hv
        exact .inr ⟨i, rfl, hl.1, _, rfl, line6 hl.2, h2 _ σ H' Q ⟨w', s, m', R', S.mono t'.gr, q⟩⟩
      · exact q.elim
    · exact q.elim
theorem re_js {v1 v2 : Expr} {rest : List Expr} {ps : List (Sum Str SEx)} (h : RJ X T W (v1 :: v2 :: rest) ps) : PE X (.JoinedStr (v1 :: v2 :: rest) pos) (rdE X.K X.mg T W (sJs ps)) := by
  obtain ⟨ts, h1, h2⟩ := h.pj
  exact (pe_joined h1).imp fun σ H Q q => h2 _ σ H Q q
end
end Rx
set_option Elab.async false
set_option linter.all false
set_option maxRecDepth 100000
set_option maxHeartbeats 1000000
namespace Rx
open PySem PySem.Spec PyProof.Rows L2

/-! ### own exception classes -/
/-- a class over ValueError without __init__ -/
structure Cls0 (K : PySem.W.Frag) (mg : Str → Option Value) (x : Str) : Prop where
  ex : ∃ C, mg x = some (.ref C) ∧ PySem.W.excIn K C [.type "ValueError", .type "Exception", .type "BaseException", .type "object"] "ValueError.__new__" = true ∧ PySem.W.keepIn K (.ref C) = true ∧ PySem.W.subIn K (.ref C) (.type "BaseException") = some true ∧ PySem.W.typeIn K (.ref C) = some (.type "type")
/-- SkyError.__init__, found in ValueError -/
structure BaseInit (K : PySem.W.Frag) (mg : Str → Option Value) (x : Str) : Prop where
  ex : ∃ C, mg x = some (.ref C) ∧ PySem.W.specialIn K (.ref C) "__getattribute__" = some (some (.builtin "type.__getattribute__")) ∧ PySem.W.readsIn K C (.type "type") = true ∧ PySem.W.findCls K (.ref C) (.type "type") "__init__" = some (.val (.builtin "ValueError.__init__"))
/-- a class with an __init__ -/
structure Cls1 (K : PySem.W.Frag) (mg : Str → Option Value) (x q : Str) (st : Stmt) (ps : List Str) (f : Str) : Prop where
  ex : ∃ C fI fd, mg x = some (.ref C) ∧ OexC K C ∧ PySem.W.findIn K (.ref C) f = some none ∧ PySem.W.findIn K (.ref C) "__init__" = some (some (.ref fI)) ∧ PySem.W.typeIn K (.ref fI) = some (.type "function") ∧ Fun K "__init__" q st fI fd ∧ Binds K fd ps []
/-- .. whose __init__ keeps its promise -/
structure Rais1 (P : Program) (w : World) (K : PySem.W.Frag) (mg : Str → Option Value) (base : Heap) (k : Nat) (x f : Str) (ps : List Str) : Prop where
  ex : ∃ C fI fd, mg x = some (.ref C) ∧ OexC K C ∧ PySem.W.findIn K (.ref C) f = some none ∧ PySem.W.findIn K (.ref C) "__init__" = some (some (.ref fI)) ∧ PySem.W.typeIn K (.ref fI) = some (.type "function") ∧
    FnOk P w K mg base (L2.CX P w) k fI fd ps (spInit K f) ∧ Binds K fd ps []
section
variable {X : Cx} {T : Tb} {W : WX} {pos p : Pos}
theorem rs_rais0 {x : Str} {e : Expr} {es : List Expr} {a : SAr} {p' pos' : Pos} (c : Cls0 X.K X.mg x) (hc : X.calm = true) (tk : Takes X W) (hg : Gl X x) (ha : PA X (e :: es) (rdA X.K X.mg T W a)) (hdb : (x == ("__debug__" : Str)) = false := by decide)
    (he : starEach (e :: es) X.env = (false, eval e X.env) :: starEach es X.env := by rfl) (hpl : (backTo pos' (starEach es X.env)).any (·.1) = false := by rfl) :
    PS X (.Raise (some (.Call (.Name x p') (e :: es) [] pos')) none pos) (rdS X.K X.mg T W (sRaise0 x a)) := by
  obtain ⟨C, gC, q, kC, bC, tC⟩ := c.ex
  exact rs_raise0 hc tk gC (fun h => pmk_ownA F.excBase_ValueError q gC kC (raises_own bC tC) hg h hdb he hpl) ha
theorem rs_rais1 {k : Nat} {x f : Str} {ps : List Str} {e : Expr} {a : SAr} {p' pos' : Pos} (c : Rais1 X.prog X.w X.K X.mg X.base k x f ps) (hr : Room (k + 1) X.A) (hc : X.calm = true) (tk : Takes X W) (hg : Gl X x) (ha : PA X [e] (rdA X.K X.mg T W a)) (hdb : (x == ("__debug__" : Str)) = false := by decide)
    (he : starEach [e] X.env = (false, eval e X.env) :: starEach [] X.env := by rfl) (hpl : (backTo pos' (starEach [] X.env)).any (·.1) = false := by rfl) :
    PS X (.Raise (some (.Call (.Name x p') [e] [] pos')) none pos) (rdS X.K X.mg T W (sRaise1 x f a)) := by
  obtain ⟨C, fI, fd, gC, ox, nf, iC, tI, FI, bI⟩ := c.ex
  exact rs_raise1 hc tk gC ox nf (fun h => pmk_oex ox iC tI FI hr bI .nil passL hg gC h hdb he hpl) ha
/-- C.__init__(self, ..), C an own class that finds ValueError's -/
theorem pe_skyinit {x : Str} {e : Expr} {es : List Expr} {ta : TA} {p1 p2 : Pos} {pl : Sem Bool} (b : BaseInit X.K X.mg x) (hg : Gl X x) (ha : PA X (e :: es) ta) (hdb : (x == ("__debug__" : Str)) = false := by decide)
    (hc : eval (.Call (.Attribute (.Name x p1) "__init__" p2) (e :: es) [] pos) X.env = (do
      let ov ← eval (.Name x p1) X.env
      standAt p2.atName
      let (f, first) ← holding [ov] (getMethod ov "__init__" pl)
      callWith pos f first (backTo pos (starEach (e :: es) X.env)) (backToKw pos (keywordEach [] X.env))) := by rfl)
    (he : starEach (e :: es) X.env = (false, eval e X.env) :: starEach es X.env := by rfl) (hpl : (backTo pos (starEach es X.env)).any (·.1) = false := by rfl) :
    PE X (.Call (.Attribute (.Name x p1) "__init__" p2) (e :: es) [] pos) (tVeI X.K ta) := by
  obtain ⟨C, gC, b1, b2, b3⟩ := b.ex
  refine ⟨fun pins s σ H Q I h => ?_⟩
  refine PySem.W.methodCall_KW (ld_glob I hg gC ?_ hdb) hc
  refine PySem.W.method_cls I.kIn b1 (PySem.W.cls_value I.kIn b2 b3 (by decide +kernel) ?_)
  show wpAny _ _ (callWith pos (Value.builtin "ValueError.__init__") [] (backTo pos (starEach (e :: es) X.env)) []) _ _ _
  refine PyProof.Rows.callWith_method1 (thn (ha.run pos pins _ σ H _ (I.tok _) h) fun us s1 ⟨vs, H1, I1, r1, a, C', ws, ev, hl, T, ea, q⟩ => ?_) he hpl
  subst ev
  cases r1 with
  | @cons _ u0 _ ur ra rw' =>
    obtain rfl : u0 = Value.ref a := ra
    have hlen : ur.length ≤ sizeLine := by
      rw [← Paired.length rw', sizeLine_eq]
      omega
    exact oinit_ok T I1 ea hlen fun s' J => ⟨.non, H1, J, rfl, q⟩
theorem text_num {i : Int} (h : i.natAbs.log2 < 1920) : (Str.ofString (toString i)).length ≤ 2000 := by
  have e := PySem.int_text_length_le (k := 1920) (by decide) h
  rw [PySem.ofString_length]
  omega
end
/-- def __init__(self, n): SkyError.__init__(self, f'a {n} b'); self.f = n -/
theorem init_ok {P : Program} {w : World} {K : PySem.W.Frag} {mg : Str → Option Value} {base : Heap} {x sky q f n self : Str} {st : Stmt} {t1 t2 : Str} {p1 p2 p3 p4 p5 p6 p7 p8 p9 q1 q2 q3 q4 q5 : Pos} {j1 j2 : Nat} (c : Cls1 K mg x q st [self, n] f) (b : BaseInit K mg sky) (S : FnScope [self, n] [self, n] (defScope st))
    (hb : defBody st = [.Expr (.Call (.Attribute (.Name sky p1) "__init__" p2) [.Name self p3, .JoinedStr [.Constant (.str t1) j1 p4, .FormattedValue (.Name n p5) (-1) none p6, .Constant (.str t2) j2 p7] p8] [] p9) q1, .Assign [.Attribute (.Name self q2) f q3] (.Name n q4) q5])
    (hg : (defScope st).names.lookup sky = some .globalImplicit) (h1 : (sky == ("__debug__" : Str)) = false) (v1 : Vis (defScope st) self) (v2 : Vis (defScope st) n) (d1 : (self == ("__debug__" : Str)) = false) (d2 : (self == ("__classdict__" : Str)) = false) (d3 : (n == ("__debug__" : Str)) = false) (d4 : (n == ("__classdict__" : Str)) = false)
    (l1 : t1.length ≤ 1000) (l2 : t2.length ≤ 1000)
    (hev : ∀ env : PySem.Env, ∃ pl, eval (.Call (.Attribute (.Name sky p1) "__init__" p2) [.Name self p3, .JoinedStr [.Constant (.str t1) j1 p4, .FormattedValue (.Name n p5) (-1) none p6, .Constant (.str t2) j2 p7] p8] [] p9) env = (do
      let ov ← eval (.Name sky p1) env
      standAt p2.atName
      let (f, first) ← holding [ov] (getMethod ov "__init__" pl)
      callWith p9 f first (backTo p9 (starEach [.Name self p3, .JoinedStr [.Constant (.str t1) j1 p4, .FormattedValue (.Name n p5) (-1) none p6, .Constant (.str t2) j2 p7] p8] env)) (backToKw p9 (keywordEach [] env)))) : Rais1 P w K mg base 1 x f [self, n] := by
  obtain ⟨C, fI, fd, gC, ox, nf, iC, tI, F, bI⟩ := c.ex
  refine ⟨C, fI, fd, gC, ox, nf, iC, tI, ?_, bI⟩
  refine F.okX S (fun vs H Q E h => ?_) fun cdv A outer s H vs Q E hr h => ?_
  · obtain ⟨_, _, _, rfl, _⟩ := h
    rfl
  · obtain ⟨a, C, i, rfl, hi, T, hno, hH, k⟩ := h
    have hX : (cxOf (L2.CX P w) P w K mg base [self, n] q (defScope st) fI cdv A outer s H E).env.scope = defScope st := rfl
    have s0 : PE (cxOf (L2.CX P w) P w K mg base [self, n] q (defScope st) fI cdv A outer s H E) (.Name self p3) (tVar 0) := pe_var rfl v1 d1 d2
    have s0' : PE (cxOf (L2.CX P w) P w K mg base [self, n] q (defScope st) fI cdv A outer s H E) (.Name self q2) (tVar 0) := pe_var rfl v1 d1 d2
    have s1 : PE (cxOf (L2.CX P w) P w K mg base [self, n] q (defScope st) fI cdv A outer s H E) (.Name n p5) (tVar 1) := pe_var rfl v2 d3 d4
    have s1' : PE (cxOf (L2.CX P w) P w K mg base [self, n] q (defScope st) fI cdv A outer s H E) (.Name n q4) (tVar 1) := pe_var rfl v2 d3 d4
    rw [hb]
    obtain ⟨pl, hev⟩ := hev (cxOf (L2.CX P w) P w K mg base [self, n] q (defScope st) fI cdv A outer s H E).env
    refine ⟨_, pss_cons (ps_expr (pe_skyinit b hg (pa_cons s0 (pa_cons (pe_joined (.cons pe_str (.cons (pe_fmt s1) (.cons pe_str .nil)))) pa_nil)) h1 (hc := hev))) (pss_one (ps_ost s0' s1')), ?_⟩
    have ln := text_num hi
    refine ⟨_, rfl, t1, rfl, ?_, _, rfl, .inr ⟨i, rfl, hi, _, rfl, ?_, t2, rfl, ?_, a, C, _, rfl, by show 1 ≤ 1000; decide, T, hH, _, rfl, _, rfl, a, C, rfl, T, hno, .inl ⟨hH, k⟩⟩⟩
    · rw [sizeLine_eq]; simp only [Str.length_append]; show 0 + _ ≤ _; omega
    · rw [sizeLine_eq]; simp only [Str.length_append]; show 0 + _ + _ ≤ _; omega
    · rw [sizeLine_eq]; simp only [Str.length_append]; show 0 + _ + _ + _ ≤ _; omega
/-! ### constants of the module -/
structure KAt (K : PySem.W.Frag) (mg : Str → Option Value) (x : Str) (d : D) : Prop where
  ex : ∃ u v, mg x = some u ∧ RelV v u ∧ ∀ w, Dat K w v d
theorem re_glob {X : Cx} {T : Tb} {W : WX} {pos : Pos} {x : Str} {d : D} (h : KAt X.K X.mg x d) (hg : Gl X x) (hd : (x == ("__debug__" : Str)) = false := by decide) : PE X (.Name x pos) (rdE X.K X.mg T W (sC d)) := by
  obtain ⟨u, v, h1, h2, h3⟩ := h.ex
  exact re_c (pe_glob hg h1 h2 hd) h3
/-- a written tuple of ints -/
theorem ktup_of {K : PySem.W.Frag} {w : Wd} {a : Addr} {o : Obj} {us : List Value} {n : Nat} {vs : List V} {ds : List D} (h : K.lookup a = some o) (hc : o.cls = .type "tuple") (hd : o.data = .seq us.toArray n) (hl : us.length ≤ sizeLine) (rv : Vals vs us) (r : DatL K w vs ds) : Dat K w (.ref a) (.ktup ds) :=
  .ktup (.inr ⟨o, us.toArray, n, h, hc, hd, by simpa using hl, by simpa using rv⟩) r
end Rx
set_option Elab.async false
set_option linter.all false
set_option maxRecDepth 100000
set_option maxHeartbeats 1000000
namespace Rx
open PySem PySem.Spec PyProof.Rows L2

/-! ### list.count, list.index -/
section
variable {X : Cx}
def rCountD (K : PySem.W.Frag) : V → List V → Hp → VK → Prop := fun x xs H Q => ∃ (a : Addr) (y : V) (d : PyData) (ds : List PyData), x = V.ref a ∧ xs = [y] ∧ Dp K H (V.ref a) (.list ds) ∧ Dp K H y d ∧
  SeqAt.shaped (.list ds) = true ∧ SeqAt.shaped d = true ∧ Q (.int (ds.countP fun z => PyData.eqv z d : Nat)) H
theorem mt_countD (hu : X.A.units + 65 < cLine) : MtR X "list.count" (rCountD X.K) := by
  intro pins s σ H x xs v us Q I rx rxs h
  obtain ⟨a, y, d, ds, rfl, rfl, hl, hy, sl, sd, q⟩ := h
  cases rx
  obtain ⟨uy, rfl, ry⟩ := rxs.one
  obtain ⟨bs, r1⟩ := Dp.reads I d y uy hy ry
  have hxs : PyData.canLayAll0 ds = true := SeqAt.canLay_of_shaped sl
  have hroom : X.A.units + 1 + min (PyData.depthAll ds) d.depth < cLine := room_in_shaped sd hu
  cases hl with
  | lst hs ha =>
    obtain ⟨its, rv, ⟨⟨cls, dd, data, sls⟩, n, ho, hc, hdn, hdt⟩, hlen⟩ := I.list hs
    simp only at hc hdt
    subst hc hdt
    obtain ⟨as, h4⟩ := Dp.readsAll I ds _ its ha rv
    have hmap : its.map (SeqAt.readOf s.heap) = ds := SeqAt.readsAll_map ds its as hxs h4
    refine call_meets PySem.F.slot_list_count ⟨_, ho, rfl⟩ PySem.F.entry_list_count (PySem.F.args_list_count_2 _ _)
      (SeqAt.list_countAt a its.toArray n dd sls uy (fun u => PyData.eqv (SeqAt.readOf s.heap u) d)) ⟨ho, SeqAt.items_eqAt (vs := its.toArray) (show ReadsAll s.heap its.toArray.toList ds as from h4) r1 hxs (SeqAt.canLay_of_shaped sd) hroom, ?_⟩
    have ec : its.toArray.toList.countP (fun u => PyData.eqv (SeqAt.readOf s.heap u) d) = ds.countP fun z => PyData.eqv z d := by
      rw [← hmap, List.countP_map]
      rfl
    refine ⟨.int (ds.countP fun z => PyData.eqv z d : Nat), H, I.tok _, ⟨s.toks, ?_⟩, q⟩
    rw [ec]
end
def dCount (x y : D) (m : Mu) : Res D := match seqOf m x with
  | some (false, ds) => if okD y = true ∧ okD (.lst ds) = true then .ok (.int ((ds.countP fun z => dEqv z y : Nat) : Int)) m else .stuck
  | _ => .stuck
def dIndex (x y : D) (m : Mu) : Res D := match seqOf m x with
  | some (false, ds) => if okD y = true ∧ okD (.lst ds) = true then (match ds.findIdx? (fun z => dEqv z y) with
    | some j => .ok (.int (j : Nat)) m
    | none => .stuck) else .stuck
  | _ => .stuck
theorem pyL_map : ∀ ds : List D, pyD.pyL ds = ds.map pyD
  | [] => rfl
  | d :: ds => by show pyD d :: pyD.pyL ds = _; rw [pyL_map ds]; rfl
section
variable {X : Cx} {T : Tb} {W : WX} {pos : Pos}
theorem ru_count : Ru2 X T W (fun x y H Q => rCountD X.K x [y] H Q) dCount := fun w m H σ x y u v Q R hu hv t => by
  unfold dCount at t
  split at t
  · rename_i ds e
    split at t
    · rename_i hc
      obtain ⟨a1, a2, a3, a4⟩ := in_help R hv hu e hc.1 hc.2
      obtain ⟨a, vs, rfl, r, hq⟩ := seq_at R hu e
      rcases hq with ⟨_, hq⟩ | ⟨z, _⟩
      · have a2' : Dp X.K H (.ref a) (.list (pyD.pyL ds)) := by
          have h3 : D.undr.all 0 ds = true := by
            have h2 := hc.2
            unfold okD at h2
            rw [Bool.and_eq_true] at h2
            have := h2.1
            simpa only [D.undr] using this
          exact .lst hq (dpL_of R.sub r h3)
        refine ⟨a, v, _, _, rfl, rfl, a2', a1, a4, a3, ?_⟩
        have en : (pyD.pyL ds).countP (fun z => PyData.eqv z (pyD y)) = ds.countP fun z => dEqv z y := by
          rw [pyL_map, List.countP_map]
          rfl
        rw [en]
        exact t.now R _ (.int _)
      · cases z
    · exact t.elim
  · exact t.elim
theorem ru_index : Ru2 X T W (fun x y H Q => rIndexD X.K x [y] H Q) dIndex := fun w m H σ x y u v Q R hu hv t => by
  unfold dIndex at t
  split at t
  · rename_i ds e
    split at t
    · rename_i hc
      split at t
      · rename_i j ej
        obtain ⟨a1, a2, a3, a4⟩ := in_help R hv hu e hc.1 hc.2
        obtain ⟨a, vs, rfl, r, hq⟩ := seq_at R hu e
        rcases hq with ⟨_, hq⟩ | ⟨z, _⟩
        · have a2' : Dp X.K H (.ref a) (.list (pyD.pyL ds)) := by
            have h3 : D.undr.all 0 ds = true := by
              have h2 := hc.2
              unfold okD at h2
              rw [Bool.and_eq_true] at h2
              have := h2.1
              simpa only [D.undr] using this
            exact .lst hq (dpL_of R.sub r h3)
          obtain ⟨hj, e1, e2⟩ := List.findIdx?_eq_some_iff_getElem.mp ej
          refine ⟨a, v, pyD y, pyD.pyL ds, j, pyD ds[j], rfl, rfl, a2', a1, a4, a3, ?_, e1, fun i z hi ez => ?_, t.now R _ (.int _)⟩
          · rw [pyL_map, List.getElem?_map, List.getElem?_eq_getElem hj]
            rfl
          · rw [pyL_map, List.getElem?_map, List.getElem?_eq_getElem (by omega)] at ez
            cases ez
            have := e2 i hi
            simpa [dEqv] using this
        · cases z
      · exact t.elim
    · exact t.elim
  · exact t.elim
end
/-! ### another place -/
theorem Then.at_ {α : Type} {K : PySem.W.Frag} {mg : Str → Option Value} {T T' : Tb} {W W' : WX} {w : Wd} {m : Mu} {H : Hp} {σ σ' : L2.St} {r : Res α} {k : α → Mu → Wd → Hp → Prop} (h : Then K mg T W w m H σ r k) (e : T.t = T'.t) (g : Gr T.w w) (hW : ∀ c d H', W c d σ H' → W' c d σ' H') : Then K mg T' W' w m H σ' r k := by
  cases r with
  | ok a m' => exact fun w' H' t R => h w' H' t (R.at_ e (g.trans t.gr))
  | exc x m' => exact fun w' H' cls dd t R hx => hW _ _ _ (h w' H' cls dd t (R.at_ e (g.trans t.gr)) hx)
  | stuck => exact h
/-! ### a function that was handed in -/
def sAct (k n i : Nat) (r : Mu → Res D) : SEx := fun s m => match s[i]? with
  | some (some (.ref j)) => if j = k ∧ s.length = n then r m else .stuck
  | _ => .stuck
/-- it does not look at the slots -/
def Blind (W : WX) : Prop := ∀ cls d σ σ' H, σ'.length = σ.length → W cls d σ H → W cls d σ' H
theorem takes_len {X : Cx} {W : WX} (tk : Takes X W) : Takes X (fun c d σ H => σ.length = X.N.length → W c d σ H) := fun u s' ⟨a, B, sI, pins, σ, H, cls, d, e, I, nb, up, sky, na, os, ag, w⟩ =>
  tk u s' ⟨a, B, sI, pins, σ, H, cls, d, e, I, nb, up, sky, na, os, ag, w I.len⟩
/-- what is told of its call -/
def Tells (K : PySem.W.Frag) (mg : Str → Option Value) (T0 : Tb) (wl : Wd) (tl : XK → Hp → VK → Prop) (r : Mu → Res D) : Prop := ∀ (E : XK) (w : Wd) (m : Mu) (H : Hp) (Q : VK), Gr wl w → Rel K T0 w m H →
  Then K mg T0 (fun c d _ H => E c d H) w m H [] (r m) (fun d _ w' H' => ∀ v, Dat K w' v d → Q v H') → tl E H Q
theorem re_act {Z : Cx} {T0 T1 : Tb} {W : WX} {wl : Wd} {e : Expr} {k i : Nat} {f c' : Addr} {q : Str} {tl : XK → Hp → VK → Prop} {r : Mu → Res D} (hT : T1.t = T0.t) (h0 : Gr T0.w T1.w) (hk : T1.w.r[k]? = some f) (hc : T1.w.g c' = some (LamX.CodeO c' q)) (hw : Gr wl T1.w) (ht : Tells Z.K Z.mg T0 wl tl r)
    (hb : Blind W) (tk : Takes Z W) (act : ∀ (W : WX) (E : XK), Takes Z W → (∀ cls d σ' H', E cls d H' → W cls d σ' H') → PE Z e (fun σZ HZ Q => σZ[i]? = some (some (.ref f)) ∧ HZ c' = some (LamX.CodeO c' q) ∧ tl E HZ Q)) :
    PE Z e (rdE Z.K Z.mg T1 W (sAct k Z.N.length i r)) :=
  (act _ (fun cls d H' => ∀ σ', σ'.length = Z.N.length → W cls d σ' H') (takes_len tk) (fun cls d σ' H' h hl => h σ' hl)).imp fun σ H Q ⟨w, s, m, R, S, t⟩ => by
    unfold sAct at t
    split at t
    · rename_i j hj
      split at t
      · rename_i hjn
        obtain ⟨rfl, hn⟩ := hjn
        obtain ⟨v, e1, e2⟩ := S.2 i _ hj
        cases e2 with
        | @ref a k e2 =>
          have e3 := R.tk.get hk
          rw [e3] at e2
          cases e2
          refine ⟨e1, R.sub _ _ (R.tk.g _ _ hc), ht _ w m H Q (hw.trans R.tk) (R.at_ hT.symm (h0.trans R.tk)) ?_⟩
          refine Then.at_ t hT R.tk fun c d H' h σ' hl => hb c d σ σ' H' ?_ h
          rw [hl, S.1, hn]
      · exact t.elim
    · exact t.elim
/-! ### try .. except X as e -/
def sTry (i : Nat) (cs : List Str) (b : SSt) (h : Nat → Ex → SSt) : SSt := fun s m => match b s m with
  | .exc x s' m' => if cs.contains x.cls = true ∧ (x.fs.all fun p => match p.2 with | .int _ => true | _ => false) = true ∧ i < s'.length then (match h m'.length x ((s'.map fun _ => none).set i (some (.ref m'.length))) (m' ++ [.dead]) with
      | .nx s2 m2 => .nx (s2.set i none) m2
      | .ret d m2 => .ret d m2
      | _ => .stuck) else .stuck
  | r => r
/-- what a suite knows of its exception -/
structure Caught (mg : Str → Option Value) (a : Addr) (cls : Value) (dd : Option Addr) (k : Nat) (x : Ex) (T : Tb) : Prop where
  at_ : T.w.r[k]? = some a
  cls : ∃ C, mg x.cls = some (.ref C) ∧ cls = .ref C
  fs : (dd = none ∧ x.fs = []) ∨ ∃ b vs, dd = some b ∧ T.w.g b = some (.xd vs) ∧ ∀ f i, x.fs.lookup f = some (.int i) → vs.lookup f = some (V.int i)
theorem slots_none {K : PySem.W.Frag} {w : Wd} {σ : L2.St} {s : Sd} (h : σ.length = s.length) : Slots K w σ (s.map fun _ => none) := ⟨by simp [h], fun i d e => by
  rw [List.getElem?_map] at e
  cases e1 : s[i]? with
  | none => rw [e1] at e; cases e
  | some y => rw [e1] at e; cases e⟩
theorem Slots.unset {K : PySem.W.Frag} {w : Wd} {σ : L2.St} {s : Sd} (h : Slots K w σ s) (i : Nat) : Slots K w (σ.set i none) (s.set i none) := ⟨by simp [h.1], fun j d e => by
  by_cases hj : j = i
  · subst hj
    have hl : j < (s.set j none).length := (List.getElem?_eq_some_iff.mp e).1
    rw [List.getElem?_set_self (by simpa using hl)] at e
    cases e
  · rw [List.getElem?_set_ne (Ne.symm hj)] at e
    obtain ⟨v, e1, e2⟩ := h.2 j d e
    exact ⟨v, by rw [List.getElem?_set_ne (Ne.symm hj)]; exact e1, e2⟩⟩
/-- the reading of a suite -/
def tSuite (K : PySem.W.Frag) (mg : Str → Option Value) (T : Tb) (cs : List Str) (h : Nat → Ex → SSt) (a : Addr) (cls : Value) (dd : Option Addr) : TS := fun D σ H => ∃ k x T2, T2.t = T.t ∧ cs.contains x.cls = true ∧ Caught mg a cls dd k x T2 ∧ rdS K mg T2 W0 (h k x) D σ H
theorem ps_any {X : Cx} {ι : Type} {ss : List Stmt} {t : ι → TS} (h : ∀ i, PSs X ss (t i)) : PSs X ss fun D σ H => ∃ i, t i D σ H := ⟨fun pins s σ H D I ⟨i, q⟩ => (h i).run pins s σ H D I q⟩
section
variable {X : Cx} {T : Tb} {n x : Str} {S : Addr} {i : Nat} {cs : List Str} {body suite : List Stmt} {b₀ : Stmt} {np pos pos' : Pos} {b : SSt} {h : Nat → Ex → SSt}
theorem rs_try (hex : ∀ y ∈ cs, ∀ C, X.mg y = some (.ref C) → PySem.W.exmOne X.K (.ref C) (.ref S) = some true) (hs : X.stack = X.env :: X.outer) (hf : X.env.frame = some X.env.locals) (hN : X.N.Nodup) (hi : X.N[i]? = some n) (hln : X.env.kindOf n = some .local) (hc : Names X x (.ref S))
    (hb : ∀ (W : WX) (pn : List (Addr × Obj)) (xe : Value → Shared → Prop), Takes (X.tr pn xe) W → Blind W → PSs (X.tr pn xe) body (rdS X.K X.mg T W b))
    (hsu : ∀ (a : Addr) (oe : Obj) (cls : Value) (dd : Option Addr) (pn : List (Addr × Obj)) (k : Nat) (y : Ex) (T2 : Tb), Zc cls dd oe → (∃ vs, oe.data = .fields vs) → cs.contains y.cls = true → Caught X.mg a cls dd k y T2 → PSs (X.suite a ((a, oe) :: pn)) (b₀ :: suite) (rdS X.K X.mg T2 W0 (h k y))) :
    PS X (.Try body [.ExceptHandler (some (.Name x np)) (some n) (b₀ :: suite) pos'] [] [] pos) (rdS X.K X.mg T W0 (sTry i cs b h)) := by
  refine (ps_try_as (ts := tSuite X.K X.mg T cs h) (tb := fun W => rdS X.K X.mg T (fun cls d σ H => ∀ σ', σ'.length = σ.length → W cls d σ' H) b) (Wout := W0) hs hf hN hi hln hc (fun _ _ x => by
    obtain ⟨_, _, _, _, _, _, _, _, _, _, _, _, _, _, _, _, z⟩ := x
    exact z.elim) (fun W pn xe tk _ => hb (fun cls d σ H => ∀ σ', σ'.length = σ.length → W cls d σ' H) pn xe (tk.imp fun c d σ H q => q σ rfl) (by
    intro c d σ σ' H e q σ2 e2
    exact q σ2 (e2.trans e))) (fun a oe cls d pn hz hv => ⟨fun pins s σ H D I q => ?_⟩)).imp fun D σ H ⟨w, s, m, R, S0, t⟩ => ⟨w, s, m, R, S0, ?_⟩
  · obtain ⟨k, y, T2, eT, hcs, ca, q⟩ := q
    exact (hsu a oe cls d pn k y T2 hz hv hcs ca).run pins s σ H D I q
  · unfold sTry at t
    revert t
    cases b s m with
    | nx s' m' => exact fun t => t
    | ret d m' => exact fun t => t
    | bk s' m' => exact fun t => t
    | ct s' m' => exact fun t => t
    | stuck => exact fun t => t
    | exc y s' m' =>
      intro t w' H' σ' cls dd tr R' S' hx σ2 hl
      dsimp only at t
      split at t
      · rename_i hcond
        obtain ⟨hcs, hint, hil⟩ := hcond
        obtain ⟨C, hC, rfl⟩ := hx.1
        refine ⟨true, hex _ (by simpa using hcs) C hC, fun _ a na => ?_, fun z => by cases z⟩
        -- the world with the exception's fields, then with the handle
        have hfr : ∃ w2, Gr w' w2 ∧ w2.r = w'.r ∧ Rel X.K T w2 m' H' ∧ Tr w' m' H' w2 m' H' ∧ ((dd = none ∧ y.fs = []) ∨ ∃ b vs, dd = some b ∧ w2.g b = some (.xd vs) ∧ ∀ f i, y.fs.lookup f = some (.int i) → vs.lookup f = some (V.int i)) := by
          rcases hx.2 with hx | ⟨b, vs, e1, e2, e3⟩
          · exact ⟨w', Gr.refl _, rfl, R', Tr.refl _ _ _, .inl hx⟩
          · obtain ⟨w2, g1, g2, g3, g4, g5⟩ := R'.know e2
            refine ⟨w2, g1, g2, g4, g5, .inr ⟨b, vs, e1, g3, fun f i e => ?_⟩⟩
            obtain ⟨v, e4, e5⟩ := e3 f _ e
            cases e5
            exact e4
        obtain ⟨w2, g1, g2, R2, t2, hfs⟩ := hfr
        obtain ⟨R3, t3⟩ := R2.nail a
        have hlen : w2.r.length = m'.length := R2.len
        have hat : (w2.r ++ [a])[m'.length]? = some a := by rw [← hlen]; simp
        refine ⟨m'.length, y, ⟨T.t, ⟨w2.g, w2.r ++ [a]⟩⟩, rfl, hcs, ⟨hat, ⟨C, hC, rfl⟩, hfs⟩, ⟨w2.g, w2.r ++ [a]⟩, _, _, R3.at_ rfl (Gr.refl _), (slots_none (s := s') (by rw [hl, S'.1])).set i (.ref hat), ?_⟩
        have tt := tr.trans (t2.trans t3)
        revert t
        cases h m'.length y ((s'.map fun _ => none).set i (some (.ref m'.length))) (m' ++ [.dead]) with
        | nx s2 m2 => exact fun t w4 H4 σ4 t4 R4 S4 => t w4 H4 (σ4.set i none) (tt.trans t4) (R4.at_ rfl (((R'.tk.mono t2.gr).mono t3.gr).trans t4.gr)) (S4.unset i)
        | ret d m2 => exact fun t w4 H4 v t4 R4 hv => t w4 H4 v (tt.trans t4) (R4.at_ rfl (((R'.tk.mono t2.gr).mono t3.gr).trans t4.gr)) hv
        | bk s2 m2 => exact fun t => t.elim
        | ct s2 m2 => exact fun t => t.elim
        | exc y2 s2 m2 => exact fun t => t.elim
        | stuck => exact fun t => t.elim
      · exact t.elim
end
end Rx
set_option Elab.async false
set_option linter.all false
set_option maxRecDepth 100000
set_option maxHeartbeats 1000000
namespace Rx
open PySem PySem.Spec PyProof.Rows L2

/-! ### the error that a suite holds -/
/-- a class of errors, told: S the class that the clause names, cs the classes, fl the names of fields -/
structure ErrC (K : PySem.W.Frag) (mg : Str → Option Value) (S : Addr) (cs fl : List Str) (y : Str) (C : Addr) : Prop where
  gC : mg y = some (.ref C)
  ec : ExcC K C
  xf : XfC K C
  fl : ∀ f ∈ fl, PySem.W.findIn K (.ref C) f = some none
  ex : PySem.W.exmOne K (.ref C) (.ref S) = some true
  ki : ∀ z ∈ cs, ∀ Cz, mg z = some (.ref Cz) → PySem.W.kitOne K (.ref C) (.ref Cz) = some (decide (y = z))
  kv : PySem.W.kitOne K (.ref C) (.type "ValueError") = some true
structure Errs (K : PySem.W.Frag) (mg : Str → Option Value) (sky : Str) (cs fl : List Str) : Prop where
  ex : ∃ S, mg sky = some (.ref S) ∧ ∀ y ∈ cs, ∃ C, ErrC K mg S cs fl y C
/-- isinstance(e, c) -/
def rIsE2 (K : PySem.W.Frag) (D a : Addr) (dd : Option Addr) : List V → Hp → VK → Prop := fun xs H Q => ∃ (c : V) (cv : Value) (b : Bool), xs = [.ref a, c] ∧ (∀ u, RelV c u → u = cv) ∧ PySem.W.kitOne K (.ref D) cv = some b ∧ (dd = none ∨ ∃ p vs, dd = some p ∧ H p = some (.xd vs)) ∧ Q (.bl b) H
theorem call_isE2 {X : Cx} {a D : Addr} {dd : Option Addr} {oe : Obj} {pn : List (Addr × Obj)} (C : ExcC X.K D) (hz : Zc (.ref D) dd oe) (hf : ∃ vs, oe.data = .fields vs) : CallR (X.suite a ((a, oe) :: pn)) (.builtin "isinstance") (rIsE2 X.K D a dd) := by
  intro pins s σ H xs us Q I r h
  obtain ⟨c, cv, b, rfl, hcv, e, hd, q⟩ := h
  cases r with
  | cons rx rr =>
    cases rr with
    | cons rt rr =>
      cases rr
      cases rx
      have ec := hcv _ rt
      subst ec
      obtain ⟨hget, _⟩ := I.pin (a, oe) (List.mem_append.mpr (.inl List.mem_cons_self))
      obtain ⟨vs, hv⟩ := hf
      have hcl : (PySem.W.clsIn X.K D).isSome = true := by
        obtain ⟨cd, hc, _⟩ := PySem.W.any_some C.hd
        rw [hc]
        rfl
      have J : ∃ od, PySem.W.InstAt s.heap a oe D od := by
        rcases hd with rfl | ⟨p, fs, rfl, hp⟩
        · refine ⟨none, hget, hz.1, by unfold PySem.W.notCls; rw [hv] <;> rfl, ?_⟩
          rw [hz.2]
          exact trivial
        · have hx : ObjOk X.prog X.w H s.heap p (.xd fs) := I.hok p _ hp
          obtain ⟨mA, hns, hr⟩ := hx
          obtain ⟨od, ho, hl⟩ := lookIn_ns hns
          refine ⟨some od, hget, hz.1, by unfold PySem.W.notCls; rw [hv] <;> rfl, ?_⟩
          rw [hz.2]
          exact ho
      obtain ⟨od, J⟩ := J
      exact PySem.W.kia_one (PySem.W.kitx_exc hcl C.hg C.hk C.hs C.ha C.hn C.ht C.hm) I.kIn J e (fun z => nomatch z) fun tk => ⟨.bl b, H, I.kept (t' := tk) fun _ _ z => z, rfl, q⟩
def sIsE (k : Nat) (b : Bool) (f : SEx) : SEx := fun s m => (f s m).bind fun d m => match d with
  | .ref j => if j = k then .ok (.bl b) m else .stuck
  | _ => .stuck
def sFld (k : Nat) (x : Ex) (n : Str) (f : SEx) : SEx := fun s m => (f s m).bind fun d m => match d with
  | .ref j => if j = k then (match x.fs.lookup n with
    | some (.int i) => .ok (.int i) m
    | _ => .stuck) else .stuck
  | _ => .stuck
section
variable {X : Cx} {T : Tb} {W : WX} {pos : Pos} {a : Addr} {oe : Obj} {cls : Value} {dd : Option Addr} {pn : List (Addr × Obj)} {k : Nat} {x : Ex} {sky : Str} {cs fl : List Str}
theorem caught_xd (ca : Caught X.mg a cls dd k x T) {w : Wd} {m : Mu} {H : Hp} (R : Rel X.K T w m H) : dd = none ∨ ∃ p vs, dd = some p ∧ H p = some (.xd vs) := by
  rcases ca.fs with ⟨h, _⟩ | ⟨b, vs, h1, h2, _⟩
  · exact .inl h
  · exact .inr ⟨b, vs, h1, R.sub _ _ (R.tk.g _ _ h2)⟩
theorem re_isE {ex : Expr} {f : SEx} {cv : Value} {c : V} {b : Bool} (hb : ∀ C, cls = .ref C → PySem.W.kitOne X.K (.ref C) cv = some b) (hcv : ∀ u, RelV c u → u = cv) (ca : Caught X.mg a cls dd k x T) (er : Errs X.K X.mg sky cs fl) (hcs : cs.contains x.cls = true) (hz : Zc cls dd oe) (hf : ∃ vs, oe.data = .fields vs)
    (h : ∀ r, CallR (X.suite a ((a, oe) :: pn)) (.builtin "isinstance") r → PE (X.suite a ((a, oe) :: pn)) ex (tCB r (tCons (rdE X.K X.mg T W f) (tCons (tC c) tNil)))) : PE (X.suite a ((a, oe) :: pn)) ex (rdE X.K X.mg T W (sIsE k b f)) := by
  obtain ⟨C, hC, rfl⟩ := ca.cls
  obtain ⟨S, hS, hE⟩ := er.ex
  obtain ⟨C', E⟩ := hE _ (by simpa using hcs)
  have := E.gC.symm.trans hC
  cases this
  refine (h _ (call_isE2 E.ec hz hf)).imp fun σ H Q ⟨w, s, m, R, S0, t⟩ => ⟨w, s, m, R, S0, (Then.bind t).mono fun d m1 w1 H1 t1 R1 q v hv => ?_⟩
  split at q
  · rename_i j
    split at q
    · rename_i hj
      subst hj
      cases hv with
      | ref hr =>
        have e3 := R1.tk.get ca.at_
        rw [hr] at e3
        cases e3
        exact ⟨c, cv, b, rfl, hcv, hb _ rfl, caught_xd ca R1, q.now R1 _ (.bl b)⟩
    · exact q.elim
  · exact q.elim
theorem re_fld {e : Expr} {f : SEx} {n : Str} (hn : n ∈ fl) (ca : Caught X.mg a cls dd k x T) (er : Errs X.K X.mg sky cs fl) (hcs : cs.contains x.cls = true) (hz : Zc cls dd oe) (hf : ∃ vs, oe.data = .fields vs) (he : PE (X.suite a ((a, oe) :: pn)) e (rdE X.K X.mg T W f)) (hb : attributeBase e n X.env (eval e X.env) = eval e X.env := by rfl) :
    PE (X.suite a ((a, oe) :: pn)) (.Attribute e n pos) (rdE X.K X.mg T W (sFld k x n f)) := by
  obtain ⟨C, hC, rfl⟩ := ca.cls
  obtain ⟨S, hS, hE⟩ := er.ex
  obtain ⟨C', E⟩ := hE _ (by simpa using hcs)
  have := E.gC.symm.trans hC
  cases this
  refine (pe_xf E.xf (E.fl n hn) hz hf he hb).imp fun σ H Q ⟨w, s, m, R, S0, t⟩ => ⟨w, s, m, R, S0, (Then.bind t).mono fun d m1 w1 H1 t1 R1 q v hv => ?_⟩
  split at q
  · rename_i j
    split at q
    · rename_i hj
      subst hj
      split at q
      · rename_i i ei
        cases hv with
        | ref hr =>
          have e3 := R1.tk.get ca.at_
          rw [hr] at e3
          cases e3
          rcases ca.fs with ⟨_, h2⟩ | ⟨b, vs, h1, h2, h3⟩
          · rw [h2] at ei
            cases ei
          · exact ⟨rfl, rfl, b, vs, .int i, h1, R1.sub _ _ (R1.tk.g _ _ h2), h3 n i ei, q.now R1 _ (.int i)⟩
      · exact q.elim
    · exact q.elim
  · exact q.elim
end
/-! ### the def that calls what it got -/
def word (n : Nat) (b : Nat → (Mu → Res D) → SSt) (r : Mu → Res D) (m : Mu) : Res D := trim m.length (fin (b m.length r (some (.ref m.length) :: List.replicate (n - 1) none) (m ++ [.dead])))
def TTw (K : PySem.W.Frag) (mg : Str → Option Value) (T0 : Tb) (n : Nat) (b : Nat → (Mu → Res D) → SSt) : (XK → Hp → VK → Prop) → Hp → VK → Prop := fun tl H Q => ∃ wl m r, Rel K T0 wl m H ∧ Tells K mg T0 wl tl r ∧ Then K mg T0 W0 wl m H [] (word n b r m) fun d _ w' H' => ∀ v, Dat K w' v d → Q v H'
theorem codeO_nt {c : Addr} {q : Str} : (∀ ps, LamX.CodeO c q ≠ .tbl ps) ∧ (∀ ps, LamX.CodeO c q ≠ .lst ps) ∧ ∀ ps, LamX.CodeO c q ≠ .dT ps := by
  unfold LamX.CodeO
  exact ⟨fun _ z => (by cases z), fun _ z => (by cases z), fun _ z => (by cases z)⟩
theorem word_gives {X : Cx} {T0 : Tb} {Ng : List Str} {x a q : Str} {sg : Scope} {g : Addr} {cdg : Value} {bg : List Stmt} {n : Nat} {b : Nat → (Mu → Res D) → SSt} (hn : Ng.length = n)
    (hbody : ∀ (f c' : Addr) (s : Shared) (H : Hp) (tl : XK → Hp → VK → Prop) (wl : Wd) (r : Mu → Res D) (k : Nat) (T1 : Tb), T1.t = T0.t → Gr T0.w T1.w → T1.w.r[k]? = some f → T1.w.g c' = some (LamX.CodeO c' q) → Gr wl T1.w → Tells X.K X.mg T0 wl tl r →
      (∀ (pn : List (Addr × Obj)) (xe : Value → Shared → Prop) (p1 p2 : Pos) (W : WX) (E : XK), Takes ((cxOf C8.CX0 X.prog X.w X.K X.mg X.base Ng x sg g cdg X.A X.stack s H C8.E0).nox.tr pn xe) W → (∀ cls d σ' H', E cls d H' → W cls d σ' H') →
        PE ((cxOf C8.CX0 X.prog X.w X.K X.mg X.base Ng x sg g cdg X.A X.stack s H C8.E0).nox.tr pn xe) (.Call (.Name a p1) [] [] p2) (fun σZ HZ Q => σZ[0]? = some (some (.ref f)) ∧ HZ c' = some (LamX.CodeO c' q) ∧ tl E HZ Q)) →
      PSs (cxOf C8.CX0 X.prog X.w X.K X.mg X.base Ng x sg g cdg X.A X.stack s H C8.E0).nox bg (rdS X.K X.mg T1 W0 (b k r))) :
    LamX.GivesTo X Ng x sg g cdg bg a q (TTw X.K X.mg T0 n b) := by
  intro f c' s H Q tl act hc ⟨wl, m, r, R, ht, t⟩
  obtain ⟨z1, z2, z3⟩ := codeO_nt (c := c') (q := q)
  obtain ⟨w1, g1, e1, k1, R1, t1⟩ := R.know hc z1 z2 z3
  obtain ⟨R2, t2⟩ := R1.nail f
  have len := R1.len
  have g12 : Gr wl ⟨w1.g, w1.r ++ [f]⟩ := t1.gr.trans t2.gr
  refine ⟨_, hbody f c' s H tl wl r m.length ⟨T0.t, ⟨w1.g, w1.r ++ [f]⟩⟩ rfl (Gr.trans R.tk g12) (by rw [← len]; simp) k1 g12 ht (fun pn xe p1 p2 W E tk hW => act W pn xe E p1 p2 tk hW), ?_⟩
  refine ⟨⟨w1.g, w1.r ++ [f]⟩, some (.ref m.length) :: List.replicate (n - 1) none, _, R2.at_ rfl (Gr.refl _), ?_, ?_⟩
  · have := slots_start (K := X.K) (wd := ⟨w1.g, w1.r ++ [f]⟩) (vs := [.ref f]) (ds := [.ref m.length]) (.cons (.ref (by rw [← len]; simp)) .nil) Ng
    rw [hn] at this
    exact this
  · unfold word trim at t
    have tt := t1.trans t2
    have fine : ∀ {w' : Wd} {m' : Mu} {H' : Hp}, Tr ⟨w1.g, w1.r ++ [f]⟩ (m ++ [.dead]) H w' m' H' → Rel X.K ⟨T0.t, ⟨w1.g, w1.r ++ [f]⟩⟩ w' m' H' → Rel X.K T0 w' m' H' := fun tr R' => R'.at_ rfl ((Gr.trans R.tk g12).trans tr.gr)
    revert t
    cases b m.length r (some (.ref m.length) :: List.replicate (n - 1) none) (m ++ [.dead]) with
    | nx s' m' =>
      intro t w' H' σ' tr R' S'
      dsimp only [fin] at t
      split at t
      · rename_i hcd
        exact t _ _ ((tt.trans tr).cut R.len) ((fine tr R').cut hcd.2.1 R.pinned) _ .non
      · exact t.elim
    | ret d m' =>
      intro t w' H' v tr R' hv
      dsimp only [fin] at t
      split at t
      · rename_i hcd
        exact t _ _ ((tt.trans tr).cut R.len) ((fine tr R').cut hcd.2.1 R.pinned) v (hv.cut hcd.1)
      · exact t.elim
    | bk _ _ => exact fun t => t.elim
    | ct _ _ => exact fun t => t.elim
    | exc y s' m' =>
      intro t w' H' σ' cls dd tr R' S' hx
      dsimp only [fin] at t
      split at t
      · rename_i hcd
        exact t _ _ cls dd ((tt.trans tr).cut R.len) ((fine tr R').cut hcd.2.1 R.pinned) (hx.cut hcd.1)
      · exact t.elim
    | stuck => exact fun t => t.elim
/-- x(lambda: e) -/
def sLam (n : Nat) (b : Nat → (Mu → Res D) → SSt) (fb : SEx) : SEx := fun s m => match word n b (fun m' => fb s m') m with
  | .exc _ _ => .stuck
  | r => r
section
variable {X : Cx}
theorem re_lam {T : Tb} {W : WX} {x a : Str} {g c P : Addr} {k n : Nat} {b : Nat → (Mu → Res D) → SSt} {fb : SEx} {st : Stmt} {fd : FuncData} {Ng : List Str} {params : Arguments} {body : Expr} {scope : Scope} {p lpos pos : Pos} (hg : Gl X x) (hm : X.mg x = some (.ref g)) (F : Fun X.K x x st g fd) (hb : Binds X.K fd [a] [])
    (Sg : FnScope Ng [a] (defScope st)) (hNg : Ng[0]? = some a) (hva : Vis (defScope st) a) (hG : ∀ cdg, LamX.GivesTo X Ng x (defScope st) g cdg (defBody st) a (X.env.qual ++ "<lambda>") (TTw X.K X.mg T n b))
    (TB : LamX.TabB X.base X.mg c P) (hcode : X.env.code = .ref c) (hmT : (P, X.env.qual ++ "<lambda>") ∈ T.t) (hu : ∀ p ∈ T.t, p.1 = P → p.2 = X.env.qual ++ "<lambda>") (hr : Room (k + 2) X.A) (L : LamX.LamS X.env.scope scope) (hdef : defaultsOf params X.env = ([], []))
    (hbind : ∀ (q : Str) (cl : List (Str × Addr)) (pm cv ctv : Value), bindArgs (PySem.W.kla_fn "<lambda>" q params body scope cl pm cv ctv) ⟨[], []⟩ = pure [])
    (hbody : ∀ (A : Around) (outer : List Env) (s : Shared) (H : Hp) (E : XK) (f c' : Addr), Room k (A.deeper (LamX.lamEnv X scope s.heap.objs.size f c')) → PE (LamX.lamCx X A outer s H E scope f c') body (rdE X.K X.mg T (fun c d _ H => E c d H) fb))
    (hdb : (x == ("__debug__" : Str)) = false := by decide) (hd : (a == ("__debug__" : Str)) = false := by decide) (hcd : (a == ("__classdict__" : Str)) = false := by decide) :
    PE X (.Call (.Name x p) [.Lambda params body scope lpos] [] pos) (rdE X.K X.mg T W (sLam n b fb)) := by
  obtain ⟨oc, od, kV, doc, pm, an, cdv, ct, osl, rfl, lk, hcdv⟩ := F.ex
  refine (LamX.pe_lamcall (T := T.t) hg hm F.kp lk hcdv hb Sg hNg hva (hG cdv) TB hcode hmT hu hr L hdef hbind (t := fun E => rdE X.K X.mg T (fun c d _ H => E c d H) fb) hbody hdb hd hcd).imp fun σ H Q ⟨w, s, m, R, S, t⟩ => ⟨R.tab, fun H1 e T1 => ⟨w, m, fun m' => fb s m', R.extN e T1, fun E w' m' H' Q' g R' t' => ⟨w', s, m', R', S.mono g, t'.at_ rfl R'.tk fun _ _ _ h => h⟩, ?_⟩⟩
  unfold sLam at t
  revert t
  cases word n b (fun m' => fb s m') m with
  | ok d m' => exact fun t w' H' tr R' => t w' H' ((Tr.extN e).trans tr) R'
  | exc y m' => exact fun t => t.elim
  | stuck => exact fun t => t
end
end Rx
set_option Elab.async false
set_option linter.all false
set_option maxRecDepth 100000
set_option maxHeartbeats 1000000
namespace Rx
open PySem PySem.Spec PyProof.Rows L2
section
variable {X : Cx} {T : Tb} {W : WX} {pos : Pos} {a : Addr} {oe : Obj} {cls : Value} {dd : Option Addr} {pn : List (Addr × Obj)} {k : Nat} {x : Ex} {sky : Str} {cs fl : List Str}
/-- isinstance(e, C), C an own class -/
theorem re_isC {z : Str} {e : Expr} {f : SEx} {p1 p2 : Pos} (hzs : z ∈ cs) (ca : Caught X.mg a cls dd k x T) (er : Errs X.K X.mg sky cs fl) (hcs : cs.contains x.cls = true) (hz : Zc cls dd oe) (hf : ∃ vs, oe.data = .fields vs) (hni : X.mg "isinstance" = none)
    (he : PE (X.suite a ((a, oe) :: pn)) e (rdE X.K X.mg T W f)) (hg : Gl X "isinstance" := by rfl) (hgz : Gl X z := by rfl) (hdz : (z == ("__debug__" : Str)) = false := by decide)
    (h1 : starEach [e, .Name z p2] X.env = (false, eval e X.env) :: starEach [.Name z p2] X.env := by rfl) (h2 : starEach [.Name z p2] X.env = (false, eval (.Name z p2) X.env) :: starEach [] X.env := by rfl) (hpl : (backTo pos (starEach [.Name z p2] X.env)).any (·.1) = false := by rfl) :
    PE (X.suite a ((a, oe) :: pn)) (.Call (.Name "isinstance" p1) [e, .Name z p2] [] pos) (rdE X.K X.mg T W (sIsE k (decide (x.cls = z)) f)) := by
  obtain ⟨S, hS, hE⟩ := er.ex
  obtain ⟨Cz, Ez⟩ := hE z hzs
  obtain ⟨C, hC, rfl⟩ := ca.cls
  obtain ⟨C', E⟩ := hE _ (by simpa using hcs)
  have := E.gC.symm.trans hC
  cases this
  refine re_isE (c := .ref Cz) (cv := .ref Cz) (fun C2 e2 => ?_) (fun u h => h) ca er hcs hz hf fun r hr => ?_
  · cases e2
    exact E.ki z hzs Cz Ez.gC
  · exact pe_callB (X := X.suite a ((a, oe) :: pn)) hr hg hni (by decide +kernel) (pa_cons he (pa_cons (pe_glob (X := X.suite a ((a, oe) :: pn)) (v := .ref Cz) hgz Ez.gC rfl hdz) pa_nil h2) h1) (he := h1) (hpl := hpl)
/-- isinstance(e, ValueError) -/
theorem re_isV {e : Expr} {f : SEx} {p1 p2 : Pos} (ca : Caught X.mg a cls dd k x T) (er : Errs X.K X.mg sky cs fl) (hcs : cs.contains x.cls = true) (hz : Zc cls dd oe) (hf : ∃ vs, oe.data = .fields vs) (hni : X.mg "isinstance" = none) (hnv : X.mg "ValueError" = none)
    (he : PE (X.suite a ((a, oe) :: pn)) e (rdE X.K X.mg T W f)) (hg : Gl X "isinstance" := by rfl) (hgz : Gl X "ValueError" := by rfl)
    (h1 : starEach [e, .Name "ValueError" p2] X.env = (false, eval e X.env) :: starEach [.Name "ValueError" p2] X.env := by rfl) (h2 : starEach [.Name "ValueError" p2] X.env = (false, eval (.Name "ValueError" p2) X.env) :: starEach [] X.env := by rfl) (hpl : (backTo pos (starEach [.Name "ValueError" p2] X.env)).any (·.1) = false := by rfl) :
    PE (X.suite a ((a, oe) :: pn)) (.Call (.Name "isinstance" p1) [e, .Name "ValueError" p2] [] pos) (rdE X.K X.mg T W (sIsE k true f)) := by
  obtain ⟨S, hS, hE⟩ := er.ex
  obtain ⟨C, hC, rfl⟩ := ca.cls
  obtain ⟨C', E⟩ := hE _ (by simpa using hcs)
  have := E.gC.symm.trans hC
  cases this
  refine re_isE (c := .ty "ValueError") (cv := .type "ValueError") (fun C2 e2 => ?_) (fun u h => h) ca er hcs hz hf fun r hr => ?_
  · cases e2
    exact E.kv
  · exact pe_callB (X := X.suite a ((a, oe) :: pn)) hr hg hni (by decide +kernel) (pa_cons he (pa_cons (pe_bltn (X := X.suite a ((a, oe) :: pn)) (v := .ty "ValueError") (u := .type "ValueError") hgz hnv (by decide +kernel) (by rfl)) pa_nil h2) h1) (he := h1) (hpl := hpl)
end
/-- a def whose code object is told -/
structure FunC (K : PySem.W.Frag) (x qual : Str) (st : Stmt) (f : Addr) (fd : FuncData) (c : Addr) : Prop where
  ex : ∃ (oc : Value) (od : Option Addr) (kV doc pm : Value) (an : Option Addr) (ct : Value) (osl : Array (Option Value)),
    fd = PySem.W.fnOf x qual (defArgs st) (defBody st) (defScope st) .none kV doc pm an (.ref c) ct ∧ K.lookup f = some ⟨oc, od, .func fd, osl⟩ ∧ PySem.W.codeIn K (.ref c) qual = true
theorem fn_runC {P : Program} {w : World} {K : PySem.W.Frag} {mg : Str → Option Value} {base : Heap} {T : Tb} {x qual : Str} {st : Stmt} {f c : Addr} {fd : FuncData} {N ps : List Str} {k : Nat} {b : SSt} (F : FunC K x qual st f fd c) (S : FnScope N ps (defScope st))
    (hbody : ∀ (A : Around) (outer : List Env) (s : Shared) (H : Hp) (E : XK), Room k (A.deeper (envOfC qual (defScope st) s.heap.objs.size f (.ref c))) →
      PSs (cxOf (L2.CX P w) P w K mg base N qual (defScope st) f (.ref c) A outer s H E) (defBody st) (rdS K mg T (fun c d _ H => E c d H) b)) :
    FnOk P w K mg base (L2.CX P w) (k + 1) f fd ps (spI K mg T ps.length (run N.length b)) := by
  obtain ⟨oc, od, kV, doc, pm, an, ct, osl, rfl, lk, hcd⟩ := F.ex
  refine fn_of lk hcd S (fun vs H Q E h => h.1) fun A outer s H vs Q E hr h => ⟨_, hbody A outer s H E hr, ?_⟩
  obtain ⟨hl, wd, m, ds, R, dl, t⟩ := h
  refine ⟨wd, _, m, R, slots_start dl N, ?_⟩
  unfold run at t
  revert t
  cases b (ds.map some ++ List.replicate (N.length - ds.length) none) m with
  | nx s' m' => exact fun t w' H' σ' tr R' S' => t w' H' tr R' _ .non
  | ret d m' => exact fun t w' H' v tr R' hv => t w' H' tr R' v hv
  | bk _ _ => exact fun t => t.elim
  | ct _ _ => exact fun t => t.elim
  | exc x s' m' => exact fun t w' H' σ' cls dd tr R' S' hx => t w' H' cls dd tr R' hx
  | stuck => exact fun t => t.elim
end Rx
set_option Elab.async false
set_option linter.all false
set_option maxRecDepth 100000
set_option maxHeartbeats 1000000
namespace Rx
open PySem PySem.Spec PyProof.Rows L2
/-! ### the end: facts by the kernel -/
def ckGlo (K : PySem.W.Frag) (x : Str) : Bool := decide (PySem.W.nsIn K mainGlobals x = some (some (.ref (gA K x))))
def ckFree (K : PySem.W.Frag) (x : Str) : Bool := decide (PySem.W.nsIn K mainGlobals x = some none)
def ckC0 (K : PySem.W.Frag) (x : Str) : Bool := ckGlo K x && (PySem.W.excIn K (gA K x) [.type "ValueError", .type "Exception", .type "BaseException", .type "object"] "ValueError.__new__" && (PySem.W.keepIn K (.ref (gA K x)) && (decide (PySem.W.subIn K (.ref (gA K x)) (.type "BaseException") = some true) && decide (PySem.W.typeIn K (.ref (gA K x)) = some (.type "type")))))
def ckBase (K : PySem.W.Frag) (x : Str) : Bool := ckGlo K x && (decide (PySem.W.specialIn K (.ref (gA K x)) "__getattribute__" = some (some (.builtin "type.__getattribute__"))) && (PySem.W.readsIn K (gA K x) (.type "type") && (match PySem.W.findCls K (.ref (gA K x)) (.type "type") "__init__" with | some (.val v) => decide (v = .builtin "ValueError.__init__") | _ => false)))
def ckErr1 (K : PySem.W.Frag) (S : Addr) (cs fl : List Str) (y : Str) (C : Addr) : Bool :=
  xfB K C && (decide (PySem.W.findIn K (.ref C) "__class__" = some (some (.builtin "object.__class__"))) && (decide (PySem.W.specialIn K (.builtin "object.__class__") "__get__" = some (some (.builtin "getset_descriptor.__get__"))) && (decide (PySem.W.takesIn K (.builtin "object.__class__") = some true) && (decide (PySem.W.mroIn K C (.type "object") = some true) &&
    ((fl.all fun f => decide (PySem.W.findIn K (.ref C) f = some none)) && (decide (PySem.W.exmOne K (.ref C) (.ref S) = some true) && ((cs.all fun z => decide (PySem.W.kitOne K (.ref C) (.ref (gA K z)) = some (decide (y = z)))) && decide (PySem.W.kitOne K (.ref C) (.type "ValueError") = some true))))))))
def ckErrs (K : PySem.W.Frag) (sky : Str) (cs fl : List Str) : Bool := ckGlo K sky && ((cs.all fun y => ckGlo K y) && cs.all fun y => ckErr1 K (gA K sky) cs fl y (gA K y))
/-- a constant -/
def ckD (K : PySem.W.Frag) (u : Value) : D → Bool
  | .int i => (match u with | .int j _ => decide (j = i) | _ => false)
  | .str x => (match u with | .str y _ => decide (y = x) | _ => false)
  | .bl b => (match u with | .bool c => decide (c = b) | _ => false)
  | .non => (match u with | .none => true | _ => false)
  | .ktup ds => (match u with
    | .ref a => (match K.lookup a with
      | some ⟨.type "tuple", _, .seq its _, _⟩ => decide (its.size ≤ sizeLine) && all its.toList ds
      | _ => false)
    | _ => false)
  | _ => false
where all : List Value → List D → Bool
  | [], [] => true
  | u :: us, d :: ds => ckD K u d && all us ds
  | _, _ => false
def ckK (K : PySem.W.Frag) (x : Str) (d : D) : Bool := match PySem.W.nsIn K mainGlobals x with
  | some (some u) => ckD K u d
  | _ => false
theorem ba {a b : Bool} (h : (a && b) = true) : a = true ∧ b = true := Bool.and_eq_true_iff.mp h
mutual
theorem ckD_ok {K : PySem.W.Frag} : ∀ (d : D) (u : Value), ckD K u d = true → ∃ v, RelV v u ∧ ∀ w, Dat K w v d
  | .int i, u, h => by
    unfold ckD at h
    split at h
    · rename_i j t
      have e := of_decide_eq_true h
      subst e
      exact ⟨.int j, ⟨_, rfl⟩, fun _ => .int _⟩
    · cases h
  | .str i, u, h => by
    unfold ckD at h
    split at h
    · rename_i j t
      have e := of_decide_eq_true h
      subst e
      exact ⟨.str j, ⟨_, rfl⟩, fun _ => .str _⟩
    · cases h
  | .bl i, u, h => by
    unfold ckD at h
    split at h
    · rename_i j
      have e := of_decide_eq_true h
      subst e
      exact ⟨.bl j, rfl, fun _ => .bl _⟩
    · cases h
  | .non, u, h => by
    unfold ckD at h
    split at h
    · exact ⟨.non, rfl, fun _ => .non⟩
    · cases h
  | .ktup ds, u, h => by
    unfold ckD at h
    split at h
    · rename_i a
      split at h
      · rename_i od its n sl e
        obtain ⟨h1, h2⟩ := ba h
        obtain ⟨vs, r, q⟩ := ckDs_ok ds its.toList h2
        exact ⟨.ref a, rfl, fun w => .ktup (.inr ⟨_, its, n, e, rfl, rfl, of_decide_eq_true h1, r⟩) (q w)⟩
      · cases h
    · cases h
  | .tup ds, u, h => by unfold ckD at h; cases h
  | .lst ds, u, h => by unfold ckD at h; cases h
  | .scr ds, u, h => by unfold ckD at h; cases h
  | .ref ds, u, h => by unfold ckD at h; cases h
theorem ckDs_ok {K : PySem.W.Frag} : ∀ (ds : List D) (us : List Value), ckD.all K us ds = true → ∃ vs, Vals vs us ∧ ∀ w, DatL K w vs ds
  | [], [], _ => ⟨[], .nil, fun _ => .nil⟩
  | d :: ds, u :: us, h => by
    unfold ckD.all at h
    obtain ⟨h1, h2⟩ := ba h
    obtain ⟨v, r, q⟩ := ckD_ok d u h1
    obtain ⟨vs, r2, q2⟩ := ckDs_ok ds us h2
    exact ⟨v :: vs, .cons r r2, fun w => .cons (q w) (q2 w)⟩
  | [], _ :: _, h => by unfold ckD.all at h; cases h
  | _ :: _, [], h => by unfold ckD.all at h; cases h
end
section
variable {K : PySem.W.Frag} {h : Heap} {mg : Str → Option Value}
theorem glo_of (X : K.In h) (G : h.Ns mainGlobals mg) {x : Str} (c : ckGlo K x = true) : mg x = some (.ref (gA K x)) := PySem.W.mg_of X G (of_decide_eq_true c)
theorem free_of (X : K.In h) (G : h.Ns mainGlobals mg) {x : Str} (c : ckFree K x = true) : mg x = none := PySem.W.mg_none_of X G (of_decide_eq_true c)
theorem cls0_of (X : K.In h) (G : h.Ns mainGlobals mg) {x : Str} (c : ckC0 K x = true) : Cls0 K mg x := by
  obtain ⟨c1, c⟩ := ba c
  obtain ⟨c2, c⟩ := ba c
  obtain ⟨c3, c⟩ := ba c
  obtain ⟨c4, c5⟩ := ba c
  exact ⟨_, glo_of X G c1, c2, c3, of_decide_eq_true c4, of_decide_eq_true c5⟩
theorem base_of (X : K.In h) (G : h.Ns mainGlobals mg) {x : Str} (c : ckBase K x = true) : BaseInit K mg x := by
  obtain ⟨c1, c⟩ := ba c
  obtain ⟨c2, c⟩ := ba c
  obtain ⟨c3, c4⟩ := ba c
  refine ⟨_, glo_of X G c1, of_decide_eq_true c2, c3, ?_⟩
  split at c4
  · rename_i v e
    rw [e, of_decide_eq_true c4]
  · cases c4
theorem errs_of (X : K.In h) (G : h.Ns mainGlobals mg) {sky : Str} {cs fl : List Str} (c : ckErrs K sky cs fl = true) : Errs K mg sky cs fl := by
  obtain ⟨c1, c⟩ := ba c
  obtain ⟨c2, c3⟩ := ba c
  refine ⟨_, glo_of X G c1, fun y hy => ⟨gA K y, ?_⟩⟩
  have e := List.all_eq_true.mp c3 y hy
  obtain ⟨e1, e⟩ := ba e
  obtain ⟨e2, e⟩ := ba e
  obtain ⟨e3, e⟩ := ba e
  obtain ⟨e4, e⟩ := ba e
  obtain ⟨e5, e⟩ := ba e
  obtain ⟨e6, e⟩ := ba e
  obtain ⟨e7, e⟩ := ba e
  obtain ⟨e8, e9⟩ := ba e
  have xf := xfB_ok e1
  exact ⟨glo_of X G (List.all_eq_true.mp c2 y hy), ⟨xf.ga, xf.gg, xf.exC, xf.hdC, of_decide_eq_true e2, of_decide_eq_true e3, of_decide_eq_true e4, of_decide_eq_true e5⟩, xf, fun f hf => of_decide_eq_true (List.all_eq_true.mp e6 f hf), of_decide_eq_true e7,
    fun z hz Cz ez => by
      have := (glo_of X G (List.all_eq_true.mp c2 z hz)).symm.trans ez
      cases this
      exact of_decide_eq_true (List.all_eq_true.mp e8 z hz), of_decide_eq_true e9⟩
theorem kat_of (X : K.In h) (G : h.Ns mainGlobals mg) {x : Str} {d : D} (c : ckK K x d = true) : KAt K mg x d := by
  unfold ckK at c
  split at c
  · rename_i u e
    obtain ⟨v, r, q⟩ := ckD_ok d u c
    exact ⟨u, v, PySem.W.mg_of X G e, r, q⟩
  · cases c
theorem defAt_mk {x : Str} {st : Stmt} {ps : List Str} {f : Addr} {oc : Value} {od an : Option Addr} {osl : Array (Option Value)} {kV doc pm cdv ct : Value} (X : K.In h) (G : h.Ns mainGlobals mg) (a : PySem.W.nsIn K mainGlobals x = some (some (.ref f)))
    (l : K.lookup f = some ⟨oc, od, .func (PySem.W.fnOf x x (defArgs st) (defBody st) (defScope st) .none kV doc pm an cdv ct), osl⟩) (c : PySem.W.codeIn K cdv x = true) (k : PySem.W.keepIn K (.ref f) = true)
    (b : ∀ (kV doc pm : Value) (an : Option Addr) (cdv ct : Value) (us : List Value), us.length = ps.length → bindArgs (PySem.W.fnOf x x (defArgs st) (defBody st) (defScope st) .none kV doc pm an cdv ct) ⟨us, []⟩ = pure (ps.zip us)) : DefAt K mg x st ps :=
  ⟨f, _, fun_mk l c k, PySem.W.mg_of X G a, (fun_mk l c k).binds b⟩
theorem cls1_mk {x q f : Str} {st : Stmt} {ps : List Str} {C fI : Addr} {oc : Value} {od an : Option Addr} {osl : Array (Option Value)} {kV doc pm cdv ct : Value}
    {nm qn : Str} {N : Addr} {bs bm : List Value} {sn : List Str} {sub : List Value} {ab : Bool} {col : Option Bool} {dd : Option Addr} {m0 m1 m2 m3 m5 : Option Value} (X : K.In h) (G : h.Ns mainGlobals mg) (a : PySem.W.nsIn K mainGlobals x = some (some (.ref C)))
    (xL : K.lookup C = some (excClassObj nm qn C N bs bm true sn sub ab col dd m0 m1 m2 m3 m5 "ValueError.__new__")) (rv : PySem.HandSPX.refsVE bm = true)
    (sa : PySem.W.findIn K (.ref C) "__setattr__" = some (some (.builtin "object.__setattr__"))) (eC : PySem.W.subIn K (.ref C) (.type "BaseException") = some true) (tC : PySem.W.typeIn K (.ref C) = some (.type "type")) (kC : PySem.W.keepIn K (.ref C) = true)
    (nf : PySem.W.findIn K (.ref C) f = some none) (i : PySem.W.findIn K (.ref C) "__init__" = some (some (.ref fI))) (tI : PySem.W.typeIn K (.ref fI) = some (.type "function"))
    (l : K.lookup fI = some ⟨oc, od, .func (PySem.W.fnOf "__init__" q (defArgs st) (defBody st) (defScope st) .none kV doc pm an cdv ct), osl⟩) (c : PySem.W.codeIn K cdv q = true) (k : PySem.W.keepIn K (.ref fI) = true)
    (b : ∀ (kV doc pm : Value) (an : Option Addr) (cdv ct : Value) (us : List Value), us.length = ps.length → bindArgs (PySem.W.fnOf "__init__" q (defArgs st) (defBody st) (defScope st) .none kV doc pm an cdv ct) ⟨us, []⟩ = pure (ps.zip us)) : Cls1 K mg x q st ps f :=
  ⟨C, fI, _, PySem.W.mg_of X G a, ⟨⟨nm, qn, N, bs, bm, sn, sub, ab, col, dd, m0, m1, m2, m3, m5, xL, rv⟩, sa, eC, tC, kC⟩, nf, i, tI, fun_mk l c k, (fun_mk l c k).binds b⟩
end
abbrev DefAtX {K : PySem.W.Frag} {h : Heap} (_ : K.In h) (mg : Str → Option Value) (x : Str) (st : Stmt) (ps : List Str) : Prop := DefAt K mg x st ps
abbrev Cls1X {K : PySem.W.Frag} {h : Heap} (_ : K.In h) (mg : Str → Option Value) (x q : Str) (st : Stmt) (ps : List Str) (f : Str) : Prop := Cls1 K mg x q st ps f
/-! ### the law -/
def w00 : Wd := ⟨fun _ => none, []⟩
theorem datL_ints {K : PySem.W.Frag} {w : Wd} : ∀ ns : List Int, DatL K w (ns.map V.int) (ns.map D.int)
  | [] => .nil
  | n :: ns => .cons (.int n) (datL_ints ns)
theorem rel_start {K : PySem.W.Frag} {ts : List (Addr × Str)} {H : Hp} {a : Addr} {ns : List Int} (ht : ∀ p ∈ ts, H p.1 = some (.tbl #[])) (hS : SqL K H a (ns.map V.int)) : ∃ w, Rel K ⟨ts, w00⟩ w [] H ∧ Dat K w (.ref a) (.scr (ns.map D.int)) := by
  refine ⟨⟨fun b => match H b with | some (.tbl _) => none | o => o, []⟩, ⟨fun b o e => ?_, rfl, fun k o a e => by simp at e, fun j k o u a e => by simp at e, fun p hp => LamX.TabS.nil (ht p hp), fun b ps e => ?_, ⟨fun b o e => (by cases e), [], rfl⟩⟩, .scr ?_ (datL_ints ns)⟩
  · have e' : (match H b with | some (.tbl _) => none | o => o) = some o := e
    split at e'
    · cases e'
    · exact e'
  · have e' : (match H b with | some (.tbl _) => none | o => o) = some (.tbl ps) := e
    split at e'
    · cases e'
    · rename_i h
      exact h ps e'
  · rcases hS with (hS | ⟨o, hS⟩) | hS
    · exact .inl (.inl (by show (match H a with | some (.tbl _) => none | o => o) = _; rw [hS]))
    · exact .inl (.inr ⟨o, by show (match H a with | some (.tbl _) => none | o => o) = _; rw [hS]⟩)
    · exact .inr hS
/-- the law is true on every script: its row -/
theorem law_at {l : PySem.W.OpenLaw} {w : World} {K : PySem.W.Frag} {lv n : Nat} {x : Str} {mg : Str → Option Value} {fa c Pt : Addr} {q : Str} {h : Heap} {fd : FuncData} {f : List D → Mu → Res D} (hT : h.get? Pt = some { cls := .none, data := .fields #[] }) (nT : K.lookup Pt = none) (ch : PySem.W.CodeHd h c Pt)
    (hb : ∀ (s : Shared) (u : Value), BindsTo s fd ⟨[u], []⟩ [(x, u)]) (hF : ∀ base : Heap, K.In base → base.Ns mainGlobals mg → LamX.TabB base mg c Pt → FnOk l.prog w K mg base (L2.CX l.prog w) lv fa fd [x] (spI K mg ⟨[(Pt, q)], w00⟩ 1 f))
    (hf : ∀ ns : List Int, ns.length ≤ n → (∀ z ∈ ns, Builtin.Int.intBits z ≤ 1048576) → ∃ m, f [.scr (ns.map D.int)] [] = .ok (.bl true) m) : LamX.LawAtS l w K (L2.CX l.prog w) lv n x mg fa h := by
  refine ⟨fd, [(c, Pt)], spI K mg ⟨[(Pt, q)], w00⟩ 1 f, fun p hp => ?_, fun p hp => ?_, fun p hp => ?_, hb, fun H a ns hl hbits hH hS => ?_, fun base h1 h2 h3 => hF base h1 h2 (h3 (c, Pt) (List.mem_singleton.mpr rfl))⟩
  · rw [List.mem_singleton.mp hp]; exact hT
  · rw [List.mem_singleton.mp hp]; exact nT
  · rw [List.mem_singleton.mp hp]; exact ch
  · obtain ⟨m, e⟩ := hf ns hl hbits
    obtain ⟨w0, R, d⟩ := rel_start (K := K) (ts := [(Pt, q)]) (fun p hp => by rw [List.mem_singleton.mp hp]; exact hH (c, Pt) (List.mem_singleton.mpr rfl)) hS
    refine ⟨rfl, w0, [], [.scr (ns.map D.int)], R, .cons d .nil, ?_⟩
    rw [e]
    intro w' H' _ _ v hv
    cases hv
    rfl
theorem code_of {K : PySem.W.Frag} {cdv : Value} {q : Str} (e : PySem.W.codeIn K cdv q = true) : ∃ c, cdv = .ref c := by
  unfold PySem.W.codeIn at e
  split at e
  · exact ⟨_, rfl⟩
  · cases e
theorem hCX_ {P : Program} : ∀ (w : World) (H : L2.Hp) (s : Shared) (e : Value) (s' : Shared), L2.CX P w [] H s (fun _ _ _ => False) e s' → False := by
  intro w H s e s' h
  obtain ⟨_, _, _, _, _, _, _, _, _, _, _, _, h⟩ := h
  exact h
end Rx
set_option Elab.async false
set_option linter.all false
set_option maxRecDepth 100000
set_option maxHeartbeats 1000000
namespace Rx
open PySem PySem.Spec PyProof.Rows L2
section
variable {X : Cx} {T : Tb} {W : WX} {pos : Pos}
/-! ### o[i] op= e -/
theorem pget_seq : PGet X (rIx X.K) := by
  intro pins s σ H x y v u Q I rx ry h
  rcases h with h | h | h
  · obtain ⟨p, xs, i, z, rfl, rfl, hq, he, q⟩ := h
    cases rx
    obtain ⟨t, rfl⟩ := ry
    obtain ⟨its, r, pl, hz⟩ := I.list hq
    obtain ⟨j, h1, h2, h3, h4, h5⟩ := atI_get he
    obtain ⟨w, ew, rw'⟩ := r.get h2
    have hl := r.length
    have hn := line63
    have fin : EP X pins σ Q w s := ⟨z, H, I, rw', q⟩
    by_cases h0 : 0 ≤ i
    · have hj : i.toNat = j := by
        rw [seqIndex_of h0 h5] at h1
        exact Option.some.inj h1
      exact wpAny_getItem_list pl.isList h0 (by omega) (by rw [hj]; simpa using ew) fin
    · have hj : (i + (its.toArray.size : Int)).toNat = j := by
        rw [seqIndex_neg (by omega) h4] at h1
        rw [List.size_toArray, ← hl]
        exact Option.some.inj h1
      exact wpAny_getItem_list_neg pl.isList (by omega) (by rw [List.size_toArray] <;> omega) (by omega) (by rw [hj]; simpa using ew) fin
  · obtain ⟨p, xs, i, z, rfl, rfl, hq, he, q⟩ := h
    cases rx
    obtain ⟨t, rfl⟩ := ry
    obtain ⟨its, r, pl, hz⟩ := I.tuple hq
    obtain ⟨j, h1, h2, h3, h4, h5⟩ := atI_get he
    obtain ⟨w, ew, rw'⟩ := r.get h2
    have hl := r.length
    have hn := line63
    have fin : EP X pins σ Q w s := ⟨z, H, I, rw', q⟩
    exact getItem_tuple (j := j) pl (by omega) (by omega) (by rw [List.size_toArray, ← hl]; exact h1) (by simpa using ew) fin
  · obtain ⟨z, i, c, rfl, rfl, hz, he, q⟩ := h
    obtain ⟨t, rfl⟩ := rx
    obtain ⟨t', rfl⟩ := ry
    obtain ⟨j, h1, h2, h3, h4, h5⟩ := atI_get he
    have hl : z.cps.toList.length = z.length := by simp [Str.length]
    rw [hl] at h1 h4 h5
    have hn := line63
    exact getItem_str (c := c) (by
      have e1 : decide (i < -(2 ^ 63 : Int)) = false := decide_eq_false (by omega)
      have e2 : decide (i ≥ 2 ^ 63) = false := decide_eq_false (by omega)
      rw [e1, e2, Bool.or_false]) (by rw [h1]; simpa using h2) ⟨.str ⟨#[c]⟩, H, I.tok _, ⟨_, rfl⟩, q⟩
def dAddI (x y : D) (m : Mu) : Res D := match x, y with
  | .int i, .int j => .ok (.int (i + j)) m
  | _, _ => .stuck
theorem ru_addI : Ru2 X T W (ipI fun i j => i + j) dAddI := fun w m H σ x y u v Q R hu hv t => by
  unfold dAddI at t
  split at t
  · cases hu; cases hv
    exact ⟨_, _, rfl, rfl, t.now R _ (.int _)⟩
  · exact t.elim
theorem ru_subI : Ru2 X T W (ipI fun i j => i - j) dSub := fun w m H σ x y u v Q R hu hv t => by
  unfold dSub at t
  split at t
  · cases hu; cases hv
    exact ⟨_, _, rfl, rfl, t.now R _ (.int _)⟩
  · exact t.elim
/-! ### list(range(e)) -/
def sLRg (n : Bool) (f : SEx) : SEx := fun s m => (f s m).bind fun d m => match d with
  | .int j => if 0 ≤ j ∧ j ≤ 1000000 then (if n = true then .ok (.ref m.length) (m ++ [.lst (rangeD 0 j.toNat)]) else .ok (.lst (rangeD 0 j.toNat)) m) else .stuck
  | _ => .stuck
theorem datL_rg {K : PySem.W.Frag} {w : Wd} (j : Int) : DatL K w (rgV 0 j) (rangeD 0 j.toNat) := by
  have key : ∀ l : List Nat, DatL K w (l.map fun i => V.int (0 + (i : Nat))) (l.map fun (i : Nat) => D.int (0 + i)) := by
    intro l
    induction l with
    | nil => exact .nil
    | cons a l ih => exact .cons (.int _) ih
  unfold rgV rangeD
  rw [Int.sub_zero]
  exact key _
theorem re_lrg {b : Bool} {a : Expr} {f : SEx} {p pos : Pos} {p2 pos2 : Pos} (hc : X.calm = true) (hgl : Gl X "list") (hml : X.mg "list" = none) (hgr : Gl X "range") (hmr : X.mg "range" = none) (ha : PE X a (rdE X.K X.mg T W f))
    (na : starEach [a] X.env = (false, eval a X.env) :: starEach [] X.env := by rfl) (nb : starEach [.Call (.Name "range" p2) [a] [] pos2] X.env = (false, eval (.Call (.Name "range" p2) [a] [] pos2) X.env) :: starEach [] X.env := by rfl) :
    PE X (.Call (.Name "list" p) [.Call (.Name "range" p2) [a] [] pos2] [] pos) (rdE X.K X.mg T W (sLRg b f)) := (pe_listRg hc hgl hml (prg_1 hgr hmr ha na) nb).imp fun σ H Q ⟨w, s, m, R, S, t⟩ => ⟨w, s, m, R, S, (Then.bind t).mono fun d m1 w1 H1 t1 R1 t v hv => by
  split at t
  · rename_i j
    cases hv
    split at t
    · rename_i hj
      refine ⟨j, rfl, RgOk.of_le (by omega) (by omega) (by omega) hj.1, fun q hq => ?_⟩
      split at t
      · obtain ⟨R2, t2⟩ := R1.fresh (u := .lst (rangeD 0 j.toNat)) (o := .lst (rgV 0 j)) hq rfl fun w' g => ⟨_, upd_same, datL_rg j⟩
        exact t _ _ t2 R2 _ (.ref (by show (w1.r ++ [q])[m1.length]? = some q; rw [← R1.len]; simp))
      · exact fin_frozen R1 t hq fun w' g e => .lst e (datL_rg j)
    · exact t.elim
  · exact t.elim⟩
/-! ### max, min of a list of ints -/
def maxL : Int → List Int → Int
  | a, [] => a
  | a, x :: l => maxL (if x > a then x else a) l
def minL : Int → List Int → Int
  | a, [] => a
  | a, x :: l => minL (if x < a then x else a) l
theorem maxL_ok : ∀ (l : List Int) (a : Int), maxL a l ∈ a :: l ∧ ∀ y ∈ a :: l, y ≤ maxL a l
  | [], a => ⟨by simp [maxL], by simp [maxL]⟩
  | x :: l, a => by
    obtain ⟨h1, h2⟩ := maxL_ok l (if x > a then x else a)
    unfold maxL
    have h3 := h2 _ (List.mem_cons_self)
    refine ⟨?_, fun y hy => ?_⟩
    · rcases List.mem_cons.mp h1 with e | e
      · rw [e]; split <;> simp
      · exact List.mem_cons_of_mem _ (List.mem_cons_of_mem _ e)
    · rcases List.mem_cons.mp hy with rfl | hy
      · split at h3 <;> rename_i c
        · rw [if_pos c]; omega
        · rw [if_neg c]; exact h3
      · rcases List.mem_cons.mp hy with rfl | hy
        · split at h3 <;> rename_i c
          · rw [if_pos c]; exact h3
          · rw [if_neg c]; omega
        · exact h2 y (List.mem_cons_of_mem _ hy)
theorem minL_ok : ∀ (l : List Int) (a : Int), minL a l ∈ a :: l ∧ ∀ y ∈ a :: l, minL a l ≤ y
  | [], a => ⟨by simp [minL], by simp [minL]⟩
  | x :: l, a => by
    obtain ⟨h1, h2⟩ := minL_ok l (if x < a then x else a)
    unfold minL
    have h3 := h2 _ (List.mem_cons_self)
    refine ⟨?_, fun y hy => ?_⟩
    · rcases List.mem_cons.mp h1 with e | e
      · rw [e]; split <;> simp
      · exact List.mem_cons_of_mem _ (List.mem_cons_of_mem _ e)
    · rcases List.mem_cons.mp hy with rfl | hy
      · split at h3 <;> rename_i c
        · rw [if_pos c]; omega
        · rw [if_neg c]; exact h3
      · rcases List.mem_cons.mp hy with rfl | hy
        · split at h3 <;> rename_i c
          · rw [if_pos c]; exact h3
          · rw [if_neg c]; omega
        · exact h2 y (List.mem_cons_of_mem _ hy)
def dMax1 (xs : List D) (m : Mu) : Res D := match xs with
  | [x] => (match seqOf m x with
    | some (false, ds) => (match intsOf ds with
      | some (a :: l) => .ok (.int (maxL a l)) m
      | _ => .stuck)
    | _ => .stuck)
  | _ => .stuck
def dMin1 (xs : List D) (m : Mu) : Res D := match xs with
  | [x] => (match seqOf m x with
    | some (false, ds) => (match intsOf ds with
      | some (a :: l) => .ok (.int (minL a l)) m
      | _ => .stuck)
    | _ => .stuck)
  | _ => .stuck
theorem ru_max1 : RuB X T W (rMax X.K) dMax1 := fun w m H σ xs us Q R hu t => by
  unfold dMax1 at t
  split at t
  · split at t
    · rename_i ds e
      split at t
      · rename_i a l e1
        cases hu with
        | cons h1 hu =>
          cases hu
          obtain ⟨p, vs, rfl, r, hq⟩ := seq_at R h1 e
          obtain ⟨e2, _⟩ := ints_at r e1
          rcases hq with ⟨_, hq⟩ | ⟨z, _⟩
          · refine ⟨p, a :: l, rfl, by rw [← e2]; exact hq, by simp, fun k hk hb => ?_⟩
            obtain ⟨g1, g2⟩ := maxL_ok l a
            have := hb _ g1
            have := g2 _ hk
            have ek : k = maxL a l := by omega
            rw [ek]
            exact t.now R _ (.int _)
          · cases z
      · exact t.elim
    · exact t.elim
  · exact t.elim
theorem ru_min1 : RuB X T W (rMin X.K) dMin1 := fun w m H σ xs us Q R hu t => by
  unfold dMin1 at t
  split at t
  · split at t
    · rename_i ds e
      split at t
      · rename_i a l e1
        cases hu with
        | cons h1 hu =>
          cases hu
          obtain ⟨p, vs, rfl, r, hq⟩ := seq_at R h1 e
          obtain ⟨e2, _⟩ := ints_at r e1
          rcases hq with ⟨_, hq⟩ | ⟨z, _⟩
          · refine ⟨p, a :: l, rfl, by rw [← e2]; exact hq, by simp, fun k hk hb => ?_⟩
            obtain ⟨g1, g2⟩ := minL_ok l a
            have := hb _ g1
            have := g2 _ hk
            have ek : k = minL a l := by omega
            rw [ek]
            exact t.now R _ (.int _)
          · cases z
      · exact t.elim
    · exact t.elim
  · exact t.elim
/-! ### l.remove(k), a list of ints that changes -/
def dRem (x y : D) (m : Mu) : Res D := match hOf m x, y with
  | some (k, ds), .int i => (match intsOf ds with
    | some l => (match l.findIdx? (fun z => decide (z = i)) with
      | some j => .ok .non (m.set k (.lst (ds.eraseIdx j)))
      | none => .stuck)
    | none => .stuck)
  | _, _ => .stuck
theorem ru_rem : Ru2 X T W (fun x y H Q => rRemI x [y] H Q) dRem := fun w m H σ x y u v Q R hu hv t => by
  unfold dRem at t
  split at t
  · rename_i k ds i e
    cases hv
    split at t
    · rename_i l el
      split at t
      · rename_i j ej
        obtain ⟨a, vs, rfl, rfl, f1, f2, r, hH⟩ := h_at R hu e
        obtain ⟨ev, _⟩ := ints_at r el
        subst ev
        obtain ⟨hj, e1, e2⟩ := List.findIdx?_eq_some_iff_getElem.mp ej
        obtain ⟨R3, t3⟩ := write_at R f1 f2 (r.erase j)
        rw [show (l.map V.int).eraseIdx j = (l.eraseIdx j).map V.int from erase_mapI l j] at R3 t3
        refine ⟨a, l, i, j, rfl, rfl, hH, ?_, fun q hq z => ?_, t _ _ t3 R3 _ .non⟩
        · rw [List.getElem?_eq_getElem hj, of_decide_eq_true e1]
        · obtain ⟨hq2, ez⟩ := List.getElem?_eq_some_iff.mp z
          have := e2 q hq
          simp [ez] at this
      · exact t.elim
    · exact t.elim
  · exact t.elim
end
end Rx
set_option Elab.async false
set_option linter.all false
set_option maxRecDepth 100000
set_option maxHeartbeats 1000000
namespace Rx
open PySem PySem.Spec PyProof.Rows L2
/-! ### pairs of ints -/
def prD_ (p : Int × Int) : D := .tup [.int p.1, .int p.2]
def prOf : D → Option (Int × Int)
  | .tup [.int a, .int b] => some (a, b)
  | _ => none
def prsOf : List D → Option (List (Int × Int))
  | [] => some []
  | d :: ds => (prOf d).bind fun p => (prsOf ds).map fun l => p :: l
theorem prOf_ok {d : D} {p : Int × Int} (e : prOf d = some p) : d = prD_ p := by
  unfold prOf at e
  split at e
  · cases e; rfl
  · cases e
theorem prsOf_ok : ∀ {ds : List D} {l : List (Int × Int)}, prsOf ds = some l → ds = l.map prD_
  | [], l, e => by cases e; rfl
  | d :: ds, l, e => by
    unfold prsOf at e
    obtain ⟨p, e1, e2⟩ := Option.bind_eq_some_iff.mp e
    obtain ⟨l', e3, e4⟩ := Option.map_eq_some_iff.mp e2
    subst e4
    rw [List.map_cons, ← prOf_ok e1, ← prsOf_ok e3]
/-- a before b -/
def lexLe (p q : Int × Int) : Bool := decide (p.1 < q.1) || (decide (p.1 = q.1) && decide (p.2 ≤ q.2))
theorem lexLe_iff {p q : Int × Int} : lexLe p q = true ↔ p.1 < q.1 ∨ (p.1 = q.1 ∧ p.2 ≤ q.2) := by unfold lexLe; simp
theorem lexLe_tr : ∀ a b c : Int × Int, lexLe a b = true → lexLe b c = true → lexLe a c = true := fun a b c h1 h2 => by
  rw [lexLe_iff] at *
  omega
theorem lexLe_tot : ∀ a b : Int × Int, (lexLe a b || lexLe b a) = true := fun a b => by
  rw [Bool.or_eq_true, lexLe_iff, lexLe_iff]
  omega
theorem lexLe_anti {a b : Int × Int} (h1 : lexLe a b = true) (h2 : lexLe b a = true) : a = b := by
  rw [lexLe_iff] at *
  exact Prod.ext (by omega) (by omega)
/-- the first of the least -/
def minP : Int × Int → List (Int × Int) → Int × Int
  | a, [] => a
  | a, x :: l => minP (if lexLe a x = true then a else x) l
def srtP (l : List (Int × Int)) : List (Int × Int) := l.mergeSort lexLe
def dMinP (xs : List D) (m : Mu) : Res D := match xs with
  | [x] => (match seqOf m x with
    | some (false, ds) => (match prsOf ds with
      | some (a :: l) => .ok (prD_ (minP a l)) m
      | _ => .stuck)
    | _ => .stuck)
  | _ => .stuck
def dSortP (xs : List D) (m : Mu) : Res D := match xs with
  | [x] => (match seqOf m x with
    | some (false, ds) => (match prsOf ds with
      | some l => .ok (.lst ((srtP l).map prD_)) m
      | _ => .stuck)
    | _ => .stuck)
  | _ => .stuck
def kOf (H : Hp) : V → Int × Int
  | .ref t => (match H t with
    | some (.tup [.int a, .int b]) => (a, b)
    | _ => (0, 0))
  | _ => (0, 0)
theorem dat_pr {K : PySem.W.Frag} {w : Wd} {H : Hp} (s : Same w.g H) {v : V} {p : Int × Int} (h : Dat K w v (prD_ p)) : ∃ t, v = .ref t ∧ H t = some (.tup [.int p.1, .int p.2]) ∧ kOf H v = p := by
  unfold prD_ at h
  cases h with
  | @tup a vs ds h r =>
    cases r with
    | cons h1 r =>
      cases r with
      | cons h2 r =>
        cases r; cases h1; cases h2
        have e := s _ _ h
        exact ⟨a, rfl, e, by
          show (match H a with | some (.tup [.int a, .int b]) => (a, b) | _ => (0, 0)) = p
          rw [e]⟩
theorem datL_prs {K : PySem.W.Frag} {w : Wd} {H : Hp} (s : Same w.g H) : ∀ {vs : List V} {l : List (Int × Int)}, DatL K w vs (l.map prD_) → vs.map (kOf H) = l ∧ ∀ v ∈ vs, (∃ t, v = .ref t ∧ H t = some (.tup [.int (kOf H v).1, .int (kOf H v).2])) ∧ Dat K w v (prD_ (kOf H v))
  | [], [], _ => ⟨rfl, fun v h => by cases h⟩
  | v :: vs, p :: l, h => by
    cases h with
    | cons h1 h2 =>
      obtain ⟨a, b⟩ := datL_prs s h2
      obtain ⟨t, e1, e2, e3⟩ := dat_pr s h1
      refine ⟨by rw [List.map_cons, a, e3], fun u hu => ?_⟩
      rcases List.mem_cons.mp hu with rfl | hu
      · rw [e3]
        exact ⟨⟨t, e1, e2⟩, h1⟩
      · exact b u hu
  | [], _ :: _, h => by cases h
  | _ :: _, [], h => by cases h
theorem datL_of {K : PySem.W.Frag} {w : Wd} {f : V → D} : ∀ {vs : List V}, (∀ v ∈ vs, Dat K w v (f v)) → DatL K w vs (vs.map f)
  | [], _ => .nil
  | v :: vs, h => .cons (h v List.mem_cons_self) (datL_of fun u hu => h u (List.mem_cons_of_mem _ hu))
section
variable {X : Cx} {T : Tb} {W : WX} {pos : Pos}
theorem ru_sortP : RuB X T W (rSortedPO X.K) dSortP := fun w m H σ xs us Q R hu t => by
  unfold dSortP at t
  split at t
  · split at t
    · rename_i ds e
      split at t
      · rename_i l e1
        cases hu with
        | cons h1 hu =>
          cases hu
          obtain ⟨a, vs, rfl, r, hq⟩ := seq_at R h1 e
          have ed := prsOf_ok e1
          subst ed
          obtain ⟨ev, hv⟩ := datL_prs R.sub r
          rcases hq with ⟨_, hq⟩ | ⟨z, _⟩
          · refine ⟨a, vs, kOf H, rfl, hq, fun x hx => (hv x hx).1, fun ys p hs hb hp => ?_⟩
            refine fin_frozen R t hp fun w' g e3 => ?_
            have hmem : ∀ y ∈ ys, y ∈ vs := fun y hy => hb.perm.mem_iff.mp hy
            have hd : DatL X.K w ys (ys.map fun v => prD_ (kOf H v)) := datL_of fun y hy => (hv y (hmem y hy)).2
            have hp : (ys.map (kOf H)).Perm (srtP l) := by
              rw [← ev]
              exact (hb.perm.map (kOf H)).trans (List.mergeSort_perm _ _).symm
            have h2 : (ys.map (kOf H)).Pairwise fun a b => lexLe a b = true := by
              rw [List.pairwise_map]
              refine List.Pairwise.imp ?_ hs
              intro a b hab
              rw [lexLe_iff]
              have hab := SrtO.lexB_no.mp hab
              omega
            have e4 : ys.map (kOf H) = srtP l := List.Perm.eq_of_pairwise (fun a b _ _ h1 h2 => lexLe_anti h1 h2) h2 (List.pairwise_mergeSort lexLe_tr lexLe_tot l) hp
            refine .lst e3 ?_
            have e5 : (srtP l).map prD_ = ys.map fun v => prD_ (kOf H v) := by rw [← e4, List.map_map]; rfl
            rw [e5]
            exact hd.mono g
          · cases z
      · exact t.elim
    · exact t.elim
  · exact t.elim
end
end Rx
set_option Elab.async false
set_option linter.all false
set_option maxRecDepth 100000
set_option maxHeartbeats 1000000
namespace Rx
open PySem PySem.Spec PyProof.Rows L2
def prPy (p : Int × Int) : PyData := .tuple [.int p.1, .int p.2]
theorem lt_pr (p q : Int × Int) : PySem.W.dataLt (prPy q) (prPy p) = !lexLe p q := by
  rw [Bool.eq_iff_iff]
  simp [PySem.W.dataLt, prPy, PySem.W.keyToks, PySem.W.keyToksAll, PyProof.Rows.lexLt, PyProof.Rows.itemLt, lexLe]
  omega
theorem minD_pr : ∀ (l : List (Int × Int)) (p : Int × Int), PySem.W.minD (prPy p) (l.map prPy) = prPy (minP p l)
  | [], p => rfl
  | q :: l, p => by
    have ih := minD_pr l (if lexLe p q = true then p else q)
    unfold PySem.W.minD at ih ⊢
    rw [List.map_cons, List.foldl_cons, lt_pr]
    unfold minP
    rw [← ih]
    cases lexLe p q <;> rfl
theorem prPy_inj {p q : Int × Int} (h : prPy p = prPy q) : p = q := by
  unfold prPy at h
  injection h with h
  injection h with h1 h2
  injection h1 with h1
  injection h2 with h2
  injection h2 with h2
  exact Prod.ext h1 h2
theorem alike_pr (l : List (Int × Int)) : PySem.W.AlikeAll (l.map prPy) := by
  refine ⟨fun x hx y hy => ?_, fun x hx z => ?_⟩
  · obtain ⟨p, _, rfl⟩ := List.mem_map.mp hx
    obtain ⟨q, _, rfl⟩ := List.mem_map.mp hy
    simp [prPy, PySem.W.alike, PySem.W.alikeAll]
  · obtain ⟨p, _, rfl⟩ := List.mem_map.mp hx
    cases z
theorem depth_prs : ∀ l : List (Int × Int), PyData.depthAll (l.map prPy) ≤ 5
  | [] => by simp [PyData.depthAll]
  | p :: l => by
    have ih := depth_prs l
    simp [prPy, PyData.depthAll, PyData.depth] at ih ⊢
    omega
theorem lay_prs : ∀ l : List (Int × Int), PyData.canLayAll0 (l.map prPy) = true
  | [] => by simp [PyData.canLayAll0]
  | p :: l => by simp [prPy, PyData.canLayAll0, PyData.canLay0, lay_prs l]
theorem dp_prs {K : PySem.W.Frag} {H : Hp} : ∀ {vs : List V}, (∀ v ∈ vs, ∃ t, v = .ref t ∧ H t = some (.tup [.int (kOf H v).1, .int (kOf H v).2])) → DpAll K H vs ((vs.map (kOf H)).map prPy)
  | [], _ => .nil
  | v :: vs, h => by
    obtain ⟨t, rfl, e⟩ := h v List.mem_cons_self
    exact .cons (.tup (.of e) (.cons (.int _) (.cons (.int _) .nil))) (dp_prs fun u hu => h u (List.mem_cons_of_mem _ hu))
section
variable {X : Cx} {T : Tb} {W : WX} {pos : Pos}
def rMinPr (K : PySem.W.Frag) : List V → Hp → VK → Prop := fun xs H Q => ∃ (a : Addr) (vs : List V) (p : Int × Int) (l : List (Int × Int)), xs = [.ref a] ∧ SqL K H a vs ∧ vs.map (kOf H) = p :: l ∧ (∀ v ∈ vs, ∃ t, v = .ref t ∧ H t = some (.tup [.int (kOf H v).1, .int (kOf H v).2])) ∧ ∀ v ∈ vs, kOf H v = minP p l → Q v H
theorem call_minPr (hc : X.calm = true) (hu : X.A.units + 65 < cLine) : CallR X (.builtin "min") (rMinPr X.K) := by
  intro pins s σ H xs us Q I r h
  obtain ⟨a, vs, p, l, rfl, hs, ek, hv, q⟩ := h
  obtain ⟨its, rv, hl, _⟩ := I.list hs
  rw [Vals.ref1 r]
  obtain ⟨as, hr⟩ := Dp.readsAll I _ _ its (dp_prs hv) rv
  have hd := depth_prs (p :: l)
  have hly := lay_prs (p :: l)
  rw [ek] at hr
  refine PySem.W.min_list_data (x := prPy p) (xs := l.map prPy) (I.ok.hd hc) hl.isList hr (alike_pr (p :: l)) (by show X.A.units + 1 + PyData.depthAll ((p :: l).map prPy) < cLine; omega) fun i v h' tk bs hi hrd hk => ?_
  have hi' : its[i]? = some v := by simpa using hi
  obtain ⟨x, ex, rx⟩ : ∃ x, vs[i]? = some x ∧ RelV x v := by
    have hlen := rv.length
    obtain ⟨h1, h2⟩ := List.getElem?_eq_some_iff.mp hi'
    obtain ⟨u, e1, e2⟩ := rv.get (i := i) (x := vs[i]'(by omega)) (List.getElem?_eq_getElem (by omega))
    rw [hi'] at e1
    cases e1
    exact ⟨_, List.getElem?_eq_getElem (by omega), e2⟩
  have hxm := List.mem_of_getElem? ex
  refine ⟨x, H, I.kept hk, rx, q x hxm ?_⟩
  -- what the item reads as
  have hmap := SeqAt.readsAll_map _ its as hly hr
  have e1 : SeqAt.readOf s.heap v = prPy (kOf H x) := by
    have e2 : (its.map (SeqAt.readOf s.heap))[i]? = some (SeqAt.readOf s.heap v) := by rw [List.getElem?_map, hi']; rfl
    rw [hmap] at e2
    have e3 : ((p :: l).map prPy)[i]? = some (prPy (kOf H x)) := by rw [← ek, List.map_map, List.getElem?_map, ex]; rfl
    have e2 : ((p :: l).map prPy)[i]? = some (SeqAt.readOf s.heap v) := e2
    rw [e3] at e2
    exact (Option.some.inj e2).symm
  obtain ⟨t, rfl, ht⟩ := hv x hxm
  obtain ⟨cs, hrd0⟩ := Dp.reads I (prPy (kOf H (.ref t))) (.ref t) v (.tup (.of ht) (.cons (.int _) (.cons (.int _) .nil))) rx
  have hrd1 := PySem.W.reads_keeps hk hrd0
  have c1 : (prPy (kOf H (.ref t))).canLay0 = true := by simp [prPy, PyData.canLay0, PyData.canLayAll0]
  have c2 : (prPy (minP p l)).canLay0 = true := by simp [prPy, PyData.canLay0, PyData.canLayAll0]
  rw [minD_pr] at hrd
  exact prPy_inj ((SeqAt.readOf_eq c1 hrd1).symm.trans (SeqAt.readOf_eq c2 hrd))
theorem ru_minP : RuB X T W (rMinPr X.K) dMinP := fun w m H σ xs us Q R hu t => by
  unfold dMinP at t
  split at t
  · split at t
    · rename_i ds e
      split at t
      · rename_i p l e1
        cases hu with
        | cons h1 hu =>
          cases hu
          obtain ⟨a, vs, rfl, r, hq⟩ := seq_at R h1 e
          have ed := prsOf_ok e1
          subst ed
          obtain ⟨ev, hv⟩ := datL_prs R.sub r
          rcases hq with ⟨_, hq⟩ | ⟨z, _⟩
          · refine ⟨a, vs, p, l, rfl, hq, ev, fun v hvm => (hv v hvm).1, fun v hvm ek => ?_⟩
            have := (hv v hvm).2
            rw [ek] at this
            exact t.now R _ this
          · cases z
      · exact t.elim
    · exact t.elim
  · exact t.elim
end
end Rx
set_option Elab.async false
set_option linter.all false
set_option maxRecDepth 100000
set_option maxHeartbeats 1000000
namespace Rx
open PySem PySem.Spec PyProof.Rows L2
/-! ### a list that changes is lent while it is walked -/
section
variable {K : PySem.W.Frag} {T : Tb} {w w' : Wd} {m m' : Mu} {H H' : Hp} {k : Nat} {p : Addr} {ds : List D} {vs : List V}
structure Lent (K : PySem.W.Frag) (w : Wd) (m : Mu) (H : Hp) (k : Nat) (p : Addr) (ds : List D) (vs : List V) : Prop where
  at_ : w.r[k]? = some p
  was : m[k]? = some (.lst ds)
  obj : H p = some (.lst vs)
  dat : DatL K w vs ds
  gn : w.g p = none
  no : ¬ Live w (m.set k .dead) p
theorem lend_at {m : Mu} {k j : Nat} {o : MO} (km : k < m.length) (e : (m.set k .dead)[j]? = some o) (l : o.live = true) : j ≠ k ∧ m[j]? = some o := by
  by_cases hj : j = k
  · subst hj
    rw [List.getElem?_set_self km] at e
    cases e
    cases l
  · rw [List.getElem?_set_ne (Ne.symm hj)] at e
    exact ⟨hj, e⟩
theorem Live.undead {w : Wd} {m : Mu} {k : Nat} {a : Addr} (km : k < m.length) (l : Live w (m.set k .dead) a) : Live w m a := by
  obtain ⟨j, o, e1, e2, e3⟩ := l
  exact ⟨j, o, e1, (lend_at km e2 e3).2, e3⟩
theorem Rel.lend (R : Rel K T w m H) (e1 : m[k]? = some (.lst ds)) (e2 : w.r[k]? = some p) : ∃ vs, Lent K w m H k p ds vs ∧ Rel K T w (m.set k .dead) H := by
  obtain ⟨hg, vs, hv, dv⟩ := R.obj k _ p e1 e2 rfl
  have km : k < m.length := (List.getElem?_eq_some_iff.mp e1).1
  refine ⟨vs, ⟨e2, e1, hv, dv, hg, fun l => ?_⟩, ⟨R.sub, by simp [R.len], fun j v a f1 f2 f3 => ?_, fun i j v v' a f1 f2 f3 f4 f5 f6 => ?_, R.tab, R.nt, R.tk⟩⟩
  · obtain ⟨j, o, f1, f2, f3⟩ := l
    obtain ⟨nj, g1⟩ := lend_at km f2 f3
    exact nj (R.inj j k o _ p g1 e1 f3 rfl f1 e2)
  · obtain ⟨_, g1⟩ := lend_at km f1 f3
    exact R.obj j v a g1 f2 f3
  · obtain ⟨_, g1⟩ := lend_at km f1 f3
    obtain ⟨_, g2⟩ := lend_at km f2 f4
    exact R.inj i j v v' a g1 g2 f3 f4 f5 f6
theorem Lent.still (L : Lent K w m H k p ds vs) (t : Tr w (m.set k .dead) H w' m' H') : H' p = some (.lst vs) ∧ w'.g p = none ∧ ¬ Live w' m' p := by
  refine ⟨t.fr p _ L.obj L.no (fun ps z => by cases z), ?_, fun l => ?_⟩
  · cases e : w'.g p with
    | none => rfl
    | some o =>
      rcases t.gn p o e with e | e | e
      · rw [L.gn] at e; cases e
      · exact absurd rfl (e _ L.obj _)
      · exact absurd e L.no
  · rcases t.li p l with l | l
    · exact L.no l
    · obtain ⟨ps, z⟩ := l _ L.obj; cases z
/-- .. it comes back -/
theorem Lent.back (L : Lent K w m H k p ds vs) (R : Rel K T w m H) (t : Tr w (m.set k .dead) H w' m' H') (R' : Rel K T w' m' H') : Rel K T w' (m'.set k (.lst ds)) H' ∧ Tr w m H w' (m'.set k (.lst ds)) H' := by
  obtain ⟨h1, h2, h3⟩ := L.still t
  have km : k < m.length := (List.getElem?_eq_some_iff.mp L.was).1
  have kp : w'.r[k]? = some p := t.gr.get L.at_
  have km' : k < m'.length := by
    have := (List.getElem?_eq_some_iff.mp kp).1
    rw [R'.len] at this
    exact this
  have at_ : ∀ (j : Nat) (v : MO), (m'.set k (.lst ds))[j]? = some v → (j = k ∧ v = .lst ds) ∨ (j ≠ k ∧ m'[j]? = some v) := fun j v e => by
    by_cases hj : j = k
    · subst hj
      rw [List.getElem?_set_self km'] at e
      exact .inl ⟨rfl, (Option.some.inj e).symm⟩
    · rw [List.getElem?_set_ne (Ne.symm hj)] at e
      exact .inr ⟨hj, e⟩
  refine ⟨⟨R'.sub, by simp [R'.len], fun j v a f1 f2 f3 => ?_, fun i j v v' a f1 f2 f3 f4 f5 f6 => ?_, R'.tab, R'.nt, R'.tk⟩, ⟨t.gr, fun b o e n nt => t.fr b o e (fun l => n (l.undead km)) nt, fun a l => ?_, fun b o e => ?_⟩⟩
  · rcases at_ j v f1 with ⟨rfl, rfl⟩ | ⟨nj, f1⟩
    · rw [kp] at f2
      cases f2
      exact ⟨h2, vs, h1, L.dat.mono t.gr⟩
    · exact R'.obj j v a f1 f2 f3
  · rcases at_ i v f1 with ⟨hi, _⟩ | ⟨ni, g1⟩
    · rcases at_ j v' f2 with ⟨hj, _⟩ | ⟨nj, g2⟩
      · rw [hi, hj]
      · rw [hi, kp] at f5
        cases f5
        exact absurd ⟨j, v', f6, g2, f4⟩ h3
    · rcases at_ j v' f2 with ⟨hj, _⟩ | ⟨nj, g2⟩
      · rw [hj, kp] at f6
        cases f6
        exact absurd ⟨i, v, f5, g1, f3⟩ h3
      · exact R'.inj i j v v' a g1 g2 f3 f4 f5 f6
  · obtain ⟨j, o, e1, e2, e3⟩ := l
    rcases at_ j o e2 with ⟨rfl, rfl⟩ | ⟨nj, e2⟩
    · rw [kp] at e1
      cases e1
      exact .inl ⟨j, _, L.at_, L.was, rfl⟩
    · rcases t.li a ⟨j, o, e1, e2, e3⟩ with l | l
      · exact .inl (l.undead km)
      · exact .inr l
  · rcases t.gn b o e with e | e | e
    · exact .inl e
    · exact .inr (.inl e)
    · exact .inr (.inr (e.undead km))
end
def giveB (k : Nat) (ds : List D) : SRes → SRes
  | .nx s m => .nx s (m.set k (.lst ds))
  | .ret d m => .ret d (m.set k (.lst ds))
  | .exc x s m => .exc x s (m.set k (.lst ds))
  | _ => .stuck
def sForH (f : SEx) (g : STg) (b : SSt) : SSt := fun s m => (f s m).toS s fun d m1 => match d with
  | .ref k => (match m1[k]? with
    | some (.lst ds) => giveB k ds (forL g b ds s (m1.set k .dead))
    | _ => .stuck)
  | _ => .stuck
section
variable {X : Cx} {T : Tb} {W : WX} {pos : Pos}
theorem rs_forH {tg iter : Expr} {body : List Stmt} {f : SEx} {g : STg} {fb : SSt} (hp : PassesOwn (model X.prog X.w) X.A X.env X.xe) (hc : X.calm = true) (hi : PE X iter (rdE X.K X.mg T W f)) (hg : PG X tg (rdG X.K T gAny g)) (hb : PSs X body (rdS X.K X.mg T W fb))
    (hs : ∀ x, foldedSetIterable iter X.env x = pure x := by intro _; rfl) : PS X (.For tg iter body [] pos) (rdS X.K X.mg T W (sForH f g fb)) := (ps_for hp hc (pi_seq1 hi) hg hb hs).imp fun D σ H ⟨w, s, m, R, S, t⟩ => by
  refine ⟨w, s, m, R, S, (SThen.ofS t S).mono fun d m0 w0 H0 t0 R0 q v hv => ?_⟩
  split at q
  · rename_i k
    split at q
    · rename_i ds ek
      cases hv with
      | @ref p _ hk =>
        obtain ⟨vs, L, RL⟩ := R0.lend ek hk
        have lv := L.dat.length
        refine ⟨p, vs, rfl, .inl ⟨.of L.obj, ?_⟩⟩
        refine ⟨fun i n σ H => i + n = ds.length ∧ ∃ w' s' m', Tr w0 (m0.set k .dead) H0 w' m' H ∧ Rel X.K T w' m' H ∧ Slots X.K w' σ s' ∧ SThen X.K X.mg T W w0 m0 H0 (giveB k ds (forL g fb (ds.drop i) s' m')) D, ⟨ds.length, by omega, w0, s, _, Tr.refl _ _ _, RL, S.mono t0.gr, by simpa using q⟩, ?_⟩
        rintro i n σ1 H1 ⟨hn, w1, s1, m1, t1, R1, S1, q1⟩
        obtain ⟨hH, _, _⟩ := L.still t1
        by_cases hi' : i < ds.length
        · right
          have ed : ds.drop i = ds[i] :: ds.drop (i + 1) := List.drop_eq_getElem_cons hi'
          refine ⟨⟨.of hH, by omega⟩, fun σ' H' => i + 1 + (n - 1) = ds.length ∧ ∃ w' s' m', Tr w0 (m0.set k .dead) H0 w' m' H' ∧ Rel X.K T w' m' H' ∧ Slots X.K w' σ' s' ∧ SThen X.K X.mg T W w0 m0 H0 (giveB k ds (forL g fb (ds.drop (i + 1)) s' m')) D, fun σ' H' h => ⟨n - 1, by omega, h⟩, fun x H' hy => ?_⟩
          obtain ⟨rfl, hx⟩ := hy
          have hxd : Dat X.K w1 x ds[i] := by
            obtain ⟨v', e1, e2⟩ := (L.dat.mono t1.gr).get (List.getElem?_eq_getElem hi')
            rw [hx] at e1
            cases e1
            exact e2
          refine ⟨w1, s1, m1, ds[i], R1, S1, hxd, ?_⟩
          rw [ed] at q1
          unfold forL at q1
          cases e1 : g ds[i] s1 with
          | none => rw [e1] at q1; exact q1.elim
          | some s2 =>
            rw [e1] at q1
            simp only at q1 ⊢
            refine fun σ' S' _ => ⟨w1, s2, m1, R1, S', ?_⟩
            revert q1
            cases fb s2 m1 with
            | nx s3 m3 => exact fun q2 w' H'' σ'' t3 R3 S3 => ⟨by omega, w', s3, m3, t1.trans t3, R3, S3, q2⟩
            | ct s3 m3 => exact fun q2 w' H'' σ'' t3 R3 S3 => ⟨by omega, w', s3, m3, t1.trans t3, R3, S3, q2⟩
            | bk s3 m3 => exact fun q2 w' H'' σ'' t3 R3 S3 => q2 w' H'' σ'' (L.back R0 (t1.trans t3) R3).2 (L.back R0 (t1.trans t3) R3).1 S3
            | ret d m3 => exact fun q2 w' H'' v t3 R3 hv => q2 w' H'' v (L.back R0 (t1.trans t3) R3).2 (L.back R0 (t1.trans t3) R3).1 hv
            | exc x s3 m3 => exact fun q2 w' H'' σ'' cls dd t3 R3 S3 hx => q2 w' H'' σ'' cls dd (L.back R0 (t1.trans t3) R3).2 (L.back R0 (t1.trans t3) R3).1 S3 hx
            | stuck => exact fun q2 => q2
        · left
          have ed : ds.drop i = [] := List.drop_eq_nil_of_le (by omega)
          rw [ed] at q1
          exact ⟨⟨.of hH, by omega⟩, q1 w1 H1 σ1 (L.back R0 t1 R1).2 (L.back R0 t1 R1).1 S1⟩
    · exact q.elim
  · exact q.elim
/-! ### a comprehension over it -/
def sLcH (f : SEx) (g : STg) (tt : SBl) (el : SEx) (own : List Nat) : SEx := fun s m => (f s m).bind fun d m1 => match d with
  | .ref k => (match m1[k]? with
    | some (.lst ds) => if ds.length ≤ 1000000 then (match lcL g tt el (wipeD s own) ds (m1.set k .dead) with
      | .ok ys m2 => .ok (.lst ys) (m2.set k (.lst ds))
      | _ => .stuck) else .stuck
    | _ => .stuck)
  | _ => .stuck
theorem rd_lcH {f : SEx} {g : STg} {tt : SBl} {el : SEx} {vs : List Nat} (σ : L2.St) (H : Hp) (Q : VK) (h : rdE X.K X.mg T W (sLcH f g tt el vs) σ H Q) :
    tLc (iSeq1 X (rdE X.K X.mg T W f)) (rdG X.K T (gOwn vs) g) (rdB X.K X.mg T W0 tt) (rdE X.K X.mg T W0 el) vs σ H Q := by
  obtain ⟨w, s, m, R, S, t⟩ := h
  refine ⟨w, s, m, R, S, (Then.bind t).mono fun d m0 w0 H0 t0 R0 q v hv => ?_⟩
  split at q
  · rename_i k
    split at q
    · rename_i ds ek
      cases hv with
      | @ref p _ hk =>
        obtain ⟨us0, L, RL⟩ := R0.lend ek hk
        have lv := L.dat.length
        refine ⟨p, us0, rfl, .inl ⟨.of L.obj, ?_⟩⟩
        split at q
        · rename_i hl
          split at q
          · rename_i ys mE e0
            refine lc_walk RL (S.mono t0.gr) hl e0 ⟨fun w1 m1 H i d t1 R1 e => ⟨⟨.of (L.still t1).1, ?_⟩, fun x H' ⟨e1, e2⟩ => ?_⟩, fun w1 m1 H i t1 R1 l => ⟨.of (L.still t1).1, by omega⟩⟩ fun w1 H1 p2 us t1 R1 h1 h2 h3 h4 h5 => ?_
            · have := (List.getElem?_eq_some_iff.mp e).1
              omega
            · subst e1
              refine ⟨w1, R1, Tr.refl _ _ _, ?_⟩
              obtain ⟨v', e3, e4⟩ := (L.dat.mono t1.gr).get e
              rw [e2] at e3
              cases e3
              exact e4
            · obtain ⟨R2, G⟩ := R1.adopt h2 h4 h5
              obtain ⟨R3, t3⟩ := L.back R0 (t1.adopt G h1) R2
              exact q _ _ t3 R3 _ (.lst (show upd w1.g p2 _ p2 = _ from upd_same) (h3.mono G))
          · exact q.elim
        · exact q.elim
    · exact q.elim
  · exact q.elim
end
end Rx
set_option Elab.async false
set_option linter.all false
set_option maxRecDepth 100000
set_option maxHeartbeats 1000000
namespace Rx
open PySem PySem.Spec PyProof.Rows L2
/-! ### calls with keywords, or with defaults -/
/-- how the arguments of a call fill the parameters: n by place, ks by name; g: data of both, the defaults filled in -/
structure Fills (K : PySem.W.Frag) (fd : FuncData) (ps : List Str) (n : Nat) (ks : List Str) (g : List D → List D → List D) : Prop where
  ex : ∃ gv gV, KBn K fd ps n ks gv gV ∧ ∀ (w : Wd) (vs : List V) (ds : List D) (zs : List V) (es : List D), DatL K w vs ds → DatL K w zs es → DatL K w (gV vs zs) (g ds es)
structure DefAtK (K : PySem.W.Frag) (mg : Str → Option Value) (x : Str) (st : Stmt) (ps : List Str) (n : Nat) (ks : List Str) (g : List D → List D → List D) : Prop where
  ex : ∃ (fa : Addr) (fd : FuncData), Fun K x x st fa fd ∧ mg x = some (.ref fa) ∧ Fills K fd ps n ks g
structure CalK (P : Program) (w : World) (K : PySem.W.Frag) (mg : Str → Option Value) (base : Heap) (T : Tb) (k : Nat) (x : Str) (n N : Nat) (ks : List Str) (g : List D → List D → List D) (f : List D → Mu → Res D) : Prop where
  ex : ∃ (fa : Addr) (fd : FuncData) (ps : List Str), FnOk P w K mg base (L2.CX P w) k fa fd ps (spI K mg T N f) ∧ mg x = some (.ref fa) ∧ PySem.W.keepIn K (.ref fa) = true ∧ Fills K fd ps n ks g ∧ ps.length = N
def sCallK (n m N : Nat) (g : List D → List D → List D) (f : List D → Mu → Res D) (a b : SAr) : SEx := fun s mu => (a s mu).bind fun ds m1 => (b s m1).bind fun es m2 => if ds.length = n ∧ es.length = m ∧ (g ds es).length = N then f (g ds es) m2 else .stuck
section
variable {X : Cx} {T : Tb} {W : WX} {pos : Pos}
theorem re_callK {k : Nat} {x : Str} {n N : Nat} {ks : List Str} {g : List D → List D → List D} {f : List D → Mu → Res D} {a b : SAr} {e : Expr} {es : List Expr} {kws : List Keyword} {p : Pos} (c : CalK X.prog X.w X.K X.mg X.base T k x n N ks g f) (hr : Room k X.A) (tk : Takes X W) (hW : ∀ c d σ σ' H, W c d σ H → W c d σ' H) (hg : Gl X x) (ha : PA X (e :: es) (rdA X.K X.mg T W a)) (hkw : PK X kws (rdA X.K X.mg T W b))
    (hall : (backToKw pos (keywordEach kws X.env)).all (·.1.isSome) = true := by rfl) (hks : (backToKw pos (keywordEach kws X.env)).filterMap (·.1) = ks := by rfl)
    (hdb : (x == ("__debug__" : Str)) = false := by decide) (he : starEach (e :: es) X.env = (false, eval e X.env) :: starEach es X.env := by rfl)
    (hpl : ((backTo pos (starEach (e :: es) X.env)).any (·.1) || (backToKw pos (keywordEach kws X.env)).any (·.1.isNone)) = false := by rfl) :
    PE X (.Call (.Name x p) (e :: es) kws pos) (rdE X.K X.mg T W (sCallK n ks.length N g f a b)) := by
  obtain ⟨fa, fd, ps, F, hm, hk, ⟨gv, gV, hb, hd⟩, hN⟩ := c.ex
  refine (pe_callN F hr hg hm hk hb (E := fun c d H => ∀ σ, W c d σ H) (passes_call tk fun c d σ H h => h σ) ha hkw hall hks hdb he hpl).imp fun σ H Q ⟨w, s, m, R, S, t⟩ => ?_
  refine ⟨w, s, m, R, S, (Then.bind t).mono fun ds m' w' H' t' R' q vs hv => ?_⟩
  refine ⟨w', s, m', R', S.mono t'.gr, (Then.bind q).mono fun es' m2 w2 H2 t2 R2 q zs hz => ?_⟩
  split at q
  · rename_i hl
    have hdd := hd w2 vs ds zs es' (hv.mono t2.gr) hz
    refine ⟨by rw [hv.length]; exact hl.1, by rw [hz.length]; exact hl.2.1, by rw [hdd.length]; exact hl.2.2, w2, m2, _, R2, hdd, ?_⟩
    revert q
    cases f (g ds es') m2 with
    | ok d m3 => exact fun q => q
    | exc x m3 => exact fun q w3 H3 cls dd t3 R3 hx σ' => hW cls dd σ σ' H3 (q w3 H3 cls dd t3 R3 hx)
    | stuck => exact fun q => q
  · exact q.elim
theorem rk_nil : PK X [] (rdA X.K X.mg T W aNil) := ⟨fun pos pins s σ H Q I ⟨w, s', m, R, S, t⟩ => (pk_nil (X := X)).run pos pins s σ H Q I (Then.now (K := X.K) (mg := X.mg) (T := T) (W := W) (σ := σ) t R [] .nil)⟩
theorem rk_cons {e : Expr} {kws : List Keyword} {nm : Option Str} {kpos : Pos} {f : SEx} {r : SAr} (ha : PE X e (rdE X.K X.mg T W f)) (hr : PK X kws (rdA X.K X.mg T W r)) : PK X (⟨nm, e, kpos⟩ :: kws) (rdA X.K X.mg T W (aCons f r)) := ⟨fun pos pins s σ H Q I ⟨w, s', m, R, S, t⟩ => (pk_cons ha hr).run pos pins s σ H Q I (by
  refine ⟨w, s', m, R, S, (Then.bind t).mono fun x m1 w1 H1 t1 R1 t u hu => ?_⟩
  refine ⟨w1, s', m1, R1, S.mono t1.gr, (Then.bind t).mono fun y m2 w2 H2 t2 R2 t v hv => ?_⟩
  exact Then.now (K := X.K) (mg := X.mg) (T := T) (W := W) (σ := σ) t R2 _ (.cons (hu.mono t2.gr) hv))⟩
end
end Rx
set_option Elab.async false
set_option linter.all false
set_option maxRecDepth 100000
set_option maxHeartbeats 1000000
namespace Rx
open PySem PySem.Spec PyProof.Rows L2
/-! ### the end of a law without a table -/
theorem law_at0 {l : PySem.W.OpenLaw} {w : World} {K : PySem.W.Frag} {lv n : Nat} {x : Str} {mg : Str → Option Value} {fa : Addr} {h : Heap} {fd : FuncData} {f : List D → Mu → Res D}
    (hb : ∀ (s : Shared) (u : Value), BindsTo s fd ⟨[u], []⟩ [(x, u)]) (hF : ∀ base : Heap, K.In base → base.Ns mainGlobals mg → FnOk l.prog w K mg base (L2.CX l.prog w) lv fa fd [x] (spI K mg ⟨[], w00⟩ 1 f))
    (hf : ∀ ns : List Int, ns.length ≤ n → (∀ z ∈ ns, Builtin.Int.intBits z ≤ 1048576) → ∃ m, f [.scr (ns.map D.int)] [] = .ok (.bl true) m) : LamX.LawAtS l w K (L2.CX l.prog w) lv n x mg fa h := by
  refine ⟨fd, [], spI K mg ⟨[], w00⟩ 1 f, fun p hp => (by cases hp), fun p hp => (by cases hp), fun p hp => (by cases hp), hb, fun H a ns hl hbits hH hS => ?_, fun base h1 h2 h3 => hF base h1 h2⟩
  obtain ⟨m, e⟩ := hf ns hl hbits
  obtain ⟨w0, R, d⟩ := rel_start (K := K) (ts := []) (fun p hp => by cases hp) hS
  refine ⟨rfl, w0, [], [.scr (ns.map D.int)], R, .cons d .nil, ?_⟩
  rw [e]
  intro w' H' _ _ v hv
  cases hv
  rfl
/-! ### defs with keyword-only defaults -/
def ckKw (K : PySem.W.Frag) (A : Addr) (rows : List (Str × D)) : Bool := rows.all fun q => match PySem.W.nsIn K A q.1 with
  | some (some u) => ckD K u q.2
  | _ => false
theorem ckKw_ok {K : PySem.W.Frag} {A : Addr} : ∀ {rows : List (Str × D)}, ckKw K A rows = true → ∃ vr : List (Str × V), vr.map (·.1) = rows.map (·.1) ∧ (∀ q ∈ vr, ∃ u, PySem.W.nsIn K A q.1 = some (some u) ∧ RelV q.2 u) ∧ ∀ w, DatL K w (vr.map (·.2)) (rows.map (·.2))
  | [], _ => ⟨[], rfl, (fun q hq => absurd hq (by simp)), fun w => DatL.nil⟩
  | r :: rows, h => by
    unfold ckKw at h
    rw [List.all_cons, Bool.and_eq_true] at h
    obtain ⟨vr, e1, e2, e3⟩ := ckKw_ok (K := K) (A := A) (rows := rows) h.2
    have h1 := h.1
    split at h1
    · rename_i u eu
      obtain ⟨v, rv, dv⟩ := ckD_ok _ _ h1
      refine ⟨(r.1, v) :: vr, by simp [e1], fun q hq => ?_, fun w => .cons (dv w) (e3 w)⟩
      rcases List.mem_cons.mp hq with rfl | hq
      · exact ⟨u, eu, rv⟩
      · exact e2 q hq
    · cases h1
abbrev DefAtKX {K : PySem.W.Frag} {h : Heap} (_ : K.In h) (mg : Str → Option Value) (x : Str) (st : Stmt) (ps : List Str) (n : Nat) (ks : List Str) (g : List D → List D → List D) : Prop := DefAtK K mg x st ps n ks g
theorem vals_take {xs : List V} {us : List Value} (h : Vals xs us) (n : Nat) : Vals (xs.take n) (us.take n) := h.take n
theorem vals_drop {xs : List V} {us : List Value} (n : Nat) (h : Vals xs us) : Vals (xs.drop n) (us.drop n) := h.drop n
section
variable {K : PySem.W.Frag} {mg : Str → Option Value} {h : Heap}
theorem defAtK_mk {x : Str} {st : Stmt} {ps ks : List Str} {n : Nat} {f A : Addr} {oc : Value} {od an : Option Addr} {osl : Array (Option Value)} {doc pm cdv ct : Value} {g : List D → List D → List D} (kws ms : List (Str × D)) (gg : {α : Type} → List α → List α → List α → List α)
    (X : K.In h) (G : h.Ns mainGlobals mg) (a : PySem.W.nsIn K mainGlobals x = some (some (.ref f)))
    (l : K.lookup f = some ⟨oc, od, .func (PySem.W.fnOf x x (defArgs st) (defBody st) (defScope st) .none (.ref A) doc pm an cdv ct), osl⟩) (c : PySem.W.codeIn K cdv x = true) (k : PySem.W.keepIn K (.ref f) = true)
    (q : ckKw K A (ms ++ kws) = true) (hk : kws ≠ []) (hn : 0 = 0)
    (hrel : ∀ {vs mz zs : List V} {us mv ws : List Value}, Vals vs us → Vals mz mv → Vals zs ws → Vals (gg vs mz zs) (gg us mv ws))
    (hb : ∀ (D : Addr) (doc pm : Value) (an : Option Addr) (cdv ct : Value) (us mv ws : List Value), us.length = n → mv.length = ms.length → ws.length = ks.length →
      KwChain D ((ms.map (·.1)).zip mv) (bindArgs (PySem.W.fnOf x x (defArgs st) (defBody st) (defScope st) .none (.ref D) doc pm an cdv ct) ⟨us, ks.zip ws⟩) (ps.zip (gg us mv ws)))
    (hd : ∀ (w : Wd) (vs zs : List V) (ds es : List D) (mz : List V), DatL K w vs ds → DatL K w zs es → DatL K w mz (ms.map (·.2)) → DatL K w (gg vs mz zs) (g ds es)) : DefAtK K mg x st ps n ks g := by
  obtain ⟨vr, e1, e2, e3⟩ := ckKw_ok q
  have q1 : ckKw K A ms = true := by
    unfold ckKw at q ⊢
    rw [List.all_append, Bool.and_eq_true] at q
    exact q.1
  obtain ⟨vm, f1, f2, f3⟩ := ckKw_ok q1
  have hvr : vm ++ vr ≠ [] := by
    intro z
    have z2 : vr = [] := (List.append_eq_nil_iff.mp z).2
    rw [z2] at e1
    have := congrArg List.length e1
    simp at this
    exact hk (List.eq_nil_of_length_eq_zero (by omega))
  have F : FunD K x x (defArgs st) (defBody st) (defScope st) [] (vm ++ vr) f _ := ⟨⟨oc, od, .none, .ref A, doc, pm, an, cdv, ct, osl, rfl, l, c, .inl ⟨rfl, rfl⟩, .inr ⟨A, rfl, fun q hq => by
    rcases List.mem_append.mp hq with hq | hq
    · exact f2 q hq
    · exact e2 q hq⟩⟩, k⟩
  have lm : vm.length = ms.length := by
    have := congrArg List.length f1
    simpa using this
  obtain ⟨mv, B⟩ := F.kbinds0 (ps := ps) n ks vm gg hvr (fun q hq => List.mem_append.mpr (.inl hq)) hrel fun D doc pm an cdv ct us mv ws l1 l2 l3 => by
    rw [f1]
    exact hb D doc pm an cdv ct us mv ws l1 (l2.trans lm) l3
  exact ⟨f, _, fun_mk l c k, PySem.W.mg_of X G a, ⟨_, _, B, fun w vs ds zs es h1 h2 => hd w vs zs ds es _ h1 h2 (f3 w)⟩⟩
end
/-! ### a list is unpacked -/
def lstOf : D → Option (List D)
  | .lst ds => some ds
  | _ => none
def gL (t : STgs) : STg := fun d s => match lstOf d with
  | some ds => t ds s
  | none => none
theorem lst_at0 {K : PySem.W.Frag} {w : Wd} {v : V} {d : D} (h : Dat K w v d) {ds : List D} (e : lstOf d = some ds) : ∃ a vs, v = .ref a ∧ w.g a = some (.lst vs) ∧ DatL K w vs ds := by
  cases h with
  | lst h r => cases e; exact ⟨_, _, rfl, h, r⟩
  | _ => cases e
section
variable {X : Cx} {T : Tb} {pos : Pos}
theorem rg_l {P : L2.St → L2.St → Prop} {es : List Expr} {k : Nat} {t : STgs} {n : Nat} (hc : X.calm = true) (h : PGs X es (rdGs X.K T P t)) (hl : ∀ ds s s', t ds s = some s' → ds.length = n) (hn : (assignEach es X.env).length = n := by rfl) (hst : (assignEach es X.env).findIdx? (·.1) = none := by rfl) :
    PG X (.Tuple es k pos) (rdG X.K T P (gL t)) := (pg_unl hc h hn hst).imp fun v σ H Q ⟨w, s, m, d, R, S, r, q⟩ => by
  unfold gL at q
  cases e0 : lstOf d with
  | none => rw [e0] at q; exact q.elim
  | some ds =>
    rw [e0] at q
    obtain ⟨a, vs, rfl, hq, rr⟩ := lst_at0 r e0
    refine ⟨a, vs, rfl, .inl (.inl (R.sub _ _ hq)), ?_, w, s, m, ds, R, S, rr, q⟩
    cases e1 : t ds s with
    | none => simp only [e1] at q
    | some s' => rw [rr.length]; exact hl ds s s' e1
end
end Rx
set_option Elab.async false
set_option linter.all false
set_option maxRecDepth 100000
set_option maxHeartbeats 1000000
namespace Rx
open PySem PySem.Spec PyProof.Rows L2
/-! ### sum of a list or a tuple of ints -/
def dSumA (xs : List D) (m : Mu) : Res D := match xs with
  | [x] => (match seqOf m x with
    | some (_, ds) => (match intsOf ds with
      | some l => .ok (.int l.sum) m
      | none => .stuck)
    | _ => .stuck)
  | _ => .stuck
def rSumA (K : PySem.W.Frag) : List V → Hp → VK → Prop := fun vs H Q => ∃ (a : Addr) (ns : List Int), vs = [V.ref a] ∧ (SqL K H a (ns.map V.int) ∨ SqT K H a (ns.map V.int)) ∧ Q (.int ns.sum) H
section
variable {X : Cx} {T : Tb} {W : WX} {pos : Pos}
theorem cr_sumA (hc : X.calm = true) : CallR X (.builtin "sum") (rSumA X.K) := by
  intro pins s σ H vs us Q I r h
  obtain ⟨a, ns, rfl, hs | hs, q⟩ := h
  · exact cr_sum hc pins s σ H [.ref a] us Q I r ⟨a, ns, rfl, hs, q⟩
  · obtain ⟨its, rv, hl, _⟩ := I.tuple hs
    rw [Vals.ref1 r]
    have hi := rv.ints
    obtain ⟨xs, hx⟩ := hi.allInts.items
    have hn : numsOf its.toArray.toList = ns := by rw [show its.toArray.toList = its from rfl, hi.numsOf]
    have hl2 : s.heap.IsTuple a its.toArray := hl
    rw [hx] at hl2 hn
    rw [nums_intItems] at hn
    refine PySem.W.ktm_sumG (I.ok.hd hc) hl2 fun h' tk t' hk => ⟨.int _, H, I.kept hk, ⟨t', rfl⟩, ?_⟩
    rw [preSum_eq, List.take_of_length_le (by simp), hn]
    exact q
theorem ru_sumA : RuB X T W (rSumA X.K) dSumA := fun w m H σ xs us Q R hu t => by
  unfold dSumA at t
  split at t
  · split at t
    · rename_i b ds e
      split at t
      · rename_i l e1
        cases hu with
        | cons h1 hu =>
          cases hu
          obtain ⟨a, vs, rfl, r, hq⟩ := seq_at R h1 e
          obtain ⟨e2, _⟩ := ints_at r e1
          rcases hq with ⟨_, hq⟩ | ⟨_, hq⟩
          · exact ⟨a, l, rfl, .inl (by rw [← e2]; exact hq), t.now R _ (.int _)⟩
          · exact ⟨a, l, rfl, .inr (by rw [← e2]; exact hq), t.now R _ (.int _)⟩
      · exact t.elim
    · exact t.elim
  · exact t.elim
end
end Rx
set_option Elab.async false
set_option linter.all false
set_option maxRecDepth 100000
set_option maxHeartbeats 1000000
namespace Rx
open PySem PySem.Spec PyProof.Rows L2
/-! ### dicts whose keys are ints and texts -/
def valG (kvs : List (Key × D)) (k : Key) : Option D := (kvs.find? fun kv => decide (kv.1 = k)).map (·.2)
def putG (kvs : List (Key × D)) (k : Key) (v : D) : List (Key × D) :=
  if (kvs.any fun kv => decide (kv.1 = k)) = true then kvs.map (fun kv => if kv.1 = k then (kv.1, v) else kv) else kvs ++ [(k, v)]
def dikOf (m : Mu) : D → Option (Nat × List (Key × D))
  | .ref k => match m[k]? with
    | some (.dik kvs) => some (k, kvs)
    | _ => none
  | _ => none
def sDik : SEx := fun _ m => .ok (.ref m.length) (m ++ [.dik []])
def dKin (y x : D) (m : Mu) : Res D := match dikOf m x, keyOf y with
  | some (_, kvs), some k => .ok (.bl (valG kvs k).isSome) m
  | _, _ => .stuck
def dKnotin (y x : D) (m : Mu) : Res D := match dikOf m x, keyOf y with
  | some (_, kvs), some k => .ok (.bl (!(valG kvs k).isSome)) m
  | _, _ => .stuck
def dKget (x y : D) (m : Mu) : Res D := match dikOf m x, keyOf y with
  | some (_, kvs), some k => (match valG kvs k with
    | some d => .ok d m
    | none => .stuck)
  | _, _ => .stuck
def dKput (x y v : D) (m : Mu) : Option Mu := match dikOf m x, keyOf y with
  | some (i, kvs), some k => if kvs.length ≤ 1000000 then some (m.set i (.dik (putG kvs k v))) else none
  | _, _ => none
def sKput (v o i : SEx) : SSt := fun s m => (v s m).toS s fun v m => (o s m).toS s fun x m => (i s m).toS s fun j m => match dKput x j v m with
  | some m' => .nx s m'
  | none => .stuck
/-- {e: f} -/
def sDis1 (e f : SEx) : SEx := fun s m => (e s (m ++ [.dik []])).bind fun y m1 => (f s m1).bind fun v m2 => match keyOf y, m2[m.length]? with
  | some k, some (.dik []) => .ok (.ref m.length) (m2.set m.length (.dik [(k, v)]))
  | _, _ => .stuck
section
variable {K : PySem.W.Frag} {T : Tb} {w w' : Wd} {m : Mu} {H : Hp}
theorem dik_at (R : Rel K T w m H) {v : V} {d : D} (h : Dat K w v d) {k : Nat} {kvs : List (Key × D)} (e : dikOf m d = some (k, kvs)) : ∃ a vs, v = .ref a ∧ m[k]? = some (.dik kvs) ∧ w.r[k]? = some a ∧ KiL K w vs kvs ∧ H a = some (.dK vs) := by
  cases h with
  | @ref a k' hk =>
    unfold dikOf at e
    simp only at e
    split at e
    · rename_i ds' e1
      cases e
      obtain ⟨q1, vs, q2, q3⟩ := R.obj k _ a e1 hk rfl
      exact ⟨a, vs, rfl, e1, hk, q3, q2⟩
    · cases e
  | _ => cases e
theorem KiL.val : ∀ {vs kvs} (k : Key), KiL K w vs kvs → ((valV vs k).isSome = (valG kvs k).isSome) ∧ ∀ d, valG kvs k = some d → ∃ v, valV vs k = some v ∧ Dat K w v d
  | _, _, k, .nil => ⟨rfl, fun d e => by cases e⟩
  | _, _, k, .cons (k := j) (v := v) (d := d) (vs := vs) (ds := ds) h r => by
    obtain ⟨i1, i2⟩ := KiL.val k r
    by_cases e : j = k
    · rw [valV_pos (p := (j, v)) e]
      have e2 : valG ((j, d) :: ds) k = some d := by unfold valG; simp [List.find?_cons, e]
      rw [e2]
      exact ⟨rfl, fun d' e3 => by cases e3; exact ⟨v, rfl, h⟩⟩
    · rw [valV_neg (p := (j, v)) e]
      have e2 : valG ((j, d) :: ds) k = valG ds k := by unfold valG; simp [List.find?_cons, e]
      rw [e2]
      exact ⟨i1, i2⟩
theorem KiL.any : ∀ {vs kvs} (k : Key), KiL K w vs kvs → (vs.any fun kv => decide (kv.1 = k)) = (kvs.any fun kv => decide (kv.1 = k))
  | _, _, k, .nil => rfl
  | _, _, k, .cons h r => by rw [List.any_cons, List.any_cons, KiL.any k r]
theorem KiL.map : ∀ {vs kvs} {v : V} {d : D} (k : Key), Dat K w v d → KiL K w vs kvs → KiL K w (vs.map fun kv => if kv.1 = k then (kv.1, v) else kv) (kvs.map fun kv => if kv.1 = k then (kv.1, d) else kv)
  | _, _, _, _, k, _, .nil => .nil
  | _, _, v, d, k, hd, .cons (k := j) h r => by
    rw [List.map_cons, List.map_cons]
    by_cases e : j = k
    · simp only [if_pos e]; exact .cons hd (KiL.map k hd r)
    · simp only [if_neg e]; exact .cons h (KiL.map k hd r)
theorem KiL.snoc : ∀ {vs kvs} {v : V} {d : D} (k : Key), Dat K w v d → KiL K w vs kvs → KiL K w (vs ++ [(k, v)]) (kvs ++ [(k, d)])
  | _, _, _, _, k, hd, .nil => .cons hd .nil
  | _, _, v, d, k, hd, .cons (k := j) h r => .cons h (KiL.snoc k hd r)
theorem KiL.put {vs kvs} {v : V} {d : D} (k : Key) (hd : Dat K w v d) (r : KiL K w vs kvs) : KiL K w (putK vs k v) (putG kvs k d) := by
  unfold putK putG
  rw [r.any k]
  split
  · exact r.map k hd
  · exact r.snoc k hd
theorem KiL.length {κ : Type} : ∀ {vs kvs}, KiL (κ := κ) K w vs kvs → vs.length = kvs.length
  | _, _, .nil => rfl
  | _, _, .cons h r => by rw [List.length_cons, List.length_cons, r.length]
end
section
variable {X : Cx} {T : Tb} {W : WX} {pos : Pos}
theorem re_dik : PE X (.Dict [] [] pos) (rdE X.K X.mg T W sDik) := pe_dnewK.imp fun σ H Q ⟨w, s, m, R, S, t⟩ p hp => by
  obtain ⟨R1, t1⟩ := R.fresh (u := .dik []) (o := .dK []) hp rfl fun w' g => ⟨[], upd_same, .nil⟩
  exact t _ _ t1 R1 _ (.ref (by show (w.r ++ [p])[m.length]? = some p; rw [← R.len]; simp))
theorem ru_kin : Ru2 X T W (fun y x H Q => ∃ a o, x = .ref a ∧ DGet H a y o ∧ Q (.bl o.isSome) H) dKin := fun w m H σ y x u v Q R hu hv t => by
  unfold dKin at t
  split at t
  · rename_i i kvs k e1 e2
    obtain ⟨a, vs, rfl, f1, f2, r, hH⟩ := dik_at R hv e1
    obtain rfl := key_at hu e2
    refine ⟨a, _, rfl, .k hH, ?_⟩
    rw [(r.val k).1]
    exact t.now R _ (.bl _)
  · exact t.elim
theorem ru_knotin : Ru2 X T W (fun y x H Q => ∃ a o, x = .ref a ∧ DGet H a y o ∧ Q (.bl (!o.isSome)) H) dKnotin := fun w m H σ y x u v Q R hu hv t => by
  unfold dKnotin at t
  split at t
  · rename_i i kvs k e1 e2
    obtain ⟨a, vs, rfl, f1, f2, r, hH⟩ := dik_at R hv e1
    obtain rfl := key_at hu e2
    refine ⟨a, _, rfl, .k hH, ?_⟩
    rw [(r.val k).1]
    exact t.now R _ (.bl _)
  · exact t.elim
theorem ru_kget : Ru2 X T W (fun x y H Q => ∃ a v, x = .ref a ∧ DGet H a y (some v) ∧ Q v H) dKget := fun w m H σ x y u v Q R hu hv t => by
  unfold dKget at t
  split at t
  · rename_i i kvs k e1 e2
    split at t
    · rename_i d e3
      obtain ⟨a, vs, rfl, f1, f2, r, hH⟩ := dik_at R hu e1
      obtain rfl := key_at hv e2
      obtain ⟨z, e4, hz⟩ := (r.val k).2 d e3
      exact ⟨a, z, rfl, by rw [← e4]; exact .k hH, t.now R _ hz⟩
    · exact t.elim
  · exact t.elim
theorem re_kin {a b : Expr} {f1 f2 : SEx} (hu : X.A.units + 1 < cLine) (ha : PE X a (rdE X.K X.mg T W f1)) (hb : PE X b (rdE X.K X.mg T W f2)) (hm : behindInMarks .In b = false) : PE X (.Compare a [.In] [b] pos) (rdE X.K X.mg T W (s2 dKin f1 f2)) := (pe_cmp (pc_din hu ha hb) hm).imp fun σ H Q h => two_help ru_kin σ H Q h
theorem re_knotin {a b : Expr} {f1 f2 : SEx} (hu : X.A.units + 1 < cLine) (ha : PE X a (rdE X.K X.mg T W f1)) (hb : PE X b (rdE X.K X.mg T W f2)) (hm : behindInMarks .NotIn b = false) : PE X (.Compare a [.NotIn] [b] pos) (rdE X.K X.mg T W (s2 dKnotin f1 f2)) := (pe_cmp (pc_dnotin hu ha hb) hm).imp fun σ H Q h => two_help ru_knotin σ H Q h
theorem rt_kin {a b : Expr} {f1 f2 : SEx} (hu : X.A.units + 1 < cLine) (ha : PE X a (rdE X.K X.mg T W f1)) (hb : PE X b (rdE X.K X.mg T W f2)) (hm : behindInMarks .In b = false) : PT X (.Compare a [.In] [b] pos) (rdB X.K X.mg T W (sTst (s2 dKin f1 f2))) := by
  have h : PT X (.Compare a [.In] [b] pos) (tTest (tDIn (rdE X.K X.mg T W f1) (rdE X.K X.mg T W f2))) := pt_cmp (pc_din hu ha hb) hm
  exact rt_of h fun σ H Q h => two_help ru_kin σ H Q h
theorem rt_knotin {a b : Expr} {f1 f2 : SEx} (hu : X.A.units + 1 < cLine) (ha : PE X a (rdE X.K X.mg T W f1)) (hb : PE X b (rdE X.K X.mg T W f2)) (hm : behindInMarks .NotIn b = false) : PT X (.Compare a [.NotIn] [b] pos) (rdB X.K X.mg T W (sTst (s2 dKnotin f1 f2))) := by
  have h : PT X (.Compare a [.NotIn] [b] pos) (tTest (tDNotIn (rdE X.K X.mg T W f1) (rdE X.K X.mg T W f2))) := pt_cmp (pc_dnotin hu ha hb) hm
  exact rt_of h fun σ H Q h => two_help ru_knotin σ H Q h
theorem re_kget {a b : Expr} {f1 f2 : SEx} (hu : X.A.units + 1 < cLine) (ha : PE X a (rdE X.K X.mg T W f1)) (hb : PE X b (rdE X.K X.mg T W f2)) (hs : NoSl b) : PE X (.Subscript a b pos) (rdE X.K X.mg T W (s2 dKget f1 f2)) := (pe_dget hu ha hb hs).imp fun σ H Q h => two_help ru_kget σ H Q h
theorem rs_kput {v o i : Expr} {fv fo fi : SEx} {pos' : Pos} (hu : X.A.units + 1 < cLine) (hv : PE X v (rdE X.K X.mg T W fv)) (ho : PE X o (rdE X.K X.mg T W fo)) (hi : PE X i (rdE X.K X.mg T W fi)) (hs : swapsWith v (some (.Subscript o i pos')) pos.line X.env = pure false := by rfl) : PS X (.Assign [.Subscript o i pos'] v pos) (rdS X.K X.mg T W (sKput fv fo fi)) := (ps_dput hu ho hi hv hs).imp fun D σ H ⟨w, s, m, R, S, t⟩ => by
  refine ⟨w, s, m, R, S, (SThen.ofS t S).mono fun d m1 w1 H1 t1 R1 q v hv => ?_⟩
  have S1 := S.mono t1.gr
  refine ⟨w1, s, m1, R1, S1, (SThen.ofS q S1).mono fun x m2 w2 H2 t2 R2 q u hu => ?_⟩
  have S2 := S1.mono t2.gr
  refine ⟨w2, s, m2, R2, S2, (SThen.ofS q S2).mono fun j m3 w3 H3 t3 R3 q z hz => ?_⟩
  cases e : dKput x j d m3 with
  | none => rw [e] at q; exact q.elim
  | some m4 =>
    rw [e] at q
    unfold dKput at e
    split at e
    · rename_i i kvs k e1 e2
      split at e
      · rename_i hl
        cases e
        obtain ⟨a, vs, rfl, f1, f2, r, hH⟩ := dik_at R3 (hu.mono t3.gr) e1
        obtain rfl := key_at hz e2
        have hd := (hv.mono t2.gr).mono t3.gr
        obtain ⟨R4, t4⟩ := R3.write (u := .dik (putG kvs k d)) (o := .dK (putK vs k v)) f1 f2 rfl rfl ⟨_, upd_same, r.put k hd⟩
        exact ⟨a, _, rfl, .k hH (by rw [r.length, sizeLine_eq]; omega), q w3 _ σ t4 R4 (S2.mono t3.gr)⟩
      · cases e
    · cases e
end
section
variable {K : PySem.W.Frag} {T : Tb} {w w0 w' : Wd} {m m0 m' : Mu} {H H0 H' : Hp}
/-- a thing of ours that stands in the heap is told from now on: it may change -/
theorem Rel.adoptO (R : Rel K T w m H) {p : Addr} {u : MO} (ul : u.live = true) (h : ∀ w', Gr w w' → MOk K w' H p u) (hg : w.g p = none) (hl : ¬ Live w m p) : Rel K T ⟨w.g, w.r ++ [p]⟩ (m ++ [u]) H := by
  have G : Gr w ⟨w.g, w.r ++ [p]⟩ := ⟨Same.refl _, [p], rfl⟩
  have len := R.len
  have cs : ∀ (k : Nat) (o : MO) (a : Addr), (m ++ [u])[k]? = some o → (w.r ++ [p])[k]? = some a → (m[k]? = some o ∧ w.r[k]? = some a) ∨ (k = m.length ∧ o = u ∧ a = p) := fun k o a e f => by
    by_cases hk : k < m.length
    · rw [List.getElem?_append_left hk] at e
      rw [List.getElem?_append_left (by omega)] at f
      exact .inl ⟨e, f⟩
    · rw [List.getElem?_append_right (by omega)] at e
      have hk' := (List.getElem?_eq_some_iff.mp e).1
      have e0 : k = m.length := by simp at hk'; omega
      subst e0
      simp at e
      rw [← len] at f
      simp at f
      exact .inr ⟨rfl, e.symm, f.symm⟩
  refine ⟨R.sub, by simp [len], fun k o a e1 e2 e3 => ?_, fun j k o v a e1 e2 e3 e4 e5 e6 => ?_, R.tab, R.nt, R.tk.mono G⟩
  · rcases cs k o a e1 e2 with ⟨f1, f2⟩ | ⟨rfl, rfl, rfl⟩
    · obtain ⟨q1, q2⟩ := R.obj k o a f1 f2 e3
      exact ⟨q1, q2.same G fun z hz _ => hz⟩
    · exact ⟨hg, h _ G⟩
  · rcases cs j o a e1 e5 with ⟨f1, f2⟩ | ⟨rfl, rfl, rfl⟩
    · rcases cs k v a e2 e6 with ⟨f3, f4⟩ | ⟨rfl, rfl, rfl⟩
      · exact R.inj j k o v a f1 f3 e3 e4 f2 f4
      · exact absurd ⟨j, o, f2, f1, e3⟩ hl
    · rcases cs k v a e2 e6 with ⟨f3, f4⟩ | ⟨rfl, _, _⟩
      · exact absurd ⟨k, v, f4, f3, e4⟩ hl
      · rfl
theorem Tr.adoptO (t : Tr w0 m0 H0 w m H) (len : w.r.length = m.length) {p : Addr} {u : MO} (h0 : H0 p = none) : Tr w0 m0 H0 ⟨w.g, w.r ++ [p]⟩ (m ++ [u]) H := ⟨t.gr.trans ⟨Same.refl _, [p], rfl⟩, t.fr, fun a l => by
    obtain ⟨k, o, e1, e2, e3⟩ := l
    have e1 : (w.r ++ [p])[k]? = some a := e1
    by_cases hk : k < m.length
    · rw [List.getElem?_append_left hk] at e2
      rw [List.getElem?_append_left (by omega)] at e1
      exact t.li a ⟨k, o, e1, e2, e3⟩
    · rw [List.getElem?_append_right (by omega)] at e1
      have hk' := (List.getElem?_eq_some_iff.mp e1).1
      have e0 : k = w.r.length := by simp at hk'; omega
      subst e0
      simp at e1
      subst e1
      exact .inr (.no h0), t.gn⟩
end
section
variable {X : Cx} {T : Tb} {W : WX} {pos : Pos}
theorem re_dis1 {a b : Expr} {f1 f2 : SEx} (ha : PE X a (rdE X.K X.mg T W f1)) (hb : PE X b (rdE X.K X.mg T W f2)) : PE X (.Dict [some a] [b] pos) (rdE X.K X.mg T W (sDis1 f1 f2)) := by
  refine (pe_disp (pps_cons ha hb pps_nil) rfl rfl (by simp) (by simp)).imp fun σ H Q ⟨w, s, m, R, S, t⟩ p hp => ?_
  obtain ⟨R0, t0⟩ := R.fresh (u := .dik []) (o := .dK []) hp rfl fun w' g => ⟨[], upd_same, .nil⟩
  have t1 := Then.from_ t t0
  refine ⟨_, s, m ++ [.dik []], R0, S.mono t0.gr, (Then.bind t1).mono fun y m1 w1 H1 t1 R1 q u hu => ?_⟩
  refine ⟨w1, s, m1, R1, (S.mono t0.gr).mono t1.gr, (Then.bind q).mono fun v m2 w2 H2 t2 R2 q z hz => ?_⟩
  have hr : w2.r[m.length]? = some p := (t1.gr.trans t2.gr).get (show (w.r ++ [p])[m.length]? = some p by rw [← R.len]; simp)
  split at q
  · rename_i k e1 e2
    obtain ⟨hg, vs, hv, r⟩ := R2.obj _ _ p e2 hr rfl
    cases r
    have ek := key_at hu e1
    refine ⟨hv, [(k, z)], by rw [ek]; rfl, by simp, ?_⟩
    obtain ⟨R4, t4⟩ := R2.write (u := .dik [(k, v)]) (o := .dK (mergeK [] [(k, z)])) e2 hr rfl rfl ⟨_, upd_same, .cons hz .nil⟩
    exact q _ _ t4 R4 _ (.ref hr)
  · exact q.elim
/-! ### any -/
def dAny (xs : List D) (m : Mu) : Res D := match xs with
  | [x] => (match seqOf m x with
    | some (false, ds) => (match blsOf ds with
      | some l => .ok (.bl (l.any id)) m
      | none => .stuck)
    | _ => .stuck)
  | _ => .stuck
theorem ru_any : RuB X T W (rAny X.K) dAny := fun w m H σ xs us Q R hu t => by
  unfold dAny at t
  split at t
  · split at t
    · rename_i ds e
      split at t
      · rename_i l e1
        cases hu with
        | cons h1 hu =>
          cases hu
          obtain ⟨a, vs, rfl, r, hq⟩ := seq_at R h1 e
          obtain ⟨e2, _⟩ := bls_at r e1
          rcases hq with ⟨_, hq⟩ | ⟨z, _⟩
          · exact ⟨a, l, rfl, by rw [← e2]; exact hq, t.now R _ (.bl _)⟩
          · cases z
      · exact t.elim
    · exact t.elim
  · exact t.elim
end
end Rx
set_option Elab.async false
set_option linter.all false
set_option maxRecDepth 100000
set_option maxHeartbeats 1000000
namespace Rx
open PySem PySem.Spec PyProof.Rows L2
/-! ### comprehensions of two clauses -/
def lc2L (g : STg) (tt : SBl) (src1 : SAr) (g1 : STg) (tt1 : SBl) (el : SEx) (own1 : List Nat) (s : Sd) : List D → Mu → Res (List D)
  | [], m => .ok [] m
  | d :: ds, m => match g d s with
    | none => .stuck
    | some s1 => match tt s1 m with
      | .ok true m1 => (match src1 s1 m1 with
        | .ok es m2 => (match lcL g1 tt1 el (wipeD s1 own1) es m2 with
          | .ok ys m3 => (match lc2L g tt src1 g1 tt1 el own1 s ds m3 with
            | .ok zs m4 => .ok (ys ++ zs) m4
            | _ => .stuck)
          | _ => .stuck)
        | _ => .stuck)
      | .ok false m1 => lc2L g tt src1 g1 tt1 el own1 s ds m1
      | _ => .stuck
def sLc2 (src : SAr) (g : STg) (tt : SBl) (src1 : SAr) (g1 : STg) (tt1 : SBl) (el : SEx) (own own1 : List Nat) : SEx := fun s m => (src s m).bind fun ds m1 => match lc2L g tt src1 g1 tt1 el own1 (wipeD s own) ds m1 with
  | .ok ys m2 => if ys.length ≤ 1000000 then .ok (.lst ys) m2 else .stuck
  | _ => .stuck
def sLc2N (src : SAr) (g : STg) (tt : SBl) (src1 : SAr) (g1 : STg) (tt1 : SBl) (el : SEx) (own own1 : List Nat) : SEx := fun s m => (src s m).bind fun ds m1 => match lc2L g tt src1 g1 tt1 el own1 (wipeD s own) ds m1 with
  | .ok ys m2 => if ys.length ≤ 1000000 then .ok (.ref m2.length) (m2 ++ [.lst ys]) else .stuck
  | _ => .stuck
section
variable {X : Cx} {T : Tb} {W : WX}
/-- a list of ours that is not told stands through a step -/
theorem stillL {p : Addr} {us : List V} {w w' : Wd} {m m' : Mu} {H H' : Hp} (t : Tr w m H w' m' H') (h1 : H p = some (.lst us)) (h2 : w.g p = none) (h3 : ¬ Live w m p) : H' p = some (.lst us) ∧ w'.g p = none ∧ ¬ Live w' m' p := by
  refine ⟨t.fr p _ h1 h3 (fun ps z => by cases z), ?_, fun l => ?_⟩
  · cases e : w'.g p with
    | none => rfl
    | some o =>
      rcases t.gn p o e with e | e | e
      · rw [h2] at e; cases e
      · exact absurd rfl (e _ h1 _)
      · exact absurd e h3
  · rcases t.li p l with l | l
    · exact h3 l
    · obtain ⟨ps, z⟩ := l _ h1; cases z
theorem lc2_walk {g g1 : STg} {tt tt1 : SBl} {src1 : SAr} {el : SEx} {vs vs1 : List Nat} {σ : L2.St} {Q : VK} {ds ys : List D} {s : Sd} {m0 mE : Mu} {w0 : Wd} {H0 : Hp} (R0 : Rel X.K T w0 m0 H0) (S0 : Slots X.K w0 σ s) (hl : ys.length ≤ 1000000)
    (e0 : lc2L g tt src1 g1 tt1 el vs1 (wipeD s vs) ds m0 = .ok ys mE) {J : It} (hJ : ItOk X.K T J w0 ds)
    (q : ∀ w H (p : Addr) us, Tr w0 m0 H0 w mE H → Rel X.K T w mE H → H0 p = none → H p = some (.lst us) → DatL X.K w us ys → w.g p = none → ¬ Live w mE p → Q (.ref p) H) :
    ∀ D, H0 D = none → ∃ W' : Nat → Nat → Hp → Prop, (∃ m, W' 0 m (upd H0 D (.lst []))) ∧ ∀ i m H, W' i m H →
      (J.stop i H ∧ Q (.ref D) H) ∨ (J.go i H ∧ ∃ Nx : Hp → Prop, (∀ H', Nx H' → ∃ m', m' < m ∧ W' (i + 1) m' H') ∧ ∀ x H', J.yld i H x H' → rdG X.K T (gOwn vs) g x (L2.wipe σ vs) H' fun σ2 H2 => L2.wipe σ2 vs = L2.wipe σ vs ∧ rdB X.K X.mg T W0 tt σ2 H2 fun b H3 =>
        if b = true then rdI X.K X.mg T W0 src1 σ2 H3 fun J1 H4 => ∃ W1 : Nat → Nat → Hp → Prop, (∃ m, W1 0 m H4) ∧ ∀ j k H, W1 j k H →
          (J1.stop j H ∧ Nx H) ∨ (J1.go j H ∧ ∃ Nx1 : Hp → Prop, (∀ H', Nx1 H' → ∃ k', k' < k ∧ W1 (j + 1) k' H') ∧ ∀ x H', J1.yld j H x H' → rdG X.K T (gOwn vs1) g1 x (L2.wipe σ2 vs1) H' fun σ3 H5 => L2.wipe σ3 vs1 = L2.wipe σ2 vs1 ∧ rdB X.K X.mg T W0 tt1 σ3 H5 fun b H6 =>
            if b = true then rdE X.K X.mg T W0 el σ3 H6 fun y H7 => ∃ acc, H7 D = some (.lst acc) ∧ acc.length < sizeLine ∧ Nx1 (upd H7 D (.lst (acc ++ [y]))) else Nx1 H6)
        else Nx H3) := by
  intro D hD
  have gD : w0.g D = none := by
    cases e : w0.g D with
    | none => rfl
    | some u => rw [R0.sub D u e] at hD; cases hD
  have lD : ¬ Live w0 m0 D := fun l => by
    obtain ⟨o, ho, _⟩ := R0.live_ne l
    rw [hD] at ho; cases ho
  let B : Nat → Hp → Prop := fun i H => ∃ w m acc us rest, Tr w0 m0 H0 w m H ∧ Rel X.K T w m H ∧ H D = some (.lst us) ∧ DatL X.K w us acc ∧ w.g D = none ∧ ¬ Live w m D ∧ lc2L g tt src1 g1 tt1 el vs1 (wipeD s vs) (ds.drop i) m = .ok rest mE ∧ acc ++ rest = ys
  refine ⟨fun i n H => i + n = ds.length ∧ B i H, ⟨ds.length, by omega, w0, m0, [], [], ys, (Tr.refl _ _ _).poke hD, R0.poke gD lD (fun ps z => by rw [hD] at z; cases z) (fun q z => by rw [hD] at z; cases z), upd_same, .nil, gD, lD, by simpa using e0, rfl⟩, ?_⟩
  rintro i n H ⟨hn, w, m, acc, us, rest, t, R, hH, dl, hg, hl', e, ey⟩
  by_cases hi : i < ds.length
  · right
    have ei : ds[i]? = some ds[i] := List.getElem?_eq_getElem hi
    have ed : ds.drop i = ds[i] :: ds.drop (i + 1) := List.drop_eq_getElem_cons hi
    obtain ⟨go, yl⟩ := hJ.go w m H i ds[i] t.gr R ei
    refine ⟨go, fun H' => i + 1 + (n - 1) = ds.length ∧ B (i + 1) H', fun H' h => ⟨n - 1, by omega, h⟩, fun x H' hy => ?_⟩
    obtain ⟨w2, R2, t2, hx⟩ := yl x H' hy
    obtain ⟨d1, d2, d3⟩ := stillL t2 hH hg hl'
    rw [ed] at e
    unfold lc2L at e
    refine ⟨w2, wipeD s vs, m, ds[i], R2, (S0.mono (t.gr.trans t2.gr)).wipe vs, hx, ?_⟩
    cases e1 : g ds[i] (wipeD s vs) with
    | none => rw [e1] at e; cases e
    | some s1 =>
      rw [e1] at e
      simp only at e ⊢
      intro σ2 S2 p2
      refine ⟨by rw [p2]; exact wipe_wipe vs σ, w2, s1, m, R2, S2, ?_⟩
      revert e
      cases tt s1 m with
      | stuck => intro e; cases e
      | exc x m1 => intro e; cases e
      | ok b m1 =>
        intro e w3 H3 t3 R3
        obtain ⟨f1, f2, f3⟩ := stillL t3 d1 d2 d3
        cases b with
        | false =>
          rw [if_neg Bool.false_ne_true]
          exact ⟨by omega, w3, m1, acc, us, rest, t.trans (t2.trans t3), R3, f1, (dl.mono t2.gr).mono t3.gr, f2, f3, e, ey⟩
        | true =>
          rw [if_pos rfl]
          refine ⟨w3, s1, m1, R3, S2.mono t3.gr, ?_⟩
          revert e
          dsimp only
          cases src1 s1 m1 with
          | stuck => intro e; cases e
          | exc x m2 => intro e; cases e
          | ok es m2 =>
            dsimp only
            intro e w4 H4 t4 R4 J1 hJ1
            obtain ⟨g1_, g2_, g3_⟩ := stillL t4 f1 f2 f3
            have S4 : Slots X.K w4 σ2 s1 := (S2.mono t3.gr).mono t4.gr
            revert e
            cases e2 : lcL g1 tt1 el (wipeD s1 vs1) es m2 with
            | stuck => intro e; cases e
            | exc x m2 => intro e; cases e
            | ok ys1 m3 =>
              dsimp only
              cases e3 : lc2L g tt src1 g1 tt1 el vs1 (wipeD s vs) (ds.drop (i + 1)) m3 with
              | stuck => intro e; cases e
              | exc x m2 => intro e; cases e
              | ok zs m4 =>
                dsimp only
                intro e
                have em : m4 = mE := by cases e; rfl
                have er : rest = ys1 ++ zs := by cases e; rfl
                subst em
                have T4 := t.trans (t2.trans (t3.trans t4))
                -- the state of an inner turn
                let B1 : Nat → Hp → Prop := fun j H => ∃ w m acc1 us1 rest1, Gr w4 w ∧ Tr w0 m0 H0 w m H ∧ Rel X.K T w m H ∧ H D = some (.lst us1) ∧ DatL X.K w us1 acc1 ∧ w.g D = none ∧ ¬ Live w m D ∧ lcL g1 tt1 el (wipeD s1 vs1) (es.drop j) m = .ok rest1 m3 ∧ acc1 ++ rest1 = acc ++ ys1
                refine ⟨fun j k H => j + k = es.length ∧ B1 j H, ⟨es.length, by omega, w4, m2, acc, us, ys1, Gr.refl _, T4, R4, g1_, ((dl.mono t2.gr).mono t3.gr).mono t4.gr, g2_, g3_, by simpa using e2, rfl⟩, ?_⟩
                rintro j k Hj ⟨hk, wj, mj, acc1, us1, rest1, tj, Tj, Rj, hHj, dlj, hgj, hlj, ej, eyj⟩
                by_cases hje : j < es.length
                · right
                  have eij : es[j]? = some es[j] := List.getElem?_eq_getElem hje
                  have edj : es.drop j = es[j] :: es.drop (j + 1) := List.drop_eq_getElem_cons hje
                  obtain ⟨goj, ylj⟩ := hJ1.go wj mj Hj j es[j] tj Rj eij
                  refine ⟨goj, fun H' => j + 1 + (k - 1) = es.length ∧ B1 (j + 1) H', fun H' h => ⟨k - 1, by omega, h⟩, fun x H' hy => ?_⟩
                  obtain ⟨w5, R5, t5, hx5⟩ := ylj x H' hy
                  obtain ⟨k1, k2, k3⟩ := stillL t5 hHj hgj hlj
                  rw [edj] at ej
                  unfold lcL at ej
                  refine ⟨w5, wipeD s1 vs1, mj, es[j], R5, (S4.mono (tj.trans t5.gr)).wipe vs1, hx5, ?_⟩
                  cases e4 : g1 es[j] (wipeD s1 vs1) with
                  | none => rw [e4] at ej; cases ej
                  | some s5 =>
                    rw [e4] at ej
                    simp only at ej ⊢
                    intro σ3 S3 p3
                    refine ⟨by rw [p3]; exact wipe_wipe vs1 σ2, w5, s5, mj, R5, S3, ?_⟩
                    revert ej
                    cases tt1 s5 mj with
                    | stuck => intro e; cases e
                    | exc x m1 => intro e; cases e
                    | ok b m6 =>
                      intro ej w6 H6 t6 R6
                      obtain ⟨l1, l2, l3⟩ := stillL t6 k1 k2 k3
                      cases b with
                      | false =>
                        rw [if_neg Bool.false_ne_true]
                        exact ⟨by omega, w6, m6, acc1, us1, rest1, tj.trans (t5.gr.trans t6.gr), Tj.trans (t5.trans t6), R6, l1, (dlj.mono t5.gr).mono t6.gr, l2, l3, ej, eyj⟩
                      | true =>
                        rw [if_pos rfl]
                        refine ⟨w6, s5, m6, R6, S3.mono t6.gr, ?_⟩
                        revert ej
                        dsimp only
                        cases el s5 m6 with
                        | stuck => intro e; cases e
                        | exc x m2 => intro e; cases e
                        | ok y m7 =>
                          dsimp only
                          intro ej w7 H7 t7 R7 v hv
                          obtain ⟨o1, o2, o3⟩ := stillL t7 l1 l2 l3
                          revert ej
                          cases e5 : lcL g1 tt1 el (wipeD s1 vs1) (es.drop (j + 1)) m7 with
                          | stuck => intro e; cases e
                          | exc x m2 => intro e; cases e
                          | ok ys' m8 =>
                            intro ej
                            have em8 : m8 = m3 := by cases ej; rfl
                            have er1 : rest1 = y :: ys' := by cases ej; rfl
                            subst em8
                            have hlen : acc1.length + 1 ≤ 1000000 := by
                              have h1 := congrArg List.length ey
                              have h2 := congrArg List.length eyj
                              rw [er] at h1
                              rw [er1] at h2
                              simp at h1 h2
                              omega
                            have dl8 : DatL X.K w7 us1 acc1 := ((dlj.mono t5.gr).mono t6.gr).mono t7.gr
                            refine ⟨us1, o1, by rw [sizeLine_eq, dl8.length]; omega, by omega, w7, m7, acc1 ++ [y], us1 ++ [v], ys', tj.trans (t5.gr.trans (t6.gr.trans t7.gr)), (Tj.trans (t5.trans (t6.trans t7))).poke hD, R7.poke o2 o3 (fun ps z => by rw [o1] at z; cases z) (fun q z => by rw [o1] at z; unfold LamX.CodeO at z; cases z), upd_same, dl8.append (.cons hv .nil), o2, o3, e5, ?_⟩
                            rw [← eyj, er1]
                            simp
                · left
                  have edj : es.drop j = [] := List.drop_eq_nil_of_le (by omega)
                  rw [edj] at ej
                  unfold lcL at ej
                  have er1 : rest1 = [] := by cases ej; rfl
                  have em3 : mj = m3 := by cases ej; rfl
                  subst em3
                  rw [er1, List.append_nil] at eyj
                  refine ⟨hJ1.stop wj mj Hj j tj Rj (by omega), by omega, wj, mj, acc1, us1, zs, Tj, Rj, hHj, dlj, hgj, hlj, e3, ?_⟩
                  rw [eyj, ← ey, er, List.append_assoc]
  · left
    have ed : ds.drop i = [] := List.drop_eq_nil_of_le (by omega)
    rw [ed] at e
    unfold lc2L at e
    cases e
    rw [List.append_nil] at ey
    subst ey
    exact ⟨hJ.stop w _ H i t.gr R (by omega), q w H D us t R hD hH dl hg hl'⟩
theorem rd_lc2 {src src1 : SAr} {g g1 : STg} {tt tt1 : SBl} {el : SEx} {vs vs1 : List Nat} (σ : L2.St) (H : Hp) (Q : VK) (h : rdE X.K X.mg T W (sLc2 src g tt src1 g1 tt1 el vs vs1) σ H Q) :
    tLc2 (rdI X.K X.mg T W src) (rdG X.K T (gOwn vs) g) (rdB X.K X.mg T W0 tt) (rdI X.K X.mg T W0 src1) (rdG X.K T (gOwn vs1) g1) (rdB X.K X.mg T W0 tt1) (rdE X.K X.mg T W0 el) vs vs1 σ H Q := by
  obtain ⟨w, s, m, R, S, t⟩ := h
  refine ⟨w, s, m, R, S, (Then.bind t).mono fun ds m0 w0 H0 t0 R0 q J hJ => ?_⟩
  split at q
  · rename_i ys mE e0
    split at q
    · rename_i hl
      exact lc2_walk R0 (S.mono t0.gr) hl e0 hJ fun w1 H1 p us t1 R1 h1 h2 h3 h4 h5 => by
        obtain ⟨R2, G⟩ := R1.adopt h2 h4 h5
        exact q _ _ (t1.adopt G h1) R2 _ (.lst (show upd w1.g p _ p = _ from upd_same) (h3.mono G))
    · exact q.elim
  · exact q.elim
theorem rd_lc2N {src src1 : SAr} {g g1 : STg} {tt tt1 : SBl} {el : SEx} {vs vs1 : List Nat} (σ : L2.St) (H : Hp) (Q : VK) (h : rdE X.K X.mg T W (sLc2N src g tt src1 g1 tt1 el vs vs1) σ H Q) :
    tLc2 (rdI X.K X.mg T W src) (rdG X.K T (gOwn vs) g) (rdB X.K X.mg T W0 tt) (rdI X.K X.mg T W0 src1) (rdG X.K T (gOwn vs1) g1) (rdB X.K X.mg T W0 tt1) (rdE X.K X.mg T W0 el) vs vs1 σ H Q := by
  obtain ⟨w, s, m, R, S, t⟩ := h
  refine ⟨w, s, m, R, S, (Then.bind t).mono fun ds m0 w0 H0 t0 R0 q J hJ => ?_⟩
  split at q
  · rename_i ys mE e0
    split at q
    · rename_i hl
      exact lc2_walk R0 (S.mono t0.gr) hl e0 hJ fun w1 H1 p us t1 R1 h1 h2 h3 h4 h5 =>
        q _ _ (t1.adoptN R1.len h1) (R1.adoptN h2 h3 h4 h5) _ (.ref (by show (w1.r ++ [p])[mE.length]? = some p; rw [← R1.len]; simp))
    · exact q.elim
  · exact q.elim
/-! ### what was made on the way is forgotten -/
def trimB (n : Nat) (r : Res Bool) : Res Bool := match r with
  | .ok d m => if (m.take n).all (MO.undr n) = true ∧ n ≤ m.length then .ok d (m.take n) else .stuck
  | _ => .stuck
def bTrim (f : SBl) : SBl := fun s m => trimB m.length (f s m)
theorem rt_trim {e : Expr} {f : SBl} (h : PT X e (rdB X.K X.mg T W f)) : PT X e (rdB X.K X.mg T W (bTrim f)) := h.imp fun σ H Q ⟨w, s, m, R, S, t⟩ => by
  refine ⟨w, s, m, R, S, ?_⟩
  unfold bTrim at t
  revert t
  cases f s m with
  | ok d m' =>
    intro t w' H' tr R'
    unfold trimB at t
    dsimp only at t
    split at t
    · rename_i hc
      exact t _ _ (tr.cut R.len) (R'.cut hc.1 R.pinned)
    · exact t.elim
  | exc x m' => exact fun t => t.elim
  | stuck => exact fun t => t.elim
/-- an expression whose value has none of the handles that it made -/
def eTrim (f : SEx) : SEx := fun s m => match f s m with
  | .ok d m' => if D.undr m.length d = true ∧ (m'.take m.length).all (MO.undr m.length) = true ∧ m.length ≤ m'.length then .ok d (m'.take m.length) else .stuck
  | _ => .stuck
theorem re_trim {e : Expr} {f : SEx} (h : PE X e (rdE X.K X.mg T W f)) : PE X e (rdE X.K X.mg T W (eTrim f)) := h.imp fun σ H Q ⟨w, s, m, R, S, t⟩ => by
  refine ⟨w, s, m, R, S, ?_⟩
  unfold eTrim at t
  revert t
  cases f s m with
  | ok d m' =>
    intro t w' H' tr R' v hv
    dsimp only at t
    split at t
    · rename_i hc
      exact t _ _ (tr.cut R.len) (R'.cut hc.2.1 R.pinned) v (hv.cut hc.1)
    · exact t.elim
  | exc x m' => exact fun t => t.elim
  | stuck => exact fun t => t.elim
/-- a statement behind which no slot has a handle that it made -/
def sdUndr (n : Nat) (s : Sd) : Bool := s.all fun o => match o with
  | none => true
  | some d => D.undr n d
def stTrim (f : SSt) : SSt := fun s m => match f s m with
  | .nx s' m' => if sdUndr m.length s' = true ∧ (m'.take m.length).all (MO.undr m.length) = true ∧ m.length ≤ m'.length then .nx s' (m'.take m.length) else .stuck
  | .ret d m' => if D.undr m.length d = true ∧ (m'.take m.length).all (MO.undr m.length) = true ∧ m.length ≤ m'.length then .ret d (m'.take m.length) else .stuck
  | _ => .stuck
theorem Slots.cut {K : PySem.W.Frag} {w : Wd} {σ : L2.St} {s : Sd} {n : Nat} (h : Slots K w σ s) (e : sdUndr n s = true) : Slots K ⟨w.g, w.r.take n⟩ σ s := ⟨h.1, fun i d hi => by
  obtain ⟨v, e1, e2⟩ := h.2 i d hi
  exact ⟨v, e1, e2.cut (List.all_eq_true.mp e _ (List.mem_of_getElem? hi))⟩⟩
theorem rs_trim {e : Stmt} {f : SSt} (h : PS X e (rdS X.K X.mg T W f)) : PS X e (rdS X.K X.mg T W (stTrim f)) := h.imp fun D σ H ⟨w, s, m, R, S, t⟩ => by
  refine ⟨w, s, m, R, S, ?_⟩
  unfold stTrim at t
  revert t
  cases f s m with
  | nx s' m' =>
    intro t w' H' σ' tr R' S'
    dsimp only at t
    split at t
    · rename_i hc
      exact t _ _ σ' (tr.cut R.len) (R'.cut hc.2.1 R.pinned) (S'.cut hc.1)
    · exact t.elim
  | ret d m' =>
    intro t w' H' v tr R' hv
    dsimp only at t
    split at t
    · rename_i hc
      exact t _ _ v (tr.cut R.len) (R'.cut hc.2.1 R.pinned) (hv.cut hc.1)
    · exact t.elim
  | bk _ _ => exact fun t => t.elim
  | ct _ _ => exact fun t => t.elim
  | exc x _ m' => exact fun t => t.elim
  | stuck => exact fun t => t.elim
theorem rss_trim {e : List Stmt} {f : SSt} (h : PSs X e (rdS X.K X.mg T W f)) : PSs X e (rdS X.K X.mg T W (stTrim f)) := h.imp fun D σ H ⟨w, s, m, R, S, t⟩ => by
  refine ⟨w, s, m, R, S, ?_⟩
  unfold stTrim at t
  revert t
  cases f s m with
  | nx s' m' =>
    intro t w' H' σ' tr R' S'
    dsimp only at t
    split at t
    · rename_i hc
      exact t _ _ σ' (tr.cut R.len) (R'.cut hc.2.1 R.pinned) (S'.cut hc.1)
    · exact t.elim
  | ret d m' =>
    intro t w' H' v tr R' hv
    dsimp only at t
    split at t
    · rename_i hc
      exact t _ _ v (tr.cut R.len) (R'.cut hc.2.1 R.pinned) (hv.cut hc.1)
    · exact t.elim
  | bk _ _ => exact fun t => t.elim
  | ct _ _ => exact fun t => t.elim
  | exc x _ m' => exact fun t => t.elim
  | stuck => exact fun t => t.elim
end
end Rx
set_option Elab.async false
set_option linter.all false
set_option maxRecDepth 100000
set_option maxHeartbeats 4000000
namespace Rx
open PySem PySem.Spec PyProof.Rows L2
/-! ### a tuple times a small whole number -/
theorem tuple_mul1 (l : Addr) (items : Array Value) (n : Nat) (dd : Option Addr) (sl : Array (Option Value)) (x : Int) (u : Tok) (c0 : (decide (x < -(2 ^ 63)) || decide (x ≥ 2 ^ 63)) = false) (c1 : (items.isEmpty || x == 1) = true) :
    Meets (Builtin.«tuple.__mul__» ⟨[.ref l, .int x u], []⟩) (fun _ R s => s.heap.get? l = some { cls := .type "tuple", dict := dd, data := .seq items n, slots := sl } ∧ R (.ok (.ret (.ref l))) s) :=
  .of_wp fun prog w A R s h => by
    obtain ⟨hp, g, d, tk, os⟩ := s
    obtain ⟨hl, h⟩ := h
    have f1 := AutoSeq1.idx_int
    wp_walk using wpAny_loadPart' hl
    repeat (first
      | (refine wpAny_ite_false (decide_eq_false (by rw [c0]; exact Bool.false_ne_true)) ?_; wp_walk using wpAny_loadPart' hl)
      | (refine wpAny_ite_true (decide_eq_true c1) ?_; wp_walk using wpAny_loadPart' hl))
    exact ⟨_, rfl, h⟩
theorem tuple_mul0 (l : Addr) (items : Array Value) (n : Nat) (dd : Option Addr) (sl : Array (Option Value)) (x : Int) (u : Tok) (c0 : (decide (x < -(2 ^ 63)) || decide (x ≥ 2 ^ 63)) = false) (c1 : (items.isEmpty || x == 1) = false) (c2 : (decide (x ≤ 0) || items.isEmpty) = true) :
    Meets (Builtin.«tuple.__mul__» ⟨[.ref l, .int x u], []⟩) (fun _ R s => s.heap.get? l = some { cls := .type "tuple", dict := dd, data := .seq items n, slots := sl } ∧
      R (.ok (.ret (Value.ref s.heap.objs.size))) { s with heap := s.heap.push { cls := Value.type "tuple", data := Data.seq #[] }, toks := s.toks }) :=
  .of_wp fun prog w A R s h => by
    obtain ⟨hp, g, d, tk, os⟩ := s
    obtain ⟨hl, h⟩ := h
    have f1 := AutoSeq1.idx_int
    wp_walk using wpAny_loadPart' hl
    repeat (first
      | (refine wpAny_ite_false (decide_eq_false (by rw [c0]; exact Bool.false_ne_true)) ?_; wp_walk using wpAny_loadPart' hl)
      | (refine wpAny_ite_false (decide_eq_false (by rw [c1]; exact Bool.false_ne_true)) ?_; wp_walk using wpAny_loadPart' hl)
      | (refine wpAny_ite_true (decide_eq_true c2) ?_; wp_walk using wpAny_loadPart' hl))
    exact ⟨_, rfl, h⟩
def rMulT (K : PySem.W.Frag) : R2 := fun x y H Q => ∃ l k xs, x = .ref l ∧ y = .int k ∧ SqT K H l xs ∧ xs ≠ [] ∧ 0 ≤ k ∧ k ≤ 1000 ∧ xs.length ≤ 1000 ∧ (k = 1 → Q (.ref l) H) ∧ (k ≠ 1 → ∀ p, H p = none → Q (.ref p) (upd H p (.tup (List.replicate k.toNat xs).flatten)))
section
variable {X : Cx} {T : Tb} {W : WX} {pos : Pos}
theorem op_mulT : OpR X (binaryOp .Mult) (rMulT X.K) := by
  intro pins s σ H x y v u Q I rx ry h
  obtain ⟨l, k, xs, rfl, rfl, hT, hne, h1, h2, hz, q1, q⟩ := h
  by_cases hk : 2 ≤ k
  · exact op_repT pins s σ H _ _ v u Q I rx ry ⟨l, k, xs, rfl, rfl, hT, hne, hk, h2, hz, q (by omega)⟩
  cases rx
  obtain ⟨t, rfl⟩ := ry
  obtain ⟨its, r, ⟨⟨cls, dd, data, sl⟩, ho, hc, n, hd⟩, hs⟩ := I.tuple hT
  simp only at hc hd
  subst hc hd
  have hle : its.length = xs.length := r.length.symm
  have hn : its ≠ [] := fun e => hne (by
    rw [e] at hle
    exact List.eq_nil_of_length_eq_zero hle.symm)
  have hi : its.toArray.isEmpty = false := by
    cases its with
    | nil => exact absurd rfl hn
    | cons a b => rfl
  have c0 : (decide (k < -(2 ^ 63)) || decide (k ≥ 2 ^ 63)) = false := by
    rw [decide_eq_false (by omega), decide_eq_false (by omega)] <;> rfl
  by_cases e1 : k = 1
  · subst e1
    have c1 : (its.toArray.isEmpty || (1 : Int) == 1) = true := by rw [hi]; rfl
    refine wpAny_binaryOp_repeat_ref (T := "tuple") (U := "int") (by decide) ⟨_, ho, rfl⟩ (fun s' => typeIs_int s' 1 t) noFill_tuple_mul F.fills_int_mul F.slot_int_rmul repeat_tuple F.slot_int_index.lookup
      (call_meets F.slot_int_rmul (typeIs_int s 1 t) F.entry_int_rmul (F.args_int_rmul_2 _ _) (int_rmul_tuple 1 t l its.toArray n dd sl)
        ⟨ho, rfl, ⟨_, ho, rfl⟩, call_meets F.slot_tuple_mul ⟨_, ho, rfl⟩ F.entry_tuple_mul (F.args_tuple_mul_2 _ _) (tuple_mul1 l its.toArray n dd sl 1 t c0 c1) ⟨ho, ?_⟩⟩)
    exact ⟨.ref l, _, I, rfl, q1 rfl⟩
  · have e0 : k = 0 := by omega
    subst e0
    have c1 : (its.toArray.isEmpty || (0 : Int) == 1) = false := by rw [hi]; rfl
    have c2 : (decide ((0 : Int) ≤ 0) || its.toArray.isEmpty) = true := by rw [hi]; rfl
    refine wpAny_binaryOp_repeat_ref (T := "tuple") (U := "int") (by decide) ⟨_, ho, rfl⟩ (fun s' => typeIs_int s' 0 t) noFill_tuple_mul F.fills_int_mul F.slot_int_rmul repeat_tuple F.slot_int_index.lookup
      (call_meets F.slot_int_rmul (typeIs_int s 0 t) F.entry_int_rmul (F.args_int_rmul_2 _ _) (int_rmul_tuple 0 t l its.toArray n dd sl)
        ⟨ho, rfl, ⟨_, ho, rfl⟩, call_meets F.slot_tuple_mul ⟨_, ho, rfl⟩ F.entry_tuple_mul (F.args_tuple_mul_2 _ _) (tuple_mul0 l its.toArray n dd sl 0 t c0 c1 c2) ⟨ho, ?_⟩⟩)
    refine ⟨.ref s.heap.objs.size, _, I.laid (t' := s.toks) (o := .tup []) (fun b ob q => Heap.get?_push_of_some _ q) (Nat.le_refl _) ?_, rfl, q e1 _ (I.hok.fresh (Nat.le_refl _))⟩
    exact ⟨by decide, [], .nil, IsTup.new _ _⟩
def dMulT (x y : D) (m : Mu) : Res D := match x, y with
  | .tup a, .int k => if a ≠ [] ∧ 0 ≤ k ∧ k ≤ 1000 ∧ a.length ≤ 1000 then .ok (.tup (List.replicate k.toNat a).flatten) m else .stuck
  | _, _ => .stuck
theorem ru_mulT : Ru2 X T W (rMulT X.K) dMulT := fun w m H σ x y u v Q R hu hv t => by
  unfold dMulT at t
  split at t
  · rename_i a k
    split at t
    · rename_i hc
      cases hu with
      | tup h1 r1 =>
        cases hv
        refine ⟨_, _, _, rfl, rfl, .of (R.sub _ _ h1), fun e => hc.1 (by subst e; cases r1; rfl), hc.2.1, hc.2.2.1, by rw [r1.length]; exact hc.2.2.2, fun e => ?_, fun e p hp => fin_frozen R t hp fun w' g e3 => .tup e3 ((r1.rep _).mono g)⟩
        subst e
        have : (List.replicate (1 : Int).toNat a).flatten = a := by simp [show (1 : Int).toNat = 1 from rfl]
        rw [this] at t
        exact t.now R _ (.tup h1 r1)
    · exact t.elim
  · exact t.elim
/-! ### tuples of whole numbers in their order -/
def itsOf : List D → Option (List Int)
  | [] => some []
  | .int i :: ds => (itsOf ds).map (i :: ·)
  | _ :: _ => none
theorem itsOf_vals {K : PySem.W.Frag} {w : Wd} : ∀ {vs : List V} {ds : List D} {ns : List Int}, DatL K w vs ds → itsOf ds = some ns → vs = ns.map V.int
  | _, _, ns, .nil, e => by cases e; rfl
  | _, _, ns, .cons (d := d) h r, e => by
    cases d with
    | int i =>
      simp only [itsOf, Option.map_eq_some_iff] at e
      obtain ⟨ms, e1, rfl⟩ := e
      cases h
      rw [itsOf_vals r e1]; rfl
    | _ => cases e
def dLtT (x y : D) (m : Mu) : Res D := match x, y with
  | .tup a, .tup b => (match itsOf a, itsOf b with
    | some a, some b => .ok (.bl (HT.lexLt a b)) m
    | _, _ => .stuck)
  | _, _ => .stuck
theorem ru_ltT : Ru2 X T W (rLtT X.K) dLtT := fun w m H σ x y u v Q R hu hv t => by
  unfold dLtT at t
  split at t
  · rename_i a b
    split at t
    · rename_i ns ms e1 e2
      cases hu with
      | tup h1 r1 => cases hv with
        | tup h2 r2 =>
          have a1 := itsOf_vals r1 e1
          have a2 := itsOf_vals r2 e2
          subst a1 a2
          exact ⟨_, _, _, _, rfl, rfl, .of (R.sub _ _ h1), .of (R.sub _ _ h2), t.now R _ (.bl _)⟩
    · exact t.elim
  · exact t.elim
end
end Rx
set_option Elab.async false
set_option linter.all false
set_option maxRecDepth 100000
set_option maxHeartbeats 1000000
namespace Rx
open PySem PySem.Spec PyProof.Rows L2
/-! ### a list of lists that never changes from now on -/
def dFrz2 (x : D) (m : Mu) : Res D := match hOf m x with
  | some (_, ds) => (match frzAll m ds with
    | some (es, m1) => (match hOf m1 x with
      | some (k, _) => .ok (.lst es) (m1.set k .dead)
      | none => .stuck)
    | none => .stuck)
  | none => .stuck
def sFrz2 (f : SEx) : SEx := fun s m => (f s m).bind fun x m => dFrz2 x m
section
variable {K : PySem.W.Frag} {T : Tb} {H : Hp}
theorem frz_all : ∀ {ds es : List D} {vs : List V} {w : Wd} {m m1 : Mu}, Rel K T w m H → DatL K w vs ds → frzAll m ds = some (es, m1) → ∃ w1, Rel K T w1 m1 H ∧ Tr w m H w1 m1 H ∧ DatL K w1 vs es
  | [], es, vs, w, m, m1, R, r, e => by
    cases e
    cases r
    exact ⟨w, R, Tr.refl _ _ _, .nil⟩
  | d :: ds, es, vs, w, m, m1, R, r, e => by
    cases r with
    | cons hd r =>
      unfold frzAll at e
      split at e
      · rename_i k xs eh
        obtain ⟨a, us, rfl, rfl, f1, f2, _, hH⟩ := h_at R hd eh
        obtain ⟨w2, R2, t2, hd2⟩ := R.freeze f1 f2
        rw [Option.map_eq_some_iff] at e
        obtain ⟨⟨es', m'⟩, e1, e2⟩ := e
        cases e2
        obtain ⟨w3, R3, t3, r3⟩ := frz_all R2 (r.mono t2.gr) e1
        exact ⟨w3, R3, t2.trans t3, .cons (hd2.mono t3.gr) r3⟩
      · cases e
end
section
variable {X : Cx} {T : Tb} {W : WX} {pos : Pos}
theorem re_frz2 {e : Expr} {f : SEx} (h : PE X e (rdE X.K X.mg T W f)) : PE X e (rdE X.K X.mg T W (sFrz2 f)) := h.imp fun σ H Q ⟨w, s, m, R, S, t⟩ => by
  refine ⟨w, s, m, R, S, (Then.bind t).mono fun x m1 w1 H1 t1 R1 t u hu => ?_⟩
  unfold dFrz2 at t
  split at t
  · rename_i k ds e
    obtain ⟨a, vs, rfl, rfl, f1, f2, r, hH⟩ := h_at R1 hu e
    split at t
    · rename_i es m2 e2
      obtain ⟨w2, R2, t2, r2⟩ := frz_all R1 r e2
      split at t
      · rename_i k3 ds3 e3
        obtain ⟨a3, vs3, ea, ek, g1, g2, r3, hH3⟩ := h_at R2 (hu.mono t2.gr) e3
        cases ea; cases ek
        obtain ⟨w3, R3, t3, hd⟩ := R2.freeze g1 g2
        refine t _ _ (t2.trans t3) R3 _ ?_
        cases hd with
        | lst hl hr =>
          have e5 := R3.sub _ _ hl
          rw [hH] at e5
          cases e5
          exact .lst hl (r2.mono t3.gr)
      · exact t.elim
    · exact t.elim
  · exact t.elim
/-! ### sorted(d), d a dict of whole numbers -/
def intKeys : List (Key × D) → Option (List Int)
  | [] => some []
  | (.inl i, _) :: r => (intKeys r).map (i :: ·)
  | _ :: _ => none
theorem intKeys_ok : ∀ {kvs : List (Key × D)} {l : List Int}, intKeys kvs = some l → kvs.map (·.1) = l.map Sum.inl
  | [], l, e => by cases e; rfl
  | (.inl i, d) :: r, l, e => by
    unfold intKeys at e
    rw [Option.map_eq_some_iff] at e
    obtain ⟨l', e1, rfl⟩ := e
    rw [List.map_cons, List.map_cons, intKeys_ok e1]
  | (.inr i, d) :: r, l, e => by cases e
def sortI (l : List Int) : List Int := l.mergeSort fun a b => decide (a ≤ b)
def dSortK (xs : List D) (m : Mu) : Res D := match xs with
  | [x] => (match dikOf m x with
    | some (_, kvs) => (match intKeys kvs with
      | some l => if l.length < 64 then .ok (.lst ((sortI l).map .int)) m else .stuck
      | none => .stuck)
    | none => .stuck)
  | _ => .stuck
theorem KiL.keys {K : PySem.W.Frag} {w : Wd} : ∀ {vs : List (Key × V)} {kvs : List (Key × D)}, KiL K w vs kvs → vs.map (·.1) = kvs.map (·.1)
  | _, _, .nil => rfl
  | _, _, .cons _ r => by rw [List.map_cons, List.map_cons, r.keys]
theorem datL_iK {K : PySem.W.Frag} {w : Wd} : ∀ l : List Int, DatL K w (l.map V.int) (l.map D.int)
  | [] => .nil
  | a :: l => .cons (.int a) (datL_iK l)
theorem sortI_eq {l ys : List Int} (hp : ys.Perm l) (hs : ys.Pairwise (· ≤ ·)) : ys = sortI l := by
  have h1 : (sortI l).Pairwise (· ≤ ·) := by
    have := List.pairwise_mergeSort (le := fun a b : Int => decide (a ≤ b)) (fun a b c h1 h2 => by simp at *; omega) (fun a b => by simp; omega) l
    exact this.imp fun h => by simpa using h
  exact List.Perm.eq_of_pairwise (fun a b _ _ h1 h2 => Int.le_antisymm h1 h2) hs h1 (hp.trans (List.mergeSort_perm _ _).symm)
abbrev rSortK : List V → Hp → VK → Prop := fun xs H Q => ∃ (a : Addr) (kvs : List (Key × V)) (ks : List Int), xs = [.ref a] ∧ Rd H a (.dK kvs) ∧ kvs.map (·.1) = ks.map Sum.inl ∧ ks.length < 64 ∧
    ∀ (ys : List Int) (p : Addr), ys.Perm ks → ys.Pairwise (· ≤ ·) → H p = none → Q (.ref p) (upd H p (.lst (ys.map V.int)))
theorem ru_sortK : RuB X T W rSortK dSortK := fun w m H σ xs us Q R hu t => by
  unfold dSortK at t
  split at t
  · split at t
    · rename_i k kvs e
      split at t
      · rename_i l e1
        split at t
        · rename_i h64
          cases hu with
          | cons h1 hu =>
            cases hu
            obtain ⟨a, vs, rfl, f1, f2, r, hH⟩ := dik_at R h1 e
            refine ⟨a, vs, l, rfl, .inl hH, r.keys.trans (intKeys_ok e1), h64, fun ys p hp hs hn => ?_⟩
            have := sortI_eq hp hs
            subst this
            exact fin_frozen R t hn fun w' g e3 => .lst e3 (datL_iK _)
        · exact t.elim
      · exact t.elim
    · exact t.elim
  · exact t.elim
end
end Rx
set_option Elab.async false
set_option linter.all false
set_option maxRecDepth 100000
set_option maxHeartbeats 4000000
namespace Px
open PySem PySem.Spec PyProof.Rows L2 Rx
def b_is_number : SSt := (sRet (sAnd (s1 (dIsi [Ty.int]) (sVar 0)) (sAnd (sNot (s1 (dIsi [Ty.bool]) (sVar 0))) (sChain dLe dLe (sVar 1) (sVar 0) (sVar 2)))))
def f_is_number : List D → Mu → Res D := run 3 b_is_number
def b_are_numbers : SSt := (sSeq (sIf (bOr (bNot (sTst (s1 (dIsi [Ty.tuple]) (sVar 0)))) (sTst (s2 dNe (sB dLen (aCons (sVar 0) aNil)) (sB dLen (aCons (sVar 1) aNil))))) (sRet (sC (.bl false))) sNil) (sRet (sB dAll (aCons (sLc (iZp (aCons (sVar 0) (aCons (sVar 1) aNil))) (gT (gsCons (gN 2) (gsCons (gT (gsCons (gN 3) (gsCons (gN 4) gsNil))) gsNil))) bYes (sCall 3 f_is_number (aCons (sVar 2) (aCons (sVar 3) (aCons (sVar 4) aNil)))) [2, 3, 4]) aNil))))
def f_are_numbers : List D → Mu → Res D := run 5 b_are_numbers
def k_MOST_LIGHTS : D := (.int 16)
def k_LIGHT_BOUNDS : D := (.ktup [(.ktup [(.int (-999)), (.int 999)]), (.ktup [(.int (-999)), (.int 999)]), (.ktup [(.int 0), (.int 99)])])
def b_check_lights : SSt := (sSeq (sIf (bNot (sTst (s1 (dIsi [Ty.tuple]) (sVar 0)))) (sRaise1 "BadLights" "number" (aCons (sC (.int 0)) aNil)) sNil) (sSeq (sSet 1 sDic) (sFor (iEn (aCons (sVar 0) aNil)) (gT (gsCons (gN 2) (gsCons (gN 3) gsNil))) (sSeq (sIf (bOr (sTst (s2 dEq (sVar 2) (sC k_MOST_LIGHTS))) (bNot (sTst (sCall 2 f_are_numbers (aCons (sVar 3) (aCons (sC k_LIGHT_BOUNDS) aNil)))))) (sRaise1 "BadLights" "number" (aCons (sVar 2) aNil)) sNil) (sSeq (sSet 4 (sSl (sVar 3) oNo (oSo (sC (.int 2))))) (sSeq (sIf (sTst (s2 dDin (sVar 4) (sVar 1))) (sRaise1 "BadLights" "number" (aCons (sVar 2) aNil)) sNil) (sDput (sC (.bl true)) (sVar 1) (sVar 4))))))))
def f_check_lights : List D → Mu → Res D := runT 5 b_check_lights
def k_RULE_BOUNDS : D := (.ktup [(.ktup [(.int 0), (.int 200)]), (.ktup [(.int 0), (.int 99)]), (.ktup [(.int 0), (.int 99)])])
def b_check_rule : SSt := (sIf (bNot (sTst (sCall 2 f_are_numbers (aCons (sVar 0) (aCons (sC k_RULE_BOUNDS) aNil))))) (sRaise0 "BadRule" (aCons (sC (.str "a rule is a tuple (reach, dim, near)")) aNil)) sNil)
def f_check_rule : List D → Mu → Res D := run 1 b_check_rule
def k_SLIP_BOUNDS : D := (.ktup [(.ktup [(.int (-999)), (.int 999)]), (.ktup [(.int (-999)), (.int 999)])])
def b_check_slip : SSt := (sIf (bNot (sTst (sCall 2 f_are_numbers (aCons (sVar 0) (aCons (sC k_SLIP_BOUNDS) aNil))))) (sRaise0 "BadSlip" (aCons (sC (.str "a slip is a tuple (x, y)")) aNil)) sNil)
def f_check_slip : List D → Mu → Res D := run 1 b_check_slip
def k_FULL_WORTH : D := (.int 2000000)
def b_pair_worth : SSt := (sSeq (sAsg (sVar 2) (gT (gsCons (gN 7) (gsCons (gN 8) (gsCons (gN 9) gsNil))))) (sSeq (sSet 3 (s2 dSub (s2 dIx (sVar 0) (sC (.int 0))) (s2 dIx (sVar 1) (sC (.int 0))))) (sSeq (sSet 4 (s2 dSub (s2 dIx (sVar 0) (sC (.int 1))) (s2 dIx (sVar 1) (sC (.int 1))))) (sSeq (sSet 5 (sB dAbs (aCons (s2 dSub (s2 dIx (sVar 0) (sC (.int 2))) (s2 dIx (sVar 1) (sC (.int 2)))) aNil))) (sSeq (sSet 6 (s2 dAdd (s2 dMul (sVar 3) (sVar 3)) (s2 dMul (sVar 4) (sVar 4)))) (sSeq (sIf (bOr (sTst (s2 dGt (sVar 6) (s2 dMul (sVar 7) (sVar 7)))) (sTst (s2 dGt (sVar 5) (sVar 8)))) (sRet (sC (.int 0))) sNil) (sRet (s2 dSub (s2 dSub (sC k_FULL_WORTH) (sVar 6)) (s2 dMul (sVar 9) (sVar 5))))))))))
def f_pair_worth : List D → Mu → Res D := run 10 b_pair_worth
def b_worth_table : SSt := (sSeq (sAsg (sVar 3) (gT (gsCons (gN 5) (gsCons (gN 6) gsNil)))) (sSeq (sSet 4 (sLc (iVal (sVar 1)) (gT (gsCons (gN 8) (gsCons (gN 9) (gsCons (gN 10) gsNil)))) bYes (sTup (aCons (s2 dAdd (sVar 8) (sVar 5)) (aCons (s2 dAdd (sVar 9) (sVar 6)) (aCons (sVar 10) aNil)))) [8, 9, 10])) (sRet (sLc (iVal (sVar 0)) (gN 7) bYes (sLc (iVal (sVar 4)) (gN 11) bYes (sCall 3 f_pair_worth (aCons (sVar 7) (aCons (sVar 11) (aCons (sVar 2) aNil)))) [11]) [7]))))
def f_worth_table : List D → Mu → Res D := run 12 b_worth_table
def b_asked_worths : SSt := (sSeq (sDo (sCall 1 f_check_lights (aCons (sVar 0) aNil))) (sSeq (sDo (sCall 1 f_check_lights (aCons (sVar 1) aNil))) (sSeq (sDo (sCall 1 f_check_rule (aCons (sVar 2) aNil))) (sSeq (sDo (sCall 1 f_check_slip (aCons (sVar 3) aNil))) (sRet (sCall 4 f_worth_table (aCons (sVar 0) (aCons (sVar 1) (aCons (sVar 2) (aCons (sVar 3) aNil))))))))))
def f_asked_worths : List D → Mu → Res D := run 4 b_asked_worths
def k_NO_WAY : D := (.int 200000000)
def b_shortest_ways : SSt := (sSeq (sSet 5 (s2 dMulN (sLst (aCons (sC k_NO_WAY) aNil)) (sB dLen (aCons (sVar 4) aNil)))) (sSeq (sSet 6 (s2 dMulN (sLst (aCons (sC .non) aNil)) (sB dLen (aCons (sVar 4) aNil)))) (sSeq (sSet 7 (sLRg true (sB dLen (aCons (sVar 4) aNil)))) (sSeq (sSet 8 (sNew aNil)) (sSeq (sSet 9 (sVar 0)) (sSeq (sSet 10 (sC .non)) (sSeq (sSet 11 (sC (.int 0))) (sSeq (sWhile 1000 (sTst (s2 dNotN (sVar 9) (sC .non))) (sSeq (sForH (sVar 7) (gN 12) (sSeq (sSet 13 (s2 dSub (s2 dAdd (s2 dAdd (sVar 11) (s2 dIx (sVar 2) (sVar 9))) (s2 dIx (sVar 3) (sVar 12))) (s2 dIx (s2 dIx (sVar 1) (sVar 9)) (sVar 12)))) (sIf (sTst (s2 dLt (sVar 13) (s2 dIx (sVar 5) (sVar 12)))) (sSeq (sPut (sVar 13) (sVar 5) (sVar 12)) (sPut (sVar 10) (sVar 6) (sVar 12))) sNil))) (sSeq (sAsg (sB dMinP (aCons (sLcH (sVar 7) (gN 12) bYes (sTup (aCons (s2 dIx (sVar 5) (sVar 12)) (aCons (sVar 12) aNil))) [12]) aNil)) (gT (gsCons (gN 11) (gsCons (gN 10) gsNil)))) (sSeq (sDo (sM1 dRem (sVar 7) (sVar 10))) (sSeq (sDo (sM1 dApp (sVar 8) (sVar 10))) (sSet 9 (s2 dIx (sVar 4) (sVar 10)))))))) (sRet (sTup (aCons (sVar 5) (aCons (sVar 6) (aCons (sVar 8) aNil)))))))))))))
def f_shortest_ways : List D → Mu → Res D := run 14 b_shortest_ways
def b_let_in : SSt := (sSeq (sAsg (sCall 5 f_shortest_ways (aCons (sVar 0) (aCons (sVar 1) (aCons (sVar 2) (aCons (sVar 3) (aCons (sVar 4) aNil)))))) (gT (gsCons (gN 7) (gsCons (gN 8) (gsCons (gN 9) gsNil))))) (sSeq (sSet 5 (s2 dIx (sVar 9) (s1 dNeg (sC (.int 1))))) (sSeq (sAug dSub (sVar 2) (sVar 0) (s2 dIx (sVar 7) (sVar 5))) (sSeq (sFor (iVal (sSl (sVar 9) oNo (oSo (s1 dNeg (sC (.int 1)))))) (gN 6) (sSeq (sSet 10 (s2 dSub (s2 dIx (sVar 7) (sVar 5)) (s2 dIx (sVar 7) (sVar 6)))) (sSeq (sAug dSub (sVar 2) (s2 dIx (sVar 4) (sVar 6)) (sVar 10)) (sAug dAddI (sVar 3) (sVar 6) (sVar 10))))) (sSeq (sSet 6 (sVar 5)) (sSeq (sWhile 1000 (sTst (s2 dNotN (s2 dIx (sVar 8) (sVar 6)) (sC .non))) (sSeq (sPut (s2 dIx (sVar 4) (s2 dIx (sVar 8) (sVar 6))) (sVar 4) (sVar 6)) (sSet 6 (s2 dIx (sVar 8) (sVar 6))))) (sPut (sVar 0) (sVar 4) (sVar 6))))))))
def f_let_in : List D → Mu → Res D := runT 11 b_let_in
def b_best_choice : SSt := (sSeq (sSet 2 (sB dMax2 (aCons (sVar 1) (aCons (sB dLen (aCons (sVar 0) aNil)) aNil)))) (sSeq (sSet 3 (sLc (iVal (sVar 0)) (gN 7) bYes (s2 dAdd (sVar 7) (s2 dMul (sLst (aCons (sC (.int 0)) aNil)) (s2 dSub (sVar 2) (sVar 1)))) [7])) (sSeq (sSet 4 (sLcN (iVal (sVar 3)) (gN 7) bYes (sB dMax1 (aCons (sVar 7) aNil)) [7])) (sSeq (sSet 5 (s2 dMulN (sLst (aCons (sC (.int 0)) aNil)) (sVar 2))) (sSeq (sSet 6 (s2 dMulN (sLst (aCons (sC .non) aNil)) (sVar 2))) (sSeq (sFor (iR1 (aCons (sB dLen (aCons (sVar 3) aNil)) aNil)) (gN 7) (sDo (sCall 5 f_let_in (aCons (sVar 7) (aCons (sVar 3) (aCons (sVar 4) (aCons (sVar 5) (aCons (sVar 6) aNil)))))))) (sSeq (sSet 8 (sLc (iR1 (aCons (sVar 1) aNil)) (gN 10) (sTst (s2 dNotN (s2 dIx (sVar 6) (sVar 10)) (sC .non))) (sVar 10) [10])) (sSeq (sSet 9 (sLc (iVal (sVar 8)) (gN 10) (sTst (s2 dGt (s2 dIx (s2 dIx (sVar 0) (s2 dIx (sVar 6) (sVar 10))) (sVar 10)) (sC (.int 0)))) (sTup (aCons (s2 dIx (sVar 6) (sVar 10)) (aCons (sVar 10) aNil))) [10])) (sRet (sTup (aCons (sB dSortP (aCons (sVar 9) aNil)) (aCons (sTup (aCons (sB dTuple (aCons (sVar 4) aNil)) (aCons (sB dTuple (aCons (sSl (sVar 5) oNo (oSo (sVar 1))) aNil)) aNil))) aNil))))))))))))
def f_best_choice : List D → Mu → Res D := runT 11 b_best_choice
def b_total_worth : SSt := (sRet (sB dSumA (aCons (sLc (iVal (sVar 1)) (gT (gsCons (gN 2) (gsCons (gN 3) gsNil))) bYes (s2 dIx (s2 dIx (sVar 0) (sVar 2)) (sVar 3)) [2, 3]) aNil)))
def f_total_worth : List D → Mu → Res D := run 4 b_total_worth
def b_total_cost : SSt := (sRet (s2 dSub (s2 dMul (sC k_FULL_WORTH) (sB dLen (aCons (sVar 1) aNil))) (sCall 2 f_total_worth (aCons (sVar 0) (aCons (sVar 1) aNil)))))
def f_total_cost : List D → Mu → Res D := run 2 b_total_cost
def b_pairing : SSt := (sSeq (sSet 4 (sCall 4 f_asked_worths (aCons (sVar 0) (aCons (sVar 1) (aCons (sVar 2) (aCons (sVar 3) aNil)))))) (sSeq (sAsg (sCall 2 f_best_choice (aCons (sVar 4) (aCons (sB dLen (aCons (sVar 1) aNil)) aNil))) (gT (gsCons (gN 5) (gsCons (gN 6) gsNil)))) (sRet (sTup (aCons (sB dTuple (aCons (sVar 5) aNil)) (aCons (sCall 2 f_total_cost (aCons (sVar 4) (aCons (sVar 5) aNil))) (aCons (sVar 6) aNil)))))))
def f_pairing : List D → Mu → Res D := run 7 b_pairing
def b__law_row : SSt := (sSeq (sSet 1 (sC (.int 7))) (sSeq (sFor (iVal (sVar 0)) (gN 2) (sSet 1 (s2 dMod (s2 dAdd (s2 dAdd (s2 dMul (sVar 1) (sC (.int 48271))) (sVar 2)) (sC (.int 11))) (sC (.int 2147483647))))) (sRet (sNew (aCons (sVar 0) (aCons (sC (.int 0)) (aCons (sC (.int 0)) (aCons (sVar 1) aNil))))))))
def f__law_row : List D → Mu → Res D := run 3 b__law_row
def b__law_taken : SSt := (sSeq (sIf (sTst (s2 dGt (s2 dIx (sVar 0) (sC (.int 2))) (sC (.int 0)))) (sSeq (sSet 2 (s2 dMod (s2 dIx (sVar 0) (sC (.int 2))) (sVar 1))) (sSeq (sPut (s2 dDiv (s2 dIx (sVar 0) (sC (.int 2))) (sVar 1)) (sVar 0) (sC (.int 2))) (sRet (sVar 2)))) sNil) (sSeq (sIf (sTst (s2 dLt (s2 dIx (sVar 0) (sC (.int 1))) (sB dLen (aCons (s2 dIx (sVar 0) (sC (.int 0))) aNil)))) (sSeq (sSet 3 (s2 dIx (s2 dIx (sVar 0) (sC (.int 0))) (s2 dIx (sVar 0) (sC (.int 1))))) (sSeq (sPut (s2 dAdd (s2 dIx (sVar 0) (sC (.int 1))) (sC (.int 1))) (sVar 0) (sC (.int 1))) (sSeq (sIf (sTst (s2 dGe (sVar 3) (s2 dPow (sC (.int 10)) (sC (.int 18))))) (sPut (s2 dDiv (sVar 3) (sVar 1)) (sVar 0) (sC (.int 2))) sNil) (sRet (s2 dMod (sVar 3) (sVar 1)))))) sNil) (sSeq (sPut (s2 dMod (s2 dAdd (s2 dMul (s2 dIx (sVar 0) (sC (.int 3))) (sC (.int 48271))) (sC (.int 12345))) (sC (.int 2147483647))) (sVar 0) (sC (.int 3))) (sRet (s2 dMod (s2 dDiv (s2 dIx (sVar 0) (sC (.int 3))) (sC (.int 1009))) (sVar 1))))))
def f__law_taken : List D → Mu → Res D := run 4 b__law_taken
def b__law_light : SSt := (sRet (sTup (aCons (s2 dSub (sCall 2 f__law_taken (aCons (sVar 0) (aCons (s2 dAdd (s2 dMul (sC (.int 2)) (sVar 1)) (sC (.int 1))) aNil))) (sVar 1)) (aCons (s2 dSub (sCall 2 f__law_taken (aCons (sVar 0) (aCons (s2 dAdd (s2 dMul (sC (.int 2)) (sVar 1)) (sC (.int 1))) aNil))) (sVar 1)) (aCons (sCall 2 f__law_taken (aCons (sVar 0) (aCons (sC (.int 4)) aNil))) aNil)))))
def f__law_light : List D → Mu → Res D := run 2 b__law_light
def b__law_lights : SSt := (sSeq (sPar 4 5 (aCons (sTup aNil) (aCons (sNew aNil) aNil))) (sSeq (sFor (iR1 (aCons (sCall 2 f__law_taken (aCons (sVar 0) (aCons (s2 dAdd (sVar 1) (sC (.int 1))) aNil))) aNil)) (gN 3) (sSeq (sSet 6 (sCall 2 f__law_light (aCons (sVar 0) (aCons (sVar 2) aNil)))) (sIf (sTst (s2 dNotIn (sSl (sVar 6) oNo (oSo (sC (.int 2)))) (sVar 5))) (sSeq (sSet 4 (s2 dAdd (sVar 4) (sTup (aCons (sVar 6) aNil)))) (sDo (sM1 dApp (sVar 5) (sSl (sVar 6) oNo (oSo (sC (.int 2))))))) sNil))) (sRet (sVar 4))))
def f__law_lights : List D → Mu → Res D := runT 7 b__law_lights
def b__law_rule : SSt := (sRet (sTup (aCons (s2 dIx (sLst (aCons (sC (.int 2)) (aCons (sC (.int 3)) (aCons (sC (.int 5)) (aCons (sC (.int 9)) (aCons (sC (.int 0)) aNil)))))) (sCall 2 f__law_taken (aCons (sVar 0) (aCons (sC (.int 5)) aNil)))) (aCons (s2 dIx (sLst (aCons (sC (.int 3)) (aCons (sC (.int 1)) (aCons (sC (.int 0)) (aCons (sC (.int 99)) aNil))))) (sCall 2 f__law_taken (aCons (sVar 0) (aCons (sC (.int 4)) aNil)))) (aCons (s2 dIx (sLst (aCons (sC (.int 0)) (aCons (sC (.int 1)) (aCons (sC (.int 3)) aNil)))) (sCall 2 f__law_taken (aCons (sVar 0) (aCons (sC (.int 3)) aNil)))) aNil)))))
def f__law_rule : List D → Mu → Res D := run 1 b__law_rule
def b__law_moved : SSt := (sRet (sB dTuple (aCons (sLc (iVal (sVar 0)) (gT (gsCons (gN 2) (gsCons (gN 3) (gsCons (gN 4) gsNil)))) bYes (sTup (aCons (s2 dAdd (sVar 2) (s2 dIx (sVar 1) (sC (.int 0)))) (aCons (s2 dAdd (sVar 3) (s2 dIx (sVar 1) (sC (.int 1)))) (aCons (sVar 4) aNil)))) [2, 3, 4]) aNil)))
def f__law_moved : List D → Mu → Res D := run 5 b__law_moved
def b__law_cost : SSt := (sSeq (sPar 4 5 (aCons (s2 dSub (s2 dIx (sVar 0) (sC (.int 0))) (s2 dIx (sVar 1) (sC (.int 0)))) (aCons (s2 dSub (s2 dIx (sVar 0) (sC (.int 1))) (s2 dIx (sVar 1) (sC (.int 1)))) aNil))) (sSeq (sSet 3 (sB dAbs (aCons (s2 dSub (s2 dIx (sVar 0) (sC (.int 2))) (s2 dIx (sVar 1) (sC (.int 2)))) aNil))) (sSeq (sIf (bOr (sTst (s2 dGt (s2 dAdd (s2 dMul (sVar 4) (sVar 4)) (s2 dMul (sVar 5) (sVar 5))) (s2 dMul (s2 dIx (sVar 2) (sC (.int 0))) (s2 dIx (sVar 2) (sC (.int 0)))))) (sTst (s2 dGt (sVar 3) (s2 dIx (sVar 2) (sC (.int 1)))))) (sRet (sC .non)) sNil) (sRet (s2 dAdd (s2 dAdd (s2 dMul (sVar 4) (sVar 4)) (s2 dMul (sVar 5) (sVar 5))) (s2 dMul (s2 dIx (sVar 2) (sC (.int 2))) (sVar 3)))))))
def f__law_cost : List D → Mu → Res D := run 6 b__law_cost
def b__law_choices : SSt := (sSeq (sSet 3 (sLst (aCons (sTup (aCons (sTup aNil) (aCons (sC (.int 0)) aNil))) aNil))) (sSeq (sFor (iR1 (aCons (sB dLen (aCons (sVar 0) aNil)) aNil)) (gN 4) (sSeq (sSet 5 (sB dListN (aCons (sVar 3) aNil))) (sSeq (sFor (iVal (sVar 3)) (gT (gsCons (gN 6) (gsCons (gN 7) gsNil))) (sSeq (sSet 8 (sLc (iVal (sVar 6)) (gT (gsCons (gN 11) (gsCons (gN 9) gsNil))) bYes (sVar 9) [11, 9])) (sFor (iR1 (aCons (sB dLen (aCons (sVar 1) aNil)) aNil)) (gN 9) (sSeq (sSet 10 (sCall 3 f__law_cost (aCons (s2 dIx (sVar 0) (sVar 4)) (aCons (s2 dIx (sVar 1) (sVar 9)) (aCons (sVar 2) aNil))))) (sIf (bAnd (sTst (s2 dNotN (sVar 10) (sC .non))) (sTst (s2 dNotIn (sVar 9) (sVar 8)))) (sDo (sM1 dApp (sVar 5) (sTup (aCons (s2 dAdd (sVar 6) (sTup (aCons (sTup (aCons (sVar 4) (aCons (sVar 9) aNil))) aNil))) (aCons (s2 dAdd (sVar 7) (sVar 10)) aNil))))) sNil))))) (sSet 3 (sFrz (sVar 5)))))) (sRet (sVar 3))))
def f__law_choices : List D → Mu → Res D := runT 12 b__law_choices
def b__law_best : SSt := (sSeq (sSet 3 (sCall 3 f__law_choices (aCons (sVar 0) (aCons (sVar 1) (aCons (sVar 2) aNil))))) (sSeq (sSet 4 (sB dMax1 (aCons (sLc (iVal (sVar 3)) (gT (gsCons (gN 6) (gsCons (gN 7) gsNil))) bYes (sB dLen (aCons (sVar 6) aNil)) [6, 7]) aNil))) (sSeq (sSet 5 (sB dMin1 (aCons (sLc (iVal (sVar 3)) (gT (gsCons (gN 6) (gsCons (gN 7) gsNil))) (sTst (s2 dEq (sB dLen (aCons (sVar 6) aNil)) (sVar 4))) (sVar 7) [6, 7]) aNil))) (sRet (sTup (aCons (sVar 4) (aCons (sVar 5) (aCons (sLc (iVal (sVar 3)) (gT (gsCons (gN 6) (gsCons (gN 7) gsNil))) (bAnd (sTst (s2 dEq (sB dLen (aCons (sVar 6) aNil)) (sVar 4))) (sTst (s2 dEq (sVar 7) (sVar 5)))) (sVar 6) [6, 7]) aNil))))))))
def f__law_best : List D → Mu → Res D := run 8 b__law_best
def b__law_alike (self_ : List D → Mu → Res D) : SSt := (sSeq (sIf (sTst (s1 (dIsi [Ty.tuple, Ty.list]) (sVar 1))) (sSeq (sIf (bOr (sTst (s2 dNe (s1 (dIsi [Ty.tuple]) (sVar 0)) (s1 (dIsi [Ty.tuple]) (sVar 1)))) (bNot (sTst (s1 (dIsi [Ty.tuple, Ty.list]) (sVar 0))))) (sRet (sC (.bl false))) sNil) (sSeq (sIf (sTst (s2 dNe (sB dLen (aCons (sVar 0) aNil)) (sB dLen (aCons (sVar 1) aNil)))) (sRet (sC (.bl false))) sNil) (sRet (s2 dEq (sLc (iR1 (aCons (sB dLen (aCons (sVar 1) aNil)) aNil)) (gN 3) (bNot (sTst (sCall 2 self_ (aCons (s2 dIx (sVar 0) (sVar 3)) (aCons (s2 dIx (sVar 1) (sVar 3)) aNil))))) (sVar 3) [3]) (sLst aNil))))) sNil) (sSeq (sIf (bOr (sTst (s2 dIsN (sVar 1) (sC .non))) (sTst (s2 dIsN (sVar 0) (sC .non)))) (sRet (sAnd (s2 dIsN (sVar 1) (sC .non)) (s2 dIsN (sVar 0) (sC .non)))) sNil) (sSeq (sSet 2 (s2 dEq (s1 (dIsi [Ty.str]) (sVar 1)) (s1 (dIsi [Ty.str]) (sVar 0)))) (sRet (sAnd (sVar 2) (sAnd (s2 dEq (s1 (dIsi [Ty.bool]) (sVar 1)) (s1 (dIsi [Ty.bool]) (sVar 0))) (s2 dEq (sVar 0) (sVar 1))))))))
def g__law_alike : Nat → List D → Mu → Res D
  | 0 => fun _ _ => .stuck
  | n + 1 => run 4 (b__law_alike (g__law_alike n))
def f__law_alike : List D → Mu → Res D := g__law_alike 8
def b__law_shows : SSt := (sSeq (sSet 5 (sC (.int 0))) (sSeq (sFor (iVal (sVar 3)) (gT (gsCons (gN 6) (gsCons (gN 8) gsNil))) (sSet 5 (s2 dSub (s2 dAdd (sVar 5) (sC (.int 2000000))) (sCall 3 f__law_cost (aCons (s2 dIx (sVar 0) (sVar 6)) (aCons (s2 dIx (sVar 1) (sVar 8)) (aCons (sVar 2) aNil))))))) (sSeq (sFor (iR1 (aCons (sB dLen (aCons (sVar 0) aNil)) aNil)) (gN 6) (sFor (iR1 (aCons (sB dLen (aCons (sVar 1) aNil)) aNil)) (gN 8) (sSeq (sSet 9 (sCall 3 f__law_cost (aCons (s2 dIx (sVar 0) (sVar 6)) (aCons (s2 dIx (sVar 1) (sVar 8)) (aCons (sVar 2) aNil))))) (sIf (bAnd (sTst (s2 dNotN (sVar 9) (sC .non))) (sTst (s2 dLt (s2 dAdd (s2 dIx (s2 dIx (sVar 4) (sC (.int 0))) (sVar 6)) (s2 dIx (s2 dIx (sVar 4) (sC (.int 1))) (sVar 8))) (s2 dSub (sC (.int 2000000)) (sVar 9))))) (sRet (sC (.bl false))) sNil)))) (sSeq (sSet 7 (s2 dEq (sLc (iVal (s2 dAdd (s2 dIx (sVar 4) (sC (.int 0))) (s2 dIx (sVar 4) (sC (.int 1))))) (gN 10) (bNot (sTst (sChain dLe dLe (sC (.int 0)) (sVar 10) (sC (.int 2000000))))) (sVar 10) [10]) (sLst aNil))) (sRet (sAnd (sVar 7) (s2 dEq (s2 dAdd (sB dSumA (aCons (s2 dIx (sVar 4) (sC (.int 0))) aNil)) (sB dSumA (aCons (s2 dIx (sVar 4) (sC (.int 1))) aNil))) (sVar 5))))))))
def f__law_shows : List D → Mu → Res D := run 11 b__law_shows
def b_law_k01 : SSt := (sSeq (sSet 1 (sCall 1 f__law_row (aCons (sVar 0) aNil))) (sSeq (sFor (iR1 (aCons (sC (.int 2)) aNil)) (gN 2) (sSeq (sPar3 6 7 8 (aCons (sCall 3 f__law_lights (aCons (sVar 1) (aCons (sC (.int 5)) (aCons (sC (.int 4)) aNil)))) (aCons (sCall 3 f__law_lights (aCons (sVar 1) (aCons (sC (.int 5)) (aCons (sC (.int 4)) aNil)))) (aCons (sCall 1 f__law_rule (aCons (sVar 1) aNil)) aNil)))) (sSeq (sIf (sTst (s2 dEq (sCall 2 f__law_taken (aCons (sVar 1) (aCons (sC (.int 3)) aNil))) (sC (.int 0)))) (sSeq (sAsg (sLc (iVal (sTup (aCons (sVar 6) (aCons (sVar 7) aNil)))) (gN 15) bYes (sB dTuple (aCons (sLc (iVal (sVar 15)) (gT (gsCons (gN 16) (gsCons (gN 17) (gsCons (gN 18) gsNil)))) bYes (sTup (aCons (s2 dMul (sC (.int 30)) (sVar 16)) (aCons (s2 dMul (sC (.int 30)) (sVar 17)) (aCons (s2 dMul (sC (.int 30)) (sVar 18)) aNil)))) [16, 17, 18]) aNil)) [15]) (gL (gsCons (gN 6) (gsCons (gN 7) gsNil)))) (sSet 8 (sTup (aCons (s2 dIx (sLst (aCons (sC (.int 150)) (aCons (sC (.int 180)) (aCons (sC (.int 200)) (aCons (sC (.int 174)) aNil))))) (sCall 2 f__law_taken (aCons (sVar 1) (aCons (sC (.int 4)) aNil)))) (aCons (sC (.int 99)) (aCons (s2 dIx (sLst (aCons (sC (.int 0)) (aCons (sC (.int 99)) aNil))) (sCall 2 f__law_taken (aCons (sVar 1) (aCons (sC (.int 2)) aNil)))) aNil)))))) sNil) (sSeq (sSet 3 (s2 dIx (sLst (aCons (sTup (aCons (sC (.int 0)) (aCons (sC (.int 0)) aNil))) (aCons (sTup (aCons (s2 dSub (sCall 2 f__law_taken (aCons (sVar 1) (aCons (sC (.int 5)) aNil))) (sC (.int 2))) (aCons (s2 dSub (sCall 2 f__law_taken (aCons (sVar 1) (aCons (sC (.int 5)) aNil))) (sC (.int 2))) aNil))) aNil))) (sCall 2 f__law_taken (aCons (sVar 1) (aCons (sC (.int 2)) aNil))))) (sSeq (sSet 4 (sCall 2 f__law_moved (aCons (sVar 7) (aCons (sVar 3) aNil)))) (sSeq (sAsg (sCall 3 f__law_best (aCons (sVar 6) (aCons (sVar 4) (aCons (sVar 8) aNil)))) (gT (gsCons (gN 9) (gsCons (gN 10) (gsCons (gN 11) gsNil))))) (sSeq (sSet 5 (sIte (sTst (s2 dEq (sVar 3) (sTup (aCons (sC (.int 0)) (aCons (sC (.int 0)) aNil))))) (sCallK 3 0 4 (fun ds es => ds ++ ([(.ktup [(.int 0), (.int 0)])] ++ [])) f_pairing (aCons (sVar 6) (aCons (sVar 7) (aCons (sVar 8) aNil))) aNil) (sCallK 3 1 4 (fun ds es => ds ++ ((es.drop 0).take 1 ++ [])) f_pairing (aCons (sVar 6) (aCons (sVar 7) (aCons (sVar 8) aNil))) (aCons (sVar 3) aNil)))) (sSeq (sAsg (sVar 5) (gT (gsCons (gN 12) (gsCons (gN 13) (gsCons (gN 14) gsNil))))) (sSeq (sIf (bOr (sTst (s2 dNotIn (sVar 12) (sVar 11))) (bOr (bNot (sTst (sCall 2 f__law_alike (aCons (sVar 13) (aCons (sVar 10) aNil))))) (bNot (sTst (s1 (dIsi [Ty.tuple]) (sVar 12)))))) (sRet (sC (.bl false))) sNil) (sSeq (sIf (bOr (bNot (sTst (s1 (dIsi [Ty.tuple]) (sVar 14)))) (sTst (s2 dNe (sLst (aCons (sB dLen (aCons (s2 dIx (sVar 14) (sC (.int 0))) aNil)) (aCons (sB dLen (aCons (s2 dIx (sVar 14) (sC (.int 1))) aNil)) aNil))) (sLst (aCons (sB dLen (aCons (sVar 6) aNil)) (aCons (sB dLen (aCons (sVar 7) aNil)) aNil)))))) (sRet (sC (.bl false))) sNil) (sIf (bNot (sTst (sCall 5 f__law_shows (aCons (sVar 6) (aCons (sVar 4) (aCons (sVar 8) (aCons (sVar 12) (aCons (sVar 14) aNil)))))))) (sRet (sC (.bl false))) sNil))))))))))) (sRet (sC (.bl true)))))
def f_law_k01 : List D → Mu → Res D := run 19 b_law_k01
def b_is_choice : SSt := (sSeq (sIf (bNot (sTst (s1 (dIsi [Ty.tuple]) (sVar 0)))) (sRet (sC (.bl false))) sNil) (sSeq (sSet 3 (sTup (aCons (sTup (aCons (sC (.int 0)) (aCons (s2 dSub (sB dLen (aCons (sVar 1) aNil)) (sC (.int 1))) aNil))) (aCons (sTup (aCons (sC (.int 0)) (aCons (s2 dSub (sVar 2) (sC (.int 1))) aNil))) aNil)))) (sSeq (sSet 4 sDik) (sSeq (sSet 5 sDik) (sSeq (sFor (iVal (sVar 0)) (gN 6) (sSeq (sIf (bNot (sTst (sCall 2 f_are_numbers (aCons (sVar 6) (aCons (sVar 3) aNil))))) (sRet (sC (.bl false))) sNil) (sSeq (sAsg (sVar 6) (gT (gsCons (gN 7) (gsCons (gN 8) gsNil)))) (sSeq (sIf (bOr (sTst (s2 dEq (s2 dIx (s2 dIx (sVar 1) (sVar 7)) (sVar 8)) (sC (.int 0)))) (bOr (sTst (s2 dKin (sVar 7) (sVar 4))) (sTst (s2 dKin (sVar 8) (sVar 5))))) (sRet (sC (.bl false))) sNil) (sSeq (sKput (sC (.bl true)) (sVar 4) (sVar 7)) (sKput (sC (.bl true)) (sVar 5) (sVar 8))))))) (sRet (sC (.bl true))))))))
def f_is_choice : List D → Mu → Res D := runT 9 b_is_choice
def b_are_prices : SSt := (sSeq (sIf (bOr (bNot (sTst (s1 (dIsi [Ty.tuple]) (sVar 0)))) (sTst (s2 dNe (sB dLen (aCons (sVar 0) aNil)) (sC (.int 2))))) (sRet (sC (.bl false))) sNil) (sSeq (sSet 3 (sTup (aCons (sC (.int 0)) (aCons (sC k_FULL_WORTH) aNil)))) (sRet (sAnd (sCall 2 f_are_numbers (aCons (s2 dIx (sVar 0) (sC (.int 0))) (aCons (s2 dMulT (sTup (aCons (sVar 3) aNil)) (sVar 1)) aNil))) (sCall 2 f_are_numbers (aCons (s2 dIx (sVar 0) (sC (.int 1))) (aCons (s2 dMulT (sTup (aCons (sVar 3) aNil)) (sVar 2)) aNil)))))))
def f_are_prices : List D → Mu → Res D := run 4 b_are_prices
def b_possible_pairs : SSt := (sRet (sLc2 (iEn (aCons (sVar 0) aNil)) (gT (gsCons (gN 1) (gsCons (gN 2) gsNil))) bYes (iEn (aCons (sVar 2) aNil)) (gT (gsCons (gN 3) (gsCons (gN 4) gsNil))) (sTst (s2 dGt (sVar 4) (sC (.int 0)))) (sTup (aCons (sVar 1) (aCons (sVar 3) aNil))) [1, 2, 3, 4] [3, 4]))
def f_possible_pairs : List D → Mu → Res D := run 5 b_possible_pairs
def b_settles : SSt := (sSeq (sSet 6 (sCall 4 f_asked_worths (aCons (sVar 0) (aCons (sVar 1) (aCons (sVar 2) (aCons (sVar 5) aNil)))))) (sSeq (sIf (bOr (bNot (sTst (sCall 3 f_is_choice (aCons (sVar 3) (aCons (sVar 6) (aCons (sB dLen (aCons (sVar 1) aNil)) aNil)))))) (bNot (sTst (sCall 3 f_are_prices (aCons (sVar 4) (aCons (sB dLen (aCons (sVar 0) aNil)) (aCons (sB dLen (aCons (sVar 1) aNil)) aNil))))))) (sRet (sC (.bl false))) sNil) (sSeq (sIf (sTst (s2 dNe (s2 dAdd (sB dSumA (aCons (s2 dIx (sVar 4) (sC (.int 0))) aNil)) (sB dSumA (aCons (s2 dIx (sVar 4) (sC (.int 1))) aNil))) (sCall 2 f_total_worth (aCons (sVar 6) (aCons (sVar 3) aNil))))) (sRet (sC (.bl false))) sNil) (sRet (sB dAll (aCons (sLc (iVal (sCall 1 f_possible_pairs (aCons (sVar 6) aNil))) (gT (gsCons (gN 7) (gsCons (gN 8) gsNil))) bYes (s2 dGe (s2 dAdd (s2 dIx (s2 dIx (sVar 4) (sC (.int 0))) (sVar 7)) (s2 dIx (s2 dIx (sVar 4) (sC (.int 1))) (sVar 8))) (s2 dIx (s2 dIx (sVar 6) (sVar 7)) (sVar 8))) [7, 8]) aNil))))))
def f_settles : List D → Mu → Res D := run 9 b_settles
def b_law_k02 : SSt := (sSeq (sSet 1 (sCall 1 f__law_row (aCons (sVar 0) aNil))) (sSeq (sFor (iR1 (aCons (sC (.int 3)) aNil)) (gN 2) (sSeq (sPar3 8 9 10 (aCons (sCall 3 f__law_lights (aCons (sVar 1) (aCons (sC (.int 5)) (aCons (sC (.int 4)) aNil)))) (aCons (sCall 3 f__law_lights (aCons (sVar 1) (aCons (sC (.int 5)) (aCons (sC (.int 4)) aNil)))) (aCons (sCall 1 f__law_rule (aCons (sVar 1) aNil)) aNil)))) (sSeq (sAsg (sCallK 3 0 4 (fun ds es => ds ++ ([(.ktup [(.int 0), (.int 0)])] ++ [])) f_pairing (aCons (sVar 8) (aCons (sVar 9) (aCons (sVar 10) aNil))) aNil) (gT (gsCons (gN 11) (gsCons (gN 12) (gsCons (gN 13) gsNil))))) (sSeq (sIf (bNot (sTst (sCallK 5 0 6 (fun ds es => ds ++ ([(.ktup [(.int 0), (.int 0)])] ++ [])) f_settles (aCons (sVar 8) (aCons (sVar 9) (aCons (sVar 10) (aCons (sVar 11) (aCons (sVar 13) aNil))))) aNil))) (sRet (sC (.bl false))) sNil) (sSeq (sSet 3 (sCall 3 f__law_choices (aCons (sVar 8) (aCons (sVar 9) (aCons (sVar 10) aNil))))) (sSeq (sSet 4 (s2 dIx (s2 dIx (sVar 3) (sCall 2 f__law_taken (aCons (sVar 1) (aCons (sB dLen (aCons (sVar 3) aNil)) aNil)))) (sC (.int 0)))) (sSeq (sSet 5 (sNew (aCons (sB dListN (aCons (s2 dIx (sVar 13) (sC (.int 0))) aNil)) (aCons (sB dListN (aCons (s2 dIx (sVar 13) (sC (.int 1))) aNil)) aNil)))) (sSeq (sIf (bAnd (sTst (s2 dNe (s2 dAdd (sVar 8) (sVar 9)) (sTup aNil))) (sTst (s2 dEq (sCall 2 f__law_taken (aCons (sVar 1) (aCons (sC (.int 2)) aNil))) (sC (.int 0))))) (sSeq (sSet 14 (s2 dIx (sVar 5) (sB dInt (aCons (sOr (s2 dEq (s2 dIx (sVar 5) (sC (.int 0))) (sLst aNil)) (sAnd (s2 dNe (s2 dIx (sVar 5) (sC (.int 1))) (sLst aNil)) (s2 dEq (sCall 2 f__law_taken (aCons (sVar 1) (aCons (sC (.int 2)) aNil))) (sC (.int 0))))) aNil)))) (sPut (s2 dIx (sLst (aCons (sC (.int 0)) (aCons (sC (.int 2000000)) (aCons (s2 dAdd (s2 dIx (sVar 14) (sC (.int 0))) (sC (.int 1))) (aCons (s2 dSub (s2 dIx (sVar 14) (sC (.int 0))) (sC (.int 1))) (aCons (sC (.int 1999990)) aNil)))))) (sCall 2 f__law_taken (aCons (sVar 1) (aCons (sC (.int 5)) aNil)))) (sVar 14) (sCall 2 f__law_taken (aCons (sVar 1) (aCons (sB dLen (aCons (sVar 14) aNil)) aNil))))) sNil) (sSeq (sSet 5 (sTup (aCons (sB dTuple (aCons (s2 dIx (sVar 5) (sC (.int 0))) aNil)) (aCons (sB dTuple (aCons (s2 dIx (sVar 5) (sC (.int 1))) aNil)) aNil)))) (sSeq (sIf (sTst (s2 dNe (sCallK 5 0 6 (fun ds es => ds ++ ([(.ktup [(.int 0), (.int 0)])] ++ [])) f_settles (aCons (sVar 8) (aCons (sVar 9) (aCons (sVar 10) (aCons (sVar 4) (aCons (sVar 5) aNil))))) aNil) (sCall 5 f__law_shows (aCons (sVar 8) (aCons (sVar 9) (aCons (sVar 10) (aCons (sVar 4) (aCons (sVar 5) aNil)))))))) (sRet (sC (.bl false))) sNil) (sSeq (sSet 6 (sLst (aCons (sC .non) (aCons (sB dList (aCons (sVar 11) aNil)) (aCons (sC (.int 5)) (aCons (s2 dAdd (s2 dAdd (sVar 11) (sSl (sVar 11) oNo (oSo (sC (.int 1))))) (sTup (aCons (sTup (aCons (sC (.int 0)) (aCons (sC (.int 0)) aNil))) aNil))) (aCons (sTup (aCons (sTup (aCons (sB dLen (aCons (sVar 8) aNil)) (aCons (sC (.int 0)) aNil))) aNil)) (aCons (sTup (aCons (sTup (aCons (sC (.int 0)) (aCons (sB dLen (aCons (sVar 9) aNil)) aNil))) aNil)) (aCons (sTup (aCons (sTup (aCons (sC (.int 0)) aNil)) aNil)) aNil))))))))) (sSeq (sSet 6 (s2 dAdd (sVar 6) (sLst (aCons (sTup (aCons (sTup (aCons (s2 dSub (sC (.int 0)) (sC (.int 1))) (aCons (sC (.int 0)) aNil))) aNil)) (aCons (sTup (aCons (sC (.int 5)) aNil)) (aCons (sTup (aCons (sTup (aCons (sC (.bl true)) (aCons (sC (.int 0)) aNil))) aNil)) aNil)))))) (sSeq (sIf (sTst (sCallK 5 0 6 (fun ds es => ds ++ ([(.ktup [(.int 0), (.int 0)])] ++ [])) f_settles (aCons (sVar 8) (aCons (sVar 9) (aCons (sVar 10) (aCons (s2 dIx (sVar 6) (sCall 2 f__law_taken (aCons (sVar 1) (aCons (sC (.int 10)) aNil)))) (aCons (sVar 13) aNil))))) aNil)) (sRet (sC (.bl false))) sNil) (sSeq (sSet 7 (sLst (aCons (sC .non) (aCons (sTup aNil) (aCons (sTup (aCons (s2 dIx (sVar 13) (sC (.int 0))) aNil)) (aCons (sB dList (aCons (sVar 13) aNil)) (aCons (sTup (aCons (s2 dAdd (s2 dIx (sVar 13) (sC (.int 0))) (sTup (aCons (sC (.int 0)) aNil))) (aCons (s2 dIx (sVar 13) (sC (.int 1))) aNil))) (aCons (sTup (aCons (sB dList (aCons (s2 dIx (sVar 13) (sC (.int 0))) aNil)) (aCons (s2 dIx (sVar 13) (sC (.int 1))) aNil))) (aCons (sC (.int 5)) aNil))))))))) (sIf (sTst (sCallK 5 0 6 (fun ds es => ds ++ ([(.ktup [(.int 0), (.int 0)])] ++ [])) f_settles (aCons (sVar 8) (aCons (sVar 9) (aCons (sVar 10) (aCons (sVar 11) (aCons (s2 dIx (sVar 7) (sCall 2 f__law_taken (aCons (sVar 1) (aCons (sC (.int 7)) aNil)))) aNil))))) aNil)) (sRet (sC (.bl false))) sNil))))))))))))))) (sRet (sC (.bl true)))))
def f_law_k02 : List D → Mu → Res D := run 15 b_law_k02
def b__wall : SSt := (sWhile 1000 (sTst (sC (.bl true))) sNil)
def f__wall : List D → Mu → Res D := run 1 b__wall
def b_check_count : SSt := (sIf (bNot (sTst (sCall 3 f_is_number (aCons (sVar 0) (aCons (sVar 1) (aCons (sVar 2) aNil)))))) (sRaise0 "BadCount" (aCons (sJs (.inl "a number from " :: (.inr (sVar 1) :: (.inl " to " :: (.inr (sVar 2) :: (.inl " is asked here" :: [])))))) aNil)) sNil)
def f_check_count : List D → Mu → Res D := run 3 b_check_count
def b_tight_pairs : SSt := (sRet (sLc (iVal (sCall 1 f_possible_pairs (aCons (sVar 0) aNil))) (gT (gsCons (gN 2) (gsCons (gN 3) gsNil))) (sTst (s2 dEq (s2 dAdd (s2 dIx (s2 dIx (sVar 1) (sC (.int 0))) (sVar 2)) (s2 dIx (s2 dIx (sVar 1) (sC (.int 1))) (sVar 3))) (s2 dIx (s2 dIx (sVar 0) (sVar 2)) (sVar 3)))) (sTup (aCons (sVar 2) (aCons (sVar 3) aNil))) [2, 3]))
def f_tight_pairs : List D → Mu → Res D := run 4 b_tight_pairs
def b_exchanges : SSt := (sSeq (sSet 4 (s2 dAdd (sB dLen (aCons (sVar 0) aNil)) (sVar 1))) (sSeq (sSet 5 (sLcN (iR1 (aCons (s2 dAdd (sVar 4) (sC (.int 1))) aNil)) (gN 11) bYes (sNew aNil) [11])) (sSeq (sFor (iVal (sCall 2 f_tight_pairs (aCons (sVar 0) (aCons (sVar 3) aNil)))) (gT (gsCons (gN 7) (gsCons (gN 8) gsNil))) (sIf (sTst (s2 dIn (sTup (aCons (sVar 7) (aCons (sVar 8) aNil))) (sVar 2))) (sDo (sM1 dApp (s2 dIx (sVar 5) (s2 dAdd (sB dLen (aCons (sVar 0) aNil)) (sVar 8))) (sVar 7))) (sDo (sM1 dApp (s2 dIx (sVar 5) (sVar 7)) (s2 dAdd (sB dLen (aCons (sVar 0) aNil)) (sVar 8)))))) (sSeq (sSet 6 (s2 dAdd (sLc (iVal (sVar 2)) (gT (gsCons (gN 7) (gsCons (gN 11) gsNil))) bYes (sVar 7) [7, 11]) (sLc (iVal (sVar 2)) (gT (gsCons (gN 11) (gsCons (gN 8) gsNil))) bYes (s2 dAdd (sB dLen (aCons (sVar 0) aNil)) (sVar 8)) [11, 8]))) (sSeq (sFor (iEn (aCons (s2 dAdd (s2 dIx (sVar 3) (sC (.int 0))) (s2 dIx (sVar 3) (sC (.int 1)))) aNil)) (gT (gsCons (gN 9) (gsCons (gN 10) gsNil))) (sSeq (sIf (sTst (s2 dGt (sVar 10) (sC (.int 0)))) sCont sNil) (sIf (sTst (s2 dEq (s2 dLt (sVar 9) (sB dLen (aCons (sVar 0) aNil))) (s2 dIn (sVar 9) (sVar 6)))) (sDo (sM1 dApp (s2 dIx (sVar 5) (sVar 9)) (sVar 4))) (sDo (sM1 dApp (s2 dIx (sVar 5) (sVar 4)) (sVar 9)))))) (sRet (sFrz2 (sVar 5))))))))
def f_exchanges : List D → Mu → Res D := runT 12 b_exchanges
def b_reached : SSt := (sSeq (sSet 2 (sDis1 (sVar 1) (sC (.bl true)))) (sSeq (sSet 3 (sNew (aCons (sVar 1) aNil))) (sSeq (sWhile 1000 (sTru (sVar 3)) (sSeq (sSet 4 (sM0 dPop (sVar 3))) (sFor (iVal (s2 dIx (sVar 0) (sVar 4))) (gN 5) (sIf (sTst (s2 dKnotin (sVar 5) (sVar 2))) (sSeq (sKput (sC (.bl true)) (sVar 2) (sVar 5)) (sDo (sM1 dApp (sVar 3) (sVar 5)))) sNil)))) (sRet (sVar 2)))))
def f_reached : List D → Mu → Res D := run 6 b_reached
def b_sure_pairs : SSt := (sSeq (sAsg (sCall 2 f_best_choice (aCons (sVar 0) (aCons (sVar 1) aNil))) (gT (gsCons (gN 3) (gsCons (gN 4) gsNil)))) (sSeq (sSet 2 (sCall 4 f_exchanges (aCons (sVar 0) (aCons (sVar 1) (aCons (sVar 3) (aCons (sVar 4) aNil)))))) (sRet (sLc (iVal (sVar 3)) (gT (gsCons (gN 5) (gsCons (gN 6) gsNil))) (bTrim (sTst (s2 dKnotin (s2 dAdd (sB dLen (aCons (sVar 0) aNil)) (sVar 6)) (sCall 2 f_reached (aCons (sVar 2) (aCons (sVar 5) aNil)))))) (sTup (aCons (sVar 5) (aCons (sVar 6) aNil))) [5, 6]))))
def f_sure_pairs : List D → Mu → Res D := runT 7 b_sure_pairs
def b_sure : SSt := (sRet (sCall 2 f_sure_pairs (aCons (sCall 4 f_asked_worths (aCons (sVar 0) (aCons (sVar 1) (aCons (sVar 2) (aCons (sVar 3) aNil))))) (aCons (sB dLen (aCons (sVar 1) aNil)) aNil))))
def f_sure : List D → Mu → Res D := run 4 b_sure
def b_likely : SSt := (sSeq (sSet 4 (sCall 4 f_asked_worths (aCons (sVar 0) (aCons (sVar 1) (aCons (sVar 2) (aCons (sVar 3) aNil)))))) (sSeq (sSet 5 (sB dLen (aCons (sVar 1) aNil))) (sSeq (sAsg (sCall 2 f_best_choice (aCons (sVar 4) (aCons (sVar 5) aNil))) (gT (gsCons (gN 8) (gsCons (gN 9) gsNil)))) (sSeq (sSet 6 (sCall 4 f_exchanges (aCons (sVar 4) (aCons (sVar 5) (aCons (sVar 8) (aCons (sVar 9) aNil)))))) (sSeq (sSet 7 (sB dListN (aCons (sVar 8) aNil))) (sSeq (sFor (iVal (sCall 2 f_tight_pairs (aCons (sVar 4) (aCons (sVar 9) aNil)))) (gT (gsCons (gN 10) (gsCons (gN 11) gsNil))) (sIf (bAnd (sTst (s2 dNotIn (sTup (aCons (sVar 10) (aCons (sVar 11) aNil))) (sVar 8))) (bTrim (sTst (s2 dKin (sVar 10) (sCall 2 f_reached (aCons (sVar 6) (aCons (s2 dAdd (sB dLen (aCons (sVar 4) aNil)) (sVar 11)) aNil))))))) (sDo (sM1 dApp (sVar 7) (sTup (aCons (sVar 10) (aCons (sVar 11) aNil))))) sNil)) (sRet (sB dSortP (aCons (sVar 7) aNil)))))))))
def f_likely : List D → Mu → Res D := runT 12 b_likely
def k_MOST_NEAR : D := (.int 200)
def b_check_near : SSt := (sDo (sCall 3 f_check_count (aCons (sVar 0) (aCons (sC (.int 0)) (aCons (sC k_MOST_NEAR) aNil)))))
def f_check_near : List D → Mu → Res D := run 1 b_check_near
def b_are_near : SSt := (sSeq (sSet 3 (s2 dSub (s2 dIx (sVar 0) (sC (.int 0))) (s2 dIx (sVar 1) (sC (.int 0))))) (sSeq (sSet 4 (s2 dSub (s2 dIx (sVar 0) (sC (.int 1))) (s2 dIx (sVar 1) (sC (.int 1))))) (sRet (s2 dLe (s2 dAdd (s2 dMul (sVar 3) (sVar 3)) (s2 dMul (sVar 4) (sVar 4))) (s2 dMul (sVar 2) (sVar 2))))))
def f_are_near : List D → Mu → Res D := run 5 b_are_near
def b_near_groups : SSt := (sSeq (sSet 2 (sLc (iVal (sVar 0)) (gN 4) bYes (sLc (iEn (aCons (sVar 0) aNil)) (gT (gsCons (gN 5) (gsCons (gN 7) gsNil))) (sTst (sCall 3 f_are_near (aCons (sVar 4) (aCons (sVar 7) (aCons (sVar 1) aNil))))) (sVar 5) [5, 7]) [4])) (sSeq (sSet 3 (sLc (iR1 (aCons (sB dLen (aCons (sVar 0) aNil)) aNil)) (gN 5) bYes (sB dTuple (aCons (eTrim (sB dSortK (aCons (sCall 2 f_reached (aCons (sVar 2) (aCons (sVar 5) aNil))) aNil))) aNil)) [5])) (sRet (sLc (iEn (aCons (sVar 3) aNil)) (gT (gsCons (gN 5) (gsCons (gN 6) gsNil))) (sTst (s2 dEq (s2 dIx (sVar 6) (sC (.int 0))) (sVar 5))) (sVar 6) [5, 6]))))
def f_near_groups : List D → Mu → Res D := run 8 b_near_groups
def b_groups : SSt := (sSeq (sDo (sCall 1 f_check_lights (aCons (sVar 0) aNil))) (sSeq (sDo (sCall 1 f_check_near (aCons (sVar 1) aNil))) (sRet (sCall 2 f_near_groups (aCons (sVar 0) (aCons (sVar 1) aNil))))))
def f_groups : List D → Mu → Res D := run 2 b_groups
def b_weighted_mean : SSt := (sRet (s2 dDiv (sB dSumA (aCons (sLc (iZp (aCons (sVar 0) (aCons (sVar 1) aNil))) (gT (gsCons (gN 2) (gsCons (gN 3) gsNil))) bYes (s2 dMul (sVar 2) (sVar 3)) [2, 3]) aNil)) (sB dSumA (aCons (sVar 1) aNil))))
def f_weighted_mean : List D → Mu → Res D := run 4 b_weighted_mean
def k_MOST_GLOW : D := (.int 99)
def b_blend : SSt := (sSeq (sSet 1 (sLc (iVal (sVar 0)) (gN 5) bYes (s2 dIx (sVar 5) (sC (.int 2))) [5])) (sSeq (sSet 2 (sIte (sTst (s2 dGt (sB dSumA (aCons (sVar 1) aNil)) (sC (.int 0)))) (sVar 1) (s2 dMul (sLst (aCons (sC (.int 1)) aNil)) (sB dLen (aCons (sVar 1) aNil))))) (sSeq (sSet 3 (sCall 2 f_weighted_mean (aCons (sLc (iVal (sVar 0)) (gN 5) bYes (s2 dIx (sVar 5) (sC (.int 0))) [5]) (aCons (sVar 2) aNil)))) (sSeq (sSet 4 (sCall 2 f_weighted_mean (aCons (sLc (iVal (sVar 0)) (gN 5) bYes (s2 dIx (sVar 5) (sC (.int 1))) [5]) (aCons (sVar 2) aNil)))) (sRet (sTup (aCons (sVar 3) (aCons (sVar 4) (aCons (sB dMin2 (aCons (sB dSumA (aCons (sVar 1) aNil)) (aCons (sC k_MOST_GLOW) aNil))) aNil)))))))))
def f_blend : List D → Mu → Res D := run 6 b_blend
def b_near_blends : SSt := (sRet (sLc (iVal (sCall 2 f_near_groups (aCons (sVar 0) (aCons (sVar 1) aNil)))) (gN 2) bYes (sTup (aCons (sCall 1 f_blend (aCons (sLc (iVal (sVar 2)) (gN 3) bYes (s2 dIx (sVar 0) (sVar 3)) [3]) aNil)) (aCons (sVar 2) aNil))) [2]))
def f_near_blends : List D → Mu → Res D := run 4 b_near_blends
def b_blends : SSt := (sSeq (sDo (sCall 1 f_check_lights (aCons (sVar 0) aNil))) (sSeq (sDo (sCall 1 f_check_near (aCons (sVar 1) aNil))) (sRet (sCall 2 f_near_blends (aCons (sVar 0) (aCons (sVar 1) aNil))))))
def f_blends : List D → Mu → Res D := run 2 b_blends
def b_matched : SSt := (sSeq (sDo (sCall 1 f_check_lights (aCons (sVar 0) aNil))) (sSeq (sDo (sCall 1 f_check_lights (aCons (sVar 1) aNil))) (sSeq (sDo (sCall 1 f_check_near (aCons (sVar 2) aNil))) (sSeq (sDo (sCall 1 f_check_rule (aCons (sVar 3) aNil))) (sSeq (sSet 4 (sCall 2 f_near_blends (aCons (sVar 1) (aCons (sVar 2) aNil)))) (sSeq (sSet 5 (sCall 4 f_worth_table (aCons (sVar 0) (aCons (sLc (iVal (sVar 4)) (gT (gsCons (gN 8) (gsCons (gN 7) gsNil))) bYes (sVar 8) [8, 7]) (aCons (sVar 3) (aCons (sTup (aCons (sC (.int 0)) (aCons (sC (.int 0)) aNil))) aNil)))))) (sSeq (sAsg (sCall 2 f_best_choice (aCons (sVar 5) (aCons (sB dLen (aCons (sVar 4) aNil)) aNil))) (gT (gsCons (gN 6) (gsCons (gN 7) gsNil)))) (sRet (sTup (aCons (sLc (iVal (sVar 6)) (gT (gsCons (gN 9) (gsCons (gN 10) gsNil))) bYes (sTup (aCons (sVar 9) (aCons (s2 dIx (s2 dIx (sVar 4) (sVar 10)) (sC (.int 1))) aNil))) [9, 10]) (aCons (sCall 2 f_total_cost (aCons (sVar 5) (aCons (sVar 6) aNil))) aNil)))))))))))
def f_matched : List D → Mu → Res D := run 11 b_matched
def k_TURNS : D := (.ktup [(.ktup [(.int 1), (.int 0), (.int 0), (.int 1)]), (.ktup [(.int 0), (.int (-1)), (.int 1), (.int 0)]), (.ktup [(.int (-1)), (.int 0), (.int 0), (.int (-1))]), (.ktup [(.int 0), (.int 1), (.int (-1)), (.int 0)]), (.ktup [(.int (-1)), (.int 0), (.int 0), (.int 1)]), (.ktup [(.int 0), (.int 1), (.int 1), (.int 0)]), (.ktup [(.int 1), (.int 0), (.int 0), (.int (-1))]), (.ktup [(.int 0), (.int (-1)), (.int (-1)), (.int 0)])])
def b_check_turn : SSt := (sDo (sCall 3 f_check_count (aCons (sVar 0) (aCons (sC (.int 0)) (aCons (s2 dSub (sB dLen (aCons (sC k_TURNS) aNil)) (sC (.int 1))) aNil)))))
def f_check_turn : List D → Mu → Res D := run 1 b_check_turn
def b_turned_lights : SSt := (sSeq (sAsg (s2 dIx (sC k_TURNS) (sVar 1)) (gT (gsCons (gN 2) (gsCons (gN 3) (gsCons (gN 4) (gsCons (gN 5) gsNil)))))) (sRet (sB dTuple (aCons (sLc (iVal (sVar 0)) (gT (gsCons (gN 6) (gsCons (gN 7) (gsCons (gN 8) gsNil)))) bYes (sTup (aCons (s2 dAdd (s2 dMul (sVar 2) (sVar 6)) (s2 dMul (sVar 3) (sVar 7))) (aCons (s2 dAdd (s2 dMul (sVar 4) (sVar 6)) (s2 dMul (sVar 5) (sVar 7))) (aCons (sVar 8) aNil)))) [6, 7, 8]) aNil))))
def f_turned_lights : List D → Mu → Res D := run 9 b_turned_lights
def b_turned : SSt := (sSeq (sDo (sCall 1 f_check_lights (aCons (sVar 0) aNil))) (sSeq (sDo (sCall 1 f_check_turn (aCons (sVar 1) aNil))) (sRet (sCall 2 f_turned_lights (aCons (sVar 0) (aCons (sVar 1) aNil))))))
def f_turned : List D → Mu → Res D := run 2 b_turned
def b_check_turns : SSt := (sSeq (sIf (bOr (bNot (sTst (s1 (dIsi [Ty.tuple]) (sVar 0)))) (sTst (s2 dEq (sB dLen (aCons (sVar 0) aNil)) (sC (.int 0))))) (sRaise0 "BadCount" (aCons (sC (.str "a tuple of one turn at least is asked here")) aNil)) sNil) (sFor (iVal (sVar 0)) (gN 1) (sDo (sCall 1 f_check_turn (aCons (sVar 1) aNil)))))
def f_check_turns : List D → Mu → Res D := run 2 b_check_turns
def k_FARTHEST : D := (.int 5)
def k_LIST_ROW : D := (.str "list")
def b_check_side : SSt := (sIf (bNot (sTst (sCall 3 f_is_number (aCons (sVar 0) (aCons (sC (.int 0)) (aCons (sC (.int 1)) aNil)))))) (sRaise0 "NoLight" (aCons (sC (.str "the sides are 0 and 1")) aNil)) sNil)
def f_check_side : List D → Mu → Res D := run 1 b_check_side
def b_check_name : SSt := (sIf (bNot (sTst (sB dAny (aCons (sLc (iVal (sVar 0)) (gN 2) bYes (sCall 3 f_is_number (aCons (sVar 1) (aCons (sVar 2) (aCons (sVar 2) aNil)))) [2]) aNil)))) (sRaise0 "NoLight" (aCons (sC (.str "no light of this side has this name")) aNil)) sNil)
def f_check_name : List D → Mu → Res D := run 3 b_check_name
def b_changes : SSt := (sSeq (sSet 2 (sLc (iVal (sVar 0)) (gN 4) (sTst (s2 dNotIn (sVar 4) (sVar 1))) (sVar 4) [4])) (sSeq (sSet 3 (sLc (iVal (sVar 1)) (gN 4) (sTst (s2 dNotIn (sVar 4) (sVar 0))) (sVar 4) [4])) (sRet (sTup (aCons (sVar 2) (aCons (sVar 3) aNil))))))
def f_changes : List D → Mu → Res D := run 5 b_changes
def k_FEWEST_EPOCHS : D := (.int 2)
def k_MOST_EPOCHS : D := (.int 6)
def b_check_epochs : SSt := (sSeq (sIf (bOr (bNot (sTst (s1 (dIsi [Ty.list]) (sVar 0)))) (bNot (sTst (sChain dLe dLe (sC k_FEWEST_EPOCHS) (sB dLen (aCons (sVar 0) aNil)) (sC k_MOST_EPOCHS))))) (sRaise0 "BadCount" (aCons (sJs (.inl "a list of " :: (.inr (sC k_FEWEST_EPOCHS) :: (.inl " to " :: (.inr (sC k_MOST_EPOCHS) :: (.inl " lists of lights is asked here" :: [])))))) aNil)) sNil) (sFor (iVal (sVar 0)) (gN 1) (sDo (sCall 1 f_check_lights (aCons (sVar 1) aNil)))))
def f_check_epochs : List D → Mu → Res D := run 2 b_check_epochs
def k_FASTEST : D := (.int 50)
def b_line_through : SSt := (sSeq (sSet 4 (s2 dSub (sVar 3) (sVar 1))) (sSeq (sSet 5 (s2 dSub (s2 dIx (sVar 2) (sC (.int 0))) (s2 dIx (sVar 0) (sC (.int 0))))) (sSeq (sSet 6 (s2 dSub (s2 dIx (sVar 2) (sC (.int 1))) (s2 dIx (sVar 0) (sC (.int 1))))) (sSeq (sIf (bOr (sTst (s2 dNe (s2 dMod (sVar 5) (sVar 4)) (sC (.int 0)))) (sTst (s2 dNe (s2 dMod (sVar 6) (sVar 4)) (sC (.int 0))))) (sRet (sC .non)) sNil) (sSeq (sSet 7 (sTup (aCons (s2 dDiv (sVar 5) (sVar 4)) (aCons (s2 dDiv (sVar 6) (sVar 4)) aNil)))) (sSeq (sIf (bOr (sTst (s2 dGt (sB dAbs (aCons (s2 dIx (sVar 7) (sC (.int 0))) aNil)) (sC k_FASTEST))) (sTst (s2 dGt (sB dAbs (aCons (s2 dIx (sVar 7) (sC (.int 1))) aNil)) (sC k_FASTEST)))) (sRet (sC .non)) sNil) (sRet (sTup (aCons (sTup (aCons (s2 dSub (s2 dIx (sVar 0) (sC (.int 0))) (s2 dMul (sVar 1) (s2 dIx (sVar 7) (sC (.int 0))))) (aCons (s2 dSub (s2 dIx (sVar 0) (sC (.int 1))) (s2 dMul (sVar 1) (s2 dIx (sVar 7) (sC (.int 1))))) aNil))) (aCons (sVar 7) aNil))))))))))
def f_line_through : List D → Mu → Res D := run 8 b_line_through
def b_lines : SSt := (sSeq (sSet 1 sDic) (sSeq (sFor (iR2 (aCons (sC (.int 1)) (aCons (sB dLen (aCons (sVar 0) aNil)) aNil))) (gN 2) (sFor (iR1 (aCons (sVar 2) aNil)) (gN 3) (sFor (iVal (s2 dIx (sVar 0) (sVar 3))) (gN 4) (sFor (iVal (s2 dIx (sVar 0) (sVar 2))) (gN 5) (sSeq (sSet 6 (sCall 4 f_line_through (aCons (sVar 4) (aCons (sVar 3) (aCons (sVar 5) (aCons (sVar 2) aNil)))))) (sIf (sTst (s2 dNotN (sVar 6) (sC .non))) (sPut (sC (.bl true)) (sVar 1) (sVar 6)) sNil)))))) (sRet (sB dSortP (aCons (sVar 1) aNil)))))
def f_lines : List D → Mu → Res D := run 7 b_lines
def k_FEWEST_OF_TRACK : D := (.int 2)
def b_light_count : SSt := (sRet (sB dLen (aCons (sLc (iVal (sVar 0)) (gN 1) (sTst (s2 dNotN (sVar 1) (sC .non))) (sVar 1) [1]) aNil)))
def f_light_count : List D → Mu → Res D := run 2 b_light_count
def b_share_light : SSt := (sRet (sB dAny (aCons (sLc (iZp (aCons (sVar 0) (aCons (sVar 1) aNil))) (gT (gsCons (gN 2) (gsCons (gN 3) gsNil))) bYes (sAnd (s2 dNotN (sVar 2) (sC .non)) (s2 dEq (sVar 2) (sVar 3))) [2, 3]) aNil)))
def f_share_light : List D → Mu → Res D := run 4 b_share_light
def b_best_lot : SSt := (sSeq (sSet 1 (sLc (iVal (sVar 0)) (gN 6) bYes (sLc (iVal (sVar 0)) (gN 7) bYes (sCall 2 f_share_light (aCons (sVar 6) (aCons (sVar 7) aNil))) [7]) [6])) (sSeq (sSet 2 (sLst (aCons (sTup (aCons (sC (.int 0)) (aCons (sC (.int 0)) (aCons (sLst aNil) aNil)))) aNil))) (sSeq (sFor (iEn (aCons (sVar 0) aNil)) (gT (gsCons (gN 3) (gsCons (gN 4) gsNil))) (sSeq (sSet 5 (sCall 1 f_light_count (aCons (sVar 4) aNil))) (sSet 2 (s2 dAdd (sVar 2) (sLc (iVal (sVar 2)) (gT (gsCons (gN 8) (gsCons (gN 9) (gsCons (gN 10) gsNil)))) (bNot (sTst (sB dAny (aCons (sLc (iVal (sVar 10)) (gN 11) bYes (s2 dIx (s2 dIx (sVar 1) (sVar 3)) (sVar 11)) [11]) aNil)))) (sTup (aCons (s2 dSub (sVar 8) (sVar 5)) (aCons (s2 dAdd (sVar 9) (sC (.int 1))) (aCons (s2 dAdd (sVar 10) (sLst (aCons (sVar 3) aNil))) aNil)))) [8, 9, 10]))))) (sRet (s2 dIx (sB dMin1 (aCons (sVar 2) aNil)) (sC (.int 2)))))))
def f_best_lot : List D → Mu → Res D := run 12 b_best_lot
abbrev errs_ : List Str := ["BadLights", "BadRule", "BadSlip", "BadCount", "NoLight", "BadDeed", "Halted", "BadText"]
def b__law_word (k_ : Nat) (r_ : Mu → Res D) : SSt := (sSeq (sSet 1 (sNew aNil)) (sSeq (sTry 2 errs_ (sDo (sM1 dApp (sVar 1) (sAct k_ 6 0 r_))) (fun k_ x_ => (sSeq (sSet 3 (sLst (aCons (sIsE k_ (decide (x_.cls = "BadLights")) (sVar 2)) (aCons (sIsE k_ (decide (x_.cls = "BadRule")) (sVar 2)) (aCons (sIsE k_ (decide (x_.cls = "BadSlip")) (sVar 2)) (aCons (sIsE k_ (decide (x_.cls = "BadCount")) (sVar 2)) aNil)))))) (sSeq (sSet 3 (s2 dAdd (sVar 3) (sLst (aCons (sIsE k_ (decide (x_.cls = "NoLight")) (sVar 2)) (aCons (sIsE k_ (decide (x_.cls = "BadDeed")) (sVar 2)) (aCons (sIsE k_ (decide (x_.cls = "Halted")) (sVar 2)) (aCons (sIsE k_ (decide (x_.cls = "BadText")) (sVar 2)) aNil))))))) (sSeq (sSet 4 (sLst (aCons (sC (.str "lights")) (aCons (sC (.str "rule")) (aCons (sC (.str "slip")) (aCons (sC (.str "count")) (aCons (sC (.str "nolight")) (aCons (sC (.str "deed")) (aCons (sC (.str "halted")) (aCons (sC (.str "text")) aNil)))))))))) (sSeq (sIf (bOr (sTst (s2 dNe (sM1 dCount (sVar 3) (sC (.bl true))) (sC (.int 1)))) (bNot (sTst (sIsE k_ true (sVar 2))))) (sRet (sTup (aCons (sC (.str "other")) (aCons (sC .non) aNil)))) sNil) (sSeq (sSet 5 (s2 dIx (sVar 4) (sM1 dIndex (sVar 3) (sC (.bl true))))) (sSeq (sIf (sTst (s2 dEq (sVar 5) (sC (.str "halted")))) (sRet (sTup (aCons (sVar 5) (aCons (sTup (aCons (sFld k_ x_ "number" (sVar 2)) (aCons (sFld k_ x_ "done" (sVar 2)) aNil))) aNil)))) sNil) (sSeq (sIf (sTst (s2 dEq (sVar 5) (sC (.str "text")))) (sRet (sTup (aCons (sVar 5) (aCons (sFld k_ x_ "row" (sVar 2)) aNil)))) sNil) (sRet (sIte (sTst (s2 dIn (sVar 5) (sTup (aCons (sC (.str "lights")) (aCons (sC (.str "deed")) aNil))))) (sTup (aCons (sVar 5) (aCons (sFld k_ x_ "number" (sVar 2)) aNil))) (sTup (aCons (sVar 5) (aCons (sC .non) aNil)))))))))))))) (sRet (sTup (aCons (sC (.str "")) (aCons (s2 dIx (sVar 1) (sC (.int 0))) aNil))))))
def b_law_k04 : SSt := (sSeq (sSet 1 (sCall 1 f__law_row (aCons (sVar 0) aNil))) (sSeq (sFor (iR1 (aCons (sC (.int 2)) aNil)) (gN 2) (sSeq (sPar3 7 8 9 (aCons (sCall 3 f__law_lights (aCons (sVar 1) (aCons (sC (.int 5)) (aCons (sC (.int 3)) aNil)))) (aCons (sCall 3 f__law_lights (aCons (sVar 1) (aCons (sC (.int 5)) (aCons (sC (.int 3)) aNil)))) (aCons (sCall 1 f__law_rule (aCons (sVar 1) aNil)) aNil)))) (sSeq (sSet 3 (s2 dIx (sLst (aCons (sTup (aCons (sC (.int 0)) (aCons (sC (.int 0)) aNil))) (aCons (sTup (aCons (s2 dSub (sCall 2 f__law_taken (aCons (sVar 1) (aCons (sC (.int 5)) aNil))) (sC (.int 2))) (aCons (s2 dSub (sCall 2 f__law_taken (aCons (sVar 1) (aCons (sC (.int 5)) aNil))) (sC (.int 2))) aNil))) aNil))) (sCall 2 f__law_taken (aCons (sVar 1) (aCons (sC (.int 2)) aNil))))) (sSeq (sAsg (sCall 3 f__law_best (aCons (sVar 7) (aCons (sCall 2 f__law_moved (aCons (sVar 8) (aCons (sVar 3) aNil))) (aCons (sVar 9) aNil)))) (gT (gsCons (gN 10) (gsCons (gN 11) (gsCons (gN 12) gsNil))))) (sSeq (sPar 13 14 (aCons (sLst aNil) (aCons (sLst aNil) aNil))) (sSeq (sFor (iR1 (aCons (sB dLen (aCons (sVar 7) aNil)) aNil)) (gN 4) (sFor (iR1 (aCons (sB dLen (aCons (sVar 8) aNil)) aNil)) (gN 15) (sSeq (sSet 16 (sB dLen (aCons (sLc (iVal (sVar 12)) (gN 17) (sTst (s2 dIn (sTup (aCons (sVar 4) (aCons (sVar 15) aNil))) (sVar 17))) (sVar 17) [17]) aNil))) (sSeq (sSet 13 (s2 dAdd (sVar 13) (s2 dMul (sLst (aCons (sTup (aCons (sVar 4) (aCons (sVar 15) aNil))) aNil)) (sB dInt (aCons (s2 dEq (sVar 16) (sB dLen (aCons (sVar 12) aNil))) aNil))))) (sSet 14 (s2 dAdd (sVar 14) (s2 dMul (sLst (aCons (sTup (aCons (sVar 4) (aCons (sVar 15) aNil))) aNil)) (sB dInt (aCons (s2 dGt (sVar 16) (sC (.int 0))) aNil))))))))) (sSeq (sFor (iR1 (aCons (sC (.int 2)) aNil)) (gN 5) (sSeq (sSet 6 (sLst (aCons (sCallK 3 1 4 (fun ds es => ds ++ ((es.drop 0).take 1 ++ [])) f_sure (aCons (sVar 7) (aCons (sVar 8) (aCons (sVar 9) aNil))) (aCons (sVar 3) aNil)) (aCons (sCallK 3 1 4 (fun ds es => ds ++ ((es.drop 0).take 1 ++ [])) f_likely (aCons (sVar 7) (aCons (sVar 8) (aCons (sVar 9) aNil))) (aCons (sVar 3) aNil)) aNil)))) (sSeq (sIf (bNot (sTst (sCall 2 f__law_alike (aCons (sVar 6) (aCons (sLst (aCons (sVar 13) (aCons (sVar 14) aNil))) aNil))))) (sRet (sC (.bl false))) sNil) (sSeq (sDo (sM1 dApp (s2 dIx (sVar 6) (sC (.int 0))) (sTup aNil))) (sDo (sM1 dApp (s2 dIx (sVar 6) (sC (.int 1))) (sTup aNil))))))) (sSeq (sSet 6 (sLst (aCons (sCallK 3 0 4 (fun ds es => ds ++ ([(.ktup [(.int 0), (.int 0)])] ++ [])) f_sure (aCons (sVar 7) (aCons (sVar 8) (aCons (sVar 9) aNil))) aNil) (aCons (sCallK 3 0 4 (fun ds es => ds ++ ([(.ktup [(.int 0), (.int 0)])] ++ [])) f_likely (aCons (sVar 7) (aCons (sVar 8) (aCons (sVar 9) aNil))) aNil) aNil)))) (sIf (bAnd (sTst (s2 dEq (sVar 3) (sTup (aCons (sC (.int 0)) (aCons (sC (.int 0)) aNil))))) (sTst (s2 dNe (sVar 6) (sLst (aCons (sVar 13) (aCons (sVar 14) aNil)))))) (sRet (sC (.bl false))) sNil))))))))) (sRet (sC (.bl true)))))
def f_law_k04 : List D → Mu → Res D := run 18 b_law_k04
def b_law_k05 : SSt := (sSeq (sSet 1 (sCall 1 f__law_row (aCons (sVar 0) aNil))) (sSeq (sPar3 4 5 6 (aCons (sCall 3 f__law_lights (aCons (sVar 1) (aCons (sC (.int 9)) (aCons (sC (.int 6)) aNil)))) (aCons (sCall 3 f__law_lights (aCons (sVar 1) (aCons (sC (.int 9)) (aCons (sC (.int 6)) aNil)))) (aCons (sCall 1 f__law_rule (aCons (sVar 1) aNil)) aNil)))) (sSeq (sAsg (sCallK 3 0 4 (fun ds es => ds ++ ([(.ktup [(.int 0), (.int 0)])] ++ [])) f_pairing (aCons (sVar 4) (aCons (sVar 5) (aCons (sVar 6) aNil))) aNil) (gT (gsCons (gN 7) (gsCons (gN 8) (gsCons (gN 9) gsNil))))) (sSeq (sPar 10 11 (aCons (sCallK 3 0 4 (fun ds es => ds ++ ([(.ktup [(.int 0), (.int 0)])] ++ [])) f_sure (aCons (sVar 4) (aCons (sVar 5) (aCons (sVar 6) aNil))) aNil) (aCons (sCallK 3 0 4 (fun ds es => ds ++ ([(.ktup [(.int 0), (.int 0)])] ++ [])) f_likely (aCons (sVar 4) (aCons (sVar 5) (aCons (sVar 6) aNil))) aNil) aNil))) (sSeq (sIf (bOr (sTst (s2 dNe (sLc (iVal (sVar 10)) (gN 2) (sTst (s2 dNotIn (sVar 2) (sVar 7))) (sVar 2) [2]) (sLst aNil))) (sTst (s2 dNe (sLc (iVal (sVar 7)) (gN 2) (sTst (s2 dNotIn (sVar 2) (sVar 11))) (sVar 2) [2]) (sLst aNil)))) (sRet (sC (.bl false))) sNil) (sSeq (sIf (bOr (bNot (sTst (sCallK 5 0 6 (fun ds es => ds ++ ([(.ktup [(.int 0), (.int 0)])] ++ [])) f_settles (aCons (sVar 4) (aCons (sVar 5) (aCons (sVar 6) (aCons (sVar 7) (aCons (sVar 9) aNil))))) aNil))) (sTst (s2 dNe (sB dList (aCons (sVar 7) aNil)) (sB dSortP (aCons (sVar 7) aNil))))) (sRet (sC (.bl false))) sNil) (sSeq (sIf (sTst (s2 dNe (sVar 7) (sTup aNil))) (sSeq (sPar 19 20 (aCons (s2 dIx (sVar 7) (s2 dSub (sB dLen (aCons (sVar 7) aNil)) (sC (.int 1)))) (aCons (s2 dIx (sVar 7) (sC (.int 0))) aNil))) (sSeq (sSet 12 (sLc (iR1 (aCons (sB dLen (aCons (sVar 4) aNil)) aNil)) (gN 3) bYes (s2 dAdd (s2 dSub (s2 dIx (s2 dIx (sVar 9) (sC (.int 0))) (sVar 3)) (sB dInt (aCons (s2 dEq (sVar 3) (s2 dIx (sVar 19) (sC (.int 0)))) aNil))) (sB dInt (aCons (s2 dEq (sVar 3) (s2 dIx (sVar 20) (sC (.int 0)))) aNil))) [3])) (sSeq (sSet 13 (sLc (iR1 (aCons (sB dLen (aCons (sVar 4) aNil)) aNil)) (gN 3) bYes (s2 dAdd (s2 dIx (s2 dIx (sVar 9) (sC (.int 0))) (sVar 3)) (sB dInt (aCons (s2 dEq (sVar 3) (s2 dIx (sVar 19) (sC (.int 0)))) aNil))) [3])) (sFor (iVal (sTup (aCons (sB dTuple (aCons (sVar 12) aNil)) (aCons (sB dTuple (aCons (sVar 13) aNil)) aNil)))) (gN 14) (sSeq (sSet 21 (sCall 5 f__law_shows (aCons (sVar 4) (aCons (sVar 5) (aCons (sVar 6) (aCons (sVar 7) (aCons (sTup (aCons (sVar 14) (aCons (s2 dIx (sVar 9) (sC (.int 1))) aNil))) aNil))))))) (sIf (sTst (s2 dNe (sCallK 5 0 6 (fun ds es => ds ++ ([(.ktup [(.int 0), (.int 0)])] ++ [])) f_settles (aCons (sVar 4) (aCons (sVar 5) (aCons (sVar 6) (aCons (sVar 7) (aCons (sTup (aCons (sVar 14) (aCons (s2 dIx (sVar 9) (sC (.int 1))) aNil))) aNil))))) aNil) (sVar 21))) (sRet (sC (.bl false))) sNil)))))) sNil) (sSeq (sFor (iVal (sSl (sVar 11) oNo (oSo (sC (.int 4))))) (gN 2) (sSeq (sSet 15 (sB dTuple (aCons (sLc (iR1 (aCons (sB dLen (aCons (sVar 4) aNil)) aNil)) (gN 3) (sTst (s2 dNe (sVar 3) (s2 dIx (sVar 2) (sC (.int 0))))) (s2 dIx (sVar 4) (sVar 3)) [3]) aNil))) (sSeq (sSet 16 (sB dTuple (aCons (sLc (iR1 (aCons (sB dLen (aCons (sVar 5) aNil)) aNil)) (gN 3) (sTst (s2 dNe (sVar 3) (s2 dIx (sVar 2) (sC (.int 1))))) (s2 dIx (sVar 5) (sVar 3)) [3]) aNil))) (sSeq (sPar 17 13 (aCons (sCallK 3 0 4 (fun ds es => ds ++ ([(.ktup [(.int 0), (.int 0)])] ++ [])) f_pairing (aCons (sVar 15) (aCons (sVar 16) (aCons (sVar 6) aNil))) aNil) (aCons (sCall 3 f__law_cost (aCons (s2 dIx (sVar 4) (s2 dIx (sVar 2) (sC (.int 0)))) (aCons (s2 dIx (sVar 5) (s2 dIx (sVar 2) (sC (.int 1)))) (aCons (sVar 6) aNil)))) aNil))) (sIf (bOr (sTst (s2 dNe (s2 dAdd (sB dLen (aCons (s2 dIx (sVar 17) (sC (.int 0))) aNil)) (sC (.int 1))) (sB dLen (aCons (sVar 7) aNil)))) (sTst (s2 dNe (s2 dAdd (s2 dIx (sVar 17) (sC (.int 1))) (sVar 13)) (sVar 8)))) (sRet (sC (.bl false))) sNil))))) (sSeq (sFor (iR1 (aCons (sB dLen (aCons (sVar 4) aNil)) aNil)) (gN 3) (sSeq (sSet 15 (s2 dAdd (sSl (sVar 4) oNo (oSo (sVar 3))) (sSl (sVar 4) (oSo (s2 dAdd (sVar 3) (sC (.int 1)))) oNo))) (sSeq (sSet 17 (sCallK 3 0 4 (fun ds es => ds ++ ([(.ktup [(.int 0), (.int 0)])] ++ [])) f_pairing (aCons (sVar 15) (aCons (sVar 5) (aCons (sVar 6) aNil))) aNil)) (sSeq (sSet 18 (sOr (s2 dLt (sB dLen (aCons (s2 dIx (sVar 17) (sC (.int 0))) aNil)) (sB dLen (aCons (sVar 7) aNil))) (s2 dGt (s2 dIx (sVar 17) (sC (.int 1))) (sVar 8)))) (sIf (bOr (bAnd (sTst (s2 dNe (sLc (iVal (sVar 10)) (gN 2) (sTst (s2 dEq (s2 dIx (sVar 2) (sC (.int 0))) (sVar 3))) (sVar 2) [2]) (sLst aNil))) (bNot (sTst (sVar 18)))) (sTst (s2 dLt (sB dLen (aCons (s2 dIx (sVar 17) (sC (.int 0))) aNil)) (s2 dSub (sB dLen (aCons (sVar 7) aNil)) (sC (.int 1)))))) (sRet (sC (.bl false))) sNil))))) (sRet (sC (.bl true))))))))))))
def f_law_k05 : List D → Mu → Res D := run 22 b_law_k05
def b__law_way : SSt := (sSeq (sSet 3 (sLst (aCons (sTup (aCons (sVar 1) (aCons (sVar 2) aNil))) (aCons (sTup (aCons (s2 dSub (sC (.int 0)) (sVar 2)) (aCons (sVar 1) aNil))) (aCons (sTup (aCons (s2 dSub (sC (.int 0)) (sVar 1)) (aCons (s2 dSub (sC (.int 0)) (sVar 2)) aNil))) (aCons (sTup (aCons (sVar 2) (aCons (s2 dSub (sC (.int 0)) (sVar 1)) aNil))) (aCons (sTup (aCons (s2 dSub (sC (.int 0)) (sVar 1)) (aCons (sVar 2) aNil))) (aCons (sTup (aCons (sVar 2) (aCons (sVar 1) aNil))) (aCons (sTup (aCons (sVar 1) (aCons (s2 dSub (sC (.int 0)) (sVar 2)) aNil))) (aCons (sTup (aCons (s2 dSub (sC (.int 0)) (sVar 2)) (aCons (s2 dSub (sC (.int 0)) (sVar 1)) aNil))) aNil)))))))))) (sRet (s2 dIx (sVar 3) (sVar 0))))
def f__law_way : List D → Mu → Res D := run 4 b__law_way
def b_law_k06 : SSt := (sSeq (sSet 1 (sCall 1 f__law_row (aCons (sVar 0) aNil))) (sSeq (sFor (iR1 (aCons (sC (.int 4)) aNil)) (gN 2) (sSeq (sAsg (sTup (aCons (sCall 3 f__law_lights (aCons (sVar 1) (aCons (sC (.int 8)) (aCons (sC (.int 9)) aNil)))) (aCons (sCall 2 f__law_taken (aCons (sVar 1) (aCons (sC (.int 8)) aNil))) aNil))) (gT (gsCons (gN 5) (gsCons (gN 6) gsNil)))) (sSeq (sSet 3 (sTup aNil)) (sSeq (sFor (iVal (sVar 5)) (gT (gsCons (gN 7) (gsCons (gN 8) (gsCons (gN 9) gsNil)))) (sSeq (sSet 10 (sCall 3 f__law_way (aCons (sVar 6) (aCons (sVar 7) (aCons (sVar 8) aNil))))) (sSet 3 (s2 dAdd (sVar 3) (sTup (aCons (s2 dAdd (sVar 10) (sTup (aCons (sVar 9) aNil))) aNil)))))) (sSeq (sIf (bNot (sTst (sCall 2 f__law_alike (aCons (sCall 2 f_turned (aCons (sVar 5) (aCons (sVar 6) aNil))) (aCons (sVar 3) aNil))))) (sRet (sC (.bl false))) sNil) (sSeq (sSet 4 (s2 dIx (sLst (aCons (s2 dAdd (sC (.int 8)) (s2 dMul (sCall 2 f__law_taken (aCons (sVar 1) (aCons (sC (.int 2)) aNil))) (sCall 2 f__law_taken (aCons (sVar 1) (aCons (sC (.int 99)) aNil))))) (aCons (s2 dSub (sC (.int 0)) (sC (.int 1))) (aCons (sC .non) (aCons (sC (.bl true)) (aCons (sC (.str "1")) aNil)))))) (sCall 2 f__law_taken (aCons (sVar 1) (aCons (sC (.int 5)) aNil))))) (sIf (sTst (s2 dNe (sLam 6 b__law_word (sCall 2 f_turned (aCons (sVar 5) (aCons (sVar 4) aNil)))) (sTup (aCons (sC (.str "count")) (aCons (sC .non) aNil))))) (sRet (sC (.bl false))) sNil))))))) (sRet (sC (.bl true)))))
def f_law_k06 : List D → Mu → Res D := run 11 b_law_k06
def b__law_epochs : SSt := (sRet (sLc (iR1 (aCons (s2 dAdd (sC (.int 2)) (sCall 2 f__law_taken (aCons (sVar 0) (aCons (sC (.int 5)) aNil)))) aNil)) (gN 3) bYes (sCall 3 f__law_lights (aCons (sVar 0) (aCons (sVar 1) (aCons (sVar 2) aNil)))) [3]))
def f__law_epochs : List D → Mu → Res D := run 4 b__law_epochs
def b__law_tracks : SSt := (sSeq (sSet 3 sDic) (sSeq (sFor (iR1 (aCons (sB dLen (aCons (sVar 0) aNil)) aNil)) (gN 4) (sFor (iR2 (aCons (s2 dAdd (sVar 4) (sC (.int 1))) (aCons (sB dLen (aCons (sVar 0) aNil)) aNil))) (gN 6) (sFor (iVal (s2 dIx (sVar 0) (sVar 4))) (gT (gsCons (gN 13) (gsCons (gN 14) (gsCons (gN 15) gsNil)))) (sFor (iVal (s2 dIx (sVar 0) (sVar 6))) (gT (gsCons (gN 16) (gsCons (gN 17) (gsCons (gN 18) gsNil)))) (sSeq (sSet 19 (s2 dSub (sVar 6) (sVar 4))) (sSeq (sSet 8 (sTup (aCons (s2 dDiv (s2 dSub (sVar 16) (sVar 13)) (sVar 19)) (aCons (s2 dDiv (s2 dSub (sVar 17) (sVar 14)) (sVar 19)) aNil)))) (sSeq (sSet 20 (s2 dEq (sTup (aCons (s2 dAdd (sVar 13) (s2 dMul (s2 dIx (sVar 8) (sC (.int 0))) (sVar 19))) (aCons (s2 dAdd (sVar 14) (s2 dMul (s2 dIx (sVar 8) (sC (.int 1))) (sVar 19))) aNil))) (sTup (aCons (sVar 16) (aCons (sVar 17) aNil))))) (sIf (bAnd (sTst (sVar 20)) (bAnd (sTst (s2 dLt (s2 dSub (sC (.int 0)) (sC (.int 51))) (sB dMin1 (aCons (sVar 8) aNil)))) (sTst (s2 dLt (sB dMax1 (aCons (sVar 8) aNil)) (sC (.int 51)))))) (sPut (sC (.bl true)) (sVar 3) (sTup (aCons (sTup (aCons (s2 dSub (sVar 13) (s2 dMul (s2 dIx (sVar 8) (sC (.int 0))) (sVar 4))) (aCons (s2 dSub (sVar 14) (s2 dMul (s2 dIx (sVar 8) (sC (.int 1))) (sVar 4))) aNil))) (aCons (sVar 8) aNil)))) sNil)))))))) (sSeq (sSet 5 (sLst aNil)) (sSeq (sFor (iVal (sB dSortP (aCons (sVar 3) aNil))) (gT (gsCons (gN 7) (gsCons (gN 8) gsNil))) (sSeq (sPar 10 11 (aCons (sTup aNil) (aCons (sLst aNil) aNil))) (sSeq (sFor (iR1 (aCons (sB dLen (aCons (sVar 0) aNil)) aNil)) (gN 9) (sSeq (sSet 12 (sLc (iR1 (aCons (sB dLen (aCons (s2 dIx (sVar 0) (sVar 9)) aNil)) aNil)) (gN 21) (sTst (s2 dEq (s2 dIx (s2 dIx (s2 dIx (sVar 0) (sVar 9)) (sVar 21)) (sC (.int 0))) (s2 dAdd (s2 dIx (sVar 7) (sC (.int 0))) (s2 dMul (s2 dIx (sVar 8) (sC (.int 0))) (sVar 9))))) (sVar 21) [21])) (sSeq (sSet 12 (sLc (iVal (sVar 12)) (gN 21) (sTst (s2 dEq (s2 dIx (s2 dIx (s2 dIx (sVar 0) (sVar 9)) (sVar 21)) (sC (.int 1))) (s2 dAdd (s2 dIx (sVar 7) (sC (.int 1))) (s2 dMul (s2 dIx (sVar 8) (sC (.int 1))) (sVar 9))))) (sVar 21) [21])) (sSeq (sSet 10 (s2 dAdd (sVar 10) (sTup (aCons (s2 dIx (s2 dAdd (sVar 12) (sLst (aCons (sC .non) aNil))) (sC (.int 0))) aNil)))) (sSet 11 (s2 dAdd (sVar 11) (sLc (iVal (sVar 12)) (gN 21) bYes (s2 dIx (s2 dIx (s2 dIx (sVar 0) (sVar 9)) (sVar 21)) (sC (.int 2))) [21]))))))) (sIf (bAnd (sTst (s2 dGe (sB dLen (aCons (sVar 11) aNil)) (sVar 1))) (sTst (s2 dLe (s2 dSub (sB dMax1 (aCons (sVar 11) aNil)) (sB dMin1 (aCons (sVar 11) aNil))) (sVar 2)))) (sDo (sM1 dApp (sVar 5) (sTup (aCons (sVar 7) (aCons (sVar 8) (aCons (sVar 10) aNil)))))) sNil)))) (sRet (sVar 5))))))
def f__law_tracks : List D → Mu → Res D := run 22 b__law_tracks
def b__law_planted : SSt := (sSeq (sSet 2 (sTup (aCons (s2 dSub (sCall 2 f__law_taken (aCons (sVar 0) (aCons (sC (.int 5)) aNil))) (sC (.int 2))) (aCons (s2 dSub (sCall 2 f__law_taken (aCons (sVar 0) (aCons (sC (.int 5)) aNil))) (sC (.int 2))) aNil)))) (sSeq (sSet 3 (sTup (aCons (s2 dSub (sCall 2 f__law_taken (aCons (sVar 0) (aCons (sC (.int 3)) aNil))) (sC (.int 1))) (aCons (s2 dSub (sCall 2 f__law_taken (aCons (sVar 0) (aCons (sC (.int 3)) aNil))) (sC (.int 1))) aNil)))) (sSeq (sSet 4 (sLst aNil)) (sSeq (sFor (iR1 (aCons (sB dLen (aCons (sVar 1) aNil)) aNil)) (gN 5) (sSeq (sSet 6 (sTup (aCons (s2 dAdd (s2 dIx (sVar 2) (sC (.int 0))) (s2 dMul (s2 dIx (sVar 3) (sC (.int 0))) (sVar 5))) (aCons (s2 dAdd (s2 dIx (sVar 2) (sC (.int 1))) (s2 dMul (s2 dIx (sVar 3) (sC (.int 1))) (sVar 5))) aNil)))) (sSeq (sSet 7 (sB dTuple (aCons (sLc (iVal (s2 dIx (sVar 1) (sVar 5))) (gN 8) (sTst (s2 dNe (sSl (sVar 8) oNo (oSo (sC (.int 2)))) (sVar 6))) (sVar 8) [8]) aNil))) (sDo (sM1 dApp (sVar 4) (s2 dAdd (sVar 7) (sTup (aCons (s2 dAdd (sVar 6) (sTup (aCons (sCall 2 f__law_taken (aCons (sVar 0) (aCons (sC (.int 4)) aNil))) aNil))) aNil)))))))) (sRet (sVar 4))))))
def f__law_planted : List D → Mu → Res D := run 9 b__law_planted
def b__law_beside : SSt := (sSeq (sSet 1 (sTup (aCons (s2 dSub (sCall 2 f__law_taken (aCons (sVar 0) (aCons (sC (.int 5)) aNil))) (sC (.int 2))) (aCons (s2 dSub (sCall 2 f__law_taken (aCons (sVar 0) (aCons (sC (.int 5)) aNil))) (sC (.int 2))) aNil)))) (sSeq (sSet 2 (s2 dIx (sLst (aCons (sC (.int 2)) (aCons (s2 dSub (sC (.int 0)) (sC (.int 2))) (aCons (sC (.int 4)) (aCons (s2 dSub (sC (.int 0)) (sC (.int 4))) aNil))))) (sCall 2 f__law_taken (aCons (sVar 0) (aCons (sC (.int 4)) aNil))))) (sSeq (sSet 3 (s2 dIx (sLst (aCons (sTup (aCons (sVar 2) (aCons (sC (.int 0)) aNil))) (aCons (sTup (aCons (sC (.int 0)) (aCons (sVar 2) aNil))) aNil))) (sCall 2 f__law_taken (aCons (sVar 0) (aCons (sC (.int 2)) aNil))))) (sSeq (sSet 4 (sLst aNil)) (sSeq (sFor (iR1 (aCons (sC (.int 3)) aNil)) (gN 5) (sSeq (sSet 6 (sTup (aCons (s2 dMul (s2 dIx (sVar 1) (sC (.int 0))) (sVar 5)) (aCons (s2 dMul (s2 dIx (sVar 1) (sC (.int 1))) (sVar 5)) (aCons (sC (.int 1)) aNil))))) (sDo (sM1 dApp (sVar 4) (sTup (aCons (sVar 6) (aCons (sTup (aCons (s2 dAdd (s2 dIx (sVar 6) (sC (.int 0))) (s2 dIx (sVar 3) (sC (.int 0)))) (aCons (s2 dAdd (s2 dIx (sVar 6) (sC (.int 1))) (s2 dIx (sVar 3) (sC (.int 1)))) (aCons (sC (.int 1)) aNil)))) aNil))))))) (sRet (sVar 4)))))))
def f__law_beside : List D → Mu → Res D := run 7 b__law_beside
def b__law_groups : SSt := (sSeq (sSet 2 (sLc (iR1 (aCons (sB dLen (aCons (sVar 0) aNil)) aNil)) (gN 5) bYes (sLst (aCons (sVar 5) aNil)) [5])) (sSeq (sFor (iR1 (aCons (sB dLen (aCons (sVar 0) aNil)) aNil)) (gN 3) (sFor (iR1 (aCons (sVar 3) aNil)) (gN 4) (sSeq (sAsg (sLc (iR1 (aCons (sC (.int 2)) aNil)) (gN 5) bYes (s2 dSub (s2 dIx (s2 dIx (sVar 0) (sVar 3)) (sVar 5)) (s2 dIx (s2 dIx (sVar 0) (sVar 4)) (sVar 5))) [5]) (gL (gsCons (gN 6) (gsCons (gN 7) gsNil)))) (sIf (sTst (s2 dLe (s2 dAdd (s2 dMul (sVar 6) (sVar 6)) (s2 dMul (sVar 7) (sVar 7))) (s2 dMul (sVar 1) (sVar 1)))) (sSeq (sSet 8 (s2 dIx (sLc (iVal (sVar 2)) (gN 10) (sTst (s2 dIn (sVar 3) (sVar 10))) (sVar 10) [10]) (sC (.int 0)))) (sSeq (sSet 9 (s2 dIx (sLc (iVal (sVar 2)) (gN 10) (sTst (s2 dIn (sVar 4) (sVar 10))) (sVar 10) [10]) (sC (.int 0)))) (sIf (sTst (s2 dNe (sVar 8) (sVar 9))) (sSet 2 (s2 dAdd (sLc (iVal (sVar 2)) (gN 10) (sTst (s2 dNotIn (sVar 10) (sTup (aCons (sVar 8) (aCons (sVar 9) aNil))))) (sVar 10) [10]) (sLst (aCons (s2 dAdd (sVar 8) (sVar 9)) aNil)))) sNil))) sNil)))) (sRet (sB dSortP (aCons (sLc (iVal (sVar 2)) (gN 10) bYes (sB dTuple (aCons (sB dSortP (aCons (sVar 10) aNil)) aNil)) [10]) aNil)))))
def f__law_groups : List D → Mu → Res D := run 11 b__law_groups
def b__law_blend : SSt := (sSeq (sSet 2 (sLc (iVal (sVar 1)) (gN 7) bYes (s2 dIx (s2 dIx (sVar 0) (sVar 7)) (sC (.int 2))) [7])) (sSeq (sIf (sTst (s2 dEq (sB dSumA (aCons (sVar 2) aNil)) (sC (.int 0)))) (sSet 2 (s2 dMul (sLst (aCons (sC (.int 1)) aNil)) (sB dLen (aCons (sVar 1) aNil)))) sNil) (sSeq (sPar 3 4 (aCons (sC (.int 0)) (aCons (sC (.int 0)) aNil))) (sSeq (sFor (iZp (aCons (sVar 1) (aCons (sVar 2) aNil))) (gT (gsCons (gN 5) (gsCons (gN 6) gsNil))) (sSeq (sSet 3 (s2 dAdd (sVar 3) (s2 dMul (s2 dIx (s2 dIx (sVar 0) (sVar 5)) (sC (.int 0))) (sVar 6)))) (sSet 4 (s2 dAdd (sVar 4) (s2 dMul (s2 dIx (s2 dIx (sVar 0) (sVar 5)) (sC (.int 1))) (sVar 6)))))) (sRet (sTup (aCons (s2 dDiv (sVar 3) (sB dSumA (aCons (sVar 2) aNil))) (aCons (s2 dDiv (sVar 4) (sB dSumA (aCons (sVar 2) aNil))) (aCons (sB dMin2 (aCons (sC (.int 99)) (aCons (sB dSumA (aCons (sLc (iVal (sVar 1)) (gN 7) bYes (s2 dIx (s2 dIx (sVar 0) (sVar 7)) (sC (.int 2))) [7]) aNil)) aNil))) aNil)))))))))
def f__law_blend : List D → Mu → Res D := run 8 b__law_blend
def b__law_sky : SSt := (sSeq (sPar 2 3 (aCons (sCall 3 f__law_lights (aCons (sVar 0) (aCons (sC (.int 5)) (aCons (sC (.int 3)) aNil)))) (aCons (sCall 3 f__law_lights (aCons (sVar 0) (aCons (sC (.int 5)) (aCons (sC (.int 3)) aNil)))) aNil))) (sSeq (sSet 1 (sLst (aCons (sLc (iR1 (aCons (sB dLen (aCons (sVar 2) aNil)) aNil)) (gN 4) bYes (sTup (aCons (sVar 4) (aCons (s2 dIx (sVar 2) (sVar 4)) aNil))) [4]) (aCons (sLc (iR1 (aCons (sB dLen (aCons (sVar 3) aNil)) aNil)) (gN 4) bYes (sTup (aCons (sVar 4) (aCons (s2 dIx (sVar 3) (sVar 4)) aNil))) [4]) aNil)))) (sRet (sTup (aCons (sVar 2) (aCons (sVar 3) (aCons (sCall 1 f__law_rule (aCons (sVar 0) aNil)) (aCons (s2 dAdd (sVar 1) (sLst (aCons (sLst (aCons (sB dLen (aCons (sVar 2) aNil)) (aCons (sB dLen (aCons (sVar 3) aNil)) aNil))) aNil))) aNil))))))))
def f__law_sky : List D → Mu → Res D := run 5 b__law_sky
def b__law_deed : SSt := (sSeq (sPar 5 6 (aCons (sCall 2 f__law_taken (aCons (sVar 0) (aCons (sC (.int 2)) aNil))) (aCons (sCall 2 f__law_taken (aCons (sVar 0) (aCons (sC (.int 6)) aNil))) aNil))) (sSeq (sSet 2 (s2 dAdd (sLc (iVal (s2 dIx (sVar 1) (sVar 5))) (gT (gsCons (gN 3) (gsCons (gN 4) gsNil))) bYes (sVar 3) [3, 4]) (sLst (aCons (sC (.int 99)) aNil)))) (sSeq (sSet 3 (s2 dIx (sVar 2) (sCall 2 f__law_taken (aCons (sVar 0) (aCons (sB dLen (aCons (sVar 2) aNil)) aNil))))) (sSeq (sSet 4 (sCall 2 f__law_light (aCons (sVar 0) (aCons (sC (.int 3)) aNil)))) (sSeq (sIf (sTst (s2 dEq (sCall 2 f__law_taken (aCons (sVar 0) (aCons (sC (.int 12)) aNil))) (sC (.int 0)))) (sSet 4 (s2 dIx (sLst (aCons (sTup (aCons (sC (.int 0)) (aCons (sC (.int 0)) aNil))) (aCons (sTup (aCons (sC (.int 0)) (aCons (sC (.int 0)) (aCons (sC (.int 100)) aNil)))) (aCons (sC .non) aNil)))) (sCall 2 f__law_taken (aCons (sVar 0) (aCons (sC (.int 3)) aNil))))) sNil) (sSeq (sIf (sTst (s2 dLt (sVar 6) (sC (.int 3)))) (sRet (sTup (aCons (sC (.str "put")) (aCons (sIte (sTst (s2 dGt (sCall 2 f__law_taken (aCons (sVar 0) (aCons (sC (.int 12)) aNil))) (sC (.int 0)))) (sVar 5) (sC (.int 2))) (aCons (sVar 4) aNil))))) sNil) (sRet (sIte (sTst (s2 dEq (sVar 6) (sC (.int 3)))) (sTup (aCons (sC (.str "drop")) (aCons (sVar 5) (aCons (sVar 3) aNil)))) (sTup (aCons (sC (.str "move")) (aCons (sVar 5) (aCons (sVar 3) (aCons (sVar 4) aNil)))))))))))))
def f__law_deed : List D → Mu → Res D := run 7 b__law_deed
def b__law_pairs : SSt := (sSeq (sSet 2 (sCallK 3 0 4 (fun ds es => ds ++ ([(.ktup [(.int 0), (.int 0)])] ++ [])) f_sure (aCons (sB dTuple (aCons (sLc (iVal (s2 dIx (sVar 0) (sC (.int 0)))) (gT (gsCons (gN 5) (gsCons (gN 6) gsNil))) bYes (sVar 6) [5, 6]) aNil)) (aCons (sB dTuple (aCons (sLc (iVal (s2 dIx (sVar 0) (sC (.int 1)))) (gT (gsCons (gN 5) (gsCons (gN 6) gsNil))) bYes (sVar 6) [5, 6]) aNil)) (aCons (sVar 1) aNil))) aNil)) (sRet (sB dSortP (aCons (sLc (iVal (sVar 2)) (gT (gsCons (gN 3) (gsCons (gN 4) gsNil))) bYes (sTup (aCons (s2 dIx (s2 dIx (s2 dIx (sVar 0) (sC (.int 0))) (sVar 3)) (sC (.int 0))) (aCons (s2 dIx (s2 dIx (s2 dIx (sVar 0) (sC (.int 1))) (sVar 4)) (sC (.int 0))) aNil))) [3, 4]) aNil))))
def f__law_pairs : List D → Mu → Res D := run 7 b__law_pairs
def b__law_done : SSt := (sSeq (sSet 2 (s2 dIx (sVar 1) (sC (.int 1)))) (sSeq (sIf (sTst (s2 dEq (sVar 2) (sC (.int 2)))) (sRet (sTup (aCons (sC (.str "nolight")) (aCons (sC .non) aNil)))) sNil) (sSeq (sSet 3 (s2 dIx (sVar 0) (sVar 2))) (sSeq (sIf (bAnd (sTst (s2 dEq (s2 dIx (sVar 1) (sC (.int 0))) (sC (.str "put")))) (sTst (s2 dEq (sB dLen (aCons (sVar 3) aNil)) (sC (.int 16))))) (sRet (sTup (aCons (sC (.str "lights")) (aCons (sC (.int 16)) aNil)))) sNil) (sSeq (sIf (bAnd (sTst (s2 dNe (s2 dIx (sVar 1) (sC (.int 0))) (sC (.str "put")))) (sTst (s2 dNotIn (s2 dIx (sVar 1) (sC (.int 2))) (sLc (iVal (sVar 3)) (gT (gsCons (gN 7) (gsCons (gN 4) gsNil))) bYes (sVar 7) [7, 4])))) (sRet (sTup (aCons (sC (.str "nolight")) (aCons (sC .non) aNil)))) sNil) (sSeq (sSet 4 (s2 dIx (sVar 1) (s2 dSub (sB dLen (aCons (sVar 1) aNil)) (sC (.int 1))))) (sSeq (sSet 5 (sLc (iVal (sVar 3)) (gT (gsCons (gN 7) (gsCons (gN 8) gsNil))) (bOr (sTst (s2 dEq (s2 dIx (sVar 1) (sC (.int 0))) (sC (.str "put")))) (sTst (s2 dNe (sVar 7) (s2 dIx (sVar 1) (sC (.int 2)))))) (sVar 8) [7, 8])) (sSeq (sIf (sTst (s2 dNe (s2 dIx (sVar 1) (sC (.int 0))) (sC (.str "drop")))) (sSeq (sSet 6 (sAnd (s1 (dIsi [Ty.tuple]) (sVar 4)) (sAnd (s2 dEq (sB dLen (aCons (sVar 4) aNil)) (sC (.int 3))) (s2 dLt (s2 dIx (sVar 4) (sC (.int 2))) (sC (.int 100)))))) (sIf (bOr (bNot (sTst (sVar 6))) (sTst (s2 dIn (sSl (sVar 4) oNo (oSo (sC (.int 2)))) (sLc (iVal (sVar 5)) (gN 8) bYes (sSl (sVar 8) oNo (oSo (sC (.int 2)))) [8])))) (sRet (sTup (aCons (sC (.str "lights")) (aCons (sB dLen (aCons (sVar 5) aNil)) aNil)))) sNil)) sNil) (sSeq (sIf (sTst (s2 dEq (s2 dIx (sVar 1) (sC (.int 0))) (sC (.str "put")))) (sSeq (sPut (s2 dAdd (sVar 3) (sLst (aCons (sTup (aCons (s2 dIx (s2 dIx (sVar 0) (sC (.int 2))) (sVar 2)) (aCons (sVar 4) aNil))) aNil))) (sVar 0) (sVar 2)) (sPut (s2 dAdd (s2 dIx (s2 dIx (sVar 0) (sC (.int 2))) (sVar 2)) (sC (.int 1))) (s2 dIx (sVar 0) (sC (.int 2))) (sVar 2))) (sIf (sTst (s2 dEq (s2 dIx (sVar 1) (sC (.int 0))) (sC (.str "drop")))) (sPut (sLc (iVal (sVar 3)) (gN 9) (sTst (s2 dNe (s2 dIx (sVar 9) (sC (.int 0))) (s2 dIx (sVar 1) (sC (.int 2))))) (sVar 9) [9]) (sVar 0) (sVar 2)) (sPut (sLc (iVal (sVar 3)) (gT (gsCons (gN 7) (gsCons (gN 8) gsNil))) bYes (sTup (aCons (sVar 7) (aCons (sIte (sTst (s2 dEq (sVar 7) (s2 dIx (sVar 1) (sC (.int 2))))) (sVar 4) (sVar 8)) aNil))) [7, 8]) (sVar 0) (sVar 2)))) (sRet (sTup (aCons (sC (.str "")) (aCons (sC .non) aNil)))))))))))))
def f__law_done : List D → Mu → Res D := run 10 b__law_done
def b__law_due : SSt := (sSeq (sPar 6 7 (aCons (sCall 2 f__law_pairs (aCons (sVar 0) (aCons (sVar 2) aNil))) (aCons (sB dList (aCons (s2 dIx (sVar 0) (sC (.int 2))) aNil)) aNil))) (sSeq (sSet 3 (sCall 2 f__law_done (aCons (sVar 0) (aCons (sVar 1) aNil)))) (sSeq (sIf (sTst (s2 dNe (s2 dIx (sVar 3) (sC (.int 0))) (sC (.str "")))) (sRet (sVar 3)) sNil) (sSeq (sSet 4 (sCall 2 f__law_pairs (aCons (sVar 0) (aCons (sVar 2) aNil)))) (sSeq (sSet 5 (sTup (aCons (sLc (iVal (sVar 6)) (gN 8) (sTst (s2 dNotIn (sVar 8) (sVar 4))) (sVar 8) [8]) (aCons (sLc (iVal (sVar 4)) (gN 8) (sTst (s2 dNotIn (sVar 8) (sVar 6))) (sVar 8) [8]) aNil)))) (sRet (sTup (aCons (sC (.str "")) (aCons (sIte (sTst (s2 dEq (s2 dIx (sVar 1) (sC (.int 0))) (sC (.str "put")))) (s2 dAdd (sTup (aCons (s2 dIx (sVar 7) (s2 dIx (sVar 1) (sC (.int 1)))) aNil)) (sVar 5)) (sVar 5)) aNil)))))))))
def f__law_due : List D → Mu → Res D := run 9 b__law_due
def b__law_number_of : SSt := (sSeq (sSet 1 (sIte (sTst (s2 dEq (sSl (sVar 0) oNo (oSo (sC (.int 1)))) (sC (.str "-")))) (sSl (sVar 0) (oSo (sC (.int 1))) oNo) (sVar 0))) (sSeq (sIf (bOr (bNot (sTst (sChain dLe dLe (sC (.int 1)) (sB dLen (aCons (sVar 1) aNil)) (sC (.int 3))))) (sTst (s2 dNe (sLc (iVal (sVar 1)) (gN 2) (sTst (s2 dNotIn (sVar 2) (sC (.str "0123456789")))) (sVar 2) [2]) (sLst aNil)))) (sRet (sC .non)) sNil) (sRet (sIte (bAnd (sTst (s2 dEq (s2 dIx (sVar 1) (sC (.int 0))) (sC (.str "0")))) (sTst (s2 dNe (sVar 0) (sC (.str "0"))))) (sC .non) (sB dInt (aCons (sVar 0) aNil))))))
def f__law_number_of : List D → Mu → Res D := run 3 b__law_number_of
def b_law_k23 : SSt := (sSeq (sSet 1 (sCall 1 f__law_row (aCons (sVar 0) aNil))) (sSeq (sPar3 7 8 9 (aCons (sCall 3 f__law_lights (aCons (sVar 1) (aCons (sC (.int 8)) (aCons (sC (.int 5)) aNil)))) (aCons (sCall 3 f__law_lights (aCons (sVar 1) (aCons (sC (.int 8)) (aCons (sC (.int 5)) aNil)))) (aCons (sCall 1 f__law_rule (aCons (sVar 1) aNil)) aNil)))) (sSeq (sSet 2 (sTup (aCons (s2 dAdd (s2 dIx (sVar 9) (sC (.int 0))) (sCall 2 f__law_taken (aCons (sVar 1) (aCons (sC (.int 4)) aNil)))) (aCons (sB dMin2 (aCons (sC (.int 99)) (aCons (s2 dAdd (s2 dIx (sVar 9) (sC (.int 1))) (sCall 2 f__law_taken (aCons (sVar 1) (aCons (sC (.int 3)) aNil)))) aNil))) (aCons (s2 dIx (sVar 9) (sC (.int 2))) aNil))))) (sSeq (sPar 10 11 (aCons (sCallK 3 0 4 (fun ds es => ds ++ ([(.ktup [(.int 0), (.int 0)])] ++ [])) f_pairing (aCons (sVar 7) (aCons (sVar 8) (aCons (sVar 9) aNil))) aNil) (aCons (sCallK 3 0 4 (fun ds es => ds ++ ([(.ktup [(.int 0), (.int 0)])] ++ [])) f_pairing (aCons (sVar 7) (aCons (sVar 8) (aCons (sVar 2) aNil))) aNil) aNil))) (sSeq (sIf (bOr (sTst (s2 dLt (sB dLen (aCons (s2 dIx (sVar 11) (sC (.int 0))) aNil)) (sB dLen (aCons (s2 dIx (sVar 10) (sC (.int 0))) aNil)))) (bAnd (sTst (s2 dEq (sB dLen (aCons (s2 dIx (sVar 11) (sC (.int 0))) aNil)) (sB dLen (aCons (s2 dIx (sVar 10) (sC (.int 0))) aNil)))) (sTst (s2 dGt (s2 dIx (sVar 11) (sC (.int 1))) (s2 dIx (sVar 10) (sC (.int 1))))))) (sRet (sC (.bl false))) sNil) (sSeq (sIf (sTst (s2 dNe (sCallK 5 0 6 (fun ds es => ds ++ ([(.ktup [(.int 0), (.int 0)])] ++ [])) f_settles (aCons (sVar 7) (aCons (sVar 8) (aCons (sVar 2) (aCons (s2 dIx (sVar 10) (sC (.int 0))) (aCons (s2 dIx (sVar 11) (sC (.int 2))) aNil))))) aNil) (s2 dEq (sTup (aCons (sB dLen (aCons (s2 dIx (sVar 10) (sC (.int 0))) aNil)) (aCons (s2 dIx (sVar 10) (sC (.int 1))) aNil))) (sTup (aCons (sB dLen (aCons (s2 dIx (sVar 11) (sC (.int 0))) aNil)) (aCons (s2 dIx (sVar 11) (sC (.int 1))) aNil)))))) (sRet (sC (.bl false))) sNil) (sSeq (sSet 3 (s2 dAdd (sSl (sVar 9) oNo (oSo (sC (.int 2)))) (sTup (aCons (s2 dAdd (s2 dIx (sVar 9) (sC (.int 2))) (sC (.int 1))) aNil)))) (sSeq (sSet 4 (sCallK 3 0 4 (fun ds es => ds ++ ([(.ktup [(.int 0), (.int 0)])] ++ [])) f_pairing (aCons (sVar 7) (aCons (sVar 8) (aCons (sVar 3) aNil))) aNil)) (sSeq (sIf (bOr (sTst (s2 dNe (sB dLen (aCons (s2 dIx (sVar 4) (sC (.int 0))) aNil)) (sB dLen (aCons (s2 dIx (sVar 10) (sC (.int 0))) aNil)))) (sTst (s2 dLt (s2 dIx (sVar 4) (sC (.int 1))) (s2 dIx (sVar 10) (sC (.int 1)))))) (sRet (sC (.bl false))) sNil) (sSeq (sIf (bAnd (sTst (s2 dEq (s2 dIx (sVar 9) (sC (.int 1))) (sC (.int 0)))) (sTst (s2 dNe (s2 dIx (sVar 4) (sC (.int 1))) (s2 dIx (sVar 10) (sC (.int 1)))))) (sRet (sC (.bl false))) sNil) (sSeq (sIf (bAnd (sTst (s2 dEq (s2 dIx (sVar 9) (sC (.int 1))) (sC (.int 0)))) (sTst (s2 dNe (sCallK 3 0 4 (fun ds es => ds ++ ([(.ktup [(.int 0), (.int 0)])] ++ [])) f_sure (aCons (sVar 7) (aCons (sVar 8) (aCons (sVar 3) aNil))) aNil) (sCallK 3 0 4 (fun ds es => ds ++ ([(.ktup [(.int 0), (.int 0)])] ++ [])) f_sure (aCons (sVar 7) (aCons (sVar 8) (aCons (sVar 9) aNil))) aNil)))) (sRet (sC (.bl false))) sNil) (sSeq (sSet 5 (sCall 2 f__law_taken (aCons (sVar 1) (aCons (sC (.int 5)) aNil)))) (sSeq (sPar 12 13 (aCons (sCall 2 f_groups (aCons (sVar 7) (aCons (sVar 5) aNil))) (aCons (sCall 2 f_groups (aCons (sVar 7) (aCons (s2 dAdd (sVar 5) (sC (.int 1))) aNil))) aNil))) (sSeq (sFor (iVal (sVar 12)) (gN 6) (sIf (sTst (s2 dNe (sB dLen (aCons (sLc (iVal (sVar 13)) (gN 14) (sTst (s2 dEq (sLc (iVal (sVar 6)) (gN 15) (sTst (s2 dNotIn (sVar 15) (sVar 14))) (sVar 15) [15]) (sLst aNil))) (sVar 14) [14]) aNil)) (sC (.int 1)))) (sRet (sC (.bl false))) sNil)) (sRet (sAnd (s2 dEq (sB dLen (aCons (s2 dIx (sCallK 3 0 4 (fun ds es => ds ++ ([(.ktup [(.int 0), (.int 0)])] ++ [])) f_pairing (aCons (sVar 7) (aCons (sVar 7) (aCons (sVar 9) aNil))) aNil) (sC (.int 0))) aNil)) (sB dLen (aCons (sVar 7) aNil))) (s2 dEq (s2 dIx (sCallK 3 0 4 (fun ds es => ds ++ ([(.ktup [(.int 0), (.int 0)])] ++ [])) f_pairing (aCons (sVar 7) (aCons (sVar 7) (aCons (sVar 9) aNil))) aNil) (sC (.int 1))) (sC (.int 0)))))))))))))))))))
def f_law_k23 : List D → Mu → Res D := run 16 b_law_k23
end Px
set_option Elab.async false
set_option linter.all false
set_option maxRecDepth 100000
set_option maxHeartbeats 1000000
namespace Px
open PySem PySem.Spec PyProof.Rows L2 Rx
/-! ### the readings, applied -/
@[simp] theorem e_sVar (i : Nat) (s : Sd) (m : Mu) : sVar i s m = (match s[i]? with
  | some (some d) => .ok d m
  | _ => .stuck) := rfl
@[simp] theorem e_sC (d : D) (u0_ : Sd) (m : Mu) : sC d u0_ m = (.ok d m) := rfl
@[simp] theorem e_s2 (g : D → D → Mu → Res D) (a b : SEx) (s : Sd) (m : Mu) : s2 g a b s m = ((a s m).bind fun x m => (b s m).bind fun y m => g x y m) := rfl
@[simp] theorem e_s1 (g : D → Mu → Res D) (a : SEx) (s : Sd) (m : Mu) : s1 g a s m = ((a s m).bind fun x m => g x m) := rfl
@[simp] theorem e_aNil (u0_ : Sd) (m : Mu) : aNil  u0_ m = (.ok [] m) := rfl
@[simp] theorem e_aCons (a : SEx) (r : SAr) (s : Sd) (m : Mu) : aCons a r s m = ((a s m).bind fun x m => (r s m).bind fun xs m => .ok (x :: xs) m) := rfl
@[simp] theorem e_sTup (a : SAr) (s : Sd) (m : Mu) : sTup a s m = ((a s m).bind fun ds m => if ds.length ≤ 1000 then .ok (.tup ds) m else .stuck) := rfl
@[simp] theorem e_sLst (a : SAr) (s : Sd) (m : Mu) : sLst a s m = ((a s m).bind fun ds m => if ds.length ≤ 1000 then .ok (.lst ds) m else .stuck) := rfl
@[simp] theorem e_sNew (a : SAr) (s : Sd) (m : Mu) : sNew a s m = ((a s m).bind fun ds m => if ds.length ≤ 1000 then .ok (.ref m.length) (m ++ [.lst ds]) else .stuck) := rfl
@[simp] theorem e_Res.toS {α : Type} (r : Res α) (s : Sd) (f : α → Mu → SRes) : Res.toS r s f = (match r with
  | .ok a m => f a m
  | .exc x m => .exc x s m
  | .stuck => .stuck) := rfl
@[simp] theorem e_sNil (s : Sd) (m : Mu) : sNil  s m = (.nx s m) := rfl
@[simp] theorem e_sSeq (a b : SSt) (s : Sd) (m : Mu) : sSeq a b s m = (match a s m with
  | .nx s' m' => b s' m'
  | r => r) := rfl
@[simp] theorem e_sSet (i : Nat) (f : SEx) (s : Sd) (m : Mu) : sSet i f s m = ((f s m).toS s fun d m' => .nx (s.set i (some d)) m') := rfl
@[simp] theorem e_sRet (f : SEx) (s : Sd) (m : Mu) : sRet f s m = ((f s m).toS s fun d m' => .ret d m') := rfl
@[simp] theorem e_sRetN (s : Sd) (m : Mu) : sRetN  s m = (.ret .non m) := rfl
@[simp] theorem e_sDo (f : SEx) (s : Sd) (m : Mu) : sDo f s m = ((f s m).toS s fun _ m' => .nx s m') := rfl
@[simp] theorem e_sIf (c : SBl) (a b : SSt) (s : Sd) (m : Mu) : sIf c a b s m = ((c s m).toS s fun k m' => if k = true then a s m' else b s m') := rfl
@[simp] theorem e_sCont (s : Sd) (m : Mu) : sCont  s m = (.ct s m) := rfl
@[simp] theorem e_sBrk (s : Sd) (m : Mu) : sBrk  s m = (.bk s m) := rfl
@[simp] theorem e_gN (i : Nat) (d : D) (s : Sd) : gN i d s = (some (s.set i (some d))) := rfl
@[simp] theorem e_gT (t : STgs) (d : D) (s : Sd) : gT t d s = (match tupOf d with
  | some ds => t ds s
  | none => none) := rfl
@[simp] theorem e_gsNil (ds : List D) (s : Sd) : gsNil  ds s = (match ds with
  | [] => some s
  | _ => none) := rfl
@[simp] theorem e_gsCons (g : STg) (r : STgs) (ds : List D) (s : Sd) : gsCons g r ds s = (match ds with
  | d :: ds => (g d s).bind fun s' => r ds s'
  | _ => none) := rfl
@[simp] theorem e_sAsg (f : SEx) (g : STg) (s : Sd) (m : Mu) : sAsg f g s m = ((f s m).toS s fun d m' => match g d s with
  | some s' => .nx s' m'
  | none => .stuck) := rfl
@[simp] theorem e_sPar (i j : Nat) (a : SAr) (s : Sd) (m : Mu) : sPar i j a s m = ((a s m).toS s fun ds m' => match ds with
  | [x, y] => .nx ((s.set i (some x)).set j (some y)) m'
  | _ => .stuck) := rfl
@[simp] theorem e_sPar3 (i j l : Nat) (a : SAr) (s : Sd) (m : Mu) : sPar3 i j l a s m = ((a s m).toS s fun ds m' => match ds with
  | [x, y, z] => .nx (((s.set i (some x)).set j (some y)).set l (some z)) m'
  | _ => .stuck) := rfl
@[simp] theorem e_sFor (src : SAr) (g : STg) (body : SSt) (s : Sd) (m : Mu) : sFor src g body s m = ((src s m).toS s fun ds m' => forL g body ds s m') := rfl
@[simp] theorem e_sWhile (n : Nat) (c : SBl) (body : SSt) (s : Sd) (m : Mu) : sWhile n c body s m = (whL c body n s m) := rfl
@[simp] theorem e_iVal (f : SEx) (s : Sd) (m : Mu) : iVal f s m = ((f s m).bind fun d m => match valsOf d with
  | some ds => .ok ds m
  | none => .stuck) := rfl
@[simp] theorem e_iEn (f : SAr) (s : Sd) (m : Mu) : iEn f s m = ((f s m).bind fun ds m => match ds with
  | [d] => (match valsOf d with
    | some ds => .ok (enumD 0 ds) m
    | none => .stuck)
  | _ => .stuck) := rfl
@[simp] theorem e_iZp (f : SAr) (s : Sd) (m : Mu) : iZp f s m = ((f s m).bind fun ds m => match ds with
  | [x, y] => (match tupOf x, tupOf y with
    | some xs, some ys => .ok (zipD xs ys) m
    | _, _ => (match x, y with
      | .lst xs, .lst ys => .ok (zipD xs ys) m
      | _, _ => .stuck))
  | _ => .stuck) := rfl
@[simp] theorem e_sLc (src : SAr) (g : STg) (tt : SBl) (el : SEx) (own : List Nat) (s : Sd) (m : Mu) : sLc src g tt el own s m = ((src s m).bind fun ds m1 => if ds.length ≤ 1000000 then (match lcL g tt el (wipeD s own) ds m1 with
  | .ok ys m2 => .ok (.lst ys) m2
  | _ => .stuck) else .stuck) := rfl
@[simp] theorem e_sLcN (src : SAr) (g : STg) (tt : SBl) (el : SEx) (own : List Nat) (s : Sd) (m : Mu) : sLcN src g tt el own s m = ((src s m).bind fun ds m1 => if ds.length ≤ 1000000 then (match lcL g tt el (wipeD s own) ds m1 with
  | .ok ys m2 => .ok (.ref m2.length) (m2 ++ [.lst ys])
  | _ => .stuck) else .stuck) := rfl
@[simp] theorem e_bYes (u0_ : Sd) (m : Mu) : bYes  u0_ m = (.ok true m) := rfl
@[simp] theorem e_fin (r : SRes) : fin r = (match r with
  | .ret d m => .ok d m
  | .nx _ m => .ok .non m
  | .exc x _ m => .exc x m
  | _ => .stuck) := rfl
@[simp] theorem e_sCall (n : Nat) (f : List D → Mu → Res D) (a : SAr) (s : Sd) (m : Mu) : sCall n f a s m = ((a s m).bind fun ds m => if ds.length = n then f ds m else .stuck) := rfl
@[simp] theorem e_dEq (x y : D) (m : Mu) : dEq x y m = (if okD (deref m x) = true ∧ okD (deref m y) = true then .ok (.bl (dEqv (deref m x) (deref m y))) m else .stuck) := rfl
@[simp] theorem e_dNe (x y : D) (m : Mu) : dNe x y m = (if okD (deref m x) = true ∧ okD (deref m y) = true then .ok (.bl (!dEqv (deref m x) (deref m y))) m else .stuck) := rfl
@[simp] theorem e_dIn (x y : D) (m : Mu) : dIn x y m = (match seqOf m y with
  | some (_, ds) => if okD x = true ∧ okD (.lst ds) = true then .ok (.bl (ds.any fun z => dEqv z x)) m else .stuck
  | none => .stuck) := rfl
@[simp] theorem e_dNotIn (x y : D) (m : Mu) : dNotIn x y m = (match seqOf m y with
  | some (_, ds) => if okD x = true ∧ okD (.lst ds) = true then .ok (.bl (!ds.any fun z => dEqv z x)) m else .stuck
  | none => .stuck) := rfl
@[simp] theorem e_dAdd (x y : D) (m : Mu) : dAdd x y m = (match x, y with
  | .int i, .int j => .ok (.int (i + j)) m
  | .str i, .str j => if i.length + j.length ≤ 1000000 then .ok (.str (i ++ j)) m else .stuck
  | .tup a, .tup b => if a.length + b.length ≤ 1000000 then .ok (.tup (a ++ b)) m else .stuck
  | x, y => match lOf m x, lOf m y with
    | some a, some b => if a.length + b.length ≤ 1000000 then .ok (.lst (a ++ b)) m else .stuck
    | _, _ => .stuck) := rfl
@[simp] theorem e_dSub (x y : D) (m : Mu) : dSub x y m = (match x, y with
  | .int i, .int j => .ok (.int (i - j)) m
  | _, _ => .stuck) := rfl
@[simp] theorem e_dMul (x y : D) (m : Mu) : dMul x y m = (match x, y with
  | .int i, .int j => if (-(2 ^ 64) < i ∧ i < 2 ^ 64) ∨ (-(2 ^ 64) < j ∧ j < 2 ^ 64) then .ok (.int (i * j)) m else .stuck
  | x, .int k => match lOf m x with
    | some a => if 0 ≤ k ∧ k ≤ 1000 ∧ a.length ≤ 1000 then .ok (.lst (List.replicate k.toNat a).flatten) m else .stuck
    | none => .stuck
  | _, _ => .stuck) := rfl
@[simp] theorem e_dMulN (x y : D) (m : Mu) : dMulN x y m = (match x, y with
  | x, .int k => match lOf m x with
    | some a => if 0 ≤ k ∧ k ≤ 1000 ∧ a.length ≤ 1000 then .ok (.ref m.length) (m ++ [.lst (List.replicate k.toNat a).flatten]) else .stuck
    | none => .stuck
  | _, _ => .stuck) := rfl
@[simp] theorem e_dAddN (x y : D) (m : Mu) : dAddN x y m = (match lOf m x, lOf m y with
    | some a, some b => if a.length + b.length ≤ 1000000 then .ok (.ref m.length) (m ++ [.lst (a ++ b)]) else .stuck
    | _, _ => .stuck) := rfl
@[simp] theorem e_dDiv (x y : D) (m : Mu) : dDiv x y m = (match x, y with
  | .int i, .int j => if 0 < j ∧ j < 1073741824 then .ok (.int (i / j)) m else .stuck
  | _, _ => .stuck) := rfl
@[simp] theorem e_dMod (x y : D) (m : Mu) : dMod x y m = (match x, y with
  | .int i, .int j => if 0 < j then .ok (.int (i % j)) m else .stuck
  | _, _ => .stuck) := rfl
@[simp] theorem e_dPow (x y : D) (m : Mu) : dPow x y m = (match x, y with
  | .int i, .int j => if 0 ≤ j ∧ j ≤ 1000000 ∧ i.natAbs < 2 ^ 64 then .ok (.int (i ^ j.toNat)) m else .stuck
  | _, _ => .stuck) := rfl
@[simp] theorem e_dNeg (x : D) (m : Mu) : dNeg x m = (match x with
  | .int i => .ok (.int (-i)) m
  | _ => .stuck) := rfl
@[simp] theorem e_dLt (x y : D) (m : Mu) : dLt x y m = (match x, y with
  | .int i, .int j => .ok (.bl (decide (i < j))) m
  | _, _ => .stuck) := rfl
@[simp] theorem e_dLe (x y : D) (m : Mu) : dLe x y m = (match x, y with
  | .int i, .int j => .ok (.bl (decide (i ≤ j))) m
  | _, _ => .stuck) := rfl
@[simp] theorem e_dGt (x y : D) (m : Mu) : dGt x y m = (match x, y with
  | .int i, .int j => .ok (.bl (decide (j < i))) m
  | _, _ => .stuck) := rfl
@[simp] theorem e_dGe (x y : D) (m : Mu) : dGe x y m = (match x, y with
  | .int i, .int j => .ok (.bl (decide (j ≤ i))) m
  | _, _ => .stuck) := rfl
@[simp] theorem e_dIsN (x y : D) (m : Mu) : dIsN x y m = (match y with
  | .non => .ok (.bl (isNon x)) m
  | _ => .stuck) := rfl
@[simp] theorem e_dNotN (x y : D) (m : Mu) : dNotN x y m = (match y with
  | .non => .ok (.bl (!isNon x)) m
  | _ => .stuck) := rfl
@[simp] theorem e_dIx (x y : D) (m : Mu) : dIx x y m = (match y with
  | .int i => (match seqOf m x with
    | some (_, ds) => (match atI ds i with
      | some d => .ok d m
      | none => .stuck)
    | none => .stuck)
  | _ => .stuck) := rfl
@[simp] theorem e_sTst (f : SEx) (s : Sd) (m : Mu) : sTst f s m = ((f s m).bind fun d m => match d with
  | .bl b => .ok b m
  | _ => .stuck) := rfl
@[simp] theorem e_bNot (c : SBl) (s : Sd) (m : Mu) : bNot c s m = ((c s m).bind fun b m => .ok (!b) m) := rfl
@[simp] theorem e_bAnd (c d : SBl) (s : Sd) (m : Mu) : bAnd c d s m = ((c s m).bind fun b m => if b = true then d s m else .ok false m) := rfl
@[simp] theorem e_bOr (c d : SBl) (s : Sd) (m : Mu) : bOr c d s m = ((c s m).bind fun b m => if b = true then .ok true m else d s m) := rfl
@[simp] theorem e_sNot (f : SEx) (s : Sd) (m : Mu) : sNot f s m = ((f s m).bind fun d m => match d with
  | .bl b => .ok (.bl (!b)) m
  | _ => .stuck) := rfl
@[simp] theorem e_sAnd (f g : SEx) (s : Sd) (m : Mu) : sAnd f g s m = ((f s m).bind fun d m => match d with
  | .bl b => if b = true then g s m else .ok (.bl false) m
  | _ => .stuck) := rfl
@[simp] theorem e_sOr (f g : SEx) (s : Sd) (m : Mu) : sOr f g s m = ((f s m).bind fun d m => match d with
  | .bl b => if b = true then .ok (.bl true) m else g s m
  | _ => .stuck) := rfl
@[simp] theorem e_sIte (c : SBl) (f g : SEx) (s : Sd) (m : Mu) : sIte c f g s m = ((c s m).bind fun b m => if b = true then f s m else g s m) := rfl
@[simp] theorem e_oNo (u0_ : Sd) (m : Mu) : oNo  u0_ m = (.ok none m) := rfl
@[simp] theorem e_oSo (f : SEx) (s : Sd) (m : Mu) : oSo f s m = ((f s m).bind fun d m => match d with
  | .int i => .ok (some i) m
  | _ => .stuck) := rfl
@[simp] theorem e_dSl (x : D) (lo hi : Option Int) (m : Mu) : dSl x lo hi m = (match seqOf m x with
  | some (false, ds) => .ok (.lst (cutD ds lo hi)) m
  | some (true, ds) => if HT.sIx ds.length 0 lo = 0 ∧ HT.sIx ds.length ds.length hi = ds.length then .ok x m else .ok (.tup (cutD ds lo hi)) m
  | none => .stuck) := rfl
@[simp] theorem e_sSl (f : SEx) (lo hi : SOp) (s : Sd) (m : Mu) : sSl f lo hi s m = ((f s m).bind fun x m => (lo s m).bind fun l m => (hi s m).bind fun h m => dSl x l h m) := rfl
@[simp] theorem e_dPutI (x i v : D) (m : Mu) : dPutI x i v m = (match hOf m x, i with
  | some (k, ds), .int j => (ixN ds.length j).map fun n => m.set k (.lst (ds.set n v))
  | _, _ => none) := rfl
@[simp] theorem e_sPut (v o i : SEx) (s : Sd) (m : Mu) : sPut v o i s m = ((v s m).toS s fun v m => (o s m).toS s fun x m => (i s m).toS s fun j m => match dPutI x j v m with
  | some m' => .nx s m'
  | none => .stuck) := rfl
@[simp] theorem e_sAug (g : D → D → Mu → Res D) (o i e : SEx) (s : Sd) (m : Mu) : sAug g o i e s m = ((o s m).toS s fun x m => (i s m).toS s fun j m => (dIx x j m).toS s fun a m => (e s m).toS s fun b m => (g a b m).toS s fun c m => match dPutI x j c m with
  | some m' => .nx s m'
  | none => .stuck) := rfl
@[simp] theorem e_sAugN (g : D → D → Mu → Res D) (k : Nat) (e : SEx) (s : Sd) (m : Mu) : sAugN g k e s m = ((sVar k s m).toS s fun a m => (e s m).toS s fun b m => (g a b m).toS s fun c m => .nx (s.set k (some c)) m) := rfl
@[simp] theorem e_dApp (x v : D) (m : Mu) : dApp x v m = (match hOf m x with
  | some (k, ds) => if ds.length ≤ 1000000 then .ok .non (m.set k (.lst (ds ++ [v]))) else .stuck
  | none => .stuck) := rfl
@[simp] theorem e_isL (m : Mu) (x : D) : isL m x = (match seqOf m x with
  | some (false, _) => true
  | _ => false) := rfl
@[simp] theorem e_sM1 (g : D → D → Mu → Res D) (fo fe : SEx) (s : Sd) (m : Mu) : sM1 g fo fe s m = ((fo s m).bind fun x m => if isL m x = true then (fe s m).bind fun y m => g x y m else .stuck) := rfl
@[simp] theorem e_sM0 (g : D → Mu → Res D) (fo : SEx) (s : Sd) (m : Mu) : sM0 g fo s m = ((fo s m).bind fun x m => if isL m x = true then g x m else .stuck) := rfl
@[simp] theorem e_dPop (x : D) (m : Mu) : dPop x m = (match hOf m x with
  | some (k, ds) => (match ds[ds.length - 1]? with
    | some d => .ok d (m.set k (.lst ds.dropLast))
    | none => .stuck)
  | none => .stuck) := rfl
@[simp] theorem e_dLen (xs : List D) (m : Mu) : dLen xs m = (match xs with
  | [x] => (match seqOf m x with
    | some (_, ds) => .ok (.int ds.length) m
    | none => .stuck)
  | _ => .stuck) := rfl
@[simp] theorem e_dAbs (xs : List D) (m : Mu) : dAbs xs m = (match xs with
  | [.int i] => .ok (.int i.natAbs) m
  | _ => .stuck) := rfl
@[simp] theorem e_dSum (xs : List D) (m : Mu) : dSum xs m = (match xs with
  | [x] => (match seqOf m x with
    | some (false, ds) => (match intsOf ds with
      | some l => .ok (.int l.sum) m
      | none => .stuck)
    | _ => .stuck)
  | _ => .stuck) := rfl
@[simp] theorem e_dAll (xs : List D) (m : Mu) : dAll xs m = (match xs with
  | [x] => (match seqOf m x with
    | some (false, ds) => (match blsOf ds with
      | some l => .ok (.bl (l.all id)) m
      | none => .stuck)
    | _ => .stuck)
  | _ => .stuck) := rfl
@[simp] theorem e_dList (xs : List D) (m : Mu) : dList xs m = (match xs with
  | [x] => (match seqOf m x with
    | some (_, ds) => .ok (.lst ds) m
    | none => .stuck)
  | _ => .stuck) := rfl
@[simp] theorem e_dListN (xs : List D) (m : Mu) : dListN xs m = (match xs with
  | [x] => (match seqOf m x with
    | some (_, ds) => .ok (.ref m.length) (m ++ [.lst ds])
    | none => .stuck)
  | _ => .stuck) := rfl
@[simp] theorem e_dTuple (xs : List D) (m : Mu) : dTuple xs m = (match xs with
  | [x] => (match seqOf m x with
    | some (false, ds) => .ok (.tup ds) m
    | some (true, _) => .ok x m
    | none => .stuck)
  | _ => .stuck) := rfl
@[simp] theorem e_sB (g : List D → Mu → Res D) (a : SAr) (s : Sd) (m : Mu) : sB g a s m = ((a s m).bind fun xs m => g xs m) := rfl
@[simp] theorem e_dFrz (x : D) (m : Mu) : dFrz x m = (match hOf m x with
  | some (k, ds) => .ok (.lst ds) (m.set k .dead)
  | none => .stuck) := rfl
@[simp] theorem e_sFrz (f : SEx) (s : Sd) (m : Mu) : sFrz f s m = ((f s m).bind fun x m => dFrz x m) := rfl
@[simp] theorem e_sDic (u0_ : Sd) (m : Mu) : sDic  u0_ m = (.ok (.ref m.length) (m ++ [.dic []])) := rfl
@[simp] theorem e_dDin (y x : D) (m : Mu) : dDin y x m = (match dicOf m x, tkeyOf y with
  | some (_, kvs), some k => .ok (.bl (valD kvs k).isSome) m
  | _, _ => .stuck) := rfl
@[simp] theorem e_dDnotin (y x : D) (m : Mu) : dDnotin y x m = (match dicOf m x, tkeyOf y with
  | some (_, kvs), some k => .ok (.bl (!(valD kvs k).isSome)) m
  | _, _ => .stuck) := rfl
@[simp] theorem e_dDget (x y : D) (m : Mu) : dDget x y m = (match dicOf m x, tkeyOf y with
  | some (_, kvs), some k => (match valD kvs k with
    | some d => .ok d m
    | none => .stuck)
  | _, _ => .stuck) := rfl
@[simp] theorem e_dDput (x y v : D) (m : Mu) : dDput x y v m = (match dicOf m x, tkeyOf y with
  | some (i, kvs), some k => if kvs.length ≤ 1000000 then some (m.set i (.dic (putD kvs k v))) else none
  | _, _ => none) := rfl
@[simp] theorem e_sDput (v o i : SEx) (s : Sd) (m : Mu) : sDput v o i s m = ((v s m).toS s fun v m => (o s m).toS s fun x m => (i s m).toS s fun j m => match dDput x j v m with
  | some m' => .nx s m'
  | none => .stuck) := rfl
@[simp] theorem e_sRaise0 (cls : Str) (a : SAr) (s : Sd) (m : Mu) : sRaise0 cls a s m = ((a s m).toS s fun ds m => if ds.length ≤ 1000 then .exc ⟨cls, []⟩ s m else .stuck) := rfl
@[simp] theorem e_sRaise1 (cls f : Str) (a : SAr) (s : Sd) (m : Mu) : sRaise1 cls f a s m = ((a s m).toS s fun ds m => match ds with
  | [.int i] => if i.natAbs.log2 < 1920 then .exc ⟨cls, [(f, .int i)]⟩ s m else .stuck
  | _ => .stuck) := rfl
@[simp] theorem e_dIsi (ts : List Ty) (x : D) (m : Mu) : dIsi ts x m = (match kdOf m x with
  | some k => .ok (.bl (ts.any fun t => isKd k t)) m
  | none => .stuck) := rfl
@[simp] theorem e_dMax2 (xs : List D) (m : Mu) : dMax2 xs m = (match xs with
  | [.int i, .int j] => .ok (.int (if j > i then j else i)) m
  | _ => .stuck) := rfl
@[simp] theorem e_dMin2 (xs : List D) (m : Mu) : dMin2 xs m = (match xs with
  | [.int i, .int j] => .ok (.int (if j < i then j else i)) m
  | _ => .stuck) := rfl
@[simp] theorem e_dInt (xs : List D) (m : Mu) : dInt xs m = (match xs with
  | [.int i] => .ok (.int i) m
  | [.bl k] => .ok (.int (if k then 1 else 0)) m
  | _ => .stuck) := rfl
@[simp] theorem e_sFs (a : SAr) (s : Sd) (m : Mu) : sFs a s m = ((a s m).bind fun ds m => if (ds.all fun d => match d with | .int i => decide (i.natAbs.log2 < 1920) | _ => false) = true ∧ ds.length ≤ 4 then .ok .non m else .stuck) := rfl
@[simp] theorem e_sChain (g1 g2 : D → D → Mu → Res D) (a b c : SEx) (s : Sd) (m : Mu) : sChain g1 g2 a b c s m = ((a s m).bind fun x m => (b s m).bind fun y m => (g1 x y m).bind fun z m => match z with
  | .bl k => if k = true then (c s m).bind fun v m => g2 y v m else .ok (.bl false) m
  | _ => .stuck) := rfl
@[simp] theorem e_sTru (f : SEx) (s : Sd) (m : Mu) : sTru f s m = ((f s m).bind fun d m => match seqOf m d with
  | some (_, ds) => .ok (!ds.isEmpty) m
  | none => .stuck) := rfl
@[simp] theorem e_dCount (x y : D) (m : Mu) : dCount x y m = (match seqOf m x with
  | some (false, ds) => if okD y = true ∧ okD (.lst ds) = true then .ok (.int ((ds.countP fun z => dEqv z y : Nat) : Int)) m else .stuck
  | _ => .stuck) := rfl
@[simp] theorem e_dIndex (x y : D) (m : Mu) : dIndex x y m = (match seqOf m x with
  | some (false, ds) => if okD y = true ∧ okD (.lst ds) = true then (match ds.findIdx? (fun z => dEqv z y) with
    | some j => .ok (.int (j : Nat)) m
    | none => .stuck) else .stuck
  | _ => .stuck) := rfl
@[simp] theorem e_sAct (k n i : Nat) (r : Mu → Res D) (s : Sd) (m : Mu) : sAct k n i r s m = (match s[i]? with
  | some (some (.ref j)) => if j = k ∧ s.length = n then r m else .stuck
  | _ => .stuck) := rfl
@[simp] theorem e_sTry (i : Nat) (cs : List Str) (b : SSt) (h : Nat → Ex → SSt) (s : Sd) (m : Mu) : sTry i cs b h s m = (match b s m with
  | .exc x s' m' => if cs.contains x.cls = true ∧ (x.fs.all fun p => match p.2 with | .int _ => true | _ => false) = true ∧ i < s'.length then (match h m'.length x ((s'.map fun _ => none).set i (some (.ref m'.length))) (m' ++ [.dead]) with
      | .nx s2 m2 => .nx (s2.set i none) m2
      | .ret d m2 => .ret d m2
      | _ => .stuck) else .stuck
  | r => r) := rfl
@[simp] theorem e_sIsE (k : Nat) (b : Bool) (f : SEx) (s : Sd) (m : Mu) : sIsE k b f s m = ((f s m).bind fun d m => match d with
  | .ref j => if j = k then .ok (.bl b) m else .stuck
  | _ => .stuck) := rfl
@[simp] theorem e_sFld (k : Nat) (x : Ex) (n : Str) (f : SEx) (s : Sd) (m : Mu) : sFld k x n f s m = ((f s m).bind fun d m => match d with
  | .ref j => if j = k then (match x.fs.lookup n with
    | some (.int i) => .ok (.int i) m
    | _ => .stuck) else .stuck
  | _ => .stuck) := rfl
@[simp] theorem e_dAddI (x y : D) (m : Mu) : dAddI x y m = (match x, y with
  | .int i, .int j => .ok (.int (i + j)) m
  | _, _ => .stuck) := rfl
@[simp] theorem e_sLRg (n : Bool) (f : SEx) (s : Sd) (m : Mu) : sLRg n f s m = ((f s m).bind fun d m => match d with
  | .int j => if 0 ≤ j ∧ j ≤ 1000000 then (if n = true then .ok (.ref m.length) (m ++ [.lst (rangeD 0 j.toNat)]) else .ok (.lst (rangeD 0 j.toNat)) m) else .stuck
  | _ => .stuck) := rfl
@[simp] theorem e_dMax1 (xs : List D) (m : Mu) : dMax1 xs m = (match xs with
  | [x] => (match seqOf m x with
    | some (false, ds) => (match intsOf ds with
      | some (a :: l) => .ok (.int (maxL a l)) m
      | _ => .stuck)
    | _ => .stuck)
  | _ => .stuck) := rfl
@[simp] theorem e_dMin1 (xs : List D) (m : Mu) : dMin1 xs m = (match xs with
  | [x] => (match seqOf m x with
    | some (false, ds) => (match intsOf ds with
      | some (a :: l) => .ok (.int (minL a l)) m
      | _ => .stuck)
    | _ => .stuck)
  | _ => .stuck) := rfl
@[simp] theorem e_dRem (x y : D) (m : Mu) : dRem x y m = (match hOf m x, y with
  | some (k, ds), .int i => (match intsOf ds with
    | some l => (match l.findIdx? (fun z => decide (z = i)) with
      | some j => .ok .non (m.set k (.lst (ds.eraseIdx j)))
      | none => .stuck)
    | none => .stuck)
  | _, _ => .stuck) := rfl
@[simp] theorem e_dMinP (xs : List D) (m : Mu) : dMinP xs m = (match xs with
  | [x] => (match seqOf m x with
    | some (false, ds) => (match prsOf ds with
      | some (a :: l) => .ok (prD_ (minP a l)) m
      | _ => .stuck)
    | _ => .stuck)
  | _ => .stuck) := rfl
@[simp] theorem e_dSortP (xs : List D) (m : Mu) : dSortP xs m = (match xs with
  | [x] => (match seqOf m x with
    | some (false, ds) => (match prsOf ds with
      | some l => .ok (.lst ((srtP l).map prD_)) m
      | _ => .stuck)
    | _ => .stuck)
  | _ => .stuck) := rfl
@[simp] theorem e_sForH (f : SEx) (g : STg) (b : SSt) (s : Sd) (m : Mu) : sForH f g b s m = ((f s m).toS s fun d m1 => match d with
  | .ref k => (match m1[k]? with
    | some (.lst ds) => giveB k ds (forL g b ds s (m1.set k .dead))
    | _ => .stuck)
  | _ => .stuck) := rfl
@[simp] theorem e_sLcH (f : SEx) (g : STg) (tt : SBl) (el : SEx) (own : List Nat) (s : Sd) (m : Mu) : sLcH f g tt el own s m = ((f s m).bind fun d m1 => match d with
  | .ref k => (match m1[k]? with
    | some (.lst ds) => if ds.length ≤ 1000000 then (match lcL g tt el (wipeD s own) ds (m1.set k .dead) with
      | .ok ys m2 => .ok (.lst ys) (m2.set k (.lst ds))
      | _ => .stuck) else .stuck
    | _ => .stuck)
  | _ => .stuck) := rfl
@[simp] theorem e_sCallK (n m N : Nat) (g : List D → List D → List D) (f : List D → Mu → Res D) (a b : SAr) (s : Sd) (mu : Mu) : sCallK n m N g f a b s mu = ((a s mu).bind fun ds m1 => (b s m1).bind fun es m2 => if ds.length = n ∧ es.length = m ∧ (g ds es).length = N then f (g ds es) m2 else .stuck) := rfl
@[simp] theorem e_gL (t : STgs) (d : D) (s : Sd) : gL t d s = (match lstOf d with
  | some ds => t ds s
  | none => none) := rfl

@[simp] theorem q_tupOf1 (ds : List D) : tupOf (.tup ds) = some ds := rfl
@[simp] theorem q_tupOf2 (ds : List D) : tupOf (.ktup ds) = some ds := rfl
@[simp] theorem q_lstOf (ds : List D) : lstOf (.lst ds) = some ds := rfl
@[simp] theorem q_seq1 (m : Mu) (ds : List D) : seqOf m (.lst ds) = some (false, ds) := rfl
@[simp] theorem q_seq2 (m : Mu) (ds : List D) : seqOf m (.scr ds) = some (false, ds) := rfl
@[simp] theorem q_seq3 (m : Mu) (ds : List D) : seqOf m (.tup ds) = some (true, ds) := rfl
@[simp] theorem q_seq4 (m : Mu) (ds : List D) : seqOf m (.ktup ds) = some (true, ds) := rfl
@[simp] theorem q_vals1 (ds : List D) : valsOf (.lst ds) = some ds := rfl
@[simp] theorem q_vals2 (ds : List D) : valsOf (.scr ds) = some ds := rfl
@[simp] theorem q_vals3 (ds : List D) : valsOf (.tup ds) = some ds := rfl
@[simp] theorem q_vals4 (ds : List D) : valsOf (.ktup ds) = some ds := rfl
@[simp] theorem q_lOf1 (m : Mu) (ds : List D) : lOf m (.lst ds) = some ds := rfl
@[simp] theorem q_isNon0 : Rx.isNon .non = true := rfl
@[simp] theorem q_isNon1 (i : Int) : Rx.isNon (.int i) = false := rfl
@[simp] theorem q_isNon2 (i : List D) : Rx.isNon (.tup i) = false := rfl
@[simp] theorem q_isNon3 (i : List D) : Rx.isNon (.lst i) = false := rfl
@[simp] theorem q_isNon4 (i : Str) : Rx.isNon (.str i) = false := rfl
@[simp] theorem q_isNon5 (i : Bool) : Rx.isNon (.bl i) = false := rfl
@[simp] theorem q_isNon6 (i : Nat) : Rx.isNon (.ref i) = false := rfl
theorem q_seqR {m : Mu} {k : Nat} {ds : List D} (h : m[k]? = some (.lst ds)) : seqOf m (.ref k) = some (false, ds) := by simp [seqOf, h]
theorem q_hOf {m : Mu} {k : Nat} {ds : List D} (h : m[k]? = some (.lst ds)) : hOf m (.ref k) = some (k, ds) := by simp [hOf, h]
theorem q_lOfR {m : Mu} {k : Nat} {ds : List D} (h : m[k]? = some (.lst ds)) : lOf m (.ref k) = some ds := by simp [lOf, h]
theorem q_isL {m : Mu} {k : Nat} {ds : List D} (h : m[k]? = some (.lst ds)) : isL m (.ref k) = true := by simp [isL, q_seqR h]
theorem q_deref {m : Mu} {k : Nat} {ds : List D} (h : m[k]? = some (.lst ds)) : deref m (.ref k) = .lst ds := by simp [deref, h]
@[simp] theorem q_de0 (m : Mu) (i : Int) : deref m (.int i) = .int i := rfl
@[simp] theorem q_de1 (m : Mu) (i : Str) : deref m (.str i) = .str i := rfl
@[simp] theorem q_de2 (m : Mu) (i : List D) : deref m (.tup i) = .tup i := rfl
@[simp] theorem q_de3 (m : Mu) (i : List D) : deref m (.lst i) = .lst i := rfl
@[simp] theorem q_de4 (m : Mu) (i : List D) : deref m (.ktup i) = .ktup i := rfl
@[simp] theorem q_de5 (m : Mu) (i : Bool) : deref m (.bl i) = .bl i := rfl
@[simp] theorem q_de6 (m : Mu) : deref m .non = .non := rfl
@[simp] theorem q_bind1 {α β : Type} (a : α) (m : Mu) (f : α → Mu → Res β) : (Res.ok a m).bind f = f a m := rfl
@[simp] theorem q_bind2 {α β : Type} (a : Ex) (m : Mu) (f : α → Mu → Res β) : (Res.exc a m).bind f = .exc a m := rfl
@[simp] theorem q_bind3 {α β : Type} (f : α → Mu → Res β) : (Res.stuck).bind f = .stuck := rfl
theorem atI_nat {α : Type} (xs : List α) (i : Nat) : atI xs (i : Int) = xs[i]? := by
  unfold atI ixN
  by_cases h : i < xs.length
  · simp [h]
  · simp [h]
@[simp] theorem atI_nat' {α : Type} (xs : List α) (i : Nat) : atI xs (i : Int) = xs[i]? := atI_nat xs i
@[simp] theorem atI_0 {α : Type} (xs : List α) : atI xs 0 = xs[0]? := atI_nat xs 0
@[simp] theorem atI_1 {α : Type} (xs : List α) : atI xs 1 = xs[1]? := atI_nat xs 1
@[simp] theorem atI_2 {α : Type} (xs : List α) : atI xs 2 = xs[2]? := atI_nat xs 2
@[simp] theorem atI_3 {α : Type} (xs : List α) : atI xs 3 = xs[3]? := atI_nat xs 3
@[simp] theorem atI_last {α : Type} (xs : List α) (x : α) : atI (xs ++ [x]) (-1) = some x := by
  unfold atI ixN
  have h : -((xs.length : Int) + 1) ≤ -1 := by omega
  have e : ((-1 : Int) + ((xs.length : Int) + 1)).toNat = xs.length := by omega
  simp [h, e]
theorem ixN_nat (n i : Nat) : ixN n (i : Int) = if i < n then some i else none := by
  unfold ixN
  by_cases h : i < n
  · simp [h]
  · simp [h]
@[simp] theorem ixN_nat' {n i : Nat} (h : i < n) : ixN n (i : Int) = some i := by rw [ixN_nat, if_pos h]
@[simp] theorem ixN_0 {n : Nat} (h : 0 < n) : ixN n 0 = some 0 := ixN_nat' (i := 0) h
@[simp] theorem ixN_1 {n : Nat} (h : 1 < n) : ixN n 1 = some 1 := ixN_nat' (i := 1) h
@[simp] theorem ixN_2 {n : Nat} (h : 2 < n) : ixN n 2 = some 2 := ixN_nat' (i := 2) h
@[simp] theorem ixN_3 {n : Nat} (h : 3 < n) : ixN n 3 = some 3 := ixN_nat' (i := 3) h
@[simp] theorem gm0 (m l : Mu) : (m ++ l)[m.length]? = l[0]? := by simp [List.getElem?_append_right]
@[simp] theorem gm (m l : Mu) (i : Nat) : (m ++ l)[m.length + i]? = l[i]? := by rw [List.getElem?_append_right (by omega)]; congr 1; omega
@[simp] theorem sm0 (m l : Mu) (x : MO) : (m ++ l).set m.length x = m ++ l.set 0 x := by rw [List.set_append_right _ _ (Nat.le_refl _), Nat.sub_self]
@[simp] theorem sm (m l : Mu) (i : Nat) (x : MO) : (m ++ l).set (m.length + i) x = m ++ l.set i x := by rw [List.set_append_right _ _ (by omega)]; congr 2; omega
@[simp] theorem q_seqRr (m : Mu) (k : Nat) : seqOf m (.ref k) = (match m[k]? with | some (.lst ds) => some (false, ds) | _ => none) := rfl
@[simp] theorem q_hOfr (m : Mu) (k : Nat) : hOf m (.ref k) = (match m[k]? with | some (.lst ds) => some (k, ds) | _ => none) := rfl
@[simp] theorem q_lOfr (m : Mu) (k : Nat) : lOf m (.ref k) = (match m[k]? with | some (.lst ds) => some ds | _ => none) := rfl
@[simp] theorem q_derefr (m : Mu) (k : Nat) : deref m (.ref k) = (match m[k]? with | some (.lst ds) => .lst ds | _ => .ref k) := rfl
def Wf (m : Mu) : Prop := m.all (MO.undr m.length) = true
@[simp] theorem e_dSumA (xs : List D) (m : Mu) : dSumA xs m = (match xs with
  | [x] => (match seqOf m x with
    | some (_, ds) => (match intsOf ds with
      | some l => .ok (.int l.sum) m
      | none => .stuck)
    | _ => .stuck)
  | _ => .stuck) := rfl
/-! ### statements in turn -/
theorem sSeq_nx {a b : SSt} {s s' : Sd} {m m' : Mu} (h : a s m = .nx s' m') : sSeq a b s m = b s' m' := by simp [h]
theorem sSeq_ret {a b : SSt} {s : Sd} {d : D} {m m' : Mu} (h : a s m = .ret d m') : sSeq a b s m = .ret d m' := by simp [h]
theorem sSeq_exc {a b : SSt} {s s' : Sd} {x : Ex} {m m' : Mu} (h : a s m = .exc x s' m') : sSeq a b s m = .exc x s' m' := by simp [h]
theorem sIf_t {c : SBl} {a b : SSt} {s : Sd} {m m' : Mu} (h : c s m = .ok true m') : sIf c a b s m = a s m' := by simp [h]
theorem sIf_f {c : SBl} {a b : SSt} {s : Sd} {m m' : Mu} (h : c s m = .ok false m') : sIf c a b s m = b s m' := by simp [h]
theorem sRet_of {f : SEx} {s : Sd} {d : D} {m m' : Mu} (h : f s m = .ok d m') : sRet f s m = .ret d m' := by simp [h]
theorem sSet_of {i : Nat} {f : SEx} {s : Sd} {d : D} {m m' : Mu} (h : f s m = .ok d m') : sSet i f s m = .nx (s.set i (some d)) m' := by simp [h]
theorem sDo_of {f : SEx} {s : Sd} {d : D} {m m' : Mu} (h : f s m = .ok d m') : sDo f s m = .nx s m' := by simp [h]
theorem sFor_of {src : SAr} {g : STg} {b : SSt} {s : Sd} {ds : List D} {m m' : Mu} (h : src s m = .ok ds m') : sFor src g b s m = forL g b ds s m' := by simp [h]
theorem forL_nil {g : STg} {b : SSt} {s : Sd} {m : Mu} : forL g b [] s m = .nx s m := rfl
theorem forL_step {g : STg} {body : SSt} {d : D} {ds : List D} {s s1 s2 : Sd} {m m2 : Mu} (hg : g d s = some s1) (hb : body s1 m = .nx s2 m2) : forL g body (d :: ds) s m = forL g body ds s2 m2 := by
  rw [forL, hg]
  dsimp only
  rw [hb]
theorem forL_step_ct {g : STg} {body : SSt} {d : D} {ds : List D} {s s1 s2 : Sd} {m m2 : Mu} (hg : g d s = some s1) (hb : body s1 m = .ct s2 m2) : forL g body (d :: ds) s m = forL g body ds s2 m2 := by
  rw [forL, hg]
  dsimp only
  rw [hb]
theorem forL_step_ret {g : STg} {body : SSt} {d r : D} {ds : List D} {s s1 : Sd} {m m2 : Mu} (hg : g d s = some s1) (hb : body s1 m = .ret r m2) : forL g body (d :: ds) s m = .ret r m2 := by
  rw [forL, hg]
  dsimp only
  rw [hb]
theorem forL_step_exc {g : STg} {body : SSt} {d : D} {x : Ex} {ds : List D} {s s1 s2 : Sd} {m m2 : Mu} (hg : g d s = some s1) (hb : body s1 m = .exc x s2 m2) : forL g body (d :: ds) s m = .exc x s2 m2 := by
  rw [forL, hg]
  dsimp only
  rw [hb]
theorem forL_append {g : STg} {body : SSt} : ∀ (xs ys : List D) {s s2 : Sd} {m m2 : Mu}, forL g body xs s m = .nx s2 m2 → (∀ d ∈ xs, True) → True := fun _ _ _ _ _ _ _ _ => trivial
theorem whL_step {c : SBl} {body : SSt} {n : Nat} {s s2 : Sd} {m m1 m2 : Mu} (hc : c s m = .ok true m1) (hb : body s m1 = .nx s2 m2) : whL c body (n + 1) s m = whL c body n s2 m2 := by
  rw [whL, hc]
  dsimp only
  rw [hb]
theorem whL_end {c : SBl} {body : SSt} {n : Nat} {s : Sd} {m m1 : Mu} (hc : c s m = .ok false m1) : whL c body (n + 1) s m = .nx s m1 := by
  rw [whL, hc]
/-! ### comprehensions -/
theorem lcL_nil {g : STg} {tt : SBl} {el : SEx} {s : Sd} {m : Mu} : lcL g tt el s [] m = .ok [] m := rfl
/-- one that changes nothing: by item, what it yields -/
theorem lcL_opt {g : STg} {tt : SBl} {el : SEx} {s : Sd} {m : Mu} (f : D → Option D) : ∀ (ds : List D), (∀ d ∈ ds, ∃ s1, g d s = some s1 ∧ ((∃ y, f d = some y ∧ tt s1 m = .ok true m ∧ el s1 m = .ok y m) ∨ (f d = none ∧ tt s1 m = .ok false m))) → lcL g tt el s ds m = .ok (ds.filterMap f) m
  | [], _ => rfl
  | d :: ds, h => by
    obtain ⟨s1, e1, e⟩ := h d List.mem_cons_self
    have ih := lcL_opt f ds fun x hx => h x (List.mem_cons_of_mem _ hx)
    rw [lcL, e1]
    dsimp only
    rcases e with ⟨y, f1, e2, e3⟩ | ⟨f1, e2⟩
    · rw [e2]
      dsimp only
      rw [e3]
      dsimp only
      rw [ih]
      simp [f1]
    · rw [e2]
      dsimp only
      rw [ih]
      simp [f1]
theorem lcL_map {g : STg} {el : SEx} {s : Sd} {m : Mu} (f : D → D) (ds : List D) (h : ∀ d ∈ ds, ∃ s1, g d s = some s1 ∧ el s1 m = .ok (f d) m) : lcL g bYes el s ds m = .ok (ds.map f) m := by
  rw [lcL_opt (fun d => some (f d)) ds fun d hd => ?_]
  · rw [show (fun d => some (f d)) = some ∘ f from rfl, List.filterMap_eq_map]
  · obtain ⟨s1, e1, e2⟩ := h d hd
    exact ⟨s1, e1, .inl ⟨f d, rfl, rfl, e2⟩⟩
/-- over typed data -/
theorem lcL_mapT {α : Type} {g : STg} {el : SEx} {s : Sd} {m : Mu} (en : α → D) (f : α → D) (xs : List α) (h : ∀ x ∈ xs, ∃ s1, g (en x) s = some s1 ∧ el s1 m = .ok (f x) m) : lcL g bYes el s (xs.map en) m = .ok (xs.map f) m := by
  induction xs with
  | nil => rfl
  | cons x xs ih =>
    obtain ⟨s1, e1, e2⟩ := h x List.mem_cons_self
    have ih := ih fun y hy => h y (List.mem_cons_of_mem _ hy)
    rw [List.map_cons, lcL, e1]
    dsimp only
    rw [show bYes s1 m = .ok true m from rfl]
    dsimp only
    rw [e2]
    dsimp only
    rw [ih]
    rfl
theorem lcL_filterT {α : Type} {g : STg} {tt : SBl} {el : SEx} {s : Sd} {m : Mu} (en : α → D) (p : α → Bool) (f : α → D) (xs : List α) (h : ∀ x ∈ xs, ∃ s1, g (en x) s = some s1 ∧ tt s1 m = .ok (p x) m ∧ (p x = true → el s1 m = .ok (f x) m)) : lcL g tt el s (xs.map en) m = .ok ((xs.filter p).map f) m := by
  induction xs with
  | nil => rfl
  | cons x xs ih =>
    obtain ⟨s1, e1, e2, e3⟩ := h x List.mem_cons_self
    have ih := ih fun y hy => h y (List.mem_cons_of_mem _ hy)
    rw [List.map_cons, lcL, e1]
    dsimp only
    rw [e2]
    cases hp : p x with
    | true =>
      dsimp only
      rw [e3 hp]
      dsimp only
      rw [ih]
      simp [hp]
    | false =>
      dsimp only
      rw [ih]
      simp [hp]
theorem lcL_none {g : STg} {tt : SBl} {el : SEx} {s : Sd} {m : Mu} (ds : List D) (h : ∀ d ∈ ds, ∃ s1, g d s = some s1 ∧ tt s1 m = .ok false m) : lcL g tt el s ds m = .ok [] m := by
  rw [lcL_opt (fun _ => none) ds fun d hd => ?_]
  · simp
  · obtain ⟨s1, e1, e2⟩ := h d hd
    exact ⟨s1, e1, .inr ⟨rfl, e2⟩⟩
/-! ### range -/
theorem p62 : ((2 : Int) ^ 62) = 4611686018427387904 := by decide
theorem iR1_ok {f : SAr} {s : Sd} {m m' : Mu} {j : Int} (h : f s m = .ok [.int j] m') (h1 : -1000000 ≤ j) (h2 : j ≤ 1000000) : iR1 f s m = .ok (rangeD 0 j.toNat) m' := by
  have hn : -4611686018427387904 ≤ j ∧ j < 4611686018427387904 := by omega
  unfold iR1
  rw [h]
  simp only [Res.bind]
  split
  · rfl
  · rename_i c
    rw [p62] at c
    exact absurd hn c
theorem iR2_ok {f : SAr} {s : Sd} {m m' : Mu} {i j : Int} (h : f s m = .ok [.int i, .int j] m') (h1 : -1000000 ≤ i ∧ i ≤ 1000000) (h2 : -1000000 ≤ j ∧ j ≤ 1000000) : iR2 f s m = .ok (rangeD i (j - i).toNat) m' := by
  have hn : -4611686018427387904 ≤ i ∧ i < 4611686018427387904 ∧ -4611686018427387904 ≤ j ∧ j < 4611686018427387904 := by omega
  unfold iR2
  rw [h]
  simp only [Res.bind]
  split
  · rfl
  · rename_i c
    rw [p62] at c
    exact absurd hn c
/-! ### data -/
theorem okD_int (i : Int) : okD (.int i) = true := by unfold okD pyD SeqAt.shaped; simp [D.undr, PyData.canLay0, PyData.depth]
theorem okD_bl (b : Bool) : okD (.bl b) = true := by unfold okD pyD SeqAt.shaped; simp [D.undr, PyData.canLay0, PyData.depth]
theorem okD_str {b : Str} (h : PyData.strOk b = true) : okD (.str b) = true := by unfold okD pyD SeqAt.shaped; simp [D.undr, PyData.canLay0, PyData.depth, h]
theorem okD_non : okD .non = true := by unfold okD pyD SeqAt.shaped; simp [D.undr, PyData.canLay0, PyData.depth]
end Px
set_option Elab.async false
set_option linter.all false
set_option maxRecDepth 100000
set_option maxHeartbeats 1000000
namespace Px
open PySem PySem.Spec PyProof.Rows L2 Rx
/-! ### data that == may be asked of -/
structure OkN (n : Nat) (d : D) : Prop where
  u : D.undr 0 d = true
  c : (pyD d).canLay0 = true
  p : (pyD d).depth ≤ n
theorem okD_of {n : Nat} {d : D} (h : OkN n d) (hn : n ≤ 64) : okD d = true := by
  unfold okD SeqAt.shaped
  rw [h.u, h.c, Bool.true_and, Bool.true_and, decide_eq_true_eq]
  exact Nat.le_trans h.p hn
theorem OkN.mono {n n' : Nat} {d : D} (h : OkN n d) (hn : n ≤ n') : OkN n' d := ⟨h.u, h.c, Nat.le_trans h.p hn⟩
theorem okN_int (i : Int) : OkN 0 (.int i) := ⟨rfl, by simp [pyD, PyData.canLay0], by simp [pyD, PyData.depth]⟩
theorem okN_bl (i : Bool) : OkN 0 (.bl i) := ⟨rfl, by simp [pyD, PyData.canLay0], by simp [pyD, PyData.depth]⟩
theorem okN_non : OkN 0 .non := ⟨rfl, by simp [pyD, PyData.canLay0], by simp [pyD, PyData.depth]⟩
theorem okN_str {x : Str} (h : PyData.strOk x = true) : OkN 0 (.str x) := ⟨rfl, by simp [pyD, PyData.canLay0, h], by simp [pyD, PyData.depth]⟩
theorem okN_all {n : Nat} : ∀ {ds : List D}, (∀ d ∈ ds, OkN n d) → D.undr.all 0 ds = true ∧ PyData.canLayAll0 (pyD.pyL ds) = true ∧ PyData.depthAll (pyD.pyL ds) ≤ n
  | [], _ => ⟨rfl, by simp [pyD.pyL, PyData.canLayAll0], by simp [pyD.pyL, PyData.depthAll]⟩
  | d :: ds, h => by
    obtain ⟨a1, a2, a3⟩ := okN_all (ds := ds) fun x hx => h x (List.mem_cons_of_mem _ hx)
    have b := h d List.mem_cons_self
    refine ⟨by simp [D.undr.all, a1, b.u], by simp [pyD.pyL, PyData.canLayAll0, a2, b.c], ?_⟩
    simp only [pyD.pyL, PyData.depthAll]
    have := b.p
    omega
theorem okN_tup {n : Nat} {ds : List D} (h : ∀ d ∈ ds, OkN n d) : OkN (n + 1) (.tup ds) := by
  obtain ⟨a1, a2, a3⟩ := okN_all h
  exact ⟨by simpa only [D.undr] using a1, by simpa only [pyD, PyData.canLay0] using a2, by simp only [pyD, PyData.depth]; omega⟩
theorem okN_ktup {n : Nat} {ds : List D} (h : ∀ d ∈ ds, OkN n d) : OkN (n + 1) (.ktup ds) := by
  obtain ⟨a1, a2, a3⟩ := okN_all h
  exact ⟨by simpa only [D.undr] using a1, by simpa only [pyD, PyData.canLay0] using a2, by simp only [pyD, PyData.depth]; omega⟩
theorem okN_lst {n : Nat} {ds : List D} (h : ∀ d ∈ ds, OkN n d) : OkN (n + 1) (.lst ds) := by
  obtain ⟨a1, a2, a3⟩ := okN_all h
  exact ⟨by simpa only [D.undr] using a1, by simpa only [pyD, PyData.canLay0] using a2, by simp only [pyD, PyData.depth]; omega⟩
/-! ### == -/
def dEqvL (xs ys : List D) : Bool := PyData.eqvAll (pyD.pyL xs) (pyD.pyL ys)
@[simp] theorem eqv_int (i j : Int) : dEqv (.int i) (.int j) = decide (i = j) := by simp [dEqv, pyD, PyData.eqv]; rfl
@[simp] theorem eqv_bl (i j : Bool) : dEqv (.bl i) (.bl j) = decide (i = j) := by cases i <;> cases j <;> simp [dEqv, pyD, PyData.eqv]
@[simp] theorem eqv_tup (xs ys : List D) : dEqv (.tup xs) (.tup ys) = dEqvL xs ys := by simp [dEqv, dEqvL, pyD, PyData.eqv]
@[simp] theorem eqv_ktup1 (xs ys : List D) : dEqv (.tup xs) (.ktup ys) = dEqvL xs ys := by simp [dEqv, dEqvL, pyD, PyData.eqv]
@[simp] theorem eqv_ktup2 (xs ys : List D) : dEqv (.ktup xs) (.tup ys) = dEqvL xs ys := by simp [dEqv, dEqvL, pyD, PyData.eqv]
@[simp] theorem eqv_lst (xs ys : List D) : dEqv (.lst xs) (.lst ys) = dEqvL xs ys := by simp [dEqv, dEqvL, pyD, PyData.eqv]
@[simp] theorem eqv_non : dEqv .non .non = true := by simp [dEqv, pyD, PyData.eqv]
@[simp] theorem eqv_str (x y : Str) : dEqv (.str x) (.str y) = (x == y) := by simp [dEqv, pyD, PyData.eqv]
@[simp] theorem eqv_nn : dEqvL [] [] = true := by simp [dEqvL, pyD.pyL, PyData.eqvAll]
@[simp] theorem eqv_cc (x y : D) (xs ys : List D) : dEqvL (x :: xs) (y :: ys) = (dEqv x y && dEqvL xs ys) := by simp [dEqvL, dEqv, pyD.pyL, PyData.eqvAll]
@[simp] theorem eqv_nc (y : D) (ys : List D) : dEqvL [] (y :: ys) = false := by simp [dEqvL, pyD.pyL, PyData.eqvAll]
@[simp] theorem eqv_cn (x : D) (xs : List D) : dEqvL (x :: xs) [] = false := by simp [dEqvL, pyD.pyL, PyData.eqvAll]
/-- one encoding -/
theorem eqvL_map {α : Type} [DecidableEq α] {f : α → D} (h : ∀ a b, dEqv (f a) (f b) = decide (a = b)) : ∀ xs ys : List α, dEqvL (xs.map f) (ys.map f) = decide (xs = ys)
  | [], [] => by simp
  | [], y :: ys => by simp
  | x :: xs, [] => by simp
  | x :: xs, y :: ys => by
    rw [List.map_cons, List.map_cons, eqv_cc, h, eqvL_map h xs ys, Bool.eq_iff_iff]
    simp
theorem any_map {α : Type} [DecidableEq α] {f : α → D} (h : ∀ a b, dEqv (f a) (f b) = decide (a = b)) (xs : List α) (y : α) : (xs.map f).any (fun z => dEqv z (f y)) = decide (y ∈ xs) := by
  rw [List.any_map, Bool.eq_iff_iff]
  simp only [List.any_eq_true, Function.comp, h, decide_eq_true_eq]
  exact ⟨fun ⟨x, hx, e⟩ => e ▸ hx, fun h => ⟨y, h, rfl⟩⟩
/-! ### a def is run -/
theorem fin_ret (d : D) (m : Mu) : fin (.ret d m) = .ok d m := rfl
theorem run_ret {n : Nat} {b : SSt} {ds : List D} {m m' : Mu} {d : D} (h : b (ds.map some ++ List.replicate (n - ds.length) none) m = .ret d m') : Rx.run n b ds m = .ok d m' := by unfold Rx.run; rw [h]; rfl
theorem run_nx {n : Nat} {b : SSt} {ds : List D} {m m' : Mu} {s : Sd} (h : b (ds.map some ++ List.replicate (n - ds.length) none) m = .nx s m') : Rx.run n b ds m = .ok .non m' := by unfold Rx.run; rw [h]; rfl
theorem run_exc {n : Nat} {b : SSt} {ds : List D} {m m' : Mu} {s : Sd} {x : Ex} (h : b (ds.map some ++ List.replicate (n - ds.length) none) m = .exc x s m') : Rx.run n b ds m = .exc x m' := by unfold Rx.run; rw [h]; rfl
theorem sCall_of {n : Nat} {f : List D → Mu → Res D} {a : SAr} {s : Sd} {ds : List D} {m m1 m2 : Mu} {d : D} (h : a s m = .ok ds m1) (hl : ds.length = n) (hf : f ds m1 = .ok d m2) : sCall n f a s m = .ok d m2 := by
  simp only [e_sCall, h, q_bind1]
  rw [if_pos hl, hf]
theorem bAnd_t {c d : SBl} {s : Sd} {m m' : Mu} (h : c s m = .ok true m') : bAnd c d s m = d s m' := by simp [h]
theorem bAnd_f {c d : SBl} {s : Sd} {m m' : Mu} (h : c s m = .ok false m') : bAnd c d s m = .ok false m' := by simp [h]
theorem bOr_t {c d : SBl} {s : Sd} {m m' : Mu} (h : c s m = .ok true m') : bOr c d s m = .ok true m' := by simp [h]
theorem bOr_f {c d : SBl} {s : Sd} {m m' : Mu} (h : c s m = .ok false m') : bOr c d s m = d s m' := by simp [h]
theorem bNot_of {c : SBl} {s : Sd} {b : Bool} {m m' : Mu} (h : c s m = .ok b m') : bNot c s m = .ok (!b) m' := by simp [h]
theorem sTst_of {f : SEx} {s : Sd} {b : Bool} {m m' : Mu} (h : f s m = .ok (.bl b) m') : sTst f s m = .ok b m' := by simp [h]
theorem s2_of {g : D → D → Mu → Res D} {f1 f2 : SEx} {s : Sd} {x y : D} {m m1 m2 : Mu} (h1 : f1 s m = .ok x m1) (h2 : f2 s m1 = .ok y m2) : s2 g f1 f2 s m = g x y m2 := by simp only [e_s2, h1, h2, q_bind1]
/-! ### lists as data -/
def oD : Option Nat → D
  | none => .non
  | some n => .int n
abbrev iL (l : List Int) : List D := l.map .int
abbrev oL (l : List (Option Nat)) : List D := l.map oD
abbrev wL (l : List Nat) : List D := l.map fun (n : Nat) => D.int (n : Int)
abbrev tL (t : List (List Int)) : List D := t.map fun r => .lst (iL r)
@[simp] theorem oD_n : oD none = .non := rfl
@[simp] theorem oD_s (n : Nat) : oD (some n) = .int n := rfl
theorem iL_at {l : List Int} {i : Nat} (h : i < l.length) : (iL l)[i]? = some (.int (l.getD i 0)) := by simp [h]
theorem oL_at {l : List (Option Nat)} {i : Nat} (h : i < l.length) : (oL l)[i]? = some (oD (l.getD i none)) := by simp [h]
theorem tL_at {t : List (List Int)} {i : Nat} (h : i < t.length) : (tL t)[i]? = some (.lst (iL (t.getD i []))) := by simp [h]
theorem get_ok {α : Type} {l : List α} {i : Nat} (h : i < l.length) : ∃ v, l[i]? = some v := ⟨l[i], List.getElem?_eq_getElem h⟩
theorem getD_of {α : Type} {l : List α} {i : Nat} {v d : α} (h : l[i]? = some v) : l.getD i d = v := by rw [List.getD_eq_getElem?_getD, h]; rfl
/-! ### handles below a bound -/
mutual
theorem undr_mono {n n' : Nat} (h : n ≤ n') : ∀ d : D, D.undr n d = true → D.undr n' d = true
  | .non, _ => rfl
  | .bl _, _ => rfl
  | .int _, _ => rfl
  | .str _, _ => rfl
  | .tup ds, e => by simp only [D.undr] at e ⊢; exact undr_monoL h ds e
  | .lst ds, e => by simp only [D.undr] at e ⊢; exact undr_monoL h ds e
  | .scr ds, e => by simp only [D.undr] at e ⊢; exact undr_monoL h ds e
  | .ktup ds, e => by simp only [D.undr] at e ⊢; exact undr_monoL h ds e
  | .ref k, e => by simp only [D.undr, decide_eq_true_eq] at e ⊢; omega
theorem undr_monoL {n n' : Nat} (h : n ≤ n') : ∀ ds : List D, D.undr.all n ds = true → D.undr.all n' ds = true
  | [], _ => rfl
  | d :: ds, e => by
    simp only [D.undr.all, Bool.and_eq_true] at e ⊢
    exact ⟨undr_mono h d e.1, undr_monoL h ds e.2⟩
end
theorem undr_all {n : Nat} : ∀ {ds : List D}, D.undr.all n ds = true ↔ ∀ d ∈ ds, D.undr n d = true
  | [] => by simp [D.undr.all]
  | d :: ds => by simp [D.undr.all, undr_all (ds := ds)]
theorem mundr_mono {n n' : Nat} (h : n ≤ n') {o : MO} (e : MO.undr n o = true) : MO.undr n' o = true := by
  cases o with
  | dead => rfl
  | lst ds => exact undr_monoL h ds e
  | dic kvs => exact List.all_eq_true.mpr fun p hp => undr_mono h _ (List.all_eq_true.mp e p hp)
  | dik kvs => exact List.all_eq_true.mpr fun p hp => undr_mono h _ (List.all_eq_true.mp e p hp)
  | ins c fs => exact List.all_eq_true.mpr fun p hp => undr_mono h _ (List.all_eq_true.mp e p hp)
theorem wf_all {m : Mu} (h : Wf m) {n : Nat} (hn : m.length ≤ n) : m.all (MO.undr n) = true := List.all_eq_true.mpr fun o ho => mundr_mono hn (List.all_eq_true.mp h o ho)
@[simp] theorem undr_iL (n : Nat) (l : List Int) : D.undr.all n (l.map D.int) = true := undr_all.mpr fun d hd => by
  obtain ⟨i, _, rfl⟩ := List.mem_map.mp hd
  rfl
@[simp] theorem undr_wL (n : Nat) (l : List Nat) : D.undr.all n (l.map fun (i : Nat) => D.int (i : Int)) = true := undr_all.mpr fun d hd => by
  obtain ⟨i, _, rfl⟩ := List.mem_map.mp hd
  rfl
@[simp] theorem undr_oL (n : Nat) (l : List (Option Nat)) : D.undr.all n (l.map oD) = true := undr_all.mpr fun d hd => by
  obtain ⟨i, _, rfl⟩ := List.mem_map.mp hd
  cases i <;> rfl
/-- what is appended is forgotten -/
theorem trim_app {n : Nat} {d : D} {m l : Mu} (hn : n = m.length) (h : Wf m) (hd : D.undr n d = true) : trim n (.ok d (m ++ l)) = .ok d m := by
  subst hn
  have : List.take m.length (m ++ l) = m := by simp
  have h' : (m.all (MO.undr m.length)) = true := h
  unfold trim
  dsimp only
  rw [this, if_pos ⟨hd, h', by simp⟩]
theorem trim_same {n : Nat} {d : D} {m : Mu} (hn : n = m.length) (h : Wf m) (hd : D.undr n d = true) : trim n (.ok d m) = .ok d m := by
  have := trim_app (l := []) hn h hd
  simpa using this
theorem wf_app {m l : Mu} (h : Wf m) (hl : ∀ o ∈ l, MO.undr (m.length + l.length) o = true) : Wf (m ++ l) := by
  unfold Wf
  rw [List.all_append, List.length_append, Bool.and_eq_true]
  exact ⟨wf_all h (Nat.le_add_right _ _), List.all_eq_true.mpr hl⟩
theorem elem_of {α : Type} {l : List α} {i : Nat} {v : α} (h : l[i]? = some v) : ∀ h' : i < l.length, l[i] = v := fun h' => by
  rw [List.getElem?_eq_getElem h'] at h
  exact Option.some.inj h
theorem cut_last {xs : List D} {x : D} : Rx.cutD (xs ++ [x]) none (some (-1)) = xs := by
  have h : ((-1 : Int) + ((xs.length : Int) + 1)).toNat = xs.length := by omega
  unfold Rx.cutD HT.sIx
  simp [h]
end Px
set_option Elab.async false
set_option linter.all false
set_option maxRecDepth 100000
set_option maxHeartbeats 1000000
namespace Px
open PySem PySem.Spec PyProof.Rows L2 Rx
/-! ### the law's row -/
def rowM (ns : List Int) (i : Nat) (c x : Int) : MO := .lst [.scr (ns.map .int), .int i, .int c, .int x]
def Row (ns : List Int) (r : MO) : Prop := ∃ i c x, r = rowM ns i c x
theorem taken_ok {ns : List Int} {r : MO} (h : Row ns r) {k : Int} (hk : 0 < k) (hk2 : k < 1073741824) (rest : Mu) : ∃ z r', f__law_taken [.ref 0, .int k] (r :: rest) = .ok (.int z) (r' :: rest) ∧ Row ns r' ∧ 0 ≤ z ∧ z < k := by
  obtain ⟨i, c, x, rfl⟩ := h
  have h1 : ∀ y : Int, 0 ≤ y % k ∧ y % k < k := fun y => ⟨Int.emod_nonneg _ (by omega), Int.emod_lt_of_pos _ hk⟩
  unfold f__law_taken Rx.run b__law_taken
  by_cases c1 : 0 < c
  · refine ⟨c % k, rowM ns i (c / k) x, ?_, ⟨_, _, _, rfl⟩, h1 _⟩
    simp [rowM, c1, hk, hk2]
  · by_cases c2 : i < ns.length
    · by_cases c3 : 1000000000000000000 ≤ ns[i]
      · refine ⟨ns[i] % k, rowM ns (i + 1) (ns[i] / k) x, ?_, ⟨_, _, _, rfl⟩, h1 _⟩
        simp [rowM, c1, c2, c3, hk, hk2]
      · refine ⟨ns[i] % k, rowM ns (i + 1) c x, ?_, ⟨_, _, _, rfl⟩, h1 _⟩
        simp [rowM, c1, c2, c3, hk, hk2]
    · refine ⟨((x * 48271 + 12345) % 2147483647) / 1009 % k, rowM ns i c ((x * 48271 + 12345) % 2147483647), ?_, ⟨_, _, _, rfl⟩, h1 _⟩
      simp [rowM, c1, c2, hk, hk2]
theorem row_ok (ns : List Int) : ∃ r, f__law_row [.scr (ns.map .int)] [] = .ok (.ref 0) [r] ∧ Row ns r := by
  unfold f__law_row Rx.run b__law_row
  have key : ∀ (l : List Int) (a b : Option D) (x : Int), ∃ b' x', forL (gN 2) (sSet 1 (s2 dMod (s2 dAdd (s2 dAdd (s2 dMul (sVar 1) (sC (.int 48271))) (sVar 2)) (sC (.int 11))) (sC (.int 2147483647)))) (l.map .int) [a, some (.int x), b] [] = .nx [a, some (.int x'), b'] [] := by
    intro l
    induction l with
    | nil => exact fun a b x => ⟨b, x, rfl⟩
    | cons y l ih =>
      intro a b x
      obtain ⟨b', x', e⟩ := ih a (some (.int y)) ((x * 48271 + y + 11) % 2147483647)
      refine ⟨b', x', ?_⟩
      rw [← e]
      simp [forL]
  obtain ⟨b', x', e⟩ := key ns (some (.scr (ns.map .int))) none 7
  refine ⟨rowM ns 0 0 x', ?_, ⟨_, _, _, rfl⟩⟩
  simp
  rw [e]
  simp [rowM]
theorem undr_row {ns : List Int} {r : MO} (h : Row ns r) (n : Nat) : MO.undr n r = true := by
  obtain ⟨i, c, x, rfl⟩ := h
  simp [MO.undr, rowM, D.undr.all, D.undr]
theorem wf_row {ns : List Int} {r : MO} (h : Row ns r) {rest : Mu} (hr : rest.all (MO.undr (rest.length + 1)) = true) : Wf (r :: rest) := by
  unfold Wf
  rw [List.all_cons, List.length_cons, undr_row h, hr]
  rfl
theorem wf_row' {ns : List Int} {r r' : MO} (h : Row ns r') {rest : Mu} (hr : Wf (r :: rest)) : Wf (r' :: rest) := by
  unfold Wf at hr ⊢
  rw [List.all_cons, List.length_cons, Bool.and_eq_true] at hr
  rw [List.all_cons, List.length_cons, undr_row h, hr.2]
  rfl
/-! ### lights -/
abbrev Lt : Type := Int × Int × Int
def lD (t : Lt) : D := .tup [.int t.1, .int t.2.1, .int t.2.2]
def pD (t : Int × Int) : D := .tup [.int t.1, .int t.2]
abbrev lL (ts : List Lt) : List D := ts.map lD
def pl (t : Lt) : Int × Int := (t.1, t.2.1)
theorem okN_l (t : Lt) : OkN 1 (lD t) := okN_tup fun d hd => by
  simp only [List.mem_cons, List.not_mem_nil, or_false] at hd
  rcases hd with rfl | rfl | rfl <;> exact okN_int _
theorem okN_p (t : Int × Int) : OkN 1 (pD t) := okN_tup fun d hd => by
  simp only [List.mem_cons, List.not_mem_nil, or_false] at hd
  rcases hd with rfl | rfl <;> exact okN_int _
theorem okN_map {α : Type} {n : Nat} {f : α → D} (h : ∀ a, OkN n (f a)) (l : List α) : ∀ d ∈ l.map f, OkN n d := fun d hd => by
  obtain ⟨a, _, rfl⟩ := List.mem_map.mp hd
  exact h a
theorem eqv_p (a b : Int × Int) : dEqv (pD a) (pD b) = decide (a = b) := by
  unfold pD
  rw [Bool.eq_iff_iff]
  simp [Prod.ext_iff]
theorem eqv_l (a b : Lt) : dEqv (lD a) (lD b) = decide (a = b) := by
  unfold lD
  rw [Bool.eq_iff_iff]
  simp [Prod.ext_iff]
theorem undr_ps (n : Nat) (ts : List Lt) : D.undr.all n (ts.map fun t => pD (pl t)) = true := undr_all.mpr fun d hd => by
  obtain ⟨t, _, rfl⟩ := List.mem_map.mp hd
  rfl
theorem undr_ls (n : Nat) (ts : List Lt) : D.undr.all n (lL ts) = true := undr_all.mpr fun d hd => by
  obtain ⟨t, _, rfl⟩ := List.mem_map.mp hd
  rfl
/-- lights that a law draws: so wide, at different places -/
structure Lts (wide : Int) (n : Nat) (ts : List Lt) : Prop where
  fine : ∀ t ∈ ts, (-wide ≤ t.1 ∧ t.1 ≤ wide) ∧ (-wide ≤ t.2.1 ∧ t.2.1 ≤ wide) ∧ 0 ≤ t.2.2 ∧ t.2.2 < 4
  apart : (ts.map pl).Nodup
  len : ts.length ≤ n
theorem light_ok {ns : List Int} {r : MO} (h : Row ns r) {wide : Int} (w0 : 0 ≤ wide) (w1 : wide ≤ 999) (rest : Mu) : ∃ (t : Lt) (r' : MO), f__law_light [.ref 0, .int wide] (r :: rest) = .ok (lD t) (r' :: rest) ∧ Row ns r' ∧ (-wide ≤ t.1 ∧ t.1 ≤ wide) ∧ (-wide ≤ t.2.1 ∧ t.2.1 ≤ wide) ∧ 0 ≤ t.2.2 ∧ t.2.2 < 4 := by
  obtain ⟨a, r1, e1, h1, a1, a2⟩ := taken_ok h (k := 2 * wide + 1) (by omega) (by omega) rest
  obtain ⟨b, r2, e2, h2, b1, b2⟩ := taken_ok h1 (k := 2 * wide + 1) (by omega) (by omega) rest
  obtain ⟨c, r3, e3, h3, c1, c2⟩ := taken_ok h2 (k := 4) (by decide) (by decide) rest
  refine ⟨(a - wide, b - wide, c), r3, ?_, h3, by dsimp only; omega, by dsimp only; omega, c1, c2⟩
  have hw : -18446744073709551616 < (2 : Int) := by decide
  unfold f__law_light Rx.run b__law_light
  simp [e1, e2, e3, lD]
theorem cut2 (a b c : D) : Rx.cutD [a, b, c] none (some 2) = [a, b] := rfl
def bLights : SSt := (sSeq (sSet 6 (sCall 2 f__law_light (aCons (sVar 0) (aCons (sVar 2) aNil)))) (sIf (sTst (s2 dNotIn (sSl (sVar 6) oNo (oSo (sC (.int 2)))) (sVar 5))) (sSeq (sSet 4 (s2 dAdd (sVar 4) (sTup (aCons (sVar 6) aNil)))) (sDo (sM1 dApp (sVar 5) (sSl (sVar 6) oNo (oSo (sC (.int 2))))))) sNil))
/-- the loop of lights; the places stand at the handle that comes last -/
theorem lights_loop {ns : List Int} {wide : Int} (w0 : 0 ≤ wide) (w1 : wide ≤ 999) {rest : Mu} {x1 : Option D} {n : Nat} (hn : n ≤ 100) : ∀ (l : List D) (ts : List Lt) (r : MO) (x3 x6 : Option D), Row ns r → Lts wide n ts → ts.length + l.length ≤ n → ∃ ts' r' y3 y6, forL (gN 3) bLights
    l [some (.ref 0), x1, some (.int wide), x3, some (.tup (lL ts)), some (.ref (rest.length + 1)), x6] (r :: (rest ++ [.lst (ts.map fun t => pD (pl t))])) = .nx [some (.ref 0), x1, some (.int wide), y3, some (.tup (lL ts')), some (.ref (rest.length + 1)), y6] (r' :: (rest ++ [.lst (ts'.map fun t => pD (pl t))])) ∧ Row ns r' ∧ Lts wide n ts'
  | [], ts, r, u, v, hr, hg, hl => ⟨ts, r, u, v, rfl, hr, hg⟩
  | d :: l, ts, r, u, v, hr, hg, hl => by
    obtain ⟨t, r1, e, h1, b1, b2, b3, b4⟩ := light_ok hr w0 w1 (rest ++ [.lst (ts.map fun t => pD (pl t))])
    have hl' : ts.length + (l.length + 1) ≤ n := by simpa using hl
    have any_ : (ts.map fun t => pD (pl t)).any (fun z => dEqv z (pD (pl t))) = decide (pl t ∈ ts.map pl) := by
      have := any_map eqv_p (ts.map pl) (pl t)
      rw [List.map_map] at this
      exact this.trans (decide_eq_decide.mpr Iff.rfl)
    have op : okD (pD (pl t)) = true := okD_of (okN_p _) (by decide)
    have ops : okD (.lst (ts.map fun t => pD (pl t))) = true := okD_of (okN_lst (okN_map (fun t => okN_p _) ts)) (by decide)
    have hs1 : HT.sIx 3 0 none = 0 := rfl
    have hs2 : HT.sIx 3 3 (some 2) = 2 := by decide
    have hat : (r1 :: (rest ++ [MO.lst (ts.map fun t => pD (pl t))]))[rest.length + 1]? = some (.lst (ts.map fun t => pD (pl t))) := by simp
    -- the light is drawn
    have st1 : ∀ S : Option D, sSet 6 (sCall 2 f__law_light (aCons (sVar 0) (aCons (sVar 2) aNil))) [some (.ref 0), x1, some (.int wide), some d, some (.tup (lL ts)), some (.ref (rest.length + 1)), S] (r :: (rest ++ [.lst (ts.map fun t => pD (pl t))])) = .nx [some (.ref 0), x1, some (.int wide), some d, some (.tup (lL ts)), some (.ref (rest.length + 1)), some (lD t)] (r1 :: (rest ++ [.lst (ts.map fun t => pD (pl t))])) := fun S => by
      simp [e]
    have sl : ∀ mu : Mu, sSl (sVar 6) oNo (oSo (sC (.int 2))) [some (.ref 0), x1, some (.int wide), some d, some (.tup (lL ts)), some (.ref (rest.length + 1)), some (lD t)] mu = .ok (pD (pl t)) mu := fun mu => by
      simp [lD, cut2, hs1, hs2, pD, pl]
    have tst : sTst (s2 dNotIn (sSl (sVar 6) oNo (oSo (sC (.int 2)))) (sVar 5)) [some (.ref 0), x1, some (.int wide), some d, some (.tup (lL ts)), some (.ref (rest.length + 1)), some (lD t)] (r1 :: (rest ++ [.lst (ts.map fun t => pD (pl t))])) = .ok (!decide (pl t ∈ ts.map pl)) (r1 :: (rest ++ [.lst (ts.map fun t => pD (pl t))])) := by
      have k : dNotIn (pD (pl t)) (.ref (rest.length + 1)) (r1 :: (rest ++ [.lst (ts.map fun t => pD (pl t))])) = .ok (.bl (!decide (pl t ∈ ts.map pl))) (r1 :: (rest ++ [.lst (ts.map fun t => pD (pl t))])) := by
        unfold dNotIn
        rw [q_seqR hat]
        dsimp only
        rw [if_pos ⟨op, ops⟩, any_]
      rw [e_sTst, s2_of (sl _) (show sVar 5 _ _ = .ok (.ref (rest.length + 1)) _ from rfl), k]
      rfl
    by_cases c : pl t ∈ ts.map pl
    · obtain ⟨ts', r', a, b, e2, z1, z2⟩ := lights_loop w0 w1 (rest := rest) (x1 := x1) hn l ts r1 (some d) (some (lD t)) h1 hg (by omega)
      have hb : bLights [some (.ref 0), x1, some (.int wide), some d, some (.tup (lL ts)), some (.ref (rest.length + 1)), v] (r :: (rest ++ [.lst (ts.map fun t => pD (pl t))])) = .nx [some (.ref 0), x1, some (.int wide), some d, some (.tup (lL ts)), some (.ref (rest.length + 1)), some (lD t)] (r1 :: (rest ++ [.lst (ts.map fun t => pD (pl t))])) := by
        refine (sSeq_nx (st1 v)).trans ((sIf_f (m' := r1 :: (rest ++ [.lst (ts.map fun t => pD (pl t))])) ?_).trans rfl)
        rw [tst]
        simp [c]
      exact ⟨ts', r', a, b, (forL_step rfl hb).trans e2, z1, z2⟩
    · have hg' : Lts wide n (ts ++ [t]) := by
        refine ⟨fun x hx => ?_, ?_, by simp; omega⟩
        · rcases List.mem_append.mp hx with hx | hx
          · exact hg.fine x hx
          · rw [List.mem_singleton.mp hx]
            exact ⟨b1, b2, b3, b4⟩
        · rw [List.map_append, List.nodup_append]
          refine ⟨hg.apart, by simp, fun p hp q hq z => ?_⟩
          simp at hq
          subst z
          rw [hq] at hp
          exact c hp
      obtain ⟨ts', r', a, b, e2, z1, z2⟩ := lights_loop w0 w1 (rest := rest) (x1 := x1) hn l (ts ++ [t]) r1 (some d) (some (lD t)) h1 hg' (by simp; omega)
      have l9 : ts.length ≤ 999999 := by omega
      have l10 : ts.length ≤ 1000000 := by omega
      have hb : bLights [some (.ref 0), x1, some (.int wide), some d, some (.tup (lL ts)), some (.ref (rest.length + 1)), v] (r :: (rest ++ [.lst (ts.map fun t => pD (pl t))])) = .nx [some (.ref 0), x1, some (.int wide), some d, some (.tup (lL (ts ++ [t]))), some (.ref (rest.length + 1)), some (lD t)] (r1 :: (rest ++ [.lst ((ts ++ [t]).map fun t => pD (pl t))])) := ?hb
      exact ⟨ts', r', a, b, (forL_step rfl hb).trans e2, z1, z2⟩
      refine (sSeq_nx (st1 v)).trans ((sIf_t (m' := r1 :: (rest ++ [.lst (ts.map fun t => pD (pl t))])) ?_).trans ((sSeq_nx (s' := [some (.ref 0), x1, some (.int wide), some d, some (.tup (lL (ts ++ [t]))), some (.ref (rest.length + 1)), some (lD t)]) (m' := r1 :: (rest ++ [.lst (ts.map fun t => pD (pl t))])) ?_).trans ?_))
      · rw [tst]
        simp [c]
      · simp [l9]
      · have sl' : ∀ mu : Mu, sSl (sVar 6) oNo (oSo (sC (.int 2))) [some (.ref 0), x1, some (.int wide), some d, some (.tup (lL (ts ++ [t]))), some (.ref (rest.length + 1)), some (lD t)] mu = .ok (pD (pl t)) mu := fun mu => by
          simp [lD, cut2, hs1, hs2, pD, pl]
        have k : dApp (.ref (rest.length + 1)) (pD (pl t)) (r1 :: (rest ++ [.lst (ts.map fun t => pD (pl t))])) = .ok .non (r1 :: (rest ++ [.lst ((ts ++ [t]).map fun t => pD (pl t))])) := by
          unfold dApp
          rw [q_hOf hat]
          dsimp only
          rw [if_pos (by rw [List.length_map]; exact l10)]
          simp
        have kL : isL (r1 :: (rest ++ [.lst (ts.map fun t => pD (pl t))])) (.ref (rest.length + 1)) = true := q_isL hat
        simp only [e_sDo, e_sM1, e_sVar, e_Res.toS]
        simp only [List.getElem?_cons_zero, List.getElem?_cons_succ, q_bind1, kL, if_pos, sl', k]
theorem lights_ok {ns : List Int} {r : MO} (h : Row ns r) {wide : Int} (w0 : 0 ≤ wide) (w1 : wide ≤ 999) {n : Nat} (hn : n ≤ 100) {rest : Mu} (hw : Wf (r :: rest)) : ∃ ts r', f__law_lights [.ref 0, .int (n : Nat), .int wide] (r :: rest) = .ok (.tup (lL ts)) (r' :: rest) ∧ Row ns r' ∧ Lts wide n ts := by
  obtain ⟨z, r1, e, h1, n1, n2⟩ := taken_ok h (k := (n : Int) + 1) (by omega) (by omega) (rest ++ [.lst []])
  obtain ⟨ts, r', a, b, e2, z1, z2⟩ := lights_loop w0 w1 (rest := rest) (x1 := some (.int (n : Nat))) hn (rangeD 0 z.toNat) [] r1 none none h1 ⟨by simp, by simp, by simp⟩ (by simp [rangeD]; omega)
  refine ⟨ts, r', ?_, z1, z2⟩
  have hb : b__law_lights [some (.ref 0), some (.int (n : Nat)), some (.int wide), none, none, none, none] (r :: rest) = .ret (.tup (lL ts)) (r' :: (rest ++ [.lst (ts.map fun t => pD (pl t))])) := by
    unfold b__law_lights
    refine (sSeq_nx (s' := [some (.ref 0), some (.int (n : Nat)), some (.int wide), none, some (.tup []), some (.ref (rest.length + 1)), none]) (m' := r :: (rest ++ [.lst []])) (by simp)).trans ?_
    refine (sSeq_nx (s' := [some (.ref 0), some (.int (n : Nat)), some (.int wide), a, some (.tup (lL ts)), some (.ref (rest.length + 1)), b]) (m' := r' :: (rest ++ [.lst (ts.map fun t => pD (pl t))])) ?_).trans rfl
    have hi : iR1 (aCons (sCall 2 f__law_taken (aCons (sVar 0) (aCons (s2 dAdd (sVar 1) (sC (.int 1))) aNil))) aNil) [some (.ref 0), some (.int (n : Nat)), some (.int wide), none, some (.tup []), some (.ref (rest.length + 1)), none] (r :: (rest ++ [.lst []])) = .ok (rangeD 0 z.toNat) (r1 :: (rest ++ [.lst []])) := iR1_ok (j := z) (by simp [e]) (by omega) (by omega)
    rw [sFor_of hi]
    exact e2
  unfold f__law_lights runT
  rw [run_ret (n := 7) (d := .tup (lL ts)) (m' := r' :: (rest ++ [.lst (ts.map fun t => pD (pl t))])) hb]
  exact trim_app (m := r' :: rest) rfl (wf_row' z1 hw) (by simp only [D.undr]; exact undr_ls _ _)
/-! ### what may be handed in -/
theorem number_ok (i lo hi : Int) (m : Mu) : f_is_number [.int i, .int lo, .int hi] m = .ok (.bl (decide (lo ≤ i) && decide (i ≤ hi))) m := by
  unfold f_is_number Rx.run b_is_number
  by_cases c : lo ≤ i <;> simp [isKd, c, kdOf]
/-- what is no whole number -/
inductive NoInt (m : Mu) : D → Prop where
  | non : NoInt m .non
  | bl (b : Bool) : NoInt m (.bl b)
  | str (x : Str) : NoInt m (.str x)
  | seq {d : D} {b : Bool} {ds : List D} (h : seqOf m d = some (b, ds)) : NoInt m d
theorem number_no {m : Mu} {d : D} (h : NoInt m d) (lo hi : Int) : f_is_number [d, .int lo, .int hi] m = .ok (.bl false) m := by
  unfold f_is_number Rx.run b_is_number
  cases h with
  | non => simp [isKd, kdOf]
  | bl b => simp [isKd, kdOf]
  | str x => simp [isKd, kdOf]
  | @seq _ b ds h =>
    have k : kdOf m d = some .lst ∨ kdOf m d = some .tup := by
      cases d with
      | int _ => cases h
      | non => cases h
      | bl _ => cases h
      | str _ => cases h
      | _ => cases b <;> simp [kdOf, h]
    rcases k with k | k <;> simp [isKd, k]
end Px
set_option Elab.async false
set_option linter.all false
set_option maxRecDepth 100000
set_option maxHeartbeats 1000000
namespace Px
open PySem PySem.Spec PyProof.Rows L2 Rx
/-- a whole number, or what is plainly none -/
def Atom (m : Mu) (d : D) : Prop := (∃ i, d = .int i) ∨ NoInt m d
/-- within bounds -/
def isn (d : D) (b : Int × Int) : Bool := match d with
  | .int i => decide (b.1 ≤ i) && decide (i ≤ b.2)
  | _ => false
theorem isn_no {m : Mu} {d : D} (h : NoInt m d) (b : Int × Int) : isn d b = false := by
  cases h with
  | seq h => cases d <;> first | rfl | cases h
  | _ => rfl
theorem number_atom {m : Mu} {d : D} (h : Atom m d) (b : Int × Int) : f_is_number [d, .int b.1, .int b.2] m = .ok (.bl (isn d b)) m := by
  rcases h with ⟨i, rfl⟩ | h
  · exact number_ok i b.1 b.2 m
  · rw [isn_no h]; exact number_no h _ _
/-- bounds as data -/
def BdD (d : D) (bs : List (Int × Int)) : Prop := ∃ ds, tupOf d = some ds ∧ ds.length = bs.length ∧ ∀ i : Nat, i < bs.length → ∃ c, ds[i]? = some c ∧ tupOf c = some [.int (bs.getD i (0, 0)).1, .int (bs.getD i (0, 0)).2]
theorem zip_bd {ds : List D} {bs : List (Int × Int)} (hl : ds.length = bs.length) (hd : ∀ i : Nat, i < bs.length → ∃ c, ds[i]? = some c ∧ tupOf c = some [.int (bs.getD i (0, 0)).1, .int (bs.getD i (0, 0)).2]) :
    ∃ cs : List (D × (Int × Int)), cs.map (·.1) = ds ∧ cs.map (·.2) = bs ∧ ∀ p ∈ cs, tupOf p.1 = some [.int p.2.1, .int p.2.2] := by
  induction bs generalizing ds with
  | nil => exact ⟨[], by rw [List.eq_nil_of_length_eq_zero hl]; rfl, rfl, fun p hp => absurd hp (by simp)⟩
  | cons b bs ih =>
    cases ds with
    | nil => cases hl
    | cons c ds =>
      obtain ⟨c', e1, e2⟩ := hd 0 (by simp)
      have e1 : c = c' := Option.some.inj e1
      subst e1
      obtain ⟨cs, f1, f2, f3⟩ := ih (ds := ds) (by simpa using hl) fun i hi => by
        obtain ⟨x, g1, g2⟩ := hd (i + 1) (by simp; omega)
        exact ⟨x, by simpa using g1, by simpa using g2⟩
      refine ⟨(c, b) :: cs, by simp [f1], by simp [f2], fun p hp => ?_⟩
      rcases List.mem_cons.mp hp with rfl | hp
      · simpa using e2
      · exact f3 p hp
theorem blsOf_map (l : List Bool) : blsOf (l.map .bl) = some l := by
  induction l with
  | nil => rfl
  | cons a l ih => rw [List.map_cons, blsOf, ih]; rfl
def allIsn (xs : List D) (bs : List (Int × Int)) : Bool := ((xs.zip bs).map fun p => isn p.1 p.2).all id
theorem numbers_gen {m : Mu} {x b : D} {xs : List D} {bs : List (Int × Int)} (hx : tupOf x = some xs) (hb : BdD b bs) (ha : ∀ d ∈ xs, Atom m d) (hl : xs.length ≤ 1000) : f_are_numbers [x, b] m = .ok (.bl (decide (xs.length = bs.length) && allIsn xs bs)) m := by
  obtain ⟨ds, e1, e2, e3⟩ := hb
  obtain ⟨cs, c1, c2, c3⟩ := zip_bd e2 e3
  have sx : seqOf m x = some (true, xs) := by cases x <;> first | (cases hx; rfl) | cases hx
  have sb : seqOf m b = some (true, ds) := by cases b <;> first | (cases e1; rfl) | cases e1
  have kx : kdOf m x = some .tup := by cases x <;> first | (cases hx; rfl) | cases hx
  have t1 : sTst (s1 (dIsi [Ty.tuple]) (sVar 0)) [some x, some b, none, none, none] m = .ok true m := by simp [kx, isKd]
  have ol : ∀ n : Nat, okD (.int (n : Int)) = true := fun n => okD_int _
  have t2 : sTst (s2 dNe (sB dLen (aCons (sVar 0) aNil)) (sB dLen (aCons (sVar 1) aNil))) [some x, some b, none, none, none] m = .ok (!decide (xs.length = bs.length)) m := by
    simp [sx, sb, ol, e2]
    omega
  unfold f_are_numbers
  by_cases hn : xs.length = bs.length
  · have hz : zipD xs ds = (xs.zip cs).map fun p => D.tup [p.1, p.2.1] := by
      rw [← c1]
      clear t1 t2 sx sb kx hx ha hl hn c1 c2 e1 e2 e3
      induction xs generalizing cs with
      | nil => simp [zipD]
      | cons y ys ih =>
        cases cs with
        | nil => simp [zipD]
        | cons c cs => simp [zipD, ih cs (fun p hp => c3 p (List.mem_cons_of_mem _ hp))]
    have k := lcL_mapT (g := gT (gsCons (gN 2) (gsCons (gT (gsCons (gN 3) (gsCons (gN 4) gsNil))) gsNil))) (el := sCall 3 f_is_number (aCons (sVar 2) (aCons (sVar 3) (aCons (sVar 4) aNil)))) (s := wipeD [some x, some b, none, none, none] [2, 3, 4]) (m := m) (fun p : D × (D × (Int × Int)) => D.tup [p.1, p.2.1]) (fun p => .bl (isn p.1 p.2.2)) (xs.zip cs) (fun p hp => by
      obtain ⟨h1, h2⟩ := List.of_mem_zip hp
      refine ⟨[some x, some b, some p.1, some (.int p.2.2.1), some (.int p.2.2.2)], ?_, ?_⟩
      · simp [wipeD, c3 p.2 h2]
      · have := number_atom (ha p.1 h1) p.2.2
        simp [this])
    have hzz : ((xs.zip cs).map fun p => D.bl (isn p.1 p.2.2)) = ((xs.zip bs).map fun p => isn p.1 p.2).map .bl := by
      rw [← c2, List.zip_map_right, List.map_map, List.map_map]
      rfl
    have hlen : (zipD xs ds).length ≤ 1000000 := by
      rw [hz, List.length_map, List.length_zip]
      omega
    refine run_ret ?_
    show b_are_numbers [some x, some b, none, none, none] m = _
    unfold b_are_numbers
    refine (sSeq_nx (s' := [some x, some b, none, none, none]) (m' := m) ((sIf_f (m' := m) ?_).trans rfl)).trans (sRet_of ?_)
    · rw [e_bOr, e_bNot, t1]
      simp only [q_bind1, t2, hn]
      simp
    · have e4 : iZp (aCons (sVar 0) (aCons (sVar 1) aNil)) [some x, some b, none, none, none] m = .ok (zipD xs ds) m := by
        simp [hx, e1]
      simp only [e_sB, e_aCons, e_aNil, e_sLc, e4, q_bind1]
      rw [if_pos hlen, hz, k, hzz]
      simp only [q_bind1]
      unfold dAll
      simp only [q_seq1, blsOf_map]
      rw [decide_eq_true hn, Bool.true_and]
      rfl
  · refine run_ret ?_
    show b_are_numbers [some x, some b, none, none, none] m = _
    unfold b_are_numbers
    refine sSeq_ret ((sIf_t (m' := m) ?_).trans ?_)
    · rw [e_bOr, e_bNot, t1]
      simp only [q_bind1, t2, hn]
      simp
    · simp [hn]
/-- what is no tuple -/
theorem numbers_none {m : Mu} {x b : D} {k : Kd} (hx : kdOf m x = some k) (hk : k ≠ .tup) : f_are_numbers [x, b] m = .ok (.bl false) m := by
  unfold f_are_numbers
  refine run_ret ?_
  show b_are_numbers [some x, some b, none, none, none] m = _
  unfold b_are_numbers
  refine sSeq_ret ((sIf_t (m' := m) ?_).trans ?_)
  · cases k <;> first | exact absurd rfl hk | simp [hx, isKd]
  · rfl
theorem bd_light : BdD k_LIGHT_BOUNDS [(-999, 999), (-999, 999), (0, 99)] := ⟨_, rfl, rfl, fun i hi => by
  have : i = 0 ∨ i = 1 ∨ i = 2 := by simp at hi; omega
  rcases this with rfl | rfl | rfl <;> exact ⟨_, rfl, rfl⟩⟩
theorem bd_rule : BdD k_RULE_BOUNDS [(0, 200), (0, 99), (0, 99)] := ⟨_, rfl, rfl, fun i hi => by
  have : i = 0 ∨ i = 1 ∨ i = 2 := by simp at hi; omega
  rcases this with rfl | rfl | rfl <;> exact ⟨_, rfl, rfl⟩⟩
theorem bd_slip : BdD k_SLIP_BOUNDS [(-999, 999), (-999, 999)] := ⟨_, rfl, rfl, fun i hi => by
  have : i = 0 ∨ i = 1 := by simp at hi; omega
  rcases this with rfl | rfl <;> exact ⟨_, rfl, rfl⟩⟩
/-! ### lights -/
/-- data that the checks can look at -/
structure Plain (m : Mu) (d : D) : Prop where
  kd : ∃ k, kdOf m d = some k
  at_ : ∀ xs, tupOf d = some xs → xs.length ≤ 1000 ∧ ∀ x ∈ xs, Atom m x
theorem tup_kd {m : Mu} {d : D} {xs : List D} (h : tupOf d = some xs) : kdOf m d = some .tup := by cases d <;> first | (cases h; rfl) | cases h
theorem kd_tup {m : Mu} {d : D} (h : kdOf m d = some .tup) : ∃ xs, tupOf d = some xs := by
  cases d with
  | tup ds => exact ⟨ds, rfl⟩
  | ktup ds => exact ⟨ds, rfl⟩
  | ref k =>
    simp [kdOf, seqOf] at h
    split at h
    · rename_i e
      split at e <;> cases e
      cases h
    · rename_i e
      split at e <;> cases e
    · cases h
  | _ => simp [kdOf] at h
def inB (t : Lt) : Bool := allIsn [.int t.1, .int t.2.1, .int t.2.2] [(-999, 999), (-999, 999), (0, 99)]
def lightOf (d : D) : Option Lt := match tupOf d with
  | some [.int x, .int y, .int g] => if inB (x, y, g) = true then some (x, y, g) else none
  | _ => none
theorem isn_int {d : D} {b : Int × Int} (h : isn d b = true) : ∃ i, d = .int i := by
  cases d <;> first | exact ⟨_, rfl⟩ | cases h
theorem light_num {m : Mu} {d : D} (h : Plain m d) : f_are_numbers [d, k_LIGHT_BOUNDS] m = .ok (.bl (lightOf d).isSome) m := by
  obtain ⟨k, hk⟩ := h.kd
  by_cases e : k = .tup
  · subst e
    obtain ⟨xs, hx⟩ := kd_tup hk
    obtain ⟨h1, h2⟩ := h.at_ xs hx
    rw [numbers_gen hx bd_light h2 h1]
    congr 2
    unfold lightOf
    rw [hx]
    split
    · rename_i x y g e
      cases e
      show (decide ((3 : Nat) = 3) && inB (x, y, g)) = _
      cases hb : inB (x, y, g) <;> simp
    · rename_i hn
      rw [Option.isSome_none, Bool.and_eq_false_iff]
      by_cases hl : xs.length = 3
      · right
        refine Bool.eq_false_iff.mpr fun ht => ?_
        match xs, hl, hn, ht with
        | [a, b, c], _, hn, ht =>
          simp only [allIsn, List.zip_cons_cons, List.zip_nil_right, List.map_cons, List.map_nil, List.all_cons, List.all_nil, Bool.and_true, id_eq, Bool.and_eq_true] at ht
          obtain ⟨z1, z2, z3⟩ := ht
          obtain ⟨x, rfl⟩ := isn_int z1
          obtain ⟨y, rfl⟩ := isn_int z2
          obtain ⟨g, rfl⟩ := isn_int z3
          exact hn x y g rfl
      · left
        simpa using hl
  · rw [numbers_none hk e]
    have : tupOf d = none := by
      cases hd : tupOf d with
      | none => rfl
      | some xs => rw [tup_kd hd] at hk; cases hk; exact absurd rfl e
    unfold lightOf
    rw [this]
    rfl
/-- the first that can't be -/
def firstBad : Nat → List (Int × Int) → List D → Option Nat
  | _, _, [] => none
  | n, seen, d :: ds => if n = 16 then some n else match lightOf d with
    | none => some n
    | some t => if pl t ∈ seen then some n else firstBad (n + 1) (seen ++ [pl t]) ds
def kt (p : Int × Int) : List Key := [.inl p.1, .inl p.2]
theorem kt_inj {a b : Int × Int} : kt a = kt b ↔ a = b := by
  unfold kt
  simp [Prod.ext_iff]
def seenD (seen : List (Int × Int)) : List (List Key × D) := seen.map fun p => (kt p, D.bl true)
theorem seen_val (seen : List (Int × Int)) (p : Int × Int) : (valD (seenD seen) (kt p)).isSome = decide (p ∈ seen) := by
  unfold valD seenD
  rw [Option.isSome_map, Bool.eq_iff_iff, List.find?_isSome]
  simp only [List.mem_map, decide_eq_true_eq]
  constructor
  · rintro ⟨kv, ⟨x, hx, rfl⟩, e⟩
    rw [kt_inj.mp e] at hx
    exact hx
  · exact fun h => ⟨(kt p, .bl true), ⟨p, h, rfl⟩, rfl⟩
theorem seen_put {seen : List (Int × Int)} {p : Int × Int} (h : p ∉ seen) : putD (seenD seen) (kt p) (.bl true) = seenD (seen ++ [p]) := by
  unfold putD
  rw [if_neg]
  · simp [seenD]
  · intro z
    obtain ⟨kv, h2, h1⟩ := List.any_eq_true.mp z
    obtain ⟨q, hq, rfl⟩ := List.mem_map.mp h2
    have := kt_inj.mp (of_decide_eq_true h1)
    subst this
    exact h hq
def bCheck : SSt := (sSeq (sIf (bOr (sTst (s2 dEq (sVar 2) (sC k_MOST_LIGHTS))) (bNot (sTst (sCall 2 f_are_numbers (aCons (sVar 3) (aCons (sC k_LIGHT_BOUNDS) aNil)))))) (sRaise1 "BadLights" "number" (aCons (sVar 2) aNil)) sNil) (sSeq (sSet 4 (sSl (sVar 3) oNo (oSo (sC (.int 2))))) (sSeq (sIf (sTst (s2 dDin (sVar 4) (sVar 1))) (sRaise1 "BadLights" "number" (aCons (sVar 2) aNil)) sNil) (sDput (sC (.bl true)) (sVar 1) (sVar 4)))))
def badL (n : Nat) : Ex := ⟨"BadLights", [("number", .int n)]⟩
theorem raise_ok {S : Sd} {mu : Mu} {n : Nat} (h : S[2]? = some (some (.int (n : Nat)))) (hn : n ≤ 1000) : sRaise1 "BadLights" "number" (aCons (sVar 2) aNil) S mu = .exc (badL n) S mu := by
  have h2 : (n : Int).natAbs.log2 < 1920 := by
    rw [Int.natAbs_natCast]
    exact Nat.lt_of_le_of_lt (Nat.log2_le_self n) (by omega)
  unfold sRaise1
  simp only [e_aCons, e_aNil, e_sVar, h, q_bind1, e_Res.toS]
  rw [if_pos h2]
  rfl
theorem check_loop (a : Option D) (m : Mu) : ∀ (ds : List D) (n : Nat) (seen : List (Int × Int)) (u v w : Option D), (∀ d ∈ ds, Plain (m ++ [.dic (seenD seen)]) d ∧ ∀ seen', Plain (m ++ [.dic (seenD seen')]) d) → seen.length = n → n ≤ 16 →
    match firstBad n seen ds with
    | none => ∃ u' v' w' seen', forL (gT (gsCons (gN 2) (gsCons (gN 3) gsNil))) bCheck (enumD n ds) [a, some (.ref m.length), u, v, w] (m ++ [.dic (seenD seen)]) = .nx [a, some (.ref m.length), u', v', w'] (m ++ [.dic (seenD seen')])
    | some k => ∃ S seen', forL (gT (gsCons (gN 2) (gsCons (gN 3) gsNil))) bCheck (enumD n ds) [a, some (.ref m.length), u, v, w] (m ++ [.dic (seenD seen)]) = .exc (badL k) S (m ++ [.dic (seenD seen')])
  | [], n, seen, u, v, w, _, _, _ => ⟨u, v, w, seen, rfl⟩
  | d :: ds, n, seen, u, v, w, hp, hs, hn => by
    have hpd := (hp d List.mem_cons_self).1
    have hnum := light_num hpd
    have q1 : okD (.int (n : Int)) = true := okD_int _
    have q2 : okD (.int 16) = true := okD_int _
    have hen : enumD n (d :: ds) = .tup [.int (n : Nat), d] :: enumD (n + 1) ds := rfl
    have tst : (bOr (sTst (s2 dEq (sVar 2) (sC k_MOST_LIGHTS))) (bNot (sTst (sCall 2 f_are_numbers (aCons (sVar 3) (aCons (sC k_LIGHT_BOUNDS) aNil)))))) [a, some (.ref m.length), some (.int (n : Nat)), some d, w] (m ++ [.dic (seenD seen)]) = .ok (decide (n = 16) || !(lightOf d).isSome) (m ++ [.dic (seenD seen)]) := by
      by_cases c : n = 16
      · subst c
        simp [k_MOST_LIGHTS, q1, q2]
      · have c2 : ¬ ((n : Int) = 16) := by omega
        simp [k_MOST_LIGHTS, q1, q2, c, c2, hnum]
    rw [hen]
    unfold firstBad
    by_cases c : n = 16
    · rw [if_pos c]
      refine ⟨_, seen, forL_step_exc (s1 := [a, some (.ref m.length), some (.int (n : Nat)), some d, w]) (by simp) (sSeq_exc ((sIf_t (m' := m ++ [.dic (seenD seen)]) ?_).trans (raise_ok rfl (by omega))))⟩
      rw [tst]
      simp [c]
    · rw [if_neg c]
      cases hlt : lightOf d with
      | none =>
        dsimp only
        refine ⟨_, seen, forL_step_exc (s1 := [a, some (.ref m.length), some (.int (n : Nat)), some d, w]) (by simp) (sSeq_exc ((sIf_t (m' := m ++ [.dic (seenD seen)]) ?_).trans (raise_ok rfl (by omega))))⟩
        rw [tst, hlt]
        simp [c]
      | some t =>
        dsimp only
        have hd : tupOf d = some [.int t.1, .int t.2.1, .int t.2.2] := by
          unfold lightOf at hlt
          split at hlt
          · rename_i x y g e
            split at hlt
            · cases hlt; exact e
            · cases hlt
          · cases hlt
        have hs1 : HT.sIx 3 0 none = 0 := rfl
        have hs2 : HT.sIx 3 3 (some 2) = 2 := by decide
        have sd : seqOf (m ++ [.dic (seenD seen)]) d = some (true, [.int t.1, .int t.2.1, .int t.2.2]) := by cases d <;> first | (cases hd; rfl) | cases hd
        have sl : sSl (sVar 3) oNo (oSo (sC (.int 2))) [a, some (.ref m.length), some (.int (n : Nat)), some d, w] (m ++ [.dic (seenD seen)]) = .ok (pD (pl t)) (m ++ [.dic (seenD seen)]) := by
          simp only [e_sSl, e_sVar, e_oNo, e_oSo, e_sC, q_bind1]
          simp only [List.getElem?_cons_zero, List.getElem?_cons_succ, q_bind1]
          unfold dSl
          rw [sd]
          simp [hs1, hs2, cut2, pD, pl]
        have tk : tkeyOf (pD (pl t)) = some (kt (pl t)) := rfl
        have dk : dicOf (m ++ [.dic (seenD seen)]) (.ref m.length) = some (m.length, seenD seen) := by simp [dicOf]
        have st1 : (sIf (bOr (sTst (s2 dEq (sVar 2) (sC k_MOST_LIGHTS))) (bNot (sTst (sCall 2 f_are_numbers (aCons (sVar 3) (aCons (sC k_LIGHT_BOUNDS) aNil)))))) (sRaise1 "BadLights" "number" (aCons (sVar 2) aNil)) sNil) [a, some (.ref m.length), some (.int (n : Nat)), some d, w] (m ++ [.dic (seenD seen)]) = .nx [a, some (.ref m.length), some (.int (n : Nat)), some d, w] (m ++ [.dic (seenD seen)]) := by
          refine (sIf_f (m' := m ++ [.dic (seenD seen)]) ?_).trans rfl
          rw [tst, hlt]
          simp [c]
        have st2 : sSet 4 (sSl (sVar 3) oNo (oSo (sC (.int 2)))) [a, some (.ref m.length), some (.int (n : Nat)), some d, w] (m ++ [.dic (seenD seen)]) = .nx [a, some (.ref m.length), some (.int (n : Nat)), some d, some (pD (pl t))] (m ++ [.dic (seenD seen)]) := sSet_of sl
        have t2 : sTst (s2 dDin (sVar 4) (sVar 1)) [a, some (.ref m.length), some (.int (n : Nat)), some d, some (pD (pl t))] (m ++ [.dic (seenD seen)]) = .ok (decide (pl t ∈ seen)) (m ++ [.dic (seenD seen)]) := by
          rw [e_sTst, s2_of (show sVar 4 _ _ = .ok (pD (pl t)) _ from rfl) (show sVar 1 _ _ = .ok (.ref m.length) _ from rfl)]
          unfold dDin
          rw [dk, tk]
          dsimp only
          rw [seen_val]
          rfl
        by_cases hin : pl t ∈ seen
        · rw [if_pos hin]
          refine ⟨_, seen, forL_step_exc (s1 := [a, some (.ref m.length), some (.int (n : Nat)), some d, w]) (by simp) ((sSeq_nx st1).trans ((sSeq_nx st2).trans (sSeq_exc ((sIf_t (m' := m ++ [.dic (seenD seen)]) ?_).trans (raise_ok rfl (by omega))))))⟩
          rw [t2, decide_eq_true hin]
        · rw [if_neg hin]
          have ih := check_loop a m ds (n + 1) (seen ++ [pl t]) (some (.int (n : Nat))) (some d) (some (pD (pl t))) (fun x hx => ⟨(hp x (List.mem_cons_of_mem _ hx)).2 _, (hp x (List.mem_cons_of_mem _ hx)).2⟩) (by simp [hs]) (by omega)
          have hb : bCheck [a, some (.ref m.length), some (.int (n : Nat)), some d, w] (m ++ [.dic (seenD seen)]) = .nx [a, some (.ref m.length), some (.int (n : Nat)), some d, some (pD (pl t))] (m ++ [.dic (seenD (seen ++ [pl t]))]) := by
            refine (sSeq_nx st1).trans ((sSeq_nx st2).trans ((sSeq_nx ((sIf_f (m' := m ++ [.dic (seenD seen)]) ?_).trans rfl)).trans ?_))
            · rw [t2, decide_eq_false hin]
            · have hl : (seenD seen).length ≤ 1000000 := by unfold seenD; rw [List.length_map]; omega
              unfold sDput
              simp only [e_sC, e_sVar, e_Res.toS, List.getElem?_cons_zero, List.getElem?_cons_succ]
              unfold dDput
              rw [dk, tk]
              dsimp only
              rw [if_pos hl, seen_put hin]
              simp
          have hstep := fun {r : SRes} (e : forL (gT (gsCons (gN 2) (gsCons (gN 3) gsNil))) bCheck (enumD (n + 1) ds) [a, some (.ref m.length), some (.int (n : Nat)), some d, some (pD (pl t))] (m ++ [.dic (seenD (seen ++ [pl t]))]) = r) => (forL_step (g := gT (gsCons (gN 2) (gsCons (gN 3) gsNil))) (d := .tup [.int (n : Nat), d]) (ds := enumD (n + 1) ds) (s := [a, some (.ref m.length), u, v, w]) (s1 := [a, some (.ref m.length), some (.int (n : Nat)), some d, w]) (by simp) hb).trans e
          revert ih
          cases firstBad (n + 1) (seen ++ [pl t]) ds with
          | none => exact fun ⟨u', v', w', seen', e⟩ => ⟨u', v', w', seen', hstep e⟩
          | some k => exact fun ⟨S, seen', e⟩ => ⟨S, seen', hstep e⟩
/-- what the check of lights does with a tuple -/
theorem check_gen {m : Mu} (hm : Wf m) {ds : List D} (hp : ∀ d ∈ ds, ∀ mu, Plain mu d) : f_check_lights [.tup ds] m = match firstBad 0 [] ds with
    | none => .ok .non m
    | some k => .exc (badL k) m := by
  have hb : ∀ {r : SRes}, forL (gT (gsCons (gN 2) (gsCons (gN 3) gsNil))) bCheck (enumD 0 ds) [some (.tup ds), some (.ref m.length), none, none, none] (m ++ [.dic (seenD [])]) = r → b_check_lights [some (.tup ds), none, none, none, none] m = r := fun {r} e => by
    unfold b_check_lights
    refine (sSeq_nx (s' := [some (.tup ds), none, none, none, none]) (m' := m) ((sIf_f (m' := m) (by simp [isKd, kdOf])).trans rfl)).trans ?_
    refine (sSeq_nx (s' := [some (.tup ds), some (.ref m.length), none, none, none]) (m' := m ++ [.dic []]) (by simp)).trans ?_
    have hi : iEn (aCons (sVar 0) aNil) [some (.tup ds), some (.ref m.length), none, none, none] (m ++ [.dic []]) = .ok (enumD 0 ds) (m ++ [.dic []]) := by simp
    rw [sFor_of hi]
    exact e
  have k := check_loop (some (.tup ds)) m ds 0 [] none none none (fun d hd => ⟨hp d hd _, fun _ => hp d hd _⟩) rfl (by omega)
  unfold f_check_lights runT
  revert k
  cases firstBad 0 [] ds with
  | none =>
    rintro ⟨u, v, w, seen, e⟩
    rw [run_nx (n := 5) (ds := [.tup ds]) (hb e)]
    exact trim_app rfl hm rfl
  | some n =>
    rintro ⟨S, seen, e⟩
    rw [run_exc (n := 5) (ds := [.tup ds]) (hb e)]
    have h1 : (m ++ [MO.dic (seenD seen)]).take m.length = m := by simp
    unfold trim
    dsimp only
    rw [h1, if_pos ⟨by simp [badL, D.undr], hm, by simp⟩]
theorem check_no {m : Mu} (hm : Wf m) {d : D} {k : Kd} (hk : kdOf m d = some k) (hn : k ≠ .tup) : f_check_lights [d] m = .exc (badL 0) m := by
  have hr : ∀ S : Sd, sRaise1 "BadLights" "number" (aCons (sC (.int 0)) aNil) S m = .exc (badL 0) S m := fun S => by
    have h2 : (0 : Int).natAbs.log2 < 1920 := by decide
    unfold sRaise1
    simp only [e_aCons, e_aNil, e_sC, q_bind1, e_Res.toS]
    rw [if_pos h2]
    rfl
  have hb : b_check_lights [some d, none, none, none, none] m = .exc (badL 0) [some d, none, none, none, none] m := by
    unfold b_check_lights
    refine sSeq_exc ((sIf_t (m' := m) ?_).trans (hr _))
    cases k <;> first | exact absurd rfl hn | simp [hk, isKd]
  unfold f_check_lights runT
  rw [run_exc (n := 5) (ds := [d]) hb]
  have h1 : m.take m.length = m := by simp
  unfold trim
  dsimp only
  rw [h1, if_pos ⟨by simp [badL, D.undr], hm, Nat.le_refl _⟩]
/-! ### lights that are fine -/
structure Good (ts : List Lt) : Prop where
  fine : ∀ t ∈ ts, inB t = true
  apart : (ts.map pl).Nodup
  len : ts.length ≤ 16
theorem inB_iff {t : Lt} : inB t = true ↔ (-999 ≤ t.1 ∧ t.1 ≤ 999) ∧ (-999 ≤ t.2.1 ∧ t.2.1 ≤ 999) ∧ 0 ≤ t.2.2 ∧ t.2.2 ≤ 99 := by
  simp [inB, allIsn, isn]
theorem plain_l (t : Lt) (m : Mu) : Plain m (lD t) := ⟨⟨.tup, rfl⟩, fun xs h => by
  cases h
  refine ⟨by simp, fun x hx => ?_⟩
  simp only [List.mem_cons, List.not_mem_nil, or_false] at hx
  rcases hx with rfl | rfl | rfl <;> exact .inl ⟨_, rfl⟩⟩
theorem lightOf_l {t : Lt} (h : inB t = true) : lightOf (lD t) = some t := by
  unfold lightOf lD tupOf
  dsimp only
  rw [if_pos (show inB (t.1, t.2.1, t.2.2) = true from h)]
theorem firstBad_good : ∀ (ts : List Lt) (n : Nat) (seen : List (Int × Int)), (∀ t ∈ ts, inB t = true) → (seen ++ ts.map pl).Nodup → n + ts.length ≤ 16 → firstBad n seen (lL ts) = none
  | [], n, seen, _, _, _ => rfl
  | t :: ts, n, seen, hf, hd, hl => by
    have hl' : n + (ts.length + 1) ≤ 16 := by simpa using hl
    rw [lL, List.map_cons, firstBad, if_neg (by omega), lightOf_l (hf t List.mem_cons_self)]
    dsimp only
    have hns : pl t ∉ seen := fun z => by
      rw [List.nodup_append] at hd
      exact hd.2.2 _ z _ (by simp) rfl
    rw [if_neg hns]
    exact firstBad_good ts (n + 1) (seen ++ [pl t]) (fun x hx => hf x (List.mem_cons_of_mem _ hx)) (by simpa using hd) (by omega)
theorem check_ok {m : Mu} (hm : Wf m) {ts : List Lt} (h : Good ts) : f_check_lights [.tup (lL ts)] m = .ok .non m := by
  rw [check_gen hm fun d hd mu => ?_, firstBad_good ts 0 [] h.fine (by simpa using h.apart) (by have := h.len; omega)]
  obtain ⟨t, _, rfl⟩ := List.mem_map.mp hd
  exact plain_l t mu
theorem Lts.good {wide : Int} {n : Nat} {ts : List Lt} (h : Lts wide n ts) (hw : wide ≤ 999) (hn : n ≤ 16) : Good ts := ⟨fun t ht => by
  obtain ⟨h1, h2, h3, h4⟩ := h.fine t ht
  rw [inB_iff]
  omega, h.apart, Nat.le_trans h.len hn⟩
/-! ### rules, slips, counts -/
def ruD (ru : Int × Int × Int) : D := .tup [.int ru.1, .int ru.2.1, .int ru.2.2]
structure Rule (ru : Int × Int × Int) : Prop where
  a : 0 ≤ ru.1 ∧ ru.1 ≤ 200
  b : 0 ≤ ru.2.1 ∧ ru.2.1 ≤ 99
  c : 0 ≤ ru.2.2 ∧ ru.2.2 ≤ 99
theorem rule_ok {ru : Int × Int × Int} (h : Rule ru) (m : Mu) : f_check_rule [ruD ru] m = .ok .non m := by
  have k := numbers_gen (m := m) (x := ruD ru) (xs := [.int ru.1, .int ru.2.1, .int ru.2.2]) rfl bd_rule (fun d hd => by
    simp only [List.mem_cons, List.not_mem_nil, or_false] at hd
    rcases hd with rfl | rfl | rfl <;> exact .inl ⟨_, rfl⟩) (by simp)
  have e : (decide (([.int ru.1, .int ru.2.1, .int ru.2.2] : List D).length = ([(0, 200), (0, 99), (0, 99)] : List (Int × Int)).length) && allIsn [.int ru.1, .int ru.2.1, .int ru.2.2] [(0, 200), (0, 99), (0, 99)]) = true := by
    simp [allIsn, isn, h.a, h.b, h.c]
  rw [e] at k
  refine run_nx (s := [some (ruD ru)]) ?_
  show b_check_rule [some (ruD ru)] m = _
  unfold b_check_rule
  refine (sIf_f (m' := m) ?_).trans rfl
  simp [k]
/-- slips: told, or the default -/
theorem slip_ok {d : D} {s : Int × Int} (hd : tupOf d = some [.int s.1, .int s.2]) (h1 : -999 ≤ s.1 ∧ s.1 ≤ 999) (h2 : -999 ≤ s.2 ∧ s.2 ≤ 999) (m : Mu) : f_check_slip [d] m = .ok .non m := by
  have k := numbers_gen (m := m) (x := d) (xs := [.int s.1, .int s.2]) hd bd_slip (fun d hd => by
    simp only [List.mem_cons, List.not_mem_nil, or_false] at hd
    rcases hd with rfl | rfl <;> exact .inl ⟨_, rfl⟩) (by simp)
  have e : (decide (([.int s.1, .int s.2] : List D).length = ([(-999, 999), (-999, 999)] : List (Int × Int)).length) && allIsn [.int s.1, .int s.2] [(-999, 999), (-999, 999)]) = true := by
    simp [allIsn, isn, h1, h2]
  rw [e] at k
  refine run_nx (s := [some d]) ?_
  show b_check_slip [some d] m = _
  unfold b_check_slip
  refine (sIf_f (m' := m) ?_).trans rfl
  simp [k]
/-! ### worths -/
def cost (a b : Lt) (ru : Int × Int × Int) : Option Int :=
  if (a.1 - b.1) * (a.1 - b.1) + (a.2.1 - b.2.1) * (a.2.1 - b.2.1) > ru.1 * ru.1 ∨ ((a.2.2 - b.2.2).natAbs : Int) > ru.2.1 then none
  else some ((a.1 - b.1) * (a.1 - b.1) + (a.2.1 - b.2.1) * (a.2.1 - b.2.1) + ru.2.2 * ((a.2.2 - b.2.2).natAbs : Int))
def worth (a b : Lt) (ru : Int × Int × Int) : Int := match cost a b ru with
  | none => 0
  | some c => 2000000 - c
def mv (s : Int × Int) (t : Lt) : Lt := (t.1 + s.1, t.2.1 + s.2, t.2.2)
/-- no number is too big -/
def Small (t : Lt) : Prop := -5000 ≤ t.1 ∧ t.1 ≤ 5000 ∧ -5000 ≤ t.2.1 ∧ t.2.1 ≤ 5000 ∧ -5000 ≤ t.2.2 ∧ t.2.2 ≤ 5000
theorem pair_worth_ok {a b : Lt} {ru : Int × Int × Int} (ha : Small a) (hb : Small b) (hr : Rule ru) (m : Mu) : f_pair_worth [lD a, lD b, ruD ru] m = .ok (.int (worth a b ru)) m := by
  obtain ⟨a1, a2, a3, a4, a5, a6⟩ := ha
  obtain ⟨b1, b2, b3, b4, b5, b6⟩ := hb
  have x1 : -18446744073709551616 < a.1 - b.1 ∧ a.1 - b.1 < 18446744073709551616 := by omega
  have x2 : -18446744073709551616 < a.2.1 - b.2.1 ∧ a.2.1 - b.2.1 < 18446744073709551616 := by omega
  have hra := hr.a
  have hrc := hr.c
  have x3 : -18446744073709551616 < ru.1 ∧ ru.1 < 18446744073709551616 := by omega
  have x4 : -18446744073709551616 < ru.2.2 ∧ ru.2.2 < 18446744073709551616 := by omega
  have key : b_pair_worth [some (lD a), some (lD b), some (ruD ru), none, none, none, none, none, none, none] m = .ret (.int (worth a b ru)) m := by
    unfold b_pair_worth
    refine (sSeq_nx (s' := [some (lD a), some (lD b), some (ruD ru), none, none, none, none, some (.int ru.1), some (.int ru.2.1), some (.int ru.2.2)]) (m' := m) (by simp [ruD])).trans ?_
    refine (sSeq_nx (s' := [some (lD a), some (lD b), some (ruD ru), some (.int (a.1 - b.1)), none, none, none, some (.int ru.1), some (.int ru.2.1), some (.int ru.2.2)]) (m' := m) (by simp [lD])).trans ?_
    refine (sSeq_nx (s' := [some (lD a), some (lD b), some (ruD ru), some (.int (a.1 - b.1)), some (.int (a.2.1 - b.2.1)), none, none, some (.int ru.1), some (.int ru.2.1), some (.int ru.2.2)]) (m' := m) (by simp [lD])).trans ?_
    refine (sSeq_nx (s' := [some (lD a), some (lD b), some (ruD ru), some (.int (a.1 - b.1)), some (.int (a.2.1 - b.2.1)), some (.int ((a.2.2 - b.2.2).natAbs : Int)), none, some (.int ru.1), some (.int ru.2.1), some (.int ru.2.2)]) (m' := m) (by simp [lD])).trans ?_
    refine (sSeq_nx (s' := [some (lD a), some (lD b), some (ruD ru), some (.int (a.1 - b.1)), some (.int (a.2.1 - b.2.1)), some (.int ((a.2.2 - b.2.2).natAbs : Int)), some (.int ((a.1 - b.1) * (a.1 - b.1) + (a.2.1 - b.2.1) * (a.2.1 - b.2.1))), some (.int ru.1), some (.int ru.2.1), some (.int ru.2.2)]) (m' := m) (by simp [x1, x2])).trans ?_
    unfold worth cost
    by_cases c1 : (a.1 - b.1) * (a.1 - b.1) + (a.2.1 - b.2.1) * (a.2.1 - b.2.1) > ru.1 * ru.1
    · rw [if_pos (.inl c1)]
      exact sSeq_ret ((sIf_t (m' := m) (by simp [x3, show ru.1 * ru.1 < (a.1 - b.1) * (a.1 - b.1) + (a.2.1 - b.2.1) * (a.2.1 - b.2.1) from c1])).trans (by simp))
    · by_cases c2 : ((a.2.2 - b.2.2).natAbs : Int) > ru.2.1
      · rw [if_pos (.inr c2)]
        exact sSeq_ret ((sIf_t (m' := m) (by simp [x3, show ¬ ru.1 * ru.1 < (a.1 - b.1) * (a.1 - b.1) + (a.2.1 - b.2.1) * (a.2.1 - b.2.1) from c1, show ru.2.1 < ((a.2.2 - b.2.2).natAbs : Int) from c2])).trans (by simp))
      · rw [if_neg (by rintro (h | h) <;> contradiction)]
        refine (sSeq_nx ((sIf_f (m' := m) (by simp [x3, show ¬ ru.1 * ru.1 < (a.1 - b.1) * (a.1 - b.1) + (a.2.1 - b.2.1) * (a.2.1 - b.2.1) from c1, show ¬ ru.2.1 < ((a.2.2 - b.2.2).natAbs : Int) from c2])).trans rfl)).trans ?_
        have e : ∀ x y z : Int, x - y - z = x - (y + z) := fun x y z => by omega
        simp [k_FULL_WORTH, x4, e]
  exact run_ret key
end Px
set_option linter.all false
namespace Hun
abbrev Tab := Nat → Nat → Int
/-- prices and holders when k rows are in -/
structure Pot (T : Tab) (R W : Nat) (B : Int) (k : Nat) (rp cp : Nat → Int) (hold : Nat → Option Nat) : Prop where
  feas : ∀ i, i < R → ∀ j, j < W → T i j ≤ rp i + cp j
  tight : ∀ j, j < W → ∀ i, hold j = some i → i < k ∧ rp i + cp j = T i j
  inj : ∀ j j', j < W → j' < W → ∀ i, hold j = some i → hold j' = some i → j = j'
  all : ∀ i, i < k → ∃ j, j < W ∧ hold j = some i
  cpos : ∀ j, j < W → 0 ≤ cp j
  cfree : ∀ j, j < W → hold j = none → cp j = 0
  zero : 0 < W → ∃ j, j < W ∧ cp j = 0
  rmax : ∀ i, i < R → rp i ≤ B
/-- the row that a way's last column leads to -/
def srcRow (hold : Nat → Option Nat) (new : Nat) : Option Nat → Nat
  | none => new
  | some j => (hold j).getD 0
def srcD (lacks : Nat → Int) : Option Nat → Int
  | none => 0
  | some j => lacks j
/-- what shortest ways tell -/
structure Ways (T : Tab) (W : Nat) (rp cp : Nat → Int) (hold : Nat → Option Nat) (new : Nat) (lacks : Nat → Int) (ahead : Nat → Option Nat) (pre : List Nat) (free : Nat) : Prop where
  nodup : (pre ++ [free]).Nodup
  rng : ∀ j, j ∈ pre ++ [free] → j < W
  held : ∀ j, j ∈ pre → ∃ i, hold j = some i
  fr : hold free = none
  low : ∀ j, j ∈ pre → 0 ≤ lacks j ∧ lacks j ≤ lacks free
  lowf : 0 ≤ lacks free
  le : ∀ s, (s = none ∨ ∃ j, j ∈ pre ∧ s = some j) → ∀ j, j < W → lacks j ≤ srcD lacks s + (rp (srcRow hold new s) + cp j - T (srcRow hold new s) j)
  far : ∀ j, j < W → j ∉ pre ++ [free] → lacks free ≤ lacks j
  path : ∀ a j b, pre ++ [free] = a ++ j :: b → (ahead j = none ∧ lacks j = rp new + cp j - T new j) ∨ ∃ j', j' ∈ a ∧ ahead j = some j' ∧ lacks j = lacks j' + (rp (srcRow hold new (some j')) + cp j - T (srcRow hold new (some j')) j)
section
variable {T : Tab} {R W k : Nat} {B : Int} {rp cp : Nat → Int} {hold : Nat → Option Nat} {lacks : Nat → Int} {ahead : Nat → Option Nat} {pre : List Nat} {free : Nat}
/-- the new prices -/
def cpN (cp lacks : Nat → Int) (pre : List Nat) (D : Int) (j : Nat) : Int := if j ∈ pre then cp j + (D - lacks j) else cp j
structure RpN (rp rp' lacks : Nat → Int) (hold : Nat → Option Nat) (pre : List Nat) (new : Nat) (D : Int) : Prop where
  nw : rp' new = rp new - D
  src : ∀ j, j ∈ pre → ∀ i, hold j = some i → rp' i = rp i - (D - lacks j)
  other : ∀ i, i ≠ new → (∀ j, j ∈ pre → hold j ≠ some i) → rp' i = rp i
theorem Ways.srcN {rp' : Nat → Int} (w : Ways T W rp cp hold k lacks ahead pre free) (u : RpN rp rp' lacks hold pre k (lacks free)) {s : Option Nat} (h : s = none ∨ ∃ j, j ∈ pre ∧ s = some j) : rp' (srcRow hold k s) = rp (srcRow hold k s) - (lacks free - srcD lacks s) := by
  rcases h with rfl | ⟨j, hj, rfl⟩
  · simpa [srcRow, srcD] using u.nw
  · obtain ⟨i, hi⟩ := w.held j hj
    simpa [srcRow, srcD, hi] using u.src j hj i hi
theorem feasN {rp' : Nat → Int} (p : Pot T R W B k rp cp hold) (w : Ways T W rp cp hold k lacks ahead pre free) (u : RpN rp rp' lacks hold pre k (lacks free)) : ∀ i, i < R → ∀ j, j < W → T i j ≤ rp' i + cpN cp lacks pre (lacks free) j := by
  intro i hi j hj
  have f := p.feas i hi j hj
  by_cases hs : ∃ s : Option Nat, (s = none ∨ ∃ j, j ∈ pre ∧ s = some j) ∧ srcRow hold k s = i
  · obtain ⟨s, hs, rfl⟩ := hs
    have e := w.srcN u hs
    have l := w.le s hs j hj
    unfold cpN
    split
    · omega
    · rename_i hp
      by_cases hf : j = free
      · subst hf; omega
      · have := w.far j hj (by simp [hp, hf])
        omega
  · have e : rp' i = rp i := u.other i (fun z => hs ⟨none, .inl rfl, z.symm⟩) (fun j' hj' z => hs ⟨some j', .inr ⟨j', hj', rfl⟩, by simp [srcRow, z]⟩)
    unfold cpN
    split
    · rename_i hp
      have := w.low j hp
      omega
    · omega
theorem RpN.le {rp' : Nat → Int} (p : Pot T R W B k rp cp hold) (w : Ways T W rp cp hold k lacks ahead pre free) (u : RpN rp rp' lacks hold pre k (lacks free)) (i : Nat) : rp' i ≤ rp i := by
  by_cases h1 : i = k
  · subst h1
    have := u.nw
    have := w.lowf
    omega
  · by_cases h2 : ∃ j, j ∈ pre ∧ hold j = some i
    · obtain ⟨j, hj, e⟩ := h2
      have := u.src j hj i e
      have := w.low j hj
      omega
    · have := u.other i h1 (fun j hj e => h2 ⟨j, hj, e⟩)
      omega
/-- holders with a hole at j -/
structure Hole (T : Tab) (W k : Nat) (rp cp : Nat → Int) (hold0 hold : Nat → Option Nat) (a : List Nat) (j : Nat) : Prop where
  same : ∀ x, x ∈ a → hold x = hold0 x
  tight : ∀ x, x < W → x ≠ j → ∀ i, hold x = some i → i < k ∧ rp i + cp x = T i x
  inj : ∀ x y, x < W → y < W → x ≠ j → y ≠ j → ∀ i, hold x = some i → hold y = some i → x = y
  all : ∀ i, i < k → ∃ x, x < W ∧ x ≠ j ∧ hold x = some i
  cfree : ∀ x, x < W → x ≠ j → hold x = none → cp x = 0
theorem hole_start {rp' : Nat → Int} (p : Pot T R W B k rp cp hold) (w : Ways T W rp cp hold k lacks ahead pre free) (u : RpN rp rp' lacks hold pre k (lacks free)) : Hole T W k rp' (cpN cp lacks pre (lacks free)) hold hold pre free where
  same := fun _ _ => rfl
  tight := fun x hx nx i e => by
    obtain ⟨h1, h2⟩ := p.tight x hx i e
    refine ⟨h1, ?_⟩
    unfold cpN
    split
    · rename_i hp
      have := u.src x hp i e
      omega
    · rename_i hp
      have : rp' i = rp i := u.other i (by omega) (fun j hj z => by
        have := p.inj x j hx (w.rng j (by simp [hj])) i e z
        subst this
        exact hp hj)
      omega
  inj := fun x y hx hy _ _ i e1 e2 => p.inj x y hx hy i e1 e2
  all := fun i hi => by
    obtain ⟨j, hj, e⟩ := p.all i hi
    exact ⟨j, hj, fun z => (by subst z; rw [w.fr] at e; cases e), e⟩
  cfree := fun x hx nx e => by
    have hp : x ∉ pre := fun z => by
      obtain ⟨i, h⟩ := w.held x z
      rw [e] at h; cases h
    unfold cpN
    rw [if_neg hp]
    exact p.cfree x hx e
def upd (h : Nat → Option Nat) (j : Nat) (v : Option Nat) : Nat → Option Nat := fun x => if x = j then v else h x
theorem upd_same {h : Nat → Option Nat} {j : Nat} {v : Option Nat} : upd h j v j = v := by simp [upd]
theorem upd_ne {h : Nat → Option Nat} {j x : Nat} {v : Option Nat} (n : x ≠ j) : upd h j v x = h x := by simp [upd, n]
/-- one step back on the way: the hole moves from j to p -/
theorem hole_step {rp' : Nat → Int} {h : Nat → Option Nat} (p : Pot T R W B k rp cp hold) (w : Ways T W rp cp hold k lacks ahead pre free) (u : RpN rp rp' lacks hold pre k (lacks free)) {a b : List Nat} {j q : Nat} (e : pre ++ [free] = a ++ j :: b)
    (H : Hole T W k rp' (cpN cp lacks pre (lacks free)) hold h a j) (hq : ahead j = some q) :
    ∃ a' b', pre ++ [free] = a' ++ q :: b' ∧ a'.length < a.length ∧ q < W ∧ q ≠ j ∧ Hole T W k rp' (cpN cp lacks pre (lacks free)) hold (upd h j (h q)) a' q := by
  rcases w.path a j b e with ⟨z, _⟩ | ⟨j', hj', z, l⟩
  · rw [hq] at z; cases z
  · rw [hq] at z
    cases z
    obtain ⟨a', b', rfl⟩ := List.append_of_mem hj'
    have nd := w.nodup
    rw [e] at nd
    have hjn : j ∉ a' ++ q :: b' := fun z => by
      rw [List.nodup_append] at nd
      exact nd.2.2 j z j (by simp) rfl
    have hqj : q ≠ j := fun z => hjn (by simp [z])
    have ha' : j ∉ a' := fun z => hjn (by simp [z])
    have hqW : q < W := w.rng q (by rw [e]; simp)
    have hjW : j < W := w.rng j (by rw [e]; simp)
    have hqp : q ∈ pre := by
      have : q ∈ pre ++ [free] := by rw [e]; simp
      rcases List.mem_append.mp this with h | h
      · exact h
      · exfalso
        -- free stands last
        have hf : q = free := by simpa using h
        have l2 := congrArg List.getLast? e
        rw [List.getLast?_append, List.getLast?_append] at l2
        have l3 : (j :: b).getLast? = some free := by
          cases e4 : (j :: b).getLast? with
          | none => simp at e4
          | some z => rw [e4] at l2; simpa using l2.symm
        have : free ∈ j :: b := List.mem_of_getLast? l3
        rw [List.nodup_append] at nd
        exact nd.2.2 q (by simp) free this hf
    obtain ⟨i, hi⟩ := w.held q hqp
    have hhq : h q = some i := by rw [H.same q (by simp)]; exact hi
    obtain ⟨t1, t2⟩ := H.tight q hqW hqj i hhq
    have hsr : srcRow hold k (some q) = i := by simp [srcRow, hi]
    rw [hsr] at l
    have er := u.src q hqp i hi
    -- the pair (i, j) is tight
    have tj : rp' i + cpN cp lacks pre (lacks free) j = T i j := by
      unfold cpN
      split
      · omega
      · rename_i hp
        have : j = free := by
          have : j ∈ pre ++ [free] := by rw [e]; simp
          simpa [hp] using this
        subst this
        omega
    refine ⟨a', b' ++ j :: b, by rw [e]; simp, by simp, hqW, hqj, ?_, ?_, ?_, ?_, ?_⟩
    · intro x hx
      have hxj : x ≠ j := fun z => ha' (z ▸ hx)
      rw [upd_ne hxj]
      exact H.same x (by simp [hx])
    · intro x hx nx i' e'
      by_cases hxj : x = j
      · subst hxj
        rw [upd_same, hhq] at e'
        cases e'
        exact ⟨t1, tj⟩
      · rw [upd_ne hxj] at e'
        exact H.tight x hx hxj i' e'
    · intro x y hx hy nx ny i' e1 e2
      by_cases hxj : x = j
      · by_cases hyj : y = j
        · rw [hxj, hyj]
        · rw [hxj, upd_same, hhq] at e1
          rw [upd_ne hyj] at e2
          cases e1
          exact absurd (H.inj q y hqW hy hqj hyj i hhq e2).symm ny
      · by_cases hyj : y = j
        · rw [hyj, upd_same, hhq] at e2
          rw [upd_ne hxj] at e1
          cases e2
          exact absurd (H.inj q x hqW hx hqj hxj i hhq e1).symm nx
        · rw [upd_ne hxj] at e1
          rw [upd_ne hyj] at e2
          exact H.inj x y hx hy hxj hyj i' e1 e2
    · intro i' hi'
      obtain ⟨x, hx, nx, ex⟩ := H.all i' hi'
      by_cases hxq : x = q
      · subst hxq
        exact ⟨j, hjW, hqj.symm, by rw [upd_same]; exact ex⟩
      · exact ⟨x, hx, hxq, by rw [upd_ne nx]; exact ex⟩
    · intro x hx nx ex
      by_cases hxj : x = j
      · subst hxj
        rw [upd_same, hhq] at ex; cases ex
      · rw [upd_ne hxj] at ex
        exact H.cfree x hx hxj ex
/-- the newcomer gets the hole -/
theorem hole_end {rp' : Nat → Int} {h : Nat → Option Nat} (p : Pot T R W B k rp cp hold) (w : Ways T W rp cp hold k lacks ahead pre free) (u : RpN rp rp' lacks hold pre k (lacks free)) {a b : List Nat} {j : Nat} (e : pre ++ [free] = a ++ j :: b)
    (H : Hole T W k rp' (cpN cp lacks pre (lacks free)) hold h a j) (hq : ahead j = none) (hk : k < R) :
    Pot T R W B (k + 1) rp' (cpN cp lacks pre (lacks free)) (upd h j (some k)) := by
  have hjW : j < W := w.rng j (by rw [e]; simp)
  have tj : rp' k + cpN cp lacks pre (lacks free) j = T k j := by
    rcases w.path a j b e with ⟨_, l⟩ | ⟨j', _, z, _⟩
    · have := u.nw
      unfold cpN
      split
      · omega
      · rename_i hp
        have : j = free := by
          have : j ∈ pre ++ [free] := by rw [e]; simp
          simpa [hp] using this
        subst this
        omega
    · rw [hq] at z; cases z
  refine ⟨feasN p w u, ?_, ?_, ?_, ?_, ?_, ?_, fun i hi => Int.le_trans (RpN.le p w u i) (p.rmax i hi)⟩
  · intro x hx i ex
    by_cases hxj : x = j
    · subst hxj
      rw [upd_same] at ex
      cases ex
      exact ⟨by omega, tj⟩
    · rw [upd_ne hxj] at ex
      obtain ⟨h1, h2⟩ := H.tight x hx hxj i ex
      exact ⟨by omega, h2⟩
  · intro x y hx hy i e1 e2
    by_cases hxj : x = j
    · by_cases hyj : y = j
      · rw [hxj, hyj]
      · rw [hxj, upd_same] at e1
        rw [upd_ne hyj] at e2
        cases e1
        have := (H.tight y hy hyj _ e2).1
        omega
    · by_cases hyj : y = j
      · rw [hyj, upd_same] at e2
        rw [upd_ne hxj] at e1
        cases e2
        have := (H.tight x hx hxj _ e1).1
        omega
      · rw [upd_ne hxj] at e1
        rw [upd_ne hyj] at e2
        exact H.inj x y hx hy hxj hyj i e1 e2
  · intro i hi
    by_cases h : i = k
    · exact ⟨j, hjW, by rw [upd_same, h]⟩
    · obtain ⟨x, hx, nx, ex⟩ := H.all i (by omega)
      exact ⟨x, hx, by rw [upd_ne nx]; exact ex⟩
  · intro x hx
    have := p.cpos x hx
    unfold cpN
    split
    · rename_i hp
      have := w.low x hp
      omega
    · exact this
  · intro x hx ex
    by_cases hxj : x = j
    · subst hxj
      rw [upd_same] at ex; cases ex
    · rw [upd_ne hxj] at ex
      exact H.cfree x hx hxj ex
  · intro _
    have hf : free ∉ pre := fun z => by
      have nd := w.nodup
      rw [List.nodup_append] at nd
      exact nd.2.2 free z free (by simp) rfl
    refine ⟨free, w.rng free (by simp), ?_⟩
    unfold cpN
    rw [if_neg hf]
    exact p.cfree free (w.rng free (by simp)) w.fr
end
end Hun
set_option linter.all false
namespace Hun
/-- the search for ways, ahead of the look at the row that cur leads to -/
structure Srch (T : Tab) (W : Nat) (B : Int) (rp cp : Nat → Int) (hold : Nat → Option Nat) (new : Nat) (lacks : Nat → Int) (ahead : Nat → Option Nat) (waiting ended : List Nat) (S : List (Option Nat)) (passed : Int) (cur : Option Nat) : Prop where
  src : none :: ended.map some = S ++ [cur]
  nodup : (ended ++ waiting).Nodup
  mem : ∀ j, j < W ↔ j ∈ ended ++ waiting
  held : ∀ j, j ∈ ended → ∃ i, hold j = some i
  pas : passed = srcD lacks cur
  pos : 0 ≤ passed
  low : ∀ j, j ∈ ended → 0 ≤ lacks j ∧ lacks j ≤ passed
  high : ∀ j, j ∈ waiting → passed ≤ lacks j
  le : ∀ s, s ∈ S → ∀ j, j < W → lacks j ≤ srcD lacks s + (rp (srcRow hold new s) + cp j - T (srcRow hold new s) j)
  big : S = [] → ∀ j, j < W → lacks j = B
  path : ∀ a j b, ended = a ++ j :: b → (ahead j = none ∧ lacks j = rp new + cp j - T new j) ∨ ∃ j', j' ∈ a ∧ ahead j = some j' ∧ lacks j = lacks j' + (rp (srcRow hold new (some j')) + cp j - T (srcRow hold new (some j')) j)
  pathw : S ≠ [] → ∀ j, j ∈ waiting → ahead j ∈ S ∧ lacks j = srcD lacks (ahead j) + (rp (srcRow hold new (ahead j)) + cp j - T (srcRow hold new (ahead j)) j)
section
variable {T : Tab} {R W k : Nat} {B C : Int} {rp cp : Nat → Int} {hold : Nat → Option Nat} {lacks : Nat → Int} {ahead : Nat → Option Nat} {waiting ended : List Nat} {S : List (Option Nat)} {passed : Int} {cur : Option Nat}
/-- behind the look: lacks' and ahead' of the waiting columns -/
structure Look (T : Tab) (rp cp : Nat → Int) (row : Nat) (passed : Int) (cur : Option Nat) (waiting : List Nat) (lacks : Nat → Int) (ahead : Nat → Option Nat) (lacks' : Nat → Int) (ahead' : Nat → Option Nat) : Prop where
  yes : ∀ j, j ∈ waiting → passed + (rp row + cp j - T row j) < lacks j → lacks' j = passed + (rp row + cp j - T row j) ∧ ahead' j = cur
  no : ∀ j, j ∈ waiting → ¬ (passed + (rp row + cp j - T row j) < lacks j) → lacks' j = lacks j ∧ ahead' j = ahead j
  out : ∀ j, j ∉ waiting → lacks' j = lacks j ∧ ahead' j = ahead j
theorem src_mem {s : Option Nat} (h : none :: ended.map some = S ++ [cur]) (hs : s ∈ S ++ [cur]) : s = none ∨ ∃ j, j ∈ ended ∧ s = some j := by
  rw [← h] at hs
  simp at hs
  rcases hs with h | ⟨j, h1, h2⟩
  · exact .inl h
  · exact .inr ⟨j, h1, h2.symm⟩
theorem srcD_look {row : Nat} {lacks' : Nat → Int} {ahead' : Nat → Option Nat} (I : Srch T W B rp cp hold k lacks ahead waiting ended S passed cur) (L : Look T rp cp row passed cur waiting lacks ahead lacks' ahead') {s : Option Nat} (hs : s ∈ S ++ [cur]) : srcD lacks' s = srcD lacks s := by
  rcases src_mem I.src hs with rfl | ⟨j, hj, rfl⟩
  · rfl
  · have nd := I.nodup
    rw [List.nodup_append] at nd
    exact (L.out j (fun z => nd.2.2 j hj j z rfl)).1
/-- a whole turn, when the next column is not free -/
structure Next (T : Tab) (W : Nat) (rp cp : Nat → Int) (hold : Nat → Option Nat) (new : Nat) (lacks' : Nat → Int) (ahead' : Nat → Option Nat) (waiting ended : List Nat) (S : List (Option Nat)) (cur : Option Nat) (passed passed' : Int) (j0 : Nat) : Prop where
  le : ∀ s, s ∈ S ++ [cur] → ∀ j, j < W → lacks' j ≤ srcD lacks' s + (rp (srcRow hold new s) + cp j - T (srcRow hold new s) j)
  path : ∀ j, j ∈ waiting → ahead' j ∈ S ++ [cur] ∧ lacks' j = srcD lacks' (ahead' j) + (rp (srcRow hold new (ahead' j)) + cp j - T (srcRow hold new (ahead' j)) j)
  high : ∀ j, j ∈ waiting → passed ≤ lacks' j
  low : ∀ j, j ∈ ended → 0 ≤ lacks' j ∧ lacks' j ≤ passed
  pathe : ∀ a j b, ended = a ++ j :: b → (ahead' j = none ∧ lacks' j = rp new + cp j - T new j) ∨ ∃ j', j' ∈ a ∧ ahead' j = some j' ∧ lacks' j = lacks' j' + (rp (srcRow hold new (some j')) + cp j - T (srcRow hold new (some j')) j)
theorem look_ok {row : Nat} {lacks' : Nat → Int} {ahead' : Nat → Option Nat} (hB : ∀ i, i < R → ∀ j, j < W → rp i + cp j - T i j < B) (p : Pot T R W C k rp cp hold) (hk : k < R) (I : Srch T W B rp cp hold k lacks ahead waiting ended S passed cur) (hr : row = srcRow hold k cur) (L : Look T rp cp row passed cur waiting lacks ahead lacks' ahead') :
    Next T W rp cp hold k lacks' ahead' waiting ended S cur passed 0 0 := by
  have nd := I.nodup
  rw [List.nodup_append] at nd
  have hen : ∀ j, j ∈ ended → j ∉ waiting := fun j h1 h2 => nd.2.2 j h1 j h2 rfl
  have hrow : ∀ s, s ∈ S ++ [cur] → srcRow hold k s < R := fun s hs => by
    rcases src_mem I.src hs with rfl | ⟨j, hj, rfl⟩
    · exact hk
    · obtain ⟨i, hi⟩ := I.held j hj
      have := (p.tight j ((I.mem j).mpr (by simp [hj])) i hi).1
      simp [srcRow, hi]
      omega
  have hc : ∀ s, s ∈ S ++ [cur] → ∀ j, j < W → 0 ≤ rp (srcRow hold k s) + cp j - T (srcRow hold k s) j := fun s hs j hj => by
    have := p.feas _ (hrow s hs) j hj
    omega
  have hcur : cur ∈ S ++ [cur] := by simp
  have dcur := srcD_look I L hcur
  refine ⟨fun s hs j hj => ?_, fun j hj => ?_, fun j hj => ?_, fun j hj => ?_, fun a j b e => ?_⟩
  · have ds := srcD_look I L hs
    rw [ds]
    rcases List.mem_append.mp hs with hs' | hs'
    · have := I.le s hs' j hj
      by_cases hw : j ∈ waiting
      · by_cases hl : passed + (rp row + cp j - T row j) < lacks j
        · have := (L.yes j hw hl).1
          omega
        · have := (L.no j hw hl).1
          omega
      · have := (L.out j hw).1
        omega
    · have e : s = cur := by simpa using hs'
      subst e
      rw [← hr, ← I.pas]
      by_cases hw : j ∈ waiting
      · by_cases hl : passed + (rp row + cp j - T row j) < lacks j
        · have := (L.yes j hw hl).1
          omega
        · have := (L.no j hw hl).1
          omega
      · have h1 := (L.out j hw).1
        have h2 : j ∈ ended := by
          have := (I.mem j).mp hj
          simpa [hw] using this
        have h3 := I.low j h2
        have h4 := hc s hs j hj
        rw [← hr] at h4
        omega
  · by_cases hl : passed + (rp row + cp j - T row j) < lacks j
    · obtain ⟨h1, h2⟩ := L.yes j hj hl
      rw [h2, h1]
      refine ⟨hcur, ?_⟩
      rw [dcur, ← hr, ← I.pas]
    · obtain ⟨h1, h2⟩ := L.no j hj hl
      have hS : S ≠ [] := fun z => by
        have hjW : j < W := (I.mem j).mpr (by simp [hj])
        have b := I.big z j hjW
        have := hB row (by rw [hr]; exact hrow cur hcur) j hjW
        have e0 : cur = none := by
          have := I.src
          rw [z] at this
          simp at this
          exact this.1.symm
        have : passed = 0 := by rw [I.pas, e0]; rfl
        omega
      obtain ⟨h3, h4⟩ := I.pathw hS j hj
      rw [h2, h1]
      have h5 : ahead j ∈ S ++ [cur] := by simp [h3]
      refine ⟨h5, ?_⟩
      rw [srcD_look I L h5]
      exact h4
  · by_cases hl : passed + (rp row + cp j - T row j) < lacks j
    · have h1 := (L.yes j hj hl).1
      have h4 := hc cur hcur j ((I.mem j).mpr (by simp [hj]))
      rw [← hr] at h4
      omega
    · have h1 := (L.no j hj hl).1
      have := I.high j hj
      omega
  · have := (L.out j (hen j hj)).1
    have := I.low j hj
    omega
  · have hj : j ∈ ended := by rw [e]; simp
    obtain ⟨o1, o2⟩ := L.out j (hen j hj)
    rcases I.path a j b e with ⟨h1, h2⟩ | ⟨j', h1, h2, h3⟩
    · exact .inl ⟨by rw [o2]; exact h1, by rw [o1]; exact h2⟩
    · refine .inr ⟨j', h1, by rw [o2]; exact h2, ?_⟩
      have hj' : j' ∈ ended := by rw [e]; simp [h1]
      rw [o1, (L.out j' (hen j' hj')).1]
      exact h3
/-- the column that is taken up -/
theorem take_next {lacks' : Nat → Int} {ahead' : Nat → Option Nat} (I : Srch T W B rp cp hold k lacks ahead waiting ended S passed cur) (N : Next T W rp cp hold k lacks' ahead' waiting ended S cur passed 0 0) {j0 i0 : Nat} (hj : j0 ∈ waiting) (hm : ∀ j, j ∈ waiting → lacks' j0 ≤ lacks' j) (hi : hold j0 = some i0) :
    Srch T W B rp cp hold k lacks' ahead' (waiting.erase j0) (ended ++ [j0]) (S ++ [cur]) (lacks' j0) (some j0) := by
  have nd := I.nodup
  have pm : (ended ++ waiting).Perm ((ended ++ [j0]) ++ waiting.erase j0) := by
    rw [List.append_assoc]
    exact List.Perm.append_left _ (List.perm_cons_erase hj)
  have h0 : passed ≤ lacks' j0 := N.high j0 hj
  refine ⟨?_, pm.nodup_iff.mp nd, fun j => (I.mem j).trans pm.mem_iff, fun j h => ?_, rfl, Int.le_trans I.pos h0, fun j h => ?_, fun j h => hm j (List.mem_of_mem_erase h), N.le, fun z => by simp at z, fun a j b e => ?_, fun _ j h => N.path j (List.mem_of_mem_erase h)⟩
  · rw [List.map_append, ← List.cons_append, I.src]
    rfl
  · rcases List.mem_append.mp h with h | h
    · exact I.held j h
    · rw [List.mem_singleton.mp h]; exact ⟨i0, hi⟩
  · rcases List.mem_append.mp h with h | h
    · have := N.low j h
      omega
    · rw [List.mem_singleton.mp h]
      have := I.pos
      omega
  · rcases List.append_eq_append_iff.mp e with ⟨c, e1, e2⟩ | ⟨c, e1, e2⟩
    · -- a = ended ++ c
      cases c with
      | nil =>
        simp at e2
        obtain ⟨rfl, rfl⟩ := e2
        simp at e1
        subst e1
        obtain ⟨h1, h2⟩ := N.path j0 hj
        rcases src_mem I.src h1 with h | ⟨j', h3, h4⟩
        · refine .inl ⟨h, ?_⟩
          rw [h] at h2
          simpa [srcD, srcRow] using h2
        · refine .inr ⟨j', h3, h4, ?_⟩
          rw [h4] at h2
          exact h2
      | cons x c => simp at e2
    · cases c with
      | nil =>
        simp at e2
        obtain ⟨rfl, rfl⟩ := e2
        simp at e1
        subst e1
        obtain ⟨h1, h2⟩ := N.path j hj
        rcases src_mem I.src h1 with h | ⟨j', h3, h4⟩
        · refine .inl ⟨h, ?_⟩
          rw [h] at h2
          simpa [srcD, srcRow] using h2
        · refine .inr ⟨j', h3, h4, ?_⟩
          rw [h4] at h2
          exact h2
      | cons x c =>
        simp at e2
        obtain ⟨rfl, rfl⟩ := e2
        exact N.pathe a j c e1
/-- the search is at its end -/
theorem take_free {lacks' : Nat → Int} {ahead' : Nat → Option Nat} (I : Srch T W B rp cp hold k lacks ahead waiting ended S passed cur) (N : Next T W rp cp hold k lacks' ahead' waiting ended S cur passed 0 0) {j0 : Nat} (hj : j0 ∈ waiting) (hm : ∀ j, j ∈ waiting → lacks' j0 ≤ lacks' j) (hi : hold j0 = none) :
    Ways T W rp cp hold k lacks' ahead' ended j0 := by
  have nd := I.nodup
  have h0 : passed ≤ lacks' j0 := N.high j0 hj
  have nd' := nd
  rw [List.nodup_append] at nd'
  refine ⟨?_, fun j h => ?_, I.held, hi, fun j h => ?_, Int.le_trans I.pos h0, fun s hs j h => ?_, fun j h1 h2 => ?_, fun a j b e => ?_⟩
  · rw [List.nodup_append]
    refine ⟨nd'.1, by simp, fun x hx y hy => ?_⟩
    rw [List.mem_singleton.mp hy]
    exact nd'.2.2 x hx j0 hj
  · refine (I.mem j).mpr ?_
    rcases List.mem_append.mp h with h | h
    · simp [h]
    · rw [List.mem_singleton.mp h]; simp [hj]
  · have := N.low j h
    omega
  · refine N.le s ?_ j h
    rw [← I.src]
    rcases hs with rfl | ⟨j', h1, rfl⟩
    · simp
    · simp [h1]
  · refine hm j ?_
    have := (I.mem j).mp h1
    simp at this h2
    rcases this with h | h
    · exact absurd h h2.1
    · exact h
  · rcases List.append_eq_append_iff.mp e with ⟨c, e1, e2⟩ | ⟨c, e1, e2⟩
    · cases c with
      | nil =>
        simp at e2
        obtain ⟨rfl, rfl⟩ := e2
        simp at e1
        subst e1
        obtain ⟨h1, h2⟩ := N.path j0 hj
        rcases src_mem I.src h1 with h | ⟨j', h3, h4⟩
        · refine .inl ⟨h, ?_⟩
          rw [h] at h2
          simpa [srcD, srcRow] using h2
        · refine .inr ⟨j', h3, h4, ?_⟩
          rw [h4] at h2
          exact h2
      | cons x c => simp at e2
    · cases c with
      | nil =>
        simp at e2
        obtain ⟨rfl, rfl⟩ := e2
        simp at e1
        subst e1
        obtain ⟨h1, h2⟩ := N.path j hj
        rcases src_mem I.src h1 with h | ⟨j', h3, h4⟩
        · refine .inl ⟨h, ?_⟩
          rw [h] at h2
          simpa [srcD, srcRow] using h2
        · refine .inr ⟨j', h3, h4, ?_⟩
          rw [h4] at h2
          exact h2
      | cons x c =>
        simp at e2
        obtain ⟨rfl, rfl⟩ := e2
        exact N.pathe a j c e1
/-- some column is still waiting -/
theorem waits (p : Pot T R W C k rp cp hold) (hk : k < R) (hR : R ≤ W) (I : Srch T W B rp cp hold k lacks ahead waiting ended S passed cur) : waiting ≠ [] := by
  intro z
  subst z
  have hm : ∀ j, j < W ↔ j ∈ ended := fun j => by simpa using I.mem j
  have nd : ended.Nodup := by simpa using I.nodup
  have l1 : W ≤ ended.length := by
    have := List.Nodup.length_le_of_subset (l₁ := List.range W) (l₂ := ended) List.nodup_range (fun j h => (hm j).mp (List.mem_range.mp h))
    simpa using this
  have l2 : ended.length ≤ k := by
    have n2 : (ended.map fun j => (hold j).getD 0).Nodup := by
      unfold List.Nodup
      rw [List.pairwise_map]
      refine List.Pairwise.imp_of_mem ?_ nd
      intro a b ha hb hne hab
      obtain ⟨i, hi⟩ := I.held a ha
      obtain ⟨i', hi'⟩ := I.held b hb
      rw [hi, hi'] at hab
      simp at hab
      subst hab
      exact hne (p.inj a b ((hm a).mpr ha) ((hm b).mpr hb) i hi hi')
    have := List.Nodup.length_le_of_subset (l₂ := List.range k) n2 (fun i h => by
      obtain ⟨j, hj, rfl⟩ := List.mem_map.mp h
      obtain ⟨i, hi⟩ := I.held j hj
      rw [hi]
      exact List.mem_range.mpr (p.tight j ((hm j).mpr hj) i hi).1)
    simpa using this
  omega
theorem srch_start {W : Nat} (hB : 0 ≤ B) : Srch T W B rp cp hold k (fun j => B) (fun _ => none) (List.range W) [] [] 0 none where
  src := rfl
  nodup := by simpa using List.nodup_range
  mem := fun j => by simp
  held := fun j h => by simp at h
  pas := rfl
  pos := Int.le_refl _
  low := fun j h => by simp at h
  high := fun j h => hB
  le := fun s h => by simp at h
  big := fun _ _ _ => rfl
  path := fun a j b e => by simp at e
  pathw := fun h => absurd rfl h
end
end Hun
set_option Elab.async false
set_option linter.all false
set_option maxRecDepth 100000
set_option maxHeartbeats 1000000
namespace Px
open PySem PySem.Spec PyProof.Rows L2 Rx
/-! ### the look at a row -/
def cst (T : List (List Int)) (rp cp : List Int) (row : Nat) (passed : Int) (j : Nat) : Int := passed + rp.getD row 0 + cp.getD j 0 - (T.getD row []).getD j 0
def scan (c : Nat → Int) (last : Option Nat) : List Nat → List Int → List (Option Nat) → List Int × List (Option Nat)
  | [], la, ah => (la, ah)
  | j :: ws, la, ah => if c j < la.getD j 0 then scan c last ws (la.set j (c j)) (ah.set j last) else scan c last ws la ah
theorem scan_len (c : Nat → Int) (last : Option Nat) : ∀ (ws : List Nat) (la : List Int) (ah : List (Option Nat)), (scan c last ws la ah).1.length = la.length ∧ (scan c last ws la ah).2.length = ah.length
  | [], la, ah => ⟨rfl, rfl⟩
  | j :: ws, la, ah => by
    unfold scan
    split
    · have := scan_len c last ws (la.set j (c j)) (ah.set j last)
      simpa using this
    · exact scan_len c last ws la ah
def bScan : SSt := (sSeq (sSet 13 (s2 dSub (s2 dAdd (s2 dAdd (sVar 11) (s2 dIx (sVar 2) (sVar 9))) (s2 dIx (sVar 3) (sVar 12))) (s2 dIx (s2 dIx (sVar 1) (sVar 9)) (sVar 12)))) (sIf (sTst (s2 dLt (sVar 13) (s2 dIx (sVar 5) (sVar 12)))) (sSeq (sPut (sVar 13) (sVar 5) (sVar 12)) (sPut (sVar 10) (sVar 6) (sVar 12))) sNil))
/-- the store of shortest_ways -/
def mW (m : Mu) (rp cp : List Int) (ho : List (Option Nat)) (la : List Int) (ah : List (Option Nat)) (wa en : MO) : Mu := m ++ [.lst (iL rp), .lst (iL cp), .lst (oL ho), .lst (iL la), .lst (oL ah), wa, en]
def sW (m : Mu) (new : Nat) (T : List (List Int)) (row last passed x12 x13 : Option D) : Sd := [some (.int new), some (.lst (tL T)), some (.ref m.length), some (.ref (m.length + 1)), some (.ref (m.length + 2)), some (.ref (m.length + 3)), some (.ref (m.length + 4)), some (.ref (m.length + 5)), some (.ref (m.length + 6)), row, last, passed, x12, x13]
theorem scan_loop {m : Mu} {rp cp : List Int} {ho : List (Option Nat)} {T : List (List Int)} {wa en : MO} {new row : Nat} {last : Option Nat} {passed : Int} {W : Nat} (hr : row < rp.length) (hT : row < T.length) (hc : cp.length = W) (hTr : (T.getD row []).length = W) :
    ∀ (ws : List Nat) (la : List Int) (ah : List (Option Nat)) (x12 x13 : Option D), (∀ j ∈ ws, j < W) → la.length = W → ah.length = W →
    ∃ y12 y13, forL (gN 12) bScan (wL ws) (sW m new T (some (.int row)) (some (oD last)) (some (.int passed)) x12 x13) (mW m rp cp ho la ah wa en) =
      .nx (sW m new T (some (.int row)) (some (oD last)) (some (.int passed)) y12 y13) (mW m rp cp ho (scan (cst T rp cp row passed) last ws la ah).1 (scan (cst T rp cp row passed) last ws la ah).2 wa en)
  | [], la, ah, x12, x13, _, _, _ => ⟨x12, x13, rfl⟩
  | j :: ws, la, ah, x12, x13, hw, hl, ha => by
    have hj : j < W := hw j List.mem_cons_self
    obtain ⟨v1, h1⟩ := get_ok hr
    obtain ⟨v2, h2⟩ := get_ok (l := cp) (i := j) (by omega)
    obtain ⟨r, h3⟩ := get_ok hT
    rw [getD_of h3] at hTr
    obtain ⟨v4, h4⟩ := get_ok (l := r) (i := j) (by omega)
    obtain ⟨v5, h5⟩ := get_ok (l := la) (i := j) (by omega)
    have h5' : ∀ h : j < la.length, la[j] = v5 := fun h => by
      rw [List.getElem?_eq_getElem h] at h5
      exact Option.some.inj h5
    have hcs : cst T rp cp row passed j = passed + v1 + v2 - v4 := by unfold cst; rw [getD_of h1, getD_of h2, getD_of h3, getD_of h4]
    have hla : la.getD j 0 = v5 := getD_of h5
    rw [show wL (j :: ws) = .int (j : Int) :: wL ws from rfl]
    by_cases c : cst T rp cp row passed j < la.getD j 0
    · obtain ⟨y12, y13, e⟩ := scan_loop (m := m) (rp := rp) (cp := cp) (ho := ho) (T := T) (wa := wa) (en := en) (new := new) (last := last) (passed := passed) hr hT hc (by rw [getD_of h3]; exact hTr) ws (la.set j (cst T rp cp row passed j)) (ah.set j last) (some (.int j)) (some (.int (cst T rp cp row passed j))) (fun i hi => hw i (List.mem_cons_of_mem _ hi)) (by simpa using hl) (by simpa using ha)
      refine ⟨y12, y13, ?_⟩
      rw [scan, if_pos c]
      refine (forL_step (s2 := sW m new T (some (.int row)) (some (oD last)) (some (.int passed)) (some (.int j)) (some (.int (cst T rp cp row passed j)))) rfl ?_).trans e
      rw [hcs, hla] at c
      rw [hcs]
      unfold bScan sW mW
      simp [h1, h2, h3, h4, h5, h5', c, hl, ha, hj]
    · obtain ⟨y12, y13, e⟩ := scan_loop (m := m) (rp := rp) (cp := cp) (ho := ho) (T := T) (wa := wa) (en := en) (new := new) (last := last) (passed := passed) hr hT hc (by rw [getD_of h3]; exact hTr) ws la ah (some (.int j)) (some (.int (cst T rp cp row passed j))) (fun i hi => hw i (List.mem_cons_of_mem _ hi)) hl ha
      refine ⟨y12, y13, ?_⟩
      rw [scan, if_neg c]
      refine (forL_step (s2 := sW m new T (some (.int row)) (some (oD last)) (some (.int passed)) (some (.int j)) (some (.int (cst T rp cp row passed j)))) rfl ?_).trans e
      rw [hcs, hla] at c
      rw [hcs]
      unfold bScan sW mW
      simp [h1, h2, h3, h4, h5, c]
/-! ### the search -/
abbrev gI (l : List Int) : Nat → Int := fun i => l.getD i 0
abbrev gO (l : List (Option Nat)) : Nat → Option Nat := fun i => l.getD i none
abbrev gT2 (t : List (List Int)) : Hun.Tab := fun i j => (t.getD i []).getD j 0
theorem getD_set_same {α : Type} {l : List α} {i : Nat} {v d : α} (h : i < l.length) : (l.set i v).getD i d = v := by simp [h]
theorem getD_set_ne {α : Type} {l : List α} {i j : Nat} {v d : α} (h : j ≠ i) : (l.set i v).getD j d = l.getD j d := by simp [List.getElem?_set_ne (Ne.symm h)]
theorem scan_out (c : Nat → Int) (last : Option Nat) : ∀ (ws : List Nat) (la : List Int) (ah : List (Option Nat)) (j : Nat), j ∉ ws → (scan c last ws la ah).1.getD j 0 = la.getD j 0 ∧ (scan c last ws la ah).2.getD j none = ah.getD j none
  | [], la, ah, j, _ => ⟨rfl, rfl⟩
  | x :: ws, la, ah, j, h => by
    have h1 : j ≠ x := fun z => h (by simp [z])
    have h2 : j ∉ ws := fun z => h (by simp [z])
    unfold scan
    split
    · obtain ⟨e1, e2⟩ := scan_out c last ws (la.set x (c x)) (ah.set x last) j h2
      rw [e1, e2, getD_set_ne h1, getD_set_ne h1]
      exact ⟨rfl, rfl⟩
    · exact scan_out c last ws la ah j h2
theorem scan_in (c : Nat → Int) (last : Option Nat) : ∀ (ws : List Nat) (la : List Int) (ah : List (Option Nat)), ws.Nodup → (∀ j ∈ ws, j < la.length ∧ j < ah.length) → ∀ j ∈ ws,
    (c j < la.getD j 0 → (scan c last ws la ah).1.getD j 0 = c j ∧ (scan c last ws la ah).2.getD j none = last) ∧ (¬ (c j < la.getD j 0) → (scan c last ws la ah).1.getD j 0 = la.getD j 0 ∧ (scan c last ws la ah).2.getD j none = ah.getD j none)
  | [], la, ah, _, _, j, hj => by cases hj
  | x :: ws, la, ah, nd, hw, j, hj => by
    have nd' := List.nodup_cons.mp nd
    have hx := hw x List.mem_cons_self
    unfold scan
    by_cases e : j = x
    · subst e
      split
      · rename_i hc
        obtain ⟨e1, e2⟩ := scan_out c last ws (la.set j (c j)) (ah.set j last) j nd'.1
        rw [e1, e2, getD_set_same hx.1, getD_set_same hx.2]
        exact ⟨fun _ => ⟨rfl, rfl⟩, fun z => absurd hc z⟩
      · rename_i hc
        obtain ⟨e1, e2⟩ := scan_out c last ws la ah j nd'.1
        rw [e1, e2]
        exact ⟨fun z => absurd z hc, fun _ => ⟨rfl, rfl⟩⟩
    · have hj' : j ∈ ws := by simpa [e] using hj
      split
      · have := scan_in c last ws (la.set x (c x)) (ah.set x last) nd'.2 (fun i hi => by
          have := hw i (List.mem_cons_of_mem _ hi)
          simpa using this) j hj'
        rw [getD_set_ne e, getD_set_ne e] at this
        exact this
      · exact scan_in c last ws la ah nd'.2 (fun i hi => hw i (List.mem_cons_of_mem _ hi)) j hj'
theorem scan_look {T : List (List Int)} {rp cp la : List Int} {ah : List (Option Nat)} {row : Nat} {passed : Int} {cur : Option Nat} {ws : List Nat} (nd : ws.Nodup) (hw : ∀ j ∈ ws, j < la.length ∧ j < ah.length) :
    Hun.Look (gT2 T) (gI rp) (gI cp) row passed cur ws (gI la) (gO ah) (gI (scan (cst T rp cp row passed) cur ws la ah).1) (gO (scan (cst T rp cp row passed) cur ws la ah).2) := by
  have e : ∀ j, cst T rp cp row passed j = passed + (gI rp row + gI cp j - gT2 T row j) := fun j => by
    show passed + rp.getD row 0 + cp.getD j 0 - (T.getD row []).getD j 0 = passed + (rp.getD row 0 + cp.getD j 0 - (T.getD row []).getD j 0)
    omega
  refine ⟨fun j hj h => ?_, fun j hj h => ?_, fun j hj => scan_out _ _ ws la ah j hj⟩
  · have := (scan_in (cst T rp cp row passed) cur ws la ah nd hw j hj).1 (by rw [e]; exact h)
    rw [e] at this
    exact this
  · exact (scan_in (cst T rp cp row passed) cur ws la ah nd hw j hj).2 (by rw [e]; exact h)
theorem minP_ok : ∀ (l : List (Int × Int)) (a : Int × Int), minP a l ∈ a :: l ∧ ∀ x ∈ a :: l, lexLe (minP a l) x = true
  | [], a => ⟨by simp [minP], fun x hx => by
    have : x = a := by simpa using hx
    subst this
    simp [minP, lexLe]⟩
  | y :: l, a => by
    unfold minP
    split
    · rename_i h
      obtain ⟨h1, h2⟩ := minP_ok l a
      refine ⟨by
        rcases List.mem_cons.mp h1 with h1 | h1
        · rw [h1]; simp
        · simp [h1], fun x hx => ?_⟩
      rcases List.mem_cons.mp hx with rfl | hx
      · exact h2 x (by simp)
      · rcases List.mem_cons.mp hx with rfl | hx
        · exact lexLe_tr _ _ _ (h2 a (by simp)) h
        · exact h2 x (by simp [hx])
    · rename_i h
      obtain ⟨h1, h2⟩ := minP_ok l y
      refine ⟨by
        rcases List.mem_cons.mp h1 with h1 | h1
        · rw [h1]; simp
        · simp [h1], fun x hx => ?_⟩
      rcases List.mem_cons.mp hx with rfl | hx
      · have : lexLe y x = true := by
          have := lexLe_tot x y
          rw [Bool.or_eq_true] at this
          rcases this with z | z
          · exact absurd z h
          · exact z
        exact lexLe_tr _ _ _ (h2 y (by simp)) this
      · rcases List.mem_cons.mp hx with rfl | hx
        · exact h2 x (by simp)
        · exact h2 x (by simp [hx])
def bTurn : SSt := (sSeq (sForH (sVar 7) (gN 12) bScan) (sSeq (sAsg (sB dMinP (aCons (sLcH (sVar 7) (gN 12) bYes (sTup (aCons (s2 dIx (sVar 5) (sVar 12)) (aCons (sVar 12) aNil))) [12]) aNil)) (gT (gsCons (gN 11) (gsCons (gN 10) gsNil)))) (sSeq (sDo (sM1 dRem (sVar 7) (sVar 10))) (sSeq (sDo (sM1 dApp (sVar 8) (sVar 10))) (sSet 9 (s2 dIx (sVar 4) (sVar 10)))))))
theorem prsOf_map (l : List (Int × Int)) : prsOf (l.map prD_) = some l := by
  induction l with
  | nil => rfl
  | cons a l ih => rw [List.map_cons, prsOf, ih]; rfl
theorem intsOf_map (l : List Int) : intsOf (iL l) = some l := by
  induction l with
  | nil => rfl
  | cons a l ih => rw [iL, List.map_cons, intsOf, ih]; rfl
theorem eraseIdx_map_ {α β : Type} (f : α → β) : ∀ (l : List α) (i : Nat), (l.map f).eraseIdx i = (l.eraseIdx i).map f
  | [], _ => rfl
  | _ :: _, 0 => rfl
  | a :: l, i + 1 => by simp [eraseIdx_map_ f l i]
theorem wL_iL (l : List Nat) : wL l = iL (l.map fun (n : Nat) => (n : Int)) := by simp
theorem findIdx_w {l : List Nat} {j : Nat} (h : j ∈ l) : ∃ i, (l.map fun (n : Nat) => (n : Int)).findIdx? (fun z => decide (z = (j : Int))) = some i ∧ l.eraseIdx i = l.erase j := by
  induction l with
  | nil => cases h
  | cons x l ih =>
    by_cases e : x = j
    · subst e
      exact ⟨0, by simp [List.findIdx?_cons], by simp⟩
    · have h' : j ∈ l := by
        rcases List.mem_cons.mp h with z | z
        · exact absurd z.symm e
        · exact z
      obtain ⟨i, e1, e2⟩ := ih h'
      refine ⟨i + 1, ?_, ?_⟩
      · rw [List.map_cons, List.findIdx?_cons]
        have : ¬ ((x : Int) = (j : Int)) := by omega
        simp only [this, decide_false]
        rw [e1]
        rfl
      · rw [List.eraseIdx_cons_succ, e2, List.erase_cons]
        simp [e]
/-- the least waiting column -/
theorem turn_ok {m : Mu} {rp cp la : List Int} {ho ah : List (Option Nat)} {T : List (List Int)} {wa en : List Nat} {new row : Nat} {last : Option Nat} {passed : Int} {W : Nat} (hr : row < rp.length) (hT : row < T.length) (hc : cp.length = W) (hTr : (T.getD row []).length = W) (hh : ho.length = W)
    (hw : ∀ j ∈ wa, j < W) (hl : la.length = W) (ha : ah.length = W) (hne : wa ≠ []) (hsz : W ≤ 1000) (hen : en.length ≤ W) (hwn : wa.length ≤ W) (x12 x13 : Option D) :
    ∃ j0 y12 y13, j0 ∈ wa ∧ (∀ j ∈ wa, (scan (cst T rp cp row passed) last wa la ah).1.getD j0 0 ≤ (scan (cst T rp cp row passed) last wa la ah).1.getD j 0) ∧
      bTurn (sW m new T (some (.int row)) (some (oD last)) (some (.int passed)) x12 x13) (mW m rp cp ho la ah (.lst (wL wa)) (.lst (wL en))) =
      .nx (sW m new T (some (oD (ho.getD j0 none))) (some (.int j0)) (some (.int ((scan (cst T rp cp row passed) last wa la ah).1.getD j0 0))) y12 y13) (mW m rp cp ho (scan (cst T rp cp row passed) last wa la ah).1 (scan (cst T rp cp row passed) last wa la ah).2 (.lst (wL (wa.erase j0))) (.lst (wL (en ++ [j0])))) := by
  obtain ⟨y12, y13, e⟩ := scan_loop (m := m) (rp := rp) (cp := cp) (ho := ho) (T := T) (wa := .dead) (en := .lst (wL en)) (new := new) (last := last) (passed := passed) hr hT hc hTr wa la ah x12 x13 hw hl ha
  generalize hs1 : (scan (cst T rp cp row passed) last wa la ah).1 = la' at *
  generalize hs2 : (scan (cst T rp cp row passed) last wa la ah).2 = ah' at *
  have hl' : la'.length = W := by rw [← hs1, (scan_len _ _ _ _ _).1, hl]
  obtain ⟨w0, wr, rfl⟩ := List.exists_cons_of_ne_nil hne
  let pr : Nat → Int × Int := fun j => (la'.getD j 0, (j : Int))
  obtain ⟨h1, h2⟩ := minP_ok (wr.map pr) (pr w0)
  have h1' : minP (pr w0) (wr.map pr) ∈ (w0 :: wr).map pr := h1
  obtain ⟨j0, hj0, ej⟩ := List.mem_map.mp h1'
  have hjW : j0 < W := hw j0 hj0
  refine ⟨j0, y12, y13, hj0, fun j hj => ?_, ?_⟩
  · have := h2 (pr j) (show pr j ∈ (w0 :: wr).map pr from List.mem_map_of_mem hj)
    rw [← ej, lexLe_iff] at this
    dsimp only [pr] at this
    omega
  · -- the walk
    have st1 : sForH (sVar 7) (gN 12) bScan (sW m new T (some (.int row)) (some (oD last)) (some (.int passed)) x12 x13) (mW m rp cp ho la ah (.lst (wL (w0 :: wr))) (.lst (wL en))) = .nx (sW m new T (some (.int row)) (some (oD last)) (some (.int passed)) y12 y13) (mW m rp cp ho la' ah' (.lst (wL (w0 :: wr))) (.lst (wL en))) := by
      unfold sW mW at e ⊢
      simp at e ⊢
      rw [e]
      simp [giveB]
    unfold bTurn
    rw [sSeq_nx st1]
    have st2 : sLcH (sVar 7) (gN 12) bYes (sTup (aCons (s2 dIx (sVar 5) (sVar 12)) (aCons (sVar 12) aNil))) [12] (sW m new T (some (.int row)) (some (oD last)) (some (.int passed)) y12 y13) (mW m rp cp ho la' ah' (.lst (wL (w0 :: wr))) (.lst (wL en))) = .ok (.lst (((w0 :: wr).map pr).map prD_)) (mW m rp cp ho la' ah' (.lst (wL (w0 :: wr))) (.lst (wL en))) := by
      have k := lcL_mapT (g := gN 12) (el := (sTup (aCons (s2 dIx (sVar 5) (sVar 12)) (aCons (sVar 12) aNil)))) (s := wipeD (sW m new T (some (.int row)) (some (oD last)) (some (.int passed)) y12 y13) [12]) (m := mW m rp cp ho la' ah' .dead (.lst (wL en))) (fun (n : Nat) => D.int (n : Int)) (fun j => prD_ (pr j)) (w0 :: wr) (fun j hj => by
        obtain ⟨v, hv⟩ := get_ok (l := la') (i := j) (by rw [hl']; exact hw j hj)
        refine ⟨_, rfl, ?_⟩
        unfold sW mW
        dsimp only [pr]
        rw [getD_of hv]
        simp [wipeD, hv, prD_])
      have hlen : (wL (w0 :: wr)).length ≤ 1000000 := by simp at hwn ⊢; omega
      unfold sW mW at k ⊢
      simp at k hlen ⊢
      rw [k]
      simp [hlen]
    have st3 : sAsg (sB dMinP (aCons (sLcH (sVar 7) (gN 12) bYes (sTup (aCons (s2 dIx (sVar 5) (sVar 12)) (aCons (sVar 12) aNil))) [12]) aNil)) (gT (gsCons (gN 11) (gsCons (gN 10) gsNil))) (sW m new T (some (.int row)) (some (oD last)) (some (.int passed)) y12 y13) (mW m rp cp ho la' ah' (.lst (wL (w0 :: wr))) (.lst (wL en))) =
        .nx (sW m new T (some (.int row)) (some (.int j0)) (some (.int (la'.getD j0 0))) y12 y13) (mW m rp cp ho la' ah' (.lst (wL (w0 :: wr))) (.lst (wL en))) := by
      have k : dMinP [.lst (((w0 :: wr).map pr).map prD_)] (mW m rp cp ho la' ah' (.lst (wL (w0 :: wr))) (.lst (wL en))) = .ok (prD_ (pr j0)) (mW m rp cp ho la' ah' (.lst (wL (w0 :: wr))) (.lst (wL en))) := by
        unfold dMinP
        simp only [q_seq1, prsOf_map]
        rw [List.map_cons]
        dsimp only
        rw [← ej]
      simp only [e_sAsg, e_sB, e_aCons, e_aNil, st2, q_bind1, k, e_Res.toS]
      rfl
    rw [sSeq_nx st3]
    have st4 : sDo (sM1 dRem (sVar 7) (sVar 10)) (sW m new T (some (.int row)) (some (.int j0)) (some (.int (la'.getD j0 0))) y12 y13) (mW m rp cp ho la' ah' (.lst (wL (w0 :: wr))) (.lst (wL en))) = .nx (sW m new T (some (.int row)) (some (.int j0)) (some (.int (la'.getD j0 0))) y12 y13) (mW m rp cp ho la' ah' (.lst (wL ((w0 :: wr).erase j0))) (.lst (wL en))) := by
      obtain ⟨i, f1, f2⟩ := findIdx_w hj0
      have f3 : intsOf (wL (w0 :: wr)) = some ((w0 :: wr).map fun (n : Nat) => (n : Int)) := by rw [wL_iL]; exact intsOf_map _
      have f4 : (wL (w0 :: wr)).eraseIdx i = wL ((w0 :: wr).erase j0) := by rw [← f2, wL, eraseIdx_map_]
      have k : dRem (.ref (m.length + 5)) (.int j0) (mW m rp cp ho la' ah' (.lst (wL (w0 :: wr))) (.lst (wL en))) = .ok .non (mW m rp cp ho la' ah' (.lst (wL ((w0 :: wr).erase j0))) (.lst (wL en))) := by
        unfold dRem
        rw [q_hOf (show (mW m rp cp ho la' ah' (.lst (wL (w0 :: wr))) (.lst (wL en)))[m.length + 5]? = some (.lst (wL (w0 :: wr))) from by unfold mW; simp)]
        dsimp only
        rw [f3]
        dsimp only
        rw [f1]
        dsimp only
        rw [f4]
        unfold mW
        simp
      have hL : isL (mW m rp cp ho la' ah' (.lst (wL (w0 :: wr))) (.lst (wL en))) (.ref (m.length + 5)) = true := by unfold mW; simp
      simp only [e_sDo, e_sM1, e_sVar, e_Res.toS]
      unfold sW
      simp only [List.getElem?_cons_zero, List.getElem?_cons_succ, q_bind1, hL, k, if_pos]
    rw [sSeq_nx st4]
    have st5 : sDo (sM1 dApp (sVar 8) (sVar 10)) (sW m new T (some (.int row)) (some (.int j0)) (some (.int (la'.getD j0 0))) y12 y13) (mW m rp cp ho la' ah' (.lst (wL ((w0 :: wr).erase j0))) (.lst (wL en))) = .nx (sW m new T (some (.int row)) (some (.int j0)) (some (.int (la'.getD j0 0))) y12 y13) (mW m rp cp ho la' ah' (.lst (wL ((w0 :: wr).erase j0))) (.lst (wL (en ++ [j0])))) := by
      have hlen : en.length ≤ 1000000 := by omega
      unfold sW mW
      simp [hlen]
    rw [sSeq_nx st5]
    obtain ⟨v, hv⟩ := get_ok (l := ho) (i := j0) (by omega)
    rw [getD_of hv]
    unfold sW mW
    simp [hv]
/-- the loop: until a free column is found -/
theorem ways_loop {m : Mu} {rp cp : List Int} {ho : List (Option Nat)} {T : List (List Int)} {R W k : Nat} {B C : Int} (p : Hun.Pot (gT2 T) R W C k (gI rp) (gI cp) (gO ho)) (hk : k < R) (hR : R ≤ W) (hrl : rp.length = R) (hTl : T.length = R) (hc : cp.length = W) (hTr : ∀ i, i < R → (T.getD i []).length = W) (hh : ho.length = W) (hsz : W ≤ 900)
    (hB : ∀ i, i < R → ∀ j, j < W → gI rp i + gI cp j - gT2 T i j < B) :
    ∀ (n : Nat) (la : List Int) (ah : List (Option Nat)) (wa en : List Nat) (S : List (Option Nat)) (passed : Int) (cur : Option Nat) (x12 x13 : Option D), Hun.Srch (gT2 T) W B (gI rp) (gI cp) (gO ho) k (gI la) (gO ah) wa en S passed cur → la.length = W → ah.length = W → wa.length < n →
    ∃ la' ah' wa' pre free y11 y12 y13, whL (sTst (s2 dNotN (sVar 9) (sC .non))) bTurn (n + 1) (sW m k T (some (.int (Hun.srcRow (gO ho) k cur))) (some (oD cur)) (some (.int passed)) x12 x13) (mW m rp cp ho la ah (.lst (wL wa)) (.lst (wL en))) =
      .nx (sW m k T (some .non) (some (.int (free : Nat))) y11 y12 y13) (mW m rp cp ho la' ah' (.lst (wL wa')) (.lst (wL (pre ++ [free])))) ∧ Hun.Ways (gT2 T) W (gI rp) (gI cp) (gO ho) k (gI la') (gO ah') pre free ∧ la'.length = W ∧ ah'.length = W
  | 0, la, ah, wa, en, S, passed, cur, x12, x13, I, hl, ha, hn => absurd hn (Nat.not_lt_zero _)
  | n + 1, la, ah, wa, en, S, passed, cur, x12, x13, I, hl, ha, hn => by
    have hne := Hun.waits p hk hR I
    have nd := I.nodup
    rw [List.nodup_append] at nd
    have hwW : ∀ j ∈ wa, j < W := fun j hj => (I.mem j).mpr (by simp [hj])
    have heW : ∀ j ∈ en, j < W := fun j hj => (I.mem j).mpr (by simp [hj])
    have hlen : (en ++ wa).length ≤ W := by
      have := List.Nodup.length_le_of_subset (l₂ := List.range W) I.nodup (fun j hj => List.mem_range.mpr ((I.mem j).mpr hj))
      simpa using this
    have hrow : Hun.srcRow (gO ho) k cur < R := by
      rcases Hun.src_mem I.src (show cur ∈ S ++ [cur] by simp) with z | ⟨j, hj, z⟩
      · rw [z]; exact hk
      · obtain ⟨i, hi⟩ := I.held j hj
        have := (p.tight j (heW j hj) i hi).1
        rw [z]
        show ((gO ho j).getD 0) < R
        rw [hi]
        show i < R
        omega
    generalize hrr : Hun.srcRow (gO ho) k cur = row at *
    obtain ⟨j0, y12, y13, h1, h2, e⟩ := turn_ok (m := m) (rp := rp) (cp := cp) (la := la) (ho := ho) (ah := ah) (T := T) (wa := wa) (en := en) (new := k) (row := row) (last := cur) (passed := passed) (W := W) (by omega) (by omega) hc (hTr row hrow) hh hwW hl ha hne (by omega) (by simp at hlen; omega) (by simp at hlen; omega) x12 x13
    have L := scan_look (T := T) (rp := rp) (cp := cp) (la := la) (ah := ah) (row := row) (passed := passed) (cur := cur) (ws := wa) nd.2.1 (fun j hj => by have := hwW j hj; omega)
    obtain ⟨l1, l2⟩ := scan_len (cst T rp cp row passed) cur wa la ah
    generalize hs1 : (scan (cst T rp cp row passed) cur wa la ah).1 = la' at *
    generalize hs2 : (scan (cst T rp cp row passed) cur wa la ah).2 = ah' at *
    have N := Hun.look_ok hB p hk I hrr.symm L
    have hcnd : sTst (s2 dNotN (sVar 9) (sC .non)) (sW m k T (some (.int row)) (some (oD cur)) (some (.int passed)) x12 x13) (mW m rp cp ho la ah (.lst (wL wa)) (.lst (wL en))) = .ok true (mW m rp cp ho la ah (.lst (wL wa)) (.lst (wL en))) := by
      unfold sW
      simp
    rw [whL_step hcnd e]
    cases hi : ho.getD j0 none with
    | none =>
      refine ⟨la', ah', wa.erase j0, en, j0, _, _, _, whL_end (m1 := mW m rp cp ho la' ah' (.lst (wL (wa.erase j0))) (.lst (wL (en ++ [j0])))) ?_, Hun.take_free I N h1 h2 hi, by omega, by omega⟩
      unfold sW
      simp
    | some i0 =>
      have I' := Hun.take_next I N h1 h2 hi
      have hr' : Hun.srcRow (gO ho) k (some j0) = i0 := by
        show ((gO ho j0).getD 0) = i0
        rw [show gO ho j0 = some i0 from hi]
        rfl
      obtain ⟨la2, ah2, wa2, pre, free, y11, z12, z13, e2, w2, w3, w4⟩ := ways_loop (m := m) p hk hR hrl hTl hc hTr hh hsz hB n la' ah' (wa.erase j0) (en ++ [j0]) (S ++ [cur]) _ (some j0) y12 y13 I' (by omega) (by omega) (by
        have := List.length_erase_of_mem h1
        have := List.length_pos_of_mem h1
        omega)
      rw [hr'] at e2
      exact ⟨la2, ah2, wa2, pre, free, y11, z12, z13, e2, w2, w3, w4⟩
/-- all of it -/
theorem ways_ok {m : Mu} {rp cp : List Int} {ho : List (Option Nat)} {T : List (List Int)} {R W k : Nat} {C : Int} (p : Hun.Pot (gT2 T) R W C k (gI rp) (gI cp) (gO ho)) (hk : k < R) (hR : R ≤ W) (hrl : rp.length = R) (hTl : T.length = R) (hc : cp.length = W) (hTr : ∀ i, i < R → (T.getD i []).length = W) (hh : ho.length = W) (hsz : W ≤ 900)
    (hB : ∀ i, i < R → ∀ j, j < W → gI rp i + gI cp j - gT2 T i j < 200000000) :
    ∃ la ah wa pre free, f_shortest_ways [.int (k : Nat), .lst (tL T), .ref m.length, .ref (m.length + 1), .ref (m.length + 2)] (m ++ [.lst (iL rp), .lst (iL cp), .lst (oL ho)]) =
      .ok (.tup [.ref (m.length + 3), .ref (m.length + 4), .ref (m.length + 6)]) (mW m rp cp ho la ah (.lst (wL wa)) (.lst (wL (pre ++ [free])))) ∧ Hun.Ways (gT2 T) W (gI rp) (gI cp) (gO ho) k (gI la) (gO ah) pre free ∧ la.length = W ∧ ah.length = W := by
  have I0 := Hun.srch_start (T := gT2 T) (B := 200000000) (rp := gI rp) (cp := gI cp) (hold := gO ho) (k := k) (W := W) (by decide)
  have I : Hun.Srch (gT2 T) W 200000000 (gI rp) (gI cp) (gO ho) k (gI (List.replicate W 200000000)) (gO (List.replicate W none)) (List.range W) [] [] 0 none := by
    refine ⟨I0.src, I0.nodup, I0.mem, I0.held, rfl, I0.pos, fun j h => (by cases h), fun j h => ?_, fun s h => (by cases h), fun _ j hj => ?_, fun a j b e => by simp at e, fun h => absurd rfl h⟩
    · have : j < W := by simpa using h
      simp [gI, this]
    · simp [gI, hj]
  obtain ⟨la, ah, wa, pre, free, y11, y12, y13, e, w1, w2, w3⟩ := ways_loop (m := m) p hk hR hrl hTl hc hTr hh hsz hB 999 (List.replicate W 200000000) (List.replicate W none) (List.range W) [] [] 0 none none none I (by simp) (by simp) (by simp; omega)
  refine ⟨la, ah, wa, pre, free, ?_, w1, w2, w3⟩
  unfold f_shortest_ways Rx.run b_shortest_ways
  have hW1 : (W : Int) ≤ 1000 := by omega
  have hW2 : (W : Int) ≤ 1000000 := by omega
  have hrange : rangeD 0 W = wL (List.range W) := by simp [rangeD]
  have hsr : Hun.srcRow (gO ho) k none = k := rfl
  rw [hsr] at e
  unfold bTurn bScan sW mW at e
  simp only [e_sSeq]
  simp [hh, hW1, hW2, hrange, k_NO_WAY] at e ⊢
  rw [e]
  simp [mW]
end Px
set_option Elab.async false
set_option linter.all false
set_option maxRecDepth 100000
set_option maxHeartbeats 1000000
namespace Px
open PySem PySem.Spec PyProof.Rows L2 Rx
/-! ### the prices' change -/
def updP (ho : List (Option Nat)) (la : List Int) (Dd : Int) : List Nat → List Int → List Int → List Int × List Int
  | [], rp, cp => (rp, cp)
  | j :: pre, rp, cp => updP ho la Dd pre (rp.set ((ho.getD j none).getD 0) (rp.getD ((ho.getD j none).getD 0) 0 - (Dd - la.getD j 0))) (cp.set j (cp.getD j 0 + (Dd - la.getD j 0)))
theorem updP_ok (ho : List (Option Nat)) (la : List Int) (Dd : Int) : ∀ (pre : List Nat) (rp cp : List Int), pre.Nodup → (∀ j ∈ pre, j < cp.length ∧ ∃ i, ho.getD j none = some i ∧ i < rp.length) → (∀ j ∈ pre, ∀ j' ∈ pre, ∀ i, ho.getD j none = some i → ho.getD j' none = some i → j = j') →
    (updP ho la Dd pre rp cp).1.length = rp.length ∧ (updP ho la Dd pre rp cp).2.length = cp.length ∧ (∀ j ∈ pre, ∀ i, ho.getD j none = some i → (updP ho la Dd pre rp cp).1.getD i 0 = rp.getD i 0 - (Dd - la.getD j 0)) ∧ (∀ i, (∀ j ∈ pre, ho.getD j none ≠ some i) → (updP ho la Dd pre rp cp).1.getD i 0 = rp.getD i 0) ∧
    ∀ j, (updP ho la Dd pre rp cp).2.getD j 0 = if j ∈ pre then cp.getD j 0 + (Dd - la.getD j 0) else cp.getD j 0
  | [], rp, cp, _, _, _ => ⟨rfl, rfl, (fun j hj => by cases hj), (fun i _ => rfl), (fun j => by simp [updP])⟩
  | x :: pre, rp, cp, nd, hw, hi => by
    have nd' := List.nodup_cons.mp nd
    obtain ⟨hx, i0, e0, hi0⟩ := hw x List.mem_cons_self
    unfold updP
    rw [e0]
    obtain ⟨l1, l2, l3, l4, l5⟩ := updP_ok ho la Dd pre (rp.set i0 (rp.getD i0 0 - (Dd - la.getD x 0))) (cp.set x (cp.getD x 0 + (Dd - la.getD x 0))) nd'.2 (fun j hj => by
      have := hw j (List.mem_cons_of_mem _ hj)
      simpa using this) (fun j hj j' hj' => hi j (List.mem_cons_of_mem _ hj) j' (List.mem_cons_of_mem _ hj'))
    refine ⟨by simpa using l1, by simpa using l2, fun j hj i e => ?_, fun i h => ?_, fun j => ?_⟩
    · rcases List.mem_cons.mp hj with rfl | hj
      · rw [e0] at e
        cases e
        refine (l4 i0 fun j' hj' e' => ?_).trans (getD_set_same hi0)
        have := hi j List.mem_cons_self j' (List.mem_cons_of_mem _ hj') i0 e0 e'
        subst this
        exact nd'.1 hj'
      · refine (l3 j hj i e).trans ?_
        have : i ≠ i0 := fun z => by
          subst z
          have := hi x List.mem_cons_self j (List.mem_cons_of_mem _ hj) i e0 e
          subst this
          exact nd'.1 hj
        show (rp.set i0 _).getD i 0 - _ = _
        rw [getD_set_ne this]
    · refine (l4 i fun j hj => h j (List.mem_cons_of_mem _ hj)).trans (getD_set_ne fun z => ?_)
      subst z
      exact h x List.mem_cons_self e0
    · refine (l5 j).trans ?_
      by_cases e : j = x
      · subst e
        simp [nd'.1, hx]
      · have e' : (cp.set x (cp.getD x 0 + (Dd - la.getD x 0))).getD j 0 = cp.getD j 0 := getD_set_ne e
        rw [e']
        simp [e]
def bUpd : SSt := (sSeq (sSet 10 (s2 dSub (s2 dIx (sVar 7) (sVar 5)) (s2 dIx (sVar 7) (sVar 6)))) (sSeq (sAug dSub (sVar 2) (s2 dIx (sVar 4) (sVar 6)) (sVar 10)) (sAug dAddI (sVar 3) (sVar 6) (sVar 10))))
def sL (m : Mu) (new : Nat) (T : List (List Int)) (free col x10 : Option D) : Sd := [some (.int new), some (.lst (tL T)), some (.ref m.length), some (.ref (m.length + 1)), some (.ref (m.length + 2)), free, col, some (.ref (m.length + 3)), some (.ref (m.length + 4)), some (.ref (m.length + 6)), x10]
theorem upd_loop {m : Mu} {ho ah : List (Option Nat)} {la : List Int} {T : List (List Int)} {wa en : MO} {new free : Nat} {Dd : Int} {R W : Nat} (hh : ho.length = W) (hla : la.length = W) (hf : free < W) (hD : la.getD free 0 = Dd) :
    ∀ (pre : List Nat) (rp cp : List Int) (x6 x10 : Option D), rp.length = R → cp.length = W → (∀ j ∈ pre, j < W ∧ ∃ i, ho.getD j none = some i ∧ i < R) →
    ∃ y6 y10, forL (gN 6) bUpd (wL pre) (sL m new T (some (.int free)) x6 x10) (mW m rp cp ho la ah wa en) = .nx (sL m new T (some (.int free)) y6 y10) (mW m (updP ho la Dd pre rp cp).1 (updP ho la Dd pre rp cp).2 ho la ah wa en)
  | [], rp, cp, x6, x10, _, _, _ => ⟨x6, x10, rfl⟩
  | j :: pre, rp, cp, x6, x10, hr, hc, hw => by
    obtain ⟨hj, i, ei, hi⟩ := hw j List.mem_cons_self
    obtain ⟨v1, h1⟩ := get_ok (l := la) (i := free) (by omega)
    obtain ⟨v2, h2⟩ := get_ok (l := la) (i := j) (by omega)
    obtain ⟨v3, h3⟩ := get_ok (l := rp) (i := i) (by omega)
    obtain ⟨v4, h4⟩ := get_ok (l := cp) (i := j) (by omega)
    obtain ⟨v5, h5⟩ := get_ok (l := ho) (i := j) (by omega)
    have e5 : v5 = some i := (getD_of h5).symm.trans ei
    subst e5
    obtain ⟨y6, y10, e⟩ := upd_loop (m := m) (ho := ho) (ah := ah) (la := la) (T := T) (wa := wa) (en := en) (new := new) (R := R) hh hla hf hD pre (rp.set i (rp.getD i 0 - (Dd - la.getD j 0))) (cp.set j (cp.getD j 0 + (Dd - la.getD j 0))) (some (.int j)) (some (.int (Dd - la.getD j 0))) (by simpa using hr) (by simpa using hc) (fun x hx => hw x (List.mem_cons_of_mem _ hx))
    refine ⟨y6, y10, ?_⟩
    rw [show wL (j :: pre) = .int (j : Int) :: wL pre from rfl, updP, ei]
    refine (forL_step (s2 := sL m new T (some (.int free)) (some (.int j)) (some (.int (Dd - la.getD j 0)))) rfl ?_).trans e
    rw [← hD, getD_of h1, getD_of h2, getD_of h3, getD_of h4]
    unfold bUpd sL mW
    have hji : (i : Int).toNat = i := by omega
    simp [h1, h2, h3, h4, h5, elem_of h3, elem_of h4, hr, hc, hi, hj]
/-! ### the way back -/
theorem gO_set {h : List (Option Nat)} {j : Nat} {v : Option Nat} (hj : j < h.length) : gO (h.set j v) = Hun.upd (gO h) j v := by
  funext x
  unfold Hun.upd
  by_cases e : x = j
  · subst e
    rw [if_pos rfl]
    exact getD_set_same hj
  · rw [if_neg e]
    exact getD_set_ne e
def bBack : SSt := (sSeq (sPut (s2 dIx (sVar 4) (s2 dIx (sVar 8) (sVar 6))) (sVar 4) (sVar 6)) (sSet 6 (s2 dIx (sVar 8) (sVar 6))))
theorem back_loop {m : Mu} {rp cp rp' cp' la : List Int} {ho ah : List (Option Nat)} {T : List (List Int)} {wa en : MO} {R W k free : Nat} {C : Int} {pre : List Nat} {x10 : Option D} (p : Hun.Pot (gT2 T) R W C k (gI rp) (gI cp) (gO ho)) (w : Hun.Ways (gT2 T) W (gI rp) (gI cp) (gO ho) k (gI la) (gO ah) pre free) (u : Hun.RpN (gI rp) (gI rp') (gI la) (gO ho) pre k (gI la free)) (hah : ah.length = W) :
    ∀ (n : Nat) (a b : List Nat) (j : Nat) (h : List (Option Nat)), pre ++ [free] = a ++ j :: b → a.length < n → h.length = W → Hun.Hole (gT2 T) W k (gI rp') (Hun.cpN (gI cp) (gI la) pre (gI la free)) (gO ho) (gO h) a j →
    ∃ a' b' j' h', whL (sTst (s2 dNotN (s2 dIx (sVar 8) (sVar 6)) (sC .non))) bBack n (sL m k T (some (.int free)) (some (.int j)) x10) (mW m rp' cp' h la ah wa en) = .nx (sL m k T (some (.int free)) (some (.int (j' : Nat))) x10) (mW m rp' cp' h' la ah wa en) ∧
      pre ++ [free] = a' ++ j' :: b' ∧ gO ah j' = none ∧ h'.length = W ∧ Hun.Hole (gT2 T) W k (gI rp') (Hun.cpN (gI cp) (gI la) pre (gI la free)) (gO ho) (gO h') a' j'
  | 0, a, b, j, h, e, hn, hl, H => absurd hn (Nat.not_lt_zero _)
  | n + 1, a, b, j, h, e, hn, hl, H => by
    have hjW : j < W := w.rng j (by rw [e]; simp)
    obtain ⟨v1, h1⟩ := get_ok (l := ah) (i := j) (by omega)
    cases v1 with
    | none =>
      refine ⟨a, b, j, h, whL_end (m1 := mW m rp' cp' h la ah wa en) ?_, e, getD_of h1, hl, H⟩
      unfold sL mW
      simp [h1]
    | some q =>
      obtain ⟨a', b', e', hlt, hqW, hqj, H'⟩ := Hun.hole_step p w u e H (getD_of h1)
      rw [← gO_set (by omega)] at H'
      obtain ⟨v2, h2⟩ := get_ok (l := h) (i := q) (by omega)
      obtain ⟨a2, b2, j2, h2', f, g⟩ := back_loop (m := m) (cp' := cp') (wa := wa) (en := en) p w u hah n a' b' q (h.set j (gO h q)) e' (by omega) (by simpa using hl) H'
      refine ⟨a2, b2, j2, h2', (whL_step (m1 := mW m rp' cp' h la ah wa en) (s2 := sL m k T (some (.int free)) (some (.int q)) x10) (m2 := mW m rp' cp' (h.set j (gO h q)) la ah wa en) ?_ ?_).trans f, g⟩
      · unfold sL mW
        simp [h1]
      · rw [show gO h q = v2 from getD_of h2]
        unfold bBack sL mW
        simp [h1, h2, hl, hjW]
/-! ### one row is let in -/
theorem let_in_ok {m : Mu} {rp cp : List Int} {ho : List (Option Nat)} {T : List (List Int)} {R W k : Nat} {C : Int} (hm : Wf m) (p : Hun.Pot (gT2 T) R W C k (gI rp) (gI cp) (gO ho)) (hk : k < R) (hR : R ≤ W) (hrl : rp.length = R) (hTl : T.length = R) (hc : cp.length = W) (hTr : ∀ i, i < R → (T.getD i []).length = W) (hh : ho.length = W) (hsz : W ≤ 900)
    (hB : ∀ i, i < R → ∀ j, j < W → gI rp i + gI cp j - gT2 T i j < 200000000) :
    ∃ rp' cp' ho', f_let_in [.int (k : Nat), .lst (tL T), .ref m.length, .ref (m.length + 1), .ref (m.length + 2)] (m ++ [.lst (iL rp), .lst (iL cp), .lst (oL ho)]) =
      .ok .non (m ++ [.lst (iL rp'), .lst (iL cp'), .lst (oL ho')]) ∧ Hun.Pot (gT2 T) R W C (k + 1) (gI rp') (gI cp') (gO ho') ∧ rp'.length = R ∧ cp'.length = W ∧ ho'.length = W := by
  obtain ⟨la, ah, wa, pre, free, e, w, hla, hah⟩ := ways_ok (m := m) p hk hR hrl hTl hc hTr hh hsz hB
  have hfW : free < W := w.rng free (by simp)
  obtain ⟨vf, hvf⟩ := get_ok (l := la) (i := free) (by omega)
  obtain ⟨vk, hvk⟩ := get_ok (l := rp) (i := k) (by omega)
  -- the newcomer's price
  have hpre : ∀ j ∈ pre, j < W ∧ ∃ i, ho.getD j none = some i ∧ i < R ∧ i ≠ k := fun j hj => by
    obtain ⟨i, hi⟩ := w.held j hj
    have hjW := w.rng j (by simp [hj])
    have := (p.tight j hjW i hi).1
    exact ⟨hjW, i, hi, by omega, by omega⟩
  have ndp : pre.Nodup := by
    have := w.nodup
    rw [List.nodup_append] at this
    exact this.1
  obtain ⟨l1, l2, l3, l4, l5⟩ := updP_ok ho la (la.getD free 0) pre (rp.set k (rp.getD k 0 - la.getD free 0)) cp ndp (fun j hj => by
    obtain ⟨h1, i, h2, h3, h4⟩ := hpre j hj
    exact ⟨by omega, i, h2, by simp; omega⟩) (fun j hj j' hj' i h1 h2 => p.inj j j' (hpre j hj).1 (hpre j' hj').1 i h1 h2)
  obtain ⟨y6, y10, f⟩ := upd_loop (m := m) (ho := ho) (ah := ah) (la := la) (T := T) (wa := .lst (wL wa)) (en := .lst (wL (pre ++ [free]))) (new := k) (free := free) (Dd := la.getD free 0) (R := R) (W := W) hh hla hfW rfl pre (rp.set k (rp.getD k 0 - la.getD free 0)) cp none none (by simpa using hrl) hc (fun j hj => by
    obtain ⟨h1, i, h2, h3, h4⟩ := hpre j hj
    exact ⟨h1, i, h2, h3⟩)
  generalize hrp' : (updP ho la (la.getD free 0) pre (rp.set k (rp.getD k 0 - la.getD free 0)) cp).1 = rp' at *
  generalize hcp' : (updP ho la (la.getD free 0) pre (rp.set k (rp.getD k 0 - la.getD free 0)) cp).2 = cp' at *
  have u : Hun.RpN (gI rp) (gI rp') (gI la) (gO ho) pre k (gI la free) := by
    refine ⟨?_, fun j hj i e => ?_, fun i h1 h2 => ?_⟩
    · refine (l4 k fun j hj e => ?_).trans (getD_set_same (by omega))
      obtain ⟨_, i, h2, _, h4⟩ := hpre j hj
      rw [h2] at e
      cases e
      exact h4 rfl
    · refine (l3 j hj i e).trans ?_
      obtain ⟨_, i', h2, _, h4⟩ := hpre j hj
      have : i = i' := Option.some.inj (e.symm.trans h2)
      subst this
      rw [getD_set_ne h4]
    · exact (l4 i h2).trans (getD_set_ne h1)
  have hcpN : gI cp' = Hun.cpN (gI cp) (gI la) pre (gI la free) := funext fun j => l5 j
  obtain ⟨a', b', j', h', g1, g2, g3, g4, g5⟩ := back_loop (m := m) (cp' := cp') (wa := .lst (wL wa)) (en := .lst (wL (pre ++ [free]))) (x10 := y10) p w u hah 1000 pre [] free ho (by simp) (by
    have := List.Nodup.length_le_of_subset (l₂ := List.range W) ndp (fun j hj => List.mem_range.mpr (hpre j hj).1)
    simp at this
    omega) hh (Hun.hole_start p w u)
  have hj'W : j' < W := w.rng j' (by rw [g2]; simp)
  have P' := Hun.hole_end p w u g2 g5 g3 hk
  rw [← gO_set (by omega), ← hcpN] at P'
  refine ⟨rp', cp', h'.set j' (some k), ?_, P', by simp at l1; omega, by omega, by simpa using g4⟩
  -- the run
  have hrun : b_let_in [some (.int (k : Nat)), some (.lst (tL T)), some (.ref m.length), some (.ref (m.length + 1)), some (.ref (m.length + 2)), none, none, none, none, none, none] (m ++ [.lst (iL rp), .lst (iL cp), .lst (oL ho)]) =
      .nx (sL m k T (some (.int free)) (some (.int (j' : Nat))) y10) (mW m rp' cp' (h'.set j' (some k)) la ah (.lst (wL wa)) (.lst (wL (pre ++ [free])))) := by
    unfold b_let_in
    refine (sSeq_nx (s' := sL m k T none none none) (m' := mW m rp cp ho la ah (.lst (wL wa)) (.lst (wL (pre ++ [free])))) ?_).trans ?_
    · simp [e, sL]
    refine (sSeq_nx (s' := sL m k T (some (.int free)) none none) (m' := mW m rp cp ho la ah (.lst (wL wa)) (.lst (wL (pre ++ [free])))) ?_).trans ?_
    · unfold sL mW
      simp
    refine (sSeq_nx (s' := sL m k T (some (.int free)) none none) (m' := mW m (rp.set k (rp.getD k 0 - la.getD free 0)) cp ho la ah (.lst (wL wa)) (.lst (wL (pre ++ [free])))) ?_).trans ?_
    · rw [getD_of hvf, getD_of hvk]
      unfold sL mW
      simp [hvf, hvk, elem_of hvk, hrl, hk]
    refine (sSeq_nx (s' := sL m k T (some (.int free)) y6 y10) (m' := mW m rp' cp' ho la ah (.lst (wL wa)) (.lst (wL (pre ++ [free])))) ?_).trans ?_
    · refine (sFor_of (ds := wL pre) (m' := mW m (rp.set k (rp.getD k 0 - la.getD free 0)) cp ho la ah (.lst (wL wa)) (.lst (wL (pre ++ [free])))) ?_).trans f
      unfold sL mW
      simp [cut_last]
    refine (sSeq_nx (s' := sL m k T (some (.int free)) (some (.int free)) y10) (m' := mW m rp' cp' ho la ah (.lst (wL wa)) (.lst (wL (pre ++ [free])))) ?_).trans ?_
    · unfold sL
      simp
    refine (sSeq_nx g1).trans ?_
    unfold sL mW
    simp [g4, hj'W]
  unfold f_let_in runT Rx.run
  simp only [List.map_cons, List.map_nil, List.length_cons, List.length_nil, List.cons_append, List.nil_append]
  rw [show List.replicate (11 - (0 + 1 + 1 + 1 + 1 + 1)) (none : Option D) = [none, none, none, none, none, none] from rfl, hrun]
  have hmW : mW m rp' cp' (h'.set j' (some k)) la ah (.lst (wL wa)) (.lst (wL (pre ++ [free]))) = (m ++ [.lst (iL rp'), .lst (iL cp'), .lst (oL (h'.set j' (some k)))]) ++ [.lst (iL la), .lst (oL ah), .lst (wL wa), .lst (wL (pre ++ [free]))] := by simp [mW]
  rw [hmW]
  refine trim_app (by simp) (wf_app hm ?_) rfl
  intro o ho
  simp only [List.mem_cons, List.not_mem_nil, or_false] at ho
  rcases ho with rfl | rfl | rfl
  · exact undr_iL _ _
  · exact undr_iL _ _
  · exact undr_oL _ _
end Px
set_option Elab.async false
set_option linter.all false
set_option maxRecDepth 100000
set_option maxHeartbeats 1000000
namespace Hun
theorem Pot.rpos {T : Tab} {R W k : Nat} {B : Int} {rp cp : Nat → Int} {hold : Nat → Option Nat} (p : Pot T R W B k rp cp hold) (h0 : ∀ i, i < R → ∀ j, j < W → 0 ≤ T i j) (hW : 0 < W) (i : Nat) (hi : i < R) : 0 ≤ rp i := by
  obtain ⟨j, hj, e⟩ := p.zero hW
  have := p.feas i hi j hj
  have := h0 i hi j hj
  omega
theorem Pot.cmax {T : Tab} {R W k : Nat} {B : Int} {rp cp : Nat → Int} {hold : Nat → Option Nat} (p : Pot T R W B k rp cp hold) (h0 : ∀ i, i < R → ∀ j, j < W → 0 ≤ T i j ∧ T i j ≤ B) (hk : k ≤ R) (hB : 0 ≤ B) (j : Nat) (hj : j < W) : cp j ≤ B := by
  cases e : hold j with
  | none =>
    have := p.cfree j hj e
    omega
  | some i =>
    obtain ⟨h1, h2⟩ := p.tight j hj i e
    have h3 := h0 i (by omega) j hj
    have h4 := p.rpos (fun i hi j hj => (h0 i hi j hj).1) (by omega) i (by omega)
    omega
end Hun
namespace Px
open PySem PySem.Spec PyProof.Rows L2 Rx
def nD (p : Nat × Nat) : D := .tup [.int p.1, .int p.2]
abbrev pL (l : List (Nat × Nat)) : List D := l.map nD
/-- a best choice, and prices that show it -/
structure Best (w : List (List Int)) (many : Nat) (ps : List (Nat × Nat)) (rp cp : List Int) : Prop where
  rl : rp.length = w.length
  cl : cp.length = many
  rng : ∀ p ∈ ps, p.1 < w.length ∧ p.2 < many ∧ 0 < gT2 w p.1 p.2
  rise : ps.Pairwise fun p q => p.1 < q.1
  cols : ∀ p ∈ ps, ∀ q ∈ ps, p.2 = q.2 → p = q
  rpos : ∀ i, i < w.length → 0 ≤ gI rp i ∧ gI rp i ≤ 2000000
  cpos : ∀ j, j < many → 0 ≤ gI cp j ∧ gI cp j ≤ 2000000
  feas : ∀ i, i < w.length → ∀ j, j < many → gT2 w i j ≤ gI rp i + gI cp j
  tight : ∀ p ∈ ps, gI rp p.1 + gI cp p.2 = gT2 w p.1 p.2
  row0 : ∀ i, i < w.length → (∀ p ∈ ps, p.1 ≠ i) → gI rp i = 0
  col0 : ∀ j, j < many → (∀ p ∈ ps, p.2 ≠ j) → gI cp j = 0
/-- a table of worths -/
structure Tbl (w : List (List Int)) (many : Nat) : Prop where
  len : w.length ≤ 400
  ml : many ≤ 400
  rows : ∀ r ∈ w, r.length = many
  val : ∀ r ∈ w, ∀ x ∈ r, 0 ≤ x ∧ x ≤ 2000000
theorem maxL_mem (a : Int) (l : List Int) : maxL a l ∈ a :: l ∧ ∀ y ∈ a :: l, y ≤ maxL a l := maxL_ok l a
def mx (l : List Int) : Int := match l with
  | [] => 0
  | a :: l => maxL a l
theorem mx_ok {l : List Int} (h : l ≠ []) : mx l ∈ l ∧ ∀ y ∈ l, y ≤ mx l := by
  cases l with
  | nil => exact absurd rfl h
  | cons a l => exact maxL_ok l a
theorem dMax1_ok {l : List Int} (h : l ≠ []) (m : Mu) : dMax1 [.lst (iL l)] m = .ok (.int (mx l)) m := by
  cases l with
  | nil => exact absurd rfl h
  | cons a l =>
    unfold dMax1
    simp only [q_seq1, intsOf_map]
    rfl
/-- rows, one behind the other -/
theorem rows_loop {m : Mu} {T : List (List Int)} {R W : Nat} (hm : Wf m) (hR : R ≤ W) (hTl : T.length = R) (hTr : ∀ i, i < R → (T.getD i []).length = W) (hsz : W ≤ 900) (h0 : ∀ i, i < R → ∀ j, j < W → 0 ≤ gT2 T i j ∧ gT2 T i j ≤ 2000000) (S : Option D → Sd)
    (hS : ∀ x d, gN 7 d (S x) = some (S (some d))) (hS2 : ∀ d, (sDo (sCall 5 f_let_in (aCons (sVar 7) (aCons (sVar 3) (aCons (sVar 4) (aCons (sVar 5) (aCons (sVar 6) aNil))))))) (S (some d)) = fun mu => ((f_let_in [d, .lst (tL T), .ref m.length, .ref (m.length + 1), .ref (m.length + 2)] mu).toS (S (some d)) fun _ m' => .nx (S (some d)) m')) :
    ∀ (n k : Nat) (rp cp : List Int) (ho : List (Option Nat)) (x7 : Option D), k + n = R → Hun.Pot (gT2 T) R W 2000000 k (gI rp) (gI cp) (gO ho) → rp.length = R → cp.length = W → ho.length = W →
    ∃ rp' cp' ho' y7, forL (gN 7) (sDo (sCall 5 f_let_in (aCons (sVar 7) (aCons (sVar 3) (aCons (sVar 4) (aCons (sVar 5) (aCons (sVar 6) aNil))))))) (wL ((List.range' k n))) (S x7) (m ++ [.lst (iL rp), .lst (iL cp), .lst (oL ho)]) = .nx (S y7) (m ++ [.lst (iL rp'), .lst (iL cp'), .lst (oL ho')]) ∧
      Hun.Pot (gT2 T) R W 2000000 R (gI rp') (gI cp') (gO ho') ∧ rp'.length = R ∧ cp'.length = W ∧ ho'.length = W
  | 0, k, rp, cp, ho, x7, hk, p, h1, h2, h3 => ⟨rp, cp, ho, x7, rfl, by
    have : k = R := by omega
    subst this
    exact p, h1, h2, h3⟩
  | n + 1, k, rp, cp, ho, x7, hk, p, h1, h2, h3 => by
    have hkR : k < R := by omega
    have hB : ∀ i, i < R → ∀ j, j < W → gI rp i + gI cp j - gT2 T i j < 200000000 := fun i hi j hj => by
      have a1 := p.rmax i hi
      have a2 := p.cmax h0 (by omega) (by decide) j hj
      have a3 := (h0 i hi j hj).1
      omega
    obtain ⟨rp1, cp1, ho1, e, p1, l1, l2, l3⟩ := let_in_ok hm p hkR hR h1 hTl h2 hTr h3 hsz hB
    obtain ⟨rp', cp', ho', y7, f, g⟩ := rows_loop hm hR hTl hTr hsz h0 S hS hS2 n (k + 1) rp1 cp1 ho1 (some (.int (k : Nat))) (by omega) p1 l1 l2 l3
    refine ⟨rp', cp', ho', y7, ?_, g⟩
    rw [List.range'_succ]
    refine (forL_step (hS x7 _) (s2 := S (some (.int (k : Nat)))) (m2 := m ++ [.lst (iL rp1), .lst (iL cp1), .lst (oL ho1)]) ?_).trans f
    rw [hS2]
    dsimp only
    rw [e]
    rfl
/-! ### pairs sorted -/
def cI (p : Nat × Nat) : Int × Int := (p.1, p.2)
def nLe (p q : Nat × Nat) : Bool := lexLe (cI p) (cI q)
theorem nLe_iff {p q : Nat × Nat} : nLe p q = true ↔ p.1 < q.1 ∨ (p.1 = q.1 ∧ p.2 ≤ q.2) := by unfold nLe; rw [lexLe_iff]; unfold cI; dsimp only; omega
theorem srt_cast (l : List (Nat × Nat)) : srtP (l.map cI) = (l.mergeSort nLe).map cI := by
  unfold srtP
  exact (List.map_mergeSort (f := cI) (r := nLe) (s := lexLe) (fun a _ b _ => rfl)).symm
theorem srt_pw (l : List (Nat × Nat)) : (l.mergeSort nLe).Pairwise fun p q => nLe p q = true := List.pairwise_mergeSort (fun a b c => lexLe_tr (cI a) (cI b) (cI c)) (fun a b => lexLe_tot (cI a) (cI b)) l
theorem dSortP_ok (l : List (Nat × Nat)) (m : Mu) : dSortP [.lst (pL l)] m = .ok (.lst (pL (l.mergeSort nLe))) m := by
  have e : pL l = (l.map cI).map prD_ := by rw [List.map_map]; rfl
  have e2 : pL (l.mergeSort nLe) = (srtP (l.map cI)).map prD_ := by rw [srt_cast, List.map_map]; rfl
  unfold dSortP
  rw [e, e2]
  simp only [q_seq1, prsOf_map]
/-! ### the whole choice -/
def pad (W many : Nat) (r : List Int) : List Int := r ++ List.replicate (W - many) 0
theorem pad_at {W many : Nat} {r : List Int} (hr : r.length = many) (j : Nat) : (pad W many r).getD j 0 = r.getD j 0 := by
  unfold pad
  by_cases h : j < r.length
  · simp [List.getElem?_append_left h]
  · have h2 : r[j]? = none := List.getElem?_eq_none (by omega)
    simp only [List.getD_eq_getElem?_getD, List.getElem?_append_right (show r.length ≤ j by omega), h2, List.getElem?_replicate]
    split <;> rfl
theorem padT_at {w : List (List Int)} {W many : Nat} (hr : ∀ r ∈ w, r.length = many) (i j : Nat) : gT2 (w.map (pad W many)) i j = gT2 w i j := by
  show ((w.map (pad W many)).getD i []).getD j 0 = (w.getD i []).getD j 0
  by_cases h : i < w.length
  · obtain ⟨r, e⟩ := get_ok h
    rw [getD_of e, getD_of (show (w.map (pad W many))[i]? = some (pad W many r) by simp [e])]
    exact pad_at (hr r (List.mem_of_getElem? e)) j
  · have h1 : w[i]? = none := List.getElem?_eq_none (by omega)
    simp [h1]
theorem tbl_val {w : List (List Int)} {many : Nat} (t : Tbl w many) (i j : Nat) : 0 ≤ gT2 w i j ∧ gT2 w i j ≤ 2000000 := by
  show 0 ≤ (w.getD i []).getD j 0 ∧ (w.getD i []).getD j 0 ≤ 2000000
  by_cases h : i < w.length
  · obtain ⟨r, e⟩ := get_ok h
    rw [getD_of e]
    by_cases h2 : j < r.length
    · obtain ⟨v, e2⟩ := get_ok h2
      rw [getD_of e2]
      exact t.val r (List.mem_of_getElem? e) v (List.mem_of_getElem? e2)
    · have h1 : r[j]? = none := List.getElem?_eq_none (by omega)
      simp [h1]
  · have h1 : w[i]? = none := List.getElem?_eq_none (by omega)
    simp [h1]
theorem tbl_zero {w : List (List Int)} {many : Nat} (t : Tbl w many) (i j : Nat) (hj : many ≤ j) : gT2 w i j = 0 := by
  show (w.getD i []).getD j 0 = 0
  by_cases h : i < w.length
  · obtain ⟨r, e⟩ := get_ok h
    rw [getD_of e]
    have h1 : r[j]? = none := List.getElem?_eq_none (by rw [t.rows r (List.mem_of_getElem? e)]; exact hj)
    simp [h1]
  · have h1 : w[i]? = none := List.getElem?_eq_none (by omega)
    simp [h1]
/-- the pairs by their columns -/
def prs (w : List (List Int)) (ho : List (Option Nat)) (many : Nat) : List (Nat × Nat) := (((List.range many).filter fun j => (ho.getD j none).isSome).filter fun j => decide (0 < gT2 w ((ho.getD j none).getD 0) j)).map fun j => ((ho.getD j none).getD 0, j)
theorem prs_mem {w : List (List Int)} {ho : List (Option Nat)} {many : Nat} {p : Nat × Nat} : p ∈ prs w ho many ↔ p.2 < many ∧ ho.getD p.2 none = some p.1 ∧ 0 < gT2 w p.1 p.2 := by
  unfold prs
  simp only [List.mem_map, List.mem_filter, List.mem_range, decide_eq_true_eq, Option.isSome_iff_exists]
  constructor
  · rintro ⟨j, ⟨⟨h1, i, h2⟩, h3⟩, rfl⟩
    rw [h2] at h3
    dsimp only
    rw [h2]
    exact ⟨h1, rfl, h3⟩
  · rintro ⟨h1, h2, h3⟩
    refine ⟨p.2, ⟨⟨h1, p.1, h2⟩, by rw [h2]; exact h3⟩, ?_⟩
    rw [h2]
    rfl
theorem best_of {w : List (List Int)} {many W : Nat} {rp cp : List Int} {ho : List (Option Nat)} (t : Tbl w many) (hW : W = max many w.length) (p : Hun.Pot (gT2 w) w.length W 2000000 w.length (gI rp) (gI cp) (gO ho)) (h1 : rp.length = w.length) (h2 : cp.length = W) :
    Best w many ((prs w ho many).mergeSort nLe) rp (cp.take many) := by
  have hv := tbl_val t
  have hmem : ∀ q : Nat × Nat, q ∈ (prs w ho many).mergeSort nLe ↔ q.2 < many ∧ ho.getD q.2 none = some q.1 ∧ 0 < gT2 w q.1 q.2 := fun q => (List.mem_mergeSort).trans prs_mem
  have hcp : ∀ j, j < many → gI (cp.take many) j = gI cp j := fun j hj => by
    show (cp.take many).getD j 0 = cp.getD j 0
    simp [List.getElem?_take, hj]
  have hrp : ∀ i, i < w.length → 0 ≤ gI rp i := fun i hi => p.rpos (fun i hi j hj => (hv i j).1) (by omega) i hi
  refine ⟨h1, by simp; omega, fun q hq => ?_, ?_, fun q hq q' hq' e => ?_, fun i hi => ⟨hrp i hi, p.rmax i hi⟩, fun j hj => ?_, fun i hi j hj => ?_, fun q hq => ?_, fun i hi hn => ?_, fun j hj hn => ?_⟩
  · obtain ⟨a1, a2, a3⟩ := (hmem q).mp hq
    exact ⟨(p.tight q.2 (by omega) q.1 a2).1, a1, a3⟩
  · have nd : ((prs w ho many).mergeSort nLe).Nodup := by
      refine (List.mergeSort_perm _ _).nodup_iff.mpr ?_
      unfold prs
      unfold List.Nodup
      rw [List.pairwise_map]
      refine List.Pairwise.imp ?_ ((List.nodup_range (n := many)).sublist (List.filter_sublist.trans List.filter_sublist))
      intro a b hab e
      exact hab (Prod.ext_iff.mp e).2
    refine List.Pairwise.imp_of_mem ?_ ((srt_pw (prs w ho many)).and nd)
    intro a b ha hb ⟨hab, hne⟩
    rw [nLe_iff] at hab
    rcases hab with h | ⟨h, _⟩
    · exact h
    · exfalso
      obtain ⟨a1, a2, a3⟩ := (hmem a).mp ha
      obtain ⟨b1, b2, b3⟩ := (hmem b).mp hb
      rw [← h] at b2
      have := p.inj a.2 b.2 (by omega) (by omega) a.1 a2 b2
      exact hne (Prod.ext h this)
  · obtain ⟨a1, a2, a3⟩ := (hmem q).mp hq
    obtain ⟨b1, b2, b3⟩ := (hmem q').mp hq'
    rw [← e, a2] at b2
    exact Prod.ext (Option.some.inj b2) e
  · rw [hcp j hj]
    exact ⟨p.cpos j (by omega), p.cmax (fun i hi j hj => hv i j) (Nat.le_refl _) (by decide) j (by omega)⟩
  · rw [hcp j hj]
    exact p.feas i hi j (by omega)
  · obtain ⟨a1, a2, a3⟩ := (hmem q).mp hq
    rw [hcp q.2 a1]
    exact (p.tight q.2 (by omega) q.1 a2).2
  · obtain ⟨j, hj, e⟩ := p.all i hi
    obtain ⟨_, e2⟩ := p.tight j hj i e
    have a1 := hrp i hi
    have a2 := p.cpos j hj
    have : gT2 w i j ≤ 0 := by
      by_cases hjm : j < many
      · refine Int.not_lt.mp fun z => ?_
        exact hn (i, j) ((hmem (i, j)).mpr ⟨hjm, e, z⟩) rfl
      · rw [tbl_zero t i j (by omega)]
        exact Int.le_refl _
    omega
  · rw [hcp j hj]
    have a2 := p.cpos j (by omega)
    cases e : gO ho j with
    | none => exact p.cfree j (by omega) e
    | some i =>
      obtain ⟨hi, e2⟩ := p.tight j (by omega) i e
      have a1 := hrp i hi
      have : gT2 w i j ≤ 0 := by
        refine Int.not_lt.mp fun z => ?_
        exact hn (i, j) ((hmem (i, j)).mpr ⟨hj, e, z⟩) rfl
      omega
end Px
set_option Elab.async false
set_option linter.all false
set_option maxRecDepth 100000
set_option maxHeartbeats 1000000
namespace Px
open PySem PySem.Spec PyProof.Rows L2 Rx
def bRows : SSt := (sDo (sCall 5 f_let_in (aCons (sVar 7) (aCons (sVar 3) (aCons (sVar 4) (aCons (sVar 5) (aCons (sVar 6) aNil)))))))
def sB_ (w : List (List Int)) (many : Nat) (W tb a b c x7 x8 x9 : Option D) : Sd := [some (.lst (tL w)), some (.int (many : Nat)), W, tb, a, b, c, x7, x8, x9, none]
theorem rangeD_w (n : Nat) : rangeD 0 n = wL (List.range n) := by simp [rangeD]

abbrev sB3 (w : List (List Int)) (many W : Nat) (T : List (List Int)) (m : Mu) (x7 x8 x9 : Option D) : Sd := sB_ w many (some (.int (W : Nat))) (some (.lst (tL T))) (some (.ref m.length)) (some (.ref (m.length + 1))) (some (.ref (m.length + 2))) x7 x8 x9
theorem bc1 {m : Mu} {w : List (List Int)} {many W : Nat} (hW : max many w.length = W) : sSet 2 (sB dMax2 (aCons (sVar 1) (aCons (sB dLen (aCons (sVar 0) aNil)) aNil))) (sB_ w many none none none none none none none none) m = .nx (sB_ w many (some (.int (W : Nat))) none none none none none none none) m := by
  have h : ∀ a b : Int, (if a > b then a else b) = max b a := fun a b => by
    split <;> omega
  have e : ∀ mu, dMax2 [.int (many : Nat), .int (w.length : Nat)] mu = .ok (.int (W : Nat)) mu := fun mu => by
    unfold dMax2
    dsimp only
    rw [h]
    congr 2
    omega
  simp [sB_, e, -e_dMax2]
theorem bc2 {m : Mu} {w : List (List Int)} {many W : Nat} (t : Tbl w many) (hW : max many w.length = W) : sSet 3 (sLc (iVal (sVar 0)) (gN 7) bYes (s2 dAdd (sVar 7) (s2 dMul (sLst (aCons (sC (.int 0)) aNil)) (s2 dSub (sVar 2) (sVar 1)))) [7]) (sB_ w many (some (.int (W : Nat))) none none none none none none none) m = .nx (sB_ w many (some (.int (W : Nat))) (some (.lst (tL (w.map (pad W many))))) none none none none none none) m := by
  have hlen := t.len
  have hml := t.ml
  have k := lcL_mapT (g := gN 7) (el := (s2 dAdd (sVar 7) (s2 dMul (sLst (aCons (sC (.int 0)) aNil)) (s2 dSub (sVar 2) (sVar 1))))) (s := wipeD (sB_ w many (some (.int (W : Nat))) none none none none none none none) [7]) (m := m) (fun r : List Int => D.lst (iL r)) (fun r => D.lst (iL (pad W many r))) w (fun r hr => by
    have h1 := t.rows r hr
    have h2 : ((W : Int) - (many : Int)) ≤ 1000 := by omega
    have h3 : (0 : Int) ≤ (W : Int) - (many : Int) := by omega
    have h4 : ((W : Int) - (many : Int)).toNat = W - many := by omega
    have h5 : r.length + (W - many) ≤ 1000000 := by omega
    have h6 : (many : Int) ≤ W := by omega
    refine ⟨_, rfl, ?_⟩
    simp [sB_, wipeD, h2, h3, h4, h5, h6, pad])
  have e2 : tL (w.map (pad W many)) = w.map fun r => D.lst (iL (pad W many r)) := by rw [tL, List.map_map]; rfl
  have hl : w.length ≤ 1000000 := by omega
  rw [e2]
  simp only [e_sSet, e_sLc, e_iVal, e_sVar]
  have e3 : (sB_ w many (some (.int (W : Nat))) none none none none none none none)[0]? = some (some (.lst (tL w))) := rfl
  simp only [e3, q_bind1, q_vals1, List.length_map, hl, if_pos, k, e_Res.toS]
  rfl
theorem bc3 {m : Mu} {w T : List (List Int)} {many W : Nat} (hl : T.length ≤ 1000000) (hneT : ∀ r ∈ T, r ≠ []) : sSet 4 (sLcN (iVal (sVar 3)) (gN 7) bYes (sB dMax1 (aCons (sVar 7) aNil)) [7]) (sB_ w many (some (.int (W : Nat))) (some (.lst (tL T))) none none none none none none) m = .nx (sB_ w many (some (.int (W : Nat))) (some (.lst (tL T))) (some (.ref m.length)) none none none none none) (m ++ [.lst (iL (T.map mx))]) := by
  have k := lcL_mapT (g := gN 7) (el := sB dMax1 (aCons (sVar 7) aNil)) (s := wipeD (sB_ w many (some (.int (W : Nat))) (some (.lst (tL T))) none none none none none none) [7]) (m := m) (fun r : List Int => D.lst (iL r)) (fun r => D.int (mx r)) T (fun r hr => by
    refine ⟨_, rfl, ?_⟩
    have := dMax1_ok (hneT r hr) m
    simp only [e_sB, e_aCons, e_aNil, e_sVar, sB_, wipeD]
    simp only [List.set_cons_succ, List.set_cons_zero, List.getElem?_cons_succ, List.getElem?_cons_zero, q_bind1, this])
  simp only [e_sSet, e_sLcN, e_iVal, e_sVar]
  have e3 : (sB_ w many (some (.int (W : Nat))) (some (.lst (tL T))) none none none none none none)[3]? = some (some (.lst (tL T))) := rfl
  simp only [e3, q_bind1, q_vals1, List.length_map, hl, if_pos, k, e_Res.toS]
  rw [iL, List.map_map]
  rfl
theorem dMulN_ok {d : D} {W : Nat} (h : W ≤ 1000) (m : Mu) : dMulN (.lst [d]) (.int (W : Nat)) m = .ok (.ref m.length) (m ++ [.lst (List.replicate W d)]) := by
  have h1 : (0 : Int) ≤ (W : Int) ∧ (W : Int) ≤ 1000 ∧ [d].length ≤ 1000 := ⟨by omega, by omega, by rw [List.length_singleton]; omega⟩
  unfold dMulN
  dsimp only [lOf]
  rw [if_pos h1, Int.toNat_natCast, List.flatten_replicate_singleton]
theorem lst1_ok {f : SEx} {s : Sd} {d : D} {m m' : Mu} (h : f s m = .ok d m') : sLst (aCons f aNil) s m = .ok (.lst [d]) m' := by
  have h1 : [d].length ≤ 1000 := by rw [List.length_singleton]; omega
  simp only [e_sLst, e_aCons, e_aNil, h, q_bind1]
  rw [if_pos h1]
theorem bc4 {m : Mu} {w T : List (List Int)} {many W : Nat} {o : MO} (hW1 : W ≤ 1000) : sSet 5 (s2 dMulN (sLst (aCons (sC (.int 0)) aNil)) (sVar 2)) (sB_ w many (some (.int (W : Nat))) (some (.lst (tL T))) (some (.ref m.length)) none none none none none) (m ++ [o]) = .nx (sB_ w many (some (.int (W : Nat))) (some (.lst (tL T))) (some (.ref m.length)) (some (.ref (m.length + 1))) none none none none) (m ++ [o, .lst (iL (List.replicate W 0))]) := by
  have h1 : sLst (aCons (sC (.int 0)) aNil) (sB_ w many (some (.int (W : Nat))) (some (.lst (tL T))) (some (.ref m.length)) none none none none none) (m ++ [o]) = .ok (.lst [.int 0]) (m ++ [o]) := lst1_ok (f := sC (.int 0)) rfl
  have h2 : sVar 2 (sB_ w many (some (.int (W : Nat))) (some (.lst (tL T))) (some (.ref m.length)) none none none none none) (m ++ [o]) = .ok (.int (W : Nat)) (m ++ [o]) := rfl
  have h3 : s2 dMulN (sLst (aCons (sC (.int 0)) aNil)) (sVar 2) (sB_ w many (some (.int (W : Nat))) (some (.lst (tL T))) (some (.ref m.length)) none none none none none) (m ++ [o]) = .ok (.ref (m.length + 1)) (m ++ [o, .lst (iL (List.replicate W 0))]) := by
    rw [s2_of h1 h2, dMulN_ok hW1]
    simp
  rw [sSet_of h3]
  rfl
theorem bc5 {m : Mu} {w T : List (List Int)} {many W : Nat} {o o2 : MO} (hW1 : W ≤ 1000) : sSet 6 (s2 dMulN (sLst (aCons (sC .non) aNil)) (sVar 2)) (sB_ w many (some (.int (W : Nat))) (some (.lst (tL T))) (some (.ref m.length)) (some (.ref (m.length + 1))) none none none none) (m ++ [o, o2]) = .nx (sB3 w many W T m none none none) (m ++ [o, o2, .lst (oL (List.replicate W none))]) := by
  have h1 : sLst (aCons (sC .non) aNil) (sB_ w many (some (.int (W : Nat))) (some (.lst (tL T))) (some (.ref m.length)) (some (.ref (m.length + 1))) none none none none) (m ++ [o, o2]) = .ok (.lst [.non]) (m ++ [o, o2]) := lst1_ok (f := sC .non) rfl
  have h2 : sVar 2 (sB_ w many (some (.int (W : Nat))) (some (.lst (tL T))) (some (.ref m.length)) (some (.ref (m.length + 1))) none none none none) (m ++ [o, o2]) = .ok (.int (W : Nat)) (m ++ [o, o2]) := rfl
  have h3 : s2 dMulN (sLst (aCons (sC .non) aNil)) (sVar 2) (sB_ w many (some (.int (W : Nat))) (some (.lst (tL T))) (some (.ref m.length)) (some (.ref (m.length + 1))) none none none none) (m ++ [o, o2]) = .ok (.ref (m.length + 2)) (m ++ [o, o2, .lst (oL (List.replicate W none))]) := by
    rw [s2_of h1 h2, dMulN_ok hW1]
    simp
  rw [sSet_of h3]
  rfl
theorem bc6 {m mu : Mu} {w T : List (List Int)} {many W : Nat} (h : T.length ≤ 1000) : iR1 (aCons (sB dLen (aCons (sVar 3) aNil)) aNil) (sB3 w many W T m none none none) mu = .ok (wL (List.range T.length)) mu := by
  have h : (aCons (sB dLen (aCons (sVar 3) aNil)) aNil) (sB3 w many W T m none none none) mu = .ok [.int (T.length : Nat)] mu := by
    simp [sB_]
  rw [iR1_ok h (by omega) (by omega), Int.toNat_natCast, rangeD_w]
theorem bc7 {m : Mu} {w T : List (List Int)} {many W : Nat} {rp cp : List Int} {ho : List (Option Nat)} {y7 : Option D} (hl3 : ho.length = W) (hm : many ≤ W) (hml : many ≤ 400) : sSet 8 (sLc (iR1 (aCons (sVar 1) aNil)) (gN 10) (sTst (s2 dNotN (s2 dIx (sVar 6) (sVar 10)) (sC .non))) (sVar 10) [10]) (sB3 w many W T m y7 none none) (m ++ [.lst (iL rp), .lst (iL cp), .lst (oL ho)]) =
    .nx (sB3 w many W T m y7 (some (.lst (wL ((List.range many).filter fun j => (ho.getD j none).isSome)))) none) (m ++ [.lst (iL rp), .lst (iL cp), .lst (oL ho)]) := by
  have k := lcL_filterT (g := gN 10) (tt := (sTst (s2 dNotN (s2 dIx (sVar 6) (sVar 10)) (sC .non)))) (el := sVar 10) (s := wipeD (sB3 w many W T m y7 none none) [10]) (m := m ++ [.lst (iL rp), .lst (iL cp), .lst (oL ho)]) (fun n : Nat => D.int (n : Int)) (fun j => (ho.getD j none).isSome) (fun n : Nat => D.int (n : Int)) (List.range many) (fun j hj => by
    obtain ⟨v, hv⟩ := get_ok (l := ho) (i := j) (by have := List.mem_range.mp hj; omega)
    refine ⟨_, rfl, ?_, fun _ => by simp [sB_, wipeD]⟩
    rw [getD_of hv]
    cases v <;> simp [sB_, wipeD, hv])
  have hl : many ≤ 1000000 := by omega
  simp only [e_sSet, e_sLc]
  have e3 : iR1 (aCons (sVar 1) aNil) (sB3 w many W T m y7 none none) (m ++ [.lst (iL rp), .lst (iL cp), .lst (oL ho)]) = .ok (wL (List.range many)) (m ++ [.lst (iL rp), .lst (iL cp), .lst (oL ho)]) := by
    have h : (aCons (sVar 1) aNil) (sB3 w many W T m y7 none none) (m ++ [.lst (iL rp), .lst (iL cp), .lst (oL ho)]) = .ok [.int (many : Nat)] (m ++ [.lst (iL rp), .lst (iL cp), .lst (oL ho)]) := rfl
    rw [iR1_ok h (by omega) (by omega), Int.toNat_natCast, rangeD_w]
  simp only [e3, q_bind1, List.length_map, List.length_range, hl, if_pos, k, e_Res.toS]
  rfl
theorem bc8 {m : Mu} {w T : List (List Int)} {many W : Nat} {rp cp : List Int} {ho : List (Option Nat)} {y7 : Option D} (t : Tbl w many) (hl3 : ho.length = W) (hm : many ≤ W) (P : ∀ j, j < W → ∀ i, ho.getD j none = some i → i < w.length) : sSet 9 (sLc (iVal (sVar 8)) (gN 10) (sTst (s2 dGt (s2 dIx (s2 dIx (sVar 0) (s2 dIx (sVar 6) (sVar 10))) (sVar 10)) (sC (.int 0)))) (sTup (aCons (s2 dIx (sVar 6) (sVar 10)) (aCons (sVar 10) aNil))) [10])
     (sB3 w many W T m y7 (some (.lst (wL ((List.range many).filter fun j => (ho.getD j none).isSome)))) none) (m ++ [.lst (iL rp), .lst (iL cp), .lst (oL ho)]) =
    .nx (sB3 w many W T m y7 (some (.lst (wL ((List.range many).filter fun j => (ho.getD j none).isSome)))) (some (.lst (pL (prs w ho many))))) (m ++ [.lst (iL rp), .lst (iL cp), .lst (oL ho)]) := by
  have hml := t.ml
  have k := lcL_filterT (g := gN 10) (tt := (sTst (s2 dGt (s2 dIx (s2 dIx (sVar 0) (s2 dIx (sVar 6) (sVar 10))) (sVar 10)) (sC (.int 0))))) (el := (sTup (aCons (s2 dIx (sVar 6) (sVar 10)) (aCons (sVar 10) aNil)))) (s := wipeD (sB3 w many W T m y7 (some (.lst (wL ((List.range many).filter fun j => (ho.getD j none).isSome)))) none) [10]) (m := m ++ [.lst (iL rp), .lst (iL cp), .lst (oL ho)]) (fun n : Nat => D.int (n : Int)) (fun j => decide (0 < gT2 w ((ho.getD j none).getD 0) j)) (fun j => nD ((ho.getD j none).getD 0, j)) ((List.range many).filter fun j => (ho.getD j none).isSome) (fun j hj => by
    obtain ⟨hj1, hj2⟩ := List.mem_filter.mp hj
    have hj1 := List.mem_range.mp hj1
    obtain ⟨v, hv⟩ := get_ok (l := ho) (i := j) (by omega)
    rw [getD_of hv] at hj2
    cases v with
    | none => cases hj2
    | some i =>
      have hi := P j (by omega) i (getD_of hv)
      obtain ⟨r, hr⟩ := get_ok hi
      obtain ⟨x, hx⟩ := get_ok (l := r) (i := j) (by rw [t.rows r (List.mem_of_getElem? hr)]; exact hj1)
      have hg : gT2 w i j = x := by show (w.getD i []).getD j 0 = x; rw [getD_of hr, getD_of hx]
      refine ⟨_, rfl, ?_, fun _ => ?_⟩
      · rw [getD_of hv, Option.getD_some, hg]
        simp [sB_, wipeD, hv, hr, hx]
      · rw [getD_of hv, Option.getD_some]
        simp [sB_, wipeD, hv, nD])
  have hl : ((List.range many).filter fun j => (ho.getD j none).isSome).length ≤ 1000000 := by
    have := List.length_filter_le (fun j => (ho.getD j none).isSome) (List.range many)
    simp at this ⊢
    omega
  generalize hX : ((List.range many).filter fun j => (ho.getD j none).isSome) = Xs at *
  have e3 : iVal (sVar 8) (sB3 w many W T m y7 (some (.lst (wL Xs))) none) (m ++ [.lst (iL rp), .lst (iL cp), .lst (oL ho)]) = .ok (wL Xs) (m ++ [.lst (iL rp), .lst (iL cp), .lst (oL ho)]) := by
    simp [sB_]
  have e4 : pL (prs w ho many) = (Xs.filter fun j => decide (0 < gT2 w ((ho.getD j none).getD 0) j)).map fun j => nD ((ho.getD j none).getD 0, j) := by
    rw [← hX]
    unfold prs
    rw [pL, List.map_map]
    rfl
  rw [e4]
  simp only [e_sSet, e_sLc]
  simp only [e3, q_bind1]
  rw [if_pos (by rw [List.length_map]; exact hl)]
  simp only [k, e_Res.toS]
  rfl
theorem bc9 {m : Mu} {w T : List (List Int)} {many W : Nat} {rp cp : List Int} {ho : List (Option Nat)} {y7 y8 : Option D} (hl2 : cp.length = W) (hm : many ≤ W) : sRet (sTup (aCons (sB dSortP (aCons (sVar 9) aNil)) (aCons (sTup (aCons (sB dTuple (aCons (sVar 4) aNil)) (aCons (sB dTuple (aCons (sSl (sVar 5) oNo (oSo (sVar 1))) aNil)) aNil))) aNil))) (sB3 w many W T m y7 y8 (some (.lst (pL (prs w ho many))))) (m ++ [.lst (iL rp), .lst (iL cp), .lst (oL ho)]) =
    .ret (.tup [.lst (pL ((prs w ho many).mergeSort nLe)), .tup [.tup (iL rp), .tup (iL (cp.take many))]]) (m ++ [.lst (iL rp), .lst (iL cp), .lst (oL ho)]) := by
  refine sRet_of ?_
  have e5 : dSortP [.lst (pL (prs w ho many))] (m ++ [.lst (iL rp), .lst (iL cp), .lst (oL ho)]) = .ok (.lst (pL ((prs w ho many).mergeSort nLe))) (m ++ [.lst (iL rp), .lst (iL cp), .lst (oL ho)]) := dSortP_ok _ _
  have e6 : Rx.cutD (iL cp) none (some (many : Int)) = iL (cp.take many) := by
    unfold Rx.cutD
    rw [HT.sIx_nat, HT.sIx_none]
    have : min many (iL cp).length = many := by simp; omega
    rw [this]
    simp
  simp only [e_sTup, e_aCons, e_aNil, e_sB, e_sVar, sB_, List.getElem?_cons_succ, List.getElem?_cons_zero, q_bind1, e5]
  simp [e6]
theorem best_ok {m : Mu} (hm : Wf m) {w : List (List Int)} {many : Nat} (t : Tbl w many) : ∃ ps rp cp, f_best_choice [.lst (tL w), .int (many : Nat)] m = .ok (.tup [.lst (pL ps), .tup [.tup (iL rp), .tup (iL cp)]]) m ∧ Best w many ps rp cp := by
  generalize hW : max many w.length = W
  generalize hT : w.map (pad W many) = T
  have hTl : T.length = w.length := by rw [← hT]; simp
  have hat : ∀ i j, gT2 T i j = gT2 w i j := fun i j => by rw [← hT]; exact padT_at t.rows i j
  have hgT : gT2 T = gT2 w := funext fun i => funext fun j => hat i j
  have hrow : ∀ r ∈ T, r.length = W := fun r hr => by
    rw [← hT] at hr
    obtain ⟨r', h', rfl⟩ := List.mem_map.mp hr
    have := t.rows r' h'
    unfold pad
    simp
    omega
  have hTr : ∀ i, i < w.length → (T.getD i []).length = W := fun i hi => by
    obtain ⟨r, e⟩ := get_ok (l := T) (i := i) (by omega)
    rw [getD_of e]
    exact hrow r (List.mem_of_getElem? e)
  have hlen := t.len
  have hml := t.ml
  have hv := tbl_val t
  have hneT : ∀ r ∈ T, r ≠ [] := fun r hr => by
    have h1 := hrow r hr
    have h2 := List.length_pos_of_mem hr
    intro z
    rw [z] at h1
    simp at h1
    omega
  -- the first prices
  have p0 : Hun.Pot (gT2 T) w.length W 2000000 0 (gI (T.map mx)) (gI (List.replicate W 0)) (gO (List.replicate W none)) := by
    have hrp : ∀ i, i < w.length → ∃ r, T[i]? = some r ∧ gI (T.map mx) i = mx r ∧ r ∈ T := fun i hi => by
      obtain ⟨r, e⟩ := get_ok (l := T) (i := i) (by omega)
      exact ⟨r, e, getD_of (by simp [e]), List.mem_of_getElem? e⟩
    have hz : ∀ j, j < W → gI (List.replicate W 0) j = 0 := fun j hj => by simp [gI, hj]
    have hn : ∀ j, j < W → gO (List.replicate W none) j = none := fun j hj => by simp [gO, hj]
    refine ⟨fun i hi j hj => ?_, fun j hj i e => ?_, fun j j' hj hj' i e => ?_, fun i hi => by omega, fun j hj => by rw [hz j hj]; exact Int.le_refl _, fun j hj _ => hz j hj, fun h => ⟨0, h, hz 0 h⟩, fun i hi => ?_⟩
    · obtain ⟨r, e, e2, hr⟩ := hrp i hi
      rw [e2, hz j hj, Int.add_zero]
      obtain ⟨v, e3⟩ := get_ok (l := r) (i := j) (by rw [hrow r hr]; exact hj)
      have : gT2 T i j = v := by show (T.getD i []).getD j 0 = v; rw [getD_of e, getD_of e3]
      rw [this]
      exact (mx_ok (hneT r hr)).2 v (List.mem_of_getElem? e3)
    · rw [hn j hj] at e; cases e
    · rw [hn j hj] at e; cases e
    · obtain ⟨r, e, e2, hr⟩ := hrp i hi
      rw [e2]
      obtain ⟨j, hj, e3⟩ := List.getElem_of_mem (mx_ok (hneT r hr)).1
      have h3 : r.getD j 0 = mx r := by simp [hj, e3]
      have := (hv i j).2
      rw [← hat i j] at this
      have h4 : gT2 T i j = mx r := by show (T.getD i []).getD j 0 = _; rw [getD_of e, h3]
      omega
  have hv' : ∀ i, i < w.length → ∀ j, j < W → 0 ≤ gT2 T i j ∧ gT2 T i j ≤ 2000000 := fun i _ j _ => by rw [hat]; exact hv i j
  obtain ⟨rp, cp, ho, y7, e, P, l1, l2, l3⟩ := rows_loop (T := T) hm (by omega) hTl hTr (by omega) hv' (fun x => sB_ w many (some (.int (W : Nat))) (some (.lst (tL T))) (some (.ref m.length)) (some (.ref (m.length + 1))) (some (.ref (m.length + 2))) x none none) (fun x d => rfl) (fun d => rfl) w.length 0 (T.map mx) (List.replicate W 0) (List.replicate W none) none (by omega) p0 (by simp [hTl]) (by simp) (by simp)
  rw [hgT] at P
  have B := best_of t hW.symm P l1 l2
  refine ⟨_, rp, cp.take many, ?_, B⟩
  -- the run
  have hrun : b_best_choice (sB_ w many none none none none none none none none) m =
      .ret (.tup [.lst (pL ((prs w ho many).mergeSort nLe)), .tup [.tup (iL rp), .tup (iL (cp.take many))]]) (m ++ [.lst (iL rp), .lst (iL cp), .lst (oL ho)]) := by
    unfold b_best_choice
    have hb2 := bc2 (m := m) t hW
    rw [hT] at hb2
    have hfor : sFor (iR1 (aCons (sB dLen (aCons (sVar 3) aNil)) aNil)) (gN 7) bRows (sB3 w many W T m none none none) (m ++ [.lst (iL (T.map mx)), .lst (iL (List.replicate W 0)), .lst (oL (List.replicate W none))]) = .nx (sB3 w many W T m y7 none none) (m ++ [.lst (iL rp), .lst (iL cp), .lst (oL ho)]) := by
      refine (sFor_of (bc6 (by omega))).trans ?_
      rw [List.range_eq_range', hTl]
      exact e
    exact (sSeq_nx (bc1 hW)).trans ((sSeq_nx hb2).trans ((sSeq_nx (bc3 (by omega) hneT)).trans ((sSeq_nx (bc4 (by omega))).trans ((sSeq_nx (bc5 (by omega))).trans ((sSeq_nx hfor).trans ((sSeq_nx (bc7 l3 (by omega) hml)).trans ((sSeq_nx (bc8 t l3 (by omega) (fun j hj i e => (P.tight j hj i e).1))).trans (bc9 l2 (by omega)))))))))
  unfold f_best_choice runT Rx.run
  have hrun' : b_best_choice ([D.lst (tL w), D.int (many : Nat)].map some ++ List.replicate (11 - [D.lst (tL w), D.int (many : Nat)].length) none) m = _ := hrun
  rw [hrun']
  refine trim_app rfl hm ?_
  simp only [D.undr, D.undr.all, undr_iL, Bool.and_true]
  exact undr_all.mpr fun d hd => by
    obtain ⟨q, _, rfl⟩ := List.mem_map.mp hd
    rfl
end Px
set_option Elab.async false
set_option linter.all false
set_option maxRecDepth 100000
set_option maxHeartbeats 1000000
namespace Px
open PySem PySem.Spec PyProof.Rows L2 Rx
/-! ### the table of worths -/
theorem map_iL {α : Type} (f : α → Int) (l : List α) : (l.map fun b => D.int (f b)) = iL (l.map f) := by
  rw [iL, List.map_map]
  rfl
def wT (one other : List Lt) (ru : Int × Int × Int) : List (List Int) := one.map fun a => other.map fun b => worth a b ru
theorem worth_table_ok {one other : List Lt} {ru : Int × Int × Int} {s : Int × Int} {sd o1 o2 : D} (h1 : ∀ t ∈ one, Small t) (h2 : ∀ t ∈ other, Small (mv s t)) (hr : Rule ru) (hs : tupOf sd = some [.int s.1, .int s.2]) (l1 : one.length ≤ 1000) (l2 : other.length ≤ 1000) (e1 : valsOf o1 = some (lL one)) (e2 : valsOf o2 = some (lL other)) (m : Mu) :
    f_worth_table [o1, o2, ruD ru, sd] m = .ok (.lst (tL (wT one (other.map (mv s)) ru))) m := by
  have key : b_worth_table [some o1, some o2, some (ruD ru), some sd, none, none, none, none, none, none, none, none] m = .ret (.lst (tL (wT one (other.map (mv s)) ru))) m := by
    unfold b_worth_table
    refine (sSeq_nx (s' := [some o1, some o2, some (ruD ru), some sd, none, some (.int s.1), some (.int s.2), none, none, none, none, none]) (m' := m) (by simp [hs])).trans ?_
    refine (sSeq_nx (s' := [some o1, some o2, some (ruD ru), some sd, some (.lst (lL (other.map (mv s)))), some (.int s.1), some (.int s.2), none, none, none, none, none]) (m' := m) ?_).trans ?_
    · have k := lcL_mapT (g := gT (gsCons (gN 8) (gsCons (gN 9) (gsCons (gN 10) gsNil)))) (el := sTup (aCons (s2 dAdd (sVar 8) (sVar 5)) (aCons (s2 dAdd (sVar 9) (sVar 6)) (aCons (sVar 10) aNil)))) (s := wipeD [some o1, some o2, some (ruD ru), some sd, none, some (.int s.1), some (.int s.2), none, none, none, none, none] [8, 9, 10]) (m := m) lD (fun t => lD (mv s t)) other (fun t _ => ⟨[some o1, some o2, some (ruD ru), some sd, none, some (.int s.1), some (.int s.2), none, some (.int t.1), some (.int t.2.1), some (.int t.2.2), none], by simp [lD, wipeD], by simp [lD, mv]⟩)
      have e3 : iVal (sVar 1) [some o1, some o2, some (ruD ru), some sd, none, some (.int s.1), some (.int s.2), none, none, none, none, none] m = .ok (lL other) m := by simp [e2]
      have e4 : lL (other.map (mv s)) = other.map fun t => lD (mv s t) := by rw [lL, List.map_map]; rfl
      simp only [e_sSet, e_sLc, e3, q_bind1]
      rw [if_pos (by rw [List.length_map]; omega), k, ← e4]
      rfl
    · refine sRet_of ?_
      have inner : ∀ a ∈ one, ∀ x4 : List D, sLc (iVal (sVar 4)) (gN 11) bYes (sCall 3 f_pair_worth (aCons (sVar 7) (aCons (sVar 11) (aCons (sVar 2) aNil)))) [11] [some o1, some o2, some (ruD ru), some sd, some (.lst (lL (other.map (mv s)))), some (.int s.1), some (.int s.2), some (lD a), none, none, none, none] m = .ok (.lst (iL ((other.map (mv s)).map fun b => worth a b ru))) m := fun a ha _ => by
        have k := lcL_mapT (g := gN 11) (el := sCall 3 f_pair_worth (aCons (sVar 7) (aCons (sVar 11) (aCons (sVar 2) aNil)))) (s := wipeD [some o1, some o2, some (ruD ru), some sd, some (.lst (lL (other.map (mv s)))), some (.int s.1), some (.int s.2), some (lD a), none, none, none, none] [11]) (m := m) lD (fun b => .int (worth a b ru)) (other.map (mv s)) (fun b hb => ⟨_, rfl, by
          obtain ⟨b0, hb0, rfl⟩ := List.mem_map.mp hb
          have := pair_worth_ok (h1 a ha) (h2 b0 hb0) hr m
          simp [wipeD, this]⟩)
        have e3 : iVal (sVar 4) [some o1, some o2, some (ruD ru), some sd, some (.lst (lL (other.map (mv s)))), some (.int s.1), some (.int s.2), some (lD a), none, none, none, none] m = .ok (lL (other.map (mv s))) m := by simp
        simp only [e_sLc, e3, q_bind1]
        rw [if_pos (by rw [List.length_map, List.length_map]; omega), k, map_iL]
      have k := lcL_mapT (g := gN 7) (el := sLc (iVal (sVar 4)) (gN 11) bYes (sCall 3 f_pair_worth (aCons (sVar 7) (aCons (sVar 11) (aCons (sVar 2) aNil)))) [11]) (s := wipeD [some o1, some o2, some (ruD ru), some sd, some (.lst (lL (other.map (mv s)))), some (.int s.1), some (.int s.2), none, none, none, none, none] [7]) (m := m) lD (fun a => .lst (iL ((other.map (mv s)).map fun b => worth a b ru))) one (fun a ha => ⟨_, rfl, inner a ha []⟩)
      have e3 : iVal (sVar 0) [some o1, some o2, some (ruD ru), some sd, some (.lst (lL (other.map (mv s)))), some (.int s.1), some (.int s.2), none, none, none, none, none] m = .ok (lL one) m := by simp [e1]
      have e4 : tL (wT one (other.map (mv s)) ru) = one.map fun a => D.lst (iL ((other.map (mv s)).map fun b => worth a b ru)) := by
        unfold wT
        rw [tL, List.map_map]
        rfl
      simp only [e_sLc, e3, q_bind1]
      rw [if_pos (by rw [List.length_map]; omega), k, e4]
  exact run_ret key
theorem mul_le {a b c d : Int} (h1 : 0 ≤ a) (h2 : a ≤ b) (h3 : 0 ≤ c) (h4 : c ≤ d) : a * c ≤ b * d := Int.le_trans (Int.mul_le_mul_of_nonneg_right h2 h3) (Int.mul_le_mul_of_nonneg_left h4 (Int.le_trans h1 h2))
theorem cost_rng {a b : Lt} {ru : Int × Int × Int} (hr : Rule ru) {c : Int} (h : cost a b ru = some c) : 0 ≤ c ∧ c ≤ 49801 := by
  unfold cost at h
  split at h
  · cases h
  · rename_i hn
    cases h
    have h1 : ¬ ((a.1 - b.1) * (a.1 - b.1) + (a.2.1 - b.2.1) * (a.2.1 - b.2.1) > ru.1 * ru.1) := fun z => hn (.inl z)
    have h2 : ¬ (((a.2.2 - b.2.2).natAbs : Int) > ru.2.1) := fun z => hn (.inr z)
    have s1 := Int.mul_self_le_mul_self hr.a.1 hr.a.2
    have p1 : 0 ≤ (a.1 - b.1) * (a.1 - b.1) := by
      rcases Int.le_total 0 (a.1 - b.1) with z | z
      · exact Int.mul_nonneg z z
      · exact Int.mul_nonneg_of_nonpos_of_nonpos z z
    have p2 : 0 ≤ (a.2.1 - b.2.1) * (a.2.1 - b.2.1) := by
      rcases Int.le_total 0 (a.2.1 - b.2.1) with z | z
      · exact Int.mul_nonneg z z
      · exact Int.mul_nonneg_of_nonpos_of_nonpos z z
    have g0 : (0 : Int) ≤ ((a.2.2 - b.2.2).natAbs : Int) := by omega
    have hrb := hr.b
    have g1 : ((a.2.2 - b.2.2).natAbs : Int) ≤ 99 := by omega
    have g2 := mul_le hr.c.1 hr.c.2 g0 g1
    have g3 := Int.mul_nonneg hr.c.1 g0
    omega
theorem worth_rng {a b : Lt} {ru : Int × Int × Int} (hr : Rule ru) : 0 ≤ worth a b ru ∧ worth a b ru ≤ 2000000 := by
  unfold worth
  cases e : cost a b ru with
  | none => dsimp only; omega
  | some c =>
    have := cost_rng hr e
    dsimp only
    omega
theorem worth_pos {a b : Lt} {ru : Int × Int × Int} (hr : Rule ru) : 0 < worth a b ru ↔ ∃ c, cost a b ru = some c := by
  unfold worth
  cases e : cost a b ru with
  | none => simp
  | some c =>
    have := cost_rng hr e
    simp
    omega
theorem wT_tbl {one other : List Lt} {ru : Int × Int × Int} (hr : Rule ru) (l1 : one.length ≤ 400) (l2 : other.length ≤ 400) : Tbl (wT one other ru) other.length := by
  refine ⟨by simp [wT]; exact l1, l2, fun r h => ?_, fun r h x hx => ?_⟩
  · obtain ⟨a, _, rfl⟩ := List.mem_map.mp h
    simp
  · obtain ⟨a, _, rfl⟩ := List.mem_map.mp h
    obtain ⟨b, _, rfl⟩ := List.mem_map.mp hx
    exact worth_rng hr
theorem wT_at {one other : List Lt} {ru : Int × Int × Int} {i j : Nat} {a b : Lt} (h1 : one[i]? = some a) (h2 : other[j]? = some b) : gT2 (wT one other ru) i j = worth a b ru := by
  show ((wT one other ru).getD i []).getD j 0 = _
  rw [getD_of (show (wT one other ru)[i]? = some (other.map fun b => worth a b ru) by simp [wT, h1]), getD_of (show (other.map fun b => worth a b ru)[j]? = some (worth a b ru) by simp [h2])]
theorem wT_len {one other : List Lt} {ru : Int × Int × Int} : (wT one other ru).length = one.length := by simp [wT]
/-! ### what pairs are worth -/
def tw (w : List (List Int)) (ps : List (Nat × Nat)) : Int := (ps.map fun p => gT2 w p.1 p.2).sum
theorem total_worth_ok {w : List (List Int)} {ps : List (Nat × Nat)} {d : D} (hd : valsOf d = some (pL ps)) (hp : ∀ p ∈ ps, ∃ r, w[p.1]? = some r ∧ p.2 < r.length) (hl : ps.length ≤ 1000000) (m : Mu) : f_total_worth [.lst (tL w), d] m = .ok (.int (tw w ps)) m := by
  have key : b_total_worth [some (.lst (tL w)), some d, none, none] m = .ret (.int (tw w ps)) m := by
    unfold b_total_worth
    refine sRet_of ?_
    have k := lcL_mapT (g := gT (gsCons (gN 2) (gsCons (gN 3) gsNil))) (el := s2 dIx (s2 dIx (sVar 0) (sVar 2)) (sVar 3)) (s := wipeD [some (.lst (tL w)), some d, none, none] [2, 3]) (m := m) nD (fun p => .int (gT2 w p.1 p.2)) ps (fun p h => ⟨[some (.lst (tL w)), some d, some (.int p.1), some (.int p.2)], by simp [nD, wipeD], by
      obtain ⟨r, h1, h2⟩ := hp p h
      obtain ⟨v, h3⟩ := get_ok h2
      have : gT2 w p.1 p.2 = v := by show (w.getD p.1 []).getD p.2 0 = v; rw [getD_of h1, getD_of h3]
      rw [this]
      simp [h1, h3]⟩)
    have e3 : iVal (sVar 1) [some (.lst (tL w)), some d, none, none] m = .ok (pL ps) m := by simp [hd]
    have e4 : (ps.map fun p => D.int (gT2 w p.1 p.2)) = iL (ps.map fun p => gT2 w p.1 p.2) := by rw [iL, List.map_map]; rfl
    simp only [e_sB, e_aCons, e_aNil, e_sLc, e3, q_bind1]
    rw [if_pos (by rw [List.length_map]; exact hl), k, e4]
    simp only [q_bind1]
    unfold dSumA
    simp only [q_seq1, intsOf_map]
    rfl
  exact run_ret key
theorem total_cost_ok {w : List (List Int)} {ps : List (Nat × Nat)} {d : D} (hd : valsOf d = some (pL ps)) (hp : ∀ p ∈ ps, ∃ r, w[p.1]? = some r ∧ p.2 < r.length) (hl : ps.length ≤ 1000000) (m : Mu) : f_total_cost [.lst (tL w), d] m = .ok (.int (2000000 * ps.length - tw w ps)) m := by
  have sd : ∃ b, seqOf m d = some (b, pL ps) := by
    cases d <;> first | (cases hd; exact ⟨_, rfl⟩) | cases hd
  obtain ⟨b, sd⟩ := sd
  refine run_ret ?_
  show b_total_cost [some (.lst (tL w)), some d] m = _
  unfold b_total_cost
  refine sRet_of ?_
  simp [sd, total_worth_ok hd hp hl, k_FULL_WORTH]
theorem best_rows {w : List (List Int)} {many : Nat} {ps : List (Nat × Nat)} {rp cp : List Int} (t : Tbl w many) (b : Best w many ps rp cp) : ∀ p ∈ ps, ∃ r, w[p.1]? = some r ∧ p.2 < r.length := fun p hp => by
  obtain ⟨h1, h2, _⟩ := b.rng p hp
  obtain ⟨r, hr⟩ := get_ok h1
  exact ⟨r, hr, by rw [t.rows r (List.mem_of_getElem? hr)]; exact h2⟩
theorem best_len {w : List (List Int)} {many : Nat} {ps : List (Nat × Nat)} {rp cp : List Int} (b : Best w many ps rp cp) : ps.length ≤ w.length := by
  have nd : (ps.map (·.1)).Nodup := by
    unfold List.Nodup
    rw [List.pairwise_map]
    exact b.rise.imp fun h => by omega
  have := List.Nodup.length_le_of_subset (l₂ := List.range w.length) nd (fun i hi => by
    obtain ⟨p, hp, rfl⟩ := List.mem_map.mp hi
    exact List.mem_range.mpr (b.rng p hp).1)
  simpa using this
/-! ### pairing -/
theorem good_small {ts : List Lt} (h : Good ts) : ∀ t ∈ ts, Small t := fun t ht => by
  have := inB_iff.mp (h.fine t ht)
  unfold Small
  omega
theorem good_small_mv {ts : List Lt} (h : Good ts) {s : Int × Int} (h1 : -999 ≤ s.1 ∧ s.1 ≤ 999) (h2 : -999 ≤ s.2 ∧ s.2 ≤ 999) : ∀ t ∈ ts, Small (mv s t) := fun t ht => by
  have := inB_iff.mp (h.fine t ht)
  unfold Small mv
  dsimp only
  omega
theorem asked_ok {m : Mu} (hm : Wf m) {one other : List Lt} {ru : Int × Int × Int} {s : Int × Int} {sd : D} (g1 : Good one) (g2 : Good other) (hr : Rule ru) (hs : tupOf sd = some [.int s.1, .int s.2]) (h1 : -999 ≤ s.1 ∧ s.1 ≤ 999) (h2 : -999 ≤ s.2 ∧ s.2 ≤ 999) :
    f_asked_worths [.tup (lL one), .tup (lL other), ruD ru, sd] m = .ok (.lst (tL (wT one (other.map (mv s)) ru))) m := by
  have l1 := g1.len
  have l2 := g2.len
  have k := worth_table_ok (o1 := .tup (lL one)) (o2 := .tup (lL other)) (good_small g1) (good_small_mv g2 h1 h2) hr hs (by omega) (by omega) rfl rfl m
  refine run_ret ?_
  show b_asked_worths [some (.tup (lL one)), some (.tup (lL other)), some (ruD ru), some sd] m = _
  unfold b_asked_worths
  simp [check_ok hm g1, check_ok hm g2, rule_ok hr, slip_ok hs h1 h2, k]
/-- pairing tells a best choice, its cost, and prices that show it -/
theorem pairing_ok {m : Mu} (hm : Wf m) {one other : List Lt} {ru : Int × Int × Int} {s : Int × Int} {sd : D} (g1 : Good one) (g2 : Good other) (hr : Rule ru) (hs : tupOf sd = some [.int s.1, .int s.2]) (h1 : -999 ≤ s.1 ∧ s.1 ≤ 999) (h2 : -999 ≤ s.2 ∧ s.2 ≤ 999) :
    ∃ ps rp cp, f_pairing [.tup (lL one), .tup (lL other), ruD ru, sd] m = .ok (.tup [.tup (pL ps), .int (2000000 * ps.length - tw (wT one (other.map (mv s)) ru) ps), .tup [.tup (iL rp), .tup (iL cp)]]) m ∧ Best (wT one (other.map (mv s)) ru) other.length ps rp cp := by
  have l1 := g1.len
  have l2 := g2.len
  have t : Tbl (wT one (other.map (mv s)) ru) other.length := by
    have := wT_tbl (one := one) (other := other.map (mv s)) hr (by omega) (by simp; omega)
    simpa using this
  obtain ⟨ps, rp, cp, e, b⟩ := best_ok hm t
  have bl := best_len b
  rw [wT_len] at bl
  refine ⟨ps, rp, cp, ?_, b⟩
  have k := total_cost_ok (d := .lst (pL ps)) rfl (best_rows t b) (by omega) m
  refine run_ret ?_
  show b_pairing [some (.tup (lL one)), some (.tup (lL other)), some (ruD ru), some sd, none, none, none] m = _
  unfold b_pairing
  simp [asked_ok hm g1 g2 hr hs h1 h2, e, k]
end Px
set_option Elab.async false
set_option linter.all false
set_option maxRecDepth 100000
set_option maxHeartbeats 1000000
namespace Px
open PySem PySem.Spec PyProof.Rows L2 Rx
/-! ### sums -/
def S (f : Nat → Int) (is : List Nat) : Int := (is.map f).sum
theorem sum_perm {l l' : List Int} (h : l.Perm l') : l.sum = l'.sum := by
  induction h with
  | nil => rfl
  | cons x _ ih => simp [ih]
  | swap x y l => simp; omega
  | trans _ _ h1 h2 => rw [h1, h2]
theorem S_perm {f : Nat → Int} {is js : List Nat} (h : is.Perm js) : S f is = S f js := sum_perm (h.map f)
theorem S_nonneg {f : Nat → Int} : ∀ {is : List Nat}, (∀ i ∈ is, 0 ≤ f i) → 0 ≤ S f is
  | [], _ => Int.le_refl _
  | i :: is, h => by
    have h1 := h i List.mem_cons_self
    have h2 := S_nonneg (f := f) (is := is) fun j hj => h j (List.mem_cons_of_mem _ hj)
    unfold S at h2 ⊢
    simp only [List.map_cons, List.sum_cons]
    omega
theorem S_zero {f : Nat → Int} : ∀ {is : List Nat}, (∀ i ∈ is, f i = 0) → S f is = 0
  | [], _ => rfl
  | i :: is, h => by
    have h1 := h i List.mem_cons_self
    have h2 := S_zero (f := f) (is := is) fun j hj => h j (List.mem_cons_of_mem _ hj)
    unfold S at h2 ⊢
    simp only [List.map_cons, List.sum_cons]
    omega
theorem S_cons {f : Nat → Int} {i : Nat} {is : List Nat} : S f (i :: is) = f i + S f is := by simp [S]
theorem S_sub {f : Nat → Int} : ∀ {is js : List Nat}, is.Nodup → is ⊆ js → (∀ j ∈ js, 0 ≤ f j) → S f is ≤ S f js ∧ (js.Nodup → (∀ j ∈ js, j ∉ is → f j = 0) → S f is = S f js)
  | [], js, _, _, h => ⟨by simpa [S] using S_nonneg h, fun _ z => by rw [S_zero (is := js) fun j hj => z j hj (by simp)]; rfl⟩
  | i :: is, js, nd, hs, h => by
    have nd' := List.nodup_cons.mp nd
    have hi : i ∈ js := hs List.mem_cons_self
    have pm := List.perm_cons_erase hi
    have hs' : is ⊆ js.erase i := fun j hj => (List.mem_erase_of_ne (fun z : j = i => nd'.1 (by rw [← z]; exact hj))).mpr (hs (List.mem_cons_of_mem _ hj))
    obtain ⟨h1, h2⟩ := S_sub (f := f) nd'.2 hs' fun j hj => h j (List.mem_of_mem_erase hj)
    rw [S_perm pm, S_cons, S_cons]
    refine ⟨by omega, fun ndj z => ?_⟩
    rw [h2 (ndj.erase i) fun j hj hn => z j (List.mem_of_mem_erase hj) fun m => ?_]
    rcases List.mem_cons.mp m with e | e
    · subst e
      exact (ndj.not_mem_erase) hj
    · exact hn e
/-- pairs, each row and each column in one at most -/
structure Mat (R many : Nat) (qs : List (Nat × Nat)) : Prop where
  rng : ∀ q ∈ qs, q.1 < R ∧ q.2 < many
  rows : (qs.map (·.1)).Nodup
  cols : (qs.map (·.2)).Nodup
theorem Best.mat {w : List (List Int)} {many : Nat} {ps : List (Nat × Nat)} {rp cp : List Int} (b : Best w many ps rp cp) : Mat w.length many ps := by
  have nd : ps.Nodup := b.rise.imp fun h e => by rw [e] at h; omega
  refine ⟨fun q hq => ⟨(b.rng q hq).1, (b.rng q hq).2.1⟩, ?_, ?_⟩
  · unfold List.Nodup
    rw [List.pairwise_map]
    exact b.rise.imp fun h => by omega
  · unfold List.Nodup
    rw [List.pairwise_map]
    exact nd.imp_of_mem fun {p q} hp hq hne e => hne (b.cols p hp q hq e)
theorem tw_split (f g : Nat → Int) (w : List (List Int)) : ∀ qs : List (Nat × Nat), (∀ q ∈ qs, gT2 w q.1 q.2 ≤ f q.1 + g q.2) → tw w qs ≤ S f (qs.map (·.1)) + S g (qs.map (·.2)) ∧ ((∀ q ∈ qs, f q.1 + g q.2 = gT2 w q.1 q.2) → tw w qs = S f (qs.map (·.1)) + S g (qs.map (·.2)))
  | [], _ => ⟨Int.le_refl _, fun _ => rfl⟩
  | q :: qs, h => by
    have h1 := h q List.mem_cons_self
    obtain ⟨h2, h3⟩ := tw_split f g w qs fun x hx => h x (List.mem_cons_of_mem _ hx)
    unfold tw at *
    simp only [List.map_cons, List.sum_cons, S_cons]
    refine ⟨by omega, fun z => ?_⟩
    have := h3 fun x hx => z x (List.mem_cons_of_mem _ hx)
    have := z q List.mem_cons_self
    omega
/-- what all prices come to -/
theorem Best.sum {w : List (List Int)} {many : Nat} {ps : List (Nat × Nat)} {rp cp : List Int} (b : Best w many ps rp cp) : tw w ps = S (gI rp) (List.range w.length) + S (gI cp) (List.range many) := by
  have M := b.mat
  have h := (tw_split (gI rp) (gI cp) w ps fun q hq => Int.le_of_eq (b.tight q hq).symm).2 b.tight
  rw [h]
  have h1 := (S_sub (f := gI rp) (js := List.range w.length) M.rows (fun i hi => by
    obtain ⟨q, hq, rfl⟩ := List.mem_map.mp hi
    exact List.mem_range.mpr (M.rng q hq).1) fun j hj => (b.rpos j (List.mem_range.mp hj)).1).2 List.nodup_range fun j hj hn => b.row0 j (List.mem_range.mp hj) fun p hp e => hn (List.mem_map.mpr ⟨p, hp, e⟩)
  have h2 := (S_sub (f := gI cp) (js := List.range many) M.cols (fun i hi => by
    obtain ⟨q, hq, rfl⟩ := List.mem_map.mp hi
    exact List.mem_range.mpr (M.rng q hq).2) fun j hj => (b.cpos j (List.mem_range.mp hj)).1).2 List.nodup_range fun j hj hn => b.col0 j (List.mem_range.mp hj) fun p hp e => hn (List.mem_map.mpr ⟨p, hp, e⟩)
  rw [h1, h2]
/-- no pairs are worth more -/
theorem Best.most {w : List (List Int)} {many : Nat} {ps qs : List (Nat × Nat)} {rp cp : List Int} (b : Best w many ps rp cp) (M : Mat w.length many qs) : tw w qs ≤ tw w ps := by
  rw [b.sum]
  have h := (tw_split (gI rp) (gI cp) w qs fun q hq => b.feas q.1 (M.rng q hq).1 q.2 (M.rng q hq).2).1
  have h1 := (S_sub (f := gI rp) (js := List.range w.length) M.rows (fun i hi => by
    obtain ⟨q, hq, rfl⟩ := List.mem_map.mp hi
    exact List.mem_range.mpr (M.rng q hq).1) fun j hj => (b.rpos j (List.mem_range.mp hj)).1).1
  have h2 := (S_sub (f := gI cp) (js := List.range many) M.cols (fun i hi => by
    obtain ⟨q, hq, rfl⟩ := List.mem_map.mp hi
    exact List.mem_range.mpr (M.rng q hq).2) fun j hj => (b.cpos j (List.mem_range.mp hj)).1).1
  omega
/-! ### choices, by their costs -/
/-- what a pair costs, by numbers -/
def cAt (one other : List Lt) (ru : Int × Int × Int) (p : Nat × Nat) : Option Int := match one[p.1]?, other[p.2]? with
  | some a, some b => cost a b ru
  | _, _ => none
def costs (one other : List Lt) (ru : Int × Int × Int) (ps : List (Nat × Nat)) : Int := (ps.map fun p => (cAt one other ru p).getD 0).sum
/-- a choice: pairs that may be -/
structure Cho (one other : List Lt) (ru : Int × Int × Int) (ps : List (Nat × Nat)) : Prop where
  may : ∀ p ∈ ps, ∃ c, cAt one other ru p = some c
  rise : ps.Pairwise fun p q => p.1 < q.1
  cols : (ps.map (·.2)).Nodup
theorem cAt_rng {one other : List Lt} {ru : Int × Int × Int} {p : Nat × Nat} {c : Int} (h : cAt one other ru p = some c) : ∃ a b, one[p.1]? = some a ∧ other[p.2]? = some b ∧ cost a b ru = some c := by
  unfold cAt at h
  split at h
  · rename_i a b e1 e2
    exact ⟨a, b, e1, e2, h⟩
  · cases h
theorem Cho.mat {one other : List Lt} {ru : Int × Int × Int} {ps : List (Nat × Nat)} (h : Cho one other ru ps) : Mat one.length other.length ps := by
  refine ⟨fun q hq => ?_, ?_, h.cols⟩
  · obtain ⟨c, hc⟩ := h.may q hq
    obtain ⟨a, b, e1, e2, _⟩ := cAt_rng hc
    exact ⟨(List.getElem?_eq_some_iff.mp e1).1, (List.getElem?_eq_some_iff.mp e2).1⟩
  · unfold List.Nodup
    rw [List.pairwise_map]
    exact h.rise.imp fun h => by omega
theorem cho_tw {one other : List Lt} {ru : Int × Int × Int} : ∀ {ps : List (Nat × Nat)}, (∀ p ∈ ps, ∃ c, cAt one other ru p = some c) → tw (wT one other ru) ps = 2000000 * ps.length - costs one other ru ps
  | [], _ => rfl
  | p :: ps, h => by
    obtain ⟨c, hc⟩ := h p List.mem_cons_self
    obtain ⟨a, b, e1, e2, e3⟩ := cAt_rng hc
    have ih := cho_tw (ps := ps) fun x hx => h x (List.mem_cons_of_mem _ hx)
    have hw : gT2 (wT one other ru) p.1 p.2 = 2000000 - c := by
      rw [wT_at e1 e2]
      unfold worth
      rw [e3]
    unfold tw costs at *
    simp only [List.map_cons, List.sum_cons, List.length_cons, hw, hc, Option.getD_some]
    omega
theorem costs_rng {one other : List Lt} {ru : Int × Int × Int} (hr : Rule ru) : ∀ {ps : List (Nat × Nat)}, (∀ p ∈ ps, ∃ c, cAt one other ru p = some c) → 0 ≤ costs one other ru ps ∧ costs one other ru ps ≤ 49801 * ps.length
  | [], _ => by simp [costs]
  | p :: ps, h => by
    obtain ⟨c, hc⟩ := h p List.mem_cons_self
    obtain ⟨a, b, e1, e2, e3⟩ := cAt_rng hc
    have ih := costs_rng (one := one) (other := other) hr (ps := ps) fun x hx => h x (List.mem_cons_of_mem _ hx)
    have := cost_rng hr e3
    unfold costs at *
    simp only [List.map_cons, List.sum_cons, List.length_cons, hc, Option.getD_some]
    omega
theorem Best.cho {one other : List Lt} {ru : Int × Int × Int} (hr : Rule ru) {ps : List (Nat × Nat)} {rp cp : List Int} (b : Best (wT one other ru) other.length ps rp cp) : Cho one other ru ps := by
  refine ⟨fun p hp => ?_, b.rise, b.mat.cols⟩
  obtain ⟨h1, h2, h3⟩ := b.rng p hp
  rw [wT_len] at h1
  obtain ⟨x, e1⟩ := get_ok h1
  obtain ⟨y, e2⟩ := get_ok h2
  rw [wT_at e1 e2] at h3
  obtain ⟨c, hc⟩ := (worth_pos hr).mp h3
  exact ⟨c, by unfold cAt; rw [e1, e2]; exact hc⟩
theorem Mat.len {R many : Nat} {qs : List (Nat × Nat)} (M : Mat R many qs) : qs.length ≤ R := by
  have := List.Nodup.length_le_of_subset (l₂ := List.range R) M.rows (fun i hi => by
    obtain ⟨p, hp, rfl⟩ := List.mem_map.mp hi
    exact List.mem_range.mpr (M.rng p hp).1)
  simpa using this
/-- the best choice has the most pairs, and of these costs least -/
theorem Best.least {one other : List Lt} {ru : Int × Int × Int} (hr : Rule ru) (hl : one.length ≤ 16) {ps qs : List (Nat × Nat)} {rp cp : List Int} (b : Best (wT one other ru) other.length ps rp cp) (C : Cho one other ru qs) :
    qs.length ≤ ps.length ∧ (qs.length = ps.length → costs one other ru ps ≤ costs one other ru qs) := by
  have M := C.mat
  have h1 := b.most (by rw [wT_len]; exact M)
  have P := b.cho hr
  rw [cho_tw C.may, cho_tw P.may] at h1
  have h2 := costs_rng hr C.may
  have h3 := costs_rng hr P.may
  have l1 := M.len
  have l2 := P.mat.len
  constructor
  · omega
  · intro e
    rw [e] at h1
    omega
theorem Best.cost_eq {one other : List Lt} {ru : Int × Int × Int} (hr : Rule ru) {ps : List (Nat × Nat)} {rp cp : List Int} (b : Best (wT one other ru) other.length ps rp cp) : 2000000 * ps.length - tw (wT one other ru) ps = costs one other ru ps := by
  rw [cho_tw (b.cho hr).may]
  omega
end Px
set_option Elab.async false
set_option linter.all false
set_option maxRecDepth 100000
set_option maxHeartbeats 1000000
namespace Px
open PySem PySem.Spec PyProof.Rows L2 Rx
/-- a list or tuple that never changes -/
def SeqF (d : D) (ds : List D) : Prop := ∃ b, (∀ mu, seqOf mu d = some (b, ds)) ∧ valsOf d = some ds
theorem seqF_tup (ds : List D) : SeqF (.tup ds) ds := ⟨true, fun _ => rfl, rfl⟩
theorem seqF_lst (ds : List D) : SeqF (.lst ds) ds := ⟨false, fun _ => rfl, rfl⟩
def cD : Option Int → D
  | none => .non
  | some c => .int c
theorem law_cost_ok {a b : Lt} {ru : Int × Int × Int} (ha : Small a) (hb : Small b) (hr : Rule ru) (m : Mu) : f__law_cost [lD a, lD b, ruD ru] m = .ok (cD (cost a b ru)) m := by
  obtain ⟨a1, a2, a3, a4, a5, a6⟩ := ha
  obtain ⟨b1, b2, b3, b4, b5, b6⟩ := hb
  have x1 : -18446744073709551616 < a.1 - b.1 ∧ a.1 - b.1 < 18446744073709551616 := by omega
  have x2 : -18446744073709551616 < a.2.1 - b.2.1 ∧ a.2.1 - b.2.1 < 18446744073709551616 := by omega
  have hra := hr.a
  have hrc := hr.c
  have x3 : -18446744073709551616 < ru.1 ∧ ru.1 < 18446744073709551616 := by omega
  have x4 : -18446744073709551616 < ru.2.2 ∧ ru.2.2 < 18446744073709551616 := by omega
  refine run_ret ?_
  show b__law_cost [some (lD a), some (lD b), some (ruD ru), none, none, none] m = _
  unfold b__law_cost
  refine (sSeq_nx (s' := [some (lD a), some (lD b), some (ruD ru), none, some (.int (a.1 - b.1)), some (.int (a.2.1 - b.2.1))]) (m' := m) (by simp [lD])).trans ?_
  refine (sSeq_nx (s' := [some (lD a), some (lD b), some (ruD ru), some (.int ((a.2.2 - b.2.2).natAbs : Int)), some (.int (a.1 - b.1)), some (.int (a.2.1 - b.2.1))]) (m' := m) (by simp [lD])).trans ?_
  unfold cost
  by_cases c1 : (a.1 - b.1) * (a.1 - b.1) + (a.2.1 - b.2.1) * (a.2.1 - b.2.1) > ru.1 * ru.1
  · rw [if_pos (.inl c1)]
    exact sSeq_ret ((sIf_t (m' := m) (by simp [x1, x2, x3, ruD, show ru.1 * ru.1 < (a.1 - b.1) * (a.1 - b.1) + (a.2.1 - b.2.1) * (a.2.1 - b.2.1) from c1])).trans (by simp [cD]))
  · by_cases c2 : ((a.2.2 - b.2.2).natAbs : Int) > ru.2.1
    · rw [if_pos (.inr c2)]
      exact sSeq_ret ((sIf_t (m' := m) (by simp [x1, x2, x3, ruD, show ¬ ru.1 * ru.1 < (a.1 - b.1) * (a.1 - b.1) + (a.2.1 - b.2.1) * (a.2.1 - b.2.1) from c1, show ru.2.1 < ((a.2.2 - b.2.2).natAbs : Int) from c2])).trans (by simp [cD]))
    · rw [if_neg (by rintro (h | h) <;> contradiction)]
      refine (sSeq_nx ((sIf_f (m' := m) (by simp [x1, x2, x3, ruD, show ¬ ru.1 * ru.1 < (a.1 - b.1) * (a.1 - b.1) + (a.2.1 - b.2.1) * (a.2.1 - b.2.1) from c1, show ¬ ru.2.1 < ((a.2.2 - b.2.2).natAbs : Int) from c2])).trans rfl)).trans ?_
      simp [x1, x2, x4, ruD, cD]
/-! ### all choices -/
abbrev Ch := List (Nat × Nat) × Int
def chD (p : Ch) : D := .tup [.tup (pL p.1), .int p.2]
def ext1 (one other : List Lt) (ru : Int × Int × Int) (i : Nat) (p : Ch) (j : Nat) : Option Ch := match cAt one other ru (i, j) with
  | some c => if j ∈ p.1.map (·.2) then none else some (p.1 ++ [(i, j)], p.2 + c)
  | none => none
def extL (one other : List Lt) (ru : Int × Int × Int) (i : Nat) (p : Ch) : List Ch := (List.range other.length).filterMap (ext1 one other ru i p)
def chs (one other : List Lt) (ru : Int × Int × Int) : Nat → List Ch
  | 0 => [([], 0)]
  | k + 1 => chs one other ru k ++ (chs one other ru k).flatMap (extL one other ru k)
theorem ext1_some {one other : List Lt} {ru : Int × Int × Int} {i j : Nat} {p q : Ch} (h : ext1 one other ru i p j = some q) : ∃ c, cAt one other ru (i, j) = some c ∧ j ∉ p.1.map (·.2) ∧ q = (p.1 ++ [(i, j)], p.2 + c) := by
  unfold ext1 at h
  split at h
  · rename_i c e
    split at h
    · cases h
    · rename_i hn
      cases h
      exact ⟨c, e, hn, rfl⟩
  · cases h
/-- each is a choice, with its cost -/
theorem chs_ok {one other : List Lt} {ru : Int × Int × Int} : ∀ (k : Nat) (p : Ch), p ∈ chs one other ru k → Cho one other ru p.1 ∧ (∀ q ∈ p.1, q.1 < k) ∧ p.2 = costs one other ru p.1
  | 0, p, h => by
    simp [chs] at h
    subst h
    exact ⟨⟨by simp, by simp, by simp⟩, by simp, rfl⟩
  | k + 1, p, h => by
    rcases List.mem_append.mp h with h | h
    · obtain ⟨h1, h2, h3⟩ := chs_ok k p h
      exact ⟨h1, fun q hq => Nat.lt_succ_of_lt (h2 q hq), h3⟩
    · obtain ⟨p0, hp0, h⟩ := List.mem_flatMap.mp h
      obtain ⟨h1, h2, h3⟩ := chs_ok k p0 hp0
      obtain ⟨j, _, hj⟩ := List.mem_filterMap.mp h
      obtain ⟨c, e1, e2, rfl⟩ := ext1_some hj
      refine ⟨⟨fun q hq => ?_, ?_, ?_⟩, fun q hq => ?_, ?_⟩
      · rcases List.mem_append.mp hq with hq | hq
        · exact h1.may q hq
        · rw [List.mem_singleton.mp hq]; exact ⟨c, e1⟩
      · rw [List.pairwise_append]
        exact ⟨h1.rise, by simp, fun a ha b hb => by rw [List.mem_singleton.mp hb]; exact h2 a ha⟩
      · rw [List.map_append, List.nodup_append]
        refine ⟨h1.cols, by simp, fun a ha b hb e => ?_⟩
        simp at hb
        subst e
        rw [hb] at ha
        exact e2 ha
      · rcases List.mem_append.mp hq with hq | hq
        · exact Nat.lt_succ_of_lt (h2 q hq)
        · rw [List.mem_singleton.mp hq]; exact Nat.lt_succ_self k
      · dsimp only
        rw [h3]
        simp [costs, e1]
/-- none is left out -/
theorem chs_all {one other : List Lt} {ru : Int × Int × Int} : ∀ (k : Nat) (ps : List (Nat × Nat)), Cho one other ru ps → (∀ q ∈ ps, q.1 < k) → (ps, costs one other ru ps) ∈ chs one other ru k
  | 0, ps, _, h => by
    cases ps with
    | nil => simp [chs, costs]
    | cons q ps => exact absurd (h q List.mem_cons_self) (Nat.not_lt_zero _)
  | k + 1, ps, C, h => by
    by_cases hk : ∀ q ∈ ps, q.1 < k
    · exact List.mem_append.mpr (.inl (chs_all k ps C hk))
    · -- the last one is of row k
      rcases List.eq_nil_or_concat ps with rfl | ⟨init, l, rfl⟩
      · exact absurd (fun q hq => absurd hq (by simp)) hk
      · rw [List.concat_eq_append] at *
        have hl := h l (by simp)
        have hr := C.rise
        rw [List.pairwise_append] at hr
        have hi : ∀ q ∈ init, q.1 < l.1 := fun q hq => hr.2.2 q hq l (by simp)
        have hlk : l.1 = k := by
          by_cases e : l.1 < k
          · exfalso
            refine hk fun q hq => ?_
            rcases List.mem_append.mp hq with hq | hq
            · exact Nat.lt_trans (hi q hq) e
            · rw [List.mem_singleton.mp hq]; exact e
          · omega
        have hc := C.cols
        rw [List.map_append, List.nodup_append] at hc
        obtain ⟨c, ec⟩ := C.may l (by simp)
        have ih := chs_all k init ⟨fun q hq => C.may q (by simp [hq]), hr.1, hc.1⟩ (fun q hq => by rw [← hlk]; exact hi q hq)
        refine List.mem_append.mpr (.inr (List.mem_flatMap.mpr ⟨_, ih, List.mem_filterMap.mpr ⟨l.2, ?_, ?_⟩⟩))
        · obtain ⟨a, b, e1, e2, _⟩ := cAt_rng ec
          exact List.mem_range.mpr (List.getElem?_eq_some_iff.mp e2).1
        · unfold ext1
          have e : (k, l.2) = l := by rw [← hlk]
          rw [e, ec]
          have hn : ¬ (l.2 ∈ init.map (·.2)) := fun z => hc.2.2 _ z _ (by simp) rfl
          dsimp only
          rw [if_neg hn]
          simp [costs, ec]
theorem chs_len {one other : List Lt} {ru : Int × Int × Int} : ∀ k : Nat, (chs one other ru k).length ≤ (other.length + 1) ^ k
  | 0 => by simp [chs]
  | k + 1 => by
    have ih := chs_len (one := one) (other := other) (ru := ru) k
    have h : ∀ l : List Ch, (l.flatMap (extL one other ru k)).length ≤ l.length * other.length := by
      intro l
      induction l with
      | nil => simp
      | cons p l ih =>
        have := List.length_filterMap_le (ext1 one other ru k p) (List.range other.length)
        simp only [List.flatMap_cons, List.length_append, List.length_cons, List.length_range] at *
        unfold extL at *
        rw [Nat.add_mul]
        omega
    have h2 := h (chs one other ru k)
    rw [chs, List.length_append, Nat.pow_succ, Nat.mul_add]
    have h3 := Nat.mul_le_mul_right other.length ih
    omega
/-! ### the law's search for them -/
def bTry : SSt := (sSeq (sSet 10 (sCall 3 f__law_cost (aCons (s2 dIx (sVar 0) (sVar 4)) (aCons (s2 dIx (sVar 1) (sVar 9)) (aCons (sVar 2) aNil))))) (sIf (bAnd (sTst (s2 dNotN (sVar 10) (sC .non))) (sTst (s2 dNotIn (sVar 9) (sVar 8)))) (sDo (sM1 dApp (sVar 5) (sTup (aCons (s2 dAdd (sVar 6) (sTup (aCons (sTup (aCons (sVar 4) (aCons (sVar 9) aNil))) aNil))) (aCons (s2 dAdd (sVar 7) (sVar 10)) aNil))))) sNil))
def bOne : SSt := (sSeq (sSet 8 (sLc (iVal (sVar 6)) (gT (gsCons (gN 11) (gsCons (gN 9) gsNil))) bYes (sVar 9) [11, 9])) (sFor (iR1 (aCons (sB dLen (aCons (sVar 1) aNil)) aNil)) (gN 9) bTry))
def sCh (o1 o2 ru fo i fu ps c us j mo : Option D) : Sd := [o1, o2, ru, fo, i, fu, ps, c, us, j, mo, none]
theorem eqv_n (a b : Nat) : dEqv (.int (a : Int)) (.int (b : Int)) = decide (a = b) := by
  rw [eqv_int]
  exact decide_eq_decide.mpr (by omega)
section
variable {one other : List Lt} {ru : Int × Int × Int} {o1 o2 : D} (hr : Rule ru) (h1 : ∀ t ∈ one, Small t) (h2 : ∀ t ∈ other, Small t) (s1_ : SeqF o1 (lL one)) (s2_ : SeqF o2 (lL other)) (hl1 : one.length ≤ 400) (hl2 : other.length ≤ 400)
include hr h1 h2 s1_ s2_ hl1 hl2
theorem try_loop {mm : Mu} {fo : Option D} {i : Nat} (hi : i < one.length) {p : Ch} (hp : p.1.length ≤ 400) : ∀ (js : List Nat) (acc : List Ch) (j0 mo : Option D), (∀ j ∈ js, j < other.length) → acc.length + js.length ≤ 900000 →
    ∃ j1 mo1, forL (gN 9) bTry (wL js) (sCh (some o1) (some o2) (some (ruD ru)) fo (some (.int (i : Nat))) (some (.ref mm.length)) (some (.tup (pL p.1))) (some (.int p.2)) (some (.lst (wL (p.1.map (·.2))))) j0 mo) (mm ++ [.lst (acc.map chD)]) =
      .nx (sCh (some o1) (some o2) (some (ruD ru)) fo (some (.int (i : Nat))) (some (.ref mm.length)) (some (.tup (pL p.1))) (some (.int p.2)) (some (.lst (wL (p.1.map (·.2))))) j1 mo1) (mm ++ [.lst ((acc ++ js.filterMap (ext1 one other ru i p)).map chD)])
  | [], acc, j0, mo, _, _ => ⟨j0, mo, by simp [forL]⟩
  | j :: js, acc, j0, mo, hj, hl => by
    have hjl := hj j List.mem_cons_self
    have hl' : acc.length + (js.length + 1) ≤ 900000 := by simpa using hl
    obtain ⟨a, ea⟩ := get_ok hi
    obtain ⟨b, eb⟩ := get_ok hjl
    obtain ⟨b1, q1, _⟩ := s1_
    obtain ⟨b2, q2, _⟩ := s2_
    have hc := law_cost_ok (h1 a (List.mem_of_getElem? ea)) (h2 b (List.mem_of_getElem? eb)) hr
    have hca : cAt one other ru (i, j) = cost a b ru := by unfold cAt; rw [ea, eb]
    have ok1 : okD (.int (j : Int)) = true := okD_int _
    have ok2 : okD (.lst (wL (p.1.map (·.2)))) = true := okD_of (okN_lst (okN_map (f := fun n : Nat => D.int (n : Int)) (fun n => okN_int _) _)) (by decide)
    have hany : (wL (p.1.map (·.2))).any (fun z => dEqv z (.int (j : Int))) = decide (j ∈ p.1.map (·.2)) := (any_map (f := fun n : Nat => D.int (n : Int)) eqv_n (p.1.map (·.2)) j).trans (decide_eq_decide.mpr Iff.rfl)
    have st1 : sSet 10 (sCall 3 f__law_cost (aCons (s2 dIx (sVar 0) (sVar 4)) (aCons (s2 dIx (sVar 1) (sVar 9)) (aCons (sVar 2) aNil)))) (sCh (some o1) (some o2) (some (ruD ru)) fo (some (.int (i : Nat))) (some (.ref mm.length)) (some (.tup (pL p.1))) (some (.int p.2)) (some (.lst (wL (p.1.map (·.2))))) (some (.int (j : Nat))) mo) (mm ++ [.lst (acc.map chD)]) =
        .nx (sCh (some o1) (some o2) (some (ruD ru)) fo (some (.int (i : Nat))) (some (.ref mm.length)) (some (.tup (pL p.1))) (some (.int p.2)) (some (.lst (wL (p.1.map (·.2))))) (some (.int (j : Nat))) (some (cD (cost a b ru)))) (mm ++ [.lst (acc.map chD)]) := by
      simp [sCh, q1, q2, ea, eb, hc]
    have tail := fun acc' hl2 => try_loop (mm := mm) (fo := fo) hi hp js acc' (some (.int (j : Nat))) (some (cD (cost a b ru))) (fun x hx => hj x (List.mem_cons_of_mem _ hx)) hl2
    have noex : ext1 one other ru i p j = none → bTry (sCh (some o1) (some o2) (some (ruD ru)) fo (some (.int (i : Nat))) (some (.ref mm.length)) (some (.tup (pL p.1))) (some (.int p.2)) (some (.lst (wL (p.1.map (·.2))))) (some (.int (j : Nat))) mo) (mm ++ [.lst (acc.map chD)]) = .nx (sCh (some o1) (some o2) (some (ruD ru)) fo (some (.int (i : Nat))) (some (.ref mm.length)) (some (.tup (pL p.1))) (some (.int p.2)) (some (.lst (wL (p.1.map (·.2))))) (some (.int (j : Nat))) (some (cD (cost a b ru)))) (mm ++ [.lst (acc.map chD)]) → ∃ j1 mo1, forL (gN 9) bTry (wL (j :: js)) (sCh (some o1) (some o2) (some (ruD ru)) fo (some (.int (i : Nat))) (some (.ref mm.length)) (some (.tup (pL p.1))) (some (.int p.2)) (some (.lst (wL (p.1.map (·.2))))) j0 mo) (mm ++ [.lst (acc.map chD)]) =
      .nx (sCh (some o1) (some o2) (some (ruD ru)) fo (some (.int (i : Nat))) (some (.ref mm.length)) (some (.tup (pL p.1))) (some (.int p.2)) (some (.lst (wL (p.1.map (·.2))))) j1 mo1) (mm ++ [.lst ((acc ++ (j :: js).filterMap (ext1 one other ru i p)).map chD)]) := fun hn hb => by
      obtain ⟨j1, mo1, e⟩ := tail acc (by omega)
      refine ⟨j1, mo1, ?_⟩
      rw [List.filterMap_cons_none hn]
      exact (forL_step rfl hb).trans e
    cases hcost : cost a b ru with
    | none =>
      rw [hcost] at st1 noex
      refine noex (by unfold ext1; rw [hca, hcost]) ((sSeq_nx st1).trans ((sIf_f (m' := mm ++ [.lst (acc.map chD)]) ?_).trans rfl))
      simp [sCh, cD]
    | some c =>
      rw [hcost] at st1 noex tail
      have kk : ∀ mu : Mu, dNotIn (.int (j : Nat)) (.lst (wL (p.1.map (·.2)))) mu = .ok (.bl (!decide (j ∈ p.1.map (·.2)))) mu := fun mu => by
        unfold dNotIn
        simp only [q_seq1]
        rw [if_pos ⟨ok1, ok2⟩, hany]
      have tt : (bAnd (sTst (s2 dNotN (sVar 10) (sC .non))) (sTst (s2 dNotIn (sVar 9) (sVar 8)))) (sCh (some o1) (some o2) (some (ruD ru)) fo (some (.int (i : Nat))) (some (.ref mm.length)) (some (.tup (pL p.1))) (some (.int p.2)) (some (.lst (wL (p.1.map (·.2))))) (some (.int (j : Nat))) (some (cD (some c)))) (mm ++ [.lst (acc.map chD)]) = .ok (!decide (j ∈ p.1.map (·.2))) (mm ++ [.lst (acc.map chD)]) := by
        have t1 : sTst (s2 dNotN (sVar 10) (sC .non)) (sCh (some o1) (some o2) (some (ruD ru)) fo (some (.int (i : Nat))) (some (.ref mm.length)) (some (.tup (pL p.1))) (some (.int p.2)) (some (.lst (wL (p.1.map (·.2))))) (some (.int (j : Nat))) (some (cD (some c)))) (mm ++ [.lst (acc.map chD)]) = .ok true (mm ++ [.lst (acc.map chD)]) := by simp [sCh, cD]
        have t2 : sTst (s2 dNotIn (sVar 9) (sVar 8)) (sCh (some o1) (some o2) (some (ruD ru)) fo (some (.int (i : Nat))) (some (.ref mm.length)) (some (.tup (pL p.1))) (some (.int p.2)) (some (.lst (wL (p.1.map (·.2))))) (some (.int (j : Nat))) (some (cD (some c)))) (mm ++ [.lst (acc.map chD)]) = .ok (!decide (j ∈ p.1.map (·.2))) (mm ++ [.lst (acc.map chD)]) := by
          rw [e_sTst, s2_of (show sVar 9 _ _ = .ok (.int (j : Nat)) _ from rfl) (show sVar 8 _ _ = .ok (.lst (wL (p.1.map (·.2)))) _ from rfl), kk]
          rfl
        rw [bAnd_t t1, t2]
      by_cases hin : j ∈ p.1.map (·.2)
      · refine noex (by unfold ext1; rw [hca, hcost]; dsimp only; rw [if_pos hin]) ((sSeq_nx st1).trans ((sIf_f (m' := mm ++ [.lst (acc.map chD)]) ?_).trans rfl))
        rw [tt]
        simp [hin]
      · obtain ⟨j1, mo1, e⟩ := tail (acc ++ [(p.1 ++ [(i, j)], p.2 + c)]) (by simp; omega)
        have hx : ext1 one other ru i p j = some (p.1 ++ [(i, j)], p.2 + c) := by unfold ext1; rw [hca, hcost]; dsimp only; rw [if_neg hin]
        have hb : bTry (sCh (some o1) (some o2) (some (ruD ru)) fo (some (.int (i : Nat))) (some (.ref mm.length)) (some (.tup (pL p.1))) (some (.int p.2)) (some (.lst (wL (p.1.map (·.2))))) (some (.int (j : Nat))) mo) (mm ++ [.lst (acc.map chD)]) = .nx (sCh (some o1) (some o2) (some (ruD ru)) fo (some (.int (i : Nat))) (some (.ref mm.length)) (some (.tup (pL p.1))) (some (.int p.2)) (some (.lst (wL (p.1.map (·.2))))) (some (.int (j : Nat))) (some (cD (some c)))) (mm ++ [.lst ((acc ++ [(p.1 ++ [(i, j)], p.2 + c)]).map chD)]) := by
          refine (sSeq_nx st1).trans ((sIf_t (m' := mm ++ [.lst (acc.map chD)]) ?_).trans ?_)
          · rw [tt]
            simp [hin]
          · have l1 : p.1.length ≤ 999999 := by omega
            have l2 : acc.length ≤ 1000000 := by omega
            simp [sCh, l1, l2, cD, chD, nD]
        refine ⟨j1, mo1, ?_⟩
        rw [List.filterMap_cons_some hx]
        have e' := (forL_step (g := gN 9) (d := .int (j : Nat)) (ds := wL js) (s := (sCh (some o1) (some o2) (some (ruD ru)) fo (some (.int (i : Nat))) (some (.ref mm.length)) (some (.tup (pL p.1))) (some (.int p.2)) (some (.lst (wL (p.1.map (·.2))))) j0 mo)) rfl hb).trans e
        rw [List.append_assoc] at e'
        exact e'
theorem one_loop {mm : Mu} {fo : Option D} {i : Nat} (hi : i < one.length) : ∀ (cs : List Ch) (acc : List Ch) (x6 x7 x8 x9 x10 : Option D), (∀ p ∈ cs, p.1.length ≤ 400) → acc.length + cs.length * (other.length + 1) ≤ 800000 →
    ∃ y6 y7 y8 y9 y10, forL (gT (gsCons (gN 6) (gsCons (gN 7) gsNil))) bOne (cs.map chD) (sCh (some o1) (some o2) (some (ruD ru)) fo (some (.int (i : Nat))) (some (.ref mm.length)) x6 x7 x8 x9 x10) (mm ++ [.lst (acc.map chD)]) =
      .nx (sCh (some o1) (some o2) (some (ruD ru)) fo (some (.int (i : Nat))) (some (.ref mm.length)) y6 y7 y8 y9 y10) (mm ++ [.lst ((acc ++ cs.flatMap (extL one other ru i)).map chD)])
  | [], acc, x6, x7, x8, x9, x10, _, _ => ⟨x6, x7, x8, x9, x10, by simp [forL]⟩
  | p :: cs, acc, x6, x7, x8, x9, x10, hp, hl => by
    have hpl := hp p List.mem_cons_self
    have hl' : acc.length + (cs.length + 1) * (other.length + 1) ≤ 800000 := by simpa using hl
    rw [Nat.add_mul] at hl'
    have hex : (extL one other ru i p).length ≤ other.length := by
      have := List.length_filterMap_le (ext1 one other ru i p) (List.range other.length)
      unfold extL
      simpa using this
    obtain ⟨j1, mo1, e1⟩ := try_loop hr h1 h2 s1_ s2_ hl1 hl2 (mm := mm) (fo := fo) hi hpl (List.range other.length) acc x9 x10 (fun j hj => List.mem_range.mp hj) (by simp; omega)
    have e1x := e1
    obtain ⟨y6, y7, y8, y9, y10, e2⟩ := one_loop (mm := mm) (fo := fo) hi cs (acc ++ extL one other ru i p) (some (.tup (pL p.1))) (some (.int p.2)) (some (.lst (wL (p.1.map (·.2))))) j1 mo1 (fun q hq => hp q (List.mem_cons_of_mem _ hq)) (by simp; omega)
    refine ⟨y6, y7, y8, y9, y10, ?_⟩
    have hb : bOne (sCh (some o1) (some o2) (some (ruD ru)) fo (some (.int (i : Nat))) (some (.ref mm.length)) (some (.tup (pL p.1))) (some (.int p.2)) x8 x9 x10) (mm ++ [.lst (acc.map chD)]) = .nx (sCh (some o1) (some o2) (some (ruD ru)) fo (some (.int (i : Nat))) (some (.ref mm.length)) (some (.tup (pL p.1))) (some (.int p.2)) (some (.lst (wL (p.1.map (·.2))))) j1 mo1) (mm ++ [.lst ((acc ++ extL one other ru i p).map chD)]) := by
      unfold bOne
      refine (sSeq_nx (s' := sCh (some o1) (some o2) (some (ruD ru)) fo (some (.int (i : Nat))) (some (.ref mm.length)) (some (.tup (pL p.1))) (some (.int p.2)) (some (.lst (wL (p.1.map (·.2))))) x9 x10) (m' := mm ++ [.lst (acc.map chD)]) ?_).trans ?_
      · have k := lcL_mapT (g := gT (gsCons (gN 11) (gsCons (gN 9) gsNil))) (el := sVar 9) (s := wipeD (sCh (some o1) (some o2) (some (ruD ru)) fo (some (.int (i : Nat))) (some (.ref mm.length)) (some (.tup (pL p.1))) (some (.int p.2)) x8 x9 x10) [11, 9]) (m := mm ++ [.lst (acc.map chD)]) nD (fun q => .int (q.2 : Int)) p.1 (fun q hq => ⟨sCh (some o1) (some o2) (some (ruD ru)) fo (some (.int (i : Nat))) (some (.ref mm.length)) (some (.tup (pL p.1))) (some (.int p.2)) x8 (some (.int (q.2 : Nat))) x10 |>.set 11 (some (.int (q.1 : Nat))), by simp [sCh, wipeD, nD], by simp [sCh]⟩)
        have e3 : iVal (sVar 6) (sCh (some o1) (some o2) (some (ruD ru)) fo (some (.int (i : Nat))) (some (.ref mm.length)) (some (.tup (pL p.1))) (some (.int p.2)) x8 x9 x10) (mm ++ [.lst (acc.map chD)]) = .ok (pL p.1) (mm ++ [.lst (acc.map chD)]) := by simp [sCh]
        have e4 : wL (p.1.map (·.2)) = p.1.map fun q => D.int (q.2 : Int) := by rw [wL, List.map_map]; rfl
        simp only [e_sSet, e_sLc, e3, q_bind1]
        rw [if_pos (by rw [List.length_map]; omega), k, ← e4]
        rfl
      · obtain ⟨b2, q2, _⟩ := s2_
        have hi2 : iR1 (aCons (sB dLen (aCons (sVar 1) aNil)) aNil) (sCh (some o1) (some o2) (some (ruD ru)) fo (some (.int (i : Nat))) (some (.ref mm.length)) (some (.tup (pL p.1))) (some (.int p.2)) (some (.lst (wL (p.1.map (·.2))))) x9 x10) (mm ++ [.lst (acc.map chD)]) = .ok (wL (List.range other.length)) (mm ++ [.lst (acc.map chD)]) := by
          rw [iR1_ok (j := (other.length : Nat)) (m' := mm ++ [.lst (acc.map chD)]) (by simp [sCh, q2]) (by omega) (by omega), Int.toNat_natCast, rangeD_w]
        rw [sFor_of hi2]
        exact e1x
    have e' := (forL_step (g := gT (gsCons (gN 6) (gsCons (gN 7) gsNil))) (d := chD p) (ds := cs.map chD) (s := (sCh (some o1) (some o2) (some (ruD ru)) fo (some (.int (i : Nat))) (some (.ref mm.length)) x6 x7 x8 x9 x10)) (by simp [chD, sCh]) hb).trans e2
    rw [List.append_assoc] at e'
    exact e'
def bTurnC : SSt := (sSeq (sSet 5 (sB dListN (aCons (sVar 3) aNil))) (sSeq (sFor (iVal (sVar 3)) (gT (gsCons (gN 6) (gsCons (gN 7) gsNil))) bOne) (sSet 3 (sFrz (sVar 5)))))
theorem turns_loop (hpw : (other.length + 1) ^ one.length ≤ 20000) (hl16 : other.length ≤ 20) : ∀ (n k : Nat) (mm : Mu) (x4 x5 x6 x7 x8 x9 x10 : Option D), k + n = one.length →
    ∃ mm' y4 y5 y6 y7 y8 y9 y10, forL (gN 4) bTurnC (wL (List.range' k n)) (sCh (some o1) (some o2) (some (ruD ru)) (some (.lst ((chs one other ru k).map chD))) x4 x5 x6 x7 x8 x9 x10) mm =
      .nx (sCh (some o1) (some o2) (some (ruD ru)) (some (.lst ((chs one other ru one.length).map chD))) y4 y5 y6 y7 y8 y9 y10) (mm ++ mm')
  | 0, k, mm, x4, x5, x6, x7, x8, x9, x10, hk => ⟨[], x4, x5, x6, x7, x8, x9, x10, by
    have : k = one.length := by omega
    subst this
    simp [forL]⟩
  | n + 1, k, mm, x4, x5, x6, x7, x8, x9, x10, hk => by
    have hkl : k < one.length := by omega
    have len := chs_len (one := one) (other := other) (ru := ru) k
    have hle : (other.length + 1) ^ k ≤ 20000 := Nat.le_trans (Nat.pow_le_pow_right (by omega) (by omega)) hpw
    have hmul : (chs one other ru k).length * (other.length + 1) ≤ 20000 * 21 := Nat.mul_le_mul (by omega) (by omega)
    obtain ⟨y6, y7, y8, y9, y10, e⟩ := one_loop hr h1 h2 s1_ s2_ hl1 hl2 (mm := mm) (fo := some (.lst ((chs one other ru k).map chD))) hkl (chs one other ru k) (chs one other ru k) x6 x7 x8 x9 x10 (fun p hp => by
      have := (chs_ok k p hp).1.mat.len
      omega) (by omega)
    obtain ⟨mm', z4, z5, z6, z7, z8, z9, z10, f⟩ := turns_loop hpw hl16 n (k + 1) (mm ++ [.dead]) (some (.int (k : Nat))) (some (.ref mm.length)) y6 y7 y8 y9 y10 (by omega)
    refine ⟨.dead :: mm', z4, z5, z6, z7, z8, z9, z10, ?_⟩
    have hb : bTurnC (sCh (some o1) (some o2) (some (ruD ru)) (some (.lst ((chs one other ru k).map chD))) (some (.int (k : Nat))) x5 x6 x7 x8 x9 x10) mm = .nx (sCh (some o1) (some o2) (some (ruD ru)) (some (.lst ((chs one other ru (k + 1)).map chD))) (some (.int (k : Nat))) (some (.ref mm.length)) y6 y7 y8 y9 y10) (mm ++ [.dead]) := by
      unfold bTurnC
      refine (sSeq_nx (s' := sCh (some o1) (some o2) (some (ruD ru)) (some (.lst ((chs one other ru k).map chD))) (some (.int (k : Nat))) (some (.ref mm.length)) x6 x7 x8 x9 x10) (m' := mm ++ [.lst ((chs one other ru k).map chD)]) (by simp [sCh])).trans ?_
      refine (sSeq_nx (s' := sCh (some o1) (some o2) (some (ruD ru)) (some (.lst ((chs one other ru k).map chD))) (some (.int (k : Nat))) (some (.ref mm.length)) y6 y7 y8 y9 y10) (m' := mm ++ [.lst ((chs one other ru (k + 1)).map chD)]) ?_).trans ?_
      · have hi : iVal (sVar 3) (sCh (some o1) (some o2) (some (ruD ru)) (some (.lst ((chs one other ru k).map chD))) (some (.int (k : Nat))) (some (.ref mm.length)) x6 x7 x8 x9 x10) (mm ++ [.lst ((chs one other ru k).map chD)]) = .ok ((chs one other ru k).map chD) (mm ++ [.lst ((chs one other ru k).map chD)]) := by simp [sCh]
        rw [sFor_of hi]
        exact e
      · simp [sCh]
    rw [List.range'_succ]
    have e' := (forL_step (g := gN 4) (d := .int (k : Nat)) (ds := wL (List.range' (k + 1) n)) (s := (sCh (some o1) (some o2) (some (ruD ru)) (some (.lst ((chs one other ru k).map chD))) x4 x5 x6 x7 x8 x9 x10)) rfl hb).trans f
    rw [List.append_assoc] at e'
    exact e'
theorem choices_ok (hpw : (other.length + 1) ^ one.length ≤ 20000) (hl16 : other.length ≤ 20) {m : Mu} (hm : Wf m) : f__law_choices [o1, o2, ruD ru] m = .ok (.lst ((chs one other ru one.length).map chD)) m := by
  obtain ⟨mm', y4, y5, y6, y7, y8, y9, y10, e⟩ := turns_loop hr h1 h2 s1_ s2_ hl1 hl2 hpw hl16 one.length 0 m none none none none none none none (by omega)
  obtain ⟨b1, q1, _⟩ := s1_
  have hb : b__law_choices [some o1, some o2, some (ruD ru), none, none, none, none, none, none, none, none, none] m = .ret (.lst ((chs one other ru one.length).map chD)) (m ++ mm') := by
    unfold b__law_choices
    refine (sSeq_nx (s' := sCh (some o1) (some o2) (some (ruD ru)) (some (.lst ((chs one other ru 0).map chD))) none none none none none none none) (m' := m) (by simp [sCh, chs, chD])).trans ?_
    refine (sSeq_nx (s' := sCh (some o1) (some o2) (some (ruD ru)) (some (.lst ((chs one other ru one.length).map chD))) y4 y5 y6 y7 y8 y9 y10) (m' := m ++ mm') ?_).trans (by simp [sCh])
    have hi : iR1 (aCons (sB dLen (aCons (sVar 0) aNil)) aNil) (sCh (some o1) (some o2) (some (ruD ru)) (some (.lst ((chs one other ru 0).map chD))) none none none none none none none) m = .ok (wL (List.range one.length)) m := by
      rw [iR1_ok (j := (one.length : Nat)) (m' := m) (by simp [sCh, q1]) (by omega) (by omega), Int.toNat_natCast, rangeD_w]
    rw [sFor_of hi, List.range_eq_range']
    exact e
  unfold f__law_choices runT
  rw [run_ret (n := 12) (ds := [o1, o2, ruD ru]) hb]
  refine trim_app rfl hm ?_
  simp only [D.undr]
  exact undr_all.mpr fun d hd => by
    obtain ⟨p, _, rfl⟩ := List.mem_map.mp hd
    simp only [chD, D.undr, D.undr.all, Bool.and_true]
    exact undr_all.mpr fun d hd => by
      obtain ⟨q, _, rfl⟩ := List.mem_map.mp hd
      rfl
end
end Px
set_option Elab.async false
set_option linter.all false
set_option maxRecDepth 100000
set_option maxHeartbeats 1000000
namespace Px
open PySem PySem.Spec PyProof.Rows L2 Rx
def tpD (ps : List (Nat × Nat)) : D := .tup (pL ps)
def mn (l : List Int) : Int := match l with
  | [] => 0
  | a :: l => minL a l
theorem mn_ok {l : List Int} (h : l ≠ []) : mn l ∈ l ∧ ∀ y ∈ l, mn l ≤ y := by
  cases l with
  | nil => exact absurd rfl h
  | cons a l => exact minL_ok l a
theorem dMin1_ok {l : List Int} (h : l ≠ []) (m : Mu) : dMin1 [.lst (iL l)] m = .ok (.int (mn l)) m := by
  cases l with
  | nil => exact absurd rfl h
  | cons a l =>
    unfold dMin1
    simp only [q_seq1, intsOf_map]
    rfl
def sBe (o1 o2 ru x3 x4 x5 : Option D) : Sd := [o1, o2, ru, x3, x4, x5, none, none]
theorem dEq_int (i j : Int) (m : Mu) : dEq (.int i) (.int j) m = .ok (.bl (decide (i = j))) m := by
  unfold dEq
  rw [if_pos ⟨okD_int _, okD_int _⟩]
  simp
section
variable {one other : List Lt} {ru : Int × Int × Int} {o1 o2 : D} (hr : Rule ru) (h1 : ∀ t ∈ one, Small t) (h2 : ∀ t ∈ other, Small t) (s1_ : SeqF o1 (lL one)) (s2_ : SeqF o2 (lL other)) (hl1 : one.length ≤ 16) (hl2 : other.length ≤ 20)
include hr h1 h2 s1_ s2_ hl1 hl2
theorem law_best_ok (hpw : (other.length + 1) ^ one.length ≤ 20000) {m : Mu} (hm : Wf m) {ps : List (Nat × Nat)} {rp cp : List Int} (b : Best (wT one other ru) other.length ps rp cp) :
    ∃ L : List (List (Nat × Nat)), f__law_best [o1, o2, ruD ru] m = .ok (.tup [.int (ps.length : Nat), .int (costs one other ru ps), .lst (L.map tpD)]) m ∧ ∀ q, q ∈ L ↔ Cho one other ru q ∧ q.length = ps.length ∧ costs one other ru q = costs one other ru ps := by
  have hch := choices_ok hr h1 h2 s1_ s2_ (by omega) (by omega) hpw hl2 hm
  have hlen := chs_len (one := one) (other := other) (ru := ru) one.length
  have hok := chs_ok (one := one) (other := other) (ru := ru) one.length
  have P := b.cho hr
  have hall : ∀ q, Cho one other ru q → (q, costs one other ru q) ∈ chs one other ru one.length := fun q Q => chs_all one.length q Q fun x hx => (Q.mat.rng x hx).1
  have hin := hall ps P
  generalize chs one other ru one.length = C at *
  have hC : ∀ p ∈ C, p.1.length ≤ ps.length ∧ (p.1.length = ps.length → costs one other ru ps ≤ p.2) := fun p hp => by
    obtain ⟨a1, _, a3⟩ := hok p hp
    have := b.least hr hl1 a1
    rw [a3]
    exact this
  -- how many
  have e1 : mx (C.map fun p => (p.1.length : Int)) = (ps.length : Int) := by
    obtain ⟨z1, z2⟩ := mx_ok (l := C.map fun p => (p.1.length : Int)) (by
      intro z
      have := List.map_eq_nil_iff.mp z
      rw [this] at hin
      cases hin)
    obtain ⟨p, hp, ep⟩ := List.mem_map.mp z1
    have a := (hC p hp).1
    have c := z2 _ (List.mem_map_of_mem (f := fun p : Ch => (p.1.length : Int)) hin)
    dsimp only at c
    omega
  have e2 : mn ((C.filter fun p => decide ((p.1.length : Int) = (ps.length : Int))).map (·.2)) = costs one other ru ps := by
    have hin2 : (ps, costs one other ru ps) ∈ C.filter fun p => decide ((p.1.length : Int) = (ps.length : Int)) := List.mem_filter.mpr ⟨hin, by simp⟩
    obtain ⟨z1, z2⟩ := mn_ok (l := (C.filter fun p => decide ((p.1.length : Int) = (ps.length : Int))).map (·.2)) (by
      intro z
      have := List.map_eq_nil_iff.mp z
      rw [this] at hin2
      cases hin2)
    obtain ⟨p, hp, ep⟩ := List.mem_map.mp z1
    obtain ⟨hp1, hp2⟩ := List.mem_filter.mp hp
    have hp2 := of_decide_eq_true hp2
    have a := (hC p hp1).2 (by omega)
    have c := z2 _ (List.mem_map_of_mem (f := fun p : Ch => p.2) hin2)
    dsimp only at c
    omega
  refine ⟨(C.filter fun p => decide ((p.1.length : Int) = (ps.length : Int)) && decide (p.2 = costs one other ru ps)).map (·.1), ?_, fun q => ?_⟩
  · refine run_ret ?_
    show b__law_best (sBe (some o1) (some o2) (some (ruD ru)) none none none) m = _
    unfold b__law_best
    have hCl : (C.map chD).length ≤ 1000000 := by rw [List.length_map]; omega
    have hi : ∀ x4 x5 : Option D, iVal (sVar 3) (sBe (some o1) (some o2) (some (ruD ru)) (some (.lst (C.map chD))) x4 x5) m = .ok (C.map chD) m := fun x4 x5 => by simp [sBe]
    refine (sSeq_nx (s' := sBe (some o1) (some o2) (some (ruD ru)) (some (.lst (C.map chD))) none none) (m' := m) (by simp [sBe, hch])).trans ?_
    refine (sSeq_nx (s' := sBe (some o1) (some o2) (some (ruD ru)) (some (.lst (C.map chD))) (some (.int (ps.length : Nat))) none) (m' := m) ?_).trans ?_
    · have k := lcL_mapT (g := gT (gsCons (gN 6) (gsCons (gN 7) gsNil))) (el := sB dLen (aCons (sVar 6) aNil)) (s := wipeD (sBe (some o1) (some o2) (some (ruD ru)) (some (.lst (C.map chD))) none none) [6, 7]) (m := m) chD (fun p => .int (p.1.length : Nat)) C (fun p _ => ⟨[some o1, some o2, some (ruD ru), some (.lst (C.map chD)), none, none, some (.tup (pL p.1)), some (.int p.2)], by simp [sBe, wipeD, chD], by simp⟩)
      have e3 : (C.map fun p : Ch => D.int (p.1.length : Nat)) = iL (C.map fun p => (p.1.length : Int)) := map_iL (fun p : Ch => (p.1.length : Int)) C
      have hne : (C.map fun p => (p.1.length : Int)) ≠ [] := by
        intro z
        have := List.map_eq_nil_iff.mp z
        rw [this] at hin
        cases hin
      simp only [e_sSet, e_sB, e_aCons, e_aNil, e_sLc, hi, q_bind1]
      rw [if_pos hCl]
      rw [k, e3]
      simp only [q_bind1, dMax1_ok hne, e1, e_Res.toS]
      rfl
    refine (sSeq_nx (s' := sBe (some o1) (some o2) (some (ruD ru)) (some (.lst (C.map chD))) (some (.int (ps.length : Nat))) (some (.int (costs one other ru ps)))) (m' := m) ?_).trans ?_
    · have k := lcL_filterT (g := gT (gsCons (gN 6) (gsCons (gN 7) gsNil))) (tt := sTst (s2 dEq (sB dLen (aCons (sVar 6) aNil)) (sVar 4))) (el := sVar 7) (s := wipeD (sBe (some o1) (some o2) (some (ruD ru)) (some (.lst (C.map chD))) (some (.int (ps.length : Nat))) none) [6, 7]) (m := m) chD (fun p => decide ((p.1.length : Int) = (ps.length : Int))) (fun p => .int p.2) C (fun p _ => ⟨[some o1, some o2, some (ruD ru), some (.lst (C.map chD)), some (.int (ps.length : Nat)), none, some (.tup (pL p.1)), some (.int p.2)], by simp [sBe, wipeD, chD], by
        rw [e_sTst, s2_of (show sB dLen (aCons (sVar 6) aNil) _ _ = .ok (.int (p.1.length : Nat)) m by simp) (show sVar 4 _ _ = .ok (.int (ps.length : Nat)) m from rfl), dEq_int]
        rfl, fun _ => by simp⟩)
      have e3 : ((C.filter fun p => decide ((p.1.length : Int) = (ps.length : Int))).map fun p : Ch => D.int p.2) = iL ((C.filter fun p => decide ((p.1.length : Int) = (ps.length : Int))).map (·.2)) := map_iL (fun p : Ch => p.2) _
      have hne : (C.filter fun p => decide ((p.1.length : Int) = (ps.length : Int))).map (·.2) ≠ [] := by
        intro z
        have := List.map_eq_nil_iff.mp z
        have h : (ps, costs one other ru ps) ∈ C.filter fun p => decide ((p.1.length : Int) = (ps.length : Int)) := List.mem_filter.mpr ⟨hin, by simp⟩
        rw [this] at h
        cases h
      simp only [e_sSet, e_sB, e_aCons, e_aNil, e_sLc, hi, q_bind1]
      rw [if_pos hCl]
      rw [k, e3]
      simp only [q_bind1, dMin1_ok hne, e2, e_Res.toS]
      rfl
    · refine sRet_of ?_
      have k := lcL_filterT (g := gT (gsCons (gN 6) (gsCons (gN 7) gsNil))) (tt := bAnd (sTst (s2 dEq (sB dLen (aCons (sVar 6) aNil)) (sVar 4))) (sTst (s2 dEq (sVar 7) (sVar 5)))) (el := sVar 6) (s := wipeD (sBe (some o1) (some o2) (some (ruD ru)) (some (.lst (C.map chD))) (some (.int (ps.length : Nat))) (some (.int (costs one other ru ps)))) [6, 7]) (m := m) chD (fun p => decide ((p.1.length : Int) = (ps.length : Int)) && decide (p.2 = costs one other ru ps)) (fun p => tpD p.1) C (fun p _ => ⟨[some o1, some o2, some (ruD ru), some (.lst (C.map chD)), some (.int (ps.length : Nat)), some (.int (costs one other ru ps)), some (.tup (pL p.1)), some (.int p.2)], by simp [sBe, wipeD, chD], by
        have t1 : sTst (s2 dEq (sB dLen (aCons (sVar 6) aNil)) (sVar 4)) [some o1, some o2, some (ruD ru), some (.lst (C.map chD)), some (.int (ps.length : Nat)), some (.int (costs one other ru ps)), some (.tup (pL p.1)), some (.int p.2)] m = .ok (decide ((p.1.length : Int) = (ps.length : Int))) m := by
          rw [e_sTst, s2_of (show sB dLen (aCons (sVar 6) aNil) _ _ = .ok (.int (p.1.length : Nat)) m by simp) (show sVar 4 _ _ = .ok (.int (ps.length : Nat)) m from rfl), dEq_int]
          rfl
        have t2 : sTst (s2 dEq (sVar 7) (sVar 5)) [some o1, some o2, some (ruD ru), some (.lst (C.map chD)), some (.int (ps.length : Nat)), some (.int (costs one other ru ps)), some (.tup (pL p.1)), some (.int p.2)] m = .ok (decide (p.2 = costs one other ru ps)) m := by
          rw [e_sTst, s2_of (show sVar 7 _ _ = .ok (.int p.2) m from rfl) (show sVar 5 _ _ = .ok (.int (costs one other ru ps)) m from rfl), dEq_int]
          rfl
        cases hd : decide ((p.1.length : Int) = (ps.length : Int)) with
        | true => rw [hd] at t1; rw [bAnd_t t1, t2]; simp
        | false => rw [hd] at t1; rw [bAnd_f t1]; simp, fun _ => by simp [tpD]⟩)
      have e3 : ((C.filter fun p => decide ((p.1.length : Int) = (ps.length : Int)) && decide (p.2 = costs one other ru ps)).map fun p : Ch => tpD p.1) = ((C.filter fun p => decide ((p.1.length : Int) = (ps.length : Int)) && decide (p.2 = costs one other ru ps)).map (·.1)).map tpD := by rw [List.map_map]; rfl
      have v4 : sVar 4 (sBe (some o1) (some o2) (some (ruD ru)) (some (.lst (C.map chD))) (some (.int (ps.length : Nat))) (some (.int (costs one other ru ps)))) m = .ok (.int (ps.length : Nat)) m := rfl
      have v5 : sVar 5 (sBe (some o1) (some o2) (some (ruD ru)) (some (.lst (C.map chD))) (some (.int (ps.length : Nat))) (some (.int (costs one other ru ps)))) m = .ok (.int (costs one other ru ps)) m := rfl
      simp only [e_sTup, e_aCons, e_aNil, e_sLc, hi, v4, v5, q_bind1]
      rw [if_pos hCl]
      rw [k, e3]
      rfl
  · simp only [List.mem_map, List.mem_filter, Bool.and_eq_true, decide_eq_true_eq]
    constructor
    · rintro ⟨p, ⟨hp, hp1, hp2⟩, rfl⟩
      obtain ⟨a1, _, a3⟩ := hok p hp
      exact ⟨a1, by omega, by rw [← a3]; exact hp2⟩
    · rintro ⟨Q, q1, q2⟩
      exact ⟨(q, costs one other ru q), ⟨hall q Q, by dsimp only; omega, q2⟩, rfl⟩
end
end Px
set_option Elab.async false
set_option linter.all false
set_option maxRecDepth 100000
set_option maxHeartbeats 1000000
namespace Px
open PySem PySem.Spec PyProof.Rows L2 Rx
/-! ### one of a written list -/
theorem pick_ok {α : Type} {f : α → D} {l : List α} {d : α} {z : Int} (h0 : 0 ≤ z) (h1 : z < l.length) (m : Mu) : dIx (.lst (l.map f)) (.int z) m = .ok (f (l.getD z.toNat d)) m ∧ l.getD z.toNat d ∈ l := by
  have hz : z.toNat < l.length := by omega
  obtain ⟨v, hv⟩ := get_ok hz
  have e : z = (z.toNat : Nat) := by omega
  refine ⟨?_, by rw [getD_of hv]; exact List.mem_of_getElem? hv⟩
  rw [getD_of hv]
  have h2 : atI (l.map f) z = some (f v) := by
    rw [e, atI_nat]
    simp [hv]
  unfold dIx
  simp only [q_seq1, h2]
theorem pick_mem {l : List Int} {z : Int} (h0 : 0 ≤ z) (h1 : z < l.length) (m : Mu) : ∃ v, v ∈ l ∧ dIx (.lst (iL l)) (.int z) m = .ok (.int v) m := by
  obtain ⟨a, b⟩ := pick_ok (f := D.int) (d := 0) h0 h1 m
  exact ⟨_, b, a⟩
theorem pickT {f : SEx} {S : Sd} {r r' : MO} {rest : Mu} {l : List Int} {z n v : Int} {k0 : Nat} (hl : f S (r :: rest) = .ok (.lst (iL l)) (r :: rest)) (ht : f__law_taken [.ref 0, .int n] (r :: rest) = .ok (.int z) (r' :: rest)) (hv : S[k0]? = some (some (.ref 0))) (hx : dIx (.lst (iL l)) (.int z) (r' :: rest) = .ok (.int v) (r' :: rest)) :
    s2 dIx f (sCall 2 f__law_taken (aCons (sVar k0) (aCons (sC (.int n)) aNil))) S (r :: rest) = .ok (.int v) (r' :: rest) := by
  rw [s2_of (x := .lst (iL l)) (y := .int z) (m1 := r :: rest) (m2 := r' :: rest) hl (by simp [hv, ht]), hx]
theorem law_rule_ok {ns : List Int} {r : MO} (h : Row ns r) (rest : Mu) : ∃ (ru : Int × Int × Int) (r' : MO), f__law_rule [.ref 0] (r :: rest) = .ok (ruD ru) (r' :: rest) ∧ Row ns r' ∧ Rule ru ∧ ru.1 ≤ 9 := by
  obtain ⟨a, r1, e1, h1, a1, a2⟩ := taken_ok h (k := 5) (by decide) (by decide) rest
  obtain ⟨b, r2, e2, h2, b1, b2⟩ := taken_ok h1 (k := 4) (by decide) (by decide) rest
  obtain ⟨c, r3, e3, h3, c1, c2⟩ := taken_ok h2 (k := 3) (by decide) (by decide) rest
  obtain ⟨x, hx, ex⟩ := pick_mem (l := [2, 3, 5, 9, 0]) a1 a2 (r1 :: rest)
  obtain ⟨y, hy, ey⟩ := pick_mem (l := [3, 1, 0, 99]) b1 b2 (r2 :: rest)
  obtain ⟨z, hz, ez⟩ := pick_mem (l := [0, 1, 3]) c1 c2 (r3 :: rest)
  have bx : ∀ v ∈ ([2, 3, 5, 9, 0] : List Int), 0 ≤ v ∧ v ≤ 9 := by decide
  have by' : ∀ v ∈ ([3, 1, 0, 99] : List Int), 0 ≤ v ∧ v ≤ 99 := by decide
  have bz : ∀ v ∈ ([0, 1, 3] : List Int), 0 ≤ v ∧ v ≤ 3 := by decide
  have b1' := bx x hx
  have b2' := by' y hy
  have b3' := bz z hz
  refine ⟨(x, y, z), r3, ?_, h3, ⟨by dsimp only; omega, by dsimp only; omega, by dsimp only; omega⟩, b1'.2⟩
  refine run_ret ?_
  show b__law_rule [some (.ref 0)] (r :: rest) = _
  unfold b__law_rule
  refine sRet_of ?_
  have g1 := pickT (S := [some (.ref 0)]) (k0 := 0) (f := sLst (aCons (sC (.int 2)) (aCons (sC (.int 3)) (aCons (sC (.int 5)) (aCons (sC (.int 9)) (aCons (sC (.int 0)) aNil)))))) (l := [2, 3, 5, 9, 0]) (by simp) e1 rfl ex
  have g2 := pickT (S := [some (.ref 0)]) (k0 := 0) (f := sLst (aCons (sC (.int 3)) (aCons (sC (.int 1)) (aCons (sC (.int 0)) (aCons (sC (.int 99)) aNil))))) (l := [3, 1, 0, 99]) (by simp) e2 rfl ey
  have g3 := pickT (S := [some (.ref 0)]) (k0 := 0) (f := sLst (aCons (sC (.int 0)) (aCons (sC (.int 1)) (aCons (sC (.int 3)) aNil)))) (l := [0, 1, 3]) (by simp) e3 rfl ez
  simp only [e_sTup, e_aCons, e_aNil, g1, g2, g3, q_bind1]
  rfl
theorem moved_ok {ts : List Lt} (hl : ts.length ≤ 1000) (s : Int × Int) {d : D} (hd : tupOf d = some [.int s.1, .int s.2]) (m : Mu) : f__law_moved [.tup (lL ts), d] m = .ok (.tup (lL (ts.map (mv s)))) m := by
  have sd : seqOf m d = some (true, [.int s.1, .int s.2]) := by cases d <;> first | (cases hd; rfl) | cases hd
  refine run_ret ?_
  show b__law_moved [some (.tup (lL ts)), some d, none, none, none] m = _
  unfold b__law_moved
  refine sRet_of ?_
  have k := lcL_mapT (g := gT (gsCons (gN 2) (gsCons (gN 3) (gsCons (gN 4) gsNil)))) (el := sTup (aCons (s2 dAdd (sVar 2) (s2 dIx (sVar 1) (sC (.int 0)))) (aCons (s2 dAdd (sVar 3) (s2 dIx (sVar 1) (sC (.int 1)))) (aCons (sVar 4) aNil)))) (s := wipeD [some (.tup (lL ts)), some d, none, none, none] [2, 3, 4]) (m := m) lD (fun t => lD (mv s t)) ts (fun t _ => ⟨[some (.tup (lL ts)), some d, some (.int t.1), some (.int t.2.1), some (.int t.2.2)], by simp [wipeD, lD], by simp [sd, lD, mv]⟩)
  have e3 : iVal (sVar 0) [some (.tup (lL ts)), some d, none, none, none] m = .ok (lL ts) m := by simp
  have e4 : lL (ts.map (mv s)) = ts.map fun t => lD (mv s t) := by rw [lL, List.map_map]; rfl
  simp only [e_sB, e_aCons, e_aNil, e_sLc, e3, q_bind1]
  rw [if_pos (by rw [List.length_map]; omega), k, ← e4]
  simp
/-! ### alike -/
theorem kd_seq {m : Mu} {d : D} {b : Bool} {ds : List D} (h : seqOf m d = some (b, ds)) : kdOf m d = some (if b = true then .tup else .lst) := by
  cases d <;> first | (cases h; done) | (cases b <;> simp [kdOf, h]; done) | skip
theorem dEq_bl (i j : Bool) (m : Mu) : dEq (.bl i) (.bl j) m = .ok (.bl (decide (i = j))) m := by
  unfold dEq
  rw [if_pos ⟨okD_bl _, okD_bl _⟩]
  simp
theorem dNe_bl (i j : Bool) (m : Mu) : dNe (.bl i) (.bl j) m = .ok (.bl (!decide (i = j))) m := by
  unfold dNe
  rw [if_pos ⟨okD_bl _, okD_bl _⟩]
  simp
theorem dNe_int (i j : Int) (m : Mu) : dNe (.int i) (.int j) m = .ok (.bl (!decide (i = j))) m := by
  unfold dNe
  rw [if_pos ⟨okD_int _, okD_int _⟩]
  simp
theorem alike_int (n : Nat) (i j : Int) (m : Mu) : g__law_alike (n + 1) [.int i, .int j] m = .ok (.bl (decide (i = j))) m := by
  show Rx.run 4 (b__law_alike (g__law_alike n)) [.int i, .int j] m = _
  refine run_ret ?_
  show b__law_alike (g__law_alike n) [some (.int i), some (.int j), none, none] m = _
  unfold b__law_alike
  simp [isKd, kdOf, dEq_bl, dEq_int, -e_dEq]
theorem alike_seq {n : Nat} {m : Mu} {x y : D} {b : Bool} {xs ys : List D} (hx : seqOf m x = some (b, xs)) (hy : seqOf m y = some (b, ys)) (hl : xs.length = ys.length) (hs : ys.length ≤ 100000) (h : ∀ (i : Nat) (c d : D), xs[i]? = some c → ys[i]? = some d → g__law_alike n [c, d] m = .ok (.bl true) m) : g__law_alike (n + 1) [x, y] m = .ok (.bl true) m := by
  have kx := kd_seq hx
  have ky := kd_seq hy
  show Rx.run 4 (b__law_alike (g__law_alike n)) [x, y] m = _
  refine run_ret ?_
  show b__law_alike (g__law_alike n) [some x, some y, none, none] m = _
  have i1 : sTst (s1 (dIsi [Ty.tuple, Ty.list]) (sVar 1)) [some x, some y, none, none] m = .ok true m := by cases b <;> simp [ky, isKd]
  have i2 : sTst (s1 (dIsi [Ty.tuple, Ty.list]) (sVar 0)) [some x, some y, none, none] m = .ok true m := by cases b <;> simp [kx, isKd]
  have i3 : sTst (s2 dNe (s1 (dIsi [Ty.tuple]) (sVar 0)) (s1 (dIsi [Ty.tuple]) (sVar 1))) [some x, some y, none, none] m = .ok false m := by
    cases b <;> simp [kx, ky, isKd, dNe_bl, -e_dNe]
  have i4 : sTst (s2 dNe (sB dLen (aCons (sVar 0) aNil)) (sB dLen (aCons (sVar 1) aNil))) [some x, some y, none, none] m = .ok false m := by
    simp [hx, hy, hl, dNe_int, -e_dNe]
  have hr : iR1 (aCons (sB dLen (aCons (sVar 1) aNil)) aNil) [some x, some y, none, none] m = .ok (wL (List.range ys.length)) m := by
    rw [iR1_ok (j := (ys.length : Nat)) (m' := m) (by simp [hy]) (by omega) (by omega), Int.toNat_natCast, rangeD_w]
  have k : lcL (gN 3) (bNot (sTst (sCall 2 (g__law_alike n) (aCons (s2 dIx (sVar 0) (sVar 3)) (aCons (s2 dIx (sVar 1) (sVar 3)) aNil))))) (sVar 3) (wipeD [some x, some y, none, none] [3]) (wL (List.range ys.length)) m = .ok [] m := by
    refine lcL_none _ fun d hd => ?_
    obtain ⟨i, hi, rfl⟩ := List.mem_map.mp hd
    have hi := List.mem_range.mp hi
    obtain ⟨c, hc⟩ := get_ok (l := xs) (i := i) (by omega)
    obtain ⟨e, he⟩ := get_ok (l := ys) (i := i) hi
    have hh := h i c e hc he
    refine ⟨_, rfl, ?_⟩
    simp [wipeD, hx, hy, hc, he, hh]
  unfold b__law_alike
  refine sSeq_ret ((sIf_t i1).trans ?_)
  refine (sSeq_nx ((sIf_f (by rw [bOr_f i3, bNot_of i2]; rfl)).trans rfl)).trans ?_
  refine (sSeq_nx ((sIf_f i4).trans rfl)).trans (sRet_of ?_)
  have lc : sLc (iR1 (aCons (sB dLen (aCons (sVar 1) aNil)) aNil)) (gN 3) (bNot (sTst (sCall 2 (g__law_alike n) (aCons (s2 dIx (sVar 0) (sVar 3)) (aCons (s2 dIx (sVar 1) (sVar 3)) aNil))))) (sVar 3) [3] [some x, some y, none, none] m = .ok (.lst []) m := by
    rw [e_sLc, hr]
    simp only [q_bind1]
    rw [if_pos (by rw [List.length_map, List.length_range]; omega), k]
  have o0 : okD (.lst []) = true := okD_of (okN_lst (n := 0) (fun d hd => absurd hd (by simp))) (by decide)
  rw [s2_of lc (show sLst aNil _ _ = .ok (.lst []) m by simp)]
  unfold dEq
  rw [if_pos ⟨o0, o0⟩]
  simp
/-! ### whether prices show it -/
def feasB (one other : List Lt) (ru : Int × Int × Int) (rp cp : List Int) : Bool := (List.range one.length).all fun i => (List.range other.length).all fun j => match cAt one other ru (i, j) with
  | none => true
  | some c => !decide (gI rp i + gI cp j < 2000000 - c)
def bndB (rp cp : List Int) : Bool := (rp ++ cp).all fun x => decide (0 ≤ x) && decide (x ≤ 2000000)
def sSh (o1 o2 ru pp pr x5 x6 x7 x8 x9 : Option D) : Sd := [o1, o2, ru, pp, pr, x5, x6, x7, x8, x9, none]
def bSh : SSt := (sSeq (sSet 9 (sCall 3 f__law_cost (aCons (s2 dIx (sVar 0) (sVar 6)) (aCons (s2 dIx (sVar 1) (sVar 8)) (aCons (sVar 2) aNil))))) (sIf (bAnd (sTst (s2 dNotN (sVar 9) (sC .non))) (sTst (s2 dLt (s2 dAdd (s2 dIx (s2 dIx (sVar 4) (sC (.int 0))) (sVar 6)) (s2 dIx (s2 dIx (sVar 4) (sC (.int 1))) (sVar 8))) (s2 dSub (sC (.int 2000000)) (sVar 9))))) (sRet (sC (.bl false))) sNil))
def prcD (rp cp : List Int) : D := .tup [.tup (iL rp), .tup (iL cp)]
section
variable {one other : List Lt} {ru : Int × Int × Int} {o1 o2 : D} (hr : Rule ru) (h1 : ∀ t ∈ one, Small t) (h2 : ∀ t ∈ other, Small t) (s1_ : SeqF o1 (lL one)) (s2_ : SeqF o2 (lL other)) (hl1 : one.length ≤ 400) (hl2 : other.length ≤ 400) {rp cp : List Int} (hrp : rp.length = one.length) (hcp : cp.length = other.length)
include hr h1 h2 s1_ s2_
theorem cost_call {i j : Nat} {a b : Lt} (ea : one[i]? = some a) (eb : other[j]? = some b) {S : Sd} {m : Mu} {k6 k8 : Nat} (v0 : S[0]? = some (some o1)) (v1 : S[1]? = some (some o2)) (v2 : S[2]? = some (some (ruD ru))) (v6 : S[k6]? = some (some (.int (i : Nat)))) (v8 : S[k8]? = some (some (.int (j : Nat)))) :
    sCall 3 f__law_cost (aCons (s2 dIx (sVar 0) (sVar k6)) (aCons (s2 dIx (sVar 1) (sVar k8)) (aCons (sVar 2) aNil))) S m = .ok (cD (cost a b ru)) m := by
  obtain ⟨b1, q1, _⟩ := s1_
  obtain ⟨b2, q2, _⟩ := s2_
  have hc := law_cost_ok (h1 a (List.mem_of_getElem? ea)) (h2 b (List.mem_of_getElem? eb)) hr m
  simp [v0, v1, v2, v6, v8, q1, q2, ea, eb, hc]
include hl1 hl2 hrp hcp
theorem shows_in {pp : Option D} {x5 x7 : Option D} {m : Mu} {i : Nat} (hi : i < one.length) : ∀ (js : List Nat) (x8 x9 : Option D), (∀ j ∈ js, j < other.length) →
    if (js.all fun j => match cAt one other ru (i, j) with | none => true | some c => !decide (gI rp i + gI cp j < 2000000 - c)) = true
    then ∃ y8 y9, forL (gN 8) bSh (wL js) (sSh (some o1) (some o2) (some (ruD ru)) pp (some (prcD rp cp)) x5 (some (.int (i : Nat))) x7 x8 x9) m = .nx (sSh (some o1) (some o2) (some (ruD ru)) pp (some (prcD rp cp)) x5 (some (.int (i : Nat))) x7 y8 y9) m
    else forL (gN 8) bSh (wL js) (sSh (some o1) (some o2) (some (ruD ru)) pp (some (prcD rp cp)) x5 (some (.int (i : Nat))) x7 x8 x9) m = .ret (.bl false) m
  | [], x8, x9, _ => ⟨x8, x9, rfl⟩
  | j :: js, x8, x9, hj => by
    have hjl := hj j List.mem_cons_self
    obtain ⟨a, ea⟩ := get_ok hi
    obtain ⟨b, eb⟩ := get_ok hjl
    obtain ⟨v1, e1⟩ := get_ok (l := rp) (i := i) (by omega)
    obtain ⟨v2, e2⟩ := get_ok (l := cp) (i := j) (by omega)
    have hca : cAt one other ru (i, j) = cost a b ru := by unfold cAt; rw [ea, eb]
    have st : sSet 9 (sCall 3 f__law_cost (aCons (s2 dIx (sVar 0) (sVar 6)) (aCons (s2 dIx (sVar 1) (sVar 8)) (aCons (sVar 2) aNil)))) (sSh (some o1) (some o2) (some (ruD ru)) pp (some (prcD rp cp)) x5 (some (.int (i : Nat))) x7 (some (.int (j : Nat))) x9) m = .nx (sSh (some o1) (some o2) (some (ruD ru)) pp (some (prcD rp cp)) x5 (some (.int (i : Nat))) x7 (some (.int (j : Nat))) (some (cD (cost a b ru)))) m :=
      sSet_of (cost_call hr h1 h2 s1_ s2_ ea eb rfl rfl rfl rfl rfl)
    have ih := fun z => shows_in (pp := pp) (x5 := x5) (x7 := x7) (m := m) hi js (some (.int (j : Nat))) z fun x hx => hj x (List.mem_cons_of_mem _ hx)
    have goon : (match cAt one other ru (i, j) with | none => true | some c => !decide (gI rp i + gI cp j < 2000000 - c)) = true → bSh (sSh (some o1) (some o2) (some (ruD ru)) pp (some (prcD rp cp)) x5 (some (.int (i : Nat))) x7 (some (.int (j : Nat))) x9) m = .nx (sSh (some o1) (some o2) (some (ruD ru)) pp (some (prcD rp cp)) x5 (some (.int (i : Nat))) x7 (some (.int (j : Nat))) (some (cD (cost a b ru)))) m →
        if ((j :: js).all fun j => match cAt one other ru (i, j) with | none => true | some c => !decide (gI rp i + gI cp j < 2000000 - c)) = true
        then ∃ y8 y9, forL (gN 8) bSh (wL (j :: js)) (sSh (some o1) (some o2) (some (ruD ru)) pp (some (prcD rp cp)) x5 (some (.int (i : Nat))) x7 x8 x9) m = .nx (sSh (some o1) (some o2) (some (ruD ru)) pp (some (prcD rp cp)) x5 (some (.int (i : Nat))) x7 y8 y9) m
        else forL (gN 8) bSh (wL (j :: js)) (sSh (some o1) (some o2) (some (ruD ru)) pp (some (prcD rp cp)) x5 (some (.int (i : Nat))) x7 x8 x9) m = .ret (.bl false) m := fun hc hb => by
      have ih := ih (some (cD (cost a b ru)))
      rw [List.all_cons, hc, Bool.true_and]
      have hs := fun {r : SRes} (e : forL (gN 8) bSh (wL js) (sSh (some o1) (some o2) (some (ruD ru)) pp (some (prcD rp cp)) x5 (some (.int (i : Nat))) x7 (some (.int (j : Nat))) (some (cD (cost a b ru)))) m = r) => (forL_step (g := gN 8) (d := .int (j : Nat)) (ds := wL js) (s := (sSh (some o1) (some o2) (some (ruD ru)) pp (some (prcD rp cp)) x5 (some (.int (i : Nat))) x7 x8 x9)) rfl hb).trans e
      split at ih
      · rename_i hh
        rw [if_pos hh]
        obtain ⟨y8, y9, e⟩ := ih
        exact ⟨y8, y9, hs e⟩
      · rename_i hh
        rw [if_neg hh]
        exact hs ih
    cases hcost : cost a b ru with
    | none =>
      rw [hcost] at st goon
      refine goon (by rw [hca, hcost]) ((sSeq_nx st).trans ((sIf_f (m' := m) ?_).trans rfl))
      simp [sSh, cD]
    | some c =>
      rw [hcost] at st goon
      have t1 : sTst (s2 dNotN (sVar 9) (sC .non)) (sSh (some o1) (some o2) (some (ruD ru)) pp (some (prcD rp cp)) x5 (some (.int (i : Nat))) x7 (some (.int (j : Nat))) (some (cD (some c)))) m = .ok true m := by simp [sSh, cD]
      have t2 : sTst (s2 dLt (s2 dAdd (s2 dIx (s2 dIx (sVar 4) (sC (.int 0))) (sVar 6)) (s2 dIx (s2 dIx (sVar 4) (sC (.int 1))) (sVar 8))) (s2 dSub (sC (.int 2000000)) (sVar 9))) (sSh (some o1) (some o2) (some (ruD ru)) pp (some (prcD rp cp)) x5 (some (.int (i : Nat))) x7 (some (.int (j : Nat))) (some (cD (some c)))) m = .ok (decide (gI rp i + gI cp j < 2000000 - c)) m := by
        rw [show gI rp i = v1 from getD_of e1, show gI cp j = v2 from getD_of e2]
        simp [sSh, prcD, e1, e2, cD]
      by_cases hlt : gI rp i + gI cp j < 2000000 - c
      · have hb : bSh (sSh (some o1) (some o2) (some (ruD ru)) pp (some (prcD rp cp)) x5 (some (.int (i : Nat))) x7 (some (.int (j : Nat))) x9) m = .ret (.bl false) m := by
          refine (sSeq_nx st).trans ((sIf_t (m' := m) ?_).trans (by simp))
          rw [bAnd_t t1, t2, decide_eq_true hlt]
        have hno : ¬ (((j :: js).all fun j => match cAt one other ru (i, j) with | none => true | some c => !decide (gI rp i + gI cp j < 2000000 - c)) = true) := by
          rw [List.all_cons, hca, hcost]
          dsimp only
          rw [decide_eq_true hlt]
          simp
        rw [if_neg hno]
        exact forL_step_ret rfl hb
      · refine goon (by rw [hca, hcost]; dsimp only; rw [decide_eq_false hlt]; rfl) ((sSeq_nx st).trans ((sIf_f (m' := m) ?_).trans rfl))
        rw [bAnd_t t1, t2, decide_eq_false hlt]
theorem shows_out {pp : Option D} {x5 x7 : Option D} {m : Mu} : ∀ (is : List Nat) (x6 x8 x9 : Option D), (∀ i ∈ is, i < one.length) →
    if (is.all fun i => (List.range other.length).all fun j => match cAt one other ru (i, j) with | none => true | some c => !decide (gI rp i + gI cp j < 2000000 - c)) = true
    then ∃ y6 y8 y9, forL (gN 6) (sFor (iR1 (aCons (sB dLen (aCons (sVar 1) aNil)) aNil)) (gN 8) bSh) (wL is) (sSh (some o1) (some o2) (some (ruD ru)) pp (some (prcD rp cp)) x5 x6 x7 x8 x9) m = .nx (sSh (some o1) (some o2) (some (ruD ru)) pp (some (prcD rp cp)) x5 y6 x7 y8 y9) m
    else forL (gN 6) (sFor (iR1 (aCons (sB dLen (aCons (sVar 1) aNil)) aNil)) (gN 8) bSh) (wL is) (sSh (some o1) (some o2) (some (ruD ru)) pp (some (prcD rp cp)) x5 x6 x7 x8 x9) m = .ret (.bl false) m
  | [], x6, x8, x9, _ => ⟨x6, x8, x9, rfl⟩
  | i :: is, x6, x8, x9, hi => by
    have hil := hi i List.mem_cons_self
    have inn := shows_in hr h1 h2 s1_ s2_ hl1 hl2 hrp hcp (pp := pp) (x5 := x5) (x7 := x7) (m := m) hil (List.range other.length) x8 x9 fun j hj => List.mem_range.mp hj
    obtain ⟨b2, q2, _⟩ := s2_
    have hir : iR1 (aCons (sB dLen (aCons (sVar 1) aNil)) aNil) (sSh (some o1) (some o2) (some (ruD ru)) pp (some (prcD rp cp)) x5 (some (.int (i : Nat))) x7 x8 x9) m = .ok (wL (List.range other.length)) m := by
      rw [iR1_ok (j := (other.length : Nat)) (m' := m) (by simp [sSh, q2]) (by omega) (by omega), Int.toNat_natCast, rangeD_w]
    rw [List.all_cons]
    split at inn
    · rename_i hh
      rw [hh, Bool.true_and]
      obtain ⟨y8, y9, e⟩ := inn
      have ih := shows_out (pp := pp) (x5 := x5) (x7 := x7) (m := m) is (some (.int (i : Nat))) y8 y9 fun x hx => hi x (List.mem_cons_of_mem _ hx)
      have hb : sFor (iR1 (aCons (sB dLen (aCons (sVar 1) aNil)) aNil)) (gN 8) bSh (sSh (some o1) (some o2) (some (ruD ru)) pp (some (prcD rp cp)) x5 (some (.int (i : Nat))) x7 x8 x9) m = _ := (sFor_of hir).trans e
      have hs := fun {r : SRes} (e : forL (gN 6) (sFor (iR1 (aCons (sB dLen (aCons (sVar 1) aNil)) aNil)) (gN 8) bSh) (wL is) (sSh (some o1) (some o2) (some (ruD ru)) pp (some (prcD rp cp)) x5 (some (.int (i : Nat))) x7 y8 y9) m = r) => (forL_step (g := gN 6) (d := .int (i : Nat)) (ds := wL is) (s := (sSh (some o1) (some o2) (some (ruD ru)) pp (some (prcD rp cp)) x5 x6 x7 x8 x9)) rfl hb).trans e
      split at ih
      · rename_i h3
        rw [if_pos h3]
        obtain ⟨y6, z8, z9, e2⟩ := ih
        exact ⟨y6, z8, z9, hs e2⟩
      · rename_i h3
        rw [if_neg h3]
        exact hs ih
    · rename_i hh
      rw [if_neg (by rw [Bool.and_eq_true]; exact fun z => hh z.1)]
      exact forL_step_ret (g := gN 6) (d := .int (i : Nat)) (ds := wL is) (s := (sSh (some o1) (some o2) (some (ruD ru)) pp (some (prcD rp cp)) x5 x6 x7 x8 x9)) rfl ((sFor_of hir).trans inn)
omit hrp hcp in
theorem shows_sum {m : Mu} {pr : Option D} : ∀ (ps : List (Nat × Nat)) (acc : Int) (pp x6 x7 x8 x9 : Option D), (∀ p ∈ ps, ∃ c, cAt one other ru p = some c) →
    ∃ y6 y8, forL (gT (gsCons (gN 6) (gsCons (gN 8) gsNil))) (sSet 5 (s2 dSub (s2 dAdd (sVar 5) (sC (.int 2000000))) (sCall 3 f__law_cost (aCons (s2 dIx (sVar 0) (sVar 6)) (aCons (s2 dIx (sVar 1) (sVar 8)) (aCons (sVar 2) aNil)))))) (pL ps) (sSh (some o1) (some o2) (some (ruD ru)) pp pr (some (.int acc)) x6 x7 x8 x9) m = .nx (sSh (some o1) (some o2) (some (ruD ru)) pp pr (some (.int (acc + tw (wT one other ru) ps))) y6 x7 y8 x9) m
  | [], acc, pp, x6, x7, x8, x9, _ => ⟨x6, x8, by simp [forL, tw]⟩
  | p :: ps, acc, pp, x6, x7, x8, x9, h => by
    obtain ⟨c, hc⟩ := h p List.mem_cons_self
    obtain ⟨a, b, ea, eb, ec⟩ := cAt_rng hc
    obtain ⟨y6, y8, e⟩ := shows_sum (m := m) (pr := pr) ps (acc + 2000000 - c) pp (some (.int (p.1 : Nat))) x7 (some (.int (p.2 : Nat))) x9 fun x hx => h x (List.mem_cons_of_mem _ hx)
    refine ⟨y6, y8, ?_⟩
    have hw : gT2 (wT one other ru) p.1 p.2 = 2000000 - c := by
      rw [wT_at ea eb]
      unfold worth
      rw [ec]
    have ht : acc + tw (wT one other ru) (p :: ps) = acc + 2000000 - c + tw (wT one other ru) ps := by
      unfold tw
      simp only [List.map_cons, List.sum_cons, hw]
      omega
    have hcall := cost_call hr h1 h2 s1_ s2_ ea eb (S := sSh (some o1) (some o2) (some (ruD ru)) pp pr (some (.int acc)) (some (.int (p.1 : Nat))) x7 (some (.int (p.2 : Nat))) x9) (m := m) (k6 := 6) (k8 := 8) rfl rfl rfl rfl rfl
    have hb : sSet 5 (s2 dSub (s2 dAdd (sVar 5) (sC (.int 2000000))) (sCall 3 f__law_cost (aCons (s2 dIx (sVar 0) (sVar 6)) (aCons (s2 dIx (sVar 1) (sVar 8)) (aCons (sVar 2) aNil))))) (sSh (some o1) (some o2) (some (ruD ru)) pp pr (some (.int acc)) (some (.int (p.1 : Nat))) x7 (some (.int (p.2 : Nat))) x9) m = .nx (sSh (some o1) (some o2) (some (ruD ru)) pp pr (some (.int (acc + 2000000 - c))) (some (.int (p.1 : Nat))) x7 (some (.int (p.2 : Nat))) x9) m := by
      refine (sSet_of (d := .int (acc + 2000000 - c)) (m' := m) ?_).trans rfl
      rw [s2_of (x := .int (acc + 2000000)) (m1 := m) (by simp [sSh]) hcall, ec]
      rfl
    rw [ht]
    exact (forL_step (g := gT (gsCons (gN 6) (gsCons (gN 8) gsNil))) (d := nD p) (ds := pL ps) (s := (sSh (some o1) (some o2) (some (ruD ru)) pp pr (some (.int acc)) x6 x7 x8 x9)) (by simp [nD, sSh]) hb).trans e
theorem shows_ok {ps : List (Nat × Nat)} (hps : ∀ p ∈ ps, ∃ c, cAt one other ru p = some c) (m : Mu) : f__law_shows [o1, o2, ruD ru, .tup (pL ps), prcD rp cp] m = .ok (.bl (feasB one other ru rp cp && (bndB rp cp && decide (rp.sum + cp.sum = tw (wT one other ru) ps)))) m := by
  obtain ⟨y6, y8, e1⟩ := shows_sum hr h1 h2 s1_ s2_ hl1 hl2 (m := m) (pr := some (prcD rp cp)) ps 0 (some (.tup (pL ps))) none none none none hps
  rw [Int.zero_add] at e1
  have out := shows_out hr h1 h2 s1_ s2_ hl1 hl2 hrp hcp (pp := some (.tup (pL ps))) (x5 := some (.int (tw (wT one other ru) ps))) (x7 := none) (m := m) (List.range one.length) y6 y8 none fun i hi => List.mem_range.mp hi
  obtain ⟨b1, q1, _⟩ := s1_
  have hir : iR1 (aCons (sB dLen (aCons (sVar 0) aNil)) aNil) (sSh (some o1) (some o2) (some (ruD ru)) (some (.tup (pL ps))) (some (prcD rp cp)) (some (.int (tw (wT one other ru) ps))) y6 none y8 none) m = .ok (wL (List.range one.length)) m := by
    rw [iR1_ok (j := (one.length : Nat)) (m' := m) (by simp [sSh, q1]) (by omega) (by omega), Int.toNat_natCast, rangeD_w]
  have st1 : sSet 5 (sC (.int 0)) (sSh (some o1) (some o2) (some (ruD ru)) (some (.tup (pL ps))) (some (prcD rp cp)) none none none none none) m = .nx (sSh (some o1) (some o2) (some (ruD ru)) (some (.tup (pL ps))) (some (prcD rp cp)) (some (.int 0)) none none none none) m := by simp [sSh]
  have st2 : sFor (iVal (sVar 3)) (gT (gsCons (gN 6) (gsCons (gN 8) gsNil))) (sSet 5 (s2 dSub (s2 dAdd (sVar 5) (sC (.int 2000000))) (sCall 3 f__law_cost (aCons (s2 dIx (sVar 0) (sVar 6)) (aCons (s2 dIx (sVar 1) (sVar 8)) (aCons (sVar 2) aNil)))))) (sSh (some o1) (some o2) (some (ruD ru)) (some (.tup (pL ps))) (some (prcD rp cp)) (some (.int 0)) none none none none) m = .nx (sSh (some o1) (some o2) (some (ruD ru)) (some (.tup (pL ps))) (some (prcD rp cp)) (some (.int (tw (wT one other ru) ps))) y6 none y8 none) m := by
    rw [sFor_of (show iVal (sVar 3) (sSh (some o1) (some o2) (some (ruD ru)) (some (.tup (pL ps))) (some (prcD rp cp)) (some (.int 0)) none none none none) m = .ok (pL ps) m by simp [sSh])]
    exact e1
  have hf : feasB one other ru rp cp = ((List.range one.length).all fun i => (List.range other.length).all fun j => match cAt one other ru (i, j) with | none => true | some c => !decide (gI rp i + gI cp j < 2000000 - c)) := rfl
  refine run_ret ?_
  show b__law_shows (sSh (some o1) (some o2) (some (ruD ru)) (some (.tup (pL ps))) (some (prcD rp cp)) none none none none none) m = _
  unfold b__law_shows
  refine (sSeq_nx st1).trans ((sSeq_nx st2).trans ?_)
  rw [← hf] at out
  split at out
  · rename_i hh
    rw [hh, Bool.true_and]
    obtain ⟨z6, z8, z9, e2⟩ := out
    refine (sSeq_nx ((sFor_of hir).trans e2)).trans ?_
    have k := lcL_filterT (g := gN 10) (tt := bNot (sTst (sChain dLe dLe (sC (.int 0)) (sVar 10) (sC (.int 2000000))))) (el := sVar 10) (s := wipeD (sSh (some o1) (some o2) (some (ruD ru)) (some (.tup (pL ps))) (some (prcD rp cp)) (some (.int (tw (wT one other ru) ps))) z6 none z8 z9) [10]) (m := m) D.int (fun x => !(decide (0 ≤ x) && decide (x ≤ 2000000))) D.int (rp ++ cp) (fun x _ => ⟨_, rfl, by
      by_cases c : 0 ≤ x <;> simp [sSh, wipeD, c], fun _ => by simp [sSh, wipeD]⟩)
    have hv : iVal (s2 dAdd (s2 dIx (sVar 4) (sC (.int 0))) (s2 dIx (sVar 4) (sC (.int 1)))) (sSh (some o1) (some o2) (some (ruD ru)) (some (.tup (pL ps))) (some (prcD rp cp)) (some (.int (tw (wT one other ru) ps))) z6 none z8 z9) m = .ok (iL (rp ++ cp)) m := by
      have : rp.length + cp.length ≤ 1000000 := by omega
      simp [sSh, prcD, this]
    have lc : sLc (iVal (s2 dAdd (s2 dIx (sVar 4) (sC (.int 0))) (s2 dIx (sVar 4) (sC (.int 1))))) (gN 10) (bNot (sTst (sChain dLe dLe (sC (.int 0)) (sVar 10) (sC (.int 2000000))))) (sVar 10) [10] (sSh (some o1) (some o2) (some (ruD ru)) (some (.tup (pL ps))) (some (prcD rp cp)) (some (.int (tw (wT one other ru) ps))) z6 none z8 z9) m = .ok (.lst (iL ((rp ++ cp).filter fun x => !(decide (0 ≤ x) && decide (x ≤ 2000000))))) m := by
      rw [e_sLc, hv]
      simp only [q_bind1]
      rw [if_pos (by rw [List.length_map, List.length_append]; omega), k]
    have oks : ∀ l : List Int, okD (.lst (iL l)) = true := fun l => okD_of (okN_lst (okN_map (f := D.int) okN_int l)) (by decide)
    have hbn : decide ((rp ++ cp).filter (fun x => !(decide (0 ≤ x) && decide (x ≤ 2000000))) = []) = bndB rp cp := by
      unfold bndB
      rw [Bool.eq_iff_iff, decide_eq_true_eq, List.filter_eq_nil_iff, List.all_eq_true]
      exact ⟨fun h x hx => by simpa using h x hx, fun h x hx => by simpa using h x hx⟩
    have st7 : sSet 7 (s2 dEq (sLc (iVal (s2 dAdd (s2 dIx (sVar 4) (sC (.int 0))) (s2 dIx (sVar 4) (sC (.int 1))))) (gN 10) (bNot (sTst (sChain dLe dLe (sC (.int 0)) (sVar 10) (sC (.int 2000000))))) (sVar 10) [10]) (sLst aNil)) (sSh (some o1) (some o2) (some (ruD ru)) (some (.tup (pL ps))) (some (prcD rp cp)) (some (.int (tw (wT one other ru) ps))) z6 none z8 z9) m = .nx (sSh (some o1) (some o2) (some (ruD ru)) (some (.tup (pL ps))) (some (prcD rp cp)) (some (.int (tw (wT one other ru) ps))) z6 (some (.bl (bndB rp cp))) z8 z9) m := by
      refine (sSet_of (d := .bl (bndB rp cp)) (m' := m) ?_).trans rfl
      rw [s2_of lc (show sLst aNil _ _ = .ok (.lst (iL [])) m by simp)]
      unfold dEq
      rw [if_pos ⟨oks _, oks _⟩, ← hbn]
      simp only [q_de3, eqv_lst]
      rw [eqvL_map (f := D.int) eqv_int]
    refine (sSeq_nx st7).trans (sRet_of ?_)
    have t2 : s2 dEq (s2 dAdd (sB dSumA (aCons (s2 dIx (sVar 4) (sC (.int 0))) aNil)) (sB dSumA (aCons (s2 dIx (sVar 4) (sC (.int 1))) aNil))) (sVar 5) (sSh (some o1) (some o2) (some (ruD ru)) (some (.tup (pL ps))) (some (prcD rp cp)) (some (.int (tw (wT one other ru) ps))) z6 (some (.bl (bndB rp cp))) z8 z9) m = .ok (.bl (decide (rp.sum + cp.sum = tw (wT one other ru) ps))) m := by
      have su : ∀ l : List Int, dSumA [.lst (iL l)] m = .ok (.int l.sum) m := fun l => by
        unfold dSumA
        simp only [q_seq1, intsOf_map]
      have su : ∀ l : List Int, dSumA [.tup (iL l)] m = .ok (.int l.sum) m := fun l => by
        unfold dSumA
        simp only [q_seq3, intsOf_map]
      have s1e : sB dSumA (aCons (s2 dIx (sVar 4) (sC (.int 0))) aNil) (sSh (some o1) (some o2) (some (ruD ru)) (some (.tup (pL ps))) (some (prcD rp cp)) (some (.int (tw (wT one other ru) ps))) z6 (some (.bl (bndB rp cp))) z8 z9) m = .ok (.int rp.sum) m := by
        have := su rp
        simp [sSh, prcD, -e_dSumA, this]
      have s2e : sB dSumA (aCons (s2 dIx (sVar 4) (sC (.int 1))) aNil) (sSh (some o1) (some o2) (some (ruD ru)) (some (.tup (pL ps))) (some (prcD rp cp)) (some (.int (tw (wT one other ru) ps))) z6 (some (.bl (bndB rp cp))) z8 z9) m = .ok (.int cp.sum) m := by
        have := su cp
        simp [sSh, prcD, -e_dSumA, this]
      rw [s2_of (s2_of s1e s2e) (show sVar 5 _ _ = .ok (.int (tw (wT one other ru) ps)) m from rfl)]
      exact dEq_int _ _ _
    cases hb : bndB rp cp with
    | true =>
      rw [hb] at t2
      rw [e_sAnd, show sVar 7 _ _ = .ok (.bl true) m from rfl]
      simp only [q_bind1, t2]
      simp
    | false => simp [sSh]
  · rename_i hh
    rw [Bool.not_eq_true] at hh
    rw [hh, Bool.false_and]
    exact sSeq_ret ((sFor_of hir).trans out)
end
end Px
set_option Elab.async false
set_option linter.all false
set_option maxRecDepth 100000
set_option maxHeartbeats 1000000
namespace Px
open PySem PySem.Spec PyProof.Rows L2 Rx
theorem eqv_nD (a b : Nat × Nat) : dEqv (nD a) (nD b) = decide (a = b) := by
  unfold nD
  rw [Bool.eq_iff_iff]
  simp [Prod.ext_iff]
  omega
theorem eqv_tpD (a b : List (Nat × Nat)) : dEqv (tpD a) (tpD b) = decide (a = b) := by
  unfold tpD
  rw [eqv_tup]
  exact eqvL_map eqv_nD a b
theorem okN_nD (a : Nat × Nat) : OkN 1 (nD a) := okN_tup fun d hd => by
  simp only [List.mem_cons, List.not_mem_nil, or_false] at hd
  rcases hd with rfl | rfl <;> exact okN_int _
theorem okN_tpD (a : List (Nat × Nat)) : OkN 2 (tpD a) := okN_tup (okN_map okN_nD a)
theorem gI_sum : ∀ l : List Int, l.sum = S (gI l) (List.range l.length)
  | [] => rfl
  | x :: l => by
    rw [List.sum_cons, gI_sum l, List.length_cons, List.range_succ_eq_map]
    unfold S
    have e : gI (x :: l) ∘ Nat.succ = gI l := funext fun i => rfl
    rw [List.map_cons, List.map_map, e, List.sum_cons]
    rfl
/-- the program's own prices show it -/
theorem best_shows {one other : List Lt} {ru : Int × Int × Int} (hr : Rule ru) {ps : List (Nat × Nat)} {rp cp : List Int} (b : Best (wT one other ru) other.length ps rp cp) : (feasB one other ru rp cp && (bndB rp cp && decide (rp.sum + cp.sum = tw (wT one other ru) ps))) = true := by
  have e1 : feasB one other ru rp cp = true := by
    unfold feasB
    rw [List.all_eq_true]
    intro i hi
    rw [List.all_eq_true]
    intro j hj
    have hi := List.mem_range.mp hi
    have hj := List.mem_range.mp hj
    obtain ⟨x, ex⟩ := get_ok hi
    obtain ⟨y, ey⟩ := get_ok hj
    have hf := b.feas i (by rw [wT_len]; exact hi) j hj
    rw [wT_at ex ey] at hf
    have hc : cAt one other ru (i, j) = cost x y ru := by unfold cAt; rw [ex, ey]
    rw [hc]
    unfold worth at hf
    cases e : cost x y ru with
    | none => rfl
    | some c =>
      rw [e] at hf
      dsimp only at hf ⊢
      rw [decide_eq_false (by omega)]
      rfl
  have e2 : bndB rp cp = true := by
    unfold bndB
    rw [List.all_eq_true]
    intro x hx
    have : 0 ≤ x ∧ x ≤ 2000000 := by
      rcases List.mem_append.mp hx with hx | hx
      · obtain ⟨i, hi, rfl⟩ := List.getElem_of_mem hx
        have := b.rpos i (by rw [← b.rl]; exact hi)
        rwa [show gI rp i = rp[i] from getD_of (List.getElem?_eq_getElem hi)] at this
      · obtain ⟨i, hi, rfl⟩ := List.getElem_of_mem hx
        have := b.cpos i (by rw [← b.cl]; exact hi)
        rwa [show gI cp i = cp[i] from getD_of (List.getElem?_eq_getElem hi)] at this
    simp [this]
  have e3 : rp.sum + cp.sum = tw (wT one other ru) ps := by
    rw [b.sum, gI_sum rp, gI_sum cp, b.rl, b.cl]
  rw [e1, e2, decide_eq_true e3]
  rfl
end Px
set_option Elab.async false
set_option linter.all false
set_option maxRecDepth 100000
set_option maxHeartbeats 1000000
namespace Px
open PySem PySem.Spec PyProof.Rows L2 Rx
@[simp] theorem e_sDik (s : Sd) (m : Mu) : sDik s m = .ok (.ref m.length) (m ++ [.dik []]) := rfl
@[simp] theorem e_sKput (v o i : SEx) (s : Sd) (m : Mu) : sKput v o i s m = ((v s m).toS s fun v m => (o s m).toS s fun x m => (i s m).toS s fun j m => match dKput x j v m with
  | some m2 => .nx s m2
  | none => .stuck) := rfl
theorem e_sLc2 (src : SAr) (g : STg) (tt : SBl) (src1 : SAr) (g1 : STg) (tt1 : SBl) (el : SEx) (own own1 : List Nat) (s : Sd) (m : Mu) : sLc2 src g tt src1 g1 tt1 el own own1 s m = ((src s m).bind fun ds m1 => match lc2L g tt src1 g1 tt1 el own1 (wipeD s own) ds m1 with
  | .ok ys m2 => if ys.length ≤ 1000000 then .ok (.lst ys) m2 else .stuck
  | _ => .stuck) := rfl
theorem lc2L_ok {α : Type} {g g1 : STg} {tt tt1 : SBl} {src1 : SAr} {el : SEx} {own1 : List Nat} {s : Sd} {m : Mu} (f : α → D) (ys : α → List D) (xs : List α)
    (h : ∀ a ∈ xs, ∃ s1 es, g (f a) s = some s1 ∧ tt s1 m = .ok true m ∧ src1 s1 m = .ok es m ∧ lcL g1 tt1 el (wipeD s1 own1) es m = .ok (ys a) m) : lc2L g tt src1 g1 tt1 el own1 s (xs.map f) m = .ok (xs.flatMap ys) m := by
  induction xs with
  | nil => rfl
  | cons x xs ih =>
    obtain ⟨s1, es, e1, e2, e3, e4⟩ := h x List.mem_cons_self
    have ih := ih fun y hy => h y (List.mem_cons_of_mem _ hy)
    rw [List.map_cons, lc2L, e1]
    dsimp only
    rw [e2]
    dsimp only
    rw [e3]
    dsimp only
    rw [e4]
    dsimp only
    rw [ih]
    rfl
/-! ### the possible pairs -/
def poss (w : List (List Int)) (many : Nat) : List (Nat × Nat) := (List.range w.length).flatMap fun i => ((List.range many).filter fun j => decide (0 < gT2 w i j)).map fun j => (i, j)
theorem enum_map {α : Type} (f : α → D) : ∀ (l : List α) (n : Nat), enumD n (l.map f) = (List.range l.length).map fun i => D.tup [.int ((n + i : Nat) : Int), (l[i]?.map f).getD .non]
  | [], n => rfl
  | x :: l, n => by
    rw [List.map_cons, enumD, enum_map f l (n + 1), List.length_cons, List.range_succ_eq_map, List.map_cons, List.map_map]
    refine congr (congrArg _ ?_) ?_
    · simp
    · refine List.map_congr_left fun i _ => ?_
      simp only [Function.comp, List.getElem?_cons_succ]
      rw [show n + 1 + i = n + (i + 1) by omega]
theorem poss_len {w : List (List Int)} {many : Nat} (t : Tbl w many) : (poss w many).length ≤ 1000000 := by
  unfold poss
  rw [List.length_flatMap]
  have h1 : ∀ l : List Nat, l.length ≤ 400 → (l.map fun i => (((List.range many).filter fun j => decide (0 < gT2 w i j)).map fun j => (i, j)).length).sum ≤ l.length * 400 := fun l _ => by
    induction l with
    | nil => simp
    | cons a l ih =>
      rw [List.map_cons, List.sum_cons, List.length_cons]
      have := ih (by simp at *; omega)
      have h2 : (((List.range many).filter fun j => decide (0 < gT2 w a j)).map fun j => (a, j)).length ≤ 400 := by
        rw [List.length_map]
        have := List.length_filter_le (fun j => decide (0 < gT2 w a j)) (List.range many)
        rw [List.length_range] at this
        have := t.ml
        omega
      omega
  have := h1 (List.range w.length) (by rw [List.length_range]; exact t.len)
  rw [List.length_range] at this
  have := t.len
  omega
theorem possible_ok {w : List (List Int)} {many : Nat} (t : Tbl w many) (m : Mu) : f_possible_pairs [.lst (tL w)] m = .ok (.lst (pL (poss w many))) m := by
  refine run_ret ?_
  show b_possible_pairs [some (.lst (tL w)), none, none, none, none] m = _
  unfold b_possible_pairs
  refine sRet_of ?_
  have e3 : iEn (aCons (sVar 0) aNil) [some (.lst (tL w)), none, none, none, none] m = .ok ((List.range w.length).map fun i : Nat => D.tup [.int (i : Int), .lst (iL (w.getD i []))]) m := by
    have e : enumD 0 (tL w) = (List.range w.length).map fun i : Nat => D.tup [.int (i : Int), .lst (iL (w.getD i []))] := by
      rw [tL, enum_map]
      refine List.map_congr_left fun i hi => ?_
      obtain ⟨r, hr⟩ := get_ok (List.mem_range.mp hi)
      rw [hr, getD_of hr]
      simp
    simp [e]
  have k := lc2L_ok (g := gT (gsCons (gN 1) (gsCons (gN 2) gsNil))) (tt := bYes) (src1 := iEn (aCons (sVar 2) aNil)) (g1 := gT (gsCons (gN 3) (gsCons (gN 4) gsNil))) (tt1 := sTst (s2 dGt (sVar 4) (sC (.int 0)))) (el := sTup (aCons (sVar 1) (aCons (sVar 3) aNil))) (own1 := [3, 4]) (s := wipeD [some (.lst (tL w)), none, none, none, none] [1, 2, 3, 4]) (m := m)
    (fun i => D.tup [.int ((i : Nat) : Int), .lst (iL (w.getD i []))]) (fun i => pL (((List.range many).filter fun j => decide (0 < gT2 w i j)).map fun j => (i, j))) (List.range w.length) (fun i hi => by
      have hi := List.mem_range.mp hi
      obtain ⟨r, hr⟩ := get_ok hi
      have hl := t.rows r (List.mem_of_getElem? hr)
      refine ⟨[some (.lst (tL w)), some (.int i), some (.lst (iL r)), none, none], (List.range many).map fun j => D.tup [.int ((j : Nat) : Int), .int (gT2 w i j)], ?_, rfl, ?_, ?_⟩
      · rw [getD_of hr]; simp [wipeD]
      · have e : enumD 0 (iL r) = (List.range many).map fun j => D.tup [.int ((j : Nat) : Int), .int (gT2 w i j)] := by
          rw [iL, enum_map, hl]
          refine List.map_congr_left fun j hj => ?_
          obtain ⟨v, hv⟩ := get_ok (l := r) (by rw [hl]; exact List.mem_range.mp hj)
          have : gT2 w i j = v := by show (w.getD i []).getD j 0 = v; rw [getD_of hr, getD_of hv]
          rw [hv, this]
          simp
        simp [e]
      · have q := lcL_filterT (g := gT (gsCons (gN 3) (gsCons (gN 4) gsNil))) (tt := sTst (s2 dGt (sVar 4) (sC (.int 0)))) (el := sTup (aCons (sVar 1) (aCons (sVar 3) aNil))) (s := wipeD [some (.lst (tL w)), some (.int i), some (.lst (iL r)), none, none] [3, 4]) (m := m) (fun j => D.tup [.int ((j : Nat) : Int), .int (gT2 w i j)]) (fun j => decide (0 < gT2 w i j)) (fun j => nD (i, j)) (List.range many) (fun j hj => ⟨[some (.lst (tL w)), some (.int i), some (.lst (iL r)), some (.int j), some (.int (gT2 w i j))], by simp [wipeD], by simp, fun _ => by simp [nD]⟩)
        rw [q, pL, List.map_map]
        rfl)
  rw [e_sLc2, e3]
  simp only [q_bind1]
  rw [k]
  have e5 : ((List.range w.length).flatMap fun i => pL (((List.range many).filter fun j => decide (0 < gT2 w i j)).map fun j => (i, j))) = pL (poss w many) := by
    unfold poss
    rw [pL, List.map_flatMap]
  rw [e5]
  have hlen := poss_len t
  dsimp only
  rw [if_pos (by rw [pL, List.length_map]; exact hlen)]
theorem mem_poss {w : List (List Int)} {many : Nat} {p : Nat × Nat} : p ∈ poss w many ↔ p.1 < w.length ∧ p.2 < many ∧ 0 < gT2 w p.1 p.2 := by
  unfold poss
  simp only [List.mem_flatMap, List.mem_map, List.mem_filter, List.mem_range, decide_eq_true_eq]
  constructor
  · rintro ⟨i, hi, j, ⟨hj, hp⟩, rfl⟩
    exact ⟨hi, hj, hp⟩
  · rintro ⟨h1, h2, h3⟩
    exact ⟨p.1, h1, p.2, ⟨h2, h3⟩, rfl⟩
end Px
set_option Elab.async false
set_option linter.all false
set_option maxRecDepth 100000
set_option maxHeartbeats 1000000
namespace Px
open PySem PySem.Spec PyProof.Rows L2 Rx
def kvs (l : List Nat) : List (Key × D) := l.map fun i : Nat => (Sum.inl (i : Int), D.bl true)
theorem valG_kvs (l : List Nat) (i : Nat) : (valG (kvs l) (.inl (i : Int))).isSome = decide (i ∈ l) := by
  unfold valG
  rw [Option.isSome_map]
  induction l with
  | nil => simp [kvs]
  | cons a l ih =>
    simp only [kvs, List.map_cons, List.find?_cons] at ih ⊢
    by_cases e : a = i
    · subst e; simp
    · have : decide ((Sum.inl (a : Int) : Key) = Sum.inl (i : Int)) = false := decide_eq_false (by intro h; exact e (by injection h with h; omega))
      rw [this]
      dsimp only
      rw [ih]
      rw [Bool.eq_iff_iff]
      simp [Ne.symm e]
theorem putG_kvs {l : List Nat} {i : Nat} (h : i ∉ l) : putG (kvs l) (.inl (i : Int)) (.bl true) = kvs (l ++ [i]) := by
  unfold putG
  rw [if_neg]
  · simp [kvs]
  · intro e
    simp only [List.any_eq_true, kvs, List.mem_map, decide_eq_true_eq] at e
    obtain ⟨x, ⟨a, ha, rfl⟩, e2⟩ := e
    injection e2 with e2
    exact h (by rwa [show i = a by omega])
def bdC (R many : Nat) : D := .tup [.tup [.int 0, .int ((R : Int) - 1)], .tup [.int 0, .int ((many : Int) - 1)]]
theorem bdC_ok (R many : Nat) : BdD (bdC R many) [(0, (R : Int) - 1), (0, (many : Int) - 1)] := ⟨_, rfl, rfl, fun i hi => by
  have : i = 0 ∨ i = 1 := by simp at hi; omega
  rcases this with rfl | rfl <;> exact ⟨_, rfl, rfl⟩⟩
def bIc : SSt := (sSeq (sIf (bNot (sTst (sCall 2 f_are_numbers (aCons (sVar 6) (aCons (sVar 3) aNil))))) (sRet (sC (.bl false))) sNil) (sSeq (sAsg (sVar 6) (gT (gsCons (gN 7) (gsCons (gN 8) gsNil)))) (sSeq (sIf (bOr (sTst (s2 dEq (s2 dIx (s2 dIx (sVar 1) (sVar 7)) (sVar 8)) (sC (.int 0)))) (bOr (sTst (s2 dKin (sVar 7) (sVar 4))) (sTst (s2 dKin (sVar 8) (sVar 5))))) (sRet (sC (.bl false))) sNil) (sSeq (sKput (sC (.bl true)) (sVar 4) (sVar 7)) (sKput (sC (.bl true)) (sVar 5) (sVar 8))))))
section
variable {w : List (List Int)} {many n : Nat} {m : Mu}
abbrev sIc (th : D) (w : List (List Int)) (many n : Nat) (a6 a7 a8 : Option D) : Sd := [some th, some (.lst (tL w)), some (.int many), some (bdC w.length many), some (.ref n), some (.ref (n + 1)), a6, a7, a8]
abbrev mIc (m : Mu) (A : List (Nat × Nat)) : Mu := m ++ [.dik (kvs (A.map (·.1))), .dik (kvs (A.map (·.2)))]
theorem ic_nums {p : Nat × Nat} (h1 : p.1 < w.length) (h2 : p.2 < many) (mm : Mu) : f_are_numbers [nD p, bdC w.length many] mm = .ok (.bl true) mm := by
  rw [numbers_gen (xs := [.int p.1, .int p.2]) rfl (bdC_ok _ _) (fun d hd => by
    simp only [List.mem_cons, List.not_mem_nil, or_false] at hd
    rcases hd with rfl | rfl <;> exact .inl ⟨_, rfl⟩) (by simp)]
  have : allIsn [.int p.1, .int p.2] [(0, (w.length : Int) - 1), (0, (many : Int) - 1)] = true := by
    simp [allIsn, isn]
    omega
  rw [this]
  rfl
theorem at_w (t : Tbl w many) {p : Nat × Nat} (h1 : p.1 < w.length) (h2 : p.2 < many) (th : D) (a6 : Option D) (mm : Mu) : s2 dIx (s2 dIx (sVar 1) (sVar 7)) (sVar 8) (sIc th w many n a6 (some (.int p.1)) (some (.int p.2))) mm = .ok (.int (gT2 w p.1 p.2)) mm := by
  obtain ⟨r, hr⟩ := get_ok h1
  obtain ⟨v, hv⟩ := get_ok (l := r) (i := p.2) (by rw [t.rows r (List.mem_of_getElem? hr)]; exact h2)
  have : gT2 w p.1 p.2 = v := by show (w.getD p.1 []).getD p.2 0 = v; rw [getD_of hr, getD_of hv]
  rw [this]
  simp [hr, hv]
theorem ic_test (t : Tbl w many) {p : Nat × Nat} (h1 : p.1 < w.length) (h2 : p.2 < many) (th : D) (a6 : Option D) (A : List (Nat × Nat)) :
    bOr (sTst (s2 dEq (s2 dIx (s2 dIx (sVar 1) (sVar 7)) (sVar 8)) (sC (.int 0)))) (bOr (sTst (s2 dKin (sVar 7) (sVar 4))) (sTst (s2 dKin (sVar 8) (sVar 5)))) (sIc th w many m.length a6 (some (.int p.1)) (some (.int p.2))) (mIc m A) = .ok (decide (gT2 w p.1 p.2 = 0) || (decide (p.1 ∈ A.map (·.1)) || decide (p.2 ∈ A.map (·.2)))) (mIc m A) := by
  have t1 : sTst (s2 dEq (s2 dIx (s2 dIx (sVar 1) (sVar 7)) (sVar 8)) (sC (.int 0))) (sIc th w many m.length a6 (some (.int p.1)) (some (.int p.2))) (mIc m A) = .ok (decide (gT2 w p.1 p.2 = 0)) (mIc m A) := by
    rw [e_sTst, s2_of (at_w t h1 h2 th a6 _) (show sC (.int 0) _ _ = .ok (.int 0) (mIc m A) from rfl), dEq_int]
    rfl
  have d1 : dikOf (mIc m A) (.ref m.length) = some (m.length, kvs (A.map (·.1))) := by unfold dikOf; simp [mIc]
  have d2 : dikOf (mIc m A) (.ref (m.length + 1)) = some (m.length + 1, kvs (A.map (·.2))) := by unfold dikOf; simp [mIc]
  have k1 : dKin (.int p.1) (.ref m.length) (mIc m A) = .ok (.bl (decide (p.1 ∈ A.map (·.1)))) (mIc m A) := by
    unfold dKin; rw [d1]; simp only [Rx.keyOf]; rw [valG_kvs]
  have k2 : dKin (.int p.2) (.ref (m.length + 1)) (mIc m A) = .ok (.bl (decide (p.2 ∈ A.map (·.2)))) (mIc m A) := by
    unfold dKin; rw [d2]; simp only [Rx.keyOf]; rw [valG_kvs]
  have t2 : sTst (s2 dKin (sVar 7) (sVar 4)) (sIc th w many m.length a6 (some (.int p.1)) (some (.int p.2))) (mIc m A) = .ok (decide (p.1 ∈ A.map (·.1))) (mIc m A) := by
    rw [e_sTst, s2_of (x := .int p.1) (y := .ref m.length) rfl rfl, k1]; rfl
  have t3 : sTst (s2 dKin (sVar 8) (sVar 5)) (sIc th w many m.length a6 (some (.int p.1)) (some (.int p.2))) (mIc m A) = .ok (decide (p.2 ∈ A.map (·.2))) (mIc m A) := by
    rw [e_sTst, s2_of (x := .int p.2) (y := .ref (m.length + 1)) rfl rfl, k2]; rfl
  by_cases c1 : gT2 w p.1 p.2 = 0
  · rw [bOr_t (by rw [t1, decide_eq_true c1]), decide_eq_true c1]; rfl
  · rw [bOr_f (by rw [t1, decide_eq_false c1]), decide_eq_false c1]
    by_cases c2 : p.1 ∈ A.map (·.1)
    · rw [bOr_t (by rw [t2, decide_eq_true c2]), decide_eq_true c2]; rfl
    · rw [bOr_f (by rw [t2, decide_eq_false c2]), decide_eq_false c2, t3]; rfl
theorem ic_head (t : Tbl w many) {p : Nat × Nat} (h1 : p.1 < w.length) (h2 : p.2 < many) (th : D) (a7 a8 : Option D) (A : List (Nat × Nat)) {K : SSt} :
    sSeq (sIf (bNot (sTst (sCall 2 f_are_numbers (aCons (sVar 6) (aCons (sVar 3) aNil))))) (sRet (sC (.bl false))) sNil) (sSeq (sAsg (sVar 6) (gT (gsCons (gN 7) (gsCons (gN 8) gsNil)))) K) (sIc th w many m.length (some (nD p)) a7 a8) (mIc m A) = K (sIc th w many m.length (some (nD p)) (some (.int p.1)) (some (.int p.2))) (mIc m A) := by
  have q : sCall 2 f_are_numbers (aCons (sVar 6) (aCons (sVar 3) aNil)) (sIc th w many m.length (some (nD p)) a7 a8) (mIc m A) = .ok (.bl true) (mIc m A) := sCall_of (ds := [nD p, bdC w.length many]) rfl rfl (ic_nums h1 h2 _)
  refine (sSeq_nx (s' := sIc th w many m.length (some (nD p)) a7 a8) (m' := mIc m A) ((sIf_f (m' := mIc m A) ?_).trans rfl)).trans ?_
  · exact bNot_of (b := true) (by rw [e_sTst, q]; rfl)
  · exact (sSeq_nx (s' := sIc th w many m.length (some (nD p)) (some (.int p.1)) (some (.int p.2))) (m' := mIc m A) rfl)
theorem ic_step (t : Tbl w many) {p : Nat × Nat} (h1 : p.1 < w.length) (h2 : p.2 < many) (h3 : gT2 w p.1 p.2 ≠ 0) {A : List (Nat × Nat)} (n1 : p.1 ∉ A.map (·.1)) (n2 : p.2 ∉ A.map (·.2)) (hA : A.length ≤ 1000000) (th : D) (a7 a8 : Option D) :
    bIc (sIc th w many m.length (some (nD p)) a7 a8) (mIc m A) = .nx (sIc th w many m.length (some (nD p)) (some (.int p.1)) (some (.int p.2))) (mIc m (A ++ [p])) := by
  unfold bIc
  rw [ic_head t h1 h2]
  refine (sSeq_nx (s' := sIc th w many m.length (some (nD p)) (some (.int p.1)) (some (.int p.2))) (m' := mIc m A) ((sIf_f (m' := mIc m A) ?_).trans rfl)).trans ?_
  · rw [ic_test t h1 h2, decide_eq_false h3, decide_eq_false n1, decide_eq_false n2]; rfl
  have d1 : dikOf (mIc m A) (.ref m.length) = some (m.length, kvs (A.map (·.1))) := by unfold dikOf; simp [mIc]
  have p1 : dKput (.ref m.length) (.int p.1) (.bl true) (mIc m A) = some (m ++ [.dik (kvs ((A ++ [p]).map (·.1))), .dik (kvs (A.map (·.2)))]) := by
    unfold dKput; rw [d1]; simp only [Rx.keyOf]
    rw [if_pos (by simp [kvs]; exact hA), putG_kvs n1]
    simp [mIc]
  have d2 : dikOf (m ++ [.dik (kvs ((A ++ [p]).map (·.1))), .dik (kvs (A.map (·.2)))]) (.ref (m.length + 1)) = some (m.length + 1, kvs (A.map (·.2))) := by unfold dikOf; simp
  have p2 : dKput (.ref (m.length + 1)) (.int p.2) (.bl true) (m ++ [.dik (kvs ((A ++ [p]).map (·.1))), .dik (kvs (A.map (·.2)))]) = some (mIc m (A ++ [p])) := by
    unfold dKput; rw [d2]; simp only [Rx.keyOf]
    rw [if_pos (by simp [kvs]; exact hA), putG_kvs n2]
    simp [mIc]
  refine (sSeq_nx (s' := sIc th w many m.length (some (nD p)) (some (.int p.1)) (some (.int p.2))) (m' := m ++ [.dik (kvs ((A ++ [p]).map (·.1))), .dik (kvs (A.map (·.2)))]) ?_).trans ?_
  · rw [e_sKput]
    show (match dKput (.ref m.length) (.int p.1) (.bl true) (mIc m A) with
      | some m2 => SRes.nx _ m2
      | none => .stuck) = _
    rw [p1]
  · rw [e_sKput]
    show (match dKput (.ref (m.length + 1)) (.int p.2) (.bl true) (m ++ [.dik (kvs ((A ++ [p]).map (·.1))), .dik (kvs (A.map (·.2)))]) with
      | some m2 => SRes.nx _ m2
      | none => .stuck) = _
    rw [p2]
/-- what may stand in a choice, after A -/
def Fit (w : List (List Int)) (many : Nat) : List (Nat × Nat) → List (Nat × Nat) → Prop
  | _, [] => True
  | A, p :: ps => (p.1 < w.length ∧ p.2 < many ∧ gT2 w p.1 p.2 ≠ 0 ∧ p.1 ∉ A.map (·.1) ∧ p.2 ∉ A.map (·.2)) ∧ Fit w many (A ++ [p]) ps
theorem ic_loop (t : Tbl w many) (th : D) : ∀ (ps A : List (Nat × Nat)) (ds : List D) (a6 a7 a8 : Option D), Fit w many A ps → A.length + ps.length ≤ 1000000 →
    ∃ b6 b7 b8, forL (gN 6) bIc (pL ps ++ ds) (sIc th w many m.length a6 a7 a8) (mIc m A) = forL (gN 6) bIc ds (sIc th w many m.length b6 b7 b8) (mIc m (A ++ ps))
  | [], A, ds, a6, a7, a8, _, _ => ⟨a6, a7, a8, by simp⟩
  | p :: ps, A, ds, a6, a7, a8, h, hl => by
    obtain ⟨⟨h1, h2, h3, n1, n2⟩, h⟩ := h
    rw [List.length_cons] at hl
    obtain ⟨b6, b7, b8, e⟩ := ic_loop t th ps (A ++ [p]) ds (some (nD p)) (some (.int p.1)) (some (.int p.2)) h (by rw [List.length_append, List.length_singleton]; omega)
    refine ⟨b6, b7, b8, ?_⟩
    rw [pL, List.map_cons, List.cons_append, forL_step (s1 := sIc th w many m.length (some (nD p)) a7 a8) rfl (ic_step t h1 h2 h3 n1 n2 (by omega) th a7 a8), ← pL, e, List.append_assoc]
    rfl
theorem ic_open (ds : List D) : b_is_choice [some (.tup ds), some (.lst (tL w)), some (.int many), none, none, none, none, none, none] m = sSeq (sFor (iVal (sVar 0)) (gN 6) bIc) (sRet (sC (.bl true))) (sIc (.tup ds) w many m.length none none none) (mIc m []) := by
  unfold b_is_choice
  refine (sSeq_nx (s' := [some (.tup ds), some (.lst (tL w)), some (.int many), none, none, none, none, none, none]) (m' := m) ((sIf_f (m' := m) (by simp [isKd, kdOf])).trans rfl)).trans ?_
  refine (sSeq_nx (s' := [some (.tup ds), some (.lst (tL w)), some (.int many), some (bdC w.length many), none, none, none, none, none]) (m' := m) ?_).trans ?_
  · have e : dLen [.lst (tL w)] m = .ok (.int w.length) m := by simp
    have e2 : s2 dSub (sB dLen (aCons (sVar 1) aNil)) (sC (.int 1)) [some (.tup ds), some (.lst (tL w)), some (.int many), none, none, none, none, none, none] m = .ok (.int ((w.length : Int) - 1)) m := by simp
    have e3 : s2 dSub (sVar 2) (sC (.int 1)) [some (.tup ds), some (.lst (tL w)), some (.int many), none, none, none, none, none, none] m = .ok (.int ((many : Int) - 1)) m := by simp
    refine sSet_of ?_
    simp only [e_sTup, e_aCons, e_aNil, e2, e3, e_sC, q_bind1]
    rfl
  refine (sSeq_nx (s' := [some (.tup ds), some (.lst (tL w)), some (.int many), some (bdC w.length many), some (.ref m.length), none, none, none, none]) (m' := m ++ [.dik []]) (by simp)).trans ?_
  refine (sSeq_nx (s' := sIc (.tup ds) w many m.length none none none) (m' := mIc m []) (by simp [mIc, kvs])).trans ?_
  rfl
theorem choice_yes (hm : Wf m) (t : Tbl w many) {ps : List (Nat × Nat)} (h : Fit w many [] ps) (hl : ps.length ≤ 1000) : f_is_choice [.tup (pL ps), .lst (tL w), .int many] m = .ok (.bl true) m := by
  obtain ⟨b6, b7, b8, e⟩ := ic_loop (m := m) t (.tup (pL ps)) ps [] [] none none none h (by simp; omega)
  rw [List.append_nil] at e
  unfold f_is_choice runT
  have : Rx.run 9 b_is_choice [.tup (pL ps), .lst (tL w), .int many] m = .ok (.bl true) (mIc m ([] ++ ps)) := by
    refine run_ret ((ic_open (pL ps)).trans ?_)
    have hi : iVal (sVar 0) (sIc (.tup (pL ps)) w many m.length none none none) (mIc m []) = .ok (pL ps) (mIc m []) := by simp
    refine (sSeq_nx (s' := sIc (.tup (pL ps)) w many m.length b6 b7 b8) (m' := mIc m ([] ++ ps)) ?_).trans rfl
    rw [sFor_of hi]
    exact e.trans rfl
  rw [this]
  exact trim_app rfl hm rfl
theorem choice_false (hm : Wf m) (t : Tbl w many) {ps : List (Nat × Nat)} (h : Fit w many [] ps) (hl : ps.length ≤ 1000) {d : D} {rest : List D}
    (hd : ∀ (th : D) (a6 a7 a8 : Option D), ∃ m2, bIc (sIc th w many m.length (some d) a7 a8) (mIc m ps) = .ret (.bl false) (m ++ m2)) (th : D) (hth : th = .tup (pL ps ++ d :: rest)) : f_is_choice [th, .lst (tL w), .int many] m = .ok (.bl false) m := by
  subst hth
  obtain ⟨b6, b7, b8, e⟩ := ic_loop (m := m) t (.tup (pL ps ++ d :: rest)) ps [] (d :: rest) none none none h (by simp; omega)
  obtain ⟨m2, hd⟩ := hd (.tup (pL ps ++ d :: rest)) b6 b7 b8
  unfold f_is_choice runT
  have : Rx.run 9 b_is_choice [.tup (pL ps ++ d :: rest), .lst (tL w), .int many] m = .ok (.bl false) (m ++ m2) := by
    refine run_ret ((ic_open _).trans ?_)
    have hi : iVal (sVar 0) (sIc (.tup (pL ps ++ d :: rest)) w many m.length none none none) (mIc m []) = .ok (pL ps ++ d :: rest) (mIc m []) := by simp
    refine sSeq_ret ?_
    rw [sFor_of hi]
    rw [e, List.nil_append]
    exact forL_step_ret rfl hd
  rw [this]
  exact trim_app rfl hm rfl
theorem choice_nums (hm : Wf m) (t : Tbl w many) {ps : List (Nat × Nat)} (h : Fit w many [] ps) (hl : ps.length ≤ 1000) {d : D} {rest : List D} (hd : ∀ mm : Mu, f_are_numbers [d, bdC w.length many] mm = .ok (.bl false) mm) {th : D} (hth : th = .tup (pL ps ++ d :: rest)) : f_is_choice [th, .lst (tL w), .int many] m = .ok (.bl false) m :=
  choice_false hm t h hl (fun th a6 a7 a8 => ⟨_, by
    unfold bIc
    have q : sCall 2 f_are_numbers (aCons (sVar 6) (aCons (sVar 3) aNil)) (sIc th w many m.length (some d) a7 a8) (mIc m ps) = .ok (.bl false) (mIc m ps) := sCall_of (ds := [d, bdC w.length many]) rfl rfl (hd _)
    refine sSeq_ret ((sIf_t (m' := mIc m ps) ?_).trans rfl)
    exact bNot_of (b := false) (by rw [e_sTst, q]; rfl)⟩) th hth
theorem choice_used (hm : Wf m) (t : Tbl w many) {ps : List (Nat × Nat)} (h : Fit w many [] ps) (hl : ps.length ≤ 1000) {p : Nat × Nat} {rest : List D} (h1 : p.1 < w.length) (h2 : p.2 < many) (h3 : gT2 w p.1 p.2 = 0 ∨ p.1 ∈ ps.map (·.1) ∨ p.2 ∈ ps.map (·.2)) {th : D} (hth : th = .tup (pL ps ++ nD p :: rest)) : f_is_choice [th, .lst (tL w), .int many] m = .ok (.bl false) m :=
  choice_false hm t h hl (fun th a6 a7 a8 => ⟨_, by
    unfold bIc
    rw [ic_head t h1 h2]
    refine sSeq_ret ((sIf_t (m' := mIc m ps) ?_).trans rfl)
    rw [ic_test t h1 h2]
    rcases h3 with h3 | h3 | h3
    · rw [decide_eq_true h3, Bool.true_or]
    · rw [decide_eq_true h3, Bool.true_or, Bool.or_true]
    · rw [decide_eq_true h3, Bool.or_true, Bool.or_true]⟩) th hth
theorem choice_not (hm : Wf m) {d : D} {k : Kd} (hk : kdOf m d = some k) (hn : k ≠ .tup) : f_is_choice [d, .lst (tL w), .int many] m = .ok (.bl false) m := by
  unfold f_is_choice runT
  have : Rx.run 9 b_is_choice [d, .lst (tL w), .int many] m = .ok (.bl false) m := by
    refine run_ret ?_
    show b_is_choice [some d, some (.lst (tL w)), some (.int many), none, none, none, none, none, none] m = _
    unfold b_is_choice
    refine sSeq_ret ((sIf_t (m' := m) ?_).trans rfl)
    cases k <;> first | exact absurd rfl hn | simp [hk, isKd]
  rw [this]
  exact trim_same rfl hm rfl
end
end Px
set_option Elab.async false
set_option linter.all false
set_option maxRecDepth 100000
set_option maxHeartbeats 1000000
namespace Px
open PySem PySem.Spec PyProof.Rows L2 Rx
@[simp] theorem e_dMulT (x y : D) (m : Mu) : dMulT x y m = (match x, y with
  | .tup a, .int k => if a ≠ [] ∧ 0 ≤ k ∧ k ≤ 1000 ∧ a.length ≤ 1000 then .ok (.tup (List.replicate k.toNat a).flatten) m else .stuck
  | _, _ => .stuck) := rfl
def bnd1 : D := .tup [.int 0, .int 2000000]
def bdP (R : Nat) : D := .tup (List.replicate R [bnd1]).flatten
theorem bdP_eq (R : Nat) : bdP R = .tup (List.replicate R bnd1) := by
  unfold bdP
  congr 1
  induction R with
  | zero => rfl
  | succ n ih => rw [List.replicate_succ, List.flatten_cons, ih, List.replicate_succ]; rfl
theorem bdP_ok (R : Nat) : BdD (bdP R) (List.replicate R (0, 2000000)) := ⟨List.replicate R bnd1, by rw [bdP_eq]; rfl, by simp, fun i hi => ⟨bnd1, by
  rw [List.length_replicate] at hi
  simp [hi], by
  rw [List.length_replicate] at hi
  simp [hi, bnd1, tupOf]⟩⟩
def inP (x : Int) : Bool := decide (0 ≤ x) && decide (x ≤ 2000000)
theorem allIsn_rep : ∀ (rp : List Int), allIsn (iL rp) (List.replicate rp.length (0, 2000000)) = rp.all inP
  | [] => rfl
  | x :: rp => by
    have ih := allIsn_rep rp
    unfold allIsn at ih ⊢
    rw [List.length_cons, List.replicate_succ, iL, List.map_cons, List.zip_cons_cons, List.map_cons, List.all_cons, List.all_cons, ← ih]
    rfl
theorem numsP {m : Mu} (rp : List Int) (R : Nat) (hl : rp.length ≤ 1000) : f_are_numbers [.tup (iL rp), bdP R] m = .ok (.bl (decide (rp.length = R) && rp.all inP)) m := by
  rw [numbers_gen (xs := iL rp) rfl (bdP_ok R) (fun d hd => by
    obtain ⟨x, _, rfl⟩ := List.mem_map.mp hd
    exact .inl ⟨_, rfl⟩) (by simpa using hl), List.length_map, List.length_replicate]
  by_cases e : rp.length = R
  · rw [← e, allIsn_rep]
  · rw [decide_eq_false e]; rfl
theorem prices_two {m : Mu} {a b : D} {R many : Nat} (hR : R ≤ 1000) (hM : many ≤ 1000) {va vb : Bool} (ha : f_are_numbers [a, bdP R] m = .ok (.bl va) m) (hb : va = true → f_are_numbers [b, bdP many] m = .ok (.bl vb) m) : f_are_prices [.tup [a, b], .int R, .int many] m = .ok (.bl (va && vb)) m := by
  refine run_ret ?_
  show b_are_prices [some (.tup [a, b]), some (.int R), some (.int many), none] m = _
  unfold b_are_prices
  refine (sSeq_nx (s' := [some (.tup [a, b]), some (.int R), some (.int many), none]) (m' := m) ((sIf_f (m' := m) ?_).trans rfl)).trans ?_
  · have t2 : sTst (s2 dNe (sB dLen (aCons (sVar 0) aNil)) (sC (.int 2))) [some (.tup [a, b]), some (.int R), some (.int many), none] m = .ok false m := by
      have e : sB dLen (aCons (sVar 0) aNil) [some (.tup [a, b]), some (.int R), some (.int many), none] m = .ok (.int 2) m := by simp
      rw [e_sTst, s2_of e (show sC (.int 2) _ _ = .ok (.int 2) m from rfl), dNe_int]
      rfl
    rw [bOr_f (m' := m) (by simp [isKd, kdOf]), t2]
  refine (sSeq_nx (s' := [some (.tup [a, b]), some (.int R), some (.int many), some bnd1]) (m' := m) rfl).trans ?_
  have m1 : s2 dMulT (sTup (aCons (sVar 3) aNil)) (sVar 1) [some (.tup [a, b]), some (.int R), some (.int many), some bnd1] m = .ok (bdP R) m := by
    rw [s2_of (x := .tup [bnd1]) (y := .int R) rfl rfl]
    unfold dMulT
    dsimp only
    rw [if_pos ⟨by simp, by omega, by omega, by simp⟩]
    rfl
  have m2 : s2 dMulT (sTup (aCons (sVar 3) aNil)) (sVar 2) [some (.tup [a, b]), some (.int R), some (.int many), some bnd1] m = .ok (bdP many) m := by
    rw [s2_of (x := .tup [bnd1]) (y := .int many) rfl rfl]
    unfold dMulT
    dsimp only
    rw [if_pos ⟨by simp, by omega, by omega, by simp⟩]
    rfl
  have x0 : s2 dIx (sVar 0) (sC (.int 0)) [some (.tup [a, b]), some (.int R), some (.int many), some bnd1] m = .ok a m := by simp
  have x1 : s2 dIx (sVar 0) (sC (.int 1)) [some (.tup [a, b]), some (.int R), some (.int many), some bnd1] m = .ok b m := by simp
  have c1 : sCall 2 f_are_numbers (aCons (s2 dIx (sVar 0) (sC (.int 0))) (aCons (s2 dMulT (sTup (aCons (sVar 3) aNil)) (sVar 1)) aNil)) [some (.tup [a, b]), some (.int R), some (.int many), some bnd1] m = .ok (.bl va) m := by
    refine sCall_of (ds := [a, bdP R]) (m1 := m) ?_ rfl ha
    simp only [e_aCons, e_aNil, x0, m1, q_bind1]
  refine sRet_of ?_
  cases va with
  | false => simp only [e_sAnd, c1, q_bind1]; rfl
  | true =>
    have c2 : sCall 2 f_are_numbers (aCons (s2 dIx (sVar 0) (sC (.int 1))) (aCons (s2 dMulT (sTup (aCons (sVar 3) aNil)) (sVar 2)) aNil)) [some (.tup [a, b]), some (.int R), some (.int many), some bnd1] m = .ok (.bl vb) m := by
      refine sCall_of (ds := [b, bdP many]) (m1 := m) ?_ rfl (hb rfl)
      simp only [e_aCons, e_aNil, x1, m2, q_bind1]
    simp only [e_sAnd, c1, c2, q_bind1]
    rfl
theorem prices_not {m : Mu} {d : D} {k : Kd} (hk : kdOf m d = some k) (hn : k ≠ .tup) (a b : D) : f_are_prices [d, a, b] m = .ok (.bl false) m := by
  refine run_ret ?_
  show b_are_prices [some d, some a, some b, none] m = _
  unfold b_are_prices
  refine sSeq_ret ((sIf_t (m' := m) ?_).trans rfl)
  refine bOr_t ?_
  cases k <;> first | exact absurd rfl hn | simp [hk, isKd]
theorem prices_len {m : Mu} {ds : List D} (hn : ds.length ≠ 2) (a b : D) : f_are_prices [.tup ds, a, b] m = .ok (.bl false) m := by
  refine run_ret ?_
  show b_are_prices [some (.tup ds), some a, some b, none] m = _
  unfold b_are_prices
  refine sSeq_ret ((sIf_t (m' := m) ?_).trans rfl)
  rw [bOr_f (m' := m) (by simp [isKd, kdOf])]
  have e : sB dLen (aCons (sVar 0) aNil) [some (.tup ds), some a, some b, none] m = .ok (.int ds.length) m := by simp
  rw [e_sTst, s2_of e (show sC (.int 2) _ _ = .ok (.int 2) m from rfl), dNe_int]
  have : ¬ ((ds.length : Int) = 2) := by omega
  simp [this]
theorem bnd_all (rp cp : List Int) : (rp.all inP && cp.all inP) = bndB rp cp := by
  unfold bndB inP
  rw [List.all_append]
theorem prices_ok {m : Mu} {rp cp : List Int} (l1 : rp.length ≤ 1000) (l2 : cp.length ≤ 1000) : f_are_prices [prcD rp cp, .int rp.length, .int cp.length] m = .ok (.bl (bndB rp cp)) m := by
  have h1 := numsP (m := m) rp rp.length l1
  have h2 := numsP (m := m) cp cp.length l2
  rw [decide_eq_true rfl, Bool.true_and] at h1 h2
  rw [← bnd_all]
  exact prices_two l1 l2 h1 fun _ => h2
/-! ### settles -/
section
variable {one other : List Lt} {ru : Int × Int × Int} {s : Int × Int} {sd : D} {m : Mu} {pp pr : D}
abbrev wS (one other : List Lt) (s : Int × Int) (ru : Int × Int × Int) : List (List Int) := wT one (other.map (mv s)) ru
theorem wS_tbl (g1 : Good one) (g2 : Good other) (hr : Rule ru) : Tbl (wS one other s ru) other.length := by
  have l1 := g1.len
  have l2 := g2.len
  have := wT_tbl (one := one) (other := other.map (mv s)) hr (by omega) (by simp; omega)
  simpa using this
theorem se_open (hm : Wf m) (g1 : Good one) (g2 : Good other) (hr : Rule ru) (hs : tupOf sd = some [.int s.1, .int s.2]) (h1 : -999 ≤ s.1 ∧ s.1 ≤ 999) (h2 : -999 ≤ s.2 ∧ s.2 ≤ 999) {K : SSt} :
    sSeq (sSet 6 (sCall 4 f_asked_worths (aCons (sVar 0) (aCons (sVar 1) (aCons (sVar 2) (aCons (sVar 5) aNil)))))) K [some (.tup (lL one)), some (.tup (lL other)), some (ruD ru), some pp, some pr, some sd, none, none, none] m = K [some (.tup (lL one)), some (.tup (lL other)), some (ruD ru), some pp, some pr, some sd, some (.lst (tL (wS one other s ru))), none, none] m :=
  sSeq_nx (sSet_of (sCall_of (ds := [.tup (lL one), .tup (lL other), ruD ru, sd]) (m1 := m) rfl rfl (asked_ok hm g1 g2 hr hs h1 h2)))
theorem settles_no (hm : Wf m) (g1 : Good one) (g2 : Good other) (hr : Rule ru) (hs : tupOf sd = some [.int s.1, .int s.2]) (h1 : -999 ≤ s.1 ∧ s.1 ≤ 999) (h2 : -999 ≤ s.2 ∧ s.2 ≤ 999)
    (h : f_is_choice [pp, .lst (tL (wS one other s ru)), .int other.length] m = .ok (.bl false) m ∨ (f_is_choice [pp, .lst (tL (wS one other s ru)), .int other.length] m = .ok (.bl true) m ∧ f_are_prices [pr, .int one.length, .int other.length] m = .ok (.bl false) m)) :
    f_settles [.tup (lL one), .tup (lL other), ruD ru, pp, pr, sd] m = .ok (.bl false) m := by
  refine run_ret ?_
  show b_settles [some (.tup (lL one)), some (.tup (lL other)), some (ruD ru), some pp, some pr, some sd, none, none, none] m = _
  unfold b_settles
  rw [se_open hm g1 g2 hr hs h1 h2]
  refine sSeq_ret ((sIf_t (m' := m) ?_).trans rfl)
  have ea : ∀ x : D, (aCons (sVar 3) (aCons (sVar 6) (aCons (sB dLen (aCons (sVar 1) aNil)) aNil))) [some (.tup (lL one)), some (.tup (lL other)), some (ruD ru), some pp, some pr, some sd, some (.lst (tL (wS one other s ru))), none, none] m = .ok [pp, .lst (tL (wS one other s ru)), .int other.length] m := fun x => by simp [lL]
  have eb : (aCons (sVar 4) (aCons (sB dLen (aCons (sVar 0) aNil)) (aCons (sB dLen (aCons (sVar 1) aNil)) aNil))) [some (.tup (lL one)), some (.tup (lL other)), some (ruD ru), some pp, some pr, some sd, some (.lst (tL (wS one other s ru))), none, none] m = .ok [pr, .int one.length, .int other.length] m := by simp [lL]
  rcases h with h | ⟨h, h'⟩
  · refine bOr_t (bNot_of (b := false) ?_)
    rw [e_sTst, sCall_of (n := 3) (ea pp) rfl h]; rfl
  · rw [bOr_f (bNot_of (b := true) (by rw [e_sTst, sCall_of (n := 3) (ea pp) rfl h]; rfl))]
    refine bNot_of (b := false) ?_
    rw [e_sTst, sCall_of (n := 3) eb rfl h']; rfl
theorem feas_poss (hr : Rule ru) {rp cp : List Int} : ((poss (wT one other ru) other.length).all fun p => decide (gT2 (wT one other ru) p.1 p.2 ≤ gI rp p.1 + gI cp p.2)) = feasB one other ru rp cp := by
  rw [Bool.eq_iff_iff, List.all_eq_true]
  unfold feasB
  rw [List.all_eq_true]
  constructor
  · intro h i hi
    rw [List.all_eq_true]
    intro j hj
    have hi := List.mem_range.mp hi
    have hj := List.mem_range.mp hj
    obtain ⟨x, ex⟩ := get_ok hi
    obtain ⟨y, ey⟩ := get_ok hj
    have hc : cAt one other ru (i, j) = cost x y ru := by unfold cAt; rw [ex, ey]
    rw [hc]
    cases e : cost x y ru with
    | none => rfl
    | some c =>
      have hp : 0 < gT2 (wT one other ru) i j := by rw [wT_at ex ey]; exact (worth_pos hr).mpr ⟨c, e⟩
      have := h (i, j) (mem_poss.mpr ⟨by rw [wT_len]; exact hi, hj, hp⟩)
      have := of_decide_eq_true this
      dsimp only at this
      rw [wT_at ex ey] at this
      unfold worth at this
      rw [e] at this
      dsimp only at this ⊢
      rw [decide_eq_false (by omega)]
      rfl
  · intro h p hp
    obtain ⟨hi, hj, hp⟩ := mem_poss.mp hp
    rw [wT_len] at hi
    have h := List.all_eq_true.mp (h p.1 (List.mem_range.mpr hi)) p.2 (List.mem_range.mpr hj)
    obtain ⟨x, ex⟩ := get_ok hi
    obtain ⟨y, ey⟩ := get_ok hj
    have hc : cAt one other ru (p.1, p.2) = cost x y ru := by unfold cAt; rw [ex, ey]
    rw [hc] at h
    rw [wT_at ex ey] at hp ⊢
    obtain ⟨c, e⟩ := (worth_pos hr).mp hp
    rw [e] at h
    unfold worth
    rw [e]
    dsimp only at h ⊢
    have h : ¬ (gI rp p.1 + gI cp p.2 < 2000000 - c) := by simpa using h
    exact decide_eq_true (by omega)
theorem settles_yes (hm : Wf m) (g1 : Good one) (g2 : Good other) (hr : Rule ru) (hs : tupOf sd = some [.int s.1, .int s.2]) (h1 : -999 ≤ s.1 ∧ s.1 ≤ 999) (h2 : -999 ≤ s.2 ∧ s.2 ≤ 999)
    {ps : List (Nat × Nat)} {rp cp : List Int} (hf : Fit (wS one other s ru) other.length [] ps) (hl : ps.length ≤ 1000) (hrow : ∀ p ∈ ps, ∃ r, (wS one other s ru)[p.1]? = some r ∧ p.2 < r.length) (lr : rp.length = one.length) (lc : cp.length = other.length) :
    f_settles [.tup (lL one), .tup (lL other), ruD ru, .tup (pL ps), prcD rp cp, sd] m = .ok (.bl (bndB rp cp && (decide (rp.sum + cp.sum = tw (wS one other s ru) ps) && feasB one (other.map (mv s)) ru rp cp))) m := by
  have t := wS_tbl (s := s) g1 g2 hr
  have l1 := g1.len
  have l2 := g2.len
  have hc := choice_yes (m := m) hm t hf hl
  have hp := prices_ok (m := m) (rp := rp) (cp := cp) (by omega) (by omega)
  rw [lr, lc] at hp
  cases hb : bndB rp cp with
  | false =>
    rw [hb] at hp
    exact settles_no hm g1 g2 hr hs h1 h2 (.inr ⟨hc, hp⟩)
  | true =>
  rw [hb] at hp
  refine run_ret ?_
  show b_settles [some (.tup (lL one)), some (.tup (lL other)), some (ruD ru), some (.tup (pL ps)), some (prcD rp cp), some sd, none, none, none] m = _
  unfold b_settles
  rw [se_open hm g1 g2 hr hs h1 h2]
  generalize hS : ([some (.tup (lL one)), some (.tup (lL other)), some (ruD ru), some (.tup (pL ps)), some (prcD rp cp), some sd, some (.lst (tL (wS one other s ru))), none, none] : Sd) = S0
  have v0 : S0[0]? = some (some (.tup (lL one))) := by rw [← hS]; rfl
  have v1 : S0[1]? = some (some (.tup (lL other))) := by rw [← hS]; rfl
  have v3 : S0[3]? = some (some (.tup (pL ps))) := by rw [← hS]; rfl
  have v4 : S0[4]? = some (some (prcD rp cp)) := by rw [← hS]; rfl
  have v6 : S0[6]? = some (some (.lst (tL (wS one other s ru)))) := by rw [← hS]; rfl
  have ea : (aCons (sVar 3) (aCons (sVar 6) (aCons (sB dLen (aCons (sVar 1) aNil)) aNil))) S0 m = .ok [.tup (pL ps), .lst (tL (wS one other s ru)), .int other.length] m := by simp [v3, v6, v1, lL]
  have eb : (aCons (sVar 4) (aCons (sB dLen (aCons (sVar 0) aNil)) (aCons (sB dLen (aCons (sVar 1) aNil)) aNil))) S0 m = .ok [prcD rp cp, .int one.length, .int other.length] m := by simp [v4, v0, v1, lL]
  refine (sSeq_nx (s' := S0) (m' := m) ((sIf_f (m' := m) ?_).trans rfl)).trans ?_
  · rw [bOr_f (bNot_of (b := true) (by rw [e_sTst, sCall_of (n := 3) ea rfl hc]; rfl))]
    refine bNot_of (b := true) ?_
    rw [e_sTst, sCall_of (n := 3) eb rfl hp]; rfl
  have sum1 : sB dSumA (aCons (s2 dIx (sVar 4) (sC (.int 0))) aNil) S0 m = .ok (.int rp.sum) m := by
    have x0 : s2 dIx (sVar 4) (sC (.int 0)) S0 m = .ok (.tup (iL rp)) m := by simp [v4, prcD]
    simp only [e_sB, e_aCons, e_aNil, x0, q_bind1]
    unfold dSumA
    simp only [q_seq2, q_seq1, q_seq3, intsOf_map]
  have sum2 : sB dSumA (aCons (s2 dIx (sVar 4) (sC (.int 1))) aNil) S0 m = .ok (.int cp.sum) m := by
    have x0 : s2 dIx (sVar 4) (sC (.int 1)) S0 m = .ok (.tup (iL cp)) m := by simp [v4, prcD]
    simp only [e_sB, e_aCons, e_aNil, x0, q_bind1]
    unfold dSumA
    simp only [q_seq2, q_seq1, q_seq3, intsOf_map]
  have tot : sCall 2 f_total_worth (aCons (sVar 6) (aCons (sVar 3) aNil)) S0 m = .ok (.int (tw (wS one other s ru) ps)) m :=
    sCall_of (ds := [.lst (tL (wS one other s ru)), .tup (pL ps)]) (m1 := m) (by simp [v6, v3]) rfl (total_worth_ok rfl hrow (by omega) m)
  have sums : s2 dAdd (sB dSumA (aCons (s2 dIx (sVar 4) (sC (.int 0))) aNil)) (sB dSumA (aCons (s2 dIx (sVar 4) (sC (.int 1))) aNil)) S0 m = .ok (.int (rp.sum + cp.sum)) m := by
    rw [s2_of sum1 sum2]; rfl
  have ne : sTst (s2 dNe (s2 dAdd (sB dSumA (aCons (s2 dIx (sVar 4) (sC (.int 0))) aNil)) (sB dSumA (aCons (s2 dIx (sVar 4) (sC (.int 1))) aNil))) (sCall 2 f_total_worth (aCons (sVar 6) (aCons (sVar 3) aNil)))) S0 m = .ok (!decide (rp.sum + cp.sum = tw (wS one other s ru) ps)) m := by
    rw [e_sTst, s2_of sums tot, dNe_int]; rfl
  by_cases hsum : rp.sum + cp.sum = tw (wS one other s ru) ps
  · refine (sSeq_nx (s' := S0) (m' := m) ((sIf_f (m' := m) (by rw [ne, decide_eq_true hsum]; rfl)).trans rfl)).trans ?_
    refine sRet_of ?_
    have fe := feas_poss (one := one) (other := other.map (mv s)) hr (rp := rp) (cp := cp)
    rw [List.length_map] at fe
    rw [decide_eq_true hsum, Bool.true_and, Bool.true_and, ← fe]
    have src : iVal (sCall 1 f_possible_pairs (aCons (sVar 6) aNil)) S0 m = .ok (pL (poss (wS one other s ru) other.length)) m := by
      have : sCall 1 f_possible_pairs (aCons (sVar 6) aNil) S0 m = .ok (.lst (pL (poss (wS one other s ru) other.length))) m := sCall_of (ds := [.lst (tL (wS one other s ru))]) (m1 := m) (by simp [v6]) rfl (possible_ok t m)
      simp only [e_iVal, this, q_bind1]
      rfl
    have hlp : (poss (wS one other s ru) other.length).length ≤ 1000000 := poss_len t
    have k := lcL_mapT (g := gT (gsCons (gN 7) (gsCons (gN 8) gsNil))) (el := s2 dGe (s2 dAdd (s2 dIx (s2 dIx (sVar 4) (sC (.int 0))) (sVar 7)) (s2 dIx (s2 dIx (sVar 4) (sC (.int 1))) (sVar 8))) (s2 dIx (s2 dIx (sVar 6) (sVar 7)) (sVar 8))) (s := wipeD S0 [7, 8]) (m := m) nD (fun p => .bl (decide (gT2 (wS one other s ru) p.1 p.2 ≤ gI rp p.1 + gI cp p.2))) (poss (wS one other s ru) other.length) (fun p hp => by
      obtain ⟨hi, hj, hpos⟩ := mem_poss.mp hp
      have hi' := hi
      rw [wT_len] at hi'
      obtain ⟨r, hr1⟩ := get_ok hi
      obtain ⟨v, hv⟩ := get_ok (l := r) (i := p.2) (by rw [t.rows r (List.mem_of_getElem? hr1)]; exact hj)
      obtain ⟨a, ha⟩ := get_ok (l := rp) (i := p.1) (by rw [lr]; exact hi')
      obtain ⟨b, hb⟩ := get_ok (l := cp) (i := p.2) (by rw [lc]; exact hj)
      have e1 : gT2 (wS one other s ru) p.1 p.2 = v := by show ((wS one other s ru).getD p.1 []).getD p.2 0 = v; rw [getD_of hr1, getD_of hv]
      have e2 : gI rp p.1 = a := getD_of ha
      have e3 : gI cp p.2 = b := getD_of hb
      refine ⟨[some (.tup (lL one)), some (.tup (lL other)), some (ruD ru), some (.tup (pL ps)), some (prcD rp cp), some sd, some (.lst (tL (wS one other s ru))), some (.int p.1), some (.int p.2)], by rw [← hS]; rfl, ?_⟩
      rw [e1, e2, e3]
      have q1 : s2 dIx (s2 dIx (sVar 6) (sVar 7)) (sVar 8) [some (.tup (lL one)), some (.tup (lL other)), some (ruD ru), some (.tup (pL ps)), some (prcD rp cp), some sd, some (.lst (tL (wS one other s ru))), some (.int p.1), some (.int p.2)] m = .ok (.int v) m := by simp [hr1, hv]
      have q2 : s2 dIx (s2 dIx (sVar 4) (sC (.int 0))) (sVar 7) [some (.tup (lL one)), some (.tup (lL other)), some (ruD ru), some (.tup (pL ps)), some (prcD rp cp), some sd, some (.lst (tL (wS one other s ru))), some (.int p.1), some (.int p.2)] m = .ok (.int a) m := by simp [prcD, ha]
      have q3 : s2 dIx (s2 dIx (sVar 4) (sC (.int 1))) (sVar 8) [some (.tup (lL one)), some (.tup (lL other)), some (ruD ru), some (.tup (pL ps)), some (prcD rp cp), some sd, some (.lst (tL (wS one other s ru))), some (.int p.1), some (.int p.2)] m = .ok (.int b) m := by simp [prcD, hb]
      have q4 : s2 dAdd (s2 dIx (s2 dIx (sVar 4) (sC (.int 0))) (sVar 7)) (s2 dIx (s2 dIx (sVar 4) (sC (.int 1))) (sVar 8)) [some (.tup (lL one)), some (.tup (lL other)), some (ruD ru), some (.tup (pL ps)), some (prcD rp cp), some sd, some (.lst (tL (wS one other s ru))), some (.int p.1), some (.int p.2)] m = .ok (.int (a + b)) m := by
        rw [s2_of q2 q3]; rfl
      rw [s2_of q4 q1]
      rfl)
    have e4 : ((poss (wS one other s ru) other.length).map fun p => D.bl (decide (gT2 (wS one other s ru) p.1 p.2 ≤ gI rp p.1 + gI cp p.2))) = ((poss (wS one other s ru) other.length).map fun p => decide (gT2 (wS one other s ru) p.1 p.2 ≤ gI rp p.1 + gI cp p.2)).map .bl := by rw [List.map_map]; rfl
    simp only [e_sB, e_aCons, e_aNil, e_sLc, src, q_bind1]
    rw [if_pos (by rw [List.length_map]; exact hlp), k, e4]
    simp only [q_bind1, e_dAll, q_seq1, blsOf_map]
    rw [List.all_map]
    rfl
  · rw [decide_eq_false hsum, Bool.false_and, Bool.and_false]
    refine sSeq_ret ((sIf_t (m' := m) (by rw [ne, decide_eq_false hsum]; rfl)).trans rfl)
end
end Px
set_option Elab.async false
set_option linter.all false
set_option maxRecDepth 100000
set_option maxHeartbeats 1000000
namespace Px
open PySem PySem.Spec PyProof.Rows L2 Rx
theorem mv0 (ts : List Lt) : ts.map (mv (0, 0)) = ts := by
  have : (mv (0, 0)) = id := funext fun t => by simp [mv]
  rw [this, List.map_id]
theorem wS0 (one other : List Lt) (ru : Int × Int × Int) : wS one other (0, 0) ru = wT one other ru := by unfold wS; rw [mv0]
theorem fit_of {w : List (List Int)} {many : Nat} : ∀ (ps A : List (Nat × Nat)), (∀ p ∈ ps, p.1 < w.length ∧ p.2 < many ∧ gT2 w p.1 p.2 ≠ 0) → ((A ++ ps).map (·.1)).Nodup → ((A ++ ps).map (·.2)).Nodup → Fit w many A ps
  | [], A, _, _, _ => trivial
  | p :: ps, A, h, n1, n2 => by
    have e : A ++ p :: ps = (A ++ [p]) ++ ps := by simp
    refine ⟨⟨(h p List.mem_cons_self).1, (h p List.mem_cons_self).2.1, (h p List.mem_cons_self).2.2, fun z => ?_, fun z => ?_⟩, fit_of ps (A ++ [p]) (fun q hq => h q (List.mem_cons_of_mem _ hq)) (by rw [← e]; exact n1) (by rw [← e]; exact n2)⟩
    · rw [List.map_append, List.nodup_append] at n1
      exact n1.2.2 _ z _ (by simp) rfl
    · rw [List.map_append, List.nodup_append] at n2
      exact n2.2.2 _ z _ (by simp) rfl
section
variable {one other : List Lt} {ru : Int × Int × Int} {m : Mu}
theorem Cho.fit (hr : Rule ru) {qs : List (Nat × Nat)} (h : Cho one other ru qs) : Fit (wT one other ru) other.length [] qs := by
  refine fit_of qs [] (fun p hp => ?_) (by rw [List.nil_append]; exact h.mat.rows) (by rw [List.nil_append]; exact h.mat.cols)
  obtain ⟨c, hc⟩ := h.may p hp
  obtain ⟨a, b, e1, e2, e3⟩ := cAt_rng hc
  have h1 := (List.getElem?_eq_some_iff.mp e1).1
  have h2 := (List.getElem?_eq_some_iff.mp e2).1
  refine ⟨by rw [wT_len]; exact h1, h2, ?_⟩
  rw [wT_at e1 e2]
  have := (worth_pos hr (a := a) (b := b)).mpr ⟨c, e3⟩
  omega
theorem Cho.rowsT {qs : List (Nat × Nat)} (h : Cho one other ru qs) : ∀ p ∈ qs, ∃ r, (wT one other ru)[p.1]? = some r ∧ p.2 < r.length := fun p hp => by
  obtain ⟨h1, h2⟩ := h.mat.rng p hp
  obtain ⟨a, ea⟩ := get_ok h1
  refine ⟨other.map fun b => worth a b ru, ?_, by simpa using h2⟩
  unfold wT
  rw [List.getElem?_map, ea]
  rfl
theorem Cho.len {qs : List (Nat × Nat)} (h : Cho one other ru qs) : qs.length ≤ one.length := h.mat.len
def s00 : D := .ktup [.int 0, .int 0]
theorem settles0 (hm : Wf m) (g1 : Good one) (g2 : Good other) (hr : Rule ru) {qs : List (Nat × Nat)} {rp cp : List Int} (h : Cho one other ru qs) (lr : rp.length = one.length) (lc : cp.length = other.length) :
    f_settles [.tup (lL one), .tup (lL other), ruD ru, .tup (pL qs), prcD rp cp, s00] m = .ok (.bl (bndB rp cp && (decide (rp.sum + cp.sum = tw (wT one other ru) qs) && feasB one other ru rp cp))) m := by
  have l1 := g1.len
  have := h.len
  have k := settles_yes (s := (0, 0)) (sd := s00) hm g1 g2 hr rfl (by decide) (by decide) (ps := qs) (rp := rp) (cp := cp) (by rw [wS0]; exact h.fit hr) (by omega) (by rw [wS0]; exact h.rowsT) lr lc
  rw [wS0, mv0] at k
  exact k
theorem settles0_c (hm : Wf m) (g1 : Good one) (g2 : Good other) (hr : Rule ru) {pp pr : D} (h : f_is_choice [pp, .lst (tL (wT one other ru)), .int other.length] m = .ok (.bl false) m) :
    f_settles [.tup (lL one), .tup (lL other), ruD ru, pp, pr, s00] m = .ok (.bl false) m :=
  settles_no (s := (0, 0)) (sd := s00) hm g1 g2 hr rfl (by decide) (by decide) (.inl (by rw [wS0]; exact h))
theorem settles0_p (hm : Wf m) (g1 : Good one) (g2 : Good other) (hr : Rule ru) {qs : List (Nat × Nat)} (h : Cho one other ru qs) {pr : D} (hp : f_are_prices [pr, .int one.length, .int other.length] m = .ok (.bl false) m) :
    f_settles [.tup (lL one), .tup (lL other), ruD ru, .tup (pL qs), pr, s00] m = .ok (.bl false) m := by
  have l1 := g1.len
  have := h.len
  have t := wS_tbl (s := (0, 0)) g1 g2 hr
  exact settles_no (s := (0, 0)) (sd := s00) hm g1 g2 hr rfl (by decide) (by decide) (.inr ⟨choice_yes hm t (by rw [wS0]; exact h.fit hr) (by omega), hp⟩)
/-! ### pairs that are none -/
theorem nums_pair (w : List (List Int)) (many : Nat) {x y : Int} (h : ¬ (0 ≤ x ∧ x ≤ (w.length : Int) - 1 ∧ 0 ≤ y ∧ y ≤ (many : Int) - 1)) (mm : Mu) : f_are_numbers [.tup [.int x, .int y], bdC w.length many] mm = .ok (.bl false) mm := by
  rw [numbers_gen (xs := [.int x, .int y]) rfl (bdC_ok _ _) (fun d hd => by
    simp only [List.mem_cons, List.not_mem_nil, or_false] at hd
    rcases hd with rfl | rfl <;> exact .inl ⟨_, rfl⟩) (by simp)]
  have : allIsn [.int x, .int y] [(0, (w.length : Int) - 1), (0, (many : Int) - 1)] = false := by
    rw [← Bool.not_eq_true]
    intro e
    apply h
    simp [allIsn, isn] at e
    omega
  rw [this]
  rfl
def oddL (R many : Nat) (ps : List (Nat × Nat)) : List D := [.non, .lst (pL ps), .int 5, .tup (pL ps ++ (pL ps).take 1 ++ [nD (0, 0)]), .tup [.tup [.int R, .int 0]], .tup [.tup [.int 0, .int many]], .tup [.tup [.int 0]], .tup [.tup [.int (-1), .int 0]], .tup [.int 5], .tup [.tup [.bl true, .int 0]]]
theorem odd_no (hm : Wf m) (g1 : Good one) (g2 : Good other) (hr : Rule ru) {ps : List (Nat × Nat)} {rp cp : List Int} (b : Best (wT one other ru) other.length ps rp cp) : ∀ d ∈ oddL one.length other.length ps, f_is_choice [d, .lst (tL (wT one other ru)), .int other.length] m = .ok (.bl false) m := by
  have t : Tbl (wT one other ru) other.length := by have := wS_tbl (s := (0, 0)) g1 g2 hr; rwa [wS0] at this
  have l1 := g1.len
  have hC := b.cho hr
  have hCl := hC.len
  have wl : (wT one other ru).length = one.length := wT_len
  intro d hd
  simp only [oddL, List.mem_cons, List.not_mem_nil, or_false] at hd
  have single : ∀ (d : D), (∀ mm : Mu, f_are_numbers [d, bdC (wT one other ru).length other.length] mm = .ok (.bl false) mm) → f_is_choice [.tup [d], .lst (tL (wT one other ru)), .int other.length] m = .ok (.bl false) m := fun d h => choice_nums hm t (ps := []) trivial (by simp) (rest := []) h rfl
  rcases hd with rfl | rfl | rfl | rfl | rfl | rfl | rfl | rfl | rfl | rfl
  · exact choice_not hm (k := .non) rfl nofun
  · exact choice_not hm (k := .lst) rfl nofun
  · exact choice_not hm (k := .int) rfl nofun
  · cases ps with
    | nil =>
      by_cases hz : 0 < (wT one other ru).length ∧ 0 < other.length
      · refine choice_used hm t (ps := []) trivial (by simp) (p := (0, 0)) (rest := []) hz.1 hz.2 (.inl ?_) rfl
        have M : Mat (wT one other ru).length other.length [(0, 0)] := ⟨fun q hq => by
          simp only [List.mem_cons, List.not_mem_nil, or_false] at hq
          subst hq
          exact hz, by simp, by simp⟩
        have h1 := b.most M
        obtain ⟨r, hr1⟩ := get_ok hz.1
        have hm1 := List.mem_of_getElem? hr1
        obtain ⟨v, hv⟩ := get_ok (l := r) (i := 0) (by rw [t.rows r hm1]; exact hz.2)
        have e1 : gT2 (wT one other ru) 0 0 = v := by show ((wT one other ru).getD 0 []).getD 0 0 = v; rw [getD_of hr1, getD_of hv]
        have h2 := t.val r hm1 v (List.mem_of_getElem? hv)
        have e2 : tw (wT one other ru) [(0, 0)] = gT2 (wT one other ru) 0 0 := by unfold tw; rw [List.map_singleton, List.sum_singleton]
        have e3 : tw (wT one other ru) [] = 0 := rfl
        rw [e2, e3, e1] at h1
        show gT2 (wT one other ru) 0 0 = 0
        rw [e1]
        omega
      · refine single (nD (0, 0)) (nums_pair _ _ ?_)
        intro h
        apply hz
        dsimp only at h
        omega
    | cons p ps =>
      obtain ⟨h1, h2⟩ := hC.mat.rng p List.mem_cons_self
      exact choice_used hm t (ps := p :: ps) (hC.fit hr) (by omega) (p := p) (rest := [nD (0, 0)]) (by rw [wl]; exact h1) h2 (.inr (.inl (by simp))) (by simp)
  · exact single _ (nums_pair _ _ (by rw [wl]; omega))
  · exact single _ (nums_pair _ _ (by omega))
  · refine single _ fun mm => ?_
    rw [numbers_gen (xs := [.int 0]) rfl (bdC_ok _ _) (fun d hd => by
      simp only [List.mem_cons, List.not_mem_nil, or_false] at hd
      subst hd; exact .inl ⟨_, rfl⟩) (by simp)]
    rfl
  · exact single _ (nums_pair _ _ (by omega))
  · exact single _ fun mm => numbers_none (k := .int) rfl nofun
  · refine single _ fun mm => ?_
    rw [numbers_gen (xs := [.bl true, .int 0]) rfl (bdC_ok _ _) (fun d hd => by
      simp only [List.mem_cons, List.not_mem_nil, or_false] at hd
      rcases hd with rfl | rfl
      · exact .inr (.bl _)
      · exact .inl ⟨_, rfl⟩) (by simp)]
    rfl
def badL2 (rp cp : List Int) : List D := [.non, .tup [], .tup [.tup (iL rp)], .lst [.tup (iL rp), .tup (iL cp)], .tup [.tup (iL rp ++ [.int 0]), .tup (iL cp)], .tup [.lst (iL rp), .tup (iL cp)], .int 5]
theorem bad_no {rp cp : List Int} (lr : rp.length = one.length) (lc : cp.length = other.length) (l1 : one.length ≤ 16) (l2 : other.length ≤ 16) : ∀ d ∈ badL2 rp cp, f_are_prices [d, .int one.length, .int other.length] m = .ok (.bl false) m := by
  intro d hd
  simp only [badL2, List.mem_cons, List.not_mem_nil, or_false] at hd
  rcases hd with rfl | rfl | rfl | rfl | rfl | rfl | rfl
  · exact prices_not (k := .non) rfl nofun _ _
  · exact prices_len (by simp) _ _
  · exact prices_len (by simp) _ _
  · exact prices_not (k := .lst) rfl nofun _ _
  · have h := numsP (m := m) (rp ++ [0]) one.length (by simp; omega)
    have e : iL (rp ++ [0]) = iL rp ++ [.int 0] := by simp [iL]
    rw [e, decide_eq_false (by simp; omega), Bool.false_and] at h
    exact (prices_two (vb := true) (by omega) (by omega) h (fun h => by cases h)).trans rfl
  · exact (prices_two (vb := true) (by omega) (by omega) (numbers_none (m := m) (k := .lst) rfl nofun) (fun h => by cases h)).trans rfl
  · exact prices_not (k := .int) rfl nofun _ _
end
end Px
set_option Elab.async false
set_option linter.all false
set_option maxRecDepth 100000
set_option maxHeartbeats 1000000
namespace Px
open PySem PySem.Spec PyProof.Rows L2 Rx
/-! ### what hangs together -/
inductive Reach (g : List (List Nat)) (a : Nat) : Nat → Prop where
  | refl : Reach g a a
  | step {b c : Nat} (h : Reach g a b) (e : c ∈ g.getD b []) : Reach g a c
noncomputable def rB (g : List (List Nat)) (a b : Nat) : Bool := @decide (Reach g a b) (Classical.propDecidable _)
theorem rB_iff {g : List (List Nat)} {a b : Nat} : rB g a b = true ↔ Reach g a b := by unfold rB; simp
structure Gr2 (g : List (List Nat)) : Prop where
  len : g.length ≤ 100
  rng : ∀ l ∈ g, ∀ x ∈ l, x < g.length
  ls : ∀ l ∈ g, l.length ≤ 1000
theorem Gr2.at_ {g : List (List Nat)} (h : Gr2 g) {p : Nat} (hp : p < g.length) : ∀ x ∈ g.getD p [], x < g.length := fun x hx => by
  obtain ⟨l, hl⟩ := get_ok hp
  rw [getD_of hl] at hx
  exact h.rng l (List.mem_of_getElem? hl) x hx
def push : List Nat → List Nat → List Nat → List Nat × List Nat
  | S, W, [] => (S, W)
  | S, W, x :: l => if x ∈ S then push S W l else push (S ++ [x]) (W ++ [x]) l
theorem push_ok : ∀ (l S W : List Nat), ∃ e : List Nat, push S W l = (S ++ e, W ++ e) ∧ (∀ x ∈ e, x ∈ l) ∧ (∀ x ∈ l, x ∈ S ++ e) ∧ (S.Nodup → (S ++ e).Nodup)
  | [], S, W => ⟨[], by simp [push], by simp, by simp, by simp⟩
  | x :: l, S, W => by
    unfold push
    by_cases c : x ∈ S
    · rw [if_pos c]
      obtain ⟨e, h1, h2, h3, h4⟩ := push_ok l S W
      refine ⟨e, h1, fun y hy => List.mem_cons_of_mem _ (h2 y hy), fun y hy => ?_, h4⟩
      rcases List.mem_cons.mp hy with rfl | hy
      · exact List.mem_append_left _ c
      · exact h3 y hy
    · rw [if_neg c]
      obtain ⟨e, h1, h2, h3, h4⟩ := push_ok l (S ++ [x]) (W ++ [x])
      refine ⟨x :: e, by rw [h1]; simp, fun y hy => ?_, fun y hy => ?_, fun hn => ?_⟩
      · rcases List.mem_cons.mp hy with rfl | hy
        · exact List.mem_cons_self
        · exact List.mem_cons_of_mem _ (h2 y hy)
      · rcases List.mem_cons.mp hy with rfl | hy
        · simp
        · have := h3 y hy
          simpa using this
      · have := h4 (by
          rw [List.nodup_append]
          refine ⟨hn, by simp, fun a ha b hb hab => ?_⟩
          simp only [List.mem_cons, List.not_mem_nil, or_false] at hb
          subst hb hab
          exact c ha)
        simpa using this
structure Inv (g : List (List Nat)) (a : Nat) (S W : List Nat) : Prop where
  nd : S.Nodup
  ws : ∀ x ∈ W, x ∈ S
  st : a ∈ S
  rch : ∀ x ∈ S, Reach g a x
  cl : ∀ x ∈ S, x ∉ W → ∀ y ∈ g.getD x [], y ∈ S
  lt : ∀ x ∈ S, x < g.length
theorem Inv.len {g : List (List Nat)} {a : Nat} {S W : List Nat} (h : Inv g a S W) : S.length ≤ g.length := by
  have := List.Nodup.length_le_of_subset (l₂ := List.range g.length) h.nd (fun x hx => List.mem_range.mpr (h.lt x hx))
  simpa using this
theorem Inv.next {g : List (List Nat)} (G : Gr2 g) {a p : Nat} {S W : List Nat} (h : Inv g a S (W ++ [p])) : Inv g a (push S W (g.getD p [])).1 (push S W (g.getD p [])).2 := by
  obtain ⟨e, h1, h2, h3, h4⟩ := push_ok (g.getD p []) S W
  have hp : p ∈ S := h.ws p (by simp)
  rw [h1]
  dsimp only
  refine ⟨h4 h.nd, fun x hx => ?_, List.mem_append_left _ h.st, fun x hx => ?_, fun x hx hw y hy => ?_, fun x hx => ?_⟩
  · rcases List.mem_append.mp hx with hx | hx
    · exact List.mem_append_left _ (h.ws x (List.mem_append_left _ hx))
    · exact List.mem_append_right _ hx
  · rcases List.mem_append.mp hx with hx | hx
    · exact h.rch x hx
    · exact .step (h.rch p hp) (h2 x hx)
  · rw [List.mem_append, not_or] at hw
    rcases List.mem_append.mp hx with hx | hx
    · by_cases c : x = p
      · subst c; exact h3 y hy
      · exact List.mem_append_left _ (h.cl x hx (by rw [List.mem_append, not_or]; exact ⟨hw.1, by simpa using c⟩) y hy)
    · exact absurd hx hw.2
  · rcases List.mem_append.mp hx with hx | hx
    · exact h.lt x hx
    · exact G.at_ (h.lt p hp) x (h2 x hx)
theorem Inv.end_ {g : List (List Nat)} {a : Nat} {S : List Nat} (h : Inv g a S []) (x : Nat) : x ∈ S ↔ Reach g a x := by
  refine ⟨h.rch x, fun r => ?_⟩
  induction r with
  | refl => exact h.st
  | step r e ih => exact h.cl _ ih (by simp) _ e
/-! ### the code -/
def gD (g : List (List Nat)) : D := .lst (g.map fun l => .lst (wL l))
def bPush : SSt := sIf (sTst (s2 dKnotin (sVar 5) (sVar 2))) (sSeq (sKput (sC (.bl true)) (sVar 2) (sVar 5)) (sDo (sM1 dApp (sVar 3) (sVar 5)))) sNil
def bPop : SSt := sSeq (sSet 4 (sM0 dPop (sVar 3))) (sFor (iVal (s2 dIx (sVar 0) (sVar 4))) (gN 5) bPush)
section
variable {g : List (List Nat)} {m : Mu} {a : Nat}
abbrev sRe (g : List (List Nat)) (m : Mu) (a : Nat) (a4 a5 : Option D) : Sd := [some (gD g), some (.int a), some (.ref m.length), some (.ref (m.length + 1)), a4, a5]
abbrev mRe (m : Mu) (S W : List Nat) : Mu := m ++ [.dik (kvs S), .lst (wL W)]
theorem mRe0 (S W : List Nat) : dikOf (mRe m S W) (.ref m.length) = some (m.length, kvs S) := by unfold dikOf; simp [mRe]
theorem mRe1 (S W : List Nat) : (mRe m S W)[m.length + 1]? = some (.lst (wL W)) := by simp [mRe]
theorem push_step (S W : List Nat) (x : Nat) (hs : S.length ≤ 1000) (hw : W.length ≤ 1000) (a4 : Option D) : bPush (sRe g m a a4 (some (.int x))) (mRe m S W) = .nx (sRe g m a a4 (some (.int x))) (if x ∈ S then mRe m S W else mRe m (S ++ [x]) (W ++ [x])) := by
  have k1 : dKnotin (.int x) (.ref m.length) (mRe m S W) = .ok (.bl (!decide (x ∈ S))) (mRe m S W) := by
    unfold dKnotin; rw [mRe0]; simp only [Rx.keyOf]; rw [valG_kvs]
  have t : sTst (s2 dKnotin (sVar 5) (sVar 2)) (sRe g m a a4 (some (.int x))) (mRe m S W) = .ok (!decide (x ∈ S)) (mRe m S W) := by
    rw [e_sTst, s2_of (x := .int x) (y := .ref m.length) rfl rfl, k1]; rfl
  unfold bPush
  by_cases c : x ∈ S
  · rw [if_pos c]
    exact (sIf_f (m' := mRe m S W) (by rw [t, decide_eq_true c]; rfl)).trans rfl
  · rw [if_neg c]
    refine (sIf_t (m' := mRe m S W) (by rw [t, decide_eq_false c]; rfl)).trans ?_
    have p1 : dKput (.ref m.length) (.int x) (.bl true) (mRe m S W) = some (mRe m (S ++ [x]) W) := by
      unfold dKput; rw [mRe0]; simp only [Rx.keyOf]
      rw [if_pos (by simp [kvs]; omega), putG_kvs c]
      simp [mRe]
    refine (sSeq_nx (s' := sRe g m a a4 (some (.int x))) (m' := mRe m (S ++ [x]) W) ?_).trans ?_
    · rw [e_sKput]
      show (match dKput (.ref m.length) (.int x) (.bl true) (mRe m S W) with
        | some m2 => SRes.nx _ m2
        | none => .stuck) = _
      rw [p1]
    · have p2 : dApp (.ref (m.length + 1)) (.int x) (mRe m (S ++ [x]) W) = .ok .non (mRe m (S ++ [x]) (W ++ [x])) := by
        unfold dApp
        have hh : hOf (mRe m (S ++ [x]) W) (.ref (m.length + 1)) = some (m.length + 1, wL W) := by
          unfold hOf
          dsimp only
          rw [mRe1]
        rw [hh]
        dsimp only
        rw [if_pos (by simp; omega)]
        simp [mRe]
      refine sDo_of (d := .non) ?_
      rw [e_sM1, show sVar 3 (sRe g m a a4 (some (.int x))) (mRe m (S ++ [x]) W) = .ok (.ref (m.length + 1)) (mRe m (S ++ [x]) W) from rfl]
      simp only [q_bind1]
      rw [if_pos (by unfold isL; rw [q_seqR (mRe1 _ _)]), show sVar 5 (sRe g m a a4 (some (.int x))) (mRe m (S ++ [x]) W) = .ok (.int x) (mRe m (S ++ [x]) W) from rfl]
      simp only [q_bind1]
      exact p2
theorem push_loop : ∀ (l S W : List Nat) (a4 a5 : Option D), S.length + l.length ≤ 1000 → W.length + l.length ≤ 1000 → ∃ b5, forL (gN 5) bPush (wL l) (sRe g m a a4 a5) (mRe m S W) = .nx (sRe g m a a4 b5) (mRe m (push S W l).1 (push S W l).2)
  | [], S, W, a4, a5, _, _ => ⟨a5, rfl⟩
  | x :: l, S, W, a4, a5, hs, hw => by
    rw [List.length_cons] at hs hw
    have st := push_step (g := g) (m := m) (a := a) S W x (by omega) (by omega) a4
    unfold push
    by_cases c : x ∈ S
    · rw [if_pos c] at st ⊢
      obtain ⟨b5, e⟩ := push_loop l S W a4 (some (.int x)) (by omega) (by omega)
      exact ⟨b5, (forL_step rfl st).trans e⟩
    · rw [if_neg c] at st ⊢
      obtain ⟨b5, e⟩ := push_loop l (S ++ [x]) (W ++ [x]) a4 (some (.int x)) (by simp; omega) (by simp; omega)
      exact ⟨b5, (forL_step rfl st).trans e⟩
theorem pop_ok (G : Gr2 g) {S W : List Nat} {p : Nat} (hp : p < g.length) (hl : (g.getD p []).length ≤ 400) (hs : S.length ≤ 400) (hw : W.length ≤ 400) (a4 a5 : Option D) : ∃ b4 b5, bPop (sRe g m a a4 a5) (mRe m S (W ++ [p])) = .nx (sRe g m a b4 b5) (mRe m (push S W (g.getD p [])).1 (push S W (g.getD p [])).2) := by
  obtain ⟨b5, e⟩ := push_loop (g := g) (m := m) (a := a) (g.getD p []) S W (some (.int p)) a5 (by omega) (by omega)
  refine ⟨some (.int p), b5, ?_⟩
  unfold bPop
  have pp : dPop (.ref (m.length + 1)) (mRe m S (W ++ [p])) = .ok (.int p) (mRe m S W) := by
    unfold dPop
    have hh : hOf (mRe m S (W ++ [p])) (.ref (m.length + 1)) = some (m.length + 1, wL (W ++ [p])) := by
      unfold hOf
      dsimp only
      rw [mRe1]
    rw [hh]
    dsimp only
    have e1 : (wL (W ++ [p]))[(wL (W ++ [p])).length - 1]? = some (.int p) := by simp
    rw [e1]
    dsimp only
    have e2 : (wL (W ++ [p])).dropLast = wL W := by rw [wL, List.map_append, List.map_singleton, List.dropLast_concat]
    rw [e2]
    simp [mRe]
  refine (sSeq_nx (s' := sRe g m a (some (.int p)) a5) (m' := mRe m S W) ?_).trans ?_
  · refine (sSet_of (d := .int p) (m' := mRe m S W) ?_).trans rfl
    rw [e_sM0, show sVar 3 (sRe g m a a4 a5) (mRe m S (W ++ [p])) = .ok (.ref (m.length + 1)) (mRe m S (W ++ [p])) from rfl]
    simp only [q_bind1]
    rw [if_pos (by unfold isL; rw [q_seqR (mRe1 _ _)])]
    exact pp
  · obtain ⟨l, hl⟩ := get_ok hp
    have hi : iVal (s2 dIx (sVar 0) (sVar 4)) (sRe g m a (some (.int p)) a5) (mRe m S W) = .ok (wL (g.getD p [])) (mRe m S W) := by
      rw [getD_of hl]
      have ix : s2 dIx (sVar 0) (sVar 4) (sRe g m a (some (.int p)) a5) (mRe m S W) = .ok (.lst (wL l)) (mRe m S W) := by
        rw [s2_of (x := gD g) (y := .int p) (m1 := mRe m S W) (m2 := mRe m S W) rfl rfl]
        unfold gD
        simp [hl]
      rw [e_iVal, ix]
      rfl
    rw [sFor_of hi]
    exact e
theorem dfs_loop (G : Gr2 g) (hls : ∀ p < g.length, (g.getD p []).length ≤ 400) : ∀ (n : Nat) (S W : List Nat) (a4 a5 : Option D), Inv g a S W → 2 * (g.length - S.length) + W.length < n → W.length ≤ S.length →
    ∃ S' b4 b5, whL (sTru (sVar 3)) bPop n (sRe g m a a4 a5) (mRe m S W) = .nx (sRe g m a b4 b5) (mRe m S' []) ∧ Inv g a S' []
  | 0, S, W, a4, a5, h, hn, _ => by omega
  | n + 1, S, W, a4, a5, h, hn, hws => by
    have t : sTru (sVar 3) (sRe g m a a4 a5) (mRe m S W) = .ok (!(wL W).isEmpty) (mRe m S W) := by
      rw [e_sTru, show sVar 3 (sRe g m a a4 a5) (mRe m S W) = .ok (.ref (m.length + 1)) (mRe m S W) from rfl]
      simp only [q_bind1, q_seqR (mRe1 _ _)]
    have hsl := h.len
    have hgl := G.len
    rcases List.eq_nil_or_concat W with rfl | ⟨W', p, rfl⟩
    · exact ⟨S, a4, a5, whL_end (by rw [t]; rfl), h⟩
    · rw [List.concat_eq_append] at h hn hws t ⊢
      have hp : p ∈ S := h.ws p (by simp)
      rw [List.length_append, List.length_singleton] at hn hws
      obtain ⟨e, h1, h2, h3, h4⟩ := push_ok (g.getD p []) S W'
      obtain ⟨b4, b5, e1⟩ := pop_ok (m := m) (a := a) G (S := S) (W := W') (h.lt p hp) (hls p (h.lt p hp)) (by omega) (by omega) a4 a5
      have hn' := h.next G
      rw [h1] at e1 hn'
      dsimp only at e1 hn'
      have hl2 := hn'.len
      rw [List.length_append] at hl2
      obtain ⟨S', c4, c5, e2, h5⟩ := dfs_loop G hls n (S ++ e) (W' ++ e) b4 b5 hn' (by rw [List.length_append, List.length_append]; omega) (by rw [List.length_append, List.length_append]; omega)
      refine ⟨S', c4, c5, (whL_step (m1 := mRe m S (W' ++ [p])) (by rw [t]; simp) e1).trans e2, h5⟩
theorem reached_ok (G : Gr2 g) (hls : ∀ p < g.length, (g.getD p []).length ≤ 400) (ha : a < g.length) : ∃ S : List Nat, f_reached [gD g, .int a] m = .ok (.ref m.length) (mRe m S []) ∧ S.Nodup ∧ (∀ x, x ∈ S ↔ Reach g a x) ∧ ∀ x ∈ S, x < g.length := by
  have h0 : Inv g a [a] [a] := ⟨by simp, by simp, by simp, fun x hx => by simp at hx; subst hx; exact .refl, fun x hx hw => absurd hx hw, fun x hx => by simp at hx; subst hx; exact ha⟩
  have hgl := G.len
  obtain ⟨S, b4, b5, e, h⟩ := dfs_loop (m := m) G hls 1000 [a] [a] none none h0 (by simp; omega) (by simp)
  refine ⟨S, run_ret ?_, h.nd, h.end_, h.lt⟩
  show b_reached [some (gD g), some (.int a), none, none, none, none] m = _
  unfold b_reached
  refine (sSeq_nx (s' := [some (gD g), some (.int a), some (.ref m.length), none, none, none]) (m' := m ++ [.dik (kvs [a])]) ?_).trans ?_
  · refine (sSet_of (d := .ref m.length) (m' := m ++ [.dik (kvs [a])]) ?_).trans rfl
    unfold sDis1
    rw [show sVar 1 [some (gD g), some (.int a), none, none, none, none] (m ++ [MO.dik []]) = .ok (.int a) (m ++ [MO.dik []]) from rfl]
    simp only [q_bind1, e_sC]
    simp [Rx.keyOf, kvs]
  refine (sSeq_nx (s' := sRe g m a none none) (m' := mRe m [a] [a]) ?_).trans ?_
  · refine (sSet_of (d := .ref (m.length + 1)) (m' := mRe m [a] [a]) ?_).trans rfl
    rw [e_sNew, show aCons (sVar 1) aNil [some (gD g), some (.int a), some (.ref m.length), none, none, none] (m ++ [.dik (kvs [a])]) = .ok [.int a] (m ++ [.dik (kvs [a])]) from rfl]
    simp [mRe]
  refine (sSeq_nx (s' := sRe g m a b4 b5) (m' := mRe m S []) ?_).trans rfl
  exact e
end
end Px
set_option Elab.async false
set_option linter.all false
set_option maxRecDepth 100000
set_option maxHeartbeats 1000000
namespace Px
open PySem PySem.Spec PyProof.Rows L2 Rx
theorem bTrim_of {f : SBl} {s : Sd} {m l : Mu} {b : Bool} (hm : Wf m) (h : f s m = .ok b (m ++ l)) : bTrim f s m = .ok b m := by
  unfold bTrim trimB
  rw [h]
  have : List.take m.length (m ++ l) = m := by simp
  have h' : (m.all (MO.undr m.length)) = true := hm
  dsimp only
  rw [this, if_pos ⟨h', by simp⟩]
theorem eTrim_of {f : SEx} {s : Sd} {m l : Mu} {d : D} (hm : Wf m) (h : f s m = .ok d (m ++ l)) (hd : D.undr m.length d = true) : eTrim f s m = .ok d m := by
  unfold eTrim
  rw [h]
  have : List.take m.length (m ++ l) = m := by simp
  have h' : (m.all (MO.undr m.length)) = true := hm
  dsimp only
  rw [this, if_pos ⟨hd, h', by simp⟩]
/-! ### what hangs with one, in order -/
noncomputable def grp (g : List (List Nat)) (i : Nat) : List Nat := (List.range g.length).filter (rB g i)
theorem mem_grp {g : List (List Nat)} {i x : Nat} : x ∈ grp g i ↔ x < g.length ∧ Reach g i x := by
  unfold grp
  rw [List.mem_filter, List.mem_range, rB_iff]
theorem range_sorted : ∀ n : Nat, (List.range n).Pairwise (· < ·) := fun n => List.pairwise_lt_range
theorem grp_sorted (g : List (List Nat)) (i : Nat) : (grp g i).Pairwise (· < ·) := (range_sorted _).sublist List.filter_sublist
theorem sortI_grp {g : List (List Nat)} {i : Nat} {S : List Nat} (hn : S.Nodup) (hs : ∀ x, x ∈ S ↔ Reach g i x) (hl : ∀ x ∈ S, x < g.length) : sortI (S.map fun x : Nat => (x : Int)) = (grp g i).map fun x : Nat => (x : Int) := by
  refine (sortI_eq ?_ ?_).symm
  · refine List.Perm.map _ ?_
    rw [List.perm_ext_iff_of_nodup ((grp_sorted g i).imp fun h => by omega) hn]
    intro x
    rw [mem_grp, hs]
    exact ⟨fun h => h.2, fun h => ⟨hl x ((hs x).mpr h), h⟩⟩
  · rw [List.pairwise_map]
    exact (grp_sorted g i).imp fun h => by omega
theorem intKeys_kvs (S : List Nat) : intKeys (kvs S) = some (S.map fun x : Nat => (x : Int)) := by
  induction S with
  | nil => rfl
  | cons a S ih =>
    have e : kvs (a :: S) = (Sum.inl (a : Int), D.bl true) :: kvs S := rfl
    rw [e, intKeys, ih]
    rfl
theorem sorted_ok {g : List (List Nat)} {i : Nat} {m : Mu} {s : Sd} {f1 f2 : SEx} (hm : Wf m) (G : Gr2 g) (h60 : g.length < 60) (hls : ∀ p < g.length, (g.getD p []).length ≤ 400) (hi : i < g.length) (e1 : f1 s m = .ok (gD g) m) (e2 : f2 s m = .ok (.int i) m) :
    eTrim (sB dSortK (aCons (sCall 2 f_reached (aCons f1 (aCons f2 aNil))) aNil)) s m = .ok (.lst (wL (grp g i))) m := by
  obtain ⟨S, e, hn, hs, hl⟩ := reached_ok (m := m) G hls hi
  refine eTrim_of (l := [.dik (kvs S), .lst (wL [])]) hm ?_ ?_
  · have ec : sCall 2 f_reached (aCons f1 (aCons f2 aNil)) s m = .ok (.ref m.length) (mRe m S []) := sCall_of (ds := [gD g, .int i]) (m1 := m) (by simp only [e_aCons, e_aNil, e1, e2, q_bind1]) rfl e
    simp only [e_sB, e_aCons, e_aNil, ec, q_bind1]
    unfold dSortK
    dsimp only
    rw [mRe0]
    dsimp only
    rw [intKeys_kvs]
    dsimp only
    have hsl : S.length ≤ g.length := by
      have := List.Nodup.length_le_of_subset (l₂ := List.range g.length) hn (fun x hx => List.mem_range.mpr (hl x hx))
      simpa using this
    rw [if_pos (by rw [List.length_map]; omega), sortI_grp hn hs hl, wL, List.map_map]
    rfl
  · show D.undr.all _ _ = true
    exact undr_wL _ _
/-! ### near lights -/
def nr (a b : Lt) (n : Int) : Bool := decide ((a.1 - b.1) * (a.1 - b.1) + (a.2.1 - b.2.1) * (a.2.1 - b.2.1) ≤ n * n)
theorem near_ok {a b : Lt} (ha : Small a) (hb : Small b) {n : Int} (h0 : 0 ≤ n) (h1 : n ≤ 1000) (m : Mu) : f_are_near [lD a, lD b, .int n] m = .ok (.bl (nr a b n)) m := by
  obtain ⟨a1, a2, a3, a4, _, _⟩ := ha
  obtain ⟨b1, b2, b3, b4, _, _⟩ := hb
  refine run_ret ?_
  show b_are_near [some (lD a), some (lD b), some (.int n), none, none] m = _
  unfold b_are_near
  have mul : ∀ (i : Int), -10000 ≤ i → i ≤ 10000 → dMul (.int i) (.int i) m = .ok (.int (i * i)) m := fun i h1 h2 => by
    unfold dMul
    dsimp only
    rw [if_pos (.inl ⟨by omega, by omega⟩)]
  refine (sSeq_nx (s' := [some (lD a), some (lD b), some (.int n), some (.int (a.1 - b.1)), none]) (m' := m) (by simp [lD])).trans ?_
  refine (sSeq_nx (s' := [some (lD a), some (lD b), some (.int n), some (.int (a.1 - b.1)), some (.int (a.2.1 - b.2.1))]) (m' := m) (by simp [lD])).trans ?_
  refine sRet_of ?_
  have q1 : s2 dMul (sVar 3) (sVar 3) [some (lD a), some (lD b), some (.int n), some (.int (a.1 - b.1)), some (.int (a.2.1 - b.2.1))] m = .ok (.int ((a.1 - b.1) * (a.1 - b.1))) m := (s2_of rfl rfl).trans (mul _ (by omega) (by omega))
  have q2 : s2 dMul (sVar 4) (sVar 4) [some (lD a), some (lD b), some (.int n), some (.int (a.1 - b.1)), some (.int (a.2.1 - b.2.1))] m = .ok (.int ((a.2.1 - b.2.1) * (a.2.1 - b.2.1))) m := (s2_of rfl rfl).trans (mul _ (by omega) (by omega))
  have q3 : s2 dMul (sVar 2) (sVar 2) [some (lD a), some (lD b), some (.int n), some (.int (a.1 - b.1)), some (.int (a.2.1 - b.2.1))] m = .ok (.int (n * n)) m := (s2_of rfl rfl).trans (mul _ (by omega) (by omega))
  rw [s2_of ((s2_of q1 q2).trans rfl) q3]
  rfl
def lt0 : Lt := (0, 0, 0)
def nG (ts : List Lt) (n : Int) : List (List Nat) := ts.map fun a => (List.range ts.length).filter fun j => nr a (ts.getD j lt0) n
theorem nG_len (ts : List Lt) (n : Int) : (nG ts n).length = ts.length := by simp [nG]
theorem nG_gr {ts : List Lt} (n : Int) (h : ts.length ≤ 50) : Gr2 (nG ts n) := by
  refine ⟨by rw [nG_len]; omega, fun l hl x hx => ?_, fun l hl => ?_⟩
  · obtain ⟨a, _, rfl⟩ := List.mem_map.mp hl
    rw [nG_len]
    exact List.mem_range.mp (List.mem_filter.mp hx).1
  · obtain ⟨a, _, rfl⟩ := List.mem_map.mp hl
    have := List.length_filter_le (fun j => nr a (ts.getD j lt0) n) (List.range ts.length)
    rw [List.length_range] at this
    omega
theorem nG_ls {ts : List Lt} (n : Int) (h : ts.length ≤ 50) : ∀ p < (nG ts n).length, ((nG ts n).getD p []).length ≤ 400 := fun p hp => by
  obtain ⟨l, hl⟩ := get_ok hp
  rw [getD_of hl]
  obtain ⟨a, _, rfl⟩ := List.mem_map.mp (List.mem_of_getElem? hl)
  have := List.length_filter_le (fun j => nr a (ts.getD j lt0) n) (List.range ts.length)
  rw [List.length_range] at this
  omega
noncomputable def grps (g : List (List Nat)) : List (List Nat) := ((List.range g.length).filter fun i => decide ((grp g i).head? = some i)).map (grp g)
theorem head_dIx {g : List (List Nat)} {i : Nat} (hi : i < g.length) (m : Mu) : ∃ h : Nat, dIx (.tup (wL (grp g i))) (.int 0) m = .ok (.int h) m ∧ (grp g i).head? = some h := by
  have hm : i ∈ grp g i := mem_grp.mpr ⟨hi, .refl⟩
  cases e : grp g i with
  | nil => rw [e] at hm; cases hm
  | cons a l =>
    refine ⟨a, ?_, rfl⟩
    unfold dIx
    simp
section
variable {ts : List Lt} {n : Int} {m : Mu}
abbrev sNg (ts : List Lt) (n : Int) (a2 a3 a4 a5 a6 a7 : Option D) : Sd := [some (.tup (lL ts)), some (.int n), a2, a3, a4, a5, a6, a7]
def cIn : SEx := sLc (iEn (aCons (sVar 0) aNil)) (gT (gsCons (gN 5) (gsCons (gN 7) gsNil))) (sTst (sCall 3 f_are_near (aCons (sVar 4) (aCons (sVar 7) (aCons (sVar 1) aNil))))) (sVar 5) [5, 7]
theorem enum_ts (ts : List Lt) : enumD 0 (lL ts) = (List.range ts.length).map fun i : Nat => D.tup [.int (i : Int), lD (ts.getD i lt0)] := by
  rw [lL, enum_map]
  refine List.map_congr_left fun i hi => ?_
  obtain ⟨r, hr⟩ := get_ok (List.mem_range.mp hi)
  rw [hr, getD_of hr]
  simp
theorem in_ok (hs : ∀ t ∈ ts, Small t) (h0 : 0 ≤ n) (h1 : n ≤ 1000) (hl : ts.length ≤ 50) {a : Lt} (ha : Small a) (a2 a3 a5 a6 a7 : Option D) : cIn (sNg ts n a2 a3 (some (lD a)) a5 a6 a7) m = .ok (.lst (wL ((List.range ts.length).filter fun j => nr a (ts.getD j lt0) n))) m := by
  have e3 : iEn (aCons (sVar 0) aNil) (sNg ts n a2 a3 (some (lD a)) a5 a6 a7) m = .ok ((List.range ts.length).map fun i : Nat => D.tup [.int (i : Int), lD (ts.getD i lt0)]) m := by
    rw [← enum_ts]
    simp
  have q := lcL_filterT (g := gT (gsCons (gN 5) (gsCons (gN 7) gsNil))) (tt := sTst (sCall 3 f_are_near (aCons (sVar 4) (aCons (sVar 7) (aCons (sVar 1) aNil))))) (el := sVar 5) (s := wipeD (sNg ts n a2 a3 (some (lD a)) a5 a6 a7) [5, 7]) (m := m) (fun i : Nat => D.tup [.int (i : Int), lD (ts.getD i lt0)]) (fun j => nr a (ts.getD j lt0) n) (fun i : Nat => .int (i : Int)) (List.range ts.length) (fun j hj => by
    obtain ⟨b, hb⟩ := get_ok (List.mem_range.mp hj)
    rw [getD_of hb]
    refine ⟨sNg ts n a2 a3 (some (lD a)) (some (.int j)) a6 (some (lD b)), by simp [wipeD], sTst_of (sCall_of (ds := [lD a, lD b, .int n]) (m1 := m) rfl rfl (near_ok ha (hs b (List.mem_of_getElem? hb)) h0 h1 m)), fun _ => rfl⟩)
  unfold cIn
  rw [e_sLc, e3]
  simp only [q_bind1]
  rw [if_pos (by simp; omega), q]
theorem near_groups_ok (hm : Wf m) (hs : ∀ t ∈ ts, Small t) (h0 : 0 ≤ n) (h1 : n ≤ 1000) (hl : ts.length ≤ 50) : f_near_groups [.tup (lL ts), .int n] m = .ok (.lst ((grps (nG ts n)).map fun l => .tup (wL l))) m := by
  refine run_ret ?_
  show b_near_groups (sNg ts n none none none none none none) m = _
  have hN := nG_len ts n
  unfold b_near_groups
  refine (sSeq_nx (s' := sNg ts n (some (gD (nG ts n))) none none none none none) (m' := m) ?_).trans ?_
  · refine (sSet_of (d := gD (nG ts n)) (m' := m) ?_).trans rfl
    have e3 : iVal (sVar 0) (sNg ts n none none none none none none) m = .ok (lL ts) m := by simp
    have q := lcL_mapT (g := gN 4) (el := cIn) (s := wipeD (sNg ts n none none none none none none) [4]) (m := m) lD (fun a => .lst (wL ((List.range ts.length).filter fun j => nr a (ts.getD j lt0) n))) ts (fun a ha => ⟨sNg ts n none none (some (lD a)) none none none, rfl, in_ok hs h0 h1 hl (hs a ha) none none none none none⟩)
    rw [e_sLc, e3]
    simp only [q_bind1]
    rw [if_pos (by simp [lL]; omega)]
    unfold cIn at q
    rw [q]
    unfold gD nG
    rw [List.map_map]
    rfl
  refine (sSeq_nx (s' := sNg ts n (some (gD (nG ts n))) (some (.lst ((List.range (nG ts n).length).map fun i => .tup (wL (grp (nG ts n) i))))) none none none none) (m' := m) ?_).trans ?_
  · refine (sSet_of (d := .lst ((List.range (nG ts n).length).map fun i => .tup (wL (grp (nG ts n) i)))) (m' := m) ?_).trans rfl
    have e3 : iR1 (aCons (sB dLen (aCons (sVar 0) aNil)) aNil) (sNg ts n (some (gD (nG ts n))) none none none none none) m = .ok ((List.range (nG ts n).length).map fun i : Nat => D.int (i : Int)) m := by
      rw [iR1_ok (j := (ts.length : Int)) (m' := m) (by simp [lL]) (by omega) (by omega), Int.toNat_natCast, rangeD_w, hN]
    have q := lcL_mapT (g := gN 5) (el := sB dTuple (aCons (eTrim (sB dSortK (aCons (sCall 2 f_reached (aCons (sVar 2) (aCons (sVar 5) aNil))) aNil))) aNil)) (s := wipeD (sNg ts n (some (gD (nG ts n))) none none none none none) [5]) (m := m) (fun i : Nat => D.int (i : Int)) (fun i => .tup (wL (grp (nG ts n) i))) (List.range (nG ts n).length) (fun i hi => ⟨sNg ts n (some (gD (nG ts n))) none none (some (.int i)) none none, rfl, by
      have k := sorted_ok (f1 := sVar 2) (f2 := sVar 5) (s := sNg ts n (some (gD (nG ts n))) none none (some (.int i)) none none) hm (nG_gr n hl) (by omega) (nG_ls n hl) (List.mem_range.mp hi) rfl rfl
      simp only [e_sB, e_aCons, e_aNil, k, q_bind1, e_dTuple, q_seq1]⟩)
    rw [e_sLc, e3]
    simp only [q_bind1]
    rw [if_pos (by simp; omega), q]
  refine sRet_of ?_
  have e4 : enumD 0 ((List.range (nG ts n).length).map fun i => D.tup (wL (grp (nG ts n) i))) = (List.range (nG ts n).length).map fun i : Nat => D.tup [.int (i : Int), .tup (wL (grp (nG ts n) i))] := by
    rw [enum_map, List.length_range]
    refine List.map_congr_left fun i hi => ?_
    rw [List.getElem?_range (List.mem_range.mp hi)]
    simp
  have e3 : iEn (aCons (sVar 3) aNil) (sNg ts n (some (gD (nG ts n))) (some (.lst ((List.range (nG ts n).length).map fun i => .tup (wL (grp (nG ts n) i))))) none none none none) m = .ok ((List.range (nG ts n).length).map fun i : Nat => D.tup [.int (i : Int), .tup (wL (grp (nG ts n) i))]) m := by
    rw [← e4]
    simp
  have q := lcL_filterT (g := gT (gsCons (gN 5) (gsCons (gN 6) gsNil))) (tt := sTst (s2 dEq (s2 dIx (sVar 6) (sC (.int 0))) (sVar 5))) (el := sVar 6) (s := wipeD (sNg ts n (some (gD (nG ts n))) (some (.lst ((List.range (nG ts n).length).map fun i => .tup (wL (grp (nG ts n) i))))) none none none none) [5, 6]) (m := m) (fun i : Nat => D.tup [.int (i : Int), .tup (wL (grp (nG ts n) i))]) (fun i => decide ((grp (nG ts n) i).head? = some i)) (fun i => .tup (wL (grp (nG ts n) i))) (List.range (nG ts n).length) (fun i hi => by
    obtain ⟨h, hx, hh⟩ := head_dIx (g := nG ts n) (List.mem_range.mp hi) m
    refine ⟨sNg ts n (some (gD (nG ts n))) (some (.lst ((List.range (nG ts n).length).map fun i => .tup (wL (grp (nG ts n) i))))) none (some (.int i)) (some (.tup (wL (grp (nG ts n) i)))) none, by simp [wipeD], ?_, fun _ => rfl⟩
    have x : s2 dIx (sVar 6) (sC (.int 0)) (sNg ts n (some (gD (nG ts n))) (some (.lst ((List.range (nG ts n).length).map fun i => .tup (wL (grp (nG ts n) i))))) none (some (.int i)) (some (.tup (wL (grp (nG ts n) i)))) none) m = .ok (.int h) m := (s2_of rfl rfl).trans hx
    rw [e_sTst, s2_of x (y := .int i) (m2 := m) rfl, dEq_int, hh]
    simp only [q_bind1]
    congr 1
    rw [Bool.eq_iff_iff]
    simp
    omega)
  rw [e_sLc, e3]
  simp only [q_bind1]
  rw [if_pos (by simp; omega), q]
  unfold grps
  rw [List.map_map]
  rfl
theorem count_ok {lo hi x : Int} (h : lo ≤ x ∧ x ≤ hi) (m : Mu) : f_check_count [.int x, .int lo, .int hi] m = .ok .non m := by
  refine run_nx (s := [some (.int x), some (.int lo), some (.int hi)]) ?_
  show b_check_count [some (.int x), some (.int lo), some (.int hi)] m = _
  unfold b_check_count
  refine (sIf_f (m' := m) (bNot_of (b := true) ?_)).trans rfl
  refine sTst_of (sCall_of (ds := [.int x, .int lo, .int hi]) (m1 := m) rfl rfl ?_)
  rw [number_ok, decide_eq_true h.1, decide_eq_true h.2]
  rfl
theorem groups_ok (hm : Wf m) (g : Good ts) (h0 : 0 ≤ n) (h1 : n ≤ 200) : f_groups [.tup (lL ts), .int n] m = .ok (.lst ((grps (nG ts n)).map fun l => .tup (wL l))) m := by
  have hl := g.len
  refine run_ret ?_
  show b_groups [some (.tup (lL ts)), some (.int n)] m = _
  unfold b_groups
  have cn : f_check_near [.int n] m = .ok .non m := by
    refine run_nx (s := [some (.int n)]) ?_
    show b_check_near [some (.int n)] m = _
    unfold b_check_near
    exact sDo_of (sCall_of (ds := [.int n, .int 0, .int 200]) (m1 := m) rfl rfl (count_ok ⟨h0, h1⟩ m))
  refine (sSeq_nx (sDo_of (sCall_of (ds := [.tup (lL ts)]) (m1 := m) rfl rfl (check_ok hm g)))).trans ?_
  refine (sSeq_nx (sDo_of (sCall_of (ds := [.int n]) (m1 := m) rfl rfl cn))).trans ?_
  exact sRet_of (sCall_of (ds := [.tup (lL ts), .int n]) (m1 := m) rfl rfl (near_groups_ok hm (good_small g) h0 (by omega) (by omega)))
end
end Px
set_option Elab.async false
set_option linter.all false
set_option maxRecDepth 100000
set_option maxHeartbeats 1000000
namespace Px
open PySem PySem.Spec PyProof.Rows L2 Rx
/-! ### tight pairs -/
def tightL (w : List (List Int)) (many : Nat) (rp cp : List Int) : List (Nat × Nat) := (poss w many).filter fun p => decide (gI rp p.1 + gI cp p.2 = gT2 w p.1 p.2)
theorem tight_ok {w : List (List Int)} {many : Nat} {rp cp : List Int} (t : Tbl w many) (lr : rp.length = w.length) (lc : cp.length = many) (m : Mu) : f_tight_pairs [.lst (tL w), prcD rp cp] m = .ok (.lst (pL (tightL w many rp cp))) m := by
  refine run_ret ?_
  show b_tight_pairs [some (.lst (tL w)), some (prcD rp cp), none, none] m = _
  unfold b_tight_pairs
  refine sRet_of ?_
  have src : iVal (sCall 1 f_possible_pairs (aCons (sVar 0) aNil)) [some (.lst (tL w)), some (prcD rp cp), none, none] m = .ok (pL (poss w many)) m := by
    have : sCall 1 f_possible_pairs (aCons (sVar 0) aNil) [some (.lst (tL w)), some (prcD rp cp), none, none] m = .ok (.lst (pL (poss w many))) m := sCall_of (ds := [.lst (tL w)]) (m1 := m) rfl rfl (possible_ok t m)
    simp only [e_iVal, this, q_bind1]
    rfl
  have q := lcL_filterT (g := gT (gsCons (gN 2) (gsCons (gN 3) gsNil))) (tt := sTst (s2 dEq (s2 dAdd (s2 dIx (s2 dIx (sVar 1) (sC (.int 0))) (sVar 2)) (s2 dIx (s2 dIx (sVar 1) (sC (.int 1))) (sVar 3))) (s2 dIx (s2 dIx (sVar 0) (sVar 2)) (sVar 3)))) (el := sTup (aCons (sVar 2) (aCons (sVar 3) aNil))) (s := wipeD [some (.lst (tL w)), some (prcD rp cp), none, none] [2, 3]) (m := m) nD (fun p => decide (gI rp p.1 + gI cp p.2 = gT2 w p.1 p.2)) nD (poss w many) (fun p hp => by
    obtain ⟨hi, hj, hpos⟩ := mem_poss.mp hp
    obtain ⟨r, hr1⟩ := get_ok hi
    obtain ⟨v, hv⟩ := get_ok (l := r) (i := p.2) (by rw [t.rows r (List.mem_of_getElem? hr1)]; exact hj)
    obtain ⟨a, ha⟩ := get_ok (l := rp) (i := p.1) (by rw [lr]; exact hi)
    obtain ⟨b, hb⟩ := get_ok (l := cp) (i := p.2) (by rw [lc]; exact hj)
    have e1 : gT2 w p.1 p.2 = v := by show (w.getD p.1 []).getD p.2 0 = v; rw [getD_of hr1, getD_of hv]
    have e2 : gI rp p.1 = a := getD_of ha
    have e3 : gI cp p.2 = b := getD_of hb
    refine ⟨[some (.lst (tL w)), some (prcD rp cp), some (.int p.1), some (.int p.2)], rfl, ?_, fun _ => rfl⟩
    rw [e1, e2, e3]
    have q1 : s2 dIx (s2 dIx (sVar 0) (sVar 2)) (sVar 3) [some (.lst (tL w)), some (prcD rp cp), some (.int p.1), some (.int p.2)] m = .ok (.int v) m := by simp [hr1, hv]
    have q2 : s2 dIx (s2 dIx (sVar 1) (sC (.int 0))) (sVar 2) [some (.lst (tL w)), some (prcD rp cp), some (.int p.1), some (.int p.2)] m = .ok (.int a) m := by simp [prcD, ha]
    have q3 : s2 dIx (s2 dIx (sVar 1) (sC (.int 1))) (sVar 3) [some (.lst (tL w)), some (prcD rp cp), some (.int p.1), some (.int p.2)] m = .ok (.int b) m := by simp [prcD, hb]
    rw [e_sTst, s2_of ((s2_of q2 q3).trans rfl) q1, dEq_int]
    rfl)
  rw [e_sLc, src]
  simp only [q_bind1]
  rw [if_pos (by rw [pL, List.length_map]; exact poss_len t), q]
  rfl
/-! ### the ways -/
def add (g : List (List Nat)) (i x : Nat) : List (List Nat) := g.set i (g.getD i [] ++ [x])
theorem add_len (g : List (List Nat)) (i x : Nat) : (add g i x).length = g.length := by simp [add]
abbrev mEx (m : Mu) (g : List (List Nat)) : Mu := m ++ (g.map (fun l => MO.lst (wL l)) ++ [.lst ((List.range g.length).map fun i : Nat => D.ref (m.length + i))])
section
variable {m : Mu} {g : List (List Nat)}
theorem mEx_at {i : Nat} {l : List Nat} (h : g[i]? = some l) : (mEx m g)[m.length + i]? = some (.lst (wL l)) := by
  have hi := (List.getElem?_eq_some_iff.mp h).1
  rw [List.getElem?_append_right (by omega), show m.length + i - m.length = i by omega, List.getElem?_append_left (by simpa using hi), List.getElem?_map, h]
  rfl
theorem mEx_top : (mEx m g)[m.length + g.length]? = some (.lst ((List.range g.length).map fun i : Nat => D.ref (m.length + i))) := by
  rw [List.getElem?_append_right (by omega), show m.length + g.length - m.length = g.length by omega, List.getElem?_append_right (by simp)]
  simp
theorem mEx_set {i : Nat} (hi : i < g.length) (l : List Nat) : (mEx m g).set (m.length + i) (.lst (wL l)) = mEx m (g.set i l) := by
  unfold mEx
  rw [List.set_append_right _ _ (by omega), show m.length + i - m.length = i by omega, List.set_append_left _ _ (by simpa using hi), List.length_set, ← List.map_set]
theorem add_ok {S : Sd} {fi fv : SEx} {i x : Nat} (v5 : S[5]? = some (some (.ref (m.length + g.length)))) (hi : i < g.length) (hl : (g.getD i []).length ≤ 1000000) (ei : fi S (mEx m g) = .ok (.int i) (mEx m g)) (ev : fv S (mEx m g) = .ok (.int x) (mEx m g)) :
    sDo (sM1 dApp (s2 dIx (sVar 5) fi) fv) S (mEx m g) = .nx S (mEx m (add g i x)) := by
  obtain ⟨l, hg⟩ := get_ok hi
  rw [getD_of hg] at hl
  have ix : s2 dIx (sVar 5) fi S (mEx m g) = .ok (.ref (m.length + i)) (mEx m g) := by
    rw [s2_of (x := .ref (m.length + g.length)) (y := .int i) (m1 := mEx m g) (by rw [e_sVar, v5]) ei]
    unfold dIx
    simp only [q_seqR mEx_top]
    simp [hi]
  refine sDo_of (d := .non) ?_
  rw [e_sM1, ix]
  simp only [q_bind1]
  rw [if_pos (by unfold isL; rw [q_seqR (mEx_at hg)]), ev]
  simp only [q_bind1]
  unfold dApp
  have hh : hOf (mEx m g) (.ref (m.length + i)) = some (m.length + i, wL l) := by
    unfold hOf
    dsimp only
    rw [mEx_at hg]
  rw [hh]
  dsimp only
  rw [if_pos (by simpa using hl)]
  have e : wL l ++ [D.int x] = wL (l ++ [x]) := by simp
  rw [e, mEx_set hi]
  unfold add
  rw [getD_of hg]
theorem frzAll_ok (m : Mu) : ∀ (l : List (List Nat)) (A rest : Mu), frzAll (m ++ (A ++ (l.map (fun x => MO.lst (wL x)) ++ rest))) ((List.range l.length).map fun i : Nat => D.ref (m.length + A.length + i)) = some (l.map fun x => D.lst (wL x), m ++ (A ++ (List.replicate l.length .dead ++ rest)))
  | [], A, rest => rfl
  | x :: l, A, rest => by
    simp only [List.length_cons, List.range_succ_eq_map, List.map_cons, List.map_map]
    rw [frzAll]
    have h : (m ++ (A ++ (MO.lst (wL x) :: l.map (fun x => MO.lst (wL x)) ++ rest)))[m.length + A.length + 0]? = some (.lst (wL x)) := by
      rw [List.getElem?_append_right (by omega), List.getElem?_append_right (by omega)]
      simp [show m.length + A.length + 0 - m.length - A.length = 0 by omega]
    have hh : hOf (m ++ (A ++ (MO.lst (wL x) :: l.map (fun x => MO.lst (wL x)) ++ rest))) (.ref (m.length + A.length + 0)) = some (m.length + A.length + 0, wL x) := by
      unfold hOf
      dsimp only
      rw [h]
    rw [hh]
    dsimp only
    have hs : (m ++ (A ++ (MO.lst (wL x) :: l.map (fun x => MO.lst (wL x)) ++ rest))).set (m.length + A.length + 0) .dead = m ++ ((A ++ [MO.dead]) ++ (l.map (fun x => MO.lst (wL x)) ++ rest)) := by
      rw [List.set_append_right _ _ (by omega), List.set_append_right _ _ (by omega), show m.length + A.length + 0 - m.length - A.length = 0 by omega]
      simp
    rw [hs]
    have ih := frzAll_ok m l (A ++ [MO.dead]) rest
    have er : ((List.range l.length).map fun i : Nat => D.ref (m.length + (A ++ [MO.dead]).length + i)) = (List.range l.length).map ((fun i : Nat => D.ref (m.length + A.length + i)) ∘ Nat.succ) := List.map_congr_left fun i _ => by
      simp only [Function.comp]
      rw [List.length_append, List.length_singleton, show m.length + (A.length + 1) + i = m.length + A.length + (i + 1) by omega]
    rw [← er, ih]
    simp [List.replicate_succ]
theorem frz2_ok (m : Mu) (g : List (List Nat)) : dFrz2 (.ref (m.length + g.length)) (mEx m g) = .ok (gD g) (m ++ (List.replicate g.length .dead ++ [.dead])) := by
  have h1 : hOf (mEx m g) (.ref (m.length + g.length)) = some (m.length + g.length, (List.range g.length).map fun i : Nat => D.ref (m.length + i)) := by
    unfold hOf
    dsimp only
    rw [mEx_top]
  have h2 := frzAll_ok m g [] [.lst ((List.range g.length).map fun i : Nat => D.ref (m.length + i))]
  simp only [List.nil_append, List.length_nil, Nat.add_zero] at h2
  have h3 : (m ++ (List.replicate g.length MO.dead ++ [MO.lst ((List.range g.length).map fun i : Nat => D.ref (m.length + i))]))[m.length + g.length]? = some (.lst ((List.range g.length).map fun i : Nat => D.ref (m.length + i))) := by
    rw [List.getElem?_append_right (by omega), show m.length + g.length - m.length = g.length by omega, List.getElem?_append_right (by simp)]
    simp
  have h4 : hOf (m ++ (List.replicate g.length MO.dead ++ [MO.lst ((List.range g.length).map fun i : Nat => D.ref (m.length + i))])) (.ref (m.length + g.length)) = some (m.length + g.length, (List.range g.length).map fun i : Nat => D.ref (m.length + i)) := by
    unfold hOf
    dsimp only
    rw [h3]
  unfold dFrz2
  rw [h1]
  dsimp only
  rw [h2]
  dsimp only
  rw [h4]
  dsimp only
  unfold gD
  congr 1
  rw [List.set_append_right _ _ (by omega), show m.length + g.length - m.length = g.length by omega, List.set_append_right _ _ (by simp)]
  simp
end
end Px
set_option Elab.async false
set_option linter.all false
set_option maxRecDepth 100000
set_option maxHeartbeats 1000000
namespace Px
open PySem PySem.Spec PyProof.Rows L2 Rx
structure Wy (g : List (List Nat)) (n c : Nat) : Prop where
  len : g.length = n
  wide : ∀ l ∈ g, l.length ≤ c
  rng : ∀ l ∈ g, ∀ x ∈ l, x < n
theorem Wy.at_ {g : List (List Nat)} {n c : Nat} (h : Wy g n c) (i : Nat) : (g.getD i []).length ≤ c := by
  by_cases hi : i < g.length
  · obtain ⟨l, hl⟩ := get_ok hi
    rw [getD_of hl]
    exact h.wide l (List.mem_of_getElem? hl)
  · rw [List.getD_eq_getElem?_getD, List.getElem?_eq_none (by omega)]
    simp
theorem Wy.up {g : List (List Nat)} {n c : Nat} (h : Wy g n c) : Wy g n (c + 1) := ⟨h.len, fun l hl => by have := h.wide l hl; omega, h.rng⟩
theorem Wy.add {g : List (List Nat)} {n c i x : Nat} (h : Wy g n c) (hi : i < n) (hx : x < n) : Wy (add g i x) n (c + 1) := by
  have ha := h.at_ i
  have hl : g.getD i [] ∈ g := by
    obtain ⟨l, e⟩ := get_ok (l := g) (i := i) (by rw [h.len]; exact hi)
    rw [getD_of e]
    exact List.mem_of_getElem? e
  refine ⟨by rw [add_len, h.len], fun l hm => ?_, fun l hm y hy => ?_⟩
  · rcases List.mem_or_eq_of_mem_set hm with hm | rfl
    · have := h.wide l hm; omega
    · rw [List.length_append, List.length_singleton]; omega
  · rcases List.mem_or_eq_of_mem_set hm with hm | rfl
    · exact h.rng l hm y hy
    · rcases List.mem_append.mp hy with hy | hy
      · exact h.rng _ hl y hy
      · simp at hy; subst hy; exact hx
theorem Wy.gr {g : List (List Nat)} {n c : Nat} (h : Wy g n c) (hn : n ≤ 100) (hc : c ≤ 400) : Gr2 g ∧ ∀ p < g.length, (g.getD p []).length ≤ 400 :=
  ⟨⟨by rw [h.len]; exact hn, fun l hl x hx => by rw [h.len]; exact h.rng l hl x hx, fun l hl => by have := h.wide l hl; omega⟩, fun p _ => by have := h.at_ p; omega⟩
def bX1 : SSt := (sIf (sTst (s2 dIn (sTup (aCons (sVar 7) (aCons (sVar 8) aNil))) (sVar 2))) (sDo (sM1 dApp (s2 dIx (sVar 5) (s2 dAdd (sB dLen (aCons (sVar 0) aNil)) (sVar 8))) (sVar 7))) (sDo (sM1 dApp (s2 dIx (sVar 5) (sVar 7)) (s2 dAdd (sB dLen (aCons (sVar 0) aNil)) (sVar 8)))))
def bX2 : SSt := (sSeq (sIf (sTst (s2 dGt (sVar 10) (sC (.int 0)))) sCont sNil) (sIf (sTst (s2 dEq (s2 dLt (sVar 9) (sB dLen (aCons (sVar 0) aNil))) (s2 dIn (sVar 9) (sVar 6)))) (sDo (sM1 dApp (s2 dIx (sVar 5) (sVar 9)) (sVar 4))) (sDo (sM1 dApp (s2 dIx (sVar 5) (sVar 4)) (sVar 9)))))
def exS1 (R : Nat) (ps : List (Nat × Nat)) (g : List (List Nat)) (p : Nat × Nat) : List (List Nat) := if p ∈ ps then add g (R + p.2) p.1 else add g p.1 (R + p.2)
def exS2 (R N : Nat) (paired : List Nat) (g : List (List Nat)) (q : Nat × Int) : List (List Nat) := if 0 < q.2 then g else if decide (q.1 < R) = decide (q.1 ∈ paired) then add g q.1 N else add g N q.1
theorem foldl_wy1 {R many n : Nat} {ps : List (Nat × Nat)} (hn : R + many < n) : ∀ (l : List (Nat × Nat)) (g : List (List Nat)) (c : Nat), (∀ p ∈ l, p.1 < R ∧ p.2 < many) → Wy g n c → Wy (l.foldl (exS1 R ps) g) n (c + l.length)
  | [], g, c, _, h => h
  | p :: l, g, c, hl, h => by
    obtain ⟨h1, h2⟩ := hl p List.mem_cons_self
    rw [List.foldl_cons, List.length_cons, show c + (l.length + 1) = c + 1 + l.length by omega]
    refine foldl_wy1 hn l _ (c + 1) (fun q hq => hl q (List.mem_cons_of_mem _ hq)) ?_
    unfold exS1
    split
    · exact h.add (by omega) (by omega)
    · exact h.add (by omega) (by omega)
theorem foldl_wy2 {R N n : Nat} {paired : List Nat} (hn : N < n) : ∀ (l : List (Nat × Int)) (g : List (List Nat)) (c : Nat), (∀ q ∈ l, q.1 < n) → Wy g n c → Wy (l.foldl (exS2 R N paired) g) n (c + l.length)
  | [], g, c, _, h => h
  | p :: l, g, c, hl, h => by
    have h1 := hl p List.mem_cons_self
    rw [List.foldl_cons, List.length_cons, show c + (l.length + 1) = c + 1 + l.length by omega]
    refine foldl_wy2 hn l _ (c + 1) (fun q hq => hl q (List.mem_cons_of_mem _ hq)) ?_
    unfold exS2
    split
    · exact h.up
    · split
      · exact h.add (by omega) (by omega)
      · exact h.add (by omega) (by omega)
section
variable {w : List (List Int)} {many : Nat} {ps : List (Nat × Nat)} {rp cp : List Int} {m : Mu}
abbrev sEx (w : List (List Int)) (many : Nat) (ps : List (Nat × Nat)) (rp cp : List Int) (m : Mu) (a6 a7 a8 a9 a10 a11 : Option D) : Sd := [some (.lst (tL w)), some (.int many), some (.lst (pL ps)), some (prcD rp cp), some (.int ((w.length + many : Nat) : Int)), some (.ref (m.length + (w.length + many + 1))), a6, a7, a8, a9, a10, a11]
theorem len0 (mm : Mu) (a6 a7 a8 a9 a10 a11 : Option D) : sB dLen (aCons (sVar 0) aNil) (sEx w many ps rp cp m a6 a7 a8 a9 a10 a11) mm = .ok (.int (w.length : Nat)) mm := by simp
theorem x1_step {p : Nat × Nat} (h1 : p.1 < w.length) (h2 : p.2 < many) {g : List (List Nat)} {c : Nat} (hg : Wy g (w.length + many + 1) c) (hc : c ≤ 100000) (a6 a9 a10 a11 : Option D) :
    bX1 (sEx w many ps rp cp m a6 (some (.int p.1)) (some (.int p.2)) a9 a10 a11) (mEx m g) = .nx (sEx w many ps rp cp m a6 (some (.int p.1)) (some (.int p.2)) a9 a10 a11) (mEx m (exS1 w.length ps g p)) := by
  have t : sTst (s2 dIn (sTup (aCons (sVar 7) (aCons (sVar 8) aNil))) (sVar 2)) (sEx w many ps rp cp m a6 (some (.int p.1)) (some (.int p.2)) a9 a10 a11) (mEx m g) = .ok (decide (p ∈ ps)) (mEx m g) := by
    rw [e_sTst, s2_of (x := nD p) (y := .lst (pL ps)) (m1 := mEx m g) (m2 := mEx m g) rfl rfl]
    unfold dIn
    simp only [q_seq1]
    rw [if_pos ⟨okD_of (okN_nD p) (by decide), okD_of (okN_lst (okN_map okN_nD ps)) (by decide)⟩, any_map eqv_nD]
    simp only [q_bind1]
    congr 1
    exact decide_eq_decide.mpr Iff.rfl
  have ec : s2 dAdd (sB dLen (aCons (sVar 0) aNil)) (sVar 8) (sEx w many ps rp cp m a6 (some (.int p.1)) (some (.int p.2)) a9 a10 a11) (mEx m g) = .ok (.int ((w.length + p.2 : Nat) : Int)) (mEx m g) := by
    rw [s2_of (len0 _ _ _ _ _ _ _) (y := .int p.2) (m2 := mEx m g) rfl]
    unfold dAdd
    dsimp only
    rw [Int.natCast_add]
  have v5 : (sEx w many ps rp cp m a6 (some (.int p.1)) (some (.int p.2)) a9 a10 a11)[5]? = some (some (.ref (m.length + g.length))) := by rw [hg.len]; rfl
  unfold bX1 exS1
  by_cases hp : p ∈ ps
  · rw [if_pos hp]
    exact (sIf_t (m' := mEx m g) (by rw [t, decide_eq_true hp])).trans (add_ok v5 (by rw [hg.len]; omega) (by have := hg.at_ (w.length + p.2); omega) ec rfl)
  · rw [if_neg hp]
    exact (sIf_f (m' := mEx m g) (by rw [t, decide_eq_false hp])).trans (add_ok v5 (by rw [hg.len]; omega) (by have := hg.at_ p.1; omega) rfl ec)
theorem x1_loop : ∀ (l : List (Nat × Nat)) (g : List (List Nat)) (c : Nat) (a6 a7 a8 a9 a10 a11 : Option D), (∀ p ∈ l, p.1 < w.length ∧ p.2 < many) → Wy g (w.length + many + 1) c → c + l.length ≤ 100000 →
    ∃ b7 b8, forL (gT (gsCons (gN 7) (gsCons (gN 8) gsNil))) bX1 (pL l) (sEx w many ps rp cp m a6 a7 a8 a9 a10 a11) (mEx m g) = .nx (sEx w many ps rp cp m a6 b7 b8 a9 a10 a11) (mEx m (l.foldl (exS1 w.length ps) g))
  | [], g, c, a6, a7, a8, a9, a10, a11, _, _, _ => ⟨a7, a8, rfl⟩
  | p :: l, g, c, a6, a7, a8, a9, a10, a11, hl, hg, hc => by
    rw [List.length_cons] at hc
    obtain ⟨h1, h2⟩ := hl p List.mem_cons_self
    have hg' := foldl_wy1 (ps := ps) (R := w.length) (many := many) (n := w.length + many + 1) (by omega) [p] g c (fun q hq => by simp at hq; subst hq; exact ⟨h1, h2⟩) hg
    obtain ⟨b7, b8, e⟩ := x1_loop l (exS1 w.length ps g p) (c + 1) a6 (some (.int p.1)) (some (.int p.2)) a9 a10 a11 (fun q hq => hl q (List.mem_cons_of_mem _ hq)) hg' (by omega)
    exact ⟨b7, b8, (forL_step (s1 := sEx w many ps rp cp m a6 (some (.int p.1)) (some (.int p.2)) a9 a10 a11) rfl (x1_step h1 h2 hg (by omega) a6 a9 a10 a11)).trans e⟩
def eD (q : Nat × Int) : D := .tup [.int q.1, .int q.2]
theorem x2_step {q : Nat × Int} {paired : List Nat} (h1 : q.1 < w.length + many + 1) {g : List (List Nat)} {c : Nat} (hg : Wy g (w.length + many + 1) c) (hc : c ≤ 100000) (a7 a8 a11 : Option D) :
    bX2 (sEx w many ps rp cp m (some (.lst (wL paired))) a7 a8 (some (.int q.1)) (some (.int q.2)) a11) (mEx m g) = .nx (sEx w many ps rp cp m (some (.lst (wL paired))) a7 a8 (some (.int q.1)) (some (.int q.2)) a11) (mEx m (exS2 w.length (w.length + many) paired g q)) ∨
    bX2 (sEx w many ps rp cp m (some (.lst (wL paired))) a7 a8 (some (.int q.1)) (some (.int q.2)) a11) (mEx m g) = .ct (sEx w many ps rp cp m (some (.lst (wL paired))) a7 a8 (some (.int q.1)) (some (.int q.2)) a11) (mEx m (exS2 w.length (w.length + many) paired g q)) := by
  generalize hS : sEx w many ps rp cp m (some (.lst (wL paired))) a7 a8 (some (.int q.1)) (some (.int q.2)) a11 = S0
  have v5 : S0[5]? = some (some (.ref (m.length + g.length))) := by rw [← hS, hg.len]; rfl
  have v4 : S0[4]? = some (some (.int ((w.length + many : Nat) : Int))) := by rw [← hS]; rfl
  have v6 : S0[6]? = some (some (.lst (wL paired))) := by rw [← hS]; rfl
  have v9 : S0[9]? = some (some (.int q.1)) := by rw [← hS]; rfl
  have v10 : S0[10]? = some (some (.int q.2)) := by rw [← hS]; rfl
  have vl : sB dLen (aCons (sVar 0) aNil) S0 (mEx m g) = .ok (.int (w.length : Nat)) (mEx m g) := by rw [← hS]; exact len0 _ _ _ _ _ _ _
  clear hS
  have t1 : sTst (s2 dGt (sVar 10) (sC (.int 0))) S0 (mEx m g) = .ok (decide (0 < q.2)) (mEx m g) := by
    rw [e_sTst, s2_of (x := .int q.2) (y := .int 0) (m1 := mEx m g) (m2 := mEx m g) (by rw [e_sVar, v10]) rfl]
    rfl
  have r9 : sVar 9 S0 (mEx m g) = .ok (.int q.1) (mEx m g) := by rw [e_sVar, v9]
  have r4 : sVar 4 S0 (mEx m g) = .ok (.int ((w.length + many : Nat) : Int)) (mEx m g) := by rw [e_sVar, v4]
  unfold bX2 exS2
  by_cases c1 : 0 < q.2
  · rw [if_pos c1]
    right
    rw [e_sSeq, sIf_t (m' := mEx m g) (by rw [t1, decide_eq_true c1])]
    rfl
  · rw [if_neg c1]
    left
    refine (sSeq_nx (s' := S0) (m' := mEx m g) ((sIf_f (m' := mEx m g) (by rw [t1, decide_eq_false c1])).trans rfl)).trans ?_
    have q1 : s2 dLt (sVar 9) (sB dLen (aCons (sVar 0) aNil)) S0 (mEx m g) = .ok (.bl (decide (q.1 < w.length))) (mEx m g) := by
      rw [s2_of r9 vl]
      unfold dLt
      dsimp only
      congr 2
      exact decide_eq_decide.mpr (by omega)
    have q2 : s2 dIn (sVar 9) (sVar 6) S0 (mEx m g) = .ok (.bl (decide (q.1 ∈ paired))) (mEx m g) := by
      rw [s2_of r9 (y := .lst (wL paired)) (m2 := mEx m g) (by rw [e_sVar, v6])]
      unfold dIn
      simp only [q_seq1]
      rw [if_pos ⟨okD_of (okN_int _) (by decide), okD_of (okN_lst (n := 0) (okN_map (fun i : Nat => okN_int _) paired)) (by decide)⟩, any_map eqv_n]
    have t2 : sTst (s2 dEq (s2 dLt (sVar 9) (sB dLen (aCons (sVar 0) aNil))) (s2 dIn (sVar 9) (sVar 6))) S0 (mEx m g) = .ok (decide (decide (q.1 < w.length) = decide (q.1 ∈ paired))) (mEx m g) := by
      rw [e_sTst, s2_of q1 q2, dEq_bl]
      rfl
    by_cases c2 : decide (q.1 < w.length) = decide (q.1 ∈ paired)
    · rw [if_pos c2]
      exact (sIf_t (m' := mEx m g) (by rw [t2, decide_eq_true c2])).trans (add_ok v5 (by rw [hg.len]; omega) (by have := hg.at_ q.1; omega) r9 r4)
    · rw [if_neg c2]
      exact (sIf_f (m' := mEx m g) (by rw [t2, decide_eq_false c2])).trans (add_ok v5 (by rw [hg.len]; omega) (by have := hg.at_ (w.length + many); omega) r4 r9)
theorem x2_loop {paired : List Nat} : ∀ (l : List (Nat × Int)) (g : List (List Nat)) (c : Nat) (a7 a8 a9 a10 a11 : Option D), (∀ q ∈ l, q.1 < w.length + many + 1) → Wy g (w.length + many + 1) c → c + l.length ≤ 100000 →
    ∃ b9 b10, forL (gT (gsCons (gN 9) (gsCons (gN 10) gsNil))) bX2 (l.map eD) (sEx w many ps rp cp m (some (.lst (wL paired))) a7 a8 a9 a10 a11) (mEx m g) = .nx (sEx w many ps rp cp m (some (.lst (wL paired))) a7 a8 b9 b10 a11) (mEx m (l.foldl (exS2 w.length (w.length + many) paired) g))
  | [], g, c, a7, a8, a9, a10, a11, _, _, _ => ⟨a9, a10, rfl⟩
  | q :: l, g, c, a7, a8, a9, a10, a11, hl, hg, hc => by
    rw [List.length_cons] at hc
    have h1 := hl q List.mem_cons_self
    have hg' := foldl_wy2 (paired := paired) (R := w.length) (N := w.length + many) (n := w.length + many + 1) (by omega) [q] g c (fun z hz => by simp at hz; subst hz; exact h1) hg
    obtain ⟨b9, b10, e⟩ := x2_loop l (exS2 w.length (w.length + many) paired g q) (c + 1) a7 a8 (some (.int q.1)) (some (.int q.2)) a11 (fun z hz => hl z (List.mem_cons_of_mem _ hz)) hg' (by omega)
    refine ⟨b9, b10, ?_⟩
    rw [List.map_cons]
    rcases x2_step (ps := ps) (rp := rp) (cp := cp) (m := m) (paired := paired) h1 hg (by omega) a7 a8 a11 with st | st
    · exact (forL_step (s1 := sEx w many ps rp cp m (some (.lst (wL paired))) a7 a8 (some (.int q.1)) (some (.int q.2)) a11) rfl st).trans e
    · exact (forL_step_ct (s1 := sEx w many ps rp cp m (some (.lst (wL paired))) a7 a8 (some (.int q.1)) (some (.int q.2)) a11) rfl st).trans e
theorem range_enum (l : List Int) : enumD 0 (iL l) = ((List.range l.length).map fun i : Nat => ((i, l.getD i 0) : Nat × Int)).map eD := by
  rw [iL, enum_map, List.map_map]
  refine List.map_congr_left fun i hi => ?_
  obtain ⟨v, hv⟩ := get_ok (List.mem_range.mp hi)
  rw [hv]
  simp only [Function.comp, eD, getD_of hv]
  simp
def pairedL (R : Nat) (ps : List (Nat × Nat)) : List Nat := ps.map (·.1) ++ ps.map fun p => R + p.2
/-- what may be exchanged for what -/
def exG (w : List (List Int)) (many : Nat) (ps : List (Nat × Nat)) (rp cp : List Int) : List (List Nat) :=
  ((List.range (rp ++ cp).length).map fun i : Nat => ((i, (rp ++ cp).getD i 0) : Nat × Int)).foldl (exS2 w.length (w.length + many) (pairedL w.length ps)) ((tightL w many rp cp).foldl (exS1 w.length ps) (List.replicate (w.length + many + 1) []))
theorem tight_rng {p : Nat × Nat} (h : p ∈ tightL w many rp cp) : p.1 < w.length ∧ p.2 < many := by
  have := mem_poss.mp (List.mem_filter.mp h).1
  exact ⟨this.1, this.2.1⟩
theorem exG_wy (lr : rp.length = w.length) (lc : cp.length = many) : Wy (exG w many ps rp cp) (w.length + many + 1) ((tightL w many rp cp).length + (w.length + many)) := by
  have h0 : Wy (List.replicate (w.length + many + 1) ([] : List Nat)) (w.length + many + 1) 0 := ⟨by simp, fun l hl => by rw [List.eq_of_mem_replicate hl]; simp, fun l hl x hx => by rw [List.eq_of_mem_replicate hl] at hx; cases hx⟩
  have h1 := foldl_wy1 (ps := ps) (R := w.length) (many := many) (n := w.length + many + 1) (by omega) (tightL w many rp cp) _ 0 (fun p hp => tight_rng hp) h0
  have h2 := foldl_wy2 (R := w.length) (N := w.length + many) (paired := pairedL w.length ps) (n := w.length + many + 1) (by omega) ((List.range (rp ++ cp).length).map fun i : Nat => ((i, (rp ++ cp).getD i 0) : Nat × Int)) _ _ (fun q hq => by
    obtain ⟨i, hi, rfl⟩ := List.mem_map.mp hq
    have := List.mem_range.mp hi
    rw [List.length_append] at this
    dsimp only
    omega) h1
  have e : ((List.range (rp ++ cp).length).map fun i : Nat => ((i, (rp ++ cp).getD i 0) : Nat × Int)).length = w.length + many := by simp; omega
  rw [e, Nat.zero_add] at h2
  exact h2
theorem tight_len (t : Tbl w many) (hw : w.length ≤ 16) (hm : many ≤ 16) : (tightL w many rp cp).length ≤ 256 := by
  have h1 : (tightL w many rp cp).length ≤ (poss w many).length := List.length_filter_le _ _
  have h2 : (poss w many).length ≤ w.length * many := by
    unfold poss
    rw [List.length_flatMap]
    have h1 : ∀ l : List Nat, (l.map fun i => (((List.range many).filter fun j => decide (0 < gT2 w i j)).map fun j => (i, j)).length).sum ≤ l.length * many := fun l => by
      induction l with
      | nil => simp
      | cons a l ih =>
        rw [List.map_cons, List.sum_cons, List.length_cons, Nat.succ_mul]
        have h2 : (((List.range many).filter fun j => decide (0 < gT2 w a j)).map fun j => (a, j)).length ≤ many := by
          rw [List.length_map]
          have := List.length_filter_le (fun j => decide (0 < gT2 w a j)) (List.range many)
          rwa [List.length_range] at this
        omega
    have := h1 (List.range w.length)
    rwa [List.length_range] at this
  have h3 : w.length * many ≤ 16 * 16 := Nat.mul_le_mul hw hm
  omega
theorem new_lists (mm : Mu) (s : Sd) : ∀ (n : Nat) (A : Mu) (k0 : Nat), lcL (gN 11) bYes (sNew aNil) (s : Sd) ((List.range n).map fun k : Nat => D.int ((k0 + k : Nat) : Int)) (mm ++ A) = .ok ((List.range n).map fun i : Nat => D.ref (mm.length + A.length + i)) (mm ++ (A ++ List.replicate n (.lst [])))
  | 0, A, k0 => by simp [lcL]
  | n + 1, A, k0 => by
    simp only [List.range_succ_eq_map, List.map_cons, List.map_map]
    rw [lcL, show gN 11 (D.int ((k0 + 0 : Nat) : Int)) s = some (s.set 11 (some (.int ((k0 + 0 : Nat) : Int)))) from rfl]
    dsimp only
    rw [show bYes (s.set 11 (some (.int ((k0 + 0 : Nat) : Int)))) (mm ++ A) = .ok true (mm ++ A) from rfl]
    dsimp only
    rw [show sNew aNil (s.set 11 (some (.int ((k0 + 0 : Nat) : Int)))) (mm ++ A) = .ok (.ref (mm ++ A).length) (mm ++ A ++ [.lst []]) from rfl]
    dsimp only
    have ih := new_lists mm s n (A ++ [.lst []]) (k0 + 1)
    have e1 : ((List.range n).map ((fun k : Nat => D.int ((k0 + k : Nat) : Int)) ∘ Nat.succ)) = (List.range n).map fun k : Nat => D.int ((k0 + 1 + k : Nat) : Int) := List.map_congr_left fun k _ => by
      simp only [Function.comp]
      rw [show k0 + k.succ = k0 + 1 + k by omega]
    rw [e1, List.append_assoc, ih]
    dsimp only
    have e2 : ((List.range n).map ((fun i : Nat => D.ref (mm.length + A.length + i)) ∘ Nat.succ)) = (List.range n).map fun i : Nat => D.ref (mm.length + (A ++ [MO.lst []]).length + i) := List.map_congr_left fun k _ => by
      simp only [Function.comp]
      rw [List.length_append, List.length_singleton, show mm.length + A.length + k.succ = mm.length + (A.length + 1) + k by omega]
    rw [e2, List.length_append, List.replicate_succ]
    simp
theorem exchanges_ok (hm : Wf m) (t : Tbl w many) (hw : w.length ≤ 16) (hmn : many ≤ 16) (lr : rp.length = w.length) (lc : cp.length = many) (hps : ps.length ≤ 100) : f_exchanges [.lst (tL w), .int many, .lst (pL ps), prcD rp cp] m = .ok (gD (exG w many ps rp cp)) m := by
  have tl := tight_len (rp := rp) (cp := cp) t hw hmn
  have wy := exG_wy (ps := ps) (w := w) (many := many) lr lc
  have hb : b_exchanges [some (.lst (tL w)), some (.int many), some (.lst (pL ps)), some (prcD rp cp), none, none, none, none, none, none, none, none] m = .ret (gD (exG w many ps rp cp)) (m ++ (List.replicate (exG w many ps rp cp).length .dead ++ [.dead])) := by
    unfold b_exchanges
    refine (sSeq_nx (s' := [some (.lst (tL w)), some (.int many), some (.lst (pL ps)), some (prcD rp cp), some (.int ((w.length + many : Nat) : Int)), none, none, none, none, none, none, none]) (m' := m) ?_).trans ?_
    · refine (sSet_of (d := .int ((w.length + many : Nat) : Int)) (m' := m) ?_).trans rfl
      have e : sB dLen (aCons (sVar 0) aNil) [some (.lst (tL w)), some (.int many), some (.lst (pL ps)), some (prcD rp cp), none, none, none, none, none, none, none, none] m = .ok (.int (w.length : Nat)) m := by simp
      rw [s2_of e (y := .int many) (m2 := m) rfl]
      unfold dAdd
      dsimp only
      rw [Int.natCast_add]
    have g0 : (List.replicate (w.length + many + 1) ([] : List Nat)).length = w.length + many + 1 := by simp
    refine (sSeq_nx (s' := sEx w many ps rp cp m none none none none none none) (m' := mEx m (List.replicate (w.length + many + 1) [])) ?_).trans ?_
    · refine (sSet_of (d := .ref (m.length + (w.length + many + 1))) (m' := mEx m (List.replicate (w.length + many + 1) [])) ?_).trans rfl
      have hi : iR1 (aCons (s2 dAdd (sVar 4) (sC (.int 1))) aNil) [some (.lst (tL w)), some (.int many), some (.lst (pL ps)), some (prcD rp cp), some (.int ((w.length + many : Nat) : Int)), none, none, none, none, none, none, none] m = .ok ((List.range (w.length + many + 1)).map fun k : Nat => D.int ((0 + k : Nat) : Int)) m := by
        rw [iR1_ok (j := ((w.length + many + 1 : Nat) : Int)) (m' := m) ?_ (by omega) (by omega), Int.toNat_natCast, rangeD_w]
        · congr 1
          refine List.map_congr_left fun k _ => ?_
          rw [Nat.zero_add]
        · have : s2 dAdd (sVar 4) (sC (.int 1)) [some (.lst (tL w)), some (.int many), some (.lst (pL ps)), some (prcD rp cp), some (.int ((w.length + many : Nat) : Int)), none, none, none, none, none, none, none] m = .ok (.int ((w.length + many + 1 : Nat) : Int)) m := by
            rw [s2_of (x := .int ((w.length + many : Nat) : Int)) (y := .int 1) (m1 := m) (m2 := m) rfl rfl]
            rfl
          simp only [e_aCons, e_aNil, this, q_bind1]
      have nl := new_lists m (wipeD [some (.lst (tL w)), some (.int many), some (.lst (pL ps)), some (prcD rp cp), some (.int ((w.length + many : Nat) : Int)), none, none, none, none, none, none, none] [11]) (w.length + many + 1) [] 0
      rw [List.append_nil] at nl
      unfold sLcN
      rw [hi]
      simp only [q_bind1]
      rw [if_pos (by simp; omega), nl]
      dsimp only
      unfold mEx
      simp
      try omega
    have ti : iVal (sCall 2 f_tight_pairs (aCons (sVar 0) (aCons (sVar 3) aNil))) (sEx w many ps rp cp m none none none none none none) (mEx m (List.replicate (w.length + many + 1) [])) = .ok (pL (tightL w many rp cp)) (mEx m (List.replicate (w.length + many + 1) [])) := by
      have : sCall 2 f_tight_pairs (aCons (sVar 0) (aCons (sVar 3) aNil)) (sEx w many ps rp cp m none none none none none none) (mEx m (List.replicate (w.length + many + 1) [])) = .ok (.lst (pL (tightL w many rp cp))) (mEx m (List.replicate (w.length + many + 1) [])) := sCall_of (ds := [.lst (tL w), prcD rp cp]) (m1 := mEx m (List.replicate (w.length + many + 1) [])) rfl rfl (tight_ok t lr lc _)
      rw [e_iVal, this]
      rfl
    have h0 : Wy (List.replicate (w.length + many + 1) ([] : List Nat)) (w.length + many + 1) 0 := ⟨by simp, fun l hl => by rw [List.eq_of_mem_replicate hl]; simp, fun l hl x hx => by rw [List.eq_of_mem_replicate hl] at hx; cases hx⟩
    obtain ⟨b7, b8, e1⟩ := x1_loop (ps := ps) (rp := rp) (cp := cp) (m := m) (tightL w many rp cp) _ 0 none none none none none none (fun p hp => tight_rng hp) h0 (by omega)
    have h1 := foldl_wy1 (ps := ps) (R := w.length) (many := many) (n := w.length + many + 1) (by omega) (tightL w many rp cp) _ 0 (fun p hp => tight_rng hp) h0
    refine (sSeq_nx (s' := sEx w many ps rp cp m none b7 b8 none none none) (m' := mEx m ((tightL w many rp cp).foldl (exS1 w.length ps) (List.replicate (w.length + many + 1) []))) ?_).trans ?_
    · rw [sFor_of ti]
      exact e1
    generalize hg1 : (tightL w many rp cp).foldl (exS1 w.length ps) (List.replicate (w.length + many + 1) []) = g1 at h1
    refine (sSeq_nx (s' := sEx w many ps rp cp m (some (.lst (wL (pairedL w.length ps)))) b7 b8 none none none) (m' := mEx m g1) ?_).trans ?_
    · refine (sSet_of (d := .lst (wL (pairedL w.length ps))) (m' := mEx m g1) ?_).trans rfl
      have src : iVal (sVar 2) (sEx w many ps rp cp m none b7 b8 none none none) (mEx m g1) = .ok (pL ps) (mEx m g1) := rfl
      have k1 := lcL_mapT (g := gT (gsCons (gN 7) (gsCons (gN 11) gsNil))) (el := sVar 7) (s := wipeD (sEx w many ps rp cp m none b7 b8 none none none) [7, 11]) (m := mEx m g1) nD (fun p => .int (p.1 : Nat)) ps (fun p _ => ⟨sEx w many ps rp cp m none (some (.int p.1)) b8 none none (some (.int p.2)), rfl, rfl⟩)
      have k2 := lcL_mapT (g := gT (gsCons (gN 11) (gsCons (gN 8) gsNil))) (el := s2 dAdd (sB dLen (aCons (sVar 0) aNil)) (sVar 8)) (s := wipeD (sEx w many ps rp cp m none b7 b8 none none none) [11, 8]) (m := mEx m g1) nD (fun p => .int ((w.length + p.2 : Nat) : Int)) ps (fun p _ => ⟨sEx w many ps rp cp m none b7 (some (.int p.2)) none none (some (.int p.1)), rfl, by
        rw [s2_of (len0 _ _ _ _ _ _ _) (y := .int p.2) (m2 := mEx m g1) rfl]
        unfold dAdd
        dsimp only
        rw [Int.natCast_add]⟩)
      have q1 : sLc (iVal (sVar 2)) (gT (gsCons (gN 7) (gsCons (gN 11) gsNil))) bYes (sVar 7) [7, 11] (sEx w many ps rp cp m none b7 b8 none none none) (mEx m g1) = .ok (.lst (ps.map fun p => .int (p.1 : Nat))) (mEx m g1) := by
        rw [e_sLc, src]
        simp only [q_bind1]
        rw [if_pos (by simp; omega), k1]
      have q2 : sLc (iVal (sVar 2)) (gT (gsCons (gN 11) (gsCons (gN 8) gsNil))) bYes (s2 dAdd (sB dLen (aCons (sVar 0) aNil)) (sVar 8)) [11, 8] (sEx w many ps rp cp m none b7 b8 none none none) (mEx m g1) = .ok (.lst (ps.map fun p => .int ((w.length + p.2 : Nat) : Int))) (mEx m g1) := by
        rw [e_sLc, src]
        simp only [q_bind1]
        rw [if_pos (by simp; omega), k2]
      rw [s2_of q1 q2]
      unfold dAdd
      dsimp only
      simp only [lOf]
      rw [if_pos (by simp; omega)]
      unfold pairedL
      simp [Function.comp_def]
    have hi : iEn (aCons (s2 dAdd (s2 dIx (sVar 3) (sC (.int 0))) (s2 dIx (sVar 3) (sC (.int 1)))) aNil) (sEx w many ps rp cp m (some (.lst (wL (pairedL w.length ps)))) b7 b8 none none none) (mEx m g1) = .ok (((List.range (rp ++ cp).length).map fun i : Nat => ((i, (rp ++ cp).getD i 0) : Nat × Int)).map eD) (mEx m g1) := by
      have x0 : s2 dIx (sVar 3) (sC (.int 0)) (sEx w many ps rp cp m (some (.lst (wL (pairedL w.length ps)))) b7 b8 none none none) (mEx m g1) = .ok (.tup (iL rp)) (mEx m g1) := rfl
      have x1 : s2 dIx (sVar 3) (sC (.int 1)) (sEx w many ps rp cp m (some (.lst (wL (pairedL w.length ps)))) b7 b8 none none none) (mEx m g1) = .ok (.tup (iL cp)) (mEx m g1) := rfl
      have x2 : s2 dAdd (s2 dIx (sVar 3) (sC (.int 0))) (s2 dIx (sVar 3) (sC (.int 1))) (sEx w many ps rp cp m (some (.lst (wL (pairedL w.length ps)))) b7 b8 none none none) (mEx m g1) = .ok (.tup (iL (rp ++ cp))) (mEx m g1) := by
        rw [s2_of x0 x1]
        unfold dAdd
        dsimp only
        rw [if_pos (by simp; omega)]
        simp
      rw [← range_enum]
      simp only [e_iEn, e_aCons, e_aNil, x2, q_bind1]
      rfl
    obtain ⟨b9, b10, e2⟩ := x2_loop (ps := ps) (rp := rp) (cp := cp) (m := m) (paired := pairedL w.length ps) ((List.range (rp ++ cp).length).map fun i : Nat => ((i, (rp ++ cp).getD i 0) : Nat × Int)) g1 _ b7 b8 none none none (fun q hq => by
      obtain ⟨i, hi, rfl⟩ := List.mem_map.mp hq
      have := List.mem_range.mp hi
      rw [List.length_append] at this
      dsimp only
      omega) h1 (by simp; omega)
    have eg : (((List.range (rp ++ cp).length).map fun i : Nat => ((i, (rp ++ cp).getD i 0) : Nat × Int)).foldl (exS2 w.length (w.length + many) (pairedL w.length ps)) g1) = exG w many ps rp cp := by rw [← hg1]; rfl
    rw [eg] at e2
    refine (sSeq_nx (s' := sEx w many ps rp cp m (some (.lst (wL (pairedL w.length ps)))) b7 b8 b9 b10 none) (m' := mEx m (exG w many ps rp cp)) ?_).trans ?_
    · rw [sFor_of hi]
      exact e2
    refine sRet_of ?_
    unfold sFrz2
    rw [show sVar 5 (sEx w many ps rp cp m (some (.lst (wL (pairedL w.length ps)))) b7 b8 b9 b10 none) (mEx m (exG w many ps rp cp)) = .ok (.ref (m.length + (w.length + many + 1))) (mEx m (exG w many ps rp cp)) from rfl]
    simp only [q_bind1]
    have := frz2_ok m (exG w many ps rp cp)
    rw [wy.len] at this
    rw [wy.len]
    exact this
  unfold f_exchanges runT
  rw [run_ret (n := 12) (ds := [.lst (tL w), .int many, .lst (pL ps), prcD rp cp]) hb]
  refine trim_app rfl hm ?_
  show D.undr.all _ _ = true
  refine undr_all.mpr fun d hd => ?_
  obtain ⟨l, _, rfl⟩ := List.mem_map.mp hd
  exact undr_wL _ _
/-! ### the sure pairs -/
noncomputable def sureL (w : List (List Int)) (many : Nat) (ps : List (Nat × Nat)) (rp cp : List Int) : List (Nat × Nat) := ps.filter fun p => !rB (exG w many ps rp cp) p.1 (w.length + p.2)
theorem sure_pairs_ok (hm : Wf m) (t : Tbl w many) (hw : w.length ≤ 16) (hmn : many ≤ 16) : ∃ ps rp cp, Best w many ps rp cp ∧ f_sure_pairs [.lst (tL w), .int many] m = .ok (.lst (pL (sureL w many ps rp cp))) m := by
  obtain ⟨ps, rp, cp, e, b⟩ := best_ok hm t
  have lr : rp.length = w.length := b.rl
  have lc : cp.length = many := b.cl
  have bl := best_len b
  have tl := tight_len (rp := rp) (cp := cp) t hw hmn
  have wy := exG_wy (ps := ps) (w := w) (many := many) lr lc
  obtain ⟨G, hls⟩ := wy.gr (by omega) (by omega)
  have ex := exchanges_ok (ps := ps) hm t hw hmn lr lc (by omega)
  refine ⟨ps, rp, cp, b, ?_⟩
  have hb : b_sure_pairs [some (.lst (tL w)), some (.int many), none, none, none, none, none] m = .ret (.lst (pL (sureL w many ps rp cp))) (m ++ []) := by
    rw [List.append_nil]
    unfold b_sure_pairs
    refine (sSeq_nx (s' := [some (.lst (tL w)), some (.int many), none, some (.lst (pL ps)), some (prcD rp cp), none, none]) (m' := m) ?_).trans ?_
    · rw [e_sAsg, sCall_of (n := 2) (ds := [.lst (tL w), .int many]) (m1 := m) rfl rfl e]
      rfl
    refine (sSeq_nx (s' := [some (.lst (tL w)), some (.int many), some (gD (exG w many ps rp cp)), some (.lst (pL ps)), some (prcD rp cp), none, none]) (m' := m) ((sSet_of (sCall_of (n := 4) (ds := [.lst (tL w), .int many, .lst (pL ps), prcD rp cp]) (m1 := m) rfl rfl ex)).trans rfl)).trans ?_
    refine sRet_of ?_
    have src : iVal (sVar 3) [some (.lst (tL w)), some (.int many), some (gD (exG w many ps rp cp)), some (.lst (pL ps)), some (prcD rp cp), none, none] m = .ok (pL ps) m := rfl
    have q := lcL_filterT (g := gT (gsCons (gN 5) (gsCons (gN 6) gsNil))) (tt := bTrim (sTst (s2 dKnotin (s2 dAdd (sB dLen (aCons (sVar 0) aNil)) (sVar 6)) (sCall 2 f_reached (aCons (sVar 2) (aCons (sVar 5) aNil)))))) (el := sTup (aCons (sVar 5) (aCons (sVar 6) aNil))) (s := wipeD [some (.lst (tL w)), some (.int many), some (gD (exG w many ps rp cp)), some (.lst (pL ps)), some (prcD rp cp), none, none] [5, 6]) (m := m) nD (fun p => !rB (exG w many ps rp cp) p.1 (w.length + p.2)) nD ps (fun p hp => by
      obtain ⟨h1, h2, _⟩ := b.rng p hp
      refine ⟨[some (.lst (tL w)), some (.int many), some (gD (exG w many ps rp cp)), some (.lst (pL ps)), some (prcD rp cp), some (.int p.1), some (.int p.2)], rfl, ?_, fun _ => rfl⟩
      obtain ⟨S, es, hn, hS, hl⟩ := reached_ok (m := m) (g := exG w many ps rp cp) (a := p.1) G hls (by rw [wy.len]; omega)
      refine bTrim_of (l := [.dik (kvs S), .lst (wL [])]) hm ?_
      have e1 : s2 dAdd (sB dLen (aCons (sVar 0) aNil)) (sVar 6) [some (.lst (tL w)), some (.int many), some (gD (exG w many ps rp cp)), some (.lst (pL ps)), some (prcD rp cp), some (.int p.1), some (.int p.2)] m = .ok (.int ((w.length + p.2 : Nat) : Int)) m := by
        have el : sB dLen (aCons (sVar 0) aNil) [some (.lst (tL w)), some (.int many), some (gD (exG w many ps rp cp)), some (.lst (pL ps)), some (prcD rp cp), some (.int p.1), some (.int p.2)] m = .ok (.int (w.length : Nat)) m := by simp
        rw [s2_of el (y := .int p.2) (m2 := m) rfl]
        unfold dAdd
        dsimp only
        rw [Int.natCast_add]
      have e2 : sCall 2 f_reached (aCons (sVar 2) (aCons (sVar 5) aNil)) [some (.lst (tL w)), some (.int many), some (gD (exG w many ps rp cp)), some (.lst (pL ps)), some (prcD rp cp), some (.int p.1), some (.int p.2)] m = .ok (.ref m.length) (mRe m S []) := sCall_of (ds := [gD (exG w many ps rp cp), .int p.1]) (m1 := m) rfl rfl es
      rw [e_sTst, s2_of e1 e2]
      unfold dKnotin
      rw [mRe0]
      simp only [Rx.keyOf]
      rw [valG_kvs]
      have hd : decide (w.length + p.2 ∈ S) = rB (exG w many ps rp cp) p.1 (w.length + p.2) := by
        rw [Bool.eq_iff_iff, decide_eq_true_iff, rB_iff, hS]
      rw [hd]
      rfl)
    rw [e_sLc, src]
    simp only [q_bind1]
    rw [if_pos (by simp; omega), q]
    rfl
  unfold f_sure_pairs runT
  rw [run_ret (n := 7) (ds := [.lst (tL w), .int many]) hb]
  refine trim_app rfl hm ?_
  show D.undr.all _ _ = true
  refine undr_all.mpr fun d hd => ?_
  obtain ⟨p, _, rfl⟩ := List.mem_map.mp hd
  rfl
end
end Px
set_option Elab.async false
set_option linter.all false
set_option maxRecDepth 100000
set_option maxHeartbeats 1000000
namespace Px
open PySem PySem.Spec PyProof.Rows L2 Rx
theorem law_rule_ok3 {ns : List Int} {r : MO} (h : Row ns r) (rest : Mu) : ∃ (ru : Int × Int × Int) (r' : MO), f__law_rule [.ref 0] (r :: rest) = .ok (ruD ru) (r' :: rest) ∧ Row ns r' ∧ Rule ru ∧ ru.1 ≤ 9 ∧ ru.2.2 ≤ 3 := by
  obtain ⟨a, r1, e1, h1, a1, a2⟩ := taken_ok h (k := 5) (by decide) (by decide) rest
  obtain ⟨b, r2, e2, h2, b1, b2⟩ := taken_ok h1 (k := 4) (by decide) (by decide) rest
  obtain ⟨c, r3, e3, h3, c1, c2⟩ := taken_ok h2 (k := 3) (by decide) (by decide) rest
  obtain ⟨x, hx, ex⟩ := pick_mem (l := [2, 3, 5, 9, 0]) a1 a2 (r1 :: rest)
  obtain ⟨y, hy, ey⟩ := pick_mem (l := [3, 1, 0, 99]) b1 b2 (r2 :: rest)
  obtain ⟨z, hz, ez⟩ := pick_mem (l := [0, 1, 3]) c1 c2 (r3 :: rest)
  have bx : ∀ v ∈ ([2, 3, 5, 9, 0] : List Int), 0 ≤ v ∧ v ≤ 9 := by decide
  have by' : ∀ v ∈ ([3, 1, 0, 99] : List Int), 0 ≤ v ∧ v ≤ 99 := by decide
  have bz : ∀ v ∈ ([0, 1, 3] : List Int), 0 ≤ v ∧ v ≤ 3 := by decide
  have b1' := bx x hx
  have b2' := by' y hy
  have b3' := bz z hz
  refine ⟨(x, y, z), r3, ?_, h3, ⟨by dsimp only; omega, by dsimp only; omega, by dsimp only; omega⟩, b1'.2, b3'.2⟩
  refine run_ret ?_
  show b__law_rule [some (.ref 0)] (r :: rest) = _
  unfold b__law_rule
  refine sRet_of ?_
  have g1 := pickT (S := [some (.ref 0)]) (k0 := 0) (f := sLst (aCons (sC (.int 2)) (aCons (sC (.int 3)) (aCons (sC (.int 5)) (aCons (sC (.int 9)) (aCons (sC (.int 0)) aNil)))))) (l := [2, 3, 5, 9, 0]) (by simp) e1 rfl ex
  have g2 := pickT (S := [some (.ref 0)]) (k0 := 0) (f := sLst (aCons (sC (.int 3)) (aCons (sC (.int 1)) (aCons (sC (.int 0)) (aCons (sC (.int 99)) aNil))))) (l := [3, 1, 0, 99]) (by simp) e2 rfl ey
  have g3 := pickT (S := [some (.ref 0)]) (k0 := 0) (f := sLst (aCons (sC (.int 0)) (aCons (sC (.int 1)) (aCons (sC (.int 3)) aNil)))) (l := [0, 1, 3]) (by simp) e3 rfl ez
  simp only [e_sTup, e_aCons, e_aNil, g1, g2, g3, q_bind1]
  rfl
/-! ### one rule and another -/
theorem cost_wider {a b : Lt} {ru rv : Int × Int × Int} {c : Int} (h0 : 0 ≤ ru.1) (h1 : ru.1 ≤ rv.1) (h2 : ru.2.1 ≤ rv.2.1) (h3 : ru.2.2 = rv.2.2) (h : cost a b ru = some c) : cost a b rv = some c := by
  unfold cost at h ⊢
  have hm : ru.1 * ru.1 ≤ rv.1 * rv.1 := Int.mul_le_mul h1 h1 h0 (by omega)
  split at h
  · cases h
  · rename_i hn
    rw [not_or] at hn
    rw [if_neg (by rw [not_or]; exact ⟨by omega, by omega⟩), ← h3]
    exact h
theorem cost_dear {a b : Lt} {ru : Int × Int × Int} {c : Int} (h : cost a b ru = some c) : cost a b (ru.1, ru.2.1, ru.2.2 + 1) = some (c + ((a.2.2 - b.2.2).natAbs : Int)) := by
  unfold cost at h ⊢
  split at h
  · cases h
  · rename_i hn
    cases h
    dsimp only
    rw [if_neg hn, Int.add_mul, Int.one_mul]
    congr 1
    omega
theorem cost_dear' {a b : Lt} {ru : Int × Int × Int} {d : Int} (h : cost a b (ru.1, ru.2.1, ru.2.2 + 1) = some d) : ∃ c, cost a b ru = some c ∧ c ≤ d := by
  cases e : cost a b ru with
  | none =>
    exfalso
    unfold cost at h e
    dsimp only at h
    split at e
    · rename_i hy
      rw [if_pos hy] at h
      cases h
    · cases e
  | some c =>
    rw [cost_dear e] at h
    cases h
    exact ⟨c, rfl, by omega⟩
theorem cost_dim0 {a b : Lt} {ru : Int × Int × Int} (h0 : ru.2.1 = 0) : cost a b (ru.1, ru.2.1, ru.2.2 + 1) = cost a b ru := by
  cases e : cost a b ru with
  | none =>
    cases e2 : cost a b (ru.1, ru.2.1, ru.2.2 + 1) with
    | none => rfl
    | some d =>
      obtain ⟨c, e3, _⟩ := cost_dear' e2
      rw [e] at e3
      cases e3
  | some c =>
    rw [cost_dear e]
    unfold cost at e
    split at e
    · cases e
    · rename_i hn
      rw [not_or] at hn
      congr 1
      omega
section
variable {one other : List Lt} {ru rv : Int × Int × Int} {ps : List (Nat × Nat)}
theorem cAt_map {f : Int → Int} (h : ∀ a b c, cost a b ru = some c → ∃ d, cost a b rv = some d ∧ c ≤ d) {p : Nat × Nat} {c : Int} (hp : cAt one other ru p = some c) : ∃ d, cAt one other rv p = some d ∧ c ≤ d := by
  obtain ⟨a, b, e1, e2, e3⟩ := cAt_rng hp
  obtain ⟨d, hd, hc⟩ := h a b c e3
  exact ⟨d, by unfold cAt; rw [e1, e2]; exact hd, hc⟩
theorem costs_le (h : ∀ a b c, cost a b ru = some c → ∃ d, cost a b rv = some d ∧ c ≤ d) : ∀ {ps : List (Nat × Nat)}, (∀ p ∈ ps, ∃ c, cAt one other ru p = some c) → (∀ p ∈ ps, ∃ c, cAt one other rv p = some c) ∧ costs one other ru ps ≤ costs one other rv ps
  | [], _ => ⟨fun p hp => absurd hp (List.not_mem_nil), Int.le_refl _⟩
  | p :: ps, hp => by
    obtain ⟨h1, h2⟩ := costs_le h (ps := ps) fun q hq => hp q (List.mem_cons_of_mem _ hq)
    obtain ⟨c, hc⟩ := hp p List.mem_cons_self
    obtain ⟨d, hd, hcd⟩ := cAt_map (f := id) h hc
    refine ⟨fun q hq => ?_, ?_⟩
    · rcases List.mem_cons.mp hq with rfl | hq
      · exact ⟨d, hd⟩
      · exact h1 q hq
    · unfold costs at h2 ⊢
      rw [List.map_cons, List.sum_cons, List.map_cons, List.sum_cons, hc, hd]
      simp only [Option.getD_some]
      omega
theorem Cho.to (h : ∀ a b c, cost a b ru = some c → ∃ d, cost a b rv = some d ∧ c ≤ d) (C : Cho one other ru ps) : Cho one other rv ps := ⟨(costs_le h C.may).1, C.rise, C.cols⟩
theorem costs_same (h : ∀ a b c, cost a b ru = some c → cost a b rv = some c) : ∀ {ps : List (Nat × Nat)}, (∀ p ∈ ps, ∃ c, cAt one other ru p = some c) → costs one other ru ps = costs one other rv ps
  | [], _ => rfl
  | p :: ps, hp => by
    have ih := costs_same h (ps := ps) fun q hq => hp q (List.mem_cons_of_mem _ hq)
    obtain ⟨c, hc⟩ := hp p List.mem_cons_self
    obtain ⟨a, b, e1, e2, e3⟩ := cAt_rng hc
    have hd : cAt one other rv p = some c := by unfold cAt; rw [e1, e2]; exact h a b c e3
    unfold costs at ih ⊢
    rw [List.map_cons, List.sum_cons, List.map_cons, List.sum_cons, hc, hd, ih]
end
/-! ### a list against itself -/
theorem cost_self (t : Lt) {ru : Int × Int × Int} (hr : Rule ru) : cost t t ru = some 0 := by
  unfold cost
  have h1 : 0 ≤ ru.1 * ru.1 := Int.mul_nonneg hr.a.1 hr.a.1
  have h2 := hr.b.1
  simp only [Int.sub_self, Int.mul_zero, Int.natAbs_zero]
  rw [if_neg (by rw [not_or]; exact ⟨by omega, by omega⟩)]
  simp
theorem self_best {one : List Lt} {ru : Int × Int × Int} (hr : Rule ru) (hl : one.length ≤ 16) {ps : List (Nat × Nat)} {rp cp : List Int} (b : Best (wT one one ru) one.length ps rp cp) : ps.length = one.length ∧ costs one one ru ps = 0 := by
  have at0 : ∀ i < one.length, cAt one one ru (i, i) = some 0 := fun i hi => by
    obtain ⟨t, ht⟩ := get_ok hi
    unfold cAt
    rw [ht]
    exact cost_self t hr
  have C : Cho one one ru ((List.range one.length).map fun i => (i, i)) := ⟨fun p hp => by
    obtain ⟨i, hi, rfl⟩ := List.mem_map.mp hp
    exact ⟨0, at0 i (List.mem_range.mp hi)⟩, by
    rw [List.pairwise_map]
    exact range_sorted _, by
    rw [List.map_map]
    have : ((fun p : Nat × Nat => p.2) ∘ fun i : Nat => (i, i)) = id := rfl
    rw [this, List.map_id]
    exact List.nodup_range⟩
  have c0 : costs one one ru ((List.range one.length).map fun i => (i, i)) = 0 := by
    unfold costs
    rw [List.map_map]
    have : ∀ l : List Nat, (∀ i ∈ l, i < one.length) → (l.map ((fun p : Nat × Nat => (cAt one one ru p).getD 0) ∘ fun i : Nat => (i, i))).sum = 0 := fun l => by
      induction l with
      | nil => intro _; rfl
      | cons a l ih =>
        intro h
        rw [List.map_cons, List.sum_cons, ih fun i hi => h i (List.mem_cons_of_mem _ hi)]
        simp only [Function.comp]
        rw [at0 a (h a List.mem_cons_self)]
        rfl
    exact this _ fun i hi => List.mem_range.mp hi
  have P := b.cho hr
  obtain ⟨h1, h2⟩ := b.least hr hl C
  rw [List.length_map, List.length_range] at h1 h2
  have h3 := P.len
  have e : ps.length = one.length := by omega
  refine ⟨e, ?_⟩
  have := h2 e.symm
  rw [c0] at this
  have := (costs_rng hr P.may).1
  omega
/-! ### groups and wider groups -/
theorem reach_trans {g : List (List Nat)} {a b c : Nat} (h1 : Reach g a b) (h2 : Reach g b c) : Reach g a c := by
  induction h2 with
  | refl => exact h1
  | step _ e ih => exact .step ih e
theorem reach_sym {g : List (List Nat)} (hs : ∀ a b, b ∈ g.getD a [] → a ∈ g.getD b []) {a b : Nat} (h : Reach g a b) : Reach g b a := by
  induction h with
  | refl => exact .refl
  | step r e ih => exact reach_trans (.step .refl (hs _ _ e)) ih
theorem reach_mono {g g' : List (List Nat)} (hs : ∀ a b, b ∈ g.getD a [] → b ∈ g'.getD a []) {a b : Nat} (h : Reach g a b) : Reach g' a b := by
  induction h with
  | refl => exact .refl
  | step r e ih => exact .step ih (hs _ _ e)
theorem mem_nG {ts : List Lt} {n : Int} {a b : Nat} : b ∈ (nG ts n).getD a [] ↔ ∃ x y, ts[a]? = some x ∧ ts[b]? = some y ∧ nr x y n = true := by
  by_cases ha : a < ts.length
  · obtain ⟨x, hx⟩ := get_ok ha
    have : (nG ts n)[a]? = some ((List.range ts.length).filter fun j => nr x (ts.getD j lt0) n) := by unfold nG; rw [List.getElem?_map, hx]; rfl
    rw [getD_of this, List.mem_filter, List.mem_range]
    constructor
    · rintro ⟨h1, h2⟩
      obtain ⟨y, hy⟩ := get_ok h1
      rw [getD_of hy] at h2
      exact ⟨x, y, hx, hy, h2⟩
    · rintro ⟨x', y, hx', hy, h⟩
      rw [hx] at hx'
      cases hx'
      exact ⟨(List.getElem?_eq_some_iff.mp hy).1, by rw [getD_of hy]; exact h⟩
  · have h1 : (nG ts n).getD a [] = [] := by
      rw [List.getD_eq_getElem?_getD, List.getElem?_eq_none (by rw [nG_len]; omega)]
      rfl
    rw [h1]
    constructor
    · intro h; cases h
    · rintro ⟨x, y, hx, _⟩
      exact absurd (List.getElem?_eq_some_iff.mp hx).1 ha
theorem nr_sym (x y : Lt) (n : Int) : nr x y n = nr y x n := by
  unfold nr
  have e : ∀ a b : Int, (a - b) * (a - b) = (b - a) * (b - a) := fun a b => by
    have : a - b = -(b - a) := by omega
    rw [this, Int.neg_mul_neg]
  rw [e x.1 y.1, e x.2.1 y.2.1]
theorem nG_sym {ts : List Lt} {n : Int} : ∀ a b, b ∈ (nG ts n).getD a [] → a ∈ (nG ts n).getD b [] := fun a b h => by
  obtain ⟨x, y, h1, h2, h3⟩ := mem_nG.mp h
  exact mem_nG.mpr ⟨y, x, h2, h1, by rw [nr_sym]; exact h3⟩
theorem nG_mono {ts : List Lt} {n n' : Int} (h0 : 0 ≤ n) (h : n ≤ n') : ∀ a b, b ∈ (nG ts n).getD a [] → b ∈ (nG ts n').getD a [] := fun a b hb => by
  obtain ⟨x, y, h1, h2, h3⟩ := mem_nG.mp hb
  refine mem_nG.mpr ⟨x, y, h1, h2, ?_⟩
  unfold nr at h3 ⊢
  have hm : n * n ≤ n' * n' := Int.mul_le_mul h h h0 (by omega)
  have := of_decide_eq_true h3
  exact decide_eq_true (by omega)
/-- the groups -/
theorem mem_grps {g : List (List Nat)} {l : List Nat} : l ∈ grps g ↔ ∃ i, i < g.length ∧ (grp g i).head? = some i ∧ l = grp g i := by
  unfold grps
  simp only [List.mem_map, List.mem_filter, List.mem_range, decide_eq_true_eq]
  constructor
  · rintro ⟨i, ⟨h1, h2⟩, rfl⟩; exact ⟨i, h1, h2, rfl⟩
  · rintro ⟨i, h1, h2, rfl⟩; exact ⟨i, ⟨h1, h2⟩, rfl⟩
theorem grp_eq {g : List (List Nat)} (hs : ∀ a b, b ∈ g.getD a [] → a ∈ g.getD b []) {a b : Nat} (h : Reach g a b) : grp g a = grp g b := by
  unfold grp
  refine List.filter_congr fun x _ => ?_
  rw [Bool.eq_iff_iff, rB_iff, rB_iff]
  exact ⟨fun r => reach_trans (reach_sym hs h) r, fun r => reach_trans h r⟩
theorem one_lot {g g' : List (List Nat)} (hl : g'.length = g.length) (hs : ∀ a b, b ∈ g'.getD a [] → a ∈ g'.getD b []) (hm : ∀ a b, b ∈ g.getD a [] → b ∈ g'.getD a []) {l : List Nat} (h : l ∈ grps g) : ((grps g').filter fun lot => decide (l.filter (fun k => !decide (k ∈ lot)) = [])).length = 1 := by
  obtain ⟨i, hi, hh, rfl⟩ := mem_grps.mp h
  have him : i ∈ grp g i := mem_grp.mpr ⟨hi, .refl⟩
  have hi' : i < g'.length := by omega
  have him' : i ∈ grp g' i := mem_grp.mpr ⟨hi', .refl⟩
  obtain ⟨k, hk⟩ : ∃ k, (grp g' i).head? = some k := by
    cases e : grp g' i with
    | nil => rw [e] at him'; cases him'
    | cons a b => exact ⟨a, rfl⟩
  have hkm : k ∈ grp g' i := List.mem_of_mem_head? hk
  obtain ⟨hk1, hk2⟩ := mem_grp.mp hkm
  have ek := grp_eq hs hk2
  have eq1 : ∀ j, j < g'.length → (decide ((grp g i).filter (fun k => !decide (k ∈ grp g' j)) = []) = true ↔ Reach g' j i) := fun j hj => by
    rw [decide_eq_true_iff, List.filter_eq_nil_iff]
    constructor
    · intro q
      have := q i him
      simp at this
      exact (mem_grp.mp this).2
    · intro r x hx
      have := mem_grp.mp hx
      have r2 : Reach g' j x := reach_trans r (reach_mono hm this.2)
      simp
      exact mem_grp.mpr ⟨by omega, r2⟩
  unfold grps
  rw [List.filter_map, List.length_map, List.filter_filter]
  have key : ((List.range g'.length).filter fun j => (((fun lot => decide ((grp g i).filter (fun k => !decide (k ∈ lot)) = [])) ∘ grp g') j && decide ((grp g' j).head? = some j))) = (List.range g'.length).filter fun j => decide (j = k) := by
    refine List.filter_congr fun j hj => ?_
    have hj := List.mem_range.mp hj
    rw [Bool.eq_iff_iff, Bool.and_eq_true]
    simp only [Function.comp]
    rw [eq1 j hj, decide_eq_true_iff, decide_eq_true_iff]
    constructor
    · rintro ⟨r, h2⟩
      rw [grp_eq hs r, hk] at h2
      cases h2
      rfl
    · rintro rfl
      exact ⟨reach_sym hs hk2, by rw [← ek]; exact hk⟩
  rw [key]
  have cnt : ∀ n, k < n → ((List.range n).filter fun j => decide (j = k)).length = 1 := fun n hn => by
    have e : (List.range n).filter (fun j => decide (j = k)) = [k] := by
      have hnd : ((List.range n).filter fun j => decide (j = k)).Nodup := List.nodup_range.sublist List.filter_sublist
      have hp : ((List.range n).filter fun j => decide (j = k)).Perm [k] := by
        rw [List.perm_ext_iff_of_nodup hnd (by simp)]
        intro x
        simp
        intro e
        omega
      exact List.perm_singleton.mp hp
    rw [e]
    rfl
  exact cnt _ hk1
end Px
set_option Elab.async false
set_option linter.all false
set_option maxRecDepth 100000
set_option maxHeartbeats 1000000
namespace Px
open PySem PySem.Spec PyProof.Rows L2 Rx
def b23_0 : SSt := (sSet 1 (sCall 1 f__law_row (aCons (sVar 0) aNil)))
def b23_1 : SSt := (sPar3 7 8 9 (aCons (sCall 3 f__law_lights (aCons (sVar 1) (aCons (sC (.int 8)) (aCons (sC (.int 5)) aNil)))) (aCons (sCall 3 f__law_lights (aCons (sVar 1) (aCons (sC (.int 8)) (aCons (sC (.int 5)) aNil)))) (aCons (sCall 1 f__law_rule (aCons (sVar 1) aNil)) aNil))))
def b23_2 : SSt := (sSet 2 (sTup (aCons (s2 dAdd (s2 dIx (sVar 9) (sC (.int 0))) (sCall 2 f__law_taken (aCons (sVar 1) (aCons (sC (.int 4)) aNil)))) (aCons (sB dMin2 (aCons (sC (.int 99)) (aCons (s2 dAdd (s2 dIx (sVar 9) (sC (.int 1))) (sCall 2 f__law_taken (aCons (sVar 1) (aCons (sC (.int 3)) aNil)))) aNil))) (aCons (s2 dIx (sVar 9) (sC (.int 2))) aNil)))))
def b23_3 : SSt := (sPar 10 11 (aCons (sCallK 3 0 4 (fun ds es => ds ++ ([(.ktup [(.int 0), (.int 0)])] ++ [])) f_pairing (aCons (sVar 7) (aCons (sVar 8) (aCons (sVar 9) aNil))) aNil) (aCons (sCallK 3 0 4 (fun ds es => ds ++ ([(.ktup [(.int 0), (.int 0)])] ++ [])) f_pairing (aCons (sVar 7) (aCons (sVar 8) (aCons (sVar 2) aNil))) aNil) aNil)))
def b23_4 : SSt := (sIf (bOr (sTst (s2 dLt (sB dLen (aCons (s2 dIx (sVar 11) (sC (.int 0))) aNil)) (sB dLen (aCons (s2 dIx (sVar 10) (sC (.int 0))) aNil)))) (bAnd (sTst (s2 dEq (sB dLen (aCons (s2 dIx (sVar 11) (sC (.int 0))) aNil)) (sB dLen (aCons (s2 dIx (sVar 10) (sC (.int 0))) aNil)))) (sTst (s2 dGt (s2 dIx (sVar 11) (sC (.int 1))) (s2 dIx (sVar 10) (sC (.int 1))))))) (sRet (sC (.bl false))) sNil)
def b23_5 : SSt := (sIf (sTst (s2 dNe (sCallK 5 0 6 (fun ds es => ds ++ ([(.ktup [(.int 0), (.int 0)])] ++ [])) f_settles (aCons (sVar 7) (aCons (sVar 8) (aCons (sVar 2) (aCons (s2 dIx (sVar 10) (sC (.int 0))) (aCons (s2 dIx (sVar 11) (sC (.int 2))) aNil))))) aNil) (s2 dEq (sTup (aCons (sB dLen (aCons (s2 dIx (sVar 10) (sC (.int 0))) aNil)) (aCons (s2 dIx (sVar 10) (sC (.int 1))) aNil))) (sTup (aCons (sB dLen (aCons (s2 dIx (sVar 11) (sC (.int 0))) aNil)) (aCons (s2 dIx (sVar 11) (sC (.int 1))) aNil)))))) (sRet (sC (.bl false))) sNil)
def b23_6 : SSt := (sSet 3 (s2 dAdd (sSl (sVar 9) oNo (oSo (sC (.int 2)))) (sTup (aCons (s2 dAdd (s2 dIx (sVar 9) (sC (.int 2))) (sC (.int 1))) aNil))))
def b23_7 : SSt := (sSet 4 (sCallK 3 0 4 (fun ds es => ds ++ ([(.ktup [(.int 0), (.int 0)])] ++ [])) f_pairing (aCons (sVar 7) (aCons (sVar 8) (aCons (sVar 3) aNil))) aNil))
def b23_8 : SSt := (sIf (bOr (sTst (s2 dNe (sB dLen (aCons (s2 dIx (sVar 4) (sC (.int 0))) aNil)) (sB dLen (aCons (s2 dIx (sVar 10) (sC (.int 0))) aNil)))) (sTst (s2 dLt (s2 dIx (sVar 4) (sC (.int 1))) (s2 dIx (sVar 10) (sC (.int 1)))))) (sRet (sC (.bl false))) sNil)
def b23_9 : SSt := (sIf (bAnd (sTst (s2 dEq (s2 dIx (sVar 9) (sC (.int 1))) (sC (.int 0)))) (sTst (s2 dNe (s2 dIx (sVar 4) (sC (.int 1))) (s2 dIx (sVar 10) (sC (.int 1)))))) (sRet (sC (.bl false))) sNil)
def b23_10 : SSt := (sIf (bAnd (sTst (s2 dEq (s2 dIx (sVar 9) (sC (.int 1))) (sC (.int 0)))) (sTst (s2 dNe (sCallK 3 0 4 (fun ds es => ds ++ ([(.ktup [(.int 0), (.int 0)])] ++ [])) f_sure (aCons (sVar 7) (aCons (sVar 8) (aCons (sVar 3) aNil))) aNil) (sCallK 3 0 4 (fun ds es => ds ++ ([(.ktup [(.int 0), (.int 0)])] ++ [])) f_sure (aCons (sVar 7) (aCons (sVar 8) (aCons (sVar 9) aNil))) aNil)))) (sRet (sC (.bl false))) sNil)
def b23_11 : SSt := (sSet 5 (sCall 2 f__law_taken (aCons (sVar 1) (aCons (sC (.int 5)) aNil))))
def b23_12 : SSt := (sPar 12 13 (aCons (sCall 2 f_groups (aCons (sVar 7) (aCons (sVar 5) aNil))) (aCons (sCall 2 f_groups (aCons (sVar 7) (aCons (s2 dAdd (sVar 5) (sC (.int 1))) aNil))) aNil)))
def b23_13_0 : SSt := (sIf (sTst (s2 dNe (sB dLen (aCons (sLc (iVal (sVar 13)) (gN 14) (sTst (s2 dEq (sLc (iVal (sVar 6)) (gN 15) (sTst (s2 dNotIn (sVar 15) (sVar 14))) (sVar 15) [15]) (sLst aNil))) (sVar 14) [14]) aNil)) (sC (.int 1)))) (sRet (sC (.bl false))) sNil)
def b23_13 : SSt := sFor (iVal (sVar 12)) (gN 6) b23_13_0
def b23_14 : SSt := (sRet (sAnd (s2 dEq (sB dLen (aCons (s2 dIx (sCallK 3 0 4 (fun ds es => ds ++ ([(.ktup [(.int 0), (.int 0)])] ++ [])) f_pairing (aCons (sVar 7) (aCons (sVar 7) (aCons (sVar 9) aNil))) aNil) (sC (.int 0))) aNil)) (sB dLen (aCons (sVar 7) aNil))) (s2 dEq (s2 dIx (sCallK 3 0 4 (fun ds es => ds ++ ([(.ktup [(.int 0), (.int 0)])] ++ [])) f_pairing (aCons (sVar 7) (aCons (sVar 7) (aCons (sVar 9) aNil))) aNil) (sC (.int 1))) (sC (.int 0)))))
abbrev pair0 (a b c : Nat) : SEx := sCallK 3 0 4 (fun ds es => ds ++ ([(.ktup [(.int 0), (.int 0)])] ++ [])) f_pairing (aCons (sVar a) (aCons (sVar b) (aCons (sVar c) aNil))) aNil
theorem call3 {f : List D → Mu → Res D} {S : Sd} {m : Mu} {a b c : Nat} {x y z d : D} (va : S[a]? = some (some x)) (vb : S[b]? = some (some y)) (vc : S[c]? = some (some z)) (h : f [x, y, z, s00] m = .ok d m) : sCallK 3 0 4 (fun ds es => ds ++ ([(.ktup [(.int 0), (.int 0)])] ++ [])) f (aCons (sVar a) (aCons (sVar b) (aCons (sVar c) aNil))) aNil S m = .ok d m := by
  rw [e_sCallK, show (aCons (sVar a) (aCons (sVar b) (aCons (sVar c) aNil))) S m = .ok [x, y, z] m by simp only [e_aCons, e_aNil, e_sVar, va, vb, vc, q_bind1]]
  simp only [q_bind1, e_aNil]
  rw [if_pos ⟨rfl, rfl, rfl⟩]
  exact h
def foD (ps : List (Nat × Nat)) (c : Int) (rp cp : List Int) : D := .tup [.tup (pL ps), .int c, prcD rp cp]
theorem ask23 {one other : List Lt} {ru : Int × Int × Int} {m : Mu} (hm : Wf m) (g1 : Good one) (g2 : Good other) (hr : Rule ru) : ∃ ps rp cp, f_pairing [.tup (lL one), .tup (lL other), ruD ru, s00] m = .ok (foD ps (costs one other ru ps) rp cp) m ∧ Best (wT one other ru) other.length ps rp cp := by
  obtain ⟨ps, rp, cp, e, b⟩ := pairing_ok hm g1 g2 hr (s := (0, 0)) (sd := s00) rfl (by decide) (by decide)
  rw [mv0] at e b
  rw [b.cost_eq hr] at e
  exact ⟨ps, rp, cp, e, b⟩
theorem sure23 {one other : List Lt} {ru : Int × Int × Int} {m : Mu} (hm : Wf m) (g1 : Good one) (g2 : Good other) (hr : Rule ru) : f_sure [.tup (lL one), .tup (lL other), ruD ru, s00] m = f_sure_pairs [.lst (tL (wT one other ru)), .int (other.length : Nat)] m ∧ ∃ L, f_sure_pairs [.lst (tL (wT one other ru)), .int (other.length : Nat)] m = .ok (.lst (pL L)) m := by
  have t : Tbl (wT one other ru) other.length := by have := wS_tbl (s := (0, 0)) g1 g2 hr; rwa [wS0] at this
  have l1 := g1.len
  have l2 := g2.len
  obtain ⟨ps, rp, cp, b, e⟩ := sure_pairs_ok hm t (by rw [wT_len]; exact l1) l2
  refine ⟨?_, _, e⟩
  rw [e]
  have ak := asked_ok (s := (0, 0)) (sd := s00) hm g1 g2 hr rfl (by decide) (by decide)
  rw [mv0] at ak
  refine run_ret ?_
  show b_sure [some (.tup (lL one)), some (.tup (lL other)), some (ruD ru), some s00] m = _
  unfold b_sure
  refine sRet_of (sCall_of (ds := [.lst (tL (wT one other ru)), .int (other.length : Nat)]) (m1 := m) ?_ rfl e)
  have q1 : sCall 4 f_asked_worths (aCons (sVar 0) (aCons (sVar 1) (aCons (sVar 2) (aCons (sVar 3) aNil)))) [some (.tup (lL one)), some (.tup (lL other)), some (ruD ru), some s00] m = .ok (.lst (tL (wT one other ru))) m := sCall_of (ds := [.tup (lL one), .tup (lL other), ruD ru, s00]) (m1 := m) rfl rfl ak
  have q2 : sB dLen (aCons (sVar 1) aNil) [some (.tup (lL one)), some (.tup (lL other)), some (ruD ru), some s00] m = .ok (.int (other.length : Nat)) m := by simp [lL]
  simp only [e_aCons, e_aNil, q1, q2, q_bind1]

section
variable {S : Sd} {m : Mu} {k : Nat} {ps : List (Nat × Nat)} {c : Int} {rp cp : List Int}
theorem fo0 (v : S[k]? = some (some (foD ps c rp cp))) : s2 dIx (sVar k) (sC (.int 0)) S m = .ok (.tup (pL ps)) m := by rw [s2_of (x := foD ps c rp cp) (y := .int 0) (m1 := m) (m2 := m) (by rw [e_sVar, v]) rfl]; rfl
theorem fo1 (v : S[k]? = some (some (foD ps c rp cp))) : s2 dIx (sVar k) (sC (.int 1)) S m = .ok (.int c) m := by rw [s2_of (x := foD ps c rp cp) (y := .int 1) (m1 := m) (m2 := m) (by rw [e_sVar, v]) rfl]; rfl
theorem fo2 (v : S[k]? = some (some (foD ps c rp cp))) : s2 dIx (sVar k) (sC (.int 2)) S m = .ok (prcD rp cp) m := by rw [s2_of (x := foD ps c rp cp) (y := .int 2) (m1 := m) (m2 := m) (by rw [e_sVar, v]) rfl]; rfl
theorem fol (v : S[k]? = some (some (foD ps c rp cp))) : sB dLen (aCons (s2 dIx (sVar k) (sC (.int 0))) aNil) S m = .ok (.int (ps.length : Nat)) m := by
  simp only [e_sB, e_aCons, e_aNil, fo0 v, q_bind1]
  simp
theorem ru1 {ru : Int × Int × Int} (v : S[k]? = some (some (ruD ru))) : s2 dIx (sVar k) (sC (.int 1)) S m = .ok (.int ru.2.1) m := by rw [s2_of (x := ruD ru) (y := .int 1) (m1 := m) (m2 := m) (by rw [e_sVar, v]) rfl]; rfl
theorem ru0 {ru : Int × Int × Int} (v : S[k]? = some (some (ruD ru))) : s2 dIx (sVar k) (sC (.int 0)) S m = .ok (.int ru.1) m := by rw [s2_of (x := ruD ru) (y := .int 0) (m1 := m) (m2 := m) (by rw [e_sVar, v]) rfl]; rfl
theorem ru2 {ru : Int × Int × Int} (v : S[k]? = some (some (ruD ru))) : s2 dIx (sVar k) (sC (.int 2)) S m = .ok (.int ru.2.2) m := by rw [s2_of (x := ruD ru) (y := .int 2) (m1 := m) (m2 := m) (by rw [e_sVar, v]) rfl]; rfl
end
theorem cutK3 (xs : List D) (k : Nat) : Rx.cutD xs none (some (k : Int)) = xs.take k := by
  unfold Rx.cutD
  rw [HT.sIx_nat, HT.sIx_none, Nat.sub_zero, List.drop_zero]
  rw [← List.take_take, List.take_length]
theorem sliceK3 {m : Mu} (xs : List D) (k : Nat) : dSl (.tup xs) none (some (k : Int)) m = .ok (.tup (xs.take k)) m := by
  unfold dSl
  simp only [q_seq3]
  rw [HT.sIx_nat, HT.sIx_none, cutK3]
  split
  · rename_i h
    rw [List.take_of_length_le (by have := h.2; omega)]
  · rfl
theorem wide23 {ns : List Int} {r : MO} {rest : Mu} (h : Row ns r) {ru : Int × Int × Int} (hr : Rule ru) (h9 : ru.1 ≤ 9) {S : Sd} (v1 : S[1]? = some (some (.ref 0))) (v9 : S[9]? = some (some (ruD ru))) : ∃ (rv : Int × Int × Int) (r' : MO), b23_2 S (r :: rest) = .nx (S.set 2 (some (ruD rv))) (r' :: rest) ∧ Row ns r' ∧ Rule rv ∧ ru.1 ≤ rv.1 ∧ ru.2.1 ≤ rv.2.1 ∧ ru.2.2 = rv.2.2 := by
  obtain ⟨x, r1, e1, h1, x0, x1⟩ := taken_ok h (k := 4) (by decide) (by decide) rest
  obtain ⟨y, r2, e2, h2, y0, y1⟩ := taken_ok h1 (k := 3) (by decide) (by decide) rest
  have ha := hr.a
  have hb := hr.b
  have hc := hr.c
  refine ⟨(ru.1 + x, (if ru.2.1 + y < 99 then ru.2.1 + y else 99), ru.2.2), r2, ?_, h2, ⟨by dsimp only; omega, by dsimp only; split <;> omega, hc⟩, by dsimp only; omega, by dsimp only; split <;> omega, rfl⟩
  unfold b23_2
  refine sSet_of ?_
  have t1 : sCall 2 f__law_taken (aCons (sVar 1) (aCons (sC (.int 4)) aNil)) S (r :: rest) = .ok (.int x) (r1 :: rest) := sCall_of (ds := [.ref 0, .int 4]) (m1 := r :: rest) (by simp only [e_aCons, e_aNil, e_sVar, v1, e_sC, q_bind1]) rfl e1
  have t2 : sCall 2 f__law_taken (aCons (sVar 1) (aCons (sC (.int 3)) aNil)) S (r1 :: rest) = .ok (.int y) (r2 :: rest) := sCall_of (ds := [.ref 0, .int 3]) (m1 := r1 :: rest) (by simp only [e_aCons, e_aNil, e_sVar, v1, e_sC, q_bind1]) rfl e2
  have q1 : s2 dAdd (s2 dIx (sVar 9) (sC (.int 0))) (sCall 2 f__law_taken (aCons (sVar 1) (aCons (sC (.int 4)) aNil))) S (r :: rest) = .ok (.int (ru.1 + x)) (r1 :: rest) := (s2_of (ru0 v9) t1).trans rfl
  have q2 : s2 dAdd (s2 dIx (sVar 9) (sC (.int 1))) (sCall 2 f__law_taken (aCons (sVar 1) (aCons (sC (.int 3)) aNil))) S (r1 :: rest) = .ok (.int (ru.2.1 + y)) (r2 :: rest) := (s2_of (ru1 v9) t2).trans rfl
  have q3 : sB dMin2 (aCons (sC (.int 99)) (aCons (s2 dAdd (s2 dIx (sVar 9) (sC (.int 1))) (sCall 2 f__law_taken (aCons (sVar 1) (aCons (sC (.int 3)) aNil)))) aNil)) S (r1 :: rest) = .ok (.int (if ru.2.1 + y < 99 then ru.2.1 + y else 99)) (r2 :: rest) := by
    simp only [e_sB, e_aCons, e_aNil, e_sC, q2, q_bind1]
    rfl
  simp only [e_sTup, e_aCons, e_aNil, q1, q3, ru2 v9, q_bind1]
  rfl
end Px
set_option Elab.async false
set_option linter.all false
set_option maxRecDepth 100000
set_option maxHeartbeats 1000000
namespace Px
open PySem PySem.Spec PyProof.Rows L2 Rx
section
variable {one other : List Lt} {ru rv : Int × Int × Int} {p1 p2 p3 : List (Nat × Nat)} {r1 q1 r2 q2 r3 q3 : List Int} {m : Mu} {S : Sd}
abbrev dearR (ru : Int × Int × Int) : Int × Int × Int := (ru.1, ru.2.1, ru.2.2 + 1)
theorem s23_4 {c1 c2 : Int} (v10 : S[10]? = some (some (foD p1 c1 r1 q1))) (v11 : S[11]? = some (some (foD p2 c2 r2 q2))) (h1 : p1.length ≤ p2.length) (h2 : p1.length = p2.length → c2 ≤ c1) : b23_4 S m = .nx S m := by
  unfold b23_4
  refine (sIf_f (m' := m) ?_).trans rfl
  have t1 : sTst (s2 dLt (sB dLen (aCons (s2 dIx (sVar 11) (sC (.int 0))) aNil)) (sB dLen (aCons (s2 dIx (sVar 10) (sC (.int 0))) aNil))) S m = .ok false m := by
    rw [e_sTst, s2_of (fol v11) (fol v10)]
    unfold dLt
    dsimp only
    rw [decide_eq_false (by omega)]
    rfl
  rw [bOr_f t1]
  by_cases e : p1.length = p2.length
  · have t2 : sTst (s2 dEq (sB dLen (aCons (s2 dIx (sVar 11) (sC (.int 0))) aNil)) (sB dLen (aCons (s2 dIx (sVar 10) (sC (.int 0))) aNil))) S m = .ok true m := by
      rw [e_sTst, s2_of (fol v11) (fol v10), dEq_int, decide_eq_true (by omega)]
      rfl
    rw [bAnd_t t2, e_sTst, s2_of (fo1 v11) (fo1 v10)]
    have := h2 e
    unfold dGt
    dsimp only
    rw [decide_eq_false (by omega)]
    rfl
  · have t2 : sTst (s2 dEq (sB dLen (aCons (s2 dIx (sVar 11) (sC (.int 0))) aNil)) (sB dLen (aCons (s2 dIx (sVar 10) (sC (.int 0))) aNil))) S m = .ok false m := by
      rw [e_sTst, s2_of (fol v11) (fol v10), dEq_int, decide_eq_false (by omega)]
      rfl
    rw [bAnd_f t2]
theorem s23_5 (hm : Wf m) (g1 : Good one) (g2 : Good other) (hv : Rule rv) {c1 c2 : Int} (v7 : S[7]? = some (some (.tup (lL one)))) (v8 : S[8]? = some (some (.tup (lL other)))) (v2 : S[2]? = some (some (ruD rv))) (v10 : S[10]? = some (some (foD p1 c1 r1 q1))) (v11 : S[11]? = some (some (foD p2 c2 r2 q2)))
    (C : Cho one other rv p1) (b2 : Best (wT one other rv) other.length p2 r2 q2) (e1 : c1 = costs one other rv p1) (e2 : c2 = costs one other rv p2) : b23_5 S m = .nx S m := by
  have lr : r2.length = one.length := by rw [b2.rl, wT_len]
  have lc : q2.length = other.length := b2.cl
  have l1 := g1.len
  have hs := settles0 hm g1 g2 hv C lr lc
  have bs := best_shows hv b2
  simp only [Bool.and_eq_true, decide_eq_true_eq] at bs
  rw [bs.1, bs.2.1, bs.2.2, Bool.and_true, Bool.true_and, cho_tw C.may, cho_tw (b2.cho hv).may] at hs
  have k1 := costs_rng hv C.may
  have k2 := costs_rng hv (b2.cho hv).may
  have k3 := C.len
  have k4 := (b2.cho hv).len
  have c1' : sCallK 5 0 6 (fun ds es => ds ++ ([(.ktup [(.int 0), (.int 0)])] ++ [])) f_settles (aCons (sVar 7) (aCons (sVar 8) (aCons (sVar 2) (aCons (s2 dIx (sVar 10) (sC (.int 0))) (aCons (s2 dIx (sVar 11) (sC (.int 2))) aNil))))) aNil S m = .ok (.bl (decide (2000000 * (p2.length : Int) - costs one other rv p2 = 2000000 * (p1.length : Int) - costs one other rv p1))) m := by
    rw [e_sCallK, show (aCons (sVar 7) (aCons (sVar 8) (aCons (sVar 2) (aCons (s2 dIx (sVar 10) (sC (.int 0))) (aCons (s2 dIx (sVar 11) (sC (.int 2))) aNil))))) S m = .ok [.tup (lL one), .tup (lL other), ruD rv, .tup (pL p1), prcD r2 q2] m by simp only [e_aCons, e_aNil, e_sVar, v7, v8, v2, fo0 v10, fo2 v11, q_bind1]]
    simp only [q_bind1, e_aNil]
    rw [if_pos ⟨rfl, rfl, rfl⟩]
    exact hs
  have tu : ∀ (k : Nat) (ps : List (Nat × Nat)) (c : Int) (rp cp : List Int), S[k]? = some (some (foD ps c rp cp)) → sTup (aCons (sB dLen (aCons (s2 dIx (sVar k) (sC (.int 0))) aNil)) (aCons (s2 dIx (sVar k) (sC (.int 1))) aNil)) S m = .ok (.tup (iL [(ps.length : Int), c])) m := fun k ps c rp cp v => by
    simp only [e_sTup, e_aCons, e_aNil, fol v, fo1 v, q_bind1]
    rfl
  have ok : ∀ a b : Int, okD (.tup (iL [a, b])) = true := fun a b => okD_of (okN_tup (okN_map okN_int _)) (by decide)
  have c2' : s2 dEq (sTup (aCons (sB dLen (aCons (s2 dIx (sVar 10) (sC (.int 0))) aNil)) (aCons (s2 dIx (sVar 10) (sC (.int 1))) aNil))) (sTup (aCons (sB dLen (aCons (s2 dIx (sVar 11) (sC (.int 0))) aNil)) (aCons (s2 dIx (sVar 11) (sC (.int 1))) aNil))) S m = .ok (.bl (decide ([(p1.length : Int), c1] = [(p2.length : Int), c2]))) m := by
    rw [s2_of (tu 10 p1 c1 r1 q1 v10) (tu 11 p2 c2 r2 q2 v11)]
    unfold dEq
    rw [show deref m (.tup (iL [(p1.length : Int), c1])) = .tup (iL [(p1.length : Int), c1]) from rfl, show deref m (.tup (iL [(p2.length : Int), c2])) = .tup (iL [(p2.length : Int), c2]) from rfl, if_pos ⟨ok _ _, ok _ _⟩, eqv_tup, eqvL_map eqv_int]
  unfold b23_5
  refine (sIf_f (m' := m) ?_).trans rfl
  rw [e_sTst, s2_of c1' c2', dNe_bl]
  have : (decide (2000000 * (p2.length : Int) - costs one other rv p2 = 2000000 * (p1.length : Int) - costs one other rv p1)) = decide ([(p1.length : Int), c1] = [(p2.length : Int), c2]) := by
    refine decide_eq_decide.mpr ?_
    rw [e1, e2]
    constructor
    · intro h
      have a1 : (p1.length : Int) = p2.length := by omega
      have a2 : costs one other rv p1 = costs one other rv p2 := by omega
      rw [a1, a2]
    · intro h
      injection h with h1 h2
      injection h2 with h2 _
      omega
  rw [this]
  simp
theorem s23_6 (v9 : S[9]? = some (some (ruD ru))) : b23_6 S m = .nx (S.set 3 (some (ruD (dearR ru)))) m := by
  unfold b23_6
  have q1 : sSl (sVar 9) oNo (oSo (sC (.int 2))) S m = .ok (.tup [.int ru.1, .int ru.2.1]) m := by
    rw [e_sSl, e_sVar, v9]
    simp only [q_bind1, e_oNo, e_oSo, e_sC]
    exact sliceK3 [.int ru.1, .int ru.2.1, .int ru.2.2] 2
  have q2 : sTup (aCons (s2 dAdd (s2 dIx (sVar 9) (sC (.int 2))) (sC (.int 1))) aNil) S m = .ok (.tup [.int (ru.2.2 + 1)]) m := by
    have : s2 dAdd (s2 dIx (sVar 9) (sC (.int 2))) (sC (.int 1)) S m = .ok (.int (ru.2.2 + 1)) m := (s2_of (ru2 v9) (y := .int 1) (m2 := m) rfl).trans rfl
    simp only [e_sTup, e_aCons, e_aNil, this, q_bind1]
    rfl
  exact sSet_of ((s2_of q1 q2).trans rfl)
theorem s23_8 {c1 c3 : Int} (v4 : S[4]? = some (some (foD p3 c3 r3 q3))) (v10 : S[10]? = some (some (foD p1 c1 r1 q1))) (h1 : p3.length = p1.length) (h2 : c1 ≤ c3) : b23_8 S m = .nx S m := by
  unfold b23_8
  refine (sIf_f (m' := m) ?_).trans rfl
  have t1 : sTst (s2 dNe (sB dLen (aCons (s2 dIx (sVar 4) (sC (.int 0))) aNil)) (sB dLen (aCons (s2 dIx (sVar 10) (sC (.int 0))) aNil))) S m = .ok false m := by
    rw [e_sTst, s2_of (fol v4) (fol v10), dNe_int, decide_eq_true (by omega)]
    rfl
  rw [bOr_f t1, e_sTst, s2_of (fo1 v4) (fo1 v10)]
  unfold dLt
  dsimp only
  rw [decide_eq_false (by omega)]
  rfl
theorem dim_t (v9 : S[9]? = some (some (ruD ru))) : sTst (s2 dEq (s2 dIx (sVar 9) (sC (.int 1))) (sC (.int 0))) S m = .ok (decide (ru.2.1 = 0)) m := by
  rw [e_sTst, s2_of (ru1 v9) (y := .int 0) (m2 := m) rfl, dEq_int]
  rfl
theorem s23_9 {c1 c3 : Int} (v9 : S[9]? = some (some (ruD ru))) (v4 : S[4]? = some (some (foD p3 c3 r3 q3))) (v10 : S[10]? = some (some (foD p1 c1 r1 q1))) (h : ru.2.1 = 0 → c3 = c1) : b23_9 S m = .nx S m := by
  unfold b23_9
  refine (sIf_f (m' := m) ?_).trans rfl
  by_cases c : ru.2.1 = 0
  · rw [bAnd_t (by rw [dim_t v9, decide_eq_true c]), e_sTst, s2_of (fo1 v4) (fo1 v10), dNe_int, decide_eq_true (h c)]
    rfl
  · rw [bAnd_f (by rw [dim_t v9, decide_eq_false c])]
theorem wT_dim0 (h : ru.2.1 = 0) : wT one other (dearR ru) = wT one other ru := by
  unfold wT
  refine List.map_congr_left fun a _ => List.map_congr_left fun b _ => ?_
  unfold worth
  rw [cost_dim0 h]
theorem s23_10 (hm : Wf m) (g1 : Good one) (g2 : Good other) (hr : Rule ru) (hd : Rule (dearR ru)) (v7 : S[7]? = some (some (.tup (lL one)))) (v8 : S[8]? = some (some (.tup (lL other)))) (v9 : S[9]? = some (some (ruD ru))) (v3 : S[3]? = some (some (ruD (dearR ru)))) : b23_10 S m = .nx S m := by
  unfold b23_10
  refine (sIf_f (m' := m) ?_).trans rfl
  by_cases c : ru.2.1 = 0
  · obtain ⟨e1, L, e2⟩ := sure23 hm g1 g2 hr
    obtain ⟨e3, _⟩ := sure23 hm g1 g2 hd
    rw [wT_dim0 c, e2] at e3
    rw [e2] at e1
    have k1 := call3 v7 v8 v3 e3
    have k2 := call3 v7 v8 v9 e1
    have ok : okD (.lst (pL L)) = true := okD_of (okN_lst (okN_map okN_nD L)) (by decide)
    rw [bAnd_t (by rw [dim_t v9, decide_eq_true c]), e_sTst, s2_of k1 k2]
    unfold dNe
    rw [show deref m (.lst (pL L)) = .lst (pL L) from rfl, if_pos ⟨ok, ok⟩, eqv_lst, eqvL_map eqv_nD]
    simp
  · rw [bAnd_f (by rw [dim_t v9, decide_eq_false c])]
theorem okN_wT (l : List Nat) : OkN 1 (.tup (wL l)) := okN_tup (okN_map (fun i : Nat => okN_int _) l)
theorem s23_13 {n : Int} (h0 : 0 ≤ n) (hl : one.length ≤ 16) (v13 : S[13]? = some (some (.lst ((grps (nG one (n + 1))).map fun l => .tup (wL l))))) (l6 : S.length = 16) {l : List Nat} (hl1 : l ∈ grps (nG one n)) : b23_13_0 (S.set 6 (some (.tup (wL l)))) m = .nx (S.set 6 (some (.tup (wL l)))) m := by
  have key := one_lot (g := nG one n) (g' := nG one (n + 1)) (by rw [nG_len, nG_len]) nG_sym (nG_mono h0 (by omega)) hl1
  have llen : ∀ (g : List (List Nat)) (x : List Nat), x ∈ grps g → x.length ≤ g.length := fun g x hx => by
    obtain ⟨i, _, _, rfl⟩ := mem_grps.mp hx
    unfold grp
    have := List.length_filter_le (rB g i) (List.range g.length)
    rwa [List.length_range] at this
  have hll := llen _ _ hl1
  rw [nG_len] at hll
  generalize hS : S.set 6 (some (.tup (wL l))) = S1
  have v6 : S1[6]? = some (some (.tup (wL l))) := by rw [← hS]; rw [List.getElem?_set_self (by omega)]
  have v13' : S1[13]? = some (some (.lst ((grps (nG one (n + 1))).map fun l => .tup (wL l)))) := by rw [← hS, List.getElem?_set_ne (by decide)]; exact v13
  have l1 : S1.length = 16 := by rw [← hS, List.length_set]; exact l6
  clear hS
  have hg : (grps (nG one (n + 1))).length ≤ 16 := by
    unfold grps
    rw [List.length_map]
    have := List.length_filter_le (fun i => decide ((grp (nG one (n + 1)) i).head? = some i)) (List.range (nG one (n + 1)).length)
    rw [List.length_range, nG_len] at this
    rw [nG_len]
    omega
  have inner : ∀ lot : List Nat, ∀ S2 : Sd, S2[14]? = some (some (.tup (wL lot))) → S2[6]? = some (some (.tup (wL l))) → S2.length = 16 → sTst (s2 dEq (sLc (iVal (sVar 6)) (gN 15) (sTst (s2 dNotIn (sVar 15) (sVar 14))) (sVar 15) [15]) (sLst aNil)) S2 m = .ok (decide (l.filter (fun k => !decide (k ∈ lot)) = [])) m := fun lot S2 w14 w6 l2 => by
    have src : iVal (sVar 6) S2 m = .ok (wL l) m := by
      rw [e_iVal, e_sVar, w6]
      rfl
    have q := lcL_filterT (g := gN 15) (tt := sTst (s2 dNotIn (sVar 15) (sVar 14))) (el := sVar 15) (s := wipeD S2 [15]) (m := m) (fun i : Nat => D.int (i : Int)) (fun k => !decide (k ∈ lot)) (fun i : Nat => D.int (i : Int)) l (fun k hk => by
      have e1 : (wipeD S2 [15]) = S2.set 15 none := rfl
      refine ⟨(S2.set 15 none).set 15 (some (.int (k : Nat))), rfl, ?_, fun _ => ?_⟩
      · have a1 : sVar 15 ((S2.set 15 none).set 15 (some (.int (k : Nat)))) m = .ok (.int (k : Nat)) m := by rw [e_sVar, List.getElem?_set_self (by rw [List.length_set]; omega)]
        have a2 : sVar 14 ((S2.set 15 none).set 15 (some (.int (k : Nat)))) m = .ok (.tup (wL lot)) m := by rw [e_sVar, List.getElem?_set_ne (by decide), List.getElem?_set_ne (by decide), w14]
        rw [e_sTst, s2_of a1 a2]
        unfold dNotIn
        simp only [q_seq3]
        rw [if_pos ⟨okD_of (okN_int _) (by decide), okD_of (okN_lst (n := 0) (okN_map (fun i : Nat => okN_int _) lot)) (by decide)⟩, any_map eqv_n]
        rfl
      · rw [e_sVar, List.getElem?_set_self (by rw [List.length_set]; omega)])
    have val : sLc (iVal (sVar 6)) (gN 15) (sTst (s2 dNotIn (sVar 15) (sVar 14))) (sVar 15) [15] S2 m = .ok (.lst (wL (l.filter fun k => !decide (k ∈ lot)))) m := by
      rw [e_sLc, src]
      simp only [q_bind1]
      rw [if_pos (by simp; omega), q]
    have ok : ∀ x : List Nat, okD (.lst (wL x)) = true := fun x => okD_of (okN_lst (n := 0) (okN_map (fun i : Nat => okN_int _) x)) (by decide)
    rw [e_sTst, s2_of val (y := .lst (wL [])) (m2 := m) rfl]
    unfold dEq
    rw [show deref m (.lst (wL (l.filter fun k => !decide (k ∈ lot)))) = .lst (wL (l.filter fun k => !decide (k ∈ lot))) from rfl, show deref m (.lst (wL [])) = .lst (wL []) from rfl, if_pos ⟨ok _, ok _⟩, eqv_lst, eqvL_map eqv_n]
    rfl
  have src : iVal (sVar 13) S1 m = .ok ((grps (nG one (n + 1))).map fun l => .tup (wL l)) m := by
    rw [e_iVal, e_sVar, v13']
    rfl
  have q := lcL_filterT (g := gN 14) (tt := sTst (s2 dEq (sLc (iVal (sVar 6)) (gN 15) (sTst (s2 dNotIn (sVar 15) (sVar 14))) (sVar 15) [15]) (sLst aNil))) (el := sVar 14) (s := wipeD S1 [14]) (m := m) (fun l : List Nat => D.tup (wL l)) (fun lot => decide (l.filter (fun k => !decide (k ∈ lot)) = [])) (fun l : List Nat => D.tup (wL l)) (grps (nG one (n + 1))) (fun lot _ => ⟨(S1.set 14 none).set 14 (some (.tup (wL lot))), rfl, inner lot _ (List.getElem?_set_self (by rw [List.length_set]; omega)) (by rw [List.getElem?_set_ne (by decide), List.getElem?_set_ne (by decide), v6]) (by rw [List.length_set, List.length_set, l1]), fun _ => by rw [e_sVar, List.getElem?_set_self (by rw [List.length_set]; omega)]⟩)
  have val : sLc (iVal (sVar 13)) (gN 14) (sTst (s2 dEq (sLc (iVal (sVar 6)) (gN 15) (sTst (s2 dNotIn (sVar 15) (sVar 14))) (sVar 15) [15]) (sLst aNil))) (sVar 14) [14] S1 m = .ok (.lst (((grps (nG one (n + 1))).filter fun lot => decide (l.filter (fun k => !decide (k ∈ lot)) = [])).map fun l => .tup (wL l))) m := by
    rw [e_sLc, src]
    simp only [q_bind1]
    rw [if_pos (by simp; omega), q]
  have len : sB dLen (aCons (sLc (iVal (sVar 13)) (gN 14) (sTst (s2 dEq (sLc (iVal (sVar 6)) (gN 15) (sTst (s2 dNotIn (sVar 15) (sVar 14))) (sVar 15) [15]) (sLst aNil))) (sVar 14) [14]) aNil) S1 m = .ok (.int 1) m := by
    simp only [e_sB, e_aCons, e_aNil, val, q_bind1, e_dLen, q_seq1]
    rw [List.length_map, key]
    rfl
  unfold b23_13_0
  refine (sIf_f (m' := m) ?_).trans rfl
  rw [e_sTst, s2_of len (y := .int 1) (m2 := m) rfl, dNe_int]
  rfl
theorem s23_14 (hm : Wf m) (g1 : Good one) (hr : Rule ru) (v7 : S[7]? = some (some (.tup (lL one)))) (v9 : S[9]? = some (some (ruD ru))) : b23_14 S m = .ret (.bl true) m := by
  obtain ⟨ps, rp, cp, e, b⟩ := ask23 hm g1 g1 hr
  obtain ⟨k1, k2⟩ := self_best hr g1.len b
  rw [k2] at e
  have c := call3 v7 v7 v9 e
  have x0 : s2 dIx (sCallK 3 0 4 (fun ds es => ds ++ ([(.ktup [(.int 0), (.int 0)])] ++ [])) f_pairing (aCons (sVar 7) (aCons (sVar 7) (aCons (sVar 9) aNil))) aNil) (sC (.int 0)) S m = .ok (.tup (pL ps)) m := (s2_of c (y := .int 0) (m2 := m) rfl).trans rfl
  have x1 : s2 dIx (sCallK 3 0 4 (fun ds es => ds ++ ([(.ktup [(.int 0), (.int 0)])] ++ [])) f_pairing (aCons (sVar 7) (aCons (sVar 7) (aCons (sVar 9) aNil))) aNil) (sC (.int 1)) S m = .ok (.int 0) m := (s2_of c (y := .int 1) (m2 := m) rfl).trans rfl
  have l0 : sB dLen (aCons (s2 dIx (sCallK 3 0 4 (fun ds es => ds ++ ([(.ktup [(.int 0), (.int 0)])] ++ [])) f_pairing (aCons (sVar 7) (aCons (sVar 7) (aCons (sVar 9) aNil))) aNil) (sC (.int 0))) aNil) S m = .ok (.int (ps.length : Nat)) m := by
    simp only [e_sB, e_aCons, e_aNil, x0, q_bind1]
    simp
  have l7 : sB dLen (aCons (sVar 7) aNil) S m = .ok (.int (one.length : Nat)) m := by
    simp only [e_sB, e_aCons, e_aNil, e_sVar, v7, q_bind1, e_dLen]
    simp [lL]
  have a1 : s2 dEq (sB dLen (aCons (s2 dIx (sCallK 3 0 4 (fun ds es => ds ++ ([(.ktup [(.int 0), (.int 0)])] ++ [])) f_pairing (aCons (sVar 7) (aCons (sVar 7) (aCons (sVar 9) aNil))) aNil) (sC (.int 0))) aNil)) (sB dLen (aCons (sVar 7) aNil)) S m = .ok (.bl true) m := by
    rw [s2_of l0 l7, dEq_int, decide_eq_true (by omega)]
  have a2 : s2 dEq (s2 dIx (sCallK 3 0 4 (fun ds es => ds ++ ([(.ktup [(.int 0), (.int 0)])] ++ [])) f_pairing (aCons (sVar 7) (aCons (sVar 7) (aCons (sVar 9) aNil))) aNil) (sC (.int 1))) (sC (.int 0)) S m = .ok (.bl true) m := by
    rw [s2_of x1 (y := .int 0) (m2 := m) rfl, dEq_int]
    rfl
  unfold b23_14
  refine sRet_of ?_
  simp only [e_sAnd, a1, a2, q_bind1]
  rfl
abbrev sk3 (a0 a2 a3 a4 a5 a6 a7 a8 a9 a10 a11 a12 a13 a14 a15 : Option D) : Sd := [a0, some (.ref 0), a2, a3, a4, a5, a6, a7, a8, a9, a10, a11, a12, a13, a14, a15]
theorem lots_loop {n : Int} (h0 : 0 ≤ n) (hl : one.length ≤ 16) (a0 a2 a3 a4 a5 a7 a8 a9 a10 a11 a12 a14 a15 : Option D) : ∀ (ls : List (List Nat)) (a6 : Option D), (∀ l ∈ ls, l ∈ grps (nG one n)) → ∃ b6, forL (gN 6) b23_13_0 (ls.map fun l => .tup (wL l)) (sk3 a0 a2 a3 a4 a5 a6 a7 a8 a9 a10 a11 a12 (some (.lst ((grps (nG one (n + 1))).map fun l => .tup (wL l)))) a14 a15) m = .nx (sk3 a0 a2 a3 a4 a5 b6 a7 a8 a9 a10 a11 a12 (some (.lst ((grps (nG one (n + 1))).map fun l => .tup (wL l)))) a14 a15) m
  | [], a6, _ => ⟨a6, rfl⟩
  | l :: ls, a6, h => by
    obtain ⟨b6, e⟩ := lots_loop h0 hl a0 a2 a3 a4 a5 a7 a8 a9 a10 a11 a12 a14 a15 ls (some (.tup (wL l))) fun x hx => h x (List.mem_cons_of_mem _ hx)
    have st := s23_13 (m := m) (S := sk3 a0 a2 a3 a4 a5 a6 a7 a8 a9 a10 a11 a12 (some (.lst ((grps (nG one (n + 1))).map fun l => .tup (wL l)))) a14 a15) h0 hl rfl rfl (h l List.mem_cons_self)
    exact ⟨b6, (forL_step rfl st).trans e⟩
end
theorem draw23_ok {ns : List Int} {r : MO} (h : Row ns r) (a0 a2 a3 a4 a5 a6 a7 a8 a9 a10 a11 a12 a13 a14 a15 : Option D) : ∃ one other ru r', b23_1 (sk3 a0 a2 a3 a4 a5 a6 a7 a8 a9 a10 a11 a12 a13 a14 a15) [r] = .nx (sk3 a0 a2 a3 a4 a5 a6 (some (.tup (lL one))) (some (.tup (lL other))) (some (ruD ru)) a10 a11 a12 a13 a14 a15) [r'] ∧ Row ns r' ∧ Good one ∧ Good other ∧ Rule ru ∧ ru.1 ≤ 9 ∧ ru.2.2 ≤ 3 := by
  obtain ⟨one, r1, e1, h1, L1⟩ := lights_ok h (wide := 5) (by decide) (by decide) (n := 8) (by decide) (wf_row h (rest := []) rfl)
  obtain ⟨other, r2, e2, h2, L2_⟩ := lights_ok h1 (wide := 5) (by decide) (by decide) (n := 8) (by decide) (wf_row h1 (rest := []) rfl)
  obtain ⟨ru, r3, e3, h3, R, R1, R2⟩ := law_rule_ok3 h2 []
  have e1' : f__law_lights [.ref 0, .int 8, .int 5] [r] = .ok (.tup (lL one)) [r1] := e1
  have e2' : f__law_lights [.ref 0, .int 8, .int 5] [r1] = .ok (.tup (lL other)) [r2] := e2
  refine ⟨one, other, ru, r3, ?_, h3, L1.good (by decide) (by decide), L2_.good (by decide) (by decide), R, R1, R2⟩
  unfold b23_1
  simp [e1', e2', e3]
theorem law_math_k23 : ∀ ns : List Int, ns.length ≤ 63 → (∀ z ∈ ns, PySem.Builtin.Int.intBits z ≤ 1048576) → ∃ m, f_law_k23 [.scr (ns.map D.int)] [] = .ok (.bl true) m := by
  intro ns _ _
  obtain ⟨r0, e0, h0⟩ := row_ok ns
  obtain ⟨one, other, ru, r1, e1, h1, g1, g2, hr, hr9, hr3⟩ := draw23_ok h0 (some (.scr (ns.map .int))) none none none none none none none none none none none none none none
  obtain ⟨rv, r2, e2, h2, hv, v1, v2, v3⟩ := wide23 (rest := []) h1 hr hr9 (S := sk3 (some (.scr (ns.map .int))) none none none none none (some (.tup (lL one))) (some (.tup (lL other))) (some (ruD ru)) none none none none none none) rfl rfl
  have w2 : Wf [r2] := wf_row h2 rfl
  obtain ⟨p1, rp1, q1, f1, b1⟩ := ask23 w2 g1 g2 hr
  obtain ⟨p2, rp2, q2, f2, b2⟩ := ask23 w2 g1 g2 hv
  have hd : Rule (dearR ru) := ⟨hr.a, hr.b, by have := hr.c; dsimp only; omega⟩
  obtain ⟨p3, rp3, q3, f3, b3⟩ := ask23 w2 g1 g2 hd
  have C1 := b1.cho hr
  have C3 := b3.cho hd
  have toV : ∀ a b c, cost a b ru = some c → cost a b rv = some c := fun a b c h => cost_wider hr.a.1 v1 v2 v3 h
  have C1v : Cho one other rv p1 := C1.to fun a b c h => ⟨c, toV a b c h, Int.le_refl _⟩
  have ev := costs_same toV C1.may
  have toD : ∀ a b c, cost a b ru = some c → ∃ d, cost a b (dearR ru) = some d ∧ c ≤ d := fun a b c h => ⟨_, cost_dear h, by omega⟩
  have C1d : Cho one other (dearR ru) p1 := C1.to toD
  have C3u : Cho one other ru p3 := ⟨fun p hp => by
    obtain ⟨d, hd⟩ := C3.may p hp
    obtain ⟨a, b, x1, x2, x3⟩ := cAt_rng hd
    obtain ⟨c, hc, _⟩ := cost_dear' x3
    exact ⟨c, by unfold cAt; rw [x1, x2]; exact hc⟩, C3.rise, C3.cols⟩
  have L2 := b2.least hv g1.len C1v
  have L3 := b3.least hd g1.len C1d
  have L1 := b1.least hr g1.len C3u
  have len31 : p3.length = p1.length := by have := L1.1; have := L3.1; omega
  have c31 : costs one other ru p1 ≤ costs one other (dearR ru) p3 := by
    have := L1.2 len31
    have := (costs_le toD C3u.may).2
    omega
  have c30 : ru.2.1 = 0 → costs one other (dearR ru) p3 = costs one other ru p1 := fun h => by
    have := L3.2 len31.symm
    have e := costs_same (one := one) (other := other) (ru := ru) (rv := dearR ru) (fun a b c hc => by rw [cost_dim0 h]; exact hc) C1.may
    omega
  obtain ⟨n, r3, e11, h3, n0, n1⟩ := taken_ok h2 (k := 5) (by decide) (by decide) []
  have w3 : Wf [r3] := wf_row h3 rfl
  have gr1 := groups_ok w3 g1 n0 (by omega)
  have gr2 := groups_ok (n := n + 1) w3 g1 (by omega) (by omega)
  refine ⟨[r3], run_ret ?_⟩
  show b_law_k23 [some (.scr (ns.map D.int)), none, none, none, none, none, none, none, none, none, none, none, none, none, none, none] [] = _
  have open_ : b_law_k23 = sSeq b23_0 (sSeq b23_1 (sSeq b23_2 (sSeq b23_3 (sSeq b23_4 (sSeq b23_5 (sSeq b23_6 (sSeq b23_7 (sSeq b23_8 (sSeq b23_9 (sSeq b23_10 (sSeq b23_11 (sSeq b23_12 (sSeq b23_13 b23_14))))))))))))) := rfl
  rw [open_]
  refine (sSeq_nx (s' := sk3 (some (.scr (ns.map D.int))) none none none none none none none none none none none none none none) (m' := [r0]) ?_).trans ?_
  · exact (sSet_of (sCall_of (ds := [.scr (ns.map D.int)]) (m1 := []) rfl rfl e0)).trans rfl
  refine (sSeq_nx e1).trans ((sSeq_nx e2).trans ?_)
  refine (sSeq_nx (s' := sk3 (some (.scr (ns.map D.int))) (some (ruD rv)) none none none none (some (.tup (lL one))) (some (.tup (lL other))) (some (ruD ru)) (some (foD p1 (costs one other ru p1) rp1 q1)) (some (foD p2 (costs one other rv p2) rp2 q2)) none none none none) (m' := [r2]) ?_).trans ?_
  · have k1 := call3 (S := sk3 (some (.scr (ns.map D.int))) (some (ruD rv)) none none none none (some (.tup (lL one))) (some (.tup (lL other))) (some (ruD ru)) none none none none none none) (a := 7) (b := 8) (c := 9) rfl rfl rfl f1
    have k2 := call3 (S := sk3 (some (.scr (ns.map D.int))) (some (ruD rv)) none none none none (some (.tup (lL one))) (some (.tup (lL other))) (some (ruD ru)) none none none none none none) (a := 7) (b := 8) (c := 2) rfl rfl rfl f2
    unfold b23_3
    show sPar 10 11 _ (sk3 (some (.scr (ns.map D.int))) (some (ruD rv)) none none none none (some (.tup (lL one))) (some (.tup (lL other))) (some (ruD ru)) none none none none none none) [r2] = _
    rw [e_sPar]
    simp only [e_aCons, e_aNil, k1, k2, q_bind1]
    rfl
  refine (sSeq_nx (s23_4 rfl rfl L2.1 (fun h => by rw [ev]; exact L2.2 h))).trans ?_
  refine (sSeq_nx (s23_5 w2 g1 g2 hv rfl rfl rfl rfl rfl C1v b2 ev rfl)).trans ?_
  refine (sSeq_nx (s23_6 (ru := ru) rfl)).trans ?_
  refine (sSeq_nx (s' := sk3 (some (.scr (ns.map D.int))) (some (ruD rv)) (some (ruD (dearR ru))) (some (foD p3 (costs one other (dearR ru) p3) rp3 q3)) none none (some (.tup (lL one))) (some (.tup (lL other))) (some (ruD ru)) (some (foD p1 (costs one other ru p1) rp1 q1)) (some (foD p2 (costs one other rv p2) rp2 q2)) none none none none) (m' := [r2]) ?_).trans ?_
  · unfold b23_7
    exact (sSet_of (call3 (a := 7) (b := 8) (c := 3) rfl rfl rfl f3)).trans rfl
  refine (sSeq_nx (s23_8 rfl rfl len31 c31)).trans ?_
  refine (sSeq_nx (s23_9 (ru := ru) rfl rfl rfl c30)).trans ?_
  refine (sSeq_nx (s23_10 w2 g1 g2 hr hd rfl rfl rfl rfl)).trans ?_
  refine (sSeq_nx (s' := sk3 (some (.scr (ns.map D.int))) (some (ruD rv)) (some (ruD (dearR ru))) (some (foD p3 (costs one other (dearR ru) p3) rp3 q3)) (some (.int n)) none (some (.tup (lL one))) (some (.tup (lL other))) (some (ruD ru)) (some (foD p1 (costs one other ru p1) rp1 q1)) (some (foD p2 (costs one other rv p2) rp2 q2)) none none none none) (m' := [r3]) ?_).trans ?_
  · unfold b23_11
    exact (sSet_of (sCall_of (ds := [.ref 0, .int 5]) (m1 := [r2]) rfl rfl e11)).trans rfl
  refine (sSeq_nx (s' := sk3 (some (.scr (ns.map D.int))) (some (ruD rv)) (some (ruD (dearR ru))) (some (foD p3 (costs one other (dearR ru) p3) rp3 q3)) (some (.int n)) none (some (.tup (lL one))) (some (.tup (lL other))) (some (ruD ru)) (some (foD p1 (costs one other ru p1) rp1 q1)) (some (foD p2 (costs one other rv p2) rp2 q2)) (some (.lst ((grps (nG one n)).map fun l => .tup (wL l)))) (some (.lst ((grps (nG one (n + 1))).map fun l => .tup (wL l)))) none none) (m' := [r3]) ?_).trans ?_
  · have k1 : sCall 2 f_groups (aCons (sVar 7) (aCons (sVar 5) aNil)) (sk3 (some (.scr (ns.map D.int))) (some (ruD rv)) (some (ruD (dearR ru))) (some (foD p3 (costs one other (dearR ru) p3) rp3 q3)) (some (.int n)) none (some (.tup (lL one))) (some (.tup (lL other))) (some (ruD ru)) (some (foD p1 (costs one other ru p1) rp1 q1)) (some (foD p2 (costs one other rv p2) rp2 q2)) none none none none) [r3] = .ok (.lst ((grps (nG one n)).map fun l => .tup (wL l))) [r3] := sCall_of (ds := [.tup (lL one), .int n]) (m1 := [r3]) rfl rfl gr1
    have k2 : sCall 2 f_groups (aCons (sVar 7) (aCons (s2 dAdd (sVar 5) (sC (.int 1))) aNil)) (sk3 (some (.scr (ns.map D.int))) (some (ruD rv)) (some (ruD (dearR ru))) (some (foD p3 (costs one other (dearR ru) p3) rp3 q3)) (some (.int n)) none (some (.tup (lL one))) (some (.tup (lL other))) (some (ruD ru)) (some (foD p1 (costs one other ru p1) rp1 q1)) (some (foD p2 (costs one other rv p2) rp2 q2)) none none none none) [r3] = .ok (.lst ((grps (nG one (n + 1))).map fun l => .tup (wL l))) [r3] := sCall_of (ds := [.tup (lL one), .int (n + 1)]) (m1 := [r3]) rfl rfl gr2
    unfold b23_12
    rw [e_sPar]
    simp only [e_aCons, e_aNil, k1, k2, q_bind1]
    rfl
  obtain ⟨b6, el⟩ := lots_loop (one := one) (m := [r3]) (n := n) n0 g1.len (some (.scr (ns.map D.int))) (some (ruD rv)) (some (ruD (dearR ru))) (some (foD p3 (costs one other (dearR ru) p3) rp3 q3)) (some (.int n)) (some (.tup (lL one))) (some (.tup (lL other))) (some (ruD ru)) (some (foD p1 (costs one other ru p1) rp1 q1)) (some (foD p2 (costs one other rv p2) rp2 q2)) (some (.lst ((grps (nG one n)).map fun l => .tup (wL l)))) none none (grps (nG one n)) none (fun l h => h)
  refine (sSeq_nx (s' := sk3 (some (.scr (ns.map D.int))) (some (ruD rv)) (some (ruD (dearR ru))) (some (foD p3 (costs one other (dearR ru) p3) rp3 q3)) (some (.int n)) b6 (some (.tup (lL one))) (some (.tup (lL other))) (some (ruD ru)) (some (foD p1 (costs one other ru p1) rp1 q1)) (some (foD p2 (costs one other rv p2) rp2 q2)) (some (.lst ((grps (nG one n)).map fun l => .tup (wL l)))) (some (.lst ((grps (nG one (n + 1))).map fun l => .tup (wL l)))) none none) (m' := [r3]) ?_).trans ?_
  · unfold b23_13
    have src : iVal (sVar 12) (sk3 (some (.scr (ns.map D.int))) (some (ruD rv)) (some (ruD (dearR ru))) (some (foD p3 (costs one other (dearR ru) p3) rp3 q3)) (some (.int n)) none (some (.tup (lL one))) (some (.tup (lL other))) (some (ruD ru)) (some (foD p1 (costs one other ru p1) rp1 q1)) (some (foD p2 (costs one other rv p2) rp2 q2)) (some (.lst ((grps (nG one n)).map fun l => .tup (wL l)))) (some (.lst ((grps (nG one (n + 1))).map fun l => .tup (wL l)))) none none) [r3] = .ok ((grps (nG one n)).map fun l => .tup (wL l)) [r3] := rfl
    rw [sFor_of src]
    exact el
  exact s23_14 w3 g1 hr rfl rfl
end Px
set_option Elab.async false
set_option linter.all false
set_option maxRecDepth 100000
set_option maxHeartbeats 4000000
namespace Tx
open PySem PySem.Spec PyProof.Rows L2 Rx Px
abbrev top (i : Nat) : Stmt := PySem.Challenge.pw_skypairs_k23_whole_wider_rules.main.body.getD i (.Pass ⟨0, 0, 0, 0⟩)

abbrev st_is_number : Stmt := top 11
theorem sc_is_number : FnScope ["thing", "low", "high"] ["thing", "low", "high"] (defScope st_is_number) := ⟨rfl, rfl, rfl, by decide +kernel, rfl, by decide +kernel, by decide +kernel⟩
abbrev st_are_numbers : Stmt := top 12
theorem sc_are_numbers : FnScope ["thing", "bounds", "part", "low", "high"] ["thing", "bounds"] (defScope st_are_numbers) := ⟨rfl, rfl, rfl, by decide +kernel, rfl, by decide +kernel, by decide +kernel⟩
abbrev st_check_lights : Stmt := top 13
theorem sc_check_lights : FnScope ["lights", "places", "number", "light", "place"] ["lights"] (defScope st_check_lights) := ⟨rfl, rfl, rfl, by decide +kernel, rfl, by decide +kernel, by decide +kernel⟩
abbrev st_check_rule : Stmt := top 14
theorem sc_check_rule : FnScope ["rule"] ["rule"] (defScope st_check_rule) := ⟨rfl, rfl, rfl, by decide +kernel, rfl, by decide +kernel, by decide +kernel⟩
abbrev st_check_slip : Stmt := top 15
theorem sc_check_slip : FnScope ["slip"] ["slip"] (defScope st_check_slip) := ⟨rfl, rfl, rfl, by decide +kernel, rfl, by decide +kernel, by decide +kernel⟩
abbrev st_check_count : Stmt := top 16
theorem sc_check_count : FnScope ["thing", "low", "high"] ["thing", "low", "high"] (defScope st_check_count) := ⟨rfl, rfl, rfl, by decide +kernel, rfl, by decide +kernel, by decide +kernel⟩
abbrev st_pair_worth : Stmt := top 26
theorem sc_pair_worth : FnScope ["light", "mate", "rule", "aside", "along", "apart", "squares", "reach", "dim", "near"] ["light", "mate", "rule"] (defScope st_pair_worth) := ⟨rfl, rfl, rfl, by decide +kernel, rfl, by decide +kernel, by decide +kernel⟩
abbrev st_worth_table : Stmt := top 25
theorem sc_worth_table : FnScope ["one", "other", "rule", "slip", "slipped", "aside", "along", "light", "x", "y", "glow", "mate"] ["one", "other", "rule", "slip"] (defScope st_worth_table) := ⟨rfl, rfl, rfl, by decide +kernel, rfl, by decide +kernel, by decide +kernel⟩
abbrev st_asked_worths : Stmt := top 24
theorem sc_asked_worths : FnScope ["one", "other", "rule", "slip"] ["one", "other", "rule", "slip"] (defScope st_asked_worths) := ⟨rfl, rfl, rfl, by decide +kernel, rfl, by decide +kernel, by decide +kernel⟩
abbrev st_shortest_ways : Stmt := top 35
theorem sc_shortest_ways : FnScope ["newcomer", "table", "row_prices", "column_prices", "holders", "lacks", "ahead", "waiting", "ended", "row", "last", "passed", "column", "lack"] ["newcomer", "table", "row_prices", "column_prices", "holders"] (defScope st_shortest_ways) := ⟨rfl, rfl, rfl, by decide +kernel, rfl, by decide +kernel, by decide +kernel⟩
abbrev st_let_in : Stmt := top 34
theorem sc_let_in : FnScope ["newcomer", "table", "row_prices", "column_prices", "holders", "free", "column", "lacks", "ahead", "ended", "change"] ["newcomer", "table", "row_prices", "column_prices", "holders"] (defScope st_let_in) := ⟨rfl, rfl, rfl, by decide +kernel, rfl, by decide +kernel, by decide +kernel⟩
abbrev st_best_choice : Stmt := top 33
theorem sc_best_choice : FnScope ["worths", "many", "width", "table", "row_prices", "column_prices", "holders", "row", "held", "pairs", "column"] ["worths", "many"] (defScope st_best_choice) := ⟨rfl, rfl, rfl, by decide +kernel, rfl, by decide +kernel, by decide +kernel⟩
abbrev st_total_worth : Stmt := top 27
theorem sc_total_worth : FnScope ["worths", "pairs", "row", "column"] ["worths", "pairs"] (defScope st_total_worth) := ⟨rfl, rfl, rfl, by decide +kernel, rfl, by decide +kernel, by decide +kernel⟩
abbrev st_total_cost : Stmt := top 28
theorem sc_total_cost : FnScope ["worths", "pairs"] ["worths", "pairs"] (defScope st_total_cost) := ⟨rfl, rfl, rfl, by decide +kernel, rfl, by decide +kernel, by decide +kernel⟩
abbrev st_pairing : Stmt := top 20
theorem sc_pairing : FnScope ["one", "other", "rule", "slip", "worths", "pairs", "prices"] ["one", "other", "rule", "slip"] (defScope st_pairing) := ⟨rfl, rfl, rfl, by decide +kernel, rfl, by decide +kernel, by decide +kernel⟩
abbrev st_is_choice : Stmt := top 31
theorem sc_is_choice : FnScope ["thing", "worths", "many", "bounds", "rows", "columns", "pair", "row", "column"] ["thing", "worths", "many"] (defScope st_is_choice) := ⟨rfl, rfl, rfl, by decide +kernel, rfl, by decide +kernel, by decide +kernel⟩
abbrev st_are_prices : Stmt := top 32
theorem sc_are_prices : FnScope ["thing", "rows", "many", "bound"] ["thing", "rows", "many"] (defScope st_are_prices) := ⟨rfl, rfl, rfl, by decide +kernel, rfl, by decide +kernel, by decide +kernel⟩
abbrev st_possible_pairs : Stmt := top 29
theorem sc_possible_pairs : FnScope ["worths", "at", "row", "column", "worth"] ["worths"] (defScope st_possible_pairs) := ⟨rfl, rfl, rfl, by decide +kernel, rfl, by decide +kernel, by decide +kernel⟩
abbrev st_settles : Stmt := top 21
theorem sc_settles : FnScope ["one", "other", "rule", "pairs", "prices", "slip", "worths", "row", "column"] ["one", "other", "rule", "pairs", "prices", "slip"] (defScope st_settles) := ⟨rfl, rfl, rfl, by decide +kernel, rfl, by decide +kernel, by decide +kernel⟩
abbrev st_tight_pairs : Stmt := top 30
theorem sc_tight_pairs : FnScope ["worths", "prices", "row", "column"] ["worths", "prices"] (defScope st_tight_pairs) := ⟨rfl, rfl, rfl, by decide +kernel, rfl, by decide +kernel, by decide +kernel⟩
abbrev st_exchanges : Stmt := top 36
theorem sc_exchanges : FnScope ["worths", "many", "pairs", "prices", "alone", "ways", "paired", "row", "column", "place", "price", "_"] ["worths", "many", "pairs", "prices"] (defScope st_exchanges) := ⟨rfl, rfl, rfl, by decide +kernel, rfl, by decide +kernel, by decide +kernel⟩
abbrev st_reached : Stmt := top 37
theorem sc_reached : FnScope ["ways", "start", "seen", "waiting", "place", "further"] ["ways", "start"] (defScope st_reached) := ⟨rfl, rfl, rfl, by decide +kernel, rfl, by decide +kernel, by decide +kernel⟩
abbrev st_sure_pairs : Stmt := top 23
theorem sc_sure_pairs : FnScope ["worths", "many", "ways", "pairs", "prices", "row", "column"] ["worths", "many"] (defScope st_sure_pairs) := ⟨rfl, rfl, rfl, by decide +kernel, rfl, by decide +kernel, by decide +kernel⟩
abbrev st_sure : Stmt := top 22
theorem sc_sure : FnScope ["one", "other", "rule", "slip"] ["one", "other", "rule", "slip"] (defScope st_sure) := ⟨rfl, rfl, rfl, by decide +kernel, rfl, by decide +kernel, by decide +kernel⟩
abbrev st_check_near : Stmt := top 41
theorem sc_check_near : FnScope ["near"] ["near"] (defScope st_check_near) := ⟨rfl, rfl, rfl, by decide +kernel, rfl, by decide +kernel, by decide +kernel⟩
abbrev st_are_near : Stmt := top 43
theorem sc_are_near : FnScope ["light", "mate", "near", "aside", "along"] ["light", "mate", "near"] (defScope st_are_near) := ⟨rfl, rfl, rfl, by decide +kernel, rfl, by decide +kernel, by decide +kernel⟩
abbrev st_near_groups : Stmt := top 42
theorem sc_near_groups : FnScope ["lights", "near", "ways", "hanging", "light", "number", "group", "mate"] ["lights", "near"] (defScope st_near_groups) := ⟨rfl, rfl, rfl, by decide +kernel, rfl, by decide +kernel, by decide +kernel⟩
abbrev st_groups : Stmt := top 40
theorem sc_groups : FnScope ["lights", "near"] ["lights", "near"] (defScope st_groups) := ⟨rfl, rfl, rfl, by decide +kernel, rfl, by decide +kernel, by decide +kernel⟩
abbrev st__law_row : Stmt := top 45
theorem sc__law_row : FnScope ["_law_script", "_law_mixed", "_law_cell"] ["_law_script"] (defScope st__law_row) := ⟨rfl, rfl, rfl, by decide +kernel, rfl, by decide +kernel, by decide +kernel⟩
abbrev st__law_taken : Stmt := top 46
theorem sc__law_taken : FnScope ["_law_row_here", "_law_many", "_law_found", "_law_cell"] ["_law_row_here", "_law_many"] (defScope st__law_taken) := ⟨rfl, rfl, rfl, by decide +kernel, rfl, by decide +kernel, by decide +kernel⟩
abbrev st__law_light : Stmt := top 47
theorem sc__law_light : FnScope ["_law_row_here", "_law_wide"] ["_law_row_here", "_law_wide"] (defScope st__law_light) := ⟨rfl, rfl, rfl, by decide +kernel, rfl, by decide +kernel, by decide +kernel⟩
abbrev st__law_lights : Stmt := top 48
theorem sc__law_lights : FnScope ["_law_row_here", "_law_many", "_law_wide", "_law_k", "_law_found", "_law_places", "_law_light_here"] ["_law_row_here", "_law_many", "_law_wide"] (defScope st__law_lights) := ⟨rfl, rfl, rfl, by decide +kernel, rfl, by decide +kernel, by decide +kernel⟩
abbrev st__law_rule : Stmt := top 49
theorem sc__law_rule : FnScope ["_law_row_here"] ["_law_row_here"] (defScope st__law_rule) := ⟨rfl, rfl, rfl, by decide +kernel, rfl, by decide +kernel, by decide +kernel⟩
abbrev st_law : Stmt := top 50
theorem sc_law : FnScope ["_law_script", "_law_row_here", "_law_wider", "_law_dear", "_law_third", "_law_near", "_law_group", "_law_one", "_law_other", "_law_rule_here", "_law_first", "_law_second", "_law_few", "_law_many", "_law_lot", "_law_k"] ["_law_script"] (defScope st_law) := ⟨rfl, rfl, rfl, by decide +kernel, rfl, by decide +kernel, by decide +kernel⟩
abbrev st_BadLights : Stmt := match top 2 with | .ClassDef (body := b) .. => b.getD 0 (.Pass ⟨0, 0, 0, 0⟩) | s => s
theorem sc_BadLights : FnScope ["self", "number"] ["self", "number"] (defScope st_BadLights) := ⟨rfl, rfl, rfl, by decide +kernel, rfl, by decide +kernel, by decide +kernel⟩
structure Facts (K : PySem.W.Frag) (mg : Str → Option Value) : Prop where
  n_abs : mg "abs" = none
  n_all : mg "all" = none
  n_bool : mg "bool" = none
  n_enumerate : mg "enumerate" = none
  n_int : mg "int" = none
  n_isinstance : mg "isinstance" = none
  n_len : mg "len" = none
  n_list : mg "list" = none
  n_max : mg "max" = none
  n_min : mg "min" = none
  n_range : mg "range" = none
  n_sorted : mg "sorted" = none
  n_sum : mg "sum" = none
  n_tuple : mg "tuple" = none
  n_zip : mg "zip" = none
  d_is_number : DefAt K mg "is_number" st_is_number ["thing", "low", "high"]
  d_are_numbers : DefAt K mg "are_numbers" st_are_numbers ["thing", "bounds"]
  d_check_lights : DefAt K mg "check_lights" st_check_lights ["lights"]
  d_check_rule : DefAt K mg "check_rule" st_check_rule ["rule"]
  d_check_slip : DefAt K mg "check_slip" st_check_slip ["slip"]
  d_check_count : DefAt K mg "check_count" st_check_count ["thing", "low", "high"]
  d_pair_worth : DefAt K mg "pair_worth" st_pair_worth ["light", "mate", "rule"]
  d_worth_table : DefAt K mg "worth_table" st_worth_table ["one", "other", "rule", "slip"]
  d_asked_worths : DefAt K mg "asked_worths" st_asked_worths ["one", "other", "rule", "slip"]
  d_shortest_ways : DefAt K mg "shortest_ways" st_shortest_ways ["newcomer", "table", "row_prices", "column_prices", "holders"]
  d_let_in : DefAt K mg "let_in" st_let_in ["newcomer", "table", "row_prices", "column_prices", "holders"]
  d_best_choice : DefAt K mg "best_choice" st_best_choice ["worths", "many"]
  d_total_worth : DefAt K mg "total_worth" st_total_worth ["worths", "pairs"]
  d_total_cost : DefAt K mg "total_cost" st_total_cost ["worths", "pairs"]
  d_is_choice : DefAt K mg "is_choice" st_is_choice ["thing", "worths", "many"]
  d_are_prices : DefAt K mg "are_prices" st_are_prices ["thing", "rows", "many"]
  d_possible_pairs : DefAt K mg "possible_pairs" st_possible_pairs ["worths"]
  d_tight_pairs : DefAt K mg "tight_pairs" st_tight_pairs ["worths", "prices"]
  d_exchanges : DefAt K mg "exchanges" st_exchanges ["worths", "many", "pairs", "prices"]
  d_reached : DefAt K mg "reached" st_reached ["ways", "start"]
  d_sure_pairs : DefAt K mg "sure_pairs" st_sure_pairs ["worths", "many"]
  d_check_near : DefAt K mg "check_near" st_check_near ["near"]
  d_are_near : DefAt K mg "are_near" st_are_near ["light", "mate", "near"]
  d_near_groups : DefAt K mg "near_groups" st_near_groups ["lights", "near"]
  d_groups : DefAt K mg "groups" st_groups ["lights", "near"]
  d__law_row : DefAt K mg "_law_row" st__law_row ["_law_script"]
  d__law_taken : DefAt K mg "_law_taken" st__law_taken ["_law_row_here", "_law_many"]
  d__law_light : DefAt K mg "_law_light" st__law_light ["_law_row_here", "_law_wide"]
  d__law_lights : DefAt K mg "_law_lights" st__law_lights ["_law_row_here", "_law_many", "_law_wide"]
  d__law_rule : DefAt K mg "_law_rule" st__law_rule ["_law_row_here"]
  e_pairing_0 : DefAtK K mg "pairing" st_pairing ["one", "other", "rule", "slip"] 3 [] (fun ds es => ds ++ ([(.ktup [(.int 0), (.int 0)])] ++ []))
  e_settles_0 : DefAtK K mg "settles" st_settles ["one", "other", "rule", "pairs", "prices", "slip"] 5 [] (fun ds es => ds ++ ([(.ktup [(.int 0), (.int 0)])] ++ []))
  e_sure_0 : DefAtK K mg "sure" st_sure ["one", "other", "rule", "slip"] 3 [] (fun ds es => ds ++ ([(.ktup [(.int 0), (.int 0)])] ++ []))
  x_BadLights : Cls1 K mg "BadLights" "BadLights.__init__" st_BadLights ["self", "number"] "number"
  b_SkyError : BaseInit K mg "SkyError"
  x_BadCount : Cls0 K mg "BadCount"
  x_BadRule : Cls0 K mg "BadRule"
  x_BadSlip : Cls0 K mg "BadSlip"
  g_MOST_LIGHTS : KAt K mg "MOST_LIGHTS" k_MOST_LIGHTS
  g_LIGHT_BOUNDS : KAt K mg "LIGHT_BOUNDS" k_LIGHT_BOUNDS
  g_RULE_BOUNDS : KAt K mg "RULE_BOUNDS" k_RULE_BOUNDS
  g_SLIP_BOUNDS : KAt K mg "SLIP_BOUNDS" k_SLIP_BOUNDS
  g_FULL_WORTH : KAt K mg "FULL_WORTH" k_FULL_WORTH
  g_NO_WAY : KAt K mg "NO_WAY" k_NO_WAY
  g_MOST_NEAR : KAt K mg "MOST_NEAR" k_MOST_NEAR
section
variable {P : Program} {w : World} {K : PySem.W.Frag} {mg : Str → Option Value} {base : Heap}
theorem i_BadLights (M : Facts K mg) : Rais1 P w K mg base 1 "BadLights" "number" ["self", "number"] := init_ok M.x_BadLights M.b_SkyError sc_BadLights rfl rfl (by decide) (.inl rfl) (.inl rfl) (by decide) (by decide) (by decide) (by decide) (by decide) (by decide) (fun _ => ⟨_, rfl⟩)
theorem c_is_number (M : Facts K mg) (T_ : Tb) : Cal P w K mg base T_ 1 "is_number" 3 f_is_number := by
  obtain ⟨fa, fd, F, hm, hb⟩ := M.d_is_number.ex
  refine ⟨fa, fd, ["thing", "low", "high"], fn_run F sc_is_number (fun cdv A outer s H E hr => ?_), hm, F.kp, hb, rfl⟩
  have tk := takes_of (X := cxOf (L2.CX P w) P w K mg base ["thing", "low", "high"] "is_number" (defScope st_is_number) fa cdv A outer s H E) rfl rfl rfl rfl
  have hu1 := hu_of hr; have hu64 := hr.units; have hu65 := units65 hr
  exact (rs_one (rs_ret (re_and (re_isi (t := Ty.int) (fun h => pe_callB call_isi (by rfl) M.n_isinstance (by decide +kernel) (pa_cons h (pa_cons (pe_bltn (v := .ty "int") (u := .type "int") (by rfl) M.n_int (by decide +kernel) (by rfl)) pa_nil))) (re_var (pv 0))) (re_and (re_not (re_isi (t := Ty.bool) (fun h => pe_callB call_isi (by rfl) M.n_isinstance (by decide +kernel) (pa_cons h (pa_cons (pe_bltn (v := .ty "bool") (u := .type "bool") (by rfl) M.n_bool (by decide +kernel) (by rfl)) pa_nil))) (re_var (pv 0)))) (re_one_b (re_chain (op_le) (op_le) ru_le ru_le (re_var (pv 1)) (re_var (pv 0)) (re_var (pv 2))))))))
theorem c_are_numbers (M : Facts K mg) (T_ : Tb) : Cal P w K mg base T_ 2 "are_numbers" 2 f_are_numbers := by
  obtain ⟨fa, fd, F, hm, hb⟩ := M.d_are_numbers.ex
  refine ⟨fa, fd, ["thing", "bounds"], fn_run F sc_are_numbers (fun cdv A outer s H E hr => ?_), hm, F.kp, hb, rfl⟩
  have tk := takes_of (X := cxOf (L2.CX P w) P w K mg base ["thing", "bounds", "part", "low", "high"] "are_numbers" (defScope st_are_numbers) fa cdv A outer s H E) rfl rfl rfl rfl
  have hu1 := hu_of hr; have hu64 := hr.units; have hu65 := units65 hr
  exact (rs_cons (rs_if (PW.pt (rw_or (rt_not (rt_val (re_isi (t := Ty.tuple) (fun h => pe_callB call_isi (by rfl) M.n_isinstance (by decide +kernel) (pa_cons h (pa_cons (pe_bltn (v := .ty "tuple") (u := .type "tuple") (by rfl) M.n_tuple (by decide +kernel) (by rfl)) pa_nil))) (re_var (pv 0))))) (rw_one_or (rt_cmp (op_neD hu64) ru_ne (re_b (fun h => pe_callB (call_len_seq) (by rfl) M.n_len PySem.boot_len h) ru_len (ra_cons (re_var (pv 0)) ra_nil)) (re_b (fun h => pe_callB (call_len_seq) (by rfl) M.n_len PySem.boot_len h) ru_len (ra_cons (re_var (pv 1)) ra_nil)) (nomark _))))) (rs_one (rs_ret (re_c pe_bl fun _ => .bl _))) rs_nil) (rs_one (rs_ret (re_b (fun h => pe_callB (cr_all (by rfl)) (by rfl) M.n_all (by decide +kernel) h) ru_all (ra_cons (PE.imp (pe_lc (own := [("part", 2), ("low", 3), ("high", 4)]) rfl sc_are_numbers.nd (ri_zp (fun h => RZ.pi_zipA (by rfl) M.n_zip h) (ra_cons (re_var (pv 0)) (ra_cons (re_var (pv 1)) ra_nil))) (blkOk_by (N := ["thing", "bounds", "part", "low", "high"]) (sc := defScope st_are_numbers) (by decide +kernel)) (fun _ _ _ _ _ => (rg_t rfl (rgs_cons (gOwn_ok _) (rg_n (pg_name (i := 2) sc_are_numbers.nd (by rfl) (by first | exact Or.inl rfl | exact Or.inr rfl)) (fun _ _ => wipe_set _ _ _ _ (by decide))) (rgs_cons (gOwn_ok _) (rg_t rfl (rgs_cons (gOwn_ok _) (rg_n (pg_name (i := 3) sc_are_numbers.nd (by rfl) (by first | exact Or.inl rfl | exact Or.inr rfl)) (fun _ _ => wipe_set _ _ _ _ (by decide))) (rgs_cons (gOwn_ok _) (rg_n (pg_name (i := 4) sc_are_numbers.nd (by rfl) (by first | exact Or.inl rfl | exact Or.inr rfl)) (fun _ _ => wipe_set _ _ _ _ (by decide))) (rgs_nil (gOwn_ok _)))) (gsCons_len (gsCons_len gsNil_len))) (rgs_nil (gOwn_ok _)))) (gsCons_len (gsCons_len gsNil_len)))) (fun _ _ _ _ _ => rpts_nil) (fun _ _ _ _ _ => (re_call (c_is_number M T_) (hr.mono (by decide)) takes0 (by rfl) (ra_cons (re_var (pv 2)) (ra_cons (re_var (pv 3)) (ra_cons (re_var (pv 4)) ra_nil)))))) (fun σ H Q h => rd_lc rfl σ H Q h)) ra_nil)))))
theorem c_check_lights (M : Facts K mg) (T_ : Tb) : Cal P w K mg base T_ 3 "check_lights" 1 f_check_lights := by
  obtain ⟨fa, fd, F, hm, hb⟩ := M.d_check_lights.ex
  refine ⟨fa, fd, ["lights"], fn_runT F sc_check_lights (fun cdv A outer s H E hr => ?_), hm, F.kp, hb, rfl⟩
  have tk := takes_of (X := cxOf (L2.CX P w) P w K mg base ["lights", "places", "number", "light", "place"] "check_lights" (defScope st_check_lights) fa cdv A outer s H E) rfl rfl rfl rfl
  have hu1 := hu_of hr; have hu64 := hr.units; have hu65 := units65 hr
  exact (rs_cons (rs_if (rt_not (rt_val (re_isi (t := Ty.tuple) (fun h => pe_callB call_isi (by rfl) M.n_isinstance (by decide +kernel) (pa_cons h (pa_cons (pe_bltn (v := .ty "tuple") (u := .type "tuple") (by rfl) M.n_tuple (by decide +kernel) (by rfl)) pa_nil))) (re_var (pv 0))))) (rs_one (rs_rais1 (i_BadLights M) (hr.mono (by decide)) rfl tk rfl (ra_cons (re_c pe_int fun _ => .int _) ra_nil))) rs_nil) (rs_cons (rs_set (fun h => ps_set (i := 1) sc_check_lights.nd rfl (by first | exact Or.inl rfl | exact Or.inr rfl) h) re_dic) (rs_one (rs_for (passes_of rfl) rfl (ri_en (fun h => pi_enum1 (by rfl) M.n_enumerate h) (ra_cons (re_var (pv 0)) ra_nil)) (rg_t rfl (rgs_cons gAny_ok (rg_n (pg_name (i := 2) sc_check_lights.nd (by rfl) (by first | exact Or.inl rfl | exact Or.inr rfl)) (fun _ _ => trivial)) (rgs_cons gAny_ok (rg_n (pg_name (i := 3) sc_check_lights.nd (by rfl) (by first | exact Or.inl rfl | exact Or.inr rfl)) (fun _ _ => trivial)) (rgs_nil gAny_ok))) (gsCons_len (gsCons_len gsNil_len))) (rs_cons (rs_if (PW.pt (rw_or (rt_cmp (op_eqD hu64) ru_eq (re_var (pv 2)) (re_glob M.g_MOST_LIGHTS rfl) (nomark _)) (rw_one_or (rt_not (rt_val (re_call (c_are_numbers M T_) (hr.mono (by decide)) tk (by rfl) (ra_cons (re_var (pv 3)) (ra_cons (re_glob M.g_LIGHT_BOUNDS rfl) ra_nil)))))))) (rs_one (rs_rais1 (i_BadLights M) (hr.mono (by decide)) rfl tk rfl (ra_cons (re_var (pv 2)) ra_nil))) rs_nil) (rs_cons (rs_set (fun h => ps_set (i := 4) sc_check_lights.nd rfl (by first | exact Or.inl rfl | exact Or.inr rfl) h) (re_sl (re_var (pv 3)) ro_no (ro_so (re_c pe_int fun _ => .int _)))) (rs_cons (rs_if (rt_din hu1 (re_var (pv 4)) (re_var (pv 1)) (by with_unfolding_all rfl)) (rs_one (rs_rais1 (i_BadLights M) (hr.mono (by decide)) rfl tk rfl (ra_cons (re_var (pv 2)) ra_nil))) rs_nil) (rs_one (rs_dput hu1 (re_c pe_bl fun _ => .bl _) (re_var (pv 1)) (re_var (pv 4)))))))))))
theorem c_check_rule (M : Facts K mg) (T_ : Tb) : Cal P w K mg base T_ 3 "check_rule" 1 f_check_rule := by
  obtain ⟨fa, fd, F, hm, hb⟩ := M.d_check_rule.ex
  refine ⟨fa, fd, ["rule"], fn_run F sc_check_rule (fun cdv A outer s H E hr => ?_), hm, F.kp, hb, rfl⟩
  have tk := takes_of (X := cxOf (L2.CX P w) P w K mg base ["rule"] "check_rule" (defScope st_check_rule) fa cdv A outer s H E) rfl rfl rfl rfl
  have hu1 := hu_of hr; have hu64 := hr.units; have hu65 := units65 hr
  exact (rs_one (rs_if (rt_not (rt_val (re_call (c_are_numbers M T_) (hr.mono (by decide)) tk (by rfl) (ra_cons (re_var (pv 0)) (ra_cons (re_glob M.g_RULE_BOUNDS rfl) ra_nil))))) (rs_one (rs_rais0 M.x_BadRule rfl tk rfl (ra_cons (re_c pe_str fun _ => .str _) ra_nil))) rs_nil))
theorem c_check_slip (M : Facts K mg) (T_ : Tb) : Cal P w K mg base T_ 3 "check_slip" 1 f_check_slip := by
  obtain ⟨fa, fd, F, hm, hb⟩ := M.d_check_slip.ex
  refine ⟨fa, fd, ["slip"], fn_run F sc_check_slip (fun cdv A outer s H E hr => ?_), hm, F.kp, hb, rfl⟩
  have tk := takes_of (X := cxOf (L2.CX P w) P w K mg base ["slip"] "check_slip" (defScope st_check_slip) fa cdv A outer s H E) rfl rfl rfl rfl
  have hu1 := hu_of hr; have hu64 := hr.units; have hu65 := units65 hr
  exact (rs_one (rs_if (rt_not (rt_val (re_call (c_are_numbers M T_) (hr.mono (by decide)) tk (by rfl) (ra_cons (re_var (pv 0)) (ra_cons (re_glob M.g_SLIP_BOUNDS rfl) ra_nil))))) (rs_one (rs_rais0 M.x_BadSlip rfl tk rfl (ra_cons (re_c pe_str fun _ => .str _) ra_nil))) rs_nil))
theorem c_check_count (M : Facts K mg) (T_ : Tb) : Cal P w K mg base T_ 3 "check_count" 3 f_check_count := by
  obtain ⟨fa, fd, F, hm, hb⟩ := M.d_check_count.ex
  refine ⟨fa, fd, ["thing", "low", "high"], fn_run F sc_check_count (fun cdv A outer s H E hr => ?_), hm, F.kp, hb, rfl⟩
  have tk := takes_of (X := cxOf (L2.CX P w) P w K mg base ["thing", "low", "high"] "check_count" (defScope st_check_count) fa cdv A outer s H E) rfl rfl rfl rfl
  have hu1 := hu_of hr; have hu64 := hr.units; have hu65 := units65 hr
  exact (rs_one (rs_if (rt_not (rt_val (re_call (c_is_number M T_) (hr.mono (by decide)) tk (by rfl) (ra_cons (re_var (pv 0)) (ra_cons (re_var (pv 1)) (ra_cons (re_var (pv 2)) ra_nil)))))) (rs_one (rs_rais0 M.x_BadCount rfl tk rfl (ra_cons (re_js (RJ.cs (RJ.fm (re_var (pv 1)) (RJ.cs (RJ.fm (re_var (pv 2)) (RJ.cs RJ.nil)))))) ra_nil))) rs_nil))
theorem c_pair_worth (M : Facts K mg) (T_ : Tb) : Cal P w K mg base T_ 1 "pair_worth" 3 f_pair_worth := by
  obtain ⟨fa, fd, F, hm, hb⟩ := M.d_pair_worth.ex
  refine ⟨fa, fd, ["light", "mate", "rule"], fn_run F sc_pair_worth (fun cdv A outer s H E hr => ?_), hm, F.kp, hb, rfl⟩
  have tk := takes_of (X := cxOf (L2.CX P w) P w K mg base ["light", "mate", "rule", "aside", "along", "apart", "squares", "reach", "dim", "near"] "pair_worth" (defScope st_pair_worth) fa cdv A outer s H E) rfl rfl rfl rfl
  have hu1 := hu_of hr; have hu64 := hr.units; have hu65 := units65 hr
  exact (rs_cons (rs_asg (fun h1 h2 => ps_asg h1 h2) (re_var (pv 2)) (rg_t rfl (rgs_cons gAny_ok (rg_n (pg_name (i := 7) sc_pair_worth.nd (by rfl) (by first | exact Or.inl rfl | exact Or.inr rfl)) (fun _ _ => trivial)) (rgs_cons gAny_ok (rg_n (pg_name (i := 8) sc_pair_worth.nd (by rfl) (by first | exact Or.inl rfl | exact Or.inr rfl)) (fun _ _ => trivial)) (rgs_cons gAny_ok (rg_n (pg_name (i := 9) sc_pair_worth.nd (by rfl) (by first | exact Or.inl rfl | exact Or.inr rfl)) (fun _ _ => trivial)) (rgs_nil gAny_ok)))) (gsCons_len (gsCons_len (gsCons_len gsNil_len))))) (rs_cons (rs_set (fun h => ps_set (i := 3) sc_pair_worth.nd rfl (by first | exact Or.inl rfl | exact Or.inr rfl) h) (re_bin op_sub ru_sub (re_ix (re_var (pv 0)) (re_c pe_int fun _ => .int _) (fun _ _ => rfl)) (re_ix (re_var (pv 1)) (re_c pe_int fun _ => .int _) (fun _ _ => rfl)))) (rs_cons (rs_set (fun h => ps_set (i := 4) sc_pair_worth.nd rfl (by first | exact Or.inl rfl | exact Or.inr rfl) h) (re_bin op_sub ru_sub (re_ix (re_var (pv 0)) (re_c pe_int fun _ => .int _) (fun _ _ => rfl)) (re_ix (re_var (pv 1)) (re_c pe_int fun _ => .int _) (fun _ _ => rfl)))) (rs_cons (rs_set (fun h => ps_set (i := 5) sc_pair_worth.nd rfl (by first | exact Or.inl rfl | exact Or.inr rfl) h) (re_b (fun h => pe_callB (call_abs) (by rfl) M.n_abs (by decide +kernel) h) ru_abs (ra_cons (re_bin op_sub ru_sub (re_ix (re_var (pv 0)) (re_c pe_int fun _ => .int _) (fun _ _ => rfl)) (re_ix (re_var (pv 1)) (re_c pe_int fun _ => .int _) (fun _ _ => rfl))) ra_nil))) (rs_cons (rs_set (fun h => ps_set (i := 6) sc_pair_worth.nd rfl (by first | exact Or.inl rfl | exact Or.inr rfl) h) (re_bin op_addA ru_add (re_bin op_mulA ru_mul (re_var (pv 3)) (re_var (pv 3))) (re_bin op_mulA ru_mul (re_var (pv 4)) (re_var (pv 4))))) (rs_cons (rs_if (PW.pt (rw_or (rt_cmp (op_gt) ru_gt (re_var (pv 6)) (re_bin op_mulA ru_mul (re_var (pv 7)) (re_var (pv 7))) (nomark _)) (rw_one_or (rt_cmp (op_gt) ru_gt (re_var (pv 5)) (re_var (pv 8)) (nomark _))))) (rs_one (rs_ret (re_c pe_int fun _ => .int _))) rs_nil) (rs_one (rs_ret (re_bin op_sub ru_sub (re_bin op_sub ru_sub (re_glob M.g_FULL_WORTH rfl) (re_var (pv 6))) (re_bin op_mulA ru_mul (re_var (pv 9)) (re_var (pv 5))))))))))))
theorem c_worth_table (M : Facts K mg) (T_ : Tb) : Cal P w K mg base T_ 2 "worth_table" 4 f_worth_table := by
  obtain ⟨fa, fd, F, hm, hb⟩ := M.d_worth_table.ex
  refine ⟨fa, fd, ["one", "other", "rule", "slip"], fn_run F sc_worth_table (fun cdv A outer s H E hr => ?_), hm, F.kp, hb, rfl⟩
  have tk := takes_of (X := cxOf (L2.CX P w) P w K mg base ["one", "other", "rule", "slip", "slipped", "aside", "along", "light", "x", "y", "glow", "mate"] "worth_table" (defScope st_worth_table) fa cdv A outer s H E) rfl rfl rfl rfl
  have hu1 := hu_of hr; have hu64 := hr.units; have hu65 := units65 hr
  exact (rs_cons (rs_asg (fun h1 h2 => ps_asg h1 h2) (re_var (pv 3)) (rg_t rfl (rgs_cons gAny_ok (rg_n (pg_name (i := 5) sc_worth_table.nd (by rfl) (by first | exact Or.inl rfl | exact Or.inr rfl)) (fun _ _ => trivial)) (rgs_cons gAny_ok (rg_n (pg_name (i := 6) sc_worth_table.nd (by rfl) (by first | exact Or.inl rfl | exact Or.inr rfl)) (fun _ _ => trivial)) (rgs_nil gAny_ok))) (gsCons_len (gsCons_len gsNil_len)))) (rs_cons (rs_set (fun h => ps_set (i := 4) sc_worth_table.nd rfl (by first | exact Or.inl rfl | exact Or.inr rfl) h) (PE.imp (pe_lc (own := [("x", 8), ("y", 9), ("glow", 10)]) rfl sc_worth_table.nd (ri_val (re_var (pv 1))) (blkOk_by (N := ["one", "other", "rule", "slip", "slipped", "aside", "along", "light", "x", "y", "glow", "mate"]) (sc := defScope st_worth_table) (by decide +kernel)) (fun _ _ _ _ _ => (rg_t rfl (rgs_cons (gOwn_ok _) (rg_n (pg_name (i := 8) sc_worth_table.nd (by rfl) (by first | exact Or.inl rfl | exact Or.inr rfl)) (fun _ _ => wipe_set _ _ _ _ (by decide))) (rgs_cons (gOwn_ok _) (rg_n (pg_name (i := 9) sc_worth_table.nd (by rfl) (by first | exact Or.inl rfl | exact Or.inr rfl)) (fun _ _ => wipe_set _ _ _ _ (by decide))) (rgs_cons (gOwn_ok _) (rg_n (pg_name (i := 10) sc_worth_table.nd (by rfl) (by first | exact Or.inl rfl | exact Or.inr rfl)) (fun _ _ => wipe_set _ _ _ _ (by decide))) (rgs_nil (gOwn_ok _))))) (gsCons_len (gsCons_len (gsCons_len gsNil_len))))) (fun _ _ _ _ _ => rpts_nil) (fun _ _ _ _ _ => (re_tup (ra_cons (re_bin op_addA ru_add (re_var (pv 8)) (re_var (pv 5))) (ra_cons (re_bin op_addA ru_add (re_var (pv 9)) (re_var (pv 6))) (ra_cons (re_var (pv 10)) ra_nil)))))) (fun σ H Q h => rd_lc rfl σ H Q h))) (rs_one (rs_ret (PE.imp (pe_lc (own := [("light", 7)]) rfl sc_worth_table.nd (ri_val (re_var (pv 0))) (blkOk_by (N := ["one", "other", "rule", "slip", "slipped", "aside", "along", "light", "x", "y", "glow", "mate"]) (sc := defScope st_worth_table) (by decide +kernel)) (fun _ _ _ _ _ => (rg_n (pg_name (i := 7) sc_worth_table.nd (by rfl) (by first | exact Or.inl rfl | exact Or.inr rfl)) (fun _ _ => wipe_set _ _ _ _ (by decide)))) (fun _ _ _ _ _ => rpts_nil) (fun _ _ _ _ _ => (PE.imp (pe_lc (own := [("mate", 11)]) rfl sc_worth_table.nd (ri_val (re_var (pv 4))) (blkOk_by (by rfl)) (fun _ _ _ _ _ => (rg_n (pg_name (i := 11) sc_worth_table.nd (by rfl) (by first | exact Or.inl rfl | exact Or.inr rfl)) (fun _ _ => wipe_set _ _ _ _ (by decide)))) (fun _ _ _ _ _ => rpts_nil) (fun _ _ _ _ _ => (re_call (c_pair_worth M T_) (hr.mono (by decide)) takes0 (by rfl) (ra_cons (re_var (pv 7)) (ra_cons (re_var (pv 11)) (ra_cons (re_var (pv 2)) ra_nil)))))) (fun σ H Q h => rd_lc rfl σ H Q h)))) (fun σ H Q h => rd_lc rfl σ H Q h))))))
theorem c_asked_worths (M : Facts K mg) (T_ : Tb) : Cal P w K mg base T_ 4 "asked_worths" 4 f_asked_worths := by
  obtain ⟨fa, fd, F, hm, hb⟩ := M.d_asked_worths.ex
  refine ⟨fa, fd, ["one", "other", "rule", "slip"], fn_run F sc_asked_worths (fun cdv A outer s H E hr => ?_), hm, F.kp, hb, rfl⟩
  have tk := takes_of (X := cxOf (L2.CX P w) P w K mg base ["one", "other", "rule", "slip"] "asked_worths" (defScope st_asked_worths) fa cdv A outer s H E) rfl rfl rfl rfl
  have hu1 := hu_of hr; have hu64 := hr.units; have hu65 := units65 hr
  exact (rs_cons (rs_do (re_call (c_check_lights M T_) (hr.mono (by decide)) tk (by rfl) (ra_cons (re_var (pv 0)) ra_nil))) (rs_cons (rs_do (re_call (c_check_lights M T_) (hr.mono (by decide)) tk (by rfl) (ra_cons (re_var (pv 1)) ra_nil))) (rs_cons (rs_do (re_call (c_check_rule M T_) (hr.mono (by decide)) tk (by rfl) (ra_cons (re_var (pv 2)) ra_nil))) (rs_cons (rs_do (re_call (c_check_slip M T_) (hr.mono (by decide)) tk (by rfl) (ra_cons (re_var (pv 3)) ra_nil))) (rs_one (rs_ret (re_call (c_worth_table M T_) (hr.mono (by decide)) tk (by rfl) (ra_cons (re_var (pv 0)) (ra_cons (re_var (pv 1)) (ra_cons (re_var (pv 2)) (ra_cons (re_var (pv 3)) ra_nil)))))))))))
theorem c_shortest_ways (M : Facts K mg) (T_ : Tb) : Cal P w K mg base T_ 1 "shortest_ways" 5 f_shortest_ways := by
  obtain ⟨fa, fd, F, hm, hb⟩ := M.d_shortest_ways.ex
  refine ⟨fa, fd, ["newcomer", "table", "row_prices", "column_prices", "holders"], fn_run F sc_shortest_ways (fun cdv A outer s H E hr => ?_), hm, F.kp, hb, rfl⟩
  have tk := takes_of (X := cxOf (L2.CX P w) P w K mg base ["newcomer", "table", "row_prices", "column_prices", "holders", "lacks", "ahead", "waiting", "ended", "row", "last", "passed", "column", "lack"] "shortest_ways" (defScope st_shortest_ways) fa cdv A outer s H E) rfl rfl rfl rfl
  have hu1 := hu_of hr; have hu64 := hr.units; have hu65 := units65 hr
  exact (rs_cons (rs_set (fun h => ps_set (i := 5) sc_shortest_ways.nd rfl (by first | exact Or.inl rfl | exact Or.inr rfl) h) (re_bin op_rep ru_mulN (re_lst (ra_cons (re_glob M.g_NO_WAY rfl) ra_nil)) (re_b (fun h => pe_callB (call_len_seq) (by rfl) M.n_len PySem.boot_len h) ru_len (ra_cons (re_var (pv 4)) ra_nil)))) (rs_cons (rs_set (fun h => ps_set (i := 6) sc_shortest_ways.nd rfl (by first | exact Or.inl rfl | exact Or.inr rfl) h) (re_bin op_rep ru_mulN (re_lst (ra_cons (re_c pe_non fun _ => .non) ra_nil)) (re_b (fun h => pe_callB (call_len_seq) (by rfl) M.n_len PySem.boot_len h) ru_len (ra_cons (re_var (pv 4)) ra_nil)))) (rs_cons (rs_set (fun h => ps_set (i := 7) sc_shortest_ways.nd rfl (by first | exact Or.inl rfl | exact Or.inr rfl) h) (re_lrg rfl (by rfl) M.n_list (by rfl) M.n_range (re_b (fun h => pe_callB (call_len_seq) (by rfl) M.n_len PySem.boot_len h) ru_len (ra_cons (re_var (pv 4)) ra_nil)))) (rs_cons (rs_set (fun h => ps_set (i := 8) sc_shortest_ways.nd rfl (by first | exact Or.inl rfl | exact Or.inr rfl) h) (re_new ra_nil)) (rs_cons (rs_set (fun h => ps_set (i := 9) sc_shortest_ways.nd rfl (by first | exact Or.inl rfl | exact Or.inr rfl) h) (re_var (pv 0))) (rs_cons (rs_set (fun h => ps_set (i := 10) sc_shortest_ways.nd rfl (by first | exact Or.inl rfl | exact Or.inr rfl) h) (re_c pe_non fun _ => .non)) (rs_cons (rs_set (fun h => ps_set (i := 11) sc_shortest_ways.nd rfl (by first | exact Or.inl rfl | exact Or.inr rfl) h) (re_c pe_int fun _ => .int _)) (rs_cons (rs_while 1000 (passes_of rfl) (rt_cmp (op_notN) ru_notN (re_var (pv 9)) (re_c pe_non fun _ => .non) (nomark _)) (rs_cons (rs_forH (passes_of rfl) rfl (re_var (pv 7)) (rg_n (pg_name (i := 12) sc_shortest_ways.nd (by rfl) (by first | exact Or.inl rfl | exact Or.inr rfl)) (fun _ _ => trivial)) (rs_cons (rs_set (fun h => ps_set (i := 13) sc_shortest_ways.nd rfl (by first | exact Or.inl rfl | exact Or.inr rfl) h) (re_bin op_sub ru_sub (re_bin op_addA ru_add (re_bin op_addA ru_add (re_var (pv 11)) (re_ix (re_var (pv 2)) (re_var (pv 9)) (fun _ _ => rfl))) (re_ix (re_var (pv 3)) (re_var (pv 12)) (fun _ _ => rfl))) (re_ix (re_ix (re_var (pv 1)) (re_var (pv 9)) (fun _ _ => rfl)) (re_var (pv 12)) (fun _ _ => rfl)))) (rs_one (rs_if (rt_cmp (op_lt) ru_lt (re_var (pv 13)) (re_ix (re_var (pv 5)) (re_var (pv 12)) (fun _ _ => rfl)) (nomark _)) (rs_cons (rs_put (fun h1 h2 h3 => ps_asg h1 (pg_sub h2 h3 set_list)) (re_var (pv 13)) (re_var (pv 5)) (re_var (pv 12))) (rs_one (rs_put (fun h1 h2 h3 => ps_asg h1 (pg_sub h2 h3 set_list)) (re_var (pv 10)) (re_var (pv 6)) (re_var (pv 12))))) rs_nil)))) (rs_cons (rs_asg (fun h1 h2 => ps_asg h1 h2) (re_b (fun h => pe_callB (call_minPr rfl hu65) (by rfl) M.n_min (by decide +kernel) h) ru_minP (ra_cons (PE.imp (pe_lc (own := [("column", 12)]) rfl sc_shortest_ways.nd (pi_seq1 (re_var (pv 7))) (blkOk_by (N := ["newcomer", "table", "row_prices", "column_prices", "holders", "lacks", "ahead", "waiting", "ended", "row", "last", "passed", "column", "lack"]) (sc := defScope st_shortest_ways) (by decide +kernel)) (fun _ _ _ _ _ => (rg_n (pg_name (i := 12) sc_shortest_ways.nd (by rfl) (by first | exact Or.inl rfl | exact Or.inr rfl)) (fun _ _ => wipe_set _ _ _ _ (by decide)))) (fun _ _ _ _ _ => rpts_nil) (fun _ _ _ _ _ => (re_tup (ra_cons (re_ix (re_var (pv 5)) (re_var (pv 12)) (fun _ _ => rfl)) (ra_cons (re_var (pv 12)) ra_nil))))) (fun σ H Q h => rd_lcH σ H Q h)) ra_nil)) (rg_t rfl (rgs_cons gAny_ok (rg_n (pg_name (i := 11) sc_shortest_ways.nd (by rfl) (by first | exact Or.inl rfl | exact Or.inr rfl)) (fun _ _ => trivial)) (rgs_cons gAny_ok (rg_n (pg_name (i := 10) sc_shortest_ways.nd (by rfl) (by first | exact Or.inl rfl | exact Or.inr rfl)) (fun _ _ => trivial)) (rgs_nil gAny_ok))) (gsCons_len (gsCons_len gsNil_len)))) (rs_cons (rs_do (re_m1 (fun ho ha => pe_bm PySem.F.plainAttrs_list PySem.F.slot_list_remove PySem.F.type_list_remove mt_remove ho ha) ru_rem (re_var (pv 7)) (re_var (pv 10)))) (rs_cons (rs_do (re_m1 (fun ho ha => pe_bm PySem.F.plainAttrs_list PySem.F.slot_list_append PySem.F.type_list_append mt_append ho ha) ru_app (re_var (pv 8)) (re_var (pv 10)))) (rs_one (rs_set (fun h => ps_set (i := 9) sc_shortest_ways.nd rfl (by first | exact Or.inl rfl | exact Or.inr rfl) h) (re_ix (re_var (pv 4)) (re_var (pv 10)) (fun _ _ => rfl))))))))) (rs_one (rs_ret (re_tup (ra_cons (re_var (pv 5)) (ra_cons (re_var (pv 6)) (ra_cons (re_var (pv 8)) ra_nil))))))))))))))
theorem c_let_in (M : Facts K mg) (T_ : Tb) : Cal P w K mg base T_ 2 "let_in" 5 f_let_in := by
  obtain ⟨fa, fd, F, hm, hb⟩ := M.d_let_in.ex
  refine ⟨fa, fd, ["newcomer", "table", "row_prices", "column_prices", "holders"], fn_runT F sc_let_in (fun cdv A outer s H E hr => ?_), hm, F.kp, hb, rfl⟩
  have tk := takes_of (X := cxOf (L2.CX P w) P w K mg base ["newcomer", "table", "row_prices", "column_prices", "holders", "free", "column", "lacks", "ahead", "ended", "change"] "let_in" (defScope st_let_in) fa cdv A outer s H E) rfl rfl rfl rfl
  have hu1 := hu_of hr; have hu64 := hr.units; have hu65 := units65 hr
  exact (rs_cons (rs_asg (fun h1 h2 => ps_asg h1 h2) (re_call (c_shortest_ways M T_) (hr.mono (by decide)) tk (by rfl) (ra_cons (re_var (pv 0)) (ra_cons (re_var (pv 1)) (ra_cons (re_var (pv 2)) (ra_cons (re_var (pv 3)) (ra_cons (re_var (pv 4)) ra_nil)))))) (rg_t rfl (rgs_cons gAny_ok (rg_n (pg_name (i := 7) sc_let_in.nd (by rfl) (by first | exact Or.inl rfl | exact Or.inr rfl)) (fun _ _ => trivial)) (rgs_cons gAny_ok (rg_n (pg_name (i := 8) sc_let_in.nd (by rfl) (by first | exact Or.inl rfl | exact Or.inr rfl)) (fun _ _ => trivial)) (rgs_cons gAny_ok (rg_n (pg_name (i := 9) sc_let_in.nd (by rfl) (by first | exact Or.inl rfl | exact Or.inr rfl)) (fun _ _ => trivial)) (rgs_nil gAny_ok)))) (gsCons_len (gsCons_len (gsCons_len gsNil_len))))) (rs_cons (rs_set (fun h => ps_set (i := 5) sc_let_in.nd rfl (by first | exact Or.inl rfl | exact Or.inr rfl) h) (re_ix (re_var (pv 9)) (re_neg (re_c pe_int fun _ => .int _)) (fun _ _ => rfl))) (rs_cons (rs_aug (fun h1 h2 h3 => ps_augS h1 h2 pget_seq h3 ip_sub set_list) ru_subI (re_var (pv 2)) (re_var (pv 0)) (re_ix (re_var (pv 7)) (re_var (pv 5)) (fun _ _ => rfl))) (rs_cons (rs_for (passes_of rfl) rfl (ri_val (re_sl (re_var (pv 9)) ro_no (ro_so (re_neg (re_c pe_int fun _ => .int _))))) (rg_n (pg_name (i := 6) sc_let_in.nd (by rfl) (by first | exact Or.inl rfl | exact Or.inr rfl)) (fun _ _ => trivial)) (rs_cons (rs_set (fun h => ps_set (i := 10) sc_let_in.nd rfl (by first | exact Or.inl rfl | exact Or.inr rfl) h) (re_bin op_sub ru_sub (re_ix (re_var (pv 7)) (re_var (pv 5)) (fun _ _ => rfl)) (re_ix (re_var (pv 7)) (re_var (pv 6)) (fun _ _ => rfl)))) (rs_cons (rs_aug (fun h1 h2 h3 => ps_augS h1 h2 pget_seq h3 ip_sub set_list) ru_subI (re_var (pv 2)) (re_ix (re_var (pv 4)) (re_var (pv 6)) (fun _ _ => rfl)) (re_var (pv 10))) (rs_one (rs_aug (fun h1 h2 h3 => ps_augS h1 h2 pget_seq h3 ip_add set_list) ru_addI (re_var (pv 3)) (re_var (pv 6)) (re_var (pv 10))))))) (rs_cons (rs_set (fun h => ps_set (i := 6) sc_let_in.nd rfl (by first | exact Or.inl rfl | exact Or.inr rfl) h) (re_var (pv 5))) (rs_cons (rs_while 1000 (passes_of rfl) (rt_cmp (op_notN) ru_notN (re_ix (re_var (pv 8)) (re_var (pv 6)) (fun _ _ => rfl)) (re_c pe_non fun _ => .non) (nomark _)) (rs_cons (rs_put (fun h1 h2 h3 => ps_asg h1 (pg_sub h2 h3 set_list)) (re_ix (re_var (pv 4)) (re_ix (re_var (pv 8)) (re_var (pv 6)) (fun _ _ => rfl)) (fun _ _ => rfl)) (re_var (pv 4)) (re_var (pv 6))) (rs_one (rs_set (fun h => ps_set (i := 6) sc_let_in.nd rfl (by first | exact Or.inl rfl | exact Or.inr rfl) h) (re_ix (re_var (pv 8)) (re_var (pv 6)) (fun _ _ => rfl)))))) (rs_one (rs_put (fun h1 h2 h3 => ps_asg h1 (pg_sub h2 h3 set_list)) (re_var (pv 0)) (re_var (pv 4)) (re_var (pv 6))))))))))
theorem c_best_choice (M : Facts K mg) (T_ : Tb) : Cal P w K mg base T_ 3 "best_choice" 2 f_best_choice := by
  obtain ⟨fa, fd, F, hm, hb⟩ := M.d_best_choice.ex
  refine ⟨fa, fd, ["worths", "many"], fn_runT F sc_best_choice (fun cdv A outer s H E hr => ?_), hm, F.kp, hb, rfl⟩
  have tk := takes_of (X := cxOf (L2.CX P w) P w K mg base ["worths", "many", "width", "table", "row_prices", "column_prices", "holders", "row", "held", "pairs", "column"] "best_choice" (defScope st_best_choice) fa cdv A outer s H E) rfl rfl rfl rfl
  have hu1 := hu_of hr; have hu64 := hr.units; have hu65 := units65 hr
  exact (rs_cons (rs_set (fun h => ps_set (i := 2) sc_best_choice.nd rfl (by first | exact Or.inl rfl | exact Or.inr rfl) h) (re_b (fun h => pe_callB (call_max2 (by rfl)) (by rfl) M.n_max (by decide +kernel) h) ru_max2 (ra_cons (re_var (pv 1)) (ra_cons (re_b (fun h => pe_callB (call_len_seq) (by rfl) M.n_len PySem.boot_len h) ru_len (ra_cons (re_var (pv 0)) ra_nil)) ra_nil)))) (rs_cons (rs_setLc (fun D σ H Q h => rd_lc rfl σ H Q h) (ps_setLc (i := 3) (own := [("row", 7)]) rfl sc_best_choice.nd rfl rfl (sw_true rfl rfl rfl (by decide +kernel)) (ri_val (re_var (pv 0))) (blkOk_by (N := ["worths", "many", "width", "table", "row_prices", "column_prices", "holders", "row", "held", "pairs", "column"]) (sc := defScope st_best_choice) (by decide +kernel)) (fun _ _ _ _ _ => (rg_n (pg_name (i := 7) sc_best_choice.nd (by rfl) (by first | exact Or.inl rfl | exact Or.inr rfl)) (fun _ _ => wipe_set _ _ _ _ (by decide)))) (fun _ _ _ _ _ => rpts_nil) (fun _ _ _ _ _ => (re_bin op_addA ru_add (re_var (pv 7)) (re_bin op_mulA ru_mul (re_lst (ra_cons (re_c pe_int fun _ => .int _) ra_nil)) (re_bin op_sub ru_sub (re_var (pv 2)) (re_var (pv 1)))))))) (rs_cons (rs_setLc (fun D σ H Q h => rd_lcN rfl σ H Q h) (ps_setLc (i := 4) (own := [("row", 7)]) rfl sc_best_choice.nd rfl rfl (sw_true rfl rfl rfl (by decide +kernel)) (ri_val (re_var (pv 3))) (blkOk_by (N := ["worths", "many", "width", "table", "row_prices", "column_prices", "holders", "row", "held", "pairs", "column"]) (sc := defScope st_best_choice) (by decide +kernel)) (fun _ _ _ _ _ => (rg_n (pg_name (i := 7) sc_best_choice.nd (by rfl) (by first | exact Or.inl rfl | exact Or.inr rfl)) (fun _ _ => wipe_set _ _ _ _ (by decide)))) (fun _ _ _ _ _ => rpts_nil) (fun _ _ _ _ _ => (re_b (fun h => pe_callB (cr_max rfl) (by rfl) M.n_max (by decide +kernel) h) ru_max1 (ra_cons (re_var (pv 7)) ra_nil))))) (rs_cons (rs_set (fun h => ps_set (i := 5) sc_best_choice.nd rfl (by first | exact Or.inl rfl | exact Or.inr rfl) h) (re_bin op_rep ru_mulN (re_lst (ra_cons (re_c pe_int fun _ => .int _) ra_nil)) (re_var (pv 2)))) (rs_cons (rs_set (fun h => ps_set (i := 6) sc_best_choice.nd rfl (by first | exact Or.inl rfl | exact Or.inr rfl) h) (re_bin op_rep ru_mulN (re_lst (ra_cons (re_c pe_non fun _ => .non) ra_nil)) (re_var (pv 2)))) (rs_cons (rs_for (passes_of rfl) rfl (ri_r1 (fun h => pi_range1 (by rfl) M.n_range h) (ra_cons (re_b (fun h => pe_callB (call_len_seq) (by rfl) M.n_len PySem.boot_len h) ru_len (ra_cons (re_var (pv 3)) ra_nil)) ra_nil)) (rg_n (pg_name (i := 7) sc_best_choice.nd (by rfl) (by first | exact Or.inl rfl | exact Or.inr rfl)) (fun _ _ => trivial)) (rs_one (rs_do (re_call (c_let_in M T_) (hr.mono (by decide)) tk (by rfl) (ra_cons (re_var (pv 7)) (ra_cons (re_var (pv 3)) (ra_cons (re_var (pv 4)) (ra_cons (re_var (pv 5)) (ra_cons (re_var (pv 6)) ra_nil))))))))) (rs_cons (rs_setLc (fun D σ H Q h => rd_lc rfl σ H Q h) (ps_setLc (i := 8) (own := [("column", 10)]) rfl sc_best_choice.nd rfl rfl (sw_true rfl rfl rfl (by decide +kernel)) (ri_r1 (fun h => pi_range1 (by rfl) M.n_range h) (ra_cons (re_var (pv 1)) ra_nil)) (blkOk_by (N := ["worths", "many", "width", "table", "row_prices", "column_prices", "holders", "row", "held", "pairs", "column"]) (sc := defScope st_best_choice) (by decide +kernel)) (fun _ _ _ _ _ => (rg_n (pg_name (i := 10) sc_best_choice.nd (by rfl) (by first | exact Or.inl rfl | exact Or.inr rfl)) (fun _ _ => wipe_set _ _ _ _ (by decide)))) (fun _ _ _ _ _ => (pts_one (rt_cmp (op_notN) ru_notN (re_ix (re_var (pv 6)) (re_var (pv 10)) (fun _ _ => rfl)) (re_c pe_non fun _ => .non) (nomark _)))) (fun _ _ _ _ _ => (re_var (pv 10))))) (rs_cons (rs_setLc (fun D σ H Q h => rd_lc rfl σ H Q h) (ps_setLc (i := 9) (own := [("column", 10)]) rfl sc_best_choice.nd rfl rfl (sw_true rfl rfl rfl (by decide +kernel)) (ri_val (re_var (pv 8))) (blkOk_by (N := ["worths", "many", "width", "table", "row_prices", "column_prices", "holders", "row", "held", "pairs", "column"]) (sc := defScope st_best_choice) (by decide +kernel)) (fun _ _ _ _ _ => (rg_n (pg_name (i := 10) sc_best_choice.nd (by rfl) (by first | exact Or.inl rfl | exact Or.inr rfl)) (fun _ _ => wipe_set _ _ _ _ (by decide)))) (fun _ _ _ _ _ => (pts_one (rt_cmp (op_gt) ru_gt (re_ix (re_ix (re_var (pv 0)) (re_ix (re_var (pv 6)) (re_var (pv 10)) (fun _ _ => rfl)) (fun _ _ => rfl)) (re_var (pv 10)) (fun _ _ => rfl)) (re_c pe_int fun _ => .int _) (nomark _)))) (fun _ _ _ _ _ => (re_tup (ra_cons (re_ix (re_var (pv 6)) (re_var (pv 10)) (fun _ _ => rfl)) (ra_cons (re_var (pv 10)) ra_nil)))))) (rs_one (rs_ret (re_tup (ra_cons (re_b (fun h => pe_callB cr_sortedPO (by rfl) M.n_sorted (by decide +kernel) h) ru_sortP (ra_cons (re_var (pv 9)) ra_nil)) (ra_cons (re_tup (ra_cons (re_b (fun h => pe_callTy (call_tuple_of) (by rfl) M.n_tuple (by decide +kernel) h) ru_tuple (ra_cons (re_var (pv 4)) ra_nil)) (ra_cons (re_b (fun h => pe_callTy (call_tuple_of) (by rfl) M.n_tuple (by decide +kernel) h) ru_tuple (ra_cons (re_sl (re_var (pv 5)) ro_no (ro_so (re_var (pv 1)))) ra_nil)) ra_nil))) ra_nil)))))))))))))
theorem c_total_worth (M : Facts K mg) (T_ : Tb) : Cal P w K mg base T_ 1 "total_worth" 2 f_total_worth := by
  obtain ⟨fa, fd, F, hm, hb⟩ := M.d_total_worth.ex
  refine ⟨fa, fd, ["worths", "pairs"], fn_run F sc_total_worth (fun cdv A outer s H E hr => ?_), hm, F.kp, hb, rfl⟩
  have tk := takes_of (X := cxOf (L2.CX P w) P w K mg base ["worths", "pairs", "row", "column"] "total_worth" (defScope st_total_worth) fa cdv A outer s H E) rfl rfl rfl rfl
  have hu1 := hu_of hr; have hu64 := hr.units; have hu65 := units65 hr
  exact (rs_one (rs_ret (re_b (fun h => pe_callB (cr_sumA (by rfl)) (by rfl) M.n_sum (by decide +kernel) h) ru_sumA (ra_cons (PE.imp (pe_lc (own := [("row", 2), ("column", 3)]) rfl sc_total_worth.nd (ri_val (re_var (pv 1))) (blkOk_by (N := ["worths", "pairs", "row", "column"]) (sc := defScope st_total_worth) (by decide +kernel)) (fun _ _ _ _ _ => (rg_t rfl (rgs_cons (gOwn_ok _) (rg_n (pg_name (i := 2) sc_total_worth.nd (by rfl) (by first | exact Or.inl rfl | exact Or.inr rfl)) (fun _ _ => wipe_set _ _ _ _ (by decide))) (rgs_cons (gOwn_ok _) (rg_n (pg_name (i := 3) sc_total_worth.nd (by rfl) (by first | exact Or.inl rfl | exact Or.inr rfl)) (fun _ _ => wipe_set _ _ _ _ (by decide))) (rgs_nil (gOwn_ok _)))) (gsCons_len (gsCons_len gsNil_len)))) (fun _ _ _ _ _ => rpts_nil) (fun _ _ _ _ _ => (re_ix (re_ix (re_var (pv 0)) (re_var (pv 2)) (fun _ _ => rfl)) (re_var (pv 3)) (fun _ _ => rfl)))) (fun σ H Q h => rd_lc rfl σ H Q h)) ra_nil))))
theorem c_total_cost (M : Facts K mg) (T_ : Tb) : Cal P w K mg base T_ 2 "total_cost" 2 f_total_cost := by
  obtain ⟨fa, fd, F, hm, hb⟩ := M.d_total_cost.ex
  refine ⟨fa, fd, ["worths", "pairs"], fn_run F sc_total_cost (fun cdv A outer s H E hr => ?_), hm, F.kp, hb, rfl⟩
  have tk := takes_of (X := cxOf (L2.CX P w) P w K mg base ["worths", "pairs"] "total_cost" (defScope st_total_cost) fa cdv A outer s H E) rfl rfl rfl rfl
  have hu1 := hu_of hr; have hu64 := hr.units; have hu65 := units65 hr
  exact (rs_one (rs_ret (re_bin op_sub ru_sub (re_bin op_mulA ru_mul (re_glob M.g_FULL_WORTH rfl) (re_b (fun h => pe_callB (call_len_seq) (by rfl) M.n_len PySem.boot_len h) ru_len (ra_cons (re_var (pv 1)) ra_nil))) (re_call (c_total_worth M T_) (hr.mono (by decide)) tk (by rfl) (ra_cons (re_var (pv 0)) (ra_cons (re_var (pv 1)) ra_nil))))))
theorem c_pairing_0 (M : Facts K mg) (T_ : Tb) : CalK P w K mg base T_ 5 "pairing" 3 4 [] (fun ds es => ds ++ ([(.ktup [(.int 0), (.int 0)])] ++ [])) f_pairing := by
  obtain ⟨fa, fd, F, hm, hb⟩ := M.e_pairing_0.ex
  refine ⟨fa, fd, ["one", "other", "rule", "slip"], fn_run F sc_pairing (fun cdv A outer s H E hr => ?_), hm, F.kp, hb, rfl⟩
  have tk := takes_of (X := cxOf (L2.CX P w) P w K mg base ["one", "other", "rule", "slip", "worths", "pairs", "prices"] "pairing" (defScope st_pairing) fa cdv A outer s H E) rfl rfl rfl rfl
  have hu1 := hu_of hr; have hu64 := hr.units; have hu65 := units65 hr
  exact (rs_cons (rs_set (fun h => ps_set (i := 4) sc_pairing.nd rfl (by first | exact Or.inl rfl | exact Or.inr rfl) h) (re_call (c_asked_worths M T_) (hr.mono (by decide)) tk (by rfl) (ra_cons (re_var (pv 0)) (ra_cons (re_var (pv 1)) (ra_cons (re_var (pv 2)) (ra_cons (re_var (pv 3)) ra_nil)))))) (rs_cons (rs_asg (fun h1 h2 => ps_asg h1 h2) (re_call (c_best_choice M T_) (hr.mono (by decide)) tk (by rfl) (ra_cons (re_var (pv 4)) (ra_cons (re_b (fun h => pe_callB (call_len_seq) (by rfl) M.n_len PySem.boot_len h) ru_len (ra_cons (re_var (pv 1)) ra_nil)) ra_nil))) (rg_t rfl (rgs_cons gAny_ok (rg_n (pg_name (i := 5) sc_pairing.nd (by rfl) (by first | exact Or.inl rfl | exact Or.inr rfl)) (fun _ _ => trivial)) (rgs_cons gAny_ok (rg_n (pg_name (i := 6) sc_pairing.nd (by rfl) (by first | exact Or.inl rfl | exact Or.inr rfl)) (fun _ _ => trivial)) (rgs_nil gAny_ok))) (gsCons_len (gsCons_len gsNil_len)))) (rs_one (rs_ret (re_tup (ra_cons (re_b (fun h => pe_callTy (call_tuple_of) (by rfl) M.n_tuple (by decide +kernel) h) ru_tuple (ra_cons (re_var (pv 5)) ra_nil)) (ra_cons (re_call (c_total_cost M T_) (hr.mono (by decide)) tk (by rfl) (ra_cons (re_var (pv 4)) (ra_cons (re_var (pv 5)) ra_nil))) (ra_cons (re_var (pv 6)) ra_nil))))))))
theorem c_is_choice (M : Facts K mg) (T_ : Tb) : Cal P w K mg base T_ 3 "is_choice" 3 f_is_choice := by
  obtain ⟨fa, fd, F, hm, hb⟩ := M.d_is_choice.ex
  refine ⟨fa, fd, ["thing", "worths", "many"], fn_runT F sc_is_choice (fun cdv A outer s H E hr => ?_), hm, F.kp, hb, rfl⟩
  have tk := takes_of (X := cxOf (L2.CX P w) P w K mg base ["thing", "worths", "many", "bounds", "rows", "columns", "pair", "row", "column"] "is_choice" (defScope st_is_choice) fa cdv A outer s H E) rfl rfl rfl rfl
  have hu1 := hu_of hr; have hu64 := hr.units; have hu65 := units65 hr
  exact (rs_cons (rs_if (rt_not (rt_val (re_isi (t := Ty.tuple) (fun h => pe_callB call_isi (by rfl) M.n_isinstance (by decide +kernel) (pa_cons h (pa_cons (pe_bltn (v := .ty "tuple") (u := .type "tuple") (by rfl) M.n_tuple (by decide +kernel) (by rfl)) pa_nil))) (re_var (pv 0))))) (rs_one (rs_ret (re_c pe_bl fun _ => .bl _))) rs_nil) (rs_cons (rs_set (fun h => ps_set (i := 3) sc_is_choice.nd rfl (by first | exact Or.inl rfl | exact Or.inr rfl) h) (re_tup (ra_cons (re_tup (ra_cons (re_c pe_int fun _ => .int _) (ra_cons (re_bin op_sub ru_sub (re_b (fun h => pe_callB (call_len_seq) (by rfl) M.n_len PySem.boot_len h) ru_len (ra_cons (re_var (pv 1)) ra_nil)) (re_c pe_int fun _ => .int _)) ra_nil))) (ra_cons (re_tup (ra_cons (re_c pe_int fun _ => .int _) (ra_cons (re_bin op_sub ru_sub (re_var (pv 2)) (re_c pe_int fun _ => .int _)) ra_nil))) ra_nil)))) (rs_cons (rs_set (fun h => ps_set (i := 4) sc_is_choice.nd rfl (by first | exact Or.inl rfl | exact Or.inr rfl) h) re_dik) (rs_cons (rs_set (fun h => ps_set (i := 5) sc_is_choice.nd rfl (by first | exact Or.inl rfl | exact Or.inr rfl) h) re_dik) (rs_cons (rs_for (passes_of rfl) rfl (ri_val (re_var (pv 0))) (rg_n (pg_name (i := 6) sc_is_choice.nd (by rfl) (by first | exact Or.inl rfl | exact Or.inr rfl)) (fun _ _ => trivial)) (rs_cons (rs_if (rt_not (rt_val (re_call (c_are_numbers M T_) (hr.mono (by decide)) tk (by rfl) (ra_cons (re_var (pv 6)) (ra_cons (re_var (pv 3)) ra_nil))))) (rs_one (rs_ret (re_c pe_bl fun _ => .bl _))) rs_nil) (rs_cons (rs_asg (fun h1 h2 => ps_asg h1 h2) (re_var (pv 6)) (rg_t rfl (rgs_cons gAny_ok (rg_n (pg_name (i := 7) sc_is_choice.nd (by rfl) (by first | exact Or.inl rfl | exact Or.inr rfl)) (fun _ _ => trivial)) (rgs_cons gAny_ok (rg_n (pg_name (i := 8) sc_is_choice.nd (by rfl) (by first | exact Or.inl rfl | exact Or.inr rfl)) (fun _ _ => trivial)) (rgs_nil gAny_ok))) (gsCons_len (gsCons_len gsNil_len)))) (rs_cons (rs_if (PW.pt (rw_or (rt_cmp (op_eqD hu64) ru_eq (re_ix (re_ix (re_var (pv 1)) (re_var (pv 7)) (fun _ _ => rfl)) (re_var (pv 8)) (fun _ _ => rfl)) (re_c pe_int fun _ => .int _) (nomark _)) (rw_or (rt_kin hu1 (re_var (pv 7)) (re_var (pv 4)) (by with_unfolding_all rfl)) (rw_one_or (rt_kin hu1 (re_var (pv 8)) (re_var (pv 5)) (by with_unfolding_all rfl)))))) (rs_one (rs_ret (re_c pe_bl fun _ => .bl _))) rs_nil) (rs_cons (rs_kput hu1 (re_c pe_bl fun _ => .bl _) (re_var (pv 4)) (re_var (pv 7))) (rs_one (rs_kput hu1 (re_c pe_bl fun _ => .bl _) (re_var (pv 5)) (re_var (pv 8))))))))) (rs_one (rs_ret (re_c pe_bl fun _ => .bl _))))))))
theorem c_are_prices (M : Facts K mg) (T_ : Tb) : Cal P w K mg base T_ 3 "are_prices" 3 f_are_prices := by
  obtain ⟨fa, fd, F, hm, hb⟩ := M.d_are_prices.ex
  refine ⟨fa, fd, ["thing", "rows", "many"], fn_run F sc_are_prices (fun cdv A outer s H E hr => ?_), hm, F.kp, hb, rfl⟩
  have tk := takes_of (X := cxOf (L2.CX P w) P w K mg base ["thing", "rows", "many", "bound"] "are_prices" (defScope st_are_prices) fa cdv A outer s H E) rfl rfl rfl rfl
  have hu1 := hu_of hr; have hu64 := hr.units; have hu65 := units65 hr
  exact (rs_cons (rs_if (PW.pt (rw_or (rt_not (rt_val (re_isi (t := Ty.tuple) (fun h => pe_callB call_isi (by rfl) M.n_isinstance (by decide +kernel) (pa_cons h (pa_cons (pe_bltn (v := .ty "tuple") (u := .type "tuple") (by rfl) M.n_tuple (by decide +kernel) (by rfl)) pa_nil))) (re_var (pv 0))))) (rw_one_or (rt_cmp (op_neD hu64) ru_ne (re_b (fun h => pe_callB (call_len_seq) (by rfl) M.n_len PySem.boot_len h) ru_len (ra_cons (re_var (pv 0)) ra_nil)) (re_c pe_int fun _ => .int _) (nomark _))))) (rs_one (rs_ret (re_c pe_bl fun _ => .bl _))) rs_nil) (rs_cons (rs_set (fun h => ps_set (i := 3) sc_are_prices.nd rfl (by first | exact Or.inl rfl | exact Or.inr rfl) h) (re_tup (ra_cons (re_c pe_int fun _ => .int _) (ra_cons (re_glob M.g_FULL_WORTH rfl) ra_nil)))) (rs_one (rs_ret (re_and (re_call (c_are_numbers M T_) (hr.mono (by decide)) tk (by rfl) (ra_cons (re_ix (re_var (pv 0)) (re_c pe_int fun _ => .int _) (fun _ _ => rfl)) (ra_cons (re_bin op_mulT ru_mulT (re_tup (ra_cons (re_var (pv 3)) ra_nil)) (re_var (pv 1))) ra_nil))) (re_one_b (re_call (c_are_numbers M T_) (hr.mono (by decide)) tk (by rfl) (ra_cons (re_ix (re_var (pv 0)) (re_c pe_int fun _ => .int _) (fun _ _ => rfl)) (ra_cons (re_bin op_mulT ru_mulT (re_tup (ra_cons (re_var (pv 3)) ra_nil)) (re_var (pv 2))) ra_nil)))))))))
theorem c_possible_pairs (M : Facts K mg) (T_ : Tb) : Cal P w K mg base T_ 1 "possible_pairs" 1 f_possible_pairs := by
  obtain ⟨fa, fd, F, hm, hb⟩ := M.d_possible_pairs.ex
  refine ⟨fa, fd, ["worths"], fn_run F sc_possible_pairs (fun cdv A outer s H E hr => ?_), hm, F.kp, hb, rfl⟩
  have tk := takes_of (X := cxOf (L2.CX P w) P w K mg base ["worths", "at", "row", "column", "worth"] "possible_pairs" (defScope st_possible_pairs) fa cdv A outer s H E) rfl rfl rfl rfl
  have hu1 := hu_of hr; have hu64 := hr.units; have hu65 := units65 hr
  exact (rs_one (rs_ret (PE.imp (pe_lc2 (own := [("at", 1), ("row", 2), ("column", 3), ("worth", 4)]) rfl sc_possible_pairs.nd (ri_en (fun h => pi_enum1 (by rfl) M.n_enumerate h) (ra_cons (re_var (pv 0)) ra_nil)) (blkOk_by (N := ["worths", "at", "row", "column", "worth"]) (sc := defScope st_possible_pairs) (by decide +kernel)) (by decide) (fun _ _ _ _ _ => (rg_t rfl (rgs_cons (gOwn_ok _) (rg_n (pg_name (i := 1) sc_possible_pairs.nd (by rfl) (by first | exact Or.inl rfl | exact Or.inr rfl)) (fun _ _ => wipe_set _ _ _ _ (by decide))) (rgs_cons (gOwn_ok _) (rg_n (pg_name (i := 2) sc_possible_pairs.nd (by rfl) (by first | exact Or.inl rfl | exact Or.inr rfl)) (fun _ _ => wipe_set _ _ _ _ (by decide))) (rgs_nil (gOwn_ok _)))) (gsCons_len (gsCons_len gsNil_len)))) (fun _ _ _ _ _ => rpts_nil) (fun _ _ _ _ _ => (ri_en (fun h => pi_enum1 (by rfl) M.n_enumerate h) (ra_cons (re_var (pv 2)) ra_nil))) (fun _ _ _ _ _ => (rg_t rfl (rgs_cons (gOwn_ok _) (rg_n (pg_name (i := 3) sc_possible_pairs.nd (by rfl) (by first | exact Or.inl rfl | exact Or.inr rfl)) (fun _ _ => wipe_set _ _ _ _ (by decide))) (rgs_cons (gOwn_ok _) (rg_n (pg_name (i := 4) sc_possible_pairs.nd (by rfl) (by first | exact Or.inl rfl | exact Or.inr rfl)) (fun _ _ => wipe_set _ _ _ _ (by decide))) (rgs_nil (gOwn_ok _)))) (gsCons_len (gsCons_len gsNil_len)))) (fun _ _ _ _ _ => (pts_one (rt_cmp (op_gt) ru_gt (re_var (pv 4)) (re_c pe_int fun _ => .int _) (nomark _)))) (fun _ _ _ _ _ => (re_tup (ra_cons (re_var (pv 1)) (ra_cons (re_var (pv 3)) ra_nil))))) (fun σ H Q h => rd_lc2 σ H Q h))))
theorem c_settles_0 (M : Facts K mg) (T_ : Tb) : CalK P w K mg base T_ 5 "settles" 5 6 [] (fun ds es => ds ++ ([(.ktup [(.int 0), (.int 0)])] ++ [])) f_settles := by
  obtain ⟨fa, fd, F, hm, hb⟩ := M.e_settles_0.ex
  refine ⟨fa, fd, ["one", "other", "rule", "pairs", "prices", "slip"], fn_run F sc_settles (fun cdv A outer s H E hr => ?_), hm, F.kp, hb, rfl⟩
  have tk := takes_of (X := cxOf (L2.CX P w) P w K mg base ["one", "other", "rule", "pairs", "prices", "slip", "worths", "row", "column"] "settles" (defScope st_settles) fa cdv A outer s H E) rfl rfl rfl rfl
  have hu1 := hu_of hr; have hu64 := hr.units; have hu65 := units65 hr
  exact (rs_cons (rs_set (fun h => ps_set (i := 6) sc_settles.nd rfl (by first | exact Or.inl rfl | exact Or.inr rfl) h) (re_call (c_asked_worths M T_) (hr.mono (by decide)) tk (by rfl) (ra_cons (re_var (pv 0)) (ra_cons (re_var (pv 1)) (ra_cons (re_var (pv 2)) (ra_cons (re_var (pv 5)) ra_nil)))))) (rs_cons (rs_if (PW.pt (rw_or (rt_not (rt_val (re_call (c_is_choice M T_) (hr.mono (by decide)) tk (by rfl) (ra_cons (re_var (pv 3)) (ra_cons (re_var (pv 6)) (ra_cons (re_b (fun h => pe_callB (call_len_seq) (by rfl) M.n_len PySem.boot_len h) ru_len (ra_cons (re_var (pv 1)) ra_nil)) ra_nil)))))) (rw_one_or (rt_not (rt_val (re_call (c_are_prices M T_) (hr.mono (by decide)) tk (by rfl) (ra_cons (re_var (pv 4)) (ra_cons (re_b (fun h => pe_callB (call_len_seq) (by rfl) M.n_len PySem.boot_len h) ru_len (ra_cons (re_var (pv 0)) ra_nil)) (ra_cons (re_b (fun h => pe_callB (call_len_seq) (by rfl) M.n_len PySem.boot_len h) ru_len (ra_cons (re_var (pv 1)) ra_nil)) ra_nil))))))))) (rs_one (rs_ret (re_c pe_bl fun _ => .bl _))) rs_nil) (rs_cons (rs_if (rt_cmp (op_neD hu64) ru_ne (re_bin op_addA ru_add (re_b (fun h => pe_callB (cr_sumA (by rfl)) (by rfl) M.n_sum (by decide +kernel) h) ru_sumA (ra_cons (re_ix (re_var (pv 4)) (re_c pe_int fun _ => .int _) (fun _ _ => rfl)) ra_nil)) (re_b (fun h => pe_callB (cr_sumA (by rfl)) (by rfl) M.n_sum (by decide +kernel) h) ru_sumA (ra_cons (re_ix (re_var (pv 4)) (re_c pe_int fun _ => .int _) (fun _ _ => rfl)) ra_nil))) (re_call (c_total_worth M T_) (hr.mono (by decide)) tk (by rfl) (ra_cons (re_var (pv 6)) (ra_cons (re_var (pv 3)) ra_nil))) (nomark _)) (rs_one (rs_ret (re_c pe_bl fun _ => .bl _))) rs_nil) (rs_one (rs_ret (re_b (fun h => pe_callB (cr_all (by rfl)) (by rfl) M.n_all (by decide +kernel) h) ru_all (ra_cons (PE.imp (pe_lc (own := [("row", 7), ("column", 8)]) rfl sc_settles.nd (ri_val (re_call (c_possible_pairs M T_) (hr.mono (by decide)) tk (by rfl) (ra_cons (re_var (pv 6)) ra_nil))) (blkOk_by (N := ["one", "other", "rule", "pairs", "prices", "slip", "worths", "row", "column"]) (sc := defScope st_settles) (by decide +kernel)) (fun _ _ _ _ _ => (rg_t rfl (rgs_cons (gOwn_ok _) (rg_n (pg_name (i := 7) sc_settles.nd (by rfl) (by first | exact Or.inl rfl | exact Or.inr rfl)) (fun _ _ => wipe_set _ _ _ _ (by decide))) (rgs_cons (gOwn_ok _) (rg_n (pg_name (i := 8) sc_settles.nd (by rfl) (by first | exact Or.inl rfl | exact Or.inr rfl)) (fun _ _ => wipe_set _ _ _ _ (by decide))) (rgs_nil (gOwn_ok _)))) (gsCons_len (gsCons_len gsNil_len)))) (fun _ _ _ _ _ => rpts_nil) (fun _ _ _ _ _ => (re_cmp (op_ge) ru_ge (re_bin op_addA ru_add (re_ix (re_ix (re_var (pv 4)) (re_c pe_int fun _ => .int _) (fun _ _ => rfl)) (re_var (pv 7)) (fun _ _ => rfl)) (re_ix (re_ix (re_var (pv 4)) (re_c pe_int fun _ => .int _) (fun _ _ => rfl)) (re_var (pv 8)) (fun _ _ => rfl))) (re_ix (re_ix (re_var (pv 6)) (re_var (pv 7)) (fun _ _ => rfl)) (re_var (pv 8)) (fun _ _ => rfl)) (nomark _)))) (fun σ H Q h => rd_lc rfl σ H Q h)) ra_nil)))))))
theorem c_tight_pairs (M : Facts K mg) (T_ : Tb) : Cal P w K mg base T_ 2 "tight_pairs" 2 f_tight_pairs := by
  obtain ⟨fa, fd, F, hm, hb⟩ := M.d_tight_pairs.ex
  refine ⟨fa, fd, ["worths", "prices"], fn_run F sc_tight_pairs (fun cdv A outer s H E hr => ?_), hm, F.kp, hb, rfl⟩
  have tk := takes_of (X := cxOf (L2.CX P w) P w K mg base ["worths", "prices", "row", "column"] "tight_pairs" (defScope st_tight_pairs) fa cdv A outer s H E) rfl rfl rfl rfl
  have hu1 := hu_of hr; have hu64 := hr.units; have hu65 := units65 hr
  exact (rs_one (rs_ret (PE.imp (pe_lc (own := [("row", 2), ("column", 3)]) rfl sc_tight_pairs.nd (ri_val (re_call (c_possible_pairs M T_) (hr.mono (by decide)) tk (by rfl) (ra_cons (re_var (pv 0)) ra_nil))) (blkOk_by (N := ["worths", "prices", "row", "column"]) (sc := defScope st_tight_pairs) (by decide +kernel)) (fun _ _ _ _ _ => (rg_t rfl (rgs_cons (gOwn_ok _) (rg_n (pg_name (i := 2) sc_tight_pairs.nd (by rfl) (by first | exact Or.inl rfl | exact Or.inr rfl)) (fun _ _ => wipe_set _ _ _ _ (by decide))) (rgs_cons (gOwn_ok _) (rg_n (pg_name (i := 3) sc_tight_pairs.nd (by rfl) (by first | exact Or.inl rfl | exact Or.inr rfl)) (fun _ _ => wipe_set _ _ _ _ (by decide))) (rgs_nil (gOwn_ok _)))) (gsCons_len (gsCons_len gsNil_len)))) (fun _ _ _ _ _ => (pts_one (rt_cmp (op_eqD hu64) ru_eq (re_bin op_addA ru_add (re_ix (re_ix (re_var (pv 1)) (re_c pe_int fun _ => .int _) (fun _ _ => rfl)) (re_var (pv 2)) (fun _ _ => rfl)) (re_ix (re_ix (re_var (pv 1)) (re_c pe_int fun _ => .int _) (fun _ _ => rfl)) (re_var (pv 3)) (fun _ _ => rfl))) (re_ix (re_ix (re_var (pv 0)) (re_var (pv 2)) (fun _ _ => rfl)) (re_var (pv 3)) (fun _ _ => rfl)) (nomark _)))) (fun _ _ _ _ _ => (re_tup (ra_cons (re_var (pv 2)) (ra_cons (re_var (pv 3)) ra_nil))))) (fun σ H Q h => rd_lc rfl σ H Q h))))
theorem c_exchanges (M : Facts K mg) (T_ : Tb) : Cal P w K mg base T_ 3 "exchanges" 4 f_exchanges := by
  obtain ⟨fa, fd, F, hm, hb⟩ := M.d_exchanges.ex
  refine ⟨fa, fd, ["worths", "many", "pairs", "prices"], fn_runT F sc_exchanges (fun cdv A outer s H E hr => ?_), hm, F.kp, hb, rfl⟩
  have tk := takes_of (X := cxOf (L2.CX P w) P w K mg base ["worths", "many", "pairs", "prices", "alone", "ways", "paired", "row", "column", "place", "price", "_"] "exchanges" (defScope st_exchanges) fa cdv A outer s H E) rfl rfl rfl rfl
  have hu1 := hu_of hr; have hu64 := hr.units; have hu65 := units65 hr
  exact (rs_cons (rs_set (fun h => ps_set (i := 4) sc_exchanges.nd rfl (by first | exact Or.inl rfl | exact Or.inr rfl) h) (re_bin op_addA ru_add (re_b (fun h => pe_callB (call_len_seq) (by rfl) M.n_len PySem.boot_len h) ru_len (ra_cons (re_var (pv 0)) ra_nil)) (re_var (pv 1)))) (rs_cons (rs_setLc (fun D σ H Q h => rd_lcN rfl σ H Q h) (ps_setLc (i := 5) (own := [("_", 11)]) rfl sc_exchanges.nd rfl rfl (sw_true rfl rfl rfl (by decide +kernel)) (ri_r1 (fun h => pi_range1 (by rfl) M.n_range h) (ra_cons (re_bin op_addA ru_add (re_var (pv 4)) (re_c pe_int fun _ => .int _)) ra_nil)) (blkOk_by (N := ["worths", "many", "pairs", "prices", "alone", "ways", "paired", "row", "column", "place", "price", "_"]) (sc := defScope st_exchanges) (by decide +kernel)) (fun _ _ _ _ _ => (rg_n (pg_name (i := 11) sc_exchanges.nd (by rfl) (by first | exact Or.inl rfl | exact Or.inr rfl)) (fun _ _ => wipe_set _ _ _ _ (by decide)))) (fun _ _ _ _ _ => rpts_nil) (fun _ _ _ _ _ => (re_new ra_nil)))) (rs_cons (rs_for (passes_of rfl) rfl (ri_val (re_call (c_tight_pairs M T_) (hr.mono (by decide)) tk (by rfl) (ra_cons (re_var (pv 0)) (ra_cons (re_var (pv 3)) ra_nil)))) (rg_t rfl (rgs_cons gAny_ok (rg_n (pg_name (i := 7) sc_exchanges.nd (by rfl) (by first | exact Or.inl rfl | exact Or.inr rfl)) (fun _ _ => trivial)) (rgs_cons gAny_ok (rg_n (pg_name (i := 8) sc_exchanges.nd (by rfl) (by first | exact Or.inl rfl | exact Or.inr rfl)) (fun _ _ => trivial)) (rgs_nil gAny_ok))) (gsCons_len (gsCons_len gsNil_len))) (rs_one (rs_if (rt_cmp (op_inA hu65) ru_in (re_tup (ra_cons (re_var (pv 7)) (ra_cons (re_var (pv 8)) ra_nil))) (re_var (pv 2)) (by with_unfolding_all rfl)) (rs_one (rs_do (re_m1 (fun ho ha => pe_bm PySem.F.plainAttrs_list PySem.F.slot_list_append PySem.F.type_list_append mt_append ho ha) ru_app (re_ix (re_var (pv 5)) (re_bin op_addA ru_add (re_b (fun h => pe_callB (call_len_seq) (by rfl) M.n_len PySem.boot_len h) ru_len (ra_cons (re_var (pv 0)) ra_nil)) (re_var (pv 8))) (fun _ _ => rfl)) (re_var (pv 7))))) (rs_one (rs_do (re_m1 (fun ho ha => pe_bm PySem.F.plainAttrs_list PySem.F.slot_list_append PySem.F.type_list_append mt_append ho ha) ru_app (re_ix (re_var (pv 5)) (re_var (pv 7)) (fun _ _ => rfl)) (re_bin op_addA ru_add (re_b (fun h => pe_callB (call_len_seq) (by rfl) M.n_len PySem.boot_len h) ru_len (ra_cons (re_var (pv 0)) ra_nil)) (re_var (pv 8))))))))) (rs_cons (rs_set (fun h => ps_set (i := 6) sc_exchanges.nd rfl (by first | exact Or.inl rfl | exact Or.inr rfl) h) (re_bin op_addA ru_add (PE.imp (pe_lc (own := [("row", 7), ("_", 11)]) rfl sc_exchanges.nd (ri_val (re_var (pv 2))) (blkOk_by (N := ["worths", "many", "pairs", "prices", "alone", "ways", "paired", "row", "column", "place", "price", "_"]) (sc := defScope st_exchanges) (by decide +kernel)) (fun _ _ _ _ _ => (rg_t rfl (rgs_cons (gOwn_ok _) (rg_n (pg_name (i := 7) sc_exchanges.nd (by rfl) (by first | exact Or.inl rfl | exact Or.inr rfl)) (fun _ _ => wipe_set _ _ _ _ (by decide))) (rgs_cons (gOwn_ok _) (rg_n (pg_name (i := 11) sc_exchanges.nd (by rfl) (by first | exact Or.inl rfl | exact Or.inr rfl)) (fun _ _ => wipe_set _ _ _ _ (by decide))) (rgs_nil (gOwn_ok _)))) (gsCons_len (gsCons_len gsNil_len)))) (fun _ _ _ _ _ => rpts_nil) (fun _ _ _ _ _ => (re_var (pv 7)))) (fun σ H Q h => rd_lc rfl σ H Q h)) (PE.imp (pe_lc (own := [("_", 11), ("column", 8)]) rfl sc_exchanges.nd (ri_val (re_var (pv 2))) (blkOk_by (N := ["worths", "many", "pairs", "prices", "alone", "ways", "paired", "row", "column", "place", "price", "_"]) (sc := defScope st_exchanges) (by decide +kernel)) (fun _ _ _ _ _ => (rg_t rfl (rgs_cons (gOwn_ok _) (rg_n (pg_name (i := 11) sc_exchanges.nd (by rfl) (by first | exact Or.inl rfl | exact Or.inr rfl)) (fun _ _ => wipe_set _ _ _ _ (by decide))) (rgs_cons (gOwn_ok _) (rg_n (pg_name (i := 8) sc_exchanges.nd (by rfl) (by first | exact Or.inl rfl | exact Or.inr rfl)) (fun _ _ => wipe_set _ _ _ _ (by decide))) (rgs_nil (gOwn_ok _)))) (gsCons_len (gsCons_len gsNil_len)))) (fun _ _ _ _ _ => rpts_nil) (fun _ _ _ _ _ => (re_bin op_addA ru_add (re_b (fun h => pe_callB (call_len_seq) (by rfl) M.n_len PySem.boot_len h) ru_len (ra_cons (re_var (pv 0)) ra_nil)) (re_var (pv 8))))) (fun σ H Q h => rd_lc rfl σ H Q h)))) (rs_cons (rs_for (passes_of rfl) rfl (ri_en (fun h => pi_enum1 (by rfl) M.n_enumerate h) (ra_cons (re_bin op_addA ru_add (re_ix (re_var (pv 3)) (re_c pe_int fun _ => .int _) (fun _ _ => rfl)) (re_ix (re_var (pv 3)) (re_c pe_int fun _ => .int _) (fun _ _ => rfl))) ra_nil)) (rg_t rfl (rgs_cons gAny_ok (rg_n (pg_name (i := 9) sc_exchanges.nd (by rfl) (by first | exact Or.inl rfl | exact Or.inr rfl)) (fun _ _ => trivial)) (rgs_cons gAny_ok (rg_n (pg_name (i := 10) sc_exchanges.nd (by rfl) (by first | exact Or.inl rfl | exact Or.inr rfl)) (fun _ _ => trivial)) (rgs_nil gAny_ok))) (gsCons_len (gsCons_len gsNil_len))) (rs_cons (rs_if (rt_cmp (op_gt) ru_gt (re_var (pv 10)) (re_c pe_int fun _ => .int _) (nomark _)) (rs_one rs_cont) rs_nil) (rs_one (rs_if (rt_cmp (op_eqD hu64) ru_eq (re_cmp (op_lt) ru_lt (re_var (pv 9)) (re_b (fun h => pe_callB (call_len_seq) (by rfl) M.n_len PySem.boot_len h) ru_len (ra_cons (re_var (pv 0)) ra_nil)) (nomark _)) (re_cmp (op_inA hu65) ru_in (re_var (pv 9)) (re_var (pv 6)) (by with_unfolding_all rfl)) (nomark _)) (rs_one (rs_do (re_m1 (fun ho ha => pe_bm PySem.F.plainAttrs_list PySem.F.slot_list_append PySem.F.type_list_append mt_append ho ha) ru_app (re_ix (re_var (pv 5)) (re_var (pv 9)) (fun _ _ => rfl)) (re_var (pv 4))))) (rs_one (rs_do (re_m1 (fun ho ha => pe_bm PySem.F.plainAttrs_list PySem.F.slot_list_append PySem.F.type_list_append mt_append ho ha) ru_app (re_ix (re_var (pv 5)) (re_var (pv 4)) (fun _ _ => rfl)) (re_var (pv 9))))))))) (rs_one (rs_ret (re_frz2 (re_var (pv 5))))))))))
theorem c_reached (M : Facts K mg) (T_ : Tb) : Cal P w K mg base T_ 1 "reached" 2 f_reached := by
  obtain ⟨fa, fd, F, hm, hb⟩ := M.d_reached.ex
  refine ⟨fa, fd, ["ways", "start"], fn_run F sc_reached (fun cdv A outer s H E hr => ?_), hm, F.kp, hb, rfl⟩
  have tk := takes_of (X := cxOf (L2.CX P w) P w K mg base ["ways", "start", "seen", "waiting", "place", "further"] "reached" (defScope st_reached) fa cdv A outer s H E) rfl rfl rfl rfl
  have hu1 := hu_of hr; have hu64 := hr.units; have hu65 := units65 hr
  exact (rs_cons (rs_set (fun h => ps_set (i := 2) sc_reached.nd rfl (by first | exact Or.inl rfl | exact Or.inr rfl) h) (re_dis1 (re_var (pv 1)) (re_c pe_bl fun _ => .bl _))) (rs_cons (rs_set (fun h => ps_set (i := 3) sc_reached.nd rfl (by first | exact Or.inl rfl | exact Or.inr rfl) h) (re_new (ra_cons (re_var (pv 1)) ra_nil))) (rs_cons (rs_while 1000 (passes_of rfl) (rt_tru (re_var (pv 3))) (rs_cons (rs_set (fun h => ps_set (i := 4) sc_reached.nd rfl (by first | exact Or.inl rfl | exact Or.inr rfl) h) (re_m0 (fun ho => pe_bm0 PySem.F.plainAttrs_list PySem.F.slot_list_pop PySem.F.type_list_pop mt_pop ho) ru_pop (re_var (pv 3)))) (rs_one (rs_for (passes_of rfl) rfl (ri_val (re_ix (re_var (pv 0)) (re_var (pv 4)) (fun _ _ => rfl))) (rg_n (pg_name (i := 5) sc_reached.nd (by rfl) (by first | exact Or.inl rfl | exact Or.inr rfl)) (fun _ _ => trivial)) (rs_one (rs_if (rt_knotin hu1 (re_var (pv 5)) (re_var (pv 2)) (by with_unfolding_all rfl)) (rs_cons (rs_kput hu1 (re_c pe_bl fun _ => .bl _) (re_var (pv 2)) (re_var (pv 5))) (rs_one (rs_do (re_m1 (fun ho ha => pe_bm PySem.F.plainAttrs_list PySem.F.slot_list_append PySem.F.type_list_append mt_append ho ha) ru_app (re_var (pv 3)) (re_var (pv 5)))))) rs_nil)))))) (rs_one (rs_ret (re_var (pv 2)))))))
theorem c_sure_pairs (M : Facts K mg) (T_ : Tb) : Cal P w K mg base T_ 4 "sure_pairs" 2 f_sure_pairs := by
  obtain ⟨fa, fd, F, hm, hb⟩ := M.d_sure_pairs.ex
  refine ⟨fa, fd, ["worths", "many"], fn_runT F sc_sure_pairs (fun cdv A outer s H E hr => ?_), hm, F.kp, hb, rfl⟩
  have tk := takes_of (X := cxOf (L2.CX P w) P w K mg base ["worths", "many", "ways", "pairs", "prices", "row", "column"] "sure_pairs" (defScope st_sure_pairs) fa cdv A outer s H E) rfl rfl rfl rfl
  have hu1 := hu_of hr; have hu64 := hr.units; have hu65 := units65 hr
  exact (rs_cons (rs_asg (fun h1 h2 => ps_asg h1 h2) (re_call (c_best_choice M T_) (hr.mono (by decide)) tk (by rfl) (ra_cons (re_var (pv 0)) (ra_cons (re_var (pv 1)) ra_nil))) (rg_t rfl (rgs_cons gAny_ok (rg_n (pg_name (i := 3) sc_sure_pairs.nd (by rfl) (by first | exact Or.inl rfl | exact Or.inr rfl)) (fun _ _ => trivial)) (rgs_cons gAny_ok (rg_n (pg_name (i := 4) sc_sure_pairs.nd (by rfl) (by first | exact Or.inl rfl | exact Or.inr rfl)) (fun _ _ => trivial)) (rgs_nil gAny_ok))) (gsCons_len (gsCons_len gsNil_len)))) (rs_cons (rs_set (fun h => ps_set (i := 2) sc_sure_pairs.nd rfl (by first | exact Or.inl rfl | exact Or.inr rfl) h) (re_call (c_exchanges M T_) (hr.mono (by decide)) tk (by rfl) (ra_cons (re_var (pv 0)) (ra_cons (re_var (pv 1)) (ra_cons (re_var (pv 3)) (ra_cons (re_var (pv 4)) ra_nil)))))) (rs_one (rs_ret (PE.imp (pe_lc (own := [("row", 5), ("column", 6)]) rfl sc_sure_pairs.nd (ri_val (re_var (pv 3))) (blkOk_by (N := ["worths", "many", "ways", "pairs", "prices", "row", "column"]) (sc := defScope st_sure_pairs) (by decide +kernel)) (fun _ _ _ _ _ => (rg_t rfl (rgs_cons (gOwn_ok _) (rg_n (pg_name (i := 5) sc_sure_pairs.nd (by rfl) (by first | exact Or.inl rfl | exact Or.inr rfl)) (fun _ _ => wipe_set _ _ _ _ (by decide))) (rgs_cons (gOwn_ok _) (rg_n (pg_name (i := 6) sc_sure_pairs.nd (by rfl) (by first | exact Or.inl rfl | exact Or.inr rfl)) (fun _ _ => wipe_set _ _ _ _ (by decide))) (rgs_nil (gOwn_ok _)))) (gsCons_len (gsCons_len gsNil_len)))) (fun _ _ _ _ _ => (pts_one (rt_trim (rt_knotin hu1 (re_bin op_addA ru_add (re_b (fun h => pe_callB (call_len_seq) (by rfl) M.n_len PySem.boot_len h) ru_len (ra_cons (re_var (pv 0)) ra_nil)) (re_var (pv 6))) (re_call (c_reached M T_) (hr.mono (by decide)) takes0 (by rfl) (ra_cons (re_var (pv 2)) (ra_cons (re_var (pv 5)) ra_nil))) (by with_unfolding_all rfl))))) (fun _ _ _ _ _ => (re_tup (ra_cons (re_var (pv 5)) (ra_cons (re_var (pv 6)) ra_nil))))) (fun σ H Q h => rd_lc rfl σ H Q h))))))
theorem c_sure_0 (M : Facts K mg) (T_ : Tb) : CalK P w K mg base T_ 5 "sure" 3 4 [] (fun ds es => ds ++ ([(.ktup [(.int 0), (.int 0)])] ++ [])) f_sure := by
  obtain ⟨fa, fd, F, hm, hb⟩ := M.e_sure_0.ex
  refine ⟨fa, fd, ["one", "other", "rule", "slip"], fn_run F sc_sure (fun cdv A outer s H E hr => ?_), hm, F.kp, hb, rfl⟩
  have tk := takes_of (X := cxOf (L2.CX P w) P w K mg base ["one", "other", "rule", "slip"] "sure" (defScope st_sure) fa cdv A outer s H E) rfl rfl rfl rfl
  have hu1 := hu_of hr; have hu64 := hr.units; have hu65 := units65 hr
  exact (rs_one (rs_ret (re_call (c_sure_pairs M T_) (hr.mono (by decide)) tk (by rfl) (ra_cons (re_call (c_asked_worths M T_) (hr.mono (by decide)) tk (by rfl) (ra_cons (re_var (pv 0)) (ra_cons (re_var (pv 1)) (ra_cons (re_var (pv 2)) (ra_cons (re_var (pv 3)) ra_nil))))) (ra_cons (re_b (fun h => pe_callB (call_len_seq) (by rfl) M.n_len PySem.boot_len h) ru_len (ra_cons (re_var (pv 1)) ra_nil)) ra_nil)))))
theorem c_check_near (M : Facts K mg) (T_ : Tb) : Cal P w K mg base T_ 4 "check_near" 1 f_check_near := by
  obtain ⟨fa, fd, F, hm, hb⟩ := M.d_check_near.ex
  refine ⟨fa, fd, ["near"], fn_run F sc_check_near (fun cdv A outer s H E hr => ?_), hm, F.kp, hb, rfl⟩
  have tk := takes_of (X := cxOf (L2.CX P w) P w K mg base ["near"] "check_near" (defScope st_check_near) fa cdv A outer s H E) rfl rfl rfl rfl
  have hu1 := hu_of hr; have hu64 := hr.units; have hu65 := units65 hr
  exact (rs_one (rs_do (re_call (c_check_count M T_) (hr.mono (by decide)) tk (by rfl) (ra_cons (re_var (pv 0)) (ra_cons (re_c pe_int fun _ => .int _) (ra_cons (re_glob M.g_MOST_NEAR rfl) ra_nil))))))
theorem c_are_near (M : Facts K mg) (T_ : Tb) : Cal P w K mg base T_ 1 "are_near" 3 f_are_near := by
  obtain ⟨fa, fd, F, hm, hb⟩ := M.d_are_near.ex
  refine ⟨fa, fd, ["light", "mate", "near"], fn_run F sc_are_near (fun cdv A outer s H E hr => ?_), hm, F.kp, hb, rfl⟩
  have tk := takes_of (X := cxOf (L2.CX P w) P w K mg base ["light", "mate", "near", "aside", "along"] "are_near" (defScope st_are_near) fa cdv A outer s H E) rfl rfl rfl rfl
  have hu1 := hu_of hr; have hu64 := hr.units; have hu65 := units65 hr
  exact (rs_cons (rs_set (fun h => ps_set (i := 3) sc_are_near.nd rfl (by first | exact Or.inl rfl | exact Or.inr rfl) h) (re_bin op_sub ru_sub (re_ix (re_var (pv 0)) (re_c pe_int fun _ => .int _) (fun _ _ => rfl)) (re_ix (re_var (pv 1)) (re_c pe_int fun _ => .int _) (fun _ _ => rfl)))) (rs_cons (rs_set (fun h => ps_set (i := 4) sc_are_near.nd rfl (by first | exact Or.inl rfl | exact Or.inr rfl) h) (re_bin op_sub ru_sub (re_ix (re_var (pv 0)) (re_c pe_int fun _ => .int _) (fun _ _ => rfl)) (re_ix (re_var (pv 1)) (re_c pe_int fun _ => .int _) (fun _ _ => rfl)))) (rs_one (rs_ret (re_cmp (op_le) ru_le (re_bin op_addA ru_add (re_bin op_mulA ru_mul (re_var (pv 3)) (re_var (pv 3))) (re_bin op_mulA ru_mul (re_var (pv 4)) (re_var (pv 4)))) (re_bin op_mulA ru_mul (re_var (pv 2)) (re_var (pv 2))) (nomark _))))))
theorem c_near_groups (M : Facts K mg) (T_ : Tb) : Cal P w K mg base T_ 2 "near_groups" 2 f_near_groups := by
  obtain ⟨fa, fd, F, hm, hb⟩ := M.d_near_groups.ex
  refine ⟨fa, fd, ["lights", "near"], fn_run F sc_near_groups (fun cdv A outer s H E hr => ?_), hm, F.kp, hb, rfl⟩
  have tk := takes_of (X := cxOf (L2.CX P w) P w K mg base ["lights", "near", "ways", "hanging", "light", "number", "group", "mate"] "near_groups" (defScope st_near_groups) fa cdv A outer s H E) rfl rfl rfl rfl
  have hu1 := hu_of hr; have hu64 := hr.units; have hu65 := units65 hr
  exact (rs_cons (rs_set (fun h => ps_set (i := 2) sc_near_groups.nd rfl (by first | exact Or.inl rfl | exact Or.inr rfl) h) (PE.imp (pe_lc (own := [("light", 4)]) rfl sc_near_groups.nd (ri_val (re_var (pv 0))) (blkOk_by (N := ["lights", "near", "ways", "hanging", "light", "number", "group", "mate"]) (sc := defScope st_near_groups) (by decide +kernel)) (fun _ _ _ _ _ => (rg_n (pg_name (i := 4) sc_near_groups.nd (by rfl) (by first | exact Or.inl rfl | exact Or.inr rfl)) (fun _ _ => wipe_set _ _ _ _ (by decide)))) (fun _ _ _ _ _ => rpts_nil) (fun _ _ _ _ _ => (PE.imp (pe_lc (own := [("number", 5), ("mate", 7)]) rfl sc_near_groups.nd (ri_en (fun h => pi_enum1 (by rfl) M.n_enumerate h) (ra_cons (re_var (pv 0)) ra_nil)) (blkOk_by (by rfl)) (fun _ _ _ _ _ => (rg_t rfl (rgs_cons (gOwn_ok _) (rg_n (pg_name (i := 5) sc_near_groups.nd (by rfl) (by first | exact Or.inl rfl | exact Or.inr rfl)) (fun _ _ => wipe_set _ _ _ _ (by decide))) (rgs_cons (gOwn_ok _) (rg_n (pg_name (i := 7) sc_near_groups.nd (by rfl) (by first | exact Or.inl rfl | exact Or.inr rfl)) (fun _ _ => wipe_set _ _ _ _ (by decide))) (rgs_nil (gOwn_ok _)))) (gsCons_len (gsCons_len gsNil_len)))) (fun _ _ _ _ _ => (pts_one (rt_val (re_call (c_are_near M T_) (hr.mono (by decide)) takes0 (by rfl) (ra_cons (re_var (pv 4)) (ra_cons (re_var (pv 7)) (ra_cons (re_var (pv 1)) ra_nil))))))) (fun _ _ _ _ _ => (re_var (pv 5)))) (fun σ H Q h => rd_lc rfl σ H Q h)))) (fun σ H Q h => rd_lc rfl σ H Q h))) (rs_cons (rs_setLc (fun D σ H Q h => rd_lc rfl σ H Q h) (ps_setLc (i := 3) (own := [("number", 5)]) rfl sc_near_groups.nd rfl rfl (sw_true rfl rfl rfl (by decide +kernel)) (ri_r1 (fun h => pi_range1 (by rfl) M.n_range h) (ra_cons (re_b (fun h => pe_callB (call_len_seq) (by rfl) M.n_len PySem.boot_len h) ru_len (ra_cons (re_var (pv 0)) ra_nil)) ra_nil)) (blkOk_by (N := ["lights", "near", "ways", "hanging", "light", "number", "group", "mate"]) (sc := defScope st_near_groups) (by decide +kernel)) (fun _ _ _ _ _ => (rg_n (pg_name (i := 5) sc_near_groups.nd (by rfl) (by first | exact Or.inl rfl | exact Or.inr rfl)) (fun _ _ => wipe_set _ _ _ _ (by decide)))) (fun _ _ _ _ _ => rpts_nil) (fun _ _ _ _ _ => (re_b (fun h => pe_callTy (call_tuple_of) (by rfl) M.n_tuple (by decide +kernel) h) ru_tuple (ra_cons (re_trim (re_b (fun h => pe_callB (call_sortedDI rfl) (by rfl) M.n_sorted (by decide +kernel) h) ru_sortK (ra_cons (re_call (c_reached M T_) (hr.mono (by decide)) takes0 (by rfl) (ra_cons (re_var (pv 2)) (ra_cons (re_var (pv 5)) ra_nil))) ra_nil))) ra_nil))))) (rs_one (rs_ret (PE.imp (pe_lc (own := [("number", 5), ("group", 6)]) rfl sc_near_groups.nd (ri_en (fun h => pi_enum1 (by rfl) M.n_enumerate h) (ra_cons (re_var (pv 3)) ra_nil)) (blkOk_by (N := ["lights", "near", "ways", "hanging", "light", "number", "group", "mate"]) (sc := defScope st_near_groups) (by decide +kernel)) (fun _ _ _ _ _ => (rg_t rfl (rgs_cons (gOwn_ok _) (rg_n (pg_name (i := 5) sc_near_groups.nd (by rfl) (by first | exact Or.inl rfl | exact Or.inr rfl)) (fun _ _ => wipe_set _ _ _ _ (by decide))) (rgs_cons (gOwn_ok _) (rg_n (pg_name (i := 6) sc_near_groups.nd (by rfl) (by first | exact Or.inl rfl | exact Or.inr rfl)) (fun _ _ => wipe_set _ _ _ _ (by decide))) (rgs_nil (gOwn_ok _)))) (gsCons_len (gsCons_len gsNil_len)))) (fun _ _ _ _ _ => (pts_one (rt_cmp (op_eqD hu64) ru_eq (re_ix (re_var (pv 6)) (re_c pe_int fun _ => .int _) (fun _ _ => rfl)) (re_var (pv 5)) (nomark _)))) (fun _ _ _ _ _ => (re_var (pv 6)))) (fun σ H Q h => rd_lc rfl σ H Q h))))))
theorem c_groups (M : Facts K mg) (T_ : Tb) : Cal P w K mg base T_ 5 "groups" 2 f_groups := by
  obtain ⟨fa, fd, F, hm, hb⟩ := M.d_groups.ex
  refine ⟨fa, fd, ["lights", "near"], fn_run F sc_groups (fun cdv A outer s H E hr => ?_), hm, F.kp, hb, rfl⟩
  have tk := takes_of (X := cxOf (L2.CX P w) P w K mg base ["lights", "near"] "groups" (defScope st_groups) fa cdv A outer s H E) rfl rfl rfl rfl
  have hu1 := hu_of hr; have hu64 := hr.units; have hu65 := units65 hr
  exact (rs_cons (rs_do (re_call (c_check_lights M T_) (hr.mono (by decide)) tk (by rfl) (ra_cons (re_var (pv 0)) ra_nil))) (rs_cons (rs_do (re_call (c_check_near M T_) (hr.mono (by decide)) tk (by rfl) (ra_cons (re_var (pv 1)) ra_nil))) (rs_one (rs_ret (re_call (c_near_groups M T_) (hr.mono (by decide)) tk (by rfl) (ra_cons (re_var (pv 0)) (ra_cons (re_var (pv 1)) ra_nil)))))))
theorem c__law_row (M : Facts K mg) (T_ : Tb) : Cal P w K mg base T_ 1 "_law_row" 1 f__law_row := by
  obtain ⟨fa, fd, F, hm, hb⟩ := M.d__law_row.ex
  refine ⟨fa, fd, ["_law_script"], fn_run F sc__law_row (fun cdv A outer s H E hr => ?_), hm, F.kp, hb, rfl⟩
  have tk := takes_of (X := cxOf (L2.CX P w) P w K mg base ["_law_script", "_law_mixed", "_law_cell"] "_law_row" (defScope st__law_row) fa cdv A outer s H E) rfl rfl rfl rfl
  have hu1 := hu_of hr; have hu64 := hr.units; have hu65 := units65 hr
  exact (rs_cons (rs_set (fun h => ps_set (i := 1) sc__law_row.nd rfl (by first | exact Or.inl rfl | exact Or.inr rfl) h) (re_c pe_int fun _ => .int _)) (rs_cons (rs_for (passes_of rfl) rfl (ri_val (re_var (pv 0))) (rg_n (pg_name (i := 2) sc__law_row.nd (by rfl) (by first | exact Or.inl rfl | exact Or.inr rfl)) (fun _ _ => trivial)) (rs_one (rs_set (fun h => ps_set (i := 1) sc__law_row.nd rfl (by first | exact Or.inl rfl | exact Or.inr rfl) h) (re_bin op_mod ru_mod (re_bin op_addA ru_add (re_bin op_addA ru_add (re_bin op_mulA ru_mul (re_var (pv 1)) (re_c pe_int fun _ => .int _)) (re_var (pv 2))) (re_c pe_int fun _ => .int _)) (re_c pe_int fun _ => .int _))))) (rs_one (rs_ret (re_new (ra_cons (re_var (pv 0)) (ra_cons (re_c pe_int fun _ => .int _) (ra_cons (re_c pe_int fun _ => .int _) (ra_cons (re_var (pv 1)) ra_nil)))))))))
theorem c__law_taken (M : Facts K mg) (T_ : Tb) : Cal P w K mg base T_ 1 "_law_taken" 2 f__law_taken := by
  obtain ⟨fa, fd, F, hm, hb⟩ := M.d__law_taken.ex
  refine ⟨fa, fd, ["_law_row_here", "_law_many"], fn_run F sc__law_taken (fun cdv A outer s H E hr => ?_), hm, F.kp, hb, rfl⟩
  have tk := takes_of (X := cxOf (L2.CX P w) P w K mg base ["_law_row_here", "_law_many", "_law_found", "_law_cell"] "_law_taken" (defScope st__law_taken) fa cdv A outer s H E) rfl rfl rfl rfl
  have hu1 := hu_of hr; have hu64 := hr.units; have hu65 := units65 hr
  exact (rs_cons (rs_if (rt_cmp (op_gt) ru_gt (re_ix (re_var (pv 0)) (re_c pe_int fun _ => .int _) (fun _ _ => rfl)) (re_c pe_int fun _ => .int _) (nomark _)) (rs_cons (rs_set (fun h => ps_set (i := 2) sc__law_taken.nd rfl (by first | exact Or.inl rfl | exact Or.inr rfl) h) (re_bin op_mod ru_mod (re_ix (re_var (pv 0)) (re_c pe_int fun _ => .int _) (fun _ _ => rfl)) (re_var (pv 1)))) (rs_cons (rs_put (fun h1 h2 h3 => ps_asg h1 (pg_sub h2 h3 set_list)) (re_bin op_fdiv ru_div (re_ix (re_var (pv 0)) (re_c pe_int fun _ => .int _) (fun _ _ => rfl)) (re_var (pv 1))) (re_var (pv 0)) (re_c pe_int fun _ => .int _)) (rs_one (rs_ret (re_var (pv 2)))))) rs_nil) (rs_cons (rs_if (rt_cmp (op_lt) ru_lt (re_ix (re_var (pv 0)) (re_c pe_int fun _ => .int _) (fun _ _ => rfl)) (re_b (fun h => pe_callB (call_len_seq) (by rfl) M.n_len PySem.boot_len h) ru_len (ra_cons (re_ix (re_var (pv 0)) (re_c pe_int fun _ => .int _) (fun _ _ => rfl)) ra_nil)) (nomark _)) (rs_cons (rs_set (fun h => ps_set (i := 3) sc__law_taken.nd rfl (by first | exact Or.inl rfl | exact Or.inr rfl) h) (re_ix (re_ix (re_var (pv 0)) (re_c pe_int fun _ => .int _) (fun _ _ => rfl)) (re_ix (re_var (pv 0)) (re_c pe_int fun _ => .int _) (fun _ _ => rfl)) (fun _ _ => rfl))) (rs_cons (rs_put (fun h1 h2 h3 => ps_asg h1 (pg_sub h2 h3 set_list)) (re_bin op_addA ru_add (re_ix (re_var (pv 0)) (re_c pe_int fun _ => .int _) (fun _ _ => rfl)) (re_c pe_int fun _ => .int _)) (re_var (pv 0)) (re_c pe_int fun _ => .int _)) (rs_cons (rs_if (rt_cmp (op_ge) ru_ge (re_var (pv 3)) (re_bin op_pow ru_pow (re_c pe_int fun _ => .int _) (re_c pe_int fun _ => .int _)) (nomark _)) (rs_one (rs_put (fun h1 h2 h3 => ps_asg h1 (pg_sub h2 h3 set_list)) (re_bin op_fdiv ru_div (re_var (pv 3)) (re_var (pv 1))) (re_var (pv 0)) (re_c pe_int fun _ => .int _))) rs_nil) (rs_one (rs_ret (re_bin op_mod ru_mod (re_var (pv 3)) (re_var (pv 1)))))))) rs_nil) (rs_cons (rs_put (fun h1 h2 h3 => ps_asg h1 (pg_sub h2 h3 set_list)) (re_bin op_mod ru_mod (re_bin op_addA ru_add (re_bin op_mulA ru_mul (re_ix (re_var (pv 0)) (re_c pe_int fun _ => .int _) (fun _ _ => rfl)) (re_c pe_int fun _ => .int _)) (re_c pe_int fun _ => .int _)) (re_c pe_int fun _ => .int _)) (re_var (pv 0)) (re_c pe_int fun _ => .int _)) (rs_one (rs_ret (re_bin op_mod ru_mod (re_bin op_fdiv ru_div (re_ix (re_var (pv 0)) (re_c pe_int fun _ => .int _) (fun _ _ => rfl)) (re_c pe_int fun _ => .int _)) (re_var (pv 1))))))))
theorem c__law_light (M : Facts K mg) (T_ : Tb) : Cal P w K mg base T_ 2 "_law_light" 2 f__law_light := by
  obtain ⟨fa, fd, F, hm, hb⟩ := M.d__law_light.ex
  refine ⟨fa, fd, ["_law_row_here", "_law_wide"], fn_run F sc__law_light (fun cdv A outer s H E hr => ?_), hm, F.kp, hb, rfl⟩
  have tk := takes_of (X := cxOf (L2.CX P w) P w K mg base ["_law_row_here", "_law_wide"] "_law_light" (defScope st__law_light) fa cdv A outer s H E) rfl rfl rfl rfl
  have hu1 := hu_of hr; have hu64 := hr.units; have hu65 := units65 hr
  exact (rs_one (rs_ret (re_tup (ra_cons (re_bin op_sub ru_sub (re_call (c__law_taken M T_) (hr.mono (by decide)) tk (by rfl) (ra_cons (re_var (pv 0)) (ra_cons (re_bin op_addA ru_add (re_bin op_mulA ru_mul (re_c pe_int fun _ => .int _) (re_var (pv 1))) (re_c pe_int fun _ => .int _)) ra_nil))) (re_var (pv 1))) (ra_cons (re_bin op_sub ru_sub (re_call (c__law_taken M T_) (hr.mono (by decide)) tk (by rfl) (ra_cons (re_var (pv 0)) (ra_cons (re_bin op_addA ru_add (re_bin op_mulA ru_mul (re_c pe_int fun _ => .int _) (re_var (pv 1))) (re_c pe_int fun _ => .int _)) ra_nil))) (re_var (pv 1))) (ra_cons (re_call (c__law_taken M T_) (hr.mono (by decide)) tk (by rfl) (ra_cons (re_var (pv 0)) (ra_cons (re_c pe_int fun _ => .int _) ra_nil))) ra_nil))))))
theorem c__law_lights (M : Facts K mg) (T_ : Tb) : Cal P w K mg base T_ 3 "_law_lights" 3 f__law_lights := by
  obtain ⟨fa, fd, F, hm, hb⟩ := M.d__law_lights.ex
  refine ⟨fa, fd, ["_law_row_here", "_law_many", "_law_wide"], fn_runT F sc__law_lights (fun cdv A outer s H E hr => ?_), hm, F.kp, hb, rfl⟩
  have tk := takes_of (X := cxOf (L2.CX P w) P w K mg base ["_law_row_here", "_law_many", "_law_wide", "_law_k", "_law_found", "_law_places", "_law_light_here"] "_law_lights" (defScope st__law_lights) fa cdv A outer s H E) rfl rfl rfl rfl
  have hu1 := hu_of hr; have hu64 := hr.units; have hu65 := units65 hr
  exact (rs_cons (rs_par (fun h => ps_par (i := 4) (j := 5) rfl sc__law_lights.nd rfl rfl (by decide) rfl rfl h rfl) (ra_cons (re_tup ra_nil) (ra_cons (re_new ra_nil) ra_nil))) (rs_cons (rs_for (passes_of rfl) rfl (ri_r1 (fun h => pi_range1 (by rfl) M.n_range h) (ra_cons (re_call (c__law_taken M T_) (hr.mono (by decide)) tk (by rfl) (ra_cons (re_var (pv 0)) (ra_cons (re_bin op_addA ru_add (re_var (pv 1)) (re_c pe_int fun _ => .int _)) ra_nil))) ra_nil)) (rg_n (pg_name (i := 3) sc__law_lights.nd (by rfl) (by first | exact Or.inl rfl | exact Or.inr rfl)) (fun _ _ => trivial)) (rs_cons (rs_set (fun h => ps_set (i := 6) sc__law_lights.nd rfl (by first | exact Or.inl rfl | exact Or.inr rfl) h) (re_call (c__law_light M T_) (hr.mono (by decide)) tk (by rfl) (ra_cons (re_var (pv 0)) (ra_cons (re_var (pv 2)) ra_nil)))) (rs_one (rs_if (rt_cmp (op_notInA hu65) ru_notin (re_sl (re_var (pv 6)) ro_no (ro_so (re_c pe_int fun _ => .int _))) (re_var (pv 5)) (by with_unfolding_all rfl)) (rs_cons (rs_set (fun h => ps_set (i := 4) sc__law_lights.nd rfl (by first | exact Or.inl rfl | exact Or.inr rfl) h) (re_bin op_addA ru_add (re_var (pv 4)) (re_tup (ra_cons (re_var (pv 6)) ra_nil)))) (rs_one (rs_do (re_m1 (fun ho ha => pe_bm PySem.F.plainAttrs_list PySem.F.slot_list_append PySem.F.type_list_append mt_append ho ha) ru_app (re_var (pv 5)) (re_sl (re_var (pv 6)) ro_no (ro_so (re_c pe_int fun _ => .int _))))))) rs_nil)))) (rs_one (rs_ret (re_var (pv 4))))))
theorem c__law_rule (M : Facts K mg) (T_ : Tb) : Cal P w K mg base T_ 2 "_law_rule" 1 f__law_rule := by
  obtain ⟨fa, fd, F, hm, hb⟩ := M.d__law_rule.ex
  refine ⟨fa, fd, ["_law_row_here"], fn_run F sc__law_rule (fun cdv A outer s H E hr => ?_), hm, F.kp, hb, rfl⟩
  have tk := takes_of (X := cxOf (L2.CX P w) P w K mg base ["_law_row_here"] "_law_rule" (defScope st__law_rule) fa cdv A outer s H E) rfl rfl rfl rfl
  have hu1 := hu_of hr; have hu64 := hr.units; have hu65 := units65 hr
  exact (rs_one (rs_ret (re_tup (ra_cons (re_ix (re_lst (ra_cons (re_c pe_int fun _ => .int _) (ra_cons (re_c pe_int fun _ => .int _) (ra_cons (re_c pe_int fun _ => .int _) (ra_cons (re_c pe_int fun _ => .int _) (ra_cons (re_c pe_int fun _ => .int _) ra_nil)))))) (re_call (c__law_taken M T_) (hr.mono (by decide)) tk (by rfl) (ra_cons (re_var (pv 0)) (ra_cons (re_c pe_int fun _ => .int _) ra_nil))) (fun _ _ => rfl)) (ra_cons (re_ix (re_lst (ra_cons (re_c pe_int fun _ => .int _) (ra_cons (re_c pe_int fun _ => .int _) (ra_cons (re_c pe_int fun _ => .int _) (ra_cons (re_c pe_int fun _ => .int _) ra_nil))))) (re_call (c__law_taken M T_) (hr.mono (by decide)) tk (by rfl) (ra_cons (re_var (pv 0)) (ra_cons (re_c pe_int fun _ => .int _) ra_nil))) (fun _ _ => rfl)) (ra_cons (re_ix (re_lst (ra_cons (re_c pe_int fun _ => .int _) (ra_cons (re_c pe_int fun _ => .int _) (ra_cons (re_c pe_int fun _ => .int _) ra_nil)))) (re_call (c__law_taken M T_) (hr.mono (by decide)) tk (by rfl) (ra_cons (re_var (pv 0)) (ra_cons (re_c pe_int fun _ => .int _) ra_nil))) (fun _ _ => rfl)) ra_nil))))))
theorem k_law (M : Facts K mg) (T_ : Tb) {fa : Addr} {fd : FuncData} (F : Fun K "law" "law" st_law fa fd) : FnOk P w K mg base (L2.CX P w) 6 fa fd ["_law_script"] (spI K mg T_ 1 f_law_k23) := by
  refine fn_run F sc_law (fun cdv A outer s H E hr => ?_)
  have tk := takes_of (X := cxOf (L2.CX P w) P w K mg base ["_law_script", "_law_row_here", "_law_wider", "_law_dear", "_law_third", "_law_near", "_law_group", "_law_one", "_law_other", "_law_rule_here", "_law_first", "_law_second", "_law_few", "_law_many", "_law_lot", "_law_k"] "law" (defScope st_law) fa cdv A outer s H E) rfl rfl rfl rfl
  have hu1 := hu_of hr; have hu64 := hr.units; have hu65 := units65 hr
  exact (rs_cons (rs_set (fun h => ps_set (i := 1) sc_law.nd rfl (by first | exact Or.inl rfl | exact Or.inr rfl) h) (re_call (c__law_row M T_) (hr.mono (by decide)) tk (by rfl) (ra_cons (re_var (pv 0)) ra_nil))) (rs_cons (rs_par3 (fun h => ps_par3 (i := 7) (j := 8) (l := 9) rfl sc_law.nd rfl rfl rfl (by decide) (by decide) (by decide) rfl rfl rfl h rfl) (ra_cons (re_call (c__law_lights M T_) (hr.mono (by decide)) tk (by rfl) (ra_cons (re_var (pv 1)) (ra_cons (re_c pe_int fun _ => .int _) (ra_cons (re_c pe_int fun _ => .int _) ra_nil)))) (ra_cons (re_call (c__law_lights M T_) (hr.mono (by decide)) tk (by rfl) (ra_cons (re_var (pv 1)) (ra_cons (re_c pe_int fun _ => .int _) (ra_cons (re_c pe_int fun _ => .int _) ra_nil)))) (ra_cons (re_call (c__law_rule M T_) (hr.mono (by decide)) tk (by rfl) (ra_cons (re_var (pv 1)) ra_nil)) ra_nil)))) (rs_cons (rs_set (fun h => ps_set (i := 2) sc_law.nd rfl (by first | exact Or.inl rfl | exact Or.inr rfl) h) (re_tup (ra_cons (re_bin op_addA ru_add (re_ix (re_var (pv 9)) (re_c pe_int fun _ => .int _) (fun _ _ => rfl)) (re_call (c__law_taken M T_) (hr.mono (by decide)) tk (by rfl) (ra_cons (re_var (pv 1)) (ra_cons (re_c pe_int fun _ => .int _) ra_nil)))) (ra_cons (re_b (fun h => pe_callB (call_min2 (by rfl)) (by rfl) M.n_min (by decide +kernel) h) ru_min2 (ra_cons (re_c pe_int fun _ => .int _) (ra_cons (re_bin op_addA ru_add (re_ix (re_var (pv 9)) (re_c pe_int fun _ => .int _) (fun _ _ => rfl)) (re_call (c__law_taken M T_) (hr.mono (by decide)) tk (by rfl) (ra_cons (re_var (pv 1)) (ra_cons (re_c pe_int fun _ => .int _) ra_nil)))) ra_nil))) (ra_cons (re_ix (re_var (pv 9)) (re_c pe_int fun _ => .int _) (fun _ _ => rfl)) ra_nil))))) (rs_cons (rs_par (fun h => ps_par (i := 10) (j := 11) rfl sc_law.nd rfl rfl (by decide) rfl rfl h rfl) (ra_cons (re_callK (c_pairing_0 M T_) (hr.mono (by decide)) tk (fun _ _ _ _ _ h => h) (by rfl) (ra_cons (re_var (pv 7)) (ra_cons (re_var (pv 8)) (ra_cons (re_var (pv 9)) ra_nil))) rk_nil) (ra_cons (re_callK (c_pairing_0 M T_) (hr.mono (by decide)) tk (fun _ _ _ _ _ h => h) (by rfl) (ra_cons (re_var (pv 7)) (ra_cons (re_var (pv 8)) (ra_cons (re_var (pv 2)) ra_nil))) rk_nil) ra_nil))) (rs_cons (rs_if (PW.pt (rw_or (rt_cmp (op_lt) ru_lt (re_b (fun h => pe_callB (call_len_seq) (by rfl) M.n_len PySem.boot_len h) ru_len (ra_cons (re_ix (re_var (pv 11)) (re_c pe_int fun _ => .int _) (fun _ _ => rfl)) ra_nil)) (re_b (fun h => pe_callB (call_len_seq) (by rfl) M.n_len PySem.boot_len h) ru_len (ra_cons (re_ix (re_var (pv 10)) (re_c pe_int fun _ => .int _) (fun _ _ => rfl)) ra_nil)) (nomark _)) (rw_one_or (PW.pt (rw_and (rt_cmp (op_eqD hu64) ru_eq (re_b (fun h => pe_callB (call_len_seq) (by rfl) M.n_len PySem.boot_len h) ru_len (ra_cons (re_ix (re_var (pv 11)) (re_c pe_int fun _ => .int _) (fun _ _ => rfl)) ra_nil)) (re_b (fun h => pe_callB (call_len_seq) (by rfl) M.n_len PySem.boot_len h) ru_len (ra_cons (re_ix (re_var (pv 10)) (re_c pe_int fun _ => .int _) (fun _ _ => rfl)) ra_nil)) (nomark _)) (rw_one_and (rt_cmp (op_gt) ru_gt (re_ix (re_var (pv 11)) (re_c pe_int fun _ => .int _) (fun _ _ => rfl)) (re_ix (re_var (pv 10)) (re_c pe_int fun _ => .int _) (fun _ _ => rfl)) (nomark _)))))))) (rs_one (rs_ret (re_c pe_bl fun _ => .bl _))) rs_nil) (rs_cons (rs_if (rt_cmp (op_neD hu64) ru_ne (re_callK (c_settles_0 M T_) (hr.mono (by decide)) tk (fun _ _ _ _ _ h => h) (by rfl) (ra_cons (re_var (pv 7)) (ra_cons (re_var (pv 8)) (ra_cons (re_var (pv 2)) (ra_cons (re_ix (re_var (pv 10)) (re_c pe_int fun _ => .int _) (fun _ _ => rfl)) (ra_cons (re_ix (re_var (pv 11)) (re_c pe_int fun _ => .int _) (fun _ _ => rfl)) ra_nil))))) rk_nil) (re_cmp (op_eqD hu64) ru_eq (re_tup (ra_cons (re_b (fun h => pe_callB (call_len_seq) (by rfl) M.n_len PySem.boot_len h) ru_len (ra_cons (re_ix (re_var (pv 10)) (re_c pe_int fun _ => .int _) (fun _ _ => rfl)) ra_nil)) (ra_cons (re_ix (re_var (pv 10)) (re_c pe_int fun _ => .int _) (fun _ _ => rfl)) ra_nil))) (re_tup (ra_cons (re_b (fun h => pe_callB (call_len_seq) (by rfl) M.n_len PySem.boot_len h) ru_len (ra_cons (re_ix (re_var (pv 11)) (re_c pe_int fun _ => .int _) (fun _ _ => rfl)) ra_nil)) (ra_cons (re_ix (re_var (pv 11)) (re_c pe_int fun _ => .int _) (fun _ _ => rfl)) ra_nil))) (nomark _)) (nomark _)) (rs_one (rs_ret (re_c pe_bl fun _ => .bl _))) rs_nil) (rs_cons (rs_set (fun h => ps_set (i := 3) sc_law.nd rfl (by first | exact Or.inl rfl | exact Or.inr rfl) h) (re_bin op_addA ru_add (re_sl (re_var (pv 9)) ro_no (ro_so (re_c pe_int fun _ => .int _))) (re_tup (ra_cons (re_bin op_addA ru_add (re_ix (re_var (pv 9)) (re_c pe_int fun _ => .int _) (fun _ _ => rfl)) (re_c pe_int fun _ => .int _)) ra_nil)))) (rs_cons (rs_set (fun h => ps_set (i := 4) sc_law.nd rfl (by first | exact Or.inl rfl | exact Or.inr rfl) h) (re_callK (c_pairing_0 M T_) (hr.mono (by decide)) tk (fun _ _ _ _ _ h => h) (by rfl) (ra_cons (re_var (pv 7)) (ra_cons (re_var (pv 8)) (ra_cons (re_var (pv 3)) ra_nil))) rk_nil)) (rs_cons (rs_if (PW.pt (rw_or (rt_cmp (op_neD hu64) ru_ne (re_b (fun h => pe_callB (call_len_seq) (by rfl) M.n_len PySem.boot_len h) ru_len (ra_cons (re_ix (re_var (pv 4)) (re_c pe_int fun _ => .int _) (fun _ _ => rfl)) ra_nil)) (re_b (fun h => pe_callB (call_len_seq) (by rfl) M.n_len PySem.boot_len h) ru_len (ra_cons (re_ix (re_var (pv 10)) (re_c pe_int fun _ => .int _) (fun _ _ => rfl)) ra_nil)) (nomark _)) (rw_one_or (rt_cmp (op_lt) ru_lt (re_ix (re_var (pv 4)) (re_c pe_int fun _ => .int _) (fun _ _ => rfl)) (re_ix (re_var (pv 10)) (re_c pe_int fun _ => .int _) (fun _ _ => rfl)) (nomark _))))) (rs_one (rs_ret (re_c pe_bl fun _ => .bl _))) rs_nil) (rs_cons (rs_if (PW.pt (rw_and (rt_cmp (op_eqD hu64) ru_eq (re_ix (re_var (pv 9)) (re_c pe_int fun _ => .int _) (fun _ _ => rfl)) (re_c pe_int fun _ => .int _) (nomark _)) (rw_one_and (rt_cmp (op_neD hu64) ru_ne (re_ix (re_var (pv 4)) (re_c pe_int fun _ => .int _) (fun _ _ => rfl)) (re_ix (re_var (pv 10)) (re_c pe_int fun _ => .int _) (fun _ _ => rfl)) (nomark _))))) (rs_one (rs_ret (re_c pe_bl fun _ => .bl _))) rs_nil) (rs_cons (rs_if (PW.pt (rw_and (rt_cmp (op_eqD hu64) ru_eq (re_ix (re_var (pv 9)) (re_c pe_int fun _ => .int _) (fun _ _ => rfl)) (re_c pe_int fun _ => .int _) (nomark _)) (rw_one_and (rt_cmp (op_neD hu64) ru_ne (re_callK (c_sure_0 M T_) (hr.mono (by decide)) tk (fun _ _ _ _ _ h => h) (by rfl) (ra_cons (re_var (pv 7)) (ra_cons (re_var (pv 8)) (ra_cons (re_var (pv 3)) ra_nil))) rk_nil) (re_callK (c_sure_0 M T_) (hr.mono (by decide)) tk (fun _ _ _ _ _ h => h) (by rfl) (ra_cons (re_var (pv 7)) (ra_cons (re_var (pv 8)) (ra_cons (re_var (pv 9)) ra_nil))) rk_nil) (nomark _))))) (rs_one (rs_ret (re_c pe_bl fun _ => .bl _))) rs_nil) (rs_cons (rs_set (fun h => ps_set (i := 5) sc_law.nd rfl (by first | exact Or.inl rfl | exact Or.inr rfl) h) (re_call (c__law_taken M T_) (hr.mono (by decide)) tk (by rfl) (ra_cons (re_var (pv 1)) (ra_cons (re_c pe_int fun _ => .int _) ra_nil)))) (rs_cons (rs_par (fun h => ps_par (i := 12) (j := 13) rfl sc_law.nd rfl rfl (by decide) rfl rfl h rfl) (ra_cons (re_call (c_groups M T_) (hr.mono (by decide)) tk (by rfl) (ra_cons (re_var (pv 7)) (ra_cons (re_var (pv 5)) ra_nil))) (ra_cons (re_call (c_groups M T_) (hr.mono (by decide)) tk (by rfl) (ra_cons (re_var (pv 7)) (ra_cons (re_bin op_addA ru_add (re_var (pv 5)) (re_c pe_int fun _ => .int _)) ra_nil))) ra_nil))) (rs_cons (rs_for (passes_of rfl) rfl (ri_val (re_var (pv 12))) (rg_n (pg_name (i := 6) sc_law.nd (by rfl) (by first | exact Or.inl rfl | exact Or.inr rfl)) (fun _ _ => trivial)) (rs_one (rs_if (rt_cmp (op_neD hu64) ru_ne (re_b (fun h => pe_callB (call_len_seq) (by rfl) M.n_len PySem.boot_len h) ru_len (ra_cons (PE.imp (pe_lc (own := [("_law_lot", 14)]) rfl sc_law.nd (ri_val (re_var (pv 13))) (blkOk_by (N := ["_law_script", "_law_row_here", "_law_wider", "_law_dear", "_law_third", "_law_near", "_law_group", "_law_one", "_law_other", "_law_rule_here", "_law_first", "_law_second", "_law_few", "_law_many", "_law_lot", "_law_k"]) (sc := defScope st_law) (by decide +kernel)) (fun _ _ _ _ _ => (rg_n (pg_name (i := 14) sc_law.nd (by rfl) (by first | exact Or.inl rfl | exact Or.inr rfl)) (fun _ _ => wipe_set _ _ _ _ (by decide)))) (fun _ _ _ _ _ => (pts_one (rt_cmp (op_eqD hu64) ru_eq (PE.imp (pe_lc (own := [("_law_k", 15)]) rfl sc_law.nd (ri_val (re_var (pv 6))) (blkOk_by (by rfl)) (fun _ _ _ _ _ => (rg_n (pg_name (i := 15) sc_law.nd (by rfl) (by first | exact Or.inl rfl | exact Or.inr rfl)) (fun _ _ => wipe_set _ _ _ _ (by decide)))) (fun _ _ _ _ _ => (pts_one (rt_cmp (op_notInA hu65) ru_notin (re_var (pv 15)) (re_var (pv 14)) (by with_unfolding_all rfl)))) (fun _ _ _ _ _ => (re_var (pv 15)))) (fun σ H Q h => rd_lc rfl σ H Q h)) (re_lst ra_nil) (nomark _)))) (fun _ _ _ _ _ => (re_var (pv 14)))) (fun σ H Q h => rd_lc rfl σ H Q h)) ra_nil)) (re_c pe_int fun _ => .int _) (nomark _)) (rs_one (rs_ret (re_c pe_bl fun _ => .bl _))) rs_nil))) (rs_one (rs_ret (re_and (re_cmp (op_eqD hu64) ru_eq (re_b (fun h => pe_callB (call_len_seq) (by rfl) M.n_len PySem.boot_len h) ru_len (ra_cons (re_ix (re_callK (c_pairing_0 M T_) (hr.mono (by decide)) tk (fun _ _ _ _ _ h => h) (by rfl) (ra_cons (re_var (pv 7)) (ra_cons (re_var (pv 7)) (ra_cons (re_var (pv 9)) ra_nil))) rk_nil) (re_c pe_int fun _ => .int _) (fun _ _ => rfl)) ra_nil)) (re_b (fun h => pe_callB (call_len_seq) (by rfl) M.n_len PySem.boot_len h) ru_len (ra_cons (re_var (pv 7)) ra_nil)) (nomark _)) (re_one_b (re_cmp (op_eqD hu64) ru_eq (re_ix (re_callK (c_pairing_0 M T_) (hr.mono (by decide)) tk (fun _ _ _ _ _ h => h) (by rfl) (ra_cons (re_var (pv 7)) (ra_cons (re_var (pv 7)) (ra_cons (re_var (pv 9)) ra_nil))) rk_nil) (re_c pe_int fun _ => .int _) (fun _ _ => rfl)) (re_c pe_int fun _ => .int _) (nomark _))))))))))))))))))))
end
end Tx
set_option Elab.async false
set_option linter.all false
set_option maxRecDepth 100000
set_option maxHeartbeats 4000000
namespace Tx
open PySem PySem.Spec PyProof.Rows L2 Rx Px
def gg_sure_0 {α : Type} (vs mz zs : List α) : List α := vs ++ ((mz.drop 0).take 1 ++ [])
theorem gr_sure_0 {vs mz zs : List V} {us mv ws : List Value} (h1 : Vals vs us) (h2 : Vals mz mv) (h3 : Vals zs ws) : Vals (gg_sure_0 vs mz zs) (gg_sure_0 us mv ws) := h1.append (.append (vals_take (vals_drop 0 h2) 1) .nil)
theorem gd_sure_0 {K : PySem.W.Frag} (w : Wd) (vs zs : List V) (ds es : List D) (mz : List V) (h1 : DatL K w vs ds) (h3 : DatL K w zs es) (h2 : DatL K w mz (List.map (fun q => q.2) ([("slip", (.ktup [(.int 0), (.int 0)]))] : List (Str × D)))) : DatL K w (gg_sure_0 vs mz zs) ((fun ds es => ds ++ ([(.ktup [(.int 0), (.int 0)])] ++ [])) ds es) := h1.append (.append ((h2.drop 0).take 1) .nil)
def gg_settles_0 {α : Type} (vs mz zs : List α) : List α := vs ++ ((mz.drop 0).take 1 ++ [])
theorem gr_settles_0 {vs mz zs : List V} {us mv ws : List Value} (h1 : Vals vs us) (h2 : Vals mz mv) (h3 : Vals zs ws) : Vals (gg_settles_0 vs mz zs) (gg_settles_0 us mv ws) := h1.append (.append (vals_take (vals_drop 0 h2) 1) .nil)
theorem gd_settles_0 {K : PySem.W.Frag} (w : Wd) (vs zs : List V) (ds es : List D) (mz : List V) (h1 : DatL K w vs ds) (h3 : DatL K w zs es) (h2 : DatL K w mz (List.map (fun q => q.2) ([("slip", (.ktup [(.int 0), (.int 0)]))] : List (Str × D)))) : DatL K w (gg_settles_0 vs mz zs) ((fun ds es => ds ++ ([(.ktup [(.int 0), (.int 0)])] ++ [])) ds es) := h1.append (.append ((h2.drop 0).take 1) .nil)
def gg_pairing_0 {α : Type} (vs mz zs : List α) : List α := vs ++ ((mz.drop 0).take 1 ++ [])
theorem gr_pairing_0 {vs mz zs : List V} {us mv ws : List Value} (h1 : Vals vs us) (h2 : Vals mz mv) (h3 : Vals zs ws) : Vals (gg_pairing_0 vs mz zs) (gg_pairing_0 us mv ws) := h1.append (.append (vals_take (vals_drop 0 h2) 1) .nil)
theorem gd_pairing_0 {K : PySem.W.Frag} (w : Wd) (vs zs : List V) (ds es : List D) (mz : List V) (h1 : DatL K w vs ds) (h3 : DatL K w zs es) (h2 : DatL K w mz (List.map (fun q => q.2) ([("slip", (.ktup [(.int 0), (.int 0)]))] : List (Str × D)))) : DatL K w (gg_pairing_0 vs mz zs) ((fun ds es => ds ++ ([(.ktup [(.int 0), (.int 0)])] ++ [])) ds es) := h1.append (.append ((h2.drop 0).take 1) .nil)
theorem law_end {w : World} {K : PySem.W.Frag} {mg : Str → Option Value} {fa f1 : Addr} {h : Heap} {oc : Value} {od an : Option Addr} {osl : Array (Option Value)} {kV doc pm ct cdv : Value} (X : K.In h) (G : h.Ns mainGlobals mg) (hfa : mg "law" = some (.ref fa)) (M : Facts K mg)
    (a : PySem.W.nsIn K mainGlobals "law" = some (some (.ref f1))) (l : K.lookup f1 = some ⟨oc, od, .func (PySem.W.fnOf "law" "law" (defArgs st_law) (defBody st_law) (defScope st_law) .none kV doc pm an cdv ct), osl⟩) (cd : PySem.W.codeIn K cdv "law" = true) (kp : PySem.W.keepIn K (.ref f1) = true) :
    LamX.LawAtS PySem.Challenge.rw_skypairs_k23_whole_wider_rules w K (L2.CX PySem.Challenge.rw_skypairs_k23_whole_wider_rules.prog w) 6 63 "_law_script" mg fa h := by
  have e := hfa.symm.trans (PySem.W.mg_of X G a)
  cases e
  exact law_at0 (fun s u => .of_eq rfl) (fun base _ _ => k_law M ⟨[], w00⟩ ⟨⟨_, _, _, _, _, _, _, _, _, rfl, l, cd⟩, kp⟩) law_math_k23
end Tx
open PySem PySem.W PyProof.Rows
set_option maxRecDepth 100000 in
set_option maxHeartbeats 0 in
theorem PySem.Challenge.cw_skypairs_k23_whole_wider_rules_holds : PySem.Challenge.rw_skypairs_k23_whole_wider_rules.Holds := by
  w_on; o_law; k_head; (case hw => w_witness2)
  k_fill
  refine LamX.walk_ofTs (l := PySem.Challenge.rw_skypairs_k23_whole_wider_rules) (k := 6) (x := "_law_script") (CX := fun w => L2.CX PySem.Challenge.rw_skypairs_k23_whole_wider_rules.prog w) rfl (by decide) rfl ⟨rfl, by decide, by decide⟩ (fun w h Y => PySem.W.kIn_of Y) ?F Rx.hCX_
  case F =>
    intro w mg fa h Y KX G hmg
    have n_abs := Rx.free_of (x := "abs") KX G (by kernel_rfl)
    have n_all := Rx.free_of (x := "all") KX G (by kernel_rfl)
    have n_bool := Rx.free_of (x := "bool") KX G (by kernel_rfl)
    have n_enumerate := Rx.free_of (x := "enumerate") KX G (by kernel_rfl)
    have n_int := Rx.free_of (x := "int") KX G (by kernel_rfl)
    have n_isinstance := Rx.free_of (x := "isinstance") KX G (by kernel_rfl)
    have n_len := Rx.free_of (x := "len") KX G (by kernel_rfl)
    have n_list := Rx.free_of (x := "list") KX G (by kernel_rfl)
    have n_max := Rx.free_of (x := "max") KX G (by kernel_rfl)
    have n_min := Rx.free_of (x := "min") KX G (by kernel_rfl)
    have n_range := Rx.free_of (x := "range") KX G (by kernel_rfl)
    have n_sorted := Rx.free_of (x := "sorted") KX G (by kernel_rfl)
    have n_sum := Rx.free_of (x := "sum") KX G (by kernel_rfl)
    have n_tuple := Rx.free_of (x := "tuple") KX G (by kernel_rfl)
    have n_zip := Rx.free_of (x := "zip") KX G (by kernel_rfl)
    have d_is_number : Rx.DefAtX KX mg "is_number" Tx.st_is_number ["thing", "low", "high"] := by
      refine' Rx.defAt_mk KX G ?a ?l ?c ?k (fun _ _ _ _ _ _ us hl => match us, hl with | [_, _, _], _ => rfl)
      (case a => k_is); (case l => k_is); (case c => k_is); (case k => k_is)
    have d_are_numbers : Rx.DefAtX KX mg "are_numbers" Tx.st_are_numbers ["thing", "bounds"] := by
      refine' Rx.defAt_mk KX G ?a ?l ?c ?k (fun _ _ _ _ _ _ us hl => match us, hl with | [_, _], _ => rfl)
      (case a => k_is); (case l => k_is); (case c => k_is); (case k => k_is)
    have d_check_lights : Rx.DefAtX KX mg "check_lights" Tx.st_check_lights ["lights"] := by
      refine' Rx.defAt_mk KX G ?a ?l ?c ?k (fun _ _ _ _ _ _ us hl => match us, hl with | [_], _ => rfl)
      (case a => k_is); (case l => k_is); (case c => k_is); (case k => k_is)
    have d_check_rule : Rx.DefAtX KX mg "check_rule" Tx.st_check_rule ["rule"] := by
      refine' Rx.defAt_mk KX G ?a ?l ?c ?k (fun _ _ _ _ _ _ us hl => match us, hl with | [_], _ => rfl)
      (case a => k_is); (case l => k_is); (case c => k_is); (case k => k_is)
    have d_check_slip : Rx.DefAtX KX mg "check_slip" Tx.st_check_slip ["slip"] := by
      refine' Rx.defAt_mk KX G ?a ?l ?c ?k (fun _ _ _ _ _ _ us hl => match us, hl with | [_], _ => rfl)
      (case a => k_is); (case l => k_is); (case c => k_is); (case k => k_is)
    have d_check_count : Rx.DefAtX KX mg "check_count" Tx.st_check_count ["thing", "low", "high"] := by
      refine' Rx.defAt_mk KX G ?a ?l ?c ?k (fun _ _ _ _ _ _ us hl => match us, hl with | [_, _, _], _ => rfl)
      (case a => k_is); (case l => k_is); (case c => k_is); (case k => k_is)
    have d_pair_worth : Rx.DefAtX KX mg "pair_worth" Tx.st_pair_worth ["light", "mate", "rule"] := by
      refine' Rx.defAt_mk KX G ?a ?l ?c ?k (fun _ _ _ _ _ _ us hl => match us, hl with | [_, _, _], _ => rfl)
      (case a => k_is); (case l => k_is); (case c => k_is); (case k => k_is)
    have d_worth_table : Rx.DefAtX KX mg "worth_table" Tx.st_worth_table ["one", "other", "rule", "slip"] := by
      refine' Rx.defAt_mk KX G ?a ?l ?c ?k (fun _ _ _ _ _ _ us hl => match us, hl with | [_, _, _, _], _ => rfl)
      (case a => k_is); (case l => k_is); (case c => k_is); (case k => k_is)
    have d_asked_worths : Rx.DefAtX KX mg "asked_worths" Tx.st_asked_worths ["one", "other", "rule", "slip"] := by
      refine' Rx.defAt_mk KX G ?a ?l ?c ?k (fun _ _ _ _ _ _ us hl => match us, hl with | [_, _, _, _], _ => rfl)
      (case a => k_is); (case l => k_is); (case c => k_is); (case k => k_is)
    have d_shortest_ways : Rx.DefAtX KX mg "shortest_ways" Tx.st_shortest_ways ["newcomer", "table", "row_prices", "column_prices", "holders"] := by
      refine' Rx.defAt_mk KX G ?a ?l ?c ?k (fun _ _ _ _ _ _ us hl => match us, hl with | [_, _, _, _, _], _ => rfl)
      (case a => k_is); (case l => k_is); (case c => k_is); (case k => k_is)
    have d_let_in : Rx.DefAtX KX mg "let_in" Tx.st_let_in ["newcomer", "table", "row_prices", "column_prices", "holders"] := by
      refine' Rx.defAt_mk KX G ?a ?l ?c ?k (fun _ _ _ _ _ _ us hl => match us, hl with | [_, _, _, _, _], _ => rfl)
      (case a => k_is); (case l => k_is); (case c => k_is); (case k => k_is)
    have d_best_choice : Rx.DefAtX KX mg "best_choice" Tx.st_best_choice ["worths", "many"] := by
      refine' Rx.defAt_mk KX G ?a ?l ?c ?k (fun _ _ _ _ _ _ us hl => match us, hl with | [_, _], _ => rfl)
      (case a => k_is); (case l => k_is); (case c => k_is); (case k => k_is)
    have d_total_worth : Rx.DefAtX KX mg "total_worth" Tx.st_total_worth ["worths", "pairs"] := by
      refine' Rx.defAt_mk KX G ?a ?l ?c ?k (fun _ _ _ _ _ _ us hl => match us, hl with | [_, _], _ => rfl)
      (case a => k_is); (case l => k_is); (case c => k_is); (case k => k_is)
    have d_total_cost : Rx.DefAtX KX mg "total_cost" Tx.st_total_cost ["worths", "pairs"] := by
      refine' Rx.defAt_mk KX G ?a ?l ?c ?k (fun _ _ _ _ _ _ us hl => match us, hl with | [_, _], _ => rfl)
      (case a => k_is); (case l => k_is); (case c => k_is); (case k => k_is)
    have d_is_choice : Rx.DefAtX KX mg "is_choice" Tx.st_is_choice ["thing", "worths", "many"] := by
      refine' Rx.defAt_mk KX G ?a ?l ?c ?k (fun _ _ _ _ _ _ us hl => match us, hl with | [_, _, _], _ => rfl)
      (case a => k_is); (case l => k_is); (case c => k_is); (case k => k_is)
    have d_are_prices : Rx.DefAtX KX mg "are_prices" Tx.st_are_prices ["thing", "rows", "many"] := by
      refine' Rx.defAt_mk KX G ?a ?l ?c ?k (fun _ _ _ _ _ _ us hl => match us, hl with | [_, _, _], _ => rfl)
      (case a => k_is); (case l => k_is); (case c => k_is); (case k => k_is)
    have d_possible_pairs : Rx.DefAtX KX mg "possible_pairs" Tx.st_possible_pairs ["worths"] := by
      refine' Rx.defAt_mk KX G ?a ?l ?c ?k (fun _ _ _ _ _ _ us hl => match us, hl with | [_], _ => rfl)
      (case a => k_is); (case l => k_is); (case c => k_is); (case k => k_is)
    have d_tight_pairs : Rx.DefAtX KX mg "tight_pairs" Tx.st_tight_pairs ["worths", "prices"] := by
      refine' Rx.defAt_mk KX G ?a ?l ?c ?k (fun _ _ _ _ _ _ us hl => match us, hl with | [_, _], _ => rfl)
      (case a => k_is); (case l => k_is); (case c => k_is); (case k => k_is)
    have d_exchanges : Rx.DefAtX KX mg "exchanges" Tx.st_exchanges ["worths", "many", "pairs", "prices"] := by
      refine' Rx.defAt_mk KX G ?a ?l ?c ?k (fun _ _ _ _ _ _ us hl => match us, hl with | [_, _, _, _], _ => rfl)
      (case a => k_is); (case l => k_is); (case c => k_is); (case k => k_is)
    have d_reached : Rx.DefAtX KX mg "reached" Tx.st_reached ["ways", "start"] := by
      refine' Rx.defAt_mk KX G ?a ?l ?c ?k (fun _ _ _ _ _ _ us hl => match us, hl with | [_, _], _ => rfl)
      (case a => k_is); (case l => k_is); (case c => k_is); (case k => k_is)
    have d_sure_pairs : Rx.DefAtX KX mg "sure_pairs" Tx.st_sure_pairs ["worths", "many"] := by
      refine' Rx.defAt_mk KX G ?a ?l ?c ?k (fun _ _ _ _ _ _ us hl => match us, hl with | [_, _], _ => rfl)
      (case a => k_is); (case l => k_is); (case c => k_is); (case k => k_is)
    have d_check_near : Rx.DefAtX KX mg "check_near" Tx.st_check_near ["near"] := by
      refine' Rx.defAt_mk KX G ?a ?l ?c ?k (fun _ _ _ _ _ _ us hl => match us, hl with | [_], _ => rfl)
      (case a => k_is); (case l => k_is); (case c => k_is); (case k => k_is)
    have d_are_near : Rx.DefAtX KX mg "are_near" Tx.st_are_near ["light", "mate", "near"] := by
      refine' Rx.defAt_mk KX G ?a ?l ?c ?k (fun _ _ _ _ _ _ us hl => match us, hl with | [_, _, _], _ => rfl)
      (case a => k_is); (case l => k_is); (case c => k_is); (case k => k_is)
    have d_near_groups : Rx.DefAtX KX mg "near_groups" Tx.st_near_groups ["lights", "near"] := by
      refine' Rx.defAt_mk KX G ?a ?l ?c ?k (fun _ _ _ _ _ _ us hl => match us, hl with | [_, _], _ => rfl)
      (case a => k_is); (case l => k_is); (case c => k_is); (case k => k_is)
    have d_groups : Rx.DefAtX KX mg "groups" Tx.st_groups ["lights", "near"] := by
      refine' Rx.defAt_mk KX G ?a ?l ?c ?k (fun _ _ _ _ _ _ us hl => match us, hl with | [_, _], _ => rfl)
      (case a => k_is); (case l => k_is); (case c => k_is); (case k => k_is)
    have d__law_row : Rx.DefAtX KX mg "_law_row" Tx.st__law_row ["_law_script"] := by
      refine' Rx.defAt_mk KX G ?a ?l ?c ?k (fun _ _ _ _ _ _ us hl => match us, hl with | [_], _ => rfl)
      (case a => k_is); (case l => k_is); (case c => k_is); (case k => k_is)
    have d__law_taken : Rx.DefAtX KX mg "_law_taken" Tx.st__law_taken ["_law_row_here", "_law_many"] := by
      refine' Rx.defAt_mk KX G ?a ?l ?c ?k (fun _ _ _ _ _ _ us hl => match us, hl with | [_, _], _ => rfl)
      (case a => k_is); (case l => k_is); (case c => k_is); (case k => k_is)
    have d__law_light : Rx.DefAtX KX mg "_law_light" Tx.st__law_light ["_law_row_here", "_law_wide"] := by
      refine' Rx.defAt_mk KX G ?a ?l ?c ?k (fun _ _ _ _ _ _ us hl => match us, hl with | [_, _], _ => rfl)
      (case a => k_is); (case l => k_is); (case c => k_is); (case k => k_is)
    have d__law_lights : Rx.DefAtX KX mg "_law_lights" Tx.st__law_lights ["_law_row_here", "_law_many", "_law_wide"] := by
      refine' Rx.defAt_mk KX G ?a ?l ?c ?k (fun _ _ _ _ _ _ us hl => match us, hl with | [_, _, _], _ => rfl)
      (case a => k_is); (case l => k_is); (case c => k_is); (case k => k_is)
    have d__law_rule : Rx.DefAtX KX mg "_law_rule" Tx.st__law_rule ["_law_row_here"] := by
      refine' Rx.defAt_mk KX G ?a ?l ?c ?k (fun _ _ _ _ _ _ us hl => match us, hl with | [_], _ => rfl)
      (case a => k_is); (case l => k_is); (case c => k_is); (case k => k_is)
    have e_pairing_0 : Rx.DefAtKX KX mg "pairing" Tx.st_pairing ["one", "other", "rule", "slip"] 3 [] (fun ds es => ds ++ ([(.ktup [(.int 0), (.int 0)])] ++ [])) := by
      refine' Rx.defAtK_mk (kws := [("slip", (.ktup [(.int 0), (.int 0)]))]) (ms := [("slip", (.ktup [(.int 0), (.int 0)]))]) (gg := @Tx.gg_pairing_0) KX G ?a ?l ?c ?k ?qq (by simp) rfl Tx.gr_pairing_0 ?hb Tx.gd_pairing_0
      (case a => k_is); (case l => k_is); (case c => k_is); (case k => k_is); (case qq => kernel_rfl)
      (case hb => exact fun D doc pm an cdv ct us mv ws h1 h2 h3 => match us, mv, ws, h1, h2, h3 with | [_, _, _], [_], [], _, _, _ => ⟨_, _, _, _, _, _, rfl, rfl, rfl⟩)
    have e_settles_0 : Rx.DefAtKX KX mg "settles" Tx.st_settles ["one", "other", "rule", "pairs", "prices", "slip"] 5 [] (fun ds es => ds ++ ([(.ktup [(.int 0), (.int 0)])] ++ [])) := by
      refine' Rx.defAtK_mk (kws := [("slip", (.ktup [(.int 0), (.int 0)]))]) (ms := [("slip", (.ktup [(.int 0), (.int 0)]))]) (gg := @Tx.gg_settles_0) KX G ?a ?l ?c ?k ?qq (by simp) rfl Tx.gr_settles_0 ?hb Tx.gd_settles_0
      (case a => k_is); (case l => k_is); (case c => k_is); (case k => k_is); (case qq => kernel_rfl)
      (case hb => exact fun D doc pm an cdv ct us mv ws h1 h2 h3 => match us, mv, ws, h1, h2, h3 with | [_, _, _, _, _], [_], [], _, _, _ => ⟨_, _, _, _, _, _, rfl, rfl, rfl⟩)
    have e_sure_0 : Rx.DefAtKX KX mg "sure" Tx.st_sure ["one", "other", "rule", "slip"] 3 [] (fun ds es => ds ++ ([(.ktup [(.int 0), (.int 0)])] ++ [])) := by
      refine' Rx.defAtK_mk (kws := [("slip", (.ktup [(.int 0), (.int 0)]))]) (ms := [("slip", (.ktup [(.int 0), (.int 0)]))]) (gg := @Tx.gg_sure_0) KX G ?a ?l ?c ?k ?qq (by simp) rfl Tx.gr_sure_0 ?hb Tx.gd_sure_0
      (case a => k_is); (case l => k_is); (case c => k_is); (case k => k_is); (case qq => kernel_rfl)
      (case hb => exact fun D doc pm an cdv ct us mv ws h1 h2 h3 => match us, mv, ws, h1, h2, h3 with | [_, _, _], [_], [], _, _, _ => ⟨_, _, _, _, _, _, rfl, rfl, rfl⟩)
    have x_BadLights : Rx.Cls1X KX mg "BadLights" "BadLights.__init__" Tx.st_BadLights ["self", "number"] "number" := by
      refine' Rx.cls1_mk KX G ?a ?xL ?rv ?sa ?eC ?tC ?kC ?nf ?i ?tI ?l ?c ?k (fun _ _ _ _ _ _ us hl => match us, hl with | [_, _], _ => rfl)
      (case a => k_is); (case xL => k_is); (case rv => kernel_rfl); (case sa => k_is); (case eC => k_is); (case tC => k_is); (case kC => k_is); (case nf => k_is); (case i => k_is); (case tI => k_is); (case l => k_is); (case c => k_is); (case k => k_is)
    have b_SkyError := Rx.base_of (x := "SkyError") KX G (by kernel_rfl)
    have x_BadCount := Rx.cls0_of (x := "BadCount") KX G (by kernel_rfl)
    have x_BadRule := Rx.cls0_of (x := "BadRule") KX G (by kernel_rfl)
    have x_BadSlip := Rx.cls0_of (x := "BadSlip") KX G (by kernel_rfl)
    have g_MOST_LIGHTS := Rx.kat_of (x := "MOST_LIGHTS") (d := Px.k_MOST_LIGHTS) KX G (by kernel_rfl)
    have g_LIGHT_BOUNDS := Rx.kat_of (x := "LIGHT_BOUNDS") (d := Px.k_LIGHT_BOUNDS) KX G (by kernel_rfl)
    have g_RULE_BOUNDS := Rx.kat_of (x := "RULE_BOUNDS") (d := Px.k_RULE_BOUNDS) KX G (by kernel_rfl)
    have g_SLIP_BOUNDS := Rx.kat_of (x := "SLIP_BOUNDS") (d := Px.k_SLIP_BOUNDS) KX G (by kernel_rfl)
    have g_FULL_WORTH := Rx.kat_of (x := "FULL_WORTH") (d := Px.k_FULL_WORTH) KX G (by kernel_rfl)
    have g_NO_WAY := Rx.kat_of (x := "NO_WAY") (d := Px.k_NO_WAY) KX G (by kernel_rfl)
    have g_MOST_NEAR := Rx.kat_of (x := "MOST_NEAR") (d := Px.k_MOST_NEAR) KX G (by kernel_rfl)
    have M := Tx.Facts.mk n_abs n_all n_bool n_enumerate n_int n_isinstance n_len n_list n_max n_min n_range n_sorted n_sum n_tuple n_zip d_is_number d_are_numbers d_check_lights d_check_rule d_check_slip d_check_count d_pair_worth d_worth_table d_asked_worths d_shortest_ways d_let_in d_best_choice d_total_worth d_total_cost d_is_choice d_are_prices d_possible_pairs d_tight_pairs d_exchanges d_reached d_sure_pairs d_check_near d_are_near d_near_groups d_groups d__law_row d__law_taken d__law_light d__law_lights d__law_rule e_pairing_0 e_settles_0 e_sure_0 x_BadLights b_SkyError x_BadCount x_BadRule x_BadSlip g_MOST_LIGHTS g_LIGHT_BOUNDS g_RULE_BOUNDS g_SLIP_BOUNDS g_FULL_WORTH g_NO_WAY g_MOST_NEAR
    refine' Tx.law_end KX G hmg M ?a ?l ?cd ?kp
    (case a => k_is); (case l => k_is); (case cd => k_is); (case kp => k_is)
