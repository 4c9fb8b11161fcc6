import PyProof.Rows.All
import Wide.All
import OpenK.AllK
import Wide.FinOn
import HandS.SortOrd
import HandS.SortRule
import HandS.List
import HandS.Dict
import HandS.Iter
import HandS.More
import HandS.Walk
import HandS.Codes
import KE.KDictOf
import KE.KDictList
import PyProof.EnumMake
import PyProof.Draws
import HandS.SortKw
import KE.KDictWalk
import PyProof.ZipIter
import HandS.Zip
import Open.SpecLaws
import KE.OsGo
import HandS.ForSpec
import HandS.Comp
import HandS.Text
import HandS.CallLocal
import HandS.WordsDict
import PySem.Challenge.RW_entryhouse_s01_answers
set_option Elab.async false
set_option linter.all false
set_option maxRecDepth 100000
set_option maxHeartbeats 4000000
/-! ## EHR1 -/
/-! sorted(xs), xs a list of triples of ints, of any length -/
namespace EHR
open PySem PySem.Spec PyProof.Rows L2
/-- the order of triples -/
def lt3 (p q : Int × Int × Int) : Bool := decide (p.1 < q.1 ∨ (p.1 = q.1 ∧ (p.2.1 < q.2.1 ∨ (p.2.1 = q.2.1 ∧ p.2.2 < q.2.2))))
theorem swo3 {α : Type} (k : α → Int × Int × Int) : SrtO.Swo fun x y => lt3 (k x) (k y) := by
  constructor
  · intro a b q
    have q := of_decide_eq_true q
    exact decide_eq_false (by omega)
  · intro a b c q r
    have q := of_decide_eq_false q
    have r := of_decide_eq_false r
    exact decide_eq_false (by omega)
/-- v is a tuple of three ints -/
def Is3 (hp : Heap) (v : Value) (z : Int × Int × Int) : Prop :=
  ∃ (c : Addr) (ob : Obj) (t1 t2 t3 : Tok) (m : Nat), v = .ref c ∧ hp.get? c = some ob ∧ ob.cls = .type "tuple" ∧ ob.data = .seq #[.int z.1 t1, .int z.2.1 t2, .int z.2.2 t3] m
theorem Is3.move {hp hq : Heap} {v : Value} {z : Int × Int × Int} (q : Is3 hp v z) (mv : ∀ c ob, hp.get? c = some ob → ob.cls = .type "tuple" → hq.get? c = some ob) : Is3 hq v z :=
  let ⟨c, ob, t1, t2, t3, m, e1, e2, e3, e4⟩ := q
  ⟨c, ob, t1, t2, t3, m, e1, mv c ob e2 e3, e3, e4⟩
theorem heads3 {hp : Heap} : ∀ (vs : List Value), (∀ v ∈ vs, ∃ z, Is3 hp v z) → ∃ fs : List Value, PySem.W.KatTups hp vs fs ∧ fs.length = vs.length ∧ ∀ g ∈ fs, ∃ z t, g = Value.int z t
  | [], _ => ⟨[], .nil, rfl, by simp⟩
  | v :: r, al => by
    obtain ⟨fs, a1, a2, a3⟩ := heads3 r (fun u hu => al u (by simp [hu]))
    obtain ⟨z, c, ob, t1, t2, t3, m, rfl, e2, e3, e4⟩ := al v (by simp)
    refine ⟨.int z.1 t1 :: fs, .cons e2 e3 e4 rfl a1, by simp [a2], ?_⟩
    intro g hg
    rcases List.mem_cons.mp hg with hg | hg
    · exact ⟨_, _, hg⟩
    · exact a3 g hg
section
variable {prog : Program} {w : World} {A : Around} {E : Value → Shared → Prop} {s : Shared}
/-- the comparison of two of them, as the sort's machine makes it -/
theorem cmp3 {vs : List Value} {k : Value → Int × Int × Int} (al : ∀ v ∈ vs, Is3 s.heap v (k v)) :
    SrtO.Cmp prog w A s (tuples' true) (fun p => p.1 ∈ vs) (SrtO.lt2 fun v u => lt3 (k v) (k u)) := by
  intro p q mp mq
  have gp := al _ mp
  have gq := al _ mq
  show wpAny (model prog w) A (keyLt' (tuples' true) p.1 q.1) (fun r s' => s' = s ∧ r = lt3 (k p.1) (k q.1)) (fun _ _ => False) s
  generalize k p.1 = y at gp ⊢
  generalize k q.1 = z at gq ⊢
  obtain ⟨y1, y2, y3⟩ := y
  obtain ⟨z1, z2, z3⟩ := z
  obtain ⟨c, ob, t1, t2, t3, m, e1, e2, e3, e4⟩ := gp
  obtain ⟨c', ob', u1, u2, u3, m', f1, f2, f3, f4⟩ := gq
  rw [e1, f1]
  refine PySem.W.kat_lt e2 e4 f2 f4 ?_
  show PySem.W.KatLex prog w A true (decide (3 < 3)) _ [(.int y1 t1, .int z1 u1), (.int y2 t2, .int z2 u2), (.int y3 t3, .int z3 u3)] 0 s
  refine PySem.W.kat_cons (SeqAt.EqAt.int_int _ _ _ _ prog w _ _ (PySem.W.kat_go (fun d1 => ?_) fun d1 => ?_))
  · have d1 : y1 = z1 := by simpa using d1
    refine PySem.W.kat_yes (PySem.W.kat_cons (SeqAt.EqAt.int_int _ _ _ _ prog w _ _ (PySem.W.kat_go (fun d2 => ?_) fun d2 => ?_)))
    · have d2 : y2 = z2 := by simpa using d2
      refine PySem.W.kat_yes (PySem.W.kat_cons (SeqAt.EqAt.int_int _ _ _ _ prog w _ _ (PySem.W.kat_go (fun d3 => ?_) fun d3 => ?_)))
      · have d3 : y3 = z3 := by simpa using d3
        refine PySem.W.kat_yes (PySem.W.kat_nil ⟨rfl, ?_⟩)
        exact (decide_eq_false (by simp only []; omega)).symm
      · have d3 : ¬ y3 = z3 := by simpa using d3
        refine PySem.W.kat_no (PySem.W.kat_one _ _ (PyProof.Rows.lt_int ?_))
        refine (show s = s ∧ decide (y3 < z3) = _ from ⟨rfl, ?_⟩)
        unfold lt3
        exact decide_eq_decide.mpr (by simp only []; omega)
    · have d2 : ¬ y2 = z2 := by simpa using d2
      refine PySem.W.kat_no (PySem.W.kat_one _ _ (PyProof.Rows.lt_int ?_))
      refine (show s = s ∧ decide (y2 < z2) = _ from ⟨rfl, ?_⟩)
      unfold lt3
      exact decide_eq_decide.mpr (by simp only []; omega)
  · have d1 : ¬ y1 = z1 := by simpa using d1
    refine PySem.W.kat_no (oneLt_int ⟨rfl, ?_⟩)
    unfold lt3
    exact decide_eq_decide.mpr (by simp only []; omega)
theorem sortable3 {a : Addr} {vs : List Value} {k : Value → Int × Int × Int} (ne : 0 < vs.length) (al : ∀ v ∈ vs, Is3 s.heap v (k v)) (na : ∀ ob, s.heap.get? a = some ob → ob.cls ≠ .type "tuple") :
    SrtO.SortableO prog w A s a vs fun v u => lt3 (k v) (k u) := by
  intro hq mv
  have al2 : ∀ v ∈ vs, Is3 hq v (k v) := fun v m => (al v m).move fun c ob e f => mv c ob (fun z => na ob (z ▸ e) f) e
  obtain ⟨fs, a1, a2, a3⟩ := heads3 vs fun v m => ⟨_, al2 v m⟩
  refine ⟨tuples' true, fun Q E hQ => PySem.W.kat_kind (T := .type "int") a1 (a2 ▸ ne) (fun g mg => ?_) rfl ?_, cmp3 al2⟩
  · obtain ⟨z, t, rfl⟩ := a3 g mg
    exact .now
  · rw [show (Value.type "int" != Value.type "tuple") = true by decide +kernel]
    exact hQ
end
end EHR
namespace EHR
open PySem PySem.Spec PyProof.Rows L2
/-- what sorted asks of such a list, and gives -/
def rSort3 (K : PySem.W.Frag) : List V → Hp → VK → Prop := fun vs H Q => ∃ (l : Addr) (xs : List V) (k : V → Int × Int × Int), vs = [V.ref l] ∧ SqL K H l xs ∧
  (∀ x ∈ xs, ∃ c, x = V.ref c ∧ H c = some (.tup [.int (k x).1, .int (k x).2.1, .int (k x).2.2])) ∧
  ∀ ys p, SrtO.Srtd (fun x y => lt3 (k x) (k y)) ys → ys.Perm xs → H p = none → Q (.ref p) (upd H p (.lst ys))
theorem cr_sorted3 {X : Cx} : CallR X (.builtin "sorted") (rSort3 X.K) := by
  intro pins s σ H vs us Q I r
  rintro ⟨l, xs, k, rfl, hs, hx, q⟩
  obtain ⟨its, rv, pl, hz⟩ := I.list hs
  obtain ⟨u, rfl, ru⟩ := vals1 r
  cases ru
  obtain ⟨b1, b2⟩ := refs_back rv fun x m => let ⟨c, e, _⟩ := hx x m; ⟨c, e⟩
  have al : ∀ v ∈ its, Is3 s.heap v (k (backV v)) := by
    intro v m
    obtain ⟨c, rfl⟩ := b2 v m
    obtain ⟨c', e, hc⟩ := hx (V.ref c) (by rw [b1]; exact List.mem_map.mpr ⟨_, m, rfl⟩)
    cases e
    obtain ⟨_, its2, r2, ob, ho, hcl, n, hd⟩ := I.hok _ _ hc
    cases r2 with
    | cons q1 r2 =>
      cases r2 with
      | cons q2 r2 =>
        cases r2 with
        | cons q3 r2 =>
          cases r2
          obtain ⟨t1, rfl⟩ := q1
          obtain ⟨t2, rfl⟩ := q2
          obtain ⟨t3, rfl⟩ := q3
          exact ⟨c, ob, t1, t2, t3, n, rfl, ho, hcl, hd⟩
  have hz' : its.length ≤ sizeLine := rv.length ▸ hz
  refine SrtO.sorted_ord (swo3 fun v => k (backV v)) pl.isList hz' (fun h2 h1 a ha mv => ?_) fun out g1 g2 => ?_
  · refine sortable3 (s := { s with heap := h1 }) (Nat.lt_of_lt_of_le (by decide) h2) (fun v m => (al v m).move fun c ob e _ => (mv c ob e).2) fun ob e => ?_
    rw [show ob = seqObj "list" its.toArray 0 from Option.some.inj (e.symm.trans ha)]
    exact fun z => absurd (Value.type.inj z) (by decide)
  · have m3 : ∀ v ∈ out, ∃ c, v = Value.ref c := fun v m => b2 v (g2.perm.mem_iff.mp m)
    obtain ⟨n, hn⟩ := sortedAll_at s.heap its out.toArray
    have pm : (out.map backV).Perm xs := b1 ▸ g2.perm.map backV
    refine ⟨.ref (s.heap.objs.size + 1), upd H (s.heap.objs.size + 1) (.lst (out.map backV)), I.laid (t' := s.toks) (fun c ob e => sortedAll_old e) (Nat.le_succ _) ⟨?_, out, n, vals_back m3, hn⟩, rfl, q _ _ (SrtO.srtd_map g1) pm (I.hok.fresh (Nat.le_succ _))⟩
    rw [pm.length_eq]
    exact hz
end EHR

/-! ## EHR2 -/
/-! more words: xs.extend(a tuple); dicts of the top walked and copied; list(d.values()); C() -/
namespace EHR
open PySem
theorem extT_meets (l c : Addr) (xs ys : Array Value) (m k : Nat) (dc : Option Addr) (sl : Array (Option Value)) (h0 : ¬(!xs.isEmpty && Builtin.List.listTooLong (xs.size + ys.size)) = true) (h1 : xs.size ≤ sizeLine) (h2 : xs.size + ys.size ≤ sizeLine + 1) :
    Meets (Builtin.«list.extend» ⟨[.ref l, .ref c], []⟩) (fun _ R s => s.heap.get? l = some { cls := .type "list", dict := none, data := .seq xs m, slots := #[] } ∧
      s.heap.get? c = some { cls := .type "tuple", dict := dc, data := .seq ys k, slots := sl } ∧ R (.ok (.ret Value.none)) { s with heap := s.heap.update l (Obj.mapSeq fun x => x ++ ys) }) :=
  .of_wp fun prog w A R s q => by
    obtain ⟨hp, g, d, tk, os⟩ := s
    obtain ⟨e1, e2, q⟩ := q
    have a1 := AutoSeq1.idx_int
    have a2 := AutoSeq1.sub_tuple_tuple
    have a3 := AutoSeq1.sub_list_list
    have a4 := AutoSeq1.sub_tuple_list
    have a5 := AutoSeq1.sub_list_tuple
    have big : (xs ++ ys).size ≤ sizeLine + 1 := by rw [Array.size_append]; exact h2
    wp_walk using (wpAny_updateSeq e1 rfl (hz := h1) (_hz' := big)), AutoSeq1.wpAny_loadPart' e1, AutoSeq1.wpAny_loadPart' e2
    exact ⟨_, rfl, q⟩
end EHR
namespace EHR
open PySem PySem.Spec PyProof.Rows L2
/-- xs.extend(t), t a tuple that is tracked or of the top -/
def rExtT (K : PySem.W.Frag) : V → List V → Hp → VK → Prop := fun x vs H Q => ∃ (l c : Addr) (xs zs : List V), x = .ref l ∧ vs = [.ref c] ∧ H l = some (.lst xs) ∧ SqT K H c zs ∧ xs.length + zs.length ≤ sizeLine ∧ Q .non (upd H l (.lst (xs ++ zs)))
theorem mt_extendT {X : Cx} : MtM X "list.extend" (rExtT X.K) := by
  intro pins s σ H x vs v us Q I rx rv
  rintro ⟨l, c, xs, zs, rfl, rfl, hl, hc, hz, q⟩
  cases rx
  obtain ⟨u, rfl, ru⟩ := rv.one
  cases ru
  obtain ⟨z, its, n, r, len, e⟩ := I.lstM hl
  obtain ⟨its2, r2, ⟨⟨cl, dc, dt, sl⟩, e2, ec, k, ed⟩, _⟩ := I.tuple hc
  have ec : cl = .type "tuple" := ec
  have ed : dt = .seq its2.toArray k := ed
  subst ec ed
  have len2 := r2.length
  have room : its.toArray.size + its2.toArray.size ≤ sizeLine := by simp only [List.size_toArray]; omega
  refine call_meets F.slot_list_extend ⟨_, e, rfl⟩ F.entry_list_extend (F.args_list_extend_2 _ _) (extT_meets l c its.toArray its2.toArray n k dc sl ?_ (by omega) (by omega)) ⟨e, e2, ?_⟩
  · rw [notLongL room, Bool.and_false]
    exact Bool.false_ne_true
  · refine ⟨.non, _, I.lset (its' := its ++ its2) hl e (by simp) (r.append r2) ?_, rfl, q⟩
    rw [List.length_append]
    exact hz

/-- C(), the class under its name -/
theorem pe_mk0 {X : Cx} {k j : Nat} {C : Addr} {x : Str} {sp : Sp} {dvs : List V} {p pos : Pos} (c : C8.Mak X.prog X.w X.K X.mg X.base k x C sp dvs) (hr : Room j X.A) (hk : k + 1 ≤ j) (hg : Gl X x)
    (hdb : (x == ("__debug__" : Str)) = false := by decide) : PE X (.Call (.Name x p) [] [] pos) (tMake C sp dvs C8.E0 tNil) := by
  obtain ⟨f, fd, ps, ds, M, F, hm, b, d⟩ := c.ex
  exact pe_make0 M F (hr.mono hk) hg hm b d C8.pass0 hdb

/-! ### dicts of the top -/
/-- at d the top has written a dict with text keys -/
structure KD (K : PySem.W.Frag) (w : World) (d : Addr) (kvs : List (Str × V)) : Prop where
  ex : ∃ (es : Array DictEntry) (n : Nat), K.lookup d = some ⟨.type "dict", none, .dict es n, #[]⟩ ∧ PySem.W.KeysLit w.params es.toList ∧ Paired (fun (p : Str × V) (e : DictEntry) => Value.isStrOf p.1 e.key = true ∧ L2.RelV p.2 e.val) kvs es.toList
  low : (d == sysModules) = false
  nd : (kvs.map (·.1)).Nodup
def kk (kvs : List (Str × V)) : List (Key × V) := kvs.map fun p => (Sum.inr p.1, p.2)
theorem keys_lit {P : Program} {w : World} : ∀ {l : List DictEntry}, PySem.W.KeysLit w.params l → ∀ e ∈ l, ∃ k, (mixKind P w).is k e.key = true ∧ e.hash = (mixKind P w).hash k := by
  intro l h e m
  obtain ⟨x, t, e1, e2⟩ := h.all e m
  exact ⟨.inr x, by rw [e1]; exact keyIs_str x t, e2⟩
theorem kd_pairs {P : Program} {w : World} : ∀ {kvs : List (Str × V)} {l : List DictEntry}, Paired (fun (p : Str × V) (e : DictEntry) => Value.isStrOf p.1 e.key = true ∧ L2.RelV p.2 e.val) kvs l →
    ∃ vs : List (Key × Value), KV (kk kvs) vs ∧ Pairs (mixKind P w) l vs ∧ vs.map (·.1) = kvs.map fun p => Sum.inr p.1
  | _, _, .nil => ⟨[], .nil, .nil, rfl⟩
  | p :: kvs, e :: l, .cons r t => by
    obtain ⟨vs, h1, h2, h3⟩ := kd_pairs (P := P) (w := w) t
    refine ⟨(.inr p.1, e.val) :: vs, .cons ⟨rfl, r.2⟩ h1, .cons r.1 rfl h2, ?_⟩
    simp [h3]
theorem KD.at_ {X : Cx} {pins : List (Addr × Obj)} {σ : L2.St} {H : Hp} {s : Shared} {d : Addr} {kvs : List (Str × V)} (D : KD X.K X.w d kvs) (I : Inv X pins σ H s) :
    ∃ (o : Obj) (es : Array DictEntry) (n : Nat) (vs : List (Key × Value)), s.heap.get? d = some o ∧ o.ExactDict ∧ o.data = .dict es n ∧ es.size = kvs.length ∧ KV (kk kvs) vs ∧ s.heap.DictAt (mixKind X.prog X.w) d vs n := by
  obtain ⟨es, n, e, kl, pr⟩ := D.ex
  obtain ⟨vs, h1, h2, h3⟩ := kd_pairs (P := X.prog) (w := X.w) pr
  have hg := I.kIn d _ e
  have hl : kvs.length = es.toList.length := Paired.length pr
  refine ⟨_, es, n, vs, hg, ⟨rfl, rfl, rfl⟩, rfl, by rw [hl, Array.length_toList], h1, _, es, hg, ⟨rfl, rfl, rfl⟩, rfl, fun a m => keys_lit kl a (Array.mem_toList_iff.mpr m), h2, ?_⟩
  rw [h3]
  have nd := D.nd
  have e2 : (kvs.map fun p => (Sum.inr p.1 : Key)) = (kvs.map (·.1)).map Sum.inr := by rw [List.map_map]; rfl
  rw [e2]
  exact List.pairwise_map.mpr (nd.imp fun ne z => ne (Sum.inr.inj z))
/-- dict(d): a copy that is tracked -/
theorem call_dict_kd {X : Cx} {d : Addr} {kvs : List (Str × V)} (D : KD X.K X.w d kvs) (hs : kvs.length ≤ sizeLine) :
    CallR X (.type "dict") (fun xs H Q => xs = [.ref d] ∧ ∀ p, H p = none → Q (.ref p) (upd H p (.dK (kk kvs)))) := by
  intro pins s σ H xs us Q I r
  rintro ⟨rfl, q⟩
  obtain ⟨u, rfl, ru⟩ := vals1 r
  cases ru
  obtain ⟨o, es, n, vs, hg, hx, hd, hsz, kv, at_⟩ := D.at_ I
  have lk : (kk kvs).length ≤ sizeLine := by unfold kk; rw [List.length_map]; exact hs
  have l2 : (kk kvs).length = vs.length := Paired.length kv
  obtain ⟨o', es', g1, g2⟩ := id at_
  refine PySem.kt_call_dict (knd := mixKind X.prog X.w) (more := vs) D.low ⟨o', es', n, g1, g2⟩ (by rw [← l2]; exact lk) fun h' d' sb => ?_
  have nm : (s.heap.objs.size == sysModules) = false := beq_eq_false_iff_ne.mpr (Nat.ne_of_gt I.big)
  refine ⟨.ref s.heap.objs.size, upd H s.heap.objs.size (.dK (kk kvs)), I.laid (t' := s.toks) (fun b z e => (sb.2 b (Nat.ne_of_lt (Heap.lt_size e))).trans (Heap.get?_push_of_some _ e)) (Nat.le_refl _) ?_, rfl, q _ (I.hok.fresh (Nat.le_refl _))⟩
  exact (show ObjOk X.prog X.w _ _ _ (.dK (kk kvs)) from ⟨lk, nm, vs, kv, d'⟩)
/-- its keys, one by one -/
def Itq (kvs : List (Str × V)) : It := ⟨fun i _ => i < kvs.length, fun i H x H' => H' = H ∧ ∃ p, kvs[i]? = some p ∧ x = .str p.1, fun i _ => kvs.length ≤ i⟩
theorem walk_kkeys {kvs : List (Str × V)} : Walk (Itq kvs) kvs.length (fun _ => True) (fun i H x H' => H' = H ∧ ∃ p, kvs[i]? = some p ∧ x = .str p.1) :=
  ⟨fun _ _ l _ => l, fun _ _ => Nat.le_refl _, fun _ _ _ _ _ _ y => y⟩
theorem turn_kkeys {P : Program} {w : World} {K : PySem.W.Frag} {tg : Expr} {d it : Addr} {kvs : List (Str × V)} {n : Nat} (D : KD K w d kvs)
    (hn : ∀ es m, K.lookup d = some ⟨.type "dict", none, .dict es m, #[]⟩ → m = n) : Turn P w K tg (Itq kvs) [it] it (fun i h => h.IsKeyIter it d i kvs.length n) where
  mem := by simp
  obj := fun i h st b hb => by
    cases List.mem_singleton.mp hb
    obtain ⟨oi, e, c, dd⟩ := st
    exact ⟨oi, e, fun v z => by rw [dd] at z; cases z⟩
  keep := fun i h h' st k => st.at fun oi e => k it (List.mem_singleton.mpr rfl) oi e
  item := by
    intro X hP hw hK hc i pins s σ H E I hf st (hi : i < kvs.length)
    subst hP hw hK
    obtain ⟨f0, f1, f2, f3, f4, f5⟩ := hf it (List.mem_singleton.mpr rfl)
    obtain ⟨o, es, m, vs, hg, hx, hd, hsz, kv, at_⟩ := D.at_ I
    obtain ⟨es2, m2, lk2, _⟩ := D.ex
    have em : m = n := by
      have e := I.kIn d _ lk2
      rw [hg] at e
      cases e
      cases hd
      exact hn _ _ lk2
    subst em
    have hk : (kk kvs)[i]? = some (Sum.inr kvs[i].1, kvs[i].2) := by
      unfold kk
      rw [List.getElem?_map, List.getElem?_eq_getElem hi]
      rfl
    obtain ⟨u, hu, ru⟩ := kv_get kv hk
    have hl : kvs.length = vs.length := by
      have := Paired.length kv
      unfold kk at this
      rw [List.length_map] at this
      exact this
    rw [hl] at st
    refine wpAny_pyNext_dict_item st at_ hu fun key h' hkey st' sb => ?_
    have I1 : Inv X pins σ H { s with heap := h' } := I.turned (t' := s.toks) (fun b ob hb e => (sb.2 b hb).trans e) f0 f1 f3 f4 f5
    obtain ⟨oi, e, c, dd⟩ := id st'
    refine ⟨key, rfl, go_of (s := { s with heap := h' }) e c dd (by decide) ⟨.str kvs[i].1, H, I1, relV_key (show keyIs (Sum.inr kvs[i].1) key = true from hkey), ⟨rfl, kvs[i], List.getElem?_eq_getElem hi, rfl⟩, ?_, fun b hb => (hf b hb).1⟩⟩
    show h'.IsKeyIter it d (i + 1) kvs.length _
    rw [hl]
    exact st'
  done := by
    intro X hP hw hK hc i pins s σ H E I hf st (hi : kvs.length ≤ i)
    subst hP hw hK
    obtain ⟨f0, f1, f2, f3, f4, f5⟩ := hf it (List.mem_singleton.mpr rfl)
    obtain ⟨o, es, m, vs, hg, hx, hd, hsz, kv, at_⟩ := D.at_ I
    obtain ⟨es2, m2, lk2, _⟩ := D.ex
    have em : m = n := by
      have e := I.kIn d _ lk2
      rw [hg] at e
      cases e
      cases hd
      exact hn _ _ lk2
    subst em
    exact next_key_end (I.ok.hd hc) st hg hd hsz hi fun h' eb => ⟨rfl, I.turned (t' := s.toks) (fun b ob hb e => eb b ob hb e) f0 f1 f3 f4 f5⟩
  self := fun A i s Q E st h => wpAny_pyIter_keyiter st h
def iKk (d : Addr) (kvs : List (Str × V)) (te : TE) : TI := fun σ H R => te σ H fun x H1 => x = .ref d ∧ R (Itq kvs) H1
theorem pi_kkeys {X : Cx} {tg e : Expr} {te : TE} {d : Addr} {kvs : List (Str × V)} (D : KD X.K X.w d kvs) (he : PE X e te) : PI X tg e (iKk d kvs te) := by
  refine ⟨fun pins s σ H R I h => ?_⟩
  refine thn (he.run pins s σ H _ I h) fun u s1 ⟨x, H1, I1, rx, ex, q⟩ => ?_
  subst ex
  cases rx
  obtain ⟨o, es, m, vs, hg, hx, hd, hsz, kv, at_⟩ := D.at_ I1
  refine iter_keys D.low hg hx hd (pi_one (tk := s1.toks) I1 _ (turn_kkeys (n := m) D fun es2 m2 lk2 => ?_) ⟨_, Heap.get?_push_size _ rfl, rfl, ?_⟩ q)
  · have e := I1.kIn d _ lk2
    rw [hg] at e
    cases e
    cases hd
    rfl
  · rw [hsz] <;> rfl

/-! ### d.values() as a value; list of it -/
/-- a view of the values of d -/
def ViewO (v d : Addr) : HO := .ext fun h => h.IsValuesView v d
def tVals (td : TE) : TE := fun σ H Q => td σ H fun x H1 => ∃ (d : Addr) (kvs : List (Key × V)), x = .ref d ∧ Rd H1 d (.dK kvs) ∧ ∀ p, H1 p = none → Q (.ref p) (upd H1 p (ViewO p d))
theorem view_ok {P : Program} {w : World} {H : Hp} {h : Heap} {v d : Addr} (e : h.IsValuesView v d) : ObjOk P w H h v (ViewO v d) := by
  obtain ⟨o, ho, r⟩ := id e
  exact ⟨e, ⟨o, ho⟩, fun h1 h2 ⟨o1, e1, r1⟩ k => ⟨o1, k o1 e1, r1⟩⟩
theorem view_of {P : Program} {w : World} {H : Hp} {h : Heap} {v d : Addr} (hok : HOk P w H h) (e : H v = some (ViewO v d)) : h.IsValuesView v d := (hok v _ e).1
theorem pe_vals {X : Cx} {e : Expr} {td : TE} {apos cpos : Pos} (he : PE X e td) (hbase : attributeBase e "values" X.env (eval e X.env) = eval e X.env := by rfl) (hline : (apos.endLine == cpos.line) = true := by rfl) :
    PE X (.Call (.Attribute e "values" apos) [] [] cpos) (tVals td) := by
  refine ⟨fun pins s σ H Q I h => ?_⟩
  refine wpAny_Call_method (T := "dict") (id := "dict.values") hbase rfl hline F.plainAttrs_dict F.slot_dict_values F.type_dict_values (thn (he.run pins s σ H _ I h) fun u s1 ⟨x, H1, I1, rx, d, kvs, ex, hd, q⟩ => ?_)
  subst ex
  cases rx
  obtain ⟨z, lo, vs, rel, dd⟩ := dk_rd I1.hok hd
  refine ⟨dd.typeIs, dd.mapOf.noDict, ?_⟩
  have at_ : (s1.heap.push { cls := .type "dict_values", data := .fields #[.ref d] }).get? s1.heap.objs.size = some _ := Heap.get?_push_size _ rfl
  have I2 : Inv X pins σ (upd H1 s1.heap.objs.size (ViewO s1.heap.objs.size d)) { s1 with heap := s1.heap.push { cls := .type "dict_values", data := .fields #[.ref d] } } :=
    I1.laid (t' := s1.toks) (fun b ob g => Heap.get?_push_of_some _ g) (Nat.le_refl _) (view_ok ⟨_, at_, rfl, rfl⟩)
  show wpAny _ _ (callWith cpos (.builtin "dict.values") [.ref d] [] []) _ X.xe s1
  refine method_meetsIn F.slot_dict_values F.entry_dict_values rfl (PySem.evalArgs_none ⟨rfl, dd.typeIs, F.args_dict_values_1 _, _, meets_dict_values (mixKind X.prog X.w) d lo, ⟨vs, dd⟩, ?_⟩)
  exact ⟨.ref s1.heap.objs.size, _, I2, rfl, q _ (I1.hok.fresh (Nat.le_refl _))⟩
/-- list(v), v such a view -/
theorem call_list_view {X : Cx} (hc : X.calm = true) : CallR X (.type "list") (fun xs H Q => ∃ (v d : Addr) (kvs : List (Key × V)), xs = [.ref v] ∧ H v = some (ViewO v d) ∧ Rd H d (.dK kvs) ∧ ∀ p, H p = none → Q (.ref p) (upd H p (.lst (kvs.map (·.2))))) := by
  intro pins s σ H xs us Q I r
  rintro ⟨v, d, kvs, rfl, hv, hd, q⟩
  obtain ⟨u, rfl, ru⟩ := vals1 r
  cases ru
  obtain ⟨z, lo, vs, rel, dd⟩ := dk_rd I.hok hd
  obtain ⟨ep, hat⟩ := dd.dictAt
  have hl : kvs.length = vs.length := Paired.length rel
  refine PySem.W.kdl_call (PySem.W.kdl_values (knd := mixKind X.prog X.w) (kvs := vs) (ep := ep)) (I.ok.hd hc) ⟨view_of I.hok hv, hat⟩ (by rw [← hl]; exact z) fun h' tk acc c' hk hD hacc => ?_
  have ea : acc.toList = vs.map (·.2) := PySem.W.kdl_vals_eq acc.toList (by rw [Array.length_toList]; exact hacc.1) fun j x e => hacc.2 j x (by rw [← Array.getElem?_toList]; exact e)
  have hv2 : Vals (kvs.map (·.2)) acc.toList := by
    rw [ea]
    clear hk hD hacc ea hat dd hd hl q z
    induction rel with
    | nil => exact .nil
    | cons a b ih => exact .cons a.2 ih
  refine ⟨.ref s.heap.objs.size, upd H s.heap.objs.size (.lst (kvs.map (·.2))), I.laid (t' := tk) hk (Nat.le_refl _) ?_, rfl, q _ (I.hok.fresh (Nat.le_refl _))⟩
  exact (show ObjOk X.prog X.w _ _ _ (.lst (kvs.map (·.2))) from ⟨by rw [List.length_map]; exact z, acc.toList, c', hv2, by rw [Array.toArray_toList]; exact hD⟩)
end EHR

/-! ## EHR3 -/
/-! enumerate(xs, start=1), xs a list -/
namespace EHR
open PySem
open Sem (wp)
theorem en_type (u v : Value) : checkTypeCall "enumerate" ⟨[u], [(Str.ofString "start", v)]⟩ = pure () := by kernel_rfl
theorem en_new (u v : Value) : checkBuiltinCall "enumerate.__new__" ⟨[.type "enumerate", u], [(Str.ofString "start", v)]⟩ = pure () := by kernel_rfl
theorem en_init (a u v : Value) : argsOk "object.__init__" ⟨[a, u], [(Str.ofString "start", v)]⟩ := by
  unfold argsOk
  rw [signature?_of (id := "object.__init__") (n := ['_', '_', 't', 'i', 'n', 'i', '_', '_']) (o := ['t', 'c', 'e', 'j', 'b', 'o']) (by kernel_rfl) F.owner_object]
  kernel_rfl
theorem init_kw {T newId : String} {self u : Value} {kw : List (Str × Value)} (hl : typeLookup (.type T) "__init__" = pure (some (.builtin "object.__init__")))
    (hm : Bind.madeBy (.type T) = pure (some newId)) (hne : (some newId != some "object.__new__") = true) :
    Meets (Builtin.«object.__init__» ⟨[self, u], kw⟩) (fun _ R s => s.TypeIs self T ∧ R (.ok (.ret .none)) s) := by
  refine Meets.of_wp fun prog w A R s hs => ?_
  obtain ⟨hT, hq⟩ := hs
  repeat (any_goals (first | assumption | wp_step))
  exact ⟨_, rfl, hq⟩
theorem enS_meets (l : Addr) (xs : Array Value) (n : Nat) (dc : Option Addr) (sl : Array (Option Value)) (t : Tok) :
    Meets (Builtin.«enumerate.__new__» ⟨[.type "enumerate", .ref l], [(Str.ofString "start", .int 1 t)]⟩) (fun _ R s => s.heap.get? l = some { cls := .type "list", dict := dc, data := .seq xs n, slots := sl } ∧
      R (.ok (.ret (.ref (s.heap.push { cls := .type "list_iterator", data := .fields #[.ref l, .int 0 0] }).objs.size)))
        { s with heap := (s.heap.push { cls := .type "list_iterator", data := .fields #[.ref l, .int 0 0] }).push { cls := .type "enumerate", data := .fields #[.none, .bool false, .ref s.heap.objs.size, rawInt 1, .none, .none] } }) :=
  .of_wp fun prog w A R s q => by
    obtain ⟨hp, g, d, tk, os⟩ := s
    obtain ⟨e1, q⟩ := q
    have a1 := sub_enumerate
    have a2 : Heap.IsList (Shared.heap ⟨hp, g, d, tk, os⟩) l xs := ⟨_, e1, rfl, n, rfl⟩
    have a3 := AutoSeq1.idx_int
    have a4 : (Str.ofString "start" == Str.ofString "start") = true := by decide +kernel
    wp_walk using AutoSeq1.wpAny_loadPart' e1
    refine wpAny_stack_any fun st => wpAny_pure ?_
    split
    · rename_i c _ _ _ _ _
      cases (c == Value.type "enumerate")
      · wp_walk using AutoSeq1.wpAny_loadPart' e1, wpAny_pyIter_list a2
        exact ⟨_, rfl, q⟩
      · wp_walk using AutoSeq1.wpAny_loadPart' e1, wpAny_pyIter_list a2
        exact ⟨_, rfl, q⟩
    · wp_walk using AutoSeq1.wpAny_loadPart' e1, wpAny_pyIter_list a2
      exact ⟨_, rfl, q⟩

section
variable {prog : Program} {w : World} {A : Around} {E : Value → Shared → Prop} {s : Shared}
/-- T(u, k = v), T a built-in type without an __init__ of its own -/
theorem call_type_kw {T newId : String} {Bn : Builtin} {u : Value} {kw : List (Str × Value)} {S : Spec} {Q : Value → Shared → Prop} (ft : TypeCalled T newId "object.__init__") (hne : (some newId != some "object.__new__") = true)
    (hct : checkTypeCall T ⟨[u], kw⟩ = pure ()) (hcn : checkBuiltinCall newId ⟨[.type T, u], kw⟩ = pure ()) (hok : ∀ a, argsOk "object.__init__" ⟨[a, u], kw⟩) (en : entryFor table newId = some Bn) (g : Meets (Bn ⟨[.type T, u], kw⟩) S)
    (h : S A.in1 (wants (fun a s1 => s1.TypeIs a T ∧ Q a s1) E) s) : wpAny (model prog w) A (call (.type T) [u] kw) Q E s := by
  obtain ⟨c, tl, hmro⟩ := ft.mro
  have b1 := ft.made
  have b2 := ft.sub
  have b3 := ft.notType
  have b4 := ft.canCreate
  refine wpAny_call (codeAny_of_tree ?_)
  show wpAny _ _ (callAny (.type T) _) _ _ _
  refine wpAny_pure ⟨Code.quiet_builtin _ (by decide +kernel), codeAny_builtin F.entry_type_call ?_⟩
  rw [Around.under_plain (weight_type_call_type T [u] kw) (units_type_call_type T [u] kw)]
  repeat (any_goals (first | assumption | wp_step))
  refine codeAny_mono (codeAny_call_builtin ft.plain en (wpAny_of_eq hcn (g prog w A.in1 _ s h))) fun r s1 hr => ?_
  match r, hr with
  | .error e, hr => exact hr
  | .ok (.ret a), hr =>
    obtain ⟨hT, q⟩ := hr
    have c1 := ft.init.lookup
    have c2 := ft.init.bind a
    repeat (any_goals (first | assumption | wp_step))
    refine codeAny_mono (codeAny_call_builtin (R := wants (fun r s2 => r = .none ∧ Q a s2) E) ft.init.plain F.entry_object_init (ft.init.check _ _ _ _ _ _ _ _ hT (hok a) (init_kw c1 b1 hne prog w A.in1 _ s1 ⟨hT, ⟨rfl, q⟩⟩))) fun r2 s2 hr2 => ?_
    match r2, hr2 with
    | .error e, hr2 => exact hr2
    | .ok (.ret z), hr2 =>
      obtain ⟨rfl, q2⟩ := hr2
      repeat (any_goals (first | assumption | wp_step))
    | .ok .next, hr2 => exact hr2.elim
    | .ok .brk, hr2 => exact hr2.elim
    | .ok .cont, hr2 => exact hr2.elim
  | .ok .next, hr => exact hr.elim
  | .ok .brk, hr => exact hr.elim
  | .ok .cont, hr => exact hr.elim
theorem call_enS {l : Addr} {xs : Array Value} {t : Tok} {Q : Value → Shared → Prop} (hL : s.heap.IsList l xs)
    (h : ∀ h', IsEnum h' (s.heap.objs.size + 1) s.heap.objs.size 1 .none → h'.IsListIter s.heap.objs.size l 0 → (∀ b o, s.heap.get? b = some o → h'.get? b = some o) → Q (.ref (s.heap.objs.size + 1)) { s with heap := h' }) :
    wpAny (model prog w) A (call (.type "enumerate") [.ref l] [(Str.ofString "start", .int 1 t)]) Q E s := by
  obtain ⟨⟨c, dc, dt, sl⟩, e1, ec, n, ed⟩ := hL
  have ec : c = .type "list" := ec
  have ed : dt = .seq xs n := ed
  subst ec ed
  refine call_type_kw F.called_enumerate (by decide) (en_type _ _) (en_new _ _) (fun a => en_init a _ _) F.entry_enumerate_new (enS_meets l xs n dc sl t) ⟨e1, ?_⟩
  have z1 : (s.heap.push { cls := .type "list_iterator", data := .fields #[.ref l, .int 0 0] }).objs.size = s.heap.objs.size + 1 := Heap.size_push ..
  have z2 := Heap.get?_push_size (s.heap.push { cls := .type "list_iterator", data := .fields #[.ref l, .int 0 0] }) (o := { cls := .type "enumerate", data := .fields #[.none, .bool false, .ref s.heap.objs.size, rawInt 1, .none, .none] }) rfl
  show _ ∧ _
  rw [z1] at z2 ⊢
  exact ⟨⟨_, z2, rfl⟩, h _ z2 ⟨_, Heap.get?_push_of_some _ (Heap.get?_push_size _ rfl), rfl, rfl⟩ fun b o g => Heap.get?_push_of_some _ (Heap.get?_push_of_some _ g)⟩
/-- what one draws behind the first place -/
theorem shifted {it : Addr} {fp : List Addr} {n : Nat} {P : Nat → Value → Prop} {St : Nat → Heap → Prop} (D : Draws prog w A it fp n P St) :
    Draws prog w A it fp (n + 1) (fun i v => P (i - 1) v) (fun i h => 1 ≤ i ∧ St (i - 1) h) where
  live := fun i h st => D.live _ _ st.2
  frame := fun i h h' st k => ⟨st.1, D.frame _ _ _ st.2 k⟩
  item := fun i s Q E hi st hQ => by
    obtain ⟨h1, st⟩ := st
    refine D.item (i - 1) s Q E (by omega) st fun x h' tk p st' sb => hQ x h' tk p ⟨by omega, ?_⟩ sb
    rw [show i + 1 - 1 = i - 1 + 1 by omega]
    exact st'
  done := fun s Q E st hE => D.done s Q E st.2 hE
end
end EHR

/-! ## EHR4 -/
/-! what an iterator over a dict's values gives to enumerate -/
namespace EHR
open PySem
open Sem (wp)
section
variable {prog : Program} {w : World} {A : Around} {E : Value → Shared → Prop} {s : Shared}
theorem valsNext_item {it d : Addr} {i m : Nat} {es : Array DictEntry} {en : DictEntry} {Q : Value → Shared → Prop} (a1 : s.heap.IsValIter it d i es.size m) (a2 : s.heap.DictRaw d es m) (a3 : es[i]? = some en)
    (hQ : ∀ h', h'.IsValIter it d (i + 1) es.size m → Heap.SameBut it s.heap h' → Q en.val { s with heap := h' }) : wpAny (model prog w) A (Builtin.SmallTypes.nextOf (.ref it)) Q E s := by
  obtain ⟨oi, b1, b2, b3⟩ := id a1
  obtain ⟨od, c1, c2, c3⟩ := id a2
  obtain ⟨lt, le⟩ := Array.getElem?_eq_some_iff.mp a3
  unfold Builtin.SmallTypes.nextOf
  refine wpAny_bind (wpAny_callSpecial?_slot (name := Str.ofString "__next__") a1.typeIs F.slot_dict_valueiterator_next (wpAny_call_entry F.slot_dict_valueiterator_next a1.typeIs F.entry_dict_valueiterator_next ?_ (F.args_dict_valueiterator_next_1 _)))
  have own : Builtin.Dict_items.ownsTuple "dict_valueiterator" = false := by decide
  refine wpAny_bind (wpAny_pure (wpAny_bind (wpAny_bind ?_)))
  first | refine wpAny_bind (wpAny_typeNameOfWhole_valiter a1.typeIs (wpAny_pure ?_)) | refine wpAny_bind (wpAny_typeNameOf_valiter a1.typeIs (wpAny_pure ?_))
  refine wpAny_bind (wpAny_fieldsOf b1 b3 ?_)
  simp only [own, Bool.false_eq_true, if_false]
  show wpAny _ _ (if (Value.ref d == Value.none) = true then _ else _) _ _ s
  rw [if_neg (show ¬ ((Value.ref d == Value.none) = true) from Bool.false_ne_true)]
  refine wpAny_bind (wpAny_pure (wpAny_bind (wpAny_dictEntries c1 c3 ?_)))
  rw [if_neg (by simp)]
  refine wpAny_bind (wpAny_pure (wpAny_bind (wpAny_dictEpoch c1 c3 ?_)))
  rw [if_neg (by simp)]
  refine wpAny_pure ?_
  simp only [show ¬ ((i : Int) < 0) from by omega, if_false, Int.toNat_natCast, Array.getElem?_eq_getElem lt]
  refine wpAny_bind ?_
  first | refine wpAny_bind (wpAny_typeNameOfWhole_valiter a1.typeIs (wpAny_pure ?_)) | refine wpAny_bind (wpAny_typeNameOf_valiter a1.typeIs (wpAny_pure ?_))
  refine wpAny_bind (wpAny_isOneOf_valiter a1.typeIs ?_)
  show wpAny _ _ (setField (.ref it) 1 (rawInt ((i : Int) + 1)) >>= _) _ _ s
  refine wpAny_bind (wpAny_setField b1 b3 (by simp) (wpAny_bind (wpAny_holding ?_)))
  have g : (s.heap.update it (Obj.mapFields (·.setIfInBounds 1 (rawInt ((i : Int) + 1))))).IsValIter it d (i + 1) es.size m :=
    ⟨_, Heap.get?_update_self _ b1 (Obj.isFreed_of_fields (Obj.data_mapFields b3 _)), (Obj.cls_mapFields ..).trans b2, by rw [Obj.data_mapFields b3]; simp [rawInt]⟩
  refine wpAny_bind (wpAny_isOneOf_valiter (s := { s with heap := s.heap.update it (Obj.mapFields (·.setIfInBounds 1 (rawInt ((i : Int) + 1)))) }) g.typeIs ?_)
  refine wpAny_bind (wpAny_isOneOf_valiter (s := { s with heap := s.heap.update it (Obj.mapFields (·.setIfInBounds 1 (rawInt ((i : Int) + 1)))) }) g.typeIs ?_)
  show wpAny _ _ (pure es[i].val) _ _ _
  rw [le]
  exact wpAny_pure (wpAny_pure ⟨_, rfl, wpAny_pure (hQ _ g (Heap.SameBut.update ..))⟩)
theorem valsNext_endGe {it d : Addr} {i m : Nat} {es : Array DictEntry} {Q : Value → Shared → Prop} (hh : A.handled = none) (a1 : s.heap.IsValIter it d i es.size m) (a2 : s.heap.DictRaw d es m) (hge : es.size ≤ i)
    (hE : ∀ h' e, Heap.ExtBut it s.heap h' → (∃ o, h'.get? e = some o ∧ o.cls = .type "StopIteration") → E (.ref e) { s with heap := h' }) : wpAny (model prog w) A (Builtin.SmallTypes.nextOf (.ref it)) Q E s := by
  obtain ⟨oi, b1, b2, b3⟩ := id a1
  obtain ⟨od, c1, c2, c3⟩ := id a2
  unfold Builtin.SmallTypes.nextOf
  refine wpAny_bind (wpAny_callSpecial?_slot (name := Str.ofString "__next__") a1.typeIs F.slot_dict_valueiterator_next (wpAny_call_entry F.slot_dict_valueiterator_next a1.typeIs F.entry_dict_valueiterator_next ?_ (F.args_dict_valueiterator_next_1 _)))
  have own : Builtin.Dict_items.ownsTuple "dict_valueiterator" = false := by decide
  refine wpAny_bind (wpAny_pure (wpAny_bind (wpAny_bind ?_)))
  first | refine wpAny_bind (wpAny_typeNameOfWhole_valiter a1.typeIs (wpAny_pure ?_)) | refine wpAny_bind (wpAny_typeNameOf_valiter a1.typeIs (wpAny_pure ?_))
  refine wpAny_bind (wpAny_fieldsOf b1 b3 ?_)
  simp only [own, Bool.false_eq_true, if_false]
  show wpAny _ _ (if (Value.ref d == Value.none) = true then _ else _) _ _ s
  rw [if_neg (show ¬ ((Value.ref d == Value.none) = true) from Bool.false_ne_true)]
  refine wpAny_bind (wpAny_pure (wpAny_bind (wpAny_dictEntries c1 c3 ?_)))
  rw [if_neg (by simp)]
  refine wpAny_bind (wpAny_pure (wpAny_bind (wpAny_dictEpoch c1 c3 ?_)))
  rw [if_neg (by simp)]
  refine wpAny_pure ?_
  simp only [show ¬ ((i : Int) < 0) from by omega, if_false, Int.toNat_natCast, Array.getElem?_eq_none hge]
  refine wpAny_bind ?_
  first | refine wpAny_bind (wpAny_typeNameOfWhole_valiter a1.typeIs (wpAny_pure ?_)) | refine wpAny_bind (wpAny_typeNameOf_valiter a1.typeIs (wpAny_pure ?_))
  show wpAny _ _ (setField (.ref it) 0 .none >>= _) _ _ s
  refine wpAny_bind (wpAny_setField b1 b3 (by simp) ?_)
  show wpAny _ _ (newExc (.type "StopIteration") [] >>= _) _ _ _
  refine wpAny_bind ?_
  simp only [newExc, newTuple]
  refine wpAny_bind (wpAny_newObj_type ?_ (by size_fits))
  refine wpAny_bind (m := firstArgMember _ _) (wpAny_of_eq (a := Value.none) (by first | rfl | (simp only [firstArgMember]; rfl)) ?_)
  refine wpAny_newObj_type ?_ (by size_fits)
  simp only [raiseNew]
  refine wpAny_bind (wpAny_handled ?_)
  first | rw [show A.in1.handled = none from hh] | rw [hh]
  refine wpAny_bind (wpAny_pure (wpAny_throw ?_))
  exact hE _ _ (((Heap.SameBut.update ..).extBut.push _).push _) ⟨_, Heap.get?_push_size _ rfl, rfl⟩
end
theorem drawsVals {prog : Program} {w : World} {A : Around} (hh : A.handled = none) (it d : Addr) (hne : d ≠ it) (es : Array DictEntry) (m : Nat) :
    Draws prog w A it [it, d] es.size (fun i v => ∃ en, es[i]? = some en ∧ v = en.val) (fun i h => h.IsValIter it d i es.size m ∧ h.DictRaw d es m) where
  live := fun _ _ st => let ⟨o, ho, _⟩ := st.1; ⟨o, ho⟩
  frame := fun _ _ _ st hk => ⟨let ⟨o, ho, r⟩ := st.1; ⟨o, hk it (by simp) o ho, r⟩, st.2.at fun o e => hk d (by simp) o e⟩
  item := fun i s Q E hi st hQ => valsNext_item st.1 st.2 (Array.getElem?_eq_getElem hi) fun h' g sb => hQ _ h' s.toks ⟨_, Array.getElem?_eq_getElem hi, rfl⟩ ⟨g, st.2.at fun o e => (sb.2 d hne).trans e⟩ sb
  done := fun s Q E st hE => valsNext_endGe hh st.1 st.2 (Nat.le_refl _) hE
theorem enV_meets (v d : Addr) (es : Array DictEntry) (m : Nat) :
    Meets (Builtin.«enumerate.__new__» ⟨[.type "enumerate", .ref v], []⟩) (fun _ R s => s.heap.IsValuesView v d ∧ s.heap.DictRaw d es m ∧
      R (.ok (.ret (.ref (s.heap.objs.size + 1))))
        { s with heap := (s.heap.push { cls := .type "dict_valueiterator", data := .fields #[.ref d, .int 0 0, .int es.size 0, .int m 0] }).push { cls := .type "enumerate", data := .fields #[.none, .bool false, .ref s.heap.objs.size, rawInt 0, .none, .none] } }) :=
  .of_wp fun prog w A R s q => by
    obtain ⟨hp, g, dr, tk, os⟩ := s
    obtain ⟨e1, e2, q⟩ := q
    have a1 := sub_enumerate
    have z1 : (hp.push { cls := .type "dict_valueiterator", data := .fields #[.ref d, .int 0 0, .int es.size 0, .int m 0] }).objs.size = hp.objs.size + 1 := Heap.size_push ..
    obtain ⟨ov, ho1, ho2, ho3⟩ := id e1
    wp_walk using wpAny_pyIter_values_raw e1 e2, AutoSeq1.wpAny_loadPart' ho1
    refine wpAny_stack_any fun st => wpAny_pure ?_
    split
    · rename_i c _ _ _ _ _
      cases (c == Value.type "enumerate")
      · wp_walk using wpAny_pyIter_values_raw e1 e2
        exact ⟨_, rfl, by rw [z1]; exact q⟩
      · wp_walk using wpAny_pyIter_values_raw e1 e2
        exact ⟨_, rfl, by rw [z1]; exact q⟩
    · wp_walk using wpAny_pyIter_values_raw e1 e2
      exact ⟨_, rfl, by rw [z1]; exact q⟩
end EHR

/-! ## EHR5 -/
/-! for i, x in enumerate(..): as words of the layer -/
namespace EHR
open PySem PySem.Spec PyProof.Rows L2
/-- places from z on, with what X tells of each -/
def Itp (n : Hp → Nat → Prop) (z : Nat) (Y : Nat → Hp → V → Prop) (go : Nat → Hp → Prop) : It :=
  ⟨go, fun i H v H' => ∃ T x, v = .ref T ∧ H T = none ∧ H' = upd H T (.tup [.int ((i + z : Nat) : Int), x]) ∧ Y i H x, fun i H => n H i⟩
/-- enumerate(xs, start=1): the list at a, as it stands -/
def It1 (K : PySem.W.Frag) (a : Addr) : It := Itp (fun H i => ∃ xs : List V, SqL K H a xs ∧ xs.length ≤ i) 1 (fun i H x => ∀ xs, SqL K H a xs → xs[i]? = some x) (fun i H => ∃ (xs : List V) (x : V), SqL K H a xs ∧ xs[i]? = some x)
/-- enumerate(d.values()): the locked dict at d -/
def ItV (d : Addr) (o : Obj) (kvs : List (Key × V)) : It := Itp (fun H i => H d = some (.frz o (.dK kvs)) ∧ kvs.length ≤ i) 0 (fun i H x => ∃ k, kvs[i]? = some (k, x)) (fun i H => H d = some (.frz o (.dK kvs)) ∧ i < kvs.length)
theorem walk_1 {K : PySem.W.Frag} {a : Addr} {xs : List V} : Walk (It1 K a) xs.length (fun H => SqL K H a xs) (YPair (fun i => some (.int ((i + 1 : Nat) : Int))) (fun i => xs[i]?)) := by
  refine ⟨fun i _ hi q => ⟨xs, xs[i], q, by simp [hi]⟩, fun _ q => ⟨xs, q, Nat.le_refl _⟩, fun i H v H' _ q y => ?_⟩
  obtain ⟨T, x, h1, h2, h3, h4⟩ := y
  exact ⟨T, _, x, h1, h2, h3, rfl, h4 xs q⟩
theorem walk_V {d : Addr} {o : Obj} {kvs : List (Key × V)} : Walk (ItV d o kvs) kvs.length (fun H => H d = some (.frz o (.dK kvs))) (YPair (fun i => some (.int ((i : Nat) : Int))) (fun i => kvs[i]?.map Prod.snd)) := by
  refine ⟨fun i _ hi q => ⟨q, hi⟩, fun _ q => ⟨q, Nat.le_refl _⟩, fun i H v H' _ q y => ?_⟩
  obtain ⟨T, x, h1, h2, h3, k, h4⟩ := y
  exact ⟨T, _, x, h1, h2, h3, rfl, by simp [h4]⟩
section
variable {prog : Program} {w : World} {A : Around} {E : Value → Shared → Prop} {s : Shared}
/-- the end, whatever the count says -/
theorem enum_endAny {e it : Addr} {i : Int} {old : Value} {Q : Option Value → Shared → Prop} (he : IsEnum s.heap e it i old)
    (hn : wpAny (model prog w) A.in1 (Builtin.SmallTypes.nextOf (.ref it)) (fun _ _ => False) (fun x s' => ∃ h' : Heap × Addr, x = .ref h'.2 ∧ s' = { s with heap := h'.1 } ∧ Heap.ExtBut it s.heap h'.1 ∧ ∃ o, h'.1.get? h'.2 = some o ∧ o.cls = .type "StopIteration") s)
    (hQ : ∀ h', Heap.ExtBut it s.heap h' → Q none { s with heap := h' }) : wpAny (model prog w) A (pyNext (.ref e)) Q E s := by
  have hT : s.TypeIs (.ref e) "enumerate" := ⟨_, he, rfl⟩
  unfold pyNext
  refine wpAny_bind (wpAny_attempt (wpAny_callSpecial?_slot (name := Str.ofString "__next__") hT F.slot_enumerate_next
    (wpAny_call_entry F.slot_enumerate_next hT F.entry_enumerate_next ?_ (F.args_enumerate_next_1 _))))
  show wpAny _ _ (field (.ref e) 2 >>= _) _ _ _
  refine wpAny_bind (wpAny_field he rfl (x := .ref it) rfl (wpAny_bind (wpAny_mono hn (fun _ _ z => z.elim) fun x s' g => ?_)))
  obtain ⟨⟨h', a⟩, rfl, rfl, eb, o, ho, hc⟩ := g
  refine wpAny_bind (wpAny_isInstance (T := "StopIteration") (b := true) ⟨o, ho, hc⟩ isSubtype_stop ?_)
  exact wpAny_pure (hQ _ eb)
theorem enum_end0 {e it l : Addr} {i : Nat} {c : Int} {xs : Array Value} {old : Value} {Q : Option Value → Shared → Prop} (hh : A.handled = none) (he : IsEnum s.heap e it c old) (hit : s.heap.IsListIter it l i) (hl : s.heap.IsList l xs) (hx : xs[i]? = none)
    (hQ : ∀ h', Heap.ExtBut it s.heap h' → Q none { s with heap := h' }) : wpAny (model prog w) A (pyNext (.ref e)) Q E s :=
  enum_endAny he (wpAny_nextOf_list_end hh hit hl hx fun h' a eb g => ⟨⟨h', a⟩, rfl, rfl, eb, g⟩) hQ
theorem enumV_end0 {e it d : Addr} {i m : Nat} {c : Int} {es : Array DictEntry} {old : Value} {Q : Option Value → Shared → Prop} (hh : A.handled = none) (he : IsEnum s.heap e it c old) (hit : s.heap.IsValIter it d i es.size m) (hd : s.heap.DictRaw d es m) (hx : es.size ≤ i)
    (hQ : ∀ h', Heap.ExtBut it s.heap h' → Q none { s with heap := h' }) : wpAny (model prog w) A (pyNext (.ref e)) Q E s :=
  enum_endAny he (valsNext_endGe hh hit hd hx fun h' a eb g => ⟨⟨h', a⟩, rfl, rfl, eb, g⟩) hQ
end
/-- one turn of an enumerate at e over it, by what it draws -/
theorem pair_turn {X : Cx} {pins : List (Addr × Obj)} {σ : L2.St} {H : Hp} {s : Shared} {E : Value → Shared → Prop} {e it : Addr} {fp : List Addr} {n j i z : Nat} {x : V} {P : Nat → Value → Prop} {S : Nat → Heap → Prop} {old : Value} {elts : List Expr} {kq : Nat} {tpos : Pos}
    {Q : Option Value → Shared → Prop} {St' : Heap → Prop} (I : Inv X pins σ H s) (hf : ∀ b ∈ [e, it], FpOk X pins H b) (D : Draws X.prog X.w X.A.in1 it fp n P S) (he : IsEnum s.heap e it ((j : Nat) : Int) old) (hs : S j s.heap) (lt : j < n) (ne : e ≠ it) (nf : e ∉ fp) (hfp : it ∈ fp)
    (hx : ∀ v, P j v → L2.RelV x v) (ej : j = i + z)
    (hst : ∀ h' u, IsEnum h' e it (((j + 1 : Nat) : Nat) : Int) u → S (j + 1) h' → St' h')
    (fin : ∀ v s', wpAny (model X.prog X.w) X.A (letOwnedTupleGo (.Tuple elts kq tpos) (.ref e) v) (fun _ s2 => ∃ (y : V) (H' : Hp), Inv X pins σ H' s2 ∧ L2.RelV y v ∧ (∃ T, y = .ref T ∧ H T = none ∧ H' = upd H T (.tup [.int ((i + z : Nat) : Int), x])) ∧ St' s2.heap ∧ ∀ b ∈ [e, it], H' b = none) E s' → Q (some v) s') :
    wpAny (model X.prog X.w) X.A (pyNext (.ref e)) Q E s := by
  have el : e < s.heap.objs.size := Heap.lt_size he
  have il : it < s.heap.objs.size := by obtain ⟨o, ho⟩ := D.live _ _ hs; exact Heap.lt_size ho
  refine wpAny_pyNext_enum_itemD D he hs lt ne nf fun u h' tk p ho hs' hT hz hk => ?_
  refine fin _ _ (wpAny_letOwnedTupleGo_enum (s := { s with heap := h', toks := tk + 1 }) ho fun h2 he2 sb => ?_)
  have hT2 : h2.get? s.heap.objs.size = some { cls := .type "tuple", data := .seq #[.int j tk, u] } := (sb.2 _ (Nat.ne_of_gt el)).trans hT
  have new : ObjOk X.prog X.w (upd H s.heap.objs.size (.tup [.int ((i + z : Nat) : Int), x])) h2 s.heap.objs.size (.tup [.int ((i + z : Nat) : Int), x]) :=
    ⟨by show 2 ≤ sizeLine; decide, [.int j tk, u], .cons ⟨tk, by rw [ej]⟩ (.cons (hx u p) .nil), ⟨_, hT2, rfl, _, rfl⟩⟩
  refine ⟨.ref s.heap.objs.size, _, I.turnedNew (ch := [e, it]) (fun b ob hb g => (sb.2 b (fun q => hb (by simp [q]))).trans (hk b ob (fun q => hb (by simp [q])) (fun q => hb (by simp [q])) g)) hf (Nat.le_refl _) new, rfl, ⟨_, rfl, I.hok.fresh (Nat.le_refl _), rfl⟩, ?_, ?_⟩
  · refine hst h2 u ?_ (D.frame _ _ _ hs' fun b hb o g => (sb.2 b fun q => nf (q ▸ hb)).trans g)
    have e1 : ((j + 1 : Nat) : Int) = (j : Int) + 1 := by omega
    rw [e1]
    exact he2
  · intro b hb
    have hl : b < s.heap.objs.size := by
      rcases List.mem_cons.mp hb with q | q
      · exact q ▸ el
      · exact List.mem_singleton.mp q ▸ il
    rw [upd_ne (Nat.ne_of_lt hl)]
    exact (hf b hb).1
theorem turn_1 {P : Program} {w : World} {K : PySem.W.Frag} {elts : List Expr} {kq : Nat} {tpos : Pos} (a e it : Addr) :
    Turn P w K (.Tuple elts kq tpos) (It1 K a) [e, it] e (fun i h => (∃ old, IsEnum h e it ((i + 1 : Nat) : Int) old) ∧ h.IsListIter it a i ∧ e ≠ it ∧ a ≠ e ∧ a ≠ it) where
  mem := by simp
  obj := fun i h st b hb => by
    obtain ⟨⟨old, he⟩, ⟨o, ho, hc, hd⟩, _⟩ := st
    rcases List.mem_cons.mp hb with q | q
    · rw [q]
      exact ⟨_, he, fun v g => nomatch g⟩
    · rw [List.mem_singleton.mp q]
      exact ⟨o, ho, fun v g => by rw [hd] at g; cases g⟩
  keep := fun i h h' st k => let ⟨⟨old, he⟩, hi, r⟩ := st; ⟨⟨old, k e (by simp) _ he⟩, hi.at fun o q => k it (by simp) o q, r⟩
  item := by
    intro X hP hw hK hc i pins s σ H E I hf st hg
    subst hP hw hK
    obtain ⟨⟨old, he⟩, hit, n1, n2, n3⟩ := st
    obtain ⟨xs, x, hq, hx⟩ := hg
    obtain ⟨its, rv, p, hz⟩ := I.list hq
    obtain ⟨u, hu, ru⟩ := rv.get hx
    have lt : i < its.toArray.size := by
      have := (List.getElem?_eq_some_iff.mp hu).1
      rwa [List.size_toArray]
    refine pair_turn (z := 1) (i := i) (x := x) (St' := fun h => (∃ old, IsEnum h e it (((i + 1) + 1 : Nat) : Int) old) ∧ h.IsListIter it a (i + 1) ∧ e ≠ it ∧ a ≠ e ∧ a ≠ it) I hf (shifted (Draws.list (prog := X.prog) (w := X.w) (A := X.A.in1) (I.ok.hd hc) it a n3 its.toArray)) he ⟨by omega, hit, p.isList⟩ (Nat.succ_lt_succ lt) n1 ?_ (by simp) (fun v q => ?_) rfl (fun h' w1 g1 g2 => ⟨⟨w1, g1⟩, g2.2.1, n1, n2, n3⟩) fun v s' g => ⟨v, rfl, thn g ?_⟩
    · intro q
      rcases List.mem_cons.mp q with q | q
      · exact n1 q
      · exact n2 (List.mem_singleton.mp q).symm
    · have q : its.toArray[i]? = some v := q
      rw [List.getElem?_toArray, hu] at q
      exact Option.some.inj q ▸ ru
    · rintro _ s2 ⟨y, H', I', ry, ⟨T, e1, e2, e3⟩, g1, g2⟩
      refine ⟨y, H', I', ry, ⟨T, x, e1, e2, e3, fun ys hy => ?_⟩, g1, g2⟩
      rw [I.list_inj hy hq]
      exact hx
  done := by
    intro X hP hw hK hc i pins s σ H E I hf st hg
    subst hP hw hK
    obtain ⟨⟨old, he⟩, hit, n1, n2, n3⟩ := st
    obtain ⟨xs, hq, hx⟩ := hg
    obtain ⟨its, rv, p, hz⟩ := I.list hq
    obtain ⟨f0, f1, f2, f3, f4, f5⟩ := hf it (by simp)
    have hl := rv.length
    have hge : xs.length ≤ i := hx
    have hT : s.TypeIs (.ref e) "enumerate" := ⟨_, he, rfl⟩
    exact enum_end0 (I.ok.hd hc) he hit p.isList (by simp; omega) fun h' eb => ⟨rfl, I.turned (t' := s.toks) (fun b o hb q => eb b o hb q) f0 f1 f3 f4 f5⟩
  self := fun A i s Q E st h => let ⟨⟨_, he⟩, _⟩ := st; wpAny_pyIter_enum he h
def i1 (K : PySem.W.Frag) (ta tb : TA) : TI := fun σ H R => ta σ H fun vs H1 => tb σ H1 fun zs H2 => ∃ a xs, vs = [.ref a] ∧ zs = [.int 1] ∧ SqL K H2 a xs ∧ R (It1 K a) H2
theorem pi_enumS {X : Cx} {e b : Expr} {ta tb : TA} {p pos tpos kpos : Pos} {elts : List Expr} {kq : Nat} (hg : Gl X "enumerate") (hm : X.mg "enumerate" = none) (ha : PA X [e] ta) (hb : PK X [⟨some "start", b, kpos⟩] tb)
    (he : backTo pos (starEach [e] X.env) = (false, eval e X.env) :: backTo pos (starEach [] X.env) := by rfl) (hpl : (backTo pos (starEach [e] X.env)).any (·.1) = false := by rfl)
    (hall : (backToKw pos (keywordEach [⟨some "start", b, kpos⟩] X.env)).all (·.1.isSome) = true := by rfl) (hnone : (backToKw pos (keywordEach [⟨some "start", b, kpos⟩] X.env)).any (·.1.isNone) = false := by rfl)
    (hks : (backToKw pos (keywordEach [⟨some "start", b, kpos⟩] X.env)).filterMap (·.1) = [Str.ofString "start"] := by rfl) :
    PI X (.Tuple elts kq tpos) (.Call (.Name "enumerate" p) [e] [⟨some "start", b, kpos⟩] pos) (i1 X.K ta tb) := by
  refine ⟨fun pins s σ H R I h => ?_⟩
  refine wpAny_Call_Name_kw (ld_blt I hg hm boot_enumerate ?_)
  have step : wpAny (model X.prog X.w) X.A (spliced (backTo pos (starEach [e] X.env))) (fun us s1 => wpAny (model X.prog X.w) X.A (evalAll ((backToKw pos (keywordEach [⟨some "start", b, kpos⟩] X.env)).map (·.2)))
      (fun ws s2 => wpAny (model X.prog X.w) X.A (call (.type "enumerate") us (((backToKw pos (keywordEach [⟨some "start", b, kpos⟩] X.env)).filterMap (·.1)).zip ws)) (fun v s3 => wpAny (model X.prog X.w) X.A (pyIter v) (PIE X pins σ (.Tuple elts kq tpos) R) X.xe s3) X.xe s2) X.xe s1) X.xe s := by
    refine thn (ha.run pos pins s σ H _ I h) fun us s1 ⟨vs, H1, I1, r1, q1⟩ => thn (hb.run pos pins s1 σ H1 _ I1 q1) fun ws s2 ⟨zs, H2, I2, r2, q2⟩ => ?_
    obtain ⟨a, xs, rfl, rfl, hq, q⟩ := q2
    obtain ⟨u, rfl, ru⟩ := vals1 r1
    obtain ⟨u2, rfl, t, rfl⟩ := vals1 r2
    cases ru
    rw [hks]
    obtain ⟨its, rv, p', hz⟩ := I2.list hq
    have al : a < s2.heap.objs.size := p'.lt
    refine call_enS p'.isList fun h' g1 g2 hk => wpAny_pyIter_enum g1 ?_
    have I3 : Inv X pins σ H2 { s2 with heap := h' } := I2.kept (t' := s2.toks) hk
    refine ⟨s2.heap.objs.size + 1, [s2.heap.objs.size + 1, s2.heap.objs.size], _, _, H2, rfl, I3, turn_1 a (s2.heap.objs.size + 1) s2.heap.objs.size, ⟨⟨.none, g1⟩, g2, Nat.succ_ne_self _, Nat.ne_of_lt (Nat.lt_succ_of_lt al), Nat.ne_of_lt al⟩, fun c hc => ?_, q⟩
    have le : s2.heap.objs.size ≤ c := by
      rcases List.mem_cons.mp hc with q | q
      · exact q ▸ Nat.le_succ _
      · exact List.mem_singleton.mp q ▸ Nat.le_refl _
    exact I2.fpOk le (I2.hok.fresh le)
  have cw : wpAny (model X.prog X.w) X.A (callWith pos (.type "enumerate") [] (backTo pos (starEach [e] X.env)) (backToKw pos (keywordEach [⟨some "start", b, kpos⟩] X.env))) (fun v s3 => wpAny (model X.prog X.w) X.A (pyIter v) (PIE X pins σ (.Tuple elts kq tpos) R) X.xe s3) X.xe s := by
    unfold callWith
    have ea : wpAny (model X.prog X.w) X.A (evalArgs (.type "enumerate") true (backTo pos (starEach [e] X.env)) (backToKw pos (keywordEach [⟨some "start", b, kpos⟩] X.env)))
        (fun z s1 => wpAny (model X.prog X.w) X.A (call (.type "enumerate") ([] ++ z.pos) z.kw) (fun v s3 => wpAny (model X.prog X.w) X.A (pyIter v) (PIE X pins σ (.Tuple elts kq tpos) R) X.xe s3) X.xe s1) X.xe s := by
      rw [he] at step ⊢
      exact evalArgs_kwB hall step
    refine wpAny_bind (wpAny_holding (wpAny_mono ea (fun z s1 h1 => wpAny_bind (wpAny_standAt ?_)) fun _ _ x => x))
    simp only [hpl, hnone, Bool.or_false]
    refine wpAny_bind (wpAny_pure ?_)
    exact wpAny_bind (wpAny_mono h1 (fun r s2 hr => wpAny_bind (wpAny_holding (wpAny_point (wpAny_pure hr)))) fun _ _ x => x)
  exact cw
theorem turn_V {P : Program} {w : World} {K : PySem.W.Frag} {elts : List Expr} {kq : Nat} {tpos : Pos} {d : Addr} {o : Obj} {es : Array DictEntry} {m : Nat} {kvs : List (Key × V)} (e it : Addr) (hod : o.data = .dict es m) :
    Turn P w K (.Tuple elts kq tpos) (ItV d o kvs) [e, it] e (fun i h => (∃ old, IsEnum h e it ((i : Nat) : Int) old) ∧ h.IsValIter it d i es.size m ∧ e ≠ it ∧ d ≠ e ∧ d ≠ it) where
  mem := by simp
  obj := fun i h st b hb => by
    obtain ⟨⟨old, he⟩, ⟨oi, ho, hc, hd⟩, _⟩ := st
    rcases List.mem_cons.mp hb with q | q
    · rw [q]
      exact ⟨_, he, fun v g => nomatch g⟩
    · rw [List.mem_singleton.mp q]
      exact ⟨oi, ho, fun v g => by rw [hd] at g; cases g⟩
  keep := fun i h h' st k => let ⟨⟨old, he⟩, ⟨oi, ho, hi⟩, r⟩ := st; ⟨⟨old, k e (by simp) _ he⟩, ⟨oi, k it (by simp) oi ho, hi⟩, r⟩
  item := by
    intro X hP hw hK hc i pins s σ H E I hf st hg
    subst hP hw hK
    obtain ⟨⟨old, he⟩, hit, n1, n2, n3⟩ := st
    obtain ⟨hd, hi⟩ := hg
    obtain ⟨lo, hgd, hx, es', m', vs, hdt, hsz, kv, hm⟩ := I.frzK hd
    obtain ⟨rfl, rfl⟩ := dict_ep hod hdt
    obtain ⟨⟨k, v⟩, hkv⟩ : ∃ p, kvs[i]? = some p := ⟨kvs[i], List.getElem?_eq_getElem hi⟩
    obtain ⟨u, hu, ru⟩ := kv_get kv hkv
    have raw : s.heap.DictRaw d es' m' := ⟨o, hgd, hx, hod⟩
    obtain ⟨o2, es2, q1, q2, q3, q4, q5, q6⟩ := id hm
    rw [hgd] at q1
    cases q1
    rw [hod] at q3
    cases q3
    refine pair_turn (z := 0) (i := i) (x := v) (St' := fun h => (∃ old, IsEnum h e it ((i + 1 : Nat) : Int) old) ∧ h.IsValIter it d (i + 1) es'.size m' ∧ e ≠ it ∧ d ≠ e ∧ d ≠ it) I hf (drawsVals (prog := X.prog) (w := X.w) (A := X.A.in1) (I.ok.hd hc) it d n3 es' m') he ⟨hit, raw⟩ (by omega) n1 ?_ (by simp) (fun z q => ?_) rfl (fun h' w1 g1 g2 => ⟨⟨w1, g1⟩, g2.1, n1, n2, n3⟩) fun z s' g => ⟨z, rfl, thn g ?_⟩
    · intro q
      rcases List.mem_cons.mp q with q | q
      · exact n1 q
      · exact n2 (List.mem_singleton.mp q).symm
    · obtain ⟨en, e1, rfl⟩ := q
      have e2 : es'.toList[i]? = some en := by rw [Array.getElem?_toList]; exact e1
      rw [(q5.get? e2 hu).2]
      exact ru
    · rintro _ s2 ⟨y, H', I', ry, ⟨T, e1, e2, e3⟩, g1, g2⟩
      exact ⟨y, H', I', ry, ⟨T, v, e1, e2, e3, k, hkv⟩, g1, g2⟩
  done := by
    intro X hP hw hK hc i pins s σ H E I hf st hg
    subst hP hw hK
    obtain ⟨⟨old, he⟩, hit, n1, n2, n3⟩ := st
    obtain ⟨hd, hi⟩ := hg
    obtain ⟨lo, hgd, hx, es', m', vs, hdt, hsz, kv, hm⟩ := I.frzK hd
    obtain ⟨rfl, rfl⟩ := dict_ep hod hdt
    obtain ⟨f0, f1, f2, f3, f4, f5⟩ := hf it (by simp)
    obtain ⟨oi, ho, hc2, hd2⟩ := id hit
    have hi : es'.size ≤ i := hsz ▸ hi
    exact enumV_end0 (I.ok.hd hc) he hit ⟨o, hgd, hx, hod⟩ hi fun h' eb => ⟨rfl, I.turned (t' := s.toks) (fun b o hb q => eb b o hb q) f0 f1 f3 f4 f5⟩
  self := fun A i s Q E st h => let ⟨⟨_, he⟩, _⟩ := st; wpAny_pyIter_enum he h
def iV (ta : TA) : TI := fun σ H R => ta σ H fun vs H1 => ∃ (v d : Addr) (o : Obj) (kvs : List (Key × V)), vs = [.ref v] ∧ H1 v = some (ViewO v d) ∧ H1 d = some (.frz o (.dK kvs)) ∧ R (ItV d o kvs) H1
theorem pi_enumV {X : Cx} {e : Expr} {ta : TA} {p pos tpos : Pos} {elts : List Expr} {kq : Nat} (hg : Gl X "enumerate") (hm : X.mg "enumerate" = none) (ha : PA X [e] ta) (hs : starEach [e] X.env = [(false, eval e X.env)] := by rfl) :
    PI X (.Tuple elts kq tpos) (.Call (.Name "enumerate" p) [e] [] pos) (iV ta) := by
  refine ⟨fun pins s σ H R I h => ?_⟩
  refine Call_ (ld_blt I hg hm boot_enumerate (PyProof.Rows.callWith_type1 (thn (ha.run pos pins s σ H _ I h) ?_) hs rfl))
  rintro us s1 ⟨vs, H1, I1, r1, v, d, o, kvs, rfl, hv, hd, q⟩
  obtain ⟨u, rfl, ru⟩ := vals1 r1
  cases ru
  obtain ⟨lo, hgd, hx, es, m, vs, hdt, hsz, kv, hm2⟩ := I1.frzK hd
  have dl : d < s1.heap.objs.size := Heap.lt_size hgd
  refine callType_new F.called_enumerate (by decide) (F.typeCall_enumerate_1 _) (F.newCall_enumerate_1 _) (fun a => F.args_object_init_2 a _) F.entry_enumerate_new (enV_meets v d es m) ⟨view_of I1.hok hv, ⟨o, hgd, hx, hdt⟩, ?_⟩
  have z1 : (s1.heap.push { cls := .type "dict_valueiterator", data := .fields #[.ref d, .int 0 0, .int es.size 0, .int m 0] }).objs.size = s1.heap.objs.size + 1 := Heap.size_push ..
  have z2 := Heap.get?_push_size (s1.heap.push { cls := .type "dict_valueiterator", data := .fields #[.ref d, .int 0 0, .int es.size 0, .int m 0] }) (o := { cls := .type "enumerate", data := .fields #[.none, .bool false, .ref s1.heap.objs.size, rawInt 0, .none, .none] }) rfl
  rw [z1] at z2
  refine (show _ ∧ _ from ⟨⟨_, z2, rfl⟩, wpAny_pyIter_enum (i := 0) (old := .none) z2 ?_⟩)
  have I3 : Inv X pins σ H1 { s1 with heap := (s1.heap.push { cls := .type "dict_valueiterator", data := .fields #[.ref d, .int 0 0, .int es.size 0, .int m 0] }).push { cls := .type "enumerate", data := .fields #[.none, .bool false, .ref s1.heap.objs.size, rawInt 0, .none, .none] } } :=
    I1.kept (t' := s1.toks) fun b ob g => Heap.get?_push_of_some _ (Heap.get?_push_of_some _ g)
  refine ⟨s1.heap.objs.size + 1, [s1.heap.objs.size + 1, s1.heap.objs.size], _, _, H1, rfl, I3, turn_V (s1.heap.objs.size + 1) s1.heap.objs.size hdt, ⟨⟨.none, z2⟩, ⟨_, Heap.get?_push_of_some _ (Heap.get?_push_size _ rfl), rfl, rfl⟩, Nat.succ_ne_self _, Nat.ne_of_lt (Nat.lt_succ_of_lt dl), Nat.ne_of_lt dl⟩, fun c hc => ?_, q⟩
  have le : s1.heap.objs.size ≤ c := by
    rcases List.mem_cons.mp hc with q | q
    · exact q ▸ Nat.le_succ _
    · exact List.mem_singleton.mp q ▸ Nat.le_refl _
  exact I1.fpOk le (I1.hok.fresh le)
end EHR

/-! ## EHR6 -/
/-! zip of two things that are drawn from, of unlike kinds -/
namespace EHR
open PySem
open Sem (wp)
theorem drawsTup {prog : Program} {w : World} {A : Around} (hh : A.handled = none) (it l : Addr) (ne : l ≠ it) (xs : Array Value) :
    Draws prog w A it [it, l] xs.size (fun i v => xs[i]? = some v) (fun i h => h.IsTupleIter it l i ∧ h.IsTuple l xs) where
  live := fun _ _ st => let ⟨o, ho, _⟩ := st.1; ⟨o, ho⟩
  frame := fun _ _ _ st k => ⟨st.1.at fun o e => k it (by simp) o e, let ⟨o, ho, r⟩ := st.2; ⟨o, k l (by simp) o ho, r⟩⟩
  item := fun i s Q E hi st hQ => RZ.nextOf_tuple_item st.1 st.2 (Array.getElem?_eq_getElem hi) fun h' g sb => hQ _ h' s.toks (Array.getElem?_eq_getElem hi) ⟨g, st.2.extBut sb.extBut ne⟩ sb
  done := fun s Q E st hE => RZ.nextOf_tuple_end hh st.1 st.2 (by simp) hE
/-- the zip's own parts stand apart from what it draws from -/
structure Apt (z TI TO i1 i2 : Addr) (f1 f2 : List Addr) : Prop where
  c1 : TI ≠ z
  c2 : TO ≠ z
  c3 : TI ≠ TO
  c4 : z ∉ f1
  c5 : z ∉ f2
  c6 : TO ∉ f1
  c7 : TO ∉ f2
  c8 : i1 ∉ f2
  c9 : i2 ∉ f1
  d1 : i1 ∈ f1
  d2 : i2 ∈ f2
  d3 : TI ≠ i1
  d4 : TI ≠ i2
namespace Apt
variable {z TI TO i1 i2 : Addr} {f1 f2 : List Addr} (D : Apt z TI TO i1 i2 f1 f2)
include D
theorem z1 : z ≠ i1 := fun e => D.c4 (e ▸ D.d1)
theorem z2 : z ≠ i2 := fun e => D.c5 (e ▸ D.d2)
theorem t1 : TO ≠ i1 := fun e => D.c6 (e ▸ D.d1)
theorem t2 : TO ≠ i2 := fun e => D.c7 (e ▸ D.d2)
end Apt
section
variable {prog : Program} {w : World} {A : Around} {E : Value → Shared → Prop} {s : Shared}
theorem zip2_item {z TI TO i1 i2 : Addr} {f1 f2 : List Addr} {n1 n2 k1 k2 : Nat} {P1 P2 : Nat → Value → Prop} {S1 S2 : Nat → Heap → Prop} {a b : Value} {Q : Value → Shared → Prop} (Ap : Apt z TI TO i1 i2 f1 f2)
    (D1 : Draws prog w A i1 f1 n1 P1 S1) (D2 : Draws prog w A i2 f2 n2 P2 S2) (hz : IsZip s.heap z TI TO .none) (hI : IsPair s.heap TI (.ref i1) (.ref i2)) (hO : IsPair s.heap TO a b) (st1 : S1 k1 s.heap) (st2 : S2 k2 s.heap) (l1 : k1 < n1) (l2 : k2 < n2)
    (hQ : ∀ x y h' tk, P1 k1 x → P2 k2 y → IsZip h' z TI TO (rawInt s.heap.objs.size) → IsPair h' TO x y → S1 (k1 + 1) h' → S2 (k2 + 1) h' → IsPair h' s.heap.objs.size x y →
      (∀ c o, c ≠ z → c ≠ TO → c ≠ i1 → c ≠ i2 → s.heap.get? c = some o → h'.get? c = some o) → Q (.ref s.heap.objs.size) { s with heap := h', toks := tk }) :
    wpAny (model prog w) A (Builtin.«zip.__next__» ⟨[.ref z], []⟩) (fun fin s' => ∃ v, fin = .done (.ret v) ∧ Q v s') E s := by
  obtain ⟨hp, gg, dd, tk0, os⟩ := s
  have hz : IsZip hp z TI TO .none := hz
  have hI : IsPair hp TI (.ref i1) (.ref i2) := hI
  have hO : IsPair hp TO a b := hO
  show wpAny _ _ (field (.ref z) 2 >>= _) _ _ _
  refine wpAny_bind (wpAny_field hz rfl (x := .bool false) rfl ?_)
  show wpAny _ _ (field (.ref z) 3 >>= _) _ _ _
  refine wpAny_bind (wpAny_field hz rfl (x := .ref TI) rfl (wpAny_bind (wpAny_seqItems hI rfl ?_)))
  show wpAny _ _ (Builtin.SmallTypes.ownedTupleIsFree (.ref z) >>= _) _ _ _
  refine wpAny_bind ?_
  unfold Builtin.SmallTypes.ownedTupleIsFree
  refine wpAny_bind (wpAny_field hz rfl (x := .none) rfl (wpAny_pure ?_))
  simp only [if_true]
  refine wpAny_bind (wpAny_rule (wpAny_bind (wpAny_field hz rfl (x := .ref TO) rfl (wpAny_bind (wpAny_setField_rec hz (by simp) fun g1 z1 b1 => ?_)))))
  have z1 : IsZip g1 z TI TO .ellipsis := z1
  have b1 : Heap.SameBut z hp g1 := b1
  have u1 : ∀ c, c ≠ z → ∀ o, hp.get? c = some o → g1.get? c = some o := fun c n o e => (b1.2 c n).trans e
  refine wpAny_bind ?_
  simp only [List.zipIdx_cons, List.zipIdx_nil, List.forIn_cons, List.forIn_nil]
  refine wpAny_bind (wpAny_bind (wpAny_onRaise ?_))
  show wpAny _ _ (Builtin.SmallTypes.nextOf (.ref i1) >>= _) _ _ _
  refine wpAny_bind (D1.item k1 _ _ _ l1 (D1.frame _ _ _ st1 fun c m o e => u1 c (fun q => Ap.c4 (q ▸ m)) o e) fun x g2 tk1 p1 e1 b2 => wpAny_pure ?_)
  have b2 : Heap.SameBut i1 g1 g2 := b2
  have u2 : ∀ c, c ≠ i1 → ∀ o, g1.get? c = some o → g2.get? c = some o := fun c n o e => (b2.2 c n).trans e
  have o2 : IsPair g2 TO a b := u2 _ Ap.t1 _ (u1 _ Ap.c2 _ hO)
  refine wpAny_bind (wpAny_seqItems o2 rfl (wpAny_bind (wpAny_updateSeq_pair o2 fun g3 o3 b3 => wpAny_bind (wpAny_letGo (wpAny_pure ?_)))))
  have o3 : IsPair g3 TO x b := o3
  have b3 : Heap.SameBut TO g2 g3 := b3
  have u3 : ∀ c, c ≠ TO → ∀ o, g2.get? c = some o → g3.get? c = some o := fun c n o e => (b3.2 c n).trans e
  refine wpAny_bind (wpAny_bind (wpAny_onRaise ?_))
  show wpAny _ _ (Builtin.SmallTypes.nextOf (.ref i2) >>= _) _ _ _
  refine wpAny_bind (D2.item k2 _ _ _ l2 (D2.frame _ _ _ st2 fun c m o e => u3 c (fun q => Ap.c7 (q ▸ m)) o (u2 c (fun q => Ap.c8 (q ▸ m)) o (u1 c (fun q => Ap.c5 (q ▸ m)) o e))) fun y g4 tk2 p2 e2 b4 => wpAny_pure ?_)
  have b4 : Heap.SameBut i2 g3 g4 := b4
  have u4 : ∀ c, c ≠ i2 → ∀ o, g3.get? c = some o → g4.get? c = some o := fun c n o e => (b4.2 c n).trans e
  have o4 : IsPair g4 TO x b := u4 _ Ap.t2 _ o3
  refine wpAny_bind (wpAny_seqItems o4 rfl (wpAny_bind (wpAny_updateSeq_pair o4 fun g5 o5 b5 => wpAny_bind (wpAny_letGo (wpAny_pure (wpAny_pure ?_))))))
  have o5 : IsPair g5 TO x y := o5
  have b5 : Heap.SameBut TO g4 g5 := b5
  have u5 : ∀ c, c ≠ TO → ∀ o, g4.get? c = some o → g5.get? c = some o := fun c n o e => (b5.2 c n).trans e
  refine wpAny_bind (wpAny_seqItems o5 rfl (wpAny_bind (wpAny_newTuple ?_)))
  have sz : g5.objs.size = hp.objs.size := by rw [b5.1, b4.1, b3.1, b2.1, b1.1]
  have z5 : IsZip g5 z TI TO .ellipsis := u5 _ Ap.c2.symm _ (u4 _ Ap.z2 _ (u3 _ Ap.c2.symm _ (u2 _ Ap.z1 _ z1)))
  have s15 : S1 (k1 + 1) g5 := D1.frame _ _ _ e1 fun c m o e => u5 c (fun q => Ap.c6 (q ▸ m)) o (u4 c (fun q => Ap.c9 (q ▸ m)) o (u3 c (fun q => Ap.c6 (q ▸ m)) o e))
  have s25 : S2 (k2 + 1) g5 := D2.frame _ _ _ e2 fun c m o e => u5 c (fun q => Ap.c7 (q ▸ m)) o e
  have lz : z < g5.objs.size := Heap.lt_size z5
  show wpAny _ _ (Builtin.SmallTypes.ownedTupleHandOut (.ref z) (.ref g5.objs.size) >>= _) _ _ _
  refine wpAny_bind ?_
  unfold Builtin.SmallTypes.ownedTupleHandOut
  have z6 : IsZip (g5.push { cls := .type "tuple", data := .seq #[x, y] }) z TI TO .ellipsis := Heap.get?_push_of_some _ z5
  refine wpAny_bind (wpAny_setField_rec z6 (by simp) fun g7 z7 b7 => ?_)
  have z7 : IsZip g7 z TI TO (rawInt g5.objs.size) := z7
  refine wpAny_setField_rec z7 (by simp) fun g8 z8 b8 => ?_
  have z8 : IsZip g8 z TI TO (rawInt g5.objs.size) := z8
  have up : ∀ c, c ≠ z → ∀ o, g5.get? c = some o → g8.get? c = some o := fun c n o e => (b8.2 c n).trans ((b7.2 c n).trans (Heap.get?_push_of_some _ e))
  have t8 : IsPair g8 g5.objs.size x y := (b8.2 _ (Nat.ne_of_gt lz)).trans ((b7.2 _ (Nat.ne_of_gt lz)).trans (Heap.get?_push_size _ rfl))
  refine wpAny_pure ⟨_, rfl, ?_⟩
  show Q (.ref g5.objs.size) _
  rw [sz] at z8 t8 ⊢
  refine hQ x y g8 _ p1 p2 z8 (up _ Ap.c2 _ o5) (D1.frame _ _ _ s15 fun c m o e => up c (fun q => Ap.c4 (q ▸ m)) o e) (D2.frame _ _ _ s25 fun c m o e => up c (fun q => Ap.c5 (q ▸ m)) o e) t8 fun c o m1 m2 m3 m4 e => ?_
  exact up c m1 o (u5 c m2 o (u4 c m4 o (u3 c m2 o (u2 c m3 o (u1 c m1 o e)))))
theorem zip2_end {z TI TO i1 i2 : Addr} {f1 f2 : List Addr} {n1 n2 k : Nat} {P1 P2 : Nat → Value → Prop} {S1 S2 : Nat → Heap → Prop} {a b : Value} {Q : PySem.Fin → Shared → Prop} (Ap : Apt z TI TO i1 i2 f1 f2)
    (D1 : Draws prog w A i1 f1 n1 P1 S1) (D2 : Draws prog w A i2 f2 n2 P2 S2) (hz : IsZip s.heap z TI TO .none) (hI : IsPair s.heap TI (.ref i1) (.ref i2)) (hO : IsPair s.heap TO a b) (st1 : S1 k s.heap) (st2 : S2 k s.heap) (ek : k = n1 ∨ (k < n1 ∧ k = n2))
    (hE : ∀ h' e tk, (∀ c o, c ≠ z → c ≠ TO → c ≠ i1 → c ≠ i2 → s.heap.get? c = some o → h'.get? c = some o) → (∃ o, h'.get? e = some o ∧ o.cls = .type "StopIteration") → E (.ref e) { s with heap := h', toks := tk }) :
    wpAny (model prog w) A (Builtin.«zip.__next__» ⟨[.ref z], []⟩) Q E s := by
  obtain ⟨hp, gg, dd, tk0, os⟩ := s
  have hz : IsZip hp z TI TO .none := hz
  have hI : IsPair hp TI (.ref i1) (.ref i2) := hI
  have hO : IsPair hp TO a b := hO
  show wpAny _ _ (field (.ref z) 2 >>= _) _ _ _
  refine wpAny_bind (wpAny_field hz rfl (x := .bool false) rfl ?_)
  show wpAny _ _ (field (.ref z) 3 >>= _) _ _ _
  refine wpAny_bind (wpAny_field hz rfl (x := .ref TI) rfl (wpAny_bind (wpAny_seqItems hI rfl ?_)))
  show wpAny _ _ (Builtin.SmallTypes.ownedTupleIsFree (.ref z) >>= _) _ _ _
  refine wpAny_bind ?_
  unfold Builtin.SmallTypes.ownedTupleIsFree
  refine wpAny_bind (wpAny_field hz rfl (x := .none) rfl (wpAny_pure ?_))
  simp only [if_true]
  refine wpAny_bind (wpAny_rule (wpAny_bind (wpAny_field hz rfl (x := .ref TO) rfl (wpAny_bind (wpAny_setField_rec hz (by simp) fun g1 z1 b1 => ?_)))))
  have z1 : IsZip g1 z TI TO .ellipsis := z1
  have b1 : Heap.SameBut z hp g1 := b1
  have u1 : ∀ c, c ≠ z → ∀ o, hp.get? c = some o → g1.get? c = some o := fun c n o e => (b1.2 c n).trans e
  refine wpAny_bind ?_
  simp only [List.zipIdx_cons, List.zipIdx_nil, List.forIn_cons, List.forIn_nil]
  refine wpAny_bind (wpAny_bind (wpAny_onRaise ?_))
  show wpAny _ _ (Builtin.SmallTypes.nextOf (.ref i1) >>= _) _ _ _
  have st1' : S1 k g1 := D1.frame _ _ _ st1 fun c m o e => u1 c (fun q => Ap.c4 (q ▸ m)) o e
  rcases ek with ek | ⟨l1, ek⟩
  · subst ek
    refine wpAny_bind (D1.done _ _ _ st1' fun g2 e b2 he => ?_)
    obtain ⟨oe, hoe, hce⟩ := he
    have b2 : Heap.ExtBut i1 g1 g2 := b2
    have z2 : IsZip g2 z TI TO .ellipsis := b2 _ _ Ap.z1 z1
    have nz : e ≠ z := fun q => by rw [q, z2] at hoe; cases hoe; simp at hce
    refine wpAny_setField_rec z2 (by simp) fun g3 _ b3 => hE g3 e _ (fun c o m1 m2 m3 m4 q => ?_) ⟨oe, (b3.2 e nz).trans hoe, hce⟩
    exact (b3.2 c m1).trans (b2 c o m3 (u1 c m1 o q))
  · subst ek
    refine wpAny_bind (D1.item k _ _ _ l1 st1' fun x g2 tk1 p1 e1 b2 => wpAny_pure ?_)
    have b2 : Heap.SameBut i1 g1 g2 := b2
    have u2 : ∀ c, c ≠ i1 → ∀ o, g1.get? c = some o → g2.get? c = some o := fun c n o e => (b2.2 c n).trans e
    have o2 : IsPair g2 TO a b := u2 _ Ap.t1 _ (u1 _ Ap.c2 _ hO)
    refine wpAny_bind (wpAny_seqItems o2 rfl (wpAny_bind (wpAny_updateSeq_pair o2 fun g3 o3 b3 => wpAny_bind (wpAny_letGo (wpAny_pure ?_)))))
    have b3 : Heap.SameBut TO g2 g3 := b3
    have u3 : ∀ c, c ≠ TO → ∀ o, g2.get? c = some o → g3.get? c = some o := fun c n o e => (b3.2 c n).trans e
    refine wpAny_bind (wpAny_bind (wpAny_onRaise ?_))
    show wpAny _ _ (Builtin.SmallTypes.nextOf (.ref i2) >>= _) _ _ _
    refine wpAny_bind (D2.done _ _ _ (D2.frame _ _ _ st2 fun c m o e => u3 c (fun q => Ap.c7 (q ▸ m)) o (u2 c (fun q => Ap.c8 (q ▸ m)) o (u1 c (fun q => Ap.c5 (q ▸ m)) o e))) fun g4 e b4 he => ?_)
    obtain ⟨oe, hoe, hce⟩ := he
    have b4 : Heap.ExtBut i2 g3 g4 := b4
    have z4 : IsZip g4 z TI TO .ellipsis := b4 _ _ Ap.z2 (u3 _ Ap.c2.symm _ (u2 _ Ap.z1 _ z1))
    have nz : e ≠ z := fun q => by rw [q, z4] at hoe; cases hoe; simp at hce
    refine wpAny_setField_rec z4 (by simp) fun g5 _ b5 => hE g5 e _ (fun c o m1 m2 m3 m4 q => ?_) ⟨oe, (b5.2 e nz).trans hoe, hce⟩
    exact (b5.2 c m1).trans (b4 c o m4 (u3 c m2 o (u2 c m3 o (u1 c m1 o q))))
/-- zip(a list, a tuple): what is laid -/
abbrev zq1 (h : Heap) (a : Addr) : Heap := h.push { cls := .type "list_iterator", data := .fields #[.ref a, .int 0 0] }
abbrev zq2 (h : Heap) (a b : Addr) : Heap := (zq1 h a).push { cls := .type "tuple_iterator", data := .fields #[.ref b, .int 0 0] }
abbrev zq3 (h : Heap) (a b : Addr) : Heap := (zq2 h a b).push { cls := .type "tuple", data := .seq #[.ref h.objs.size, .ref (zq1 h a).objs.size] }
abbrev zq4 (h : Heap) (a b : Addr) : Heap := (zq3 h a b).push { cls := .type "tuple", data := .seq #[.none, .none] }
abbrev zq5 (h : Heap) (a b : Addr) : Heap := (zq4 h a b).push { cls := .type "zip", data := .fields #[.none, .bool false, .bool false, .ref (zq2 h a b).objs.size, .ref (zq3 h a b).objs.size] }
theorem zq_meets (a b : Addr) (xs ys : Array Value) :
    Meets (Builtin.«zip.__new__» ⟨[.type "zip", .ref a, .ref b], []⟩) (fun _ R s => s.heap.IsList a xs ∧ s.heap.IsTuple b ys ∧ R (.ok (.ret (.ref (zq4 s.heap a b).objs.size))) { s with heap := zq5 s.heap a b }) :=
  .of_wp fun prog w A R s q => by
    obtain ⟨hp, g, d, tk, os⟩ := s
    obtain ⟨e1, e2, q⟩ := q
    have a1 := sub_zip
    have a2 : Heap.IsTuple (Shared.heap ⟨hp.push { cls := .type "list_iterator", data := .fields #[.ref a, .int 0 0] }, g, d, tk, os⟩) b ys := Heap.IsTuple.push e2 _
    wp_walk using wpAny_pyIter_list e1, wpAny_pyIter_tuple a2
    exact ⟨_, rfl, q⟩
theorem call_zq {a b : Addr} {xs ys : Array Value} {Q : Value → Shared → Prop} (e1 : s.heap.IsList a xs) (e2 : s.heap.IsTuple b ys)
    (h : ∀ h', IsZip h' (s.heap.objs.size + 4) (s.heap.objs.size + 2) (s.heap.objs.size + 3) .none → IsPair h' (s.heap.objs.size + 2) (.ref s.heap.objs.size) (.ref (s.heap.objs.size + 1)) → IsPair h' (s.heap.objs.size + 3) .none .none →
      h'.IsListIter s.heap.objs.size a 0 → h'.IsTupleIter (s.heap.objs.size + 1) b 0 → (∀ c o, s.heap.get? c = some o → h'.get? c = some o) → Q (.ref (s.heap.objs.size + 4)) { s with heap := h' }) :
    wpAny (model prog w) A (call (.type "zip") [.ref a, .ref b]) Q E s := by
  refine callType_new F.called_zip (by decide) (F.typeCall_zip_2 _ _) (F.newCall_zip_2 _ _) (fun o => F.args_object_init_3 o _ _) F.entry_zip_new (zq_meets a b xs ys) ⟨e1, e2, ?_⟩
  have n1 : (zq1 s.heap a).objs.size = s.heap.objs.size + 1 := Heap.size_push ..
  have n2 : (zq2 s.heap a b).objs.size = s.heap.objs.size + 2 := by rw [Heap.size_push, n1]
  have n3 : (zq3 s.heap a b).objs.size = s.heap.objs.size + 3 := by rw [Heap.size_push, n2]
  have n4 : (zq4 s.heap a b).objs.size = s.heap.objs.size + 4 := by rw [Heap.size_push, n3]
  have m5 : (zq5 s.heap a b).get? (zq4 s.heap a b).objs.size = some _ := Heap.get?_push_size _ rfl
  have m4 : (zq5 s.heap a b).get? (zq3 s.heap a b).objs.size = some _ := Heap.get?_push_of_some _ (Heap.get?_push_size _ rfl)
  have m3 : (zq5 s.heap a b).get? (zq2 s.heap a b).objs.size = some _ := Heap.get?_push_of_some _ (Heap.get?_push_of_some _ (Heap.get?_push_size _ rfl))
  have m2 : (zq5 s.heap a b).get? (zq1 s.heap a).objs.size = some _ := Heap.get?_push_of_some _ (Heap.get?_push_of_some _ (Heap.get?_push_of_some _ (Heap.get?_push_size _ rfl)))
  have m1 : (zq5 s.heap a b).get? s.heap.objs.size = some _ := Heap.get?_push_of_some _ (Heap.get?_push_of_some _ (Heap.get?_push_of_some _ (Heap.get?_push_of_some _ (Heap.get?_push_size _ rfl))))
  show _ ∧ _
  rw [n2, n3, n4] at m5
  rw [n3] at m4
  rw [n1, n2] at m3
  rw [n1] at m2
  rw [n4]
  exact ⟨⟨_, m5, rfl⟩, h _ m5 m3 m4 ⟨_, m1, rfl, rfl⟩ ⟨_, m2, rfl, rfl⟩ fun c o e => Heap.get?_push_of_some _ (Heap.get?_push_of_some _ (Heap.get?_push_of_some _ (Heap.get?_push_of_some _ (Heap.get?_push_of_some _ e))))⟩
end
end EHR

/-! ## EHR7 -/
/-! for x, y in zip(a list, a tuple) -/
namespace EHR
open PySem PySem.Spec PyProof.Rows L2
def Itq2 (K : PySem.W.Frag) (a b : Addr) : It :=
  ⟨fun i H => ∃ (xs ys : List V) (x y : V), SqL K H a xs ∧ SqT K H b ys ∧ xs[i]? = some x ∧ ys[i]? = some y,
    fun i H v H' => ∃ T x y, v = .ref T ∧ H T = none ∧ H' = upd H T (.tup [x, y]) ∧ (∀ xs, SqL K H a xs → xs[i]? = some x) ∧ ∀ ys, SqT K H b ys → ys[i]? = some y,
    fun i H => ∃ xs ys : List V, SqL K H a xs ∧ SqT K H b ys ∧ (xs.length = i ∨ (i < xs.length ∧ ys.length = i))⟩
theorem walk_q2 {K : PySem.W.Frag} {a b : Addr} {xs ys : List V} {n : Nat} (hn : n = min xs.length ys.length) : Walk (Itq2 K a b) n (fun H => SqL K H a xs ∧ SqT K H b ys) (YPair (fun i => xs[i]?) (fun i => ys[i]?)) := by
  subst hn
  refine ⟨fun i _ hi q => ?_, fun _ q => ⟨xs, ys, q.1, q.2, by omega⟩, fun i H v H' _ q y => ?_⟩
  · have h1 : i < xs.length := by omega
    have h2 : i < ys.length := by omega
    exact ⟨xs, ys, xs[i], ys[i], q.1, q.2, by simp [h1], by simp [h2]⟩
  · obtain ⟨T, x, z, h1, h2, h3, h4, h5⟩ := y
    exact ⟨T, x, z, h1, h2, h3, h4 xs q.1, h5 ys q.2⟩
theorem turn_q2 {P : Program} {w : World} {K : PySem.W.Frag} {elts : List Expr} {kq : Nat} {tpos : Pos} {a b z TI TO i1 i2 : Addr} (Ap : Apt z TI TO i1 i2 [i1, a] [i2, b]) (na : a ≠ i1) (nb : b ≠ i2) :
    Turn P w K (.Tuple elts kq tpos) (Itq2 K a b) [z, TI, TO, i1, i2] z (fun i h => IsZip h z TI TO .none ∧ IsPair h TI (.ref i1) (.ref i2) ∧ (∃ x y, IsPair h TO x y) ∧ h.IsListIter i1 a i ∧ h.IsTupleIter i2 b i) where
  mem := by simp
  obj := fun i h st c hc => by
    obtain ⟨hz, hTI, ⟨x, y, hTO⟩, ⟨o1, e1, _, d1⟩, ⟨o2, e2, _, d2⟩⟩ := st
    have e' : c = z ∨ c = TI ∨ c = TO ∨ c = i1 ∨ c = i2 := by simpa using hc
    rcases e' with q | q | q | q | q
    · rw [q]; exact ⟨_, hz, fun v g => nomatch g⟩
    · rw [q]; exact ⟨_, hTI, fun v g => nomatch g⟩
    · rw [q]; exact ⟨_, hTO, fun v g => nomatch g⟩
    · rw [q]; exact ⟨o1, e1, fun v g => by rw [d1] at g; cases g⟩
    · rw [q]; exact ⟨o2, e2, fun v g => by rw [d2] at g; cases g⟩
  keep := fun i h h' st k => by
    obtain ⟨hz, hTI, ⟨x, y, hTO⟩, h1, h2⟩ := st
    exact ⟨k z (by simp) _ hz, k TI (by simp) _ hTI, ⟨x, y, k TO (by simp) _ hTO⟩, h1.at fun o q => k i1 (by simp) o q, h2.at fun o q => k i2 (by simp) o q⟩
  item := by
    intro X hP hw hK hc i pins s σ H E I hf st hg
    subst hP hw hK
    obtain ⟨hz, hTI, ⟨x0, y0, hTO⟩, h1, h2⟩ := st
    obtain ⟨xs, ys, x, y, hqx, hqy, hx, hy⟩ := hg
    obtain ⟨its, rv, p, _⟩ := I.list hqx
    obtain ⟨its2, rv2, p2, _⟩ := I.tuple hqy
    obtain ⟨u, hu, ru⟩ := rv.get hx
    obtain ⟨u2, hu2, ru2⟩ := rv2.get hy
    have l1 : i < its.toArray.size := by
      rw [List.size_toArray]
      exact (List.getElem?_eq_some_iff.mp hu).1
    have l2 : i < its2.toArray.size := by
      rw [List.size_toArray]
      exact (List.getElem?_eq_some_iff.mp hu2).1
    have zl : z < s.heap.objs.size := Heap.lt_size hz
    have hT : s.TypeIs (.ref z) "zip" := ⟨_, hz, rfl⟩
    have lts : ∀ c ∈ [z, TI, TO, i1, i2], c < s.heap.objs.size := by
      intro c hc
      have e' : c = z ∨ c = TI ∨ c = TO ∨ c = i1 ∨ c = i2 := by simpa using hc
      rcases e' with q | q | q | q | q
      · exact q ▸ zl
      · exact q ▸ Heap.lt_size hTI
      · exact q ▸ Heap.lt_size hTO
      · obtain ⟨_, e1, _⟩ := h1
        exact q ▸ Heap.lt_size e1
      · obtain ⟨_, e2, _⟩ := h2
        exact q ▸ Heap.lt_size e2
    unfold pyNext
    refine wpAny_bind (wpAny_attempt (wpAny_callSpecial?_slot (name := Str.ofString "__next__") hT F.slot_zip_next (wpAny_call_entry F.slot_zip_next hT F.entry_zip_next
      (zip2_item Ap (Draws.list (prog := X.prog) (w := X.w) (A := X.A.in1) (I.ok.hd hc) i1 a na its.toArray) (drawsTup (prog := X.prog) (w := X.w) (A := X.A.in1) (I.ok.hd hc) i2 b nb its2.toArray) hz hTI hTO ⟨h1, p.isList⟩ ⟨h2, p2⟩ l1 l2 fun v1 v2 h' tk m1 m2 z' o' s1' s2' hT1 hk => wpAny_pure ?_) (F.args_zip_next_1 _))))
    have m1 : its.toArray[i]? = some v1 := m1
    have m2 : its2.toArray[i]? = some v2 := m2
    rw [List.getElem?_toArray, hu] at m1
    rw [List.getElem?_toArray, hu2] at m2
    cases m1
    cases m2
    refine ⟨_, rfl, wpAny_letOwnedTupleGo_zip (s := { s with heap := h', toks := tk }) z' fun h2' z2 sb => ?_⟩
    have hT2 : h2'.get? s.heap.objs.size = some { cls := .type "tuple", data := .seq #[u, u2] } := (sb.2 _ (Nat.ne_of_gt zl)).trans hT1
    have new : ObjOk X.prog X.w (upd H s.heap.objs.size (.tup [x, y])) h2' s.heap.objs.size (.tup [x, y]) :=
      ⟨by show 2 ≤ sizeLine; decide, [u, u2], .cons ru (.cons ru2 .nil), ⟨_, hT2, rfl, _, rfl⟩⟩
    refine ⟨.ref s.heap.objs.size, _, I.turnedNew (t' := tk) (ch := [z, TI, TO, i1, i2]) (fun c o hb q => (sb.2 c (fun q' => hb (by simp [q']))).trans (hk c o (fun q' => hb (by simp [q'])) (fun q' => hb (by simp [q'])) (fun q' => hb (by simp [q'])) (fun q' => hb (by simp [q'])) q)) hf (Nat.le_refl _) new, rfl,
      ⟨_, x, y, rfl, I.hok.fresh (Nat.le_refl _), rfl, fun l hl => by rw [I.list_inj hl hqx]; exact hx, fun l hl => by rw [I.tuple_inj hl hqy]; exact hy⟩, ⟨z2, (sb.2 _ Ap.c1).trans (hk _ _ Ap.c1 Ap.c3 Ap.d3 Ap.d4 hTI), ⟨u, u2, (sb.2 _ Ap.c2).trans o'⟩, s1'.1.at fun o q => (sb.2 _ Ap.z1.symm).trans q, s2'.1.at fun o q => (sb.2 _ Ap.z2.symm).trans q⟩, fun c hcm => ?_⟩
    rw [upd_ne (Nat.ne_of_lt (lts c hcm))]
    exact (hf c hcm).1
  done := by
    intro X hP hw hK hc i pins s σ H E I hf st hg
    subst hP hw hK
    obtain ⟨hz, hTI, ⟨x0, y0, hTO⟩, h1, h2⟩ := st
    obtain ⟨xs, ys, hqx, hqy, hend⟩ := hg
    obtain ⟨its, rv, p, _⟩ := I.list hqx
    obtain ⟨its2, rv2, p2, _⟩ := I.tuple hqy
    have l1 := rv.length
    have l2 := rv2.length
    have hT : s.TypeIs (.ref z) "zip" := ⟨_, hz, rfl⟩
    unfold pyNext
    refine wpAny_bind (wpAny_attempt (wpAny_callSpecial?_slot (name := Str.ofString "__next__") hT F.slot_zip_next (wpAny_call_entry F.slot_zip_next hT F.entry_zip_next
      (zip2_end Ap (Draws.list (prog := X.prog) (w := X.w) (A := X.A.in1) (I.ok.hd hc) i1 a na its.toArray) (drawsTup (prog := X.prog) (w := X.w) (A := X.A.in1) (I.ok.hd hc) i2 b nb its2.toArray) hz hTI hTO ⟨h1, p.isList⟩ ⟨h2, p2⟩ (by simp only [List.size_toArray]; omega) fun h' e tk hk he => ?_) (F.args_zip_next_1 _))))
    obtain ⟨o, ho, hc2⟩ := he
    refine wpAny_bind (wpAny_isInstance (T := "StopIteration") (b := true) ⟨o, ho, hc2⟩ isSubtype_stop (wpAny_pure ⟨rfl, ?_⟩))
    exact I.turnedL (t' := tk) (ch := [z, TI, TO, i1, i2]) (fun c o hb q => hk c o (fun q' => hb (by simp [q'])) (fun q' => hb (by simp [q'])) (fun q' => hb (by simp [q'])) (fun q' => hb (by simp [q'])) q) hf
  self := fun A i s Q E st h => wpAny_pyIter_zip st.1 h
theorem apt_of (n a b : Nat) (la : a < n) (lb : b < n) : Apt (n + 4) (n + 2) (n + 3) n (n + 1) [n, a] [n + 1, b] := by
  have e1 : n + 4 ≠ n := by omega
  have e2 : n + 4 ≠ a := by omega
  have e3 : n + 4 ≠ n + 1 := by omega
  have e4 : n + 4 ≠ b := by omega
  have e5 : n + 3 ≠ n := by omega
  have e6 : n + 3 ≠ a := by omega
  have e7 : n + 3 ≠ n + 1 := by omega
  have e8 : n + 3 ≠ b := by omega
  have e9 : n ≠ n + 1 := by omega
  have f1 : n ≠ b := by omega
  have f2 : n + 1 ≠ n := by omega
  have f3 : n + 1 ≠ a := by omega
  have no : ∀ {x y z : Nat}, x ≠ y → x ≠ z → x ∉ [y, z] := fun p q m => (List.mem_cons.mp m).elim p fun m => q (List.mem_singleton.mp m)
  exact ⟨by show n + 2 ≠ n + 4; omega, by show n + 3 ≠ n + 4; omega, by show n + 2 ≠ n + 3; omega, no e1 e2, no e3 e4, no e5 e6, no e7 e8, no e9 f1, no f2 f3, by simp, by simp, by show n + 2 ≠ n; omega, by show n + 2 ≠ n + 1; omega⟩
def iq2 (K : PySem.W.Frag) (ta : TA) : TI := fun σ H R => ta σ H fun vs H1 => ∃ a b xs ys, vs = [.ref a, .ref b] ∧ SqL K H1 a xs ∧ SqT K H1 b ys ∧ R (Itq2 K a b) H1
theorem pi_zipLT {X : Cx} {e e2 : Expr} {ta : TA} {p pos tpos : Pos} {elts : List Expr} {kq : Nat} (hg : Gl X "zip") (hm : X.mg "zip" = none) (ha : PA X [e, e2] ta)
    (hs : starEach [e, e2] X.env = (false, eval e X.env) :: starEach [e2] X.env := by rfl) (hpl : (backTo pos (starEach [e2] X.env)).any (·.1) = false := by rfl) :
    PI X (.Tuple elts kq tpos) (.Call (.Name "zip" p) [e, e2] [] pos) (iq2 X.K ta) := by
  refine ⟨fun pins s σ H R I h => ?_⟩
  refine Call_ (ld_blt I hg hm PyProof.Rows.boot_zip (PyProof.Rows.callWith_type1 (thn (ha.run pos pins s σ H _ I h) ?_) hs hpl))
  rintro us s1 ⟨vs, H1, I1, r1, a, b, xs, ys, rfl, hqx, hqy, q⟩
  obtain ⟨u1, u2, rfl, ru1, ru2⟩ := vals2 r1
  cases ru1
  cases ru2
  obtain ⟨its, rv, p1, _⟩ := I1.list hqx
  obtain ⟨its2, rv2, p2, _⟩ := I1.tuple hqy
  have la : a < s1.heap.objs.size := p1.lt
  have lb : b < s1.heap.objs.size := p2.lt
  refine call_zq p1.isList p2 fun h' hz hTI hTO h1 h2 hk => wpAny_pyIter_zip hz ?_
  have I2 : Inv X pins σ H1 { s1 with heap := h' } := I1.kept (t' := s1.toks) hk
  have le : ∀ c, c ∈ [s1.heap.objs.size + 4, s1.heap.objs.size + 2, s1.heap.objs.size + 3, s1.heap.objs.size, s1.heap.objs.size + 1] → s1.heap.objs.size ≤ c := by
    intro c hc
    have e' : c = s1.heap.objs.size + 4 ∨ c = s1.heap.objs.size + 2 ∨ c = s1.heap.objs.size + 3 ∨ c = s1.heap.objs.size ∨ c = s1.heap.objs.size + 1 := by simpa using hc
    rcases e' with z | z | z | z | z <;> rw [z] <;> first | exact Nat.le_refl _ | exact Nat.le_add_right _ _
  refine ⟨s1.heap.objs.size + 4, [s1.heap.objs.size + 4, s1.heap.objs.size + 2, s1.heap.objs.size + 3, s1.heap.objs.size, s1.heap.objs.size + 1], _, _, H1, rfl, I2, turn_q2 (apt_of _ a b la lb) (Nat.ne_of_lt la) (Nat.ne_of_lt (Nat.lt_succ_of_lt lb)), ⟨hz, hTI, ⟨_, _, hTO⟩, h1, h2⟩, fun c hc => ?_, q⟩
  exact I1.fpOk (le c hc) (I1.hok.fresh (le c hc))
end EHR

/-! ## EHR8 -/
/-! in, not in, d[k] of a dict of the top, for any text -/
namespace EHR
open PySem PySem.Spec PyProof.Rows L2
theorem kd_find {kvs : List (Str × V)} {l : List DictEntry} (pr : Paired (fun (p : Str × V) (e : DictEntry) => Value.isStrOf p.1 e.key = true ∧ L2.RelV p.2 e.val) kvs l) (z : Str) :
    match kvs.lookup z, (l.find? fun e => Value.isStrOf z e.key).map (·.val) with
    | none, none => True
    | some v, some u => L2.RelV v u
    | _, _ => False := by
  induction pr with
  | nil => exact True.intro
  | @cons p e kvs l r t ih =>
    obtain ⟨k, v⟩ := p
    obtain ⟨x, tk, e1⟩ : ∃ x tk, e.key = Value.str x tk := by
      obtain ⟨tk, q⟩ := Value.isStrOf_shape (x := k) (v := e.key) r.1
      exact ⟨k, tk, q⟩
    have r1 : Value.isStrOf k e.key = true := r.1
    rw [e1] at r1
    have ex : k = x := (by simpa [Value.isStrOf] using r1 : x = k).symm
    subst ex
    by_cases h : z = k
    · subst h
      have b : (z == z) = true := beq_self_eq_true z
      simp only [List.lookup, b, List.find?, r.1, Option.map]
      exact r.2
    · have b : (z == k) = false := beq_eq_false_iff_ne.mpr h
      have c : Value.isStrOf z e.key = false := by
        rw [e1]
        simpa [Value.isStrOf] using fun q => h q.symm
      simp only [List.lookup, b, List.find?, c]
      exact ih
theorem KD.look {K : PySem.W.Frag} {w : World} {d : Addr} {kvs : List (Str × V)} (D : KD K w d kvs) {P : Program} {h : Heap} (X : K.In h) (z : Str) :
    ∃ f : Str → Option Value, h.MapOf (PySem.strKind P w) d f ∧ match kvs.lookup z, f z with
      | none, none => True
      | some v, some u => L2.RelV v u
      | _, _ => False := by
  obtain ⟨es, n, e, kl, pr⟩ := D.ex
  refine ⟨_, PySem.W.mapOf_K (prog := P) X e kl, ?_⟩
  have q := kd_find pr z
  have e2 : findBy Value.isStrOf es z = (es.toList.find? fun e => Value.isStrOf z e.key).map (·.val) := by
    unfold findBy
    rw [← Array.find?_toList]
  show match kvs.lookup z, findBy Value.isStrOf es z with
    | none, none => True
    | some v, some u => L2.RelV v u
    | _, _ => False
  rw [e2]
  exact q
section
variable {X : Cx} {d : Addr} {kvs : List (Str × V)}
theorem op_notIn_KD (D : KD X.K X.w d kvs) : OpR X (compareOp .NotIn) (fun x y H Q => ∃ z : Str, x = .str z ∧ y = .ref d ∧ Q (.bl (!(kvs.lookup z).isSome)) H) := by
  intro pins s σ H x y v u Q I rx ry
  rintro ⟨z, rfl, rfl, q⟩
  obtain ⟨t, rfl⟩ := rx
  cases ry
  obtain ⟨f, m, lk⟩ := D.look (P := X.prog) I.kIn z
  have e : (f z).isSome = (kvs.lookup z).isSome := by
    cases h1 : kvs.lookup z <;> cases h2 : f z <;> rw [h1, h2] at lk <;> first | rfl | exact lk.elim
  refine wpAny_notIn_of (PySem.strKind_is X.prog X.w z t) D.low m ?_
  rw [e]
  exact ⟨.bl (!(kvs.lookup z).isSome), H, I.tok _, rfl, q⟩
def rIxKD (d : Addr) (kvs : List (Str × V)) : R2 := fun x y H Q => ∃ (z : Str) (v : V), x = .ref d ∧ y = .str z ∧ kvs.lookup z = some v ∧ Q v H
theorem ix_KD (D : KD X.K X.w d kvs) : IxR X (rIxKD d kvs) := by
  intro value slice pins s σ H x y v u Q I rx ry h hs
  obtain ⟨z, r, rfl, rfl, e, q⟩ := h
  cases rx
  obtain ⟨t, rfl⟩ := ry
  obtain ⟨f, m, lk⟩ := D.look (P := X.prog) I.kIn z
  rw [e] at lk
  cases h2 : f z with
  | none => rw [h2] at lk; exact lk.elim
  | some u0 =>
    rw [h2] at lk
    exact tail_any m.typeIs slot_dict_getitem.lookup (wpAny_getItem_of (strKind_is X.prog X.w z t) m h2 ⟨r, H, I.tok _, lk, q⟩) hs
end
end EHR

/-! ## EHB -/
namespace EH
open PySem PySem.Spec PyProof.Rows L2 EHR

/-- the i-th statement of the linked text -/
def topS (i : Nat) : Stmt := PySem.Challenge.pw_entryhouse_s01_answers.main.body.getD i (.Pass ⟨0, 0, 0, 0⟩)

/-- where what the top has written stands -/
structure Ad where
  (cLedger cRules cSchool cOffer cHouse : Addr)
  (f_Ledger_init f_Ledger_has_room f_Ledger_write f_Ledger_entries_of f_Ledger_account_of f_Rules_init f_Rules_one f_Rules_judges_owed f_Rules_percent f_Rules_row f_Rules_shown f_School_init f_School_load f_Offer_init f_House_init f_House_begin f_House_most f_House_waits f_House_taken f_House_free f_House_turns f_House_last_day f_House_pass_night f_House_make_offers f_House_make_offer f_House_end_offer f_House_lose_offer f_House_take_place f_House_give_up_places f_House_missing f_House_shut f_House_fine_schools f_balance f_sums f_amount_of f_shown_line f_read_lines f_words_of f_first_fault f_fault_of f_numbers_fit f_is_number f_within_bounds f_pairs_fit f_rules_of f_clear f_rules f_show f_enter f_want f_bring f_accept f_decline f_drop f_transfer f_pay f_payout f_night f_close f_tell_school f_tell_account f_tell_offers f_tell_queue f_tell_money f_tell_counts f_answers f_answers_on f_read_calls f_answer : Addr)
  (dU dB tC tN : Addr)
  (u_places u_form u_cap u_judges u_fee u_fine u_answer u_start u_back : Addr)
  (b_places b_form b_cap b_judges b_fee b_fine b_answer b_start : Addr)
  (bi_places bi_form bi_cap bi_judges bi_fee bi_fine bi_answer bi_start bj_judges : Addr)
abbrev s_Ledger_init : Stmt := inClass (topS 7) 0
abbrev N_Ledger_init : List Str := ["self"]
theorem sc_Ledger_init : FnScope N_Ledger_init ["self"] (C8.fnScope s_Ledger_init) := ⟨rfl, rfl, rfl, by decide +kernel, rfl, by decide +kernel, by decide +kernel⟩
abbrev s_Ledger_has_room : Stmt := inClass (topS 7) 1
abbrev N_Ledger_has_room : List Str := ["self", "more"]
theorem sc_Ledger_has_room : FnScope N_Ledger_has_room ["self", "more"] (C8.fnScope s_Ledger_has_room) := ⟨rfl, rfl, rfl, by decide +kernel, rfl, by decide +kernel, by decide +kernel⟩
abbrev s_Ledger_write : Stmt := inClass (topS 7) 2
abbrev N_Ledger_write : List Str := ["self", "school", "kind", "amount"]
theorem sc_Ledger_write : FnScope N_Ledger_write ["self", "school", "kind", "amount"] (C8.fnScope s_Ledger_write) := ⟨rfl, rfl, rfl, by decide +kernel, rfl, by decide +kernel, by decide +kernel⟩
abbrev s_Ledger_entries_of : Stmt := inClass (topS 7) 3
abbrev N_Ledger_entries_of : List Str := ["self", "school", "entry"]
theorem sc_Ledger_entries_of : FnScope N_Ledger_entries_of ["self", "school"] (C8.fnScope s_Ledger_entries_of) := ⟨rfl, rfl, rfl, by decide +kernel, rfl, by decide +kernel, by decide +kernel⟩
abbrev s_Ledger_account_of : Stmt := inClass (topS 7) 4
abbrev N_Ledger_account_of : List Str := ["self", "school"]
theorem sc_Ledger_account_of : FnScope N_Ledger_account_of ["self", "school"] (C8.fnScope s_Ledger_account_of) := ⟨rfl, rfl, rfl, by decide +kernel, rfl, by decide +kernel, by decide +kernel⟩
abbrev s_Rules_init : Stmt := inClass (topS 22) 0
abbrev N_Rules_init : List Str := ["self", "told"]
theorem sc_Rules_init : FnScope N_Rules_init ["self", "told"] (C8.fnScope s_Rules_init) := ⟨rfl, rfl, rfl, by decide +kernel, rfl, by decide +kernel, by decide +kernel⟩
abbrev s_Rules_one : Stmt := inClass (topS 22) 1
abbrev N_Rules_one : List Str := ["self", "word"]
theorem sc_Rules_one : FnScope N_Rules_one ["self", "word"] (C8.fnScope s_Rules_one) := ⟨rfl, rfl, rfl, by decide +kernel, rfl, by decide +kernel, by decide +kernel⟩
abbrev s_Rules_judges_owed : Stmt := inClass (topS 22) 2
abbrev N_Rules_judges_owed : List Str := ["self", "teams", "judges"]
theorem sc_Rules_judges_owed : FnScope N_Rules_judges_owed ["self", "teams"] (C8.fnScope s_Rules_judges_owed) := ⟨rfl, rfl, rfl, by decide +kernel, rfl, by decide +kernel, by decide +kernel⟩
abbrev s_Rules_percent : Stmt := inClass (topS 22) 3
abbrev N_Rules_percent : List Str := ["self", "day", "ahead", "back", "k"]
theorem sc_Rules_percent : FnScope N_Rules_percent ["self", "day"] (C8.fnScope s_Rules_percent) := ⟨rfl, rfl, rfl, by decide +kernel, rfl, by decide +kernel, by decide +kernel⟩
abbrev s_Rules_row : Stmt := inClass (topS 22) 4
abbrev N_Rules_row : List Str := ["self", "row", "word"]
theorem sc_Rules_row : FnScope N_Rules_row ["self"] (C8.fnScope s_Rules_row) := ⟨rfl, rfl, rfl, by decide +kernel, rfl, by decide +kernel, by decide +kernel⟩
abbrev s_Rules_shown : Stmt := inClass (topS 22) 5
abbrev N_Rules_shown : List Str := ["self", "word"]
theorem sc_Rules_shown : FnScope N_Rules_shown ["self"] (C8.fnScope s_Rules_shown) := ⟨rfl, rfl, rfl, by decide +kernel, rfl, by decide +kernel, by decide +kernel⟩
abbrev s_School_init : Stmt := inClass (topS 34) 0
abbrev N_School_init : List Str := ["self", "number", "wanted", "judges"]
theorem sc_School_init : FnScope N_School_init ["self", "number", "wanted", "judges"] (C8.fnScope s_School_init) := ⟨rfl, rfl, rfl, by decide +kernel, rfl, by decide +kernel, by decide +kernel⟩
abbrev s_School_load : Stmt := inClass (topS 34) 1
abbrev N_School_load : List Str := ["self"]
theorem sc_School_load : FnScope N_School_load ["self"] (C8.fnScope s_School_load) := ⟨rfl, rfl, rfl, by decide +kernel, rfl, by decide +kernel, by decide +kernel⟩
abbrev s_Offer_init : Stmt := inClass (topS 35) 0
abbrev N_Offer_init : List Str := ["self", "number", "school", "day"]
theorem sc_Offer_init : FnScope N_Offer_init ["self", "number", "school", "day"] (C8.fnScope s_Offer_init) := ⟨rfl, rfl, rfl, by decide +kernel, rfl, by decide +kernel, by decide +kernel⟩
abbrev s_House_init : Stmt := inClass (topS 36) 0
abbrev N_House_init : List Str := ["self"]
theorem sc_House_init : FnScope N_House_init ["self"] (C8.fnScope s_House_init) := ⟨rfl, rfl, rfl, by decide +kernel, rfl, by decide +kernel, by decide +kernel⟩
abbrev s_House_begin : Stmt := inClass (topS 36) 1
abbrev N_House_begin : List Str := ["self"]
theorem sc_House_begin : FnScope N_House_begin ["self"] (C8.fnScope s_House_begin) := ⟨rfl, rfl, rfl, by decide +kernel, rfl, by decide +kernel, by decide +kernel⟩
abbrev s_House_most : Stmt := inClass (topS 36) 2
abbrev N_House_most : List Str := ["self", "school"]
theorem sc_House_most : FnScope N_House_most ["self", "school"] (C8.fnScope s_House_most) := ⟨rfl, rfl, rfl, by decide +kernel, rfl, by decide +kernel, by decide +kernel⟩
abbrev s_House_waits : Stmt := inClass (topS 36) 3
abbrev N_House_waits : List Str := ["self", "school"]
theorem sc_House_waits : FnScope N_House_waits ["self", "school"] (C8.fnScope s_House_waits) := ⟨rfl, rfl, rfl, by decide +kernel, rfl, by decide +kernel, by decide +kernel⟩
abbrev s_House_taken : Stmt := inClass (topS 36) 4
abbrev N_House_taken : List Str := ["self", "school"]
theorem sc_House_taken : FnScope N_House_taken ["self"] (C8.fnScope s_House_taken) := ⟨rfl, rfl, rfl, by decide +kernel, rfl, by decide +kernel, by decide +kernel⟩
abbrev s_House_free : Stmt := inClass (topS 36) 5
abbrev N_House_free : List Str := ["self"]
theorem sc_House_free : FnScope N_House_free ["self"] (C8.fnScope s_House_free) := ⟨rfl, rfl, rfl, by decide +kernel, rfl, by decide +kernel, by decide +kernel⟩
abbrev s_House_turns : Stmt := inClass (topS 36) 6
abbrev N_House_turns : List Str := ["self", "steps", "entered", "school", "load", "step"]
theorem sc_House_turns : FnScope N_House_turns ["self"] (C8.fnScope s_House_turns) := ⟨rfl, rfl, rfl, by decide +kernel, rfl, by decide +kernel, by decide +kernel⟩
abbrev s_House_last_day : Stmt := inClass (topS 36) 7
abbrev N_House_last_day : List Str := ["self", "offer"]
theorem sc_House_last_day : FnScope N_House_last_day ["self", "offer"] (C8.fnScope s_House_last_day) := ⟨rfl, rfl, rfl, by decide +kernel, rfl, by decide +kernel, by decide +kernel⟩
abbrev s_House_pass_night : Stmt := inClass (topS 36) 8
abbrev N_House_pass_night : List Str := ["self", "offer"]
theorem sc_House_pass_night : FnScope N_House_pass_night ["self"] (C8.fnScope s_House_pass_night) := ⟨rfl, rfl, rfl, by decide +kernel, rfl, by decide +kernel, by decide +kernel⟩
abbrev s_House_make_offers : Stmt := inClass (topS 36) 9
abbrev N_House_make_offers : List Str := ["self", "school"]
theorem sc_House_make_offers : FnScope N_House_make_offers ["self"] (C8.fnScope s_House_make_offers) := ⟨rfl, rfl, rfl, by decide +kernel, rfl, by decide +kernel, by decide +kernel⟩
abbrev s_House_make_offer : Stmt := inClass (topS 36) 10
abbrev N_House_make_offer : List Str := ["self", "school"]
theorem sc_House_make_offer : FnScope N_House_make_offer ["self", "school"] (C8.fnScope s_House_make_offer) := ⟨rfl, rfl, rfl, by decide +kernel, rfl, by decide +kernel, by decide +kernel⟩
abbrev s_House_end_offer : Stmt := inClass (topS 36) 11
abbrev N_House_end_offer : List Str := ["self", "offer"]
theorem sc_House_end_offer : FnScope N_House_end_offer ["self", "offer"] (C8.fnScope s_House_end_offer) := ⟨rfl, rfl, rfl, by decide +kernel, rfl, by decide +kernel, by decide +kernel⟩
abbrev s_House_lose_offer : Stmt := inClass (topS 36) 12
abbrev N_House_lose_offer : List Str := ["self", "offer"]
theorem sc_House_lose_offer : FnScope N_House_lose_offer ["self", "offer"] (C8.fnScope s_House_lose_offer) := ⟨rfl, rfl, rfl, by decide +kernel, rfl, by decide +kernel, by decide +kernel⟩
abbrev s_House_take_place : Stmt := inClass (topS 36) 13
abbrev N_House_take_place : List Str := ["self", "school"]
theorem sc_House_take_place : FnScope N_House_take_place ["self", "school"] (C8.fnScope s_House_take_place) := ⟨rfl, rfl, rfl, by decide +kernel, rfl, by decide +kernel, by decide +kernel⟩
abbrev s_House_give_up_places : Stmt := inClass (topS 36) 14
abbrev N_House_give_up_places : List Str := ["self", "school", "places", "given_back"]
theorem sc_House_give_up_places : FnScope N_House_give_up_places ["self", "school", "places", "given_back"] (C8.fnScope s_House_give_up_places) := ⟨rfl, rfl, rfl, by decide +kernel, rfl, by decide +kernel, by decide +kernel⟩
abbrev s_House_missing : Stmt := inClass (topS 36) 15
abbrev N_House_missing : List Str := ["self", "school"]
theorem sc_House_missing : FnScope N_House_missing ["self", "school"] (C8.fnScope s_House_missing) := ⟨rfl, rfl, rfl, by decide +kernel, rfl, by decide +kernel, by decide +kernel⟩
abbrev s_House_shut : Stmt := inClass (topS 36) 16
abbrev N_House_shut : List Str := ["self", "offer"]
theorem sc_House_shut : FnScope N_House_shut ["self"] (C8.fnScope s_House_shut) := ⟨rfl, rfl, rfl, by decide +kernel, rfl, by decide +kernel, by decide +kernel⟩
abbrev s_House_fine_schools : Stmt := inClass (topS 36) 17
abbrev N_House_fine_schools : List Str := ["self", "school", "fines"]
theorem sc_House_fine_schools : FnScope N_House_fine_schools ["self"] (C8.fnScope s_House_fine_schools) := ⟨rfl, rfl, rfl, by decide +kernel, rfl, by decide +kernel, by decide +kernel⟩
abbrev s_balance : Stmt := topS 8
abbrev N_balance : List Str := ["entries", "owed", "entry"]
theorem sc_balance : FnScope N_balance ["entries"] (C8.fnScope s_balance) := ⟨rfl, rfl, rfl, by decide +kernel, rfl, by decide +kernel, by decide +kernel⟩
abbrev s_sums : Stmt := topS 9
abbrev N_sums : List Str := ["entries", "kind"]
theorem sc_sums : FnScope N_sums ["entries"] (C8.fnScope s_sums) := ⟨rfl, rfl, rfl, by decide +kernel, rfl, by decide +kernel, by decide +kernel⟩
abbrev s_amount_of : Stmt := topS 10
abbrev N_amount_of : List Str := ["kind", "entries", "entry"]
theorem sc_amount_of : FnScope N_amount_of ["kind", "entries"] (C8.fnScope s_amount_of) := ⟨rfl, rfl, rfl, by decide +kernel, rfl, by decide +kernel, by decide +kernel⟩
abbrev s_shown_line : Stmt := topS 23
abbrev N_shown_line : List Str := ["word", "numbers", "number"]
theorem sc_shown_line : FnScope N_shown_line ["word", "numbers"] (C8.fnScope s_shown_line) := ⟨rfl, rfl, rfl, by decide +kernel, rfl, by decide +kernel, by decide +kernel⟩
abbrev s_read_lines : Stmt := topS 24
abbrev N_read_lines : List Str := ["numbers", "signs", "sign", "text", "number", "line"]
theorem sc_read_lines : FnScope N_read_lines ["numbers"] (C8.fnScope s_read_lines) := ⟨rfl, rfl, rfl, by decide +kernel, rfl, by decide +kernel, by decide +kernel⟩
abbrev s_words_of : Stmt := topS 25
abbrev N_words_of : List Str := ["line", "word"]
theorem sc_words_of : FnScope N_words_of ["line"] (C8.fnScope s_words_of) := ⟨rfl, rfl, rfl, by decide +kernel, rfl, by decide +kernel, by decide +kernel⟩
abbrev s_first_fault : Stmt := topS 26
abbrev N_first_fault : List Str := ["lines", "told", "at", "words", "kind"]
theorem sc_first_fault : FnScope N_first_fault ["lines"] (C8.fnScope s_first_fault) := ⟨rfl, rfl, rfl, by decide +kernel, rfl, by decide +kernel, by decide +kernel⟩
abbrev s_fault_of : Stmt := topS 27
abbrev N_fault_of : List Str := ["words", "told"]
theorem sc_fault_of : FnScope N_fault_of ["words", "told"] (C8.fnScope s_fault_of) := ⟨rfl, rfl, rfl, by decide +kernel, rfl, by decide +kernel, by decide +kernel⟩
abbrev s_numbers_fit : Stmt := topS 28
abbrev N_numbers_fit : List Str := ["word", "written", "numbers", "digits"]
theorem sc_numbers_fit : FnScope N_numbers_fit ["word", "written"] (C8.fnScope s_numbers_fit) := ⟨rfl, rfl, rfl, by decide +kernel, rfl, by decide +kernel, by decide +kernel⟩
abbrev s_is_number : Stmt := topS 29
abbrev N_is_number : List Str := ["digits"]
theorem sc_is_number : FnScope N_is_number ["digits"] (C8.fnScope s_is_number) := ⟨rfl, rfl, rfl, by decide +kernel, rfl, by decide +kernel, by decide +kernel⟩
abbrev s_within_bounds : Stmt := topS 30
abbrev N_within_bounds : List Str := ["word", "numbers", "number", "bound"]
theorem sc_within_bounds : FnScope N_within_bounds ["word", "numbers"] (C8.fnScope s_within_bounds) := ⟨rfl, rfl, rfl, by decide +kernel, rfl, by decide +kernel, by decide +kernel⟩
abbrev s_pairs_fit : Stmt := topS 31
abbrev N_pairs_fit : List Str := ["numbers", "k"]
theorem sc_pairs_fit : FnScope N_pairs_fit ["numbers"] (C8.fnScope s_pairs_fit) := ⟨rfl, rfl, rfl, by decide +kernel, rfl, by decide +kernel, by decide +kernel⟩
abbrev s_rules_of : Stmt := topS 32
abbrev N_rules_of : List Str := ["lines", "told", "words", "digits"]
theorem sc_rules_of : FnScope N_rules_of ["lines"] (C8.fnScope s_rules_of) := ⟨rfl, rfl, rfl, by decide +kernel, rfl, by decide +kernel, by decide +kernel⟩
abbrev s_clear : Stmt := topS 50
abbrev N_clear : List Str := ["house"]
theorem sc_clear : FnScope N_clear ["house"] (C8.fnScope s_clear) := ⟨rfl, rfl, rfl, by decide +kernel, rfl, by decide +kernel, by decide +kernel⟩
abbrev s_rules : Stmt := topS 51
abbrev N_rules : List Str := ["house", "text", "lines", "fault", "number"]
theorem sc_rules : FnScope N_rules ["house", "text"] (C8.fnScope s_rules) := ⟨rfl, rfl, rfl, by decide +kernel, rfl, by decide +kernel, by decide +kernel⟩
abbrev s_show : Stmt := topS 52
abbrev N_show : List Str := ["house", "shown", "sign"]
theorem sc_show : FnScope N_show ["house"] (C8.fnScope s_show) := ⟨rfl, rfl, rfl, by decide +kernel, rfl, by decide +kernel, by decide +kernel⟩
abbrev s_enter : Stmt := topS 53
abbrev N_enter : List Str := ["house", "number", "wanted", "judges", "before"]
theorem sc_enter : FnScope N_enter ["house", "number", "wanted", "judges"] (C8.fnScope s_enter) := ⟨rfl, rfl, rfl, by decide +kernel, rfl, by decide +kernel, by decide +kernel⟩
abbrev s_want : Stmt := topS 54
abbrev N_want : List Str := ["house", "number", "n", "school"]
theorem sc_want : FnScope N_want ["house", "number", "n"] (C8.fnScope s_want) := ⟨rfl, rfl, rfl, by decide +kernel, rfl, by decide +kernel, by decide +kernel⟩
abbrev s_bring : Stmt := topS 55
abbrev N_bring : List Str := ["house", "number", "n", "school"]
theorem sc_bring : FnScope N_bring ["house", "number", "n"] (C8.fnScope s_bring) := ⟨rfl, rfl, rfl, by decide +kernel, rfl, by decide +kernel, by decide +kernel⟩
abbrev s_accept : Stmt := topS 56
abbrev N_accept : List Str := ["house", "number", "offer"]
theorem sc_accept : FnScope N_accept ["house", "number"] (C8.fnScope s_accept) := ⟨rfl, rfl, rfl, by decide +kernel, rfl, by decide +kernel, by decide +kernel⟩
abbrev s_decline : Stmt := topS 57
abbrev N_decline : List Str := ["house", "number", "offer"]
theorem sc_decline : FnScope N_decline ["house", "number"] (C8.fnScope s_decline) := ⟨rfl, rfl, rfl, by decide +kernel, rfl, by decide +kernel, by decide +kernel⟩
abbrev s_drop : Stmt := topS 58
abbrev N_drop : List Str := ["house", "number", "n", "school", "percent", "given_back"]
theorem sc_drop : FnScope N_drop ["house", "number", "n"] (C8.fnScope s_drop) := ⟨rfl, rfl, rfl, by decide +kernel, rfl, by decide +kernel, by decide +kernel⟩
abbrev s_transfer : Stmt := topS 59
abbrev N_transfer : List Str := ["house", "a", "b", "giver", "taker"]
theorem sc_transfer : FnScope N_transfer ["house", "a", "b"] (C8.fnScope s_transfer) := ⟨rfl, rfl, rfl, by decide +kernel, rfl, by decide +kernel, by decide +kernel⟩
abbrev s_pay : Stmt := topS 60
abbrev N_pay : List Str := ["house", "number", "n", "school"]
theorem sc_pay : FnScope N_pay ["house", "number", "n"] (C8.fnScope s_pay) := ⟨rfl, rfl, rfl, by decide +kernel, rfl, by decide +kernel, by decide +kernel⟩
abbrev s_payout : Stmt := topS 61
abbrev N_payout : List Str := ["house", "number", "school", "account"]
theorem sc_payout : FnScope N_payout ["house", "number"] (C8.fnScope s_payout) := ⟨rfl, rfl, rfl, by decide +kernel, rfl, by decide +kernel, by decide +kernel⟩
abbrev s_night : Stmt := topS 62
abbrev N_night : List Str := ["house", "n", "before", "passed", "row", "offer"]
theorem sc_night : FnScope N_night ["house", "n"] (C8.fnScope s_night) := ⟨rfl, rfl, rfl, by decide +kernel, rfl, by decide +kernel, by decide +kernel⟩
abbrev s_close : Stmt := topS 63
abbrev N_close : List Str := ["house", "swing", "row", "school"]
theorem sc_close : FnScope N_close ["house"] (C8.fnScope s_close) := ⟨rfl, rfl, rfl, by decide +kernel, rfl, by decide +kernel, by decide +kernel⟩
abbrev s_tell_school : Stmt := topS 64
abbrev N_tell_school : List Str := ["house", "number", "school"]
theorem sc_tell_school : FnScope N_tell_school ["house", "number"] (C8.fnScope s_tell_school) := ⟨rfl, rfl, rfl, by decide +kernel, rfl, by decide +kernel, by decide +kernel⟩
abbrev s_tell_account : Stmt := topS 65
abbrev N_tell_account : List Str := ["house", "number", "school"]
theorem sc_tell_account : FnScope N_tell_account ["house", "number"] (C8.fnScope s_tell_account) := ⟨rfl, rfl, rfl, by decide +kernel, rfl, by decide +kernel, by decide +kernel⟩
abbrev s_tell_offers : Stmt := topS 66
abbrev N_tell_offers : List Str := ["house", "rows", "told", "row", "offer"]
theorem sc_tell_offers : FnScope N_tell_offers ["house"] (C8.fnScope s_tell_offers) := ⟨rfl, rfl, rfl, by decide +kernel, rfl, by decide +kernel, by decide +kernel⟩
abbrev s_tell_queue : Stmt := topS 67
abbrev N_tell_queue : List Str := ["house", "turns", "school"]
theorem sc_tell_queue : FnScope N_tell_queue ["house"] (C8.fnScope s_tell_queue) := ⟨rfl, rfl, rfl, by decide +kernel, rfl, by decide +kernel, by decide +kernel⟩
abbrev s_tell_money : Stmt := topS 68
abbrev N_tell_money : List Str := ["house", "entries"]
theorem sc_tell_money : FnScope N_tell_money ["house"] (C8.fnScope s_tell_money) := ⟨rfl, rfl, rfl, by decide +kernel, rfl, by decide +kernel, by decide +kernel⟩
abbrev s_tell_counts : Stmt := topS 69
abbrev N_tell_counts : List Str := ["house", "closed", "percent", "entries"]
theorem sc_tell_counts : FnScope N_tell_counts ["house"] (C8.fnScope s_tell_counts) := ⟨rfl, rfl, rfl, by decide +kernel, rfl, by decide +kernel, by decide +kernel⟩
abbrev s_answers : Stmt := topS 74
abbrev N_answers : List Str := ["calls"]
theorem sc_answers : FnScope N_answers ["calls"] (C8.fnScope s_answers) := ⟨rfl, rfl, rfl, by decide +kernel, rfl, by decide +kernel, by decide +kernel⟩
abbrev s_answers_on : Stmt := topS 75
abbrev N_answers_on : List Str := ["house", "calls", "answered", "call", "told"]
theorem sc_answers_on : FnScope N_answers_on ["house", "calls"] (C8.fnScope s_answers_on) := ⟨rfl, rfl, rfl, by decide +kernel, rfl, by decide +kernel, by decide +kernel⟩
abbrev s_read_calls : Stmt := topS 76
abbrev N_read_calls : List Str := ["calls", "read", "at", "call", "begin"]
theorem sc_read_calls : FnScope N_read_calls ["calls"] (C8.fnScope s_read_calls) := ⟨rfl, rfl, rfl, by decide +kernel, rfl, by decide +kernel, by decide +kernel⟩
abbrev s_answer : Stmt := topS 77
abbrev N_answer : List Str := ["house", "call", "handed", "todo"]
theorem sc_answer : FnScope N_answer ["house", "call", "handed"] (C8.fnScope s_answer) := ⟨rfl, rfl, rfl, by decide +kernel, rfl, by decide +kernel, by decide +kernel⟩
/-- UNTOLD, BOUNDS -/
def untold (A : Ad) : List (Str × V) := [("places", .ref A.u_places), ("form", .ref A.u_form), ("cap", .ref A.u_cap), ("judges", .ref A.u_judges), ("fee", .ref A.u_fee), ("fine", .ref A.u_fine), ("answer", .ref A.u_answer), ("start", .ref A.u_start), ("back", .ref A.u_back)]
def bounds (A : Ad) : List (Str × V) := [("places", .ref A.b_places), ("form", .ref A.b_form), ("cap", .ref A.b_cap), ("judges", .ref A.b_judges), ("fee", .ref A.b_fee), ("fine", .ref A.b_fine), ("answer", .ref A.b_answer), ("start", .ref A.b_start)]
def callsV (A : Ad) : List V := [.ref A.f_clear, .ref A.f_rules, .ref A.f_show, .ref A.f_enter, .ref A.f_want, .ref A.f_bring, .ref A.f_accept, .ref A.f_decline, .ref A.f_drop, .ref A.f_transfer, .ref A.f_pay, .ref A.f_payout, .ref A.f_night, .ref A.f_close, .ref A.f_tell_school, .ref A.f_tell_account, .ref A.f_tell_offers, .ref A.f_tell_queue, .ref A.f_tell_money, .ref A.f_tell_counts]
def numbersV : List V := [.int 0, .int 0, .int 0, .int 3, .int 2, .int 2, .int 1, .int 1, .int 2, .int 2, .int 2, .int 1, .int 1, .int 0, .int 1, .int 1, .int 0, .int 0, .int 0, .int 0]
/-- what the top has written -/
structure Txt (w : World) (K : PySem.W.Frag) (mg : Str → Option Value) (A : Ad) : Prop where
  cl_Ledger : Cls K A.cLedger
  na_Ledger : ∀ f, f ∈ (["entries"] : List Str) → NoAttr K A.cLedger f
  cl_Rules : Cls K A.cRules
  na_Rules : ∀ f, f ∈ (["told"] : List Str) → NoAttr K A.cRules f
  cl_School : Cls K A.cSchool
  na_School : ∀ f, f ∈ (["number", "wanted", "judges", "has", "offered"] : List Str) → NoAttr K A.cSchool f
  cl_Offer : Cls K A.cOffer
  na_Offer : ∀ f, f ∈ (["number", "school", "day"] : List Str) → NoAttr K A.cOffer f
  cl_House : Cls K A.cHouse
  na_House : ∀ f, f ∈ (["rules", "schools", "offers", "made", "day", "closed", "ledger"] : List Str) → NoAttr K A.cHouse f
  d_Ledger_init : ∃ fd, Mk K A.cLedger A.f_Ledger_init ∧ mg "Ledger" = some (.ref A.cLedger) ∧ C8.Fun K "__init__" "Ledger.__init__" s_Ledger_init A.f_Ledger_init fd ∧ Binds K fd ["self"] []
  d_Ledger_has_room : ∃ fd, Meth K A.cLedger "has_room" A.f_Ledger_has_room ∧ C8.Fun K "has_room" "Ledger.has_room" s_Ledger_has_room A.f_Ledger_has_room fd ∧ Binds K fd ["self", "more"] []
  d_Ledger_write : ∃ fd, Meth K A.cLedger "write" A.f_Ledger_write ∧ C8.Fun K "write" "Ledger.write" s_Ledger_write A.f_Ledger_write fd ∧ Binds K fd ["self", "school", "kind", "amount"] []
  d_Ledger_entries_of : ∃ fd, Meth K A.cLedger "entries_of" A.f_Ledger_entries_of ∧ C8.Fun K "entries_of" "Ledger.entries_of" s_Ledger_entries_of A.f_Ledger_entries_of fd ∧ Binds K fd ["self", "school"] []
  d_Ledger_account_of : ∃ fd, Meth K A.cLedger "account_of" A.f_Ledger_account_of ∧ C8.Fun K "account_of" "Ledger.account_of" s_Ledger_account_of A.f_Ledger_account_of fd ∧ Binds K fd ["self", "school"] []
  d_Rules_init : ∃ fd, Mk K A.cRules A.f_Rules_init ∧ mg "Rules" = some (.ref A.cRules) ∧ C8.Fun K "__init__" "Rules.__init__" s_Rules_init A.f_Rules_init fd ∧ Binds K fd ["self", "told"] []
  d_Rules_one : ∃ fd, Meth K A.cRules "one" A.f_Rules_one ∧ C8.Fun K "one" "Rules.one" s_Rules_one A.f_Rules_one fd ∧ Binds K fd ["self", "word"] []
  d_Rules_judges_owed : ∃ fd, Meth K A.cRules "judges_owed" A.f_Rules_judges_owed ∧ C8.Fun K "judges_owed" "Rules.judges_owed" s_Rules_judges_owed A.f_Rules_judges_owed fd ∧ Binds K fd ["self", "teams"] []
  d_Rules_percent : ∃ fd, Meth K A.cRules "percent" A.f_Rules_percent ∧ C8.Fun K "percent" "Rules.percent" s_Rules_percent A.f_Rules_percent fd ∧ Binds K fd ["self", "day"] []
  d_Rules_row : ∃ fd, Meth K A.cRules "row" A.f_Rules_row ∧ C8.Fun K "row" "Rules.row" s_Rules_row A.f_Rules_row fd ∧ Binds K fd ["self"] []
  d_Rules_shown : ∃ fd, Meth K A.cRules "shown" A.f_Rules_shown ∧ C8.Fun K "shown" "Rules.shown" s_Rules_shown A.f_Rules_shown fd ∧ Binds K fd ["self"] []
  d_School_init : ∃ fd, Mk K A.cSchool A.f_School_init ∧ mg "School" = some (.ref A.cSchool) ∧ C8.Fun K "__init__" "School.__init__" s_School_init A.f_School_init fd ∧ Binds K fd ["self", "number", "wanted", "judges"] []
  d_School_load : ∃ fd, Meth K A.cSchool "load" A.f_School_load ∧ C8.Fun K "load" "School.load" s_School_load A.f_School_load fd ∧ Binds K fd ["self"] []
  d_Offer_init : ∃ fd, Mk K A.cOffer A.f_Offer_init ∧ mg "Offer" = some (.ref A.cOffer) ∧ C8.Fun K "__init__" "Offer.__init__" s_Offer_init A.f_Offer_init fd ∧ Binds K fd ["self", "number", "school", "day"] []
  d_House_init : ∃ fd, Mk K A.cHouse A.f_House_init ∧ mg "House" = some (.ref A.cHouse) ∧ C8.Fun K "__init__" "House.__init__" s_House_init A.f_House_init fd ∧ Binds K fd ["self"] []
  d_House_begin : ∃ fd, Meth K A.cHouse "begin" A.f_House_begin ∧ C8.Fun K "begin" "House.begin" s_House_begin A.f_House_begin fd ∧ Binds K fd ["self"] []
  d_House_most : ∃ fd, Meth K A.cHouse "most" A.f_House_most ∧ C8.Fun K "most" "House.most" s_House_most A.f_House_most fd ∧ Binds K fd ["self", "school"] []
  d_House_waits : ∃ fd, Meth K A.cHouse "waits" A.f_House_waits ∧ C8.Fun K "waits" "House.waits" s_House_waits A.f_House_waits fd ∧ Binds K fd ["self", "school"] []
  d_House_taken : ∃ fd, Meth K A.cHouse "taken" A.f_House_taken ∧ C8.Fun K "taken" "House.taken" s_House_taken A.f_House_taken fd ∧ Binds K fd ["self"] []
  d_House_free : ∃ fd, Meth K A.cHouse "free" A.f_House_free ∧ C8.Fun K "free" "House.free" s_House_free A.f_House_free fd ∧ Binds K fd ["self"] []
  d_House_turns : ∃ fd, Meth K A.cHouse "turns" A.f_House_turns ∧ C8.Fun K "turns" "House.turns" s_House_turns A.f_House_turns fd ∧ Binds K fd ["self"] []
  d_House_last_day : ∃ fd, Meth K A.cHouse "last_day" A.f_House_last_day ∧ C8.Fun K "last_day" "House.last_day" s_House_last_day A.f_House_last_day fd ∧ Binds K fd ["self", "offer"] []
  d_House_pass_night : ∃ fd, Meth K A.cHouse "pass_night" A.f_House_pass_night ∧ C8.Fun K "pass_night" "House.pass_night" s_House_pass_night A.f_House_pass_night fd ∧ Binds K fd ["self"] []
  d_House_make_offers : ∃ fd, Meth K A.cHouse "make_offers" A.f_House_make_offers ∧ C8.Fun K "make_offers" "House.make_offers" s_House_make_offers A.f_House_make_offers fd ∧ Binds K fd ["self"] []
  d_House_make_offer : ∃ fd, Meth K A.cHouse "make_offer" A.f_House_make_offer ∧ C8.Fun K "make_offer" "House.make_offer" s_House_make_offer A.f_House_make_offer fd ∧ Binds K fd ["self", "school"] []
  d_House_end_offer : ∃ fd, Meth K A.cHouse "end_offer" A.f_House_end_offer ∧ C8.Fun K "end_offer" "House.end_offer" s_House_end_offer A.f_House_end_offer fd ∧ Binds K fd ["self", "offer"] []
  d_House_lose_offer : ∃ fd, Meth K A.cHouse "lose_offer" A.f_House_lose_offer ∧ C8.Fun K "lose_offer" "House.lose_offer" s_House_lose_offer A.f_House_lose_offer fd ∧ Binds K fd ["self", "offer"] []
  d_House_take_place : ∃ fd, Meth K A.cHouse "take_place" A.f_House_take_place ∧ C8.Fun K "take_place" "House.take_place" s_House_take_place A.f_House_take_place fd ∧ Binds K fd ["self", "school"] []
  d_House_give_up_places : ∃ fd, Meth K A.cHouse "give_up_places" A.f_House_give_up_places ∧ C8.Fun K "give_up_places" "House.give_up_places" s_House_give_up_places A.f_House_give_up_places fd ∧ Binds K fd ["self", "school", "places", "given_back"] []
  d_House_missing : ∃ fd, Meth K A.cHouse "missing" A.f_House_missing ∧ C8.Fun K "missing" "House.missing" s_House_missing A.f_House_missing fd ∧ Binds K fd ["self", "school"] []
  d_House_shut : ∃ fd, Meth K A.cHouse "shut" A.f_House_shut ∧ C8.Fun K "shut" "House.shut" s_House_shut A.f_House_shut fd ∧ Binds K fd ["self"] []
  d_House_fine_schools : ∃ fd, Meth K A.cHouse "fine_schools" A.f_House_fine_schools ∧ C8.Fun K "fine_schools" "House.fine_schools" s_House_fine_schools A.f_House_fine_schools fd ∧ Binds K fd ["self"] []
  d_balance : ∃ fd, C8.Def K mg "balance" s_balance A.f_balance fd ∧ Binds K fd ["entries"] []
  d_sums : ∃ fd, C8.Def K mg "sums" s_sums A.f_sums fd ∧ Binds K fd ["entries"] []
  d_amount_of : ∃ fd, C8.Def K mg "amount_of" s_amount_of A.f_amount_of fd ∧ Binds K fd ["kind", "entries"] []
  d_shown_line : ∃ fd, C8.Def K mg "shown_line" s_shown_line A.f_shown_line fd ∧ Binds K fd ["word", "numbers"] []
  d_read_lines : ∃ fd, C8.Def K mg "read_lines" s_read_lines A.f_read_lines fd ∧ Binds K fd ["numbers"] []
  d_words_of : ∃ fd, C8.Def K mg "words_of" s_words_of A.f_words_of fd ∧ Binds K fd ["line"] []
  d_first_fault : ∃ fd, C8.Def K mg "first_fault" s_first_fault A.f_first_fault fd ∧ Binds K fd ["lines"] []
  d_fault_of : ∃ fd, C8.Def K mg "fault_of" s_fault_of A.f_fault_of fd ∧ Binds K fd ["words", "told"] []
  d_numbers_fit : ∃ fd, C8.Def K mg "numbers_fit" s_numbers_fit A.f_numbers_fit fd ∧ Binds K fd ["word", "written"] []
  d_is_number : ∃ fd, C8.Def K mg "is_number" s_is_number A.f_is_number fd ∧ Binds K fd ["digits"] []
  d_within_bounds : ∃ fd, C8.Def K mg "within_bounds" s_within_bounds A.f_within_bounds fd ∧ Binds K fd ["word", "numbers"] []
  d_pairs_fit : ∃ fd, C8.Def K mg "pairs_fit" s_pairs_fit A.f_pairs_fit fd ∧ Binds K fd ["numbers"] []
  d_rules_of : ∃ fd, C8.Def K mg "rules_of" s_rules_of A.f_rules_of fd ∧ Binds K fd ["lines"] []
  d_clear : ∃ fd, C8.Def K mg "clear" s_clear A.f_clear fd ∧ Binds K fd ["house"] []
  d_rules : ∃ fd, C8.Def K mg "rules" s_rules A.f_rules fd ∧ Binds K fd ["house", "text"] []
  d_show : ∃ fd, C8.Def K mg "show" s_show A.f_show fd ∧ Binds K fd ["house"] []
  d_enter : ∃ fd, C8.Def K mg "enter" s_enter A.f_enter fd ∧ Binds K fd ["house", "number", "wanted", "judges"] []
  d_want : ∃ fd, C8.Def K mg "want" s_want A.f_want fd ∧ Binds K fd ["house", "number", "n"] []
  d_bring : ∃ fd, C8.Def K mg "bring" s_bring A.f_bring fd ∧ Binds K fd ["house", "number", "n"] []
  d_accept : ∃ fd, C8.Def K mg "accept" s_accept A.f_accept fd ∧ Binds K fd ["house", "number"] []
  d_decline : ∃ fd, C8.Def K mg "decline" s_decline A.f_decline fd ∧ Binds K fd ["house", "number"] []
  d_drop : ∃ fd, C8.Def K mg "drop" s_drop A.f_drop fd ∧ Binds K fd ["house", "number", "n"] []
  d_transfer : ∃ fd, C8.Def K mg "transfer" s_transfer A.f_transfer fd ∧ Binds K fd ["house", "a", "b"] []
  d_pay : ∃ fd, C8.Def K mg "pay" s_pay A.f_pay fd ∧ Binds K fd ["house", "number", "n"] []
  d_payout : ∃ fd, C8.Def K mg "payout" s_payout A.f_payout fd ∧ Binds K fd ["house", "number"] []
  d_night : ∃ fd, C8.Def K mg "night" s_night A.f_night fd ∧ Binds K fd ["house", "n"] []
  d_close : ∃ fd, C8.Def K mg "close" s_close A.f_close fd ∧ Binds K fd ["house"] []
  d_tell_school : ∃ fd, C8.Def K mg "tell_school" s_tell_school A.f_tell_school fd ∧ Binds K fd ["house", "number"] []
  d_tell_account : ∃ fd, C8.Def K mg "tell_account" s_tell_account A.f_tell_account fd ∧ Binds K fd ["house", "number"] []
  d_tell_offers : ∃ fd, C8.Def K mg "tell_offers" s_tell_offers A.f_tell_offers fd ∧ Binds K fd ["house"] []
  d_tell_queue : ∃ fd, C8.Def K mg "tell_queue" s_tell_queue A.f_tell_queue fd ∧ Binds K fd ["house"] []
  d_tell_money : ∃ fd, C8.Def K mg "tell_money" s_tell_money A.f_tell_money fd ∧ Binds K fd ["house"] []
  d_tell_counts : ∃ fd, C8.Def K mg "tell_counts" s_tell_counts A.f_tell_counts fd ∧ Binds K fd ["house"] []
  d_answers : ∃ fd, C8.Def K mg "answers" s_answers A.f_answers fd ∧ Binds K fd ["calls"] []
  d_answers_on : ∃ fd, C8.Def K mg "answers_on" s_answers_on A.f_answers_on fd ∧ Binds K fd ["house", "calls"] []
  d_read_calls : ∃ fd, C8.Def K mg "read_calls" s_read_calls A.f_read_calls fd ∧ Binds K fd ["calls"] []
  d_answer : ∃ fd, C8.Def K mg "answer" s_answer A.f_answer fd ∧ Binds K fd ["house", "call", "handed"] []
  c_MOST_ENTRIES : ∃ u, mg "MOST_ENTRIES" = some u ∧ L2.RelV (.int 400) u
  c_PAID : ∃ u, mg "PAID" = some u ∧ L2.RelV (.str "paid") u
  c_FEE : ∃ u, mg "FEE" = some u ∧ L2.RelV (.str "fee") u
  c_GIVEN_BACK : ∃ u, mg "GIVEN_BACK" = some u ∧ L2.RelV (.str "given back") u
  c_FINE : ∃ u, mg "FINE" = some u ∧ L2.RelV (.str "fine") u
  c_PAID_OUT : ∃ u, mg "PAID_OUT" = some u ∧ L2.RelV (.str "paid out") u
  c_SIGNS : ∃ u, mg "SIGNS" = some u ∧ L2.RelV (.str "\n 0123456789abcdefghijklmnopqrstuvwxyz") u
  c_MOST_DIGITS : ∃ u, mg "MOST_DIGITS" = some u ∧ L2.RelV (.int 4) u
  c_MOST_PAIRS : ∃ u, mg "MOST_PAIRS" = some u ∧ L2.RelV (.int 6) u
  c_MOST_DAYS : ∃ u, mg "MOST_DAYS" = some u ∧ L2.RelV (.int 200) u
  c_MOST_PERCENT : ∃ u, mg "MOST_PERCENT" = some u ∧ L2.RelV (.int 100) u
  c_UNKNOWN_WORD : ∃ u, mg "UNKNOWN_WORD" = some u ∧ L2.RelV (.int 1) u
  c_TOLD_ALREADY : ∃ u, mg "TOLD_ALREADY" = some u ∧ L2.RelV (.int 2) u
  c_WRONG_NUMBERS : ∃ u, mg "WRONG_NUMBERS" = some u ∧ L2.RelV (.int 3) u
  c_MOST_BYTES : ∃ u, mg "MOST_BYTES" = some u ∧ L2.RelV (.int 1000) u
  c_MOST_SCHOOLS : ∃ u, mg "MOST_SCHOOLS" = some u ∧ L2.RelV (.int 30) u
  c_MOST_NIGHTS : ∃ u, mg "MOST_NIGHTS" = some u ∧ L2.RelV (.int 30) u
  c_MOST_PAID : ∃ u, mg "MOST_PAID" = some u ∧ L2.RelV (.int 1000000) u
  c_LAST_DAY : ∃ u, mg "LAST_DAY" = some u ∧ L2.RelV (.int 1000) u
  c_OUT_OF_BOUNDS : ∃ u, mg "OUT_OF_BOUNDS" = some u ∧ L2.RelV (.int 1) u
  c_IN_ALREADY : ∃ u, mg "IN_ALREADY" = some u ∧ L2.RelV (.int 3) u
  c_CLOSED : ∃ u, mg "CLOSED" = some u ∧ L2.RelV (.int 4) u
  c_NOT_THERE : ∃ u, mg "NOT_THERE" = some u ∧ L2.RelV (.int 5) u
  c_NOT_ENOUGH : ∃ u, mg "NOT_ENOUGH" = some u ∧ L2.RelV (.int 6) u
  c_NOT_WAITING : ∃ u, mg "NOT_WAITING" = some u ∧ L2.RelV (.int 7) u
  c_NO_ROOM : ∃ u, mg "NO_ROOM" = some u ∧ L2.RelV (.int 9) u
  c_RULES : ∃ u, mg "RULES" = some u ∧ L2.RelV (.int 1) u
  c_UNTOLD : ∃ u, mg "UNTOLD" = some u ∧ L2.RelV (.ref A.dU) u
  c_BOUNDS : ∃ u, mg "BOUNDS" = some u ∧ L2.RelV (.ref A.dB) u
  c_CALLS : ∃ u, mg "CALLS" = some u ∧ L2.RelV (.ref A.tC) u
  c_NUMBERS : ∃ u, mg "NUMBERS" = some u ∧ L2.RelV (.ref A.tN) u
  kd_UNTOLD : KD K w A.dU (untold A)
  kd_BOUNDS : KD K w A.dB (bounds A)
  u_places : ∀ H, SqT K H A.u_places [.int 16]
  u_form : ∀ H, SqT K H A.u_form [.int 4]
  u_cap : ∀ H, SqT K H A.u_cap [.int 4]
  u_judges : ∀ H, SqT K H A.u_judges [.int 1, .int 2]
  u_fee : ∀ H, SqT K H A.u_fee [.int 1000]
  u_fine : ∀ H, SqT K H A.u_fine [.int 500]
  u_answer : ∀ H, SqT K H A.u_answer [.int 3]
  u_start : ∀ H, SqT K H A.u_start [.int 60]
  u_back : ∀ H, SqT K H A.u_back []
  b_places : ∀ H, SqT K H A.b_places [.ref A.bi_places]
  bi_places : ∀ H, SqT K H A.bi_places [.int 2, .int 60]
  b_form : ∀ H, SqT K H A.b_form [.ref A.bi_form]
  bi_form : ∀ H, SqT K H A.bi_form [.int 2, .int 4]
  b_cap : ∀ H, SqT K H A.b_cap [.ref A.bi_cap]
  bi_cap : ∀ H, SqT K H A.bi_cap [.int 1, .int 9]
  b_judges : ∀ H, SqT K H A.b_judges [.ref A.bi_judges, .ref A.bj_judges]
  bi_judges : ∀ H, SqT K H A.bi_judges [.int 0, .int 9]
  bj_judges : ∀ H, SqT K H A.bj_judges [.int 1, .int 9]
  b_fee : ∀ H, SqT K H A.b_fee [.ref A.bi_fee]
  bi_fee : ∀ H, SqT K H A.bi_fee [.int 0, .int 9999]
  b_fine : ∀ H, SqT K H A.b_fine [.ref A.bi_fine]
  bi_fine : ∀ H, SqT K H A.bi_fine [.int 0, .int 9999]
  b_answer : ∀ H, SqT K H A.b_answer [.ref A.bi_answer]
  bi_answer : ∀ H, SqT K H A.bi_answer [.int 1, .int 30]
  b_start : ∀ H, SqT K H A.b_start [.ref A.bi_start]
  bi_start : ∀ H, SqT K H A.bi_start [.int 1, .int 200]
  t_CALLS : ∀ H, SqT K H A.tC (callsV A)
  t_NUMBERS : ∀ H, SqT K H A.tN numbersV
  n_len : mg "len" = none
  n_sum : mg "sum" = none
  n_all : mg "all" = none
  n_ord : mg "ord" = none
  n_min : mg "min" = none
  n_max : mg "max" = none
  n_sorted : mg "sorted" = none
  n_int : mg "int" = none
  n_str : mg "str" = none
  n_tuple : mg "tuple" = none
  n_dict : mg "dict" = none
  n_list : mg "list" = none
  n_range : mg "range" = none
  n_enumerate : mg "enumerate" = none
  n_zip : mg "zip" = none
section
variable {P : Program} {w : World} {K : PySem.W.Frag} {mg : Str → Option Value} {base : Heap}
theorem calOf {x : Str} {st : Stmt} {f : Addr} {N ps : List Str} {k : Nat} {sp : Sp} (h : ∃ fd, C8.Def K mg x st f fd ∧ Binds K fd ps []) (S : FnScope N ps (C8.fnScope st)) (len : ∀ vs H Q E, sp vs H Q E → vs.length = ps.length)
    (hb : ∀ (cdv : Value) (Ar : Around) (outer : List Env) (s : Shared) (H : Hp) (vs : List V) (Q : VK) (E : XK), Room k (Ar.deeper (envOfC x (C8.fnScope st) s.heap.objs.size f cdv)) → sp vs H Q E →
      ∃ t, PSs (cxOf C8.CX0 P w K mg base N x (C8.fnScope st) f cdv Ar outer s H E).nox (C8.fnBody st) t ∧ t { nx := fun _ H' => Q .non H', rt := Q } (start N vs) H) : C8.Cal P w K mg base (k + 1) x sp [] := by
  obtain ⟨fd, D, b⟩ := h
  exact C8.cal0 D b .nil S len hb
theorem metOf {m qual : Str} {C : Addr} {st : Stmt} {f : Addr} {N ps : List Str} {k : Nat} {sp : Sp} (c : Cls K C) (h : ∃ fd, Meth K C m f ∧ C8.Fun K m qual st f fd ∧ Binds K fd ps []) (S : FnScope N ps (C8.fnScope st)) (len : ∀ vs H Q E, sp vs H Q E → vs.length = ps.length)
    (hb : ∀ (cdv : Value) (Ar : Around) (outer : List Env) (s : Shared) (H : Hp) (vs : List V) (Q : VK) (E : XK), Room k (Ar.deeper (envOfC qual (C8.fnScope st) s.heap.objs.size f cdv)) → sp vs H Q E →
      ∃ t, PSs (cxOf C8.CX0 P w K mg base N qual (C8.fnScope st) f cdv Ar outer s H E).nox (C8.fnBody st) t ∧ t { nx := fun _ H' => Q .non H', rt := Q } (start N vs) H) : C8.Met P w K mg base (k + 1) C m sp [] := by
  obtain ⟨fd, M, F, b⟩ := h
  exact C8.met0 c M F b S len hb
theorem makOf {x qual : Str} {C : Addr} {st : Stmt} {f : Addr} {N ps : List Str} {k : Nat} {sp : Sp} (h : ∃ fd, Mk K C f ∧ mg x = some (.ref C) ∧ C8.Fun K "__init__" qual st f fd ∧ Binds K fd ps []) (S : FnScope N ps (C8.fnScope st)) (len : ∀ vs H Q E, sp vs H Q E → vs.length = ps.length)
    (hb : ∀ (cdv : Value) (Ar : Around) (outer : List Env) (s : Shared) (H : Hp) (vs : List V) (Q : VK) (E : XK), Room k (Ar.deeper (envOfC qual (C8.fnScope st) s.heap.objs.size f cdv)) → sp vs H Q E →
      ∃ t, PSs (cxOf C8.CX0 P w K mg base N qual (C8.fnScope st) f cdv Ar outer s H E).nox (C8.fnBody st) t ∧ t { nx := fun _ H' => Q .non H', rt := Q } (start N vs) H) : C8.Mak P w K mg base (k + 1) x C sp [] := by
  obtain ⟨fd, M, hm, F, b⟩ := h
  exact C8.mak0 M hm F b .nil S len hb
end
end EH

/-! ## EHW -/
namespace EH
open PySem PySem.Spec PyProof.Rows L2 EHR
/-! ### lookups, ifs, new objects -/
theorem lk_here {k : Str} {v : V} {r : List (Str × V)} : List.lookup k ((k, v) :: r) = some v := by
  have e : (k == k) = true := beq_self_eq_true k
  simp only [List.lookup, e]
theorem lk_past {k g : Str} {v : V} {r : List (Str × V)} (h : (k == g) = false) : List.lookup k ((g, v) :: r) = List.lookup k r := by
  simp only [List.lookup, h]
theorem put_here {f : Str} {v x : V} {r : List (Str × V)} : putF f v ((f, x) :: r) = (f, v) :: r := if_pos rfl
theorem put_past {f g : Str} {v x : V} {r : List (Str × V)} (h : ¬ g = f) : putF f v ((g, x) :: r) = (g, x) :: putF f v r := if_neg h
theorem ifb {b : Bool} {A B : Prop} (h1 : b = true → A) (h2 : b = false → B) : if b = true then A else B := by
  cases b with
  | true => rw [if_pos rfl]; exact h1 rfl
  | false => rw [if_neg Bool.false_ne_true]; exact h2 rfl
theorem ifd {c : Prop} [Decidable c] {A B : Prop} (h1 : c → A) (h2 : ¬ c → B) : if decide c = true then A else B :=
  ifb (fun e => h1 (of_decide_eq_true e)) fun e => h2 (of_decide_eq_false e)
theorem ifn {c : Prop} [Decidable c] {A B : Prop} (h1 : ¬ c → A) (h2 : c → B) : if (!decide c) = true then A else B :=
  ifb (fun e => h1 (by simpa using e)) fun e => h2 (by simpa using e)
theorem ift {A B : Prop} (h : A) : if true = true then A else B := by rw [if_pos rfl]; exact h
theorem iff' {A B : Prop} (h : B) : if false = true then A else B := by rw [if_neg Bool.false_ne_true]; exact h
theorem Same.at1 {H H' : Hp} {a : Addr} {o : HO} (e : Same H H') (h : H a = some o) : H' a = some o := e a o h
theorem Same.new {H : Hp} {p : Addr} {o : HO} (h : H p = none) : Same H (upd H p o) := fun b u e => by
  rw [upd_ne (ne_of_none e h)]
  exact e
/-- behind a new object: the heap as a letter -/
theorem newO {H : Hp} {o : HO} {R : Addr → Hp → Prop} (k : ∀ (p : Addr) (H' : Hp), H p = none → Same H H' → H' p = some o → (∀ b, b ≠ p → H' b = H b) → R p H') : ∀ p, H p = none → R p (upd H p o) :=
  fun p hp => k p _ hp (Same.new hp) upd_same fun _ n => upd_ne n
theorem Same.seqT {K : PySem.W.Frag} {H H' : Hp} {a : Addr} {xs : List V} (e : Same H H') (h : SqT K H a xs) : SqT K H' a xs := by
  rcases h with (h | ⟨o, h⟩) | h
  · exact .inl (.inl (e _ _ h))
  · exact .inl (.inr ⟨o, e _ _ h⟩)
  · exact .inr h
theorem Same.ne {H : Hp} {a p : Addr} {o : HO} (h : H a = some o) (hp : H p = none) : a ≠ p := ne_of_none h hp
theorem atI0 {xs : List V} {v : V} (h : xs[0]? = some v) : atI xs 0 = some v := atI_nat (j := 0) h
/-! ### the parts of the program's state -/
abbrev lF (le : Addr) : List (Str × V) := [("entries", .ref le)]
abbrev rF (t : Addr) : List (Str × V) := [("told", .ref t)]
abbrev sFi (n w j h o : Int) : List (Str × V) := [("number", .int n), ("wanted", .int w), ("judges", .int j), ("has", .int h), ("offered", .int o)]
abbrev oFi (n : Int) (b : Addr) (d : Int) : List (Str × V) := [("number", .int n), ("school", .ref b), ("day", .int d)]
abbrev hFi (ru sd od : Addr) (made day : Int) (cl : Bool) (lg : Addr) : List (Str × V) := [("rules", .ref ru), ("schools", .ref sd), ("offers", .ref od), ("made", .int made), ("day", .int day), ("closed", .bl cl), ("ledger", .ref lg)]
end EH

/-! ## EHS -/
namespace EH
open PySem PySem.Spec PyProof.Rows L2 EHR
/-! ### the words of the rules, and their numbers -/
inductive Wd where
  | places | form | cap | judges | fee | fine | answer | start | back
  deriving DecidableEq
def Wd.nm : Wd → Str
  | .places => "places" | .form => "form" | .cap => "cap" | .judges => "judges" | .fee => "fee" | .fine => "fine" | .answer => "answer" | .start => "start" | .back => "back"
def wds : List Wd := [.places, .form, .cap, .judges, .fee, .fine, .answer, .start, .back]
def nums (r : Vbdbam.Rules) : Wd → List Int
  | .places => [(r.places : Int)] | .form => [(r.form : Int)] | .cap => [(r.cap : Int)] | .judges => [(r.judges : Int), (r.per : Int)] | .fee => [(r.fee : Int)] | .fine => [(r.fine : Int)]
  | .answer => [(r.answer : Int)] | .start => [(r.start : Int)] | .back => r.back.flatMap fun p => [(p.1 : Int), (p.2 : Int)]
def toldK (p : Wd → Addr) : List (Key × V) := wds.map fun w => (.inr w.nm, .ref (p w))
theorem told_val {p : Wd → Addr} : ∀ w : Wd, valV (toldK p) (.inr w.nm) = some (.ref (p w))
  | .places => by rfl
  | .form => by rfl
  | .cap => by rfl
  | .judges => by rfl
  | .fee => by rfl
  | .fine => by rfl
  | .answer => by rfl
  | .start => by rfl
  | .back => by rfl
/-- at ru stand the rules, at td what is told of them by n -/
def RlsN (K : PySem.W.Frag) (A : Ad) (H : Hp) (ru td : Addr) (n : Wd → List Int) : Prop :=
  ∃ dx p, H ru = some (.ins A.cRules dx (rF td)) ∧ H td = some (.dK (toldK p)) ∧ ∀ w, SqT K H (p w) ((n w).map .int)
theorem RlsN.same {K : PySem.W.Frag} {A : Ad} {H H' : Hp} {ru td : Addr} {n : Wd → List Int} (e : Same H H') (h : RlsN K A H ru td n) : RlsN K A H' ru td n := by
  obtain ⟨dx, p, h1, h2, h3⟩ := h
  exact ⟨dx, p, e _ _ h1, e _ _ h2, fun w => EH.Same.seqT e (h3 w)⟩
/-! ### entries of money -/
abbrev En := Int × Str × Int
def EnAt (H : Hp) (v : V) (e : En) : Prop := ∃ t, v = .ref t ∧ H t = some (.tup [.int e.1, .str e.2.1, .int e.2.2])
abbrev EnL (H : Hp) (es : List V) (l : List En) : Prop := Paired (EnAt H) es l
theorem EnAt.same {H H' : Hp} {v : V} {e : En} (s : Same H H') (h : EnAt H v e) : EnAt H' v e := by
  obtain ⟨t, h1, h2⟩ := h
  exact ⟨t, h1, s _ _ h2⟩
theorem EnL.same {H H' : Hp} (s : Same H H') : ∀ {es : List V} {l : List En}, EnL H es l → EnL H' es l
  | _, _, .nil => .nil
  | _, _, .cons h t => .cons (h.same s) (EnL.same s t)
theorem EnL.at {H : Hp} : ∀ {es : List V} {l : List En} {i : Nat} {v : V}, EnL H es l → es[i]? = some v → ∃ e, l[i]? = some e ∧ EnAt H v e
  | _, _, _, _, .nil, h => by simp at h
  | _, _, 0, _, .cons h _, e => by simp at e; subst e; exact ⟨_, rfl, h⟩
  | _, _, i + 1, _, .cons _ t, e => by
    obtain ⟨x, h1, h2⟩ := EnL.at (i := i) t (by simpa using e)
    exact ⟨x, by simpa using h1, h2⟩
theorem EnL.len {H : Hp} {es : List V} {l : List En} (h : EnL H es l) : es.length = l.length := Paired.length h
theorem take_one {α : Type} {l : List α} {i : Nat} {x : α} (h : l[i]? = some x) : l.take (i + 1) = l.take i ++ [x] := by
  rw [List.take_add_one, h]
  rfl
def balL (l : List En) : Int := l.foldl (fun o e => if e.2.1 = ("paid" : Str) ∨ e.2.1 = ("given back" : Str) then o + e.2.2 else o - e.2.2) 0
def amtL (k : Str) (l : List En) : Int := ((l.filter fun e => decide (e.2.1 = k)).map fun e => e.2.2).sum
def ofL (id : Int) (l : List En) : List En := l.filter fun e => decide (e.1 = id)
/-! ### new lists of a comprehension -/
/-- a thing that the walk over a reading doesn't open -/
structure Hold (p : Prop) : Prop where
  h : p
/-- in the turns of a comprehension: all is as it was, the new list at D as told -/
structure LcI (H1 : Hp) (D : Addr) (F : Nat → List V) (i : Nat) (H : Hp) : Prop where
  s : Same H1 H
  d : H D = some (.lst (F i))
theorem LcI.zero {H1 : Hp} {D : Addr} {F : Nat → List V} (h : H1 D = none) (e : F 0 = []) : LcI H1 D F 0 (upd H1 D (.lst [])) := ⟨Same.new h, by rw [e]; exact upd_same⟩
theorem LcI.put {H1 H H4 : Hp} {D : Addr} {F : Nat → List V} {i : Nat} {y : V} (p : LcI H1 D F i H) (s : Same H H4) (hD : H1 D = none) (e : F (i + 1) = F i ++ [y]) :
    LcI H1 D F (i + 1) (upd H4 D (.lst (F i ++ [y]))) := by
  refine ⟨fun b o h => ?_, by rw [e]; exact upd_same⟩
  rw [upd_ne (ne_of_none h hD)]
  exact s _ _ (p.s _ _ h)
theorem LcI.past {H1 H H4 : Hp} {D : Addr} {F : Nat → List V} {i : Nat} (p : LcI H1 D F i H) (s : Same H H4) (e : F (i + 1) = F i) : LcI H1 D F (i + 1) H4 :=
  ⟨p.s.trans s, by rw [e]; exact s _ _ p.d⟩
/-- a walk over values of which a test holds -/
theorem filt_take {α : Type} {l : List α} {p : α → Bool} {i : Nat} {x : α} (h : l[i]? = some x) : (l.take (i + 1)).filter p = (l.take i).filter p ++ if p x = true then [x] else [] := by
  rw [take_one h, List.filter_append]
  cases e : p x <;> simp [e]
/-- a statement where the walk over a reading halts -/
@[irreducible] def Stop (t : TS) : TS := t
theorem ps_stop {X : Cx} {st : Stmt} {t : TS} (h : PS X st t) : PS X st (Stop t) := by
  unfold Stop
  exact h
theorem Stop.go {t : TS} {D : Ends} {σ : L2.St} {H : Hp} (h : t D σ H) : Stop t D σ H := by
  unfold Stop
  exact h
theorem dput_i {H : Hp} {a : Addr} {kvs : List (Key × V)} {n : Int} {v : V} (e : H a = some (.dK kvs)) (hl : kvs.length < sizeLine) : DPut H a (.int n) v (upd H a (.dK (putK kvs (.inl n) v))) := DPut.k (k := .inl n) e hl
theorem kV_i {n : Int} : V.int n = kV (.inl n) := rfl
theorem kV_s {x : Str} : V.str x = kV (.inr x) := rfl
theorem isD_k {H : Hp} {a : Addr} {kvs : List (Key × V)} (h : H a = some (.dK kvs)) : IsD H a := .inl ⟨kvs, .inl h⟩
theorem isD_f {H : Hp} {a : Addr} {kvs : List (Key × V)} {od : Obj} (h : H a = some (.frz od (.dK kvs))) : IsD H a := .inl ⟨kvs, .inr ⟨od, h⟩⟩
theorem put_made {ru sd od : Addr} {m d n : Int} {c : Bool} {lg : Addr} : putF "made" (.int n) (hFi ru sd od m d c lg) = hFi ru sd od n d c lg := by rfl
theorem put_day {ru sd od : Addr} {m d n : Int} {c : Bool} {lg : Addr} : putF "day" (.int n) (hFi ru sd od m d c lg) = hFi ru sd od m n c lg := by rfl
theorem put_closed {ru sd od : Addr} {m d : Int} {c b : Bool} {lg : Addr} : putF "closed" (.bl b) (hFi ru sd od m d c lg) = hFi ru sd od m d b lg := by rfl
theorem put_rules {ru sd od : Addr} {m d : Int} {c : Bool} {lg ru' : Addr} : putF "rules" (.ref ru') (hFi ru sd od m d c lg) = hFi ru' sd od m d c lg := by rfl
theorem put_wanted {n w j h o v : Int} : putF "wanted" (.int v) (sFi n w j h o) = sFi n v j h o := by rfl
theorem put_judges {n w j h o v : Int} : putF "judges" (.int v) (sFi n w j h o) = sFi n w v h o := by rfl
theorem put_has {n w j h o v : Int} : putF "has" (.int v) (sFi n w j h o) = sFi n w j v o := by rfl
theorem put_offered {n w j h o v : Int} : putF "offered" (.int v) (sFi n w j h o) = sFi n w j h v := by rfl
/-- a new instance -/
theorem made {H H' : Hp} {x dx C : Addr} (hx : H x = none) (hd : H dx = none) (h : ∀ b, b ≠ x → H' b = upd (upd H dx (.own x)) x (.ins C dx []) b) : Same H H' := fun b o e => by
  rw [h b (ne_of_none e hx), upd_ne (ne_of_none e hx), upd_ne (ne_of_none e hd)]
  exact e
theorem lt_line {n : Nat} (h : n ≤ 1000000) : n < sizeLine := Nat.lt_of_le_of_lt h (by decide)
end EH

/-! ## EHL -/
namespace EH
open PySem PySem.Spec PyProof.Rows L2 EHR
local macro_rules | `(tactic| decreasing_trivial_pre_omega) => `(tactic| first
  | assumption
  | rfl
  | exact lk_here
  | exact Txt.cl_Ledger (by assumption) | exact Txt.cl_Rules (by assumption) | exact Txt.cl_School (by assumption) | exact Txt.cl_Offer (by assumption) | exact Txt.cl_House (by assumption)
  | exact Txt.na_Ledger (by assumption) _ (by decide +kernel) | exact Txt.na_Rules (by assumption) _ (by decide +kernel) | exact Txt.na_School (by assumption) _ (by decide +kernel) | exact Txt.na_Offer (by assumption) _ (by decide +kernel) | exact Txt.na_House (by assumption) _ (by decide +kernel)
  | exact (lk_past (by decide +kernel)).trans lk_here
  | exact (lk_past (by decide +kernel)).trans ((lk_past (by decide +kernel)).trans lk_here)
  | exact (lk_past (by decide +kernel)).trans ((lk_past (by decide +kernel)).trans ((lk_past (by decide +kernel)).trans lk_here))
  | exact (lk_past (by decide +kernel)).trans ((lk_past (by decide +kernel)).trans ((lk_past (by decide +kernel)).trans ((lk_past (by decide +kernel)).trans lk_here)))
  | exact (lk_past (by decide +kernel)).trans ((lk_past (by decide +kernel)).trans ((lk_past (by decide +kernel)).trans ((lk_past (by decide +kernel)).trans ((lk_past (by decide +kernel)).trans lk_here))))
  | exact (lk_past (by decide +kernel)).trans ((lk_past (by decide +kernel)).trans ((lk_past (by decide +kernel)).trans ((lk_past (by decide +kernel)).trans ((lk_past (by decide +kernel)).trans ((lk_past (by decide +kernel)).trans lk_here)))))
  | exact SqL.of (by assumption) | exact SqT.of (by assumption)
  | exact Or.inl (SqL.of (by assumption)) | exact Or.inr (SqT.of (by assumption)) | exact Or.inl (by assumption) | exact Or.inr (by assumption)
  | exact atI0 rfl | exact atI_nat (j := 1) rfl | exact atI_nat (j := 2) rfl
  | exact Or.inl ⟨rfl, _, SqL.of (by assumption)⟩
  | exact Nat.le_of_ble_eq_true rfl
  | exact Same.at1 (by assumption) (by assumption)
  | exact SqL.of (Same.at1 (by assumption) (by assumption)) | exact SqT.of (Same.at1 (by assumption) (by assumption)) | exact Or.inl (SqL.of (Same.at1 (by assumption) (by assumption))) | exact Or.inr (SqT.of (Same.at1 (by assumption) (by assumption)))
  | exact ⟨_, by assumption⟩
  | exact dput_i (by assumption) (by assumption) | exact kV_i | exact kV_s | exact isD_k (by assumption)
  | exact upd_same)
local macro_rules | `(tactic| get_elem_tactic_extensible) => `(tactic| repeat (first
  | refine And.intro (by decreasing_trivial_pre_omega) ?_
  | apply Exists.intro (α := V) | apply Exists.intro (α := Addr) | apply Exists.intro (α := List V) | apply Exists.intro (α := Int) | apply Exists.intro (α := Bool)
  | apply Exists.intro (α := List (Str × V)) | apply Exists.intro (α := Str) | apply Exists.intro (α := List (Key × V)) | apply Exists.intro (α := Option V)
  | apply Exists.intro (α := List Int) | apply Exists.intro (α := List Bool) | apply Exists.intro (α := List Str) | apply Exists.intro (α := Obj) | apply Exists.intro (α := List En) | apply Exists.intro (α := HAd) | apply Exists.intro (α := Vbdbam.State) | apply Exists.intro (α := Vbdbam.Rules) | apply Exists.intro (α := Hp) | apply Exists.intro (α := Key) | apply Exists.intro (α := Nat) | apply Exists.intro (α := Wd) | apply Exists.intro (α := Wd → List Int) | apply Exists.intro (α := Nat → Int)))
local macro_rules | `(tactic| decreasing_trivial) => `(tactic| (intro vs H Q E h; repeat (first | (obtain ⟨e, _⟩ := h; subst e; rfl) | (obtain ⟨_, h⟩ := h))))

/-! ### ledger.py -/
def sp_Ledger_init (_ : PySem.W.Frag) (A : Ad) : Sp := fun vs H Q _ => ∃ (x dx : Addr), vs = [.ref x] ∧ H x = some (.ins A.cLedger dx []) ∧ ∀ le H', H le = none → (∀ b, b ≠ x → b ≠ le → H' b = H b) → H' le = some (.lst []) → H' x = some (.ins A.cLedger dx (lF le)) → Q .non H'
theorem ok_Ledger_init {P : Program} {w : World} {K : PySem.W.Frag} {mg : Str → Option Value} {base : Heap} {A : Ad} (T : Txt w K mg A) : C8.Mak P w K mg base 1 "Ledger" A.cLedger (sp_Ledger_init K A) [] := by
  refine makOf T.d_Ledger_init sc_Ledger_init (by decreasing_trivial) (fun cdv Ar outer s0 H vs Q E hr hsp => ⟨_, (pss_one (ps_fld (pv 0) (pe_lst pa_nil) rfl)), ?_⟩)
  obtain ⟨x, dx, rfl, h1, q⟩ := hsp
  get_elem_tactic_extensible
  intro le hle
  have n1 : x ≠ le := Same.ne h1 hle
  refine ⟨_, rfl, x, _, dx, [], rfl, ?_, T.cl_Ledger, T.na_Ledger _ (by decide +kernel), by decide, ?_⟩
  · rw [upd_ne n1]; exact h1
  · refine q le _ hle (fun b b1 b2 => ?_) ?_ upd_same
    · rw [upd_ne b1, upd_ne b2]
    · rw [upd_ne n1.symm]; exact upd_same
def sp_Ledger_has_room (_ : PySem.W.Frag) (A : Ad) : Sp := fun vs H Q _ => ∃ (lg dx le : Addr) (es : List V) (n : Int), vs = [.ref lg, .int n] ∧ H lg = some (.ins A.cLedger dx (lF le)) ∧ H le = some (.lst es) ∧ Q (.bl (decide ((es.length : Int) + n ≤ 400))) H
theorem ok_Ledger_has_room {P : Program} {w : World} {K : PySem.W.Frag} {mg : Str → Option Value} {base : Heap} {A : Ad} (T : Txt w K mg A) : C8.Met P w K mg base 1 A.cLedger "has_room" (sp_Ledger_has_room K A) [] := by
  refine metOf T.cl_Ledger T.d_Ledger_has_room sc_Ledger_has_room (by decreasing_trivial) (fun cdv Ar outer s0 H vs Q E hr hsp => ⟨_, (pss_one (ps_ret (pe_cmpR op_le (pe_op op_add (pe_callB call_len_seq (by rfl) T.n_len (by decide +kernel) (pa_cons (pe_fld (pv 0) rfl) pa_nil)) (pv 1)) (C8.pe_gc rfl T.c_MOST_ENTRIES) (nomark _)))), ?_⟩)
  obtain ⟨lg, dx, le, es, n, rfl, h1, h2, q⟩ := hsp
  get_elem_tactic_extensible
  exact q
def sp_Ledger_write (_ : PySem.W.Frag) (A : Ad) : Sp := fun vs H Q _ => ∃ (lg dx le sc ds : Addr) (es : List V) (id w j h o n : Int) (k : Str), vs = [.ref lg, .ref sc, .str k, .int n] ∧ H lg = some (.ins A.cLedger dx (lF le)) ∧ H le = some (.lst es) ∧ H sc = some (.ins A.cSchool ds (sFi id w j h o)) ∧ es.length < 1000000 ∧
  ∀ t, H t = none → Q .non (upd (upd H t (.tup [.int id, .str k, .int n])) le (.lst (es ++ [.ref t])))
theorem ok_Ledger_write {P : Program} {w : World} {K : PySem.W.Frag} {mg : Str → Option Value} {base : Heap} {A : Ad} (T : Txt w K mg A) : C8.Met P w K mg base 1 A.cLedger "write" (sp_Ledger_write K A) [] := by
  refine metOf T.cl_Ledger T.d_Ledger_write sc_Ledger_write (by decreasing_trivial) (fun cdv Ar outer s0 H vs Q E hr hsp => ⟨_, (pss_one (ps_expr (pe_bm PySem.F.plainAttrs_list PySem.F.slot_list_append PySem.F.type_list_append mt_append (pe_fld (pv 0) rfl) (pa_cons (pe_tup (pa_cons (pe_fld (pv 1) rfl) (pa_cons (pv 2) (pa_cons (pv 3) pa_nil)))) pa_nil)))), ?_⟩)
  obtain ⟨lg, dx, le, sc, ds, es, id, w, j, h, o, n, k, rfl, h1, h2, h3, len, q⟩ := hsp
  get_elem_tactic_extensible
  intro t ht
  have n2 : le ≠ t := Same.ne h2 ht
  have h2' : upd H t (.tup [.int id, .str k, .int n]) le = some (.lst es) := by rw [upd_ne n2]; exact h2
  refine ⟨le, es, V.ref t, rfl, rfl, h2', lt_line (by omega), ?_⟩
  exact q t ht
def sp_balance (K : PySem.W.Frag) (_ : Ad) : Sp := fun vs H Q _ => ∃ (a : Addr) (es : List V) (l : List En), vs = [.ref a] ∧ SqL K H a es ∧ EnL H es l ∧ ∀ H', Same H H' → Q (.int (balL l)) H'
theorem ok_balance {P : Program} {w : World} {K : PySem.W.Frag} {mg : Str → Option Value} {base : Heap} {A : Ad} (T : Txt w K mg A) : C8.Cal P w K mg base 1 "balance" (sp_balance K A) [] := by
  refine calOf T.d_balance sc_balance (by decreasing_trivial) (fun cdv Ar outer s0 H vs Q E hr hsp => ⟨_, (pss_cons (ps_set (i := 1) sc_balance.nd rfl (Or.inl rfl) pe_int)
 (pss_cons (ps_for PassesOwn.never rfl (pi_list (pv 0)) (pg_name (i := 2) sc_balance.nd rfl (Or.inl rfl))
  (pss_one (ps_if (pt_cmpR op_in_seq (pe_ix ix_tup (pv 2) pe_int (fun _ _ => rfl)) (pe_tup (pa_cons (C8.pe_gc rfl T.c_PAID) (pa_cons (C8.pe_gc rfl T.c_GIVEN_BACK) pa_nil))) (by rfl)) (pss_one (ps_aug (i := 1) sc_balance.nd rfl (Or.inl rfl) (pe_ix ix_tup (pv 2) pe_int (fun _ _ => rfl)) ip_add)) (pss_one (ps_aug (i := 1) sc_balance.nd rfl (Or.inl rfl) (pe_ix ix_tup (pv 2) pe_int (fun _ _ => rfl)) ip_sub)))))
 (pss_one (ps_ret (pv 1))))), ?_⟩)
  obtain ⟨a, es, l, rfl, h1, h2, q⟩ := hsp
  get_elem_tactic_extensible
  refine for_it (walk_list (xs := es)) (fun i σ H' => Hold (Same H H' ∧ ∃ z, σ = [some (.ref a), some (.int (balL (l.take i))), z])) ⟨Same.refl H, _, rfl⟩ (fun i σ H' _ p => p.h.1.seq h1) (fun i x σ H1 H' hi p y => ?_) (fun σ H' p => ?_)
  · obtain ⟨rfl, hx⟩ := y
    obtain ⟨p1, z, rfl⟩ := p.h
    obtain ⟨e, he, t, rfl, ht⟩ := h2.at hx
    have ht := p1 _ _ ht
    get_elem_tactic_extensible
    intro p hp
    have ht2 := (Same.new (o := .tup [.str "paid", .str "given back"]) hp) _ _ ht
    have hp2 : SqT K (upd H' p (.tup [.str "paid", .str "given back"])) p [.str "paid", .str "given back"] := SqT.of upd_same
    have s2 := p1.trans (Same.new (o := .tup [.str "paid", .str "given back"]) hp)
    have hb : balL (l.take (i + 1)) = if e.2.1 = ("paid" : Str) ∨ e.2.1 = ("given back" : Str) then balL (l.take i) + e.2.2 else balL (l.take i) - e.2.2 := by
      unfold balL
      rw [take_one he, List.foldl_append]
      rfl
    have hin : inV (V.str e.2.1) [.str "paid", .str "given back"] = true ↔ e.2.1 = ("paid" : Str) ∨ e.2.1 = ("given back" : Str) := by
      rw [eq_comm (a := e.2.1) (b := "paid"), eq_comm (a := e.2.1) (b := "given back")]
      simp [inV, eqV]
    refine ⟨p, _, rfl, .inr hp2, rfl, rfl, _, rfl, ?_⟩
    refine ifb (fun hc => ?_) fun hc => ?_
    · rw [if_neg Bool.false_ne_true] at hc
      rw [if_pos (hin.mp hc)] at hb
      get_elem_tactic_extensible
      exact ⟨s2, _, by rw [hb]; rfl⟩
    · rw [if_neg Bool.false_ne_true] at hc
      rw [if_neg (fun h => by rw [hin.mpr h] at hc; cases hc)] at hb
      get_elem_tactic_extensible
      exact ⟨s2, _, by rw [hb]; rfl⟩
  · obtain ⟨p1, z, rfl⟩ := p.h
    rw [h2.len, List.take_length]
    get_elem_tactic_extensible
    exact q H' p1
theorem EnL.keep {H : Hp} {q : En → Bool} : ∀ {es : List V} {l : List En}, EnL H es l → EnL H (((es.zip l).filter fun p => q p.2).map Prod.fst) (l.filter q)
  | _, _, .nil => .nil
  | _, _, .cons (b := e) h t => by
    have r := EnL.keep (q := q) t
    cases hq : q e with
    | true => simpa [hq] using Paired.cons h r
    | false => simpa [hq] using r
theorem zip_at {es : List V} {l : List En} {i : Nat} {v : V} {e : En} (h : es[i]? = some v) (h' : l[i]? = some e) : (es.zip l)[i]? = some (v, e) := by
  rw [List.getElem?_zip_eq_some]
  exact ⟨h, h'⟩
def sp_Ledger_entries_of (K : PySem.W.Frag) (A : Ad) : Sp := fun vs H Q _ => ∃ (lg dx le sc ds : Addr) (es : List V) (l : List En) (id w j h o : Int), vs = [.ref lg, .ref sc] ∧ H lg = some (.ins A.cLedger dx (lF le)) ∧ SqL K H le es ∧ H sc = some (.ins A.cSchool ds (sFi id w j h o)) ∧ EnL H es l ∧ l.length ≤ 1000000 ∧
  ∀ p H' es', H p = none → Same H H' → H' p = some (.lst es') → EnL H' es' (ofL id l) → Q (.ref p) H'
theorem ok_Ledger_entries_of {P : Program} {w : World} {K : PySem.W.Frag} {mg : Str → Option Value} {base : Heap} {A : Ad} (T : Txt w K mg A) : C8.Met P w K mg base 1 A.cLedger "entries_of" (sp_Ledger_entries_of K A) [] := by
  refine metOf T.cl_Ledger T.d_Ledger_entries_of sc_Ledger_entries_of (by decreasing_trivial) (fun cdv Ar outer s0 H vs Q E hr hsp => ⟨_, (pss_one (ps_ret (pe_lc (own := [("entry", 2)]) (g := gName 2) (tt := (tTest (tOp _ (tOp (rIxT K) (tVar 2) (tC _)) (tFld K (tVar 1) "number")))) (te := (tVar 2)) (by rfl) sc_Ledger_entries_of.nd (pi_list (pe_fld (pv 0) rfl)) (blkOk_by (own := [("entry", 2)]) (N := N_Ledger_entries_of) (sc := C8.fnScope s_Ledger_entries_of) (by decide +kernel)) (fun _ _ _ _ _ => pg_name (i := 2) sc_Ledger_entries_of.nd rfl (Or.inl rfl)) (fun _ _ _ _ _ => (pts_one (pt_cmpR op_eq (pe_ix ix_tup (pv 2) pe_int (fun _ _ => rfl)) (pe_fld (pv 1) rfl) (nomark _)))) (fun _ _ _ _ _ => (pv 2))))), ?_⟩)
  obtain ⟨lg, dx, le, sc, ds, es, l, id, w, j, h, o, rfl, h1, h2, h3, h4, len, q⟩ := hsp
  get_elem_tactic_extensible
  intro D hD
  refine lc_it (walk_list (xs := es)) (LcI H D fun i => (((es.zip l).take i).filter fun p => decide (p.2.1 = id)).map Prod.fst) (LcI.zero hD rfl) (fun i H' _ p => p.s.seq h2) (fun i x H1 H' hi p y => ?_) (fun H' p => ?_)
  · obtain ⟨rfl, hx⟩ := y
    obtain ⟨e, he, t, rfl, ht⟩ := h4.at hx
    have ht := p.s _ _ ht
    have h3 := p.s _ _ h3
    have pd := p.d
    have lf : ((((es.zip l).take i).filter fun p => decide (p.2.1 = id)).map Prod.fst).length < sizeLine := by
      refine lt_line ?_
      have := List.length_filter_le (fun p => decide (p.2.1 = id)) ((es.zip l).take i)
      simp only [List.length_map, List.length_take, List.length_zip] at *
      omega
    have nx := filt_take (p := fun p => decide (p.2.1 = id)) (zip_at hx he)
    get_elem_tactic_extensible
    refine ifb (fun hc => ?_) fun hc => ?_
    · have hc : e.1 = id := V.int.inj (of_decide_eq_true hc)
      get_elem_tactic_extensible
      exact p.put (Same.refl _) hD (by rw [nx, if_pos (decide_eq_true hc), List.map_append]; rfl)
    · have hc : ¬ e.1 = id := fun h => of_decide_eq_false hc (by rw [h])
      exact p.past (Same.refl _) (by rw [nx, if_neg (by simpa using hc), List.append_nil])
  · refine q D H' _ hD p.s p.d ?_
    rw [List.take_of_length_le (by rw [List.length_zip]; omega)]
    exact (EnL.same p.s h4).keep (q := fun e => decide (e.1 = id))
def sp_amount_of (K : PySem.W.Frag) (_ : Ad) : Sp := fun vs H Q _ => ∃ (a : Addr) (es : List V) (l : List En) (k : Str), vs = [.str k, .ref a] ∧ SqL K H a es ∧ EnL H es l ∧ l.length ≤ 1000000 ∧ ∀ H', Same H H' → Q (.int (amtL k l)) H'
theorem ok_amount_of {P : Program} {w : World} {K : PySem.W.Frag} {mg : Str → Option Value} {base : Heap} {A : Ad} (T : Txt w K mg A) : C8.Cal P w K mg base 1 "amount_of" (sp_amount_of K A) [] := by
  refine calOf T.d_amount_of sc_amount_of (by decreasing_trivial) (fun cdv Ar outer s0 H vs Q E hr hsp => ⟨_, (pss_one (ps_ret (pe_callB (cr_sum rfl) (by rfl) T.n_sum (by decide +kernel) (pa_cons (pe_lc (own := [("entry", 2)]) (g := gName 2) (tt := (tTest (tOp _ (tOp (rIxT K) (tVar 2) (tC _)) (tVar 0)))) (te := (tOp (rIxT K) (tVar 2) (tC _))) (by rfl) sc_amount_of.nd (pi_list (pv 1)) (blkOk_by (own := [("entry", 2)]) (N := N_amount_of) (sc := C8.fnScope s_amount_of) (by decide +kernel)) (fun _ _ _ _ _ => pg_name (i := 2) sc_amount_of.nd rfl (Or.inl rfl)) (fun _ _ _ _ _ => (pts_one (pt_cmpR op_eq (pe_ix ix_tup (pv 2) pe_int (fun _ _ => rfl)) (pv 0) (nomark _)))) (fun _ _ _ _ _ => (pe_ix ix_tup (pv 2) pe_int (fun _ _ => rfl)))) pa_nil)))), ?_⟩)
  obtain ⟨a, es, l, k, rfl, h1, h2, len, q⟩ := hsp
  get_elem_tactic_extensible
  intro D hD
  have hl := h2.len
  refine lc_it (walk_list (xs := es)) (LcI H D fun i => ((l.take i).filter fun e => decide (e.2.1 = k)).map fun e => V.int e.2.2) (LcI.zero hD rfl) (fun i H' _ p => p.s.seq h1) (fun i x H1 H' hi p y => ?_) (fun H' p => ?_)
  · obtain ⟨rfl, hx⟩ := y
    obtain ⟨e, he, t, rfl, ht⟩ := h2.at hx
    have ht := p.s _ _ ht
    have pd := p.d
    have lf : (((l.take i).filter fun e => decide (e.2.1 = k)).map fun e => V.int e.2.2).length < sizeLine := by
      refine lt_line ?_
      have := List.length_filter_le (fun e => decide (e.2.1 = k)) (l.take i)
      simp only [List.length_map, List.length_take] at *
      omega
    have nx := filt_take (p := fun e => decide (e.2.1 = k)) he
    get_elem_tactic_extensible
    refine ifb (fun hc => ?_) fun hc => ?_
    · have hc : e.2.1 = k := V.str.inj (of_decide_eq_true hc)
      get_elem_tactic_extensible
      exact p.put (Same.refl _) hD (by rw [nx, if_pos (decide_eq_true hc), List.map_append]; rfl)
    · have hc : ¬ e.2.1 = k := fun h => of_decide_eq_false hc (by rw [h])
      exact p.past (Same.refl _) (by rw [nx, if_neg (by simpa using hc), List.append_nil])
  · have pd : H' D = some (.lst ((l.filter fun e => decide (e.2.1 = k)).map (fun e => e.2.2) |>.map V.int)) := by
      rw [p.d, hl, List.take_length, List.map_map]
      rfl
    get_elem_tactic_extensible
    exact q H' p.s
abbrev kinds5 : List Str := ["paid", "fee", "given back", "fine", "paid out"]
def sp_sums (K : PySem.W.Frag) (_ : Ad) : Sp := fun vs H Q _ => ∃ (a : Addr) (es : List V) (l : List En), vs = [.ref a] ∧ SqL K H a es ∧ EnL H es l ∧ l.length ≤ 1000000 ∧
  ∀ p H', H p = none → Same H H' → H' p = some (.lst [.int (amtL "paid" l), .int (amtL "fee" l), .int (amtL "given back" l), .int (amtL "fine" l), .int (amtL "paid out" l)]) → Q (.ref p) H'
theorem ok_sums {P : Program} {w : World} {K : PySem.W.Frag} {mg : Str → Option Value} {base : Heap} {A : Ad} (T : Txt w K mg A) : C8.Cal P w K mg base 2 "sums" (sp_sums K A) [] := by
  refine calOf T.d_sums sc_sums (by decreasing_trivial) (fun cdv Ar outer s0 H vs Q E hr hsp => ⟨_, (pss_one (ps_ret (pe_lc (own := [("kind", 1)]) (g := gName 1) (tt := tYes) (te := (tCall (sp_amount_of K A) [] C8.E0 (tCons (tVar 1) (tCons (tVar 0) tNil)))) (by rfl) sc_sums.nd (pi_tup (pe_tup (pa_cons (C8.pe_gc rfl T.c_PAID) (pa_cons (C8.pe_gc rfl T.c_FEE) (pa_cons (C8.pe_gc rfl T.c_GIVEN_BACK) (pa_cons (C8.pe_gc rfl T.c_FINE) (pa_cons (C8.pe_gc rfl T.c_PAID_OUT) pa_nil))))))) (blkOk_by (own := [("kind", 1)]) (N := N_sums) (sc := C8.fnScope s_sums) (by decide +kernel)) (fun _ _ _ _ _ => pg_name (i := 1) sc_sums.nd rfl (Or.inl rfl)) (fun _ _ _ _ _ => pts_nil) (fun _ _ _ _ _ => (C8.pe_c (ok_amount_of T) hr (by decide) rfl (pa_cons (pv 1) (pa_cons (pv 0) pa_nil))))))), ?_⟩)
  obtain ⟨a, es, l, rfl, h1, h2, len, q⟩ := hsp
  get_elem_tactic_extensible
  intro t ht
  generalize eo : HO.tup [.str "paid", .str "fee", .str "given back", .str "fine", .str "paid out"] = o
  have s1 := Same.new (o := o) ht
  have t1 : upd H t o t = some (.tup [.str "paid", .str "fee", .str "given back", .str "fine", .str "paid out"]) := by rw [eo]; exact upd_same
  generalize upd H t o = H1 at s1 t1
  have t2 : SqT K H1 t [.str "paid", .str "fee", .str "given back", .str "fine", .str "paid out"] := SqT.of t1
  refine ⟨t, rfl, ⟨_, t2⟩, ?_⟩
  intro D hD
  refine lc_it (walk_tup (xs := [.str "paid", .str "fee", .str "given back", .str "fine", .str "paid out"])) (LcI H1 D fun i => (kinds5.take i).map fun k => V.int (amtL k l)) (LcI.zero hD rfl) (fun i H' _ p => EH.Same.seqT p.s t2) (fun i x H1' H' hi p y => ?_) (fun H' p => ?_)
  · obtain ⟨rfl, hx⟩ := y
    obtain ⟨k, hk, rfl⟩ : ∃ k : Str, kinds5[i]? = some k ∧ x = .str k := by
      have hx : (kinds5.map V.str)[i]? = some x := hx
      rw [List.getElem?_map] at hx
      cases e : kinds5[i]? with
      | none => rw [e] at hx; cases hx
      | some k => rw [e] at hx; exact ⟨k, rfl, (Option.some.inj hx).symm⟩
    have s2 := s1.trans p.s
    have h1 := s2.seq h1
    have h2 := EnL.same s2 h2
    have pd := p.d
    have lf : ((kinds5.take i).map fun k => V.int (amtL k l)).length < sizeLine := by
      refine lt_line ?_
      simp only [List.length_map, List.length_take, List.length_cons, List.length_nil]
      omega
    get_elem_tactic_extensible
    intro H3 s3
    have pd := s3 _ _ pd
    get_elem_tactic_extensible
    exact p.put s3 hD (by rw [take_one hk, List.map_append]; rfl)
  · exact q D H' (s1.free hD) (s1.trans p.s) p.d
def sp_Ledger_account_of (K : PySem.W.Frag) (A : Ad) : Sp := fun vs H Q _ => ∃ (lg dx le sc ds : Addr) (es : List V) (l : List En) (id w j h o : Int), vs = [.ref lg, .ref sc] ∧ H lg = some (.ins A.cLedger dx (lF le)) ∧ SqL K H le es ∧ H sc = some (.ins A.cSchool ds (sFi id w j h o)) ∧ EnL H es l ∧ l.length ≤ 1000000 ∧
  ∀ H', Same H H' → Q (.int (balL (ofL id l))) H'
theorem ok_Ledger_account_of {P : Program} {w : World} {K : PySem.W.Frag} {mg : Str → Option Value} {base : Heap} {A : Ad} (T : Txt w K mg A) : C8.Met P w K mg base 2 A.cLedger "account_of" (sp_Ledger_account_of K A) [] := by
  refine metOf T.cl_Ledger T.d_Ledger_account_of sc_Ledger_account_of (by decreasing_trivial) (fun cdv Ar outer s0 H vs Q E hr hsp => ⟨_, (pss_one (ps_ret (C8.pe_c (ok_balance T) hr (by decide) rfl (pa_cons (C8.pe_mt (ok_Ledger_entries_of T) hr (by decide) (pv 0) (pa_cons (pv 1) pa_nil)) pa_nil)))), ?_⟩)
  obtain ⟨lg, dx, le, sc, ds, es, l, id, w, j, h, o, rfl, h1, h2, h3, h4, len, q⟩ := hsp
  get_elem_tactic_extensible
  intro p H' es' hp s hes hl
  have len2 : (ofL id l).length ≤ 1000000 := Nat.le_trans (List.length_filter_le _ _) len
  get_elem_tactic_extensible
  exact fun H2 s2 => q H2 (s.trans s2)
end EH

/-! ## EHA -/
namespace EH
open PySem PySem.Spec PyProof.Rows L2 EHR
/-! ### the house -/
/-- where the parts of a house stand -/
structure HAd where
  (ru td sd od lg le : Addr)
  (sa oa : Nat → Addr)
open Vbdbam in
def schK (s : State) (a : HAd) : List (Key × V) := (List.range s.schools.length).map fun i => (.inl (idAt s i : Int), .ref (a.sa i))
def offK (s : Vbdbam.State) (a : HAd) : List (Key × V) := s.offers.map fun o => (.inl (o.number : Int), .ref (a.oa o.number))
def kindS : Nat → Str
  | 0 => "paid" | 1 => "fee" | 2 => "given back" | 3 => "fine" | _ => "paid out"
def entOf (s : Vbdbam.State) (e : Vbdbam.Entry) : En := ((Vbdbam.idAt s e.school : Int), kindS e.kind, (e.amount : Int))
def ents (s : Vbdbam.State) : List En := s.money.map (entOf s)
abbrev sOf (s : Vbdbam.State) (i : Nat) (v : Int) : List (Str × V) := sFi (Vbdbam.idAt s i : Nat) ((Vbdbam.schoolAt s i).wanted : Nat) ((Vbdbam.schoolAt s i).judges : Nat) ((Vbdbam.schoolAt s i).has_ : Nat) v
/-- the house at h is s, what its schools tell of their open offers is off -/
structure AtO (K : PySem.W.Frag) (A : Ad) (H : Hp) (h : Addr) (a : HAd) (s : Vbdbam.State) (off : Nat → Int) : Prop where
  hs : ∃ dx, H h = some (.ins A.cHouse dx (hFi a.ru a.sd a.od (s.next : Nat) (s.day : Nat) s.closed a.lg))
  ru : RlsN K A H a.ru a.td (nums s.rules)
  sd : H a.sd = some (.dK (schK s a))
  sc : ∀ i, i < s.schools.length → ∃ dx, H (a.sa i) = some (.ins A.cSchool dx (sOf s i (off i)))
  od : H a.od = some (.dK (offK s a))
  of : ∀ o, o ∈ s.offers → ∃ dx, H (a.oa o.number) = some (.ins A.cOffer dx (oFi (o.number : Nat) (a.sa o.school) (o.day : Nat)))
  lg : ∃ dx, H a.lg = some (.ins A.cLedger dx (lF a.le))
  le : ∃ es, H a.le = some (.lst es) ∧ EnL H es (ents s)
  inj : ∀ i j, i < s.schools.length → j < s.schools.length → a.sa i = a.sa j → i = j
  d1 : a.sd ≠ a.od
  d2 : a.td ≠ a.sd
  d3 : a.td ≠ a.od
abbrev At (K : PySem.W.Frag) (A : Ad) (H : Hp) (h : Addr) (a : HAd) (s : Vbdbam.State) : Prop := AtO K A H h a s fun i => (Vbdbam.offersTo s i : Nat)
/-! ### one object is written -/
def shp : HO → Nat
  | .ins _ _ fs => 10 + fs.length | .lst _ => 1 | .tup _ => 2 | .dK _ => 3 | _ => 0
section
variable {K : PySem.W.Frag} {A : Ad} {H : Hp} {x b : Addr} {u o o' : HO}
theorem ne_shp (h : H x = some u) (hb : H b = some o) (d : Nat.beq (shp u) (shp o) = false) : x ≠ b :=
  ne_of h hb fun e => by rw [e, Nat.beq_refl] at d; cases d
theorem keepS (h : H x = some u) (hb : H b = some o) (d : Nat.beq (shp u) (shp o) = false) : upd H b o' x = some u := by
  rw [upd_ne (ne_shp h hb d)]
  exact h
theorem keepT {a : Addr} {xs : List V} (h : SqT K H a xs) (hb : H b = some o) (d : Nat.beq 2 (shp o) = false) (d0 : Nat.beq 0 (shp o) = false) : SqT K (upd H b o') a xs := by
  rcases h with (h | ⟨od, h⟩) | h
  · exact .inl (.inl (keepS h hb d))
  · exact .inl (.inr ⟨od, keepS h hb d0⟩)
  · exact .inr h
theorem keepE {es : List V} {l : List En} (hb : H b = some o) (d : Nat.beq 2 (shp o) = false) (h : EnL H es l) : EnL (upd H b o') es l := by
  induction h with
  | nil => exact .nil
  | cons h t ih =>
    obtain ⟨t, h1, h2⟩ := h
    exact .cons ⟨t, h1, keepS h2 hb d⟩ ih
theorem keepR {ru td : Addr} {n : Wd → List Int} (h : RlsN K A H ru td n) (hb : H b = some o) (d0 : Nat.beq 0 (shp o) = false) (d2 : Nat.beq 2 (shp o) = false) (d11 : Nat.beq 11 (shp o) = false) (dt : td ≠ b) : RlsN K A (upd H b o') ru td n := by
  obtain ⟨dx, p, h1, h2, h3⟩ := h
  exact ⟨dx, p, keepS h1 hb d11, by rw [upd_ne dt]; exact h2, fun w => keepT (h3 w) hb d2 d0⟩
theorem RlsN.td (h : RlsN K A H x b n) : ∃ kvs, H b = some (.dK kvs) := by
  obtain ⟨_, _, _, h2, _⟩ := h
  exact ⟨_, h2⟩
end
/-! ### what stays for those around -/
def stab : HO → Bool
  | .lst _ => true | .tup _ => true | .ins _ _ fs => Nat.beq fs.length 3 | _ => false
/-- lists, tuples and offers stay as they are, but the list at le -/
def Frm (le : Addr) (H H' : Hp) : Prop := ∀ b o, H b = some o → stab o = true → b ≠ le → H' b = some o
theorem Frm.of_same {le : Addr} {H H' : Hp} (e : Same H H') : Frm le H H' := fun b o h _ _ => e b o h
theorem Frm.trans {le : Addr} {H H1 H2 : Hp} (x : Frm le H H1) (y : Frm le H1 H2) : Frm le H H2 := fun b o h s n => y b o (x b o h s n) s n
theorem Frm.upd {le b : Addr} {H : Hp} {o o' : HO} (hb : H b = some o) (d : stab o = false) : Frm le H (upd H b o') := fun c u h s _ => by
  rw [upd_ne (ne_of h hb fun e => by rw [e, d] at s; cases s)]
  exact h
theorem Frm.updLe {le : Addr} {H : Hp} {o' : HO} : Frm le H (L2.upd H le o') := fun c u h _ n => by
  rw [upd_ne n]
  exact h
/-! ### the specification's words -/
open Vbdbam
theorem setSchool_len {s : State} {i : Nat} {f : Vbdbam.School → Vbdbam.School} : (setSchool s i f).length = s.schools.length := by
  simp [setSchool]
theorem schoolAt_set {s : State} {i j : Nat} {f : Vbdbam.School → Vbdbam.School} (hj : j < s.schools.length) : schoolAt { s with schools := setSchool s i f } j = if j = i then f (schoolAt s j) else schoolAt s j := by
  show ((setSchool s i f)[j]?).getD _ = _
  simp [setSchool, hj]
theorem schoolAt_eq {s : State} {i : Nat} (hi : i < s.schools.length) : s.schools[i] = schoolAt s i := by simp [schoolAt, hi]
theorem idAt_set {s : State} {i j : Nat} {f : Vbdbam.School → Vbdbam.School} (hj : j < s.schools.length) (hf : (f (schoolAt s i)).id = (schoolAt s i).id) : idAt { s with schools := setSchool s i f } j = idAt s j := by
  unfold idAt
  rw [schoolAt_set hj]
  by_cases e : j = i
  · subst e; rw [if_pos rfl]; exact hf
  · rw [if_neg e]
end EH

/-! ## EHA2 -/
namespace EH
open PySem PySem.Spec PyProof.Rows L2 EHR
open Vbdbam (State idAt schoolAt setSchool)
section
variable {K : PySem.W.Frag} {A : Ad} {H H' : Hp} {h : Addr} {a : HAd} {s : State} {off : Nat → Int}
theorem AtO.same (e : Same H H') (p : AtO K A H h a s off) : AtO K A H' h a s off where
  hs := p.hs.imp fun _ q => e _ _ q
  ru := p.ru.same e
  sd := e _ _ p.sd
  sc i hi := (p.sc i hi).imp fun _ q => e _ _ q
  od := e _ _ p.od
  of o ho := (p.of o ho).imp fun _ q => e _ _ q
  lg := p.lg.imp fun _ q => e _ _ q
  le := p.le.imp fun _ q => ⟨e _ _ q.1, EnL.same e q.2⟩
  inj := p.inj
  d1 := p.d1
  d2 := p.d2
  d3 := p.d3
theorem AtO.reoff (p : AtO K A H h a s off) {off' : Nat → Int} (e : ∀ i, i < s.schools.length → off i = off' i) : AtO K A H h a s off' :=
  { p with sc := fun i hi => by rw [← e i hi]; exact p.sc i hi }
theorem schK_set {i : Nat} {f : Vbdbam.School → Vbdbam.School} (hf : (f (schoolAt s i)).id = (schoolAt s i).id) : schK { s with schools := setSchool s i f } a = schK s a := by
  unfold schK
  show (List.range (setSchool s i f).length).map _ = _
  rw [setSchool_len]
  refine List.map_congr_left fun j hj => ?_
  rw [idAt_set (List.mem_range.mp hj) hf]
theorem ents_set {i : Nat} {f : Vbdbam.School → Vbdbam.School} (hm : ∀ e, e ∈ s.money → e.school < s.schools.length) (hf : (f (schoolAt s i)).id = (schoolAt s i).id) : ents { s with schools := setSchool s i f } = ents s := by
  refine List.map_congr_left fun e he => ?_
  unfold entOf
  rw [idAt_set (hm e he) hf]
/-- a school's record is written -/
theorem AtO.school (p : AtO K A H h a s off) (hm : ∀ e, e ∈ s.money → e.school < s.schools.length) {i : Nat} (hi : i < s.schools.length) {f : Vbdbam.School → Vbdbam.School} (hf : (f (schoolAt s i)).id = (schoolAt s i).id) {dx : Addr} {v w j o : Int}
    (hw : w = ((f (schoolAt s i)).wanted : Nat)) (hj : j = ((f (schoolAt s i)).judges : Nat)) (ho : o = ((f (schoolAt s i)).has_ : Nat)) :
    AtO K A (upd H (a.sa i) (.ins A.cSchool dx (sFi (idAt s i : Nat) w j o v))) h a { s with schools := setSchool s i f } (fun j => if j = i then v else off j) := by
  obtain ⟨dxi, hb⟩ := p.sc i hi
  obtain ⟨kvt, htd⟩ := p.ru.td
  subst hw hj ho
  exact {
    hs := p.hs.imp fun _ q => keepS q hb rfl
    ru := keepR p.ru hb rfl rfl rfl (ne_shp htd hb rfl)
    sd := by rw [schK_set hf]; exact keepS p.sd hb rfl
    sc := fun k hk => by
      have hk' : k < s.schools.length := by rw [← setSchool_len (f := f) (i := i)]; exact hk
      by_cases e : k = i
      · subst e
        refine ⟨dx, ?_⟩
        rw [upd_same, if_pos rfl]
        unfold sOf
        rw [idAt_set (s := s) hk' hf, schoolAt_set (s := s) hk', if_pos rfl]
      · obtain ⟨dk, q⟩ := p.sc k hk'
        refine ⟨dk, ?_⟩
        rw [upd_ne (fun c => e (p.inj k i hk' hi c)), if_neg e, q]
        unfold sOf
        rw [idAt_set (s := s) hk' hf, schoolAt_set (s := s) hk', if_neg e]
    od := keepS p.od hb rfl
    of := fun o ho => (p.of o ho).imp fun _ q => keepS q hb rfl
    lg := p.lg.imp fun _ q => keepS q hb rfl
    le := p.le.imp fun _ q => ⟨keepS q.1 hb rfl, by rw [ents_set hm hf]; exact keepE hb rfl q.2⟩
    inj := fun k l hk hl => p.inj k l (by rw [← setSchool_len (f := f) (i := i)]; exact hk) (by rw [← setSchool_len (f := f) (i := i)]; exact hl)
    d1 := p.d1
    d2 := p.d2
    d3 := p.d3 }
/-- the house's record is written -/
theorem AtO.house (p : AtO K A H h a s off) {n d : Nat} {c : Bool} {dx : Addr} {ni di : Int} (hn : ni = (n : Nat)) (hd : di = (d : Nat)) :
    AtO K A (upd H h (.ins A.cHouse dx (hFi a.ru a.sd a.od ni di c a.lg))) h a { s with next := n, day := d, closed := c } off := by
  obtain ⟨dxi, hb⟩ := p.hs
  obtain ⟨kvt, htd⟩ := p.ru.td
  subst hn hd
  exact {
    hs := ⟨dx, upd_same⟩
    ru := keepR p.ru hb rfl rfl rfl (ne_shp htd hb rfl)
    sd := keepS p.sd hb rfl
    sc := fun k hk => (p.sc k hk).imp fun _ q => keepS q hb rfl
    od := keepS p.od hb rfl
    of := fun o ho => (p.of o ho).imp fun _ q => keepS q hb rfl
    lg := p.lg.imp fun _ q => keepS q hb rfl
    le := p.le.imp fun _ q => ⟨keepS q.1 hb rfl, keepE hb rfl q.2⟩
    inj := p.inj
    d1 := p.d1
    d2 := p.d2
    d3 := p.d3 }
/-- the dict of the offers is written: some are gone -/
theorem AtO.offers (p : AtO K A H h a s off) {l : List Vbdbam.Offer} (hl : ∀ o, o ∈ l → o ∈ s.offers) {kvs : List (Key × V)} (hk : kvs = offK { s with offers := l } a) :
    AtO K A (upd H a.od (.dK kvs)) h a { s with offers := l } off := by
  subst hk
  obtain ⟨kvt, htd⟩ := p.ru.td
  have hb := p.od
  exact {
    hs := p.hs.imp fun _ q => keepS q hb rfl
    ru := keepR p.ru hb rfl rfl rfl p.d3
    sd := by rw [upd_ne p.d1]; exact p.sd
    sc := fun k hk => (p.sc k hk).imp fun _ q => keepS q hb rfl
    od := upd_same
    of := fun o ho => (p.of o (hl o ho)).imp fun _ q => keepS q hb rfl
    lg := p.lg.imp fun _ q => keepS q hb rfl
    le := p.le.imp fun _ q => ⟨keepS q.1 hb rfl, keepE hb rfl q.2⟩
    inj := p.inj
    d1 := p.d1
    d2 := p.d2
    d3 := p.d3 }
/-- .. one more -/
theorem AtO.offer (p : AtO K A H h a s off) {o : Vbdbam.Offer} {q dx : Addr} (hq : H q = some (.ins A.cOffer dx (oFi (o.number : Nat) (a.sa o.school) (o.day : Nat)))) (hn : ∀ x, x ∈ s.offers → x.number ≠ o.number) {kvs : List (Key × V)}
    (hk : kvs = offK s a ++ [(.inl (o.number : Int), .ref q)]) :
    AtO K A (upd H a.od (.dK kvs)) h { a with oa := fun k => if k = o.number then q else a.oa k } { s with offers := s.offers ++ [o] } off := by
  subst hk
  obtain ⟨kvt, htd⟩ := p.ru.td
  have hb := p.od
  exact {
    hs := p.hs.imp fun _ q => keepS q hb rfl
    ru := keepR p.ru hb rfl rfl rfl p.d3
    sd := by show upd H a.od _ a.sd = _; rw [upd_ne p.d1]; exact p.sd
    sc := fun k hk => (p.sc k hk).imp fun _ q => keepS q hb rfl
    od := by
      show upd H a.od _ a.od = _
      rw [upd_same]
      unfold offK
      rw [List.map_append]
      congr 3
      · refine List.map_congr_left fun x hx => ?_
        show _ = (Sum.inl (x.number : Int), V.ref (if x.number = o.number then q else a.oa x.number))
        rw [if_neg (hn x hx)]
      · simp
    of := fun x hx => by
      rcases List.mem_append.mp hx with hx | hx
      · refine (p.of x hx).imp fun _ r => ?_
        show upd H a.od _ (if x.number = o.number then q else a.oa x.number) = _
        rw [if_neg (hn x hx)]
        exact keepS r hb rfl
      · rw [List.mem_singleton.mp hx]
        refine ⟨dx, ?_⟩
        show upd H a.od _ (if o.number = o.number then q else a.oa o.number) = _
        rw [if_pos rfl]
        exact keepS hq hb rfl
    lg := p.lg.imp fun _ q => keepS q hb rfl
    le := p.le.imp fun _ q => ⟨keepS q.1 hb rfl, keepE hb rfl q.2⟩
    inj := p.inj
    d1 := p.d1
    d2 := p.d2
    d3 := p.d3 }
/-- an entry of money is written -/
theorem AtO.entry (p : AtO K A H h a s off) {es : List V} (hes : H a.le = some (.lst es)) {e : Vbdbam.Entry} {t : Addr} {id n : Int} {k : Str} (ht : H t = none) (hid : id = (idAt s e.school : Nat)) (hk : k = kindS e.kind) (hn : n = (e.amount : Nat)) :
    AtO K A (upd (upd H t (.tup [.int id, .str k, .int n])) a.le (.lst (es ++ [.ref t]))) h a { s with money := s.money ++ [e] } off := by
  subst hid hk hn
  have p2 := p.same (Same.new (o := .tup [.int (idAt s e.school : Nat), .str (kindS e.kind), .int (e.amount : Nat)]) ht)
  have h2 : upd H t (.tup [.int (idAt s e.school : Nat), .str (kindS e.kind), .int (e.amount : Nat)]) t = some (.tup [.int (idAt s e.school : Nat), .str (kindS e.kind), .int (e.amount : Nat)]) := upd_same
  have hes2 := Same.new (o := .tup [.int (idAt s e.school : Nat), .str (kindS e.kind), .int (e.amount : Nat)]) ht _ _ hes
  generalize upd H t (.tup [.int (idAt s e.school : Nat), .str (kindS e.kind), .int (e.amount : Nat)]) = H1 at p2 h2 hes2
  obtain ⟨kvt, htd⟩ := p2.ru.td
  obtain ⟨es', hb, hl⟩ := p2.le
  have ee : es' = es := by
    rw [hes2] at hb
    cases hb
    rfl
  subst ee
  exact {
    hs := p2.hs.imp fun _ q => keepS q hb rfl
    ru := keepR p2.ru hb rfl rfl rfl (ne_shp htd hb rfl)
    sd := keepS p2.sd hb rfl
    sc := fun k hk => (p2.sc k hk).imp fun _ q => keepS q hb rfl
    od := keepS p2.od hb rfl
    of := fun o ho => (p2.of o ho).imp fun _ q => keepS q hb rfl
    lg := p2.lg.imp fun _ q => keepS q hb rfl
    le := by
      refine ⟨_, upd_same, ?_⟩
      unfold ents
      rw [List.map_append]
      exact (keepE hb rfl hl).snoc ⟨t, rfl, keepS h2 hb rfl⟩
    inj := p2.inj
    d1 := p.d1
    d2 := p.d2
    d3 := p.d3 }
/-- the parts without the two dicts -/
structure Prt (K : PySem.W.Frag) (A : Ad) (H : Hp) (h : Addr) (a : HAd) (s : State) (off : Nat → Int) : Prop where
  hs : ∃ dx, H h = some (.ins A.cHouse dx (hFi a.ru a.sd a.od (s.next : Nat) (s.day : Nat) s.closed a.lg))
  ru : RlsN K A H a.ru a.td (nums s.rules)
  sc : ∀ i, i < s.schools.length → ∃ dx, H (a.sa i) = some (.ins A.cSchool dx (sOf s i (off i)))
  of : ∀ o, o ∈ s.offers → ∃ dx, H (a.oa o.number) = some (.ins A.cOffer dx (oFi (o.number : Nat) (a.sa o.school) (o.day : Nat)))
  lg : ∃ dx, H a.lg = some (.ins A.cLedger dx (lF a.le))
  le : ∃ es, H a.le = some (.lst es) ∧ EnL H es (ents s)
theorem AtO.prt (p : AtO K A H h a s off) : Prt K A H h a s off := ⟨p.hs, p.ru, p.sc, p.of, p.lg, p.le⟩
theorem Prt.same (p : Prt K A H h a s off) (e : Same H H') : Prt K A H' h a s off where
  hs := p.hs.imp fun _ q => e _ _ q
  ru := p.ru.same e
  sc i hi := (p.sc i hi).imp fun _ q => e _ _ q
  of o ho := (p.of o ho).imp fun _ q => e _ _ q
  lg := p.lg.imp fun _ q => e _ _ q
  le := p.le.imp fun _ q => ⟨e _ _ q.1, EnL.same e q.2⟩
/-- a dict is locked -/
theorem Prt.lock (p : Prt K A H h a s off) {b : Addr} {kvs : List (Key × V)} {o : HO} (hb : H b = some (.dK kvs)) (n : a.td ≠ b) : Prt K A (upd H b o) h a s off where
  hs := p.hs.imp fun _ q => keepS q hb rfl
  ru := keepR p.ru hb rfl rfl rfl n
  sc i hi := (p.sc i hi).imp fun _ q => keepS q hb rfl
  of o ho := (p.of o ho).imp fun _ q => keepS q hb rfl
  lg := p.lg.imp fun _ q => keepS q hb rfl
  le := p.le.imp fun _ q => ⟨keepS q.1 hb rfl, keepE hb rfl q.2⟩
/-- .. and unlocked: all is as it was -/
theorem unlock {b : Addr} {u : HO} {od : Obj} (hb : H b = some u) (e : Same (upd H b (.frz od u)) H') : Same H (upd H' b u) := fun x o hx => by
  by_cases c : x = b
  · subst c
    rw [upd_same, ← hx, hb]
  · rw [upd_ne c]
    exact e x o (by rw [upd_ne c]; exact hx)
theorem schK_len : (schK s a).length = s.schools.length := by simp [schK]
theorem schK_at {i : Nat} {k : Key} {v : V} (h : (schK s a)[i]? = some (k, v)) : i < s.schools.length ∧ v = .ref (a.sa i) ∧ k = .inl (idAt s i : Int) := by
  have hi : i < s.schools.length := by
    rw [← schK_len (a := a)]
    exact (List.getElem?_eq_some_iff.mp h).1
  unfold schK at h
  rw [List.getElem?_map, List.getElem?_range hi] at h
  injection Option.some.inj h with h1 h2
  exact ⟨hi, h2.symm, h1.symm⟩
theorem schools_map {α : Type} (f : Vbdbam.School → α) : s.schools.map f = (List.range s.schools.length).map fun i => f (schoolAt s i) := by
  refine List.ext_getElem (by simp) fun i h1 h2 => ?_
  simp only [List.getElem_map, List.getElem_range]
  rw [schoolAt_eq (by simpa using h1)]
theorem total_eq : ∀ (l : List Nat), Vbdbam.total l = l.sum := fun l => by
  unfold Vbdbam.total
  rw [List.sum_eq_foldl]
theorem sum_cast : ∀ (l : List Nat), ((l.sum : Nat) : Int) = (l.map fun (n : Nat) => (n : Int)).sum
  | [] => rfl
  | x :: l => by rw [List.sum_cons, List.map_cons, List.sum_cons, ← sum_cast l]; omega
theorem range_map {α : Type} {f : Nat → α} {i : Nat} : (List.range (i + 1)).map f = (List.range i).map f ++ [f i] := by
  rw [List.range_succ, List.map_append]
  rfl
theorem range_line {α : Type} {f : Nat → α} {i n : Nat} (h : i < n) (hn : n ≤ 1000000) : ((List.range i).map f).length < sizeLine := lt_line (by simp; omega)
theorem offK_none {n : Nat} (h : ∀ x, x ∈ s.offers → x.number ≠ n) : valV (offK s a) (.inl (n : Int)) = none := by
  unfold offK
  generalize s.offers = l at h
  induction l with
  | nil => rfl
  | cons x l ih =>
    rw [List.map_cons, valV_neg, ih fun y hy => h y (List.mem_cons.mpr (.inr hy))]
    intro e
    exact h x (List.mem_cons.mpr (.inl rfl)) (Int.ofNat_inj.mp (Sum.inl.inj e))
theorem offK_some {o : Vbdbam.Offer} (h : o ∈ s.offers) : valV (offK s a) (.inl (o.number : Int)) = some (.ref (a.oa o.number)) := by
  unfold offK
  generalize s.offers = l at h
  induction l with
  | nil => cases h
  | cons x l ih =>
    by_cases e : x.number = o.number
    · rw [List.map_cons, valV_pos (by rw [e]), e]
    · rw [List.map_cons, valV_neg (fun c => e (Int.ofNat_inj.mp (Sum.inl.inj c)))]
      rcases List.mem_cons.mp h with c | c
      · exact absurd (by rw [c]) e
      · exact ih c
theorem offK_drop {n : Nat} : dropK (offK s a) (.inl (n : Int)) = offK { s with offers := s.offers.filter fun x => x.number != n } a := by
  unfold offK dropK
  rw [List.filter_map]
  congr 1
  refine List.filter_congr fun x _ => ?_
  by_cases e : x.number = n
  · simp [e]
  · have e2 : ¬ ((x.number : Int) = (n : Int)) := fun c => e (Int.ofNat_inj.mp c)
    simp [e, e2]
theorem offersTo_new {i j d n : Nat} : Vbdbam.offersTo { s with offers := s.offers ++ [⟨n, i, d⟩] } j = if j = i then Vbdbam.offersTo s j + 1 else Vbdbam.offersTo s j := by
  unfold Vbdbam.offersTo
  rw [List.filter_append, List.length_append]
  by_cases e : j = i
  · subst e
    simp
  · have : (i == j) = false := by simpa using fun c => e c.symm
    simp [this, e]
theorem offersTo_end : ∀ {l : List Vbdbam.Offer} {o : Vbdbam.Offer} {j : Nat}, o ∈ l → (l.map fun x => x.number).Nodup →
    (l.filter fun x => x.school == j).length = ((l.filter fun x => x.number != o.number).filter fun x => x.school == j).length + if o.school = j then 1 else 0
  | x :: l, o, j, h, nd => by
    obtain ⟨n1, n2⟩ := List.nodup_cons.mp nd
    rcases List.mem_cons.mp h with c | c
    · subst c
      have e : l.filter (fun x => x.number != o.number) = l := by
        refine List.filter_eq_self.mpr fun y hy => ?_
        have : y.number ≠ o.number := fun c => n1 (List.mem_map.mpr ⟨y, hy, c⟩)
        simpa using this
      have e0 : (o.number != o.number) = false := by simp
      rw [List.filter_cons (x := o) (p := fun x => x.number != o.number), e0, if_neg Bool.false_ne_true, e]
      by_cases hs : o.school = j
      · simp [hs]
      · simp [hs]
    · have ne : x.number ≠ o.number := fun e => n1 (List.mem_map.mpr ⟨o, c, e.symm⟩)
      have e1 : (x.number != o.number) = true := by simpa using ne
      have ih := offersTo_end (j := j) c n2
      rw [List.filter_cons (x := x) (p := fun x => x.number != o.number), if_pos e1]
      by_cases hs : x.school = j
      · simp [hs, ih]; omega
      · simp [hs, ih]
theorem setSchool_id {i : Nat} : setSchool s i (fun x => x) = s.schools := by
  refine List.ext_getElem (by simp [setSchool]) fun j h1 h2 => ?_
  rw [schoolAt_eq h2]
  simp [setSchool]
/-- what a school tells of its open offers is written -/
theorem AtO.offered (p : AtO K A H h a s off) (hm : ∀ e, e ∈ s.money → e.school < s.schools.length) {i : Nat} (hi : i < s.schools.length) {dx : Addr} {v : Int} :
    AtO K A (upd H (a.sa i) (.ins A.cSchool dx (sOf s i v))) h a s (fun j => if j = i then v else off j) := by
  have r := p.school hm hi (f := fun x => x) rfl (dx := dx) (v := v) rfl rfl rfl
  rw [setSchool_id] at r
  exact r
end
end EH

/-! ## EHU1 -/
namespace EH
open PySem PySem.Spec PyProof.Rows L2 EHR
local macro_rules | `(tactic| decreasing_trivial_pre_omega) => `(tactic| first
  | assumption
  | rfl
  | exact lk_here
  | exact Txt.cl_Ledger (by assumption) | exact Txt.cl_Rules (by assumption) | exact Txt.cl_School (by assumption) | exact Txt.cl_Offer (by assumption) | exact Txt.cl_House (by assumption)
  | exact Txt.na_Ledger (by assumption) _ (by decide +kernel) | exact Txt.na_Rules (by assumption) _ (by decide +kernel) | exact Txt.na_School (by assumption) _ (by decide +kernel) | exact Txt.na_Offer (by assumption) _ (by decide +kernel) | exact Txt.na_House (by assumption) _ (by decide +kernel)
  | exact (lk_past (by decide +kernel)).trans lk_here
  | exact (lk_past (by decide +kernel)).trans ((lk_past (by decide +kernel)).trans lk_here)
  | exact (lk_past (by decide +kernel)).trans ((lk_past (by decide +kernel)).trans ((lk_past (by decide +kernel)).trans lk_here))
  | exact (lk_past (by decide +kernel)).trans ((lk_past (by decide +kernel)).trans ((lk_past (by decide +kernel)).trans ((lk_past (by decide +kernel)).trans lk_here)))
  | exact (lk_past (by decide +kernel)).trans ((lk_past (by decide +kernel)).trans ((lk_past (by decide +kernel)).trans ((lk_past (by decide +kernel)).trans ((lk_past (by decide +kernel)).trans lk_here))))
  | exact (lk_past (by decide +kernel)).trans ((lk_past (by decide +kernel)).trans ((lk_past (by decide +kernel)).trans ((lk_past (by decide +kernel)).trans ((lk_past (by decide +kernel)).trans ((lk_past (by decide +kernel)).trans lk_here)))))
  | exact SqL.of (by assumption) | exact SqT.of (by assumption)
  | exact Or.inl (SqL.of (by assumption)) | exact Or.inr (SqT.of (by assumption)) | exact Or.inl (by assumption) | exact Or.inr (by assumption)
  | exact atI0 rfl | exact atI_nat (j := 1) rfl | exact atI_nat (j := 2) rfl
  | exact Or.inl ⟨rfl, _, SqL.of (by assumption)⟩
  | exact Nat.le_of_ble_eq_true rfl
  | exact Same.at1 (by assumption) (by assumption)
  | exact SqL.of (Same.at1 (by assumption) (by assumption)) | exact SqT.of (Same.at1 (by assumption) (by assumption)) | exact Or.inl (SqL.of (Same.at1 (by assumption) (by assumption))) | exact Or.inr (SqT.of (Same.at1 (by assumption) (by assumption)))
  | exact ⟨_, by assumption⟩
  | exact dput_i (by assumption) (by assumption) | exact kV_i | exact kV_s | exact isD_k (by assumption)
  | exact upd_same)
local macro_rules | `(tactic| get_elem_tactic_extensible) => `(tactic| repeat (first
  | refine And.intro (by decreasing_trivial_pre_omega) ?_
  | apply Exists.intro (α := V) | apply Exists.intro (α := Addr) | apply Exists.intro (α := List V) | apply Exists.intro (α := Int) | apply Exists.intro (α := Bool)
  | apply Exists.intro (α := List (Str × V)) | apply Exists.intro (α := Str) | apply Exists.intro (α := List (Key × V)) | apply Exists.intro (α := Option V)
  | apply Exists.intro (α := List Int) | apply Exists.intro (α := List Bool) | apply Exists.intro (α := List Str) | apply Exists.intro (α := Obj) | apply Exists.intro (α := List En) | apply Exists.intro (α := HAd) | apply Exists.intro (α := Vbdbam.State) | apply Exists.intro (α := Vbdbam.Rules) | apply Exists.intro (α := Hp) | apply Exists.intro (α := Key) | apply Exists.intro (α := Nat) | apply Exists.intro (α := Wd) | apply Exists.intro (α := Wd → List Int) | apply Exists.intro (α := Nat → Int)))
local macro_rules | `(tactic| decreasing_trivial) => `(tactic| (intro vs H Q E h; repeat (first | (obtain ⟨e, _⟩ := h; subst e; rfl) | (obtain ⟨_, h⟩ := h))))

/-! ### Rules: what is told, read -/
def OneAt (K : PySem.W.Frag) (A : Ad) (H : Hp) (ru : Addr) (wd : Str) (n : Int) : Prop :=
  ∃ dx td p xs, H ru = some (.ins A.cRules dx (rF td)) ∧ DGet H td (.str wd) (some (.ref p)) ∧ SqT K H p (.int n :: xs)
structure One (K : PySem.W.Frag) (A : Ad) (H : Hp) (ru : Addr) (wd : Str) (n : Int) : Prop where
  h : OneAt K A H ru wd n
theorem RlsN.one {K : PySem.W.Frag} {A : Ad} {H : Hp} {ru td : Addr} {N : Wd → List Int} (h : RlsN K A H ru td N) (w : Wd) {n : Int} {r : List Int} (e : N w = n :: r) : One K A H ru w.nm n := by
  obtain ⟨dx, p, h1, h2, h3⟩ := h
  have g := DGet.k (k := .inr w.nm) h2
  rw [told_val] at g
  have t := h3 w
  rw [e] at t
  exact ⟨dx, td, p w, r.map .int, h1, g, t⟩
theorem One.rcd {K : PySem.W.Frag} {A : Ad} {H : Hp} {ru : Addr} {wd : Str} {n : Int} (h : One K A H ru wd n) : ∃ dx td, H ru = some (.ins A.cRules dx (rF td)) := by
  obtain ⟨dx, td, _, _, h1, _⟩ := h.h
  exact ⟨dx, td, h1⟩
/-- the words of the rules at ru, all of them -/
structure Rls (K : PySem.W.Frag) (A : Ad) (H : Hp) (ru : Addr) (r : Vbdbam.Rules) : Prop where
  h : ∃ td, RlsN K A H ru td (nums r)
theorem Rls.rcd {K : PySem.W.Frag} {A : Ad} {H : Hp} {ru : Addr} {r : Vbdbam.Rules} (h : Rls K A H ru r) : ∃ dx td, H ru = some (.ins A.cRules dx (rF td)) := by
  obtain ⟨td, dx, _, h1, _⟩ := h.h
  exact ⟨dx, td, h1⟩
def sp_Rules_init (_ : PySem.W.Frag) (A : Ad) : Sp := fun vs H Q _ => ∃ (x dx t : Addr), vs = [.ref x, .ref t] ∧ H x = some (.ins A.cRules dx []) ∧ Q .non (upd H x (.ins A.cRules dx (rF t)))
theorem ok_Rules_init {P : Program} {w : World} {K : PySem.W.Frag} {mg : Str → Option Value} {base : Heap} {A : Ad} (T : Txt w K mg A) : C8.Mak P w K mg base 1 "Rules" A.cRules (sp_Rules_init K A) [] := by
  refine makOf T.d_Rules_init sc_Rules_init (by decreasing_trivial) (fun cdv Ar outer s0 H vs Q E hr hsp => ⟨_, (pss_one (ps_fld (pv 0) (pv 1) rfl)), ?_⟩)
  obtain ⟨x, dx, t, rfl, h1, q⟩ := hsp
  get_elem_tactic_extensible
  exact q
def sp_Rules_one (K : PySem.W.Frag) (A : Ad) : Sp := fun vs H Q _ => ∃ (ru : Addr) (wd : Str) (n : Int), vs = [.ref ru, .str wd] ∧ One K A H ru wd n ∧ Q (.int n) H
theorem ok_Rules_one {P : Program} {w : World} {K : PySem.W.Frag} {mg : Str → Option Value} {base : Heap} {A : Ad} (T : Txt w K mg A) : C8.Met P w K mg base 1 A.cRules "one" (sp_Rules_one K A) [] := by
  refine metOf T.cl_Rules T.d_Rules_one sc_Rules_one (by decreasing_trivial) (fun cdv Ar outer s0 H vs Q E hr hsp => ⟨_, (pss_one (ps_ret (pe_ix ix_tup (pe_dget (hu_of hr) (pe_fld (pv 0) rfl) (pv 1) (fun _ _ => rfl)) pe_int (fun _ _ => rfl)))), ?_⟩)
  obtain ⟨ru, wd, n, rfl, ⟨dx, td, p, xs, h1, h2, h3⟩, q⟩ := hsp
  get_elem_tactic_extensible
  exact q
def sp_Rules_judges_owed (K : PySem.W.Frag) (A : Ad) : Sp := fun vs H Q _ => ∃ (ru : Addr) (r : Vbdbam.Rules) (t : Nat), vs = [.ref ru, .int t] ∧ Rls K A H ru r ∧ 0 < r.per ∧ r.per < 1000 ∧ t < 1000000 ∧ Q (.int (Vbdbam.owed r t : Nat)) H
theorem ok_Rules_judges_owed {P : Program} {w : World} {K : PySem.W.Frag} {mg : Str → Option Value} {base : Heap} {A : Ad} (T : Txt w K mg A) : C8.Met P w K mg base 1 A.cRules "judges_owed" (sp_Rules_judges_owed K A) [] := by
  refine metOf T.cl_Rules T.d_Rules_judges_owed sc_Rules_judges_owed (by decreasing_trivial) (fun cdv Ar outer s0 H vs Q E hr hsp => ⟨_, (pss_cons (ps_set (i := 2) sc_Rules_judges_owed.nd rfl (Or.inl rfl) (pe_dget (hu_of hr) (pe_fld (pv 0) rfl) pe_str (fun _ _ => rfl)))
 (pss_one (ps_ret (pe_op op_fdiv (pe_op op_sub (pe_op op_add (pe_op op_mul (pe_ix ix_tup (pv 2) pe_int (fun _ _ => rfl)) (pv 1)) (pe_ix ix_tup (pv 2) pe_int (fun _ _ => rfl))) pe_int) (pe_ix ix_tup (pv 2) pe_int (fun _ _ => rfl)))))), ?_⟩)
  obtain ⟨ru, r, t, rfl, ⟨td, dx, p, h1, h2, h3⟩, per, per', lt, q⟩ := hsp
  have g := DGet.k (k := .inr Wd.judges.nm) h2
  rw [told_val] at g
  have ht := h3 .judges
  have hc : CDiv ((r.judges : Nat) * (t : Nat) + (r.per : Nat) - 1) (r.per : Nat) := ⟨by omega, by omega⟩
  have hm : CMul (r.judges : Nat) (t : Nat) := .inr ⟨by omega, by omega⟩
  have e : (((r.judges : Nat) : Int) * (t : Nat) + (r.per : Nat) - 1) / (r.per : Nat) = ((Vbdbam.owed r t : Nat) : Int) := by
    unfold Vbdbam.owed
    rw [Int.natCast_ediv, Int.natCast_add, Int.natCast_mul, Int.natCast_sub (by omega)]
    congr 1
    simp only [Int.natCast_one]
    omega
  rw [← e] at q
  get_elem_tactic_extensible
  exact q
theorem rgC2 {n : Nat} (h : n ≤ 1000000) : RgC 0 ((2 * n : Nat) : Int) 2 n := by
  obtain ⟨m, hm⟩ : ∃ m : Int, m = (n : Int) := ⟨_, rfl⟩
  have h0 : 0 ≤ m := by omega
  have h1 : m ≤ 1000000 := by omega
  have h2 : ((2 * n : Nat) : Int) = 2 * m := by omega
  have e : Builtin.Range.rangeSize 0 (2 * m) 2 = m := by
    unfold Builtin.Range.rangeSize
    simp only [show (2 : Int) > 0 by decide, if_true]
    split <;> omega
  rw [h2]
  refine ⟨by decide, by decide, ?_, by rw [e, hm]⟩
  unfold Builtin.Range.small
  rw [e]
  simp only [Builtin.Range.rangeFitsLong, Bool.and_eq_true, Bool.or_eq_true, decide_eq_true_eq, beq_iff_eq, show (2 : Int) > 0 by decide, if_true]
  omega
def flat2 (l : List (Nat × Nat)) : List Int := l.flatMap fun p => [(p.1 : Int), (p.2 : Int)]
theorem flat2_len : ∀ l : List (Nat × Nat), (flat2 l).length = 2 * l.length
  | [] => rfl
  | p :: l => by
    have := flat2_len l
    simp only [flat2, List.flatMap_cons, List.length_append, List.length_cons, List.length_nil] at *
    omega
theorem flat2_at : ∀ {l : List (Nat × Nat)} {i : Nat} {p : Nat × Nat}, l[i]? = some p → (flat2 l)[2 * i]? = some (p.1 : Int) ∧ (flat2 l)[2 * i + 1]? = some (p.2 : Int)
  | [], _, _, h => by simp at h
  | x :: l, 0, p, h => by
    have : x = p := by simpa using h
    subst this
    exact ⟨rfl, rfl⟩
  | x :: l, i + 1, p, h => by
    have r := flat2_at (l := l) (i := i) (p := p) (by simpa using h)
    have e : flat2 (x :: l) = (x.1 : Int) :: (x.2 : Int) :: flat2 l := rfl
    rw [e, show 2 * (i + 1) = 2 * i + 1 + 1 by omega]
    exact ⟨by simpa using r.1, by simpa using r.2⟩
theorem flat2_ix {l : List (Nat × Nat)} {i : Nat} {p : Nat × Nat} (h : l[i]? = some p) : atI ((flat2 l).map V.int) (0 + (i : Nat) * 2) = some (.int p.1) ∧ atI ((flat2 l).map V.int) (0 + (i : Nat) * 2 + 1) = some (.int p.2) := by
  have r := flat2_at h
  have e1 : (0 + (i : Nat) * 2 : Int) = ((2 * i : Nat) : Int) := by omega
  have e2 : (0 + (i : Nat) * 2 + 1 : Int) = ((2 * i + 1 : Nat) : Int) := by omega
  rw [e2, e1]
  exact ⟨atI_nat (by rw [List.getElem?_map, r.1]; rfl), atI_nat (by rw [List.getElem?_map, r.2]; rfl)⟩
def sp_Rules_percent (K : PySem.W.Frag) (A : Ad) : Sp := fun vs H Q _ => ∃ (ru : Addr) (r : Vbdbam.Rules) (d : Nat), vs = [.ref ru, .int d] ∧ Rls K A H ru r ∧ r.back.length ≤ 1000 ∧ Q (.int (Vbdbam.percent r d : Nat)) H
theorem ok_Rules_percent {P : Program} {w : World} {K : PySem.W.Frag} {mg : Str → Option Value} {base : Heap} {A : Ad} (T : Txt w K mg A) : C8.Met P w K mg base 2 A.cRules "percent" (sp_Rules_percent K A) [] := by
  refine metOf T.cl_Rules T.d_Rules_percent sc_Rules_percent (by decreasing_trivial) (fun cdv Ar outer s0 H vs Q E hr hsp => ⟨_, (pss_cons (ps_set (i := 2) sc_Rules_percent.nd rfl (Or.inl rfl) (pe_op op_sub (C8.pe_mt (ok_Rules_one T) hr (by decide) (pv 0) (pa_cons pe_str pa_nil)) (pv 1)))
 (pss_cons (ps_set (i := 3) sc_Rules_percent.nd rfl (Or.inl rfl) (pe_dget (hu_of hr) (pe_fld (pv 0) rfl) pe_str (fun _ _ => rfl)))
 (pss_cons (ps_for PassesOwn.never rfl (pi_range3 (by rfl) T.n_range (pa_cons pe_int (pa_cons (pe_callB call_len_seq (by rfl) T.n_len (by decide +kernel) (pa_cons (pv 3) pa_nil)) (pa_cons pe_int pa_nil)))) (pg_name (i := 4) sc_Rules_percent.nd rfl (Or.inl rfl))
  (pss_one (ps_if (pt_cmpR op_ge (pv 2) (pe_ix ix_tup (pv 3) (pv 4) (fun _ _ => rfl)) (nomark _)) (pss_one (ps_ret (pe_ix ix_tup (pv 3) (pe_op op_add (pv 4) pe_int) (fun _ _ => rfl)))) pss_nil)))
 (pss_one (ps_ret pe_int))))), ?_⟩)
  obtain ⟨ru, r, d, rfl, hr', len, q⟩ := hsp
  have o1 : One K A H ru "start" (r.start : Nat) := by obtain ⟨td, h⟩ := hr'; exact h.one .start rfl
  obtain ⟨td, dx, p, h1, h2, h3⟩ := hr'
  have g := DGet.k (k := .inr Wd.back.nm) h2
  rw [told_val] at g
  have ht : SqT K H (p .back) ((flat2 r.back).map .int) := h3 .back
  generalize p .back = pb at g ht
  have rg : RgC 0 (((flat2 r.back).map V.int).length : Nat) 2 r.back.length := by
    rw [List.length_map, flat2_len]
    exact rgC2 (by omega)
  get_elem_tactic_extensible
  refine for_it walk_rangeC (fun i σ H' => Hold (H' = H ∧ (∃ z, σ = [some (.ref ru), some (.int d), some (.int ((r.start : Nat) - (d : Nat))), some (.ref pb), z]) ∧ (r.back.take i).find? (fun p => decide (d + p.1 ≤ r.start)) = none)) ⟨rfl, ⟨_, rfl⟩, by simp⟩ (fun _ _ _ _ _ => trivial) (fun i x σ H1 H' hi p y => ?_) (fun σ H' p => ?_)
  · obtain ⟨rfl, rfl⟩ := y
    obtain ⟨rfl, ⟨z, rfl⟩, hf⟩ := p.h
    have hb : r.back[i]? = some r.back[i] := List.getElem?_eq_getElem hi
    have ix := flat2_ix hb
    have i1 := ix.1
    have i2 := ix.2
    get_elem_tactic_extensible
    refine ifd (fun hc => ?_) fun hc => ?_
    · have e : Vbdbam.percent r d = r.back[i].2 := by
        unfold Vbdbam.percent
        have e2 : r.back = r.back.take i ++ r.back[i] :: r.back.drop (i + 1) := by simp
        have hd : decide (d + r.back[i].1 ≤ r.start) = true := decide_eq_true (by omega)
        generalize r.back[i] = pp at *
        rw [e2, List.find?_append, hf, List.find?_cons, hd]
        rfl
      rw [e] at q
      get_elem_tactic_extensible
      exact q
    · refine ⟨⟨rfl, ⟨_, rfl⟩, ?_⟩⟩
      have hd : ¬ (d + r.back[i].1 ≤ r.start) := by omega
      rw [take_one hb, List.find?_append, hf]
      simp only [List.find?_cons, decide_eq_false hd]
      rfl
  · obtain ⟨rfl, ⟨z, rfl⟩, hf⟩ := p.h
    rw [List.take_length] at hf
    have e : Vbdbam.percent r d = 0 := by
      unfold Vbdbam.percent
      rw [hf]
      rfl
    rw [e] at q
    get_elem_tactic_extensible
    exact q
end EH

/-! ## EHH1 -/
namespace EH
open PySem PySem.Spec PyProof.Rows L2 EHR
local macro_rules | `(tactic| decreasing_trivial_pre_omega) => `(tactic| first
  | assumption
  | rfl
  | exact lk_here
  | exact Txt.cl_Ledger (by assumption) | exact Txt.cl_Rules (by assumption) | exact Txt.cl_School (by assumption) | exact Txt.cl_Offer (by assumption) | exact Txt.cl_House (by assumption)
  | exact Txt.na_Ledger (by assumption) _ (by decide +kernel) | exact Txt.na_Rules (by assumption) _ (by decide +kernel) | exact Txt.na_School (by assumption) _ (by decide +kernel) | exact Txt.na_Offer (by assumption) _ (by decide +kernel) | exact Txt.na_House (by assumption) _ (by decide +kernel)
  | exact (lk_past (by decide +kernel)).trans lk_here
  | exact (lk_past (by decide +kernel)).trans ((lk_past (by decide +kernel)).trans lk_here)
  | exact (lk_past (by decide +kernel)).trans ((lk_past (by decide +kernel)).trans ((lk_past (by decide +kernel)).trans lk_here))
  | exact (lk_past (by decide +kernel)).trans ((lk_past (by decide +kernel)).trans ((lk_past (by decide +kernel)).trans ((lk_past (by decide +kernel)).trans lk_here)))
  | exact (lk_past (by decide +kernel)).trans ((lk_past (by decide +kernel)).trans ((lk_past (by decide +kernel)).trans ((lk_past (by decide +kernel)).trans ((lk_past (by decide +kernel)).trans lk_here))))
  | exact (lk_past (by decide +kernel)).trans ((lk_past (by decide +kernel)).trans ((lk_past (by decide +kernel)).trans ((lk_past (by decide +kernel)).trans ((lk_past (by decide +kernel)).trans ((lk_past (by decide +kernel)).trans lk_here)))))
  | exact SqL.of (by assumption) | exact SqT.of (by assumption)
  | exact Or.inl (SqL.of (by assumption)) | exact Or.inr (SqT.of (by assumption)) | exact Or.inl (by assumption) | exact Or.inr (by assumption)
  | exact atI0 rfl | exact atI_nat (j := 1) rfl | exact atI_nat (j := 2) rfl
  | exact Or.inl ⟨rfl, _, SqL.of (by assumption)⟩
  | exact Nat.le_of_ble_eq_true rfl
  | exact Same.at1 (by assumption) (by assumption)
  | exact SqL.of (Same.at1 (by assumption) (by assumption)) | exact SqT.of (Same.at1 (by assumption) (by assumption)) | exact Or.inl (SqL.of (Same.at1 (by assumption) (by assumption))) | exact Or.inr (SqT.of (Same.at1 (by assumption) (by assumption)))
  | exact ⟨_, by assumption⟩
  | exact dput_i (by assumption) (by assumption) | exact kV_i | exact kV_s | exact isD_k (by assumption)
  | exact upd_same)
local macro_rules | `(tactic| get_elem_tactic_extensible) => `(tactic| repeat (first
  | refine And.intro (by decreasing_trivial_pre_omega) ?_
  | apply Exists.intro (α := V) | apply Exists.intro (α := Addr) | apply Exists.intro (α := List V) | apply Exists.intro (α := Int) | apply Exists.intro (α := Bool)
  | apply Exists.intro (α := List (Str × V)) | apply Exists.intro (α := Str) | apply Exists.intro (α := List (Key × V)) | apply Exists.intro (α := Option V)
  | apply Exists.intro (α := List Int) | apply Exists.intro (α := List Bool) | apply Exists.intro (α := List Str) | apply Exists.intro (α := Obj) | apply Exists.intro (α := List En) | apply Exists.intro (α := HAd) | apply Exists.intro (α := Vbdbam.State) | apply Exists.intro (α := Vbdbam.Rules) | apply Exists.intro (α := Hp) | apply Exists.intro (α := Key) | apply Exists.intro (α := Nat) | apply Exists.intro (α := Wd) | apply Exists.intro (α := Wd → List Int) | apply Exists.intro (α := Nat → Int)))
local macro_rules | `(tactic| decreasing_trivial) => `(tactic| (intro vs H Q E h; repeat (first | (obtain ⟨e, _⟩ := h; subst e; rfl) | (obtain ⟨_, h⟩ := h))))

def sp_School_init (_ : PySem.W.Frag) (A : Ad) : Sp := fun vs H Q _ => ∃ (x dx : Addr) (n w j : Int), vs = [.ref x, .int n, .int w, .int j] ∧ H x = some (.ins A.cSchool dx []) ∧ ∀ H', (∀ b, b ≠ x → H' b = H b) → H' x = some (.ins A.cSchool dx (sFi n w j 0 0)) → Q .non H'
theorem ok_School_init {P : Program} {w : World} {K : PySem.W.Frag} {mg : Str → Option Value} {base : Heap} {A : Ad} (T : Txt w K mg A) : C8.Mak P w K mg base 1 "School" A.cSchool (sp_School_init K A) [] := by
  refine makOf T.d_School_init sc_School_init (by decreasing_trivial) (fun cdv Ar outer s0 H vs Q E hr hsp => ⟨_, (pss_cons (ps_fld (pv 0) (pv 1) rfl)
 (pss_cons (ps_fld (pv 0) (pv 2) rfl)
 (pss_cons (ps_fld (pv 0) (pv 3) rfl)
 (pss_cons (ps_fld (pv 0) pe_int rfl)
 (pss_one (ps_fld (pv 0) pe_int rfl)))))), ?_⟩)
  obtain ⟨x, dx, n, w', j, rfl, h1, q⟩ := hsp
  get_elem_tactic_extensible
  exact q _ (fun b hb => by rw [upd_ne hb, upd_ne hb, upd_ne hb, upd_ne hb, upd_ne hb]) upd_same
def sp_Offer_init (_ : PySem.W.Frag) (A : Ad) : Sp := fun vs H Q _ => ∃ (x dx b : Addr) (n d : Int), vs = [.ref x, .int n, .ref b, .int d] ∧ H x = some (.ins A.cOffer dx []) ∧ ∀ H', (∀ b, b ≠ x → H' b = H b) → H' x = some (.ins A.cOffer dx (oFi n b d)) → Q .non H'
theorem ok_Offer_init {P : Program} {w : World} {K : PySem.W.Frag} {mg : Str → Option Value} {base : Heap} {A : Ad} (T : Txt w K mg A) : C8.Mak P w K mg base 1 "Offer" A.cOffer (sp_Offer_init K A) [] := by
  refine makOf T.d_Offer_init sc_Offer_init (by decreasing_trivial) (fun cdv Ar outer s0 H vs Q E hr hsp => ⟨_, (pss_cons (ps_fld (pv 0) (pv 1) rfl)
 (pss_cons (ps_fld (pv 0) (pv 2) rfl)
 (pss_one (ps_fld (pv 0) (pv 3) rfl)))), ?_⟩)
  obtain ⟨x, dx, b, n, d, rfl, h1, q⟩ := hsp
  get_elem_tactic_extensible
  exact q _ (fun b hb => by rw [upd_ne hb, upd_ne hb, upd_ne hb]) upd_same
def sp_School_load (_ : PySem.W.Frag) (A : Ad) : Sp := fun vs H Q _ => ∃ (sc dx : Addr) (n w j h o : Int), vs = [.ref sc] ∧ H sc = some (.ins A.cSchool dx (sFi n w j h o)) ∧ Q (.int (h + o)) H
theorem ok_School_load {P : Program} {w : World} {K : PySem.W.Frag} {mg : Str → Option Value} {base : Heap} {A : Ad} (T : Txt w K mg A) : C8.Met P w K mg base 1 A.cSchool "load" (sp_School_load K A) [] := by
  refine metOf T.cl_School T.d_School_load sc_School_load (by decreasing_trivial) (fun cdv Ar outer s0 H vs Q E hr hsp => ⟨_, (pss_one (ps_ret (pe_op op_add (pe_fld (pv 0) rfl) (pe_fld (pv 0) rfl)))), ?_⟩)
  obtain ⟨sc, dx, n, w', j, h, o, rfl, h1, q⟩ := hsp
  get_elem_tactic_extensible
  exact q
/-- a house's record -/
def sp_House_most (K : PySem.W.Frag) (A : Ad) : Sp := fun vs H Q _ => ∃ (hh sc dx ds ru sd od lg : Addr) (cp n w j h o md dy : Int) (cl : Bool), vs = [.ref hh, .ref sc] ∧ H hh = some (.ins A.cHouse dx (hFi ru sd od md dy cl lg)) ∧ H sc = some (.ins A.cSchool ds (sFi n w j h o)) ∧ One K A H ru "cap" cp ∧
  Q (.int (if cp < w then cp else w)) H
theorem ok_House_most {P : Program} {w : World} {K : PySem.W.Frag} {mg : Str → Option Value} {base : Heap} {A : Ad} (T : Txt w K mg A) : C8.Met P w K mg base 2 A.cHouse "most" (sp_House_most K A) [] := by
  refine metOf T.cl_House T.d_House_most sc_House_most (by decreasing_trivial) (fun cdv Ar outer s0 H vs Q E hr hsp => ⟨_, (pss_one (ps_ret (pe_callB (call_min2 rfl) (by rfl) T.n_min (by decide +kernel) (pa_cons (pe_fld (pv 1) rfl) (pa_cons (C8.pe_mt (ok_Rules_one T) hr (by decide) (pe_fld (pv 0) rfl) (pa_cons pe_str pa_nil)) pa_nil))))), ?_⟩)
  obtain ⟨hh, sc, dx, ds, ru, sd, od, lg, cp, n, w', j, h, o, md, dy, cl, rfl, h1, h2, h3, q⟩ := hsp
  obtain ⟨dr, tr, h4⟩ := h3.rcd
  get_elem_tactic_extensible
  exact q
def sp_House_waits (K : PySem.W.Frag) (A : Ad) : Sp := fun vs H Q _ => ∃ (hh sc dx ds ru sd od lg : Addr) (cp n w j h o md dy : Int) (cl : Bool), vs = [.ref hh, .ref sc] ∧ H hh = some (.ins A.cHouse dx (hFi ru sd od md dy cl lg)) ∧ H sc = some (.ins A.cSchool ds (sFi n w j h o)) ∧ One K A H ru "cap" cp ∧
  Q (.bl (decide (h + o < if cp < w then cp else w))) H
theorem ok_House_waits {P : Program} {w : World} {K : PySem.W.Frag} {mg : Str → Option Value} {base : Heap} {A : Ad} (T : Txt w K mg A) : C8.Met P w K mg base 3 A.cHouse "waits" (sp_House_waits K A) [] := by
  refine metOf T.cl_House T.d_House_waits sc_House_waits (by decreasing_trivial) (fun cdv Ar outer s0 H vs Q E hr hsp => ⟨_, (pss_one (ps_ret (pe_cmpR op_lt (C8.pe_mt0 (ok_School_load T) hr (by decide) (pv 1)) (C8.pe_mt (ok_House_most T) hr (by decide) (pv 0) (pa_cons (pv 1) pa_nil)) (nomark _)))), ?_⟩)
  obtain ⟨hh, sc, dx, ds, ru, sd, od, lg, cp, n, w', j, h, o, md, dy, cl, rfl, h1, h2, h3, q⟩ := hsp
  obtain ⟨dr, tr, h4⟩ := h3.rcd
  get_elem_tactic_extensible
  exact q
def sp_House_last_day (K : PySem.W.Frag) (A : Ad) : Sp := fun vs H Q _ => ∃ (hh oa dx ds ru sd od lg b : Addr) (an n d md dy : Int) (cl : Bool), vs = [.ref hh, .ref oa] ∧ H hh = some (.ins A.cHouse dx (hFi ru sd od md dy cl lg)) ∧ H oa = some (.ins A.cOffer ds (oFi n b d)) ∧ One K A H ru "answer" an ∧
  Q (.int (d + an)) H
theorem ok_House_last_day {P : Program} {w : World} {K : PySem.W.Frag} {mg : Str → Option Value} {base : Heap} {A : Ad} (T : Txt w K mg A) : C8.Met P w K mg base 2 A.cHouse "last_day" (sp_House_last_day K A) [] := by
  refine metOf T.cl_House T.d_House_last_day sc_House_last_day (by decreasing_trivial) (fun cdv Ar outer s0 H vs Q E hr hsp => ⟨_, (pss_one (ps_ret (pe_op op_add (pe_fld (pv 1) rfl) (C8.pe_mt (ok_Rules_one T) hr (by decide) (pe_fld (pv 0) rfl) (pa_cons pe_str pa_nil))))), ?_⟩)
  obtain ⟨hh, oa, dx, ds, ru, sd, od, lg, b, an, n, d, md, dy, cl, rfl, h1, h2, h3, q⟩ := hsp
  obtain ⟨dr, tr, h4⟩ := h3.rcd
  get_elem_tactic_extensible
  exact q
def sp_House_missing (K : PySem.W.Frag) (A : Ad) : Sp := fun vs H Q _ => ∃ (hh sc dx ds ru sd od lg : Addr) (r : Vbdbam.Rules) (n w o md dy : Int) (j h : Nat) (cl : Bool), vs = [.ref hh, .ref sc] ∧ H hh = some (.ins A.cHouse dx (hFi ru sd od md dy cl lg)) ∧ H sc = some (.ins A.cSchool ds (sFi n w j h o)) ∧ Rls K A H ru r ∧
  0 < r.per ∧ r.per < 1000 ∧ h < 1000000 ∧ Q (.int (Vbdbam.owed r h - j : Nat)) H
theorem ok_House_missing {P : Program} {w : World} {K : PySem.W.Frag} {mg : Str → Option Value} {base : Heap} {A : Ad} (T : Txt w K mg A) : C8.Met P w K mg base 2 A.cHouse "missing" (sp_House_missing K A) [] := by
  refine metOf T.cl_House T.d_House_missing sc_House_missing (by decreasing_trivial) (fun cdv Ar outer s0 H vs Q E hr hsp => ⟨_, (pss_one (ps_ret (pe_callB (call_max2 rfl) (by rfl) T.n_max (by decide +kernel) (pa_cons pe_int (pa_cons (pe_op op_sub (C8.pe_mt (ok_Rules_judges_owed T) hr (by decide) (pe_fld (pv 0) rfl) (pa_cons (pe_fld (pv 1) rfl) pa_nil)) (pe_fld (pv 1) rfl)) pa_nil))))), ?_⟩)
  obtain ⟨hh, sc, dx, ds, ru, sd, od, lg, r, n, w', o, md, dy, j, h, cl, rfl, h1, h2, h3, p1, p2, p3, q⟩ := hsp
  obtain ⟨dr, tr, h4⟩ := h3.rcd
  have e : (if ((Vbdbam.owed r h : Nat) : Int) - (j : Nat) > 0 then ((Vbdbam.owed r h : Nat) : Int) - (j : Nat) else 0) = ((Vbdbam.owed r h - j : Nat) : Int) := by
    split <;> omega
  rw [← e] at q
  get_elem_tactic_extensible
  exact q
def sp_House_taken (K : PySem.W.Frag) (A : Ad) : Sp := fun vs H Q _ => ∃ (h : Addr) (a : HAd) (s : Vbdbam.State) (off : Nat → Int), vs = [.ref h] ∧ AtO K A H h a s off ∧ s.schools.length ≤ 1000 ∧ ∀ H', Same H H' → Q (.int (Vbdbam.total (s.schools.map fun x => x.has_) : Nat)) H'
theorem ok_House_taken {P : Program} {w : World} {K : PySem.W.Frag} {mg : Str → Option Value} {base : Heap} {A : Ad} (T : Txt w K mg A) : C8.Met P w K mg base 1 A.cHouse "taken" (sp_House_taken K A) [] := by
  refine metOf T.cl_House T.d_House_taken sc_House_taken (by decreasing_trivial) (fun cdv Ar outer s0 H vs Q E hr hsp => ⟨_, (pss_one (ps_ret (pe_callB (cr_sum rfl) (by rfl) T.n_sum (by decide +kernel) (pa_cons (pe_lock (pe_lc (own := [("school", 1)]) (g := gName 1) (tt := tYes) (te := (tFld K (tVar 1) "has")) (by rfl) sc_House_taken.nd (pi_values (pe_fld (pv 0) rfl)) (blkOk_by (own := [("school", 1)]) (N := N_House_taken) (sc := C8.fnScope s_House_taken) (by decide +kernel)) (fun _ _ _ _ _ => pg_name (i := 1) sc_House_taken.nd rfl (Or.inl rfl)) (fun _ _ _ _ _ => pts_nil) (fun _ _ _ _ _ => (pe_fld (pv 1) rfl)))) pa_nil)))), ?_⟩)
  obtain ⟨h, a, s, off, rfl, p, len, q⟩ := hsp
  have h2 := p.sd
  refine ⟨a.sd, _, h2, trivial, fun od => ?_⟩
  have pl := p.prt.lock (o := .frz od (.dK (schK s a))) h2 p.d2
  have h3 : upd H a.sd (.frz od (.dK (schK s a))) a.sd = some (.frz od (.dK (schK s a))) := upd_same
  have ul := fun H' => unlock (H' := H') (od := od) h2
  generalize upd H a.sd (.frz od (.dK (schK s a))) = H1 at pl h3 ul
  obtain ⟨dh, h1⟩ := pl.hs
  get_elem_tactic_extensible
  intro D hD
  refine lc_it walk_values (LcI H1 D fun i => (List.range i).map fun j => V.int ((Vbdbam.schoolAt s j).has_ : Nat)) (LcI.zero hD rfl) (fun i H' _ p => p.s _ _ h3) (fun i x H2 H' hi q y => ?_) (fun H' q1 => ?_)
  · obtain ⟨rfl, k, hx⟩ := y
    obtain ⟨hi', rfl, rfl⟩ := schK_at hx
    obtain ⟨dc, hc⟩ := (pl.same q.s).sc i hi'
    have pd := q.d
    have lf := range_line (f := fun j => V.int ((Vbdbam.schoolAt s j).has_ : Nat)) hi' (by omega)
    get_elem_tactic_extensible
    exact q.put (Same.refl _) hD range_map
  · have pd := q1.d
    have e : ((List.range (schK s a).length).map fun j => V.int ((Vbdbam.schoolAt s j).has_ : Nat)) = ((s.schools.map fun x => x.has_).map fun (n : Nat) => (n : Int)).map V.int := by
      rw [schK_len, schools_map, List.map_map, List.map_map]
      rfl
    have nd : a.sd ≠ D := Same.ne h3 hD
    have pd2 : upd H' a.sd (.dK (schK s a)) D = some (.lst (((s.schools.map fun x => x.has_).map fun (n : Nat) => (n : Int)).map V.int)) := by
      rw [upd_ne nd.symm, pd, e]
    have q2 := q _ (ul H' q1.s)
    rw [total_eq, sum_cast] at q2
    refine ⟨q1.s _ _ h3, ?_⟩
    get_elem_tactic_extensible
    exact q2
def sp_House_free (K : PySem.W.Frag) (A : Ad) : Sp := fun vs H Q _ => ∃ (h : Addr) (a : HAd) (s : Vbdbam.State) (off : Nat → Int), vs = [.ref h] ∧ AtO K A H h a s off ∧ s.schools.length ≤ 1000 ∧ ∀ H', Same H H' → Q (.int ((s.rules.places : Nat) - (Vbdbam.total (s.schools.map fun x => x.has_) : Nat) - (s.offers.length : Nat))) H'
theorem ok_House_free {P : Program} {w : World} {K : PySem.W.Frag} {mg : Str → Option Value} {base : Heap} {A : Ad} (T : Txt w K mg A) : C8.Met P w K mg base 2 A.cHouse "free" (sp_House_free K A) [] := by
  refine metOf T.cl_House T.d_House_free sc_House_free (by decreasing_trivial) (fun cdv Ar outer s0 H vs Q E hr hsp => ⟨_, (pss_one (ps_ret (pe_op op_sub (pe_op op_sub (C8.pe_mt (ok_Rules_one T) hr (by decide) (pe_fld (pv 0) rfl) (pa_cons pe_str pa_nil)) (C8.pe_mt0 (ok_House_taken T) hr (by decide) (pv 0))) (pe_callB call_lenD (by rfl) T.n_len (by decide +kernel) (pa_cons (pe_fld (pv 0) rfl) pa_nil))))), ?_⟩)
  obtain ⟨h, a, s, off, rfl, p, len, q⟩ := hsp
  have o1 : One K A H a.ru "places" (s.rules.places : Nat) := p.ru.one .places rfl
  obtain ⟨dh, h1⟩ := p.hs
  obtain ⟨dr, tr, h4⟩ := o1.rcd
  get_elem_tactic_extensible
  intro H' e
  have p2 := p.same e
  obtain ⟨dh, h1⟩ := p2.hs
  have h5 := p2.od
  get_elem_tactic_extensible
  have e2 : (offK s a).length = s.offers.length := by simp [offK]
  rw [e2]
  exact q H' e
end EH

/-! ## EHH2 -/
namespace EH
open PySem PySem.Spec PyProof.Rows L2 EHR
local macro_rules | `(tactic| decreasing_trivial_pre_omega) => `(tactic| first
  | assumption
  | rfl
  | exact lk_here
  | exact Txt.cl_Ledger (by assumption) | exact Txt.cl_Rules (by assumption) | exact Txt.cl_School (by assumption) | exact Txt.cl_Offer (by assumption) | exact Txt.cl_House (by assumption)
  | exact Txt.na_Ledger (by assumption) _ (by decide +kernel) | exact Txt.na_Rules (by assumption) _ (by decide +kernel) | exact Txt.na_School (by assumption) _ (by decide +kernel) | exact Txt.na_Offer (by assumption) _ (by decide +kernel) | exact Txt.na_House (by assumption) _ (by decide +kernel)
  | exact (lk_past (by decide +kernel)).trans lk_here
  | exact (lk_past (by decide +kernel)).trans ((lk_past (by decide +kernel)).trans lk_here)
  | exact (lk_past (by decide +kernel)).trans ((lk_past (by decide +kernel)).trans ((lk_past (by decide +kernel)).trans lk_here))
  | exact (lk_past (by decide +kernel)).trans ((lk_past (by decide +kernel)).trans ((lk_past (by decide +kernel)).trans ((lk_past (by decide +kernel)).trans lk_here)))
  | exact (lk_past (by decide +kernel)).trans ((lk_past (by decide +kernel)).trans ((lk_past (by decide +kernel)).trans ((lk_past (by decide +kernel)).trans ((lk_past (by decide +kernel)).trans lk_here))))
  | exact (lk_past (by decide +kernel)).trans ((lk_past (by decide +kernel)).trans ((lk_past (by decide +kernel)).trans ((lk_past (by decide +kernel)).trans ((lk_past (by decide +kernel)).trans ((lk_past (by decide +kernel)).trans lk_here)))))
  | exact SqL.of (by assumption) | exact SqT.of (by assumption)
  | exact Or.inl (SqL.of (by assumption)) | exact Or.inr (SqT.of (by assumption)) | exact Or.inl (by assumption) | exact Or.inr (by assumption)
  | exact atI0 rfl | exact atI_nat (j := 1) rfl | exact atI_nat (j := 2) rfl
  | exact Or.inl ⟨rfl, _, SqL.of (by assumption)⟩
  | exact Nat.le_of_ble_eq_true rfl
  | exact Same.at1 (by assumption) (by assumption)
  | exact SqL.of (Same.at1 (by assumption) (by assumption)) | exact SqT.of (Same.at1 (by assumption) (by assumption)) | exact Or.inl (SqL.of (Same.at1 (by assumption) (by assumption))) | exact Or.inr (SqT.of (Same.at1 (by assumption) (by assumption)))
  | exact ⟨_, by assumption⟩
  | exact dput_i (by assumption) (by assumption) | exact kV_i | exact kV_s | exact isD_k (by assumption)
  | exact upd_same)
local macro_rules | `(tactic| get_elem_tactic_extensible) => `(tactic| repeat (first
  | refine And.intro (by decreasing_trivial_pre_omega) ?_
  | apply Exists.intro (α := V) | apply Exists.intro (α := Addr) | apply Exists.intro (α := List V) | apply Exists.intro (α := Int) | apply Exists.intro (α := Bool)
  | apply Exists.intro (α := List (Str × V)) | apply Exists.intro (α := Str) | apply Exists.intro (α := List (Key × V)) | apply Exists.intro (α := Option V)
  | apply Exists.intro (α := List Int) | apply Exists.intro (α := List Bool) | apply Exists.intro (α := List Str) | apply Exists.intro (α := Obj) | apply Exists.intro (α := List En) | apply Exists.intro (α := HAd) | apply Exists.intro (α := Vbdbam.State) | apply Exists.intro (α := Vbdbam.Rules) | apply Exists.intro (α := Hp) | apply Exists.intro (α := Key) | apply Exists.intro (α := Nat) | apply Exists.intro (α := Wd) | apply Exists.intro (α := Wd → List Int) | apply Exists.intro (α := Nat → Int)))
local macro_rules | `(tactic| decreasing_trivial) => `(tactic| (intro vs H Q E h; repeat (first | (obtain ⟨e, _⟩ := h; subst e; rfl) | (obtain ⟨_, h⟩ := h))))

/-- what a call of a method on the house at h makes of it -/
structure Next (K : PySem.W.Frag) (A : Ad) (H : Hp) (h : Addr) (a : HAd) (s' : Vbdbam.State) (H' : Hp) (a' : HAd) : Prop where
  at' : At K A H' h a' s'
  le : a'.le = a.le
  sa : a'.sa = a.sa
  frm : Frm a.le H H'
def sp_House_make_offer (K : PySem.W.Frag) (A : Ad) : Sp := fun vs H Q _ => ∃ (h b : Addr) (a : HAd) (s : Vbdbam.State) (i : Nat), vs = [.ref h, .ref b] ∧ At K A H h a s ∧ b = a.sa i ∧ i < s.schools.length ∧ (∀ x, x ∈ s.offers → x.number < s.next) ∧ (∀ e, e ∈ s.money → e.school < s.schools.length) ∧ s.offers.length < 1000000 ∧
  ∀ H' a', Next K A H h a (Vbdbam.offerTo s i) H' a' → Q .non H'
theorem ok_House_make_offer {P : Program} {w : World} {K : PySem.W.Frag} {mg : Str → Option Value} {base : Heap} {A : Ad} (T : Txt w K mg A) : C8.Met P w K mg base 3 A.cHouse "make_offer" (sp_House_make_offer K A) [] := by
  refine metOf T.cl_House T.d_House_make_offer sc_House_make_offer (by decreasing_trivial) (fun cdv Ar outer s0 H vs Q E hr hsp => ⟨_, (pss_cons (ps_stop (ps_dput (hu_of hr) (pe_fld (pv 0) rfl) (pe_fld (pv 0) rfl) (C8.pe_mk (ok_Offer_init T) hr (by decide) rfl (pa_cons (pe_fld (pv 0) rfl) (pa_cons (pv 1) (pa_cons (pe_fld (pv 0) rfl) pa_nil)))) rfl))
 (pss_cons (ps_stop (ps_fldaug (pv 0) pe_int in_add))
 (pss_one (ps_stop (ps_fldaug (pv 1) pe_int in_add))))), ?_⟩)
  obtain ⟨h, b, a, s, i, rfl, p, rfl, hi, hn, hm, hl, q⟩ := hsp
  obtain ⟨dh, h1⟩ := p.hs
  have h2 := p.od
  refine Stop.go ?_
  get_elem_tactic_extensible
  intro x dx hx hdx hne
  refine ⟨x, dx, a.sa i, _, _, rfl, upd_same, fun H1 e1 e2 => ⟨rfl, ?_⟩⟩
  have s1 := made hx hdx e1
  have p1 := p.same s1
  obtain ⟨dh, h1⟩ := p1.hs
  have h2 := p1.od
  have len : (offK s a).length < sizeLine := lt_line (by simp [offK]; omega)
  get_elem_tactic_extensible
  have hv : valV (offK s a) (.inl (s.next : Int)) = none := offK_none fun y hy => Nat.ne_of_lt (hn y hy)
  rw [putK_new _ hv]
  have p2 := p1.offer (o := ⟨s.next, i, s.day⟩) e2 (fun y hy => Nat.ne_of_lt (hn y hy)) rfl
  have f2 := (Frm.of_same (le := a.le) s1).trans (Frm.upd (o' := .dK (offK s a ++ [(.inl (s.next : Int), .ref x)])) h2 rfl)
  generalize upd H1 a.od (.dK (offK s a ++ [(.inl (s.next : Int), .ref x)])) = H2 at p2 f2
  obtain ⟨dh, h1⟩ := p2.hs
  refine Stop.go ?_
  get_elem_tactic_extensible
  rw [put_made]
  have p3 := p2.house (n := s.next + 1) (d := s.day) (c := s.closed) (dx := dh) (ni := (s.next : Nat) + 1) (di := (s.day : Nat)) rfl rfl
  have f3 := f2.trans (Frm.upd (o' := .ins A.cHouse dh (hFi a.ru a.sd a.od ((s.next : Nat) + 1) (s.day : Nat) s.closed a.lg)) h1 rfl)
  generalize upd H2 h (.ins A.cHouse dh (hFi a.ru a.sd a.od ((s.next : Nat) + 1) (s.day : Nat) s.closed a.lg)) = H3 at p3 f3
  obtain ⟨ds, h3⟩ := p3.sc i hi
  refine Stop.go ?_
  get_elem_tactic_extensible
  rw [put_offered]
  have p4 := p3.offered hm hi (dx := ds) (v := (Vbdbam.offersTo s i : Nat) + 1)
  have f4 := f3.trans (Frm.upd (o' := .ins A.cSchool ds (sOf s i ((Vbdbam.offersTo s i : Nat) + 1))) h3 rfl)
  refine q _ _ ⟨p4.reoff fun j _ => ?_, rfl, rfl, f4⟩
  have e : Vbdbam.offersTo (Vbdbam.offerTo s i) j = if j = i then Vbdbam.offersTo s j + 1 else Vbdbam.offersTo s j := offersTo_new
  rw [e]
  by_cases c : j = i
  · subst c
    rw [if_pos rfl, if_pos rfl]
    rfl
  · rw [if_neg c, if_neg c]
def endOffer (s : Vbdbam.State) (o : Vbdbam.Offer) : Vbdbam.State := { s with offers := s.offers.filter fun x => x.number != o.number }
def sp_House_end_offer (K : PySem.W.Frag) (A : Ad) : Sp := fun vs H Q _ => ∃ (h b : Addr) (a : HAd) (s : Vbdbam.State) (o : Vbdbam.Offer), vs = [.ref h, .ref b] ∧ At K A H h a s ∧ b = a.oa o.number ∧ o ∈ s.offers ∧ o.school < s.schools.length ∧ (s.offers.map fun x => x.number).Nodup ∧ (∀ e, e ∈ s.money → e.school < s.schools.length) ∧
  ∀ H' a', Next K A H h a (endOffer s o) H' a' → a' = a → Q .non H'
theorem ok_House_end_offer {P : Program} {w : World} {K : PySem.W.Frag} {mg : Str → Option Value} {base : Heap} {A : Ad} (T : Txt w K mg A) : C8.Met P w K mg base 1 A.cHouse "end_offer" (sp_House_end_offer K A) [] := by
  refine metOf T.cl_House T.d_House_end_offer sc_House_end_offer (by decreasing_trivial) (fun cdv Ar outer s0 H vs Q E hr hsp => ⟨_, (pss_cons (ps_stop (ps_expr (pe_dpop1 (pe_fld (pv 0) rfl) (pe_fld (pv 1) rfl) ⟨rfl, rfl, rfl, rfl⟩)))
 (pss_one (ps_stop (ps_fldaug (pe_fld (pv 1) rfl) pe_int in_sub)))), ?_⟩)
  obtain ⟨h, b, a, s, o, rfl, p, rfl, ho, hi, nd, hm, q⟩ := hsp
  obtain ⟨dh, h1⟩ := p.hs
  have h2 := p.od
  obtain ⟨dof, h3⟩ := p.of o ho
  have hv := offK_some (a := a) ho
  refine Stop.go ?_
  get_elem_tactic_extensible
  rw [offK_drop]
  have p2 := p.offers (l := s.offers.filter fun x => x.number != o.number) (fun x hx => (List.mem_filter.mp hx).1) rfl
  have f2 := (Frm.of_same (le := a.le) (Same.refl H)).trans (Frm.upd (o' := .dK (offK { s with offers := s.offers.filter fun x => x.number != o.number } a)) h2 rfl)
  have h3 := keepS (o' := .dK (offK { s with offers := s.offers.filter fun x => x.number != o.number } a)) h3 h2 rfl
  generalize upd H a.od (.dK (offK { s with offers := s.offers.filter fun x => x.number != o.number } a)) = H2 at p2 f2 h3
  obtain ⟨ds, h4⟩ := p2.sc o.school hi
  refine Stop.go ?_
  get_elem_tactic_extensible
  rw [put_offered]
  have p4 := p2.offered hm hi (dx := ds) (v := (Vbdbam.offersTo s o.school : Nat) - 1)
  have f4 := f2.trans (Frm.upd (o' := .ins A.cSchool ds (sOf s o.school ((Vbdbam.offersTo s o.school : Nat) - 1))) h4 rfl)
  refine q _ _ ⟨p4.reoff fun j _ => ?_, rfl, rfl, f4⟩ rfl
  have e : Vbdbam.offersTo s j = Vbdbam.offersTo (endOffer s o) j + if o.school = j then 1 else 0 := offersTo_end ho nd
  by_cases c : j = o.school
  · subst c
    rw [if_pos rfl, e, if_pos rfl]
    show (_ : Int) = _
    omega
  · rw [if_neg c, e, if_neg fun h => c h.symm]
    rfl
end EH

/-! ## EHH3 -/
namespace EH
open PySem PySem.Spec PyProof.Rows L2 EHR
local macro_rules | `(tactic| decreasing_trivial_pre_omega) => `(tactic| first
  | assumption
  | rfl
  | exact lk_here
  | exact Txt.cl_Ledger (by assumption) | exact Txt.cl_Rules (by assumption) | exact Txt.cl_School (by assumption) | exact Txt.cl_Offer (by assumption) | exact Txt.cl_House (by assumption)
  | exact Txt.na_Ledger (by assumption) _ (by decide +kernel) | exact Txt.na_Rules (by assumption) _ (by decide +kernel) | exact Txt.na_School (by assumption) _ (by decide +kernel) | exact Txt.na_Offer (by assumption) _ (by decide +kernel) | exact Txt.na_House (by assumption) _ (by decide +kernel)
  | exact (lk_past (by decide +kernel)).trans lk_here
  | exact (lk_past (by decide +kernel)).trans ((lk_past (by decide +kernel)).trans lk_here)
  | exact (lk_past (by decide +kernel)).trans ((lk_past (by decide +kernel)).trans ((lk_past (by decide +kernel)).trans lk_here))
  | exact (lk_past (by decide +kernel)).trans ((lk_past (by decide +kernel)).trans ((lk_past (by decide +kernel)).trans ((lk_past (by decide +kernel)).trans lk_here)))
  | exact (lk_past (by decide +kernel)).trans ((lk_past (by decide +kernel)).trans ((lk_past (by decide +kernel)).trans ((lk_past (by decide +kernel)).trans ((lk_past (by decide +kernel)).trans lk_here))))
  | exact (lk_past (by decide +kernel)).trans ((lk_past (by decide +kernel)).trans ((lk_past (by decide +kernel)).trans ((lk_past (by decide +kernel)).trans ((lk_past (by decide +kernel)).trans ((lk_past (by decide +kernel)).trans lk_here)))))
  | exact SqL.of (by assumption) | exact SqT.of (by assumption)
  | exact Or.inl (SqL.of (by assumption)) | exact Or.inr (SqT.of (by assumption)) | exact Or.inl (by assumption) | exact Or.inr (by assumption)
  | exact atI0 rfl | exact atI_nat (j := 1) rfl | exact atI_nat (j := 2) rfl
  | exact Or.inl ⟨rfl, _, SqL.of (by assumption)⟩
  | exact Nat.le_of_ble_eq_true rfl
  | exact Same.at1 (by assumption) (by assumption)
  | exact SqL.of (Same.at1 (by assumption) (by assumption)) | exact SqT.of (Same.at1 (by assumption) (by assumption)) | exact Or.inl (SqL.of (Same.at1 (by assumption) (by assumption))) | exact Or.inr (SqT.of (Same.at1 (by assumption) (by assumption)))
  | exact ⟨_, by assumption⟩
  | exact dput_i (by assumption) (by assumption) | exact kV_i | exact kV_s | exact isD_k (by assumption)
  | exact upd_same)
local macro_rules | `(tactic| get_elem_tactic_extensible) => `(tactic| repeat (first
  | refine And.intro (by decreasing_trivial_pre_omega) ?_
  | apply Exists.intro (α := V) | apply Exists.intro (α := Addr) | apply Exists.intro (α := List V) | apply Exists.intro (α := Int) | apply Exists.intro (α := Bool)
  | apply Exists.intro (α := List (Str × V)) | apply Exists.intro (α := Str) | apply Exists.intro (α := List (Key × V)) | apply Exists.intro (α := Option V)
  | apply Exists.intro (α := List Int) | apply Exists.intro (α := List Bool) | apply Exists.intro (α := List Str) | apply Exists.intro (α := Obj) | apply Exists.intro (α := List En) | apply Exists.intro (α := HAd) | apply Exists.intro (α := Vbdbam.State) | apply Exists.intro (α := Vbdbam.Rules) | apply Exists.intro (α := Hp) | apply Exists.intro (α := Key) | apply Exists.intro (α := Nat) | apply Exists.intro (α := Wd) | apply Exists.intro (α := Wd → List Int) | apply Exists.intro (α := Nat → Int)))
local macro_rules | `(tactic| decreasing_trivial) => `(tactic| (intro vs H Q E h; repeat (first | (obtain ⟨e, _⟩ := h; subst e; rfl) | (obtain ⟨_, h⟩ := h))))

open Vbdbam (State setSchool schoolAt idAt)
theorem setSchool_two {s : State} {i : Nat} {f g : Vbdbam.School → Vbdbam.School} : setSchool { s with schools := setSchool s i f } i g = setSchool s i fun x => g (f x) := by
  refine List.ext_getElem (by simp [setSchool]) fun j h1 h2 => ?_
  have hj : j < s.schools.length := by simpa [setSchool] using h2
  simp only [setSchool, List.getElem_map, List.getElem_range]
  have e : schoolAt { s with schools := setSchool s i f } j = if j = i then f (schoolAt s j) else schoolAt s j := schoolAt_set hj
  simp only [setSchool] at e
  rw [e]
  by_cases c : j = i
  · rw [if_pos c, if_pos c, if_pos c]
  · rw [if_neg c, if_neg c, if_neg c]
theorem Next.refl {K : PySem.W.Frag} {A : Ad} {H : Hp} {h : Addr} {a : HAd} {s : State} (p : At K A H h a s) : Next K A H h a s H a := ⟨p, rfl, rfl, .of_same (Same.refl H)⟩
theorem Next.trans {K : PySem.W.Frag} {A : Ad} {H H1 H2 : Hp} {h : Addr} {a a1 a2 : HAd} {s1 s2 : State} (x : Next K A H h a s1 H1 a1) (y : Next K A H1 h a1 s2 H2 a2) : Next K A H h a s2 H2 a2 :=
  ⟨y.at', y.le.trans x.le, y.sa.trans x.sa, x.frm.trans (by rw [← x.le]; exact y.frm)⟩
section
variable {K : PySem.W.Frag} {A : Ad} {H : Hp} {h : Addr} {a : HAd} {s : State} {R : Hp → Prop}
/-- behind the writing of a school's record -/
theorem goS (p : At K A H h a s) (hm : ∀ e, e ∈ s.money → e.school < s.schools.length) {i : Nat} (hi : i < s.schools.length) (f : Vbdbam.School → Vbdbam.School) (hf : (f (schoolAt s i)).id = (schoolAt s i).id) {dx : Addr} {w j o : Int}
    (hw : w = ((f (schoolAt s i)).wanted : Nat)) (hj : j = ((f (schoolAt s i)).judges : Nat)) (ho : o = ((f (schoolAt s i)).has_ : Nat))
    (k : ∀ H', At K A H' h a { s with schools := setSchool s i f } → Frm a.le H H' → R H') : R (upd H (a.sa i) (.ins A.cSchool dx (sFi (idAt s i : Nat) w j o (Vbdbam.offersTo s i : Nat)))) := by
  obtain ⟨dc, h1⟩ := p.sc i hi
  refine k _ ((p.school hm hi hf hw hj ho).reoff fun j _ => ?_) (Frm.upd h1 rfl)
  by_cases c : j = i
  · subst c
    rw [if_pos rfl]
    rfl
  · rw [if_neg c]
    rfl
/-- .. of an entry -/
theorem goE (p : At K A H h a s) {es : List V} (hes : H a.le = some (.lst es)) (e : Vbdbam.Entry) {id n : Int} {kd : Str} (hid : id = (idAt s e.school : Nat)) (hk : kd = kindS e.kind) (hn : n = (e.amount : Nat)) {t : Addr} (ht : H t = none)
    (k : ∀ H', At K A H' h a { s with money := s.money ++ [e] } → Frm a.le H H' → R H') : R (upd (upd H t (.tup [.int id, .str kd, .int n])) a.le (.lst (es ++ [.ref t]))) :=
  k _ (p.entry hes ht hid hk hn) ((Frm.of_same (Same.new ht)).trans Frm.updLe)
/-- .. of the house -/
theorem goH (p : At K A H h a s) {n d : Nat} {c : Bool} {dx : Addr} {ni di : Int} (hn : ni = (n : Nat)) (hd : di = (d : Nat)) (k : ∀ H', At K A H' h a { s with next := n, day := d, closed := c } → Frm a.le H H' → R H') :
    R (upd H h (.ins A.cHouse dx (hFi a.ru a.sd a.od ni di c a.lg))) := by
  obtain ⟨dh, h1⟩ := p.hs
  exact k _ (p.house hn hd) (Frm.upd h1 rfl)
end
def sp_House_lose_offer (K : PySem.W.Frag) (A : Ad) : Sp := fun vs H Q _ => ∃ (h b : Addr) (a : HAd) (s : State) (o : Vbdbam.Offer), vs = [.ref h, .ref b] ∧ At K A H h a s ∧ b = a.oa o.number ∧ o ∈ s.offers ∧ o.school < s.schools.length ∧ (s.offers.map fun x => x.number).Nodup ∧ (∀ e, e ∈ s.money → e.school < s.schools.length) ∧
  0 < (schoolAt s o.school).wanted ∧ ∀ H' a', Next K A H h a (Vbdbam.gone s o) H' a' → a' = a → Q .non H'
theorem ok_House_lose_offer {P : Program} {w : World} {K : PySem.W.Frag} {mg : Str → Option Value} {base : Heap} {A : Ad} (T : Txt w K mg A) : C8.Met P w K mg base 2 A.cHouse "lose_offer" (sp_House_lose_offer K A) [] := by
  refine metOf T.cl_House T.d_House_lose_offer sc_House_lose_offer (by decreasing_trivial) (fun cdv Ar outer s0 H vs Q E hr hsp => ⟨_, (pss_cons (ps_stop (ps_expr (C8.pe_mt (ok_House_end_offer T) hr (by decide) (pv 0) (pa_cons (pv 1) pa_nil))))
 (pss_one (ps_stop (ps_fldaug (pe_fld (pv 1) rfl) pe_int in_sub)))), ?_⟩)
  obtain ⟨h, b, a, s, o, rfl, p, rfl, ho, hi, nd, hm, hw, q⟩ := hsp
  obtain ⟨dh, h1⟩ := p.hs
  obtain ⟨dof, h3⟩ := p.of o ho
  refine Stop.go ?_
  get_elem_tactic_extensible
  refine ⟨o, rfl, p, rfl, ho, hi, nd, hm, fun H1 a1 n1 e1 => ?_⟩
  subst e1
  have h3 := n1.frm _ _ h3 rfl (ne_shp h3 (p.le.choose_spec.1) rfl)
  obtain ⟨ds, h2⟩ := n1.at'.sc o.school hi
  refine Stop.go ?_
  get_elem_tactic_extensible
  rw [put_wanted]
  refine goS n1.at' hm hi (fun y => { y with wanted := y.wanted - 1 }) rfl (by show _ = ((_ - 1 : Nat) : Int); have : schoolAt (endOffer s o) o.school = schoolAt s o.school := rfl; rw [this]; omega) rfl rfl fun H2 p2 f2 => ?_
  exact q H2 _ ⟨p2, rfl, rfl, n1.frm.trans f2⟩ rfl
def takePlace (s : State) (i : Nat) : State := { s with schools := setSchool s i fun y => { y with has_ := y.has_ + 1 }, money := s.money ++ [⟨i, 1, s.rules.fee⟩] }
def sp_House_take_place (K : PySem.W.Frag) (A : Ad) : Sp := fun vs H Q _ => ∃ (h b : Addr) (a : HAd) (s : State) (i : Nat), vs = [.ref h, .ref b] ∧ At K A H h a s ∧ b = a.sa i ∧ i < s.schools.length ∧ (∀ e, e ∈ s.money → e.school < s.schools.length) ∧ s.money.length < 1000 ∧
  ∀ H' a', Next K A H h a (takePlace s i) H' a' → a' = a → Q .non H'
theorem ok_House_take_place {P : Program} {w : World} {K : PySem.W.Frag} {mg : Str → Option Value} {base : Heap} {A : Ad} (T : Txt w K mg A) : C8.Met P w K mg base 2 A.cHouse "take_place" (sp_House_take_place K A) [] := by
  refine metOf T.cl_House T.d_House_take_place sc_House_take_place (by decreasing_trivial) (fun cdv Ar outer s0 H vs Q E hr hsp => ⟨_, (pss_cons (ps_stop (ps_fldaug (pv 1) pe_int in_add))
 (pss_one (ps_stop (ps_expr (C8.pe_mt (ok_Ledger_write T) hr (by decide) (pe_fld (pv 0) rfl) (pa_cons (pv 1) (pa_cons (C8.pe_gc rfl T.c_FEE) (pa_cons (C8.pe_mt (ok_Rules_one T) hr (by decide) (pe_fld (pv 0) rfl) (pa_cons pe_str pa_nil)) pa_nil)))))))), ?_⟩)
  obtain ⟨h, b, a, s, i, rfl, p, rfl, hi, hm, len, q⟩ := hsp
  obtain ⟨ds, h1⟩ := p.sc i hi
  refine Stop.go ?_
  get_elem_tactic_extensible
  rw [put_has]
  refine goS p hm hi (fun y => { y with has_ := y.has_ + 1 }) rfl rfl rfl rfl fun H2 p2 f2 => ?_
  have hi2 : i < (setSchool s i fun y => { y with has_ := y.has_ + 1 }).length := by rw [setSchool_len]; exact hi
  obtain ⟨dh, h2⟩ := p2.hs
  obtain ⟨dl, h3⟩ := p2.lg
  obtain ⟨es, h4, h5⟩ := p2.le
  obtain ⟨ds2, h6⟩ := p2.sc i hi2
  have o1 : One K A H2 a.ru "fee" (s.rules.fee : Nat) := p2.ru.one .fee rfl
  obtain ⟨dr, tr, h7⟩ := o1.rcd
  have len2 : es.length < 1000000 := by rw [h5.len]; simp [ents]; omega
  refine Stop.go ?_
  get_elem_tactic_extensible
  intro t ht
  exact goE p2 h4 ⟨i, 1, s.rules.fee⟩ rfl rfl rfl ht fun H3 p3 f3 => q H3 a ⟨p3, rfl, rfl, f2.trans f3⟩ rfl
def givePlaces (s : State) (i n g : Nat) : State := { s with schools := setSchool s i fun y => { y with has_ := y.has_ - n, wanted := y.wanted - n }, money := s.money ++ [⟨i, 2, g⟩] }
def sp_House_give_up_places (K : PySem.W.Frag) (A : Ad) : Sp := fun vs H Q _ => ∃ (h b : Addr) (a : HAd) (s : State) (i n g : Nat), vs = [.ref h, .ref b, .int n, .int g] ∧ At K A H h a s ∧ b = a.sa i ∧ i < s.schools.length ∧ (∀ e, e ∈ s.money → e.school < s.schools.length) ∧ s.money.length < 1000 ∧
  n ≤ (schoolAt s i).has_ ∧ n ≤ (schoolAt s i).wanted ∧ ∀ H' a', Next K A H h a (givePlaces s i n g) H' a' → a' = a → Q .non H'
theorem ok_House_give_up_places {P : Program} {w : World} {K : PySem.W.Frag} {mg : Str → Option Value} {base : Heap} {A : Ad} (T : Txt w K mg A) : C8.Met P w K mg base 2 A.cHouse "give_up_places" (sp_House_give_up_places K A) [] := by
  refine metOf T.cl_House T.d_House_give_up_places sc_House_give_up_places (by decreasing_trivial) (fun cdv Ar outer s0 H vs Q E hr hsp => ⟨_, (pss_cons (ps_stop (ps_fldaug (pv 1) (pv 2) in_sub))
 (pss_cons (ps_stop (ps_fldaug (pv 1) (pv 2) in_sub))
 (pss_one (ps_stop (ps_expr (C8.pe_mt (ok_Ledger_write T) hr (by decide) (pe_fld (pv 0) rfl) (pa_cons (pv 1) (pa_cons (C8.pe_gc rfl T.c_GIVEN_BACK) (pa_cons (pv 3) pa_nil))))))))), ?_⟩)
  obtain ⟨h, b, a, s, i, n, g, rfl, p, rfl, hi, hm, len, n1, n2, q⟩ := hsp
  obtain ⟨ds, h1⟩ := p.sc i hi
  refine Stop.go ?_
  get_elem_tactic_extensible
  rw [put_has]
  refine goS p hm hi (fun y => { y with has_ := y.has_ - n }) rfl rfl rfl (by show _ = ((_ - n : Nat) : Int); omega) fun H2 p2 f2 => ?_
  have hm2 : ∀ e, e ∈ s.money → e.school < (setSchool s i fun y => { y with has_ := y.has_ - n }).length := fun e he => by rw [setSchool_len]; exact hm e he
  have hi2 : i < (setSchool s i fun y => { y with has_ := y.has_ - n }).length := by rw [setSchool_len]; exact hi
  obtain ⟨ds2, h2⟩ := p2.sc i hi2
  refine Stop.go ?_
  get_elem_tactic_extensible
  rw [put_wanted]
  have ew : schoolAt { s with schools := setSchool s i fun y => { y with has_ := y.has_ - n } } i = { schoolAt s i with has_ := (schoolAt s i).has_ - n } := by
    have := schoolAt_set (f := fun y => { y with has_ := y.has_ - n }) (i := i) hi
    rw [if_pos rfl] at this
    exact this
  refine goS p2 hm2 hi2 (fun y => { y with wanted := y.wanted - n }) rfl (by rw [ew]; show _ = ((_ - n : Nat) : Int); simp only []; omega) rfl rfl fun H3 p3 f3 => ?_
  rw [setSchool_two] at p3
  have hi3 : i < (setSchool s i fun y => { y with has_ := y.has_ - n, wanted := y.wanted - n }).length := by rw [setSchool_len]; exact hi
  obtain ⟨dh, h2⟩ := p3.hs
  obtain ⟨dl, h3⟩ := p3.lg
  obtain ⟨es, h4, h5⟩ := p3.le
  obtain ⟨ds2, h6⟩ := p3.sc i hi3
  have len2 : es.length < 1000000 := by rw [h5.len]; simp [ents]; omega
  refine Stop.go ?_
  get_elem_tactic_extensible
  intro t ht
  exact goE p3 h4 ⟨i, 2, g⟩ rfl rfl rfl ht fun H4 p4 f4 => q H4 a ⟨p4, rfl, rfl, (f2.trans f3).trans f4⟩ rfl
end EH

/-! ## EHH4 -/
namespace EH
open PySem PySem.Spec PyProof.Rows L2 EHR
local macro_rules | `(tactic| decreasing_trivial_pre_omega) => `(tactic| first
  | assumption
  | rfl
  | exact lk_here
  | exact Txt.cl_Ledger (by assumption) | exact Txt.cl_Rules (by assumption) | exact Txt.cl_School (by assumption) | exact Txt.cl_Offer (by assumption) | exact Txt.cl_House (by assumption)
  | exact Txt.na_Ledger (by assumption) _ (by decide +kernel) | exact Txt.na_Rules (by assumption) _ (by decide +kernel) | exact Txt.na_School (by assumption) _ (by decide +kernel) | exact Txt.na_Offer (by assumption) _ (by decide +kernel) | exact Txt.na_House (by assumption) _ (by decide +kernel)
  | exact (lk_past (by decide +kernel)).trans lk_here
  | exact (lk_past (by decide +kernel)).trans ((lk_past (by decide +kernel)).trans lk_here)
  | exact (lk_past (by decide +kernel)).trans ((lk_past (by decide +kernel)).trans ((lk_past (by decide +kernel)).trans lk_here))
  | exact (lk_past (by decide +kernel)).trans ((lk_past (by decide +kernel)).trans ((lk_past (by decide +kernel)).trans ((lk_past (by decide +kernel)).trans lk_here)))
  | exact (lk_past (by decide +kernel)).trans ((lk_past (by decide +kernel)).trans ((lk_past (by decide +kernel)).trans ((lk_past (by decide +kernel)).trans ((lk_past (by decide +kernel)).trans lk_here))))
  | exact (lk_past (by decide +kernel)).trans ((lk_past (by decide +kernel)).trans ((lk_past (by decide +kernel)).trans ((lk_past (by decide +kernel)).trans ((lk_past (by decide +kernel)).trans ((lk_past (by decide +kernel)).trans lk_here)))))
  | exact SqL.of (by assumption) | exact SqT.of (by assumption)
  | exact Or.inl (SqL.of (by assumption)) | exact Or.inr (SqT.of (by assumption)) | exact Or.inl (by assumption) | exact Or.inr (by assumption)
  | exact atI0 rfl | exact atI_nat (j := 1) rfl | exact atI_nat (j := 2) rfl
  | exact Or.inl ⟨rfl, _, SqL.of (by assumption)⟩
  | exact Nat.le_of_ble_eq_true rfl
  | exact Same.at1 (by assumption) (by assumption)
  | exact SqL.of (Same.at1 (by assumption) (by assumption)) | exact SqT.of (Same.at1 (by assumption) (by assumption)) | exact Or.inl (SqL.of (Same.at1 (by assumption) (by assumption))) | exact Or.inr (SqT.of (Same.at1 (by assumption) (by assumption)))
  | exact ⟨_, by assumption⟩
  | exact dput_i (by assumption) (by assumption) | exact kV_i | exact kV_s | exact isD_k (by assumption)
  | exact upd_same)
local macro_rules | `(tactic| get_elem_tactic_extensible) => `(tactic| repeat (first
  | refine And.intro (by decreasing_trivial_pre_omega) ?_
  | apply Exists.intro (α := V) | apply Exists.intro (α := Addr) | apply Exists.intro (α := List V) | apply Exists.intro (α := Int) | apply Exists.intro (α := Bool)
  | apply Exists.intro (α := List (Str × V)) | apply Exists.intro (α := Str) | apply Exists.intro (α := List (Key × V)) | apply Exists.intro (α := Option V)
  | apply Exists.intro (α := List Int) | apply Exists.intro (α := List Bool) | apply Exists.intro (α := List Str) | apply Exists.intro (α := Obj) | apply Exists.intro (α := List En) | apply Exists.intro (α := HAd) | apply Exists.intro (α := Vbdbam.State) | apply Exists.intro (α := Vbdbam.Rules) | apply Exists.intro (α := Hp) | apply Exists.intro (α := Key) | apply Exists.intro (α := Nat) | apply Exists.intro (α := Wd) | apply Exists.intro (α := Wd → List Int) | apply Exists.intro (α := Nat → Int)))
local macro_rules | `(tactic| decreasing_trivial) => `(tactic| (intro vs H Q E h; repeat (first | (obtain ⟨e, _⟩ := h; subst e; rfl) | (obtain ⟨_, h⟩ := h))))

open Vbdbam (State setSchool schoolAt idAt)
theorem relock {H : Hp} {b : Addr} {o u : HO} (h : H b = some o) : upd (upd H b u) b o = H := by
  rw [upd_upd]
  funext x
  by_cases c : x = b
  · subst c; rw [upd_same, h]
  · rw [upd_ne c]
theorem upd_swap {H : Hp} {a b : Addr} {o u : HO} (h : a ≠ b) : upd (upd H a o) b u = upd (upd H b u) a o := by
  funext x
  by_cases c : x = b
  · subst c; rw [upd_same, upd_ne (Ne.symm h), upd_same]
  · rw [upd_ne c]
    by_cases d : x = a
    · subst d; rw [upd_same, upd_same]
    · rw [upd_ne d, upd_ne d, upd_ne c]
def fineOf (s : State) (i : Nat) : List Vbdbam.Entry := ((List.range i).filter fun i => decide (0 < Vbdbam.missing s i * s.rules.fine)).map fun i => ⟨i, 3, Vbdbam.missing s i * s.rules.fine⟩
theorem fineOf_len {s : State} {i : Nat} : (fineOf s i).length ≤ i := by
  have := List.length_filter_le (fun i => decide (0 < Vbdbam.missing s i * s.rules.fine)) (List.range i)
  simp only [fineOf, List.length_map, List.length_range] at *
  exact this
theorem fineOf_succ {s : State} {i : Nat} : fineOf s (i + 1) = fineOf s i ++ if 0 < Vbdbam.missing s i * s.rules.fine then [⟨i, 3, Vbdbam.missing s i * s.rules.fine⟩] else [] := by
  unfold fineOf
  rw [List.range_succ, List.filter_append, List.map_append]
  by_cases c : 0 < Vbdbam.missing s i * s.rules.fine
  · simp [c]
  · simp [c]
/-- a walk over the schools, locked: unlocked, the house is s -/
structure InW (K : PySem.W.Frag) (A : Ad) (H0 : Hp) (h : Addr) (a : HAd) (s0 s : State) (od : Obj) (H : Hp) : Prop where
  z : H a.sd = some (.frz od (.dK (schK s0 a)))
  p : At K A (upd H a.sd (.dK (schK s0 a))) h a s
  f : Frm a.le H0 (upd H a.sd (.dK (schK s0 a)))
theorem InW.prt {K : PySem.W.Frag} {A : Ad} {H0 H : Hp} {h : Addr} {a : HAd} {s0 s : State} {od : Obj} (w : InW K A H0 h a s0 s od H) : Prt K A H h a s fun i => (Vbdbam.offersTo s i : Nat) := by
  have r := w.p.prt.lock (o := .frz od (.dK (schK s0 a))) w.p.sd w.p.d2
  rw [relock w.z] at r
  exact r
def sp_House_fine_schools (K : PySem.W.Frag) (A : Ad) : Sp := fun vs H Q _ => ∃ (h : Addr) (a : HAd) (s : State), vs = [.ref h] ∧ At K A H h a s ∧ (∀ e, e ∈ s.money → e.school < s.schools.length) ∧ s.schools.length ≤ 100 ∧ s.money.length ≤ 800 ∧ s.rules.fine < 1000000 ∧ 0 < s.rules.per ∧ s.rules.per < 1000 ∧
  (∀ i, i < s.schools.length → (schoolAt s i).has_ < 1000000) ∧ ∀ H' a', Next K A H h a { s with money := s.money ++ Vbdbam.finesOf s } H' a' → a' = a → Q .non H'
theorem ok_House_fine_schools {P : Program} {w : World} {K : PySem.W.Frag} {mg : Str → Option Value} {base : Heap} {A : Ad} (T : Txt w K mg A) : C8.Met P w K mg base 3 A.cHouse "fine_schools" (sp_House_fine_schools K A) [] := by
  refine metOf T.cl_House T.d_House_fine_schools sc_House_fine_schools (by decreasing_trivial) (fun cdv Ar outer s0 H vs Q E hr hsp => ⟨_, (pss_one (ps_stop (ps_lock (ps_for PassesOwn.never rfl (pi_values (pe_fld (pv 0) rfl)) (pg_name (i := 1) sc_House_fine_schools.nd rfl (Or.inl rfl))
  (pss_cons (ps_stop (ps_set (i := 2) sc_House_fine_schools.nd rfl (Or.inl rfl) (pe_op op_mul (C8.pe_mt (ok_House_missing T) hr (by decide) (pv 0) (pa_cons (pv 1) pa_nil)) (C8.pe_mt (ok_Rules_one T) hr (by decide) (pe_fld (pv 0) rfl) (pa_cons pe_str pa_nil)))))
 (pss_one (ps_stop (ps_if (pt_cmpR op_ne (pv 2) pe_int (nomark _)) (pss_one (ps_stop (ps_expr (C8.pe_mt (ok_Ledger_write T) hr (by decide) (pe_fld (pv 0) rfl) (pa_cons (pv 1) (pa_cons (C8.pe_gc rfl T.c_FINE) (pa_cons (pv 2) pa_nil))))))) pss_nil)))))))), ?_⟩)
  obtain ⟨h, a, s, rfl, p, hm, len, lm, fb, per, per', hb, q⟩ := hsp
  refine Stop.go ?_
  refine ⟨a.sd, _, p.sd, trivial, fun od => ?_⟩
  have w0 : InW K A H h a s { s with money := s.money ++ fineOf s 0 } od (upd H a.sd (.frz od (.dK (schK s a)))) := by
    have e : { s with money := s.money ++ fineOf s 0 } = s := by show { s with money := s.money ++ [] } = s; rw [List.append_nil]
    have e2 : upd (upd H a.sd (.frz od (.dK (schK s a)))) a.sd (.dK (schK s a)) = H := by rw [upd_upd]; funext x; by_cases c : x = a.sd; subst c; rw [upd_same, p.sd]; rw [upd_ne c]
    exact ⟨upd_same, by rw [e, e2]; exact p, by rw [e2]; exact .of_same (Same.refl H)⟩
  generalize upd H a.sd (.frz od (.dK (schK s a))) = H1 at w0
  have h3 := w0.z
  obtain ⟨dh, h1⟩ := w0.prt.hs
  get_elem_tactic_extensible
  refine for_it walk_values (fun i σ H' => Hold (InW K A H h a s { s with money := s.money ++ fineOf s i } od H' ∧ ∃ z1 z2, σ = [some (.ref h), z1, z2])) ⟨w0, _, _, rfl⟩ (fun i σ H' _ q => q.h.1.z) (fun i x σ H2 H' hi q y => ?_) (fun σ H' q1 => ?_)
  · obtain ⟨rfl, k, hx⟩ := y
    obtain ⟨hi', rfl, rfl⟩ := schK_at hx
    obtain ⟨wi, z1, z2, rfl⟩ := q.h
    obtain ⟨dh, h1⟩ := wi.prt.hs
    obtain ⟨ds, h2⟩ := wi.prt.sc i hi'
    obtain ⟨dl, h4⟩ := wi.prt.lg
    obtain ⟨es, h5, h6⟩ := wi.prt.le
    have r1 : Rls K A H' a.ru s.rules := ⟨_, wi.prt.ru⟩
    have o1 : One K A H' a.ru "fine" (s.rules.fine : Nat) := wi.prt.ru.one .fine rfl
    obtain ⟨dr, tr, h7⟩ := o1.rcd
    have hb := hb i hi'
    have cm : CMul (Vbdbam.owed s.rules (schoolAt s i).has_ - (schoolAt s i).judges : Nat) (s.rules.fine : Nat) := .inr ⟨by omega, by omega⟩
    have len2 : es.length < 1000000 := by
      have := fineOf_len (s := s) (i := i)
      rw [h6.len]; simp [ents]; omega
    get_elem_tactic_extensible
    refine Stop.go ?_
    get_elem_tactic_extensible
    have e0 : (((Vbdbam.owed s.rules (schoolAt s i).has_ - (schoolAt s i).judges : Nat) : Int) * (s.rules.fine : Nat)) = ((Vbdbam.missing s i * s.rules.fine : Nat) : Int) := by
      rw [Int.natCast_mul]
      rfl
    refine Stop.go ?_
    get_elem_tactic_extensible
    refine ifn (fun hc => ?_) fun hc => ?_
    · have hc : 0 < Vbdbam.missing s i * s.rules.fine := by
        have : ¬ ((Vbdbam.missing s i * s.rules.fine : Nat) : Int) = 0 := fun c => hc (congrArg V.int (e0.trans c))
        omega
      refine Stop.go ?_
      get_elem_tactic_extensible
      intro t ht
      have nt : a.sd ≠ t := Same.ne wi.z ht
      have nl : a.sd ≠ a.le := ne_of wi.z h5 (by intro c; cases c)
      have ht2 : upd H' a.sd (.dK (schK s a)) t = none := by rw [upd_ne nt.symm]; exact ht
      have h52 : upd H' a.sd (.dK (schK s a)) a.le = some (.lst es) := by rw [upd_ne nl.symm]; exact h5
      refine ⟨?_, _, _, rfl⟩
      have sw : ∀ o u, upd (upd (upd H' t o) a.le u) a.sd (.dK (schK s a)) = upd (upd (upd H' a.sd (.dK (schK s a))) t o) a.le u := fun o u => by
        rw [upd_swap nl.symm, upd_swap nt.symm]
      have em : ({ s with money := s.money ++ fineOf s (i + 1) } : State) = { s with money := (s.money ++ fineOf s i) ++ [⟨i, 3, Vbdbam.missing s i * s.rules.fine⟩] } := by
        rw [fineOf_succ, if_pos hc, List.append_assoc]
      refine ⟨?_, ?_, ?_⟩
      · rw [upd_ne nl, upd_ne nt]
        exact wi.z
      · rw [sw, em]
        exact goE (R := fun H' => At K A H' h a _) wi.p h52 ⟨i, 3, Vbdbam.missing s i * s.rules.fine⟩ rfl rfl e0 ht2 fun _ r _ => r
      · rw [sw]
        exact goE (R := fun H' => Frm a.le H H') wi.p h52 ⟨i, 3, Vbdbam.missing s i * s.rules.fine⟩ rfl rfl e0 ht2 fun _ _ r => wi.f.trans r
    · have hc : ¬ 0 < Vbdbam.missing s i * s.rules.fine := by
        have := e0.symm.trans (V.int.inj hc)
        omega
      have em : ({ s with money := s.money ++ fineOf s (i + 1) } : State) = { s with money := s.money ++ fineOf s i } := by
        rw [fineOf_succ, if_neg hc, List.append_nil]
      exact ⟨by rw [em]; exact wi, _, _, rfl⟩
  · obtain ⟨w1, z1, z2, rfl⟩ := q1.h
    refine ⟨w1.z, q _ a ⟨?_, rfl, rfl, w1.f⟩ rfl⟩
    have e : fineOf s (schK s a).length = Vbdbam.finesOf s := by rw [schK_len]; rfl
    rw [← e]
    exact w1.p
end EH

/-! ## EHT -/
namespace EH
open PySem PySem.Spec PyProof.Rows L2 EHR
local macro_rules | `(tactic| decreasing_trivial_pre_omega) => `(tactic| first
  | assumption
  | rfl
  | exact lk_here
  | exact Txt.cl_Ledger (by assumption) | exact Txt.cl_Rules (by assumption) | exact Txt.cl_School (by assumption) | exact Txt.cl_Offer (by assumption) | exact Txt.cl_House (by assumption)
  | exact Txt.na_Ledger (by assumption) _ (by decide +kernel) | exact Txt.na_Rules (by assumption) _ (by decide +kernel) | exact Txt.na_School (by assumption) _ (by decide +kernel) | exact Txt.na_Offer (by assumption) _ (by decide +kernel) | exact Txt.na_House (by assumption) _ (by decide +kernel)
  | exact (lk_past (by decide +kernel)).trans lk_here
  | exact (lk_past (by decide +kernel)).trans ((lk_past (by decide +kernel)).trans lk_here)
  | exact (lk_past (by decide +kernel)).trans ((lk_past (by decide +kernel)).trans ((lk_past (by decide +kernel)).trans lk_here))
  | exact (lk_past (by decide +kernel)).trans ((lk_past (by decide +kernel)).trans ((lk_past (by decide +kernel)).trans ((lk_past (by decide +kernel)).trans lk_here)))
  | exact (lk_past (by decide +kernel)).trans ((lk_past (by decide +kernel)).trans ((lk_past (by decide +kernel)).trans ((lk_past (by decide +kernel)).trans ((lk_past (by decide +kernel)).trans lk_here))))
  | exact (lk_past (by decide +kernel)).trans ((lk_past (by decide +kernel)).trans ((lk_past (by decide +kernel)).trans ((lk_past (by decide +kernel)).trans ((lk_past (by decide +kernel)).trans ((lk_past (by decide +kernel)).trans lk_here)))))
  | exact SqL.of (by assumption) | exact SqT.of (by assumption)
  | exact Or.inl (SqL.of (by assumption)) | exact Or.inr (SqT.of (by assumption)) | exact Or.inl (by assumption) | exact Or.inr (by assumption)
  | exact atI0 rfl | exact atI_nat (j := 1) rfl | exact atI_nat (j := 2) rfl
  | exact Or.inl ⟨rfl, _, SqL.of (by assumption)⟩
  | exact Nat.le_of_ble_eq_true rfl
  | exact Same.at1 (by assumption) (by assumption)
  | exact SqL.of (Same.at1 (by assumption) (by assumption)) | exact SqT.of (Same.at1 (by assumption) (by assumption)) | exact Or.inl (SqL.of (Same.at1 (by assumption) (by assumption))) | exact Or.inr (SqT.of (Same.at1 (by assumption) (by assumption)))
  | exact ⟨_, by assumption⟩
  | exact dput_i (by assumption) (by assumption) | exact kV_i | exact kV_s | exact isD_k (by assumption)
  | exact upd_same)
local macro_rules | `(tactic| get_elem_tactic_extensible) => `(tactic| repeat (first
  | refine And.intro (by decreasing_trivial_pre_omega) ?_
  | apply Exists.intro (α := V) | apply Exists.intro (α := Addr) | apply Exists.intro (α := List V) | apply Exists.intro (α := Int) | apply Exists.intro (α := Bool)
  | apply Exists.intro (α := List (Str × V)) | apply Exists.intro (α := Str) | apply Exists.intro (α := List (Key × V)) | apply Exists.intro (α := Option V)
  | apply Exists.intro (α := List Int) | apply Exists.intro (α := List Bool) | apply Exists.intro (α := List Str) | apply Exists.intro (α := Obj) | apply Exists.intro (α := List En) | apply Exists.intro (α := HAd) | apply Exists.intro (α := Vbdbam.State) | apply Exists.intro (α := Vbdbam.Rules) | apply Exists.intro (α := Hp) | apply Exists.intro (α := Key) | apply Exists.intro (α := Nat) | apply Exists.intro (α := Wd) | apply Exists.intro (α := Wd → List Int) | apply Exists.intro (α := Nat → Int)))
local macro_rules | `(tactic| decreasing_trivial) => `(tactic| (intro vs H Q E h; repeat (first | (obtain ⟨e, _⟩ := h; subst e; rfl) | (obtain ⟨_, h⟩ := h))))

open Vbdbam (State setSchool schoolAt idAt)
abbrev Tri := Int × Int × Int
def mostOf (s : State) (i : Nat) : Nat := min (schoolAt s i).wanted s.rules.cap
/-- the steps of a school: each load up to the most -/
def triAt (s : State) (i j : Nat) : Tri := (((Vbdbam.load s i + j : Nat) : Int), (i : Int), (idAt s i : Int))
def triOf (s : State) (i : Nat) : List Tri := (List.range (mostOf s i - Vbdbam.load s i)).map (triAt s i)
def tris (s : State) (n : Nat) : List Tri := (List.range n).flatMap (triOf s)
def TrAt (H : Hp) (v : V) (t : Tri) : Prop := ∃ c, v = .ref c ∧ H c = some (.tup [.int t.1, .int t.2.1, .int t.2.2])
abbrev TrL (H : Hp) (es : List V) (l : List Tri) : Prop := Paired (TrAt H) es l
/-- all but L is as it was -/
def Ext (L : Addr) (H H' : Hp) : Prop := ∀ b o, H b = some o → b ≠ L → H' b = some o
theorem Ext.refl {L : Addr} {H : Hp} : Ext L H H := fun _ _ h _ => h
theorem Ext.trans {L : Addr} {H H1 H2 : Hp} (x : Ext L H H1) (y : Ext L H1 H2) : Ext L H H2 := fun b o h n => y b o (x b o h n) n
theorem Ext.same {L : Addr} {H H' : Hp} (e : Same H H') : Ext L H H' := fun b o h _ => e b o h
theorem Ext.upd {L : Addr} {H : Hp} {o : HO} : Ext L H (L2.upd H L o) := fun b u h n => by rw [upd_ne n]; exact h
theorem Ext.free {L p : Addr} {H H' : Hp} (e : Ext L H H') (n : p ≠ L) (h : H' p = none) : H p = none := by
  cases q : H p with
  | none => rfl
  | some o => rw [e p o q n] at h; cases h
theorem RlsN.ext {K : PySem.W.Frag} {A : Ad} {H H' : Hp} {L ru td : Addr} {N : Wd → List Int} {l : List V} (h : RlsN K A H ru td N) (hL : H L = some (.lst l)) (e : Ext L H H') : RlsN K A H' ru td N := by
  obtain ⟨dx, p, h1, h2, h3⟩ := h
  refine ⟨dx, p, e _ _ h1 (ne_shp h1 hL rfl), e _ _ h2 (ne_shp h2 hL rfl), fun w => ?_⟩
  rcases h3 w with (q | ⟨od, q⟩) | q
  · exact .inl (.inl (e _ _ q (ne_shp q hL rfl)))
  · exact .inl (.inr ⟨od, e _ _ q (ne_shp q hL rfl)⟩)
  · exact .inr q
theorem TrL.ext {L : Addr} {H H' : Hp} {xs : List V} (hL : H L = some (.lst xs)) (e : Ext L H H') : ∀ {es : List V} {l : List Tri}, TrL H es l → TrL H' es l
  | _, _, .nil => .nil
  | _, _, .cons ⟨c, h1, h2⟩ t => .cons ⟨c, h1, e _ _ h2 (ne_shp h2 hL rfl)⟩ (TrL.ext hL e t)
theorem triOf_at {s : State} {i j : Nat} (h : j < mostOf s i - Vbdbam.load s i) : (triOf s i)[j]? = some (triAt s i j) := by
  unfold triOf
  rw [List.getElem?_map, List.getElem?_range h]
  rfl
theorem triOf_len {s : State} {i : Nat} : (triOf s i).length = mostOf s i - Vbdbam.load s i := by simp [triOf]
theorem tris_succ {s : State} {i : Nat} : tris s (i + 1) = tris s i ++ triOf s i := by
  unfold tris
  rw [List.range_succ, List.flatMap_append]
  simp
theorem tris_len {s : State} (cap : s.rules.cap ≤ 100) : ∀ i, (tris s i).length ≤ i * 100
  | 0 => Nat.zero_le _
  | i + 1 => by
    have h1 := tris_len cap i
    have h2 : mostOf s i ≤ 100 := Nat.le_trans (Nat.min_le_right _ _) cap
    rw [tris_succ, List.length_append, triOf_len]
    omega
theorem tris_mem {s : State} {n : Nat} {t : Tri} (h : t ∈ tris s n) : ∃ i j, i < n ∧ j < mostOf s i - Vbdbam.load s i ∧ t = triAt s i j := by
  obtain ⟨i, h1, h2⟩ := List.mem_flatMap.mp h
  obtain ⟨j, h3, h4⟩ := List.mem_map.mp h2
  exact ⟨i, j, List.mem_range.mp h1, List.mem_range.mp h3, h4.symm⟩
/-- what a tuple of three whole numbers holds -/
def keyOf (H : Hp) : V → Tri
  | .ref c => match H c with
    | some (.tup [.int x, .int y, .int z]) => (x, y, z)
    | _ => (0, 0, 0)
  | _ => (0, 0, 0)
theorem TrAt.key {H : Hp} {v : V} {t : Tri} (h : TrAt H v t) : keyOf H v = t := by
  obtain ⟨c, rfl, h2⟩ := h
  show (match H c with
    | some (.tup [.int x, .int y, .int z]) => (x, y, z)
    | _ => (0, 0, 0)) = t
  rw [h2]
theorem TrL.keys {H : Hp} : ∀ {es : List V} {l : List Tri}, TrL H es l → es.map (keyOf H) = l
  | _, _, .nil => rfl
  | _, _, .cons h t => by rw [List.map_cons, h.key, TrL.keys t]
theorem TrL.mem {H : Hp} : ∀ {es : List V} {l : List Tri} {v : V}, TrL H es l → v ∈ es → ∃ t, t ∈ l ∧ TrAt H v t
  | _, _, _, .nil, h => by cases h
  | _, _, _, .cons h t, m => by
    rcases List.mem_cons.mp m with c | c
    · subst c; exact ⟨_, List.mem_cons.mpr (.inl rfl), h⟩
    · obtain ⟨x, h1, h2⟩ := TrL.mem t c
      exact ⟨x, List.mem_cons.mpr (.inr h1), h2⟩
theorem schK_val {s : State} {a : HAd} (nd : (s.schools.map fun x => x.id).Nodup) {i : Nat} (hi : i < s.schools.length) : valV (schK s a) (.inl (idAt s i : Int)) = some (.ref (a.sa i)) := by
  have e : ∀ j, j < s.schools.length → idAt s j = idAt s i → j = i := fun j hj c => by
    have g : ∀ k (hk : k < s.schools.length), idAt s k = (s.schools.map fun x => x.id)[k]'(by simpa using hk) := fun k hk => by
      rw [List.getElem_map]
      unfold idAt
      rw [schoolAt_eq hk]
    rw [g j hj, g i hi] at c
    exact (List.getElem_inj nd).mp c
  have h : ∀ (l : List Nat), (∀ j, j ∈ l → j < s.schools.length) → i ∈ l → valV (l.map fun i => ((Sum.inl (idAt s i : Int) : Key), V.ref (a.sa i))) (.inl (idAt s i : Int)) = some (.ref (a.sa i)) := fun l => by
    induction l with
    | nil => intro _ h; cases h
    | cons x l ih =>
      intro hl hi
      by_cases c : idAt s x = idAt s i
      · have := e x (hl x (List.mem_cons.mpr (.inl rfl))) c
        subst this
        rw [List.map_cons, valV_pos rfl]
      · rw [List.map_cons, valV_neg (fun d => c (Int.ofNat_inj.mp (Sum.inl.inj d)))]
        refine ih (fun j hj => hl j (List.mem_cons.mpr (.inr hj))) ?_
        rcases List.mem_cons.mp hi with d | d
        · subst d; exact absurd rfl c
        · exact d
  exact h _ (fun j hj => List.mem_range.mp hj) (List.mem_range.mpr hi)
def sp_House_turns (K : PySem.W.Frag) (A : Ad) : Sp := fun vs H Q _ => ∃ (h : Addr) (a : HAd) (s : State), vs = [.ref h] ∧ At K A H h a s ∧ s.schools.length ≤ 100 ∧ s.rules.cap ≤ 100 ∧ (s.schools.map fun x => x.id).Nodup ∧ (∀ i, i < s.schools.length → (schoolAt s i).wanted ≤ 1000 ∧ Vbdbam.load s i ≤ 1000) ∧
  ∀ p H' (T : List Tri), T.Perm (tris s s.schools.length) → SrtO.Srtd lt3 T → H p = none → Same H H' → H' p = some (.lst (T.map fun t => .ref (a.sa t.2.1.toNat))) → Q (.ref p) H'
theorem ok_House_turns {P : Program} {w : World} {K : PySem.W.Frag} {mg : Str → Option Value} {base : Heap} {A : Ad} (T : Txt w K mg A) : C8.Met P w K mg base 3 A.cHouse "turns" (sp_House_turns K A) [] := by
  refine metOf T.cl_House T.d_House_turns sc_House_turns (by decreasing_trivial) (fun cdv Ar outer s0 H vs Q E hr hsp => ⟨_, (pss_cons (ps_stop (ps_set (i := 1) sc_House_turns.nd rfl (Or.inl rfl) (pe_lst pa_nil)))
 (pss_cons (ps_stop (ps_lock (ps_for PassesOwn.never rfl (pi_enumV (by rfl) T.n_enumerate (pa_cons (pe_vals (pe_fld (pv 0) rfl)) pa_nil)) (pg_tup rfl (pgs_cons (pg_name (i := 2) sc_House_turns.nd rfl (Or.inl rfl)) (pgs_cons (pg_name (i := 3) sc_House_turns.nd rfl (Or.inl rfl)) pgs_nil)))
  (pss_one (ps_stop (ps_for PassesOwn.never rfl (pi_range2 (by rfl) T.n_range (pa_cons (C8.pe_mt0 (ok_School_load T) hr (by decide) (pv 3)) (pa_cons (C8.pe_mt (ok_House_most T) hr (by decide) (pv 0) (pa_cons (pv 3) pa_nil)) pa_nil))) (pg_name (i := 4) sc_House_turns.nd rfl (Or.inl rfl))
  (pss_one (ps_stop (ps_expr (pe_bm PySem.F.plainAttrs_list PySem.F.slot_list_append PySem.F.type_list_append mt_append (pv 1) (pa_cons (pe_tup (pa_cons (pv 4) (pa_cons (pv 2) (pa_cons (pe_fld (pv 3) rfl) pa_nil)))) pa_nil)))))))))))
 (pss_one (ps_stop (ps_ret (pe_lc (own := [("step", 5)]) (g := gName 5) (tt := tYes) (te := (tDGet (tFld K (tVar 0) "schools") (tOp (rIxT K) (tVar 5) (tC _)))) (by rfl) sc_House_turns.nd (pi_list (pe_callB cr_sorted3 (by rfl) T.n_sorted (by decide +kernel) (pa_cons (pv 1) pa_nil))) (blkOk_by (own := [("step", 5)]) (N := N_House_turns) (sc := C8.fnScope s_House_turns) (by decide +kernel)) (fun _ _ _ _ _ => pg_name (i := 5) sc_House_turns.nd rfl (Or.inl rfl)) (fun _ _ _ _ _ => pts_nil) (fun _ _ _ _ _ => (pe_dget (hu_of hr) (pe_fld (pv 0) rfl) (pe_ix ix_tup (pv 5) pe_int (fun _ _ => rfl)) (fun _ _ => rfl))))))))), ?_⟩)
  obtain ⟨h, a, s, rfl, p, len, cap, nd, bd, q⟩ := hsp
  refine Stop.go ?_
  get_elem_tactic_extensible
  intro L hL
  have s1 := Same.new (o := .lst []) hL
  have l1 : upd H L (.lst []) L = some (.lst []) := upd_same
  generalize upd H L (.lst []) = H1 at s1 l1
  have p1 := p.same s1
  refine Stop.go ?_
  refine ⟨a.sd, _, p1.sd, trivial, fun od => ?_⟩
  have pl := p1.prt.lock (o := .frz od (.dK (schK s a))) p1.sd p1.d2
  have u2 : ∀ b o, H1 b = some o → b ≠ a.sd → upd H1 a.sd (.frz od (.dK (schK s a))) b = some o := fun b o h n => by rw [upd_ne n]; exact h
  have h3 : upd H1 a.sd (.frz od (.dK (schK s a))) a.sd = some (.frz od (.dK (schK s a))) := upd_same
  have l2 : upd H1 a.sd (.frz od (.dK (schK s a))) L = some (.lst []) := keepS l1 p1.sd rfl
  generalize upd H1 a.sd (.frz od (.dK (schK s a))) = H2 at pl h3 l2 u2
  obtain ⟨dh, h1⟩ := pl.hs
  have rd : Rd H2 a.sd (.dK (schK s a)) := .inr ⟨od, h3⟩
  get_elem_tactic_extensible
  intro v hv
  have s3 := Same.new (o := ViewO v a.sd) hv
  have v3 : upd H2 v (ViewO v a.sd) v = some (ViewO v a.sd) := upd_same
  have h3 := s3 _ _ h3
  have l3 := s3 _ _ l2
  have pl := pl.same s3
  generalize upd H2 v (ViewO v a.sd) = H3 at s3 v3 h3 l3 pl
  get_elem_tactic_extensible
  refine for_it walk_V (fun i σ H' => Hold (Ext L H3 H' ∧ (∃ z2 z3 z4 z5, σ = [some (.ref h), some (.ref L), z2, z3, z4, z5]) ∧ ∃ es, H' L = some (.lst es) ∧ TrL H' es (tris s i))) ⟨.refl, ⟨_, _, _, _, rfl⟩, _, l3, .nil⟩ (fun i σ H' _ q => q.h.1 _ _ h3 (ne_of h3 l3 (by intro c; cases c))) (fun i x σ H4 H' hi q y => ?_) (fun σ H' q1 => ?_)
  · obtain ⟨e3, ⟨z2, z3, z4, z5, rfl⟩, es, le, te⟩ := q.h
    obtain ⟨t, x, y, rfl, ht, rfl, hx, hy⟩ := y
    have hx : V.int (i : Nat) = x := Option.some.inj hx
    subst hx
    have hy : Option.map Prod.snd (schK s a)[i]? = some y := hy
    obtain ⟨kv, hkv, rfl⟩ : ∃ kv, (schK s a)[i]? = some kv ∧ kv.2 = y := by
      cases e : (schK s a)[i]? with
      | none => rw [e] at hy; cases hy
      | some kv => rw [e] at hy; exact ⟨kv, rfl, Option.some.inj hy⟩
    obtain ⟨k, y⟩ := kv
    obtain ⟨hi', rfl, rfl⟩ := schK_at hkv
    have nt : t ≠ L := (Same.ne le ht).symm
    have t5 : SqT K (upd H4 t (.tup [.int (i : Nat), .ref (a.sa i)])) t [.int (i : Nat), .ref (a.sa i)] := SqT.of upd_same
    have e5 := e3.trans (Ext.same (Same.new (o := .tup [.int (i : Nat), .ref (a.sa i)]) ht))
    have le := Same.new (o := .tup [.int (i : Nat), .ref (a.sa i)]) ht _ _ le
    have te : TrL (upd H4 t (.tup [.int (i : Nat), .ref (a.sa i)])) es (tris s i) := te.mono fun v t ⟨c, w1, w2⟩ => ⟨c, w1, Same.new ht _ _ w2⟩
    generalize upd H4 t (.tup [.int (i : Nat), .ref (a.sa i)]) = H5 at t5 e5 le te
    obtain ⟨dh, h1⟩ := pl.hs
    have h1 := e5 _ _ h1 (ne_shp h1 l3 rfl)
    obtain ⟨ds, h6⟩ := pl.sc i hi'
    have h6 := e5 _ _ h6 (ne_shp h6 l3 rfl)
    have ru := RlsN.ext pl.ru l3 e5
    have o1 : One K A H5 a.ru "cap" (s.rules.cap : Nat) := ru.one .cap rfl
    obtain ⟨dr, tr, h7⟩ := o1.rcd
    have hmin : (if ((s.rules.cap : Nat) : Int) < ((schoolAt s i).wanted : Nat) then ((s.rules.cap : Nat) : Int) else ((schoolAt s i).wanted : Nat)) = ((mostOf s i : Nat) : Int) := by
      unfold mostOf
      split <;> omega
    have hload : (((schoolAt s i).has_ : Nat) : Int) + (Vbdbam.offersTo s i : Nat) = ((Vbdbam.load s i : Nat) : Int) := rfl
    have b1 : mostOf s i ≤ 1000 := Nat.le_trans (Nat.min_le_left _ _) (bd i hi').1
    have b2 := (bd i hi').2
    get_elem_tactic_extensible
    refine Stop.go ?_
    get_elem_tactic_extensible
    rw [hmin, hload]
    refine ⟨⟨by omega, by omega, by omega, by omega⟩, ?_⟩
    refine for_it (walk_range (n := (((mostOf s i : Nat) : Int) - ((Vbdbam.load s i : Nat) : Int)).toNat)) (fun j σ H' => Hold (Ext L H5 H' ∧ (∃ z4 z5, σ = [some (.ref h), some (.ref L), some (.int (i : Nat)), some (.ref (a.sa i)), z4, z5]) ∧ ∃ es, H' L = some (.lst es) ∧ TrL H' es (tris s i ++ (triOf s i).take j))) ⟨.refl, ⟨_, _, rfl⟩, _, le, by rw [List.take_zero, List.append_nil]; exact te⟩ (fun _ _ _ _ _ => trivial) (fun j x σ H6 H' hj q y => ?_) (fun σ H' q1 => ?_)
    · obtain ⟨rfl, rfl⟩ := y
      obtain ⟨e6, ⟨z4, z5, rfl⟩, es6, le6, te6⟩ := q.h
      have h6 := e6 _ _ h6 (ne_shp h6 le rfl)
      have hj : j < mostOf s i - Vbdbam.load s i := by omega
      have len6 : es6.length < sizeLine := by
        refine lt_line ?_
        have h1 := tris_len cap i
        rw [te6.length, List.length_append, List.length_take]
        omega
      refine Stop.go ?_
      get_elem_tactic_extensible
      intro t ht
      have nt : t ≠ L := (Same.ne le6 ht).symm
      have e7 := e6.trans (Ext.same (Same.new (o := .tup [.int ((Vbdbam.load s i : Nat) + (j : Nat)), .int (i : Nat), .int (idAt s i : Nat)]) ht))
      have le7 := Same.new (o := .tup [.int ((Vbdbam.load s i : Nat) + (j : Nat)), .int (i : Nat), .int (idAt s i : Nat)]) ht _ _ le6
      have t7 : upd H' t (.tup [.int ((Vbdbam.load s i : Nat) + (j : Nat)), .int (i : Nat), .int (idAt s i : Nat)]) t = some (.tup [.int ((Vbdbam.load s i : Nat) + (j : Nat)), .int (i : Nat), .int (idAt s i : Nat)]) := upd_same
      have te7 : TrL (upd H' t (.tup [.int ((Vbdbam.load s i : Nat) + (j : Nat)), .int (i : Nat), .int (idAt s i : Nat)])) es6 (tris s i ++ (triOf s i).take j) := te6.mono fun v t ⟨c, w1, w2⟩ => ⟨c, w1, Same.new ht _ _ w2⟩
      generalize upd H' t (.tup [.int ((Vbdbam.load s i : Nat) + (j : Nat)), .int (i : Nat), .int (idAt s i : Nat)]) = H7 at e7 le7 t7 te7
      get_elem_tactic_extensible
      refine ⟨e7.trans .upd, ⟨_, _, rfl⟩, _, upd_same, ?_⟩
      rw [take_one (triOf_at hj), ← List.append_assoc]
      exact (te7.mono fun v t ⟨c, w1, w2⟩ => ⟨c, w1, keepS w2 le7 rfl⟩).snoc ⟨t, rfl, keepS t7 le7 rfl⟩
    · obtain ⟨e6, ⟨z4, z5, rfl⟩, es6, le6, te6⟩ := q1.h
      refine ⟨e5.trans e6, ⟨_, _, _, _, rfl⟩, es6, le6, ?_⟩
      rw [tris_succ]
      rw [List.take_of_length_le (by rw [triOf_len]; omega)] at te6
      exact te6
  · obtain ⟨e3, ⟨z2, z3, z4, z5, rfl⟩, es, le, te⟩ := q1.h
    rw [schK_len] at te
    have hz := e3 _ _ h3 (ne_of h3 l3 (by intro c; cases c))
    refine ⟨hz, ?_⟩
    have sF : Same H (upd H' a.sd (.dK (schK s a))) := fun b o hb => by
      have nb : b ≠ L := Same.ne hb hL
      by_cases c : b = a.sd
      · subst c
        rw [upd_same, ← hb, p.sd]
      · rw [upd_ne c]
        exact e3 _ _ (s3 _ _ (u2 _ _ (s1 _ _ hb) c)) nb
    have nL : L ≠ a.sd := Same.ne p.sd hL |>.symm
    have le : upd H' a.sd (.dK (schK s a)) L = some (.lst es) := by rw [upd_ne nL]; exact le
    have te : TrL (upd H' a.sd (.dK (schK s a))) es (tris s s.schools.length) := te.mono fun v t ⟨c, w1, w2⟩ => ⟨c, w1, by rw [upd_ne (ne_of w2 hz (by intro c; cases c))]; exact w2⟩
    generalize upd H' a.sd (.dK (schK s a)) = HF at sF le te
    have tm : ∀ x, x ∈ es → ∃ c, x = V.ref c ∧ HF c = some (.tup [.int (keyOf HF x).1, .int (keyOf HF x).2.1, .int (keyOf HF x).2.2]) := fun x hx => by
      obtain ⟨t, _, w⟩ := TrL.mem te hx
      have k := w.key
      obtain ⟨c, w1, w2⟩ := w
      exact ⟨c, w1, by rw [k]; exact w2⟩
    (refine Stop.go ?_; get_elem_tactic_extensible)
    refine ⟨keyOf HF, rfl, SqL.of le, tm, fun ys p0 hs hp hp0 => ?_⟩
    have sG := sF.trans (Same.new (o := .lst ys) hp0)
    have g1 : upd HF p0 (.lst ys) p0 = some (.lst ys) := upd_same
    have tm : ∀ x, x ∈ ys → ∃ c i, x = V.ref c ∧ i < s.schools.length ∧ (keyOf HF x).2.1 = (i : Int) ∧ (keyOf HF x).2.2 = (idAt s i : Int) ∧ upd HF p0 (.lst ys) c = some (.tup [.int (keyOf HF x).1, .int (keyOf HF x).2.1, .int (keyOf HF x).2.2]) := fun x hx => by
      have hx := hp.mem_iff.mp hx
      obtain ⟨t, ht, w⟩ := TrL.mem te hx
      obtain ⟨i, j, hi, hj, rfl⟩ := tris_mem ht
      obtain ⟨c, w1, w2⟩ := tm x hx
      rw [w.key] at w2 ⊢
      exact ⟨c, i, w1, hi, rfl, rfl, Same.new hp0 _ _ w2⟩
    have kT : (ys.map (keyOf HF)).Perm (tris s s.schools.length) := by
      rw [← TrL.keys te]
      exact hp.map _
    have ks : SrtO.Srtd lt3 (ys.map (keyOf HF)) := SrtO.srtd_map hs
    generalize upd HF p0 (.lst ys) = HG at sG g1 tm
    have g2 : SqL K HG p0 ys := SqL.of g1
    have lys : ys.length ≤ 10000 := by
      have h1 := tris_len cap s.schools.length
      have h2 := kT.length_eq
      rw [List.length_map] at h2
      omega
    refine ⟨p0, rfl, ⟨_, g2⟩, fun D hD => ?_⟩
    refine lc_it (walk_list (xs := ys)) (LcI HG D fun i => (ys.take i).map fun y => V.ref (a.sa (keyOf HF y).2.1.toNat)) (LcI.zero hD rfl) (fun i H' _ p => p.s.seq g2) (fun i x H8 H9 hi q y => ?_) (fun H9 q1 => ?_)
    · obtain ⟨rfl, hx⟩ := y
      obtain ⟨c, k, rfl, hk, k1, k2, hc⟩ := tm x (List.mem_of_getElem? hx)
      have hc := q.s _ _ hc
      rw [k1, k2] at hc
      have pd := q.d
      have pp := p.same (sG.trans q.s)
      obtain ⟨dh, h1⟩ := pp.hs
      have dg := DGet.k (k := .inl (idAt s k : Int)) pp.sd
      rw [schK_val nd hk] at dg
      have lf : ((ys.take i).map fun y => V.ref (a.sa (keyOf HF y).2.1.toNat)).length < sizeLine := lt_line (by simp; omega)
      get_elem_tactic_extensible
      exact q.put (Same.refl _) hD (by rw [take_one hx, List.map_append, List.map_cons, List.map_nil, k1]; rfl)
    · refine q D H9 (ys.map (keyOf HF)) kT ks (sG.free hD) (sG.trans q1.s) ?_
      rw [q1.d, List.take_length, List.map_map]
      rfl
end EH

/-! ## EHM -/
namespace EH
open EHR
open Vbdbam (State setSchool schoolAt idAt load waits nextSchool offerTo queueFrom)
/-! ### the turns: the specification's and the sorted steps -/
theorem waits_iff {s : State} {i : Nat} : waits s i = true ↔ load s i < mostOf s i := by
  unfold waits mostOf
  rw [Bool.and_eq_true, decide_eq_true_eq, decide_eq_true_eq]
  omega
theorem tris_has {s : State} {n i j : Nat} (hi : i < n) (hj : j < mostOf s i - load s i) : triAt s i j ∈ tris s n :=
  List.mem_flatMap.mpr ⟨i, List.mem_range.mpr hi, List.mem_map.mpr ⟨j, List.mem_range.mpr hj, rfl⟩⟩
theorem range_split {n i : Nat} (h : i < n) : ∃ r, List.range n = List.range i ++ i :: r := by
  obtain ⟨k, rfl⟩ : ∃ k, n = i + (k + 1) := ⟨n - i - 1, by omega⟩
  refine ⟨((List.range k).map Nat.succ).map (i + ·), ?_⟩
  rw [List.range_add, List.range_succ_eq_map]
  rfl
theorem next_none {s : State} (h : tris s s.schools.length = []) : nextSchool s = none := by
  have e : (List.range s.schools.length).filter (waits s) = [] := by
    refine List.filter_eq_nil_iff.mpr fun i hi w => ?_
    have m := tris_has (s := s) (j := 0) (List.mem_range.mp hi) (by have := waits_iff.mp w; omega)
    rw [h] at m
    cases m
  unfold nextSchool
  simp only [e]
  rfl
theorem lt3_eq {p q : Tri} : lt3 p q = false ↔ ¬ (p.1 < q.1 ∨ (p.1 = q.1 ∧ (p.2.1 < q.2.1 ∨ (p.2.1 = q.2.1 ∧ p.2.2 < q.2.2)))) := by
  unfold lt3
  exact decide_eq_false_iff_not
/-- the least get_elem_tactic_extensible is the next turn -/
theorem next_some {s : State} {t : Tri} (ht : t ∈ tris s s.schools.length) (hm : ∀ x, x ∈ tris s s.schools.length → lt3 x t = false) : ∃ i, i < s.schools.length ∧ t = triAt s i 0 ∧ load s i < mostOf s i ∧ nextSchool s = some i := by
  obtain ⟨i, j, hi, hj, rfl⟩ := tris_mem ht
  have j0 : j = 0 := by
    have := lt3_eq.mp (hm _ (tris_has (j := 0) hi (by omega)))
    simp only [triAt] at this
    omega
  subst j0
  refine ⟨i, hi, rfl, by omega, ?_⟩
  have low : ∀ k, k < s.schools.length → waits s k = true → load s i ≤ load s k ∧ (load s k = load s i → i ≤ k) := fun k hk w => by
    have := lt3_eq.mp (hm _ (tris_has (j := 0) hk (by have := waits_iff.mp w; omega)))
    simp only [triAt] at this
    omega
  have wi : waits s i = true := waits_iff.mpr (by omega)
  obtain ⟨r, hr⟩ := range_split hi
  unfold nextSchool
  simp only
  refine List.find?_eq_some_iff_append.mpr ⟨?_, (List.range i).filter (waits s), r.filter (waits s), ?_, fun k hk => ?_⟩
  · refine List.all_eq_true.mpr fun k hk => ?_
    obtain ⟨h1, h2⟩ := List.mem_filter.mp hk
    exact decide_eq_true (low k (List.mem_range.mp h1) h2).1
  · rw [hr, List.filter_append, List.filter_cons, if_pos wi]
  · obtain ⟨h1, h2⟩ := List.mem_filter.mp hk
    have h1 := List.mem_range.mp h1
    have q := low k (by omega) h2
    rw [Bool.not_eq_true', Bool.eq_false_iff]
    intro c
    have c := List.all_eq_true.mp c i (List.mem_filter.mpr ⟨List.mem_range.mpr hi, wi⟩)
    have c := of_decide_eq_true c
    have := q.2 (by omega)
    omega
theorem load_offer {s : State} {i j : Nat} : load (offerTo s i) j = if j = i then load s j + 1 else load s j := by
  have e : Vbdbam.offersTo (offerTo s i) j = if j = i then Vbdbam.offersTo s j + 1 else Vbdbam.offersTo s j := offersTo_new
  have e2 : schoolAt (offerTo s i) j = schoolAt s j := rfl
  unfold load
  rw [e, e2]
  by_cases c : j = i
  · rw [if_pos c, if_pos c]; omega
  · rw [if_neg c, if_neg c]
theorem triOf_other {s : State} {i j : Nat} (h : j ≠ i) : triOf (offerTo s i) j = triOf s j := by
  have e : load (offerTo s i) j = load s j := by rw [load_offer, if_neg h]
  have e2 : mostOf (offerTo s i) j = mostOf s j := rfl
  unfold triOf
  rw [e, e2]
  refine List.map_congr_left fun k _ => ?_
  unfold triAt
  rw [e]
  rfl
theorem triOf_this {s : State} {i : Nat} (h : load s i < mostOf s i) : triOf s i = triAt s i 0 :: triOf (offerTo s i) i := by
  have e : load (offerTo s i) i = load s i + 1 := by rw [load_offer, if_pos rfl]
  have e2 : mostOf (offerTo s i) i = mostOf s i := rfl
  unfold triOf
  rw [e, e2]
  obtain ⟨k, hk⟩ : ∃ k, mostOf s i - load s i = k + 1 := ⟨mostOf s i - load s i - 1, by omega⟩
  rw [hk, show mostOf s i - (load s i + 1) = k by omega, List.range_succ_eq_map, List.map_cons, List.map_map]
  congr 1
  refine List.map_congr_left fun j _ => ?_
  show triAt s i (j + 1) = triAt (offerTo s i) i j
  unfold triAt
  rw [e]
  have : load s i + (j + 1) = load s i + 1 + j := by omega
  rw [this]
  rfl
theorem tris_offer {s : State} {i : Nat} (h : load s i < mostOf s i) : ∀ m, (m ≤ i → tris s m = tris (offerTo s i) m) ∧ (i < m → (tris s m).Perm (triAt s i 0 :: tris (offerTo s i) m))
  | 0 => ⟨fun _ => rfl, fun c => by omega⟩
  | m + 1 => by
    obtain ⟨h1, h2⟩ := tris_offer h m
    constructor
    · intro c
      rw [tris_succ, tris_succ, h1 (by omega), triOf_other (by omega)]
    · intro c
      rw [tris_succ, tris_succ]
      by_cases d : m = i
      · subst d
        rw [h1 (Nat.le_refl _), triOf_this h]
        exact List.perm_middle
      · rw [triOf_other d]
        exact (h2 (by omega)).append_right _
theorem queue_eq : ∀ (k : Nat) (T : List Tri) (s : State), T.length ≤ k → T.Perm (tris s s.schools.length) → SrtO.Srtd lt3 T → queueFrom k s = T.map fun t => t.2.1.toNat
  | k, [], s, _, hp, _ => by
    have e := next_none hp.nil_eq.symm
    cases k with
    | zero => rfl
    | succ k => simp [queueFrom, e]
  | 0, t :: T, s, hk, _, _ => by simp at hk
  | k + 1, t :: T, s, hk, hp, hs => by
    obtain ⟨h1, h2⟩ := List.pairwise_cons.mp hs
    obtain ⟨i, hi, rfl, hl, hn⟩ := next_some (s := s) (t := t) (hp.mem_iff.mp (List.mem_cons.mpr (.inl rfl))) fun x hx => by
      rcases List.mem_cons.mp (hp.mem_iff.mpr hx) with c | c
      · subst c
        refine lt3_eq.mpr ?_
        omega
      · exact h1 x c
    have hp2 : T.Perm (tris (offerTo s i) s.schools.length) := (hp.trans ((tris_offer hl _).2 hi)).cons_inv
    have ih := queue_eq k T (offerTo s i) (by simpa using hk) hp2 h2
    simp only [queueFrom, hn, ih, List.map_cons]
    rfl
/-- the turns in the order of the queue -/
theorem turns_map {α : Type} {T : List Tri} {s : State} (f : Nat → α) (hp : T.Perm (tris s s.schools.length)) (hs : SrtO.Srtd lt3 T) {k : Nat} (hk : T.length ≤ k) : (T.map fun t => f t.2.1.toNat) = (queueFrom k s).map f := by
  rw [queue_eq k T s hk hp hs, List.map_map]
  rfl
end EH

/-! ## EHN -/
namespace EH
open PySem PySem.Spec PyProof.Rows L2 EHR
local macro_rules | `(tactic| decreasing_trivial_pre_omega) => `(tactic| first
  | assumption
  | rfl
  | exact lk_here
  | exact Txt.cl_Ledger (by assumption) | exact Txt.cl_Rules (by assumption) | exact Txt.cl_School (by assumption) | exact Txt.cl_Offer (by assumption) | exact Txt.cl_House (by assumption)
  | exact Txt.na_Ledger (by assumption) _ (by decide +kernel) | exact Txt.na_Rules (by assumption) _ (by decide +kernel) | exact Txt.na_School (by assumption) _ (by decide +kernel) | exact Txt.na_Offer (by assumption) _ (by decide +kernel) | exact Txt.na_House (by assumption) _ (by decide +kernel)
  | exact (lk_past (by decide +kernel)).trans lk_here
  | exact (lk_past (by decide +kernel)).trans ((lk_past (by decide +kernel)).trans lk_here)
  | exact (lk_past (by decide +kernel)).trans ((lk_past (by decide +kernel)).trans ((lk_past (by decide +kernel)).trans lk_here))
  | exact (lk_past (by decide +kernel)).trans ((lk_past (by decide +kernel)).trans ((lk_past (by decide +kernel)).trans ((lk_past (by decide +kernel)).trans lk_here)))
  | exact (lk_past (by decide +kernel)).trans ((lk_past (by decide +kernel)).trans ((lk_past (by decide +kernel)).trans ((lk_past (by decide +kernel)).trans ((lk_past (by decide +kernel)).trans lk_here))))
  | exact (lk_past (by decide +kernel)).trans ((lk_past (by decide +kernel)).trans ((lk_past (by decide +kernel)).trans ((lk_past (by decide +kernel)).trans ((lk_past (by decide +kernel)).trans ((lk_past (by decide +kernel)).trans lk_here)))))
  | exact SqL.of (by assumption) | exact SqT.of (by assumption)
  | exact Or.inl (SqL.of (by assumption)) | exact Or.inr (SqT.of (by assumption)) | exact Or.inl (by assumption) | exact Or.inr (by assumption)
  | exact atI0 rfl | exact atI_nat (j := 1) rfl | exact atI_nat (j := 2) rfl
  | exact Or.inl ⟨rfl, _, SqL.of (by assumption)⟩
  | exact Nat.le_of_ble_eq_true rfl
  | exact Same.at1 (by assumption) (by assumption)
  | exact SqL.of (Same.at1 (by assumption) (by assumption)) | exact SqT.of (Same.at1 (by assumption) (by assumption)) | exact Or.inl (SqL.of (Same.at1 (by assumption) (by assumption))) | exact Or.inr (SqT.of (Same.at1 (by assumption) (by assumption)))
  | exact ⟨_, by assumption⟩
  | exact dput_i (by assumption) (by assumption) | exact kV_i | exact kV_s | exact isD_k (by assumption)
  | exact upd_same)
local macro_rules | `(tactic| get_elem_tactic_extensible) => `(tactic| repeat (first
  | refine And.intro (by decreasing_trivial_pre_omega) ?_
  | apply Exists.intro (α := V) | apply Exists.intro (α := Addr) | apply Exists.intro (α := List V) | apply Exists.intro (α := Int) | apply Exists.intro (α := Bool)
  | apply Exists.intro (α := List (Str × V)) | apply Exists.intro (α := Str) | apply Exists.intro (α := List (Key × V)) | apply Exists.intro (α := Option V)
  | apply Exists.intro (α := List Int) | apply Exists.intro (α := List Bool) | apply Exists.intro (α := List Str) | apply Exists.intro (α := Obj) | apply Exists.intro (α := List En) | apply Exists.intro (α := HAd) | apply Exists.intro (α := Vbdbam.State) | apply Exists.intro (α := Vbdbam.Rules) | apply Exists.intro (α := Hp) | apply Exists.intro (α := Key) | apply Exists.intro (α := Nat) | apply Exists.intro (α := Wd) | apply Exists.intro (α := Wd → List Int) | apply Exists.intro (α := Nat → Int)))
local macro_rules | `(tactic| decreasing_trivial) => `(tactic| (intro vs H Q E h; repeat (first | (obtain ⟨e, _⟩ := h; subst e; rfl) | (obtain ⟨_, h⟩ := h))))

open Vbdbam (State setSchool schoolAt idAt used nextSchool offerTo queueFrom offersMade)
theorem used_offer {s : State} {i : Nat} : used (offerTo s i) = used s + 1 := by
  unfold used offerTo
  simp only [List.length_append, List.length_cons, List.length_nil]
  omega
theorem made_eq : ∀ (k n : Nat) (s : State), s.rules.places - used s ≤ n → s.rules.places - used s ≤ k → offersMade n s = ((queueFrom k s).take (s.rules.places - used s)).foldl offerTo s
  | k, 0, s, h, _ => by
    rw [show s.rules.places - used s = 0 by omega, List.take_zero]
    rfl
  | 0, n + 1, s, _, h => by
    have : s.rules.places ≤ used s := by omega
    simp [offersMade, this, queueFrom]
  | k + 1, n + 1, s, h1, h2 => by
    by_cases c : s.rules.places ≤ used s
    · rw [show s.rules.places - used s = 0 by omega, List.take_zero]
      simp [offersMade, c]
    · obtain ⟨d, hd⟩ : ∃ d, s.rules.places - used s = d + 1 := ⟨s.rules.places - used s - 1, by omega⟩
      cases e : nextSchool s with
      | none => simp [offersMade, c, queueFrom, e]
      | some i =>
        have hr : (offerTo s i).rules.places = s.rules.places := rfl
        have hu := used_offer (s := s) (i := i)
        have ih := made_eq k n (offerTo s i) (by omega) (by omega)
        have hd2 : (offerTo s i).rules.places - used (offerTo s i) = d := by omega
        rw [hd2] at ih
        rw [hd]
        simp only [offersMade, c, if_false, queueFrom, e, List.take_succ_cons, List.foldl_cons]
        exact ih
theorem queue_lt : ∀ (k : Nat) (s : State) (i : Nat), i ∈ queueFrom k s → i < s.schools.length
  | 0, _, _, h => by cases h
  | k + 1, s, i, h => by
    cases e : nextSchool s with
    | none => simp [queueFrom, e] at h
    | some j =>
      simp only [queueFrom, e] at h
      rcases List.mem_cons.mp h with c | c
      · subst c
        have := List.mem_of_find?_eq_some e
        exact List.mem_range.mp (List.mem_filter.mp this).1
      · exact queue_lt k (offerTo s j) i c
theorem offers_keep {s : State} : ∀ (l : List Nat), (l.foldl offerTo s).schools = s.schools ∧ (l.foldl offerTo s).money = s.money ∧ (l.foldl offerTo s).offers.length = s.offers.length + l.length ∧ ((∀ x, x ∈ s.offers → x.number < s.next) → ∀ x, x ∈ (l.foldl offerTo s).offers → x.number < (l.foldl offerTo s).next) := fun l => by
  induction l generalizing s with
  | nil => exact ⟨rfl, rfl, rfl, fun h => h⟩
  | cons i l ih =>
    obtain ⟨h1, h2, h3, h4⟩ := ih (s := offerTo s i)
    refine ⟨h1, h2, by rw [List.foldl_cons, h3]; simp [offerTo]; omega, fun h => h4 fun x hx => ?_⟩
    rcases List.mem_append.mp hx with c | c
    · exact Nat.lt_succ_of_lt (h x c)
    · rw [List.mem_singleton.mp c]
      exact Nat.lt_succ_self _
/-- what turns and make_offers ask of the state -/
structure Fit (s : State) : Prop where
  n : s.schools.length ≤ 30
  cap : s.rules.cap ≤ 9
  pl : s.rules.places ≤ 60
  nd : (s.schools.map fun x => x.id).Nodup
  bd : ∀ i, i < s.schools.length → (schoolAt s i).wanted ≤ 1000 ∧ Vbdbam.load s i ≤ 1000
  us : used s ≤ s.rules.places
  on : ∀ x, x ∈ s.offers → x.number < s.next
  ms : ∀ e, e ∈ s.money → e.school < s.schools.length
theorem tris_len9 {s : State} (cap : s.rules.cap ≤ 9) : ∀ i, (tris s i).length ≤ i * 9
  | 0 => Nat.zero_le _
  | i + 1 => by
    have h1 := tris_len9 cap i
    have h2 : mostOf s i ≤ 9 := Nat.le_trans (Nat.min_le_right _ _) cap
    rw [tris_succ, List.length_append, triOf_len]
    omega
def sp_House_make_offers (K : PySem.W.Frag) (A : Ad) : Sp := fun vs H Q _ => ∃ (h : Addr) (a : HAd) (s : State), vs = [.ref h] ∧ At K A H h a s ∧ Fit s ∧ ∀ H' a', Next K A H h a (offersMade s.rules.places s) H' a' → Q .non H'
theorem ok_House_make_offers {P : Program} {w : World} {K : PySem.W.Frag} {mg : Str → Option Value} {base : Heap} {A : Ad} (T : Txt w K mg A) : C8.Met P w K mg base 4 A.cHouse "make_offers" (sp_House_make_offers K A) [] := by
  refine metOf T.cl_House T.d_House_make_offers sc_House_make_offers (by decreasing_trivial) (fun cdv Ar outer s0 H vs Q E hr hsp => ⟨_, (pss_one (ps_stop (ps_for PassesOwn.never rfl (pi_list (pe_slice sl_list (C8.pe_mt0 (ok_House_turns T) hr (by decide) (pv 0)) po_none (po_some (C8.pe_mt0 (ok_House_free T) hr (by decide) (pv 0))))) (pg_name (i := 1) sc_House_make_offers.nd rfl (Or.inl rfl))
  (pss_one (ps_stop (ps_expr (C8.pe_mt (ok_House_make_offer T) hr (by decide) (pv 0) (pa_cons (pv 1) pa_nil)))))))), ?_⟩)
  obtain ⟨h, a, s, rfl, p, ft, q⟩ := hsp
  obtain ⟨dh, h1⟩ := p.hs
  have l1 : s.schools.length ≤ 100 := Nat.le_trans ft.n (by decide)
  have l2 : s.rules.cap ≤ 100 := Nat.le_trans ft.cap (by decide)
  have l3 : s.schools.length ≤ 1000 := Nat.le_trans ft.n (by decide)
  have nd := ft.nd
  have bd := ft.bd
  refine Stop.go ?_
  get_elem_tactic_extensible
  intro p0 H1 T hp hs hp0 s1 g1
  have lT : T.length ≤ 300 := by
    have := tris_len9 ft.cap s.schools.length
    have := ft.n
    rw [hp.length_eq]
    omega
  rw [turns_map (fun i => V.ref (a.sa i)) hp hs lT] at g1
  have p1 := p.same s1
  obtain ⟨dh, h1⟩ := p1.hs
  have g2 : SqL K H1 p0 ((queueFrom 300 s).map fun i => V.ref (a.sa i)) := SqL.of g1
  get_elem_tactic_extensible
  intro H2 s2
  have g2 := s2.seq g2
  have p2 := p1.same s2
  have hcut : cutV ((queueFrom 300 s).map fun i => V.ref (a.sa i)) none (some (((s.rules.places : Nat) : Int) - (Vbdbam.total (s.schools.map fun x => x.has_) : Nat) - (s.offers.length : Nat))) = ((queueFrom 300 s).take (s.rules.places - used s)).map fun i => V.ref (a.sa i) := by
    have us := ft.us
    have e : (((s.rules.places : Nat) : Int) - (Vbdbam.total (s.schools.map fun x => x.has_) : Nat) - (s.offers.length : Nat)) = ((s.rules.places - used s : Nat) : Int) := by
      unfold used at *
      omega
    unfold cutV
    rw [e, HT.sIx_nat, HT.sIx_none, List.drop_zero, Nat.sub_zero, List.map_take]
    rw [List.take_eq_take_iff]
    omega
  have hmade : offersMade s.rules.places s = ((queueFrom 300 s).take (s.rules.places - used s)).foldl offerTo s := made_eq 300 s.rules.places s (by omega) (by have := ft.pl; omega)
  rw [hmade] at q
  have hq : ∀ i, i ∈ (queueFrom 300 s).take (s.rules.places - used s) → i < s.schools.length := fun i hi => queue_lt 300 s i (List.mem_of_mem_take hi)
  have hql : ((queueFrom 300 s).take (s.rules.places - used s)).length ≤ 60 := by
    have := ft.pl
    rw [List.length_take]
    omega
  get_elem_tactic_extensible
  rw [hcut]
  generalize (queueFrom 300 s).take (s.rules.places - used s) = qs at hq q hql
  intro p3 hp3
  have s3 := Same.new (o := .lst (qs.map fun i => V.ref (a.sa i))) hp3
  have g3 : upd H2 p3 (.lst (qs.map fun i => V.ref (a.sa i))) p3 = some (.lst (qs.map fun i => V.ref (a.sa i))) := upd_same
  have p3' := p2.same s3
  generalize upd H2 p3 (.lst (qs.map fun i => V.ref (a.sa i))) = H3 at s3 g3 p3'
  have g4 : SqL K H3 p3 (qs.map fun i => V.ref (a.sa i)) := SqL.of g3
  obtain ⟨es, hle, _⟩ := p2.le
  have nle : p3 ≠ a.le := (Same.ne hle hp3).symm
  get_elem_tactic_extensible
  refine for_it (walk_list (xs := qs.map fun i => V.ref (a.sa i))) (fun i σ H' => Hold (∃ a', Next K A H h a ((qs.take i).foldl offerTo s) H' a' ∧ (∃ z, σ = [some (.ref h), z]) ∧ H' p3 = some (.lst (qs.map fun i => V.ref (a.sa i))))) ⟨a, ⟨p3', rfl, rfl, .of_same (s1.trans (s2.trans s3))⟩, ⟨_, rfl⟩, g3⟩ (fun i σ H' _ q => by obtain ⟨_, _, _, g⟩ := q.h; exact SqL.of g) (fun i x σ H4 H' hi y0 y => ?_) (fun σ H' q1 => ?_)
  · obtain ⟨rfl, hx⟩ := y
    obtain ⟨a4, n4, ⟨z, rfl⟩, g5⟩ := y0.h
    rw [List.getElem?_map] at hx
    cases e : qs[i]? with
    | none => rw [e] at hx; cases hx
    | some j =>
      rw [e] at hx
      have hx : V.ref (a.sa j) = x := Option.some.inj hx
      subst hx
      obtain ⟨k1, k2, k3, k4⟩ := offers_keep (s := s) (qs.take i)
      have p4 := n4.at'
      obtain ⟨dh, h1⟩ := p4.hs
      have ej : a.sa j = a4.sa j := by rw [n4.sa]
      have hj : j < ((qs.take i).foldl offerTo s).schools.length := by rw [k1]; exact hq j (List.mem_of_getElem? e)
      have on := k4 ft.on
      have ms : ∀ e, e ∈ ((qs.take i).foldl offerTo s).money → e.school < ((qs.take i).foldl offerTo s).schools.length := by rw [k1, k2]; exact ft.ms
      have ol : ((qs.take i).foldl offerTo s).offers.length < 1000000 := by
        have us := ft.us
        have := ft.pl
        rw [k3, List.length_take]
        unfold used at us
        omega
      refine Stop.go ?_
      get_elem_tactic_extensible
      refine fun H5 a5 n5 => ⟨a5, ?_, ⟨_, rfl⟩, ?_⟩
      · rw [take_one e, List.foldl_append]
        exact n4.trans n5
      · exact n5.frm _ _ g5 rfl (by rw [n4.le]; exact nle)
  · obtain ⟨a4, n4, ⟨z, rfl⟩, g5⟩ := q1.h
    rw [List.length_map, List.take_length] at n4
    exact q H' a4 n4
end EH

/-! ## EHO -/
namespace EH
open PySem PySem.Spec PyProof.Rows L2 EHR
local macro_rules | `(tactic| decreasing_trivial_pre_omega) => `(tactic| first
  | assumption
  | rfl
  | exact lk_here
  | exact Txt.cl_Ledger (by assumption) | exact Txt.cl_Rules (by assumption) | exact Txt.cl_School (by assumption) | exact Txt.cl_Offer (by assumption) | exact Txt.cl_House (by assumption)
  | exact Txt.na_Ledger (by assumption) _ (by decide +kernel) | exact Txt.na_Rules (by assumption) _ (by decide +kernel) | exact Txt.na_School (by assumption) _ (by decide +kernel) | exact Txt.na_Offer (by assumption) _ (by decide +kernel) | exact Txt.na_House (by assumption) _ (by decide +kernel)
  | exact (lk_past (by decide +kernel)).trans lk_here
  | exact (lk_past (by decide +kernel)).trans ((lk_past (by decide +kernel)).trans lk_here)
  | exact (lk_past (by decide +kernel)).trans ((lk_past (by decide +kernel)).trans ((lk_past (by decide +kernel)).trans lk_here))
  | exact (lk_past (by decide +kernel)).trans ((lk_past (by decide +kernel)).trans ((lk_past (by decide +kernel)).trans ((lk_past (by decide +kernel)).trans lk_here)))
  | exact (lk_past (by decide +kernel)).trans ((lk_past (by decide +kernel)).trans ((lk_past (by decide +kernel)).trans ((lk_past (by decide +kernel)).trans ((lk_past (by decide +kernel)).trans lk_here))))
  | exact (lk_past (by decide +kernel)).trans ((lk_past (by decide +kernel)).trans ((lk_past (by decide +kernel)).trans ((lk_past (by decide +kernel)).trans ((lk_past (by decide +kernel)).trans ((lk_past (by decide +kernel)).trans lk_here)))))
  | exact SqL.of (by assumption) | exact SqT.of (by assumption)
  | exact Or.inl (SqL.of (by assumption)) | exact Or.inr (SqT.of (by assumption)) | exact Or.inl (by assumption) | exact Or.inr (by assumption)
  | exact atI0 rfl | exact atI_nat (j := 1) rfl | exact atI_nat (j := 2) rfl
  | exact Or.inl ⟨rfl, _, SqL.of (by assumption)⟩
  | exact Nat.le_of_ble_eq_true rfl
  | exact Same.at1 (by assumption) (by assumption)
  | exact SqL.of (Same.at1 (by assumption) (by assumption)) | exact SqT.of (Same.at1 (by assumption) (by assumption)) | exact Or.inl (SqL.of (Same.at1 (by assumption) (by assumption))) | exact Or.inr (SqT.of (Same.at1 (by assumption) (by assumption)))
  | exact ⟨_, by assumption⟩
  | exact dput_i (by assumption) (by assumption) | exact kV_i | exact kV_s | exact isD_k (by assumption)
  | exact upd_same)
local macro_rules | `(tactic| get_elem_tactic_extensible) => `(tactic| repeat (first
  | refine And.intro (by decreasing_trivial_pre_omega) ?_
  | apply Exists.intro (α := V) | apply Exists.intro (α := Addr) | apply Exists.intro (α := List V) | apply Exists.intro (α := Int) | apply Exists.intro (α := Bool)
  | apply Exists.intro (α := List (Str × V)) | apply Exists.intro (α := Str) | apply Exists.intro (α := List (Key × V)) | apply Exists.intro (α := Option V)
  | apply Exists.intro (α := List Int) | apply Exists.intro (α := List Bool) | apply Exists.intro (α := List Str) | apply Exists.intro (α := Obj) | apply Exists.intro (α := List En) | apply Exists.intro (α := HAd) | apply Exists.intro (α := Vbdbam.State) | apply Exists.intro (α := Vbdbam.Rules) | apply Exists.intro (α := Hp) | apply Exists.intro (α := Key) | apply Exists.intro (α := Nat) | apply Exists.intro (α := Wd) | apply Exists.intro (α := Wd → List Int) | apply Exists.intro (α := Nat → Int)))
local macro_rules | `(tactic| decreasing_trivial) => `(tactic| (intro vs H Q E h; repeat (first | (obtain ⟨e, _⟩ := h; subst e; rfl) | (obtain ⟨_, h⟩ := h))))

open Vbdbam (State setSchool schoolAt idAt used nextSchool offerTo queueFrom offersMade gone lapsed)
theorem end_drop {l : List Vbdbam.Offer} {i : Nat} {o : Vbdbam.Offer} (nd : (l.map fun x => x.number).Nodup) (h : l[i]? = some o) : (l.drop i).filter (fun x => x.number != o.number) = l.drop (i + 1) := by
  have hi : i < l.length := (List.getElem?_eq_some_iff.mp h).1
  have e : l.drop i = o :: l.drop (i + 1) := by
    rw [List.drop_eq_getElem_cons hi]
    congr 1
    rw [List.getElem?_eq_getElem hi] at h
    exact Option.some.inj h
  have nd2 : ((o :: l.drop (i + 1)).map fun x => x.number).Nodup := by
    rw [← e, List.map_drop]
    exact nd.sublist (List.drop_sublist _ _)
  obtain ⟨n1, n2⟩ := List.nodup_cons.mp nd2
  rw [e, List.filter_cons, if_neg (by simp)]
  refine List.filter_eq_self.mpr fun y hy => ?_
  have : y.number ≠ o.number := fun c => n1 (List.mem_map.mpr ⟨y, hy, c⟩)
  simpa using this
theorem offK_snd {s : State} {a : HAd} : (offK s a).map (·.2) = s.offers.map fun o => V.ref (a.oa o.number) := by
  unfold offK
  rw [List.map_map]
  rfl
theorem map_at {α β : Type} {l : List α} {f : α → β} {i : Nat} {x : β} (h : (l.map f)[i]? = some x) : ∃ o, l[i]? = some o ∧ f o = x := by
  rw [List.getElem?_map] at h
  cases e : l[i]? with
  | none => rw [e] at h; cases h
  | some o => rw [e] at h; exact ⟨o, rfl, Option.some.inj h⟩
def shutS (s : State) : State := { s with offers := [], closed := true, money := s.money ++ Vbdbam.finesOf s }
def sp_House_shut (K : PySem.W.Frag) (A : Ad) : Sp := fun vs H Q _ => ∃ (h : Addr) (a : HAd) (s : State), vs = [.ref h] ∧ At K A H h a s ∧ (∀ e, e ∈ s.money → e.school < s.schools.length) ∧ s.schools.length ≤ 100 ∧ s.money.length ≤ 800 ∧ s.rules.fine < 1000000 ∧ 0 < s.rules.per ∧ s.rules.per < 1000 ∧
  (∀ i, i < s.schools.length → (schoolAt s i).has_ < 1000000) ∧ (s.offers.map fun x => x.number).Nodup ∧ (∀ o, o ∈ s.offers → o.school < s.schools.length) ∧ s.offers.length ≤ 1000000 ∧ ∀ H' a', Next K A H h a (shutS s) H' a' → a' = a → Q .non H'
theorem ok_House_shut {P : Program} {w : World} {K : PySem.W.Frag} {mg : Str → Option Value} {base : Heap} {A : Ad} (T : Txt w K mg A) : C8.Met P w K mg base 4 A.cHouse "shut" (sp_House_shut K A) [] := by
  refine metOf T.cl_House T.d_House_shut sc_House_shut (by decreasing_trivial) (fun cdv Ar outer s0 H vs Q E hr hsp => ⟨_, (pss_cons (ps_stop (ps_fld (pv 0) pe_bl rfl))
 (pss_cons (ps_stop (ps_for PassesOwn.never rfl (pi_list (pe_callTy (call_list_view rfl) (by rfl) T.n_list (by decide +kernel) (pa_cons (pe_vals (pe_fld (pv 0) rfl)) pa_nil))) (pg_name (i := 1) sc_House_shut.nd rfl (Or.inl rfl))
  (pss_one (ps_stop (ps_expr (C8.pe_mt (ok_House_end_offer T) hr (by decide) (pv 0) (pa_cons (pv 1) pa_nil)))))))
 (pss_one (ps_stop (ps_expr (C8.pe_mt0 (ok_House_fine_schools T) hr (by decide) (pv 0))))))), ?_⟩)
  obtain ⟨h, a, s, rfl, p, hm, len, lm, fb, per, per', hb, nd, os, ol, q⟩ := hsp
  obtain ⟨dh, h1⟩ := p.hs
  refine Stop.go ?_
  get_elem_tactic_extensible
  rw [put_closed]
  refine goH p (n := s.next) (d := s.day) (c := true) rfl rfl fun H1 p1 f1 => ?_
  obtain ⟨dh, h1⟩ := p1.hs
  have h2 := p1.od
  have rd : Rd H1 a.od (.dK (offK s a)) := .inl h2
  refine Stop.go ?_
  get_elem_tactic_extensible
  intro v hv
  have s2 := Same.new (o := ViewO v a.od) hv
  have v2 : upd H1 v (ViewO v a.od) v = some (ViewO v a.od) := upd_same
  have p2 := p1.same s2
  have rd : Rd (upd H1 v (ViewO v a.od)) a.od (.dK (offK s a)) := .inl p2.od
  generalize upd H1 v (ViewO v a.od) = H2 at s2 v2 p2 rd
  get_elem_tactic_extensible
  rw [offK_snd]
  intro p3 hp3
  have s3 := Same.new (o := .lst (s.offers.map fun o => V.ref (a.oa o.number))) hp3
  have g3 : upd H2 p3 (.lst (s.offers.map fun o => V.ref (a.oa o.number))) p3 = some (.lst (s.offers.map fun o => V.ref (a.oa o.number))) := upd_same
  have p3' := p2.same s3
  obtain ⟨es, hle, _⟩ := p2.le
  have nle : p3 ≠ a.le := (Same.ne hle hp3).symm
  generalize upd H2 p3 (.lst (s.offers.map fun o => V.ref (a.oa o.number))) = H3 at s3 g3 p3'
  have g4 : SqL K H3 p3 (s.offers.map fun o => V.ref (a.oa o.number)) := SqL.of g3
  get_elem_tactic_extensible
  refine for_it (walk_list (xs := s.offers.map fun o => V.ref (a.oa o.number))) (fun i σ H' => Hold (Next K A H h a { s with closed := true, offers := s.offers.drop i } H' a ∧ (∃ z, σ = [some (.ref h), z]) ∧ H' p3 = some (.lst (s.offers.map fun o => V.ref (a.oa o.number))))) ⟨⟨p3', rfl, rfl, f1.trans (.of_same (s2.trans s3))⟩, ⟨_, rfl⟩, g3⟩ (fun i σ H' _ q => SqL.of q.h.2.2) (fun i x σ H4 H' hi y0 y => ?_) (fun σ H' q1 => ?_)
  · obtain ⟨rfl, hx⟩ := y
    obtain ⟨n4, ⟨z, rfl⟩, g5⟩ := y0.h
    obtain ⟨o, ho, rfl⟩ := map_at hx
    obtain ⟨dh, h1⟩ := n4.at'.hs
    have hi' : i < s.offers.length := by simpa using hi
    have ho' : o = s.offers[i] := by
      rw [List.getElem?_eq_getElem hi'] at ho
      exact (Option.some.inj ho).symm
    have om : o ∈ s.offers.drop i := by
      rw [List.drop_eq_getElem_cons hi', ho']
      exact List.mem_cons.mpr (.inl rfl)
    have nd2 : ((s.offers.drop i).map fun x => x.number).Nodup := by
      rw [List.map_drop]
      exact nd.sublist (List.drop_sublist _ _)
    refine Stop.go ?_
    get_elem_tactic_extensible
    refine ⟨o, rfl, n4.at', rfl, om, os o (List.mem_of_getElem? ho), nd2, hm, fun H5 a5 n5 e5 => ?_⟩
    subst e5
    have e : endOffer { s with closed := true, offers := s.offers.drop i } o = { s with closed := true, offers := s.offers.drop (i + 1) } := by
      unfold endOffer
      simp only
      rw [end_drop nd ho]
    rw [e] at n5
    exact ⟨n4.trans n5, ⟨_, rfl⟩, n5.frm _ _ g5 rfl nle⟩
  · obtain ⟨n4, ⟨z, rfl⟩, g5⟩ := q1.h
    rw [List.length_map, List.drop_length] at n4
    obtain ⟨dh, h1⟩ := n4.at'.hs
    have p4 := n4.at'
    refine Stop.go ?_
    get_elem_tactic_extensible
    refine fun H5 a5 n5 e5 => ?_
    subst e5
    exact q _ _ (n4.trans n5) rfl
end EH

/-! ## EHG -/
namespace EH
open EHR
open Vbdbam (State setSchool schoolAt idAt used nextSchool offerTo queueFrom offersMade gone lapsed load offersTo)
structure RGd (r : Vbdbam.Rules) : Prop where
  places : r.places ≤ 60
  form : 0 < r.form ∧ r.form ≤ 4
  cap : r.cap ≤ 9
  judges : r.judges ≤ 9
  per : 0 < r.per ∧ r.per ≤ 9
  fee : r.fee ≤ 9999
  fine : r.fine ≤ 9999
  answer : r.answer ≤ 9999
  start : r.start ≤ 9999
  back : r.back.length ≤ 6
  backs : ∀ p, p ∈ r.back → p.1 ≤ 9999 ∧ p.2 ≤ 9999
/-- what is true of every state that the calls lead to -/
structure Gd (s : State) : Prop where
  n : s.schools.length ≤ 30
  nd : (s.schools.map fun x => x.id).Nodup
  wb : ∀ i, i < s.schools.length → (schoolAt s i).wanted ≤ 20
  ld : ∀ i, i < s.schools.length → load s i ≤ (schoolAt s i).wanted
  us : used s ≤ s.rules.places
  od : (s.offers.map fun x => x.number).Nodup
  on : ∀ o, o ∈ s.offers → o.number < s.next
  os : ∀ o, o ∈ s.offers → o.school < s.schools.length
  mm : s.money.length ≤ 400
  ms : ∀ e, e ∈ s.money → e.school < s.schools.length
  kd : ∀ e, e ∈ s.money → e.kind ≤ 4
  ru : RGd s.rules
theorem Gd.fit {s : State} (g : Gd s) : Fit s where
  n := g.n
  cap := g.ru.cap
  pl := g.ru.places
  nd := g.nd
  bd i hi := ⟨Nat.le_trans (g.wb i hi) (by decide), Nat.le_trans (g.ld i hi) (Nat.le_trans (g.wb i hi) (by decide))⟩
  us := g.us
  on := g.on
  ms := g.ms
abbrev wm : Vbdbam.School → Vbdbam.School := fun x => { x with wanted := x.wanted - 1 }
theorem ids_set {s : State} {i : Nat} {f : Vbdbam.School → Vbdbam.School} (hf : ∀ x, (f x).id = x.id) : (setSchool s i f).map (fun x => x.id) = s.schools.map fun x => x.id := by
  rw [schools_map]
  unfold setSchool
  rw [List.map_map]
  refine List.map_congr_left fun j _ => ?_
  show (if j = i then f (schoolAt s j) else schoolAt s j).id = _
  by_cases c : j = i
  · rw [if_pos c, hf]
  · rw [if_neg c]
theorem has_set {s : State} {i : Nat} {f : Vbdbam.School → Vbdbam.School} (hf : ∀ x, (f x).has_ = x.has_) : (setSchool s i f).map (fun x => x.has_) = s.schools.map fun x => x.has_ := by
  rw [schools_map]
  unfold setSchool
  rw [List.map_map]
  refine List.map_congr_left fun j _ => ?_
  show (if j = i then f (schoolAt s j) else schoolAt s j).has_ = _
  by_cases c : j = i
  · rw [if_pos c, hf]
  · rw [if_neg c]
theorem offersTo_pos {s : State} {o : Vbdbam.Offer} (h : o ∈ s.offers) : 0 < offersTo s o.school :=
  List.length_pos_of_mem (List.mem_filter.mpr ⟨h, by simp⟩)
theorem offersTo_gone {s : State} {o : Vbdbam.Offer} (nd : (s.offers.map fun x => x.number).Nodup) (h : o ∈ s.offers) (j : Nat) : offersTo s j = offersTo (gone s o) j + if o.school = j then 1 else 0 := offersTo_end h nd
theorem Gd.wanted_pos {s : State} (g : Gd s) {o : Vbdbam.Offer} (h : o ∈ s.offers) : 0 < (schoolAt s o.school).wanted := by
  have h1 := offersTo_pos h
  have h2 := g.ld o.school (g.os o h)
  unfold load at h2
  omega
theorem at_gone {s : State} {o : Vbdbam.Offer} {j : Nat} (hj : j < s.schools.length) : schoolAt (gone s o) j = if j = o.school then { schoolAt s j with wanted := (schoolAt s j).wanted - 1 } else schoolAt s j :=
  schoolAt_set (s := s) (f := fun x => { x with wanted := x.wanted - 1 }) hj
theorem gone_len {s : State} {o : Vbdbam.Offer} : (gone s o).schools.length = s.schools.length := setSchool_len (s := s) (i := o.school) (f := wm)
theorem Gd.gone {s : State} (g : Gd s) {o : Vbdbam.Offer} (h : o ∈ s.offers) : Gd (Vbdbam.gone s o) where
  n := by rw [gone_len]; exact g.n
  nd := by
    show ((setSchool s o.school wm).map fun x => x.id).Nodup
    rw [ids_set (f := wm) fun _ => rfl]
    exact g.nd
  wb i hi := by
    rw [gone_len] at hi
    have := g.wb i hi
    rw [at_gone hi]
    split
    · show (schoolAt s i).wanted - 1 ≤ 20
      omega
    · exact this
  ld i hi := by
    rw [gone_len] at hi
    have h1 := g.ld i hi
    have h2 := offersTo_gone g.od h i
    have h3 := g.wanted_pos h
    unfold load at *
    rw [at_gone hi]
    by_cases c : i = o.school
    · subst c
      rw [if_pos rfl] at h2 ⊢
      simp only
      omega
    · rw [if_neg c]
      omega
  us := by
    have h1 := g.us
    have h2 := List.length_filter_le (fun x => x.number != o.number) s.offers
    unfold used at *
    show Vbdbam.total ((setSchool s o.school wm).map fun x => x.has_) + (s.offers.filter fun x => x.number != o.number).length ≤ s.rules.places
    rw [has_set (f := wm) fun _ => rfl]
    omega
  od := (List.filter_sublist.map fun (x : Vbdbam.Offer) => x.number).nodup g.od
  on x hx := g.on x (List.mem_filter.mp hx).1
  os x hx := by rw [gone_len]; exact g.os x (List.mem_filter.mp hx).1
  mm := g.mm
  ms e he := by rw [gone_len]; exact g.ms e he
  kd := g.kd
  ru := g.ru
/-- the offers that are gone -/
theorem goneL {s : State} : ∀ (l : List Vbdbam.Offer), (l.foldl Vbdbam.gone s).rules = s.rules ∧ (l.foldl Vbdbam.gone s).day = s.day ∧ (l.foldl Vbdbam.gone s).next = s.next ∧ (l.foldl Vbdbam.gone s).money = s.money ∧ (l.foldl Vbdbam.gone s).closed = s.closed ∧
    (l.foldl Vbdbam.gone s).schools.length = s.schools.length ∧ (l.foldl Vbdbam.gone s).offers = s.offers.filter fun x => l.all fun o => x.number != o.number := fun l => by
  induction l generalizing s with
  | nil => exact ⟨rfl, rfl, rfl, rfl, rfl, rfl, (List.filter_eq_self.mpr fun _ _ => rfl).symm⟩
  | cons o l ih =>
    obtain ⟨h1, h2, h3, h4, h5, h6, h7⟩ := ih (s := Vbdbam.gone s o)
    refine ⟨h1, h2, h3, h4, h5, h6.trans gone_len, ?_⟩
    rw [List.foldl_cons, h7]
    show (s.offers.filter fun x => x.number != o.number).filter _ = _
    rw [List.filter_filter]
    refine List.filter_congr fun x _ => ?_
    rw [List.all_cons, Bool.and_comm]
theorem Gd.day {s : State} (g : Gd s) {d : Nat} : Gd { s with day := d } := ⟨g.n, g.nd, g.wb, g.ld, g.us, g.od, g.on, g.os, g.mm, g.ms, g.kd, g.ru⟩
theorem nd_snoc' {l : List Nat} {k : Nat} (h : l.Nodup) (hk : ¬ k ∈ l) : (l ++ [k]).Nodup := by
  rw [List.nodup_append]
  exact ⟨h, by simp, fun x hx y hy c => hk (by rw [List.mem_singleton.mp hy] at c; rw [← c]; exact hx)⟩
theorem Gd.offer {s : State} (g : Gd s) {i : Nat} (h : nextSchool s = some i) (hu : used s < s.rules.places) : Gd (offerTo s i) where
  n := g.n
  nd := g.nd
  wb := g.wb
  ld j hj := by
    have h1 := g.ld j hj
    have e : schoolAt (offerTo s i) j = schoolAt s j := rfl
    rw [load_offer, e]
    by_cases c : j = i
    · subst c
      rw [if_pos rfl]
      have hw := (List.mem_filter.mp (List.mem_of_find?_eq_some h)).2
      have := waits_iff.mp hw
      unfold mostOf at this
      omega
    · rw [if_neg c]
      exact h1
  us := by rw [used_offer]; exact hu
  od := by
    show ((s.offers ++ [(⟨s.next, i, s.day⟩ : Vbdbam.Offer)]).map fun x => x.number).Nodup
    rw [List.map_append]
    refine nd_snoc' g.od fun m => ?_
    obtain ⟨x, hx, e⟩ := List.mem_map.mp m
    exact Nat.lt_irrefl _ (e ▸ g.on x hx)
  on x hx := by
    rcases List.mem_append.mp hx with c | c
    · exact Nat.lt_succ_of_lt (g.on x c)
    · rw [List.mem_singleton.mp c]
      exact Nat.lt_succ_self _
  os x hx := by
    rcases List.mem_append.mp hx with c | c
    · exact g.os x c
    · rw [List.mem_singleton.mp c]
      exact List.mem_range.mp (List.mem_filter.mp (List.mem_of_find?_eq_some h)).1
  mm := g.mm
  ms := g.ms
  kd := g.kd
  ru := g.ru
theorem Gd.made : ∀ (n : Nat) {s : State}, Gd s → Gd (offersMade n s)
  | 0, _, g => g
  | n + 1, s, g => by
    unfold offersMade
    by_cases c : s.rules.places ≤ used s
    · rw [if_pos c]; exact g
    · rw [if_neg c]
      cases e : nextSchool s with
      | none => exact g
      | some i => exact Gd.made n (g.offer e (by omega))
theorem Gd.goneL : ∀ (l : List Vbdbam.Offer) {s : State}, Gd s → (∀ o, o ∈ l → o ∈ s.offers) → (l.map fun (x : Vbdbam.Offer) => x.number).Nodup → Gd (l.foldl Vbdbam.gone s)
  | [], _, g, _, _ => g
  | o :: l, s, g, h, nd => by
    obtain ⟨n1, n2⟩ := List.nodup_cons.mp nd
    refine Gd.goneL l (g.gone (h o (List.mem_cons.mpr (.inl rfl)))) (fun x hx => List.mem_filter.mpr ⟨h x (List.mem_cons.mpr (.inr hx)), ?_⟩) n2
    have : x.number ≠ o.number := fun c => n1 (List.mem_map.mpr ⟨x, hx, c⟩)
    simpa using this
theorem Gd.lapse {s : State} (g : Gd s) : Gd ((lapsed s).foldl Vbdbam.gone s) :=
  g.goneL _ (fun o ho => (List.mem_filter.mp ho).1) ((List.filter_sublist.map fun (x : Vbdbam.Offer) => x.number).nodup g.od)
theorem Gd.night {s : State} (g : Gd s) : Gd (Vbdbam.night s) := by
  unfold Vbdbam.night
  simp only
  split
  · exact g.day.lapse
  · exact (g.day.lapse).made _
theorem Gd.nights : ∀ (n : Nat) {s : State}, Gd s → Gd (Vbdbam.nights n s)
  | 0, _, g => g
  | n + 1, _, g => Gd.nights n g.night
end EH

/-! ## EHP -/
namespace EH
open PySem PySem.Spec PyProof.Rows L2 EHR
local macro_rules | `(tactic| decreasing_trivial_pre_omega) => `(tactic| first
  | assumption
  | rfl
  | exact lk_here
  | exact Txt.cl_Ledger (by assumption) | exact Txt.cl_Rules (by assumption) | exact Txt.cl_School (by assumption) | exact Txt.cl_Offer (by assumption) | exact Txt.cl_House (by assumption)
  | exact Txt.na_Ledger (by assumption) _ (by decide +kernel) | exact Txt.na_Rules (by assumption) _ (by decide +kernel) | exact Txt.na_School (by assumption) _ (by decide +kernel) | exact Txt.na_Offer (by assumption) _ (by decide +kernel) | exact Txt.na_House (by assumption) _ (by decide +kernel)
  | exact (lk_past (by decide +kernel)).trans lk_here
  | exact (lk_past (by decide +kernel)).trans ((lk_past (by decide +kernel)).trans lk_here)
  | exact (lk_past (by decide +kernel)).trans ((lk_past (by decide +kernel)).trans ((lk_past (by decide +kernel)).trans lk_here))
  | exact (lk_past (by decide +kernel)).trans ((lk_past (by decide +kernel)).trans ((lk_past (by decide +kernel)).trans ((lk_past (by decide +kernel)).trans lk_here)))
  | exact (lk_past (by decide +kernel)).trans ((lk_past (by decide +kernel)).trans ((lk_past (by decide +kernel)).trans ((lk_past (by decide +kernel)).trans ((lk_past (by decide +kernel)).trans lk_here))))
  | exact (lk_past (by decide +kernel)).trans ((lk_past (by decide +kernel)).trans ((lk_past (by decide +kernel)).trans ((lk_past (by decide +kernel)).trans ((lk_past (by decide +kernel)).trans ((lk_past (by decide +kernel)).trans lk_here)))))
  | exact SqL.of (by assumption) | exact SqT.of (by assumption)
  | exact Or.inl (SqL.of (by assumption)) | exact Or.inr (SqT.of (by assumption)) | exact Or.inl (by assumption) | exact Or.inr (by assumption)
  | exact atI0 rfl | exact atI_nat (j := 1) rfl | exact atI_nat (j := 2) rfl
  | exact Or.inl ⟨rfl, _, SqL.of (by assumption)⟩
  | exact Nat.le_of_ble_eq_true rfl
  | exact Same.at1 (by assumption) (by assumption)
  | exact SqL.of (Same.at1 (by assumption) (by assumption)) | exact SqT.of (Same.at1 (by assumption) (by assumption)) | exact Or.inl (SqL.of (Same.at1 (by assumption) (by assumption))) | exact Or.inr (SqT.of (Same.at1 (by assumption) (by assumption)))
  | exact ⟨_, by assumption⟩
  | exact dput_i (by assumption) (by assumption) | exact kV_i | exact kV_s | exact isD_k (by assumption)
  | exact upd_same)
local macro_rules | `(tactic| get_elem_tactic_extensible) => `(tactic| repeat (first
  | refine And.intro (by decreasing_trivial_pre_omega) ?_
  | apply Exists.intro (α := V) | apply Exists.intro (α := Addr) | apply Exists.intro (α := List V) | apply Exists.intro (α := Int) | apply Exists.intro (α := Bool)
  | apply Exists.intro (α := List (Str × V)) | apply Exists.intro (α := Str) | apply Exists.intro (α := List (Key × V)) | apply Exists.intro (α := Option V)
  | apply Exists.intro (α := List Int) | apply Exists.intro (α := List Bool) | apply Exists.intro (α := List Str) | apply Exists.intro (α := Obj) | apply Exists.intro (α := List En) | apply Exists.intro (α := HAd) | apply Exists.intro (α := Vbdbam.State) | apply Exists.intro (α := Vbdbam.Rules) | apply Exists.intro (α := Hp) | apply Exists.intro (α := Key) | apply Exists.intro (α := Nat) | apply Exists.intro (α := Wd) | apply Exists.intro (α := Wd → List Int) | apply Exists.intro (α := Nat → Int)))
local macro_rules | `(tactic| decreasing_trivial) => `(tactic| (intro vs H Q E h; repeat (first | (obtain ⟨e, _⟩ := h; subst e; rfl) | (obtain ⟨_, h⟩ := h))))

open Vbdbam (State setSchool schoolAt idAt used nextSchool offerTo queueFrom offersMade lapsed)
def lapL (t : State) (i : Nat) : List Vbdbam.Offer := (t.offers.take i).filter fun o => decide (o.day + t.rules.answer < t.day)
theorem lapL_succ {t : State} {i : Nat} {o : Vbdbam.Offer} (h : t.offers[i]? = some o) : lapL t (i + 1) = lapL t i ++ if o.day + t.rules.answer < t.day then [o] else [] := by
  unfold lapL
  rw [filt_take h]
  by_cases c : o.day + t.rules.answer < t.day
  · rw [if_pos c, if_pos (decide_eq_true c)]
  · rw [if_neg c, if_neg (by simpa using c)]
theorem lapL_in {t : State} (nd : (t.offers.map fun x => x.number).Nodup) {i : Nat} {o : Vbdbam.Offer} (h : t.offers[i]? = some o) : o ∈ ((lapL t i).foldl Vbdbam.gone t).offers := by
  rw [(goneL (s := t) (lapL t i)).2.2.2.2.2.2]
  refine List.mem_filter.mpr ⟨List.mem_of_getElem? h, List.all_eq_true.mpr fun x hx => ?_⟩
  have hx := (List.mem_filter.mp hx).1
  obtain ⟨j, hj, e⟩ := List.getElem_of_mem hx
  rw [List.getElem_take] at e
  rw [List.length_take] at hj
  have hi : i < t.offers.length := (List.getElem?_eq_some_iff.mp h).1
  have e2 : t.offers[i] = o := (List.getElem?_eq_some_iff.mp h).2
  have : o.number ≠ x.number := fun c => by
    rw [← e, ← e2] at c
    have g : ∀ k (hk : k < t.offers.length), (t.offers[k]).number = (t.offers.map fun x => x.number)[k]'(by simpa using hk) := fun k hk => by rw [List.getElem_map]
    rw [g i hi, g j (by omega)] at c
    have := (List.getElem_inj nd).mp c
    omega
  simpa using this
theorem lapL_gd {t : State} (g : Gd t) (i : Nat) : Gd ((lapL t i).foldl Vbdbam.gone t) :=
  g.goneL _ (fun o ho => List.mem_of_mem_take (List.mem_filter.mp ho).1) (((List.filter_sublist.trans (List.take_sublist i t.offers)).map fun (x : Vbdbam.Offer) => x.number).nodup g.od)
def sp_House_pass_night (K : PySem.W.Frag) (A : Ad) : Sp := fun vs H Q _ => ∃ (h : Addr) (a : HAd) (s : State), vs = [.ref h] ∧ At K A H h a s ∧ Gd s ∧ ∀ H' a', Next K A H h a (Vbdbam.night s) H' a' → Q .non H'
theorem ok_House_pass_night {P : Program} {w : World} {K : PySem.W.Frag} {mg : Str → Option Value} {base : Heap} {A : Ad} (T : Txt w K mg A) : C8.Met P w K mg base 5 A.cHouse "pass_night" (sp_House_pass_night K A) [] := by
  refine metOf T.cl_House T.d_House_pass_night sc_House_pass_night (by decreasing_trivial) (fun cdv Ar outer s0 H vs Q E hr hsp => ⟨_, (pss_cons (ps_stop (ps_fldaug (pv 0) pe_int in_add))
 (pss_cons (ps_stop (ps_for PassesOwn.never rfl (pi_list (pe_callTy (call_list_view rfl) (by rfl) T.n_list (by decide +kernel) (pa_cons (pe_vals (pe_fld (pv 0) rfl)) pa_nil))) (pg_name (i := 1) sc_House_pass_night.nd rfl (Or.inl rfl))
  (pss_one (ps_stop (ps_if (pt_cmpR op_lt (C8.pe_mt (ok_House_last_day T) hr (by decide) (pv 0) (pa_cons (pv 1) pa_nil)) (pe_fld (pv 0) rfl) (nomark _)) (pss_one (ps_stop (ps_expr (C8.pe_mt (ok_House_lose_offer T) hr (by decide) (pv 0) (pa_cons (pv 1) pa_nil))))) pss_nil)))))
 (pss_one (ps_stop (ps_if (pt_not (pt_val (pe_fld (pv 0) rfl))) (pss_one (ps_stop (ps_expr (C8.pe_mt0 (ok_House_make_offers T) hr (by decide) (pv 0))))) pss_nil))))), ?_⟩)
  obtain ⟨h, a, s, rfl, p, gd, q⟩ := hsp
  obtain ⟨dh, h1⟩ := p.hs
  refine Stop.go ?_
  get_elem_tactic_extensible
  rw [put_day]
  refine goH p (n := s.next) (d := s.day + 1) (c := s.closed) rfl rfl fun H1 p1 f1 => ?_
  have gt : Gd { s with day := s.day + 1 } := gd.day
  have q : ∀ H' a', Next K A H h a (let u := (lapsed { s with day := s.day + 1 }).foldl Vbdbam.gone { s with day := s.day + 1 }; if u.closed = true then u else offersMade u.rules.places u) H' a' → Q .non H' := q
  have p1 : At K A H1 h a { s with day := s.day + 1 } := p1
  have el : lapsed { s with day := s.day + 1 } = lapL { s with day := s.day + 1 } s.offers.length := by
    unfold lapL
    rw [List.take_length]
    rfl
  rw [el] at q
  have elen : s.offers.length = ({ s with day := s.day + 1 } : State).offers.length := rfl
  rw [elen] at q
  generalize ({ s with day := s.day + 1 } : State) = t at gt q p1
  clear elen el
  obtain ⟨dh, h1⟩ := p1.hs
  have h2 := p1.od
  have rd : Rd H1 a.od (.dK (offK t a)) := .inl h2
  refine Stop.go ?_
  get_elem_tactic_extensible
  intro v hv
  have s2 := Same.new (o := ViewO v a.od) hv
  have v2 : upd H1 v (ViewO v a.od) v = some (ViewO v a.od) := upd_same
  have p2 := p1.same s2
  have rd : Rd (upd H1 v (ViewO v a.od)) a.od (.dK (offK t a)) := .inl p2.od
  generalize upd H1 v (ViewO v a.od) = H2 at s2 v2 p2 rd
  get_elem_tactic_extensible
  rw [offK_snd]
  intro p3 hp3
  have s3 := Same.new (o := .lst (t.offers.map fun o => V.ref (a.oa o.number))) hp3
  have g3 : upd H2 p3 (.lst (t.offers.map fun o => V.ref (a.oa o.number))) p3 = some (.lst (t.offers.map fun o => V.ref (a.oa o.number))) := upd_same
  have p3' := p2.same s3
  obtain ⟨es, hle, _⟩ := p2.le
  have nle : p3 ≠ a.le := (Same.ne hle hp3).symm
  generalize upd H2 p3 (.lst (t.offers.map fun o => V.ref (a.oa o.number))) = H3 at s3 g3 p3'
  have g4 : SqL K H3 p3 (t.offers.map fun o => V.ref (a.oa o.number)) := SqL.of g3
  get_elem_tactic_extensible
  refine for_it (walk_list (xs := t.offers.map fun o => V.ref (a.oa o.number))) (fun i σ H' => Hold (Next K A H h a ((lapL t i).foldl Vbdbam.gone t) H' a ∧ (∃ z, σ = [some (.ref h), z]) ∧ H' p3 = some (.lst (t.offers.map fun o => V.ref (a.oa o.number))))) ⟨⟨p3', rfl, rfl, f1.trans (.of_same (s2.trans s3))⟩, ⟨_, rfl⟩, g3⟩ (fun i σ H' _ q => SqL.of q.h.2.2) (fun i x σ H4 H' hi y0 y => ?_) (fun σ H' q1 => ?_)
  · obtain ⟨rfl, hx⟩ := y
    obtain ⟨n4, ⟨z, rfl⟩, g5⟩ := y0.h
    obtain ⟨o, ho, rfl⟩ := map_at hx
    have gi := lapL_gd gt i
    have oi := lapL_in gt.od ho
    obtain ⟨k1, k2, _⟩ := goneL (s := t) (lapL t i)
    have hs := lapL_succ ho
    generalize hu : (lapL t i).foldl Vbdbam.gone t = u at n4 gi oi k1 k2
    have p4 := n4.at'
    obtain ⟨dh, h1⟩ := p4.hs
    obtain ⟨dof, h5⟩ := p4.of o oi
    have o1 : One K A H' a.ru "answer" (u.rules.answer : Nat) := p4.ru.one .answer rfl
    refine Stop.go ?_
    get_elem_tactic_extensible
    refine ifd (fun hc => ?_) fun hc => ?_
    · rw [k1, k2] at hc
      rw [if_pos (by omega)] at hs
      have os := gi.os o oi
      have od := gi.od
      have ms := gi.ms
      have wp := gi.wanted_pos oi
      refine Stop.go ?_
      get_elem_tactic_extensible
      refine ⟨o, rfl, p4, rfl, oi, os, od, ms, wp, fun H5 a5 n5 e5 => ?_⟩
      subst e5
      refine ⟨?_, ⟨_, rfl⟩, n5.frm _ _ g5 rfl nle⟩
      rw [hs, List.foldl_append, hu]
      exact n4.trans n5
    · rw [k1, k2] at hc
      rw [if_neg (by omega), List.append_nil] at hs
      exact ⟨by rw [hs, hu]; exact n4, ⟨_, rfl⟩, g5⟩
  · obtain ⟨n4, ⟨z, rfl⟩, g5⟩ := q1.h
    rw [List.length_map] at n4
    have gi := lapL_gd gt t.offers.length
    generalize (lapL t t.offers.length).foldl Vbdbam.gone t = u at n4 gi q
    have p4 := n4.at'
    have ft := gi.fit
    obtain ⟨dh, h1⟩ := p4.hs
    refine Stop.go ?_
    get_elem_tactic_extensible
    refine ifb (fun hc => ?_) fun hc => ?_
    · have hc : u.closed = false := by simpa using hc
      simp only [hc, Bool.false_eq_true, if_false] at q
      refine Stop.go ?_
      get_elem_tactic_extensible
      exact fun H5 a5 n5 => q H5 a5 (n4.trans n5)
    · have hc : u.closed = true := by simpa using hc
      simp only [hc, if_true] at q
      exact q H' a n4
end EH

/-! ## EHC0 -/
namespace EH
open PySem PySem.Spec PyProof.Rows L2 EHR
open Vbdbam (State Ans setSchool schoolAt idAt placeOf)
def flat (a : Ans) : List Int := a.value :: (if a.rows.length ≤ 1 then a.rows.flatten else a.rows.flatMap fun r => (r.length : Int) :: r)
/-- a call is answered -/
structure Done (K : PySem.W.Frag) (A : Ad) (H : Hp) (h : Addr) (a : HAd) (r : State × Ans) (Q : VK) : Prop where
  h : ∀ H' a' p, At K A H' h a' r.1 → Frm a.le H H' → (a'.le = a.le ∨ H a'.le = none) → (∀ b o, H b = some o → stab o = true → b ≠ a.le → b ≠ p) → H' p = some (.lst ((flat r.2).map .int)) → Q (.ref p) H'
section
variable {K : PySem.W.Frag} {A : Ad} {H H1 : Hp} {h : Addr} {a a' : HAd} {s s' : State} {r : State × Ans} {Q : VK} {ans : Ans}
theorem Done.go (d : Done K A H h a r Q) (n : Next K A H h a s' H1 a') (hr : r = (s', ans)) {out : List V} (ho : out = (flat ans).map .int) : ∀ q, H1 q = none → Q (.ref q) (upd H1 q (.lst out)) := fun q hq => by
  subst hr ho
  exact d.h _ a' q (n.at'.same (Same.new hq)) (n.frm.trans (.of_same (Same.new hq))) (.inl n.le) (fun b o hb st nl => Same.ne (n.frm b o hb st nl) hq) upd_same
/-- .. nothing has changed -/
theorem Done.no (d : Done K A H h a r Q) (p : At K A H h a s) (e : Same H H1) (hr : r = (s, ans)) {out : List V} (ho : out = (flat ans).map .int) : ∀ q, H1 q = none → Q (.ref q) (upd H1 q (.lst out)) :=
  d.go ⟨p.same e, rfl, rfl, .of_same e⟩ hr ho
end
theorem at_set {s : State} {i : Nat} {f : Vbdbam.School → Vbdbam.School} (hi : i < s.schools.length) : schoolAt { s with schools := setSchool s i f } i = f (schoolAt s i) := by
  rw [schoolAt_set hi, if_pos rfl]
theorem unless_open {s : State} {x : State × Ans} (h : s.closed = false) : Vbdbam.unlessClosed s x = x := by
  unfold Vbdbam.unlessClosed
  rw [h, if_neg Bool.false_ne_true]
theorem take_len {s : State} {i : Nat} : (takePlace s i).schools.length = s.schools.length := setSchool_len (s := s) (i := i) (f := fun y => { y with has_ := y.has_ + 1 })
theorem give_len {s : State} {i n g : Nat} : (givePlaces s i n g).schools.length = s.schools.length := setSchool_len (s := s) (i := i) (f := fun y => { y with has_ := y.has_ - n, wanted := y.wanted - n })
theorem take_at {s : State} {i j : Nat} (hj : j < s.schools.length) : schoolAt (takePlace s i) j = if j = i then { schoolAt s j with has_ := (schoolAt s j).has_ + 1 } else schoolAt s j := schoolAt_set (s := s) (f := fun y => { y with has_ := y.has_ + 1 }) hj
theorem give_at {s : State} {i j n g : Nat} (hj : j < s.schools.length) : schoolAt (givePlaces s i n g) j = if j = i then { schoolAt s j with has_ := (schoolAt s j).has_ - n, wanted := (schoolAt s j).wanted - n } else schoolAt s j := schoolAt_set (s := s) (f := fun y => { y with has_ := y.has_ - n, wanted := y.wanted - n }) hj
theorem in_yes {z : Int} {lo hi : Nat} (h1 : (lo : Int) ≤ z) (h2 : z ≤ (hi : Int)) : Vbdbam.inside z lo hi = true := by
  unfold Vbdbam.inside
  rw [decide_eq_true h1, decide_eq_true h2]
  rfl
theorem in_lo {z : Int} {lo hi : Nat} (h1 : ¬ (lo : Int) ≤ z) : Vbdbam.inside z lo hi = false := by
  unfold Vbdbam.inside
  rw [decide_eq_false h1]
  rfl
theorem in_hi {z : Int} {lo hi : Nat} (h1 : ¬ z ≤ (hi : Int)) : Vbdbam.inside z lo hi = false := by
  unfold Vbdbam.inside
  rw [decide_eq_false h1, Bool.and_false]
theorem place_none {s : State} {a : HAd} {id : Int} (h : placeOf s id = none) : valV (schK s a) (.inl id) = none := by
  have h1 := List.findIdx?_eq_none_iff.mp h
  have g : ∀ l : List Nat, (∀ j, j ∈ l → ((idAt s j : Int) : Int) ≠ id) → valV (l.map fun i => ((Sum.inl (idAt s i : Int) : Key), V.ref (a.sa i))) (.inl id) = none := fun l => by
    induction l with
    | nil => intro _; rfl
    | cons x l ih =>
      intro hl
      rw [List.map_cons, valV_neg (fun d => hl x (List.mem_cons.mpr (.inl rfl)) (Sum.inl.inj d))]
      exact ih fun j hj => hl j (List.mem_cons.mpr (.inr hj))
  refine g _ fun j hj c => ?_
  have hj := List.mem_range.mp hj
  have h2 := h1 _ (List.getElem_mem hj)
  rw [schoolAt_eq hj] at h2
  simp only [beq_eq_false_iff_ne] at h2
  exact h2 c
theorem place_some {s : State} {id : Int} {i : Nat} (h : placeOf s id = some i) : i < s.schools.length ∧ (idAt s i : Int) = id := by
  obtain ⟨h1, h2, _⟩ := List.findIdx?_eq_some_iff_getElem.mp h
  rw [schoolAt_eq h1] at h2
  exact ⟨h1, by simpa [idAt] using h2⟩
theorem offer_none {s : State} {a : HAd} {n : Int} (h : (s.offers.find? fun x => (x.number : Int) == n) = none) : valV (offK s a) (.inl n) = none := by
  have h1 := List.find?_eq_none.mp h
  unfold offK
  generalize s.offers = l at h1
  induction l with
  | nil => rfl
  | cons x l ih =>
    rw [List.map_cons, valV_neg (fun d => h1 x (List.mem_cons.mpr (.inl rfl)) (by simpa using Sum.inl.inj d))]
    exact ih fun y hy => h1 y (List.mem_cons.mpr (.inr hy))
theorem offer_some {s : State} {n : Int} {o : Vbdbam.Offer} (h : (s.offers.find? fun x => (x.number : Int) == n) = some o) : o ∈ s.offers ∧ (o.number : Int) = n :=
  ⟨List.mem_of_find?_eq_some h, by simpa using List.find?_some h⟩
end EH

/-! ## EHY -/
namespace EH
open PySem
open Vbdbam (State setSchool schoolAt idAt)
/-! ### money: the specification's sums -/
theorem id_inj {s : State} (nd : (s.schools.map fun x => x.id).Nodup) {i j : Nat} (hi : i < s.schools.length) (hj : j < s.schools.length) (c : idAt s i = idAt s j) : i = j := by
  have g : ∀ k (hk : k < s.schools.length), idAt s k = (s.schools.map fun x => x.id)[k]'(by simpa using hk) := fun k hk => by
    rw [List.getElem_map]
    unfold idAt
    rw [schoolAt_eq hk]
  rw [g i hi, g j hj] at c
  exact (List.getElem_inj nd).mp c
theorem kind_cases {P : Nat → Prop} (h0 : P 0) (h1 : P 1) (h2 : P 2) (h3 : P 3) (h4 : P 4) : ∀ {k : Nat}, k ≤ 4 → P k
  | 0, _ => h0
  | 1, _ => h1
  | 2, _ => h2
  | 3, _ => h3
  | 4, _ => h4
  | n + 5, h => absurd h (by omega)
theorem ofL_ents {s : State} (nd : (s.schools.map fun x => x.id).Nodup) (ms : ∀ e, e ∈ s.money → e.school < s.schools.length) {i : Nat} (hi : i < s.schools.length) :
    ofL (idAt s i : Int) (ents s) = (s.money.filter fun e => e.school == i).map (entOf s) := by
  unfold ofL ents
  rw [List.filter_map]
  congr 1
  refine List.filter_congr fun e he => ?_
  show decide ((idAt s e.school : Int) = (idAt s i : Int)) = (e.school == i)
  by_cases c : e.school = i
  · subst c; simp
  · have : ¬ (idAt s e.school : Int) = (idAt s i : Int) := fun d => c (id_inj nd (ms e he) hi (Int.ofNat_inj.mp d))
    rw [decide_eq_false this]
    simp [c]
theorem bal_fold {s : State} : ∀ (l : List Vbdbam.Entry) (z : Int), (∀ e, e ∈ l → e.kind ≤ 4) →
    (l.map (entOf s)).foldl (fun o e => if e.2.1 = ("paid" : Str) ∨ e.2.1 = ("given back" : Str) then o + e.2.2 else o - e.2.2) z = (l.map fun e => Vbdbam.signOf e.kind * (e.amount : Int)).foldl (fun a b => a + b) z
  | [], _, _ => rfl
  | e :: l, z, h => by
    have ih := bal_fold (s := s) l
    rw [List.map_cons, List.map_cons, List.foldl_cons, List.foldl_cons, ih _ fun x hx => h x (List.mem_cons.mpr (.inr hx))]
    congr 1
    have hk := h e (List.mem_cons.mpr (.inl rfl))
    show (if kindS e.kind = ("paid" : Str) ∨ kindS e.kind = ("given back" : Str) then z + (e.amount : Int) else z - (e.amount : Int)) = z + Vbdbam.signOf e.kind * (e.amount : Int)
    refine kind_cases (P := fun k => (if kindS k = ("paid" : Str) ∨ kindS k = ("given back" : Str) then z + (e.amount : Int) else z - (e.amount : Int)) = z + Vbdbam.signOf k * (e.amount : Int)) ?_ ?_ ?_ ?_ ?_ hk
    · rw [if_pos (by decide)]; simp [Vbdbam.signOf]
    · rw [if_neg (by decide)]; simp [Vbdbam.signOf]; omega
    · rw [if_pos (by decide)]; simp [Vbdbam.signOf]
    · rw [if_neg (by decide)]; simp [Vbdbam.signOf]; omega
    · rw [if_neg (by decide)]; simp [Vbdbam.signOf]; omega
theorem bal_of {s : State} (nd : (s.schools.map fun x => x.id).Nodup) (ms : ∀ e, e ∈ s.money → e.school < s.schools.length) (kd : ∀ e, e ∈ s.money → e.kind ≤ 4) {i : Nat} (hi : i < s.schools.length) :
    balL (ofL (idAt s i : Int) (ents s)) = Vbdbam.balance s i := by
  rw [ofL_ents nd ms hi]
  exact bal_fold _ 0 fun e he => kd e (List.mem_filter.mp he).1
theorem amt_map {s : State} {k : Nat} (hk : k ≤ 4) : ∀ (l : List Vbdbam.Entry), (∀ e, e ∈ l → e.kind ≤ 4) → amtL (kindS k) (l.map (entOf s)) = (Vbdbam.total ((l.filter fun e => e.kind == k).map fun e => e.amount) : Nat) := fun l h => by
  unfold amtL
  rw [total_eq, sum_cast, List.filter_map, List.map_map, List.map_map]
  congr 1
  have e : l.filter ((fun e => decide (e.2.1 = kindS k)) ∘ entOf s) = l.filter fun e => e.kind == k := by
    refine List.filter_congr fun e he => ?_
    have he := h e he
    show decide (kindS e.kind = kindS k) = (e.kind == k)
    refine kind_cases (P := fun m => decide (kindS m = kindS k) = (m == k)) ?_ ?_ ?_ ?_ ?_ he
    all_goals
      refine kind_cases (P := fun k => decide (kindS _ = kindS k) = (_ == k)) ?_ ?_ ?_ ?_ ?_ hk
      all_goals decide
  rw [e]
  rfl
theorem amt_of {s : State} (nd : (s.schools.map fun x => x.id).Nodup) (ms : ∀ e, e ∈ s.money → e.school < s.schools.length) (kd : ∀ e, e ∈ s.money → e.kind ≤ 4) {i : Nat} (hi : i < s.schools.length) {k : Nat} (hk : k ≤ 4) :
    amtL (kindS k) (ofL (idAt s i : Int) (ents s)) = (Vbdbam.sumOf s i k : Nat) := by
  rw [ofL_ents nd ms hi, amt_map hk _ fun e he => kd e (List.mem_filter.mp he).1, List.filter_filter]
  unfold Vbdbam.sumOf
  congr 4
  funext e
  rw [Bool.and_comm]
end EH
namespace EH
open PySem
open Vbdbam (State setSchool schoolAt idAt)
theorem foldl_sum (l : List Int) : l.foldl (fun a b => a + b) 0 = l.sum := by
  rw [List.sum_eq_foldl]
theorem sum_zero {α : Type} : ∀ (l : List α), (l.map fun _ => (0 : Int)).sum = 0
  | [] => rfl
  | _ :: l => by rw [List.map_cons, List.sum_cons, sum_zero l]; rfl
theorem sum_add {α : Type} (f g : α → Int) : ∀ (l : List α), (l.map fun x => f x + g x).sum = (l.map f).sum + (l.map g).sum
  | [] => rfl
  | x :: l => by rw [List.map_cons, List.map_cons, List.map_cons, List.sum_cons, List.sum_cons, List.sum_cons, sum_add f g l]; omega
theorem sum_one {n k : Nat} {z : Int} (h : k < n) : ((List.range n).map fun i => if k = i then z else 0).sum = z := by
  induction n with
  | zero => omega
  | succ n ih =>
    rw [List.range_succ, List.map_append, List.sum_append]
    by_cases c : k = n
    · subst c
      have e : ((List.range k).map fun i => if k = i then z else 0) = (List.range k).map fun _ => (0 : Int) := by
        refine List.map_congr_left fun i hi => ?_
        have := List.mem_range.mp hi
        rw [if_neg (by omega)]
      rw [e, sum_zero]
      simp
    · rw [ih (by omega)]
      simp [c]
theorem sum_part {n : Nat} (g : Vbdbam.Entry → Int) : ∀ (l : List Vbdbam.Entry), (∀ e, e ∈ l → e.school < n) → (l.map g).sum = ((List.range n).map fun i => ((l.filter fun e => e.school == i).map g).sum).sum
  | [], _ => by
    have e : ((List.range n).map fun i => ((([] : List Vbdbam.Entry).filter fun e => e.school == i).map g).sum) = (List.range n).map fun _ => (0 : Int) := List.map_congr_left fun _ _ => rfl
    rw [e, sum_zero]
    rfl
  | e :: l, h => by
    have ih := sum_part g l fun x hx => h x (List.mem_cons.mpr (.inr hx))
    have e1 : ((List.range n).map fun i => (((e :: l).filter fun e => e.school == i).map g).sum) = (List.range n).map fun i => (if e.school = i then g e else 0) + ((l.filter fun e => e.school == i).map g).sum := by
      refine List.map_congr_left fun i _ => ?_
      by_cases c : e.school = i
      · simp [c]
      · simp [c]
    rw [e1, sum_add, sum_one (h e (List.mem_cons.mpr (.inl rfl))), List.map_cons, List.sum_cons, ih]
theorem bal_all {s : State} (ms : ∀ e, e ∈ s.money → e.school < s.schools.length) (kd : ∀ e, e ∈ s.money → e.kind ≤ 4) : balL (ents s) = ((List.range s.schools.length).map (Vbdbam.balance s)).foldl (fun a b => a + b) 0 := by
  have e : balL (ents s) = (s.money.map fun e => Vbdbam.signOf e.kind * (e.amount : Int)).foldl (fun a b => a + b) 0 := bal_fold s.money 0 kd
  rw [e, foldl_sum, foldl_sum, sum_part _ _ ms]
  congr 1
  refine List.map_congr_left fun i _ => ?_
  unfold Vbdbam.balance
  rw [foldl_sum]
end EH

/-! ## EHC1 -/
namespace EH
open PySem PySem.Spec PyProof.Rows L2 EHR
local macro_rules | `(tactic| decreasing_trivial_pre_omega) => `(tactic| first
  | assumption
  | rfl
  | exact lk_here
  | exact Txt.cl_Ledger (by assumption) | exact Txt.cl_Rules (by assumption) | exact Txt.cl_School (by assumption) | exact Txt.cl_Offer (by assumption) | exact Txt.cl_House (by assumption)
  | exact Txt.na_Ledger (by assumption) _ (by decide +kernel) | exact Txt.na_Rules (by assumption) _ (by decide +kernel) | exact Txt.na_School (by assumption) _ (by decide +kernel) | exact Txt.na_Offer (by assumption) _ (by decide +kernel) | exact Txt.na_House (by assumption) _ (by decide +kernel)
  | exact (lk_past (by decide +kernel)).trans lk_here
  | exact (lk_past (by decide +kernel)).trans ((lk_past (by decide +kernel)).trans lk_here)
  | exact (lk_past (by decide +kernel)).trans ((lk_past (by decide +kernel)).trans ((lk_past (by decide +kernel)).trans lk_here))
  | exact (lk_past (by decide +kernel)).trans ((lk_past (by decide +kernel)).trans ((lk_past (by decide +kernel)).trans ((lk_past (by decide +kernel)).trans lk_here)))
  | exact (lk_past (by decide +kernel)).trans ((lk_past (by decide +kernel)).trans ((lk_past (by decide +kernel)).trans ((lk_past (by decide +kernel)).trans ((lk_past (by decide +kernel)).trans lk_here))))
  | exact (lk_past (by decide +kernel)).trans ((lk_past (by decide +kernel)).trans ((lk_past (by decide +kernel)).trans ((lk_past (by decide +kernel)).trans ((lk_past (by decide +kernel)).trans ((lk_past (by decide +kernel)).trans lk_here)))))
  | exact SqL.of (by assumption) | exact SqT.of (by assumption)
  | exact Or.inl (SqL.of (by assumption)) | exact Or.inr (SqT.of (by assumption)) | exact Or.inl (by assumption) | exact Or.inr (by assumption)
  | exact atI0 rfl | exact atI_nat (j := 1) rfl | exact atI_nat (j := 2) rfl
  | exact Or.inl ⟨rfl, _, SqL.of (by assumption)⟩
  | exact Nat.le_of_ble_eq_true rfl
  | exact Same.at1 (by assumption) (by assumption)
  | exact SqL.of (Same.at1 (by assumption) (by assumption)) | exact SqT.of (Same.at1 (by assumption) (by assumption)) | exact Or.inl (SqL.of (Same.at1 (by assumption) (by assumption))) | exact Or.inr (SqT.of (Same.at1 (by assumption) (by assumption)))
  | exact ⟨_, by assumption⟩ | exact ⟨_, rfl⟩ | trivial
  | exact dput_i (by assumption) (by assumption) | exact dput_s (by assumption) (by assumption) | exact kV_i | exact kV_s | exact isD_k (by assumption)
  | exact upd_same)
local macro_rules | `(tactic| get_elem_tactic_extensible) => `(tactic| repeat (first
  | refine And.intro (by decreasing_trivial_pre_omega) ?_
  | apply Exists.intro (α := V) | apply Exists.intro (α := Addr) | apply Exists.intro (α := List V) | apply Exists.intro (α := Int) | apply Exists.intro (α := Bool)
  | apply Exists.intro (α := List (Str × V)) | apply Exists.intro (α := Str) | apply Exists.intro (α := List (Key × V)) | apply Exists.intro (α := Option V)
  | apply Exists.intro (α := List Int) | apply Exists.intro (α := List Bool) | apply Exists.intro (α := List Str) | apply Exists.intro (α := Obj) | apply Exists.intro (α := List En) | apply Exists.intro (α := HAd) | apply Exists.intro (α := Vbdbam.State) | apply Exists.intro (α := Vbdbam.Rules) | apply Exists.intro (α := Hp) | apply Exists.intro (α := Key) | apply Exists.intro (α := Nat) | apply Exists.intro (α := Wd) | apply Exists.intro (α := Wd → List Int) | apply Exists.intro (α := Nat → Int) | apply Exists.intro (α := List Nat) | apply Exists.intro (α := List (List Nat)) | apply Exists.intro (α := List (List (List Nat)))))
local macro_rules | `(tactic| decreasing_trivial) => `(tactic| (intro vs H Q E h; repeat (first | (obtain ⟨e, _⟩ := h; subst e; rfl) | (obtain ⟨_, h⟩ := h))))

open Vbdbam (State Ans setSchool schoolAt idAt placeOf)
def sp_want (K : PySem.W.Frag) (A : Ad) : Sp := fun vs H Q _ => ∃ (h : Addr) (a : HAd) (s : State) (x n : Int), vs = [.ref h, .int x, .int n] ∧ At K A H h a s ∧ Gd s ∧ Done K A H h a (Vbdbam.step s (.want x n)) Q
theorem ok_want {P : Program} {w : World} {K : PySem.W.Frag} {mg : Str → Option Value} {base : Heap} {A : Ad} (T : Txt w K mg A) : C8.Cal P w K mg base 2 "want" (sp_want K A) [] := by
  refine calOf T.d_want sc_want (by decreasing_trivial) (fun cdv Ar outer s0 H vs Q E hr hsp => ⟨_, (pss_cons (ps_stop (ps_set (i := 3) sc_want.nd rfl (Or.inl rfl) (pe_dget1 (hu_of hr) (pe_fld (pv 0) rfl) (pv 1) ⟨rfl, rfl, rfl, rfl⟩)))
 (pss_cons (ps_stop (ps_if (pt_cmpR op_isN (pv 3) pe_non (nomark _)) (pss_one (ps_ret (pe_lst (pa_cons (pe_un un_neg (C8.pe_gc rfl T.c_NOT_THERE)) pa_nil)))) pss_nil))
 (pss_cons (ps_stop (ps_if (pt_not (pt_chain op_le op_le pe_int (pv 2) pe_int)) (pss_one (ps_ret (pe_lst (pa_cons (pe_un un_neg (C8.pe_gc rfl T.c_OUT_OF_BOUNDS)) pa_nil)))) pss_nil))
 (pss_cons (ps_stop (ps_if (pt_val (pe_fld (pv 0) rfl)) (pss_one (ps_ret (pe_lst (pa_cons (pe_un un_neg (C8.pe_gc rfl T.c_CLOSED)) pa_nil)))) pss_nil))
 (pss_cons (ps_stop (ps_if (pt_cmpR op_lt (pv 2) (C8.pe_mt0 (ok_School_load T) hr (by decide) (pv 3)) (nomark _)) (pss_one (ps_ret (pe_lst (pa_cons (pe_un un_neg (C8.pe_gc rfl T.c_NOT_ENOUGH)) pa_nil)))) pss_nil))
 (pss_cons (ps_stop (ps_fld (pv 3) (pv 2) rfl))
 (pss_one (ps_stop (ps_ret (pe_lst (pa_cons (pe_op op_sub (pv 2) (C8.pe_mt0 (ok_School_load T) hr (by decide) (pv 3))) pa_nil))))))))))), ?_⟩)
  obtain ⟨h, a, s, x, n, rfl, p, gd, q⟩ := hsp
  obtain ⟨dh, h1⟩ := p.hs
  have h2 := p.sd
  have dg := DGet.k (k := .inl x) h2
  cases hpl : placeOf s x with
  | none =>
    rw [place_none hpl] at dg
    (refine Stop.go ?_; get_elem_tactic_extensible)
    (refine Stop.go ?_; get_elem_tactic_extensible)
    exact q.no p (Same.refl H) (by simp [Vbdbam.step, Vbdbam.onSchool, Vbdbam.onOffer, Vbdbam.unlessClosed, Vbdbam.no, hpl]; first | done | rfl) (by rfl)
  | some i =>
    obtain ⟨hi, hid⟩ := place_some hpl
    rw [← hid, schK_val gd.nd hi, hid] at dg
    obtain ⟨dc, h3⟩ := p.sc i hi
    (refine Stop.go ?_; get_elem_tactic_extensible)
    (refine Stop.go ?_; get_elem_tactic_extensible)
    (refine Stop.go ?_; get_elem_tactic_extensible)
    refine ifd (fun c1 => ?_) fun c1 => ?_
    · get_elem_tactic_extensible
      refine ifn (fun c2 => ?_) fun c2 => ?_
      · get_elem_tactic_extensible
        exact q.no p (Same.refl H) (by simp [Vbdbam.step, Vbdbam.onSchool, Vbdbam.onOffer, Vbdbam.unlessClosed, Vbdbam.no, hpl, in_hi (lo := 0) c2]; first | done | rfl) (by rfl)
      · have hin := in_yes (lo := 0) (hi := 20) c1 c2
        (refine Stop.go ?_; get_elem_tactic_extensible)
        cases hcl : s.closed with
        | true =>
          refine ift ?_
          get_elem_tactic_extensible
          exact q.no p (Same.refl H) (by simp [Vbdbam.step, Vbdbam.onSchool, Vbdbam.onOffer, Vbdbam.unlessClosed, Vbdbam.no, hpl, hin, hcl]; first | done | rfl) (by rfl)
        | false =>
          refine iff' ?_
          (refine Stop.go ?_; get_elem_tactic_extensible)
          refine ifd (fun c3 => ?_) fun c3 => ?_
          · get_elem_tactic_extensible
            exact q.no p (Same.refl H) (by simp [Vbdbam.step, Vbdbam.onSchool, Vbdbam.onOffer, Vbdbam.unlessClosed, Vbdbam.no, hpl, hin, hcl, show n < (Vbdbam.load s i : Nat) from c3]; first | done | rfl) (by rfl)
          · (refine Stop.go ?_; get_elem_tactic_extensible)
            rw [put_wanted]
            refine goS p gd.ms hi (fun y => { y with wanted := n.toNat }) rfl (by show n = ((n.toNat : Nat) : Int); omega) rfl rfl fun H2 p2 f2 => ?_
            have hi2 : i < (setSchool s i fun y => { y with wanted := n.toNat }).length := by rw [setSchool_len]; exact hi
            obtain ⟨dc, h3⟩ := p2.sc i hi2
            (refine Stop.go ?_; get_elem_tactic_extensible)
            have hl : ¬ n < (Vbdbam.load s i : Nat) := c3
            exact q.go ⟨p2, rfl, rfl, f2⟩ (by simp [Vbdbam.step, Vbdbam.onSchool, Vbdbam.onOffer, Vbdbam.unlessClosed, Vbdbam.no, hpl, hin, hcl, hl]; first | done | rfl) (by rw [at_set hi]; rfl)
    · get_elem_tactic_extensible
      exact q.no p (Same.refl H) (by simp [Vbdbam.step, Vbdbam.onSchool, Vbdbam.onOffer, Vbdbam.unlessClosed, Vbdbam.no, hpl, in_lo (hi := 20) c1]; first | done | rfl) (by rfl)
end EH

/-! ## EHC2 -/
namespace EH
open PySem PySem.Spec PyProof.Rows L2 EHR
local macro_rules | `(tactic| decreasing_trivial_pre_omega) => `(tactic| first
  | assumption
  | rfl
  | exact lk_here
  | exact Txt.cl_Ledger (by assumption) | exact Txt.cl_Rules (by assumption) | exact Txt.cl_School (by assumption) | exact Txt.cl_Offer (by assumption) | exact Txt.cl_House (by assumption)
  | exact Txt.na_Ledger (by assumption) _ (by decide +kernel) | exact Txt.na_Rules (by assumption) _ (by decide +kernel) | exact Txt.na_School (by assumption) _ (by decide +kernel) | exact Txt.na_Offer (by assumption) _ (by decide +kernel) | exact Txt.na_House (by assumption) _ (by decide +kernel)
  | exact (lk_past (by decide +kernel)).trans lk_here
  | exact (lk_past (by decide +kernel)).trans ((lk_past (by decide +kernel)).trans lk_here)
  | exact (lk_past (by decide +kernel)).trans ((lk_past (by decide +kernel)).trans ((lk_past (by decide +kernel)).trans lk_here))
  | exact (lk_past (by decide +kernel)).trans ((lk_past (by decide +kernel)).trans ((lk_past (by decide +kernel)).trans ((lk_past (by decide +kernel)).trans lk_here)))
  | exact (lk_past (by decide +kernel)).trans ((lk_past (by decide +kernel)).trans ((lk_past (by decide +kernel)).trans ((lk_past (by decide +kernel)).trans ((lk_past (by decide +kernel)).trans lk_here))))
  | exact (lk_past (by decide +kernel)).trans ((lk_past (by decide +kernel)).trans ((lk_past (by decide +kernel)).trans ((lk_past (by decide +kernel)).trans ((lk_past (by decide +kernel)).trans ((lk_past (by decide +kernel)).trans lk_here)))))
  | exact SqL.of (by assumption) | exact SqT.of (by assumption)
  | exact Or.inl (SqL.of (by assumption)) | exact Or.inr (SqT.of (by assumption)) | exact Or.inl (by assumption) | exact Or.inr (by assumption)
  | exact atI0 rfl | exact atI_nat (j := 1) rfl | exact atI_nat (j := 2) rfl
  | exact Or.inl ⟨rfl, _, SqL.of (by assumption)⟩
  | exact Nat.le_of_ble_eq_true rfl
  | exact Same.at1 (by assumption) (by assumption)
  | exact SqL.of (Same.at1 (by assumption) (by assumption)) | exact SqT.of (Same.at1 (by assumption) (by assumption)) | exact Or.inl (SqL.of (Same.at1 (by assumption) (by assumption))) | exact Or.inr (SqT.of (Same.at1 (by assumption) (by assumption)))
  | exact ⟨_, by assumption⟩ | exact ⟨_, rfl⟩ | trivial
  | exact dput_i (by assumption) (by assumption) | exact dput_s (by assumption) (by assumption) | exact kV_i | exact kV_s | exact isD_k (by assumption)
  | exact upd_same)
local macro_rules | `(tactic| get_elem_tactic_extensible) => `(tactic| repeat (first
  | refine And.intro (by decreasing_trivial_pre_omega) ?_
  | apply Exists.intro (α := V) | apply Exists.intro (α := Addr) | apply Exists.intro (α := List V) | apply Exists.intro (α := Int) | apply Exists.intro (α := Bool)
  | apply Exists.intro (α := List (Str × V)) | apply Exists.intro (α := Str) | apply Exists.intro (α := List (Key × V)) | apply Exists.intro (α := Option V)
  | apply Exists.intro (α := List Int) | apply Exists.intro (α := List Bool) | apply Exists.intro (α := List Str) | apply Exists.intro (α := Obj) | apply Exists.intro (α := List En) | apply Exists.intro (α := HAd) | apply Exists.intro (α := Vbdbam.State) | apply Exists.intro (α := Vbdbam.Rules) | apply Exists.intro (α := Hp) | apply Exists.intro (α := Key) | apply Exists.intro (α := Nat) | apply Exists.intro (α := Wd) | apply Exists.intro (α := Wd → List Int) | apply Exists.intro (α := Nat → Int) | apply Exists.intro (α := List Nat) | apply Exists.intro (α := List (List Nat)) | apply Exists.intro (α := List (List (List Nat)))))
local macro_rules | `(tactic| decreasing_trivial) => `(tactic| (intro vs H Q E h; repeat (first | (obtain ⟨e, _⟩ := h; subst e; rfl) | (obtain ⟨_, h⟩ := h))))

open Vbdbam (State Ans setSchool schoolAt idAt placeOf)
theorem Gd.has {s : State} (g : Gd s) {i : Nat} (hi : i < s.schools.length) : (schoolAt s i).has_ ≤ 20 := by
  have h1 := g.ld i hi
  have h2 := g.wb i hi
  unfold Vbdbam.load at h1
  omega
def sp_bring (K : PySem.W.Frag) (A : Ad) : Sp := fun vs H Q _ => ∃ (h : Addr) (a : HAd) (s : State) (x n : Int), vs = [.ref h, .int x, .int n] ∧ At K A H h a s ∧ Gd s ∧ Done K A H h a (Vbdbam.step s (.bring x n)) Q
theorem ok_bring {P : Program} {w : World} {K : PySem.W.Frag} {mg : Str → Option Value} {base : Heap} {A : Ad} (T : Txt w K mg A) : C8.Cal P w K mg base 2 "bring" (sp_bring K A) [] := by
  refine calOf T.d_bring sc_bring (by decreasing_trivial) (fun cdv Ar outer s0 H vs Q E hr hsp => ⟨_, (pss_cons (ps_stop (ps_set (i := 3) sc_bring.nd rfl (Or.inl rfl) (pe_dget1 (hu_of hr) (pe_fld (pv 0) rfl) (pv 1) ⟨rfl, rfl, rfl, rfl⟩)))
 (pss_cons (ps_stop (ps_if (pt_cmpR op_isN (pv 3) pe_non (nomark _)) (pss_one (ps_ret (pe_lst (pa_cons (pe_un un_neg (C8.pe_gc rfl T.c_NOT_THERE)) pa_nil)))) pss_nil))
 (pss_cons (ps_stop (ps_if (pt_not (pt_chain op_le op_le pe_int (pv 2) pe_int)) (pss_one (ps_ret (pe_lst (pa_cons (pe_un un_neg (C8.pe_gc rfl T.c_OUT_OF_BOUNDS)) pa_nil)))) pss_nil))
 (pss_cons (ps_stop (ps_if (pt_val (pe_fld (pv 0) rfl)) (pss_one (ps_ret (pe_lst (pa_cons (pe_un un_neg (C8.pe_gc rfl T.c_CLOSED)) pa_nil)))) pss_nil))
 (pss_cons (ps_stop (ps_fld (pv 3) (pv 2) rfl))
 (pss_one (ps_stop (ps_ret (pe_lst (pa_cons (C8.pe_mt (ok_Rules_judges_owed T) hr (by decide) (pe_fld (pv 0) rfl) (pa_cons (pe_fld (pv 3) rfl) pa_nil)) pa_nil)))))))))), ?_⟩)
  obtain ⟨h, a, s, x, n, rfl, p, gd, q⟩ := hsp
  obtain ⟨dh, h1⟩ := p.hs
  have h2 := p.sd
  have dg := DGet.k (k := .inl x) h2
  cases hpl : placeOf s x with
  | none =>
    rw [place_none hpl] at dg
    (refine Stop.go ?_; get_elem_tactic_extensible)
    (refine Stop.go ?_; get_elem_tactic_extensible)
    exact q.no p (Same.refl H) (by simp [Vbdbam.step, Vbdbam.onSchool, Vbdbam.onOffer, Vbdbam.unlessClosed, Vbdbam.no, hpl]; first | done | rfl) (by rfl)
  | some i =>
    obtain ⟨hi, hid⟩ := place_some hpl
    rw [← hid, schK_val gd.nd hi, hid] at dg
    obtain ⟨dc, h3⟩ := p.sc i hi
    (refine Stop.go ?_; get_elem_tactic_extensible)
    (refine Stop.go ?_; get_elem_tactic_extensible)
    (refine Stop.go ?_; get_elem_tactic_extensible)
    refine ifd (fun c1 => ?_) fun c1 => ?_
    · get_elem_tactic_extensible
      refine ifn (fun c2 => ?_) fun c2 => ?_
      · get_elem_tactic_extensible
        exact q.no p (Same.refl H) (by simp [Vbdbam.step, Vbdbam.onSchool, Vbdbam.onOffer, Vbdbam.unlessClosed, Vbdbam.no, hpl, in_hi (lo := 0) c2]; first | done | rfl) (by rfl)
      · have hin := in_yes (lo := 0) (hi := 99) c1 c2
        (refine Stop.go ?_; get_elem_tactic_extensible)
        cases hcl : s.closed with
        | true =>
          refine ift ?_
          get_elem_tactic_extensible
          exact q.no p (Same.refl H) (by simp [Vbdbam.step, Vbdbam.onSchool, Vbdbam.onOffer, Vbdbam.unlessClosed, Vbdbam.no, hpl, hin, hcl]; first | done | rfl) (by rfl)
        | false =>
          refine iff' ?_
          (refine Stop.go ?_; get_elem_tactic_extensible)
          rw [put_judges]
          refine goS p gd.ms hi (fun y => { y with judges := n.toNat }) rfl rfl (by show n = ((n.toNat : Nat) : Int); omega) rfl fun H2 p2 f2 => ?_
          have hi2 : i < (setSchool s i fun y => { y with judges := n.toNat }).length := by rw [setSchool_len]; exact hi
          obtain ⟨dh, h1⟩ := p2.hs
          obtain ⟨dc, h3⟩ := p2.sc i hi2
          have r1 : Rls K A H2 a.ru s.rules := ⟨_, p2.ru⟩
          obtain ⟨dr, tr, h4⟩ := r1.rcd
          have b1 := gd.ru.per.1
          have b2 : s.rules.per < 1000 := Nat.lt_of_le_of_lt gd.ru.per.2 (by decide)
          have e3 := at_set (f := fun y => { y with judges := n.toNat }) hi
          have b3 : (schoolAt { s with schools := setSchool s i fun y => { y with judges := n.toNat } } i).has_ < 1000000 := by
            rw [e3]
            exact Nat.lt_of_le_of_lt (gd.has hi) (by decide)
          (refine Stop.go ?_; get_elem_tactic_extensible)
          exact q.go ⟨p2, rfl, rfl, f2⟩ (by simp [Vbdbam.step, Vbdbam.onSchool, Vbdbam.onOffer, Vbdbam.unlessClosed, Vbdbam.no, hpl, hin, hcl]; first | done | rfl) (by rw [e3]; rfl)
    · get_elem_tactic_extensible
      exact q.no p (Same.refl H) (by simp [Vbdbam.step, Vbdbam.onSchool, Vbdbam.onOffer, Vbdbam.unlessClosed, Vbdbam.no, hpl, in_lo (hi := 99) c1]; first | done | rfl) (by rfl)
def sp_tell_school (K : PySem.W.Frag) (A : Ad) : Sp := fun vs H Q _ => ∃ (h : Addr) (a : HAd) (s : State) (x : Int), vs = [.ref h, .int x] ∧ At K A H h a s ∧ Gd s ∧ Done K A H h a (Vbdbam.step s (.school x)) Q
theorem ok_tell_school {P : Program} {w : World} {K : PySem.W.Frag} {mg : Str → Option Value} {base : Heap} {A : Ad} (T : Txt w K mg A) : C8.Cal P w K mg base 2 "tell_school" (sp_tell_school K A) [] := by
  refine calOf T.d_tell_school sc_tell_school (by decreasing_trivial) (fun cdv Ar outer s0 H vs Q E hr hsp => ⟨_, (pss_cons (ps_stop (ps_set (i := 2) sc_tell_school.nd rfl (Or.inl rfl) (pe_dget1 (hu_of hr) (pe_fld (pv 0) rfl) (pv 1) ⟨rfl, rfl, rfl, rfl⟩)))
 (pss_cons (ps_stop (ps_if (pt_cmpR op_isN (pv 2) pe_non (nomark _)) (pss_one (ps_ret (pe_lst (pa_cons (pe_un un_neg (C8.pe_gc rfl T.c_NOT_THERE)) pa_nil)))) pss_nil))
 (pss_one (ps_stop (ps_ret (pe_lst (pa_cons (pe_fld (pv 2) rfl) (pa_cons (pe_fld (pv 2) rfl) (pa_cons (pe_fld (pv 2) rfl) (pa_cons (pe_fld (pv 2) rfl) (pa_cons (C8.pe_mt (ok_Rules_judges_owed T) hr (by decide) (pe_fld (pv 0) rfl) (pa_cons (pe_fld (pv 2) rfl) pa_nil)) pa_nil))))))))))), ?_⟩)
  obtain ⟨h, a, s, x, rfl, p, gd, q⟩ := hsp
  obtain ⟨dh, h1⟩ := p.hs
  have h2 := p.sd
  have dg := DGet.k (k := .inl x) h2
  cases hpl : placeOf s x with
  | none =>
    rw [place_none hpl] at dg
    (refine Stop.go ?_; get_elem_tactic_extensible)
    (refine Stop.go ?_; get_elem_tactic_extensible)
    exact q.no p (Same.refl H) (by simp [Vbdbam.step, Vbdbam.onSchool, Vbdbam.onOffer, Vbdbam.unlessClosed, Vbdbam.no, hpl]; first | done | rfl) (by rfl)
  | some i =>
    obtain ⟨hi, hid⟩ := place_some hpl
    rw [← hid, schK_val gd.nd hi, hid] at dg
    obtain ⟨dc, h3⟩ := p.sc i hi
    have r1 : Rls K A H a.ru s.rules := ⟨_, p.ru⟩
    obtain ⟨dr, tr, h4⟩ := r1.rcd
    have b1 := gd.ru.per.1
    have b2 : s.rules.per < 1000 := Nat.lt_of_le_of_lt gd.ru.per.2 (by decide)
    have b3 : (schoolAt s i).has_ < 1000000 := Nat.lt_of_le_of_lt (gd.has hi) (by decide)
    (refine Stop.go ?_; get_elem_tactic_extensible)
    (refine Stop.go ?_; get_elem_tactic_extensible)
    (refine Stop.go ?_; get_elem_tactic_extensible)
    exact q.no p (Same.refl H) (by simp [Vbdbam.step, Vbdbam.onSchool, Vbdbam.onOffer, Vbdbam.unlessClosed, Vbdbam.no, hpl]; first | done | rfl) (by rfl)
def sp_accept (K : PySem.W.Frag) (A : Ad) : Sp := fun vs H Q _ => ∃ (h : Addr) (a : HAd) (s : State) (x : Int), vs = [.ref h, .int x] ∧ At K A H h a s ∧ Gd s ∧ Done K A H h a (Vbdbam.step s (.accept x)) Q
theorem ok_accept {P : Program} {w : World} {K : PySem.W.Frag} {mg : Str → Option Value} {base : Heap} {A : Ad} (T : Txt w K mg A) : C8.Cal P w K mg base 3 "accept" (sp_accept K A) [] := by
  refine calOf T.d_accept sc_accept (by decreasing_trivial) (fun cdv Ar outer s0 H vs Q E hr hsp => ⟨_, (pss_cons (ps_stop (ps_set (i := 2) sc_accept.nd rfl (Or.inl rfl) (pe_dget1 (hu_of hr) (pe_fld (pv 0) rfl) (pv 1) ⟨rfl, rfl, rfl, rfl⟩)))
 (pss_cons (ps_stop (ps_if (pt_cmpR op_isN (pv 2) pe_non (nomark _)) (pss_one (ps_ret (pe_lst (pa_cons (pe_un un_neg (C8.pe_gc rfl T.c_NOT_THERE)) pa_nil)))) pss_nil))
 (pss_cons (ps_stop (ps_if (pt_val (pe_fld (pv 0) rfl)) (pss_one (ps_ret (pe_lst (pa_cons (pe_un un_neg (C8.pe_gc rfl T.c_CLOSED)) pa_nil)))) pss_nil))
 (pss_cons (ps_stop (ps_if (pt_not (pt_val (C8.pe_mt (ok_Ledger_has_room T) hr (by decide) (pe_fld (pv 0) rfl) (pa_cons pe_int pa_nil)))) (pss_one (ps_ret (pe_lst (pa_cons (pe_un un_neg (C8.pe_gc rfl T.c_NO_ROOM)) pa_nil)))) pss_nil))
 (pss_cons (ps_stop (ps_expr (C8.pe_mt (ok_House_end_offer T) hr (by decide) (pv 0) (pa_cons (pv 2) pa_nil))))
 (pss_cons (ps_stop (ps_expr (C8.pe_mt (ok_House_take_place T) hr (by decide) (pv 0) (pa_cons (pe_fld (pv 2) rfl) pa_nil))))
 (pss_one (ps_stop (ps_ret (pe_lst (pa_cons (pe_fld (pe_fld (pv 2) rfl) rfl) (pa_cons (pe_fld (pe_fld (pv 2) rfl) rfl) pa_nil)))))))))))), ?_⟩)
  obtain ⟨h, a, s, x, rfl, p, gd, q⟩ := hsp
  obtain ⟨dh, h1⟩ := p.hs
  have h2 := p.od
  have dg := DGet.k (k := .inl x) h2
  cases hpl : s.offers.find? fun y => (y.number : Int) == x with
  | none =>
    rw [offer_none hpl] at dg
    (refine Stop.go ?_; get_elem_tactic_extensible)
    (refine Stop.go ?_; get_elem_tactic_extensible)
    exact q.no p (Same.refl H) (by simp [Vbdbam.step, Vbdbam.onSchool, Vbdbam.onOffer, Vbdbam.unlessClosed, Vbdbam.no, hpl]; first | done | rfl) (by rfl)
  | some o =>
    obtain ⟨ho, hid⟩ := offer_some hpl
    rw [← hid, offK_some ho, hid] at dg
    obtain ⟨dof, h3⟩ := p.of o ho
    obtain ⟨dl, h4⟩ := p.lg
    obtain ⟨es, h5, h6⟩ := p.le
    have elen : es.length = s.money.length := by rw [h6.len]; simp [ents]
    (refine Stop.go ?_; get_elem_tactic_extensible)
    (refine Stop.go ?_; get_elem_tactic_extensible)
    (refine Stop.go ?_; get_elem_tactic_extensible)
    cases hcl : s.closed with
    | true =>
      refine ift ?_
      get_elem_tactic_extensible
      exact q.no p (Same.refl H) (by simp [Vbdbam.step, Vbdbam.onSchool, Vbdbam.onOffer, Vbdbam.unlessClosed, Vbdbam.no, hpl, hcl]; first | done | rfl) (by rfl)
    | false =>
      refine iff' ?_
      (refine Stop.go ?_; get_elem_tactic_extensible)
      refine ifn (fun c1 => ?_) fun c1 => ?_
      · get_elem_tactic_extensible
        have hm : Vbdbam.MOSTMONEY ≤ s.money.length := by unfold Vbdbam.MOSTMONEY; omega
        exact q.no p (Same.refl H) (by simp [Vbdbam.step, Vbdbam.onSchool, Vbdbam.onOffer, Vbdbam.unlessClosed, Vbdbam.no, hpl, hcl, hm]; first | done | rfl) (by rfl)
      · have hm : ¬ Vbdbam.MOSTMONEY ≤ s.money.length := by unfold Vbdbam.MOSTMONEY; omega
        have os := gd.os o ho
        have od := gd.od
        have ms := gd.ms
        (refine Stop.go ?_; get_elem_tactic_extensible)
        refine ⟨o, rfl, p, rfl, ho, os, od, ms, fun H1 a1 n1 e1 => ?_⟩
        subst e1
        have h3 := n1.frm _ _ h3 rfl (ne_shp h3 h5 rfl)
        have p1 := n1.at'
        obtain ⟨dh, h1⟩ := p1.hs
        have os : o.school < (endOffer s o).schools.length := os
        have ms : ∀ e, e ∈ (endOffer s o).money → e.school < (endOffer s o).schools.length := ms
        have ml : (endOffer s o).money.length < 1000 := Nat.lt_of_le_of_lt gd.mm (by decide)
        (refine Stop.go ?_; get_elem_tactic_extensible)
        intro H2 a2 n2 e2
        subst e2
        have h3 := n2.frm _ _ h3 rfl (by obtain ⟨es, g, _⟩ := p1.le; exact ne_shp h3 g rfl)
        have p2 := n2.at'
        have os2 : o.school < (takePlace (endOffer s o) o.school).schools.length := by rw [take_len]; exact os
        obtain ⟨dc, h4⟩ := p2.sc _ os2
        have e3 : schoolAt (takePlace (endOffer s o) o.school) o.school = { schoolAt s o.school with has_ := (schoolAt s o.school).has_ + 1 } := at_set (s := endOffer s o) (f := fun y => { y with has_ := y.has_ + 1 }) os
        have e4 : idAt (takePlace (endOffer s o) o.school) o.school = idAt s o.school := by
          unfold idAt
          rw [e3]
        (refine Stop.go ?_; get_elem_tactic_extensible)
        have hr : Vbdbam.step s (.accept x) = (takePlace (endOffer s o) o.school, ⟨((schoolAt s o.school).has_ + 1 : Nat), [Vbdbam.ints [idAt s o.school]]⟩) := by
          simp only [Vbdbam.step, Vbdbam.onOffer, hpl, unless_open hcl, if_neg hm]
          rfl
        exact q.go (n1.trans n2) hr (by rw [e3, e4]; rfl)
def sp_decline (K : PySem.W.Frag) (A : Ad) : Sp := fun vs H Q _ => ∃ (h : Addr) (a : HAd) (s : State) (x : Int), vs = [.ref h, .int x] ∧ At K A H h a s ∧ Gd s ∧ Done K A H h a (Vbdbam.step s (.decline x)) Q
theorem ok_decline {P : Program} {w : World} {K : PySem.W.Frag} {mg : Str → Option Value} {base : Heap} {A : Ad} (T : Txt w K mg A) : C8.Cal P w K mg base 3 "decline" (sp_decline K A) [] := by
  refine calOf T.d_decline sc_decline (by decreasing_trivial) (fun cdv Ar outer s0 H vs Q E hr hsp => ⟨_, (pss_cons (ps_stop (ps_set (i := 2) sc_decline.nd rfl (Or.inl rfl) (pe_dget1 (hu_of hr) (pe_fld (pv 0) rfl) (pv 1) ⟨rfl, rfl, rfl, rfl⟩)))
 (pss_cons (ps_stop (ps_if (pt_cmpR op_isN (pv 2) pe_non (nomark _)) (pss_one (ps_ret (pe_lst (pa_cons (pe_un un_neg (C8.pe_gc rfl T.c_NOT_THERE)) pa_nil)))) pss_nil))
 (pss_cons (ps_stop (ps_if (pt_val (pe_fld (pv 0) rfl)) (pss_one (ps_ret (pe_lst (pa_cons (pe_un un_neg (C8.pe_gc rfl T.c_CLOSED)) pa_nil)))) pss_nil))
 (pss_cons (ps_stop (ps_expr (C8.pe_mt (ok_House_lose_offer T) hr (by decide) (pv 0) (pa_cons (pv 2) pa_nil))))
 (pss_one (ps_stop (ps_ret (pe_lst (pa_cons (pe_fld (pe_fld (pv 2) rfl) rfl) (pa_cons (pe_fld (pe_fld (pv 2) rfl) rfl) pa_nil)))))))))), ?_⟩)
  obtain ⟨h, a, s, x, rfl, p, gd, q⟩ := hsp
  obtain ⟨dh, h1⟩ := p.hs
  have h2 := p.od
  have dg := DGet.k (k := .inl x) h2
  cases hpl : s.offers.find? fun y => (y.number : Int) == x with
  | none =>
    rw [offer_none hpl] at dg
    (refine Stop.go ?_; get_elem_tactic_extensible)
    (refine Stop.go ?_; get_elem_tactic_extensible)
    exact q.no p (Same.refl H) (by simp [Vbdbam.step, Vbdbam.onSchool, Vbdbam.onOffer, Vbdbam.unlessClosed, Vbdbam.no, hpl]; first | done | rfl) (by rfl)
  | some o =>
    obtain ⟨ho, hid⟩ := offer_some hpl
    rw [← hid, offK_some ho, hid] at dg
    obtain ⟨dof, h3⟩ := p.of o ho
    obtain ⟨es, h5, h6⟩ := p.le
    (refine Stop.go ?_; get_elem_tactic_extensible)
    (refine Stop.go ?_; get_elem_tactic_extensible)
    (refine Stop.go ?_; get_elem_tactic_extensible)
    cases hcl : s.closed with
    | true =>
      refine ift ?_
      get_elem_tactic_extensible
      exact q.no p (Same.refl H) (by simp [Vbdbam.step, Vbdbam.onSchool, Vbdbam.onOffer, Vbdbam.unlessClosed, Vbdbam.no, hpl, hcl]; first | done | rfl) (by rfl)
    | false =>
      refine iff' ?_
      have os := gd.os o ho
      have od := gd.od
      have ms := gd.ms
      have wp := gd.wanted_pos ho
      (refine Stop.go ?_; get_elem_tactic_extensible)
      refine ⟨o, rfl, p, rfl, ho, os, od, ms, wp, fun H1 a1 n1 e1 => ?_⟩
      subst e1
      have h3 := n1.frm _ _ h3 rfl (ne_shp h3 h5 rfl)
      have p1 := n1.at'
      have os2 : o.school < (Vbdbam.gone s o).schools.length := by rw [gone_len]; exact os
      obtain ⟨dc, h4⟩ := p1.sc _ os2
      have e3 : schoolAt (Vbdbam.gone s o) o.school = { schoolAt s o.school with wanted := (schoolAt s o.school).wanted - 1 } := by rw [at_gone os, if_pos rfl]
      have e4 : idAt (Vbdbam.gone s o) o.school = idAt s o.school := by
        unfold idAt
        rw [e3]
      (refine Stop.go ?_; get_elem_tactic_extensible)
      have hr : Vbdbam.step s (.decline x) = (Vbdbam.gone s o, ⟨((schoolAt s o.school).wanted - 1 : Nat), [Vbdbam.ints [idAt s o.school]]⟩) := by
        simp only [Vbdbam.step, Vbdbam.onOffer, hpl, unless_open hcl]
      exact q.go n1 hr (by rw [e3, e4]; rfl)
def sp_drop (K : PySem.W.Frag) (A : Ad) : Sp := fun vs H Q _ => ∃ (h : Addr) (a : HAd) (s : State) (x n : Int), vs = [.ref h, .int x, .int n] ∧ At K A H h a s ∧ Gd s ∧ Done K A H h a (Vbdbam.step s (.drop x n)) Q
theorem ok_drop {P : Program} {w : World} {K : PySem.W.Frag} {mg : Str → Option Value} {base : Heap} {A : Ad} (T : Txt w K mg A) : C8.Cal P w K mg base 3 "drop" (sp_drop K A) [] := by
  refine calOf T.d_drop sc_drop (by decreasing_trivial) (fun cdv Ar outer s0 H vs Q E hr hsp => ⟨_, (pss_cons (ps_stop (ps_set (i := 3) sc_drop.nd rfl (Or.inl rfl) (pe_dget1 (hu_of hr) (pe_fld (pv 0) rfl) (pv 1) ⟨rfl, rfl, rfl, rfl⟩)))
 (pss_cons (ps_stop (ps_if (pt_cmpR op_isN (pv 3) pe_non (nomark _)) (pss_one (ps_ret (pe_lst (pa_cons (pe_un un_neg (C8.pe_gc rfl T.c_NOT_THERE)) pa_nil)))) pss_nil))
 (pss_cons (ps_stop (ps_if (pt_not (pt_chain op_le op_le pe_int (pv 2) pe_int)) (pss_one (ps_ret (pe_lst (pa_cons (pe_un un_neg (C8.pe_gc rfl T.c_OUT_OF_BOUNDS)) pa_nil)))) pss_nil))
 (pss_cons (ps_stop (ps_if (pt_val (pe_fld (pv 0) rfl)) (pss_one (ps_ret (pe_lst (pa_cons (pe_un un_neg (C8.pe_gc rfl T.c_CLOSED)) pa_nil)))) pss_nil))
 (pss_cons (ps_stop (ps_if (pt_cmpR op_lt (pe_fld (pv 3) rfl) (pv 2) (nomark _)) (pss_one (ps_ret (pe_lst (pa_cons (pe_un un_neg (C8.pe_gc rfl T.c_NOT_ENOUGH)) pa_nil)))) pss_nil))
 (pss_cons (ps_stop (ps_if (pt_not (pt_val (C8.pe_mt (ok_Ledger_has_room T) hr (by decide) (pe_fld (pv 0) rfl) (pa_cons pe_int pa_nil)))) (pss_one (ps_ret (pe_lst (pa_cons (pe_un un_neg (C8.pe_gc rfl T.c_NO_ROOM)) pa_nil)))) pss_nil))
 (pss_cons (ps_stop (ps_set (i := 4) sc_drop.nd rfl (Or.inl rfl) (C8.pe_mt (ok_Rules_percent T) hr (by decide) (pe_fld (pv 0) rfl) (pa_cons (pe_fld (pv 0) rfl) pa_nil))))
 (pss_cons (ps_stop (ps_set (i := 5) sc_drop.nd rfl (Or.inl rfl) (pe_op op_mul (pv 2) (pe_op op_fdiv (pe_op op_mul (C8.pe_mt (ok_Rules_one T) hr (by decide) (pe_fld (pv 0) rfl) (pa_cons pe_str pa_nil)) (pv 4)) pe_int))))
 (pss_cons (ps_stop (ps_expr (C8.pe_mt (ok_House_give_up_places T) hr (by decide) (pv 0) (pa_cons (pv 3) (pa_cons (pv 2) (pa_cons (pv 5) pa_nil))))))
 (pss_one (ps_stop (ps_ret (pe_lst (pa_cons (pv 5) (pa_cons (pv 4) pa_nil))))))))))))))), ?_⟩)
  obtain ⟨h, a, s, x, n, rfl, p, gd, q⟩ := hsp
  obtain ⟨dh, h1⟩ := p.hs
  have h2 := p.sd
  have dg := DGet.k (k := .inl x) h2
  cases hpl : placeOf s x with
  | none =>
    rw [place_none hpl] at dg
    (refine Stop.go ?_; get_elem_tactic_extensible)
    (refine Stop.go ?_; get_elem_tactic_extensible)
    exact q.no p (Same.refl H) (by simp [Vbdbam.step, Vbdbam.onSchool, Vbdbam.onOffer, Vbdbam.unlessClosed, Vbdbam.no, hpl]; first | done | rfl) (by rfl)
  | some i =>
    obtain ⟨hi, hid⟩ := place_some hpl
    rw [← hid, schK_val gd.nd hi, hid] at dg
    obtain ⟨dc, h3⟩ := p.sc i hi
    obtain ⟨dl, h4⟩ := p.lg
    obtain ⟨es, h5, h6⟩ := p.le
    have elen : es.length = s.money.length := by rw [h6.len]; simp [ents]
    have r1 : Rls K A H a.ru s.rules := ⟨_, p.ru⟩
    have o1 : One K A H a.ru "fee" (s.rules.fee : Nat) := p.ru.one .fee rfl
    obtain ⟨dr, tr, h7⟩ := r1.rcd
    have bl : s.rules.back.length ≤ 1000 := Nat.le_trans gd.ru.back (by decide)
    (refine Stop.go ?_; get_elem_tactic_extensible)
    (refine Stop.go ?_; get_elem_tactic_extensible)
    (refine Stop.go ?_; get_elem_tactic_extensible)
    refine ifd (fun c1 => ?_) fun c1 => ?_
    · get_elem_tactic_extensible
      refine ifn (fun c2 => ?_) fun c2 => ?_
      · get_elem_tactic_extensible
        exact q.no p (Same.refl H) (by simp [Vbdbam.step, Vbdbam.onSchool, Vbdbam.onOffer, Vbdbam.unlessClosed, Vbdbam.no, hpl, in_hi (lo := 1) c2]; first | done | rfl) (by rfl)
      · have hin := in_yes (lo := 1) (hi := 60) c1 c2
        (refine Stop.go ?_; get_elem_tactic_extensible)
        cases hcl : s.closed with
        | true =>
          refine ift ?_
          get_elem_tactic_extensible
          exact q.no p (Same.refl H) (by simp [Vbdbam.step, Vbdbam.onSchool, Vbdbam.onOffer, Vbdbam.unlessClosed, Vbdbam.no, hpl, hin, hcl]; first | done | rfl) (by rfl)
        | false =>
          refine iff' ?_
          (refine Stop.go ?_; get_elem_tactic_extensible)
          refine ifd (fun c3 => ?_) fun c3 => ?_
          · get_elem_tactic_extensible
            exact q.no p (Same.refl H) (by simp [Vbdbam.step, Vbdbam.onSchool, Vbdbam.onOffer, Vbdbam.unlessClosed, Vbdbam.no, hpl, hin, hcl, c3]; first | done | rfl) (by rfl)
          · (refine Stop.go ?_; get_elem_tactic_extensible)
            refine ifn (fun c4 => ?_) fun c4 => ?_
            · get_elem_tactic_extensible
              have hm : Vbdbam.MOSTMONEY ≤ s.money.length := by unfold Vbdbam.MOSTMONEY; omega
              exact q.no p (Same.refl H) (by simp [Vbdbam.step, Vbdbam.onSchool, Vbdbam.onOffer, Vbdbam.unlessClosed, Vbdbam.no, hpl, hin, hcl, c3, hm]; first | done | rfl) (by rfl)
            · have hm : ¬ Vbdbam.MOSTMONEY ≤ s.money.length := by unfold Vbdbam.MOSTMONEY; omega
              obtain ⟨k, rfl⟩ : ∃ k : Nat, n = (k : Int) := ⟨n.toNat, by omega⟩
              have fb := gd.ru.fee
              have m1 : CMul ((s.rules.fee : Nat) : Int) ((Vbdbam.percent s.rules s.day : Nat) : Int) := .inl ⟨by omega, by omega⟩
              have m2 : CMul ((k : Nat) : Int) (((s.rules.fee : Nat) : Int) * ((Vbdbam.percent s.rules s.day : Nat) : Int) / 100) := .inl ⟨by omega, by omega⟩
              have m3 : CDiv (((s.rules.fee : Nat) : Int) * ((Vbdbam.percent s.rules s.day : Nat) : Int)) 100 := ⟨by decide, by decide⟩
              have hg : ((k : Nat) : Int) * (((s.rules.fee : Nat) : Int) * ((Vbdbam.percent s.rules s.day : Nat) : Int) / 100) = ((k * (s.rules.fee * Vbdbam.percent s.rules s.day / 100) : Nat) : Int) := by
                rw [Int.natCast_mul, Int.natCast_ediv, Int.natCast_mul]
                rfl
              have n1 : k ≤ (schoolAt s i).has_ := by omega
              have n2 : k ≤ (schoolAt s i).wanted := by
                have := gd.ld i hi
                unfold Vbdbam.load at this
                omega
              have ms := gd.ms
              have ml : s.money.length < 1000 := Nat.lt_of_le_of_lt gd.mm (by decide)
              (refine Stop.go ?_; get_elem_tactic_extensible)
              (refine Stop.go ?_; get_elem_tactic_extensible)
              dsimp only
              rw [hg]
              generalize hgg : k * (s.rules.fee * Vbdbam.percent s.rules s.day / 100) = g
              refine Stop.go ?_
              get_elem_tactic_extensible
              refine fun H1 a1 n3 e1 => ?_
              subst e1
              (refine Stop.go ?_; get_elem_tactic_extensible)
              have hr : Vbdbam.step s (.drop x (k : Int)) = (givePlaces s i k g, ⟨(g : Nat), [Vbdbam.ints [Vbdbam.percent s.rules s.day]]⟩) := by
                have c3 : ¬ (((schoolAt s i).has_ : Nat) : Int) < (k : Int) := c3
                simp only [Vbdbam.step, Vbdbam.onSchool, hpl, hin, unless_open hcl, if_neg hm, if_neg c3, Int.toNat_natCast, hgg]
                rfl
              exact q.go n3 hr (by rfl)
    · get_elem_tactic_extensible
      exact q.no p (Same.refl H) (by simp [Vbdbam.step, Vbdbam.onSchool, Vbdbam.onOffer, Vbdbam.unlessClosed, Vbdbam.no, hpl, in_lo (hi := 60) c1]; first | done | rfl) (by rfl)
end EH

/-! ## EHC3 -/
namespace EH
open PySem PySem.Spec PyProof.Rows L2 EHR
local macro_rules | `(tactic| decreasing_trivial_pre_omega) => `(tactic| first
  | assumption
  | rfl
  | exact lk_here
  | exact Txt.cl_Ledger (by assumption) | exact Txt.cl_Rules (by assumption) | exact Txt.cl_School (by assumption) | exact Txt.cl_Offer (by assumption) | exact Txt.cl_House (by assumption)
  | exact Txt.na_Ledger (by assumption) _ (by decide +kernel) | exact Txt.na_Rules (by assumption) _ (by decide +kernel) | exact Txt.na_School (by assumption) _ (by decide +kernel) | exact Txt.na_Offer (by assumption) _ (by decide +kernel) | exact Txt.na_House (by assumption) _ (by decide +kernel)
  | exact (lk_past (by decide +kernel)).trans lk_here
  | exact (lk_past (by decide +kernel)).trans ((lk_past (by decide +kernel)).trans lk_here)
  | exact (lk_past (by decide +kernel)).trans ((lk_past (by decide +kernel)).trans ((lk_past (by decide +kernel)).trans lk_here))
  | exact (lk_past (by decide +kernel)).trans ((lk_past (by decide +kernel)).trans ((lk_past (by decide +kernel)).trans ((lk_past (by decide +kernel)).trans lk_here)))
  | exact (lk_past (by decide +kernel)).trans ((lk_past (by decide +kernel)).trans ((lk_past (by decide +kernel)).trans ((lk_past (by decide +kernel)).trans ((lk_past (by decide +kernel)).trans lk_here))))
  | exact (lk_past (by decide +kernel)).trans ((lk_past (by decide +kernel)).trans ((lk_past (by decide +kernel)).trans ((lk_past (by decide +kernel)).trans ((lk_past (by decide +kernel)).trans ((lk_past (by decide +kernel)).trans lk_here)))))
  | exact SqL.of (by assumption) | exact SqT.of (by assumption)
  | exact Or.inl (SqL.of (by assumption)) | exact Or.inr (SqT.of (by assumption)) | exact Or.inl (by assumption) | exact Or.inr (by assumption)
  | exact atI0 rfl | exact atI_nat (j := 1) rfl | exact atI_nat (j := 2) rfl
  | exact Or.inl ⟨rfl, _, SqL.of (by assumption)⟩
  | exact Nat.le_of_ble_eq_true rfl
  | exact Same.at1 (by assumption) (by assumption)
  | exact SqL.of (Same.at1 (by assumption) (by assumption)) | exact SqT.of (Same.at1 (by assumption) (by assumption)) | exact Or.inl (SqL.of (Same.at1 (by assumption) (by assumption))) | exact Or.inr (SqT.of (Same.at1 (by assumption) (by assumption)))
  | exact ⟨_, by assumption⟩ | exact ⟨_, rfl⟩ | trivial
  | exact dput_i (by assumption) (by assumption) | exact dput_s (by assumption) (by assumption) | exact kV_i | exact kV_s | exact isD_k (by assumption)
  | exact upd_same)
local macro_rules | `(tactic| get_elem_tactic_extensible) => `(tactic| repeat (first
  | refine And.intro (by decreasing_trivial_pre_omega) ?_
  | apply Exists.intro (α := V) | apply Exists.intro (α := Addr) | apply Exists.intro (α := List V) | apply Exists.intro (α := Int) | apply Exists.intro (α := Bool)
  | apply Exists.intro (α := List (Str × V)) | apply Exists.intro (α := Str) | apply Exists.intro (α := List (Key × V)) | apply Exists.intro (α := Option V)
  | apply Exists.intro (α := List Int) | apply Exists.intro (α := List Bool) | apply Exists.intro (α := List Str) | apply Exists.intro (α := Obj) | apply Exists.intro (α := List En) | apply Exists.intro (α := HAd) | apply Exists.intro (α := Vbdbam.State) | apply Exists.intro (α := Vbdbam.Rules) | apply Exists.intro (α := Hp) | apply Exists.intro (α := Key) | apply Exists.intro (α := Nat) | apply Exists.intro (α := Wd) | apply Exists.intro (α := Wd → List Int) | apply Exists.intro (α := Nat → Int) | apply Exists.intro (α := List Nat) | apply Exists.intro (α := List (List Nat)) | apply Exists.intro (α := List (List (List Nat)))))
local macro_rules | `(tactic| decreasing_trivial) => `(tactic| (intro vs H Q E h; repeat (first | (obtain ⟨e, _⟩ := h; subst e; rfl) | (obtain ⟨_, h⟩ := h))))

open Vbdbam (State Ans setSchool schoolAt idAt placeOf)
def sp_pay (K : PySem.W.Frag) (A : Ad) : Sp := fun vs H Q _ => ∃ (h : Addr) (a : HAd) (s : State) (x n : Int), vs = [.ref h, .int x, .int n] ∧ At K A H h a s ∧ Gd s ∧ Done K A H h a (Vbdbam.step s (.pay x n)) Q
theorem ok_pay {P : Program} {w : World} {K : PySem.W.Frag} {mg : Str → Option Value} {base : Heap} {A : Ad} (T : Txt w K mg A) : C8.Cal P w K mg base 3 "pay" (sp_pay K A) [] := by
  refine calOf T.d_pay sc_pay (by decreasing_trivial) (fun cdv Ar outer s0 H vs Q E hr hsp => ⟨_, (pss_cons (ps_stop (ps_set (i := 3) sc_pay.nd rfl (Or.inl rfl) (pe_dget1 (hu_of hr) (pe_fld (pv 0) rfl) (pv 1) ⟨rfl, rfl, rfl, rfl⟩)))
 (pss_cons (ps_stop (ps_if (pt_cmpR op_isN (pv 3) pe_non (nomark _)) (pss_one (ps_ret (pe_lst (pa_cons (pe_un un_neg (C8.pe_gc rfl T.c_NOT_THERE)) pa_nil)))) pss_nil))
 (pss_cons (ps_stop (ps_if (pt_not (pt_chain op_le op_le pe_int (pv 2) (C8.pe_gc rfl T.c_MOST_PAID))) (pss_one (ps_ret (pe_lst (pa_cons (pe_un un_neg (C8.pe_gc rfl T.c_OUT_OF_BOUNDS)) pa_nil)))) pss_nil))
 (pss_cons (ps_stop (ps_if (pt_not (pt_val (C8.pe_mt (ok_Ledger_has_room T) hr (by decide) (pe_fld (pv 0) rfl) (pa_cons pe_int pa_nil)))) (pss_one (ps_ret (pe_lst (pa_cons (pe_un un_neg (C8.pe_gc rfl T.c_NO_ROOM)) pa_nil)))) pss_nil))
 (pss_cons (ps_stop (ps_expr (C8.pe_mt (ok_Ledger_write T) hr (by decide) (pe_fld (pv 0) rfl) (pa_cons (pv 3) (pa_cons (C8.pe_gc rfl T.c_PAID) (pa_cons (pv 2) pa_nil))))))
 (pss_one (ps_stop (ps_ret (pe_lst (pa_cons (C8.pe_mt (ok_Ledger_account_of T) hr (by decide) (pe_fld (pv 0) rfl) (pa_cons (pv 3) pa_nil)) pa_nil)))))))))), ?_⟩)
  obtain ⟨h, a, s, x, n, rfl, p, gd, q⟩ := hsp
  obtain ⟨dh, h1⟩ := p.hs
  have h2 := p.sd
  have dg := DGet.k (k := .inl x) h2
  cases hpl : placeOf s x with
  | none =>
    rw [place_none hpl] at dg
    (refine Stop.go ?_; get_elem_tactic_extensible)
    (refine Stop.go ?_; get_elem_tactic_extensible)
    exact q.no p (Same.refl H) (by simp [Vbdbam.step, Vbdbam.onSchool, Vbdbam.onOffer, Vbdbam.unlessClosed, Vbdbam.no, hpl]; first | done | rfl) (by rfl)
  | some i =>
    obtain ⟨hi, hid⟩ := place_some hpl
    rw [← hid, schK_val gd.nd hi, hid] at dg
    obtain ⟨dc, h3⟩ := p.sc i hi
    obtain ⟨dl, h4⟩ := p.lg
    obtain ⟨es, h5, h6⟩ := p.le
    have elen : es.length = s.money.length := by rw [h6.len]; simp [ents]
    have mm := gd.mm
    have elt : es.length < 1000000 := by omega
    (refine Stop.go ?_; get_elem_tactic_extensible)
    (refine Stop.go ?_; get_elem_tactic_extensible)
    (refine Stop.go ?_; get_elem_tactic_extensible)
    refine ifd (fun c1 => ?_) fun c1 => ?_
    · get_elem_tactic_extensible
      refine ifn (fun c2 => ?_) fun c2 => ?_
      · get_elem_tactic_extensible
        exact q.no p (Same.refl H) (by simp [Vbdbam.step, Vbdbam.onSchool, Vbdbam.onOffer, Vbdbam.unlessClosed, Vbdbam.no, hpl, in_hi (lo := 1) c2]; first | done | rfl) (by rfl)
      · have hin := in_yes (lo := 1) (hi := 1000000) c1 c2
        (refine Stop.go ?_; get_elem_tactic_extensible)
        refine ifn (fun c4 => ?_) fun c4 => ?_
        · get_elem_tactic_extensible
          have hm : Vbdbam.MOSTMONEY ≤ s.money.length := by unfold Vbdbam.MOSTMONEY; omega
          exact q.no p (Same.refl H) (by simp [Vbdbam.step, Vbdbam.onSchool, Vbdbam.onOffer, Vbdbam.unlessClosed, Vbdbam.no, hpl, hin, hm]; first | done | rfl) (by rfl)
        · have hm : ¬ Vbdbam.MOSTMONEY ≤ s.money.length := by unfold Vbdbam.MOSTMONEY; omega
          (refine Stop.go ?_; get_elem_tactic_extensible)
          intro t ht
          refine goE p h5 ⟨i, 0, n.toNat⟩ rfl rfl (by show n = ((n.toNat : Nat) : Int); omega) ht fun H1 p1 f1 => ?_
          obtain ⟨dh, h1⟩ := p1.hs
          obtain ⟨dc, h3⟩ := p1.sc i hi
          obtain ⟨dl, h4⟩ := p1.lg
          obtain ⟨es1, h5, h6⟩ := p1.le
          have h7 : SqL K H1 a.le es1 := SqL.of h5
          have ml : (ents { s with money := s.money ++ [⟨i, 0, n.toNat⟩] }).length ≤ 1000000 := by simp [ents]; omega
          (refine Stop.go ?_; get_elem_tactic_extensible)
          intro H2 s2
          get_elem_tactic_extensible
          have hr : Vbdbam.step s (.pay x n) = ({ s with money := s.money ++ [⟨i, 0, n.toNat⟩] }, ⟨Vbdbam.balance { s with money := s.money ++ [⟨i, 0, n.toNat⟩] } i, []⟩) := by
            simp only [Vbdbam.step, Vbdbam.onSchool, hpl, hin, if_neg hm]
            rfl
          have hb := bal_of (s := { s with money := s.money ++ [⟨i, 0, n.toNat⟩] }) gd.nd (fun e he => by
            rcases List.mem_append.mp he with c | c
            · exact gd.ms e c
            · rw [List.mem_singleton.mp c]; exact hi) (fun e he => by
            rcases List.mem_append.mp he with c | c
            · exact gd.kd e c
            · rw [List.mem_singleton.mp c]; exact Nat.zero_le _) hi
          exact q.go ⟨p1.same s2, rfl, rfl, f1.trans (.of_same s2)⟩ hr (by rw [hb]; rfl)
    · get_elem_tactic_extensible
      exact q.no p (Same.refl H) (by simp [Vbdbam.step, Vbdbam.onSchool, Vbdbam.onOffer, Vbdbam.unlessClosed, Vbdbam.no, hpl, in_lo (hi := 1000000) c1]; first | done | rfl) (by rfl)
def sp_payout (K : PySem.W.Frag) (A : Ad) : Sp := fun vs H Q _ => ∃ (h : Addr) (a : HAd) (s : State) (x : Int), vs = [.ref h, .int x] ∧ At K A H h a s ∧ Gd s ∧ Done K A H h a (Vbdbam.step s (.payout x)) Q
theorem ok_payout {P : Program} {w : World} {K : PySem.W.Frag} {mg : Str → Option Value} {base : Heap} {A : Ad} (T : Txt w K mg A) : C8.Cal P w K mg base 3 "payout" (sp_payout K A) [] := by
  refine calOf T.d_payout sc_payout (by decreasing_trivial) (fun cdv Ar outer s0 H vs Q E hr hsp => ⟨_, (pss_cons (ps_stop (ps_set (i := 2) sc_payout.nd rfl (Or.inl rfl) (pe_dget1 (hu_of hr) (pe_fld (pv 0) rfl) (pv 1) ⟨rfl, rfl, rfl, rfl⟩)))
 (pss_cons (ps_stop (ps_if (pt_cmpR op_isN (pv 2) pe_non (nomark _)) (pss_one (ps_ret (pe_lst (pa_cons (pe_un un_neg (C8.pe_gc rfl T.c_NOT_THERE)) pa_nil)))) pss_nil))
 (pss_cons (ps_stop (ps_set (i := 3) sc_payout.nd rfl (Or.inl rfl) (C8.pe_mt (ok_Ledger_account_of T) hr (by decide) (pe_fld (pv 0) rfl) (pa_cons (pv 2) pa_nil))))
 (pss_cons (ps_stop (ps_if (pt_cmpR op_le (pv 3) pe_int (nomark _)) (pss_one (ps_ret (pe_lst (pa_cons (pe_un un_neg (C8.pe_gc rfl T.c_NOT_ENOUGH)) pa_nil)))) pss_nil))
 (pss_cons (ps_stop (ps_if (pt_not (pt_val (C8.pe_mt (ok_Ledger_has_room T) hr (by decide) (pe_fld (pv 0) rfl) (pa_cons pe_int pa_nil)))) (pss_one (ps_ret (pe_lst (pa_cons (pe_un un_neg (C8.pe_gc rfl T.c_NO_ROOM)) pa_nil)))) pss_nil))
 (pss_cons (ps_stop (ps_expr (C8.pe_mt (ok_Ledger_write T) hr (by decide) (pe_fld (pv 0) rfl) (pa_cons (pv 2) (pa_cons (C8.pe_gc rfl T.c_PAID_OUT) (pa_cons (pv 3) pa_nil))))))
 (pss_one (ps_stop (ps_ret (pe_lst (pa_cons (pv 3) pa_nil))))))))))), ?_⟩)
  obtain ⟨h, a, s, x, rfl, p, gd, q⟩ := hsp
  obtain ⟨dh, h1⟩ := p.hs
  have h2 := p.sd
  have dg := DGet.k (k := .inl x) h2
  cases hpl : placeOf s x with
  | none =>
    rw [place_none hpl] at dg
    (refine Stop.go ?_; get_elem_tactic_extensible)
    (refine Stop.go ?_; get_elem_tactic_extensible)
    exact q.no p (Same.refl H) (by simp [Vbdbam.step, Vbdbam.onSchool, Vbdbam.onOffer, Vbdbam.unlessClosed, Vbdbam.no, hpl]; first | done | rfl) (by rfl)
  | some i =>
    obtain ⟨hi, hid⟩ := place_some hpl
    rw [← hid, schK_val gd.nd hi, hid] at dg
    obtain ⟨dc, h3⟩ := p.sc i hi
    obtain ⟨dl, h4⟩ := p.lg
    obtain ⟨es, h5, h6⟩ := p.le
    have elen : es.length = s.money.length := by rw [h6.len]; simp [ents]
    have mm := gd.mm
    have elt : es.length < 1000000 := by omega
    have h7 : SqL K H a.le es := SqL.of h5
    have ml : (ents s).length ≤ 1000000 := by simp [ents]; omega
    have hb := bal_of gd.nd gd.ms gd.kd hi
    (refine Stop.go ?_; get_elem_tactic_extensible)
    (refine Stop.go ?_; get_elem_tactic_extensible)
    (refine Stop.go ?_; get_elem_tactic_extensible)
    intro H1 s1
    rw [hb]
    have p1 := p.same s1
    obtain ⟨dh, h1⟩ := p1.hs
    obtain ⟨dc, h3⟩ := p1.sc i hi
    obtain ⟨dl, h4⟩ := p1.lg
    have h5 := s1 _ _ h5
    (refine Stop.go ?_; get_elem_tactic_extensible)
    refine ifd (fun c1 => ?_) fun c1 => ?_
    · get_elem_tactic_extensible
      exact q.no p s1 (by simp [Vbdbam.step, Vbdbam.onSchool, Vbdbam.onOffer, Vbdbam.unlessClosed, Vbdbam.no, hpl, c1]; first | done | rfl) (by rfl)
    · (refine Stop.go ?_; get_elem_tactic_extensible)
      refine ifn (fun c4 => ?_) fun c4 => ?_
      · get_elem_tactic_extensible
        have hm : Vbdbam.MOSTMONEY ≤ s.money.length := by unfold Vbdbam.MOSTMONEY; omega
        exact q.no p s1 (by simp [Vbdbam.step, Vbdbam.onSchool, Vbdbam.onOffer, Vbdbam.unlessClosed, Vbdbam.no, hpl, c1, hm]; first | done | rfl) (by rfl)
      · have hm : ¬ Vbdbam.MOSTMONEY ≤ s.money.length := by unfold Vbdbam.MOSTMONEY; omega
        (refine Stop.go ?_; get_elem_tactic_extensible)
        intro t ht
        refine goE p1 h5 ⟨i, 4, (Vbdbam.balance s i).toNat⟩ rfl rfl (by show _ = (((Vbdbam.balance s i).toNat : Nat) : Int); omega) ht fun H2 p2 f2 => ?_
        (refine Stop.go ?_; get_elem_tactic_extensible)
        have hr : Vbdbam.step s (.payout x) = ({ s with money := s.money ++ [⟨i, 4, (Vbdbam.balance s i).toNat⟩] }, ⟨Vbdbam.balance s i, []⟩) := by
          simp only [Vbdbam.step, Vbdbam.onSchool, hpl, if_neg c1, if_neg hm]
        exact q.go ⟨p2, rfl, rfl, (Frm.of_same s1).trans f2⟩ hr (by rfl)
def sp_tell_account (K : PySem.W.Frag) (A : Ad) : Sp := fun vs H Q _ => ∃ (h : Addr) (a : HAd) (s : State) (x : Int), vs = [.ref h, .int x] ∧ At K A H h a s ∧ Gd s ∧ Done K A H h a (Vbdbam.step s (.account x)) Q
theorem ok_tell_account {P : Program} {w : World} {K : PySem.W.Frag} {mg : Str → Option Value} {base : Heap} {A : Ad} (T : Txt w K mg A) : C8.Cal P w K mg base 3 "tell_account" (sp_tell_account K A) [] := by
  refine calOf T.d_tell_account sc_tell_account (by decreasing_trivial) (fun cdv Ar outer s0 H vs Q E hr hsp => ⟨_, (pss_cons (ps_stop (ps_set (i := 2) sc_tell_account.nd rfl (Or.inl rfl) (pe_dget1 (hu_of hr) (pe_fld (pv 0) rfl) (pv 1) ⟨rfl, rfl, rfl, rfl⟩)))
 (pss_cons (ps_stop (ps_if (pt_cmpR op_isN (pv 2) pe_non (nomark _)) (pss_one (ps_ret (pe_lst (pa_cons (pe_un un_neg (C8.pe_gc rfl T.c_NOT_THERE)) pa_nil)))) pss_nil))
 (pss_one (ps_stop (ps_ret (pe_op op_cat (pe_lst (pa_cons (C8.pe_mt (ok_Ledger_account_of T) hr (by decide) (pe_fld (pv 0) rfl) (pa_cons (pv 2) pa_nil)) pa_nil)) (C8.pe_c (ok_sums T) hr (by decide) rfl (pa_cons (C8.pe_mt (ok_Ledger_entries_of T) hr (by decide) (pe_fld (pv 0) rfl) (pa_cons (pv 2) pa_nil)) pa_nil)))))))), ?_⟩)
  obtain ⟨h, a, s, x, rfl, p, gd, q⟩ := hsp
  obtain ⟨dh, h1⟩ := p.hs
  have h2 := p.sd
  have dg := DGet.k (k := .inl x) h2
  cases hpl : placeOf s x with
  | none =>
    rw [place_none hpl] at dg
    (refine Stop.go ?_; get_elem_tactic_extensible)
    (refine Stop.go ?_; get_elem_tactic_extensible)
    exact q.no p (Same.refl H) (by simp [Vbdbam.step, Vbdbam.onSchool, Vbdbam.onOffer, Vbdbam.unlessClosed, Vbdbam.no, hpl]; first | done | rfl) (by rfl)
  | some i =>
    obtain ⟨hi, hid⟩ := place_some hpl
    rw [← hid, schK_val gd.nd hi, hid] at dg
    obtain ⟨dc, h3⟩ := p.sc i hi
    obtain ⟨dl, h4⟩ := p.lg
    obtain ⟨es, h5, h6⟩ := p.le
    have mm := gd.mm
    have h7 : SqL K H a.le es := SqL.of h5
    have ml : (ents s).length ≤ 1000000 := by simp [ents]; omega
    have hb := bal_of gd.nd gd.ms gd.kd hi
    (refine Stop.go ?_; get_elem_tactic_extensible)
    (refine Stop.go ?_; get_elem_tactic_extensible)
    (refine Stop.go ?_; get_elem_tactic_extensible)
    intro H1 s1
    rw [hb]
    get_elem_tactic_extensible
    intro t ht
    have s2 := Same.new (o := .lst [.int (Vbdbam.balance s i)]) ht
    have l2 : upd H1 t (.lst [.int (Vbdbam.balance s i)]) t = some (.lst [.int (Vbdbam.balance s i)]) := upd_same
    generalize upd H1 t (.lst [.int (Vbdbam.balance s i)]) = H2 at s2 l2
    have s12 := s1.trans s2
    have p2 := p.same s12
    have h1 := s12 _ _ h1
    have h3 := s12 _ _ h3
    have h4 := s12 _ _ h4
    have h7 := s12.seq h7
    have h6 := EnL.same s12 h6
    get_elem_tactic_extensible
    intro p3 H3 es3 hp3 s3 l3 e3
    have ml3 : (ofL (idAt s i : Int) (ents s)).length ≤ 1000000 := Nat.le_trans (List.length_filter_le _ _) ml
    get_elem_tactic_extensible
    intro p4 H4 hp4 s4 l4
    have l2 := s4 _ _ (s3 _ _ l2)
    have l2 := SqL.of (K := K) l2
    have l4 := SqL.of (K := K) l4
    get_elem_tactic_extensible
    refine q.no p (s12.trans (s3.trans s4)) (by simp [Vbdbam.step, Vbdbam.onSchool, Vbdbam.onOffer, Vbdbam.unlessClosed, Vbdbam.no, hpl]; first | done | rfl) ?_
    have m0 := amt_of gd.nd gd.ms gd.kd hi (k := 0) (by decide)
    have m1 := amt_of gd.nd gd.ms gd.kd hi (k := 1) (by decide)
    have m2 := amt_of gd.nd gd.ms gd.kd hi (k := 2) (by decide)
    have m3 := amt_of gd.nd gd.ms gd.kd hi (k := 3) (by decide)
    have m4 := amt_of gd.nd gd.ms gd.kd hi (k := 4) (by decide)
    show [V.int _] ++ [V.int (amtL (kindS 0) _), V.int (amtL (kindS 1) _), V.int (amtL (kindS 2) _), V.int (amtL (kindS 3) _), V.int (amtL (kindS 4) _)] = _
    rw [m0, m1, m2, m3, m4]
    rfl
end EH

/-! ## EHC4 -/
namespace EH
open PySem PySem.Spec PyProof.Rows L2 EHR
local macro_rules | `(tactic| decreasing_trivial_pre_omega) => `(tactic| first
  | assumption
  | rfl
  | exact lk_here
  | exact Txt.cl_Ledger (by assumption) | exact Txt.cl_Rules (by assumption) | exact Txt.cl_School (by assumption) | exact Txt.cl_Offer (by assumption) | exact Txt.cl_House (by assumption)
  | exact Txt.na_Ledger (by assumption) _ (by decide +kernel) | exact Txt.na_Rules (by assumption) _ (by decide +kernel) | exact Txt.na_School (by assumption) _ (by decide +kernel) | exact Txt.na_Offer (by assumption) _ (by decide +kernel) | exact Txt.na_House (by assumption) _ (by decide +kernel)
  | exact (lk_past (by decide +kernel)).trans lk_here
  | exact (lk_past (by decide +kernel)).trans ((lk_past (by decide +kernel)).trans lk_here)
  | exact (lk_past (by decide +kernel)).trans ((lk_past (by decide +kernel)).trans ((lk_past (by decide +kernel)).trans lk_here))
  | exact (lk_past (by decide +kernel)).trans ((lk_past (by decide +kernel)).trans ((lk_past (by decide +kernel)).trans ((lk_past (by decide +kernel)).trans lk_here)))
  | exact (lk_past (by decide +kernel)).trans ((lk_past (by decide +kernel)).trans ((lk_past (by decide +kernel)).trans ((lk_past (by decide +kernel)).trans ((lk_past (by decide +kernel)).trans lk_here))))
  | exact (lk_past (by decide +kernel)).trans ((lk_past (by decide +kernel)).trans ((lk_past (by decide +kernel)).trans ((lk_past (by decide +kernel)).trans ((lk_past (by decide +kernel)).trans ((lk_past (by decide +kernel)).trans lk_here)))))
  | exact SqL.of (by assumption) | exact SqT.of (by assumption)
  | exact Or.inl (SqL.of (by assumption)) | exact Or.inr (SqT.of (by assumption)) | exact Or.inl (by assumption) | exact Or.inr (by assumption)
  | exact atI0 rfl | exact atI_nat (j := 1) rfl | exact atI_nat (j := 2) rfl
  | exact Or.inl ⟨rfl, _, SqL.of (by assumption)⟩
  | exact Nat.le_of_ble_eq_true rfl
  | exact Same.at1 (by assumption) (by assumption)
  | exact SqL.of (Same.at1 (by assumption) (by assumption)) | exact SqT.of (Same.at1 (by assumption) (by assumption)) | exact Or.inl (SqL.of (Same.at1 (by assumption) (by assumption))) | exact Or.inr (SqT.of (Same.at1 (by assumption) (by assumption)))
  | exact ⟨_, by assumption⟩ | exact ⟨_, rfl⟩ | trivial
  | exact dput_i (by assumption) (by assumption) | exact dput_s (by assumption) (by assumption) | exact kV_i | exact kV_s | exact isD_k (by assumption)
  | exact upd_same)
local macro_rules | `(tactic| get_elem_tactic_extensible) => `(tactic| repeat (first
  | refine And.intro (by decreasing_trivial_pre_omega) ?_
  | apply Exists.intro (α := V) | apply Exists.intro (α := Addr) | apply Exists.intro (α := List V) | apply Exists.intro (α := Int) | apply Exists.intro (α := Bool)
  | apply Exists.intro (α := List (Str × V)) | apply Exists.intro (α := Str) | apply Exists.intro (α := List (Key × V)) | apply Exists.intro (α := Option V)
  | apply Exists.intro (α := List Int) | apply Exists.intro (α := List Bool) | apply Exists.intro (α := List Str) | apply Exists.intro (α := Obj) | apply Exists.intro (α := List En) | apply Exists.intro (α := HAd) | apply Exists.intro (α := Vbdbam.State) | apply Exists.intro (α := Vbdbam.Rules) | apply Exists.intro (α := Hp) | apply Exists.intro (α := Key) | apply Exists.intro (α := Nat) | apply Exists.intro (α := Wd) | apply Exists.intro (α := Wd → List Int) | apply Exists.intro (α := Nat → Int) | apply Exists.intro (α := List Nat) | apply Exists.intro (α := List (List Nat)) | apply Exists.intro (α := List (List (List Nat)))))
local macro_rules | `(tactic| decreasing_trivial) => `(tactic| (intro vs H Q E h; repeat (first | (obtain ⟨e, _⟩ := h; subst e; rfl) | (obtain ⟨_, h⟩ := h))))

open Vbdbam (State Ans setSchool schoolAt idAt placeOf)
def sp_tell_money (K : PySem.W.Frag) (A : Ad) : Sp := fun vs H Q _ => ∃ (h : Addr) (a : HAd) (s : State), vs = [.ref h] ∧ At K A H h a s ∧ Gd s ∧ Done K A H h a (Vbdbam.step s .money) Q
theorem ok_tell_money {P : Program} {w : World} {K : PySem.W.Frag} {mg : Str → Option Value} {base : Heap} {A : Ad} (T : Txt w K mg A) : C8.Cal P w K mg base 3 "tell_money" (sp_tell_money K A) [] := by
  refine calOf T.d_tell_money sc_tell_money (by decreasing_trivial) (fun cdv Ar outer s0 H vs Q E hr hsp => ⟨_, (pss_cons (ps_stop (ps_set (i := 1) sc_tell_money.nd rfl (Or.inl rfl) (pe_fld (pe_fld (pv 0) rfl) rfl)))
 (pss_one (ps_stop (ps_ret (pe_op op_cat (pe_lst (pa_cons (C8.pe_c (ok_balance T) hr (by decide) rfl (pa_cons (pv 1) pa_nil)) pa_nil)) (C8.pe_c (ok_sums T) hr (by decide) rfl (pa_cons (pv 1) pa_nil))))))), ?_⟩)
  obtain ⟨h, a, s, rfl, p, gd, q⟩ := hsp
  obtain ⟨dh, h1⟩ := p.hs
  obtain ⟨dl, h4⟩ := p.lg
  obtain ⟨es, h5, h6⟩ := p.le
  have mm := gd.mm
  have h7 : SqL K H a.le es := SqL.of h5
  have ml : (ents s).length ≤ 1000000 := by simp [ents]; omega
  have hb := bal_all gd.ms gd.kd
  (refine Stop.go ?_; get_elem_tactic_extensible)
  (refine Stop.go ?_; get_elem_tactic_extensible)
  intro H1 s1
  get_elem_tactic_extensible
  intro t ht
  have s2 := Same.new (o := .lst [.int (balL (ents s))]) ht
  have l2 : upd H1 t (.lst [.int (balL (ents s))]) t = some (.lst [.int (balL (ents s))]) := upd_same
  generalize upd H1 t (.lst [.int (balL (ents s))]) = H2 at s2 l2
  have s12 := s1.trans s2
  have h7 := s12.seq h7
  have h6 := EnL.same s12 h6
  get_elem_tactic_extensible
  intro p4 H4 hp4 s4 l4
  have l2 := s4 _ _ l2
  have l2 := SqL.of (K := K) l2
  have l4 := SqL.of (K := K) l4
  get_elem_tactic_extensible
  refine q.no p (s12.trans s4) (by simp [Vbdbam.step, Vbdbam.onSchool, Vbdbam.onOffer, Vbdbam.unlessClosed, Vbdbam.no]; first | done | rfl) ?_
  have m : ∀ k, k ≤ 4 → amtL (kindS k) (ents s) = (Vbdbam.total ((s.money.filter fun e => e.kind == k).map fun e => e.amount) : Nat) := fun k hk => amt_map hk s.money gd.kd
  show [V.int _] ++ [V.int (amtL (kindS 0) _), V.int (amtL (kindS 1) _), V.int (amtL (kindS 2) _), V.int (amtL (kindS 3) _), V.int (amtL (kindS 4) _)] = _
  rw [m 0 (by decide), m 1 (by decide), m 2 (by decide), m 3 (by decide), m 4 (by decide), hb]
  rfl
def sp_tell_counts (K : PySem.W.Frag) (A : Ad) : Sp := fun vs H Q _ => ∃ (h : Addr) (a : HAd) (s : State), vs = [.ref h] ∧ At K A H h a s ∧ Gd s ∧ Done K A H h a (Vbdbam.step s .counts) Q
theorem ok_tell_counts {P : Program} {w : World} {K : PySem.W.Frag} {mg : Str → Option Value} {base : Heap} {A : Ad} (T : Txt w K mg A) : C8.Cal P w K mg base 3 "tell_counts" (sp_tell_counts K A) [] := by
  refine calOf T.d_tell_counts sc_tell_counts (by decreasing_trivial) (fun cdv Ar outer s0 H vs Q E hr hsp => ⟨_, (pss_cons (ps_stop (ps_set (i := 1) sc_tell_counts.nd rfl (Or.inl rfl) (pe_ifExp (pt_val (pe_fld (pv 0) rfl)) pe_int pe_int)))
 (pss_cons (ps_stop (ps_set (i := 2) sc_tell_counts.nd rfl (Or.inl rfl) (C8.pe_mt (ok_Rules_percent T) hr (by decide) (pe_fld (pv 0) rfl) (pa_cons (pe_fld (pv 0) rfl) pa_nil))))
 (pss_cons (ps_stop (ps_set (i := 3) sc_tell_counts.nd rfl (Or.inl rfl) (pe_callB call_len_seq (by rfl) T.n_len (by decide +kernel) (pa_cons (pe_fld (pe_fld (pv 0) rfl) rfl) pa_nil))))
 (pss_one (ps_stop (ps_ret (pe_lst (pa_cons (pe_fld (pv 0) rfl) (pa_cons (pe_callB call_lenD (by rfl) T.n_len (by decide +kernel) (pa_cons (pe_fld (pv 0) rfl) pa_nil)) (pa_cons (C8.pe_mt0 (ok_House_taken T) hr (by decide) (pv 0)) (pa_cons (pe_callB call_lenD (by rfl) T.n_len (by decide +kernel) (pa_cons (pe_fld (pv 0) rfl) pa_nil)) (pa_cons (pe_fld (pv 0) rfl) (pa_cons (pv 1) (pa_cons (pv 2) (pa_cons (pv 3) pa_nil))))))))))))))), ?_⟩)
  obtain ⟨h, a, s, rfl, p, gd, q⟩ := hsp
  obtain ⟨dh, h1⟩ := p.hs
  obtain ⟨dl, h4⟩ := p.lg
  obtain ⟨es, h5, h6⟩ := p.le
  have h7 : SqL K H a.le es := SqL.of h5
  have elen : es.length = s.money.length := by rw [h6.len]; simp [ents]
  have r1 : Rls K A H a.ru s.rules := ⟨_, p.ru⟩
  obtain ⟨dr, tr, h8⟩ := r1.rcd
  have bl : s.rules.back.length ≤ 1000 := Nat.le_trans gd.ru.back (by decide)
  have sl : s.schools.length ≤ 1000 := Nat.le_trans gd.n (by decide)
  have h9 := p.sd
  have h10 := p.od
  (refine Stop.go ?_; get_elem_tactic_extensible)
  have e1 : (schK s a).length = s.schools.length := schK_len
  have e2 : (offK s a).length = s.offers.length := by simp [offK]
  cases hcl : s.closed with
  | true =>
    refine ift ?_
    get_elem_tactic_extensible
    (refine Stop.go ?_; get_elem_tactic_extensible)
    (refine Stop.go ?_; get_elem_tactic_extensible)
    (refine Stop.go ?_; get_elem_tactic_extensible)
    intro H1 s1
    have h10 := s1 _ _ h10
    have h1 := s1 _ _ h1
    get_elem_tactic_extensible
    exact q.no p s1 (by simp [Vbdbam.step, Vbdbam.onSchool, Vbdbam.onOffer, Vbdbam.unlessClosed, Vbdbam.no, hcl]; first | done | rfl) (by rw [e1, e2, elen]; rfl)
  | false =>
    refine iff' ?_
    get_elem_tactic_extensible
    (refine Stop.go ?_; get_elem_tactic_extensible)
    (refine Stop.go ?_; get_elem_tactic_extensible)
    (refine Stop.go ?_; get_elem_tactic_extensible)
    intro H1 s1
    have h10 := s1 _ _ h10
    have h1 := s1 _ _ h1
    get_elem_tactic_extensible
    exact q.no p s1 (by simp [Vbdbam.step, Vbdbam.onSchool, Vbdbam.onOffer, Vbdbam.unlessClosed, Vbdbam.no, hcl]; first | done | rfl) (by rw [e1, e2, elen]; rfl)
def sp_tell_queue (K : PySem.W.Frag) (A : Ad) : Sp := fun vs H Q _ => ∃ (h : Addr) (a : HAd) (s : State), vs = [.ref h] ∧ At K A H h a s ∧ Gd s ∧ Done K A H h a (Vbdbam.step s .queue) Q
theorem ok_tell_queue {P : Program} {w : World} {K : PySem.W.Frag} {mg : Str → Option Value} {base : Heap} {A : Ad} (T : Txt w K mg A) : C8.Cal P w K mg base 4 "tell_queue" (sp_tell_queue K A) [] := by
  refine calOf T.d_tell_queue sc_tell_queue (by decreasing_trivial) (fun cdv Ar outer s0 H vs Q E hr hsp => ⟨_, (pss_cons (ps_stop (ps_set (i := 1) sc_tell_queue.nd rfl (Or.inl rfl) (C8.pe_mt0 (ok_House_turns T) hr (by decide) (pv 0))))
 (pss_one (ps_stop (ps_ret (pe_op op_cat (pe_lst (pa_cons (pe_callB call_len_seq (by rfl) T.n_len (by decide +kernel) (pa_cons (pv 1) pa_nil)) pa_nil)) (pe_lc (own := [("school", 2)]) (g := gName 2) (tt := tYes) (te := (tFld K (tVar 2) "number")) (by rfl) sc_tell_queue.nd (pi_list (pv 1)) (blkOk_by (own := [("school", 2)]) (N := N_tell_queue) (sc := C8.fnScope s_tell_queue) (by decide +kernel)) (fun _ _ _ _ _ => pg_name (i := 2) sc_tell_queue.nd rfl (Or.inl rfl)) (fun _ _ _ _ _ => pts_nil) (fun _ _ _ _ _ => (pe_fld (pv 2) rfl)))))))), ?_⟩)
  obtain ⟨h, a, s, rfl, p, gd, q⟩ := hsp
  obtain ⟨dh, h1⟩ := p.hs
  have ft := gd.fit
  have l1 : s.schools.length ≤ 100 := Nat.le_trans ft.n (by decide)
  have l2 : s.rules.cap ≤ 100 := Nat.le_trans ft.cap (by decide)
  have nd := ft.nd
  have bd := ft.bd
  (refine Stop.go ?_; get_elem_tactic_extensible)
  intro p0 H1 T hp hs hp0 s1 g1
  have lT : T.length ≤ 300 := by
    have := tris_len9 ft.cap s.schools.length
    have := ft.n
    rw [hp.length_eq]
    omega
  rw [turns_map (fun i => V.ref (a.sa i)) hp hs lT] at g1
  have hq : ∀ i, i ∈ Vbdbam.queueFrom 300 s → i < s.schools.length := fun i hi => queue_lt 300 s i hi
  have ql : (Vbdbam.queueFrom 300 s).length ≤ 300 := by
    rw [queue_eq 300 T s lT hp hs, List.length_map]
    exact lT
  generalize hqs : Vbdbam.queueFrom 300 s = qs at g1 hq ql
  have p1 := p.same s1
  have g2 : SqL K H1 p0 (qs.map fun i => V.ref (a.sa i)) := SqL.of g1
  (refine Stop.go ?_; get_elem_tactic_extensible)
  intro t ht
  have s2 := Same.new (o := .lst [.int (((qs.map fun i => V.ref (a.sa i)).length : Nat) : Int)]) ht
  have l2 : upd H1 t (.lst [.int (((qs.map fun i => V.ref (a.sa i)).length : Nat) : Int)]) t = some (.lst [.int (((qs.map fun i => V.ref (a.sa i)).length : Nat) : Int)]) := upd_same
  generalize upd H1 t (.lst [.int (((qs.map fun i => V.ref (a.sa i)).length : Nat) : Int)]) = H2 at s2 l2
  have g2 := s2.seq g2
  have p2 := p1.same s2
  get_elem_tactic_extensible
  intro D hD
  refine lc_it (walk_list (xs := qs.map fun i => V.ref (a.sa i))) (LcI H2 D fun i => (qs.take i).map fun j => V.int (idAt s j : Nat)) (LcI.zero hD rfl) (fun i H' _ p => p.s.seq g2) (fun i x H3 H4 hi w y => ?_) (fun H4 w => ?_)
  · obtain ⟨rfl, hx⟩ := y
    obtain ⟨j, hj, rfl⟩ := map_at hx
    obtain ⟨dc, h3⟩ := (p2.same w.s).sc j (hq j (List.mem_of_getElem? hj))
    have pd := w.d
    have lf : ((qs.take i).map fun j => V.int (idAt s j : Nat)).length < sizeLine := lt_line (by simp; omega)
    get_elem_tactic_extensible
    exact w.put (Same.refl _) hD (by rw [take_one hj, List.map_append]; rfl)
  · have l2 := w.s _ _ l2
    have l3 := w.d
    rw [List.length_map] at l2
    rw [List.length_map, List.take_length] at l3
    have ll : ([V.int ((qs.length : Nat) : Int)] : List V).length + (qs.map fun j => V.int (idAt s j : Nat)).length ≤ sizeLine := by
      rw [List.length_map]
      exact Nat.le_trans (Nat.add_le_add_left ql 1) (by decide)
    get_elem_tactic_extensible
    refine q.no p (s1.trans (s2.trans w.s)) (by simp [Vbdbam.step, Vbdbam.onSchool, Vbdbam.onOffer, Vbdbam.unlessClosed, Vbdbam.no, hqs]; first | done | rfl) ?_
    show [V.int (qs.length : Int)] ++ qs.map (fun j => V.int (idAt s j : Nat)) = _
    simp [flat, Vbdbam.ints]
end EH

/-! ## EHC5 -/
namespace EH
open PySem PySem.Spec PyProof.Rows L2 EHR
local macro_rules | `(tactic| decreasing_trivial_pre_omega) => `(tactic| first
  | assumption
  | rfl
  | exact lk_here
  | exact Txt.cl_Ledger (by assumption) | exact Txt.cl_Rules (by assumption) | exact Txt.cl_School (by assumption) | exact Txt.cl_Offer (by assumption) | exact Txt.cl_House (by assumption)
  | exact Txt.na_Ledger (by assumption) _ (by decide +kernel) | exact Txt.na_Rules (by assumption) _ (by decide +kernel) | exact Txt.na_School (by assumption) _ (by decide +kernel) | exact Txt.na_Offer (by assumption) _ (by decide +kernel) | exact Txt.na_House (by assumption) _ (by decide +kernel)
  | exact (lk_past (by decide +kernel)).trans lk_here
  | exact (lk_past (by decide +kernel)).trans ((lk_past (by decide +kernel)).trans lk_here)
  | exact (lk_past (by decide +kernel)).trans ((lk_past (by decide +kernel)).trans ((lk_past (by decide +kernel)).trans lk_here))
  | exact (lk_past (by decide +kernel)).trans ((lk_past (by decide +kernel)).trans ((lk_past (by decide +kernel)).trans ((lk_past (by decide +kernel)).trans lk_here)))
  | exact (lk_past (by decide +kernel)).trans ((lk_past (by decide +kernel)).trans ((lk_past (by decide +kernel)).trans ((lk_past (by decide +kernel)).trans ((lk_past (by decide +kernel)).trans lk_here))))
  | exact (lk_past (by decide +kernel)).trans ((lk_past (by decide +kernel)).trans ((lk_past (by decide +kernel)).trans ((lk_past (by decide +kernel)).trans ((lk_past (by decide +kernel)).trans ((lk_past (by decide +kernel)).trans lk_here)))))
  | exact SqL.of (by assumption) | exact SqT.of (by assumption)
  | exact Or.inl (SqL.of (by assumption)) | exact Or.inr (SqT.of (by assumption)) | exact Or.inl (by assumption) | exact Or.inr (by assumption)
  | exact atI0 rfl | exact atI_nat (j := 1) rfl | exact atI_nat (j := 2) rfl
  | exact Or.inl ⟨rfl, _, SqL.of (by assumption)⟩
  | exact Nat.le_of_ble_eq_true rfl
  | exact Same.at1 (by assumption) (by assumption)
  | exact SqL.of (Same.at1 (by assumption) (by assumption)) | exact SqT.of (Same.at1 (by assumption) (by assumption)) | exact Or.inl (SqL.of (Same.at1 (by assumption) (by assumption))) | exact Or.inr (SqT.of (Same.at1 (by assumption) (by assumption)))
  | exact ⟨_, by assumption⟩ | exact ⟨_, rfl⟩ | trivial
  | exact dput_i (by assumption) (by assumption) | exact dput_s (by assumption) (by assumption) | exact kV_i | exact kV_s | exact isD_k (by assumption)
  | exact upd_same)
local macro_rules | `(tactic| get_elem_tactic_extensible) => `(tactic| repeat (first
  | refine And.intro (by decreasing_trivial_pre_omega) ?_
  | apply Exists.intro (α := V) | apply Exists.intro (α := Addr) | apply Exists.intro (α := List V) | apply Exists.intro (α := Int) | apply Exists.intro (α := Bool)
  | apply Exists.intro (α := List (Str × V)) | apply Exists.intro (α := Str) | apply Exists.intro (α := List (Key × V)) | apply Exists.intro (α := Option V)
  | apply Exists.intro (α := List Int) | apply Exists.intro (α := List Bool) | apply Exists.intro (α := List Str) | apply Exists.intro (α := Obj) | apply Exists.intro (α := List En) | apply Exists.intro (α := HAd) | apply Exists.intro (α := Vbdbam.State) | apply Exists.intro (α := Vbdbam.Rules) | apply Exists.intro (α := Hp) | apply Exists.intro (α := Key) | apply Exists.intro (α := Nat) | apply Exists.intro (α := Wd) | apply Exists.intro (α := Wd → List Int) | apply Exists.intro (α := Nat → Int) | apply Exists.intro (α := List Nat) | apply Exists.intro (α := List (List Nat)) | apply Exists.intro (α := List (List (List Nat)))))
local macro_rules | `(tactic| decreasing_trivial) => `(tactic| (intro vs H Q E h; repeat (first | (obtain ⟨e, _⟩ := h; subst e; rfl) | (obtain ⟨_, h⟩ := h))))

open Vbdbam (State Ans setSchool schoolAt idAt placeOf)
theorem waits_bool {s : State} {j : Nat} : decide ((((schoolAt s j).has_ : Nat) : Int) + (Vbdbam.offersTo s j : Nat) < if ((s.rules.cap : Nat) : Int) < ((schoolAt s j).wanted : Nat) then ((s.rules.cap : Nat) : Int) else ((schoolAt s j).wanted : Nat)) = Vbdbam.waits s j := by
  unfold Vbdbam.waits Vbdbam.load
  rw [Bool.eq_iff_iff, decide_eq_true_eq, Bool.and_eq_true, decide_eq_true_eq, decide_eq_true_eq]
  split <;> omega
def sp_transfer (K : PySem.W.Frag) (A : Ad) : Sp := fun vs H Q _ => ∃ (h : Addr) (a : HAd) (s : State) (x n : Int), vs = [.ref h, .int x, .int n] ∧ At K A H h a s ∧ Gd s ∧ Done K A H h a (Vbdbam.step s (.transfer x n)) Q
theorem ok_transfer {P : Program} {w : World} {K : PySem.W.Frag} {mg : Str → Option Value} {base : Heap} {A : Ad} (T : Txt w K mg A) : C8.Cal P w K mg base 4 "transfer" (sp_transfer K A) [] := by
  refine calOf T.d_transfer sc_transfer (by decreasing_trivial) (fun cdv Ar outer s0 H vs Q E hr hsp => ⟨_, (pss_cons (ps_stop (ps_set (i := 3) sc_transfer.nd rfl (Or.inl rfl) (pe_dget1 (hu_of hr) (pe_fld (pv 0) rfl) (pv 1) ⟨rfl, rfl, rfl, rfl⟩)))
 (pss_cons (ps_stop (ps_set (i := 4) sc_transfer.nd rfl (Or.inl rfl) (pe_dget1 (hu_of hr) (pe_fld (pv 0) rfl) (pv 2) ⟨rfl, rfl, rfl, rfl⟩)))
 (pss_cons (ps_stop (ps_if (PW.pt (pw_or (pt_cmpR op_isN (pv 3) pe_non (nomark _)) (pw_or1 (pt_cmpR op_isN (pv 4) pe_non (nomark _))))) (pss_one (ps_ret (pe_lst (pa_cons (pe_un un_neg (C8.pe_gc rfl T.c_NOT_THERE)) pa_nil)))) pss_nil))
 (pss_cons (ps_stop (ps_if (pt_cmpR op_eq (pv 1) (pv 2) (nomark _)) (pss_one (ps_ret (pe_lst (pa_cons (pe_un un_neg (C8.pe_gc rfl T.c_OUT_OF_BOUNDS)) pa_nil)))) pss_nil))
 (pss_cons (ps_stop (ps_if (pt_val (pe_fld (pv 0) rfl)) (pss_one (ps_ret (pe_lst (pa_cons (pe_un un_neg (C8.pe_gc rfl T.c_CLOSED)) pa_nil)))) pss_nil))
 (pss_cons (ps_stop (ps_if (pt_cmpR op_lt (pe_fld (pv 3) rfl) pe_int (nomark _)) (pss_one (ps_ret (pe_lst (pa_cons (pe_un un_neg (C8.pe_gc rfl T.c_NOT_ENOUGH)) pa_nil)))) pss_nil))
 (pss_cons (ps_stop (ps_if (pt_not (pt_val (C8.pe_mt (ok_House_waits T) hr (by decide) (pv 0) (pa_cons (pv 4) pa_nil)))) (pss_one (ps_ret (pe_lst (pa_cons (pe_un un_neg (C8.pe_gc rfl T.c_NOT_WAITING)) pa_nil)))) pss_nil))
 (pss_cons (ps_stop (ps_if (pt_not (pt_val (C8.pe_mt (ok_Ledger_has_room T) hr (by decide) (pe_fld (pv 0) rfl) (pa_cons pe_int pa_nil)))) (pss_one (ps_ret (pe_lst (pa_cons (pe_un un_neg (C8.pe_gc rfl T.c_NO_ROOM)) pa_nil)))) pss_nil))
 (pss_cons (ps_stop (ps_expr (C8.pe_mt (ok_House_give_up_places T) hr (by decide) (pv 0) (pa_cons (pv 3) (pa_cons pe_int (pa_cons (C8.pe_mt (ok_Rules_one T) hr (by decide) (pe_fld (pv 0) rfl) (pa_cons pe_str pa_nil)) pa_nil))))))
 (pss_cons (ps_stop (ps_expr (C8.pe_mt (ok_House_take_place T) hr (by decide) (pv 0) (pa_cons (pv 4) pa_nil))))
 (pss_one (ps_stop (ps_ret (pe_lst (pa_cons (pe_fld (pv 3) rfl) pa_nil))))))))))))))), ?_⟩)
  obtain ⟨h, a, s, x, n, rfl, p, gd, q⟩ := hsp
  obtain ⟨dh, h1⟩ := p.hs
  have h2 := p.sd
  have dg := DGet.k (k := .inl x) h2
  have dg2 := DGet.k (k := .inl n) h2
  cases hpl : placeOf s x with
  | none =>
    rw [place_none hpl] at dg
    generalize valV (schK s a) (.inl n) = o2 at dg2
    (refine Stop.go ?_; get_elem_tactic_extensible)
    (refine Stop.go ?_; get_elem_tactic_extensible)
    (refine Stop.go ?_; get_elem_tactic_extensible)
    exact q.no p (Same.refl H) (by simp [Vbdbam.step, Vbdbam.onSchool, Vbdbam.onOffer, Vbdbam.unlessClosed, Vbdbam.no, hpl]; first | done | rfl) (by rfl)
  | some i =>
    obtain ⟨hi, hid⟩ := place_some hpl
    rw [← hid, schK_val gd.nd hi, hid] at dg
    cases hpl2 : placeOf s n with
    | none =>
      rw [place_none hpl2] at dg2
      (refine Stop.go ?_; get_elem_tactic_extensible)
      (refine Stop.go ?_; get_elem_tactic_extensible)
      (refine Stop.go ?_; get_elem_tactic_extensible)
      exact q.no p (Same.refl H) (by simp [Vbdbam.step, Vbdbam.onSchool, Vbdbam.onOffer, Vbdbam.unlessClosed, Vbdbam.no, hpl, hpl2]; first | done | rfl) (by rfl)
    | some j =>
      obtain ⟨hj, hjd⟩ := place_some hpl2
      rw [← hjd, schK_val gd.nd hj, hjd] at dg2
      obtain ⟨dc, h3⟩ := p.sc i hi
      obtain ⟨dc2, h32⟩ := p.sc j hj
      obtain ⟨dl, h4⟩ := p.lg
      obtain ⟨es, h5, h6⟩ := p.le
      have elen : es.length = s.money.length := by rw [h6.len]; simp [ents]
      have o1 : One K A H a.ru "fee" (s.rules.fee : Nat) := p.ru.one .fee rfl
      have o2 : One K A H a.ru "cap" (s.rules.cap : Nat) := p.ru.one .cap rfl
      obtain ⟨dr, tr, h7⟩ := o1.rcd
      (refine Stop.go ?_; get_elem_tactic_extensible)
      (refine Stop.go ?_; get_elem_tactic_extensible)
      (refine Stop.go ?_; get_elem_tactic_extensible)
      (refine Stop.go ?_; get_elem_tactic_extensible)
      refine ifd (fun c1 => ?_) fun c1 => ?_
      · have c1 : x = n := V.int.inj c1
        get_elem_tactic_extensible
        have hij : i = j := id_inj gd.nd hi hj (Int.ofNat_inj.mp (by rw [hid, hjd, c1]))
        exact q.no p (Same.refl H) (by simp [Vbdbam.step, Vbdbam.onSchool, Vbdbam.onOffer, Vbdbam.unlessClosed, Vbdbam.no, hpl, hpl2, hij]; first | done | rfl) (by rfl)
      · have hij : ¬ i = j := fun c => c1 (by rw [← hid, ← hjd, c])
        (refine Stop.go ?_; get_elem_tactic_extensible)
        cases hcl : s.closed with
        | true =>
          refine ift ?_
          get_elem_tactic_extensible
          exact q.no p (Same.refl H) (by simp [Vbdbam.step, Vbdbam.onSchool, Vbdbam.onOffer, Vbdbam.unlessClosed, Vbdbam.no, hpl, hpl2, hij, hcl]; first | done | rfl) (by rfl)
        | false =>
          refine iff' ?_
          (refine Stop.go ?_; get_elem_tactic_extensible)
          refine ifd (fun c2 => ?_) fun c2 => ?_
          · get_elem_tactic_extensible
            have c2 : (schoolAt s i).has_ = 0 := by omega
            exact q.no p (Same.refl H) (by simp [Vbdbam.step, Vbdbam.onSchool, Vbdbam.onOffer, Vbdbam.unlessClosed, Vbdbam.no, hpl, hpl2, hij, hcl, c2]; first | done | rfl) (by rfl)
          · have c2 : ¬ (schoolAt s i).has_ = 0 := by omega
            (refine Stop.go ?_; get_elem_tactic_extensible)
            rw [waits_bool]
            cases hw : Vbdbam.waits s j with
            | false =>
              refine ift ?_
              get_elem_tactic_extensible
              exact q.no p (Same.refl H) (by simp [Vbdbam.step, Vbdbam.onSchool, Vbdbam.onOffer, Vbdbam.unlessClosed, Vbdbam.no, hpl, hpl2, hij, hcl, c2, hw]; first | done | rfl) (by rfl)
            | true =>
              refine iff' ?_
              (refine Stop.go ?_; get_elem_tactic_extensible)
              refine ifn (fun c4 => ?_) fun c4 => ?_
              · get_elem_tactic_extensible
                have hm : Vbdbam.MOSTMONEY ≤ s.money.length + 1 := by unfold Vbdbam.MOSTMONEY; omega
                exact q.no p (Same.refl H) (by simp [Vbdbam.step, Vbdbam.onSchool, Vbdbam.onOffer, Vbdbam.unlessClosed, Vbdbam.no, hpl, hpl2, hij, hcl, c2, hw, hm]; first | done | rfl) (by rfl)
              · have hm : ¬ Vbdbam.MOSTMONEY ≤ s.money.length + 1 := by unfold Vbdbam.MOSTMONEY; omega
                have n1 : 1 ≤ (schoolAt s i).has_ := by omega
                have n2 : 1 ≤ (schoolAt s i).wanted := by
                  have := gd.ld i hi
                  unfold Vbdbam.load at this
                  omega
                have ms := gd.ms
                have ml : s.money.length < 1000 := Nat.lt_of_le_of_lt gd.mm (by decide)
                refine Stop.go ?_
                get_elem_tactic_extensible
                refine fun H1 a1 n3 e1 => ?_
                subst e1
                have p1 := n3.at'
                obtain ⟨dh, h1⟩ := p1.hs
                have hj1 : j < (givePlaces s i 1 s.rules.fee).schools.length := by rw [give_len]; exact hj
                have hi1 : i < (givePlaces s i 1 s.rules.fee).schools.length := by rw [give_len]; exact hi
                have ms1 : ∀ e, e ∈ (givePlaces s i 1 s.rules.fee).money → e.school < (givePlaces s i 1 s.rules.fee).schools.length := fun e he => by
                  rw [give_len]
                  rcases List.mem_append.mp he with c | c
                  · exact gd.ms e c
                  · rw [List.mem_singleton.mp c]; exact hi
                have ml1 : (givePlaces s i 1 s.rules.fee).money.length < 1000 := by
                  show (s.money ++ [_]).length < 1000
                  have := gd.mm
                  rw [List.length_append]
                  show s.money.length + 1 < 1000
                  omega
                (refine Stop.go ?_; get_elem_tactic_extensible)
                intro H2 a2 n4 e2
                subst e2
                have p2 := n4.at'
                have hi2 : i < (takePlace (givePlaces s i 1 s.rules.fee) j).schools.length := by rw [take_len]; exact hi1
                obtain ⟨dc, h3⟩ := p2.sc i hi2
                (refine Stop.go ?_; get_elem_tactic_extensible)
                have e3 : (schoolAt (takePlace (givePlaces s i 1 s.rules.fee) j) i).has_ = (schoolAt s i).has_ - 1 := by
                  rw [take_at hi1, if_neg hij, give_at hi, if_pos rfl]
                have hr : Vbdbam.step s (.transfer x n) = (takePlace (givePlaces s i 1 s.rules.fee) j, ⟨((schoolAt s i).has_ - 1 : Nat), []⟩) := by
                  simp only [Vbdbam.step, Vbdbam.onSchool, hpl, hpl2, if_neg hij, unless_open hcl, if_neg c2, hw, if_neg hm]
                  simp only [takePlace, givePlaces, List.append_assoc]
                  rfl
                exact q.go (n3.trans n4) hr (by rw [e3]; rfl)
end EH

/-! ## EHC6 -/
namespace EH
open PySem PySem.Spec PyProof.Rows L2 EHR
local macro_rules | `(tactic| decreasing_trivial_pre_omega) => `(tactic| first
  | assumption
  | rfl
  | exact lk_here
  | exact Txt.cl_Ledger (by assumption) | exact Txt.cl_Rules (by assumption) | exact Txt.cl_School (by assumption) | exact Txt.cl_Offer (by assumption) | exact Txt.cl_House (by assumption)
  | exact Txt.na_Ledger (by assumption) _ (by decide +kernel) | exact Txt.na_Rules (by assumption) _ (by decide +kernel) | exact Txt.na_School (by assumption) _ (by decide +kernel) | exact Txt.na_Offer (by assumption) _ (by decide +kernel) | exact Txt.na_House (by assumption) _ (by decide +kernel)
  | exact (lk_past (by decide +kernel)).trans lk_here
  | exact (lk_past (by decide +kernel)).trans ((lk_past (by decide +kernel)).trans lk_here)
  | exact (lk_past (by decide +kernel)).trans ((lk_past (by decide +kernel)).trans ((lk_past (by decide +kernel)).trans lk_here))
  | exact (lk_past (by decide +kernel)).trans ((lk_past (by decide +kernel)).trans ((lk_past (by decide +kernel)).trans ((lk_past (by decide +kernel)).trans lk_here)))
  | exact (lk_past (by decide +kernel)).trans ((lk_past (by decide +kernel)).trans ((lk_past (by decide +kernel)).trans ((lk_past (by decide +kernel)).trans ((lk_past (by decide +kernel)).trans lk_here))))
  | exact (lk_past (by decide +kernel)).trans ((lk_past (by decide +kernel)).trans ((lk_past (by decide +kernel)).trans ((lk_past (by decide +kernel)).trans ((lk_past (by decide +kernel)).trans ((lk_past (by decide +kernel)).trans lk_here)))))
  | exact SqL.of (by assumption) | exact SqT.of (by assumption)
  | exact Or.inl (SqL.of (by assumption)) | exact Or.inr (SqT.of (by assumption)) | exact Or.inl (by assumption) | exact Or.inr (by assumption)
  | exact atI0 rfl | exact atI_nat (j := 1) rfl | exact atI_nat (j := 2) rfl
  | exact Or.inl ⟨rfl, _, SqL.of (by assumption)⟩
  | exact Nat.le_of_ble_eq_true rfl
  | exact Same.at1 (by assumption) (by assumption)
  | exact SqL.of (Same.at1 (by assumption) (by assumption)) | exact SqT.of (Same.at1 (by assumption) (by assumption)) | exact Or.inl (SqL.of (Same.at1 (by assumption) (by assumption))) | exact Or.inr (SqT.of (Same.at1 (by assumption) (by assumption)))
  | exact ⟨_, by assumption⟩ | exact ⟨_, rfl⟩ | trivial
  | exact dput_i (by assumption) (by assumption) | exact dput_s (by assumption) (by assumption) | exact kV_i | exact kV_s | exact isD_k (by assumption)
  | exact upd_same)
local macro_rules | `(tactic| get_elem_tactic_extensible) => `(tactic| repeat (first
  | refine And.intro (by decreasing_trivial_pre_omega) ?_
  | apply Exists.intro (α := V) | apply Exists.intro (α := Addr) | apply Exists.intro (α := List V) | apply Exists.intro (α := Int) | apply Exists.intro (α := Bool)
  | apply Exists.intro (α := List (Str × V)) | apply Exists.intro (α := Str) | apply Exists.intro (α := List (Key × V)) | apply Exists.intro (α := Option V)
  | apply Exists.intro (α := List Int) | apply Exists.intro (α := List Bool) | apply Exists.intro (α := List Str) | apply Exists.intro (α := Obj) | apply Exists.intro (α := List En) | apply Exists.intro (α := HAd) | apply Exists.intro (α := Vbdbam.State) | apply Exists.intro (α := Vbdbam.Rules) | apply Exists.intro (α := Hp) | apply Exists.intro (α := Key) | apply Exists.intro (α := Nat) | apply Exists.intro (α := Wd) | apply Exists.intro (α := Wd → List Int) | apply Exists.intro (α := Nat → Int) | apply Exists.intro (α := List Nat) | apply Exists.intro (α := List (List Nat)) | apply Exists.intro (α := List (List (List Nat)))))
local macro_rules | `(tactic| decreasing_trivial) => `(tactic| (intro vs H Q E h; repeat (first | (obtain ⟨e, _⟩ := h; subst e; rfl) | (obtain ⟨_, h⟩ := h))))

open Vbdbam (State Ans setSchool schoolAt idAt placeOf)
def addS (s : State) (x : Vbdbam.School) : State := { s with schools := s.schools ++ [x] }
theorem add_at {s : State} {x : Vbdbam.School} {i : Nat} (h : i < s.schools.length) : schoolAt (addS s x) i = schoolAt s i := by
  show ((s.schools ++ [x])[i]?).getD _ = _
  rw [List.getElem?_append_left h]
  rfl
theorem add_new {s : State} {x : Vbdbam.School} : schoolAt (addS s x) s.schools.length = x := by
  show ((s.schools ++ [x])[s.schools.length]?).getD _ = _
  simp
theorem add_len {s : State} {x : Vbdbam.School} : (addS s x).schools.length = s.schools.length + 1 := by simp [addS]
theorem offersTo_none {s : State} (os : ∀ o, o ∈ s.offers → o.school < s.schools.length) : Vbdbam.offersTo s s.schools.length = 0 := by
  unfold Vbdbam.offersTo
  rw [List.length_eq_zero_iff]
  refine List.filter_eq_nil_iff.mpr fun o ho c => ?_
  have := os o ho
  have c : o.school = s.schools.length := by simpa using c
  omega
/-- one more school -/
theorem At.enter {K : PySem.W.Frag} {A : Ad} {H : Hp} {h : Addr} {a : HAd} {s : State} (p : At K A H h a s) (gd : Gd s) {x : Vbdbam.School} {b dx : Addr} (hx0 : x.has_ = 0) (hb : H b = some (.ins A.cSchool dx (sFi (x.id : Nat) (x.wanted : Nat) (x.judges : Nat) 0 0)))
    (hn : ∀ i, i < s.schools.length → a.sa i ≠ b) {kvs : List (Key × V)} (hk : kvs = schK s a ++ [(.inl (x.id : Int), .ref b)]) :
    At K A (upd H a.sd (.dK kvs)) h { a with sa := fun i => if i = s.schools.length then b else a.sa i } (addS s x) := by
  subst hk
  have hd := p.sd
  have low : ∀ i, i < s.schools.length → (if i = s.schools.length then b else a.sa i) = a.sa i := fun i hi => if_neg (by omega)
  have low2 : ∀ i, i < s.schools.length → idAt (addS s x) i = idAt s i := fun i hi => by unfold idAt; rw [add_at hi]
  have ezz : ∀ i, Vbdbam.offersTo (addS s x) i = Vbdbam.offersTo s i := fun i => rfl
  exact {
    hs := p.hs.imp fun _ q => keepS q hd rfl
    ru := keepR p.ru hd rfl rfl rfl p.d2
    sd := by
      show upd H a.sd _ a.sd = _
      rw [upd_same]
      unfold schK
      rw [add_len, List.range_succ, List.map_append]
      congr 3
      · refine List.map_congr_left fun i hi => ?_
        have hi := List.mem_range.mp hi
        show _ = (Sum.inl (idAt (addS s x) i : Int), V.ref (if i = s.schools.length then b else a.sa i))
        rw [low i hi, low2 i hi]
      · show _ = [(Sum.inl (idAt (addS s x) s.schools.length : Int), V.ref (if s.schools.length = s.schools.length then b else a.sa s.schools.length))]
        rw [if_pos rfl]
        unfold idAt
        rw [add_new]
    sc := fun i hi => by
      rw [add_len] at hi
      by_cases c : i = s.schools.length
      · subst c
        refine ⟨dx, ?_⟩
        show upd H a.sd _ (if s.schools.length = s.schools.length then b else a.sa s.schools.length) = _
        rw [if_pos rfl, ezz, offersTo_none gd.os, keepS hb hd rfl]
        unfold sOf idAt
        rw [add_new, hx0]
        rfl
      · have hi : i < s.schools.length := by omega
        refine (p.sc i hi).imp fun _ q => ?_
        show upd H a.sd _ (if i = s.schools.length then b else a.sa i) = _
        rw [low i hi, ezz, keepS q hd rfl]
        unfold sOf
        rw [low2 i hi, add_at hi]
    od := by show upd H a.sd _ a.od = _; rw [upd_ne (fun c => p.d1 c.symm)]; exact p.od
    of := fun o ho => (p.of o ho).imp fun _ q => by
      show upd H a.sd _ (a.oa o.number) = some (.ins A.cOffer _ (oFi _ (if o.school = s.schools.length then b else a.sa o.school) _))
      rw [low _ (gd.os o ho)]
      exact keepS q hd rfl
    lg := p.lg.imp fun _ q => keepS q hd rfl
    le := p.le.imp fun _ q => ⟨keepS q.1 hd rfl, by
      have e : ents (addS s x) = ents s := List.map_congr_left fun e he => by
        unfold entOf
        rw [low2 _ (gd.ms e he)]
      rw [e]
      exact keepE hd rfl q.2⟩
    inj := fun i j hi hj c => by
      rw [add_len] at hi hj
      have c : (if i = s.schools.length then b else a.sa i) = (if j = s.schools.length then b else a.sa j) := c
      by_cases ci : i = s.schools.length
      · by_cases cj : j = s.schools.length
        · omega
        · rw [if_pos ci, if_neg cj] at c
          exact absurd c.symm (hn j (by omega))
      · by_cases cj : j = s.schools.length
        · rw [if_neg ci, if_pos cj] at c
          exact absurd c (hn i (by omega))
        · rw [if_neg ci, if_neg cj] at c
          exact p.inj i j (by omega) (by omega) c
    d1 := p.d1
    d2 := p.d2
    d3 := p.d3 }
def sp_enter (K : PySem.W.Frag) (A : Ad) : Sp := fun vs H Q _ => ∃ (h : Addr) (a : HAd) (s : State) (x w j : Int), vs = [.ref h, .int x, .int w, .int j] ∧ At K A H h a s ∧ Gd s ∧ Done K A H h a (Vbdbam.step s (.enter x w j)) Q
theorem ok_enter {P : Program} {w : World} {K : PySem.W.Frag} {mg : Str → Option Value} {base : Heap} {A : Ad} (T : Txt w K mg A) : C8.Cal P w K mg base 3 "enter" (sp_enter K A) [] := by
  refine calOf T.d_enter sc_enter (by decreasing_trivial) (fun cdv Ar outer s0 H vs Q E hr hsp => ⟨_, (pss_cons (ps_stop (ps_if (pt_not (PW.pt (pw_and (pt_chain op_le op_le pe_int (pv 1) pe_int) (pw_and (pt_chain op_le op_le pe_int (pv 2) pe_int) (pw_and1 (pt_chain op_le op_le pe_int (pv 3) pe_int)))))) (pss_one (ps_ret (pe_lst (pa_cons (pe_un un_neg (C8.pe_gc rfl T.c_OUT_OF_BOUNDS)) pa_nil)))) pss_nil))
 (pss_cons (ps_stop (ps_if (pt_val (pe_fld (pv 0) rfl)) (pss_one (ps_ret (pe_lst (pa_cons (pe_un un_neg (C8.pe_gc rfl T.c_CLOSED)) pa_nil)))) pss_nil))
 (pss_cons (ps_stop (ps_if (pt_cmp (pc_din (hu_of hr) (pv 1) (pe_fld (pv 0) rfl)) (by rfl)) (pss_one (ps_ret (pe_lst (pa_cons (pe_un un_neg (C8.pe_gc rfl T.c_IN_ALREADY)) pa_nil)))) pss_nil))
 (pss_cons (ps_stop (ps_set (i := 4) sc_enter.nd rfl (Or.inl rfl) (pe_callB call_lenD (by rfl) T.n_len (by decide +kernel) (pa_cons (pe_fld (pv 0) rfl) pa_nil))))
 (pss_cons (ps_stop (ps_if (pt_cmpR op_ge (pv 4) (C8.pe_gc rfl T.c_MOST_SCHOOLS) (nomark _)) (pss_one (ps_ret (pe_lst (pa_cons (pe_un un_neg (C8.pe_gc rfl T.c_NO_ROOM)) pa_nil)))) pss_nil))
 (pss_cons (ps_stop (ps_dput (hu_of hr) (pe_fld (pv 0) rfl) (pv 1) (C8.pe_mk (ok_School_init T) hr (by decide) rfl (pa_cons (pv 1) (pa_cons (pv 2) (pa_cons (pv 3) pa_nil)))) rfl))
 (pss_one (ps_stop (ps_ret (pe_lst (pa_cons (pv 4) pa_nil))))))))))), ?_⟩)
  obtain ⟨h, a, s, x, w', j, rfl, p, gd, q⟩ := hsp
  obtain ⟨dh, h1⟩ := p.hs
  have h2 := p.sd
  have bad : (Vbdbam.inside x 1 999 && (Vbdbam.inside w' 1 20 && Vbdbam.inside j 0 99)) = false → ∀ t, H t = none → Q (.ref t) (upd H t (.lst [.int (-1)])) := fun hb =>
    q.no p (Same.refl H) (by simp [Vbdbam.step, Vbdbam.onSchool, Vbdbam.onOffer, Vbdbam.unlessClosed, Vbdbam.no, hb]; first | done | rfl) (by rfl)
  (refine Stop.go ?_; get_elem_tactic_extensible)
  refine ifd (fun c1 => ?_) fun c1 => ?_
  · get_elem_tactic_extensible
    refine ifd (fun c2 => ?_) fun c2 => ?_
    · get_elem_tactic_extensible
      refine ifd (fun c3 => ?_) fun c3 => ?_
      · get_elem_tactic_extensible
        refine ifd (fun c4 => ?_) fun c4 => ?_
        · get_elem_tactic_extensible
          refine ifd (fun c5 => ?_) fun c5 => ?_
          · get_elem_tactic_extensible
            refine ifn (fun c6 => ?_) fun c6 => ?_
            · get_elem_tactic_extensible
              exact bad (by rw [in_yes (lo := 1) (hi := 999) c1 c2, in_yes (lo := 1) (hi := 20) c3 c4, in_hi c6]; rfl)
            · have hin : (Vbdbam.inside x 1 999 && (Vbdbam.inside w' 1 20 && Vbdbam.inside j 0 99)) = true := by
                rw [in_yes (lo := 1) (hi := 999) c1 c2, in_yes (lo := 1) (hi := 20) c3 c4, in_yes (lo := 0) (hi := 99) c5 c6]
                rfl
              (refine Stop.go ?_; get_elem_tactic_extensible)
              cases hcl : s.closed with
              | true =>
                refine ift ?_
                get_elem_tactic_extensible
                exact q.no p (Same.refl H) (by simp [Vbdbam.step, Vbdbam.onSchool, Vbdbam.onOffer, Vbdbam.unlessClosed, Vbdbam.no, hin, hcl]; first | done | rfl) (by rfl)
              | false =>
                refine iff' ?_
                have rd : Rd H a.sd (.dK (schK s a)) := .inl h2
                cases hpl : placeOf s x with
                | some i =>
                  obtain ⟨hi, hid⟩ := place_some hpl
                  have dg := DGet.k (k := .inl x) h2
                  rw [← hid, schK_val gd.nd hi, hid] at dg
                  (refine Stop.go ?_; get_elem_tactic_extensible)
                  exact q.no p (Same.refl H) (by simp [Vbdbam.step, Vbdbam.onSchool, Vbdbam.onOffer, Vbdbam.unlessClosed, Vbdbam.no, hin, hcl, hpl]; first | done | rfl) (by rfl)
                | none =>
                  have dg := DGet.k (k := .inl x) h2
                  rw [place_none hpl] at dg
                  (refine Stop.go ?_; get_elem_tactic_extensible)
                  refine iff' ?_
                  (refine Stop.go ?_; get_elem_tactic_extensible)
                  (refine Stop.go ?_; get_elem_tactic_extensible)
                  rw [schK_len]
                  refine ifd (fun c7 => ?_) fun c7 => ?_
                  · get_elem_tactic_extensible
                    have hm : Vbdbam.MOSTSCHOOLS ≤ s.schools.length := by unfold Vbdbam.MOSTSCHOOLS; omega
                    exact q.no p (Same.refl H) (by simp [Vbdbam.step, Vbdbam.onSchool, Vbdbam.onOffer, Vbdbam.unlessClosed, Vbdbam.no, hin, hcl, hpl, hm]; first | done | rfl) (by rfl)
                  · have hm : ¬ Vbdbam.MOSTSCHOOLS ≤ s.schools.length := by unfold Vbdbam.MOSTSCHOOLS; omega
                    (refine Stop.go ?_; get_elem_tactic_extensible)
                    intro b dx hb0 hdx hne
                    refine ⟨b, dx, x, w', j, rfl, upd_same, fun H1 e1 e2 => ⟨rfl, ?_⟩⟩
                    have s1 := made hb0 hdx e1
                    have p1 := p.same s1
                    obtain ⟨dh, h1⟩ := p1.hs
                    have h2 := p1.sd
                    have n30 := gd.n
                    have ll : (schK s a).length < sizeLine := lt_line (by rw [schK_len]; omega)
                    get_elem_tactic_extensible
                    rw [putK_new _ (place_none hpl)]
                    obtain ⟨kx, rfl⟩ : ∃ k : Nat, x = (k : Int) := ⟨x.toNat, by omega⟩
                    obtain ⟨kw, rfl⟩ : ∃ k : Nat, w' = (k : Int) := ⟨w'.toNat, by omega⟩
                    obtain ⟨kj, rfl⟩ : ∃ k : Nat, j = (k : Int) := ⟨j.toNat, by omega⟩
                    have nb : ∀ i, i < s.schools.length → a.sa i ≠ b := fun i hi => by
                      obtain ⟨_, g⟩ := p.sc i hi
                      exact Same.ne g hb0
                    have p2 := At.enter p1 gd (x := ⟨kx, kw, 0, kj⟩) rfl e2 nb rfl
                    have f2 := (Frm.of_same (le := a.le) s1).trans (Frm.upd (o' := .dK (schK s a ++ [(.inl ((kx : Nat) : Int), .ref b)])) h2 rfl)
                    have hr : Vbdbam.step s (.enter kx kw kj) = (addS s ⟨kx, kw, 0, kj⟩, ⟨(s.schools.length : Nat), []⟩) := by
                      simp only [Vbdbam.step, hin, unless_open hcl, hpl, if_neg hm, Int.toNat_natCast]
                      rfl
                    (refine Stop.go ?_; get_elem_tactic_extensible)
                    intro t ht
                    subst_vars
                    rw [hr] at q
                    refine q.h _ _ t (p2.same (Same.new ht)) (f2.trans (.of_same (Same.new ht))) (.inl rfl) (fun b o hb st nl => Same.ne (f2 b o hb st nl) ht) upd_same
          · get_elem_tactic_extensible
            exact bad (by rw [in_yes (lo := 1) (hi := 999) c1 c2, in_yes (lo := 1) (hi := 20) c3 c4, in_lo c5]; rfl)
        · get_elem_tactic_extensible
          exact bad (by rw [in_yes (lo := 1) (hi := 999) c1 c2, in_hi c4]; rfl)
      · get_elem_tactic_extensible
        exact bad (by rw [in_yes (lo := 1) (hi := 999) c1 c2, in_lo c3]; rfl)
    · get_elem_tactic_extensible
      exact bad (by rw [in_hi c2]; rfl)
  · get_elem_tactic_extensible
    exact bad (by rw [in_lo c1]; rfl)
end EH

/-! ## EHC7 -/
namespace EH
open PySem PySem.Spec PyProof.Rows L2 EHR
local macro_rules | `(tactic| decreasing_trivial_pre_omega) => `(tactic| first
  | assumption
  | rfl
  | exact lk_here
  | exact Txt.cl_Ledger (by assumption) | exact Txt.cl_Rules (by assumption) | exact Txt.cl_School (by assumption) | exact Txt.cl_Offer (by assumption) | exact Txt.cl_House (by assumption)
  | exact Txt.na_Ledger (by assumption) _ (by decide +kernel) | exact Txt.na_Rules (by assumption) _ (by decide +kernel) | exact Txt.na_School (by assumption) _ (by decide +kernel) | exact Txt.na_Offer (by assumption) _ (by decide +kernel) | exact Txt.na_House (by assumption) _ (by decide +kernel)
  | exact (lk_past (by decide +kernel)).trans lk_here
  | exact (lk_past (by decide +kernel)).trans ((lk_past (by decide +kernel)).trans lk_here)
  | exact (lk_past (by decide +kernel)).trans ((lk_past (by decide +kernel)).trans ((lk_past (by decide +kernel)).trans lk_here))
  | exact (lk_past (by decide +kernel)).trans ((lk_past (by decide +kernel)).trans ((lk_past (by decide +kernel)).trans ((lk_past (by decide +kernel)).trans lk_here)))
  | exact (lk_past (by decide +kernel)).trans ((lk_past (by decide +kernel)).trans ((lk_past (by decide +kernel)).trans ((lk_past (by decide +kernel)).trans ((lk_past (by decide +kernel)).trans lk_here))))
  | exact (lk_past (by decide +kernel)).trans ((lk_past (by decide +kernel)).trans ((lk_past (by decide +kernel)).trans ((lk_past (by decide +kernel)).trans ((lk_past (by decide +kernel)).trans ((lk_past (by decide +kernel)).trans lk_here)))))
  | exact SqL.of (by assumption) | exact SqT.of (by assumption)
  | exact Or.inl (SqL.of (by assumption)) | exact Or.inr (SqT.of (by assumption)) | exact Or.inl (by assumption) | exact Or.inr (by assumption)
  | exact atI0 rfl | exact atI_nat (j := 1) rfl | exact atI_nat (j := 2) rfl
  | exact Or.inl ⟨rfl, _, SqL.of (by assumption)⟩
  | exact Nat.le_of_ble_eq_true rfl
  | exact Same.at1 (by assumption) (by assumption)
  | exact SqL.of (Same.at1 (by assumption) (by assumption)) | exact SqT.of (Same.at1 (by assumption) (by assumption)) | exact Or.inl (SqL.of (Same.at1 (by assumption) (by assumption))) | exact Or.inr (SqT.of (Same.at1 (by assumption) (by assumption)))
  | exact ⟨_, by assumption⟩ | exact ⟨_, rfl⟩ | trivial
  | exact dput_i (by assumption) (by assumption) | exact dput_s (by assumption) (by assumption) | exact kV_i | exact kV_s | exact isD_k (by assumption)
  | exact upd_same)
local macro_rules | `(tactic| get_elem_tactic_extensible) => `(tactic| repeat (first
  | refine And.intro (by decreasing_trivial_pre_omega) ?_
  | apply Exists.intro (α := V) | apply Exists.intro (α := Addr) | apply Exists.intro (α := List V) | apply Exists.intro (α := Int) | apply Exists.intro (α := Bool)
  | apply Exists.intro (α := List (Str × V)) | apply Exists.intro (α := Str) | apply Exists.intro (α := List (Key × V)) | apply Exists.intro (α := Option V)
  | apply Exists.intro (α := List Int) | apply Exists.intro (α := List Bool) | apply Exists.intro (α := List Str) | apply Exists.intro (α := Obj) | apply Exists.intro (α := List En) | apply Exists.intro (α := HAd) | apply Exists.intro (α := Vbdbam.State) | apply Exists.intro (α := Vbdbam.Rules) | apply Exists.intro (α := Hp) | apply Exists.intro (α := Key) | apply Exists.intro (α := Nat) | apply Exists.intro (α := Wd) | apply Exists.intro (α := Wd → List Int) | apply Exists.intro (α := Nat → Int) | apply Exists.intro (α := List Nat) | apply Exists.intro (α := List (List Nat)) | apply Exists.intro (α := List (List (List Nat)))))
local macro_rules | `(tactic| decreasing_trivial) => `(tactic| (intro vs H Q E h; repeat (first | (obtain ⟨e, _⟩ := h; subst e; rfl) | (obtain ⟨_, h⟩ := h))))

open Vbdbam (State Ans setSchool schoolAt idAt placeOf)
theorem nights_add : ∀ (i : Nat) (s : State), Vbdbam.nights (i + 1) s = Vbdbam.night (Vbdbam.nights i s)
  | 0, _ => rfl
  | i + 1, s => nights_add i (Vbdbam.night s)
def rowN (s : State) (b i : Nat) : List Int := ((s.offers.take i).filter fun o => decide (b ≤ o.number)).flatMap fun o => [(o.number : Int), (idAt s o.school : Int), (o.day : Int)]
theorem rowN_succ {s : State} {b i : Nat} {o : Vbdbam.Offer} (h : s.offers[i]? = some o) : rowN s b (i + 1) = rowN s b i ++ if b ≤ o.number then [(o.number : Int), (idAt s o.school : Int), (o.day : Int)] else [] := by
  unfold rowN
  rw [filt_take h, List.flatMap_append]
  by_cases c : b ≤ o.number
  · simp [c]
  · simp [c]
theorem rowN_len {s : State} {b i : Nat} : (rowN s b i).length ≤ 3 * s.offers.length := by
  unfold rowN
  have h := List.length_filter_le (fun o => decide (b ≤ o.number)) (s.offers.take i)
  have h2 : (s.offers.take i).length ≤ s.offers.length := by rw [List.length_take]; omega
  have e : ∀ l : List Vbdbam.Offer, (l.flatMap fun o => [(o.number : Int), (idAt s o.school : Int), (o.day : Int)]).length = 3 * l.length := fun l => by
    induction l with
    | nil => rfl
    | cons x l ih => rw [List.flatMap_cons, List.length_append, ih, List.length_cons]; simp; omega
  rw [e]
  omega
theorem EnL.ext {H H' : Hp} {L : Addr} {l : List V} (hL : H L = some (.lst l)) (e : Ext L H H') : ∀ {es : List V} {m : List En}, EnL H es m → EnL H' es m
  | _, _, .nil => .nil
  | _, _, .cons ⟨t, q1, q2⟩ r => .cons ⟨t, q1, e _ _ q2 (ne_shp q2 hL rfl)⟩ (EnL.ext hL e r)
theorem Prt.ext {K : PySem.W.Frag} {A : Ad} {H H' : Hp} {h : Addr} {a : HAd} {s : State} {off : Nat → Int} {L : Addr} {l : List V} (p : Prt K A H h a s off) (hL : H L = some (.lst l)) (n : a.le ≠ L) (e : Ext L H H') : Prt K A H' h a s off where
  hs := p.hs.imp fun _ q => e _ _ q (ne_shp q hL rfl)
  ru := p.ru.ext hL e
  sc i hi := (p.sc i hi).imp fun _ q => e _ _ q (ne_shp q hL rfl)
  of o ho := (p.of o ho).imp fun _ q => e _ _ q (ne_shp q hL rfl)
  lg := p.lg.imp fun _ q => e _ _ q (ne_shp q hL rfl)
  le := by
    obtain ⟨es, h1, h2⟩ := p.le
    exact ⟨es, e _ _ h1 n, EnL.ext hL e h2⟩
theorem offK_at {s : State} {a : HAd} {i : Nat} {k : Key} {v : V} (h : (offK s a)[i]? = some (k, v)) : ∃ o, s.offers[i]? = some o ∧ v = .ref (a.oa o.number) := by
  obtain ⟨o, h1, h2⟩ := map_at h
  injection h2 with h3 h4
  exact ⟨o, h1, h4.symm⟩
def sp_night (K : PySem.W.Frag) (A : Ad) : Sp := fun vs H Q _ => ∃ (h : Addr) (a : HAd) (s : State) (n : Int), vs = [.ref h, .int n] ∧ At K A H h a s ∧ Gd s ∧ Done K A H h a (Vbdbam.step s (.night n)) Q
theorem ok_night {P : Program} {w : World} {K : PySem.W.Frag} {mg : Str → Option Value} {base : Heap} {A : Ad} (T : Txt w K mg A) : C8.Cal P w K mg base 6 "night" (sp_night K A) [] := by
  refine calOf T.d_night sc_night (by decreasing_trivial) (fun cdv Ar outer s0 H vs Q E hr hsp => ⟨_, (pss_cons (ps_stop (ps_if (pt_not (pt_chain op_le op_le pe_int (pv 1) (C8.pe_gc rfl T.c_MOST_NIGHTS))) (pss_one (ps_ret (pe_lst (pa_cons (pe_un un_neg (C8.pe_gc rfl T.c_OUT_OF_BOUNDS)) pa_nil)))) pss_nil))
 (pss_cons (ps_stop (ps_if (pt_cmpR op_gt (pe_op op_add (pe_fld (pv 0) rfl) (pv 1)) (C8.pe_gc rfl T.c_LAST_DAY) (nomark _)) (pss_one (ps_ret (pe_lst (pa_cons (pe_un un_neg (C8.pe_gc rfl T.c_NO_ROOM)) pa_nil)))) pss_nil))
 (pss_cons (ps_stop (ps_set (i := 2) sc_night.nd rfl (Or.inl rfl) (pe_fld (pv 0) rfl)))
 (pss_cons (ps_stop (ps_for PassesOwn.never rfl (pi_range1 (by rfl) T.n_range (pa_cons (pv 1) pa_nil)) (pg_name (i := 3) sc_night.nd rfl (Or.inl rfl))
  (pss_one (ps_stop (ps_expr (C8.pe_mt0 (ok_House_pass_night T) hr (by decide) (pv 0)))))))
 (pss_cons (ps_stop (ps_set (i := 4) sc_night.nd rfl (Or.inl rfl) (pe_lst pa_nil)))
 (pss_cons (ps_stop (ps_lock (ps_for PassesOwn.never rfl (pi_values (pe_fld (pv 0) rfl)) (pg_name (i := 5) sc_night.nd rfl (Or.inl rfl))
  (pss_one (ps_stop (ps_if (pt_cmpR op_ge (pe_fld (pv 5) rfl) (pv 2) (nomark _)) (pss_one (ps_stop (ps_expr (pe_bm PySem.F.plainAttrs_list PySem.F.slot_list_extend PySem.F.type_list_extend mt_extend (pv 4) (pa_cons (pe_lst (pa_cons (pe_fld (pv 5) rfl) (pa_cons (pe_fld (pe_fld (pv 5) rfl) rfl) (pa_cons (pe_fld (pv 5) rfl) pa_nil)))) pa_nil))))) pss_nil))))))
 (pss_one (ps_stop (ps_ret (pe_op op_cat (pe_lst (pa_cons (pe_fld (pv 0) rfl) pa_nil)) (pv 4))))))))))), ?_⟩)
  obtain ⟨h, a, s, n, rfl, p, gd, q⟩ := hsp
  obtain ⟨dh, h1⟩ := p.hs
  (refine Stop.go ?_; get_elem_tactic_extensible)
  refine ifd (fun c1 => ?_) fun c1 => ?_
  · get_elem_tactic_extensible
    refine ifn (fun c2 => ?_) fun c2 => ?_
    · get_elem_tactic_extensible
      exact q.no p (Same.refl H) (by simp [Vbdbam.step, Vbdbam.onSchool, Vbdbam.onOffer, Vbdbam.unlessClosed, Vbdbam.no, in_hi (lo := 1) c2]; first | done | rfl) (by rfl)
    · have hin := in_yes (lo := 1) (hi := 30) c1 c2
      obtain ⟨k, rfl⟩ : ∃ k : Nat, n = (k : Int) := ⟨n.toNat, by omega⟩
      (refine Stop.go ?_; get_elem_tactic_extensible)
      refine ifd (fun c3 => ?_) fun c3 => ?_
      · get_elem_tactic_extensible
        have hm : Vbdbam.MOSTDAY < s.day + k := by unfold Vbdbam.MOSTDAY; omega
        exact q.no p (Same.refl H) (by simp [Vbdbam.step, Vbdbam.onSchool, Vbdbam.onOffer, Vbdbam.unlessClosed, Vbdbam.no, hin, hm]; first | done | rfl) (by rfl)
      · have hm : ¬ Vbdbam.MOSTDAY < s.day + k := by unfold Vbdbam.MOSTDAY; omega
        (refine Stop.go ?_; get_elem_tactic_extensible)
        refine Stop.go ?_
        refine ⟨_, rfl, _, rfl, by omega, by omega, ?_⟩
        refine for_it (walk_range (lo := 0) (n := ((k : Nat) : Int).toNat)) (fun i σ H' => Hold (∃ a', Next K A H h a (Vbdbam.nights i s) H' a' ∧ (∃ z3 z4 z5, σ = [some (.ref h), some (.int (k : Nat)), some (.int (s.next : Nat)), z3, z4, z5]))) ⟨a, Next.refl p, _, _, _, rfl⟩ (fun _ _ _ _ _ => trivial) (fun i x σ H4 H' hi y0 y => ?_) (fun σ H1 q1 => ?_)
        · obtain ⟨rfl, rfl⟩ := y
          obtain ⟨a4, n4, z3, z4, z5, rfl⟩ := y0.h
          have p4 := n4.at'
          obtain ⟨dh, h1⟩ := p4.hs
          have g4 := Gd.nights i gd
          (refine Stop.go ?_; get_elem_tactic_extensible)
          refine fun H5 a5 n5 => ⟨a5, ?_, _, _, _, rfl⟩
          rw [nights_add]
          exact n4.trans n5
        · obtain ⟨a1, n1, z3, z4, z5, rfl⟩ := q1.h
          rw [Int.toNat_natCast] at n1
          have gt := Gd.nights k gd
          have p1 := n1.at'
          have hr : Vbdbam.step s (.night (k : Int)) = (Vbdbam.nights k s, ⟨((Vbdbam.nights k s).day : Nat), [((Vbdbam.nights k s).offers.filter fun o => decide (s.next ≤ o.number)).flatMap fun o => Vbdbam.ints [o.number, idAt (Vbdbam.nights k s) o.school, o.day]]⟩) := by
            simp only [Vbdbam.step, hin, Int.toNat_natCast, if_neg hm]
            rfl
          rw [hr] at q
          generalize Vbdbam.nights k s = t at n1 gt p1 q
          (refine Stop.go ?_; get_elem_tactic_extensible)
          intro L hL
          have s2 := Same.new (o := .lst []) hL
          have l2 : upd H1 L (.lst []) L = some (.lst []) := upd_same
          generalize upd H1 L (.lst []) = H2 at s2 l2
          have p2 := p1.same s2
          have nle : a1.le ≠ L := by
            obtain ⟨es, g, _⟩ := p1.le
            exact Same.ne g hL
          refine Stop.go ?_
          refine ⟨a1.od, _, p2.od, trivial, fun od => ?_⟩
          have pl := p2.prt.lock (o := .frz od (.dK (offK t a1))) p2.od p2.d3
          have h3 : upd H2 a1.od (.frz od (.dK (offK t a1))) a1.od = some (.frz od (.dK (offK t a1))) := upd_same
          have l3 : upd H2 a1.od (.frz od (.dK (offK t a1))) L = some (.lst []) := keepS l2 p2.od rfl
          have u2 : ∀ b o, H2 b = some o → b ≠ a1.od → upd H2 a1.od (.frz od (.dK (offK t a1))) b = some o := fun b o h n => by rw [upd_ne n]; exact h
          generalize upd H2 a1.od (.frz od (.dK (offK t a1))) = H3 at pl h3 l3 u2
          obtain ⟨dh, h1⟩ := pl.hs
          get_elem_tactic_extensible
          refine for_it walk_values (fun i σ H' => Hold (Ext L H3 H' ∧ (∃ z5, σ = [some (.ref h), some (.int (k : Nat)), some (.int (s.next : Nat)), z3, some (.ref L), z5]) ∧ H' L = some (.lst ((rowN t s.next i).map .int)))) ⟨.refl, ⟨_, rfl⟩, l3⟩ (fun i σ H' _ q => q.h.1 _ _ h3 (ne_of h3 l3 (by intro c; cases c))) (fun i x σ H4 H' hi y0 y => ?_) (fun σ H' q1 => ?_)
          · obtain ⟨rfl, k2, hx⟩ := y
            obtain ⟨e4, ⟨z5, rfl⟩, l4⟩ := y0.h
            obtain ⟨o, ho, rfl⟩ := offK_at hx
            have om := List.mem_of_getElem? ho
            have p4 := pl.ext l3 nle e4
            obtain ⟨dof, h5⟩ := p4.of o om
            obtain ⟨dc, h6⟩ := p4.sc _ (gt.os o om)
            have rs := rowN_succ (b := s.next) ho
            have rl := rowN_len (s := t) (b := s.next) (i := i)
            have ol : t.offers.length ≤ 60 := by
              have := gt.us
              have := gt.ru.places
              unfold Vbdbam.used at *
              omega
            have ll : ((rowN t s.next i).map V.int).length + ([.int (o.number : Nat), .int (idAt t o.school : Nat), .int (o.day : Nat)] : List V).length ≤ sizeLine := by
              rw [List.length_map]
              exact Nat.le_trans (Nat.add_le_add_right (Nat.le_trans rl (Nat.mul_le_mul_left 3 ol)) _) (show 3 * 60 + 3 ≤ sizeLine by decide)
            (refine Stop.go ?_; get_elem_tactic_extensible)
            refine ifd (fun c5 => ?_) fun c5 => ?_
            · rw [if_pos (by omega)] at rs
              refine Stop.go ?_
              get_elem_tactic_extensible
              intro t0 ht0
              have nt : t0 ≠ L := (Same.ne l4 ht0).symm
              have s5 := Same.new (o := .lst [.int (o.number : Nat), .int (idAt t o.school : Nat), .int (o.day : Nat)]) ht0
              have l5 := s5 _ _ l4
              have t5 : upd H' t0 (.lst [.int (o.number : Nat), .int (idAt t o.school : Nat), .int (o.day : Nat)]) t0 = some (.lst [.int (o.number : Nat), .int (idAt t o.school : Nat), .int (o.day : Nat)]) := upd_same
              generalize upd H' t0 (.lst [.int (o.number : Nat), .int (idAt t o.school : Nat), .int (o.day : Nat)]) = H5 at s5 l5 t5
              get_elem_tactic_extensible
              refine ⟨e4.trans ((Ext.same s5).trans .upd), ⟨_, rfl⟩, ?_⟩
              rw [rs, List.map_append]
              exact upd_same
            · rw [if_neg (by omega), List.append_nil] at rs
              exact ⟨e4, ⟨_, rfl⟩, by rw [rs]; exact l4⟩
          · obtain ⟨e4, ⟨z5, rfl⟩, l4⟩ := q1.h
            have hz := e4 _ _ h3 (ne_of h3 l3 (by intro c; cases c))
            refine ⟨hz, ?_⟩
            have sF : Same H1 (upd H' a1.od (.dK (offK t a1))) := fun b o hb => by
              have nb : b ≠ L := Same.ne hb hL
              by_cases c : b = a1.od
              · subst c
                rw [upd_same, ← hb, p1.od]
              · rw [upd_ne c]
                exact e4 _ _ (u2 _ _ (s2 _ _ hb) c) nb
            have nL : L ≠ a1.od := Same.ne p1.od hL |>.symm
            have l4 : upd H' a1.od (.dK (offK t a1)) L = some (.lst ((rowN t s.next (offK t a1).length).map .int)) := by rw [upd_ne nL]; exact l4
            generalize upd H' a1.od (.dK (offK t a1)) = HF at sF l4
            have p5 := p1.same sF
            obtain ⟨dh, h1⟩ := p5.hs
            have ol : t.offers.length ≤ 60 := by
              have := gt.us
              have := gt.ru.places
              unfold Vbdbam.used at *
              omega
            have rl := rowN_len (s := t) (b := s.next) (i := (offK t a1).length)
            have ll : ([V.int (t.day : Nat)] : List V).length + ((rowN t s.next (offK t a1).length).map V.int).length ≤ sizeLine := by
              rw [List.length_map]
              exact Nat.le_trans (Nat.add_le_add_left (Nat.le_trans rl (Nat.mul_le_mul_left 3 ol)) 1) (by decide)
            (refine Stop.go ?_; get_elem_tactic_extensible)
            intro t0 ht0
            have s5 := Same.new (o := .lst [.int (t.day : Nat)]) ht0
            have l5 := s5 _ _ l4
            have t5 : upd HF t0 (.lst [.int (t.day : Nat)]) t0 = some (.lst [.int (t.day : Nat)]) := upd_same
            generalize upd HF t0 (.lst [.int (t.day : Nat)]) = H6 at s5 l5 t5
            get_elem_tactic_extensible
            have eo : (offK t a1).length = t.offers.length := by simp [offK]
            refine q.go ⟨p5.same s5, n1.le, n1.sa, n1.frm.trans (.of_same (sF.trans s5))⟩ rfl ?_
            rw [eo]
            unfold rowN
            rw [List.take_length]
            simp [flat, Vbdbam.ints]
  · get_elem_tactic_extensible
    exact q.no p (Same.refl H) (by simp [Vbdbam.step, Vbdbam.onSchool, Vbdbam.onOffer, Vbdbam.unlessClosed, Vbdbam.no, in_lo (hi := 30) c1]; first | done | rfl) (by rfl)
end EH

/-! ## EHC8 -/
namespace EH
open PySem PySem.Spec PyProof.Rows L2 EHR
local macro_rules | `(tactic| decreasing_trivial_pre_omega) => `(tactic| first
  | assumption
  | rfl
  | exact lk_here
  | exact Txt.cl_Ledger (by assumption) | exact Txt.cl_Rules (by assumption) | exact Txt.cl_School (by assumption) | exact Txt.cl_Offer (by assumption) | exact Txt.cl_House (by assumption)
  | exact Txt.na_Ledger (by assumption) _ (by decide +kernel) | exact Txt.na_Rules (by assumption) _ (by decide +kernel) | exact Txt.na_School (by assumption) _ (by decide +kernel) | exact Txt.na_Offer (by assumption) _ (by decide +kernel) | exact Txt.na_House (by assumption) _ (by decide +kernel)
  | exact (lk_past (by decide +kernel)).trans lk_here
  | exact (lk_past (by decide +kernel)).trans ((lk_past (by decide +kernel)).trans lk_here)
  | exact (lk_past (by decide +kernel)).trans ((lk_past (by decide +kernel)).trans ((lk_past (by decide +kernel)).trans lk_here))
  | exact (lk_past (by decide +kernel)).trans ((lk_past (by decide +kernel)).trans ((lk_past (by decide +kernel)).trans ((lk_past (by decide +kernel)).trans lk_here)))
  | exact (lk_past (by decide +kernel)).trans ((lk_past (by decide +kernel)).trans ((lk_past (by decide +kernel)).trans ((lk_past (by decide +kernel)).trans ((lk_past (by decide +kernel)).trans lk_here))))
  | exact (lk_past (by decide +kernel)).trans ((lk_past (by decide +kernel)).trans ((lk_past (by decide +kernel)).trans ((lk_past (by decide +kernel)).trans ((lk_past (by decide +kernel)).trans ((lk_past (by decide +kernel)).trans lk_here)))))
  | exact SqL.of (by assumption) | exact SqT.of (by assumption)
  | exact Or.inl (SqL.of (by assumption)) | exact Or.inr (SqT.of (by assumption)) | exact Or.inl (by assumption) | exact Or.inr (by assumption)
  | exact atI0 rfl | exact atI_nat (j := 1) rfl | exact atI_nat (j := 2) rfl
  | exact Or.inl ⟨rfl, _, SqL.of (by assumption)⟩
  | exact Nat.le_of_ble_eq_true rfl
  | exact Same.at1 (by assumption) (by assumption)
  | exact SqL.of (Same.at1 (by assumption) (by assumption)) | exact SqT.of (Same.at1 (by assumption) (by assumption)) | exact Or.inl (SqL.of (Same.at1 (by assumption) (by assumption))) | exact Or.inr (SqT.of (Same.at1 (by assumption) (by assumption)))
  | exact ⟨_, by assumption⟩ | exact ⟨_, rfl⟩ | trivial
  | exact dput_i (by assumption) (by assumption) | exact dput_s (by assumption) (by assumption) | exact kV_i | exact kV_s | exact isD_k (by assumption)
  | exact upd_same)
local macro_rules | `(tactic| get_elem_tactic_extensible) => `(tactic| repeat (first
  | refine And.intro (by decreasing_trivial_pre_omega) ?_
  | apply Exists.intro (α := V) | apply Exists.intro (α := Addr) | apply Exists.intro (α := List V) | apply Exists.intro (α := Int) | apply Exists.intro (α := Bool)
  | apply Exists.intro (α := List (Str × V)) | apply Exists.intro (α := Str) | apply Exists.intro (α := List (Key × V)) | apply Exists.intro (α := Option V)
  | apply Exists.intro (α := List Int) | apply Exists.intro (α := List Bool) | apply Exists.intro (α := List Str) | apply Exists.intro (α := Obj) | apply Exists.intro (α := List En) | apply Exists.intro (α := HAd) | apply Exists.intro (α := Vbdbam.State) | apply Exists.intro (α := Vbdbam.Rules) | apply Exists.intro (α := Hp) | apply Exists.intro (α := Key) | apply Exists.intro (α := Nat) | apply Exists.intro (α := Wd) | apply Exists.intro (α := Wd → List Int) | apply Exists.intro (α := Nat → Int) | apply Exists.intro (α := List Nat) | apply Exists.intro (α := List (List Nat)) | apply Exists.intro (α := List (List (List Nat)))))
local macro_rules | `(tactic| decreasing_trivial) => `(tactic| (intro vs H Q E h; repeat (first | (obtain ⟨e, _⟩ := h; subst e; rfl) | (obtain ⟨_, h⟩ := h))))

open Vbdbam (State Ans setSchool schoolAt idAt placeOf)
def rowC (s : State) (i : Nat) : List Int := (List.range i).flatMap fun i => [(idAt s i : Int), ((schoolAt s i).has_ : Int), (Vbdbam.missing s i : Int)]
theorem rowC_succ {s : State} {i : Nat} : rowC s (i + 1) = rowC s i ++ [(idAt s i : Int), ((schoolAt s i).has_ : Int), (Vbdbam.missing s i : Int)] := by
  unfold rowC
  rw [List.range_succ, List.flatMap_append]
  simp
theorem rowC_len {s : State} : ∀ i, (rowC s i).length = 3 * i
  | 0 => rfl
  | i + 1 => by
    rw [rowC_succ, List.length_append, rowC_len i]
    simp
    omega
theorem swings_eq {r : Vbdbam.Rules} {n : Nat} (h : 0 < r.form) (h4 : r.form ≤ 4) : (-(n : Int)) % (r.form : Nat) = (Vbdbam.swings r n : Nat) := by
  unfold Vbdbam.swings
  generalize r.form = f at *
  have : f = 1 ∨ f = 2 ∨ f = 3 ∨ f = 4 := by omega
  rcases this with c | c | c | c <;> subst c <;> omega
def sp_close (K : PySem.W.Frag) (A : Ad) : Sp := fun vs H Q _ => ∃ (h : Addr) (a : HAd) (s : State), vs = [.ref h] ∧ At K A H h a s ∧ Gd s ∧ Done K A H h a (Vbdbam.step s .close) Q
theorem ok_close {P : Program} {w : World} {K : PySem.W.Frag} {mg : Str → Option Value} {base : Heap} {A : Ad} (T : Txt w K mg A) : C8.Cal P w K mg base 5 "close" (sp_close K A) [] := by
  refine calOf T.d_close sc_close (by decreasing_trivial) (fun cdv Ar outer s0 H vs Q E hr hsp => ⟨_, (pss_cons (ps_stop (ps_if (pt_val (pe_fld (pv 0) rfl)) (pss_one (ps_ret (pe_lst (pa_cons (pe_un un_neg (C8.pe_gc rfl T.c_CLOSED)) pa_nil)))) pss_nil))
 (pss_cons (ps_stop (ps_if (pt_cmpR op_lt (pe_fld (pv 0) rfl) (C8.pe_mt (ok_Rules_one T) hr (by decide) (pe_fld (pv 0) rfl) (pa_cons pe_str pa_nil)) (nomark _)) (pss_one (ps_ret (pe_lst (pa_cons (pe_un un_neg (C8.pe_gc rfl T.c_NOT_ENOUGH)) pa_nil)))) pss_nil))
 (pss_cons (ps_stop (ps_if (pt_not (pt_val (C8.pe_mt (ok_Ledger_has_room T) hr (by decide) (pe_fld (pv 0) rfl) (pa_cons (pe_callB call_lenD (by rfl) T.n_len (by decide +kernel) (pa_cons (pe_fld (pv 0) rfl) pa_nil)) pa_nil)))) (pss_one (ps_ret (pe_lst (pa_cons (pe_un un_neg (C8.pe_gc rfl T.c_NO_ROOM)) pa_nil)))) pss_nil))
 (pss_cons (ps_stop (ps_expr (C8.pe_mt0 (ok_House_shut T) hr (by decide) (pv 0))))
 (pss_cons (ps_stop (ps_set (i := 1) sc_close.nd rfl (Or.inl rfl) (pe_op op_mod (pe_un un_neg (C8.pe_mt0 (ok_House_taken T) hr (by decide) (pv 0))) (C8.pe_mt (ok_Rules_one T) hr (by decide) (pe_fld (pv 0) rfl) (pa_cons pe_str pa_nil)))))
 (pss_cons (ps_stop (ps_set (i := 2) sc_close.nd rfl (Or.inl rfl) (pe_lst pa_nil)))
 (pss_cons (ps_stop (ps_lock (ps_for PassesOwn.never rfl (pi_values (pe_fld (pv 0) rfl)) (pg_name (i := 3) sc_close.nd rfl (Or.inl rfl))
  (pss_one (ps_stop (ps_expr (pe_bm PySem.F.plainAttrs_list PySem.F.slot_list_extend PySem.F.type_list_extend mt_extend (pv 2) (pa_cons (pe_lst (pa_cons (pe_fld (pv 3) rfl) (pa_cons (pe_fld (pv 3) rfl) (pa_cons (C8.pe_mt (ok_House_missing T) hr (by decide) (pv 0) (pa_cons (pv 3) pa_nil)) pa_nil)))) pa_nil))))))))
 (pss_one (ps_stop (ps_ret (pe_op op_cat (pe_lst (pa_cons (C8.pe_mt0 (ok_House_taken T) hr (by decide) (pv 0)) (pa_cons pe_int (pa_cons (pv 1) (pa_cons (pe_callB call_len_seq (by rfl) T.n_len (by decide +kernel) (pa_cons (pv 2) pa_nil)) pa_nil))))) (pv 2)))))))))))), ?_⟩)
  obtain ⟨h, a, s, rfl, p, gd, q⟩ := hsp
  obtain ⟨dh, h1⟩ := p.hs
  (refine Stop.go ?_; get_elem_tactic_extensible)
  cases hcl : s.closed with
  | true =>
    refine ift ?_
    get_elem_tactic_extensible
    exact q.no p (Same.refl H) (by simp [Vbdbam.step, Vbdbam.onSchool, Vbdbam.onOffer, Vbdbam.unlessClosed, Vbdbam.no, hcl]; first | done | rfl) (by rfl)
  | false =>
    refine iff' ?_
    have o1 : One K A H a.ru "start" (s.rules.start : Nat) := p.ru.one .start rfl
    obtain ⟨dr, tr, h7⟩ := o1.rcd
    (refine Stop.go ?_; get_elem_tactic_extensible)
    refine ifd (fun c1 => ?_) fun c1 => ?_
    · get_elem_tactic_extensible
      have c1 : s.day < s.rules.start := by omega
      exact q.no p (Same.refl H) (by simp [Vbdbam.step, Vbdbam.onSchool, Vbdbam.onOffer, Vbdbam.unlessClosed, Vbdbam.no, hcl, c1]; first | done | rfl) (by rfl)
    · have c1 : ¬ s.day < s.rules.start := by omega
      obtain ⟨dl, h4⟩ := p.lg
      obtain ⟨es, h5, h6⟩ := p.le
      have elen : es.length = s.money.length := by rw [h6.len]; simp [ents]
      have h2 := p.sd
      have sl : (schK s a).length = s.schools.length := schK_len
      (refine Stop.go ?_; get_elem_tactic_extensible)
      refine ifn (fun c2 => ?_) fun c2 => ?_
      · get_elem_tactic_extensible
        have hm : Vbdbam.MOSTMONEY < s.money.length + s.schools.length := by unfold Vbdbam.MOSTMONEY; omega
        exact q.no p (Same.refl H) (by simp [Vbdbam.step, Vbdbam.onSchool, Vbdbam.onOffer, Vbdbam.unlessClosed, Vbdbam.no, hcl, c1, hm]; first | done | rfl) (by rfl)
      · have hm : ¬ Vbdbam.MOSTMONEY < s.money.length + s.schools.length := by unfold Vbdbam.MOSTMONEY; omega
        have ms := gd.ms
        have n30 := gd.n
        have n100 : s.schools.length ≤ 100 := by omega
        have m800 : s.money.length ≤ 800 := Nat.le_trans gd.mm (by decide)
        have fb : s.rules.fine < 1000000 := Nat.lt_of_le_of_lt gd.ru.fine (by decide)
        have pr := gd.ru.per.1
        have pr' : s.rules.per < 1000 := Nat.lt_of_le_of_lt gd.ru.per.2 (by decide)
        have hb : ∀ i, i < s.schools.length → (schoolAt s i).has_ < 1000000 := fun i hi => Nat.lt_of_le_of_lt (gd.has hi) (by decide)
        have od := gd.od
        have os := gd.os
        have ol : s.offers.length ≤ 1000000 := by
          have := gd.us
          have := gd.ru.places
          unfold Vbdbam.used at *
          omega
        have hr : Vbdbam.step s .close = (shutS s, ⟨(Vbdbam.total (s.schools.map fun x => x.has_) : Nat), [Vbdbam.ints [Vbdbam.swings s.rules (Vbdbam.total (s.schools.map fun x => x.has_))], (List.range s.schools.length).flatMap fun i => Vbdbam.ints [idAt s i, (schoolAt s i).has_, Vbdbam.missing s i]]⟩) := by
          simp only [Vbdbam.step, unless_open hcl, if_neg c1, if_neg hm]
          rfl
        rw [hr] at q
        (refine Stop.go ?_; get_elem_tactic_extensible)
        intro H1 a1 n1 e1
        subst e1
        have p1 := n1.at'
        have es1 : (shutS s).schools = s.schools := rfl
        have er1 : (shutS s).rules = s.rules := rfl
        have ea1 : ∀ i, schoolAt (shutS s) i = schoolAt s i := fun _ => rfl
        have ei1 : ∀ i, idAt (shutS s) i = idAt s i := fun _ => rfl
        have em1 : ∀ i, Vbdbam.missing (shutS s) i = Vbdbam.missing s i := fun _ => rfl
        generalize shutS s = t at *
        obtain ⟨dh, h1⟩ := p1.hs
        have tl : t.schools.length ≤ 1000 := by rw [es1]; omega
        have o2 : One K A H1 a1.ru "form" (t.rules.form : Nat) := p1.ru.one .form rfl
        obtain ⟨dr, tr, h7⟩ := o2.rcd
        have fp : (0 : Int) < (t.rules.form : Nat) := by rw [er1]; have := gd.ru.form.1; omega
        (refine Stop.go ?_; get_elem_tactic_extensible)
        intro H2 s2
        have p2 := p1.same s2
        have h1 := s2 _ _ h1
        have h7 := s2 _ _ h7
        have o2 : One K A H2 a1.ru "form" (t.rules.form : Nat) := p2.ru.one .form rfl
        get_elem_tactic_extensible
        have sw : (-((Vbdbam.total (t.schools.map fun x => x.has_) : Nat) : Int)) % (t.rules.form : Nat) = (Vbdbam.swings s.rules (Vbdbam.total (s.schools.map fun x => x.has_)) : Nat) := by
          rw [es1, er1]
          exact swings_eq gd.ru.form.1 gd.ru.form.2
        dsimp only
        rw [sw]
        generalize Vbdbam.swings s.rules (Vbdbam.total (s.schools.map fun x => x.has_)) = swg at q
        refine Stop.go ?_
        get_elem_tactic_extensible
        intro L hL
        have s3 := Same.new (o := .lst []) hL
        have l3 : upd H2 L (.lst []) L = some (.lst []) := upd_same
        have p3 := p2.same s3
        generalize upd H2 L (.lst []) = H3 at s3 l3 p3
        have nle : a1.le ≠ L := by
          obtain ⟨es, g, _⟩ := p2.le
          exact Same.ne g hL
        refine Stop.go ?_
        refine ⟨a1.sd, _, p3.sd, trivial, fun od => ?_⟩
        have pl := p3.prt.lock (o := .frz od (.dK (schK t a1))) p3.sd p3.d2
        have h3 : upd H3 a1.sd (.frz od (.dK (schK t a1))) a1.sd = some (.frz od (.dK (schK t a1))) := upd_same
        have l4 : upd H3 a1.sd (.frz od (.dK (schK t a1))) L = some (.lst []) := keepS l3 p3.sd rfl
        have u2 : ∀ b o, H3 b = some o → b ≠ a1.sd → upd H3 a1.sd (.frz od (.dK (schK t a1))) b = some o := fun b o h n => by rw [upd_ne n]; exact h
        generalize upd H3 a1.sd (.frz od (.dK (schK t a1))) = H4 at pl h3 l4 u2
        obtain ⟨dh, h1⟩ := pl.hs
        get_elem_tactic_extensible
        refine for_it walk_values (fun i σ H' => Hold (Ext L H4 H' ∧ (∃ z3, σ = [some (.ref h), some (.int (swg : Nat)), some (.ref L), z3]) ∧ H' L = some (.lst ((rowC t i).map .int)))) ⟨.refl, ⟨_, rfl⟩, l4⟩ (fun i σ H' _ q => q.h.1 _ _ h3 (ne_of h3 l4 (by intro c; cases c))) (fun i x σ H5 H' hi y0 y => ?_) (fun σ H' q1 => ?_)
        · obtain ⟨rfl, k2, hx⟩ := y
          obtain ⟨e4, ⟨z3, rfl⟩, l5⟩ := y0.h
          obtain ⟨hi', rfl, rfl⟩ := schK_at hx
          have p5 := pl.ext l4 nle e4
          obtain ⟨dh, h1⟩ := p5.hs
          obtain ⟨dc, h6⟩ := p5.sc i hi'
          have r1 : Rls K A H' a1.ru t.rules := ⟨_, p5.ru⟩
          obtain ⟨dr, tr, h7⟩ := r1.rcd
          have b1 : 0 < t.rules.per := by rw [er1]; exact pr
          have b2 : t.rules.per < 1000 := by rw [er1]; exact pr'
          have b3 : (schoolAt t i).has_ < 1000000 := by rw [ea1]; exact hb i (by rw [← es1]; exact hi')
          have ll : ((rowC t i).map V.int).length + ([.int (idAt t i : Nat), .int ((schoolAt t i).has_ : Nat), .int (Vbdbam.owed t.rules (schoolAt t i).has_ - (schoolAt t i).judges : Nat)] : List V).length ≤ sizeLine := by
            have i30 : i < 30 := by rw [es1] at hi'; omega
            rw [List.length_map, rowC_len]
            exact Nat.le_trans (Nat.add_le_add_right (Nat.mul_le_mul_left 3 (Nat.le_of_lt i30)) _) (show 3 * 30 + 3 ≤ sizeLine by decide)
          refine Stop.go ?_
          get_elem_tactic_extensible
          intro t0 ht0
          have s5 := Same.new (o := .lst [.int (idAt t i : Nat), .int ((schoolAt t i).has_ : Nat), .int (Vbdbam.owed t.rules (schoolAt t i).has_ - (schoolAt t i).judges : Nat)]) ht0
          have l6 := s5 _ _ l5
          have t5 : upd H' t0 (.lst [.int (idAt t i : Nat), .int ((schoolAt t i).has_ : Nat), .int (Vbdbam.owed t.rules (schoolAt t i).has_ - (schoolAt t i).judges : Nat)]) t0 = some (.lst [.int (idAt t i : Nat), .int ((schoolAt t i).has_ : Nat), .int (Vbdbam.owed t.rules (schoolAt t i).has_ - (schoolAt t i).judges : Nat)]) := upd_same
          generalize upd H' t0 (.lst [.int (idAt t i : Nat), .int ((schoolAt t i).has_ : Nat), .int (Vbdbam.owed t.rules (schoolAt t i).has_ - (schoolAt t i).judges : Nat)]) = H6 at s5 l6 t5
          get_elem_tactic_extensible
          refine ⟨e4.trans ((Ext.same s5).trans .upd), ⟨_, rfl⟩, ?_⟩
          rw [rowC_succ, List.map_append]
          exact upd_same
        · obtain ⟨e4, ⟨z5, rfl⟩, l5⟩ := q1.h
          rw [schK_len] at l5
          have hz := e4 _ _ h3 (ne_of h3 l4 (by intro c; cases c))
          refine ⟨hz, ?_⟩
          have sF : Same H1 (upd H' a1.sd (.dK (schK t a1))) := fun b o hb => by
            have hb2 := s2 _ _ hb
            have nb : b ≠ L := Same.ne hb2 hL
            by_cases c : b = a1.sd
            · subst c
              rw [upd_same, ← hb, p1.sd]
            · rw [upd_ne c]
              exact e4 _ _ (u2 _ _ (s3 _ _ hb2) c) nb
          have nL : L ≠ a1.sd := Same.ne p2.sd hL |>.symm
          have l5 : upd H' a1.sd (.dK (schK t a1)) L = some (.lst ((rowC t t.schools.length).map .int)) := by rw [upd_ne nL]; exact l5
          generalize upd H' a1.sd (.dK (schK t a1)) = HF at sF l5
          have p5 := p1.same sF
          refine Stop.go ?_
          get_elem_tactic_extensible
          intro H7 s7
          have l7 := SqL.of (K := K) (s7 _ _ l5)
          have l8 := s7 _ _ l5
          get_elem_tactic_extensible
          intro t0 ht0
          generalize ehd : [V.int (Vbdbam.total (t.schools.map fun x => x.has_) : Nat), V.int 1, V.int (swg : Nat), V.int (((rowC t t.schools.length).map V.int).length : Nat)] = hd4
          have s9 := Same.new (o := .lst hd4) ht0
          have l9 := s9 _ _ l8
          have t9 : upd H7 t0 (.lst hd4) t0 = some (.lst hd4) := upd_same
          generalize upd H7 t0 (.lst hd4) = H9 at s9 l9 t9
          have ll : hd4.length + ((rowC t t.schools.length).map V.int).length ≤ sizeLine := by
            rw [← ehd, List.length_map, rowC_len, es1]
            exact Nat.le_trans (Nat.add_le_add_left (Nat.mul_le_mul_left 3 n30) _) (show 4 + 3 * 30 ≤ sizeLine by decide)
          get_elem_tactic_extensible
          refine q.go ⟨p5.same (s7.trans s9), n1.le, n1.sa, n1.frm.trans (.of_same (sF.trans (s7.trans s9)))⟩ rfl ?_
          have er : rowC t t.schools.length = (List.range s.schools.length).flatMap fun i => Vbdbam.ints [idAt s i, (schoolAt s i).has_, Vbdbam.missing s i] := by
            rw [es1]
            unfold rowC
            congr 1
            funext i
            rw [ei1, ea1, em1]
            rfl
          rw [← ehd, ← er, es1]
          simp [flat, Vbdbam.ints]
end EH

/-! ## EHC9 -/
namespace EH
open PySem PySem.Spec PyProof.Rows L2 EHR
local macro_rules | `(tactic| decreasing_trivial_pre_omega) => `(tactic| first
  | assumption
  | rfl
  | exact lk_here
  | exact Txt.cl_Ledger (by assumption) | exact Txt.cl_Rules (by assumption) | exact Txt.cl_School (by assumption) | exact Txt.cl_Offer (by assumption) | exact Txt.cl_House (by assumption)
  | exact Txt.na_Ledger (by assumption) _ (by decide +kernel) | exact Txt.na_Rules (by assumption) _ (by decide +kernel) | exact Txt.na_School (by assumption) _ (by decide +kernel) | exact Txt.na_Offer (by assumption) _ (by decide +kernel) | exact Txt.na_House (by assumption) _ (by decide +kernel)
  | exact (lk_past (by decide +kernel)).trans lk_here
  | exact (lk_past (by decide +kernel)).trans ((lk_past (by decide +kernel)).trans lk_here)
  | exact (lk_past (by decide +kernel)).trans ((lk_past (by decide +kernel)).trans ((lk_past (by decide +kernel)).trans lk_here))
  | exact (lk_past (by decide +kernel)).trans ((lk_past (by decide +kernel)).trans ((lk_past (by decide +kernel)).trans ((lk_past (by decide +kernel)).trans lk_here)))
  | exact (lk_past (by decide +kernel)).trans ((lk_past (by decide +kernel)).trans ((lk_past (by decide +kernel)).trans ((lk_past (by decide +kernel)).trans ((lk_past (by decide +kernel)).trans lk_here))))
  | exact (lk_past (by decide +kernel)).trans ((lk_past (by decide +kernel)).trans ((lk_past (by decide +kernel)).trans ((lk_past (by decide +kernel)).trans ((lk_past (by decide +kernel)).trans ((lk_past (by decide +kernel)).trans lk_here)))))
  | exact SqL.of (by assumption) | exact SqT.of (by assumption)
  | exact Or.inl (SqL.of (by assumption)) | exact Or.inr (SqT.of (by assumption)) | exact Or.inl (by assumption) | exact Or.inr (by assumption)
  | exact atI0 rfl | exact atI_nat (j := 1) rfl | exact atI_nat (j := 2) rfl
  | exact Or.inl ⟨rfl, _, SqL.of (by assumption)⟩
  | exact Nat.le_of_ble_eq_true rfl
  | exact Same.at1 (by assumption) (by assumption)
  | exact SqL.of (Same.at1 (by assumption) (by assumption)) | exact SqT.of (Same.at1 (by assumption) (by assumption)) | exact Or.inl (SqL.of (Same.at1 (by assumption) (by assumption))) | exact Or.inr (SqT.of (Same.at1 (by assumption) (by assumption)))
  | exact ⟨_, by assumption⟩ | exact ⟨_, rfl⟩ | trivial
  | exact dput_i (by assumption) (by assumption) | exact dput_s (by assumption) (by assumption) | exact kV_i | exact kV_s | exact isD_k (by assumption)
  | exact upd_same)
local macro_rules | `(tactic| get_elem_tactic_extensible) => `(tactic| repeat (first
  | refine And.intro (by decreasing_trivial_pre_omega) ?_
  | apply Exists.intro (α := V) | apply Exists.intro (α := Addr) | apply Exists.intro (α := List V) | apply Exists.intro (α := Int) | apply Exists.intro (α := Bool)
  | apply Exists.intro (α := List (Str × V)) | apply Exists.intro (α := Str) | apply Exists.intro (α := List (Key × V)) | apply Exists.intro (α := Option V)
  | apply Exists.intro (α := List Int) | apply Exists.intro (α := List Bool) | apply Exists.intro (α := List Str) | apply Exists.intro (α := Obj) | apply Exists.intro (α := List En) | apply Exists.intro (α := HAd) | apply Exists.intro (α := Vbdbam.State) | apply Exists.intro (α := Vbdbam.Rules) | apply Exists.intro (α := Hp) | apply Exists.intro (α := Key) | apply Exists.intro (α := Nat) | apply Exists.intro (α := Wd) | apply Exists.intro (α := Wd → List Int) | apply Exists.intro (α := Nat → Int) | apply Exists.intro (α := List Nat) | apply Exists.intro (α := List (List Nat)) | apply Exists.intro (α := List (List (List Nat)))))
local macro_rules | `(tactic| decreasing_trivial) => `(tactic| (intro vs H Q E h; repeat (first | (obtain ⟨e, _⟩ := h; subst e; rfl) | (obtain ⟨_, h⟩ := h))))

open Vbdbam (State Ans setSchool schoolAt idAt placeOf)
def rowO (s : State) (o : Vbdbam.Offer) : List Int := [(o.number : Int), (idAt s o.school : Int), (o.day : Int), ((o.day + s.rules.answer : Nat) : Int)]
/-- lists at v's places, none of them at D -/
def RwAt (D : Addr) (H : Hp) (v : V) (l : List Int) : Prop := ∃ c, v = .ref c ∧ c ≠ D ∧ H c = some (.lst (l.map .int))
abbrev RwL (D : Addr) (H : Hp) (es : List V) (l : List (List Int)) : Prop := Paired (RwAt D H) es l
theorem RwL.keep {D : Addr} {H H' : Hp} (s : ∀ c o, H c = some o → c ≠ D → H' c = some o) : ∀ {es : List V} {l : List (List Int)}, RwL D H es l → RwL D H' es l
  | _, _, .nil => .nil
  | _, _, .cons ⟨c, h1, n, h2⟩ t => .cons ⟨c, h1, n, s _ _ h2 n⟩ (RwL.keep s t)
theorem RwL.at {D : Addr} {H : Hp} : ∀ {es : List V} {l : List (List Int)} {i : Nat} {v : V}, RwL D H es l → es[i]? = some v → ∃ r, l[i]? = some r ∧ RwAt D H v r
  | _, _, _, _, .nil, h => by simp at h
  | _, _, 0, _, .cons h _, e => by simp at e; subst e; exact ⟨_, rfl, h⟩
  | _, _, i + 1, _, .cons _ t, e => by
    obtain ⟨x, h1, h2⟩ := RwL.at (i := i) t (by simpa using e)
    exact ⟨x, by simpa using h1, h2⟩
def sp_tell_offers (K : PySem.W.Frag) (A : Ad) : Sp := fun vs H Q _ => ∃ (h : Addr) (a : HAd) (s : State), vs = [.ref h] ∧ At K A H h a s ∧ Gd s ∧ Done K A H h a (Vbdbam.step s .offers) Q
theorem ok_tell_offers {P : Program} {w : World} {K : PySem.W.Frag} {mg : Str → Option Value} {base : Heap} {A : Ad} (T : Txt w K mg A) : C8.Cal P w K mg base 3 "tell_offers" (sp_tell_offers K A) [] := by
  refine calOf T.d_tell_offers sc_tell_offers (by decreasing_trivial) (fun cdv Ar outer s0 H vs Q E hr hsp => ⟨_, (pss_cons (ps_stop (ps_lock (ps_setLc (i := 1) (own := [("offer", 4)]) (g := gName 4) (tt := tYes) (te := (tLst (tCons (tFld K (tVar 4) "number") (tCons (tFld K (tFld K (tVar 4) "school") "number") (tCons (tFld K (tVar 4) "day") (tCons (tMeth A.cHouse "last_day" (sp_House_last_day K A) [] C8.E0 (tVar 0) (tCons (tVar 4) tNil)) tNil)))))) (by rfl) sc_tell_offers.nd rfl rfl (sw_true rfl rfl rfl (by decide +kernel)) (pi_values (pe_fld (pv 0) rfl)) (blkOk_by (own := [("offer", 4)]) (N := N_tell_offers) (sc := C8.fnScope s_tell_offers) (by decide +kernel)) (fun _ _ _ _ _ => pg_name (i := 4) sc_tell_offers.nd rfl (Or.inl rfl)) (fun _ _ _ _ _ => pts_nil) (fun _ _ _ _ _ => (pe_lst (pa_cons (pe_fld (pv 4) rfl) (pa_cons (pe_fld (pe_fld (pv 4) rfl) rfl) (pa_cons (pe_fld (pv 4) rfl) (pa_cons (C8.pe_mt (ok_House_last_day T) hr (by decide) (pv 0) (pa_cons (pv 4) pa_nil)) pa_nil)))))))))
 (pss_cons (ps_stop (ps_if (pt_cmpR op_eq (pe_callB call_len_seq (by rfl) T.n_len (by decide +kernel) (pa_cons (pv 1) pa_nil)) pe_int (nomark _)) (pss_one (ps_ret (pe_op op_cat (pe_lst (pa_cons pe_int pa_nil)) (pe_ix ix_list (pv 1) pe_int (fun _ _ => rfl))))) pss_nil))
 (pss_cons (ps_stop (ps_set (i := 2) sc_tell_offers.nd rfl (Or.inl rfl) (pe_lst (pa_cons (pe_callB call_len_seq (by rfl) T.n_len (by decide +kernel) (pa_cons (pv 1) pa_nil)) pa_nil))))
 (pss_cons (ps_stop (ps_for PassesOwn.never rfl (pi_list (pv 1)) (pg_name (i := 3) sc_tell_offers.nd rfl (Or.inl rfl))
  (pss_one (ps_stop (ps_expr (pe_bm PySem.F.plainAttrs_list PySem.F.slot_list_extend PySem.F.type_list_extend mt_extend (pv 2) (pa_cons (pe_op op_cat (pe_lst (pa_cons (pe_callB call_len_seq (by rfl) T.n_len (by decide +kernel) (pa_cons (pv 3) pa_nil)) pa_nil)) (pv 3)) pa_nil)))))))
 (pss_one (ps_stop (ps_ret (pv 2)))))))), ?_⟩)
  obtain ⟨h, a, s, rfl, p, gd, q⟩ := hsp
  obtain ⟨dh, h1⟩ := p.hs
  refine Stop.go ?_
  refine ⟨a.od, _, p.od, trivial, fun od => ?_⟩
  have pl := p.prt.lock (o := .frz od (.dK (offK s a))) p.od p.d3
  have h3 : upd H a.od (.frz od (.dK (offK s a))) a.od = some (.frz od (.dK (offK s a))) := upd_same
  have ul := fun H' => unlock (H' := H') (od := od) p.od
  generalize upd H a.od (.frz od (.dK (offK s a))) = H1 at pl h3 ul
  obtain ⟨dh, h1⟩ := pl.hs
  get_elem_tactic_extensible
  intro D hD
  have ol : s.offers.length ≤ 60 := by
    have := gd.us
    have := gd.ru.places
    unfold Vbdbam.used at *
    omega
  have olen : (offK s a).length = s.offers.length := by simp [offK]
  refine lc_it walk_values (fun i H' => Hold (Same H1 H' ∧ ∃ acc, H' D = some (.lst acc) ∧ RwL D H' acc ((s.offers.take i).map (rowO s)))) ⟨Same.new hD, [], upd_same, .nil⟩ (fun i H' _ q => q.h.1 _ _ h3) (fun i x H2 H' hi y0 y => ?_) (fun H2 q1 => ?_)
  · obtain ⟨rfl, k2, hx⟩ := y
    obtain ⟨s2, acc, ld, ra⟩ := y0.h
    obtain ⟨o, ho, rfl⟩ := offK_at hx
    have om := List.mem_of_getElem? ho
    have p2 := pl.same s2
    obtain ⟨dh, h1⟩ := p2.hs
    obtain ⟨dof, h5⟩ := p2.of o om
    obtain ⟨dc, h6⟩ := p2.sc _ (gd.os o om)
    have o1 : One K A H' a.ru "answer" (s.rules.answer : Nat) := p2.ru.one .answer rfl
    have lacc : acc.length < sizeLine := by
      have := ra.length
      rw [List.length_map, List.length_take] at this
      exact lt_line (by omega)
    get_elem_tactic_extensible
    intro t0 ht0
    have s5 := Same.new (o := .lst [.int (o.number : Nat), .int (idAt s o.school : Nat), .int (o.day : Nat), .int ((o.day : Nat) + (s.rules.answer : Nat))]) ht0
    have nt : t0 ≠ D := (Same.ne ld ht0).symm
    have ld := s5 _ _ ld
    have t5 : upd H' t0 (.lst [.int (o.number : Nat), .int (idAt s o.school : Nat), .int (o.day : Nat), .int ((o.day : Nat) + (s.rules.answer : Nat))]) t0 = some (.lst [.int (o.number : Nat), .int (idAt s o.school : Nat), .int (o.day : Nat), .int ((o.day : Nat) + (s.rules.answer : Nat))]) := upd_same
    generalize upd H' t0 (.lst [.int (o.number : Nat), .int (idAt s o.school : Nat), .int (o.day : Nat), .int ((o.day : Nat) + (s.rules.answer : Nat))]) = H5 at s5 ld t5
    have s6 : ∀ c o, H' c = some o → c ≠ D → upd H5 D (.lst (acc ++ [.ref t0])) c = some o := fun c o hc n => by rw [upd_ne n]; exact s5 _ _ hc
    get_elem_tactic_extensible
    refine ⟨fun b o hb => s6 b o (s2 _ _ hb) (Same.ne hb hD), _, upd_same, ?_⟩
    rw [take_one ho, List.map_append]
    refine (RwL.keep s6 ra).snoc ⟨t0, rfl, nt, ?_⟩
    rw [upd_ne nt, t5]
    rfl
  · obtain ⟨s2, acc, ld, ra⟩ := q1.h
    rw [olen, List.take_length] at ra
    have hz := s2 _ _ h3
    refine ⟨hz, ?_⟩
    have nd : D ≠ a.od := (Same.ne h3 hD).symm
    have sF := ul H2 s2
    have ld : upd H2 a.od (.dK (offK s a)) D = some (.lst acc) := by rw [upd_ne nd]; exact ld
    have ra : RwL D (upd H2 a.od (.dK (offK s a))) acc (s.offers.map (rowO s)) := ra.mono fun v l ⟨c, w1, w2, w3⟩ => ⟨c, w1, w2, by rw [upd_ne (ne_of w3 hz (by intro e; cases e))]; exact w3⟩
    have al : acc.length = s.offers.length := by rw [ra.length, List.length_map]
    dsimp only
    generalize upd H2 a.od (.dK (offK s a)) = HF at sF ld ra ⊢
    have p2 := p.same sF
    have lq := SqL.of (K := K) ld
    (refine Stop.go ?_; get_elem_tactic_extensible)
    refine ifd (fun c1 => ?_) fun c1 => ?_
    · have c1 : acc.length = 1 := Int.ofNat_inj.mp (V.int.inj c1)
      obtain ⟨o, ho⟩ : ∃ o, s.offers = [o] := List.length_eq_one_iff.mp (by omega)
      obtain ⟨v, rfl⟩ : ∃ v, acc = [v] := List.length_eq_one_iff.mp c1
      rw [ho] at ra
      obtain ⟨r, hr, c, rfl, nc, hc⟩ := RwL.at (i := 0) ra rfl
      have hr : rowO s o = r := Option.some.inj hr
      subst hr
      get_elem_tactic_extensible
      intro t0 ht0
      have s5 := Same.new (o := .lst [.int 1]) ht0
      have t5 : upd HF t0 (.lst [.int 1]) t0 = some (.lst [.int 1]) := upd_same
      generalize upd HF t0 (.lst [.int 1]) = H5 at s5 t5
      have lq := s5.seq lq
      have hc := s5 _ _ hc
      get_elem_tactic_extensible
      refine q.no p (sF.trans s5) (by simp [Vbdbam.step, Vbdbam.onSchool, Vbdbam.onOffer, Vbdbam.unlessClosed, Vbdbam.no, ho]; first | done | rfl) ?_
      rfl
    · have c1 : ¬ acc.length = 1 := fun e => c1 (by rw [e]; rfl)
      (refine Stop.go ?_; get_elem_tactic_extensible)
      intro L hL
      have s5 := Same.new (o := .lst [.int (acc.length : Nat)]) hL
      have l5 : upd HF L (.lst [.int (acc.length : Nat)]) L = some (.lst [.int (acc.length : Nat)]) := upd_same
      generalize upd HF L (.lst [.int (acc.length : Nat)]) = H5 at s5 l5
      have nL : D ≠ L := Same.ne ld hL
      have ld := s5 _ _ ld
      have lq := SqL.of (K := K) ld
      have ra : RwL L H5 acc (s.offers.map (rowO s)) := ra.mono fun v l ⟨c, w1, w2, w3⟩ => ⟨c, w1, Same.ne w3 hL, s5 _ _ w3⟩
      refine Stop.go ?_
      get_elem_tactic_extensible
      refine for_it (walk_list (xs := acc)) (fun i σ H' => Hold (Ext L H5 H' ∧ (∃ z3 z4, σ = [some (.ref h), some (.ref D), some (.ref L), z3, z4]) ∧ H' L = some (.lst (.int (acc.length : Nat) :: ((s.offers.take i).map (rowO s)).flatMap fun r => V.int (r.length : Nat) :: r.map .int)))) ⟨.refl, ⟨_, _, rfl⟩, l5⟩ (fun i σ H' _ q => SqL.of (q.h.1 _ _ ld nL)) (fun i x σ H6 H' hi y0 y => ?_) (fun σ H' q1 => ?_)
      · obtain ⟨rfl, hx⟩ := y
        obtain ⟨e6, ⟨z3, z4, rfl⟩, l6⟩ := y0.h
        obtain ⟨r, hr, c, rfl, nc, hc⟩ := RwL.at ra hx
        obtain ⟨o, ho, rfl⟩ := map_at hr
        have hc := e6 _ _ hc nc
        have hcq := SqL.of (K := K) hc
        have fl : (((s.offers.take i).map (rowO s)).flatMap fun r => V.int (r.length : Nat) :: r.map V.int).length = 5 * (s.offers.take i).length := by
          generalize s.offers.take i = l
          induction l with
          | nil => rfl
          | cons x l ih =>
            rw [List.map_cons, List.flatMap_cons, List.length_append, ih, List.length_cons]
            simp [rowO]
            omega
        have tl : (s.offers.take i).length ≤ 60 := by rw [List.length_take]; omega
        refine Stop.go ?_
        get_elem_tactic_extensible
        intro t0 ht0
        have s7 := Same.new (o := .lst [.int (((rowO s o).map V.int).length : Nat)]) ht0
        have l7 := s7 _ _ l6
        have hc := s7 _ _ hc
        have t7 : upd H' t0 (.lst [.int (((rowO s o).map V.int).length : Nat)]) t0 = some (.lst [.int (((rowO s o).map V.int).length : Nat)]) := upd_same
        generalize upd H' t0 (.lst [.int (((rowO s o).map V.int).length : Nat)]) = H7 at s7 l7 hc t7
        have hl : ([.int (((rowO s o).map V.int).length : Nat)] : List V).length + ((rowO s o).map V.int).length ≤ sizeLine := show 1 + 4 ≤ sizeLine by decide
        get_elem_tactic_extensible
        intro t1 ht1
        have s8 := Same.new (o := .lst ([.int (((rowO s o).map V.int).length : Nat)] ++ (rowO s o).map V.int)) ht1
        have l8 := s8 _ _ l7
        have t8 : upd H7 t1 (.lst ([.int (((rowO s o).map V.int).length : Nat)] ++ (rowO s o).map V.int)) t1 = some (.lst ([.int (((rowO s o).map V.int).length : Nat)] ++ (rowO s o).map V.int)) := upd_same
        generalize upd H7 t1 (.lst ([.int (((rowO s o).map V.int).length : Nat)] ++ (rowO s o).map V.int)) = H8 at s8 l8 t8
        have hl2 : (V.int (acc.length : Nat) :: ((s.offers.take i).map (rowO s)).flatMap fun r => V.int (r.length : Nat) :: r.map V.int).length + ([V.int (((rowO s o).map V.int).length : Nat)] ++ (rowO s o).map V.int).length ≤ sizeLine := by
          rw [List.length_cons, fl]
          exact Nat.le_trans (Nat.add_le_add_right (Nat.add_le_add_right (Nat.mul_le_mul_left 5 tl) 1) _) (show 5 * 60 + 1 + 5 ≤ sizeLine by decide)
        get_elem_tactic_extensible
        refine ⟨e6.trans ((Ext.same (s7.trans s8)).trans .upd), ⟨_, _, rfl⟩, ?_⟩
        rw [upd_same, take_one ho, List.map_append, List.flatMap_append]
        simp
      · obtain ⟨e6, ⟨z3, z4, rfl⟩, l6⟩ := q1.h
        rw [al, List.take_length] at l6
        (refine Stop.go ?_; get_elem_tactic_extensible)
        have sG : Same H H' := fun b o hb => e6 _ _ (s5 _ _ (sF _ _ hb)) (Same.ne (sF _ _ hb) hL)
        refine q.h _ a L (p.same sG) (.of_same sG) (.inl rfl) (fun b o hb st nl => Same.ne (sF _ _ hb) hL) ?_
        rw [l6]
        have hs : Vbdbam.step s .offers = (s, ⟨(s.offers.length : Nat), s.offers.map fun o => Vbdbam.ints [o.number, idAt s o.school, o.day, o.day + s.rules.answer]⟩) := rfl
        rw [hs]
        have he : (s.offers.map fun o => Vbdbam.ints [o.number, idAt s o.school, o.day, o.day + s.rules.answer]) = s.offers.map (rowO s) := rfl
        rw [he]
        unfold flat
        simp only [List.length_map]
        by_cases c0 : s.offers.length = 0
        · have : s.offers = [] := List.length_eq_zero_iff.mp c0
          rw [this]
          rfl
        · rw [if_neg (by omega), List.map_cons, List.map_flatMap]
          rfl
end EH

/-! ## EHX0 -/
namespace EH
open PySem PySem.Spec PyProof.Rows L2 EHR SX
open Vbdbam (Bytes isDigit number cut words text)
/-! ### texts as lists of code points -/
theorem fm_len {α β : Type} {p : α → Bool} {f : α → β} {l : List α} {i n : Nat} (h : l.length ≤ n) : (((l.take i).filter p).map f).length ≤ n := by
  have := List.length_filter_le p (l.take i)
  rw [List.length_map]
  rw [List.length_take] at this
  omega
theorem lit (s : String) : Str.ofString s = S (text s) := TL.ext_tl (TL.tl_ofString s)
theorem nm_S : ∀ w : Wd, ∃ s : String, w.nm = Str.ofString s
  | .places => ⟨_, rfl⟩ | .form => ⟨_, rfl⟩ | .cap => ⟨_, rfl⟩ | .judges => ⟨_, rfl⟩ | .fee => ⟨_, rfl⟩ | .fine => ⟨_, rfl⟩ | .answer => ⟨_, rfl⟩ | .start => ⟨_, rfl⟩ | .back => ⟨_, rfl⟩
def Wd.by : Wd → Bytes
  | .places => text "places" | .form => text "form" | .cap => text "cap" | .judges => text "judges" | .fee => text "fee" | .fine => text "fine" | .answer => text "answer" | .start => text "start" | .back => text "back"
theorem nm_by : ∀ w : Wd, w.nm = S w.by
  | .places => lit _ | .form => lit _ | .cap => lit _ | .judges => lit _ | .fee => lit _ | .fine => lit _ | .answer => lit _ | .start => lit _ | .back => lit _
theorem by_inj : ∀ {v w : Wd}, v.by = w.by → v = w := by
  intro v w h
  cases v <;> cases w <;> first | rfl | exact absurd h (by decide)
theorem kinds_by : Vbdbam.KINDS = wds.map Wd.by := rfl
theorem kind_of {k : Bytes} (h : Vbdbam.KINDS.contains k = true) : ∃ w : Wd, k = w.by := by
  rw [kinds_by] at h
  obtain ⟨w, _, e⟩ := List.mem_map.mp (List.contains_iff_mem.mp h)
  exact ⟨w, e.symm⟩
theorem kind_by : ∀ w : Wd, Vbdbam.KINDS.contains w.by = true
  | .places => by decide | .form => by decide | .cap => by decide | .judges => by decide | .fee => by decide | .fine => by decide | .answer => by decide | .start => by decide | .back => by decide
/-- split by one sign -/
theorem spl_cut (c : Nat) : ∀ (l acc : List Nat), TL.spl [c] 0 acc l = (match cut c l with
  | [] => []
  | x :: r => (acc ++ x) :: r)
  | [], acc => by simp [TL.spl_nil, cut]
  | d :: l, acc => by
    have ih := spl_cut c l
    by_cases e : d = c
    · subst e
      have hp : TL.pre [d] (d :: l) = true := by simp [TL.pre]
      rw [TL.spl_hit hp]
      show acc :: TL.spl [d] 0 [] l = _
      rw [ih []]
      simp only [cut, if_true]
      cases hc : cut d l with
      | nil =>
        exfalso
        cases l with
        | nil => simp [cut] at hc
        | cons y l =>
          unfold cut at hc
          split at hc
          · cases hc
          · split at hc <;> cases hc
      | cons x r => simp
    · have hp : TL.pre [c] (d :: l) = false := by simp [TL.pre, e]
      have e1 : TL.spl [c] 0 acc (d :: l) = TL.spl [c] 0 (acc ++ [d]) l := by
        show (if TL.pre [c] (d :: l) = true then _ else _) = _
        rw [hp, if_neg Bool.false_ne_true]
      have e2 : cut c (d :: l) = (match cut c l with
        | [] => [[d]]
        | x :: r => (d :: x) :: r) := if_neg e
      rw [e1, ih (acc ++ [d]), e2]
      cases hc : cut c l with
      | nil =>
        exfalso
        cases l with
        | nil => simp [cut] at hc
        | cons y l =>
          unfold cut at hc
          split at hc
          · cases hc
          · split at hc <;> cases hc
      | cons x r => simp
theorem cut_ne (c : Nat) (l : List Nat) : cut c l ≠ [] := by
  intro hc
  cases l with
  | nil => simp [cut] at hc
  | cons y l =>
    unfold cut at hc
    split at hc
    · cases hc
    · split at hc <;> cases hc
theorem split_cut {c : Nat} (hc : c < 256) (l : List Nat) : Txt.split (S l) (S [c]) = (cut c l).map S := by
  rw [split_S (by simp) (by simpa using hc), spl_cut]
  cases e : cut c l with
  | nil => exact absurd e (cut_ne c l)
  | cons x r => simp
theorem cut_len (c : Nat) : ∀ l : List Nat, (cut c l).length ≤ l.length + 1
  | [] => Nat.le_refl _
  | d :: l => by
    have ih := cut_len c l
    unfold cut
    split
    · rw [List.length_cons, List.length_cons]; omega
    · cases e : cut c l with
      | nil => exact absurd e (cut_ne c l)
      | cons x r =>
        rw [e] at ih
        simp only [List.length_cons] at *
        omega
theorem cut_part (c : Nat) : ∀ (l : List Nat) (x : List Nat), x ∈ cut c l → x.length ≤ l.length ∧ ∀ d, d ∈ x → d ∈ l
  | [], x, h => by
    rw [List.mem_singleton.mp h]
    exact ⟨Nat.le_refl _, fun _ h => h⟩
  | d :: l, x, h => by
    have ih := cut_part c l
    unfold cut at h
    split at h
    · rcases List.mem_cons.mp h with e | e
      · subst e
        exact ⟨Nat.zero_le _, fun _ h => by cases h⟩
      · obtain ⟨h1, h2⟩ := ih x e
        exact ⟨Nat.le_succ_of_le h1, fun y hy => List.mem_cons.mpr (.inr (h2 y hy))⟩
    · cases e : cut c l with
      | nil => exact absurd e (cut_ne c l)
      | cons y r =>
        rw [e] at h ih
        rcases List.mem_cons.mp h with e | e
        · subst e
          obtain ⟨h1, h2⟩ := ih y (List.mem_cons.mpr (.inl rfl))
          refine ⟨by simpa using h1, fun z hz => ?_⟩
          rcases List.mem_cons.mp hz with e | e
          · subst e; exact List.mem_cons.mpr (.inl rfl)
          · exact List.mem_cons.mpr (.inr (h2 z e))
        · obtain ⟨h1, h2⟩ := ih x (List.mem_cons.mpr (.inr e))
          exact ⟨Nat.le_succ_of_le h1, fun y hy => List.mem_cons.mpr (.inr (h2 y hy))⟩
/-- small code points -/
def Asc (l : List Nat) : Prop := ∀ c, c ∈ l → c < 128
theorem uni_digit : ∀ c : Nat, c < 128 → Unicode.isDigit c = isDigit c := by decide +kernel
theorem isdigit_S {w : List Nat} (h : Asc w) : Txt.isdigit (S w) = (!w.isEmpty && w.all isDigit) := by
  unfold Txt.isdigit
  have e1 : decide ((S w).length > 0) = !w.isEmpty := by
    rw [S_len]
    cases w <;> simp
  have e2 : (S w).cps.all Unicode.isDigit = w.all isDigit := by
    rw [← Array.all_toList]
    show w.all Unicode.isDigit = w.all isDigit
    rw [Bool.eq_iff_iff, List.all_eq_true, List.all_eq_true]
    exact ⟨fun g c hc => by rw [← uni_digit c (h c hc)]; exact g c hc, fun g c hc => by rw [uni_digit c (h c hc)]; exact g c hc⟩
  rw [e1, e2]
theorem number_val (w : List Nat) : NumText.digitsVal w = number w := by
  unfold NumText.digitsVal number
  congr 1
  funext n c
  rw [Nat.mul_comm]
theorem int_of {w : List Nat} (h : w.all isDigit = true) (hn : w ≠ []) (hl : w.length ≤ 4300) : PySem.intText? (S w) = some ((number w : Nat) : Int) := by
  rw [int_S h hn hl, number_val]
/-- what is_number asks -/
def numB (w : Bytes) : Bool := !w.isEmpty && (w.all isDigit && (decide (w.length ≤ 4) && (decide (w = [48]) || decide (w.headD 48 ≠ 48))))
theorem numB_in {lo hi : Nat} {w : Bytes} : Vbdbam.numberIn lo hi w = if numB w = true ∧ lo ≤ number w ∧ number w ≤ hi then some (number w) else none := by
  unfold Vbdbam.numberIn numB
  by_cases c : (!w.isEmpty ∧ w.all isDigit = true ∧ w.length ≤ 4 ∧ (w = [48] ∨ w.headD 48 ≠ 48) ∧ lo ≤ number w ∧ number w ≤ hi)
  · obtain ⟨c1, c2, c3, c4, c5, c6⟩ := c
    rw [if_pos ⟨c1, c2, c3, c4, c5, c6⟩, if_pos]
    refine ⟨?_, c5, c6⟩
    simp only [Bool.and_eq_true, Bool.or_eq_true, decide_eq_true_eq]
    exact ⟨c1, c2, c3, c4⟩
  · rw [if_neg c, if_neg]
    rintro ⟨d, c5, c6⟩
    simp only [Bool.and_eq_true, Bool.or_eq_true, decide_eq_true_eq] at d
    exact c ⟨d.1, d.2.1, d.2.2.1, d.2.2.2, c5, c6⟩
end EH

/-! ## EHX2 -/
namespace EH
open PySem PySem.Spec PyProof.Rows L2 EHR SX
local macro_rules | `(tactic| decreasing_trivial_pre_omega) => `(tactic| first
  | assumption
  | rfl
  | exact lk_here
  | exact Txt.cl_Ledger (by assumption) | exact Txt.cl_Rules (by assumption) | exact Txt.cl_School (by assumption) | exact Txt.cl_Offer (by assumption) | exact Txt.cl_House (by assumption)
  | exact Txt.na_Ledger (by assumption) _ (by decide +kernel) | exact Txt.na_Rules (by assumption) _ (by decide +kernel) | exact Txt.na_School (by assumption) _ (by decide +kernel) | exact Txt.na_Offer (by assumption) _ (by decide +kernel) | exact Txt.na_House (by assumption) _ (by decide +kernel)
  | exact (lk_past (by decide +kernel)).trans lk_here
  | exact (lk_past (by decide +kernel)).trans ((lk_past (by decide +kernel)).trans lk_here)
  | exact (lk_past (by decide +kernel)).trans ((lk_past (by decide +kernel)).trans ((lk_past (by decide +kernel)).trans lk_here))
  | exact (lk_past (by decide +kernel)).trans ((lk_past (by decide +kernel)).trans ((lk_past (by decide +kernel)).trans ((lk_past (by decide +kernel)).trans lk_here)))
  | exact (lk_past (by decide +kernel)).trans ((lk_past (by decide +kernel)).trans ((lk_past (by decide +kernel)).trans ((lk_past (by decide +kernel)).trans ((lk_past (by decide +kernel)).trans lk_here))))
  | exact (lk_past (by decide +kernel)).trans ((lk_past (by decide +kernel)).trans ((lk_past (by decide +kernel)).trans ((lk_past (by decide +kernel)).trans ((lk_past (by decide +kernel)).trans ((lk_past (by decide +kernel)).trans lk_here)))))
  | exact SqL.of (by assumption) | exact SqT.of (by assumption)
  | exact Or.inl (SqL.of (by assumption)) | exact Or.inr (SqT.of (by assumption)) | exact Or.inl (by assumption) | exact Or.inr (by assumption)
  | exact atI0 rfl | exact atI_nat (j := 1) rfl | exact atI_nat (j := 2) rfl
  | exact Or.inl ⟨rfl, _, SqL.of (by assumption)⟩
  | exact Nat.le_of_ble_eq_true rfl
  | exact Same.at1 (by assumption) (by assumption)
  | exact SqL.of (Same.at1 (by assumption) (by assumption)) | exact SqT.of (Same.at1 (by assumption) (by assumption)) | exact Or.inl (SqL.of (Same.at1 (by assumption) (by assumption))) | exact Or.inr (SqT.of (Same.at1 (by assumption) (by assumption)))
  | exact ⟨_, by assumption⟩ | exact ⟨_, rfl⟩ | trivial
  | exact dput_i (by assumption) (by assumption) | exact kV_i | exact kV_s | exact isD_k (by assumption)
  | exact upd_same)
local macro_rules | `(tactic| get_elem_tactic_extensible) => `(tactic| repeat (first
  | refine And.intro (by decreasing_trivial_pre_omega) ?_
  | apply Exists.intro (α := V) | apply Exists.intro (α := Addr) | apply Exists.intro (α := List V) | apply Exists.intro (α := Int) | apply Exists.intro (α := Bool)
  | apply Exists.intro (α := List (Str × V)) | apply Exists.intro (α := Str) | apply Exists.intro (α := List (Key × V)) | apply Exists.intro (α := Option V)
  | apply Exists.intro (α := List Int) | apply Exists.intro (α := List Bool) | apply Exists.intro (α := List Str) | apply Exists.intro (α := Obj) | apply Exists.intro (α := List En) | apply Exists.intro (α := HAd) | apply Exists.intro (α := Vbdbam.State) | apply Exists.intro (α := Vbdbam.Rules) | apply Exists.intro (α := Hp) | apply Exists.intro (α := Key) | apply Exists.intro (α := Nat) | apply Exists.intro (α := Wd) | apply Exists.intro (α := Wd → List Int) | apply Exists.intro (α := Nat → Int)))
local macro_rules | `(tactic| decreasing_trivial) => `(tactic| (intro vs H Q E h; repeat (first | (obtain ⟨e, _⟩ := h; subst e; rfl) | (obtain ⟨_, h⟩ := h))))

open Vbdbam (Bytes isDigit number cut words text)
def sp_words_of (_ : PySem.W.Frag) (_ : Ad) : Sp := fun vs H Q _ => ∃ (l : List Nat), vs = [.str (S l)] ∧ l.length ≤ 100000 ∧ ∀ p H', H p = none → Same H H' → H' p = some (.lst ((words l).map fun w => .str (S w))) → Q (.ref p) H'
theorem ok_words_of {P : Program} {w : World} {K : PySem.W.Frag} {mg : Str → Option Value} {base : Heap} {A : Ad} (T : Txt w K mg A) : C8.Cal P w K mg base 1 "words_of" (sp_words_of K A) [] := by
  refine calOf T.d_words_of sc_words_of (by decreasing_trivial) (fun cdv Ar outer s0 H vs Q E hr hsp => ⟨_, (pss_one (ps_ret (pe_lc (own := [("word", 1)]) (g := gName 1) (tt := (tTest (tOp _ (tVar 1) (tC _)))) (te := (tVar 1)) (by rfl) sc_words_of.nd (pi_list (pe_split (pv 0) pe_str)) (blkOk_by (own := [("word", 1)]) (N := N_words_of) (sc := C8.fnScope s_words_of) (by decide +kernel)) (fun _ _ _ _ _ => pg_name (i := 1) sc_words_of.nd rfl (Or.inl rfl)) (fun _ _ _ _ _ => (pts_one (pt_cmpR op_ne (pv 1) pe_str (nomark _)))) (fun _ _ _ _ _ => (pv 1))))), ?_⟩)
  obtain ⟨l, rfl, len, q⟩ := hsp
  have hl : (S l).length + 2 ≤ sizeLine := by rw [S_len]; exact Nat.le_trans (Nat.add_le_add_right len 2) (by decide)
  have e1 : Str.ofString " " = S [32] := lit " "
  have e2 : Str.ofString "" = S [] := lit ""
  have cl := cut_len 32 l
  have e3 : Txt.split (S l) (Str.ofString " ") = (cut 32 l).map S := by rw [e1, split_cut (by decide)]
  get_elem_tactic_extensible
  rw [e3]
  intro p0 hp0
  have s1 := Same.new (o := .lst (((cut 32 l).map S).map V.str)) hp0
  have l1 : upd H p0 (.lst (((cut 32 l).map S).map V.str)) p0 = some (.lst (((cut 32 l).map S).map V.str)) := upd_same
  generalize upd H p0 (.lst (((cut 32 l).map S).map V.str)) = H1 at s1 l1
  rw [List.map_map] at l1
  have lq := SqL.of (K := K) l1
  get_elem_tactic_extensible
  intro D hD
  refine lc_it (walk_list (xs := (cut 32 l).map (V.str ∘ S))) (LcI H1 D fun i => (((cut 32 l).take i).filter fun w => !w.isEmpty).map fun w => V.str (S w)) (LcI.zero hD rfl) (fun i H' _ p => p.s.seq lq) (fun i x H2 H' hi p y => ?_) (fun H' p => ?_)
  · obtain ⟨rfl, hx⟩ := y
    obtain ⟨wd, hw, rfl⟩ : ∃ wd, (cut 32 l)[i]? = some wd ∧ V.str (S wd) = x := by
      rw [List.getElem?_map] at hx
      cases e : (cut 32 l)[i]? with
      | none => rw [e] at hx; cases hx
      | some o => rw [e] at hx; exact ⟨o, rfl, Option.some.inj hx⟩
    have pd := p.d
    have lf : ((((cut 32 l).take i).filter fun w => !w.isEmpty).map fun w => V.str (S w)).length < sizeLine := by
      exact lt_line (Nat.le_trans (fm_len (n := 100001) (by omega)) (by decide))
    have nx := filt_take (p := fun w : List Nat => !w.isEmpty) hw
    get_elem_tactic_extensible
    refine ifn (fun hc => ?_) fun hc => ?_
    · have hc : (!wd.isEmpty) = true := by
        cases wd with
        | nil => exact absurd (congrArg V.str e2.symm) hc
        | cons => rfl
      get_elem_tactic_extensible
      exact p.put (Same.refl _) hD (by rw [nx, if_pos hc, List.map_append]; rfl)
    · have hc : ¬ (!wd.isEmpty) = true := by
        have := V.str.inj hc
        rw [e2] at this
        rw [S_inj this]
        simp
      exact p.past (Same.refl _) (by rw [nx, if_neg hc, List.append_nil])
  · have pd := p.d
    rw [List.length_map, List.take_length] at pd
    exact q D H' (s1.free hD) (s1.trans p.s) pd
def sp_is_number (_ : PySem.W.Frag) (_ : Ad) : Sp := fun vs H Q _ => ∃ (w : List Nat), vs = [.str (S w)] ∧ w.length ≤ 100000 ∧ Asc w ∧ Q (.bl (numB w)) H
theorem ok_is_number {P : Program} {w : World} {K : PySem.W.Frag} {mg : Str → Option Value} {base : Heap} {A : Ad} (T : Txt w K mg A) : C8.Cal P w K mg base 1 "is_number" (sp_is_number K A) [] := by
  refine calOf T.d_is_number sc_is_number (by decreasing_trivial) (fun cdv Ar outer s0 H vs Q E hr hsp => ⟨_, (pss_cons (ps_stop (ps_if (PW.pt (pw_or (pt_not (pt_val (pe_m0 PySem.F.slot_str_isdigit PySem.F.type_str_isdigit mt_isdigit (pv 0)))) (pw_or1 (pt_cmpR op_gt (pe_callB call_len_str (by rfl) T.n_len (by decide +kernel) (pa_cons (pv 0) pa_nil)) (C8.pe_gc rfl T.c_MOST_DIGITS) (nomark _))))) (pss_one (ps_ret pe_bl)) pss_nil))
 (pss_one (ps_stop (ps_ret (pe_or (pe_cmpR op_eq (pv 0) pe_str (nomark _)) (pe_one (pe_cmpR op_ne (pe_ix ix_str (pv 0) pe_int (fun _ _ => rfl)) pe_str (nomark _)))))))), ?_⟩)
  obtain ⟨w', rfl, len, asc, q⟩ := hsp
  have hl : (S w').length ≤ sizeLine := by rw [S_len]; exact Nat.le_trans len (by decide)
  have hd := isdigit_S asc
  have e0 : Str.ofString "0" = S [48] := lit "0"
  (refine Stop.go ?_; get_elem_tactic_extensible)
  rw [hd]
  have bad : (!w'.isEmpty && w'.all isDigit) = false → numB w' = false := fun h => by
    unfold numB
    rw [← Bool.and_assoc, h]
    rfl
  cases c1 : (!w'.isEmpty && w'.all isDigit) with
  | false =>
    refine ift ?_
    get_elem_tactic_extensible
    rw [bad c1] at q
    exact q
  | true =>
    refine iff' ?_
    get_elem_tactic_extensible
    refine ifd (fun c2 => ?_) fun c2 => ?_
    · get_elem_tactic_extensible
      rw [S_len] at c2
      have : numB w' = false := by
        unfold numB
        rw [decide_eq_false (show ¬ w'.length ≤ 4 by omega)]
        simp
      rw [this] at q
      exact q
    · rw [S_len] at c2
      obtain ⟨c, r, rfl⟩ : ∃ c r, w' = c :: r := by
        cases w' with
        | nil => simp at c1
        | cons c r => exact ⟨c, r, rfl⟩
      have hix : atI (S (c :: r)).cps.toList 0 = some c := atI_nat (j := 0) rfl
      have nb : numB (c :: r) = (decide ((c :: r) = [48]) || decide (c ≠ 48)) := by
        have c1 := c1
        unfold numB
        rw [← Bool.and_assoc, c1, decide_eq_true (show (c :: r).length ≤ 4 by omega)]
        rfl
      (refine Stop.go ?_; get_elem_tactic_extensible)
      refine ifd (fun c3 => ?_) fun c3 => ?_
      · have c3 : c :: r = [48] := S_inj (by rw [← e0]; exact V.str.inj c3)
        rw [nb, decide_eq_true c3] at q
        exact q
      · have c3 : ¬ c :: r = [48] := fun h => c3 (by rw [h, e0])
        rw [nb, decide_eq_false c3] at q
        get_elem_tactic_extensible
        have e4 : (!decide (V.str ⟨#[c]⟩ = V.str (Str.ofString "0"))) = decide (c ≠ 48) := by
          rw [e0]
          by_cases h : c = 48
          · subst h; simp
          · have : ¬ (V.str ⟨#[c]⟩ = V.str (S [48])) := fun g => h (List.head_eq_of_cons_eq (S_inj (a := [c]) (V.str.inj g)))
            simp [this, h]
        rw [e4]
        exact q
end EH

/-! ## EHX3 -/
namespace EH
open PySem PySem.Spec PyProof.Rows L2 EHR SX
local macro_rules | `(tactic| decreasing_trivial_pre_omega) => `(tactic| first
  | assumption
  | rfl
  | exact lk_here
  | exact Txt.cl_Ledger (by assumption) | exact Txt.cl_Rules (by assumption) | exact Txt.cl_School (by assumption) | exact Txt.cl_Offer (by assumption) | exact Txt.cl_House (by assumption)
  | exact Txt.na_Ledger (by assumption) _ (by decide +kernel) | exact Txt.na_Rules (by assumption) _ (by decide +kernel) | exact Txt.na_School (by assumption) _ (by decide +kernel) | exact Txt.na_Offer (by assumption) _ (by decide +kernel) | exact Txt.na_House (by assumption) _ (by decide +kernel)
  | exact (lk_past (by decide +kernel)).trans lk_here
  | exact (lk_past (by decide +kernel)).trans ((lk_past (by decide +kernel)).trans lk_here)
  | exact (lk_past (by decide +kernel)).trans ((lk_past (by decide +kernel)).trans ((lk_past (by decide +kernel)).trans lk_here))
  | exact (lk_past (by decide +kernel)).trans ((lk_past (by decide +kernel)).trans ((lk_past (by decide +kernel)).trans ((lk_past (by decide +kernel)).trans lk_here)))
  | exact (lk_past (by decide +kernel)).trans ((lk_past (by decide +kernel)).trans ((lk_past (by decide +kernel)).trans ((lk_past (by decide +kernel)).trans ((lk_past (by decide +kernel)).trans lk_here))))
  | exact (lk_past (by decide +kernel)).trans ((lk_past (by decide +kernel)).trans ((lk_past (by decide +kernel)).trans ((lk_past (by decide +kernel)).trans ((lk_past (by decide +kernel)).trans ((lk_past (by decide +kernel)).trans lk_here)))))
  | exact SqL.of (by assumption) | exact SqT.of (by assumption)
  | exact Or.inl (SqL.of (by assumption)) | exact Or.inr (SqT.of (by assumption)) | exact Or.inl (by assumption) | exact Or.inr (by assumption)
  | exact atI0 rfl | exact atI_nat (j := 1) rfl | exact atI_nat (j := 2) rfl
  | exact Or.inl ⟨rfl, _, SqL.of (by assumption)⟩
  | exact Nat.le_of_ble_eq_true rfl
  | exact Same.at1 (by assumption) (by assumption)
  | exact SqL.of (Same.at1 (by assumption) (by assumption)) | exact SqT.of (Same.at1 (by assumption) (by assumption)) | exact Or.inl (SqL.of (Same.at1 (by assumption) (by assumption))) | exact Or.inr (SqT.of (Same.at1 (by assumption) (by assumption)))
  | exact ⟨_, by assumption⟩ | exact ⟨_, rfl⟩ | trivial
  | exact dput_i (by assumption) (by assumption) | exact kV_i | exact kV_s | exact isD_k (by assumption)
  | exact upd_same)
local macro_rules | `(tactic| get_elem_tactic_extensible) => `(tactic| repeat (first
  | refine And.intro (by decreasing_trivial_pre_omega) ?_
  | apply Exists.intro (α := V) | apply Exists.intro (α := Addr) | apply Exists.intro (α := List V) | apply Exists.intro (α := Int) | apply Exists.intro (α := Bool)
  | apply Exists.intro (α := List (Str × V)) | apply Exists.intro (α := Str) | apply Exists.intro (α := List (Key × V)) | apply Exists.intro (α := Option V)
  | apply Exists.intro (α := List Int) | apply Exists.intro (α := List Bool) | apply Exists.intro (α := List Str) | apply Exists.intro (α := Obj) | apply Exists.intro (α := List En) | apply Exists.intro (α := HAd) | apply Exists.intro (α := Vbdbam.State) | apply Exists.intro (α := Vbdbam.Rules) | apply Exists.intro (α := Hp) | apply Exists.intro (α := Key) | apply Exists.intro (α := Nat) | apply Exists.intro (α := Wd) | apply Exists.intro (α := Wd → List Int) | apply Exists.intro (α := Nat → Int)))
local macro_rules | `(tactic| decreasing_trivial) => `(tactic| (intro vs H Q E h; repeat (first | (obtain ⟨e, _⟩ := h; subst e; rfl) | (obtain ⟨_, h⟩ := h))))

open Vbdbam (Bytes isDigit number cut words text)
def bnd : Wd → List (Nat × Nat)
  | .places => [(2, 60)] | .form => [(2, 4)] | .cap => [(1, 9)] | .judges => [(0, 9), (1, 9)] | .fee => [(0, 9999)] | .fine => [(0, 9999)] | .answer => [(1, 30)] | .start => [(1, 200)] | .back => []
def bndA (A : Ad) : Wd → Addr
  | .places => A.b_places | .form => A.b_form | .cap => A.b_cap | .judges => A.b_judges | .fee => A.b_fee | .fine => A.b_fine | .answer => A.b_answer | .start => A.b_start | .back => A.dB
def bndI (A : Ad) : Wd → List Addr
  | .places => [A.bi_places] | .form => [A.bi_form] | .cap => [A.bi_cap] | .judges => [A.bi_judges, A.bj_judges] | .fee => [A.bi_fee] | .fine => [A.bi_fine] | .answer => [A.bi_answer] | .start => [A.bi_start] | .back => []
theorem bnd_look {A : Ad} : ∀ w : Wd, w ≠ .back → (bounds A).lookup w.nm = some (.ref (bndA A w))
  | .places, _ => by rfl
  | .form, _ => by rfl
  | .cap, _ => by rfl
  | .judges, _ => by rfl
  | .fee, _ => by rfl
  | .fine, _ => by rfl
  | .answer, _ => by rfl
  | .start, _ => by rfl
  | .back, h => absurd rfl h
section
variable {w : World} {K : PySem.W.Frag} {mg : Str → Option Value} {A : Ad}
theorem bnd_tup (T : Txt w K mg A) (H : Hp) : ∀ v : Wd, v ≠ .back → SqT K H (bndA A v) ((bndI A v).map .ref)
  | .places, _ => T.b_places H
  | .form, _ => T.b_form H
  | .cap, _ => T.b_cap H
  | .judges, _ => T.b_judges H
  | .fee, _ => T.b_fee H
  | .fine, _ => T.b_fine H
  | .answer, _ => T.b_answer H
  | .start, _ => T.b_start H
  | .back, h => absurd rfl h
theorem bnd_each (T : Txt w K mg A) (H : Hp) : ∀ v : Wd, Paired (fun (a : Addr) (b : Nat × Nat) => SqT K H a [.int (b.1 : Nat), .int (b.2 : Nat)]) (bndI A v) (bnd v)
  | .places => .cons (T.bi_places H) .nil
  | .form => .cons (T.bi_form H) .nil
  | .cap => .cons (T.bi_cap H) .nil
  | .judges => .cons (T.bi_judges H) (.cons (T.bj_judges H) .nil)
  | .fee => .cons (T.bi_fee H) .nil
  | .fine => .cons (T.bi_fine H) .nil
  | .answer => .cons (T.bi_answer H) .nil
  | .start => .cons (T.bi_start H) .nil
  | .back => .nil
end
theorem paired_at {α β : Type} {R : α → β → Prop} : ∀ {l : List α} {m : List β} {i : Nat} {x : α}, Paired R l m → l[i]? = some x → ∃ y, m[i]? = some y ∧ R x y
  | _, _, _, _, .nil, h => by simp at h
  | _, _, 0, _, .cons h _, e => by simp at e; subst e; exact ⟨_, rfl, h⟩
  | _, _, i + 1, _, .cons _ t, e => by
    obtain ⟨y, h1, h2⟩ := paired_at (i := i) t (by simpa using e)
    exact ⟨y, by simpa using h1, h2⟩
def okB (p : Nat × Nat × Nat) : Bool := decide (p.2.1 ≤ p.1) && decide (p.1 ≤ p.2.2)
def inB (w : Wd) (ns : List Nat) : Bool := decide (ns.length = (bnd w).length) && (ns.zip (bnd w)).all okB
def ivs (ns : List Nat) : List V := ns.map fun (n : Nat) => V.int (n : Int)
def sp_within_bounds (K : PySem.W.Frag) (_ : Ad) : Sp := fun vs H Q _ => ∃ (a : Addr) (w : Wd) (ns : List Nat), vs = [.str w.nm, .ref a] ∧ w ≠ .back ∧ SqL K H a (ivs ns) ∧ ns.length ≤ 100000 ∧ ∀ H', Same H H' → Q (.bl (inB w ns)) H'
theorem ok_within_bounds {P : Program} {w : World} {K : PySem.W.Frag} {mg : Str → Option Value} {base : Heap} {A : Ad} (T : Txt w K mg A) : C8.Cal P w K mg base 1 "within_bounds" (sp_within_bounds K A) [] := by
  refine calOf T.d_within_bounds sc_within_bounds (by decreasing_trivial) (fun cdv Ar outer s0 H vs Q E hr hsp => ⟨_, (pss_cons (ps_stop (ps_if (pt_cmpR op_ne (pe_callB call_len_seq (by rfl) T.n_len (by decide +kernel) (pa_cons (pv 1) pa_nil)) (pe_callB call_len_seq (by rfl) T.n_len (by decide +kernel) (pa_cons (pe_ix (ix_KD T.kd_BOUNDS) (C8.pe_gc rfl T.c_BOUNDS) (pv 0) (fun _ _ => rfl)) pa_nil)) (nomark _)) (pss_one (ps_ret pe_bl)) pss_nil))
 (pss_cons (ps_stop (ps_for PassesOwn.never rfl (pi_zipLT (by rfl) T.n_zip (pa_cons (pv 1) (pa_cons (pe_ix (ix_KD T.kd_BOUNDS) (C8.pe_gc rfl T.c_BOUNDS) (pv 0) (fun _ _ => rfl)) pa_nil))) (pg_tup rfl (pgs_cons (pg_name (i := 2) sc_within_bounds.nd rfl (Or.inl rfl)) (pgs_cons (pg_name (i := 3) sc_within_bounds.nd rfl (Or.inl rfl)) pgs_nil)))
  (pss_one (ps_stop (ps_if (PW.pt (pw_or (pt_cmpR op_lt (pv 2) (pe_ix ix_tup (pv 3) pe_int (fun _ _ => rfl)) (nomark _)) (pw_or1 (pt_cmpR op_gt (pv 2) (pe_ix ix_tup (pv 3) pe_int (fun _ _ => rfl)) (nomark _))))) (pss_one (ps_ret pe_bl)) pss_nil)))))
 (pss_one (ps_stop (ps_ret pe_bl))))), ?_⟩)
  obtain ⟨a, wd, ns, rfl, nb, hl, len, q⟩ := hsp
  have lk := bnd_look (A := A) wd nb
  have bt := bnd_tup T H wd nb
  have be := bnd_each T
  have e1 : (ivs ns).length = ns.length := by simp [ivs]
  have e2 : ((bndI A wd).map V.ref).length = (bnd wd).length := by rw [List.length_map]; exact (be H wd).length
  (refine Stop.go ?_; get_elem_tactic_extensible)
  rw [e1, e2]
  refine ifn (fun c1 => ?_) fun c1 => ?_
  · get_elem_tactic_extensible
    have c1 : ¬ ns.length = (bnd wd).length := fun h => c1 (by rw [h])
    have : inB wd ns = false := by unfold inB; rw [decide_eq_false c1]; rfl
    rw [this] at q
    exact q H (Same.refl H)
  · have c1 : ns.length = (bnd wd).length := Int.ofNat_inj.mp (V.int.inj c1)
    refine Stop.go ?_
    get_elem_tactic_extensible
    have mn : ns.length = min (ivs ns).length ((bndI A wd).map V.ref).length := by rw [e1, e2]; omega
    refine for_it (walk_q2 (xs := ivs ns) (ys := (bndI A wd).map V.ref) mn) (fun i σ H' => Hold (Same H H' ∧ (∃ z2 z3, σ = [some (.str wd.nm), some (.ref a), z2, z3]) ∧ ((ns.zip (bnd wd)).take i).all okB = true)) ⟨Same.refl H, ⟨_, _, rfl⟩, rfl⟩ (fun i σ H' _ q => ⟨q.h.1.seq hl, bnd_tup T H' wd nb⟩) (fun i x σ H1 H' hi y0 y => ?_) (fun σ H' q1 => ?_)
    · obtain ⟨s1, ⟨z2, z3, rfl⟩, ha⟩ := y0.h
      obtain ⟨t, u, v, rfl, ht, rfl, hx, hy⟩ := y
      have hx : (ivs ns)[i]? = some u := hx
      have hy : ((bndI A wd).map V.ref)[i]? = some v := hy
      obtain ⟨k, hk, rfl⟩ : ∃ k, ns[i]? = some k ∧ V.int ((k : Nat) : Int) = u := by
        unfold ivs at hx
        rw [List.getElem?_map] at hx
        cases e : ns[i]? with
        | none => rw [e] at hx; cases hx
        | some o => rw [e] at hx; exact ⟨o, rfl, Option.some.inj hx⟩
      obtain ⟨b, hb, rfl⟩ : ∃ b, (bndI A wd)[i]? = some b ∧ V.ref b = v := by
        rw [List.getElem?_map] at hy
        cases e : (bndI A wd)[i]? with
        | none => rw [e] at hy; cases hy
        | some o => rw [e] at hy; exact ⟨o, rfl, Option.some.inj hy⟩
      have s2 := s1.trans (Same.new (o := .tup [.int ((k : Nat) : Int), .ref b]) ht)
      have t2 : SqT K (upd H1 t (.tup [.int ((k : Nat) : Int), .ref b])) t [.int ((k : Nat) : Int), .ref b] := SqT.of upd_same
      generalize upd H1 t (.tup [.int ((k : Nat) : Int), .ref b]) = H2 at s2 t2
      obtain ⟨bd, hbd, hb2⟩ := paired_at (be H2 wd) hb
      have hz : (ns.zip (bnd wd))[i]? = some (k, bd) := List.getElem?_zip_eq_some.mpr ⟨hk, hbd⟩
      have bad : okB (k, bd) = false → inB wd ns = false := fun h => by
        unfold inB
        have : (ns.zip (bnd wd)).all okB = false := by
          rw [Bool.eq_false_iff]
          intro g
          have := List.all_eq_true.mp g _ (List.mem_of_getElem? hz)
          rw [h] at this
          cases this
        rw [this, Bool.and_false]
      get_elem_tactic_extensible
      (refine Stop.go ?_; get_elem_tactic_extensible)
      refine ifd (fun c2 => ?_) fun c2 => ?_
      · have ob : okB (k, bd) = false := by
          unfold okB
          rw [decide_eq_false (show ¬ bd.1 ≤ k by omega)]
          rfl
        rw [bad ob] at q
        get_elem_tactic_extensible
        exact q H2 s2
      · get_elem_tactic_extensible
        refine ifd (fun c3 => ?_) fun c3 => ?_
        · have ob : okB (k, bd) = false := by
            unfold okB
            rw [decide_eq_false (show ¬ k ≤ bd.2 by omega), Bool.and_false]
          rw [bad ob] at q
          get_elem_tactic_extensible
          exact q H2 s2
        · refine ⟨s2, ⟨_, _, rfl⟩, ?_⟩
          rw [take_one hz, List.all_append, ha]
          simp only [List.all_cons, List.all_nil, Bool.and_true, Bool.true_and]
          unfold okB
          rw [decide_eq_true (show bd.1 ≤ k by omega), decide_eq_true (show k ≤ bd.2 by omega)]
          rfl
    · obtain ⟨s1, ⟨z2, z3, rfl⟩, ha⟩ := q1.h
      have : inB wd ns = true := by
        unfold inB
        rw [List.take_of_length_le (by rw [List.length_zip]; omega)] at ha
        rw [decide_eq_true c1, ha]
        rfl
      rw [this] at q
      (refine Stop.go ?_; get_elem_tactic_extensible)
      exact q H' s1
/-- what pairs_fit asks -/
def pairB (p : Nat × Nat) : Bool := decide (p.1 ≤ 200) && decide (p.2 ≤ 100)
def pairsB (ns : List Nat) : Bool := decide (ns.length % 2 = 0) && (decide (ns.length ≤ 12) && ((Vbdbam.pairsOf ns).all pairB && Vbdbam.backOk (Vbdbam.pairsOf ns)))
theorem pairs_flat : ∀ {ns : List Nat}, ns.length % 2 = 0 → (ns.map fun (n : Nat) => (n : Int)) = flat2 (Vbdbam.pairsOf ns) ∧ ns.length = 2 * (Vbdbam.pairsOf ns).length
  | [], _ => ⟨rfl, rfl⟩
  | [_], h => by simp at h
  | a :: b :: r, h => by
    obtain ⟨h1, h2⟩ := pairs_flat (ns := r) (by simp only [List.length_cons] at h; omega)
    refine ⟨?_, by simp only [Vbdbam.pairsOf, List.length_cons]; omega⟩
    rw [List.map_cons, List.map_cons, h1]
    rfl
theorem back_snoc : ∀ {l : List (Nat × Nat)} {x y : Nat × Nat}, Vbdbam.backOk (l ++ [x, y]) = (Vbdbam.backOk (l ++ [x]) && (decide (y.1 < x.1) && decide (y.2 ≤ x.2)))
  | [], x, y => by simp [Vbdbam.backOk]
  | [a], x, y => by simp [Vbdbam.backOk, Bool.and_assoc]
  | a :: b :: l, x, y => by
    have ih := back_snoc (l := b :: l) (x := x) (y := y)
    simp only [List.cons_append, Vbdbam.backOk] at *
    rw [ih]
    simp [Bool.and_assoc]
theorem back_pre : ∀ {l m : List (Nat × Nat)}, Vbdbam.backOk (l ++ m) = true → Vbdbam.backOk l = true
  | [], _, _ => rfl
  | [_], _, _ => rfl
  | a :: b :: l, m, h => by
    simp only [List.cons_append, Vbdbam.backOk, Bool.and_eq_true] at h ⊢
    exact ⟨h.1, h.2.1, back_pre (l := b :: l) (m := m) h.2.2⟩
def sp_pairs_fit (K : PySem.W.Frag) (_ : Ad) : Sp := fun vs H Q _ => ∃ (a : Addr) (ns : List Nat), vs = [.ref a] ∧ SqL K H a (ivs ns) ∧ ns.length ≤ 100000 ∧ Q (.bl (pairsB ns)) H
theorem ok_pairs_fit {P : Program} {w : World} {K : PySem.W.Frag} {mg : Str → Option Value} {base : Heap} {A : Ad} (T : Txt w K mg A) : C8.Cal P w K mg base 1 "pairs_fit" (sp_pairs_fit K A) [] := by
  refine calOf T.d_pairs_fit sc_pairs_fit (by decreasing_trivial) (fun cdv Ar outer s0 H vs Q E hr hsp => ⟨_, (pss_cons (ps_stop (ps_if (PW.pt (pw_or (pt_cmpR op_eq (pe_op op_mod (pe_callB call_len_seq (by rfl) T.n_len (by decide +kernel) (pa_cons (pv 0) pa_nil)) pe_int) pe_int (nomark _)) (pw_or1 (pt_cmpR op_gt (pe_callB call_len_seq (by rfl) T.n_len (by decide +kernel) (pa_cons (pv 0) pa_nil)) (pe_op op_mul pe_int (C8.pe_gc rfl T.c_MOST_PAIRS)) (nomark _))))) (pss_one (ps_ret pe_bl)) pss_nil))
 (pss_cons (ps_stop (ps_for PassesOwn.never rfl (pi_range3 (by rfl) T.n_range (pa_cons pe_int (pa_cons (pe_callB call_len_seq (by rfl) T.n_len (by decide +kernel) (pa_cons (pv 0) pa_nil)) (pa_cons pe_int pa_nil)))) (pg_name (i := 1) sc_pairs_fit.nd rfl (Or.inl rfl))
  (pss_cons (ps_stop (ps_if (PW.pt (pw_or (pt_cmpR op_gt (pe_ix ix_list (pv 0) (pv 1) (fun _ _ => rfl)) (C8.pe_gc rfl T.c_MOST_DAYS) (nomark _)) (pw_or1 (pt_cmpR op_gt (pe_ix ix_list (pv 0) (pe_op op_add (pv 1) pe_int) (fun _ _ => rfl)) (C8.pe_gc rfl T.c_MOST_PERCENT) (nomark _))))) (pss_one (ps_ret pe_bl)) pss_nil))
 (pss_one (ps_stop (ps_if (PW.pt (pw_and (pt_cmpR op_gt (pv 1) pe_int (nomark _)) (pw_and1 (PW.pt (pw_or (pt_cmpR op_ge (pe_ix ix_list (pv 0) (pv 1) (fun _ _ => rfl)) (pe_ix ix_list (pv 0) (pe_op op_sub (pv 1) pe_int) (fun _ _ => rfl)) (nomark _)) (pw_or1 (pt_cmpR op_gt (pe_ix ix_list (pv 0) (pe_op op_add (pv 1) pe_int) (fun _ _ => rfl)) (pe_ix ix_list (pv 0) (pe_op op_sub (pv 1) pe_int) (fun _ _ => rfl)) (nomark _)))))))) (pss_one (ps_ret pe_bl)) pss_nil))))))
 (pss_one (ps_stop (ps_ret pe_bl))))), ?_⟩)
  obtain ⟨a, ns, rfl, hl, len, q⟩ := hsp
  have e1 : (ivs ns).length = ns.length := by simp [ivs]
  have m2 : (0 : Int) < 2 := by decide
  have cm : CMul 2 6 := .inl (by decide)
  (refine Stop.go ?_; get_elem_tactic_extensible)
  rw [e1]
  refine ifd (fun c1 => ?_) fun c1 => ?_
  · have c1 : ((ns.length : Nat) : Int) % 2 = 1 := V.int.inj c1
    have : pairsB ns = false := by unfold pairsB; rw [decide_eq_false (show ¬ ns.length % 2 = 0 by omega)]; rfl
    rw [this] at q
    get_elem_tactic_extensible
    exact q
  · have c1 : ns.length % 2 = 0 := by
      have : ¬ ((ns.length : Nat) : Int) % 2 = 1 := fun h => c1 (congrArg V.int h)
      omega
    obtain ⟨f1, f2⟩ := pairs_flat c1
    get_elem_tactic_extensible
    rw [e1]
    refine ifd (fun c2 => ?_) fun c2 => ?_
    · have : pairsB ns = false := by unfold pairsB; rw [decide_eq_false (show ¬ ns.length ≤ 12 by omega), Bool.false_and, Bool.and_false]
      rw [this] at q
      get_elem_tactic_extensible
      exact q
    · have c2 : ns.length ≤ 12 := by omega
      have hB : pairsB ns = ((Vbdbam.pairsOf ns).all pairB && Vbdbam.backOk (Vbdbam.pairsOf ns)) := by
        unfold pairsB
        rw [decide_eq_true c1, decide_eq_true c2]
        rfl
      have fl : ivs ns = (flat2 (Vbdbam.pairsOf ns)).map V.int := by
        rw [← f1, List.map_map]
        rfl
      rw [hB] at q
      rw [fl] at hl
      generalize Vbdbam.pairsOf ns = L at *
      have rg : RgC 0 (((flat2 L).map V.int).length : Nat) 2 L.length := by
        rw [List.length_map, flat2_len]
        exact rgC2 (by omega)
      refine Stop.go ?_
      get_elem_tactic_extensible
      refine for_it walk_rangeC (fun i σ H' => Hold (H' = H ∧ (∃ z, σ = [some (.ref a), z]) ∧ (L.take i).all pairB = true ∧ Vbdbam.backOk (L.take i) = true)) ⟨rfl, ⟨_, rfl⟩, rfl, rfl⟩ (fun _ _ _ _ _ => trivial) (fun i x σ H1 H' hi y0 y => ?_) (fun σ H' q1 => ?_)
      · obtain ⟨rfl, rfl⟩ := y
        obtain ⟨rfl, ⟨z, rfl⟩, ha, hb⟩ := y0.h
        have hp : L[i]? = some L[i] := List.getElem?_eq_getElem hi
        have ix := flat2_ix hp
        generalize L[i] = pp at hp ix
        have i1 := ix.1
        have i2 := ix.2
        have mem := List.mem_of_getElem? hp
        have badA : pairB pp = false → (L.all pairB && Vbdbam.backOk L) = false := fun h => by
          have : L.all pairB = false := by
            rw [Bool.eq_false_iff]
            intro g
            have := List.all_eq_true.mp g _ mem
            rw [h] at this
            cases this
          rw [this]
          rfl
        have badB : Vbdbam.backOk (L.take (i + 1)) = false → (L.all pairB && Vbdbam.backOk L) = false := fun h => by
          have : Vbdbam.backOk L = false := by
            rw [Bool.eq_false_iff]
            intro g
            have e := List.take_append_drop (i + 1) L
            rw [← e] at g
            rw [back_pre g] at h
            cases h
          rw [this, Bool.and_false]
        get_elem_tactic_extensible
        (refine Stop.go ?_; get_elem_tactic_extensible)
        refine ifd (fun c3 => ?_) fun c3 => ?_
        · have : pairB pp = false := by unfold pairB; rw [decide_eq_false (show ¬ pp.1 ≤ 200 by omega)]; rfl
          rw [badA this] at q
          get_elem_tactic_extensible
          exact q
        · get_elem_tactic_extensible
          refine ifd (fun c4 => ?_) fun c4 => ?_
          · have : pairB pp = false := by unfold pairB; rw [decide_eq_false (show ¬ pp.2 ≤ 100 by omega), Bool.and_false]
            rw [badA this] at q
            get_elem_tactic_extensible
            exact q
          · have okp : pairB pp = true := by unfold pairB; rw [decide_eq_true (show pp.1 ≤ 200 by omega), decide_eq_true (show pp.2 ≤ 100 by omega)]; rfl
            (refine Stop.go ?_; get_elem_tactic_extensible)
            have na : (L.take (i + 1)).all pairB = true := by
              rw [take_one hp, List.all_append, ha]
              simp [okp]
            refine ifd (fun c5 => ?_) fun c5 => ?_
            · obtain ⟨j, rfl⟩ : ∃ j, i = j + 1 := ⟨i - 1, by omega⟩
              have hjl : j < L.length := by omega
              have hj : L[j]? = some (L[j]'hjl) := List.getElem?_eq_getElem hjl
              have jx := flat2_ix hj
              generalize L[j]'hjl = pj at hj jx
              have e3 : (0 + ((j + 1 : Nat) : Int) * 2 - 2 : Int) = 0 + (j : Nat) * 2 := by omega
              have e4 : (0 + ((j + 1 : Nat) : Int) * 2 - 1 : Int) = 0 + (j : Nat) * 2 + 1 := by omega
              have j1 : atI ((flat2 L).map V.int) (0 + ((j + 1 : Nat) : Int) * 2 - 2) = some (.int (pj.1 : Nat)) := by rw [e3]; exact jx.1
              have j2 : atI ((flat2 L).map V.int) (0 + ((j + 1 : Nat) : Int) * 2 - 1) = some (.int (pj.2 : Nat)) := by rw [e4]; exact jx.2
              have tk : L.take (j + 1 + 1) = L.take j ++ [pj, pp] := by
                rw [take_one hp, take_one hj, List.append_assoc]
                rfl
              have bs : Vbdbam.backOk (L.take (j + 1 + 1)) = (decide (pp.1 < pj.1) && decide (pp.2 ≤ pj.2)) := by
                rw [tk, back_snoc, ← take_one hj, hb]
                rfl
              get_elem_tactic_extensible
              refine ifd (fun c6 => ?_) fun c6 => ?_
              · have : Vbdbam.backOk (L.take (j + 1 + 1)) = false := by rw [bs, decide_eq_false (show ¬ pp.1 < pj.1 by omega)]; rfl
                rw [badB this] at q
                get_elem_tactic_extensible
                exact q
              · get_elem_tactic_extensible
                refine ifd (fun c7 => ?_) fun c7 => ?_
                · have : Vbdbam.backOk (L.take (j + 1 + 1)) = false := by rw [bs, decide_eq_false (show ¬ pp.2 ≤ pj.2 by omega), Bool.and_false]
                  rw [badB this] at q
                  get_elem_tactic_extensible
                  exact q
                · exact ⟨rfl, ⟨_, rfl⟩, na, by rw [bs, decide_eq_true (show pp.1 < pj.1 by omega), decide_eq_true (show pp.2 ≤ pj.2 by omega)]; rfl⟩
            · have i0 : i = 0 := by omega
              subst i0
              exact ⟨rfl, ⟨_, rfl⟩, na, by rw [take_one hp]; rfl⟩
      · obtain ⟨rfl, ⟨z, rfl⟩, ha, hb⟩ := q1.h
        rw [List.take_length] at ha hb
        rw [ha, hb] at q
        (refine Stop.go ?_; get_elem_tactic_extensible)
        exact q
end EH

/-! ## EHX4 -/
namespace EH
open PySem PySem.Spec PyProof.Rows L2 EHR SX
local macro_rules | `(tactic| decreasing_trivial_pre_omega) => `(tactic| first
  | assumption
  | rfl
  | exact lk_here
  | exact Txt.cl_Ledger (by assumption) | exact Txt.cl_Rules (by assumption) | exact Txt.cl_School (by assumption) | exact Txt.cl_Offer (by assumption) | exact Txt.cl_House (by assumption)
  | exact Txt.na_Ledger (by assumption) _ (by decide +kernel) | exact Txt.na_Rules (by assumption) _ (by decide +kernel) | exact Txt.na_School (by assumption) _ (by decide +kernel) | exact Txt.na_Offer (by assumption) _ (by decide +kernel) | exact Txt.na_House (by assumption) _ (by decide +kernel)
  | exact (lk_past (by decide +kernel)).trans lk_here
  | exact (lk_past (by decide +kernel)).trans ((lk_past (by decide +kernel)).trans lk_here)
  | exact (lk_past (by decide +kernel)).trans ((lk_past (by decide +kernel)).trans ((lk_past (by decide +kernel)).trans lk_here))
  | exact (lk_past (by decide +kernel)).trans ((lk_past (by decide +kernel)).trans ((lk_past (by decide +kernel)).trans ((lk_past (by decide +kernel)).trans lk_here)))
  | exact (lk_past (by decide +kernel)).trans ((lk_past (by decide +kernel)).trans ((lk_past (by decide +kernel)).trans ((lk_past (by decide +kernel)).trans ((lk_past (by decide +kernel)).trans lk_here))))
  | exact (lk_past (by decide +kernel)).trans ((lk_past (by decide +kernel)).trans ((lk_past (by decide +kernel)).trans ((lk_past (by decide +kernel)).trans ((lk_past (by decide +kernel)).trans ((lk_past (by decide +kernel)).trans lk_here)))))
  | exact SqL.of (by assumption) | exact SqT.of (by assumption)
  | exact Or.inl (SqL.of (by assumption)) | exact Or.inr (SqT.of (by assumption)) | exact Or.inl (by assumption) | exact Or.inr (by assumption)
  | exact atI0 rfl | exact atI_nat (j := 1) rfl | exact atI_nat (j := 2) rfl
  | exact Or.inl ⟨rfl, _, SqL.of (by assumption)⟩
  | exact Nat.le_of_ble_eq_true rfl
  | exact Same.at1 (by assumption) (by assumption)
  | exact SqL.of (Same.at1 (by assumption) (by assumption)) | exact SqT.of (Same.at1 (by assumption) (by assumption)) | exact Or.inl (SqL.of (Same.at1 (by assumption) (by assumption))) | exact Or.inr (SqT.of (Same.at1 (by assumption) (by assumption)))
  | exact ⟨_, by assumption⟩ | exact ⟨_, rfl⟩ | trivial
  | exact dput_i (by assumption) (by assumption) | exact dput_s (by assumption) (by assumption) | exact kV_i | exact kV_s | exact isD_k (by assumption)
  | exact upd_same)
local macro_rules | `(tactic| get_elem_tactic_extensible) => `(tactic| repeat (first
  | refine And.intro (by decreasing_trivial_pre_omega) ?_
  | apply Exists.intro (α := V) | apply Exists.intro (α := Addr) | apply Exists.intro (α := List V) | apply Exists.intro (α := Int) | apply Exists.intro (α := Bool)
  | apply Exists.intro (α := List (Str × V)) | apply Exists.intro (α := Str) | apply Exists.intro (α := List (Key × V)) | apply Exists.intro (α := Option V)
  | apply Exists.intro (α := List Int) | apply Exists.intro (α := List Bool) | apply Exists.intro (α := List Str) | apply Exists.intro (α := Obj) | apply Exists.intro (α := List En) | apply Exists.intro (α := HAd) | apply Exists.intro (α := Vbdbam.State) | apply Exists.intro (α := Vbdbam.Rules) | apply Exists.intro (α := Hp) | apply Exists.intro (α := Key) | apply Exists.intro (α := Nat) | apply Exists.intro (α := Wd) | apply Exists.intro (α := Wd → List Int) | apply Exists.intro (α := Nat → Int) | apply Exists.intro (α := List Nat) | apply Exists.intro (α := List (List Nat)) | apply Exists.intro (α := List (List (List Nat)))))
local macro_rules | `(tactic| decreasing_trivial) => `(tactic| (intro vs H Q E h; repeat (first | (obtain ⟨e, _⟩ := h; subst e; rfl) | (obtain ⟨_, h⟩ := h))))

open Vbdbam (Bytes isDigit number cut words text)
theorem dput_s {H : Hp} {a : Addr} {kvs : List (Key × V)} {n : Str} {v : V} (e : H a = some (.dK kvs)) (hl : kvs.length < sizeLine) : DPut H a (.str n) v (upd H a (.dK (putK kvs (.inr n) v))) := DPut.k (k := .inr n) e hl
def stv (ws : List Bytes) : List V := ws.map fun w => V.str (S w)
theorem nm_inj {v w : Wd} (h : v.nm = w.nm) : v = w := by
  rw [nm_by, nm_by] at h
  exact by_inj (S_inj h)
theorem nm_iff {v w : Wd} : V.str v.nm = V.str w.nm ↔ v = w := ⟨fun h => nm_inj (V.str.inj h), fun h => by rw [h]⟩
def fitB (w : Wd) (ws : List Bytes) : Bool :=
  ws.all numB && (if w = .back then pairsB (ws.map number) else if w = .form ∧ 3 ∈ ws.map number then false else inB w (ws.map number))
theorem numB_digits {w : Bytes} (h : numB w = true) : w.all isDigit = true ∧ w ≠ [] ∧ w.length ≤ 4 := by
  unfold numB at h
  simp only [Bool.and_eq_true, decide_eq_true_eq] at h
  refine ⟨h.2.1, fun c => ?_, h.2.2.1⟩
  rw [c] at h
  exact absurd h.1 (by decide)
theorem int_line {w : Bytes} (h : numB w = true) : PySem.intText? (S w) = some ((number w : Nat) : Int) ∧ (S w).length ≤ 640 := by
  obtain ⟨h1, h2, h3⟩ := numB_digits h
  exact ⟨int_of h1 h2 (by omega), by rw [S_len]; omega⟩
theorem in_three {ns : List Nat} : inV (.int 3) (ivs ns) = true ↔ 3 ∈ ns := by
  unfold inV ivs
  rw [List.any_map, List.any_eq_true]
  constructor
  · rintro ⟨x, hx, h⟩
    have h : ((x : Nat) : Int) = 3 := by simpa [eqV] using h
    have : x = 3 := by omega
    rw [← this]
    exact hx
  · intro h
    exact ⟨3, h, rfl⟩
def sp_numbers_fit (K : PySem.W.Frag) (_ : Ad) : Sp := fun vs H Q _ => ∃ (a : Addr) (w : Wd) (ws : List Bytes), vs = [.str w.nm, .ref a] ∧ SqL K H a (stv ws) ∧ ws.length ≤ 100000 ∧ (∀ x, x ∈ ws → Asc x ∧ x.length ≤ 100000) ∧ ∀ H', Same H H' → Q (.bl (fitB w ws)) H'
theorem ok_numbers_fit {P : Program} {w : World} {K : PySem.W.Frag} {mg : Str → Option Value} {base : Heap} {A : Ad} (T : Txt w K mg A) : C8.Cal P w K mg base 2 "numbers_fit" (sp_numbers_fit K A) [] := by
  refine calOf T.d_numbers_fit sc_numbers_fit (by decreasing_trivial) (fun cdv Ar outer s0 H vs Q E hr hsp => ⟨_, (pss_cons (ps_stop (ps_if (pt_not (pt_val (pe_callB (cr_all rfl) (by rfl) T.n_all (by decide +kernel) (pa_cons (pe_lc (own := [("digits", 3)]) (g := gName 3) (tt := tYes) (te := (tCall (sp_is_number K A) [] C8.E0 (tCons (tVar 3) tNil))) (by rfl) sc_numbers_fit.nd (pi_list (pv 1)) (blkOk_by (own := [("digits", 3)]) (N := N_numbers_fit) (sc := C8.fnScope s_numbers_fit) (by decide +kernel)) (fun _ _ _ _ _ => pg_name (i := 3) sc_numbers_fit.nd rfl (Or.inl rfl)) (fun _ _ _ _ _ => pts_nil) (fun _ _ _ _ _ => (C8.pe_c (ok_is_number T) hr (by decide) rfl (pa_cons (pv 3) pa_nil)))) pa_nil)))) (pss_one (ps_ret pe_bl)) pss_nil))
 (pss_cons (ps_stop (ps_setLc (i := 2) (own := [("digits", 3)]) (g := gName 3) (tt := tYes) (te := (tCB _ (tCons (tVar 3) tNil))) (by rfl) sc_numbers_fit.nd rfl rfl (sw_true rfl rfl rfl (by decide +kernel)) (pi_list (pv 1)) (blkOk_by (own := [("digits", 3)]) (N := N_numbers_fit) (sc := C8.fnScope s_numbers_fit) (by decide +kernel)) (fun _ _ _ _ _ => pg_name (i := 3) sc_numbers_fit.nd rfl (Or.inl rfl)) (fun _ _ _ _ _ => pts_nil) (fun _ _ _ _ _ => (pe_callTy call_int_str (by rfl) T.n_int (by decide +kernel) (pa_cons (pv 3) pa_nil)))))
 (pss_cons (ps_stop (ps_if (pt_cmpR op_eq (pv 0) pe_str (nomark _)) (pss_one (ps_ret (C8.pe_c (ok_pairs_fit T) hr (by decide) rfl (pa_cons (pv 2) pa_nil)))) pss_nil))
 (pss_cons (ps_stop (ps_if (PW.pt (pw_and (pt_cmpR op_eq (pv 0) pe_str (nomark _)) (pw_and1 (pt_cmpR op_in_seq pe_int (pv 2) (by rfl))))) (pss_one (ps_ret pe_bl)) pss_nil))
 (pss_one (ps_stop (ps_ret (C8.pe_c (ok_within_bounds T) hr (by decide) rfl (pa_cons (pv 0) (pa_cons (pv 2) pa_nil)))))))))), ?_⟩)
  obtain ⟨a, wd, ws, rfl, hl, len, asc, q⟩ := hsp
  have at' : ∀ {i : Nat} {x : V}, (stv ws)[i]? = some x → ∃ o, ws[i]? = some o ∧ V.str (S o) = x := fun {i x} h => by
    unfold stv at h
    rw [List.getElem?_map] at h
    cases e : ws[i]? with
    | none => rw [e] at h; cases h
    | some o => rw [e] at h; exact ⟨o, rfl, Option.some.inj h⟩
  have e1 : (stv ws).length = ws.length := by simp [stv]
  refine Stop.go ?_
  get_elem_tactic_extensible
  intro D hD
  refine lc_it (walk_list (xs := stv ws)) (LcI H D fun i => (ws.take i).map fun w => V.bl (numB w)) (LcI.zero hD rfl) (fun i H' _ p => p.s.seq hl) (fun i x H2 H' hi p y => ?_) (fun H1 p => ?_)
  · obtain ⟨rfl, hx⟩ := y
    obtain ⟨o, ho, rfl⟩ := at' hx
    have as := (asc o (List.mem_of_getElem? ho)).1
    have al := (asc o (List.mem_of_getElem? ho)).2
    have pd := p.d
    have lf : ((ws.take i).map fun w => V.bl (numB w)).length < sizeLine := lt_line (by simp; omega)
    get_elem_tactic_extensible
    exact p.put (Same.refl _) hD (by rw [take_one ho, List.map_append]; rfl)
  · have s1 := p.s
    have pd : H1 D = some (.lst ((ws.map numB).map V.bl)) := by
      rw [p.d, e1, List.take_length, List.map_map]
      rfl
    have hl := s1.seq hl
    get_elem_tactic_extensible
    have ea : (ws.map numB).all id = ws.all numB := by rw [List.all_map]; rfl
    rw [ea]
    cases ha : ws.all numB with
    | false =>
      refine ift ?_
      get_elem_tactic_extensible
      have : fitB wd ws = false := by unfold fitB; rw [ha]; rfl
      rw [this] at q
      exact q H1 s1
    | true =>
      refine iff' ?_
      refine Stop.go ?_
      get_elem_tactic_extensible
      intro D2 hD2
      refine lc_it (walk_list (xs := stv ws)) (LcI H1 D2 fun i => ivs ((ws.take i).map number)) (LcI.zero hD2 rfl) (fun i H' _ p => p.s.seq hl) (fun i x H2 H' hi p y => ?_) (fun H2 p => ?_)
      · obtain ⟨rfl, hx⟩ := y
        obtain ⟨o, ho, rfl⟩ := at' hx
        obtain ⟨i1, i2⟩ := int_line (List.all_eq_true.mp ha o (List.mem_of_getElem? ho))
        have pd := p.d
        have lf : (ivs ((ws.take i).map number)).length < sizeLine := lt_line (by simp [ivs]; omega)
        get_elem_tactic_extensible
        exact p.put (Same.refl _) hD2 (by rw [take_one ho, List.map_append]; unfold ivs; rw [List.map_append]; rfl)
      · have s2 := s1.trans p.s
        have pd := p.d
        rw [e1, List.take_length] at pd
        have lq := SqL.of (K := K) pd
        have ln : (ws.map number).length ≤ 100000 := by rw [List.length_map]; exact len
        have fb : fitB wd ws = (if wd = .back then pairsB (ws.map number) else if wd = .form ∧ 3 ∈ ws.map number then false else inB wd (ws.map number)) := by
          unfold fitB
          rw [ha]
          rfl
        rw [fb] at q
        (refine Stop.go ?_; get_elem_tactic_extensible)
        refine ifd (fun c1 => ?_) fun c1 => ?_
        · have c1 : wd = .back := nm_iff.mp c1
          rw [if_pos c1] at q
          get_elem_tactic_extensible
          exact q H2 s2
        · have c1 : wd ≠ .back := fun h => c1 (nm_iff.mpr h)
          rw [if_neg c1] at q
          (refine Stop.go ?_; get_elem_tactic_extensible)
          refine ifd (fun c2 => ?_) fun c2 => ?_
          · have c2 : wd = .form := nm_iff.mp c2
            have fv : (ivs (ws.map number)).all flatV = true := by
              unfold ivs
              rw [List.all_map]
              exact List.all_eq_true.mpr fun _ _ => rfl
            get_elem_tactic_extensible
            refine ifb (fun c3 => ?_) fun c3 => ?_
            · rw [if_neg Bool.false_ne_true] at c3
              rw [if_pos ⟨c2, in_three.mp c3⟩] at q
              get_elem_tactic_extensible
              exact q H2 s2
            · rw [if_neg Bool.false_ne_true] at c3
              rw [if_neg (fun h => by rw [in_three.mpr h.2] at c3; cases c3)] at q
              (refine Stop.go ?_; get_elem_tactic_extensible)
              refine fun H3 s3 => q H3 (s2.trans s3)
          · have c2 : wd ≠ .form := fun h => c2 (nm_iff.mpr h)
            rw [if_neg (fun h => c2 h.1)] at q
            (refine Stop.go ?_; get_elem_tactic_extensible)
            refine fun H3 s3 => q H3 (s2.trans s3)
def fitK (k : Bytes) (ws : List Bytes) : Bool := wds.any fun w => decide (w.by = k) && fitB w ws
theorem fitK_by (w : Wd) (ws : List Bytes) : fitK w.by ws = fitB w ws := by
  unfold fitK
  rw [Bool.eq_iff_iff, List.any_eq_true]
  constructor
  · rintro ⟨v, _, h⟩
    rw [Bool.and_eq_true, decide_eq_true_eq] at h
    rw [← by_inj h.1]
    exact h.2
  · intro h
    refine ⟨w, by cases w <;> decide, ?_⟩
    rw [h, decide_eq_true rfl]
    rfl
def faultB (tl : List Bytes) (k : Bytes) (ws : List Bytes) : Option Nat := if Vbdbam.KINDS.contains k = false then some 1 else if tl.contains k = true then some 2 else if fitK k ws = false then some 3 else none
def fltV : Option Nat → V
  | none => .non
  | some n => .int (n : Nat)
def tdK (tl : List Bytes) : List (Key × V) := tl.map fun k => (.inr (S k), .bl true)
theorem tdK_val {k : Bytes} : ∀ {tl : List Bytes}, (valV (tdK tl) (.inr (S k))).isSome = tl.contains k
  | [] => rfl
  | x :: tl => by
    have ih := tdK_val (k := k) (tl := tl)
    unfold tdK at *
    rw [List.contains_cons]
    by_cases c : k = x
    · subst c
      rw [List.map_cons, valV_pos rfl]
      simp
    · rw [List.map_cons, valV_neg (fun h => c (S_inj (Sum.inr.inj h)).symm), ih]
      have : (k == x) = false := by simpa using c
      rw [this, Bool.false_or]
theorem look_any {z : Str} : ∀ {kvs : List (Str × V)}, (kvs.lookup z).isSome = (kvs.map (·.1)).any fun x => z == x
  | [] => rfl
  | (k, v) :: kvs => by
    rw [List.map_cons, List.any_cons, List.lookup]
    cases c : z == k with
    | true => rfl
    | false => exact look_any
theorem untold_look {A : Ad} {k : Bytes} : ((untold A).lookup (S k)).isSome = Vbdbam.KINDS.contains k := by
  rw [look_any]
  have e : (untold A).map (·.1) = (Vbdbam.KINDS).map S := by
    show wds.map Wd.nm = _
    rw [kinds_by, List.map_map]
    exact List.map_congr_left fun w _ => nm_by w
  rw [e, List.any_map, List.contains_eq_any_beq]
  congr 1
  funext x
  exact S_beq k x
theorem look_some {A : Ad} {k : Bytes} (h : Vbdbam.KINDS.contains k = true) : ∃ w : Wd, k = w.by ∧ S k = w.nm := by
  obtain ⟨w, rfl⟩ := kind_of h
  exact ⟨w, rfl, (nm_by w).symm⟩
def sp_fault_of (K : PySem.W.Frag) (_ : Ad) : Sp := fun vs H Q _ => ∃ (a d : Addr) (tl : List Bytes) (k : Bytes) (ws : List Bytes), vs = [.ref a, .ref d] ∧ SqL K H a (stv (k :: ws)) ∧ H d = some (.dK (tdK tl)) ∧ ws.length ≤ 100000 ∧ (∀ x, x ∈ ws → Asc x ∧ x.length ≤ 100000) ∧ ∀ H', Same H H' → Q (fltV (faultB tl k ws)) H'
theorem ok_fault_of {P : Program} {w : World} {K : PySem.W.Frag} {mg : Str → Option Value} {base : Heap} {A : Ad} (T : Txt w K mg A) : C8.Cal P w K mg base 3 "fault_of" (sp_fault_of K A) [] := by
  refine calOf T.d_fault_of sc_fault_of (by decreasing_trivial) (fun cdv Ar outer s0 H vs Q E hr hsp => ⟨_, (pss_cons (ps_stop (ps_if (pt_cmpR (op_notIn_KD T.kd_UNTOLD) (pe_ix ix_list (pv 0) pe_int (fun _ _ => rfl)) (C8.pe_gc rfl T.c_UNTOLD) (by rfl)) (pss_one (ps_ret (C8.pe_gc rfl T.c_UNKNOWN_WORD))) pss_nil))
 (pss_cons (ps_stop (ps_if (pt_cmp (pc_din (hu_of hr) (pe_ix ix_list (pv 0) pe_int (fun _ _ => rfl)) (pv 1)) (by rfl)) (pss_one (ps_ret (C8.pe_gc rfl T.c_TOLD_ALREADY))) pss_nil))
 (pss_cons (ps_stop (ps_if (pt_not (pt_val (C8.pe_c (ok_numbers_fit T) hr (by decide) rfl (pa_cons (pe_ix ix_list (pv 0) pe_int (fun _ _ => rfl)) (pa_cons (pe_slice sl_list (pv 0) (po_some pe_int) po_none) pa_nil))))) (pss_one (ps_ret (C8.pe_gc rfl T.c_WRONG_NUMBERS))) pss_nil))
 (pss_one (ps_stop (ps_ret pe_non)))))), ?_⟩)
  obtain ⟨a, d, tl, k, ws, rfl, hl, hd, len, asc, q⟩ := hsp
  have e1 : (stv (k :: ws)).length = ws.length + 1 := by simp [stv]
  have i0 : atI (stv (k :: ws)) 0 = some (.str (S k)) := atI_nat (j := 0) rfl
  have rd : Rd H d (.dK (tdK tl)) := .inl hd
  have dg := DGet.k (k := .inr (S k)) hd
  (refine Stop.go ?_; get_elem_tactic_extensible)
  rw [untold_look]
  cases ck : Vbdbam.KINDS.contains k with
  | false =>
    refine ift ?_
    get_elem_tactic_extensible
    have : faultB tl k ws = some 1 := by unfold faultB; rw [if_pos ck]
    rw [this] at q
    exact q H (Same.refl H)
  | true =>
    refine iff' ?_
    obtain ⟨w, rfl, enm⟩ := look_some (A := A) ck
    (refine Stop.go ?_; get_elem_tactic_extensible)
    rw [tdK_val]
    cases ct : tl.contains w.by with
    | true =>
      refine ift ?_
      get_elem_tactic_extensible
      have : faultB tl w.by ws = some 2 := by unfold faultB; rw [ck, if_neg (by decide), if_pos ct]
      rw [this] at q
      exact q H (Same.refl H)
    | false =>
      refine iff' ?_
      have fb : faultB tl w.by ws = if fitB w ws = false then some 3 else none := by unfold faultB; rw [ck, if_neg (by decide), ct, if_neg Bool.false_ne_true, fitK_by]
      have hcut : cutV (stv (w.by :: ws)) (some 1) none = stv ws := by
        unfold cutV
        rw [e1, HT.sIx_none]
        have : HT.sIx (ws.length + 1) 0 (some 1) = 1 := by
          have := HT.sIx_nat (ws.length + 1) 0 1
          rw [show ((1 : Nat) : Int) = 1 from rfl] at this
          rw [this]
          omega
        rw [this]
        show ((stv ws).take (ws.length + 1 - 1)) = stv ws
        rw [List.take_of_length_le (by simp [stv])]
      rw [enm] at i0
      refine Stop.go ?_
      get_elem_tactic_extensible
      rw [hcut]
      intro t ht
      have s1 := Same.new (o := .lst (stv ws)) ht
      have t1 : upd H t (.lst (stv ws)) t = some (.lst (stv ws)) := upd_same
      generalize upd H t (.lst (stv ws)) = H1 at s1 t1
      have tq := SqL.of (K := K) t1
      get_elem_tactic_extensible
      intro H2 s2
      rw [fb] at q
      cases cf : fitB w ws with
      | false =>
        get_elem_tactic_extensible
        rw [cf] at q
        exact q H2 (s1.trans s2)
      | true =>
        get_elem_tactic_extensible
        (refine Stop.go ?_; get_elem_tactic_extensible)
        rw [cf] at q
        exact q H2 (s1.trans s2)
end EH

/-! ## EHX5 -/
namespace EH
open PySem PySem.Spec PyProof.Rows L2 EHR SX
local macro_rules | `(tactic| decreasing_trivial_pre_omega) => `(tactic| first
  | assumption
  | rfl
  | exact lk_here
  | exact Txt.cl_Ledger (by assumption) | exact Txt.cl_Rules (by assumption) | exact Txt.cl_School (by assumption) | exact Txt.cl_Offer (by assumption) | exact Txt.cl_House (by assumption)
  | exact Txt.na_Ledger (by assumption) _ (by decide +kernel) | exact Txt.na_Rules (by assumption) _ (by decide +kernel) | exact Txt.na_School (by assumption) _ (by decide +kernel) | exact Txt.na_Offer (by assumption) _ (by decide +kernel) | exact Txt.na_House (by assumption) _ (by decide +kernel)
  | exact (lk_past (by decide +kernel)).trans lk_here
  | exact (lk_past (by decide +kernel)).trans ((lk_past (by decide +kernel)).trans lk_here)
  | exact (lk_past (by decide +kernel)).trans ((lk_past (by decide +kernel)).trans ((lk_past (by decide +kernel)).trans lk_here))
  | exact (lk_past (by decide +kernel)).trans ((lk_past (by decide +kernel)).trans ((lk_past (by decide +kernel)).trans ((lk_past (by decide +kernel)).trans lk_here)))
  | exact (lk_past (by decide +kernel)).trans ((lk_past (by decide +kernel)).trans ((lk_past (by decide +kernel)).trans ((lk_past (by decide +kernel)).trans ((lk_past (by decide +kernel)).trans lk_here))))
  | exact (lk_past (by decide +kernel)).trans ((lk_past (by decide +kernel)).trans ((lk_past (by decide +kernel)).trans ((lk_past (by decide +kernel)).trans ((lk_past (by decide +kernel)).trans ((lk_past (by decide +kernel)).trans lk_here)))))
  | exact SqL.of (by assumption) | exact SqT.of (by assumption)
  | exact Or.inl (SqL.of (by assumption)) | exact Or.inr (SqT.of (by assumption)) | exact Or.inl (by assumption) | exact Or.inr (by assumption)
  | exact atI0 rfl | exact atI_nat (j := 1) rfl | exact atI_nat (j := 2) rfl
  | exact Or.inl ⟨rfl, _, SqL.of (by assumption)⟩
  | exact Nat.le_of_ble_eq_true rfl
  | exact Same.at1 (by assumption) (by assumption)
  | exact SqL.of (Same.at1 (by assumption) (by assumption)) | exact SqT.of (Same.at1 (by assumption) (by assumption)) | exact Or.inl (SqL.of (Same.at1 (by assumption) (by assumption))) | exact Or.inr (SqT.of (Same.at1 (by assumption) (by assumption)))
  | exact ⟨_, by assumption⟩ | exact ⟨_, rfl⟩ | trivial
  | exact dput_i (by assumption) (by assumption) | exact dput_s (by assumption) (by assumption) | exact kV_i | exact kV_s | exact isD_k (by assumption)
  | exact upd_same)
local macro_rules | `(tactic| get_elem_tactic_extensible) => `(tactic| repeat (first
  | refine And.intro (by decreasing_trivial_pre_omega) ?_
  | apply Exists.intro (α := V) | apply Exists.intro (α := Addr) | apply Exists.intro (α := List V) | apply Exists.intro (α := Int) | apply Exists.intro (α := Bool)
  | apply Exists.intro (α := List (Str × V)) | apply Exists.intro (α := Str) | apply Exists.intro (α := List (Key × V)) | apply Exists.intro (α := Option V)
  | apply Exists.intro (α := List Int) | apply Exists.intro (α := List Bool) | apply Exists.intro (α := List Str) | apply Exists.intro (α := Obj) | apply Exists.intro (α := List En) | apply Exists.intro (α := HAd) | apply Exists.intro (α := Vbdbam.State) | apply Exists.intro (α := Vbdbam.Rules) | apply Exists.intro (α := Hp) | apply Exists.intro (α := Key) | apply Exists.intro (α := Nat) | apply Exists.intro (α := Wd) | apply Exists.intro (α := Wd → List Int) | apply Exists.intro (α := Nat → Int) | apply Exists.intro (α := List Nat) | apply Exists.intro (α := List (List Nat)) | apply Exists.intro (α := List (List (List Nat)))))
local macro_rules | `(tactic| decreasing_trivial) => `(tactic| (intro vs H Q E h; repeat (first | (obtain ⟨e, _⟩ := h; subst e; rfl) | (obtain ⟨_, h⟩ := h))))

open Vbdbam (Bytes isDigit number cut words text)
/-- lists of texts at v's places -/
def LnAt (H : Hp) (v : V) (l : List Bytes) : Prop := ∃ c, v = .ref c ∧ H c = some (.lst (stv l))
abbrev LnL (H : Hp) (es : List V) (ls : List (List Bytes)) : Prop := Paired (LnAt H) es ls
def LnOk (l : List Bytes) : Prop := l.length ≤ 100000 ∧ ∀ x, x ∈ l → Asc x ∧ x.length ≤ 100000
theorem LnL.same {H H' : Hp} (s : Same H H') {es : List V} {ls : List (List Bytes)} (h : LnL H es ls) : LnL H' es ls := h.mono fun _ _ ⟨c, h1, h2⟩ => ⟨c, h1, s _ _ h2⟩
def faultL : Nat → List Bytes → List (List Bytes) → Option (Nat × Nat)
  | _, _, [] => none
  | n, tl, [] :: r => faultL (n + 1) tl r
  | n, tl, (k :: ws) :: r => match faultB tl k ws with
    | some e => some (e, n)
    | none => faultL (n + 1) (tl ++ [k]) r
def FltAt (H : Hp) : Option (Nat × Nat) → V → Prop
  | none, v => v = .non
  | some e, v => ∃ p, v = .ref p ∧ H p = some (.tup [.int (e.1 : Nat), .int (e.2 : Nat)])
def sp_first_fault (K : PySem.W.Frag) (_ : Ad) : Sp := fun vs H Q _ => ∃ (a : Addr) (es : List V) (ls : List (List Bytes)), vs = [.ref a] ∧ SqL K H a es ∧ LnL H es ls ∧ ls.length ≤ 100000 ∧ (∀ l, l ∈ ls → LnOk l) ∧ ∀ v H', Same H H' → FltAt H' (faultL 1 [] ls) v → Q v H'
theorem ok_first_fault {P : Program} {w : World} {K : PySem.W.Frag} {mg : Str → Option Value} {base : Heap} {A : Ad} (T : Txt w K mg A) : C8.Cal P w K mg base 4 "first_fault" (sp_first_fault K A) [] := by
  refine calOf T.d_first_fault sc_first_fault (by decreasing_trivial) (fun cdv Ar outer s0 H vs Q E hr hsp => ⟨_, (pss_cons (ps_stop (ps_set (i := 1) sc_first_fault.nd rfl (Or.inl rfl) pe_dnewK))
 (pss_cons (ps_stop (ps_for PassesOwn.never rfl (pi_enumS (by rfl) T.n_enumerate (pa_cons (pv 0) pa_nil) (pk_cons pe_int pk_nil)) (pg_tup rfl (pgs_cons (pg_name (i := 2) sc_first_fault.nd rfl (Or.inl rfl)) (pgs_cons (pg_name (i := 3) sc_first_fault.nd rfl (Or.inl rfl)) pgs_nil)))
  (pss_one (ps_stop (ps_if (pt_cmpR op_gt (pe_callB call_len_seq (by rfl) T.n_len (by decide +kernel) (pa_cons (pv 3) pa_nil)) pe_int (nomark _)) (pss_cons (ps_stop (ps_set (i := 4) sc_first_fault.nd rfl (Or.inl rfl) (C8.pe_c (ok_fault_of T) hr (by decide) rfl (pa_cons (pv 3) (pa_cons (pv 1) pa_nil)))))
 (pss_cons (ps_stop (ps_if (pt_cmpR op_notN (pv 4) pe_non (nomark _)) (pss_one (ps_ret (pe_tup (pa_cons (pv 4) (pa_cons (pv 2) pa_nil))))) pss_nil))
 (pss_one (ps_stop (ps_dput (hu_of hr) (pv 1) (pe_ix ix_list (pv 3) pe_int (fun _ _ => rfl)) pe_bl rfl))))) pss_nil)))))
 (pss_one (ps_stop (ps_ret pe_non))))), ?_⟩)
  obtain ⟨a, es, ls, rfl, hl, ln, len, ok, q⟩ := hsp
  refine Stop.go ?_
  get_elem_tactic_extensible
  intro D hD
  have s1 := Same.new (o := .dK []) hD
  have d1 : upd H D (.dK []) D = some (.dK (tdK [])) := upd_same
  generalize upd H D (.dK []) = H1 at s1 d1
  have hl := s1.seq hl
  have ln := ln.same s1
  refine Stop.go ?_
  get_elem_tactic_extensible
  refine for_it (walk_1 (xs := es)) (fun i σ H' => Hold (Ext D H1 H' ∧ ∃ tl, (∃ z2 z3 z4, σ = [some (.ref a), some (.ref D), z2, z3, z4]) ∧ H' D = some (.dK (tdK tl)) ∧ tl.length ≤ i ∧ faultL 1 [] ls = faultL (i + 1) tl (ls.drop i))) ⟨.refl, [], ⟨_, _, _, rfl⟩, d1, Nat.le_refl _, rfl⟩ (fun i σ H' _ q => by
    rcases hl with (h | ⟨od, h⟩) | h
    · exact .inl (.inl (q.h.1 _ _ h (ne_shp h d1 rfl)))
    · exact .inl (.inr ⟨od, q.h.1 _ _ h (ne_shp h d1 rfl)⟩)
    · exact .inr h) (fun i x σ H2 H' hi y0 y => ?_) (fun σ H' q1 => ?_)
  · obtain ⟨e2, tl, ⟨z2, z3, z4, rfl⟩, d2, tlen, fe⟩ := y0.h
    obtain ⟨t, u, v, rfl, ht, rfl, hx, hy⟩ := y
    have hx : V.int (((i + 1 : Nat) : Nat) : Int) = u := Option.some.inj hx
    subst hx
    have hy : es[i]? = some v := hy
    obtain ⟨l, hll, c, rfl, hc⟩ := paired_at ln hy
    have lo := ok l (List.mem_of_getElem? hll)
    have i1 : i < ls.length := (List.getElem?_eq_some_iff.mp hll).1
    have ed : ls.drop i = l :: ls.drop (i + 1) := by
      rw [List.drop_eq_getElem_cons i1]
      congr 1
      rw [List.getElem?_eq_getElem i1] at hll
      exact Option.some.inj hll
    rw [ed] at fe
    have nt : t ≠ D := (Same.ne d2 ht).symm
    have e3 := e2.trans (Ext.same (Same.new (o := .tup [.int ((i + 1 : Nat) : Int), .ref c]) ht))
    have d3 := Same.new (o := .tup [.int ((i + 1 : Nat) : Int), .ref c]) ht _ _ d2
    have t3 : SqT K (upd H2 t (.tup [.int ((i + 1 : Nat) : Int), .ref c])) t [.int ((i + 1 : Nat) : Int), .ref c] := SqT.of upd_same
    generalize upd H2 t (.tup [.int ((i + 1 : Nat) : Int), .ref c]) = H3 at e3 d3 t3
    have hc3 := e3 _ _ hc (ne_shp hc d1 rfl)
    have cq := SqL.of (K := K) hc3
    get_elem_tactic_extensible
    (refine Stop.go ?_; get_elem_tactic_extensible)
    cases l with
    | nil =>
      refine ifd (fun c1 => absurd c1 (by decide)) fun _ => ?_
      exact ⟨e3, tl, ⟨_, _, _, rfl⟩, d3, Nat.le_succ_of_le tlen, fe⟩
    | cons k ws =>
      have wl : ws.length ≤ 100000 := by have := lo.1; rw [List.length_cons] at this; omega
      have wo : ∀ x, x ∈ ws → Asc x ∧ x.length ≤ 100000 := fun x hx => lo.2 x (List.mem_cons.mpr (.inr hx))
      have i0 : atI (stv (k :: ws)) 0 = some (.str (S k)) := atI_nat (j := 0) rfl
      refine ifd (fun _ => ?_) fun c1 => absurd (show (0 : Int) < (((stv (k :: ws)).length : Nat) : Int) by simp [stv]) c1
      (refine Stop.go ?_; get_elem_tactic_extensible)
      intro H4 s4
      have e4 := e3.trans (Ext.same s4)
      have d4 := s4 _ _ d3
      have cq4 := s4.seq cq
      have sH : Same H H4 := fun b o hb => e4 _ _ (s1 _ _ hb) (Same.ne hb hD)
      cases cf : faultB tl k ws with
      | some e =>
        (refine Stop.go ?_; get_elem_tactic_extensible)
        intro p0 hp0
        refine q _ _ (sH.trans (Same.new hp0)) ?_
        rw [fe]
        simp only [faultL, cf]
        exact ⟨p0, rfl, upd_same⟩
      | none =>
        have dl : (tdK tl).length < sizeLine := lt_line (by unfold tdK; rw [List.length_map]; omega)
        have kt : tl.contains k = false := by
          unfold faultB at cf
          cases h : tl.contains k with
          | false => rfl
          | true =>
            rw [h] at cf
            split at cf
            · cases cf
            · simp at cf
        have vn : valV (tdK tl) (.inr (S k)) = none := by
          have := tdK_val (k := k) (tl := tl)
          rw [kt] at this
          cases h : valV (tdK tl) (.inr (S k)) with
          | none => rfl
          | some v => rw [h] at this; cases this
        (refine Stop.go ?_; get_elem_tactic_extensible)
        (refine Stop.go ?_; get_elem_tactic_extensible)
        rw [putK_new _ vn]
        refine ⟨e4.trans .upd, tl ++ [k], ⟨_, _, _, rfl⟩, ?_, by rw [List.length_append]; simp; omega, ?_⟩
        · rw [upd_same]
          unfold tdK
          rw [List.map_append]
          rfl
        · rw [fe]
          simp only [faultL, cf]
  · obtain ⟨e2, tl, ⟨z2, z3, z4, rfl⟩, d2, tlen, fe⟩ := q1.h
    have sH : Same H H' := fun b o hb => e2 _ _ (s1 _ _ hb) (Same.ne hb hD)
    have el : es.length = ls.length := Paired.length ln
    rw [el, List.drop_length] at fe
    (refine Stop.go ?_; get_elem_tactic_extensible)
    exact q _ H' sH (by rw [fe]; rfl)
end EH

/-! ## EHX6 -/
namespace EH
open PySem PySem.Spec PyProof.Rows L2 EHR SX
local macro_rules | `(tactic| decreasing_trivial_pre_omega) => `(tactic| first
  | assumption
  | rfl
  | exact lk_here
  | exact Txt.cl_Ledger (by assumption) | exact Txt.cl_Rules (by assumption) | exact Txt.cl_School (by assumption) | exact Txt.cl_Offer (by assumption) | exact Txt.cl_House (by assumption)
  | exact Txt.na_Ledger (by assumption) _ (by decide +kernel) | exact Txt.na_Rules (by assumption) _ (by decide +kernel) | exact Txt.na_School (by assumption) _ (by decide +kernel) | exact Txt.na_Offer (by assumption) _ (by decide +kernel) | exact Txt.na_House (by assumption) _ (by decide +kernel)
  | exact (lk_past (by decide +kernel)).trans lk_here
  | exact (lk_past (by decide +kernel)).trans ((lk_past (by decide +kernel)).trans lk_here)
  | exact (lk_past (by decide +kernel)).trans ((lk_past (by decide +kernel)).trans ((lk_past (by decide +kernel)).trans lk_here))
  | exact (lk_past (by decide +kernel)).trans ((lk_past (by decide +kernel)).trans ((lk_past (by decide +kernel)).trans ((lk_past (by decide +kernel)).trans lk_here)))
  | exact (lk_past (by decide +kernel)).trans ((lk_past (by decide +kernel)).trans ((lk_past (by decide +kernel)).trans ((lk_past (by decide +kernel)).trans ((lk_past (by decide +kernel)).trans lk_here))))
  | exact (lk_past (by decide +kernel)).trans ((lk_past (by decide +kernel)).trans ((lk_past (by decide +kernel)).trans ((lk_past (by decide +kernel)).trans ((lk_past (by decide +kernel)).trans ((lk_past (by decide +kernel)).trans lk_here)))))
  | exact SqL.of (by assumption) | exact SqT.of (by assumption)
  | exact Or.inl (SqL.of (by assumption)) | exact Or.inr (SqT.of (by assumption)) | exact Or.inl (by assumption) | exact Or.inr (by assumption)
  | exact atI0 rfl | exact atI_nat (j := 1) rfl | exact atI_nat (j := 2) rfl
  | exact Or.inl ⟨rfl, _, SqL.of (by assumption)⟩
  | exact Nat.le_of_ble_eq_true rfl
  | exact Same.at1 (by assumption) (by assumption)
  | exact SqL.of (Same.at1 (by assumption) (by assumption)) | exact SqT.of (Same.at1 (by assumption) (by assumption)) | exact Or.inl (SqL.of (Same.at1 (by assumption) (by assumption))) | exact Or.inr (SqT.of (Same.at1 (by assumption) (by assumption)))
  | exact ⟨_, by assumption⟩ | exact ⟨_, rfl⟩ | trivial
  | exact dput_i (by assumption) (by assumption) | exact dput_s (by assumption) (by assumption) | exact kV_i | exact kV_s | exact isD_k (by assumption)
  | exact upd_same)
local macro_rules | `(tactic| get_elem_tactic_extensible) => `(tactic| repeat (first
  | refine And.intro (by decreasing_trivial_pre_omega) ?_
  | apply Exists.intro (α := V) | apply Exists.intro (α := Addr) | apply Exists.intro (α := List V) | apply Exists.intro (α := Int) | apply Exists.intro (α := Bool)
  | apply Exists.intro (α := List (Str × V)) | apply Exists.intro (α := Str) | apply Exists.intro (α := List (Key × V)) | apply Exists.intro (α := Option V)
  | apply Exists.intro (α := List Int) | apply Exists.intro (α := List Bool) | apply Exists.intro (α := List Str) | apply Exists.intro (α := Obj) | apply Exists.intro (α := List En) | apply Exists.intro (α := HAd) | apply Exists.intro (α := Vbdbam.State) | apply Exists.intro (α := Vbdbam.Rules) | apply Exists.intro (α := Hp) | apply Exists.intro (α := Key) | apply Exists.intro (α := Nat) | apply Exists.intro (α := Wd) | apply Exists.intro (α := Wd → List Int) | apply Exists.intro (α := Nat → Int) | apply Exists.intro (α := List Nat) | apply Exists.intro (α := List (List Nat)) | apply Exists.intro (α := List (List (List Nat)))))
local macro_rules | `(tactic| decreasing_trivial) => `(tactic| (intro vs H Q E h; repeat (first | (obtain ⟨e, _⟩ := h; subst e; rfl) | (obtain ⟨_, h⟩ := h))))

open Vbdbam (Bytes isDigit number cut words text newRules)
def uA (A : Ad) : Wd → Addr
  | .places => A.u_places | .form => A.u_form | .cap => A.u_cap | .judges => A.u_judges | .fee => A.u_fee | .fine => A.u_fine | .answer => A.u_answer | .start => A.u_start | .back => A.u_back
theorem uA_tup {w : World} {K : PySem.W.Frag} {mg : Str → Option Value} {A : Ad} (T : Txt w K mg A) (H : Hp) : ∀ v : Wd, SqT K H (uA A v) ((nums newRules v).map .int)
  | .places => T.u_places H
  | .form => T.u_form H
  | .cap => T.u_cap H
  | .judges => T.u_judges H
  | .fee => T.u_fee H
  | .fine => T.u_fine H
  | .answer => T.u_answer H
  | .start => T.u_start H
  | .back => T.u_back H
theorem kk_untold {A : Ad} : kk (untold A) = toldK (uA A) := rfl
def updW (N : Wd → List Int) : List Bytes → Wd → List Int
  | [], v => N v
  | k :: ws, v => if v.by = k then ws.map fun w => ((number w : Nat) : Int) else N v
theorem updW_same {N : Wd → List Int} {w : Wd} {ws : List Bytes} : updW N (w.by :: ws) w = ws.map fun w => ((number w : Nat) : Int) := if_pos rfl
theorem updW_ne {N : Wd → List Int} {v w : Wd} {ws : List Bytes} (h : v ≠ w) : updW N (w.by :: ws) v = N v := if_neg fun e => h (by_inj e)
theorem put_told {p : Wd → Addr} {q : Addr} (w : Wd) : putK (toldK p) (.inr w.nm) (.ref q) = toldK fun v => if v = w then q else p v := by
  unfold putK
  have ha : ((toldK p).any fun kv => decide (kv.1 = Sum.inr w.nm)) = true := by
    rw [valV_any, told_val]
    rfl
  rw [if_pos ha]
  unfold toldK
  rw [List.map_map]
  refine List.map_congr_left fun v _ => ?_
  show (if (Sum.inr v.nm : Key) = Sum.inr w.nm then ((Sum.inr v.nm : Key), V.ref q) else (Sum.inr v.nm, V.ref (p v))) = (Sum.inr v.nm, V.ref (if v = w then q else p v))
  by_cases c : v = w
  · subst c
    rw [if_pos rfl, if_pos rfl]
  · rw [if_neg (fun h => c (nm_inj (Sum.inr.inj h))), if_neg c]
/-- the lines tell rules, all words known, all numbers -/
def Tells (ls : List (List Bytes)) : Prop := ∀ k ws, (k :: ws) ∈ ls → Vbdbam.KINDS.contains k = true ∧ ws.all numB = true
def sp_rules_of (K : PySem.W.Frag) (A : Ad) : Sp := fun vs H Q _ => ∃ (a : Addr) (es : List V) (ls : List (List Bytes)), vs = [.ref a] ∧ SqL K H a es ∧ LnL H es ls ∧ ls.length ≤ 100000 ∧ (∀ l, l ∈ ls → LnOk l) ∧ Tells ls ∧
  ∀ p td H', Same H H' → H p = none → H td = none → RlsN K A H' p td (ls.foldl updW (nums newRules)) → Q (.ref p) H'
theorem ok_rules_of {P : Program} {w : World} {K : PySem.W.Frag} {mg : Str → Option Value} {base : Heap} {A : Ad} (T : Txt w K mg A) : C8.Cal P w K mg base 3 "rules_of" (sp_rules_of K A) [] := by
  refine calOf T.d_rules_of sc_rules_of (by decreasing_trivial) (fun cdv Ar outer s0 H vs Q E hr hsp => ⟨_, (pss_cons (ps_stop (ps_set (i := 1) sc_rules_of.nd rfl (Or.inl rfl) (pe_callTy (call_dict_kd T.kd_UNTOLD (show 9 ≤ sizeLine by decide)) (by rfl) T.n_dict (by decide +kernel) (pa_cons (C8.pe_gc rfl T.c_UNTOLD) pa_nil))))
 (pss_cons (ps_stop (ps_for PassesOwn.never rfl (pi_list (pv 0)) (pg_name (i := 2) sc_rules_of.nd rfl (Or.inl rfl))
  (pss_one (ps_stop (ps_if (pt_cmpR op_gt (pe_callB call_len_seq (by rfl) T.n_len (by decide +kernel) (pa_cons (pv 2) pa_nil)) pe_int (nomark _)) (pss_one (ps_stop (ps_dput (hu_of hr) (pv 1) (pe_ix ix_list (pv 2) pe_int (fun _ _ => rfl)) (pe_callTy call_tuple_of (by rfl) T.n_tuple (by decide +kernel) (pa_cons (pe_lc (own := [("digits", 3)]) (g := gName 3) (tt := tYes) (te := (tCB _ (tCons (tVar 3) tNil))) (by rfl) sc_rules_of.nd (pi_list (pe_slice sl_list (pv 2) (po_some pe_int) po_none)) (blkOk_by (own := [("digits", 3)]) (N := N_rules_of) (sc := C8.fnScope s_rules_of) (by decide +kernel)) (fun _ _ _ _ _ => pg_name (i := 3) sc_rules_of.nd rfl (Or.inl rfl)) (fun _ _ _ _ _ => pts_nil) (fun _ _ _ _ _ => (pe_callTy call_int_str (by rfl) T.n_int (by decide +kernel) (pa_cons (pv 3) pa_nil)))) pa_nil)) rfl))) pss_nil)))))
 (pss_one (ps_stop (ps_ret (C8.pe_mk (ok_Rules_init T) hr (by decide) rfl (pa_cons (pv 1) pa_nil))))))), ?_⟩)
  obtain ⟨a, es, ls, rfl, hl, ln, len, ok, tell, q⟩ := hsp
  refine Stop.go ?_
  get_elem_tactic_extensible
  rw [kk_untold]
  intro D hD
  have s1 := Same.new (o := .dK (toldK (uA A))) hD
  have d1 : upd H D (.dK (toldK (uA A))) D = some (.dK (toldK (uA A))) := upd_same
  generalize upd H D (.dK (toldK (uA A))) = H1 at s1 d1
  have hl := s1.seq hl
  have ln := ln.same s1
  refine Stop.go ?_
  get_elem_tactic_extensible
  refine for_it (walk_list (xs := es)) (fun i σ H' => Hold (Ext D H1 H' ∧ ∃ p, (∃ z2 z3, σ = [some (.ref a), some (.ref D), z2, z3]) ∧ H' D = some (.dK (toldK p)) ∧ ∀ w, SqT K H' (p w) (((ls.take i).foldl updW (nums newRules) w).map .int))) ⟨.refl, uA A, ⟨_, _, rfl⟩, d1, uA_tup T H1⟩ (fun i σ H' _ q => by
    rcases hl with (h | ⟨od, h⟩) | h
    · exact .inl (.inl (q.h.1 _ _ h (ne_shp h d1 rfl)))
    · exact .inl (.inr ⟨od, q.h.1 _ _ h (ne_shp h d1 rfl)⟩)
    · exact .inr h) (fun i x σ H2 H' hi y0 y => ?_) (fun σ H' q1 => ?_)
  · obtain ⟨rfl, hx⟩ := y
    obtain ⟨e2, p, ⟨z2, z3, rfl⟩, d2, tp⟩ := y0.h
    obtain ⟨l, hll, c, rfl, hc⟩ := paired_at ln hx
    have lo := ok l (List.mem_of_getElem? hll)
    have hc := e2 _ _ hc (ne_shp hc d1 rfl)
    have cq := SqL.of (K := K) hc
    have e0 : (stv l).length = l.length := by simp [stv]
    (refine Stop.go ?_; get_elem_tactic_extensible)
    cases l with
    | nil =>
      refine ifd (fun c1 => absurd c1 (by decide)) fun _ => ?_
      exact ⟨e2, p, ⟨_, _, rfl⟩, d2, by rw [take_one hll, List.foldl_append]; exact tp⟩
    | cons k ws =>
      refine ifd (fun _ => ?_) fun c1 => absurd (show (0 : Int) < (((stv (k :: ws)).length : Nat) : Int) by simp [stv]) c1
      obtain ⟨t1, t2⟩ := tell k ws (List.mem_of_getElem? hll)
      have wl : ws.length ≤ 100000 := by have := lo.1; rw [List.length_cons] at this; omega
      obtain ⟨w', rfl, enm⟩ := look_some (A := A) t1
      have i0 : atI (stv (w'.by :: ws)) 0 = some (.str w'.nm) := by rw [← enm]; exact atI_nat (j := 0) rfl
      have hcut : cutV (stv (w'.by :: ws)) (some 1) none = stv ws := by
        have e1 : (stv (w'.by :: ws)).length = ws.length + 1 := by simp [stv]
        unfold cutV
        rw [e1, HT.sIx_none]
        have : HT.sIx (ws.length + 1) 0 (some 1) = 1 := by
          have := HT.sIx_nat (ws.length + 1) 0 1
          rw [show ((1 : Nat) : Int) = 1 from rfl] at this
          rw [this]
          omega
        rw [this]
        show ((stv ws).take (ws.length + 1 - 1)) = stv ws
        rw [List.take_of_length_le (by simp [stv])]
      refine Stop.go ?_
      get_elem_tactic_extensible
      rw [hcut]
      intro t ht
      have s3 := Same.new (o := .lst (stv ws)) ht
      have t3 : upd H' t (.lst (stv ws)) t = some (.lst (stv ws)) := upd_same
      generalize upd H' t (.lst (stv ws)) = H3 at s3 t3
      have tq := SqL.of (K := K) t3
      get_elem_tactic_extensible
      intro D2 hD2
      refine lc_it (walk_list (xs := stv ws)) (LcI H3 D2 fun i => (ws.take i).map fun w => V.int ((number w : Nat) : Int)) (LcI.zero hD2 rfl) (fun i H' _ p => p.s.seq tq) (fun i x H5 H' hi p y => ?_) (fun H4 p4 => ?_)
      · obtain ⟨rfl, hx⟩ := y
        obtain ⟨o, ho, rfl⟩ : ∃ o, ws[i]? = some o ∧ V.str (S o) = x := by
          unfold stv at hx
          rw [List.getElem?_map] at hx
          cases e : ws[i]? with
          | none => rw [e] at hx; cases hx
          | some o => rw [e] at hx; exact ⟨o, rfl, Option.some.inj hx⟩
        obtain ⟨i1, i2⟩ := int_line (List.all_eq_true.mp t2 o (List.mem_of_getElem? ho))
        have pd := p.d
        have lf : ((ws.take i).map fun w => V.int ((number w : Nat) : Int)).length < sizeLine := lt_line (by simp; omega)
        get_elem_tactic_extensible
        exact p.put (Same.refl _) hD2 (by rw [take_one ho, List.map_append]; rfl)
      · have pd := p4.d
        have e1 : (stv ws).length = ws.length := by simp [stv]
        rw [e1, List.take_length] at pd
        have lq := SqL.of (K := K) pd
        refine ⟨D2, _, rfl, .inl ⟨lq, fun q0 hq0 => ?_⟩⟩
        have s5 := (s3.trans p4.s).trans (Same.new (o := .tup (ws.map fun w => V.int ((number w : Nat) : Int))) hq0)
        have t5 : upd H4 q0 (.tup (ws.map fun w => V.int ((number w : Nat) : Int))) q0 = some (.tup (ws.map fun w => V.int ((number w : Nat) : Int))) := upd_same
        generalize upd H4 q0 (.tup (ws.map fun w => V.int ((number w : Nat) : Int))) = H5 at s5 t5
        have d5 := s5 _ _ d2
        have cq := s5.seq cq
        have tl : (toldK p).length < sizeLine := show 9 < sizeLine by decide
        get_elem_tactic_extensible
        rw [put_told]
        refine ⟨e2.trans ((Ext.same s5).trans .upd), _, ⟨_, _, rfl⟩, upd_same, fun v => ?_⟩
        rw [take_one hll, List.foldl_append]
        show SqT K _ (if v = w' then q0 else p v) ((updW (((ls.take i).foldl updW (nums newRules))) (w'.by :: ws) v).map .int)
        by_cases cv : v = w'
        · subst cv
          rw [if_pos rfl, updW_same, List.map_map]
          exact keepT (SqT.of t5) d5 rfl rfl
        · rw [if_neg cv, updW_ne cv]
          exact keepT (EH.Same.seqT s5 (tp v)) d5 rfl rfl
  · obtain ⟨e2, p, ⟨z2, z3, rfl⟩, d2, tp⟩ := q1.h
    have el : es.length = ls.length := Paired.length ln
    rw [el, List.take_length] at tp
    have sH : Same H H' := fun b o hb => e2 _ _ (s1 _ _ hb) (Same.ne hb hD)
    refine Stop.go ?_
    get_elem_tactic_extensible
    intro x dx hx hdx hne
    refine ⟨x, dx, D, rfl, upd_same, rfl, ?_⟩
    have sM := made hx hdx (C := A.cRules) (H' := upd (upd (upd H' dx (.own x)) x (.ins A.cRules dx [])) x (.ins A.cRules dx (rF D))) (fun b hb => by rw [upd_ne hb])
    exact q x D _ (sH.trans sM) (sH.free hx) hD ⟨dx, p, upd_same, sM _ _ d2, fun v => EH.Same.seqT sM (tp v)⟩
end EH

/-! ## EHX7 -/
namespace EH
open PySem PySem.Spec PyProof.Rows L2 EHR SX
local macro_rules | `(tactic| decreasing_trivial_pre_omega) => `(tactic| first
  | assumption
  | rfl
  | exact lk_here
  | exact Txt.cl_Ledger (by assumption) | exact Txt.cl_Rules (by assumption) | exact Txt.cl_School (by assumption) | exact Txt.cl_Offer (by assumption) | exact Txt.cl_House (by assumption)
  | exact Txt.na_Ledger (by assumption) _ (by decide +kernel) | exact Txt.na_Rules (by assumption) _ (by decide +kernel) | exact Txt.na_School (by assumption) _ (by decide +kernel) | exact Txt.na_Offer (by assumption) _ (by decide +kernel) | exact Txt.na_House (by assumption) _ (by decide +kernel)
  | exact (lk_past (by decide +kernel)).trans lk_here
  | exact (lk_past (by decide +kernel)).trans ((lk_past (by decide +kernel)).trans lk_here)
  | exact (lk_past (by decide +kernel)).trans ((lk_past (by decide +kernel)).trans ((lk_past (by decide +kernel)).trans lk_here))
  | exact (lk_past (by decide +kernel)).trans ((lk_past (by decide +kernel)).trans ((lk_past (by decide +kernel)).trans ((lk_past (by decide +kernel)).trans lk_here)))
  | exact (lk_past (by decide +kernel)).trans ((lk_past (by decide +kernel)).trans ((lk_past (by decide +kernel)).trans ((lk_past (by decide +kernel)).trans ((lk_past (by decide +kernel)).trans lk_here))))
  | exact (lk_past (by decide +kernel)).trans ((lk_past (by decide +kernel)).trans ((lk_past (by decide +kernel)).trans ((lk_past (by decide +kernel)).trans ((lk_past (by decide +kernel)).trans ((lk_past (by decide +kernel)).trans lk_here)))))
  | exact SqL.of (by assumption) | exact SqT.of (by assumption)
  | exact Or.inl (SqL.of (by assumption)) | exact Or.inr (SqT.of (by assumption)) | exact Or.inl (by assumption) | exact Or.inr (by assumption)
  | exact atI0 rfl | exact atI_nat (j := 1) rfl | exact atI_nat (j := 2) rfl
  | exact Or.inl ⟨rfl, _, SqL.of (by assumption)⟩
  | exact Nat.le_of_ble_eq_true rfl
  | exact Same.at1 (by assumption) (by assumption)
  | exact SqL.of (Same.at1 (by assumption) (by assumption)) | exact SqT.of (Same.at1 (by assumption) (by assumption)) | exact Or.inl (SqL.of (Same.at1 (by assumption) (by assumption))) | exact Or.inr (SqT.of (Same.at1 (by assumption) (by assumption)))
  | exact ⟨_, by assumption⟩ | exact ⟨_, rfl⟩ | trivial
  | exact dput_i (by assumption) (by assumption) | exact dput_s (by assumption) (by assumption) | exact kV_i | exact kV_s | exact isD_k (by assumption)
  | exact upd_same)
local macro_rules | `(tactic| get_elem_tactic_extensible) => `(tactic| repeat (first
  | refine And.intro (by decreasing_trivial_pre_omega) ?_
  | apply Exists.intro (α := V) | apply Exists.intro (α := Addr) | apply Exists.intro (α := List V) | apply Exists.intro (α := Int) | apply Exists.intro (α := Bool)
  | apply Exists.intro (α := List (Str × V)) | apply Exists.intro (α := Str) | apply Exists.intro (α := List (Key × V)) | apply Exists.intro (α := Option V)
  | apply Exists.intro (α := List Int) | apply Exists.intro (α := List Bool) | apply Exists.intro (α := List Str) | apply Exists.intro (α := Obj) | apply Exists.intro (α := List En) | apply Exists.intro (α := HAd) | apply Exists.intro (α := Vbdbam.State) | apply Exists.intro (α := Vbdbam.Rules) | apply Exists.intro (α := Hp) | apply Exists.intro (α := Key) | apply Exists.intro (α := Nat) | apply Exists.intro (α := Wd) | apply Exists.intro (α := Wd → List Int) | apply Exists.intro (α := Nat → Int) | apply Exists.intro (α := List Nat) | apply Exists.intro (α := List (List Nat)) | apply Exists.intro (α := List (List (List Nat)))))
local macro_rules | `(tactic| decreasing_trivial) => `(tactic| (intro vs H Q E h; repeat (first | (obtain ⟨e, _⟩ := h; subst e; rfl) | (obtain ⟨_, h⟩ := h))))

open Vbdbam (Bytes isDigit number cut words text)
theorem untold_at {A : Ad} {i : Nat} {p : Str × V} (h : (untold A)[i]? = some p) : ∃ w, wds[i]? = some w ∧ p.1 = w.nm := by
  have e : (untold A).map (·.1) = wds.map Wd.nm := rfl
  have h2 : ((untold A).map (·.1))[i]? = some p.1 := by rw [List.getElem?_map, h]; rfl
  rw [e, List.getElem?_map] at h2
  cases q : wds[i]? with
  | none => rw [q] at h2; cases h2
  | some w => rw [q] at h2; exact ⟨w, rfl, (Option.some.inj h2).symm⟩
def rowW (r : Vbdbam.Rules) (ws : List Wd) : List Int := ws.flatMap fun w => if w = .back then [] else nums r w
theorem nums_len {r : Vbdbam.Rules} : ∀ w : Wd, w ≠ .back → (nums r w).length ≤ 2
  | .places, _ => Nat.le_of_ble_eq_true rfl
  | .form, _ => Nat.le_of_ble_eq_true rfl
  | .cap, _ => Nat.le_of_ble_eq_true rfl
  | .judges, _ => Nat.le_of_ble_eq_true rfl
  | .fee, _ => Nat.le_of_ble_eq_true rfl
  | .fine, _ => Nat.le_of_ble_eq_true rfl
  | .answer, _ => Nat.le_of_ble_eq_true rfl
  | .start, _ => Nat.le_of_ble_eq_true rfl
  | .back, h => absurd rfl h
theorem rowW_len {r : Vbdbam.Rules} : ∀ ws : List Wd, (rowW r ws).length ≤ 2 * ws.length
  | [] => Nat.le_refl _
  | w :: ws => by
    have ih := rowW_len (r := r) ws
    unfold rowW at *
    rw [List.flatMap_cons, List.length_append, List.length_cons]
    by_cases c : w = .back
    · rw [if_pos c, List.length_nil]; omega
    · rw [if_neg c]
      have := nums_len (r := r) w c
      omega
def sp_Rules_row (K : PySem.W.Frag) (A : Ad) : Sp := fun vs H Q _ => ∃ (ru : Addr) (r : Vbdbam.Rules), vs = [.ref ru] ∧ Rls K A H ru r ∧
  ∀ p H', H p = none → Same H H' → H' p = some (.lst ([r.places, r.form, r.cap, r.judges, r.per, r.fee, r.fine, r.answer, r.start].map fun (n : Nat) => V.int (n : Int))) → Q (.ref p) H'
theorem ok_Rules_row {P : Program} {w : World} {K : PySem.W.Frag} {mg : Str → Option Value} {base : Heap} {A : Ad} (T : Txt w K mg A) : C8.Met P w K mg base 1 A.cRules "row" (sp_Rules_row K A) [] := by
  refine metOf T.cl_Rules T.d_Rules_row sc_Rules_row (by decreasing_trivial) (fun cdv Ar outer s0 H vs Q E hr hsp => ⟨_, (pss_cons (ps_stop (ps_set (i := 1) sc_Rules_row.nd rfl (Or.inl rfl) (pe_lst pa_nil)))
 (pss_cons (ps_stop (ps_for PassesOwn.never rfl (pi_kkeys T.kd_UNTOLD (C8.pe_gc rfl T.c_UNTOLD)) (pg_name (i := 2) sc_Rules_row.nd rfl (Or.inl rfl))
  (pss_one (ps_stop (ps_if (pt_cmpR op_ne (pv 2) pe_str (nomark _)) (pss_one (ps_stop (ps_expr (pe_bm PySem.F.plainAttrs_list PySem.F.slot_list_extend PySem.F.type_list_extend mt_extendT (pv 1) (pa_cons (pe_dget (hu_of hr) (pe_fld (pv 0) rfl) (pv 2) (fun _ _ => rfl)) pa_nil))))) pss_nil)))))
 (pss_one (ps_stop (ps_ret (pv 1)))))), ?_⟩)
  obtain ⟨ru, r, rfl, ⟨td, dx, p, h1, h2, h3⟩, q⟩ := hsp
  refine Stop.go ?_
  get_elem_tactic_extensible
  intro L hL
  have s1 := Same.new (o := .lst []) hL
  have l1 : upd H L (.lst []) L = some (.lst ((rowW r (wds.take 0)).map .int)) := upd_same
  generalize upd H L (.lst []) = H1 at s1 l1
  have h1 := s1 _ _ h1
  have h2 := s1 _ _ h2
  have h3 : ∀ w, SqT K H1 (p w) ((nums r w).map .int) := fun w => EH.Same.seqT s1 (h3 w)
  refine Stop.go ?_
  get_elem_tactic_extensible
  refine for_it (walk_kkeys (kvs := untold A)) (fun i σ H' => Hold (Ext L H1 H' ∧ (∃ z, σ = [some (.ref ru), some (.ref L), z]) ∧ H' L = some (.lst ((rowW r (wds.take i)).map .int)))) ⟨.refl, ⟨_, rfl⟩, l1⟩ (fun _ _ _ _ _ => trivial) (fun i x σ H2 H' hi y0 y => ?_) (fun σ H' q1 => ?_)
  · obtain ⟨rfl, pr, hx, rfl⟩ := y
    obtain ⟨e2, ⟨z, rfl⟩, l2⟩ := y0.h
    obtain ⟨w', hw, ew⟩ := untold_at hx
    rw [ew]
    have rs : rowW r (wds.take (i + 1)) = rowW r (wds.take i) ++ if w' = .back then [] else nums r w' := by
      rw [take_one hw]
      unfold rowW
      rw [List.flatMap_append]
      simp
    (refine Stop.go ?_; get_elem_tactic_extensible)
    refine ifn (fun c1 => ?_) fun c1 => ?_
    · have c1 : w' ≠ .back := fun h => c1 (by rw [h]; rfl)
      rw [if_neg c1] at rs
      have h1 := e2 _ _ h1 (ne_shp h1 l1 rfl)
      have h2 := e2 _ _ h2 (ne_shp h2 l1 rfl)
      have g := DGet.k (k := .inr w'.nm) h2
      rw [told_val] at g
      have h3 : SqT K H' (p w') ((nums r w').map .int) := by
        rcases h3 w' with (q | ⟨od, q⟩) | q
        · exact .inl (.inl (e2 _ _ q (ne_shp q l1 rfl)))
        · exact .inl (.inr ⟨od, e2 _ _ q (ne_shp q l1 rfl)⟩)
        · exact .inr q
      have ll : ((rowW r (wds.take i)).map V.int).length + ((nums r w').map V.int).length ≤ sizeLine := by
        have a1 := rowW_len (r := r) (wds.take i)
        have a2 := nums_len (r := r) w' c1
        have a3 : (wds.take i).length ≤ 9 := by rw [List.length_take]; exact Nat.min_le_right _ _
        rw [List.length_map, List.length_map]
        exact Nat.le_trans (Nat.add_le_add (Nat.le_trans a1 (Nat.mul_le_mul_left 2 a3)) a2) (by decide)
      (refine Stop.go ?_; get_elem_tactic_extensible)
      refine ⟨e2.trans .upd, ⟨_, rfl⟩, ?_⟩
      rw [upd_same, rs, List.map_append]
    · have c1 : w' = .back := nm_inj (V.str.inj c1)
      rw [if_pos c1, List.append_nil] at rs
      exact ⟨e2, ⟨_, rfl⟩, by rw [rs]; exact l2⟩
  · obtain ⟨e2, ⟨z, rfl⟩, l2⟩ := q1.h
    (refine Stop.go ?_; get_elem_tactic_extensible)
    exact q L H' hL (fun b o hb => e2 _ _ (s1 _ _ hb) (Same.ne hb hL)) l2
theorem lit_numL (n : Nat) : Vbdbam.decimal n = TL.numL n := by
  unfold Vbdbam.decimal text
  rw [← TL.tl_num n, TL.tl_ofString]
  rfl
theorem joined_joinL (sep : Bytes) : ∀ l, Vbdbam.joined sep l = TL.joinL sep l
  | [] => rfl
  | [_] => rfl
  | w :: x :: r => by
    have ih := joined_joinL sep (x :: r)
    show w ++ (sep ++ Vbdbam.joined sep (x :: r)) = w ++ (sep ++ TL.joinL sep (x :: r))
    rw [ih]
theorem dec_sum : ∀ (ns : List Nat), (∀ n, n ∈ ns → n < 10000) → ((ns.map Vbdbam.decimal).map fun (x : List Nat) => x.length).sum ≤ 4 * ns.length
  | [], _ => Nat.le_refl _
  | n :: ns, h => by
    have i1 := dec_sum ns fun m hm => h m (List.mem_cons.mpr (.inr hm))
    have i2 : (Vbdbam.decimal n).length ≤ 4 := by rw [lit_numL]; exact TL.numL_len (by decide) (h n (List.mem_cons.mpr (.inl rfl)))
    rw [List.map_cons, List.map_cons, List.sum_cons, List.length_cons]
    omega
def lineS (w : Wd) (ns : List Nat) : Bytes := Vbdbam.spaced (w.by :: ns.map Vbdbam.decimal)
def sp_shown_line (K : PySem.W.Frag) (_ : Ad) : Sp := fun vs H Q _ => ∃ (a : Addr) (w : Wd) (ns : List Nat), vs = [.str w.nm, .ref a] ∧ SqT K H a (ivs ns) ∧ ns.length ≤ 1000 ∧ (∀ n, n ∈ ns → n < 10000) ∧ ∀ H', Same H H' → Q (.str (S (lineS w ns))) H'
theorem ok_shown_line {P : Program} {w : World} {K : PySem.W.Frag} {mg : Str → Option Value} {base : Heap} {A : Ad} (T : Txt w K mg A) : C8.Cal P w K mg base 1 "shown_line" (sp_shown_line K A) [] := by
  refine calOf T.d_shown_line sc_shown_line (by decreasing_trivial) (fun cdv Ar outer s0 H vs Q E hr hsp => ⟨_, (pss_one (ps_ret (pe_join pe_str (pe_op op_cat (pe_lst (pa_cons (pv 0) pa_nil)) (pe_lc (own := [("number", 2)]) (g := gName 2) (tt := tYes) (te := (tCB _ (tCons (tVar 2) tNil))) (by rfl) sc_shown_line.nd (pi_tup (pv 1)) (blkOk_by (own := [("number", 2)]) (N := N_shown_line) (sc := C8.fnScope s_shown_line) (by decide +kernel)) (fun _ _ _ _ _ => pg_name (i := 2) sc_shown_line.nd rfl (Or.inl rfl)) (fun _ _ _ _ _ => pts_nil) (fun _ _ _ _ _ => (pe_callTy call_str_int (by rfl) T.n_str (by decide +kernel) (pa_cons (pv 2) pa_nil)))))))), ?_⟩)
  obtain ⟨a, wd, ns, rfl, hl, len, sm, q⟩ := hsp
  have lg : ∀ n, n ∈ ns → ((n : Nat) : Int).natAbs.log2 < 1920 := fun n hn => by
    show n.log2 < 1920
    by_cases c : n = 0
    · subst c; decide
    · exact Nat.lt_trans ((Nat.log2_lt c).2 (Nat.lt_of_lt_of_le (sm n hn) (show 10000 ≤ 2 ^ 14 by decide))) (by decide)
  have e1 : (ivs ns).length = ns.length := by simp [ivs]
  get_elem_tactic_extensible
  intro t0 ht0
  have s1 := Same.new (o := .lst [.str wd.nm]) ht0
  have t1 : upd H t0 (.lst [.str wd.nm]) t0 = some (.lst [.str wd.nm]) := upd_same
  generalize upd H t0 (.lst [.str wd.nm]) = H1 at s1 t1
  have hl := EH.Same.seqT s1 hl
  get_elem_tactic_extensible
  intro D hD
  refine lc_it (walk_tup (xs := ivs ns)) (LcI H1 D fun i => (ns.take i).map fun n => V.str (S (Vbdbam.decimal n))) (LcI.zero hD rfl) (fun i H' _ p => EH.Same.seqT p.s hl) (fun i x H2 H' hi p y => ?_) (fun H' p => ?_)
  · obtain ⟨rfl, hx⟩ := y
    obtain ⟨k, hk, rfl⟩ : ∃ k, ns[i]? = some k ∧ V.int ((k : Nat) : Int) = x := by
      unfold ivs at hx
      rw [List.getElem?_map] at hx
      cases e : ns[i]? with
      | none => rw [e] at hx; cases hx
      | some o => rw [e] at hx; exact ⟨o, rfl, Option.some.inj hx⟩
    have lgk := lg k (List.mem_of_getElem? hk)
    have pd := p.d
    have lf : ((ns.take i).map fun n => V.str (S (Vbdbam.decimal n))).length < sizeLine := lt_line (by simp; omega)
    get_elem_tactic_extensible
    rw [num_S]
    exact p.put (Same.refl _) hD (by rw [take_one hk, List.map_append, List.map_cons, List.map_nil, lit_numL])
  · have pd := p.d
    rw [e1, List.take_length] at pd
    have t1 := p.s _ _ t1
    have ll : ([V.str wd.nm] : List V).length + (ns.map fun n => V.str (S (Vbdbam.decimal n))).length ≤ sizeLine := by
      rw [List.length_map]
      exact Nat.le_trans (Nat.add_le_add_left len 1) (by decide)
    get_elem_tactic_extensible
    intro q0 hq0
    have e2 : [V.str wd.nm] ++ (ns.map fun n => V.str (S (Vbdbam.decimal n))) = ((wd.by :: ns.map Vbdbam.decimal).map S).map V.str := by
      rw [nm_by, List.map_cons, List.map_cons, List.map_map, List.map_map]
      rfl
    rw [e2]
    have s3 := Same.new (o := .lst (((wd.by :: ns.map Vbdbam.decimal).map S).map V.str)) hq0
    have t3 : upd H' q0 (.lst (((wd.by :: ns.map Vbdbam.decimal).map S).map V.str)) q0 = some (.lst (((wd.by :: ns.map Vbdbam.decimal).map S).map V.str)) := upd_same
    generalize upd H' q0 (.lst (((wd.by :: ns.map Vbdbam.decimal).map S).map V.str)) = H3 at s3 t3
    have tq := SqL.of (K := K) t3
    have sz : (((wd.by :: ns.map Vbdbam.decimal).map S).map (fun x => x.length)).sum + ((wd.by :: ns.map Vbdbam.decimal).map S).length * (Str.ofString " ").length ≤ 16777216 := by
      have e3 : (Str.ofString " ").length = 1 := by rw [lit]; rfl
      rw [e3, SX.lens, List.length_map, List.map_cons, List.sum_cons, List.length_cons, List.length_map]
      have b1 : wd.by.length ≤ 6 := by cases wd <;> decide
      have b2 := dec_sum ns sm
      omega
    get_elem_tactic_extensible
    have e4 : Str.ofString " " = S [32] := lit " "
    rw [e4, join_S, ← joined_joinL]
    exact q H3 (s1.trans (p.s.trans s3))
end EH

/-! ## EHX8 -/
namespace EH
open PySem PySem.Spec PyProof.Rows L2 EHR SX
local macro_rules | `(tactic| decreasing_trivial_pre_omega) => `(tactic| first
  | assumption
  | rfl
  | exact lk_here
  | exact Txt.cl_Ledger (by assumption) | exact Txt.cl_Rules (by assumption) | exact Txt.cl_School (by assumption) | exact Txt.cl_Offer (by assumption) | exact Txt.cl_House (by assumption)
  | exact Txt.na_Ledger (by assumption) _ (by decide +kernel) | exact Txt.na_Rules (by assumption) _ (by decide +kernel) | exact Txt.na_School (by assumption) _ (by decide +kernel) | exact Txt.na_Offer (by assumption) _ (by decide +kernel) | exact Txt.na_House (by assumption) _ (by decide +kernel)
  | exact (lk_past (by decide +kernel)).trans lk_here
  | exact (lk_past (by decide +kernel)).trans ((lk_past (by decide +kernel)).trans lk_here)
  | exact (lk_past (by decide +kernel)).trans ((lk_past (by decide +kernel)).trans ((lk_past (by decide +kernel)).trans lk_here))
  | exact (lk_past (by decide +kernel)).trans ((lk_past (by decide +kernel)).trans ((lk_past (by decide +kernel)).trans ((lk_past (by decide +kernel)).trans lk_here)))
  | exact (lk_past (by decide +kernel)).trans ((lk_past (by decide +kernel)).trans ((lk_past (by decide +kernel)).trans ((lk_past (by decide +kernel)).trans ((lk_past (by decide +kernel)).trans lk_here))))
  | exact (lk_past (by decide +kernel)).trans ((lk_past (by decide +kernel)).trans ((lk_past (by decide +kernel)).trans ((lk_past (by decide +kernel)).trans ((lk_past (by decide +kernel)).trans ((lk_past (by decide +kernel)).trans lk_here)))))
  | exact SqL.of (by assumption) | exact SqT.of (by assumption)
  | exact Or.inl (SqL.of (by assumption)) | exact Or.inr (SqT.of (by assumption)) | exact Or.inl (by assumption) | exact Or.inr (by assumption)
  | exact atI0 rfl | exact atI_nat (j := 1) rfl | exact atI_nat (j := 2) rfl
  | exact Or.inl ⟨rfl, _, SqL.of (by assumption)⟩
  | exact Nat.le_of_ble_eq_true rfl
  | exact Same.at1 (by assumption) (by assumption)
  | exact SqL.of (Same.at1 (by assumption) (by assumption)) | exact SqT.of (Same.at1 (by assumption) (by assumption)) | exact Or.inl (SqL.of (Same.at1 (by assumption) (by assumption))) | exact Or.inr (SqT.of (Same.at1 (by assumption) (by assumption)))
  | exact ⟨_, by assumption⟩ | exact ⟨_, rfl⟩ | trivial
  | exact dput_i (by assumption) (by assumption) | exact dput_s (by assumption) (by assumption) | exact kV_i | exact kV_s | exact isD_k (by assumption)
  | exact upd_same)
local macro_rules | `(tactic| get_elem_tactic_extensible) => `(tactic| repeat (first
  | refine And.intro (by decreasing_trivial_pre_omega) ?_
  | apply Exists.intro (α := V) | apply Exists.intro (α := Addr) | apply Exists.intro (α := List V) | apply Exists.intro (α := Int) | apply Exists.intro (α := Bool)
  | apply Exists.intro (α := List (Str × V)) | apply Exists.intro (α := Str) | apply Exists.intro (α := List (Key × V)) | apply Exists.intro (α := Option V)
  | apply Exists.intro (α := List Int) | apply Exists.intro (α := List Bool) | apply Exists.intro (α := List Str) | apply Exists.intro (α := Obj) | apply Exists.intro (α := List En) | apply Exists.intro (α := HAd) | apply Exists.intro (α := Vbdbam.State) | apply Exists.intro (α := Vbdbam.Rules) | apply Exists.intro (α := Hp) | apply Exists.intro (α := Key) | apply Exists.intro (α := Nat) | apply Exists.intro (α := Wd) | apply Exists.intro (α := Wd → List Int) | apply Exists.intro (α := Nat → Int) | apply Exists.intro (α := List Nat) | apply Exists.intro (α := List (List Nat)) | apply Exists.intro (α := List (List (List Nat)))))
local macro_rules | `(tactic| decreasing_trivial) => `(tactic| (intro vs H Q E h; repeat (first | (obtain ⟨e, _⟩ := h; subst e; rfl) | (obtain ⟨_, h⟩ := h))))

open Vbdbam (Bytes isDigit number cut words text)
def ntsW (r : Vbdbam.Rules) : Wd → List Nat
  | .places => [r.places] | .form => [r.form] | .cap => [r.cap] | .judges => [r.judges, r.per] | .fee => [r.fee] | .fine => [r.fine] | .answer => [r.answer] | .start => [r.start] | .back => r.back.flatMap fun p => [p.1, p.2]
theorem nts_ivs {r : Vbdbam.Rules} : ∀ w : Wd, (nums r w).map V.int = ivs (ntsW r w)
  | .places => rfl | .form => rfl | .cap => rfl | .judges => rfl | .fee => rfl | .fine => rfl | .answer => rfl | .start => rfl
  | .back => by
    show (r.back.flatMap _).map V.int = (r.back.flatMap _).map _
    rw [List.map_flatMap, List.map_flatMap]
    rfl
theorem text_lines {r : Vbdbam.Rules} : Vbdbam.rulesText r = Vbdbam.joined [10] (wds.map fun w => lineS w (ntsW r w)) := by
  have e : lineS .back (ntsW r .back) = Vbdbam.spaced (text "back" :: r.back.flatMap fun p => [Vbdbam.decimal p.1, Vbdbam.decimal p.2]) := by
    show Vbdbam.spaced (text "back" :: (r.back.flatMap fun p => [p.1, p.2]).map Vbdbam.decimal) = _
    rw [List.map_flatMap]
    rfl
  show _ = Vbdbam.joined [10] [_, _, _, _, _, _, _, _, lineS .back (ntsW r .back)]
  rw [e]
  rfl
structure Small (r : Vbdbam.Rules) : Prop where
  lt : ∀ w n, n ∈ ntsW r w → n < 10000
  len : ∀ w, (ntsW r w).length ≤ 20
theorem line_len {w : Wd} {ns : List Nat} (h : ∀ n, n ∈ ns → n < 10000) (hl : ns.length ≤ 20) : (lineS w ns).length ≤ 200 := by
  unfold lineS Vbdbam.spaced
  rw [joined_joinL]
  have b1 : w.by.length ≤ 6 := by cases w <;> decide
  have b2 := dec_sum ns h
  have jl : ∀ (l : List (List Nat)), (TL.joinL [32] l).length ≤ (l.map fun (x : List Nat) => x.length).sum + l.length := fun l => by
    induction l with
    | nil => exact Nat.le_refl _
    | cons x l ih =>
      cases l with
      | nil => simp [TL.joinL]
      | cons y l =>
        show (x ++ ([32] ++ TL.joinL [32] (y :: l))).length ≤ _
        rw [List.length_append, List.length_append, List.map_cons, List.sum_cons, List.length_cons]
        simp only [List.length_cons, List.length_nil] at *
        omega
  have q := jl (w.by :: ns.map Vbdbam.decimal)
  rw [List.map_cons, List.sum_cons, List.length_cons, List.length_map] at q
  omega
def sp_Rules_shown (K : PySem.W.Frag) (A : Ad) : Sp := fun vs H Q _ => ∃ (ru : Addr) (r : Vbdbam.Rules), vs = [.ref ru] ∧ Rls K A H ru r ∧ Small r ∧ ∀ H', Same H H' → Q (.str (S (Vbdbam.rulesText r))) H'
theorem ok_Rules_shown {P : Program} {w : World} {K : PySem.W.Frag} {mg : Str → Option Value} {base : Heap} {A : Ad} (T : Txt w K mg A) : C8.Met P w K mg base 2 A.cRules "shown" (sp_Rules_shown K A) [] := by
  refine metOf T.cl_Rules T.d_Rules_shown sc_Rules_shown (by decreasing_trivial) (fun cdv Ar outer s0 H vs Q E hr hsp => ⟨_, (pss_one (ps_ret (pe_join pe_str (pe_lc (own := [("word", 1)]) (g := gName 1) (tt := tYes) (te := (tCall (sp_shown_line K A) [] C8.E0 (tCons (tVar 1) (tCons (tDGet (tFld K (tVar 0) "told") (tVar 1)) tNil)))) (by rfl) sc_Rules_shown.nd (pi_kkeys T.kd_UNTOLD (C8.pe_gc rfl T.c_UNTOLD)) (blkOk_by (own := [("word", 1)]) (N := N_Rules_shown) (sc := C8.fnScope s_Rules_shown) (by decide +kernel)) (fun _ _ _ _ _ => pg_name (i := 1) sc_Rules_shown.nd rfl (Or.inl rfl)) (fun _ _ _ _ _ => pts_nil) (fun _ _ _ _ _ => (C8.pe_c (ok_shown_line T) hr (by decide) rfl (pa_cons (pv 1) (pa_cons (pe_dget (hu_of hr) (pe_fld (pv 0) rfl) (pv 1) (fun _ _ => rfl)) pa_nil)))))))), ?_⟩)
  obtain ⟨ru, r, rfl, ⟨td, dx, p, h1, h2, h3⟩, sm, q⟩ := hsp
  get_elem_tactic_extensible
  intro D hD
  refine lc_it (walk_kkeys (kvs := untold A)) (LcI H D fun i => (wds.take i).map fun w => V.str (S (lineS w (ntsW r w)))) (LcI.zero hD rfl) (fun _ _ _ _ => trivial) (fun i x H2 H' hi p' y => ?_) (fun H' p' => ?_)
  · obtain ⟨rfl, pr, hx, rfl⟩ := y
    obtain ⟨w', hw, ew⟩ := untold_at hx
    rw [ew]
    have h1 := p'.s _ _ h1
    have h2 := p'.s _ _ h2
    have g := DGet.k (k := .inr w'.nm) h2
    rw [told_val] at g
    have h3 : SqT K H' (p w') (ivs (ntsW r w')) := by rw [← nts_ivs]; exact EH.Same.seqT p'.s (h3 w')
    have sl := sm.lt w'
    have sn : (ntsW r w').length ≤ 1000 := Nat.le_trans (sm.len w') (by decide)
    have pd := p'.d
    have lf : ((wds.take i).map fun w => V.str (S (lineS w (ntsW r w)))).length < sizeLine := lt_line (by
      rw [List.length_map, List.length_take]
      exact Nat.le_trans (Nat.min_le_right _ _) (by decide))
    get_elem_tactic_extensible
    intro H3 s3
    have pd := s3 _ _ pd
    get_elem_tactic_extensible
    exact p'.put s3 hD (by rw [take_one hw, List.map_append]; rfl)
  · have pd : H' D = some (.lst (((wds.map fun w => lineS w (ntsW r w)).map S).map V.str)) := by
      rw [p'.d, List.map_map, List.map_map]
      rfl
    have tq := SqL.of (K := K) pd
    have sz : (((wds.map fun w => lineS w (ntsW r w)).map S).map (fun x => x.length)).sum + ((wds.map fun w => lineS w (ntsW r w)).map S).length * (Str.ofString "\n").length ≤ 16777216 := by
      have e3 : (Str.ofString "\n").length = 1 := by rw [lit]; rfl
      rw [e3, SX.lens, List.length_map, List.length_map]
      have b : ∀ l : List Wd, ((l.map fun w => lineS w (ntsW r w)).map fun (x : List Nat) => x.length).sum ≤ 200 * l.length := fun l => by
        induction l with
        | nil => exact Nat.le_refl _
        | cons w l ih =>
          have := line_len (w := w) (sm.lt w) (sm.len w)
          rw [List.map_cons, List.map_cons, List.sum_cons, List.length_cons]
          omega
      have b2 := b wds
      have b3 : wds.length = 9 := rfl
      omega
    get_elem_tactic_extensible
    have e4 : Str.ofString "\n" = S [10] := lit "\n"
    rw [e4, join_S, ← joined_joinL, ← text_lines]
    exact q H' p'.s
open Vbdbam (State) in
def sp_show (K : PySem.W.Frag) (A : Ad) : Sp := fun vs H Q _ => ∃ (h : Addr) (a : HAd) (s : State), vs = [.ref h] ∧ At K A H h a s ∧ Gd s ∧ Done K A H h a (Vbdbam.step s .show_) Q
theorem small_of {r : Vbdbam.Rules} (g : RGd r) : Small r where
  lt w n hn := by
    cases w with
    | back =>
      obtain ⟨p, hp, h⟩ := List.mem_flatMap.mp (show n ∈ r.back.flatMap fun p => [p.1, p.2] from hn)
      have := g.backs p hp
      rcases List.mem_cons.mp h with c | c
      · omega
      · have := List.mem_singleton.mp c
        omega
    | judges =>
      have h1 := g.judges
      have h2 := g.per
      rcases List.mem_cons.mp (show n ∈ [r.judges, r.per] from hn) with c | c
      · omega
      · have := List.mem_singleton.mp c
        omega
    | places => have := g.places; have := List.mem_singleton.mp (show n ∈ [r.places] from hn); omega
    | form => have := g.form; have := List.mem_singleton.mp (show n ∈ [r.form] from hn); omega
    | cap => have := g.cap; have := List.mem_singleton.mp (show n ∈ [r.cap] from hn); omega
    | fee => have := g.fee; have := List.mem_singleton.mp (show n ∈ [r.fee] from hn); omega
    | fine => have := g.fine; have := List.mem_singleton.mp (show n ∈ [r.fine] from hn); omega
    | answer => have := g.answer; have := List.mem_singleton.mp (show n ∈ [r.answer] from hn); omega
    | start => have := g.start; have := List.mem_singleton.mp (show n ∈ [r.start] from hn); omega
  len w := by
    cases w with
    | back =>
      have h := g.back
      have e : ∀ l : List (Nat × Nat), (l.flatMap fun p => [p.1, p.2]).length = 2 * l.length := fun l => by
        induction l with
        | nil => rfl
        | cons x l ih => rw [List.flatMap_cons, List.length_append, ih, List.length_cons]; simp; omega
      show (r.back.flatMap fun p => [p.1, p.2]).length ≤ 20
      rw [e]
      omega
    | judges => exact Nat.le_of_ble_eq_true rfl
    | places => exact Nat.le_of_ble_eq_true rfl
    | form => exact Nat.le_of_ble_eq_true rfl
    | cap => exact Nat.le_of_ble_eq_true rfl
    | fee => exact Nat.le_of_ble_eq_true rfl
    | fine => exact Nat.le_of_ble_eq_true rfl
    | answer => exact Nat.le_of_ble_eq_true rfl
    | start => exact Nat.le_of_ble_eq_true rfl
theorem text_len {r : Vbdbam.Rules} (sm : Small r) : (Vbdbam.rulesText r).length ≤ 2000 := by
  rw [text_lines, joined_joinL]
  have b : ∀ l : List Wd, (TL.joinL [10] (l.map fun w => lineS w (ntsW r w))).length ≤ 201 * l.length := fun l => by
    induction l with
    | nil => exact Nat.le_refl _
    | cons w l ih =>
      have h1 := line_len (w := w) (sm.lt w) (sm.len w)
      cases l with
      | nil => simp [TL.joinL]; omega
      | cons v l =>
        show (lineS w (ntsW r w) ++ ([10] ++ TL.joinL [10] ((v :: l).map fun w => lineS w (ntsW r w)))).length ≤ _
        rw [List.length_append, List.length_append]
        simp only [List.length_cons, List.length_nil] at *
        omega
  exact Nat.le_trans (b wds) (by decide)
theorem ok_show {P : Program} {w : World} {K : PySem.W.Frag} {mg : Str → Option Value} {base : Heap} {A : Ad} (T : Txt w K mg A) : C8.Cal P w K mg base 3 "show" (sp_show K A) [] := by
  refine calOf T.d_show sc_show (by decreasing_trivial) (fun cdv Ar outer s0 H vs Q E hr hsp => ⟨_, (pss_cons (ps_stop (ps_set (i := 1) sc_show.nd rfl (Or.inl rfl) (C8.pe_mt0 (ok_Rules_shown T) hr (by decide) (pe_fld (pv 0) rfl))))
 (pss_one (ps_stop (ps_ret (pe_op op_cat (pe_lst (pa_cons (pe_callB call_len_str (by rfl) T.n_len (by decide +kernel) (pa_cons (pv 1) pa_nil)) pa_nil)) (pe_lc (own := [("sign", 2)]) (g := gName 2) (tt := tYes) (te := (tCB _ (tCons (tVar 2) tNil))) (by rfl) sc_show.nd (pi_str (pv 1)) (blkOk_by (own := [("sign", 2)]) (N := N_show) (sc := C8.fnScope s_show) (by decide +kernel)) (fun _ _ _ _ _ => pg_name (i := 2) sc_show.nd rfl (Or.inl rfl)) (fun _ _ _ _ _ => pts_nil) (fun _ _ _ _ _ => (pe_callB call_ord (by rfl) T.n_ord (by decide +kernel) (pa_cons (pv 2) pa_nil))))))))), ?_⟩)
  obtain ⟨h, a, s, rfl, p, gd, q⟩ := hsp
  obtain ⟨dh, h1⟩ := p.hs
  have r1 : Rls K A H a.ru s.rules := ⟨_, p.ru⟩
  obtain ⟨dr, tr, h4⟩ := r1.rcd
  have sm := small_of gd.ru
  have tl := text_len sm
  (refine Stop.go ?_; get_elem_tactic_extensible)
  intro H1 s1
  have zl : (S (Vbdbam.rulesText s.rules)).length ≤ sizeLine := by rw [S_len]; exact Nat.le_trans tl (by decide)
  generalize hb : Vbdbam.rulesText s.rules = b at tl zl
  (refine Stop.go ?_; get_elem_tactic_extensible)
  have el : (S b).length = b.length := S_len b
  rw [el]
  intro t0 ht0
  have s2 := Same.new (o := .lst [.int (b.length : Nat)]) ht0
  have t2 : upd H1 t0 (.lst [.int (b.length : Nat)]) t0 = some (.lst [.int (b.length : Nat)]) := upd_same
  generalize upd H1 t0 (.lst [.int (b.length : Nat)]) = H2 at s2 t2
  get_elem_tactic_extensible
  intro D hD
  refine lc_it (walk_str (z := S b)) (LcI H2 D fun i => (b.take i).map fun (n : Nat) => V.int (n : Int)) (LcI.zero hD rfl) (fun _ _ _ _ => trivial) (fun i x H3 H' hi w y => ?_) (fun H' w => ?_)
  · obtain ⟨rfl, c, hc, rfl⟩ := y
    have hc : b[i]? = some c := by
      have := hc
      simp only [S, List.getElem?_toArray] at this
      exact this
    have pd := w.d
    have o1 : (⟨#[c]⟩ : Str).length = 1 := rfl
    have lf : ((b.take i).map fun (n : Nat) => V.int (n : Int)).length < sizeLine := lt_line (by simp; omega)
    get_elem_tactic_extensible
    exact w.put (Same.refl _) hD (by rw [take_one hc, List.map_append]; rfl)
  · have es : (S b).cps.size = b.length := by simp [S]
    have pd := w.d
    rw [es, List.take_length] at pd
    have t2 := w.s _ _ t2
    have ll : ([V.int (b.length : Nat)] : List V).length + (b.map fun (n : Nat) => V.int (n : Int)).length ≤ sizeLine := by
      rw [List.length_map]
      exact Nat.le_trans (Nat.add_le_add_left tl 1) (by decide)
    get_elem_tactic_extensible
    refine q.no p (s1.trans (s2.trans w.s)) (by simp [Vbdbam.step, Vbdbam.onSchool, Vbdbam.onOffer, Vbdbam.unlessClosed, Vbdbam.no, hb]; first | done | rfl) ?_
    show [V.int (b.length : Int)] ++ b.map (fun (n : Nat) => V.int (n : Int)) = _
    simp [flat, Vbdbam.ints]
end EH

/-! ## EHX9 -/
namespace EH
open PySem PySem.Spec PyProof.Rows L2 EHR SX
local macro_rules | `(tactic| decreasing_trivial_pre_omega) => `(tactic| first
  | assumption
  | rfl
  | exact lk_here
  | exact Txt.cl_Ledger (by assumption) | exact Txt.cl_Rules (by assumption) | exact Txt.cl_School (by assumption) | exact Txt.cl_Offer (by assumption) | exact Txt.cl_House (by assumption)
  | exact Txt.na_Ledger (by assumption) _ (by decide +kernel) | exact Txt.na_Rules (by assumption) _ (by decide +kernel) | exact Txt.na_School (by assumption) _ (by decide +kernel) | exact Txt.na_Offer (by assumption) _ (by decide +kernel) | exact Txt.na_House (by assumption) _ (by decide +kernel)
  | exact (lk_past (by decide +kernel)).trans lk_here
  | exact (lk_past (by decide +kernel)).trans ((lk_past (by decide +kernel)).trans lk_here)
  | exact (lk_past (by decide +kernel)).trans ((lk_past (by decide +kernel)).trans ((lk_past (by decide +kernel)).trans lk_here))
  | exact (lk_past (by decide +kernel)).trans ((lk_past (by decide +kernel)).trans ((lk_past (by decide +kernel)).trans ((lk_past (by decide +kernel)).trans lk_here)))
  | exact (lk_past (by decide +kernel)).trans ((lk_past (by decide +kernel)).trans ((lk_past (by decide +kernel)).trans ((lk_past (by decide +kernel)).trans ((lk_past (by decide +kernel)).trans lk_here))))
  | exact (lk_past (by decide +kernel)).trans ((lk_past (by decide +kernel)).trans ((lk_past (by decide +kernel)).trans ((lk_past (by decide +kernel)).trans ((lk_past (by decide +kernel)).trans ((lk_past (by decide +kernel)).trans lk_here)))))
  | exact SqL.of (by assumption) | exact SqT.of (by assumption)
  | exact Or.inl (SqL.of (by assumption)) | exact Or.inr (SqT.of (by assumption)) | exact Or.inl (by assumption) | exact Or.inr (by assumption)
  | exact atI0 rfl | exact atI_nat (j := 1) rfl | exact atI_nat (j := 2) rfl
  | exact Or.inl ⟨rfl, _, SqL.of (by assumption)⟩
  | exact Nat.le_of_ble_eq_true rfl
  | exact Same.at1 (by assumption) (by assumption)
  | exact SqL.of (Same.at1 (by assumption) (by assumption)) | exact SqT.of (Same.at1 (by assumption) (by assumption)) | exact Or.inl (SqL.of (Same.at1 (by assumption) (by assumption))) | exact Or.inr (SqT.of (Same.at1 (by assumption) (by assumption)))
  | exact ⟨_, by assumption⟩ | exact ⟨_, rfl⟩ | trivial
  | exact dput_i (by assumption) (by assumption) | exact dput_s (by assumption) (by assumption) | exact kV_i | exact kV_s | exact isD_k (by assumption)
  | exact upd_same)
local macro_rules | `(tactic| get_elem_tactic_extensible) => `(tactic| repeat (first
  | refine And.intro (by decreasing_trivial_pre_omega) ?_
  | apply Exists.intro (α := V) | apply Exists.intro (α := Addr) | apply Exists.intro (α := List V) | apply Exists.intro (α := Int) | apply Exists.intro (α := Bool)
  | apply Exists.intro (α := List (Str × V)) | apply Exists.intro (α := Str) | apply Exists.intro (α := List (Key × V)) | apply Exists.intro (α := Option V)
  | apply Exists.intro (α := List Int) | apply Exists.intro (α := List Bool) | apply Exists.intro (α := List Str) | apply Exists.intro (α := Obj) | apply Exists.intro (α := List En) | apply Exists.intro (α := HAd) | apply Exists.intro (α := Vbdbam.State) | apply Exists.intro (α := Vbdbam.Rules) | apply Exists.intro (α := Hp) | apply Exists.intro (α := Key) | apply Exists.intro (α := Nat) | apply Exists.intro (α := Wd) | apply Exists.intro (α := Wd → List Int) | apply Exists.intro (α := Nat → Int) | apply Exists.intro (α := List Nat) | apply Exists.intro (α := List (List Nat)) | apply Exists.intro (α := List (List (List Nat)))))
local macro_rules | `(tactic| decreasing_trivial) => `(tactic| (intro vs H Q E h; repeat (first | (obtain ⟨e, _⟩ := h; subst e; rfl) | (obtain ⟨_, h⟩ := h))))

open Vbdbam (Bytes isDigit number cut words text)
def sg : List Nat := text "\n 0123456789abcdefghijklmnopqrstuvwxyz"
def phi (c : Nat) : Nat := if c ∈ sg then c else 63
def sgK (l : List Nat) : List (Key × V) := l.map fun (c : Nat) => (.inl (c : Int), .str (S [c]))
theorem sgK_val {n : Nat} : ∀ {l : List Nat}, valV (sgK l) (.inl (n : Int)) = if n ∈ l then some (.str (S [n])) else none
  | [] => rfl
  | c :: l => by
    have ih := sgK_val (n := n) (l := l)
    unfold sgK at *
    by_cases e : c = n
    · subst e
      rw [List.map_cons, valV_pos rfl, if_pos (List.mem_cons.mpr (.inl rfl))]
    · rw [List.map_cons, valV_neg (fun h => e (Int.ofNat_inj.mp (Sum.inl.inj h))), ih]
      by_cases m : n ∈ l
      · rw [if_pos m, if_pos (List.mem_cons.mpr (.inr m))]
      · rw [if_neg m, if_neg (fun h => (List.mem_cons.mp h).elim (fun h => e h.symm) m)]
theorem joinL_ones : ∀ l : List Nat, TL.joinL [] (l.map fun c => [c]) = l
  | [] => rfl
  | [_] => rfl
  | c :: d :: l => by
    have ih := joinL_ones (d :: l)
    show [c] ++ ([] ++ TL.joinL [] ((d :: l).map fun c => [c])) = _
    rw [ih]
    rfl
/-- lists of texts, none of them at D -/
def LnD (D : Addr) (H : Hp) (v : V) (l : List Bytes) : Prop := ∃ c, v = .ref c ∧ c ≠ D ∧ H c = some (.lst (stv l))
def sp_read_lines (K : PySem.W.Frag) (_ : Ad) : Sp := fun vs H Q _ => ∃ (a : Addr) (ns : List Nat), vs = [.ref a] ∧ SqL K H a (ivs ns) ∧ ns.length ≤ 1000 ∧
  ∀ p es H', Same H H' → H' p = some (.lst es) → LnL H' es ((cut 10 (ns.map phi)).map words) → Q (.ref p) H'
theorem ok_read_lines {P : Program} {w : World} {K : PySem.W.Frag} {mg : Str → Option Value} {base : Heap} {A : Ad} (T : Txt w K mg A) : C8.Cal P w K mg base 2 "read_lines" (sp_read_lines K A) [] := by
  refine calOf T.d_read_lines sc_read_lines (by decreasing_trivial) (fun cdv Ar outer s0 H vs Q E hr hsp => ⟨_, (pss_cons (ps_stop (ps_set (i := 1) sc_read_lines.nd rfl (Or.inr rfl) pe_dnewK))
 (pss_cons (ps_stop (ps_for PassesOwn.never rfl (pi_str (C8.pe_gc rfl T.c_SIGNS)) (pg_name (i := 2) sc_read_lines.nd rfl (Or.inl rfl))
  (pss_one (ps_stop (ps_dput (hu_of hr) (pv 1) (pe_callB call_ord (by rfl) T.n_ord (by decide +kernel) (pa_cons (pv 2) pa_nil)) (pv 2) rfl)))))
 (pss_cons (ps_stop (ps_set (i := 3) sc_read_lines.nd rfl (Or.inl rfl) (pe_join pe_str (pe_lc (own := [("number", 4)]) (g := gName 4) (tt := tYes) (te := (tDGet2 (tVar 1) (tVar 4) (tC _))) (by rfl) sc_read_lines.nd (pi_list (pv 0)) (blkOk_by (own := [("number", 4)]) (N := N_read_lines) (sc := C8.fnScope s_read_lines) (by decide +kernel)) (fun _ _ _ _ _ => pg_name (i := 4) sc_read_lines.nd rfl (Or.inl rfl)) (fun _ _ _ _ _ => pts_nil) (fun _ _ _ _ _ => (pe_dget2 (hu_of hr) (pv 1) (pv 4) pe_str ⟨rfl, rfl, rfl, rfl⟩))))))
 (pss_one (ps_stop (ps_ret (pe_lc (own := [("line", 5)]) (g := gName 5) (tt := tYes) (te := (tCall (sp_words_of K A) [] C8.E0 (tCons (tVar 5) tNil))) (by rfl) sc_read_lines.nd (pi_list (pe_split (pv 3) pe_str)) (blkOk_by (own := [("line", 5)]) (N := N_read_lines) (sc := C8.fnScope s_read_lines) (by decide +kernel)) (fun _ _ _ _ _ => pg_name (i := 5) sc_read_lines.nd rfl (Or.inl rfl)) (fun _ _ _ _ _ => pts_nil) (fun _ _ _ _ _ => (C8.pe_c (ok_words_of T) hr (by decide) rfl (pa_cons (pv 5) pa_nil)))))))))), ?_⟩)
  obtain ⟨a, ns, rfl, hl, len, q⟩ := hsp
  have e1 : (ivs ns).length = ns.length := by simp [ivs]
  have esg : Str.ofString "\n 0123456789abcdefghijklmnopqrstuvwxyz" = S sg := lit _
  have nsg : sg.Nodup := by decide +kernel
  refine Stop.go ?_
  get_elem_tactic_extensible
  intro D hD
  have s1 := Same.new (o := .dK []) hD
  have d1 : upd H D (.dK []) D = some (.dK (sgK (sg.take 0))) := upd_same
  generalize upd H D (.dK []) = H1 at s1 d1
  have hl := s1.seq hl
  refine Stop.go ?_
  get_elem_tactic_extensible
  rw [esg]
  refine for_it (walk_str (z := S sg)) (fun i σ H' => Hold (Ext D H1 H' ∧ (∃ z2 z3 z4 z5, σ = [some (.ref a), some (.ref D), z2, z3, z4, z5]) ∧ H' D = some (.dK (sgK (sg.take i))))) ⟨.refl, ⟨_, _, _, _, rfl⟩, d1⟩ (fun _ _ _ _ _ => trivial) (fun i x σ H2 H' hi y0 y => ?_) (fun σ H' q1 => ?_)
  · obtain ⟨rfl, c, hc, rfl⟩ := y
    obtain ⟨e2, ⟨z2, z3, z4, z5, rfl⟩, d2⟩ := y0.h
    have hc : sg[i]? = some c := by
      have := hc
      simp only [S, List.getElem?_toArray] at this
      exact this
    have o1 : (⟨#[c]⟩ : Str).length = 1 := rfl
    have dl : (sgK (sg.take i)).length < sizeLine := lt_line (by
      unfold sgK
      rw [List.length_map, List.length_take]
      exact Nat.le_trans (Nat.min_le_right _ _) (by decide +kernel))
    have nin : ¬ c ∈ sg.take i := fun m => by
      obtain ⟨j, hj, e⟩ := List.getElem_of_mem m
      rw [List.getElem_take] at e
      rw [List.length_take] at hj
      have hi' : i < sg.length := (List.getElem?_eq_some_iff.mp hc).1
      have e2 : sg[i] = c := (List.getElem?_eq_some_iff.mp hc).2
      rw [← e2] at e
      have := (List.getElem_inj nsg).mp e
      omega
    have vn : valV (sgK (sg.take i)) (.inl (c : Int)) = none := by rw [sgK_val, if_neg nin]
    refine Stop.go ?_
    get_elem_tactic_extensible
    have ec : ((⟨#[c]⟩ : Str).cps.getD 0 0 : Nat) = c := rfl
    rw [ec, putK_new _ vn]
    refine ⟨e2.trans .upd, ⟨_, _, _, _, rfl⟩, ?_⟩
    rw [upd_same, take_one hc]
    unfold sgK
    rw [List.map_append]
    rfl
  · obtain ⟨e2, ⟨z2, z3, z4, z5, rfl⟩, d2⟩ := q1.h
    have ez : (S sg).cps.size = sg.length := by simp [S]
    rw [ez, List.take_length] at d2
    have sH : Same H H' := fun b o hb => e2 _ _ (s1 _ _ hb) (Same.ne hb hD)
    have hl : SqL K H' a (ivs ns) := by
      rcases hl with (h | ⟨od, h⟩) | h
      · exact .inl (.inl (e2 _ _ h (ne_shp h d1 rfl)))
      · exact .inl (.inr ⟨od, e2 _ _ h (ne_shp h d1 rfl)⟩)
      · exact .inr h
    have isd : IsD H' D := isD_k d2
    refine Stop.go ?_
    get_elem_tactic_extensible
    intro D2 hD2
    refine lc_it (walk_list (xs := ivs ns)) (LcI H' D2 fun i => (ns.take i).map fun n => V.str (S [phi n])) (LcI.zero hD2 rfl) (fun i H' _ p => p.s.seq hl) (fun i x H3 H4 hi w y => ?_) (fun H4 w => ?_)
    · obtain ⟨rfl, hx⟩ := y
      obtain ⟨n, hn, rfl⟩ : ∃ k, ns[i]? = some k ∧ V.int ((k : Nat) : Int) = x := by
        unfold ivs at hx
        rw [List.getElem?_map] at hx
        cases e : ns[i]? with
        | none => rw [e] at hx; cases hx
        | some o => rw [e] at hx; exact ⟨o, rfl, Option.some.inj hx⟩
      have pd := w.d
      have d4 := w.s _ _ d2
      have isd : IsD H4 D := isD_k d4
      have dg := DGet.k (k := .inl (n : Int)) d4
      have lf : ((ns.take i).map fun n => V.str (S [phi n])).length < sizeLine := lt_line (by simp; omega)
      have eq63 : Str.ofString "?" = S [63] := lit "?"
      rw [sgK_val] at dg
      get_elem_tactic_extensible
      have ev : ((if n ∈ sg then some (V.str (S [n])) else none).getD (V.str (Str.ofString "?"))) = V.str (S [phi n]) := by
        unfold phi
        by_cases m : n ∈ sg
        · rw [if_pos m, if_pos m]; rfl
        · rw [if_neg m, if_neg m, eq63]; rfl
      rw [ev]
      exact w.put (Same.refl _) hD2 (by rw [take_one hn, List.map_append]; rfl)
    · have pd := w.d
      rw [e1, List.take_length] at pd
      have pd : H4 D2 = some (.lst (((((ns.map phi).map fun c => [c])).map S).map V.str)) := by
        rw [pd, List.map_map, List.map_map, List.map_map]
        rfl
      have tq := SqL.of (K := K) pd
      have sz : ((((ns.map phi).map fun c => [c]).map S).map (fun x => x.length)).sum + (((ns.map phi).map fun c => [c]).map S).length * (Str.ofString "").length ≤ 16777216 := by
        have e3 : (Str.ofString "").length = 0 := by rw [lit]; rfl
        rw [e3, Nat.mul_zero, SX.lens]
        have b : ∀ l : List Nat, ((l.map fun c => [c]).map fun (x : List Nat) => x.length).sum = l.length := fun l => by
          induction l with
          | nil => rfl
          | cons c l ih => rw [List.map_cons, List.map_cons, List.sum_cons, ih, List.length_cons]; simp; omega
        have b2 := b (ns.map phi)
        rw [List.length_map] at b2
        omega
      have e4 : Str.ofString "" = S [] := lit ""
      have e5 : Txt.join (Str.ofString "") (((ns.map phi).map fun c => [c]).map S) = S (ns.map phi) := by rw [e4, join_S, joinL_ones]
      get_elem_tactic_extensible
      rw [e5]
      have tlen : (ns.map phi).length ≤ 1000 := by rw [List.length_map]; exact len
      have s4 := sH.trans w.s
      generalize ns.map phi = tx at q tlen
      have hl2 : (S tx).length + 2 ≤ sizeLine := by rw [S_len]; exact Nat.le_trans (Nat.add_le_add_right tlen 2) (by decide)
      have e6 : Txt.split (S tx) (Str.ofString "\n") = (cut 10 tx).map S := by rw [lit, show text "\n" = [10] from rfl, split_cut (by decide)]
      have cl := cut_len 10 tx
      refine Stop.go ?_
      get_elem_tactic_extensible
      rw [e6]
      intro p0 hp0
      rw [List.map_map]
      have s5 := s4.trans (Same.new (o := .lst ((cut 10 tx).map (V.str ∘ S))) hp0)
      have l5 : upd H4 p0 (.lst ((cut 10 tx).map (V.str ∘ S))) p0 = some (.lst ((cut 10 tx).map (V.str ∘ S))) := upd_same
      generalize upd H4 p0 (.lst ((cut 10 tx).map (V.str ∘ S))) = H5 at s5 l5
      have lq := SqL.of (K := K) l5
      get_elem_tactic_extensible
      intro D3 hD3
      refine lc_it (walk_list (xs := (cut 10 tx).map (V.str ∘ S))) (fun i H' => Hold (Same H5 H' ∧ ∃ acc, H' D3 = some (.lst acc) ∧ Paired (LnD D3 H') acc (((cut 10 tx).take i).map words))) ⟨Same.new hD3, [], upd_same, .nil⟩ (fun i H' _ q => q.h.1.seq lq) (fun i x H6 H7 hi y0 y => ?_) (fun H7 w7 => ?_)
      · obtain ⟨rfl, hx⟩ := y
        obtain ⟨s6, acc, la, ra⟩ := y0.h
        obtain ⟨l, hll, rfl⟩ : ∃ l, (cut 10 tx)[i]? = some l ∧ V.str (S l) = x := by
          rw [List.getElem?_map] at hx
          cases e : (cut 10 tx)[i]? with
          | none => rw [e] at hx; cases hx
          | some o => rw [e] at hx; exact ⟨o, rfl, Option.some.inj hx⟩
        have ll : l.length ≤ 100000 := by
          have := (cut_part 10 tx l (List.mem_of_getElem? hll)).1
          omega
        have lacc : acc.length < sizeLine := by
          have := ra.length
          rw [List.length_map, List.length_take] at this
          exact lt_line (by omega)
        get_elem_tactic_extensible
        intro p8 H8 hp8 s8 l8
        have nd : p8 ≠ D3 := (Same.ne la hp8).symm
        have la := s8 _ _ la
        have s9 : ∀ c o, H7 c = some o → c ≠ D3 → upd H8 D3 (.lst (acc ++ [.ref p8])) c = some o := fun c o hc n => by rw [upd_ne n]; exact s8 _ _ hc
        get_elem_tactic_extensible
        refine ⟨fun b o hb => s9 b o (s6 _ _ hb) (Same.ne hb hD3), _, upd_same, ?_⟩
        rw [take_one hll, List.map_append]
        refine (ra.mono fun v l ⟨c, w1, w2, w3⟩ => ⟨c, w1, w2, s9 _ _ w3 w2⟩).snoc ⟨p8, rfl, nd, ?_⟩
        rw [upd_ne nd, l8]
        rfl
      · obtain ⟨s6, acc, la, ra⟩ := w7.h
        rw [List.length_map, List.take_length] at ra
        exact q D3 acc H7 (s5.trans s6) la (ra.mono fun v l ⟨c, w1, w2, w3⟩ => ⟨c, w1, w3⟩)
end EH

/-! ## EHXM -/
namespace EH
open PySem EHR SX
open Vbdbam (Bytes isDigit number numberIn cut words text lineOf linesOf KINDS)
/-! ### unknown bytes -/
theorem phi_in {c : Nat} (h : c ∈ sg) : phi c = c := if_pos h
theorem phi_out {c : Nat} (h : ¬ c ∈ sg) : phi c = 63 := if_neg h
theorem phi_sep {c s : Nat} (hs : s ∈ sg) (h6 : s ≠ 63) : phi c = s ↔ c = s := by
  by_cases h : c ∈ sg
  · rw [phi_in h]
  · rw [phi_out h]
    exact ⟨fun e => absurd e.symm h6, fun e => absurd (e ▸ hs) h⟩
theorem cut_phi {s : Nat} (hs : s ∈ sg) (h6 : s ≠ 63) : ∀ l : List Nat, cut s (l.map phi) = (cut s l).map fun x => x.map phi
  | [] => rfl
  | c :: l => by
    have ih := cut_phi hs h6 l
    rw [List.map_cons]
    show (if phi c = s then [] :: cut s (l.map phi) else match cut s (l.map phi) with
      | [] => [[phi c]]
      | x :: r => (phi c :: x) :: r) = List.map _ (if c = s then [] :: cut s l else match cut s l with
      | [] => [[c]]
      | x :: r => (c :: x) :: r)
    rw [ih]
    by_cases e : c = s
    · rw [if_pos e, if_pos ((phi_sep hs h6).mpr e)]
      rfl
    · rw [if_neg e, if_neg (fun h => e ((phi_sep hs h6).mp h))]
      cases q : cut s l with
      | nil => rfl
      | cons x r => rfl
theorem words_phi (l : List Nat) : words (l.map phi) = (words l).map fun x => x.map phi := by
  unfold words
  rw [cut_phi (by decide +kernel) (by decide), List.filter_map]
  congr 1
  refine List.filter_congr fun x _ => ?_
  show (!(x.map phi).isEmpty) = !x.isEmpty
  cases x <;> rfl
theorem digit_sg : ∀ c : Nat, isDigit c = true → c ∈ sg := fun c h => by
  unfold isDigit at h
  rw [Bool.and_eq_true, decide_eq_true_eq, decide_eq_true_eq] at h
  have : ∀ c : Nat, c < 58 → 48 ≤ c → c ∈ sg := by decide +kernel
  exact this c (by omega) h.1
theorem digit_phi (c : Nat) : isDigit (phi c) = isDigit c := by
  by_cases h : c ∈ sg
  · rw [phi_in h]
  · rw [phi_out h]
    cases e : isDigit c with
    | false => rfl
    | true => exact absurd (digit_sg c e) h
theorem digits_phi {w : List Nat} (h : w.all isDigit = true) : w.map phi = w := by
  have : w.map phi = w.map id := List.map_congr_left fun c hc => phi_in (digit_sg c (List.all_eq_true.mp h c hc))
  rw [this, List.map_id]
theorem numB_phi (w : List Nat) : numB (w.map phi) = numB w := by
  by_cases h : w.all isDigit = true
  · rw [digits_phi h]
  · have h2 : ¬ (w.map phi).all isDigit = true := by
      rw [List.all_map]
      intro c
      refine h (List.all_eq_true.mpr fun x hx => ?_)
      have := List.all_eq_true.mp c x hx
      rw [← digit_phi]
      exact this
    unfold numB
    rw [Bool.not_eq_true] at h h2
    rw [h, h2]
    simp
theorem all_phi (ws : List Bytes) : (ws.map fun x => x.map phi).all numB = ws.all numB := by
  rw [List.all_map]
  congr 1
  funext x
  exact numB_phi x
theorem all_same {ws : List Bytes} (h : ws.all numB = true) : (ws.map fun x => x.map phi) = ws := by
  have : (ws.map fun x => x.map phi) = ws.map id := List.map_congr_left fun x hx => digits_phi (numB_digits (List.all_eq_true.mp h x hx)).1
  rw [this, List.map_id]
theorem fit_phi (w : Wd) (ws : List Bytes) : fitB w (ws.map fun x => x.map phi) = fitB w ws := by
  by_cases h : ws.all numB = true
  · rw [all_same h]
  · unfold fitB
    rw [all_phi]
    rw [Bool.not_eq_true] at h
    rw [h]
    rfl
theorem by_sg : ∀ w : Wd, ∀ c, c ∈ w.by → c ∈ sg ∧ c ≠ 63 := by
  intro w
  cases w <;> decide +kernel
theorem by_phi (w : Wd) : w.by.map phi = w.by := by
  have : w.by.map phi = w.by.map id := List.map_congr_left fun c hc => phi_in (by_sg w c hc).1
  rw [this, List.map_id]
theorem phi_by {k : Bytes} {w : Wd} (h : k.map phi = w.by) : k = w.by := by
  rw [← h]
  have : k.map phi = k.map id := List.map_congr_left fun c hc => by
    have m : phi c ∈ w.by := by rw [← h]; exact List.mem_map_of_mem hc
    by_cases e : c ∈ sg
    · exact phi_in e
    · rw [phi_out e] at m
      exact absurd rfl (by_sg w 63 m).2
  rw [this, List.map_id]
theorem kinds_phi (k : Bytes) : KINDS.contains (k.map phi) = KINDS.contains k := by
  rw [Bool.eq_iff_iff]
  constructor
  · intro h
    obtain ⟨w, e⟩ := kind_of h
    rw [phi_by e]
    exact kind_by w
  · intro h
    obtain ⟨w, rfl⟩ := kind_of h
    rw [by_phi]
    exact h
end EH

/-! ## EHXN -/
namespace EH
open PySem EHR SX
open Vbdbam (Bytes Rules isDigit number numberIn cut words text lineOf linesOf KINDS pairsOf backOk allOf)
def setR (x : Rules) (w : Wd) (ns : List Nat) : Rules := match w, ns with
  | .places, [n] => { x with places := n }
  | .form, [n] => { x with form := n }
  | .cap, [n] => { x with cap := n }
  | .judges, [a, b] => { x with judges := a, per := b }
  | .fee, [n] => { x with fee := n }
  | .fine, [n] => { x with fine := n }
  | .answer, [n] => { x with answer := n }
  | .start, [n] => { x with start := n }
  | .back, l => { x with back := pairsOf l }
  | _, _ => x
/-- one number in its range -/
theorem one_num {α : Type} {lo hi : Nat} {r : List Bytes} {f : Nat → α} :
    (match r.map (numberIn lo hi) with
      | [some n] => some (f n)
      | _ => none) = if r.all numB = true ∧ (r.map number).length = 1 ∧ ((r.map number).zip [(lo, hi)]).all okB = true then some (f ((r.map number).headD 0)) else none := by
  match r with
  | [] => simp
  | [d] =>
    rw [List.map_cons, List.map_nil, numB_in]
    by_cases h : numB d = true ∧ lo ≤ number d ∧ number d ≤ hi
    · rw [if_pos h, if_pos]
      · rfl
      · refine ⟨by simp [h.1], rfl, ?_⟩
        simp [okB, h.2.1, h.2.2]
    · rw [if_neg h, if_neg]
      rintro ⟨h1, _, h3⟩
      refine h ⟨by simpa using h1, ?_⟩
      simp [okB] at h3
      exact h3
  | a :: b :: c =>
    rw [if_neg (by rintro ⟨_, h, _⟩; simp at h)]
    rw [List.map_cons, List.map_cons]
    cases numberIn lo hi a <;> rfl
theorem fit_one {w : Wd} {lo hi : Nat} (hb : bnd w = [(lo, hi)]) (n1 : w ≠ .back) (n2 : w ≠ .form) (r : List Bytes) : fitB w r = true ↔ r.all numB = true ∧ (r.map number).length = 1 ∧ ((r.map number).zip [(lo, hi)]).all okB = true := by
  unfold fitB inB
  rw [if_neg n1, if_neg (fun h => n2 h.1), hb, Bool.and_eq_true, Bool.and_eq_true, decide_eq_true_eq]
  rfl
theorem set_one {w : Wd} {lo hi : Nat} {x : Rules} {f : Nat → Rules} (hb : bnd w = [(lo, hi)]) (n1 : w ≠ .back) (n2 : w ≠ .form) (hf : ∀ n, f n = setR x w [n]) (r : List Bytes) :
    (match r.map (numberIn lo hi) with
      | [some n] => some (f n)
      | _ => none) = if fitB w r = true then some (setR x w (r.map number)) else none := by
  rw [one_num]
  by_cases h : fitB w r = true
  · have g := (fit_one hb n1 n2 r).mp h
    rw [if_pos g, if_pos h]
    obtain ⟨d, e⟩ := List.length_eq_one_iff.mp g.2.1
    rw [e, hf]
    rfl
  · rw [if_neg (fun g => h ((fit_one hb n1 n2 r).mpr g)), if_neg h]
theorem set_judges {x : Rules} (r : List Bytes) :
    (match r.map (numberIn 0 9) with
      | [some a, some b] => if b = 0 then none else some { x with judges := a, per := b }
      | _ => none) = if fitB .judges r = true then some (setR x .judges (r.map number)) else none := by
  have hf : fitB .judges r = (r.all numB && (decide ((r.map number).length = 2) && ((r.map number).zip [(0, 9), (1, 9)]).all okB)) := by
    unfold fitB inB
    rw [if_neg (by decide), if_neg (by rintro ⟨h, _⟩; cases h)]
    rfl
  rw [hf]
  match r with
  | [] => simp
  | [d] =>
    rw [if_neg (by simp)]
    rw [List.map_cons, List.map_nil]
    cases numberIn 0 9 d <;> rfl
  | [a, b] =>
    rw [List.map_cons, List.map_cons, List.map_nil, numB_in, numB_in]
    by_cases ha : numB a = true ∧ 0 ≤ number a ∧ number a ≤ 9
    · by_cases hb : numB b = true ∧ 0 ≤ number b ∧ number b ≤ 9
      · rw [if_pos ha, if_pos hb]
        by_cases h0 : number b = 0
        · simp only [h0, if_true]
          rw [if_neg]
          simp [okB, h0]
        · simp only [h0, if_false]
          rw [if_pos]
          · rfl
          · simp [okB, ha.1, ha.2.2, hb.1, hb.2.2]
            omega
      · rw [if_pos ha, if_neg hb, if_neg]
        simp only [List.all_cons, List.all_nil, List.map_cons, List.map_nil, List.zip_cons_cons, List.zip_nil_left, okB, Bool.and_eq_true, decide_eq_true_eq, Bool.and_true]
        rintro ⟨⟨h1, h2⟩, _, h3, h4, h5⟩
        exact hb ⟨h2, Nat.zero_le _, h5⟩
    · rw [if_neg ha]
      show none = _
      symm
      refine if_neg ?_
      simp only [List.all_cons, List.all_nil, List.map_cons, List.map_nil, List.zip_cons_cons, List.zip_nil_left, okB, Bool.and_eq_true, decide_eq_true_eq, Bool.and_true]
      rintro ⟨⟨h1, h2⟩, _, ⟨h3, h3'⟩, h4, h5⟩
      exact ha ⟨h1, Nat.zero_le _, h3'⟩
  | a :: b :: c :: d =>
    rw [if_neg (by simp)]
    rw [List.map_cons, List.map_cons, List.map_cons]
    cases numberIn 0 9 a <;> cases numberIn 0 9 b <;> rfl
theorem num_small {d : Bytes} {m : Nat} (h : numB d = true) (hm : m < 10) (e : number d = m) : d = [48 + m] := by
  unfold numB at h
  simp only [Bool.and_eq_true, Bool.or_eq_true, decide_eq_true_eq] at h
  obtain ⟨h1, h2, h3, h4⟩ := h
  have dig : ∀ c, c ∈ d → 48 ≤ c ∧ c ≤ 57 := fun c hc => by
    have := List.all_eq_true.mp h2 c hc
    unfold isDigit at this
    rw [Bool.and_eq_true, decide_eq_true_eq, decide_eq_true_eq] at this
    exact this
  match d with
  | [] => simp at h1
  | [c] =>
    have := dig c (List.mem_cons.mpr (.inl rfl))
    have e : 10 * 0 + (c - 48) = m := e
    have : c = 48 + m := by omega
    rw [this]
  | c :: c2 :: r =>
    exfalso
    have hc := dig c (List.mem_cons.mpr (.inl rfl))
    have n48 : c ≠ 48 := by
      rcases h4 with h4 | h4
      · cases h4
      · simpa using h4
    have mono : ∀ (l : List Nat) (a b : Nat), a ≤ b → a ≤ l.foldl (fun n c => 10 * n + (c - 48)) b := fun l => by
      induction l with
      | nil => intro a b h; exact h
      | cons y l ih => intro a b h; rw [List.foldl_cons]; exact ih a _ (by omega)
    have e : r.foldl (fun n c => 10 * n + (c - 48)) (10 * (10 * 0 + (c - 48)) + (c2 - 48)) = m := e
    have := mono r 10 (10 * (10 * 0 + (c - 48)) + (c2 - 48)) (by omega)
    omega
theorem set_form {x : Rules} (r : List Bytes) :
    (if r = [[50]] then some { x with form := 2 } else if r = [[52]] then some { x with form := 4 } else none) = if fitB .form r = true then some (setR x .form (r.map number)) else none := by
  have hf : fitB .form r = (r.all numB && (if 3 ∈ r.map number then false else decide ((r.map number).length = 1) && ((r.map number).zip [(2, 4)]).all okB)) := by
    unfold fitB inB
    rw [if_neg (by decide)]
    by_cases c : 3 ∈ r.map number
    · rw [if_pos ⟨rfl, c⟩, if_pos c]
    · rw [if_neg (fun h => c h.2), if_neg c]
      rfl
  by_cases h : fitB .form r = true
  · rw [if_pos h]
    rw [hf, Bool.and_eq_true] at h
    obtain ⟨h1, h2⟩ := h
    by_cases c : 3 ∈ r.map number
    · rw [if_pos c] at h2
      cases h2
    · rw [if_neg c, Bool.and_eq_true, decide_eq_true_eq, List.length_map] at h2
      obtain ⟨d, rfl⟩ := List.length_eq_one_iff.mp h2.1
      have nb : numB d = true := by simpa using h1
      have bd : 2 ≤ number d ∧ number d ≤ 4 := by simpa [okB] using h2.2
      have n3 : number d ≠ 3 := fun e => c (by simp [e])
      have : number d = 2 ∨ number d = 4 := by omega
      rcases this with e | e
      · have := num_small nb (by omega) e
        subst this
        rfl
      · have := num_small nb (by omega) e
        subst this
        rfl
  · rw [if_neg h]
    by_cases c : r = [[50]]
    · subst c
      exact absurd (by decide) h
    · by_cases c2 : r = [[52]]
      · subst c2
        exact absurd (by decide) h
      · rw [if_neg c, if_neg c2]
theorem all_of (hi : Nat) : ∀ r : List Bytes, allOf (r.map (numberIn 0 hi)) = if r.all numB = true ∧ (∀ n, n ∈ r.map number → n ≤ hi) then some (r.map number) else none
  | [] => by
    rw [if_pos ⟨rfl, fun n h => by cases h⟩]
    rfl
  | d :: r => by
    have ih := all_of hi r
    rw [List.map_cons, numB_in]
    by_cases hd : numB d = true ∧ 0 ≤ number d ∧ number d ≤ hi
    · rw [if_pos hd]
      show (allOf (r.map (numberIn 0 hi))).map (fun l => number d :: l) = _
      rw [ih]
      by_cases hr : r.all numB = true ∧ (∀ n, n ∈ r.map number → n ≤ hi)
      · rw [if_pos hr, if_pos]
        · rfl
        · refine ⟨by rw [List.all_cons, hd.1, hr.1]; rfl, fun n hn => ?_⟩
          rw [List.map_cons] at hn
          rcases List.mem_cons.mp hn with c | c
          · omega
          · exact hr.2 n c
      · rw [if_neg hr, if_neg]
        · rfl
        · rintro ⟨h1, h2⟩
          rw [List.all_cons, Bool.and_eq_true] at h1
          exact hr ⟨h1.2, fun n hn => h2 n (List.mem_cons.mpr (.inr hn))⟩
    · rw [if_neg hd, if_neg]
      · rfl
      · rintro ⟨h1, h2⟩
        rw [List.all_cons, Bool.and_eq_true] at h1
        exact hd ⟨h1.1, Nat.zero_le _, h2 _ (List.mem_cons.mpr (.inl rfl))⟩
theorem pairs_mem : ∀ {l : List Nat}, l.length % 2 = 0 → ((∀ n, n ∈ l → n ≤ 200) ∧ ((pairsOf l).all fun p => decide (p.2 ≤ 100)) = true ↔ (pairsOf l).all pairB = true)
  | [], _ => by simp [pairsOf]
  | [_], h => by simp at h
  | a :: b :: r, h => by
    have ih := pairs_mem (l := r) (by simp only [List.length_cons] at h; omega)
    simp only [pairsOf, List.all_cons, Bool.and_eq_true, decide_eq_true_eq]
    rw [← ih]
    unfold pairB
    simp only [Bool.and_eq_true, decide_eq_true_eq]
    constructor
    · rintro ⟨h1, h2, h3⟩
      exact ⟨⟨h1 a (by simp), h2⟩, fun n hn => h1 n (by simp [hn]), h3⟩
    · rintro ⟨⟨h1, h2⟩, h3, h4⟩
      refine ⟨fun n hn => ?_, h2, h4⟩
      rcases List.mem_cons.mp hn with c | c
      · omega
      · rcases List.mem_cons.mp c with c | c
        · omega
        · exact h3 n c
theorem set_back {x : Rules} (r : List Bytes) :
    (match allOf (r.map (numberIn 0 200)) with
      | none => none
      | some l => if l.length % 2 = 0 ∧ l.length ≤ 2 * Vbdbam.MOSTBACK ∧ backOk (pairsOf l) = true ∧ ((pairsOf l).all fun p => decide (p.2 ≤ 100)) = true then some { x with back := pairsOf l } else none) = if fitB .back r = true then some (setR x .back (r.map number)) else none := by
  have hf : fitB .back r = (r.all numB && pairsB (r.map number)) := by
    unfold fitB
    rw [if_pos rfl]
  rw [all_of]
  by_cases h : fitB .back r = true
  · rw [if_pos h]
    rw [hf, Bool.and_eq_true] at h
    obtain ⟨h1, h2⟩ := h
    unfold pairsB at h2
    simp only [Bool.and_eq_true, decide_eq_true_eq] at h2
    obtain ⟨h3, h4, h5, h6⟩ := h2
    have pm := (pairs_mem h3).mpr h5
    rw [if_pos ⟨h1, pm.1⟩]
    show (if _ then _ else _) = _
    rw [if_pos ⟨h3, h4, h6, pm.2⟩]
    rfl
  · rw [if_neg h]
    by_cases c : r.all numB = true ∧ (∀ n, n ∈ r.map number → n ≤ 200)
    · rw [if_pos c]
      show (if _ then _ else _) = _
      rw [if_neg]
      rintro ⟨h3, h4, h6, h7⟩
      refine h ?_
      rw [hf, Bool.and_eq_true]
      refine ⟨c.1, ?_⟩
      unfold pairsB
      simp only [Bool.and_eq_true, decide_eq_true_eq]
      exact ⟨h3, h4, (pairs_mem h3).mp ⟨c.2, h7⟩, h6⟩
    · rw [if_neg c]
/-- what a line makes of the rules -/
theorem line_is {x : Rules} {tl : List Bytes} {l : Bytes} {w : Wd} {r : List Bytes} (hw : words l = w.by :: r) :
    lineOf (x, tl) l = if tl.contains w.by = true then .error 2 else if fitB w r = true then .ok (setR x w (r.map number), w.by :: tl) else .error 3 := by
  have fin : ∀ (y : Option Rules) (b : Bool) (z : Rules), y = (if b = true then some z else none) → (match y with
      | none => (Except.error 3 : Except Nat (Rules × List Bytes))
      | some z => .ok (z, w.by :: tl)) = if b = true then .ok (z, w.by :: tl) else .error 3 := fun y b z h => by
    subst h
    cases b <;> rfl
  unfold lineOf
  rw [hw]
  show (if KINDS.contains w.by = false then Except.error 1 else if tl.contains w.by = true then .error 2 else _) = _
  rw [kind_by w, if_neg (by decide)]
  by_cases ht : tl.contains w.by = true
  · rw [if_pos ht, if_pos ht]
  · rw [if_neg ht, if_neg ht]
    refine fin _ _ _ ?_
    cases w with
    | places => exact set_one (w := .places) rfl (by decide) (by decide) (fun _ => rfl) r
    | form => exact set_form r
    | cap => exact set_one (w := .cap) rfl (by decide) (by decide) (fun _ => rfl) r
    | judges => exact set_judges r
    | fee => exact set_one (w := .fee) rfl (by decide) (by decide) (fun _ => rfl) r
    | fine => exact set_one (w := .fine) rfl (by decide) (by decide) (fun _ => rfl) r
    | answer => exact set_one (w := .answer) rfl (by decide) (by decide) (fun _ => rfl) r
    | start => exact set_one (w := .start) rfl (by decide) (by decide) (fun _ => rfl) r
    | back => exact set_back r
end EH

/-! ## EHXR -/
namespace EH
open PySem EHR SX
open Vbdbam (Bytes Rules isDigit number numberIn cut words text lineOf linesOf KINDS pairsOf backOk allOf newRules)
theorem fit_len {w : Wd} {r : List Bytes} (n1 : w ≠ .back) (h : fitB w r = true) : (r.map number).length = (bnd w).length ∧ ((r.map number).zip (bnd w)).all okB = true := by
  unfold fitB at h
  rw [Bool.and_eq_true, if_neg n1] at h
  obtain ⟨_, h⟩ := h
  by_cases c : w = .form ∧ 3 ∈ r.map number
  · rw [if_pos c] at h; cases h
  · rw [if_neg c] at h
    unfold inB at h
    rw [Bool.and_eq_true, decide_eq_true_eq] at h
    exact h
theorem fit_all {w : Wd} {r : List Bytes} (h : fitB w r = true) : r.all numB = true := by
  unfold fitB at h
  rw [Bool.and_eq_true] at h
  exact h.1
theorem casts (r : List Bytes) : (r.map fun w => ((number w : Nat) : Int)) = (r.map number).map fun (n : Nat) => (n : Int) := by
  rw [List.map_map]
  rfl
theorem nums_set {x : Rules} {w : Wd} {r : List Bytes} (h : fitB w r = true) (v : Wd) : nums (setR x w (r.map number)) v = updW (nums x) (w.by :: r) v := by
  by_cases c : v = w
  · subst c
    rw [updW_same, casts]
    by_cases hb : v = .back
    · subst hb
      have hp : pairsB (r.map number) = true := by
        unfold fitB at h
        rw [Bool.and_eq_true, if_pos rfl] at h
        exact h.2
      unfold pairsB at hp
      simp only [Bool.and_eq_true, decide_eq_true_eq] at hp
      exact ((pairs_flat hp.1).1).symm
    · obtain ⟨hl, _⟩ := fit_len hb h
      generalize r.map number = ns at hl
      cases v with
      | back => exact absurd rfl hb
      | judges =>
        match ns, hl with
        | [a, b], _ => rfl
      | places => obtain ⟨d, e⟩ := List.length_eq_one_iff.mp hl; subst e; rfl
      | form => obtain ⟨d, e⟩ := List.length_eq_one_iff.mp hl; subst e; rfl
      | cap => obtain ⟨d, e⟩ := List.length_eq_one_iff.mp hl; subst e; rfl
      | fee => obtain ⟨d, e⟩ := List.length_eq_one_iff.mp hl; subst e; rfl
      | fine => obtain ⟨d, e⟩ := List.length_eq_one_iff.mp hl; subst e; rfl
      | answer => obtain ⟨d, e⟩ := List.length_eq_one_iff.mp hl; subst e; rfl
      | start => obtain ⟨d, e⟩ := List.length_eq_one_iff.mp hl; subst e; rfl
  · rw [updW_ne c]
    by_cases hb : w = .back
    · subst hb
      cases v <;> first | rfl | exact absurd rfl c
    · obtain ⟨hl, _⟩ := fit_len hb h
      generalize r.map number = ns at hl
      cases w with
      | back => exact absurd rfl hb
      | judges =>
        match ns, hl with
        | [a, b], _ => cases v <;> first | rfl | exact absurd rfl c
      | places => obtain ⟨d, e⟩ := List.length_eq_one_iff.mp hl; subst e; cases v <;> first | rfl | exact absurd rfl c
      | form => obtain ⟨d, e⟩ := List.length_eq_one_iff.mp hl; subst e; cases v <;> first | rfl | exact absurd rfl c
      | cap => obtain ⟨d, e⟩ := List.length_eq_one_iff.mp hl; subst e; cases v <;> first | rfl | exact absurd rfl c
      | fee => obtain ⟨d, e⟩ := List.length_eq_one_iff.mp hl; subst e; cases v <;> first | rfl | exact absurd rfl c
      | fine => obtain ⟨d, e⟩ := List.length_eq_one_iff.mp hl; subst e; cases v <;> first | rfl | exact absurd rfl c
      | answer => obtain ⟨d, e⟩ := List.length_eq_one_iff.mp hl; subst e; cases v <;> first | rfl | exact absurd rfl c
      | start => obtain ⟨d, e⟩ := List.length_eq_one_iff.mp hl; subst e; cases v <;> first | rfl | exact absurd rfl c
theorem RGd.set {x : Rules} (g : RGd x) {w : Wd} {r : List Bytes} (h : fitB w r = true) : RGd (setR x w (r.map number)) := by
  by_cases hb : w = .back
  · subst hb
    have hp : pairsB (r.map number) = true := by
      unfold fitB at h
      rw [Bool.and_eq_true, if_pos rfl] at h
      exact h.2
    unfold pairsB at hp
    simp only [Bool.and_eq_true, decide_eq_true_eq] at hp
    obtain ⟨h1, h2, h3, h4⟩ := hp
    refine ⟨g.places, g.form, g.cap, g.judges, g.per, g.fee, g.fine, g.answer, g.start, ?_, fun p hp => ?_⟩
    · have := (pairs_flat h1).2
      show (pairsOf (r.map number)).length ≤ 6
      omega
    · have := List.all_eq_true.mp h3 p hp
      unfold pairB at this
      simp only [Bool.and_eq_true, decide_eq_true_eq] at this
      omega
  · obtain ⟨hl, hk⟩ := fit_len hb h
    generalize r.map number = ns at hl hk
    cases w with
    | back => exact absurd rfl hb
    | judges =>
      match ns, hl with
      | [a, b], _ =>
        simp only [bnd, List.zip_cons_cons, List.all_cons, okB, Bool.and_eq_true, decide_eq_true_eq] at hk
        exact ⟨g.places, g.form, g.cap, hk.1.2, ⟨hk.2.1.1, hk.2.1.2⟩, g.fee, g.fine, g.answer, g.start, g.back, g.backs⟩
    | places =>
      obtain ⟨d, e⟩ := List.length_eq_one_iff.mp hl; subst e
      simp only [bnd, List.zip_cons_cons, List.all_cons, okB, Bool.and_eq_true, decide_eq_true_eq] at hk
      exact ⟨hk.1.2, g.form, g.cap, g.judges, g.per, g.fee, g.fine, g.answer, g.start, g.back, g.backs⟩
    | form =>
      obtain ⟨d, e⟩ := List.length_eq_one_iff.mp hl; subst e
      simp only [bnd, List.zip_cons_cons, List.all_cons, okB, Bool.and_eq_true, decide_eq_true_eq] at hk
      exact ⟨g.places, ⟨Nat.lt_of_lt_of_le (by decide) hk.1.1, hk.1.2⟩, g.cap, g.judges, g.per, g.fee, g.fine, g.answer, g.start, g.back, g.backs⟩
    | cap =>
      obtain ⟨d, e⟩ := List.length_eq_one_iff.mp hl; subst e
      simp only [bnd, List.zip_cons_cons, List.all_cons, okB, Bool.and_eq_true, decide_eq_true_eq] at hk
      exact ⟨g.places, g.form, hk.1.2, g.judges, g.per, g.fee, g.fine, g.answer, g.start, g.back, g.backs⟩
    | fee =>
      obtain ⟨d, e⟩ := List.length_eq_one_iff.mp hl; subst e
      simp only [bnd, List.zip_cons_cons, List.all_cons, okB, Bool.and_eq_true, decide_eq_true_eq] at hk
      exact ⟨g.places, g.form, g.cap, g.judges, g.per, hk.1.2, g.fine, g.answer, g.start, g.back, g.backs⟩
    | fine =>
      obtain ⟨d, e⟩ := List.length_eq_one_iff.mp hl; subst e
      simp only [bnd, List.zip_cons_cons, List.all_cons, okB, Bool.and_eq_true, decide_eq_true_eq] at hk
      exact ⟨g.places, g.form, g.cap, g.judges, g.per, g.fee, hk.1.2, g.answer, g.start, g.back, g.backs⟩
    | answer =>
      obtain ⟨d, e⟩ := List.length_eq_one_iff.mp hl; subst e
      simp only [bnd, List.zip_cons_cons, List.all_cons, okB, Bool.and_eq_true, decide_eq_true_eq] at hk
      exact ⟨g.places, g.form, g.cap, g.judges, g.per, g.fee, g.fine, Nat.le_trans hk.1.2 (by decide), g.start, g.back, g.backs⟩
    | start =>
      obtain ⟨d, e⟩ := List.length_eq_one_iff.mp hl; subst e
      simp only [bnd, List.zip_cons_cons, List.all_cons, okB, Bool.and_eq_true, decide_eq_true_eq] at hk
      exact ⟨g.places, g.form, g.cap, g.judges, g.per, g.fee, g.fine, g.answer, Nat.le_trans hk.1.2 (by decide), g.back, g.backs⟩
/-- the lines, as the program has them -/
def lnsOf (ls : List Bytes) : List (List Bytes) := ls.map fun l => (words l).map fun x => x.map phi
theorem lines_main : ∀ (ls : List Bytes) (n : Nat) (x : Rules) (tl tl' : List Bytes), (∀ k, tl.contains k = tl'.contains k) → RGd x →
    (∀ e, linesOf n (x, tl) ls = .error e → faultL n tl' (lnsOf ls) = some e) ∧
    (∀ r, linesOf n (x, tl) ls = .ok r → faultL n tl' (lnsOf ls) = none ∧ nums r = (lnsOf ls).foldl updW (nums x) ∧ Tells (lnsOf ls) ∧ RGd r)
  | [], n, x, tl, tl', _, g => by
    refine ⟨fun e h => (by cases h), fun r h => ?_⟩
    cases h
    exact ⟨rfl, rfl, fun _ _ h => (by cases h), g⟩
  | l :: ls, n, x, tl, tl', ht, g => by
    have hL : lnsOf (l :: ls) = ((words l).map fun x => x.map phi) :: lnsOf ls := rfl
    rw [hL]
    cases hw : words l with
    | nil =>
      have ho : lineOf (x, tl) l = .ok (x, tl) := by unfold lineOf; rw [hw]
      have ih := lines_main ls (n + 1) x tl tl' ht g
      have hn : linesOf n (x, tl) (l :: ls) = linesOf (n + 1) (x, tl) ls := by
        show (match lineOf (x, tl) l with
          | Except.error e => Except.error (e, n)
          | .ok y => linesOf (n + 1) y ls) = _
        rw [ho]
      rw [hn]
      refine ⟨ih.1, fun r h => ?_⟩
      obtain ⟨h1, h2, h3, h4⟩ := ih.2 r h
      refine ⟨h1, ?_, fun k ws hm => ?_, h4⟩
      · rw [h2, List.foldl_cons]
        rfl
      · rcases List.mem_cons.mp hm with c | c
        · cases c
        · exact h3 k ws c
    | cons k r =>
      rw [List.map_cons]
      have hF : faultL n tl' ((k.map phi :: r.map fun x => x.map phi) :: lnsOf ls) = (match faultB tl' (k.map phi) (r.map fun x => x.map phi) with
        | some e => some (e, n)
        | none => faultL (n + 1) (tl' ++ [k.map phi]) (lnsOf ls)) := rfl
      rw [hF]
      have hS : linesOf n (x, tl) (l :: ls) = (match lineOf (x, tl) l with
        | Except.error e => Except.error (e, n)
        | .ok y => linesOf (n + 1) y ls) := rfl
      rw [hS]
      cases hk : KINDS.contains k with
      | false =>
        have ho : lineOf (x, tl) l = .error 1 := by unfold lineOf; rw [hw]; exact if_pos hk
        have hf : faultB tl' (k.map phi) (r.map fun x => x.map phi) = some 1 := by unfold faultB; rw [kinds_phi, if_pos hk]
        rw [ho, hf]
        refine ⟨fun e h => ?_, fun r h => by cases h⟩
        cases h
        rfl
      | true =>
        obtain ⟨w, rfl⟩ := kind_of hk
        rw [by_phi, line_is hw]
        have hf : faultB tl' w.by (r.map fun x => x.map phi) = if tl.contains w.by = true then some 2 else if fitB w r = false then some 3 else none := by
          unfold faultB
          rw [kind_by w, if_neg (by decide), ← ht, fitK_by, fit_phi]
        rw [hf]
        by_cases h2 : tl.contains w.by = true
        · rw [if_pos h2, if_pos h2]
          refine ⟨fun e h => ?_, fun r h => by cases h⟩
          cases h
          rfl
        · rw [if_neg h2, if_neg h2]
          cases h3 : fitB w r with
          | false =>
            rw [if_neg Bool.false_ne_true, if_pos rfl]
            refine ⟨fun e h => ?_, fun r h => by cases h⟩
            cases h
            rfl
          | true =>
            rw [if_pos rfl, if_neg (by decide)]
            have ht2 : ∀ k, (w.by :: tl).contains k = (tl' ++ [w.by]).contains k := fun k => by
              rw [List.contains_cons, ht k, Bool.eq_iff_iff]
              simp [List.contains_eq_mem, or_comm]
            have ih := lines_main ls (n + 1) (setR x w (r.map number)) (w.by :: tl) (tl' ++ [w.by]) ht2 (g.set h3)
            refine ⟨ih.1, fun r2 h => ?_⟩
            obtain ⟨i1, i2, i3, i4⟩ := ih.2 r2 h
            have hr := all_same (fit_all h3)
            refine ⟨i1, ?_, fun k ws hm => ?_, i4⟩
            · rw [i2, List.foldl_cons, hr]
              have : nums (setR x w (r.map number)) = updW (nums x) (w.by :: r) := funext fun v => nums_set h3 v
              rw [this]
            · rcases List.mem_cons.mp hm with c | c
              · injection c with c1 c2
                rw [c1, c2]
                exact ⟨kind_by w, by rw [all_phi]; exact fit_all h3⟩
              · exact i3 k ws c
theorem new_gd : RGd newRules := ⟨by decide, by decide, by decide, by decide, by decide, by decide, by decide, by decide, by decide, by decide, fun p h => by cases h⟩
/-- the text of rules: what the program reads is what the specification does -/
theorem rules_main (t : List Nat) : (∀ e, Vbdbam.rulesOf t = .error e → faultL 1 [] ((cut 10 (t.map phi)).map words) = some e) ∧
    (∀ r, Vbdbam.rulesOf t = .ok r → faultL 1 [] ((cut 10 (t.map phi)).map words) = none ∧ nums r = ((cut 10 (t.map phi)).map words).foldl updW (nums newRules) ∧ Tells ((cut 10 (t.map phi)).map words) ∧ RGd r) := by
  have e : (cut 10 (t.map phi)).map words = lnsOf (cut 10 t) := by
    rw [cut_phi (by decide +kernel) (by decide), List.map_map]
    unfold lnsOf
    exact List.map_congr_left fun l _ => words_phi l
  rw [e]
  exact lines_main (cut 10 t) 1 newRules [] [] (fun _ => rfl) new_gd
end EH

/-! ## EHCA -/
namespace EH
open PySem PySem.Spec PyProof.Rows L2 EHR SX
local macro_rules | `(tactic| decreasing_trivial_pre_omega) => `(tactic| first
  | assumption
  | rfl
  | exact lk_here
  | exact Txt.cl_Ledger (by assumption) | exact Txt.cl_Rules (by assumption) | exact Txt.cl_School (by assumption) | exact Txt.cl_Offer (by assumption) | exact Txt.cl_House (by assumption)
  | exact Txt.na_Ledger (by assumption) _ (by decide +kernel) | exact Txt.na_Rules (by assumption) _ (by decide +kernel) | exact Txt.na_School (by assumption) _ (by decide +kernel) | exact Txt.na_Offer (by assumption) _ (by decide +kernel) | exact Txt.na_House (by assumption) _ (by decide +kernel)
  | exact (lk_past (by decide +kernel)).trans lk_here
  | exact (lk_past (by decide +kernel)).trans ((lk_past (by decide +kernel)).trans lk_here)
  | exact (lk_past (by decide +kernel)).trans ((lk_past (by decide +kernel)).trans ((lk_past (by decide +kernel)).trans lk_here))
  | exact (lk_past (by decide +kernel)).trans ((lk_past (by decide +kernel)).trans ((lk_past (by decide +kernel)).trans ((lk_past (by decide +kernel)).trans lk_here)))
  | exact (lk_past (by decide +kernel)).trans ((lk_past (by decide +kernel)).trans ((lk_past (by decide +kernel)).trans ((lk_past (by decide +kernel)).trans ((lk_past (by decide +kernel)).trans lk_here))))
  | exact (lk_past (by decide +kernel)).trans ((lk_past (by decide +kernel)).trans ((lk_past (by decide +kernel)).trans ((lk_past (by decide +kernel)).trans ((lk_past (by decide +kernel)).trans ((lk_past (by decide +kernel)).trans lk_here)))))
  | exact SqL.of (by assumption) | exact SqT.of (by assumption)
  | exact Or.inl (SqL.of (by assumption)) | exact Or.inr (SqT.of (by assumption)) | exact Or.inl (by assumption) | exact Or.inr (by assumption)
  | exact atI0 rfl | exact atI_nat (j := 1) rfl | exact atI_nat (j := 2) rfl
  | exact Or.inl ⟨rfl, _, SqL.of (by assumption)⟩
  | exact Nat.le_of_ble_eq_true rfl
  | exact Same.at1 (by assumption) (by assumption)
  | exact SqL.of (Same.at1 (by assumption) (by assumption)) | exact SqT.of (Same.at1 (by assumption) (by assumption)) | exact Or.inl (SqL.of (Same.at1 (by assumption) (by assumption))) | exact Or.inr (SqT.of (Same.at1 (by assumption) (by assumption)))
  | exact ⟨_, by assumption⟩ | exact ⟨_, rfl⟩ | trivial
  | exact dput_i (by assumption) (by assumption) | exact dput_s (by assumption) (by assumption) | exact kV_i | exact kV_s | exact isD_k (by assumption)
  | exact upd_same)
local macro_rules | `(tactic| get_elem_tactic_extensible) => `(tactic| repeat (first
  | refine And.intro (by decreasing_trivial_pre_omega) ?_
  | apply Exists.intro (α := V) | apply Exists.intro (α := Addr) | apply Exists.intro (α := List V) | apply Exists.intro (α := Int) | apply Exists.intro (α := Bool)
  | apply Exists.intro (α := List (Str × V)) | apply Exists.intro (α := Str) | apply Exists.intro (α := List (Key × V)) | apply Exists.intro (α := Option V)
  | apply Exists.intro (α := List Int) | apply Exists.intro (α := List Bool) | apply Exists.intro (α := List Str) | apply Exists.intro (α := Obj) | apply Exists.intro (α := List En) | apply Exists.intro (α := HAd) | apply Exists.intro (α := Vbdbam.State) | apply Exists.intro (α := Vbdbam.Rules) | apply Exists.intro (α := Hp) | apply Exists.intro (α := Key) | apply Exists.intro (α := Nat) | apply Exists.intro (α := Wd) | apply Exists.intro (α := Wd → List Int) | apply Exists.intro (α := Nat → Int) | apply Exists.intro (α := List Nat) | apply Exists.intro (α := List (List Nat)) | apply Exists.intro (α := List (List (List Nat)))))
local macro_rules | `(tactic| decreasing_trivial) => `(tactic| (intro vs H Q E h; repeat (first | (obtain ⟨e, _⟩ := h; subst e; rfl) | (obtain ⟨_, h⟩ := h))))

open Vbdbam (State Ans setSchool schoolAt idAt placeOf inside cut words)
theorem At.newRules {K : PySem.W.Frag} {A : Ad} {H : Hp} {h : Addr} {a : HAd} {s : State} (p : At K A H h a s) {r : Vbdbam.Rules} {ru td dx : Addr} (hr : RlsN K A H ru td (nums r)) (n1 : td ≠ a.sd) (n2 : td ≠ a.od) :
    At K A (upd H h (.ins A.cHouse dx (hFi ru a.sd a.od (s.next : Nat) (s.day : Nat) s.closed a.lg))) h { a with ru := ru, td := td } { s with rules := r } := by
  obtain ⟨dh, hb⟩ := p.hs
  obtain ⟨kvt, htd⟩ := hr.td
  exact {
    hs := ⟨dx, upd_same⟩
    ru := keepR hr hb rfl rfl rfl (ne_shp htd hb rfl)
    sd := keepS p.sd hb rfl
    sc := fun k hk => (p.sc k hk).imp fun _ q => keepS q hb rfl
    od := keepS p.od hb rfl
    of := fun o ho => (p.of o ho).imp fun _ q => keepS q hb rfl
    lg := p.lg.imp fun _ q => keepS q hb rfl
    le := p.le.imp fun _ q => ⟨keepS q.1 hb rfl, keepE hb rfl q.2⟩
    inj := p.inj
    d1 := p.d1
    d2 := n1
    d3 := n2 }
def ints' (t : List Int) : List V := t.map V.int
def sp_rules (K : PySem.W.Frag) (A : Ad) : Sp := fun vs H Q _ => ∃ (h b : Addr) (a : HAd) (s : State) (t : List Int), vs = [.ref h, .ref b] ∧ At K A H h a s ∧ Gd s ∧ SqL K H b (ints' t) ∧ t.length ≤ 100000 ∧ Done K A H h a (Vbdbam.step s (.rules t)) Q
theorem ok_rules {P : Program} {w : World} {K : PySem.W.Frag} {mg : Str → Option Value} {base : Heap} {A : Ad} (T : Txt w K mg A) : C8.Cal P w K mg base 5 "rules" (sp_rules K A) [] := by
  refine calOf T.d_rules sc_rules (by decreasing_trivial) (fun cdv Ar outer s0 H vs Q E hr hsp => ⟨_, (pss_cons (ps_stop (ps_if (PW.pt (pw_or (pt_cmpR op_gt (pe_callB call_len_seq (by rfl) T.n_len (by decide +kernel) (pa_cons (pv 1) pa_nil)) (C8.pe_gc rfl T.c_MOST_BYTES) (nomark _)) (pw_or1 (pt_not (pt_val (pe_callB (cr_all rfl) (by rfl) T.n_all (by decide +kernel) (pa_cons (pe_lc (own := [("number", 4)]) (g := gName 4) (tt := tYes) (te := (tChain _ _ (tC _) (tVar 4) (tC _))) (by rfl) sc_rules.nd (pi_list (pv 1)) (blkOk_by (own := [("number", 4)]) (N := N_rules) (sc := C8.fnScope s_rules) (by decide +kernel)) (fun _ _ _ _ _ => pg_name (i := 4) sc_rules.nd rfl (Or.inl rfl)) (fun _ _ _ _ _ => pts_nil) (fun _ _ _ _ _ => (pe_chain op_le op_le pe_int (pv 4) pe_int))) pa_nil))))))) (pss_one (ps_ret (pe_lst (pa_cons (pe_un un_neg (C8.pe_gc rfl T.c_OUT_OF_BOUNDS)) pa_nil)))) pss_nil))
 (pss_cons (ps_stop (ps_if (PW.pt (pw_or (pt_cmpR op_gt (pe_callB call_lenD (by rfl) T.n_len (by decide +kernel) (pa_cons (pe_fld (pv 0) rfl) pa_nil)) pe_int (nomark _)) (pw_or (pt_cmpR op_ne (pe_fld (pv 0) rfl) pe_int (nomark _)) (pw_or1 (pt_val (pe_fld (pv 0) rfl)))))) (pss_one (ps_ret (pe_lst (pa_cons (pe_un un_neg (C8.pe_gc rfl T.c_CLOSED)) pa_nil)))) pss_nil))
 (pss_cons (ps_stop (ps_set (i := 2) sc_rules.nd rfl (Or.inl rfl) (C8.pe_c (ok_read_lines T) hr (by decide) rfl (pa_cons (pv 1) pa_nil))))
 (pss_cons (ps_stop (ps_set (i := 3) sc_rules.nd rfl (Or.inl rfl) (C8.pe_c (ok_first_fault T) hr (by decide) rfl (pa_cons (pv 2) pa_nil))))
 (pss_cons (ps_stop (ps_if (pt_cmpR op_notN (pv 3) pe_non (nomark _)) (pss_one (ps_ret (pe_lst (pa_cons pe_int (pa_cons (pe_ix ix_tup (pv 3) pe_int (fun _ _ => rfl)) (pa_cons (pe_ix ix_tup (pv 3) pe_int (fun _ _ => rfl)) pa_nil)))))) pss_nil))
 (pss_cons (ps_stop (ps_fld (pv 0) (C8.pe_c (ok_rules_of T) hr (by decide) rfl (pa_cons (pv 2) pa_nil)) rfl))
 (pss_one (ps_stop (ps_ret (pe_op op_cat (pe_lst (pa_cons pe_int pa_nil)) (C8.pe_mt0 (ok_Rules_row T) hr (by decide) (pe_fld (pv 0) rfl)))))))))))), ?_⟩)
  obtain ⟨h, b, a, s, t, rfl, p, gd, hl, len, q⟩ := hsp
  have e1 : (ints' t).length = t.length := by simp [ints']
  obtain ⟨dh, h1⟩ := p.hs
  have isT : Vbdbam.isText t Vbdbam.MOSTTEXT = (decide (t.length ≤ 1000) && t.all fun z => inside z 0 255) := rfl
  (refine Stop.go ?_; get_elem_tactic_extensible)
  rw [e1]
  refine ifd (fun c1 => ?_) fun c1 => ?_
  · get_elem_tactic_extensible
    have : Vbdbam.isText t Vbdbam.MOSTTEXT = false := by rw [isT, decide_eq_false (show ¬ t.length ≤ 1000 by omega)]; rfl
    exact q.no p (Same.refl H) (by simp [Vbdbam.step, Vbdbam.onSchool, Vbdbam.onOffer, Vbdbam.unlessClosed, Vbdbam.no, this]; first | done | rfl) (by rfl)
  · have c1 : t.length ≤ 1000 := by omega
    get_elem_tactic_extensible
    intro D hD
    refine lc_it (walk_list (xs := ints' t)) (LcI H D fun i => (t.take i).map fun z => V.bl (inside z 0 255)) (LcI.zero hD rfl) (fun i H' _ p => p.s.seq hl) (fun i x H2 H' hi w y => ?_) (fun H1 w => ?_)
    · obtain ⟨rfl, hx⟩ := y
      obtain ⟨z, hz, rfl⟩ : ∃ z, t[i]? = some z ∧ V.int z = x := by
        unfold ints' at hx
        rw [List.getElem?_map] at hx
        cases e : t[i]? with
        | none => rw [e] at hx; cases hx
        | some o => rw [e] at hx; exact ⟨o, rfl, Option.some.inj hx⟩
      have pd := w.d
      have lf : ((t.take i).map fun z => V.bl (inside z 0 255)).length < sizeLine := lt_line (by simp; omega)
      get_elem_tactic_extensible
      refine ifd (fun c2 => ?_) fun c2 => ?_
      · get_elem_tactic_extensible
        have c2' : ((0 : Nat) : Int) ≤ z := c2
        have e : inside z 0 255 = decide (z ≤ 255) := by unfold Vbdbam.inside; rw [decide_eq_true c2', Bool.true_and]; rfl
        refine w.put (y := V.bl (decide (z ≤ 255))) (Same.refl _) hD ?_
        rw [take_one hz, List.map_append, ← e]
        rfl
      · get_elem_tactic_extensible
        have e : inside z 0 255 = false := in_lo (lo := 0) c2
        rw [← e]
        exact w.put (Same.refl _) hD (by rw [take_one hz, List.map_append]; rfl)
    · have s1 := w.s
      have pd : H1 D = some (.lst ((t.map fun z => inside z 0 255).map V.bl)) := by
        rw [w.d, e1, List.take_length, List.map_map]
        rfl
      get_elem_tactic_extensible
      have ea : (t.map fun z => inside z 0 255).all id = t.all fun z => inside z 0 255 := by rw [List.all_map]; rfl
      rw [ea]
      cases ha : t.all fun z => inside z 0 255 with
      | false =>
        get_elem_tactic_extensible
        have : Vbdbam.isText t Vbdbam.MOSTTEXT = false := by rw [isT, ha, Bool.and_false]
        exact q.no p s1 (by simp [Vbdbam.step, Vbdbam.onSchool, Vbdbam.onOffer, Vbdbam.unlessClosed, Vbdbam.no, this]; first | done | rfl) (by rfl)
      | true =>
        get_elem_tactic_extensible
        have isT : Vbdbam.isText t Vbdbam.MOSTTEXT = true := by rw [isT, ha, decide_eq_true c1]; rfl
        have p1 := p.same s1
        have hl1 := s1.seq hl
        obtain ⟨dh, h1⟩ := p1.hs
        have h2 := p1.sd
        have e2 : (schK s a).length = s.schools.length := schK_len
        (refine Stop.go ?_; get_elem_tactic_extensible)
        rw [e2]
        have no4 : (s.schools ≠ [] ∨ s.day ≠ 0 ∨ s.closed = true) → Vbdbam.step s (.rules t) = (s, ⟨-4, []⟩) := fun c => by
          show (if Vbdbam.isText t Vbdbam.MOSTTEXT = false then _ else _) = _
          rw [isT, if_neg (by decide), if_pos c]
          rfl
        refine ifd (fun c3 => ?_) fun c3 => ?_
        · get_elem_tactic_extensible
          exact q.no p s1 (no4 (.inl fun e => by rw [e] at c3; exact absurd c3 (by decide))) (by rfl)
        · have hsn : s.schools = [] := List.length_eq_zero_iff.mp (by omega)
          get_elem_tactic_extensible
          refine ifn (fun c4 => ?_) fun c4 => ?_
          · get_elem_tactic_extensible
            exact q.no p s1 (no4 (.inr (.inl fun e => c4 (by rw [e]; rfl)))) (by rfl)
          · have hd0 : s.day = 0 := by
              have := V.int.inj c4
              omega
            get_elem_tactic_extensible
            cases hcl : s.closed with
            | true =>
              refine ift ?_
              get_elem_tactic_extensible
              exact q.no p s1 (no4 (.inr (.inr hcl))) (by rfl)
            | false =>
              refine iff' ?_
              have hno : ¬ (s.schools ≠ [] ∨ s.day ≠ 0 ∨ s.closed = true) := by
                rw [hsn, hd0, hcl]
                simp
              have hst : Vbdbam.step s (.rules t) = (match Vbdbam.rulesOf (Vbdbam.nats t) with
                | .error e => (s, ⟨1, [Vbdbam.ints [e.1, e.2]]⟩)
                | .ok r => ({ s with rules := r }, ⟨0, [Vbdbam.ints [r.places, r.form, r.cap, r.judges, r.per, r.fee, r.fine, r.answer, r.start]]⟩)) := by
                show (if Vbdbam.isText t Vbdbam.MOSTTEXT = false then _ else _) = _
                rw [isT, if_neg (by decide), if_neg hno]
                cases Vbdbam.rulesOf (Vbdbam.nats t) <;> rfl
              rw [hst] at q
              have et : ints' t = ivs (Vbdbam.nats t) := by
                unfold ints' ivs Vbdbam.nats
                rw [List.map_map]
                refine List.map_congr_left fun z hz => ?_
                have := List.all_eq_true.mp ha z hz
                unfold Vbdbam.inside at this
                rw [Bool.and_eq_true, decide_eq_true_eq, decide_eq_true_eq] at this
                show V.int z = V.int ((z.toNat : Nat) : Int)
                rw [Int.toNat_of_nonneg this.1]
              rw [et] at hl1
              have nl : (Vbdbam.nats t).length ≤ 1000 := by unfold Vbdbam.nats; rw [List.length_map]; exact c1
              have nb : ∀ c, c ∈ Vbdbam.nats t → c ≤ 255 := fun c hc => by
                obtain ⟨z, hz, rfl⟩ := List.mem_map.mp hc
                have := List.all_eq_true.mp ha z hz
                unfold Vbdbam.inside at this
                rw [Bool.and_eq_true, decide_eq_true_eq, decide_eq_true_eq] at this
                omega
              obtain ⟨m1, m2⟩ := rules_main (Vbdbam.nats t)
              generalize Vbdbam.nats t = ns at *
              have lsl : ((cut 10 (ns.map phi)).map words).length ≤ 100000 := by
                have := cut_len 10 (ns.map phi)
                rw [List.length_map] at *
                omega
              have lok : ∀ l, l ∈ (cut 10 (ns.map phi)).map words → LnOk l := fun l hl => by
                obtain ⟨b, hb, rfl⟩ := List.mem_map.mp hl
                have cp := cut_part 10 _ b hb
                rw [List.length_map] at cp
                have fl : (words b).length ≤ (cut 32 b).length := List.length_filter_le _ _
                have cl := cut_len 32 b
                refine ⟨by omega, fun x hx => ?_⟩
                have hx := (List.mem_filter.mp hx).1
                have cq := cut_part 32 b x hx
                refine ⟨fun c hc => ?_, by omega⟩
                have hc := cp.2 c (cq.2 c hc)
                obtain ⟨d, hd, rfl⟩ := List.mem_map.mp hc
                by_cases e : d ∈ sg
                · rw [phi_in e]
                  have : ∀ d, d ∈ sg → d < 128 := by decide +kernel
                  exact this d e
                · rw [phi_out e]
                  decide
              (refine Stop.go ?_; get_elem_tactic_extensible)
              intro p5 es5 H5 s5 l5 ln5
              generalize (cut 10 (ns.map phi)).map words = ls at *
              have s15 := s1.trans s5
              have q5 := SqL.of (K := K) l5
              (refine Stop.go ?_; get_elem_tactic_extensible)
              intro v H6 s6 fv
              have s16 := s15.trans s6
              have p6 := p.same s16
              cases hr : Vbdbam.rulesOf ns with
              | error e =>
                rw [m1 e hr] at fv
                obtain ⟨pf, rfl, hf⟩ := fv
                have tq := SqT.of (K := K) hf
                rw [hr] at q
                (refine Stop.go ?_; get_elem_tactic_extensible)
                exact q.no p s16 rfl (by rfl)
              | ok r =>
                obtain ⟨f1, f2, f3, f4⟩ := m2 r hr
                rw [f1] at fv
                have fv : v = .non := fv
                subst fv
                rw [hr] at q
                have q6 := s6.seq q5
                have ln6 := ln5.same s6
                obtain ⟨dh, h1⟩ := p6.hs
                (refine Stop.go ?_; get_elem_tactic_extensible)
                (refine Stop.go ?_; get_elem_tactic_extensible)
                intro ru td H7 s7 hru htd rl
                rw [← f2] at rl
                have s17 := s16.trans s7
                have p7 := p.same s17
                obtain ⟨dh, h1⟩ := p7.hs
                get_elem_tactic_extensible
                rw [put_rules]
                have p8 := At.newRules (dx := dh) p7 rl (Same.ne p6.sd htd).symm (Same.ne p6.od htd).symm
                have f8 := (Frm.of_same (le := a.le) s17).trans (Frm.upd (o' := .ins A.cHouse dh (hFi ru a.sd a.od (s.next : Nat) (s.day : Nat) s.closed a.lg)) h1 rfl)
                generalize upd H7 h (.ins A.cHouse dh (hFi ru a.sd a.od (s.next : Nat) (s.day : Nat) s.closed a.lg)) = H8 at p8 f8
                obtain ⟨dh, h1⟩ := p8.hs
                have r8 : Rls K A H8 ru r := ⟨_, p8.ru⟩
                obtain ⟨dr, tr, h4⟩ := r8.rcd
                (refine Stop.go ?_; get_elem_tactic_extensible)
                intro t0 ht0
                have s9 := Same.new (o := .lst [.int 0]) ht0
                have l9 : upd H8 t0 (.lst [.int 0]) t0 = some (.lst [.int 0]) := upd_same
                have p9 := p8.same s9
                generalize upd H8 t0 (.lst [.int 0]) = H9 at s9 l9 p9
                obtain ⟨dh, h1⟩ := p9.hs
                have r9 : Rls K A H9 ru r := ⟨_, p9.ru⟩
                obtain ⟨dr, tr, h4⟩ := r9.rcd
                get_elem_tactic_extensible
                intro pa Ha hpa sa la
                have l9 := sa _ _ l9
                get_elem_tactic_extensible
                intro t1 ht1
                refine q.h _ _ t1 (p9.same (sa.trans (Same.new ht1))) ((f8.trans (.of_same s9)).trans (.of_same (sa.trans (Same.new ht1)))) (.inl rfl) (fun b o hb st nl => Same.ne (sa _ _ (s9 _ _ (f8 b o hb st nl))) ht1) upd_same
end EH

/-! ## EHI -/
namespace EH
open PySem PySem.Spec PyProof.Rows L2 EHR
local macro_rules | `(tactic| decreasing_trivial_pre_omega) => `(tactic| first
  | assumption
  | rfl
  | exact lk_here
  | exact Txt.cl_Ledger (by assumption) | exact Txt.cl_Rules (by assumption) | exact Txt.cl_School (by assumption) | exact Txt.cl_Offer (by assumption) | exact Txt.cl_House (by assumption)
  | exact Txt.na_Ledger (by assumption) _ (by decide +kernel) | exact Txt.na_Rules (by assumption) _ (by decide +kernel) | exact Txt.na_School (by assumption) _ (by decide +kernel) | exact Txt.na_Offer (by assumption) _ (by decide +kernel) | exact Txt.na_House (by assumption) _ (by decide +kernel)
  | exact (lk_past (by decide +kernel)).trans lk_here
  | exact (lk_past (by decide +kernel)).trans ((lk_past (by decide +kernel)).trans lk_here)
  | exact (lk_past (by decide +kernel)).trans ((lk_past (by decide +kernel)).trans ((lk_past (by decide +kernel)).trans lk_here))
  | exact (lk_past (by decide +kernel)).trans ((lk_past (by decide +kernel)).trans ((lk_past (by decide +kernel)).trans ((lk_past (by decide +kernel)).trans lk_here)))
  | exact (lk_past (by decide +kernel)).trans ((lk_past (by decide +kernel)).trans ((lk_past (by decide +kernel)).trans ((lk_past (by decide +kernel)).trans ((lk_past (by decide +kernel)).trans lk_here))))
  | exact (lk_past (by decide +kernel)).trans ((lk_past (by decide +kernel)).trans ((lk_past (by decide +kernel)).trans ((lk_past (by decide +kernel)).trans ((lk_past (by decide +kernel)).trans ((lk_past (by decide +kernel)).trans lk_here)))))
  | exact SqL.of (by assumption) | exact SqT.of (by assumption)
  | exact Or.inl (SqL.of (by assumption)) | exact Or.inr (SqT.of (by assumption)) | exact Or.inl (by assumption) | exact Or.inr (by assumption)
  | exact atI0 rfl | exact atI_nat (j := 1) rfl | exact atI_nat (j := 2) rfl
  | exact Or.inl ⟨rfl, _, SqL.of (by assumption)⟩
  | exact Nat.le_of_ble_eq_true rfl
  | exact Same.at1 (by assumption) (by assumption)
  | exact SqL.of (Same.at1 (by assumption) (by assumption)) | exact SqT.of (Same.at1 (by assumption) (by assumption)) | exact Or.inl (SqL.of (Same.at1 (by assumption) (by assumption))) | exact Or.inr (SqT.of (Same.at1 (by assumption) (by assumption)))
  | exact ⟨_, by assumption⟩ | exact ⟨_, rfl⟩ | trivial
  | exact dput_i (by assumption) (by assumption) | exact dput_s (by assumption) (by assumption) | exact kV_i | exact kV_s | exact isD_k (by assumption)
  | exact upd_same)
local macro_rules | `(tactic| get_elem_tactic_extensible) => `(tactic| repeat (first
  | refine And.intro (by decreasing_trivial_pre_omega) ?_
  | apply Exists.intro (α := V) | apply Exists.intro (α := Addr) | apply Exists.intro (α := List V) | apply Exists.intro (α := Int) | apply Exists.intro (α := Bool)
  | apply Exists.intro (α := List (Str × V)) | apply Exists.intro (α := Str) | apply Exists.intro (α := List (Key × V)) | apply Exists.intro (α := Option V)
  | apply Exists.intro (α := List Int) | apply Exists.intro (α := List Bool) | apply Exists.intro (α := List Str) | apply Exists.intro (α := Obj) | apply Exists.intro (α := List En) | apply Exists.intro (α := HAd) | apply Exists.intro (α := Vbdbam.State) | apply Exists.intro (α := Vbdbam.Rules) | apply Exists.intro (α := Hp) | apply Exists.intro (α := Key) | apply Exists.intro (α := Nat) | apply Exists.intro (α := Wd) | apply Exists.intro (α := Wd → List Int) | apply Exists.intro (α := Nat → Int) | apply Exists.intro (α := List Nat) | apply Exists.intro (α := List (List Nat)) | apply Exists.intro (α := List (List (List Nat)))))
local macro_rules | `(tactic| decreasing_trivial) => `(tactic| (intro vs H Q E h; repeat (first | (obtain ⟨e, _⟩ := h; subst e; rfl) | (obtain ⟨_, h⟩ := h))))

open Vbdbam (State start newRules)
theorem RlsN.extI {K : PySem.W.Frag} {A : Ad} {H H' : Hp} {L ru td C dx : Addr} {N : Wd → List Int} {fs : List (Str × V)} (h : RlsN K A H ru td N) (hL : H L = some (.ins C dx fs)) (n : ru ≠ L) (e : Ext L H H') : RlsN K A H' ru td N := by
  obtain ⟨dr, p, h1, h2, h3⟩ := h
  refine ⟨dr, p, e _ _ h1 n, e _ _ h2 (ne_of h2 hL (by intro c; cases c)), fun w => ?_⟩
  rcases h3 w with (q | ⟨od, q⟩) | q
  · exact .inl (.inl (e _ _ q (ne_of q hL (by intro c; cases c))))
  · exact .inl (.inr ⟨od, e _ _ q (ne_of q hL (by intro c; cases c))⟩)
  · exact .inr q
theorem putF_len {f : Str} {v : V} : ∀ {fs : List (Str × V)}, (putF f v fs).length ≤ fs.length + 1
  | [] => Nat.le_refl _
  | (g, x) :: fs => by
    have ih := putF_len (f := f) (v := v) (fs := fs)
    unfold putF
    split
    · rw [List.length_cons, List.length_cons]; omega
    · rw [List.length_cons, List.length_cons]; omega
/-- fields to which begin writes -/
def Begins (fs : List (Str × V)) : Prop := ∀ (ru sd od lg : Addr), putF "ledger" (.ref lg) (putF "closed" (.bl false) (putF "day" (.int 0) (putF "made" (.int 0) (putF "offers" (.ref od) (putF "schools" (.ref sd) (putF "rules" (.ref ru) fs)))))) = hFi ru sd od 0 0 false lg
theorem begins_nil : Begins [] := fun _ _ _ _ => by rfl
theorem begins_all {ru sd od lg : Addr} {m d : Int} {c : Bool} : Begins (hFi ru sd od m d c lg) := fun _ _ _ _ => by rfl
def sp_House_begin (K : PySem.W.Frag) (A : Ad) : Sp := fun vs H Q _ => ∃ (h dx : Addr) (fs : List (Str × V)), vs = [.ref h] ∧ H h = some (.ins A.cHouse dx fs) ∧ fs.length ≤ 100 ∧ Begins fs ∧ ∀ H' a', At K A H' h a' start → Ext h H H' → H a'.le = none → Q .non H'
theorem ok_House_begin {P : Program} {w : World} {K : PySem.W.Frag} {mg : Str → Option Value} {base : Heap} {A : Ad} (T : Txt w K mg A) : C8.Met P w K mg base 4 A.cHouse "begin" (sp_House_begin K A) [] := by
  refine metOf T.cl_House T.d_House_begin sc_House_begin (by decreasing_trivial) (fun cdv Ar outer s0 H vs Q E hr hsp => ⟨_, (pss_cons (ps_stop (ps_fld (pv 0) (C8.pe_c (ok_rules_of T) hr (by decide) rfl (pa_cons (pe_lst pa_nil) pa_nil)) rfl))
 (pss_cons (ps_stop (ps_fld (pv 0) pe_dnewK rfl))
 (pss_cons (ps_stop (ps_fld (pv 0) pe_dnewK rfl))
 (pss_cons (ps_stop (ps_fld (pv 0) pe_int rfl))
 (pss_cons (ps_stop (ps_fld (pv 0) pe_int rfl))
 (pss_cons (ps_stop (ps_fld (pv 0) pe_bl rfl))
 (pss_one (ps_stop (ps_fld (pv 0) (pe_mk0 (ok_Ledger_init T) hr (by decide) rfl) rfl))))))))), ?_⟩)
  obtain ⟨h, dx, fs, rfl, h1, len, bg, q⟩ := hsp
  refine Stop.go ?_
  get_elem_tactic_extensible
  intro t0 ht0
  have s1 := Same.new (o := .lst []) ht0
  have g1 : SqL K (upd H t0 (.lst [])) t0 [] := SqL.of upd_same
  generalize upd H t0 (.lst []) = H1 at s1 g1
  have h1 := s1 _ _ h1
  have f1 : LnL H1 [] [] := .nil
  have f2 : ([] : List (List (List Nat))).length ≤ 100000 := Nat.zero_le _
  have f3 : ∀ l, l ∈ ([] : List (List (List Nat))) → LnOk l := fun l hl => by cases hl
  have f4 : Tells [] := fun _ _ hl => by cases hl
  get_elem_tactic_extensible
  intro ru td H2 s2 hru htd rl
  have h1 := s2 _ _ h1
  have rl : RlsN K A H2 ru td (nums newRules) := rl
  have nru : ru ≠ h := (Same.ne (s1 _ _ (by assumption)) hru).symm
  have l0 : fs.length < 1000 := by omega
  have s02 := s1.trans s2
  have hru0 := s1.free hru
  have htd0 := s1.free htd
  clear s1 s2 f1 f2 f3 f4 g1
  get_elem_tactic_extensible
  have x3 : Ext h H2 (upd H2 h (.ins A.cHouse dx (putF "rules" (.ref ru) fs))) := .upd
  have h3 : upd H2 h (.ins A.cHouse dx (putF "rules" (.ref ru) fs)) h = some (.ins A.cHouse dx (putF "rules" (.ref ru) fs)) := upd_same
  have l1 := putF_len (f := "rules") (v := .ref ru) (fs := fs)
  have bg := bg ru
  generalize putF "rules" (.ref ru) fs = fs1 at x3 h3 bg l1
  generalize upd H2 h (.ins A.cHouse dx fs1) = H3 at x3 h3
  have l1' : fs1.length < 1000 := by omega
  have e3 := x3
  refine Stop.go ?_
  get_elem_tactic_extensible
  intro sd hsd
  have s4 := Same.new (o := .dK []) hsd
  have g4 : upd H3 sd (.dK []) sd = some (.dK []) := upd_same
  generalize upd H3 sd (.dK []) = H4 at s4 g4
  have h4 := s4 _ _ h3
  have e4 := e3.trans (Ext.same s4)
  get_elem_tactic_extensible
  have x5 : Ext h H4 (upd H4 h (.ins A.cHouse dx (putF "schools" (.ref sd) fs1))) := .upd
  have h5 : upd H4 h (.ins A.cHouse dx (putF "schools" (.ref sd) fs1)) h = some (.ins A.cHouse dx (putF "schools" (.ref sd) fs1)) := upd_same
  have l2 := putF_len (f := "schools") (v := .ref sd) (fs := fs1)
  have bg := bg sd
  generalize putF "schools" (.ref sd) fs1 = fs2 at x5 h5 bg l2
  generalize upd H4 h (.ins A.cHouse dx fs2) = H5 at x5 h5
  have l2' : fs2.length < 1000 := by omega
  have e5 := e4.trans x5
  have nsd : sd ≠ h := (Same.ne h3 hsd).symm
  have g5 := x5 _ _ g4 nsd
  refine Stop.go ?_
  get_elem_tactic_extensible
  intro od hod
  have s6 := Same.new (o := .dK []) hod
  have g6 : upd H5 od (.dK []) od = some (.dK []) := upd_same
  generalize upd H5 od (.dK []) = H6 at s6 g6
  have h6 := s6 _ _ h5
  have nso : sd ≠ od := Same.ne g5 hod
  have g5 := s6 _ _ g5
  have e6 := e5.trans (Ext.same s6)
  get_elem_tactic_extensible
  have x7 : Ext h H6 (upd H6 h (.ins A.cHouse dx (putF "offers" (.ref od) fs2))) := .upd
  have h7 : upd H6 h (.ins A.cHouse dx (putF "offers" (.ref od) fs2)) h = some (.ins A.cHouse dx (putF "offers" (.ref od) fs2)) := upd_same
  have l3 := putF_len (f := "offers") (v := .ref od) (fs := fs2)
  have bg := bg od
  generalize putF "offers" (.ref od) fs2 = fs3 at x7 h7 bg l3
  generalize upd H6 h (.ins A.cHouse dx fs3) = H7 at x7 h7
  have l3' : fs3.length < 1000 := by omega
  have e7 := e6.trans x7
  have nod : od ≠ h := (Same.ne h5 hod).symm
  have g5 := x7 _ _ g5 nsd
  have g6 := x7 _ _ g6 nod
  refine Stop.go ?_
  get_elem_tactic_extensible
  have x8 : Ext h H7 (upd H7 h (.ins A.cHouse dx (putF "made" (.int 0) fs3))) := .upd
  have h8 : upd H7 h (.ins A.cHouse dx (putF "made" (.int 0) fs3)) h = some (.ins A.cHouse dx (putF "made" (.int 0) fs3)) := upd_same
  have l4 := putF_len (f := "made") (v := .int 0) (fs := fs3)
  generalize putF "made" (.int 0) fs3 = fs4 at x8 h8 bg l4
  generalize upd H7 h (.ins A.cHouse dx fs4) = H8 at x8 h8
  have l4' : fs4.length < 1000 := by omega
  have e8 := e7.trans x8
  have g5 := x8 _ _ g5 nsd
  have g6 := x8 _ _ g6 nod
  refine Stop.go ?_
  get_elem_tactic_extensible
  have x9 : Ext h H8 (upd H8 h (.ins A.cHouse dx (putF "day" (.int 0) fs4))) := .upd
  have h9 : upd H8 h (.ins A.cHouse dx (putF "day" (.int 0) fs4)) h = some (.ins A.cHouse dx (putF "day" (.int 0) fs4)) := upd_same
  have l5 := putF_len (f := "day") (v := .int 0) (fs := fs4)
  generalize putF "day" (.int 0) fs4 = fs5 at x9 h9 bg l5
  generalize upd H8 h (.ins A.cHouse dx fs5) = H9 at x9 h9
  have l5' : fs5.length < 1000 := by omega
  have e9 := e8.trans x9
  have g5 := x9 _ _ g5 nsd
  have g6 := x9 _ _ g6 nod
  refine Stop.go ?_
  get_elem_tactic_extensible
  have xa : Ext h H9 (upd H9 h (.ins A.cHouse dx (putF "closed" (.bl false) fs5))) := .upd
  have ha : upd H9 h (.ins A.cHouse dx (putF "closed" (.bl false) fs5)) h = some (.ins A.cHouse dx (putF "closed" (.bl false) fs5)) := upd_same
  have l6 := putF_len (f := "closed") (v := .bl false) (fs := fs5)
  generalize putF "closed" (.bl false) fs5 = fs6 at xa ha bg l6
  generalize upd H9 h (.ins A.cHouse dx fs6) = Ha at xa ha
  have l6' : fs6.length < 1000 := by omega
  have ea := e9.trans xa
  have g5 := xa _ _ g5 nsd
  have g6 := xa _ _ g6 nod
  refine Stop.go ?_
  get_elem_tactic_extensible
  intro x dl hx hdl hne
  refine ⟨x, dl, rfl, upd_same, fun le Hb hle c1 c2 c3 => ⟨rfl, ?_⟩⟩
  have sb : Same Ha Hb := fun b o hb => by
    have n1 : b ≠ x := Same.ne hb hx
    have n2 : b ≠ dl := Same.ne hb hdl
    have hb2 : upd (upd Ha dl (.own x)) x (.ins A.cLedger dl []) b = some o := by rw [upd_ne n1, upd_ne n2]; exact hb
    rw [c1 b n1 (Same.ne hb2 hle)]
    exact hb2
  have nle : Ha le = none := by
    cases q : Ha le with
    | none => rfl
    | some o =>
      have n1 : le ≠ x := Same.ne q hx
      have n2 : le ≠ dl := Same.ne q hdl
      rw [upd_ne n1, upd_ne n2, q] at hle
      cases hle
  have eb := ea.trans (Ext.same sb)
  have hb := sb _ _ ha
  have g5 := sb _ _ g5
  have g6 := sb _ _ g6
  get_elem_tactic_extensible
  rw [bg x]
  have xc : Ext h Hb (upd Hb h (.ins A.cHouse dx (hFi ru sd od 0 0 false x))) := .upd
  have hc : upd Hb h (.ins A.cHouse dx (hFi ru sd od 0 0 false x)) h = some (.ins A.cHouse dx (hFi ru sd od 0 0 false x)) := upd_same
  generalize upd Hb h (.ins A.cHouse dx (hFi ru sd od 0 0 false x)) = Hc at xc hc
  have ec := eb.trans xc
  obtain ⟨kvt, htd2⟩ := rl.td
  have ntd : td ≠ h := ne_of htd2 h1 (by intro c; cases c)
  refine q Hc ⟨ru, td, sd, od, x, le, fun _ => h, fun _ => h⟩ ?_ (fun b o hb n => ec _ _ (s02 _ _ hb) n) ?_
  · exact {
      hs := ⟨dx, hc⟩
      ru := rl.extI h1 nru ec
      sd := xc _ _ g5 nsd
      sc := fun i hi => absurd hi (Nat.not_lt_zero i)
      od := xc _ _ g6 nod
      of := fun o ho => by cases ho
      lg := ⟨dl, xc _ _ c3 (Same.ne ha hx).symm⟩
      le := ⟨[], xc _ _ c2 (by
        have := Same.ne ha nle
        exact this.symm), .nil⟩
      inj := fun i j hi => absurd hi (Nat.not_lt_zero i)
      d1 := nso
      d2 := Same.ne (e3 _ _ htd2 ntd) hsd
      d3 := Same.ne (e5 _ _ htd2 ntd) hod }
  · show H le = none
    cases q2 : H le with
    | none => rfl
    | some o =>
      by_cases c : le = h
      · subst c
        rw [ha] at nle
        cases nle
      · rw [ea _ _ (s02 _ _ q2) c] at nle
        cases nle
def sp_House_init (K : PySem.W.Frag) (A : Ad) : Sp := fun vs H Q _ => ∃ (h dx : Addr), vs = [.ref h] ∧ H h = some (.ins A.cHouse dx []) ∧ ∀ H' a', At K A H' h a' start → Ext h H H' → H a'.le = none → Q .non H'
theorem ok_House_init {P : Program} {w : World} {K : PySem.W.Frag} {mg : Str → Option Value} {base : Heap} {A : Ad} (T : Txt w K mg A) : C8.Mak P w K mg base 5 "House" A.cHouse (sp_House_init K A) [] := by
  refine makOf T.d_House_init sc_House_init (by decreasing_trivial) (fun cdv Ar outer s0 H vs Q E hr hsp => ⟨_, (pss_one (ps_stop (ps_expr (C8.pe_mt0 (ok_House_begin T) hr (by decide) (pv 0))))), ?_⟩)
  obtain ⟨h, dx, rfl, h1, q⟩ := hsp
  have bn := begins_nil
  have l0 : ([] : List (Str × V)).length ≤ 100 := Nat.zero_le _
  refine Stop.go ?_
  get_elem_tactic_extensible
  exact q
def sp_clear (K : PySem.W.Frag) (A : Ad) : Sp := fun vs H Q _ => ∃ (h : Addr) (a : HAd) (s : State), vs = [.ref h] ∧ At K A H h a s ∧ Gd s ∧ Done K A H h a (Vbdbam.step s .clear) Q
theorem ok_clear {P : Program} {w : World} {K : PySem.W.Frag} {mg : Str → Option Value} {base : Heap} {A : Ad} (T : Txt w K mg A) : C8.Cal P w K mg base 5 "clear" (sp_clear K A) [] := by
  refine calOf T.d_clear sc_clear (by decreasing_trivial) (fun cdv Ar outer s0 H vs Q E hr hsp => ⟨_, (pss_cons (ps_stop (ps_expr (C8.pe_mt0 (ok_House_begin T) hr (by decide) (pv 0))))
 (pss_one (ps_stop (ps_ret (pe_lst (pa_cons pe_int pa_nil)))))), ?_⟩)
  obtain ⟨h, a, s, rfl, p, gd, q⟩ := hsp
  obtain ⟨dh, h1⟩ := p.hs
  have bn := begins_all (ru := a.ru) (sd := a.sd) (od := a.od) (lg := a.lg) (m := (s.next : Nat)) (d := (s.day : Nat)) (c := s.closed)
  have l0 : (hFi a.ru a.sd a.od (s.next : Nat) (s.day : Nat) s.closed a.lg).length ≤ 100 := show 7 ≤ 100 by decide
  refine Stop.go ?_
  get_elem_tactic_extensible
  intro H1 a1 p1 e1 n1
  (refine Stop.go ?_; get_elem_tactic_extensible)
  intro t ht
  have s2 := Same.new (o := .lst [.int 0]) ht
  have f1 : Frm a.le H H1 := fun b o hb st _ => e1 b o hb (fun c => by
    subst c
    rw [h1] at hb
    cases hb
    cases st)
  exact q.h _ a1 t (p1.same s2) (f1.trans (.of_same s2)) (.inr n1) (fun b o hb st nl => Same.ne (f1 b o hb st nl) ht) upd_same
end EH

/-! ## EHZ0 -/
namespace EH
open PySem EHR
open Vbdbam (State Ans setSchool schoolAt idAt placeOf load offersTo used)
/-! ### every call keeps what is true of the states -/
theorem Gd.start : Gd Vbdbam.start := ⟨by decide, by decide, fun i hi => absurd hi (Nat.not_lt_zero i), fun i hi => absurd hi (Nat.not_lt_zero i), by decide, by decide, fun o h => (by cases h), fun o h => (by cases h), by decide, fun o h => (by cases h), fun o h => (by cases h), new_gd⟩
theorem Gd.money {s : State} (g : Gd s) {l : List Vbdbam.Entry} (hl : (s.money ++ l).length ≤ 400) (hs : ∀ e, e ∈ l → e.school < s.schools.length) (hk : ∀ e, e ∈ l → e.kind ≤ 4) : Gd { s with money := s.money ++ l } where
  n := g.n
  nd := g.nd
  wb := g.wb
  ld := g.ld
  us := g.us
  od := g.od
  on := g.on
  os := g.os
  mm := hl
  ms e he := (List.mem_append.mp he).elim (g.ms e) (hs e)
  kd e he := (List.mem_append.mp he).elim (g.kd e) (hk e)
  ru := g.ru
/-- a school is written: places had and wanted -/
theorem Gd.setS {s : State} (g : Gd s) {i : Nat} {f : Vbdbam.School → Vbdbam.School} (hid : ∀ x, (f x).id = x.id) (hi : i < s.schools.length) (hw : (f (schoolAt s i)).wanted ≤ 20) (hl : (f (schoolAt s i)).has_ + offersTo s i ≤ (f (schoolAt s i)).wanted)
    (hu : Vbdbam.total ((setSchool s i f).map fun x => x.has_) + s.offers.length ≤ s.rules.places) : Gd { s with schools := setSchool s i f } where
  n := by show (setSchool s i f).length ≤ 30; rw [setSchool_len]; exact g.n
  nd := by show ((setSchool s i f).map fun x => x.id).Nodup; rw [ids_set hid]; exact g.nd
  wb j hj := by
    have hj : j < s.schools.length := by rw [← setSchool_len (s := s) (i := i) (f := f)]; exact hj
    rw [schoolAt_set hj]
    by_cases c : j = i
    · subst c; rw [if_pos rfl]; exact hw
    · rw [if_neg c]; exact g.wb j hj
  ld j hj := by
    have hj : j < s.schools.length := by rw [← setSchool_len (s := s) (i := i) (f := f)]; exact hj
    have eo : offersTo { s with schools := setSchool s i f } j = offersTo s j := rfl
    unfold Vbdbam.load
    rw [schoolAt_set hj, eo]
    by_cases c : j = i
    · subst c; rw [if_pos rfl]; exact hl
    · rw [if_neg c]; exact g.ld j hj
  us := hu
  od := g.od
  on := g.on
  os o ho := by show o.school < (setSchool s i f).length; rw [setSchool_len]; exact g.os o ho
  mm := g.mm
  ms e he := by show e.school < (setSchool s i f).length; rw [setSchool_len]; exact g.ms e he
  kd := g.kd
  ru := g.ru
theorem has_total {s : State} {i : Nat} (hi : i < s.schools.length) (f : Vbdbam.School → Vbdbam.School) : Vbdbam.total ((setSchool s i f).map fun x => x.has_) + (schoolAt s i).has_ = Vbdbam.total (s.schools.map fun x => x.has_) + (f (schoolAt s i)).has_ := by
  rw [total_eq, total_eq, schools_map]
  unfold setSchool
  rw [List.map_map]
  obtain ⟨r, hr⟩ := range_split hi
  have nd : (List.range s.schools.length).Nodup := List.nodup_range
  rw [hr] at nd ⊢
  obtain ⟨_, n2, n3⟩ := List.nodup_append.mp nd
  obtain ⟨n4, _⟩ := List.nodup_cons.mp n2
  have e1 : ((List.range i).map ((fun x => x.has_) ∘ fun j => if j = i then f (schoolAt s j) else schoolAt s j)) = (List.range i).map fun j => (schoolAt s j).has_ := List.map_congr_left fun j hj => by
    have := List.mem_range.mp hj
    show (if j = i then f (schoolAt s j) else schoolAt s j).has_ = _
    rw [if_neg (by omega)]
  have e2 : (r.map ((fun x => x.has_) ∘ fun j => if j = i then f (schoolAt s j) else schoolAt s j)) = r.map fun j => (schoolAt s j).has_ := List.map_congr_left fun j hj => by
    show (if j = i then f (schoolAt s j) else schoolAt s j).has_ = _
    rw [if_neg (fun e : j = i => n4 (by rw [← e]; exact hj))]
  rw [List.map_append, List.map_append, List.map_cons, List.map_cons, List.sum_append, List.sum_append, List.sum_cons, List.sum_cons, e1, e2]
  show _ + ((if i = i then f (schoolAt s i) else schoolAt s i).has_ + _) + _ = _
  rw [if_pos rfl]
  omega
theorem filt_one : ∀ {l : List Vbdbam.Offer} {o : Vbdbam.Offer}, o ∈ l → (l.map fun x => x.number).Nodup → (l.filter fun x => x.number != o.number).length + 1 = l.length
  | x :: l, o, h, nd => by
    obtain ⟨n1, n2⟩ := List.nodup_cons.mp nd
    rcases List.mem_cons.mp h with c | c
    · subst c
      have e : l.filter (fun x => x.number != o.number) = l := by
        refine List.filter_eq_self.mpr fun y hy => ?_
        have : y.number ≠ o.number := fun c => n1 (List.mem_map.mpr ⟨y, hy, c⟩)
        simpa using this
      rw [List.filter_cons, if_neg (by simp), e, List.length_cons]
    · have ne : x.number ≠ o.number := fun e => n1 (List.mem_map.mpr ⟨o, c, e.symm⟩)
      have ih := filt_one c n2
      rw [List.filter_cons, if_pos (by simpa using ne), List.length_cons, List.length_cons]
      omega
theorem Gd.ended {s : State} (g : Gd s) {o : Vbdbam.Offer} (h : o ∈ s.offers) : Gd (endOffer s o) where
  n := g.n
  nd := g.nd
  wb := g.wb
  ld i hi := by
    have h1 := g.ld i hi
    have h2 : offersTo s i = offersTo (endOffer s o) i + if o.school = i then 1 else 0 := offersTo_end h g.od
    have e : schoolAt (endOffer s o) i = schoolAt s i := rfl
    unfold Vbdbam.load at *
    rw [e]
    omega
  us := by
    have h1 := g.us
    have h2 := List.length_filter_le (fun x => x.number != o.number) s.offers
    unfold Vbdbam.used at *
    show Vbdbam.total (s.schools.map fun x => x.has_) + (s.offers.filter fun x => x.number != o.number).length ≤ s.rules.places
    omega
  od := (List.filter_sublist.map fun (x : Vbdbam.Offer) => x.number).nodup g.od
  on x hx := g.on x (List.mem_filter.mp hx).1
  os x hx := g.os x (List.mem_filter.mp hx).1
  mm := g.mm
  ms := g.ms
  kd := g.kd
  ru := g.ru
theorem Gd.taken {s : State} (g : Gd s) {i : Nat} (hi : i < s.schools.length) (hl : Vbdbam.load s i < (schoolAt s i).wanted) (hu : used s < s.rules.places) (hm : s.money.length < 400) : Gd (takePlace s i) := by
  have g1 : Gd { s with schools := setSchool s i fun y => { y with has_ := y.has_ + 1 } } := by
    refine g.setS (fun _ => rfl) hi (g.wb i hi) ?_ ?_
    · unfold Vbdbam.load at hl
      show (schoolAt s i).has_ + 1 + _ ≤ (schoolAt s i).wanted
      omega
    · have : _ = _ + ((schoolAt s i).has_ + 1) := has_total hi (fun y => { y with has_ := y.has_ + 1 })
      unfold Vbdbam.used at hu
      omega
  refine g1.money (l := [⟨i, 1, s.rules.fee⟩]) ?_ (fun e he => ?_) (fun e he => ?_)
  · show (s.money ++ _).length ≤ 400
    rw [List.length_append]
    simp
    omega
  · rw [List.mem_singleton.mp he]
    exact Nat.lt_of_lt_of_eq hi (take_len (s := s) (i := i)).symm
  · rw [List.mem_singleton.mp he]
    show 1 ≤ 4
    decide
theorem Gd.given {s : State} (g : Gd s) {i n a : Nat} (hi : i < s.schools.length) (hn : n ≤ (schoolAt s i).has_) (hm : s.money.length < 400) : Gd (givePlaces s i n a) := by
  have g1 : Gd { s with schools := setSchool s i fun y => { y with has_ := y.has_ - n, wanted := y.wanted - n } } := by
    have h1 := g.ld i hi
    have h2 := g.wb i hi
    refine g.setS (fun _ => rfl) hi ?_ ?_ ?_
    · show (schoolAt s i).wanted - n ≤ 20
      omega
    · unfold Vbdbam.load at h1
      show (schoolAt s i).has_ - n + _ ≤ (schoolAt s i).wanted - n
      omega
    · have : _ = _ + ((schoolAt s i).has_ - n) := has_total hi (fun y => { y with has_ := y.has_ - n, wanted := y.wanted - n })
      have hu := g.us
      unfold Vbdbam.used at hu
      omega
  refine g1.money (l := [⟨i, 2, a⟩]) ?_ (fun e he => ?_) (fun e he => ?_)
  · show (s.money ++ _).length ≤ 400
    rw [List.length_append]
    simp
    omega
  · rw [List.mem_singleton.mp he]
    exact Nat.lt_of_lt_of_eq hi (give_len (s := s) (i := i) (n := n) (g := a)).symm
  · rw [List.mem_singleton.mp he]
    show 2 ≤ 4
    decide
theorem place_none_id {s : State} {x : Int} (h : placeOf s x = none) : ∀ i, i < s.schools.length → (idAt s i : Int) ≠ x := fun i hi c => by
  have h1 := List.findIdx?_eq_none_iff.mp h
  have h2 := h1 _ (List.getElem_mem hi)
  rw [schoolAt_eq hi] at h2
  simp only [beq_eq_false_iff_ne] at h2
  exact h2 c
theorem Gd.add {s : State} (g : Gd s) {x : Vbdbam.School} (hn : s.schools.length < 30) (hid : ∀ i, i < s.schools.length → idAt s i ≠ x.id) (hw : x.wanted ≤ 20) (h0 : x.has_ = 0) : Gd (addS s x) where
  n := by rw [add_len]; omega
  nd := by
    show ((s.schools ++ [x]).map fun x => x.id).Nodup
    rw [List.map_append]
    refine nd_snoc' g.nd fun m => ?_
    obtain ⟨y, hy, e⟩ := List.mem_map.mp m
    obtain ⟨j, hj, e2⟩ := List.getElem_of_mem hy
    refine hid j hj ?_
    unfold idAt
    rw [← schoolAt_eq hj, e2, e]
  wb i hi := by
    rw [add_len] at hi
    by_cases c : i = s.schools.length
    · subst c; rw [add_new]; exact hw
    · rw [add_at (by omega)]; exact g.wb i (by omega)
  ld i hi := by
    rw [add_len] at hi
    have eo : offersTo (addS s x) i = offersTo s i := rfl
    unfold Vbdbam.load
    rw [eo]
    by_cases c : i = s.schools.length
    · subst c; rw [add_new, h0, offersTo_none g.os]; exact Nat.zero_le _
    · rw [add_at (by omega)]; exact g.ld i (by omega)
  us := by
    have := g.us
    unfold Vbdbam.used at *
    show Vbdbam.total ((s.schools ++ [x]).map fun x => x.has_) + s.offers.length ≤ s.rules.places
    rw [total_eq] at *
    rw [List.map_append, List.sum_append]
    simp [h0]
    omega
  od := g.od
  on := g.on
  os o ho := by rw [add_len]; exact Nat.lt_succ_of_lt (g.os o ho)
  mm := g.mm
  ms e he := by rw [add_len]; exact Nat.lt_succ_of_lt (g.ms e he)
  kd := g.kd
  ru := g.ru
theorem Gd.shut {s : State} (g : Gd s) (hm : s.money.length + s.schools.length ≤ 400) : Gd (shutS s) where
  n := g.n
  nd := g.nd
  wb := g.wb
  ld i hi := by
    have h := g.ld i hi
    have e : offersTo (shutS s) i = 0 := rfl
    have e2 : schoolAt (shutS s) i = schoolAt s i := rfl
    unfold Vbdbam.load at *
    rw [e, e2]
    omega
  us := by
    have := g.us
    unfold Vbdbam.used at *
    show Vbdbam.total (s.schools.map fun x => x.has_) + 0 ≤ s.rules.places
    omega
  od := by show ([] : List Nat).Nodup; exact List.nodup_nil
  on o ho := by cases ho
  os o ho := by cases ho
  mm := by
    show (s.money ++ Vbdbam.finesOf s).length ≤ 400
    have : (Vbdbam.finesOf s).length ≤ s.schools.length := fineOf_len (s := s) (i := s.schools.length)
    rw [List.length_append]
    omega
  ms e he := by
    rcases List.mem_append.mp he with c | c
    · exact g.ms e c
    · obtain ⟨i, hi, rfl⟩ := List.mem_map.mp c
      exact List.mem_range.mp (List.mem_filter.mp hi).1
  kd e he := by
    rcases List.mem_append.mp he with c | c
    · exact g.kd e c
    · obtain ⟨i, hi, rfl⟩ := List.mem_map.mp c
      show 3 ≤ 4
      decide
  ru := g.ru
theorem inside_iff {z : Int} {lo hi : Nat} (h : ¬ Vbdbam.inside z lo hi = false) : (lo : Int) ≤ z ∧ z ≤ (hi : Int) := by
  rw [Bool.not_eq_false] at h
  unfold Vbdbam.inside at h
  rw [Bool.and_eq_true, decide_eq_true_eq, decide_eq_true_eq] at h
  exact h
end EH

/-! ## EHZ1 -/
namespace EH
open PySem EHR
open Vbdbam (State Ans setSchool schoolAt idAt placeOf offersTo used)
theorem gd_school {s : State} (g : Gd s) {x : Int} {f : Nat → Vbdbam.School → State × Ans} (h : ∀ i, i < s.schools.length → (idAt s i : Int) = x → placeOf s x = some i → Gd (f i (schoolAt s i)).1) : Gd (Vbdbam.onSchool s x f).1 := by
  unfold Vbdbam.onSchool
  cases e : placeOf s x with
  | none => exact g
  | some i => exact h i (place_some e).1 (place_some e).2 e
theorem gd_offer {s : State} (g : Gd s) {x : Int} {f : Vbdbam.Offer → State × Ans} (h : ∀ o, o ∈ s.offers → Gd (f o).1) : Gd (Vbdbam.onOffer s x f).1 := by
  unfold Vbdbam.onOffer
  cases e : s.offers.find? fun y => (y.number : Int) == x with
  | none => exact g
  | some o => exact h o (List.mem_of_find?_eq_some e)
theorem gd_open {s : State} (g : Gd s) {x : State × Ans} (h : Gd x.1) : Gd (Vbdbam.unlessClosed s x).1 := by
  unfold Vbdbam.unlessClosed
  split
  · exact g
  · exact h
theorem gd_if {c : Prop} [Decidable c] {a b : State × Ans} (h1 : c → Gd a.1) (h2 : ¬ c → Gd b.1) : Gd (if c then a else b).1 := by
  by_cases h : c
  · rw [if_pos h]; exact h1 h
  · rw [if_neg h]; exact h2 h
theorem Gd.step {s : State} (g : Gd s) : ∀ c : Vbdbam.Call, Gd (Vbdbam.step s c).1
  | .clear => Gd.start
  | .rules t => by
    refine gd_if (fun _ => g) fun _ => gd_if (fun _ => g) fun h => ?_
    have hs : s.schools = [] := by
      cases e : s.schools with
      | nil => rfl
      | cons x l => exact absurd (.inl (by rw [e]; intro c; cases c)) h
    have ho : s.offers = [] := by
      cases e : s.offers with
      | nil => rfl
      | cons o l =>
        have := g.os o (by rw [e]; exact List.mem_cons.mpr (.inl rfl))
        rw [hs] at this
        exact absurd this (Nat.not_lt_zero _)
    cases e : Vbdbam.rulesOf (Vbdbam.nats t) with
    | error e => exact g
    | ok r =>
      have gr := ((rules_main (Vbdbam.nats t)).2 r e).2.2.2
      exact ⟨g.n, g.nd, g.wb, g.ld, by
        unfold Vbdbam.used
        show Vbdbam.total (s.schools.map fun x => x.has_) + s.offers.length ≤ r.places
        rw [hs, ho]
        exact Nat.zero_le _, g.od, g.on, g.os, g.mm, g.ms, g.kd, gr⟩
  | .show_ => g
  | .enter x w j => by
    refine gd_if (fun _ => g) fun h => gd_open g (gd_if (fun _ => g) fun h2 => gd_if (fun _ => g) fun h3 => ?_)
    have hin : Vbdbam.inside x 1 999 = true ∧ Vbdbam.inside w 1 20 = true := by
      rw [Bool.not_eq_false, Bool.and_eq_true, Bool.and_eq_true] at h
      exact ⟨h.1, h.2.1⟩
    have i1 := inside_iff (by rw [hin.1]; decide)
    have i2 := inside_iff (by rw [hin.2]; decide)
    have hp : placeOf s x = none := by
      cases e : placeOf s x with
      | none => rfl
      | some i => rw [e] at h2; exact absurd rfl h2
    refine g.add (x := ⟨x.toNat, w.toNat, 0, j.toNat⟩) (by unfold Vbdbam.MOSTSCHOOLS at h3; omega) (fun i hi c => place_none_id hp i hi ?_) ?_ rfl
    · have c : idAt s i = x.toNat := c
      omega
    · show w.toNat ≤ 20
      omega
  | .want x n => gd_school g fun i hi _ _ => by
    refine gd_if (fun _ => g) fun h => gd_open g (gd_if (fun _ => g) fun h2 => ?_)
    have i1 := inside_iff h
    refine g.setS (f := fun y => { y with wanted := n.toNat }) (fun _ => rfl) hi ?_ ?_ ?_
    · show n.toNat ≤ 20
      omega
    · show (schoolAt s i).has_ + offersTo s i ≤ n.toNat
      unfold Vbdbam.load at h2
      omega
    · have : _ = _ + (schoolAt s i).has_ := has_total hi (fun y => { y with wanted := n.toNat })
      have hu := g.us
      unfold Vbdbam.used at hu
      omega
  | .bring x n => gd_school g fun i hi _ _ => by
    refine gd_if (fun _ => g) fun h => gd_open g ?_
    refine g.setS (f := fun y => { y with judges := n.toNat }) (fun _ => rfl) hi (g.wb i hi) (g.ld i hi) ?_
    have : _ = _ + (schoolAt s i).has_ := has_total hi (fun y => { y with judges := n.toNat })
    have hu := g.us
    unfold Vbdbam.used at hu
    omega
  | .accept x => gd_offer g fun o ho => gd_open g (gd_if (fun _ => g) fun h => by
      have g1 := g.ended ho
      have h2 : offersTo s o.school = offersTo (endOffer s o) o.school + if o.school = o.school then 1 else 0 := offersTo_end ho g.od
      have h3 := g.ld o.school (g.os o ho)
      have h4 := filt_one ho g.od
      have hu := g.us
      refine g1.taken (i := o.school) (g.os o ho) ?_ ?_ (by unfold Vbdbam.MOSTMONEY at h; exact Nat.lt_of_not_le h)
      · unfold Vbdbam.load at *
        show (schoolAt s o.school).has_ + offersTo (endOffer s o) o.school < (schoolAt s o.school).wanted
        rw [if_pos rfl] at h2
        omega
      · unfold Vbdbam.used at *
        show Vbdbam.total (s.schools.map fun x => x.has_) + (s.offers.filter fun x => x.number != o.number).length < s.rules.places
        omega)
  | .decline x => gd_offer g fun o ho => gd_open g (g.gone ho)
  | .drop x n => gd_school g fun i hi _ _ => gd_if (fun _ => g) fun h => gd_open g (gd_if (fun _ => g) fun h2 => gd_if (fun _ => g) fun h3 => by
      have i1 := inside_iff h
      exact g.given hi (by omega) (by unfold Vbdbam.MOSTMONEY at h3; omega))
  | .transfer a b => gd_school g fun i hi _ _ => gd_school g fun j hj _ _ => gd_if (fun _ => g) fun hij => gd_open g (gd_if (fun _ => g) fun h1 => gd_if (fun _ => g) fun h2 => gd_if (fun _ => g) fun h3 => by
      have h1 : ¬ (schoolAt s i).has_ = 0 := h1
      have hm : s.money.length + 1 < 400 := by unfold Vbdbam.MOSTMONEY at h3; omega
      have g1 := g.given (i := i) (n := 1) (a := s.rules.fee) hi (by omega) (by omega)
      have hj1 : j < (givePlaces s i 1 s.rules.fee).schools.length := by rw [give_len]; exact hj
      have ea : schoolAt (givePlaces s i 1 s.rules.fee) j = schoolAt s j := by rw [give_at hj, if_neg (fun c => hij c.symm)]
      have g2 := g1.taken (i := j) hj1 (by
        have hw := waits_iff.mp (by rw [Bool.not_eq_false] at h2; exact h2)
        unfold mostOf Vbdbam.load at hw
        unfold Vbdbam.load
        rw [ea]
        have eo : offersTo (givePlaces s i 1 s.rules.fee) j = offersTo s j := rfl
        rw [eo]
        omega) (by
        have ht : _ = _ + ((schoolAt s i).has_ - 1) := has_total hi (fun y => { y with has_ := y.has_ - 1, wanted := y.wanted - 1 })
        have hu := g.us
        unfold Vbdbam.used at *
        show Vbdbam.total ((setSchool s i fun y => { y with has_ := y.has_ - 1, wanted := y.wanted - 1 }).map fun x => x.has_) + s.offers.length < s.rules.places
        omega) (by
        show (s.money ++ [_]).length < 400
        rw [List.length_append]
        exact hm)
      have e : takePlace (givePlaces s i 1 s.rules.fee) j = { ({ s with schools := setSchool s i fun y => { y with has_ := y.has_ - 1, wanted := y.wanted - 1 } } : State) with schools := setSchool { s with schools := setSchool s i fun y => { y with has_ := y.has_ - 1, wanted := y.wanted - 1 } } j (fun y => { y with has_ := y.has_ + 1 }), money := s.money ++ [⟨i, 2, s.rules.fee⟩, ⟨j, 1, s.rules.fee⟩] } := by
        simp only [takePlace, givePlaces, List.append_assoc]
        rfl
      rw [e] at g2
      exact g2)
  | .pay x n => gd_school g fun i hi _ _ => gd_if (fun _ => g) fun h => gd_if (fun _ => g) fun h2 => by
      refine g.money (l := [⟨i, 0, n.toNat⟩]) ?_ (fun e he => ?_) (fun e he => ?_)
      · rw [List.length_append]
        unfold Vbdbam.MOSTMONEY at h2
        simp
        omega
      · rw [List.mem_singleton.mp he]; exact hi
      · rw [List.mem_singleton.mp he]; exact Nat.zero_le _
  | .payout x => gd_school g fun i hi _ _ => gd_if (fun _ => g) fun h => gd_if (fun _ => g) fun h2 => by
      refine g.money (l := [⟨i, 4, (Vbdbam.balance s i).toNat⟩]) ?_ (fun e he => ?_) (fun e he => ?_)
      · rw [List.length_append]
        unfold Vbdbam.MOSTMONEY at h2
        simp
        omega
      · rw [List.mem_singleton.mp he]; exact hi
      · rw [List.mem_singleton.mp he]; exact Nat.le_refl _
  | .night n => gd_if (fun _ => g) fun _ => gd_if (fun _ => g) fun _ => Gd.nights _ g
  | .close => gd_open g (gd_if (fun _ => g) fun _ => gd_if (fun _ => g) fun h => g.shut (by unfold Vbdbam.MOSTMONEY at h; omega))
  | .school x => gd_school g fun _ _ _ _ => g
  | .account x => gd_school g fun _ _ _ _ => g
  | .offers => g
  | .queue => g
  | .money => g
  | .counts => g
end EH

/-! ## EHZ2 -/
namespace EH
open PySem PySem.Spec PyProof.Rows L2 EHR
local macro_rules | `(tactic| decreasing_trivial_pre_omega) => `(tactic| first
  | assumption
  | rfl
  | exact lk_here
  | exact Txt.cl_Ledger (by assumption) | exact Txt.cl_Rules (by assumption) | exact Txt.cl_School (by assumption) | exact Txt.cl_Offer (by assumption) | exact Txt.cl_House (by assumption)
  | exact Txt.na_Ledger (by assumption) _ (by decide +kernel) | exact Txt.na_Rules (by assumption) _ (by decide +kernel) | exact Txt.na_School (by assumption) _ (by decide +kernel) | exact Txt.na_Offer (by assumption) _ (by decide +kernel) | exact Txt.na_House (by assumption) _ (by decide +kernel)
  | exact (lk_past (by decide +kernel)).trans lk_here
  | exact (lk_past (by decide +kernel)).trans ((lk_past (by decide +kernel)).trans lk_here)
  | exact (lk_past (by decide +kernel)).trans ((lk_past (by decide +kernel)).trans ((lk_past (by decide +kernel)).trans lk_here))
  | exact (lk_past (by decide +kernel)).trans ((lk_past (by decide +kernel)).trans ((lk_past (by decide +kernel)).trans ((lk_past (by decide +kernel)).trans lk_here)))
  | exact (lk_past (by decide +kernel)).trans ((lk_past (by decide +kernel)).trans ((lk_past (by decide +kernel)).trans ((lk_past (by decide +kernel)).trans ((lk_past (by decide +kernel)).trans lk_here))))
  | exact (lk_past (by decide +kernel)).trans ((lk_past (by decide +kernel)).trans ((lk_past (by decide +kernel)).trans ((lk_past (by decide +kernel)).trans ((lk_past (by decide +kernel)).trans ((lk_past (by decide +kernel)).trans lk_here)))))
  | exact SqL.of (by assumption) | exact SqT.of (by assumption)
  | exact Or.inl (SqL.of (by assumption)) | exact Or.inr (SqT.of (by assumption)) | exact Or.inl (by assumption) | exact Or.inr (by assumption)
  | exact atI0 rfl | exact atI_nat (j := 1) rfl | exact atI_nat (j := 2) rfl
  | exact Or.inl ⟨rfl, _, SqL.of (by assumption)⟩
  | exact Nat.le_of_ble_eq_true rfl
  | exact Same.at1 (by assumption) (by assumption)
  | exact SqL.of (Same.at1 (by assumption) (by assumption)) | exact SqT.of (Same.at1 (by assumption) (by assumption)) | exact Or.inl (SqL.of (Same.at1 (by assumption) (by assumption))) | exact Or.inr (SqT.of (Same.at1 (by assumption) (by assumption)))
  | exact ⟨_, by assumption⟩ | exact ⟨_, rfl⟩ | trivial
  | exact dput_i (by assumption) (by assumption) | exact dput_s (by assumption) (by assumption) | exact kV_i | exact kV_s | exact isD_k (by assumption)
  | exact upd_same)
local macro_rules | `(tactic| get_elem_tactic_extensible) => `(tactic| repeat (first
  | refine And.intro (by decreasing_trivial_pre_omega) ?_
  | apply Exists.intro (α := V) | apply Exists.intro (α := Addr) | apply Exists.intro (α := List V) | apply Exists.intro (α := Int) | apply Exists.intro (α := Bool)
  | apply Exists.intro (α := List (Str × V)) | apply Exists.intro (α := Str) | apply Exists.intro (α := List (Key × V)) | apply Exists.intro (α := Option V)
  | apply Exists.intro (α := List Int) | apply Exists.intro (α := List Bool) | apply Exists.intro (α := List Str) | apply Exists.intro (α := Obj) | apply Exists.intro (α := List En) | apply Exists.intro (α := HAd) | apply Exists.intro (α := Vbdbam.State) | apply Exists.intro (α := Vbdbam.Rules) | apply Exists.intro (α := Hp) | apply Exists.intro (α := Key) | apply Exists.intro (α := Nat) | apply Exists.intro (α := Wd) | apply Exists.intro (α := Wd → List Int) | apply Exists.intro (α := Nat → Int) | apply Exists.intro (α := List Nat) | apply Exists.intro (α := List (List Nat)) | apply Exists.intro (α := List (List (List Nat)))))
local macro_rules | `(tactic| decreasing_trivial) => `(tactic| (intro vs H Q E h; repeat (first | (obtain ⟨e, _⟩ := h; subst e; rfl) | (obtain ⟨_, h⟩ := h))))

open PyVbdbam (shape)
def numL : List Nat := [0, 0, 0, 3, 2, 2, 1, 1, 2, 2, 2, 1, 1, 0, 1, 1, 0, 0, 0, 0]
theorem numbers_V : numbersV = numL.map fun (n : Nat) => V.int (n : Int) := rfl
/-- a call as it is read -/
theorem shape_some {p : Int} {n k : Nat} (h : shape p = some (n, k)) : (p = 1 ∧ n = 0 ∧ k = 1) ∨ (p ≠ 1 ∧ k = 0 ∧ 0 ≤ p ∧ numL[p.toNat]? = some n) := by
  unfold shape at h
  have go : ∀ (q : Int) (m j : Nat) (r : Option (Nat × Nat)), (if p = q then some (m, j) else r) = some (n, k) → (p = q ∧ n = m ∧ k = j) ∨ r = some (n, k) := fun q m j r h => by
    by_cases c : p = q
    · rw [if_pos c] at h
      cases h
      exact .inl ⟨c, rfl, rfl⟩
    · rw [if_neg c] at h
      exact .inr h
  rcases go _ _ _ _ h with ⟨rfl, rfl, rfl⟩ | h
  · exact .inr ⟨by decide, rfl, by decide, rfl⟩
  rcases go _ _ _ _ h with ⟨rfl, rfl, rfl⟩ | h
  · exact .inl ⟨rfl, rfl, rfl⟩
  iterate 18
    rcases go _ _ _ _ h with ⟨rfl, rfl, rfl⟩ | h
    · exact .inr ⟨by decide, rfl, by decide, rfl⟩
  cases h
theorem call_cases {p : Int} {r : List Int} {c : List (List Int)} {t : List Int} (h : PyFlat.call shape (p :: r) = some (c, t)) :
    (p = 1 ∧ ∃ (m : Nat) (r' : List Int), r = (m : Int) :: r' ∧ m ≤ r'.length ∧ c = [[1], r'.take m] ∧ t = r'.drop m) ∨ (p ≠ 1 ∧ 0 ≤ p ∧ ∃ n, numL[p.toNat]? = some n ∧ n ≤ r.length ∧ c = [p :: r.take n] ∧ t = r.drop n) := by
  unfold PyFlat.call at h
  cases e : shape p with
  | none => simp only [e] at h; cases h
  | some nk =>
    obtain ⟨n, k⟩ := nk
    simp only [e] at h
    by_cases hl : r.length < n
    · rw [if_pos hl] at h; cases h
    · rw [if_neg hl] at h
      rcases shape_some e with ⟨rfl, rfl, rfl⟩ | ⟨h1, rfl, h0, h2⟩
      · left
        refine ⟨rfl, ?_⟩
        rw [List.drop_zero] at h
        cases r with
        | nil => simp [PyFlat.rows, PyFlat.row] at h
        | cons m r' =>
          by_cases hc : 0 ≤ m ∧ m.toNat ≤ r'.length
          · have e1 : PyFlat.rows 1 (m :: r') = some ([r'.take m.toNat], r'.drop m.toNat) := by
              simp [PyFlat.rows, PyFlat.row, hc]
            rw [e1] at h
            obtain ⟨h3, h4⟩ := Prod.mk.inj (Option.some.inj h)
            exact ⟨m.toNat, r', by rw [Int.toNat_of_nonneg hc.1], hc.2, h3.symm, h4.symm⟩
          · have e1 : PyFlat.rows 1 (m :: r') = none := by
              have e0 : PyFlat.row (m :: r') = none := if_neg hc
              unfold PyFlat.rows
              rw [e0]
            rw [e1] at h
            cases h
      · right
        have e1 : PyFlat.rows 0 (r.drop n) = some ([], r.drop n) := rfl
        rw [e1] at h
        obtain ⟨h3, h4⟩ := Prod.mk.inj (Option.some.inj h)
        exact ⟨h1, h0, n, h2, by omega, h3.symm, h4.symm⟩
/-- a call stands at v; its lists are among N -/
def CallAt (N : Addr → Prop) (H : Hp) (v : V) (c : List (List Int)) : Prop := ∃ tp hl p, v = .ref tp ∧ H tp = some (.tup [.int p, .ref hl]) ∧ N hl ∧
  ((∃ tl t, c = [[1], t] ∧ p = 1 ∧ N tl ∧ t.length ≤ 100000 ∧ H hl = some (.lst [.ref tl]) ∧ H tl = some (.lst (ints' t))) ∨ ∃ xs, c = [p :: xs] ∧ p ≠ 1 ∧ 0 ≤ p ∧ numL[p.toNat]? = some xs.length ∧ H hl = some (.lst (ints' xs)))
theorem CallAt.keep {N N' : Addr → Prop} {H H' : Hp} {v : V} {c : List (List Int)} (ht : ∀ b xs, H b = some (.tup xs) → H' b = some (.tup xs)) (hl' : ∀ b xs, H b = some (.lst xs) → N b → H' b = some (.lst xs) ∧ N' b) (h : CallAt N H v c) : CallAt N' H' v c := by
  obtain ⟨tp, hl, p, h1, h2, h3, h4⟩ := h
  rcases h4 with ⟨tl, t, a1, a2, a3, a4, a5, a6⟩ | ⟨xs, a1, a2, a3, a4, a5⟩
  · exact ⟨tp, hl, p, h1, ht _ _ h2, (hl' _ _ a5 h3).2, .inl ⟨tl, t, a1, a2, (hl' _ _ a6 a3).2, a4, (hl' _ _ a5 h3).1, (hl' _ _ a6 a3).1⟩⟩
  · exact ⟨tp, hl, p, h1, ht _ _ h2, (hl' _ _ a5 h3).2, .inr ⟨xs, a1, a2, a3, a4, (hl' _ _ a5 h3).1⟩⟩
theorem cut_mid {l : List Int} {k n : Nat} (h : k + n ≤ l.length) : cutV (ints' l) (some (k : Int)) (some ((k + n : Nat) : Int)) = ints' ((l.drop k).take n) := by
  have e1 : (ints' l).length = l.length := by simp [ints']
  unfold cutV
  rw [e1, HT.sIx_nat, HT.sIx_nat]
  unfold ints'
  rw [← List.map_drop, ← List.map_take]
  congr 2
  · omega
  · congr 1
    omega
theorem ints_at {l : List Int} {k : Nat} {p : Int} {r : List Int} (h : l.drop k = p :: r) : atI (ints' l) (k : Int) = some (.int p) := by
  refine atI_nat ?_
  unfold ints'
  rw [List.getElem?_map]
  have : l[k]? = some p := by
    have := congrArg (fun x => x[0]?) h
    simpa using this
  rw [this]
  rfl
/-- the loop of read_calls: at k, so many calls are read -/
def RdW (H0 : Hp) (a L : Addr) (l : List Int) (raw : List (List (List Int))) (H1 : Hp) (m : Nat) (σ : L2.St) (H' : Hp) : Prop :=
  ∃ (k f : Nat) (cs rest : List (List (List Int))) (es : List V) (z3 z4 : Option V), m = l.length - k ∧ σ = [some (.ref a), some (.ref L), some (.int (k : Int)), z3, z4] ∧ k ≤ l.length ∧ PyFlat.calls shape f (l.drop k) = some rest ∧ raw = cs ++ rest ∧ Ext L H1 H' ∧ H' L = some (.lst es) ∧ Paired (CallAt (fun x => x ≠ L ∧ H0 x = none) H') es cs ∧ es.length ≤ k
theorem calls_step {f : Nat} {p : Int} {r : List Int} {rest : List (List (List Int))} (h : PyFlat.calls shape f (p :: r) = some rest) : ∃ f' c t rest', PyFlat.call shape (p :: r) = some (c, t) ∧ PyFlat.calls shape f' t = some rest' ∧ rest = c :: rest' := by
  cases f with
  | zero => simp [PyFlat.calls] at h
  | succ f =>
    unfold PyFlat.calls at h
    cases e : PyFlat.call shape (p :: r) with
    | none => simp only [e] at h; cases h
    | some ct =>
      obtain ⟨c, t⟩ := ct
      simp only [e] at h
      cases e2 : PyFlat.calls shape f t with
      | none => simp only [e2] at h; cases h
      | some cs =>
        simp only [e2] at h
        cases h
        exact ⟨f, c, t, cs, rfl, e2, rfl⟩
def sp_read_calls (K : PySem.W.Frag) (_ : Ad) : Sp := fun vs H Q _ => ∃ (a : Addr) (l : List Int) (raw : List (List (List Int))), vs = [.ref a] ∧ SqL K H a (ints' l) ∧ l.length ≤ 100000 ∧ PyFlat.calls shape l.length l = some raw ∧
  ∀ p es H', H p = none → Same H H' → H' p = some (.lst es) → Paired (CallAt (fun x => x ≠ p ∧ H x = none) H') es raw → es.length ≤ 100000 → Q (.ref p) H'
theorem ok_read_calls {P : Program} {w : World} {K : PySem.W.Frag} {mg : Str → Option Value} {base : Heap} {A : Ad} (T : Txt w K mg A) : C8.Cal P w K mg base 1 "read_calls" (sp_read_calls K A) [] := by
  refine calOf T.d_read_calls sc_read_calls (by decreasing_trivial) (fun cdv Ar outer s0 H vs Q E hr hsp => ⟨_, (pss_cons (ps_stop (ps_set (i := 1) sc_read_calls.nd rfl (Or.inl rfl) (pe_lst pa_nil)))
 (pss_cons (ps_stop (ps_set (i := 2) sc_read_calls.nd rfl (Or.inl rfl) pe_int))
 (pss_cons (ps_stop (ps_while PassesOwn.never (pt_cmpR op_lt (pv 2) (pe_callB call_len_seq (by rfl) T.n_len (by decide +kernel) (pa_cons (pv 0) pa_nil)) (nomark _))
  (pss_cons (ps_stop (ps_set (i := 3) sc_read_calls.nd rfl (Or.inl rfl) (pe_ix ix_list (pv 0) (pv 2) (fun _ _ => rfl))))
 (pss_one (ps_stop (ps_if (pt_cmpR op_eq (pv 3) (C8.pe_gc rfl T.c_RULES) (nomark _)) (pss_cons (ps_stop (ps_set (i := 4) sc_read_calls.nd rfl (Or.inl rfl) (pe_op op_add (pv 2) pe_int)))
 (pss_cons (ps_stop (ps_set (i := 2) sc_read_calls.nd rfl (Or.inl rfl) (pe_op op_add (pv 4) (pe_ix ix_list (pv 0) (pe_op op_add (pv 2) pe_int) (fun _ _ => rfl)))))
 (pss_one (ps_stop (ps_expr (pe_bm PySem.F.plainAttrs_list PySem.F.slot_list_append PySem.F.type_list_append mt_append (pv 1) (pa_cons (pe_tup (pa_cons (pv 3) (pa_cons (pe_lst (pa_cons (pe_slice sl_list (pv 0) (po_some (pv 4)) (po_some (pv 2))) pa_nil)) pa_nil))) pa_nil))))))) (pss_cons (ps_stop (ps_set (i := 4) sc_read_calls.nd rfl (Or.inl rfl) (pe_op op_add (pv 2) pe_int)))
 (pss_cons (ps_stop (ps_set (i := 2) sc_read_calls.nd rfl (Or.inl rfl) (pe_op op_add (pv 4) (pe_ix ix_tup (C8.pe_gc rfl T.c_NUMBERS) (pv 3) (fun _ _ => rfl)))))
 (pss_one (ps_stop (ps_expr (pe_bm PySem.F.plainAttrs_list PySem.F.slot_list_append PySem.F.type_list_append mt_append (pv 1) (pa_cons (pe_tup (pa_cons (pv 3) (pa_cons (pe_slice sl_list (pv 0) (po_some (pv 4)) (po_some (pv 2))) pa_nil))) pa_nil)))))))))))))
 (pss_one (ps_stop (ps_ret (pv 1))))))), ?_⟩)
  obtain ⟨a, l, raw, rfl, hl, len, hraw, q⟩ := hsp
  have e1 : (ints' l).length = l.length := by simp [ints']
  refine Stop.go ?_
  get_elem_tactic_extensible
  intro L hL
  have s1 := Same.new (o := .lst []) hL
  have l1 : upd H L (.lst []) L = some (.lst []) := upd_same
  generalize upd H L (.lst []) = H1 at s1 l1
  have nla : ∀ H', Ext L H1 H' → SqL K H' a (ints' l) := fun H' e => by
    rcases hl with (h | ⟨od, h⟩) | h
    · exact .inl (.inl (e _ _ (s1 _ _ h) (Same.ne h hL)))
    · exact .inl (.inr ⟨od, e _ _ (s1 _ _ h) (Same.ne h hL)⟩)
    · exact .inr h
  (refine Stop.go ?_; get_elem_tactic_extensible)
  refine Stop.go ?_
  refine ⟨fun m σ H' => Hold (RdW H a L l raw H1 m σ H'), ⟨_, ⟨0, l.length, [], raw, [], _, _, rfl, rfl, Nat.zero_le _, by rw [List.drop_zero]; exact hraw, rfl, .refl, l1, .nil, Nat.le_refl _⟩⟩, fun m σ H' w => ?_⟩
  obtain ⟨k, f, cs, rest, es, z3, z4, rfl, rfl, hk, hc, hr2, e2, l2, pc, el⟩ := w.h
  have hl2 := nla H' e2
  have fr : ∀ x, x ≠ L → H' x = none → H x = none := fun x n h => s1.free (Ext.free e2 n h)
  get_elem_tactic_extensible
  rw [e1]
  refine ifd (fun c1 => ?_) fun c1 => ?_
  · have c1 : k < l.length := by omega
    have hd : l.drop k = l[k] :: l.drop (k + 1) := List.drop_eq_getElem_cons c1
    generalize l[k] = p at hd
    have ip := ints_at hd
    refine ⟨fun σ' H' => Hold (∃ m', m' < l.length - k ∧ RdW H a L l raw H1 m' σ' H'), fun σ' H' h => by obtain ⟨m', h1, h2⟩ := h.h; exact ⟨m', h1, ⟨h2⟩⟩, ?_⟩
    rw [hd] at hc
    obtain ⟨f', c, t, rest', hcall, hcalls, rfl⟩ := calls_step hc
    have lns : es.length < sizeLine := lt_line (by omega)
    (refine Stop.go ?_; get_elem_tactic_extensible)
    (refine Stop.go ?_; get_elem_tactic_extensible)
    rcases call_cases hcall with ⟨rfl, m, r', hr, hm, rfl, rfl⟩ | ⟨p1, p0, n, hn, hnl, rfl, rfl⟩
    · refine ifd (fun _ => ?_) fun h => absurd rfl h
      have hk1 : k + 1 < l.length := by
        have := congrArg List.length hr
        rw [List.length_drop] at this
        simp at this
        omega
      have hd2 : l.drop (k + 1) = (m : Int) :: r' := hr
      have er : r' = l.drop (k + 2) := by
        have := List.drop_eq_getElem_cons hk1
        rw [hd2] at this
        injection this
      have hkm : k + 2 + m ≤ l.length := by
        rw [er, List.length_drop] at hm
        omega
      have im := ints_at hd2
      have im : atI (ints' l) ((k : Int) + 1) = some (.int (m : Int)) := im
      (refine Stop.go ?_; get_elem_tactic_extensible)
      (refine Stop.go ?_; get_elem_tactic_extensible)
      have hcut : cutV (ints' l) (some ((k : Int) + 2)) (some ((k : Int) + 2 + (m : Int))) = ints' (r'.take m) := by
        have := cut_mid (l := l) (k := k + 2) (n := m) hkm
        rw [er]
        exact this
      refine Stop.go ?_
      get_elem_tactic_extensible
      rw [hcut]
      intro tl htl
      have s3 := Same.new (o := .lst (ints' (r'.take m))) htl
      have g3 : upd H' tl (.lst (ints' (r'.take m))) tl = some (.lst (ints' (r'.take m))) := upd_same
      have ntl : tl ≠ L := (Same.ne l2 htl).symm
      generalize upd H' tl (.lst (ints' (r'.take m))) = H3 at s3 g3
      get_elem_tactic_extensible
      intro hh hhh
      have s4 := Same.new (o := .lst [.ref tl]) hhh
      have g4 : upd H3 hh (.lst [.ref tl]) hh = some (.lst [.ref tl]) := upd_same
      have nhh : hh ≠ L := (Same.ne (s3 _ _ l2) hhh).symm
      generalize upd H3 hh (.lst [.ref tl]) = H4 at s4 g4
      get_elem_tactic_extensible
      intro tp htp
      have s5 := Same.new (o := .tup [.int 1, .ref hh]) htp
      have g5 : upd H4 tp (.tup [.int 1, .ref hh]) tp = some (.tup [.int 1, .ref hh]) := upd_same
      generalize upd H4 tp (.tup [.int 1, .ref hh]) = H5 at s5 g5
      have s35 := s3.trans (s4.trans s5)
      have l5 := s35 _ _ l2
      have g3 := s5 _ _ (s4 _ _ g3)
      have g4 := s5 _ _ g4
      get_elem_tactic_extensible
      have eF : Ext L H5 (upd H5 L (.lst (es ++ [.ref tp]))) := .upd
      refine ⟨l.length - (k + 2 + m), by omega, k + 2 + m, f', cs ++ [[[1], r'.take m]], rest', es ++ [.ref tp], _, _, rfl, rfl, hkm, ?_, by rw [hr2, List.append_assoc]; rfl, e2.trans ((Ext.same s35).trans eF), upd_same, ?_, ?_⟩
      · rw [er, List.drop_drop] at hcalls
        exact hcalls
      · refine (pc.mono fun v c h => h.keep (fun b xs hb => eF _ _ (s35 _ _ hb) (ne_shp (s35 _ _ hb) l5 rfl)) fun b xs hb nb => ⟨eF _ _ (s35 _ _ hb) nb.1, nb⟩).snoc ⟨tp, hh, 1, rfl, eF _ _ g5 (ne_shp g5 l5 rfl), ⟨nhh, fr _ nhh (s3.free hhh)⟩, .inl ⟨tl, r'.take m, rfl, rfl, ⟨ntl, fr _ ntl htl⟩, ?_, eF _ _ g4 nhh, eF _ _ g3 ntl⟩⟩
        rw [List.length_take]
        omega
      · rw [List.length_append]
        simp
        omega
    · refine ifd (fun h => absurd (V.int.inj h) p1) fun _ => ?_
      have hkn : k + 1 + n ≤ l.length := by
        rw [List.length_drop] at hnl
        omega
      obtain ⟨pn, rfl⟩ : ∃ pn : Nat, p = (pn : Int) := ⟨p.toNat, by omega⟩
      rw [Int.toNat_natCast] at hn
      have tn := T.t_NUMBERS H'
      have inn : atI numbersV (pn : Int) = some (.int (n : Int)) := by
        rw [numbers_V]
        exact atI_nat (by rw [List.getElem?_map, hn]; rfl)
      (refine Stop.go ?_; get_elem_tactic_extensible)
      (refine Stop.go ?_; get_elem_tactic_extensible)
      have hcut : cutV (ints' l) (some ((k : Int) + 1)) (some ((k : Int) + 1 + (n : Int))) = ints' ((l.drop (k + 1)).take n) := cut_mid (l := l) (k := k + 1) (n := n) hkn
      refine Stop.go ?_
      get_elem_tactic_extensible
      rw [hcut]
      intro hh hhh
      have s4 := Same.new (o := .lst (ints' ((l.drop (k + 1)).take n))) hhh
      have g4 : upd H' hh (.lst (ints' ((l.drop (k + 1)).take n))) hh = some (.lst (ints' ((l.drop (k + 1)).take n))) := upd_same
      have nhh : hh ≠ L := (Same.ne l2 hhh).symm
      generalize upd H' hh (.lst (ints' ((l.drop (k + 1)).take n))) = H4 at s4 g4
      get_elem_tactic_extensible
      intro tp htp
      have s5 := Same.new (o := .tup [.int (pn : Int), .ref hh]) htp
      have g5 : upd H4 tp (.tup [.int (pn : Int), .ref hh]) tp = some (.tup [.int (pn : Int), .ref hh]) := upd_same
      generalize upd H4 tp (.tup [.int (pn : Int), .ref hh]) = H5 at s5 g5
      have s35 := s4.trans s5
      have l5 := s35 _ _ l2
      have g4 := s5 _ _ g4
      get_elem_tactic_extensible
      have eF : Ext L H5 (upd H5 L (.lst (es ++ [.ref tp]))) := .upd
      refine ⟨l.length - (k + 1 + n), by omega, k + 1 + n, f', cs ++ [[(pn : Int) :: (l.drop (k + 1)).take n]], rest', es ++ [.ref tp], _, _, rfl, rfl, hkn, ?_, by rw [hr2, List.append_assoc]; rfl, e2.trans ((Ext.same s35).trans eF), upd_same, ?_, ?_⟩
      · rw [List.drop_drop] at hcalls
        exact hcalls
      · refine (pc.mono fun v c h => h.keep (fun b xs hb => eF _ _ (s35 _ _ hb) (ne_shp (s35 _ _ hb) l5 rfl)) fun b xs hb nb => ⟨eF _ _ (s35 _ _ hb) nb.1, nb⟩).snoc ⟨tp, hh, (pn : Int), rfl, eF _ _ g5 (ne_shp g5 l5 rfl), ⟨nhh, fr _ nhh hhh⟩, .inr ⟨(l.drop (k + 1)).take n, rfl, p1, p0, ?_, eF _ _ g4 nhh⟩⟩
        rw [Int.toNat_natCast, hn, List.length_take, List.length_drop]
        congr 1
        omega
      · rw [List.length_append]
        simp
        omega
  · have c1 : k = l.length := by omega
    subst c1
    rw [List.drop_length] at hc
    have hrest : rest = [] := by
      cases f <;> · simp [PyFlat.calls] at hc; exact hc
    subst hrest
    rw [List.append_nil] at hr2
    subst hr2
    (refine Stop.go ?_; get_elem_tactic_extensible)
    exact q L es H' hL (fun b o hb => e2 _ _ (s1 _ _ hb) (Same.ne hb hL)) l2 pc (by omega)
end EH

/-! ## EHZ3 -/
namespace EH
open PySem PySem.Spec PyProof.Rows L2 EHR
local macro_rules | `(tactic| decreasing_trivial_pre_omega) => `(tactic| first
  | assumption
  | rfl
  | exact lk_here
  | exact Txt.cl_Ledger (by assumption) | exact Txt.cl_Rules (by assumption) | exact Txt.cl_School (by assumption) | exact Txt.cl_Offer (by assumption) | exact Txt.cl_House (by assumption)
  | exact Txt.na_Ledger (by assumption) _ (by decide +kernel) | exact Txt.na_Rules (by assumption) _ (by decide +kernel) | exact Txt.na_School (by assumption) _ (by decide +kernel) | exact Txt.na_Offer (by assumption) _ (by decide +kernel) | exact Txt.na_House (by assumption) _ (by decide +kernel)
  | exact (lk_past (by decide +kernel)).trans lk_here
  | exact (lk_past (by decide +kernel)).trans ((lk_past (by decide +kernel)).trans lk_here)
  | exact (lk_past (by decide +kernel)).trans ((lk_past (by decide +kernel)).trans ((lk_past (by decide +kernel)).trans lk_here))
  | exact (lk_past (by decide +kernel)).trans ((lk_past (by decide +kernel)).trans ((lk_past (by decide +kernel)).trans ((lk_past (by decide +kernel)).trans lk_here)))
  | exact (lk_past (by decide +kernel)).trans ((lk_past (by decide +kernel)).trans ((lk_past (by decide +kernel)).trans ((lk_past (by decide +kernel)).trans ((lk_past (by decide +kernel)).trans lk_here))))
  | exact (lk_past (by decide +kernel)).trans ((lk_past (by decide +kernel)).trans ((lk_past (by decide +kernel)).trans ((lk_past (by decide +kernel)).trans ((lk_past (by decide +kernel)).trans ((lk_past (by decide +kernel)).trans lk_here)))))
  | exact SqL.of (by assumption) | exact SqT.of (by assumption)
  | exact Or.inl (SqL.of (by assumption)) | exact Or.inr (SqT.of (by assumption)) | exact Or.inl (by assumption) | exact Or.inr (by assumption)
  | exact atI0 rfl | exact atI_nat (j := 1) rfl | exact atI_nat (j := 2) rfl
  | exact Or.inl ⟨rfl, _, SqL.of (by assumption)⟩
  | exact Nat.le_of_ble_eq_true rfl
  | exact Same.at1 (by assumption) (by assumption)
  | exact SqL.of (Same.at1 (by assumption) (by assumption)) | exact SqT.of (Same.at1 (by assumption) (by assumption)) | exact Or.inl (SqL.of (Same.at1 (by assumption) (by assumption))) | exact Or.inr (SqT.of (Same.at1 (by assumption) (by assumption)))
  | exact ⟨_, by assumption⟩ | exact ⟨_, rfl⟩ | trivial
  | exact dput_i (by assumption) (by assumption) | exact dput_s (by assumption) (by assumption) | exact kV_i | exact kV_s | exact isD_k (by assumption)
  | exact upd_same)
local macro_rules | `(tactic| get_elem_tactic_extensible) => `(tactic| repeat (first
  | refine And.intro (by decreasing_trivial_pre_omega) ?_
  | apply Exists.intro (α := V) | apply Exists.intro (α := Addr) | apply Exists.intro (α := List V) | apply Exists.intro (α := Int) | apply Exists.intro (α := Bool)
  | apply Exists.intro (α := List (Str × V)) | apply Exists.intro (α := Str) | apply Exists.intro (α := List (Key × V)) | apply Exists.intro (α := Option V)
  | apply Exists.intro (α := List Int) | apply Exists.intro (α := List Bool) | apply Exists.intro (α := List Str) | apply Exists.intro (α := Obj) | apply Exists.intro (α := List En) | apply Exists.intro (α := HAd) | apply Exists.intro (α := Vbdbam.State) | apply Exists.intro (α := Vbdbam.Rules) | apply Exists.intro (α := Hp) | apply Exists.intro (α := Key) | apply Exists.intro (α := Nat) | apply Exists.intro (α := Wd) | apply Exists.intro (α := Wd → List Int) | apply Exists.intro (α := Nat → Int) | apply Exists.intro (α := List Nat) | apply Exists.intro (α := List (List Nat)) | apply Exists.intro (α := List (List (List Nat)))))
local macro_rules | `(tactic| decreasing_trivial) => `(tactic| (intro vs H Q E h; repeat (first | (obtain ⟨e, _⟩ := h; subst e; rfl) | (obtain ⟨_, h⟩ := h))))

open Vbdbam (State Ans Call)
theorem held_of {P : Program} {w : World} {K : PySem.W.Frag} {mg : Str → Option Value} {base : Heap} {k : Nat} {x : Str} {sp : Sp} {f : Addr} (c : C8.Cal P w K mg base k x sp []) (hm : mg x = some (.ref f)) (hk : k ≤ 6) : Held P w K mg base 6 f sp := by
  obtain ⟨g, fd, ps, ds, F, hg, kp, b, d⟩ := c.ex
  cases hg.symm.trans hm
  cases d
  exact ⟨fd, ps, F.mono hk, kp, b⟩
/-- what stands in CALLS at p keeps its promise, whatever house it is called with -/
def Todo (P : Program) (w : World) (K : PySem.W.Frag) (mg : Str → Option Value) (base : Heap) (A : Ad) (p : Int) (H : Hp) (args : List V) (c : Call) : Prop :=
  ∃ fx spx, atI (callsV A) p = some (.ref fx) ∧ Held P w K mg base 6 fx spx ∧ ∀ (h : Addr) (a : HAd) (s : State) (Q : VK) (E : XK), At K A H h a s → Gd s → Done K A H h a (Vbdbam.step s c) Q → spx (.ref h :: args) H Q E
section
variable {P : Program} {w : World} {K : PySem.W.Frag} {mg : Str → Option Value} {base : Heap} {A : Ad} {H : Hp}
theorem todo_clear (T : Txt w K mg A)  : Todo P w K mg base A 0 H [] (.clear) :=
  ⟨A.f_clear, sp_clear K A, atI_nat (j := 0) rfl, held_of (ok_clear T) (by obtain ⟨_, D, _⟩ := T.d_clear; exact D.mgf) (by decide), fun h a s Q E p g d => ⟨h, a, s, rfl, p, g, d⟩⟩
theorem todo_rules (T : Txt w K mg A) {tl : Addr} {t : List Int} (h1 : SqL K H tl (ints' t)) (h2 : t.length ≤ 100000) : Todo P w K mg base A 1 H [.ref tl] (.rules t) :=
  ⟨A.f_rules, sp_rules K A, atI_nat (j := 1) rfl, held_of (ok_rules T) (by obtain ⟨_, D, _⟩ := T.d_rules; exact D.mgf) (by decide), fun h a s Q E p g d => ⟨h, tl, a, s, t, rfl, p, g, h1, h2, d⟩⟩
theorem todo_show (T : Txt w K mg A)  : Todo P w K mg base A 2 H [] (.show_) :=
  ⟨A.f_show, sp_show K A, atI_nat (j := 2) rfl, held_of (ok_show T) (by obtain ⟨_, D, _⟩ := T.d_show; exact D.mgf) (by decide), fun h a s Q E p g d => ⟨h, a, s, rfl, p, g, d⟩⟩
theorem todo_enter (T : Txt w K mg A) {x0 x1 x2 : Int} : Todo P w K mg base A 3 H [.int x0, .int x1, .int x2] (.enter x0 x1 x2) :=
  ⟨A.f_enter, sp_enter K A, atI_nat (j := 3) rfl, held_of (ok_enter T) (by obtain ⟨_, D, _⟩ := T.d_enter; exact D.mgf) (by decide), fun h a s Q E p g d => ⟨h, a, s, x0, x1, x2, rfl, p, g, d⟩⟩
theorem todo_want (T : Txt w K mg A) {x0 x1 : Int} : Todo P w K mg base A 4 H [.int x0, .int x1] (.want x0 x1) :=
  ⟨A.f_want, sp_want K A, atI_nat (j := 4) rfl, held_of (ok_want T) (by obtain ⟨_, D, _⟩ := T.d_want; exact D.mgf) (by decide), fun h a s Q E p g d => ⟨h, a, s, x0, x1, rfl, p, g, d⟩⟩
theorem todo_bring (T : Txt w K mg A) {x0 x1 : Int} : Todo P w K mg base A 5 H [.int x0, .int x1] (.bring x0 x1) :=
  ⟨A.f_bring, sp_bring K A, atI_nat (j := 5) rfl, held_of (ok_bring T) (by obtain ⟨_, D, _⟩ := T.d_bring; exact D.mgf) (by decide), fun h a s Q E p g d => ⟨h, a, s, x0, x1, rfl, p, g, d⟩⟩
theorem todo_accept (T : Txt w K mg A) {x0 : Int} : Todo P w K mg base A 6 H [.int x0] (.accept x0) :=
  ⟨A.f_accept, sp_accept K A, atI_nat (j := 6) rfl, held_of (ok_accept T) (by obtain ⟨_, D, _⟩ := T.d_accept; exact D.mgf) (by decide), fun h a s Q E p g d => ⟨h, a, s, x0, rfl, p, g, d⟩⟩
theorem todo_decline (T : Txt w K mg A) {x0 : Int} : Todo P w K mg base A 7 H [.int x0] (.decline x0) :=
  ⟨A.f_decline, sp_decline K A, atI_nat (j := 7) rfl, held_of (ok_decline T) (by obtain ⟨_, D, _⟩ := T.d_decline; exact D.mgf) (by decide), fun h a s Q E p g d => ⟨h, a, s, x0, rfl, p, g, d⟩⟩
theorem todo_drop (T : Txt w K mg A) {x0 x1 : Int} : Todo P w K mg base A 8 H [.int x0, .int x1] (.drop x0 x1) :=
  ⟨A.f_drop, sp_drop K A, atI_nat (j := 8) rfl, held_of (ok_drop T) (by obtain ⟨_, D, _⟩ := T.d_drop; exact D.mgf) (by decide), fun h a s Q E p g d => ⟨h, a, s, x0, x1, rfl, p, g, d⟩⟩
theorem todo_transfer (T : Txt w K mg A) {x0 x1 : Int} : Todo P w K mg base A 9 H [.int x0, .int x1] (.transfer x0 x1) :=
  ⟨A.f_transfer, sp_transfer K A, atI_nat (j := 9) rfl, held_of (ok_transfer T) (by obtain ⟨_, D, _⟩ := T.d_transfer; exact D.mgf) (by decide), fun h a s Q E p g d => ⟨h, a, s, x0, x1, rfl, p, g, d⟩⟩
theorem todo_pay (T : Txt w K mg A) {x0 x1 : Int} : Todo P w K mg base A 10 H [.int x0, .int x1] (.pay x0 x1) :=
  ⟨A.f_pay, sp_pay K A, atI_nat (j := 10) rfl, held_of (ok_pay T) (by obtain ⟨_, D, _⟩ := T.d_pay; exact D.mgf) (by decide), fun h a s Q E p g d => ⟨h, a, s, x0, x1, rfl, p, g, d⟩⟩
theorem todo_payout (T : Txt w K mg A) {x0 : Int} : Todo P w K mg base A 11 H [.int x0] (.payout x0) :=
  ⟨A.f_payout, sp_payout K A, atI_nat (j := 11) rfl, held_of (ok_payout T) (by obtain ⟨_, D, _⟩ := T.d_payout; exact D.mgf) (by decide), fun h a s Q E p g d => ⟨h, a, s, x0, rfl, p, g, d⟩⟩
theorem todo_night (T : Txt w K mg A) {x0 : Int} : Todo P w K mg base A 12 H [.int x0] (.night x0) :=
  ⟨A.f_night, sp_night K A, atI_nat (j := 12) rfl, held_of (ok_night T) (by obtain ⟨_, D, _⟩ := T.d_night; exact D.mgf) (by decide), fun h a s Q E p g d => ⟨h, a, s, x0, rfl, p, g, d⟩⟩
theorem todo_close (T : Txt w K mg A)  : Todo P w K mg base A 13 H [] (.close) :=
  ⟨A.f_close, sp_close K A, atI_nat (j := 13) rfl, held_of (ok_close T) (by obtain ⟨_, D, _⟩ := T.d_close; exact D.mgf) (by decide), fun h a s Q E p g d => ⟨h, a, s, rfl, p, g, d⟩⟩
theorem todo_tell_school (T : Txt w K mg A) {x0 : Int} : Todo P w K mg base A 14 H [.int x0] (.school x0) :=
  ⟨A.f_tell_school, sp_tell_school K A, atI_nat (j := 14) rfl, held_of (ok_tell_school T) (by obtain ⟨_, D, _⟩ := T.d_tell_school; exact D.mgf) (by decide), fun h a s Q E p g d => ⟨h, a, s, x0, rfl, p, g, d⟩⟩
theorem todo_tell_account (T : Txt w K mg A) {x0 : Int} : Todo P w K mg base A 15 H [.int x0] (.account x0) :=
  ⟨A.f_tell_account, sp_tell_account K A, atI_nat (j := 15) rfl, held_of (ok_tell_account T) (by obtain ⟨_, D, _⟩ := T.d_tell_account; exact D.mgf) (by decide), fun h a s Q E p g d => ⟨h, a, s, x0, rfl, p, g, d⟩⟩
theorem todo_tell_offers (T : Txt w K mg A)  : Todo P w K mg base A 16 H [] (.offers) :=
  ⟨A.f_tell_offers, sp_tell_offers K A, atI_nat (j := 16) rfl, held_of (ok_tell_offers T) (by obtain ⟨_, D, _⟩ := T.d_tell_offers; exact D.mgf) (by decide), fun h a s Q E p g d => ⟨h, a, s, rfl, p, g, d⟩⟩
theorem todo_tell_queue (T : Txt w K mg A)  : Todo P w K mg base A 17 H [] (.queue) :=
  ⟨A.f_tell_queue, sp_tell_queue K A, atI_nat (j := 17) rfl, held_of (ok_tell_queue T) (by obtain ⟨_, D, _⟩ := T.d_tell_queue; exact D.mgf) (by decide), fun h a s Q E p g d => ⟨h, a, s, rfl, p, g, d⟩⟩
theorem todo_tell_money (T : Txt w K mg A)  : Todo P w K mg base A 18 H [] (.money) :=
  ⟨A.f_tell_money, sp_tell_money K A, atI_nat (j := 18) rfl, held_of (ok_tell_money T) (by obtain ⟨_, D, _⟩ := T.d_tell_money; exact D.mgf) (by decide), fun h a s Q E p g d => ⟨h, a, s, rfl, p, g, d⟩⟩
theorem todo_tell_counts (T : Txt w K mg A)  : Todo P w K mg base A 19 H [] (.counts) :=
  ⟨A.f_tell_counts, sp_tell_counts K A, atI_nat (j := 19) rfl, held_of (ok_tell_counts T) (by obtain ⟨_, D, _⟩ := T.d_tell_counts; exact D.mgf) (by decide), fun h a s Q E p g d => ⟨h, a, s, rfl, p, g, d⟩⟩
end
/-- what is handed in with the call p stands at hl -/
def HandAt (K : PySem.W.Frag) (H : Hp) (hl : Addr) (p : Int) (c : Call) : Prop :=
  (∃ tl t, p = 1 ∧ c = .rules t ∧ SqL K H hl [.ref tl] ∧ SqL K H tl (ints' t) ∧ t.length ≤ 100000) ∨ ∃ xs, p ≠ 1 ∧ VbdbamNeutral.callOf [p :: xs] = some c ∧ SqL K H hl (ints' xs)
theorem todo_all {P : Program} {w : World} {K : PySem.W.Frag} {mg : Str → Option Value} {base : Heap} {A : Ad} {H : Hp} (T : Txt w K mg A) {p : Int} {xs : List Int} {c : Call} (p1 : p ≠ 1) (h : VbdbamNeutral.callOf [p :: xs] = some c) : Todo P w K mg base A p H (ints' xs) c ∧ xs.length ≤ 3 := by
  unfold VbdbamNeutral.callOf at h
  split at h
  · rename_i e; cases e; cases h; exact ⟨todo_clear T, Nat.le_of_ble_eq_true rfl⟩
  · rename_i e; cases e
  · rename_i e; cases e; cases h; exact ⟨todo_show T, Nat.le_of_ble_eq_true rfl⟩
  · rename_i e; cases e; cases h; exact ⟨todo_enter T, Nat.le_of_ble_eq_true rfl⟩
  · rename_i e; cases e; cases h; exact ⟨todo_want T, Nat.le_of_ble_eq_true rfl⟩
  · rename_i e; cases e; cases h; exact ⟨todo_bring T, Nat.le_of_ble_eq_true rfl⟩
  · rename_i e; cases e; cases h; exact ⟨todo_accept T, Nat.le_of_ble_eq_true rfl⟩
  · rename_i e; cases e; cases h; exact ⟨todo_decline T, Nat.le_of_ble_eq_true rfl⟩
  · rename_i e; cases e; cases h; exact ⟨todo_drop T, Nat.le_of_ble_eq_true rfl⟩
  · rename_i e; cases e; cases h; exact ⟨todo_transfer T, Nat.le_of_ble_eq_true rfl⟩
  · rename_i e; cases e; cases h; exact ⟨todo_pay T, Nat.le_of_ble_eq_true rfl⟩
  · rename_i e; cases e; cases h; exact ⟨todo_payout T, Nat.le_of_ble_eq_true rfl⟩
  · rename_i e; cases e; cases h; exact ⟨todo_night T, Nat.le_of_ble_eq_true rfl⟩
  · rename_i e; cases e; cases h; exact ⟨todo_close T, Nat.le_of_ble_eq_true rfl⟩
  · rename_i e; cases e; cases h; exact ⟨todo_tell_school T, Nat.le_of_ble_eq_true rfl⟩
  · rename_i e; cases e; cases h; exact ⟨todo_tell_account T, Nat.le_of_ble_eq_true rfl⟩
  · rename_i e; cases e; cases h; exact ⟨todo_tell_offers T, Nat.le_of_ble_eq_true rfl⟩
  · rename_i e; cases e; cases h; exact ⟨todo_tell_queue T, Nat.le_of_ble_eq_true rfl⟩
  · rename_i e; cases e; cases h; exact ⟨todo_tell_money T, Nat.le_of_ble_eq_true rfl⟩
  · rename_i e; cases e; cases h; exact ⟨todo_tell_counts T, Nat.le_of_ble_eq_true rfl⟩
  · cases h
def sp_answer (K : PySem.W.Frag) (A : Ad) : Sp := fun vs H Q _ => ∃ (h hl : Addr) (a : HAd) (s : State) (p : Int) (c : Call), vs = [.ref h, .int p, .ref hl] ∧ At K A H h a s ∧ Gd s ∧ HandAt K H hl p c ∧ Done K A H h a (Vbdbam.step s c) Q
theorem ok_answer {P : Program} {w : World} {K : PySem.W.Frag} {mg : Str → Option Value} {base : Heap} {A : Ad} (T : Txt w K mg A) : C8.Cal P w K mg base 7 "answer" (sp_answer K A) [] := by
  refine calOf T.d_answer sc_answer (by decreasing_trivial) (fun cdv Ar outer s0 H vs Q E hr hsp => ?_)
  obtain ⟨h, hl, a, s, p, c, rfl, hp, gd, ha, q⟩ := hsp
  obtain ⟨xs, td, hq, xl⟩ : ∃ xs : List V, Todo P w K mg base A p H xs c ∧ SqL K H hl xs ∧ xs.length ≤ 3 := by
    rcases ha with ⟨tl, t, rfl, rfl, h1, h2, h3⟩ | ⟨xs, p1, h1, h2⟩
    · exact ⟨_, todo_rules T h2 h3, h1, Nat.le_of_ble_eq_true rfl⟩
    · obtain ⟨td, xl⟩ := todo_all (P := P) (base := base) (H := H) T p1 h1
      exact ⟨_, td, h2, by unfold ints'; rw [List.length_map]; exact xl⟩
  obtain ⟨fx, spx, hix, hh, go⟩ := td
  have hA : ∀ f sp, (if f = fx then some spx else none) = some sp → Held P w K mg base 6 f sp := fun f sp e => by
    by_cases c : f = fx
    · rw [if_pos c] at e
      cases e
      rw [c]
      exact hh
    · rw [if_neg c] at e
      cases e
  have tC := T.t_CALLS H
  have hS : (if fx = fx then some spx else none) = some spx := if_pos rfl
  refine ⟨_, (pss_cons (ps_stop (ps_set (i := 3) sc_answer.nd rfl (Or.inl rfl) (pe_ix ix_tup (C8.pe_gc rfl T.c_CALLS) (pv 1) (fun _ _ => rfl))))
 (pss_cons (ps_stop (ps_if (pt_cmpR op_eq (pe_callB call_len_seq (by rfl) T.n_len (by decide +kernel) (pa_cons (pv 2) pa_nil)) pe_int (nomark _)) (pss_one (ps_ret (pe_callA hA hr (i := 3) rfl (.inl rfl) (pa_cons (pv 0) pa_nil)))) pss_nil))
 (pss_cons (ps_stop (ps_if (pt_cmpR op_eq (pe_callB call_len_seq (by rfl) T.n_len (by decide +kernel) (pa_cons (pv 2) pa_nil)) pe_int (nomark _)) (pss_one (ps_ret (pe_callA hA hr (i := 3) rfl (.inl rfl) (pa_cons (pv 0) (pa_cons (pe_ix ix_list (pv 2) pe_int (fun _ _ => rfl)) pa_nil))))) pss_nil))
 (pss_cons (ps_stop (ps_if (pt_cmpR op_eq (pe_callB call_len_seq (by rfl) T.n_len (by decide +kernel) (pa_cons (pv 2) pa_nil)) pe_int (nomark _)) (pss_one (ps_ret (pe_callA hA hr (i := 3) rfl (.inl rfl) (pa_cons (pv 0) (pa_cons (pe_ix ix_list (pv 2) pe_int (fun _ _ => rfl)) (pa_cons (pe_ix ix_list (pv 2) pe_int (fun _ _ => rfl)) pa_nil)))))) pss_nil))
 (pss_one (ps_stop (ps_ret (pe_callA hA hr (i := 3) rfl (.inl rfl) (pa_cons (pv 0) (pa_cons (pe_ix ix_list (pv 2) pe_int (fun _ _ => rfl)) (pa_cons (pe_ix ix_list (pv 2) pe_int (fun _ _ => rfl)) (pa_cons (pe_ix ix_list (pv 2) pe_int (fun _ _ => rfl)) pa_nil)))))))))))), ?_⟩
  have go := go h a s Q (fun _ _ _ => False) hp gd q
  (refine Stop.go ?_; get_elem_tactic_extensible)
  (refine Stop.go ?_; get_elem_tactic_extensible)
  have no : ∀ (n m : Nat), n ≠ m → ¬ V.int ((n : Nat) : Int) = V.int ((m : Nat) : Int) := fun n m h e => h (Int.ofNat_inj.mp (V.int.inj e))
  cases xs with
  | nil =>
    refine ifd (fun _ => ?_) fun e => absurd rfl e
    refine ⟨fx, spx, rfl, hS, ?_⟩
    get_elem_tactic_extensible
    exact go
  | cons x0 xs =>
    cases xs with
    | nil =>
      refine ifd (fun e => absurd e (no 1 0 (by decide))) fun _ => ?_
      (refine Stop.go ?_; get_elem_tactic_extensible)
      refine ⟨spx, rfl, hS, ?_⟩
      get_elem_tactic_extensible
      exact go
    | cons x1 xs =>
      cases xs with
      | nil =>
        refine ifd (fun e => absurd e (no 2 0 (by decide))) fun _ => ?_
        (refine Stop.go ?_; get_elem_tactic_extensible)
        (refine Stop.go ?_; get_elem_tactic_extensible)
        refine ⟨spx, rfl, hS, ?_⟩
        get_elem_tactic_extensible
        exact go
      | cons x2 xs =>
        cases xs with
        | nil =>
          refine ifd (fun e => absurd e (no 3 0 (by decide))) fun _ => ?_
          (refine Stop.go ?_; get_elem_tactic_extensible)
          (refine Stop.go ?_; get_elem_tactic_extensible)
          (refine Stop.go ?_; get_elem_tactic_extensible)
          refine ⟨spx, rfl, hS, ?_⟩
          get_elem_tactic_extensible
          exact go
        | cons x3 xs =>
          simp only [List.length_cons] at xl
          omega
end EH

/-! ## EHZ4 -/
namespace EH
open PySem PySem.Spec PyProof.Rows L2 EHR
local macro_rules | `(tactic| decreasing_trivial_pre_omega) => `(tactic| first
  | assumption
  | rfl
  | exact lk_here
  | exact Txt.cl_Ledger (by assumption) | exact Txt.cl_Rules (by assumption) | exact Txt.cl_School (by assumption) | exact Txt.cl_Offer (by assumption) | exact Txt.cl_House (by assumption)
  | exact Txt.na_Ledger (by assumption) _ (by decide +kernel) | exact Txt.na_Rules (by assumption) _ (by decide +kernel) | exact Txt.na_School (by assumption) _ (by decide +kernel) | exact Txt.na_Offer (by assumption) _ (by decide +kernel) | exact Txt.na_House (by assumption) _ (by decide +kernel)
  | exact (lk_past (by decide +kernel)).trans lk_here
  | exact (lk_past (by decide +kernel)).trans ((lk_past (by decide +kernel)).trans lk_here)
  | exact (lk_past (by decide +kernel)).trans ((lk_past (by decide +kernel)).trans ((lk_past (by decide +kernel)).trans lk_here))
  | exact (lk_past (by decide +kernel)).trans ((lk_past (by decide +kernel)).trans ((lk_past (by decide +kernel)).trans ((lk_past (by decide +kernel)).trans lk_here)))
  | exact (lk_past (by decide +kernel)).trans ((lk_past (by decide +kernel)).trans ((lk_past (by decide +kernel)).trans ((lk_past (by decide +kernel)).trans ((lk_past (by decide +kernel)).trans lk_here))))
  | exact (lk_past (by decide +kernel)).trans ((lk_past (by decide +kernel)).trans ((lk_past (by decide +kernel)).trans ((lk_past (by decide +kernel)).trans ((lk_past (by decide +kernel)).trans ((lk_past (by decide +kernel)).trans lk_here)))))
  | exact SqL.of (by assumption) | exact SqT.of (by assumption)
  | exact Or.inl (SqL.of (by assumption)) | exact Or.inr (SqT.of (by assumption)) | exact Or.inl (by assumption) | exact Or.inr (by assumption)
  | exact atI0 rfl | exact atI_nat (j := 1) rfl | exact atI_nat (j := 2) rfl
  | exact Or.inl ⟨rfl, _, SqL.of (by assumption)⟩
  | exact Nat.le_of_ble_eq_true rfl
  | exact Same.at1 (by assumption) (by assumption)
  | exact SqL.of (Same.at1 (by assumption) (by assumption)) | exact SqT.of (Same.at1 (by assumption) (by assumption)) | exact Or.inl (SqL.of (Same.at1 (by assumption) (by assumption))) | exact Or.inr (SqT.of (Same.at1 (by assumption) (by assumption)))
  | exact ⟨_, by assumption⟩ | exact ⟨_, rfl⟩ | trivial
  | exact dput_i (by assumption) (by assumption) | exact dput_s (by assumption) (by assumption) | exact kV_i | exact kV_s | exact isD_k (by assumption)
  | exact upd_same)
local macro_rules | `(tactic| get_elem_tactic_extensible) => `(tactic| repeat (first
  | refine And.intro (by decreasing_trivial_pre_omega) ?_
  | apply Exists.intro (α := V) | apply Exists.intro (α := Addr) | apply Exists.intro (α := List V) | apply Exists.intro (α := Int) | apply Exists.intro (α := Bool)
  | apply Exists.intro (α := List (Str × V)) | apply Exists.intro (α := Str) | apply Exists.intro (α := List (Key × V)) | apply Exists.intro (α := Option V)
  | apply Exists.intro (α := List Int) | apply Exists.intro (α := List Bool) | apply Exists.intro (α := List Str) | apply Exists.intro (α := Obj) | apply Exists.intro (α := List En) | apply Exists.intro (α := HAd) | apply Exists.intro (α := Vbdbam.State) | apply Exists.intro (α := Vbdbam.Rules) | apply Exists.intro (α := Hp) | apply Exists.intro (α := Key) | apply Exists.intro (α := Nat) | apply Exists.intro (α := Wd) | apply Exists.intro (α := Wd → List Int) | apply Exists.intro (α := Nat → Int) | apply Exists.intro (α := List Nat) | apply Exists.intro (α := List (List Nat)) | apply Exists.intro (α := List (List (List Nat))) | apply Exists.intro (α := List (List (List Int)))))
local macro_rules | `(tactic| decreasing_trivial) => `(tactic| (intro vs H Q E h; repeat (first | (obtain ⟨e, _⟩ := h; subst e; rfl) | (obtain ⟨_, h⟩ := h))))

open Vbdbam (State Ans Call)
open PyVbdbam (shape)
def stepR (s : State) (c : List (List Int)) : State := (VbdbamNeutral.step s c).1
def stR (s : State) (cs : List (List (List Int))) : State := cs.foldl stepR s
theorem played_snoc : ∀ (cs : List (List (List Int))) (s : State) (c : List (List Int)), PyFlat.played VbdbamNeutral.step s (cs ++ [c]) = PyFlat.played VbdbamNeutral.step s cs ++ [(VbdbamNeutral.step (stR s cs) c).2]
  | [], _, _ => rfl
  | x :: cs, s, c => by
    show (VbdbamNeutral.step s x).2 :: PyFlat.played VbdbamNeutral.step (VbdbamNeutral.step s x).1 (cs ++ [c]) = _
    rw [played_snoc cs]
    rfl
theorem told_snoc {l : List (List Int)} {x : List Int} : PyFlat.told (l ++ [x]) = PyFlat.told l ++ (x.length : Int) :: x := by
  unfold PyFlat.told
  rw [List.flatMap_append]
  simp
theorem flat_is (x : Ans) : VbdbamNeutral.flatAns x = flat x := rfl
theorem stR_gd : ∀ (cs : List (List (List Int))) {s : State}, Gd s → Gd (stR s cs)
  | [], _, g => g
  | c :: cs, s, g => by
    refine stR_gd cs (s := stepR s c) ?_
    unfold stepR VbdbamNeutral.step VbdbamNeutral.stepAns
    cases VbdbamNeutral.callOf c with
    | none => exact g
    | some k => exact g.step k
theorem call_of {p : Int} {xs : List Int} (h0 : 0 ≤ p) (h1 : p ≠ 1) (h : numL[p.toNat]? = some xs.length) : ∃ c, VbdbamNeutral.callOf [p :: xs] = some c := by
  obtain ⟨n, rfl⟩ : ∃ n : Nat, p = (n : Int) := ⟨p.toNat, by omega⟩
  rw [Int.toNat_natCast] at h
  have hn : n < 20 := (List.getElem?_eq_some_iff.mp h).1
  have g0 : ∀ n : Nat, n < 20 → numL[n]? = some 0 → n = 0 ∨ n = 1 ∨ n = 2 ∨ n = 13 ∨ n = 16 ∨ n = 17 ∨ n = 18 ∨ n = 19 := by decide
  have g1 : ∀ n : Nat, n < 20 → numL[n]? = some 1 → n = 6 ∨ n = 7 ∨ n = 11 ∨ n = 12 ∨ n = 14 ∨ n = 15 := by decide
  have g2 : ∀ n : Nat, n < 20 → numL[n]? = some 2 → n = 4 ∨ n = 5 ∨ n = 8 ∨ n = 9 ∨ n = 10 := by decide
  have g3 : ∀ n : Nat, n < 20 → numL[n]? = some 3 → n = 3 := by decide
  have g4 : ∀ n : Nat, n < 20 → numL[n]? = some 0 ∨ numL[n]? = some 1 ∨ numL[n]? = some 2 ∨ numL[n]? = some 3 := by decide
  match xs, h with
  | [], h =>
    rcases g0 n hn h with c | c | c | c | c | c | c | c <;> subst c <;> first | exact ⟨_, rfl⟩ | exact absurd rfl h1
  | [x], h => rcases g1 n hn h with c | c | c | c | c | c <;> subst c <;> exact ⟨_, rfl⟩
  | [x, y], h => rcases g2 n hn h with c | c | c | c | c <;> subst c <;> exact ⟨_, rfl⟩
  | [x, y, z], h =>
    have c := g3 n hn h
    subst c
    exact ⟨_, rfl⟩
  | x :: y :: z :: u :: r, h =>
    exfalso
    rcases g4 n hn with c | c | c | c <;> rw [c] at h <;> simp at h
theorem AtO.ext {K : PySem.W.Frag} {A : Ad} {H H' : Hp} {h : Addr} {a : HAd} {s : State} {off : Nat → Int} {L : Addr} {l : List V} (p : AtO K A H h a s off) (hL : H L = some (.lst l)) (n : a.le ≠ L) (e : Ext L H H') : AtO K A H' h a s off where
  hs := p.hs.imp fun _ q => e _ _ q (ne_shp q hL rfl)
  ru := p.ru.ext hL e
  sd := e _ _ p.sd (ne_shp p.sd hL rfl)
  sc i hi := (p.sc i hi).imp fun _ q => e _ _ q (ne_shp q hL rfl)
  od := e _ _ p.od (ne_shp p.od hL rfl)
  of o ho := (p.of o ho).imp fun _ q => e _ _ q (ne_shp q hL rfl)
  lg := p.lg.imp fun _ q => e _ _ q (ne_shp q hL rfl)
  le := by
    obtain ⟨es, h1, h2⟩ := p.le
    refine ⟨es, e _ _ h1 n, h2.mono fun v x ⟨t, q1, q2⟩ => ⟨t, q1, e _ _ q2 (ne_shp q2 hL rfl)⟩⟩
  inj := p.inj
  d1 := p.d1
  d2 := p.d2
  d3 := p.d3
def outR (cs : List (List (List Int))) : List Int := PyFlat.told (PyFlat.played VbdbamNeutral.step Vbdbam.start cs)
theorem out_snoc {cs : List (List (List Int))} {c : List (List Int)} {k : Call} (h : VbdbamNeutral.callOf c = some k) :
    outR (cs ++ [c]) = outR cs ++ (((flat (Vbdbam.step (stR Vbdbam.start cs) k).2).length : Nat) : Int) :: flat (Vbdbam.step (stR Vbdbam.start cs) k).2 ∧ stR Vbdbam.start (cs ++ [c]) = (Vbdbam.step (stR Vbdbam.start cs) k).1 := by
  have e1 : VbdbamNeutral.stepAns (stR Vbdbam.start cs) c = Vbdbam.step (stR Vbdbam.start cs) k := by
    unfold VbdbamNeutral.stepAns
    rw [h]
  constructor
  · unfold outR
    have e : VbdbamNeutral.start = Vbdbam.start := rfl
    rw [played_snoc, told_snoc]
    have e2 : (VbdbamNeutral.step (stR Vbdbam.start cs) c).2 = flat (Vbdbam.step (stR Vbdbam.start cs) k).2 := by
      show VbdbamNeutral.flatAns (VbdbamNeutral.stepAns (stR Vbdbam.start cs) c).2 = _
      rw [e1]
      rfl
    rw [e2]
  · unfold stR
    rw [List.foldl_append]
    show (VbdbamNeutral.stepAns (stR Vbdbam.start cs) c).1 = _
    rw [e1]
    rfl
theorem out_len {cs ds : List (List (List Int))} : (outR cs).length ≤ (outR (cs ++ ds)).length := by
  unfold outR
  generalize Vbdbam.start = s
  induction cs generalizing s with
  | nil => exact Nat.zero_le _
  | cons c cs ih =>
    have := ih (s := (VbdbamNeutral.step s c).1)
    show (PyFlat.told ((VbdbamNeutral.step s c).2 :: PyFlat.played VbdbamNeutral.step (VbdbamNeutral.step s c).1 cs)).length ≤ (PyFlat.told ((VbdbamNeutral.step s c).2 :: PyFlat.played VbdbamNeutral.step (VbdbamNeutral.step s c).1 (cs ++ ds))).length
    unfold PyFlat.told at *
    rw [List.flatMap_cons, List.flatMap_cons, List.length_append, List.length_append]
    omega
def sp_answers_on (K : PySem.W.Frag) (A : Ad) : Sp := fun vs H Q _ => ∃ (h b : Addr) (a : HAd) (l : List Int) (raw : List (List (List Int))), vs = [.ref h, .ref b] ∧ At K A H h a Vbdbam.start ∧ SqL K H b (ints' l) ∧ l.length ≤ 100000 ∧ PyFlat.calls shape l.length l = some raw ∧
  (outR raw).length ≤ 10000000 ∧ ∀ p H', H' p = some (.lst (ints' (outR raw))) → Q (.ref p) H'
theorem ok_answers_on {P : Program} {w : World} {K : PySem.W.Frag} {mg : Str → Option Value} {base : Heap} {A : Ad} (T : Txt w K mg A) : C8.Cal P w K mg base 8 "answers_on" (sp_answers_on K A) [] := by
  refine calOf T.d_answers_on sc_answers_on (by decreasing_trivial) (fun cdv Ar outer s0 H vs Q E hr hsp => ⟨_, (pss_cons (ps_stop (ps_set (i := 2) sc_answers_on.nd rfl (Or.inl rfl) (pe_lst pa_nil)))
 (pss_cons (ps_stop (ps_for PassesOwn.never rfl (pi_list (C8.pe_c (ok_read_calls T) hr (by decide) rfl (pa_cons (pv 1) pa_nil))) (pg_name (i := 3) sc_answers_on.nd rfl (Or.inl rfl))
  (pss_cons (ps_stop (ps_set (i := 4) sc_answers_on.nd rfl (Or.inl rfl) (C8.pe_c (ok_answer T) hr (by decide) rfl (pa_cons (pv 0) (pa_cons (pe_ix ix_tup (pv 3) pe_int (fun _ _ => rfl)) (pa_cons (pe_ix ix_tup (pv 3) pe_int (fun _ _ => rfl)) pa_nil))))))
 (pss_cons (ps_stop (ps_expr (pe_bm PySem.F.plainAttrs_list PySem.F.slot_list_append PySem.F.type_list_append mt_append (pv 2) (pa_cons (pe_callB call_len_seq (by rfl) T.n_len (by decide +kernel) (pa_cons (pv 4) pa_nil)) pa_nil))))
 (pss_one (ps_stop (ps_expr (pe_bm PySem.F.plainAttrs_list PySem.F.slot_list_extend PySem.F.type_list_extend mt_extend (pv 2) (pa_cons (pv 4) pa_nil)))))))))
 (pss_one (ps_stop (ps_ret (pv 2)))))), ?_⟩)
  obtain ⟨h, b, a, l, raw, rfl, p, hl, len, hraw, lim, q⟩ := hsp
  refine Stop.go ?_
  get_elem_tactic_extensible
  intro L hL
  have s1 := Same.new (o := .lst []) hL
  have l1 : upd H L (.lst []) L = some (.lst (ints' (outR (raw.take 0)))) := upd_same
  have nL : L ≠ a.le := by
    obtain ⟨es, g, _⟩ := p.le
    exact (Same.ne g hL).symm
  generalize upd H L (.lst []) = H1 at s1 l1
  have hl := s1.seq hl
  have p1 := p.same s1
  refine Stop.go ?_
  get_elem_tactic_extensible
  intro P0 es H2 hP0 s2 lP pc el
  have p2 := p1.same s2
  have l2 := s2 _ _ l1
  have qP := SqL.of (K := K) lP
  obtain ⟨ees, hle, _⟩ := p1.le
  have nP : P0 ≠ a.le := (Same.ne hle hP0).symm
  have nPL : P0 ≠ L := (Same.ne l1 hP0).symm
  have pc2 : Paired (CallAt (fun x => x ≠ a.le ∧ x ≠ L) H2) es raw := pc.mono fun v c w => w.keep (fun b xs hb => hb) fun b xs hb nb => ⟨hb, (Same.ne hle nb.2).symm, (Same.ne l1 nb.2).symm⟩
  get_elem_tactic_extensible
  refine for_it (walk_list (xs := es)) (fun i σ H' => Hold (∃ (ai : HAd) (z3 z4 : Option V), σ = [some (.ref h), some (.ref b), some (.ref L), z3, z4] ∧ At K A H' h ai (stR Vbdbam.start (raw.take i)) ∧ H' L = some (.lst (ints' (outR (raw.take i)))) ∧ L ≠ ai.le ∧ H' P0 = some (.lst es) ∧ P0 ≠ ai.le ∧ Paired (CallAt (fun x => x ≠ ai.le ∧ x ≠ L) H') es raw)) ⟨a, _, _, rfl, p2, l2, nL, lP, nP, pc2⟩ (fun i σ H' _ w => by obtain ⟨_, _, _, _, _, _, _, g, _⟩ := w.h; exact SqL.of g) (fun i x σ H3 H' hi y0 y => ?_) (fun σ H' q1 => ?_)
  · obtain ⟨rfl, hx⟩ := y
    obtain ⟨ai, z3, z4, rfl, pi, li, ni, lPi, nPi, pci⟩ := y0.h
    obtain ⟨c, hc, tp, hl', pp, rfl, ht, nhl, hcase⟩ := paired_at pci hx
    have gi := stR_gd (raw.take i) Gd.start
    have tq := SqT.of (K := K) ht
    obtain ⟨k, hk, hand⟩ : ∃ k, VbdbamNeutral.callOf c = some k ∧ HandAt K H' hl' pp k := by
      rcases hcase with ⟨tl, t, rfl, rfl, n3, t4, t5, t6⟩ | ⟨xs, rfl, p1, p0, hn, t5⟩
      · exact ⟨.rules t, rfl, .inl ⟨tl, t, rfl, rfl, SqL.of t5, SqL.of t6, t4⟩⟩
      · obtain ⟨k, hk⟩ := call_of p0 p1 hn
        exact ⟨k, hk, .inr ⟨xs, p1, hk, SqL.of t5⟩⟩
    obtain ⟨o1, o2⟩ := out_snoc (cs := raw.take i) hk
    rw [← take_one hc] at o1 o2
    have tot : (outR (raw.take (i + 1))).length ≤ 10000000 := by
      refine Nat.le_trans (out_len (ds := raw.drop (i + 1))) ?_
      rw [List.take_append_drop]
      exact lim
    generalize stR Vbdbam.start (raw.take i) = si at *
    refine Stop.go ?_
    get_elem_tactic_extensible
    refine ⟨k, rfl, pi, gi, hand, ⟨fun H4 a4 q0 p4 f4 lc nw hq => ?_⟩⟩
    have e4 : (ints' (outR (raw.take i))).length = (outR (raw.take i)).length := by simp [ints']
    have e5 : (ints' (flat (Vbdbam.step si k).2)).length = (flat (Vbdbam.step si k).2).length := by simp [ints']
    have l4 := f4 _ _ li rfl ni
    have nq : L ≠ q0 := nw _ _ li rfl ni
    have lP4 := f4 _ _ lPi rfl nPi
    have n4 : L ≠ a4.le := by
      rcases lc with e | e
      · rw [e]; exact ni
      · exact Same.ne li e
    have nP4 : P0 ≠ a4.le := by
      rcases lc with e | e
      · rw [e]; exact nPi
      · exact Same.ne lPi e
    have pc4 : Paired (CallAt (fun x => x ≠ a4.le ∧ x ≠ L) H4) es raw := pci.mono fun v c w => w.keep (fun b xs hb => f4 _ _ hb rfl (by
      obtain ⟨ees, g, _⟩ := pi.le
      exact ne_shp hb g rfl)) fun b xs hb nb => ⟨f4 _ _ hb rfl nb.1, by
        rcases lc with e | e
        · rw [e]; exact nb.1
        · exact Same.ne hb e, nb.2⟩
    have qq := SqL.of (K := K) hq
    have sz1 : (ints' (outR (raw.take i))).length < sizeLine := by
      rw [e4]
      rw [o1, List.length_append] at tot
      exact Nat.lt_of_le_of_lt (Nat.le_trans (Nat.le_add_right _ _) tot) (by decide)
    have hq : H4 q0 = some (.lst (ints' (flat (Vbdbam.step si k).2))) := hq
    have qq : SqL K H4 q0 (ints' (flat (Vbdbam.step si k).2)) := qq
    generalize hout : flat (Vbdbam.step si k).2 = out at *
    refine Stop.go ?_
    get_elem_tactic_extensible
    rw [e5]
    have e6 : Ext L H4 (upd H4 L (.lst (ints' (outR (raw.take i)) ++ [.int (out.length : Nat)]))) := .upd
    have l6 : upd H4 L (.lst (ints' (outR (raw.take i)) ++ [.int (out.length : Nat)])) L = some (.lst (ints' (outR (raw.take i)) ++ [.int (out.length : Nat)])) := upd_same
    generalize upd H4 L (.lst (ints' (outR (raw.take i)) ++ [.int (out.length : Nat)])) = H6 at e6 l6
    have hq6 := e6 _ _ hq nq.symm
    have sz2 : (ints' (outR (raw.take i)) ++ [V.int (out.length : Nat)]).length + (ints' out).length ≤ sizeLine := by
      rw [o1, List.length_append, List.length_cons] at tot
      rw [List.length_append, e4, e5]
      refine Nat.le_trans ?_ (show 10000000 ≤ sizeLine by decide)
      simp only [List.length_cons, List.length_nil]
      omega
    refine Stop.go ?_
    get_elem_tactic_extensible
    have e7 : Ext L H4 (upd H6 L (.lst (ints' (outR (raw.take i)) ++ [.int (out.length : Nat)] ++ ints' out))) := e6.trans .upd
    refine ⟨a4, _, _, rfl, ?_, ?_, n4, e7 _ _ lP4 nPL, nP4, pc4.mono fun v c w => w.keep (fun b xs hb => e7 _ _ hb (ne_shp hb l4 rfl)) fun b xs hb nb => ⟨e7 _ _ hb nb.2, nb⟩⟩
    · rw [o2]
      exact p4.ext l4 n4.symm e7
    · rw [upd_same, o1]
      unfold ints'
      rw [List.map_append, List.append_assoc]
      rfl
  · obtain ⟨ai, z3, z4, rfl, pi, li, ni, lPi, nPi, pci⟩ := q1.h
    have : es.length = raw.length := Paired.length pc2
    rw [this, List.take_length] at li
    (refine Stop.go ?_; get_elem_tactic_extensible)
    exact q L H' li
theorem whole_id (c : List (List Int)) : PyVbdbam.whole c = c := by
  unfold PyVbdbam.whole
  split <;> rfl
theorem answers_eq {l : List Int} {raw : List (List (List Int))} (h : PyFlat.calls shape l.length l = some raw) : PyVbdbam.answers l = outR raw := by
  unfold PyVbdbam.answers PyVbdbam.calls
  rw [h]
  have : raw.map PyVbdbam.whole = raw := by
    have e : raw.map PyVbdbam.whole = raw.map id := List.map_congr_left fun c _ => whole_id c
    rw [e, List.map_id]
  simp only [this]
  rfl
def sp_main (K : PySem.W.Frag) : Sp := fun vs H Q _ => ∃ (b : Addr) (l : List Int), vs = [.ref b] ∧ SqL K H b (ints' l) ∧ l.length ≤ 100000 ∧ PyVbdbam.answers_asked l = true ∧ ∀ p H', H' p = some (.lst (ints' (PyVbdbam.answers l))) → Q (.ref p) H'
def sp_answers (K : PySem.W.Frag) (_ : Ad) : Sp := sp_main K
theorem asked_of {l : List Int} (h : PyVbdbam.answers_asked l = true) : ∃ raw, PyFlat.calls shape l.length l = some raw ∧ (PyVbdbam.answers l).length ≤ 10000000 := by
  unfold PyVbdbam.answers_asked at h
  cases e : PyFlat.calls shape l.length l with
  | none => simp only [e] at h; cases h
  | some raw =>
    refine ⟨raw, rfl, ?_⟩
    simp only [e, Bool.and_eq_true] at h
    exact of_decide_eq_true h.2
theorem ok_answers {P : Program} {w : World} {K : PySem.W.Frag} {mg : Str → Option Value} {base : Heap} {A : Ad} (T : Txt w K mg A) : C8.Cal P w K mg base 9 "answers" (sp_answers K A) [] := by
  refine calOf T.d_answers sc_answers (by decreasing_trivial) (fun cdv Ar outer s0 H vs Q E hr hsp => ⟨_, (pss_one (ps_ret (C8.pe_c (ok_answers_on T) hr (by decide) rfl (pa_cons (pe_mk0 (ok_House_init T) hr (by decide) rfl) (pa_cons (pv 0) pa_nil))))), ?_⟩)
  obtain ⟨b, l, rfl, hl, len, ask, q⟩ := hsp
  obtain ⟨raw, hraw, lim⟩ := asked_of ask
  rw [answers_eq hraw] at q lim
  get_elem_tactic_extensible
  intro x dx hx hdx hne
  refine ⟨x, dx, rfl, upd_same, fun H1 a p1 e1 n1 => ⟨rfl, ?_⟩⟩
  have s1 : Same H H1 := fun c o hc => e1 _ _ (by rw [upd_ne (Same.ne hc hx), upd_ne (Same.ne hc hdx)]; exact hc) (Same.ne hc hx)
  have hl := s1.seq hl
  get_elem_tactic_extensible
  exact q
end EH

/-! ## EHZ5 -/
namespace EH
open PySem PySem.Spec PyProof.Rows L2 EHR
local macro_rules | `(tactic| decreasing_trivial_pre_omega) => `(tactic| first
  | assumption
  | rfl
  | exact lk_here
  | exact Txt.cl_Ledger (by assumption) | exact Txt.cl_Rules (by assumption) | exact Txt.cl_School (by assumption) | exact Txt.cl_Offer (by assumption) | exact Txt.cl_House (by assumption)
  | exact Txt.na_Ledger (by assumption) _ (by decide +kernel) | exact Txt.na_Rules (by assumption) _ (by decide +kernel) | exact Txt.na_School (by assumption) _ (by decide +kernel) | exact Txt.na_Offer (by assumption) _ (by decide +kernel) | exact Txt.na_House (by assumption) _ (by decide +kernel)
  | exact (lk_past (by decide +kernel)).trans lk_here
  | exact (lk_past (by decide +kernel)).trans ((lk_past (by decide +kernel)).trans lk_here)
  | exact (lk_past (by decide +kernel)).trans ((lk_past (by decide +kernel)).trans ((lk_past (by decide +kernel)).trans lk_here))
  | exact (lk_past (by decide +kernel)).trans ((lk_past (by decide +kernel)).trans ((lk_past (by decide +kernel)).trans ((lk_past (by decide +kernel)).trans lk_here)))
  | exact (lk_past (by decide +kernel)).trans ((lk_past (by decide +kernel)).trans ((lk_past (by decide +kernel)).trans ((lk_past (by decide +kernel)).trans ((lk_past (by decide +kernel)).trans lk_here))))
  | exact (lk_past (by decide +kernel)).trans ((lk_past (by decide +kernel)).trans ((lk_past (by decide +kernel)).trans ((lk_past (by decide +kernel)).trans ((lk_past (by decide +kernel)).trans ((lk_past (by decide +kernel)).trans lk_here)))))
  | exact SqL.of (by assumption) | exact SqT.of (by assumption)
  | exact Or.inl (SqL.of (by assumption)) | exact Or.inr (SqT.of (by assumption)) | exact Or.inl (by assumption) | exact Or.inr (by assumption)
  | exact atI0 rfl | exact atI_nat (j := 1) rfl | exact atI_nat (j := 2) rfl
  | exact Or.inl ⟨rfl, _, SqL.of (by assumption)⟩
  | exact Nat.le_of_ble_eq_true rfl
  | exact Same.at1 (by assumption) (by assumption)
  | exact SqL.of (Same.at1 (by assumption) (by assumption)) | exact SqT.of (Same.at1 (by assumption) (by assumption)) | exact Or.inl (SqL.of (Same.at1 (by assumption) (by assumption))) | exact Or.inr (SqT.of (Same.at1 (by assumption) (by assumption)))
  | exact ⟨_, by assumption⟩ | exact ⟨_, rfl⟩ | trivial
  | exact dput_i (by assumption) (by assumption) | exact dput_s (by assumption) (by assumption) | exact kV_i | exact kV_s | exact isD_k (by assumption)
  | exact upd_same)
local macro_rules | `(tactic| get_elem_tactic_extensible) => `(tactic| repeat (first
  | refine And.intro (by decreasing_trivial_pre_omega) ?_
  | apply Exists.intro (α := V) | apply Exists.intro (α := Addr) | apply Exists.intro (α := List V) | apply Exists.intro (α := Int) | apply Exists.intro (α := Bool)
  | apply Exists.intro (α := List (Str × V)) | apply Exists.intro (α := Str) | apply Exists.intro (α := List (Key × V)) | apply Exists.intro (α := Option V)
  | apply Exists.intro (α := List Int) | apply Exists.intro (α := List Bool) | apply Exists.intro (α := List Str) | apply Exists.intro (α := Obj) | apply Exists.intro (α := List En) | apply Exists.intro (α := HAd) | apply Exists.intro (α := Vbdbam.State) | apply Exists.intro (α := Vbdbam.Rules) | apply Exists.intro (α := Hp) | apply Exists.intro (α := Key) | apply Exists.intro (α := Nat) | apply Exists.intro (α := Wd) | apply Exists.intro (α := Wd → List Int) | apply Exists.intro (α := Nat → Int) | apply Exists.intro (α := List Nat) | apply Exists.intro (α := List (List Nat)) | apply Exists.intro (α := List (List (List Nat))) | apply Exists.intro (α := List (List (List Int)))))
local macro_rules | `(tactic| decreasing_trivial) => `(tactic| (intro vs H Q E h; repeat (first | (obtain ⟨e, _⟩ := h; subst e; rfl) | (obtain ⟨_, h⟩ := h))))

open PyVbdbam (shape)
theorem fn_answers {P : Program} {w : World} {K : PySem.W.Frag} {mg : Str → Option Value} {base : Heap} {A : Ad} (T : Txt w K mg A) {f : Addr} {fd : FuncData} (F : C8.Fun K "answers" "answers" s_answers f fd) : FnOk P w K mg base C8.CX0 9 f fd ["calls"] (sp_main K) := by
  refine C8.fn0 F sc_answers (by decreasing_trivial) (fun cdv Ar outer s0 H vs Q E hr hsp => ⟨_, (pss_one (ps_ret (C8.pe_c (ok_answers_on T) hr (by decide) rfl (pa_cons (pe_mk0 (ok_House_init T) hr (by decide) rfl) (pa_cons (pv 0) pa_nil))))), ?_⟩)
  obtain ⟨b, l, rfl, hl, len, ask, q⟩ := hsp
  obtain ⟨raw, hraw, lim⟩ := asked_of ask
  rw [answers_eq hraw] at q lim
  get_elem_tactic_extensible
  intro x dx hx hdx hne
  refine ⟨x, dx, rfl, upd_same, fun H1 a p1 e1 n1 => ⟨rfl, ?_⟩⟩
  have s1 : Same H H1 := fun c o hc => e1 _ _ (by rw [upd_ne (Same.ne hc hx), upd_ne (Same.ne hc hdx)]; exact hc) (Same.ne hc hx)
  have hl := s1.seq hl
  get_elem_tactic_extensible
  exact q
end EH

/-! ## EHF -/
namespace EH
open PySem PySem.Spec PyProof.Rows L2 EHR
theorem seq_txt {K : PySem.W.Frag} {a : Addr} {dt : Option Addr} {it : Array Value} {nn : Nat} {sl : Array (Option Value)} {xs : List V} (l : K.lookup a = some ⟨.type "tuple", dt, .seq it nn, sl⟩) (z : it.size ≤ 100) (v : Vals xs it.toList) (H : Hp) : SqT K H a xs :=
  .inr ⟨_, it, nn, l, rfl, rfl, Nat.le_trans z (by decide), v⟩
theorem txt_mk {w : World} {K : PySem.W.Frag} {h : Heap} {mg : Str → Option Value} {cLedger cRules cSchool cOffer cHouse f_Ledger_init f_Ledger_has_room f_Ledger_write f_Ledger_entries_of f_Ledger_account_of f_Rules_init f_Rules_one f_Rules_judges_owed f_Rules_percent f_Rules_row f_Rules_shown f_School_init f_School_load f_Offer_init f_House_init f_House_begin f_House_most f_House_waits f_House_taken f_House_free f_House_turns f_House_last_day f_House_pass_night f_House_make_offers f_House_make_offer f_House_end_offer f_House_lose_offer f_House_take_place f_House_give_up_places f_House_missing f_House_shut f_House_fine_schools f_balance f_sums f_amount_of f_shown_line f_read_lines f_words_of f_first_fault f_fault_of f_numbers_fit f_is_number f_within_bounds f_pairs_fit f_rules_of f_clear f_rules f_show f_enter f_want f_bring f_accept f_decline f_drop f_transfer f_pay f_payout f_night f_close f_tell_school f_tell_account f_tell_offers f_tell_queue f_tell_money f_tell_counts f_answers f_answers_on f_read_calls f_answer dU dB tC tN u_places u_form u_cap u_judges u_fee u_fine u_answer u_start u_back b_places b_form b_cap b_judges b_fee b_fine b_answer b_start bi_places bi_form bi_cap bi_judges bi_fee bi_fine bi_answer bi_start bj_judges : Addr}
    {od_Ledger_init an_Ledger_init : Option Addr} {sl_Ledger_init : Array (Option Value)} {oc_Ledger_init kV_Ledger_init dc_Ledger_init pm_Ledger_init cd_Ledger_init ct_Ledger_init : Value}
    {od_Ledger_has_room an_Ledger_has_room : Option Addr} {sl_Ledger_has_room : Array (Option Value)} {oc_Ledger_has_room kV_Ledger_has_room dc_Ledger_has_room pm_Ledger_has_room cd_Ledger_has_room ct_Ledger_has_room : Value}
    {od_Ledger_write an_Ledger_write : Option Addr} {sl_Ledger_write : Array (Option Value)} {oc_Ledger_write kV_Ledger_write dc_Ledger_write pm_Ledger_write cd_Ledger_write ct_Ledger_write : Value}
    {od_Ledger_entries_of an_Ledger_entries_of : Option Addr} {sl_Ledger_entries_of : Array (Option Value)} {oc_Ledger_entries_of kV_Ledger_entries_of dc_Ledger_entries_of pm_Ledger_entries_of cd_Ledger_entries_of ct_Ledger_entries_of : Value}
    {od_Ledger_account_of an_Ledger_account_of : Option Addr} {sl_Ledger_account_of : Array (Option Value)} {oc_Ledger_account_of kV_Ledger_account_of dc_Ledger_account_of pm_Ledger_account_of cd_Ledger_account_of ct_Ledger_account_of : Value}
    {od_Rules_init an_Rules_init : Option Addr} {sl_Rules_init : Array (Option Value)} {oc_Rules_init kV_Rules_init dc_Rules_init pm_Rules_init cd_Rules_init ct_Rules_init : Value}
    {od_Rules_one an_Rules_one : Option Addr} {sl_Rules_one : Array (Option Value)} {oc_Rules_one kV_Rules_one dc_Rules_one pm_Rules_one cd_Rules_one ct_Rules_one : Value}
    {od_Rules_judges_owed an_Rules_judges_owed : Option Addr} {sl_Rules_judges_owed : Array (Option Value)} {oc_Rules_judges_owed kV_Rules_judges_owed dc_Rules_judges_owed pm_Rules_judges_owed cd_Rules_judges_owed ct_Rules_judges_owed : Value}
    {od_Rules_percent an_Rules_percent : Option Addr} {sl_Rules_percent : Array (Option Value)} {oc_Rules_percent kV_Rules_percent dc_Rules_percent pm_Rules_percent cd_Rules_percent ct_Rules_percent : Value}
    {od_Rules_row an_Rules_row : Option Addr} {sl_Rules_row : Array (Option Value)} {oc_Rules_row kV_Rules_row dc_Rules_row pm_Rules_row cd_Rules_row ct_Rules_row : Value}
    {od_Rules_shown an_Rules_shown : Option Addr} {sl_Rules_shown : Array (Option Value)} {oc_Rules_shown kV_Rules_shown dc_Rules_shown pm_Rules_shown cd_Rules_shown ct_Rules_shown : Value}
    {od_School_init an_School_init : Option Addr} {sl_School_init : Array (Option Value)} {oc_School_init kV_School_init dc_School_init pm_School_init cd_School_init ct_School_init : Value}
    {od_School_load an_School_load : Option Addr} {sl_School_load : Array (Option Value)} {oc_School_load kV_School_load dc_School_load pm_School_load cd_School_load ct_School_load : Value}
    {od_Offer_init an_Offer_init : Option Addr} {sl_Offer_init : Array (Option Value)} {oc_Offer_init kV_Offer_init dc_Offer_init pm_Offer_init cd_Offer_init ct_Offer_init : Value}
    {od_House_init an_House_init : Option Addr} {sl_House_init : Array (Option Value)} {oc_House_init kV_House_init dc_House_init pm_House_init cd_House_init ct_House_init : Value}
    {od_House_begin an_House_begin : Option Addr} {sl_House_begin : Array (Option Value)} {oc_House_begin kV_House_begin dc_House_begin pm_House_begin cd_House_begin ct_House_begin : Value}
    {od_House_most an_House_most : Option Addr} {sl_House_most : Array (Option Value)} {oc_House_most kV_House_most dc_House_most pm_House_most cd_House_most ct_House_most : Value}
    {od_House_waits an_House_waits : Option Addr} {sl_House_waits : Array (Option Value)} {oc_House_waits kV_House_waits dc_House_waits pm_House_waits cd_House_waits ct_House_waits : Value}
    {od_House_taken an_House_taken : Option Addr} {sl_House_taken : Array (Option Value)} {oc_House_taken kV_House_taken dc_House_taken pm_House_taken cd_House_taken ct_House_taken : Value}
    {od_House_free an_House_free : Option Addr} {sl_House_free : Array (Option Value)} {oc_House_free kV_House_free dc_House_free pm_House_free cd_House_free ct_House_free : Value}
    {od_House_turns an_House_turns : Option Addr} {sl_House_turns : Array (Option Value)} {oc_House_turns kV_House_turns dc_House_turns pm_House_turns cd_House_turns ct_House_turns : Value}
    {od_House_last_day an_House_last_day : Option Addr} {sl_House_last_day : Array (Option Value)} {oc_House_last_day kV_House_last_day dc_House_last_day pm_House_last_day cd_House_last_day ct_House_last_day : Value}
    {od_House_pass_night an_House_pass_night : Option Addr} {sl_House_pass_night : Array (Option Value)} {oc_House_pass_night kV_House_pass_night dc_House_pass_night pm_House_pass_night cd_House_pass_night ct_House_pass_night : Value}
    {od_House_make_offers an_House_make_offers : Option Addr} {sl_House_make_offers : Array (Option Value)} {oc_House_make_offers kV_House_make_offers dc_House_make_offers pm_House_make_offers cd_House_make_offers ct_House_make_offers : Value}
    {od_House_make_offer an_House_make_offer : Option Addr} {sl_House_make_offer : Array (Option Value)} {oc_House_make_offer kV_House_make_offer dc_House_make_offer pm_House_make_offer cd_House_make_offer ct_House_make_offer : Value}
    {od_House_end_offer an_House_end_offer : Option Addr} {sl_House_end_offer : Array (Option Value)} {oc_House_end_offer kV_House_end_offer dc_House_end_offer pm_House_end_offer cd_House_end_offer ct_House_end_offer : Value}
    {od_House_lose_offer an_House_lose_offer : Option Addr} {sl_House_lose_offer : Array (Option Value)} {oc_House_lose_offer kV_House_lose_offer dc_House_lose_offer pm_House_lose_offer cd_House_lose_offer ct_House_lose_offer : Value}
    {od_House_take_place an_House_take_place : Option Addr} {sl_House_take_place : Array (Option Value)} {oc_House_take_place kV_House_take_place dc_House_take_place pm_House_take_place cd_House_take_place ct_House_take_place : Value}
    {od_House_give_up_places an_House_give_up_places : Option Addr} {sl_House_give_up_places : Array (Option Value)} {oc_House_give_up_places kV_House_give_up_places dc_House_give_up_places pm_House_give_up_places cd_House_give_up_places ct_House_give_up_places : Value}
    {od_House_missing an_House_missing : Option Addr} {sl_House_missing : Array (Option Value)} {oc_House_missing kV_House_missing dc_House_missing pm_House_missing cd_House_missing ct_House_missing : Value}
    {od_House_shut an_House_shut : Option Addr} {sl_House_shut : Array (Option Value)} {oc_House_shut kV_House_shut dc_House_shut pm_House_shut cd_House_shut ct_House_shut : Value}
    {od_House_fine_schools an_House_fine_schools : Option Addr} {sl_House_fine_schools : Array (Option Value)} {oc_House_fine_schools kV_House_fine_schools dc_House_fine_schools pm_House_fine_schools cd_House_fine_schools ct_House_fine_schools : Value}
    {od_balance an_balance : Option Addr} {sl_balance : Array (Option Value)} {oc_balance kV_balance dc_balance pm_balance cd_balance ct_balance : Value}
    {od_sums an_sums : Option Addr} {sl_sums : Array (Option Value)} {oc_sums kV_sums dc_sums pm_sums cd_sums ct_sums : Value}
    {od_amount_of an_amount_of : Option Addr} {sl_amount_of : Array (Option Value)} {oc_amount_of kV_amount_of dc_amount_of pm_amount_of cd_amount_of ct_amount_of : Value}
    {od_shown_line an_shown_line : Option Addr} {sl_shown_line : Array (Option Value)} {oc_shown_line kV_shown_line dc_shown_line pm_shown_line cd_shown_line ct_shown_line : Value}
    {od_read_lines an_read_lines : Option Addr} {sl_read_lines : Array (Option Value)} {oc_read_lines kV_read_lines dc_read_lines pm_read_lines cd_read_lines ct_read_lines : Value}
    {od_words_of an_words_of : Option Addr} {sl_words_of : Array (Option Value)} {oc_words_of kV_words_of dc_words_of pm_words_of cd_words_of ct_words_of : Value}
    {od_first_fault an_first_fault : Option Addr} {sl_first_fault : Array (Option Value)} {oc_first_fault kV_first_fault dc_first_fault pm_first_fault cd_first_fault ct_first_fault : Value}
    {od_fault_of an_fault_of : Option Addr} {sl_fault_of : Array (Option Value)} {oc_fault_of kV_fault_of dc_fault_of pm_fault_of cd_fault_of ct_fault_of : Value}
    {od_numbers_fit an_numbers_fit : Option Addr} {sl_numbers_fit : Array (Option Value)} {oc_numbers_fit kV_numbers_fit dc_numbers_fit pm_numbers_fit cd_numbers_fit ct_numbers_fit : Value}
    {od_is_number an_is_number : Option Addr} {sl_is_number : Array (Option Value)} {oc_is_number kV_is_number dc_is_number pm_is_number cd_is_number ct_is_number : Value}
    {od_within_bounds an_within_bounds : Option Addr} {sl_within_bounds : Array (Option Value)} {oc_within_bounds kV_within_bounds dc_within_bounds pm_within_bounds cd_within_bounds ct_within_bounds : Value}
    {od_pairs_fit an_pairs_fit : Option Addr} {sl_pairs_fit : Array (Option Value)} {oc_pairs_fit kV_pairs_fit dc_pairs_fit pm_pairs_fit cd_pairs_fit ct_pairs_fit : Value}
    {od_rules_of an_rules_of : Option Addr} {sl_rules_of : Array (Option Value)} {oc_rules_of kV_rules_of dc_rules_of pm_rules_of cd_rules_of ct_rules_of : Value}
    {od_clear an_clear : Option Addr} {sl_clear : Array (Option Value)} {oc_clear kV_clear dc_clear pm_clear cd_clear ct_clear : Value}
    {od_rules an_rules : Option Addr} {sl_rules : Array (Option Value)} {oc_rules kV_rules dc_rules pm_rules cd_rules ct_rules : Value}
    {od_show an_show : Option Addr} {sl_show : Array (Option Value)} {oc_show kV_show dc_show pm_show cd_show ct_show : Value}
    {od_enter an_enter : Option Addr} {sl_enter : Array (Option Value)} {oc_enter kV_enter dc_enter pm_enter cd_enter ct_enter : Value}
    {od_want an_want : Option Addr} {sl_want : Array (Option Value)} {oc_want kV_want dc_want pm_want cd_want ct_want : Value}
    {od_bring an_bring : Option Addr} {sl_bring : Array (Option Value)} {oc_bring kV_bring dc_bring pm_bring cd_bring ct_bring : Value}
    {od_accept an_accept : Option Addr} {sl_accept : Array (Option Value)} {oc_accept kV_accept dc_accept pm_accept cd_accept ct_accept : Value}
    {od_decline an_decline : Option Addr} {sl_decline : Array (Option Value)} {oc_decline kV_decline dc_decline pm_decline cd_decline ct_decline : Value}
    {od_drop an_drop : Option Addr} {sl_drop : Array (Option Value)} {oc_drop kV_drop dc_drop pm_drop cd_drop ct_drop : Value}
    {od_transfer an_transfer : Option Addr} {sl_transfer : Array (Option Value)} {oc_transfer kV_transfer dc_transfer pm_transfer cd_transfer ct_transfer : Value}
    {od_pay an_pay : Option Addr} {sl_pay : Array (Option Value)} {oc_pay kV_pay dc_pay pm_pay cd_pay ct_pay : Value}
    {od_payout an_payout : Option Addr} {sl_payout : Array (Option Value)} {oc_payout kV_payout dc_payout pm_payout cd_payout ct_payout : Value}
    {od_night an_night : Option Addr} {sl_night : Array (Option Value)} {oc_night kV_night dc_night pm_night cd_night ct_night : Value}
    {od_close an_close : Option Addr} {sl_close : Array (Option Value)} {oc_close kV_close dc_close pm_close cd_close ct_close : Value}
    {od_tell_school an_tell_school : Option Addr} {sl_tell_school : Array (Option Value)} {oc_tell_school kV_tell_school dc_tell_school pm_tell_school cd_tell_school ct_tell_school : Value}
    {od_tell_account an_tell_account : Option Addr} {sl_tell_account : Array (Option Value)} {oc_tell_account kV_tell_account dc_tell_account pm_tell_account cd_tell_account ct_tell_account : Value}
    {od_tell_offers an_tell_offers : Option Addr} {sl_tell_offers : Array (Option Value)} {oc_tell_offers kV_tell_offers dc_tell_offers pm_tell_offers cd_tell_offers ct_tell_offers : Value}
    {od_tell_queue an_tell_queue : Option Addr} {sl_tell_queue : Array (Option Value)} {oc_tell_queue kV_tell_queue dc_tell_queue pm_tell_queue cd_tell_queue ct_tell_queue : Value}
    {od_tell_money an_tell_money : Option Addr} {sl_tell_money : Array (Option Value)} {oc_tell_money kV_tell_money dc_tell_money pm_tell_money cd_tell_money ct_tell_money : Value}
    {od_tell_counts an_tell_counts : Option Addr} {sl_tell_counts : Array (Option Value)} {oc_tell_counts kV_tell_counts dc_tell_counts pm_tell_counts cd_tell_counts ct_tell_counts : Value}
    {od_answers an_answers : Option Addr} {sl_answers : Array (Option Value)} {oc_answers kV_answers dc_answers pm_answers cd_answers ct_answers : Value}
    {od_answers_on an_answers_on : Option Addr} {sl_answers_on : Array (Option Value)} {oc_answers_on kV_answers_on dc_answers_on pm_answers_on cd_answers_on ct_answers_on : Value}
    {od_read_calls an_read_calls : Option Addr} {sl_read_calls : Array (Option Value)} {oc_read_calls kV_read_calls dc_read_calls pm_read_calls cd_read_calls ct_read_calls : Value}
    {od_answer an_answer : Option Addr} {sl_answer : Array (Option Value)} {oc_answer kV_answer dc_answer pm_answer cd_answer ct_answer : Value}
    {t_MOST_ENTRIES : Tok}
    {t_PAID : Tok}
    {t_FEE : Tok}
    {t_GIVEN_BACK : Tok}
    {t_FINE : Tok}
    {t_PAID_OUT : Tok}
    {t_SIGNS : Tok}
    {t_MOST_DIGITS : Tok}
    {t_MOST_PAIRS : Tok}
    {t_MOST_DAYS : Tok}
    {t_MOST_PERCENT : Tok}
    {t_UNKNOWN_WORD : Tok}
    {t_TOLD_ALREADY : Tok}
    {t_WRONG_NUMBERS : Tok}
    {t_MOST_BYTES : Tok}
    {t_MOST_SCHOOLS : Tok}
    {t_MOST_NIGHTS : Tok}
    {t_MOST_PAID : Tok}
    {t_LAST_DAY : Tok}
    {t_OUT_OF_BOUNDS : Tok}
    {t_IN_ALREADY : Tok}
    {t_CLOSED : Tok}
    {t_NOT_THERE : Tok}
    {t_NOT_ENOUGH : Tok}
    {t_NOT_WAITING : Tok}
    {t_NO_ROOM : Tok}
    {t_RULES : Tok}
    {es_dU : Array DictEntry} {nn_dU : Nat}
    {es_dB : Array DictEntry} {nn_dB : Nat}
    {dt_u_places : Option Addr} {it_u_places : Array Value} {nn_u_places : Nat} {sl_u_places : Array (Option Value)}
    {dt_u_form : Option Addr} {it_u_form : Array Value} {nn_u_form : Nat} {sl_u_form : Array (Option Value)}
    {dt_u_cap : Option Addr} {it_u_cap : Array Value} {nn_u_cap : Nat} {sl_u_cap : Array (Option Value)}
    {dt_u_judges : Option Addr} {it_u_judges : Array Value} {nn_u_judges : Nat} {sl_u_judges : Array (Option Value)}
    {dt_u_fee : Option Addr} {it_u_fee : Array Value} {nn_u_fee : Nat} {sl_u_fee : Array (Option Value)}
    {dt_u_fine : Option Addr} {it_u_fine : Array Value} {nn_u_fine : Nat} {sl_u_fine : Array (Option Value)}
    {dt_u_answer : Option Addr} {it_u_answer : Array Value} {nn_u_answer : Nat} {sl_u_answer : Array (Option Value)}
    {dt_u_start : Option Addr} {it_u_start : Array Value} {nn_u_start : Nat} {sl_u_start : Array (Option Value)}
    {dt_u_back : Option Addr} {it_u_back : Array Value} {nn_u_back : Nat} {sl_u_back : Array (Option Value)}
    {dt_b_places : Option Addr} {it_b_places : Array Value} {nn_b_places : Nat} {sl_b_places : Array (Option Value)}
    {dt_b_form : Option Addr} {it_b_form : Array Value} {nn_b_form : Nat} {sl_b_form : Array (Option Value)}
    {dt_b_cap : Option Addr} {it_b_cap : Array Value} {nn_b_cap : Nat} {sl_b_cap : Array (Option Value)}
    {dt_b_judges : Option Addr} {it_b_judges : Array Value} {nn_b_judges : Nat} {sl_b_judges : Array (Option Value)}
    {dt_b_fee : Option Addr} {it_b_fee : Array Value} {nn_b_fee : Nat} {sl_b_fee : Array (Option Value)}
    {dt_b_fine : Option Addr} {it_b_fine : Array Value} {nn_b_fine : Nat} {sl_b_fine : Array (Option Value)}
    {dt_b_answer : Option Addr} {it_b_answer : Array Value} {nn_b_answer : Nat} {sl_b_answer : Array (Option Value)}
    {dt_b_start : Option Addr} {it_b_start : Array Value} {nn_b_start : Nat} {sl_b_start : Array (Option Value)}
    {dt_bi_places : Option Addr} {it_bi_places : Array Value} {nn_bi_places : Nat} {sl_bi_places : Array (Option Value)}
    {dt_bi_form : Option Addr} {it_bi_form : Array Value} {nn_bi_form : Nat} {sl_bi_form : Array (Option Value)}
    {dt_bi_cap : Option Addr} {it_bi_cap : Array Value} {nn_bi_cap : Nat} {sl_bi_cap : Array (Option Value)}
    {dt_bi_judges : Option Addr} {it_bi_judges : Array Value} {nn_bi_judges : Nat} {sl_bi_judges : Array (Option Value)}
    {dt_bi_fee : Option Addr} {it_bi_fee : Array Value} {nn_bi_fee : Nat} {sl_bi_fee : Array (Option Value)}
    {dt_bi_fine : Option Addr} {it_bi_fine : Array Value} {nn_bi_fine : Nat} {sl_bi_fine : Array (Option Value)}
    {dt_bi_answer : Option Addr} {it_bi_answer : Array Value} {nn_bi_answer : Nat} {sl_bi_answer : Array (Option Value)}
    {dt_bi_start : Option Addr} {it_bi_start : Array Value} {nn_bi_start : Nat} {sl_bi_start : Array (Option Value)}
    {dt_bj_judges : Option Addr} {it_bj_judges : Array Value} {nn_bj_judges : Nat} {sl_bj_judges : Array (Option Value)}
    {dt_tC : Option Addr} {it_tC : Array Value} {nn_tC : Nat} {sl_tC : Array (Option Value)}
    {dt_tN : Option Addr} {it_tN : Array Value} {nn_tN : Nat} {sl_tN : Array (Option Value)}
    (X : K.In h) (G : h.Ns mainGlobals mg)
    (n_cLedger : PySem.W.nsIn K mainGlobals "Ledger" = some (some (.ref cLedger)))
    (pg_cLedger : PySem.W.plainGet K cLedger Str.empty = true)
    (hd_cLedger : PySem.W.hasDictIn K cLedger = true)
    (po_cLedger : PySem.W.plainOver K cLedger = true)
    (sa_cLedger : PySem.W.findIn K (.ref cLedger) "__setattr__" = some (some (.builtin "object.__setattr__")))
    (mk_cLedger : PySem.W.makesIn K cLedger = true)
    (kc_cLedger : PySem.W.keepIn K (.ref cLedger) = true)
    (na_cLedger_entries : PySem.W.findIn K (.ref cLedger) "entries" = some none)
    (n_cRules : PySem.W.nsIn K mainGlobals "Rules" = some (some (.ref cRules)))
    (pg_cRules : PySem.W.plainGet K cRules Str.empty = true)
    (hd_cRules : PySem.W.hasDictIn K cRules = true)
    (po_cRules : PySem.W.plainOver K cRules = true)
    (sa_cRules : PySem.W.findIn K (.ref cRules) "__setattr__" = some (some (.builtin "object.__setattr__")))
    (mk_cRules : PySem.W.makesIn K cRules = true)
    (kc_cRules : PySem.W.keepIn K (.ref cRules) = true)
    (na_cRules_told : PySem.W.findIn K (.ref cRules) "told" = some none)
    (n_cSchool : PySem.W.nsIn K mainGlobals "School" = some (some (.ref cSchool)))
    (pg_cSchool : PySem.W.plainGet K cSchool Str.empty = true)
    (hd_cSchool : PySem.W.hasDictIn K cSchool = true)
    (po_cSchool : PySem.W.plainOver K cSchool = true)
    (sa_cSchool : PySem.W.findIn K (.ref cSchool) "__setattr__" = some (some (.builtin "object.__setattr__")))
    (mk_cSchool : PySem.W.makesIn K cSchool = true)
    (kc_cSchool : PySem.W.keepIn K (.ref cSchool) = true)
    (na_cSchool_number : PySem.W.findIn K (.ref cSchool) "number" = some none)
    (na_cSchool_wanted : PySem.W.findIn K (.ref cSchool) "wanted" = some none)
    (na_cSchool_judges : PySem.W.findIn K (.ref cSchool) "judges" = some none)
    (na_cSchool_has : PySem.W.findIn K (.ref cSchool) "has" = some none)
    (na_cSchool_offered : PySem.W.findIn K (.ref cSchool) "offered" = some none)
    (n_cOffer : PySem.W.nsIn K mainGlobals "Offer" = some (some (.ref cOffer)))
    (pg_cOffer : PySem.W.plainGet K cOffer Str.empty = true)
    (hd_cOffer : PySem.W.hasDictIn K cOffer = true)
    (po_cOffer : PySem.W.plainOver K cOffer = true)
    (sa_cOffer : PySem.W.findIn K (.ref cOffer) "__setattr__" = some (some (.builtin "object.__setattr__")))
    (mk_cOffer : PySem.W.makesIn K cOffer = true)
    (kc_cOffer : PySem.W.keepIn K (.ref cOffer) = true)
    (na_cOffer_number : PySem.W.findIn K (.ref cOffer) "number" = some none)
    (na_cOffer_school : PySem.W.findIn K (.ref cOffer) "school" = some none)
    (na_cOffer_day : PySem.W.findIn K (.ref cOffer) "day" = some none)
    (n_cHouse : PySem.W.nsIn K mainGlobals "House" = some (some (.ref cHouse)))
    (pg_cHouse : PySem.W.plainGet K cHouse Str.empty = true)
    (hd_cHouse : PySem.W.hasDictIn K cHouse = true)
    (po_cHouse : PySem.W.plainOver K cHouse = true)
    (sa_cHouse : PySem.W.findIn K (.ref cHouse) "__setattr__" = some (some (.builtin "object.__setattr__")))
    (mk_cHouse : PySem.W.makesIn K cHouse = true)
    (kc_cHouse : PySem.W.keepIn K (.ref cHouse) = true)
    (na_cHouse_rules : PySem.W.findIn K (.ref cHouse) "rules" = some none)
    (na_cHouse_schools : PySem.W.findIn K (.ref cHouse) "schools" = some none)
    (na_cHouse_offers : PySem.W.findIn K (.ref cHouse) "offers" = some none)
    (na_cHouse_made : PySem.W.findIn K (.ref cHouse) "made" = some none)
    (na_cHouse_day : PySem.W.findIn K (.ref cHouse) "day" = some none)
    (na_cHouse_closed : PySem.W.findIn K (.ref cHouse) "closed" = some none)
    (na_cHouse_ledger : PySem.W.findIn K (.ref cHouse) "ledger" = some none)
    (a_Ledger_init : PySem.W.findIn K (.ref cLedger) "__init__" = some (some (.ref f_Ledger_init)))
    (i_Ledger_init : PySem.W.isFn K (.ref f_Ledger_init) = true)
    (l_Ledger_init : K.lookup f_Ledger_init = some ⟨oc_Ledger_init, od_Ledger_init, .func (PySem.W.fnOf "__init__" "Ledger.__init__" (C8.fnArgs s_Ledger_init) (C8.fnBody s_Ledger_init) (C8.fnScope s_Ledger_init) .none kV_Ledger_init dc_Ledger_init pm_Ledger_init an_Ledger_init cd_Ledger_init ct_Ledger_init), sl_Ledger_init⟩)
    (e_Ledger_init : PySem.W.codeIn K cd_Ledger_init "Ledger.__init__" = true)
    (k_Ledger_init : PySem.W.keepIn K (.ref f_Ledger_init) = true)
    (a_Ledger_has_room : PySem.W.findIn K (.ref cLedger) "has_room" = some (some (.ref f_Ledger_has_room)))
    (i_Ledger_has_room : PySem.W.isFn K (.ref f_Ledger_has_room) = true)
    (l_Ledger_has_room : K.lookup f_Ledger_has_room = some ⟨oc_Ledger_has_room, od_Ledger_has_room, .func (PySem.W.fnOf "has_room" "Ledger.has_room" (C8.fnArgs s_Ledger_has_room) (C8.fnBody s_Ledger_has_room) (C8.fnScope s_Ledger_has_room) .none kV_Ledger_has_room dc_Ledger_has_room pm_Ledger_has_room an_Ledger_has_room cd_Ledger_has_room ct_Ledger_has_room), sl_Ledger_has_room⟩)
    (e_Ledger_has_room : PySem.W.codeIn K cd_Ledger_has_room "Ledger.has_room" = true)
    (k_Ledger_has_room : PySem.W.keepIn K (.ref f_Ledger_has_room) = true)
    (a_Ledger_write : PySem.W.findIn K (.ref cLedger) "write" = some (some (.ref f_Ledger_write)))
    (i_Ledger_write : PySem.W.isFn K (.ref f_Ledger_write) = true)
    (l_Ledger_write : K.lookup f_Ledger_write = some ⟨oc_Ledger_write, od_Ledger_write, .func (PySem.W.fnOf "write" "Ledger.write" (C8.fnArgs s_Ledger_write) (C8.fnBody s_Ledger_write) (C8.fnScope s_Ledger_write) .none kV_Ledger_write dc_Ledger_write pm_Ledger_write an_Ledger_write cd_Ledger_write ct_Ledger_write), sl_Ledger_write⟩)
    (e_Ledger_write : PySem.W.codeIn K cd_Ledger_write "Ledger.write" = true)
    (k_Ledger_write : PySem.W.keepIn K (.ref f_Ledger_write) = true)
    (a_Ledger_entries_of : PySem.W.findIn K (.ref cLedger) "entries_of" = some (some (.ref f_Ledger_entries_of)))
    (i_Ledger_entries_of : PySem.W.isFn K (.ref f_Ledger_entries_of) = true)
    (l_Ledger_entries_of : K.lookup f_Ledger_entries_of = some ⟨oc_Ledger_entries_of, od_Ledger_entries_of, .func (PySem.W.fnOf "entries_of" "Ledger.entries_of" (C8.fnArgs s_Ledger_entries_of) (C8.fnBody s_Ledger_entries_of) (C8.fnScope s_Ledger_entries_of) .none kV_Ledger_entries_of dc_Ledger_entries_of pm_Ledger_entries_of an_Ledger_entries_of cd_Ledger_entries_of ct_Ledger_entries_of), sl_Ledger_entries_of⟩)
    (e_Ledger_entries_of : PySem.W.codeIn K cd_Ledger_entries_of "Ledger.entries_of" = true)
    (k_Ledger_entries_of : PySem.W.keepIn K (.ref f_Ledger_entries_of) = true)
    (a_Ledger_account_of : PySem.W.findIn K (.ref cLedger) "account_of" = some (some (.ref f_Ledger_account_of)))
    (i_Ledger_account_of : PySem.W.isFn K (.ref f_Ledger_account_of) = true)
    (l_Ledger_account_of : K.lookup f_Ledger_account_of = some ⟨oc_Ledger_account_of, od_Ledger_account_of, .func (PySem.W.fnOf "account_of" "Ledger.account_of" (C8.fnArgs s_Ledger_account_of) (C8.fnBody s_Ledger_account_of) (C8.fnScope s_Ledger_account_of) .none kV_Ledger_account_of dc_Ledger_account_of pm_Ledger_account_of an_Ledger_account_of cd_Ledger_account_of ct_Ledger_account_of), sl_Ledger_account_of⟩)
    (e_Ledger_account_of : PySem.W.codeIn K cd_Ledger_account_of "Ledger.account_of" = true)
    (k_Ledger_account_of : PySem.W.keepIn K (.ref f_Ledger_account_of) = true)
    (a_Rules_init : PySem.W.findIn K (.ref cRules) "__init__" = some (some (.ref f_Rules_init)))
    (i_Rules_init : PySem.W.isFn K (.ref f_Rules_init) = true)
    (l_Rules_init : K.lookup f_Rules_init = some ⟨oc_Rules_init, od_Rules_init, .func (PySem.W.fnOf "__init__" "Rules.__init__" (C8.fnArgs s_Rules_init) (C8.fnBody s_Rules_init) (C8.fnScope s_Rules_init) .none kV_Rules_init dc_Rules_init pm_Rules_init an_Rules_init cd_Rules_init ct_Rules_init), sl_Rules_init⟩)
    (e_Rules_init : PySem.W.codeIn K cd_Rules_init "Rules.__init__" = true)
    (k_Rules_init : PySem.W.keepIn K (.ref f_Rules_init) = true)
    (a_Rules_one : PySem.W.findIn K (.ref cRules) "one" = some (some (.ref f_Rules_one)))
    (i_Rules_one : PySem.W.isFn K (.ref f_Rules_one) = true)
    (l_Rules_one : K.lookup f_Rules_one = some ⟨oc_Rules_one, od_Rules_one, .func (PySem.W.fnOf "one" "Rules.one" (C8.fnArgs s_Rules_one) (C8.fnBody s_Rules_one) (C8.fnScope s_Rules_one) .none kV_Rules_one dc_Rules_one pm_Rules_one an_Rules_one cd_Rules_one ct_Rules_one), sl_Rules_one⟩)
    (e_Rules_one : PySem.W.codeIn K cd_Rules_one "Rules.one" = true)
    (k_Rules_one : PySem.W.keepIn K (.ref f_Rules_one) = true)
    (a_Rules_judges_owed : PySem.W.findIn K (.ref cRules) "judges_owed" = some (some (.ref f_Rules_judges_owed)))
    (i_Rules_judges_owed : PySem.W.isFn K (.ref f_Rules_judges_owed) = true)
    (l_Rules_judges_owed : K.lookup f_Rules_judges_owed = some ⟨oc_Rules_judges_owed, od_Rules_judges_owed, .func (PySem.W.fnOf "judges_owed" "Rules.judges_owed" (C8.fnArgs s_Rules_judges_owed) (C8.fnBody s_Rules_judges_owed) (C8.fnScope s_Rules_judges_owed) .none kV_Rules_judges_owed dc_Rules_judges_owed pm_Rules_judges_owed an_Rules_judges_owed cd_Rules_judges_owed ct_Rules_judges_owed), sl_Rules_judges_owed⟩)
    (e_Rules_judges_owed : PySem.W.codeIn K cd_Rules_judges_owed "Rules.judges_owed" = true)
    (k_Rules_judges_owed : PySem.W.keepIn K (.ref f_Rules_judges_owed) = true)
    (a_Rules_percent : PySem.W.findIn K (.ref cRules) "percent" = some (some (.ref f_Rules_percent)))
    (i_Rules_percent : PySem.W.isFn K (.ref f_Rules_percent) = true)
    (l_Rules_percent : K.lookup f_Rules_percent = some ⟨oc_Rules_percent, od_Rules_percent, .func (PySem.W.fnOf "percent" "Rules.percent" (C8.fnArgs s_Rules_percent) (C8.fnBody s_Rules_percent) (C8.fnScope s_Rules_percent) .none kV_Rules_percent dc_Rules_percent pm_Rules_percent an_Rules_percent cd_Rules_percent ct_Rules_percent), sl_Rules_percent⟩)
    (e_Rules_percent : PySem.W.codeIn K cd_Rules_percent "Rules.percent" = true)
    (k_Rules_percent : PySem.W.keepIn K (.ref f_Rules_percent) = true)
    (a_Rules_row : PySem.W.findIn K (.ref cRules) "row" = some (some (.ref f_Rules_row)))
    (i_Rules_row : PySem.W.isFn K (.ref f_Rules_row) = true)
    (l_Rules_row : K.lookup f_Rules_row = some ⟨oc_Rules_row, od_Rules_row, .func (PySem.W.fnOf "row" "Rules.row" (C8.fnArgs s_Rules_row) (C8.fnBody s_Rules_row) (C8.fnScope s_Rules_row) .none kV_Rules_row dc_Rules_row pm_Rules_row an_Rules_row cd_Rules_row ct_Rules_row), sl_Rules_row⟩)
    (e_Rules_row : PySem.W.codeIn K cd_Rules_row "Rules.row" = true)
    (k_Rules_row : PySem.W.keepIn K (.ref f_Rules_row) = true)
    (a_Rules_shown : PySem.W.findIn K (.ref cRules) "shown" = some (some (.ref f_Rules_shown)))
    (i_Rules_shown : PySem.W.isFn K (.ref f_Rules_shown) = true)
    (l_Rules_shown : K.lookup f_Rules_shown = some ⟨oc_Rules_shown, od_Rules_shown, .func (PySem.W.fnOf "shown" "Rules.shown" (C8.fnArgs s_Rules_shown) (C8.fnBody s_Rules_shown) (C8.fnScope s_Rules_shown) .none kV_Rules_shown dc_Rules_shown pm_Rules_shown an_Rules_shown cd_Rules_shown ct_Rules_shown), sl_Rules_shown⟩)
    (e_Rules_shown : PySem.W.codeIn K cd_Rules_shown "Rules.shown" = true)
    (k_Rules_shown : PySem.W.keepIn K (.ref f_Rules_shown) = true)
    (a_School_init : PySem.W.findIn K (.ref cSchool) "__init__" = some (some (.ref f_School_init)))
    (i_School_init : PySem.W.isFn K (.ref f_School_init) = true)
    (l_School_init : K.lookup f_School_init = some ⟨oc_School_init, od_School_init, .func (PySem.W.fnOf "__init__" "School.__init__" (C8.fnArgs s_School_init) (C8.fnBody s_School_init) (C8.fnScope s_School_init) .none kV_School_init dc_School_init pm_School_init an_School_init cd_School_init ct_School_init), sl_School_init⟩)
    (e_School_init : PySem.W.codeIn K cd_School_init "School.__init__" = true)
    (k_School_init : PySem.W.keepIn K (.ref f_School_init) = true)
    (a_School_load : PySem.W.findIn K (.ref cSchool) "load" = some (some (.ref f_School_load)))
    (i_School_load : PySem.W.isFn K (.ref f_School_load) = true)
    (l_School_load : K.lookup f_School_load = some ⟨oc_School_load, od_School_load, .func (PySem.W.fnOf "load" "School.load" (C8.fnArgs s_School_load) (C8.fnBody s_School_load) (C8.fnScope s_School_load) .none kV_School_load dc_School_load pm_School_load an_School_load cd_School_load ct_School_load), sl_School_load⟩)
    (e_School_load : PySem.W.codeIn K cd_School_load "School.load" = true)
    (k_School_load : PySem.W.keepIn K (.ref f_School_load) = true)
    (a_Offer_init : PySem.W.findIn K (.ref cOffer) "__init__" = some (some (.ref f_Offer_init)))
    (i_Offer_init : PySem.W.isFn K (.ref f_Offer_init) = true)
    (l_Offer_init : K.lookup f_Offer_init = some ⟨oc_Offer_init, od_Offer_init, .func (PySem.W.fnOf "__init__" "Offer.__init__" (C8.fnArgs s_Offer_init) (C8.fnBody s_Offer_init) (C8.fnScope s_Offer_init) .none kV_Offer_init dc_Offer_init pm_Offer_init an_Offer_init cd_Offer_init ct_Offer_init), sl_Offer_init⟩)
    (e_Offer_init : PySem.W.codeIn K cd_Offer_init "Offer.__init__" = true)
    (k_Offer_init : PySem.W.keepIn K (.ref f_Offer_init) = true)
    (a_House_init : PySem.W.findIn K (.ref cHouse) "__init__" = some (some (.ref f_House_init)))
    (i_House_init : PySem.W.isFn K (.ref f_House_init) = true)
    (l_House_init : K.lookup f_House_init = some ⟨oc_House_init, od_House_init, .func (PySem.W.fnOf "__init__" "House.__init__" (C8.fnArgs s_House_init) (C8.fnBody s_House_init) (C8.fnScope s_House_init) .none kV_House_init dc_House_init pm_House_init an_House_init cd_House_init ct_House_init), sl_House_init⟩)
    (e_House_init : PySem.W.codeIn K cd_House_init "House.__init__" = true)
    (k_House_init : PySem.W.keepIn K (.ref f_House_init) = true)
    (a_House_begin : PySem.W.findIn K (.ref cHouse) "begin" = some (some (.ref f_House_begin)))
    (i_House_begin : PySem.W.isFn K (.ref f_House_begin) = true)
    (l_House_begin : K.lookup f_House_begin = some ⟨oc_House_begin, od_House_begin, .func (PySem.W.fnOf "begin" "House.begin" (C8.fnArgs s_House_begin) (C8.fnBody s_House_begin) (C8.fnScope s_House_begin) .none kV_House_begin dc_House_begin pm_House_begin an_House_begin cd_House_begin ct_House_begin), sl_House_begin⟩)
    (e_House_begin : PySem.W.codeIn K cd_House_begin "House.begin" = true)
    (k_House_begin : PySem.W.keepIn K (.ref f_House_begin) = true)
    (a_House_most : PySem.W.findIn K (.ref cHouse) "most" = some (some (.ref f_House_most)))
    (i_House_most : PySem.W.isFn K (.ref f_House_most) = true)
    (l_House_most : K.lookup f_House_most = some ⟨oc_House_most, od_House_most, .func (PySem.W.fnOf "most" "House.most" (C8.fnArgs s_House_most) (C8.fnBody s_House_most) (C8.fnScope s_House_most) .none kV_House_most dc_House_most pm_House_most an_House_most cd_House_most ct_House_most), sl_House_most⟩)
    (e_House_most : PySem.W.codeIn K cd_House_most "House.most" = true)
    (k_House_most : PySem.W.keepIn K (.ref f_House_most) = true)
    (a_House_waits : PySem.W.findIn K (.ref cHouse) "waits" = some (some (.ref f_House_waits)))
    (i_House_waits : PySem.W.isFn K (.ref f_House_waits) = true)
    (l_House_waits : K.lookup f_House_waits = some ⟨oc_House_waits, od_House_waits, .func (PySem.W.fnOf "waits" "House.waits" (C8.fnArgs s_House_waits) (C8.fnBody s_House_waits) (C8.fnScope s_House_waits) .none kV_House_waits dc_House_waits pm_House_waits an_House_waits cd_House_waits ct_House_waits), sl_House_waits⟩)
    (e_House_waits : PySem.W.codeIn K cd_House_waits "House.waits" = true)
    (k_House_waits : PySem.W.keepIn K (.ref f_House_waits) = true)
    (a_House_taken : PySem.W.findIn K (.ref cHouse) "taken" = some (some (.ref f_House_taken)))
    (i_House_taken : PySem.W.isFn K (.ref f_House_taken) = true)
    (l_House_taken : K.lookup f_House_taken = some ⟨oc_House_taken, od_House_taken, .func (PySem.W.fnOf "taken" "House.taken" (C8.fnArgs s_House_taken) (C8.fnBody s_House_taken) (C8.fnScope s_House_taken) .none kV_House_taken dc_House_taken pm_House_taken an_House_taken cd_House_taken ct_House_taken), sl_House_taken⟩)
    (e_House_taken : PySem.W.codeIn K cd_House_taken "House.taken" = true)
    (k_House_taken : PySem.W.keepIn K (.ref f_House_taken) = true)
    (a_House_free : PySem.W.findIn K (.ref cHouse) "free" = some (some (.ref f_House_free)))
    (i_House_free : PySem.W.isFn K (.ref f_House_free) = true)
    (l_House_free : K.lookup f_House_free = some ⟨oc_House_free, od_House_free, .func (PySem.W.fnOf "free" "House.free" (C8.fnArgs s_House_free) (C8.fnBody s_House_free) (C8.fnScope s_House_free) .none kV_House_free dc_House_free pm_House_free an_House_free cd_House_free ct_House_free), sl_House_free⟩)
    (e_House_free : PySem.W.codeIn K cd_House_free "House.free" = true)
    (k_House_free : PySem.W.keepIn K (.ref f_House_free) = true)
    (a_House_turns : PySem.W.findIn K (.ref cHouse) "turns" = some (some (.ref f_House_turns)))
    (i_House_turns : PySem.W.isFn K (.ref f_House_turns) = true)
    (l_House_turns : K.lookup f_House_turns = some ⟨oc_House_turns, od_House_turns, .func (PySem.W.fnOf "turns" "House.turns" (C8.fnArgs s_House_turns) (C8.fnBody s_House_turns) (C8.fnScope s_House_turns) .none kV_House_turns dc_House_turns pm_House_turns an_House_turns cd_House_turns ct_House_turns), sl_House_turns⟩)
    (e_House_turns : PySem.W.codeIn K cd_House_turns "House.turns" = true)
    (k_House_turns : PySem.W.keepIn K (.ref f_House_turns) = true)
    (a_House_last_day : PySem.W.findIn K (.ref cHouse) "last_day" = some (some (.ref f_House_last_day)))
    (i_House_last_day : PySem.W.isFn K (.ref f_House_last_day) = true)
    (l_House_last_day : K.lookup f_House_last_day = some ⟨oc_House_last_day, od_House_last_day, .func (PySem.W.fnOf "last_day" "House.last_day" (C8.fnArgs s_House_last_day) (C8.fnBody s_House_last_day) (C8.fnScope s_House_last_day) .none kV_House_last_day dc_House_last_day pm_House_last_day an_House_last_day cd_House_last_day ct_House_last_day), sl_House_last_day⟩)
    (e_House_last_day : PySem.W.codeIn K cd_House_last_day "House.last_day" = true)
    (k_House_last_day : PySem.W.keepIn K (.ref f_House_last_day) = true)
    (a_House_pass_night : PySem.W.findIn K (.ref cHouse) "pass_night" = some (some (.ref f_House_pass_night)))
    (i_House_pass_night : PySem.W.isFn K (.ref f_House_pass_night) = true)
    (l_House_pass_night : K.lookup f_House_pass_night = some ⟨oc_House_pass_night, od_House_pass_night, .func (PySem.W.fnOf "pass_night" "House.pass_night" (C8.fnArgs s_House_pass_night) (C8.fnBody s_House_pass_night) (C8.fnScope s_House_pass_night) .none kV_House_pass_night dc_House_pass_night pm_House_pass_night an_House_pass_night cd_House_pass_night ct_House_pass_night), sl_House_pass_night⟩)
    (e_House_pass_night : PySem.W.codeIn K cd_House_pass_night "House.pass_night" = true)
    (k_House_pass_night : PySem.W.keepIn K (.ref f_House_pass_night) = true)
    (a_House_make_offers : PySem.W.findIn K (.ref cHouse) "make_offers" = some (some (.ref f_House_make_offers)))
    (i_House_make_offers : PySem.W.isFn K (.ref f_House_make_offers) = true)
    (l_House_make_offers : K.lookup f_House_make_offers = some ⟨oc_House_make_offers, od_House_make_offers, .func (PySem.W.fnOf "make_offers" "House.make_offers" (C8.fnArgs s_House_make_offers) (C8.fnBody s_House_make_offers) (C8.fnScope s_House_make_offers) .none kV_House_make_offers dc_House_make_offers pm_House_make_offers an_House_make_offers cd_House_make_offers ct_House_make_offers), sl_House_make_offers⟩)
    (e_House_make_offers : PySem.W.codeIn K cd_House_make_offers "House.make_offers" = true)
    (k_House_make_offers : PySem.W.keepIn K (.ref f_House_make_offers) = true)
    (a_House_make_offer : PySem.W.findIn K (.ref cHouse) "make_offer" = some (some (.ref f_House_make_offer)))
    (i_House_make_offer : PySem.W.isFn K (.ref f_House_make_offer) = true)
    (l_House_make_offer : K.lookup f_House_make_offer = some ⟨oc_House_make_offer, od_House_make_offer, .func (PySem.W.fnOf "make_offer" "House.make_offer" (C8.fnArgs s_House_make_offer) (C8.fnBody s_House_make_offer) (C8.fnScope s_House_make_offer) .none kV_House_make_offer dc_House_make_offer pm_House_make_offer an_House_make_offer cd_House_make_offer ct_House_make_offer), sl_House_make_offer⟩)
    (e_House_make_offer : PySem.W.codeIn K cd_House_make_offer "House.make_offer" = true)
    (k_House_make_offer : PySem.W.keepIn K (.ref f_House_make_offer) = true)
    (a_House_end_offer : PySem.W.findIn K (.ref cHouse) "end_offer" = some (some (.ref f_House_end_offer)))
    (i_House_end_offer : PySem.W.isFn K (.ref f_House_end_offer) = true)
    (l_House_end_offer : K.lookup f_House_end_offer = some ⟨oc_House_end_offer, od_House_end_offer, .func (PySem.W.fnOf "end_offer" "House.end_offer" (C8.fnArgs s_House_end_offer) (C8.fnBody s_House_end_offer) (C8.fnScope s_House_end_offer) .none kV_House_end_offer dc_House_end_offer pm_House_end_offer an_House_end_offer cd_House_end_offer ct_House_end_offer), sl_House_end_offer⟩)
    (e_House_end_offer : PySem.W.codeIn K cd_House_end_offer "House.end_offer" = true)
    (k_House_end_offer : PySem.W.keepIn K (.ref f_House_end_offer) = true)
    (a_House_lose_offer : PySem.W.findIn K (.ref cHouse) "lose_offer" = some (some (.ref f_House_lose_offer)))
    (i_House_lose_offer : PySem.W.isFn K (.ref f_House_lose_offer) = true)
    (l_House_lose_offer : K.lookup f_House_lose_offer = some ⟨oc_House_lose_offer, od_House_lose_offer, .func (PySem.W.fnOf "lose_offer" "House.lose_offer" (C8.fnArgs s_House_lose_offer) (C8.fnBody s_House_lose_offer) (C8.fnScope s_House_lose_offer) .none kV_House_lose_offer dc_House_lose_offer pm_House_lose_offer an_House_lose_offer cd_House_lose_offer ct_House_lose_offer), sl_House_lose_offer⟩)
    (e_House_lose_offer : PySem.W.codeIn K cd_House_lose_offer "House.lose_offer" = true)
    (k_House_lose_offer : PySem.W.keepIn K (.ref f_House_lose_offer) = true)
    (a_House_take_place : PySem.W.findIn K (.ref cHouse) "take_place" = some (some (.ref f_House_take_place)))
    (i_House_take_place : PySem.W.isFn K (.ref f_House_take_place) = true)
    (l_House_take_place : K.lookup f_House_take_place = some ⟨oc_House_take_place, od_House_take_place, .func (PySem.W.fnOf "take_place" "House.take_place" (C8.fnArgs s_House_take_place) (C8.fnBody s_House_take_place) (C8.fnScope s_House_take_place) .none kV_House_take_place dc_House_take_place pm_House_take_place an_House_take_place cd_House_take_place ct_House_take_place), sl_House_take_place⟩)
    (e_House_take_place : PySem.W.codeIn K cd_House_take_place "House.take_place" = true)
    (k_House_take_place : PySem.W.keepIn K (.ref f_House_take_place) = true)
    (a_House_give_up_places : PySem.W.findIn K (.ref cHouse) "give_up_places" = some (some (.ref f_House_give_up_places)))
    (i_House_give_up_places : PySem.W.isFn K (.ref f_House_give_up_places) = true)
    (l_House_give_up_places : K.lookup f_House_give_up_places = some ⟨oc_House_give_up_places, od_House_give_up_places, .func (PySem.W.fnOf "give_up_places" "House.give_up_places" (C8.fnArgs s_House_give_up_places) (C8.fnBody s_House_give_up_places) (C8.fnScope s_House_give_up_places) .none kV_House_give_up_places dc_House_give_up_places pm_House_give_up_places an_House_give_up_places cd_House_give_up_places ct_House_give_up_places), sl_House_give_up_places⟩)
    (e_House_give_up_places : PySem.W.codeIn K cd_House_give_up_places "House.give_up_places" = true)
    (k_House_give_up_places : PySem.W.keepIn K (.ref f_House_give_up_places) = true)
    (a_House_missing : PySem.W.findIn K (.ref cHouse) "missing" = some (some (.ref f_House_missing)))
    (i_House_missing : PySem.W.isFn K (.ref f_House_missing) = true)
    (l_House_missing : K.lookup f_House_missing = some ⟨oc_House_missing, od_House_missing, .func (PySem.W.fnOf "missing" "House.missing" (C8.fnArgs s_House_missing) (C8.fnBody s_House_missing) (C8.fnScope s_House_missing) .none kV_House_missing dc_House_missing pm_House_missing an_House_missing cd_House_missing ct_House_missing), sl_House_missing⟩)
    (e_House_missing : PySem.W.codeIn K cd_House_missing "House.missing" = true)
    (k_House_missing : PySem.W.keepIn K (.ref f_House_missing) = true)
    (a_House_shut : PySem.W.findIn K (.ref cHouse) "shut" = some (some (.ref f_House_shut)))
    (i_House_shut : PySem.W.isFn K (.ref f_House_shut) = true)
    (l_House_shut : K.lookup f_House_shut = some ⟨oc_House_shut, od_House_shut, .func (PySem.W.fnOf "shut" "House.shut" (C8.fnArgs s_House_shut) (C8.fnBody s_House_shut) (C8.fnScope s_House_shut) .none kV_House_shut dc_House_shut pm_House_shut an_House_shut cd_House_shut ct_House_shut), sl_House_shut⟩)
    (e_House_shut : PySem.W.codeIn K cd_House_shut "House.shut" = true)
    (k_House_shut : PySem.W.keepIn K (.ref f_House_shut) = true)
    (a_House_fine_schools : PySem.W.findIn K (.ref cHouse) "fine_schools" = some (some (.ref f_House_fine_schools)))
    (i_House_fine_schools : PySem.W.isFn K (.ref f_House_fine_schools) = true)
    (l_House_fine_schools : K.lookup f_House_fine_schools = some ⟨oc_House_fine_schools, od_House_fine_schools, .func (PySem.W.fnOf "fine_schools" "House.fine_schools" (C8.fnArgs s_House_fine_schools) (C8.fnBody s_House_fine_schools) (C8.fnScope s_House_fine_schools) .none kV_House_fine_schools dc_House_fine_schools pm_House_fine_schools an_House_fine_schools cd_House_fine_schools ct_House_fine_schools), sl_House_fine_schools⟩)
    (e_House_fine_schools : PySem.W.codeIn K cd_House_fine_schools "House.fine_schools" = true)
    (k_House_fine_schools : PySem.W.keepIn K (.ref f_House_fine_schools) = true)
    (a_balance : PySem.W.nsIn K mainGlobals "balance" = some (some (.ref f_balance)))
    (l_balance : K.lookup f_balance = some ⟨oc_balance, od_balance, .func (PySem.W.fnOf "balance" "balance" (C8.fnArgs s_balance) (C8.fnBody s_balance) (C8.fnScope s_balance) .none kV_balance dc_balance pm_balance an_balance cd_balance ct_balance), sl_balance⟩)
    (e_balance : PySem.W.codeIn K cd_balance "balance" = true)
    (k_balance : PySem.W.keepIn K (.ref f_balance) = true)
    (a_sums : PySem.W.nsIn K mainGlobals "sums" = some (some (.ref f_sums)))
    (l_sums : K.lookup f_sums = some ⟨oc_sums, od_sums, .func (PySem.W.fnOf "sums" "sums" (C8.fnArgs s_sums) (C8.fnBody s_sums) (C8.fnScope s_sums) .none kV_sums dc_sums pm_sums an_sums cd_sums ct_sums), sl_sums⟩)
    (e_sums : PySem.W.codeIn K cd_sums "sums" = true)
    (k_sums : PySem.W.keepIn K (.ref f_sums) = true)
    (a_amount_of : PySem.W.nsIn K mainGlobals "amount_of" = some (some (.ref f_amount_of)))
    (l_amount_of : K.lookup f_amount_of = some ⟨oc_amount_of, od_amount_of, .func (PySem.W.fnOf "amount_of" "amount_of" (C8.fnArgs s_amount_of) (C8.fnBody s_amount_of) (C8.fnScope s_amount_of) .none kV_amount_of dc_amount_of pm_amount_of an_amount_of cd_amount_of ct_amount_of), sl_amount_of⟩)
    (e_amount_of : PySem.W.codeIn K cd_amount_of "amount_of" = true)
    (k_amount_of : PySem.W.keepIn K (.ref f_amount_of) = true)
    (a_shown_line : PySem.W.nsIn K mainGlobals "shown_line" = some (some (.ref f_shown_line)))
    (l_shown_line : K.lookup f_shown_line = some ⟨oc_shown_line, od_shown_line, .func (PySem.W.fnOf "shown_line" "shown_line" (C8.fnArgs s_shown_line) (C8.fnBody s_shown_line) (C8.fnScope s_shown_line) .none kV_shown_line dc_shown_line pm_shown_line an_shown_line cd_shown_line ct_shown_line), sl_shown_line⟩)
    (e_shown_line : PySem.W.codeIn K cd_shown_line "shown_line" = true)
    (k_shown_line : PySem.W.keepIn K (.ref f_shown_line) = true)
    (a_read_lines : PySem.W.nsIn K mainGlobals "read_lines" = some (some (.ref f_read_lines)))
    (l_read_lines : K.lookup f_read_lines = some ⟨oc_read_lines, od_read_lines, .func (PySem.W.fnOf "read_lines" "read_lines" (C8.fnArgs s_read_lines) (C8.fnBody s_read_lines) (C8.fnScope s_read_lines) .none kV_read_lines dc_read_lines pm_read_lines an_read_lines cd_read_lines ct_read_lines), sl_read_lines⟩)
    (e_read_lines : PySem.W.codeIn K cd_read_lines "read_lines" = true)
    (k_read_lines : PySem.W.keepIn K (.ref f_read_lines) = true)
    (a_words_of : PySem.W.nsIn K mainGlobals "words_of" = some (some (.ref f_words_of)))
    (l_words_of : K.lookup f_words_of = some ⟨oc_words_of, od_words_of, .func (PySem.W.fnOf "words_of" "words_of" (C8.fnArgs s_words_of) (C8.fnBody s_words_of) (C8.fnScope s_words_of) .none kV_words_of dc_words_of pm_words_of an_words_of cd_words_of ct_words_of), sl_words_of⟩)
    (e_words_of : PySem.W.codeIn K cd_words_of "words_of" = true)
    (k_words_of : PySem.W.keepIn K (.ref f_words_of) = true)
    (a_first_fault : PySem.W.nsIn K mainGlobals "first_fault" = some (some (.ref f_first_fault)))
    (l_first_fault : K.lookup f_first_fault = some ⟨oc_first_fault, od_first_fault, .func (PySem.W.fnOf "first_fault" "first_fault" (C8.fnArgs s_first_fault) (C8.fnBody s_first_fault) (C8.fnScope s_first_fault) .none kV_first_fault dc_first_fault pm_first_fault an_first_fault cd_first_fault ct_first_fault), sl_first_fault⟩)
    (e_first_fault : PySem.W.codeIn K cd_first_fault "first_fault" = true)
    (k_first_fault : PySem.W.keepIn K (.ref f_first_fault) = true)
    (a_fault_of : PySem.W.nsIn K mainGlobals "fault_of" = some (some (.ref f_fault_of)))
    (l_fault_of : K.lookup f_fault_of = some ⟨oc_fault_of, od_fault_of, .func (PySem.W.fnOf "fault_of" "fault_of" (C8.fnArgs s_fault_of) (C8.fnBody s_fault_of) (C8.fnScope s_fault_of) .none kV_fault_of dc_fault_of pm_fault_of an_fault_of cd_fault_of ct_fault_of), sl_fault_of⟩)
    (e_fault_of : PySem.W.codeIn K cd_fault_of "fault_of" = true)
    (k_fault_of : PySem.W.keepIn K (.ref f_fault_of) = true)
    (a_numbers_fit : PySem.W.nsIn K mainGlobals "numbers_fit" = some (some (.ref f_numbers_fit)))
    (l_numbers_fit : K.lookup f_numbers_fit = some ⟨oc_numbers_fit, od_numbers_fit, .func (PySem.W.fnOf "numbers_fit" "numbers_fit" (C8.fnArgs s_numbers_fit) (C8.fnBody s_numbers_fit) (C8.fnScope s_numbers_fit) .none kV_numbers_fit dc_numbers_fit pm_numbers_fit an_numbers_fit cd_numbers_fit ct_numbers_fit), sl_numbers_fit⟩)
    (e_numbers_fit : PySem.W.codeIn K cd_numbers_fit "numbers_fit" = true)
    (k_numbers_fit : PySem.W.keepIn K (.ref f_numbers_fit) = true)
    (a_is_number : PySem.W.nsIn K mainGlobals "is_number" = some (some (.ref f_is_number)))
    (l_is_number : K.lookup f_is_number = some ⟨oc_is_number, od_is_number, .func (PySem.W.fnOf "is_number" "is_number" (C8.fnArgs s_is_number) (C8.fnBody s_is_number) (C8.fnScope s_is_number) .none kV_is_number dc_is_number pm_is_number an_is_number cd_is_number ct_is_number), sl_is_number⟩)
    (e_is_number : PySem.W.codeIn K cd_is_number "is_number" = true)
    (k_is_number : PySem.W.keepIn K (.ref f_is_number) = true)
    (a_within_bounds : PySem.W.nsIn K mainGlobals "within_bounds" = some (some (.ref f_within_bounds)))
    (l_within_bounds : K.lookup f_within_bounds = some ⟨oc_within_bounds, od_within_bounds, .func (PySem.W.fnOf "within_bounds" "within_bounds" (C8.fnArgs s_within_bounds) (C8.fnBody s_within_bounds) (C8.fnScope s_within_bounds) .none kV_within_bounds dc_within_bounds pm_within_bounds an_within_bounds cd_within_bounds ct_within_bounds), sl_within_bounds⟩)
    (e_within_bounds : PySem.W.codeIn K cd_within_bounds "within_bounds" = true)
    (k_within_bounds : PySem.W.keepIn K (.ref f_within_bounds) = true)
    (a_pairs_fit : PySem.W.nsIn K mainGlobals "pairs_fit" = some (some (.ref f_pairs_fit)))
    (l_pairs_fit : K.lookup f_pairs_fit = some ⟨oc_pairs_fit, od_pairs_fit, .func (PySem.W.fnOf "pairs_fit" "pairs_fit" (C8.fnArgs s_pairs_fit) (C8.fnBody s_pairs_fit) (C8.fnScope s_pairs_fit) .none kV_pairs_fit dc_pairs_fit pm_pairs_fit an_pairs_fit cd_pairs_fit ct_pairs_fit), sl_pairs_fit⟩)
    (e_pairs_fit : PySem.W.codeIn K cd_pairs_fit "pairs_fit" = true)
    (k_pairs_fit : PySem.W.keepIn K (.ref f_pairs_fit) = true)
    (a_rules_of : PySem.W.nsIn K mainGlobals "rules_of" = some (some (.ref f_rules_of)))
    (l_rules_of : K.lookup f_rules_of = some ⟨oc_rules_of, od_rules_of, .func (PySem.W.fnOf "rules_of" "rules_of" (C8.fnArgs s_rules_of) (C8.fnBody s_rules_of) (C8.fnScope s_rules_of) .none kV_rules_of dc_rules_of pm_rules_of an_rules_of cd_rules_of ct_rules_of), sl_rules_of⟩)
    (e_rules_of : PySem.W.codeIn K cd_rules_of "rules_of" = true)
    (k_rules_of : PySem.W.keepIn K (.ref f_rules_of) = true)
    (a_clear : PySem.W.nsIn K mainGlobals "clear" = some (some (.ref f_clear)))
    (l_clear : K.lookup f_clear = some ⟨oc_clear, od_clear, .func (PySem.W.fnOf "clear" "clear" (C8.fnArgs s_clear) (C8.fnBody s_clear) (C8.fnScope s_clear) .none kV_clear dc_clear pm_clear an_clear cd_clear ct_clear), sl_clear⟩)
    (e_clear : PySem.W.codeIn K cd_clear "clear" = true)
    (k_clear : PySem.W.keepIn K (.ref f_clear) = true)
    (a_rules : PySem.W.nsIn K mainGlobals "rules" = some (some (.ref f_rules)))
    (l_rules : K.lookup f_rules = some ⟨oc_rules, od_rules, .func (PySem.W.fnOf "rules" "rules" (C8.fnArgs s_rules) (C8.fnBody s_rules) (C8.fnScope s_rules) .none kV_rules dc_rules pm_rules an_rules cd_rules ct_rules), sl_rules⟩)
    (e_rules : PySem.W.codeIn K cd_rules "rules" = true)
    (k_rules : PySem.W.keepIn K (.ref f_rules) = true)
    (a_show : PySem.W.nsIn K mainGlobals "show" = some (some (.ref f_show)))
    (l_show : K.lookup f_show = some ⟨oc_show, od_show, .func (PySem.W.fnOf "show" "show" (C8.fnArgs s_show) (C8.fnBody s_show) (C8.fnScope s_show) .none kV_show dc_show pm_show an_show cd_show ct_show), sl_show⟩)
    (e_show : PySem.W.codeIn K cd_show "show" = true)
    (k_show : PySem.W.keepIn K (.ref f_show) = true)
    (a_enter : PySem.W.nsIn K mainGlobals "enter" = some (some (.ref f_enter)))
    (l_enter : K.lookup f_enter = some ⟨oc_enter, od_enter, .func (PySem.W.fnOf "enter" "enter" (C8.fnArgs s_enter) (C8.fnBody s_enter) (C8.fnScope s_enter) .none kV_enter dc_enter pm_enter an_enter cd_enter ct_enter), sl_enter⟩)
    (e_enter : PySem.W.codeIn K cd_enter "enter" = true)
    (k_enter : PySem.W.keepIn K (.ref f_enter) = true)
    (a_want : PySem.W.nsIn K mainGlobals "want" = some (some (.ref f_want)))
    (l_want : K.lookup f_want = some ⟨oc_want, od_want, .func (PySem.W.fnOf "want" "want" (C8.fnArgs s_want) (C8.fnBody s_want) (C8.fnScope s_want) .none kV_want dc_want pm_want an_want cd_want ct_want), sl_want⟩)
    (e_want : PySem.W.codeIn K cd_want "want" = true)
    (k_want : PySem.W.keepIn K (.ref f_want) = true)
    (a_bring : PySem.W.nsIn K mainGlobals "bring" = some (some (.ref f_bring)))
    (l_bring : K.lookup f_bring = some ⟨oc_bring, od_bring, .func (PySem.W.fnOf "bring" "bring" (C8.fnArgs s_bring) (C8.fnBody s_bring) (C8.fnScope s_bring) .none kV_bring dc_bring pm_bring an_bring cd_bring ct_bring), sl_bring⟩)
    (e_bring : PySem.W.codeIn K cd_bring "bring" = true)
    (k_bring : PySem.W.keepIn K (.ref f_bring) = true)
    (a_accept : PySem.W.nsIn K mainGlobals "accept" = some (some (.ref f_accept)))
    (l_accept : K.lookup f_accept = some ⟨oc_accept, od_accept, .func (PySem.W.fnOf "accept" "accept" (C8.fnArgs s_accept) (C8.fnBody s_accept) (C8.fnScope s_accept) .none kV_accept dc_accept pm_accept an_accept cd_accept ct_accept), sl_accept⟩)
    (e_accept : PySem.W.codeIn K cd_accept "accept" = true)
    (k_accept : PySem.W.keepIn K (.ref f_accept) = true)
    (a_decline : PySem.W.nsIn K mainGlobals "decline" = some (some (.ref f_decline)))
    (l_decline : K.lookup f_decline = some ⟨oc_decline, od_decline, .func (PySem.W.fnOf "decline" "decline" (C8.fnArgs s_decline) (C8.fnBody s_decline) (C8.fnScope s_decline) .none kV_decline dc_decline pm_decline an_decline cd_decline ct_decline), sl_decline⟩)
    (e_decline : PySem.W.codeIn K cd_decline "decline" = true)
    (k_decline : PySem.W.keepIn K (.ref f_decline) = true)
    (a_drop : PySem.W.nsIn K mainGlobals "drop" = some (some (.ref f_drop)))
    (l_drop : K.lookup f_drop = some ⟨oc_drop, od_drop, .func (PySem.W.fnOf "drop" "drop" (C8.fnArgs s_drop) (C8.fnBody s_drop) (C8.fnScope s_drop) .none kV_drop dc_drop pm_drop an_drop cd_drop ct_drop), sl_drop⟩)
    (e_drop : PySem.W.codeIn K cd_drop "drop" = true)
    (k_drop : PySem.W.keepIn K (.ref f_drop) = true)
    (a_transfer : PySem.W.nsIn K mainGlobals "transfer" = some (some (.ref f_transfer)))
    (l_transfer : K.lookup f_transfer = some ⟨oc_transfer, od_transfer, .func (PySem.W.fnOf "transfer" "transfer" (C8.fnArgs s_transfer) (C8.fnBody s_transfer) (C8.fnScope s_transfer) .none kV_transfer dc_transfer pm_transfer an_transfer cd_transfer ct_transfer), sl_transfer⟩)
    (e_transfer : PySem.W.codeIn K cd_transfer "transfer" = true)
    (k_transfer : PySem.W.keepIn K (.ref f_transfer) = true)
    (a_pay : PySem.W.nsIn K mainGlobals "pay" = some (some (.ref f_pay)))
    (l_pay : K.lookup f_pay = some ⟨oc_pay, od_pay, .func (PySem.W.fnOf "pay" "pay" (C8.fnArgs s_pay) (C8.fnBody s_pay) (C8.fnScope s_pay) .none kV_pay dc_pay pm_pay an_pay cd_pay ct_pay), sl_pay⟩)
    (e_pay : PySem.W.codeIn K cd_pay "pay" = true)
    (k_pay : PySem.W.keepIn K (.ref f_pay) = true)
    (a_payout : PySem.W.nsIn K mainGlobals "payout" = some (some (.ref f_payout)))
    (l_payout : K.lookup f_payout = some ⟨oc_payout, od_payout, .func (PySem.W.fnOf "payout" "payout" (C8.fnArgs s_payout) (C8.fnBody s_payout) (C8.fnScope s_payout) .none kV_payout dc_payout pm_payout an_payout cd_payout ct_payout), sl_payout⟩)
    (e_payout : PySem.W.codeIn K cd_payout "payout" = true)
    (k_payout : PySem.W.keepIn K (.ref f_payout) = true)
    (a_night : PySem.W.nsIn K mainGlobals "night" = some (some (.ref f_night)))
    (l_night : K.lookup f_night = some ⟨oc_night, od_night, .func (PySem.W.fnOf "night" "night" (C8.fnArgs s_night) (C8.fnBody s_night) (C8.fnScope s_night) .none kV_night dc_night pm_night an_night cd_night ct_night), sl_night⟩)
    (e_night : PySem.W.codeIn K cd_night "night" = true)
    (k_night : PySem.W.keepIn K (.ref f_night) = true)
    (a_close : PySem.W.nsIn K mainGlobals "close" = some (some (.ref f_close)))
    (l_close : K.lookup f_close = some ⟨oc_close, od_close, .func (PySem.W.fnOf "close" "close" (C8.fnArgs s_close) (C8.fnBody s_close) (C8.fnScope s_close) .none kV_close dc_close pm_close an_close cd_close ct_close), sl_close⟩)
    (e_close : PySem.W.codeIn K cd_close "close" = true)
    (k_close : PySem.W.keepIn K (.ref f_close) = true)
    (a_tell_school : PySem.W.nsIn K mainGlobals "tell_school" = some (some (.ref f_tell_school)))
    (l_tell_school : K.lookup f_tell_school = some ⟨oc_tell_school, od_tell_school, .func (PySem.W.fnOf "tell_school" "tell_school" (C8.fnArgs s_tell_school) (C8.fnBody s_tell_school) (C8.fnScope s_tell_school) .none kV_tell_school dc_tell_school pm_tell_school an_tell_school cd_tell_school ct_tell_school), sl_tell_school⟩)
    (e_tell_school : PySem.W.codeIn K cd_tell_school "tell_school" = true)
    (k_tell_school : PySem.W.keepIn K (.ref f_tell_school) = true)
    (a_tell_account : PySem.W.nsIn K mainGlobals "tell_account" = some (some (.ref f_tell_account)))
    (l_tell_account : K.lookup f_tell_account = some ⟨oc_tell_account, od_tell_account, .func (PySem.W.fnOf "tell_account" "tell_account" (C8.fnArgs s_tell_account) (C8.fnBody s_tell_account) (C8.fnScope s_tell_account) .none kV_tell_account dc_tell_account pm_tell_account an_tell_account cd_tell_account ct_tell_account), sl_tell_account⟩)
    (e_tell_account : PySem.W.codeIn K cd_tell_account "tell_account" = true)
    (k_tell_account : PySem.W.keepIn K (.ref f_tell_account) = true)
    (a_tell_offers : PySem.W.nsIn K mainGlobals "tell_offers" = some (some (.ref f_tell_offers)))
    (l_tell_offers : K.lookup f_tell_offers = some ⟨oc_tell_offers, od_tell_offers, .func (PySem.W.fnOf "tell_offers" "tell_offers" (C8.fnArgs s_tell_offers) (C8.fnBody s_tell_offers) (C8.fnScope s_tell_offers) .none kV_tell_offers dc_tell_offers pm_tell_offers an_tell_offers cd_tell_offers ct_tell_offers), sl_tell_offers⟩)
    (e_tell_offers : PySem.W.codeIn K cd_tell_offers "tell_offers" = true)
    (k_tell_offers : PySem.W.keepIn K (.ref f_tell_offers) = true)
    (a_tell_queue : PySem.W.nsIn K mainGlobals "tell_queue" = some (some (.ref f_tell_queue)))
    (l_tell_queue : K.lookup f_tell_queue = some ⟨oc_tell_queue, od_tell_queue, .func (PySem.W.fnOf "tell_queue" "tell_queue" (C8.fnArgs s_tell_queue) (C8.fnBody s_tell_queue) (C8.fnScope s_tell_queue) .none kV_tell_queue dc_tell_queue pm_tell_queue an_tell_queue cd_tell_queue ct_tell_queue), sl_tell_queue⟩)
    (e_tell_queue : PySem.W.codeIn K cd_tell_queue "tell_queue" = true)
    (k_tell_queue : PySem.W.keepIn K (.ref f_tell_queue) = true)
    (a_tell_money : PySem.W.nsIn K mainGlobals "tell_money" = some (some (.ref f_tell_money)))
    (l_tell_money : K.lookup f_tell_money = some ⟨oc_tell_money, od_tell_money, .func (PySem.W.fnOf "tell_money" "tell_money" (C8.fnArgs s_tell_money) (C8.fnBody s_tell_money) (C8.fnScope s_tell_money) .none kV_tell_money dc_tell_money pm_tell_money an_tell_money cd_tell_money ct_tell_money), sl_tell_money⟩)
    (e_tell_money : PySem.W.codeIn K cd_tell_money "tell_money" = true)
    (k_tell_money : PySem.W.keepIn K (.ref f_tell_money) = true)
    (a_tell_counts : PySem.W.nsIn K mainGlobals "tell_counts" = some (some (.ref f_tell_counts)))
    (l_tell_counts : K.lookup f_tell_counts = some ⟨oc_tell_counts, od_tell_counts, .func (PySem.W.fnOf "tell_counts" "tell_counts" (C8.fnArgs s_tell_counts) (C8.fnBody s_tell_counts) (C8.fnScope s_tell_counts) .none kV_tell_counts dc_tell_counts pm_tell_counts an_tell_counts cd_tell_counts ct_tell_counts), sl_tell_counts⟩)
    (e_tell_counts : PySem.W.codeIn K cd_tell_counts "tell_counts" = true)
    (k_tell_counts : PySem.W.keepIn K (.ref f_tell_counts) = true)
    (a_answers : PySem.W.nsIn K mainGlobals "answers" = some (some (.ref f_answers)))
    (l_answers : K.lookup f_answers = some ⟨oc_answers, od_answers, .func (PySem.W.fnOf "answers" "answers" (C8.fnArgs s_answers) (C8.fnBody s_answers) (C8.fnScope s_answers) .none kV_answers dc_answers pm_answers an_answers cd_answers ct_answers), sl_answers⟩)
    (e_answers : PySem.W.codeIn K cd_answers "answers" = true)
    (k_answers : PySem.W.keepIn K (.ref f_answers) = true)
    (a_answers_on : PySem.W.nsIn K mainGlobals "answers_on" = some (some (.ref f_answers_on)))
    (l_answers_on : K.lookup f_answers_on = some ⟨oc_answers_on, od_answers_on, .func (PySem.W.fnOf "answers_on" "answers_on" (C8.fnArgs s_answers_on) (C8.fnBody s_answers_on) (C8.fnScope s_answers_on) .none kV_answers_on dc_answers_on pm_answers_on an_answers_on cd_answers_on ct_answers_on), sl_answers_on⟩)
    (e_answers_on : PySem.W.codeIn K cd_answers_on "answers_on" = true)
    (k_answers_on : PySem.W.keepIn K (.ref f_answers_on) = true)
    (a_read_calls : PySem.W.nsIn K mainGlobals "read_calls" = some (some (.ref f_read_calls)))
    (l_read_calls : K.lookup f_read_calls = some ⟨oc_read_calls, od_read_calls, .func (PySem.W.fnOf "read_calls" "read_calls" (C8.fnArgs s_read_calls) (C8.fnBody s_read_calls) (C8.fnScope s_read_calls) .none kV_read_calls dc_read_calls pm_read_calls an_read_calls cd_read_calls ct_read_calls), sl_read_calls⟩)
    (e_read_calls : PySem.W.codeIn K cd_read_calls "read_calls" = true)
    (k_read_calls : PySem.W.keepIn K (.ref f_read_calls) = true)
    (a_answer : PySem.W.nsIn K mainGlobals "answer" = some (some (.ref f_answer)))
    (l_answer : K.lookup f_answer = some ⟨oc_answer, od_answer, .func (PySem.W.fnOf "answer" "answer" (C8.fnArgs s_answer) (C8.fnBody s_answer) (C8.fnScope s_answer) .none kV_answer dc_answer pm_answer an_answer cd_answer ct_answer), sl_answer⟩)
    (e_answer : PySem.W.codeIn K cd_answer "answer" = true)
    (k_answer : PySem.W.keepIn K (.ref f_answer) = true)
    (g_MOST_ENTRIES : PySem.W.nsIn K mainGlobals "MOST_ENTRIES" = some (some (.int 400 t_MOST_ENTRIES)))
    (g_PAID : PySem.W.nsIn K mainGlobals "PAID" = some (some (.str "paid" t_PAID)))
    (g_FEE : PySem.W.nsIn K mainGlobals "FEE" = some (some (.str "fee" t_FEE)))
    (g_GIVEN_BACK : PySem.W.nsIn K mainGlobals "GIVEN_BACK" = some (some (.str "given back" t_GIVEN_BACK)))
    (g_FINE : PySem.W.nsIn K mainGlobals "FINE" = some (some (.str "fine" t_FINE)))
    (g_PAID_OUT : PySem.W.nsIn K mainGlobals "PAID_OUT" = some (some (.str "paid out" t_PAID_OUT)))
    (g_SIGNS : PySem.W.nsIn K mainGlobals "SIGNS" = some (some (.str "\n 0123456789abcdefghijklmnopqrstuvwxyz" t_SIGNS)))
    (g_MOST_DIGITS : PySem.W.nsIn K mainGlobals "MOST_DIGITS" = some (some (.int 4 t_MOST_DIGITS)))
    (g_MOST_PAIRS : PySem.W.nsIn K mainGlobals "MOST_PAIRS" = some (some (.int 6 t_MOST_PAIRS)))
    (g_MOST_DAYS : PySem.W.nsIn K mainGlobals "MOST_DAYS" = some (some (.int 200 t_MOST_DAYS)))
    (g_MOST_PERCENT : PySem.W.nsIn K mainGlobals "MOST_PERCENT" = some (some (.int 100 t_MOST_PERCENT)))
    (g_UNKNOWN_WORD : PySem.W.nsIn K mainGlobals "UNKNOWN_WORD" = some (some (.int 1 t_UNKNOWN_WORD)))
    (g_TOLD_ALREADY : PySem.W.nsIn K mainGlobals "TOLD_ALREADY" = some (some (.int 2 t_TOLD_ALREADY)))
    (g_WRONG_NUMBERS : PySem.W.nsIn K mainGlobals "WRONG_NUMBERS" = some (some (.int 3 t_WRONG_NUMBERS)))
    (g_MOST_BYTES : PySem.W.nsIn K mainGlobals "MOST_BYTES" = some (some (.int 1000 t_MOST_BYTES)))
    (g_MOST_SCHOOLS : PySem.W.nsIn K mainGlobals "MOST_SCHOOLS" = some (some (.int 30 t_MOST_SCHOOLS)))
    (g_MOST_NIGHTS : PySem.W.nsIn K mainGlobals "MOST_NIGHTS" = some (some (.int 30 t_MOST_NIGHTS)))
    (g_MOST_PAID : PySem.W.nsIn K mainGlobals "MOST_PAID" = some (some (.int 1000000 t_MOST_PAID)))
    (g_LAST_DAY : PySem.W.nsIn K mainGlobals "LAST_DAY" = some (some (.int 1000 t_LAST_DAY)))
    (g_OUT_OF_BOUNDS : PySem.W.nsIn K mainGlobals "OUT_OF_BOUNDS" = some (some (.int 1 t_OUT_OF_BOUNDS)))
    (g_IN_ALREADY : PySem.W.nsIn K mainGlobals "IN_ALREADY" = some (some (.int 3 t_IN_ALREADY)))
    (g_CLOSED : PySem.W.nsIn K mainGlobals "CLOSED" = some (some (.int 4 t_CLOSED)))
    (g_NOT_THERE : PySem.W.nsIn K mainGlobals "NOT_THERE" = some (some (.int 5 t_NOT_THERE)))
    (g_NOT_ENOUGH : PySem.W.nsIn K mainGlobals "NOT_ENOUGH" = some (some (.int 6 t_NOT_ENOUGH)))
    (g_NOT_WAITING : PySem.W.nsIn K mainGlobals "NOT_WAITING" = some (some (.int 7 t_NOT_WAITING)))
    (g_NO_ROOM : PySem.W.nsIn K mainGlobals "NO_ROOM" = some (some (.int 9 t_NO_ROOM)))
    (g_RULES : PySem.W.nsIn K mainGlobals "RULES" = some (some (.int 1 t_RULES)))
    (g_UNTOLD : PySem.W.nsIn K mainGlobals "UNTOLD" = some (some (.ref dU)))
    (g_BOUNDS : PySem.W.nsIn K mainGlobals "BOUNDS" = some (some (.ref dB)))
    (g_CALLS : PySem.W.nsIn K mainGlobals "CALLS" = some (some (.ref tC)))
    (g_NUMBERS : PySem.W.nsIn K mainGlobals "NUMBERS" = some (some (.ref tN)))
    (l_dU : K.lookup dU = some ⟨.type "dict", none, .dict es_dU nn_dU, #[]⟩)
    (y_dU : PySem.W.KeysLit w.params es_dU.toList)
    (p_dU : Paired (fun (p : Str × V) (e : DictEntry) => Value.isStrOf p.1 e.key = true ∧ L2.RelV p.2 e.val) [("places", .ref u_places), ("form", .ref u_form), ("cap", .ref u_cap), ("judges", .ref u_judges), ("fee", .ref u_fee), ("fine", .ref u_fine), ("answer", .ref u_answer), ("start", .ref u_start), ("back", .ref u_back)] es_dU.toList)
    (w_dU : (dU == sysModules) = false)
    (l_dB : K.lookup dB = some ⟨.type "dict", none, .dict es_dB nn_dB, #[]⟩)
    (y_dB : PySem.W.KeysLit w.params es_dB.toList)
    (p_dB : Paired (fun (p : Str × V) (e : DictEntry) => Value.isStrOf p.1 e.key = true ∧ L2.RelV p.2 e.val) [("places", .ref b_places), ("form", .ref b_form), ("cap", .ref b_cap), ("judges", .ref b_judges), ("fee", .ref b_fee), ("fine", .ref b_fine), ("answer", .ref b_answer), ("start", .ref b_start)] es_dB.toList)
    (w_dB : (dB == sysModules) = false)
    (l_u_places : K.lookup u_places = some ⟨.type "tuple", dt_u_places, .seq it_u_places nn_u_places, sl_u_places⟩)
    (z_u_places : it_u_places.size ≤ 100)
    (v_u_places : Vals [.int 16] it_u_places.toList)
    (l_u_form : K.lookup u_form = some ⟨.type "tuple", dt_u_form, .seq it_u_form nn_u_form, sl_u_form⟩)
    (z_u_form : it_u_form.size ≤ 100)
    (v_u_form : Vals [.int 4] it_u_form.toList)
    (l_u_cap : K.lookup u_cap = some ⟨.type "tuple", dt_u_cap, .seq it_u_cap nn_u_cap, sl_u_cap⟩)
    (z_u_cap : it_u_cap.size ≤ 100)
    (v_u_cap : Vals [.int 4] it_u_cap.toList)
    (l_u_judges : K.lookup u_judges = some ⟨.type "tuple", dt_u_judges, .seq it_u_judges nn_u_judges, sl_u_judges⟩)
    (z_u_judges : it_u_judges.size ≤ 100)
    (v_u_judges : Vals [.int 1, .int 2] it_u_judges.toList)
    (l_u_fee : K.lookup u_fee = some ⟨.type "tuple", dt_u_fee, .seq it_u_fee nn_u_fee, sl_u_fee⟩)
    (z_u_fee : it_u_fee.size ≤ 100)
    (v_u_fee : Vals [.int 1000] it_u_fee.toList)
    (l_u_fine : K.lookup u_fine = some ⟨.type "tuple", dt_u_fine, .seq it_u_fine nn_u_fine, sl_u_fine⟩)
    (z_u_fine : it_u_fine.size ≤ 100)
    (v_u_fine : Vals [.int 500] it_u_fine.toList)
    (l_u_answer : K.lookup u_answer = some ⟨.type "tuple", dt_u_answer, .seq it_u_answer nn_u_answer, sl_u_answer⟩)
    (z_u_answer : it_u_answer.size ≤ 100)
    (v_u_answer : Vals [.int 3] it_u_answer.toList)
    (l_u_start : K.lookup u_start = some ⟨.type "tuple", dt_u_start, .seq it_u_start nn_u_start, sl_u_start⟩)
    (z_u_start : it_u_start.size ≤ 100)
    (v_u_start : Vals [.int 60] it_u_start.toList)
    (l_u_back : K.lookup u_back = some ⟨.type "tuple", dt_u_back, .seq it_u_back nn_u_back, sl_u_back⟩)
    (z_u_back : it_u_back.size ≤ 100)
    (v_u_back : Vals [] it_u_back.toList)
    (l_b_places : K.lookup b_places = some ⟨.type "tuple", dt_b_places, .seq it_b_places nn_b_places, sl_b_places⟩)
    (z_b_places : it_b_places.size ≤ 100)
    (v_b_places : Vals [.ref bi_places] it_b_places.toList)
    (l_b_form : K.lookup b_form = some ⟨.type "tuple", dt_b_form, .seq it_b_form nn_b_form, sl_b_form⟩)
    (z_b_form : it_b_form.size ≤ 100)
    (v_b_form : Vals [.ref bi_form] it_b_form.toList)
    (l_b_cap : K.lookup b_cap = some ⟨.type "tuple", dt_b_cap, .seq it_b_cap nn_b_cap, sl_b_cap⟩)
    (z_b_cap : it_b_cap.size ≤ 100)
    (v_b_cap : Vals [.ref bi_cap] it_b_cap.toList)
    (l_b_judges : K.lookup b_judges = some ⟨.type "tuple", dt_b_judges, .seq it_b_judges nn_b_judges, sl_b_judges⟩)
    (z_b_judges : it_b_judges.size ≤ 100)
    (v_b_judges : Vals [.ref bi_judges, .ref bj_judges] it_b_judges.toList)
    (l_b_fee : K.lookup b_fee = some ⟨.type "tuple", dt_b_fee, .seq it_b_fee nn_b_fee, sl_b_fee⟩)
    (z_b_fee : it_b_fee.size ≤ 100)
    (v_b_fee : Vals [.ref bi_fee] it_b_fee.toList)
    (l_b_fine : K.lookup b_fine = some ⟨.type "tuple", dt_b_fine, .seq it_b_fine nn_b_fine, sl_b_fine⟩)
    (z_b_fine : it_b_fine.size ≤ 100)
    (v_b_fine : Vals [.ref bi_fine] it_b_fine.toList)
    (l_b_answer : K.lookup b_answer = some ⟨.type "tuple", dt_b_answer, .seq it_b_answer nn_b_answer, sl_b_answer⟩)
    (z_b_answer : it_b_answer.size ≤ 100)
    (v_b_answer : Vals [.ref bi_answer] it_b_answer.toList)
    (l_b_start : K.lookup b_start = some ⟨.type "tuple", dt_b_start, .seq it_b_start nn_b_start, sl_b_start⟩)
    (z_b_start : it_b_start.size ≤ 100)
    (v_b_start : Vals [.ref bi_start] it_b_start.toList)
    (l_bi_places : K.lookup bi_places = some ⟨.type "tuple", dt_bi_places, .seq it_bi_places nn_bi_places, sl_bi_places⟩)
    (z_bi_places : it_bi_places.size ≤ 100)
    (v_bi_places : Vals [.int 2, .int 60] it_bi_places.toList)
    (l_bi_form : K.lookup bi_form = some ⟨.type "tuple", dt_bi_form, .seq it_bi_form nn_bi_form, sl_bi_form⟩)
    (z_bi_form : it_bi_form.size ≤ 100)
    (v_bi_form : Vals [.int 2, .int 4] it_bi_form.toList)
    (l_bi_cap : K.lookup bi_cap = some ⟨.type "tuple", dt_bi_cap, .seq it_bi_cap nn_bi_cap, sl_bi_cap⟩)
    (z_bi_cap : it_bi_cap.size ≤ 100)
    (v_bi_cap : Vals [.int 1, .int 9] it_bi_cap.toList)
    (l_bi_judges : K.lookup bi_judges = some ⟨.type "tuple", dt_bi_judges, .seq it_bi_judges nn_bi_judges, sl_bi_judges⟩)
    (z_bi_judges : it_bi_judges.size ≤ 100)
    (v_bi_judges : Vals [.int 0, .int 9] it_bi_judges.toList)
    (l_bi_fee : K.lookup bi_fee = some ⟨.type "tuple", dt_bi_fee, .seq it_bi_fee nn_bi_fee, sl_bi_fee⟩)
    (z_bi_fee : it_bi_fee.size ≤ 100)
    (v_bi_fee : Vals [.int 0, .int 9999] it_bi_fee.toList)
    (l_bi_fine : K.lookup bi_fine = some ⟨.type "tuple", dt_bi_fine, .seq it_bi_fine nn_bi_fine, sl_bi_fine⟩)
    (z_bi_fine : it_bi_fine.size ≤ 100)
    (v_bi_fine : Vals [.int 0, .int 9999] it_bi_fine.toList)
    (l_bi_answer : K.lookup bi_answer = some ⟨.type "tuple", dt_bi_answer, .seq it_bi_answer nn_bi_answer, sl_bi_answer⟩)
    (z_bi_answer : it_bi_answer.size ≤ 100)
    (v_bi_answer : Vals [.int 1, .int 30] it_bi_answer.toList)
    (l_bi_start : K.lookup bi_start = some ⟨.type "tuple", dt_bi_start, .seq it_bi_start nn_bi_start, sl_bi_start⟩)
    (z_bi_start : it_bi_start.size ≤ 100)
    (v_bi_start : Vals [.int 1, .int 200] it_bi_start.toList)
    (l_bj_judges : K.lookup bj_judges = some ⟨.type "tuple", dt_bj_judges, .seq it_bj_judges nn_bj_judges, sl_bj_judges⟩)
    (z_bj_judges : it_bj_judges.size ≤ 100)
    (v_bj_judges : Vals [.int 1, .int 9] it_bj_judges.toList)
    (l_tC : K.lookup tC = some ⟨.type "tuple", dt_tC, .seq it_tC nn_tC, sl_tC⟩)
    (z_tC : it_tC.size ≤ 100)
    (v_tC : Vals [.ref f_clear, .ref f_rules, .ref f_show, .ref f_enter, .ref f_want, .ref f_bring, .ref f_accept, .ref f_decline, .ref f_drop, .ref f_transfer, .ref f_pay, .ref f_payout, .ref f_night, .ref f_close, .ref f_tell_school, .ref f_tell_account, .ref f_tell_offers, .ref f_tell_queue, .ref f_tell_money, .ref f_tell_counts] it_tC.toList)
    (l_tN : K.lookup tN = some ⟨.type "tuple", dt_tN, .seq it_tN nn_tN, sl_tN⟩)
    (z_tN : it_tN.size ≤ 100)
    (v_tN : Vals [.int 0, .int 0, .int 0, .int 3, .int 2, .int 2, .int 1, .int 1, .int 2, .int 2, .int 2, .int 1, .int 1, .int 0, .int 1, .int 1, .int 0, .int 0, .int 0, .int 0] it_tN.toList)
    (b0_len : PySem.W.nsIn K mainGlobals "len" = some none)
    (b0_sum : PySem.W.nsIn K mainGlobals "sum" = some none)
    (b0_all : PySem.W.nsIn K mainGlobals "all" = some none)
    (b0_ord : PySem.W.nsIn K mainGlobals "ord" = some none)
    (b0_min : PySem.W.nsIn K mainGlobals "min" = some none)
    (b0_max : PySem.W.nsIn K mainGlobals "max" = some none)
    (b0_sorted : PySem.W.nsIn K mainGlobals "sorted" = some none)
    (b0_int : PySem.W.nsIn K mainGlobals "int" = some none)
    (b0_str : PySem.W.nsIn K mainGlobals "str" = some none)
    (b0_tuple : PySem.W.nsIn K mainGlobals "tuple" = some none)
    (b0_dict : PySem.W.nsIn K mainGlobals "dict" = some none)
    (b0_list : PySem.W.nsIn K mainGlobals "list" = some none)
    (b0_range : PySem.W.nsIn K mainGlobals "range" = some none)
    (b0_enumerate : PySem.W.nsIn K mainGlobals "enumerate" = some none)
    (b0_zip : PySem.W.nsIn K mainGlobals "zip" = some none) : Txt w K mg (⟨cLedger, cRules, cSchool, cOffer, cHouse, f_Ledger_init, f_Ledger_has_room, f_Ledger_write, f_Ledger_entries_of, f_Ledger_account_of, f_Rules_init, f_Rules_one, f_Rules_judges_owed, f_Rules_percent, f_Rules_row, f_Rules_shown, f_School_init, f_School_load, f_Offer_init, f_House_init, f_House_begin, f_House_most, f_House_waits, f_House_taken, f_House_free, f_House_turns, f_House_last_day, f_House_pass_night, f_House_make_offers, f_House_make_offer, f_House_end_offer, f_House_lose_offer, f_House_take_place, f_House_give_up_places, f_House_missing, f_House_shut, f_House_fine_schools, f_balance, f_sums, f_amount_of, f_shown_line, f_read_lines, f_words_of, f_first_fault, f_fault_of, f_numbers_fit, f_is_number, f_within_bounds, f_pairs_fit, f_rules_of, f_clear, f_rules, f_show, f_enter, f_want, f_bring, f_accept, f_decline, f_drop, f_transfer, f_pay, f_payout, f_night, f_close, f_tell_school, f_tell_account, f_tell_offers, f_tell_queue, f_tell_money, f_tell_counts, f_answers, f_answers_on, f_read_calls, f_answer, dU, dB, tC, tN, u_places, u_form, u_cap, u_judges, u_fee, u_fine, u_answer, u_start, u_back, b_places, b_form, b_cap, b_judges, b_fee, b_fine, b_answer, b_start, bi_places, bi_form, bi_cap, bi_judges, bi_fee, bi_fine, bi_answer, bi_start, bj_judges⟩ : Ad) where
  cl_Ledger := ⟨pg_cLedger, hd_cLedger, po_cLedger, sa_cLedger⟩
  na_Ledger := fun f hf => by
    simp only [List.mem_cons, List.not_mem_nil, or_false] at hf
    subst hf; exact na_cLedger_entries
  cl_Rules := ⟨pg_cRules, hd_cRules, po_cRules, sa_cRules⟩
  na_Rules := fun f hf => by
    simp only [List.mem_cons, List.not_mem_nil, or_false] at hf
    subst hf; exact na_cRules_told
  cl_School := ⟨pg_cSchool, hd_cSchool, po_cSchool, sa_cSchool⟩
  na_School := fun f hf => by
    simp only [List.mem_cons, List.not_mem_nil, or_false] at hf
    rcases hf with rfl | rfl | rfl | rfl | rfl
    · exact na_cSchool_number
    · exact na_cSchool_wanted
    · exact na_cSchool_judges
    · exact na_cSchool_has
    · exact na_cSchool_offered
  cl_Offer := ⟨pg_cOffer, hd_cOffer, po_cOffer, sa_cOffer⟩
  na_Offer := fun f hf => by
    simp only [List.mem_cons, List.not_mem_nil, or_false] at hf
    rcases hf with rfl | rfl | rfl
    · exact na_cOffer_number
    · exact na_cOffer_school
    · exact na_cOffer_day
  cl_House := ⟨pg_cHouse, hd_cHouse, po_cHouse, sa_cHouse⟩
  na_House := fun f hf => by
    simp only [List.mem_cons, List.not_mem_nil, or_false] at hf
    rcases hf with rfl | rfl | rfl | rfl | rfl | rfl | rfl
    · exact na_cHouse_rules
    · exact na_cHouse_schools
    · exact na_cHouse_offers
    · exact na_cHouse_made
    · exact na_cHouse_day
    · exact na_cHouse_closed
    · exact na_cHouse_ledger
  d_Ledger_init := ⟨PySem.W.fnOf "__init__" "Ledger.__init__" (C8.fnArgs s_Ledger_init) (C8.fnBody s_Ledger_init) (C8.fnScope s_Ledger_init) .none kV_Ledger_init dc_Ledger_init pm_Ledger_init an_Ledger_init cd_Ledger_init ct_Ledger_init, ⟨mk_cLedger, a_Ledger_init, i_Ledger_init, kc_cLedger⟩, PySem.W.mg_of X G n_cLedger, ⟨⟨oc_Ledger_init, od_Ledger_init, .none, kV_Ledger_init, dc_Ledger_init, pm_Ledger_init, an_Ledger_init, cd_Ledger_init, ct_Ledger_init, sl_Ledger_init, rfl, l_Ledger_init, e_Ledger_init⟩⟩, .all fun us hl => match us, hl with | [_], _ => rfl⟩
  d_Ledger_has_room := ⟨PySem.W.fnOf "has_room" "Ledger.has_room" (C8.fnArgs s_Ledger_has_room) (C8.fnBody s_Ledger_has_room) (C8.fnScope s_Ledger_has_room) .none kV_Ledger_has_room dc_Ledger_has_room pm_Ledger_has_room an_Ledger_has_room cd_Ledger_has_room ct_Ledger_has_room, ⟨a_Ledger_has_room, i_Ledger_has_room, k_Ledger_has_room⟩, ⟨⟨oc_Ledger_has_room, od_Ledger_has_room, .none, kV_Ledger_has_room, dc_Ledger_has_room, pm_Ledger_has_room, an_Ledger_has_room, cd_Ledger_has_room, ct_Ledger_has_room, sl_Ledger_has_room, rfl, l_Ledger_has_room, e_Ledger_has_room⟩⟩, .all fun us hl => match us, hl with | [_, _], _ => rfl⟩
  d_Ledger_write := ⟨PySem.W.fnOf "write" "Ledger.write" (C8.fnArgs s_Ledger_write) (C8.fnBody s_Ledger_write) (C8.fnScope s_Ledger_write) .none kV_Ledger_write dc_Ledger_write pm_Ledger_write an_Ledger_write cd_Ledger_write ct_Ledger_write, ⟨a_Ledger_write, i_Ledger_write, k_Ledger_write⟩, ⟨⟨oc_Ledger_write, od_Ledger_write, .none, kV_Ledger_write, dc_Ledger_write, pm_Ledger_write, an_Ledger_write, cd_Ledger_write, ct_Ledger_write, sl_Ledger_write, rfl, l_Ledger_write, e_Ledger_write⟩⟩, .all fun us hl => match us, hl with | [_, _, _, _], _ => rfl⟩
  d_Ledger_entries_of := ⟨PySem.W.fnOf "entries_of" "Ledger.entries_of" (C8.fnArgs s_Ledger_entries_of) (C8.fnBody s_Ledger_entries_of) (C8.fnScope s_Ledger_entries_of) .none kV_Ledger_entries_of dc_Ledger_entries_of pm_Ledger_entries_of an_Ledger_entries_of cd_Ledger_entries_of ct_Ledger_entries_of, ⟨a_Ledger_entries_of, i_Ledger_entries_of, k_Ledger_entries_of⟩, ⟨⟨oc_Ledger_entries_of, od_Ledger_entries_of, .none, kV_Ledger_entries_of, dc_Ledger_entries_of, pm_Ledger_entries_of, an_Ledger_entries_of, cd_Ledger_entries_of, ct_Ledger_entries_of, sl_Ledger_entries_of, rfl, l_Ledger_entries_of, e_Ledger_entries_of⟩⟩, .all fun us hl => match us, hl with | [_, _], _ => rfl⟩
  d_Ledger_account_of := ⟨PySem.W.fnOf "account_of" "Ledger.account_of" (C8.fnArgs s_Ledger_account_of) (C8.fnBody s_Ledger_account_of) (C8.fnScope s_Ledger_account_of) .none kV_Ledger_account_of dc_Ledger_account_of pm_Ledger_account_of an_Ledger_account_of cd_Ledger_account_of ct_Ledger_account_of, ⟨a_Ledger_account_of, i_Ledger_account_of, k_Ledger_account_of⟩, ⟨⟨oc_Ledger_account_of, od_Ledger_account_of, .none, kV_Ledger_account_of, dc_Ledger_account_of, pm_Ledger_account_of, an_Ledger_account_of, cd_Ledger_account_of, ct_Ledger_account_of, sl_Ledger_account_of, rfl, l_Ledger_account_of, e_Ledger_account_of⟩⟩, .all fun us hl => match us, hl with | [_, _], _ => rfl⟩
  d_Rules_init := ⟨PySem.W.fnOf "__init__" "Rules.__init__" (C8.fnArgs s_Rules_init) (C8.fnBody s_Rules_init) (C8.fnScope s_Rules_init) .none kV_Rules_init dc_Rules_init pm_Rules_init an_Rules_init cd_Rules_init ct_Rules_init, ⟨mk_cRules, a_Rules_init, i_Rules_init, kc_cRules⟩, PySem.W.mg_of X G n_cRules, ⟨⟨oc_Rules_init, od_Rules_init, .none, kV_Rules_init, dc_Rules_init, pm_Rules_init, an_Rules_init, cd_Rules_init, ct_Rules_init, sl_Rules_init, rfl, l_Rules_init, e_Rules_init⟩⟩, .all fun us hl => match us, hl with | [_, _], _ => rfl⟩
  d_Rules_one := ⟨PySem.W.fnOf "one" "Rules.one" (C8.fnArgs s_Rules_one) (C8.fnBody s_Rules_one) (C8.fnScope s_Rules_one) .none kV_Rules_one dc_Rules_one pm_Rules_one an_Rules_one cd_Rules_one ct_Rules_one, ⟨a_Rules_one, i_Rules_one, k_Rules_one⟩, ⟨⟨oc_Rules_one, od_Rules_one, .none, kV_Rules_one, dc_Rules_one, pm_Rules_one, an_Rules_one, cd_Rules_one, ct_Rules_one, sl_Rules_one, rfl, l_Rules_one, e_Rules_one⟩⟩, .all fun us hl => match us, hl with | [_, _], _ => rfl⟩
  d_Rules_judges_owed := ⟨PySem.W.fnOf "judges_owed" "Rules.judges_owed" (C8.fnArgs s_Rules_judges_owed) (C8.fnBody s_Rules_judges_owed) (C8.fnScope s_Rules_judges_owed) .none kV_Rules_judges_owed dc_Rules_judges_owed pm_Rules_judges_owed an_Rules_judges_owed cd_Rules_judges_owed ct_Rules_judges_owed, ⟨a_Rules_judges_owed, i_Rules_judges_owed, k_Rules_judges_owed⟩, ⟨⟨oc_Rules_judges_owed, od_Rules_judges_owed, .none, kV_Rules_judges_owed, dc_Rules_judges_owed, pm_Rules_judges_owed, an_Rules_judges_owed, cd_Rules_judges_owed, ct_Rules_judges_owed, sl_Rules_judges_owed, rfl, l_Rules_judges_owed, e_Rules_judges_owed⟩⟩, .all fun us hl => match us, hl with | [_, _], _ => rfl⟩
  d_Rules_percent := ⟨PySem.W.fnOf "percent" "Rules.percent" (C8.fnArgs s_Rules_percent) (C8.fnBody s_Rules_percent) (C8.fnScope s_Rules_percent) .none kV_Rules_percent dc_Rules_percent pm_Rules_percent an_Rules_percent cd_Rules_percent ct_Rules_percent, ⟨a_Rules_percent, i_Rules_percent, k_Rules_percent⟩, ⟨⟨oc_Rules_percent, od_Rules_percent, .none, kV_Rules_percent, dc_Rules_percent, pm_Rules_percent, an_Rules_percent, cd_Rules_percent, ct_Rules_percent, sl_Rules_percent, rfl, l_Rules_percent, e_Rules_percent⟩⟩, .all fun us hl => match us, hl with | [_, _], _ => rfl⟩
  d_Rules_row := ⟨PySem.W.fnOf "row" "Rules.row" (C8.fnArgs s_Rules_row) (C8.fnBody s_Rules_row) (C8.fnScope s_Rules_row) .none kV_Rules_row dc_Rules_row pm_Rules_row an_Rules_row cd_Rules_row ct_Rules_row, ⟨a_Rules_row, i_Rules_row, k_Rules_row⟩, ⟨⟨oc_Rules_row, od_Rules_row, .none, kV_Rules_row, dc_Rules_row, pm_Rules_row, an_Rules_row, cd_Rules_row, ct_Rules_row, sl_Rules_row, rfl, l_Rules_row, e_Rules_row⟩⟩, .all fun us hl => match us, hl with | [_], _ => rfl⟩
  d_Rules_shown := ⟨PySem.W.fnOf "shown" "Rules.shown" (C8.fnArgs s_Rules_shown) (C8.fnBody s_Rules_shown) (C8.fnScope s_Rules_shown) .none kV_Rules_shown dc_Rules_shown pm_Rules_shown an_Rules_shown cd_Rules_shown ct_Rules_shown, ⟨a_Rules_shown, i_Rules_shown, k_Rules_shown⟩, ⟨⟨oc_Rules_shown, od_Rules_shown, .none, kV_Rules_shown, dc_Rules_shown, pm_Rules_shown, an_Rules_shown, cd_Rules_shown, ct_Rules_shown, sl_Rules_shown, rfl, l_Rules_shown, e_Rules_shown⟩⟩, .all fun us hl => match us, hl with | [_], _ => rfl⟩
  d_School_init := ⟨PySem.W.fnOf "__init__" "School.__init__" (C8.fnArgs s_School_init) (C8.fnBody s_School_init) (C8.fnScope s_School_init) .none kV_School_init dc_School_init pm_School_init an_School_init cd_School_init ct_School_init, ⟨mk_cSchool, a_School_init, i_School_init, kc_cSchool⟩, PySem.W.mg_of X G n_cSchool, ⟨⟨oc_School_init, od_School_init, .none, kV_School_init, dc_School_init, pm_School_init, an_School_init, cd_School_init, ct_School_init, sl_School_init, rfl, l_School_init, e_School_init⟩⟩, .all fun us hl => match us, hl with | [_, _, _, _], _ => rfl⟩
  d_School_load := ⟨PySem.W.fnOf "load" "School.load" (C8.fnArgs s_School_load) (C8.fnBody s_School_load) (C8.fnScope s_School_load) .none kV_School_load dc_School_load pm_School_load an_School_load cd_School_load ct_School_load, ⟨a_School_load, i_School_load, k_School_load⟩, ⟨⟨oc_School_load, od_School_load, .none, kV_School_load, dc_School_load, pm_School_load, an_School_load, cd_School_load, ct_School_load, sl_School_load, rfl, l_School_load, e_School_load⟩⟩, .all fun us hl => match us, hl with | [_], _ => rfl⟩
  d_Offer_init := ⟨PySem.W.fnOf "__init__" "Offer.__init__" (C8.fnArgs s_Offer_init) (C8.fnBody s_Offer_init) (C8.fnScope s_Offer_init) .none kV_Offer_init dc_Offer_init pm_Offer_init an_Offer_init cd_Offer_init ct_Offer_init, ⟨mk_cOffer, a_Offer_init, i_Offer_init, kc_cOffer⟩, PySem.W.mg_of X G n_cOffer, ⟨⟨oc_Offer_init, od_Offer_init, .none, kV_Offer_init, dc_Offer_init, pm_Offer_init, an_Offer_init, cd_Offer_init, ct_Offer_init, sl_Offer_init, rfl, l_Offer_init, e_Offer_init⟩⟩, .all fun us hl => match us, hl with | [_, _, _, _], _ => rfl⟩
  d_House_init := ⟨PySem.W.fnOf "__init__" "House.__init__" (C8.fnArgs s_House_init) (C8.fnBody s_House_init) (C8.fnScope s_House_init) .none kV_House_init dc_House_init pm_House_init an_House_init cd_House_init ct_House_init, ⟨mk_cHouse, a_House_init, i_House_init, kc_cHouse⟩, PySem.W.mg_of X G n_cHouse, ⟨⟨oc_House_init, od_House_init, .none, kV_House_init, dc_House_init, pm_House_init, an_House_init, cd_House_init, ct_House_init, sl_House_init, rfl, l_House_init, e_House_init⟩⟩, .all fun us hl => match us, hl with | [_], _ => rfl⟩
  d_House_begin := ⟨PySem.W.fnOf "begin" "House.begin" (C8.fnArgs s_House_begin) (C8.fnBody s_House_begin) (C8.fnScope s_House_begin) .none kV_House_begin dc_House_begin pm_House_begin an_House_begin cd_House_begin ct_House_begin, ⟨a_House_begin, i_House_begin, k_House_begin⟩, ⟨⟨oc_House_begin, od_House_begin, .none, kV_House_begin, dc_House_begin, pm_House_begin, an_House_begin, cd_House_begin, ct_House_begin, sl_House_begin, rfl, l_House_begin, e_House_begin⟩⟩, .all fun us hl => match us, hl with | [_], _ => rfl⟩
  d_House_most := ⟨PySem.W.fnOf "most" "House.most" (C8.fnArgs s_House_most) (C8.fnBody s_House_most) (C8.fnScope s_House_most) .none kV_House_most dc_House_most pm_House_most an_House_most cd_House_most ct_House_most, ⟨a_House_most, i_House_most, k_House_most⟩, ⟨⟨oc_House_most, od_House_most, .none, kV_House_most, dc_House_most, pm_House_most, an_House_most, cd_House_most, ct_House_most, sl_House_most, rfl, l_House_most, e_House_most⟩⟩, .all fun us hl => match us, hl with | [_, _], _ => rfl⟩
  d_House_waits := ⟨PySem.W.fnOf "waits" "House.waits" (C8.fnArgs s_House_waits) (C8.fnBody s_House_waits) (C8.fnScope s_House_waits) .none kV_House_waits dc_House_waits pm_House_waits an_House_waits cd_House_waits ct_House_waits, ⟨a_House_waits, i_House_waits, k_House_waits⟩, ⟨⟨oc_House_waits, od_House_waits, .none, kV_House_waits, dc_House_waits, pm_House_waits, an_House_waits, cd_House_waits, ct_House_waits, sl_House_waits, rfl, l_House_waits, e_House_waits⟩⟩, .all fun us hl => match us, hl with | [_, _], _ => rfl⟩
  d_House_taken := ⟨PySem.W.fnOf "taken" "House.taken" (C8.fnArgs s_House_taken) (C8.fnBody s_House_taken) (C8.fnScope s_House_taken) .none kV_House_taken dc_House_taken pm_House_taken an_House_taken cd_House_taken ct_House_taken, ⟨a_House_taken, i_House_taken, k_House_taken⟩, ⟨⟨oc_House_taken, od_House_taken, .none, kV_House_taken, dc_House_taken, pm_House_taken, an_House_taken, cd_House_taken, ct_House_taken, sl_House_taken, rfl, l_House_taken, e_House_taken⟩⟩, .all fun us hl => match us, hl with | [_], _ => rfl⟩
  d_House_free := ⟨PySem.W.fnOf "free" "House.free" (C8.fnArgs s_House_free) (C8.fnBody s_House_free) (C8.fnScope s_House_free) .none kV_House_free dc_House_free pm_House_free an_House_free cd_House_free ct_House_free, ⟨a_House_free, i_House_free, k_House_free⟩, ⟨⟨oc_House_free, od_House_free, .none, kV_House_free, dc_House_free, pm_House_free, an_House_free, cd_House_free, ct_House_free, sl_House_free, rfl, l_House_free, e_House_free⟩⟩, .all fun us hl => match us, hl with | [_], _ => rfl⟩
  d_House_turns := ⟨PySem.W.fnOf "turns" "House.turns" (C8.fnArgs s_House_turns) (C8.fnBody s_House_turns) (C8.fnScope s_House_turns) .none kV_House_turns dc_House_turns pm_House_turns an_House_turns cd_House_turns ct_House_turns, ⟨a_House_turns, i_House_turns, k_House_turns⟩, ⟨⟨oc_House_turns, od_House_turns, .none, kV_House_turns, dc_House_turns, pm_House_turns, an_House_turns, cd_House_turns, ct_House_turns, sl_House_turns, rfl, l_House_turns, e_House_turns⟩⟩, .all fun us hl => match us, hl with | [_], _ => rfl⟩
  d_House_last_day := ⟨PySem.W.fnOf "last_day" "House.last_day" (C8.fnArgs s_House_last_day) (C8.fnBody s_House_last_day) (C8.fnScope s_House_last_day) .none kV_House_last_day dc_House_last_day pm_House_last_day an_House_last_day cd_House_last_day ct_House_last_day, ⟨a_House_last_day, i_House_last_day, k_House_last_day⟩, ⟨⟨oc_House_last_day, od_House_last_day, .none, kV_House_last_day, dc_House_last_day, pm_House_last_day, an_House_last_day, cd_House_last_day, ct_House_last_day, sl_House_last_day, rfl, l_House_last_day, e_House_last_day⟩⟩, .all fun us hl => match us, hl with | [_, _], _ => rfl⟩
  d_House_pass_night := ⟨PySem.W.fnOf "pass_night" "House.pass_night" (C8.fnArgs s_House_pass_night) (C8.fnBody s_House_pass_night) (C8.fnScope s_House_pass_night) .none kV_House_pass_night dc_House_pass_night pm_House_pass_night an_House_pass_night cd_House_pass_night ct_House_pass_night, ⟨a_House_pass_night, i_House_pass_night, k_House_pass_night⟩, ⟨⟨oc_House_pass_night, od_House_pass_night, .none, kV_House_pass_night, dc_House_pass_night, pm_House_pass_night, an_House_pass_night, cd_House_pass_night, ct_House_pass_night, sl_House_pass_night, rfl, l_House_pass_night, e_House_pass_night⟩⟩, .all fun us hl => match us, hl with | [_], _ => rfl⟩
  d_House_make_offers := ⟨PySem.W.fnOf "make_offers" "House.make_offers" (C8.fnArgs s_House_make_offers) (C8.fnBody s_House_make_offers) (C8.fnScope s_House_make_offers) .none kV_House_make_offers dc_House_make_offers pm_House_make_offers an_House_make_offers cd_House_make_offers ct_House_make_offers, ⟨a_House_make_offers, i_House_make_offers, k_House_make_offers⟩, ⟨⟨oc_House_make_offers, od_House_make_offers, .none, kV_House_make_offers, dc_House_make_offers, pm_House_make_offers, an_House_make_offers, cd_House_make_offers, ct_House_make_offers, sl_House_make_offers, rfl, l_House_make_offers, e_House_make_offers⟩⟩, .all fun us hl => match us, hl with | [_], _ => rfl⟩
  d_House_make_offer := ⟨PySem.W.fnOf "make_offer" "House.make_offer" (C8.fnArgs s_House_make_offer) (C8.fnBody s_House_make_offer) (C8.fnScope s_House_make_offer) .none kV_House_make_offer dc_House_make_offer pm_House_make_offer an_House_make_offer cd_House_make_offer ct_House_make_offer, ⟨a_House_make_offer, i_House_make_offer, k_House_make_offer⟩, ⟨⟨oc_House_make_offer, od_House_make_offer, .none, kV_House_make_offer, dc_House_make_offer, pm_House_make_offer, an_House_make_offer, cd_House_make_offer, ct_House_make_offer, sl_House_make_offer, rfl, l_House_make_offer, e_House_make_offer⟩⟩, .all fun us hl => match us, hl with | [_, _], _ => rfl⟩
  d_House_end_offer := ⟨PySem.W.fnOf "end_offer" "House.end_offer" (C8.fnArgs s_House_end_offer) (C8.fnBody s_House_end_offer) (C8.fnScope s_House_end_offer) .none kV_House_end_offer dc_House_end_offer pm_House_end_offer an_House_end_offer cd_House_end_offer ct_House_end_offer, ⟨a_House_end_offer, i_House_end_offer, k_House_end_offer⟩, ⟨⟨oc_House_end_offer, od_House_end_offer, .none, kV_House_end_offer, dc_House_end_offer, pm_House_end_offer, an_House_end_offer, cd_House_end_offer, ct_House_end_offer, sl_House_end_offer, rfl, l_House_end_offer, e_House_end_offer⟩⟩, .all fun us hl => match us, hl with | [_, _], _ => rfl⟩
  d_House_lose_offer := ⟨PySem.W.fnOf "lose_offer" "House.lose_offer" (C8.fnArgs s_House_lose_offer) (C8.fnBody s_House_lose_offer) (C8.fnScope s_House_lose_offer) .none kV_House_lose_offer dc_House_lose_offer pm_House_lose_offer an_House_lose_offer cd_House_lose_offer ct_House_lose_offer, ⟨a_House_lose_offer, i_House_lose_offer, k_House_lose_offer⟩, ⟨⟨oc_House_lose_offer, od_House_lose_offer, .none, kV_House_lose_offer, dc_House_lose_offer, pm_House_lose_offer, an_House_lose_offer, cd_House_lose_offer, ct_House_lose_offer, sl_House_lose_offer, rfl, l_House_lose_offer, e_House_lose_offer⟩⟩, .all fun us hl => match us, hl with | [_, _], _ => rfl⟩
  d_House_take_place := ⟨PySem.W.fnOf "take_place" "House.take_place" (C8.fnArgs s_House_take_place) (C8.fnBody s_House_take_place) (C8.fnScope s_House_take_place) .none kV_House_take_place dc_House_take_place pm_House_take_place an_House_take_place cd_House_take_place ct_House_take_place, ⟨a_House_take_place, i_House_take_place, k_House_take_place⟩, ⟨⟨oc_House_take_place, od_House_take_place, .none, kV_House_take_place, dc_House_take_place, pm_House_take_place, an_House_take_place, cd_House_take_place, ct_House_take_place, sl_House_take_place, rfl, l_House_take_place, e_House_take_place⟩⟩, .all fun us hl => match us, hl with | [_, _], _ => rfl⟩
  d_House_give_up_places := ⟨PySem.W.fnOf "give_up_places" "House.give_up_places" (C8.fnArgs s_House_give_up_places) (C8.fnBody s_House_give_up_places) (C8.fnScope s_House_give_up_places) .none kV_House_give_up_places dc_House_give_up_places pm_House_give_up_places an_House_give_up_places cd_House_give_up_places ct_House_give_up_places, ⟨a_House_give_up_places, i_House_give_up_places, k_House_give_up_places⟩, ⟨⟨oc_House_give_up_places, od_House_give_up_places, .none, kV_House_give_up_places, dc_House_give_up_places, pm_House_give_up_places, an_House_give_up_places, cd_House_give_up_places, ct_House_give_up_places, sl_House_give_up_places, rfl, l_House_give_up_places, e_House_give_up_places⟩⟩, .all fun us hl => match us, hl with | [_, _, _, _], _ => rfl⟩
  d_House_missing := ⟨PySem.W.fnOf "missing" "House.missing" (C8.fnArgs s_House_missing) (C8.fnBody s_House_missing) (C8.fnScope s_House_missing) .none kV_House_missing dc_House_missing pm_House_missing an_House_missing cd_House_missing ct_House_missing, ⟨a_House_missing, i_House_missing, k_House_missing⟩, ⟨⟨oc_House_missing, od_House_missing, .none, kV_House_missing, dc_House_missing, pm_House_missing, an_House_missing, cd_House_missing, ct_House_missing, sl_House_missing, rfl, l_House_missing, e_House_missing⟩⟩, .all fun us hl => match us, hl with | [_, _], _ => rfl⟩
  d_House_shut := ⟨PySem.W.fnOf "shut" "House.shut" (C8.fnArgs s_House_shut) (C8.fnBody s_House_shut) (C8.fnScope s_House_shut) .none kV_House_shut dc_House_shut pm_House_shut an_House_shut cd_House_shut ct_House_shut, ⟨a_House_shut, i_House_shut, k_House_shut⟩, ⟨⟨oc_House_shut, od_House_shut, .none, kV_House_shut, dc_House_shut, pm_House_shut, an_House_shut, cd_House_shut, ct_House_shut, sl_House_shut, rfl, l_House_shut, e_House_shut⟩⟩, .all fun us hl => match us, hl with | [_], _ => rfl⟩
  d_House_fine_schools := ⟨PySem.W.fnOf "fine_schools" "House.fine_schools" (C8.fnArgs s_House_fine_schools) (C8.fnBody s_House_fine_schools) (C8.fnScope s_House_fine_schools) .none kV_House_fine_schools dc_House_fine_schools pm_House_fine_schools an_House_fine_schools cd_House_fine_schools ct_House_fine_schools, ⟨a_House_fine_schools, i_House_fine_schools, k_House_fine_schools⟩, ⟨⟨oc_House_fine_schools, od_House_fine_schools, .none, kV_House_fine_schools, dc_House_fine_schools, pm_House_fine_schools, an_House_fine_schools, cd_House_fine_schools, ct_House_fine_schools, sl_House_fine_schools, rfl, l_House_fine_schools, e_House_fine_schools⟩⟩, .all fun us hl => match us, hl with | [_], _ => rfl⟩
  d_balance := ⟨PySem.W.fnOf "balance" "balance" (C8.fnArgs s_balance) (C8.fnBody s_balance) (C8.fnScope s_balance) .none kV_balance dc_balance pm_balance an_balance cd_balance ct_balance, ⟨⟨⟨oc_balance, od_balance, .none, kV_balance, dc_balance, pm_balance, an_balance, cd_balance, ct_balance, sl_balance, rfl, l_balance, e_balance⟩⟩, PySem.W.mg_of X G a_balance, k_balance⟩, .all fun us hl => match us, hl with | [_], _ => rfl⟩
  d_sums := ⟨PySem.W.fnOf "sums" "sums" (C8.fnArgs s_sums) (C8.fnBody s_sums) (C8.fnScope s_sums) .none kV_sums dc_sums pm_sums an_sums cd_sums ct_sums, ⟨⟨⟨oc_sums, od_sums, .none, kV_sums, dc_sums, pm_sums, an_sums, cd_sums, ct_sums, sl_sums, rfl, l_sums, e_sums⟩⟩, PySem.W.mg_of X G a_sums, k_sums⟩, .all fun us hl => match us, hl with | [_], _ => rfl⟩
  d_amount_of := ⟨PySem.W.fnOf "amount_of" "amount_of" (C8.fnArgs s_amount_of) (C8.fnBody s_amount_of) (C8.fnScope s_amount_of) .none kV_amount_of dc_amount_of pm_amount_of an_amount_of cd_amount_of ct_amount_of, ⟨⟨⟨oc_amount_of, od_amount_of, .none, kV_amount_of, dc_amount_of, pm_amount_of, an_amount_of, cd_amount_of, ct_amount_of, sl_amount_of, rfl, l_amount_of, e_amount_of⟩⟩, PySem.W.mg_of X G a_amount_of, k_amount_of⟩, .all fun us hl => match us, hl with | [_, _], _ => rfl⟩
  d_shown_line := ⟨PySem.W.fnOf "shown_line" "shown_line" (C8.fnArgs s_shown_line) (C8.fnBody s_shown_line) (C8.fnScope s_shown_line) .none kV_shown_line dc_shown_line pm_shown_line an_shown_line cd_shown_line ct_shown_line, ⟨⟨⟨oc_shown_line, od_shown_line, .none, kV_shown_line, dc_shown_line, pm_shown_line, an_shown_line, cd_shown_line, ct_shown_line, sl_shown_line, rfl, l_shown_line, e_shown_line⟩⟩, PySem.W.mg_of X G a_shown_line, k_shown_line⟩, .all fun us hl => match us, hl with | [_, _], _ => rfl⟩
  d_read_lines := ⟨PySem.W.fnOf "read_lines" "read_lines" (C8.fnArgs s_read_lines) (C8.fnBody s_read_lines) (C8.fnScope s_read_lines) .none kV_read_lines dc_read_lines pm_read_lines an_read_lines cd_read_lines ct_read_lines, ⟨⟨⟨oc_read_lines, od_read_lines, .none, kV_read_lines, dc_read_lines, pm_read_lines, an_read_lines, cd_read_lines, ct_read_lines, sl_read_lines, rfl, l_read_lines, e_read_lines⟩⟩, PySem.W.mg_of X G a_read_lines, k_read_lines⟩, .all fun us hl => match us, hl with | [_], _ => rfl⟩
  d_words_of := ⟨PySem.W.fnOf "words_of" "words_of" (C8.fnArgs s_words_of) (C8.fnBody s_words_of) (C8.fnScope s_words_of) .none kV_words_of dc_words_of pm_words_of an_words_of cd_words_of ct_words_of, ⟨⟨⟨oc_words_of, od_words_of, .none, kV_words_of, dc_words_of, pm_words_of, an_words_of, cd_words_of, ct_words_of, sl_words_of, rfl, l_words_of, e_words_of⟩⟩, PySem.W.mg_of X G a_words_of, k_words_of⟩, .all fun us hl => match us, hl with | [_], _ => rfl⟩
  d_first_fault := ⟨PySem.W.fnOf "first_fault" "first_fault" (C8.fnArgs s_first_fault) (C8.fnBody s_first_fault) (C8.fnScope s_first_fault) .none kV_first_fault dc_first_fault pm_first_fault an_first_fault cd_first_fault ct_first_fault, ⟨⟨⟨oc_first_fault, od_first_fault, .none, kV_first_fault, dc_first_fault, pm_first_fault, an_first_fault, cd_first_fault, ct_first_fault, sl_first_fault, rfl, l_first_fault, e_first_fault⟩⟩, PySem.W.mg_of X G a_first_fault, k_first_fault⟩, .all fun us hl => match us, hl with | [_], _ => rfl⟩
  d_fault_of := ⟨PySem.W.fnOf "fault_of" "fault_of" (C8.fnArgs s_fault_of) (C8.fnBody s_fault_of) (C8.fnScope s_fault_of) .none kV_fault_of dc_fault_of pm_fault_of an_fault_of cd_fault_of ct_fault_of, ⟨⟨⟨oc_fault_of, od_fault_of, .none, kV_fault_of, dc_fault_of, pm_fault_of, an_fault_of, cd_fault_of, ct_fault_of, sl_fault_of, rfl, l_fault_of, e_fault_of⟩⟩, PySem.W.mg_of X G a_fault_of, k_fault_of⟩, .all fun us hl => match us, hl with | [_, _], _ => rfl⟩
  d_numbers_fit := ⟨PySem.W.fnOf "numbers_fit" "numbers_fit" (C8.fnArgs s_numbers_fit) (C8.fnBody s_numbers_fit) (C8.fnScope s_numbers_fit) .none kV_numbers_fit dc_numbers_fit pm_numbers_fit an_numbers_fit cd_numbers_fit ct_numbers_fit, ⟨⟨⟨oc_numbers_fit, od_numbers_fit, .none, kV_numbers_fit, dc_numbers_fit, pm_numbers_fit, an_numbers_fit, cd_numbers_fit, ct_numbers_fit, sl_numbers_fit, rfl, l_numbers_fit, e_numbers_fit⟩⟩, PySem.W.mg_of X G a_numbers_fit, k_numbers_fit⟩, .all fun us hl => match us, hl with | [_, _], _ => rfl⟩
  d_is_number := ⟨PySem.W.fnOf "is_number" "is_number" (C8.fnArgs s_is_number) (C8.fnBody s_is_number) (C8.fnScope s_is_number) .none kV_is_number dc_is_number pm_is_number an_is_number cd_is_number ct_is_number, ⟨⟨⟨oc_is_number, od_is_number, .none, kV_is_number, dc_is_number, pm_is_number, an_is_number, cd_is_number, ct_is_number, sl_is_number, rfl, l_is_number, e_is_number⟩⟩, PySem.W.mg_of X G a_is_number, k_is_number⟩, .all fun us hl => match us, hl with | [_], _ => rfl⟩
  d_within_bounds := ⟨PySem.W.fnOf "within_bounds" "within_bounds" (C8.fnArgs s_within_bounds) (C8.fnBody s_within_bounds) (C8.fnScope s_within_bounds) .none kV_within_bounds dc_within_bounds pm_within_bounds an_within_bounds cd_within_bounds ct_within_bounds, ⟨⟨⟨oc_within_bounds, od_within_bounds, .none, kV_within_bounds, dc_within_bounds, pm_within_bounds, an_within_bounds, cd_within_bounds, ct_within_bounds, sl_within_bounds, rfl, l_within_bounds, e_within_bounds⟩⟩, PySem.W.mg_of X G a_within_bounds, k_within_bounds⟩, .all fun us hl => match us, hl with | [_, _], _ => rfl⟩
  d_pairs_fit := ⟨PySem.W.fnOf "pairs_fit" "pairs_fit" (C8.fnArgs s_pairs_fit) (C8.fnBody s_pairs_fit) (C8.fnScope s_pairs_fit) .none kV_pairs_fit dc_pairs_fit pm_pairs_fit an_pairs_fit cd_pairs_fit ct_pairs_fit, ⟨⟨⟨oc_pairs_fit, od_pairs_fit, .none, kV_pairs_fit, dc_pairs_fit, pm_pairs_fit, an_pairs_fit, cd_pairs_fit, ct_pairs_fit, sl_pairs_fit, rfl, l_pairs_fit, e_pairs_fit⟩⟩, PySem.W.mg_of X G a_pairs_fit, k_pairs_fit⟩, .all fun us hl => match us, hl with | [_], _ => rfl⟩
  d_rules_of := ⟨PySem.W.fnOf "rules_of" "rules_of" (C8.fnArgs s_rules_of) (C8.fnBody s_rules_of) (C8.fnScope s_rules_of) .none kV_rules_of dc_rules_of pm_rules_of an_rules_of cd_rules_of ct_rules_of, ⟨⟨⟨oc_rules_of, od_rules_of, .none, kV_rules_of, dc_rules_of, pm_rules_of, an_rules_of, cd_rules_of, ct_rules_of, sl_rules_of, rfl, l_rules_of, e_rules_of⟩⟩, PySem.W.mg_of X G a_rules_of, k_rules_of⟩, .all fun us hl => match us, hl with | [_], _ => rfl⟩
  d_clear := ⟨PySem.W.fnOf "clear" "clear" (C8.fnArgs s_clear) (C8.fnBody s_clear) (C8.fnScope s_clear) .none kV_clear dc_clear pm_clear an_clear cd_clear ct_clear, ⟨⟨⟨oc_clear, od_clear, .none, kV_clear, dc_clear, pm_clear, an_clear, cd_clear, ct_clear, sl_clear, rfl, l_clear, e_clear⟩⟩, PySem.W.mg_of X G a_clear, k_clear⟩, .all fun us hl => match us, hl with | [_], _ => rfl⟩
  d_rules := ⟨PySem.W.fnOf "rules" "rules" (C8.fnArgs s_rules) (C8.fnBody s_rules) (C8.fnScope s_rules) .none kV_rules dc_rules pm_rules an_rules cd_rules ct_rules, ⟨⟨⟨oc_rules, od_rules, .none, kV_rules, dc_rules, pm_rules, an_rules, cd_rules, ct_rules, sl_rules, rfl, l_rules, e_rules⟩⟩, PySem.W.mg_of X G a_rules, k_rules⟩, .all fun us hl => match us, hl with | [_, _], _ => rfl⟩
  d_show := ⟨PySem.W.fnOf "show" "show" (C8.fnArgs s_show) (C8.fnBody s_show) (C8.fnScope s_show) .none kV_show dc_show pm_show an_show cd_show ct_show, ⟨⟨⟨oc_show, od_show, .none, kV_show, dc_show, pm_show, an_show, cd_show, ct_show, sl_show, rfl, l_show, e_show⟩⟩, PySem.W.mg_of X G a_show, k_show⟩, .all fun us hl => match us, hl with | [_], _ => rfl⟩
  d_enter := ⟨PySem.W.fnOf "enter" "enter" (C8.fnArgs s_enter) (C8.fnBody s_enter) (C8.fnScope s_enter) .none kV_enter dc_enter pm_enter an_enter cd_enter ct_enter, ⟨⟨⟨oc_enter, od_enter, .none, kV_enter, dc_enter, pm_enter, an_enter, cd_enter, ct_enter, sl_enter, rfl, l_enter, e_enter⟩⟩, PySem.W.mg_of X G a_enter, k_enter⟩, .all fun us hl => match us, hl with | [_, _, _, _], _ => rfl⟩
  d_want := ⟨PySem.W.fnOf "want" "want" (C8.fnArgs s_want) (C8.fnBody s_want) (C8.fnScope s_want) .none kV_want dc_want pm_want an_want cd_want ct_want, ⟨⟨⟨oc_want, od_want, .none, kV_want, dc_want, pm_want, an_want, cd_want, ct_want, sl_want, rfl, l_want, e_want⟩⟩, PySem.W.mg_of X G a_want, k_want⟩, .all fun us hl => match us, hl with | [_, _, _], _ => rfl⟩
  d_bring := ⟨PySem.W.fnOf "bring" "bring" (C8.fnArgs s_bring) (C8.fnBody s_bring) (C8.fnScope s_bring) .none kV_bring dc_bring pm_bring an_bring cd_bring ct_bring, ⟨⟨⟨oc_bring, od_bring, .none, kV_bring, dc_bring, pm_bring, an_bring, cd_bring, ct_bring, sl_bring, rfl, l_bring, e_bring⟩⟩, PySem.W.mg_of X G a_bring, k_bring⟩, .all fun us hl => match us, hl with | [_, _, _], _ => rfl⟩
  d_accept := ⟨PySem.W.fnOf "accept" "accept" (C8.fnArgs s_accept) (C8.fnBody s_accept) (C8.fnScope s_accept) .none kV_accept dc_accept pm_accept an_accept cd_accept ct_accept, ⟨⟨⟨oc_accept, od_accept, .none, kV_accept, dc_accept, pm_accept, an_accept, cd_accept, ct_accept, sl_accept, rfl, l_accept, e_accept⟩⟩, PySem.W.mg_of X G a_accept, k_accept⟩, .all fun us hl => match us, hl with | [_, _], _ => rfl⟩
  d_decline := ⟨PySem.W.fnOf "decline" "decline" (C8.fnArgs s_decline) (C8.fnBody s_decline) (C8.fnScope s_decline) .none kV_decline dc_decline pm_decline an_decline cd_decline ct_decline, ⟨⟨⟨oc_decline, od_decline, .none, kV_decline, dc_decline, pm_decline, an_decline, cd_decline, ct_decline, sl_decline, rfl, l_decline, e_decline⟩⟩, PySem.W.mg_of X G a_decline, k_decline⟩, .all fun us hl => match us, hl with | [_, _], _ => rfl⟩
  d_drop := ⟨PySem.W.fnOf "drop" "drop" (C8.fnArgs s_drop) (C8.fnBody s_drop) (C8.fnScope s_drop) .none kV_drop dc_drop pm_drop an_drop cd_drop ct_drop, ⟨⟨⟨oc_drop, od_drop, .none, kV_drop, dc_drop, pm_drop, an_drop, cd_drop, ct_drop, sl_drop, rfl, l_drop, e_drop⟩⟩, PySem.W.mg_of X G a_drop, k_drop⟩, .all fun us hl => match us, hl with | [_, _, _], _ => rfl⟩
  d_transfer := ⟨PySem.W.fnOf "transfer" "transfer" (C8.fnArgs s_transfer) (C8.fnBody s_transfer) (C8.fnScope s_transfer) .none kV_transfer dc_transfer pm_transfer an_transfer cd_transfer ct_transfer, ⟨⟨⟨oc_transfer, od_transfer, .none, kV_transfer, dc_transfer, pm_transfer, an_transfer, cd_transfer, ct_transfer, sl_transfer, rfl, l_transfer, e_transfer⟩⟩, PySem.W.mg_of X G a_transfer, k_transfer⟩, .all fun us hl => match us, hl with | [_, _, _], _ => rfl⟩
  d_pay := ⟨PySem.W.fnOf "pay" "pay" (C8.fnArgs s_pay) (C8.fnBody s_pay) (C8.fnScope s_pay) .none kV_pay dc_pay pm_pay an_pay cd_pay ct_pay, ⟨⟨⟨oc_pay, od_pay, .none, kV_pay, dc_pay, pm_pay, an_pay, cd_pay, ct_pay, sl_pay, rfl, l_pay, e_pay⟩⟩, PySem.W.mg_of X G a_pay, k_pay⟩, .all fun us hl => match us, hl with | [_, _, _], _ => rfl⟩
  d_payout := ⟨PySem.W.fnOf "payout" "payout" (C8.fnArgs s_payout) (C8.fnBody s_payout) (C8.fnScope s_payout) .none kV_payout dc_payout pm_payout an_payout cd_payout ct_payout, ⟨⟨⟨oc_payout, od_payout, .none, kV_payout, dc_payout, pm_payout, an_payout, cd_payout, ct_payout, sl_payout, rfl, l_payout, e_payout⟩⟩, PySem.W.mg_of X G a_payout, k_payout⟩, .all fun us hl => match us, hl with | [_, _], _ => rfl⟩
  d_night := ⟨PySem.W.fnOf "night" "night" (C8.fnArgs s_night) (C8.fnBody s_night) (C8.fnScope s_night) .none kV_night dc_night pm_night an_night cd_night ct_night, ⟨⟨⟨oc_night, od_night, .none, kV_night, dc_night, pm_night, an_night, cd_night, ct_night, sl_night, rfl, l_night, e_night⟩⟩, PySem.W.mg_of X G a_night, k_night⟩, .all fun us hl => match us, hl with | [_, _], _ => rfl⟩
  d_close := ⟨PySem.W.fnOf "close" "close" (C8.fnArgs s_close) (C8.fnBody s_close) (C8.fnScope s_close) .none kV_close dc_close pm_close an_close cd_close ct_close, ⟨⟨⟨oc_close, od_close, .none, kV_close, dc_close, pm_close, an_close, cd_close, ct_close, sl_close, rfl, l_close, e_close⟩⟩, PySem.W.mg_of X G a_close, k_close⟩, .all fun us hl => match us, hl with | [_], _ => rfl⟩
  d_tell_school := ⟨PySem.W.fnOf "tell_school" "tell_school" (C8.fnArgs s_tell_school) (C8.fnBody s_tell_school) (C8.fnScope s_tell_school) .none kV_tell_school dc_tell_school pm_tell_school an_tell_school cd_tell_school ct_tell_school, ⟨⟨⟨oc_tell_school, od_tell_school, .none, kV_tell_school, dc_tell_school, pm_tell_school, an_tell_school, cd_tell_school, ct_tell_school, sl_tell_school, rfl, l_tell_school, e_tell_school⟩⟩, PySem.W.mg_of X G a_tell_school, k_tell_school⟩, .all fun us hl => match us, hl with | [_, _], _ => rfl⟩
  d_tell_account := ⟨PySem.W.fnOf "tell_account" "tell_account" (C8.fnArgs s_tell_account) (C8.fnBody s_tell_account) (C8.fnScope s_tell_account) .none kV_tell_account dc_tell_account pm_tell_account an_tell_account cd_tell_account ct_tell_account, ⟨⟨⟨oc_tell_account, od_tell_account, .none, kV_tell_account, dc_tell_account, pm_tell_account, an_tell_account, cd_tell_account, ct_tell_account, sl_tell_account, rfl, l_tell_account, e_tell_account⟩⟩, PySem.W.mg_of X G a_tell_account, k_tell_account⟩, .all fun us hl => match us, hl with | [_, _], _ => rfl⟩
  d_tell_offers := ⟨PySem.W.fnOf "tell_offers" "tell_offers" (C8.fnArgs s_tell_offers) (C8.fnBody s_tell_offers) (C8.fnScope s_tell_offers) .none kV_tell_offers dc_tell_offers pm_tell_offers an_tell_offers cd_tell_offers ct_tell_offers, ⟨⟨⟨oc_tell_offers, od_tell_offers, .none, kV_tell_offers, dc_tell_offers, pm_tell_offers, an_tell_offers, cd_tell_offers, ct_tell_offers, sl_tell_offers, rfl, l_tell_offers, e_tell_offers⟩⟩, PySem.W.mg_of X G a_tell_offers, k_tell_offers⟩, .all fun us hl => match us, hl with | [_], _ => rfl⟩
  d_tell_queue := ⟨PySem.W.fnOf "tell_queue" "tell_queue" (C8.fnArgs s_tell_queue) (C8.fnBody s_tell_queue) (C8.fnScope s_tell_queue) .none kV_tell_queue dc_tell_queue pm_tell_queue an_tell_queue cd_tell_queue ct_tell_queue, ⟨⟨⟨oc_tell_queue, od_tell_queue, .none, kV_tell_queue, dc_tell_queue, pm_tell_queue, an_tell_queue, cd_tell_queue, ct_tell_queue, sl_tell_queue, rfl, l_tell_queue, e_tell_queue⟩⟩, PySem.W.mg_of X G a_tell_queue, k_tell_queue⟩, .all fun us hl => match us, hl with | [_], _ => rfl⟩
  d_tell_money := ⟨PySem.W.fnOf "tell_money" "tell_money" (C8.fnArgs s_tell_money) (C8.fnBody s_tell_money) (C8.fnScope s_tell_money) .none kV_tell_money dc_tell_money pm_tell_money an_tell_money cd_tell_money ct_tell_money, ⟨⟨⟨oc_tell_money, od_tell_money, .none, kV_tell_money, dc_tell_money, pm_tell_money, an_tell_money, cd_tell_money, ct_tell_money, sl_tell_money, rfl, l_tell_money, e_tell_money⟩⟩, PySem.W.mg_of X G a_tell_money, k_tell_money⟩, .all fun us hl => match us, hl with | [_], _ => rfl⟩
  d_tell_counts := ⟨PySem.W.fnOf "tell_counts" "tell_counts" (C8.fnArgs s_tell_counts) (C8.fnBody s_tell_counts) (C8.fnScope s_tell_counts) .none kV_tell_counts dc_tell_counts pm_tell_counts an_tell_counts cd_tell_counts ct_tell_counts, ⟨⟨⟨oc_tell_counts, od_tell_counts, .none, kV_tell_counts, dc_tell_counts, pm_tell_counts, an_tell_counts, cd_tell_counts, ct_tell_counts, sl_tell_counts, rfl, l_tell_counts, e_tell_counts⟩⟩, PySem.W.mg_of X G a_tell_counts, k_tell_counts⟩, .all fun us hl => match us, hl with | [_], _ => rfl⟩
  d_answers := ⟨PySem.W.fnOf "answers" "answers" (C8.fnArgs s_answers) (C8.fnBody s_answers) (C8.fnScope s_answers) .none kV_answers dc_answers pm_answers an_answers cd_answers ct_answers, ⟨⟨⟨oc_answers, od_answers, .none, kV_answers, dc_answers, pm_answers, an_answers, cd_answers, ct_answers, sl_answers, rfl, l_answers, e_answers⟩⟩, PySem.W.mg_of X G a_answers, k_answers⟩, .all fun us hl => match us, hl with | [_], _ => rfl⟩
  d_answers_on := ⟨PySem.W.fnOf "answers_on" "answers_on" (C8.fnArgs s_answers_on) (C8.fnBody s_answers_on) (C8.fnScope s_answers_on) .none kV_answers_on dc_answers_on pm_answers_on an_answers_on cd_answers_on ct_answers_on, ⟨⟨⟨oc_answers_on, od_answers_on, .none, kV_answers_on, dc_answers_on, pm_answers_on, an_answers_on, cd_answers_on, ct_answers_on, sl_answers_on, rfl, l_answers_on, e_answers_on⟩⟩, PySem.W.mg_of X G a_answers_on, k_answers_on⟩, .all fun us hl => match us, hl with | [_, _], _ => rfl⟩
  d_read_calls := ⟨PySem.W.fnOf "read_calls" "read_calls" (C8.fnArgs s_read_calls) (C8.fnBody s_read_calls) (C8.fnScope s_read_calls) .none kV_read_calls dc_read_calls pm_read_calls an_read_calls cd_read_calls ct_read_calls, ⟨⟨⟨oc_read_calls, od_read_calls, .none, kV_read_calls, dc_read_calls, pm_read_calls, an_read_calls, cd_read_calls, ct_read_calls, sl_read_calls, rfl, l_read_calls, e_read_calls⟩⟩, PySem.W.mg_of X G a_read_calls, k_read_calls⟩, .all fun us hl => match us, hl with | [_], _ => rfl⟩
  d_answer := ⟨PySem.W.fnOf "answer" "answer" (C8.fnArgs s_answer) (C8.fnBody s_answer) (C8.fnScope s_answer) .none kV_answer dc_answer pm_answer an_answer cd_answer ct_answer, ⟨⟨⟨oc_answer, od_answer, .none, kV_answer, dc_answer, pm_answer, an_answer, cd_answer, ct_answer, sl_answer, rfl, l_answer, e_answer⟩⟩, PySem.W.mg_of X G a_answer, k_answer⟩, .all fun us hl => match us, hl with | [_, _, _], _ => rfl⟩
  c_MOST_ENTRIES := ⟨_, PySem.W.mg_of X G g_MOST_ENTRIES, _, rfl⟩
  c_PAID := ⟨_, PySem.W.mg_of X G g_PAID, _, rfl⟩
  c_FEE := ⟨_, PySem.W.mg_of X G g_FEE, _, rfl⟩
  c_GIVEN_BACK := ⟨_, PySem.W.mg_of X G g_GIVEN_BACK, _, rfl⟩
  c_FINE := ⟨_, PySem.W.mg_of X G g_FINE, _, rfl⟩
  c_PAID_OUT := ⟨_, PySem.W.mg_of X G g_PAID_OUT, _, rfl⟩
  c_SIGNS := ⟨_, PySem.W.mg_of X G g_SIGNS, _, rfl⟩
  c_MOST_DIGITS := ⟨_, PySem.W.mg_of X G g_MOST_DIGITS, _, rfl⟩
  c_MOST_PAIRS := ⟨_, PySem.W.mg_of X G g_MOST_PAIRS, _, rfl⟩
  c_MOST_DAYS := ⟨_, PySem.W.mg_of X G g_MOST_DAYS, _, rfl⟩
  c_MOST_PERCENT := ⟨_, PySem.W.mg_of X G g_MOST_PERCENT, _, rfl⟩
  c_UNKNOWN_WORD := ⟨_, PySem.W.mg_of X G g_UNKNOWN_WORD, _, rfl⟩
  c_TOLD_ALREADY := ⟨_, PySem.W.mg_of X G g_TOLD_ALREADY, _, rfl⟩
  c_WRONG_NUMBERS := ⟨_, PySem.W.mg_of X G g_WRONG_NUMBERS, _, rfl⟩
  c_MOST_BYTES := ⟨_, PySem.W.mg_of X G g_MOST_BYTES, _, rfl⟩
  c_MOST_SCHOOLS := ⟨_, PySem.W.mg_of X G g_MOST_SCHOOLS, _, rfl⟩
  c_MOST_NIGHTS := ⟨_, PySem.W.mg_of X G g_MOST_NIGHTS, _, rfl⟩
  c_MOST_PAID := ⟨_, PySem.W.mg_of X G g_MOST_PAID, _, rfl⟩
  c_LAST_DAY := ⟨_, PySem.W.mg_of X G g_LAST_DAY, _, rfl⟩
  c_OUT_OF_BOUNDS := ⟨_, PySem.W.mg_of X G g_OUT_OF_BOUNDS, _, rfl⟩
  c_IN_ALREADY := ⟨_, PySem.W.mg_of X G g_IN_ALREADY, _, rfl⟩
  c_CLOSED := ⟨_, PySem.W.mg_of X G g_CLOSED, _, rfl⟩
  c_NOT_THERE := ⟨_, PySem.W.mg_of X G g_NOT_THERE, _, rfl⟩
  c_NOT_ENOUGH := ⟨_, PySem.W.mg_of X G g_NOT_ENOUGH, _, rfl⟩
  c_NOT_WAITING := ⟨_, PySem.W.mg_of X G g_NOT_WAITING, _, rfl⟩
  c_NO_ROOM := ⟨_, PySem.W.mg_of X G g_NO_ROOM, _, rfl⟩
  c_RULES := ⟨_, PySem.W.mg_of X G g_RULES, _, rfl⟩
  c_UNTOLD := ⟨_, PySem.W.mg_of X G g_UNTOLD, rfl⟩
  c_BOUNDS := ⟨_, PySem.W.mg_of X G g_BOUNDS, rfl⟩
  c_CALLS := ⟨_, PySem.W.mg_of X G g_CALLS, rfl⟩
  c_NUMBERS := ⟨_, PySem.W.mg_of X G g_NUMBERS, rfl⟩
  kd_UNTOLD := ⟨⟨es_dU, nn_dU, l_dU, y_dU, p_dU⟩, w_dU, (show (["places", "form", "cap", "judges", "fee", "fine", "answer", "start", "back"] : List Str).Nodup by decide)⟩
  kd_BOUNDS := ⟨⟨es_dB, nn_dB, l_dB, y_dB, p_dB⟩, w_dB, (show (["places", "form", "cap", "judges", "fee", "fine", "answer", "start"] : List Str).Nodup by decide)⟩
  u_places := seq_txt l_u_places z_u_places v_u_places
  u_form := seq_txt l_u_form z_u_form v_u_form
  u_cap := seq_txt l_u_cap z_u_cap v_u_cap
  u_judges := seq_txt l_u_judges z_u_judges v_u_judges
  u_fee := seq_txt l_u_fee z_u_fee v_u_fee
  u_fine := seq_txt l_u_fine z_u_fine v_u_fine
  u_answer := seq_txt l_u_answer z_u_answer v_u_answer
  u_start := seq_txt l_u_start z_u_start v_u_start
  u_back := seq_txt l_u_back z_u_back v_u_back
  b_places := seq_txt l_b_places z_b_places v_b_places
  bi_places := seq_txt l_bi_places z_bi_places v_bi_places
  b_form := seq_txt l_b_form z_b_form v_b_form
  bi_form := seq_txt l_bi_form z_bi_form v_bi_form
  b_cap := seq_txt l_b_cap z_b_cap v_b_cap
  bi_cap := seq_txt l_bi_cap z_bi_cap v_bi_cap
  b_judges := seq_txt l_b_judges z_b_judges v_b_judges
  bi_judges := seq_txt l_bi_judges z_bi_judges v_bi_judges
  b_fee := seq_txt l_b_fee z_b_fee v_b_fee
  bi_fee := seq_txt l_bi_fee z_bi_fee v_bi_fee
  b_fine := seq_txt l_b_fine z_b_fine v_b_fine
  bi_fine := seq_txt l_bi_fine z_bi_fine v_bi_fine
  b_answer := seq_txt l_b_answer z_b_answer v_b_answer
  bi_answer := seq_txt l_bi_answer z_bi_answer v_bi_answer
  b_start := seq_txt l_b_start z_b_start v_b_start
  bi_start := seq_txt l_bi_start z_bi_start v_bi_start
  bj_judges := seq_txt l_bj_judges z_bj_judges v_bj_judges
  t_CALLS := seq_txt l_tC z_tC v_tC
  t_NUMBERS := seq_txt l_tN z_tN v_tN
  n_len := PySem.W.mg_none_of X G b0_len
  n_sum := PySem.W.mg_none_of X G b0_sum
  n_all := PySem.W.mg_none_of X G b0_all
  n_ord := PySem.W.mg_none_of X G b0_ord
  n_min := PySem.W.mg_none_of X G b0_min
  n_max := PySem.W.mg_none_of X G b0_max
  n_sorted := PySem.W.mg_none_of X G b0_sorted
  n_int := PySem.W.mg_none_of X G b0_int
  n_str := PySem.W.mg_none_of X G b0_str
  n_tuple := PySem.W.mg_none_of X G b0_tuple
  n_dict := PySem.W.mg_none_of X G b0_dict
  n_list := PySem.W.mg_none_of X G b0_list
  n_range := PySem.W.mg_none_of X G b0_range
  n_enumerate := PySem.W.mg_none_of X G b0_enumerate
  n_zip := PySem.W.mg_none_of X G b0_zip
end EH

/-! ## EHFIN -/
namespace EH
open PySem PySem.Spec PyProof.Rows L2 EHR
theorem all_mk {P : Program} {w : World} {K : PySem.W.Frag} {h : Heap} {mg : Str → Option Value} {fa : Addr} {cLedger cRules cSchool cOffer cHouse f_Ledger_init f_Ledger_has_room f_Ledger_write f_Ledger_entries_of f_Ledger_account_of f_Rules_init f_Rules_one f_Rules_judges_owed f_Rules_percent f_Rules_row f_Rules_shown f_School_init f_School_load f_Offer_init f_House_init f_House_begin f_House_most f_House_waits f_House_taken f_House_free f_House_turns f_House_last_day f_House_pass_night f_House_make_offers f_House_make_offer f_House_end_offer f_House_lose_offer f_House_take_place f_House_give_up_places f_House_missing f_House_shut f_House_fine_schools f_balance f_sums f_amount_of f_shown_line f_read_lines f_words_of f_first_fault f_fault_of f_numbers_fit f_is_number f_within_bounds f_pairs_fit f_rules_of f_clear f_rules f_show f_enter f_want f_bring f_accept f_decline f_drop f_transfer f_pay f_payout f_night f_close f_tell_school f_tell_account f_tell_offers f_tell_queue f_tell_money f_tell_counts f_answers f_answers_on f_read_calls f_answer dU dB tC tN u_places u_form u_cap u_judges u_fee u_fine u_answer u_start u_back b_places b_form b_cap b_judges b_fee b_fine b_answer b_start bi_places bi_form bi_cap bi_judges bi_fee bi_fine bi_answer bi_start bj_judges : Addr}
    {od_Ledger_init an_Ledger_init : Option Addr} {sl_Ledger_init : Array (Option Value)} {oc_Ledger_init kV_Ledger_init dc_Ledger_init pm_Ledger_init cd_Ledger_init ct_Ledger_init : Value}
    {od_Ledger_has_room an_Ledger_has_room : Option Addr} {sl_Ledger_has_room : Array (Option Value)} {oc_Ledger_has_room kV_Ledger_has_room dc_Ledger_has_room pm_Ledger_has_room cd_Ledger_has_room ct_Ledger_has_room : Value}
    {od_Ledger_write an_Ledger_write : Option Addr} {sl_Ledger_write : Array (Option Value)} {oc_Ledger_write kV_Ledger_write dc_Ledger_write pm_Ledger_write cd_Ledger_write ct_Ledger_write : Value}
    {od_Ledger_entries_of an_Ledger_entries_of : Option Addr} {sl_Ledger_entries_of : Array (Option Value)} {oc_Ledger_entries_of kV_Ledger_entries_of dc_Ledger_entries_of pm_Ledger_entries_of cd_Ledger_entries_of ct_Ledger_entries_of : Value}
    {od_Ledger_account_of an_Ledger_account_of : Option Addr} {sl_Ledger_account_of : Array (Option Value)} {oc_Ledger_account_of kV_Ledger_account_of dc_Ledger_account_of pm_Ledger_account_of cd_Ledger_account_of ct_Ledger_account_of : Value}
    {od_Rules_init an_Rules_init : Option Addr} {sl_Rules_init : Array (Option Value)} {oc_Rules_init kV_Rules_init dc_Rules_init pm_Rules_init cd_Rules_init ct_Rules_init : Value}
    {od_Rules_one an_Rules_one : Option Addr} {sl_Rules_one : Array (Option Value)} {oc_Rules_one kV_Rules_one dc_Rules_one pm_Rules_one cd_Rules_one ct_Rules_one : Value}
    {od_Rules_judges_owed an_Rules_judges_owed : Option Addr} {sl_Rules_judges_owed : Array (Option Value)} {oc_Rules_judges_owed kV_Rules_judges_owed dc_Rules_judges_owed pm_Rules_judges_owed cd_Rules_judges_owed ct_Rules_judges_owed : Value}
    {od_Rules_percent an_Rules_percent : Option Addr} {sl_Rules_percent : Array (Option Value)} {oc_Rules_percent kV_Rules_percent dc_Rules_percent pm_Rules_percent cd_Rules_percent ct_Rules_percent : Value}
    {od_Rules_row an_Rules_row : Option Addr} {sl_Rules_row : Array (Option Value)} {oc_Rules_row kV_Rules_row dc_Rules_row pm_Rules_row cd_Rules_row ct_Rules_row : Value}
    {od_Rules_shown an_Rules_shown : Option Addr} {sl_Rules_shown : Array (Option Value)} {oc_Rules_shown kV_Rules_shown dc_Rules_shown pm_Rules_shown cd_Rules_shown ct_Rules_shown : Value}
    {od_School_init an_School_init : Option Addr} {sl_School_init : Array (Option Value)} {oc_School_init kV_School_init dc_School_init pm_School_init cd_School_init ct_School_init : Value}
    {od_School_load an_School_load : Option Addr} {sl_School_load : Array (Option Value)} {oc_School_load kV_School_load dc_School_load pm_School_load cd_School_load ct_School_load : Value}
    {od_Offer_init an_Offer_init : Option Addr} {sl_Offer_init : Array (Option Value)} {oc_Offer_init kV_Offer_init dc_Offer_init pm_Offer_init cd_Offer_init ct_Offer_init : Value}
    {od_House_init an_House_init : Option Addr} {sl_House_init : Array (Option Value)} {oc_House_init kV_House_init dc_House_init pm_House_init cd_House_init ct_House_init : Value}
    {od_House_begin an_House_begin : Option Addr} {sl_House_begin : Array (Option Value)} {oc_House_begin kV_House_begin dc_House_begin pm_House_begin cd_House_begin ct_House_begin : Value}
    {od_House_most an_House_most : Option Addr} {sl_House_most : Array (Option Value)} {oc_House_most kV_House_most dc_House_most pm_House_most cd_House_most ct_House_most : Value}
    {od_House_waits an_House_waits : Option Addr} {sl_House_waits : Array (Option Value)} {oc_House_waits kV_House_waits dc_House_waits pm_House_waits cd_House_waits ct_House_waits : Value}
    {od_House_taken an_House_taken : Option Addr} {sl_House_taken : Array (Option Value)} {oc_House_taken kV_House_taken dc_House_taken pm_House_taken cd_House_taken ct_House_taken : Value}
    {od_House_free an_House_free : Option Addr} {sl_House_free : Array (Option Value)} {oc_House_free kV_House_free dc_House_free pm_House_free cd_House_free ct_House_free : Value}
    {od_House_turns an_House_turns : Option Addr} {sl_House_turns : Array (Option Value)} {oc_House_turns kV_House_turns dc_House_turns pm_House_turns cd_House_turns ct_House_turns : Value}
    {od_House_last_day an_House_last_day : Option Addr} {sl_House_last_day : Array (Option Value)} {oc_House_last_day kV_House_last_day dc_House_last_day pm_House_last_day cd_House_last_day ct_House_last_day : Value}
    {od_House_pass_night an_House_pass_night : Option Addr} {sl_House_pass_night : Array (Option Value)} {oc_House_pass_night kV_House_pass_night dc_House_pass_night pm_House_pass_night cd_House_pass_night ct_House_pass_night : Value}
    {od_House_make_offers an_House_make_offers : Option Addr} {sl_House_make_offers : Array (Option Value)} {oc_House_make_offers kV_House_make_offers dc_House_make_offers pm_House_make_offers cd_House_make_offers ct_House_make_offers : Value}
    {od_House_make_offer an_House_make_offer : Option Addr} {sl_House_make_offer : Array (Option Value)} {oc_House_make_offer kV_House_make_offer dc_House_make_offer pm_House_make_offer cd_House_make_offer ct_House_make_offer : Value}
    {od_House_end_offer an_House_end_offer : Option Addr} {sl_House_end_offer : Array (Option Value)} {oc_House_end_offer kV_House_end_offer dc_House_end_offer pm_House_end_offer cd_House_end_offer ct_House_end_offer : Value}
    {od_House_lose_offer an_House_lose_offer : Option Addr} {sl_House_lose_offer : Array (Option Value)} {oc_House_lose_offer kV_House_lose_offer dc_House_lose_offer pm_House_lose_offer cd_House_lose_offer ct_House_lose_offer : Value}
    {od_House_take_place an_House_take_place : Option Addr} {sl_House_take_place : Array (Option Value)} {oc_House_take_place kV_House_take_place dc_House_take_place pm_House_take_place cd_House_take_place ct_House_take_place : Value}
    {od_House_give_up_places an_House_give_up_places : Option Addr} {sl_House_give_up_places : Array (Option Value)} {oc_House_give_up_places kV_House_give_up_places dc_House_give_up_places pm_House_give_up_places cd_House_give_up_places ct_House_give_up_places : Value}
    {od_House_missing an_House_missing : Option Addr} {sl_House_missing : Array (Option Value)} {oc_House_missing kV_House_missing dc_House_missing pm_House_missing cd_House_missing ct_House_missing : Value}
    {od_House_shut an_House_shut : Option Addr} {sl_House_shut : Array (Option Value)} {oc_House_shut kV_House_shut dc_House_shut pm_House_shut cd_House_shut ct_House_shut : Value}
    {od_House_fine_schools an_House_fine_schools : Option Addr} {sl_House_fine_schools : Array (Option Value)} {oc_House_fine_schools kV_House_fine_schools dc_House_fine_schools pm_House_fine_schools cd_House_fine_schools ct_House_fine_schools : Value}
    {od_balance an_balance : Option Addr} {sl_balance : Array (Option Value)} {oc_balance kV_balance dc_balance pm_balance cd_balance ct_balance : Value}
    {od_sums an_sums : Option Addr} {sl_sums : Array (Option Value)} {oc_sums kV_sums dc_sums pm_sums cd_sums ct_sums : Value}
    {od_amount_of an_amount_of : Option Addr} {sl_amount_of : Array (Option Value)} {oc_amount_of kV_amount_of dc_amount_of pm_amount_of cd_amount_of ct_amount_of : Value}
    {od_shown_line an_shown_line : Option Addr} {sl_shown_line : Array (Option Value)} {oc_shown_line kV_shown_line dc_shown_line pm_shown_line cd_shown_line ct_shown_line : Value}
    {od_read_lines an_read_lines : Option Addr} {sl_read_lines : Array (Option Value)} {oc_read_lines kV_read_lines dc_read_lines pm_read_lines cd_read_lines ct_read_lines : Value}
    {od_words_of an_words_of : Option Addr} {sl_words_of : Array (Option Value)} {oc_words_of kV_words_of dc_words_of pm_words_of cd_words_of ct_words_of : Value}
    {od_first_fault an_first_fault : Option Addr} {sl_first_fault : Array (Option Value)} {oc_first_fault kV_first_fault dc_first_fault pm_first_fault cd_first_fault ct_first_fault : Value}
    {od_fault_of an_fault_of : Option Addr} {sl_fault_of : Array (Option Value)} {oc_fault_of kV_fault_of dc_fault_of pm_fault_of cd_fault_of ct_fault_of : Value}
    {od_numbers_fit an_numbers_fit : Option Addr} {sl_numbers_fit : Array (Option Value)} {oc_numbers_fit kV_numbers_fit dc_numbers_fit pm_numbers_fit cd_numbers_fit ct_numbers_fit : Value}
    {od_is_number an_is_number : Option Addr} {sl_is_number : Array (Option Value)} {oc_is_number kV_is_number dc_is_number pm_is_number cd_is_number ct_is_number : Value}
    {od_within_bounds an_within_bounds : Option Addr} {sl_within_bounds : Array (Option Value)} {oc_within_bounds kV_within_bounds dc_within_bounds pm_within_bounds cd_within_bounds ct_within_bounds : Value}
    {od_pairs_fit an_pairs_fit : Option Addr} {sl_pairs_fit : Array (Option Value)} {oc_pairs_fit kV_pairs_fit dc_pairs_fit pm_pairs_fit cd_pairs_fit ct_pairs_fit : Value}
    {od_rules_of an_rules_of : Option Addr} {sl_rules_of : Array (Option Value)} {oc_rules_of kV_rules_of dc_rules_of pm_rules_of cd_rules_of ct_rules_of : Value}
    {od_clear an_clear : Option Addr} {sl_clear : Array (Option Value)} {oc_clear kV_clear dc_clear pm_clear cd_clear ct_clear : Value}
    {od_rules an_rules : Option Addr} {sl_rules : Array (Option Value)} {oc_rules kV_rules dc_rules pm_rules cd_rules ct_rules : Value}
    {od_show an_show : Option Addr} {sl_show : Array (Option Value)} {oc_show kV_show dc_show pm_show cd_show ct_show : Value}
    {od_enter an_enter : Option Addr} {sl_enter : Array (Option Value)} {oc_enter kV_enter dc_enter pm_enter cd_enter ct_enter : Value}
    {od_want an_want : Option Addr} {sl_want : Array (Option Value)} {oc_want kV_want dc_want pm_want cd_want ct_want : Value}
    {od_bring an_bring : Option Addr} {sl_bring : Array (Option Value)} {oc_bring kV_bring dc_bring pm_bring cd_bring ct_bring : Value}
    {od_accept an_accept : Option Addr} {sl_accept : Array (Option Value)} {oc_accept kV_accept dc_accept pm_accept cd_accept ct_accept : Value}
    {od_decline an_decline : Option Addr} {sl_decline : Array (Option Value)} {oc_decline kV_decline dc_decline pm_decline cd_decline ct_decline : Value}
    {od_drop an_drop : Option Addr} {sl_drop : Array (Option Value)} {oc_drop kV_drop dc_drop pm_drop cd_drop ct_drop : Value}
    {od_transfer an_transfer : Option Addr} {sl_transfer : Array (Option Value)} {oc_transfer kV_transfer dc_transfer pm_transfer cd_transfer ct_transfer : Value}
    {od_pay an_pay : Option Addr} {sl_pay : Array (Option Value)} {oc_pay kV_pay dc_pay pm_pay cd_pay ct_pay : Value}
    {od_payout an_payout : Option Addr} {sl_payout : Array (Option Value)} {oc_payout kV_payout dc_payout pm_payout cd_payout ct_payout : Value}
    {od_night an_night : Option Addr} {sl_night : Array (Option Value)} {oc_night kV_night dc_night pm_night cd_night ct_night : Value}
    {od_close an_close : Option Addr} {sl_close : Array (Option Value)} {oc_close kV_close dc_close pm_close cd_close ct_close : Value}
    {od_tell_school an_tell_school : Option Addr} {sl_tell_school : Array (Option Value)} {oc_tell_school kV_tell_school dc_tell_school pm_tell_school cd_tell_school ct_tell_school : Value}
    {od_tell_account an_tell_account : Option Addr} {sl_tell_account : Array (Option Value)} {oc_tell_account kV_tell_account dc_tell_account pm_tell_account cd_tell_account ct_tell_account : Value}
    {od_tell_offers an_tell_offers : Option Addr} {sl_tell_offers : Array (Option Value)} {oc_tell_offers kV_tell_offers dc_tell_offers pm_tell_offers cd_tell_offers ct_tell_offers : Value}
    {od_tell_queue an_tell_queue : Option Addr} {sl_tell_queue : Array (Option Value)} {oc_tell_queue kV_tell_queue dc_tell_queue pm_tell_queue cd_tell_queue ct_tell_queue : Value}
    {od_tell_money an_tell_money : Option Addr} {sl_tell_money : Array (Option Value)} {oc_tell_money kV_tell_money dc_tell_money pm_tell_money cd_tell_money ct_tell_money : Value}
    {od_tell_counts an_tell_counts : Option Addr} {sl_tell_counts : Array (Option Value)} {oc_tell_counts kV_tell_counts dc_tell_counts pm_tell_counts cd_tell_counts ct_tell_counts : Value}
    {od_answers an_answers : Option Addr} {sl_answers : Array (Option Value)} {oc_answers kV_answers dc_answers pm_answers cd_answers ct_answers : Value}
    {od_answers_on an_answers_on : Option Addr} {sl_answers_on : Array (Option Value)} {oc_answers_on kV_answers_on dc_answers_on pm_answers_on cd_answers_on ct_answers_on : Value}
    {od_read_calls an_read_calls : Option Addr} {sl_read_calls : Array (Option Value)} {oc_read_calls kV_read_calls dc_read_calls pm_read_calls cd_read_calls ct_read_calls : Value}
    {od_answer an_answer : Option Addr} {sl_answer : Array (Option Value)} {oc_answer kV_answer dc_answer pm_answer cd_answer ct_answer : Value}
    {t_MOST_ENTRIES : Tok}
    {t_PAID : Tok}
    {t_FEE : Tok}
    {t_GIVEN_BACK : Tok}
    {t_FINE : Tok}
    {t_PAID_OUT : Tok}
    {t_SIGNS : Tok}
    {t_MOST_DIGITS : Tok}
    {t_MOST_PAIRS : Tok}
    {t_MOST_DAYS : Tok}
    {t_MOST_PERCENT : Tok}
    {t_UNKNOWN_WORD : Tok}
    {t_TOLD_ALREADY : Tok}
    {t_WRONG_NUMBERS : Tok}
    {t_MOST_BYTES : Tok}
    {t_MOST_SCHOOLS : Tok}
    {t_MOST_NIGHTS : Tok}
    {t_MOST_PAID : Tok}
    {t_LAST_DAY : Tok}
    {t_OUT_OF_BOUNDS : Tok}
    {t_IN_ALREADY : Tok}
    {t_CLOSED : Tok}
    {t_NOT_THERE : Tok}
    {t_NOT_ENOUGH : Tok}
    {t_NOT_WAITING : Tok}
    {t_NO_ROOM : Tok}
    {t_RULES : Tok}
    {es_dU : Array DictEntry} {nn_dU : Nat}
    {es_dB : Array DictEntry} {nn_dB : Nat}
    {dt_u_places : Option Addr} {it_u_places : Array Value} {nn_u_places : Nat} {sl_u_places : Array (Option Value)}
    {dt_u_form : Option Addr} {it_u_form : Array Value} {nn_u_form : Nat} {sl_u_form : Array (Option Value)}
    {dt_u_cap : Option Addr} {it_u_cap : Array Value} {nn_u_cap : Nat} {sl_u_cap : Array (Option Value)}
    {dt_u_judges : Option Addr} {it_u_judges : Array Value} {nn_u_judges : Nat} {sl_u_judges : Array (Option Value)}
    {dt_u_fee : Option Addr} {it_u_fee : Array Value} {nn_u_fee : Nat} {sl_u_fee : Array (Option Value)}
    {dt_u_fine : Option Addr} {it_u_fine : Array Value} {nn_u_fine : Nat} {sl_u_fine : Array (Option Value)}
    {dt_u_answer : Option Addr} {it_u_answer : Array Value} {nn_u_answer : Nat} {sl_u_answer : Array (Option Value)}
    {dt_u_start : Option Addr} {it_u_start : Array Value} {nn_u_start : Nat} {sl_u_start : Array (Option Value)}
    {dt_u_back : Option Addr} {it_u_back : Array Value} {nn_u_back : Nat} {sl_u_back : Array (Option Value)}
    {dt_b_places : Option Addr} {it_b_places : Array Value} {nn_b_places : Nat} {sl_b_places : Array (Option Value)}
    {dt_b_form : Option Addr} {it_b_form : Array Value} {nn_b_form : Nat} {sl_b_form : Array (Option Value)}
    {dt_b_cap : Option Addr} {it_b_cap : Array Value} {nn_b_cap : Nat} {sl_b_cap : Array (Option Value)}
    {dt_b_judges : Option Addr} {it_b_judges : Array Value} {nn_b_judges : Nat} {sl_b_judges : Array (Option Value)}
    {dt_b_fee : Option Addr} {it_b_fee : Array Value} {nn_b_fee : Nat} {sl_b_fee : Array (Option Value)}
    {dt_b_fine : Option Addr} {it_b_fine : Array Value} {nn_b_fine : Nat} {sl_b_fine : Array (Option Value)}
    {dt_b_answer : Option Addr} {it_b_answer : Array Value} {nn_b_answer : Nat} {sl_b_answer : Array (Option Value)}
    {dt_b_start : Option Addr} {it_b_start : Array Value} {nn_b_start : Nat} {sl_b_start : Array (Option Value)}
    {dt_bi_places : Option Addr} {it_bi_places : Array Value} {nn_bi_places : Nat} {sl_bi_places : Array (Option Value)}
    {dt_bi_form : Option Addr} {it_bi_form : Array Value} {nn_bi_form : Nat} {sl_bi_form : Array (Option Value)}
    {dt_bi_cap : Option Addr} {it_bi_cap : Array Value} {nn_bi_cap : Nat} {sl_bi_cap : Array (Option Value)}
    {dt_bi_judges : Option Addr} {it_bi_judges : Array Value} {nn_bi_judges : Nat} {sl_bi_judges : Array (Option Value)}
    {dt_bi_fee : Option Addr} {it_bi_fee : Array Value} {nn_bi_fee : Nat} {sl_bi_fee : Array (Option Value)}
    {dt_bi_fine : Option Addr} {it_bi_fine : Array Value} {nn_bi_fine : Nat} {sl_bi_fine : Array (Option Value)}
    {dt_bi_answer : Option Addr} {it_bi_answer : Array Value} {nn_bi_answer : Nat} {sl_bi_answer : Array (Option Value)}
    {dt_bi_start : Option Addr} {it_bi_start : Array Value} {nn_bi_start : Nat} {sl_bi_start : Array (Option Value)}
    {dt_bj_judges : Option Addr} {it_bj_judges : Array Value} {nn_bj_judges : Nat} {sl_bj_judges : Array (Option Value)}
    {dt_tC : Option Addr} {it_tC : Array Value} {nn_tC : Nat} {sl_tC : Array (Option Value)}
    {dt_tN : Option Addr} {it_tN : Array Value} {nn_tN : Nat} {sl_tN : Array (Option Value)}
    (X : K.In h) (G : h.Ns mainGlobals mg) (hfa : mg "answers" = some (.ref fa))
    (n_cLedger : PySem.W.nsIn K mainGlobals "Ledger" = some (some (.ref cLedger)))
    (pg_cLedger : PySem.W.plainGet K cLedger Str.empty = true)
    (hd_cLedger : PySem.W.hasDictIn K cLedger = true)
    (po_cLedger : PySem.W.plainOver K cLedger = true)
    (sa_cLedger : PySem.W.findIn K (.ref cLedger) "__setattr__" = some (some (.builtin "object.__setattr__")))
    (mk_cLedger : PySem.W.makesIn K cLedger = true)
    (kc_cLedger : PySem.W.keepIn K (.ref cLedger) = true)
    (na_cLedger_entries : PySem.W.findIn K (.ref cLedger) "entries" = some none)
    (n_cRules : PySem.W.nsIn K mainGlobals "Rules" = some (some (.ref cRules)))
    (pg_cRules : PySem.W.plainGet K cRules Str.empty = true)
    (hd_cRules : PySem.W.hasDictIn K cRules = true)
    (po_cRules : PySem.W.plainOver K cRules = true)
    (sa_cRules : PySem.W.findIn K (.ref cRules) "__setattr__" = some (some (.builtin "object.__setattr__")))
    (mk_cRules : PySem.W.makesIn K cRules = true)
    (kc_cRules : PySem.W.keepIn K (.ref cRules) = true)
    (na_cRules_told : PySem.W.findIn K (.ref cRules) "told" = some none)
    (n_cSchool : PySem.W.nsIn K mainGlobals "School" = some (some (.ref cSchool)))
    (pg_cSchool : PySem.W.plainGet K cSchool Str.empty = true)
    (hd_cSchool : PySem.W.hasDictIn K cSchool = true)
    (po_cSchool : PySem.W.plainOver K cSchool = true)
    (sa_cSchool : PySem.W.findIn K (.ref cSchool) "__setattr__" = some (some (.builtin "object.__setattr__")))
    (mk_cSchool : PySem.W.makesIn K cSchool = true)
    (kc_cSchool : PySem.W.keepIn K (.ref cSchool) = true)
    (na_cSchool_number : PySem.W.findIn K (.ref cSchool) "number" = some none)
    (na_cSchool_wanted : PySem.W.findIn K (.ref cSchool) "wanted" = some none)
    (na_cSchool_judges : PySem.W.findIn K (.ref cSchool) "judges" = some none)
    (na_cSchool_has : PySem.W.findIn K (.ref cSchool) "has" = some none)
    (na_cSchool_offered : PySem.W.findIn K (.ref cSchool) "offered" = some none)
    (n_cOffer : PySem.W.nsIn K mainGlobals "Offer" = some (some (.ref cOffer)))
    (pg_cOffer : PySem.W.plainGet K cOffer Str.empty = true)
    (hd_cOffer : PySem.W.hasDictIn K cOffer = true)
    (po_cOffer : PySem.W.plainOver K cOffer = true)
    (sa_cOffer : PySem.W.findIn K (.ref cOffer) "__setattr__" = some (some (.builtin "object.__setattr__")))
    (mk_cOffer : PySem.W.makesIn K cOffer = true)
    (kc_cOffer : PySem.W.keepIn K (.ref cOffer) = true)
    (na_cOffer_number : PySem.W.findIn K (.ref cOffer) "number" = some none)
    (na_cOffer_school : PySem.W.findIn K (.ref cOffer) "school" = some none)
    (na_cOffer_day : PySem.W.findIn K (.ref cOffer) "day" = some none)
    (n_cHouse : PySem.W.nsIn K mainGlobals "House" = some (some (.ref cHouse)))
    (pg_cHouse : PySem.W.plainGet K cHouse Str.empty = true)
    (hd_cHouse : PySem.W.hasDictIn K cHouse = true)
    (po_cHouse : PySem.W.plainOver K cHouse = true)
    (sa_cHouse : PySem.W.findIn K (.ref cHouse) "__setattr__" = some (some (.builtin "object.__setattr__")))
    (mk_cHouse : PySem.W.makesIn K cHouse = true)
    (kc_cHouse : PySem.W.keepIn K (.ref cHouse) = true)
    (na_cHouse_rules : PySem.W.findIn K (.ref cHouse) "rules" = some none)
    (na_cHouse_schools : PySem.W.findIn K (.ref cHouse) "schools" = some none)
    (na_cHouse_offers : PySem.W.findIn K (.ref cHouse) "offers" = some none)
    (na_cHouse_made : PySem.W.findIn K (.ref cHouse) "made" = some none)
    (na_cHouse_day : PySem.W.findIn K (.ref cHouse) "day" = some none)
    (na_cHouse_closed : PySem.W.findIn K (.ref cHouse) "closed" = some none)
    (na_cHouse_ledger : PySem.W.findIn K (.ref cHouse) "ledger" = some none)
    (a_Ledger_init : PySem.W.findIn K (.ref cLedger) "__init__" = some (some (.ref f_Ledger_init)))
    (i_Ledger_init : PySem.W.isFn K (.ref f_Ledger_init) = true)
    (l_Ledger_init : K.lookup f_Ledger_init = some ⟨oc_Ledger_init, od_Ledger_init, .func (PySem.W.fnOf "__init__" "Ledger.__init__" (C8.fnArgs s_Ledger_init) (C8.fnBody s_Ledger_init) (C8.fnScope s_Ledger_init) .none kV_Ledger_init dc_Ledger_init pm_Ledger_init an_Ledger_init cd_Ledger_init ct_Ledger_init), sl_Ledger_init⟩)
    (e_Ledger_init : PySem.W.codeIn K cd_Ledger_init "Ledger.__init__" = true)
    (k_Ledger_init : PySem.W.keepIn K (.ref f_Ledger_init) = true)
    (a_Ledger_has_room : PySem.W.findIn K (.ref cLedger) "has_room" = some (some (.ref f_Ledger_has_room)))
    (i_Ledger_has_room : PySem.W.isFn K (.ref f_Ledger_has_room) = true)
    (l_Ledger_has_room : K.lookup f_Ledger_has_room = some ⟨oc_Ledger_has_room, od_Ledger_has_room, .func (PySem.W.fnOf "has_room" "Ledger.has_room" (C8.fnArgs s_Ledger_has_room) (C8.fnBody s_Ledger_has_room) (C8.fnScope s_Ledger_has_room) .none kV_Ledger_has_room dc_Ledger_has_room pm_Ledger_has_room an_Ledger_has_room cd_Ledger_has_room ct_Ledger_has_room), sl_Ledger_has_room⟩)
    (e_Ledger_has_room : PySem.W.codeIn K cd_Ledger_has_room "Ledger.has_room" = true)
    (k_Ledger_has_room : PySem.W.keepIn K (.ref f_Ledger_has_room) = true)
    (a_Ledger_write : PySem.W.findIn K (.ref cLedger) "write" = some (some (.ref f_Ledger_write)))
    (i_Ledger_write : PySem.W.isFn K (.ref f_Ledger_write) = true)
    (l_Ledger_write : K.lookup f_Ledger_write = some ⟨oc_Ledger_write, od_Ledger_write, .func (PySem.W.fnOf "write" "Ledger.write" (C8.fnArgs s_Ledger_write) (C8.fnBody s_Ledger_write) (C8.fnScope s_Ledger_write) .none kV_Ledger_write dc_Ledger_write pm_Ledger_write an_Ledger_write cd_Ledger_write ct_Ledger_write), sl_Ledger_write⟩)
    (e_Ledger_write : PySem.W.codeIn K cd_Ledger_write "Ledger.write" = true)
    (k_Ledger_write : PySem.W.keepIn K (.ref f_Ledger_write) = true)
    (a_Ledger_entries_of : PySem.W.findIn K (.ref cLedger) "entries_of" = some (some (.ref f_Ledger_entries_of)))
    (i_Ledger_entries_of : PySem.W.isFn K (.ref f_Ledger_entries_of) = true)
    (l_Ledger_entries_of : K.lookup f_Ledger_entries_of = some ⟨oc_Ledger_entries_of, od_Ledger_entries_of, .func (PySem.W.fnOf "entries_of" "Ledger.entries_of" (C8.fnArgs s_Ledger_entries_of) (C8.fnBody s_Ledger_entries_of) (C8.fnScope s_Ledger_entries_of) .none kV_Ledger_entries_of dc_Ledger_entries_of pm_Ledger_entries_of an_Ledger_entries_of cd_Ledger_entries_of ct_Ledger_entries_of), sl_Ledger_entries_of⟩)
    (e_Ledger_entries_of : PySem.W.codeIn K cd_Ledger_entries_of "Ledger.entries_of" = true)
    (k_Ledger_entries_of : PySem.W.keepIn K (.ref f_Ledger_entries_of) = true)
    (a_Ledger_account_of : PySem.W.findIn K (.ref cLedger) "account_of" = some (some (.ref f_Ledger_account_of)))
    (i_Ledger_account_of : PySem.W.isFn K (.ref f_Ledger_account_of) = true)
    (l_Ledger_account_of : K.lookup f_Ledger_account_of = some ⟨oc_Ledger_account_of, od_Ledger_account_of, .func (PySem.W.fnOf "account_of" "Ledger.account_of" (C8.fnArgs s_Ledger_account_of) (C8.fnBody s_Ledger_account_of) (C8.fnScope s_Ledger_account_of) .none kV_Ledger_account_of dc_Ledger_account_of pm_Ledger_account_of an_Ledger_account_of cd_Ledger_account_of ct_Ledger_account_of), sl_Ledger_account_of⟩)
    (e_Ledger_account_of : PySem.W.codeIn K cd_Ledger_account_of "Ledger.account_of" = true)
    (k_Ledger_account_of : PySem.W.keepIn K (.ref f_Ledger_account_of) = true)
    (a_Rules_init : PySem.W.findIn K (.ref cRules) "__init__" = some (some (.ref f_Rules_init)))
    (i_Rules_init : PySem.W.isFn K (.ref f_Rules_init) = true)
    (l_Rules_init : K.lookup f_Rules_init = some ⟨oc_Rules_init, od_Rules_init, .func (PySem.W.fnOf "__init__" "Rules.__init__" (C8.fnArgs s_Rules_init) (C8.fnBody s_Rules_init) (C8.fnScope s_Rules_init) .none kV_Rules_init dc_Rules_init pm_Rules_init an_Rules_init cd_Rules_init ct_Rules_init), sl_Rules_init⟩)
    (e_Rules_init : PySem.W.codeIn K cd_Rules_init "Rules.__init__" = true)
    (k_Rules_init : PySem.W.keepIn K (.ref f_Rules_init) = true)
    (a_Rules_one : PySem.W.findIn K (.ref cRules) "one" = some (some (.ref f_Rules_one)))
    (i_Rules_one : PySem.W.isFn K (.ref f_Rules_one) = true)
    (l_Rules_one : K.lookup f_Rules_one = some ⟨oc_Rules_one, od_Rules_one, .func (PySem.W.fnOf "one" "Rules.one" (C8.fnArgs s_Rules_one) (C8.fnBody s_Rules_one) (C8.fnScope s_Rules_one) .none kV_Rules_one dc_Rules_one pm_Rules_one an_Rules_one cd_Rules_one ct_Rules_one), sl_Rules_one⟩)
    (e_Rules_one : PySem.W.codeIn K cd_Rules_one "Rules.one" = true)
    (k_Rules_one : PySem.W.keepIn K (.ref f_Rules_one) = true)
    (a_Rules_judges_owed : PySem.W.findIn K (.ref cRules) "judges_owed" = some (some (.ref f_Rules_judges_owed)))
    (i_Rules_judges_owed : PySem.W.isFn K (.ref f_Rules_judges_owed) = true)
    (l_Rules_judges_owed : K.lookup f_Rules_judges_owed = some ⟨oc_Rules_judges_owed, od_Rules_judges_owed, .func (PySem.W.fnOf "judges_owed" "Rules.judges_owed" (C8.fnArgs s_Rules_judges_owed) (C8.fnBody s_Rules_judges_owed) (C8.fnScope s_Rules_judges_owed) .none kV_Rules_judges_owed dc_Rules_judges_owed pm_Rules_judges_owed an_Rules_judges_owed cd_Rules_judges_owed ct_Rules_judges_owed), sl_Rules_judges_owed⟩)
    (e_Rules_judges_owed : PySem.W.codeIn K cd_Rules_judges_owed "Rules.judges_owed" = true)
    (k_Rules_judges_owed : PySem.W.keepIn K (.ref f_Rules_judges_owed) = true)
    (a_Rules_percent : PySem.W.findIn K (.ref cRules) "percent" = some (some (.ref f_Rules_percent)))
    (i_Rules_percent : PySem.W.isFn K (.ref f_Rules_percent) = true)
    (l_Rules_percent : K.lookup f_Rules_percent = some ⟨oc_Rules_percent, od_Rules_percent, .func (PySem.W.fnOf "percent" "Rules.percent" (C8.fnArgs s_Rules_percent) (C8.fnBody s_Rules_percent) (C8.fnScope s_Rules_percent) .none kV_Rules_percent dc_Rules_percent pm_Rules_percent an_Rules_percent cd_Rules_percent ct_Rules_percent), sl_Rules_percent⟩)
    (e_Rules_percent : PySem.W.codeIn K cd_Rules_percent "Rules.percent" = true)
    (k_Rules_percent : PySem.W.keepIn K (.ref f_Rules_percent) = true)
    (a_Rules_row : PySem.W.findIn K (.ref cRules) "row" = some (some (.ref f_Rules_row)))
    (i_Rules_row : PySem.W.isFn K (.ref f_Rules_row) = true)
    (l_Rules_row : K.lookup f_Rules_row = some ⟨oc_Rules_row, od_Rules_row, .func (PySem.W.fnOf "row" "Rules.row" (C8.fnArgs s_Rules_row) (C8.fnBody s_Rules_row) (C8.fnScope s_Rules_row) .none kV_Rules_row dc_Rules_row pm_Rules_row an_Rules_row cd_Rules_row ct_Rules_row), sl_Rules_row⟩)
    (e_Rules_row : PySem.W.codeIn K cd_Rules_row "Rules.row" = true)
    (k_Rules_row : PySem.W.keepIn K (.ref f_Rules_row) = true)
    (a_Rules_shown : PySem.W.findIn K (.ref cRules) "shown" = some (some (.ref f_Rules_shown)))
    (i_Rules_shown : PySem.W.isFn K (.ref f_Rules_shown) = true)
    (l_Rules_shown : K.lookup f_Rules_shown = some ⟨oc_Rules_shown, od_Rules_shown, .func (PySem.W.fnOf "shown" "Rules.shown" (C8.fnArgs s_Rules_shown) (C8.fnBody s_Rules_shown) (C8.fnScope s_Rules_shown) .none kV_Rules_shown dc_Rules_shown pm_Rules_shown an_Rules_shown cd_Rules_shown ct_Rules_shown), sl_Rules_shown⟩)
    (e_Rules_shown : PySem.W.codeIn K cd_Rules_shown "Rules.shown" = true)
    (k_Rules_shown : PySem.W.keepIn K (.ref f_Rules_shown) = true)
    (a_School_init : PySem.W.findIn K (.ref cSchool) "__init__" = some (some (.ref f_School_init)))
    (i_School_init : PySem.W.isFn K (.ref f_School_init) = true)
    (l_School_init : K.lookup f_School_init = some ⟨oc_School_init, od_School_init, .func (PySem.W.fnOf "__init__" "School.__init__" (C8.fnArgs s_School_init) (C8.fnBody s_School_init) (C8.fnScope s_School_init) .none kV_School_init dc_School_init pm_School_init an_School_init cd_School_init ct_School_init), sl_School_init⟩)
    (e_School_init : PySem.W.codeIn K cd_School_init "School.__init__" = true)
    (k_School_init : PySem.W.keepIn K (.ref f_School_init) = true)
    (a_School_load : PySem.W.findIn K (.ref cSchool) "load" = some (some (.ref f_School_load)))
    (i_School_load : PySem.W.isFn K (.ref f_School_load) = true)
    (l_School_load : K.lookup f_School_load = some ⟨oc_School_load, od_School_load, .func (PySem.W.fnOf "load" "School.load" (C8.fnArgs s_School_load) (C8.fnBody s_School_load) (C8.fnScope s_School_load) .none kV_School_load dc_School_load pm_School_load an_School_load cd_School_load ct_School_load), sl_School_load⟩)
    (e_School_load : PySem.W.codeIn K cd_School_load "School.load" = true)
    (k_School_load : PySem.W.keepIn K (.ref f_School_load) = true)
    (a_Offer_init : PySem.W.findIn K (.ref cOffer) "__init__" = some (some (.ref f_Offer_init)))
    (i_Offer_init : PySem.W.isFn K (.ref f_Offer_init) = true)
    (l_Offer_init : K.lookup f_Offer_init = some ⟨oc_Offer_init, od_Offer_init, .func (PySem.W.fnOf "__init__" "Offer.__init__" (C8.fnArgs s_Offer_init) (C8.fnBody s_Offer_init) (C8.fnScope s_Offer_init) .none kV_Offer_init dc_Offer_init pm_Offer_init an_Offer_init cd_Offer_init ct_Offer_init), sl_Offer_init⟩)
    (e_Offer_init : PySem.W.codeIn K cd_Offer_init "Offer.__init__" = true)
    (k_Offer_init : PySem.W.keepIn K (.ref f_Offer_init) = true)
    (a_House_init : PySem.W.findIn K (.ref cHouse) "__init__" = some (some (.ref f_House_init)))
    (i_House_init : PySem.W.isFn K (.ref f_House_init) = true)
    (l_House_init : K.lookup f_House_init = some ⟨oc_House_init, od_House_init, .func (PySem.W.fnOf "__init__" "House.__init__" (C8.fnArgs s_House_init) (C8.fnBody s_House_init) (C8.fnScope s_House_init) .none kV_House_init dc_House_init pm_House_init an_House_init cd_House_init ct_House_init), sl_House_init⟩)
    (e_House_init : PySem.W.codeIn K cd_House_init "House.__init__" = true)
    (k_House_init : PySem.W.keepIn K (.ref f_House_init) = true)
    (a_House_begin : PySem.W.findIn K (.ref cHouse) "begin" = some (some (.ref f_House_begin)))
    (i_House_begin : PySem.W.isFn K (.ref f_House_begin) = true)
    (l_House_begin : K.lookup f_House_begin = some ⟨oc_House_begin, od_House_begin, .func (PySem.W.fnOf "begin" "House.begin" (C8.fnArgs s_House_begin) (C8.fnBody s_House_begin) (C8.fnScope s_House_begin) .none kV_House_begin dc_House_begin pm_House_begin an_House_begin cd_House_begin ct_House_begin), sl_House_begin⟩)
    (e_House_begin : PySem.W.codeIn K cd_House_begin "House.begin" = true)
    (k_House_begin : PySem.W.keepIn K (.ref f_House_begin) = true)
    (a_House_most : PySem.W.findIn K (.ref cHouse) "most" = some (some (.ref f_House_most)))
    (i_House_most : PySem.W.isFn K (.ref f_House_most) = true)
    (l_House_most : K.lookup f_House_most = some ⟨oc_House_most, od_House_most, .func (PySem.W.fnOf "most" "House.most" (C8.fnArgs s_House_most) (C8.fnBody s_House_most) (C8.fnScope s_House_most) .none kV_House_most dc_House_most pm_House_most an_House_most cd_House_most ct_House_most), sl_House_most⟩)
    (e_House_most : PySem.W.codeIn K cd_House_most "House.most" = true)
    (k_House_most : PySem.W.keepIn K (.ref f_House_most) = true)
    (a_House_waits : PySem.W.findIn K (.ref cHouse) "waits" = some (some (.ref f_House_waits)))
    (i_House_waits : PySem.W.isFn K (.ref f_House_waits) = true)
    (l_House_waits : K.lookup f_House_waits = some ⟨oc_House_waits, od_House_waits, .func (PySem.W.fnOf "waits" "House.waits" (C8.fnArgs s_House_waits) (C8.fnBody s_House_waits) (C8.fnScope s_House_waits) .none kV_House_waits dc_House_waits pm_House_waits an_House_waits cd_House_waits ct_House_waits), sl_House_waits⟩)
    (e_House_waits : PySem.W.codeIn K cd_House_waits "House.waits" = true)
    (k_House_waits : PySem.W.keepIn K (.ref f_House_waits) = true)
    (a_House_taken : PySem.W.findIn K (.ref cHouse) "taken" = some (some (.ref f_House_taken)))
    (i_House_taken : PySem.W.isFn K (.ref f_House_taken) = true)
    (l_House_taken : K.lookup f_House_taken = some ⟨oc_House_taken, od_House_taken, .func (PySem.W.fnOf "taken" "House.taken" (C8.fnArgs s_House_taken) (C8.fnBody s_House_taken) (C8.fnScope s_House_taken) .none kV_House_taken dc_House_taken pm_House_taken an_House_taken cd_House_taken ct_House_taken), sl_House_taken⟩)
    (e_House_taken : PySem.W.codeIn K cd_House_taken "House.taken" = true)
    (k_House_taken : PySem.W.keepIn K (.ref f_House_taken) = true)
    (a_House_free : PySem.W.findIn K (.ref cHouse) "free" = some (some (.ref f_House_free)))
    (i_House_free : PySem.W.isFn K (.ref f_House_free) = true)
    (l_House_free : K.lookup f_House_free = some ⟨oc_House_free, od_House_free, .func (PySem.W.fnOf "free" "House.free" (C8.fnArgs s_House_free) (C8.fnBody s_House_free) (C8.fnScope s_House_free) .none kV_House_free dc_House_free pm_House_free an_House_free cd_House_free ct_House_free), sl_House_free⟩)
    (e_House_free : PySem.W.codeIn K cd_House_free "House.free" = true)
    (k_House_free : PySem.W.keepIn K (.ref f_House_free) = true)
    (a_House_turns : PySem.W.findIn K (.ref cHouse) "turns" = some (some (.ref f_House_turns)))
    (i_House_turns : PySem.W.isFn K (.ref f_House_turns) = true)
    (l_House_turns : K.lookup f_House_turns = some ⟨oc_House_turns, od_House_turns, .func (PySem.W.fnOf "turns" "House.turns" (C8.fnArgs s_House_turns) (C8.fnBody s_House_turns) (C8.fnScope s_House_turns) .none kV_House_turns dc_House_turns pm_House_turns an_House_turns cd_House_turns ct_House_turns), sl_House_turns⟩)
    (e_House_turns : PySem.W.codeIn K cd_House_turns "House.turns" = true)
    (k_House_turns : PySem.W.keepIn K (.ref f_House_turns) = true)
    (a_House_last_day : PySem.W.findIn K (.ref cHouse) "last_day" = some (some (.ref f_House_last_day)))
    (i_House_last_day : PySem.W.isFn K (.ref f_House_last_day) = true)
    (l_House_last_day : K.lookup f_House_last_day = some ⟨oc_House_last_day, od_House_last_day, .func (PySem.W.fnOf "last_day" "House.last_day" (C8.fnArgs s_House_last_day) (C8.fnBody s_House_last_day) (C8.fnScope s_House_last_day) .none kV_House_last_day dc_House_last_day pm_House_last_day an_House_last_day cd_House_last_day ct_House_last_day), sl_House_last_day⟩)
    (e_House_last_day : PySem.W.codeIn K cd_House_last_day "House.last_day" = true)
    (k_House_last_day : PySem.W.keepIn K (.ref f_House_last_day) = true)
    (a_House_pass_night : PySem.W.findIn K (.ref cHouse) "pass_night" = some (some (.ref f_House_pass_night)))
    (i_House_pass_night : PySem.W.isFn K (.ref f_House_pass_night) = true)
    (l_House_pass_night : K.lookup f_House_pass_night = some ⟨oc_House_pass_night, od_House_pass_night, .func (PySem.W.fnOf "pass_night" "House.pass_night" (C8.fnArgs s_House_pass_night) (C8.fnBody s_House_pass_night) (C8.fnScope s_House_pass_night) .none kV_House_pass_night dc_House_pass_night pm_House_pass_night an_House_pass_night cd_House_pass_night ct_House_pass_night), sl_House_pass_night⟩)
    (e_House_pass_night : PySem.W.codeIn K cd_House_pass_night "House.pass_night" = true)
    (k_House_pass_night : PySem.W.keepIn K (.ref f_House_pass_night) = true)
    (a_House_make_offers : PySem.W.findIn K (.ref cHouse) "make_offers" = some (some (.ref f_House_make_offers)))
    (i_House_make_offers : PySem.W.isFn K (.ref f_House_make_offers) = true)
    (l_House_make_offers : K.lookup f_House_make_offers = some ⟨oc_House_make_offers, od_House_make_offers, .func (PySem.W.fnOf "make_offers" "House.make_offers" (C8.fnArgs s_House_make_offers) (C8.fnBody s_House_make_offers) (C8.fnScope s_House_make_offers) .none kV_House_make_offers dc_House_make_offers pm_House_make_offers an_House_make_offers cd_House_make_offers ct_House_make_offers), sl_House_make_offers⟩)
    (e_House_make_offers : PySem.W.codeIn K cd_House_make_offers "House.make_offers" = true)
    (k_House_make_offers : PySem.W.keepIn K (.ref f_House_make_offers) = true)
    (a_House_make_offer : PySem.W.findIn K (.ref cHouse) "make_offer" = some (some (.ref f_House_make_offer)))
    (i_House_make_offer : PySem.W.isFn K (.ref f_House_make_offer) = true)
    (l_House_make_offer : K.lookup f_House_make_offer = some ⟨oc_House_make_offer, od_House_make_offer, .func (PySem.W.fnOf "make_offer" "House.make_offer" (C8.fnArgs s_House_make_offer) (C8.fnBody s_House_make_offer) (C8.fnScope s_House_make_offer) .none kV_House_make_offer dc_House_make_offer pm_House_make_offer an_House_make_offer cd_House_make_offer ct_House_make_offer), sl_House_make_offer⟩)
    (e_House_make_offer : PySem.W.codeIn K cd_House_make_offer "House.make_offer" = true)
    (k_House_make_offer : PySem.W.keepIn K (.ref f_House_make_offer) = true)
    (a_House_end_offer : PySem.W.findIn K (.ref cHouse) "end_offer" = some (some (.ref f_House_end_offer)))
    (i_House_end_offer : PySem.W.isFn K (.ref f_House_end_offer) = true)
    (l_House_end_offer : K.lookup f_House_end_offer = some ⟨oc_House_end_offer, od_House_end_offer, .func (PySem.W.fnOf "end_offer" "House.end_offer" (C8.fnArgs s_House_end_offer) (C8.fnBody s_House_end_offer) (C8.fnScope s_House_end_offer) .none kV_House_end_offer dc_House_end_offer pm_House_end_offer an_House_end_offer cd_House_end_offer ct_House_end_offer), sl_House_end_offer⟩)
    (e_House_end_offer : PySem.W.codeIn K cd_House_end_offer "House.end_offer" = true)
    (k_House_end_offer : PySem.W.keepIn K (.ref f_House_end_offer) = true)
    (a_House_lose_offer : PySem.W.findIn K (.ref cHouse) "lose_offer" = some (some (.ref f_House_lose_offer)))
    (i_House_lose_offer : PySem.W.isFn K (.ref f_House_lose_offer) = true)
    (l_House_lose_offer : K.lookup f_House_lose_offer = some ⟨oc_House_lose_offer, od_House_lose_offer, .func (PySem.W.fnOf "lose_offer" "House.lose_offer" (C8.fnArgs s_House_lose_offer) (C8.fnBody s_House_lose_offer) (C8.fnScope s_House_lose_offer) .none kV_House_lose_offer dc_House_lose_offer pm_House_lose_offer an_House_lose_offer cd_House_lose_offer ct_House_lose_offer), sl_House_lose_offer⟩)
    (e_House_lose_offer : PySem.W.codeIn K cd_House_lose_offer "House.lose_offer" = true)
    (k_House_lose_offer : PySem.W.keepIn K (.ref f_House_lose_offer) = true)
    (a_House_take_place : PySem.W.findIn K (.ref cHouse) "take_place" = some (some (.ref f_House_take_place)))
    (i_House_take_place : PySem.W.isFn K (.ref f_House_take_place) = true)
    (l_House_take_place : K.lookup f_House_take_place = some ⟨oc_House_take_place, od_House_take_place, .func (PySem.W.fnOf "take_place" "House.take_place" (C8.fnArgs s_House_take_place) (C8.fnBody s_House_take_place) (C8.fnScope s_House_take_place) .none kV_House_take_place dc_House_take_place pm_House_take_place an_House_take_place cd_House_take_place ct_House_take_place), sl_House_take_place⟩)
    (e_House_take_place : PySem.W.codeIn K cd_House_take_place "House.take_place" = true)
    (k_House_take_place : PySem.W.keepIn K (.ref f_House_take_place) = true)
    (a_House_give_up_places : PySem.W.findIn K (.ref cHouse) "give_up_places" = some (some (.ref f_House_give_up_places)))
    (i_House_give_up_places : PySem.W.isFn K (.ref f_House_give_up_places) = true)
    (l_House_give_up_places : K.lookup f_House_give_up_places = some ⟨oc_House_give_up_places, od_House_give_up_places, .func (PySem.W.fnOf "give_up_places" "House.give_up_places" (C8.fnArgs s_House_give_up_places) (C8.fnBody s_House_give_up_places) (C8.fnScope s_House_give_up_places) .none kV_House_give_up_places dc_House_give_up_places pm_House_give_up_places an_House_give_up_places cd_House_give_up_places ct_House_give_up_places), sl_House_give_up_places⟩)
    (e_House_give_up_places : PySem.W.codeIn K cd_House_give_up_places "House.give_up_places" = true)
    (k_House_give_up_places : PySem.W.keepIn K (.ref f_House_give_up_places) = true)
    (a_House_missing : PySem.W.findIn K (.ref cHouse) "missing" = some (some (.ref f_House_missing)))
    (i_House_missing : PySem.W.isFn K (.ref f_House_missing) = true)
    (l_House_missing : K.lookup f_House_missing = some ⟨oc_House_missing, od_House_missing, .func (PySem.W.fnOf "missing" "House.missing" (C8.fnArgs s_House_missing) (C8.fnBody s_House_missing) (C8.fnScope s_House_missing) .none kV_House_missing dc_House_missing pm_House_missing an_House_missing cd_House_missing ct_House_missing), sl_House_missing⟩)
    (e_House_missing : PySem.W.codeIn K cd_House_missing "House.missing" = true)
    (k_House_missing : PySem.W.keepIn K (.ref f_House_missing) = true)
    (a_House_shut : PySem.W.findIn K (.ref cHouse) "shut" = some (some (.ref f_House_shut)))
    (i_House_shut : PySem.W.isFn K (.ref f_House_shut) = true)
    (l_House_shut : K.lookup f_House_shut = some ⟨oc_House_shut, od_House_shut, .func (PySem.W.fnOf "shut" "House.shut" (C8.fnArgs s_House_shut) (C8.fnBody s_House_shut) (C8.fnScope s_House_shut) .none kV_House_shut dc_House_shut pm_House_shut an_House_shut cd_House_shut ct_House_shut), sl_House_shut⟩)
    (e_House_shut : PySem.W.codeIn K cd_House_shut "House.shut" = true)
    (k_House_shut : PySem.W.keepIn K (.ref f_House_shut) = true)
    (a_House_fine_schools : PySem.W.findIn K (.ref cHouse) "fine_schools" = some (some (.ref f_House_fine_schools)))
    (i_House_fine_schools : PySem.W.isFn K (.ref f_House_fine_schools) = true)
    (l_House_fine_schools : K.lookup f_House_fine_schools = some ⟨oc_House_fine_schools, od_House_fine_schools, .func (PySem.W.fnOf "fine_schools" "House.fine_schools" (C8.fnArgs s_House_fine_schools) (C8.fnBody s_House_fine_schools) (C8.fnScope s_House_fine_schools) .none kV_House_fine_schools dc_House_fine_schools pm_House_fine_schools an_House_fine_schools cd_House_fine_schools ct_House_fine_schools), sl_House_fine_schools⟩)
    (e_House_fine_schools : PySem.W.codeIn K cd_House_fine_schools "House.fine_schools" = true)
    (k_House_fine_schools : PySem.W.keepIn K (.ref f_House_fine_schools) = true)
    (a_balance : PySem.W.nsIn K mainGlobals "balance" = some (some (.ref f_balance)))
    (l_balance : K.lookup f_balance = some ⟨oc_balance, od_balance, .func (PySem.W.fnOf "balance" "balance" (C8.fnArgs s_balance) (C8.fnBody s_balance) (C8.fnScope s_balance) .none kV_balance dc_balance pm_balance an_balance cd_balance ct_balance), sl_balance⟩)
    (e_balance : PySem.W.codeIn K cd_balance "balance" = true)
    (k_balance : PySem.W.keepIn K (.ref f_balance) = true)
    (a_sums : PySem.W.nsIn K mainGlobals "sums" = some (some (.ref f_sums)))
    (l_sums : K.lookup f_sums = some ⟨oc_sums, od_sums, .func (PySem.W.fnOf "sums" "sums" (C8.fnArgs s_sums) (C8.fnBody s_sums) (C8.fnScope s_sums) .none kV_sums dc_sums pm_sums an_sums cd_sums ct_sums), sl_sums⟩)
    (e_sums : PySem.W.codeIn K cd_sums "sums" = true)
    (k_sums : PySem.W.keepIn K (.ref f_sums) = true)
    (a_amount_of : PySem.W.nsIn K mainGlobals "amount_of" = some (some (.ref f_amount_of)))
    (l_amount_of : K.lookup f_amount_of = some ⟨oc_amount_of, od_amount_of, .func (PySem.W.fnOf "amount_of" "amount_of" (C8.fnArgs s_amount_of) (C8.fnBody s_amount_of) (C8.fnScope s_amount_of) .none kV_amount_of dc_amount_of pm_amount_of an_amount_of cd_amount_of ct_amount_of), sl_amount_of⟩)
    (e_amount_of : PySem.W.codeIn K cd_amount_of "amount_of" = true)
    (k_amount_of : PySem.W.keepIn K (.ref f_amount_of) = true)
    (a_shown_line : PySem.W.nsIn K mainGlobals "shown_line" = some (some (.ref f_shown_line)))
    (l_shown_line : K.lookup f_shown_line = some ⟨oc_shown_line, od_shown_line, .func (PySem.W.fnOf "shown_line" "shown_line" (C8.fnArgs s_shown_line) (C8.fnBody s_shown_line) (C8.fnScope s_shown_line) .none kV_shown_line dc_shown_line pm_shown_line an_shown_line cd_shown_line ct_shown_line), sl_shown_line⟩)
    (e_shown_line : PySem.W.codeIn K cd_shown_line "shown_line" = true)
    (k_shown_line : PySem.W.keepIn K (.ref f_shown_line) = true)
    (a_read_lines : PySem.W.nsIn K mainGlobals "read_lines" = some (some (.ref f_read_lines)))
    (l_read_lines : K.lookup f_read_lines = some ⟨oc_read_lines, od_read_lines, .func (PySem.W.fnOf "read_lines" "read_lines" (C8.fnArgs s_read_lines) (C8.fnBody s_read_lines) (C8.fnScope s_read_lines) .none kV_read_lines dc_read_lines pm_read_lines an_read_lines cd_read_lines ct_read_lines), sl_read_lines⟩)
    (e_read_lines : PySem.W.codeIn K cd_read_lines "read_lines" = true)
    (k_read_lines : PySem.W.keepIn K (.ref f_read_lines) = true)
    (a_words_of : PySem.W.nsIn K mainGlobals "words_of" = some (some (.ref f_words_of)))
    (l_words_of : K.lookup f_words_of = some ⟨oc_words_of, od_words_of, .func (PySem.W.fnOf "words_of" "words_of" (C8.fnArgs s_words_of) (C8.fnBody s_words_of) (C8.fnScope s_words_of) .none kV_words_of dc_words_of pm_words_of an_words_of cd_words_of ct_words_of), sl_words_of⟩)
    (e_words_of : PySem.W.codeIn K cd_words_of "words_of" = true)
    (k_words_of : PySem.W.keepIn K (.ref f_words_of) = true)
    (a_first_fault : PySem.W.nsIn K mainGlobals "first_fault" = some (some (.ref f_first_fault)))
    (l_first_fault : K.lookup f_first_fault = some ⟨oc_first_fault, od_first_fault, .func (PySem.W.fnOf "first_fault" "first_fault" (C8.fnArgs s_first_fault) (C8.fnBody s_first_fault) (C8.fnScope s_first_fault) .none kV_first_fault dc_first_fault pm_first_fault an_first_fault cd_first_fault ct_first_fault), sl_first_fault⟩)
    (e_first_fault : PySem.W.codeIn K cd_first_fault "first_fault" = true)
    (k_first_fault : PySem.W.keepIn K (.ref f_first_fault) = true)
    (a_fault_of : PySem.W.nsIn K mainGlobals "fault_of" = some (some (.ref f_fault_of)))
    (l_fault_of : K.lookup f_fault_of = some ⟨oc_fault_of, od_fault_of, .func (PySem.W.fnOf "fault_of" "fault_of" (C8.fnArgs s_fault_of) (C8.fnBody s_fault_of) (C8.fnScope s_fault_of) .none kV_fault_of dc_fault_of pm_fault_of an_fault_of cd_fault_of ct_fault_of), sl_fault_of⟩)
    (e_fault_of : PySem.W.codeIn K cd_fault_of "fault_of" = true)
    (k_fault_of : PySem.W.keepIn K (.ref f_fault_of) = true)
    (a_numbers_fit : PySem.W.nsIn K mainGlobals "numbers_fit" = some (some (.ref f_numbers_fit)))
    (l_numbers_fit : K.lookup f_numbers_fit = some ⟨oc_numbers_fit, od_numbers_fit, .func (PySem.W.fnOf "numbers_fit" "numbers_fit" (C8.fnArgs s_numbers_fit) (C8.fnBody s_numbers_fit) (C8.fnScope s_numbers_fit) .none kV_numbers_fit dc_numbers_fit pm_numbers_fit an_numbers_fit cd_numbers_fit ct_numbers_fit), sl_numbers_fit⟩)
    (e_numbers_fit : PySem.W.codeIn K cd_numbers_fit "numbers_fit" = true)
    (k_numbers_fit : PySem.W.keepIn K (.ref f_numbers_fit) = true)
    (a_is_number : PySem.W.nsIn K mainGlobals "is_number" = some (some (.ref f_is_number)))
    (l_is_number : K.lookup f_is_number = some ⟨oc_is_number, od_is_number, .func (PySem.W.fnOf "is_number" "is_number" (C8.fnArgs s_is_number) (C8.fnBody s_is_number) (C8.fnScope s_is_number) .none kV_is_number dc_is_number pm_is_number an_is_number cd_is_number ct_is_number), sl_is_number⟩)
    (e_is_number : PySem.W.codeIn K cd_is_number "is_number" = true)
    (k_is_number : PySem.W.keepIn K (.ref f_is_number) = true)
    (a_within_bounds : PySem.W.nsIn K mainGlobals "within_bounds" = some (some (.ref f_within_bounds)))
    (l_within_bounds : K.lookup f_within_bounds = some ⟨oc_within_bounds, od_within_bounds, .func (PySem.W.fnOf "within_bounds" "within_bounds" (C8.fnArgs s_within_bounds) (C8.fnBody s_within_bounds) (C8.fnScope s_within_bounds) .none kV_within_bounds dc_within_bounds pm_within_bounds an_within_bounds cd_within_bounds ct_within_bounds), sl_within_bounds⟩)
    (e_within_bounds : PySem.W.codeIn K cd_within_bounds "within_bounds" = true)
    (k_within_bounds : PySem.W.keepIn K (.ref f_within_bounds) = true)
    (a_pairs_fit : PySem.W.nsIn K mainGlobals "pairs_fit" = some (some (.ref f_pairs_fit)))
    (l_pairs_fit : K.lookup f_pairs_fit = some ⟨oc_pairs_fit, od_pairs_fit, .func (PySem.W.fnOf "pairs_fit" "pairs_fit" (C8.fnArgs s_pairs_fit) (C8.fnBody s_pairs_fit) (C8.fnScope s_pairs_fit) .none kV_pairs_fit dc_pairs_fit pm_pairs_fit an_pairs_fit cd_pairs_fit ct_pairs_fit), sl_pairs_fit⟩)
    (e_pairs_fit : PySem.W.codeIn K cd_pairs_fit "pairs_fit" = true)
    (k_pairs_fit : PySem.W.keepIn K (.ref f_pairs_fit) = true)
    (a_rules_of : PySem.W.nsIn K mainGlobals "rules_of" = some (some (.ref f_rules_of)))
    (l_rules_of : K.lookup f_rules_of = some ⟨oc_rules_of, od_rules_of, .func (PySem.W.fnOf "rules_of" "rules_of" (C8.fnArgs s_rules_of) (C8.fnBody s_rules_of) (C8.fnScope s_rules_of) .none kV_rules_of dc_rules_of pm_rules_of an_rules_of cd_rules_of ct_rules_of), sl_rules_of⟩)
    (e_rules_of : PySem.W.codeIn K cd_rules_of "rules_of" = true)
    (k_rules_of : PySem.W.keepIn K (.ref f_rules_of) = true)
    (a_clear : PySem.W.nsIn K mainGlobals "clear" = some (some (.ref f_clear)))
    (l_clear : K.lookup f_clear = some ⟨oc_clear, od_clear, .func (PySem.W.fnOf "clear" "clear" (C8.fnArgs s_clear) (C8.fnBody s_clear) (C8.fnScope s_clear) .none kV_clear dc_clear pm_clear an_clear cd_clear ct_clear), sl_clear⟩)
    (e_clear : PySem.W.codeIn K cd_clear "clear" = true)
    (k_clear : PySem.W.keepIn K (.ref f_clear) = true)
    (a_rules : PySem.W.nsIn K mainGlobals "rules" = some (some (.ref f_rules)))
    (l_rules : K.lookup f_rules = some ⟨oc_rules, od_rules, .func (PySem.W.fnOf "rules" "rules" (C8.fnArgs s_rules) (C8.fnBody s_rules) (C8.fnScope s_rules) .none kV_rules dc_rules pm_rules an_rules cd_rules ct_rules), sl_rules⟩)
    (e_rules : PySem.W.codeIn K cd_rules "rules" = true)
    (k_rules : PySem.W.keepIn K (.ref f_rules) = true)
    (a_show : PySem.W.nsIn K mainGlobals "show" = some (some (.ref f_show)))
    (l_show : K.lookup f_show = some ⟨oc_show, od_show, .func (PySem.W.fnOf "show" "show" (C8.fnArgs s_show) (C8.fnBody s_show) (C8.fnScope s_show) .none kV_show dc_show pm_show an_show cd_show ct_show), sl_show⟩)
    (e_show : PySem.W.codeIn K cd_show "show" = true)
    (k_show : PySem.W.keepIn K (.ref f_show) = true)
    (a_enter : PySem.W.nsIn K mainGlobals "enter" = some (some (.ref f_enter)))
    (l_enter : K.lookup f_enter = some ⟨oc_enter, od_enter, .func (PySem.W.fnOf "enter" "enter" (C8.fnArgs s_enter) (C8.fnBody s_enter) (C8.fnScope s_enter) .none kV_enter dc_enter pm_enter an_enter cd_enter ct_enter), sl_enter⟩)
    (e_enter : PySem.W.codeIn K cd_enter "enter" = true)
    (k_enter : PySem.W.keepIn K (.ref f_enter) = true)
    (a_want : PySem.W.nsIn K mainGlobals "want" = some (some (.ref f_want)))
    (l_want : K.lookup f_want = some ⟨oc_want, od_want, .func (PySem.W.fnOf "want" "want" (C8.fnArgs s_want) (C8.fnBody s_want) (C8.fnScope s_want) .none kV_want dc_want pm_want an_want cd_want ct_want), sl_want⟩)
    (e_want : PySem.W.codeIn K cd_want "want" = true)
    (k_want : PySem.W.keepIn K (.ref f_want) = true)
    (a_bring : PySem.W.nsIn K mainGlobals "bring" = some (some (.ref f_bring)))
    (l_bring : K.lookup f_bring = some ⟨oc_bring, od_bring, .func (PySem.W.fnOf "bring" "bring" (C8.fnArgs s_bring) (C8.fnBody s_bring) (C8.fnScope s_bring) .none kV_bring dc_bring pm_bring an_bring cd_bring ct_bring), sl_bring⟩)
    (e_bring : PySem.W.codeIn K cd_bring "bring" = true)
    (k_bring : PySem.W.keepIn K (.ref f_bring) = true)
    (a_accept : PySem.W.nsIn K mainGlobals "accept" = some (some (.ref f_accept)))
    (l_accept : K.lookup f_accept = some ⟨oc_accept, od_accept, .func (PySem.W.fnOf "accept" "accept" (C8.fnArgs s_accept) (C8.fnBody s_accept) (C8.fnScope s_accept) .none kV_accept dc_accept pm_accept an_accept cd_accept ct_accept), sl_accept⟩)
    (e_accept : PySem.W.codeIn K cd_accept "accept" = true)
    (k_accept : PySem.W.keepIn K (.ref f_accept) = true)
    (a_decline : PySem.W.nsIn K mainGlobals "decline" = some (some (.ref f_decline)))
    (l_decline : K.lookup f_decline = some ⟨oc_decline, od_decline, .func (PySem.W.fnOf "decline" "decline" (C8.fnArgs s_decline) (C8.fnBody s_decline) (C8.fnScope s_decline) .none kV_decline dc_decline pm_decline an_decline cd_decline ct_decline), sl_decline⟩)
    (e_decline : PySem.W.codeIn K cd_decline "decline" = true)
    (k_decline : PySem.W.keepIn K (.ref f_decline) = true)
    (a_drop : PySem.W.nsIn K mainGlobals "drop" = some (some (.ref f_drop)))
    (l_drop : K.lookup f_drop = some ⟨oc_drop, od_drop, .func (PySem.W.fnOf "drop" "drop" (C8.fnArgs s_drop) (C8.fnBody s_drop) (C8.fnScope s_drop) .none kV_drop dc_drop pm_drop an_drop cd_drop ct_drop), sl_drop⟩)
    (e_drop : PySem.W.codeIn K cd_drop "drop" = true)
    (k_drop : PySem.W.keepIn K (.ref f_drop) = true)
    (a_transfer : PySem.W.nsIn K mainGlobals "transfer" = some (some (.ref f_transfer)))
    (l_transfer : K.lookup f_transfer = some ⟨oc_transfer, od_transfer, .func (PySem.W.fnOf "transfer" "transfer" (C8.fnArgs s_transfer) (C8.fnBody s_transfer) (C8.fnScope s_transfer) .none kV_transfer dc_transfer pm_transfer an_transfer cd_transfer ct_transfer), sl_transfer⟩)
    (e_transfer : PySem.W.codeIn K cd_transfer "transfer" = true)
    (k_transfer : PySem.W.keepIn K (.ref f_transfer) = true)
    (a_pay : PySem.W.nsIn K mainGlobals "pay" = some (some (.ref f_pay)))
    (l_pay : K.lookup f_pay = some ⟨oc_pay, od_pay, .func (PySem.W.fnOf "pay" "pay" (C8.fnArgs s_pay) (C8.fnBody s_pay) (C8.fnScope s_pay) .none kV_pay dc_pay pm_pay an_pay cd_pay ct_pay), sl_pay⟩)
    (e_pay : PySem.W.codeIn K cd_pay "pay" = true)
    (k_pay : PySem.W.keepIn K (.ref f_pay) = true)
    (a_payout : PySem.W.nsIn K mainGlobals "payout" = some (some (.ref f_payout)))
    (l_payout : K.lookup f_payout = some ⟨oc_payout, od_payout, .func (PySem.W.fnOf "payout" "payout" (C8.fnArgs s_payout) (C8.fnBody s_payout) (C8.fnScope s_payout) .none kV_payout dc_payout pm_payout an_payout cd_payout ct_payout), sl_payout⟩)
    (e_payout : PySem.W.codeIn K cd_payout "payout" = true)
    (k_payout : PySem.W.keepIn K (.ref f_payout) = true)
    (a_night : PySem.W.nsIn K mainGlobals "night" = some (some (.ref f_night)))
    (l_night : K.lookup f_night = some ⟨oc_night, od_night, .func (PySem.W.fnOf "night" "night" (C8.fnArgs s_night) (C8.fnBody s_night) (C8.fnScope s_night) .none kV_night dc_night pm_night an_night cd_night ct_night), sl_night⟩)
    (e_night : PySem.W.codeIn K cd_night "night" = true)
    (k_night : PySem.W.keepIn K (.ref f_night) = true)
    (a_close : PySem.W.nsIn K mainGlobals "close" = some (some (.ref f_close)))
    (l_close : K.lookup f_close = some ⟨oc_close, od_close, .func (PySem.W.fnOf "close" "close" (C8.fnArgs s_close) (C8.fnBody s_close) (C8.fnScope s_close) .none kV_close dc_close pm_close an_close cd_close ct_close), sl_close⟩)
    (e_close : PySem.W.codeIn K cd_close "close" = true)
    (k_close : PySem.W.keepIn K (.ref f_close) = true)
    (a_tell_school : PySem.W.nsIn K mainGlobals "tell_school" = some (some (.ref f_tell_school)))
    (l_tell_school : K.lookup f_tell_school = some ⟨oc_tell_school, od_tell_school, .func (PySem.W.fnOf "tell_school" "tell_school" (C8.fnArgs s_tell_school) (C8.fnBody s_tell_school) (C8.fnScope s_tell_school) .none kV_tell_school dc_tell_school pm_tell_school an_tell_school cd_tell_school ct_tell_school), sl_tell_school⟩)
    (e_tell_school : PySem.W.codeIn K cd_tell_school "tell_school" = true)
    (k_tell_school : PySem.W.keepIn K (.ref f_tell_school) = true)
    (a_tell_account : PySem.W.nsIn K mainGlobals "tell_account" = some (some (.ref f_tell_account)))
    (l_tell_account : K.lookup f_tell_account = some ⟨oc_tell_account, od_tell_account, .func (PySem.W.fnOf "tell_account" "tell_account" (C8.fnArgs s_tell_account) (C8.fnBody s_tell_account) (C8.fnScope s_tell_account) .none kV_tell_account dc_tell_account pm_tell_account an_tell_account cd_tell_account ct_tell_account), sl_tell_account⟩)
    (e_tell_account : PySem.W.codeIn K cd_tell_account "tell_account" = true)
    (k_tell_account : PySem.W.keepIn K (.ref f_tell_account) = true)
    (a_tell_offers : PySem.W.nsIn K mainGlobals "tell_offers" = some (some (.ref f_tell_offers)))
    (l_tell_offers : K.lookup f_tell_offers = some ⟨oc_tell_offers, od_tell_offers, .func (PySem.W.fnOf "tell_offers" "tell_offers" (C8.fnArgs s_tell_offers) (C8.fnBody s_tell_offers) (C8.fnScope s_tell_offers) .none kV_tell_offers dc_tell_offers pm_tell_offers an_tell_offers cd_tell_offers ct_tell_offers), sl_tell_offers⟩)
    (e_tell_offers : PySem.W.codeIn K cd_tell_offers "tell_offers" = true)
    (k_tell_offers : PySem.W.keepIn K (.ref f_tell_offers) = true)
    (a_tell_queue : PySem.W.nsIn K mainGlobals "tell_queue" = some (some (.ref f_tell_queue)))
    (l_tell_queue : K.lookup f_tell_queue = some ⟨oc_tell_queue, od_tell_queue, .func (PySem.W.fnOf "tell_queue" "tell_queue" (C8.fnArgs s_tell_queue) (C8.fnBody s_tell_queue) (C8.fnScope s_tell_queue) .none kV_tell_queue dc_tell_queue pm_tell_queue an_tell_queue cd_tell_queue ct_tell_queue), sl_tell_queue⟩)
    (e_tell_queue : PySem.W.codeIn K cd_tell_queue "tell_queue" = true)
    (k_tell_queue : PySem.W.keepIn K (.ref f_tell_queue) = true)
    (a_tell_money : PySem.W.nsIn K mainGlobals "tell_money" = some (some (.ref f_tell_money)))
    (l_tell_money : K.lookup f_tell_money = some ⟨oc_tell_money, od_tell_money, .func (PySem.W.fnOf "tell_money" "tell_money" (C8.fnArgs s_tell_money) (C8.fnBody s_tell_money) (C8.fnScope s_tell_money) .none kV_tell_money dc_tell_money pm_tell_money an_tell_money cd_tell_money ct_tell_money), sl_tell_money⟩)
    (e_tell_money : PySem.W.codeIn K cd_tell_money "tell_money" = true)
    (k_tell_money : PySem.W.keepIn K (.ref f_tell_money) = true)
    (a_tell_counts : PySem.W.nsIn K mainGlobals "tell_counts" = some (some (.ref f_tell_counts)))
    (l_tell_counts : K.lookup f_tell_counts = some ⟨oc_tell_counts, od_tell_counts, .func (PySem.W.fnOf "tell_counts" "tell_counts" (C8.fnArgs s_tell_counts) (C8.fnBody s_tell_counts) (C8.fnScope s_tell_counts) .none kV_tell_counts dc_tell_counts pm_tell_counts an_tell_counts cd_tell_counts ct_tell_counts), sl_tell_counts⟩)
    (e_tell_counts : PySem.W.codeIn K cd_tell_counts "tell_counts" = true)
    (k_tell_counts : PySem.W.keepIn K (.ref f_tell_counts) = true)
    (a_answers : PySem.W.nsIn K mainGlobals "answers" = some (some (.ref f_answers)))
    (l_answers : K.lookup f_answers = some ⟨oc_answers, od_answers, .func (PySem.W.fnOf "answers" "answers" (C8.fnArgs s_answers) (C8.fnBody s_answers) (C8.fnScope s_answers) .none kV_answers dc_answers pm_answers an_answers cd_answers ct_answers), sl_answers⟩)
    (e_answers : PySem.W.codeIn K cd_answers "answers" = true)
    (k_answers : PySem.W.keepIn K (.ref f_answers) = true)
    (a_answers_on : PySem.W.nsIn K mainGlobals "answers_on" = some (some (.ref f_answers_on)))
    (l_answers_on : K.lookup f_answers_on = some ⟨oc_answers_on, od_answers_on, .func (PySem.W.fnOf "answers_on" "answers_on" (C8.fnArgs s_answers_on) (C8.fnBody s_answers_on) (C8.fnScope s_answers_on) .none kV_answers_on dc_answers_on pm_answers_on an_answers_on cd_answers_on ct_answers_on), sl_answers_on⟩)
    (e_answers_on : PySem.W.codeIn K cd_answers_on "answers_on" = true)
    (k_answers_on : PySem.W.keepIn K (.ref f_answers_on) = true)
    (a_read_calls : PySem.W.nsIn K mainGlobals "read_calls" = some (some (.ref f_read_calls)))
    (l_read_calls : K.lookup f_read_calls = some ⟨oc_read_calls, od_read_calls, .func (PySem.W.fnOf "read_calls" "read_calls" (C8.fnArgs s_read_calls) (C8.fnBody s_read_calls) (C8.fnScope s_read_calls) .none kV_read_calls dc_read_calls pm_read_calls an_read_calls cd_read_calls ct_read_calls), sl_read_calls⟩)
    (e_read_calls : PySem.W.codeIn K cd_read_calls "read_calls" = true)
    (k_read_calls : PySem.W.keepIn K (.ref f_read_calls) = true)
    (a_answer : PySem.W.nsIn K mainGlobals "answer" = some (some (.ref f_answer)))
    (l_answer : K.lookup f_answer = some ⟨oc_answer, od_answer, .func (PySem.W.fnOf "answer" "answer" (C8.fnArgs s_answer) (C8.fnBody s_answer) (C8.fnScope s_answer) .none kV_answer dc_answer pm_answer an_answer cd_answer ct_answer), sl_answer⟩)
    (e_answer : PySem.W.codeIn K cd_answer "answer" = true)
    (k_answer : PySem.W.keepIn K (.ref f_answer) = true)
    (g_MOST_ENTRIES : PySem.W.nsIn K mainGlobals "MOST_ENTRIES" = some (some (.int 400 t_MOST_ENTRIES)))
    (g_PAID : PySem.W.nsIn K mainGlobals "PAID" = some (some (.str "paid" t_PAID)))
    (g_FEE : PySem.W.nsIn K mainGlobals "FEE" = some (some (.str "fee" t_FEE)))
    (g_GIVEN_BACK : PySem.W.nsIn K mainGlobals "GIVEN_BACK" = some (some (.str "given back" t_GIVEN_BACK)))
    (g_FINE : PySem.W.nsIn K mainGlobals "FINE" = some (some (.str "fine" t_FINE)))
    (g_PAID_OUT : PySem.W.nsIn K mainGlobals "PAID_OUT" = some (some (.str "paid out" t_PAID_OUT)))
    (g_SIGNS : PySem.W.nsIn K mainGlobals "SIGNS" = some (some (.str "\n 0123456789abcdefghijklmnopqrstuvwxyz" t_SIGNS)))
    (g_MOST_DIGITS : PySem.W.nsIn K mainGlobals "MOST_DIGITS" = some (some (.int 4 t_MOST_DIGITS)))
    (g_MOST_PAIRS : PySem.W.nsIn K mainGlobals "MOST_PAIRS" = some (some (.int 6 t_MOST_PAIRS)))
    (g_MOST_DAYS : PySem.W.nsIn K mainGlobals "MOST_DAYS" = some (some (.int 200 t_MOST_DAYS)))
    (g_MOST_PERCENT : PySem.W.nsIn K mainGlobals "MOST_PERCENT" = some (some (.int 100 t_MOST_PERCENT)))
    (g_UNKNOWN_WORD : PySem.W.nsIn K mainGlobals "UNKNOWN_WORD" = some (some (.int 1 t_UNKNOWN_WORD)))
    (g_TOLD_ALREADY : PySem.W.nsIn K mainGlobals "TOLD_ALREADY" = some (some (.int 2 t_TOLD_ALREADY)))
    (g_WRONG_NUMBERS : PySem.W.nsIn K mainGlobals "WRONG_NUMBERS" = some (some (.int 3 t_WRONG_NUMBERS)))
    (g_MOST_BYTES : PySem.W.nsIn K mainGlobals "MOST_BYTES" = some (some (.int 1000 t_MOST_BYTES)))
    (g_MOST_SCHOOLS : PySem.W.nsIn K mainGlobals "MOST_SCHOOLS" = some (some (.int 30 t_MOST_SCHOOLS)))
    (g_MOST_NIGHTS : PySem.W.nsIn K mainGlobals "MOST_NIGHTS" = some (some (.int 30 t_MOST_NIGHTS)))
    (g_MOST_PAID : PySem.W.nsIn K mainGlobals "MOST_PAID" = some (some (.int 1000000 t_MOST_PAID)))
    (g_LAST_DAY : PySem.W.nsIn K mainGlobals "LAST_DAY" = some (some (.int 1000 t_LAST_DAY)))
    (g_OUT_OF_BOUNDS : PySem.W.nsIn K mainGlobals "OUT_OF_BOUNDS" = some (some (.int 1 t_OUT_OF_BOUNDS)))
    (g_IN_ALREADY : PySem.W.nsIn K mainGlobals "IN_ALREADY" = some (some (.int 3 t_IN_ALREADY)))
    (g_CLOSED : PySem.W.nsIn K mainGlobals "CLOSED" = some (some (.int 4 t_CLOSED)))
    (g_NOT_THERE : PySem.W.nsIn K mainGlobals "NOT_THERE" = some (some (.int 5 t_NOT_THERE)))
    (g_NOT_ENOUGH : PySem.W.nsIn K mainGlobals "NOT_ENOUGH" = some (some (.int 6 t_NOT_ENOUGH)))
    (g_NOT_WAITING : PySem.W.nsIn K mainGlobals "NOT_WAITING" = some (some (.int 7 t_NOT_WAITING)))
    (g_NO_ROOM : PySem.W.nsIn K mainGlobals "NO_ROOM" = some (some (.int 9 t_NO_ROOM)))
    (g_RULES : PySem.W.nsIn K mainGlobals "RULES" = some (some (.int 1 t_RULES)))
    (g_UNTOLD : PySem.W.nsIn K mainGlobals "UNTOLD" = some (some (.ref dU)))
    (g_BOUNDS : PySem.W.nsIn K mainGlobals "BOUNDS" = some (some (.ref dB)))
    (g_CALLS : PySem.W.nsIn K mainGlobals "CALLS" = some (some (.ref tC)))
    (g_NUMBERS : PySem.W.nsIn K mainGlobals "NUMBERS" = some (some (.ref tN)))
    (l_dU : K.lookup dU = some ⟨.type "dict", none, .dict es_dU nn_dU, #[]⟩)
    (y_dU : PySem.W.KeysLit w.params es_dU.toList)
    (p_dU : Paired (fun (p : Str × V) (e : DictEntry) => Value.isStrOf p.1 e.key = true ∧ L2.RelV p.2 e.val) [("places", .ref u_places), ("form", .ref u_form), ("cap", .ref u_cap), ("judges", .ref u_judges), ("fee", .ref u_fee), ("fine", .ref u_fine), ("answer", .ref u_answer), ("start", .ref u_start), ("back", .ref u_back)] es_dU.toList)
    (w_dU : (dU == sysModules) = false)
    (l_dB : K.lookup dB = some ⟨.type "dict", none, .dict es_dB nn_dB, #[]⟩)
    (y_dB : PySem.W.KeysLit w.params es_dB.toList)
    (p_dB : Paired (fun (p : Str × V) (e : DictEntry) => Value.isStrOf p.1 e.key = true ∧ L2.RelV p.2 e.val) [("places", .ref b_places), ("form", .ref b_form), ("cap", .ref b_cap), ("judges", .ref b_judges), ("fee", .ref b_fee), ("fine", .ref b_fine), ("answer", .ref b_answer), ("start", .ref b_start)] es_dB.toList)
    (w_dB : (dB == sysModules) = false)
    (l_u_places : K.lookup u_places = some ⟨.type "tuple", dt_u_places, .seq it_u_places nn_u_places, sl_u_places⟩)
    (z_u_places : it_u_places.size ≤ 100)
    (v_u_places : Vals [.int 16] it_u_places.toList)
    (l_u_form : K.lookup u_form = some ⟨.type "tuple", dt_u_form, .seq it_u_form nn_u_form, sl_u_form⟩)
    (z_u_form : it_u_form.size ≤ 100)
    (v_u_form : Vals [.int 4] it_u_form.toList)
    (l_u_cap : K.lookup u_cap = some ⟨.type "tuple", dt_u_cap, .seq it_u_cap nn_u_cap, sl_u_cap⟩)
    (z_u_cap : it_u_cap.size ≤ 100)
    (v_u_cap : Vals [.int 4] it_u_cap.toList)
    (l_u_judges : K.lookup u_judges = some ⟨.type "tuple", dt_u_judges, .seq it_u_judges nn_u_judges, sl_u_judges⟩)
    (z_u_judges : it_u_judges.size ≤ 100)
    (v_u_judges : Vals [.int 1, .int 2] it_u_judges.toList)
    (l_u_fee : K.lookup u_fee = some ⟨.type "tuple", dt_u_fee, .seq it_u_fee nn_u_fee, sl_u_fee⟩)
    (z_u_fee : it_u_fee.size ≤ 100)
    (v_u_fee : Vals [.int 1000] it_u_fee.toList)
    (l_u_fine : K.lookup u_fine = some ⟨.type "tuple", dt_u_fine, .seq it_u_fine nn_u_fine, sl_u_fine⟩)
    (z_u_fine : it_u_fine.size ≤ 100)
    (v_u_fine : Vals [.int 500] it_u_fine.toList)
    (l_u_answer : K.lookup u_answer = some ⟨.type "tuple", dt_u_answer, .seq it_u_answer nn_u_answer, sl_u_answer⟩)
    (z_u_answer : it_u_answer.size ≤ 100)
    (v_u_answer : Vals [.int 3] it_u_answer.toList)
    (l_u_start : K.lookup u_start = some ⟨.type "tuple", dt_u_start, .seq it_u_start nn_u_start, sl_u_start⟩)
    (z_u_start : it_u_start.size ≤ 100)
    (v_u_start : Vals [.int 60] it_u_start.toList)
    (l_u_back : K.lookup u_back = some ⟨.type "tuple", dt_u_back, .seq it_u_back nn_u_back, sl_u_back⟩)
    (z_u_back : it_u_back.size ≤ 100)
    (v_u_back : Vals [] it_u_back.toList)
    (l_b_places : K.lookup b_places = some ⟨.type "tuple", dt_b_places, .seq it_b_places nn_b_places, sl_b_places⟩)
    (z_b_places : it_b_places.size ≤ 100)
    (v_b_places : Vals [.ref bi_places] it_b_places.toList)
    (l_b_form : K.lookup b_form = some ⟨.type "tuple", dt_b_form, .seq it_b_form nn_b_form, sl_b_form⟩)
    (z_b_form : it_b_form.size ≤ 100)
    (v_b_form : Vals [.ref bi_form] it_b_form.toList)
    (l_b_cap : K.lookup b_cap = some ⟨.type "tuple", dt_b_cap, .seq it_b_cap nn_b_cap, sl_b_cap⟩)
    (z_b_cap : it_b_cap.size ≤ 100)
    (v_b_cap : Vals [.ref bi_cap] it_b_cap.toList)
    (l_b_judges : K.lookup b_judges = some ⟨.type "tuple", dt_b_judges, .seq it_b_judges nn_b_judges, sl_b_judges⟩)
    (z_b_judges : it_b_judges.size ≤ 100)
    (v_b_judges : Vals [.ref bi_judges, .ref bj_judges] it_b_judges.toList)
    (l_b_fee : K.lookup b_fee = some ⟨.type "tuple", dt_b_fee, .seq it_b_fee nn_b_fee, sl_b_fee⟩)
    (z_b_fee : it_b_fee.size ≤ 100)
    (v_b_fee : Vals [.ref bi_fee] it_b_fee.toList)
    (l_b_fine : K.lookup b_fine = some ⟨.type "tuple", dt_b_fine, .seq it_b_fine nn_b_fine, sl_b_fine⟩)
    (z_b_fine : it_b_fine.size ≤ 100)
    (v_b_fine : Vals [.ref bi_fine] it_b_fine.toList)
    (l_b_answer : K.lookup b_answer = some ⟨.type "tuple", dt_b_answer, .seq it_b_answer nn_b_answer, sl_b_answer⟩)
    (z_b_answer : it_b_answer.size ≤ 100)
    (v_b_answer : Vals [.ref bi_answer] it_b_answer.toList)
    (l_b_start : K.lookup b_start = some ⟨.type "tuple", dt_b_start, .seq it_b_start nn_b_start, sl_b_start⟩)
    (z_b_start : it_b_start.size ≤ 100)
    (v_b_start : Vals [.ref bi_start] it_b_start.toList)
    (l_bi_places : K.lookup bi_places = some ⟨.type "tuple", dt_bi_places, .seq it_bi_places nn_bi_places, sl_bi_places⟩)
    (z_bi_places : it_bi_places.size ≤ 100)
    (v_bi_places : Vals [.int 2, .int 60] it_bi_places.toList)
    (l_bi_form : K.lookup bi_form = some ⟨.type "tuple", dt_bi_form, .seq it_bi_form nn_bi_form, sl_bi_form⟩)
    (z_bi_form : it_bi_form.size ≤ 100)
    (v_bi_form : Vals [.int 2, .int 4] it_bi_form.toList)
    (l_bi_cap : K.lookup bi_cap = some ⟨.type "tuple", dt_bi_cap, .seq it_bi_cap nn_bi_cap, sl_bi_cap⟩)
    (z_bi_cap : it_bi_cap.size ≤ 100)
    (v_bi_cap : Vals [.int 1, .int 9] it_bi_cap.toList)
    (l_bi_judges : K.lookup bi_judges = some ⟨.type "tuple", dt_bi_judges, .seq it_bi_judges nn_bi_judges, sl_bi_judges⟩)
    (z_bi_judges : it_bi_judges.size ≤ 100)
    (v_bi_judges : Vals [.int 0, .int 9] it_bi_judges.toList)
    (l_bi_fee : K.lookup bi_fee = some ⟨.type "tuple", dt_bi_fee, .seq it_bi_fee nn_bi_fee, sl_bi_fee⟩)
    (z_bi_fee : it_bi_fee.size ≤ 100)
    (v_bi_fee : Vals [.int 0, .int 9999] it_bi_fee.toList)
    (l_bi_fine : K.lookup bi_fine = some ⟨.type "tuple", dt_bi_fine, .seq it_bi_fine nn_bi_fine, sl_bi_fine⟩)
    (z_bi_fine : it_bi_fine.size ≤ 100)
    (v_bi_fine : Vals [.int 0, .int 9999] it_bi_fine.toList)
    (l_bi_answer : K.lookup bi_answer = some ⟨.type "tuple", dt_bi_answer, .seq it_bi_answer nn_bi_answer, sl_bi_answer⟩)
    (z_bi_answer : it_bi_answer.size ≤ 100)
    (v_bi_answer : Vals [.int 1, .int 30] it_bi_answer.toList)
    (l_bi_start : K.lookup bi_start = some ⟨.type "tuple", dt_bi_start, .seq it_bi_start nn_bi_start, sl_bi_start⟩)
    (z_bi_start : it_bi_start.size ≤ 100)
    (v_bi_start : Vals [.int 1, .int 200] it_bi_start.toList)
    (l_bj_judges : K.lookup bj_judges = some ⟨.type "tuple", dt_bj_judges, .seq it_bj_judges nn_bj_judges, sl_bj_judges⟩)
    (z_bj_judges : it_bj_judges.size ≤ 100)
    (v_bj_judges : Vals [.int 1, .int 9] it_bj_judges.toList)
    (l_tC : K.lookup tC = some ⟨.type "tuple", dt_tC, .seq it_tC nn_tC, sl_tC⟩)
    (z_tC : it_tC.size ≤ 100)
    (v_tC : Vals [.ref f_clear, .ref f_rules, .ref f_show, .ref f_enter, .ref f_want, .ref f_bring, .ref f_accept, .ref f_decline, .ref f_drop, .ref f_transfer, .ref f_pay, .ref f_payout, .ref f_night, .ref f_close, .ref f_tell_school, .ref f_tell_account, .ref f_tell_offers, .ref f_tell_queue, .ref f_tell_money, .ref f_tell_counts] it_tC.toList)
    (l_tN : K.lookup tN = some ⟨.type "tuple", dt_tN, .seq it_tN nn_tN, sl_tN⟩)
    (z_tN : it_tN.size ≤ 100)
    (v_tN : Vals [.int 0, .int 0, .int 0, .int 3, .int 2, .int 2, .int 1, .int 1, .int 2, .int 2, .int 2, .int 1, .int 1, .int 0, .int 1, .int 1, .int 0, .int 0, .int 0, .int 0] it_tN.toList)
    (b0_len : PySem.W.nsIn K mainGlobals "len" = some none)
    (b0_sum : PySem.W.nsIn K mainGlobals "sum" = some none)
    (b0_all : PySem.W.nsIn K mainGlobals "all" = some none)
    (b0_ord : PySem.W.nsIn K mainGlobals "ord" = some none)
    (b0_min : PySem.W.nsIn K mainGlobals "min" = some none)
    (b0_max : PySem.W.nsIn K mainGlobals "max" = some none)
    (b0_sorted : PySem.W.nsIn K mainGlobals "sorted" = some none)
    (b0_int : PySem.W.nsIn K mainGlobals "int" = some none)
    (b0_str : PySem.W.nsIn K mainGlobals "str" = some none)
    (b0_tuple : PySem.W.nsIn K mainGlobals "tuple" = some none)
    (b0_dict : PySem.W.nsIn K mainGlobals "dict" = some none)
    (b0_list : PySem.W.nsIn K mainGlobals "list" = some none)
    (b0_range : PySem.W.nsIn K mainGlobals "range" = some none)
    (b0_enumerate : PySem.W.nsIn K mainGlobals "enumerate" = some none)
    (b0_zip : PySem.W.nsIn K mainGlobals "zip" = some none) : ∃ fd : FuncData, (∀ (s : Shared) (us : List Value), us.length = (["calls"] : List Str).length → BindsTo s fd ⟨us, []⟩ ((["calls"] : List Str).zip us)) ∧ ∀ base : Heap, K.In base → base.Ns mainGlobals mg → FnOk P w K mg base C8.CX0 9 fa fd ["calls"] (sp_main K) := by
  have e := hfa.symm.trans (PySem.W.mg_of X G a_answers)
  cases e
  have T : Txt w K mg (⟨cLedger, cRules, cSchool, cOffer, cHouse, f_Ledger_init, f_Ledger_has_room, f_Ledger_write, f_Ledger_entries_of, f_Ledger_account_of, f_Rules_init, f_Rules_one, f_Rules_judges_owed, f_Rules_percent, f_Rules_row, f_Rules_shown, f_School_init, f_School_load, f_Offer_init, f_House_init, f_House_begin, f_House_most, f_House_waits, f_House_taken, f_House_free, f_House_turns, f_House_last_day, f_House_pass_night, f_House_make_offers, f_House_make_offer, f_House_end_offer, f_House_lose_offer, f_House_take_place, f_House_give_up_places, f_House_missing, f_House_shut, f_House_fine_schools, f_balance, f_sums, f_amount_of, f_shown_line, f_read_lines, f_words_of, f_first_fault, f_fault_of, f_numbers_fit, f_is_number, f_within_bounds, f_pairs_fit, f_rules_of, f_clear, f_rules, f_show, f_enter, f_want, f_bring, f_accept, f_decline, f_drop, f_transfer, f_pay, f_payout, f_night, f_close, f_tell_school, f_tell_account, f_tell_offers, f_tell_queue, f_tell_money, f_tell_counts, fa, f_answers_on, f_read_calls, f_answer, dU, dB, tC, tN, u_places, u_form, u_cap, u_judges, u_fee, u_fine, u_answer, u_start, u_back, b_places, b_form, b_cap, b_judges, b_fee, b_fine, b_answer, b_start, bi_places, bi_form, bi_cap, bi_judges, bi_fee, bi_fine, bi_answer, bi_start, bj_judges⟩ : Ad) := txt_mk X G n_cLedger pg_cLedger hd_cLedger po_cLedger sa_cLedger mk_cLedger kc_cLedger na_cLedger_entries n_cRules pg_cRules hd_cRules po_cRules sa_cRules mk_cRules kc_cRules na_cRules_told n_cSchool pg_cSchool hd_cSchool po_cSchool sa_cSchool mk_cSchool kc_cSchool na_cSchool_number na_cSchool_wanted na_cSchool_judges na_cSchool_has na_cSchool_offered n_cOffer pg_cOffer hd_cOffer po_cOffer sa_cOffer mk_cOffer kc_cOffer na_cOffer_number na_cOffer_school na_cOffer_day n_cHouse pg_cHouse hd_cHouse po_cHouse sa_cHouse mk_cHouse kc_cHouse na_cHouse_rules na_cHouse_schools na_cHouse_offers na_cHouse_made na_cHouse_day na_cHouse_closed na_cHouse_ledger a_Ledger_init i_Ledger_init l_Ledger_init e_Ledger_init k_Ledger_init a_Ledger_has_room i_Ledger_has_room l_Ledger_has_room e_Ledger_has_room k_Ledger_has_room a_Ledger_write i_Ledger_write l_Ledger_write e_Ledger_write k_Ledger_write a_Ledger_entries_of i_Ledger_entries_of l_Ledger_entries_of e_Ledger_entries_of k_Ledger_entries_of a_Ledger_account_of i_Ledger_account_of l_Ledger_account_of e_Ledger_account_of k_Ledger_account_of a_Rules_init i_Rules_init l_Rules_init e_Rules_init k_Rules_init a_Rules_one i_Rules_one l_Rules_one e_Rules_one k_Rules_one a_Rules_judges_owed i_Rules_judges_owed l_Rules_judges_owed e_Rules_judges_owed k_Rules_judges_owed a_Rules_percent i_Rules_percent l_Rules_percent e_Rules_percent k_Rules_percent a_Rules_row i_Rules_row l_Rules_row e_Rules_row k_Rules_row a_Rules_shown i_Rules_shown l_Rules_shown e_Rules_shown k_Rules_shown a_School_init i_School_init l_School_init e_School_init k_School_init a_School_load i_School_load l_School_load e_School_load k_School_load a_Offer_init i_Offer_init l_Offer_init e_Offer_init k_Offer_init a_House_init i_House_init l_House_init e_House_init k_House_init a_House_begin i_House_begin l_House_begin e_House_begin k_House_begin a_House_most i_House_most l_House_most e_House_most k_House_most a_House_waits i_House_waits l_House_waits e_House_waits k_House_waits a_House_taken i_House_taken l_House_taken e_House_taken k_House_taken a_House_free i_House_free l_House_free e_House_free k_House_free a_House_turns i_House_turns l_House_turns e_House_turns k_House_turns a_House_last_day i_House_last_day l_House_last_day e_House_last_day k_House_last_day a_House_pass_night i_House_pass_night l_House_pass_night e_House_pass_night k_House_pass_night a_House_make_offers i_House_make_offers l_House_make_offers e_House_make_offers k_House_make_offers a_House_make_offer i_House_make_offer l_House_make_offer e_House_make_offer k_House_make_offer a_House_end_offer i_House_end_offer l_House_end_offer e_House_end_offer k_House_end_offer a_House_lose_offer i_House_lose_offer l_House_lose_offer e_House_lose_offer k_House_lose_offer a_House_take_place i_House_take_place l_House_take_place e_House_take_place k_House_take_place a_House_give_up_places i_House_give_up_places l_House_give_up_places e_House_give_up_places k_House_give_up_places a_House_missing i_House_missing l_House_missing e_House_missing k_House_missing a_House_shut i_House_shut l_House_shut e_House_shut k_House_shut a_House_fine_schools i_House_fine_schools l_House_fine_schools e_House_fine_schools k_House_fine_schools a_balance l_balance e_balance k_balance a_sums l_sums e_sums k_sums a_amount_of l_amount_of e_amount_of k_amount_of a_shown_line l_shown_line e_shown_line k_shown_line a_read_lines l_read_lines e_read_lines k_read_lines a_words_of l_words_of e_words_of k_words_of a_first_fault l_first_fault e_first_fault k_first_fault a_fault_of l_fault_of e_fault_of k_fault_of a_numbers_fit l_numbers_fit e_numbers_fit k_numbers_fit a_is_number l_is_number e_is_number k_is_number a_within_bounds l_within_bounds e_within_bounds k_within_bounds a_pairs_fit l_pairs_fit e_pairs_fit k_pairs_fit a_rules_of l_rules_of e_rules_of k_rules_of a_clear l_clear e_clear k_clear a_rules l_rules e_rules k_rules a_show l_show e_show k_show a_enter l_enter e_enter k_enter a_want l_want e_want k_want a_bring l_bring e_bring k_bring a_accept l_accept e_accept k_accept a_decline l_decline e_decline k_decline a_drop l_drop e_drop k_drop a_transfer l_transfer e_transfer k_transfer a_pay l_pay e_pay k_pay a_payout l_payout e_payout k_payout a_night l_night e_night k_night a_close l_close e_close k_close a_tell_school l_tell_school e_tell_school k_tell_school a_tell_account l_tell_account e_tell_account k_tell_account a_tell_offers l_tell_offers e_tell_offers k_tell_offers a_tell_queue l_tell_queue e_tell_queue k_tell_queue a_tell_money l_tell_money e_tell_money k_tell_money a_tell_counts l_tell_counts e_tell_counts k_tell_counts a_answers l_answers e_answers k_answers a_answers_on l_answers_on e_answers_on k_answers_on a_read_calls l_read_calls e_read_calls k_read_calls a_answer l_answer e_answer k_answer g_MOST_ENTRIES g_PAID g_FEE g_GIVEN_BACK g_FINE g_PAID_OUT g_SIGNS g_MOST_DIGITS g_MOST_PAIRS g_MOST_DAYS g_MOST_PERCENT g_UNKNOWN_WORD g_TOLD_ALREADY g_WRONG_NUMBERS g_MOST_BYTES g_MOST_SCHOOLS g_MOST_NIGHTS g_MOST_PAID g_LAST_DAY g_OUT_OF_BOUNDS g_IN_ALREADY g_CLOSED g_NOT_THERE g_NOT_ENOUGH g_NOT_WAITING g_NO_ROOM g_RULES g_UNTOLD g_BOUNDS g_CALLS g_NUMBERS l_dU y_dU p_dU w_dU l_dB y_dB p_dB w_dB l_u_places z_u_places v_u_places l_u_form z_u_form v_u_form l_u_cap z_u_cap v_u_cap l_u_judges z_u_judges v_u_judges l_u_fee z_u_fee v_u_fee l_u_fine z_u_fine v_u_fine l_u_answer z_u_answer v_u_answer l_u_start z_u_start v_u_start l_u_back z_u_back v_u_back l_b_places z_b_places v_b_places l_b_form z_b_form v_b_form l_b_cap z_b_cap v_b_cap l_b_judges z_b_judges v_b_judges l_b_fee z_b_fee v_b_fee l_b_fine z_b_fine v_b_fine l_b_answer z_b_answer v_b_answer l_b_start z_b_start v_b_start l_bi_places z_bi_places v_bi_places l_bi_form z_bi_form v_bi_form l_bi_cap z_bi_cap v_bi_cap l_bi_judges z_bi_judges v_bi_judges l_bi_fee z_bi_fee v_bi_fee l_bi_fine z_bi_fine v_bi_fine l_bi_answer z_bi_answer v_bi_answer l_bi_start z_bi_start v_bi_start l_bj_judges z_bj_judges v_bj_judges l_tC z_tC v_tC l_tN z_tN v_tN b0_len b0_sum b0_all b0_ord b0_min b0_max b0_sorted b0_int b0_str b0_tuple b0_dict b0_list b0_range b0_enumerate b0_zip
  exact ⟨PySem.W.fnOf "answers" "answers" (C8.fnArgs s_answers) (C8.fnBody s_answers) (C8.fnScope s_answers) .none kV_answers dc_answers pm_answers an_answers cd_answers ct_answers, fun s us hu => match us, hu with | [_], _ => .of_eq rfl, fun base _ _ => fn_answers T ⟨⟨oc_answers, od_answers, .none, kV_answers, dc_answers, pm_answers, an_answers, cd_answers, ct_answers, sl_answers, rfl, l_answers, e_answers⟩⟩⟩
end EH
open PySem PySem.W PyProof.Rows
set_option maxRecDepth 100000 in
set_option maxHeartbeats 80000000 in
theorem PySem.Challenge.cw_entryhouse_s01_answers_holds : PySem.Challenge.rw_entryhouse_s01_answers.Holds := by
  w_on; k_headS; (case hw => exact ⟨[.list [.int 0]], by decide +kernel, by decide +kernel⟩)
  k_fillS
  refine L2.walk_specK (r := PySem.Challenge.rw_entryhouse_s01_answers) (k := 9) (CX := C8.CX0) (ps := ["calls"]) (sp := EH.sp_main) (by decide +kernel) rfl rfl ⟨rfl, by decide, by decide⟩ (fun w h Y => PySem.W.kIn_of Y) ?F ?S (fun _ _ _ _ z => z)
  case F =>
    intro w mg fa h Y KX G hmg
    refine' EH.all_mk KX G hmg ?n_cLedger ?pg_cLedger ?hd_cLedger ?po_cLedger ?sa_cLedger ?mk_cLedger ?kc_cLedger ?na_cLedger_entries ?n_cRules ?pg_cRules ?hd_cRules ?po_cRules ?sa_cRules ?mk_cRules ?kc_cRules ?na_cRules_told ?n_cSchool ?pg_cSchool ?hd_cSchool ?po_cSchool ?sa_cSchool ?mk_cSchool ?kc_cSchool ?na_cSchool_number ?na_cSchool_wanted ?na_cSchool_judges ?na_cSchool_has ?na_cSchool_offered ?n_cOffer ?pg_cOffer ?hd_cOffer ?po_cOffer ?sa_cOffer ?mk_cOffer ?kc_cOffer ?na_cOffer_number ?na_cOffer_school ?na_cOffer_day ?n_cHouse ?pg_cHouse ?hd_cHouse ?po_cHouse ?sa_cHouse ?mk_cHouse ?kc_cHouse ?na_cHouse_rules ?na_cHouse_schools ?na_cHouse_offers ?na_cHouse_made ?na_cHouse_day ?na_cHouse_closed ?na_cHouse_ledger ?a_Ledger_init ?i_Ledger_init ?l_Ledger_init ?e_Ledger_init ?k_Ledger_init ?a_Ledger_has_room ?i_Ledger_has_room ?l_Ledger_has_room ?e_Ledger_has_room ?k_Ledger_has_room ?a_Ledger_write ?i_Ledger_write ?l_Ledger_write ?e_Ledger_write ?k_Ledger_write ?a_Ledger_entries_of ?i_Ledger_entries_of ?l_Ledger_entries_of ?e_Ledger_entries_of ?k_Ledger_entries_of ?a_Ledger_account_of ?i_Ledger_account_of ?l_Ledger_account_of ?e_Ledger_account_of ?k_Ledger_account_of ?a_Rules_init ?i_Rules_init ?l_Rules_init ?e_Rules_init ?k_Rules_init ?a_Rules_one ?i_Rules_one ?l_Rules_one ?e_Rules_one ?k_Rules_one ?a_Rules_judges_owed ?i_Rules_judges_owed ?l_Rules_judges_owed ?e_Rules_judges_owed ?k_Rules_judges_owed ?a_Rules_percent ?i_Rules_percent ?l_Rules_percent ?e_Rules_percent ?k_Rules_percent ?a_Rules_row ?i_Rules_row ?l_Rules_row ?e_Rules_row ?k_Rules_row ?a_Rules_shown ?i_Rules_shown ?l_Rules_shown ?e_Rules_shown ?k_Rules_shown ?a_School_init ?i_School_init ?l_School_init ?e_School_init ?k_School_init ?a_School_load ?i_School_load ?l_School_load ?e_School_load ?k_School_load ?a_Offer_init ?i_Offer_init ?l_Offer_init ?e_Offer_init ?k_Offer_init ?a_House_init ?i_House_init ?l_House_init ?e_House_init ?k_House_init ?a_House_begin ?i_House_begin ?l_House_begin ?e_House_begin ?k_House_begin ?a_House_most ?i_House_most ?l_House_most ?e_House_most ?k_House_most ?a_House_waits ?i_House_waits ?l_House_waits ?e_House_waits ?k_House_waits ?a_House_taken ?i_House_taken ?l_House_taken ?e_House_taken ?k_House_taken ?a_House_free ?i_House_free ?l_House_free ?e_House_free ?k_House_free ?a_House_turns ?i_House_turns ?l_House_turns ?e_House_turns ?k_House_turns ?a_House_last_day ?i_House_last_day ?l_House_last_day ?e_House_last_day ?k_House_last_day ?a_House_pass_night ?i_House_pass_night ?l_House_pass_night ?e_House_pass_night ?k_House_pass_night ?a_House_make_offers ?i_House_make_offers ?l_House_make_offers ?e_House_make_offers ?k_House_make_offers ?a_House_make_offer ?i_House_make_offer ?l_House_make_offer ?e_House_make_offer ?k_House_make_offer ?a_House_end_offer ?i_House_end_offer ?l_House_end_offer ?e_House_end_offer ?k_House_end_offer ?a_House_lose_offer ?i_House_lose_offer ?l_House_lose_offer ?e_House_lose_offer ?k_House_lose_offer ?a_House_take_place ?i_House_take_place ?l_House_take_place ?e_House_take_place ?k_House_take_place ?a_House_give_up_places ?i_House_give_up_places ?l_House_give_up_places ?e_House_give_up_places ?k_House_give_up_places ?a_House_missing ?i_House_missing ?l_House_missing ?e_House_missing ?k_House_missing ?a_House_shut ?i_House_shut ?l_House_shut ?e_House_shut ?k_House_shut ?a_House_fine_schools ?i_House_fine_schools ?l_House_fine_schools ?e_House_fine_schools ?k_House_fine_schools ?a_balance ?l_balance ?e_balance ?k_balance ?a_sums ?l_sums ?e_sums ?k_sums ?a_amount_of ?l_amount_of ?e_amount_of ?k_amount_of ?a_shown_line ?l_shown_line ?e_shown_line ?k_shown_line ?a_read_lines ?l_read_lines ?e_read_lines ?k_read_lines ?a_words_of ?l_words_of ?e_words_of ?k_words_of ?a_first_fault ?l_first_fault ?e_first_fault ?k_first_fault ?a_fault_of ?l_fault_of ?e_fault_of ?k_fault_of ?a_numbers_fit ?l_numbers_fit ?e_numbers_fit ?k_numbers_fit ?a_is_number ?l_is_number ?e_is_number ?k_is_number ?a_within_bounds ?l_within_bounds ?e_within_bounds ?k_within_bounds ?a_pairs_fit ?l_pairs_fit ?e_pairs_fit ?k_pairs_fit ?a_rules_of ?l_rules_of ?e_rules_of ?k_rules_of ?a_clear ?l_clear ?e_clear ?k_clear ?a_rules ?l_rules ?e_rules ?k_rules ?a_show ?l_show ?e_show ?k_show ?a_enter ?l_enter ?e_enter ?k_enter ?a_want ?l_want ?e_want ?k_want ?a_bring ?l_bring ?e_bring ?k_bring ?a_accept ?l_accept ?e_accept ?k_accept ?a_decline ?l_decline ?e_decline ?k_decline ?a_drop ?l_drop ?e_drop ?k_drop ?a_transfer ?l_transfer ?e_transfer ?k_transfer ?a_pay ?l_pay ?e_pay ?k_pay ?a_payout ?l_payout ?e_payout ?k_payout ?a_night ?l_night ?e_night ?k_night ?a_close ?l_close ?e_close ?k_close ?a_tell_school ?l_tell_school ?e_tell_school ?k_tell_school ?a_tell_account ?l_tell_account ?e_tell_account ?k_tell_account ?a_tell_offers ?l_tell_offers ?e_tell_offers ?k_tell_offers ?a_tell_queue ?l_tell_queue ?e_tell_queue ?k_tell_queue ?a_tell_money ?l_tell_money ?e_tell_money ?k_tell_money ?a_tell_counts ?l_tell_counts ?e_tell_counts ?k_tell_counts ?a_answers ?l_answers ?e_answers ?k_answers ?a_answers_on ?l_answers_on ?e_answers_on ?k_answers_on ?a_read_calls ?l_read_calls ?e_read_calls ?k_read_calls ?a_answer ?l_answer ?e_answer ?k_answer ?g_MOST_ENTRIES ?g_PAID ?g_FEE ?g_GIVEN_BACK ?g_FINE ?g_PAID_OUT ?g_SIGNS ?g_MOST_DIGITS ?g_MOST_PAIRS ?g_MOST_DAYS ?g_MOST_PERCENT ?g_UNKNOWN_WORD ?g_TOLD_ALREADY ?g_WRONG_NUMBERS ?g_MOST_BYTES ?g_MOST_SCHOOLS ?g_MOST_NIGHTS ?g_MOST_PAID ?g_LAST_DAY ?g_OUT_OF_BOUNDS ?g_IN_ALREADY ?g_CLOSED ?g_NOT_THERE ?g_NOT_ENOUGH ?g_NOT_WAITING ?g_NO_ROOM ?g_RULES ?g_UNTOLD ?g_BOUNDS ?g_CALLS ?g_NUMBERS ?l_dU ?y_dU ?p_dU ?w_dU ?l_dB ?y_dB ?p_dB ?w_dB ?l_u_places ?z_u_places ?v_u_places ?l_u_form ?z_u_form ?v_u_form ?l_u_cap ?z_u_cap ?v_u_cap ?l_u_judges ?z_u_judges ?v_u_judges ?l_u_fee ?z_u_fee ?v_u_fee ?l_u_fine ?z_u_fine ?v_u_fine ?l_u_answer ?z_u_answer ?v_u_answer ?l_u_start ?z_u_start ?v_u_start ?l_u_back ?z_u_back ?v_u_back ?l_b_places ?z_b_places ?v_b_places ?l_b_form ?z_b_form ?v_b_form ?l_b_cap ?z_b_cap ?v_b_cap ?l_b_judges ?z_b_judges ?v_b_judges ?l_b_fee ?z_b_fee ?v_b_fee ?l_b_fine ?z_b_fine ?v_b_fine ?l_b_answer ?z_b_answer ?v_b_answer ?l_b_start ?z_b_start ?v_b_start ?l_bi_places ?z_bi_places ?v_bi_places ?l_bi_form ?z_bi_form ?v_bi_form ?l_bi_cap ?z_bi_cap ?v_bi_cap ?l_bi_judges ?z_bi_judges ?v_bi_judges ?l_bi_fee ?z_bi_fee ?v_bi_fee ?l_bi_fine ?z_bi_fine ?v_bi_fine ?l_bi_answer ?z_bi_answer ?v_bi_answer ?l_bi_start ?z_bi_start ?v_bi_start ?l_bj_judges ?z_bj_judges ?v_bj_judges ?l_tC ?z_tC ?v_tC ?l_tN ?z_tN ?v_tN ?b0_len ?b0_sum ?b0_all ?b0_ord ?b0_min ?b0_max ?b0_sorted ?b0_int ?b0_str ?b0_tuple ?b0_dict ?b0_list ?b0_range ?b0_enumerate ?b0_zip
    (case n_cLedger => k_is)
    (case pg_cLedger => k_is)
    (case hd_cLedger => k_is)
    (case po_cLedger => k_is)
    (case sa_cLedger => k_is)
    (case mk_cLedger => k_is)
    (case kc_cLedger => k_is)
    (case na_cLedger_entries => k_is)
    (case n_cRules => k_is)
    (case pg_cRules => k_is)
    (case hd_cRules => k_is)
    (case po_cRules => k_is)
    (case sa_cRules => k_is)
    (case mk_cRules => k_is)
    (case kc_cRules => k_is)
    (case na_cRules_told => k_is)
    (case n_cSchool => k_is)
    (case pg_cSchool => k_is)
    (case hd_cSchool => k_is)
    (case po_cSchool => k_is)
    (case sa_cSchool => k_is)
    (case mk_cSchool => k_is)
    (case kc_cSchool => k_is)
    (case na_cSchool_number => k_is)
    (case na_cSchool_wanted => k_is)
    (case na_cSchool_judges => k_is)
    (case na_cSchool_has => k_is)
    (case na_cSchool_offered => k_is)
    (case n_cOffer => k_is)
    (case pg_cOffer => k_is)
    (case hd_cOffer => k_is)
    (case po_cOffer => k_is)
    (case sa_cOffer => k_is)
    (case mk_cOffer => k_is)
    (case kc_cOffer => k_is)
    (case na_cOffer_number => k_is)
    (case na_cOffer_school => k_is)
    (case na_cOffer_day => k_is)
    (case n_cHouse => k_is)
    (case pg_cHouse => k_is)
    (case hd_cHouse => k_is)
    (case po_cHouse => k_is)
    (case sa_cHouse => k_is)
    (case mk_cHouse => k_is)
    (case kc_cHouse => k_is)
    (case na_cHouse_rules => k_is)
    (case na_cHouse_schools => k_is)
    (case na_cHouse_offers => k_is)
    (case na_cHouse_made => k_is)
    (case na_cHouse_day => k_is)
    (case na_cHouse_closed => k_is)
    (case na_cHouse_ledger => k_is)
    (case a_Ledger_init => k_is)
    (case i_Ledger_init => k_is)
    (case l_Ledger_init => k_is)
    (case e_Ledger_init => k_is)
    (case k_Ledger_init => k_is)
    (case a_Ledger_has_room => k_is)
    (case i_Ledger_has_room => k_is)
    (case l_Ledger_has_room => k_is)
    (case e_Ledger_has_room => k_is)
    (case k_Ledger_has_room => k_is)
    (case a_Ledger_write => k_is)
    (case i_Ledger_write => k_is)
    (case l_Ledger_write => k_is)
    (case e_Ledger_write => k_is)
    (case k_Ledger_write => k_is)
    (case a_Ledger_entries_of => k_is)
    (case i_Ledger_entries_of => k_is)
    (case l_Ledger_entries_of => k_is)
    (case e_Ledger_entries_of => k_is)
    (case k_Ledger_entries_of => k_is)
    (case a_Ledger_account_of => k_is)
    (case i_Ledger_account_of => k_is)
    (case l_Ledger_account_of => k_is)
    (case e_Ledger_account_of => k_is)
    (case k_Ledger_account_of => k_is)
    (case a_Rules_init => k_is)
    (case i_Rules_init => k_is)
    (case l_Rules_init => k_is)
    (case e_Rules_init => k_is)
    (case k_Rules_init => k_is)
    (case a_Rules_one => k_is)
    (case i_Rules_one => k_is)
    (case l_Rules_one => k_is)
    (case e_Rules_one => k_is)
    (case k_Rules_one => k_is)
    (case a_Rules_judges_owed => k_is)
    (case i_Rules_judges_owed => k_is)
    (case l_Rules_judges_owed => k_is)
    (case e_Rules_judges_owed => k_is)
    (case k_Rules_judges_owed => k_is)
    (case a_Rules_percent => k_is)
    (case i_Rules_percent => k_is)
    (case l_Rules_percent => k_is)
    (case e_Rules_percent => k_is)
    (case k_Rules_percent => k_is)
    (case a_Rules_row => k_is)
    (case i_Rules_row => k_is)
    (case l_Rules_row => k_is)
    (case e_Rules_row => k_is)
    (case k_Rules_row => k_is)
    (case a_Rules_shown => k_is)
    (case i_Rules_shown => k_is)
    (case l_Rules_shown => k_is)
    (case e_Rules_shown => k_is)
    (case k_Rules_shown => k_is)
    (case a_School_init => k_is)
    (case i_School_init => k_is)
    (case l_School_init => k_is)
    (case e_School_init => k_is)
    (case k_School_init => k_is)
    (case a_School_load => k_is)
    (case i_School_load => k_is)
    (case l_School_load => k_is)
    (case e_School_load => k_is)
    (case k_School_load => k_is)
    (case a_Offer_init => k_is)
    (case i_Offer_init => k_is)
    (case l_Offer_init => k_is)
    (case e_Offer_init => k_is)
    (case k_Offer_init => k_is)
    (case a_House_init => k_is)
    (case i_House_init => k_is)
    (case l_House_init => k_is)
    (case e_House_init => k_is)
    (case k_House_init => k_is)
    (case a_House_begin => k_is)
    (case i_House_begin => k_is)
    (case l_House_begin => k_is)
    (case e_House_begin => k_is)
    (case k_House_begin => k_is)
    (case a_House_most => k_is)
    (case i_House_most => k_is)
    (case l_House_most => k_is)
    (case e_House_most => k_is)
    (case k_House_most => k_is)
    (case a_House_waits => k_is)
    (case i_House_waits => k_is)
    (case l_House_waits => k_is)
    (case e_House_waits => k_is)
    (case k_House_waits => k_is)
    (case a_House_taken => k_is)
    (case i_House_taken => k_is)
    (case l_House_taken => k_is)
    (case e_House_taken => k_is)
    (case k_House_taken => k_is)
    (case a_House_free => k_is)
    (case i_House_free => k_is)
    (case l_House_free => k_is)
    (case e_House_free => k_is)
    (case k_House_free => k_is)
    (case a_House_turns => k_is)
    (case i_House_turns => k_is)
    (case l_House_turns => k_is)
    (case e_House_turns => k_is)
    (case k_House_turns => k_is)
    (case a_House_last_day => k_is)
    (case i_House_last_day => k_is)
    (case l_House_last_day => k_is)
    (case e_House_last_day => k_is)
    (case k_House_last_day => k_is)
    (case a_House_pass_night => k_is)
    (case i_House_pass_night => k_is)
    (case l_House_pass_night => k_is)
    (case e_House_pass_night => k_is)
    (case k_House_pass_night => k_is)
    (case a_House_make_offers => k_is)
    (case i_House_make_offers => k_is)
    (case l_House_make_offers => k_is)
    (case e_House_make_offers => k_is)
    (case k_House_make_offers => k_is)
    (case a_House_make_offer => k_is)
    (case i_House_make_offer => k_is)
    (case l_House_make_offer => k_is)
    (case e_House_make_offer => k_is)
    (case k_House_make_offer => k_is)
    (case a_House_end_offer => k_is)
    (case i_House_end_offer => k_is)
    (case l_House_end_offer => k_is)
    (case e_House_end_offer => k_is)
    (case k_House_end_offer => k_is)
    (case a_House_lose_offer => k_is)
    (case i_House_lose_offer => k_is)
    (case l_House_lose_offer => k_is)
    (case e_House_lose_offer => k_is)
    (case k_House_lose_offer => k_is)
    (case a_House_take_place => k_is)
    (case i_House_take_place => k_is)
    (case l_House_take_place => k_is)
    (case e_House_take_place => k_is)
    (case k_House_take_place => k_is)
    (case a_House_give_up_places => k_is)
    (case i_House_give_up_places => k_is)
    (case l_House_give_up_places => k_is)
    (case e_House_give_up_places => k_is)
    (case k_House_give_up_places => k_is)
    (case a_House_missing => k_is)
    (case i_House_missing => k_is)
    (case l_House_missing => k_is)
    (case e_House_missing => k_is)
    (case k_House_missing => k_is)
    (case a_House_shut => k_is)
    (case i_House_shut => k_is)
    (case l_House_shut => k_is)
    (case e_House_shut => k_is)
    (case k_House_shut => k_is)
    (case a_House_fine_schools => k_is)
    (case i_House_fine_schools => k_is)
    (case l_House_fine_schools => k_is)
    (case e_House_fine_schools => k_is)
    (case k_House_fine_schools => k_is)
    (case a_balance => k_is)
    (case l_balance => k_is)
    (case e_balance => k_is)
    (case k_balance => k_is)
    (case a_sums => k_is)
    (case l_sums => k_is)
    (case e_sums => k_is)
    (case k_sums => k_is)
    (case a_amount_of => k_is)
    (case l_amount_of => k_is)
    (case e_amount_of => k_is)
    (case k_amount_of => k_is)
    (case a_shown_line => k_is)
    (case l_shown_line => k_is)
    (case e_shown_line => k_is)
    (case k_shown_line => k_is)
    (case a_read_lines => k_is)
    (case l_read_lines => k_is)
    (case e_read_lines => k_is)
    (case k_read_lines => k_is)
    (case a_words_of => k_is)
    (case l_words_of => k_is)
    (case e_words_of => k_is)
    (case k_words_of => k_is)
    (case a_first_fault => k_is)
    (case l_first_fault => k_is)
    (case e_first_fault => k_is)
    (case k_first_fault => k_is)
    (case a_fault_of => k_is)
    (case l_fault_of => k_is)
    (case e_fault_of => k_is)
    (case k_fault_of => k_is)
    (case a_numbers_fit => k_is)
    (case l_numbers_fit => k_is)
    (case e_numbers_fit => k_is)
    (case k_numbers_fit => k_is)
    (case a_is_number => k_is)
    (case l_is_number => k_is)
    (case e_is_number => k_is)
    (case k_is_number => k_is)
    (case a_within_bounds => k_is)
    (case l_within_bounds => k_is)
    (case e_within_bounds => k_is)
    (case k_within_bounds => k_is)
    (case a_pairs_fit => k_is)
    (case l_pairs_fit => k_is)
    (case e_pairs_fit => k_is)
    (case k_pairs_fit => k_is)
    (case a_rules_of => k_is)
    (case l_rules_of => k_is)
    (case e_rules_of => k_is)
    (case k_rules_of => k_is)
    (case a_clear => k_is)
    (case l_clear => k_is)
    (case e_clear => k_is)
    (case k_clear => k_is)
    (case a_rules => k_is)
    (case l_rules => k_is)
    (case e_rules => k_is)
    (case k_rules => k_is)
    (case a_show => k_is)
    (case l_show => k_is)
    (case e_show => k_is)
    (case k_show => k_is)
    (case a_enter => k_is)
    (case l_enter => k_is)
    (case e_enter => k_is)
    (case k_enter => k_is)
    (case a_want => k_is)
    (case l_want => k_is)
    (case e_want => k_is)
    (case k_want => k_is)
    (case a_bring => k_is)
    (case l_bring => k_is)
    (case e_bring => k_is)
    (case k_bring => k_is)
    (case a_accept => k_is)
    (case l_accept => k_is)
    (case e_accept => k_is)
    (case k_accept => k_is)
    (case a_decline => k_is)
    (case l_decline => k_is)
    (case e_decline => k_is)
    (case k_decline => k_is)
    (case a_drop => k_is)
    (case l_drop => k_is)
    (case e_drop => k_is)
    (case k_drop => k_is)
    (case a_transfer => k_is)
    (case l_transfer => k_is)
    (case e_transfer => k_is)
    (case k_transfer => k_is)
    (case a_pay => k_is)
    (case l_pay => k_is)
    (case e_pay => k_is)
    (case k_pay => k_is)
    (case a_payout => k_is)
    (case l_payout => k_is)
    (case e_payout => k_is)
    (case k_payout => k_is)
    (case a_night => k_is)
    (case l_night => k_is)
    (case e_night => k_is)
    (case k_night => k_is)
    (case a_close => k_is)
    (case l_close => k_is)
    (case e_close => k_is)
    (case k_close => k_is)
    (case a_tell_school => k_is)
    (case l_tell_school => k_is)
    (case e_tell_school => k_is)
    (case k_tell_school => k_is)
    (case a_tell_account => k_is)
    (case l_tell_account => k_is)
    (case e_tell_account => k_is)
    (case k_tell_account => k_is)
    (case a_tell_offers => k_is)
    (case l_tell_offers => k_is)
    (case e_tell_offers => k_is)
    (case k_tell_offers => k_is)
    (case a_tell_queue => k_is)
    (case l_tell_queue => k_is)
    (case e_tell_queue => k_is)
    (case k_tell_queue => k_is)
    (case a_tell_money => k_is)
    (case l_tell_money => k_is)
    (case e_tell_money => k_is)
    (case k_tell_money => k_is)
    (case a_tell_counts => k_is)
    (case l_tell_counts => k_is)
    (case e_tell_counts => k_is)
    (case k_tell_counts => k_is)
    (case a_answers => k_is)
    (case l_answers => k_is)
    (case e_answers => k_is)
    (case k_answers => k_is)
    (case a_answers_on => k_is)
    (case l_answers_on => k_is)
    (case e_answers_on => k_is)
    (case k_answers_on => k_is)
    (case a_read_calls => k_is)
    (case l_read_calls => k_is)
    (case e_read_calls => k_is)
    (case k_read_calls => k_is)
    (case a_answer => k_is)
    (case l_answer => k_is)
    (case e_answer => k_is)
    (case k_answer => k_is)
    (case g_MOST_ENTRIES => k_is)
    (case g_PAID => k_is)
    (case g_FEE => k_is)
    (case g_GIVEN_BACK => k_is)
    (case g_FINE => k_is)
    (case g_PAID_OUT => k_is)
    (case g_SIGNS => k_is)
    (case g_MOST_DIGITS => k_is)
    (case g_MOST_PAIRS => k_is)
    (case g_MOST_DAYS => k_is)
    (case g_MOST_PERCENT => k_is)
    (case g_UNKNOWN_WORD => k_is)
    (case g_TOLD_ALREADY => k_is)
    (case g_WRONG_NUMBERS => k_is)
    (case g_MOST_BYTES => k_is)
    (case g_MOST_SCHOOLS => k_is)
    (case g_MOST_NIGHTS => k_is)
    (case g_MOST_PAID => k_is)
    (case g_LAST_DAY => k_is)
    (case g_OUT_OF_BOUNDS => k_is)
    (case g_IN_ALREADY => k_is)
    (case g_CLOSED => k_is)
    (case g_NOT_THERE => k_is)
    (case g_NOT_ENOUGH => k_is)
    (case g_NOT_WAITING => k_is)
    (case g_NO_ROOM => k_is)
    (case g_RULES => k_is)
    (case g_UNTOLD => k_is)
    (case g_BOUNDS => k_is)
    (case g_CALLS => k_is)
    (case g_NUMBERS => k_is)
    (case l_dU => k_is)
    (case y_dU => k_keys)
    (case p_dU => exact .cons ⟨by rfl, rfl⟩ (.cons ⟨by rfl, rfl⟩ (.cons ⟨by rfl, rfl⟩ (.cons ⟨by rfl, rfl⟩ (.cons ⟨by rfl, rfl⟩ (.cons ⟨by rfl, rfl⟩ (.cons ⟨by rfl, rfl⟩ (.cons ⟨by rfl, rfl⟩ (.cons ⟨by rfl, rfl⟩ (.nil))))))))))
    (case w_dU => first | rfl | decide +kernel)
    (case l_dB => k_is)
    (case y_dB => k_keys)
    (case p_dB => exact .cons ⟨by rfl, rfl⟩ (.cons ⟨by rfl, rfl⟩ (.cons ⟨by rfl, rfl⟩ (.cons ⟨by rfl, rfl⟩ (.cons ⟨by rfl, rfl⟩ (.cons ⟨by rfl, rfl⟩ (.cons ⟨by rfl, rfl⟩ (.cons ⟨by rfl, rfl⟩ (.nil)))))))))
    (case w_dB => first | rfl | decide +kernel)
    (case l_u_places => k_is)
    (case z_u_places => first | decide | exact Nat.le_of_ble_eq_true rfl)
    (case v_u_places => exact .cons ⟨_, rfl⟩ (.nil))
    (case l_u_form => k_is)
    (case z_u_form => first | decide | exact Nat.le_of_ble_eq_true rfl)
    (case v_u_form => exact .cons ⟨_, rfl⟩ (.nil))
    (case l_u_cap => k_is)
    (case z_u_cap => first | decide | exact Nat.le_of_ble_eq_true rfl)
    (case v_u_cap => exact .cons ⟨_, rfl⟩ (.nil))
    (case l_u_judges => k_is)
    (case z_u_judges => first | decide | exact Nat.le_of_ble_eq_true rfl)
    (case v_u_judges => exact .cons ⟨_, rfl⟩ (.cons ⟨_, rfl⟩ (.nil)))
    (case l_u_fee => k_is)
    (case z_u_fee => first | decide | exact Nat.le_of_ble_eq_true rfl)
    (case v_u_fee => exact .cons ⟨_, rfl⟩ (.nil))
    (case l_u_fine => k_is)
    (case z_u_fine => first | decide | exact Nat.le_of_ble_eq_true rfl)
    (case v_u_fine => exact .cons ⟨_, rfl⟩ (.nil))
    (case l_u_answer => k_is)
    (case z_u_answer => first | decide | exact Nat.le_of_ble_eq_true rfl)
    (case v_u_answer => exact .cons ⟨_, rfl⟩ (.nil))
    (case l_u_start => k_is)
    (case z_u_start => first | decide | exact Nat.le_of_ble_eq_true rfl)
    (case v_u_start => exact .cons ⟨_, rfl⟩ (.nil))
    (case l_u_back => k_is)
    (case z_u_back => first | decide | exact Nat.le_of_ble_eq_true rfl)
    (case v_u_back => exact .nil)
    (case l_b_places => k_is)
    (case z_b_places => first | decide | exact Nat.le_of_ble_eq_true rfl)
    (case v_b_places => exact .cons rfl (.nil))
    (case l_b_form => k_is)
    (case z_b_form => first | decide | exact Nat.le_of_ble_eq_true rfl)
    (case v_b_form => exact .cons rfl (.nil))
    (case l_b_cap => k_is)
    (case z_b_cap => first | decide | exact Nat.le_of_ble_eq_true rfl)
    (case v_b_cap => exact .cons rfl (.nil))
    (case l_b_judges => k_is)
    (case z_b_judges => first | decide | exact Nat.le_of_ble_eq_true rfl)
    (case v_b_judges => exact .cons rfl (.cons rfl (.nil)))
    (case l_b_fee => k_is)
    (case z_b_fee => first | decide | exact Nat.le_of_ble_eq_true rfl)
    (case v_b_fee => exact .cons rfl (.nil))
    (case l_b_fine => k_is)
    (case z_b_fine => first | decide | exact Nat.le_of_ble_eq_true rfl)
    (case v_b_fine => exact .cons rfl (.nil))
    (case l_b_answer => k_is)
    (case z_b_answer => first | decide | exact Nat.le_of_ble_eq_true rfl)
    (case v_b_answer => exact .cons rfl (.nil))
    (case l_b_start => k_is)
    (case z_b_start => first | decide | exact Nat.le_of_ble_eq_true rfl)
    (case v_b_start => exact .cons rfl (.nil))
    (case l_bi_places => k_is)
    (case z_bi_places => first | decide | exact Nat.le_of_ble_eq_true rfl)
    (case v_bi_places => exact .cons ⟨_, rfl⟩ (.cons ⟨_, rfl⟩ (.nil)))
    (case l_bi_form => k_is)
    (case z_bi_form => first | decide | exact Nat.le_of_ble_eq_true rfl)
    (case v_bi_form => exact .cons ⟨_, rfl⟩ (.cons ⟨_, rfl⟩ (.nil)))
    (case l_bi_cap => k_is)
    (case z_bi_cap => first | decide | exact Nat.le_of_ble_eq_true rfl)
    (case v_bi_cap => exact .cons ⟨_, rfl⟩ (.cons ⟨_, rfl⟩ (.nil)))
    (case l_bi_judges => k_is)
    (case z_bi_judges => first | decide | exact Nat.le_of_ble_eq_true rfl)
    (case v_bi_judges => exact .cons ⟨_, rfl⟩ (.cons ⟨_, rfl⟩ (.nil)))
    (case l_bi_fee => k_is)
    (case z_bi_fee => first | decide | exact Nat.le_of_ble_eq_true rfl)
    (case v_bi_fee => exact .cons ⟨_, rfl⟩ (.cons ⟨_, rfl⟩ (.nil)))
    (case l_bi_fine => k_is)
    (case z_bi_fine => first | decide | exact Nat.le_of_ble_eq_true rfl)
    (case v_bi_fine => exact .cons ⟨_, rfl⟩ (.cons ⟨_, rfl⟩ (.nil)))
    (case l_bi_answer => k_is)
    (case z_bi_answer => first | decide | exact Nat.le_of_ble_eq_true rfl)
    (case v_bi_answer => exact .cons ⟨_, rfl⟩ (.cons ⟨_, rfl⟩ (.nil)))
    (case l_bi_start => k_is)
    (case z_bi_start => first | decide | exact Nat.le_of_ble_eq_true rfl)
    (case v_bi_start => exact .cons ⟨_, rfl⟩ (.cons ⟨_, rfl⟩ (.nil)))
    (case l_bj_judges => k_is)
    (case z_bj_judges => first | decide | exact Nat.le_of_ble_eq_true rfl)
    (case v_bj_judges => exact .cons ⟨_, rfl⟩ (.cons ⟨_, rfl⟩ (.nil)))
    (case l_tC => k_is)
    (case z_tC => first | decide | exact Nat.le_of_ble_eq_true rfl)
    (case v_tC => exact .cons rfl (.cons rfl (.cons rfl (.cons rfl (.cons rfl (.cons rfl (.cons rfl (.cons rfl (.cons rfl (.cons rfl (.cons rfl (.cons rfl (.cons rfl (.cons rfl (.cons rfl (.cons rfl (.cons rfl (.cons rfl (.cons rfl (.cons rfl (.nil)))))))))))))))))))))
    (case l_tN => k_is)
    (case z_tN => first | decide | exact Nat.le_of_ble_eq_true rfl)
    (case v_tN => exact .cons ⟨_, rfl⟩ (.cons ⟨_, rfl⟩ (.cons ⟨_, rfl⟩ (.cons ⟨_, rfl⟩ (.cons ⟨_, rfl⟩ (.cons ⟨_, rfl⟩ (.cons ⟨_, rfl⟩ (.cons ⟨_, rfl⟩ (.cons ⟨_, rfl⟩ (.cons ⟨_, rfl⟩ (.cons ⟨_, rfl⟩ (.cons ⟨_, rfl⟩ (.cons ⟨_, rfl⟩ (.cons ⟨_, rfl⟩ (.cons ⟨_, rfl⟩ (.cons ⟨_, rfl⟩ (.cons ⟨_, rfl⟩ (.cons ⟨_, rfl⟩ (.cons ⟨_, rfl⟩ (.cons ⟨_, rfl⟩ (.nil)))))))))))))))))))))
    (case b0_len => k_is)
    (case b0_sum => k_is)
    (case b0_all => k_is)
    (case b0_ord => k_is)
    (case b0_min => k_is)
    (case b0_max => k_is)
    (case b0_sorted => k_is)
    (case b0_int => k_is)
    (case b0_str => k_is)
    (case b0_tuple => k_is)
    (case b0_dict => k_is)
    (case b0_list => k_is)
    (case b0_range => k_is)
    (case b0_enumerate => k_is)
    (case b0_zip => k_is)
  case S =>
    intro K H xs a hO hwi hask hx
    cases hx with
    | cons h1 h2 =>
      cases h2
      cases h1 with
      | lst hs ha =>
        have e := L2.ints_dw a.1 _ ha
        subst e
        have q : ((Codec.inLen 0 17000 a.1 && a.1.all (Codec.inInt (-1000000000000000000) 1000000000000000000)) && true) = true := hwi
        rw [Bool.and_eq_true, Bool.and_eq_true] at q
        exact ⟨_, a.1, rfl, hs, Nat.le_trans (Codec.inNat_iff.mp q.1.1).2 (by decide), hask, fun p H' hp => .lst (L2.SqL.of hp) (L2.dw_ints _)⟩
