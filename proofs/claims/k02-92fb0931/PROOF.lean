import PyProof.Rows.All
import Wide.All
import OpenK.AllK
import Wide.FinOn
import PyProof.EqAt
import PyProof.EqKinds
import PyProof.TupleCall
import PyProof.ReprRoads
import HandS.ForMost
import HandS.IsInst
import HandS.Style
import HandS.TupAny
import HandS.TupMul
import HandS.SortInts
import KE.KRevSl
import KE.GoesMore
import KE.GoesEnum
import KE.KEqSeq
import PySem.Challenge.RW_leastplaces_k02_rows_judged
set_option Elab.async false
set_option linter.all false
set_option maxRecDepth 100000
set_option maxHeartbeats 4000000
/-! Defs that may ask repr: what runs around them holds no repr under way. -/
namespace Gd
open PySem PySem.Spec PyProof.Rows L2

theorem guards_deeper {A : Around} (env : Env) (h : A.guards = some []) : (A.deeper env).guards = some [] := by
  first | exact h | (simpa [Around.deeper] using h)

/-- as FnOk, asked only where no repr is under way -/
structure FnG (P : Program) (w : World) (K : PySem.W.Frag) (mg : Str → Option Value) (base : Heap) (CX : CXT) (k : Nat) (f : Addr) (fd : FuncData) (ps : List Str) (sp : Sp) : Prop where
  len : ∀ vs H Q E, sp vs H Q E → vs.length = ps.length
  run : ∀ (A : Around) (fr : List Env) (s : Shared) (H : Hp) (ar : Args) (us : List Value) (vs : List V) (Q : VK) (E : XK), Room k A → A.guards = some [] → Env0 P w K mg base A fr s H → BindsTo s fd ar (ps.zip us) →
    Vals vs us → sp vs H Q E → codeAny (model P w) A (.call (.ref f) ar) (CR CX fr P w H s Q E) s

section
variable {P : Program} {w : World} {K : PySem.W.Frag} {mg : Str → Option Value} {base : Heap}
theorem fnG_of {x qual : Str} {st : Stmt} {f : Addr} {fd : FuncData} {N ps : List Str} {k : Nat} {sp : Sp} (F : Fun K x qual st f fd) (S : FnScope N ps (defScope st)) (len : ∀ vs H Q E, sp vs H Q E → vs.length = ps.length)
    (body : ∀ (cdv : Value) (A : Around) (fr : List Env) (s : Shared) (H : Hp) (vs : List V) (Q : VK) (E : XK), Room k (A.deeper (envOfC qual (defScope st) s.heap.objs.size f cdv)) →
      (A.deeper (envOfC qual (defScope st) s.heap.objs.size f cdv)).guards = some [] → sp vs H Q E →
      ∃ t, PSs (cxOf CX0 P w K mg base N qual (defScope st) f cdv A fr s H E).nox (defBody st) t ∧ t { nx := fun _ H' => Q .non H', rt := Q } (start N vs) H) : FnG P w K mg base CX0 (k + 1) f fd ps sp := by
  obtain ⟨oc, od, kV, doc, pm, an, cdv, ct, osl, rfl, lk, hcd⟩ := F.ex
  refine ⟨len, ?_⟩
  intro A fr s H ar us vs Q E room gd env bd rel want
  have inK : K.In s.heap := env.mod.kin.keeps (fun b o z => (env.bs b o z).1)
  have nolim : s.heap.NoLimit := env.mod.nolimit.keeps (fun b o z => (env.bs b o z).1)
  refine codeAny_call_function room.depth (inK _ _ lk) rfl S.co S.gen rfl
    (PySem.W.codeRec_of inK hcd) (bd _ _ _ _ ?_)
  refine wpAny_newFunctionEnv_cells S.kind ?kinds ?rest
  case kinds =>
    rintro ⟨n, v⟩ hm
    have par := S.par n (List.of_mem_zip hm).1
    rcases par with z | z
    · exact Or.inl z
    · exact Or.inr (And.intro z (PySem.W.cellsFrom_some _ _ _ (.inl z)))
  case rest =>
    intro env1 e1 s1 inCall
    subst e1
    refine ⟨nolim.keeps inCall.toInCall.keep, codeAny_func ?_⟩
    obtain ⟨t, tree, reading⟩ := body cdv A fr s H vs Q E (room.deeper _) (guards_deeper _ gd) want
    have I0 : Inv (cxOf CX0 P w K mg base N qual (defScope st) f cdv A fr s H E) [] (start N vs) H s1 := inv_start S room.hd env (len _ _ _ _ want) rel inCall
    have ran := tree.nox.run [] s1 (start N vs) H _ I0 reading
    refine wpAny_mono ran ?good (fun _ _ z => z)
    case good =>
      intro flow s2 end2
      cases flow with
      | brk => obtain ⟨_, _, _, no⟩ := end2; exact no.elim
      | cont => obtain ⟨_, _, _, no⟩ := end2; exact no.elim
      | next =>
        obtain ⟨σ2, H2, I2, q2⟩ := end2
        exact (⟨.non, H2, I2.os, I2.bare, I2.base, I2.hok, rfl, q2⟩ : CE fr P w H s Q Value.none s2)
      | ret u =>
        obtain ⟨v, σ2, H2, I2, rv, q2⟩ := end2
        exact (⟨v, H2, I2.os, I2.bare, I2.base, I2.hok, rv, q2⟩ : CE fr P w H s Q u s2)

/-- the law's own call -/
theorem law_runG {mb : Str → Option Value} {CX : CXT} {k : Nat} {fa a : Addr} {fd : FuncData} {x : Str} {sp : Sp} {s₁ : Shared} {vs : List Value} {ns : List Int}
    (inK : K.In s₁.heap) (glob : s₁.heap.Ns mainGlobals mg) (blt : s₁.heap.Ns builtinsNs mb) (plain : ∀ y : Str, y ≠ "__name__" → mb y = bootBuiltins y) (nolim : s₁.heap.NoLimit) (nogen : s₁.gens = #[])
    (obj : s₁.heap.get? a = some { cls := .type "list", data := .seq vs.toArray }) (isInts : IntsAre vs ns) (short : ns.length ≤ sizeLine) (room : Room k callerA)
    (F : ∀ b : Heap, K.In b → b.Ns mainGlobals mg → FnG P w K mg b CX k fa fd [x] sp) (bd : ∀ (s : Shared) (u : Value), BindsTo s fd ⟨[u], []⟩ [(x, u)])
    (want : ∀ H : Hp, Only H → SqL K H a (ns.map V.int) → sp [.ref a] H (fun v _ => v = .bl true) fun _ _ _ => False)
    (noX : ∀ H e s', CX [] H s₁ (fun _ _ _ => False) e s' → False) :
    codeAny (model P w) callerA (.call (.ref fa) ⟨[.ref a], []⟩) (fun r s' => r = .ok (.ret (.bool true)) ∧ OldK s₁.heap s'.heap ∧ s'.os = s₁.os ∧ AllBare s'.gens) s₁ := by
  have rel : Vals (ns.map V.int) vs := vals_ints isInts
  have sizes : vs.length = ns.length := isInts.length
  -- the abstract heap: the script alone, unless the module's own part holds it
  obtain ⟨H, only, script, held, alone, apart⟩ : ∃ H : Hp, Only H ∧ SqL K H a (ns.map V.int) ∧ HOk P w H s₁.heap ∧ (∀ b, H b ≠ none → b = a) ∧ (∀ o, K.lookup a = some o → H a = none) := by
    cases own : K.lookup a with
    | some o =>
      have same := (inK a o own).symm.trans obj
      cases same
      refine ⟨fun _ => none, fun _ => Or.inl rfl, Or.inr ?_, ?_, fun b z => (z rfl).elim, fun _ _ => rfl⟩
      · exact ⟨_, vs.toArray, _, own, rfl, rfl, rfl, by rw [List.size_toArray, sizes]; exact short, by simpa using rel⟩
      · intro b u z
        cases z
    | none =>
      refine ⟨fun b => if b = a then some (.frz ⟨.type "list", none, .seq vs.toArray 0, #[]⟩ (.lst (ns.map V.int))) else none, ?_, ?_, ?_, ?_, fun o z => by cases z⟩
      · intro b
        by_cases e : b = a
        · exact Or.inr ⟨_, _, if_pos e⟩
        · exact Or.inl (if_neg e)
      · exact Or.inl (Or.inr ⟨_, if_pos rfl⟩)
      · intro b u z
        by_cases e : b = a
        · subst e
          dsimp only at z
          rw [if_pos rfl] at z
          cases z
          exact ⟨obj, by rw [List.length_map]; exact short, vs, _, rel, obj⟩
        · dsimp only at z
          rw [if_neg e] at z
          cases z
      · intro b z
        by_cases e : b = a
        · exact e
        · exact (z (if_neg e)).elim
  have free : ∀ {b : Addr} {o : Obj} {es : Array DictEntry} {n : Nat}, s₁.heap.get? b = some o → o.data = .dict es n → H b = none := by
    intro b o es n z d
    cases q : H b with
    | none => rfl
    | some u =>
      have e := alone b (by rw [q]; exact fun y => nomatch y)
      subst e
      rw [obj] at z
      cases z
      cases (show Data.seq vs.toArray 0 = Data.dict es n from d)
  have keepNs : ∀ {b : Addr} {m : Str → Option Value}, s₁.heap.Ns b m → (hidT s₁.heap H).Ns b m := by
    rintro b m ⟨o, es, n, z, d, r⟩
    exact ⟨o, es, n, hidT_get z (free z d), d, r⟩
  have keepK : K.In (hidT s₁.heap H) := by
    intro b o z
    refine hidT_get (inK b o z) ?_
    cases q : H b with
    | none => rfl
    | some u =>
      have e := alone b (by rw [q]; exact fun y => nomatch y)
      subst e
      rw [apart o z] at q
      cases q
  have mod : Mod K mg (hidT s₁.heap H) := by
    obtain ⟨mc, c1, c2⟩ := nolim
    exact ⟨keepK, keepNs glob, ⟨mb, keepNs blt, plain⟩, ⟨mc, keepNs c1, c2⟩⟩
  have env : Env0 P w K mg (hidT s₁.heap H) callerA [] s₁ H := by
    refine ⟨rfl, mod, fun b o z => of_hidT z, ?_, trivial, ?_, held, .of_eq nogen⟩
    · rw [hidT_size]
      exact Nat.le_refl _
    · intro b z
      exact nomatch (show b ∈ ([] : List Addr) from z)
  have ran := (F _ keepK (keepNs glob)).run callerA [] s₁ H ⟨[.ref a], []⟩ [.ref a] [.ref a] _ _ room rfl env (bd s₁ (.ref a)) (.cons rfl .nil) (want H only script)
  refine codeAny_mono ran ?_
  intro r s2 end2
  cases r with
  | error e => exact (noX H e s2 end2).elim
  | ok fl =>
    cases fl with
    | next => exact False.elim end2
    | brk => exact False.elim end2
    | cont => exact False.elim end2
    | ret u =>
      obtain ⟨v, H2, os2, bare2, un2, ok2, rv, yes⟩ := end2
      have yes' : v = .bl true := yes
      subst yes'
      have eu : u = Value.bool true := rv
      subst eu
      refine ⟨rfl, OldK.of_keep ?_, os2, bare2⟩
      intro b o z
      rcases only b with no | ⟨ob, xs, fz⟩
      · refine un2.keep b o z no ?_ ?_
        · intro y
          exact nomatch (show b ∈ ([] : List Addr) from y)
        · intro y
          exact nomatch y
      · have was := (held b _ fz).1
        have now := (ok2 b _ (un2.frzs b ob _ fz)).1
        rw [z] at was
        cases was
        exact now

theorem walk_G {l : PySem.W.OpenLaw} {n k : Nat} {q : Program} {loose : List Str} {XP : (Str → Option Value) → Heap → Prop} {YP : World → Heap → Prop} {d : DefRec} {K : Params → PySem.W.Frag} {sp : PySem.W.Frag → Sp} {x : Str}
    (hn : l.most = some n) (fits : n ≤ sizeLine) (nodf : d.params.defaults = []) (room : Room k callerA) (hY : ∀ (w : World) (h : Heap), YP w h → (K w.params).In h)
    (F : ∀ (w : World) (mg : Str → Option Value) (fa : Addr) (h : Heap), (K w.params).In h → h.Ns mainGlobals mg → mg d.name = some (.ref fa) → ∃ fd : FuncData, (∀ (s : Shared) (u : Value), BindsTo s fd ⟨[u], []⟩ [(x, u)]) ∧
      ∀ b : Heap, (K w.params).In b → b.Ns mainGlobals mg → FnG l.prog w (K w.params) mg b CX0 k fa fd [x] (sp (K w.params)))
    (want : ∀ (K : PySem.W.Frag) (H : Hp) (a : Addr) (ns : List Int), ns.length ≤ n → Only H → SqL K H a (ns.map V.int) → sp K [.ref a] H (fun v _ => v = .bl true) fun _ _ _ => False) :
    PySem.W.WalkO q loose XP YP l.row.toRowW d [] (fun f vs => PySem.call f vs) := by
  apply Att.attach_call hn nodf
  intro w s₀ s₁ mg mb fa o pm cd doc a vs ns G Y ho hd hcd hmg obj isInts hlen nogen
  obtain ⟨fd, bd, hF⟩ := F w mg fa _ (hY w _ Y) G.T.g hmg
  exact law_runG (hY w _ Y) G.T.g G.T.b G.T.builtins G.T.nolimit nogen obj isInts (Nat.le_trans hlen fits) room hF bd (fun H h1 h2 => want _ H a ns hlen h1 h2) (fun _ _ _ z => z)
end
end Gd
/-! Data at any depth, dicts of plain values among them, and what repr says of it. -/
namespace Gd
open PySem PySem.Spec PyProof.Rows L2

/-- a plain value as data -/
def vD : V → PyData
  | .non => .none
  | .bl b => .bool b
  | .int i => .int i
  | .str x => .str x
  | _ => .none
def kD : Key → PyData
  | .inl i => .int i
  | .inr x => .str x
def plainV : V → Bool
  | .non => true
  | .bl _ => true
  | .int _ => true
  | .str _ => true
  | _ => false

/-- the value v is the data d, and none of its objects is one of av -/
inductive Dv (av : Addr → Prop) (H : Hp) : V → PyData → Prop
  | non : Dv av H .non .none
  | bl (b : Bool) : Dv av H (.bl b) (.bool b)
  | int (i : Int) : Dv av H (.int i) (.int i)
  | str (x : Str) : Dv av H (.str x) (.str x)
  | lst {a : Addr} {xs : List V} {ds : List PyData} : H a = some (.lst xs) → ¬ av a → xs.length = ds.length → (∀ (i : Nat) (x : V) (d : PyData), xs[i]? = some x → ds[i]? = some d → Dv av H x d) → Dv av H (.ref a) (.list ds)
  | tup {a : Addr} {xs : List V} {ds : List PyData} : H a = some (.tup xs) → ¬ av a → xs.length = ds.length → (∀ (i : Nat) (x : V) (d : PyData), xs[i]? = some x → ds[i]? = some d → Dv av H x d) → Dv av H (.ref a) (.tuple ds)
  | dct {a : Addr} {kvs : List (Key × V)} : H a = some (.dK kvs) → ¬ av a → (∀ p ∈ kvs, plainV p.2 = true) → Dv av H (.ref a) (.dict (kvs.map fun p => (kD p.1, vD p.2)))

/-- all but the objects of av stays -/
def Kp (av : Addr → Prop) (H H' : Hp) : Prop := ∀ b o, H b = some o → ¬ av b → H' b = some o
theorem Kp.refl {av : Addr → Prop} (H : Hp) : Kp av H H := fun _ _ h _ => h
theorem Kp.trans {av : Addr → Prop} {H H1 H2 : Hp} (a : Kp av H H1) (b : Kp av H1 H2) : Kp av H H2 := fun c o h n => b c o (a c o h n) n
theorem Kp.of_same {av : Addr → Prop} {H H1 : Hp} (a : Same H H1) : Kp av H H1 := fun c o h _ => a c o h
theorem Dv.keep {av : Addr → Prop} {H H' : Hp} (k : Kp av H H') {v : V} {d : PyData} (h : Dv av H v d) : Dv av H' v d := by
  induction h with
  | non => exact .non
  | bl b => exact .bl b
  | int i => exact .int i
  | str x => exact .str x
  | lst e n l _ ih => exact .lst (k _ _ e n) n l ih
  | tup e n l _ ih => exact .tup (k _ _ e n) n l ih
  | dct e n p => exact .dct (k _ _ e n) n p

section
variable {prog : Program} {w : World} {h : Heap}
def Rk (prog : Program) (w : World) (h : Heap) (u : Value) (d : PyData) : Prop := (∃ as, Reads h u d as) ∧ ∃ bs, ReadAtMost h d.depth bs ∧ ReprK prog w bs h d.depth u d.shown
def RkAll (prog : Program) (w : World) (h : Heap) (us : List Value) (ds : List PyData) : Prop :=
  (∃ as, ReadsAll h us ds as) ∧ ∃ bs, ReadAtMost h (PyData.depthAll ds) bs ∧ ReprAllK prog w bs h (PyData.depthAll ds) us (PyData.shownAll ds)
theorem rk_nil : RkAll prog w h [] [] := ⟨⟨_, .nil⟩, [], (fun _ z => nomatch z), by rw [PyData.shownAll]; exact .nil⟩
theorem rk_cons {u : Value} {d : PyData} {us : List Value} {ds : List PyData} (a : Rk prog w h u d) (b : RkAll prog w h us ds) : RkAll prog w h (u :: us) (d :: ds) := by
  obtain ⟨⟨as, r⟩, b1, m1, k1⟩ := a
  obtain ⟨⟨cs, rs⟩, b2, m2, k2⟩ := b
  refine ⟨⟨_, .cons r rs⟩, b1 ++ b2, ?_, ?_⟩
  · rw [PyData.depthAll]
    exact (m1.mono (Nat.le_max_left _ _)).append (m2.mono (Nat.le_max_right _ _))
  · rw [PyData.depthAll, PyData.shownAll]
    refine .cons ((k1.more ?_).level_le (Nat.le_max_left _ _)) (k2.more_le ?_ (Nat.le_max_right _ _))
    · exact fun c z => List.mem_append_left _ z
    · exact fun c z => List.mem_append_right _ z
theorem rk_list {a : Addr} {o : Obj} {vs : List Value} {n : Nat} {ds : List PyData} (e : h.get? a = some o) (c : o.cls = .type "list") (dt : o.data = .seq vs.toArray n) (all : RkAll prog w h vs ds) : Rk prog w h (.ref a) (.list ds) := by
  obtain ⟨⟨as, rs⟩, bs, m, k⟩ := all
  have r : Reads h (.ref a) (.list ds) (a :: as) := .list e c dt rs
  have deep : PyData.depth (.list ds) = PyData.depthAll ds + 1 := by rw [PyData.depth]
  refine ⟨⟨_, r⟩, a :: bs, ReadAtMost.cons r (by omega) m, ?_⟩
  rw [deep, PyData.shown]
  cases vs with
  | nil =>
    cases rs
    rw [PyData.shownAll, listText_nil]
    exact ReprK.listEmpty e c dt
  | cons x l => exact ReprK.list e c dt (not_mem_of_deeper r (by omega) m) (by simpa using k.length_eq) (fun i y z => k.item i y (by simpa using z))
theorem rk_tuple {a : Addr} {o : Obj} {vs : List Value} {n : Nat} {ds : List PyData} (e : h.get? a = some o) (c : o.cls = .type "tuple") (dt : o.data = .seq vs.toArray n) (all : RkAll prog w h vs ds) : Rk prog w h (.ref a) (.tuple ds) := by
  obtain ⟨⟨as, rs⟩, bs, m, k⟩ := all
  have r : Reads h (.ref a) (.tuple ds) as := .tuple e c dt rs
  have deep : PyData.depth (.tuple ds) = PyData.depthAll ds + 1 := by rw [PyData.depth]
  refine ⟨⟨_, r⟩, a :: bs, ReadAtMost.cons r (by omega) m, ?_⟩
  rw [deep, PyData.shown]
  exact ReprK.tuple e c dt (not_mem_of_deeper r (by omega) m) k
theorem rk_plain {v : V} {u : Value} (p : plainV v = true) (r : RelV v u) : Reads h u (vD v) [] := by
  cases v with
  | non => cases r; exact .none
  | bl b => cases r; exact .bool b
  | int i => obtain ⟨t, rfl⟩ := r; exact .int i t
  | str x => obtain ⟨t, rfl⟩ := r; exact .str x t
  | byt b => cases p
  | flt b => cases p
  | ref a => cases p
  | ty n => cases p
theorem rk_dict {a : Addr} {kvs : List (Key × V)} (ok : ObjOk prog w H h a (.dK kvs)) (pl : ∀ p ∈ kvs, plainV p.2 = true) (sh : (PyData.dict (kvs.map fun p => (kD p.1, vD p.2))).showable = true)
    (sz : (PyData.dict (kvs.map fun p => (kD p.1, vD p.2))).shown.length ≤ sizeLine) : Rk prog w h (.ref a) (.dict (kvs.map fun p => (kD p.1, vD p.2))) := by
  obtain ⟨_, hm, vs, rel, o, es, ep, e, ex, dt, _, prs, _⟩ := ok
  have ks : ∀ (kvs : List (Key × V)) (vs : List (Key × Value)) (l : List DictEntry), (∀ p ∈ kvs, plainV p.2 = true) → KV kvs vs → Pairs (mixKind prog w) l vs →
      ReadsAll h (l.map (·.key)) ((kvs.map fun p => (kD p.1, vD p.2)).map (·.1)) [] ∧ ReadsAll h (l.map (·.val)) ((kvs.map fun p => (kD p.1, vD p.2)).map (·.2)) [] := by
    intro kvs
    induction kvs with
    | nil =>
      intro vs l _ q p
      cases q
      cases p
      exact ⟨.nil, .nil⟩
    | cons kv kvs ih =>
      intro vs l pl q p
      cases q with
      | cons q1 q2 =>
        cases p with
        | cons p1 p2 p3 =>
          obtain ⟨i1, i2⟩ := ih _ _ (fun p z => pl p (List.mem_cons_of_mem _ z)) q2 p3
          obtain ⟨q1a, q1b⟩ := q1
          refine ⟨?_, ?_⟩
          · refine ReadsAll.cons (as := []) (bs := []) ?_ i1
            rw [← q1a] at p1
            obtain ⟨k1, v1⟩ := kv
            rcases keyIs_shape p1 with ⟨i, t, ek, ev⟩ | ⟨x, t, ek, ev⟩
            · dsimp only at ek
              subst ek
              dsimp only
              rw [ev]
              exact .int i t
            · dsimp only at ek
              subst ek
              dsimp only
              rw [ev]
              exact .str x t
          · refine ReadsAll.cons (as := []) (bs := []) ?_ i2
            dsimp only
            rw [p2]
            exact rk_plain (pl kv List.mem_cons_self) q1b
  obtain ⟨r1, r2⟩ := ks kvs vs es.toList pl rel prs
  have r : Reads h (.ref a) (.dict (kvs.map fun p => (kD p.1, vD p.2))) (a :: [] ++ []) := .dict e ex.1 dt r1 r2
  refine ⟨⟨_, r⟩, ReprK.of_reads r sh (fun _ z => ?_) sz⟩
  rcases List.mem_cons.mp z with q | q
  · rw [← q] at hm
    exact Bool.noConfusion ((beq_self_eq_true sysModules).symm.trans hm)
  · exact nomatch q
end

theorem shownAll_mem : ∀ {ds : List PyData} {d : PyData}, d ∈ ds → d.shown ∈ PyData.shownAll ds
  | [], _, h => nomatch h
  | x :: r, d, h => by
    rw [PyData.shownAll]
    rcases List.mem_cons.mp h with rfl | h
    · exact List.mem_cons_self
    · exact List.mem_cons_of_mem _ (shownAll_mem h)
theorem showableAll_mem : ∀ {ds : List PyData} {d : PyData}, PyData.showableAll ds = true → d ∈ ds → d.showable = true
  | [], _, _, h => nomatch h
  | x :: r, d, s, h => by
    rw [PyData.showableAll, Bool.and_eq_true] at s
    rcases List.mem_cons.mp h with rfl | h
    · exact s.1
    · exact showableAll_mem s.2 h

section
variable {X : Cx} {pins : List (Addr × Obj)} {σ : L2.St} {H : Hp} {s : Shared} {av : Addr → Prop}
theorem rk_all {xs : List V} {ds : List PyData} (ih : ∀ (i : Nat) (x : V) (d : PyData), xs[i]? = some x → ds[i]? = some d → ∀ u, RelV x u → Rk X.prog X.w s.heap u d) (l : xs.length = ds.length) {us : List Value} (r : Vals xs us) : RkAll X.prog X.w s.heap us ds := by
  induction r generalizing ds with
  | nil =>
    cases ds with
    | nil => exact rk_nil
    | cons d ds => cases l
  | cons r1 r2 ih2 =>
    cases ds with
    | nil => cases l
    | cons d ds => exact rk_cons (ih 0 _ _ rfl rfl _ r1) (ih2 (fun i x e h1 h2 => ih (i + 1) x e h1 h2) (Nat.succ.inj l))
theorem Dv.rk (I : Inv X pins σ H s) {v : V} {d : PyData} (h : Dv av H v d) : d.showable = true → d.shown.length ≤ sizeLine → ∀ u, RelV v u → Rk X.prog X.w s.heap u d := by
  have flat : ∀ {u : Value} {d : PyData}, Reads s.heap u d [] → d.hasDict = false → d.showable = true → d.shown.length ≤ sizeLine → Rk X.prog X.w s.heap u d := fun r n sh sz => ⟨⟨_, r⟩, ReprK.of_reads r sh (fun z => by rw [n] at z; cases z) sz⟩
  induction h with
  | non => intro sh sz u r; cases r; exact flat .none rfl sh sz
  | bl b => intro sh sz u r; cases r; exact flat (.bool b) rfl sh sz
  | int i => intro sh sz u r; obtain ⟨t, rfl⟩ := r; exact flat (.int i t) rfl sh sz
  | str x => intro sh sz u r; obtain ⟨t, rfl⟩ := r; exact flat (.str x t) rfl sh sz
  | lst e n l _ ih =>
    intro sh sz u r
    cases r
    obtain ⟨_, its, m, rv, ho⟩ := I.hok _ _ e
    rw [PyData.shown] at sz
    rw [PyData.showable] at sh
    refine rk_list ho rfl rfl (rk_all (fun i x d h1 h2 u q => ?_) l rv)
    exact ih i x d h1 h2 (showableAll_mem sh (List.mem_of_getElem? h2)) (Nat.le_trans (listText_mem_le (shownAll_mem (List.mem_of_getElem? h2))) sz) u q
  | tup e n l _ ih =>
    intro sh sz u r
    cases r
    obtain ⟨_, its, rv, o, ho, hc, m, hd⟩ := I.hok _ _ e
    rw [PyData.shown] at sz
    rw [PyData.showable] at sh
    refine rk_tuple ho hc hd (rk_all (fun i x d h1 h2 u q => ?_) l rv)
    exact ih i x d h1 h2 (showableAll_mem sh (List.mem_of_getElem? h2)) (Nat.le_trans (tupleText_mem_le (shownAll_mem (List.mem_of_getElem? h2))) sz) u q
  | dct e n p =>
    intro sh sz u r
    cases r
    exact rk_dict (I.hok _ _ e) p sh sz

/-- repr(x), x any data: its text -/
def rRepr (av : Addr → Prop) : List V → Hp → VK → Prop := fun xs H Q => ∃ x d, xs = [x] ∧ Dv av H x d ∧ d.showable = true ∧ d.shown.length ≤ sizeLine ∧ d.depth ≤ 60 ∧ Q (.str d.shown) H
theorem call_repr (hg : X.A.guards = some []) (hu : X.A.units + 64 < cLine) : CallR X (.builtin "repr") (rRepr av) := by
  intro pins s σ H xs us Q I r want
  obtain ⟨x, d, rfl, dv, sh, sz, dp, q⟩ := want
  obtain ⟨u, rfl, ru⟩ := vals1 r
  have ends : ∀ h' t tk, (∀ b o, s.heap.get? b = some o → h'.get? b = some o) → EP X pins σ Q (.str d.shown t) { s with heap := h', toks := tk } := fun h' t tk k => ⟨.str d.shown, H, I.kept k, ⟨t, rfl⟩, q⟩
  have all := dv.rk I sh sz u ru
  have g1 : X.A.in1.guards = some [] := hg
  have u1 : X.A.in1.units + 63 < cLine := by show X.A.units + 1 + 63 < cLine; omega
  cases dv with
  | non => cases ru; exact PySem.P.repr_of_none (ends s.heap _ _ fun _ _ e => e)
  | bl b =>
    cases ru
    refine PySem.P.repr_of_bool ?_
    have z := ends s.heap s.toks (s.toks + 1) fun _ _ e => e
    rw [PyData.shown] at z
    exact z
  | int i =>
    obtain ⟨t, rfl⟩ := ru
    refine PySem.P.repr_of_int (by simpa [PyData.showable] using sh) ?_
    have z := ends s.heap s.toks (s.toks + 1) fun _ _ e => e
    rw [PyData.shown] at z
    exact z
  | str y =>
    obtain ⟨t, rfl⟩ := ru
    refine PySem.P.repr_of_str ?_ (by simpa only [PyData.shown] using sz)
    have z := ends s.heap s.toks (s.toks + 1) fun _ _ e => e
    rw [PyData.shown] at z
    exact z
  | @lst a ys ds e n l f =>
    cases ru
    obtain ⟨_, its, m, rv, ho⟩ := I.hok _ _ e
    have sh' := sh
    have sz' := sz
    rw [PyData.showable] at sh'
    rw [PyData.shown] at sz'
    have parts : RkAll X.prog X.w s.heap its ds := rk_all (fun i x d h1 h2 u q => (f i x d h1 h2).rk I (showableAll_mem sh' (List.mem_of_getElem? h2)) (Nat.le_trans (listText_mem_le (shownAll_mem (List.mem_of_getElem? h2))) sz') u q) l rv
    obtain ⟨⟨as, rs⟩, bs, mb, k⟩ := parts
    have rd : Reads s.heap (.ref a) (.list ds) (a :: as) := .list ho rfl rfl rs
    have deep : PyData.depth (.list ds) = PyData.depthAll ds + 1 := by rw [PyData.depth]
    refine call_repr_slot (by omega) ⟨_, ho, rfl⟩ PySem.F.slot_list_repr.toG ?_
    rw [PyData.shown] at ends
    cases its with
    | nil =>
      cases rs
      rw [PyData.shownAll, listText_nil] at ends
      exact call_list_repr_empty ⟨_, ho, rfl⟩ ho rfl ⟨_, _, rfl, ends s.heap _ _ fun _ _ e => e⟩
    | cons y its =>
      exact call_list_reprK ho rfl rfl (not_mem_of_deeper rd (by omega) mb) (by simpa using k.length_eq) (fun i y z => k.item i y (by simpa using z)) g1 (fun b _ => Clear.nil b) (by omega) (fun _ _ e => e) (fun h' t tk kk => ⟨_, _, rfl, ends h' t tk kk⟩) sz'
  | @tup a ys ds e n l f =>
    cases ru
    obtain ⟨_, its, rv, o, ho, hc, m, hd⟩ := I.hok _ _ e
    have sh' := sh
    have sz' := sz
    rw [PyData.showable] at sh'
    rw [PyData.shown] at sz'
    have parts : RkAll X.prog X.w s.heap its ds := rk_all (fun i x d h1 h2 u q => (f i x d h1 h2).rk I (showableAll_mem sh' (List.mem_of_getElem? h2)) (Nat.le_trans (tupleText_mem_le (shownAll_mem (List.mem_of_getElem? h2))) sz') u q) l rv
    obtain ⟨⟨as, rs⟩, bs, mb, k⟩ := parts
    have rd : Reads s.heap (.ref a) (.tuple ds) as := .tuple ho hc hd rs
    have deep : PyData.depth (.tuple ds) = PyData.depthAll ds + 1 := by rw [PyData.depth]
    refine call_repr_slot (by omega) ⟨_, ho, hc⟩ PySem.F.slot_tuple_repr ?_
    rw [PyData.shown] at ends
    exact call_tuple_reprK ho hc hd (not_mem_of_deeper rd (by omega) mb) k g1 (fun b _ => Clear.nil b) (by omega) (fun _ _ e => e) (fun h' t tk kk => ⟨_, _, rfl, ends h' t tk kk⟩) sz'
  | @dct a kvs e n p =>
    cases ru
    obtain ⟨⟨as, rd⟩, _⟩ := all
    obtain ⟨_, hm, vs, rel, o, es, ep, e1, ex, dt, _, prs, _⟩ := (show ObjOk X.prog X.w H s.heap a (.dK kvs) from I.hok _ _ e)
    have deep : (PyData.dict (kvs.map fun p => (kD p.1, vD p.2))).depth ≤ 60 := dp
    have nos : sysModules ∉ as := by
      cases rd with
      | dict h1 h2 h3 h4 h5 =>
        have flatAll : ∀ {us : List Value} {ds : List PyData} {cs : List Addr}, ReadsAll s.heap us ds cs → (∀ d ∈ ds, d.depth = 0) → cs = [] := by
          intro us
          induction us with
          | nil => intro ds cs q _; cases q; rfl
          | cons u us ih =>
            intro ds cs q z
            cases q with
            | cons q1 q2 =>
              have z1 := z _ List.mem_cons_self
              have z2 := ih q2 fun d m => z d (List.mem_cons_of_mem _ m)
              subst z2
              cases q1 with
              | list => rw [PyData.depth] at z1; omega
              | tuple => rw [PyData.depth] at z1; omega
              | dict => rw [PyData.depth] at z1; omega
              | _ => rfl
        have k1 := flatAll h4 (fun d m => by
          obtain ⟨q, hq, rfl⟩ := List.mem_map.mp m
          obtain ⟨r, hr, rfl⟩ := List.mem_map.mp hq
          obtain ⟨kk, vv⟩ := r
          cases kk <;> simp only [kD, PyData.depth])
        have k2 := flatAll h5 (fun d m => by
          obtain ⟨q, hq, rfl⟩ := List.mem_map.mp m
          obtain ⟨r, hr, rfl⟩ := List.mem_map.mp hq
          obtain ⟨kk, vv⟩ := r
          cases vv <;> simp only [vD, PyData.depth])
        subst k1 k2
        intro z
        rcases List.mem_cons.mp z with q | q
        · rw [← q] at hm
          exact Bool.noConfusion ((beq_self_eq_true sysModules).symm.trans hm)
        · exact nomatch q
    exact repr_of_reads' rd sh (fun _ => nos) hg (by omega) (fun _ _ e => e) (fun h' t tk kk => ends h' t tk kk) sz
end
end Gd
/-! xs[::k] of a list, k one of 1 and -1 and not written; t[::-1] of a tuple; t == () -/
namespace Gd
open PySem PySem.Spec PyProof.Rows L2
theorem pick_all (its : Array Value) : slicePick its none none (some 1) = its := by
  have hb : sliceBounds none none (some 1) its.size = (0, (its.size : Int), 1) := by simp [sliceBounds]
  have hr : sliceRange 0 (its.size : Int) 1 = List.range its.size := by
    unfold sliceRange
    by_cases h : (0 : Int) < its.size
    · have e : ((its.size : Int) - 0 + 1 - 1) / 1 = its.size := by rw [Int.ediv_one]; omega
      simp only [show (1 : Int) > 0 by decide, if_true, h, e, Int.toNat_natCast]
      refine (List.map_congr_left (g := id) fun k _ => ?_).trans (List.map_id _)
      show (0 + 1 * (k : Int)).toNat = k
      omega
    · have e : its.size = 0 := by omega
      rw [e]
      simp
  unfold slicePick
  rw [hb]
  dsimp only
  rw [hr, PySem.W.krv_all]
section
variable {X : Cx}
/-- what xs[::k] asks -/
def tStep (K : PySem.W.Frag) (te ts : TE) : TE := fun σ H Q => te σ H fun x H1 => ts σ H1 fun y H2 => ∃ a xs k, x = .ref a ∧ SqL K H2 a xs ∧ y = .int k ∧ (k = 1 ∨ k = -1) ∧ ∀ zs p, (zs = xs ∨ zs = xs.reverse) → H2 p = none → Q (.ref p) (upd H2 p (.lst zs))
theorem pe_step {e st : Expr} {te ts : TE} {p3 pos : Pos} (he : PE X e te) (hst : PE X st ts)
    (hops : ∀ o i : Value, subscripted (.Slice none none (some st) p3) false o i = operate [o, i] (getItem o i) := by intro _ _; rfl) :
    PE X (.Subscript e (.Slice none none (some st) p3) pos) (tStep X.K te ts) := by
  refine ⟨fun pins s σ H Q I want => ?_⟩
  refine Subscript_ (thn (he.run pins s σ H _ I want) ?_)
  rintro v s1 ⟨x, H1, I1, r1, want1⟩
  refine wpAny_Slice (thn (po_none.run pins s1 σ H1 (fun o G => o = none ∧ G = H1) I1 ⟨rfl, rfl⟩) ?_)
  rintro vl s2 ⟨l, G2, I2, pl, rfl, rfl⟩
  refine thn (po_none.run pins s2 σ G2 (fun o G => o = none ∧ G = G2) I2 ⟨rfl, rfl⟩) ?_
  rintro vu s3 ⟨u, G3, I3, pu, rfl, rfl⟩
  rw [evalPart_some]
  refine thn (hst.run pins s3 σ G3 _ I3 want1) ?_
  rintro vs s4 ⟨y, H4, I4, ry, a, xs, k, rfl, hx, rfl, hk, want2⟩
  cases r1
  have ps : IsPart vs (some k) := by
    obtain ⟨t, rfl⟩ := ry
    exact IsPart.int _ _
  have I5 : Inv X pins σ H4 { s4 with heap := s4.heap.push { cls := .type "slice", data := .fields #[vl, vu, vs] } } := I4.kept (t' := s4.toks) fun b ob z => Heap.get?_push_of_some _ z
  obtain ⟨its, r, ht, hz⟩ := I5.list hx
  have hlen := r.length
  refine tail_any (ops := [.ref a, .ref s4.heap.objs.size]) ht.isList.typeIs (PySem.slot_list_getitem.lookup) ?_ (hops _ _)
  refine wpAny_getItem_list_slice ht.isList (Heap.IsSliceOf.new _ vl vu vs) pl pu ps (by rcases hk with rfl | rfl <;> decide) ?_ (by rw [List.size_toArray]; omega)
  rcases hk with rfl | rfl
  · rw [pick_all]
    refine ⟨.ref _, _, I5.laid (t' := s4.toks) (o := .lst xs) (fun b ob z => Heap.get?_push_of_some _ z) (Nat.le_refl _) ?_, rfl, want2 _ _ (.inl rfl) (I5.hok.fresh (Nat.le_refl _))⟩
    exact ⟨hz, _, 0, r, Heap.get?_push_size _ rfl⟩
  · rw [PySem.W.krv_pick]
    refine ⟨.ref _, _, I5.laid (t' := s4.toks) (o := .lst xs.reverse) (fun b ob z => Heap.get?_push_of_some _ z) (Nat.le_refl _) ?_, rfl, want2 _ _ (.inr rfl) (I5.hok.fresh (Nat.le_refl _))⟩
    exact ⟨by rw [List.length_reverse]; exact hz, _, 0, r.reverse, Heap.get?_push_size _ rfl⟩
end
end Gd
/-! enumerate(t), t a tuple; t == (), t any tuple -/
namespace Gd
open PySem PySem.Spec PyProof.Rows L2
theorem meets_enum1 {v : Value} {o : Obj} {Hh : Heap → Prop} (B : Begins v o Hh) : Meets (Builtin.«enumerate.__new__» ⟨[.type "enumerate", v], []⟩) (fun _ R s => Hh s.heap ∧
    R (.ok (.ret (.ref (s.heap.push o).objs.size))) { s with heap := (s.heap.push o).push { cls := .type "enumerate", data := .fields #[.none, .bool false, .ref s.heap.objs.size, rawInt 0, .none, .none] } }) :=
  .of_wp fun prog w A R s z => by
    obtain ⟨hp, g, d, tk, os⟩ := s
    obtain ⟨z1, z2⟩ := z
    have hsub := sub_enumerate
    have go : ∀ {A' : Around} {E : Value → Shared → Prop} {Q : Value → Shared → Prop}, Q (.ref hp.objs.size) ⟨hp.push o, g, d, tk, os⟩ → wpAny (model prog w) A' (pyIter v) Q E ⟨hp, g, d, tk, os⟩ := by
      intro A' E Q q
      exact B.iter prog w A' E _ Q z1 q
    wp_walk using go
    refine wpAny_stack_any fun st => wpAny_pure ?_
    split
    · rename_i c _ _ _ _ _
      cases (c == Value.type "enumerate") <;> (wp_walk using go; exact ⟨_, rfl, z2⟩)
    · wp_walk using go
      exact ⟨_, rfl, z2⟩
section
variable {prog : Program} {w : World} {A : Around} {E : Value → Shared → Prop} {s : Shared}
theorem enum1_begins {v : Value} {o : Obj} {Hh : Heap → Prop} {Q : Value → Shared → Prop} (B : Begins v o Hh) (z : Hh s.heap)
    (q : ∀ h', IsEnum h' (s.heap.objs.size + 1) s.heap.objs.size 0 .none → h'.get? s.heap.objs.size = some o → (∀ b o, s.heap.get? b = some o → h'.get? b = some o) → Q (.ref (s.heap.objs.size + 1)) { s with heap := h' }) :
    wpAny (model prog w) A (call (.type "enumerate") [v]) Q E s := by
  refine callType_new F.called_enumerate (by decide) (F.typeCall_enumerate_1 _) (F.newCall_enumerate_1 _) (fun obj => F.args_object_init_2 obj _) F.entry_enumerate_new (meets_enum1 B) ⟨z, ?_⟩
  have size1 : (s.heap.push o).objs.size = s.heap.objs.size + 1 := Heap.size_push ..
  show _ ∧ _
  rw [size1]
  have isE : IsEnum ((s.heap.push o).push { cls := .type "enumerate", data := .fields #[.none, .bool false, .ref s.heap.objs.size, rawInt 0, .none, .none] }) (s.heap.objs.size + 1) s.heap.objs.size 0 .none := by
    have y := Heap.get?_push_size (s.heap.push o) (o := { cls := .type "enumerate", data := .fields #[.none, .bool false, .ref s.heap.objs.size, rawInt 0, .none, .none] }) rfl
    rw [size1] at y
    exact y
  exact ⟨⟨_, isE, rfl⟩, q _ isE (Heap.get?_push_of_some _ (Heap.get?_push_size _ B.free)) fun b o x => Heap.get?_push_of_some _ (Heap.get?_push_of_some _ x)⟩
end
/-- the tuple at a, each item in a new pair with its place -/
def ItT (K : PySem.W.Frag) (a : Addr) : It :=
  ⟨fun i H => ∃ (xs : List V) (x : V), SqT K H a xs ∧ xs[i]? = some x, fun i H v H' => ∃ T x, v = .ref T ∧ H T = none ∧ H' = upd H T (.tup [.int (i : Nat), x]) ∧ ∀ xs, SqT K H a xs → xs[i]? = some x, fun i H => ∃ xs : List V, SqT K H a xs ∧ xs.length = i⟩
theorem turn_T {P : Program} {w : World} {K : PySem.W.Frag} {elts : List Expr} {kk : Nat} {tpos : Pos} (t e it : Addr) (hti : t ≠ it) (hei : e ≠ it) (het : e ≠ t) :
    Turn P w K (.Tuple elts kk tpos) (ItT K t) [e, it] e (fun i h => (∃ old, IsEnum h e it ((i : Nat) : Int) old) ∧ h.IsTupleIter it t i) where
  mem := by simp
  obj := by
    rintro i h ⟨⟨old, he⟩, ⟨o, ho, hc, hd⟩⟩ b hb
    rcases List.mem_cons.mp hb with z | z
    · subst z
      exact ⟨_, he, fun v q => nomatch q⟩
    · have z2 := List.mem_singleton.mp z
      subst z2
      exact ⟨o, ho, fun v q => by rw [hd] at q; cases q⟩
  keep := by
    rintro i h h' ⟨⟨old, he⟩, hi⟩ k
    exact ⟨⟨old, k e (by simp) _ he⟩, hi.at fun o q => k it (by simp) o q⟩
  item := by
    rintro X rfl rfl rfl hc i pins s σ H E I hf ⟨⟨old, he⟩, hit⟩ ⟨xs, x, hq, hx⟩
    obtain ⟨its, rv, tup, hz⟩ := I.tuple hq
    obtain ⟨u, hu, ru⟩ := rv.get hx
    have hel : e < s.heap.objs.size := Heap.lt_size he
    have hil : it < s.heap.objs.size := by
      obtain ⟨_, z, _⟩ := id hit
      exact Heap.lt_size z
    have hlt : i < its.toArray.size := by
      rw [List.size_toArray]
      exact (List.getElem?_eq_some_iff.mp hu).1
    have isT : s.heap.IsTuple t its.toArray := tup
    refine wpAny_pyNext_enum_itemD (Draws.tuple (prog := X.prog) (w := X.w) (A := X.A.in1) (show X.A.in1.handled = none from I.ok.hd hc) it t hti its.toArray) he ⟨hit, isT⟩ hlt hei (by simp [hei, het]) ?_
    rintro y h' tk hy out ⟨hit', _⟩ hT hsz hk
    have ey : y = u := by
      have z : its[i]? = some y := by simpa using hy
      rw [hu] at z
      exact (Option.some.inj z).symm
    subst ey
    refine ⟨_, rfl, wpAny_letOwnedTupleGo_enum (s := { s with heap := h', toks := tk + 1 }) out ?_⟩
    intro h2 he2 sb
    have hT2 : h2.get? s.heap.objs.size = some { cls := .type "tuple", data := .seq #[.int i tk, y] } := (sb.2 _ (Nat.ne_of_gt hel)).trans hT
    have new : ObjOk X.prog X.w (upd H s.heap.objs.size (.tup [.int (i : Nat), x])) h2 s.heap.objs.size (.tup [.int (i : Nat), x]) :=
      ⟨by show 2 ≤ sizeLine; decide, [.int i tk, y], .cons ⟨_, rfl⟩ (.cons ru .nil), ⟨_, hT2, rfl, _, rfl⟩⟩
    have old2 : ∀ b ob, b ∉ [e, it] → s.heap.get? b = some ob → h2.get? b = some ob := by
      intro b ob nb z
      have n1 : b ≠ e := fun q => nb (by simp [q])
      have n2 : b ≠ it := fun q => nb (by simp [q])
      exact (sb.2 b n1).trans (hk b ob n1 n2 z)
    have I1 : Inv X pins σ (upd H s.heap.objs.size (.tup [.int (i : Nat), x])) { s with heap := h2, toks := tk + 1 } := I.turnedNew (ch := [e, it]) old2 hf (Nat.le_refl _) new
    refine ⟨.ref s.heap.objs.size, _, I1, rfl, ⟨_, x, rfl, I.hok.fresh (Nat.le_refl _), rfl, fun ys hy => ?_⟩, ⟨⟨y, ?_⟩, hit'.at fun o z => (sb.2 it (Ne.symm hei)).trans z⟩, fun b hb => ?_⟩
    · rw [I.tuple_inj hy hq]
      exact hx
    · have e1 : ((i + 1 : Nat) : Int) = (i : Int) + 1 := by omega
      rw [e1]
      exact he2
    · have lt : b < s.heap.objs.size := by
        rcases List.mem_cons.mp hb with z | z
        · rw [z]
          exact hel
        · rw [List.mem_singleton.mp z]
          exact hil
      rw [upd_ne (Nat.ne_of_lt lt)]
      exact (hf b hb).1
  done := by
    rintro X rfl rfl rfl hc i pins s σ H E I hf ⟨⟨old, he⟩, hit⟩ ⟨xs, hq, hx⟩
    obtain ⟨its, rv, tup, hz⟩ := I.tuple hq
    obtain ⟨f0, f1, f2, f3, f4, f5⟩ := hf it (by simp)
    have isT : s.heap.IsTuple t its.toArray := tup
    have hsz : its.toArray.size = i := by
      rw [List.size_toArray, ← rv.length]
      exact hx
    refine wpAny_pyNext_enum_endD (Draws.tuple (prog := X.prog) (w := X.w) (A := X.A.in1) (show X.A.in1.handled = none from I.ok.hd hc) it t hti its.toArray) he ⟨by rw [hsz]; exact hit, isT⟩ ?_
    intro h' eb
    exact ⟨rfl, I.turned (t' := s.toks) (fun b o hb z => eb b o hb z) f0 f1 f3 f4 f5⟩
  self := by
    rintro A i s Q E ⟨⟨old, he⟩, _⟩ q
    exact wpAny_pyIter_enum he q
def iEnumT (K : PySem.W.Frag) (ta : TA) : TI := fun σ H R => ta σ H fun vs H1 => ∃ a xs, vs = [.ref a] ∧ SqT K H1 a xs ∧ R (ItT K a) H1
theorem pi_enumT {X : Cx} {e : Expr} {ta : TA} {p pos tpos : Pos} {elts : List Expr} {kk : Nat} (hg : Gl X "enumerate") (hm : X.mg "enumerate" = none) (ha : PA X [e] ta) (hs : starEach [e] X.env = [(false, eval e X.env)] := by rfl) :
    PI X (.Tuple elts kk tpos) (.Call (.Name "enumerate" p) [e] [] pos) (iEnumT X.K ta) := by
  refine ⟨fun pins s σ H R I want => ?_⟩
  refine Call_ (ld_blt I hg hm boot_enumerate (PyProof.Rows.callWith_type1 (thn (ha.run pos pins s σ H _ I want) ?_) hs rfl))
  rintro us s1 ⟨vs, H1, I1, r1, t, xs, rfl, hq, want1⟩
  obtain ⟨u, rfl, ru⟩ := vals1 r1
  cases ru
  obtain ⟨its, rv, tup, hz⟩ := I1.tuple hq
  have isT : s1.heap.IsTuple t its.toArray := tup
  have tl : t < s1.heap.objs.size := by
    obtain ⟨o, z, _⟩ := id isT
    exact Heap.lt_size z
  refine enum1_begins (begins_tuple t its.toArray) isT ?_
  intro h' he hit hk
  refine wpAny_pyIter_enum he ?_
  have I2 : Inv X pins σ H1 { s1 with heap := h' } := I1.kept (t' := s1.toks) hk
  refine ⟨s1.heap.objs.size + 1, [s1.heap.objs.size + 1, s1.heap.objs.size], _, _, H1, rfl, I2, turn_T t (s1.heap.objs.size + 1) s1.heap.objs.size (Nat.ne_of_lt tl) (Nat.succ_ne_self _) (Nat.ne_of_gt (Nat.lt_succ_of_lt tl)), ⟨⟨.none, he⟩, ⟨_, hit, rfl, rfl⟩⟩, fun b hb => ?_, want1⟩
  have le : s1.heap.objs.size ≤ b := by
    rcases List.mem_cons.mp hb with z | z
    · rw [z]
      exact Nat.le_add_right _ _
    · rw [List.mem_singleton.mp z]
      exact Nat.le_refl _
  exact I1.fpOk le (I1.hok.fresh le)
section
variable {X : Cx}
/-- t == (), t any tuple -/
theorem op_eqNil (hu : X.A.units < cLine) : OpR X (compareOp .Eq) (fun x y H Q => ∃ a b xs, x = .ref a ∧ y = .ref b ∧ SqT X.K H a xs ∧ SqT X.K H b [] ∧ Q (.bl xs.isEmpty) H) := by
  intro pins s σ H x y v u Q I rx ry want
  obtain ⟨a, b, xs, rfl, rfl, ha, hb, q⟩ := want
  cases rx
  cases ry
  obtain ⟨its, rv, t1, _⟩ := I.tuple ha
  obtain ⟨its2, rv2, t2, _⟩ := I.tuple hb
  cases rv2
  have i1 : s.heap.IsTuple a its.toArray := t1
  have i2 : s.heap.IsTuple b ([] : List Value).toArray := t2
  have rc := PySem.SeqAt.RcAt.tuples (A := X.A) (e := fun _ => true) i1 i2 hu (fun j _ h2 => absurd h2 (by simp))
  refine rc X.prog X.w X.xe _ ⟨.bl xs.isEmpty, H, I, ?_, q⟩
  cases rv with
  | nil => rfl
  | cons _ _ => rfl
end
end Gd
/-! t[::-1] of a tuple -/
namespace Gd
open PySem PySem.Spec PyProof.Rows L2
section
variable {prog : Program} {w : World} {A : Around} {E : Value → Shared → Prop} {s : Shared}
theorem applied_back {sl : Addr} {vl vu : Value} {tk : Tok} {n : Nat} {Q : Int × Int × Nat → Shared → Prop} (hs : s.heap.IsSliceOf sl vl vu (.int (-1) tk)) (pl : IsPart vl none) (pu : IsPart vu none)
    (q : Q ((n : Int) - 1, -1, n) s) : wpAny (model prog w) A (Builtin.Slice.sliceApplied (.ref sl) (pure (n : Int))) Q E s := by
  obtain ⟨o, ho, hc, hd⟩ := id hs
  unfold Builtin.Slice.sliceApplied Builtin.Slice.sliceFields
  refine wpAny_bind (wpAny_bind (wpAny_field ho hd (x := vl) rfl ?_))
  refine wpAny_bind (wpAny_field ho hd (x := vu) rfl ?_)
  refine wpAny_bind (wpAny_field ho hd (x := .int (-1) tk) rfl (wpAny_pure ?_))
  refine wpAny_bind (HT.slicePart_ (IsPart.int (-1) tk) ?_)
  show wpAny _ _ (if ((-1 : Int) == 0) = true then _ else _) _ _ s
  rw [if_neg (by decide)]
  refine wpAny_bind (HT.slicePart_ pl ?_)
  refine wpAny_bind (HT.slicePart_ pu ?_)
  refine wpAny_bind (wpAny_pure ?_)
  have adj : Builtin.Slice.sliceAdjust none none (-1) (n : Int) = ((n : Int) - 1, -1) := by
    unfold Builtin.Slice.sliceAdjust
    simp
  have plc : Builtin.Slice.slicePlaces ((n : Int) - 1) (-1) (-1) = n := by
    unfold Builtin.Slice.slicePlaces
    have z1 : ¬ ((-1 : Int) > 0) := by decide
    simp only [z1, if_false, show (- -1 : Int) = 1 by decide, Int.ediv_one]
    split <;> omega
  show wpAny _ _ (match Builtin.Slice.sliceAdjust none none (-1) (n : Int) with | (lo, hi) => pure (lo, (-1 : Int), Builtin.Slice.slicePlaces lo hi (-1))) _ _ s
  rw [adj]
  show wpAny _ _ (pure ((n : Int) - 1, (-1 : Int), Builtin.Slice.slicePlaces ((n : Int) - 1) (-1) (-1))) _ _ s
  rw [plc]
  exact wpAny_pure q
theorem pick_back (xs : Array Value) : ((List.range xs.size).filterMap fun (m : Nat) => xs[(((xs.size : Nat) : Int) - 1 + (m : Int) * (-1)).toNat]?).toArray = xs.toList.reverse.toArray := by
  congr 1
  have e : (List.range xs.size).filterMap (fun (m : Nat) => xs[(((xs.size : Nat) : Int) - 1 + (m : Int) * (-1)).toNat]?) = ((List.range xs.size).map (fun k => xs.size - 1 - k)).filterMap (xs[·]?) := by
    rw [List.filterMap_map]
    congr 1
    funext m
    show xs[_]? = xs[_]?
    congr 1
    dsimp only
    omega
  rw [e, PySem.W.krv_range, List.filterMap_reverse, PySem.W.krv_all]
theorem getItem_back {t sl : Addr} {items : Array Value} {vl vu : Value} {tk : Tok} {Q : Value → Shared → Prop} (ht : IsTup s.heap t items) (hs : s.heap.IsSliceOf sl vl vu (.int (-1) tk)) (pl : IsPart vl none) (pu : IsPart vu none)
    (q : Q (.ref s.heap.objs.size) { s with heap := s.heap.push { cls := .type "tuple", data := .seq items.toList.reverse.toArray } }) (sz : items.size ≤ sizeLine) : wpAny (model prog w) A (getItem (.ref t) (.ref sl)) Q E s := by
  have fits : sizeOk (.seq items.toList.reverse.toArray) := by
    show items.toList.reverse.toArray.size ≤ sizeLine
    rw [List.size_toArray, List.length_reverse, Array.length_toList]
    exact sz
  obtain ⟨o, ho, hc, hd⟩ := id hs
  have isS : s.TypeIs (.ref sl) "slice" := ⟨o, ho, hc⟩
  unfold getItem
  try with_reducible refine wpAny_holding ?_
  first | refine wpAny_bind (wpAny_pure ?_) | skip
  refine wpAny_bind (wpAny_sequenceKey ht.typeIs (by decide) ?_)
  refine wpAny_bind (wpAny_callSpecial?_slot (name := Str.ofString "__getitem__") ht.typeIs PyProof.Rows.slot_tuple_getitem
    (wpAny_call_entry PyProof.Rows.slot_tuple_getitem ht.typeIs entry_tuple_getitem ?_ (args_tuple_getitem _ _)))
  show wpAny _ _ (Builtin.Tuple.tupleItemsOf (.ref t) >>= _) _ _ s
  refine wpAny_bind (tupleItemsOf_ ht ?_)
  refine wpAny_bind (wpAny_typeOf isS ?_)
  rw [if_pos (by decide)]
  refine wpAny_bind (applied_back hs pl pu ?_)
  have no : ¬ ((((items.size : Int) - 1 == 0) && (-1 : Int) == 1 && (items.size == items.size)) = true) := by
    intro z
    rw [Bool.and_eq_true, Bool.and_eq_true] at z
    exact absurd z.1.2 (by decide)
  show wpAny _ _ (if (((items.size : Int) - 1 == 0) && (-1 : Int) == 1 && (items.size == items.size)) = true then _ else _) _ _ s
  rw [if_neg no, pick_back]
  first
    | exact wpAny_bind (m := Builtin.Tuple.tupleExact _) (wpAny_newObj_type (wpAny_pure ⟨_, rfl, wpAny_pure q⟩) fits)
    | exact wpAny_bind (m := Builtin.Tuple.tupleExact _) (wpAny_newObj_type (wpAny_bind (wpAny_pure (wpAny_pure ⟨_, rfl, wpAny_pure q⟩))) fits)
    | exact wpAny_bind (wpAny_bind (m := Builtin.Tuple.tupleExact _) (wpAny_newObj_type (wpAny_pure (wpAny_pure ⟨_, rfl, wpAny_pure q⟩)) fits))
    | exact wpAny_bind (wpAny_bind (m := Builtin.Tuple.tupleExact _) (wpAny_newObj_type (wpAny_pure ⟨_, rfl, wpAny_pure q⟩) fits))
end
section
variable {X : Cx}
def tBack (K : PySem.W.Frag) (te : TE) : TE := fun σ H Q => te σ H fun x H1 => ∃ a xs, x = .ref a ∧ SqT K H1 a xs ∧ ∀ p, H1 p = none → Q (.ref p) (upd H1 p (.tup xs.reverse))
theorem pe_back {e : Expr} {te : TE} {k : Nat} {p1 p2 p3 pos : Pos} (he : PE X e te) : PE X (.Subscript e (.Slice none none (some (.UnaryOp .USub (.Constant (.int 1) k p1) p2)) p3) pos) (tBack X.K te) := by
  refine ⟨fun pins s σ H Q I want => ?_⟩
  refine Subscript_ (thn (he.run pins s σ H _ I want) ?_)
  rintro v s1 ⟨x, H1, I1, r1, a, xs, rfl, hx, want1⟩
  cases r1
  refine wpAny_Slice (thn (po_none.run pins s1 σ H1 (fun o G => o = none ∧ G = H1) I1 ⟨rfl, rfl⟩) ?_)
  rintro vl s2 ⟨l, G2, I2, pl, rfl, rfl⟩
  refine thn (po_none.run pins s2 σ G2 (fun o G => o = none ∧ G = G2) I2 ⟨rfl, rfl⟩) ?_
  rintro vu s3 ⟨u, G3, I3, pu, rfl, rfl⟩
  have hst : PE X (.UnaryOp .USub (.Constant (.int 1) k p1) p2) (tUn (rU fun i => .int (-i)) (tC (.int 1))) := pe_un un_neg pe_int
  rw [evalPart_some]
  refine thn (hst.run pins s3 σ G3 (fun y G => y = .int (-1) ∧ G = G3) I3 ⟨1, rfl, rfl, rfl⟩) ?_
  rintro vs s4 ⟨y, H4, I4, ry, rfl, rfl⟩
  obtain ⟨tk, rfl⟩ := ry
  have I5 : Inv X pins σ H4 { s4 with heap := s4.heap.push { cls := .type "slice", data := .fields #[vl, vu, .int (-1) tk] } } := I4.kept (t' := s4.toks) fun b ob z => Heap.get?_push_of_some _ z
  obtain ⟨its, r, ht, hz⟩ := I5.tuple hx
  have hlen := r.length
  refine tail_any (ops := [.ref a, .ref s4.heap.objs.size]) ht.typeIs (PyProof.Rows.slot_tuple_getitem.lookup) ?_ (by with_unfolding_all rfl)
  refine getItem_back ht (Heap.IsSliceOf.new _ vl vu _) pl pu ?_ (by rw [List.size_toArray]; omega)
  refine ⟨.ref _, _, I5.laid (t' := s4.toks) (o := .tup xs.reverse) (fun b ob z => Heap.get?_push_of_some _ z) (Nat.le_refl _) ?_, rfl, want1 _ (I5.hok.fresh (Nat.le_refl _))⟩
  exact ⟨by rw [List.length_reverse]; exact hz, _, r.reverse, ⟨_, Heap.get?_push_size _ rfl, rfl, _, rfl⟩⟩
end
end Gd
namespace Lw
open PySem PySem.Spec PyProof.Rows L2 Gd
def topS (i : Nat) : Stmt := PySem.Challenge.pw_leastplaces_k02_rows_judged.main.body.getD i (.Pass ⟨0, 0, 0, 0⟩)
abbrev sStream : Stmt := topS 8
abbrev sDraw : Stmt := topS 9
theorem scDraw : FnScope ["_law_stream_here", "_law_many", "_law_rest", "_law_turn", "_law_cell", "_law_mixed"] ["_law_stream_here", "_law_many"] (defScope sDraw) := ⟨rfl, rfl, rfl, by decide +kernel, rfl, by decide +kernel, by decide +kernel⟩

/-! ### the stream -/
/-- what the draws may change -/
abbrev Av (s a : Addr) : Addr → Prop := fun x => x = s ∨ x = a
structure Sm (H : Hp) (s a b : Addr) (n : Nat) : Prop where
  ex : ∃ (t : Int) (bigs cells : List Int), H s = some (.lst [.ref a, .ref b, .int t]) ∧ H a = some (.lst (bigs.map V.int)) ∧ H b = some (.lst (cells.map V.int)) ∧ (∀ c ∈ bigs, 0 ≤ c) ∧ (∀ c ∈ cells, 0 ≤ c) ∧ cells ≠ [] ∧
    cells.length ≤ 64 ∧ bigs.length ≤ 63 ∧ 0 ≤ t ∧ t ≤ n
  sa : s ≠ a
  sb : s ≠ b
  ab : a ≠ b
theorem Sm.keep {H H' : Hp} {s a b : Addr} {n : Nat} (x : Sm H s a b n) (k : Same H H') : Sm H' s a b n := by
  obtain ⟨⟨t, bigs, cells, h1, h2, h3, r⟩, p1, p2, p3⟩ := x
  exact ⟨⟨t, bigs, cells, k _ _ h1, k _ _ h2, k _ _ h3, r⟩, p1, p2, p3⟩
theorem Sm.mono {H : Hp} {s a b : Addr} {n m : Nat} (x : Sm H s a b n) (k : n ≤ m) : Sm H s a b m := by
  obtain ⟨⟨t, bigs, cells, h1, h2, h3, h4, h5, h6, h7, h8, h9, h10⟩, p1, p2, p3⟩ := x
  exact ⟨⟨t, bigs, cells, h1, h2, h3, h4, h5, h6, h7, h8, h9, by omega⟩, p1, p2, p3⟩
theorem same_upd {H : Hp} {p : Addr} {o : HO} (h : H p = none) : Same H (upd H p o) := fun b x e => by
  rw [upd_ne (ne_of_none e h)]
  exact e
theorem dpAll_ints {K : PySem.W.Frag} {H : Hp} : ∀ ns : List Int, DpAll K H (ns.map V.int) (ns.map PyData.int)
  | [] => .nil
  | n :: r => .cons (.int n) (dpAll_ints r)
theorem eqv_nil (ns : List Int) : PyData.eqv (.list (ns.map PyData.int)) (.list []) = ns.isEmpty := by
  cases ns <;> simp [PyData.eqv, PyData.eqvAll]

theorem ixN_cons {x : Int} {r : List Int} : ixN ((x :: r).map V.int).length 0 = some 0 := by
  unfold ixN
  rw [if_pos (Int.le_refl 0), if_pos (by rw [List.length_map, List.length_cons]; omega)]
  rfl
def spDraw : Sp := fun vs H Q _ => ∃ (s a b : Addr) (n : Nat) (m : Int), vs = [.ref s, .int m] ∧ Sm H s a b n ∧ n < 1000000 ∧ 0 < m ∧ m ≤ 1000000000 ∧
  ∀ H' r, Kp (Av s a) H H' → Sm H' s a b (n + 1) → 0 ≤ r → r < m → Q (.int r) H'
section
variable {P : Program} {w : World} {K : PySem.W.Frag} {mg : Str → Option Value} {base : Heap}
theorem ok_draw {f : Addr} {fd : FuncData} {k : Nat} (F : Fun K "_law_draw" "_law_draw" sDraw f fd) (ml : mg "len" = none) : FnOk P w K mg base CX0 (k + 1) f fd ["_law_stream_here", "_law_many"] spDraw := by
  refine F.ok scDraw (fun vs H Q E h => ?_) (fun cdv A outer st H vs Q E hr h => ?_)
  · obtain ⟨s, a, b, n, m, rfl, _⟩ := h
    rfl
  · obtain ⟨s, a, b, n, m, rfl, sm, hn, m0, m1, q⟩ := h
    have mIx : ∀ {i : Nat}, PlainIx (.Constant (.int 0) 0 ⟨i, i, i, i⟩) := fun _ _ => rfl
    refine ⟨_, pss_cons (ps_while PassesOwn.never (pt_cmpR (op_neD hr.units) (pe_ix ix_list (pv 0) pe_int (fun _ _ => rfl)) (pe_lst pa_nil) (nomark _))
        (pss_cons (ps_set (i := 2) scDraw.nd rfl (.inl rfl) (pe_ix ix_list (pe_ix ix_list (pv 0) pe_int (fun _ _ => rfl)) pe_int (fun _ _ => rfl)))
        (pss_cons (ps_if (pt_cmpR op_gt (pv 2) pe_int (nomark _))
          (pss_cons (ps_asg (pe_op op_fdiv (pv 2) (pv 1)) (pg_sub (pe_ix ix_list (pv 0) pe_int (fun _ _ => rfl)) pe_int set_list))
            (pss_one (ps_ret (pe_op op_mod (pv 2) (pv 1))))) pss_nil)
        (pss_one (ps_expr (pe_bm PySem.F.plainAttrs_list PySem.F.slot_list_pop PySem.F.type_list_pop mt_popAt (pe_ix ix_list (pv 0) pe_int (fun _ _ => rfl)) (pa_cons pe_int pa_nil)))))))
      (pss_cons (ps_set (i := 3) scDraw.nd rfl (.inl rfl) (pe_op op_add (pe_ix ix_list (pv 0) pe_int (fun _ _ => rfl)) pe_int))
      (pss_cons (ps_asg (pv 3) (pg_sub (pv 0) pe_int set_list))
      (pss_cons (ps_set (i := 4) scDraw.nd rfl (.inl rfl) (pe_op op_mod (pe_ix ix_list (pe_ix ix_list (pv 0) pe_int (fun _ _ => rfl))
          (pe_op op_mod (pv 3) (pe_callB call_len_seq (by rfl) ml PySem.boot_len (pa_cons (pe_ix ix_list (pv 0) pe_int (fun _ _ => rfl)) pa_nil))) (fun _ _ => rfl)) pe_int))
      (pss_cons (ps_set (i := 5) scDraw.nd rfl (.inl rfl) (pe_op op_mod (pe_op op_add (pe_op op_add (pe_op op_mul (pv 4) (pe_op op_add pe_int (pe_op op_mul pe_int (pv 3)))) (pe_op op_mul (pe_op op_mul pe_int (pv 3)) (pv 3))) pe_int) pe_int))
      (pss_one (ps_ret (pe_op op_mod (pe_op op_fdiv (pe_op op_mod (pe_op op_mul (pv 5) (pv 5)) pe_int) pe_int) (pv 1)))))))), ?_⟩
    refine ⟨fun c σ H1 => Kp (Av s a) H H1 ∧ Sm H1 s a b n ∧ (∃ y2, σ = [some (.ref s), some (.int m), y2, none, none, none]) ∧ ∃ bigs : List Int, H1 a = some (.lst (bigs.map V.int)) ∧ bigs.length = c, ?_, fun c σ H1 hw => ?_⟩
    · obtain ⟨⟨t, bigs, cells, hS, hA, _⟩, _⟩ := id sm
      exact ⟨_, Kp.refl _, sm, ⟨none, rfl⟩, bigs, hA, rfl⟩
    obtain ⟨kp, ⟨⟨t, bigs, cells, hS, hA, hB, bp, cp, cn, cl, bl, t0, tn⟩, sa, sb, ab⟩, ⟨y2, rfl⟩, bigs', hA', hc⟩ := hw
    have eb : bigs' = bigs := by
      have z := hA'.symm.trans hA
      have z2 : bigs'.map V.int = bigs.map V.int := HO.lst.inj (Option.some.inj z)
      exact (List.map_inj_right (fun x y e => V.int.inj e)).mp z2
    subst eb
    -- while _law_stream_here[0] != []
    refine ⟨.ref s, rfl, s, _, 0, .ref a, rfl, rfl, .inl (.inl hS), rfl, Nat.zero_le _, fun p np => ?_⟩
    have s1 : Same H1 (upd H1 p (.lst [])) := same_upd np
    refine ⟨.list (bigs'.map PyData.int), .list [], .lst (.inl (.inl (s1 _ _ hA))) (dpAll_ints _), .lst (.inl (.inl upd_same)) .nil, PySem.W.ke_shaped_ints _, by decide +kernel, _, rfl, ?_⟩
    have k1 : Kp (Av s a) H (upd H1 p (.lst [])) := kp.trans (Kp.of_same s1)
    rw [eqv_nil]
    cases bigs' with
    | cons x r =>
      refine iteT ?_
      have x0 : 0 ≤ x := bp x List.mem_cons_self
      refine ⟨fun σ' H' => Kp (Av s a) H H' ∧ Sm H' s a b n ∧ (∃ y2, σ' = [some (.ref s), some (.int m), y2, none, none, none]) ∧ H' a = some (.lst (r.map V.int)), fun σ' H' z => ⟨r.length, by rw [← hc]; exact Nat.lt_succ_self _, z.1, z.2.1, z.2.2.1, r, z.2.2.2, rfl⟩, ?_⟩
      -- _law_rest = _law_stream_here[0][0]
      refine ⟨.ref s, rfl, s, _, 0, .ref a, rfl, rfl, .inl (.inl (s1 _ _ hS)), rfl, a, _, 0, .int x, rfl, rfl, .inl (.inl (s1 _ _ hA)), at_of (j := 0) rfl rfl, ?_⟩
      -- if _law_rest > 0
      refine ⟨.int x, rfl, x, 0, rfl, rfl, _, rfl, ite2 (fun e => ?_) (fun e => ?_)⟩
      · have e' : 0 < x := of_decide_eq_true e
        refine ⟨.int x, rfl, .int m, rfl, x, m, rfl, rfl, ⟨m0, by omega⟩, .ref s, rfl, s, _, 0, .ref a, rfl, rfl, .inl (.inl (s1 _ _ hS)), rfl, a, _, 0, 0, rfl, rfl, s1 _ _ hA, ixN_cons, ?_⟩
        refine ⟨.int x, rfl, .int m, rfl, x, m, rfl, rfl, m0, ?_⟩
        refine q _ _ (fun z o hz nz => ?_) ?_ (Int.emod_nonneg _ (by omega)) (Int.emod_lt_of_pos _ m0)
        · rw [upd_ne (fun e => nz (.inr e))]
          exact k1 z o hz nz
        · refine ⟨⟨t, (x / m) :: r, cells, ?_, ?_, ?_, ?_, cp, cn, cl, bl, t0, by omega⟩, sa, sb, ab⟩
          · rw [upd_ne sa]
            exact s1 _ _ hS
          · rw [upd_same]
            rfl
          · rw [upd_ne (Ne.symm ab)]
            exact s1 _ _ hB
          · intro c hc
            rcases List.mem_cons.mp hc with rfl | hc
            · exact Int.ediv_nonneg x0 (by omega)
            · exact bp c (List.mem_cons_of_mem _ hc)
      · -- _law_stream_here[0].pop(0)
        refine ⟨.ref s, rfl, s, _, 0, .ref a, rfl, rfl, .inl (.inl (s1 _ _ hS)), rfl, .inl ⟨rfl, _, .inl (.inl (s1 _ _ hA))⟩, a, _, 0, 0, .int x, rfl, rfl, s1 _ _ hA, by decide, by decide, (ixN_seq ixN_cons).1, rfl, ?_⟩
        refine ⟨fun z o hz nz => ?_, ⟨⟨t, r, cells, ?_, ?_, ?_, fun c hc => bp c (List.mem_cons_of_mem _ hc), cp, cn, cl, Nat.le_of_succ_le bl, t0, tn⟩, sa, sb, ab⟩, ⟨_, rfl⟩, ?_⟩
        · rw [upd_ne (fun e => nz (.inr e))]
          exact k1 z o hz nz
        · rw [upd_ne sa]
          exact s1 _ _ hS
        · rw [upd_same]
          rfl
        · rw [upd_ne (Ne.symm ab)]
          exact s1 _ _ hB
        · rw [upd_same]
          rfl
    | nil =>
      refine iteF ?_
      -- _law_turn = _law_stream_here[2] + 1
      refine ⟨.ref s, rfl, s, _, 2, .int t, rfl, rfl, .inl (.inl (s1 _ _ hS)), rfl, t, 1, rfl, rfl, ?_⟩
      -- _law_stream_here[2] = _law_turn
      refine ⟨.int (t + 1), rfl, .ref s, rfl, s, _, 2, 2, rfl, rfl, s1 _ _ hS, rfl, ?_⟩
      have gS : (upd (upd H1 p (.lst [])) s (.lst [.ref a, .ref b, .int (t + 1)])) s = some (.lst [.ref a, .ref b, .int (t + 1)]) := upd_same
      have gB : (upd (upd H1 p (.lst [])) s (.lst [.ref a, .ref b, .int (t + 1)])) b = some (.lst (cells.map V.int)) := by
        rw [upd_ne (Ne.symm sb)]
        exact s1 _ _ hB
      have gA : (upd (upd H1 p (.lst [])) s (.lst [.ref a, .ref b, .int (t + 1)])) a = some (.lst (([] : List Int).map V.int)) := by
        rw [upd_ne (Ne.symm sa)]
        exact s1 _ _ hA
      have lpos : 0 < cells.length := List.length_pos_iff.mpr cn
      have ml1 : (0 : Int) < ((cells.map V.int).length : Int) := by rw [List.length_map]; omega
      obtain ⟨j, hj, hj2⟩ : ∃ j : Nat, (t + 1) % ((cells.map V.int).length : Int) = (j : Int) ∧ j < cells.length := by
        refine ⟨((t + 1) % ((cells.map V.int).length : Int)).toNat, ?_, ?_⟩
        · rw [Int.toNat_of_nonneg (Int.emod_nonneg _ (by omega))]
        · have z := Int.emod_lt_of_pos (t + 1) ml1
          rw [List.length_map] at z ⊢
          have z0 : 0 ≤ (t + 1) % (cells.length : Int) := Int.emod_nonneg _ (by omega)
          omega
      have gj : (cells.map V.int)[j]? = some (.int cells[j]) := by
        rw [List.getElem?_map, List.getElem?_eq_getElem hj2]
        rfl
      -- _law_cell
      refine ⟨.ref s, rfl, s, _, 1, .ref b, rfl, rfl, .inl (.inl gS), rfl, .int (t + 1), rfl, .ref s, rfl, s, _, 1, .ref b, rfl, rfl, .inl (.inl gS), rfl, b, _, rfl, .inl (.inl (.inl gB)), t + 1, _, rfl, rfl, ml1,
        b, _, _, .int cells[j], rfl, rfl, .inl (.inl gB), at_of hj gj, cells[j], 2147483587, rfl, rfl, by show (0 : Int) < 2147483587; decide, ?_⟩
      have c0 : 0 ≤ cells[j] % 2147483587 := Int.emod_nonneg _ (by decide)
      have c1 : cells[j] % 2147483587 < 2147483587 := Int.emod_lt_of_pos _ (by decide)
      -- _law_mixed
      refine ⟨_, rfl, _, rfl, 48271, t + 1, rfl, rfl, .inl ⟨by decide, by decide⟩, 40692, _, rfl, rfl, _, _, rfl, rfl, .inl ⟨by omega, by omega⟩, _, rfl, 69621, t + 1, rfl, rfl, .inl ⟨by decide, by decide⟩, _, rfl, _, t + 1, rfl, rfl, .inr ⟨by omega, by omega⟩, _, _, rfl, rfl, _, 23, rfl, rfl, _, 2147483647, rfl, rfl, by show (0 : Int) < 2147483647; decide, ?_⟩
      refine ⟨_, rfl, _, rfl, _, _, rfl, rfl, .inl ⟨?_, ?_⟩, _, 2147483629, rfl, rfl, by show (0 : Int) < 2147483629; decide, _, 16, rfl, rfl, ⟨by decide, by decide⟩, .int m, rfl, _, m, rfl, rfl, m0, ?_⟩
      · exact Int.lt_of_lt_of_le (by decide) (Int.emod_nonneg _ (by decide))
      · exact Int.lt_trans (Int.emod_lt_of_pos _ (by decide)) (by decide)
      · refine q _ _ (fun z o hz nz => ?_) ?_ (Int.emod_nonneg _ (by omega)) (Int.emod_lt_of_pos _ m0)
        · show (upd (upd H1 p (.lst [])) s (.lst [.ref a, .ref b, .int (t + 1)])) z = some o
          rw [upd_ne (fun e => nz (.inl e))]
          exact k1 z o hz nz
        · exact ⟨⟨t + 1, [], cells, gS, gA, gB, bp, cp, cn, cl, bl, by omega, by omega⟩, sa, sb, ab⟩
end
end Lw
namespace Lw
open PySem PySem.Spec PyProof.Rows L2 Gd
theorem scStream : FnScope ["_law_script", "_law_cells", "_law_cell"] ["_law_script"] (defScope sStream) := ⟨rfl, rfl, rfl, by decide +kernel, rfl, by decide +kernel, by decide +kernel⟩
def absI (i : Int) : Int := if i < 0 then -i else i
theorem absI_nn (i : Int) : 0 ≤ absI i := by unfold absI; split <;> omega
theorem getm {α : Type} {ns : List Int} {f : Int → α} {i : Nat} {x : α} (h : (ns.map f)[i]? = some x) : ∃ n, ns[i]? = some n ∧ x = f n := by
  rw [List.getElem?_map] at h
  cases e : ns[i]? with
  | none => rw [e] at h; cases h
  | some n => rw [e] at h; exact ⟨n, rfl, (Option.some.inj h).symm⟩
theorem small_of {n : Nat} (h : n ≤ 100000) : n < sizeLine := Nat.lt_of_le_of_lt h (by decide)
def spStream (K : PySem.W.Frag) : Sp := fun vs H Q _ => ∃ (sc : Addr) (ns : List Int), vs = [.ref sc] ∧ SqL K H sc (ns.map V.int) ∧ ns.length ≤ 63 ∧
  ∀ H' s a b, Same H H' → H s = none → H a = none → H b = none → Sm H' s a b 0 → Q (.ref s) H'
section
variable {P : Program} {w : World} {K : PySem.W.Frag} {mg : Str → Option Value} {base : Heap}
theorem ok_stream {f : Addr} {fd : FuncData} {k : Nat} (F : Fun K "_law_stream" "_law_stream" sStream f fd) (ml : mg "len" = none) (ma : mg "abs" = none) : FnOk P w K mg base CX0 (k + 1) f fd ["_law_script"] (spStream K) := by
  refine F.ok scStream (fun vs H Q E h => ?_) (fun cdv A outer st H vs Q E hr h => ?_)
  · obtain ⟨s, ns, rfl, _⟩ := h
    rfl
  · obtain ⟨sc, ns, rfl, hS, hl, q⟩ := h
    refine ⟨_, pss_cons (ps_setLc (i := 1) (own := [("_law_cell", 2)]) (g := gName 2) (tt := tYes) rfl scStream.nd rfl rfl (sw_true rfl rfl rfl (by decide +kernel)) (pi_list (pv 0))
        (blkOk_by (N := ["_law_script", "_law_cells", "_law_cell"]) (sc := defScope sStream) (by decide +kernel)) (fun _ _ _ _ _ => pg_name (i := 2) scStream.nd rfl (Or.inl rfl)) (fun _ _ _ _ _ => pts_nil)
        (fun _ _ _ _ _ => pe_callB call_abs (by rfl) ma (by decide +kernel) (pa_cons (pv 2) pa_nil)))
      (pss_one (ps_ret (pe_lst (pa_cons (pe_lc (own := [("_law_cell", 2)]) (g := gName 2) (by rfl) scStream.nd (pi_list (pv 1)) (blkOk_by (N := ["_law_script", "_law_cells", "_law_cell"]) (sc := defScope sStream) (by decide +kernel))
          (fun _ _ _ _ _ => pg_name (i := 2) scStream.nd rfl (Or.inl rfl)) (fun _ _ _ _ _ => pts_one (pt_cmpR op_ge (pv 2) (pe_op op_pow pe_int pe_int) (nomark _))) (fun _ _ _ _ _ => pv 2))
        (pa_cons (pe_op op_cat (pv 1) (pe_lst (pa_cons (pe_op op_add (pe_callB call_len_seq (by rfl) ml PySem.boot_len (pa_cons (pv 1) pa_nil)) pe_int) pa_nil))) (pa_cons pe_int pa_nil)))))), ?_⟩
    -- _law_cells
    refine ⟨.ref sc, rfl, sc, rfl, ⟨_, hS⟩, fun D nD => lc_list (xs := ns.map V.int) (fun i H1 => Same H H1 ∧ H1 D = some (.lst ((ns.take i).map fun n => V.int (absI n)))) ⟨same_upd nD, upd_same⟩ (fun i H1 _ p => p.1.seq hS) (fun i x H1 hx p => ?_) (fun H1 p => ?_)⟩
    · obtain ⟨n, hn, rfl⟩ := getm hx
      obtain ⟨sm, hD⟩ := p
      refine ⟨rfl, .int n, rfl, n, rfl, _, hD, ?_, fun b o e => ?_, ?_⟩
      · rw [List.length_map, List.length_take]
        exact small_of (by omega)
      · rw [upd_ne (ne_of_none e nD)]
        exact sm _ _ e
      · rw [upd_same, List.take_add_one, hn, List.map_append]
        rfl
    · obtain ⟨sm1, hD1⟩ := p
      rw [List.length_map, List.take_length] at hD1
      have hD1' : H1 D = some (.lst ((ns.map absI).map V.int)) := by
        rw [hD1, List.map_map]
        rfl
      -- the large cells
      refine ⟨.ref D, rfl, D, rfl, ⟨_, .inl (.inl hD1')⟩, fun A1 nA => lc_list (xs := (ns.map absI).map V.int) (fun i H2 => Same H1 H2 ∧ ∃ bs : List Int, H2 A1 = some (.lst (bs.map V.int)) ∧ bs.length ≤ i ∧ ∀ c ∈ bs, 0 ≤ c) ⟨same_upd nA, [], upd_same, Nat.le_refl _, fun _ z => nomatch z⟩ (fun i H2 _ p => .inl (.inl (p.1 _ _ hD1'))) (fun i x H2 hx p => ?_) (fun H2 p => ?_)⟩
      · obtain ⟨m, hm, rfl⟩ := getm hx
        obtain ⟨n, hn, rfl⟩ := getm hm
        obtain ⟨sm2, bs, hA, lb, pb⟩ := p
        refine ⟨rfl, .int (absI n), rfl, 10, 18, rfl, rfl, ⟨by decide, by decide, by decide⟩, absI n, _, rfl, rfl, _, rfl, ite2 (fun e => ?_) (fun e => ?_)⟩
        · have hi : i < ns.length := (List.getElem?_eq_some_iff.mp hn).1
          refine ⟨.int (absI n), rfl, _, hA, by rw [List.length_map]; exact small_of (by omega), fun b o e => ?_, bs ++ [absI n], ?_, ?_, fun c hc => ?_⟩
          · rw [upd_ne (ne_of_none e nA)]
            exact sm2 _ _ e
          · rw [upd_same, List.map_append]
            rfl
          · rw [List.length_append]
            exact Nat.add_le_add_right lb 1
          · rcases List.mem_append.mp hc with hc | hc
            · exact pb c hc
            · rw [List.mem_singleton.mp hc]
              exact absI_nn n
        · exact ⟨sm2, bs, hA, by omega, pb⟩
      · obtain ⟨sm2, bs, hA, lb, pb⟩ := p
        have lb' : bs.length ≤ 63 := by
          rw [List.length_map, List.length_map] at lb
          omega
        have hD2 := sm2 _ _ hD1'
        -- _law_cells + [len(_law_cells) + 19]
        refine ⟨.ref D, rfl, .ref D, rfl, D, _, rfl, .inl (.inl (.inl hD2)), _, 19, rfl, rfl, by show 1 ≤ sizeLine; decide, fun p1 n1 => ?_⟩
        have s3 := same_upd (o := .lst [.int (((ns.map absI).map V.int).length + 19)]) n1
        refine ⟨D, p1, _, _, rfl, rfl, s3 _ _ hD2, upd_same, ?_, fun B nB => ?_⟩
        · rw [List.length_map, List.length_map]
          exact Nat.le_of_lt (small_of (by show ns.length + 1 ≤ 100000; omega))
        · have s4 := same_upd (o := .lst ((ns.map absI).map V.int ++ [.int (((ns.map absI).map V.int).length + 19)])) nB
          refine ⟨by show 3 ≤ sizeLine; decide, fun s nS => ?_⟩
          have s5 := same_upd (o := .lst [.ref A1, .ref B, .int 0]) nS
          have all := sm1.trans (sm2.trans (s3.trans (s4.trans s5)))
          have g3 := s3 _ _ hA
          have g4 := s4 _ _ g3
          have gB : (upd (upd (upd H2 p1 (.lst [.int (((ns.map absI).map V.int).length + 19)])) B (.lst ((ns.map absI).map V.int ++ [.int (((ns.map absI).map V.int).length + 19)]))) s (.lst [.ref A1, .ref B, .int 0])) B = _ := s5 _ _ upd_same
          refine q _ s A1 B all ((sm1.trans (sm2.trans (s3.trans s4))).free nS) (sm1.free nA) ((sm1.trans (sm2.trans s3)).free nB) ⟨⟨0, bs, ns.map absI ++ [((ns.length : Int) + 19)], upd_same, s5 _ _ g4, ?_, pb, fun c hc => ?_, by simp, ?_, lb', Int.le_refl _, Int.le_refl _⟩, ?_, ?_, ?_⟩
          · rw [gB, List.map_append, List.length_map, List.length_map]
            rfl
          · rcases List.mem_append.mp hc with hc | hc
            · obtain ⟨n, _, rfl⟩ := List.mem_map.mp hc
              exact absI_nn n
            · rw [List.mem_singleton.mp hc]
              omega
          · rw [List.length_append, List.length_map]
            show ns.length + 1 ≤ 64
            omega
          · exact fun e => (ne_of_none g4 nS) e.symm
          · exact fun e => (ne_of_none (H := upd (upd H2 p1 _) B _) upd_same nS) e.symm
          · exact ne_of_none g3 nB
end
end Lw
namespace Lw
open PySem PySem.Spec PyProof.Rows L2 Gd
abbrev sOdd : Stmt := topS 11
theorem scOdd : FnScope ["_law_stream_here", "_law_some"] ["_law_stream_here"] (defScope sOdd) := ⟨rfl, rfl, rfl, by decide +kernel, rfl, by decide +kernel, by decide +kernel⟩
/-- a small piece of data -/
structure Small (k : Nat) (d : PyData) : Prop where
  sh : d.showable = true
  lv : d.leavesShort 100 = true
  wt : d.weight ≤ k
  dp : d.depth ≤ 1
def It (av : Addr → Prop) (H : Hp) (v : V) : Prop := ∃ d, Dv av H v d ∧ Small 200 d
theorem It.keep {av : Addr → Prop} {H H' : Hp} {v : V} (x : It av H v) (k : Kp av H H') : It av H' v := by
  obtain ⟨d, h, s⟩ := x
  exact ⟨d, h.keep k, s⟩
theorem len_int {i : Int} (h : i.natAbs < 10 ^ 30) : (Str.ofString (toString i)).length ≤ 100 := by
  have e := int_text_length_le10 (k := 30) (by decide) h
  rw [PySem.ofString_length]
  omega
theorem It.int {av : Addr → Prop} {H : Hp} {i : Int} (h : i.natAbs < 10 ^ 30) : It av H (.int i) := by
  have e : i.natAbs.log2 < 100 := by
    by_cases z : i.natAbs = 0
    · rw [z]
      decide
    · exact (Nat.log2_lt z).mpr (Nat.lt_of_lt_of_le h (by decide))
  refine ⟨.int i, .int i, ?_, ?_, ?_, ?_⟩
  · rw [PyData.showable]
    exact decide_eq_true (by omega)
  · rw [PyData.leavesShort]
    refine decide_eq_true ?_
    rw [PyData.shown_int]
    exact len_int h
  · rw [PyData.weight]
    split <;> omega
  · rw [PyData.depth]
    omega
def oddAll (p1 p2 p3 p4 p5 p6 p7 p8 p9 p10 : Addr) : List V := [.non, .bl true, .bl false, .int (-1), .int 0, .int 1, .int 2, .int 11, .int 12, .int 13, .int (10 ^ (29 : Int).toNat), .str "", .str "0", .ref p1, .ref p2, .ref p3, .ref p4, .ref p5, .ref p6, .ref p7] ++ [.ref p8, .ref p9, .str "a", .ref p10]
theorem paired_ix {α β : Type} {R : α → β → Prop} {xs : List α} {ds : List β} (h : Paired R xs ds) : ∀ (i : Nat) (x : α) (d : β), xs[i]? = some x → ds[i]? = some d → R x d := by
  induction h with
  | nil => intro i x d h1 h2; simp at h1
  | cons r _ ih =>
    intro i x d h1 h2
    cases i with
    | zero =>
      cases h1
      cases h2
      exact r
    | succ i => exact ih i x d h1 h2
theorem It.tup {av : Addr → Prop} {H : Hp} {p : Addr} {xs : List V} {ds : List PyData} (e : H p = some (.tup xs)) (n : ¬ av p) (h : Paired (Dv av H) xs ds) (s : Small 200 (.tuple ds)) : It av H (.ref p) :=
  ⟨_, .tup e n (Paired.length h) (paired_ix h), s⟩
theorem It.lst {av : Addr → Prop} {H : Hp} {p : Addr} {xs : List V} {ds : List PyData} (e : H p = some (.lst xs)) (n : ¬ av p) (h : Paired (Dv av H) xs ds) (s : Small 200 (.list ds)) : It av H (.ref p) :=
  ⟨_, .lst e n (Paired.length h) (paired_ix h), s⟩
def spOdd : Sp := fun vs H Q _ => ∃ (s a b : Addr) (n : Nat), vs = [.ref s] ∧ Sm H s a b n ∧ n < 1000000 ∧
  ∀ H' v, Kp (Av s a) H H' → Sm H' s a b (n + 1) → It (Av s a) H' v → Q v H'
section
variable {P : Program} {w : World} {K : PySem.W.Frag} {mg : Str → Option Value} {base : Heap}
theorem ok_odd {f fD : Addr} {fd fdD : FuncData} {k : Nat} (F : Fun K "_law_odd" "_law_odd" sOdd f fd) (GD : FnOk P w K mg base CX0 k fD fdD ["_law_stream_here", "_law_many"] spDraw) (FD : Fun K "_law_draw" "_law_draw" sDraw fD fdD)
    (bD : Binds K fdD ["_law_stream_here", "_law_many"] []) (gD : mg "_law_draw" = some (.ref fD)) : FnOk P w K mg base CX0 (k + 1) f fd ["_law_stream_here"] spOdd := by
  refine F.ok scOdd (fun vs H Q E h => ?_) (fun cdv A outer st H vs Q E hr h => ?_)
  · obtain ⟨s, a, b, n, rfl, _⟩ := h
    rfl
  · obtain ⟨s, a, b, n, rfl, sm, hn, q⟩ := h
    refine ⟨_, pss_cons (ps_set (i := 1) scOdd.nd rfl (.inl rfl) (pe_lst
        (pa_cons pe_non (pa_cons pe_bl (pa_cons pe_bl (pa_cons (pe_un un_neg pe_int) (pa_cons pe_int (pa_cons pe_int (pa_cons pe_int (pa_cons pe_int (pa_cons pe_int (pa_cons pe_int (pa_cons (pe_op op_pow pe_int pe_int)
        (pa_cons pe_str (pa_cons pe_str (pa_cons (pe_tup pa_nil) (pa_cons (pe_lst pa_nil) (pa_cons pe_dnewK (pa_cons (pe_tup (pa_cons pe_int pa_nil)) (pa_cons (pe_lst (pa_cons pe_int pa_nil)) (pa_cons (pe_tup (pa_cons pe_bl pa_nil))
        (pa_cons (pe_tup (pa_cons pe_int (pa_cons pe_int pa_nil))) pa_nil))))))))))))))))))))))
      (pss_one (ps_ret (pe_ix ix_list (pe_op op_cat (pv 1) (pe_lst (pa_cons (pe_tup (pa_cons pe_int (pa_cons pe_int (pa_cons pe_int pa_nil)))) (pa_cons (pe_disp (pps_cons pe_str pe_int pps_nil) (by rfl) (by rfl) (fun z => by cases z) (by decide))
          (pa_cons pe_str (pa_cons (pe_tup (pa_cons pe_non pa_nil)) pa_nil))))))
        (pe_call GD hr (by rfl) gD FD.kp bD .nil pass0 (pa_cons (pv 0) (pa_cons pe_int pa_nil))) (fun _ _ => rfl)))), ?_⟩
    have hs0 : H s = some _ := sm.ex.choose_spec.choose_spec.choose_spec.1
    have one : (1 : Nat) ≤ sizeLine := by decide
    refine ⟨1, rfl, 10, 29, rfl, rfl, ⟨by decide, by decide, by decide⟩, Nat.zero_le _, fun p1 n1 => ⟨Nat.zero_le _, fun p2 n2 => fun p3 n3 => ⟨one, fun p4 n4 => ⟨one, fun p5 n5 => ⟨one, fun p6 n6 => ⟨by show 2 ≤ sizeLine; decide, fun p7 n7 => ⟨by show 20 ≤ sizeLine; decide, fun l1 m1 => ?_⟩⟩⟩⟩⟩⟩⟩
    have s1 : Same H (upd H p1 (.tup [])) := same_upd n1
    have e1 : (upd H p1 (.tup [])) p1 = some (.tup []) := upd_same
    generalize upd H p1 (.tup []) = G1 at *
    have s2 : Same G1 (upd G1 p2 (.lst [])) := same_upd n2
    have e2 : (upd G1 p2 (.lst [])) p2 = some (.lst []) := upd_same
    generalize upd G1 p2 (.lst []) = G2 at *
    have s3 : Same G2 (upd G2 p3 (.dK [])) := same_upd n3
    have e3 : (upd G2 p3 (.dK [])) p3 = some (.dK []) := upd_same
    generalize upd G2 p3 (.dK []) = G3 at *
    have s4 : Same G3 (upd G3 p4 (.tup [.int 0])) := same_upd n4
    have e4 : (upd G3 p4 (.tup [.int 0])) p4 = some (.tup [.int 0]) := upd_same
    generalize upd G3 p4 (.tup [.int 0]) = G4 at *
    have s5 : Same G4 (upd G4 p5 (.lst [.int 0])) := same_upd n5
    have e5 : (upd G4 p5 (.lst [.int 0])) p5 = some (.lst [.int 0]) := upd_same
    generalize upd G4 p5 (.lst [.int 0]) = G5 at *
    have s6 : Same G5 (upd G5 p6 (.tup [.bl true])) := same_upd n6
    have e6 : (upd G5 p6 (.tup [.bl true])) p6 = some (.tup [.bl true]) := upd_same
    generalize upd G5 p6 (.tup [.bl true]) = G6 at *
    have s7 : Same G6 (upd G6 p7 (.tup [.int 0, .int 1])) := same_upd n7
    have e7 : (upd G6 p7 (.tup [.int 0, .int 1])) p7 = some (.tup [.int 0, .int 1]) := upd_same
    generalize upd G6 p7 (.tup [.int 0, .int 1]) = G7 at *
    have s8 : Same G7 (upd G7 l1 (.lst [.non, .bl true, .bl false, .int (-1), .int 0, .int 1, .int 2, .int 11, .int 12, .int 13, .int (10 ^ (29 : Int).toNat), .str "", .str "0", .ref p1, .ref p2, .ref p3, .ref p4, .ref p5, .ref p6, .ref p7])) := same_upd m1
    have e8 : (upd G7 l1 (.lst [.non, .bl true, .bl false, .int (-1), .int 0, .int 1, .int 2, .int 11, .int 12, .int 13, .int (10 ^ (29 : Int).toNat), .str "", .str "0", .ref p1, .ref p2, .ref p3, .ref p4, .ref p5, .ref p6, .ref p7])) l1 = some (.lst [.non, .bl true, .bl false, .int (-1), .int 0, .int 1, .int 2, .int 11, .int 12, .int 13, .int (10 ^ (29 : Int).toNat), .str "", .str "0", .ref p1, .ref p2, .ref p3, .ref p4, .ref p5, .ref p6, .ref p7]) := upd_same
    refine ⟨.ref l1, rfl, ?_⟩
    show tLst _ _ (upd G7 l1 (.lst [.non, .bl true, .bl false, .int (-1), .int 0, .int 1, .int 2, .int 11, .int 12, .int 13, .int (10 ^ (29 : Int).toNat), .str "", .str "0", .ref p1, .ref p2, .ref p3, .ref p4, .ref p5, .ref p6, .ref p7])) _
    generalize upd G7 l1 (.lst [.non, .bl true, .bl false, .int (-1), .int 0, .int 1, .int 2, .int 11, .int 12, .int 13, .int (10 ^ (29 : Int).toNat), .str "", .str "0", .ref p1, .ref p2, .ref p3, .ref p4, .ref p5, .ref p6, .ref p7]) = G8 at *
    refine ⟨by show 3 ≤ sizeLine; decide, fun p8 n8 => fun p9 n9 => ?_⟩
    have s9 : Same G8 (upd G8 p8 (.tup [.int 0, .int 0, .int 0])) := same_upd n8
    have e9 : (upd G8 p8 (.tup [.int 0, .int 0, .int 0])) p8 = some (.tup [.int 0, .int 0, .int 0]) := upd_same
    generalize upd G8 p8 (.tup [.int 0, .int 0, .int 0]) = G9 at *
    refine ⟨upd_same, [(Sum.inr "a", .int 1)], rfl, by decide, one, fun p10 n10 => ⟨by show 4 ≤ sizeLine; decide, fun l2 m2 => ?_⟩⟩
    have ec : upd (upd G9 p9 (.dK [])) p9 (.dK (mergeK [] [(Sum.inr "a", .int 1)])) = upd G9 p9 (.dK [(Sum.inr "a", .int 1)]) := by
      rw [upd_upd]
      rfl
    rw [ec] at n10 m2
    rw [ec]
    have s10 : Same G9 (upd G9 p9 (.dK [(Sum.inr "a", .int 1)])) := same_upd n9
    have e10 : (upd G9 p9 (.dK [(Sum.inr "a", .int 1)])) p9 = some (.dK [(Sum.inr "a", .int 1)]) := upd_same
    generalize upd G9 p9 (.dK [(Sum.inr "a", .int 1)]) = G10 at *
    have s11 : Same G10 (upd G10 p10 (.tup [.non])) := same_upd n10
    have e11 : (upd G10 p10 (.tup [.non])) p10 = some (.tup [.non]) := upd_same
    generalize upd G10 p10 (.tup [.non]) = G11 at *
    have s12 : Same G11 (upd G11 l2 (.lst [.ref p8, .ref p9, .str "a", .ref p10])) := same_upd m2
    have e12 : (upd G11 l2 (.lst [.ref p8, .ref p9, .str "a", .ref p10])) l2 = some (.lst [.ref p8, .ref p9, .str "a", .ref p10]) := upd_same
    generalize upd G11 l2 (.lst [.ref p8, .ref p9, .str "a", .ref p10]) = G12 at *
    have t11 := s12
    have t10 := s11.trans t11
    have t9 := s10.trans t10
    have t8 := s9.trans t9
    have t7 := s8.trans t8
    have t6 := s7.trans t7
    have t5 := s6.trans t6
    have t4 := s5.trans t5
    have t3 := s4.trans t4
    have t2 := s3.trans t3
    have t1 := s2.trans t2
    have t0 := s1.trans t1
    refine ⟨l1, l2, _, _, rfl, rfl, t8 _ _ e8, e12, by show 24 ≤ sizeLine; decide, fun l3 m3 => ?_⟩
    have s13 := same_upd (o := .lst (oddAll p1 p2 p3 p4 p5 p6 p7 p8 p9 p10)) m3
    have av : ∀ {p : Addr}, H p = none → ¬ Av s a p := fun {p} z y => by
      obtain ⟨⟨_, _, _, z1, z2, _⟩, _⟩ := id sm
      rcases y with y | y
      · rw [y, z1] at z
        cases z
      · rw [y, z2] at z
        cases z
    refine ⟨.ref s, rfl, s, a, b, n, 24, rfl, (sm.keep t0).keep s13, hn, by decide, by decide, fun H' r kp sm2 r0 r1 => ?_⟩
    have kall : Kp (Av s a) G12 H' := (Kp.of_same s13).trans kp
    have hl3 : H' l3 = some (.lst (oddAll p1 p2 p3 p4 p5 p6 p7 p8 p9 p10)) := kp _ _ upd_same (av (t0.free m3))
    obtain ⟨j, rfl⟩ : ∃ j : Nat, r = (j : Int) := ⟨r.toNat, by omega⟩
    have hj : j < 24 := by omega
    refine ⟨l3, _, _, (oddAll p1 p2 p3 p4 p5 p6 p7 p8 p9 p10).getD j .non, rfl, rfl, .inl (.inl hl3), atI_nat ?_, q H' _ ((Kp.of_same t0).trans kall) sm2 ?_⟩
    · rw [List.getD_eq_getElem?_getD, List.getElem?_eq_getElem (by show j < 24; exact hj)]
      rfl
    · have f1 := kall _ _ (t1 _ _ e1) (av n1)
      have f2 := kall _ _ (t2 _ _ e2) (av (s1.free n2))
      have f3 := kall _ _ (t3 _ _ e3) (av ((s1.trans s2).free n3))
      have f4 := kall _ _ (t4 _ _ e4) (av ((s1.trans (s2.trans s3)).free n4))
      have f5 := kall _ _ (t5 _ _ e5) (av ((s1.trans (s2.trans (s3.trans s4))).free n5))
      have f6 := kall _ _ (t6 _ _ e6) (av ((s1.trans (s2.trans (s3.trans (s4.trans s5)))).free n6))
      have f7 := kall _ _ (t7 _ _ e7) (av ((s1.trans (s2.trans (s3.trans (s4.trans (s5.trans s6))))).free n7))
      have c8 := s1.trans (s2.trans (s3.trans (s4.trans (s5.trans (s6.trans (s7.trans s8))))))
      have f8 := kall _ _ (t9 _ _ e9) (av (c8.free n8))
      have f9 := kall _ _ (t10 _ _ e10) (av ((c8.trans s9).free n9))
      have f10 := kall _ _ (t11 _ _ e11) (av ((c8.trans (s9.trans s10)).free n10))
      have all : ∀ v ∈ oddAll p1 p2 p3 p4 p5 p6 p7 p8 p9 p10, It (Av s a) H' v := by
        intro v hv
        simp only [oddAll, List.mem_append, List.mem_cons, List.not_mem_nil, or_false] at hv
        rcases hv with (rfl | rfl | rfl | rfl | rfl | rfl | rfl | rfl | rfl | rfl | rfl | rfl | rfl | rfl | rfl | rfl | rfl | rfl | rfl | rfl) | (rfl | rfl | rfl | rfl)
        · exact ⟨_, .non, ⟨rfl, rfl, by decide, by decide⟩⟩
        · exact ⟨_, .bl _, ⟨rfl, rfl, by decide, by decide⟩⟩
        · exact ⟨_, .bl _, ⟨rfl, rfl, by decide, by decide⟩⟩
        · exact It.int (by decide)
        · exact It.int (by decide)
        · exact It.int (by decide)
        · exact It.int (by decide)
        · exact It.int (by decide)
        · exact It.int (by decide)
        · exact It.int (by decide)
        · exact It.int (by decide)
        · exact ⟨_, .str _, ⟨rfl, by decide +kernel, by decide +kernel, by decide⟩⟩
        · exact ⟨_, .str _, ⟨rfl, by decide +kernel, by decide +kernel, by decide⟩⟩
        · exact It.tup f1 (av n1) .nil ⟨by decide +kernel, by decide +kernel, by decide +kernel, by decide +kernel⟩
        · exact It.lst f2 (av (s1.free n2)) .nil ⟨by decide +kernel, by decide +kernel, by decide +kernel, by decide +kernel⟩
        · exact ⟨_, .dct f3 (av ((s1.trans s2).free n3)) (fun _ z => nomatch z), ⟨by decide +kernel, by decide +kernel, by decide +kernel, by decide +kernel⟩⟩
        · exact It.tup f4 (av ((s1.trans (s2.trans s3)).free n4)) (.cons (.int 0) .nil) ⟨by decide +kernel, by decide +kernel, by decide +kernel, by decide +kernel⟩
        · exact It.lst f5 (av ((s1.trans (s2.trans (s3.trans s4))).free n5)) (.cons (.int 0) .nil) ⟨by decide +kernel, by decide +kernel, by decide +kernel, by decide +kernel⟩
        · exact It.tup f6 (av ((s1.trans (s2.trans (s3.trans (s4.trans s5)))).free n6)) (.cons (.bl true) .nil) ⟨by decide +kernel, by decide +kernel, by decide +kernel, by decide +kernel⟩
        · exact It.tup f7 (av ((s1.trans (s2.trans (s3.trans (s4.trans (s5.trans s6))))).free n7)) (.cons (.int 0) (.cons (.int 1) .nil)) ⟨by decide +kernel, by decide +kernel, by decide +kernel, by decide +kernel⟩
        · exact It.tup f8 (av (c8.free n8)) (.cons (.int 0) (.cons (.int 0) (.cons (.int 0) .nil))) ⟨by decide +kernel, by decide +kernel, by decide +kernel, by decide +kernel⟩
        · exact ⟨_, .dct f9 (av ((c8.trans s9).free n9)) (fun p z => by rw [List.mem_singleton.mp z]; rfl), ⟨by decide +kernel, by decide +kernel, by decide +kernel, by decide +kernel⟩⟩
        · exact ⟨_, .str _, ⟨rfl, by decide +kernel, by decide +kernel, by decide⟩⟩
        · exact It.tup f10 (av ((c8.trans (s9.trans s10)).free n10)) (.cons .non .nil) ⟨by decide +kernel, by decide +kernel, by decide +kernel, by decide +kernel⟩
      refine all _ ?_
      rw [List.getD_eq_getElem?_getD, List.getElem?_eq_getElem (by show j < 24; exact hj)]
      exact List.getElem_mem _
end
end Lw
namespace Lw
open PySem PySem.Spec PyProof.Rows L2 Gd
abbrev sRow : Stmt := topS 12
abbrev rowN : List Str := ["_law_stream_here", "_law_most", "_law_size", "_law_way", "_law_width", "_law_entries", "_law_place", "_law_k", "_law_entry"]
theorem scRow : FnScope rowN ["_law_stream_here", "_law_most"] (defScope sRow) := ⟨rfl, rfl, rfl, by decide +kernel, rfl, by decide +kernel, by decide +kernel⟩
def spRow : Sp := fun vs H Q _ => ∃ (s a b : Addr) (n : Nat) (m : Int), vs = [.ref s, .int m] ∧ Sm H s a b n ∧ n < 900000 ∧ 1 ≤ m ∧ m ≤ 12 ∧
  ∀ H' p (ns : List Int), Kp (Av s a) H H' → Sm H' s a b (n + 50) → H' p = some (.tup (ns.map V.int)) → 1 ≤ ns.length → (ns.length : Int) ≤ m → (∀ x ∈ ns, -1000000000 ≤ x ∧ x ≤ 1000000000) → Q (.ref p) H'
theorem Sm.nav {H : Hp} {s a b p : Addr} {n : Nat} (x : Sm H s a b n) (z : H p = none) : ¬ Av s a p := fun y => by
  obtain ⟨⟨_, _, _, z1, z2, _⟩, _⟩ := id x
  rcases y with y | y
  · rw [y, z1] at z
    cases z
  · rw [y, z2] at z
    cases z
/-- a new list of drawn entries, so far -/
def PvE (s a b : Addr) (H0 : Hp) (D : Addr) (n0 i : Nat) (H1 : Hp) : Prop := Kp (Av s a) H0 H1 ∧ Sm H1 s a b (n0 + i) ∧ ∃ es : List Int, H1 D = some (.lst (es.map V.int)) ∧ es.length = i ∧ ∀ x ∈ es, -1000000000 ≤ x ∧ x ≤ 1000000000
theorem sm_upd {H : Hp} {s a b D : Addr} {n : Nat} {o : HO} (sm : Sm H s a b n) (h1 : D ≠ s) (h2 : D ≠ a) (h3 : D ≠ b) : Sm (upd H D o) s a b n := by
  obtain ⟨⟨t, bigs, cells, z1, z2, z3, r⟩, p1, p2, p3⟩ := sm
  exact ⟨⟨t, bigs, cells, by rw [upd_ne (Ne.symm h1)]; exact z1, by rw [upd_ne (Ne.symm h2)]; exact z2, by rw [upd_ne (Ne.symm h3)]; exact z3, r⟩, p1, p2, p3⟩
theorem Sm.off {H : Hp} {s a b p : Addr} {n : Nat} (x : Sm H s a b n) (z : H p = none) : p ≠ s ∧ p ≠ a ∧ p ≠ b := by
  obtain ⟨⟨_, _, _, z1, z2, z3, _⟩, _⟩ := id x
  exact ⟨fun y => (by rw [y, z1] at z; cases z), fun y => (by rw [y, z2] at z; cases z), fun y => (by rw [y, z3] at z; cases z)⟩
theorem pv_start {s a b D : Addr} {H1 : Hp} {n0 : Nat} (nD : H1 D = none) (sm : Sm H1 s a b n0) : PvE s a b H1 D n0 0 (upd H1 D (.lst [])) :=
  ⟨Kp.of_same (same_upd nD), sm.keep (same_upd nD), [], upd_same, rfl, fun _ z => nomatch z⟩
theorem pv_step {s a b D : Addr} {H1 H2 H' : Hp} {n0 i : Nat} {r : Int} (nD : H1 D = none) (sm : Sm H1 s a b n0) (hi : i < 1000) (p : PvE s a b H1 D n0 i H2) (kp : Kp (Av s a) H2 H') (sm' : Sm H' s a b (n0 + i + 1)) (r0 : -1000000000 ≤ r) (r1 : r ≤ 1000000000) :
    ∃ acc, H' D = some (.lst acc) ∧ acc.length < sizeLine ∧ PvE s a b H1 D n0 (i + 1) (upd H' D (.lst (acc ++ [.int r]))) := by
  obtain ⟨k2, _, es, hD, hl, hb⟩ := p
  have nav := sm.nav nD
  obtain ⟨o1, o2, o3⟩ := sm.off nD
  refine ⟨_, kp _ _ hD nav, by rw [List.length_map]; exact small_of (by omega), fun b' o z nz => ?_, sm_upd sm' o1 o2 o3, es ++ [r], ?_, ?_, fun x hx => ?_⟩
  · rw [upd_ne (ne_of_none z nD)]
    exact kp _ _ (k2 _ _ z nz) nz
  · rw [upd_same, List.map_append]
    rfl
  · rw [List.length_append, hl]
    rfl
  · rcases List.mem_append.mp hx with hx | hx
    · exact hb x hx
    · rw [List.mem_singleton.mp hx]
      exact ⟨r0, r1⟩
theorem wipe_back {σ : L2.St} {v : Nat} {x : Option V} : wipe ((wipe σ [v]).set v x) [v] = wipe σ [v] := by
  show ((σ.set v none).set v x).set v none = σ.set v none
  rw [List.set_set, List.set_set]
theorem lc_rows {s a b D : Addr} {n0 N v : Nat} {σ : L2.St} {H1 : Hp} {te : TE} {Qd : Hp → Prop} (nD : H1 D = none) (sm : Sm H1 s a b n0) (hN : N ≤ 1000)
    (he : ∀ (i : Nat) (H2 : Hp) (Q' : VK), i < N → Kp (Av s a) H1 H2 → Sm H2 s a b (n0 + i) → (∀ H' r, Kp (Av s a) H2 H' → Sm H' s a b (n0 + i + 1) → -1000000000 ≤ r → r ≤ 1000000000 → Q' (.int r) H') → te ((wipe σ [v]).set v (some (.int (0 + i)))) H2 Q')
    (hd : ∀ H3 (es : List Int), Kp (Av s a) H1 H3 → Sm H3 s a b (n0 + N) → H3 D = some (.lst (es.map V.int)) → es.length = N → (∀ x ∈ es, -1000000000 ≤ x ∧ x ≤ 1000000000) → Qd H3) :
    ∃ W : Nat → Nat → Hp → Prop, (∃ m, W 0 m (upd H1 D (.lst []))) ∧ ∀ i m H, W i m H →
      ((Itr 0 N).stop i H ∧ Qd H) ∨ ((Itr 0 N).go i H ∧ ∃ Nx : Hp → Prop, (∀ H', Nx H' → ∃ m', m' < m ∧ W (i + 1) m' H') ∧ ∀ x H', (Itr 0 N).yld i H x H' → gName v x (wipe σ [v]) H' fun σ2 H2 => wipe σ2 [v] = wipe σ [v] ∧ tYes σ2 H2 fun b H3 =>
        if b = true then te σ2 H3 fun y H4 => ∃ acc, H4 D = some (.lst acc) ∧ acc.length < sizeLine ∧ Nx (upd H4 D (.lst (acc ++ [y]))) else Nx H3) := by
  refine lc_range (PvE s a b H1 D n0) (pv_start nD sm) (fun i H2 hi p => ⟨wipe_back, ?_⟩) (fun H3 p => ?_)
  · refine iteT (B := PvE s a b H1 D n0 (i + 1) H2) (he i H2 _ hi p.1 p.2.1 fun H' r kp sm' r0 r1 => ?_)
    exact pv_step nD sm (by omega) p kp sm' r0 r1
  · obtain ⟨k3, sm3, es, hD, hl, hb⟩ := p
    exact hd H3 es k3 sm3 hD hl hb
theorem lc_rowsL {K : PySem.W.Frag} {s a b D L : Addr} {n0 v : Nat} {σ : L2.St} {H1 : Hp} {te : TE} {Qd : Hp → Prop} {xs : List Int} (nD : H1 D = none) (sm : Sm H1 s a b n0) (hN : xs.length ≤ 1000) (hL : H1 L = some (.lst (xs.map V.int))) (nL : ¬ Av s a L)
    (he : ∀ (i : Nat) (x : Int) (H2 : Hp) (Q' : VK), xs[i]? = some x → Kp (Av s a) H1 H2 → Sm H2 s a b (n0 + i) → (∀ H' r, Kp (Av s a) H2 H' → Sm H' s a b (n0 + i + 1) → -1000000000 ≤ r → r ≤ 1000000000 → Q' (.int r) H') → te ((wipe σ [v]).set v (some (.int x))) H2 Q')
    (hd : ∀ H3 (es : List Int), Kp (Av s a) H1 H3 → Sm H3 s a b (n0 + xs.length) → H3 D = some (.lst (es.map V.int)) → es.length = xs.length → (∀ x ∈ es, -1000000000 ≤ x ∧ x ≤ 1000000000) → Qd H3) :
    ∃ W : Nat → Nat → Hp → Prop, (∃ m, W 0 m (upd H1 D (.lst []))) ∧ ∀ i m H, W i m H →
      ((Itl K L).stop i H ∧ Qd H) ∨ ((Itl K L).go i H ∧ ∃ Nx : Hp → Prop, (∀ H', Nx H' → ∃ m', m' < m ∧ W (i + 1) m' H') ∧ ∀ x H', (Itl K L).yld i H x H' → gName v x (wipe σ [v]) H' fun σ2 H2 => wipe σ2 [v] = wipe σ [v] ∧ tYes σ2 H2 fun b H3 =>
        if b = true then te σ2 H3 fun y H4 => ∃ acc, H4 D = some (.lst acc) ∧ acc.length < sizeLine ∧ Nx (upd H4 D (.lst (acc ++ [y]))) else Nx H3) := by
  refine lc_list (xs := xs.map V.int) (PvE s a b H1 D n0) (pv_start nD sm) (fun i H2 _ p => .inl (.inl (p.1 _ _ hL nL))) (fun i x H2 hx p => ⟨wipe_back, ?_⟩) (fun H3 p => ?_)
  · obtain ⟨z, hz, rfl⟩ := getm hx
    have hi : i < xs.length := (List.getElem?_eq_some_iff.mp hz).1
    refine iteT (B := PvE s a b H1 D n0 (i + 1) H2) (he i z H2 _ hz p.1 p.2.1 fun H' r kp sm' r0 r1 => ?_)
    exact pv_step nD sm (by omega) p kp sm' r0 r1
  · obtain ⟨k3, sm3, es, hD, hl, hb⟩ := p
    rw [List.length_map] at sm3 hl
    exact hd H3 es k3 sm3 hD hl hb
section
variable {P : Program} {w : World} {K : PySem.W.Frag} {mg : Str → Option Value} {base : Heap}
theorem ok_row {f fD : Addr} {fd fdD : FuncData} {k : Nat} (F : Fun K "_law_row" "_law_row" sRow f fd) (GD : FnOk P w K mg base CX0 k fD fdD ["_law_stream_here", "_law_many"] spDraw) (FD : Fun K "_law_draw" "_law_draw" sDraw fD fdD)
    (bD : Binds K fdD ["_law_stream_here", "_law_many"] []) (gD : mg "_law_draw" = some (.ref fD)) (mr : mg "range" = none) (mso : mg "sorted" = none) (mtu : mg "tuple" = none) : FnOk P w K mg base CX0 (k + 1) f fd ["_law_stream_here", "_law_most"] spRow := by
  refine F.ok scRow (fun vs H Q E h => ?_) (fun cdv A outer st H vs Q E hr h => ?_)
  · obtain ⟨s, a, b, n, m, rfl, _⟩ := h
    rfl
  · obtain ⟨s, a, b, n, m, rfl, sm, hn, m1, m12, q⟩ := h
    refine ⟨_, pss_cons (ps_asg (pe_tup (pa_cons (pe_op op_add pe_int (pe_call GD hr (by rfl) gD FD.kp bD .nil pass0 (pa_cons (pv 0) (pa_cons (pv 1) pa_nil)))) (pa_cons (pe_call GD hr (by rfl) gD FD.kp bD .nil pass0 (pa_cons (pv 0) (pa_cons pe_int pa_nil))) pa_nil)))
        (pg_tup rfl (pgs_cons (pg_name (i := 2) scRow.nd rfl (.inr rfl)) (pgs_cons (pg_name (i := 3) scRow.nd rfl (.inl rfl)) pgs_nil))))
      (pss_cons (ps_set (i := 4) scRow.nd rfl (.inr rfl) (pe_ix ix_list (pe_lst (pa_cons pe_int (pa_cons pe_int (pa_cons pe_int (pa_cons pe_int (pa_cons pe_int (pa_cons (pe_op op_pow pe_int pe_int) pa_nil))))))) (pv 3) (fun _ _ => rfl)))
      (pss_cons (ps_setLc (i := 5) (own := [("_law_place", 6)]) (g := gName 6) (tt := tYes) rfl scRow.nd rfl rfl (sw_true rfl rfl rfl (by decide +kernel)) (pi_range1 (by rfl) mr (pa_cons (pv 2) pa_nil))
        (blkOk_by (N := rowN) (sc := defScope sRow) (by decide +kernel)) (fun _ _ _ _ _ => pg_name (i := 6) scRow.nd rfl (Or.inl rfl)) (fun _ _ _ _ _ => pts_nil)
        (fun _ _ _ _ _ => pe_call GD hr (by rfl) gD FD.kp bD .nil pass0 (pa_cons (pv 0) (pa_cons (pv 4) pa_nil))))
      (pss_cons (ps_if (pt_cmpR op_eq (pv 3) pe_int (nomark _))
        (pss_one (ps_setLc (i := 5) (own := [("_law_k", 7)]) (g := gName 7) (tt := tYes) rfl scRow.nd rfl rfl (sw_true rfl rfl rfl (by decide +kernel)) (pi_range1 (by rfl) mr (pa_cons (pv 2) pa_nil))
          (blkOk_by (N := rowN) (sc := defScope sRow) (by decide +kernel)) (fun _ _ _ _ _ => pg_name (i := 7) scRow.nd rfl (Or.inl rfl)) (fun _ _ _ _ _ => pts_nil)
          (fun _ _ _ _ _ => pe_ix (r := rIxL K) ix_list (pe_lst (pa_cons (pv 7) (pa_cons (pe_op op_sub (pv 2) (pv 7)) (pa_cons pe_int pa_nil)))) (pe_call GD hr (by rfl) gD FD.kp bD .nil pass0 (pa_cons (pv 0) (pa_cons pe_int pa_nil))) (fun _ _ => rfl)))) pss_nil)
      (pss_cons (ps_if (pt_cmpR op_eq (pv 3) pe_int (nomark _))
        (pss_one (ps_setLc (i := 5) (own := [("_law_entry", 8)]) (g := gName 8) (tt := tYes) rfl scRow.nd rfl rfl (sw_true rfl rfl rfl (by decide +kernel)) (pi_list (pv 5))
          (blkOk_by (N := rowN) (sc := defScope sRow) (by decide +kernel)) (fun _ _ _ _ _ => pg_name (i := 8) scRow.nd rfl (Or.inl rfl)) (fun _ _ _ _ _ => pts_nil)
          (fun _ _ _ _ _ => pe_ix (r := rIxL K) ix_list (pe_lst (pa_cons (pv 8) (pa_cons (pe_op op_sub pe_int (pv 8)) (pa_cons (pe_op op_pow pe_int pe_int) (pa_cons (pe_op op_sub pe_int (pe_op op_pow pe_int pe_int)) pa_nil)))))
            (pe_call GD hr (by rfl) gD FD.kp bD .nil pass0 (pa_cons (pv 0) (pa_cons pe_int pa_nil))) (fun _ _ => rfl)))) pss_nil)
      (pss_cons (ps_if (PW.pt (pw_and (pt_cmpR op_eq (pv 3) pe_int (nomark _)) (pw_and1 (pt_cmpR op_eq (pe_call GD hr (by rfl) gD FD.kp bD .nil pass0 (pa_cons (pv 0) (pa_cons pe_int pa_nil))) pe_int (nomark _)))))
        (pss_one (ps_set (i := 5) scRow.nd rfl (.inl rfl) (pe_step (pe_callB cr_sortedI (by rfl) mso (by decide +kernel) (pa_cons (pv 5) pa_nil))
          (pe_ix ix_list (pe_lst (pa_cons pe_int (pa_cons (pe_un un_neg pe_int) pa_nil))) (pe_call GD hr (by rfl) gD FD.kp bD .nil pass0 (pa_cons (pv 0) (pa_cons pe_int pa_nil))) (fun _ _ => rfl))))) pss_nil)
      (pss_one (ps_ret (pe_callTy call_tuple_of (by rfl) mtu (by decide +kernel) (pa_cons (pv 5) pa_nil))))))))), ?_⟩
    -- _law_size, _law_way
    refine ⟨.ref s, rfl, .int m, rfl, s, a, b, n, m, rfl, sm, by omega, by omega, by omega, fun H1 r1 k1 sm1 r10 r11 => ⟨1, r1, rfl, rfl, .ref s, rfl, s, a, b, n + 1, 6, rfl, sm1, by omega, by decide, by decide, fun H2 r2 k2 sm2 r20 r21 => ⟨by show 2 ≤ sizeLine; decide, fun t nt => ?_⟩⟩⟩
    refine ⟨t, _, rfl, .inl (.inl upd_same), rfl, _, _, rfl, _, _, rfl, rfl, ?_⟩
    have s3 := same_upd (o := .tup [.int (1 + r1), .int r2]) nt
    have k3 := (k1.trans k2).trans (Kp.of_same s3)
    have sm3 := sm2.keep s3
    generalize upd H2 t (.tup [.int (1 + r1), .int r2]) = H3 at *
    dsimp only
    obtain ⟨N, hN⟩ : ∃ N : Nat, 1 + r1 = (N : Int) := ⟨(1 + r1).toNat, by omega⟩
    rw [hN]
    have N1 : 1 ≤ N := by omega
    have N2 : (N : Int) ≤ m := by omega
    -- _law_width
    refine ⟨10, 9, rfl, rfl, ⟨by decide, by decide, by decide⟩, by show 6 ≤ sizeLine; decide, fun p np => ?_⟩
    have s4 := same_upd (o := .lst [.int 2, .int 3, .int 6, .int 40, .int 3, .int (10 ^ (9 : Int).toNat)]) np
    obtain ⟨wv, hat, w0, w1⟩ : ∃ wv : Int, atI ([.int 2, .int 3, .int 6, .int 40, .int 3, .int (10 ^ (9 : Int).toNat)] : List V) r2 = some (.int wv) ∧ 0 < wv ∧ wv ≤ 1000000000 := by
      obtain ⟨j, rfl⟩ : ∃ j : Nat, r2 = (j : Int) := ⟨r2.toNat, by omega⟩
      have hj : j < 6 := by omega
      match j, hj with
      | 0, _ => exact ⟨2, rfl, by decide, by decide⟩
      | 1, _ => exact ⟨3, rfl, by decide, by decide⟩
      | 2, _ => exact ⟨6, rfl, by decide, by decide⟩
      | 3, _ => exact ⟨40, rfl, by decide, by decide⟩
      | 4, _ => exact ⟨3, rfl, by decide, by decide⟩
      | 5, _ => exact ⟨1000000000, by decide +kernel, by decide, by decide⟩
    refine ⟨.int r2, rfl, p, _, r2, .int wv, rfl, rfl, .inl (.inl upd_same), hat, ?_⟩
    have k4 := k3.trans (Kp.of_same s4)
    have sm4 := sm3.keep s4
    clear hat
    dsimp only
    generalize upd H3 p (.lst [.int 2, .int 3, .int 6, .int 40, .int 3, .int (10 ^ (9 : Int).toNat)]) = H4 at *
    -- _law_entries, drawn
    refine ⟨.int N, rfl, N, rfl, by omega, by omega, fun D nD => lc_rows (s := s) (a := a) (b := b) (n0 := n + 2) nD sm4 (by show (N : Int).toNat ≤ 1000; omega) (fun i H5 Q' hi k5 sm5 q5 => ?_) (fun H5 es k5 sm5 hD hl hb => ?_)⟩
    · exact ⟨.ref s, rfl, .int wv, rfl, s, a, b, _, wv, rfl, sm5, by omega, w0, w1, fun H' r kp sm' r0 r1 => q5 H' r kp sm' (by omega) (by omega)⟩
    rw [Int.toNat_natCast] at sm5 hl
    have nvD : ¬ Av s a D := sm4.nav nD
    have k6 := k4.trans k5
    have fin : ∀ (H7 : Hp) (L : Addr) (zs : List Int) (n7 : Nat), Kp (Av s a) H H7 → Sm H7 s a b n7 → n7 ≤ n + 50 → H7 L = some (.lst (zs.map V.int)) → zs.length = N → (∀ x ∈ zs, -1000000000 ≤ x ∧ x ≤ 1000000000) →
        SqL K H7 L (zs.map V.int) ∧ ∀ l, H7 l = none → Q (.ref l) (upd H7 l (.tup (zs.map V.int))) := by
      intro H7 L zs n7 k7 sm7 hn7 hL hz hbz
      refine ⟨.inl (.inl hL), fun l nl => ?_⟩
      exact q _ l zs (k7.trans (Kp.of_same (same_upd nl))) ((sm7.keep (same_upd nl)).mono hn7) upd_same (by omega) (by omega) hbz
    -- if _law_way == 4
    refine ⟨.int r2, rfl, rfl, _, rfl, ite2 (fun e4 => ?_) (fun e4 => ?_)⟩
    · have e4' : r2 = 4 := V.int.inj (of_decide_eq_true e4)
      subst e4'
      refine ⟨.int N, rfl, N, rfl, by omega, by omega, fun D2 nD2 => lc_rows (s := s) (a := a) (b := b) (n0 := n + 2 + N) nD2 sm5 (by show (N : Int).toNat ≤ 1000; omega) (fun i H6 Q' hi k7 sm7 q7 => ?_) (fun H7 zs k7 sm7 hD2 hz hbz => ?_)⟩
      · refine ⟨.int (0 + i), rfl, .int N, rfl, .int (0 + i), rfl, N, 0 + i, rfl, rfl, by show 3 ≤ sizeLine; decide, fun p2 np2 => ?_⟩
        have s8 := same_upd (o := .lst [.int (0 + i), .int (N - (0 + i)), .int 0]) np2
        refine ⟨.ref s, rfl, s, a, b, _, 3, rfl, sm7.keep s8, by omega, by decide, by decide, fun H' r kp sm' r0 r1 => ?_⟩
        have hp2 := kp _ _ (upd_same (H := H6) (a := p2) (o := .lst [.int (0 + i), .int (N - (0 + i)), .int 0])) (sm7.nav np2)
        have hi' : i < N := by
          rw [Int.toNat_natCast] at hi
          exact hi
        obtain ⟨y, hy, y0, y1⟩ : ∃ y : Int, atI ([.int (0 + i), .int (N - (0 + i)), .int 0] : List V) r = some (.int y) ∧ -1000000000 ≤ y ∧ y ≤ 1000000000 := by
          obtain ⟨j, rfl⟩ : ∃ j : Nat, r = (j : Int) := ⟨r.toNat, by omega⟩
          have hj : j < 3 := by omega
          match j, hj with
          | 0, _ => exact ⟨0 + i, rfl, by omega, by omega⟩
          | 1, _ => exact ⟨N - (0 + i), rfl, by omega, by omega⟩
          | 2, _ => exact ⟨0, rfl, by omega, by omega⟩
        exact ⟨p2, _, r, .int y, rfl, rfl, .inl (.inl hp2), hy, q7 H' y ((Kp.of_same s8).trans kp) sm' y0 y1⟩
      · rw [Int.toNat_natCast] at sm7 hz
        refine ⟨.int 4, rfl, rfl, _, rfl, ?_⟩
        refine iteF ?_
        -- not 3
        refine ⟨.int 4, rfl, rfl, _, rfl, ?_⟩
        refine iteF ?_
        refine iteF ?_
        exact ⟨.ref D2, rfl, D2, _, rfl, .inl (fin H7 D2 zs _ (k6.trans k7) sm7 (by omega) hD2 hz hbz)⟩
    · -- if _law_way == 5
      refine ⟨.int r2, rfl, rfl, _, rfl, ite2 (fun e5 => ?_) (fun e5 => ?_)⟩
      · have e5' : r2 = 5 := V.int.inj (of_decide_eq_true e5)
        subst e5'
        refine ⟨.ref D, rfl, D, rfl, ⟨_, .inl (.inl hD)⟩, fun D2 nD2 => lc_rowsL (s := s) (a := a) (b := b) (n0 := n + 2 + N) (xs := es) nD2 sm5 (by omega) hD nvD (fun i x H6 Q' hx k7 sm7 q7 => ?_) (fun H7 zs k7 sm7 hD2 hz hbz => ?_)⟩
        · have hi' : i < es.length := (List.getElem?_eq_some_iff.mp hx).1
          obtain ⟨x0, x1⟩ := hb x (List.mem_of_getElem? hx)
          refine ⟨.int x, rfl, .int x, rfl, 0, x, rfl, rfl, 10, 9, rfl, rfl, ⟨by decide, by decide, by decide⟩, 10, 9, rfl, rfl, ⟨by decide, by decide, by decide⟩, 0, _, rfl, rfl, by show 4 ≤ sizeLine; decide, fun p2 np2 => ?_⟩
          have s8 := same_upd (o := .lst [.int x, .int (0 - x), .int (10 ^ (9 : Int).toNat), .int (0 - 10 ^ (9 : Int).toNat)]) np2
          refine ⟨.ref s, rfl, s, a, b, _, 4, rfl, sm7.keep s8, by omega, by decide, by decide, fun H' r kp sm' r0 r1 => ?_⟩
          have hp2 := kp _ _ (upd_same (H := H6) (a := p2) (o := .lst [.int x, .int (0 - x), .int (10 ^ (9 : Int).toNat), .int (0 - 10 ^ (9 : Int).toNat)])) (sm7.nav np2)
          obtain ⟨y, hy, y0, y1⟩ : ∃ y : Int, atI ([.int x, .int (0 - x), .int (10 ^ (9 : Int).toNat), .int (0 - 10 ^ (9 : Int).toNat)] : List V) r = some (.int y) ∧ -1000000000 ≤ y ∧ y ≤ 1000000000 := by
            obtain ⟨j, rfl⟩ : ∃ j : Nat, r = (j : Int) := ⟨r.toNat, by omega⟩
            have hj : j < 4 := by omega
            match j, hj with
            | 0, _ => exact ⟨x, rfl, by omega, by omega⟩
            | 1, _ => exact ⟨0 - x, rfl, by omega, by omega⟩
            | 2, _ => exact ⟨1000000000, rfl, by omega, by omega⟩
            | 3, _ => exact ⟨-1000000000, rfl, by omega, by omega⟩
          exact ⟨p2, _, r, .int y, rfl, rfl, .inl (.inl hp2), hy, q7 H' y ((Kp.of_same s8).trans kp) sm' y0 y1⟩
        · refine ⟨.int 5, rfl, rfl, _, rfl, ?_⟩
          refine iteF ?_
          refine iteF ?_
          exact ⟨.ref D2, rfl, D2, _, rfl, .inl (fin H7 D2 zs _ (k6.trans k7) sm7 (by omega) hD2 (by omega) hbz)⟩
      · -- if _law_way == 3 and a draw
        refine ⟨.int r2, rfl, rfl, _, rfl, ?_⟩
        refine ite2 (fun e3 => ?_) (fun e3 => ?_)
        · refine ⟨.ref s, rfl, s, a, b, _, 2, rfl, sm5, by omega, by decide, by decide, fun H6 r k7 sm7 r0 r1 => ?_⟩
          have hD6 := k7 _ _ hD nvD
          refine ⟨rfl, _, rfl, ite2 (fun e0 => ?_) (fun e0 => ?_)⟩
          · refine ⟨.ref D, rfl, D, es, rfl, .inl (.inl hD6), fun ns' p5 perm _ np5 => ?_⟩
            have s8 := same_upd (o := .lst (ns'.map V.int)) np5
            have sm8 := sm7.keep s8
            have e8 : (upd H6 p5 (.lst (ns'.map V.int))) p5 = some (.lst (ns'.map V.int)) := upd_same
            have k8 := k7.trans (Kp.of_same s8)
            have nv5 := sm7.nav np5
            generalize upd H6 p5 (.lst (ns'.map V.int)) = H7 at *
            refine ⟨1, rfl, by show 2 ≤ sizeLine; decide, fun p6 np6 => ?_⟩
            have s9 := same_upd (o := .lst [.int 1, .int (-1)]) np6
            refine ⟨.ref s, rfl, s, a, b, _, 2, rfl, sm8.keep s9, by omega, by decide, by decide, fun H8 r' k9 sm9 r0' r1' => ?_⟩
            have hp6 := k9 _ _ (upd_same (H := H7) (a := p6) (o := .lst [.int 1, .int (-1)])) (sm8.nav np6)
            have hp5 := k9 _ _ (s9 _ _ e8) nv5
            obtain ⟨y, hy, hy1⟩ : ∃ y : Int, atI ([.int 1, .int (-1)] : List V) r' = some (.int y) ∧ (y = 1 ∨ y = -1) := by
              obtain ⟨j, rfl⟩ : ∃ j : Nat, r' = (j : Int) := ⟨r'.toNat, by omega⟩
              have hj : j < 2 := by omega
              match j, hj with
              | 0, _ => exact ⟨1, rfl, .inl rfl⟩
              | 1, _ => exact ⟨-1, rfl, .inr rfl⟩
            refine ⟨p6, _, r', .int y, rfl, rfl, .inl (.inl hp6), hy, p5, _, y, rfl, .inl (.inl hp5), rfl, hy1, fun zs l hzs nl => ?_⟩
            obtain ⟨zz, rfl, hlen, hmem⟩ : ∃ zz : List Int, zs = zz.map V.int ∧ zz.length = N ∧ ∀ x ∈ zz, -1000000000 ≤ x ∧ x ≤ 1000000000 := by
              have h1 : ns'.length = N := perm.length_eq.trans hl
              have h2 : ∀ x ∈ ns', -1000000000 ≤ x ∧ x ≤ 1000000000 := fun x hx => hb x (perm.mem_iff.mp hx)
              rcases hzs with z | z
              · exact ⟨ns', z, h1, h2⟩
              · exact ⟨ns'.reverse, by rw [z, List.map_reverse], by rw [List.length_reverse]; exact h1, fun x hx => h2 x (List.mem_reverse.mp hx)⟩
            have s10 := same_upd (o := .lst (zz.map V.int)) nl
            exact ⟨.ref l, rfl, l, _, rfl, .inl (fin _ l zz _ ((k6.trans k8).trans ((Kp.of_same s9).trans (k9.trans (Kp.of_same s10)))) (sm9.keep s10) (by omega) upd_same hlen hmem)⟩
          · exact ⟨.ref D, rfl, D, _, rfl, .inl (fin H6 D es _ (k6.trans k7) sm7 (by omega) hD6 hl hb)⟩
        · refine iteF ?_
          exact ⟨.ref D, rfl, D, _, rfl, .inl (fin H5 D es _ k6 sm5 (by omega) hD hl hb)⟩
end
end Lw
namespace Lw
open PySem PySem.Spec PyProof.Rows L2 Gd
abbrev sPick : Stmt := topS 10
abbrev sBent : Stmt := topS 13
theorem scPick : FnScope ["_law_stream_here", "_law_items"] ["_law_stream_here", "_law_items"] (defScope sPick) := ⟨rfl, rfl, rfl, by decide +kernel, rfl, by decide +kernel, by decide +kernel⟩
theorem scBent : FnScope ["_law_stream_here", "_law_value", "_law_spot", "_law_item", "_law_some"] ["_law_stream_here", "_law_value"] (defScope sBent) := ⟨rfl, rfl, rfl, by decide +kernel, rfl, by decide +kernel, by decide +kernel⟩
def spPick : Sp := fun vs H Q _ => ∃ (s a b L : Addr) (n : Nat) (xs : List V), vs = [.ref s, .ref L] ∧ Sm H s a b n ∧ n < 1000000 ∧ H L = some (.lst xs) ∧ ¬ Av s a L ∧ xs ≠ [] ∧ xs.length ≤ 1000 ∧
  ∀ H' v, Kp (Av s a) H H' → Sm H' s a b (n + 1) → v ∈ xs → Q v H'
theorem Sm.navT {H : Hp} {s a b p : Addr} {n : Nat} {xs : List V} (x : Sm H s a b n) (z : H p = some (.tup xs)) : ¬ Av s a p := fun y => by
  obtain ⟨⟨_, _, _, z1, z2, _⟩, _⟩ := id x
  rcases y with y | y
  · rw [y, z1] at z
    cases z
  · rw [y, z2] at z
    cases z
theorem sla_of {K : PySem.W.Frag} {H : Hp} {t : Addr} {xs : List V} {lo hi : Option Int} {Q : VK} (e : H t = some (.tup xs)) (q : ∀ p H', Same H H' → H' p = some (.tup (cutV xs lo hi)) → Q (.ref p) H') : rSlA K (.ref t) lo hi H Q := by
  refine ⟨t, xs, rfl, .inl (.inl e), fun z => ?_, fun _ p np => q p _ (same_upd np) upd_same⟩
  refine q t H (Same.refl H) ?_
  unfold cutV
  rw [z.1, z.2, List.drop_zero, Nat.sub_zero, List.take_length]
  exact e
theorem sla_hi {K : PySem.W.Frag} {σ : L2.St} {H : Hp} {t : Addr} {xs : List V} {lo : Option Int} {Q : VK} (e : H t = some (.tup xs)) (q : ∀ p H', Same H H' → H' p = some (.tup (cutV xs lo none)) → Q (.ref p) H') : tNoPart σ H (fun u H3 => rSlA K (.ref t) lo u H3 Q) :=
  sla_of e q
theorem cata_of {K : PySem.W.Frag} {H : Hp} {t u : Addr} {xs ys : List V} {Q : VK} (e : H t = some (.tup xs)) (e2 : H u = some (.tup ys)) (l : xs.length + ys.length ≤ sizeLine)
    (q : ∀ p H', Same H H' → H' p = some (.tup (xs ++ ys)) → Q (.ref p) H') : rCatA K (.ref t) (.ref u) H Q := by
  refine ⟨t, u, xs, ys, rfl, rfl, .inl (.inl e), .inl (.inl e2), l, fun z => ?_, fun _ z => ?_, fun _ _ p np => q p _ (same_upd np) upd_same⟩
  · refine q u H (Same.refl H) ?_
    rw [z]
    exact e2
  · refine q t H (Same.refl H) ?_
    rw [z, List.append_nil]
    exact e
theorem cut_mem {xs : List V} {lo hi : Option Int} {x : V} (h : x ∈ cutV xs lo hi) : x ∈ xs := List.mem_of_mem_drop (List.mem_of_mem_take h)
/-- a tuple or a list of small things -/
def Vl (av : Addr → Prop) (H : Hp) (M : Nat) (v : V) : Prop := ∃ p xs, v = .ref p ∧ (H p = some (.tup xs) ∨ H p = some (.lst xs)) ∧ ¬ av p ∧ xs.length ≤ M ∧ ∀ x ∈ xs, It av H x
theorem Vl.keep {av : Addr → Prop} {H H' : Hp} {M : Nat} {v : V} (x : Vl av H M v) (k : Kp av H H') : Vl av H' M v := by
  obtain ⟨p, xs, e, h, n, l, f⟩ := x
  refine ⟨p, xs, e, ?_, n, l, fun y hy => (f y hy).keep k⟩
  rcases h with h | h
  · exact .inl (k _ _ h n)
  · exact .inr (k _ _ h n)
def spBent : Sp := fun vs H Q _ => ∃ (s a b : Addr) (n M : Nat) (v : V), vs = [.ref s, v] ∧ Sm H s a b n ∧ n < 900000 ∧ M ≤ 1000 ∧ Vl (Av s a) H M v ∧
  ∀ H' v', Kp (Av s a) H H' → Sm H' s a b (n + 10) → Vl (Av s a) H' (3 * M + 2) v' → Q v' H'
section
variable {P : Program} {w : World} {K : PySem.W.Frag} {mg : Str → Option Value} {base : Heap}
theorem ok_pick {f fD : Addr} {fd fdD : FuncData} {k : Nat} (F : Fun K "_law_pick" "_law_pick" sPick f fd) (GD : FnOk P w K mg base CX0 k fD fdD ["_law_stream_here", "_law_many"] spDraw) (FD : Fun K "_law_draw" "_law_draw" sDraw fD fdD)
    (bD : Binds K fdD ["_law_stream_here", "_law_many"] []) (gD : mg "_law_draw" = some (.ref fD)) (ml : mg "len" = none) : FnOk P w K mg base CX0 (k + 1) f fd ["_law_stream_here", "_law_items"] spPick := by
  refine F.ok scPick (fun vs H Q E h => ?_) (fun cdv A outer st H vs Q E hr h => ?_)
  · obtain ⟨s, a, b, L, n, xs, rfl, _⟩ := h
    rfl
  · obtain ⟨s, a, b, L, n, xs, rfl, sm, hn, hL, nL, x0, x1, q⟩ := h
    refine ⟨_, pss_one (ps_ret (pe_ix ix_list (pv 1) (pe_call GD hr (by rfl) gD FD.kp bD .nil pass0 (pa_cons (pv 0) (pa_cons (pe_callB call_len_seq (by rfl) ml PySem.boot_len (pa_cons (pv 1) pa_nil)) pa_nil))) (fun _ _ => rfl))), ?_⟩
    have lp := List.length_pos_iff.mpr x0
    refine ⟨.ref L, rfl, .ref s, rfl, .ref L, rfl, L, _, rfl, .inl (.inl (.inl hL)), s, a, b, n, _, rfl, sm, hn, by omega, by omega, fun H' r kp sm' r0 r1 => ?_⟩
    obtain ⟨j, rfl⟩ : ∃ j : Nat, r = (j : Int) := ⟨r.toNat, by omega⟩
    have hj : j < xs.length := by omega
    refine ⟨L, xs, _, xs[j], rfl, rfl, .inl (.inl (kp _ _ hL nL)), atI_nat (List.getElem?_eq_getElem hj), q H' _ kp sm' (List.getElem_mem hj)⟩
theorem ok_bent {f fD fO fP : Addr} {fd fdD fdO fdP : FuncData} {k : Nat} (F : Fun K "_law_bent" "_law_bent" sBent f fd)
    (GD : FnOk P w K mg base CX0 k fD fdD ["_law_stream_here", "_law_many"] spDraw) (FD : Fun K "_law_draw" "_law_draw" sDraw fD fdD) (bD : Binds K fdD ["_law_stream_here", "_law_many"] []) (gD : mg "_law_draw" = some (.ref fD))
    (GO : FnOk P w K mg base CX0 k fO fdO ["_law_stream_here"] spOdd) (kO : PySem.W.keepIn K (.ref fO) = true) (bO : Binds K fdO ["_law_stream_here"] []) (gO : mg "_law_odd" = some (.ref fO))
    (GP : FnOk P w K mg base CX0 k fP fdP ["_law_stream_here", "_law_items"] spPick) (kP : PySem.W.keepIn K (.ref fP) = true) (bP : Binds K fdP ["_law_stream_here", "_law_items"] []) (gP : mg "_law_pick" = some (.ref fP))
    (ml : mg "len" = none) (mi : mg "isinstance" = none) (mt : mg "tuple" = none) (mli : mg "list" = none) : FnOk P w K mg base CX0 (k + 1) f fd ["_law_stream_here", "_law_value"] spBent := by
  refine F.ok scBent (fun vs H Q E h => ?_) (fun cdv A outer st H vs Q E hr h => ?_)
  · obtain ⟨s, a, b, n, M, v, rfl, _⟩ := h
    rfl
  · obtain ⟨s, a, b, n, M, v, rfl, sm, hn, hM, hv, q⟩ := h
    refine ⟨_, pss_cons (ps_if (pt_not (pt_val (pe_callB call_isi (by rfl) mi (by decide +kernel) (pa_cons (pv 1) (pa_cons (pe_bltn (v := .ty "tuple") (by rfl) mt boot_tuple rfl) pa_nil))))) (pss_one (ps_ret (pv 1))) pss_nil)
      (pss_cons (ps_set (i := 2) scBent.nd rfl (.inl rfl) (pe_call GD hr (by rfl) gD FD.kp bD .nil pass0 (pa_cons (pv 0) (pa_cons (pe_op op_add (pe_callB call_len_seq (by rfl) ml PySem.boot_len (pa_cons (pv 1) pa_nil)) pe_int) pa_nil))))
      (pss_cons (ps_set (i := 3) scBent.nd rfl (.inl rfl) (pe_ix ix_list (pe_lst (pa_cons (pe_call GO hr (by rfl) gO kO bO .nil pass0 (pa_cons (pv 0) pa_nil))
          (pa_cons (pe_op op_sub (pe_call GD hr (by rfl) gD FD.kp bD .nil pass0 (pa_cons (pv 0) (pa_cons pe_int pa_nil))) pe_int) (pa_cons (pe_op op_add (pe_op op_pow pe_int pe_int) pe_int)
          (pa_cons (pe_op op_sub (pe_op op_sub pe_int (pe_op op_pow pe_int pe_int)) pe_int) pa_nil)))))
        (pe_call GD hr (by rfl) gD FD.kp bD .nil pass0 (pa_cons (pv 0) (pa_cons pe_int pa_nil))) (fun _ _ => rfl)))
      (pss_cons (ps_set (i := 4) scBent.nd rfl (.inl rfl) (pe_lst (pa_cons (pe_op op_catA (pe_op op_catA (pe_slice sl_tupA (pv 1) po_none (po_some (pv 2))) (pe_tup (pa_cons (pv 3) pa_nil))) (pe_slice sl_tupA (pv 1) (po_some (pv 2)) po_none))
          (pa_cons (pe_op op_catA (pe_op op_catA (pe_slice sl_tupA (pv 1) po_none (po_some (pv 2))) (pe_tup (pa_cons (pv 3) pa_nil))) (pe_slice sl_tupA (pv 1) (po_some (pe_op op_add (pv 2) pe_int)) po_none)) pa_nil))))
      (pss_cons (ps_set (i := 4) scBent.nd rfl (.inl rfl) (pe_op op_cat (pv 4) (pe_lst (pa_cons (pe_op op_catA (pe_slice sl_tupA (pv 1) po_none (po_some (pv 2))) (pe_slice sl_tupA (pv 1) (po_some (pe_op op_add (pv 2) pe_int)) po_none))
          (pa_cons (pe_op op_catA (pe_op op_catA (pe_slice sl_tupA (pv 1) po_none (po_some (pv 2))) (pe_slice sl_tupA (pv 1) (po_some (pv 2)) (po_some (pe_op op_add (pv 2) pe_int)))) (pe_slice sl_tupA (pv 1) (po_some (pv 2)) po_none))
          (pa_cons (pe_callTy call_list_of (by rfl) mli (by decide +kernel) (pa_cons (pv 1) pa_nil)) pa_nil))))))
      (pss_one (ps_ret (pe_call GP hr (by rfl) gP kP bP .nil pass0 (pa_cons (pv 0) (pa_cons (pe_op op_cat (pv 4) (pe_lst (pa_cons (pe_op op_catA (pv 1) (pv 1)) (pa_cons (pe_back (pv 1)) pa_nil)))) pa_nil))))))))), ?_⟩
    obtain ⟨t, xs, rfl, hx, nt, lx, ix⟩ := hv
    rcases hx with hx | hx
    case inr =>
      refine ⟨.ref t, rfl, .ref t, .ty "tuple", .type "list", .type "tuple", false, rfl, .ty _, .base (.lst hx), kit_ty (by decide +kernel), _, rfl, iteT ?_⟩
      exact ⟨.ref t, rfl, q H _ (Kp.refl H) (sm.mono (by omega)) ⟨t, xs, rfl, .inr hx, nt, by omega, ix⟩⟩
    refine ⟨.ref t, rfl, .ref t, .ty "tuple", .type "tuple", .type "tuple", true, rfl, .ty _, .base (.tup hx), kit_ty (by decide +kernel), _, rfl, iteF ?_⟩
    -- _law_spot
    refine ⟨.ref s, rfl, .ref t, rfl, t, _, rfl, .inr (.inl (.inl hx)), _, 1, rfl, rfl, s, a, b, n, _, rfl, sm, by omega, by omega, by omega, fun H1 sp k1 sm1 sp0 sp1 => ?_⟩
    -- _law_item
    refine ⟨.ref s, rfl, s, a, b, n + 1, rfl, sm1, by omega, fun H2 v0 k2 sm2 i0 => ?_⟩
    refine ⟨.ref s, rfl, s, a, b, n + 2, 9, rfl, sm2, by omega, by decide, by decide, fun H3 r3 k3 sm3 r30 r31 => ?_⟩
    refine ⟨r3, 2, rfl, rfl, 10, 9, rfl, rfl, ⟨by decide, by decide, by decide⟩, _, 1, rfl, rfl, 10, 9, rfl, rfl, ⟨by decide, by decide, by decide⟩, 0, _, rfl, rfl, _, 1, rfl, rfl, by show 4 ≤ sizeLine; decide, fun p4 np4 => ?_⟩
    dsimp only
    have s4 := same_upd (o := .lst [v0, .int (r3 - 2), .int (10 ^ (9 : Int).toNat + 1), .int (0 - 10 ^ (9 : Int).toNat - 1)]) np4
    have e4 : (upd H3 p4 (.lst [v0, .int (r3 - 2), .int (10 ^ (9 : Int).toNat + 1), .int (0 - 10 ^ (9 : Int).toNat - 1)])) p4 = some _ := upd_same
    have nv4 := sm3.nav np4
    have sm4 := sm3.keep s4
    have k4 := Kp.of_same (av := Av s a) s4
    generalize upd H3 p4 (.lst [v0, .int (r3 - 2), .int (10 ^ (9 : Int).toNat + 1), .int (0 - 10 ^ (9 : Int).toNat - 1)]) = H4 at *
    refine ⟨.ref s, rfl, s, a, b, n + 3, 4, rfl, sm4, by omega, by decide, by decide, fun H5 r5 k5 sm5 r50 r51 => ?_⟩
    have e5 := k5 _ _ e4 nv4
    have i5 : It (Av s a) H5 v0 := i0.keep (k3.trans (k4.trans k5))
    obtain ⟨itm, hitm, iitm⟩ : ∃ itm : V, atI ([v0, .int (r3 - 2), .int (10 ^ (9 : Int).toNat + 1), .int (0 - 10 ^ (9 : Int).toNat - 1)] : List V) r5 = some itm ∧ It (Av s a) H5 itm := by
      obtain ⟨j, rfl⟩ : ∃ j : Nat, r5 = (j : Int) := ⟨r5.toNat, by omega⟩
      have hj : j < 4 := by omega
      match j, hj with
      | 0, _ => exact ⟨v0, rfl, i5⟩
      | 1, _ => exact ⟨.int (r3 - 2), rfl, It.int (by omega)⟩
      | 2, _ => exact ⟨.int (10 ^ (9 : Int).toNat + 1), rfl, It.int (by decide)⟩
      | 3, _ => exact ⟨.int (0 - 10 ^ (9 : Int).toNat - 1), rfl, It.int (by decide)⟩
    refine ⟨p4, _, r5, itm, rfl, rfl, .inl (.inl e5), hitm, ?_⟩
    have kH5 := k1.trans (k2.trans (k3.trans (k4.trans k5)))
    have x5 : H5 t = some (.tup xs) := kH5 _ _ hx nt
    have ix5 : ∀ x ∈ xs, It (Av s a) H5 x := fun x z => (ix x z).keep kH5
    have big : ∀ {n : Nat}, n ≤ 2 * xs.length + 2 → n ≤ sizeLine := fun {n} z => Nat.le_of_lt (small_of (by omega))
    have cl : ∀ lo hi, (cutV xs lo hi).length ≤ xs.length := fun lo hi => cutV_length xs lo hi
    have one : 1 ≤ sizeLine := by decide
    -- [:spot] + (item,) + [spot:]
    refine ⟨.ref t, rfl, .int sp, rfl, sp, rfl, sla_of x5 fun a1 G1 g1 ea1 => ⟨itm, rfl, one, fun a2 na2 => cata_of (same_upd na2 _ _ ea1) upd_same (big (by have := cl none (some sp); show _ + 1 ≤ _; omega)) fun a3 G3 g3 ea3 => ?_⟩⟩
    have c3 : Same H5 G3 := g1.trans ((same_upd na2).trans g3)
    refine ⟨.ref t, rfl, .int sp, rfl, sp, rfl, sla_hi (c3 _ _ x5) fun a4 G4 g4 ea4 => cata_of (g4 _ _ ea3) ea4 (big (by have := cl none (some sp); have := cl (some sp) none; rw [List.length_append]; show _ + 1 + _ ≤ _; omega)) fun a5 G5 g5 ea5 => ?_⟩
    have c5 : Same H5 G5 := c3.trans (g4.trans g5)
    clear ea1 ea3 ea4 g1 na2 g3 g4 g5 c3
    -- [:spot] + (item,) + [spot + 1:]
    refine ⟨.ref t, rfl, .int sp, rfl, sp, rfl, sla_of (c5 _ _ x5) fun b1 I1 h1 eb1 => ⟨itm, rfl, one, fun b2 nb2 => cata_of (same_upd nb2 _ _ eb1) upd_same (big (by have := cl none (some sp); show _ + 1 ≤ _; omega)) fun b3 I3 h3 eb3 => ?_⟩⟩
    have d3 : Same G5 I3 := h1.trans ((same_upd nb2).trans h3)
    refine ⟨.ref t, rfl, .int sp, rfl, sp, 1, rfl, rfl, _, rfl, sla_hi (d3 _ _ (c5 _ _ x5)) fun b4 I4 h4 eb4 => cata_of (h4 _ _ eb3) eb4 (big (by have := cl none (some sp); have := cl (some (sp + 1)) none; rw [List.length_append]; show _ + 1 + _ ≤ _; omega)) fun b5 I5 h5 eb5 => ?_⟩
    have d5 : Same G5 I5 := d3.trans (h4.trans h5)
    clear eb1 eb3 eb4 h1 nb2 h3 h4 h5 d3
    refine ⟨by show 2 ≤ sizeLine; decide, fun l1 m1 => ?_⟩
    have s1 := same_upd (o := .lst [.ref a5, .ref b5]) m1
    have el1 : (upd I5 l1 (.lst [.ref a5, .ref b5])) l1 = some (.lst [.ref a5, .ref b5]) := upd_same
    have c6 : Same H5 (upd I5 l1 (.lst [.ref a5, .ref b5])) := c5.trans (d5.trans s1)
    have fa := s1 _ _ (d5 _ _ ea5)
    have fb := s1 _ _ eb5
    clear s1 d5 c5 ea5 eb5
    generalize upd I5 l1 (.lst [.ref a5, .ref b5]) = J1 at *
    -- [:spot] + [spot + 1:]
    refine ⟨.ref l1, rfl, .ref t, rfl, .int sp, rfl, sp, rfl, sla_of (c6 _ _ x5) fun u1 U1 w1 eu1 => ?_⟩
    refine ⟨.ref t, rfl, .int sp, rfl, sp, 1, rfl, rfl, _, rfl, sla_hi (w1 _ _ (c6 _ _ x5)) fun u2 U2 w2 eu2 => cata_of (w2 _ _ eu1) eu2 (big (by have := cl none (some sp); have := cl (some (sp + 1)) none; omega)) fun u3 U3 w3 eu3 => ?_⟩
    have c7 : Same J1 U3 := w1.trans (w2.trans w3)
    clear eu1 eu2 w1 w2 w3
    -- [:spot] + [spot:spot + 1] + [spot:]
    refine ⟨.ref t, rfl, .int sp, rfl, sp, rfl, sla_of (c7 _ _ (c6 _ _ x5)) fun u4 U4 w4 eu4 => ?_⟩
    refine ⟨.ref t, rfl, .int sp, rfl, sp, rfl, .int sp, rfl, sp, 1, rfl, rfl, _, rfl, sla_of (w4 _ _ (c7 _ _ (c6 _ _ x5))) fun u5 U5 w5 eu5 => cata_of (w5 _ _ eu4) eu5 (big (by have := cl none (some sp); have := cl (some sp) (some (sp + 1)); omega)) fun u6 U6 w6 eu6 => ?_⟩
    have c8 : Same U3 U6 := w4.trans (w5.trans w6)
    clear eu4 eu5 w4 w5 w6
    refine ⟨.ref t, rfl, .int sp, rfl, sp, rfl, sla_hi (c8 _ _ (c7 _ _ (c6 _ _ x5))) fun u7 U7 w7 eu7 => cata_of (w7 _ _ eu6) eu7 ?lenA fun u8 U8 w8 eu8 => ?_⟩
    case lenA =>
      have h1 := cl none (some sp)
      have h2 := cl (some sp) (some (sp + 1))
      have h3 := cl (some sp) none
      rw [List.length_append]
      exact Nat.le_of_lt (small_of (by omega))
    have c9 : Same U6 U8 := w7.trans w8
    clear w7 w8 eu6 eu7
    -- list(_law_value)
    refine ⟨.ref t, rfl, t, xs, rfl, .inr (.inl (.inl (c9 _ _ (c8 _ _ (c7 _ _ (c6 _ _ x5)))))), fun l2 m2 => ?_⟩
    have s2 := same_upd (o := .lst xs) m2
    have el2 : (upd U8 l2 (.lst xs)) l2 = some (.lst xs) := upd_same
    have nv2 := (sm5.keep (c6.trans (c7.trans (c8.trans c9)))).nav m2
    generalize upd U8 l2 (.lst xs) = J2 at *
    refine ⟨by show 3 ≤ sizeLine; decide, fun l3 m3 => ?_⟩
    have s3 := same_upd (o := .lst [.ref u3, .ref u8, .ref l2]) m3
    have el3 : (upd J2 l3 (.lst [.ref u3, .ref u8, .ref l2])) l3 = some (.lst [.ref u3, .ref u8, .ref l2]) := upd_same
    generalize upd J2 l3 (.lst [.ref u3, .ref u8, .ref l2]) = J3 at *
    have c10 : Same J1 J3 := c7.trans (c8.trans (c9.trans (s2.trans s3)))
    refine ⟨l1, l3, _, _, rfl, rfl, c10 _ _ el1, el3, by show 5 ≤ sizeLine; decide, fun l4 m4 => ?_⟩
    have s4' := same_upd (o := .lst ([.ref a5, .ref b5] ++ [.ref u3, .ref u8, .ref l2])) m4
    have el4 : (upd J3 l4 (.lst ([.ref a5, .ref b5] ++ [.ref u3, .ref u8, .ref l2]))) l4 = some (.lst ([.ref a5, .ref b5] ++ [.ref u3, .ref u8, .ref l2])) := upd_same
    have c11 : Same J1 (upd J3 l4 (.lst ([.ref a5, .ref b5] ++ [.ref u3, .ref u8, .ref l2]))) := c10.trans s4'
    have fu3 := s4' _ _ (s3 _ _ (s2 _ _ (c9 _ _ (c8 _ _ eu3))))
    have fu8 := s4' _ _ (s3 _ _ (s2 _ _ eu8))
    have fl2 := s4' _ _ (s3 _ _ el2)
    generalize upd J3 l4 (.lst ([.ref a5, .ref b5] ++ [.ref u3, .ref u8, .ref l2])) = J4 at *
    -- value + value, value[::-1]
    refine ⟨.ref s, rfl, .ref l4, rfl, .ref t, rfl, .ref t, rfl, cata_of (c11 _ _ (c6 _ _ x5)) (c11 _ _ (c6 _ _ x5)) (big (by omega)) fun q1 W1 z1 eq1 => ?_⟩
    refine ⟨.ref t, rfl, t, xs, rfl, .inl (.inl (z1 _ _ (c11 _ _ (c6 _ _ x5)))), fun q2 nq2 => ?_⟩
    have z2 := same_upd (o := .tup xs.reverse) nq2
    have eq2 : (upd W1 q2 (.tup xs.reverse)) q2 = some (.tup xs.reverse) := upd_same
    generalize upd W1 q2 (.tup xs.reverse) = W2 at *
    refine ⟨by show 2 ≤ sizeLine; decide, fun l5 m5 => ?_⟩
    have z3 := same_upd (o := .lst [.ref q1, .ref q2]) m5
    have el5 : (upd W2 l5 (.lst [.ref q1, .ref q2])) l5 = some (.lst [.ref q1, .ref q2]) := upd_same
    generalize upd W2 l5 (.lst [.ref q1, .ref q2]) = W3 at *
    have c12 : Same J4 W3 := z1.trans (z2.trans z3)
    refine ⟨l4, l5, _, _, rfl, rfl, c12 _ _ el4, el5, by show 7 ≤ sizeLine; decide, fun l6 m6 => ?_⟩
    have z4 := same_upd (o := .lst ([.ref a5, .ref b5] ++ [.ref u3, .ref u8, .ref l2] ++ [.ref q1, .ref q2])) m6
    have el6 : (upd W3 l6 (.lst ([.ref a5, .ref b5] ++ [.ref u3, .ref u8, .ref l2] ++ [.ref q1, .ref q2]))) l6 = some (.lst ([.ref a5, .ref b5] ++ [.ref u3, .ref u8, .ref l2] ++ [.ref q1, .ref q2])) := upd_same
    have call : Same H5 (upd W3 l6 (.lst ([.ref a5, .ref b5] ++ [.ref u3, .ref u8, .ref l2] ++ [.ref q1, .ref q2]))) := c6.trans (c11.trans (c12.trans z4))
    have nv6 := (sm5.keep (c6.trans (c11.trans c12))).nav m6
    have ga := z4 _ _ (c12 _ _ (c11 _ _ fa))
    have gb := z4 _ _ (c12 _ _ (c11 _ _ fb))
    have gu3 := z4 _ _ (c12 _ _ fu3)
    have gu8 := z4 _ _ (c12 _ _ fu8)
    have gl2 := z4 _ _ (c12 _ _ fl2)
    have gq1 := z4 _ _ (z3 _ _ (z2 _ _ eq1))
    have gq2 := z4 _ _ (z3 _ _ eq2)
    generalize upd W3 l6 (.lst ([.ref a5, .ref b5] ++ [.ref u3, .ref u8, .ref l2] ++ [.ref q1, .ref q2])) = W4 at *
    have sm6 := sm5.keep call
    refine ⟨s, a, b, l6, n + 4, _, rfl, sm6, by omega, el6, nv6, by simp, by show 7 ≤ 1000; decide, fun H' v' k' sm' hv' => ?_⟩
    refine q H' v' (kH5.trans ((Kp.of_same call).trans k')) (sm'.mono (by omega)) ?_
    have isx : ∀ x ∈ xs, It (Av s a) W4 x := fun x z => (ix5 x z).keep (Kp.of_same call)
    have isi : It (Av s a) W4 itm := iitm.keep (Kp.of_same call)
    have tupV : ∀ {p : Addr} {ys : List V}, W4 p = some (.tup ys) → ys.length ≤ 3 * M + 2 → (∀ y ∈ ys, y ∈ xs ∨ y = itm) → Vl (Av s a) H' (3 * M + 2) (.ref p) := by
      intro p ys e l f
      refine Vl.keep ⟨p, ys, rfl, .inl e, sm6.navT e, l, fun y hy => ?_⟩ k'
      rcases f y hy with z | z
      · exact isx y z
      · rw [z]
        exact isi
    have h1 := cl none (some sp)
    have h2 := cl (some sp) none
    have h3 := cl (some (sp + 1)) none
    have h4 := cl (some sp) (some (sp + 1))
    simp only [List.mem_append, List.mem_cons, List.not_mem_nil, or_false] at hv'
    rcases hv' with ((rfl | rfl) | (rfl | rfl | rfl)) | (rfl | rfl)
    · refine tupV ga (by simp only [List.length_append, List.length_cons, List.length_nil]; omega) fun y hy => ?_
      simp only [List.mem_append, List.mem_cons, List.not_mem_nil, or_false] at hy
      rcases hy with (z | z) | z
      · exact .inl (cut_mem z)
      · exact .inr z
      · exact .inl (cut_mem z)
    · refine tupV gb (by simp only [List.length_append, List.length_cons, List.length_nil]; omega) fun y hy => ?_
      simp only [List.mem_append, List.mem_cons, List.not_mem_nil, or_false] at hy
      rcases hy with (z | z) | z
      · exact .inl (cut_mem z)
      · exact .inr z
      · exact .inl (cut_mem z)
    · refine tupV gu3 (by simp only [List.length_append]; omega) fun y hy => ?_
      rcases List.mem_append.mp hy with z | z
      · exact .inl (cut_mem z)
      · exact .inl (cut_mem z)
    · refine tupV gu8 (by simp only [List.length_append]; omega) fun y hy => ?_
      simp only [List.mem_append] at hy
      rcases hy with (z | z) | z
      · exact .inl (cut_mem z)
      · exact .inl (cut_mem z)
      · exact .inl (cut_mem z)
    · exact Vl.keep ⟨l2, xs, rfl, .inr gl2, nv2, by omega, isx⟩ k'
    · refine tupV gq1 (by simp only [List.length_append]; omega) fun y hy => ?_
      rcases List.mem_append.mp hy with z | z
      · exact .inl z
      · exact .inl z
    · exact tupV gq2 (by rw [List.length_reverse]; omega) fun y hy => .inl (List.mem_reverse.mp hy)
end
end Lw
namespace Lw
open PySem PySem.Spec PyProof.Rows L2 Gd
abbrev sWhole : Stmt := topS 3
abbrev sEntry : Stmt := topS 4
abbrev sRowErr : Stmt := topS 5
abbrev sIsRow : Stmt := topS 6
abbrev sLawErr : Stmt := topS 14
theorem scWhole : FnScope ["value"] ["value"] (defScope sWhole) := ⟨rfl, rfl, rfl, by decide +kernel, rfl, by decide +kernel, by decide +kernel⟩
theorem scEntry : FnScope ["value"] ["value"] (defScope sEntry) := ⟨rfl, rfl, rfl, by decide +kernel, rfl, by decide +kernel, by decide +kernel⟩
theorem scRowErr : FnScope ["value", "place", "item"] ["value"] (defScope sRowErr) := ⟨rfl, rfl, rfl, by decide +kernel, rfl, by decide +kernel, by decide +kernel⟩
theorem scIsRow : FnScope ["value"] ["value"] (defScope sIsRow) := ⟨rfl, rfl, rfl, by decide +kernel, rfl, by decide +kernel, by decide +kernel⟩
theorem scLawErr : FnScope ["_law_value", "_law_place", "_law_item"] ["_law_value"] (defScope sLawErr) := ⟨rfl, rfl, rfl, by decide +kernel, rfl, by decide +kernel, by decide +kernel⟩
/-! ### what is asked of a value -/
inductive Kd (H : Hp) : V → Prop
  | non : Kd H .non
  | bl (b : Bool) : Kd H (.bl b)
  | int (i : Int) : Kd H (.int i)
  | str (x : Str) : Kd H (.str x)
  | lst {p : Addr} {xs : List V} (e : H p = some (.lst xs)) : Kd H (.ref p)
  | tup {p : Addr} {xs : List V} (e : H p = some (.tup xs)) : Kd H (.ref p)
  | dct {p : Addr} {kvs : List (Key × V)} (e : H p = some (.dK kvs)) : Kd H (.ref p)
theorem Dv.kd {av : Addr → Prop} {H : Hp} {v : V} {d : PyData} (h : Dv av H v d) : Kd H v := by
  cases h with
  | non => exact .non
  | bl b => exact .bl b
  | int i => exact .int i
  | str x => exact .str x
  | lst e _ _ _ => exact .lst e
  | tup e _ _ _ => exact .tup e
  | dct e _ _ => exact .dct e
theorem Kd.keep {H H' : Hp} {v : V} (k : Same H H') (h : Kd H v) : Kd H' v := by
  cases h with
  | non => exact .non
  | bl b => exact .bl b
  | int i => exact .int i
  | str x => exact .str x
  | lst e => exact .lst (k _ _ e)
  | tup e => exact .tup (k _ _ e)
  | dct e => exact .dct (k _ _ e)
def isI : V → Bool
  | .int _ => true
  | _ => false
def isIB : V → Bool
  | .int _ => true
  | .bl _ => true
  | _ => false
def isB : V → Bool
  | .bl _ => true
  | _ => false
def isTu (H : Hp) : V → Bool
  | .ref p => match H p with
    | some (.tup _) => true
    | _ => false
  | _ => false
def entV : V → Bool
  | .int i => decide (-1000000000 ≤ i) && decide (i ≤ 1000000000)
  | _ => false
inductive RE
  | ok
  | row
  | ent (i : Nat)
def isOk : RE → Bool
  | .ok => true
  | _ => false
def firstBad : List V → Nat → RE
  | [], _ => .ok
  | x :: r, i => if entV x = true then firstBad r (i + 1) else .ent i
def reOf (H : Hp) : V → RE
  | .ref p => match H p with
    | some (.tup xs) => if xs.isEmpty = true ∨ 12 < xs.length then .row else firstBad xs 0
    | _ => .row
  | _ => .row
theorem firstBad_go : ∀ (xs : List V) (i : Nat), (∀ k x, k < i → xs[k]? = some x → entV x = true) → i ≤ xs.length → firstBad xs 0 = firstBad (xs.drop i) i := by
  intro xs i
  induction i with
  | zero => intro _ _; rw [List.drop_zero]
  | succ i ih =>
    intro h hl
    rw [ih (fun k x hk hx => h k x (by omega) hx) (by omega)]
    have hi : i < xs.length := by omega
    rw [List.drop_eq_getElem_cons hi]
    show (if entV xs[i] = true then firstBad (xs.drop (i + 1)) (i + 1) else .ent i) = _
    rw [if_pos (h i xs[i] (by omega) (List.getElem?_eq_getElem hi))]
def RetRE (r : RE) (H : Hp) (Q : VK) : Prop := match r with
  | .ok => ∀ H', Same H H' → Q .non H'
  | .row => ∀ H' p, Same H H' → H' p = some (.tup [.non, .str "row"]) → Q (.ref p) H'
  | .ent i => ∀ H' p, Same H H' → H' p = some (.tup [.int (i : Int), .str "entry"]) → Q (.ref p) H'
/-- the value, and what stands in it, are of known kinds -/
def KdAll (H : Hp) (v : V) : Prop := Kd H v ∧ ∀ p xs, v = .ref p → H p = some (.tup xs) → ∀ x ∈ xs, Kd H x
def spWhole : Sp := fun vs H Q _ => ∃ v, vs = [v] ∧ Kd H v ∧ Q (.bl (isI v)) H
def spEntry : Sp := fun vs H Q _ => ∃ v, vs = [v] ∧ Kd H v ∧ Q (.bl (entV v)) H
def spRE : Sp := fun vs H Q _ => ∃ v, vs = [v] ∧ KdAll H v ∧ RetRE (reOf H v) H Q
def spIsRow : Sp := fun vs H Q _ => ∃ v, vs = [v] ∧ KdAll H v ∧ ∀ H', Same H H' → Q (.bl (isOk (reOf H v))) H'
section
variable {P : Program} {w : World} {K : PySem.W.Frag} {mg : Str → Option Value} {base : Heap}
theorem kt {a b : String} {r : Bool} (h : kitB a b = some r) {r' : Bool} (e : r' = r) : PySem.W.kitOne K (.type a) (.type b) = some r' := by
  rw [e]
  exact kit_ty h
theorem ty_int {H : Hp} {v : V} (h : Kd H v) : ∃ t, TyX K H v (.type t) ∧ PySem.W.kitOne K (.type t) (.type "int") = some (isIB v) ∧ PySem.W.kitOne K (.type t) (.type "bool") = some (isB v) ∧ PySem.W.kitOne K (.type t) (.type "tuple") = some (isTu H v) := by
  cases h with
  | non => exact ⟨"NoneType", .base .non, kt (r := false) (by decide +kernel) rfl, kt (r := false) (by decide +kernel) rfl, kt (r := false) (by decide +kernel) rfl⟩
  | bl b => exact ⟨"bool", .base (.bl b), kt (r := true) (by decide +kernel) rfl, kt (r := true) (by decide +kernel) rfl, kt (r := false) (by decide +kernel) rfl⟩
  | int i => exact ⟨"int", .base (.int i), kt (r := true) (by decide +kernel) rfl, kt (r := false) (by decide +kernel) rfl, kt (r := false) (by decide +kernel) rfl⟩
  | str x => exact ⟨"str", .base (.str x), kt (r := false) (by decide +kernel) rfl, kt (r := false) (by decide +kernel) rfl, kt (r := false) (by decide +kernel) rfl⟩
  | lst e => exact ⟨"list", .base (.lst e), kt (r := false) (by decide +kernel) rfl, kt (r := false) (by decide +kernel) rfl, kt (r := false) (by decide +kernel) (by simp only [isTu, e])⟩
  | tup e => exact ⟨"tuple", .base (.tup e), kt (r := false) (by decide +kernel) rfl, kt (r := false) (by decide +kernel) rfl, kt (r := true) (by decide +kernel) (by simp only [isTu, e])⟩
  | dct e => exact ⟨"dict", .base (.dK e), kt (r := false) (by decide +kernel) rfl, kt (r := false) (by decide +kernel) rfl, kt (r := false) (by decide +kernel) (by simp only [isTu, e])⟩
theorem ok_whole {f : Addr} {fd : FuncData} {k : Nat} (F : Fun K "is_whole" "is_whole" sWhole f fd) (mi : mg "isinstance" = none) (mint : mg "int" = none) (mbool : mg "bool" = none) : FnOk P w K mg base CX0 (k + 1) f fd ["value"] spWhole := by
  refine F.ok scWhole (fun vs H Q E h => ?_) (fun cdv A outer st H vs Q E hr h => ?_)
  · obtain ⟨v, rfl, _⟩ := h
    rfl
  · obtain ⟨v, rfl, kd, q⟩ := h
    refine ⟨_, pss_one (ps_ret (pe_and (pe_callB call_isi (by rfl) mi (by decide +kernel) (pa_cons (pv 0) (pa_cons (pe_bltn (v := .ty "int") (by rfl) mint (by decide +kernel) rfl) pa_nil)))
      (pe_one (pe_not (pe_callB call_isi (by rfl) mi (by decide +kernel) (pa_cons (pv 0) (pa_cons (pe_bltn (v := .ty "bool") (by rfl) mbool (by decide +kernel) rfl) pa_nil))))))), ?_⟩
    obtain ⟨t, ty, k1, k2, _⟩ := ty_int (K := K) kd
    refine ⟨v, rfl, v, .ty "int", .type t, .type "int", _, rfl, .ty _, ty, k1, _, rfl, ite2 (fun e => ?_) (fun e => ?_)⟩
    · refine ⟨v, rfl, v, .ty "bool", .type t, .type "bool", _, rfl, .ty _, ty, k2, _, rfl, ?_⟩
      cases kd with
      | bl b => exact q
      | int i => exact q
      | _ => cases e
    · cases kd with
      | bl b => exact absurd rfl e
      | int i => exact absurd rfl e
      | _ => exact q
theorem ok_entry {f fW : Addr} {fd fdW : FuncData} {k : Nat} {tk : Tok} (F : Fun K "is_entry" "is_entry" sEntry f fd) (GW : FnOk P w K mg base CX0 k fW fdW ["value"] spWhole) (kW : PySem.W.keepIn K (.ref fW) = true) (bW : Binds K fdW ["value"] [])
    (gW : mg "is_whole" = some (.ref fW)) (gM : mg "MAX_ENTRY" = some (.int 1000000000 tk)) : FnOk P w K mg base CX0 (k + 1) f fd ["value"] spEntry := by
  refine F.ok scEntry (fun vs H Q E h => ?_) (fun cdv A outer st H vs Q E hr h => ?_)
  · obtain ⟨v, rfl, _⟩ := h
    rfl
  · obtain ⟨v, rfl, kd, q⟩ := h
    refine ⟨_, pss_one (ps_ret (pe_and (pe_call GW hr (by rfl) gW kW bW .nil pass0 (pa_cons (pv 0) pa_nil))
      (pe_one (pe_chain op_le op_le (pe_un un_neg (pe_glob (v := .int 1000000000) rfl gM ⟨_, rfl⟩)) (pv 0) (pe_glob (v := .int 1000000000) rfl gM ⟨_, rfl⟩))))), ?_⟩
    refine ⟨v, rfl, v, rfl, kd, _, rfl, ?_⟩
    cases kd with
    | int i =>
      refine iteT ?_
      refine ⟨1000000000, rfl, .int i, rfl, _, i, rfl, rfl, _, rfl, ite2 (fun e => ?_) (fun e => ?_)⟩
      · refine ⟨i, 1000000000, rfl, rfl, ?_⟩
        have z : entV (.int i) = decide (i ≤ 1000000000) := by
          show (decide (-1000000000 ≤ i) && decide (i ≤ 1000000000)) = _
          rw [e, Bool.true_and]
        rw [z] at q
        exact q
      · have z : entV (.int i) = false := by
          show (decide (-1000000000 ≤ i) && decide (i ≤ 1000000000)) = _
          rw [Bool.eq_false_iff.mpr e, Bool.false_and]
        rw [z] at q
        exact q
    | _ => exact iteF q
theorem reOf_tup {H : Hp} {p : Addr} {xs : List V} (e : H p = some (.tup xs)) : reOf H (.ref p) = if xs.isEmpty = true ∨ 12 < xs.length then .row else firstBad xs 0 := by
  simp only [reOf, e]
theorem reOf_other {H : Hp} {v : V} (h : isTu H v = false) (kd : Kd H v) : reOf H v = .row := by
  cases kd with
  | tup e => simp only [isTu, e] at h; cases h
  | lst e => simp only [reOf, e]
  | dct e => simp only [reOf, e]
  | _ => rfl
theorem isTu_true {H : Hp} {v : V} (h : isTu H v = true) : ∃ p xs, v = .ref p ∧ H p = some (.tup xs) := by
  cases v with
  | ref p =>
    cases e : H p with
    | none => simp only [isTu, e] at h; cases h
    | some o =>
      cases o with
      | tup xs => exact ⟨p, xs, rfl, e⟩
      | _ => simp only [isTu, e] at h; cases h
  | _ => cases h
theorem ret_row {r : RE} {H : Hp} {Q : VK} (e : r = .row) (h : RetRE r H Q) {p : Addr} (np : H p = none) : Q (.ref p) (upd H p (.tup [.non, .str "row"])) := by
  rw [e] at h
  exact h _ p (same_upd np) upd_same
theorem ok_rowErr {f fE : Addr} {fd fdE : FuncData} {k : Nat} {tk : Tok} (F : Fun K "row_error" "row_error" sRowErr f fd) (GE : FnOk P w K mg base CX0 k fE fdE ["value"] spEntry) (kE : PySem.W.keepIn K (.ref fE) = true) (bE : Binds K fdE ["value"] [])
    (gE : mg "is_entry" = some (.ref fE)) (gM : mg "MAX_PLACES" = some (.int 12 tk)) (mi : mg "isinstance" = none) (mt : mg "tuple" = none) (ml : mg "len" = none) (me : mg "enumerate" = none) : FnOk P w K mg base CX0 (k + 1) f fd ["value"] spRE := by
  refine F.ok scRowErr (fun vs H Q E h => ?_) (fun cdv A outer st H vs Q E hr h => ?_)
  · obtain ⟨v, rfl, _⟩ := h
    rfl
  · obtain ⟨v, rfl, ⟨kd, kx⟩, q⟩ := h
    refine ⟨_, pss_cons (ps_if (PW.pt (pw_or (pt_not (pt_val (pe_callB call_isi (by rfl) mi (by decide +kernel) (pa_cons (pv 0) (pa_cons (pe_bltn (v := .ty "tuple") (by rfl) mt boot_tuple rfl) pa_nil)))))
        (pw_or1 (pt_not (pt_chain op_le op_le pe_int (pe_callB call_len_seq (by rfl) ml PySem.boot_len (pa_cons (pv 0) pa_nil)) (pe_glob (v := .int 12) rfl gM ⟨_, rfl⟩))))))
        (pss_one (ps_ret (pe_tup (pa_cons pe_non (pa_cons pe_str pa_nil))))) pss_nil)
      (pss_cons (ps_for PassesOwn.never rfl (pi_enumT (by rfl) me (pa_cons (pv 0) pa_nil)) (pg_tup rfl (pgs_cons (pg_name (i := 1) scRowErr.nd rfl (.inl rfl)) (pgs_cons (pg_name (i := 2) scRowErr.nd rfl (.inl rfl)) pgs_nil)))
        (pss_one (ps_if (pt_not (pt_val (pe_call GE hr (by rfl) gE kE bE .nil pass0 (pa_cons (pv 2) pa_nil)))) (pss_one (ps_ret (pe_tup (pa_cons (pv 1) (pa_cons pe_str pa_nil))))) pss_nil)))
      (pss_one (ps_ret pe_non))), ?_⟩
    obtain ⟨t, ty, _, _, k3⟩ := ty_int (K := K) kd
    refine ⟨v, rfl, v, .ty "tuple", .type t, .type "tuple", _, rfl, .ty _, ty, k3, _, rfl, ?_⟩
    have two : 2 ≤ sizeLine := by decide
    cases hT : isTu H v with
    | false => exact iteT (iteT ⟨two, fun p np => ret_row (reOf_other hT kd) q np⟩)
    | true =>
      obtain ⟨p, xs, rfl, e⟩ := isTu_true hT
      refine iteF ?_
      refine ⟨.ref p, rfl, p, xs, rfl, .inr (.inl (.inl e)), 1, _, rfl, rfl, _, rfl, ite2 (fun e1 => ?_) (fun e1 => ?_)⟩
      · have x1 : (1 : Int) ≤ xs.length := of_decide_eq_true e1
        refine ⟨_, 12, rfl, rfl, _, rfl, ?_⟩
        by_cases e2 : (xs.length : Int) ≤ 12
        · rw [decide_eq_true e2]
          refine iteF ?_
          have hne : ¬ (xs.isEmpty = true ∨ 12 < xs.length) := by
            rintro (z | z)
            · rw [List.isEmpty_iff] at z
              subst z
              simp at x1
            · omega
          have hre : reOf H (.ref p) = firstBad xs 0 := by rw [reOf_tup e, if_neg hne]
          rw [hre] at q
          refine ⟨.ref p, rfl, p, xs, rfl, .inl (.inl e), fun i m σ H1 => Same H H1 ∧ i + m = xs.length ∧ (∃ y1 y2, σ = [some (.ref p), y1, y2]) ∧ ∀ k x, k < i → xs[k]? = some x → entV x = true, ⟨xs.length, Same.refl H, by omega, ⟨none, none, rfl⟩, fun k x z => absurd z (Nat.not_lt_zero _)⟩, fun i m σ H1 hW => ?_⟩
          obtain ⟨sm, im, ⟨y1, y2, rfl⟩, all⟩ := hW
          by_cases hi : i < xs.length
          · refine .inr ⟨⟨xs, xs[i], .inl (.inl (sm _ _ e)), List.getElem?_eq_getElem hi⟩, fun σ' H' => Same H H' ∧ (∃ y1 y2, σ' = [some (.ref p), y1, y2]) ∧ ∀ k x, k < i + 1 → xs[k]? = some x → entV x = true, fun σ' H' z => ⟨m - 1, by omega, z.1, by omega, z.2.1, z.2.2⟩, fun x H2 y => ?_⟩
            obtain ⟨T, x', rfl, nT, rfl, f1⟩ := y
            have ex : x' = xs[i] := by
              have z := f1 xs (.inl (.inl (sm _ _ e)))
              rw [List.getElem?_eq_getElem hi] at z
              exact (Option.some.inj z).symm
            subst ex
            have s2 := same_upd (o := .tup [.int (i : Nat), xs[i]]) nT
            refine ⟨T, _, rfl, .inl (.inl upd_same), rfl, _, _, rfl, _, _, rfl, rfl, ?_⟩
            refine ⟨xs[i], rfl, xs[i], rfl, (kx p xs rfl e _ (List.getElem_mem hi)).keep (sm.trans s2), _, rfl, ?_⟩
            cases he : entV xs[i] with
            | true =>
              refine iteF ⟨sm.trans s2, ⟨_, _, rfl⟩, fun k x hk hx => ?_⟩
              rcases Nat.lt_succ_iff_lt_or_eq.mp hk with z | z
              · exact all k x z hx
              · subst z
                rw [List.getElem?_eq_getElem hi] at hx
                rw [← Option.some.inj hx]
                exact he
            | false =>
              refine iteT ⟨.int i, rfl, two, fun r nr => ?_⟩
              rw [firstBad_go xs i all (by omega), List.drop_eq_getElem_cons hi] at q
              have q' : RetRE (if entV xs[i] = true then firstBad (xs.drop (i + 1)) (i + 1) else .ent i) H Q := q
              rw [he, if_neg Bool.false_ne_true] at q'
              exact q' _ r (sm.trans (s2.trans (same_upd nr))) upd_same
          · refine .inl ⟨⟨xs, .inl (.inl (sm _ _ e)), by omega⟩, ?_⟩
            have hiL : i = xs.length := by omega
            rw [firstBad_go xs i all (by omega), hiL, List.drop_length] at q
            exact q H1 sm
        · rw [decide_eq_false e2]
          refine iteT ⟨two, fun r nr => ret_row ?_ q nr⟩
          rw [reOf_tup e, if_pos (.inr (by omega))]
      · refine ⟨_, rfl, iteT ⟨two, fun r nr => ret_row ?_ q nr⟩⟩
        have x0 : xs.length = 0 := by
          have z : ¬ (1 : Int) ≤ xs.length := fun z => e1 (decide_eq_true z)
          omega
        rw [reOf_tup e, if_pos (.inl (List.isEmpty_iff.mpr (List.length_eq_zero_iff.mp x0)))]
theorem ok_isRow {f fE : Addr} {fd fdE : FuncData} {k : Nat} (F : Fun K "is_row" "is_row" sIsRow f fd) (GE : FnOk P w K mg base CX0 k fE fdE ["value"] spRE) (kE : PySem.W.keepIn K (.ref fE) = true) (bE : Binds K fdE ["value"] [])
    (gE : mg "row_error" = some (.ref fE)) : FnOk P w K mg base CX0 (k + 1) f fd ["value"] spIsRow := by
  refine F.ok scIsRow (fun vs H Q E h => ?_) (fun cdv A outer st H vs Q E hr h => ?_)
  · obtain ⟨v, rfl, _⟩ := h
    rfl
  · obtain ⟨v, rfl, kd, q⟩ := h
    refine ⟨_, pss_one (ps_ret (pe_cmpR op_isN (pe_call GE hr (by rfl) gE kE bE .nil pass0 (pa_cons (pv 0) pa_nil)) pe_non (nomark _))), ?_⟩
    refine ⟨v, rfl, v, rfl, kd, ?_⟩
    cases e : reOf H v with
    | ok =>
      rw [e] at q
      exact fun H' s => ⟨rfl, q H' s⟩
    | row =>
      rw [e] at q
      exact fun H' p s _ => ⟨rfl, q H' s⟩
    | ent i =>
      rw [e] at q
      exact fun H' p s _ => ⟨rfl, q H' s⟩
theorem ok_lawErr {f : Addr} {fd : FuncData} {k : Nat} (F : Fun K "_law_row_error" "_law_row_error" sLawErr f fd)
    (mi : mg "isinstance" = none) (mt : mg "tuple" = none) (ml : mg "len" = none) (mr : mg "range" = none) (mb : mg "bool" = none) (mint : mg "int" = none) : FnOk P w K mg base CX0 (k + 1) f fd ["_law_value"] spRE := by
  refine F.ok scLawErr (fun vs H Q E h => ?_) (fun cdv A outer st H vs Q E hr h => ?_)
  · obtain ⟨v, rfl, _⟩ := h
    rfl
  · obtain ⟨v, rfl, ⟨kd, kx⟩, q⟩ := h
    refine ⟨_, pss_cons (ps_if (PW.pt (pw_or (pt_not (pt_val (pe_callB call_isi (by rfl) mi (by decide +kernel) (pa_cons (pv 0) (pa_cons (pe_bltn (v := .ty "tuple") (by rfl) mt boot_tuple rfl) pa_nil)))))
        (pw_or (pt_cmpR (op_eqNil hr.units0) (pv 0) (pe_tup pa_nil) (nomark _)) (pw_or1 (pt_cmpR op_gt (pe_callB call_len_seq (by rfl) ml PySem.boot_len (pa_cons (pv 0) pa_nil)) pe_int (nomark _))))))
        (pss_one (ps_ret (pe_tup (pa_cons pe_non (pa_cons pe_str pa_nil))))) pss_nil)
      (pss_cons (ps_for PassesOwn.never rfl (pi_range1 (by rfl) mr (pa_cons (pe_callB call_len_seq (by rfl) ml PySem.boot_len (pa_cons (pv 0) pa_nil)) pa_nil)) (pg_name (i := 1) scLawErr.nd rfl (.inl rfl))
        (pss_cons (ps_set (i := 2) scLawErr.nd rfl (.inl rfl) (pe_ix ix_tup (pv 0) (pv 1) (fun _ _ => rfl)))
        (pss_one (ps_if (PW.pt (pw_or (pt_val (pe_callB call_isi (by rfl) mi (by decide +kernel) (pa_cons (pv 2) (pa_cons (pe_bltn (v := .ty "bool") (by rfl) mb (by decide +kernel) rfl) pa_nil))))
            (pw_or (pt_not (pt_val (pe_callB call_isi (by rfl) mi (by decide +kernel) (pa_cons (pv 2) (pa_cons (pe_bltn (v := .ty "int") (by rfl) mint (by decide +kernel) rfl) pa_nil)))))
            (pw_or1 (pt_not (pt_chain op_le op_le (pe_op op_sub pe_int (pe_op op_pow pe_int pe_int)) (pv 2) (pe_op op_pow pe_int pe_int)))))))
          (pss_one (ps_ret (pe_tup (pa_cons (pv 1) (pa_cons pe_str pa_nil))))) pss_nil))))
      (pss_one (ps_ret pe_non))), ?_⟩
    obtain ⟨t, ty, _, _, k3⟩ := ty_int (K := K) kd
    refine ⟨v, rfl, v, .ty "tuple", .type t, .type "tuple", _, rfl, .ty _, ty, k3, _, rfl, ?_⟩
    have two : 2 ≤ sizeLine := by decide
    cases hT : isTu H v with
    | false => exact iteT (iteT ⟨two, fun p np => ret_row (reOf_other hT kd) q np⟩)
    | true =>
      obtain ⟨p, xs, rfl, e⟩ := isTu_true hT
      refine iteF ?_
      refine ⟨.ref p, rfl, Nat.zero_le _, fun z nz => ?_⟩
      have s1 := same_upd (o := .tup []) nz
      refine ⟨p, z, xs, rfl, rfl, .inl (.inl (s1 _ _ e)), .inl (.inl upd_same), _, rfl, ite2 (fun e1 => ?_) (fun e1 => ?_)⟩
      · refine iteT ⟨two, fun r nr => ?_⟩
        have hre : reOf H (.ref p) = .row := by rw [reOf_tup e, if_pos (.inl e1)]
        rw [hre] at q
        exact q _ r (s1.trans (same_upd nr)) upd_same
      · refine ⟨.ref p, rfl, p, xs, rfl, .inr (.inl (.inl (s1 _ _ e))), _, 12, rfl, rfl, _, rfl, ite2 (fun e2 => ?_) (fun e2 => ?_)⟩
        · have e2' : (12 : Int) < xs.length := of_decide_eq_true e2
          refine ⟨two, fun r nr => ?_⟩
          have hre : reOf H (.ref p) = .row := by rw [reOf_tup e, if_pos (.inr (by omega))]
          rw [hre] at q
          exact q _ r (s1.trans (same_upd nr)) upd_same
        · have e2' : ¬ (12 : Int) < xs.length := fun z => e2 (decide_eq_true z)
          have hre : reOf H (.ref p) = firstBad xs 0 := by
            rw [reOf_tup e, if_neg]
            rintro (z | z)
            · exact e1 z
            · omega
          rw [hre] at q
          refine ⟨.ref p, rfl, p, xs, rfl, .inr (.inl (.inl (s1 _ _ e))), _, rfl, by omega, by omega, for_range (n := (xs.length : Int).toNat) (fun i σ H1 => Same H H1 ∧ (∃ y1 y2, σ = [some (.ref p), y1, y2]) ∧ ∀ k x, k < i → xs[k]? = some x → entV x = true) ⟨s1, ⟨none, none, rfl⟩, fun k x z => absurd z (Nat.not_lt_zero _)⟩ (fun i σ H1 hi0 hW => ?_) (fun σ H1 hW => ?_)⟩
          · obtain ⟨sm, ⟨y1, y2, rfl⟩, all⟩ := hW
            have hi : i < xs.length := by
              rw [Int.toNat_natCast] at hi0
              exact hi0
            refine ⟨.ref p, rfl, .int (0 + i), rfl, p, xs, _, xs[i], rfl, rfl, .inl (.inl (sm _ _ e)), at_of (by omega) (List.getElem?_eq_getElem hi), ?_⟩
            have kdi := (kx p xs rfl e _ (List.getElem_mem hi)).keep sm
            obtain ⟨t2, ty2, j1, j2, _⟩ := ty_int (K := K) kdi
            have more : ∀ (y1 y2 : Option V), entV xs[i] = true → (Same H H1 ∧ (∃ z1 z2, [some (.ref p), y1, y2] = [some (.ref p), z1, z2]) ∧ ∀ k x, k < i + 1 → xs[k]? = some x → entV x = true) := by
              intro y1 y2 he
              refine ⟨sm, ⟨_, _, rfl⟩, fun k x hk hx => ?_⟩
              rcases Nat.lt_succ_iff_lt_or_eq.mp hk with z | z
              · exact all k x z hx
              · subst z
                rw [List.getElem?_eq_getElem hi] at hx
                rw [← Option.some.inj hx]
                exact he
            have bad : entV xs[i] = false → ∀ r, H1 r = none → Q (.ref r) (upd H1 r (.tup [.int (0 + i), .str "entry"])) := by
              intro he r nr
              rw [firstBad_go xs i all (by omega), List.drop_eq_getElem_cons hi] at q
              have q' : RetRE (if entV xs[i] = true then firstBad (xs.drop (i + 1)) (i + 1) else .ent i) H Q := q
              rw [he, if_neg Bool.false_ne_true] at q'
              have z : (0 : Int) + i = i := by omega
              rw [z]
              exact q' _ r (sm.trans (same_upd nr)) upd_same
            generalize hxi : xs[i] = xi at *
            refine ⟨xi, rfl, xi, .ty "bool", .type t2, .type "bool", _, rfl, .ty _, ty2, j2, _, rfl, ite2 (fun b1 => ?_) (fun b1 => ?_)⟩
            · refine iteT ⟨.int (0 + i), rfl, two, bad ?_⟩
              cases xi with
              | bl b => rfl
              | _ => cases b1
            · refine ⟨xi, rfl, xi, .ty "int", .type t2, .type "int", _, rfl, .ty _, ty2, j1, _, rfl, ?_⟩
              cases xi with
              | int n =>
                refine iteF ?_
                refine ⟨10, 9, rfl, rfl, ⟨by decide, by decide, by decide⟩, 0, _, rfl, rfl, .int n, rfl, _, n, rfl, rfl, _, rfl, ite2 (fun b2 => ?_) (fun b2 => ?_)⟩
                · refine ⟨10, 9, rfl, rfl, ⟨by decide, by decide, by decide⟩, n, _, rfl, rfl, _, rfl, ite2 (fun b3 => ?_) (fun b3 => ?_)⟩
                  · refine ⟨.int (0 + i), rfl, two, bad ?_⟩
                    have z : ¬ n ≤ 1000000000 := by
                      intro z
                      have z2 : n ≤ (10 : Int) ^ (9 : Int).toNat := z
                      rw [decide_eq_true z2] at b3
                      cases b3
                    show (decide (-1000000000 ≤ n) && decide (n ≤ 1000000000)) = false
                    rw [decide_eq_false z, Bool.and_false]
                  · refine more _ _ ?_
                    have z : n ≤ 1000000000 := by
                      by_cases z : n ≤ (10 : Int) ^ (9 : Int).toNat
                      · exact z
                      · rw [decide_eq_false z] at b3
                        exact absurd rfl b3
                    have z2 : -1000000000 ≤ n := of_decide_eq_true b2
                    show (decide (-1000000000 ≤ n) && decide (n ≤ 1000000000)) = true
                    rw [decide_eq_true z, decide_eq_true z2]
                    rfl
                · refine ⟨_, rfl, iteT ⟨.int (0 + i), rfl, two, bad ?_⟩⟩
                  have z : ¬ -1000000000 ≤ n := fun z => b2 (decide_eq_true z)
                  show (decide (-1000000000 ≤ n) && decide (n ≤ 1000000000)) = false
                  rw [decide_eq_false z, Bool.false_and]
              | bl b => exact absurd rfl b1
              | _ => exact iteT (iteT ⟨.int (0 + i), rfl, two, bad rfl⟩)
          · obtain ⟨sm, ⟨y1, y2, rfl⟩, all⟩ := hW
            rw [Int.toNat_natCast] at all
            rw [firstBad_go xs xs.length all (by omega), List.drop_length] at q
            exact q H1 sm
end
end Lw
namespace Lw
open PySem PySem.Spec PyProof.Rows L2 Gd
/-! ### values that the law looks at -/
def Gv (av : Addr → Prop) (H : Hp) (v : V) : Prop := ∃ d, Dv av H v d ∧ d.showable = true ∧ d.leavesShort 100 = true ∧ d.weight ≤ 30000 ∧ d.depth ≤ 2
theorem Gv.keep {av : Addr → Prop} {H H' : Hp} {v : V} (x : Gv av H v) (k : Kp av H H') : Gv av H' v := by
  obtain ⟨d, h, r⟩ := x
  exact ⟨d, h.keep k, r⟩
theorem It.gv {av : Addr → Prop} {H : Hp} {v : V} (x : It av H v) : Gv av H v := by
  obtain ⟨d, h, s⟩ := x
  exact ⟨d, h, s.sh, s.lv, by have := s.wt; omega, by have := s.dp; omega⟩
theorem its_data {av : Addr → Prop} {H : Hp} : ∀ (xs : List V), (∀ x ∈ xs, It av H x) → ∃ ds : List PyData, Paired (Dv av H) xs ds ∧ PyData.showableAll ds = true ∧ PyData.leavesShortAll 100 ds = true ∧ PyData.weightAll ds ≤ 201 * xs.length ∧ PyData.depthAll ds ≤ 1
  | [], _ => ⟨[], .nil, rfl, rfl, by simp [PyData.weightAll], by simp [PyData.depthAll]⟩
  | x :: r, h => by
    obtain ⟨d, hd, s⟩ := h x List.mem_cons_self
    obtain ⟨ds, h1, h2, h3, h4, h5⟩ := its_data r fun y hy => h y (List.mem_cons_of_mem _ hy)
    refine ⟨d :: ds, .cons hd h1, ?_, ?_, ?_, ?_⟩
    · rw [PyData.showableAll, s.sh, h2]
      rfl
    · rw [PyData.leavesShortAll, s.lv, h3]
      rfl
    · rw [PyData.weightAll, List.length_cons]
      have := s.wt
      omega
    · rw [PyData.depthAll]
      have := s.dp
      omega
theorem Gv.tup {av : Addr → Prop} {H : Hp} {p : Addr} {xs : List V} (e : H p = some (.tup xs)) (n : ¬ av p) (h : ∀ x ∈ xs, It av H x) (l : xs.length ≤ 120) : Gv av H (.ref p) := by
  obtain ⟨ds, h1, h2, h3, h4, h5⟩ := its_data xs h
  refine ⟨.tuple ds, .tup e n (Paired.length h1) (paired_ix h1), by rw [PyData.showable]; exact h2, by rw [PyData.leavesShort]; exact h3, ?_, ?_⟩
  · rw [PyData.weight]
    omega
  · rw [PyData.depth]
    omega
theorem Gv.lst {av : Addr → Prop} {H : Hp} {p : Addr} {xs : List V} (e : H p = some (.lst xs)) (n : ¬ av p) (h : ∀ x ∈ xs, It av H x) (l : xs.length ≤ 120) : Gv av H (.ref p) := by
  obtain ⟨ds, h1, h2, h3, h4, h5⟩ := its_data xs h
  refine ⟨.list ds, .lst e n (Paired.length h1) (paired_ix h1), by rw [PyData.showable]; exact h2, by rw [PyData.leavesShort]; exact h3, ?_, ?_⟩
  · rw [PyData.weight]
    omega
  · rw [PyData.depth]
    omega
theorem Vl.gv {av : Addr → Prop} {H : Hp} {M : Nat} {v : V} (x : Vl av H M v) (hM : M ≤ 120) : Gv av H v := by
  obtain ⟨p, xs, rfl, h, n, l, f⟩ := x
  rcases h with h | h
  · exact .tup h n f (by omega)
  · exact .lst h n f (by omega)
theorem Dv.less {av av' : Addr → Prop} {H : Hp} {v : V} {d : PyData} (k : ∀ b, av' b → av b) (h : Dv av H v d) : Dv av' H v d := by
  induction h with
  | non => exact .non
  | bl b => exact .bl b
  | int i => exact .int i
  | str x => exact .str x
  | lst e n l _ ih => exact .lst e (fun z => n (k _ z)) l ih
  | tup e n l _ ih => exact .tup e (fun z => n (k _ z)) l ih
  | dct e n p => exact .dct e (fun z => n (k _ z)) p
theorem Gv.less {av av' : Addr → Prop} {H : Hp} {v : V} (k : ∀ b, av' b → av b) (x : Gv av H v) : Gv av' H v := by
  obtain ⟨d, h, r⟩ := x
  exact ⟨d, Dv.less k h, r⟩
theorem Dv.kdAll {av : Addr → Prop} {H : Hp} {v : V} {d : PyData} (h : Dv av H v d) : KdAll H v := by
  refine ⟨Dv.kd h, fun p xs e hp x hx => ?_⟩
  subst e
  cases h with
  | lst e _ _ _ => rw [e] at hp; cases hp
  | dct e _ _ => rw [e] at hp; cases hp
  | tup e _ l f =>
    rw [e] at hp
    cases hp
    obtain ⟨i, hi, rfl⟩ := List.getElem_of_mem hx
    exact Dv.kd (f i _ _ (List.getElem?_eq_getElem hi) (List.getElem?_eq_getElem (by omega)))
theorem reOf_keep {H H' : Hp} {v : V} (kd : Kd H v) (s : Same H H') : reOf H' v = reOf H v := by
  cases kd with
  | lst e => simp only [reOf, e, s _ _ e]
  | tup e => simp only [reOf, e, s _ _ e]
  | dct e => simp only [reOf, e, s _ _ e]
  | _ => rfl
theorem KdAll.keep {H H' : Hp} {v : V} (k : KdAll H v) (s : Same H H') : KdAll H' v := by
  refine ⟨k.1.keep s, fun p xs e hp x hx => ?_⟩
  subst e
  obtain ⟨k1, k2⟩ := k
  cases k1 with
  | lst e => rw [s _ _ e] at hp; cases hp
  | dct e => rw [s _ _ e] at hp; cases hp
  | tup e =>
    have z := (s _ _ e).symm.trans hp
    cases z
    exact (k2 p _ rfl e x hx).keep s
/-- the value that stands for a judgement -/
def ReV (r : RE) (H : Hp) (v : V) : Prop := match r with
  | .ok => v = .non
  | .row => ∃ p, v = .ref p ∧ H p = some (.tup [.non, .str "row"])
  | .ent i => ∃ p, v = .ref p ∧ H p = some (.tup [.int (i : Int), .str "entry"]) ∧ i ≤ 100
theorem ret_of {r : RE} {H : Hp} {Q : VK} (hr : ∀ i, r = .ent i → i ≤ 100) (h : ∀ H' v', Same H H' → ReV r H' v' → Q v' H') : RetRE r H Q := by
  cases r with
  | ok => exact fun H' s => h H' _ s rfl
  | row => exact fun H' p s e => h H' _ s ⟨p, rfl, e⟩
  | ent i => exact fun H' p s e => h H' _ s ⟨p, rfl, e, hr i rfl⟩
theorem ReV.keep {r : RE} {H H' : Hp} {v : V} (h : ReV r H v) (s : Same H H') : ReV r H' v := by
  cases r with
  | ok => exact h
  | row =>
    obtain ⟨p, e, z⟩ := h
    exact ⟨p, e, s _ _ z⟩
  | ent i =>
    obtain ⟨p, e, z, l⟩ := h
    exact ⟨p, e, s _ _ z, l⟩
def reD : RE → PyData
  | .ok => .none
  | .row => .tuple [.none, .str "row"]
  | .ent i => .tuple [.int (i : Int), .str "entry"]
abbrev av0 : Addr → Prop := fun _ => False
theorem ReV.dv {r : RE} {H : Hp} {v : V} (h : ReV r H v) : Dv av0 H v (reD r) ∧ decide (v = .non) = isOk r := by
  cases r with
  | ok =>
    have e : v = .non := h
    subst e
    exact ⟨.non, rfl⟩
  | row =>
    obtain ⟨p, rfl, z⟩ := h
    exact ⟨.tup z id rfl (paired_ix (.cons .non (.cons (.str _) .nil))), rfl⟩
  | ent i =>
    obtain ⟨p, rfl, z, _⟩ := h
    exact ⟨.tup z id rfl (paired_ix (.cons (.int _) (.cons (.str _) .nil))), rfl⟩
theorem firstBad_lt : ∀ (xs : List V) (i j : Nat), firstBad xs i = .ent j → j < i + xs.length
  | [], i, j, h => by cases h
  | x :: r, i, j, h => by
    have h' : (if entV x = true then firstBad r (i + 1) else .ent i) = .ent j := h
    rw [List.length_cons]
    split at h'
    · have := firstBad_lt r (i + 1) j h'
      omega
    · cases h'
      omega
theorem reOf_lt {H : Hp} {v : V} (kd : Kd H v) : ∀ i, reOf H v = .ent i → i ≤ 100 := by
  intro i h
  cases kd with
  | tup e =>
    rw [reOf_tup e] at h
    split at h
    · cases h
    · have := firstBad_lt _ _ _ h
      omega
  | lst e => simp only [reOf, e] at h; cases h
  | dct e => simp only [reOf, e] at h; cases h
  | _ => cases h
theorem small_due {r : RE} {b : Bool} (hr : ∀ i, r = .ent i → i ≤ 100) : (PyData.list [reD r, .bool b]).showable = true ∧ (PyData.list [reD r, .bool b]).shown.length ≤ sizeLine ∧ (PyData.list [reD r, .bool b]).depth ≤ 60 := by
  have key : (PyData.list [reD r, .bool b]).showable = true ∧ (PyData.list [reD r, .bool b]).leavesShort 100 = true ∧ (PyData.list [reD r, .bool b]).weight ≤ 1000 ∧ (PyData.list [reD r, .bool b]).depth ≤ 60 := by
    cases r with
    | ok => cases b <;> exact ⟨by decide +kernel, by decide +kernel, by decide +kernel, by decide +kernel⟩
    | row => cases b <;> exact ⟨by decide +kernel, by decide +kernel, by decide +kernel, by decide +kernel⟩
    | ent i =>
      have hi := hr i rfl
      obtain ⟨d, hd, s⟩ := It.int (av := av0) (H := fun _ => none) (i := (i : Int)) (by omega)
      cases hd
      have w1 := s.wt
      have c1 : (PyData.str "entry").leavesShort 100 = true := by decide +kernel
      have c2 : (PyData.str "entry").weight = 5 := by decide +kernel
      refine ⟨?_, ?_, ?_, ?_⟩
      · simp only [reD, PyData.showable, PyData.showableAll, Bool.and_true]
        have z := s.sh
        rw [PyData.showable] at z
        exact z
      · simp only [reD, PyData.leavesShort, PyData.leavesShortAll, Bool.and_true]
        have z := s.lv
        simp only [PyData.leavesShort] at z c1
        rw [z, c1]
        rfl
      · simp only [reD, PyData.weight, PyData.weightAll] at w1 c2 ⊢
        omega
      · simp only [reD, PyData.depth, PyData.depthAll]
        decide
  refine ⟨key.1, ?_, key.2.2.2⟩
  have z := PyData.shown_le 100 (by decide) _ key.2.1
  have := key.2.2.1
  exact Nat.le_trans z (Nat.le_of_lt (Nat.lt_of_le_of_lt (by omega : _ ≤ 102 * 1000 + 100) (by decide)))
theorem gv_fits {d : PyData} (h1 : d.leavesShort 100 = true) (h2 : d.weight ≤ 30000) : d.shown.length ≤ sizeLine := by
  have z := PyData.shown_le 100 (by decide) _ h1
  exact Nat.le_trans z (Nat.le_of_lt (Nat.lt_of_le_of_lt (by omega : _ ≤ 102 * 30000 + 100) (by decide)))
end Lw
namespace Lw
open PySem PySem.Spec PyProof.Rows L2 Gd
abbrev sLaw : Stmt := topS 15
abbrev lawN : List Str := ["_law_script", "_law_stream_here", "_law_values", "_law_turn", "_law_row_here", "_law_bent_here", "_law_value", "_law_shown", "_law_due"]
theorem scLaw : FnScope lawN ["_law_script"] (defScope sLaw) := ⟨rfl, rfl, rfl, by decide +kernel, rfl, by decide +kernel, by decide +kernel⟩
def spLaw (K : PySem.W.Frag) : Sp := fun vs H Q _ => ∃ (sc : Addr) (ns : List Int), vs = [.ref sc] ∧ SqL K H sc (ns.map V.int) ∧ ns.length ≤ 63 ∧ ∀ H', Q (.bl true) H'
section
variable {P : Program} {w : World} {K : PySem.W.Frag} {mg : Str → Option Value} {base : Heap}
/-- the callees -/
structure Cal (P : Program) (w : World) (K : PySem.W.Frag) (mg : Str → Option Value) (base : Heap) (k : Nat) (x : Str) (f : Addr) (fd : FuncData) (ps : List Str) (sp : Sp) : Prop where
  G : FnOk P w K mg base CX0 k f fd ps sp
  kp : PySem.W.keepIn K (.ref f) = true
  b : Binds K fd ps []
  g : mg x = some (.ref f)
theorem ok_law {f fS fR fB fO fE fI fL : Addr} {fd dS dR dB dO dE dI dL : FuncData} {k : Nat} (F : Fun K "law" "law" sLaw f fd)
    (CS : Cal P w K mg base k "_law_stream" fS dS ["_law_script"] (spStream K)) (CR : Cal P w K mg base k "_law_row" fR dR ["_law_stream_here", "_law_most"] spRow) (CB : Cal P w K mg base k "_law_bent" fB dB ["_law_stream_here", "_law_value"] spBent)
    (CO : Cal P w K mg base k "_law_odd" fO dO ["_law_stream_here"] spOdd) (CE : Cal P w K mg base k "row_error" fE dE ["value"] spRE) (CI : Cal P w K mg base k "is_row" fI dI ["value"] spIsRow) (CL : Cal P w K mg base k "_law_row_error" fL dL ["_law_value"] spRE)
    (mr : mg "range" = none) (mp : mg "repr" = none) : FnG P w K mg base CX0 (k + 1) f fd ["_law_script"] (spLaw K) := by
  refine fnG_of F scLaw (fun vs H Q E h => ?_) (fun cdv A outer st H vs Q E hr hg h => ?_)
  · obtain ⟨sc, ns, rfl, _⟩ := h
    rfl
  · obtain ⟨sc, ns, rfl, hS, hlen, q⟩ := h
    refine ⟨_, pss_cons (ps_set (i := 1) scLaw.nd rfl (.inl rfl) (pe_call CS.G hr (by rfl) CS.g CS.kp CS.b .nil pass0 (pa_cons (pv 0) pa_nil)))
      (pss_cons (ps_set (i := 2) scLaw.nd rfl (.inl rfl) (pe_lst (pa_cons (pe_tup pa_nil) (pa_cons (pe_op op_repT (pe_tup (pa_cons pe_int pa_nil)) pe_int) (pa_cons (pe_op op_repT (pe_tup (pa_cons pe_int pa_nil)) pe_int)
        (pa_cons (pe_tup (pa_cons (pe_op op_pow pe_int pe_int) (pa_cons (pe_op op_sub pe_int (pe_op op_pow pe_int pe_int)) pa_nil))) (pa_cons (pe_tup (pa_cons (pe_op op_add (pe_op op_pow pe_int pe_int) pe_int) pa_nil))
        (pa_cons (pe_tup (pa_cons pe_int (pa_cons (pe_op op_sub (pe_op op_sub pe_int (pe_op op_pow pe_int pe_int)) pe_int) pa_nil))) (pa_cons (pe_tup (pa_cons pe_bl pa_nil)) pa_nil)))))))))
      (pss_cons (ps_set (i := 2) scLaw.nd rfl (.inl rfl) (pe_op op_cat (pv 2) (pe_lst (pa_cons (pe_tup (pa_cons pe_int (pa_cons pe_bl pa_nil))) (pa_cons (pe_tup (pa_cons (pe_tup pa_nil) pa_nil)) (pa_cons (pe_tup (pa_cons pe_int (pa_cons pe_non pa_nil)))
        (pa_cons (pe_tup (pa_cons pe_str pa_nil)) (pa_cons (pe_tup (pa_cons pe_int (pa_cons (pe_tup (pa_cons pe_int pa_nil)) pa_nil))) (pa_cons (pe_lst (pa_cons pe_int pa_nil)) pa_nil)))))))))
      (pss_cons (ps_for PassesOwn.never rfl (pi_range1 (by rfl) mr (pa_cons pe_int pa_nil)) (pg_name (i := 3) scLaw.nd rfl (.inl rfl))
        (pss_cons (ps_set (i := 4) scLaw.nd rfl (.inl rfl) (pe_call CR.G hr (by rfl) CR.g CR.kp CR.b .nil pass0 (pa_cons (pv 1) (pa_cons pe_int pa_nil))))
        (pss_cons (ps_set (i := 5) scLaw.nd rfl (.inl rfl) (pe_call CB.G hr (by rfl) CB.g CB.kp CB.b .nil pass0 (pa_cons (pv 1) (pa_cons (pv 4) pa_nil))))
        (pss_one (ps_set (i := 2) scLaw.nd rfl (.inl rfl) (pe_op op_cat (pv 2) (pe_lst (pa_cons (pv 4) (pa_cons (pv 5) (pa_cons (pe_call CB.G hr (by rfl) CB.g CB.kp CB.b .nil pass0 (pa_cons (pv 1) (pa_cons (pv 5) pa_nil)))
          (pa_cons (pe_call CO.G hr (by rfl) CO.g CO.kp CO.b .nil pass0 (pa_cons (pv 1) pa_nil)) (pa_cons (pe_op op_catA (pe_tup (pa_cons pe_non pa_nil)) (pv 4))
          (pa_cons (pe_op op_catA (pv 4) (pe_tup (pa_cons pe_non (pa_cons pe_bl pa_nil)))) pa_nil)))))))))))))
      (pss_cons (ps_for PassesOwn.never rfl (pi_list (pv 2)) (pg_name (i := 6) scLaw.nd rfl (.inl rfl))
        (pss_cons (ps_par (i := 7) (j := 8) rfl scLaw.nd rfl rfl (by decide) rfl rfl (pa_cons (pe_callB (call_repr (av := av0) hg hr.units) (by rfl) mp (by decide +kernel) (pa_cons (pv 6) pa_nil)) (pa_cons (pe_call CL.G hr (by rfl) CL.g CL.kp CL.b .nil pass0 (pa_cons (pv 6) pa_nil)) pa_nil)) (by rfl))
        (pss_one (ps_if (PW.pt (pw_or (pt_cmpR op_ne (pe_callB (call_repr (av := av0) hg hr.units) (by rfl) mp (by decide +kernel) (pa_cons (pe_lst (pa_cons (pe_call CE.G hr (by rfl) CE.g CE.kp CE.b .nil pass0 (pa_cons (pv 6) pa_nil))
              (pa_cons (pe_call CI.G hr (by rfl) CI.g CI.kp CI.b .nil pass0 (pa_cons (pv 6) pa_nil)) pa_nil))) pa_nil))
            (pe_callB (call_repr (av := av0) hg hr.units) (by rfl) mp (by decide +kernel) (pa_cons (pe_lst (pa_cons (pv 8) (pa_cons (pe_cmpR op_isN (pv 8) pe_non (nomark _)) pa_nil))) pa_nil)) (nomark _))
          (pw_or1 (pt_cmpR op_ne (pe_callB (call_repr (av := av0) hg hr.units) (by rfl) mp (by decide +kernel) (pa_cons (pv 6) pa_nil)) (pv 7) (nomark _)))))
          (pss_one (ps_ret pe_bl)) pss_nil))))
      (pss_one (ps_ret pe_bl)))))), ?_⟩
    have one : 1 ≤ sizeLine := by decide
    have two : 2 ≤ sizeLine := by decide
    refine ⟨.ref sc, rfl, sc, ns, rfl, hS, hlen, fun H1 s a b h01 hs0 ha0 hb0 sm => ?_⟩
    refine ⟨Nat.zero_le _, fun p1 n1 => ?_⟩
    have s1 : Same H1 (upd H1 p1 (.tup [])) := same_upd n1
    have e1 : (upd H1 p1 (.tup [])) p1 = some (.tup []) := upd_same
    generalize upd H1 p1 (.tup []) = G1 at *
    refine ⟨one, fun c1 m1 => ?_⟩
    have s2 : Same G1 (upd G1 c1 (.tup [.int 0])) := same_upd m1
    have e2 : (upd G1 c1 (.tup [.int 0])) c1 = some (.tup [.int 0]) := upd_same
    generalize upd G1 c1 (.tup [.int 0]) = G2 at *
    refine ⟨c1, 12, _, rfl, rfl, .inl (.inl e2), by simp, by decide, by decide, by decide, fun p2 n2 => ?_⟩
    have s3 : Same G2 (upd G2 p2 (.tup (List.replicate (12 : Int).toNat [V.int 0]).flatten)) := same_upd n2
    have e3 : (upd G2 p2 (.tup (List.replicate (12 : Int).toNat [V.int 0]).flatten)) p2 = some (.tup (List.replicate (12 : Int).toNat [V.int 0]).flatten) := upd_same
    generalize upd G2 p2 (.tup (List.replicate (12 : Int).toNat [V.int 0]).flatten) = G3 at *
    refine ⟨one, fun c2 m2 => ?_⟩
    have s4 : Same G3 (upd G3 c2 (.tup [.int 0])) := same_upd m2
    have e4 : (upd G3 c2 (.tup [.int 0])) c2 = some (.tup [.int 0]) := upd_same
    generalize upd G3 c2 (.tup [.int 0]) = G4 at *
    refine ⟨c2, 13, _, rfl, rfl, .inl (.inl e4), by simp, by decide, by decide, by decide, fun p3 n3 => ?_⟩
    have s5 : Same G4 (upd G4 p3 (.tup (List.replicate (13 : Int).toNat [V.int 0]).flatten)) := same_upd n3
    have e5 : (upd G4 p3 (.tup (List.replicate (13 : Int).toNat [V.int 0]).flatten)) p3 = some (.tup (List.replicate (13 : Int).toNat [V.int 0]).flatten) := upd_same
    generalize upd G4 p3 (.tup (List.replicate (13 : Int).toNat [V.int 0]).flatten) = G5 at *
    refine ⟨10, 9, rfl, rfl, ⟨by decide, by decide, by decide⟩, 10, 9, rfl, rfl, ⟨by decide, by decide, by decide⟩, 0, _, rfl, rfl, two, fun p4 n4 => ?_⟩
    dsimp only
    have s6 : Same G5 (upd G5 p4 (.tup [.int ((10 : Int) ^ (9 : Int).toNat), .int (0 - (10 : Int) ^ (9 : Int).toNat)])) := same_upd n4
    have e6 : (upd G5 p4 (.tup [.int ((10 : Int) ^ (9 : Int).toNat), .int (0 - (10 : Int) ^ (9 : Int).toNat)])) p4 = some (.tup [.int ((10 : Int) ^ (9 : Int).toNat), .int (0 - (10 : Int) ^ (9 : Int).toNat)]) := upd_same
    generalize upd G5 p4 (.tup [.int ((10 : Int) ^ (9 : Int).toNat), .int (0 - (10 : Int) ^ (9 : Int).toNat)]) = G6 at *
    refine ⟨10, 9, rfl, rfl, ⟨by decide, by decide, by decide⟩, _, 1, rfl, rfl, one, fun p5 n5 => ?_⟩
    dsimp only
    have s7 : Same G6 (upd G6 p5 (.tup [.int ((10 : Int) ^ (9 : Int).toNat + 1)])) := same_upd n5
    have e7 : (upd G6 p5 (.tup [.int ((10 : Int) ^ (9 : Int).toNat + 1)])) p5 = some (.tup [.int ((10 : Int) ^ (9 : Int).toNat + 1)]) := upd_same
    generalize upd G6 p5 (.tup [.int ((10 : Int) ^ (9 : Int).toNat + 1)]) = G7 at *
    refine ⟨10, 9, rfl, rfl, ⟨by decide, by decide, by decide⟩, 0, _, rfl, rfl, _, 1, rfl, rfl, two, fun p6 n6 => ?_⟩
    dsimp only
    have s8 : Same G7 (upd G7 p6 (.tup [.int 0, .int (0 - (10 : Int) ^ (9 : Int).toNat - 1)])) := same_upd n6
    have e8 : (upd G7 p6 (.tup [.int 0, .int (0 - (10 : Int) ^ (9 : Int).toNat - 1)])) p6 = some (.tup [.int 0, .int (0 - (10 : Int) ^ (9 : Int).toNat - 1)]) := upd_same
    generalize upd G7 p6 (.tup [.int 0, .int (0 - (10 : Int) ^ (9 : Int).toNat - 1)]) = G8 at *
    refine ⟨one, fun p7 n7 => ?_⟩
    have s9 : Same G8 (upd G8 p7 (.tup [.bl true])) := same_upd n7
    have e9 : (upd G8 p7 (.tup [.bl true])) p7 = some (.tup [.bl true]) := upd_same
    generalize upd G8 p7 (.tup [.bl true]) = G9 at *
    refine ⟨by show 7 ≤ sizeLine; decide, fun l1 x1 => ?_⟩
    have s10 : Same G9 (upd G9 l1 (.lst [.ref p1, .ref p2, .ref p3, .ref p4, .ref p5, .ref p6, .ref p7])) := same_upd x1
    have e10 : (upd G9 l1 (.lst [.ref p1, .ref p2, .ref p3, .ref p4, .ref p5, .ref p6, .ref p7])) l1 = some (.lst [.ref p1, .ref p2, .ref p3, .ref p4, .ref p5, .ref p6, .ref p7]) := upd_same
    generalize upd G9 l1 (.lst [.ref p1, .ref p2, .ref p3, .ref p4, .ref p5, .ref p6, .ref p7]) = G10 at *
    refine ⟨.ref l1, rfl, two, fun q1 y1 => ?_⟩
    have s11 : Same G10 (upd G10 q1 (.tup [.int 0, .bl false])) := same_upd y1
    have e11 : (upd G10 q1 (.tup [.int 0, .bl false])) q1 = some (.tup [.int 0, .bl false]) := upd_same
    generalize upd G10 q1 (.tup [.int 0, .bl false]) = G11 at *
    refine ⟨Nat.zero_le _, fun c3 z3 => ?_⟩
    have s12 : Same G11 (upd G11 c3 (.tup [])) := same_upd z3
    have e12 : (upd G11 c3 (.tup [])) c3 = some (.tup []) := upd_same
    generalize upd G11 c3 (.tup []) = G12 at *
    refine ⟨one, fun q2 y2 => ?_⟩
    have s13 : Same G12 (upd G12 q2 (.tup [.ref c3])) := same_upd y2
    have e13 : (upd G12 q2 (.tup [.ref c3])) q2 = some (.tup [.ref c3]) := upd_same
    generalize upd G12 q2 (.tup [.ref c3]) = G13 at *
    refine ⟨two, fun q3 y3 => ?_⟩
    have s14 : Same G13 (upd G13 q3 (.tup [.int 0, .non])) := same_upd y3
    have e14 : (upd G13 q3 (.tup [.int 0, .non])) q3 = some (.tup [.int 0, .non]) := upd_same
    generalize upd G13 q3 (.tup [.int 0, .non]) = G14 at *
    refine ⟨one, fun q4 y4 => ?_⟩
    have s15 : Same G14 (upd G14 q4 (.tup [.str "0"])) := same_upd y4
    have e15 : (upd G14 q4 (.tup [.str "0"])) q4 = some (.tup [.str "0"]) := upd_same
    generalize upd G14 q4 (.tup [.str "0"]) = G15 at *
    refine ⟨one, fun c4 z4 => ?_⟩
    have s16 : Same G15 (upd G15 c4 (.tup [.int 2])) := same_upd z4
    have e16 : (upd G15 c4 (.tup [.int 2])) c4 = some (.tup [.int 2]) := upd_same
    generalize upd G15 c4 (.tup [.int 2]) = G16 at *
    refine ⟨two, fun q5 y5 => ?_⟩
    have s17 : Same G16 (upd G16 q5 (.tup [.int 1, .ref c4])) := same_upd y5
    have e17 : (upd G16 q5 (.tup [.int 1, .ref c4])) q5 = some (.tup [.int 1, .ref c4]) := upd_same
    generalize upd G16 q5 (.tup [.int 1, .ref c4]) = G17 at *
    refine ⟨one, fun q6 y6 => ?_⟩
    have s18 : Same G17 (upd G17 q6 (.lst [.int 0])) := same_upd y6
    have e18 : (upd G17 q6 (.lst [.int 0])) q6 = some (.lst [.int 0]) := upd_same
    generalize upd G17 q6 (.lst [.int 0]) = G18 at *
    refine ⟨by show 6 ≤ sizeLine; decide, fun l2 x2 => ?_⟩
    have s19 : Same G18 (upd G18 l2 (.lst [.ref q1, .ref q2, .ref q3, .ref q4, .ref q5, .ref q6])) := same_upd x2
    have e19 : (upd G18 l2 (.lst [.ref q1, .ref q2, .ref q3, .ref q4, .ref q5, .ref q6])) l2 = some (.lst [.ref q1, .ref q2, .ref q3, .ref q4, .ref q5, .ref q6]) := upd_same
    generalize upd G18 l2 (.lst [.ref q1, .ref q2, .ref q3, .ref q4, .ref q5, .ref q6]) = G19 at *
    have t19 := Same.refl G19
    have t18 := s19.trans t19
    have t17 := s18.trans t18
    have t16 := s17.trans t17
    have t15 := s16.trans t16
    have t14 := s15.trans t15
    have t13 := s14.trans t14
    have t12 := s13.trans t13
    have t11 := s12.trans t12
    have t10 := s11.trans t11
    have t9 := s10.trans t10
    have t8 := s9.trans t9
    have t7 := s8.trans t8
    have t6 := s7.trans t7
    have t5 := s6.trans t6
    have t4 := s5.trans t5
    have t3 := s4.trans t4
    have t2 := s3.trans t3
    have t1 := s2.trans t2
    have t0 := s1.trans t1
    have u0 := Same.refl H1
    have u1 := u0.trans s1
    have u2 := u1.trans s2
    have u3 := u2.trans s3
    have u4 := u3.trans s4
    have u5 := u4.trans s5
    have u6 := u5.trans s6
    have u7 := u6.trans s7
    have u8 := u7.trans s8
    have u9 := u8.trans s9
    have u10 := u9.trans s10
    have u11 := u10.trans s11
    have u12 := u11.trans s12
    have u13 := u12.trans s13
    have u14 := u13.trans s14
    have u15 := u14.trans s15
    have u16 := u15.trans s16
    have u17 := u16.trans s17
    have u18 := u17.trans s18
    have u19 := u18.trans s19
    have f_p1 := t1 _ _ e1
    have v_p1 : ¬ Av s a p1 := sm.nav (u0.free n1)
    have f_c1 := t2 _ _ e2
    have v_c1 : ¬ Av s a c1 := sm.nav (u1.free m1)
    have f_p2 := t3 _ _ e3
    have v_p2 : ¬ Av s a p2 := sm.nav (u2.free n2)
    have f_c2 := t4 _ _ e4
    have v_c2 : ¬ Av s a c2 := sm.nav (u3.free m2)
    have f_p3 := t5 _ _ e5
    have v_p3 : ¬ Av s a p3 := sm.nav (u4.free n3)
    have f_p4 := t6 _ _ e6
    have v_p4 : ¬ Av s a p4 := sm.nav (u5.free n4)
    have f_p5 := t7 _ _ e7
    have v_p5 : ¬ Av s a p5 := sm.nav (u6.free n5)
    have f_p6 := t8 _ _ e8
    have v_p6 : ¬ Av s a p6 := sm.nav (u7.free n6)
    have f_p7 := t9 _ _ e9
    have v_p7 : ¬ Av s a p7 := sm.nav (u8.free n7)
    have f_l1 := t10 _ _ e10
    have v_l1 : ¬ Av s a l1 := sm.nav (u9.free x1)
    have f_q1 := t11 _ _ e11
    have v_q1 : ¬ Av s a q1 := sm.nav (u10.free y1)
    have f_c3 := t12 _ _ e12
    have v_c3 : ¬ Av s a c3 := sm.nav (u11.free z3)
    have f_q2 := t13 _ _ e13
    have v_q2 : ¬ Av s a q2 := sm.nav (u12.free y2)
    have f_q3 := t14 _ _ e14
    have v_q3 : ¬ Av s a q3 := sm.nav (u13.free y3)
    have f_q4 := t15 _ _ e15
    have v_q4 : ¬ Av s a q4 := sm.nav (u14.free y4)
    have f_c4 := t16 _ _ e16
    have v_c4 : ¬ Av s a c4 := sm.nav (u15.free z4)
    have f_q5 := t17 _ _ e17
    have v_q5 : ¬ Av s a q5 := sm.nav (u16.free y5)
    have f_q6 := t18 _ _ e18
    have v_q6 : ¬ Av s a q6 := sm.nav (u17.free y6)
    have f_l2 := t19 _ _ e19
    have v_l2 : ¬ Av s a l2 := sm.nav (u18.free x2)
    have smn := sm.keep t0
    have int0 : ∀ {i : Int}, i.natAbs < 10 ^ 30 → It (Av s a) G19 (.int i) := fun h => It.int h
    have nonI : It (Av s a) G19 .non := ⟨_, .non, ⟨rfl, rfl, by decide, by decide⟩⟩
    have blI : ∀ b, It (Av s a) G19 (.bl b) := fun b => ⟨_, .bl b, ⟨rfl, rfl, by cases b <;> decide, by cases b <;> decide⟩⟩
    have strI : It (Av s a) G19 (.str "0") := ⟨_, .str _, ⟨rfl, by decide +kernel, by decide +kernel, by decide⟩⟩
    have c3I : It (Av s a) G19 (.ref c3) := It.tup f_c3 v_c3 .nil ⟨by decide +kernel, by decide +kernel, by decide +kernel, by decide +kernel⟩
    have c4I : It (Av s a) G19 (.ref c4) := It.tup f_c4 v_c4 (.cons (.int 2) .nil) ⟨by decide +kernel, by decide +kernel, by decide +kernel, by decide +kernel⟩
    refine ⟨l1, l2, _, _, rfl, rfl, f_l1, f_l2, by show 13 ≤ sizeLine; decide, fun l3 x3 => ?_⟩
    have all0 : ∀ v ∈ ([.ref p1, .ref p2, .ref p3, .ref p4, .ref p5, .ref p6, .ref p7] ++ [.ref q1, .ref q2, .ref q3, .ref q4, .ref q5, .ref q6] : List V), Gv (Av s a) G19 v := by
      intro v hv
      simp only [List.mem_append, List.mem_cons, List.not_mem_nil, or_false] at hv
      have mem1 : ∀ {y z : V}, It (Av s a) G19 y → z ∈ [y] → It (Av s a) G19 z := fun h m => by rw [List.mem_singleton.mp m]; exact h
      have mem2 : ∀ {x y z : V}, It (Av s a) G19 x → It (Av s a) G19 y → z ∈ [x, y] → It (Av s a) G19 z := fun h1 h2 m => by
        rcases List.mem_cons.mp m with rfl | m
        · exact h1
        · exact mem1 h2 m
      rcases hv with (rfl | rfl | rfl | rfl | rfl | rfl | rfl) | (rfl | rfl | rfl | rfl | rfl | rfl)
      · exact Gv.tup f_p1 v_p1 (fun x hx => nomatch hx) (by decide)
      · exact Gv.tup f_p2 v_p2 (fun x hx => by
          have z : x = .int 0 := by simpa using hx
          rw [z]
          exact int0 (by decide)) (by decide)
      · exact Gv.tup f_p3 v_p3 (fun x hx => by
          have z : x = .int 0 := by simpa using hx
          rw [z]
          exact int0 (by decide)) (by decide)
      · exact Gv.tup f_p4 v_p4 (fun x hx => mem2 (int0 (by decide)) (int0 (by decide)) hx) (by show 2 ≤ 120; decide)
      · exact Gv.tup f_p5 v_p5 (fun x hx => mem1 (int0 (by decide)) hx) (by show 1 ≤ 120; decide)
      · exact Gv.tup f_p6 v_p6 (fun x hx => mem2 (int0 (by decide)) (int0 (by decide)) hx) (by show 2 ≤ 120; decide)
      · exact Gv.tup f_p7 v_p7 (fun x hx => mem1 (blI _) hx) (by show 1 ≤ 120; decide)
      · exact Gv.tup f_q1 v_q1 (fun x hx => mem2 (int0 (by decide)) (blI _) hx) (by show 2 ≤ 120; decide)
      · exact Gv.tup f_q2 v_q2 (fun x hx => mem1 c3I hx) (by show 1 ≤ 120; decide)
      · exact Gv.tup f_q3 v_q3 (fun x hx => mem2 (int0 (by decide)) nonI hx) (by show 2 ≤ 120; decide)
      · exact Gv.tup f_q4 v_q4 (fun x hx => mem1 strI hx) (by show 1 ≤ 120; decide)
      · exact Gv.tup f_q5 v_q5 (fun x hx => mem2 (int0 (by decide)) c4I hx) (by show 2 ≤ 120; decide)
      · exact Gv.lst f_q6 v_q6 (fun x hx => mem1 (int0 (by decide)) hx) (by show 1 ≤ 120; decide)
    have l3len : ([.ref p1, .ref p2, .ref p3, .ref p4, .ref p5, .ref p6, .ref p7] ++ [.ref q1, .ref q2, .ref q3, .ref q4, .ref q5, .ref q6] : List V).length = 13 := rfl
    generalize ([.ref p1, .ref p2, .ref p3, .ref p4, .ref p5, .ref p6, .ref p7] ++ [.ref q1, .ref q2, .ref q3, .ref q4, .ref q5, .ref q6] : List V) = vals0 at *
    have s3' : Same G19 (upd G19 l3 (.lst vals0)) := same_upd x3
    have e3' : (upd G19 l3 (.lst vals0)) l3 = some (.lst vals0) := upd_same
    have nv3 := smn.nav x3
    have smA := smn.keep s3'
    have allA : ∀ v ∈ vals0, Gv (Av s a) (upd G19 l3 (.lst vals0)) v := fun v hv => (all0 v hv).keep (Kp.of_same s3')
    generalize upd G19 l3 (.lst vals0) = GA at *
    clear all0 int0 nonI blI strI c3I c4I s3'
    have cl1 : True := trivial
    refine ⟨12, rfl, by decide, by decide, for_range (n := (12 : Int).toNat) (fun i σ H2 => ∃ L xs y3 y4 y5, σ = [some (.ref sc), some (.ref s), some (.ref L), y3, y4, y5, none, none, none] ∧ Sm H2 s a b (100 * i) ∧ H2 L = some (.lst xs) ∧ ¬ Av s a L ∧ xs.length ≤ 13 + 6 * i ∧ ∀ v ∈ xs, Gv (Av s a) H2 v)
      ⟨l3, vals0, none, none, none, rfl, smA, e3', nv3, by omega, allA⟩ (fun i σ H2 hi hW => ?_) (fun σ H2 hW => ?_)⟩
    · obtain ⟨L, xs, y3, y4, y5, rfl, sm2, hL, nL, lx, gx⟩ := hW
      have hi' : i < 12 := hi
      -- _law_row_here
      refine ⟨.ref s, rfl, s, a, b, _, 12, rfl, sm2, by omega, by decide, by decide, fun H3 p rs k3 sm3 hp r1 r2 rb => ?_⟩
      have np3 : ¬ Av s a p := sm3.navT hp
      have itr : ∀ {G : Hp}, ∀ x ∈ rs.map V.int, It (Av s a) G x := by
        intro G x hx
        obtain ⟨n, hn, rfl⟩ := List.mem_map.mp hx
        have := rb n hn
        exact It.int (by omega)
      have lr : (rs.map V.int).length ≤ 12 := by rw [List.length_map]; omega
      have vl3 : Vl (Av s a) H3 12 (.ref p) := ⟨p, _, rfl, .inl hp, np3, lr, itr⟩
      -- _law_bent_here
      refine ⟨.ref s, rfl, .ref p, rfl, s, a, b, _, 12, .ref p, rfl, sm3, by omega, by decide, vl3, fun H4 v4 k4 sm4 vl4 => ?_⟩
      -- the third, the odd one
      refine ⟨.ref L, rfl, .ref p, rfl, v4, rfl, .ref s, rfl, v4, rfl, s, a, b, _, 38, v4, rfl, sm4, by omega, by decide, vl4, fun H5 v5 k5 sm5 vl5 => ?_⟩
      refine ⟨.ref s, rfl, s, a, b, _, rfl, sm5, by omega, fun H6 v6 k6 sm6 it6 => ?_⟩
      have hp6 : H6 p = some (.tup (rs.map V.int)) := k6 _ _ (k5 _ _ (k4 _ _ hp np3) np3) np3
      have hL6 : H6 L = some (.lst xs) := k6 _ _ (k5 _ _ (k4 _ _ (k3 _ _ hL nL) nL) nL) nL
      -- (None,) + row
      refine ⟨one, fun c nc => ?_⟩
      have s7 := same_upd (o := .tup [.non]) nc
      have e7 : (upd H6 c (.tup [.non])) c = some (.tup [.non]) := upd_same
      generalize upd H6 c (.tup [.non]) = H7 at *
      refine ⟨.ref p, rfl, cata_of e7 (s7 _ _ hp6) (Nat.le_of_lt (small_of (by show 1 + _ ≤ _; omega))) fun w1 H8 g8 ew1 => ?_⟩
      -- row + (None, True)
      refine ⟨.ref p, rfl, two, fun d nd => ?_⟩
      have s9 := same_upd (o := .tup [.non, .bl true]) nd
      have e9 : (upd H8 d (.tup [.non, .bl true])) d = some (.tup [.non, .bl true]) := upd_same
      generalize upd H8 d (.tup [.non, .bl true]) = H9 at *
      refine cata_of (s9 _ _ (g8 _ _ (s7 _ _ hp6))) e9 (Nat.le_of_lt (small_of (by show _ + 2 ≤ _; omega))) fun w2 H10 g10 ew2 => ?_
      refine ⟨by show 6 ≤ sizeLine; decide, fun l4 x4 => ?_⟩
      have s11 := same_upd (o := .lst [.ref p, v4, v5, v6, .ref w1, .ref w2]) x4
      have e11 : (upd H10 l4 (.lst [.ref p, v4, v5, v6, .ref w1, .ref w2])) l4 = some (.lst [.ref p, v4, v5, v6, .ref w1, .ref w2]) := upd_same
      have c11 : Same H6 (upd H10 l4 (.lst [.ref p, v4, v5, v6, .ref w1, .ref w2])) := s7.trans (g8.trans (s9.trans (g10.trans s11)))
      have fw1 := s11 _ _ (g10 _ _ (s9 _ _ ew1))
      have fw2 := s11 _ _ ew2
      generalize upd H10 l4 (.lst [.ref p, v4, v5, v6, .ref w1, .ref w2]) = H11 at *
      refine ⟨L, l4, xs, _, rfl, rfl, c11 _ _ hL6, e11, Nat.le_of_lt (small_of (by show _ + 6 ≤ _; omega)), fun l5 x5 => ?_⟩
      have s12 := same_upd (o := .lst (xs ++ [.ref p, v4, v5, v6, .ref w1, .ref w2])) x5
      have sm11 := sm6.keep c11
      have sm12 := sm11.keep s12
      have k12 : Kp (Av s a) H6 (upd H11 l5 (.lst (xs ++ [.ref p, v4, v5, v6, .ref w1, .ref w2]))) := Kp.of_same (c11.trans s12)
      refine ⟨l5, _, _, _, _, rfl, sm12.mono (by omega), upd_same, sm11.nav x5, ?_, fun v hv => ?_⟩
      · rw [List.length_append]
        show _ + 6 ≤ _
        omega
      · rcases List.mem_append.mp hv with hv | hv
        · exact (gx v hv).keep (k3.trans (k4.trans (k5.trans (k6.trans k12))))
        · simp only [List.mem_cons, List.not_mem_nil, or_false] at hv
          have nonI : It (Av s a) (upd H11 l5 (.lst (xs ++ [.ref p, v4, v5, v6, .ref w1, .ref w2]))) .non := ⟨_, .non, ⟨rfl, rfl, by decide, by decide⟩⟩
          have blI : It (Av s a) (upd H11 l5 (.lst (xs ++ [.ref p, v4, v5, v6, .ref w1, .ref w2]))) (.bl true) := ⟨_, .bl true, ⟨rfl, rfl, by decide, by decide⟩⟩
          rcases hv with rfl | rfl | rfl | rfl | rfl | rfl
          · exact (vl3.keep (k4.trans (k5.trans (k6.trans k12)))).gv (by decide)
          · exact (vl4.keep (k5.trans (k6.trans k12))).gv (by decide)
          · exact (vl5.keep (k6.trans k12)).gv (by decide)
          · exact (it6.keep k12).gv
          · refine Gv.tup (s12 _ _ fw1) (sm11.navT fw1) (fun x hx => ?_) (by rw [List.length_append]; show 1 + _ ≤ _; omega)
            rcases List.mem_append.mp hx with z | z
            · rw [List.mem_singleton.mp z]
              exact nonI
            · exact itr x z
          · refine Gv.tup (s12 _ _ fw2) (sm11.navT fw2) (fun x hx => ?_) (by rw [List.length_append]; show _ + 2 ≤ _; omega)
            rcases List.mem_append.mp hx with z | z
            · exact itr x z
            · rcases List.mem_cons.mp z with rfl | z
              · exact nonI
              · rw [List.mem_singleton.mp z]
                exact blI
    · obtain ⟨L, xs, y3, y4, y5, rfl, sm2, hL, nL, lx, gx⟩ := hW
      -- for _law_value in _law_values
      refine ⟨.ref L, rfl, L, rfl, ⟨_, .inl (.inl hL)⟩, for_list (xs := xs) (fun i σ H3 => Same H2 H3 ∧ ∃ y3 y4 y5 y6 y7 y8, σ = [some (.ref sc), some (.ref s), some (.ref L), y3, y4, y5, y6, y7, y8]) ⟨Same.refl H2, _, _, _, _, _, _, rfl⟩ (fun i σ H3 _ p => .inl (.inl (p.1 _ _ hL))) (fun i x σ H3 hx p => ?_) (fun σ H3 p => q H3)⟩
      obtain ⟨g3, y3, y4, y5, y6, y7, y8, rfl⟩ := p
      obtain ⟨d, dv, d1, d2, d3, d4⟩ := ((gx x (List.mem_of_getElem? hx)).less (av' := av0) (fun _ z => z.elim)).keep (Kp.of_same g3)
      have fit := gv_fits d2 d3
      have ka := Dv.kdAll dv
      have lt := reOf_lt ka.1
      -- _law_shown, _law_due
      refine ⟨x, rfl, x, d, rfl, dv, d1, fit, by omega, x, rfl, x, rfl, ka, ret_of lt fun H4 v4 g4 r4 => ⟨_, _, rfl, ?_⟩⟩
      -- row_error, is_row
      have ka4 := ka.keep g4
      have re4 := reOf_keep ka.1 g4
      refine ⟨x, rfl, x, rfl, ka4, ret_of (by rw [re4]; exact lt) fun H5 v5 g5 r5 => ?_⟩
      rw [re4] at r5
      have g35 := g4.trans g5
      refine ⟨x, rfl, x, rfl, ka.keep g35, fun H6 g6 => ?_⟩
      have re5 := reOf_keep ka.1 g35
      rw [re5]
      generalize hr0 : reOf H3 x = r0 at *
      refine ⟨two, fun l6 n6 => ?_⟩
      have s7 := same_upd (o := .lst [v5, .bl (isOk r0)]) n6
      have e7 : (upd H6 l6 (.lst [v5, .bl (isOk r0)])) l6 = some (.lst [v5, .bl (isOk r0)]) := upd_same
      generalize upd H6 l6 (.lst [v5, .bl (isOk r0)]) = H7 at *
      obtain ⟨sd1, sd2, sd3⟩ := small_due (r := r0) (b := isOk r0) lt
      have dv5 := ((r5.keep g6).keep s7).dv.1
      refine ⟨.ref l6, .list [reD r0, .bool (isOk r0)], rfl, .lst e7 id rfl (paired_ix (.cons dv5 (.cons (.bl _) .nil))), sd1, sd2, sd3, ?_⟩
      -- [due, due is None]
      have c7 : Same H4 H7 := g5.trans (g6.trans s7)
      refine ⟨v4, rfl, v4, rfl, rfl, two, fun l8 n8 => ?_⟩
      have s9 := same_upd (o := .lst [v4, .bl (decide (v4 = .non))]) n8
      have e9 : (upd H7 l8 (.lst [v4, .bl (decide (v4 = .non))])) l8 = some (.lst [v4, .bl (decide (v4 = .non))]) := upd_same
      generalize upd H7 l8 (.lst [v4, .bl (decide (v4 = .non))]) = H9 at *
      have rv9 := ((r4.keep c7).keep s9).dv
      rw [rv9.2] at e9
      refine ⟨.ref l8, .list [reD r0, .bool (isOk r0)], rfl, .lst e9 id rfl (paired_ix (.cons rv9.1 (.cons (.bl _) .nil))), sd1, sd2, sd3, ?_⟩
      have c9 : Same H3 H9 := g4.trans (c7.trans s9)
      refine ⟨rfl, _, rfl, iteNS rfl ?_⟩
      refine ⟨x, rfl, x, d, rfl, dv.keep (Kp.of_same c9), d1, fit, by omega, ?_⟩
      refine ⟨_, rfl, rfl, _, rfl, iteNS rfl ?_⟩
      exact ⟨g3.trans c9, _, _, _, _, _, _, rfl⟩
end
end Lw
namespace Lw
open PySem PySem.Spec PyProof.Rows L2 Gd
theorem all_mk {l : PySem.W.OpenLaw} {w : World} {K : PySem.W.Frag} {h : Heap} {mg : Str → Option Value} {fa f1 f2 f3 f4 f5 f6 f7 f8 f9 f10 f11 f12 : Addr} (X : K.In h) (G : h.Ns mainGlobals mg) (hfa : mg "law" = some (.ref fa))
    {od1 an1 : Option Addr} {sl1 : Array (Option Value)} {oc1 kV1 dc1 pm1 cd1 ct1 : Value}
    {od2 an2 : Option Addr} {sl2 : Array (Option Value)} {oc2 kV2 dc2 pm2 cd2 ct2 : Value}
    {od3 an3 : Option Addr} {sl3 : Array (Option Value)} {oc3 kV3 dc3 pm3 cd3 ct3 : Value}
    {od4 an4 : Option Addr} {sl4 : Array (Option Value)} {oc4 kV4 dc4 pm4 cd4 ct4 : Value}
    {od5 an5 : Option Addr} {sl5 : Array (Option Value)} {oc5 kV5 dc5 pm5 cd5 ct5 : Value}
    {od6 an6 : Option Addr} {sl6 : Array (Option Value)} {oc6 kV6 dc6 pm6 cd6 ct6 : Value}
    {od7 an7 : Option Addr} {sl7 : Array (Option Value)} {oc7 kV7 dc7 pm7 cd7 ct7 : Value}
    {od8 an8 : Option Addr} {sl8 : Array (Option Value)} {oc8 kV8 dc8 pm8 cd8 ct8 : Value}
    {od9 an9 : Option Addr} {sl9 : Array (Option Value)} {oc9 kV9 dc9 pm9 cd9 ct9 : Value}
    {od10 an10 : Option Addr} {sl10 : Array (Option Value)} {oc10 kV10 dc10 pm10 cd10 ct10 : Value}
    {od11 an11 : Option Addr} {sl11 : Array (Option Value)} {oc11 kV11 dc11 pm11 cd11 ct11 : Value}
    {od12 an12 : Option Addr} {sl12 : Array (Option Value)} {oc12 kV12 dc12 pm12 cd12 ct12 : Value}
    (a1 : PySem.W.nsIn K mainGlobals "is_whole" = some (some (.ref f1))) (l1 : K.lookup f1 = some ⟨oc1, od1, .func (PySem.W.fnOf "is_whole" "is_whole" (defArgs sWhole) (defBody sWhole) (defScope sWhole) .none kV1 dc1 pm1 an1 cd1 ct1), sl1⟩) (c1 : PySem.W.codeIn K cd1 "is_whole" = true) (k1 : PySem.W.keepIn K (.ref f1) = true)
    (a2 : PySem.W.nsIn K mainGlobals "is_entry" = some (some (.ref f2))) (l2 : K.lookup f2 = some ⟨oc2, od2, .func (PySem.W.fnOf "is_entry" "is_entry" (defArgs sEntry) (defBody sEntry) (defScope sEntry) .none kV2 dc2 pm2 an2 cd2 ct2), sl2⟩) (c2 : PySem.W.codeIn K cd2 "is_entry" = true) (k2 : PySem.W.keepIn K (.ref f2) = true)
    (a3 : PySem.W.nsIn K mainGlobals "row_error" = some (some (.ref f3))) (l3 : K.lookup f3 = some ⟨oc3, od3, .func (PySem.W.fnOf "row_error" "row_error" (defArgs sRowErr) (defBody sRowErr) (defScope sRowErr) .none kV3 dc3 pm3 an3 cd3 ct3), sl3⟩) (c3 : PySem.W.codeIn K cd3 "row_error" = true) (k3 : PySem.W.keepIn K (.ref f3) = true)
    (a4 : PySem.W.nsIn K mainGlobals "is_row" = some (some (.ref f4))) (l4 : K.lookup f4 = some ⟨oc4, od4, .func (PySem.W.fnOf "is_row" "is_row" (defArgs sIsRow) (defBody sIsRow) (defScope sIsRow) .none kV4 dc4 pm4 an4 cd4 ct4), sl4⟩) (c4 : PySem.W.codeIn K cd4 "is_row" = true) (k4 : PySem.W.keepIn K (.ref f4) = true)
    (a5 : PySem.W.nsIn K mainGlobals "_law_stream" = some (some (.ref f5))) (l5 : K.lookup f5 = some ⟨oc5, od5, .func (PySem.W.fnOf "_law_stream" "_law_stream" (defArgs sStream) (defBody sStream) (defScope sStream) .none kV5 dc5 pm5 an5 cd5 ct5), sl5⟩) (c5 : PySem.W.codeIn K cd5 "_law_stream" = true) (k5 : PySem.W.keepIn K (.ref f5) = true)
    (a6 : PySem.W.nsIn K mainGlobals "_law_draw" = some (some (.ref f6))) (l6 : K.lookup f6 = some ⟨oc6, od6, .func (PySem.W.fnOf "_law_draw" "_law_draw" (defArgs sDraw) (defBody sDraw) (defScope sDraw) .none kV6 dc6 pm6 an6 cd6 ct6), sl6⟩) (c6 : PySem.W.codeIn K cd6 "_law_draw" = true) (k6 : PySem.W.keepIn K (.ref f6) = true)
    (a7 : PySem.W.nsIn K mainGlobals "_law_pick" = some (some (.ref f7))) (l7 : K.lookup f7 = some ⟨oc7, od7, .func (PySem.W.fnOf "_law_pick" "_law_pick" (defArgs sPick) (defBody sPick) (defScope sPick) .none kV7 dc7 pm7 an7 cd7 ct7), sl7⟩) (c7 : PySem.W.codeIn K cd7 "_law_pick" = true) (k7 : PySem.W.keepIn K (.ref f7) = true)
    (a8 : PySem.W.nsIn K mainGlobals "_law_odd" = some (some (.ref f8))) (l8 : K.lookup f8 = some ⟨oc8, od8, .func (PySem.W.fnOf "_law_odd" "_law_odd" (defArgs sOdd) (defBody sOdd) (defScope sOdd) .none kV8 dc8 pm8 an8 cd8 ct8), sl8⟩) (c8 : PySem.W.codeIn K cd8 "_law_odd" = true) (k8 : PySem.W.keepIn K (.ref f8) = true)
    (a9 : PySem.W.nsIn K mainGlobals "_law_row" = some (some (.ref f9))) (l9 : K.lookup f9 = some ⟨oc9, od9, .func (PySem.W.fnOf "_law_row" "_law_row" (defArgs sRow) (defBody sRow) (defScope sRow) .none kV9 dc9 pm9 an9 cd9 ct9), sl9⟩) (c9 : PySem.W.codeIn K cd9 "_law_row" = true) (k9 : PySem.W.keepIn K (.ref f9) = true)
    (a10 : PySem.W.nsIn K mainGlobals "_law_bent" = some (some (.ref f10))) (l10 : K.lookup f10 = some ⟨oc10, od10, .func (PySem.W.fnOf "_law_bent" "_law_bent" (defArgs sBent) (defBody sBent) (defScope sBent) .none kV10 dc10 pm10 an10 cd10 ct10), sl10⟩) (c10 : PySem.W.codeIn K cd10 "_law_bent" = true) (k10 : PySem.W.keepIn K (.ref f10) = true)
    (a11 : PySem.W.nsIn K mainGlobals "_law_row_error" = some (some (.ref f11))) (l11 : K.lookup f11 = some ⟨oc11, od11, .func (PySem.W.fnOf "_law_row_error" "_law_row_error" (defArgs sLawErr) (defBody sLawErr) (defScope sLawErr) .none kV11 dc11 pm11 an11 cd11 ct11), sl11⟩) (c11 : PySem.W.codeIn K cd11 "_law_row_error" = true) (k11 : PySem.W.keepIn K (.ref f11) = true)
    (a12 : PySem.W.nsIn K mainGlobals "law" = some (some (.ref f12))) (l12 : K.lookup f12 = some ⟨oc12, od12, .func (PySem.W.fnOf "law" "law" (defArgs sLaw) (defBody sLaw) (defScope sLaw) .none kV12 dc12 pm12 an12 cd12 ct12), sl12⟩) (c12 : PySem.W.codeIn K cd12 "law" = true) (k12 : PySem.W.keepIn K (.ref f12) = true)
    (z1 : PySem.W.nsIn K mainGlobals "len" = some none)
    (z2 : PySem.W.nsIn K mainGlobals "abs" = some none)
    (z3 : PySem.W.nsIn K mainGlobals "range" = some none)
    (z4 : PySem.W.nsIn K mainGlobals "sorted" = some none)
    (z5 : PySem.W.nsIn K mainGlobals "tuple" = some none)
    (z6 : PySem.W.nsIn K mainGlobals "isinstance" = some none)
    (z7 : PySem.W.nsIn K mainGlobals "list" = some none)
    (z8 : PySem.W.nsIn K mainGlobals "int" = some none)
    (z9 : PySem.W.nsIn K mainGlobals "bool" = some none)
    (z10 : PySem.W.nsIn K mainGlobals "enumerate" = some none)
    (z11 : PySem.W.nsIn K mainGlobals "repr" = some none)
    {t1 t2 : Tok} (w1 : PySem.W.nsIn K mainGlobals "MAX_PLACES" = some (some (.int 12 t1))) (w2 : PySem.W.nsIn K mainGlobals "MAX_ENTRY" = some (some (.int 1000000000 t2))) :
    ∃ fd : FuncData, (∀ (s : Shared) (v : Value), BindsTo s fd ⟨[v], []⟩ [("_law_script", v)]) ∧ ∀ base : Heap, K.In base → base.Ns mainGlobals mg → FnG l.prog w K mg base CX0 5 fa fd ["_law_script"] (spLaw K) := by
  have e := hfa.symm.trans (PySem.W.mg_of X G a12)
  cases e
  have F1 := fun_mk (st := sWhole) l1 c1 k1
  have b1 := F1.binds (ps := ["value"]) fun _ _ _ _ _ _ us hl => match us, hl with | [_], _ => rfl
  have F2 := fun_mk (st := sEntry) l2 c2 k2
  have b2 := F2.binds (ps := ["value"]) fun _ _ _ _ _ _ us hl => match us, hl with | [_], _ => rfl
  have F3 := fun_mk (st := sRowErr) l3 c3 k3
  have b3 := F3.binds (ps := ["value"]) fun _ _ _ _ _ _ us hl => match us, hl with | [_], _ => rfl
  have F4 := fun_mk (st := sIsRow) l4 c4 k4
  have b4 := F4.binds (ps := ["value"]) fun _ _ _ _ _ _ us hl => match us, hl with | [_], _ => rfl
  have F5 := fun_mk (st := sStream) l5 c5 k5
  have b5 := F5.binds (ps := ["_law_script"]) fun _ _ _ _ _ _ us hl => match us, hl with | [_], _ => rfl
  have F6 := fun_mk (st := sDraw) l6 c6 k6
  have b6 := F6.binds (ps := ["_law_stream_here", "_law_many"]) fun _ _ _ _ _ _ us hl => match us, hl with | [_, _], _ => rfl
  have F7 := fun_mk (st := sPick) l7 c7 k7
  have b7 := F7.binds (ps := ["_law_stream_here", "_law_items"]) fun _ _ _ _ _ _ us hl => match us, hl with | [_, _], _ => rfl
  have F8 := fun_mk (st := sOdd) l8 c8 k8
  have b8 := F8.binds (ps := ["_law_stream_here"]) fun _ _ _ _ _ _ us hl => match us, hl with | [_], _ => rfl
  have F9 := fun_mk (st := sRow) l9 c9 k9
  have b9 := F9.binds (ps := ["_law_stream_here", "_law_most"]) fun _ _ _ _ _ _ us hl => match us, hl with | [_, _], _ => rfl
  have F10 := fun_mk (st := sBent) l10 c10 k10
  have b10 := F10.binds (ps := ["_law_stream_here", "_law_value"]) fun _ _ _ _ _ _ us hl => match us, hl with | [_, _], _ => rfl
  have F11 := fun_mk (st := sLawErr) l11 c11 k11
  have b11 := F11.binds (ps := ["_law_value"]) fun _ _ _ _ _ _ us hl => match us, hl with | [_], _ => rfl
  have F12 := fun_mk (st := sLaw) l12 c12 k12
  have b12 := F12.binds (ps := ["_law_script"]) fun _ _ _ _ _ _ us hl => match us, hl with | [_], _ => rfl
  have g1 := PySem.W.mg_of X G a1
  have g2 := PySem.W.mg_of X G a2
  have g3 := PySem.W.mg_of X G a3
  have g4 := PySem.W.mg_of X G a4
  have g5 := PySem.W.mg_of X G a5
  have g6 := PySem.W.mg_of X G a6
  have g7 := PySem.W.mg_of X G a7
  have g8 := PySem.W.mg_of X G a8
  have g9 := PySem.W.mg_of X G a9
  have g10 := PySem.W.mg_of X G a10
  have g11 := PySem.W.mg_of X G a11
  have g12 := PySem.W.mg_of X G a12
  have m1 := PySem.W.mg_none_of X G z1
  have m2 := PySem.W.mg_none_of X G z2
  have m3 := PySem.W.mg_none_of X G z3
  have m4 := PySem.W.mg_none_of X G z4
  have m5 := PySem.W.mg_none_of X G z5
  have m6 := PySem.W.mg_none_of X G z6
  have m7 := PySem.W.mg_none_of X G z7
  have m8 := PySem.W.mg_none_of X G z8
  have m9 := PySem.W.mg_none_of X G z9
  have m10 := PySem.W.mg_none_of X G z10
  have m11 := PySem.W.mg_none_of X G z11
  have gP := PySem.W.mg_of X G w1
  have gE := PySem.W.mg_of X G w2
  refine ⟨PySem.W.fnOf "law" "law" (defArgs sLaw) (defBody sLaw) (defScope sLaw) .none kV12 dc12 pm12 an12 cd12 ct12, fun s v => .of_eq rfl, fun base _ _ => ?_⟩
  have D : FnOk l.prog w K mg base CX0 1 f6 _ ["_law_stream_here", "_law_many"] spDraw := ok_draw (k := 0) F6 m1
  have S : FnOk l.prog w K mg base CX0 1 f5 _ ["_law_script"] (spStream K) := ok_stream (k := 0) F5 m1 m2
  have Pk : FnOk l.prog w K mg base CX0 2 f7 _ ["_law_stream_here", "_law_items"] spPick := ok_pick (k := 1) F7 D F6 b6 g6 m1
  have O : FnOk l.prog w K mg base CX0 2 f8 _ ["_law_stream_here"] spOdd := ok_odd (k := 1) F8 D F6 b6 g6
  have R : FnOk l.prog w K mg base CX0 2 f9 _ ["_law_stream_here", "_law_most"] spRow := ok_row (k := 1) F9 D F6 b6 g6 m3 m4 m5
  have B : FnOk l.prog w K mg base CX0 3 f10 _ ["_law_stream_here", "_law_value"] spBent := ok_bent (k := 2) F10 (D.mono (by decide)) F6 b6 g6 O k8 b8 g8 Pk k7 b7 g7 m1 m6 m5 m7
  have W : FnOk l.prog w K mg base CX0 1 f1 _ ["value"] spWhole := ok_whole (k := 0) F1 m6 m8 m9
  have E : FnOk l.prog w K mg base CX0 2 f2 _ ["value"] spEntry := ok_entry (k := 1) F2 W k1 b1 g1 gE
  have RE : FnOk l.prog w K mg base CX0 3 f3 _ ["value"] spRE := ok_rowErr (k := 2) F3 E k2 b2 g2 gP m6 m5 m1 m10
  have I : FnOk l.prog w K mg base CX0 4 f4 _ ["value"] spIsRow := ok_isRow (k := 3) F4 RE k3 b3 g3
  have LE : FnOk l.prog w K mg base CX0 1 f11 _ ["_law_value"] spRE := ok_lawErr (k := 0) F11 m6 m5 m1 m3 m9 m8
  exact ok_law (k := 4) F12 ⟨S.mono (by decide), k5, b5, g5⟩ ⟨R.mono (by decide), k9, b9, g9⟩ ⟨B.mono (by decide), k10, b10, g10⟩ ⟨O.mono (by decide), k8, b8, g8⟩ ⟨RE.mono (by decide), k3, b3, g3⟩ ⟨I, k4, b4, g4⟩ ⟨LE.mono (by decide), k11, b11, g11⟩ m3 m11
end Lw
open PySem PySem.W PyProof.Rows
set_option maxHeartbeats 0 in
theorem PySem.Challenge.cw_leastplaces_k02_rows_judged_holds : PySem.Challenge.rw_leastplaces_k02_rows_judged.Holds := by
  w_on; o_law; k_head; (case hw => w_witness2)
  k_fill
  refine Gd.walk_G (l := PySem.Challenge.rw_leastplaces_k02_rows_judged) (n := 63) (k := 5) (x := "_law_script") (sp := Lw.spLaw) rfl (by decide) rfl ⟨rfl, by decide, by decide⟩ (fun w h Y => PySem.W.kIn_of Y) ?F (fun _ _ a ns hl _ hS => ⟨a, ns, rfl, hS, hl, fun _ => rfl⟩)
  case F =>
    intro w mg fa h KX G hmg
    refine' Lw.all_mk KX G hmg ?a1 ?l1 ?c1 ?k1 ?a2 ?l2 ?c2 ?k2 ?a3 ?l3 ?c3 ?k3 ?a4 ?l4 ?c4 ?k4 ?a5 ?l5 ?c5 ?k5 ?a6 ?l6 ?c6 ?k6 ?a7 ?l7 ?c7 ?k7 ?a8 ?l8 ?c8 ?k8 ?a9 ?l9 ?c9 ?k9 ?a10 ?l10 ?c10 ?k10 ?a11 ?l11 ?c11 ?k11 ?a12 ?l12 ?c12 ?k12 ?z1 ?z2 ?z3 ?z4 ?z5 ?z6 ?z7 ?z8 ?z9 ?z10 ?z11 ?w1 ?w2
    (case a1 => k_is); (case l1 => k_is); (case c1 => k_is); (case k1 => k_is); (case a2 => k_is); (case l2 => k_is); (case c2 => k_is); (case k2 => k_is); (case a3 => k_is); (case l3 => k_is); (case c3 => k_is); (case k3 => k_is); (case a4 => k_is); (case l4 => k_is); (case c4 => k_is); (case k4 => k_is); (case a5 => k_is); (case l5 => k_is); (case c5 => k_is); (case k5 => k_is); (case a6 => k_is); (case l6 => k_is); (case c6 => k_is); (case k6 => k_is); (case a7 => k_is); (case l7 => k_is); (case c7 => k_is); (case k7 => k_is); (case a8 => k_is); (case l8 => k_is); (case c8 => k_is); (case k8 => k_is); (case a9 => k_is); (case l9 => k_is); (case c9 => k_is); (case k9 => k_is); (case a10 => k_is); (case l10 => k_is); (case c10 => k_is); (case k10 => k_is); (case a11 => k_is); (case l11 => k_is); (case c11 => k_is); (case k11 => k_is); (case a12 => k_is); (case l12 => k_is); (case c12 => k_is); (case k12 => k_is); (case z1 => k_is); (case z2 => k_is); (case z3 => k_is); (case z4 => k_is); (case z5 => k_is); (case z6 => k_is); (case z7 => k_is); (case z8 => k_is); (case z9 => k_is); (case z10 => k_is); (case z11 => k_is); (case w1 => k_is); (case w2 => k_is)
