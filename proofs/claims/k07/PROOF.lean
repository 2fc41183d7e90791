import PyProof.Rows.All
import Wide.All
import OpenK.AllK
import Wide.FinOn
import Lean
import PyProof.EqAt
import PyProof.EqKinds
import PyProof.TupleCall
import PyProof.NeKinds
import PySem.Challenge.RW_waysaid_k07_whole_ways_that_show
set_option Elab.async false
set_option linter.all false
set_option maxRecDepth 100000
namespace Ws
open PySem PySem.W PyProof.Rows
def ownName:PySem.Stmt→Bool
 | .Assign [.Name n _] _ _=>n == PySem.Str.ofString "__name__"
 | _=>false
def viewQ:PySem.Program :=
 { PySem.Challenge.pw_waysaid_k07_whole_ways_that_show with main :=
  { PySem.Challenge.pw_waysaid_k07_whole_ways_that_show.main with body :=
   PySem.Challenge.pw_waysaid_k07_whole_ways_that_show.main.body.filter fun s=>!ownName s } }
def viewX (s:Shared):Bool:=xlAt viewQ [] s &&
 recOk (RowW.records (OpenRow.toRowW (OpenLaw.row PySem.Challenge.rw_waysaid_k07_whole_ways_that_show))) s
theorem left_two {p q:PySem.Program} {loose:List PySem.Str} {Xt:Shared→Bool} {α:Type} {Yf:Shared→α} {Ya:World→α} {N:Nat}
  (h1:∀ w,(openEnds treeTable p w N).map (fun s=>openSeen q loose (importedModules p.main.body) Xt true s) = some (openGood q loose))
  (h2:∀ w,(openEnds treeTable p w N).map Yf = some (Ya w)):LeftO p q loose Xt Yf Ya N:=fun w=>by
 have a:=h1 w
 have b:=h2 w
 cases e:openEnds treeTable p w N with
 | none=>rw [e] at a; cases a
 | some s =>
  rw [e] at a b
  exact congrArg some (Prod.ext (Option.some.inj a) (Option.some.inj b))
local macro_rules | `(tactic| o_head $_) => `(tactic| assumption)
set_option maxRecDepth 100000
set_option maxHeartbeats 0
theorem mkK (h:(OpenLaw.row PySem.Challenge.rw_waysaid_k07_whole_ways_that_show).Holds):(OpenLaw.row PySem.Challenge.rw_waysaid_k07_whole_ways_that_show).Holds:=by k_head
def asK:List Addr:=[2,3,15,22,23,24,25,28,35,36,37,40,47,48,49,52,59,60,61,64,66,67,69,70,71,73,74,76,77,78,80,81,83,84,85,87,88,90,91,92,94,95,97,98,99,101,102,104,105,106,108,109,111,112,113,115,116,118,119,120,123,124,125,128,129,130,133,134,135,138,139,140,142,143,145,146,147,150,151,152,154,155,157,158,159,162,163,164,167,168,169,171,172,174,175,176,178,179,181,182,183,185,186,188,189,190,193,194,195,198,199,200,203,204,205,207,208,210,211,212,214,215,217,218,219,222,223,224,226,227,229,230,231,233,234,236,237,238,241,242,243,246,247,248,250,251,253,254,255,257,258,260,261,262,264,265,267,268,269,271,272,274,275,276,278,279,281,282,283,285,286,288,289,290,292,293,295,296,297,299,300,302,303,304,306,307,309,310,311,314,315,316,318,319,321,322,323,326,327,328,330,331,333,334,335,337,338,340,341,342,344,345,347,348,349,352,353,354,357,358,359,362,363,364,367,368,369,372,373,374,377,378,379,382,383,384,386,387,389,390,391,394,395,396,398,399,401,402,403,405,406,408,409,410,412,413,415,416,417,419,420,422,423,424,427,428,429,431,432,434,435]
theorem said:OpenLaw.wellSaid PySem.Challenge.rw_waysaid_k07_whole_ways_that_show = true:=by kernel_rfl
theorem left1a:∀ w,(openEnds treeTable PySem.Challenge.pw_waysaid_k07_whole_ways_that_show w 6000).map (fun s =>
  seen ((recsOf viewQ).map (·.name)) (ownsOf viewQ) []
   { s with gens:=#[] }) =
  some (expectedOf viewQ):=by
 intro w; kernel_rfl
theorem left1b:∀ w,(openEnds treeTable PySem.Challenge.pw_waysaid_k07_whole_ways_that_show w 6000).map (fun s =>
  (s.heap.bltView,
  s.heap.keysOk (looseW viewQ []) ((recsOf viewQ).map (·.name))
   ((litsOf viewQ).map (·.1))
   ((clssOf viewQ (looseW viewQ [])).map (·.name)) &&
  s.heap.accountedOkI (importedModules PySem.Challenge.pw_waysaid_k07_whole_ways_that_show.main.body) &&
  s.heap.isNs mainGlobals && s.heap.isNs builtinsNs &&
  tablesOk viewQ s.heap && viewX s && (s.gens.size == 0))) =
  some (bltViewBooted,true):=by
 intro w; kernel_rfl
theorem left1c:∀ w,(openEnds treeTable PySem.Challenge.pw_waysaid_k07_whole_ways_that_show w 6000).map (fun s =>
  tabsOk viewQ s) =
  some true:=by
 intro w; kernel_rfl
theorem left1d:∀ w,(openEnds treeTable PySem.Challenge.pw_waysaid_k07_whole_ways_that_show w 6000).map (fun s =>
  (pinSeenD viewQ (drecsOf viewQ) s,
  plainSeenE viewQ (looseW viewQ []) s)) =
  some (pinGoodD (drecsOf viewQ),plainGoodE viewQ (looseW viewQ [])):=by
 intro w; kernel_rfl
theorem left1e:∀ w,(openEnds treeTable PySem.Challenge.pw_waysaid_k07_whole_ways_that_show w 6000).map (fun s =>
  (plainSeenD viewQ [] s,wideSeen viewQ s,clsSeenW viewQ [] s)) =
  some (plainGoodD viewQ [],wideGood viewQ,clsGoodW viewQ []):=by
 intro w; kernel_rfl
theorem left2:∀ w,(openEnds treeTable PySem.Challenge.pw_waysaid_k07_whole_ways_that_show w 6000).map (fun s =>
  asK.map s.heap.get?) =
  some ((mkK.heap_1 w.params).map fun p=>some p.2):=by
 intro w; kernel_rfl
theorem left1 (w:World):(openEnds treeTable PySem.Challenge.pw_waysaid_k07_whole_ways_that_show w 6000).map (fun s=>openSeen viewQ []
  (importedModules PySem.Challenge.pw_waysaid_k07_whole_ways_that_show.main.body) viewX true s) = some (openGood viewQ []):=by
 have a:=left1a w; have b:=left1b w; have c:=left1c w
 have d:=left1d w; have f:=left1e w
 revert a b c d f
 cases (openEnds treeTable PySem.Challenge.pw_waysaid_k07_whole_ways_that_show w 6000) with
 | none=>intro a; cases a
 | some s =>
  intro a b c d f
  have a':=Option.some.inj a; have b':=Option.some.inj b; have c':=Option.some.inj c
  have d':=Option.some.inj d; have f':=Option.some.inj f
  have b1:=congrArg Prod.fst b'; have b2:=congrArg Prod.snd b'
  have d1:=congrArg Prod.fst d'; have d2:=congrArg Prod.snd d'
  exact congrArg some (Prod.ext a' (Prod.ext b1 (Prod.ext b2 (Prod.ext c'
   (Prod.ext d1 (Prod.ext d2 f'))))))
end Ws
namespace L2
open PySem PySem.Spec PyProof.Rows
abbrev Key:=Sum Int Str
def keyIs:Key→Value→Bool
 | .inl k,v=>Value.isInt k v
 | .inr x,v=>Value.isStrOf x v
def keyH (w:World):Key→Int
 | .inl k=>hashInt k
 | .inr x=>hashStr w x
theorem keyIs_shape:∀ {k:Key} {v:Value},keyIs k v = true→(∃ i t,k = Sum.inl i∧v = Value.int i t) ∨ (∃ x t,k = Sum.inr x∧v = Value.str x t)
 | .inl i,v,h=>by
  obtain ⟨t,e⟩:=Value.isInt_shape (k:=i) (v:=v) h
  exact .inl ⟨i,t,rfl,e⟩
 | .inr x,v,h=>by
  obtain ⟨t,e⟩:=Value.isStrOf_shape (x:=x) (v:=v) h
  exact .inr ⟨x,t,rfl,e⟩
theorem key_ll (a b:Int):decide ((Sum.inl a:Key) = Sum.inl b) = (a == b):=by
 by_cases e:a = b
 ·subst e; simp
 ·have h:¬ (Sum.inl a:Key) = Sum.inl b:=fun q=>e (Sum.inl.inj q)
  rw [decide_eq_false h]
  exact (beq_eq_false_iff_ne.mpr e).symm
theorem key_rr (a b:Str):decide ((Sum.inr a:Key) = Sum.inr b) = decide (a = b):=by
 by_cases e:a = b
 ·subst e; simp
 ·have h:¬ (Sum.inr a:Key) = Sum.inr b:=fun q=>e (Sum.inr.inj q)
  rw [decide_eq_false h,decide_eq_false e]
theorem key_lr (a:Int) (b:Str):decide ((Sum.inl a:Key) = Sum.inr b) = false:=decide_eq_false (fun q=>nomatch q)
theorem key_rl (a:Str) (b:Int):decide ((Sum.inr a:Key) = Sum.inl b) = false:=decide_eq_false (fun q=>nomatch q)
def mixKind (prog:Program) (w:World):PySem.KeyKind prog w Key where
 is:=keyIs
 hash:=keyH w
 inj:=fun v a b ha hb=>by
  rcases keyIs_shape ha with ⟨i,t,rfl,rfl⟩ | ⟨x,t,rfl,rfl⟩
  ·rcases keyIs_shape hb with ⟨j,u,rfl,e⟩ | ⟨y,u,rfl,e⟩
   ·injection e with e1 _; rw [e1]
   ·exact nomatch e
  ·rcases keyIs_shape hb with ⟨j,u,rfl,e⟩ | ⟨y,u,rfl,e⟩
   ·exact nomatch e
   ·injection e with e1 _; rw [e1]
 byValue:=fun k v h=>by
  rcases keyIs_shape h with ⟨i,t,rfl,rfl⟩ | ⟨x,t,rfl,rfl⟩ <;> rfl
 pyHash:=fun hv h=>by
  rcases keyIs_shape hv with ⟨i,t,rfl,rfl⟩ | ⟨x,t,rfl,rfl⟩
  ·exact wpAny_pyHash_int h
  ·exact wpAny_pyHash_str h
 eqBool:=fun hu hv h=>by
  rcases keyIs_shape hu with ⟨i,t,rfl,rfl⟩ | ⟨x,t,rfl,rfl⟩
  ·rcases keyIs_shape hv with ⟨j,u,rfl,rfl⟩ | ⟨y,u,rfl,rfl⟩
   ·rw [key_ll] at h; exact wpAny_eqBool_int h
   ·rw [key_lr] at h; exact SeqAt.EqAt.int_str i t y u _ _ _ _ h
  ·rcases keyIs_shape hv with ⟨j,u,rfl,rfl⟩ | ⟨y,u,rfl,rfl⟩
   ·rw [key_rl] at h; exact SeqAt.EqAt.str_int x t j u _ _ _ _ h
   ·rw [key_rr] at h; exact wpAny_eqBool_str h
 «strs»:=fun k x t v h=>by
  rcases keyIs_shape h with ⟨i,u,rfl,e⟩ | ⟨y,u,rfl,e⟩
  ·exact nomatch e
  ·injection e with e1 _
   subst e1
   cases v <;> rfl
end L2
namespace L2
open PySem PySem.Spec PyProof.Rows
inductive V where
 | non | bl (b:Bool) | int (i:Int) | str (x:Str) | byt (b:Array UInt8) | flt (b:UInt64) | ref (a:Addr) | ty (n:String)
 deriving DecidableEq
def RelV:V→Value→Prop
 | .non,u=>u = Value.none
 | .bl b,u=>u = Value.bool b
 | .int i,u=>∃ t,u = Value.int i t
 | .str x,u=>∃ t,u = Value.str x t
 | .byt b,u=>∃ t,u = Value.bytes b t
 | .flt b,u=>∃ t,u = Value.float b t
 | .ref a,u=>u = Value.ref a
 | .ty n,u=>u = Value.type n
abbrev Vals:List V→List Value→Prop:=Paired RelV
theorem Vals.length {xs:List V} {us:List Value} (r:Vals xs us):xs.length = us.length:=Paired.length r
theorem Vals.get:∀ {xs:List V} {us:List Value} {i:Nat} {x:V},Vals xs us→xs[i]? = some x→∃ u,us[i]? = some u∧RelV x u
 | _,_,_,_,.nil,e=>by simp at e
 | _,_,0,_,.cons r _,e=>by simp at e; subst e; exact ⟨_,rfl,r⟩
 | _,_,i + 1,x,.cons _ t,e=>by
  obtain ⟨u,h1,h2⟩:=Vals.get (i:=i) (x:=x) t (by simpa using e)
  exact ⟨u,by simpa using h1,h2⟩
theorem Vals.set {x:V} {u:Value} (r:RelV x u):∀ {xs:List V} {us:List Value} (i:Nat),Vals xs us→Vals (xs.set i x) (us.set i u)
 | _,_,_,.nil=>.nil
 | _,_,0,.cons _ t=>.cons r t
 | _,_,i + 1,.cons q t=>.cons q (Vals.set r i t)
theorem Vals.append:∀ {xs ys:List V} {us ws:List Value},Vals xs us→Vals ys ws→Vals (xs ++ ys) (us ++ ws)
 | _,_,_,_,.nil,s=>s
 | _,_,_,_,.cons r t,s=>.cons r (Vals.append t s)
theorem Vals.take:∀ {xs:List V} {us:List Value} (n:Nat),Vals xs us→Vals (xs.take n) (us.take n)
 | _,_,0,_=>.nil
 | _,_,_ + 1,.nil=>.nil
 | _,_,n + 1,.cons r t=>.cons r (Vals.take n t)
theorem Vals.drop:∀ {xs:List V} {us:List Value} (n:Nat),Vals xs us→Vals (xs.drop n) (us.drop n)
 | _,_,0,r=>r
 | _,_,_ + 1,.nil=>.nil
 | _,_,n + 1,.cons _ t=>Vals.drop n t
def RelO:Option V→Option Value→Prop
 | some v,some u=>RelV v u
 | none,none=>True
 | _,_=>False
def KV {κ:Type}:List (κ × V)→List (κ × Value)→Prop:=Paired fun (p:κ × V) (q:κ × Value)=>p.1 = q.1∧RelV p.2 q.2
def kV:Key→V
 | .inl i=>.int i
 | .inr x=>.str x
inductive HO where
 | lst (xs:List V)
 | tup (xs:List V)
 | dK (kvs:List (Key × V)) | dT (kvs:List (List Key × V))
 | set (S:Int→Bool) (n:Nat)
 | ins (C dx:Addr) (fs:List (Str × V))
 | own (x:Addr)
 | xd (fs:List (Str × V))
 | met (f x:Addr)
 | rng (lo hi:Int)
 | frz (o:Obj) (u:HO)
 | tbl (ps:Array Value)
 | ext (φ:Heap→Prop)
abbrev Hp:=Addr→Option HO
def upd (H:Hp) (a:Addr) (o:HO):Hp:=fun b=>if b = a then some o else H b
theorem upd_same {H:Hp} {a:Addr} {o:HO}:upd H a o a = some o:=by unfold upd; rw [if_pos rfl]
theorem upd_ne {H:Hp} {a b:Addr} {o:HO} (h:b ≠ a):upd H a o b = H b:=by unfold upd; rw [if_neg h]
theorem upd_upd {H:Hp} {a:Addr} {o u:HO}:upd (upd H a o) a u = upd H a u:=by
 funext b; unfold upd; split <;> rfl
theorem ne_of {H:Hp} {a b:Addr} {o u:HO} (h:H a = some o) (h':H b = some u) (d:o ≠ u):a ≠ b:=by
 intro e; subst e; rw [h] at h'; exact d (Option.some.inj h')
theorem ne_of_none {H:Hp} {a b:Addr} {o:HO} (h:H a = some o) (h':H b = none):a ≠ b:=by
 intro e; subst e; rw [h] at h'; cases h'
section
variable (P:Program) (w:World)
def ObjOk (H:Hp) (h:Heap) (a:Addr):HO→Prop
 | .lst xs=>xs.length ≤ sizeLine∧∃ (its:List Value) (n:Nat),Vals xs its∧h.get? a = some { cls:=.type "list",data:=.seq its.toArray n }
 | .tup xs=>xs.length ≤ sizeLine∧∃ its:List Value,Vals xs its∧IsTup h a its.toArray
 | .dK kvs=>kvs.length ≤ sizeLine∧(a == sysModules) = false∧∃ vs,KV kvs vs∧h.DictOf (mixKind P w) a vs
 | .dT kvs=>kvs.length ≤ sizeLine∧(a == sysModules) = false∧∃ xs:List (List Key × Addr × Value),
   Paired (fun (p:List Key × V) (q:List Key × Addr × Value)=>p.1 = q.1∧H q.2.1 = some (.tup (p.1.map kV))∧RelV p.2 q.2.2) kvs xs ∧
   ∃ o es ep,h.get? a = some o∧o.ExactDict∧o.data = .dict es ep∧es.toList = xs.map (entryOfKey (tupleKind (mixKind P w)))∧(xs.map (·.1)).Nodup
 | .set S n=>h.SetOf (intKind P w) a S n
 | .ins C dx fs=>H dx = some (.own a)∧fs.length ≤ 1000∧dx ≠ a∧h.get? a = some (PySem.W.instObj C dx) ∧
   ∃ mA,h.Ns1 dx mA∧(∀ f,RelO (fs.lookup f) (mA f))∧PySem.Within mA (fs.map (·.1))
 | .own _=>∃ o,h.get? a = some o
 | .xd fs=>∃ mA,h.Ns1 a mA∧∀ f,RelO (fs.lookup f) (mA f)
 | .rng lo hi=>∃ t u v,h.get? a = some { cls:=.type "range",data:=.fields #[.int lo t,.int hi u,.int 1 v] }
 | .frz o u=>h.get? a = some o∧ObjOk H h a u
 | .tbl ps=>h.get? a = some { cls:=.none,data:=.fields ps }
 | .met f x=>h.get? a = some (PySem.W.methodObj (.ref f) (.ref x))
 | .ext φ=>φ h∧(∃ o,h.get? a = some o)∧∀ h1 h2:Heap,φ h1→(∀ o,h1.get? a = some o→h2.get? a = some o)→φ h2
def HOk (H:Hp) (h:Heap):Prop:=∀ a o,H a = some o→ObjOk P w H h a o
end
section
variable {P:Program} {w:World} {H H':Hp} {h h':Heap} {a:Addr} {o:HO}
theorem ObjOk.lt (x:ObjOk P w H h a o):a < h.objs.size:=by
 cases o with
 | lst xs=>obtain ⟨_,_,_,_,e⟩:=x; exact Heap.lt_size e
 | tup xs=>obtain ⟨_,_,_,p⟩:=x; exact p.lt
 | dK kvs=>obtain ⟨_,_,_,_,o,_,_,e,_⟩:=x; exact Heap.lt_size e
 | dT kvs=>obtain ⟨_,_,_,_,o,_,_,e,_⟩:=x; exact Heap.lt_size e
 | set S n=>obtain ⟨o,_,_,_,e,_⟩:=x; exact Heap.lt_size e
 | ins C dx fs=>obtain ⟨_,_,_,e,_⟩:=x; exact Heap.lt_size e
 | own y=>obtain ⟨_,e⟩:=x; exact Heap.lt_size e
 | xd fs=>obtain ⟨_,⟨_,_,_,e,_⟩,_⟩:=x; exact Heap.lt_size e
 | rng lo hi=>obtain ⟨_,_,_,e⟩:=x; exact Heap.lt_size e
 | frz ob u=>obtain ⟨e,_⟩:=x; exact Heap.lt_size e
 | tbl ps=>exact Heap.lt_size (show h.get? a = some _ from x)
 | met f y=>exact Heap.lt_size (show h.get? a = some _ from x)
 | ext φ=>obtain ⟨_,⟨_,e⟩,_⟩:=x; exact Heap.lt_size e
theorem Paired.mapP {α β:Type} {F G:α→β→Prop}:∀ {l₁:List α} {l₂:List β},Paired F l₁ l₂→(∀ a b,F a b→G a b)→Paired G l₁ l₂
 | _,_,.nil,_=>.nil
 | _,_,.cons r t,f=>.cons (f _ _ r) (Paired.mapP t f)
theorem ObjOk.stay (x:ObjOk P w H h a o) (k:∀ b u,(b = a ∨ H b = some (.own a))→h.get? b = some u→h'.get? b = some u)
  (ho:∀ b,H b = some (.own a)→H' b = some (.own a)) (ht:∀ b xs,H b = some (.tup xs)→H' b = some (.tup xs)):ObjOk P w H' h' a o:=by
 induction o with
 | lst xs=>obtain ⟨z,its,n,r,e⟩:=x; exact ⟨z,its,n,r,k _ _ (.inl rfl) e⟩
 | tup xs=>obtain ⟨z,its,r,ob,e,c⟩:=x; exact ⟨z,its,r,ob,k _ _ (.inl rfl) e,c⟩
 | dK kvs=>obtain ⟨z,y,vs,r,ob,es,ep,e,c⟩:=x; exact ⟨z,y,vs,r,ob,es,ep,k _ _ (.inl rfl) e,c⟩
 | dT kvs =>
  obtain ⟨z,y,xs,r,ob,es,ep,e,c⟩:=x
  exact ⟨z,y,xs,Paired.mapP r fun p q z=>⟨z.1,ht _ _ z.2.1,z.2.2⟩,ob,es,ep,k _ _ (.inl rfl) e,c⟩
 | set S n=>obtain ⟨ob,es,ep,t,e,c⟩:=x; exact ⟨ob,es,ep,t,k _ _ (.inl rfl) e,c⟩
 | ins C dx fs =>
  obtain ⟨d,z,ne,e,mA,⟨od,es,ep,e2,c⟩,r⟩:=x
  exact ⟨ho _ d,z,ne,k _ _ (.inl rfl) e,mA,⟨od,es,ep,k _ _ (.inr d) e2,c⟩,r⟩
 | own y=>obtain ⟨ob,e⟩:=x; exact ⟨ob,k _ _ (.inl rfl) e⟩
 | xd fs=>obtain ⟨mA,⟨od,es,ep,e,c⟩,r⟩:=x; exact ⟨mA,⟨od,es,ep,k _ _ (.inl rfl) e,c⟩,r⟩
 | rng lo hi=>obtain ⟨t,u,v,e⟩:=x; exact ⟨t,u,v,k _ _ (.inl rfl) e⟩
 | frz ob u ih=>obtain ⟨e,q⟩:=x; exact ⟨k _ _ (.inl rfl) e,ih q⟩
 | tbl ps =>
  have e:h.get? a = some { cls:=.none,data:=.fields ps }:=x
  show h'.get? a = some { cls:=.none,data:=.fields ps }
  exact k a _ (.inl rfl) e
 | met f y =>
  have e:h.get? a = some (PySem.W.methodObj (.ref f) (.ref y)):=x
  show h'.get? a = some (PySem.W.methodObj (.ref f) (.ref y))
  exact k a _ (.inl rfl) e
 | ext φ=>obtain ⟨p,⟨o,e⟩,st⟩:=x; exact ⟨st _ _ p fun o q=>k _ _ (.inl rfl) q,⟨o,k _ _ (.inl rfl) e⟩,st⟩
theorem HOk.lt (x:HOk P w H h) (e:H a = some o):a < h.objs.size:=(x a o e).lt
theorem HOk.fresh (x:HOk P w H h) (e:h.objs.size ≤ a):H a = none:=by
 cases q:H a with
 | none=>rfl
 | some u=>exact absurd (Nat.lt_of_lt_of_le (x.lt q) e) (Nat.lt_irrefl _)
theorem HOk.kept (x:HOk P w H h) (k:∀ b u,h.get? b = some u→h'.get? b = some u):HOk P w H h':=fun a o e =>
 (x a o e).stay (fun b u _ q=>k b u q) (fun _ q=>q) fun _ _ q=>q
theorem HOk.laid (x:HOk P w H h) (k:∀ b u,h.get? b = some u→h'.get? b = some u) (hp:h.objs.size ≤ a) (new:ObjOk P w (upd H a o) h' a o):HOk P w (upd H a o) h':=fun b u e=>by
 have hn:=x.fresh hp
 by_cases hb:b = a
 ·subst hb; rw [upd_same] at e; cases e; exact new
 ·rw [upd_ne hb] at e
  exact (x b u e).stay (fun c v _ q=>k c v q) (fun c q=>by rw [upd_ne (ne_of_none q hn)]; exact q) fun c xs q=>by rw [upd_ne (ne_of_none q hn)]; exact q
end
def Rd (H:Hp) (a:Addr) (u:HO):Prop:=H a = some u ∨ ∃ o,H a = some (.frz o u)
theorem Rd.ok {P:Program} {w:World} {H:Hp} {h:Heap} {a:Addr} {u:HO} (r:Rd H a u) (x:HOk P w H h):ObjOk P w H h a u:=by
 rcases r with r | ⟨o,r⟩
 ·exact x a u r
 ·obtain ⟨_,q⟩:=x a _ r
  exact q
def Mut:Option HO→Prop
 | some (.lst _)=>True
 | some (.dK _)=>True
 | some (.dT _)=>True
 | some (.set _ _)=>True
 | some (.ins _ _ _)=>True
 | some (.ext _)=>True
 | _=>False
section
variable {P:Program} {w:World} {H:Hp} {h h':Heap} {x e:Addr} {o':HO}
theorem HOk.write (ok:HOk P w H h) (mu:Mut (H x)) (he:e = x ∨ H e = some (.own x)) (k:∀ b u,b ≠ e→h.get? b = some u→h'.get? b = some u) (heo:∃ u,h'.get? e = some u)
  (new:ObjOk P w (upd H x o') h' x o'):HOk P w (upd H x o') h':=fun b u q=>by
 have nown:∀ c y,H c = some (.own y)→c ≠ x:=fun c y r z=>by subst z; rw [r] at mu; exact mu
 have ntup:∀ c xs,H c = some (.tup xs)→c ≠ x:=fun c xs r z=>by subst z; rw [r] at mu; exact mu
 by_cases hb:b = x
 ·subst hb; rw [upd_same] at q; cases q; exact new
 ·rw [upd_ne hb] at q
  by_cases hbe:b = e
  ·have q':H b = some (.own x):=by
    rcases he with z | z
    ·exact absurd (hbe.trans z) hb
    ·rw [hbe]; exact z
   rw [q] at q'; cases q'
   obtain ⟨v,hv⟩:=heo
   exact ⟨v,by rw [hbe]; exact hv⟩
  ·refine (ok b u q).stay (fun c v hc r=>k c v ?_ r) (fun c r=>by rw [upd_ne (nown c b r)]; exact r) fun c xs r=>by rw [upd_ne (ntup c xs r)]; exact r
   rcases hc with rfl | hc
   ·exact hbe
   ·rintro rfl
    rcases he with z | z
    ·exact nown c b hc z
    ·rw [hc] at z; cases z; exact hb rfl
end
structure Un (fs ex:List Addr) (H H':Hp) (h h':Heap):Prop where
 keep:∀ b o,h.get? b = some o→H b = none→b ∉ fs→b ∉ ex→h'.get? b = some o
 slot:∀ b o,h.get? b = some o→H b = none→b ∈ fs→b ∉ ex→∃ sl,h'.get? b = some { o with slots:=sl }
 free:∀ b o,h.get? b = some o→H b = none→b ∉ ex→H' b = none
 there:∀ b o,h.get? b = some o→b ∉ ex→∃ o',h'.get? b = some o'
 tups:∀ b xs,H b = some (.tup xs)→H' b = some (.tup xs)
 frzs:∀ b o u,H b = some (.frz o u)→H' b = some (.frz o u)
 tbls:∀ b ps,H b = some (.tbl ps)→∃ more,H' b = some (.tbl (ps ++ more))
section
variable {fs fs' ex ex':List Addr} {H H1 H2:Hp} {h h1 h2 h':Heap} {a x e:Addr} {o:HO}
theorem Un.any (u:Un fs ex H H1 h h1) {b:Addr} {ob:Obj} (q:h.get? b = some ob) (n:H b = none) (hx:b ∉ ex):∃ sl,h1.get? b = some { ob with slots:=sl }:=by
 by_cases hb:b ∈ fs
 ·exact u.slot b ob q n hb hx
 ·exact ⟨ob.slots,u.keep b ob q n hb hx⟩
theorem Un.kept (k:∀ b u,h.get? b = some u→h'.get? b = some u):Un fs ex H H h h' :=
 ⟨fun b ob q _ _ _=>k b ob q,fun b ob q _ _ _=>⟨ob.slots,k b ob q⟩,fun _ _ _ n _=>n,fun b ob q _=>⟨ob,k b ob q⟩,fun _ _ q=>q,fun _ _ _ q=>q,fun _ ps q=>⟨#[],by rw [q]; simp⟩⟩
theorem Un.refl:Un fs ex H H h h:=Un.kept fun _ _ q=>q
theorem Un.laid (k:∀ b u,h.get? b = some u→h'.get? b = some u) (hp:h.objs.size ≤ a) (hn:H a = none):Un fs ex H (upd H a o) h h' where
 keep:=fun b u q _ _ _=>k b u q
 slot:=fun b u q _ _ _=>⟨u.slots,k b u q⟩
 free:=fun b u q n _=>by rw [upd_ne (Nat.ne_of_lt (Nat.lt_of_lt_of_le (Heap.lt_size q) hp))]; exact n
 there:=fun b u q _=>⟨u,k b u q⟩
 tups:=fun b xs q=>by rw [upd_ne (ne_of_none q hn)]; exact q
 frzs:=fun b u xs q=>by rw [upd_ne (ne_of_none q hn)]; exact q
 tbls:=fun b ps q=>⟨#[],by rw [upd_ne (ne_of_none q hn),q]; simp⟩
theorem Un.write (mu:Mut (H x)) (he:e = x ∨ H e = some (.own x)) (k:∀ b u,b ≠ e→h.get? b = some u→h'.get? b = some u) (heo:∃ u,h'.get? e = some u):Un fs ex H (upd H x o) h h':=by
 have hx:∀ b,H b = none→b ≠ x:=fun b n z=>by subst z; rw [n] at mu; exact mu
 have hb:∀ b,H b = none→b ≠ e:=fun b n z=>by
  subst z
  rcases he with r | r
  ·exact hx b n r
  ·rw [n] at r; cases r
 have hm:∀ b u,H b = some u→¬ Mut (some u)→b ≠ x:=fun b u q nm z=>by subst z; rw [q] at mu; exact nm mu
 refine ⟨fun b u q n _ _=>k b u (hb b n) q,fun b u q n _ _=>⟨u.slots,k b u (hb b n) q⟩,fun b u q n _=>by rw [upd_ne (hx b n)]; exact n,fun b u q _=>?_,
  fun b xs q=>by rw [upd_ne (hm b _ q fun z=>z)]; exact q,fun b u xs q=>by rw [upd_ne (hm b _ q fun z=>z)]; exact q,fun b ps q=>⟨#[],by rw [upd_ne (hm b _ q fun z=>z),q]; simp⟩⟩
 by_cases hbe:b = e
 ·subst hbe; exact heo
 ·exact ⟨u,k b u hbe q⟩
theorem Un.mono (u:Un fs ex H H1 h h1) (hs:∀ b ∈ fs,b ∈ fs') (hx:∀ b ∈ ex,b ∈ ex'):Un fs' ex' H H1 h h1 :=
 ⟨fun b ob q n hb he=>u.keep b ob q n (fun z=>hb (hs b z)) fun z=>he (hx b z),fun _ _ q n _ he=>u.any q n fun z=>he (hx _ z),fun b ob q n he=>u.free b ob q n fun z=>he (hx b z),fun b ob q he=>u.there b ob q fun z=>he (hx b z),u.tups,u.frzs,u.tbls⟩
end
def trk (h:Heap) (H:Hp):List Addr:=(List.range h.objs.size).filter fun a=>(H a).isSome
def hidT (h:Heap) (H:Hp):Heap:=PySem.W.hideAll h (trk h H)
theorem hidT_size (h:Heap) (H:Hp):(hidT h H).objs.size = h.objs.size:=PySem.W.hideAll_size _ _
theorem hidT_get {h:Heap} {H:Hp} {b:Addr} {o:Obj} (e:h.get? b = some o) (n:H b = none):(hidT h H).get? b = some o :=
 PySem.W.hideAll_get _ e fun hm=>by
  have q:(H b).isSome = true:=(List.mem_filter.mp hm).2
  rw [n] at q; simp at q
theorem of_hidT {h:Heap} {H:Hp} {b:Addr} {o:Obj} (e:(hidT h H).get? b = some o):h.get? b = some o∧H b = none:=by
 have e':h.get? b = some o:=PySem.W.of_hideAll (trk h H) e
 refine ⟨e',?_⟩
 cases q:H b with
 | none=>rfl
 | some x =>
  have hm:b ∈ trk h H:=List.mem_filter.mpr ⟨List.mem_range.mpr (Heap.lt_size e'),by simp [q]⟩
  have z:(hidT h H).get? b = none:=PySem.W.hideAll_none (trk h H) hm
  rw [z] at e; cases e
end L2
namespace L2
open PySem PySem.Spec PyProof.Rows
structure Mod (K:PySem.W.Frag) (mg:Str→Option Value) (base:Heap):Prop where
 kin:K.In base
 glob:base.Ns mainGlobals mg
 blt:∃ mb,base.Ns builtinsNs mb∧∀ x:Str,x ≠ "__name__"→mb x = bootBuiltins x
 nolimit:base.NoLimit
structure Cx where
 prog:Program
 w:World
 K:PySem.W.Frag
 mg:Str→Option Value
 base:Heap
 A:Around
 N:List Str
 s₀:Shared
 H₀:Hp
 env:Env
 outer:List Env
 stack:List Env
 ex:List Addr
 fn:Str→Bool
 calm:Bool
 pn:List (Addr × Obj)
 xe:Value→Shared→Prop
def frs (l:List Env):List Addr:=l.filterMap (·.frame)
abbrev Cx.fs (X:Cx):List Addr:=frs X.outer
def Vis (sc:Scope) (x:Str):Prop:=sc.names.lookup x = some .local ∨ sc.names.lookup x = some .cell ∨ sc.names.lookup x = some .free
def Loc (sc:Scope) (x:Str):Prop:=sc.names.lookup x = some .local ∨ sc.names.lookup x = some .cell
def Look (env:Env) (h:Heap) (m:Str→Option Value) (x:Str) (u:Value):Prop :=
 (env.kindOf x = some .local∧m x = some u) ∨ ((env.kindOf x = some .cell ∨ env.kindOf x = some .free)∧∃ c,env.cells.lookup x = some c∧h.IsCell c (some u))
structure Cx.Ok (X:Cx):Prop where
 mod:Mod X.K X.mg X.base
 kind:X.env.scope.kind = .function
 glob:X.env.globals = mainGlobals
 blt:X.env.builtins = builtinsNs
 above:X.s₀.heap.objs.size ≤ X.env.locals
 inj:∀ x y c,X.env.cells.lookup x = some c→X.env.cells.lookup y = some c→x = y
 has:∀ x,(X.env.kindOf x = some .cell ∨ X.env.kindOf x = some .free)→∃ c,X.env.cells.lookup x = some c
 cab:∀ x c,X.fn x = true→X.env.cells.lookup x = some c→X.s₀.heap.objs.size ≤ c
 hd:X.calm = true→X.A.handled = none
 frames:X.A.frames = some X.stack
 stk:X.stack = X.outer ∨ (X.stack = X.env :: X.outer∧X.env.frame = some X.env.locals)
 exf:∀ b ∈ X.ex,b ≠ X.env.locals∧∀ x c,X.env.cells.lookup x = some c→c ≠ b
 bs:∀ b o,X.base.get? b = some o→X.s₀.heap.get? b = some o∧X.H₀ b = none
 bsz:X.base.objs.size ≤ X.s₀.heap.objs.size
 noex:∀ b o,X.base.get? b = some o→b ∉ X.ex
 exfs:∀ b ∈ X.ex,b ∉ X.fs
 funs:X.s₀.heap.FunFrames X.base X.outer
 frf:∀ b ∈ X.fs,X.H₀ b = none
structure Inv (X:Cx) (pins:List (Addr × Obj)) (σ:List (Option V)) (H:Hp) (s:Shared):Prop where
 ok:X.Ok
 os:s.os = X.s₀.os
 bare:AllBare s.gens
 base:Un X.fs X.ex X.H₀ H X.s₀.heap s.heap
 loc:∃ m,s.heap.Ns X.env.locals m∧∀ (i:Nat) (x:Str) (v:V),X.N[i]? = some x→σ[i]? = some (some v)→Vis X.env.scope x→∃ u,RelV v u∧Look X.env s.heap m x u
 cell:∀ x c,X.env.cells.lookup x = some c→∃ v,s.heap.IsCell c v
 free:H X.env.locals = none
 freeC:∀ x c,X.env.cells.lookup x = some c→H c = none
 pin:∀ p ∈ X.pn ++ pins,s.heap.get? p.1 = some p.2∧H p.1 = none∧p.1 ≠ X.env.locals∧p.1 ∉ X.fs∧∀ v,p.2.data ≠ .cell v
 hok:HOk X.prog X.w H s.heap
 len:σ.length = X.N.length
section
variable {X:Cx} {pins:List (Addr × Obj)} {σ:List (Option V)} {H H':Hp} {s:Shared} {h':Heap}
theorem Cx.Ok.nofr (ok:X.Ok) {b:Addr} {o:Obj} (e:X.base.get? b = some o):b ∉ X.fs:=fun hb=>by
 have:=(ok.funs.mem hb).1
 rw [e] at this; cases this
theorem Inv.bs (I:Inv X pins σ H s):∀ b o,X.base.get? b = some o→s.heap.get? b = some o∧H b = none:=fun b o e =>
 ⟨I.base.keep b o (I.ok.bs b o e).1 (I.ok.bs b o e).2 (I.ok.nofr e) (I.ok.noex b o e),I.base.free b o (I.ok.bs b o e).1 (I.ok.bs b o e).2 (I.ok.noex b o e)⟩
theorem Inv.bk (I:Inv X pins σ H s):∀ b o,X.base.get? b = some o→s.heap.get? b = some o:=fun b o e=>(I.bs b o e).1
theorem Inv.mod (I:Inv X pins σ H s):Mod X.K X.mg X.base:=I.ok.mod
theorem Inv.kIn (I:Inv X pins σ H s):X.K.In s.heap:=I.ok.mod.kin.keeps I.bk
theorem Inv.fr (I:Inv X pins σ H s):∃ m,Fr X.base X.env.locals s.heap m :=
 let ⟨m,hn,_⟩:=I.loc
 ⟨m,hn,I.bk,Nat.le_trans I.ok.bsz I.ok.above⟩
theorem Inv.lt (I:Inv X pins σ H s):X.env.locals < s.heap.objs.size:=let ⟨_,hn,_⟩:=I.loc; hn.lt
theorem Inv.sz (I:Inv X pins σ H s):X.s₀.heap.objs.size ≤ s.heap.objs.size:=Nat.le_trans I.ok.above (Nat.le_of_lt I.lt)
theorem Inv.nofs (I:Inv X pins σ H s) {a:Addr} (h:s.heap.objs.size ≤ a):a ∉ X.fs:=fun hb=>by
 obtain ⟨_,o,ho,_⟩:=I.ok.funs.mem hb
 exact absurd (Nat.lt_of_lt_of_le (Heap.lt_size ho) (Nat.le_trans I.sz h)) (Nat.lt_irrefl _)
theorem Inv.cne (I:Inv X pins σ H s):∀ x c,X.env.cells.lookup x = some c→c ≠ X.env.locals:=fun x c e z=>by
 obtain ⟨v,o,ho,hd⟩:=I.cell x c e
 obtain ⟨m,⟨o',es,ep,ho',hd',_⟩,_⟩:=I.loc
 rw [z,ho'] at ho; cases ho; rw [hd'] at hd; cases hd
theorem Inv.funs (I:Inv X pins σ H s):s.heap.FunFrames X.base X.outer:=by
 have all:∀ (l:List Env),(∀ b ∈ frs l,b ∈ X.fs)→X.s₀.heap.FunFrames X.base l→s.heap.FunFrames X.base l:=by
  intro l
  induction l with
  | nil=>intro _ _; trivial
  | cons env r ih =>
   intro hs hl
   obtain ⟨hk,⟨L,o,hf,hn,ho,hd⟩,hr⟩:=hl
   have hL:L ∈ X.fs:=hs L (by unfold frs; rw [List.filterMap_cons,hf]; exact List.mem_cons_self)
   obtain ⟨sl,e⟩:=I.base.slot L o ho (I.ok.frf L hL) hL fun z=>I.ok.exfs L z hL
   exact ⟨hk,⟨L,_,hf,hn,e,hd⟩,ih (fun b hb=>hs b (by unfold frs; rw [List.filterMap_cons,hf]; exact List.mem_cons_of_mem _ hb)) hr⟩
 exact all X.outer (fun _ hb=>hb) I.ok.funs
theorem Inv.stack (I:Inv X pins σ H s):s.heap.FunFrames X.base X.stack:=by
 rcases I.ok.stk with e | ⟨e,hf⟩
 ·rw [e]; exact I.funs
 ·rw [e]
  obtain ⟨m,hn,_⟩:=I.loc
  refine .cons (by rw [I.ok.kind]; decide) hf hn ?_ I.funs
  exact Heap.get?_none_of_le (Nat.le_trans I.ok.bsz I.ok.above)
theorem Inv.stkSub (I:Inv X pins σ H s):∀ b ∈ frs X.stack,b ∈ X.env.locals :: X.fs:=fun b hb=>by
 rcases I.ok.stk with e | ⟨e,hf⟩
 ·rw [e] at hb; exact List.mem_cons_of_mem _ hb
 ·rw [e] at hb
  unfold frs at hb
  rw [List.filterMap_cons,hf] at hb
  exact hb
theorem Inv.stkFree (I:Inv X pins σ H s):∀ b ∈ frs X.stack,H b = none:=fun b hb=>by
 rcases List.mem_cons.mp (I.stkSub b hb) with e | hb
 ·rw [e]; exact I.free
 ·obtain ⟨_,o,ho,_⟩:=I.ok.funs.mem hb
  exact I.base.free b o ho (I.ok.frf b hb) fun z=>I.ok.exfs b z hb
theorem Inv.step {g':Array GenState} {t':Nat} {d':Drawn} {ch:List Addr} (I:Inv X pins σ H s)
  (hch:∀ b ∈ ch,(b ∈ X.ex ∨ X.s₀.heap.objs.size ≤ b)∧b ≠ X.env.locals∧(∀ x c,X.env.cells.lookup x = some c→c ≠ b)∧∀ p ∈ X.pn ++ pins,p.1 ≠ b)
  (keep:∀ b o,b ≠ X.env.locals→b ∉ X.fs→b ∉ ch→s.heap.get? b = some o→H b = none→h'.get? b = some o)
  (slot:∀ b o,b ≠ X.env.locals→b ∈ X.fs→b ∉ ch→s.heap.get? b = some o→H b = none→∃ sl,h'.get? b = some { o with slots:=sl }) (free:∀ b o,b ∉ ch→s.heap.get? b = some o→H b = none→H' b = none)
  (there:∀ b o,b ∉ ch→s.heap.get? b = some o→∃ o',h'.get? b = some o')
  (tups:∀ b xs,H b = some (.tup xs)→H' b = some (.tup xs)) (frzs:∀ b o u,H b = some (.frz o u)→H' b = some (.frz o u)) (tbls:∀ b ps,H b = some (.tbl ps)→∃ more,H' b = some (.tbl (ps ++ more)))
  (ns:∀ m,s.heap.Ns X.env.locals m→h'.Ns X.env.locals m) (hok:HOk X.prog X.w H' h') (hg:AllBare g') :
  Inv X pins σ H' { s with heap:=h',gens:=g',drawn:=d',toks:=t' }:=by
 have neL:∀ b o,X.s₀.heap.get? b = some o→b ≠ X.env.locals:=fun b o e=>Nat.ne_of_lt (Nat.lt_of_lt_of_le (Heap.lt_size e) I.ok.above)
 have neC:∀ b o,X.s₀.heap.get? b = some o→b ∉ X.ex→b ∉ ch:=fun b o e hx hb=>by
  rcases (hch b hb).1 with z | z
  ·exact hx z
  ·exact absurd (Nat.lt_of_lt_of_le (Heap.lt_size e) z) (Nat.lt_irrefl _)
 have cellK:∀ x c,X.env.cells.lookup x = some c→∀ v,s.heap.IsCell c v→h'.IsCell c v:=fun x c e v ⟨o,ho,hd⟩=>by
  have nch:c ∉ ch:=fun z=>(hch c z).2.2.1 x c e rfl
  by_cases hc:c ∈ X.fs
  ·obtain ⟨sl,q⟩:=slot c o (I.cne x c e) hc nch ho (I.freeC x c e)
   exact ⟨_,q,hd⟩
  ·exact ⟨o,keep c o (I.cne x c e) hc nch ho (I.freeC x c e),hd⟩
 refine ⟨I.ok,I.os,hg,⟨fun b o e n hb hx=>?_,fun b o e n hb hx=>?_,fun b o e n hx=>?_,fun b o e hx=>?_,fun b xs e=>tups b xs (I.base.tups b xs e),fun b o xs e=>frzs b o xs (I.base.frzs b o xs e),fun b ps e=>?_⟩,?_,fun x c e=>?_,?_,fun x c e=>?_,fun p hp=>?_,hok,I.len⟩
 ·exact keep b o (neL b o e) hb (neC b o e hx) (I.base.keep b o e n hb hx) (I.base.free b o e n hx)
 ·obtain ⟨sl,e1⟩:=I.base.slot b o e n hb hx
  obtain ⟨sl',e2⟩:=slot b _ (neL b o e) hb (neC b o e hx) e1 (I.base.free b o e n hx)
  exact ⟨sl',e2⟩
 ·obtain ⟨o',e1⟩:=I.base.there b o e hx
  exact free b o' (neC b o e hx) e1 (I.base.free b o e n hx)
 ·obtain ⟨o',e1⟩:=I.base.there b o e hx
  exact there b o' (neC b o e hx) e1
 ·obtain ⟨m1,e1⟩:=I.base.tbls b ps e
  obtain ⟨m2,e2⟩:=tbls b _ e1
  exact ⟨m1 ++ m2,by rw [e2,Array.append_assoc]⟩
 ·obtain ⟨m,hn,hl⟩:=I.loc
  refine ⟨m,ns m hn,fun i x v e1 e2 e3=>?_⟩
  obtain ⟨u,r,l⟩:=hl i x v e1 e2 e3
  refine ⟨u,r,?_⟩
  rcases l with l | ⟨k,c,e,z⟩
  ·exact .inl l
  ·exact .inr ⟨k,c,e,cellK x c e _ z⟩
 ·obtain ⟨v,z⟩:=I.cell x c e
  exact ⟨v,cellK x c e v z⟩
 ·obtain ⟨m,⟨o,_,_,ho,_⟩,_⟩:=I.loc
  exact free _ o (fun z=>(hch _ z).2.1 rfl) ho I.free
 ·obtain ⟨v,o,ho,hd⟩:=I.cell x c e
  exact free c o (fun z=>(hch c z).2.2.1 x c e rfl) ho (I.freeC x c e)
 ·obtain ⟨e,n,ne,nf,d⟩:=I.pin p hp
  have nch:p.1 ∉ ch:=fun z=>(hch p.1 z).2.2.2 p hp rfl
  exact ⟨keep p.1 p.2 ne nf nch e n,free p.1 p.2 nch e n,ne,nf,d⟩
theorem Inv.un {t':Nat} (I:Inv X pins σ H s) (u:Un X.fs [] H H' s.heap h') (hok:HOk X.prog X.w H' h'):Inv X pins σ H' { s with heap:=h',toks:=t' }:=by
 obtain ⟨m,⟨o,es,ep,ho,r⟩,_⟩:=id I.loc
 obtain ⟨sl,hL⟩:=u.any ho I.free (by simp)
 exact I.step (g':=s.gens) (d':=s.drawn) (ch:=[]) (fun _ z=>nomatch z) (fun b o _ hb _ e n=>u.keep b o e n hb (by simp)) (fun b o _ hb _ e n=>u.slot b o e n hb (by simp)) (fun b o _ e n=>u.free b o e n (by simp)) (fun b o _ e=>u.there b o e (by simp)) u.tups u.frzs u.tbls (fun m' hm=>by
  obtain ⟨o',es',ep',ho',r'⟩:=hm
  rw [ho] at ho'; cases ho'
  exact ⟨_,es',ep',hL,r'⟩) hok I.bare
theorem Inv.call {g':Array GenState} {t':Nat} {d':Drawn} {ch:List Addr} (I:Inv X pins σ H s) (u:Un (frs X.stack) ch H H' s.heap h') (hok:HOk X.prog X.w H' h') (hg:AllBare g')
  (hch:∀ b ∈ ch,(b ∈ X.ex ∨ X.s₀.heap.objs.size ≤ b)∧b ≠ X.env.locals∧(∀ x c,X.env.cells.lookup x = some c→c ≠ b)∧∀ p ∈ X.pn ++ pins,p.1 ≠ b) :
  Inv X pins σ H' { s with heap:=h',gens:=g',drawn:=d',toks:=t' }:=by
 obtain ⟨m,⟨o,es,ep,ho,r⟩,_⟩:=id I.loc
 obtain ⟨sl,hL⟩:=u.any ho I.free fun z=>(hch _ z).2.1 rfl
 exact I.step (ch:=ch) hch (fun b o hL hb hc e n=>u.keep b o e n (fun z=>(List.mem_cons.mp (I.stkSub b z)).elim hL hb) hc) (fun b o _ _ hc e n=>u.any e n hc) (fun b o hc e n=>u.free b o e n hc) (fun b o hc e=>u.there b o e hc) u.tups u.frzs u.tbls (fun m' hm=>by
  obtain ⟨o',es',ep',ho',r'⟩:=hm
  rw [ho] at ho'; cases ho'
  exact ⟨_,es',ep',hL,r'⟩) hok hg
theorem Inv.turned {t':Nat} {it:Addr} (I:Inv X pins σ H s) (k:∀ b o,b ≠ it→s.heap.get? b = some o→h'.get? b = some o) (hn:H it = none) (hL:it ≠ X.env.locals)
  (h1:it ∈ X.ex ∨ X.s₀.heap.objs.size ≤ it) (h2:∀ x c,X.env.cells.lookup x = some c→c ≠ it) (h3:∀ p ∈ X.pn ++ pins,p.1 ≠ it):Inv X pins σ H { s with heap:=h',toks:=t' }:=by
 have nit:∀ b u,H b = some u→b ≠ it:=fun b u e z=>by rw [z,hn] at e; cases e
 refine I.step (g':=s.gens) (d':=s.drawn) (ch:=[it]) (fun b hb=>?_) (fun b o _ _ hc e _=>k b o (fun z=>hc (by simp [z])) e) (fun b o _ _ hc e _=>⟨o.slots,k b o (fun z=>hc (by simp [z])) e⟩) (fun _ _ _ _ n=>n)
  (fun b o hc e=>⟨o,k b o (fun z=>hc (by simp [z])) e⟩) (fun _ _ e=>e) (fun _ _ _ e=>e) (fun b ps e=>⟨#[],by rw [e]; simp⟩) (fun m hm=>?_) (fun b u e=>?_) I.bare
 ·have e:b = it:=by simpa using hb
  subst e
  exact ⟨h1,hL,h2,h3⟩
 ·obtain ⟨o,es,ep,ho,r⟩:=hm
  exact ⟨o,es,ep,k _ o (Ne.symm hL) ho,r⟩
 ·refine (I.hok b u e).stay (fun c v hc q=>k c v ?_ q) (fun _ q=>q) fun _ _ q=>q
  rcases hc with z | z
  ·rw [z]; exact nit b u e
  ·exact nit c _ z
theorem Inv.tok (I:Inv X pins σ H s) (t:Nat):Inv X pins σ H { s with toks:=t }:=I.un (h':=s.heap) (t':=t) Un.refl I.hok
theorem Inv.kept {t':Nat} (I:Inv X pins σ H s) (k:∀ b u,s.heap.get? b = some u→h'.get? b = some u):Inv X pins σ H { s with heap:=h',toks:=t' }:=I.un (Un.kept k) (I.hok.kept k)
theorem Inv.laid {a:Addr} {o:HO} {t':Nat} (I:Inv X pins σ H s) (k:∀ b u,s.heap.get? b = some u→h'.get? b = some u) (hp:s.heap.objs.size ≤ a) (new:ObjOk X.prog X.w (upd H a o) h' a o) :
  Inv X pins σ (upd H a o) { s with heap:=h',toks:=t' }:=I.un (Un.laid k hp (I.hok.fresh hp)) (I.hok.laid k hp new)
theorem Inv.write {x e:Addr} {o:HO} {t':Nat} (I:Inv X pins σ H s) (mu:Mut (H x)) (he:e = x ∨ H e = some (.own x)) (k:∀ b u,b ≠ e→s.heap.get? b = some u→h'.get? b = some u) (heo:∃ u,h'.get? e = some u)
  (new:ObjOk X.prog X.w (upd H x o) h' x o):Inv X pins σ (upd H x o) { s with heap:=h',toks:=t' }:=I.un (Un.write mu he k heo) (I.hok.write mu he k heo new)
theorem Inv.weak {σ':List (Option V)} (I:Inv X pins σ H s) (hl:σ'.length = σ.length) (w:∀ (i:Nat) v,σ'[i]? = some (some v)→σ[i]? = some (some v)):Inv X pins σ' H s :=
 ⟨I.ok,I.os,I.bare,I.base,let ⟨m,hn,hl'⟩:=I.loc; ⟨m,hn,fun i x v e1 e2 e3=>hl' i x v e1 (w i v e2) e3⟩,I.cell,I.free,I.freeC,I.pin,I.hok,hl.trans I.len⟩
theorem Inv.pins_of {pins':List (Addr × Obj)} (I:Inv X pins σ H s) (h:∀ p ∈ pins',s.heap.get? p.1 = some p.2∧H p.1 = none∧p.1 ≠ X.env.locals∧p.1 ∉ X.fs∧∀ v,p.2.data ≠ .cell v):Inv X pins' σ H s :=
 ⟨I.ok,I.os,I.bare,I.base,I.loc,I.cell,I.free,I.freeC,fun p hp=>(List.mem_append.mp hp).elim (fun z=>I.pin p (List.mem_append_left _ z)) (h p),I.hok,I.len⟩
theorem nodup_ix {N:List Str} (hN:N.Nodup) {i j:Nat} {x:Str} (a:N[i]? = some x) (b:N[j]? = some x):i = j:=by
 obtain ⟨h1,e1⟩:=List.getElem?_eq_some_iff.mp a
 obtain ⟨h2,e2⟩:=List.getElem?_eq_some_iff.mp b
 exact (List.getElem_inj hN).mp (e1.trans e2.symm)
theorem store_ok2 {M:Model} {A:Around} {E:Value→Shared→Prop} {i:Nat} {x:Str} {v:V} {u:Value} {Q:Unit→Shared→Prop} (I:Inv X pins σ H s) (hN:X.N.Nodup) (hi:X.N[i]? = some x) (hx:Loc X.env.scope x) (r:RelV v u)
  (h:∀ s',Inv X pins (σ.set i (some v)) H s'→(∃ a,Heap.SameBut a s.heap s'.heap∧(a = X.env.locals ∨ X.env.cells.lookup x = some a))→Q () s') (hf:X.fn x = true ∨ X.env.scope.names.lookup x = some .local:=by first | exact .inl rfl | exact .inr rfl | assumption):wpAny M A (storeName X.env x u) Q E s:=by
 obtain ⟨m,hn,hl⟩:=id I.loc
 have hcls:(X.env.scope.kind == .class || (X.env.scope.kind == .module && X.env.locals != X.env.globals)) = false:=by rw [I.ok.kind]; rfl
 have hiσ:i < σ.length:=by rw [I.len]; exact (List.getElem?_eq_some_iff.mp hi).1
 have cne:=I.cne
 have tracked:∀ {a:Addr} {h':Heap},(∃ o,s.heap.get? a = some o∧H a = none)→Heap.SameBut a s.heap h'→HOk X.prog X.w H h':=fun {a h'} ha hs b ob e=>by
  obtain ⟨_,_,hfree⟩:=ha
  refine (I.hok b ob e).stay (fun c w' hc q=>(hs.2 c ?_).trans q) (fun _ q=>q) fun _ _ q=>q
  rintro rfl
  rcases hc with rfl | hc
  ·rw [hfree] at e; cases e
  ·rw [hfree] at hc; cases hc
 rcases hx with hk | hk
 ·refine wpAny_storeName_local hk hn (fun h' hn' hs=>?_) hcls
  obtain ⟨oL,_,_,hoL,_⟩:=id hn
  refine h _ ⟨I.ok,I.os,I.bare,⟨fun b o e n hb hx=>?_,fun b o e n hb hx=>?_,I.base.free,fun b o e hx=>?_,I.base.tups,I.base.frzs,I.base.tbls⟩,⟨_,hn',fun j y v' e1 e2 e3=>?_⟩,fun y c e=>?_,I.free,I.freeC,fun p hp=>?_,tracked ⟨oL,hoL,I.free⟩ hs,by simpa using I.len⟩ ⟨_,hs,.inl rfl⟩
  ·exact (hs.2 b (Nat.ne_of_lt (Nat.lt_of_lt_of_le (Heap.lt_size e) I.ok.above))).trans (I.base.keep b o e n hb hx)
  ·obtain ⟨sl,e1⟩:=I.base.slot b o e n hb hx
   exact ⟨sl,(hs.2 b (Nat.ne_of_lt (Nat.lt_of_lt_of_le (Heap.lt_size e) I.ok.above))).trans e1⟩
  ·obtain ⟨o',e1⟩:=I.base.there b o e hx
   exact ⟨o',(hs.2 b (Nat.ne_of_lt (Nat.lt_of_lt_of_le (Heap.lt_size e) I.ok.above))).trans e1⟩
  ·by_cases hj:j = i
   ·subst hj
    rw [hi] at e1; cases e1
    rw [List.getElem?_set_self hiσ] at e2
    cases e2
    exact ⟨u,r,.inl ⟨hk,by simp⟩⟩
   ·rw [List.getElem?_set_ne (Ne.symm hj)] at e2
    obtain ⟨u',r',q⟩:=hl j y v' e1 e2 e3
    refine ⟨u',r',?_⟩
    rcases q with ⟨k,e⟩ | ⟨k,c,e,z⟩
    ·refine .inl ⟨k,?_⟩
     have:y ≠ x:=fun e=>hj (nodup_ix hN e1 (e ▸ hi))
     simp [this,e]
    ·exact .inr ⟨k,c,e,z.sameBut hs (cne y c e)⟩
  ·obtain ⟨w',z⟩:=I.cell y c e
   exact ⟨w',z.sameBut hs (cne y c e)⟩
  ·obtain ⟨e,n,ne,nf,d⟩:=I.pin p hp
   exact ⟨(hs.2 p.1 ne).trans e,n,ne,nf,d⟩
 ·have hfn:X.fn x = true:=by
   rcases hf with z | z
   ·exact z
   ·rw [z] at hk; cases hk
  obtain ⟨c,hc⟩:=I.ok.has x (.inl hk)
  obtain ⟨w',z⟩:=I.cell x c hc
  refine wpAny_storeName_cell I.ok.kind hk hc z (fun h' hc' hs=>?_)
  obtain ⟨oc,hoc,hocd⟩:=id z
  refine h { s with heap:=h' } ⟨I.ok,I.os,I.bare,⟨fun b o e n hb hx=>?_,fun b o e n hb hx=>?_,I.base.free,fun b o e hx=>?_,I.base.tups,I.base.frzs,I.base.tbls⟩,⟨m,hn.sameBut hs (Ne.symm (cne x c hc)),fun j y v' e1 e2 e3=>?_⟩,fun y c' e=>?_,I.free,I.freeC,fun p hp=>?_,tracked ⟨oc,hoc,I.freeC x c hc⟩ hs,by simpa using I.len⟩ ⟨c,hs,.inr hc⟩
  ·exact (hs.2 b (Nat.ne_of_lt (Nat.lt_of_lt_of_le (Heap.lt_size e) (I.ok.cab x c hfn hc)))).trans (I.base.keep b o e n hb hx)
  ·obtain ⟨sl,e1⟩:=I.base.slot b o e n hb hx
   exact ⟨sl,(hs.2 b (Nat.ne_of_lt (Nat.lt_of_lt_of_le (Heap.lt_size e) (I.ok.cab x c hfn hc)))).trans e1⟩
  ·obtain ⟨o',e1⟩:=I.base.there b o e hx
   exact ⟨o',(hs.2 b (Nat.ne_of_lt (Nat.lt_of_lt_of_le (Heap.lt_size e) (I.ok.cab x c hfn hc)))).trans e1⟩
  ·by_cases hj:j = i
   ·subst hj
    rw [hi] at e1; cases e1
    rw [List.getElem?_set_self hiσ] at e2
    cases e2
    exact ⟨u,r,.inr ⟨.inl hk,c,hc,hc'⟩⟩
   ·rw [List.getElem?_set_ne (Ne.symm hj)] at e2
    obtain ⟨u',r',q⟩:=hl j y v' e1 e2 e3
    refine ⟨u',r',?_⟩
    rcases q with q | ⟨k,c',e,z'⟩
    ·exact .inl q
    ·refine .inr ⟨k,c',e,z'.sameBut hs ?_⟩
     rintro rfl
     exact hj (nodup_ix hN e1 (I.ok.inj _ _ _ e hc ▸ hi))
  ·by_cases hcc:c' = c
   ·subst hcc; exact ⟨_,hc'⟩
   ·obtain ⟨w2,z2⟩:=I.cell y c' e
    exact ⟨w2,z2.sameBut hs hcc⟩
  ·obtain ⟨e,n,ne,nf,d⟩:=I.pin p hp
   refine ⟨(hs.2 p.1 ?_).trans e,n,ne,nf,d⟩
   intro q
   rw [q,hoc] at e
   have q':oc = p.2:=Option.some.inj e
   exact d w' (by rw [← q']; exact hocd)
theorem store_ok {M:Model} {A:Around} {E:Value→Shared→Prop} {i:Nat} {x:Str} {v:V} {u:Value} {Q:Unit→Shared→Prop} (I:Inv X pins σ H s) (hN:X.N.Nodup) (hi:X.N[i]? = some x) (hx:Loc X.env.scope x) (r:RelV v u)
  (h:∀ s',Inv X pins (σ.set i (some v)) H s'→Q () s') (hf:X.fn x = true ∨ X.env.scope.names.lookup x = some .local:=by first | exact .inl rfl | exact .inr rfl | assumption):wpAny M A (storeName X.env x u) Q E s :=
 store_ok2 I hN hi hx r (fun s' I' _=>h s' I') hf
theorem Inv.call' {s':Shared} {ch:List Addr} (I:Inv X pins σ H s) (ho:s'.os = s.os) (u:Un (frs X.stack) ch H H' s.heap s'.heap) (hok:HOk X.prog X.w H' s'.heap) (hg:AllBare s'.gens)
  (hch:∀ b ∈ ch,(b ∈ X.ex ∨ X.s₀.heap.objs.size ≤ b)∧b ≠ X.env.locals∧(∀ x c,X.env.cells.lookup x = some c→c ≠ b)∧∀ p ∈ X.pn ++ pins,p.1 ≠ b):Inv X pins σ H' s':=by
 obtain ⟨h',g',d',t',o'⟩:=s'
 have e:o' = s.os:=ho
 subst e
 exact I.call (g':=g') (t':=t') (d':=d') u hok hg hch
end
abbrev XK:=Value→Option Addr→Hp→Prop
abbrev St:=List (Option V)
abbrev VK:=V→Hp→Prop
abbrev TE:=St→Hp→VK→Prop
abbrev TT:=St→Hp→(Bool→Hp→Prop)→Prop
abbrev TA:=St→Hp→(List V→Hp→Prop)→Prop
structure Ends where
 nx:St→Hp→Prop
 rt:VK
 bk:St→Hp→Prop:=fun _ _=>False
 ct:St→Hp→Prop:=fun _ _=>False
abbrev TS:=Ends→St→Hp→Prop
def EP (X:Cx) (pins:List (Addr × Obj)) (σ:St) (Q:VK) (u:Value) (s':Shared):Prop:=∃ v H',Inv X pins σ H' s'∧RelV v u∧Q v H'
def TP (X:Cx) (pins:List (Addr × Obj)) (σ:St) (Q:Bool→Hp→Prop) (b:Bool) (s':Shared):Prop:=∃ H',Inv X pins σ H' s'∧Q b H'
def AP (X:Cx) (pins:List (Addr × Obj)) (σ:St) (Q:List V→Hp→Prop) (us:List Value) (s':Shared):Prop:=∃ vs H',Inv X pins σ H' s'∧Vals vs us∧Q vs H'
def SP (X:Cx) (pins:List (Addr × Obj)) (D:Ends) (f:Flow) (s':Shared):Prop :=
 match f with
 | .next=>∃ σ' H',Inv X pins σ' H' s'∧D.nx σ' H'
 | .brk=>∃ σ' H',Inv X pins σ' H' s'∧D.bk σ' H'
 | .cont=>∃ σ' H',Inv X pins σ' H' s'∧D.ct σ' H'
 | .ret u=>∃ v σ' H',Inv X pins σ' H' s'∧RelV v u∧D.rt v H'
def PE (X:Cx) (e:Expr) (t:TE):Prop :=
 ∀ (pins:List (Addr × Obj)) (s:Shared) (σ:St) (H:Hp) (Q:VK),Inv X pins σ H s→t σ H Q→wpAny (model X.prog X.w) X.A (eval e X.env) (EP X pins σ Q) X.xe s
def PT (X:Cx) (e:Expr) (t:TT):Prop :=
 ∀ (pins:List (Addr × Obj)) (s:Shared) (σ:St) (H:Hp) (Q:Bool→Hp→Prop),Inv X pins σ H s→t σ H Q→wpAny (model X.prog X.w) X.A (isTrue e X.env (eval e X.env)) (TP X pins σ Q) X.xe s
def PW (X:Cx) (e:Expr) (t:TT):Prop :=
 ∀ (whole:Sem Value) (pins:List (Addr × Obj)) (s:Shared) (σ:St) (H:Hp) (Q:Bool→Hp→Prop),Inv X pins σ H s→t σ H Q→wpAny (model X.prog X.w) X.A (isTrue e X.env whole) (TP X pins σ Q) X.xe s
theorem PW.pt {X:Cx} {e:Expr} {t:TT} (h:PW X e t):PT X e t:=h _
def PA (X:Cx) (es:List Expr) (t:TA):Prop :=
 ∀ (pos:Pos) (pins:List (Addr × Obj)) (s:Shared) (σ:St) (H:Hp) (Q:List V→Hp→Prop),Inv X pins σ H s→t σ H Q→wpAny (model X.prog X.w) X.A (spliced (backTo pos (starEach es X.env))) (AP X pins σ Q) X.xe s
def PS (X:Cx) (st:Stmt) (t:TS):Prop :=
 ∀ (pins:List (Addr × Obj)) (s:Shared) (σ:St) (H:Hp) (D:Ends),Inv X pins σ H s→t D σ H→wpAny (model X.prog X.w) X.A (exec st X.env) (SP X pins D) X.xe s
def PSs (X:Cx) (st:List Stmt) (t:TS):Prop :=
 ∀ (pins:List (Addr × Obj)) (s:Shared) (σ:St) (H:Hp) (D:Ends),Inv X pins σ H s→t D σ H→wpAny (model X.prog X.w) X.A (execs st X.env) (SP X pins D) X.xe s
theorem thn {α:Type} {t:Sem α} {Q Q':α→Shared→Prop} {M:Model} {A:Around} {E:Value→Shared→Prop} {s:Shared} (h:wpAny M A t Q E s) (hQ:∀ a s,Q a s→Q' a s):wpAny M A t Q' E s:=wpAny_mono h hQ fun _ _ x=>x
end L2
namespace L2
open PySem PySem.Spec PyProof.Rows
section
variable {X:Cx}
theorem bin {a b:Expr} {ta tb:TE} (ha:PE X a ta) (hb:PE X b tb) {pins:List (Addr × Obj)} {s:Shared} {σ:St} {H:Hp} {R:V→V→Hp→Prop} (I:Inv X pins σ H s) (h:ta σ H fun x H1=>tb σ H1 fun y H2=>R x y H2)
  {α:Type} {Q:α→Shared→Prop} {f:Value→Value→Sem α}
  (hf:∀ v u s2 x y H2,Inv X pins σ H2 s2→RelV x v→RelV y u→R x y H2→wpAny (model X.prog X.w) X.A (f v u) Q X.xe s2) :
  wpAny (model X.prog X.w) X.A (eval a X.env) (fun v s₁=>wpAny (model X.prog X.w) X.A (eval b X.env) (fun u s₂=>wpAny (model X.prog X.w) X.A (f v u) Q X.xe s₂) X.xe s₁) X.xe s:=by
 refine thn (ha pins s σ H _ I h) fun v s1 ⟨x,H1,I1,r1,q1⟩=>?_
 refine thn (hb pins s1 σ H1 _ I1 q1) fun u s2 ⟨y,H2,I2,r2,q2⟩=>?_
 exact hf v u s2 x y H2 I2 r1 r2 q2
def tVar (i:Nat):TE:=fun σ H Q=>∃ v,σ[i]? = some (some v)∧Q v H
def tC (v:V):TE:=fun _ H Q=>Q v H
theorem pe_var {i:Nat} {x:Str} {pos:Pos} (hN:X.N[i]? = some x) (hv:Vis X.env.scope x) (hd:(x == ("__debug__":Str)) = false:=by decide) (hcd:(x == ("__classdict__":Str)) = false:=by decide):PE X (.Name x pos) (tVar i):=by
 intro pins s σ H Q I h
 obtain ⟨v,e,h⟩:=h
 obtain ⟨m,hn,hl⟩:=I.loc
 obtain ⟨u,r,l⟩:=hl i x v hN e hv
 have fin:EP X pins σ Q u s:=⟨v,H,I,r,h⟩
 rcases l with ⟨hk,hm⟩ | ⟨hk,c,hc,hcell⟩
 ·exact wpAny_Name (wpAny_loadName_local I.ok.kind hk hn hm fin) hd
 ·rcases hk with hk | hk
  ·exact wpAny_Name (wpAny_loadName_cell I.ok.kind hk hc hcell fin) hd
  ·exact wpAny_Name (wpAny_loadName_free I.ok.kind hk hc hcell fin hcd) hd
theorem pe_int {i j pos}:PE X (.Constant (.int i) j pos) (tC (.int i)):=fun _ _ _ H _ I h=>wpAny_Constant_int ⟨.int i,H,I.tok _,⟨_,rfl⟩,h⟩
theorem pe_bl {b j pos}:PE X (.Constant (.bool b) j pos) (tC (.bl b)):=fun _ _ _ H _ I h=>Constant_bool ⟨.bl b,H,I,rfl,h⟩
theorem pe_non {j pos}:PE X (.Constant .none j pos) (tC .non):=fun _ _ _ H _ I h=>Constant_none ⟨.non,H,I,rfl,h⟩
theorem pe_str {x j pos}:PE X (.Constant (.str x) j pos) (tC (.str x)):=fun _ _ _ H _ I h=>Calls.Constant_str ⟨.str x,H,I.tok _,⟨_,rfl⟩,h⟩
def Gl (X:Cx) (x:Str):Prop:=X.env.kindOf x = some .globalImplicit
theorem ld_glob {E:Value→Shared→Prop} {pins:List (Addr × Obj)} {s:Shared} {σ:St} {H:Hp} {x:Str} {u:Value} {pos:Pos} {Q:Value→Shared→Prop} (I:Inv X pins σ H s) (hg:Gl X x) (hm:X.mg x = some u) (h:Q u s)
  (hd:(x == ("__debug__":Str)) = false:=by decide):wpAny (model X.prog X.w) X.A (eval (.Name x pos) X.env) Q E s :=
 Calls.Name_function_global I.ok.kind hg (Calls.loadGlobal_global (by rw [I.ok.glob]; exact I.mod.glob.keeps I.bk) hm h) hd
theorem ld_blt {E:Value→Shared→Prop} {pins:List (Addr × Obj)} {s:Shared} {σ:St} {H:Hp} {x:Str} {u:Value} {pos:Pos} {Q:Value→Shared→Prop} (I:Inv X pins σ H s) (hg:Gl X x) (hm:X.mg x = none) (hv:bootBuiltins x = some u) (h:Q u s)
  (hn:x ≠ "__name__":=by decide) (hd:(x == ("__debug__":Str)) = false:=by decide):wpAny (model X.prog X.w) X.A (eval (.Name x pos) X.env) Q E s:=by
 obtain ⟨mb,h1,h2⟩:=I.mod.blt
 exact Calls.Name_function_global I.ok.kind hg (Calls.loadGlobal_builtin (by rw [I.ok.glob]; exact I.mod.glob.keeps I.bk) hm (by rw [I.ok.blt]; exact h1.keeps I.bk) ((h2 x hn).trans hv) h) hd
theorem pe_bltn {x:Str} {v:V} {u:Value} {pos:Pos} (hg:Gl X x) (hm:X.mg x = none) (hv:bootBuiltins x = some u) (r:RelV v u) (hn:x ≠ "__name__":=by decide) (hd:(x == ("__debug__":Str)) = false:=by decide):PE X (.Name x pos) (tC v) :=
 fun _ _ _ H _ I h=>ld_blt I hg hm hv ⟨v,H,I,r,h⟩ hn hd
variable {a b:Expr} {ta tb:TE} {pos:Pos}
def PC (X:Cx) (op:CmpOp) (a b:Expr) (t:TE):Prop :=
 ∀ (pins:List (Addr × Obj)) (s:Shared) (σ:St) (H:Hp) (Q:VK),Inv X pins σ H s→t σ H Q →
  wpAny (model X.prog X.w) X.A (eval a X.env) (fun v s₁=>wpAny (model X.prog X.w) X.A (eval b X.env) (fun u s₂=>wpAny (model X.prog X.w) X.A (compareOp op v u) (EP X pins σ Q) X.xe s₂) X.xe s₁) X.xe s
theorem nobehind (b:Expr) {op:CmpOp} (h:op ≠ .In) (h2:op ≠ .NotIn):behindInMarks op b = false:=by
 have e1:(op == CmpOp.In) = false:=by cases op <;> first | rfl | exact absurd rfl h
 have e2:(op == CmpOp.NotIn) = false:=by cases op <;> first | rfl | exact absurd rfl h2
 cases b <;> simp [behindInMarks,e1,e2]
def tIsN (ta:TE):TE:=fun σ H Q=>ta σ H fun x H1=>Q (.bl (decide (x = .non))) H1
def tNotN (ta:TE):TE:=fun σ H Q=>ta σ H fun x H1=>Q (.bl (!decide (x = .non))) H1
theorem RelV.none_iff {x:V} {v:Value} (r:RelV x v):(v == Value.none) = decide (x = .non):=by
 cases x with
 | non=>cases r; rfl
 | bl _=>cases r; rfl
 | int _=>obtain ⟨t,rfl⟩:=r; rfl
 | str _=>obtain ⟨t,rfl⟩:=r; rfl
 | byt _=>obtain ⟨t,rfl⟩:=r; rfl
 | flt _=>obtain ⟨t,rfl⟩:=r; rfl
 | ref _=>cases r; rfl
 | ty _=>cases r; rfl
theorem pc_isN {j pos'} (ha:PE X a ta):PC X .Is a (.Constant .none j pos') (tIsN ta):=by
 intro pins s σ H Q I h
 refine thn (ha pins s σ H _ I h) fun v s1 ⟨x,H1,I1,r1,q1⟩=>?_
 exact Constant_none (is_none_gen ⟨.bl _,H1,I1,by rw [r1.none_iff]; rfl,q1⟩)
theorem pc_notN {j pos'} (ha:PE X a ta):PC X .IsNot a (.Constant .none j pos') (tNotN ta):=by
 intro pins s σ H Q I h
 refine thn (ha pins s σ H _ I h) fun v s1 ⟨x,H1,I1,r1,q1⟩=>?_
 exact Constant_none (isnot_none_gen ⟨.bl _,H1,I1,by rw [r1.none_iff]; rfl,q1⟩)
def tB (t:TE):TT:=fun σ H Q=>t σ H fun x H1=>∃ c,x = .bl c∧Q c H1
theorem pe_cmp {op:CmpOp} {t:TE} (h:PC X op a b t) (h1:behindInMarks op b = false:=by first | exact nobehind _ (by decide) (by decide) | rfl):PE X (.Compare a [op] [b] pos) t:=fun pins s σ H Q I hw=>wpAny_Compare1 (h pins s σ H Q I hw) h1
theorem pt_cmp {op:CmpOp} {t:TE} (h:PC X op a b t) (h1:behindInMarks op b = false:=by first | exact nobehind _ (by decide) (by decide) | rfl):PT X (.Compare a [op] [b] pos) (tB t):=by
 intro pins s σ H Q I hw
 refine wpAny_isTrue_Compare1 (thn (h pins s σ H _ I hw) fun v s1 h1=>thn h1 fun u s2 h2=>thn h2 fun c s3 ⟨x,H1,I1,r1,q1⟩=>?_) h1
 obtain ⟨d,rfl,q⟩:=q1
 cases r1
 exact wpAny_truthy_bool ⟨H1,I1,q⟩
theorem pt_val {e:Expr} {t:TE} (h:PE X e t) (he:∀ whole,isTrue e X.env whole = (do let v ← whole; standAt e.pos; holding [v] (truthy v)):=by intro _; rfl):PT X e (tB t):=by
 intro pins s σ H Q I hw
 refine isTrue_plain (thn (h pins s σ H _ I hw) fun v s1 ⟨x,H1,I1,r1,q1⟩=>?_) (he _)
 obtain ⟨d,rfl,q⟩:=q1
 cases r1
 exact wpAny_truthy_bool ⟨H1,I1,q⟩
variable {tA tB':TT} {rest:List Expr}
def tAnd (t u:TT):TT:=fun σ H Q=>t σ H fun c H1=>if c = true then u σ H1 Q else Q false H1
def tOr (t u:TT):TT:=fun σ H Q=>t σ H fun c H1=>if c = true then Q true H1 else u σ H1 Q
def tNot (t:TT):TT:=fun σ H Q=>t σ H fun c H1=>Q (!c) H1
theorem pw_and1 (ha:PT X a tA):PW X (.BoolOp .And [a] pos) tA:=by
 intro wh pins s σ H Q I h
 refine isTrue_and (thn (ha pins s σ H Q I h) fun c s1 e=>?_)
 cases c with
 | true=>exact isTrue_and_nil e
 | false=>exact e
theorem pw_or1 (ha:PT X a tA):PW X (.BoolOp .Or [a] pos) tA:=by
 intro wh pins s σ H Q I h
 refine isTrue_or (thn (ha pins s σ H Q I h) fun c s1 e=>?_)
 cases c with
 | false=>exact isTrue_or_nil e
 | true=>exact e
theorem pw_and (ha:PT X a tA) (hb:PW X (.BoolOp .And (b :: rest) pos) tB'):PW X (.BoolOp .And (a :: b :: rest) pos) (tAnd tA tB'):=by
 intro wh pins s σ H Q I h
 refine isTrue_and (thn (ha pins s σ H _ I h) fun c s1 ⟨H1,I1,q1⟩=>?_)
 cases c with
 | true=>exact hb wh pins s1 σ H1 Q I1 q1
 | false=>exact ⟨H1,I1,q1⟩
theorem pw_or (ha:PT X a tA) (hb:PW X (.BoolOp .Or (b :: rest) pos) tB'):PW X (.BoolOp .Or (a :: b :: rest) pos) (tOr tA tB'):=by
 intro wh pins s σ H Q I h
 refine isTrue_or (thn (ha pins s σ H _ I h) fun c s1 ⟨H1,I1,q1⟩=>?_)
 cases c with
 | true=>exact ⟨H1,I1,q1⟩
 | false=>exact hb wh pins s1 σ H1 Q I1 q1
theorem pt_not (ha:PT X a tA):PT X (.UnaryOp .Not a pos) (tNot tA):=by
 intro pins s σ H Q I h
 exact isTrue_not (ha pins s σ H (fun c H1=>Q (!c) H1) I h)
def tAndV (ta tb:TE):TE:=fun σ H Q=>ta σ H fun x H1=>∃ c,x = .bl c∧if c = true then tb σ H1 Q else Q (.bl false) H1
def tOrV (ta tb:TE):TE:=fun σ H Q=>ta σ H fun x H1=>∃ c,x = .bl c∧if c = true then Q (.bl true) H1 else tb σ H1 Q
def tNotV (ta:TE):TE:=fun σ H Q=>ta σ H fun x H1=>∃ c,x = .bl c∧Q (.bl (!c)) H1
theorem pe_one {op} {t:TE} (h:PE X a t):PE X (.BoolOp op [a] pos) t:=fun pins s σ H Q I hw=>BoolOp_one (h pins s σ H Q I hw)
theorem pe_and (ha:PE X a ta) (hb:PE X (.BoolOp .And (b :: rest) pos) tb):PE X (.BoolOp .And (a :: b :: rest) pos) (tAndV ta tb):=by
 intro pins s σ H Q I h
 refine BoolOp_and (thn (ha pins s σ H _ I h) fun v s1 ⟨x,H1,I1,r1,q1⟩=>?_)
 obtain ⟨c,rfl,q1⟩:=q1
 cases r1
 refine wpAny_truthy_bool ?_
 cases c with
 | true=>exact hb pins s1 σ H1 Q I1 q1
 | false=>exact ⟨.bl false,H1,I1,rfl,q1⟩
theorem pe_or (ha:PE X a ta) (hb:PE X (.BoolOp .Or (b :: rest) pos) tb):PE X (.BoolOp .Or (a :: b :: rest) pos) (tOrV ta tb):=by
 intro pins s σ H Q I h
 refine BoolOp_or (thn (ha pins s σ H _ I h) fun v s1 ⟨x,H1,I1,r1,q1⟩=>?_)
 obtain ⟨c,rfl,q1⟩:=q1
 cases r1
 refine wpAny_truthy_bool ?_
 cases c with
 | false=>exact hb pins s1 σ H1 Q I1 q1
 | true=>exact ⟨.bl true,H1,I1,rfl,q1⟩
theorem pe_not (ha:PE X a ta):PE X (.UnaryOp .Not a pos) (tNotV ta):=by
 intro pins s σ H Q I h
 refine UnaryOp_ (thn (ha pins s σ H _ I h) fun v s1 ⟨x,H1,I1,r1,q1⟩=>?_)
 obtain ⟨c,rfl,q1⟩:=q1
 cases r1
 exact not_of (wpAny_truthy_bool ⟨.bl (!c),H1,I1,rfl,q1⟩)
def tIf (t:TT) (ta tb:TE):TE:=fun σ H Q=>t σ H fun c H1=>if c = true then ta σ H1 Q else tb σ H1 Q
theorem pe_ifExp {c:Expr} (hc:PT X c tA) (ha:PE X a ta) (hb:PE X b tb):PE X (.IfExp c a b pos) (tIf tA ta tb):=by
 intro pins s σ H Q I h
 refine wpAny_IfExp (thn (hc pins s σ H _ I h) fun d s1 ⟨H1,I1,q1⟩=>?_)
 cases d with
 | true=>exact ha pins s1 σ H1 Q I1 q1
 | false=>exact hb pins s1 σ H1 Q I1 q1
end
end L2
namespace L2
open PySem PySem.Spec PyProof.Rows
def SqL (K:PySem.W.Frag) (H:Hp) (a:Addr) (xs:List V):Prop :=
 Rd H a (.lst xs) ∨
  ∃ (o:Obj) (its:Array Value) (n:Nat),K.lookup a = some o∧o.cls = .type "list"∧o.dict = none∧o.data = .seq its n∧its.size ≤ sizeLine∧Vals xs its.toList
def SqT (K:PySem.W.Frag) (H:Hp) (a:Addr) (xs:List V):Prop :=
 Rd H a (.tup xs) ∨
  ∃ (o:Obj) (its:Array Value) (n:Nat),K.lookup a = some o∧o.cls = .type "tuple"∧o.data = .seq its n∧its.size ≤ sizeLine∧Vals xs its.toList
def absV:Value→Option V
 | .none=>some .non
 | .bool b=>some (.bl b)
 | .int i _=>some (.int i)
 | .str x _=>some (.str x)
 | .bytes b _=>some (.byt b)
 | .float b _=>some (.flt b)
 | .ref a=>some (.ref a)
 | .type n=>some (.ty n)
 | _=>none
theorem RelV.abs {x:V} {u:Value} (r:RelV x u):absV u = some x:=by
 cases x with
 | non=>cases r; rfl
 | bl _=>cases r; rfl
 | int _=>obtain ⟨t,rfl⟩:=r; rfl
 | str _=>obtain ⟨t,rfl⟩:=r; rfl
 | byt _=>obtain ⟨t,rfl⟩:=r; rfl
 | flt _=>obtain ⟨t,rfl⟩:=r; rfl
 | ref _=>cases r; rfl
 | ty _=>cases r; rfl
theorem RelV.inj {x y:V} {u:Value} (r:RelV x u) (q:RelV y u):x = y:=Option.some.inj (r.abs.symm.trans q.abs)
theorem Vals.inj:∀ {xs ys:List V} {us:List Value},Vals xs us→Vals ys us→xs = ys
 | _,_,_,.nil,.nil=>rfl
 | _,_,_,.cons r t,.cons r' t'=>by rw [r.inj r',Vals.inj t t']
section
variable {X:Cx} {pins:List (Addr × Obj)} {σ:St} {H:Hp} {s:Shared} {a:Addr} {xs ys:List V}
theorem SqL.of {K:PySem.W.Frag} (h:H a = some (.lst xs)):SqL K H a xs:=.inl (.inl h)
theorem SqT.of {K:PySem.W.Frag} (h:H a = some (.tup xs)):SqT K H a xs:=.inl (.inl h)
theorem Inv.list (I:Inv X pins σ H s) (h:SqL X.K H a xs):∃ its:List Value,Vals xs its∧PlainL s.heap a its.toArray∧xs.length ≤ sizeLine:=by
 rcases h with h | ⟨o,its,n,hk,hc,hd,hs,hz,r⟩
 ·obtain ⟨z,its,n,r,e⟩:=h.ok I.hok
  exact ⟨its,r,⟨_,n,e,rfl,rfl,rfl⟩,z⟩
 ·refine ⟨its.toList,r,⟨o,n,I.kIn a o hk,hc,hd,by simpa using hs⟩,?_⟩
  have e:=r.length
  simp only [Array.length_toList] at e
  omega
theorem Inv.tuple (I:Inv X pins σ H s) (h:SqT X.K H a xs):∃ its:List Value,Vals xs its∧IsTup s.heap a its.toArray∧xs.length ≤ sizeLine:=by
 rcases h with h | ⟨o,its,n,hk,hc,hs,hz,r⟩
 ·obtain ⟨z,its,r,p⟩:=h.ok I.hok
  exact ⟨its,r,p,z⟩
 ·refine ⟨its.toList,r,⟨o,I.kIn a o hk,hc,n,by simpa using hs⟩,?_⟩
  have e:=r.length
  simp only [Array.length_toList] at e
  omega
theorem Inv.list_inj (I:Inv X pins σ H s) (h:SqL X.K H a xs) (h':SqL X.K H a ys):xs = ys:=by
 obtain ⟨its,r,⟨o,n,e,_,_,d⟩,_⟩:=I.list h
 obtain ⟨its',r',⟨o',n',e',_,_,d'⟩,_⟩:=I.list h'
 rw [e] at e'; cases e'
 rw [d] at d'
 injection d' with d1 _
 have:its = its':=by simpa using congrArg Array.toList d1
 subst this
 exact r.inj r'
end
abbrev Cx.wish (X:Cx) (E:Value→Shared→Prop):Cx:={ X with xe:=E }
abbrev Cx.nox (X:Cx):Cx:=X.wish fun _ _=>False
theorem Cx.Ok.wish {X:Cx} (ok:X.Ok) (E:Value→Shared→Prop):(X.wish E).Ok :=
 ⟨ok.mod,ok.kind,ok.glob,ok.blt,ok.above,ok.inj,ok.has,ok.cab,ok.hd,ok.frames,ok.stk,ok.exf,ok.bs,ok.bsz,ok.noex,ok.exfs,ok.funs,ok.frf⟩
theorem Cx.Ok.unwish {X:Cx} {E:Value→Shared→Prop} (ok:(X.wish E).Ok):X.Ok :=
 ⟨ok.mod,ok.kind,ok.glob,ok.blt,ok.above,ok.inj,ok.has,ok.cab,ok.hd,ok.frames,ok.stk,ok.exf,ok.bs,ok.bsz,ok.noex,ok.exfs,ok.funs,ok.frf⟩
section
variable {X:Cx} {pins:List (Addr × Obj)} {σ:St} {H:Hp} {s:Shared} {E:Value→Shared→Prop}
theorem Inv.wish (I:Inv X pins σ H s) (E:Value→Shared→Prop):Inv (X.wish E) pins σ H s:=⟨I.ok.wish E,I.os,I.bare,I.base,I.loc,I.cell,I.free,I.freeC,I.pin,I.hok,I.len⟩
theorem Inv.unwish (I:Inv (X.wish E) pins σ H s):Inv X pins σ H s:=⟨I.ok.unwish,I.os,I.bare,I.base,I.loc,I.cell,I.free,I.freeC,I.pin,I.hok,I.len⟩
theorem SP.unwish {D:Ends} {f:Flow} {s':Shared} (h:SP (X.wish E) pins D f s'):SP X pins D f s':=by
 cases f with
 | next=>obtain ⟨σ',H',I,q⟩:=h; exact ⟨σ',H',I.unwish,q⟩
 | brk=>obtain ⟨σ',H',I,q⟩:=h; exact ⟨σ',H',I.unwish,q⟩
 | cont=>obtain ⟨σ',H',I,q⟩:=h; exact ⟨σ',H',I.unwish,q⟩
 | ret u=>obtain ⟨v,σ',H',I,r,q⟩:=h; exact ⟨v,σ',H',I.unwish,r,q⟩
theorem PSs.nox {st:List Stmt} {t:TS} (h:PSs X.nox st t):PSs X st t:=fun pins s σ H D I hw =>
 wpAny_mono (h pins s σ H D (I.wish _) hw) (fun _ _ q=>q.unwish) fun _ _ z=>False.elim z
end
section
variable {X:Cx} {st:Stmt} {rest:List Stmt} {t u:TS} {e:Expr} {te:TE} {pos:Pos}
def tNext:TS:=fun D σ H=>D.nx σ H
def tSeq (t u:TS):TS:=fun D σ H=>t { D with nx:=u D } σ H
theorem pss_nil:PSs X [] tNext:=fun _ _ σ H _ I h=>wpAny_execs_nil ⟨σ,H,I,h⟩
theorem pss_cons (h1:PS X st t) (h2:PSs X rest u):PSs X (st :: rest) (tSeq t u):=by
 intro pins s σ H D I h
 refine wpAny_execs_cons (thn (h1 pins s σ H { D with nx:=u D } I h) fun f s1 q=>?_)
 cases f with
 | next =>
  obtain ⟨σ',H',I',q⟩:=q
  exact h2 pins s1 σ' H' D I' q
 | ret v=>exact q
 | brk=>exact q
 | cont=>exact q
theorem pss_one (h1:PS X st t):PSs X [st] t:=by
 intro pins s σ H D I h
 refine wpAny_execs_cons (thn (h1 pins s σ H D I h) fun f s1 q=>?_)
 cases f with
 | next=>exact wpAny_execs_nil q
 | ret v=>exact q
 | brk=>exact q
 | cont=>exact q
theorem Inv.quiet {pins:List (Addr × Obj)} {σ:St} {H:Hp} {s:Shared} (I:Inv X pins σ H s):interactive X.env = false:=by simp [interactive,I.ok.kind]
def tDrop (te:TE):TS:=fun D σ H=>te σ H fun _ H1=>D.nx σ H1
theorem ps_expr (he:PE X e te) (hs:swapsWith e none pos.line X.env = pure false:=by rfl):PS X (.Expr e pos) (tDrop te):=by
 intro pins s σ H D I h
 exact wpAny_Expr_any (thn (he pins s σ H _ I h) fun v s1 ⟨x,H1,I1,r1,q1⟩=>⟨σ,H1,I1,q1⟩) I.quiet hs
def tRet (te:TE):TS:=fun D σ H=>te σ H D.rt
theorem ps_ret (he:PE X e te):PS X (.Return (some e) pos) (tRet te):=by
 intro pins s σ H D I h
 exact wpAny_Return_some (thn (he pins s σ H _ I h) fun v s1 ⟨x,H1,I1,r1,q1⟩=>⟨x,σ,H1,I1,r1,q1⟩)
def tIfS (c:TT) (t u:TS):TS:=fun D σ H=>c σ H fun b H1=>if b = true then t D σ H1 else u D σ H1
theorem ps_if {c:Expr} {a b:List Stmt} {tc:TT} (hc:PT X c tc) (ha:PSs X a t) (hb:PSs X b u):PS X (.If c a b pos) (tIfS tc t u):=by
 intro pins s σ H D I h
 refine wpAny_If (thn (hc pins s σ H _ I h) fun d s1 ⟨H1,I1,q1⟩=>?_)
 cases d with
 | true=>exact ha pins s1 σ H1 D I1 q1
 | false=>exact hb pins s1 σ H1 D I1 q1
def tNever:TS:=fun _ _ _=>False
theorem ps_never:PS X st tNever:=fun _ _ _ _ _ _ h=>h.elim
end
abbrev TG:=V→St→Hp→(St→Hp→Prop)→Prop
abbrev TGs:=List V→St→Hp→(St→Hp→Prop)→Prop
def PG (X:Cx) (target:Expr) (t:TG):Prop :=
 ∀ (pins:List (Addr × Obj)) (s:Shared) (σ:St) (H:Hp) (v:V) (u:Value) (Q:St→Hp→Prop),Inv X pins σ H s→RelV v u→t v σ H Q →
  wpAny (model X.prog X.w) X.A (assign target X.env u) (fun _ s'=>∃ σ' H',Inv X pins σ' H' s'∧Q σ' H') X.xe s
def PGs (X:Cx) (ts:List Expr) (t:TGs):Prop :=
 ∀ (pins:List (Addr × Obj)) (s:Shared) (σ:St) (H:Hp) (vs:List V) (us:List Value) (Q:St→Hp→Prop),Inv X pins σ H s→Vals vs us→t vs σ H Q →
  wpAny (model X.prog X.w) X.A (assignInOrder ((assignEach ts X.env).map (·.2)) us) (fun _ s'=>∃ σ' H',Inv X pins σ' H' s'∧Q σ' H') X.xe s
abbrev TSet:=V→V→V→Hp→(Hp→Prop)→Prop
def PSet (X:Cx) (t:TSet):Prop :=
 ∀ (pins:List (Addr × Obj)) (s:Shared) (σ:St) (H:Hp) (o i v:V) (ov iv u:Value) (Q:Hp→Prop),Inv X pins σ H s→RelV o ov→RelV i iv→RelV v u→t o i v H Q →
  wpAny (model X.prog X.w) X.A (setItem ov iv u) (fun _ s'=>∃ H',Inv X pins σ H' s'∧Q H') X.xe s
section
variable {X:Cx} {pos:Pos}
def gName (i:Nat):TG:=fun v σ H Q=>Q (σ.set i (some v)) H
theorem pg_name {i:Nat} {x:Str} (hN:X.N.Nodup) (hi:X.N[i]? = some x) (hx:Loc X.env.scope x) (hf:X.fn x = true ∨ X.env.scope.names.lookup x = some .local:=by first | exact .inl rfl | exact .inr rfl | assumption):PG X (.Name x pos) (gName i):=by
 intro pins s σ H v u Q I r h
 exact wpAny_assign_Name (store_ok I hN hi hx r (fun s' I'=>⟨_,H,I',h⟩) hf)
def gNil:TGs:=fun vs σ H Q=>vs = []∧Q σ H
def gCons (t:TG) (u:TGs):TGs:=fun vs σ H Q=>∃ v r,vs = v :: r∧t v σ H fun σ' H'=>u r σ' H' Q
theorem pgs_nil:PGs X [] gNil:=by
 intro pins s σ H vs us Q I r h
 obtain ⟨e,h⟩:=h
 subst e
 cases r
 exact assignInOrder_nil ⟨σ,H,I,h⟩
theorem pgs_cons {e:Expr} {es:List Expr} {t:TG} {u:TGs} (h1:PG X e t) (h2:PGs X es u)
  (hs:(assignEach (e :: es) X.env).map (·.2) = assign e X.env :: (assignEach es X.env).map (·.2):=by rfl):PGs X (e :: es) (gCons t u):=by
 intro pins s σ H vs us Q I r h
 obtain ⟨v,vr,e1,h⟩:=h
 subst e1
 cases r with
 | cons r rr =>
  rw [hs]
  refine assignInOrder_cons (thn (h1 pins s σ H _ _ _ I r h) fun _ s1 ⟨σ1,H1,I1,q1⟩=>?_)
  exact h2 pins s1 σ1 H1 _ _ Q I1 rr q1
def gTup (K:PySem.W.Frag) (n:Nat) (t:TGs):TG:=fun v σ H Q=>∃ a xs,v = .ref a∧SqT K H a xs∧xs.length = n∧t xs σ H Q
theorem pg_tup {es:List Expr} {k:Nat} {t:TGs} {n:Nat} (hc:X.calm = true) (h:PGs X es t)
  (hn:(assignEach es X.env).length = n:=by rfl) (hst:(assignEach es X.env).findIdx? (·.1) = none:=by rfl):PG X (.Tuple es k pos) (gTup X.K n t):=by
 intro pins s σ H v u Q I r hw
 obtain ⟨a,xs,e1,hq,hl,hw⟩:=hw
 subst e1
 cases r
 obtain ⟨its,rv,ht,hz⟩:=I.tuple hq
 refine assign_Tuple_tuple (I.ok.hd hc) ht (by simp [hn,← hl,rv.length]) hst fun h' hx=>?_
 have I1:Inv X pins σ H { s with heap:=h' }:=I.kept (t':=s.toks) fun b o e=>hx b o (Nat.ne_of_lt (Heap.lt_size e)) e
 exact h pins _ σ H xs _ Q I1 (by simpa using rv) hw
def gSub (to ti:TE) (t:TSet):TG:=fun v σ H Q=>to σ H fun o H1=>ti σ H1 fun i H2=>t o i v H2 fun H3=>Q σ H3
theorem pg_sub {o i:Expr} {to ti:TE} {t:TSet} (ho:PE X o to) (hi:PE X i ti) (hs:PSet X t)
  (ha:∀ v,assign (.Subscript o i pos) X.env v = (do
   let ov ← holding [v] (eval o X.env)
   let iv ← holding [v,ov] (eval i X.env)
   standAt pos
   holding [v,ov,iv] (setItem ov iv v)
   release [v,ov,iv] []):=by intro _; rfl):PG X (.Subscript o i pos) (gSub to ti t):=by
 intro pins s σ H v u Q I r h
 rw [ha]
 refine wpAny_bind (wpAny_holding (thn (ho pins s σ H _ I h) fun ov s1 ⟨x,H1,I1,r1,q1⟩=>?_))
 refine wpAny_bind (wpAny_holding (thn (hi pins s1 σ H1 _ I1 q1) fun iv s2 ⟨y,H2,I2,r2,q2⟩=>?_))
 refine wpAny_bind (wpAny_standAt (wpAny_bind (wpAny_holding (thn (hs pins s2 σ H2 x y v ov iv u _ I2 r1 r2 r q2) fun _ s3 ⟨H3,I3,q3⟩=>?_))))
 exact wpAny_release ⟨σ,H3,I3,q3⟩
def tAsg (te:TE) (g:TG):TS:=fun D σ H=>te σ H fun x H1=>g x σ H1 D.nx
theorem ps_asg {tg e:Expr} {te:TE} {g:TG} (he:PE X e te) (hg:PG X tg g) (hs:swapsWithSole [tg] e pos.line X.env = pure false:=by rfl) (hw:swappedStores [tg] e X.env = pure none:=by rfl)
  (h1:(assignEach [tg] X.env).map (·.2) = [assign tg X.env]:=by rfl):PS X (.Assign [tg] e pos) (tAsg te g):=by
 intro pins s σ H D I h
 refine wpAny_Assign_stores (thn (he pins s σ H _ I h) fun v s1 ⟨x,H1,I1,r1,q1⟩=>?_) hs hw
 rw [h1]
 exact thn (hg pins s1 σ H1 x v _ I1 r1 q1) fun _ s2 q=>q
theorem ps_set {i:Nat} {x:Str} {e:Expr} {te:TE} {pos':Pos} (hN:X.N.Nodup) (hi:X.N[i]? = some x) (hx:Loc X.env.scope x) (he:PE X e te) (hs:swapsWith e (some (.Name x pos')) pos.line X.env = pure false:=by rfl) (hf:X.fn x = true ∨ X.env.scope.names.lookup x = some .local:=by first | exact .inl rfl | exact .inr rfl | assumption) :
  PS X (.Assign [.Name x pos'] e pos) (tAsg te (gName i)):=by
 intro pins s σ H D I h
 refine wpAny_Assign_Name (thn (he pins s σ H _ I h) fun v s1 ⟨y,H1,I1,r1,q1⟩=>?_) hs
 exact store_ok I1 hN hi hx r1 (fun s2 I2=>⟨_,H1,I2,q1⟩) hf
end
section
variable {X:Cx} {pos:Pos}
def tWhile (c:TT) (tb:TS):TS:=fun D σ H=>∃ W:Nat→St→Hp→Prop,(∃ m,W m σ H)∧∀ m σ H,W m σ H →
 c σ H fun b H1=>if b = true then ∃ N:St→Hp→Prop,(∀ σ' H',N σ' H'→∃ m',m' < m∧W m' σ' H')∧tb { D with nx:=N,ct:=N,bk:=D.nx } σ H1 else D.nx σ H1
theorem ps_while {c:Expr} {body:List Stmt} {tc:TT} {tb:TS} (hp:PassesOwn (model X.prog X.w) X.A X.env X.xe) (hc:PT X c tc) (hb:PSs X body tb):PS X (.While c body [] pos) (tWhile tc tb):=by
 intro pins s σ H D I h
 obtain ⟨W,⟨m0,w0⟩,turn⟩:=h
 refine wpAny_While (codeAny_whileLoop (fun n s'=>∃ σ' H',Inv X pins σ' H' s'∧W n σ' H') ?_ m0 ⟨σ,H,I,w0⟩)
 rintro n s1 ⟨σ1,H1,I1,w1⟩
 refine wpAny_passesOwn hp (thn (hc pins s1 σ1 H1 _ I1 (turn n σ1 H1 w1)) fun b s2 ⟨H2,I2,q2⟩=>?_)
 cases b with
 | true =>
  obtain ⟨N,hN,q2⟩:=q2
  rw [if_pos rfl]
  refine wpAny_passesOwn hp (thn (hb pins s2 σ1 H2 _ I2 q2) fun f s3 q3=>?_)
  cases f with
  | next =>
   obtain ⟨σ3,H3,I3,n3⟩:=q3
   obtain ⟨m',hm,w3⟩:=hN σ3 H3 n3
   exact ⟨m',hm,σ3,H3,I3,w3⟩
  | cont =>
   obtain ⟨σ3,H3,I3,n3⟩:=q3
   obtain ⟨m',hm,w3⟩:=hN σ3 H3 n3
   exact ⟨m',hm,σ3,H3,I3,w3⟩
  | brk=>exact q3
  | ret v=>exact q3
 | false =>
  rw [if_neg Bool.false_ne_true]
  exact wpAny_execs_nil ⟨σ1,H2,I2,q2⟩
end
structure It where
 go:Nat→Hp→Prop
 yld:Nat→Hp→V→Hp→Prop
 stop:Nat→Hp→Prop
def FpOk (X:Cx) (pins:List (Addr × Obj)) (H:Hp) (b:Addr):Prop :=
 H b = none∧b ≠ X.env.locals∧b ∉ X.fs∧(b ∈ X.ex ∨ X.s₀.heap.objs.size ≤ b)∧(∀ x c,X.env.cells.lookup x = some c→c ≠ b)∧∀ p ∈ X.pn ++ pins,p.1 ≠ b
theorem Inv.fpOk {X:Cx} {pins:List (Addr × Obj)} {σ:St} {H H':Hp} {s:Shared} {b:Addr} (I:Inv X pins σ H s) (hb:s.heap.objs.size ≤ b) (hn:H' b = none):FpOk X pins H' b:=by
 refine ⟨hn,Nat.ne_of_gt (Nat.lt_of_lt_of_le I.lt hb),I.nofs hb,.inr (Nat.le_trans I.sz hb),fun x c e z=>?_,fun p hp z=>?_⟩
 ·obtain ⟨v,q⟩:=I.cell x c e
  exact absurd (Nat.lt_of_lt_of_le q.lt (by rw [z]; exact hb)) (Nat.lt_irrefl _)
 ·exact absurd (Nat.lt_of_lt_of_le (Heap.lt_size (I.pin p hp).1) (by rw [z]; exact hb)) (Nat.lt_irrefl _)
structure Turn (P:Program) (w:World) (K:PySem.W.Frag) (tg:Expr) (J:It) (fp:List Addr) (it:Addr) (tn:Nat→Heap→Prop):Prop where
 mem:it ∈ fp
 obj:∀ i h,tn i h→∀ b ∈ fp,∃ o,h.get? b = some o∧∀ v,o.data ≠ .cell v
 keep:∀ i h h',tn i h→(∀ b ∈ fp,∀ o,h.get? b = some o→h'.get? b = some o)→tn i h'
 item:∀ (X:Cx),X.prog = P→X.w = w→X.K = K→X.calm = true→∀ (i:Nat) (pins:List (Addr × Obj)) (s:Shared) (σ:St) (H:Hp) (E:Value→Shared→Prop),Inv X pins σ H s→(∀ b ∈ fp,FpOk X pins H b)→tn i s.heap→J.go i H →
  wpAny (model P w) X.A (pyNext (.ref it)) (fun r s1=>∃ u,r = some u ∧
   wpAny (model P w) X.A (letOwnedTupleGo tg (.ref it) u) (fun _ s2=>∃ x H',Inv X pins σ H' s2∧RelV x u∧J.yld i H x H'∧tn (i + 1) s2.heap∧∀ b ∈ fp,H' b = none) E s1) E s
 done:∀ (X:Cx),X.prog = P→X.w = w→X.K = K→X.calm = true→∀ (i:Nat) (pins:List (Addr × Obj)) (s:Shared) (σ:St) (H:Hp) (E:Value→Shared→Prop),Inv X pins σ H s→(∀ b ∈ fp,FpOk X pins H b)→tn i s.heap→J.stop i H →
  wpAny (model P w) X.A (pyNext (.ref it)) (fun r s1=>r = none∧Inv X pins σ H s1) E s
 self:∀ (A:Around) (i:Nat) (s:Shared) (Q:Value→Shared→Prop) (E:Value→Shared→Prop),tn i s.heap→Q (.ref it) s→wpAny (model P w) A (pyIter (.ref it)) Q E s
abbrev TI:=St→Hp→(It→Hp→Prop)→Prop
def PIE (X:Cx) (pins:List (Addr × Obj)) (σ:St) (tg:Expr) (R:It→Hp→Prop) (itv:Value) (s2:Shared):Prop :=
 ∃ (it:Addr) (fp:List Addr) (tn:Nat→Heap→Prop) (J:It) (H':Hp),itv = .ref it∧Inv X pins σ H' s2∧Turn X.prog X.w X.K tg J fp it tn∧tn 0 s2.heap∧(∀ b ∈ fp,FpOk X pins H' b)∧R J H'
def PI (X:Cx) (tg iter:Expr) (wi:TI):Prop :=
 ∀ (pins:List (Addr × Obj)) (s:Shared) (σ:St) (H:Hp) (R:It→Hp→Prop),Inv X pins σ H s→wi σ H R →
  wpAny (model X.prog X.w) X.A (eval iter X.env) (fun v s1=>wpAny (model X.prog X.w) X.A (pyIter v) (PIE X pins σ tg R) X.xe s1) X.xe s
theorem go_of {M:Model} {A:Around} {E:Value→Shared→Prop} {s:Shared} {tg:Expr} {it:Addr} {u:Value} {o:Obj} {n:String} {vs:Array Value} {Q:Unit→Shared→Prop} (ho:s.heap.get? it = some o) (hc:o.cls = .type n) (hd:o.data = .fields vs)
  (hn:["enumerate","zip","dict_itemiterator","dict_reverseitemiterator","odict_iterator","itertools.zip_longest","itertools.pairwise"].contains n = false) (hQ:Q () s):wpAny M A (letOwnedTupleGo tg (.ref it) u) Q E s:=by
 unfold letOwnedTupleGo
 cases tg <;> first
  | exact wpAny_pure hQ
  | (cases u <;> first
    | exact wpAny_pure hQ
    | (refine wpAny_bind (wpAny_load ho ?_); rw [hc,hd]; show wpAny M A (if (["enumerate","zip","dict_itemiterator","dict_reverseitemiterator","odict_iterator","itertools.zip_longest","itertools.pairwise"].contains n && vs[0]? == some (rawInt _)) = true then _ else _) Q E s; rw [if_neg (by intro h; rw [hn,Bool.false_and] at h; cases h)]; exact wpAny_pure hQ))
def Itl (K:PySem.W.Frag) (a:Addr):It :=
 ⟨fun i H=>∃ xs x,SqL K H a xs∧xs[i]? = some x,fun i H x H'=>H' = H∧∀ xs,SqL K H a xs→xs[i]? = some x,fun i H=>∃ xs,SqL K H a xs∧xs.length ≤ i⟩
def Itr (lo:Int) (n:Nat):It:=⟨fun i _=>i < n,fun i H x H'=>H' = H∧x = .int (lo + i),fun i _=>n ≤ i⟩
theorem turn_list {P:Program} {w:World} {K:PySem.W.Frag} {tg:Expr} (a it:Addr):Turn P w K tg (Itl K a) [it] it (fun i h=>h.IsListIter it a i) where
 mem:=by simp
 obj:=fun i h st b hb=>by
  have e:b = it:=by simpa using hb
  subst e
  obtain ⟨o,e,c,d⟩:=st
  exact ⟨o,e,fun v z=>by rw [d] at z; cases z⟩
 keep:=fun i h h' st k=>st.at fun o e=>k it (by simp) o e
 item:=by
  intro X hP hw hK hc i pins s σ H E I hf st hg
  subst hP hw hK
  obtain ⟨xs,x,hq,hx⟩:=hg
  obtain ⟨its,rv,p,hz⟩:=I.list hq
  obtain ⟨u,hu,ru⟩:=rv.get hx
  obtain ⟨f0,f1,f2,f3,f4,f5⟩:=hf it (by simp)
  refine wpAny_pyNext_list_item st p.isList (x:=u) (by simpa using hu) fun h' st' sb=>?_
  have I1:Inv X pins σ H { s with heap:=h' }:=I.turned (t':=s.toks) (fun b o hb e=>(sb.2 b hb).trans e) f0 f1 f3 f4 f5
  obtain ⟨o,e,c,d⟩:=id st'
  exact ⟨u,rfl,go_of (s:={ s with heap:=h' }) e c d (by decide) ⟨x,H,I1,ru,⟨rfl,fun ys hy=>by rw [I.list_inj hy hq]; exact hx⟩,st',fun b hb=>(hf b hb).1⟩⟩
 done:=by
  intro X hP hw hK hc i pins s σ H E I hf st hg
  subst hP hw hK
  obtain ⟨xs,hq,hx⟩:=hg
  obtain ⟨its,rv,p,hz⟩:=I.list hq
  obtain ⟨f0,f1,f2,f3,f4,f5⟩:=hf it (by simp)
  have hl:=rv.length
  exact wpAny_pyNext_list_end (I.ok.hd hc) st p.isList (by simp; omega) fun h' eb=>⟨rfl,I.turned (t':=s.toks) (fun b o hb e=>eb b o hb e) f0 f1 f3 f4 f5⟩
 self:=fun _ _ _ _ _ st h=>wpAny_pyIter_listiter st h
theorem turn_range {P:Program} {w:World} {K:PySem.W.Frag} {tg:Expr} (it:Addr) (lo:Int) (n:Nat):Turn P w K tg (Itr lo n) [it] it (fun i h=>IsRangeIter h it (lo + (i:Nat) * 1) ((n:Int) - (i:Nat)) 1) where
 mem:=by simp
 obj:=fun i h st b hb=>by
  have e:b = it:=by simpa using hb
  subst e
  exact ⟨_,st,fun v z=>by
   have z':Data.fields _ = Data.cell v:=z
   cases z'⟩
 keep:=fun i h h' st k=>k it (by simp) _ st
 item:=by
  intro X hP hw hK hc i pins s σ H E I hf st hg
  subst hP hw hK
  obtain ⟨f0,f1,f2,f3,f4,f5⟩:=hf it (by simp)
  have W:=Walks.range (prog:=X.prog) (w:=X.w) (I.ok.hd hc) it lo 1 n
  refine W.item i s _ _ hg st fun v h' tk hv st' kk=>?_
  obtain ⟨t,rfl⟩:=hv
  have I1:Inv X pins σ H { s with heap:=h',toks:=tk }:=I.turned (fun b o hb e=>kk b o (by simpa using hb) e) f0 f1 f3 f4 f5
  refine ⟨_,rfl,go_of (s:={ s with heap:=h',toks:=tk }) (n:="range_iterator") st' rfl rfl (by decide) ⟨.int (lo + i),H,I1,⟨t,?_⟩,⟨rfl,rfl⟩,st',fun b hb=>(hf b hb).1⟩⟩
  rw [Int.mul_one]
 done:=by
  intro X hP hw hK hc i pins s σ H E I hf st hg
  subst hP hw hK
  obtain ⟨f0,f1,f2,f3,f4,f5⟩:=hf it (by simp)
  exact wpAny_pyNext_range_end (I.ok.hd hc) st (by have:n ≤ i:=hg; omega) fun h' eb=>⟨rfl,I.turned (t':=s.toks) (fun b o hb e=>eb b o hb e) f0 f1 f3 f4 f5⟩
 self:=fun _ _ _ _ _ st h=>wpAny_pyIter_rangeiter st h
end L2
namespace L2
open PySem PySem.Spec PyProof.Rows
section
variable {X:Cx} {tg:Expr}
def iList (K:PySem.W.Frag) (tl:TE):TI:=fun σ H R=>tl σ H fun x H1=>∃ a,x = .ref a∧(∃ xs,SqL K H1 a xs)∧R (Itl K a) H1
theorem pi_list {l:Expr} {tl:TE} (hl:PE X l tl):PI X tg l (iList X.K tl):=by
 intro pins s σ H R I h
 refine thn (hl pins s σ H _ I h) fun v s1 ⟨x,H1,I1,r1,q1⟩=>?_
 obtain ⟨a,e,⟨xs,hq⟩,q⟩:=q1
 subst e
 cases r1
 obtain ⟨its,rv,p,hz⟩:=I1.list hq
 refine wpAny_pyIter_list p.isList ?_
 refine ⟨s1.heap.objs.size,[s1.heap.objs.size],_,_,H1,rfl,I1.kept (t':=s1.toks) fun b o e=>Heap.get?_push_of_some _ e,turn_list a _,⟨_,Heap.get?_push_size _ rfl,rfl,rfl⟩,fun b hb=>?_,q⟩
 have e:b = s1.heap.objs.size:=by simpa using hb
 subst e
 exact I1.fpOk (Nat.le_refl _) (I1.hok.fresh (Nat.le_refl _))
theorem range_it {pins:List (Addr × Obj)} {σ:St} {H:Hp} {s:Shared} {R:It→Hp→Prop} {E:Value→Shared→Prop} {lo hi:Int} {t u v:Tok} {tk:Nat} (I:Inv X pins σ H s) (h1:-(2 ^ 62) ≤ lo) (h2:lo < 2 ^ 62) (h3:-(2 ^ 62) ≤ hi) (h4:hi < 2 ^ 62)
  (q:R (Itr lo (hi - lo).toNat) H):wpAny (model X.prog X.w) X.A (pyIter (.ref s.heap.objs.size)) (PIE X pins σ tg R) E { s with heap:=s.heap.push { cls:=.type "range",data:=.fields #[.int lo t,.int hi u,.int 1 v] },toks:=tk }:=by
 refine wpAny_pyIter_range (IsRange.new ..) (small_one h1 h2 h3 h4) ?_
 have I1:Inv X pins σ H { s with heap:=s.heap.push { cls:=.type "range",data:=.fields #[.int lo t,.int hi u,.int 1 v] },toks:=tk }:=I.kept fun b o e=>Heap.get?_push_of_some _ e
 refine ⟨(s.heap.push { cls:=.type "range",data:=.fields #[.int lo t,.int hi u,.int 1 v] }).objs.size,[(s.heap.push { cls:=.type "range",data:=.fields #[.int lo t,.int hi u,.int 1 v] }).objs.size],_,_,H,rfl,
  I1.kept (t':=tk) fun b o e=>Heap.get?_push_of_some _ e,turn_range _ lo (hi - lo).toNat,?_,fun b hb=>?_,q⟩
 ·have e1:lo + ((0:Nat):Int) * 1 = lo:=by simp
  have e2:(((hi - lo).toNat:Nat):Int) - ((0:Nat):Int) = Builtin.Range.rangeSize lo hi 1:=by rw [rangeSize_one]; split <;> omega
  show IsRangeIter _ _ (lo + ((0:Nat):Int) * 1) ((((hi - lo).toNat:Nat):Int) - ((0:Nat):Int)) 1
  rw [e1,e2]
  exact Heap.get?_push_size _ rfl
 ·have e:b = (s.heap.push { cls:=.type "range",data:=.fields #[.int lo t,.int hi u,.int 1 v] }).objs.size:=by simpa using hb
  subst e
  exact I1.fpOk (Nat.le_refl _) (I1.hok.fresh (Nat.le_refl _))
def iRng1 (ta:TA):TI:=fun σ H R=>ta σ H fun vs H1=>∃ j:Int,vs = [.int j]∧-(2 ^ 62) ≤ j∧j < 2 ^ 62∧R (Itr 0 j.toNat) H1
theorem pi_range1 {a:Expr} {ta:TA} {p pos:Pos} (hg:Gl X "range") (hm:X.mg "range" = none) (ha:PA X [a] ta) (hs:starEach [a] X.env = [(false,eval a X.env)]:=by rfl):PI X tg (.Call (.Name "range" p) [a] [] pos) (iRng1 ta):=by
 intro pins s σ H R I h
 refine Call_ (ld_blt I hg hm boot_range (PyProof.Rows.callWith_type1 (thn (ha pos pins s σ H _ I h) fun us s1 ⟨vs,H1,I1,r1,q1⟩=>?_) hs rfl))
 obtain ⟨j,e,q1,q2,q⟩:=q1
 subst e
 cases r1 with
 | cons r rr =>
  cases rr
  obtain ⟨t,rfl⟩:=r
  exact call_range_1 (range_it I1 (by omega) (by omega) q1 q2 (by simpa using q))
def tFor (wi:TI) (g:TG) (tb:TS):TS:=fun D σ H=>wi σ H fun J H1=>∃ W:Nat→Nat→St→Hp→Prop,(∃ m,W 0 m σ H1)∧∀ i m σ H,W i m σ H →
 (J.stop i H∧D.nx σ H) ∨ (J.go i H∧∃ N:St→Hp→Prop,(∀ σ' H',N σ' H'→∃ m',m' < m∧W (i + 1) m' σ' H')∧∀ x H',J.yld i H x H'→g x σ H' fun σ2 H2=>tb { D with nx:=N,ct:=N,bk:=D.nx } σ2 H2)
def pinsAt (fp:List Addr) (h:Heap):List (Addr × Obj):=fp.filterMap fun b=>(h.get? b).map fun o=>(b,o)
theorem mem_pinsAt {fp:List Addr} {h:Heap} {b:Addr} {o:Obj} (hb:b ∈ fp) (e:h.get? b = some o):(b,o) ∈ pinsAt fp h:=List.mem_filterMap.mpr ⟨b,hb,by rw [e]; rfl⟩
theorem of_pinsAt {fp:List Addr} {h:Heap} {p:Addr × Obj} (hp:p ∈ pinsAt fp h):p.1 ∈ fp∧h.get? p.1 = some p.2:=by
 obtain ⟨b,hb,e⟩:=List.mem_filterMap.mp hp
 cases q:h.get? b with
 | none=>rw [q] at e; cases e
 | some o =>
  rw [q] at e
  have e':(b,o) = p:=Option.some.inj e
  subst e'
  exact ⟨hb,q⟩
theorem Inv.pinned {pins:List (Addr × Obj)} {σ:St} {H:Hp} {s:Shared} {fp:List Addr} (I:Inv X pins σ H s) (hf:∀ b ∈ fp,FpOk X pins H b) (ho:∀ b ∈ fp,∃ o,s.heap.get? b = some o∧∀ v,o.data ≠ .cell v):Inv X (pins ++ pinsAt fp s.heap) σ H s :=
 I.pins_of fun p hp=>(List.mem_append.mp hp).elim (fun z=>I.pin p (List.mem_append_right _ z)) fun z=>by
  obtain ⟨hb,e⟩:=of_pinsAt z
  obtain ⟨f0,f1,f2,_⟩:=hf p.1 hb
  obtain ⟨o,e',d⟩:=ho p.1 hb
  rw [e] at e'; cases e'
  exact ⟨e,f0,f1,f2,d⟩
theorem Inv.unpinned {pins pl:List (Addr × Obj)} {σ:St} {H:Hp} {s:Shared} (I:Inv X (pins ++ pl) σ H s):Inv X pins σ H s:=I.pins_of fun p hp=>I.pin p (List.mem_append_right _ (List.mem_append_left _ hp))
theorem ps_for {iter:Expr} {body:List Stmt} {wi:TI} {g:TG} {tb:TS} {pos:Pos} (hp:PassesOwn (model X.prog X.w) X.A X.env X.xe) (hc:X.calm = true) (hi:PI X tg iter wi) (hg:PG X tg g) (hb:PSs X body tb)
  (hs:∀ x,foldedSetIterable iter X.env x = pure x:=by intro _; rfl):PS X (.For tg iter body [] pos) (tFor wi g tb):=by
 intro pins s σ H D I h
 refine wpAny_For (thn (hi pins s σ H _ I h) fun v s1 h1=>thn h1 fun itv s2 h2=>?_) hs
 obtain ⟨it,fp,tn,J,H2,e,I2,T,st2,f2,W,⟨m0,w0⟩,turn⟩:=h2
 subst e
 have stat:∀ {H':Hp},(∀ b ∈ fp,H' b = none)→∀ b ∈ fp,FpOk X pins H' b:=fun hn b hb=>⟨hn b hb,(f2 b hb).2⟩
 refine codeAny_forLoop_any (fun n s'=>∃ i σ' H',Inv X pins σ' H' s'∧tn i s'.heap∧(∀ b ∈ fp,H' b = none)∧W i n σ' H') ?_ m0 ⟨0,σ,H2,I2,st2,fun b hb=>(f2 b hb).1,w0⟩
 rintro n s3 ⟨i,σ3,H3,I3,st3,fr3,w3⟩
 rcases turn i n σ3 H3 w3 with ⟨stop,qn⟩ | ⟨go,N,hN,step⟩
 ·refine wpAny_passesOwn hp (thn (T.done X rfl rfl rfl hc i pins s3 σ3 H3 X.xe I3 (stat fr3) st3 stop) fun r s4 ⟨hr,I4⟩=>?_)
  subst hr
  exact wpAny_execs_nil ⟨σ3,H3,I4,qn⟩
 ·refine wpAny_passesOwn hp (thn (T.item X rfl rfl rfl hc i pins s3 σ3 H3 X.xe I3 (stat fr3) st3 go) fun r s4 ⟨u,hr,h4⟩=>?_)
  subst hr
  refine wpAny_passesOwn hp (thn h4 fun _ s5 ⟨x,H5,I5,r5,y5,st5,fr5⟩=>?_)
  have I5':=I5.pinned (stat fr5) (T.obj _ _ st5)
  refine wpAny_passesOwn hp (thn (hg _ s5 σ3 H5 x u _ I5' r5 (step x H5 y5)) fun _ s6 ⟨σ6,H6,I6,q6⟩=>?_)
  refine wpAny_passesOwn hp (thn (hb _ s6 σ6 H6 _ I6 q6) fun f s7 q7=>?_)
  have again:∀ {σ7:St} {H7:Hp},Inv X (pins ++ pinsAt fp s5.heap) σ7 H7 s7→N σ7 H7→∃ m,m < n∧∃ i σ' H',Inv X pins σ' H' s7∧tn i s7.heap∧(∀ b ∈ fp,H' b = none)∧W i m σ' H':=fun {σ7 H7} I7 n7=>by
   obtain ⟨m',hm,w7⟩:=hN σ7 H7 n7
   refine ⟨m',hm,i + 1,σ7,H7,I7.unpinned,T.keep _ _ _ st5 fun b hb o e=>(I7.pin (b,o) (List.mem_append_right _ (List.mem_append_right _ (mem_pinsAt hb e)))).1,fun b hb=>?_,w7⟩
   obtain ⟨o,e,d⟩:=T.obj _ _ st5 b hb
   exact (I7.pin (b,o) (List.mem_append_right _ (List.mem_append_right _ (mem_pinsAt hb e)))).2.1
  cases f with
  | next=>obtain ⟨σ7,H7,I7,n7⟩:=q7; exact again I7 n7
  | cont=>obtain ⟨σ7,H7,I7,n7⟩:=q7; exact again I7 n7
  | brk=>obtain ⟨σ7,H7,I7,q7⟩:=q7; exact ⟨σ7,H7,I7.unpinned,q7⟩
  | ret v=>obtain ⟨x7,σ7,H7,I7,r7,q7⟩:=q7; exact ⟨x7,σ7,H7,I7.unpinned,r7,q7⟩
end
theorem for_list {K:PySem.W.Frag} {a:Addr} {xs:List V} {g:TG} {tb:TS} {D:Ends} {σ:St} {H:Hp} (Pv:Nat→St→Hp→Prop) (h0:Pv 0 σ H) (hl:∀ i σ H,i ≤ xs.length→Pv i σ H→SqL K H a xs)
  (hs:∀ i x σ H,xs[i]? = some x→Pv i σ H→g x σ H fun σ2 H2=>tb { D with nx:=Pv (i + 1),ct:=Pv (i + 1),bk:=D.nx } σ2 H2) (hd:∀ σ H,Pv xs.length σ H→D.nx σ H) :
  ∃ W:Nat→Nat→St→Hp→Prop,(∃ m,W 0 m σ H)∧∀ i m σ H,W i m σ H →
   ((Itl K a).stop i H∧D.nx σ H) ∨ ((Itl K a).go i H∧∃ N:St→Hp→Prop,(∀ σ' H',N σ' H'→∃ m',m' < m∧W (i + 1) m' σ' H')∧∀ x H',(Itl K a).yld i H x H'→g x σ H' fun σ2 H2=>tb { D with nx:=N,ct:=N,bk:=D.nx } σ2 H2):=by
 refine ⟨fun i m σ H=>m = xs.length - i∧i ≤ xs.length∧Pv i σ H,⟨xs.length,by simp,Nat.zero_le _,h0⟩,?_⟩
 rintro i m σ H ⟨rfl,hi,p⟩
 have q:=hl i σ H hi p
 by_cases hlt:i < xs.length
 ·refine .inr ⟨⟨xs,xs[i],q,by simp [hlt]⟩,Pv (i + 1),fun σ' H' p'=>⟨xs.length - (i + 1),by omega,rfl,hlt,p'⟩,fun x H' y=>?_⟩
  obtain ⟨e,y⟩:=y
  subst e
  exact hs i x σ _ (y xs q) p
 ·have e:i = xs.length:=by omega
  subst e
  exact .inl ⟨⟨xs,q,Nat.le_refl _⟩,hd σ H p⟩
theorem for_range {lo:Int} {n:Nat} {g:TG} {tb:TS} {D:Ends} {σ:St} {H:Hp} (Pv:Nat→St→Hp→Prop) (h0:Pv 0 σ H)
  (hs:∀ i σ H,i < n→Pv i σ H→g (.int (lo + i)) σ H fun σ2 H2=>tb { D with nx:=Pv (i + 1),ct:=Pv (i + 1),bk:=D.nx } σ2 H2) (hd:∀ σ H,Pv n σ H→D.nx σ H) :
  ∃ W:Nat→Nat→St→Hp→Prop,(∃ m,W 0 m σ H)∧∀ i m σ H,W i m σ H →
   ((Itr lo n).stop i H∧D.nx σ H) ∨ ((Itr lo n).go i H∧∃ N:St→Hp→Prop,(∀ σ' H',N σ' H'→∃ m',m' < m∧W (i + 1) m' σ' H')∧∀ x H',(Itr lo n).yld i H x H'→g x σ H' fun σ2 H2=>tb { D with nx:=N,ct:=N,bk:=D.nx } σ2 H2):=by
 refine ⟨fun i m σ H=>m = n - i∧i ≤ n∧Pv i σ H,⟨n,by simp,Nat.zero_le _,h0⟩,?_⟩
 rintro i m σ H ⟨rfl,hi,p⟩
 by_cases hlt:i < n
 ·refine .inr ⟨hlt,Pv (i + 1),fun σ' H' p'=>⟨n - (i + 1),by omega,rfl,hlt,p'⟩,fun x H' y=>?_⟩
  obtain ⟨e,y⟩:=y
  subst e y
  exact hs i σ _ hlt p
 ·have e:i = n:=by omega
  subst e
  exact .inl ⟨Nat.le_refl _,hd σ H p⟩
end L2
namespace L2
open PySem PySem.Spec PyProof.Rows
abbrev R2:=V→V→Hp→VK→Prop
def OpR (X:Cx) (f:Value→Value→Sem Value) (r:R2):Prop :=
 ∀ (pins:List (Addr × Obj)) (s:Shared) (σ:St) (H:Hp) (x y:V) (v u:Value) (Q:VK),Inv X pins σ H s→RelV x v→RelV y u→r x y H Q →
  wpAny (model X.prog X.w) X.A (f v u) (EP X pins σ Q) X.xe s
def UnR (X:Cx) (f:Value→Sem Value) (r:V→Hp→VK→Prop):Prop :=
 ∀ (pins:List (Addr × Obj)) (s:Shared) (σ:St) (H:Hp) (x:V) (v:Value) (Q:VK),Inv X pins σ H s→RelV x v→r x H Q →
  wpAny (model X.prog X.w) X.A (f v) (EP X pins σ Q) X.xe s
def CallR (X:Cx) (f:Value) (r:List V→Hp→VK→Prop):Prop :=
 ∀ (pins:List (Addr × Obj)) (s:Shared) (σ:St) (H:Hp) (xs:List V) (us:List Value) (Q:VK),Inv X pins σ H s→Vals xs us→r xs H Q →
  wpAny (model X.prog X.w) X.A (call f us) (EP X pins σ Q) X.xe s
def TruR (X:Cx) (r:V→Hp→(Bool→Hp→Prop)→Prop):Prop :=
 ∀ (pins:List (Addr × Obj)) (s:Shared) (σ:St) (H:Hp) (x:V) (v:Value) (Q:Bool→Hp→Prop),Inv X pins σ H s→RelV x v→r x H Q →
  wpAny (model X.prog X.w) X.A (truthy v) (TP X pins σ Q) X.xe s
def tOp (r:R2) (ta tb:TE):TE:=fun σ H Q=>ta σ H fun x H1=>tb σ H1 fun y H2=>r x y H2 Q
def tUn (r:V→Hp→VK→Prop) (ta:TE):TE:=fun σ H Q=>ta σ H fun x H1=>r x H1 Q
def rI (C:Int→Int→Prop) (g:Int→Int→V):R2:=fun x y H Q=>∃ i j,x = .int i∧y = .int j∧C i j∧Q (g i j) H
def rI0 (g:Int→Int→V):R2:=fun x y H Q=>∃ i j,x = .int i∧y = .int j∧Q (g i j) H
def rU (g:Int→V):V→Hp→VK→Prop:=fun x H Q=>∃ i,x = .int i∧Q (g i) H
section
variable {X:Cx} {a b c:Expr} {ta tb tc:TE} {pos:Pos}
theorem binT (ha:PE X a ta) (hb:PE X b tb) {pins:List (Addr × Obj)} {s:Shared} {σ:St} {H:Hp} {R:V→V→Hp→Prop} (I:Inv X pins σ H s)
  (h:ta σ H fun x H1=>tb σ H1 fun y H2=>R x y H2) {Q:Value→Shared→Prop} {f:Value→Value→Sem Value}
  (hf:∀ v u s2 x y H2,Inv X pins σ H2 s2→RelV x v→RelV y u→R x y H2→wpAny (model X.prog X.w) X.A (f v u) Q X.xe s2) :
  wpAny (model X.prog X.w) X.A (eval a X.env) (fun v s₁=>wpAny (model X.prog X.w) X.A (eval b X.env) (fun u s₂=>wpAny (model X.prog X.w) X.A (f v u) Q X.xe s₂) X.xe s₁) X.xe s:=by
 refine thn (ha pins s σ H _ I h) fun v s1 ⟨x,H1,I1,r1,q1⟩=>?_
 refine thn (hb pins s1 σ H1 _ I1 q1) fun u s2 ⟨y,H2,I2,r2,q2⟩=>?_
 exact hf v u s2 x y H2 I2 r1 r2 q2
theorem pe_op {op:Operator} {r:R2} (ho:OpR X (binaryOp op) r) (ha:PE X a ta) (hb:PE X b tb):PE X (.BinOp a op b pos) (tOp r ta tb):=by
 intro pins s σ H Q I h
 exact wpAny_BinOp (binT ha hb I h fun v u s2 x y H2 I2 rx ry q=>ho pins s2 σ H2 x y v u Q I2 rx ry q)
theorem pe_un {op:UnaryOp} {r:V→Hp→VK→Prop} (ho:UnR X (unaryOp op) r) (ha:PE X a ta):PE X (.UnaryOp op a pos) (tUn r ta):=by
 intro pins s σ H Q I h
 exact UnaryOp_ (thn (ha pins s σ H _ I h) fun v s1 ⟨x,H1,I1,r1,q1⟩=>ho pins s1 σ H1 x v Q I1 r1 q1)
theorem opI {f:Value→Value→Sem Value} {C:Int→Int→Prop} {g:Int→Int→Int}
  (rule:∀ (i j:Int) (t u:Tok) (s:Shared) (Q:Value→Shared→Prop) (E:Value→Shared→Prop),C i j→Q (.int (g i j) s.toks) { s with toks:=s.toks + 1 }→wpAny (model X.prog X.w) X.A (f (.int i t) (.int j u)) Q E s) :
  OpR X f (rI C fun i j=>.int (g i j)):=by
 intro pins s σ H x y v u Q I rx ry h
 obtain ⟨i,j,rfl,rfl,hc,q⟩:=h
 obtain ⟨t,rfl⟩:=rx
 obtain ⟨t',rfl⟩:=ry
 exact rule i j t t' s _ _ hc ⟨.int (g i j),H,I.tok _,⟨_,rfl⟩,q⟩
theorem opI0 {f:Value→Value→Sem Value} {g:Int→Int→Int}
  (rule:∀ (i j:Int) (t u:Tok) (s:Shared) (Q:Value→Shared→Prop) (E:Value→Shared→Prop),Q (.int (g i j) s.toks) { s with toks:=s.toks + 1 }→wpAny (model X.prog X.w) X.A (f (.int i t) (.int j u)) Q E s) :
  OpR X f (rI0 fun i j=>.int (g i j)):=by
 intro pins s σ H x y v u Q I rx ry h
 obtain ⟨i,j,rfl,rfl,q⟩:=h
 obtain ⟨t,rfl⟩:=rx
 obtain ⟨t',rfl⟩:=ry
 exact rule i j t t' s _ _ ⟨.int (g i j),H,I.tok _,⟨_,rfl⟩,q⟩
theorem opB0 {f:Value→Value→Sem Value} {g:Int→Int→Bool}
  (rule:∀ (i j:Int) (t u:Tok) (s:Shared) (Q:Value→Shared→Prop) (E:Value→Shared→Prop),Q (.bool (g i j)) s→wpAny (model X.prog X.w) X.A (f (.int i t) (.int j u)) Q E s) :
  OpR X f (rI0 fun i j=>.bl (g i j)):=by
 intro pins s σ H x y v u Q I rx ry h
 obtain ⟨i,j,rfl,rfl,q⟩:=h
 obtain ⟨t,rfl⟩:=rx
 obtain ⟨t',rfl⟩:=ry
 exact rule i j t t' s _ _ ⟨.bl (g i j),H,I,rfl,q⟩
def CDiv (i j:Int):Prop:=0 < j∧j < 1073741824
def CPow (i j:Int):Prop:=0 ≤ j∧j ≤ 1000000∧i.natAbs < 2 ^ 64
def CMul (i j:Int):Prop:=(-(2 ^ 64) < i∧i < 2 ^ 64) ∨ (-(2 ^ 64) < j∧j < 2 ^ 64)
theorem CMul.ok {i j:Int} (h:CMul i j):IntMulOk i j:=by
 rcases h with ⟨h1,h2⟩ | ⟨h1,h2⟩
 ·exact .of_left (intBits_le_64 h1 h2)
 ·exact .of_right (intBits_le_64 h1 h2)
theorem op_add:OpR X (binaryOp .Add) (rI0 fun i j=>.int (i + j)):=opI0 fun _ _ _ _ _ _ _ q=>add_int q
theorem op_sub:OpR X (binaryOp .Sub) (rI0 fun i j=>.int (i - j)):=opI0 fun _ _ _ _ _ _ _ q=>sub_int q
theorem op_mul:OpR X (binaryOp .Mult) (rI CMul fun i j=>.int (i * j)):=opI fun _ _ _ _ _ _ _ hc q=>mul_int q hc.ok
theorem op_fdiv:OpR X (binaryOp .FloorDiv) (rI CDiv fun i j=>.int (i / j)):=opI fun i j _ _ _ _ _ hc q=>by
 have h1:(0:Int) < j:=hc.1
 have h2:j < 1073741824:=hc.2
 exact floordiv_int (by omega) (by rw [Int.fdiv_eq_ediv_of_nonneg i (by omega)]; exact q) (.inl (PyProof.noPylong_small (by omega)))
theorem op_mod:OpR X (binaryOp .Mod) (rI (fun _ j=>0 < j) fun i j=>.int (i % j)):=opI fun i j _ _ _ _ _ hc q=>by
 have h1:(0:Int) < j:=hc
 exact mod_int' (by omega) (by rw [Int.fmod_eq_emod_of_nonneg i (by omega)]; exact q)
theorem op_pow:OpR X (binaryOp .Pow) (rI CPow fun i j=>.int (i ^ j.toNat)):=opI fun _ _ _ _ _ _ _ hc q=>pow_int_small hc.1 hc.2.1 hc.2.2 q
theorem unI {f:Value→Sem Value} {g:Int→Int}
  (rule:∀ (i:Int) (t:Tok) (s:Shared) (Q:Value→Shared→Prop) (E:Value→Shared→Prop),Q (.int (g i) s.toks) { s with toks:=s.toks + 1 }→wpAny (model X.prog X.w) X.A (f (.int i t)) Q E s) :
  UnR X f (rU fun i=>.int (g i)):=by
 intro pins s σ H x v Q I rx h
 obtain ⟨i,rfl,q⟩:=h
 obtain ⟨t,rfl⟩:=rx
 exact rule i t s _ _ ⟨.int (g i),H,I.tok _,⟨_,rfl⟩,q⟩
theorem un_neg:UnR X (unaryOp .USub) (rU fun i=>.int (-i)):=unI fun _ _ _ _ _ q=>neg_int q
end
def scal:V→V→Bool
 | .non,.non=>true | .non,.int _=>true | .int _,.non=>true | .non,.bl _=>true | .bl _,.non=>true | .non,.str _=>true | .str _,.non=>true
 | .int _,.int _=>true | .bl _,.bl _=>true | .str _,.str _=>true | .byt _,.byt _=>true
 | .int _,.str _=>true | .str _,.int _=>true | .bl _,.str _=>true | .str _,.bl _=>true
 | _,_=>false
def rEq:R2:=fun x y H Q=>scal x y = true∧Q (.bl (decide (x = y))) H
def rNe:R2:=fun x y H Q=>scal x y = true∧Q (.bl (!decide (x = y))) H
theorem dec_int {i j:Int}:decide (V.int i = V.int j) = (i == j):=by
 rw [Bool.eq_iff_iff]
 simp
theorem dec_bl {i j:Bool}:decide (V.bl i = V.bl j) = (i == j):=by
 rw [Bool.eq_iff_iff]
 simp
theorem dec_str {i j:Str}:decide (V.str i = V.str j) = (i == j):=by
 rw [Bool.eq_iff_iff]
 simp
theorem dec_byt {i j:Array UInt8}:decide (V.byt i = V.byt j) = (i.toList == j.toList):=by
 rw [Bool.eq_iff_iff]
 cases i
 cases j
 simp
section
variable {X:Cx} {a b c:Expr} {ta tb tc:TE} {pos:Pos}
theorem fin_bl {pins:List (Addr × Obj)} {σ:St} {H:Hp} {s:Shared} {Q:VK} {k k':Bool} (I:Inv X pins σ H s) (q:Q (.bl k) H) (e:k = k'):EP X pins σ Q (.bool k') s:=by
 subst e
 exact ⟨.bl k,H,I,rfl,q⟩
theorem op_eq:OpR X (compareOp .Eq) rEq:=by
 intro pins s σ H x y v u Q I rx ry h
 obtain ⟨hs,q⟩:=h
 cases x with
 | non =>
  cases rx
  cases y with
  | non=>cases ry; exact PySem.EqNone.eq_none_none (fin_bl I q (by simp))
  | bl j=>cases ry; exact PySem.EqNone.eq_none_bool (fin_bl I q (by simp))
  | int j=>obtain ⟨t',rfl⟩:=ry; exact PySem.EqNone.eq_none_int (fin_bl I q (by simp))
  | str j=>obtain ⟨t',rfl⟩:=ry; exact PySem.EqNone.eq_none_str (fin_bl I q (by simp))
  | _=>exact absurd (show false = true from hs) Bool.false_ne_true
 | bl i =>
  cases rx
  cases y with
  | non=>cases ry; exact PySem.EqNone.eq_bool_none (fin_bl I q (by simp))
  | bl j=>cases ry; exact eq_bool (fin_bl I q dec_bl)
  | str j=>obtain ⟨t',rfl⟩:=ry; exact PySem.EqMixed.eq_bool_str (fin_bl I q (by simp))
  | _=>exact absurd (show false = true from hs) Bool.false_ne_true
 | int i =>
  obtain ⟨t,rfl⟩:=rx
  cases y with
  | non=>cases ry; exact PySem.EqNone.eq_int_none (fin_bl I q (by simp))
  | int j=>obtain ⟨t',rfl⟩:=ry; exact eq_int (fin_bl I q dec_int)
  | str j=>obtain ⟨t',rfl⟩:=ry; exact PySem.EqMixed.eq_int_str (fin_bl I q (by simp))
  | _=>exact absurd (show false = true from hs) Bool.false_ne_true
 | str i =>
  obtain ⟨t,rfl⟩:=rx
  cases y with
  | non=>cases ry; exact PySem.EqNone.eq_str_none (fin_bl I q (by simp))
  | bl j=>cases ry; exact PySem.EqMixed.eq_str_bool (fin_bl I q (by simp))
  | int j=>obtain ⟨t',rfl⟩:=ry; exact PySem.EqMixed.eq_str_int (fin_bl I q (by simp))
  | str j=>obtain ⟨t',rfl⟩:=ry; exact eq_str (fin_bl I q dec_str)
  | _=>exact absurd (show false = true from hs) Bool.false_ne_true
 | byt i =>
  obtain ⟨t,rfl⟩:=rx
  cases y with
  | byt j=>obtain ⟨t',rfl⟩:=ry; exact PySem.W.eq_bytes (fin_bl I q dec_byt)
  | _=>exact absurd (show false = true from hs) Bool.false_ne_true
 | _=>cases y <;> exact absurd (show false = true from hs) Bool.false_ne_true
theorem op_ne:OpR X (compareOp .NotEq) rNe:=by
 intro pins s σ H x y v u Q I rx ry h
 obtain ⟨hs,q⟩:=h
 cases x with
 | non =>
  cases rx
  cases y with
  | non=>cases ry; exact PySem.EqNone.ne_none_none (fin_bl I q (by simp))
  | bl j=>cases ry; exact PySem.EqNone.ne_none_bool (fin_bl I q (by simp))
  | int j=>obtain ⟨t',rfl⟩:=ry; exact PySem.EqNone.ne_none_int (fin_bl I q (by simp))
  | str j=>obtain ⟨t',rfl⟩:=ry; exact PySem.EqNone.ne_none_str (fin_bl I q (by simp))
  | _=>exact absurd (show false = true from hs) Bool.false_ne_true
 | bl i =>
  cases rx
  cases y with
  | non=>cases ry; exact PySem.EqNone.ne_bool_none (fin_bl I q (by simp))
  | bl j=>cases ry; exact ne_bool (fin_bl I q (congrArg not dec_bl))
  | str j=>obtain ⟨t',rfl⟩:=ry; exact PySem.EqMixed.ne_bool_str (fin_bl I q (by simp))
  | _=>exact absurd (show false = true from hs) Bool.false_ne_true
 | int i =>
  obtain ⟨t,rfl⟩:=rx
  cases y with
  | non=>cases ry; exact PySem.EqNone.ne_int_none (fin_bl I q (by simp))
  | int j=>obtain ⟨t',rfl⟩:=ry; exact ne_int (fin_bl I q (congrArg not dec_int))
  | str j=>obtain ⟨t',rfl⟩:=ry; exact PySem.EqMixed.ne_int_str (fin_bl I q (by simp))
  | _=>exact absurd (show false = true from hs) Bool.false_ne_true
 | str i =>
  obtain ⟨t,rfl⟩:=rx
  cases y with
  | non=>cases ry; exact PySem.EqNone.ne_str_none (fin_bl I q (by simp))
  | bl j=>cases ry; exact PySem.EqMixed.ne_str_bool (fin_bl I q (by simp))
  | int j=>obtain ⟨t',rfl⟩:=ry; exact PySem.EqMixed.ne_str_int (fin_bl I q (by simp))
  | str j=>obtain ⟨t',rfl⟩:=ry; exact ne_str (fin_bl I q (congrArg not dec_str))
  | _=>exact absurd (show false = true from hs) Bool.false_ne_true
 | byt i =>
  obtain ⟨t,rfl⟩:=rx
  cases y with
  | byt j=>obtain ⟨t',rfl⟩:=ry; exact PySem.W.ne_bytes (fin_bl I q (congrArg not dec_byt))
  | _=>exact absurd (show false = true from hs) Bool.false_ne_true
 | _=>cases y <;> exact absurd (show false = true from hs) Bool.false_ne_true
theorem op_lt:OpR X (compareOp .Lt) (rI0 fun i j=>.bl (decide (i < j))):=opB0 fun _ _ _ _ _ _ _ q=>lt_int q
theorem op_le:OpR X (compareOp .LtE) (rI0 fun i j=>.bl (decide (i ≤ j))):=opB0 fun _ _ _ _ _ _ _ q=>le_int q
theorem op_gt:OpR X (compareOp .Gt) (rI0 fun i j=>.bl (decide (j < i))):=opB0 fun _ _ _ _ _ _ _ q=>gt_int q
theorem op_ge:OpR X (compareOp .GtE) (rI0 fun i j=>.bl (decide (j ≤ i))):=opB0 fun _ _ _ _ _ _ _ q=>ge_int q
theorem nomark (b:Expr) {op:CmpOp} (h:op ≠ .In:=by decide) (h2:op ≠ .NotIn:=by decide):behindInMarks op b = false:=by
 have e1:(op == CmpOp.In) = false:=by cases op <;> first | rfl | exact absurd rfl h
 have e2:(op == CmpOp.NotIn) = false:=by cases op <;> first | rfl | exact absurd rfl h2
 cases b <;> simp [behindInMarks,e1,e2]
theorem pe_cmpR {op:CmpOp} {r:R2} (ho:OpR X (compareOp op) r) (ha:PE X a ta) (hb:PE X b tb) (hm:behindInMarks op b = false):PE X (.Compare a [op] [b] pos) (tOp r ta tb):=by
 intro pins s σ H Q I h
 exact wpAny_Compare1 (binT ha hb I h fun v u s2 x y H2 I2 rx ry q=>ho pins s2 σ H2 x y v u Q I2 rx ry q) hm
def tTest (t:TE):TT:=fun σ H Q=>t σ H fun x H'=>∃ k,x = .bl k∧Q k H'
theorem pt_cmpR {op:CmpOp} {r:R2} (ho:OpR X (compareOp op) r) (ha:PE X a ta) (hb:PE X b tb) (hm:behindInMarks op b = false):PT X (.Compare a [op] [b] pos) (tTest (tOp r ta tb)):=by
 intro pins s σ H Q I h
 refine wpAny_isTrue_Compare1 (thn (ha pins s σ H _ I h) fun v s1 ⟨x,H1,I1,r1,q1⟩=>thn (hb pins s1 σ H1 _ I1 q1) fun u s2 ⟨y,H2,I2,r2,q2⟩ =>
  thn (ho pins s2 σ H2 x y v u _ I2 r1 r2 q2) fun c s3 ⟨z,H3,I3,r3,k,e,q3⟩=>?_) hm
 subst e
 cases r3
 exact wpAny_truthy_bool ⟨H3,I3,q3⟩
def tChain (r r':R2) (ta tb tc:TE):TE:=fun σ H Q=>ta σ H fun x H1=>tb σ H1 fun y H2=>r x y H2 fun z H3=>∃ k,z = .bl k ∧
 (if k = true then tc σ H3 fun w' H4=>r' y w' H4 Q else Q (.bl false) H3)
theorem pe_chain {op op':CmpOp} {r r':R2} (ho:OpR X (compareOp op) r) (ho':OpR X (compareOp op') r') (ha:PE X a ta) (hb:PE X b tb) (hc:PE X c tc)
  (hm:lastMarks [op,op'] [b,c] = false:=by with_unfolding_all rfl):PE X (.Compare a [op,op'] [b,c] pos) (tChain r r' ta tb tc):=by
 intro pins s σ H Q I h
 refine Compare_chain (thn (ha pins s σ H _ I h) fun v s1 ⟨x,H1,I1,r1,q1⟩=>chain_link (thn (hb pins s1 σ H1 _ I1 q1) fun u s2 ⟨y,H2,I2,r2,q2⟩ =>
  thn (ho pins s2 σ H2 x y v u _ I2 r1 r2 q2) fun d s3 ⟨z,H3,I3,r3,k,e,q3⟩=>?_)) hm
 subst e
 cases r3
 refine wpAny_truthy_bool ?_
 cases k with
 | false=>exact ite_ff ⟨.bl false,H3,I3,rfl,q3⟩
 | true=>exact ite_tt (chain_last (thn (hc pins s3 σ H3 _ I3 q3) fun w' s4 ⟨z',H4,I4,r4,q4⟩=>ho' pins s4 σ H4 y z' u w' Q I4 r2 r4 q4))
def TruV (K:PySem.W.Frag) (x:V) (H:Hp) (k:Bool):Prop :=
 match x with
 | .non=>k = false
 | .bl b=>k = b
 | .int i=>k = (i != 0)
 | .str y=>y.length ≤ sizeLine∧k = ((y.length:Int) != 0)
 | .byt y=>y.size ≤ sizeLine∧k = ((y.size:Int) != 0)
 | .ref p=>(∃ xs,SqL K H p xs∧k = !xs.isEmpty) ∨ (∃ xs,SqT K H p xs∧k = !xs.isEmpty) ∨ ∃ kvs,H p = some (.dK kvs)∧k = !kvs.isEmpty
 | _=>False
theorem isEmpty_kv {κ:Type} {kvs:List (κ × V)} {vs:List (κ × Value)} (r:KV kvs vs):(!vs.isEmpty) = !kvs.isEmpty:=by
 cases r <;> rfl
theorem isEmpty_of {xs:List V} {its:List Value} (r:Vals xs its):(!its.toArray.isEmpty) = !xs.isEmpty:=by
 cases r <;> simp
theorem line63:(sizeLine:Nat) < 2 ^ 63:=by rw [sizeLine_eq]; decide
theorem tru_ok:TruR X (fun x H Q=>∃ k,TruV X.K x H k∧Q k H):=by
 intro pins s σ H x v Q I rx h
 obtain ⟨k,e,q⟩:=h
 have hl:=line63
 have hs:sizeLine = 16777216:=sizeLine_eq
 cases x with
 | non =>
  cases rx
  have e':k = false:=e
  subst e'
  exact truthy_none ⟨H,I,q⟩
 | bl b =>
  cases rx
  have e':k = b:=e
  subst e'
  exact wpAny_truthy_bool ⟨H,I,q⟩
 | int i =>
  obtain ⟨t,rfl⟩:=rx
  have e':k = (i != 0):=e
  subst e'
  exact PySem.P.truthy_int ⟨H,I,q⟩
 | str y =>
  obtain ⟨t,rfl⟩:=rx
  obtain ⟨hy,e'⟩:y.length ≤ sizeLine∧k = ((y.length:Int) != 0):=e
  subst e'
  exact PySem.P.truthy_str (by omega) ⟨H,I.tok _,q⟩
 | byt y =>
  obtain ⟨t,rfl⟩:=rx
  obtain ⟨hy,e'⟩:y.size ≤ sizeLine∧k = ((y.size:Int) != 0):=e
  subst e'
  exact PySem.W.truthy_bytes (by omega) ⟨H,I.tok _,q⟩
 | ref p =>
  cases rx
  have e':(∃ xs,SqL X.K H p xs∧k = !xs.isEmpty) ∨ (∃ xs,SqT X.K H p xs∧k = !xs.isEmpty) ∨ ∃ kvs,H p = some (.dK kvs)∧k = !kvs.isEmpty:=e
  rcases e' with ⟨xs,hx,e'⟩ | ⟨xs,hx,e'⟩ | ⟨kvs,hx,e'⟩
  ·subst e'
   obtain ⟨its,r,pl,hz⟩:=I.list hx
   have hlen:=r.length
   exact wpAny_truthy_list pl.isList (by simp only [List.size_toArray]; omega) ⟨H,I.tok _,by rw [isEmpty_of r]; exact q⟩
  ·subst e'
   obtain ⟨its,r,pl,hz⟩:=I.tuple hx
   have hlen:=r.length
   exact truthy_tuple pl (by simp only [List.size_toArray]; omega) ⟨H,I.tok _,by rw [isEmpty_of r]; exact q⟩
  ·subst e'
   obtain ⟨hz,hS,vs,r,m⟩:kvs.length ≤ sizeLine∧(p == sysModules) = false∧∃ vs,KV kvs vs∧s.heap.DictOf (mixKind X.prog X.w) p vs:=I.hok p _ hx
   have hlen:kvs.length = vs.length:=Paired.length r
   exact wpAny_truthy_dict hS m (by omega) ⟨H,I.tok _,by rw [isEmpty_kv r]; exact q⟩
 | _=>exact (show False from e).elim
theorem pt_truth (ha:PE X a ta) (he:∀ whole,isTrue a X.env whole = (do let v ← whole; standAt a.pos; holding [v] (truthy v))) :
  PT X a (fun σ H Q=>ta σ H fun x H'=>∃ k,TruV X.K x H' k∧Q k H'):=by
 intro pins s σ H Q I h
 exact isTrue_plain (thn (ha pins s σ H _ I h) fun v s1 ⟨x,H1,I1,r1,q1⟩=>tru_ok pins s1 σ H1 x v Q I1 r1 q1) (he _)
theorem vals1 {x:V} {us:List Value} (r:Vals [x] us):∃ u,us = [u]∧RelV x u:=by
 cases r with
 | cons r1 r2=>cases r2; exact ⟨_,rfl,r1⟩
theorem vals2 {x y:V} {us:List Value} (r:Vals [x,y] us):∃ u w',us = [u,w']∧RelV x u∧RelV y w':=by
 cases r with
 | cons r1 r2 =>
  cases r2 with
  | cons r3 r4=>cases r4; exact ⟨_,_,rfl,r1,r3⟩
theorem call_min2 (hc:X.calm = true):CallR X (.builtin "min") (fun xs H Q=>∃ i j,xs = [.int i,.int j]∧Q (.int (if j < i then j else i)) H):=by
 intro pins s σ H xs us Q I r h
 obtain ⟨i,j,rfl,q⟩:=h
 obtain ⟨u,w',rfl,⟨t,rfl⟩,⟨t',rfl⟩⟩:=vals2 r
 refine min_two_ints (I.ok.hd hc) fun h' tk k=>⟨_,H,I.kept k,?_,q⟩
 by_cases hj:j < i
 ·rw [if_pos hj,if_pos hj]; exact ⟨_,rfl⟩
 ·rw [if_neg hj,if_neg hj]; exact ⟨_,rfl⟩
theorem call_int1:CallR X (.type "int") (fun xs H Q=>(∃ i,xs = [.int i]∧Q (.int i) H) ∨ ∃ k,xs = [.bl k]∧Q (.int (if k then 1 else 0)) H):=by
 intro pins s σ H xs us Q I r h
 rcases h with ⟨i,rfl,q⟩ | ⟨k,rfl,q⟩
 ·obtain ⟨u,rfl,t,rfl⟩:=vals1 r
  exact call_int_int ⟨.int i,H,I,⟨_,rfl⟩,q⟩
 ·obtain ⟨u,rfl,r1⟩:=vals1 r
  cases r1
  exact call_int_bool ⟨.int (if k then 1 else 0),H,I.tok _,⟨_,rfl⟩,q⟩
end
end L2
namespace L2
open PySem PySem.Spec PyProof.Rows
structure ObjM (h:Heap) (x dx C:Addr) (mA:Str→Option Value):Prop where
 obj:h.get? x = some (PySem.W.instObj C dx)
 ns:h.Ns1 dx mA
 ne:dx ≠ x
theorem lookIn_ns {h:Heap} {dx:Addr} {mA:Str→Option Value} (n:h.Ns1 dx mA):∃ od,h.get? dx = some od∧∀ name,PySem.W.lookIn name od = some (mA name):=by
 obtain ⟨o,es,ep,ho,hd,hk,_,hm⟩:=n
 refine ⟨o,ho,fun name=>?_⟩
 have e:=hm name
 unfold nsFind findBy at e
 rw [← Array.find?_toList] at e
 unfold PySem.W.lookIn
 rw [hd]
 dsimp only
 split
 ·rename_i y q
  rw [q] at e
  exact congrArg some e
 ·rename_i q
  rw [q] at e
  have a:es.toList.any (·.refKey) = false:=by
   rw [List.any_eq_false]
   intro y hy
   obtain ⟨z,t,hkey⟩:=hk y (Array.mem_toList_iff.mp hy)
   simp [DictEntry.refKey,hkey]
  have a':¬ es.toList.any (·.refKey) = true:=by rw [a]; exact Bool.false_ne_true
  rw [if_neg a']
  exact congrArg some e
theorem ObjM.look {h:Heap} {x dx C:Addr} {mA:Str→Option Value} (I:ObjM h x dx C mA):∃ od,PySem.W.InstAt h x (PySem.W.instObj C dx) C (some od)∧∀ name,PySem.W.lookIn name od = some (mA name) :=
 let ⟨od,ho,hl⟩:=lookIn_ns I.ns
 ⟨od,⟨I.obj,rfl,rfl,ho⟩,hl⟩
section
variable {prog:Program} {w:World} {A:Around} {E:Value→Shared→Prop} {s:Shared} {K:PySem.W.Frag} {x dx C f:Addr} {mA:Str→Option Value} {name:Str} {v:Value}
end
section
variable {P:Program} {w:World} {H H':Hp} {h h':Heap} {a C dx:Addr} {fs fs':List (Str × V)}
theorem ins_get (hok:HOk P w H h) (e:H a = some (.ins C dx fs)):∃ mA,ObjM h a dx C mA∧(∀ f,RelO (fs.lookup f) (mA f))∧PySem.Within mA (fs.map (·.1))∧fs.length ≤ 1000∧H dx = some (.own a):=by
 obtain ⟨d,z,ne,ob,mA,n,r,q⟩:=(show ObjOk P w H h a (.ins C dx fs) from hok a _ e)
 exact ⟨mA,⟨ob,n,ne⟩,r,q,z,d⟩
end
structure Cls (K:PySem.W.Frag) (C:Addr):Prop where
 pg:PySem.W.plainGet K C Str.empty = true
 hd:PySem.W.hasDictIn K C = true
 po:PySem.W.plainOver K C = true
 sa:PySem.W.findIn K (.ref C) "__setattr__" = some (some (.builtin "object.__setattr__"))
theorem Cls.get {K:PySem.W.Frag} {C:Addr} (c:Cls K C) (f:Str):PySem.W.plainGet K C f = true:=c.pg
section
variable {X:Cx} {pins:List (Addr × Obj)} {σ:St} {H:Hp} {s:Shared} {a C dx:Addr} {fs:List (Str × V)} {f:Str} {v:V} {A:Around} {E:Value→Shared→Prop}
end
section
variable {X:Cx} {o e value:Expr} {f:Str} {pos pos' tpos:Pos} {ta tv:TE}
end
section
variable {X:Cx} {pins:List (Addr × Obj)} {σ:St} {H:Hp} {s:Shared} {A:Around} {E:Value→Shared→Prop} {Q:Value→Shared→Prop} {c:Value} {b:Bool}
inductive TyOf (K:PySem.W.Frag) (H:Hp):V→Value→Prop where
 | non:TyOf K H .non (.type "NoneType")
 | bl (x:Bool):TyOf K H (.bl x) (.type "bool")
 | int (i:Int):TyOf K H (.int i) (.type "int")
 | str (x:Str):TyOf K H (.str x) (.type "str")
 | flt (x:UInt64):TyOf K H (.flt x) (.type "float")
 | lst {a:Addr} {xs:List V} (e:H a = some (.lst xs)):TyOf K H (.ref a) (.type "list")
 | frz {a:Addr} {o:Obj} {xs:List V} (e:H a = some (.frz o (.lst xs))):TyOf K H (.ref a) (.type "list")
 | tup {a:Addr} {xs:List V} (e:H a = some (.tup xs)):TyOf K H (.ref a) (.type "tuple")
 | dK {a:Addr} {kvs:List (Key × V)} (e:H a = some (.dK kvs)):TyOf K H (.ref a) (.type "dict")
 | dT {a:Addr} {kvs:List (List Key × V)} (e:H a = some (.dT kvs)):TyOf K H (.ref a) (.type "dict")
 | ins {a C dx:Addr} {fs:List (Str × V)} (e:H a = some (.ins C dx fs)) (cl:Cls K C) (ha:PySem.W.findIn K (.ref C) "__class__" = some (some (.builtin "object.__class__")))
   (hn:PySem.W.specialIn K (.builtin "object.__class__") "__get__" = some (some (.builtin "getset_descriptor.__get__"))) (htk:PySem.W.takesIn K (.builtin "object.__class__") = some true)
   (hm:PySem.W.mroIn K C (.type "object") = some true):TyOf K H (.ref a) (.ref C)
theorem isinst_ok {x:V} {u t:Value} (I:Inv X pins σ H s) (rx:RelV x u) (ty:TyOf X.K H x t) (e:PySem.W.kitOne X.K t c = some b) (h:∀ tk,Q (.bool b) { s with toks:=tk }) :
  wpAny (model X.prog X.w) A (call (.builtin "isinstance") [u,c]) Q E s:=by
 cases ty with
 | non=>cases (show u = Value.none from rx); exact PySem.W.kia_one PySem.W.kitx_none I.kIn True.intro e (fun z=>nomatch z) h
 | bl y=>cases (show u = Value.bool y from rx); exact PySem.W.kia_one PySem.W.kitx_bool I.kIn True.intro e (fun z=>nomatch z) h
 | int i=>obtain ⟨t,q⟩:=(show ∃ t,u = Value.int i t from rx); cases q; exact PySem.W.kia_one PySem.W.kitx_int I.kIn True.intro e (fun z=>nomatch z) h
 | str y=>obtain ⟨t,q⟩:=(show ∃ t,u = Value.str y t from rx); cases q; exact PySem.W.kia_one PySem.W.kitx_str I.kIn True.intro e (fun z=>nomatch z) h
 | flt y=>obtain ⟨t,q⟩:=(show ∃ t,u = Value.float y t from rx); cases q; exact PySem.W.kia_one PySem.W.kitx_float I.kIn True.intro e (fun z=>nomatch z) h
 | @lst a xs ea =>
  cases (show u = Value.ref a from rx)
  obtain ⟨_,_,n,_,h1⟩:=(show ObjOk X.prog X.w H s.heap a (.lst xs) from I.hok a _ ea)
  exact PySem.W.kia_one PySem.W.kitx_list I.kIn ⟨_,h1,rfl⟩ e (fun z=>nomatch z) h
 | @frz a ob xs ea =>
  cases (show u = Value.ref a from rx)
  obtain ⟨_,_,_,n,_,h1⟩:=(show ObjOk X.prog X.w H s.heap a (.frz ob (.lst xs)) from I.hok a _ ea)
  exact PySem.W.kia_one PySem.W.kitx_list I.kIn ⟨_,h1,rfl⟩ e (fun z=>nomatch z) h
 | @tup a xs ea =>
  cases (show u = Value.ref a from rx)
  obtain ⟨_,_,_,p⟩:=(show ObjOk X.prog X.w H s.heap a (.tup xs) from I.hok a _ ea)
  obtain ⟨o,h1,h2,_⟩:=p
  exact PySem.W.kia_one PySem.W.kitx_tuple I.kIn ⟨o,h1,h2⟩ e (fun z=>nomatch z) h
 | @dK a kvs ea =>
  cases (show u = Value.ref a from rx)
  obtain ⟨_,_,vs,_,p⟩:=(show ObjOk X.prog X.w H s.heap a (.dK kvs) from I.hok a _ ea)
  obtain ⟨o,es,ep,h1,h2,_⟩:=p
  exact PySem.W.kia_one PySem.W.kitx_dict I.kIn ⟨o,h1,h2.1⟩ e (fun z=>nomatch z) h
 | @dT a kvs ea =>
  cases (show u = Value.ref a from rx)
  obtain ⟨_,_,xs,_,o,es,ep,h1,h2,_⟩:=(show ObjOk X.prog X.w H s.heap a (.dT kvs) from I.hok a _ ea)
  exact PySem.W.kia_one PySem.W.kitx_dict I.kIn ⟨o,h1,h2.1⟩ e (fun z=>nomatch z) h
 | @ins a C dx fs ea cl ha hn htk hm =>
  cases (show u = Value.ref a from rx)
  obtain ⟨mA,O,_⟩:=ins_get I.hok ea
  obtain ⟨od,J,_⟩:=O.look
  exact PySem.W.kia_one (PySem.W.kitx_own (cl.get _) cl.hd ha hn htk hm) I.kIn J e (fun z=>nomatch z) h
end
end L2
namespace L2
open PySem PySem.Spec PyProof.Rows
structure Room (k:Nat) (A:Around):Prop where
 hd:A.handled = none
 dp:A.depth + 3 * k + 5 < recursionLimit
 un:A.units + 16 * k + 200 < cLine
theorem Room.mono {j k:Nat} {A:Around} (r:Room k A) (h:j ≤ k):Room j A:=⟨r.hd,by have:=r.dp; omega,by have:=r.un; omega⟩
theorem Room.deeper {k:Nat} {A:Around} (r:Room (k + 1) A) (env:Env):Room k (A.deeper env) :=
 ⟨r.hd,by have:=r.dp; show A.depth + 1 + 3 * k + 5 < _; omega,by have:=r.un; show A.units + 3 + 16 * k + 200 < _; omega⟩
theorem Room.depth {k:Nat} {A:Around} (r:Room k A):A.depth < recursionLimit:=by have:=r.dp; omega
theorem Room.units {k:Nat} {A:Around} (r:Room k A):A.units + 64 < cLine:=by have:=r.un; omega
def tNil:TA:=fun _ H Q=>Q [] H
def tCons (ta:TE) (tr:TA):TA:=fun σ H Q=>ta σ H fun x H1=>tr σ H1 fun xs H2=>Q (x :: xs) H2
section
variable {X:Cx} {e:Expr} {es:List Expr} {te:TE} {t:TA} {pos:Pos}
theorem pa_nil:PA X [] tNil:=fun _ _ _ _ H Q I h=>Calls.spliced_nil ⟨[],H,I,.nil,h⟩
theorem pa_cons (ha:PE X e te) (hr:PA X es t) (hs:starEach (e :: es) X.env = (false,eval e X.env) :: starEach es X.env:=by rfl):PA X (e :: es) (tCons te t):=by
 intro pos pins s σ H Q I h
 rw [hs]
 show wpAny _ _ (spliced ((false,eval e X.env) :: backTo pos (starEach es X.env))) _ _ s
 refine Calls.spliced_cons (thn (ha pins s σ H _ I h) fun u s1 ⟨x,H1,I1,r1,q1⟩=>?_)
 exact thn (hr pos pins s1 σ H1 _ I1 q1) fun us s2 ⟨xs,H2,I2,r2,q2⟩=>⟨x :: xs,H2,I2,.cons r1 r2,q2⟩
def tTup (t:TA):TE:=fun σ H Q=>t σ H fun xs H1=>xs.length ≤ sizeLine∧∀ p,H1 p = none→Q (.ref p) (upd H1 p (.tup xs))
def tLst (t:TA):TE:=fun σ H Q=>t σ H fun xs H1=>xs.length ≤ sizeLine∧∀ p,H1 p = none→Q (.ref p) (upd H1 p (.lst xs))
theorem pe_tup {x1} (h:PA X es t):PE X (.Tuple es x1 pos) (tTup t):=by
 intro pins s σ H Q I hq
 refine wpAny_Tuple_spliced (thn (h pos pins s σ H _ I hq) fun us s1 ⟨xs,H1,I1,r,z,q⟩=>⟨by rw [← r.length]; exact z,?_⟩)
 have hf:H1 s1.heap.objs.size = none:=I1.hok.fresh (Nat.le_refl _)
 refine ⟨.ref s1.heap.objs.size,upd H1 s1.heap.objs.size (.tup xs),I1.laid (t':=s1.toks) (fun b u e=>Heap.get?_push_of_some _ e) (Nat.le_refl _) ?_,rfl,q _ hf⟩
 exact ⟨z,us,r,⟨_,Heap.get?_push_size _ rfl,rfl,_,rfl⟩⟩
theorem pe_lst (h:PA X es t):PE X (.List es pos) (tLst t):=by
 intro pins s σ H Q I hq
 refine wpAny_List_spliced (thn (h pos pins s σ H _ I hq) fun us s1 ⟨xs,H1,I1,r,z,q⟩=>⟨by rw [← r.length]; exact z,?_⟩)
 have hf:H1 s1.heap.objs.size = none:=I1.hok.fresh (Nat.le_refl _)
 refine ⟨.ref s1.heap.objs.size,upd H1 s1.heap.objs.size (.lst xs),I1.laid (t':=s1.toks) (fun b u e=>Heap.get?_push_of_some _ e) (Nat.le_refl _) ?_,rfl,q _ hf⟩
 exact ⟨z,us,0,r,Heap.get?_push_size _ rfl⟩
end
abbrev Sp:=List V→Hp→VK→XK→Prop
abbrev CXT:=List Env→Hp→Shared→XK→Value→Shared→Prop
structure Env0 (P:Program) (w:World) (K:PySem.W.Frag) (mg:Str→Option Value) (base:Heap) (A:Around) (outer:List Env) (s:Shared) (H:Hp):Prop where
 frames:A.frames = some outer
 mod:Mod K mg base
 bs:∀ b o,base.get? b = some o→s.heap.get? b = some o∧H b = none
 bsz:base.objs.size ≤ s.heap.objs.size
 funs:s.heap.FunFrames base outer
 frf:∀ b ∈ frs outer,H b = none
 hok:HOk P w H s.heap
 bare:AllBare s.gens
def CE (outer:List Env) (P:Program) (w:World) (H:Hp) (s:Shared) (Q:VK) (u:Value) (s':Shared):Prop :=
 ∃ v H',s'.os = s.os∧AllBare s'.gens∧Un (frs outer) [] H H' s.heap s'.heap∧HOk P w H' s'.heap∧RelV v u∧Q v H'
def CR (CX:CXT) (outer:List Env) (P:Program) (w:World) (H:Hp) (s:Shared) (Q:VK) (E:XK) (r:Result) (s':Shared):Prop :=
 match r with
 | .ok (.ret u)=>CE outer P w H s Q u s'
 | .ok _=>False
 | .error e=>CX outer H s E e s'
structure FnOk (P:Program) (w:World) (K:PySem.W.Frag) (mg:Str→Option Value) (base:Heap) (CX:CXT) (k:Nat) (f:Addr) (fd:FuncData) (ps:List Str) (sp:Sp):Prop where
 len:∀ vs H Q E,sp vs H Q E→vs.length = ps.length
 run:∀ (A:Around) (outer:List Env) (s:Shared) (H:Hp) (args:Args) (us:List Value) (vs:List V) (Q:VK) (E:XK),Room k A→Env0 P w K mg base A outer s H→BindsTo s fd args (ps.zip us)→Vals vs us→sp vs H Q E →
  codeAny (model P w) A (.call (.ref f) args) (CR CX outer P w H s Q E) s
theorem FnOk.mono {P:Program} {w:World} {K:PySem.W.Frag} {mg:Str→Option Value} {base:Heap} {CX:CXT} {j k:Nat} {f:Addr} {fd:FuncData} {ps:List Str} {sp:Sp} (F:FnOk P w K mg base CX j f fd ps sp) (h:j ≤ k) :
  FnOk P w K mg base CX k f fd ps sp:=⟨F.len,fun A outer s H args us vs Q E hr=>F.run A outer s H args us vs Q E (hr.mono h)⟩
theorem FnOk.imp {P:Program} {w:World} {K:PySem.W.Frag} {mg:Str→Option Value} {base:Heap} {CX:CXT} {k:Nat} {f:Addr} {fd:FuncData} {ps:List Str} {sp sp':Sp} (F:FnOk P w K mg base CX k f fd ps sp)
  (h:∀ vs H Q E,sp' vs H Q E→sp vs H Q E):FnOk P w K mg base CX k f fd ps sp' :=
 ⟨fun vs H Q E q=>F.len vs H Q E (h _ _ _ _ q),fun A outer s H args us vs Q E hr he hb hv hs=>F.run A outer s H args us vs Q E hr he hb hv (h _ _ _ _ hs)⟩
section
variable {X:Cx} {pins:List (Addr × Obj)} {σ:St} {H:Hp} {s s':Shared}
theorem Inv.env0 (I:Inv X pins σ H s):Env0 X.prog X.w X.K X.mg X.base X.A X.stack s H :=
 ⟨I.ok.frames,I.ok.mod,I.bs,Nat.le_trans I.ok.bsz I.sz,I.stack,I.stkFree,I.hok,I.bare⟩
theorem Inv.after {Q:VK} {u:Value} (I:Inv X pins σ H s) (h:CE X.stack X.prog X.w H s Q u s'):EP X pins σ Q u s':=by
 obtain ⟨v,H',os,bare,un,hok,r,q⟩:=h
 obtain ⟨hh,g,d,t,os'⟩:=s'
 obtain rfl:os' = s.os:=os
 exact ⟨v,H',I.call (h':=hh) (g':=g) (d':=d) (t':=t) (ch:=[]) un hok bare (fun b z=>absurd z (by simp)),r,q⟩
end
def tCall (sp:Sp) (dvs:List V) (E:XK) (t:TA):TE:=fun σ H Q=>t σ H fun vs H1=>sp (vs ++ dvs) H1 Q E
def Binds (K:PySem.W.Frag) (fd:FuncData) (ps:List Str) (ds:List Value):Prop :=
 ∀ (s:Shared) (us:List Value),K.In s.heap→(us ++ ds).length = ps.length→BindsTo s fd ⟨us,[]⟩ (ps.zip (us ++ ds))
theorem Binds.all {K:PySem.W.Frag} {fd:FuncData} {ps:List Str} (h:∀ us:List Value,us.length = ps.length→bindArgs fd ⟨us,[]⟩ = pure (ps.zip us)):Binds K fd ps []:=fun s us _ hl=>by
 rw [List.append_nil] at hl ⊢
 exact .of_eq (h us hl)
def Passes (CX:CXT) (X:Cx) (E:XK):Prop:=∀ (pins:List (Addr × Obj)) (σ:St) (H:Hp) (s:Shared) (e:Value) (s':Shared),Inv X pins σ H s→CX X.stack H s E e s'→X.xe e s'
section
variable {X:Cx} {CX:CXT} {k:Nat} {f C:Addr} {fd:FuncData} {ps:List Str} {sp:Sp} {dvs:List V} {ds:List Value} {E:XK} {x m:Str} {p pos apos:Pos} {e o:Expr} {es:List Expr} {ta:TE} {t:TA}
theorem run_fn {pins:List (Addr × Obj)} {σ:St} {H:Hp} {s:Shared} {Q:VK} {us:List Value} {vs:List V} (F:FnOk X.prog X.w X.K X.mg X.base CX k f fd ps sp) (hr:Room k X.A) (hb:Binds X.K fd ps ds) (hd:Vals dvs ds) (hx:Passes CX X E)
  (I:Inv X pins σ H s) (r:Vals vs us) (h:sp (vs ++ dvs) H Q E):wpAny (model X.prog X.w) X.A (call (.ref f) us) (EP X pins σ Q) X.xe s:=by
 have r2:Vals (vs ++ dvs) (us ++ ds):=r.append hd
 have hl:(us ++ ds).length = ps.length:=by rw [← r2.length]; exact F.len _ _ _ _ h
 refine wpAny_call (codeAny_mono (F.run X.A X.stack s H ⟨us,[]⟩ (us ++ ds) (vs ++ dvs) Q E hr I.env0 (hb s us I.kIn hl) r2 h) fun r s' hq=>?_)
 cases r with
 | error e=>exact hx pins σ H s e s' I hq
 | ok fl =>
  cases fl with
  | ret u=>exact I.after hq
  | next=>exact False.elim hq
  | brk=>exact False.elim hq
  | cont=>exact False.elim hq
theorem pe_call (F:FnOk X.prog X.w X.K X.mg X.base CX k f fd ps sp) (hr:Room k X.A) (hg:Gl X x) (hm:X.mg x = some (.ref f)) (hk:PySem.W.keepIn X.K (.ref f) = true) (hb:Binds X.K fd ps ds) (hd:Vals dvs ds) (hx:Passes CX X E)
  (ha:PA X (e :: es) t) (hdb:(x == ("__debug__":Str)) = false:=by decide) (he:starEach (e :: es) X.env = (false,eval e X.env) :: starEach es X.env:=by rfl) (hpl:(backTo pos (starEach es X.env)).any (·.1) = false:=by rfl) :
  PE X (.Call (.Name x p) (e :: es) [] pos) (tCall sp dvs E t):=by
 intro pins s σ H Q I h
 refine wpAny_Call_Name_kw (ld_glob I hg hm ?_ hdb)
 refine PySem.W.callWith_K (h₀:=X.base) I.ok.mod.kin hk (thn (ha pos pins s σ H _ I h) fun us s1 ⟨vs,H1,I1,r,q⟩=>⟨I1.kIn,?_⟩) he hpl
 exact run_fn F hr hb hd hx I1 r q
end
section
variable {X:Cx} {CX:CXT} {k:Nat} {f C:Addr} {fd:FuncData} {ps ks:List Str} {sp:Sp} {E:XK} {x m:Str} {p pos apos kpos:Pos} {e o:Expr} {es:List Expr} {kws:List Keyword} {te ta:TE} {t tk:TA} {nm:Option Str}
variable {g:List Value→List Value→List Value} {gV:List V→List V→List V}
end
structure FnScope (N P:List Str) (sc:Scope):Prop where
 kind:sc.kind = .function
 co:sc.isCoroutine = false
 gen:sc.isGenerator = false
 nd:N.Nodup
 pre:N.take P.length = P
 par:∀ x ∈ P,sc.names.lookup x = some .local ∨ sc.names.lookup x = some .cell
 nofree:∀ y ∈ sc.names,y.2 ≠ .free
theorem bindL_out {kindOf:Str→Option NameKind} {x:Str}:∀ {binds:List (Str × Value)} {m:Str→Option Value},(∀ v,(x,v) ∉ binds)→bindL kindOf binds m x = m x
 | [],_,_=>rfl
 | (n,v) :: r,m,h=>by
  unfold bindL
  rw [bindL_out fun w hw=>h w (List.mem_cons_of_mem _ hw)]
  split
  ·have:x ≠ n:=by rintro rfl; exact h v List.mem_cons_self
   simp [this]
  ·rfl
theorem bindC_out {kindOf:Str→Option NameKind} {x:Str}:∀ {binds:List (Str × Value)} {m:Str→Option Value},(∀ v,(x,v) ∉ binds)→bindC kindOf binds m x = m x
 | [],_,_=>rfl
 | (n,v) :: r,m,h=>by
  unfold bindC
  rw [bindC_out fun w hw=>h w (List.mem_cons_of_mem _ hw)]
  split
  ·rfl
  ·have:x ≠ n:=by rintro rfl; exact h v List.mem_cons_self
   simp [this]
theorem bindL_get {kindOf:Str→Option NameKind} {x:Str} {v:Value}:∀ {P:List Str} {vs:List Value} {i:Nat} {m:Str→Option Value},P.Nodup→P[i]? = some x→vs[i]? = some v→kindOf x = some .local →
  bindL kindOf (P.zip vs) m x = some v
 | [],_,_,_,_,h,_,_=>by simp at h
 | _ :: _,[],_,_,_,_,h,_=>by simp at h
 | p :: P,w :: vs,0,m,nd,h1,h2,hk=>by
  simp at h1 h2; subst h1; subst h2
  show bindL kindOf ((p,w) :: P.zip vs) m p = _
  unfold bindL
  rw [bindL_out fun v hv=>(List.nodup_cons.mp nd).1 (List.of_mem_zip hv).1,if_pos hk]
  simp
 | p :: P,w :: vs,i + 1,m,nd,h1,h2,hk=>by
  show bindL kindOf ((p,w) :: P.zip vs) m x = _
  unfold bindL
  exact bindL_get (i:=i) (List.nodup_cons.mp nd).2 (by simpa using h1) (by simpa using h2) hk
theorem bindC_get {kindOf:Str→Option NameKind} {x:Str} {v:Value}:∀ {P:List Str} {vs:List Value} {i:Nat} {m:Str→Option Value},P.Nodup→P[i]? = some x→vs[i]? = some v→kindOf x ≠ some .local →
  bindC kindOf (P.zip vs) m x = some v
 | [],_,_,_,_,h,_,_=>by simp at h
 | _ :: _,[],_,_,_,_,h,_=>by simp at h
 | p :: P,w :: vs,0,m,nd,h1,h2,hk=>by
  simp at h1 h2; subst h1; subst h2
  show bindC kindOf ((p,w) :: P.zip vs) m p = _
  unfold bindC
  rw [bindC_out fun v hv=>(List.nodup_cons.mp nd).1 (List.of_mem_zip hv).1,if_neg hk]
  simp
 | p :: P,w :: vs,i + 1,m,nd,h1,h2,hk=>by
  show bindC kindOf ((p,w) :: P.zip vs) m x = _
  unfold bindC
  exact bindC_get (i:=i) (List.nodup_cons.mp nd).2 (by simpa using h1) (by simpa using h2) hk
def start (N:List Str) (vs:List V):St:=vs.map some ++ List.replicate (N.length - vs.length) none
def cxOf (CX:CXT) (P:Program) (w:World) (K:PySem.W.Frag) (mg:Str→Option Value) (base:Heap) (N:List Str) (qual:Str) (scope:Scope) (f:Addr) (cd:Value) (A:Around) (outer:List Env) (s:Shared) (H:Hp) (E:XK):Cx where
 prog:=P
 w:=w
 K:=K
 mg:=mg
 base:=base
 A:=A.deeper (envOfC qual scope s.heap.objs.size f cd)
 N:=N
 s₀:=s
 H₀:=H
 env:=envOfC qual scope s.heap.objs.size f cd
 outer:=outer
 stack:=envOfC qual scope s.heap.objs.size f cd :: outer
 ex:=[]
 calm:=true
 fn:=fun _=>true
 pn:=[]
 xe:=fun e s'=>wpAny (model P w) (A.deeper (envOfC qual scope s.heap.objs.size f cd)) (leaving (envOfC qual scope s.heap.objs.size f cd) e) (fun _ s''=>CX outer H s E e s'') (fun e' s''=>CX outer H s E e' s'') s'
theorem cell_has {sc:Scope} {n:Nat} {x:Str} (h:sc.names.lookup x = some .cell):∃ c,(cellsFrom n sc.names []).lookup x = some c:=by
 have q:=PySem.W.cellsFrom_some sc.names n [] (.inl h)
 exact Option.isSome_iff_exists.mp q
theorem inv_start {CX:CXT} {P:Program} {w:World} {K:PySem.W.Frag} {mg:Str→Option Value} {base:Heap} {N ps:List Str} {qual:Str} {scope:Scope} {f:Addr} {cd:Value} {A:Around} {outer:List Env} {s s1:Shared} {H:Hp} {E:XK} {us:List Value} {vs:List V}
  (S:FnScope N ps scope) (hd:A.handled = none) (e0:Env0 P w K mg base A outer s H) (hl:vs.length = ps.length) (r:Vals vs us)
  (x:InCallC s s.heap.objs.size (bindL (envOfC qual scope s.heap.objs.size f cd).kindOf (ps.zip us) fun _=>none) (cellsFrom (s.heap.objs.size + 1) scope.names []) (bindC (envOfC qual scope s.heap.objs.size f cd).kindOf (ps.zip us) fun _=>none) s1) :
  Inv (cxOf CX P w K mg base N qual scope f cd A outer s H E) [] (start N vs) H s1:=by
 have hpl:ps.length ≤ N.length:=by have:=congrArg List.length S.pre; rw [List.length_take] at this; omega
 obtain ⟨h1,tk,rfl,hk⟩:=x.done
 have noA:∀ b:Addr,b ∉ (cxOf CX P w K mg base N qual scope f cd A outer s H E).ex:=fun b z=>absurd (show b ∈ ([]:List Addr) from z) (by simp)
 refine ⟨⟨e0.mod,S.kind,rfl,rfl,Nat.le_refl _,fun y z c h1 h2=>?_,fun y hy=>?_,fun y c _ h=>?_,fun _=>hd,Around.frames_deeper e0.frames,.inr ⟨rfl,rfl⟩,fun b z=>absurd z (noA b),e0.bs,e0.bsz,fun b _ _=>noA b,fun b z=>absurd z (noA b),e0.funs,e0.frf⟩,
  rfl,e0.bare,Un.kept hk,⟨_,x.toInCall.ns,fun i y v h1 h2 h3=>?_⟩,fun y c h=>⟨_,x.cell y c h⟩,e0.hok.fresh (Nat.le_refl _),fun y c h=>?_,fun p hp=>absurd (show p ∈ ([]:List (Addr × Obj)) from hp) (by simp),e0.hok.kept hk,?_⟩
 ·exact name_of_addr x.apart (PySem.mem_of_lookup h1) (PySem.mem_of_lookup h2)
 ·have hy:scope.names.lookup y = some .cell ∨ scope.names.lookup y = some .free:=hy
  rcases hy with hy | hy
  ·exact cell_has hy
  ·exact absurd rfl (S.nofree _ (PySem.mem_of_lookup hy))
 ·exact Nat.le_of_lt (x.above y c (PySem.mem_of_lookup h))
 ·have hi:i < vs.length:=by
   unfold start at h2
   by_cases hi:i < vs.length
   ·exact hi
   ·rw [List.getElem?_append_right (by simpa using hi)] at h2
    rw [List.getElem?_replicate] at h2
    split at h2 <;> cases h2
  have ha:vs[i]? = some v:=by
   unfold start at h2
   rw [List.getElem?_append_left (by simpa using hi),List.getElem?_map] at h2
   cases e:vs[i]? with
   | none=>rw [e] at h2; cases h2
   | some a=>rw [e] at h2; cases h2; rfl
  obtain ⟨u,hu,rv⟩:=r.get ha
  have hp:ps[i]? = some y:=by
   rw [← S.pre,List.getElem?_take_of_lt (by omega)]; exact h1
  have ndP:ps.Nodup:=by rw [← S.pre]; exact S.nd.sublist (List.take_sublist _ _)
  refine ⟨u,rv,?_⟩
  rcases S.par y (List.mem_of_getElem? hp) with k | k
  ·exact .inl ⟨k,bindL_get ndP hp hu k⟩
  ·obtain ⟨c,e⟩:=cell_has (n:=s.heap.objs.size + 1) k
   refine .inr ⟨.inl k,c,e,?_⟩
   have q:=x.cell y c e
   rw [bindC_get ndP hp hu (by show scope.names.lookup y ≠ _; rw [k]; decide)] at q
   exact q
 ·exact e0.hok.fresh (Nat.le_of_lt (x.above y c (PySem.mem_of_lookup h)))
 ·unfold start
  show _ = N.length
  rw [List.length_append,List.length_map,List.length_replicate]
  omega
theorem fn_of {CX:CXT} {P:Program} {w:World} {K:PySem.W.Frag} {mg:Str→Option Value} {base:Heap} {k:Nat} {f:Addr} {name qual:Str} {params:Arguments} {body:List Stmt} {scope:Scope} {dV kV doc pm cdv ct oc:Value} {an od:Option Addr}
  {osl:Array (Option Value)} {N ps:List Str} {sp:Sp} (lk:K.lookup f = some ⟨oc,od,.func (PySem.W.fnOf name qual params body scope dV kV doc pm an cdv ct),osl⟩) (hcd:PySem.W.codeIn K cdv qual = true) (S:FnScope N ps scope)
  (len:∀ vs H Q E,sp vs H Q E→vs.length = ps.length)
  (hbody:∀ (A:Around) (outer:List Env) (s:Shared) (H:Hp) (vs:List V) (Q:VK) (E:XK),Room k (A.deeper (envOfC qual scope s.heap.objs.size f cdv))→sp vs H Q E →
   ∃ t,PSs (cxOf CX P w K mg base N qual scope f cdv A outer s H E) body t∧t { nx:=fun _ H'=>Q .non H',rt:=Q } (start N vs) H) :
  FnOk P w K mg base CX (k + 1) f (PySem.W.fnOf name qual params body scope dV kV doc pm an cdv ct) ps sp:=by
 refine ⟨len,fun A outer s H args us vs Q E hr e0 hb r hsp=>?_⟩
 have hl:=len _ _ _ _ hsp
 have KX:K.In s.heap:=e0.mod.kin.keeps fun b o e=>(e0.bs b o e).1
 have lim:s.heap.NoLimit:=e0.mod.nolimit.keeps fun b o e=>(e0.bs b o e).1
 have hkind:∀ y ∈ ps.zip us,scope.names.lookup y.1 = some .local ∨ (scope.names.lookup y.1 = some .cell∧((cellsFrom (s.heap.objs.size + 1) scope.names []).lookup y.1).isSome = true):=fun ⟨n,v⟩ hy=>by
  rcases S.par n (List.of_mem_zip hy).1 with q | q
  ·exact .inl q
  ·exact .inr ⟨q,PySem.W.cellsFrom_some _ _ _ (.inl q)⟩
 refine codeAny_call_function hr.depth (KX _ _ lk) rfl S.co S.gen rfl (PySem.W.codeRec_of KX hcd) (hb _ _ _ _ ?_)
 refine wpAny_newFunctionEnv_cells S.kind hkind fun env he s1 x=>?_
 subst he
 refine ⟨lim.keeps x.toInCall.keep,codeAny_func ?_⟩
 obtain ⟨t,ht,hq⟩:=hbody A outer s H vs Q E (hr.deeper _) hsp
 have I:Inv (cxOf CX P w K mg base N qual scope f cdv A outer s H E) [] (start N vs) H s1:=inv_start S hr.hd e0 hl r x
 refine wpAny_mono (ht [] s1 (start N vs) H _ I hq) (fun fl s' hs=>?_) fun e s' hs=>hs
 have fin:∀ {σ':St} {H':Hp} {v:V} {u:Value},Inv (cxOf CX P w K mg base N qual scope f cdv A outer s H E) [] σ' H' s'→RelV v u→Q v H'→CE outer P w H s Q u s' :=
  fun {σ' H' v u} J rv q=>⟨v,H',J.os,J.bare,J.base,J.hok,rv,q⟩
 cases fl with
 | ret u =>
  obtain ⟨v,σ',H',J,rv,q⟩:=hs
  exact fin J rv q
 | next =>
  obtain ⟨σ',H',J,q⟩:=hs
  exact fin (v:=V.non) (u:=Value.none) J rfl q
 | brk =>
  obtain ⟨_,_,_,q⟩:=hs
  exact False.elim q
 | cont =>
  obtain ⟨_,_,_,q⟩:=hs
  exact False.elim q
end L2
namespace L2
open PySem PySem.Spec PyProof.Rows
section
variable {X:Cx} {x:Str} {p pos:Pos} {e:Expr} {es:List Expr} {t:TA} {id T:String} {r:List V→Hp→VK→Prop}
def tCB (r:List V→Hp→VK→Prop) (t:TA):TE:=fun σ H Q=>t σ H fun vs H1=>r vs H1 Q
theorem pe_callB (hc:CallR X (.builtin id) r) (hg:Gl X x) (hm:X.mg x = none) (hv:bootBuiltins x = some (.builtin id)) (ha:PA X (e :: es) t) (hn:x ≠ "__name__":=by decide) (hdb:(x == ("__debug__":Str)) = false:=by decide)
  (he:starEach (e :: es) X.env = (false,eval e X.env) :: starEach es X.env:=by rfl) (hpl:(backTo pos (starEach es X.env)).any (·.1) = false:=by rfl):PE X (.Call (.Name x p) (e :: es) [] pos) (tCB r t):=by
 intro pins s σ H Q I h
 refine wpAny_Call_Name_kw (ld_blt I hg hm hv ?_ hn hdb)
 exact PyProof.Rows.callWith_builtin1 (thn (ha pos pins s σ H _ I h) fun us s1 ⟨vs,H1,I1,r1,q1⟩=>hc pins s1 σ H1 vs us Q I1 r1 q1) he hpl
theorem pe_callTy (hc:CallR X (.type T) r) (hg:Gl X x) (hm:X.mg x = none) (hv:bootBuiltins x = some (.type T)) (ha:PA X (e :: es) t) (hn:x ≠ "__name__":=by decide) (hdb:(x == ("__debug__":Str)) = false:=by decide)
  (he:starEach (e :: es) X.env = (false,eval e X.env) :: starEach es X.env:=by rfl) (hpl:(backTo pos (starEach es X.env)).any (·.1) = false:=by rfl):PE X (.Call (.Name x p) (e :: es) [] pos) (tCB r t):=by
 intro pins s σ H Q I h
 refine wpAny_Call_Name_kw (ld_blt I hg hm hv ?_ hn hdb)
 exact PyProof.Rows.callWith_type1 (thn (ha pos pins s σ H _ I h) fun us s1 ⟨vs,H1,I1,r1,q1⟩=>hc pins s1 σ H1 vs us Q I1 r1 q1) he hpl
end
end L2
namespace HT
open PySem PyProof.Rows
section
open PySem.SeqAt
open PySem.AutoSeq1 (wpAny_loadPart')
open PySem.MeetsSeq PySem.MeetsSeq2 PySem.MeetsSeq3
end
section
variable {prog:Program} {w:World} {A:Around} {E:Value→Shared→Prop} {s:Shared}
def sIx (n d:Nat):Option Int→Nat
 | none=>d
 | some v=>if v < 0 then (v + (n:Int)).toNat else min v.toNat n
theorem sIx_none (n d:Nat):sIx n d none = d:=rfl
theorem sIx_nat (n d k:Nat):sIx n d (some (k:Int)) = min k n:=by
 show (if (k:Int) < 0 then ((k:Int) + (n:Int)).toNat else min (k:Int).toNat n) = min k n
 rw [if_neg (by omega),Int.toNat_natCast]
theorem sIx_le (n d:Nat) (hd:d ≤ n) (o:Option Int):sIx n d o ≤ n:=by
 cases o with
 | none=>exact hd
 | some v =>
  show (if v < 0 then (v + (n:Int)).toNat else min v.toNat n) ≤ n
  by_cases hv:v < 0
  ·rw [if_pos hv]; omega
  ·rw [if_neg hv]; exact Nat.min_le_right _ _
theorem clip_eq (v:Int) (n d:Nat):(if v < 0 then max (v + (n:Int)) 0 else min v (n:Int)) = ((sIx n d (some v):Nat):Int):=by
 show (if v < 0 then max (v + (n:Int)) 0 else min v (n:Int)) = (((if v < 0 then (v + (n:Int)).toNat else min v.toNat n):Nat):Int)
 by_cases hv:v < 0
 ·simp only [if_pos hv]; omega
 ·simp only [if_neg hv]; omega
theorem adjust_gen (lo hi:Option Int) (n:Nat):Builtin.Slice.sliceAdjust lo hi 1 (n:Int) = (((sIx n 0 lo:Nat):Int),((sIx n n hi:Nat):Int)):=by
 have h1:¬ ((1:Int) < 0):=by omega
 unfold Builtin.Slice.sliceAdjust
 simp only [h1,if_false]
 refine Prod.ext ?_ ?_
 ·cases lo with
  | none=>rfl
  | some v=>exact clip_eq v n 0
 ·cases hi with
  | none=>rfl
  | some v=>exact clip_eq v n n
theorem places_gen (i j:Nat):Builtin.Slice.slicePlaces (i:Int) (j:Int) 1 = j - i:=by
 unfold Builtin.Slice.slicePlaces
 have h1:(1:Int) > 0:=by omega
 simp only [h1,if_true,Int.ediv_one]
 split <;> omega
theorem slicePart_ {v:Value} {o:Option Int} {Q:Option Int→Shared→Prop} (p:IsPart v o) (h:Q o s):wpAny (model prog w) A (Builtin.Slice.slicePartIndex v) Q E s:=by
 cases p with
 | none=>exact slicePart_none h
 | int i t=>exact slicePart_int h
theorem sliceApplied_gen {sl:Addr} {vl vu:Value} {lo hi:Option Int} {n:Nat} {Q:Int × Int × Nat→Shared→Prop} (hs:s.heap.IsSliceOf sl vl vu .none) (pl:IsPart vl lo) (pu:IsPart vu hi)
  (h:Q (((sIx n 0 lo:Nat):Int),1,sIx n n hi - sIx n 0 lo) s):wpAny (model prog w) A (Builtin.Slice.sliceApplied (.ref sl) (pure (n:Int))) Q E s:=by
 obtain ⟨os,hos,hcs,hds⟩:=id hs
 unfold Builtin.Slice.sliceApplied Builtin.Slice.sliceFields
 refine wpAny_bind (wpAny_bind (wpAny_field hos hds (x:=vl) rfl (wpAny_bind (wpAny_field hos hds (x:=vu) rfl (wpAny_bind (wpAny_field hos hds (x:=.none) rfl (wpAny_pure ?_)))))))
 refine wpAny_bind (slicePart_none ?_)
 show wpAny _ _ (if ((1:Int) == 0) = true then _ else _) _ _ s
 rw [if_neg (by decide)]
 refine wpAny_bind (slicePart_ pl (wpAny_bind (slicePart_ pu (wpAny_bind (wpAny_pure ?_)))))
 show wpAny _ _ (match Builtin.Slice.sliceAdjust lo hi 1 (n:Int) with | (lo,hi)=>pure (lo,(1:Int),Builtin.Slice.slicePlaces lo hi 1)) _ _ s
 rw [adjust_gen lo hi n]
 show wpAny _ _ (pure (((sIx n 0 lo:Nat):Int),(1:Int),Builtin.Slice.slicePlaces ((sIx n 0 lo:Nat):Int) ((sIx n n hi:Nat):Int) 1)) _ _ s
 rw [places_gen]
 exact wpAny_pure h
theorem pick_gen (xs:Array Value) (i k:Nat):((List.range k).filterMap fun (m:Nat)=>xs[((i:Int) + (m:Int) * 1).toNat]?).toArray = ((xs.toList.drop i).take k).toArray:=by
 have e:(fun (m:Nat)=>xs[((i:Int) + (m:Int) * 1).toNat]?) = fun m=>xs[i + m]?:=by
  funext m
  have:((i:Int) + (m:Int) * 1).toNat = i + m:=by omega
  rw [this]
 rw [e]
 have:=pick_run xs i k
 rw [List.filterMap_map] at this
 have e2:((fun x=>xs[x]?) ∘ fun x=>i + x) = fun m=>xs[i + m]?:=rfl
 rw [e2] at this
 rw [this]
theorem getItem_tuple_cut {t sl:Addr} {items:Array Value} {vl vu:Value} {lo hi:Option Int} {Q:Value→Shared→Prop} (ht:IsTup s.heap t items) (hs:s.heap.IsSliceOf sl vl vu .none) (pl:IsPart vl lo) (pu:IsPart vu hi)
  (hw:¬ (sIx items.size 0 lo = 0∧sIx items.size items.size hi = items.size))
  (h:Q (.ref s.heap.objs.size) { s with heap:=s.heap.push { cls:=.type "tuple",data:=.seq ((items.toList.drop (sIx items.size 0 lo)).take (sIx items.size items.size hi - sIx items.size 0 lo)).toArray } })
  (hsz:items.size ≤ sizeLine):wpAny (model prog w) A (getItem (.ref t) (.ref sl)) Q E s:=by
 have htake:sizeOk (.seq ((items.toList.drop (sIx items.size 0 lo)).take (sIx items.size items.size hi - sIx items.size 0 lo)).toArray):=by
  show ((items.toList.drop (sIx items.size 0 lo)).take (sIx items.size items.size hi - sIx items.size 0 lo)).toArray.size ≤ sizeLine
  rw [List.size_toArray,List.length_take,List.length_drop,Array.length_toList]
  omega
 have hj:sIx items.size items.size hi ≤ items.size:=sIx_le _ _ (Nat.le_refl _) hi
 obtain ⟨os,hos,hcs,hds⟩:=id hs
 have hTs:s.TypeIs (.ref sl) "slice":=⟨os,hos,hcs⟩
 unfold getItem
 try with_reducible refine wpAny_holding ?_
 first | refine wpAny_bind (wpAny_pure ?_) | skip
 refine wpAny_bind (wpAny_sequenceKey ht.typeIs (by decide) ?_)
 refine wpAny_bind (wpAny_callSpecial?_slot (name:=Str.ofString "__getitem__") ht.typeIs PyProof.Rows.slot_tuple_getitem
  (wpAny_call_entry PyProof.Rows.slot_tuple_getitem ht.typeIs entry_tuple_getitem ?_ (args_tuple_getitem _ _)))
 show wpAny _ _ (Builtin.Tuple.tupleItemsOf (.ref t) >>= _) _ _ s
 refine wpAny_bind (tupleItemsOf_ ht ?_)
 refine wpAny_bind (wpAny_typeOf hTs ?_)
 rw [if_pos (by decide)]
 refine wpAny_bind (sliceApplied_gen hs pl pu ?_)
 have hno:¬ ((((sIx items.size 0 lo:Nat):Int) == 0 && (1:Int) == 1 && (sIx items.size items.size hi - sIx items.size 0 lo) == items.size) = true):=by
  intro q
  rw [Bool.and_eq_true,Bool.and_eq_true] at q
  have q1:((sIx items.size 0 lo:Nat):Int) = 0:=eq_of_beq q.1.1
  have q2:sIx items.size items.size hi - sIx items.size 0 lo = items.size:=eq_of_beq q.2
  exact hw ⟨by omega,by omega⟩
 show wpAny _ _ (if (((sIx items.size 0 lo:Nat):Int) == 0 && (1:Int) == 1 && (sIx items.size items.size hi - sIx items.size 0 lo) == items.size) = true then _ else _) _ _ s
 rw [if_neg hno,pick_gen]
 first
  | exact wpAny_bind (m:=Builtin.Tuple.tupleExact _) (wpAny_newObj_type (wpAny_pure ⟨_,rfl,wpAny_pure h⟩) htake)
  | exact wpAny_bind (m:=Builtin.Tuple.tupleExact _) (wpAny_newObj_type (wpAny_bind (wpAny_pure (wpAny_pure ⟨_,rfl,wpAny_pure h⟩))) htake)
  | exact wpAny_bind (wpAny_bind (m:=Builtin.Tuple.tupleExact _) (wpAny_newObj_type (wpAny_pure (wpAny_pure ⟨_,rfl,wpAny_pure h⟩)) htake))
  | exact wpAny_bind (wpAny_bind (m:=Builtin.Tuple.tupleExact _) (wpAny_newObj_type (wpAny_pure ⟨_,rfl,wpAny_pure h⟩) htake))
end
end HT
namespace L2
open PySem PySem.Spec PyProof.Rows
abbrev TO:=St→Hp→(Option Int→Hp→Prop)→Prop
def PO (X:Cx) (e:Option Expr) (t:TO):Prop :=
 ∀ (pins:List (Addr × Obj)) (s:Shared) (σ:St) (H:Hp) (Q:Option Int→Hp→Prop),Inv X pins σ H s→t σ H Q →
  wpAny (model X.prog X.w) X.A (evalPart e X.env) (fun u s'=>∃ o H',Inv X pins σ H' s'∧IsPart u o∧Q o H') X.xe s
def tNoPart:TO:=fun _ H Q=>Q none H
def tPart (t:TE):TO:=fun σ H Q=>t σ H fun x H1=>∃ i,x = .int i∧Q (some i) H1
theorem intsAre_of {ns:List Int}:∀ {us:List Value},Vals (ns.map V.int) us→IntsAre us ns:=by
 induction ns with
 | nil=>intro us r; rw [List.map_nil] at r; cases r; exact .nil
 | cons n ns ih =>
  intro us r
  rw [List.map_cons] at r
  cases r with
  | cons r1 r2 =>
   obtain ⟨t,e⟩:=r1
   subst e
   exact .cons n t (ih r2)
section
variable {X:Cx} {e:Expr} {te:TE} {lo hi:Option Expr} {tl th:TO} {pos p2:Pos}
theorem po_none:PO X none tNoPart:=by
 intro pins s σ H Q I h
 rw [evalPart_none]
 exact wpAny_pure ⟨none,H,I,.none,h⟩
theorem po_some (h:PE X e te):PO X (some e) (tPart te):=by
 intro pins s σ H Q I hw
 rw [evalPart_some]
 refine thn (h pins s σ H _ I hw) fun u s1 ⟨x,H1,I1,r1,q1⟩=>?_
 obtain ⟨i,rfl,q⟩:=q1
 obtain ⟨t,rfl⟩:=r1
 exact ⟨some i,H1,I1,.int i t,q⟩
def SlR (X:Cx) (r:V→Option Int→Option Int→Hp→VK→Prop):Prop :=
 ∀ (pins:List (Addr × Obj)) (s:Shared) (σ:St) (H:Hp) (x:V) (v vl vu:Value) (lo hi:Option Int) (sl:Addr) (Q:VK),Inv X pins σ H s→RelV x v→s.heap.IsSliceOf sl vl vu .none→IsPart vl lo→IsPart vu hi→r x lo hi H Q →
  ∃ T id,typeLookup (.type T) "__getitem__" = pure (some (.builtin id))∧s.TypeIs v T∧wpAny (model X.prog X.w) X.A (getItem v (.ref sl)) (EP X pins σ Q) X.xe s
def tSl (r:V→Option Int→Option Int→Hp→VK→Prop) (te:TE) (tl th:TO):TE:=fun σ H Q=>te σ H fun x H1=>tl σ H1 fun l H2=>th σ H2 fun u H3=>r x l u H3 Q
theorem pe_slice {r:V→Option Int→Option Int→Hp→VK→Prop} (hr:SlR X r) (he:PE X e te) (hl:PO X lo tl) (hu:PO X hi th):PE X (.Subscript e (.Slice lo hi none p2) pos) (tSl r te tl th):=by
 intro pins s σ H Q I h
 refine Subscript_ (thn (he pins s σ H _ I h) fun v s1 ⟨x,H1,I1,r1,q1⟩=>?_)
 refine wpAny_Slice (thn (hl pins s1 σ H1 _ I1 q1) fun vl s2 ⟨l,H2,I2,pl,q2⟩=>thn (hu pins s2 σ H2 _ I2 q2) fun vu s3 ⟨u,H3,I3,pu,q3⟩=>?_)
 rw [evalPart_none]
 refine wpAny_pure ?_
 have I4:Inv X pins σ H3 { s3 with heap:=s3.heap.push { cls:=.type "slice",data:=.fields #[vl,vu,.none] } }:=I3.kept (t':=s3.toks) fun b ob q=>Heap.get?_push_of_some _ q
 obtain ⟨T,id,hT,ht,hg⟩:=hr pins { s3 with heap:=s3.heap.push { cls:=.type "slice",data:=.fields #[vl,vu,.none] } } σ H3 x v vl vu l u s3.heap.objs.size Q I4 r1 (Heap.IsSliceOf.new ..) pl pu q3
 show wpAny (model X.prog X.w) X.A (subscriptTail e (.Slice lo hi none p2) v (.ref s3.heap.objs.size)) (EP X pins σ Q) X.xe { s3 with heap:=s3.heap.push { cls:=.type "slice",data:=.fields #[vl,vu,.none] } }
 exact tail_any (ops:=[.ref s3.heap.objs.size,v]) ht hT hg (by with_unfolding_all rfl)
def cutV (xs:List V) (lo hi:Option Int):List V:=(xs.drop (HT.sIx xs.length 0 lo)).take (HT.sIx xs.length xs.length hi - HT.sIx xs.length 0 lo)
theorem cutV_length (xs:List V) (lo hi:Option Int):(cutV xs lo hi).length ≤ xs.length:=by
 unfold cutV
 rw [List.length_take,List.length_drop]
 omega
def rSlT (K:PySem.W.Frag):V→Option Int→Option Int→Hp→VK→Prop:=fun x lo hi H Q=>∃ a xs,x = .ref a∧SqT K H a xs ∧
 ¬ (HT.sIx xs.length 0 lo = 0∧HT.sIx xs.length xs.length hi = xs.length)∧∀ p,H p = none→Q (.ref p) (upd H p (.tup (cutV xs lo hi)))
theorem sl_tup:SlR X (rSlT X.K):=by
 intro pins s σ H x v vl vu lo hi sl Q I rx hs pl pu h
 obtain ⟨a,xs,rfl,hx,hw,q⟩:=h
 cases rx
 obtain ⟨its,r,ht,hz⟩:=I.tuple hx
 have hlen:its.toArray.size = xs.length:=by rw [List.size_toArray]; exact r.length.symm
 refine ⟨"tuple",_,PyProof.Rows.slot_tuple_getitem.lookup,ht.typeIs,?_⟩
 refine HT.getItem_tuple_cut ht hs pl pu (by rw [hlen]; exact hw) ?_ (by rw [hlen]; exact hz)
 rw [hlen]
 refine ⟨.ref s.heap.objs.size,_,I.laid (t':=s.toks) (o:=.tup (cutV xs lo hi)) (fun b ob q=>Heap.get?_push_of_some _ q) (Nat.le_refl _) ?_,rfl,q _ (I.hok.fresh (Nat.le_refl _))⟩
 exact ⟨Nat.le_trans (cutV_length xs lo hi) hz,_,(r.drop (HT.sIx xs.length 0 lo)).take (HT.sIx xs.length xs.length hi - HT.sIx xs.length 0 lo),IsTup.new _ _⟩
end
end L2
namespace L2
open PySem PySem.Spec PyProof.Rows
def ixN (n:Nat) (i:Int):Option Nat:=if 0 ≤ i then (if i < n then some i.toNat else none) else if -(n:Int) ≤ i then some (i + n).toNat else none
def atI {α:Type} (xs:List α) (i:Int):Option α:=(ixN xs.length i).bind fun j=>xs[j]?
theorem ixN_seq {n:Nat} {i:Int} {j:Nat} (h:ixN n i = some j):seqIndex? i n = some j∧j < n∧-(n:Int) ≤ i∧i < n:=by
 unfold ixN at h
 by_cases h0:0 ≤ i
 ·rw [if_pos h0] at h
  by_cases h1:i < n
  ·rw [if_pos h1] at h
   have e:i.toNat = j:=Option.some.inj h
   exact ⟨by rw [seqIndex_of h0 h1,e],by omega,by omega,h1⟩
  ·rw [if_neg h1] at h; cases h
 ·rw [if_neg h0] at h
  by_cases h1:-(n:Int) ≤ i
  ·rw [if_pos h1] at h
   have e:(i + n).toNat = j:=Option.some.inj h
   exact ⟨by rw [seqIndex_neg (by omega) h1,e],by omega,h1,by omega⟩
  ·rw [if_neg h1] at h; cases h
theorem atI_get {α:Type} {xs:List α} {i:Int} {v:α} (h:atI xs i = some v):∃ j,seqIndex? i xs.length = some j∧xs[j]? = some v∧j < xs.length∧-(xs.length:Int) ≤ i∧i < xs.length:=by
 unfold atI at h
 cases e:ixN xs.length i with
 | none=>rw [e] at h; cases h
 | some j =>
  rw [e] at h
  obtain ⟨h1,h2,h3,h4⟩:=ixN_seq e
  exact ⟨j,h1,h,h2,h3,h4⟩
theorem atI_nat {α:Type} {xs:List α} {j:Nat} {v:α} (h:xs[j]? = some v):atI xs (j:Int) = some v:=by
 have hj:j < xs.length:=(List.getElem?_eq_some_iff.mp h).1
 have e:ixN xs.length (j:Int) = some j:=by
  unfold ixN
  rw [if_pos (by omega),if_pos (by omega)]; simp
 unfold atI; rw [e]; exact h
theorem atI_last {α:Type} (xs:List α) (v:α):atI (xs ++ [v]) (-1) = some v:=by
 have hl:(xs ++ [v]).length = xs.length + 1:=by simp
 have e:ixN (xs ++ [v]).length (-1) = some xs.length:=by
  unfold ixN
  rw [hl,if_neg (by decide),if_pos (by omega)]
  congr 1
  omega
 unfold atI
 rw [e]
 show (xs ++ [v])[xs.length]? = some v
 simp
def PlainIx (b:Expr):Prop:=∀ o i,subscripted b false o i = operate [o,i] (getItem o i)
def IxR (X:Cx) (r:R2):Prop :=
 ∀ (value slice:Expr) (pins:List (Addr × Obj)) (s:Shared) (σ:St) (H:Hp) (x y:V) (v u:Value) (Q:VK),Inv X pins σ H s→RelV x v→RelV y u→r x y H Q →
  subscripted slice false v u = operate [v,u] (getItem v u)→wpAny (model X.prog X.w) X.A (subscriptTail value slice v u) (EP X pins σ Q) X.xe s
def MtR (X:Cx) (id:String) (r:V→List V→Hp→VK→Prop):Prop :=
 ∀ (pins:List (Addr × Obj)) (s:Shared) (σ:St) (H:Hp) (x:V) (xs:List V) (v:Value) (us:List Value) (Q:VK),Inv X pins σ H s→RelV x v→Vals xs us→r x xs H Q →
  wpAny (model X.prog X.w) X.A (call (.builtin id) (v :: us)) (EP X pins σ Q) X.xe s
section
variable {X:Cx} {a b:Expr} {ta tb:TE} {pos:Pos}
theorem MtR.or {id:String} {r r':V→List V→Hp→VK→Prop} (h:MtR X id r) (h':MtR X id r'):MtR X id (fun x xs H Q=>r x xs H Q ∨ r' x xs H Q):=by
 intro pins s σ H x xs v us Q I rx rs q
 rcases q with q | q
 ·exact h pins s σ H x xs v us Q I rx rs q
 ·exact h' pins s σ H x xs v us Q I rx rs q
theorem pe_ix {r:R2} (hr:IxR X r) (ha:PE X a ta) (hb:PE X b tb) (hs:PlainIx b):PE X (.Subscript a b pos) (tOp r ta tb):=by
 intro pins s σ H Q I h
 exact Subscript_ (binT ha hb I h fun v u s2 x y H2 I2 rx ry q=>hr a b pins s2 σ H2 x y v u Q I2 rx ry q (hs _ _))
def rIxL (K:PySem.W.Frag):R2:=fun x y H Q=>∃ p xs i v,x = .ref p∧y = .int i∧SqL K H p xs∧atI xs i = some v∧Q v H
def rIxT (K:PySem.W.Frag):R2:=fun x y H Q=>∃ p xs i v,x = .ref p∧y = .int i∧SqT K H p xs∧atI xs i = some v∧Q v H
theorem ix_list:IxR X (rIxL X.K):=by
 intro value slice pins s σ H x y v u Q I rx ry h hs
 obtain ⟨p,xs,i,z,rfl,rfl,hq,he,q⟩:=h
 cases rx
 obtain ⟨t,rfl⟩:=ry
 obtain ⟨its,r,pl,hz⟩:=I.list hq
 obtain ⟨j,h1,h2,h3,h4,h5⟩:=atI_get he
 obtain ⟨w,ew,rw'⟩:=r.get h2
 have hl:=r.length
 have hn:=line63
 have fin:EP X pins σ Q w s:=⟨z,H,I,rw',q⟩
 by_cases h0:0 ≤ i
 ·have hj:i.toNat = j:=by
   rw [seqIndex_of h0 h5] at h1
   exact Option.some.inj h1
  exact item_listR pl.isList h0 (by omega) (by rw [hj]; simpa using ew) fin hs
 ·have hj:(i + (its.toArray.size:Int)).toNat = j:=by
   rw [seqIndex_neg (by omega) h4] at h1
   rw [List.size_toArray,← hl]
   exact Option.some.inj h1
  exact subscriptTail_builtinR (x:=w) pl.isList.typeIs slot_list_getitem.lookup
   (wpAny_getItem_list_neg (Q:=fun r s'=>r = w∧EP X pins σ Q r s') pl.isList (by omega) (by rw [List.size_toArray] <;> omega) (by omega) (by rw [hj]; simpa using ew) ⟨rfl,fin⟩) hs
theorem ix_tup:IxR X (rIxT X.K):=by
 intro value slice pins s σ H x y v u Q I rx ry h hs
 obtain ⟨p,xs,i,z,rfl,rfl,hq,he,q⟩:=h
 cases rx
 obtain ⟨t,rfl⟩:=ry
 obtain ⟨its,r,pl,hz⟩:=I.tuple hq
 obtain ⟨j,h1,h2,h3,h4,h5⟩:=atI_get he
 obtain ⟨w,ew,rw'⟩:=r.get h2
 have hl:=r.length
 have hn:=line63
 have fin:EP X pins σ Q w s:=⟨z,H,I,rw',q⟩
 exact subscriptTail_builtinR (x:=w) pl.typeIs slot_tuple_getitem.lookup
  (getItem_tuple (j:=j) (Q:=fun r s'=>r = w∧EP X pins σ Q r s') pl (by omega) (by omega) (by rw [List.size_toArray,← hl]; exact h1) (by simpa using ew) ⟨rfl,fin⟩) hs
theorem mapSeq_set (its:List Value) (n j:Nat) (u:Value):Obj.mapSeq (·.setIfInBounds j u) { cls:=.type "list",data:=.seq its.toArray n } = { cls:=.type "list",data:=.seq (its.set j u).toArray n }:=by
 simp [Obj.mapSeq]
theorem Inv.lst {pins:List (Addr × Obj)} {σ:St} {H:Hp} {s:Shared} {p:Addr} {xs:List V} (I:Inv X pins σ H s) (h:H p = some (.lst xs)) :
  ∃ (its:List Value) (n:Nat),Vals xs its∧s.heap.get? p = some { cls:=.type "list",data:=.seq its.toArray n }∧xs.length ≤ sizeLine:=by
 obtain ⟨z,its,n,r,e⟩:=I.hok p _ h
 exact ⟨its,n,r,e,z⟩
theorem Inv.lstUpd {pins:List (Addr × Obj)} {σ:St} {H:Hp} {s:Shared} {p:Addr} {xs ys:List V} {its its':List Value} {n n':Nat} {f:Obj→Obj} (I:Inv X pins σ H s) (h:H p = some (.lst xs))
  (ho:s.heap.get? p = some { cls:=.type "list",data:=.seq its.toArray n }) (hf:f { cls:=.type "list",data:=.seq its.toArray n } = { cls:=.type "list",data:=.seq its'.toArray n' }) (r:Vals ys its') (hz:ys.length ≤ sizeLine) (t:Nat) :
  Inv X pins σ (upd H p (.lst ys)) { s with heap:=s.heap.update p f,toks:=t }:=by
 have e:(s.heap.update p f).get? p = some { cls:=.type "list",data:=.seq its'.toArray n' }:=by
  rw [Heap.get?_update_self f ho (by rw [hf] <;> rfl),hf]
 refine I.write (x:=p) (e:=p) (by rw [h]; trivial) (.inl rfl) (fun b u hb q=>(Heap.get?_update_other _ _ (Ne.symm hb)).trans q) ⟨_,e⟩ ?_
 exact ⟨hz,its',n',r,e⟩
def rSetL:V→V→V→Hp→(Hp→Prop)→Prop:=fun o i v H Q=>∃ p xs k j,o = .ref p∧i = .int k∧H p = some (.lst xs)∧ixN xs.length k = some j∧Q (upd H p (.lst (xs.set j v)))
theorem set_list:PSet X rSetL:=by
 intro pins s σ H o i v ov iv u Q I ro ri rv h
 obtain ⟨p,xs,k,j,rfl,rfl,hp,hj,q⟩:=h
 cases ro
 obtain ⟨t,rfl⟩:=ri
 obtain ⟨its,n,r,ho,hz⟩:=I.lst hp
 obtain ⟨h1,h2,h3,h4⟩:=ixN_seq hj
 have hl:=r.length
 have hn:=line63
 have I':Inv X pins σ (upd H p (.lst (xs.set j v))) { s with heap:=s.heap.update p (Obj.mapSeq (·.setIfInBounds j u)) } :=
  I.lstUpd hp ho (mapSeq_set its n j u) (r.set rv j) (by rw [List.length_set]; exact hz) s.toks
 by_cases h0:0 ≤ k
 ·have hk:k.toNat = j:=by
   rw [seqIndex_of h0 h4] at h1
   exact Option.some.inj h1
  exact PySem.W.ki_setAt ho h0 (by omega) (by rw [List.size_toArray,← hl]; exact h4) (by rw [hk]; exact ⟨_,I',q⟩)
 ·have hk:(k + (its.toArray.size:Int)).toNat = j:=by
   rw [seqIndex_neg (by omega) h3] at h1
   rw [List.size_toArray,← hl]
   exact Option.some.inj h1
  exact PySem.W.ki_setBack ho (by omega) (by rw [List.size_toArray,← hl]; exact h3) (by omega) (by rw [hk]; exact ⟨_,I',q⟩)
theorem slice_bounds (lo hi:Option Int) (n:Nat):(sliceBounds lo hi none n).1 = ((HT.sIx n 0 lo:Nat):Int)∧(sliceBounds lo hi none n).2.1 = ((HT.sIx n n hi:Nat):Int)∧(sliceBounds lo hi none n).2.2 = 1:=by
 refine ⟨?_,?_,rfl⟩
 ·cases lo with
  | none=>simp [sliceBounds,HT.sIx]
  | some i =>
   simp only [sliceBounds,HT.sIx,Option.getD_none,show (1:Int) > 0 by decide,if_true]
   by_cases h:i < 0
   ·simp only [h,if_true] <;> omega
   ·simp only [h,if_false] <;> omega
 ·cases hi with
  | none=>simp [sliceBounds,HT.sIx]
  | some i =>
   simp only [sliceBounds,HT.sIx,Option.getD_none,show (1:Int) > 0 by decide,if_true]
   by_cases h:i < 0
   ·simp only [h,if_true] <;> omega
   ·simp only [h,if_false] <;> omega
theorem slicePick_cut (its:List Value) (lo hi:Option Int):slicePick its.toArray lo hi none = ((its.drop (HT.sIx its.length 0 lo)).take (HT.sIx its.length its.length hi - HT.sIx its.length 0 lo)).toArray:=by
 obtain ⟨h1,h2,h3⟩:=slice_bounds lo hi its.toArray.size
 unfold slicePick
 rw [h1,h2,h3]
 simp only [sliceRange_one,pick_run,List.size_toArray] <;> rfl
def rSlL (K:PySem.W.Frag):V→Option Int→Option Int→Hp→VK→Prop:=fun x lo hi H Q=>∃ a xs,x = .ref a∧SqL K H a xs∧∀ p,H p = none→Q (.ref p) (upd H p (.lst (cutV xs lo hi)))
theorem sl_list:SlR X (rSlL X.K):=by
 intro pins s σ H x v vl vu lo hi sl Q I rx hs pl pu h
 obtain ⟨a,xs,rfl,hx,q⟩:=h
 cases rx
 obtain ⟨its,r,ht,hz⟩:=I.list hx
 have hlen:=r.length
 refine ⟨"list",_,slot_list_getitem.lookup,ht.isList.typeIs,?_⟩
 refine wpAny_getItem_list_slice ht.isList hs pl pu .none (by simp) ?_ (by rw [List.size_toArray] <;> omega)
 rw [slicePick_cut,← hlen]
 refine ⟨.ref s.heap.objs.size,_,I.laid (t':=s.toks) (o:=.lst (cutV xs lo hi)) (fun b ob q=>Heap.get?_push_of_some _ q) (Nat.le_refl _) ?_,rfl,q _ (I.hok.fresh (Nat.le_refl _))⟩
 exact ⟨Nat.le_trans (cutV_length xs lo hi) hz,_,0,(r.drop (HT.sIx xs.length 0 lo)).take (HT.sIx xs.length xs.length hi - HT.sIx xs.length 0 lo),Heap.get?_push_size _ rfl⟩
def flatV:V→Bool
 | .non=>true
 | .bl _=>true
 | .int _=>true
 | .str _=>true
 | _=>false
def eqV:V→V→Bool
 | .non,.non=>true
 | .bl a,.bl b=>a == b
 | .bl a,.int b=>(if a then 1 else 0) == b
 | .int a,.bl b=>a == (if b then 1 else 0)
 | .int a,.int b=>a == b
 | .str a,.str b=>a == b
 | _,_=>false
theorem eqAt_V {A:Around} {s:Shared} {y x:V} {u v:Value} (ry:RelV y u) (rx:RelV x v) (fy:flatV y = true) (fx:flatV x = true):SeqAt.EqAt A s u v (eqV y x):=by
 cases y with
 | non =>
  cases ry
  cases x with
  | non=>cases rx; exact SeqAt.EqAt.same _
  | bl b=>cases rx; exact SeqAt.EqAt.none_bool b
  | int b=>obtain ⟨t,rfl⟩:=rx; exact SeqAt.EqAt.none_int b t
  | str b=>obtain ⟨t,rfl⟩:=rx; exact SeqAt.EqAt.none_str b t
  | _=>exact absurd (show false = true from fx) Bool.false_ne_true
 | bl a =>
  cases ry
  cases x with
  | non=>cases rx; exact SeqAt.EqAt.bool_none a
  | bl b=>cases rx; exact SeqAt.EqAt.bool_bool a b
  | int b=>obtain ⟨t,rfl⟩:=rx; exact SeqAt.EqAt.bool_int a b t
  | str b=>obtain ⟨t,rfl⟩:=rx; exact SeqAt.EqAt.bool_str a b t
  | _=>exact absurd (show false = true from fx) Bool.false_ne_true
 | int a =>
  obtain ⟨t',rfl⟩:=ry
  cases x with
  | non=>cases rx; exact SeqAt.EqAt.int_none a t'
  | bl b=>cases rx; exact SeqAt.EqAt.int_bool a t' b
  | int b=>obtain ⟨t,rfl⟩:=rx; exact SeqAt.EqAt.int_int a t' b t
  | str b=>obtain ⟨t,rfl⟩:=rx; exact SeqAt.EqAt.int_str a t' b t
  | _=>exact absurd (show false = true from fx) Bool.false_ne_true
 | str a =>
  obtain ⟨t',rfl⟩:=ry
  cases x with
  | non=>cases rx; exact SeqAt.EqAt.str_none a t'
  | bl b=>cases rx; exact SeqAt.EqAt.str_bool a t' b
  | int b=>obtain ⟨t,rfl⟩:=rx; exact SeqAt.EqAt.str_int a t' b t
  | str b=>obtain ⟨t,rfl⟩:=rx; exact SeqAt.EqAt.str_str a t' b t
  | _=>exact absurd (show false = true from fx) Bool.false_ne_true
 | _=>exact absurd (show false = true from fy) Bool.false_ne_true
def eqU (x:V) (u:Value):Bool:=match u with
 | .none=>eqV .non x
 | .bool b=>eqV (.bl b) x
 | .int i _=>eqV (.int i) x
 | .str z _=>eqV (.str z) x
 | _=>false
theorem eqU_of {x y:V} {u:Value} (r:RelV y u) (f:flatV y = true):eqU x u = eqV y x:=by
 cases y with
 | non=>cases r; rfl
 | bl b=>cases r; rfl
 | int i=>obtain ⟨t,rfl⟩:=r; rfl
 | str z=>obtain ⟨t,rfl⟩:=r; rfl
 | _=>exact absurd (show false = true from f) Bool.false_ne_true
theorem any_eqU {x:V}:∀ {xs:List V} {us:List Value},Vals xs us→xs.all flatV = true→us.any (eqU x) = xs.any fun y=>eqV y x
 | _,_,.nil,_=>rfl
 | y :: xs,u :: us,.cons r t,f=>by
  rw [List.all_cons,Bool.and_eq_true] at f
  rw [List.any_cons,List.any_cons,eqU_of r f.1,any_eqU t f.2]
theorem mem_eqAt {A:Around} {s:Shared} {x:V} {v:Value} (rx:RelV x v) (fx:flatV x = true):∀ {xs:List V} {us:List Value},Vals xs us→xs.all flatV = true→∀ u ∈ us,SeqAt.EqAt A s u v (eqU x u)
 | _,_,.nil,_=>fun u hu=>by cases hu
 | y :: xs,u :: us,.cons r t,f=>fun u' hu=>by
  rw [List.all_cons,Bool.and_eq_true] at f
  rcases List.mem_cons.mp hu with rfl | hu
  ·rw [eqU_of r f.1]; exact eqAt_V r rx f.1 fx
  ·exact mem_eqAt rx fx t f.2 u' hu
def inV (x:V) (xs:List V):Bool:=xs.any fun y=>eqV y x
def rIn (K:PySem.W.Frag) (neg:Bool):R2:=fun x y H Q=>∃ p xs,y = .ref p∧(SqL K H p xs ∨ SqT K H p xs)∧flatV x = true∧xs.all flatV = true∧Q (.bl (if neg then !inV x xs else inV x xs)) H
theorem op_in_seq:OpR X (compareOp .In) (rIn X.K false):=by
 intro pins s σ H x y v u Q I rx ry h
 obtain ⟨p,xs,rfl,hq,fx,fs,q⟩:=h
 cases ry
 rcases hq with hq | hq
 ·obtain ⟨its,r,pl,hz⟩:=I.list hq
  refine SeqAt.in_listAt (eqU x) pl.isList (fun w hw=>mem_eqAt rx fx r fs w (by simpa using hw)) ⟨.bl _,H,I,rfl,?_⟩
  rw [show its.toArray.any (eqU x) = its.any (eqU x) by simp,any_eqU r fs]
  exact q
 ·obtain ⟨its,r,pl,hz⟩:=I.tuple hq
  refine SeqAt.in_tupleAt (eqU x) pl (fun w hw=>mem_eqAt rx fx r fs w (by simpa using hw)) ⟨.bl _,H,I,rfl,?_⟩
  rw [show its.toArray.any (eqU x) = its.any (eqU x) by simp,any_eqU r fs]
  exact q
theorem op_notIn_seq:OpR X (compareOp .NotIn) (rIn X.K true):=by
 intro pins s σ H x y v u Q I rx ry h
 obtain ⟨p,xs,rfl,hq,fx,fs,q⟩:=h
 cases ry
 rcases hq with hq | hq
 ·obtain ⟨its,r,pl,hz⟩:=I.list hq
  refine SeqAt.notIn_listAt (eqU x) pl.isList (fun w hw=>mem_eqAt rx fx r fs w (by simpa using hw)) ⟨.bl _,H,I,rfl,?_⟩
  rw [show its.toArray.any (eqU x) = its.any (eqU x) by simp,any_eqU r fs]
  exact q
 ·obtain ⟨its,r,pl,hz⟩:=I.tuple hq
  refine SeqAt.notIn_tupleAt (eqU x) pl (fun w hw=>mem_eqAt rx fx r fs w (by simpa using hw)) ⟨.bl _,H,I,rfl,?_⟩
  rw [show its.toArray.any (eqU x) = its.any (eqU x) by simp,any_eqU r fs]
  exact q
theorem call_len_seq:CallR X (.builtin "len") (fun xs H Q=>∃ p ys,xs = [.ref p]∧(SqL X.K H p ys ∨ SqT X.K H p ys)∧Q (.int ys.length) H):=by
 intro pins s σ H xs us Q I r h
 obtain ⟨p,ys,rfl,hq,q⟩:=h
 obtain ⟨u,rfl,rx⟩:=vals1 r
 cases rx
 have hn:=line63
 rcases hq with hq | hq
 ·obtain ⟨its,r',pl,hz⟩:=I.list hq
  have hlen:=r'.length
  exact Calls.call_len_list pl.isList (by simp only [List.size_toArray] <;> omega) ⟨.int ys.length,H,I.tok _,⟨s.toks + 1,by rw [List.size_toArray,hlen]⟩,q⟩
 ·obtain ⟨its,r',pl,hz⟩:=I.tuple hq
  have hlen:=r'.length
  exact len_tuple pl (by simp only [List.size_toArray] <;> omega) ⟨.int ys.length,H,I.tok _,⟨s.toks + 1,by rw [List.size_toArray,hlen]⟩,q⟩
theorem call_list_of:CallR X (.type "list") (fun xs H Q=>∃ p ys,xs = [.ref p]∧(SqL X.K H p ys ∨ SqT X.K H p ys)∧∀ l,H l = none→Q (.ref l) (upd H l (.lst ys))):=by
 intro pins s σ H xs us Q I r h
 obtain ⟨p,ys,rfl,hq,q⟩:=h
 obtain ⟨u,rfl,rx⟩:=vals1 r
 cases rx
 have fin:∀ (its:List Value),Vals ys its→ys.length ≤ sizeLine→∀ (h':Heap) (c':Nat),(∀ b o',s.heap.get? b = some o'→h'.get? b = some o') →
   h'.get? s.heap.objs.size = some { cls:=.type "list",dict:=none,data:=.seq its.toArray c',slots:=#[] }→EP X pins σ Q (.ref s.heap.objs.size) { s with heap:=h' }:=fun its r' hz h' c' kp e =>
  ⟨.ref s.heap.objs.size,_,I.laid (t':=s.toks) kp (Nat.le_refl _) (show ObjOk X.prog X.w _ h' _ (.lst ys) from ⟨hz,its,c',r',e⟩),rfl,q _ (I.hok.fresh (Nat.le_refl _))⟩
 rcases hq with hq | hq
 ·obtain ⟨its,r',pl,hz⟩:=I.list hq
  have hlen:=r'.length
  obtain ⟨o,ho,hc,n,hd⟩:=pl.isList
  exact call_list_seq p (.inl rfl) ho hc hd (fun h' c' kp e=>fin its r' hz h' c' kp e) (by simp only [List.size_toArray] <;> omega)
 ·obtain ⟨its,r',pl,hz⟩:=I.tuple hq
  have hlen:=r'.length
  obtain ⟨o,ho,hc,n,hd⟩:=pl
  exact call_list_seq p (.inr rfl) ho hc hd (fun h' c' kp e=>fin its r' hz h' c' kp e) (by simp only [List.size_toArray] <;> omega)
theorem call_tuple_of:CallR X (.type "tuple") (fun xs H Q=>∃ p ys,xs = [.ref p]∧((SqL X.K H p ys∧∀ l,H l = none→Q (.ref l) (upd H l (.tup ys))) ∨ (SqT X.K H p ys∧Q (.ref p) H))):=by
 intro pins s σ H xs us Q I r h
 obtain ⟨p,ys,rfl,h⟩:=h
 obtain ⟨u,rfl,rx⟩:=vals1 r
 cases rx
 rcases h with ⟨hq,q⟩ | ⟨hq,q⟩
 ·obtain ⟨its,r',pl,hz⟩:=I.list hq
  have hlen:=r'.length
  refine call_tuple_list pl.isList (fun h' kp=>?_) (by simp only [List.size_toArray] <;> omega)
  have I1:Inv X pins σ H { s with heap:=h' }:=I.kept (t':=s.toks) kp
  have I2:Inv X pins σ (upd H h'.objs.size (.tup ys)) { s with heap:=h'.push { cls:=.type "tuple",data:=.seq its.toArray } } :=
   I1.laid (t':=s.toks) (fun b o e=>Heap.get?_push_of_some _ e) (Nat.le_refl _) (show ObjOk X.prog X.w _ _ _ (.tup ys) from ⟨hz,its,r',IsTup.new _ _⟩)
  exact ⟨.ref h'.objs.size,_,I2,rfl,q _ (I1.hok.fresh (Nat.le_refl _))⟩
 ·obtain ⟨its,r',pl,hz⟩:=I.tuple hq
  exact call_tuple_same pl ⟨.ref p,H,I,rfl,q⟩
def tyV (K:PySem.W.Frag) (T:String) (x:V) (H:Hp):Prop:=match x with
 | .str _=>T = "str"
 | .int _=>T = "int"
 | .ref p=>(T = "list"∧∃ xs,SqL K H p xs) ∨ (T = "tuple"∧∃ o,K.lookup p = some o∧o.cls = .type "tuple"∧o.dict = none) ∨
   (T = "dict"∧((∃ kvs,H p = some (.dK kvs)) ∨ ∃ kvs,H p = some (.dT kvs))) ∨ (T = "set"∧∃ S n,H p = some (.set S n))
 | _=>False
theorem tyV_is {pins:List (Addr × Obj)} {σ:St} {H:Hp} {s:Shared} {T:String} {x:V} {v:Value} (I:Inv X pins σ H s) (r:RelV x v) (ty:tyV X.K T x H) :
  s.TypeIs v T∧∀ a,v = .ref a→∃ ob,s.heap.get? a = some ob∧ob.dict = none:=by
 cases x with
 | str z =>
  obtain ⟨t,rfl⟩:=r
  cases (show T = "str" from ty)
  exact ⟨typeIs_str s z t,fun _ e=>nomatch e⟩
 | int i =>
  obtain ⟨t,rfl⟩:=r
  cases (show T = "int" from ty)
  exact ⟨typeIs_int s i t,fun _ e=>nomatch e⟩
 | ref p =>
  cases r
  rcases ty with ⟨rfl,xs,hq⟩ | ⟨rfl,o,hk,hc,hd⟩ | ⟨rfl,hk⟩ | ⟨rfl,S,n,hk⟩
  ·obtain ⟨its,_,pl,_⟩:=I.list hq
   refine ⟨pl.isList.typeIs,fun a e=>?_⟩
   cases e
   obtain ⟨o,n,e,c,hd,_⟩:=pl
   exact ⟨o,e,hd⟩
  ·refine ⟨⟨o,I.kIn p o hk,hc⟩,fun a e=>?_⟩
   cases e
   exact ⟨o,I.kIn _ o hk,hd⟩
  ·have z:∃ o,s.heap.get? p = some o∧o.ExactDict:=by
    rcases hk with ⟨kvs,hk⟩ | ⟨kvs,hk⟩
    ·obtain ⟨_,_,_,_,o,_,_,e,ex,_⟩:=I.hok p _ hk
     exact ⟨o,e,ex⟩
    ·obtain ⟨_,_,_,_,o,_,_,e,ex,_⟩:=I.hok p _ hk
     exact ⟨o,e,ex⟩
   obtain ⟨o,e,ex⟩:=z
   refine ⟨⟨o,e,ex.1⟩,fun a e2=>?_⟩
   cases e2
   exact ⟨o,e,ex.2.1⟩
  ·obtain ⟨o,_,_,_,e,ex,_⟩:=I.hok p _ hk
   refine ⟨⟨o,e,ex.1⟩,fun a e2=>?_⟩
   cases e2
   exact ⟨o,e,ex.2.1⟩
 | _=>exact False.elim ty
def tBM0 (K:PySem.W.Frag) (T:String) (r:V→List V→Hp→VK→Prop) (to:TE):TE:=fun σ H Q=>to σ H fun x H1=>tyV K T x H1∧r x [] H1 Q
def tBM (K:PySem.W.Frag) (T:String) (r:V→List V→Hp→VK→Prop) (to:TE) (t:TA):TE:=fun σ H Q=>to σ H fun x H1=>tyV K T x H1∧t σ H1 fun xs H2=>r x xs H2 Q
variable {o e:Expr} {es:List Expr} {to:TE} {t:TA} {name:Str} {apos cpos:Pos} {T id:String} {r:V→List V→Hp→VK→Prop}
theorem pe_bm0 (pa:PlainAttrs T) (slot:Slot T name id) (hty:typeOf (.builtin id) = pure (.type "method_descriptor")) (hm:MtR X id r) (ho:PE X o to)
  (hbase:attributeBase o name X.env (eval o X.env) = eval o X.env:=by rfl) (hline:(apos.endLine == cpos.line) = true:=by rfl):PE X (.Call (.Attribute o name apos) [] [] cpos) (tBM0 X.K T r to):=by
 intro pins s σ H Q I h
 refine wpAny_Call_method0_late hbase hline (thn (ho pins s σ H _ I h) fun v s1 ⟨x,H1,I1,r1,ty,q1⟩=>?_)
 obtain ⟨h1,h2⟩:=tyV_is I1 r1 ty
 exact ⟨T,id,pa,slot,hty,h1,h2,Calls.callWith_builtin rfl (PySem.evalArgs_none (hm pins s1 σ H1 x [] v [] Q I1 r1 .nil q1))⟩
theorem pe_bm (pa:PlainAttrs T) (slot:Slot T name id) (hty:typeOf (.builtin id) = pure (.type "method_descriptor")) (hm:MtR X id r) (ho:PE X o to) (ha:PA X (e :: es) t)
  (hbase:attributeBase o name X.env (eval o X.env) = eval o X.env:=by rfl)
  (hfew:((backTo cpos (starEach (e :: es) X.env)).all (fun x=>!x.1) && (backToKw cpos (keywordEach [] X.env)).all (fun x=>x.1.isSome)
   && decide ((e :: es).length + ([]:List Keyword).length + (if ([]:List Keyword).isEmpty then 0 else 1) < 30)) = true:=by rfl)
  (hline:(apos.endLine == cpos.line) = true:=by rfl) (hs:starEach (e :: es) X.env = (false,eval e X.env) :: starEach es X.env:=by rfl) (hplain:(backTo cpos (starEach es X.env)).any (·.1) = false:=by rfl) :
  PE X (.Call (.Attribute o name apos) (e :: es) [] cpos) (tBM X.K T r to t):=by
 intro pins s σ H Q I h
 refine wpAny_Call_method_late hbase hfew hline rfl (thn (ho pins s σ H _ I h) fun v s1 ⟨x,H1,I1,r1,ty,q1⟩=>?_)
 obtain ⟨h1,h2⟩:=tyV_is I1 r1 ty
 refine ⟨T,id,pa,slot,hty,h1,h2,?_⟩
 have hA:=ha cpos pins s1 σ H1 _ I1 q1
 rw [hs] at hA ⊢
 refine Calls.callWith_builtin (by show (false || (backTo cpos (starEach es X.env)).any (·.1)) = false; rw [hplain] <;> rfl) (Calls.evalArgs_plain ?_)
 exact thn hA fun us s2 ⟨vs,H2,I2,r2,q2⟩=>hm pins s2 σ H2 x vs v us Q I2 r1 r2 q2
end
end L2
namespace L2
open PySem PySem.Spec PyProof.Rows
def MtM (X:Cx) (id:String) (r:V→List V→Hp→VK→Prop):Prop :=
 ∀ (pins:List (Addr × Obj)) (s:Shared) (σ:St) (H:Hp) (x:V) (xs:List V) (v:Value) (us:List Value) (Q:VK),Inv X pins σ H s→RelV x v→Vals xs us→r x xs H Q →
  wpAny (model X.prog X.w) X.A (call (.builtin id) (v :: us)) (EP X pins σ Q) X.xe s
theorem Vals.one:∀ {x:V} {us:List Value},Vals [x] us→∃ u,us = [u]∧RelV x u
 | _,_,.cons r .nil=>⟨_,rfl,r⟩
theorem Vals.two:∀ {x y:V} {us:List Value},Vals [x,y] us→∃ u v,us = [u,v]∧RelV x u∧RelV y v
 | _,_,_,.cons r (.cons q .nil)=>⟨_,_,rfl,r,q⟩
theorem Vals.zero:∀ {us:List Value},Vals [] us→us = []
 | _,.nil=>rfl
theorem Vals.dropLast {xs:List V} {us:List Value} (h:Vals xs us):Vals xs.dropLast us.dropLast:=by
 induction h with
 | nil=>exact .nil
 | cons r t ih =>
  cases t with
  | nil=>exact .nil
  | cons q t'=>exact .cons r ih
theorem Vals.reverse {xs:List V} {us:List Value} (h:Vals xs us):Vals xs.reverse us.reverse:=by
 induction h with
 | nil=>exact .nil
 | cons r t ih=>rw [List.reverse_cons,List.reverse_cons]; exact Vals.append ih (.cons r .nil)
theorem Vals.rep {xs:List V} {us:List Value} (h:Vals xs us):∀ k:Nat,Vals (List.replicate k xs).flatten (List.replicate k us).flatten
 | 0=>.nil
 | k + 1=>by
  rw [List.replicate_succ,List.replicate_succ,List.flatten_cons,List.flatten_cons]
  exact Vals.append h (Vals.rep h k)
theorem erase_last {α:Type} (l:List α):l.eraseIdx (l.length - 1) = l.dropLast:=by
 induction l with
 | nil=>rfl
 | cons a r ih =>
  cases r with
  | nil=>rfl
  | cons b r =>
   have e:(a :: b :: r).length - 1 = ((b :: r).length - 1) + 1:=by
    have h1:(a :: b :: r).length = r.length + 2:=rfl
    have h2:(b :: r).length = r.length + 1:=rfl
    omega
   rw [e,List.eraseIdx_cons_succ,ih]
   all_goals rfl
theorem foldl_rep (its:List Value):∀ (k:Nat) (acc:List Value),
  List.foldl (fun x1 x2=>x1 ++ x2) acc.toArray (List.replicate k its.toArray) = (acc ++ (List.replicate k its).flatten).toArray
 | 0,acc=>by simp
 | k + 1,acc=>by
  have e:acc.toArray ++ its.toArray = (acc ++ its).toArray:=by simp
  have e2:(acc ++ its) ++ (List.replicate k its).flatten = acc ++ (List.replicate (k + 1) its).flatten:=by
   rw [List.replicate_succ,List.flatten_cons,List.append_assoc]
  rw [← e2,← foldl_rep its k (acc ++ its),← e,List.replicate_succ,List.foldl_cons]
section
variable {X:Cx} {pins:List (Addr × Obj)} {σ:St} {H:Hp} {s:Shared} {l b:Addr} {xs ys zs:List V}
theorem Inv.lset {its its':List Value} {n:Nat} {f:Array Value→Array Value} {t':Nat} (I:Inv X pins σ H s) (hH:H l = some (.lst xs))
  (e:s.heap.get? l = some { cls:=.type "list",data:=.seq its.toArray n }) (hf:f its.toArray = its'.toArray) (hv:Vals ys its') (hz:ys.length ≤ sizeLine) :
  Inv X pins σ (upd H l (.lst ys)) { s with heap:=s.heap.update l (Obj.mapSeq f),toks:=t' }:=by
 have q:=PySem.IsL.update e f
 rw [hf] at q
 refine I.write (x:=l) (e:=l) (by rw [hH]; exact trivial) (.inl rfl) (fun b' u hb hu=>(Heap.get?_update_other s.heap (Obj.mapSeq f) (Ne.symm hb)).trans hu) ⟨_,q⟩ ?_
 exact ⟨hz,its',_,hv,q⟩
theorem Inv.lnew {its:List Value} {t':Nat} (I:Inv X pins σ H s) (hv:Vals ys its) (hz:ys.length ≤ sizeLine) :
  Inv X pins σ (upd H s.heap.objs.size (.lst ys)) { s with heap:=s.heap.push { cls:=.type "list",data:=.seq its.toArray },toks:=t' } :=
 I.laid (fun _ _ q=>Heap.get?_push_of_some _ q) (Nat.le_refl _) ⟨hz,its,0,hv,Heap.get?_push_size _ rfl⟩
theorem Inv.fresh (I:Inv X pins σ H s):H s.heap.objs.size = none:=I.hok.fresh (Nat.le_refl _)
theorem Inv.lstM (I:Inv X pins σ H s) (hH:H l = some (.lst xs)):xs.length ≤ sizeLine∧∃ (its:List Value) (n:Nat),Vals xs its∧xs.length = its.length∧s.heap.get? l = some { cls:=.type "list",data:=.seq its.toArray n }:=by
 obtain ⟨z,its,n,r,e⟩:=I.hok l _ hH
 exact ⟨z,its,n,r,r.length,e⟩
theorem notLongL {n:Nat} (h:n ≤ sizeLine):Builtin.List.listTooLong n = false:=by
 unfold Builtin.List.listTooLong
 exact decide_eq_false (by omega)
end
section
variable {X:Cx}
def rAppend:V→List V→Hp→VK→Prop:=fun x vs H Q=>∃ l xs y,x = .ref l∧vs = [y]∧H l = some (.lst xs)∧xs.length < sizeLine∧Q .non (upd H l (.lst (xs ++ [y])))
theorem mt_append:MtM X "list.append" rAppend:=by
 intro pins s σ H x vs v us Q I rx rv h
 obtain ⟨l,xs,y,rfl,rfl,hH,hz,q⟩:=h
 cases rx
 obtain ⟨u,rfl,ru⟩:=rv.one
 obtain ⟨z,its,n,r,hl,e⟩:=I.lstM hH
 refine call_meets F.slot_list_append ⟨_,e,rfl⟩ F.entry_list_append (F.args_list_append_2 _ _) (PySem.list_append l its.toArray n u (by rw [List.size_toArray]; omega)) ⟨e,?_⟩
 refine ⟨.non,_,I.lset (its':=its ++ [u]) hH e (by simp) (r.append (.cons ru .nil)) ?_,rfl,q⟩
 rw [List.length_append,List.length_singleton]
 omega
def rExtend:V→List V→Hp→VK→Prop:=fun x vs H Q=>∃ l b xs zs,x = .ref l∧vs = [.ref b]∧H l = some (.lst xs)∧H b = some (.lst zs)∧xs.length + zs.length ≤ sizeLine∧Q .non (upd H l (.lst (xs ++ zs)))
theorem mt_extend:MtM X "list.extend" rExtend:=by
 intro pins s σ H x vs v us Q I rx rv h
 obtain ⟨l,b,xs,zs,rfl,rfl,hH,hB,hz,q⟩:=h
 cases rx
 obtain ⟨u,rfl,ru⟩:=rv.one
 cases ru
 obtain ⟨z,its,n,r,hl,e⟩:=I.lstM hH
 obtain ⟨z2,its2,n2,r2,hl2,e2⟩:=I.lstM hB
 have hsz:its.toArray.size + its2.toArray.size ≤ sizeLine:=by rw [List.size_toArray,List.size_toArray]; omega
 have hlong:¬ (!its.toArray.isEmpty && Builtin.List.listTooLong (its.toArray.size + its2.toArray.size)) = true:=by
  rw [notLongL hsz,Bool.and_false]
  exact Bool.false_ne_true
 refine call_meets F.slot_list_extend ⟨_,e,rfl⟩ F.entry_list_extend (F.args_list_extend_2 _ _)
  (AutoSeq1.list_extend_list_list_0 l its.toArray n b its2.toArray n2 hlong (by rw [List.size_toArray]; omega) (by omega)) ⟨e,e2,?_⟩
 refine ⟨.non,_,I.lset (its':=its ++ its2) hH e (by simp) (r.append r2) ?_,rfl,q⟩
 rw [List.length_append]
 omega
def rPop:V→List V→Hp→VK→Prop:=fun x vs H Q=>∃ l xs y,x = .ref l∧vs = []∧H l = some (.lst xs)∧xs[xs.length - 1]? = some y∧Q y (upd H l (.lst xs.dropLast))
theorem mt_pop:MtM X "list.pop" rPop:=by
 intro pins s σ H x vs v us Q I rx rv h
 obtain ⟨l,xs,y,rfl,rfl,hH,hy,q⟩:=h
 cases rx
 have hus:=rv.zero
 subst hus
 obtain ⟨z,its,n,r,hl,e⟩:=I.lstM hH
 obtain ⟨u,hu,ru⟩:=r.get hy
 have hy':its.toArray[its.toArray.size - 1]? = some u:=by
  show its.toArray[its.length - 1]? = some u
  rw [← Array.getElem?_toList,← hl]
  exact hu
 refine call_meets F.slot_list_pop ⟨_,e,rfl⟩ F.entry_list_pop (F.args_list_pop_1 _) (MeetsSeq.list_pop_last l its.toArray n u hy' (by rw [List.size_toArray]; omega)) ⟨e,?_⟩
 refine ⟨y,_,I.lset (its':=its.dropLast) hH e ?_ r.dropLast ?_,ru,q⟩
 ·show its.toArray.eraseIdxIfInBounds (its.toArray.size - 1) = its.dropLast.toArray
  rw [List.size_toArray,List.eraseIdxIfInBounds_toArray,erase_last]
 ·rw [List.length_dropLast]
  omega
def rReverse:V→List V→Hp→VK→Prop:=fun x vs H Q=>∃ l xs,x = .ref l∧vs = []∧H l = some (.lst xs)∧Q .non (upd H l (.lst xs.reverse))
theorem mt_reverse:MtM X "list.reverse" rReverse:=by
 intro pins s σ H x vs v us Q I rx rv h
 obtain ⟨l,xs,rfl,rfl,hH,q⟩:=h
 cases rx
 have hus:=rv.zero
 subst hus
 obtain ⟨z,its,n,r,hl,e⟩:=I.lstM hH
 refine call_meets F.slot_list_reverse ⟨_,e,rfl⟩ F.entry_list_reverse (F.args_list_reverse_1 _) (AutoSeq1.list_reverse_list_0 l its.toArray n (by rw [List.size_toArray]; omega)) ⟨e,?_⟩
 refine ⟨.non,_,I.lset (its':=its.reverse) hH e (by simp) r.reverse ?_,rfl,q⟩
 rw [List.length_reverse]
 omega
def rClear:V→List V→Hp→VK→Prop:=fun x vs H Q=>∃ l xs,x = .ref l∧vs = []∧H l = some (.lst xs)∧Q .non (upd H l (.lst []))
theorem mt_clear:MtM X "list.clear" rClear:=by
 intro pins s σ H x vs v us Q I rx rv h
 obtain ⟨l,xs,rfl,rfl,hH,q⟩:=h
 cases rx
 have hus:=rv.zero
 subst hus
 obtain ⟨z,its,n,r,hl,e⟩:=I.lstM hH
 refine call_meets F.slot_list_clear ⟨_,e,rfl⟩ F.entry_list_clear (F.args_list_clear_1 _) (AutoSeq1.list_clear_list_0 l its.toArray n (by rw [List.size_toArray]; omega)) ⟨e,?_⟩
 exact ⟨.non,_,I.lset (its':=[]) (ys:=[]) hH e rfl .nil (Nat.zero_le _),rfl,q⟩
def rCat:R2:=fun x y H Q=>∃ l b xs zs,x = .ref l∧y = .ref b∧H l = some (.lst xs)∧H b = some (.lst zs)∧xs.length + zs.length ≤ sizeLine∧∀ p,H p = none→Q (.ref p) (upd H p (.lst (xs ++ zs)))
theorem op_cat:OpR X (binaryOp .Add) rCat:=by
 intro pins s σ H x y v u Q I rx ry h
 obtain ⟨l,b,xs,zs,rfl,rfl,hH,hB,hz,q⟩:=h
 cases rx
 cases ry
 obtain ⟨z,its,n,r,hl,e⟩:=I.lstM hH
 obtain ⟨z2,its2,n2,r2,hl2,e2⟩:=I.lstM hB
 refine PySem.P.add_list e e2 ?_ (by rw [List.size_toArray,List.size_toArray]; omega)
 have ea:its.toArray ++ its2.toArray = (its ++ its2).toArray:=by simp
 rw [ea]
 exact ⟨.ref _,_,I.lnew (t':=s.toks) (r.append r2) (by rw [List.length_append]; omega),rfl,q _ I.fresh⟩
def rRep:R2:=fun x y H Q=>∃ l k xs,x = .ref l∧y = .int k∧H l = some (.lst xs)∧-(2 ^ 63) ≤ k∧k < 2 ^ 63∧xs.length * k.toNat ≤ sizeLine ∧
 ∀ p,H p = none→Q (.ref p) (upd H p (.lst (List.replicate k.toNat xs).flatten))
theorem len_rep {α:Type} (xs:List α) (k:Nat):(List.replicate k xs).flatten.length = k * xs.length:=by
 induction k with
 | zero=>simp
 | succ k ih=>rw [List.replicate_succ,List.flatten_cons,List.length_append,ih,Nat.succ_mul,Nat.add_comm]
theorem op_rep:OpR X (binaryOp .Mult) rRep:=by
 intro pins s σ H x y v u Q I rx ry h
 obtain ⟨l,k,xs,rfl,rfl,hH,h1,h2,hz,q⟩:=h
 cases rx
 obtain ⟨t,rfl⟩:=ry
 obtain ⟨z,its,n,r,hl,e⟩:=I.lstM hH
 have hlen:its.toArray.size * k.toNat ≤ sizeLine:=by rw [List.size_toArray,← hl]; exact hz
 have hcap:¬ its.toArray.size * k.toNat > (2 ^ 63 - 1) / 8:=by
  have:(sizeLine:Nat) ≤ (2 ^ 63 - 1) / 8:=by decide
  omega
 have hfit:¬ (!Builtin.List.listFitsIndex k) = true:=by
  rw [fitsIndex_both h1 h2]
  exact Bool.false_ne_true
 have hlong:¬ Builtin.List.listTooLong (its.toArray.size * k.toNat) = true:=by
  rw [notLongL hlen]
  exact Bool.false_ne_true
 have hnew:List.foldl (fun x1 x2=>x1 ++ x2) #[] (List.replicate (if its.toArray.isEmpty = true then 0 else k.toNat) its.toArray) = (List.replicate k.toNat its).flatten.toArray:=by
  have f0:∀ m:Nat,List.foldl (fun x1 x2=>x1 ++ x2) #[] (List.replicate m its.toArray) = (List.replicate m its).flatten.toArray:=fun m=>by
   have:=foldl_rep its m []
   rw [List.nil_append] at this
   exact this
  rw [f0]
  cases its with
  | nil=>simp
  | cons a r'=>rw [if_neg (by simp)]
 refine wpAny_binaryOp_repeat_ref (T:="list") (U:="int") (by decide) ⟨_,e,rfl⟩ (fun s'=>typeIs_int s' k t) noFill_list_mul F.fills_int_mul F.slot_int_rmul repeat_list F.slot_int_index.lookup
  (call_meets F.slot_int_rmul (typeIs_int s k t) F.entry_int_rmul (F.args_int_rmul_2 _ _) (int___rmul___int_list k t l its.toArray n)
   ⟨e,rfl,⟨_,e,rfl⟩,call_meets F.slot_list_mul ⟨_,e,rfl⟩ F.entry_list_mul (F.args_list_mul_2 _ _) (AutoListH.list___mul___list_int_3 l its.toArray n k t hfit hcap hlong) ⟨e,?_⟩⟩)
 rw [hnew]
 exact ⟨.ref _,_,I.lnew (t':=s.toks) (r.rep k.toNat) (by rw [len_rep,Nat.mul_comm]; exact hz),rfl,q _ I.fresh⟩
end
section
variable {prog:Program} {w:World} {A:Around} {E:Value→Shared→Prop} {s:Shared}
set_option maxRecDepth 100000 in
end
section
variable {X:Cx}
end
end L2
namespace Att
open PySem PySem.W PySem.Calls PyProof.Rows
theorem ints_of_wellAll {P:Params} {h:Heap}:∀ (ns:List Int) (vs:List Value),WellAll P h vs (ns.map WData.int)→IntsAre vs ns:=by
 intro ns
 induction ns with
 | nil =>
  intro vs w
  rw [List.map_nil] at w
  cases w
  exact .nil
 | cons n ns ih =>
  intro vs w
  rw [List.map_cons] at w
  cases w with
  | cons a b =>
   cases a
   exact .cons _ _ (ih _ b)
theorem script_of {l:OpenLaw} {n:Nat} (hn:l.most = some n) {P:Params} {h:Heap} {args:List WData} {vals:List Value}
  (hpre:l.row.toRowW.claim.pre args = true) (hwl:WellAll P h vals args) :
  ∃ a vs ns,vals = [Value.ref a]∧args = [WData.list (ns.map WData.int)]∧h.get? a = some { cls:=.type "list",data:=.seq vs.toArray }∧IntsAre vs ns∧ns.length ≤ n:=by
 have hsh:WShape.hasAll [] args [.list .int] = true:=(pre_splitW hpre).1
 have hc:l.pre.holds [] { args:=args } = true:=(pre_splitW hpre).2
 obtain ⟨d,r,rfl,h1,h2⟩:=hasAllW_cons hsh
 obtain rfl:=hasAllW_nil h2
 obtain ⟨xs,rfl,h3⟩:=hasW_list h1
 obtain ⟨ns,rfl⟩:=items_int h3
 have hlen:ns.length ≤ n:=by
  unfold OpenLaw.pre at hc
  have h4:(WTm.not (.lt (.lit (.int (n:Int))) (.len (.arg 0)))).holds [] { args:=[.list (ns.map .int)] } = true:=by
   have h4:=(holds_andW hc).1
   rw [hn] at h4
   exact h4
  have h5:=condW_of h4 (w_not (w_lt w_lit (w_len_list (w_arg rfl))))
  rw [List.length_map] at h5
  refine Nat.le_of_not_lt fun q=>?_
  have q':(n:Int) < ((ns.length:Nat):Int):=by omega
  first
   | (rw [decide_eq_true q'] at h5; exact absurd h5 (by decide))
   | (simp at h5; omega)
 cases hwl with
 | cons w1 w2 =>
  cases w2
  cases w1 with
  | list ho hall=>exact ⟨_,_,ns,rfl,rfl,ho,ints_of_wellAll ns _ hall,hlen⟩
theorem post_true (l:OpenLaw) (args:List WData):l.row.toRowW.claim.post args (.bool true) args = true :=
 postW_of (r:=l.row.toRowW) (X:=(true == true))
  (show WShape.has [] (.bool true) .bool = true by first | rfl | decide | simp [WShape.has,WShape.arms,WShape.armsAll])
  (show (WTm.eq .res (.lit (.bool true))).value [] { args:=args,res:=some (.bool true),after:=args } = some (.bool (true == true)) from w_eq_bool (w_res rfl) w_lit) rfl
theorem attach_call {l:OpenLaw} {n:Nat} {q:Program} {loose:List Str} {XP:(Str→Option Value)→Heap→Prop} {YP:World→Heap→Prop} {d:DefRec}
  (hn:l.most = some n) (hdf:d.params.defaults = [])
  (call:∀ (w:World) (s₀ s₁:Shared) (mg mb:Str→Option Value) (fa:Addr) (o:Obj) (pm cd doc:Value) (a:Addr) (vs:List Value) (ns:List Int),
   Ground q loose [] XP w s₀ mg mb s₁.heap→YP w s₁.heap →
   s₁.heap.get? fa = some o→o.data = .func (docDef d.name d.params d.body d.scope pm cd doc)→s₁.heap.CodeRec cd d.name→mg d.name = some (.ref fa) →
   s₁.heap.get? a = some { cls:=.type "list",data:=.seq vs.toArray }→IntsAre vs ns→ns.length ≤ n→s₁.gens = #[] →
   codeAny (model l.prog w) callerA (.call (.ref fa) ⟨[.ref a],[]⟩) (fun r s'=>r = .ok (.ret (.bool true))∧OldK s₁.heap s'.heap∧s'.os = s₁.os∧AllBare s'.gens) s₁) :
  WalkO q loose XP YP l.row.toRowW d [] (fun f vs=>PySem.call f vs):=by
 intro w s₀ s₁ mg mb G Y fa o pm cd doc dV kV ho hd hcd hD hmg hg args vals as hpre hlay hrd hwl hlo
 obtain rfl:dV = .none:=Dflts.none hD hdf
 obtain rfl:kV = .none:=Dflts.noKw hD
 obtain ⟨a,vs,ns,rfl,rfl,hobj,hints,hlen⟩:=script_of hn hpre hwl
 refine enter_call (codeAny_mono (call w s₀ s₁ mg mb fa o pm cd doc a vs ns G Y ho (fd_plain hd) hcd hmg hobj hints hlen hg) fun r s' hq=>?_)
 obtain ⟨rfl,h2,h3,h4⟩:=hq
 exact ⟨.inl ⟨.bool true,.bool true,[],rfl,fun _=>rfl,.bool true,post_true l _,fun _=>⟨List.Pairwise.nil,fun _ hm=>(nomatch hm)⟩⟩,h2,h3,h4⟩
section
variable {prog:Program} {w:World} {A:Around} {E:Value→Shared→Prop} {s:Shared} {K:Frag}
end
end Att
namespace L2
open PySem PySem.Spec PyProof.Rows
theorem vals_ints:∀ {vs:List Value} {ns:List Int},IntsAre vs ns→Vals (ns.map V.int) vs
 | _,_,.nil=>.nil
 | _,_,.cons n t h=>.cons ⟨t,rfl⟩ (vals_ints h)
def Only (H:Hp):Prop:=∀ b,H b = none ∨ ∃ o xs,H b = some (.frz o (.lst xs))
theorem law_call {P:Program} {w:World} {K:PySem.W.Frag} {mg mb:Str→Option Value} {CX:CXT} {k:Nat} {fa a:Addr} {fd:FuncData} {x:Str} {sp:Sp} {s₁:Shared} {vs:List Value} {ns:List Int}
  (KX:K.In s₁.heap) (hns:s₁.heap.Ns mainGlobals mg) (hb:s₁.heap.Ns builtinsNs mb) (hbb:∀ x:Str,x ≠ "__name__"→mb x = bootBuiltins x) (hlim:s₁.heap.NoLimit) (hg:s₁.gens = #[])
  (ha:s₁.heap.get? a = some { cls:=.type "list",data:=.seq vs.toArray }) (hi:IntsAre vs ns) (hl:ns.length ≤ sizeLine) (hr:Room k callerA)
  (F:∀ base:Heap,K.In base→base.Ns mainGlobals mg→FnOk P w K mg base CX k fa fd [x] sp) (hbind:∀ (s:Shared) (u:Value),BindsTo s fd ⟨[u],[]⟩ [(x,u)])
  (hsp:∀ H:Hp,Only H→SqL K H a (ns.map V.int)→sp [.ref a] H (fun v _=>v = .bl true) fun _ _ _=>False)
  (hCX:∀ H e s',CX [] H s₁ (fun _ _ _=>False) e s'→False) :
  codeAny (model P w) callerA (.call (.ref fa) ⟨[.ref a],[]⟩) (fun r s'=>r = .ok (.ret (.bool true))∧OldK s₁.heap s'.heap∧s'.os = s₁.os∧AllBare s'.gens) s₁:=by
 have rv:=vals_ints hi
 have lenV:=hi.length
 have core:∀ H:Hp,Only H→SqL K H a (ns.map V.int)→HOk P w H s₁.heap→(∀ b,H b ≠ none→b = a)→(H a ≠ none→K.lookup a = none) →
   codeAny (model P w) callerA (.call (.ref fa) ⟨[.ref a],[]⟩) (fun r s'=>r = .ok (.ret (.bool true))∧OldK s₁.heap s'.heap∧s'.os = s₁.os∧AllBare s'.gens) s₁:=by
  intro H hO hS hok hA hK
  have base_of:∀ {b:Addr} {o:Obj},s₁.heap.get? b = some o→H b = none→(hidT s₁.heap H).get? b = some o:=fun e n=>hidT_get e n
  have noA:∀ {b:Addr} {o:Obj} {es:Array DictEntry} {ep:Nat},s₁.heap.get? b = some o→o.data = .dict es ep→H b = none:=fun {b o es ep} e d=>by
   cases q:H b with
   | none=>rfl
   | some u =>
    have e':b = a:=hA b (by rw [q]; simp)
    subst e'
    rw [ha] at e; cases e
    have d':Data.seq vs.toArray _ = Data.dict es ep:=d
    cases d'
  have nsK:∀ {b:Addr} {m:Str→Option Value},s₁.heap.Ns b m→(hidT s₁.heap H).Ns b m:=fun {b m} ⟨o,es,ep,e,d,r⟩=>⟨o,es,ep,base_of e (noA e d),d,r⟩
  have hKb:K.In (hidT s₁.heap H):=fun b o e=>base_of (KX b o e) (by
   cases q:H b with
   | none=>rfl
   | some u =>
    have e':b = a:=hA b (by rw [q]; simp)
    subst e'
    rw [hK (by rw [q]; simp)] at e; cases e)
  have hM:Mod K mg (hidT s₁.heap H):=⟨hKb,nsK hns,⟨mb,nsK hb,hbb⟩,let ⟨mc,h1,h2⟩:=hlim; ⟨mc,nsK h1,h2⟩⟩
  have e0:Env0 P w K mg (hidT s₁.heap H) callerA [] s₁ H:=⟨rfl,hM,fun b o e=>of_hidT e,Nat.le_of_eq (hidT_size _ _),trivial,fun b hb=>absurd (show b ∈ ([]:List Addr) from hb) (by simp),hok,.of_eq hg⟩
  refine codeAny_mono ((F _ hKb (nsK hns)).run callerA [] s₁ H ⟨[.ref a],[]⟩ [.ref a] [.ref a] _ _ hr e0 (hbind s₁ (.ref a)) (.cons rfl .nil) (hsp H hO hS)) fun r s' h=>?_
  cases r with
  | error e=>exact (hCX H e s' h).elim
  | ok fl =>
   cases fl with
   | next=>exact False.elim h
   | brk=>exact False.elim h
   | cont=>exact False.elim h
   | ret u =>
    obtain ⟨v,H',os,bare,un,hok',r',q⟩:=h
    have q':v = .bl true:=q
    subst q'
    obtain rfl:u = Value.bool true:=r'
    refine ⟨rfl,OldK.of_keep fun b o e=>?_,os,bare⟩
    cases q:H b with
    | none=>exact un.keep b o e q (by intro z; exact absurd (show b ∈ ([]:List Addr) from z) (by simp)) (by simp)
    | some u =>
     rcases hO b with z | ⟨ob,xs,z⟩
     ·rw [q] at z; cases z
     ·have z2:=un.frzs b ob _ z
      obtain ⟨e1,_⟩:=hok b _ z
      obtain ⟨e2,_⟩:=hok' b _ z2
      rw [e] at e1; cases e1
      exact e2
 cases hk:K.lookup a with
 | some o =>
  have e:=KX a o hk
  rw [ha] at e
  cases e
  refine core (fun _=>none) (fun _=>.inl rfl) (.inr ⟨_,vs.toArray,_,hk,rfl,rfl,rfl,by rw [List.size_toArray,lenV]; exact hl,by simpa using rv⟩) (fun b u z=>by have z':(none:Option HO) = some u:=z; cases z') (fun b z=>absurd rfl z) fun z=>absurd rfl z
 | none =>
  refine core (fun b=>if b = a then some (.frz { cls:=.type "list",data:=.seq vs.toArray } (.lst (ns.map V.int))) else none) (fun b=>?_) (.inl (.inr ⟨{ cls:=.type "list",data:=.seq vs.toArray },if_pos rfl⟩)) (fun b u z=>?_) (fun b z=>?_) fun _=>hk
  ·by_cases hb:b = a
   ·exact .inr ⟨_,_,if_pos hb⟩
   ·exact .inl (if_neg hb)
  ·by_cases hb:b = a
   ·have z':=(if_pos hb).symm.trans z
    cases z'
    subst hb
    exact ⟨ha,by rw [List.length_map]; exact hl,vs,_,rv,ha⟩
   ·have z':=(if_neg hb).symm.trans z
    cases z'
  ·by_cases hb:b = a
   ·exact hb
   ·exact absurd (if_neg hb) z
end L2
namespace L2
open PySem PySem.Spec PyProof.Rows
theorem walk_of {l:PySem.W.OpenLaw} {n k:Nat} {q:Program} {loose:List Str} {XP:(Str→Option Value)→Heap→Prop} {YP:World→Heap→Prop} {d:DefRec} {K:Params→PySem.W.Frag} {CX:World→CXT} {sp:World→Sp} {x:Str}
  (hn:l.most = some n) (hn2:n ≤ sizeLine) (hdf:d.params.defaults = []) (hr:Room k callerA)
  (hY:∀ (w:World) (h:Heap),YP w h→(K w.params).In h)
  (F:∀ (w:World) (mg:Str→Option Value) (fa:Addr) (h:Heap),(K w.params).In h→h.Ns mainGlobals mg→mg d.name = some (.ref fa) →
   ∃ fd:FuncData,(∀ (s:Shared) (u:Value),BindsTo s fd ⟨[u],[]⟩ [(x,u)]) ∧
    ∀ base:Heap,(K w.params).In base→base.Ns mainGlobals mg→FnOk l.prog w (K w.params) mg base (CX w) k fa fd [x] (sp w))
  (hsp:∀ (w:World) (H:Hp) (a:Addr) (ns:List Int),ns.length ≤ n→Only H→SqL (K w.params) H a (ns.map V.int)→sp w [.ref a] H (fun v _=>v = .bl true) fun _ _ _=>False)
  (hCX:∀ (w:World) (H:Hp) (s:Shared) (e:Value) (s':Shared),CX w [] H s (fun _ _ _=>False) e s'→False) :
  PySem.W.WalkO q loose XP YP l.row.toRowW d [] (fun f vs=>PySem.call f vs):=by
 refine Att.attach_call hn hdf fun w s₀ s₁ mg mb fa o pm cd doc a vs ns G Y ho hd hcd hmg hobj hints hlen hg=>?_
 have KX:=hY w _ Y
 obtain ⟨fd,hb,hF⟩:=F w mg fa _ KX G.T.g hmg
 exact law_call KX G.T.g G.T.b G.T.builtins G.T.nolimit hg hobj hints (Nat.le_trans hlen hn2) hr hF hb (fun H hO hS=>hsp w H a ns hlen hO hS) fun H e s'=>hCX w H s₁ e s'
end L2
namespace L2
open PySem PySem.Spec PyProof.Rows
def defArgs (s:Stmt):Arguments:=match s with
 | .FunctionDef _ a _ _ _ _ _ _ _ _=>a
 | _=>{ posonlyargs:=[],args:=[],vararg:=none,kwonlyargs:=[],kw_defaults:=[],kwarg:=none,defaults:=[] }
def defBody (s:Stmt):List Stmt:=match s with
 | .FunctionDef _ _ b _ _ _ _ _ _ _=>b
 | _=>[]
def defScope (s:Stmt):Scope:=match s with
 | .FunctionDef _ _ _ _ _ _ sc _ _ _=>sc
 | _=>{ kind:=.function,names:=[],isGenerator:=false,isCoroutine:=false }
abbrev CX0:CXT:=fun _ _ _ _ _ _=>False
abbrev E0:XK:=fun _ _ _=>False
theorem pass0 {X:Cx}:Passes CX0 X E0:=fun _ _ _ _ _ _ _ h=>h.elim
structure Fun (K:PySem.W.Frag) (x qual:Str) (st:Stmt) (f:Addr) (fd:FuncData):Prop where
 ex:∃ (oc:Value) (od:Option Addr) (kV doc pm:Value) (an:Option Addr) (cdv ct:Value) (osl:Array (Option Value)),
  fd = PySem.W.fnOf x qual (defArgs st) (defBody st) (defScope st) .none kV doc pm an cdv ct∧K.lookup f = some ⟨oc,od,.func fd,osl⟩∧PySem.W.codeIn K cdv qual = true
 kp:PySem.W.keepIn K (.ref f) = true
section
variable {P:Program} {w:World} {K:PySem.W.Frag} {mg:Str→Option Value} {base:Heap}
theorem Fun.ok {x qual:Str} {st:Stmt} {f:Addr} {fd:FuncData} {N ps:List Str} {k:Nat} {sp:Sp} (F:Fun K x qual st f fd) (S:FnScope N ps (defScope st)) (len:∀ vs H Q E,sp vs H Q E→vs.length = ps.length)
  (hbody:∀ (cdv:Value) (A:Around) (outer:List Env) (s:Shared) (H:Hp) (vs:List V) (Q:VK) (E:XK),Room k (A.deeper (envOfC qual (defScope st) s.heap.objs.size f cdv))→sp vs H Q E →
   ∃ t,PSs (cxOf CX0 P w K mg base N qual (defScope st) f cdv A outer s H E).nox (defBody st) t∧t { nx:=fun _ H'=>Q .non H',rt:=Q } (start N vs) H):FnOk P w K mg base CX0 (k + 1) f fd ps sp:=by
 obtain ⟨oc,od,kV,doc,pm,an,cdv,ct,osl,rfl,lk,hcd⟩:=F.ex
 refine fn_of lk hcd S len fun A outer s H vs Q E hr hsp=>?_
 obtain ⟨t,h,q⟩:=hbody cdv A outer s H vs Q E hr hsp
 exact ⟨t,h.nox,q⟩
theorem Fun.binds {x qual:Str} {st:Stmt} {f:Addr} {fd:FuncData} {ps:List Str} (F:Fun K x qual st f fd)
  (h:∀ (kV doc pm:Value) (an:Option Addr) (cdv ct:Value) (us:List Value),us.length = ps.length→bindArgs (PySem.W.fnOf x qual (defArgs st) (defBody st) (defScope st) .none kV doc pm an cdv ct) ⟨us,[]⟩ = pure (ps.zip us)):Binds K fd ps []:=by
 obtain ⟨oc,od,kV,doc,pm,an,cdv,ct,osl,rfl,lk,hcd⟩:=F.ex
 exact .all (h kV doc pm an cdv ct)
theorem fun_mk {x qual:Str} {st:Stmt} {f:Addr} {oc:Value} {od an:Option Addr} {osl:Array (Option Value)} {kV doc pm cdv ct:Value} (l:K.lookup f = some ⟨oc,od,.func (PySem.W.fnOf x qual (defArgs st) (defBody st) (defScope st) .none kV doc pm an cdv ct),osl⟩)
  (c:PySem.W.codeIn K cdv qual = true) (k:PySem.W.keepIn K (.ref f) = true):Fun K x qual st f (PySem.W.fnOf x qual (defArgs st) (defBody st) (defScope st) .none kV doc pm an cdv ct):=⟨⟨oc,od,kV,doc,pm,an,cdv,ct,osl,rfl,l,c⟩,k⟩
end
theorem hu_of {A:Around} {k:Nat} (hr:Room k A):A.units + 1 < cLine:=Nat.lt_of_le_of_lt (Nat.add_le_add_left (by decide:1 ≤ 64) _) hr.units
section
variable {X:Cx}
theorem pv (i:Nat) {x:Str} {pos:Pos} (hN:X.N[i]? = some x:=by rfl) (hv:Vis X.env.scope x:=by first | exact Or.inl rfl | exact Or.inr (Or.inl rfl) | exact Or.inr (Or.inr rfl)) (hd:(x == ("__debug__":Str)) = false:=by decide)
  (hcd:(x == ("__classdict__":Str)) = false:=by decide):PE X (.Name x pos) (tVar i):=pe_var hN hv hd hcd
end
theorem iteF {A B:Prop} (h:B):if false = true then A else B:=by
 rw [if_neg Bool.false_ne_true]
 exact h
theorem iteT {A B:Prop} (h:A):if true = true then A else B:=by
 rw [if_pos rfl]
 exact h
theorem ite2 {c A B:Prop} [Decidable c] (h1:c→A) (h2:¬ c→B):if c then A else B:=by
 by_cases h:c
 ·rw [if_pos h]
  exact h1 h
 ·rw [if_neg h]
  exact h2 h
theorem iteNS {c A B:Prop} [Decidable c] (hc:c) (h:B):if (!decide c) = true then A else B:=by
 rw [decide_eq_true hc]
 exact iteF h
def Same (H H':Hp):Prop:=∀ b o,H b = some o→H' b = some o
theorem Same.refl (H:Hp):Same H H:=fun _ _ h=>h
theorem Same.trans {H H1 H2:Hp} (a:Same H H1) (b:Same H1 H2):Same H H2:=fun c o h=>b c o (a c o h)
theorem Same.free {H H':Hp} (e:Same H H') {l:Addr} (h:H' l = Option.none):H l = Option.none:=by
 cases q:H l with
 | none=>rfl
 | some o =>
  rw [e l o q] at h
  cases h
theorem Same.seq {K:PySem.W.Frag} {H H':Hp} {a:Addr} {xs:List V} (e:Same H H') (h:SqL K H a xs):SqL K H' a xs:=by
 rcases h with (h | ⟨o,h⟩) | h
 ·exact .inl (.inl (e _ _ h))
 ·exact .inl (.inr ⟨o,e _ _ h⟩)
 ·exact .inr h
end L2
set_option maxHeartbeats 4000000
namespace L2
open PySem PySem.Spec PyProof.Rows
section
open PySem.AutoSeq1 (wpAny_loadPart')
open PySem.MeetsSeq PySem.MeetsSeq2 PySem.MeetsSeq3
theorem extendT_meets (l b:Addr) (xs ys:Array Value) (n k:Nat) (dd:Option Addr) (sl:Array (Option Value)) (h0:¬(!xs.isEmpty && Builtin.List.listTooLong (xs.size + ys.size)) = true) (h1:xs.size ≤ sizeLine)
  (h2:xs.size + ys.size ≤ sizeLine + 1) :
  Meets (Builtin.«list.extend» ⟨[.ref l,.ref b],[]⟩)
   (fun _ R s=>s.heap.get? l = some { cls:=.type "list",data:=.seq xs n }∧s.heap.get? b = some { cls:=.type "tuple",dict:=dd,data:=.seq ys k,slots:=sl } ∧
    R (.ok (.ret Value.none)) { s with heap:=s.heap.update l (Obj.mapSeq fun z=>z ++ ys) }) :=
 .of_wp fun prog w A R s h=>by
  obtain ⟨hp,g,d,tk,os⟩:=s
  obtain ⟨ha,hb,h⟩:=h
  have t1:=AutoSeq1.idx_int
  have t2:=AutoSeq1.sub_tuple_tuple
  have t3:=AutoSeq1.sub_list_list
  have t4:=AutoSeq1.sub_tuple_list
  have t5:=AutoSeq1.sub_list_tuple
  have hz:(xs ++ ys).size ≤ sizeLine + 1:=by rw [Array.size_append]; exact h2
  wp_walk using (wpAny_updateSeq ha rfl (hz:=h1) (_hz':=hz)),wpAny_loadPart' ha,wpAny_loadPart' hb
  exact ⟨_,rfl,h⟩
end
section
variable {X:Cx}
def rExtendT (K:PySem.W.Frag):V→List V→Hp→VK→Prop:=fun x vs H Q=>∃ l b xs zs,x = .ref l∧vs = [.ref b]∧H l = some (.lst xs)∧SqT K H b zs∧xs.length + zs.length ≤ sizeLine∧Q .non (upd H l (.lst (xs ++ zs)))
theorem mt_extendT:MtR X "list.extend" (rExtendT X.K):=by
 intro pins s σ H x vs v us Q I rx rv h
 obtain ⟨l,b,xs,zs,rfl,rfl,hH,hB,hz,q⟩:=h
 cases rx
 obtain ⟨u,rfl,ru⟩:=rv.one
 cases ru
 obtain ⟨z,its,n,r,hl,e⟩:=I.lstM hH
 obtain ⟨its2,r2,pl,z2⟩:=I.tuple hB
 have hl2:=r2.length
 obtain ⟨⟨cls,dd,data,sl⟩,ho,hc,k,hd⟩:=pl
 simp only at hc hd
 subst hc hd
 have hsz:its.toArray.size + its2.toArray.size ≤ sizeLine:=by rw [List.size_toArray,List.size_toArray]; omega
 have hlong:¬ (!its.toArray.isEmpty && Builtin.List.listTooLong (its.toArray.size + its2.toArray.size)) = true:=by
  rw [notLongL hsz,Bool.and_false]
  exact Bool.false_ne_true
 refine call_meets F.slot_list_extend ⟨_,e,rfl⟩ F.entry_list_extend (F.args_list_extend_2 _ _)
  (extendT_meets l b its.toArray its2.toArray n k dd sl hlong (by rw [List.size_toArray]; omega) (by omega)) ⟨e,ho,?_⟩
 refine ⟨.non,_,I.lset (its':=its ++ its2) hH e (by simp) (r.append r2) ?_,rfl,q⟩
 rw [List.length_append]
 omega
def rNil (neg:Bool):R2:=fun x y H Q=>∃ l b xs,x = .ref l∧y = .ref b∧H l = some (.lst xs)∧H b = some (.lst [])∧Q (.bl (if neg then !xs.isEmpty else xs.isEmpty)) H
theorem op_neNil (hu:X.A.units < cLine):OpR X (compareOp .NotEq) (rNil true):=by
 intro pins s σ H x y v u Q I rx ry h
 obtain ⟨l,b,xs,rfl,rfl,hl,hb,q⟩:=h
 cases rx
 cases ry
 obtain ⟨_,its,n,r,el,e⟩:=I.lstM hl
 obtain ⟨_,its2,n2,r2,el2,e2⟩:=I.lstM hb
 have z2:=r2.zero
 subst z2
 cases r with
 | nil =>
  exact richCompare_meets_room (op:=.NotEq) ⟨_,e,rfl⟩ ⟨_,e2,rfl⟩ F.slot_list_ne F.entry_list_ne (F.args_list_ne_2 _ _)
   (SeqAt.list_neAt l b _ _ n n2 none none #[] #[] rfl (fun _=>true)) ⟨e,e2,(fun j h1 _=>absurd h1 (Nat.not_lt_zero _)),(fun z=>nomatch z),.bl false,H,I,rfl,q⟩ hu
 | cons r1 rr =>
  exact richCompare_meets_room (op:=.NotEq) ⟨_,e,rfl⟩ ⟨_,e2,rfl⟩ F.slot_list_ne F.entry_list_ne (F.args_list_ne_2 _ _)
   (SeqAt.list_ne_lengthsAt l b _ _ n n2 none none #[] #[] (by simp)) ⟨e,e2,(fun z=>nomatch z),.bl true,H,I,rfl,q⟩ hu
theorem op_eqNil (hu:X.A.units < cLine):OpR X (compareOp .Eq) (rNil false):=by
 intro pins s σ H x y v u Q I rx ry h
 obtain ⟨l,b,xs,rfl,rfl,hl,hb,q⟩:=h
 cases rx
 cases ry
 obtain ⟨_,its,n,r,el,e⟩:=I.lstM hl
 obtain ⟨_,its2,n2,r2,el2,e2⟩:=I.lstM hb
 have z2:=r2.zero
 subst z2
 cases r with
 | nil =>
  exact richCompare_meets_room (op:=.Eq) ⟨_,e,rfl⟩ ⟨_,e2,rfl⟩ F.slot_list_eq F.entry_list_eq (F.args_list_eq_2 _ _)
   (SeqAt.list_eqAt l b _ _ n n2 none none #[] #[] rfl (fun _=>true)) ⟨e,e2,(fun j h1 _=>absurd h1 (Nat.not_lt_zero _)),(fun z=>nomatch z),.bl true,H,I,rfl,q⟩ hu
 | cons r1 rr =>
  exact richCompare_meets_room (op:=.Eq) ⟨_,e,rfl⟩ ⟨_,e2,rfl⟩ F.slot_list_eq F.entry_list_eq (F.args_list_eq_2 _ _)
   (SeqAt.list_eq_lengthsAt l b _ _ n n2 none none #[] #[] (by simp)) ⟨e,e2,(fun z=>nomatch z),.bl false,H,I,rfl,q⟩ hu
theorem kit_of {pins:List (Addr × Obj)} {σ:St} {H:Hp} {s:Shared} {x:V} {u t:Value} (I:Inv X pins σ H s) (rx:RelV x u) (ty:TyOf X.K H x t) :
  ∃ Hh:Heap→Prop,PySem.W.KitX X.K u t Hh∧Hh s.heap∧u ≠ .builtin "__main__.__loader__#opaque":=by
 cases ty with
 | non=>cases (show u = Value.none from rx); exact ⟨_,PySem.W.kitx_none,True.intro,fun z=>nomatch z⟩
 | bl y=>cases (show u = Value.bool y from rx); exact ⟨_,PySem.W.kitx_bool,True.intro,fun z=>nomatch z⟩
 | int i=>obtain ⟨t,q⟩:=(show ∃ t,u = Value.int i t from rx); cases q; exact ⟨_,PySem.W.kitx_int,True.intro,fun z=>nomatch z⟩
 | str y=>obtain ⟨t,q⟩:=(show ∃ t,u = Value.str y t from rx); cases q; exact ⟨_,PySem.W.kitx_str,True.intro,fun z=>nomatch z⟩
 | flt y=>obtain ⟨t,q⟩:=(show ∃ t,u = Value.float y t from rx); cases q; exact ⟨_,PySem.W.kitx_float,True.intro,fun z=>nomatch z⟩
 | @lst a xs ea =>
  cases (show u = Value.ref a from rx)
  obtain ⟨_,_,n,_,h1⟩:=(show ObjOk X.prog X.w H s.heap a (.lst xs) from I.hok a _ ea)
  exact ⟨_,PySem.W.kitx_list,⟨_,h1,rfl⟩,fun z=>nomatch z⟩
 | @frz a ob xs ea =>
  cases (show u = Value.ref a from rx)
  obtain ⟨_,_,_,n,_,h1⟩:=(show ObjOk X.prog X.w H s.heap a (.frz ob (.lst xs)) from I.hok a _ ea)
  exact ⟨_,PySem.W.kitx_list,⟨_,h1,rfl⟩,fun z=>nomatch z⟩
 | @tup a xs ea =>
  cases (show u = Value.ref a from rx)
  obtain ⟨_,_,_,p⟩:=(show ObjOk X.prog X.w H s.heap a (.tup xs) from I.hok a _ ea)
  obtain ⟨o,h1,h2,_⟩:=p
  exact ⟨_,PySem.W.kitx_tuple,⟨o,h1,h2⟩,fun z=>nomatch z⟩
 | @dK a kvs ea =>
  cases (show u = Value.ref a from rx)
  obtain ⟨_,_,vs,_,p⟩:=(show ObjOk X.prog X.w H s.heap a (.dK kvs) from I.hok a _ ea)
  obtain ⟨o,es,ep,h1,h2,_⟩:=p
  exact ⟨_,PySem.W.kitx_dict,⟨o,h1,h2.1⟩,fun z=>nomatch z⟩
 | @dT a kvs ea =>
  cases (show u = Value.ref a from rx)
  obtain ⟨_,_,xs,_,o,es,ep,h1,h2,_⟩:=(show ObjOk X.prog X.w H s.heap a (.dT kvs) from I.hok a _ ea)
  exact ⟨_,PySem.W.kitx_dict,⟨o,h1,h2.1⟩,fun z=>nomatch z⟩
 | @ins a C dx fs ea cl ha hn htk hm =>
  cases (show u = Value.ref a from rx)
  obtain ⟨mA,O,_⟩:=ins_get I.hok ea
  obtain ⟨od,J,_⟩:=O.look
  exact ⟨_,PySem.W.kitx_own (cl.get _) cl.hd ha hn htk hm,J,fun z=>nomatch z⟩
def rIs1 (K:PySem.W.Frag):List V→Hp→VK→Prop:=fun xs H Q=>∃ x n t b,xs = [x,.ty n]∧TyOf K H x t∧PySem.W.kitOne K t (.type n) = some b∧Q (.bl b) H
theorem call_is1:CallR X (.builtin "isinstance") (rIs1 X.K):=by
 intro pins s σ H xs us Q I r h
 obtain ⟨x,n,t,b,rfl,ty,e,q⟩:=h
 obtain ⟨u,u2,rfl,r1,r2⟩:=vals2 r
 cases (show u2 = Value.type n from r2)
 exact isinst_ok I r1 ty e fun tk=>⟨.bl b,H,I.tok tk,rfl,q⟩
def rIs2 (K:PySem.W.Frag):List V→Hp→VK→Prop:=fun xs H Q=>∃ x p n n2 t b,xs = [x,.ref p]∧H p = some (.tup [.ty n,.ty n2])∧TyOf K H x t∧PySem.W.kitAny K t [.type n,.type n2] = some b∧Q (.bl b) H
theorem call_is2:CallR X (.builtin "isinstance") (rIs2 X.K):=by
 intro pins s σ H xs us Q I r h
 obtain ⟨x,p,n,n2,t,b,rfl,hp,ty,e,q⟩:=h
 obtain ⟨u,u2,rfl,r1,r2⟩:=vals2 r
 cases r2
 obtain ⟨Hh,Z,zh,ne⟩:=kit_of I r1 ty
 obtain ⟨_,its,rv,pl⟩:=(show ObjOk X.prog X.w H s.heap p (.tup [.ty n,.ty n2]) from I.hok p _ hp)
 obtain ⟨t1,t2,rfl,q1,q2⟩:=vals2 rv
 cases (show t1 = Value.type n from q1)
 cases (show t2 = Value.type n2 from q2)
 obtain ⟨⟨cls,dd,data,sl⟩,ho,hc,k,hd⟩:=pl
 simp only at hc hd
 subst hc hd
 exact PySem.W.kia_tup Z I.kIn zh ho e ne fun tk=>⟨.bl b,H,I.tok tk,rfl,q⟩
theorem call_sum (hc:X.calm = true):CallR X (.builtin "sum") (fun xs H Q=>∃ (p:Addr) (ns:List Int),xs = [.ref p]∧SqL X.K H p (ns.map V.int)∧Q (.int ns.sum) H):=by
 intro pins s σ H xs us Q I r h
 obtain ⟨p,ns,rfl,hq,q⟩:=h
 obtain ⟨u,rfl,rx⟩:=vals1 r
 cases rx
 obtain ⟨its,r',pl,hz⟩:=I.list hq
 have hi:IntsAre its ns:=intsAre_of r'
 obtain ⟨xs,hx⟩:=hi.allInts.items
 refine sum_intListG (I.ok.hd hc) (hx ▸ pl.isList) fun h' tk t' hk=>?_
 have e1:ns = xs.toList.map (·.1):=by
  rw [← nums_intItems,← hx]
  exact (show numsOf its.toArray.toList = ns from hi.numsOf).symm
 have e2:preSum (numAt xs) xs.size = ns.sum:=by
  rw [preSum_eq,List.take_of_length_le (by simp),e1]
 rw [e2]
 exact ⟨.int ns.sum,H,I.kept hk,⟨t',rfl⟩,q⟩
end
theorem cut_from (xs:List V) (k:Nat):cutV xs (some (k:Int)) none = xs.drop k:=by
 unfold cutV
 rw [HT.sIx_none,HT.sIx_nat]
 by_cases h:k ≤ xs.length
 ·rw [Nat.min_eq_left h,List.take_of_length_le (by rw [List.length_drop]; exact Nat.le_refl _)]
 ·rw [Nat.min_eq_right (by omega),List.drop_eq_nil_of_le (Nat.le_refl _),List.drop_eq_nil_of_le (by omega)]
  exact List.take_nil
theorem cut_to (xs:List V) (k:Nat):cutV xs none (some (k:Int)) = xs.take k:=by
 unfold cutV
 rw [HT.sIx_none,HT.sIx_nat,List.drop_zero,Nat.sub_zero]
 by_cases h:k ≤ xs.length
 ·rw [Nat.min_eq_left h]
 ·rw [Nat.min_eq_right (by omega),List.take_of_length_le (Nat.le_refl _),List.take_of_length_le (by omega)]
theorem itD {c A B:Prop} [Decidable c] (hc:c) (h:A):if (decide c) = true then A else B:=by rw [if_pos (decide_eq_true hc)]; exact h
theorem itN {c A B:Prop} [Decidable c] (hc:¬ c) (h:B):if (decide c) = true then A else B:=by
 rw [if_neg (by rw [decide_eq_false hc]; exact Bool.false_ne_true)]; exact h
end L2
namespace L2
open PySem PySem.Spec PyProof.Rows
section
variable {X:Cx}
def rNilS (K:PySem.W.Frag) (neg:Bool):R2:=fun x y H Q=>∃ l b xs,x = .ref l∧y = .ref b∧SqL K H l xs∧H b = some (.lst [])∧Q (.bl (if neg then !xs.isEmpty else xs.isEmpty)) H
theorem op_eqNilS (hu:X.A.units < cLine):OpR X (compareOp .Eq) (rNilS X.K false):=by
 intro pins s σ H x y v u Q I rx ry h
 obtain ⟨l,b,xs,rfl,rfl,hl,hb,q⟩:=h
 cases rx
 cases ry
 obtain ⟨its,r,pl,_⟩:=I.list hl
 obtain ⟨_,its2,n2,r2,el2,e2⟩:=I.lstM hb
 have z2:=r2.zero
 subst z2
 obtain ⟨⟨cls,dd,data,sl⟩,n,e,hc,hdd,hd⟩:=pl
 simp only at hc hdd hd
 subst hc hdd hd
 cases r with
 | nil =>
  exact richCompare_meets_room (op:=.Eq) ⟨_,e,rfl⟩ ⟨_,e2,rfl⟩ F.slot_list_eq F.entry_list_eq (F.args_list_eq_2 _ _)
   (SeqAt.list_eqAt l b _ _ n n2 none none sl #[] rfl (fun _=>true)) ⟨e,e2,(fun j h1 _=>absurd h1 (Nat.not_lt_zero _)),(fun z=>nomatch z),.bl true,H,I,rfl,q⟩ hu
 | cons r1 rr =>
  exact richCompare_meets_room (op:=.Eq) ⟨_,e,rfl⟩ ⟨_,e2,rfl⟩ F.slot_list_eq F.entry_list_eq (F.args_list_eq_2 _ _)
   (SeqAt.list_eq_lengthsAt l b _ _ n n2 none none sl #[] (by simp)) ⟨e,e2,(fun z=>nomatch z),.bl false,H,I,rfl,q⟩ hu
def rIndex:V→List V→Hp→VK→Prop:=fun x vs H Q=>∃ l xs y j,x = .ref l∧vs = [y]∧H l = some (.lst xs)∧flatV y = true∧xs.all flatV = true∧xs.findIdx? (fun z=>eqV z y) = some j∧Q (.int ((j:Nat):Int)) H
theorem mt_index:MtR X "list.index" rIndex:=by
 intro pins s σ H x vs v us Q I rx rv h
 obtain ⟨l,xs,y,j,rfl,rfl,hH,fy,fx,hj,q⟩:=h
 cases rx
 obtain ⟨u,rfl,ru⟩:=rv.one
 obtain ⟨z,its,n,r,hl,e⟩:=I.lstM hH
 obtain ⟨hlt,hp,hno⟩:=List.findIdx?_eq_some_iff_getElem.mp hj
 have at_:∀ (m:Nat) (hm:m < its.toArray.size) (hm':m < xs.length),eqU y its.toArray[m] = eqV xs[m] y:=fun m hm hm'=>by
  obtain ⟨w',hw,rw'⟩:=r.get (List.getElem?_eq_getElem hm')
  have e1:its.toArray[m] = w':=by
   have e2:=List.getElem?_eq_some_iff.mp hw
   obtain ⟨h1,h2⟩:=e2
   simpa using h2
  rw [e1]
  exact eqU_of rw' (List.all_eq_true.mp fx _ (List.getElem_mem hm'))
 have hj':j < its.toArray.size:=by rw [List.size_toArray,← hl]; exact hlt
 have hz:xs.length ≤ 16777216:=z
 refine call_meets F.slot_list_index ⟨_,e,rfl⟩ F.entry_list_index (F.args_list_index_2 _ _)
  (SeqAt.list_indexAt l its.toArray n none #[] u (eqU y) j hj' (by omega) (by rw [at_ j hj' hlt]; exact hp) (fun m hm hmj=>by
   rw [at_ m hm (by omega)]
   have:=hno m hmj
   simpa using this)) ⟨e,fun w' hw=>mem_eqAt ru fy r fx w' (by simpa using hw),.int j,H,I.tok _,⟨_,rfl⟩,q⟩
theorem pe_weak {e:Expr} {t t':TE} (h:PE X e t) (wk:∀ σ H Q,t' σ H Q→t σ H Q):PE X e t':=fun pins s σ H Q I q=>h pins s σ H Q I (wk σ H Q q)
theorem ps_weak {st:Stmt} {t t':TS} (h:PS X st t) (wk:∀ D σ H,t' D σ H→t D σ H):PS X st t':=fun pins s σ H D I q=>h pins s σ H D I (wk D σ H q)
end
end L2
namespace Ws
open PySem L2
structure MG (K:PySem.W.Frag) (mg:Str→Option Value) (x:Str) (ps:List Str) (f:Addr) (fd:FuncData):Prop where
 m:mg x = some (.ref f)
 k:PySem.W.keepIn K (.ref f) = true
 b:Binds K fd ps []
section
variable {X:Cx}
theorem pe_cm {x:Str} {ps:List Str} {f:Addr} {fd:FuncData} {sp:Sp} {j k:Nat} {e:Expr} {es:List Expr} {t:TA} {p pos:Pos} (F:FnOk X.prog X.w X.K X.mg X.base CX0 j f fd ps sp) (M:MG X.K X.mg x ps f fd) (hr:Room k X.A) (hg:Gl X x) (ha:PA X (e :: es) t) (hjk:j ≤ k:=by decide)
  (hdb:(x == ("__debug__":Str)) = false:=by decide) (he:starEach (e :: es) X.env = (false,eval e X.env) :: starEach es X.env:=by rfl) (hpl:(backTo pos (starEach es X.env)).any (·.1) = false:=by rfl) :
  PE X (.Call (.Name x p) (e :: es) [] pos) (tCall sp [] E0 t):=pe_call F (hr.mono hjk) hg M.m M.k M.b .nil pass0 ha hdb he hpl
end
end Ws
namespace L2
open PySem PySem.Spec PyProof.Rows
def cxComp (X:Cx) (N:List Str) (scope:Scope) (cl:List (Str × Addr)) (C:Addr) (fp:List Addr) (s:Shared) (H:Hp):Cx where
 prog:=X.prog
 w:=X.w
 K:=X.K
 mg:=X.mg
 base:=X.base
 A:=X.A
 N:=N
 s₀:=s
 H₀:=H
 env:=compEnvC scope cl C X.env
 outer:=X.stack
 stack:=X.stack
 ex:=fp
 fn:=fun _=>false
 calm:=X.calm
 pn:=[]
 xe:=fun _ _=>False
def PF (X:Cx) (ifs:List Expr) (t:TT):Prop :=
 ∀ (pins:List (Addr × Obj)) (s:Shared) (σ:St) (H:Hp) (Q:Bool→Hp→Prop),Inv X pins σ H s→t σ H Q →
  wpAny (model X.prog X.w) X.A (forIn ifs true fun c r=>if r = true then do let ok ← isTrue c X.env (eval c X.env); pure (ForInStep.yield ok) else pure (ForInStep.yield r)) (TP X pins σ Q) X.xe s
theorem pf_nil {X:Cx}:PF X [] (fun _ H Q=>Q true H):=fun _ _ _ H _ I h=>wpAny_tests_nil ⟨H,I,h⟩
theorem comp_loop {X:Cx} {tg iter elt:Expr} {ifs:List Expr} {scope:Scope} {pos:Pos} {J:It} {fp:List Addr} {it D:Addr} {tn:Nat→Heap→Prop} {g:TG} {tf:TT} {te:TE} {R:Result→Shared→Prop} {s:Shared}
  (hc:X.calm = true) (hx:X.xe = fun _ _=>False) (T:Turn X.prog X.w X.K tg J fp it tn) (hg:PG X tg g) (hf:PF X ifs tf) (he:PE X elt te)
  (stat:∀ b ∈ fp,b ≠ X.env.locals∧b ∉ X.fs∧(b ∈ X.ex ∨ X.s₀.heap.objs.size ≤ b)∧(∀ x c,X.env.cells.lookup x = some c→c ≠ b)∧∀ p ∈ X.pn ++ ([]:List (Addr × Obj)),p.1 ≠ b)
  (W:Nat→Nat→List V→St→Hp→Prop) (Fi:Hp→Prop)
  (turn:∀ i m ys τ H,W i m ys τ H→(J.stop i H∧Fi H) ∨ (J.go i H∧∃ N:List V→St→Hp→Prop,(∀ zs τ' H',N zs τ' H'→∃ m',m' < m∧W (i + 1) m' zs τ' H')∧∀ x H1,J.yld i H x H1→g x τ H1 fun τ2 H2=>tf τ2 H2 fun b H3 =>
   if b = true then te τ2 H3 fun y H4=>H4 D = some (.lst ys)∧ys.length < sizeLine∧N (ys ++ [y]) τ2 (upd H4 D (.lst (ys ++ [y]))) else N ys τ2 H3))
  (hR:∀ s' τ' H',Inv X [] τ' H' s'→(∀ b ∈ fp,H' b = none)→Fi H'→R (.ok .next) s')
  {m0:Nat} {τ:St} {H:Hp} (I:Inv X [] τ H s) (st:tn 0 s.heap) (fr:∀ b ∈ fp,H b = none) (w0:W 0 m0 [] τ H) :
  codeAny (model X.prog X.w) X.A (.compLoop (.ListComp elt [⟨tg,iter,ifs,0⟩] scope pos) 0 (.ref it) (.ref D) X.env) R s:=by
 refine codeAny_loop rfl (fun n s'=>∃ i ys τ' H',Inv X [] τ' H' s'∧tn i s'.heap∧(∀ b ∈ fp,H' b = none)∧W i n ys τ' H') (fun n s3 hI=>?_) m0 ⟨0,[],τ,H,I,st,fr,w0⟩
 obtain ⟨i,ys,τ3,H3,I3,st3,fr3,w3⟩:=hI
 show wpAny _ X.A ((compTurn (.ListComp elt [⟨tg,iter,ifs,0⟩] scope pos) 0 (.ref it) (.ref D) X.env).onRaise (fun x=>do noteFrame x X.env; theTreesLotGoes x)) _ _ s3
 refine wpAny_noted ?_
 rw [compTurn_list]
 have noE:∀ {α:Type} {t:Sem α} {Q:α→Shared→Prop} {E:Value→Shared→Prop} {s:Shared},wpAny (model X.prog X.w) X.A t Q X.xe s→wpAny (model X.prog X.w) X.A t Q E s:=fun h =>
  wpAny_mono h (fun _ _ q=>q) fun _ _ q=>by rw [hx] at q; exact q.elim
 have ok:∀ {H':Hp},(∀ b ∈ fp,H' b = none)→∀ b ∈ fp,FpOk X [] H' b:=fun hn b hb=>⟨hn b hb,stat b hb⟩
 refine wpAny_bind (wpAny_standAt (wpAny_bind ?_))
 rcases turn i n ys τ3 H3 w3 with ⟨stop,fin⟩ | ⟨go,N,hN,step⟩
 ·refine thn (T.done X rfl rfl rfl hc i [] s3 τ3 H3 _ I3 (ok fr3) st3 stop) fun r s4 ⟨hr,I4⟩=>?_
  subst hr
  exact wpAny_pure (hR s4 τ3 H3 I4 fr3 fin)
 ·refine thn (T.item X rfl rfl rfl hc i [] s3 τ3 H3 _ I3 (ok fr3) st3 go) fun r s4 ⟨u,hr,h4⟩=>?_
  subst hr
  refine wpAny_bind (thn h4 fun _ s5 ⟨x,H5,I5,r5,y5,st5,fr5⟩=>?_)
  have I5':=I5.pinned (ok fr5) (T.obj _ _ st5)
  have back:∀ {τ7:St} {H7:Hp} {s7:Shared} {m':Nat} {zs:List V},Inv X ([] ++ pinsAt fp s5.heap) τ7 H7 s7→W (i + 1) m' zs τ7 H7→∃ i' ys' τ' H',Inv X [] τ' H' s7∧tn i' s7.heap∧(∀ b ∈ fp,H' b = none)∧W i' m' ys' τ' H' :=
   fun {τ7 H7 s7 m' zs} I7 w7=>by
    refine ⟨i + 1,zs,τ7,H7,I7.unpinned,T.keep _ _ _ st5 fun b hb o e=>(I7.pin (b,o) (List.mem_append_right _ (List.mem_append_right _ (mem_pinsAt hb e)))).1,fun b hb=>?_,w7⟩
    obtain ⟨o,e,d⟩:=T.obj _ _ st5 b hb
    exact (I7.pin (b,o) (List.mem_append_right _ (List.mem_append_right _ (mem_pinsAt hb e)))).2.1
  refine wpAny_bind (noE (thn (hg _ s5 τ3 H5 x u _ I5' r5 (step x H5 y5)) fun _ s6 ⟨τ6,H6,I6,q6⟩=>?_))
  refine wpAny_bind (noE (thn (hf _ s6 τ6 H6 _ I6 q6) fun b s7 ⟨H7,I7,q7⟩=>?_))
  cases b with
  | false =>
   obtain ⟨m',hm,w7⟩:=hN _ _ _ q7
   exact wpAny_pure ⟨rfl,m',hm,back I7 w7⟩
  | true =>
   refine wpAny_bind (wpAny_bind (noE (thn (he _ s7 τ6 H7 _ I7 q7) fun v s8 ⟨y,H8,I8,r8,hD8,hz,n8⟩=>?_)))
   refine wpAny_bind (noE (thn (mt_append _ s8 τ6 H8 (.ref D) [y] (.ref D) [v] (fun _ H9=>H9 = upd H8 D (.lst (ys ++ [y]))) I8 rfl (.cons r8 .nil) ⟨D,ys,y,rfl,rfl,hD8,hz,rfl⟩) fun _ s9 ⟨_,H9,I9,_,e9⟩=>?_))
   subst e9
   obtain ⟨m',hm,w8⟩:=hN _ _ _ n8
   exact wpAny_pure (wpAny_pure ⟨rfl,m',hm,back I9 w8⟩)
def clos (env:Env):List (Str × NameKind)→List (Str × Addr)→List (Str × Addr)
 | [],cs=>cs
 | (n,k) :: r,cs=>clos env r (if k == .free then (n,(env.cells.lookup n).getD 0) :: cs else cs)
theorem clos_run {env:Env}:∀ (l:List (Str × NameKind)) (cs:List (Str × Addr)),(∀ x,(x,NameKind.free) ∈ l→∃ c,env.cells.lookup x = some c) →
  (forIn l cs fun (x:Str × NameKind) (r:List (Str × Addr))=>if (x.2 == NameKind.free) = true then (do let c ← cellOf env x.1; pure (ForInStep.yield ((x.1,c) :: r))) else pure (ForInStep.yield r):Sem (List (Str × Addr))) = pure (clos env l cs)
 | [],cs,_=>rfl
 | (n,k) :: r,cs,h=>by
  have hr:∀ x,(x,NameKind.free) ∈ r→∃ c,env.cells.lookup x = some c:=fun x m=>h x (List.mem_cons_of_mem _ m)
  rw [List.forIn_cons]
  by_cases e:k = .free
  ·subst e
   obtain ⟨c,hc⟩:=h n List.mem_cons_self
   have e1:cellOf env n = pure c:=by unfold cellOf; rw [hc]
   show (((if (NameKind.free == NameKind.free) = true then _ else _):Sem _) >>= _) = _
   rw [if_pos (show (NameKind.free == NameKind.free) = true from rfl),e1,pure_bind,pure_bind]
   show _ = pure (clos env r ((n,(env.cells.lookup n).getD 0) :: cs))
   rw [hc]
   exact clos_run r _ hr
  ·have e1:(k == NameKind.free) = false:=by simpa using e
   show (((if (k == NameKind.free) = true then _ else _):Sem _) >>= _) = _
   rw [if_neg (by rw [e1]; exact Bool.false_ne_true),pure_bind]
   show _ = pure (clos env r (if (k == NameKind.free) = true then _ else cs))
   rw [if_neg (by rw [e1]; exact Bool.false_ne_true)]
   exact clos_run r _ hr
theorem closureFor_eq {scope:Scope} {env:Env} (h:∀ x,(x,NameKind.free) ∈ scope.names→∃ c,env.cells.lookup x = some c):closureFor scope env = pure (clos env scope.names []):=by
 have q:=clos_run (env:=env) scope.names [] h
 unfold closureFor
 exact (congrArg (· >>= fun r=>pure r) q).trans (pure_bind _ _)
theorem clos_some {env:Env}:∀ (l:List (Str × NameKind)) (cs:List (Str × Addr)) (x:Str) (c:Addr),(∀ y,(y,NameKind.free) ∈ l→∃ c,env.cells.lookup y = some c) →
  (∀ y d,cs.lookup y = some d→env.cells.lookup y = some d)→(clos env l cs).lookup x = some c→env.cells.lookup x = some c
 | [],cs,x,c,_,hc,e=>hc x c e
 | (n,k) :: r,cs,x,c,h,hc,e=>by
  refine clos_some r _ x c (fun y m=>h y (List.mem_cons_of_mem _ m)) (fun y d q=>?_) e
  by_cases hk:(k == NameKind.free) = true
  ·rw [if_pos hk] at q
   have hk':k = .free:=by simpa using hk
   subst hk'
   obtain ⟨c0,h0⟩:=h n List.mem_cons_self
   rw [List.lookup_cons] at q
   by_cases hy:(y == n) = true
   ·rw [hy] at q
    have q:some ((env.cells.lookup n).getD 0) = some d:=q
    have e2:y = n:=by simpa using hy
    rw [h0] at q
    rw [e2,h0]
    exact q
   ·have hy':(y == n) = false:=by simpa using hy
    rw [hy'] at q
    exact hc y d q
  ·rw [if_neg hk] at q
   exact hc y d q
theorem clos_keep {env:Env}:∀ (l:List (Str × NameKind)) (cs:List (Str × Addr)) (x:Str),(cs.lookup x).isSome = true→((clos env l cs).lookup x).isSome = true
 | [],_,_,h=>h
 | (n,k) :: r,cs,x,h=>by
  refine clos_keep r _ x ?_
  by_cases hk:(k == NameKind.free) = true
  ·rw [if_pos hk,List.lookup_cons]
   by_cases hy:(x == n) = true
   ·rw [hy]; rfl
   ·have hy':(x == n) = false:=by simpa using hy
    rw [hy']; exact h
  ·rw [if_neg hk]; exact h
theorem clos_has {env:Env}:∀ (l:List (Str × NameKind)) (cs:List (Str × Addr)) (x:Str),(x,NameKind.free) ∈ l→∃ c,(clos env l cs).lookup x = some c
 | (n,k) :: r,cs,x,m=>by
  rcases List.mem_cons.mp m with e | m
  ·have e1:x = n:=congrArg Prod.fst e
   have e2:NameKind.free = k:=congrArg Prod.snd e
   subst e1 e2
   refine Option.isSome_iff_exists.mp (clos_keep r _ x ?_)
   rw [if_pos (show (NameKind.free == NameKind.free) = true from rfl),List.lookup_cons]
   have e3:(x == x) = true:=by simp
   rw [e3]; rfl
  ·exact clos_has r _ x m
theorem relabel_look {env:Env} {x:Str}:∀ {names:List (Str × NameKind)} {k:NameKind},
  (names.map fun (n,k)=>if (k == NameKind.free && env.scope.kind == .function && env.kindOf n == some .cell) then (n,NameKind.cell) else (n,k)).lookup x = some k →
   ∃ k0,names.lookup x = some k0∧((k0 = .free∧(k = .free ∨ k = .cell)) ∨ k = k0)
 | [],_,h=>by simp at h
 | (n,k0) :: r,k,h=>by
  have ih:=@relabel_look env x r k
  have h:List.lookup x ((if (k0 == NameKind.free && env.scope.kind == .function && env.kindOf n == some .cell) = true then (n,NameKind.cell) else (n,k0)) :: r.map fun (n,k)=>if (k == NameKind.free && env.scope.kind == .function && env.kindOf n == some .cell) then (n,NameKind.cell) else (n,k)) = some k:=h
  by_cases hc:(k0 == NameKind.free && env.scope.kind == .function && env.kindOf n == some .cell) = true
  ·rw [if_pos hc] at h
   have hk:k0 = .free:=by
    rw [Bool.and_eq_true,Bool.and_eq_true] at hc
    simpa using hc.1.1
   rw [List.lookup_cons] at h ⊢
   cases hx:x == n with
   | true =>
    rw [hx] at h
    have h:some NameKind.cell = some k:=h
    exact ⟨k0,rfl,.inl ⟨hk,.inr (Option.some.inj h).symm⟩⟩
   | false =>
    rw [hx] at h
    exact ih h
  ·rw [if_neg hc] at h
   rw [List.lookup_cons] at h ⊢
   cases hx:x == n with
   | true =>
    rw [hx] at h
    have h:some k0 = some k:=h
    exact ⟨k0,rfl,.inr (Option.some.inj h).symm⟩
   | false =>
    rw [hx] at h
    exact ih h
def srcSt (src:List (Option Nat)) (σ:St):St:=src.map fun o=>o.bind fun j=>(σ[j]?).bind id
def srcOf (oN:List Str) (scope:Scope) (N:List Str):List (Option Nat):=N.map fun x=>if scope.names.lookup x = some .free then oN.findIdx? (· == x) else none
structure CompSc (osc:Scope) (oN N:List Str) (src:List (Option Nat)) (scope:Scope):Prop where
 kind:scope.kind = .function
 nocell:∀ y ∈ scope.names,y.2 ≠ .cell
 locals:∀ y ∈ scope.names,y.2 = .local→scope.names.lookup y.1 = some .local
 free:∀ y ∈ scope.names,y.2 = .free→scope.names.lookup y.1 = some .free∧(osc.names.lookup y.1 = some .cell ∨ osc.names.lookup y.1 = some .free)
 src:srcOf oN scope N = src
 nd:N.Nodup
theorem CompSc.at_ {osc scope:Scope} {oN N:List Str} {src:List (Option Nat)} (S:CompSc osc oN N src scope) {i j:Nat} (h:src[i]? = some (some j)) :
  ∃ x,N[i]? = some x∧oN[j]? = some x∧(x,NameKind.free) ∈ scope.names:=by
 rw [← S.src] at h
 unfold srcOf at h
 rw [List.getElem?_map] at h
 cases e:N[i]? with
 | none=>rw [e] at h; cases h
 | some x =>
  rw [e] at h
  have h:some (if scope.names.lookup x = some .free then oN.findIdx? (· == x) else none) = some (some j):=h
  have h:=Option.some.inj h
  by_cases hf:scope.names.lookup x = some .free
  ·rw [if_pos hf] at h
   refine ⟨x,rfl,?_,PySem.mem_of_lookup hf⟩
   obtain ⟨hlt,hp,_⟩:=List.findIdx?_eq_some_iff_getElem.mp h
   rw [List.getElem?_eq_getElem hlt]
   exact congrArg some (by simpa using hp)
  ·rw [if_neg hf] at h; cases h
theorem comp_inv {X:Cx} {pins:List (Addr × Obj)} {σ:St} {H:Hp} {s s4:Shared} {osc scope:Scope} {oN N:List Str} {src:List (Option Nat)} {fp:List Addr} {h1:Heap} {tk:Nat} (I:Inv X pins σ H s) (S:CompSc osc oN N src scope) (hsc:X.env.scope = osc) (hXN:X.N = oN)
  (f2:∀ b ∈ fp,FpOk X pins H b)
  (hns:h1.Ns s.heap.objs.size fun _=>none) (keep:∀ b o,s.heap.get? b = some o→h1.get? b = some o) (e4:s4 = { s with heap:=h1,toks:=tk }) (hfp:∀ b ∈ fp,b < s.heap.objs.size) :
  Inv (cxComp X N scope (clos X.env scope.names []) s.heap.objs.size fp s H) [] (srcSt src σ) H s4:=by
 subst e4
 have kdX:∀ x,(x,NameKind.free) ∈ scope.names→X.env.kindOf x = some .cell ∨ X.env.kindOf x = some .free:=fun x m=>by
  have q:=(S.free _ m rfl).2
  rw [← hsc] at q
  exact q
 have hfree:∀ x,(x,NameKind.free) ∈ scope.names→∃ c,X.env.cells.lookup x = some c:=fun x m=>I.ok.has x (kdX x m)
 have cs:∀ x c,(clos X.env scope.names []).lookup x = some c→X.env.cells.lookup x = some c:=fun x c e=>clos_some scope.names [] x c hfree (fun y d q=>by simp at q) e
 refine ⟨⟨I.ok.mod,S.kind,I.ok.glob,I.ok.blt,Nat.le_refl _,fun x y c h1 h2=>I.ok.inj x y c (cs x c h1) (cs y c h2),fun x hx=>?_,(fun _ _ h _=>nomatch h),I.ok.hd,I.ok.frames,.inl rfl,fun b hb=>⟨Nat.ne_of_lt (hfp b hb),fun x c e=>(f2 b hb).2.2.2.2.1 x c (cs x c e)⟩,
   fun b o e=>I.bs b o e,Nat.le_trans I.ok.bsz I.sz,fun b o e hb=>?_,fun b hb hb'=>?_,I.stack,I.stkFree⟩,
  rfl,I.bare,Un.kept keep,⟨_,hns,fun i x v h1 h2 h3=>?_⟩,fun x c e=>?_,I.hok.fresh (Nat.le_refl _),fun x c e=>I.freeC x c (cs x c e),fun p hp=>absurd (show p ∈ ([]:List (Addr × Obj)) from hp) (by simp),I.hok.kept keep,?_⟩
 ·have hx:(relabel scope X.env).names.lookup x = some .cell ∨ (relabel scope X.env).names.lookup x = some .free:=hx
  have fr:(x,NameKind.free) ∈ scope.names:=by
   rcases hx with hx | hx
   ·obtain ⟨k0,e0,alt⟩:=relabel_look hx
    rcases alt with ⟨rfl,_⟩ | e
    ·exact PySem.mem_of_lookup e0
    ·exact absurd e.symm (S.nocell _ (PySem.mem_of_lookup e0))
   ·obtain ⟨k0,e0,alt⟩:=relabel_look hx
    rcases alt with ⟨rfl,_⟩ | e
    ·exact PySem.mem_of_lookup e0
    ·rw [← e] at e0; exact PySem.mem_of_lookup e0
  exact clos_has scope.names [] x fr
 ·rcases (f2 b hb).2.2.2.1 with z | z
  ·exact I.ok.noex b o e z
  ·exact absurd (Nat.lt_of_lt_of_le (Heap.lt_size e) (Nat.le_trans I.ok.bsz z)) (Nat.lt_irrefl _)
 ·rcases List.mem_cons.mp (I.stkSub b hb') with e | z
  ·exact (f2 b hb).2.1 e
  ·exact (f2 b hb).2.2.1 z
 ·have h1:N[i]? = some x:=h1
  have h2:(src.map fun o=>o.bind fun j=>(σ[j]?).bind id)[i]? = some (some v):=h2
  rw [List.getElem?_map] at h2
  cases e:src[i]? with
  | none=>rw [e] at h2; cases h2
  | some o =>
   rw [e] at h2
   cases o with
   | none=>cases h2
   | some j =>
    have h2:some ((σ[j]?).bind id) = some (some v):=h2
    have h2:=Option.some.inj h2
    have hσ:σ[j]? = some (some v):=by
     cases q:σ[j]? with
     | none=>rw [q] at h2; cases h2
     | some z=>rw [q] at h2; have h2:z = some v:=h2; rw [h2]
    obtain ⟨y,hy,hXj,fr⟩:=S.at_ e
    rw [h1] at hy
    cases hy
    rw [← hXN] at hXj
    obtain ⟨m,hn,hl⟩:=I.loc
    have kd:=kdX x fr
    obtain ⟨u,ru,lk⟩:=hl j x v hXj hσ (kd.elim (fun q=>.inr (.inl q)) fun q=>.inr (.inr q))
    refine ⟨u,ru,?_⟩
    rcases lk with ⟨kl,_⟩ | ⟨_,c,ec,ic⟩
    ·rcases kd with q | q <;> (rw [kl] at q; cases q)
    ·obtain ⟨c',ec'⟩:=clos_has (env:=X.env) scope.names [] x fr
     have same:=cs x c' ec'
     rw [ec] at same
     cases same
     obtain ⟨ob,ho,hd⟩:=ic
     refine .inr ⟨?_,c,ec',ob,keep _ _ ho,hd⟩
     rcases h3 with h3 | h3 | h3
     ·obtain ⟨k0,e0,alt⟩:=relabel_look (show (relabel scope X.env).names.lookup x = some .local from h3)
      exfalso
      rw [(S.free _ fr rfl).1] at e0
      cases e0
      rcases alt with ⟨_,q | q⟩ | q <;> cases q
     ·exact .inl h3
     ·exact .inr h3
 ·obtain ⟨v,o,ho,hd⟩:=I.cell x c (cs x c e)
  exact ⟨v,o,keep _ _ ho,hd⟩
 ·show (src.map _).length = N.length
  rw [List.length_map,← S.src]
  exact List.length_map _
def CompRd (D:Addr) (J:It) (g:TG) (tf:TT) (te:TE) (Q:VK) (τ0:St) (H0:Hp):Prop:=∃ W:Nat→Nat→List V→St→Hp→Prop,(∃ m,W 0 m [] τ0 H0) ∧
 ∀ i m ys τ H,W i m ys τ H→(J.stop i H∧Q (.ref D) H) ∨ (J.go i H∧∃ N:List V→St→Hp→Prop,(∀ zs τ' H',N zs τ' H'→∃ m',m' < m∧W (i + 1) m' zs τ' H')∧∀ x H1,J.yld i H x H1→g x τ H1 fun τ2 H2=>tf τ2 H2 fun b H3 =>
  if b = true then te τ2 H3 fun y H4=>H4 D = some (.lst ys)∧ys.length < sizeLine∧N (ys ++ [y]) τ2 (upd H4 D (.lst (ys ++ [y]))) else N ys τ2 H3)
def tComp (src:List (Option Nat)) (wi:TI) (g:TG) (tf:TT) (te:TE):TE:=fun σ H Q=>wi σ H fun J H1=>∀ D,H1 D = none→CompRd D J g tf te Q (srcSt src σ) (upd H1 D (.lst []))
theorem comp_over {K:PySem.W.Frag} {a D:Addr} {xs:List V} {g:TG} {tf:TT} {te:TE} {Q:VK} {τ0:St} {H0:Hp} (Pv:Nat→List V→St→Hp→Prop) (h0:Pv 0 [] τ0 H0) (hl:∀ i ys τ H,i ≤ xs.length→Pv i ys τ H→SqL K H a xs)
  (hs:∀ i x ys τ H,xs[i]? = some x→Pv i ys τ H→g x τ H fun τ2 H2=>tf τ2 H2 fun b H3=>if b = true then te τ2 H3 fun y H4=>H4 D = some (.lst ys)∧ys.length < sizeLine∧Pv (i + 1) (ys ++ [y]) τ2 (upd H4 D (.lst (ys ++ [y]))) else Pv (i + 1) ys τ2 H3)
  (hd:∀ ys τ H,Pv xs.length ys τ H→Q (.ref D) H) :
  CompRd D (Itl K a) g tf te Q τ0 H0:=by
 refine ⟨fun i m ys τ H=>i ≤ xs.length∧m = xs.length - i∧Pv i ys τ H,⟨_,Nat.zero_le _,rfl,h0⟩,?_⟩
 rintro i m ys τ H ⟨hi,rfl,p⟩
 by_cases e:i = xs.length
 ·subst e
  exact .inl ⟨⟨xs,hl _ _ _ _ hi p,Nat.le_refl _⟩,hd ys τ H p⟩
 ·have hlt:i < xs.length:=by omega
  have hx:xs[i]? = some xs[i]:=List.getElem?_eq_getElem hlt
  refine .inr ⟨⟨xs,xs[i],hl _ _ _ _ hi p,hx⟩,fun zs τ' H'=>Pv (i + 1) zs τ' H',fun zs τ' H' n=>⟨xs.length - (i + 1),by omega,hlt,rfl,n⟩,?_⟩
  rintro x H1 ⟨rfl,hy⟩
  exact hs i x ys τ H1 (hy xs (hl _ _ _ _ hi p)) p
theorem comp_range {lo:Int} {n:Nat} {D:Addr} {g:TG} {tf:TT} {te:TE} {Q:VK} {τ0:St} {H0:Hp} (Pv:Nat→List V→St→Hp→Prop) (h0:Pv 0 [] τ0 H0)
  (hs:∀ i ys τ H,i < n→Pv i ys τ H→g (.int (lo + i)) τ H fun τ2 H2=>tf τ2 H2 fun b H3=>if b = true then te τ2 H3 fun y H4=>H4 D = some (.lst ys)∧ys.length < sizeLine∧Pv (i + 1) (ys ++ [y]) τ2 (upd H4 D (.lst (ys ++ [y]))) else Pv (i + 1) ys τ2 H3)
  (hd:∀ ys τ H,Pv n ys τ H→Q (.ref D) H) :
  CompRd D (Itr lo n) g tf te Q τ0 H0:=by
 refine ⟨fun i m ys τ H=>i ≤ n∧m = n - i∧Pv i ys τ H,⟨_,Nat.zero_le _,rfl,h0⟩,?_⟩
 rintro i m ys τ H ⟨hi,rfl,p⟩
 by_cases e:i = n
 ·subst e
  exact .inl ⟨Nat.le_refl _,hd ys τ H p⟩
 ·have hlt:i < n:=by omega
  refine .inr ⟨hlt,fun zs τ' H'=>Pv (i + 1) zs τ' H',fun zs τ' H' q=>⟨n - (i + 1),by omega,hlt,rfl,q⟩,?_⟩
  rintro x H1 ⟨rfl,rfl⟩
  exact hs i ys τ H1 hlt p
section
variable {X:Cx} {pins:List (Addr × Obj)} {σ:St} {H:Hp} {s:Shared} {osc scope:Scope} {oN N:List Str} {src:List (Option Nat)} {tg iter elt:Expr} {ifs:List Expr} {pos:Pos} {g:TG} {tf:TT} {te:TE} {wi:TI}
theorem comp_block {J:It} {fp:List Addr} {it:Addr} {tn:Nat→Heap→Prop} {Q:VK} {E:Value→Shared→Prop} (hc:X.calm = true) (S:CompSc osc oN N src scope) (hsc:X.env.scope = osc) (hXN:X.N = oN)
  (hg:∀ cl C fp s H,PG (cxComp X N scope cl C fp s H) tg g) (hf:∀ cl C fp s H,PF (cxComp X N scope cl C fp s H) ifs tf) (he:∀ cl C fp s H,PE (cxComp X N scope cl C fp s H) elt te)
  (I:Inv X pins σ H s) (T:Turn X.prog X.w X.K tg J fp it tn) (st:tn 0 s.heap) (f2:∀ b ∈ fp,FpOk X pins H b)
  (rd:∀ D,H D = none→CompRd D J g tf te Q (srcSt src σ) (upd H D (.lst [])))
  {RR:Value→Addr→Result→Shared→Prop}
  (hRR:∀ D C s' H',Inv X pins σ H' s'→(∃ m,s'.heap.Ns C m)→H' C = none→s.heap.objs.size ≤ C→Q (.ref D) H'→RR (.ref D) C (.ok .next) s') :
  wpAny (model X.prog X.w) X.A (newList []) (fun acc s₃=>wpAny (model X.prog X.w) X.A (newFunctionEnv scope X.env.globals (clos X.env scope.names []) [] X.env.qual none .none (some X.env)) (fun cenv s₄ =>
   codeAny (model X.prog X.w) X.A (.compStart (.ListComp elt [⟨tg,iter,ifs,0⟩] scope pos) 0 (.ref it) acc { cenv with scope:=relabel scope X.env }) (RR acc cenv.locals) s₄) E s₃) E s:=by
 have blt:∀ b ∈ fp,b < s.heap.objs.size:=fun b hb=>by
  obtain ⟨o,e,_⟩:=T.obj _ _ st b hb
  exact Heap.lt_size e
 refine wpAny_newObj_type (hd:=by size_fits) ?_
 have hD:H s.heap.objs.size = none:=I.fresh
 have I3:=I.lnew (ys:=[]) (its:=[]) (t':=s.toks) .nil (Nat.zero_le _)
 obtain ⟨W,⟨m0,w0⟩,turn⟩:=rd _ hD
 generalize hH3:upd H s.heap.objs.size (.lst []) = H3 at I3 w0
 generalize hs3:({ s with heap:=s.heap.push { cls:=.type "list",data:=.seq ([]:List Value).toArray },toks:=s.toks }:Shared) = s3 at I3
 have sz3:s3.heap.objs.size = s.heap.objs.size + 1:=by rw [← hs3]; exact Heap.size_push ..
 have f3:∀ b ∈ fp,FpOk X pins H3 b:=fun b hb=>⟨by rw [← hH3,upd_ne (Nat.ne_of_lt (blt b hb))]; exact (f2 b hb).1,(f2 b hb).2⟩
 have st3:tn 0 s3.heap:=T.keep _ _ _ st fun b _ o e=>by rw [← hs3]; exact Heap.get?_push_of_some _ e
 refine wpAny_newFunctionEnv S.nocell (by intro y hy; simp at hy) (fun h1 hns1 hsb1=>?_) S.kind
 have keep:∀ b o,s3.heap.get? b = some o→h1.get? b = some o:=fun b o e=>hsb1.extBut b o (Nat.ne_of_lt (Heap.lt_size e)) (Heap.get?_push_of_some _ e)
 have hns:h1.Ns s3.heap.objs.size fun _=>none:=hns1
 have J3:=comp_inv (tk:=s3.toks + ([]:List (Str × Value)).length) I3 S hsc hXN f3 hns keep rfl (fun b hb=>by rw [sz3]; exact Nat.lt_succ_of_lt (blt b hb))
 have st4:tn 0 h1:=T.keep _ _ _ st3 fun b _ o e=>keep b o e
 have go:codeAny (model X.prog X.w) X.A (.compLoop (.ListComp elt [⟨tg,iter,ifs,0⟩] scope pos) 0 (.ref it) (.ref s.heap.objs.size) (compEnvC scope (clos X.env scope.names []) s3.heap.objs.size X.env)) (RR (.ref s.heap.objs.size) s3.heap.objs.size)
   { s3 with heap:=h1,toks:=s3.toks + ([]:List (Str × Value)).length }:=by
  refine comp_loop (X:=cxComp X N scope (clos X.env scope.names []) s3.heap.objs.size fp s3 H3) hc rfl T (hg _ _ _ _ _) (hf _ _ _ _ _) (he _ _ _ _ _) (fun b hb=>⟨?_,?_,.inl hb,?_,fun p hp=>absurd (show p ∈ ([]:List (Addr × Obj)) from hp) (by simp)⟩)
   W (fun H'=>Q (.ref s.heap.objs.size) H') turn (fun s' τ' H' I' fr' fin=>?_) J3 st4 (fun b hb=>(f3 b hb).1) w0
  ·exact Nat.ne_of_lt (by rw [sz3]; exact Nat.lt_succ_of_lt (blt b hb))
  ·intro hb'
   rcases List.mem_cons.mp (I3.stkSub b hb') with e | z
   ·exact (f3 b hb).2.1 e
   ·exact (f3 b hb).2.2.1 z
  ·exact fun x c e=>(J3.ok.exf b hb).2 x c e
  ·obtain ⟨m,hm,_⟩:=I'.loc
   refine hRR _ _ s' H' (I3.call' I'.os I'.base I'.hok I'.bare fun b hb=>⟨(f3 b hb).2.2.2.1,(f3 b hb).2.1,(f3 b hb).2.2.2.2.1,(f3 b hb).2.2.2.2.2⟩) ⟨m,hm⟩ I'.free (by rw [sz3]; exact Nat.le_succ _) fin
 exact codeAny_compStart_list go (T.self _ 0 _ _ _ st4 go)
theorem comp_gone {H':Hp} {s':Shared} {C:Addr} {h':Heap} (I:Inv X pins σ H s) (I':Inv X pins σ H' s') (hC:H' C = none) (hz:s.heap.objs.size ≤ C) (hs:Heap.SameBut C s'.heap h'):Inv X pins σ H' { s' with heap:=h' }:=by
 refine I'.turned (t':=s'.toks) (it:=C) (fun b o hb e=>hs.extBut b o hb e) hC (fun e=>?_) (.inr (Nat.le_trans I.sz hz)) (fun x c e q=>?_) fun p hp e=>?_
 ·exact absurd (Nat.lt_of_lt_of_le I.lt hz) (by rw [e]; exact Nat.lt_irrefl _)
 ·obtain ⟨v,o,ho,_⟩:=I.cell x c e
  exact absurd (Nat.lt_of_lt_of_le (Heap.lt_size ho) hz) (by rw [q]; exact Nat.lt_irrefl _)
 ·exact absurd (Nat.lt_of_lt_of_le (Heap.lt_size (I.pin p hp).1) hz) (by rw [e]; exact Nat.lt_irrefl _)
theorem pe_comp (hc:X.calm = true) (S:CompSc osc oN N src scope) (hsc:X.env.scope = osc) (hXN:X.N = oN) (hi:PI X tg iter wi)
  (hg:∀ cl C fp s H,PG (cxComp X N scope cl C fp s H) tg g) (hf:∀ cl C fp s H,PF (cxComp X N scope cl C fp s H) ifs tf) (he:∀ cl C fp s H,PE (cxComp X N scope cl C fp s H) elt te)
  (hs:∀ x,foldedSetIterable iter X.env x = pure x:=by intro _; rfl):PE X (.ListComp elt [⟨tg,iter,ifs,0⟩] scope pos) (tComp src wi g tf te):=by
 intro pins s σ H Q I h
 have hclos:closureFor scope X.env = pure (clos X.env scope.names []):=closureFor_eq fun x m=>I.ok.has x (by have q:=(S.free _ m rfl).2; rw [← hsc] at q; exact q)
 rw [eval_ListComp]
 refine wpAny_comprehension_free (use:=none) rfl hs hclos S.kind S.locals (thn (hi pins s σ H _ I h) fun v s1 h1=>thn h1 fun itv s2 h2=>?_)
 obtain ⟨it,fp,tn,J,H2,e,I2,T,st2,f2,rd⟩:=h2
 subst e
 refine comp_block (RR:=fun acc C=>compPost (model X.prog X.w) X.A X.xe none (EP X pins σ Q) acc C) hc S hsc hXN hg hf he I2 T st2 f2 rd fun D C s' H' I' hm hC hz q=>?_
 obtain ⟨m,hm⟩:=hm
 exact ⟨m,hm,fun h' hs'=>⟨.ref D,H',comp_gone I2 I' hC hz hs',rfl,q⟩⟩
theorem ps_comp {y:Str} {i:Nat} {py spos:Pos} (hN:X.N.Nodup) (hyi:X.N[i]? = some y) (hy:X.env.scope.names.lookup y = some .local) (hc:X.calm = true) (S:CompSc osc oN N src scope) (hsc:X.env.scope = osc) (hXN:X.N = oN) (hi:PI X tg iter wi)
  (hg:∀ cl C fp s H,PG (cxComp X N scope cl C fp s H) tg g) (hf:∀ cl C fp s H,PF (cxComp X N scope cl C fp s H) ifs tf) (he:∀ cl C fp s H,PE (cxComp X N scope cl C fp s H) elt te)
  (hs:∀ x,foldedSetIterable iter X.env x = pure x:=by intro _; rfl)
  (hsw:swapsWith (.ListComp elt [⟨tg,iter,ifs,0⟩] scope pos) (some (.Name y py)) spos.line X.env = pure true:=by rfl) :
  PS X (.Assign [.Name y py] (.ListComp elt [⟨tg,iter,ifs,0⟩] scope pos) spos) (tAsg (tComp src wi g tf te) (gName i)):=by
 intro pins s σ H De I h
 have hclos:closureFor scope X.env = pure (clos X.env scope.names []):=closureFor_eq fun x m=>I.ok.has x (by have q:=(S.free _ m rfl).2; rw [← hsc] at q; exact q)
 rw [exec_Assign_Name_used _ _ _ _ hsw]
 refine wpAny_bind (wpAny_standAt (wpAny_bind ?_))
 show wpAny _ X.A (do let _ ← comprehension (.ListComp elt [⟨tg,iter,ifs,0⟩] scope pos) scope X.env _ (newList []) false (eval iter X.env) (some (assign (.Name y py) X.env))) _ _ s
 refine wpAny_bind (wpAny_mono (wpAny_comprehension_free (use:=some (assign (.Name y py) X.env)) (Q:=fun _ s'=>SP X pins De .next s') rfl hs hclos S.kind S.locals
  (thn (hi pins s σ H _ I h) fun v s1 h1=>thn h1 fun itv s2 h2=>?_)) (fun _ s' hq=>wpAny_pure (wpAny_pure hq)) fun _ _ e=>e)
 obtain ⟨it,fp,tn,J,H2,e,I2,T,st2,f2,rd⟩:=h2
 subst e
 refine comp_block (Q:=fun x H1=>gName i x σ H1 De.nx) (RR:=fun acc C=>compPost (model X.prog X.w) X.A X.xe (some (assign (.Name y py) X.env)) (fun _ s'=>SP X pins De .next s') acc C) hc S hsc hXN hg hf he I2 T st2 f2 rd fun D C s' H' I' hm hC hz q=>?_
 obtain ⟨m,hm⟩:=hm
 obtain ⟨o,es,ep,ho,hd,r⟩:=id hm
 have nL:C ≠ X.env.locals:=fun e=>absurd (Nat.lt_of_lt_of_le I2.lt hz) (by rw [e]; exact Nat.lt_irrefl _)
 have nF:C ∉ X.fs:=I2.nofs hz
 have I9:Inv X (pins ++ [(C,o)]) σ H' s':=I'.pins_of fun p hp=>by
  rcases List.mem_append.mp hp with hp | hp
  ·exact I'.pin p (List.mem_append_right _ hp)
  ·rw [List.mem_singleton] at hp
   subst hp
   exact ⟨ho,hC,nL,nF,fun v=>by rw [hd]; exact fun z=>nomatch z⟩
 show wpAny _ X.A (assign (.Name y py) X.env (.ref D)) _ _ s'
 refine thn (pg_name (i:=i) hN hyi (.inl hy) (.inr hy) _ s' σ H' (.ref D) (.ref D) De.nx I9 rfl q) fun _ s'' ⟨σ2,H2',I10,q10⟩=>?_
 have pinC:=I10.pin (C,o) (List.mem_append_right _ (List.mem_append_right _ (List.mem_singleton.mpr rfl)))
 refine ⟨m,⟨o,es,ep,pinC.1,hd,r⟩,fun h' hs'=>⟨σ2,H2',?_,q10⟩⟩
 have I11:Inv X pins σ2 H2' s'':=I10.pins_of fun p hp=>I10.pin p (List.mem_append_right _ (List.mem_append_left _ hp))
 refine I11.turned (t':=s''.toks) (it:=C) (fun b o hb e=>hs'.extBut b o hb e) pinC.2.1 nL (.inr (Nat.le_trans I2.sz hz)) (fun x c e q=>?_) fun p hp e=>?_
 ·obtain ⟨v,o,ho,_⟩:=I2.cell x c e
  exact absurd (Nat.lt_of_lt_of_le (Heap.lt_size ho) hz) (by rw [q]; exact Nat.lt_irrefl _)
 ·exact absurd (Nat.lt_of_lt_of_le (Heap.lt_size (I2.pin p hp).1) hz) (by rw [e]; exact Nat.lt_irrefl _)
end
section
variable {X:Cx} {N:List Str} {scope:Scope} {cl:List (Str × Addr)} {C:Addr} {fp:List Addr} {s:Shared} {H:Hp}
theorem cix_tup:IxR (cxComp X N scope cl C fp s H) (rIxT X.K):=ix_tup
theorem cix_list:IxR (cxComp X N scope cl C fp s H) (rIxL X.K):=ix_list
theorem cop_in:OpR (cxComp X N scope cl C fp s H) (compareOp .In) (rIn X.K false):=op_in_seq
theorem ccall_list:CallR (cxComp X N scope cl C fp s H) (.type "list") (fun xs H Q=>∃ p ys,xs = [.ref p]∧(SqL X.K H p ys ∨ SqT X.K H p ys)∧∀ l,H l = none→Q (.ref l) (upd H l (.lst ys))):=call_list_of
end
end L2
set_option linter.all false
namespace Ws
open PySem L2
inductive Dat where
 | non | bl (b:Bool) | int (i:Int) | str (x:Str) | tup (ds:List Dat) | lst (ds:List Dat)
mutual
inductive DAt (G:Hp):V→Dat→Prop where
 | non:DAt G .non .non
 | bl (b:Bool):DAt G (.bl b) (.bl b)
 | int (i:Int):DAt G (.int i) (.int i)
 | str (x:Str):DAt G (.str x) (.str x)
 | tup {a:Addr} {vs:List V} {ds:List Dat}:G a = some (.tup vs)→DsAt G vs ds→DAt G (.ref a) (.tup ds)
 | lst {a:Addr} {vs:List V} {ds:List Dat}:G a = some (.lst vs)→DsAt G vs ds→DAt G (.ref a) (.lst ds)
inductive DsAt (G:Hp):List V→List Dat→Prop where
 | nil:DsAt G [] []
 | cons {v:V} {d:Dat} {vs:List V} {ds:List Dat}:DAt G v d→DsAt G vs ds→DsAt G (v :: vs) (d :: ds)
end
mutual
theorem DAt.mono {G H:Hp} (s:Same G H):∀ {v:V} {d:Dat},DAt G v d→DAt H v d
 | _,_,.non=>.non
 | _,_,.bl b=>.bl b
 | _,_,.int i=>.int i
 | _,_,.str x=>.str x
 | _,_,.tup e h=>.tup (s _ _ e) (DsAt.mono s h)
 | _,_,.lst e h=>.lst (s _ _ e) (DsAt.mono s h)
theorem DsAt.mono {G H:Hp} (s:Same G H):∀ {vs:List V} {ds:List Dat},DsAt G vs ds→DsAt H vs ds
 | _,_,.nil=>.nil
 | _,_,.cons h t=>.cons (DAt.mono s h) (DsAt.mono s t)
end
theorem DsAt.append {G:Hp}:∀ {vs ws:List V} {ds es:List Dat},DsAt G vs ds→DsAt G ws es→DsAt G (vs ++ ws) (ds ++ es)
 | _,_,_,_,.nil,h=>h
 | _,_,_,_,.cons d t,h=>.cons d (DsAt.append t h)
theorem DsAt.length {G:Hp}:∀ {vs:List V} {ds:List Dat},DsAt G vs ds→vs.length = ds.length
 | _,_,.nil=>rfl
 | _,_,.cons _ t=>congrArg (· + 1) t.length
theorem DsAt.split {G:Hp}:∀ {ds es:List Dat} {vs:List V},DsAt G vs (ds ++ es)→∃ ws us,vs = ws ++ us∧DsAt G ws ds∧DsAt G us es
 | [],_,vs,h=>⟨[],vs,rfl,.nil,h⟩
 | d :: ds,es,_,.cons h t=>by
  obtain ⟨ws,us,rfl,h1,h2⟩:=DsAt.split (ds:=ds) t
  exact ⟨_ :: ws,us,rfl,.cons h h1,h2⟩
theorem DsAt.last {G:Hp} {ds:List Dat} {d:Dat} {vs:List V} (h:DsAt G vs (ds ++ [d])):∃ ws v,vs = ws ++ [v]∧DsAt G ws ds∧DAt G v d:=by
 obtain ⟨ws,us,rfl,h1,h2⟩:=DsAt.split h
 cases h2 with
 | cons hv t=>cases t with | nil=>exact ⟨ws,_,rfl,h1,hv⟩
theorem DsAt.take {G:Hp}:∀ {vs:List V} {ds:List Dat} (n:Nat),DsAt G vs ds→DsAt G (vs.take n) (ds.take n)
 | _,_,0,_=>.nil
 | _,_,_ + 1,.nil=>.nil
 | _,_,n + 1,.cons h t=>.cons h (DsAt.take n t)
theorem DsAt.drop {G:Hp}:∀ {vs:List V} {ds:List Dat} (n:Nat),DsAt G vs ds→DsAt G (vs.drop n) (ds.drop n)
 | _,_,0,h=>h
 | _,_,_ + 1,.nil=>.nil
 | _,_,n + 1,.cons _ t=>DsAt.drop n t
theorem DsAt.reverse {G:Hp}:∀ {vs:List V} {ds:List Dat},DsAt G vs ds→DsAt G vs.reverse ds.reverse
 | _,_,.nil=>.nil
 | _,_,.cons h t=>by
  rw [List.reverse_cons,List.reverse_cons]
  exact DsAt.append (DsAt.reverse t) (.cons h .nil)
theorem DsAt.get {G:Hp}:∀ {vs:List V} {ds:List Dat} {i:Nat} {d:Dat},DsAt G vs ds→ds[i]? = some d→∃ v,vs[i]? = some v∧DAt G v d
 | _,_,_,_,.nil,e=>by simp at e
 | _,_,0,_,.cons h _,e=>by simp at e; subst e; exact ⟨_,rfl,h⟩
 | _,_,i + 1,_,.cons _ t,e=>by
  obtain ⟨v,h1,h2⟩:=DsAt.get (i:=i) t (by simpa using e)
  exact ⟨v,by simpa using h1,h2⟩
theorem DAt.tup_inv {G:Hp} {v:V} {ds:List Dat} (h:DAt G v (.tup ds)):∃ a vs,v = .ref a∧G a = some (.tup vs)∧DsAt G vs ds:=by
 cases h with | tup e t=>exact ⟨_,_,rfl,e,t⟩
theorem DAt.lst_inv {G:Hp} {v:V} {ds:List Dat} (h:DAt G v (.lst ds)):∃ a vs,v = .ref a∧G a = some (.lst vs)∧DsAt G vs ds:=by
 cases h with | lst e t=>exact ⟨_,_,rfl,e,t⟩
theorem DAt.str_inv {G:Hp} {v:V} {x:Str} (h:DAt G v (.str x)):v = .str x:=by cases h; rfl
theorem DAt.int_inv {G:Hp} {v:V} {x:Int} (h:DAt G v (.int x)):v = .int x:=by cases h; rfl
def del (H:Hp) (p:Addr):Hp:=fun b=>if b = p then none else H b
theorem del_at {H:Hp} {p:Addr}:del H p p = none:=by unfold del; rw [if_pos rfl]
theorem del_ne {H:Hp} {p b:Addr} (h:b ≠ p):del H p b = H b:=by unfold del; rw [if_neg h]
theorem del_same {H:Hp} {p:Addr}:Same (del H p) H:=fun b o e=>by
 by_cases h:b = p
 ·rw [h,del_at] at e; cases e
 ·rwa [del_ne h] at e
theorem same_del {G H:Hp} {p:Addr} (s:Same G H) (h:G p = none):Same G (del H p):=fun b o e=>by
 rw [del_ne (ne_of_none e h)]; exact s b o e
theorem same_new {H:Hp} {p:Addr} (h:H p = none) (o:HO):Same H (upd H p o):=fun b u q=>by rw [upd_ne (ne_of_none q h)]; exact q
theorem same_upd {G H:Hp} {p:Addr} (s:Same G H) (h:G p = none) (o:HO):Same G (upd H p o):=fun b u q=>by rw [upd_ne (ne_of_none q h)]; exact s b u q
theorem del_upd {H:Hp} {p:Addr} {o:HO}:Same (del H p) (upd H p o):=same_upd del_same del_at o
mutual
def Dat.wt:Dat→Nat
 | .tup ds=>1 + wts ds
 | .lst ds=>1 + wts ds
 | _=>1
def wts:List Dat→Nat
 | []=>0
 | d :: r=>d.wt + wts r
end
theorem Dat.wt_pos (d:Dat):1 ≤ d.wt:=by cases d <;> simp only [Dat.wt] <;> omega
theorem wts_append:∀ (xs ys:List Dat),wts (xs ++ ys) = wts xs + wts ys
 | [],ys=>by simp [wts]
 | x :: xs,ys=>by
  have h:=wts_append xs ys
  show x.wt + wts (xs ++ ys) = x.wt + wts xs + wts ys
  omega
theorem length_wts:∀ (xs:List Dat),xs.length ≤ wts xs
 | []=>Nat.le_refl _
 | x :: xs=>by
  have h:=length_wts xs
  have:=x.wt_pos
  show xs.length + 1 ≤ x.wt + wts xs
  omega
inductive T where
 | mark (i:Int)
 | un (w:List Str) (t:T)
 | bin (w:List Str) (t u:T)
def T.dat:T→Dat
 | .mark i=>.tup [.str "mark",.int i]
 | .un w t=>.tup (w.map .str ++ [t.dat])
 | .bin w t u=>.tup (w.map .str ++ [t.dat,u.dat])
def T.kids:T→List T
 | .mark _=>[]
 | .un _ t=>[t]
 | .bin _ t u=>[t,u]
def T.parts:T→List T
 | .mark i=>[.mark i]
 | .un w t=>t.parts ++ [.un w t]
 | .bin w t u=>t.parts ++ u.parts ++ [.bin w t u]
def Head (w:List Str):Prop:=(∃ s:Str,w = [s]∧(s = "not" ∨ s = "and" ∨ s = "or")) ∨ (∃ s x:Str,w = [s,x]∧s ≠ "mark"∧s ≠ "not"∧s ≠ "and"∧s ≠ "or")
def T.ok:T→Prop
 | .mark _=>True
 | .un w t=>Head w∧t.ok
 | .bin w t u=>Head w∧t.ok∧u.ok
theorem T.parts_kids (t:T):t.parts = t.kids.flatMap T.parts ++ [t]:=by
 cases t <;> simp [T.parts,T.kids]
theorem T.parts_pos (t:T):1 ≤ t.parts.length:=by rw [T.parts_kids,List.length_append]; exact Nat.le_add_left _ _
theorem T.ok_kids {t:T} (h:t.ok):∀ k ∈ t.kids,k.ok:=by
 cases t with
 | mark i=>intro k hk; cases hk
 | un w t=>intro k hk; simp only [T.kids,List.mem_singleton] at hk; subst hk; exact h.2
 | bin w t u =>
  intro k hk
  simp only [T.kids,List.mem_cons,List.not_mem_nil,or_false] at hk
  rcases hk with rfl | rfl
  ·exact h.2.1
  ·exact h.2.2
def cnt:List T→Nat
 | []=>0
 | t :: r=>t.parts.length + cnt r
theorem cnt_append:∀ (xs ys:List T),cnt (xs ++ ys) = cnt xs + cnt ys
 | [],ys=>by simp [cnt]
 | x :: xs,ys=>by
  have h:=cnt_append xs ys
  show x.parts.length + cnt (xs ++ ys) = x.parts.length + cnt xs + cnt ys
  omega
theorem cnt_kids (t:T):t.parts.length = cnt t.kids + 1:=by
 cases t <;> simp [T.parts,T.kids,cnt] <;> omega
theorem le_cnt:∀ (ts:List T),ts.length ≤ cnt ts
 | []=>Nat.le_refl _
 | t :: r=>by
  have h:=le_cnt r
  have:=t.parts_pos
  show r.length + 1 ≤ t.parts.length + cnt r
  omega
def back (ts:List T):List T:=ts.reverse.flatMap fun t=>t.parts.reverse
theorem back_snoc (ts:List T) (t:T):back (ts ++ [t]) = t :: back (ts ++ t.kids):=by
 have e:t.parts.reverse = t :: (t.kids.reverse.flatMap fun k=>k.parts.reverse):=by
  cases t <;> simp [T.parts,T.kids]
 unfold back
 rw [List.reverse_append,List.reverse_append,List.flatMap_append,List.flatMap_append]
 simp [e]
theorem back_one (t:T):back [t] = t.parts.reverse:=by simp [back]
theorem back_length (ts:List T):(back ts).length = cnt ts:=by
 induction ts with
 | nil=>rfl
 | cons t r ih =>
  have e:back (t :: r) = back r ++ back [t]:=by simp [back]
  rw [e,List.length_append,ih,back_one,List.length_reverse]
  show _ = t.parts.length + cnt r
  omega
def item (t:T):Dat:=.tup [t.dat,.lst (t.parts.map T.dat)]
end Ws
namespace Ws
open PySem L2
theorem at0 {x:V} {r:List V}:atI (x :: r) (0:Int) = some x:=by
 have h:(x :: r)[0]? = some x:=rfl
 exact atI_nat (j:=0) h
theorem at1 {x y:V} {r:List V}:atI (x :: y :: r) (1:Int) = some y:=by
 have h:(x :: y :: r)[1]? = some y:=rfl
 exact atI_nat (j:=1) h
theorem line_le {n:Nat} (h:n ≤ 16000000):n ≤ sizeLine:=Nat.le_trans h (by decide)
theorem line_lt {n:Nat} (h:n ≤ 16000000):n < sizeLine:=Nat.lt_of_le_of_lt h (by decide)
theorem nowhole {xs:List V} {k:Nat} {hi:Option Int} (h:0 < k) (h':0 < xs.length):¬ (HT.sIx xs.length 0 (some (k:Int)) = 0∧HT.sIx xs.length xs.length hi = xs.length):=fun c=>by
 have:=c.1
 rw [HT.sIx_nat] at this
 omega
theorem last_at {α:Type} (xs:List α) (v:α):(xs ++ [v])[(xs ++ [v]).length - 1]? = some v:=by simp
theorem bList:bootBuiltins "list" = some (.type "list"):=by decide +kernel
theorem bTuple:bootBuiltins "tuple" = some (.type "tuple"):=by decide +kernel
theorem bInt:bootBuiltins "int" = some (.type "int"):=by decide +kernel
theorem bBool:bootBuiltins "bool" = some (.type "bool"):=by decide +kernel
theorem bStr:bootBuiltins "str" = some (.type "str"):=by decide +kernel
theorem bIs:bootBuiltins "isinstance" = some (.builtin "isinstance"):=by decide +kernel
theorem bSum:bootBuiltins "sum" = some (.builtin "sum"):=by decide +kernel
structure Blt (mg:Str→Option Value):Prop where
 list:mg "list" = none
 tuple:mg "tuple" = none
 int:mg "int" = none
 bool:mg "bool" = none
 str:mg "str" = none
 len:mg "len" = none
 isinst:mg "isinstance" = none
 sum:mg "sum" = none
 range:mg "range" = none
 min:mg "min" = none
 max:mg "max" = none
section
variable {K:PySem.W.Frag}
theorem kLL:PySem.W.kitAny K (.type "list") [.type "list",.type "tuple"] = some true:=by kernel_rfl
theorem kTL:PySem.W.kitAny K (.type "tuple") [.type "list",.type "tuple"] = some true:=by kernel_rfl
theorem kIL:PySem.W.kitAny K (.type "int") [.type "list",.type "tuple"] = some false:=by kernel_rfl
theorem kSL:PySem.W.kitAny K (.type "str") [.type "list",.type "tuple"] = some false:=by kernel_rfl
theorem kBL:PySem.W.kitAny K (.type "bool") [.type "list",.type "tuple"] = some false:=by kernel_rfl
theorem kNL:PySem.W.kitAny K (.type "NoneType") [.type "list",.type "tuple"] = some false:=by kernel_rfl
theorem o_ll:PySem.W.kitOne K (.type "list") (.type "list") = some true:=by kernel_rfl
theorem o_lt:PySem.W.kitOne K (.type "list") (.type "tuple") = some false:=by kernel_rfl
theorem o_tl:PySem.W.kitOne K (.type "tuple") (.type "list") = some false:=by kernel_rfl
theorem o_tt:PySem.W.kitOne K (.type "tuple") (.type "tuple") = some true:=by kernel_rfl
theorem o_ii:PySem.W.kitOne K (.type "int") (.type "int") = some true:=by kernel_rfl
theorem o_ib:PySem.W.kitOne K (.type "int") (.type "bool") = some false:=by kernel_rfl
theorem o_is:PySem.W.kitOne K (.type "int") (.type "str") = some false:=by kernel_rfl
theorem o_bb:PySem.W.kitOne K (.type "bool") (.type "bool") = some true:=by kernel_rfl
theorem o_sb:PySem.W.kitOne K (.type "str") (.type "bool") = some false:=by kernel_rfl
theorem o_ss:PySem.W.kitOne K (.type "str") (.type "str") = some true:=by kernel_rfl
end
theorem strs_inv {G:Hp}:∀ {w:List Str} {vs:List V},DsAt G vs (w.map .str)→vs = w.map V.str
 | [],_,.nil=>rfl
 | x :: w,_,.cons h t=>by
  have e:=h.str_inv
  rw [e,strs_inv t]
  rfl
theorem T.dat_kids {t:T} (h:t.ok):(∃ i,t = .mark i) ∨ ∃ w,Head w∧t.dat = .tup (w.map .str ++ t.kids.map T.dat):=by
 cases t with
 | mark i=>exact .inl ⟨i,rfl⟩
 | un w t=>exact .inr ⟨w,h.1,rfl⟩
 | bin w t u=>exact .inr ⟨w,h.1,rfl⟩
theorem T.kids_len (t:T):t.kids.length ≤ 2:=by cases t <;> simp [T.kids]
theorem T.dat_ref {G:Hp} {v:V} {t:T} (h:DAt G v t.dat):∃ a,v = .ref a:=by
 cases t with
 | mark i=>obtain ⟨a,_,e,_⟩:=h.tup_inv; exact ⟨a,e⟩
 | un w t=>obtain ⟨a,_,e,_⟩:=h.tup_inv; exact ⟨a,e⟩
 | bin w t u=>obtain ⟨a,_,e,_⟩:=h.tup_inv; exact ⟨a,e⟩
end Ws
namespace Ws
open PySem L2
abbrev World2:=List (List Int × List Int)
def dints (l:List Int):Dat:=.lst (l.map .int)
def dbools (l:List Bool):Dat:=.lst (l.map .bl)
def sdat (s:List Int × List Int):Dat:=.tup [dints s.1,dints s.2]
def wdat (W:World2):Dat:=.lst (W.map sdat)
def odat:Option Int→Dat
 | none=>.non
 | some i=>.int i
abbrev Lb:=Bool × Option Int × Option Int
def lbdat (l:Lb):Dat:=.tup [.bl l.1,odat l.2.1,odat l.2.2]
def lsdat (L:List Lb):Dat:=.lst (L.map lbdat)
structure Valid (n b:Nat) (W:World2):Prop where
 len:W.length = n
 all:∀ s ∈ W,s.2 ≠ []∧(∀ d ∈ s.2,0 ≤ d∧d < (n:Int))∧s.1.length ≤ b∧s.2.length ≤ b
theorem ints_inv {G:Hp}:∀ {l:List Int} {vs:List V},DsAt G vs (l.map .int)→vs = l.map V.int
 | [],_,.nil=>rfl
 | x :: w,_,.cons h t=>by
  have e:=h.int_inv
  rw [e,ints_inv t]
  rfl
theorem ints_mk {G:Hp}:∀ (l:List Int),DsAt G (l.map V.int) (l.map .int)
 | []=>.nil
 | x :: w=>.cons (.int x) (ints_mk w)
theorem DAt.bl_inv {G:Hp} {v:V} {x:Bool} (h:DAt G v (.bl x)):v = .bl x:=by cases h; rfl
theorem DAt.non_inv {G:Hp} {v:V} (h:DAt G v .non):v = .non:=by cases h; rfl
theorem bools_inv {G:Hp}:∀ {l:List Bool} {vs:List V},DsAt G vs (l.map .bl)→vs = l.map V.bl
 | [],_,.nil=>rfl
 | x :: w,_,.cons h t=>by
  have e:=h.bl_inv
  rw [e,bools_inv t]
  rfl
theorem bools_mk {G:Hp}:∀ (l:List Bool),DsAt G (l.map V.bl) (l.map .bl)
 | []=>.nil
 | x :: w=>.cons (.bl x) (bools_mk w)
theorem DAt.ints_at {G:Hp} {v:V} {l:List Int} (h:DAt G v (dints l)):∃ a,v = .ref a∧G a = some (.lst (l.map V.int)):=by
 obtain ⟨a,vs,rfl,e,d⟩:=DAt.lst_inv h
 exact ⟨a,rfl,by rw [e,ints_inv d]⟩
theorem DAt.bools_at {G:Hp} {v:V} {l:List Bool} (h:DAt G v (dbools l)):∃ a,v = .ref a∧G a = some (.lst (l.map V.bl)):=by
 obtain ⟨a,vs,rfl,e,d⟩:=DAt.lst_inv h
 exact ⟨a,rfl,by rw [e,bools_inv d]⟩
theorem DAt.of_ints {G:Hp} {a:Addr} {l:List Int} (h:G a = some (.lst (l.map V.int))):DAt G (.ref a) (dints l):=.lst h (ints_mk l)
theorem DAt.of_bools {G:Hp} {a:Addr} {l:List Bool} (h:G a = some (.lst (l.map V.bl))):DAt G (.ref a) (dbools l):=.lst h (bools_mk l)
theorem sdat_inv {G:Hp} {v:V} {s:List Int × List Int} (h:DAt G v (sdat s)):∃ a m d,v = .ref a∧G a = some (.tup [.ref m,.ref d])∧G m = some (.lst (s.1.map V.int))∧G d = some (.lst (s.2.map V.int)):=by
 obtain ⟨a,vs,rfl,e,hv⟩:=DAt.tup_inv h
 cases hv with | cons h1 hv=>cases hv with | cons h2 hv =>
 cases hv
 obtain ⟨m,rfl,em⟩:=h1.ints_at
 obtain ⟨d,rfl,ed⟩:=h2.ints_at
 exact ⟨a,m,d,rfl,e,em,ed⟩
theorem sdat_mk {G:Hp} {a m d:Addr} {s:List Int × List Int} (e:G a = some (.tup [.ref m,.ref d])) (em:G m = some (.lst (s.1.map V.int))) (ed:G d = some (.lst (s.2.map V.int))):DAt G (.ref a) (sdat s) :=
 .tup e (.cons (.of_ints em) (.cons (.of_ints ed) .nil))
theorem DsAt.nth {G:Hp} {α:Type} {vs:List V} {ts:List α} {φ:α→Dat} (h:DsAt G vs (ts.map φ)) {i:Nat} (hi:i < ts.length):∃ v,vs[i]? = some v∧DAt G v (φ ts[i]) :=
 h.get (i:=i) (d:=φ ts[i]) (by rw [List.getElem?_map,List.getElem?_eq_getElem hi]; rfl)
theorem atI_of {α:Type} {xs:List α} {i:Int} {j:Nat} {v:α} (h:xs[j]? = some v) (e:i = (j:Int)):atI xs i = some v:=by rw [e]; exact atI_nat h
theorem map_nth {α β:Type} {f:α→β} {xs:List α} {j:Nat} (h:j < xs.length):(xs.map f)[j]? = some (f xs[j]):=by
 rw [List.getElem?_map,List.getElem?_eq_getElem h]
 rfl
theorem int_mem {ns:List Int} {v:V} {i:Nat} (h:(ns.map V.int)[i]? = some v):∃ z,v = .int z∧ns[i]? = some z:=by
 rw [List.getElem?_map] at h
 cases e:ns[i]? with
 | none=>rw [e] at h; cases h
 | some z=>rw [e] at h; exact ⟨z,(Option.some.inj h).symm,rfl⟩
theorem idx_mod {xs:List V} {z:Int} {n:Nat} (hn:xs.length = n) (h0:0 < n):∃ v,atI xs (z % (n:Int)) = some v∧xs[(z % (n:Int)).toNat]? = some v:=by
 have h1:0 ≤ z % (n:Int):=Int.emod_nonneg _ (by omega)
 have h2:z % (n:Int) < (n:Int):=Int.emod_lt_of_pos _ (by omega)
 have hk:(z % (n:Int)).toNat < xs.length:=by omega
 have ek:(((z % (n:Int)).toNat:Nat):Int) = z % (n:Int):=by omega
 refine ⟨xs[(z % (n:Int)).toNat],?_,List.getElem?_eq_getElem hk⟩
 have q:=atI_nat (List.getElem?_eq_getElem hk)
 rw [ek] at q
 exact q
structure Grow {α:Type} (φ:α→Dat) (H0 H:Hp) (q:Addr) (ts:List α) (vs:List V):Prop where
 ex:∃ G,Same H0 G∧Same G H∧G q = none∧DsAt G vs (ts.map φ)
 at_:H q = some (.lst vs)
section
variable {α:Type} {φ:α→Dat} {H0 H H1:Hp} {q:Addr} {ts:List α} {vs:List V}
theorem Grow.start (h:H0 q = none):Grow φ H0 (upd H0 q (.lst [])) q [] []:=⟨⟨H0,Same.refl _,same_new h _,h,.nil⟩,upd_same⟩
theorem Grow.from (sm:Same H0 H) (h:H q = none):Grow φ H0 (upd H q (.lst [])) q [] []:=⟨⟨H,sm,same_new h _,h,.nil⟩,upd_same⟩
theorem Grow.keep (g:Grow φ H0 H q ts vs) (s:Same H H1):Grow φ H0 H1 q ts vs:=by
 obtain ⟨⟨G,a,b,c,d⟩,e⟩:=g
 exact ⟨⟨G,a,b.trans s,c,d⟩,s _ _ e⟩
theorem Grow.free (g:Grow φ H0 H q ts vs):H0 q = none:=by
 obtain ⟨⟨G,a,b,c,d⟩,e⟩:=g
 exact a.free c
theorem Grow.same (g:Grow φ H0 H q ts vs):Same H0 H:=by
 obtain ⟨⟨G,a,b,c,d⟩,e⟩:=g
 exact a.trans b
theorem Grow.push (g:Grow φ H0 H q ts vs) {v:V} {t:α} (h:DAt (del H q) v (φ t)):Grow φ H0 (upd H q (.lst (vs ++ [v]))) q (ts ++ [t]) (vs ++ [v]):=by
 obtain ⟨⟨G,a,b,c,d⟩,e⟩:=g
 refine ⟨⟨del H q,a.trans (same_del b c),del_upd,del_at,?_⟩,upd_same⟩
 rw [List.map_append]
 exact (d.mono (same_del b c)).append (.cons h .nil)
theorem Grow.len (g:Grow φ H0 H q ts vs):vs.length = ts.length:=by
 obtain ⟨⟨G,a,b,c,d⟩,e⟩:=g
 rw [d.length,List.length_map]
theorem Grow.done (g:Grow φ H0 H q ts vs):DAt H (.ref q) (.lst (ts.map φ)):=by
 obtain ⟨⟨G,a,b,c,d⟩,e⟩:=g
 exact .lst e (d.mono b)
theorem Grow.items (g:Grow φ H0 H q ts vs):DsAt H vs (ts.map φ):=by
 obtain ⟨⟨G,a,b,c,d⟩,e⟩:=g
 exact d.mono b
theorem Grow.old (g:Grow φ H0 H q ts vs) {v:V} {d:Dat} (h:DAt H0 v d):DAt (del H q) v d:=h.mono (same_del g.same g.free)
end
def tMay (j:Nat) (Pre:St→Hp→Prop) (Post:St→V→Prop):TS:=fun D σ H=>∃ (p:Addr) (xs:List V),σ[j]? = some (some (.ref p))∧H p = some (.lst xs)∧xs.length ≤ 1000000∧Pre σ H ∧
 ∀ (H2:Hp) (ys:List V),(ys = xs ∨ ∃ y,Post σ y∧ys = xs ++ [y])→H2 p = some (.lst ys)→(∀ b o,b ≠ p→H b = some o→H2 b = some o)→D.nx σ H2
structure Rec where
 t:Addr
 m:Addr
 d:Addr
 s:List Int × List Int
structure Line (H0 H:Hp) (q:Addr) (rs:List Rec):Prop where
 same:Same H0 H
 fq:H0 q = none
 at_:H q = some (.lst (rs.map fun r=>V.ref r.t))
 tu:∀ (i:Nat) (r:Rec),rs[i]? = some r→H r.t = some (.tup [.ref r.m,.ref r.d])∧H r.m = some (.lst (r.s.1.map V.int))∧H r.d = some (.lst (r.s.2.map V.int))∧H0 r.d = none∧r.d ≠ q∧r.m ≠ q∧r.t ≠ q
 md:∀ (i j:Nat) (r r':Rec),rs[i]? = some r→rs[j]? = some r'→r.m ≠ r'.d
 dd:∀ (i j:Nat) (r r':Rec),rs[i]? = some r→rs[j]? = some r'→i ≠ j→r.d ≠ r'.d
theorem set_self {α:Type} {xs:List α} {j:Nat} {x:α} (h:xs[j]? = some x):xs.set j x = xs:=by
 refine List.ext_getElem? fun i=>?_
 by_cases hi:i = j
 ·subst hi
  rw [List.getElem?_set_self (List.getElem?_eq_some_iff.mp h).1,h]
 ·rw [List.getElem?_set_ne (fun z=>hi z.symm)]
theorem Line.start {H0:Hp} {q:Addr} (h:H0 q = none):Line H0 (upd H0 q (.lst [])) q []:=⟨same_new h _,h,upd_same,(fun i r e=>by simp at e),(fun i j r r' e=>by simp at e),(fun i j r r' e=>by simp at e)⟩
theorem Line.keep {H0 H H1:Hp} {q:Addr} {rs:List Rec} (L:Line H0 H q rs) (s:Same H H1):Line H0 H1 q rs :=
 ⟨L.same.trans s,L.fq,s _ _ L.at_,fun i r e=>let ⟨a,b,c,d⟩:=L.tu i r e; ⟨s _ _ a,s _ _ b,s _ _ c,d⟩,L.md,L.dd⟩
theorem snoc_get {α:Type} {xs:List α} {x y:α} {i:Nat} (h:(xs ++ [x])[i]? = some y):(xs[i]? = some y∧i < xs.length) ∨ (i = xs.length∧y = x):=by
 by_cases hi:i < xs.length
 ·rw [List.getElem?_append_left hi] at h
  exact .inl ⟨h,hi⟩
 ·rw [List.getElem?_append_right (by omega)] at h
  have h0:i - xs.length = 0:=by
   have:=(List.getElem?_eq_some_iff.mp h).1
   simp at this
   omega
  rw [h0] at h
  have h:some x = some y:=h
  exact .inr ⟨by omega,(Option.some.inj h).symm⟩
theorem Line.push {H0 H:Hp} {q:Addr} {rs:List Rec} (L:Line H0 H q rs) {r:Rec} (ht:H r.t = some (.tup [.ref r.m,.ref r.d])) (hm:H r.m = some (.lst (r.s.1.map V.int))) (hd:H r.d = some (.lst (r.s.2.map V.int))) (h0:H0 r.d = none)
  (n1:r.d ≠ q) (n2:r.m ≠ q) (n4:r.t ≠ q) (n3:r.m ≠ r.d) (old:∀ (i:Nat) (r':Rec),rs[i]? = some r'→r'.m ≠ r.d∧r.m ≠ r'.d∧r'.d ≠ r.d):Line H0 (upd H q (.lst ((rs.map fun r=>V.ref r.t) ++ [V.ref r.t]))) q (rs ++ [r]):=by
 have up:∀ b o,b ≠ q→H b = some o→upd H q (.lst ((rs.map fun r=>V.ref r.t) ++ [V.ref r.t])) b = some o:=fun b o hb e=>by rw [upd_ne hb]; exact e
 refine ⟨same_upd L.same L.fq _,L.fq,by rw [upd_same,List.map_append]; rfl,fun i x e=>?_,fun i j x y e e'=>?_,fun i j x y e e' ne=>?_⟩
 ·rcases snoc_get e with ⟨e,_⟩ | ⟨_,rfl⟩
  ·obtain ⟨a,b,c,d,f,g,h⟩:=L.tu i x e
   exact ⟨up _ _ h a,up _ _ g b,up _ _ f c,d,f,g,h⟩
  ·exact ⟨up _ _ n4 ht,up _ _ n2 hm,up _ _ n1 hd,h0,n1,n2,n4⟩
 ·rcases snoc_get e with ⟨e1,_⟩ | ⟨_,z1⟩
  ·rcases snoc_get e' with ⟨e2,_⟩ | ⟨_,z2⟩
   ·exact L.md i j x y e1 e2
   ·rw [z2]; exact (old i x e1).1
  ·rcases snoc_get e' with ⟨e2,_⟩ | ⟨_,z2⟩
   ·rw [z1]; exact (old j y e2).2.1
   ·rw [z1,z2]; exact n3
 ·rcases snoc_get e with ⟨e1,_⟩ | ⟨ei,z1⟩
  ·rcases snoc_get e' with ⟨e2,_⟩ | ⟨_,z2⟩
   ·exact L.dd i j x y e1 e2 ne
   ·rw [z2]; exact (old i x e1).2.2
  ·rcases snoc_get e' with ⟨e2,_⟩ | ⟨ej,z2⟩
   ·rw [z1]; exact (old j y e2).2.2.symm
   ·exact absurd (ei.trans ej.symm) ne
theorem Line.done {H0 H:Hp} {q:Addr} {rs:List Rec} (L:Line H0 H q rs):DAt H (.ref q) (wdat (rs.map Rec.s)):=by
 refine .lst L.at_ ?_
 have tu:=L.tu
 clear L
 induction rs with
 | nil=>exact .nil
 | cons r rs ih =>
  obtain ⟨a,b,c,_⟩:=tu 0 r rfl
  exact .cons (sdat_mk a b c) (ih fun i x e=>tu (i + 1) x (by simpa using e))
theorem Line.store {H0 H:Hp} {q:Addr} {rs:List Rec} (L:Line H0 H q rs) {j:Nat} {r:Rec} (hj:rs[j]? = some r) (ds:List Int):Line H0 (upd H r.d (.lst (ds.map V.int))) q (rs.set j { r with s:=(r.s.1,ds) }):=by
 obtain ⟨_,_,_,h0,nq,_,_⟩:=L.tu j r hj
 have hlt:=(List.getElem?_eq_some_iff.mp hj).1
 have look:∀ (i:Nat) (x:Rec),(rs.set j { r with s:=(r.s.1,ds) })[i]? = some x→(i = j∧x = { r with s:=(r.s.1,ds) }) ∨ (i ≠ j∧rs[i]? = some x):=fun i x e=>by
  by_cases hi:i = j
  ·subst hi
   rw [List.getElem?_set_self hlt] at e
   exact .inl ⟨rfl,(Option.some.inj e).symm⟩
  ·rw [List.getElem?_set_ne (fun z=>hi z.symm)] at e
   exact .inr ⟨hi,e⟩
 have up:∀ b o,b ≠ r.d→H b = some o→upd H r.d (.lst (ds.map V.int)) b = some o:=fun b o hb e=>by rw [upd_ne hb]; exact e
 refine ⟨same_upd L.same h0 _,L.fq,?_,fun i x e=>?_,fun i k x y e e'=>?_,fun i k x y e e' ne=>?_⟩
 ·rw [upd_ne (Ne.symm nq),List.map_set,L.at_]
  congr 2
  refine (set_self ?_).symm
  rw [List.getElem?_map,hj]
  rfl
 ·rcases look i x e with ⟨rfl,rfl⟩ | ⟨hi,e⟩
  ·obtain ⟨a,b,c,d,f,g,h⟩:=L.tu i r hj
   exact ⟨up _ _ (ne_of a c (by intro z; cases z)) a,up _ _ (L.md i i r r hj hj) b,upd_same,d,f,g,h⟩
  ·obtain ⟨a,b,c,d,f,g,h⟩:=L.tu i x e
   obtain ⟨_,_,c',_⟩:=L.tu j r hj
   exact ⟨up _ _ (ne_of a c' (by intro z; cases z)) a,up _ _ (L.md i j x r e hj) b,up _ _ (L.dd i j x r e hj hi) c,d,f,g,h⟩
 ·rcases look i x e with ⟨z1,z2⟩ | ⟨hi,e1⟩
  ·rcases look k y e' with ⟨z3,z4⟩ | ⟨hk,e2⟩
   ·rw [z2,z4]; exact L.md j j r r hj hj
   ·rw [z2]; exact L.md j k r y hj e2
  ·rcases look k y e' with ⟨z3,z4⟩ | ⟨hk,e2⟩
   ·rw [z4]; exact L.md i j x r e1 hj
   ·exact L.md i k x y e1 e2
 ·rcases look i x e with ⟨z1,z2⟩ | ⟨hi,e1⟩
  ·rcases look k y e' with ⟨z3,z4⟩ | ⟨hk,e2⟩
   ·exact absurd (z1.trans z3.symm) ne
   ·rw [z2]; exact L.dd j k r y hj e2 (fun z=>hk z.symm)
  ·rcases look k y e' with ⟨z3,z4⟩ | ⟨hk,e2⟩
   ·rw [z4]; exact L.dd i j x r e1 hj hi
   ·exact L.dd i k x y e1 e2 ne
def ov:Option Int→V
 | none=>.non
 | some i=>.int i
theorem odat_inv {G:Hp} {v:V} {o:Option Int} (h:DAt G v (odat o)):v = ov o:=by
 cases o with
 | none=>exact DAt.non_inv h
 | some i=>exact DAt.int_inv h
theorem odat_mk {G:Hp} (o:Option Int):DAt G (ov o) (odat o):=by
 cases o with
 | none=>exact .non
 | some i=>exact .int i
theorem lbdat_inv {G:Hp} {v:V} {l:Lb} (h:DAt G v (lbdat l)):∃ a,v = .ref a∧G a = some (.tup [.bl l.1,ov l.2.1,ov l.2.2]):=by
 obtain ⟨a,vs,rfl,e,hv⟩:=DAt.tup_inv h
 cases hv with | cons h1 hv=>cases hv with | cons h2 hv=>cases hv with | cons h3 hv =>
 cases hv
 cases h1.bl_inv
 rw [odat_inv h2,odat_inv h3] at e
 exact ⟨a,rfl,e⟩
theorem lbdat_mk {G:Hp} {a:Addr} {l:Lb} (e:G a = some (.tup [.bl l.1,ov l.2.1,ov l.2.2])):DAt G (.ref a) (lbdat l):=.tup e (.cons (.bl _) (.cons (odat_mk _) (.cons (odat_mk _) .nil)))
theorem at2 {x y z:V} {r:List V}:atI (x :: y :: z :: r) (2:Int) = some z:=by
 have h:(x :: y :: z :: r)[2]? = some z:=rfl
 exact atI_nat (j:=2) h
def lowB (E:List Lb) (t:Bool) (m:Int):Bool:=E.all fun e=>e.1 == t && match e.2.1 with
 | none=>false
 | some x=>decide (x < m)
def numOk:Option Int→Bool
 | none=>true
 | some x=>decide (0 ≤ x)
def doorOk (doors:List Int):Option Int→Bool
 | none=>true
 | some d=>decide (d ∈ doors)
def lbOk (l:Lb) (doors:List Int):Bool:=numOk l.2.1 && doorOk doors l.2.2
def arB (L:List Lb) (W:World2):Bool:=decide (L.length = W.length) && (List.range L.length).all fun k=>lbOk (L.getD k default) (W.getD k default).2
theorem inV_int {x:Int}:∀ {xs:List Int},inV (.int x) (xs.map V.int) = decide (x ∈ xs)
 | []=>rfl
 | y :: r=>by
  have ih:=@inV_int x r
  show (eqV (.int y) (.int x) || inV (.int x) (r.map V.int)) = _
  rw [ih]
  show ((y == x) || decide (x ∈ r)) = _
  by_cases e:y = x
  ·subst e; simp
  ·have:(y == x) = false:=by simpa using e
   rw [this,Bool.false_or]
   by_cases m:x ∈ r
   ·rw [decide_eq_true m,decide_eq_true (List.mem_cons_of_mem _ m)]
   ·rw [decide_eq_false m,decide_eq_false]
    intro z
    rcases List.mem_cons.mp z with z | z
    ·exact e z.symm
    ·exact m z
theorem inV_bl {b:Bool}:∀ {xs:List Bool},inV (.bl b) (xs.map V.bl) = xs.contains b
 | []=>rfl
 | y :: r=>by
  have ih:=@inV_bl b r
  show (eqV (.bl y) (.bl b) || inV (.bl b) (r.map V.bl)) = _
  rw [ih,List.contains_cons]
  show ((y == b) || _) = _
  cases y <;> cases b <;> rfl
theorem flat_ints {xs:List Int}:(xs.map V.int).all flatV = true:=by
 rw [List.all_map]
 exact List.all_eq_true.mpr fun x _=>rfl
theorem flat_bls {xs:List Bool}:(xs.map V.bl).all flatV = true:=by
 rw [List.all_map]
 exact List.all_eq_true.mpr fun x _=>rfl
theorem bMin:bootBuiltins "min" = some (.builtin "min"):=by decide +kernel
theorem line0:0 ≤ sizeLine:=Nat.zero_le _
end Ws
namespace Ws
open PySem L2
theorem getD_eq {α:Type} {xs:List α} {i:Nat} {d:α} (h:i < xs.length):xs.getD i d = xs[i]:=by simp [List.getD,h]
def lbAt (L:List Lb) (d:Int):Lb:=L.getD d.toNat default
def endsOf (L:List Lb) (doors:List Int):List Lb:=doors.map (lbAt L)
def suR (left right:List Bool) (L:List Lb) (k:Nat) (doors:List Int):Bool :=
 match L.getD k default with
 | (false,some _,_)=>false
 | (false,none,some _)=>false
 | (false,none,none)=>if right.getD k false then false else !left.getD k false || !((endsOf L doors).map (·.1)).contains true
 | (true,none,none)=>false
 | (true,some x,none)=>decide (x = 0) && right.getD k false
 | (true,none,some _)=>false
 | (true,some x,some d)=>if decide (x = 0) || !left.getD k false then false else (lbAt L d).1 && decide ((lbAt L d).2.1 = some (x - 1))
def auR (left right:List Bool) (L:List Lb) (k:Nat) (doors:List Int):Bool :=
 match L.getD k default with
 | (true,none,_)=>false
 | (true,some _,some _)=>false
 | (true,some x,none)=>if decide (x = 0) then right.getD k false else left.getD k false && lowB (endsOf L doors) true x
 | (false,some _,_)=>false
 | (false,none,none)=>if right.getD k false then false else !left.getD k false
 | (false,none,some d)=>if right.getD k false then false else left.getD k false && !(lbAt L d).1
theorem row_at {H:Hp} {a:Addr} {l:List Bool} {k:Nat} (h:k < l.length):atI (l.map V.bl) (k:Int) = some (V.bl (l.getD k false)):=by
 rw [getD_eq h]
 exact atI_nat (map_nth h)
def saR (here:List Bool) (L:List Lb) (k:Nat) (doors:List Int):Bool :=
 match L.getD k default with
 | (_,none,_)=>false
 | (false,some x,none)=>lowB (endsOf L doors) false (x + 1 - (if here.getD k false then 1 else 0))
 | (false,some _,some _)=>false
 | (true,some _,none)=>false
 | (true,some x,some d)=>if !(lbAt L d).1 then false else if decide (x = 0) then here.getD k false else decide ((lbAt L d).2.1 = some (x - 1))
def aaR (here:List Bool) (L:List Lb) (k:Nat) (doors:List Int):Bool :=
 match L.getD k default with
 | (_,none,_)=>false
 | (true,some _,some _)=>false
 | (true,some x,none)=>if here.getD k false then !((endsOf L doors).map (·.1)).contains false else lowB (endsOf L doors) true x
 | (false,some _,none)=>false
 | (false,some x,some d)=>if (lbAt L d).1 then false else if decide (x = 0) then !here.getD k false && decide ((lbAt L d).2.1 = some 0) else decide ((lbAt L d).2.1 = some (x - 1))
theorem dec_ov {o:Option Int} {x:Int}:decide (ov o = V.int x) = decide (o = some x):=by
 cases o with
 | none=>rfl
 | some y =>
  by_cases hy:y = x
  ·rw [decide_eq_true (congrArg some hy),decide_eq_true (show ov (some y) = V.int x from congrArg V.int hy)]
  ·rw [decide_eq_false (fun z=>hy (Option.some.inj z)),decide_eq_false (show ¬ ov (some y) = V.int x from fun z=>hy (V.int.inj z))]
theorem scal_ov {o:Option Int} {x:Int}:scal (ov o) (V.int x) = true:=by cases o <;> rfl
theorem map_snoc (l:List Int) (x:Int):(l ++ [x]).map V.int = l.map V.int ++ [V.int x]:=by rw [List.map_append]; rfl
structure Path (n:Nat) (W:World2) (row:List Int):Prop where
 inn:∀ x ∈ row,0 ≤ x∧x < (n:Int)
 go:∀ (i:Nat) (x y:Int),row[i]? = some x→row[i + 1]? = some y→∃ s,W[x.toNat]? = some s∧y ∈ s.2
def missing (n:Nat) (row:List Int):Nat:=(List.range n).countP fun i:Nat=>!row.contains (i:Int)
theorem countP_lt {α:Type} {p q:α→Bool}:∀ {l:List α} {k:α},k ∈ l→(∀ x,q x = true→p x = true)→p k = true→q k = false→l.countP q < l.countP p
 | y :: r,k,hk,hi,hp,hq=>by
  have le:r.countP q ≤ r.countP p:=List.countP_mono_left fun x _ h=>hi x h
  rw [List.countP_cons,List.countP_cons]
  rcases List.mem_cons.mp hk with rfl | hk
  ·rw [hp,hq]
   simp
   omega
  ·have ih:=countP_lt hk hi hp hq
   by_cases hy:q y = true
   ·rw [hy,hi y hy]; simp; omega
   ·have:q y = false:=by simpa using hy
    rw [this]
    simp
    omega
theorem missing_lt {n:Nat} {row:List Int} {x:Int} (h0:0 ≤ x) (h1:x < (n:Int)) (hx:¬ x ∈ row):missing n (row ++ [x]) < missing n row:=by
 refine countP_lt (k:=x.toNat) (List.mem_range.mpr (by omega)) (fun i hi=>?_) ?_ ?_
 ·simp at hi ⊢
  exact hi.1
 ·have e:((x.toNat:Nat):Int) = x:=by omega
  simp [e,hx]
 ·have e:((x.toNat:Nat):Int) = x:=by omega
  simp [e]
theorem missing_le (n:Nat) (row:List Int):missing n row ≤ n:=by
 have:=List.countP_le_length (p:=fun i:Nat=>!row.contains (i:Int)) (l:=List.range n)
 rw [List.length_range] at this
 exact this
theorem find_mem {x:Int}:∀ {xs:List Int},x ∈ xs→∃ j,(xs.map V.int).findIdx? (fun z=>eqV z (.int x)) = some j∧xs[j]? = some x:=fun {xs} h=>by
 cases e:(xs.map V.int).findIdx? (fun z=>eqV z (.int x)) with
 | none =>
  rw [List.findIdx?_eq_none_iff] at e
  have:=e (.int x) (List.mem_map.mpr ⟨x,h,rfl⟩)
  have t:eqV (.int x) (.int x) = true:=by show (x == x) = true; simp
  rw [t] at this
  cases this
 | some j =>
  refine ⟨j,rfl,?_⟩
  obtain ⟨hlt,hp,_⟩:=List.findIdx?_eq_some_iff_getElem.mp e
  rw [List.getElem_map] at hp
  have hp:(xs[j]'(by simpa using hlt) == x) = true:=hp
  rw [List.getElem?_eq_getElem (by simpa using hlt)]
  exact congrArg some (by simpa using hp)
def untilB (r0 r1:List Bool):List Int→Bool
 | []=>false
 | k :: r=>if r1.getD k.toNat false then true else if r0.getD k.toNat false then untilB r0 r1 r else false
def trOf (r0:List Bool) (row:List Int):List Bool:=row.map fun k=>r0.getD k.toNat false
def onW (so:Str) (rows:List (List Bool)) (row:List Int) (bk:Nat):Bool :=
 let tr:=trOf (rows.getD 0 []) row
 if so = "next" then (tr ++ tr.drop bk).getD 1 false
 else if so = "until" then untilB (rows.getD 0 []) (rows.getD 1 []) row
 else if so = "last" then tr.contains true
 else if so = "always" then !tr.contains false
 else if so = "again" then (tr.drop bk).contains true
 else !(tr.drop bk).contains false
theorem itS {x y:Str} {A B:Prop} (h1:x = y→A) (h2:¬ x = y→B):if (decide (V.str x = V.str y)) = true then A else B:=by
 by_cases h:x = y
 ·rw [if_pos (decide_eq_true (congrArg V.str h))]
  exact h1 h
 ·rw [if_neg (by rw [decide_eq_false (fun z=>h (V.str.inj z))]; exact Bool.false_ne_true)]
  exact h2 h
theorem three (z:Int) (a b c:Int):∃ e,atI [V.int a,V.int b,V.int c] (z % 3) = some (.int e):=by
 obtain ⟨v,e1,e2⟩:=idx_mod (xs:=[V.int a,V.int b,V.int c]) (z:=z) (n:=3) rfl (by decide)
 have m:=List.mem_of_getElem? e2
 simp only [List.mem_cons,List.not_mem_nil,or_false] at m
 rcases m with rfl | rfl | rfl
 ·exact ⟨a,e1⟩
 ·exact ⟨b,e1⟩
 ·exact ⟨c,e1⟩
theorem cnt_ok {Q:VK} {H:Hp} (q:∀ n:Nat,1 ≤ n→n ≤ 40→Q (.int (n:Int)) H) {x:Int} (h1:1 ≤ x) (h2:x ≤ 40):Q (.int x) H:=by
 have:=q x.toNat (by omega) (by omega)
 have e:((x.toNat:Nat):Int) = x:=by omega
 rw [e] at this
 exact this
def StOk (n b:Nat) (s:List Int × List Int):Prop:=s.2 ≠ []∧(∀ d ∈ s.2,0 ≤ d∧d < (n:Int))∧s.1.length ≤ b∧s.2.length ≤ b
theorem valid_of {n b:Nat} {W:World2} (h:W.length = n) (h2:∀ s ∈ W,StOk n b s):Valid n b W:=⟨h,h2⟩
theorem ok_snoc {n b:Nat} {W:World2} {s:List Int × List Int} (h:∀ t ∈ W,StOk n b t) (hs:StOk n b s):∀ t ∈ W ++ [s],StOk n b t:=fun t ht=>by
 rcases List.mem_append.mp ht with ht | ht
 ·exact h t ht
 ·rw [List.mem_singleton] at ht
  rw [ht]
  exact hs
theorem three_at {j:Nat} (h:j < 3) (a b c:Int):∃ e,atI [V.int a,V.int b,V.int c] (0 + (j:Int)) = some (.int e):=by
 have h3:j < ([V.int a,V.int b,V.int c]:List V).length:=h
 have e1:=List.getElem?_eq_getElem h3
 have m:=List.mem_of_getElem? e1
 have q:=atI_of (i:=0 + (j:Int)) e1 (by omega)
 simp only [List.mem_cons,List.not_mem_nil,or_false] at m
 rcases m with m | m | m <;> (rw [m] at q; exact ⟨_,q⟩)
end Ws
namespace Ws
open PySem L2
theorem low_all {E:List Lb} {t:Bool} {m:Int} (h:lowB E t m = true):∀ e ∈ E,e.1 = t∧∃ y,e.2.1 = some y∧y < m:=fun e he=>by
 have q:=List.all_eq_true.mp h e he
 rw [Bool.and_eq_true] at q
 obtain ⟨q1,q2⟩:=q
 refine ⟨by simpa using q1,?_⟩
 obtain ⟨a,n,d⟩:=e
 cases n with
 | none=>cases q2
 | some y=>exact ⟨y,rfl,of_decide_eq_true q2⟩
theorem au_true {left right:List Bool} {L:List Lb} {k:Nat} {doors:List Int} (h:auR left right L k doors = true) (hf:(L.getD k default).1 = true) :
  ∃ x,(L.getD k default).2.1 = some x∧(right.getD k false = true ∨ (left.getD k false = true∧∀ e ∈ doors,(lbAt L e).1 = true∧∃ y,(lbAt L e).2.1 = some y∧y < x)):=by
 unfold auR at h
 generalize L.getD k default = l at h hf
 obtain ⟨lt,ln,ld⟩:=l
 have hf:lt = true:=hf
 subst hf
 cases ln with
 | none=>cases h
 | some x =>
  cases ld with
  | some d=>cases h
  | none =>
   refine ⟨x,rfl,?_⟩
   have h:(if decide (x = 0) then right.getD k false else left.getD k false && lowB (endsOf L doors) true x) = true:=h
   cases hx:decide (x = 0) with
   | true=>rw [hx] at h; exact .inl h
   | false =>
    rw [hx] at h
    have h:(left.getD k false && lowB (endsOf L doors) true x) = true:=h
    rw [Bool.and_eq_true] at h
    exact .inr ⟨h.1,fun e he=>low_all h.2 _ (List.mem_map.mpr ⟨e,he,rfl⟩)⟩
theorem sa_false {here:List Bool} {L:List Lb} {k:Nat} {doors:List Int} (h:saR here L k doors = true) (hf:(L.getD k default).1 = false) :
  ∃ x,(L.getD k default).2.1 = some x∧∀ e ∈ doors,(lbAt L e).1 = false∧∃ y,(lbAt L e).2.1 = some y∧y < x + 1 - (if here.getD k false then 1 else 0):=by
 unfold saR at h
 generalize L.getD k default = l at h hf
 obtain ⟨lt,ln,ld⟩:=l
 have hf:lt = false:=hf
 subst hf
 cases ln with
 | none=>cases h
 | some x =>
  cases ld with
  | some d=>cases h
  | none=>exact ⟨x,rfl,fun e he=>low_all h _ (List.mem_map.mpr ⟨e,he,rfl⟩)⟩
theorem aa_true {here:List Bool} {L:List Lb} {k:Nat} {doors:List Int} (h:aaR here L k doors = true) (hf:(L.getD k default).1 = true) :
  ∃ x,(L.getD k default).2.1 = some x∧(∀ e ∈ doors,(lbAt L e).1 = true)∧(here.getD k false = false→∀ e ∈ doors,∃ y,(lbAt L e).2.1 = some y∧y < x):=by
 unfold aaR at h
 generalize L.getD k default = l at h hf
 obtain ⟨lt,ln,ld⟩:=l
 have hf:lt = true:=hf
 subst hf
 cases ln with
 | none=>cases h
 | some x =>
  cases ld with
  | some d=>cases h
  | none =>
   refine ⟨x,rfl,?_⟩
   have h:(if here.getD k false then !((endsOf L doors).map (·.1)).contains false else lowB (endsOf L doors) true x) = true:=h
   cases hh:here.getD k false with
   | true =>
    rw [hh] at h
    have h:(!((endsOf L doors).map (·.1)).contains false) = true:=h
    refine ⟨fun e he=>?_,fun z=>by cases z⟩
    cases hb:(lbAt L e).1 with
    | true=>rfl
    | false =>
     have m:false ∈ (endsOf L doors).map (·.1):=List.mem_map.mpr ⟨lbAt L e,List.mem_map.mpr ⟨e,he,rfl⟩,hb⟩
     rw [List.contains_iff_mem.mpr m] at h
     cases h
   | false =>
    rw [hh] at h
    exact ⟨fun e he=>(low_all h _ (List.mem_map.mpr ⟨e,he,rfl⟩)).1,fun _ e he=>(low_all h _ (List.mem_map.mpr ⟨e,he,rfl⟩)).2⟩
def dr (W:World2) (k:Nat):List Int:=(W.getD k default).2
end Ws
namespace Ws
open PySem L2
def spUntil (Rf:List Bool→List Bool→List Lb→Nat→List Int→Bool):Sp:=fun vs H Q _=>∃ (a b c:Addr) (n:Nat) (W:World2) (left right:List Bool),vs = [.ref a,.ref b,.ref c]∧DAt H (.ref a) (wdat W)∧Valid n 200 W∧1 ≤ n∧n ≤ 40 ∧
 H b = some (.lst (left.map V.bl))∧H c = some (.lst (right.map V.bl))∧left.length = n∧right.length = n ∧
 ∀ (v:V) (L:List Lb) (H':Hp),Same H H'→DAt H' v (lsdat L)→L.length = n→(∀ k,k < n→lbOk (L.getD k default) (dr W k) = true)→(∀ k,k < n→Rf left right L k (dr W k) = true)→Q v H'
def spAgain (Rf:List Bool→List Lb→Nat→List Int→Bool):Sp:=fun vs H Q _=>∃ (a b:Addr) (n:Nat) (W:World2) (here:List Bool),vs = [.ref a,.ref b]∧DAt H (.ref a) (wdat W)∧Valid n 200 W∧1 ≤ n∧n ≤ 40 ∧
 H b = some (.lst (here.map V.bl))∧here.length = n ∧
 ∀ (v:V) (L:List Lb) (H':Hp),Same H H'→DAt H' v (lsdat L)→L.length = n→(∀ k,k < n→lbOk (L.getD k default) (dr W k) = true)→(∀ k,k < n→Rf here L k (dr W k) = true)→Q v H'
def spLaw (K:PySem.W.Frag):Sp:=fun vs H Q _=>∃ (a:Addr) (ns:List Int),vs = [.ref a]∧SqL K H a (ns.map V.int)∧ns.length ≤ 63∧∀ H',Q (.bl true) H'
theorem cut_ints (ns:List Int) (lo hi:Option Int):∃ cs:List Int,cutV (ns.map V.int) lo hi = cs.map V.int∧cs.length ≤ ns.length:=by
 unfold cutV
 refine ⟨(ns.drop _).take _,by rw [List.map_take,List.map_drop],?_⟩
 rw [List.length_take,List.length_drop]
 omega
theorem wts_ints:∀ l:List Int,wts (l.map .int) = l.length
 | []=>rfl
 | x :: r=>by
  have h:=wts_ints r
  show 1 + wts (r.map .int) = r.length + 1
  omega
theorem wts_world {b:Nat}:∀ (W:World2),(∀ s ∈ W,s.1.length ≤ b∧s.2.length ≤ b)→wts (W.map sdat) ≤ W.length * (2 * b + 3)
 | [],_=>Nat.zero_le _
 | s :: r,h=>by
  have q:=wts_world r fun t ht=>h t (List.mem_cons_of_mem _ ht)
  have q1:=h s List.mem_cons_self
  have e:(sdat s).wt = 1 + (1 + wts (s.1.map .int) + (1 + wts (s.2.map .int) + 0)):=rfl
  rw [wts_ints,wts_ints] at e
  show (sdat s).wt + wts (r.map sdat) ≤ (r.length + 1) * (2 * b + 3)
  rw [Nat.succ_mul]
  omega
theorem wdat_wt {n b:Nat} {W:World2} (h:Valid n b W):(wdat W).wt ≤ 1 + n * (2 * b + 3):=by
 have q:=wts_world (b:=b) W fun s hs=>⟨(h.all s hs).2.2.1,(h.all s hs).2.2.2⟩
 rw [h.len] at q
 show 1 + wts (W.map sdat) ≤ _
 omega
theorem lst_ref {G:Hp} {v:V} {ds:List Dat} (h:DAt G v (.lst ds)):∃ a,v = .ref a:=by
 obtain ⟨a,_,e,_⟩:=DAt.lst_inv h
 exact ⟨a,e⟩
theorem ar_true {n:Nat} {L:List Lb} {W:World2} (h1:L.length = n) (h2:W.length = n) (h:∀ k,k < n→lbOk (L.getD k default) (dr W k) = true):arB L W = true:=by
 unfold arB
 rw [decide_eq_true (by omega),Bool.true_and,List.all_eq_true]
 exact fun k hk=>h k (by have:=List.mem_range.mp hk; omega)
theorem doors_at {H:Hp} {b:Addr} {n c:Nat} {W:World2} (h:DAt H (.ref b) (wdat W)) (hW:Valid n c W) {k:Nat} (hk:k < n):∃ us t m d,H b = some (.lst us)∧atI us (k:Int) = some (.ref t)∧H t = some (.tup [.ref m,.ref d])∧H d = some (.lst ((dr W k).map V.int))∧(∀ e ∈ dr W k,0 ≤ e∧e < (n:Int))∧(dr W k).length ≤ c:=by
 obtain ⟨b',us,e,hb,hu⟩:=DAt.lst_inv h
 cases e
 have hi:k < W.length:=by rw [hW.len]; exact hk
 obtain ⟨u,eu,du⟩:=hu.nth hi
 obtain ⟨t,m,d,rfl,et,em,ed⟩:=sdat_inv du
 have e:dr W k = W[k].2:=by unfold dr; rw [getD_eq hi]
 have al:=hW.all _ (List.getElem_mem hi)
 rw [e]
 exact ⟨us,t,m,d,hb,atI_nat eu,et,ed,al.2.1,al.2.2.2⟩
end Ws
namespace Ws
def doorTo (doors:List Int) (want:List Bool):Option Int:=doors.find? fun e=>want.getD e.toNat false
def trs (L:List Lb):List Bool:=L.map (·.1)
def joinL (sm:Bool) (doors:List Int) (reached:List Bool) (m:Int):Lb :=
 if sm then match doorTo doors reached with
  | none=>(false,none,none)
  | some e=>(true,some m,some e)
 else if doors.all (fun e=>reached.getD e.toNat false) then (true,some m,none) else (false,none,none)
theorem trs_at (L:List Lb) (j:Nat):(trs L).getD j false = (L.getD j default).1:=by
 unfold trs
 rw [List.getD_eq_getElem?_getD,List.getD_eq_getElem?_getD,List.getElem?_map]
 cases L[j]? <;> rfl
theorem doorTo_some {doors:List Int} {want:List Bool} {e:Int} (h:doorTo doors want = some e):e ∈ doors∧want.getD e.toNat false = true :=
 ⟨List.mem_of_find?_eq_some h,List.find?_some (p:=fun e:Int=>want.getD e.toNat false) h⟩
theorem doorTo_none {doors:List Int} {want:List Bool} (h:doorTo doors want = none):∀ e ∈ doors,want.getD e.toNat false = false:=fun e he=>by
 have:=List.find?_eq_none.mp h e he
 simpa using this
theorem doorTo_has {doors:List Int} {want:List Bool} {e:Int} (h:e ∈ doors) (w:want.getD e.toNat false = true):∃ d,doorTo doors want = some d:=by
 cases q:doorTo doors want with
 | some d=>exact ⟨d,rfl⟩
 | none=>rw [doorTo_none q e h] at w; cases w
theorem dr_in {n b:Nat} {W:World2} (h:Valid n b W) {k:Nat} (hk:k < n):dr W k ≠ []∧∀ e ∈ dr W k,0 ≤ e∧e < (n:Int):=by
 have hi:k < W.length:=by rw [h.len]; exact hk
 have e:dr W k = W[k].2:=by
  unfold dr
  rw [List.getD_eq_getElem?_getD,List.getElem?_eq_getElem hi]
  rfl
 rw [e]
 exact ⟨(h.all _ (List.getElem_mem hi)).1,(h.all _ (List.getElem_mem hi)).2.1⟩
def TruOk (sm:Bool) (W:World2) (left:List Bool) (L:List Lb) (m:Int) (k:Nat):Prop :=
 ∃ x:Int,1 ≤ x∧x ≤ m∧left.getD k false = true ∧
  ((sm = true∧∃ d ∈ dr W k,L.getD k default = (true,some x,some d)∧(lbAt L d).1 = true∧(lbAt L d).2.1 = some (x - 1)) ∨
   (sm = false∧L.getD k default = (true,some x,none)∧∀ e ∈ dr W k,(lbAt L e).1 = true∧∃ y,(lbAt L e).2.1 = some y∧y < x))
structure GrowInv (sm:Bool) (W:World2) (n:Nat) (left right:List Bool) (m:Int) (L:List Lb):Prop where
 len:L.length = n
 m0:0 ≤ m
 base:∀ k,k < n→right.getD k false = true→L.getD k default = (true,some 0,none)
 tru:∀ k,k < n→right.getD k false = false→(L.getD k default).1 = true→TruOk sm W left L m k
 fls:∀ k,k < n→(L.getD k default).1 = false→L.getD k default = (false,none,none)
 front:sm = true→∀ k,k < n→(L.getD k default).1 = false→left.getD k false = true→∀ e ∈ dr W k,(lbAt L e).1 = true→(lbAt L e).2.1 = some m
theorem GrowInv.num {sm:Bool} {W:World2} {n:Nat} {left right:List Bool} {m:Int} {L:List Lb} (g:GrowInv sm W n left right m L) {k:Nat} (hk:k < n) (h:(L.getD k default).1 = true) :
  ∃ y,(L.getD k default).2.1 = some y∧0 ≤ y∧y ≤ m:=by
 cases hr:right.getD k false with
 | true =>
  refine ⟨0,?_,Int.le_refl _,g.m0⟩
  rw [g.base k hk hr]
 | false =>
  obtain ⟨x,x1,xm,_,h2 | h2⟩:=g.tru k hk hr h
  ·obtain ⟨_,d,_,e,_⟩:=h2
   exact ⟨x,by rw [e],by omega,xm⟩
  ·exact ⟨x,by rw [h2.2.1],by omega,xm⟩
theorem join_false {sm:Bool} {doors:List Int} {r:List Bool} {m:Int} (h:(joinL sm doors r m).1 = false):joinL sm doors r m = (false,none,none):=by
 unfold joinL at h ⊢
 cases sm with
 | true =>
  simp only [if_true] at h ⊢
  cases q:doorTo doors r with
  | none=>rfl
  | some e=>rw [q] at h; cases h
 | false =>
  simp only [Bool.false_eq_true,if_false] at h ⊢
  cases q:doors.all (fun e=>r.getD e.toNat false) with
  | false=>rfl
  | true=>rw [q] at h; cases h
theorem join_num {sm:Bool} {doors:List Int} {r:List Bool} {m:Int} (h:(joinL sm doors r m).1 = true):(joinL sm doors r m).2.1 = some m:=by
 unfold joinL at h ⊢
 cases sm with
 | true =>
  simp only [if_true] at h ⊢
  cases q:doorTo doors r with
  | none=>rw [q] at h; cases h
  | some e=>rfl
 | false =>
  simp only [Bool.false_eq_true,if_false] at h ⊢
  cases q:doors.all (fun e=>r.getD e.toNat false) with
  | false=>rw [q] at h; cases h
  | true=>rfl
theorem GrowInv.start {sm:Bool} {W:World2} {n:Nat} {left right:List Bool} {L:List Lb} (hl:L.length = n)
  (h:∀ k,k < n→L.getD k default = if right.getD k false then (true,some 0,none) else (false,none,none)) (b:Nat) (hW:Valid n b W):GrowInv sm W n left right 0 L:=by
 refine ⟨hl,Int.le_refl _,fun k hk hr=>?_,fun k hk hr ht=>?_,fun k hk hf=>?_,fun _ k hk hf hl e he ht=>?_⟩
 ·rw [h k hk,hr]; rfl
 ·rw [h k hk,hr] at ht; cases ht
 ·rw [h k hk] at hf ⊢
  cases hr:right.getD k false with
  | true=>rw [hr] at hf; cases hf
  | false=>rfl
 ·have hb:=(dr_in hW hk).2 e he
  have he':e.toNat < n:=by omega
  unfold lbAt at ht ⊢
  rw [h _ he'] at ht ⊢
  cases hr:right.getD e.toNat false with
  | true=>rfl
  | false=>rw [hr] at ht; cases ht
theorem GrowInv.step {sm:Bool} {W:World2} {n b:Nat} {left right:List Bool} {m:Int} {L L':List Lb} (g:GrowInv sm W n left right m L) (hW:Valid n b W) (hl:L'.length = n)
  (h:∀ k,k < n→L'.getD k default = if left.getD k false && !(L.getD k default).1 then joinL sm (dr W k) (trs L) (m + 1) else L.getD k default):GrowInv sm W n left right (m + 1) L':=by
 have keep:∀ k,k < n→(L.getD k default).1 = true→L'.getD k default = L.getD k default:=fun k hk ht=>by
  rw [h k hk,ht]
  simp
 have keepd:∀ (k:Nat) (e:Int),k < n→e ∈ dr W k→(lbAt L e).1 = true→lbAt L' e = lbAt L e:=fun k e hk he ht=>by
  have:=(dr_in hW hk).2 e he
  exact keep e.toNat (by omega) ht
 have m0:=g.m0
 refine ⟨hl,by omega,fun k hk hr=>?_,fun k hk hr ht=>?_,fun k hk hf=>?_,fun hs k hk hf hle e he ht=>?_⟩
 ·have:=g.base k hk hr
  rw [keep k hk (by rw [this]),this]
 ·cases hp:(L.getD k default).1 with
  | true =>
   obtain ⟨x,x1,xm,hle,h2 | h2⟩:=g.tru k hk hr hp
   ·obtain ⟨hs,d,hd,e1,e2,e3⟩:=h2
    refine ⟨x,x1,by omega,hle,.inl ⟨hs,d,hd,by rw [keep k hk hp,e1],?_,?_⟩⟩
    ·rw [keepd k d hk hd e2,e2]
    ·rw [keepd k d hk hd e2,e3]
   ·obtain ⟨hs,e1,e2⟩:=h2
    refine ⟨x,x1,by omega,hle,.inr ⟨hs,by rw [keep k hk hp,e1],fun e he=>?_⟩⟩
    obtain ⟨q1,q2⟩:=e2 e he
    rw [keepd k e hk he q1]
    exact ⟨q1,q2⟩
  | false =>
   have e:=h k hk
   rw [hp] at e
   cases hle:left.getD k false with
   | false=>rw [hle] at e; rw [e] at ht; simp only [Bool.false_and] at ht; rw [if_neg Bool.false_ne_true,hp] at ht; cases ht
   | true =>
    rw [hle] at e
    have e:L'.getD k default = joinL sm (dr W k) (trs L) (m + 1):=e
    rw [e] at ht
    refine ⟨m + 1,by omega,Int.le_refl _,hle,?_⟩
    cases sm with
    | true =>
     unfold joinL at e ht
     simp only [if_true] at e ht
     cases q:doorTo (dr W k) (trs L) with
     | none=>rw [q] at ht; cases ht
     | some d =>
      rw [q] at e
      obtain ⟨hd,hw⟩:=doorTo_some q
      rw [trs_at] at hw
      refine .inl ⟨rfl,d,hd,e,?_,?_⟩
      ·rw [keepd k d hk hd hw]; exact hw
      ·rw [keepd k d hk hd hw,g.front rfl k hk hp hle d hd hw]
       congr 1
       omega
    | false =>
     unfold joinL at e ht
     simp only [Bool.false_eq_true,if_false] at e ht
     cases q:(dr W k).all (fun e=>(trs L).getD e.toNat false) with
     | false=>rw [q] at ht; cases ht
     | true =>
      rw [q] at e
      refine .inr ⟨rfl,e,fun d hd=>?_⟩
      have hw:=List.all_eq_true.mp q d hd
      rw [trs_at] at hw
      have hw:(lbAt L d).1 = true:=hw
      rw [keepd k d hk hd hw]
      have:=(dr_in hW hk).2 d hd
      obtain ⟨y,hy,_,ym⟩:=g.num (k:=d.toNat) (by omega) hw
      exact ⟨hw,y,hy,by omega⟩
 ·rw [h k hk] at hf ⊢
  cases hc:(left.getD k false && !(L.getD k default).1) with
  | true =>
   rw [hc] at hf
   exact join_false hf
  | false =>
   rw [hc] at hf
   exact g.fls k hk hf
 ·have hp:(L.getD k default).1 = false:=by
   cases hp:(L.getD k default).1 with
   | false=>rfl
   | true=>rw [keep k hk hp,hp] at hf; cases hf
  have ej:=h k hk
  rw [hp,hle] at ej
  have ej:L'.getD k default = joinL sm (dr W k) (trs L) (m + 1):=ej
  have hb:=(dr_in hW hk).2 e he
  cases hpe:(lbAt L e).1 with
  | true =>
   exfalso
   subst hs
   obtain ⟨d,q⟩:=doorTo_has (want:=trs L) he (by rw [trs_at]; exact hpe)
   unfold joinL at ej
   rw [q] at ej
   rw [ej] at hf
   cases hf
  | false =>
   have ee:lbAt L' e = if left.getD e.toNat false && !(L.getD e.toNat default).1 then joinL sm (dr W e.toNat) (trs L) (m + 1) else L.getD e.toNat default:=h e.toNat (by omega)
   cases hc:(left.getD e.toNat false && !(L.getD e.toNat default).1) with
   | true =>
    rw [hc] at ee
    have ee:lbAt L' e = joinL sm (dr W e.toNat) (trs L) (m + 1):=ee
    rw [ee] at ht ⊢
    exact join_num ht
   | false =>
    rw [hc] at ee
    have ee:lbAt L' e = lbAt L e:=ee
    rw [ee,hpe] at ht
    cases ht
def Still (sm:Bool) (W:World2) (n:Nat) (left:List Bool) (L:List Lb):Prop:=∀ k,k < n→(L.getD k default).1 = false→left.getD k false = true →
 (sm = true∧∀ e ∈ dr W k,(lbAt L e).1 = false) ∨ (sm = false∧∃ e ∈ dr W k,(lbAt L e).1 = false)
theorem still_of {sm:Bool} {W:World2} {n:Nat} {left:List Bool} {m:Int} {L L':List Lb}
  (h:∀ k,k < n→L'.getD k default = if left.getD k false && !(L.getD k default).1 then joinL sm (dr W k) (trs L) (m + 1) else L.getD k default)
  (ng:∀ k,k < n→(L.getD k default).1 = false→(L'.getD k default).1 = false) (inn:∀ k,k < n→∀ e ∈ dr W k,0 ≤ e∧e < (n:Int)):Still sm W n left L':=fun k hk hf hle=>by
 have tt:∀ j,j < n→(L'.getD j default).1 = (L.getD j default).1:=fun j hj=>by
  cases hp:(L.getD j default).1 with
  | false=>exact ng j hj hp
  | true =>
   have e:=h j hj
   rw [hp,Bool.not_true,Bool.and_false] at e
   have e:L'.getD j default = L.getD j default:=e
   rw [e,hp]
 have hp:(L.getD k default).1 = false:=by rw [← tt k hk]; exact hf
 have ej:=h k hk
 rw [hp,hle] at ej
 have ej:L'.getD k default = joinL sm (dr W k) (trs L) (m + 1):=ej
 rw [ej] at hf
 have q:=fun (e:Int) he=>tt e.toNat (by have:=inn k hk e he; omega)
 cases sm with
 | true =>
  refine .inl ⟨rfl,fun e he=>?_⟩
  have:=q e he
  show (L'.getD e.toNat default).1 = false
  rw [this,← trs_at]
  unfold joinL at hf
  simp only [if_true] at hf
  cases qd:doorTo (dr W k) (trs L) with
  | none=>exact doorTo_none qd e he
  | some d=>rw [qd] at hf; cases hf
 | false =>
  refine .inr ⟨rfl,?_⟩
  unfold joinL at hf
  simp only [Bool.false_eq_true,if_false] at hf
  cases qd:(dr W k).all (fun e=>(trs L).getD e.toNat false) with
  | true=>rw [qd] at hf; cases hf
  | false =>
   rw [List.all_eq_false] at qd
   obtain ⟨e,he,hh⟩:=qd
   refine ⟨e,he,?_⟩
   show (L'.getD e.toNat default).1 = false
   rw [q e he,← trs_at]
   simpa using hh
def suR2 (left right:List Bool) (L:List Lb) (k:Nat) (doors:List Int):Bool:=suR left right L k doors && (!right.getD k false || decide (L.getD k default = (true,some 0,none)))
theorem su_done {W:World2} {n b:Nat} {left right:List Bool} {m:Int} {L:List Lb} (hW:Valid n b W) (g:GrowInv true W n left right m L) (st:Still true W n left L) :
  ∀ k,k < n→lbOk (L.getD k default) (dr W k) = true∧suR2 left right L k (dr W k) = true:=fun k hk=>by
 unfold suR2
 cases hr:right.getD k false with
 | true =>
  have e:=g.base k hk hr
  unfold suR
  rw [e,hr]
  exact ⟨rfl,rfl⟩
 | false =>
  simp only [Bool.not_false,Bool.true_or,Bool.and_true]
  cases ht:(L.getD k default).1 with
  | true =>
   obtain ⟨x,x1,xm,hle,h2 | h2⟩:=g.tru k hk hr ht
   ·obtain ⟨_,d,hd,e1,e2,e3⟩:=h2
    unfold suR
    rw [e1,hle]
    refine ⟨?_,?_⟩
    ·show (decide (0 ≤ x) && decide (d ∈ dr W k)) = true
     rw [decide_eq_true (by omega),decide_eq_true hd]
     rfl
    ·show (if (decide (x = 0) || !true) = true then false else (lbAt L d).1 && decide ((lbAt L d).2.1 = some (x - 1))) = true
     rw [decide_eq_false (by omega),e2,e3]
     simp
   ·exact nomatch h2.1
  | false =>
   have e:=g.fls k hk ht
   unfold suR
   rw [e,hr]
   refine ⟨rfl,?_⟩
   show (!left.getD k false || !((endsOf L (dr W k)).map (·.1)).contains true) = true
   cases hle:left.getD k false with
   | false=>rfl
   | true =>
    rcases st k hk ht hle with ⟨_,h⟩ | ⟨h,_⟩
    ·have:((endsOf L (dr W k)).map (·.1)).contains true = false:=by
      cases hc:((endsOf L (dr W k)).map (·.1)).contains true with
      | false=>rfl
      | true =>
       have hm:=List.contains_iff_mem.mp hc
       obtain ⟨l,hl,el⟩:=List.mem_map.mp hm
       obtain ⟨d,hd,rfl⟩:=List.mem_map.mp hl
       rw [h d hd] at el
       cases el
     rw [this]
     rfl
    ·cases h
def fdL (W:World2) (left:List Bool) (L:List Lb) (k:Nat):Lb :=
 if left.getD k false && !(L.getD k default).1 then (false,none,doorTo (dr W k) ((trs L).map (!·))) else L.getD k default
theorem not_at (l:List Bool) {j:Nat} (h:j < l.length):(l.map (!·)).getD j false = !l.getD j false:=by
 rw [List.getD_eq_getElem?_getD,List.getD_eq_getElem?_getD,List.getElem?_map,List.getElem?_eq_getElem h]
 rfl
theorem au_done {W:World2} {n b:Nat} {left right:List Bool} {m:Int} {L L':List Lb} (hW:Valid n b W) (g:GrowInv false W n left right m L) (st:Still false W n left L)
  (h:∀ k,k < n→L'.getD k default = fdL W left L k) :
  ∀ k,k < n→lbOk (L'.getD k default) (dr W k) = true∧auR left right L' k (dr W k) = true:=fun k hk=>by
 have tr:∀ j,j < n→(L'.getD j default).1 = (L.getD j default).1:=fun j hj=>by
  rw [h j hj]
  unfold fdL
  cases hc:(left.getD j false && !(L.getD j default).1) with
  | false=>rfl
  | true =>
   rw [Bool.and_eq_true] at hc
   simpa using hc.2
 have same:∀ j,j < n→(L.getD j default).1 = true→L'.getD j default = L.getD j default:=fun j hj ht=>by
  rw [h j hj]
  unfold fdL
  rw [ht]
  simp
 have lt:(trs L).length = n:=by unfold trs; rw [List.length_map,g.len]
 have inn:=(dr_in hW hk).2
 cases ht:(L.getD k default).1 with
 | true =>
  have e0:=same k hk ht
  cases hr:right.getD k false with
  | true =>
   have e:=g.base k hk hr
   unfold auR
   rw [e0,e,hr]
   exact ⟨rfl,rfl⟩
  | false =>
   obtain ⟨x,x1,xm,hle,h2 | h2⟩:=g.tru k hk hr ht
   ·exact nomatch h2.1
   ·obtain ⟨_,e1,e2⟩:=h2
    unfold auR
    rw [e0,e1,hle]
    refine ⟨?_,?_⟩
    ·show (decide (0 ≤ x) && true) = true
     rw [decide_eq_true (by omega)]
     rfl
    ·show (if decide (x = 0) = true then right.getD k false else true && lowB (endsOf L' (dr W k)) true x) = true
     rw [decide_eq_false (by omega)]
     show (true && lowB (endsOf L' (dr W k)) true x) = true
     rw [Bool.true_and]
     unfold lowB
     rw [List.all_eq_true]
     intro l hl
     obtain ⟨d,hd,rfl⟩:=List.mem_map.mp hl
     obtain ⟨q1,y,q2,q3⟩:=e2 d hd
     have hb:=inn d hd
     have ed:lbAt L' d = lbAt L d:=same d.toNat (by omega) q1
     rw [ed,q1,q2]
     simp [q3]
 | false =>
  have hr:right.getD k false = false:=by
   cases hr:right.getD k false with
   | false=>rfl
   | true=>rw [g.base k hk hr] at ht; cases ht
  have e:=h k hk
  unfold fdL at e
  rw [ht] at e
  cases hle:left.getD k false with
  | false =>
   rw [hle,g.fls k hk ht] at e
   have e:L'.getD k default = (false,none,none):=e
   unfold auR
   rw [e,hr,hle]
   exact ⟨rfl,rfl⟩
  | true =>
   rw [hle] at e
   have e:L'.getD k default = (false,none,doorTo (dr W k) ((trs L).map (!·))):=e
   rcases st k hk ht hle with ⟨hh,_⟩ | ⟨_,d0,hd0,hf0⟩
   ·cases hh
   ·have hb0:=inn d0 hd0
    obtain ⟨d,q⟩:=doorTo_has (want:=(trs L).map (!·)) hd0 (by rw [not_at _ (by omega),trs_at]; show (!(lbAt L d0).1) = true; rw [hf0]; rfl)
    rw [q] at e
    obtain ⟨hd,hw⟩:=doorTo_some q
    have hb:=inn d hd
    rw [not_at _ (by omega),trs_at] at hw
    have hw:(lbAt L d).1 = false:=by
     cases q2:(lbAt L d).1 with
     | false=>rfl
     | true =>
      have q2:(L.getD d.toNat default).1 = true:=q2
      rw [q2] at hw
      cases hw
    unfold auR
    rw [e,hr,hle]
    refine ⟨?_,?_⟩
    ·show (true && decide (d ∈ dr W k)) = true
     rw [decide_eq_true hd]
     rfl
    ·show (true && !(lbAt L' d).1) = true
     have:(lbAt L' d).1 = false:=by
      have:=tr d.toNat (by omega)
      exact this.trans hw
     rw [this]
     rfl
end Ws
namespace Ws
def allT (n:Nat):List Bool:=List.replicate n true
theorem allT_at {n k:Nat} (h:k < n):(allT n).getD k false = true:=by
 unfold allT
 rw [List.getD_eq_getElem?_getD,List.getElem?_replicate,if_pos h]
 rfl
theorem su2_su {left right:List Bool} {L:List Lb} {k:Nat} {doors:List Int} (h:suR2 left right L k doors = true):suR left right L k doors = true:=by
 unfold suR2 at h
 rw [Bool.and_eq_true] at h
 exact h.1
theorem su2_right {left right:List Bool} {L:List Lb} {k:Nat} {doors:List Int} (h:suR2 left right L k doors = true) (hr:right.getD k false = true):L.getD k default = (true,some 0,none):=by
 unfold suR2 at h
 rw [Bool.and_eq_true,hr] at h
 exact of_decide_eq_true h.2
theorem su_cases {left right:List Bool} {L:List Lb} {k:Nat} {doors:List Int} (h:suR left right L k doors = true) :
  (L.getD k default = (false,none,none)∧right.getD k false = false∧(left.getD k false = false ∨ ∀ e ∈ doors,(lbAt L e).1 = false)) ∨
  (L.getD k default = (true,some 0,none)∧right.getD k false = true) ∨
  ∃ x d,x ≠ 0∧L.getD k default = (true,some x,some d)∧left.getD k false = true∧(lbAt L d).1 = true∧(lbAt L d).2.1 = some (x - 1):=by
 unfold suR at h
 generalize hl:L.getD k default = l at h
 obtain ⟨lt,ln,ld⟩:=l
 cases lt with
 | false =>
  cases ln with
  | some x=>cases h
  | none =>
   cases ld with
   | some x=>cases h
   | none =>
    have h:(if right.getD k false = true then false else !left.getD k false || !((endsOf L doors).map (·.1)).contains true) = true:=h
    cases hr:right.getD k false with
    | true=>rw [hr] at h; cases h
    | false =>
     rw [hr] at h
     have h:(!left.getD k false || !((endsOf L doors).map (·.1)).contains true) = true:=h
     refine .inl ⟨rfl,rfl,?_⟩
     cases hle:left.getD k false with
     | false=>exact .inl rfl
     | true =>
      rw [hle] at h
      have h:(!((endsOf L doors).map (·.1)).contains true) = true:=h
      refine .inr fun e he=>?_
      cases hb:(lbAt L e).1 with
      | false=>rfl
      | true =>
       have m:true ∈ (endsOf L doors).map (·.1):=List.mem_map.mpr ⟨lbAt L e,List.mem_map.mpr ⟨e,he,rfl⟩,hb⟩
       rw [List.contains_iff_mem.mpr m] at h
       cases h
 | true =>
  cases ln with
  | none=>cases ld <;> cases h
  | some x =>
   cases ld with
   | none =>
    have h:(decide (x = 0) && right.getD k false) = true:=h
    rw [Bool.and_eq_true,decide_eq_true_eq] at h
    exact .inr (.inl ⟨by rw [h.1],h.2⟩)
   | some d =>
    have h:(if (decide (x = 0) || !left.getD k false) = true then false else (lbAt L d).1 && decide ((lbAt L d).2.1 = some (x - 1))) = true:=h
    by_cases hx:x = 0
    ·rw [decide_eq_true hx] at h; cases h
    ·rw [decide_eq_false hx] at h
     cases hle:left.getD k false with
     | false=>rw [hle] at h; cases h
     | true =>
      rw [hle] at h
      have h:((lbAt L d).1 && decide ((lbAt L d).2.1 = some (x - 1))) = true:=h
      rw [Bool.and_eq_true,decide_eq_true_eq] at h
      exact .inr (.inr ⟨x,d,hx,rfl,rfl,h.1,h.2⟩)
structure SuAll (W:World2) (n:Nat) (left right:List Bool) (L:List Lb):Prop where
 ok:∀ k,k < n→lbOk (L.getD k default) (dr W k) = true
 su:∀ k,k < n→suR left right L k (dr W k) = true
theorem SuAll.num {W:World2} {n:Nat} {left right:List Bool} {L:List Lb} (h:SuAll W n left right L) {k:Nat} (hk:k < n) {x:Int} (e:(L.getD k default).2.1 = some x):0 ≤ x:=by
 have q:=h.ok k hk
 unfold lbOk at q
 rw [e,Bool.and_eq_true] at q
 exact of_decide_eq_true q.1
theorem SuAll.door {W:World2} {n:Nat} {left right:List Bool} {L:List Lb} (h:SuAll W n left right L) {k:Nat} (hk:k < n) {d:Int} (e:(L.getD k default).2.2 = some d):d ∈ dr W k:=by
 have q:=h.ok k hk
 unfold lbOk at q
 rw [e,Bool.and_eq_true] at q
 exact of_decide_eq_true q.2
theorem SuAll.ind {W:World2} {n b:Nat} {left right:List Bool} {L:List Lb} (h:SuAll W n left right L) (hW:Valid n b W) (P:Nat→Prop)
  (p0:∀ k,k < n→right.getD k false = true→P k) (p1:∀ k d,k < n→left.getD k false = true→d ∈ dr W k→P d.toNat→P k) :
  ∀ k,k < n→(L.getD k default).1 = true→P k:=by
 have main:∀ (m k:Nat) (x:Int),k < n→(L.getD k default).1 = true→(L.getD k default).2.1 = some x→x.toNat ≤ m→P k:=by
  intro m
  induction m with
  | zero =>
   intro k x hk ht hx hm
   rcases su_cases (h.su k hk) with ⟨e,_⟩ | ⟨_,hr⟩ | ⟨y,d,hy,e,_⟩
   ·rw [e] at ht; cases ht
   ·exact p0 k hk hr
   ·have:=h.num hk hx
    rw [e] at hx
    have hx:some y = some x:=hx
    cases hx
    omega
  | succ m ih =>
   intro k x hk ht hx hm
   rcases su_cases (h.su k hk) with ⟨e,_⟩ | ⟨_,hr⟩ | ⟨y,d,hy,e,hl,hd1,hd2⟩
   ·rw [e] at ht; cases ht
   ·exact p0 k hk hr
   ·have h0:=h.num hk hx
    have hd:=h.door hk (d:=d) (by rw [e])
    rw [e] at hx
    have hx:some y = some x:=hx
    cases hx
    have hb:=(dr_in hW hk).2 d hd
    exact p1 k d hk hl hd (ih d.toNat (x - 1) (by omega) hd1 hd2 (by omega))
 intro k hk ht
 rcases su_cases (h.su k hk) with ⟨e,_⟩ | ⟨e,_⟩ | ⟨y,d,hy,e,_⟩
 ·rw [e] at ht; cases ht
 ·exact main _ k 0 hk ht (by rw [e]) (Nat.le_refl _)
 ·exact main _ k y hk ht (by rw [e]) (Nat.le_refl _)
theorem su_unique {W:World2} {n b:Nat} {left right:List Bool} {L L':List Lb} (hW:Valid n b W) (h:SuAll W n left right L) (h':SuAll W n left right L'):∀ k,k < n→(L.getD k default).1 = true→(L'.getD k default).1 = true :=
 h.ind hW (fun k=>(L'.getD k default).1 = true)
  (fun k hk hr=>by
   rcases su_cases (h'.su k hk) with ⟨_,e,_⟩ | ⟨e,_⟩ | ⟨y,d,_,e,_⟩
   ·rw [hr] at e; cases e
   ·rw [e]
   ·rw [e])
  (fun k d hk hl hd ih=>by
   rcases su_cases (h'.su k hk) with ⟨_,_,e | e⟩ | ⟨e,_⟩ | ⟨y,d,_,e,_⟩
   ·rw [hl] at e; cases e
   ·have ih:(lbAt L' d).1 = true:=ih
    rw [e d hd] at ih; cases ih
   ·rw [e]
   ·rw [e])
def keptOf (N:List (Option Int)):List Bool:=N.map fun x=>x.isNone
theorem kept_at {N:List (Option Int)} {k:Nat} (h:k < N.length):(keptOf N).getD k false = (N.getD k none).isNone:=by
 unfold keptOf
 rw [List.getD_eq_getElem?_getD,List.getD_eq_getElem?_getD,List.getElem?_map,List.getElem?_eq_getElem h]
 rfl
def goalB (W:World2) (here kept:List Bool) (k:Nat):Bool:=here.getD k false && (doorTo (dr W k) kept).isSome
structure FallInv (W:World2) (n:Nat) (here:List Bool) (m:Int) (N:List (Option Int)):Prop where
 len:N.length = n
 m0:0 ≤ m
 low:∀ k,k < n→∀ x,N.getD k none = some x→0 ≤ x∧x < m
 fall:∀ k,k < n→∀ x,N.getD k none = some x→∀ e ∈ dr W k,∃ y,N.getD e.toNat none = some y∧y ≤ x∧(here.getD k false = true→y < x)
theorem FallInv.step {W:World2} {n b:Nat} {here goals:List Bool} {m:Int} {N N':List (Option Int)} {R:List Lb} (g:FallInv W n here m N) (hW:Valid n b W) (hl:N'.length = n)
  (hg:∀ k,k < n→goals.getD k false = goalB W here (keptOf N) k) (hR:SuAll W n (allT n) goals R)
  (h:∀ k,k < n→N'.getD k none = if (keptOf N).getD k false && !(R.getD k default).1 then some m else N.getD k none):FallInv W n here (m + 1) N':=by
 have m0:=g.m0
 have keep:∀ k,k < n→∀ x,N.getD k none = some x→N'.getD k none = some x:=fun k hk x e=>by
  have q:=h k hk
  rw [kept_at (by rw [g.len]; exact hk),e] at q
  exact q
 refine ⟨hl,by omega,fun k hk x e=>?_,fun k hk x e d hd=>?_⟩
 ·cases hn:N.getD k none with
  | some y =>
   rw [keep k hk y hn] at e
   cases e
   have:=g.low k hk x hn
   omega
  | none =>
   have q:=h k hk
   rw [hn,e] at q
   cases hc:((keptOf N).getD k false && !(R.getD k default).1) with
   | false=>rw [hc] at q; cases q
   | true=>rw [hc] at q; cases q; omega
 ·have hb:=(dr_in hW hk).2 d hd
  have hdn:d.toNat < n:=by omega
  cases hn:N.getD k none with
  | some y =>
   rw [keep k hk y hn] at e
   cases e
   obtain ⟨y,hy,r⟩:=g.fall k hk x hn d hd
   exact ⟨y,keep _ hdn y hy,r⟩
  | none =>
   have q:=h k hk
   rw [hn,e] at q
   cases hc:((keptOf N).getD k false && !(R.getD k default).1) with
   | false=>rw [hc] at q; cases q
   | true =>
    rw [hc] at q
    have q:some x = some m:=q
    cases q
    rw [Bool.and_eq_true] at hc
    have hf:(R.getD k default).1 = false:=by simpa using hc.2
    rcases su_cases (hR.su k hk) with ⟨_,e2,e3⟩ | ⟨e2,_⟩ | ⟨y,d',_,e2,_⟩
    ·have e3:∀ e ∈ dr W k,(lbAt R e).1 = false:=by
      rcases e3 with e3 | e3
      ·rw [allT_at hk] at e3; cases e3
      ·exact e3
     have hfd:(R.getD d.toNat default).1 = false:=e3 d hd
     cases hnd:N.getD d.toNat none with
     | some y =>
      have:=g.low _ hdn y hnd
      exact ⟨y,keep _ hdn y hnd,by omega,fun _=>by omega⟩
     | none =>
      have hkd:(keptOf N).getD d.toNat false = true:=by
       rw [kept_at (by rw [g.len]; exact hdn),hnd]; rfl
      have qd:=h _ hdn
      rw [hkd,hfd] at qd
      refine ⟨m,qd,Int.le_refl _,fun hh=>?_⟩
      exfalso
      rw [hg k hk] at e2
      unfold goalB at e2
      obtain ⟨d2,hd2⟩:=doorTo_has hd hkd
      rw [hh,hd2] at e2
      cases e2
    ·rw [e2] at hf; cases hf
    ·rw [e2] at hf; cases hf
theorem sa_done {W:World2} {n b:Nat} {here goals:List Bool} {m:Int} {N:List (Option Int)} {R L:List Lb} (g:FallInv W n here m N) (hW:Valid n b W)
  (hg:∀ k,k < n→goals.getD k false = goalB W here (keptOf N) k) (hR:SuAll W n (allT n) goals R) (hk:∀ k,k < n→N.getD k none = none→(R.getD k default).1 = true)
  (h:∀ k,k < n→L.getD k default = match N.getD k none with
   | some x=>(false,some x,none)
   | none=>if (R.getD k default).2.1 = some 0 then (true,some 0,doorTo (dr W k) (keptOf N)) else R.getD k default) :
  ∀ k,k < n→lbOk (L.getD k default) (dr W k) = true∧saR here L k (dr W k) = true:=by
 have kept:∀ k,k < n→(R.getD k default).1 = true→N.getD k none = none:=by
  refine hR.ind hW (fun k=>N.getD k none = none) (fun k hk hr=>?_) (fun k d hk _ hd ih=>?_)
  ·rw [hg k hk] at hr
   unfold goalB at hr
   rw [Bool.and_eq_true] at hr
   cases hq:doorTo (dr W k) (keptOf N) with
   | none=>rw [hq] at hr; exact nomatch hr.2
   | some d =>
    obtain ⟨hd,hw⟩:=doorTo_some hq
    have hb:=(dr_in hW hk).2 d hd
    rw [kept_at (by rw [g.len]; omega)] at hw
    cases hn:N.getD k none with
    | none=>rfl
    | some x =>
     obtain ⟨y,hy,_⟩:=g.fall k hk x hn d hd
     rw [hy] at hw
     cases hw
  ·cases hn:N.getD k none with
   | none=>rfl
   | some x =>
    obtain ⟨y,hy,_⟩:=g.fall k hk x hn d hd
    rw [hy] at ih
    cases ih
 have tru:∀ k,k < n→N.getD k none = none→(L.getD k default).1 = true:=fun k hk' hn=>by
  rw [h k hk',hn]
  show (if (R.getD k default).2.1 = some 0 then ((true,some 0,doorTo (dr W k) (keptOf N)):Lb) else R.getD k default).1 = true
  split
  ·rfl
  ·exact hk k hk' hn
 intro k hk'
 have inn:=(dr_in hW hk').2
 cases hn:N.getD k none with
 | some x =>
  have e:=h k hk'
  rw [hn] at e
  have e:L.getD k default = (false,some x,none):=e
  unfold saR
  rw [e]
  refine ⟨?_,?_⟩
  ·show (decide (0 ≤ x) && true) = true
   rw [decide_eq_true (g.low k hk' x hn).1]
   rfl
  ·show lowB (endsOf L (dr W k)) false (x + 1 - (if here.getD k false = true then 1 else 0)) = true
   unfold lowB
   rw [List.all_eq_true]
   intro l hl
   obtain ⟨d,hd,rfl⟩:=List.mem_map.mp hl
   have hb:=inn d hd
   obtain ⟨y,hy,y1,y2⟩:=g.fall k hk' x hn d hd
   have ed:=h d.toNat (by omega)
   rw [hy] at ed
   have ed:lbAt L d = (false,some y,none):=ed
   rw [ed]
   show (true && decide (y < x + 1 - (if here.getD k false = true then 1 else 0))) = true
   rw [Bool.true_and]
   cases hh:here.getD k false with
   | true =>
    have:=y2 hh
    refine decide_eq_true ?_
    show y < x + 1 - 1
    omega
   | false =>
    refine decide_eq_true ?_
    show y < x + 1 - 0
    omega
 | none =>
  have e:=h k hk'
  rw [hn] at e
  have e:L.getD k default = if (R.getD k default).2.1 = some 0 then (true,some 0,doorTo (dr W k) (keptOf N)) else R.getD k default:=e
  have ht:=hk k hk' hn
  rcases su_cases (hR.su k hk') with ⟨e2,_⟩ | ⟨e2,hr⟩ | ⟨x,d,hx,e2,_,d1,d2⟩
  ·rw [e2] at ht; cases ht
  ·rw [e2] at e
   have e:L.getD k default = (true,some 0,doorTo (dr W k) (keptOf N)):=e
   rw [hg k hk'] at hr
   unfold goalB at hr
   rw [Bool.and_eq_true] at hr
   cases hq:doorTo (dr W k) (keptOf N) with
   | none=>rw [hq] at hr; exact nomatch hr.2
   | some d =>
    obtain ⟨hd,hw⟩:=doorTo_some hq
    have hb:=inn d hd
    rw [kept_at (by rw [g.len]; omega)] at hw
    have hnd:N.getD d.toNat none = none:=by simpa using hw
    rw [hq] at e
    unfold saR
    rw [e]
    refine ⟨?_,?_⟩
    ·show (true && decide (d ∈ dr W k)) = true
     rw [decide_eq_true hd]; rfl
    ·show (if (!(lbAt L d).1) = true then false else here.getD k false) = true
     have:(lbAt L d).1 = true:=tru d.toNat (by omega) hnd
     rw [this,hr.1]
     rfl
  ·rw [e2] at e
   have hx':¬ (some x = some (0:Int)):=fun z=>hx (Option.some.inj z)
   have e:L.getD k default = (true,some x,some d):=e.trans (if_neg hx')
   have hd:=hR.door hk' (d:=d) (by rw [e2])
   have hb:=inn d hd
   have hnd:=kept d.toNat (by omega) d1
   have x0:=hR.num hk' (x:=x) (by rw [e2])
   have ed:=h d.toNat (by omega)
   rw [hnd] at ed
   have ed:lbAt L d = if (R.getD d.toNat default).2.1 = some 0 then (true,some 0,doorTo (dr W d.toNat) (keptOf N)) else R.getD d.toNat default:=ed
   have ed1:(lbAt L d).1 = true:=tru d.toNat (by omega) hnd
   have ed2:(lbAt L d).2.1 = some (x - 1):=by
    have d2:(R.getD d.toNat default).2.1 = some (x - 1):=d2
    rw [ed]
    split
    ·rename_i q
     rw [q] at d2
     exact d2
    ·exact d2
   unfold saR
   rw [e]
   refine ⟨?_,?_⟩
   ·show (decide (0 ≤ x) && decide (d ∈ dr W k)) = true
    rw [decide_eq_true x0,decide_eq_true hd]; rfl
   ·show (if (!(lbAt L d).1) = true then false else if decide (x = 0) = true then here.getD k false else decide ((lbAt L d).2.1 = some (x - 1))) = true
    rw [ed1,ed2,decide_eq_false hx]
    simp
def turnL (l:Lb):Lb:=(!l.1,l.2.1,l.2.2)
theorem au_cases {left right:List Bool} {L:List Lb} {k:Nat} {doors:List Int} (h:auR left right L k doors = true) (hf:(L.getD k default).1 = false) (hl:left.getD k false = true) :
  ∃ d,L.getD k default = (false,none,some d)∧right.getD k false = false∧(lbAt L d).1 = false:=by
 unfold auR at h
 generalize hl':L.getD k default = l at h hf
 obtain ⟨lt,ln,ld⟩:=l
 have hf:lt = false:=hf
 subst hf
 cases ln with
 | some x=>cases h
 | none =>
  cases ld with
  | none =>
   have h:(if right.getD k false = true then false else !left.getD k false) = true:=h
   rw [hl] at h
   split at h <;> cases h
  | some d =>
   have h:(if right.getD k false = true then false else left.getD k false && !(lbAt L d).1) = true:=h
   cases hr:right.getD k false with
   | true=>rw [hr] at h; cases h
   | false =>
    rw [hr,hl] at h
    have h:(!(lbAt L d).1) = true:=h
    refine ⟨d,rfl,rfl,?_⟩
    cases q:(lbAt L d).1 with
    | false=>rfl
    | true=>rw [q] at h; cases h
theorem aa_done {W:World2} {n b:Nat} {here without:List Bool} {O S L:List Lb} (hW:Valid n b W)
  (ho:∀ k,k < n→lbOk (O.getD k default) (dr W k) = true) (hO:∀ k,k < n→auR (allT n) here O k (dr W k) = true)
  (hw:∀ k,k < n→without.getD k false = !(O.getD k default).1)
  (hs:∀ k,k < n→lbOk (S.getD k default) (dr W k) = true) (hS:∀ k,k < n→suR2 (allT n) without S k (dr W k) = true)
  (h:∀ k,k < n→L.getD k default = if (S.getD k default).1 = false then (true,(O.getD k default).2.1,none) else if (S.getD k default).2.1 = some 0 then (false,some 0,(O.getD k default).2.2) else turnL (S.getD k default)) :
  ∀ k,k < n→lbOk (L.getD k default) (dr W k) = true∧aaR here L k (dr W k) = true:=by
 have A:SuAll W n (allT n) without S:=⟨hs,fun k hk=>su2_su (hS k hk)⟩
 have lf:∀ k,k < n→(S.getD k default).1 = false→L.getD k default = (true,(O.getD k default).2.1,none):=fun k hk hf=>by
  rw [h k hk,if_pos hf]
 have lt1:∀ k,k < n→(S.getD k default).1 = true→(L.getD k default).1 = false∧(L.getD k default).2.1 = (S.getD k default).2.1:=fun k hk ht=>by
  rw [h k hk,if_neg (by rw [ht]; exact fun z=>nomatch z)]
  split
  ·rename_i q
   exact ⟨rfl,q.symm⟩
  ·refine ⟨?_,rfl⟩
   show (!(S.getD k default).1) = false
   rw [ht]; rfl
 intro k hk
 have inn:=(dr_in hW hk).2
 rcases su_cases (A.su k hk) with ⟨e2,hr,hd⟩ | ⟨e2,hr⟩ | ⟨x,d,hx,e2,_,d1,d2⟩
 ·have hd:∀ e ∈ dr W k,(lbAt S e).1 = false:=by
   rcases hd with hd | hd
   ·rw [allT_at hk] at hd; cases hd
   ·exact hd
  have e:=lf k hk (by rw [e2])
  rw [hw k hk] at hr
  have ot:(O.getD k default).1 = true:=by
   cases q:(O.getD k default).1 with
   | true=>rfl
   | false=>rw [q] at hr; cases hr
  obtain ⟨x,hx,alt⟩:=au_true (hO k hk) ot
  have ok:=ho k hk
  unfold lbOk at ok
  rw [hx,Bool.and_eq_true] at ok
  have x0:0 ≤ x:=of_decide_eq_true ok.1
  rw [hx] at e
  have le:∀ d ∈ dr W k,lbAt L d = (true,(lbAt O d).2.1,none):=fun d hd'=>by
   have hb:=inn d hd'
   exact lf d.toNat (by omega) (hd d hd')
  unfold aaR
  rw [e]
  refine ⟨?_,?_⟩
  ·show (decide (0 ≤ x) && true) = true
   rw [decide_eq_true x0]; rfl
  ·show (if here.getD k false = true then !((endsOf L (dr W k)).map (·.1)).contains false else lowB (endsOf L (dr W k)) true x) = true
   cases hh:here.getD k false with
   | true =>
    show (!((endsOf L (dr W k)).map (·.1)).contains false) = true
    cases hc:((endsOf L (dr W k)).map (·.1)).contains false with
    | false=>rfl
    | true =>
     obtain ⟨l,hl,el⟩:=List.mem_map.mp (List.contains_iff_mem.mp hc)
     obtain ⟨d,hd',rfl⟩:=List.mem_map.mp hl
     rw [le d hd'] at el
     cases el
   | false =>
    show lowB (endsOf L (dr W k)) true x = true
    rcases alt with alt | ⟨_,alt⟩
    ·rw [hh] at alt; cases alt
    ·unfold lowB
     rw [List.all_eq_true]
     intro l hl
     obtain ⟨d,hd',rfl⟩:=List.mem_map.mp hl
     obtain ⟨_,y,hy,hlt⟩:=alt d hd'
     rw [le d hd',hy]
     show (true && decide (y < x)) = true
     rw [decide_eq_true hlt]; rfl
 ·rw [hw k hk] at hr
  have of:(O.getD k default).1 = false:=by
   cases q:(O.getD k default).1 with
   | false=>rfl
   | true=>rw [q] at hr; cases hr
  obtain ⟨d,eo,hh,hd1⟩:=au_cases (hO k hk) of (allT_at hk)
  have ok:=ho k hk
  unfold lbOk at ok
  rw [eo,Bool.and_eq_true] at ok
  have hd:d ∈ dr W k:=of_decide_eq_true ok.2
  have hb:=inn d hd
  have e:L.getD k default = (false,some 0,some d):=by
   rw [h k hk,e2,eo]; rfl
  have sd:S.getD d.toNat default = (true,some 0,none):=su2_right (hS d.toNat (by omega)) (by
   rw [hw _ (by omega)]
   have hd1:(O.getD d.toNat default).1 = false:=hd1
   rw [hd1]; rfl)
  obtain ⟨l1,l2⟩:=lt1 d.toNat (by omega) (by rw [sd])
  rw [sd] at l2
  unfold aaR
  rw [e]
  refine ⟨?_,?_⟩
  ·show (true && decide (d ∈ dr W k)) = true
   rw [decide_eq_true hd]; rfl
  ·have l1:(lbAt L d).1 = false:=l1
   have l2:(lbAt L d).2.1 = some 0:=l2
   show (if (lbAt L d).1 = true then false else !here.getD k false && decide ((lbAt L d).2.1 = some 0)) = true
   rw [l1,l2,hh]
   rfl
 ·have hd:=A.door hk (d:=d) (by rw [e2])
  have hb:=inn d hd
  have x0:=A.num hk (x:=x) (by rw [e2])
  have hx':¬ (some x = some (0:Int)):=fun z=>hx (Option.some.inj z)
  have e:L.getD k default = (false,some x,some d):=by
   rw [h k hk,e2,if_neg (fun z=>nomatch z),if_neg hx']; rfl
  obtain ⟨l1,l2⟩:=lt1 d.toNat (by omega) d1
  have l1:(lbAt L d).1 = false:=l1
  have l2:(lbAt L d).2.1 = some (x - 1):=l2.trans d2
  unfold aaR
  rw [e]
  refine ⟨?_,?_⟩
  ·show (decide (0 ≤ x) && decide (d ∈ dr W k)) = true
   rw [decide_eq_true x0,decide_eq_true hd]; rfl
  ·show (if (lbAt L d).1 = true then false else if decide (x = 0) = true then !here.getD k false && decide ((lbAt L d).2.1 = some 0) else decide ((lbAt L d).2.1 = some (x - 1))) = true
   rw [l1,l2,decide_eq_false hx]
   simp
end Ws
namespace Ws
def cf (n:Nat) (L:List Lb):Nat:=(List.range n).countP fun k=>!(L.getD k default).1
theorem countP_less {α:Type} {p q:α→Bool}:∀ {l:List α},(∀ x ∈ l,p x = true→q x = true)→(∃ x ∈ l,p x = false∧q x = true)→l.countP p < l.countP q
 | [],_,⟨_,h,_⟩=>nomatch h
 | a :: l,h,⟨x,hx,hp,hq⟩=>by
  have le:l.countP p ≤ l.countP q:=List.countP_mono_left fun y hy=>h y (List.mem_cons_of_mem _ hy)
  rw [List.countP_cons,List.countP_cons]
  rcases List.mem_cons.mp hx with rfl | hx
  ·rw [hp,hq,if_neg Bool.false_ne_true,if_pos rfl]
   omega
  ·have ih:=countP_less (fun y hy=>h y (List.mem_cons_of_mem _ hy)) ⟨x,hx,hp,hq⟩
   cases ha:p a with
   | true =>
    rw [h a List.mem_cons_self ha]
    omega
   | false =>
    have z:(if false = true then 1 else 0) = 0:=rfl
    rw [z]
    omega
theorem cf_lt {n:Nat} {L L':List Lb} (h:∀ k,k < n→(L.getD k default).1 = true→(L'.getD k default).1 = true) (g:∃ k,k < n∧(L.getD k default).1 = false∧(L'.getD k default).1 = true):cf n L' < cf n L:=by
 refine countP_less (fun k hk hp=>?_) ?_
 ·cases ht:(L.getD k default).1 with
  | false=>rfl
  | true=>rw [h k (List.mem_range.mp hk) ht] at hp; exact hp
 ·obtain ⟨k,hk,h1,h2⟩:=g
  exact ⟨k,List.mem_range.mpr hk,by rw [h2]; rfl,by rw [h1]; rfl⟩
theorem cf_le {n:Nat} {L L':List Lb} (h:∀ k,k < n→(L.getD k default).1 = true→(L'.getD k default).1 = true):cf n L' ≤ cf n L :=
 List.countP_mono_left fun k hk hp=>by
  cases ht:(L.getD k default).1 with
  | false=>rfl
  | true=>rw [h k (List.mem_range.mp hk) ht] at hp; exact hp
def newL (sm:Bool) (W:World2) (left:List Bool) (m:Int) (L:List Lb) (k:Nat):Lb:=if left.getD k false && !(L.getD k default).1 then joinL sm (dr W k) (trs L) (m + 1) else L.getD k default
def grewB (sm:Bool) (W:World2) (left:List Bool) (m:Int) (L:List Lb) (i:Nat):Bool:=(List.range i).any fun k=>!(L.getD k default).1 && (newL sm W left m L k).1
theorem grew_succ (sm:Bool) (W:World2) (left:List Bool) (m:Int) (L:List Lb) (i:Nat):grewB sm W left m L (i + 1) = (grewB sm W left m L i || (!(L.getD i default).1 && (newL sm W left m L i).1)):=by
 unfold grewB
 rw [List.range_succ,List.any_append]
 simp
def startL (l:List Bool):List Lb:=l.map fun t=>if t then (true,some 0,none) else (false,none,none)
theorem start_at {l:List Bool} {k:Nat} (h:k < l.length):(startL l).getD k default = if l.getD k false then (true,some 0,none) else (false,none,none):=by
 unfold startL
 rw [List.getD_eq_getElem?_getD,List.getElem?_map,List.getD_eq_getElem?_getD,List.getElem?_eq_getElem h]
 rfl
theorem tru_keep {sm:Bool} {W:World2} {left:List Bool} {m:Int} {L L':List Lb} {n:Nat} (h:∀ k,k < n→L'.getD k default = newL sm W left m L k):∀ k,k < n→(L.getD k default).1 = true→(L'.getD k default).1 = true:=fun k hk ht=>by
 rw [h k hk]
 unfold newL
 rw [ht,Bool.not_true,Bool.and_false,if_neg Bool.false_ne_true,ht]
end Ws
namespace Ws
def goalsOf (W:World2) (n:Nat) (here kept:List Bool):List Bool:=(List.range n).map (goalB W here kept)
theorem range_at {α:Type} {n k:Nat} {g:Nat→α} {d:α} (h:k < n):((List.range n).map g).getD k d = g k:=by
 rw [List.getD_eq_getElem?_getD,List.getElem?_map,List.getElem?_range h]
 rfl
theorem goals_at {W:World2} {n:Nat} {here kept:List Bool} {k:Nat} (h:k < n):(goalsOf W n here kept).getD k false = goalB W here kept k:=range_at h
def cn (n:Nat) (N:List (Option Int)):Nat:=(List.range n).countP fun k=>(N.getD k none).isNone
def newN (N:List (Option Int)) (R:List Lb) (m:Int) (k:Nat):Option Int:=if (keptOf N).getD k false && !(R.getD k default).1 then some m else N.getD k none
def fellB (N:List (Option Int)) (R:List Lb) (i:Nat):Bool:=(List.range i).any fun k=>(keptOf N).getD k false && !(R.getD k default).1
theorem fell_succ (N:List (Option Int)) (R:List Lb) (i:Nat):fellB N R (i + 1) = (fellB N R i || ((keptOf N).getD i false && !(R.getD i default).1)):=by
 unfold fellB
 rw [List.range_succ,List.any_append]
 simp
theorem cn_le {n:Nat} {N N':List (Option Int)} {R:List Lb} {m:Int} (h:∀ k,k < n→N'.getD k none = newN N R m k):cn n N' ≤ cn n N :=
 List.countP_mono_left fun k hk hp=>by
  rw [h k (List.mem_range.mp hk)] at hp
  unfold newN at hp
  split at hp
  ·cases hp
  ·exact hp
theorem cn_lt {n:Nat} {N N':List (Option Int)} {R:List Lb} {m:Int} (hl:N.length = n) (h:∀ k,k < n→N'.getD k none = newN N R m k) (hf:fellB N R n = true):cn n N' < cn n N:=by
 unfold fellB at hf
 rw [List.any_eq_true] at hf
 obtain ⟨k,hk,hf⟩:=hf
 have hk':=List.mem_range.mp hk
 refine countP_less (fun j hj hp=>?_) ⟨k,hk,?_,?_⟩
 ·rw [h j (List.mem_range.mp hj)] at hp
  unfold newN at hp
  split at hp
  ·cases hp
  ·exact hp
 ·rw [h k hk']
  unfold newN
  rw [if_pos hf]
  rfl
 ·rw [Bool.and_eq_true,kept_at (by omega)] at hf
  exact hf.1
theorem list_ext_getD {α:Type} {l l':List α} {d:α} (hl:l.length = l'.length) (h:∀ k,k < l.length→l.getD k d = l'.getD k d):l = l' :=
 List.ext_getElem hl fun k h1 h2=>by
  have:=h k h1
  rw [List.getD_eq_getElem?_getD,List.getD_eq_getElem?_getD,List.getElem?_eq_getElem h1,List.getElem?_eq_getElem h2] at this
  exact this
theorem not_fell {n:Nat} {N N':List (Option Int)} {R:List Lb} {m:Int} (hl:N.length = n) (hl':N'.length = n) (h:∀ k,k < n→N'.getD k none = newN N R m k) (hf:fellB N R n = false) :
  N' = N∧∀ k,k < n→N.getD k none = none→(R.getD k default).1 = true:=by
 unfold fellB at hf
 rw [List.any_eq_false] at hf
 refine ⟨list_ext_getD (d:=none) (by omega) fun k hk=>?_,fun k hk hn=>?_⟩
 ·rw [h k (by omega)]
  unfold newN
  rw [if_neg (hf k (List.mem_range.mpr (by omega)))]
 ·have q:=hf k (List.mem_range.mpr hk)
  rw [kept_at (by omega),hn] at q
  cases hr:(R.getD k default).1 with
  | true=>rfl
  | false=>rw [hr] at q; exact absurd rfl q
def newA (W:World2) (N:List (Option Int)) (R:List Lb) (k:Nat):Lb:=match N.getD k none with
 | some x=>(false,some x,none)
 | none=>if (R.getD k default).2.1 = some 0 then (true,some 0,doorTo (dr W k) (keptOf N)) else R.getD k default
def newB (O S:List Lb) (k:Nat):Lb:=if (S.getD k default).1 = false then (true,(O.getD k default).2.1,none) else if (S.getD k default).2.1 = some 0 then (false,some 0,(O.getD k default).2.2) else turnL (S.getD k default)
theorem turnL_at {S:List Lb} {k:Nat} (h:k < S.length):(S.map turnL).getD k default = turnL (S.getD k default):=by
 rw [List.getD_eq_getElem?_getD,List.getElem?_map,List.getD_eq_getElem?_getD,List.getElem?_eq_getElem h]
 rfl
theorem step_if {α:Type} {i k:Nat} {x y:Nat→α}:(if k < i + 1 then x k else y k) = if k = i then x i else if k < i then x k else y k:=by
 by_cases e:k = i
 ·subst e
  rw [if_pos (Nat.lt_succ_self _),if_pos rfl]
 ·rw [if_neg e]
  by_cases e2:k < i
  ·rw [if_pos e2,if_pos (by omega)]
  ·rw [if_neg e2,if_neg (by omega)]
end Ws
namespace L2
open PySem PySem.Spec PyProof.Rows
section
variable {X:Cx} {N:List Str} {scope:Scope} {cl:List (Str × Addr)} {C:Addr} {fp:List Addr} {s:Shared} {H:Hp} {pos:Pos}
theorem cpg_tup {es:List Expr} {k:Nat} {t:TGs} {n:Nat} (hc:X.calm = true) (h:PGs (cxComp X N scope cl C fp s H) es t)
  (hn:(assignEach es (cxComp X N scope cl C fp s H).env).length = n:=by rfl) (hst:(assignEach es (cxComp X N scope cl C fp s H).env).findIdx? (·.1) = none:=by rfl):PG (cxComp X N scope cl C fp s H) (.Tuple es k pos) (gTup X.K n t):=pg_tup hc h hn hst
end
end L2
namespace Ws
open PySem L2
theorem bAll:bootBuiltins "all" = some (.builtin "all"):=by decide +kernel
structure Blt2 (mg:Str→Option Value):Prop where
 all:mg "all" = none
 any:mg "any" = none
theorem bools_get:∀ {bs:List Bool} {us:List Value} {i:Nat} {v:Value},Vals (bs.map V.bl) us→us[i]? = some v→∃ b,bs[i]? = some b∧v = .bool b
 | [],_,_,_,.nil,e=>by simp at e
 | b :: _,_,0,_,.cons r _,e=>by
  simp at e
  subst e
  exact ⟨b,rfl,r⟩
 | _ :: _,_,i + 1,v,.cons _ t,e=>by
  obtain ⟨b,h1,h2⟩:=bools_get (i:=i) (v:=v) t (by simpa using e)
  exact ⟨b,by simpa using h1,h2⟩
theorem rangeAll (bs:List Bool):((List.range bs.length).all fun i=>(bs[i]?).getD true) = bs.all id:=by
 rw [Bool.eq_iff_iff,List.all_eq_true,List.all_eq_true]
 constructor
 ·intro h b hb
  obtain ⟨i,hi,e⟩:=List.getElem_of_mem hb
  have:=h i (List.mem_range.mpr hi)
  simp only [List.getElem?_eq_getElem hi,Option.getD_some,e] at this
  exact this
 ·intro h i hi
  have hi':=List.mem_range.mp hi
  simp only [List.getElem?_eq_getElem hi',Option.getD_some]
  exact h _ (List.getElem_mem hi')
theorem keptIter {s:Shared} {h':Heap} {o:Obj} (hk:∀ b x,b ∉ [s.heap.objs.size]→(s.heap.push o).get? b = some x→h'.get? b = some x):∀ b x,s.heap.get? b = some x→h'.get? b = some x :=
 fun b x e=>hk b x (fun hm=>by rw [List.mem_singleton.mp hm] at e; exact Nat.lt_irrefl _ (Heap.lt_size e)) (Heap.get?_push_of_some _ e)
section
variable {X:Cx}
theorem call_all (hc:X.calm = true):CallR X (.builtin "all") (fun xs H Q=>∃ (p:Addr) (bs:List Bool),xs = [.ref p]∧SqL X.K H p (bs.map V.bl)∧Q (.bl (bs.all id)) H):=by
 intro pins s σ H xs us Q I r h
 obtain ⟨p,bs,rfl,hq,q⟩:=h
 obtain ⟨u,rfl,rx⟩:=vals1 r
 cases rx
 obtain ⟨its,r',pl,hz⟩:=I.list hq
 have hl:=pl.isList
 have hlt:p < s.heap.objs.size:=by obtain ⟨_,e,_⟩:=hl; exact Heap.lt_size e
 have hlen:=r'.length
 rw [List.length_map] at hlen
 refine call_all_walk (wpAny_pyIter_list hl ?_)
 refine ⟨s.heap.objs.size,[s.heap.objs.size,p],[s.heap.objs.size],its.toArray.size,_,_,fun i=>(bs[i]?).getD true,rfl,Walks.list (A:=X.A.in1) (I.ok.hd hc) _ p (Nat.ne_of_lt hlt) its.toArray,
  ⟨⟨_,Heap.get?_push_size _ rfl,rfl,rfl⟩,hl.push _⟩,fun i v s' Q' E' hP hQ=>?_,fun h' tk hk=>?_⟩
 ·obtain ⟨b,e,rfl⟩:=bools_get r' (by simpa using hP)
  simp only [e,Option.getD_some] at hQ
  exact wpAny_truthy_bool hQ
 ·have e:((List.range its.toArray.size).all fun i=>(bs[i]?).getD true) = bs.all id:=by
   rw [List.size_toArray,← hlen]; exact rangeAll bs
  rw [e]
  exact ⟨.bl (bs.all id),H,I.kept (keptIter hk),rfl,q⟩
end
theorem DsAt.set {G:Hp} {v:V} {d:Dat} (h:DAt G v d):∀ {vs:List V} {ds:List Dat} (i:Nat),DsAt G vs ds→DsAt G (vs.set i v) (ds.set i d)
 | _,_,_,.nil=>.nil
 | _,_,0,.cons _ t=>.cons h t
 | _,_,i + 1,.cons q t=>.cons q (DsAt.set h i t)
theorem Grow.put {α:Type} {φ:α→Dat} {H0 H:Hp} {q:Addr} {ts:List α} {vs:List V} (g:Grow φ H0 H q ts vs) {v:V} {t:α} (i:Nat) (h:DAt (del H q) v (φ t)):Grow φ H0 (upd H q (.lst (vs.set i v))) q (ts.set i t) (vs.set i v):=by
 obtain ⟨⟨G,a,b,c,d⟩,e⟩:=g
 refine ⟨⟨del H q,a.trans (same_del b c),del_upd,del_at,?_⟩,upd_same⟩
 rw [List.map_set]
 exact (d.mono (same_del b c)).set h i
theorem Grow.fresh_ne {α:Type} {φ:α→Dat} {H0 H:Hp} {q t:Addr} {ts:List α} {vs:List V} (g:Grow φ H0 H q ts vs) (h:H t = none):t ≠ q:=fun z=>by rw [z,g.at_] at h; cases h
theorem Grow.lab {H0 H:Hp} {q:Addr} {L:List Lb} {vs:List V} (g:Grow lbdat H0 H q L vs) {k:Nat} (hk:k < L.length):∃ t,atI vs (k:Int) = some (.ref t)∧H t = some (.tup [.bl (L.getD k default).1,ov (L.getD k default).2.1,ov (L.getD k default).2.2]):=by
 obtain ⟨v,e,d⟩:=g.items.nth hk
 obtain ⟨t,rfl,et⟩:=lbdat_inv d
 rw [getD_eq hk]
 exact ⟨t,atI_nat e,et⟩
theorem lab_at {H:Hp} {c:Addr} {L:List Lb} (h:DAt H (.ref c) (lsdat L)) {k:Nat} (hk:k < L.length):∃ vs t,H c = some (.lst vs)∧vs[k]? = some (.ref t)∧DAt H (.ref t) (lbdat (L.getD k default))∧H t = some (.tup [.bl (L.getD k default).1,ov (L.getD k default).2.1,ov (L.getD k default).2.2]):=by
 obtain ⟨c',vs,e,hc,hv⟩:=DAt.lst_inv h
 cases e
 obtain ⟨v,e,d⟩:=hv.nth hk
 obtain ⟨t,rfl,et⟩:=lbdat_inv d
 rw [getD_eq hk]
 exact ⟨vs,t,hc,e,d,et⟩
theorem set_at {α:Type} {l:List α} {i k:Nat} {x d:α} (hi:i < l.length):(l.set i x).getD k d = if k = i then x else l.getD k d:=by
 rw [List.getD_eq_getElem?_getD,List.getD_eq_getElem?_getD]
 by_cases h:k = i
 ·subst h
  rw [List.getElem?_set_self hi,if_pos rfl]
  rfl
 ·rw [List.getElem?_set_ne (fun z=>h z.symm),if_neg h]
theorem ixN_nat {n k:Nat} (h:k < n):ixN n (k:Int) = some k:=by
 unfold ixN
 rw [if_pos (by omega),if_pos (by omega)]
 rfl
end Ws
namespace L2
open PySem PySem.Spec PyProof.Rows
section
variable {X:Cx} {pins:List (Addr × Obj)} {σ:St} {H H':Hp} {s:Shared} {h':Heap}
theorem Inv.turnedL {t':Nat} {fp:List Addr} (I:Inv X pins σ H s) (k:∀ b o,b ∉ fp→s.heap.get? b = some o→h'.get? b = some o) (hf:∀ b ∈ fp,FpOk X pins H b):Inv X pins σ H { s with heap:=h',toks:=t' }:=by
 have nfp:∀ b u,H b = some u→b ∉ fp:=fun b u e z=>by have:=(hf b z).1; rw [e] at this; cases this
 refine I.step (g':=s.gens) (d':=s.drawn) (ch:=fp) (fun b hb=>⟨(hf b hb).2.2.2.1,(hf b hb).2.1,(hf b hb).2.2.2.2.1,(hf b hb).2.2.2.2.2⟩) (fun b o _ _ hc e _=>k b o hc e) (fun b o _ _ hc e _=>⟨o.slots,k b o hc e⟩) (fun _ _ _ _ n=>n)
  (fun b o hc e=>⟨o,k b o hc e⟩) (fun _ _ e=>e) (fun _ _ _ e=>e) (fun b ps e=>⟨#[],by rw [e,Array.append_empty]⟩) (fun m hm=>?_) (fun b u e=>?_) I.bare
 ·obtain ⟨o,es,ep,ho,r⟩:=hm
  exact ⟨o,es,ep,k _ o (fun z=>(hf _ z).2.1 rfl) ho,r⟩
 ·refine (I.hok b u e).stay (fun c v hc q=>k c v ?_ q) (fun _ q=>q) fun _ _ q=>q
  rcases hc with rfl | hc
  ·exact nfp c u e
  ·exact nfp c _ hc
theorem Inv.turnedT {t':Nat} {fp:List Addr} {xs:List V} {us:List Value} (I:Inv X pins σ H s) (k:∀ b o,b ∉ fp→s.heap.get? b = some o→h'.get? b = some o) (hf:∀ b ∈ fp,FpOk X pins H b) (hlt:∀ b ∈ fp,b < s.heap.objs.size)
  (hT:h'.get? s.heap.objs.size = some { cls:=.type "tuple",data:=.seq us.toArray }) (rv:Vals xs us) (hz:xs.length ≤ sizeLine) :
  Inv X pins σ (upd H s.heap.objs.size (.tup xs)) { s with heap:=h',toks:=t' }:=by
 have I1:Inv X pins σ (upd H s.heap.objs.size (.tup xs)) { s with heap:=s.heap.push { cls:=.type "tuple",data:=.seq us.toArray },toks:=s.toks } :=
  I.laid (t':=s.toks) (fun b u e=>Heap.get?_push_of_some _ e) (Nat.le_refl _) ⟨hz,us,rv,⟨_,Heap.get?_push_size _ rfl,rfl,_,rfl⟩⟩
 refine Inv.turnedL (s:={ s with heap:=s.heap.push { cls:=.type "tuple",data:=.seq us.toArray },toks:=s.toks }) (fp:=fp) I1 (fun b o hb e=>?_) fun b hb=>⟨?_,(hf b hb).2⟩
 ·replace e:(s.heap.push { cls:=.type "tuple",data:=.seq us.toArray }).get? b = some o:=e
  by_cases hbs:b = s.heap.objs.size
  ·rw [hbs] at e ⊢
   rw [show (s.heap.push { cls:=.type "tuple",data:=.seq us.toArray }).get? s.heap.objs.size = some { cls:=.type "tuple",data:=.seq us.toArray } from Heap.get?_push_size _ rfl] at e
   rw [hT,e]
  ·have hlt':b < s.heap.objs.size:=by
    have:=Heap.lt_size e
    rw [Heap.size_push] at this
    exact Nat.lt_of_le_of_ne (Nat.le_of_lt_succ this) hbs
   refine k b o hb ?_
   cases q:s.heap.get? b with
   | some o'=>rw [← e]; exact (Heap.get?_push_of_some _ q).symm
   | none =>
    exfalso
    rw [Heap.get?_push_ne _ _ _ hbs,q] at e
    cases e
 ·have:b ≠ s.heap.objs.size:=Nat.ne_of_lt (hlt b hb)
  rw [upd_ne this]
  exact (hf b hb).1
end
def Itz (K:PySem.W.Frag) (a b:Addr):It :=
 ⟨fun i H=>∃ xs ys x y,SqL K H a xs∧SqL K H b ys∧xs[i]? = some x∧ys[i]? = some y,
  fun i H v H'=>∃ T x y,H T = none∧v = .ref T∧H' = upd H T (.tup [x,y])∧(∀ xs,SqL K H a xs→xs[i]? = some x)∧∀ ys,SqL K H b ys→ys[i]? = some y,
  fun i H=>∃ xs ys,SqL K H a xs∧SqL K H b ys∧(xs.length ≤ i ∨ ys.length ≤ i)⟩
theorem turn_zip {P:Program} {w:World} {K:PySem.W.Frag} {elts:List Expr} {x1:Nat} {pos:Pos} {z TI TO i1 i2 a b:Addr} (D:ZipApart z TI TO i1 i2 a b) :
  Turn P w K (.Tuple elts x1 pos) (Itz K a b) [z,TI,TO,i1,i2] z (fun i h=>IsZip h z TI TO .none∧IsPair h TI (.ref i1) (.ref i2)∧(∃ p q,IsPair h TO p q)∧h.IsListIter i1 a i∧h.IsListIter i2 b i) where
 mem:=List.mem_cons_self
 obj:=fun i h st c hc=>by
  obtain ⟨hz,hTI,⟨p,q,hTO⟩,⟨o1,e1,_,d1⟩,⟨o2,e2,_,d2⟩⟩:=st
  simp only [List.mem_cons,List.not_mem_nil,or_false] at hc
  rcases hc with rfl | rfl | rfl | rfl | rfl
  ·exact ⟨_,hz,fun v q=>nomatch q⟩
  ·exact ⟨_,hTI,fun v q=>nomatch q⟩
  ·exact ⟨_,hTO,fun v q=>nomatch q⟩
  ·exact ⟨_,e1,fun v q=>by rw [d1] at q; cases q⟩
  ·exact ⟨_,e2,fun v q=>by rw [d2] at q; cases q⟩
 keep:=fun i h h' st k=>by
  obtain ⟨hz,hTI,⟨p,q,hTO⟩,h1,h2⟩:=st
  exact ⟨k z (by simp) _ hz,k TI (by simp) _ hTI,⟨p,q,k TO (by simp) _ hTO⟩,h1.at fun o e=>k i1 (by simp) o e,h2.at fun o e=>k i2 (by simp) o e⟩
 item:=by
  intro X hP hw hK hc i pins s σ H E I hf st hg
  subst hP hw hK
  obtain ⟨xs,ys,x,y,hqx,hqy,hx,hy⟩:=hg
  obtain ⟨hz,hTI,⟨p,q,hTO⟩,h1,h2⟩:=st
  obtain ⟨ia,ra,pa,_⟩:=I.list hqx
  obtain ⟨ib,rb,pb,_⟩:=I.list hqy
  obtain ⟨u,hu,ru⟩:=ra.get hx
  obtain ⟨v,hv,rv⟩:=rb.get hy
  refine wpAny_pyNext_zip_item D hz hTI hTO h1 h2 pa.isList pb.isList (x:=u) (y:=v) (by simpa using hu) (by simpa using hv) fun h' z1 z2 z3 z4 z5 z6 z7=>?_
  refine ⟨_,rfl,wpAny_letOwnedTupleGo_zip (s:={ s with heap:=h' }) z1 fun h'' y1 ys1=>?_⟩
  replace ys1:Heap.SameBut z h' h'':=ys1
  have lt:∀ {c o},s.heap.get? c = some o→c < s.heap.objs.size:=fun e=>Heap.lt_size e
  have nz:s.heap.objs.size ≠ z:=Nat.ne_of_gt (lt hz)
  have hlt:∀ c ∈ [z,TI,TO,i1,i2],c < s.heap.objs.size:=fun c hc=>by
   simp only [List.mem_cons,List.not_mem_nil,or_false] at hc
   rcases hc with rfl | rfl | rfl | rfl | rfl
   ·exact lt hz
   ·exact lt hTI
   ·exact lt hTO
   ·obtain ⟨_,e,_⟩:=h1; exact lt e
   ·obtain ⟨_,e,_⟩:=h2; exact lt e
  have kk:∀ c o,c ∉ [z,TI,TO,i1,i2]→s.heap.get? c = some o→h''.get? c = some o:=fun c o hc e=>by
   simp only [List.mem_cons,List.not_mem_nil,or_false,not_or] at hc
   exact ys1.extBut _ _ hc.1 (z7 c o hc.1 hc.2.2.1 hc.2.2.2.1 hc.2.2.2.2 e)
  have hT:h''.get? s.heap.objs.size = some { cls:=.type "tuple",data:=.seq [u,v].toArray }:=ys1.extBut _ _ nz z5
  refine ⟨.ref s.heap.objs.size,upd H s.heap.objs.size (.tup [x,y]),I.turnedT (t':=s.toks) kk hf hlt hT (.cons ru (.cons rv .nil)) (by show 2 ≤ sizeLine; decide),rfl,⟨_,x,y,I.hok.fresh (Nat.le_refl _),rfl,rfl,fun zs hzs=>by rw [I.list_inj hzs hqx]; exact hx,fun zs hzs=>by rw [I.list_inj hzs hqy]; exact hy⟩,?_,fun c hc=>?_⟩
  ·exact ⟨y1,ys1.extBut _ _ D.TIz (z7 _ _ D.TIz D.TITO D.TIi1 D.TIi2 hTI),⟨_,_,ys1.extBut _ _ D.TOz z2⟩,z3.extBut ys1.extBut D.i1z,z4.extBut ys1.extBut D.i2z⟩
  ·rw [upd_ne (Nat.ne_of_lt (hlt c hc))]
   exact (hf c hc).1
 done:=by
  intro X hP hw hK hc i pins s σ H E I hf st hg
  subst hP hw hK
  obtain ⟨xs,ys,hqx,hqy,hx⟩:=hg
  obtain ⟨hz,hTI,⟨p,q,hTO⟩,h1,h2⟩:=st
  obtain ⟨ia,ra,pa,_⟩:=I.list hqx
  obtain ⟨ib,rb,pb,_⟩:=I.list hqy
  have la:=ra.length
  have lb:=rb.length
  refine wpAny_pyNext_zip_end (I.ok.hd hc) D hz hTI hTO h1 h2 pa.isList pb.isList ?_ fun h' kk=>⟨rfl,I.turnedL (t':=s.toks) (fp:=[z,TI,TO,i1,i2]) (fun c o hc e=>?_) hf⟩
  ·rcases hx with hx | hx
   ·exact .inl (by simp; omega)
   ·exact .inr (by simp; omega)
  ·simp only [List.mem_cons,List.not_mem_nil,or_false,not_or] at hc
   exact kk c o hc.1 hc.2.2.1 hc.2.2.2.1 hc.2.2.2.2 e
 self:=fun _ _ _ _ _ st h=>wpAny_pyIter_zip st.1 h
theorem bZip:bootBuiltins "zip" = some (.type "zip"):=by decide +kernel
theorem bEnum:bootBuiltins "enumerate" = some (.type "enumerate"):=by decide +kernel
def Ite (K:PySem.W.Frag) (a:Addr):It :=
 ⟨fun i H=>∃ xs x,SqL K H a xs∧xs[i]? = some x,
  fun i H v H'=>∃ T x,H T = none∧v = .ref T∧H' = upd H T (.tup [.int (i:Int),x])∧∀ xs,SqL K H a xs→xs[i]? = some x,
  fun i H=>∃ xs,SqL K H a xs∧xs.length ≤ i⟩
theorem turn_enum {P:Program} {w:World} {K:PySem.W.Frag} {elts:List Expr} {x1:Nat} {pos:Pos} {e it a:Addr} (hne:e ≠ it) :
  Turn P w K (.Tuple elts x1 pos) (Ite K a) [e,it] e (fun i h=>(∃ old,IsEnum h e it (i:Nat) old)∧h.IsListIter it a i) where
 mem:=List.mem_cons_self
 obj:=fun i h st c hc=>by
  obtain ⟨⟨old,he⟩,⟨o1,e1,_,d1⟩⟩:=st
  simp only [List.mem_cons,List.not_mem_nil,or_false] at hc
  rcases hc with rfl | rfl
  ·exact ⟨_,he,fun v q=>nomatch q⟩
  ·exact ⟨_,e1,fun v q=>by rw [d1] at q; cases q⟩
 keep:=fun i h h' st k=>by
  obtain ⟨⟨old,he⟩,h1⟩:=st
  exact ⟨⟨old,k e (by simp) _ he⟩,h1.at fun o q=>k it (by simp) o q⟩
 item:=by
  intro X hP hw hK hc i pins s σ H E I hf st hg
  subst hP hw hK
  obtain ⟨xs,x,hqx,hx⟩:=hg
  obtain ⟨⟨old,he⟩,h1⟩:=st
  obtain ⟨ia,ra,pa,_⟩:=I.list hqx
  obtain ⟨u,hu,ru⟩:=ra.get hx
  refine wpAny_pyNext_enum_item he h1 pa.isList (x:=u) (by simpa using hu) hne fun h' z1 z2 z3 z4 z5=>?_
  refine ⟨_,rfl,wpAny_letOwnedTupleGo_enum (s:={ s with heap:=h',toks:=s.toks + 1 }) z1 fun h'' y1 ys1=>?_⟩
  replace ys1:Heap.SameBut e h' h'':=ys1
  have lt:∀ {c o},s.heap.get? c = some o→c < s.heap.objs.size:=fun e=>Heap.lt_size e
  have nz:s.heap.objs.size ≠ e:=Nat.ne_of_gt (lt he)
  have hlt:∀ c ∈ [e,it],c < s.heap.objs.size:=fun c hc=>by
   simp only [List.mem_cons,List.not_mem_nil,or_false] at hc
   rcases hc with rfl | rfl
   ·exact lt he
   ·obtain ⟨_,e,_⟩:=h1; exact lt e
  have kk:∀ c o,c ∉ [e,it]→s.heap.get? c = some o→h''.get? c = some o:=fun c o hc q=>by
   simp only [List.mem_cons,List.not_mem_nil,or_false,not_or] at hc
   exact ys1.extBut _ _ hc.1 (z5 c o hc.1 hc.2 q)
  have hT:h''.get? s.heap.objs.size = some { cls:=.type "tuple",data:=.seq [.int (i:Int) s.toks,u].toArray }:=ys1.extBut _ _ nz z3
  refine ⟨.ref s.heap.objs.size,upd H s.heap.objs.size (.tup [.int (i:Int),x]),I.turnedT (t':=s.toks + 1) kk hf hlt hT (.cons ⟨s.toks,rfl⟩ (.cons ru .nil)) (by show 2 ≤ sizeLine; decide),rfl,⟨_,x,I.hok.fresh (Nat.le_refl _),rfl,rfl,fun zs hzs=>by rw [I.list_inj hzs hqx]; exact hx⟩,?_,fun c hc=>?_⟩
  ·exact ⟨⟨_,y1⟩,z2.extBut ys1.extBut (Ne.symm hne)⟩
  ·rw [upd_ne (Nat.ne_of_lt (hlt c hc))]
   exact (hf c hc).1
 done:=by
  intro X hP hw hK hc i pins s σ H E I hf st hg
  subst hP hw hK
  obtain ⟨xs,hqx,hx⟩:=hg
  obtain ⟨⟨old,he⟩,h1⟩:=st
  obtain ⟨ia,ra,pa,_⟩:=I.list hqx
  have la:=ra.length
  refine wpAny_pyNext_enum_end (I.ok.hd hc) he h1 pa.isList (by simp; omega) fun h' kk=>⟨rfl,I.turnedL (t':=s.toks) (fp:=[e,it]) (fun c o hc q=>?_) hf⟩
  simp only [List.mem_cons,List.not_mem_nil,or_false,not_or] at hc
  exact kk c o hc.2 q
 self:=fun _ _ _ _ _ st h=>by
  obtain ⟨⟨_,he⟩,_⟩:=st
  exact wpAny_pyIter_enum he h
theorem for_zip {K:PySem.W.Frag} {a b:Addr} {xs ys:List V} {n:Nat} {g:TG} {tb:TS} {D:Ends} {σ:St} {H:Hp} (Pv:Nat→St→Hp→Prop) (lx:xs.length = n) (ly:ys.length = n) (h0:Pv 0 σ H) (hl:∀ i σ H,i ≤ n→Pv i σ H→SqL K H a xs∧SqL K H b ys)
  (hs:∀ i x y T σ H,xs[i]? = some x→ys[i]? = some y→H T = none→Pv i σ H→g (.ref T) σ (upd H T (.tup [x,y])) fun σ2 H2=>tb { D with nx:=Pv (i + 1),ct:=Pv (i + 1),bk:=D.nx } σ2 H2) (hd:∀ σ H,Pv n σ H→D.nx σ H) :
  ∃ W:Nat→Nat→St→Hp→Prop,(∃ m,W 0 m σ H)∧∀ i m σ H,W i m σ H →
   ((Itz K a b).stop i H∧D.nx σ H) ∨ ((Itz K a b).go i H∧∃ N:St→Hp→Prop,(∀ σ' H',N σ' H'→∃ m',m' < m∧W (i + 1) m' σ' H')∧∀ x H',(Itz K a b).yld i H x H'→g x σ H' fun σ2 H2=>tb { D with nx:=N,ct:=N,bk:=D.nx } σ2 H2):=by
 refine ⟨fun i m σ H=>m = n - i∧i ≤ n∧Pv i σ H,⟨n,by simp,Nat.zero_le _,h0⟩,?_⟩
 rintro i m σ H ⟨rfl,hi,p⟩
 obtain ⟨qa,qb⟩:=hl i σ H hi p
 by_cases hlt:i < n
 ·refine .inr ⟨⟨xs,ys,xs[i]'(by omega),ys[i]'(by omega),qa,qb,List.getElem?_eq_getElem _,List.getElem?_eq_getElem _⟩,Pv (i + 1),fun σ' H' p'=>⟨n - (i + 1),by omega,rfl,hlt,p'⟩,fun v H' y=>?_⟩
  obtain ⟨T,x,y,hT,rfl,rfl,ex,ey⟩:=y
  exact hs i x y T σ H (ex xs qa) (ey ys qb) hT p
 ·have e:i = n:=by omega
  subst e
  exact .inl ⟨⟨xs,ys,qa,qb,.inl (by omega)⟩,hd σ H p⟩
theorem for_enum {K:PySem.W.Frag} {a:Addr} {xs:List V} {g:TG} {tb:TS} {D:Ends} {σ:St} {H:Hp} (Pv:Nat→St→Hp→Prop) (h0:Pv 0 σ H) (hl:∀ i σ H,i ≤ xs.length→Pv i σ H→SqL K H a xs)
  (hs:∀ i x T σ H,xs[i]? = some x→H T = none→Pv i σ H→g (.ref T) σ (upd H T (.tup [.int (i:Int),x])) fun σ2 H2=>tb { D with nx:=Pv (i + 1),ct:=Pv (i + 1),bk:=D.nx } σ2 H2) (hd:∀ σ H,Pv xs.length σ H→D.nx σ H) :
  ∃ W:Nat→Nat→St→Hp→Prop,(∃ m,W 0 m σ H)∧∀ i m σ H,W i m σ H →
   ((Ite K a).stop i H∧D.nx σ H) ∨ ((Ite K a).go i H∧∃ N:St→Hp→Prop,(∀ σ' H',N σ' H'→∃ m',m' < m∧W (i + 1) m' σ' H')∧∀ x H',(Ite K a).yld i H x H'→g x σ H' fun σ2 H2=>tb { D with nx:=N,ct:=N,bk:=D.nx } σ2 H2):=by
 refine ⟨fun i m σ H=>m = xs.length - i∧i ≤ xs.length∧Pv i σ H,⟨xs.length,by simp,Nat.zero_le _,h0⟩,?_⟩
 rintro i m σ H ⟨rfl,hi,p⟩
 have qa:=hl i σ H hi p
 by_cases hlt:i < xs.length
 ·refine .inr ⟨⟨xs,xs[i],qa,List.getElem?_eq_getElem _⟩,Pv (i + 1),fun σ' H' p'=>⟨xs.length - (i + 1),by omega,rfl,hlt,p'⟩,fun v H' y=>?_⟩
  obtain ⟨T,x,hT,rfl,rfl,ex⟩:=y
  exact hs i x T σ H (ex xs qa) hT p
 ·have e:i = xs.length:=by omega
  subst e
  exact .inl ⟨⟨xs,qa,Nat.le_refl _⟩,hd σ H p⟩
theorem comp_zip {K:PySem.W.Frag} {a b D:Addr} {xs ys:List V} {n:Nat} {g:TG} {tf:TT} {te:TE} {Q:VK} {τ0:St} {H0:Hp} (Pv:Nat→List V→St→Hp→Prop) (lx:xs.length = n) (ly:ys.length = n) (h0:Pv 0 [] τ0 H0) (hl:∀ i zs τ H,i ≤ n→Pv i zs τ H→SqL K H a xs∧SqL K H b ys)
  (hs:∀ i x y T zs τ H,xs[i]? = some x→ys[i]? = some y→H T = none→Pv i zs τ H→g (.ref T) τ (upd H T (.tup [x,y])) fun τ2 H2=>tf τ2 H2 fun b H3=>if b = true then te τ2 H3 fun y H4=>H4 D = some (.lst zs)∧zs.length < sizeLine∧Pv (i + 1) (zs ++ [y]) τ2 (upd H4 D (.lst (zs ++ [y]))) else Pv (i + 1) zs τ2 H3)
  (hd:∀ zs τ H,Pv n zs τ H→Q (.ref D) H) :
  CompRd D (Itz K a b) g tf te Q τ0 H0:=by
 refine ⟨fun i m zs τ H=>i ≤ n∧m = n - i∧Pv i zs τ H,⟨_,Nat.zero_le _,rfl,h0⟩,?_⟩
 rintro i m zs τ H ⟨hi,rfl,p⟩
 obtain ⟨qa,qb⟩:=hl i zs τ H hi p
 by_cases e:i = n
 ·subst e
  exact .inl ⟨⟨xs,ys,qa,qb,.inl (by omega)⟩,hd zs τ H p⟩
 ·have hlt:i < n:=by omega
  refine .inr ⟨⟨xs,ys,xs[i]'(by omega),ys[i]'(by omega),qa,qb,List.getElem?_eq_getElem _,List.getElem?_eq_getElem _⟩,fun zs τ' H'=>Pv (i + 1) zs τ' H',fun zs τ' H' q=>⟨n - (i + 1),by omega,hlt,rfl,q⟩,?_⟩
  rintro v H1 ⟨T,x,y,hT,rfl,rfl,ex,ey⟩
  exact hs i x y T zs τ H (ex xs qa) (ey ys qb) hT p
structure Blt3 (mg:Str→Option Value):Prop where
 zip:mg "zip" = none
 enumerate:mg "enumerate" = none
section
variable {X:Cx}
def iEnum (K:PySem.W.Frag) (ta:TA):TI:=fun σ H R=>ta σ H fun vs H1=>∃ a xs,vs = [.ref a]∧H1 a = some (.lst xs)∧R (Ite K a) H1
theorem pi_enum {elts:List Expr} {x1:Nat} {p1:Pos} {a:Expr} {ta:TA} {p pos:Pos} (hg:Gl X "enumerate") (hm:X.mg "enumerate" = none) (ha:PA X [a] ta) (hs:starEach [a] X.env = [(false,eval a X.env)]:=by rfl) :
  PI X (.Tuple elts x1 p1) (.Call (.Name "enumerate" p) [a] [] pos) (iEnum X.K ta):=by
 intro pins s σ H R I h
 refine Call_ (ld_blt I hg hm bEnum (PyProof.Rows.callWith_type1 (thn (ha pos pins s σ H _ I h) fun us s1 ⟨vs,H1,I1,r1,q1⟩=>?_) hs rfl))
 obtain ⟨la,xs,e,hx,q⟩:=q1
 subst e
 obtain ⟨u,rfl,ru⟩:=Vals.one r1
 cases ru
 obtain ⟨hz,its,n,rv,hL⟩:=I1.hok la _ hx
 refine call_enumerate_1 hL fun h' z1 z2 z3 z4=>wpAny_pyIter_enum z1 ?_
 have I2:Inv X pins σ H1 { s1 with heap:=h' }:=I1.kept (t':=s1.toks) z4
 refine ⟨_,_,_,_,H1,rfl,I2,turn_enum (a:=la) (e:=s1.heap.objs.size + 1) (it:=s1.heap.objs.size) (Nat.succ_ne_self _),⟨⟨_,z1⟩,z2⟩,fun c hc=>?_,q⟩
 have hle:s1.heap.objs.size ≤ c:=by
  simp only [List.mem_cons,List.not_mem_nil,or_false] at hc
  rcases hc with rfl | rfl
  ·exact Nat.le_add_right _ _
  ·exact Nat.le_refl _
 exact I1.fpOk hle (I1.hok.fresh hle)
def iZip (K:PySem.W.Frag) (ta:TA):TI:=fun σ H R=>ta σ H fun vs H1=>∃ a b,vs = [.ref a,.ref b]∧(∃ xs,SqL K H1 a xs)∧(∃ ys,SqL K H1 b ys)∧R (Itz K a b) H1
theorem pi_zip {elts:List Expr} {x1:Nat} {p1:Pos} {a b:Expr} {ta:TA} {p pos:Pos} (hg:Gl X "zip") (hm:X.mg "zip" = none) (ha:PA X [a,b] ta) (hs:starEach [a,b] X.env = [(false,eval a X.env),(false,eval b X.env)]:=by rfl) (hs2:starEach [b] X.env = [(false,eval b X.env)]:=by rfl) :
  PI X (.Tuple elts x1 p1) (.Call (.Name "zip" p) [a,b] [] pos) (iZip X.K ta):=by
 intro pins s σ H R I h
 refine Call_ (ld_blt I hg hm bZip (PyProof.Rows.callWith_type1 (thn (ha pos pins s σ H _ I h) fun us s1 ⟨vs,H1,I1,r1,q1⟩=>?_) (by rw [hs,hs2]) (by rw [hs2]; rfl)))
 obtain ⟨la,lb,e,⟨xs,hx⟩,⟨ys,hy⟩,q⟩:=q1
 subst e
 obtain ⟨u,v,rfl,ru,rv⟩:=Vals.two r1
 cases ru
 cases rv
 obtain ⟨ia,ra,pa,_⟩:=I1.list hx
 obtain ⟨ib,rb,pb,_⟩:=I1.list hy
 have l1:la < s1.heap.objs.size:=by obtain ⟨_,e,_⟩:=pa.isList; exact Heap.lt_size e
 have l2:lb < s1.heap.objs.size:=by obtain ⟨_,e,_⟩:=pb.isList; exact Heap.lt_size e
 refine call_zip_2 pa.isList pb.isList fun h' z1 z2 z3 z4 z5 z6 z7=>wpAny_pyIter_zip z1 ?_
 have I2:Inv X pins σ H1 { s1 with heap:=h' }:=I1.kept (t':=s1.toks) z7
 refine ⟨_,_,_,_,H1,rfl,I2,turn_zip (zipApart_new l1 l2),⟨z1,z2,⟨_,_,z3⟩,z4,z5⟩,fun c hc=>?_,q⟩
 have hle:s1.heap.objs.size ≤ c:=by
  simp only [List.mem_cons,List.not_mem_nil,or_false] at hc
  rcases hc with rfl | rfl | rfl | rfl | rfl
  ·exact Nat.le_add_right _ _
  ·exact Nat.le_add_right _ _
  ·exact Nat.le_add_right _ _
  ·exact Nat.le_refl _
  ·exact Nat.le_add_right _ _
 exact I1.fpOk hle (I1.hok.fresh hle)
end
end L2
namespace Ws
open PySem L2
def hd (s x:Str):List Str:=if x = "" then [s] else [s,x]
def whoB (x:Str):Bool:=decide (x = "some") || decide (x = "all")
def oneB (s:Str):Bool:=decide (s = "next") || (decide (s = "last") || (decide (s = "always") || (decide (s = "again") || decide (s = "settle"))))
def fitB (k:Nat) (s x:Str):Bool :=
 (decide (x = "") && ((decide (s = "not") && decide (k = 1)) || ((decide (s = "and") || decide (s = "or")) && decide (k = 2)))) || (whoB x && ((oneB s && decide (k = 1)) || (decide (s = "until") && decide (k = 2))))
def T.fit:T→Prop
 | .mark _=>True
 | .un w t=>(∃ s x,w = hd s x∧fitB 1 s x = true)∧t.fit
 | .bin w t u=>(∃ s x,w = hd s x∧fitB 2 s x = true)∧t.fit∧u.fit
theorem fit_head {k:Nat} {s x:Str} (h:fitB k s x = true):Head (hd s x):=by
 unfold fitB whoB oneB at h
 simp only [Bool.or_eq_true,Bool.and_eq_true,decide_eq_true_eq] at h
 unfold hd
 rcases h with ⟨rfl,h⟩ | ⟨hx,h⟩
 ·rw [if_pos rfl]
  refine .inl ⟨s,rfl,?_⟩
  rcases h with ⟨rfl,_⟩ | ⟨rfl | rfl,_⟩
  ·exact .inl rfl
  ·exact .inr (.inl rfl)
  ·exact .inr (.inr rfl)
 ·have e:¬ x = "":=by
   rcases hx with rfl | rfl <;> decide +kernel
  rw [if_neg e]
  refine .inr ⟨s,x,rfl,?_⟩
  rcases h with ⟨rfl | rfl | rfl | rfl | rfl,_⟩ | ⟨rfl,_⟩ <;> exact ⟨by decide +kernel,by decide +kernel,by decide +kernel,by decide +kernel⟩
theorem T.fit_ok:∀ {t:T},t.fit→t.ok
 | .mark _,_=>True.intro
 | .un _ t,⟨⟨_,_,e,h⟩,a⟩=>⟨by rw [e]; exact fit_head h,T.fit_ok a⟩
 | .bin _ t u,⟨⟨_,_,e,h⟩,a,b⟩=>⟨by rw [e]; exact fit_head h,T.fit_ok a,T.fit_ok b⟩
theorem T.fit_parts:∀ {t p:T},t.fit→p ∈ t.parts→p.fit
 | .mark i,p,h,hp=>by
  have hp:p ∈ [T.mark i]:=hp
  rw [List.mem_singleton] at hp
  rw [hp]
  exact h
 | .un w t,p,h,hp=>by
  have hp:p ∈ t.parts ++ [.un w t]:=hp
  rcases List.mem_append.mp hp with hp | hp
  ·exact T.fit_parts h.2 hp
  ·rw [List.mem_singleton] at hp
   rw [hp]
   exact h
 | .bin w t u,p,h,hp=>by
  have hp:p ∈ t.parts ++ u.parts ++ [.bin w t u]:=hp
  rcases List.mem_append.mp hp with hp | hp
  ·rcases List.mem_append.mp hp with hp | hp
   ·exact T.fit_parts h.2.1 hp
   ·exact T.fit_parts h.2.2 hp
  ·rw [List.mem_singleton] at hp
   rw [hp]
   exact h
def join (w:List Str):List T→T
 | [t]=>.un w t
 | [t,u]=>.bin w t u
 | _=>.mark 0
theorem join_fit {s x:Str} {ks:List T} (h:ks.length = 1 ∨ ks.length = 2) (hf:fitB ks.length s x = true) (ok:∀ t ∈ ks,t.fit):(join (hd s x) ks).fit:=by
 match ks,h,hf with
 | [t],_,hf=>exact ⟨⟨s,x,rfl,hf⟩,ok t (by simp)⟩
 | [t,u],_,hf=>exact ⟨⟨s,x,rfl,hf⟩,ok t (by simp),ok u (by simp)⟩
 | [],h,_=>simp at h
 | _ :: _ :: _ :: _,h,_=>simp at h
end Ws
namespace Ws
open PySem L2
def turn (l:Lb):Lb:=(!l.1,l.2)
def nxR (want:Bool) (row:List Bool) (L:List Lb) (k:Nat) (doors:List Int):Bool :=
 match L.getD k default with
 | (_,some _,_)=>false
 | (t,none,some d)=>if decide (t = want) then decide (row.getD d.toNat false = want) else false
 | (t,none,none)=>if decide (t = want) then false else !(doors.map fun d=>row.getD d.toNat false).contains want
def unR (who:Str) (left right:List Bool) (L:List Lb) (k:Nat) (doors:List Int):Bool:=if who = "some" then suR left right L k doors else auR left right L k doors
def agR (who:Str) (here:List Bool) (L:List Lb) (k:Nat) (doors:List Int):Bool:=if who = "some" then saR here L k doors else aaR here L k doors
def mate (who:Str):Str:=if who = "some" then "all" else "some"
def row0 (rows:List (List Bool)):List Bool:=rows.getD 0 []
def row1 (rows:List (List Bool)):List Bool:=rows.getD 1 []
def waR (so who:Str) (rows:List (List Bool)) (L:List Lb) (k:Nat) (doors:List Int):Bool :=
 if so = "next" then nxR (decide (who = "some")) (row0 rows) L k doors
 else if so = "until" then unR who (row0 rows) (row1 rows) L k doors
 else if so = "last" then unR who (List.replicate L.length true) (row0 rows) L k doors
 else if so = "always" then unR (mate who) (List.replicate L.length true) ((row0 rows).map not) (L.map turn) k doors
 else if so = "again" then agR who (row0 rows) L k doors
 else agR (mate who) ((row0 rows).map not) (L.map turn) k doors
theorem dec_bl2 {x y:Bool}:decide (V.bl x = V.bl y) = decide (x = y):=by
 rw [dec_bl]
 cases x <;> cases y <;> rfl
theorem rep_true:∀ n:Nat,(List.replicate n [V.bl true]).flatten = (List.replicate n true).map V.bl
 | 0=>rfl
 | n + 1=>by
  rw [List.replicate_succ,List.flatten_cons,rep_true n,List.replicate_succ,List.map_cons]
  rfl
theorem turn_getD {L:List Lb} {k:Nat} (h:k < L.length):(L.map turn).getD k default = turn (L.getD k default):=by
 rw [getD_eq (by rw [List.length_map]; exact h),getD_eq h,List.getElem_map]
end Ws
namespace L2
open PySem PySem.Spec PyProof.Rows
section
variable {X:Cx}
open PySem.MeetsSeq PySem.MeetsSeq2 PySem.MeetsSeq3
end
end L2
namespace Ws
open PySem L2
def plR (so:Str) (m:Int) (st:List Int × List Int) (rows:List (List Bool)) (k:Nat):Bool :=
 if so = "mark" then decide (m ∈ st.1) else if so = "not" then !(row0 rows).getD k false else if so = "and" then (row0 rows).getD k false && (row1 rows).getD k false else (row0 rows).getD k false || (row1 rows).getD k false
def arity (so:Str):Nat:=if so = "mark" then 0 else 1 + (if inV (.str so) [.str "and",.str "or",.str "until"] = true then 1 else 0)
def T.so:T→Str
 | .mark _=>"mark"
 | .un w _=>w.getD 0 ""
 | .bin w _ _=>w.getD 0 ""
def T.wh:T→Str
 | .mark _=>""
 | .un w _=>w.getD 1 ""
 | .bin w _ _=>w.getD 1 ""
def T.mk:T→Int
 | .mark i=>i
 | _=>0
def plainB (so:Str):Bool:=inV (.str so) [.str "mark",.str "not",.str "and",.str "or"]
def ptK (W:World2) (t:T) (rows:List (List Bool)) (L:List Lb) (k:Nat):Bool :=
 if plainB t.so = true then decide (L.getD k default = (plR t.so t.mk (W.getD k default) rows k,none,none)) else waR t.so t.wh rows L k (dr W k)
def ptR (W:World2) (t:T) (rows:List (List Bool)) (L:List Lb):Bool:=(List.range W.length).all (ptK W t rows L)
theorem fit_cases {k:Nat} {s x:Str} (h:fitB k s x = true):(x = ""∧((s = "not"∧k = 1) ∨ ((s = "and" ∨ s = "or")∧k = 2))) ∨ ((x = "some" ∨ x = "all")∧(((s = "next" ∨ s = "last" ∨ s = "always" ∨ s = "again" ∨ s = "settle")∧k = 1) ∨ (s = "until"∧k = 2))):=by
 unfold fitB whoB oneB at h
 simp only [Bool.or_eq_true,Bool.and_eq_true,decide_eq_true_eq] at h
 exact h
theorem hd_nil (s:Str):hd s "" = [s]:=if_pos rfl
theorem hd_who {s x:Str} (h:x = "some" ∨ x = "all"):hd s x = [s,x]:=by
 refine if_neg ?_
 rcases h with rfl | rfl <;> decide +kernel
theorem plain_pl {s:Str} (h:s = "not" ∨ s = "and" ∨ s = "or"):plainB s = true:=by
 rcases h with rfl | rfl | rfl <;> decide +kernel
theorem plain_wy {s:Str} (h:s = "next" ∨ s = "last" ∨ s = "always" ∨ s = "again" ∨ s = "settle" ∨ s = "until"):plainB s = false∧s ≠ "mark":=by
 rcases h with rfl | rfl | rfl | rfl | rfl | rfl <;> exact ⟨by decide +kernel,by decide +kernel⟩
theorem T.kinds {t:T} (f:t.fit):(t.so = "mark"∧∃ i,t = .mark i) ∨ (t.wh = ""∧plainB t.so = true∧((t.so = "not"∧t.kids.length = 1) ∨ ((t.so = "and" ∨ t.so = "or")∧t.kids.length = 2))∧t.dat = .tup (.str t.so :: t.kids.map T.dat)) ∨
  (plainB t.so = false∧(t.wh = "some" ∨ t.wh = "all")∧(((t.so = "next" ∨ t.so = "last" ∨ t.so = "always" ∨ t.so = "again" ∨ t.so = "settle")∧t.kids.length = 1) ∨ (t.so = "until"∧t.kids.length = 2))∧t.dat = .tup (.str t.so :: .str t.wh :: t.kids.map T.dat)):=by
 match t,f with
 | .mark i,_=>exact .inl ⟨rfl,i,rfl⟩
 | .un w t,f =>
  obtain ⟨⟨s,x,rfl,hf⟩,_⟩:=f
  have hf:=fit_cases hf
  rcases hf with ⟨rfl,h⟩ | ⟨hx,h⟩
  ·refine .inr (.inl ?_)
   rw [hd_nil]
   refine ⟨rfl,plain_pl ?_,?_,rfl⟩
   ·rcases h with ⟨rfl,_⟩ | ⟨h,hk⟩
    ·exact .inl rfl
    ·exact absurd hk (by decide)
   ·rcases h with ⟨rfl,_⟩ | ⟨h,hk⟩
    ·exact .inl ⟨rfl,rfl⟩
    ·exact absurd hk (by decide)
  ·refine .inr (.inr ?_)
   rw [hd_who hx]
   refine ⟨(plain_wy ?_).1,hx,?_,rfl⟩
   ·rcases h with ⟨h,_⟩ | ⟨h,hk⟩
    ·rcases h with h | h | h | h | h
     ·exact .inl h
     ·exact .inr (.inl h)
     ·exact .inr (.inr (.inl h))
     ·exact .inr (.inr (.inr (.inl h)))
     ·exact .inr (.inr (.inr (.inr (.inl h))))
    ·exact absurd hk (by decide)
   ·rcases h with ⟨h,_⟩ | ⟨h,hk⟩
    ·exact .inl ⟨h,rfl⟩
    ·exact absurd hk (by decide)
 | .bin w t u,f =>
  obtain ⟨⟨s,x,rfl,hf⟩,_⟩:=f
  have hf:=fit_cases hf
  rcases hf with ⟨rfl,h⟩ | ⟨hx,h⟩
  ·refine .inr (.inl ?_)
   rw [hd_nil]
   refine ⟨rfl,plain_pl ?_,?_,rfl⟩
   ·rcases h with ⟨h,hk⟩ | ⟨h,_⟩
    ·exact absurd hk (by decide)
    ·exact .inr h
   ·rcases h with ⟨h,hk⟩ | ⟨h,_⟩
    ·exact absurd hk (by decide)
    ·exact .inr ⟨h,rfl⟩
  ·refine .inr (.inr ?_)
   rw [hd_who hx]
   refine ⟨(plain_wy ?_).1,hx,?_,rfl⟩
   ·rcases h with ⟨h,hk⟩ | ⟨h,_⟩
    ·exact absurd hk (by decide)
    ·exact .inr (.inr (.inr (.inr (.inr h))))
   ·rcases h with ⟨h,hk⟩ | ⟨h,_⟩
    ·exact absurd hk (by decide)
    ·exact .inr ⟨h,rfl⟩
theorem part_at {H:Hp} {p:Addr} {t:T} (h:DAt H (.ref p) t.dat) (f:t.fit):∃ ks,H p = some (.tup (.str t.so :: ks))∧(t.so = "mark"→ks = [.int t.mk])∧(plainB t.so = false→∃ ks',ks = .str t.wh :: ks'):=by
 rcases T.kinds f with ⟨_,i,rfl⟩ | ⟨_,hp,hk,hd⟩ | ⟨hp,hw,hk,hd⟩
 ·obtain ⟨p',vs,e,h1,h2⟩:=DAt.tup_inv h
  cases e
  cases h2 with | cons a h2=>cases h2 with | cons b h2 =>
  cases h2
  cases a.str_inv
  cases b.int_inv
  exact ⟨_,h1,fun _=>rfl,fun z=>absurd z (by show ¬ plainB "mark" = false; decide +kernel)⟩
 ·rw [hd] at h
  obtain ⟨p',vs,e,h1,h2⟩:=DAt.tup_inv h
  cases e
  cases h2 with | cons a h2 =>
  cases a.str_inv
  refine ⟨_,h1,fun z=>?_,fun z=>by rw [hp] at z; cases z⟩
  rcases hk with ⟨e,_⟩ | ⟨e | e,_⟩ <;> rw [z] at e <;> exact absurd e (by decide +kernel)
 ·rw [hd] at h
  obtain ⟨p',vs,e,h1,h2⟩:=DAt.tup_inv h
  cases e
  cases h2 with | cons a h2=>cases h2 with | cons b h2 =>
  cases a.str_inv
  cases b.str_inv
  refine ⟨_,h1,fun z=>?_,fun _=>⟨_,rfl⟩⟩
  rw [z] at hp
  exact absurd hp (by decide +kernel)
theorem kids_pos {t:T} (f:t.fit) (h:t.so ≠ "mark"):0 < t.kids.length:=by
 rcases T.kinds f with ⟨e,_⟩ | ⟨_,_,hk,_⟩ | ⟨_,_,hk,_⟩
 ·exact absurd e h
 ·rcases hk with ⟨_,e⟩ | ⟨_,e⟩ <;> omega
 ·rcases hk with ⟨_,e⟩ | ⟨_,e⟩ <;> omega
theorem kids_two {t:T} (f:t.fit) (h:t.so ≠ "mark") (h2:t.so ≠ "not") (h3:plainB t.so = true):1 < t.kids.length:=by
 rcases T.kinds f with ⟨e,_⟩ | ⟨_,_,hk,_⟩ | ⟨e,_⟩
 ·exact absurd e h
 ·rcases hk with ⟨z,e⟩ | ⟨_,e⟩
  ·exact absurd z h2
  ·omega
 ·rw [h3] at e
  cases e
theorem kids_until {t:T} (f:t.fit) (h:t.so = "until"):1 < t.kids.length:=by
 rcases T.kinds f with ⟨e,_⟩ | ⟨_,_,hk,_⟩ | ⟨_,_,hk,_⟩
 ·rw [h] at e; exact absurd e (by decide +kernel)
 ·rcases hk with ⟨z,_⟩ | ⟨z | z,_⟩ <;> rw [h] at z <;> exact absurd z (by decide +kernel)
 ·rcases hk with ⟨z | z | z | z | z,_⟩ | ⟨_,e⟩
  ·rw [h] at z; exact absurd z (by decide +kernel)
  ·rw [h] at z; exact absurd z (by decide +kernel)
  ·rw [h] at z; exact absurd z (by decide +kernel)
  ·rw [h] at z; exact absurd z (by decide +kernel)
  ·rw [h] at z; exact absurd z (by decide +kernel)
  ·omega
theorem arity_kids {t:T} (f:t.fit):arity t.so = t.kids.length:=by
 have e1:∀ s:Str,(s = "not" ∨ s = "next" ∨ s = "last" ∨ s = "always" ∨ s = "again" ∨ s = "settle")→arity s = 1:=fun s h=>by
  rcases h with rfl | rfl | rfl | rfl | rfl | rfl <;> decide +kernel
 have e2:∀ s:Str,(s = "and" ∨ s = "or" ∨ s = "until")→arity s = 2:=fun s h=>by
  rcases h with rfl | rfl | rfl <;> decide +kernel
 rcases T.kinds f with ⟨_,i,rfl⟩ | ⟨_,_,hk,_⟩ | ⟨_,_,hk,_⟩
 ·show arity "mark" = 0
  decide +kernel
 ·rcases hk with ⟨z,e⟩ | ⟨z | z,e⟩
  ·rw [e]; exact e1 _ (.inl z)
  ·rw [e]; exact e2 _ (.inl z)
  ·rw [e]; exact e2 _ (.inr (.inl z))
 ·rcases hk with ⟨z,e⟩ | ⟨z,e⟩
  ·rw [e]; exact e1 _ (.inr z)
  ·rw [e]; exact e2 _ (.inr (.inr z))
theorem ar_inv {n b:Nat} {L:List Lb} {W:World2} (h:arB L W = true) (hW:Valid n b W):L.length = n∧∀ k,k < n→lbOk (L.getD k default) (dr W k) = true:=by
 unfold arB at h
 rw [Bool.and_eq_true,decide_eq_true_eq] at h
 have e:L.length = n:=by rw [h.1]; exact hW.len
 refine ⟨e,fun k hk=>?_⟩
 have:=List.all_eq_true.mp h.2 k (by rw [List.mem_range]; omega)
 exact this
structure Rows (H:Hp) (rs:Addr) (n:Nat) (rows:List (List Bool)):Prop where
 at_:DAt H (.ref rs) (.lst (rows.map dbools))
 len:∀ r ∈ rows,r.length = n
theorem Rows.keep {H H':Hp} {rs:Addr} {n:Nat} {rows:List (List Bool)} (r:Rows H rs n rows) (s:Same H H'):Rows H' rs n rows:=⟨r.at_.mono s,r.len⟩
theorem Rows.nth {H:Hp} {rs:Addr} {n:Nat} {rows:List (List Bool)} (r:Rows H rs n rows) {i:Nat} (h:i < rows.length):∃ us a,H rs = some (.lst us)∧atI us (i:Int) = some (.ref a)∧H a = some (.lst ((rows.getD i []).map V.bl))∧(rows.getD i []).length = n:=by
 obtain ⟨rs',us,e,h1,h2⟩:=DAt.lst_inv r.at_
 cases e
 obtain ⟨v,hv,dv⟩:=h2.nth h
 obtain ⟨a,rfl,ha⟩:=dv.bools_at
 rw [getD_eq h]
 exact ⟨us,a,h1,atI_nat hv,ha,r.len _ (List.getElem_mem h)⟩
theorem Rows.mk' {H:Hp} {rs:Addr} {n:Nat} {rows:List (List Bool)} {vs:List V} (h:H rs = some (.lst vs)) (d:DsAt H vs (rows.map dbools)) (l:∀ r ∈ rows,r.length = n):Rows H rs n rows:=⟨.lst h d,l⟩
theorem Rows.inv {H:Hp} {rs:Addr} {n:Nat} {rows:List (List Bool)} (r:Rows H rs n rows):∃ vs,H rs = some (.lst vs)∧DsAt H vs (rows.map dbools)∧vs.length = rows.length:=by
 obtain ⟨rs',us,e,h1,h2⟩:=DAt.lst_inv r.at_
 cases e
 have l:=h2.length
 rw [List.length_map] at l
 exact ⟨us,h1,h2,l⟩
end Ws
namespace Ws
open PySem L2
def okGo:List T→Nat→Prop
 | [],_=>True
 | t :: r,d=>t.kids.length ≤ d∧okGo r (d - t.kids.length + 1)
theorem okGo_parts:∀ (t:T) (r:List T) (d:Nat),okGo r (d + 1)→okGo (t.parts ++ r) d
 | .mark i,r,d,h=>⟨Nat.zero_le _,h⟩
 | .un w t,r,d,h=>by
  show okGo ((t.parts ++ [.un w t]) ++ r) d
  rw [List.append_assoc]
  exact okGo_parts t _ d ⟨Nat.le_add_left _ _,by show okGo r (d + 1 - 1 + 1); exact h⟩
 | .bin w t u,r,d,h=>by
  show okGo ((t.parts ++ u.parts ++ [.bin w t u]) ++ r) d
  rw [List.append_assoc,List.append_assoc]
  refine okGo_parts t _ d (okGo_parts u _ (d + 1) ⟨Nat.le_add_left _ _,?_⟩)
  show okGo r (d + 1 + 1 - 2 + 1)
  exact h
theorem okGo_one (t:T):okGo t.parts 0:=by
 have h:=okGo_parts t [] 0 True.intro
 rw [List.append_nil] at h
 exact h
def truths (L:List Lb):List Bool:=L.map (·.1)
def lrGo (W:World2):List T→List (List Lb)→List (List Bool)→List (List Bool)→Option (List (List Bool))
 | [],_,_,rows=>some rows
 | _ :: _,[],_,_=>none
 | t :: ts,L :: Ls,pile,_ =>
  if arB L W = true then
   if ptR W t (pile.drop (pile.length - t.kids.length)) L = true then lrGo W ts Ls (pile.take (pile.length - t.kids.length) ++ [truths L]) (pile.drop (pile.length - t.kids.length)) else none
  else none
def lrLast (W:World2) (ts:List T) (Ls:List (List Lb)):Option (List (List Bool)):=if Ls.length = ts.length then lrGo W ts Ls [] [] else none
theorem ok_step {ts:List T} {i d:Nat} (h1:i < ts.length) (h:okGo (ts.drop i) d):ts[i].kids.length ≤ d∧okGo (ts.drop (i + 1)) (d - ts[i].kids.length + 1):=by
 rw [List.drop_eq_getElem_cons h1] at h
 exact h
end Ws
namespace Ws
open PySem L2
theorem until_every {n:Nat} {r:List Bool}:∀ {row:List Int},(∀ x ∈ row,0 ≤ x∧x < (n:Int))→untilB (List.replicate n true) r row = (trOf r row).contains true
 | [],_=>rfl
 | x :: row,h=>by
  have hx:=h x (by simp)
  have ih:=until_every (r:=r) (row:=row) fun y hy=>h y (by simp [hy])
  have e:(List.replicate n true).getD x.toNat false = true:=by
   rw [getD_eq (by rw [List.length_replicate]; omega),List.getElem_replicate]
  show (if r.getD x.toNat false = true then true else if (List.replicate n true).getD x.toNat false = true then untilB (List.replicate n true) r row else false) = (r.getD x.toNat false :: trOf r row).contains true
  rw [e,if_pos rfl,ih,List.contains_cons]
  cases r.getD x.toNat false with
  | true=>rfl
  | false=>rfl
theorem tr_not {n:Nat} {r:List Bool} (hr:r.length = n):∀ {row:List Int},(∀ x ∈ row,0 ≤ x∧x < (n:Int))→trOf (r.map not) row = (trOf r row).map not
 | [],_=>rfl
 | x :: row,h=>by
  have hx:=h x (by simp)
  have ih:=tr_not hr (row:=row) fun y hy=>h y (by simp [hy])
  have e:(r.map not).getD x.toNat false = !(r.getD x.toNat false):=by
   rw [getD_eq (by rw [List.length_map]; omega),getD_eq (by omega),List.getElem_map]
  show (r.map not).getD x.toNat false :: trOf (r.map not) row = (!(r.getD x.toNat false)) :: (trOf r row).map not
  rw [e,ih]
theorem has_not:∀ l:List Bool,(l.map not).contains true = l.contains false
 | []=>rfl
 | b :: l=>by
  rw [List.map_cons,List.contains_cons,List.contains_cons,has_not l]
  cases b <;> rfl
theorem lbAt_turn {n:Nat} {L:List Lb} (hL:L.length = n) {x:Int} (h0:0 ≤ x) (h1:x < (n:Int)):lbAt (L.map turn) x = turn (lbAt L x):=turn_getD (by omega)
def sixB (so:Str):Prop:=so = "next" ∨ so = "until" ∨ so = "last" ∨ so = "always" ∨ so = "again" ∨ so = "settle"
def LbsOk (W:World2) (t:T) (rows:List (List Bool)) (L:List Lb):Prop:=arB L W = true∧ptR W t rows L = true
def Stand (W:World2):T→List (List Lb)→Prop
 | .mark i,Ls=>∃ L,Ls = [L]∧LbsOk W (.mark i) [] L
 | .un w t,Ls=>∃ A LA L,Ls = (A ++ [LA]) ++ [L]∧Stand W t (A ++ [LA])∧LbsOk W (.un w t) [truths LA] L
 | .bin w t u,Ls=>∃ A LA B LB L,Ls = (A ++ [LA]) ++ ((B ++ [LB]) ++ [L])∧Stand W t (A ++ [LA])∧Stand W u (B ++ [LB])∧LbsOk W (.bin w t u) [truths LA,truths LB] L
theorem go_one {W:World2} {t:T} {L:List Lb} {ts:List T} {Ls:List (List Lb)} {p ks rows:List (List Bool)} (h:LbsOk W t ks L) (hk:ks.length = t.kids.length):lrGo W (t :: ts) (L :: Ls) (p ++ ks) rows = lrGo W ts Ls (p ++ [truths L]) ks:=by
 have e:(p ++ ks).length - t.kids.length = p.length:=by rw [List.length_append]; omega
 show (if arB L W = true then if ptR W t ((p ++ ks).drop ((p ++ ks).length - t.kids.length)) L = true then lrGo W ts Ls ((p ++ ks).take ((p ++ ks).length - t.kids.length) ++ [truths L]) ((p ++ ks).drop ((p ++ ks).length - t.kids.length)) else none else none) = _
 rw [e,List.drop_left,List.take_left,if_pos h.1,if_pos h.2]
theorem stand_go {W:World2}:∀ {t:T} {Ls:List (List Lb)},Stand W t Ls→∃ A L ks,Ls = A ++ [L]∧LbsOk W t ks L∧ks.length = t.kids.length∧Ls.length = t.parts.length∧(∀ (ts:List T) (Ms:List (List Lb)) (p rows:List (List Bool)),lrGo W (t.parts ++ ts) (Ls ++ Ms) p rows = lrGo W ts Ms (p ++ [truths L]) ks)
 | .mark i,Ls,⟨L,e,h⟩=>by
  subst e
  refine ⟨[],L,[],rfl,h,rfl,rfl,fun ts Ms p rows=>?_⟩
  have:=go_one (ts:=ts) (Ls:=Ms) (p:=p) (rows:=rows) h rfl
  rw [List.append_nil] at this
  exact this
 | .un w t,Ls,⟨A,LA,L,e,h1,h⟩=>by
  subst e
  obtain ⟨A',L',ks',e',_,_,l1,g1⟩:=stand_go h1
  obtain ⟨ea,eb⟩:=List.append_inj' e' rfl
  cases eb
  subst ea
  refine ⟨A ++ [LA],L,[truths LA],rfl,h,rfl,?_,fun ts Ms p rows=>?_⟩
  ·have:(T.un w t).parts.length = t.parts.length + 1:=List.length_append
   rw [this,← l1]
   exact List.length_append
  ·show lrGo W ((t.parts ++ [.un w t]) ++ ts) (((A ++ [LA]) ++ [L]) ++ Ms) p rows = _
   rw [List.append_assoc t.parts,List.append_assoc (A ++ [LA]),g1]
   exact go_one h rfl
 | .bin w t u,Ls,⟨A,LA,B,LB,L,e,h1,h2,h⟩=>by
  subst e
  obtain ⟨A',L',ks',e',_,_,l1,g1⟩:=stand_go h1
  obtain ⟨ea,eb⟩:=List.append_inj' e' rfl
  cases eb
  subst ea
  obtain ⟨B',M',js',e',_,_,l2,g2⟩:=stand_go h2
  obtain ⟨ea,eb⟩:=List.append_inj' e' rfl
  cases eb
  subst ea
  refine ⟨(A ++ [LA]) ++ (B ++ [LB]),L,[truths LA,truths LB],(List.append_assoc _ _ _).symm,h,rfl,?_,fun ts Ms p rows=>?_⟩
  ·have:(T.bin w t u).parts.length = (t.parts ++ u.parts).length + 1:=List.length_append
   have e2:(t.parts ++ u.parts).length = t.parts.length + u.parts.length:=List.length_append
   have e3:((A ++ [LA]) ++ ((B ++ [LB]) ++ [L])).length = (A ++ [LA]).length + ((B ++ [LB]) ++ [L]).length:=List.length_append
   have e4:((B ++ [LB]) ++ [L]).length = (B ++ [LB]).length + 1:=List.length_append
   omega
  ·show lrGo W ((t.parts ++ u.parts ++ [.bin w t u]) ++ ts) (((A ++ [LA]) ++ ((B ++ [LB]) ++ [L])) ++ Ms) p rows = _
   rw [List.append_assoc,List.append_assoc t.parts,List.append_assoc (A ++ [LA]),List.append_assoc (B ++ [LB]),g1,g2]
   have:=go_one (ts:=ts) (Ls:=Ms) (p:=p) (rows:=js') h rfl
   rw [List.append_assoc]
   exact this
theorem stand_last {W:World2} {t:T} {Ls:List (List Lb)} (h:Stand W t Ls):∃ A L ks,Ls = A ++ [L]∧LbsOk W t ks L∧ks.length = t.kids.length∧lrLast W t.parts Ls = some ks:=by
 obtain ⟨A,L,ks,e,h1,h2,h3,g⟩:=stand_go h
 refine ⟨A,L,ks,e,h1,h2,?_⟩
 unfold lrLast
 rw [if_pos h3]
 have:=g [] [] [] []
 rw [List.append_nil,List.append_nil] at this
 rw [this]
 rfl
def spTable:Sp:=fun vs H Q _=>∃ (a p:Addr) (n:Nat) (W:World2) (t:T),vs = [.ref a,.ref p]∧DAt H (.ref a) (wdat W)∧Valid n 200 W∧1 ≤ n∧n ≤ 40∧DAt H (.ref p) t.dat∧t.fit∧t.parts.length ≤ 101 ∧
 ∀ (v:V) (Ls:List (List Lb)) (H':Hp),Same H H'→DAt H' v (.lst (Ls.map lsdat))→Stand W t Ls→Q v H'
theorem cut_len (xs:List V) (lo:Option Int) (b:Nat):(cutV xs lo (some (b:Int))).length ≤ b:=by
 unfold cutV
 rw [List.length_take,HT.sIx_nat]
 omega
theorem tdat_ref {G:Hp} {v:V} {t:T} (h:DAt G v t.dat):∃ a,v = .ref a:=by
 cases t with
 | mark i =>
  obtain ⟨a,_,e,_⟩:=DAt.tup_inv h
  exact ⟨a,e⟩
 | un w t =>
  obtain ⟨a,_,e,_⟩:=DAt.tup_inv h
  exact ⟨a,e⟩
 | bin w t u =>
  obtain ⟨a,_,e,_⟩:=DAt.tup_inv h
  exact ⟨a,e⟩
theorem pick_mod {xs:List V} {z:Int} {n:Nat} (hn:xs.length = n) (h0:0 < n):∃ v,atI xs (z % (n:Int)) = some v∧v ∈ xs:=by
 obtain ⟨v,e1,e2⟩:=idx_mod (z:=z) hn h0
 exact ⟨v,e1,List.mem_of_getElem? e2⟩
end Ws
namespace Ws
open PySem L2
def zs (l:List Nat):List Int:=l.map fun (j:Nat)=>(j:Int)
def wAt (ts:List T):Nat→List Nat
 | 0=>[]
 | i + 1=>(wAt ts i).take ((wAt ts i).length - (ts.getD i (.mark 0)).kids.length) ++ [i]
def placesAt (ts:List T) (i:Nat):List Nat:=(wAt ts i).drop ((wAt ts i).length - (ts.getD i (.mark 0)).kids.length)
theorem wAt_ok {ts:List T} (h:okGo ts 0):∀ i,i ≤ ts.length→okGo (ts.drop i) (wAt ts i).length
 | 0,_=>h
 | i + 1,hi=>by
  have ih:=wAt_ok h i (by omega)
  have hi':i < ts.length:=by omega
  obtain ⟨h1,h2⟩:=ok_step hi' ih
  have e:ts.getD i (.mark 0) = ts[i]:=getD_eq hi'
  show okGo (ts.drop (i + 1)) ((wAt ts i).take ((wAt ts i).length - (ts.getD i (.mark 0)).kids.length) ++ [i]).length
  rw [e,List.length_append,List.length_take,List.length_singleton]
  have e2:min ((wAt ts i).length - ts[i].kids.length) (wAt ts i).length + 1 = (wAt ts i).length - ts[i].kids.length + 1:=by omega
  rw [e2]
  exact h2
theorem wAt_kids {ts:List T} (h:okGo ts 0) {i:Nat} (hi:i < ts.length):ts[i].kids.length ≤ (wAt ts i).length:=(ok_step hi (wAt_ok h i (by omega))).1
theorem wAt_lt {ts:List T}:∀ i,∀ j ∈ wAt ts i,j < i
 | 0,j,hj=>nomatch hj
 | i + 1,j,hj=>by
  rcases List.mem_append.mp hj with hj | hj
  ·have:=wAt_lt i j (List.mem_of_mem_take hj)
   omega
  ·rw [List.mem_singleton] at hj
   omega
theorem wAt_len {ts:List T}:∀ i,(wAt ts i).length ≤ i
 | 0=>Nat.le_refl _
 | i + 1=>by
  have ih:=wAt_len (ts:=ts) i
  show ((wAt ts i).take ((wAt ts i).length - (ts.getD i (.mark 0)).kids.length) ++ [i]).length ≤ i + 1
  rw [List.length_append,List.length_take,List.length_singleton]
  omega
theorem places_lt {ts:List T} {i j:Nat} (h:j ∈ placesAt ts i):j < i:=wAt_lt i j (List.mem_of_mem_drop h)
theorem places_len {ts:List T} (h:okGo ts 0) {i:Nat} (hi:i < ts.length):(placesAt ts i).length = ts[i].kids.length:=by
 have q:=wAt_kids h hi
 unfold placesAt
 rw [List.length_drop,getD_eq hi]
 omega
def tabGo (W:World2):List T→List (List Bool)→List (List Lb)→Prop
 | [],_,Ls=>Ls = []
 | _ :: _,_,[]=>False
 | t :: ts,pile,L :: Ls=>LbsOk W t (pile.drop (pile.length - t.kids.length)) L∧tabGo W ts (pile.take (pile.length - t.kids.length) ++ [truths L]) Ls
theorem tab_stand {W:World2}:∀ (t:T) (ts:List T) (pile:List (List Bool)) (Ms:List (List Lb)),tabGo W (t.parts ++ ts) pile Ms→∃ A L Ns,Ms = (A ++ [L]) ++ Ns∧Stand W t (A ++ [L])∧tabGo W ts (pile ++ [truths L]) Ns
 | .mark i,ts,pile,Ms,h=>by
  cases Ms with
  | nil=>exact h.elim
  | cons L Ns =>
   obtain ⟨h1,h2⟩:=h
   have e:pile.length - (T.mark i).kids.length = pile.length:=rfl
   rw [e,List.drop_length] at h1
   rw [e,List.take_length] at h2
   exact ⟨[],L,Ns,rfl,⟨L,rfl,h1⟩,h2⟩
 | .un w t,ts,pile,Ms,h=>by
  have h:tabGo W ((t.parts ++ [.un w t]) ++ ts) pile Ms:=h
  rw [List.append_assoc] at h
  obtain ⟨A,LA,Ns,rfl,hs,hg⟩:=tab_stand t _ pile Ms h
  cases Ns with
  | nil=>exact hg.elim
  | cons L Ns =>
   obtain ⟨h1,h2⟩:=hg
   have e:(pile ++ [truths LA]).length - (T.un w t).kids.length = pile.length:=by rw [List.length_append]; rfl
   rw [e,List.drop_left] at h1
   rw [e,List.take_left] at h2
   exact ⟨A ++ [LA],L,Ns,by rw [List.append_assoc (A ++ [LA])]; rfl,⟨A,LA,L,rfl,hs,h1⟩,h2⟩
 | .bin w t u,ts,pile,Ms,h=>by
  have h:tabGo W ((t.parts ++ u.parts ++ [.bin w t u]) ++ ts) pile Ms:=h
  rw [List.append_assoc,List.append_assoc] at h
  obtain ⟨A,LA,Ns,rfl,hs,hg⟩:=tab_stand t _ pile Ms h
  obtain ⟨B,LB,Ns,rfl,hs2,hg⟩:=tab_stand u _ _ _ hg
  cases Ns with
  | nil=>exact hg.elim
  | cons L Ns =>
   obtain ⟨h1,h2⟩:=hg
   have e:(pile ++ [truths LA] ++ [truths LB]).length - (T.bin w t u).kids.length = pile.length:=by
    rw [List.append_assoc,List.length_append]
    show pile.length + 2 - 2 = pile.length
    omega
   rw [e,List.append_assoc,List.drop_left] at h1
   rw [e,List.append_assoc,List.take_left] at h2
   refine ⟨(A ++ [LA]) ++ (B ++ [LB]),L,Ns,?_,⟨A,LA,B,LB,L,?_,hs,hs2,h1⟩,h2⟩
   ·simp only [List.append_assoc,List.cons_append,List.nil_append]
   ·simp only [List.append_assoc]
theorem tab_whole {W:World2} {t:T} {Ls:List (List Lb)} (h:tabGo W t.parts [] Ls):Stand W t Ls:=by
 have h':tabGo W (t.parts ++ []) [] Ls:=by rw [List.append_nil]; exact h
 obtain ⟨A,L,Ns,rfl,hs,hn⟩:=tab_stand t [] [] Ls h'
 have hn:Ns = []:=hn
 rw [hn,List.append_nil]
 exact hs
theorem abB_fit {s x:Str} {k:Nat} (h:fitB k s x = true):plainB s = decide ((hd s x).length = 1):=by
 rcases fit_cases h with ⟨rfl,q⟩ | ⟨hx,q⟩
 ·have:plainB s = true:=plain_pl (by
   rcases q with ⟨rfl,_⟩ | ⟨rfl | rfl,_⟩
   ·exact .inl rfl
   ·exact .inr (.inl rfl)
   ·exact .inr (.inr rfl))
  rw [this,hd_nil]
  rfl
 ·have:plainB s = false:=(plain_wy (by
   rcases q with ⟨q,_⟩ | ⟨q,_⟩
   ·rcases q with rfl | rfl | rfl | rfl | rfl
    ·exact .inl rfl
    ·exact .inr (.inl rfl)
    ·exact .inr (.inr (.inl rfl))
    ·exact .inr (.inr (.inr (.inl rfl)))
    ·exact .inr (.inr (.inr (.inr (.inl rfl))))
   ·exact .inr (.inr (.inr (.inr (.inr q)))))).1
  rw [this,hd_who hx]
  rfl
def abB:T→Bool
 | .mark _=>false
 | .un w _=>decide (w.length = 2)
 | .bin w _ _=>decide (w.length = 2)
theorem hd_len (s x:Str):(hd s x).length = 1 ∨ (hd s x).length = 2:=by
 unfold hd
 split
 ·exact .inl rfl
 ·exact .inr rfl
theorem hd_so (s x:Str):(hd s x).getD 0 "" = s:=by
 unfold hd
 split <;> rfl
theorem ab_plain:∀ {t:T},t.fit→abB t = !plainB t.so
 | .mark i,_=>by
  show false = !plainB "mark"
  decide +kernel
 | .un w t,⟨⟨s,x,e,h⟩,_⟩=>by
  subst e
  show decide ((hd s x).length = 2) = !plainB ((hd s x).getD 0 "")
  rw [hd_so,abB_fit h]
  rcases hd_len s x with e | e <;> rw [e] <;> rfl
 | .bin w t u,⟨⟨s,x,e,h⟩,_⟩=>by
  subst e
  show decide ((hd s x).length = 2) = !plainB ((hd s x).getD 0 "")
  rw [hd_so,abB_fit h]
  rcases hd_len s x with e | e <;> rw [e] <;> rfl
end Ws
namespace Ws
open PySem L2
theorem list_range {l:List Bool} {n:Nat} (h:l.length = n):(List.range n).map (fun k=>l.getD k false) = l :=
 list_ext_getD (d:=false) (by rw [List.length_map,List.length_range,h]) fun k hk=>by
  rw [List.length_map,List.length_range] at hk
  exact range_at hk
def nextL (doors:List Int) (here:List Bool):Lb:=((doorTo doors here).isSome,none,doorTo doors here)
def nextLs (W:World2) (n:Nat) (here:List Bool):List Lb:=(List.range n).map fun k=>nextL (dr W k) here
theorem next_at {W:World2} {n k:Nat} {here:List Bool} (h:k < n):(nextLs W n here).getD k default = nextL (dr W k) here:=range_at h
theorem next_len {W:World2} {n:Nat} {here:List Bool}:(nextLs W n here).length = n:=by unfold nextLs; rw [List.length_map,List.length_range]
theorem no_want {doors:List Int} {row:List Bool} {want:Bool} (h:∀ e ∈ doors,row.getD e.toNat false = !want):(!(doors.map fun d=>row.getD d.toNat false).contains want) = true:=by
 cases hc:(doors.map fun d=>row.getD d.toNat false).contains want with
 | false=>rfl
 | true =>
  obtain ⟨e,he,q⟩:=List.mem_map.mp (List.contains_iff_mem.mp hc)
  rw [h e he] at q
  cases want <;> cases q
theorem nx_some {W:World2} {n:Nat} {here:List Bool} {k:Nat} (hk:k < n):lbOk ((nextLs W n here).getD k default) (dr W k) = true∧nxR true here (nextLs W n here) k (dr W k) = true:=by
 unfold nxR
 rw [next_at hk]
 unfold nextL
 cases q:doorTo (dr W k) here with
 | some d =>
  obtain ⟨hd,hw⟩:=doorTo_some q
  refine ⟨?_,?_⟩
  ·show (true && decide (d ∈ dr W k)) = true
   rw [decide_eq_true hd]; rfl
  ·show (if decide (true = true) = true then decide (here.getD d.toNat false = true) else false) = true
   rw [hw]
   rfl
 | none =>
  refine ⟨rfl,?_⟩
  show (if decide (false = true) = true then false else !((dr W k).map fun d=>here.getD d.toNat false).contains true) = true
  exact no_want (want:=true) (doorTo_none q)
theorem nx_all {W:World2} {n b:Nat} {here:List Bool} (hW:Valid n b W) (hl:here.length = n) {k:Nat} (hk:k < n):lbOk (((nextLs W n (here.map (!·))).map turnL).getD k default) (dr W k) = true∧nxR false here ((nextLs W n (here.map (!·))).map turnL) k (dr W k) = true:=by
 unfold nxR
 rw [turnL_at (by rw [next_len]; exact hk),next_at hk]
 unfold nextL turnL
 have inn:=(dr_in hW hk).2
 cases q:doorTo (dr W k) (here.map (!·)) with
 | some d =>
  obtain ⟨hd,hw⟩:=doorTo_some q
  have hb:=inn d hd
  rw [not_at _ (by omega)] at hw
  have hw:here.getD d.toNat false = false:=by
   cases z:here.getD d.toNat false with
   | false=>rfl
   | true=>rw [z] at hw; cases hw
  refine ⟨?_,?_⟩
  ·show (true && decide (d ∈ dr W k)) = true
   rw [decide_eq_true hd]; rfl
  ·show (if decide (false = false) = true then decide (here.getD d.toNat false = false) else false) = true
   rw [hw]
   rfl
 | none =>
  refine ⟨rfl,?_⟩
  show (if decide (true = false) = true then false else !((dr W k).map fun d=>here.getD d.toNat false).contains false) = true
  refine no_want (want:=false) fun e he=>?_
  have hb:=inn e he
  have:=doorTo_none q e he
  rw [not_at _ (by omega)] at this
  cases z:here.getD e.toNat false with
  | true=>rfl
  | false=>rw [z] at this; cases this
def rootR (word who:Str) (rows:List (List Bool)) (L:List Lb) (k:Nat) (doors:List Int):Bool :=
 if word = "next" then nxR (decide (who = "some")) (row0 rows) L k doors else if word = "again" then agR who (row0 rows) L k doors else unR who (row0 rows) (row1 rows) L k doors
def formW (so:Str):Str:=if so = "last" then "until" else if so = "always" then "until" else if so = "settle" then "again" else so
def formWho (so who:Str):Str:=if so = "last" then who else if so = "always" then mate who else if so = "settle" then mate who else who
def formT (so:Str):Bool:=if so = "last" then false else if so = "always" then true else decide (so = "settle")
def formRows (n:Nat) (so:Str) (rows:List (List Bool)):List (List Bool) :=
 if so = "last" then [allT n,row0 rows] else if so = "always" then [allT n,(row0 rows).map (!·)] else if so = "settle" then [(row0 rows).map (!·)] else rows
theorem turn_turn (L:List Lb):(L.map turnL).map turn = L:=by
 rw [List.map_map]
 have:(turn ∘ turnL) = id:=funext fun l=>by
  obtain ⟨a,b,c⟩:=l
  show (!(!a),b,c) = (a,b,c)
  rw [Bool.not_not]
 rw [this,List.map_id]
theorem form_right {n:Nat} {so who:Str} {rows:List (List Bool)} {M:List Lb} {k:Nat} {doors:List Int} (hs:sixB so) (hM:M.length = n)
  (h:rootR (formW so) (formWho so who) (formRows n so rows) M k doors = true):waR so who rows (if formT so = true then M.map turnL else M) k doors = true:=by
 rcases hs with rfl | rfl | rfl | rfl | rfl | rfl
 ·exact h
 ·exact h
 ·have h:unR who (allT n) (row0 rows) M k doors = true:=h
  show unR who (List.replicate M.length true) (row0 rows) M k doors = true
  rw [hM]
  exact h
 ·have h:unR (mate who) (allT n) ((row0 rows).map (!·)) M k doors = true:=h
  show unR (mate who) (List.replicate (M.map turnL).length true) ((row0 rows).map not) ((M.map turnL).map turn) k doors = true
  rw [turn_turn,List.length_map,hM]
  exact h
 ·exact h
 ·have h:agR (mate who) ((row0 rows).map (!·)) M k doors = true:=h
  show agR (mate who) ((row0 rows).map not) ((M.map turnL).map turn) k doors = true
  rw [turn_turn]
  exact h
theorem lbOk_turn {l:Lb} {doors:List Int}:lbOk (turnL l) doors = lbOk l doors:=rfl
def plRow (W:World2) (n:Nat) (t:T) (rows:List (List Bool)):List Bool:=(List.range n).map fun k=>plR t.so t.mk (W.getD k default) rows k
def plLs (l:List Bool):List Lb:=l.map fun b=>(b,none,none)
theorem pl_stand {W:World2} {n b:Nat} {t:T} {rows:List (List Bool)} (hW:Valid n b W) (hp:plainB t.so = true):LbsOk W t rows (plLs (plRow W n t rows)):=by
 have at_:∀ k,k < n→(plLs (plRow W n t rows)).getD k default = (plR t.so t.mk (W.getD k default) rows k,none,none):=fun k hk=>by
  unfold plLs plRow
  rw [List.map_map]
  exact range_at hk
 have len:(plLs (plRow W n t rows)).length = n:=by unfold plLs plRow; rw [List.length_map,List.length_map,List.length_range]
 refine ⟨ar_true len hW.len fun k hk=>by rw [at_ k hk]; rfl,?_⟩
 unfold ptR
 rw [List.all_eq_true]
 intro k hk
 have hk:=List.mem_range.mp hk
 rw [hW.len] at hk
 unfold ptK
 rw [if_pos hp,at_ k hk]
 exact decide_eq_true rfl
theorem wa_stand {W:World2} {n b:Nat} {t:T} {rows:List (List Bool)} {L:List Lb} (hW:Valid n b W) (hp:plainB t.so = false) (len:L.length = n) (ok:∀ k,k < n→lbOk (L.getD k default) (dr W k) = true) (h:∀ k,k < n→waR t.so t.wh rows L k (dr W k) = true):LbsOk W t rows L:=by
 refine ⟨ar_true len hW.len ok,?_⟩
 unfold ptR
 rw [List.all_eq_true]
 intro k hk
 have hk:=List.mem_range.mp hk
 rw [hW.len] at hk
 unfold ptK
 rw [hp,if_neg Bool.false_ne_true]
 exact h k hk
end Ws
namespace Ws
open PySem L2
def bfS (who:Str) (row:List Bool) (st:List Int × List Int):Bool:=if who = "some" then (st.2.map fun d=>row.getD d.toNat false).contains true else !(st.2.map fun d=>row.getD d.toNat false).contains false
def bfR (W:World2) (who:Str) (row:List Bool):List Bool:=W.map (bfS who row)
def itN' (f:List Bool→List Bool):Nat→List Bool→List Bool
 | 0,x=>x
 | i + 1,x=>f (itN' f i x)
def unG (W:World2) (who:Str) (left right now:List Bool) (k:Nat):Bool:=right.getD k false || (left.getD k false && (bfR W who now).getD k false)
def unS (W:World2) (who:Str) (left right now:List Bool):List Bool:=(List.range W.length).map (unG W who left right now)
def unT (W:World2) (who:Str) (left right:List Bool):List Bool:=itN' (unS W who left right) W.length right
def alG (W:World2) (who:Str) (here now:List Bool) (k:Nat):Bool:=here.getD k false && (bfR W who now).getD k false
def alS (W:World2) (who:Str) (here now:List Bool):List Bool:=(List.range W.length).map (alG W who here now)
def alT (W:World2) (who:Str) (here:List Bool):List Bool:=itN' (alS W who here) W.length here
theorem itN_len {f:List Bool→List Bool} {n:Nat} (h:∀ x,(f x).length = n) {x:List Bool} (hx:x.length = n):∀ i,(itN' f i x).length = n
 | 0=>hx
 | i + 1=>h _
theorem unS_len {W:World2} {who:Str} {l r now:List Bool}:(unS W who l r now).length = W.length:=by
 unfold unS
 rw [List.length_map,List.length_range]
theorem alS_len {W:World2} {who:Str} {h now:List Bool}:(alS W who h now).length = W.length:=by
 unfold alS
 rw [List.length_map,List.length_range]
theorem bfR_len {W:World2} {who:Str} {row:List Bool}:(bfR W who row).length = W.length:=by
 unfold bfR
 rw [List.length_map]
theorem range_more (g:Nat→Bool) (j:Nat) {x:Bool} (e:x = g j):((List.range j).map g).map V.bl ++ [V.bl x] = ((List.range (j + 1)).map g).map V.bl:=by
 rw [List.range_succ,List.map_append,List.map_append,e]
 rfl
def agS (W:World2) (here now:List Bool):List Bool:=unT W "some" (List.replicate W.length true) (alS W "some" here now)
def agT (W:World2) (who:Str) (here:List Bool):List Bool:=if who = "all" then alT W "all" (unT W "all" (List.replicate W.length true) here) else itN' (agS W here) W.length (List.replicate W.length true)
theorem unT_len {W:World2} {who:Str} {l r:List Bool} (h:r.length = W.length):(unT W who l r).length = W.length:=itN_len (fun _=>unS_len) h _
theorem agS_len {W:World2} {here now:List Bool}:(agS W here now).length = W.length:=unT_len alS_len
theorem alT_len {W:World2} {who:Str} {h:List Bool} (e:h.length = W.length):(alT W who h).length = W.length:=itN_len (fun _=>alS_len) e _
theorem agT_len {W:World2} {who:Str} {h:List Bool} (e:h.length = W.length):(agT W who h).length = W.length:=by
 unfold agT
 split
 ·exact alT_len (unT_len e)
 ·exact itN_len (fun _=>agS_len) List.length_replicate _
def waT (W:World2) (so wh:Str) (rows:List (List Bool)):List Bool :=
 if so = "next" then bfR W wh (row0 rows)
 else if so = "until" then unT W wh (row0 rows) (row1 rows)
 else if so = "last" then unT W wh (List.replicate W.length true) (row0 rows)
 else if so = "always" then alT W wh (row0 rows)
 else if so = "again" then agT W wh (row0 rows)
 else (agT W (mate wh) ((row0 rows).map not)).map not
theorem not_comp {K:PySem.W.Frag} {H:Hp} {a D:Addr} {r:List Bool} (h:H a = some (.lst (r.map V.bl))) (few:r.length ≤ 1000) {Q:VK} (hD:H D = none) (hq:∀ H1,Same H H1→H1 D = some (.lst ((r.map not).map V.bl))→Q (.ref D) H1) :
  CompRd D (Itl K a) (gName 0) (fun _ H Q=>Q true H) (fun σ H Q=>tVar 0 σ H fun x H1=>∃ b,x = V.bl b∧Q (V.bl !b) H1) Q [none] (upd H D (.lst [])):=by
 refine comp_over (xs:=r.map V.bl) (fun i ys τ H'=>Same H H'∧H' D = some (.lst ys)∧ys = ((r.map not).take i).map V.bl∧∃ v,τ = [v]) ⟨same_new hD _,upd_same,rfl,none,rfl⟩ (fun i ys τ H' _ z=>SqL.of (z.1 _ _ h)) ?_ ?_
 ·rintro i y ys τ H4 hy ⟨s4,hD3,rfl,v,rfl⟩
  obtain ⟨x,hx,rfl⟩:∃ x,r[i]? = some x∧V.bl x = y:=by
   rw [List.getElem?_map] at hy
   cases e:r[i]? with
   | none=>rw [e] at hy; cases hy
   | some x=>rw [e] at hy; exact ⟨x,rfl,Option.some.inj hy⟩
  have hi:=(List.getElem?_eq_some_iff.mp hx).1
  refine ⟨_,rfl,_,rfl,hD3,?_,same_upd s4 hD _,upd_same,?_,_,rfl⟩
  ·rw [List.length_map,List.length_take,List.length_map]
   exact line_lt (by omega)
  ·rw [List.take_add_one,List.getElem?_map,hx,List.map_append]
   rfl
 ·rintro ys τ H4 ⟨s4,hD4,rfl,v,rfl⟩
  rw [List.length_map,← List.length_map (f:=not),List.take_length] at hD4
  exact hq H4 s4 hD4
def trT (W:World2) (t:T) (rows:List (List Bool)):List Bool :=
 if t.so = "mark" then W.map (fun st=>decide (t.mk ∈ st.1))
 else if t.so = "not" then (row0 rows).map not
 else if t.so = "and" then (List.range W.length).map (fun k=>(row0 rows).getD k false && (row1 rows).getD k false)
 else if t.so = "or" then (List.range W.length).map (fun k=>(row0 rows).getD k false || (row1 rows).getD k false)
 else waT W t.so t.wh rows
theorem part_at3 {H:Hp} {p:Addr} {t:T} (h:DAt H (.ref p) t.dat) (f:t.fit) (hp:plainB t.so = false):∃ k0 ks,H p = some (.tup (.str t.so :: .str t.wh :: k0 :: ks)):=by
 rcases T.kinds f with ⟨e,_⟩ | ⟨_,e,_⟩ | ⟨_,_,hk,hd⟩
 ·rw [e] at hp
  exact absurd hp (by decide +kernel)
 ·rw [e] at hp
  cases hp
 ·rw [hd] at h
  obtain ⟨p',vs,e,h1,h2⟩:=DAt.tup_inv h
  cases e
  cases h2 with | cons a h2=>cases h2 with | cons b h2 =>
  cases a.str_inv
  cases b.str_inv
  have l:=h2.length
  rw [List.length_map] at l
  rename_i vs
  cases vs with
  | nil =>
   have l:0 = t.kids.length:=l
   rcases hk with ⟨_,z⟩ | ⟨_,z⟩ <;> omega
  | cons k0 ks=>exact ⟨k0,ks,h1⟩
theorem not_plain {so:Str} (h1:so ≠ "mark") (h2:so ≠ "not") (h3:so ≠ "and") (h4:so ≠ "or"):plainB so = false:=by
 unfold plainB inV
 have e:∀ x:Str,so ≠ x→eqV (V.str x) (V.str so) = false:=fun x h=>by
  show (x == so) = false
  cases hb:x == so with
  | false=>rfl
  | true=>exact absurd (eq_of_beq hb).symm h
 simp only [List.any_cons,List.any_nil,e _ h1,e _ h2,e _ h3,e _ h4,Bool.or_false]
end Ws
namespace Ws
open PySem L2
abbrev gt (l:List Bool) (k:Nat):Bool:=l.getD k false
def leR (n:Nat) (x y:List Bool):Prop:=∀ k,k < n→gt x k = true→gt y k = true
theorem leR.refl {n:Nat} {x:List Bool}:leR n x x:=fun _ _ h=>h
theorem leR.trans {n:Nat} {x y z:List Bool} (a:leR n x y) (b:leR n y z):leR n x z:=fun k hk h=>b k hk (a k hk h)
def cT (n:Nat) (x:List Bool):Nat:=(List.range n).countP fun k=>gt x k
theorem cT_le {n:Nat} {x:List Bool}:cT n x ≤ n:=by
 have:=List.countP_le_length (p:=fun k=>gt x k) (l:=List.range n)
 rwa [List.length_range] at this
theorem cT_lt {n:Nat} {x y:List Bool} (h:leR n x y) (d:¬ leR n y x):cT n x < cT n y:=by
 have:∃ k,k < n∧gt y k = true∧gt x k = false:=by
  refine Classical.byContradiction fun q=>d fun k hk hy=>?_
  cases hx:gt x k with
  | true=>rfl
  | false=>exact absurd ⟨k,hk,hy,hx⟩ q
 obtain ⟨k,hk,hy,hx⟩:=this
 exact countP_less (fun j hj hp=>h j (List.mem_range.mp hj) hp) ⟨k,List.mem_range.mpr hk,hx,hy⟩
theorem grow_still {n:Nat} {f:List Bool→List Bool} {x:List Bool} (mono:∀ a b,leR n a b→leR n (f a) (f b)) (h0:leR n x (f x)):(∀ i,leR n (itN' f i x) (itN' f (i + 1) x))∧leR n (itN' f (n + 1) x) (itN' f n x):=by
 have up:∀ i,leR n (itN' f i x) (itN' f (i + 1) x):=by
  intro i
  induction i with
  | zero=>exact h0
  | succ i ih=>exact mono _ _ ih
 refine ⟨up,?_⟩
 have key:∀ i,(∃ j,j ≤ i∧leR n (itN' f (j + 1) x) (itN' f j x)) ∨ i < cT n (itN' f (i + 1) x):=by
  intro i
  induction i with
  | zero =>
   by_cases d:leR n (itN' f 1 x) (itN' f 0 x)
   ·exact .inl ⟨0,Nat.le_refl _,d⟩
   ·have:=cT_lt (up 0) d
    exact .inr (by omega)
  | succ i ih =>
   rcases ih with ⟨j,hj,hd⟩ | ih
   ·exact .inl ⟨j,by omega,hd⟩
   ·by_cases d:leR n (itN' f (i + 2) x) (itN' f (i + 1) x)
    ·exact .inl ⟨i + 1,Nat.le_refl _,d⟩
    ·have:=cT_lt (up (i + 1)) d
     have q:cT n (itN' f (i + 1) x) < cT n (itN' f (i + 1 + 1) x):=this
     exact .inr (Nat.lt_of_le_of_lt ih q)
 rcases key n with ⟨j,hj,hd⟩ | h
 ·have all:∀ m,j ≤ m→leR n (itN' f (m + 1) x) (itN' f m x):=by
   intro m hm
   induction m with
   | zero =>
    have:j = 0:=by omega
    subst this
    exact hd
   | succ m ih =>
    by_cases e:j = m + 1
    ·subst e
     exact hd
    ·exact mono _ _ (ih (by omega))
  exact all n hj
 ·have:=cT_le (n:=n) (x:=itN' f (n + 1) x)
  omega
theorem up_le {n:Nat} {f:List Bool→List Bool} {x:List Bool} (up:∀ i,leR n (itN' f i x) (itN' f (i + 1) x)):∀ i d,leR n (itN' f i x) (itN' f (i + d) x)
 | i,0=>leR.refl
 | i,d + 1=>(up_le up i d).trans (up (i + d))
theorem bf_at {n b:Nat} {W:World2} (hW:Valid n b W) {who:Str} {row:List Bool} {k:Nat} (hk:k < n):gt (bfR W who row) k = bfS who row (W.getD k default):=by
 have hi:k < W.length:=by rw [hW.len]; exact hk
 unfold gt bfR
 rw [List.getD_eq_getElem?_getD,List.getElem?_map,List.getD_eq_getElem?_getD,List.getElem?_eq_getElem hi]
 rfl
theorem bf_some {n b:Nat} {W:World2} (hW:Valid n b W) {row:List Bool} {k:Nat} (hk:k < n):gt (bfR W "some" row) k = true ↔ ∃ e ∈ dr W k,gt row e.toNat = true:=by
 rw [bf_at hW hk]
 show (((W.getD k default).2.map fun d=>row.getD d.toNat false).contains true) = true ↔ _
 rw [List.contains_iff_mem,List.mem_map]
 rfl
theorem bf_all {n b:Nat} {W:World2} (hW:Valid n b W) {row:List Bool} {k:Nat} (hk:k < n):gt (bfR W "all" row) k = true ↔ ∀ e ∈ dr W k,gt row e.toNat = true:=by
 rw [bf_at hW hk]
 show (!((W.getD k default).2.map fun d=>row.getD d.toNat false).contains false) = true ↔ _
 constructor
 ·intro h e he
  cases q:gt row e.toNat with
  | true=>rfl
  | false =>
   have m:false ∈ (W.getD k default).2.map fun d=>row.getD d.toNat false:=List.mem_map.mpr ⟨e,he,q⟩
   rw [List.contains_iff_mem.mpr m] at h
   cases h
 ·intro h
  cases q:((W.getD k default).2.map fun d=>row.getD d.toNat false).contains false with
  | false=>rfl
  | true =>
   obtain ⟨e,he,hf⟩:=List.mem_map.mp (List.contains_iff_mem.mp q)
   have:=h e he
   unfold gt at this
   rw [hf] at this
   cases this
theorem bf_mono {n b:Nat} {W:World2} (hW:Valid n b W) {who:Str} (hw:who = "some" ∨ who = "all") {x y:List Bool} (h:leR n x y):leR n (bfR W who x) (bfR W who y):=fun k hk hx=>by
 have inn:=(dr_in hW hk).2
 rcases hw with rfl | rfl
 ·obtain ⟨e,he,q⟩:=(bf_some hW hk).mp hx
  exact (bf_some hW hk).mpr ⟨e,he,h _ (by have:=inn e he; omega) q⟩
 ·refine (bf_all hW hk).mpr fun e he=>h _ (by have:=inn e he; omega) ((bf_all hW hk).mp hx e he)
theorem un_at {n b:Nat} {W:World2} (hW:Valid n b W) {who:Str} {left right now:List Bool} {k:Nat} (hk:k < n):gt (unS W who left right now) k = (gt right k || (gt left k && gt (bfR W who now) k)):=by
 unfold unS
 rw [hW.len]
 exact range_at hk
theorem un_fix {n b:Nat} {W:World2} (hW:Valid n b W) {who:Str} (hw:who = "some" ∨ who = "all") {left right:List Bool} :
  leR n right (unT W who left right)∧(∀ k,k < n→gt left k = true→gt (bfR W who (unT W who left right)) k = true→gt (unT W who left right) k = true) ∧
  ∀ A:Nat→Prop,(∀ k,k < n→gt right k = true→A k)→(∀ now,(∀ k,k < n→gt now k = true→A k)→∀ k,k < n→gt left k = true→gt (bfR W who now) k = true→A k)→∀ k,k < n→gt (unT W who left right) k = true→A k:=by
 have mono:∀ a b,leR n a b→leR n (unS W who left right a) (unS W who left right b):=fun a b h k hk hx=>by
  rw [un_at hW hk] at hx ⊢
  rw [Bool.or_eq_true,Bool.and_eq_true] at hx ⊢
  rcases hx with hx | ⟨h1,h2⟩
  ·exact .inl hx
  ·exact .inr ⟨h1,bf_mono hW hw h k hk h2⟩
 have h0:leR n right (unS W who left right right):=fun k hk hx=>by
  rw [un_at hW hk,hx]
  rfl
 obtain ⟨up,st⟩:=grow_still mono h0
 unfold unT
 rw [hW.len]
 refine ⟨?_,fun k hk hl hb=>?_,fun A a0 a1=>?_⟩
 ·have:=up_le up 0 n
  rw [Nat.zero_add] at this
  exact this
 ·refine st k hk ?_
  show gt (unS W who left right (itN' (unS W who left right) n right)) k = true
  rw [un_at hW hk,hl,hb]
  cases gt right k <;> rfl
 ·have:∀ i,∀ k,k < n→gt (itN' (unS W who left right) i right) k = true→A k:=by
   intro i
   induction i with
   | zero=>exact a0
   | succ i ih =>
    intro k hk hx
    have hx:gt (unS W who left right (itN' (unS W who left right) i right)) k = true:=hx
    rw [un_at hW hk,Bool.or_eq_true,Bool.and_eq_true] at hx
    rcases hx with hx | ⟨h1,h2⟩
    ·exact a0 k hk hx
    ·exact a1 _ ih k hk h1 h2
  exact this n
theorem iff_eq {a b:Bool} (h1:a = true→b = true) (h2:b = true→a = true):a = b:=by
 cases a with
 | true=>exact (h1 rfl).symm
 | false =>
  cases b with
  | false=>rfl
  | true=>exact h2 rfl
theorem su_truth {n b:Nat} {W:World2} (hW:Valid n b W) {left right:List Bool} {L:List Lb} (h:SuAll W n left right L):∀ k,k < n→(L.getD k default).1 = gt (unT W "some" left right) k:=by
 obtain ⟨f0,f1,f2⟩:=un_fix hW (Or.inl rfl) (left:=left) (right:=right)
 intro k hk
 refine iff_eq (fun ht=>?_) (fun hx=>?_)
 ·exact h.ind hW (fun k=>gt (unT W "some" left right) k = true) (fun k hk hr=>f0 k hk hr) (fun k d hk hl hd ih=>f1 k hk hl ((bf_some hW hk).mpr ⟨d,hd,ih⟩)) k hk ht
 ·refine f2 (fun k=>(L.getD k default).1 = true) (fun k hk hr=>?_) (fun now hn k hk hl hb=>?_) k hk hx
  ·rcases su_cases (h.su k hk) with ⟨_,e,_⟩ | ⟨e,_⟩ | ⟨y,d,_,e,_⟩
   ·rw [show right.getD k false = true from hr] at e; cases e
   ·rw [e]
   ·rw [e]
  ·obtain ⟨e,he,hx⟩:=(bf_some hW hk).mp hb
   have hbn:=(dr_in hW hk).2 e he
   have ht:=hn e.toNat (by omega) hx
   rcases su_cases (h.su k hk) with ⟨_,_,q | q⟩ | ⟨e,_⟩ | ⟨y,d,_,e,_⟩
   ·rw [show left.getD k false = true from hl] at q; cases q
   ·have:=q e he
    unfold lbAt at this
    rw [ht] at this
    cases this
   ·rw [e]
   ·rw [e]
theorem au_truth {n b:Nat} {W:World2} (hW:Valid n b W) {left right:List Bool} {L:List Lb} (ok:∀ k,k < n→lbOk (L.getD k default) (dr W k) = true) (h:∀ k,k < n→auR left right L k (dr W k) = true) :
  ∀ k,k < n→(L.getD k default).1 = gt (unT W "all" left right) k:=by
 obtain ⟨f0,f1,f2⟩:=un_fix hW (Or.inr rfl) (left:=left) (right:=right)
 have main:∀ (m k:Nat) (x:Int),k < n→(L.getD k default).1 = true→(L.getD k default).2.1 = some x→x.toNat ≤ m→gt (unT W "all" left right) k = true:=by
  intro m
  induction m with
  | zero =>
   intro k x hk ht hx hm
   obtain ⟨y,hy,alt⟩:=au_true (h k hk) ht
   rw [hx] at hy
   cases hy
   rcases alt with hr | ⟨hl,hd⟩
   ·exact f0 k hk hr
   ·refine f1 k hk hl ((bf_all hW hk).mpr fun e he=>?_)
    exfalso
    obtain ⟨_,y,hy,hlt⟩:=hd e he
    have hbn:=(dr_in hW hk).2 e he
    have q:=ok e.toNat (by omega)
    unfold lbOk at q
    have hy:(L.getD e.toNat default).2.1 = some y:=hy
    rw [hy,Bool.and_eq_true] at q
    have:0 ≤ y:=of_decide_eq_true q.1
    omega
  | succ m ih =>
   intro k x hk ht hx hm
   obtain ⟨y,hy,alt⟩:=au_true (h k hk) ht
   rw [hx] at hy
   cases hy
   rcases alt with hr | ⟨hl,hd⟩
   ·exact f0 k hk hr
   ·refine f1 k hk hl ((bf_all hW hk).mpr fun e he=>?_)
    obtain ⟨ht',y,hy,hlt⟩:=hd e he
    have hbn:=(dr_in hW hk).2 e he
    have q:=ok e.toNat (by omega)
    unfold lbOk at q
    have hy':(L.getD e.toNat default).2.1 = some y:=hy
    rw [hy',Bool.and_eq_true] at q
    have:0 ≤ y:=of_decide_eq_true q.1
    exact ih e.toNat y (by omega) ht' hy' (by omega)
 intro k hk
 refine iff_eq (fun ht=>?_) (fun hx=>?_)
 ·obtain ⟨x,hx,_⟩:=au_true (h k hk) ht
  exact main _ k x hk ht hx (Nat.le_refl _)
 ·refine f2 (fun k=>(L.getD k default).1 = true) (fun k hk hr=>?_) (fun now hn k hk hl hb=>?_) k hk hx
  ·cases q:(L.getD k default).1 with
   | true=>rfl
   | false =>
    have hr:right.getD k false = true:=hr
    have z:=h k hk
    unfold auR at z
    generalize L.getD k default = l at z q
    obtain ⟨lt,ln,ld⟩:=l
    have q:lt = false:=q
    subst q
    cases ln with
    | some x=>cases z
    | none=>cases ld <;> (have z:(if right.getD k false = true then false else _) = true:=z; rw [hr] at z; cases z)
  ·cases q:(L.getD k default).1 with
   | true=>rfl
   | false =>
    obtain ⟨d,ed,_,hd⟩:=au_cases (h k hk) q hl
    have okk:=ok k hk
    unfold lbOk at okk
    rw [ed,Bool.and_eq_true] at okk
    have hdm:d ∈ dr W k:=of_decide_eq_true okk.2
    have hbn:=(dr_in hW hk).2 d hdm
    have:=hn d.toNat (by omega) ((bf_all hW hk).mp hb d hdm)
    unfold lbAt at hd
    rw [this] at hd
    cases hd
end Ws
namespace Ws
open PySem L2
theorem al_at {n b:Nat} {W:World2} (hW:Valid n b W) {who:Str} {here now:List Bool} {k:Nat} (hk:k < n):gt (alS W who here now) k = (gt here k && gt (bfR W who now) k):=by
 unfold alS
 rw [hW.len]
 exact range_at hk
theorem al_fix {n b:Nat} {W:World2} (hW:Valid n b W) {who:Str} (hw:who = "some" ∨ who = "all") {here:List Bool} :
  leR n (alT W who here) here∧(∀ k,k < n→gt (alT W who here) k = true→gt (bfR W who (alT W who here)) k = true) ∧
  ∀ now:List Bool,leR n now here→leR n now (bfR W who now)→leR n now (alT W who here):=by
 have mono:∀ a b,leR n a b→leR n (alS W who here a) (alS W who here b):=fun a b h k hk hx=>by
  rw [al_at hW hk] at hx ⊢
  rw [Bool.and_eq_true] at hx ⊢
  exact ⟨hx.1,bf_mono hW hw h k hk hx.2⟩
 have h0:leR n (alS W who here here) here:=fun k hk hx=>by
  rw [al_at hW hk,Bool.and_eq_true] at hx
  exact hx.1
 have down:∀ i,leR n (itN' (alS W who here) (i + 1) here) (itN' (alS W who here) i here):=by
  intro i
  induction i with
  | zero=>exact h0
  | succ i ih=>exact mono _ _ ih
 have dle:∀ i,leR n (itN' (alS W who here) i here) here:=by
  intro i
  induction i with
  | zero=>exact leR.refl
  | succ i ih=>exact (down i).trans ih
 have key:∀ i,(∃ j,j ≤ i∧leR n (itN' (alS W who here) j here) (itN' (alS W who here) (j + 1) here)) ∨ cT n (itN' (alS W who here) (i + 1) here) + i + 1 ≤ n:=by
  intro i
  induction i with
  | zero =>
   by_cases d:leR n (itN' (alS W who here) 0 here) (itN' (alS W who here) 1 here)
   ·exact .inl ⟨0,Nat.le_refl _,d⟩
   ·have q:cT n (itN' (alS W who here) 1 here) < cT n (itN' (alS W who here) 0 here):=cT_lt (down 0) d
    have:=cT_le (n:=n) (x:=itN' (alS W who here) 0 here)
    exact .inr (by show cT n (itN' (alS W who here) 1 here) + 0 + 1 ≤ n; omega)
  | succ i ih =>
   rcases ih with ⟨j,hj,hd⟩ | ih
   ·exact .inl ⟨j,by omega,hd⟩
   ·by_cases d:leR n (itN' (alS W who here) (i + 1) here) (itN' (alS W who here) (i + 1 + 1) here)
    ·exact .inl ⟨i + 1,Nat.le_refl _,d⟩
    ·have q:cT n (itN' (alS W who here) (i + 1 + 1) here) < cT n (itN' (alS W who here) (i + 1) here):=cT_lt (down (i + 1)) d
     exact .inr (by omega)
 have st:leR n (itN' (alS W who here) n here) (itN' (alS W who here) (n + 1) here):=by
  rcases key n with ⟨j,hj,hd⟩ | h
  ·have all:∀ m,j ≤ m→leR n (itN' (alS W who here) m here) (itN' (alS W who here) (m + 1) here):=by
    intro m hm
    induction m with
    | zero =>
     have:j = 0:=by omega
     subst this
     exact hd
    | succ m ih =>
     by_cases e:j = m + 1
     ·subst e
      exact hd
     ·exact mono _ _ (ih (by omega))
   exact all n hj
  ·omega
 unfold alT
 rw [hW.len]
 refine ⟨dle n,fun k hk hx=>?_,fun now h1 h2=>?_⟩
 ·have:=st k hk hx
  have this:gt (alS W who here (itN' (alS W who here) n here)) k = true:=this
  rw [al_at hW hk,Bool.and_eq_true] at this
  exact this.2
 ·have:∀ i,leR n now (itN' (alS W who here) i here):=by
   intro i
   induction i with
   | zero=>exact h1
   | succ i ih =>
    intro k hk hx
    show gt (alS W who here (itN' (alS W who here) i here)) k = true
    rw [al_at hW hk,h1 k hk hx,bf_mono hW hw ih k hk (h2 k hk hx)]
    rfl
  exact this n
theorem rep_at {n k:Nat} (h:k < n):gt (List.replicate n true) k = true:=allT_at h
theorem row_of {n:Nat} (p:Nat→Bool) {k:Nat} (h:k < n):gt ((List.range n).map p) k = p k:=range_at h
theorem not_gt {n:Nat} {l:List Bool} (hl:l.length = n) {k:Nat} (hk:k < n):gt (l.map not) k = !gt l k:=not_at l (by omega)
theorem al_truth {n b:Nat} {W:World2} (hW:Valid n b W) {here:List Bool} (hl:here.length = n) {L:List Lb} (ok:∀ k,k < n→lbOk (L.getD k default) (dr W k) = true) :
  ((∀ k,k < n→auR (List.replicate n true) (here.map not) L k (dr W k) = true)→∀ k,k < n→(!(L.getD k default).1) = gt (alT W "some" here) k) ∧
  ((∀ k,k < n→suR (List.replicate n true) (here.map not) L k (dr W k) = true)→∀ k,k < n→(!(L.getD k default).1) = gt (alT W "all" here) k):=by
 refine ⟨fun h=>?_,fun h=>?_⟩
 ·have tr:=au_truth hW ok h
  obtain ⟨f0,f1,f2⟩:=un_fix hW (Or.inr rfl) (left:=List.replicate n true) (right:=here.map not)
  obtain ⟨a0,a1,a2⟩:=al_fix hW (Or.inl rfl) (here:=here)
  intro k hk
  rw [tr k hk]
  refine iff_eq (fun hx=>?_) (fun hx=>?_)
  ·have q:=a2 ((List.range n).map fun k=>!gt (unT W "all" (List.replicate n true) (here.map not)) k) (fun k hk hx=>?_) (fun k hk hx=>?_) k hk (by rw [row_of _ hk]; exact hx)
   ·exact q
   ·rw [row_of _ hk] at hx
    cases q:gt here k with
    | true=>rfl
    | false =>
     have:=f0 k hk (by rw [not_gt hl hk,q]; rfl)
     rw [this] at hx
     cases hx
   ·rw [row_of _ hk] at hx
    have nb:gt (bfR W "all" (unT W "all" (List.replicate n true) (here.map not))) k = false:=by
     cases q:gt (bfR W "all" (unT W "all" (List.replicate n true) (here.map not))) k with
     | false=>rfl
     | true =>
      rw [f1 k hk (rep_at hk) q] at hx
      cases hx
    refine (bf_some hW hk).mpr (Classical.byContradiction fun no=>?_)
    have:gt (bfR W "all" (unT W "all" (List.replicate n true) (here.map not))) k = true:=(bf_all hW hk).mpr fun e he=>by
     cases q:gt (unT W "all" (List.replicate n true) (here.map not)) e.toNat with
     | true=>rfl
     | false=>exact absurd ⟨e,he,by rw [row_of _ (by have:=(dr_in hW hk).2 e he; omega),q]; rfl⟩ no
    rw [this] at nb
    cases nb
  ·cases q:gt (unT W "all" (List.replicate n true) (here.map not)) k with
   | false=>rfl
   | true =>
    have:=f2 (fun k=>gt (alT W "some" here) k = false) (fun k hk hr=>?_) (fun now hn k hk _ hb=>?_) k hk q
    ·rw [this] at hx; cases hx
    ·cases z:gt (alT W "some" here) k with
     | false=>rfl
     | true =>
      rw [not_gt hl hk,a0 k hk z] at hr
      cases hr
    ·cases z:gt (alT W "some" here) k with
     | false=>rfl
     | true =>
      obtain ⟨e,he,q⟩:=(bf_some hW hk).mp (a1 k hk z)
      have:=hn e.toNat (by have:=(dr_in hW hk).2 e he; omega) ((bf_all hW hk).mp hb e he)
      rw [this] at q
      cases q
 ·have tr:=su_truth hW ⟨ok,h⟩
  obtain ⟨f0,f1,f2⟩:=un_fix hW (Or.inl rfl) (left:=List.replicate n true) (right:=here.map not)
  obtain ⟨a0,a1,a2⟩:=al_fix hW (Or.inr rfl) (here:=here)
  intro k hk
  rw [tr k hk]
  refine iff_eq (fun hx=>?_) (fun hx=>?_)
  ·have q:=a2 ((List.range n).map fun k=>!gt (unT W "some" (List.replicate n true) (here.map not)) k) (fun k hk hx=>?_) (fun k hk hx=>?_) k hk (by rw [row_of _ hk]; exact hx)
   ·exact q
   ·rw [row_of _ hk] at hx
    cases q:gt here k with
    | true=>rfl
    | false =>
     have:=f0 k hk (by rw [not_gt hl hk,q]; rfl)
     rw [this] at hx
     cases hx
   ·rw [row_of _ hk] at hx
    refine (bf_all hW hk).mpr fun e he=>?_
    have hb:=(dr_in hW hk).2 e he
    rw [row_of _ (by omega)]
    cases q:gt (unT W "some" (List.replicate n true) (here.map not)) e.toNat with
    | false=>rfl
    | true =>
     rw [f1 k hk (rep_at hk) ((bf_some hW hk).mpr ⟨e,he,q⟩)] at hx
     cases hx
  ·cases q:gt (unT W "some" (List.replicate n true) (here.map not)) k with
   | false=>rfl
   | true =>
    have:=f2 (fun k=>gt (alT W "all" here) k = false) (fun k hk hr=>?_) (fun now hn k hk _ hb=>?_) k hk q
    ·rw [this] at hx; cases hx
    ·cases z:gt (alT W "all" here) k with
     | false=>rfl
     | true =>
      rw [not_gt hl hk,a0 k hk z] at hr
      cases hr
    ·cases z:gt (alT W "all" here) k with
     | false=>rfl
     | true =>
      obtain ⟨e,he,q⟩:=(bf_some hW hk).mp hb
      have:=hn e.toNat (by have:=(dr_in hW hk).2 e he; omega) q
      rw [(bf_all hW hk).mp (a1 k hk z) e he] at this
      cases this
theorem aa_falses {here:List Bool} {L:List Lb} {k:Nat} {doors:List Int} (h:aaR here L k doors = true) (hf:(L.getD k default).1 = false) :
  ∃ x d,L.getD k default = (false,some x,some d)∧(lbAt L d).1 = false∧((x = 0∧here.getD k false = false∧(lbAt L d).2.1 = some 0) ∨ (x ≠ 0∧(lbAt L d).2.1 = some (x - 1))):=by
 unfold aaR at h
 generalize L.getD k default = l at h hf
 obtain ⟨lt,ln,ld⟩:=l
 have hf:lt = false:=hf
 subst hf
 cases ln with
 | none=>cases h
 | some x =>
  cases ld with
  | none=>cases h
  | some d =>
   have h:(if (lbAt L d).1 = true then false else if decide (x = 0) = true then !here.getD k false && decide ((lbAt L d).2.1 = some 0) else decide ((lbAt L d).2.1 = some (x - 1))) = true:=h
   cases hd:(lbAt L d).1 with
   | true=>rw [hd] at h; cases h
   | false =>
    rw [hd] at h
    refine ⟨x,d,rfl,hd,?_⟩
    by_cases hx:x = 0
    ·rw [decide_eq_true hx] at h
     have h:(!here.getD k false && decide ((lbAt L d).2.1 = some 0)) = true:=h
     rw [Bool.and_eq_true,decide_eq_true_eq] at h
     refine .inl ⟨hx,?_,h.2⟩
     cases z:here.getD k false with
     | false=>rfl
     | true=>rw [z] at h; exact nomatch h.1
    ·rw [decide_eq_false hx] at h
     exact .inr ⟨hx,of_decide_eq_true h⟩
theorem num_of {W:World2} {n:Nat} {L:List Lb} (ok:∀ k,k < n→lbOk (L.getD k default) (dr W k) = true) {k:Nat} (hk:k < n) {x:Int} (e:(L.getD k default).2.1 = some x):0 ≤ x:=by
 have q:=ok k hk
 unfold lbOk at q
 rw [e,Bool.and_eq_true] at q
 exact of_decide_eq_true q.1
theorem door_of {W:World2} {n:Nat} {L:List Lb} (ok:∀ k,k < n→lbOk (L.getD k default) (dr W k) = true) {k:Nat} (hk:k < n) {d:Int} (e:(L.getD k default).2.2 = some d):d ∈ dr W k:=by
 have q:=ok k hk
 unfold lbOk at q
 rw [e,Bool.and_eq_true] at q
 exact of_decide_eq_true q.2
theorem aa_truth {n b:Nat} {W:World2} (hW:Valid n b W) {here:List Bool} {L:List Lb} (ok:∀ k,k < n→lbOk (L.getD k default) (dr W k) = true) (h:∀ k,k < n→aaR here L k (dr W k) = true) :
  ∀ k,k < n→(L.getD k default).1 = gt (alT W "all" (unT W "all" (List.replicate n true) here)) k:=by
 obtain ⟨f0,f1,f2⟩:=un_fix hW (Or.inr rfl) (left:=List.replicate n true) (right:=here)
 generalize hz:unT W "all" (List.replicate n true) here = z at f0 f1 f2
 obtain ⟨a0,a1,a2⟩:=al_fix hW (Or.inr rfl) (here:=z)
 have inz:∀ (m k:Nat) (x:Int),k < n→(L.getD k default).1 = true→(L.getD k default).2.1 = some x→x.toNat ≤ m→gt z k = true:=by
  intro m
  induction m with
  | zero =>
   intro k x hk ht hx hm
   obtain ⟨y,hy,hd,hl⟩:=aa_true (h k hk) ht
   rw [hx] at hy
   cases hy
   cases hh:here.getD k false with
   | true=>exact f0 k hk hh
   | false =>
    refine f1 k hk (rep_at hk) ((bf_all hW hk).mpr fun e he=>?_)
    exfalso
    obtain ⟨y,hy,hlt⟩:=hl hh e he
    have hb:=(dr_in hW hk).2 e he
    have:=num_of ok (k:=e.toNat) (by omega) (x:=y) hy
    omega
  | succ m ih =>
   intro k x hk ht hx hm
   obtain ⟨y,hy,hd,hl⟩:=aa_true (h k hk) ht
   rw [hx] at hy
   cases hy
   cases hh:here.getD k false with
   | true=>exact f0 k hk hh
   | false =>
    refine f1 k hk (rep_at hk) ((bf_all hW hk).mpr fun e he=>?_)
    obtain ⟨y,hy,hlt⟩:=hl hh e he
    have hb:=(dr_in hW hk).2 e he
    have:=num_of ok (k:=e.toNat) (by omega) (x:=y) hy
    exact ih e.toNat y (by omega) (hd e he) hy (by omega)
 have row:∀ k,k < n→gt ((List.range n).map fun k=>(L.getD k default).1) k = (L.getD k default).1:=fun k hk=>row_of _ hk
 intro k hk
 refine iff_eq (fun ht=>?_) (fun hx=>?_)
 ·refine a2 ((List.range n).map fun k=>(L.getD k default).1) (fun k hk hx=>?_) (fun k hk hx=>?_) k hk (by rw [row k hk]; exact ht)
  ·rw [row k hk] at hx
   obtain ⟨x,hx',_⟩:=aa_true (h k hk) hx
   exact inz _ k x hk hx hx' (Nat.le_refl _)
  ·rw [row k hk] at hx
   obtain ⟨x,_,hd,_⟩:=aa_true (h k hk) hx
   refine (bf_all hW hk).mpr fun e he=>?_
   have hb:=(dr_in hW hk).2 e he
   rw [row e.toNat (by omega)]
   exact hd e he
 ·-- a False label lies outside
  cases hf:(L.getD k default).1 with
  | true=>rfl
  | false =>
   exfalso
   have zero:∀ k,k < n→gt z k = true→¬ ((L.getD k default).1 = false∧(L.getD k default).2.1 = some 0):=by
    refine f2 _ (fun k hk hr ⟨q1,q2⟩=>?_) (fun now hn k hk _ hb ⟨q1,q2⟩=>?_)
    ·obtain ⟨x,d,e,_,alt⟩:=aa_falses (h k hk) q1
     rw [e] at q2
     cases q2
     rcases alt with ⟨_,hh,_⟩ | ⟨hx,_⟩
     ·rw [show here.getD k false = true from hr] at hh; cases hh
     ·exact hx rfl
    ·obtain ⟨x,d,e,d1,alt⟩:=aa_falses (h k hk) q1
     have hd:=door_of ok hk (d:=d) (by rw [e])
     have hbn:=(dr_in hW hk).2 d hd
     rw [e] at q2
     cases q2
     rcases alt with ⟨_,hh,d2⟩ | ⟨hx,_⟩
     ·exact hn d.toNat (by omega) ((bf_all hW hk).mp hb d hd) ⟨d1,d2⟩
     ·exact hx rfl
   have out:∀ (m k:Nat) (x:Int),k < n→(L.getD k default).1 = false→(L.getD k default).2.1 = some x→x.toNat ≤ m→gt (alT W "all" z) k = true→False:=by
    intro m
    induction m with
    | zero =>
     intro k x hk q1 q2 hm hz
     have x0:=num_of ok hk q2
     have:x = 0:=by omega
     subst this
     exact zero k hk (a0 k hk hz) ⟨q1,q2⟩
    | succ m ih =>
     intro k x hk q1 q2 hm hz
     obtain ⟨x',d,e,d1,alt⟩:=aa_falses (h k hk) q1
     have hd:=door_of ok hk (d:=d) (by rw [e])
     have hbn:=(dr_in hW hk).2 d hd
     rw [e] at q2
     cases q2
     rcases alt with ⟨hx,_⟩ | ⟨hx,d2⟩
     ·subst hx
      exact zero k hk (a0 k hk hz) ⟨q1,by rw [e]⟩
     ·have x0:=num_of ok hk (x:=x) (by rw [e])
      exact ih d.toNat (x - 1) (by omega) d1 d2 (by omega) ((bf_all hW hk).mp (a1 k hk hz) d hd)
   obtain ⟨x,d,e,_⟩:=aa_falses (h k hk) hf
   exact out _ k x hk hf (by rw [e]) (Nat.le_refl _) hx
theorem sa_trues {here:List Bool} {L:List Lb} {k:Nat} {doors:List Int} (h:saR here L k doors = true) (hf:(L.getD k default).1 = true) :
  ∃ x d,L.getD k default = (true,some x,some d)∧(lbAt L d).1 = true∧((x = 0∧here.getD k false = true) ∨ (x ≠ 0∧(lbAt L d).2.1 = some (x - 1))):=by
 unfold saR at h
 generalize L.getD k default = l at h hf
 obtain ⟨lt,ln,ld⟩:=l
 have hf:lt = true:=hf
 subst hf
 cases ln with
 | none=>cases h
 | some x =>
  cases ld with
  | none=>cases h
  | some d =>
   have h:(if (!(lbAt L d).1) = true then false else if decide (x = 0) = true then here.getD k false else decide ((lbAt L d).2.1 = some (x - 1))) = true:=h
   cases hd:(lbAt L d).1 with
   | false=>rw [hd] at h; cases h
   | true =>
    rw [hd] at h
    refine ⟨x,d,rfl,hd,?_⟩
    by_cases hx:x = 0
    ·rw [decide_eq_true hx] at h
     exact .inl ⟨hx,h⟩
    ·rw [decide_eq_false hx] at h
     exact .inr ⟨hx,of_decide_eq_true h⟩
theorem ag_at {n b:Nat} {W:World2} (hW:Valid n b W) {here now:List Bool}:agS W here now = unT W "some" (List.replicate n true) (alS W "some" here now):=by
 unfold agS
 rw [hW.len]
theorem un_mono {n b:Nat} {W:World2} (hW:Valid n b W) {left r r':List Bool} (h:leR n r r'):leR n (unT W "some" left r) (unT W "some" left r'):=by
 obtain ⟨_,_,f2⟩:=un_fix hW (Or.inl rfl) (left:=left) (right:=r)
 obtain ⟨g0,g1,_⟩:=un_fix hW (Or.inl rfl) (left:=left) (right:=r')
 exact f2 (fun k=>gt (unT W "some" left r') k = true) (fun k hk hr=>g0 k hk (h k hk hr)) (fun now hn k hk hl hb=>g1 k hk hl (bf_mono hW (Or.inl rfl) (x:=now) (fun j hj q=>hn j hj q) k hk hb))
theorem sa_truth {n b:Nat} {W:World2} (hW:Valid n b W) {here:List Bool} {L:List Lb} (ok:∀ k,k < n→lbOk (L.getD k default) (dr W k) = true) (h:∀ k,k < n→saR here L k (dr W k) = true) :
  ∀ k,k < n→(L.getD k default).1 = gt (itN' (agS W here) n (List.replicate n true)) k:=by
 have mono:∀ a b,leR n a b→leR n (agS W here a) (agS W here b):=fun a b hab=>by
  rw [ag_at hW,ag_at hW]
  refine un_mono hW fun k hk hx=>?_
  rw [al_at hW hk,Bool.and_eq_true] at hx ⊢
  exact ⟨hx.1,bf_mono hW (Or.inl rfl) hab k hk hx.2⟩
 have down:∀ i,leR n (itN' (agS W here) (i + 1) (List.replicate n true)) (itN' (agS W here) i (List.replicate n true)):=by
  intro i
  induction i with
  | zero=>exact fun k hk _=>rep_at hk
  | succ i ih=>exact mono _ _ ih
 have dle:∀ i d,leR n (itN' (agS W here) (i + d) (List.replicate n true)) (itN' (agS W here) i (List.replicate n true)):=by
  intro i d
  induction d with
  | zero=>exact leR.refl
  | succ d ih=>exact (down (i + d)).trans ih
 intro k hk
 refine iff_eq (fun ht=>?_) (fun hx=>?_)
 ·have inn:∀ i,∀ k,k < n→(L.getD k default).1 = true→gt (itN' (agS W here) i (List.replicate n true)) k = true:=by
   intro i
   induction i with
   | zero=>exact fun k hk _=>rep_at hk
   | succ i ih =>
    show ∀ k,k < n→(L.getD k default).1 = true→gt (agS W here (itN' (agS W here) i (List.replicate n true))) k = true
    rw [ag_at hW]
    obtain ⟨f0,f1,_⟩:=un_fix hW (Or.inl rfl) (left:=List.replicate n true) (right:=alS W "some" here (itN' (agS W here) i (List.replicate n true)))
    have main:∀ (m k:Nat) (x:Int),k < n→(L.getD k default).1 = true→(L.getD k default).2.1 = some x→x.toNat ≤ m→gt (unT W "some" (List.replicate n true) (alS W "some" here (itN' (agS W here) i (List.replicate n true)))) k = true:=by
     intro m
     induction m with
     | zero =>
      intro k x hk ht hx hm
      obtain ⟨x',d,e,d1,alt⟩:=sa_trues (h k hk) ht
      have hd:=door_of ok hk (d:=d) (by rw [e])
      have hb:=(dr_in hW hk).2 d hd
      have x0:=num_of ok hk hx
      rw [e] at hx
      cases hx
      rcases alt with ⟨_,hh⟩ | ⟨hx,_⟩
      ·refine f0 k hk ?_
       rw [al_at hW hk,show gt here k = true from hh,(bf_some hW hk).mpr ⟨d,hd,ih d.toNat (by omega) d1⟩]
       rfl
      ·omega
     | succ m ihm =>
      intro k x hk ht hx hm
      obtain ⟨x',d,e,d1,alt⟩:=sa_trues (h k hk) ht
      have hd:=door_of ok hk (d:=d) (by rw [e])
      have hb:=(dr_in hW hk).2 d hd
      have x0:=num_of ok hk hx
      rw [e] at hx
      cases hx
      rcases alt with ⟨_,hh⟩ | ⟨hx,d2⟩
      ·refine f0 k hk ?_
       rw [al_at hW hk,show gt here k = true from hh,(bf_some hW hk).mpr ⟨d,hd,ih d.toNat (by omega) d1⟩]
       rfl
      ·exact f1 k hk (rep_at hk) ((bf_some hW hk).mpr ⟨d,hd,ihm d.toNat (x - 1) (by omega) d1 d2 (by omega)⟩)
    intro k hk ht
    obtain ⟨x,d,e,_⟩:=sa_trues (h k hk) ht
    exact main _ k x hk ht (by rw [e]) (Nat.le_refl _)
  exact inn n k hk ht
 ·cases hf:(L.getD k default).1 with
  | true=>rfl
  | false =>
   exfalso
   have out:∀ (m k:Nat) (x:Int),k < n→(L.getD k default).1 = false→(L.getD k default).2.1 = some x→x.toNat ≤ m→gt (itN' (agS W here) (m + 1) (List.replicate n true)) k = true→False:=by
    intro m
    induction m with
    | zero =>
     intro k x hk q1 q2 hm hz
     have hz:gt (agS W here (List.replicate n true)) k = true:=hz
     rw [ag_at hW] at hz
     obtain ⟨_,_,f2⟩:=un_fix hW (Or.inl rfl) (left:=List.replicate n true) (right:=alS W "some" here (List.replicate n true))
     refine f2 (fun k=>¬ ((L.getD k default).1 = false∧∃ y,(L.getD k default).2.1 = some y∧y.toNat ≤ 0)) (fun k hk hr ⟨r1,y,r2,r3⟩=>?_) (fun now hn k hk _ hb ⟨r1,y,r2,r3⟩=>?_) k hk hz ⟨q1,x,q2,hm⟩
     ·obtain ⟨y',hy',hd⟩:=sa_false (h k hk) r1
      rw [r2] at hy'
      cases hy'
      rw [al_at hW hk,Bool.and_eq_true] at hr
      obtain ⟨e,he,_⟩:=(bf_some hW hk).mp hr.2
      obtain ⟨e1,z,hz,hlt⟩:=hd e he
      have hb:=(dr_in hW hk).2 e he
      have z0:=num_of ok (k:=e.toNat) (by omega) (x:=z) hz
      rw [show here.getD k false = true from hr.1] at hlt
      have hlt:z < y + 1 - 1:=hlt
      omega
     ·obtain ⟨y',hy',hd⟩:=sa_false (h k hk) r1
      rw [r2] at hy'
      cases hy'
      obtain ⟨e,he,hx⟩:=(bf_some hW hk).mp hb
      obtain ⟨e1,z,hz,hlt⟩:=hd e he
      have hbn:=(dr_in hW hk).2 e he
      refine hn e.toNat (by omega) hx ⟨e1,z,hz,?_⟩
      split at hlt <;> omega
    | succ m ih =>
     intro k x hk q1 q2 hm hz
     have hz:gt (agS W here (itN' (agS W here) (m + 1) (List.replicate n true))) k = true:=hz
     rw [ag_at hW] at hz
     obtain ⟨_,_,f2⟩:=un_fix hW (Or.inl rfl) (left:=List.replicate n true) (right:=alS W "some" here (itN' (agS W here) (m + 1) (List.replicate n true)))
     refine f2 (fun k=>¬ ((L.getD k default).1 = false∧∃ y,(L.getD k default).2.1 = some y∧y.toNat ≤ m + 1)) (fun k hk hr ⟨r1,y,r2,r3⟩=>?_) (fun now hn k hk _ hb ⟨r1,y,r2,r3⟩=>?_) k hk hz ⟨q1,x,q2,hm⟩
     ·obtain ⟨y',hy',hd⟩:=sa_false (h k hk) r1
      rw [r2] at hy'
      cases hy'
      rw [al_at hW hk,Bool.and_eq_true] at hr
      obtain ⟨e,he,hx⟩:=(bf_some hW hk).mp hr.2
      obtain ⟨e1,z,hz,hlt⟩:=hd e he
      have hb:=(dr_in hW hk).2 e he
      have z0:=num_of ok (k:=e.toNat) (by omega) (x:=z) hz
      rw [show here.getD k false = true from hr.1] at hlt
      have hlt:z < y + 1 - 1:=hlt
      exact ih e.toNat z (by omega) e1 hz (by omega) hx
     ·obtain ⟨y',hy',hd⟩:=sa_false (h k hk) r1
      rw [r2] at hy'
      cases hy'
      obtain ⟨e,he,hx⟩:=(bf_some hW hk).mp hb
      obtain ⟨e1,z,hz,hlt⟩:=hd e he
      have hbn:=(dr_in hW hk).2 e he
      refine hn e.toNat (by omega) hx ⟨e1,z,hz,?_⟩
      split at hlt <;> omega
   have key:∀ i,(∃ j,j ≤ i∧leR n (itN' (agS W here) j (List.replicate n true)) (itN' (agS W here) (j + 1) (List.replicate n true))) ∨ cT n (itN' (agS W here) (i + 1) (List.replicate n true)) + i + 1 ≤ n:=by
    intro i
    induction i with
    | zero =>
     by_cases d:leR n (itN' (agS W here) 0 (List.replicate n true)) (itN' (agS W here) 1 (List.replicate n true))
     ·exact .inl ⟨0,Nat.le_refl _,d⟩
     ·have q:cT n (itN' (agS W here) 1 (List.replicate n true)) < cT n (itN' (agS W here) 0 (List.replicate n true)):=cT_lt (down 0) d
      have:=cT_le (n:=n) (x:=itN' (agS W here) 0 (List.replicate n true))
      exact .inr (by show cT n (itN' (agS W here) 1 (List.replicate n true)) + 0 + 1 ≤ n; omega)
    | succ i ih =>
     rcases ih with ⟨j,hj,hd⟩ | ih
     ·exact .inl ⟨j,by omega,hd⟩
     ·by_cases d:leR n (itN' (agS W here) (i + 1) (List.replicate n true)) (itN' (agS W here) (i + 1 + 1) (List.replicate n true))
      ·exact .inl ⟨i + 1,Nat.le_refl _,d⟩
      ·have q:cT n (itN' (agS W here) (i + 1 + 1) (List.replicate n true)) < cT n (itN' (agS W here) (i + 1) (List.replicate n true)):=cT_lt (down (i + 1)) d
       exact .inr (by omega)
   have st:∀ m,n ≤ m→leR n (itN' (agS W here) n (List.replicate n true)) (itN' (agS W here) m (List.replicate n true)):=by
    rcases key n with ⟨j,hj,hd⟩ | h
    ·have all:∀ m,j ≤ m→leR n (itN' (agS W here) m (List.replicate n true)) (itN' (agS W here) (m + 1) (List.replicate n true)):=by
      intro m hm
      induction m with
      | zero =>
       have:j = 0:=by omega
       subst this
       exact hd
      | succ m ih =>
       by_cases e:j = m + 1
       ·subst e
        exact hd
       ·exact mono _ _ (ih (by omega))
     intro m hm
     induction m with
     | zero =>
      have:n = 0:=by omega
      subst this
      exact leR.refl
     | succ m ih =>
      by_cases e:n = m + 1
      ·subst e
       exact leR.refl
      ·exact (ih (by omega)).trans (all m (by omega))
    ·omega
   obtain ⟨x,hx',_⟩:=sa_false (h k hk) hf
   refine out (x.toNat + n) k x hk hf hx' (by omega) (st _ (by omega) k hk hx)
end Ws
namespace Ws
open PySem L2
theorem nx_truth {n b:Nat} {W:World2} (hW:Valid n b W) {who:Str} (hw:who = "some" ∨ who = "all") {row:List Bool} {L:List Lb} (ok:∀ k,k < n→lbOk (L.getD k default) (dr W k) = true) (h:∀ k,k < n→nxR (decide (who = "some")) row L k (dr W k) = true) :
  ∀ k,k < n→(L.getD k default).1 = gt (bfR W who row) k:=fun k hk=>by
 have z:=h k hk
 have o:=ok k hk
 unfold nxR at z
 generalize L.getD k default = l at z o
 obtain ⟨lt,ln,ld⟩:=l
 cases ln with
 | some x=>cases z
 | none =>
  cases ld with
  | some d =>
   have hd:d ∈ dr W k:=by
    unfold lbOk at o
    rw [Bool.and_eq_true] at o
    exact of_decide_eq_true o.2
   have z:(if decide (lt = decide (who = "some")) = true then decide (row.getD d.toNat false = decide (who = "some")) else false) = true:=z
   show lt = gt (bfR W who row) k
   by_cases c:lt = decide (who = "some")
   ·rw [decide_eq_true c,if_pos rfl,decide_eq_true_eq] at z
    rcases hw with rfl | rfl
    ·have c:lt = true:=c
     have z:row.getD d.toNat false = true:=z
     rw [c,(bf_some hW hk).mpr ⟨d,hd,z⟩]
    ·have c:lt = false:=c
     have z:row.getD d.toNat false = false:=z
     rw [c]
     cases q:gt (bfR W "all" row) k with
     | false=>rfl
     | true =>
      have:=(bf_all hW hk).mp q d hd
      unfold gt at this
      rw [z] at this
      cases this
   ·rw [decide_eq_false c] at z
    cases z
  | none =>
   have z:(if decide (lt = decide (who = "some")) = true then false else !((dr W k).map fun d=>row.getD d.toNat false).contains (decide (who = "some"))) = true:=z
   show lt = gt (bfR W who row) k
   by_cases c:lt = decide (who = "some")
   ·rw [decide_eq_true c] at z
    cases z
   ·rw [decide_eq_false c] at z
    have z:(!((dr W k).map fun d=>row.getD d.toNat false).contains (decide (who = "some"))) = true:=z
    rcases hw with rfl | rfl
    ·have c:lt = false:=by
      cases lt with
      | false=>rfl
      | true=>exact absurd rfl c
     rw [c]
     cases q:gt (bfR W "some" row) k with
     | false=>rfl
     | true =>
      obtain ⟨e,he,q⟩:=(bf_some hW hk).mp q
      have m:true ∈ (dr W k).map fun d=>row.getD d.toNat false:=List.mem_map.mpr ⟨e,he,q⟩
      have z:(!((dr W k).map fun d=>row.getD d.toNat false).contains true) = true:=z
      rw [List.contains_iff_mem.mpr m] at z
      cases z
    ·have c:lt = true:=by
      cases lt with
      | true=>rfl
      | false=>exact absurd rfl c
     rw [c]
     symm
     refine (bf_all hW hk).mpr fun e he=>?_
     cases q:gt row e.toNat with
     | true=>rfl
     | false =>
      have m:false ∈ (dr W k).map fun d=>row.getD d.toNat false:=List.mem_map.mpr ⟨e,he,q⟩
      have z:(!((dr W k).map fun d=>row.getD d.toNat false).contains false) = true:=z
      rw [List.contains_iff_mem.mpr m] at z
      cases z
theorem un_truth {n b:Nat} {W:World2} (hW:Valid n b W) {who:Str} (hw:who = "some" ∨ who = "all") {left right:List Bool} {L:List Lb} (ok:∀ k,k < n→lbOk (L.getD k default) (dr W k) = true) (h:∀ k,k < n→unR who left right L k (dr W k) = true) :
  ∀ k,k < n→(L.getD k default).1 = gt (unT W who left right) k:=by
 rcases hw with rfl | rfl
 ·exact su_truth hW ⟨ok,h⟩
 ·exact au_truth hW ok h
theorem ag_truth {n b:Nat} {W:World2} (hW:Valid n b W) {who:Str} (hw:who = "some" ∨ who = "all") {here:List Bool} {L:List Lb} (ok:∀ k,k < n→lbOk (L.getD k default) (dr W k) = true) (h:∀ k,k < n→agR who here L k (dr W k) = true) :
  ∀ k,k < n→(L.getD k default).1 = gt (agT W who here) k:=by
 rcases hw with rfl | rfl
 ·have:=sa_truth hW ok h
  intro k hk
  rw [this k hk]
  show _ = gt (itN' (agS W here) W.length (List.replicate W.length true)) k
  rw [hW.len]
 ·have:=aa_truth hW ok h
  intro k hk
  rw [this k hk]
  show _ = gt (alT W "all" (unT W "all" (List.replicate W.length true) here)) k
  rw [hW.len]
theorem turn_gt {n:Nat} {L:List Lb} (hl:L.length = n) {k:Nat} (hk:k < n):((L.map turn).getD k default).1 = !(L.getD k default).1:=by
 rw [turn_getD (by omega)]
 rfl
theorem turn_ok {W:World2} {n:Nat} {L:List Lb} (hl:L.length = n) (ok:∀ k,k < n→lbOk (L.getD k default) (dr W k) = true):∀ k,k < n→lbOk ((L.map turn).getD k default) (dr W k) = true:=fun k hk=>by
 rw [turn_getD (by omega)]
 exact ok k hk
theorem wa_truth {n b:Nat} {W:World2} (hW:Valid n b W) {so who:Str} (hs:sixB so) (hw:who = "some" ∨ who = "all") {rows:List (List Bool)} (l0:(row0 rows).length = n) {L:List Lb} (hL:L.length = n) (ok:∀ k,k < n→lbOk (L.getD k default) (dr W k) = true)
  (h:∀ k,k < n→waR so who rows L k (dr W k) = true):∀ k,k < n→(L.getD k default).1 = gt (waT W so who rows) k:=by
 have nn:∀ x y:Bool,(!x) = y→x = !y:=fun x y e=>by rw [← e,Bool.not_not]
 rcases hs with rfl | rfl | rfl | rfl | rfl | rfl
 ·exact nx_truth hW hw ok h
 ·exact un_truth hW hw ok h
 ·have h:∀ k,k < n→unR who (List.replicate L.length true) (row0 rows) L k (dr W k) = true:=h
  rw [hL] at h
  have:=un_truth hW hw ok h
  intro k hk
  rw [this k hk]
  show _ = gt (unT W who (List.replicate W.length true) (row0 rows)) k
  rw [hW.len]
 ·have h:∀ k,k < n→unR (mate who) (List.replicate L.length true) ((row0 rows).map not) (L.map turn) k (dr W k) = true:=h
  rw [hL] at h
  obtain ⟨a1,a2⟩:=al_truth hW l0 (turn_ok hL ok)
  intro k hk
  rcases hw with rfl | rfl
  ·have:=a1 h k hk
   rw [turn_gt hL hk,Bool.not_not] at this
   exact this
  ·have:=a2 h k hk
   rw [turn_gt hL hk,Bool.not_not] at this
   exact this
 ·exact ag_truth hW hw ok h
 ·have h:∀ k,k < n→agR (mate who) ((row0 rows).map not) (L.map turn) k (dr W k) = true:=h
  have hm:mate who = "some" ∨ mate who = "all":=by
   rcases hw with rfl | rfl
   ·exact .inr rfl
   ·exact .inl rfl
  have:=ag_truth hW hm (turn_ok hL ok) h
  intro k hk
  have t:=this k hk
  rw [turn_gt hL hk] at t
  show _ = gt ((agT W (mate who) ((row0 rows).map not)).map not) k
  have la:(agT W (mate who) ((row0 rows).map not)).length = n:=by rw [agT_len (by rw [List.length_map,l0,hW.len]),hW.len]
  rw [not_gt la hk]
  exact nn _ _ t
theorem who_of {t:T} (hf:t.fit) (h:plainB t.so = false):t.wh = "some" ∨ t.wh = "all":=by
 rcases T.kinds hf with ⟨e,_⟩ | ⟨_,e,_⟩ | ⟨_,e,_⟩
 ·rw [e] at h
  exact absurd h (by decide +kernel)
 ·rw [e] at h
  cases h
 ·exact e
theorem six_of' {t:T} (hf:t.fit) (h:plainB t.so = false):sixB t.so:=by
 rcases T.kinds hf with ⟨e,_⟩ | ⟨_,e,_⟩ | ⟨_,_,hk,_⟩
 ·rw [e] at h
  exact absurd h (by decide +kernel)
 ·rw [e] at h; cases h
 ·unfold sixB
  rcases hk with ⟨hk,_⟩ | ⟨hk,_⟩
  ·rcases hk with e | e | e | e | e
   ·exact .inl e
   ·exact .inr (.inr (.inl e))
   ·exact .inr (.inr (.inr (.inl e)))
   ·exact .inr (.inr (.inr (.inr (.inl e))))
   ·exact .inr (.inr (.inr (.inr (.inr e))))
  ·exact .inr (.inl hk)
theorem six_plain {so:Str} (h:sixB so):so ≠ "mark"∧so ≠ "not"∧so ≠ "and"∧so ≠ "or":=by
 rcases h with rfl | rfl | rfl | rfl | rfl | rfl <;> exact ⟨by decide +kernel,by decide +kernel,by decide +kernel,by decide +kernel⟩
theorem trT_len {n b:Nat} {W:World2} (hW:Valid n b W) {t:T} (hf:t.fit) {rows:List (List Bool)} (lr:rows.length = t.kids.length) (ln:∀ r ∈ rows,r.length = n):(trT W t rows).length = n:=by
 unfold trT
 split
 ·rw [List.length_map,hW.len]
 rename_i h1
 have pos:=kids_pos hf h1
 have l0:(row0 rows).length = n:=by
  unfold row0
  rw [getD_eq (by omega)]
  exact ln _ (List.getElem_mem _)
 split
 ·rw [List.length_map,l0]
 split
 ·rw [List.length_map,List.length_range,hW.len]
 split
 ·rw [List.length_map,List.length_range,hW.len]
 ·unfold waT
  split
  ·rw [bfR_len,hW.len]
  split
  ·rename_i h2 h3 h4 h5 h6
   have two:=kids_until hf h6
   have l1:(row1 rows).length = n:=by
    unfold row1
    rw [getD_eq (by omega)]
    exact ln _ (List.getElem_mem _)
   rw [unT_len (by rw [l1,hW.len]),hW.len]
  split
  ·rw [unT_len (by rw [l0,hW.len]),hW.len]
  split
  ·rw [alT_len (by rw [l0,hW.len]),hW.len]
  split
  ·rw [agT_len (by rw [l0,hW.len]),hW.len]
  ·rw [List.length_map,agT_len (by rw [List.length_map,l0,hW.len]),hW.len]
theorem lbs_truth {n b:Nat} {W:World2} (hW:Valid n b W) {t:T} (hf:t.fit) {rows:List (List Bool)} (lr:rows.length = t.kids.length) (ln:∀ r ∈ rows,r.length = n) {L:List Lb} (h:LbsOk W t rows L):truths L = trT W t rows:=by
 obtain ⟨hL,ok⟩:=ar_inv h.1 hW
 have lt:=trT_len hW hf lr ln
 refine list_ext_getD (d:=false) (by unfold truths; rw [List.length_map,hL,lt]) fun k hk=>?_
 unfold truths at hk
 rw [List.length_map,hL] at hk
 have e1:(truths L).getD k false = (L.getD k default).1:=trs_at L k
 rw [e1]
 have pk:=List.all_eq_true.mp h.2
 cases hp:plainB t.so with
 | true =>
  have z:=pk k (List.mem_range.mpr (by rw [hW.len]; exact hk))
  unfold ptK at z
  rw [if_pos hp,decide_eq_true_eq] at z
  rw [z]
  show plR t.so t.mk (W.getD k default) rows k = _
  unfold plR trT
  by_cases c1:t.so = "mark"
  ·rw [if_pos c1,if_pos c1]
   have hi:k < W.length:=by rw [hW.len]; exact hk
   rw [List.getD_eq_getElem?_getD,List.getD_eq_getElem?_getD,List.getElem?_map,List.getElem?_eq_getElem hi]
   rfl
  rw [if_neg c1,if_neg c1]
  have pos:=kids_pos hf c1
  have l0:(row0 rows).length = n:=by
   unfold row0
   rw [getD_eq (by omega)]
   exact ln _ (List.getElem_mem _)
  by_cases c2:t.so = "not"
  ·rw [if_pos c2,if_pos c2]
   exact (not_at _ (by omega)).symm
  rw [if_neg c2,if_neg c2]
  by_cases c3:t.so = "and"
  ·rw [if_pos c3,if_pos c3,hW.len]
   exact (range_at (g:=fun k=>(row0 rows).getD k false && (row1 rows).getD k false) hk).symm
  rw [if_neg c3,if_neg c3]
  have c4:t.so = "or":=by
   rcases T.kinds hf with ⟨e,_⟩ | ⟨_,_,e,_⟩ | ⟨e,_⟩
   ·exact absurd e c1
   ·rcases e with ⟨e,_⟩ | ⟨e | e,_⟩
    ·exact absurd e c2
    ·exact absurd e c3
    ·exact e
   ·rw [hp] at e; exact nomatch e
  rw [if_pos c4,hW.len]
  exact (range_at (g:=fun k=>(row0 rows).getD k false || (row1 rows).getD k false) hk).symm
 | false =>
  have hs:=six_of' hf hp
  obtain ⟨c1,c2,c3,c4⟩:=six_plain hs
  have pos:=kids_pos hf c1
  have l0:(row0 rows).length = n:=by
   unfold row0
   rw [getD_eq (by omega)]
   exact ln _ (List.getElem_mem _)
  have wa:∀ k,k < n→waR t.so t.wh rows L k (dr W k) = true:=fun k hk=>by
   have z:=pk k (List.mem_range.mpr (by rw [hW.len]; exact hk))
   unfold ptK at z
   rw [hp,if_neg Bool.false_ne_true] at z
   exact z
  have:=wa_truth hW hs (who_of hf hp) l0 hL ok wa k hk
  rw [this]
  unfold trT
  rw [if_neg c1,if_neg c2,if_neg c3,if_neg c4]
def trW (W:World2):T→List Bool
 | .mark i=>trT W (.mark i) []
 | .un w t=>trT W (.un w t) [trW W t]
 | .bin w t u=>trT W (.bin w t u) [trW W t,trW W u]
theorem trW_len {n b:Nat} {W:World2} (hW:Valid n b W):∀ {t:T},t.fit→(trW W t).length = n
 | .mark i,f=>trT_len hW f rfl (fun _ h=>nomatch h)
 | .un w t,f=>trT_len hW f rfl (fun r h=>by rw [List.mem_singleton] at h; rw [h]; exact trW_len hW f.2)
 | .bin w t u,f=>trT_len hW f rfl (fun r h=>by
   simp only [List.mem_cons,List.not_mem_nil,or_false] at h
   rcases h with rfl | rfl
   ·exact trW_len hW f.2.1
   ·exact trW_len hW f.2.2)
theorem stand_truth {n b:Nat} {W:World2} (hW:Valid n b W):∀ {t:T} {A:List (List Lb)} {L:List Lb},t.fit→Stand W t (A ++ [L])→truths L = trW W t
 | .mark i,A,L,f,hst=>by
  obtain ⟨L',e,h⟩:=hst
  have e:A ++ [L] = [] ++ [L']:=e
  obtain ⟨_,e2⟩:=List.append_inj' e rfl
  cases e2
  exact lbs_truth (rows:=[]) hW f rfl (fun _ h=>nomatch h) h
 | .un w t,A,L,f,hst=>by
  obtain ⟨A',LA,L',e,h1,h⟩:=hst
  obtain ⟨_,e2⟩:=List.append_inj' e rfl
  cases e2
  have q:=stand_truth hW f.2 h1
  rw [q] at h
  exact lbs_truth hW f rfl (fun r hr=>by rw [List.mem_singleton] at hr; rw [hr]; exact trW_len hW f.2) h
 | .bin w t u,A,L,f,hst=>by
  obtain ⟨A',LA,B',LB,L',e,h1,h2,h⟩:=hst
  rw [← List.append_assoc] at e
  obtain ⟨_,e2⟩:=List.append_inj' e rfl
  cases e2
  have q1:=stand_truth hW f.2.1 h1
  have q2:=stand_truth hW f.2.2 h2
  rw [q1,q2] at h
  exact lbs_truth hW f rfl (fun r hr=>by
   simp only [List.mem_cons,List.not_mem_nil,or_false] at hr
   rcases hr with rfl | rfl
   ·exact trW_len hW f.2.1
   ·exact trW_len hW f.2.2) h
end Ws
namespace L2
open PySem PySem.Spec PyProof.Rows
section
variable {P:Program} {w:World}
theorem ObjOk.ex {H:Hp} {h:Heap} {a:Addr} {o:HO} (x:ObjOk P w H h a o):∃ u,h.get? a = some u:=by
 cases o with
 | lst xs=>obtain ⟨_,_,_,_,e⟩:=x; exact ⟨_,e⟩
 | tup xs=>obtain ⟨_,_,_,ob,e,_⟩:=x; exact ⟨_,e⟩
 | dK kvs=>obtain ⟨_,_,_,_,o,_,_,e,_⟩:=x; exact ⟨_,e⟩
 | dT kvs=>obtain ⟨_,_,_,_,o,_,_,e,_⟩:=x; exact ⟨_,e⟩
 | set S n=>obtain ⟨o,_,_,_,e,_⟩:=x; exact ⟨_,e⟩
 | ins C dx fs=>obtain ⟨_,_,_,e,_⟩:=x; exact ⟨_,e⟩
 | own y=>obtain ⟨_,e⟩:=x; exact ⟨_,e⟩
 | xd fs=>obtain ⟨_,⟨_,_,_,e,_⟩,_⟩:=x; exact ⟨_,e⟩
 | rng lo hi=>obtain ⟨_,_,_,e⟩:=x; exact ⟨_,e⟩
 | frz ob u=>obtain ⟨e,_⟩:=x; exact ⟨_,e⟩
 | tbl ps=>exact ⟨_,(show h.get? a = some _ from x)⟩
 | met f y=>exact ⟨_,(show h.get? a = some _ from x)⟩
 | ext φ=>obtain ⟨_,⟨_,e⟩,_⟩:=x; exact ⟨_,e⟩
theorem HOk.keepM {H:Hp} {h h':Heap} (x:HOk P w H h) (k:∀ b u,H b ≠ none→h.get? b = some u→h'.get? b = some u):HOk P w H h':=fun a o e =>
 (x a o e).stay (fun b u hb q=>k b u (by
  rcases hb with z | z
  ·rw [z,e]; intro q; cases q
  ·rw [z]; intro q; cases q) q) (fun _ q=>q) fun _ _ q=>q
structure Fly (P:Program) (w:World) (l:List Env) (H:Hp) (s:Shared) (c:Value) (H':Hp) (e:Addr) (s':Shared):Prop where
 os:s'.os = s.os
 bare:AllBare s'.gens
 un:Un (frs l) [] H H' s.heap s'.heap
 hok:HOk P w H' s'.heap
 exc:∃ a0 oe vs T oT ts,s'.heap.get? e = some oe∧(oe.cls = c∧vs[0]? = some a0)∧oe.data = .fields vs∧vs[1]? = some (.ref T)∧T ≠ e∧s'.heap.get? T = some oT∧oT.data = .fields ts∧ts[3]? = some .none ∧
  s.heap.get? e = none∧s.heap.get? T = none∧H' e = none∧H' T = none
def CXe (P:Program) (w:World):CXT:=fun l H s E ev s'=>∃ e C H',ev = .ref e∧Fly P w l H s (.ref C) H' e s'∧E (.ref C) none H'
theorem ff_of {h h' g B:Heap}:∀ {l:List Env},h.FunFrames g l→(∀ b ∈ frs l,∀ o,h.get? b = some o→∃ o',h'.get? b = some o'∧o'.data = o.data)→(∀ b ∈ frs l,B.get? b = none)→h'.FunFrames B l
 | [],_,_,_=>trivial
 | env :: r,⟨hk,⟨L,o,hf,hn,ho,hd⟩,hr⟩,k,n=>by
  have hL:L ∈ frs (env :: r):=by unfold frs; rw [List.filterMap_cons,hf]; exact List.mem_cons_self
  have sub:∀ b ∈ frs r,b ∈ frs (env :: r):=fun b hb=>by unfold frs; rw [List.filterMap_cons,hf]; exact List.mem_cons_of_mem _ hb
  obtain ⟨o',e,q⟩:=k L hL o ho
  exact ⟨hk,⟨L,o',hf,n L hL,e,fun vs=>by rw [q]; exact hd vs⟩,ff_of hr (fun b hb=>k b (sub b hb)) fun b hb=>n b (sub b hb)⟩
theorem fly_of {l:List Env} {H H':Hp} {s s1:Shared} {M:List Addr} {e:Addr} {c a0:Value} {g h5:Heap} (os:s1.os = s.os) (bare:AllBare s1.gens) (un:Un (frs l) [] H H' s.heap s1.heap) (hok:HOk P w H' s1.heap)
  (hM:∀ b ∈ M,s.heap.get? b = none∧H' b = none) (he:e ∈ M) (ff:s1.heap.FunFrames g l) (frf:∀ b ∈ frs l,H' b = none)
  (st:(PySem.W.hideAll s1.heap (M ++ frs l)).StaysIn h5) (up:s1.heap.UpToSlots h5) (tr:h5.TracedW (PySem.W.hideAll s1.heap (M ++ frs l)) e c a0):Fly P w l H s c H' e { s1 with heap:=h5 }:=by
 have nM:∀ b o,s.heap.get? b = some o→b ∉ M:=fun b o q m=>by rw [(hM b m).1] at q; cases q
 have kp:∀ b o,s1.heap.get? b = some o→b ∉ M→b ∉ frs l→h5.get? b = some o:=fun b o q m f=>st b o (PySem.W.hideAll_get _ q fun z=>(List.mem_append.mp z).elim m f)
 have sl:∀ b o,s1.heap.get? b = some o→b ∈ frs l→∃ sl,h5.get? b = some { o with slots:=sl }:=fun b o q f=>by
  obtain ⟨_,o',ho',hd⟩:=ff.mem f
  rw [q] at ho'; cases ho'
  exact up b o q hd
 refine ⟨os,bare,⟨fun b o q n f x=>kp b o (un.keep b o q n f x) (nM b o q) f,fun b o q n f x=>?_,un.free,fun b o q x=>?_,un.tups,un.frzs,un.tbls⟩,hok.keepM fun b u n q=>?_,?_⟩
 ·obtain ⟨s2,e2⟩:=un.slot b o q n f x
  obtain ⟨s3,e3⟩:=sl b _ e2 f
  exact ⟨s3,e3⟩
 ·obtain ⟨o',e2⟩:=un.there b o q x
  by_cases f:b ∈ frs l
  ·obtain ⟨s3,e3⟩:=sl b _ e2 f
   exact ⟨_,e3⟩
  ·exact ⟨o',kp b o' e2 (nM b o q) f⟩
 ·exact kp b u q (fun m=>n (hM b m).2) fun f=>n (frf b f)
 ·obtain ⟨oe,vs,T,oT,ts,h1,h2,h3,h4,h5',h6,h7,h8,h9⟩:=tr
  have tT:∀ o,s1.heap.get? T = some o→T ∈ M ∨ T ∈ frs l:=fun o q=>by
   rcases Classical.em (T ∈ M ++ frs l) with z | z
   ·exact List.mem_append.mp z
   ·rw [PySem.W.hideAll_get _ q z] at h5'; cases h5'
  have nf:T ∉ frs l:=fun f=>by
   obtain ⟨_,o',ho',hd⟩:=ff.mem f
   obtain ⟨s3,e3⟩:=sl T o' ho' f
   rw [h7] at e3; cases e3
   exact hd ts h8
  refine ⟨a0,oe,vs,T,oT,ts,h1,h2,h3,h4,h6,h7,h8,h9,(hM e he).1,?_,(hM e he).2,?_⟩
  ·cases q:s.heap.get? T with
   | none=>rfl
   | some o =>
    obtain ⟨o',e2⟩:=un.there T o q (by simp)
    rcases tT o' e2 with z | z
    ·exact absurd z (nM T o q)
    ·exact absurd z nf
  ·cases q:H' T with
   | none=>rfl
   | some o =>
    obtain ⟨o',e2⟩:=(hok T o q).ex
    rcases tT o' e2 with z | z
    ·rw [(hM T z).2] at q; cases q
    ·exact absurd z nf
theorem Fly.drop {env:Env} {l:List Env} {H H':Hp} {s s':Shared} {c:Value} {e L:Addr} (F:Fly P w (env :: l) H s c H' e s') (hf:env.frame = some L) (n:s.heap.get? L = none):Fly P w l H s c H' e s':=by
 have hs:∀ b o,s.heap.get? b = some o→b ∉ frs l→b ∉ frs (env :: l):=fun b o q f z=>by
  unfold frs at z; rw [List.filterMap_cons,hf] at z
  rcases List.mem_cons.mp z with z | z
  ·rw [z,n] at q; cases q
  ·exact f z
 exact ⟨F.os,F.bare,⟨fun b o q m f x=>F.un.keep b o q m (hs b o q f) x,fun b o q m f x=>F.un.any q m x,F.un.free,F.un.there,F.un.tups,F.un.frzs,F.un.tbls⟩,F.hok,F.exc⟩
section
variable {X:Cx} {pins:List (Addr × Obj)} {σ:St} {H H':Hp} {s s':Shared} {c:Value} {e:Addr}
theorem Inv.flew (I:Inv X pins σ H s) (x:Fly X.prog X.w X.stack H s c H' e s'):Inv X pins σ H' s':=I.call' (ch:=[]) x.os x.un x.hok x.bare fun _ z=>nomatch z
theorem Inv.s0 (I:Inv X pins σ H s) (hx:X.ex = []) {b:Addr} (n:s.heap.get? b = none):X.s₀.heap.get? b = none:=by
 cases q:X.s₀.heap.get? b with
 | none=>rfl
 | some o =>
  obtain ⟨o',e2⟩:=I.base.there b o q (by rw [hx]; simp)
  rw [n] at e2; cases e2
theorem Inv.un0 (I:Inv X pins σ H s) (hx:X.ex = []) (l:∀ b ∈ X.fs,b ∈ frs X.stack):Un (frs X.stack) [] X.H₀ H X.s₀.heap s.heap:=by
 have b:=I.base
 rw [hx] at b
 exact b.mono l fun _ z=>z
theorem leave_new {M:Model} {E:Value→Shared→Prop} {args:List Value} {h1:Heap} (I:Inv X pins σ H s) (hx:X.ex = []) (st:X.stack = X.env :: X.outer) (hf:X.env.frame = some X.env.locals) (x:Heap.MadeExcOf s.heap h1 e c args)
  {Q:Unit→Shared→Prop} (q:∀ s'',Fly X.prog X.w X.outer X.H₀ X.s₀ c H e s''→Q () s''):wpAny M X.A (leaving X.env (.ref e)) Q E { s with heap:=h1 }:=by
 have sub:∀ b ∈ X.fs,b ∈ frs X.stack:=fun b hb=>by rw [st]; unfold frs; rw [List.filterMap_cons,hf]; exact List.mem_cons_of_mem _ hb
 have J:Inv X pins σ H { s with heap:=h1 }:=I.kept (t':=s.toks) x.keeps
 obtain ⟨t,he,ht,_⟩:=x.there
 have He:H e = none:=by
  cases z:H e with
  | none=>rfl
  | some o =>
   obtain ⟨u,z2⟩:=(I.hok e o z).ex
   rw [x.new] at z2; cases z2
 have ff:=J.stack
 have hB:∀ b ∈ [e] ++ frs X.stack,(PySem.W.hideAll h1 ([e] ++ frs X.stack)).get? b = none:=fun b hb=>PySem.W.hideAll_none _ hb
 have ff':h1.FunFrames (PySem.W.hideAll h1 ([e] ++ frs X.stack)) (X.env :: X.outer):=by
  rw [← st]
  exact ff_of ff (fun b _ o q=>⟨o,q,rfl⟩) fun b hb=>hB b (List.mem_append_right _ hb)
 refine wpAny_leaving_firstW (base:=PySem.W.hideAll h1 ([e] ++ frs X.stack)) (a0:=.ref t) (L:=X.env.locals) (by rw [I.ok.frames,st]) ff' hf he (fun b o z=>PySem.W.of_hideAll _ z) (hB e (by simp)) rfl rfl rfl fun h' hL=>?_
 obtain ⟨k1,_,k3,k4⟩:=hL
 have F:=fly_of (P:=X.prog) (w:=X.w) (s1:={ s with heap:=h1 }) (M:=[e]) (c:=c) (a0:=.ref t) J.os J.bare (J.un0 hx sub) J.hok (fun b hb=>by
  rw [List.mem_singleton.mp hb]; exact ⟨I.s0 hx x.new,He⟩) (List.mem_cons_self) ff J.stkFree k1 k4 k3
 rw [st] at F
 exact q _ (F.drop hf (Heap.get?_none_of_le I.ok.above))
end
end
end L2
namespace L2
open PySem PySem.Spec PyProof.Rows
def Raises (X:Cx) (E:XK):Prop:=∀ (pins:List (Addr × Obj)) (σ:St) (H:Hp) (s:Shared) (h1:Heap) (e C:Addr) (args:List Value),Inv X pins σ H s→Heap.MadeExcOf s.heap h1 e (.ref C) args→E (.ref C) none H→X.xe (.ref e) { s with heap:=h1 }
section
variable {P:Program} {w:World} {K:PySem.W.Frag} {mg:Str→Option Value} {base:Heap} {N ps:List Str} {qual:Str} {scope:Scope} {f:Addr} {fd:FuncData} {cd:Value} {A:Around} {outer:List Env} {s:Shared} {H:Hp} {E:XK} {k:Nat} {sp sp':Sp}
theorem raises_cx:Raises (cxOf (CXe P w) P w K mg base N qual scope f cd A outer s H E) E:=fun _ _ H1 _ _ e C _ I x q=>leave_new I rfl rfl rfl x fun _ F=>⟨e,C,H1,rfl,F,q⟩
theorem Fun.okE {x:Str} {st:Stmt} (F:Fun K x qual st f fd) (S:FnScope N ps (defScope st)) (len:∀ vs H Q E,sp vs H Q E→vs.length = ps.length)
  (hbody:∀ (cdv:Value) (A:Around) (outer:List Env) (s:Shared) (H:Hp) (vs:List V) (Q:VK) (E:XK),Room k (A.deeper (envOfC qual (defScope st) s.heap.objs.size f cdv))→sp vs H Q E →
   ∃ t,PSs (cxOf (CXe P w) P w K mg base N qual (defScope st) f cdv A outer s H E) (defBody st) t∧t { nx:=fun _ H'=>Q .non H',rt:=Q } (start N vs) H):FnOk P w K mg base (CXe P w) (k + 1) f fd ps sp:=by
 have ⟨oc,od,kV,doc,pm,an,cdv,ct,osl,z,lk,hcd⟩:=F.ex
 subst z
 exact fn_of lk hcd S len fun A outer s H vs Q E=>hbody cdv A outer s H vs Q E
end
abbrev bmV:List Value:=[.type "ValueError",.type "Exception",.type "BaseException",.type "object"]
theorem excObj_of {K:PySem.W.Frag} {h:Heap} {C:Addr} {bmB:List Value} {newId:String} (X:K.In h) (q:PySem.W.excIn K C bmB newId = true) :
  ∃ bm N nm q bs hdct sn sub ab col dd k0 k1 k2 k3 k5 mN,h.get? C = some (excClassObj nm q C N bs bm hdct sn sub ab col dd k0 k1 k2 k3 k5 newId)∧h.Ns N mN∧mN "__init__" = none∧OwnTail h bmB bm:=by
 unfold PySem.W.excIn at q
 split at q
 rotate_left
 ·cases q
 rename_i dd cd sl ho
 split at q
 rotate_left
 ·cases q
 rename_i C' bm k0 k1 k2 k3 n k5 hm hs
 rw [Bool.and_eq_true,Bool.and_eq_true,Bool.and_eq_true,Bool.and_eq_true,Bool.and_eq_true] at q
 obtain ⟨⟨⟨⟨⟨q1,q2⟩,q3⟩,q4⟩,q5⟩,q6⟩:=q
 have e1:=eq_of_beq q1
 have e2:=eq_of_beq q2
 have e6:=eq_of_beq q6
 subst e1; subst e2
 cases cd with | mk nm bs mro ns qn hd sn sub ab col del=>?_
 simp only at hm q3 q5 e6
 have e3:del = false:=by cases del with | false=>rfl | true=>cases q3
 subst e3; subst hm
 have e4:sl = #[k0,k1,k2,k3,some (.builtin n),k5]:=by cases sl with | mk l=>exact congrArg Array.mk hs
 subst e4
 exact ⟨bm,ns,nm,qn,bs,hd,sn,sub,ab,col,dd,k0,k1,k2,k3,k5,_,X _ _ ho,.of_isNs (PySem.W.isNs_of_in X q5),PySem.W.nsMap_none_of_in X q5 e6,PySem.W.tail_of_in X q4⟩
section
variable {X:Cx}
def tRaise (C:Addr) (E:XK) (ta:TA):TS:=fun _ σ H=>ta σ H fun vs H1=>vs.length ≤ sizeLine∧E (.ref C) none H1
theorem ps_raise {C:Addr} {x:Str} {E:XK} {e:Expr} {ta:TA} {np cpos pos:Pos} (hr:Raises X E) (hc:X.calm = true) (hg:Gl X x) (hm:X.mg x = some (.ref C)) (hq:PySem.W.excIn X.K C bmV "ValueError.__new__" = true) (ha:PA X [e] ta)
  (he:starEach [e] X.env = (false,eval e X.env) :: starEach [] X.env:=by rfl) (hd:(x == ("__debug__":Str)) = false:=by decide):PS X (.Raise (some (.Call (.Name x np) [e] [] cpos)) none pos) (tRaise C E ta):=by
 intro pins s σ H D I h
 obtain ⟨bm,N,nm,q,bs,hdct,sn,sub,ab,col,dd,k0,k1,k2,k3,k5,mN,hC,hN,hni,T⟩:=excObj_of I.mod.kin hq
 refine wpAny_Raise_call_subT (C:=C) (nm:=nm) (q:=q) (N:=N) (bs:=bs) (bm:=bm) (hdct:=hdct) (sn:=sn) (sub:=sub) (ab:=ab) (col:=col) (dd:=dd) (k0:=k0) (k1:=k1) (k2:=k2) (k3:=k3) (k5:=k5)
  PySem.F.excBase_ValueError (mN:=mN) (T.hasType PySem.F.excBase_ValueError.hasBase) (I.ok.hd hc) (by rw [he]; rfl) hni (ld_glob I hg hm ⟨rfl,?_⟩ hd)
 have h2:=thn (ha cpos pins s σ H _ I h) (Q':=fun vs s₂=>vs.length ≤ sizeLine∧(∀ b o,X.base.get? b = some o→s₂.heap.get? b = some o)∧∀ h' e,Heap.MadeExcOf s₂.heap h' e (.ref C) vs→X.xe (.ref e) { s₂ with heap:=h' }) fun us s2 ⟨vs,H2,I2,r,q1,q2⟩ =>
  ⟨by rw [← r.length]; exact q1,I2.bk,fun h' e m=>hr pins σ H2 s2 h' e C us I2 m q2⟩
 rw [he] at h2 ⊢
 exact Calls.evalArgs_plain (wpAny_mono h2 (fun vs s₂ z=>⟨rfl,z.1,z.2.1 _ _ hC,hN.keeps z.2.1,T.keeps z.2.1,z.2.2⟩) fun _ _ y=>y)
end
end L2
namespace L2
open PySem PySem.Spec PyProof.Rows
section
variable {X:Cx} {pins pins':List (Addr × Obj)} {σ σ':St} {H H1 H':Hp} {s s1 s':Shared} {E:XK} {e:Addr} {c:Value}
abbrev Cx.tryB (X:Cx) (pins:List (Addr × Obj)) (E:XK):Cx:={ X with pn:=X.pn ++ pins,xe:=fun ev s'=>∃ σ' H1 s1,Inv X pins σ' H1 s1∧CXe X.prog X.w X.stack H1 s1 E ev s' }
theorem Inv.toTry (I:Inv X pins σ H s):Inv (X.tryB pins E) [] σ H s :=
 ⟨⟨I.ok.mod,I.ok.kind,I.ok.glob,I.ok.blt,I.ok.above,I.ok.inj,I.ok.has,I.ok.cab,I.ok.hd,I.ok.frames,I.ok.stk,I.ok.exf,I.ok.bs,I.ok.bsz,I.ok.noex,I.ok.exfs,I.ok.funs,I.ok.frf⟩,I.os,I.bare,I.base,I.loc,I.cell,I.free,I.freeC,fun p hp=>I.pin p (by simpa using hp),I.hok,I.len⟩
theorem Inv.ofTry (ok:X.Ok) (I:Inv (X.tryB pins E) pins' σ H s):Inv X pins σ H s :=
 ⟨ok,I.os,I.bare,I.base,I.loc,I.cell,I.free,I.freeC,fun p hp=>I.pin p (List.mem_append_left _ hp),I.hok,I.len⟩
theorem Cx.Ok.ofTry (k:(X.tryB pins E).Ok):X.Ok:=⟨k.mod,k.kind,k.glob,k.blt,k.above,k.inj,k.has,k.cab,k.hd,k.frames,k.stk,k.exf,k.bs,k.bsz,k.noex,k.exfs,k.funs,k.frf⟩
theorem passes_try:Passes (CXe X.prog X.w) (X.tryB pins E) E:=fun _ σ H s _ _ I x=>⟨σ,H,s,I.ofTry I.ok.ofTry,x⟩
theorem SP.ofTry {D:Ends} {f:Flow} (ok:X.Ok) (h:SP (X.tryB pins E) pins' D f s):SP X pins D f s:=by
 cases f with
 | next=>exact let ⟨a,b,i,q⟩:=h; ⟨a,b,i.ofTry ok,q⟩
 | brk=>exact let ⟨a,b,i,q⟩:=h; ⟨a,b,i.ofTry ok,q⟩
 | cont=>exact let ⟨a,b,i,q⟩:=h; ⟨a,b,i.ofTry ok,q⟩
 | ret u=>exact let ⟨v,a,b,i,r,q⟩:=h; ⟨v,a,b,i.ofTry ok,r,q⟩
abbrev Cx.inH (X:Cx) (e:Addr):Cx:={ X with A:=X.A.mark (some (.ref e)),calm:=false }
theorem Inv.toH (I:Inv X pins σ H s) (e:Addr):Inv (X.inH e) pins σ H s :=
 ⟨⟨I.ok.mod,I.ok.kind,I.ok.glob,I.ok.blt,I.ok.above,I.ok.inj,I.ok.has,I.ok.cab,(fun z=>by cases z),I.ok.frames,I.ok.stk,I.ok.exf,I.ok.bs,I.ok.bsz,I.ok.noex,I.ok.exfs,I.ok.funs,I.ok.frf⟩,I.os,I.bare,I.base,I.loc,I.cell,I.free,I.freeC,I.pin,I.hok,I.len⟩
theorem Inv.ofH (ok:X.Ok) (I:Inv (X.inH e) pins σ H s):Inv X pins σ H s:=⟨ok,I.os,I.bare,I.base,I.loc,I.cell,I.free,I.freeC,I.pin,I.hok,I.len⟩
theorem SP.ofH {D:Ends} {f:Flow} (ok:X.Ok) (h:SP (X.inH e) pins D f s):SP X pins D f s:=by
 cases f with
 | next=>exact let ⟨a,b,i,q⟩:=h; ⟨a,b,i.ofH ok,q⟩
 | brk=>exact let ⟨a,b,i,q⟩:=h; ⟨a,b,i.ofH ok,q⟩
 | cont=>exact let ⟨a,b,i,q⟩:=h; ⟨a,b,i.ofH ok,q⟩
 | ret u=>exact let ⟨v,a,b,i,r,q⟩:=h; ⟨v,a,b,i.ofH ok,r,q⟩
def blank (σ:St):St:=σ.map fun _=>none
theorem Inv.blank (I:Inv X pins σ H s) (h:σ'.length = σ.length):Inv X pins (blank σ') H s:=I.weak (by simp [L2.blank,h]) fun i v z=>by
 unfold L2.blank at z
 rw [List.getElem?_map] at z
 cases q:σ'[i]? with
 | none=>rw [q] at z; cases z
 | some o=>rw [q] at z; cases z
theorem Fly.ff (I:Inv X pins σ H s) (F:Fly X.prog X.w X.stack H s c H' e s') {M:List Addr} (hM:∀ b ∈ frs X.stack,b ∈ M):s'.heap.FunFrames (PySem.W.hideAll s'.heap M) X.stack :=
 ff_of (I.flew F).stack (fun _ _ o q=>⟨o,q,rfl⟩) fun b hb=>PySem.W.hideAll_none _ (hM b hb)
theorem Fly.land {M:Model} {A:Around} {E:Value→Shared→Prop} {Q:Unit→Shared→Prop} (I:Inv X pins σ H s) (F:Fly X.prog X.w X.stack H s c H' e s')
  (q:∀ h',Fly X.prog X.w X.stack H s c H' e { s' with heap:=h' }→Q () { s' with heap:=h' }):wpAny M A (setFlight (.ref e) none) Q E s':=by
 obtain ⟨a0,oe,vs,T,oT,ts,h1,h2,h3,h4,h5,h6,h7,h8,h9,h10,h11,h12⟩:=F.exc
 refine lands_againW (base:=PySem.W.hideAll s'.heap ([e,T] ++ frs X.stack)) (l:=X.stack) (cls:=c) (a0:=a0) ⟨fun b o z=>PySem.W.of_hideAll _ z,PySem.W.hideAll_none _ (by simp),F.ff I fun b hb=>List.mem_append_right _ hb,oe,vs,T,oT,ts,h1,h2,h3,h4,PySem.W.hideAll_none _ (by simp),h5,h6,h7,h8⟩ fun h' k sm=>?_
 exact q h' (fly_of (s1:=s') F.os F.bare F.un F.hok (fun b hb=>by
  rcases List.mem_cons.mp hb with z | hb
  ·rw [z]; exact ⟨h9,h11⟩
  ·rw [List.mem_singleton.mp hb]; exact ⟨h10,h12⟩) List.mem_cons_self (I.flew F).stack (I.flew F).stkFree k.1 sm k.2.2.2)
theorem Fly.look {M:Model} {E:Value→Shared→Prop} {Q:Unit→Shared→Prop} (I:Inv X pins σ H s) (st:X.stack = X.env :: X.outer) (hf:X.env.frame = some X.env.locals) (F:Fly X.prog X.w X.stack H s c H' e s')
  (q:∀ h',Fly X.prog X.w X.stack H s c H' e { s' with heap:=h' }→Q () { s' with heap:=h' }):wpAny M X.A (noteFrame (.ref e) X.env) (fun _ s2=>wpAny M X.A (setFlight (.ref e) none) Q E s2) E s':=by
 obtain ⟨a0,oe,vs,T,oT,ts,h1,h2,h3,h4,h5,h6,h7,h8,h9,h10,h11,h12⟩:=F.exc
 refine wpAny_looks_onW (base:=PySem.W.hideAll s'.heap ([e,T] ++ frs X.stack)) (outer:=X.outer) (L:=X.env.locals) (cls:=c) (a0:=a0) (by rw [I.ok.frames,st]) hf
  ⟨fun b o z=>PySem.W.of_hideAll _ z,PySem.W.hideAll_none _ (by simp),st ▸ F.ff I fun b hb=>List.mem_append_right _ hb,oe,vs,T,oT,ts,h1,h2,h3,h4,PySem.W.hideAll_none _ (by simp),h5,h6,h7,h8⟩ fun h4 k4 sm4=>wpAny_landsW k4 fun h' k sm=>?_
 exact q h' (fly_of (s1:=s') F.os F.bare F.un F.hok (fun b hb=>by
  rcases List.mem_cons.mp hb with z | hb
  ·rw [z]; exact ⟨h9,h11⟩
  ·rw [List.mem_singleton.mp hb]; exact ⟨h10,h12⟩) List.mem_cons_self (I.flew F).stack (I.flew F).stkFree k.1 (sm4.trans sm) k.2.2.2)
def tClauses (K:PySem.W.Frag):List (Value × TS)→Value→TS
 | [],_=>fun _ _ _=>False
 | (cv,t) :: r,c=>fun D σ H=>∃ b,PySem.W.exmOne K c cv = some b∧if b = true then t D σ H else tClauses K r c D σ H
inductive Clauses (X:Cx):List ExceptHandler→List (Value × TS)→Prop where
 | nil:Clauses X [] []
 | cons {x:Str} {np pos:Pos} {b:Stmt} {suite:List Stmt} {hs:List ExceptHandler} {l:List (Value × TS)} {C:Addr} {t:TS} (hg:Gl X x) (hm:X.mg x = some (.ref C)) (hd:(x == ("__debug__":Str)) = false) (hb:∀ e,PSs (X.inH e).nox (b :: suite) t)
  (r:Clauses X hs l):Clauses X (.ExceptHandler (some (.Name x np)) none (b :: suite) pos :: hs) ((.ref C,t) :: l)
theorem clauses_ok {hs:List ExceptHandler} {l:List (Value × TS)} (C:Clauses X hs l):∀ {D:Ends} {σ0:St} {s':Shared},σ0.length = σ.length→Inv X pins σ H s→Fly X.prog X.w X.stack H s c H' e s'→tClauses X.K l c D (blank σ0) H' →
  wpAny (model X.prog X.w) X.A (handleBy (.ref e) X.env hs) (SP X pins D) X.xe s':=by
 induction C with
 | nil=>intro D σ0 s' _ _ _ z; exact False.elim z
 | @cons x np pos b0 suite hs l C t hg hm hd hb r ih =>
  intro D σ0 s' hl I F z
  obtain ⟨b,hx,z⟩:=z
  have J:=I.flew F
  obtain ⟨a0,oe,vs,T,oT,ts,h1,h2,_⟩:=F.exc
  refine wpAny_handleBy_cons (codeAny_handlers_test (ld_glob (X:=X.inH e) (J.toH e) hg hm ?_ hd)) (by intro q; cases q)
  refine (PySem.W.exm_one J.kIn (h2.1 ▸ (PySem.W.Looks.ld h1).andThen .now) hx).here ?_
  cases b with
  | false =>
   exact ih hl I F (by simpa using z)
  | true =>
   refine codeAny_handlers_suite (F.land I fun h' G=>?_)
   have J2:=(I.flew G).blank hl
   refine wpAny_mono (hb e pins _ _ _ D ((J2.toH e).wish _) (by simpa using z)) (fun f s3 q=>?_) fun _ _ z=>False.elim z
   exact (SP.unwish q).ofH J2.ok
def tTry (K:PySem.W.Frag) (tb:XK→TS) (l:List (Value × TS)):TS:=fun D σ H=>tb (fun c _ H'=>tClauses K l c D (blank σ) H') D σ H
theorem ps_try {body:List Stmt} {h0:ExceptHandler} {hs:List ExceptHandler} {tb:XK→TS} {l:List (Value × TS)} {pos:Pos} (st:X.stack = X.env :: X.outer) (hf:X.env.frame = some X.env.locals) (hb:∀ pins E,PSs (X.tryB pins E) body (tb E)) (hc:Clauses X (h0 :: hs) l) :
  PS X (.Try body (h0 :: hs) [] [] pos) (tTry X.K tb l):=by
 intro pins s σ H D I h
 refine wpAny_Try_except (wpAny_mono (hb pins _ [] s σ H D I.toTry h) (fun f s1 q=>?_) fun ev s1 q=>?_)
 ·have q:=SP.ofTry I.ok q
  cases f with
  | next=>exact wpAny_execs_nil q
  | brk=>exact q
  | cont=>exact q
  | ret u=>exact q
 ·obtain ⟨σ',H1,s0,J,e,C,H',rfl,F,z⟩:=q
  refine F.look J st hf fun h' G=>?_
  exact clauses_ok (σ:=σ') hc (by rw [I.len,J.len]) J G z
end
end L2
namespace Ws
open PySem L2
def stp (W:World2) (L:List Lb) (x:Int):Int:=match (lbAt L x).2.2 with
 | some d=>d
 | none=>(dr W x.toNat).getD 0 0
structure Fol (n:Nat) (W:World2) (L:List Lb) (row:List Int) (bk:Nat):Prop where
 inn:∀ x ∈ row,0 ≤ x∧x < (n:Int)
 go:∀ (i:Nat) (x y:Int),row[i]? = some x→row[i + 1]? = some y→y = stp W L x
 cl:∃ x,row[row.length - 1]? = some x∧row[bk]? = some (stp W L x)
theorem Fol.bk_lt {n:Nat} {W:World2} {L:List Lb} {row:List Int} {bk:Nat} (F:Fol n W L row bk):bk < row.length:=by
 obtain ⟨x,_,h⟩:=F.cl
 exact (List.getElem?_eq_some_iff.mp h).1
theorem Fol.ind {n:Nat} {W:World2} {L:List Lb} {row:List Int} {bk:Nat} (F:Fol n W L row bk) {P:Nat→Int→Prop} {b:Nat} (h0:∀ x,row[b]? = some x→P b x) (hs:∀ i x,b ≤ i→row[i]? = some x→P i x→P (i + 1) (stp W L x)) :
  ∀ j x,row[b + j]? = some x→P (b + j) x
 | 0,x,h=>h0 x h
 | j + 1,y,h=>by
  have hj:b + j < row.length:=by have:=(List.getElem?_eq_some_iff.mp h).1; omega
  have e:=List.getElem?_eq_getElem hj
  rw [F.go (b + j) _ y e h]
  exact hs (b + j) _ (by omega) e (Fol.ind F h0 hs j _ e)
theorem Fol.all {n:Nat} {W:World2} {L:List Lb} {row:List Int} {bk:Nat} (F:Fol n W L row bk) {P:Int→Prop} {s:Int} (h0:row[0]? = some s) (hP:P s) (hs:∀ x,0 ≤ x→x < (n:Int)→P x→P (stp W L x)):∀ (i:Nat) (x:Int),row[i]? = some x→P x:=fun i x h=>by
 have:=F.ind (P:=fun _ x=>P x) (b:=0) (fun x h=>by rw [h0] at h; cases h; exact hP) (fun i x _ h p=>by
  obtain ⟨a,b⟩:=F.inn x (List.mem_of_getElem? h)
  exact hs x a b p) i x (by rw [Nat.zero_add]; exact h)
 exact this
theorem until_false {l r:List Bool}:∀ {row:List Int},untilB l r row = false→∀ (i:Nat) (x:Int),row[i]? = some x→(∀ (j:Nat) (y:Int),j < i→row[j]? = some y→l.getD y.toNat false = true)→r.getD x.toNat false = false
 | [],_,i,x,h,_=>by simp at h
 | k :: rs,hu,i,x,h,hl=>by
  unfold untilB at hu
  cases hr:r.getD k.toNat false with
  | true=>rw [hr,if_pos rfl] at hu; cases hu
  | false =>
   rw [hr,if_neg Bool.false_ne_true] at hu
   cases i with
   | zero=>have h:some k = some x:=h; cases h; exact hr
   | succ i =>
    rw [hl 0 k (by omega) rfl,if_pos rfl] at hu
    exact until_false hu i x (by simpa using h) fun j y hj hy=>hl (j + 1) y (by omega) (by simpa using hy)
theorem su_fol {n:Nat} {W:World2} {left right:List Bool} {L:List Lb} {row:List Int} {bk:Nat} {s:Int} (R:∀ k,k < n→suR left right L k (dr W k) = true) (F:Fol n W L row bk) (h0:row[0]? = some s) (ht:(lbAt L s).1 = true):untilB left right row = true:=by
 cases hu:untilB left right row with
 | true=>rfl
 | false =>
  exfalso
  have look:∀ x,0 ≤ x→x < (n:Int)→(lbAt L x).1 = true→right.getD x.toNat false = false→∃ m d,(lbAt L x).2.1 = some m∧(lbAt L x).2.2 = some d∧left.getD x.toNat false = true∧(lbAt L d).1 = true∧(lbAt L d).2.1 = some (m - 1):=fun x a b t r=>by
   have q:=R x.toNat (by omega)
   unfold suR at q
   unfold lbAt at t
   rcases e:L.getD x.toNat default with ⟨u,m,d⟩
   rw [e] at t q
   have t:u = true:=t
   subst t
   cases m with
   | none=>cases d <;> simp at q
   | some m =>
    cases d with
    | none=>simp only [r,Bool.and_false,Bool.false_eq_true] at q
    | some d =>
     simp only at q
     split at q
     ·cases q
     ·rename_i z
      simp only [Bool.or_eq_true,not_or,Bool.not_eq_true,Bool.not_eq_false'] at z
      rw [Bool.and_eq_true,decide_eq_true_eq] at q
      refine ⟨m,d,?_,?_,z.2,q.1,q.2⟩
      ·unfold lbAt; rw [e]
      ·unfold lbAt; rw [e]
  obtain ⟨N0,hN⟩:∃ N0,(lbAt L s).2.1 = some N0:=by
   obtain ⟨a,b⟩:=F.inn s (List.mem_of_getElem? h0)
   obtain ⟨m,_,e,_⟩:=look s a b ht (until_false hu 0 s h0 fun j _ hj=>by omega)
   exact ⟨m,e⟩
  have main:∀ (i:Nat),∀ j x,j < i→row[j]? = some x→(lbAt L x).1 = true∧(lbAt L x).2.1 = some (N0 - (j:Int))∧left.getD x.toNat false = true∧(lbAt L (stp W L x)).1 = true∧(lbAt L (stp W L x)).2.1 = some (N0 - (j:Int) - 1):=by
   intro i
   induction i with
   | zero=>intro j x hj; omega
   | succ i ih =>
    intro j x hj hx
    by_cases hji:j < i
    ·exact ih j x hji hx
    ·have ej:j = i:=by omega
     subst ej
     obtain ⟨a,b⟩:=F.inn x (List.mem_of_getElem? hx)
     have tn:(lbAt L x).1 = true∧(lbAt L x).2.1 = some (N0 - (j:Int)):=by
      cases j with
      | zero=>rw [h0] at hx; cases hx; exact ⟨ht,by rw [hN]; simp⟩
      | succ j =>
       have hj':j < row.length:=by have:=(List.getElem?_eq_some_iff.mp hx).1; omega
       have e:=List.getElem?_eq_getElem hj'
       obtain ⟨_,_,_,q1,q2⟩:=ih j _ (by omega) e
       rw [F.go j _ x e hx]
       exact ⟨q1,by rw [q2]; congr 1; omega⟩
     obtain ⟨m,d,e1,e2,e3,e4,e5⟩:=look x a b tn.1 (until_false hu j x hx fun j' y hj' hy=>(ih j' y hj' hy).2.2.1)
     rw [tn.2] at e1
     cases e1
     have es:stp W L x = d:=by unfold stp; rw [e2]
     rw [es]
     exact ⟨tn.1,tn.2,e3,e4,e5⟩
  obtain ⟨x,hx,hb⟩:=F.cl
  have lb:=F.bk_lt
  obtain ⟨_,_,_,_,q2⟩:=main row.length (row.length - 1) x (by omega) hx
  obtain ⟨_,q3,_⟩:=main row.length bk _ lb hb
  rw [q2] at q3
  have:=Option.some.inj q3
  omega
theorem au_fol {n:Nat} {W:World2} {left right:List Bool} {L:List Lb} {bk:Nat} (R:∀ k,k < n→auR left right L k (dr W k) = true):∀ {row:List Int} {s:Int},(∀ x ∈ row,0 ≤ x∧x < (n:Int))→(∀ (i:Nat) (x y:Int),row[i]? = some x→row[i + 1]? = some y→y = stp W L x)→row[0]? = some s→(lbAt L s).1 = false→untilB left right row = false
 | [],s,_,_,h0,_=>by simp at h0
 | k :: rs,s,inn,go,h0,ht=>by
  have h0:some k = some s:=h0
  cases h0
  obtain ⟨a,b⟩:=inn k List.mem_cons_self
  have q:=R k.toNat (by omega)
  unfold auR at q
  rcases e:L.getD k.toNat default with ⟨u,m,d⟩
  have ht':u = false:=by unfold lbAt at ht; rw [e] at ht; exact ht
  subst ht'
  rw [e] at q
  unfold untilB
  cases m with
  | some m=>cases d <;> simp at q
  | none =>
   cases hr:right.getD k.toNat false with
   | true=>cases d <;> (simp only [hr,if_true] at q; cases q)
   | false =>
    rw [if_neg Bool.false_ne_true]
    cases d with
    | none =>
     simp only [hr,Bool.false_eq_true,if_false] at q
     have hl:left.getD k.toNat false = false:=by simpa using q
     rw [hl,if_neg Bool.false_ne_true]
    | some d =>
     simp only [hr,Bool.false_eq_true,if_false,Bool.and_eq_true,Bool.not_eq_true'] at q
     rw [q.1,if_pos rfl]
     cases rs with
     | nil=>rfl
     | cons y r =>
      have ey:y = d:=by
       have:=go 0 k y rfl rfl
       rw [this]
       unfold stp lbAt
       rw [e]
      exact au_fol (bk:=bk) R (fun x hx=>inn x (List.mem_cons_of_mem _ hx)) (fun i x y h1 h2=>go (i + 1) x y (by simpa using h1) (by simpa using h2)) rfl (by rw [ey]; exact q.2)
theorem drop_has {r0:List Bool} {row:List Int} {bk:Nat} {b:Bool}:((trOf r0 row).drop bk).contains b = true ↔ ∃ (j:Nat) (x:Int),row[bk + j]? = some x∧r0.getD x.toNat false = b:=by
 rw [List.contains_iff_mem,List.mem_iff_getElem?]
 constructor
 ·rintro ⟨j,h⟩
  rw [List.getElem?_drop] at h
  unfold trOf at h
  rw [List.getElem?_map] at h
  cases e:row[bk + j]? with
  | none=>rw [e] at h; cases h
  | some x=>rw [e] at h; exact ⟨j,x,e,Option.some.inj h⟩
 ·rintro ⟨j,x,h,q⟩
  refine ⟨j,?_⟩
  rw [List.getElem?_drop]
  unfold trOf
  rw [List.getElem?_map,h]
  exact congrArg some q
theorem sa_fol {n:Nat} {W:World2} {here:List Bool} {L:List Lb} {row:List Int} {bk:Nat} {s:Int} (R:∀ k,k < n→saR here L k (dr W k) = true) (F:Fol n W L row bk) (h0:row[0]? = some s) (ht:(lbAt L s).1 = true):((trOf here row).drop bk).contains true = true:=by
 have look:∀ x,0 ≤ x→x < (n:Int)→(lbAt L x).1 = true→∃ m,(lbAt L x).2.1 = some m∧(lbAt L (stp W L x)).1 = true∧(here.getD x.toNat false = true ∨ (lbAt L (stp W L x)).2.1 = some (m - 1)):=fun x a b t=>by
  have q:=R x.toNat (by omega)
  unfold saR at q
  rcases e:L.getD x.toNat default with ⟨u,m,d⟩
  have t:u = true:=by unfold lbAt at t; rw [e] at t; exact t
  subst t
  rw [e] at q
  cases m with
  | none=>cases d <;> simp at q
  | some m =>
   cases d with
   | none=>simp at q
   | some d =>
    have es:stp W L x = d:=by unfold stp lbAt; rw [e]
    simp only at q
    refine ⟨m,by unfold lbAt; rw [e],?_⟩
    rw [es]
    cases hd:(lbAt L d).1 with
    | false=>rw [hd] at q; simp at q
    | true =>
     rw [hd] at q
     simp only [Bool.not_true,Bool.false_eq_true,if_false] at q
     refine ⟨rfl,?_⟩
     split at q
     ·exact .inl q
     ·exact .inr (of_decide_eq_true q)
 have tr:∀ (i:Nat) (x:Int),row[i]? = some x→(lbAt L x).1 = true:=F.all (P:=fun x=>(lbAt L x).1 = true) h0 ht fun x a b t=>let ⟨_,_,q,_⟩:=look x a b t; q
 rw [drop_has]
 refine Classical.byContradiction fun no=>?_
 have no':∀ (j:Nat) (x:Int),row[bk + j]? = some x→here.getD x.toNat false = false:=fun j x h=>by
  cases e:here.getD x.toNat false with
  | false=>rfl
  | true=>exact absurd ⟨j,x,h,e⟩ no
 have lb:=F.bk_lt
 have eb:=List.getElem?_eq_getElem lb
 obtain ⟨a,b⟩:=F.inn _ (List.mem_of_getElem? eb)
 obtain ⟨m,em,_⟩:=look _ a b (tr _ _ eb)
 have nums:∀ (j:Nat) (x:Int),row[bk + j]? = some x→(lbAt L x).2.1 = some (m - (j:Int)):=by
  have z:=F.ind (P:=fun i x=>(lbAt L x).2.1 = some (m - ((i - bk:Nat):Int))) (b:=bk) (fun x h=>by rw [eb] at h; cases h; rw [em]; simp) (fun i x hi h p=>by
   obtain ⟨a,b⟩:=F.inn x (List.mem_of_getElem? h)
   obtain ⟨m2,e2,_,q⟩:=look x a b (tr _ _ h)
   rw [p] at e2
   cases e2
   have hf:=no' (i - bk) x (by rw [show bk + (i - bk) = i by omega]; exact h)
   rcases q with q | q
   ·rw [hf] at q; cases q
   ·rw [q]; congr 1; omega)
  intro j x h
  rw [z j x h]
  congr 1
  omega
 obtain ⟨x,hx,hb⟩:=F.cl
 obtain ⟨a,b⟩:=F.inn x (List.mem_of_getElem? hx)
 have ex:row[bk + (row.length - 1 - bk)]? = some x:=by rw [show bk + (row.length - 1 - bk) = row.length - 1 by omega]; exact hx
 obtain ⟨m2,e2,_,q⟩:=look x a b (tr _ _ hx)
 rw [nums _ x ex] at e2
 cases e2
 rcases q with q | q
 ·rw [no' _ x ex] at q; cases q
 ·rw [eb] at hb
  have hb:=Option.some.inj hb
  rw [← hb,em] at q
  have:=Option.some.inj q
  omega
theorem aa_fol {n:Nat} {W:World2} {here:List Bool} {L:List Lb} {row:List Int} {bk:Nat} {s:Int} (R:∀ k,k < n→aaR here L k (dr W k) = true) (nm:∀ k,k < n→numOk (L.getD k default).2.1 = true) (F:Fol n W L row bk) (h0:row[0]? = some s) (ht:(lbAt L s).1 = false):((trOf here row).drop bk).contains true = false:=by
 have look:∀ x,0 ≤ x→x < (n:Int)→(lbAt L x).1 = false→∃ m,(lbAt L x).2.1 = some m∧0 ≤ m∧(lbAt L (stp W L x)).1 = false∧((m = 0∧here.getD x.toNat false = false∧(lbAt L (stp W L x)).2.1 = some 0) ∨ (m ≠ 0∧(lbAt L (stp W L x)).2.1 = some (m - 1))):=fun x a b t=>by
  have q:=R x.toNat (by omega)
  have g:=nm x.toNat (by omega)
  unfold aaR at q
  rcases e:L.getD x.toNat default with ⟨u,m,d⟩
  have t:u = false:=by unfold lbAt at t; rw [e] at t; exact t
  subst t
  rw [e] at q g
  cases m with
  | none=>cases d <;> simp at q
  | some m =>
   have g:decide (0 ≤ m) = true:=g
   cases d with
   | none=>simp at q
   | some d =>
    have es:stp W L x = d:=by unfold stp lbAt; rw [e]
    simp only at q
    refine ⟨m,by unfold lbAt; rw [e],of_decide_eq_true g,?_⟩
    rw [es]
    cases hd:(lbAt L d).1 with
    | true=>rw [hd] at q; simp at q
    | false =>
     rw [hd] at q
     simp only [Bool.false_eq_true,if_false] at q
     refine ⟨rfl,?_⟩
     split at q
     ·rename_i z
      rw [Bool.and_eq_true,Bool.not_eq_true',decide_eq_true_eq] at q
      exact .inl ⟨of_decide_eq_true z,q.1,q.2⟩
     ·rename_i z
      exact .inr ⟨fun y=>z (decide_eq_true y),of_decide_eq_true q⟩
 have tr:∀ (i:Nat) (x:Int),row[i]? = some x→(lbAt L x).1 = false:=F.all (P:=fun x=>(lbAt L x).1 = false) h0 ht fun x a b t=>let ⟨_,_,_,q,_⟩:=look x a b t; q
 have lb:=F.bk_lt
 have eb:=List.getElem?_eq_getElem lb
 obtain ⟨a,b⟩:=F.inn _ (List.mem_of_getElem? eb)
 obtain ⟨m,em,m0,_⟩:=look _ a b (tr _ _ eb)
 have nums:∀ (j:Nat) (x:Int),row[bk + j]? = some x→(lbAt L x).2.1 = some (max (m - (j:Int)) 0):=by
  have z:=F.ind (P:=fun i x=>(lbAt L x).2.1 = some (max (m - ((i - bk:Nat):Int)) 0)) (b:=bk) (fun x h=>by rw [eb] at h; cases h; rw [em]; congr 1; omega) (fun i x hi h p=>by
   obtain ⟨a,b⟩:=F.inn x (List.mem_of_getElem? h)
   obtain ⟨m2,e2,_,_,q⟩:=look x a b (tr _ _ h)
   rw [p] at e2
   have e2:=Option.some.inj e2
   rcases q with ⟨q1,_,q⟩ | ⟨q1,q⟩
   ·rw [q]; congr 1; omega
   ·rw [q]; congr 1; omega)
  intro j x h
  rw [z j x h]
  congr 1
  omega
 obtain ⟨x,hx,hb⟩:=F.cl
 obtain ⟨a,b⟩:=F.inn x (List.mem_of_getElem? hx)
 have ex:row[bk + (row.length - 1 - bk)]? = some x:=by rw [show bk + (row.length - 1 - bk) = row.length - 1 by omega]; exact hx
 obtain ⟨m2,e2,_,_,q⟩:=look x a b (tr _ _ hx)
 rw [nums _ x ex] at e2
 have e2:=Option.some.inj e2
 rw [eb] at hb
 have hb:=Option.some.inj hb
 rw [← hb,em] at q
 have mz:m = 0:=by
  rcases q with ⟨_,_,q⟩ | ⟨_,q⟩
  ·exact Option.some.inj q
  ·have:=Option.some.inj q; omega
 cases hc:((trOf here row).drop bk).contains true with
 | false=>rfl
 | true =>
  obtain ⟨j,y,hy,hh⟩:=drop_has.mp hc
  obtain ⟨a,b⟩:=F.inn y (List.mem_of_getElem? hy)
  obtain ⟨m3,e3,_,_,q⟩:=look y a b (tr _ _ hy)
  rw [nums j y hy] at e3
  have e3:=Option.some.inj e3
  rcases q with ⟨_,q,_⟩ | ⟨q,_⟩
  ·rw [hh] at q; cases q
  ·omega
theorem nx_fol {n:Nat} {W:World2} {want:Bool} {r:List Bool} {L:List Lb} {row:List Int} {bk:Nat} {s:Int} (R:∀ k,k < n→nxR want r L k (dr W k) = true) (F:Fol n W L row bk) (h0:row[0]? = some s) (ht:(lbAt L s).1 = want):(trOf r row ++ (trOf r row).drop bk).getD 1 false = want:=by
 obtain ⟨a,b⟩:=F.inn s (List.mem_of_getElem? h0)
 have q:=R s.toNat (by omega)
 unfold nxR at q
 rcases e:L.getD s.toNat default with ⟨u,m,d⟩
 have t:u = want:=by unfold lbAt at ht; rw [e] at ht; exact ht
 subst t
 rw [e] at q
 cases m with
 | some m=>simp at q
 | none =>
  cases d with
  | none=>simp at q
  | some d =>
   simp only [decide_true,if_true] at q
   have q:=of_decide_eq_true q
   have es:stp W L s = d:=by unfold stp lbAt; rw [e]
   have lb:=F.bk_lt
   have lt:(trOf r row).length = row.length:=by unfold trOf; rw [List.length_map]
   by_cases h1:1 < row.length
   ·have e1:=List.getElem?_eq_getElem h1
    have y:=F.go 0 s _ h0 e1
    rw [List.getD,List.getElem?_append_left (by omega)]
    unfold trOf
    rw [List.getElem?_map,e1,y,es]
    exact q
   ·have l1:row.length = 1:=by omega
    have b0:bk = 0:=by omega
    obtain ⟨x,hx,hb⟩:=F.cl
    rw [l1] at hx
    have hx:row[0]? = some x:=hx
    rw [h0] at hx; cases hx
    rw [b0,h0] at hb
    have hb:=Option.some.inj hb
    rw [es] at hb
    rw [List.getD,List.getElem?_append_right (by omega),b0,List.drop_zero]
    rw [lt,l1]
    unfold trOf
    rw [List.getElem?_map,h0,hb]
    exact q
theorem stp_turn {n:Nat} {W:World2} {L:List Lb} (hL:L.length = n) {x:Int} (h0:0 ≤ x) (h1:x < (n:Int)):stp W (L.map turn) x = stp W L x:=by
 unfold stp
 rw [lbAt_turn hL h0 h1]
 rfl
theorem Fol.turned {n:Nat} {W:World2} {L:List Lb} {row:List Int} {bk:Nat} (hL:L.length = n) (F:Fol n W L row bk):Fol n W (L.map turn) row bk:=by
 have st:∀ x ∈ row,stp W (L.map turn) x = stp W L x:=fun x hx=>stp_turn hL (F.inn x hx).1 (F.inn x hx).2
 refine ⟨F.inn,fun i x y h1 h2=>?_,?_⟩
 ·rw [st x (List.mem_of_getElem? h1)]; exact F.go i x y h1 h2
 ·obtain ⟨x,hx,hb⟩:=F.cl
  exact ⟨x,hx,by rw [st x (List.mem_of_getElem? hx)]; exact hb⟩
theorem wa_fol {n:Nat} {so wh:Str} {rows:List (List Bool)} {L:List Lb} {W:World2} {row:List Int} {bk:Nat} {s:Int} (hL:L.length = n) (hrow:(row0 rows).length = n) (hso:sixB so) (ok:∀ k,k < n→lbOk (L.getD k default) (dr W k) = true) (R:∀ k,k < n→waR so wh rows L k (dr W k) = true)
  (F:Fol n W L row bk) (h0:row[0]? = some s) (ht:(lbAt L s).1 = decide (wh = "some")):onW so rows row bk = decide (wh = "some"):=by
 obtain ⟨s0,s1⟩:=F.inn s (List.mem_of_getElem? h0)
 have G:=F.turned hL
 have et:(lbAt (L.map turn) s).1 = !(lbAt L s).1:=by rw [lbAt_turn hL s0 s1]; rfl
 have nm:∀ k,k < n→numOk (L.getD k default).2.1 = true:=fun k hk=>(Bool.and_eq_true_iff.mp (ok k hk)).1
 have nt:∀ k,k < n→numOk ((L.map turn).getD k default).2.1 = true:=fun k hk=>by rw [turn_getD (by omega)]; exact nm k hk
 have m1:¬ ("all":Str) = "some":=by decide +kernel
 have au:∀ {l r:List Bool} {M:List Lb},(∀ k,k < n→auR l r M k (dr W k) = true)→Fol n W M row bk→(lbAt M s).1 = false→untilB l r row = false:=fun {l r M} R F t=>au_fol (bk:=bk) R F.inn F.go h0 t
 have n1:¬ ("until":Str) = "next":=by decide +kernel
 have n2:¬ ("last":Str) = "next":=by decide +kernel
 have n3:¬ ("last":Str) = "until":=by decide +kernel
 have n4:¬ ("always":Str) = "next":=by decide +kernel
 have n5:¬ ("always":Str) = "until":=by decide +kernel
 have n6:¬ ("always":Str) = "last":=by decide +kernel
 have n7:¬ ("again":Str) = "next":=by decide +kernel
 have n8:¬ ("again":Str) = "until":=by decide +kernel
 have n9:¬ ("again":Str) = "last":=by decide +kernel
 have n10:¬ ("again":Str) = "always":=by decide +kernel
 have n11:¬ ("settle":Str) = "next":=by decide +kernel
 have n12:¬ ("settle":Str) = "until":=by decide +kernel
 have n13:¬ ("settle":Str) = "last":=by decide +kernel
 have n14:¬ ("settle":Str) = "always":=by decide +kernel
 have n15:¬ ("settle":Str) = "again":=by decide +kernel
 unfold waR at R
 unfold onW
 show (if so = "next" then (trOf (row0 rows) row ++ (trOf (row0 rows) row).drop bk).getD 1 false else if so = "until" then untilB (row0 rows) (row1 rows) row else if so = "last" then (trOf (row0 rows) row).contains true else if so = "always" then !(trOf (row0 rows) row).contains false
  else if so = "again" then ((trOf (row0 rows) row).drop bk).contains true else !((trOf (row0 rows) row).drop bk).contains false) = decide (wh = "some")
 rcases hso with rfl | rfl | rfl | rfl | rfl | rfl
 ·simp only [if_pos rfl] at R ⊢
  exact nx_fol R F h0 ht
 ·simp only [if_neg n1,if_pos rfl,unR] at R ⊢
  by_cases e:wh = "some"
  ·rw [decide_eq_true e] at ht ⊢
   simp only [if_pos e] at R
   exact su_fol R F h0 ht
  ·rw [decide_eq_false e] at ht ⊢
   simp only [if_neg e] at R
   exact au R F ht
 ·simp only [if_neg n2,if_neg n3,if_pos rfl,unR] at R ⊢
  rw [← until_every F.inn,← hL]
  by_cases e:wh = "some"
  ·rw [decide_eq_true e] at ht ⊢
   simp only [if_pos e] at R
   exact su_fol R F h0 ht
  ·rw [decide_eq_false e] at ht ⊢
   simp only [if_neg e] at R
   exact au R F ht
 ·simp only [if_neg n4,if_neg n5,if_neg n6,if_pos rfl,unR,mate] at R ⊢
  rw [← has_not,← tr_not hrow F.inn,← until_every F.inn,← hL]
  by_cases e:wh = "some"
  ·rw [decide_eq_true e] at ht ⊢
   simp only [if_pos e,if_neg m1] at R
   rw [ht] at et
   rw [au R G et]
   rfl
  ·rw [decide_eq_false e] at ht ⊢
   simp only [if_neg e,if_pos rfl] at R
   rw [ht] at et
   rw [su_fol R G h0 et]
   rfl
 ·simp only [if_neg n7,if_neg n8,if_neg n9,if_neg n10,if_pos rfl,agR] at R ⊢
  by_cases e:wh = "some"
  ·rw [decide_eq_true e] at ht ⊢
   simp only [if_pos e] at R
   exact sa_fol R F h0 ht
  ·rw [decide_eq_false e] at ht ⊢
   simp only [if_neg e] at R
   exact aa_fol R nm F h0 ht
 ·simp only [if_neg n11,if_neg n12,if_neg n13,if_neg n14,if_neg n15,agR,mate] at R ⊢
  rw [← has_not,List.map_drop,← tr_not hrow F.inn]
  by_cases e:wh = "some"
  ·rw [decide_eq_true e] at ht ⊢
   simp only [if_pos e,if_neg m1] at R
   rw [ht] at et
   rw [aa_fol R nt G h0 et]
   rfl
  ·rw [decide_eq_false e] at ht ⊢
   simp only [if_neg e,if_pos rfl] at R
   rw [ht] at et
   rw [sa_fol R G h0 et]
   rfl
end Ws
namespace Ws
open PySem L2
structure Xc (K:PySem.W.Frag) (mg:Str→Option Value) (x:Str) (C:Addr):Prop where
 mg:mg x = some (.ref C)
 ex:PySem.W.excIn K C bmV "ValueError.__new__" = true
structure XmOk (K:PySem.W.Frag) (cS cW:Addr):Prop where
 ww:PySem.W.exmOne K (.ref cW) (.ref cW) = some true
 sw:PySem.W.exmOne K (.ref cS) (.ref cW) = some false
 ss:PySem.W.exmOne K (.ref cS) (.ref cS) = some true
section
variable {X:Cx}
theorem pe_ce {x:Str} {ps:List Str} {f:Addr} {fd:FuncData} {sp:Sp} {j k:Nat} {E:XK} {e:Expr} {es:List Expr} {t:TA} {p pos:Pos} (F:FnOk X.prog X.w X.K X.mg X.base (CXe X.prog X.w) j f fd ps sp) (M:MG X.K X.mg x ps f fd) (hr:Room k X.A) (hg:Gl X x) (hx:Passes (CXe X.prog X.w) X E) (ha:PA X (e :: es) t) (hjk:j ≤ k:=by decide)
  (hdb:(x == ("__debug__":Str)) = false:=by decide) (he:starEach (e :: es) X.env = (false,eval e X.env) :: starEach es X.env:=by rfl) (hpl:(backTo pos (starEach es X.env)).any (·.1) = false:=by rfl) :
  PE X (.Call (.Name x p) (e :: es) [] pos) (tCall sp [] E t):=pe_call F (hr.mono hjk) hg M.m M.k M.b .nil hx ha hdb he hpl
end
theorem stand_kids {n b:Nat} {W:World2} (hW:Valid n b W):∀ {t:T} {Ls:List (List Lb)},t.fit→Stand W t Ls→∃ A L,Ls = A ++ [L]∧LbsOk W t (t.kids.map (trW W)) L∧truths L = trW W t:=fun {t Ls} f h=>by
 obtain ⟨A,L,ks,e,_⟩:=stand_last h
 subst e
 have q:=stand_truth hW f h
 refine ⟨A,L,rfl,?_,q⟩
 match t,f,h with
 | .mark i,f,hst =>
  obtain ⟨L',e,h⟩:=hst
  have e:A ++ [L] = [] ++ [L']:=e
  obtain ⟨_,e2⟩:=List.append_inj' e rfl
  cases e2
  exact h
 | .un w t,f,hst =>
  obtain ⟨A',LA,L',e,h1,h⟩:=hst
  obtain ⟨_,e2⟩:=List.append_inj' e rfl
  cases e2
  rw [stand_truth hW f.2 h1] at h
  exact h
 | .bin w t u,f,hst =>
  obtain ⟨A',LA,B',LB,L',e,h1,h2,h⟩:=hst
  rw [← List.append_assoc] at e
  obtain ⟨_,e2⟩:=List.append_inj' e rfl
  cases e2
  rw [stand_truth hW f.2.1 h1,stand_truth hW f.2.2 h2] at h
  exact h
theorem kid_fit:∀ {t k:T},t.fit→k ∈ t.kids→k.fit
 | .mark _,_,_,h=>nomatch h
 | .un _ t,k,f,h=>by rw [List.mem_singleton.mp h]; exact f.2
 | .bin _ t u,k,f,h=>by
  rcases List.mem_cons.mp h with h | h
  ·rw [h]; exact f.2.1
  ·rw [List.mem_singleton.mp h]; exact f.2.2
theorem Fol.path {n b:Nat} {W:World2} {L:List Lb} {row:List Int} {bk:Nat} (hW:Valid n b W) (ok:∀ x,0 ≤ x→x < (n:Int)→stp W L x ∈ dr W x.toNat) (F:Fol n W L row bk):Path n W row∧∃ x y st,row[row.length - 1]? = some x∧row[bk]? = some y∧W[x.toNat]? = some st∧y ∈ st.2:=by
 have at_:∀ x,0 ≤ x→x < (n:Int)→∃ st,W[x.toNat]? = some st∧dr W x.toNat = st.2:=fun x a b=>by
  have hi:x.toNat < W.length:=by have:=hW.len; omega
  exact ⟨W[x.toNat],List.getElem?_eq_getElem hi,by unfold dr; rw [getD_eq hi]⟩
 refine ⟨⟨F.inn,fun i x y hx hy=>?_⟩,?_⟩
 ·obtain ⟨a,b⟩:=F.inn x (List.mem_of_getElem? hx)
  obtain ⟨st,e1,e2⟩:=at_ x a b
  rw [F.go i x y hx hy]
  exact ⟨st,e1,e2 ▸ ok x a b⟩
 ·obtain ⟨x,hx,hb⟩:=F.cl
  obtain ⟨a,b⟩:=F.inn x (List.mem_of_getElem? hx)
  obtain ⟨st,e1,e2⟩:=at_ x a b
  exact ⟨x,_,st,hx,hb,e1,e2 ▸ ok x a b⟩
def trGo2 (W:World2):List T→List (List Bool)→List (List Bool)→List (List Bool) × List (List Bool)
 | [],p,r=>(p,r)
 | t :: ts,p,_=>trGo2 W ts (p.take (p.length - t.kids.length) ++ [trT W t (p.drop (p.length - t.kids.length))]) (p.drop (p.length - t.kids.length))
theorem tr2_parts {W:World2}:∀ (t:T) (ts:List T) (p r:List (List Bool)),trGo2 W (t.parts ++ ts) p r = trGo2 W ts (p ++ [trW W t]) (t.kids.map (trW W))
 | .mark i,ts,p,r=>by
  show trGo2 W ts (p.take (p.length - 0) ++ [trT W (.mark i) (p.drop (p.length - 0))]) (p.drop (p.length - 0)) = _
  rw [Nat.sub_zero,List.take_length,List.drop_length]
  rfl
 | .un w t,ts,p,r=>by
  show trGo2 W ((t.parts ++ [.un w t]) ++ ts) p r = _
  rw [List.append_assoc,tr2_parts t]
  show trGo2 W ts ((p ++ [trW W t]).take ((p ++ [trW W t]).length - 1) ++ [trT W (.un w t) ((p ++ [trW W t]).drop ((p ++ [trW W t]).length - 1))]) ((p ++ [trW W t]).drop ((p ++ [trW W t]).length - 1)) = _
  have e:(p ++ [trW W t]).length - 1 = p.length:=by rw [List.length_append]; rfl
  rw [e,List.take_left,List.drop_left]
  rfl
 | .bin w t u,ts,p,r=>by
  show trGo2 W ((t.parts ++ u.parts ++ [.bin w t u]) ++ ts) p r = _
  rw [List.append_assoc,List.append_assoc,tr2_parts t,tr2_parts u]
  show trGo2 W ts ((p ++ [trW W t] ++ [trW W u]).take ((p ++ [trW W t] ++ [trW W u]).length - 2) ++ [trT W (.bin w t u) ((p ++ [trW W t] ++ [trW W u]).drop ((p ++ [trW W t] ++ [trW W u]).length - 2))]) ((p ++ [trW W t] ++ [trW W u]).drop ((p ++ [trW W t] ++ [trW W u]).length - 2)) = _
  have e:(p ++ [trW W t] ++ [trW W u]).length - 2 = p.length:=by rw [List.append_assoc,List.length_append]; rfl
  rw [e,List.append_assoc,List.take_left,List.drop_left]
  rfl
theorem tr2_step {W:World2} {ts:List T} {i:Nat} (h:i < ts.length) (p r:List (List Bool)):trGo2 W (ts.drop i) p r = trGo2 W (ts.drop (i + 1)) (p.take (p.length - ts[i].kids.length) ++ [trT W ts[i] (p.drop (p.length - ts[i].kids.length))]) (p.drop (p.length - ts[i].kids.length)):=by
 rw [List.drop_eq_getElem_cons h]
 rfl
end Ws
namespace L2
open PySem PySem.Spec PyProof.Rows
section
variable {X:Cx}
theorem call_rng:CallR X (.type "range") (fun xs H Q=>∃ j:Int,xs = [.int j]∧∀ r,H r = none→Q (.ref r) (upd H r (.rng 0 j))):=by
 intro pins s σ H xs us Q I rs h
 obtain ⟨j,rfl,q⟩:=h
 obtain ⟨u,rfl,t,rfl⟩:=vals1 rs
 refine call_range_1 ⟨.ref s.heap.objs.size,upd H s.heap.objs.size (.rng 0 j),I.laid (fun b o e=>Heap.get?_push_of_some _ e) (Nat.le_refl _) ?_,rfl,q _ (I.hok.fresh (Nat.le_refl _))⟩
 exact ⟨_,_,_,Heap.get?_push_size _ rfl⟩
theorem vals_items {a:Int}:∀ (its:List Value) (b:Nat),(∀ (j:Nat) (v:Value),its[j]? = some v→∃ t,v = Value.int (a + ((b + j:Nat):Int) * 1) t)→Vals ((List.range' b its.length).map fun i=>V.int (a + ((i:Nat):Int))) its
 | [],_,_=>.nil
 | v :: r,b,h=>by
  refine .cons ?_ (vals_items r (b + 1) fun j v hv=>?_)
  ·obtain ⟨t,e⟩:=h 0 v rfl
   exact ⟨t,by rw [e]; simp⟩
  ·obtain ⟨t,e⟩:=h (j + 1) v (by simpa using hv)
   exact ⟨t,by rw [e]; congr 3; omega⟩
theorem call_list_rng (hc:X.calm = true):CallR X (.type "list") (fun xs H Q=>∃ (p:Addr) (n:Nat),xs = [.ref p]∧H p = some (.rng 0 (n:Int))∧n ≤ 1000∧∀ l,H l = none→Q (.ref l) (upd H l (.lst ((List.range n).map fun i=>V.int ((i:Nat):Int))))):=by
 intro pins s σ H xs us Q I rs h
 obtain ⟨p,n,rfl,hp,hn,q⟩:=h
 obtain ⟨u,rfl,rx⟩:=vals1 rs
 cases rx
 obtain ⟨t,u,v,e⟩:=I.hok p _ hp
 have sm:Builtin.Range.small 0 (n:Int) 1 = true:=small_one (by decide) (by decide) (by omega) (by omega)
 have sz:Builtin.Range.rangeSize 0 (n:Int) 1 = n:=by rw [rangeSize_one]; split <;> omega
 refine call_list_range (n:=n) (I.ok.hd hc) e sm sz (by omega) fun h' tk acc c' kp e' it=>?_
 have key:=vals_items (a:=0) acc.toList 0 fun j v hv=>by
  obtain ⟨t,z⟩:=it.2 j v (by rw [Array.getElem?_toList] at hv; exact hv)
  exact ⟨t,by rw [z,Nat.zero_add]⟩
 have la:acc.toList.length = n:=by rw [Array.length_toList]; exact it.1
 rw [la,← List.range_eq_range'] at key
 have key:Vals ((List.range n).map fun i=>V.int ((i:Nat):Int)) acc.toList:=by
  have ef:(fun i:Nat=>V.int (0 + (i:Int))) = fun i:Nat=>V.int (i:Int):=by funext i; rw [Int.zero_add]
  rw [ef] at key
  exact key
 refine ⟨.ref s.heap.objs.size,_,I.laid (t':=tk) kp (Nat.le_refl _) (show ObjOk X.prog X.w _ h' _ (.lst ((List.range n).map fun i=>V.int ((i:Nat):Int))) from ⟨?_,acc.toList,c',key,e'⟩),rfl,q _ (I.hok.fresh (Nat.le_refl _))⟩
 rw [List.length_map,List.length_range]
 exact Nat.le_trans hn (by decide)
end
end L2
namespace Ws
open PySem L2
def top (i:Nat):Stmt:=PySem.Challenge.pw_waysaid_k07_whole_ways_that_show.main.body.getD i (.Pass ⟨0,0,0,0⟩)
abbrev sd_is_about_ways:Stmt:=top 6
theorem sc_is_about_ways:FnScope ["sentence"] ["sentence"] (defScope sd_is_about_ways):=⟨rfl,rfl,rfl,by decide +kernel,rfl,by decide +kernel,by decide +kernel⟩
abbrev sd_own_parts:Stmt:=top 7
theorem sc_own_parts:FnScope ["sentence"] ["sentence"] (defScope sd_own_parts):=⟨rfl,rfl,rfl,by decide +kernel,rfl,by decide +kernel,by decide +kernel⟩
abbrev sd_parts_of:Stmt:=top 8
theorem sc_parts_of:FnScope ["sentence","waiting","found","part"] ["sentence"] (defScope sd_parts_of):=⟨rfl,rfl,rfl,by decide +kernel,rfl,by decide +kernel,by decide +kernel⟩
abbrev sd_own_places:Stmt:=top 9
theorem sc_own_places:FnScope ["parts","told","waiting","place","part","rest"] ["parts"] (defScope sd_own_places):=⟨rfl,rfl,rfl,by decide +kernel,rfl,by decide +kernel,by decide +kernel⟩
abbrev sd_marks_of:Stmt:=top 11
theorem sc_marks_of:FnScope ["world","place"] ["world","place"] (defScope sd_marks_of):=⟨rfl,rfl,rfl,by decide +kernel,rfl,by decide +kernel,by decide +kernel⟩
abbrev sd_doors_of:Stmt:=top 12
theorem sc_doors_of:FnScope ["world","place"] ["world","place"] (defScope sd_doors_of):=⟨rfl,rfl,rfl,by decide +kernel,rfl,by decide +kernel,by decide +kernel⟩
abbrev sd_is_state:Stmt:=top 13
theorem sc_is_state:FnScope ["world","number"] ["world","number"] (defScope sd_is_state):=⟨rfl,rfl,rfl,by decide +kernel,rfl,by decide +kernel,by decide +kernel⟩
abbrev sd_check_world:Stmt:=top 14
theorem sc_check_world:FnScope ["world","place","door"] ["world"] (defScope sd_check_world):=⟨rfl,rfl,rfl,by decide +kernel,rfl,by decide +kernel,by decide +kernel⟩
abbrev sd_p_truths_of:Stmt:=top 16
theorem sc_p_truths_of:FnScope ["labels"] ["labels"] (defScope sd_p_truths_of):=⟨rfl,rfl,rfl,by decide +kernel,rfl,by decide +kernel,by decide +kernel⟩
theorem cs_p_truths_of_0:CompSc (defScope sd_p_truths_of) ["labels"] ["label"] [none] { kind:=.function,names:=[(Str.ofString ".0",.local),(Str.ofString "label",.local)],isGenerator:=false,isCoroutine:=false,more:=[] }:=⟨rfl,by decide +kernel,by decide +kernel,by decide +kernel,by decide +kernel,by decide +kernel⟩
abbrev sd_p_turned:Stmt:=top 17
theorem sc_p_turned:FnScope ["truths"] ["truths"] (defScope sd_p_turned):=⟨rfl,rfl,rfl,by decide +kernel,rfl,by decide +kernel,by decide +kernel⟩
theorem cs_p_turned_0:CompSc (defScope sd_p_turned) ["truths"] ["truth"] [none] { kind:=.function,names:=[(Str.ofString ".0",.local),(Str.ofString "truth",.local)],isGenerator:=false,isCoroutine:=false,more:=[] }:=⟨rfl,by decide +kernel,by decide +kernel,by decide +kernel,by decide +kernel,by decide +kernel⟩
abbrev sd_turned_labels:Stmt:=top 18
theorem sc_turned_labels:FnScope ["labels"] ["labels"] (defScope sd_turned_labels):=⟨rfl,rfl,rfl,by decide +kernel,rfl,by decide +kernel,by decide +kernel⟩
theorem cs_turned_labels_0:CompSc (defScope sd_turned_labels) ["labels"] ["truth","number","door"] [none,none,none] { kind:=.function,names:=[(Str.ofString ".0",.local),(Str.ofString "truth",.local),(Str.ofString "number",.local),(Str.ofString "door",.local)],isGenerator:=false,isCoroutine:=false,more:=[] }:=⟨rfl,by decide +kernel,by decide +kernel,by decide +kernel,by decide +kernel,by decide +kernel⟩
abbrev sd_everywhere:Stmt:=top 19
theorem sc_everywhere:FnScope ["world"] ["world"] (defScope sd_everywhere):=⟨rfl,rfl,rfl,by decide +kernel,rfl,by decide +kernel,by decide +kernel⟩
theorem cs_everywhere_0:CompSc (defScope sd_everywhere) ["world"] ["state"] [none] { kind:=.function,names:=[(Str.ofString ".0",.local),(Str.ofString "state",.local)],isGenerator:=false,isCoroutine:=false,more:=[] }:=⟨rfl,by decide +kernel,by decide +kernel,by decide +kernel,by decide +kernel,by decide +kernel⟩
abbrev sd_door_to:Stmt:=top 20
theorem sc_door_to:FnScope ["world","place","wanted","door"] ["world","place","wanted"] (defScope sd_door_to):=⟨rfl,rfl,rfl,by decide +kernel,rfl,by decide +kernel,by decide +kernel⟩
abbrev sd_some_next:Stmt:=top 21
theorem sc_some_next:FnScope ["world","here","doors"] ["world","here"] (defScope sd_some_next):=⟨rfl,rfl,rfl,by decide +kernel,rfl,by decide +kernel,by decide +kernel⟩
theorem cs_some_next_0:CompSc (defScope sd_some_next) ["world","here","doors"] ["place","here","world"] [none,some 1,some 0] { kind:=.function,names:=[(Str.ofString ".0",.local),(Str.ofString "place",.local),(Str.ofString "door_to",.globalImplicit),(Str.ofString "here",.free),(Str.ofString "world",.free)],isGenerator:=false,isCoroutine:=false,more:=[] }:=⟨rfl,by decide +kernel,by decide +kernel,by decide +kernel,by decide +kernel,by decide +kernel⟩
theorem cs_some_next_1:CompSc (defScope sd_some_next) ["world","here","doors"] ["door"] [none] { kind:=.function,names:=[(Str.ofString ".0",.local),(Str.ofString "door",.local)],isGenerator:=false,isCoroutine:=false,more:=[] }:=⟨rfl,by decide +kernel,by decide +kernel,by decide +kernel,by decide +kernel,by decide +kernel⟩
abbrev sd_all_next:Stmt:=top 22
theorem sc_all_next:FnScope ["world","here"] ["world","here"] (defScope sd_all_next):=⟨rfl,rfl,rfl,by decide +kernel,rfl,by decide +kernel,by decide +kernel⟩
abbrev sd_joined_label:Stmt:=top 23
theorem sc_joined_label:FnScope ["world","place","reached","number","who","door","closed"] ["world","place","reached","number","who"] (defScope sd_joined_label):=⟨rfl,rfl,rfl,by decide +kernel,rfl,by decide +kernel,by decide +kernel⟩
theorem cs_joined_label_0:CompSc (defScope sd_joined_label) ["world","place","reached","number","who","door","closed"] ["door","reached"] [none,some 2] { kind:=.function,names:=[(Str.ofString ".0",.local),(Str.ofString "door",.local),(Str.ofString "reached",.free)],isGenerator:=false,isCoroutine:=false,more:=[] }:=⟨rfl,by decide +kernel,by decide +kernel,by decide +kernel,by decide +kernel,by decide +kernel⟩
abbrev sd_grown_labels:Stmt:=top 24
theorem sc_grown_labels:FnScope ["world","left","right","who","labels","number","growing","reached","place"] ["world","left","right","who"] (defScope sd_grown_labels):=⟨rfl,rfl,rfl,by decide +kernel,rfl,by decide +kernel,by decide +kernel⟩
theorem cs_grown_labels_0:CompSc (defScope sd_grown_labels) ["world","left","right","who","labels","number","growing","reached","place"] ["truth"] [none] { kind:=.function,names:=[(Str.ofString ".0",.local),(Str.ofString "truth",.local)],isGenerator:=false,isCoroutine:=false,more:=[] }:=⟨rfl,by decide +kernel,by decide +kernel,by decide +kernel,by decide +kernel,by decide +kernel⟩
abbrev sd_with_false_doors:Stmt:=top 25
theorem sc_with_false_doors:FnScope ["world","left","labels","missed","told","place"] ["world","left","labels"] (defScope sd_with_false_doors):=⟨rfl,rfl,rfl,by decide +kernel,rfl,by decide +kernel,by decide +kernel⟩
abbrev sd_some_until:Stmt:=top 26
theorem sc_some_until:FnScope ["world","left","right"] ["world","left","right"] (defScope sd_some_until):=⟨rfl,rfl,rfl,by decide +kernel,rfl,by decide +kernel,by decide +kernel⟩
abbrev sd_all_until:Stmt:=top 27
theorem sc_all_until:FnScope ["world","left","right"] ["world","left","right"] (defScope sd_all_until):=⟨rfl,rfl,rfl,by decide +kernel,rfl,by decide +kernel,by decide +kernel⟩
abbrev sd_reaching:Stmt:=top 28
theorem sc_reaching:FnScope ["world","here","kept","goals"] ["world","here","kept"] (defScope sd_reaching):=⟨rfl,rfl,rfl,by decide +kernel,rfl,by decide +kernel,by decide +kernel⟩
theorem cs_reaching_0:CompSc (defScope sd_reaching) ["world","here","kept","goals"] ["place","here","kept","world"] [none,some 1,some 2,some 0] { kind:=.function,names:=[(Str.ofString ".0",.local),(Str.ofString "place",.local),(Str.ofString "door_to",.globalImplicit),(Str.ofString "here",.free),(Str.ofString "kept",.free),(Str.ofString "world",.free)],isGenerator:=false,isCoroutine:=false,more:=[] }:=⟨rfl,by decide +kernel,by decide +kernel,by decide +kernel,by decide +kernel,by decide +kernel⟩
abbrev sd_most_times:Stmt:=top 29
theorem sc_most_times:FnScope ["world","here","numbers","number","falling","kept","reached","place"] ["world","here"] (defScope sd_most_times):=⟨rfl,rfl,rfl,by decide +kernel,rfl,by decide +kernel,by decide +kernel⟩
theorem cs_most_times_0:CompSc (defScope sd_most_times) ["world","here","numbers","number","falling","kept","reached","place"] ["state"] [none] { kind:=.function,names:=[(Str.ofString ".0",.local),(Str.ofString "state",.local)],isGenerator:=false,isCoroutine:=false,more:=[] }:=⟨rfl,by decide +kernel,by decide +kernel,by decide +kernel,by decide +kernel,by decide +kernel⟩
theorem cs_most_times_1:CompSc (defScope sd_most_times) ["world","here","numbers","number","falling","kept","reached","place"] ["known"] [none] { kind:=.function,names:=[(Str.ofString ".0",.local),(Str.ofString "known",.local)],isGenerator:=false,isCoroutine:=false,more:=[] }:=⟨rfl,by decide +kernel,by decide +kernel,by decide +kernel,by decide +kernel,by decide +kernel⟩
abbrev sd_some_again:Stmt:=top 30
theorem sc_some_again:FnScope ["world","here","numbers","kept","labels","place"] ["world","here"] (defScope sd_some_again):=⟨rfl,rfl,rfl,by decide +kernel,rfl,by decide +kernel,by decide +kernel⟩
theorem cs_some_again_0:CompSc (defScope sd_some_again) ["world","here","numbers","kept","labels","place"] ["number"] [none] { kind:=.function,names:=[(Str.ofString ".0",.local),(Str.ofString "number",.local)],isGenerator:=false,isCoroutine:=false,more:=[] }:=⟨rfl,by decide +kernel,by decide +kernel,by decide +kernel,by decide +kernel,by decide +kernel⟩
abbrev sd_all_again:Stmt:=top 31
theorem sc_all_again:FnScope ["world","here","once","without","labels","place"] ["world","here"] (defScope sd_all_again):=⟨rfl,rfl,rfl,by decide +kernel,rfl,by decide +kernel,by decide +kernel⟩
abbrev sd_other_who:Stmt:=top 33
theorem sc_other_who:FnScope ["who"] ["who"] (defScope sd_other_who):=⟨rfl,rfl,rfl,by decide +kernel,rfl,by decide +kernel,by decide +kernel⟩
abbrev sd_plain_truths:Stmt:=top 34
theorem sc_plain_truths:FnScope ["world","part","own","word"] ["world","part","own"] (defScope sd_plain_truths):=⟨rfl,rfl,rfl,by decide +kernel,rfl,by decide +kernel,by decide +kernel⟩
theorem cs_plain_truths_0:CompSc (defScope sd_plain_truths) ["world","part","own","word"] ["place","part","world"] [none,some 1,some 0] { kind:=.function,names:=[(Str.ofString ".0",.local),(Str.ofString "place",.local),(Str.ofString "marks_of",.globalImplicit),(Str.ofString "part",.free),(Str.ofString "world",.free)],isGenerator:=false,isCoroutine:=false,more:=[] }:=⟨rfl,by decide +kernel,by decide +kernel,by decide +kernel,by decide +kernel,by decide +kernel⟩
theorem cs_plain_truths_1:CompSc (defScope sd_plain_truths) ["world","part","own","word"] ["first","second"] [none,none] { kind:=.function,names:=[(Str.ofString ".0",.local),(Str.ofString "first",.local),(Str.ofString "second",.local)],isGenerator:=false,isCoroutine:=false,more:=[] }:=⟨rfl,by decide +kernel,by decide +kernel,by decide +kernel,by decide +kernel,by decide +kernel⟩
theorem cs_plain_truths_2:CompSc (defScope sd_plain_truths) ["world","part","own","word"] ["first","second"] [none,none] { kind:=.function,names:=[(Str.ofString ".0",.local),(Str.ofString "first",.local),(Str.ofString "second",.local)],isGenerator:=false,isCoroutine:=false,more:=[] }:=⟨rfl,by decide +kernel,by decide +kernel,by decide +kernel,by decide +kernel,by decide +kernel⟩
abbrev sd_root_form:Stmt:=top 35
theorem sc_root_form:FnScope ["world","part","own","word","who"] ["world","part","own"] (defScope sd_root_form):=⟨rfl,rfl,rfl,by decide +kernel,rfl,by decide +kernel,by decide +kernel⟩
abbrev sd_labels_of_root:Stmt:=top 37
theorem sc_labels_of_root:FnScope ["world","word","who","truths","for_some","first"] ["world","word","who","truths"] (defScope sd_labels_of_root):=⟨rfl,rfl,rfl,by decide +kernel,rfl,by decide +kernel,by decide +kernel⟩
abbrev sd_labels_of:Stmt:=top 38
theorem sc_labels_of:FnScope ["world","part","own","word","who","truths","turn","labels"] ["world","part","own"] (defScope sd_labels_of):=⟨rfl,rfl,rfl,by decide +kernel,rfl,by decide +kernel,by decide +kernel⟩
theorem cs_labels_of_0:CompSc (defScope sd_labels_of) ["world","part","own","word","who","truths","turn","labels"] ["truth"] [none] { kind:=.function,names:=[(Str.ofString ".0",.local),(Str.ofString "truth",.local)],isGenerator:=false,isCoroutine:=false,more:=[] }:=⟨rfl,by decide +kernel,by decide +kernel,by decide +kernel,by decide +kernel,by decide +kernel⟩
abbrev sd_table_of:Stmt:=top 39
theorem sc_table_of:FnScope ["world","sentence","parts","table","part","places","own"] ["world","sentence"] (defScope sd_table_of):=⟨rfl,rfl,rfl,by decide +kernel,rfl,by decide +kernel,by decide +kernel⟩
theorem cs_table_of_0:CompSc (defScope sd_table_of) ["world","sentence","parts","table","part","places","own"] ["place","table"] [none,some 3] { kind:=.function,names:=[(Str.ofString ".0",.local),(Str.ofString "place",.local),(Str.ofString "truths_of",.globalImplicit),(Str.ofString "table",.free)],isGenerator:=false,isCoroutine:=false,more:=[] }:=⟨rfl,by decide +kernel,by decide +kernel,by decide +kernel,by decide +kernel,by decide +kernel⟩
abbrev sd_step_from:Stmt:=top 41
theorem sc_step_from:FnScope ["world","labels","place","door"] ["world","labels","place"] (defScope sd_step_from):=⟨rfl,rfl,rfl,by decide +kernel,rfl,by decide +kernel,by decide +kernel⟩
abbrev sd_follow:Stmt:=top 42
theorem sc_follow:FnScope ["world","labels","state","row","place"] ["world","labels","state"] (defScope sd_follow):=⟨rfl,rfl,rfl,by decide +kernel,rfl,by decide +kernel,by decide +kernel⟩
abbrev sd_way_for:Stmt:=top 43
theorem sc_way_for:FnScope ["world","sentence","state","labels","for_some"] ["world","sentence","state"] (defScope sd_way_for):=⟨rfl,rfl,rfl,by decide +kernel,rfl,by decide +kernel,by decide +kernel⟩
abbrev sd_draw:Stmt:=top 45
theorem sc_draw:FnScope ["_law_number","_law_prime","_law_many"] ["_law_number","_law_prime","_law_many"] (defScope sd_draw):=⟨rfl,rfl,rfl,by decide +kernel,rfl,by decide +kernel,by decide +kernel⟩
abbrev sd_whole:Stmt:=top 46
theorem sc_whole:FnScope ["_law_found"] ["_law_found"] (defScope sd_whole):=⟨rfl,rfl,rfl,by decide +kernel,rfl,by decide +kernel,by decide +kernel⟩
abbrev sd_at:Stmt:=top 47
theorem sc_at:FnScope ["_law_script","_law_k"] ["_law_script","_law_k"] (defScope sd_at):=⟨rfl,rfl,rfl,by decide +kernel,rfl,by decide +kernel,by decide +kernel⟩
abbrev sd_same:Stmt:=top 48
theorem sc_same:FnScope ["_law_found","_law_due","_law_left","_law_right","_law_one","_law_two"] ["_law_found","_law_due"] (defScope sd_same):=⟨rfl,rfl,rfl,by decide +kernel,rfl,by decide +kernel,by decide +kernel⟩
abbrev sd_first_mark:Stmt:=top 49
theorem sc_first_mark:FnScope ["_law_script","_law_cell"] ["_law_script"] (defScope sd_first_mark):=⟨rfl,rfl,rfl,by decide +kernel,rfl,by decide +kernel,by decide +kernel⟩
abbrev sd_count_of:Stmt:=top 50
theorem sc_count_of:FnScope ["_law_script","_law_wide"] ["_law_script"] (defScope sd_count_of):=⟨rfl,rfl,rfl,by decide +kernel,rfl,by decide +kernel,by decide +kernel⟩
abbrev sd_line_of:Stmt:=top 51
theorem sc_line_of:FnScope ["_law_count","_law_script","_law_world","_law_k","_law_cell","_law_marks","_law_doors","_law_more","_law_turn"] ["_law_count","_law_script"] (defScope sd_line_of):=⟨rfl,rfl,rfl,by decide +kernel,rfl,by decide +kernel,by decide +kernel⟩
theorem cs_line_of_0:CompSc (defScope sd_line_of) ["_law_count","_law_script","_law_world","_law_k","_law_cell","_law_marks","_law_doors","_law_more","_law_turn"] ["_law_k","_law_count","_law_turn"] [none,some 0,some 8] { kind:=.function,names:=[(Str.ofString ".0",.local),(Str.ofString "_law_k",.local),(Str.ofString "_law_count",.free),(Str.ofString "_law_turn",.free)],isGenerator:=false,isCoroutine:=false,more:=[] }:=⟨rfl,by decide +kernel,by decide +kernel,by decide +kernel,by decide +kernel,by decide +kernel⟩
abbrev sd_world_of:Stmt:=top 52
theorem sc_world_of:FnScope ["_law_count","_law_script","_law_world","_law_k","_law_cell","_law_marks","_law_doors","_law_spot","_law_door"] ["_law_count","_law_script"] (defScope sd_world_of):=⟨rfl,rfl,rfl,by decide +kernel,rfl,by decide +kernel,by decide +kernel⟩
abbrev sd_copy_of:Stmt:=top 53
theorem sc_copy_of:FnScope ["_law_world"] ["_law_world"] (defScope sd_copy_of):=⟨rfl,rfl,rfl,by decide +kernel,rfl,by decide +kernel,by decide +kernel⟩
theorem cs_copy_of_0:CompSc (defScope sd_copy_of) ["_law_world"] ["_law_state"] [none] { kind:=.function,names:=[(Str.ofString ".0",.local),(Str.ofString "_law_state",.local),(Str.ofString "list",.globalImplicit)],isGenerator:=false,isCoroutine:=false,more:=[] }:=⟨rfl,by decide +kernel,by decide +kernel,by decide +kernel,by decide +kernel,by decide +kernel⟩
abbrev sd_sort_of:Stmt:=top 54
theorem sc_sort_of:FnScope ["_law_cell","_law_sorts"] ["_law_cell"] (defScope sd_sort_of):=⟨rfl,rfl,rfl,by decide +kernel,rfl,by decide +kernel,by decide +kernel⟩
abbrev sd_sentence_of:Stmt:=top 55
theorem sc_sentence_of:FnScope ["_law_sort","_law_who","_law_inner"] ["_law_sort","_law_who","_law_inner"] (defScope sd_sentence_of):=⟨rfl,rfl,rfl,by decide +kernel,rfl,by decide +kernel,by decide +kernel⟩
abbrev sd_grown:Stmt:=top 56
theorem sc_grown:FnScope ["_law_cells","_law_first","_law_pile","_law_cell","_law_sort","_law_who","_law_many","_law_mark"] ["_law_cells","_law_first"] (defScope sd_grown):=⟨rfl,rfl,rfl,by decide +kernel,rfl,by decide +kernel,by decide +kernel⟩
abbrev sd_joined:Stmt:=top 57
theorem sc_joined:FnScope ["_law_pile","_law_sort","_law_who","_law_many","_law_one","_law_inner","_law_parts","_law_made"] ["_law_pile","_law_sort","_law_who","_law_many"] (defScope sd_joined):=⟨rfl,rfl,rfl,by decide +kernel,rfl,by decide +kernel,by decide +kernel⟩
theorem cs_joined_0:CompSc (defScope sd_joined) ["_law_pile","_law_sort","_law_who","_law_many","_law_one","_law_inner","_law_parts","_law_made"] ["_law_one"] [none] { kind:=.function,names:=[(Str.ofString ".0",.local),(Str.ofString "_law_one",.local)],isGenerator:=false,isCoroutine:=false,more:=[] }:=⟨rfl,by decide +kernel,by decide +kernel,by decide +kernel,by decide +kernel,by decide +kernel⟩
abbrev sd_before:Stmt:=top 58
theorem sc_before:FnScope ["_law_world","_law_who","_law_row","_law_found","_law_state","_law_ends"] ["_law_world","_law_who","_law_row"] (defScope sd_before):=⟨rfl,rfl,rfl,by decide +kernel,rfl,by decide +kernel,by decide +kernel⟩
theorem cs_before_0:CompSc (defScope sd_before) ["_law_world","_law_who","_law_row","_law_found","_law_state","_law_ends"] ["_law_door","_law_row"] [none,some 2] { kind:=.function,names:=[(Str.ofString ".0",.local),(Str.ofString "_law_door",.local),(Str.ofString "_law_row",.free)],isGenerator:=false,isCoroutine:=false,more:=[] }:=⟨rfl,by decide +kernel,by decide +kernel,by decide +kernel,by decide +kernel,by decide +kernel⟩
abbrev sd_until_truth:Stmt:=top 59
theorem sc_until_truth:FnScope ["_law_world","_law_who","_law_left","_law_right","_law_now","_law_turn","_law_ahead"] ["_law_world","_law_who","_law_left","_law_right"] (defScope sd_until_truth):=⟨rfl,rfl,rfl,by decide +kernel,rfl,by decide +kernel,by decide +kernel⟩
theorem cs_until_truth_0:CompSc (defScope sd_until_truth) ["_law_world","_law_who","_law_left","_law_right","_law_now","_law_turn","_law_ahead"] ["_law_k","_law_ahead","_law_left","_law_right"] [none,some 6,some 2,some 3] { kind:=.function,names:=[(Str.ofString ".0",.local),(Str.ofString "_law_k",.local),(Str.ofString "_law_ahead",.free),(Str.ofString "_law_left",.free),(Str.ofString "_law_right",.free)],isGenerator:=false,isCoroutine:=false,more:=[] }:=⟨rfl,by decide +kernel,by decide +kernel,by decide +kernel,by decide +kernel,by decide +kernel⟩
abbrev sd_always_truth:Stmt:=top 60
theorem sc_always_truth:FnScope ["_law_world","_law_who","_law_here","_law_now","_law_turn","_law_ahead"] ["_law_world","_law_who","_law_here"] (defScope sd_always_truth):=⟨rfl,rfl,rfl,by decide +kernel,rfl,by decide +kernel,by decide +kernel⟩
theorem cs_always_truth_0:CompSc (defScope sd_always_truth) ["_law_world","_law_who","_law_here","_law_now","_law_turn","_law_ahead"] ["_law_k","_law_ahead","_law_here"] [none,some 5,some 2] { kind:=.function,names:=[(Str.ofString ".0",.local),(Str.ofString "_law_k",.local),(Str.ofString "_law_ahead",.free),(Str.ofString "_law_here",.free)],isGenerator:=false,isCoroutine:=false,more:=[] }:=⟨rfl,by decide +kernel,by decide +kernel,by decide +kernel,by decide +kernel,by decide +kernel⟩
abbrev sd_again_truth:Stmt:=top 61
theorem sc_again_truth:FnScope ["_law_world","_law_who","_law_here","_law_every","_law_now","_law_turn","_law_ahead","_law_ends"] ["_law_world","_law_who","_law_here"] (defScope sd_again_truth):=⟨rfl,rfl,rfl,by decide +kernel,rfl,by decide +kernel,by decide +kernel⟩
theorem cs_again_truth_0:CompSc (defScope sd_again_truth) ["_law_world","_law_who","_law_here","_law_every","_law_now","_law_turn","_law_ahead","_law_ends"] ["_law_k","_law_ahead","_law_here"] [none,some 6,some 2] { kind:=.function,names:=[(Str.ofString ".0",.local),(Str.ofString "_law_k",.local),(Str.ofString "_law_ahead",.free),(Str.ofString "_law_here",.free)],isGenerator:=false,isCoroutine:=false,more:=[] }:=⟨rfl,by decide +kernel,by decide +kernel,by decide +kernel,by decide +kernel,by decide +kernel⟩
abbrev sd_way_truth:Stmt:=top 62
theorem sc_way_truth:FnScope ["_law_world","_law_part","_law_rows","_law_sort","_law_who","_law_row","_law_mate","_law_against"] ["_law_world","_law_part","_law_rows"] (defScope sd_way_truth):=⟨rfl,rfl,rfl,by decide +kernel,rfl,by decide +kernel,by decide +kernel⟩
theorem cs_way_truth_0:CompSc (defScope sd_way_truth) ["_law_world","_law_part","_law_rows","_law_sort","_law_who","_law_row","_law_mate","_law_against"] ["_law_one"] [none] { kind:=.function,names:=[(Str.ofString ".0",.local),(Str.ofString "_law_one",.local)],isGenerator:=false,isCoroutine:=false,more:=[] }:=⟨rfl,by decide +kernel,by decide +kernel,by decide +kernel,by decide +kernel,by decide +kernel⟩
theorem cs_way_truth_1:CompSc (defScope sd_way_truth) ["_law_world","_law_part","_law_rows","_law_sort","_law_who","_law_row","_law_mate","_law_against"] ["_law_one"] [none] { kind:=.function,names:=[(Str.ofString ".0",.local),(Str.ofString "_law_one",.local)],isGenerator:=false,isCoroutine:=false,more:=[] }:=⟨rfl,by decide +kernel,by decide +kernel,by decide +kernel,by decide +kernel,by decide +kernel⟩
abbrev sd_truth_of:Stmt:=top 63
theorem sc_truth_of:FnScope ["_law_world","_law_part","_law_rows"] ["_law_world","_law_part","_law_rows"] (defScope sd_truth_of):=⟨rfl,rfl,rfl,by decide +kernel,rfl,by decide +kernel,by decide +kernel⟩
theorem cs_truth_of_0:CompSc (defScope sd_truth_of) ["_law_world","_law_part","_law_rows"] ["_law_state","_law_part"] [none,some 1] { kind:=.function,names:=[(Str.ofString ".0",.local),(Str.ofString "_law_state",.local),(Str.ofString "_law_part",.free)],isGenerator:=false,isCoroutine:=false,more:=[] }:=⟨rfl,by decide +kernel,by decide +kernel,by decide +kernel,by decide +kernel,by decide +kernel⟩
theorem cs_truth_of_1:CompSc (defScope sd_truth_of) ["_law_world","_law_part","_law_rows"] ["_law_one"] [none] { kind:=.function,names:=[(Str.ofString ".0",.local),(Str.ofString "_law_one",.local)],isGenerator:=false,isCoroutine:=false,more:=[] }:=⟨rfl,by decide +kernel,by decide +kernel,by decide +kernel,by decide +kernel,by decide +kernel⟩
theorem cs_truth_of_2:CompSc (defScope sd_truth_of) ["_law_world","_law_part","_law_rows"] ["_law_k","_law_rows"] [none,some 2] { kind:=.function,names:=[(Str.ofString ".0",.local),(Str.ofString "_law_k",.local),(Str.ofString "_law_rows",.free)],isGenerator:=false,isCoroutine:=false,more:=[] }:=⟨rfl,by decide +kernel,by decide +kernel,by decide +kernel,by decide +kernel,by decide +kernel⟩
theorem cs_truth_of_3:CompSc (defScope sd_truth_of) ["_law_world","_law_part","_law_rows"] ["_law_k","_law_rows"] [none,some 2] { kind:=.function,names:=[(Str.ofString ".0",.local),(Str.ofString "_law_k",.local),(Str.ofString "_law_rows",.free)],isGenerator:=false,isCoroutine:=false,more:=[] }:=⟨rfl,by decide +kernel,by decide +kernel,by decide +kernel,by decide +kernel,by decide +kernel⟩
abbrev sd_arity:Stmt:=top 64
theorem sc_arity:FnScope ["_law_part"] ["_law_part"] (defScope sd_arity):=⟨rfl,rfl,rfl,by decide +kernel,rfl,by decide +kernel,by decide +kernel⟩
abbrev sd_on_way:Stmt:=top 65
theorem sc_on_way:FnScope ["_law_sort","_law_rows","_law_way","_law_row","_law_back","_law_k","_law_truth"] ["_law_sort","_law_rows","_law_way"] (defScope sd_on_way):=⟨rfl,rfl,rfl,by decide +kernel,rfl,by decide +kernel,by decide +kernel⟩
theorem cs_on_way_0:CompSc (defScope sd_on_way) ["_law_sort","_law_rows","_law_way","_law_row","_law_back","_law_k","_law_truth"] ["_law_k","_law_rows"] [none,some 1] { kind:=.function,names:=[(Str.ofString ".0",.local),(Str.ofString "_law_k",.local),(Str.ofString "_law_rows",.free)],isGenerator:=false,isCoroutine:=false,more:=[] }:=⟨rfl,by decide +kernel,by decide +kernel,by decide +kernel,by decide +kernel,by decide +kernel⟩
abbrev sd_is_way:Stmt:=top 66
theorem sc_is_way:FnScope ["_law_found","_law_world","_law_start","_law_row","_law_back","_law_state","_law_k"] ["_law_found","_law_world","_law_start"] (defScope sd_is_way):=⟨rfl,rfl,rfl,by decide +kernel,rfl,by decide +kernel,by decide +kernel⟩
abbrev sd_asked:Stmt:=top 67
theorem sc_asked:FnScope ["_law_world","_law_sentence","_law_state"] ["_law_world","_law_sentence","_law_state"] (defScope sd_asked):=⟨rfl,rfl,rfl,by decide +kernel,rfl,by decide +kernel,by decide +kernel⟩
abbrev sd_refused:Stmt:=top 68
theorem sc_refused:FnScope ["_law_found","_law_word"] ["_law_found","_law_word"] (defScope sd_refused):=⟨rfl,rfl,rfl,by decide +kernel,rfl,by decide +kernel,by decide +kernel⟩
abbrev sd_truths_of:Stmt:=top 69
theorem sc_truths_of:FnScope ["_law_world","_law_parts","_law_pile","_law_rows","_law_part","_law_start"] ["_law_world","_law_parts"] (defScope sd_truths_of):=⟨rfl,rfl,rfl,by decide +kernel,rfl,by decide +kernel,by decide +kernel⟩
abbrev sd_with_others:Stmt:=top 70
theorem sc_with_others:FnScope ["_law_script","_law_world","_law_made","_law_k","_law_many","_law_more"] ["_law_script","_law_world"] (defScope sd_with_others):=⟨rfl,rfl,rfl,by decide +kernel,rfl,by decide +kernel,by decide +kernel⟩
theorem cs_with_others_0:CompSc (defScope sd_with_others) ["_law_script","_law_world","_law_made","_law_k","_law_many","_law_more"] ["_law_spot","_law_script"] [none,some 0] { kind:=.function,names:=[(Str.ofString ".0",.local),(Str.ofString "_law_spot",.local),(Str.ofString "_law_first_mark",.globalImplicit),(Str.ofString "_law_script",.free)],isGenerator:=false,isCoroutine:=false,more:=[] }:=⟨rfl,by decide +kernel,by decide +kernel,by decide +kernel,by decide +kernel,by decide +kernel⟩
abbrev sd_law:Stmt:=top 71
theorem sc_law:FnScope ["_law_script","_law_count","_law_world","_law_first","_law_one","_law_parts","_law_two","_law_others","_law_who","_law_sort","_law_sentence","_law_rows","_law_truth","_law_handed","_law_states","_law_state","_law_found","_law_cell","_law_odds","_law_odd","_law_beyond","_law_pair"] ["_law_script"] (defScope sd_law):=⟨rfl,rfl,rfl,by decide +kernel,rfl,by decide +kernel,by decide +kernel⟩
end Ws
namespace Ws
open PySem L2
section
variable {P:Program} {w:World} {K:PySem.W.Frag} {mg:Str→Option Value} {base:Heap}
seal L2.PSs L2.PS L2.PE L2.PA L2.PT L2.PG L2.PF L2.PI
def spMarks:Sp:=fun vs H Q _=>∃ (a:Addr) (k:Nat) (W:World2),vs = [.ref a,.int (k:Int)]∧DAt H (.ref a) (wdat W)∧k < W.length∧∀ d,H d = some (.lst ((W.getD k default).1.map V.int))→Q (.ref d) H
theorem ok_marks_of {f:Addr} {fd:FuncData} (F:Fun K "marks_of" "marks_of" sd_marks_of f fd):FnOk P w K mg base CX0 1 f fd ["world","place"] spMarks:=by
 refine F.ok sc_marks_of (fun vs H Q E h=>?_) (fun cdv A outer s H vs Q E hr h=>?_)
 ·obtain ⟨a,k,W,rfl,_⟩:=h
  rfl
 obtain ⟨a,k,W,rfl,ha,hk,q⟩:=h
 obtain ⟨a',vs,e,hH,hv⟩:=DAt.lst_inv ha
 cases e
 obtain ⟨u,hu,du⟩:=hv.nth hk
 obtain ⟨t,m,d,rfl,et,em,ed⟩:=sdat_inv du
 refine ⟨_,
  (pss_one (ps_ret (pe_ix ix_tup (pe_ix ix_list (pv 0) (pv 1) (fun _ _=>rfl)) pe_int (fun _ _=>rfl)))),?_⟩
 refine ⟨_,rfl,_,rfl,a,_,_,_,rfl,rfl,SqL.of hH,atI_nat hu,t,_,_,_,rfl,rfl,SqT.of et,at0,q m ?_⟩
 rw [em,getD_eq hk]
def spDoors:Sp:=fun vs H Q _=>∃ (a:Addr) (k:Nat) (W:World2),vs = [.ref a,.int (k:Int)]∧DAt H (.ref a) (wdat W)∧k < W.length∧∀ d,H d = some (.lst ((dr W k).map V.int))→Q (.ref d) H
theorem ok_doors_of {f:Addr} {fd:FuncData} (F:Fun K "doors_of" "doors_of" sd_doors_of f fd):FnOk P w K mg base CX0 1 f fd ["world","place"] spDoors:=by
 refine F.ok sc_doors_of (fun vs H Q E h=>?_) (fun cdv A outer s H vs Q E hr h=>?_)
 ·obtain ⟨a,k,W,rfl,_⟩:=h
  rfl
 obtain ⟨a,k,W,rfl,ha,hk,q⟩:=h
 obtain ⟨a',vs,e,hH,hv⟩:=DAt.lst_inv ha
 cases e
 obtain ⟨u,hu,du⟩:=hv.nth hk
 obtain ⟨t,m,d,rfl,et,em,ed⟩:=sdat_inv du
 refine ⟨_,
  (pss_one (ps_ret (pe_ix ix_tup (pe_ix ix_list (pv 0) (pv 1) (fun _ _=>rfl)) pe_int (fun _ _=>rfl)))),?_⟩
 refine ⟨_,rfl,_,rfl,a,_,_,_,rfl,rfl,SqL.of hH,atI_nat hu,t,_,_,_,rfl,rfl,SqT.of et,at1,q d ?_⟩
 rw [ed]
 unfold dr
 rw [getD_eq hk]
def spIsState:Sp:=fun vs H Q _=>∃ (a:Addr) (x:Int) (ws:List V),vs = [.ref a,.int x]∧H a = some (.lst ws)∧Q (.bl (decide (0 ≤ x) && decide (x < (ws.length:Int)))) H
theorem ok_is_state {f:Addr} {fd:FuncData} (F:Fun K "is_state" "is_state" sd_is_state f fd) (B:Blt mg):FnOk P w K mg base CX0 1 f fd ["world","number"] spIsState:=by
 refine F.ok sc_is_state (fun vs H Q E h=>?_) (fun cdv A outer s H vs Q E hr h=>?_)
 ·obtain ⟨a,x,ws,rfl,_⟩:=h
  rfl
 obtain ⟨a,x,ws,rfl,ha,q⟩:=h
 refine ⟨_,
  (pss_one (ps_ret (pe_chain op_le op_lt pe_int (pv 1) (pe_callB call_len_seq rfl B.len PySem.boot_len (pa_cons (pv 0) pa_nil))))),?_⟩
 refine ⟨_,rfl,_,_,rfl,rfl,_,rfl,?_⟩
 cases h:decide (0 ≤ x) with
 | false =>
  rw [h] at q
  exact iteF q
 | true =>
  rw [h] at q
  exact iteT ⟨_,rfl,a,_,rfl,.inl (SqL.of ha),_,_,rfl,rfl,q⟩
def spCheck:Sp:=fun vs H Q _=>∃ (a:Addr) (n b:Nat) (W:World2),vs = [.ref a]∧DAt H (.ref a) (wdat W)∧Valid n b W∧n ≤ 1000∧Q .non H
theorem ok_check_world {f g h:Addr} {fd gd hd:FuncData} (F:Fun K "check_world" "check_world" sd_check_world f fd) (B:Blt mg) (G_doors_of:FnOk P w K mg base CX0 1 g gd ["world","place"] spDoors) (M_doors_of:MG K mg "doors_of" ["world","place"] g gd)
  (G_is_state:FnOk P w K mg base CX0 1 h hd ["world","number"] spIsState) (M_is_state:MG K mg "is_state" ["world","number"] h hd):FnOk P w K mg base CX0 2 f fd ["world"] spCheck:=by
 refine F.ok sc_check_world (fun vs H Q E h=>?_) (fun cdv A outer s H vs Q E hr h=>?_)
 ·obtain ⟨a,n,b,W,rfl,_⟩:=h
  rfl
 obtain ⟨a,n,b,W,rfl,ha,hW,hn,q⟩:=h
 obtain ⟨a',ws,e,hA,hw⟩:=DAt.lst_inv ha
 cases e
 have lw:=hw.length
 rw [List.length_map,hW.len] at lw
 refine ⟨_,
  (pss_cons (ps_for PassesOwn.never rfl (pi_range1 rfl B.range (pa_cons (pe_callB call_len_seq rfl B.len PySem.boot_len (pa_cons (pv 0) pa_nil)) pa_nil)) (pg_name (i:=1) sc_check_world.nd rfl (Or.inl rfl))
  (pss_one (ps_if (pt_not (pt_truth (pe_cm G_doors_of M_doors_of hr rfl (pa_cons (pv 0) (pa_cons (pv 1) pa_nil))) (fun _=>rfl)))
  (pss_one ps_never)
  pss_nil)))
  (pss_one (ps_for PassesOwn.never rfl (pi_range1 rfl B.range (pa_cons (pe_callB call_len_seq rfl B.len PySem.boot_len (pa_cons (pv 0) pa_nil)) pa_nil)) (pg_name (i:=1) sc_check_world.nd rfl (Or.inl rfl))
  (pss_one (ps_for PassesOwn.never rfl (pi_list (pe_cm G_doors_of M_doors_of hr rfl (pa_cons (pv 0) (pa_cons (pv 1) pa_nil)))) (pg_name (i:=2) sc_check_world.nd rfl (Or.inl rfl))
  (pss_one (ps_if (pt_not (pt_val (pe_cm G_is_state M_is_state hr rfl (pa_cons (pv 0) (pa_cons (pv 2) pa_nil)))))
  (pss_one ps_never)
  pss_nil))))))),?_⟩
 refine ⟨_,rfl,a,_,rfl,.inl (SqL.of hA),_,rfl,by omega,by omega,for_range (lo:=0) (n:=ws.length) (fun i σ' H'=>∃ o1 o2,σ' = [some (.ref a),o1,o2]∧H' = H) ⟨none,none,rfl,rfl⟩ ?_ ?_⟩
 ·rintro i σ' H1 hi ⟨o1,o2,rfl,rfl⟩
  rw [lw] at hi
  refine ⟨_,rfl,_,rfl,a,i,W,by rw [Int.zero_add]; rfl,ha,by rw [hW.len]; exact hi,fun d hd=>⟨_,.inl ⟨_,SqL.of hd,rfl⟩,?_⟩⟩
  have ne:=(dr_in hW hi).1
  have e:((dr W i).map V.int).isEmpty = false:=by
   cases h:dr W i with
   | nil=>exact absurd h ne
   | cons x r=>rfl
  rw [e]
  exact iteF ⟨_,_,rfl,rfl⟩
 ·rintro σ' H1 ⟨o1,o2,rfl,rfl⟩
  refine ⟨_,rfl,a,_,rfl,.inl (SqL.of hA),_,rfl,by omega,by omega,for_range (lo:=0) (n:=ws.length) (fun i σ' H'=>∃ o1 o2,σ' = [some (.ref a),o1,o2]∧H' = H1) ⟨_,_,rfl,rfl⟩ ?_ ?_⟩
  ·rintro i σ' H2 hi ⟨o1,o2,rfl,rfl⟩
   rw [lw] at hi
   refine ⟨_,rfl,_,rfl,a,i,W,by rw [Int.zero_add]; rfl,ha,by rw [hW.len]; exact hi,fun d hd=>⟨d,rfl,⟨_,SqL.of hd⟩,for_list (K:=K) (a:=d) (xs:=(dr W i).map V.int) (fun j σ' H'=>∃ o2,σ' = [some (.ref a),some (.int (0 + (i:Int))),o2]∧H' = H2) ⟨_,rfl,rfl⟩ (fun j σ' H' _ ⟨_,_,e⟩=>by rw [e]; exact SqL.of hd) ?_ ?_⟩⟩
   ·rintro j y σ' H3 hy ⟨o2,rfl,rfl⟩
    obtain ⟨e,rfl,he⟩:=int_mem hy
    obtain ⟨e0,e1⟩:=(dr_in hW hi).2 e (List.mem_of_getElem? he)
    refine ⟨_,rfl,_,rfl,a,e,ws,rfl,hA,_,rfl,?_⟩
    rw [decide_eq_true e0,decide_eq_true (by omega:e < (ws.length:Int))]
    exact iteF ⟨_,rfl,rfl⟩
   ·rintro σ' H3 ⟨o2,rfl,rfl⟩
    exact ⟨_,_,rfl,rfl⟩
  ·rintro σ' H2 ⟨o1,o2,rfl,rfl⟩
   exact q
def spTruths:Sp:=fun vs H Q _=>∃ (c:Addr) (L:List Lb),vs = [.ref c]∧DAt H (.ref c) (lsdat L)∧L.length ≤ 1000∧∀ (c':Addr) (H':Hp),Same H H'→H c' = none→H' c' = some (.lst ((trs L).map V.bl))→Q (.ref c') H'
theorem ok_p_truths_of {f:Addr} {fd:FuncData} (F:Fun K "truths_of" "truths_of" sd_p_truths_of f fd):FnOk P w K mg base CX0 1 f fd ["labels"] spTruths:=by
 refine F.ok sc_p_truths_of (fun vs H Q E h=>?_) (fun cdv A outer s H vs Q E hr h=>?_)
 ·obtain ⟨a,L,rfl,_⟩:=h
  rfl
 obtain ⟨a,L,rfl,ha,hl,k⟩:=h
 obtain ⟨a',vs,e,hH,hv⟩:=DAt.lst_inv ha
 cases e
 have lv:=hv.length
 rw [List.length_map] at lv
 refine ⟨_,
  (pss_one (ps_ret (pe_comp rfl cs_p_truths_of_0 rfl rfl (pi_list (pv 0)) (fun _ _ _ _ _=>pg_name (i:=0) cs_p_truths_of_0.nd rfl (Or.inl rfl)) (fun _ _ _ _ _=>pf_nil) (fun _ _ _ _ _=>(pe_ix cix_tup (pv 0) pe_int (fun _ _=>rfl)))))),?_⟩
 refine ⟨_,rfl,a,rfl,⟨_,SqL.of hH⟩,fun D hD=>?_⟩
 refine comp_over (xs:=vs) (fun i ys τ H'=>ys = ((trs L).take i).map V.bl∧H' D = some (.lst ys)∧Same H H'∧∃ v,τ = [v]) ⟨rfl,upd_same,same_new hD _,none,rfl⟩ (fun i ys τ H' _ h=>SqL.of (h.2.2.1 _ _ hH)) ?_ ?_
 ·rintro i y ys τ H1 hy ⟨rfl,hD1,sm,v,rfl⟩
  have hi:i < L.length:=by rw [← lv]; exact (List.getElem?_eq_some_iff.mp hy).1
  obtain ⟨u,hu,du⟩:=hv.nth hi
  rw [hy] at hu
  cases hu
  obtain ⟨t,rfl,et⟩:=lbdat_inv du
  refine ⟨_,rfl,t,_,_,_,rfl,rfl,SqT.of (sm _ _ et),at0,hD1,line_lt ?_,?_,upd_same,same_upd sm hD _,_,rfl⟩
  ·rw [List.length_map,List.length_take]
   unfold trs
   rw [List.length_map]
   omega
  ·have e:(trs L)[i]? = some L[i].1:=by
    unfold trs
    exact map_nth hi
   rw [List.take_add_one,e,List.map_append]
   rfl
 ·rintro ys τ H1 ⟨rfl,hD1,sm,v,rfl⟩
  refine k D H1 sm hD ?_
  rw [hD1,lv,List.take_of_length_le (by unfold trs; rw [List.length_map]; exact Nat.le_refl _)]
def spNots:Sp:=fun vs H Q _=>∃ (c:Addr) (l:List Bool),vs = [.ref c]∧H c = some (.lst (l.map V.bl))∧l.length ≤ 1000∧∀ (c':Addr) (H':Hp),Same H H'→H c' = none→H' c' = some (.lst ((l.map (!·)).map V.bl))→Q (.ref c') H'
theorem ok_p_turned {f:Addr} {fd:FuncData} (F:Fun K "turned" "turned" sd_p_turned f fd):FnOk P w K mg base CX0 1 f fd ["truths"] spNots:=by
 refine F.ok sc_p_turned (fun vs H Q E h=>?_) (fun cdv A outer s H vs Q E hr h=>?_)
 ·obtain ⟨a,L,rfl,_⟩:=h
  rfl
 obtain ⟨a,r,rfl,ha,hl,k⟩:=h
 refine ⟨_,
  (pss_one (ps_ret (pe_comp rfl cs_p_turned_0 rfl rfl (pi_list (pv 0)) (fun _ _ _ _ _=>pg_name (i:=0) cs_p_turned_0.nd rfl (Or.inl rfl)) (fun _ _ _ _ _=>pf_nil) (fun _ _ _ _ _=>(pe_not (pv 0)))))),?_⟩
 refine ⟨_,rfl,a,rfl,⟨_,SqL.of ha⟩,fun D hD=>?_⟩
 refine comp_over (xs:=r.map V.bl) (fun i ys τ H'=>ys = ((r.map (!·)).take i).map V.bl∧H' D = some (.lst ys)∧Same H H'∧∃ v,τ = [v]) ⟨rfl,upd_same,same_new hD _,none,rfl⟩ (fun i ys τ H' _ h=>SqL.of (h.2.2.1 _ _ ha)) ?_ ?_
 ·rintro i y ys τ H1 hy ⟨rfl,hD1,sm,v,rfl⟩
  obtain ⟨x,hx,rfl⟩:∃ x,r[i]? = some x∧V.bl x = y:=by
   rw [List.getElem?_map] at hy
   cases e:r[i]? with
   | none=>rw [e] at hy; cases hy
   | some x=>rw [e] at hy; exact ⟨x,rfl,Option.some.inj hy⟩
  refine ⟨_,rfl,_,rfl,hD1,line_lt ?_,?_,upd_same,same_upd sm hD _,_,rfl⟩
  ·rw [List.length_map,List.length_take,List.length_map]
   omega
  ·have e:(r.map (!·))[i]? = some (!x):=by rw [List.getElem?_map,hx]; rfl
   rw [List.take_add_one,e,List.map_append]
   rfl
 ·rintro ys τ H1 ⟨rfl,hD1,sm,v,rfl⟩
  refine k D H1 sm hD ?_
  rw [hD1,List.length_map,List.take_of_length_le (by rw [List.length_map]; exact Nat.le_refl _)]
def spTurnL:Sp:=fun vs H Q _=>∃ (c:Addr) (L:List Lb),vs = [.ref c]∧DAt H (.ref c) (lsdat L)∧L.length ≤ 1000∧∀ (q:Addr) (us:List V) (H':Hp),Grow lbdat H H' q (L.map turnL) us→Q (.ref q) H'
theorem ok_turned_labels {f:Addr} {fd:FuncData} (F:Fun K "turned_labels" "turned_labels" sd_turned_labels f fd):FnOk P w K mg base CX0 1 f fd ["labels"] spTurnL:=by
 refine F.ok sc_turned_labels (fun vs H Q E h=>?_) (fun cdv A outer s H vs Q E hr h=>?_)
 ·obtain ⟨a,L,rfl,_⟩:=h
  rfl
 obtain ⟨a,L,rfl,ha,hl,k⟩:=h
 obtain ⟨a',vs,e,hH,hv⟩:=DAt.lst_inv ha
 cases e
 have lv:=hv.length
 rw [List.length_map] at lv
 refine ⟨_,
  (pss_one (ps_ret (pe_comp rfl cs_turned_labels_0 rfl rfl (pi_list (pv 0)) (fun _ _ _ _ _=>cpg_tup (n:=3) rfl (pgs_cons (pg_name (i:=0) cs_turned_labels_0.nd rfl (Or.inl rfl)) (pgs_cons (pg_name (i:=1) cs_turned_labels_0.nd rfl (Or.inl rfl)) (pgs_cons (pg_name (i:=2) cs_turned_labels_0.nd rfl (Or.inl rfl)) pgs_nil)))) (fun _ _ _ _ _=>pf_nil) (fun _ _ _ _ _=>(pe_tup (pa_cons (pe_not (pv 0)) (pa_cons (pv 1) (pa_cons (pv 2) pa_nil)))))))),?_⟩
 refine ⟨_,rfl,a,rfl,⟨_,SqL.of hH⟩,fun D hD=>?_⟩
 refine comp_over (xs:=vs) (fun i ys τ H'=>Grow lbdat H H' D ((L.map turnL).take i) ys∧∃ v1 v2 v3,τ = [v1,v2,v3]) ⟨Grow.start hD,none,none,none,rfl⟩ (fun i ys τ H' _ h=>SqL.of (h.1.same _ _ hH)) ?_ ?_
 ·rintro i y ys τ H1 hy ⟨gr,v1,v2,v3,rfl⟩
  have hi:i < L.length:=by rw [← lv]; exact (List.getElem?_eq_some_iff.mp hy).1
  obtain ⟨u,hu,du⟩:=hv.nth hi
  rw [hy] at hu
  cases hu
  obtain ⟨t,rfl,et⟩:=lbdat_inv du
  have lg:=gr.len
  rw [List.length_take,List.length_map] at lg
  refine ⟨t,_,rfl,SqT.of (gr.same _ _ et),rfl,_,_,rfl,_,_,rfl,_,_,rfl,rfl,?_⟩
  refine ⟨_,rfl,_,rfl,_,rfl,_,rfl,line_le (by show 3 ≤ 16000000; decide),fun t2 ht2=>?_⟩
  have nt:=gr.fresh_ne ht2
  have g2:=gr.keep (same_new ht2 (.tup [V.bl !L[i].1,ov L[i].2.1,ov L[i].2.2]))
  refine ⟨g2.at_,line_lt (by omega),?_,_,_,_,rfl⟩
  have g3:=g2.push (v:=.ref t2) (t:=turnL L[i]) (lbdat_mk (l:=turnL L[i]) (by rw [del_ne nt]; exact upd_same))
  have et:(L.map turnL).take (i + 1) = (L.map turnL).take i ++ [turnL L[i]]:=by rw [List.take_add_one,map_nth hi]; rfl
  rw [et]
  exact g3
 ·rintro ys τ H1 ⟨gr,v1,v2,v3,rfl⟩
  rw [lv,← List.length_map (f:=turnL),List.take_length] at gr
  exact k D ys H1 gr
def spEvery:Sp:=fun vs H Q _=>∃ (a:Addr) (W:World2),vs = [.ref a]∧DAt H (.ref a) (wdat W)∧W.length ≤ 1000∧∀ (c':Addr) (H':Hp),Same H H'→H c' = none→H' c' = some (.lst ((allT W.length).map V.bl))→Q (.ref c') H'
theorem ok_everywhere {f:Addr} {fd:FuncData} (F:Fun K "everywhere" "everywhere" sd_everywhere f fd):FnOk P w K mg base CX0 1 f fd ["world"] spEvery:=by
 refine F.ok sc_everywhere (fun vs H Q E h=>?_) (fun cdv A outer s H vs Q E hr h=>?_)
 ·obtain ⟨a,W,rfl,_⟩:=h
  rfl
 obtain ⟨a,W,rfl,ha,hl,k⟩:=h
 obtain ⟨a',vs,e,hH,hv⟩:=DAt.lst_inv ha
 cases e
 have lv:=hv.length
 rw [List.length_map] at lv
 refine ⟨_,
  (pss_one (ps_ret (pe_comp rfl cs_everywhere_0 rfl rfl (pi_list (pv 0)) (fun _ _ _ _ _=>pg_name (i:=0) cs_everywhere_0.nd rfl (Or.inl rfl)) (fun _ _ _ _ _=>pf_nil) (fun _ _ _ _ _=>pe_bl)))),?_⟩
 refine ⟨_,rfl,a,rfl,⟨_,SqL.of hH⟩,fun D hD=>?_⟩
 refine comp_over (xs:=vs) (fun i ys τ H'=>i ≤ 1000∧ys = (allT i).map V.bl∧H' D = some (.lst ys)∧Same H H'∧∃ v,τ = [v]) ⟨Nat.zero_le _,rfl,upd_same,same_new hD _,none,rfl⟩ (fun i ys τ H' _ h=>SqL.of (h.2.2.2.1 _ _ hH)) ?_ ?_
 ·rintro i y ys τ H1 hy ⟨hi,rfl,hD1,sm,v,rfl⟩
  have hi':=(List.getElem?_eq_some_iff.mp hy).1
  refine ⟨hD1,line_lt ?_,by omega,?_,upd_same,same_upd sm hD _,_,rfl⟩
  ·unfold allT
   rw [List.length_map,List.length_replicate]
   omega
  ·unfold allT
   rw [List.replicate_succ',List.map_append]
   rfl
 ·rintro ys τ H1 ⟨_,rfl,hD1,sm,v,rfl⟩
  refine k D H1 sm hD ?_
  rw [hD1,lv]
def spDoorTo:Sp:=fun vs H Q _=>∃ (a c:Addr) (k n b:Nat) (W:World2) (want:List Bool),vs = [.ref a,.int (k:Int),.ref c]∧DAt H (.ref a) (wdat W)∧Valid n b W∧k < n∧H c = some (.lst (want.map V.bl))∧want.length = n ∧
 Q (ov (doorTo (dr W k) want)) H
theorem ok_door_to {f g:Addr} {fd gd:FuncData} (F:Fun K "door_to" "door_to" sd_door_to f fd) (G_doors_of:FnOk P w K mg base CX0 1 g gd ["world","place"] spDoors) (M_doors_of:MG K mg "doors_of" ["world","place"] g gd) :
  FnOk P w K mg base CX0 2 f fd ["world","place","wanted"] spDoorTo:=by
 refine F.ok sc_door_to (fun vs H Q E h=>?_) (fun cdv A outer s H vs Q E hr h=>?_)
 ·obtain ⟨a,c,k,n,b,W,want,rfl,_⟩:=h
  rfl
 obtain ⟨a,c,k,n,b,W,want,rfl,ha,hW,hk,hc,lc,q⟩:=h
 have inn:=(dr_in hW hk).2
 refine ⟨_,
  (pss_cons (ps_for PassesOwn.never rfl (pi_list (pe_cm G_doors_of M_doors_of hr rfl (pa_cons (pv 0) (pa_cons (pv 1) pa_nil)))) (pg_name (i:=3) sc_door_to.nd rfl (Or.inl rfl))
  (pss_one (ps_if (pt_val (pe_ix ix_list (pv 2) (pv 3) (fun _ _=>rfl)))
  (pss_one (ps_ret (pv 3)))
  pss_nil)))
  (pss_one (ps_ret pe_non))),?_⟩
 refine ⟨_,rfl,_,rfl,a,k,W,rfl,ha,by rw [hW.len]; exact hk,fun d hd=>⟨d,rfl,⟨_,SqL.of hd⟩,for_list (K:=K) (a:=d) (xs:=(dr W k).map V.int)
  (fun i σ' H'=>∃ o3,σ' = [some (.ref a),some (.int (k:Int)),some (.ref c),o3]∧H' = H∧∀ j,j < i→∀ e,(dr W k)[j]? = some e→want.getD e.toNat false = false)
  ⟨none,rfl,rfl,fun j hj=>absurd hj (Nat.not_lt_zero _)⟩ (fun i σ' H' _ ⟨_,_,e,_⟩=>by rw [e]; exact SqL.of hd) ?_ ?_⟩⟩
 ·rintro i y σ' H1 hy ⟨o3,rfl,rfl,no⟩
  obtain ⟨e,rfl,he⟩:=int_mem hy
  obtain ⟨e0,e1⟩:=inn e (List.mem_of_getElem? he)
  have ea:atI (want.map V.bl) e = some (V.bl (want.getD e.toNat false)):=by
   have:=row_at (H:=H1) (a:=a) (l:=want) (k:=e.toNat) (by omega)
   rwa [show ((e.toNat:Nat):Int) = e by omega] at this
  refine ⟨_,rfl,_,rfl,c,_,_,_,rfl,rfl,SqL.of hc,ea,_,rfl,?_⟩
  cases hw:want.getD e.toNat false with
  | true =>
   refine iteT ⟨_,rfl,?_⟩
   have:doorTo (dr W k) want = some e:=by
    unfold doorTo
    obtain ⟨hi,hx⟩:=List.getElem?_eq_some_iff.mp he
    rw [List.find?_eq_some_iff_getElem]
    refine ⟨hw,i,hi,hx,fun j hj=>?_⟩
    rw [no j hj _ (List.getElem?_eq_getElem (by omega))]
    rfl
   rw [this] at q
   exact q
  | false =>
   refine iteF ⟨_,rfl,rfl,fun j hj e' he'=>?_⟩
   by_cases hji:j = i
   ·subst hji
    rw [he] at he'
    cases he'
    exact hw
   ·exact no j (by omega) e' he'
 ·rintro σ' H1 ⟨o3,rfl,rfl,no⟩
  rw [List.length_map] at no
  have:doorTo (dr W k) want = none:=by
   unfold doorTo
   rw [List.find?_eq_none]
   intro e he
   obtain ⟨j,hj,e'⟩:=List.getElem_of_mem he
   rw [no j hj e (by rw [List.getElem?_eq_getElem hj,e'])]
   exact Bool.false_ne_true
  rw [this] at q
  exact q
def spNextS:Sp:=fun vs H Q _=>∃ (a l:Addr) (n b:Nat) (W:World2) (here:List Bool),vs = [.ref a,.ref l]∧DAt H (.ref a) (wdat W)∧Valid n b W∧n ≤ 1000 ∧
 H l = some (.lst (here.map V.bl))∧here.length = n∧∀ (q:Addr) (us:List V) (H':Hp),Grow lbdat H H' q (nextLs W n here) us→Q (.ref q) H'
theorem ok_some_next {f g:Addr} {fd gd:FuncData} (F:Fun K "some_next" "some_next" sd_some_next f fd) (B:Blt mg) (G_door_to:FnOk P w K mg base CX0 2 g gd ["world","place","wanted"] spDoorTo) (M_door_to:MG K mg "door_to" ["world","place","wanted"] g gd) :
  FnOk P w K mg base CX0 3 f fd ["world","here"] spNextS:=by
 refine F.ok sc_some_next (fun vs H Q E h=>?_) (fun cdv A outer s H vs Q E hr h=>?_)
 ·obtain ⟨a,l,n,b,W,here,rfl,_⟩:=h
  rfl
 obtain ⟨a,l,n,b,W,here,rfl,ha,hW,hn,hl,ll,q⟩:=h
 obtain ⟨a',ws,e,hA,hw⟩:=DAt.lst_inv ha
 cases e
 have lw:=hw.length
 rw [List.length_map,hW.len] at lw
 refine ⟨_,
  (pss_cons (ps_comp (i:=2) sc_some_next.nd rfl rfl rfl cs_some_next_0 rfl rfl (pi_range1 rfl B.range (pa_cons (pe_callB call_len_seq rfl B.len PySem.boot_len (pa_cons (pv 0) pa_nil)) pa_nil)) (fun _ _ _ _ _=>pg_name (i:=0) cs_some_next_0.nd rfl (Or.inl rfl)) (fun _ _ _ _ _=>pf_nil) (fun _ _ _ _ _=>(pe_cm G_door_to M_door_to hr rfl (pa_cons (pv 2) (pa_cons (pv 0) (pa_cons (pv 1) pa_nil))))))
  (pss_one (ps_ret (pe_comp rfl cs_some_next_1 rfl rfl (pi_list (pv 2)) (fun _ _ _ _ _=>pg_name (i:=0) cs_some_next_1.nd rfl (Or.inl rfl)) (fun _ _ _ _ _=>pf_nil) (fun _ _ _ _ _=>(pe_tup (pa_cons (pe_cmp (pc_notN (pv 0))) (pa_cons pe_non (pa_cons (pv 0) pa_nil))))))))),?_⟩
 refine ⟨_,rfl,a,_,rfl,.inl (SqL.of hA),_,rfl,by omega,by omega,fun D hD=>?_⟩
 refine comp_range (lo:=0) (n:=ws.length) (fun i ys τ H'=>ys = ((List.range i).map fun k=>doorTo (dr W k) here).map ov∧H' D = some (.lst ys)∧Same H H'∧∃ v,τ = [v,some (.ref l),some (.ref a)]) ⟨rfl,upd_same,same_new hD _,none,rfl⟩ ?_ ?_
 ·rintro i ys τ H1 hi ⟨rfl,hD1,sm,v,rfl⟩
  rw [lw] at hi
  refine ⟨_,rfl,_,rfl,_,rfl,a,l,i,n,b,W,here,by rw [Int.zero_add]; rfl,ha.mono sm,hW,hi,sm _ _ hl,ll,hD1,line_lt ?_,?_,upd_same,same_upd sm hD _,_,rfl⟩
  ·rw [List.length_map,List.length_map,List.length_range]
   omega
  ·rw [List.range_succ,List.map_append,List.map_append]
   rfl
 ·rintro ys τ H1 ⟨rfl,hD1,sm,v,rfl⟩
  rw [lw] at hD1
  refine ⟨_,rfl,D,rfl,⟨_,SqL.of hD1⟩,fun D2 hD2=>?_⟩
  refine comp_over (xs:=((List.range n).map fun k=>doorTo (dr W k) here).map ov) (fun i ys τ H'=>Grow lbdat H H' D2 ((nextLs W n here).take i) ys∧H' D = some (.lst (((List.range n).map fun k=>doorTo (dr W k) here).map ov))∧∃ v,τ = [v]) ⟨Grow.from sm hD2,same_new hD2 _ _ _ hD1,none,rfl⟩ (fun i ys τ H' _ h=>SqL.of h.2.1) ?_ ?_
  ·rintro i y ys τ H2 hy ⟨gr,hD2',v,rfl⟩
   have hi:i < n:=by
    have:=(List.getElem?_eq_some_iff.mp hy).1
    rwa [List.length_map,List.length_map,List.length_range] at this
   have ey:y = ov (doorTo (dr W i) here):=by
    rw [List.getElem?_map,List.getElem?_map,List.getElem?_range hi] at hy
    exact (Option.some.inj hy).symm
   subst ey
   have lg:=gr.len
   rw [List.length_take,next_len] at lg
   have nD:D ≠ D2:=fun z=>by rw [z,gr.at_] at hD2'; have:=gr.free; rw [← z] at this; rw [hD] at this; exact absurd hD2 (by rw [← z,hD1]; exact fun q=>nomatch q)
   refine ⟨_,rfl,_,rfl,line_le (by show 3 ≤ 16000000; decide),fun t ht=>?_⟩
   have nt:=gr.fresh_ne ht
   have s3:=same_new ht (.tup [V.bl (!decide (ov (doorTo (dr W i) here) = V.non)),V.non,ov (doorTo (dr W i) here)])
   have g2:=gr.keep s3
   refine ⟨g2.at_,line_lt (by omega),?_,by rw [upd_ne nD]; exact s3 _ _ hD2',_,rfl⟩
   have g3:=g2.push (v:=.ref t) (t:=nextL (dr W i) here) (lbdat_mk (l:=nextL (dr W i) here) (by
    rw [del_ne nt,upd_same]
    unfold nextL
    cases doorTo (dr W i) here <;> rfl))
   have et:(nextLs W n here).take (i + 1) = (nextLs W n here).take i ++ [nextL (dr W i) here]:=by
    have e:(nextLs W n here)[i]? = some (nextL (dr W i) here):=by
     unfold nextLs
     rw [List.getElem?_map,List.getElem?_range hi]
     rfl
    rw [List.take_add_one,e]
    rfl
   rw [et]
   exact g3
  ·rintro ys τ H2 ⟨gr,_,v,rfl⟩
   rw [List.length_map,List.length_map,List.length_range,List.take_of_length_le (by rw [next_len]; exact Nat.le_refl _)] at gr
   exact q D2 ys H2 gr
def spNextG (want:Bool):Sp:=fun vs H Q _=>∃ (a l:Addr) (n b:Nat) (W:World2) (here:List Bool),vs = [.ref a,.ref l]∧DAt H (.ref a) (wdat W)∧Valid n b W∧n ≤ 1000 ∧
 H l = some (.lst (here.map V.bl))∧here.length = n∧∀ (q:Addr) (L:List Lb) (us:List V) (H':Hp),Grow lbdat H H' q L us→L.length = n→(∀ k,k < n→lbOk (L.getD k default) (dr W k) = true)→(∀ k,k < n→nxR want here L k (dr W k) = true)→Q (.ref q) H'
def whoS (sm:Bool):Str:=if sm then "some" else "all"
def spJoined:Sp:=fun vs H Q _=>∃ (a c:Addr) (k n b:Nat) (m:Int) (sm:Bool) (W:World2) (reached:List Bool),vs = [.ref a,.int (k:Int),.ref c,.int m,.str (whoS sm)]∧DAt H (.ref a) (wdat W)∧Valid n b W∧b ≤ 1000∧k < n ∧
 H c = some (.lst (reached.map V.bl))∧reached.length = n∧∀ (t:Addr) (H':Hp),Same H H'→H t = none→H' t = some (.tup [.bl (joinL sm (dr W k) reached m).1,ov (joinL sm (dr W k) reached m).2.1,ov (joinL sm (dr W k) reached m).2.2])→Q (.ref t) H'
theorem ok_joined_label {f g h:Addr} {fd gd hd:FuncData} (F:Fun K "joined_label" "joined_label" sd_joined_label f fd) (B2:Blt2 mg) (G_doors_of:FnOk P w K mg base CX0 1 g gd ["world","place"] spDoors) (M_doors_of:MG K mg "doors_of" ["world","place"] g gd)
  (G_door_to:FnOk P w K mg base CX0 2 h hd ["world","place","wanted"] spDoorTo) (M_door_to:MG K mg "door_to" ["world","place","wanted"] h hd):FnOk P w K mg base CX0 3 f fd ["world","place","reached","number","who"] spJoined:=by
 refine F.ok sc_joined_label (fun vs H Q E h=>?_) (fun cdv A outer s H vs Q E hr h=>?_)
 ·obtain ⟨a,c,k,n,b,m,sm,W,reached,rfl,_⟩:=h
  rfl
 obtain ⟨a,c,k,n,b,m,sm,W,reached,rfl,ha,hW,hb,hk,hc,lc,q⟩:=h
 have inn:=(dr_in hW hk).2
 have kW:k < W.length:=by rw [hW.len]; exact hk
 refine ⟨_,
  (pss_cons (ps_if (pt_cmpR op_eq (pv 4) pe_str (nomark _))
  (pss_cons (ps_set (i:=5) sc_joined_label.nd rfl (Or.inl rfl) (pe_cm G_door_to M_door_to hr rfl (pa_cons (pv 0) (pa_cons (pv 1) (pa_cons (pv 2) pa_nil)))))
  (pss_one (ps_ret (pe_ifExp (pt_cmp (pc_isN (pv 5))) (pe_tup (pa_cons pe_bl (pa_cons pe_non (pa_cons pe_non pa_nil)))) (pe_tup (pa_cons pe_bl (pa_cons (pv 3) (pa_cons (pv 5) pa_nil))))))))
  pss_nil)
  (pss_cons (ps_set (i:=6) sc_joined_label.nd rfl (Or.inl rfl) (pe_callB (call_all rfl) rfl B2.all bAll (pa_cons (pe_comp rfl cs_joined_label_0 rfl rfl (pi_list (pe_cm G_doors_of M_doors_of hr rfl (pa_cons (pv 0) (pa_cons (pv 1) pa_nil)))) (fun _ _ _ _ _=>pg_name (i:=0) cs_joined_label_0.nd rfl (Or.inl rfl)) (fun _ _ _ _ _=>pf_nil) (fun _ _ _ _ _=>(pe_ix cix_list (pv 1) (pv 0) (fun _ _=>rfl)))) pa_nil)))
  (pss_one (ps_ret (pe_ifExp (pt_val (pv 6)) (pe_tup (pa_cons pe_bl (pa_cons (pv 3) (pa_cons pe_non pa_nil)))) (pe_tup (pa_cons pe_bl (pa_cons pe_non (pa_cons pe_non pa_nil))))))))),?_⟩
 cases sm with
 | true =>
  refine ⟨_,rfl,rfl,_,rfl,itS (fun _=>?_) (fun h=>absurd rfl h)⟩
  refine ⟨_,rfl,_,rfl,_,rfl,a,c,k,n,b,W,reached,rfl,ha,hW,hk,hc,lc,?_⟩
  unfold joinL at q
  rw [if_pos rfl] at q
  cases hd:doorTo (dr W k) reached with
  | none =>
   rw [hd] at q
   exact ⟨_,rfl,_,rfl,iteT ⟨line_le (by show 3 ≤ 16000000; decide),fun t ht=>q t _ (same_new ht _) ht upd_same⟩⟩
  | some e =>
   rw [hd] at q
   exact ⟨_,rfl,_,rfl,iteF ⟨_,rfl,_,rfl,line_le (by show 3 ≤ 16000000; decide),fun t ht=>q t _ (same_new ht _) ht upd_same⟩⟩
 | false =>
  refine ⟨_,rfl,rfl,_,rfl,itS (fun h=>absurd h (by decide +kernel)) (fun _=>?_)⟩
  refine ⟨_,rfl,_,rfl,a,k,W,rfl,ha,kW,fun d hd=>⟨d,rfl,⟨_,SqL.of hd⟩,fun D hD=>?_⟩⟩
  have few:(dr W k).length ≤ 1000:=by
   obtain ⟨_,_,_,_,_,_,_,_,_,l⟩:=doors_at ha hW hk
   omega
  refine comp_over (xs:=(dr W k).map V.int) (fun i ys τ H'=>ys = (((dr W k).take i).map fun e=>reached.getD e.toNat false).map V.bl∧H' D = some (.lst ys)∧Same H H'∧∃ v,τ = [v,some (.ref c)]) ⟨rfl,upd_same,same_new hD _,none,rfl⟩ (fun i ys τ H' _ h=>SqL.of (h.2.2.1 _ _ hd)) ?_ ?_
  ·rintro i y ys τ H1 hy ⟨rfl,hD1,sm,v,rfl⟩
   obtain ⟨e,rfl,he⟩:=int_mem hy
   obtain ⟨e0,e1⟩:=inn e (List.mem_of_getElem? he)
   have ea:atI (reached.map V.bl) e = some (V.bl (reached.getD e.toNat false)):=by
    have:=row_at (H:=H1) (a:=a) (l:=reached) (k:=e.toNat) (by omega)
    rwa [show ((e.toNat:Nat):Int) = e by omega] at this
   refine ⟨_,rfl,_,rfl,c,_,_,_,rfl,rfl,SqL.of (sm _ _ hc),ea,hD1,line_lt ?_,?_,upd_same,same_upd sm hD _,_,rfl⟩
   ·rw [List.length_map,List.length_map,List.length_take]
    omega
   ·rw [List.take_add_one,he,List.map_append,List.map_append]
    rfl
  ·rintro ys τ H1 ⟨rfl,hD1,sm,v,rfl⟩
   rw [List.length_map,List.take_length] at hD1
   refine ⟨D,_,rfl,SqL.of hD1,?_⟩
   have e:(((dr W k).map fun e=>reached.getD e.toNat false).all id) = (dr W k).all fun e=>reached.getD e.toNat false:=by rw [List.all_map]; rfl
   rw [e]
   unfold joinL at q
   rw [if_neg Bool.false_ne_true] at q
   cases hq:(dr W k).all (fun e=>reached.getD e.toNat false) with
   | true =>
    rw [hq] at q
    exact ⟨_,rfl,_,rfl,iteT ⟨_,rfl,line_le (by show 3 ≤ 16000000; decide),fun t ht=>q t _ (sm.trans (same_new ht _)) (sm.free ht) upd_same⟩⟩
   | false =>
    rw [hq] at q
    exact ⟨_,rfl,_,rfl,iteF ⟨line_le (by show 3 ≤ 16000000; decide),fun t ht=>q t _ (sm.trans (same_new ht _)) (sm.free ht) upd_same⟩⟩
def spGrownL:Sp:=fun vs H Q _=>∃ (a l r:Addr) (sm:Bool) (n b:Nat) (W:World2) (left right:List Bool),vs = [.ref a,.ref l,.ref r,.str (whoS sm)]∧DAt H (.ref a) (wdat W)∧Valid n b W∧n ≤ 1000∧b ≤ 1000 ∧
 H l = some (.lst (left.map V.bl))∧H r = some (.lst (right.map V.bl))∧left.length = n∧right.length = n ∧
 ∀ (q:Addr) (L:List Lb) (us:List V) (m:Int) (H':Hp),Grow lbdat H H' q L us→GrowInv sm W n left right m L→Still sm W n left L→Q (.ref q) H'
theorem ok_grown_labels {f g h:Addr} {fd gd hd:FuncData} (F:Fun K "grown_labels" "grown_labels" sd_grown_labels f fd) (B:Blt mg) (G_p_truths_of:FnOk P w K mg base CX0 1 g gd ["labels"] spTruths) (M_p_truths_of:MG K mg "truths_of" ["labels"] g gd)
  (G_joined_label:FnOk P w K mg base CX0 3 h hd ["world","place","reached","number","who"] spJoined) (M_joined_label:MG K mg "joined_label" ["world","place","reached","number","who"] h hd):FnOk P w K mg base CX0 4 f fd ["world","left","right","who"] spGrownL:=by
 refine F.ok sc_grown_labels (fun vs H Q E h=>?_) (fun cdv A outer s H vs Q E hr h=>?_)
 ·obtain ⟨a,l,r,sm,n,b,W,left,right,rfl,_⟩:=h
  rfl
 obtain ⟨a,l,r,sm,n,b,W,left,right,rfl,ha,hW,hn,hb,hl,hr',ll,lr,q⟩:=h
 obtain ⟨a',ws,e,hA,hw⟩:=DAt.lst_inv ha
 cases e
 have lw:=hw.length
 rw [List.length_map,hW.len] at lw
 refine ⟨_,
  (pss_cons (ps_comp (i:=4) sc_grown_labels.nd rfl rfl rfl cs_grown_labels_0 rfl rfl (pi_list (pv 2)) (fun _ _ _ _ _=>pg_name (i:=0) cs_grown_labels_0.nd rfl (Or.inl rfl)) (fun _ _ _ _ _=>pf_nil) (fun _ _ _ _ _=>(pe_ifExp (pt_val (pv 0)) (pe_tup (pa_cons pe_bl (pa_cons pe_int (pa_cons pe_non pa_nil)))) (pe_tup (pa_cons pe_bl (pa_cons pe_non (pa_cons pe_non pa_nil)))))))
  (pss_cons (ps_set (i:=5) sc_grown_labels.nd rfl (Or.inl rfl) pe_int)
  (pss_cons (ps_set (i:=6) sc_grown_labels.nd rfl (Or.inl rfl) pe_bl)
  (pss_cons (ps_while PassesOwn.never (pt_val (pv 6))
  (pss_cons (ps_set (i:=5) sc_grown_labels.nd rfl (Or.inl rfl) (pe_op op_add (pv 5) pe_int))
  (pss_cons (ps_set (i:=6) sc_grown_labels.nd rfl (Or.inl rfl) pe_bl)
  (pss_cons (ps_set (i:=7) sc_grown_labels.nd rfl (Or.inl rfl) (pe_cm G_p_truths_of M_p_truths_of hr rfl (pa_cons (pv 4) pa_nil)))
  (pss_one (ps_for PassesOwn.never rfl (pi_range1 rfl B.range (pa_cons (pe_callB call_len_seq rfl B.len PySem.boot_len (pa_cons (pv 0) pa_nil)) pa_nil)) (pg_name (i:=8) sc_grown_labels.nd rfl (Or.inl rfl))
  (pss_one (ps_if (PW.pt (pw_and (pt_val (pe_ix ix_list (pv 1) (pv 8) (fun _ _=>rfl))) (pw_and1 (pt_not (pt_val (pe_ix ix_list (pv 7) (pv 8) (fun _ _=>rfl)))))))
  (pss_cons (ps_asg (pe_cm G_joined_label M_joined_label hr rfl (pa_cons (pv 0) (pa_cons (pv 8) (pa_cons (pv 7) (pa_cons (pv 5) (pa_cons (pv 3) pa_nil)))))) (pg_sub (pv 4) (pv 8) set_list))
  (pss_one (ps_set (i:=6) sc_grown_labels.nd rfl (Or.inl rfl) (pe_or (pv 6) (pe_one (pe_ix ix_tup (pe_ix ix_list (pv 4) (pv 8) (fun _ _=>rfl)) pe_int (fun _ _=>rfl)))))))
  pss_nil))))))))
  (pss_one (ps_ret (pv 4))))))),?_⟩
 refine ⟨_,rfl,r,rfl,⟨_,SqL.of hr'⟩,fun p hp=>?_⟩
 refine comp_over (xs:=right.map V.bl) (fun i ys τ H'=>Grow lbdat H H' p (startL (right.take i)) ys∧∃ v,τ = [v]) ⟨Grow.start hp,none,rfl⟩ (fun i ys τ H' _ h=>SqL.of (h.1.same _ _ hr')) ?_ ?_
 ·rintro i y ys τ H1 hy ⟨gr,v,rfl⟩
  obtain ⟨x,hx,rfl⟩:∃ x,right[i]? = some x∧V.bl x = y:=by
   rw [List.getElem?_map] at hy
   cases e:right[i]? with
   | none=>rw [e] at hy; cases hy
   | some x=>rw [e] at hy; exact ⟨x,rfl,Option.some.inj hy⟩
  have lg:=gr.len
  unfold startL at lg
  rw [List.length_map,List.length_take] at lg
  have tk:startL (right.take (i + 1)) = startL (right.take i) ++ [if x then (true,some 0,none) else (false,none,none)]:=by
   unfold startL
   rw [List.take_add_one,hx,List.map_append]
   rfl
  rw [tk]
  refine ⟨_,rfl,_,rfl,?_⟩
  cases x with
  | true =>
   refine iteT ⟨line_le (by show 3 ≤ 16000000; decide),fun t ht=>?_⟩
   have nt:=gr.fresh_ne ht
   have g2:=gr.keep (same_new ht (.tup [V.bl true,V.int 0,V.non]))
   refine ⟨g2.at_,line_lt (by omega),g2.push (v:=.ref t) (t:=(true,some 0,none)) (lbdat_mk (l:=(true,some 0,none)) (by rw [del_ne nt]; exact upd_same)),_,rfl⟩
  | false =>
   refine iteF ⟨line_le (by show 3 ≤ 16000000; decide),fun t ht=>?_⟩
   have nt:=gr.fresh_ne ht
   have g2:=gr.keep (same_new ht (.tup [V.bl false,V.non,V.non]))
   refine ⟨g2.at_,line_lt (by omega),g2.push (v:=.ref t) (t:=(false,none,none)) (lbdat_mk (l:=(false,none,none)) (by rw [del_ne nt]; exact upd_same)),_,rfl⟩
 rintro ys τ H1 ⟨gr0,v,rfl⟩
 rw [List.length_map,List.take_length] at gr0
 have l0:(startL right).length = n:=by unfold startL; rw [List.length_map,lr]
 have i0:GrowInv sm W n left right 0 (startL right):=GrowInv.start l0 (fun k hk=>start_at (by omega)) b hW
 refine ⟨fun c σ' H'=>∃ (m:Int) (L:List Lb) (us:List V) (gw:Bool) (o7 o8:Option V),σ' = [some (.ref a),some (.ref l),some (.ref r),some (.str (whoS sm)),some (.ref p),some (.int m),some (.bl gw),o7,o8] ∧
   Grow lbdat H H' p L us∧GrowInv sm W n left right m L∧(gw = false→Still sm W n left L)∧c = (if gw then 1 else 0) + cf n L,
  ⟨_,0,_,_,true,none,none,rfl,gr0,i0,(fun z=>nomatch z),rfl⟩,?_⟩
 clear gr0 i0 l0
 rintro c σ' H2 ⟨m,L,us,gw,o7,o8,rfl,gr,gi,stl,rfl⟩
 refine ⟨_,rfl,_,rfl,?_⟩
 cases gw with
 | false=>exact iteF ⟨_,rfl,q p L us m H2 gr gi (stl rfl)⟩
 | true =>
  refine iteT ⟨_,fun _ _ h=>h,?_⟩
  refine ⟨_,rfl,_,_,rfl,rfl,?_⟩
  refine ⟨_,rfl,p,L,rfl,gr.done,by rw [gi.len]; exact hn,fun rr H3 s3 hf hrr=>?_⟩
  have nr:rr ≠ p:=gr.fresh_ne hf
  have g3:=gr.keep s3
  refine ⟨_,rfl,a,_,rfl,.inl (SqL.of (g3.same _ _ hA)),_,rfl,by omega,by omega,for_range (lo:=0) (n:=ws.length)
   (fun i σ' H'=>∃ (L':List Lb) (us':List V) (o8:Option V),σ' = [some (.ref a),some (.ref l),some (.ref r),some (.str (whoS sm)),some (.ref p),some (.int (m + 1)),some (.bl (grewB sm W left m L i)),some (.ref rr),o8] ∧
    Grow lbdat H H' p L' us'∧H' rr = some (.lst ((trs L).map V.bl))∧L'.length = n∧∀ k,k < n→L'.getD k default = if k < i then newL sm W left m L k else L.getD k default)
   ⟨L,us,_,rfl,g3,hrr,gi.len,fun k _=>by rw [if_neg (Nat.not_lt_zero k)]⟩ ?_ ?_⟩
  ·rintro i σ' H4 hi ⟨L',us',o8,rfl,g4,hrr4,l4,h4⟩
   rw [lw] at hi
   have ia:atI (left.map V.bl) (0 + (i:Int)) = some (V.bl (left.getD i false)):=by rw [Int.zero_add]; exact row_at (H:=H) (a:=a) (by omega)
   have ib:atI ((trs L).map V.bl) (0 + (i:Int)) = some (V.bl (L.getD i default).1):=by
    rw [Int.zero_add,← trs_at]
    exact row_at (H:=H) (a:=a) (by unfold trs; rw [List.length_map,gi.len]; exact hi)
   have nxt:∀ k,k < n→(if k < i + 1 then newL sm W left m L k else L.getD k default) = if k = i then newL sm W left m L i else if k < i then newL sm W left m L k else L.getD k default:=fun k _=>by
    by_cases e:k = i
    ·subst e
     rw [if_pos (Nat.lt_succ_self _),if_pos rfl]
    ·rw [if_neg e]
     by_cases e2:k < i
     ·rw [if_pos e2,if_pos (by omega)]
     ·rw [if_neg e2,if_neg (by omega)]
   refine ⟨_,rfl,_,rfl,l,_,_,_,rfl,rfl,SqL.of (g4.same _ _ hl),ia,_,rfl,?_⟩
   have skip:(left.getD i false && !(L.getD i default).1) = false→∃ (L'':List Lb) (us'':List V) (o8':Option V),[some (V.ref a),some (.ref l),some (.ref r),some (.str (whoS sm)),some (.ref p),some (.int (m + 1)),some (.bl (grewB sm W left m L i)),some (.ref rr),some (.int (0 + (i:Int)))] = [some (.ref a),some (.ref l),some (.ref r),some (.str (whoS sm)),some (.ref p),some (.int (m + 1)),some (.bl (grewB sm W left m L (i + 1))),some (.ref rr),o8'] ∧
     Grow lbdat H H4 p L'' us''∧H4 rr = some (.lst ((trs L).map V.bl))∧L''.length = n∧∀ k,k < n→L''.getD k default = if k < i + 1 then newL sm W left m L k else L.getD k default:=fun hc=>by
    have e:newL sm W left m L i = L.getD i default:=by unfold newL; rw [hc,if_neg Bool.false_ne_true]
    have eg:grewB sm W left m L (i + 1) = grewB sm W left m L i:=by
     rw [grew_succ,e]
     cases (L.getD i default).1 <;> simp
    refine ⟨L',us',_,by rw [eg],g4,hrr4,l4,fun k hk=>?_⟩
    rw [nxt k hk,h4 k hk]
    by_cases ek:k = i
    ·subst ek
     rw [if_neg (Nat.lt_irrefl _),if_pos rfl,e]
    ·rw [if_neg ek]
   cases hle:left.getD i false with
   | false=>exact iteF (skip (by rw [hle]; rfl))
   | true =>
    refine iteT ⟨_,rfl,_,rfl,rr,_,_,_,rfl,rfl,SqL.of hrr4,ib,_,rfl,?_⟩
    cases hre:(L.getD i default).1 with
    | true=>exact iteF (skip (by rw [hle,hre]; rfl))
    | false =>
     have ec:newL sm W left m L i = joinL sm (dr W i) (trs L) (m + 1):=by unfold newL; rw [hle,hre]; rfl
     refine iteT ⟨_,rfl,_,rfl,_,rfl,_,rfl,_,rfl,a,rr,i,n,b,m + 1,sm,W,trs L,by rw [Int.zero_add]; rfl,ha.mono g4.same,hW,hb,hi,hrr4,by unfold trs; rw [List.length_map,gi.len],fun t H5 s5 ht5 et=>?_⟩
     rw [← ec] at et
     have nt:=g4.fresh_ne ht5
     have g5:=g4.keep s5
     have hrr5:=s5 _ _ hrr4
     have lu:=g5.len
     have g6:=g5.put (v:=.ref t) (t:=newL sm W left m L i) i (lbdat_mk (by rw [del_ne nt]; exact et))
     refine ⟨_,rfl,_,rfl,p,us',_,i,rfl,rfl,g5.at_,by rw [Int.zero_add]; exact ixN_nat (by omega),?_⟩
     have hrr6:upd H5 p (.lst (us'.set i (.ref t))) rr = some (.lst ((trs L).map V.bl)):=by rw [upd_ne nr]; exact hrr5
     have l6:(L'.set i (newL sm W left m L i)).length = n:=by rw [List.length_set,l4]
     have f6:∀ k,k < n→(L'.set i (newL sm W left m L i)).getD k default = if k < i + 1 then newL sm W left m L k else L.getD k default:=fun k hk=>by
      rw [nxt k hk,set_at (by omega),h4 k hk]
     have eg:=grew_succ sm W left m L i
     rw [hre] at eg
     refine ⟨_,rfl,_,rfl,?_⟩
     cases hg:grewB sm W left m L i with
     | true =>
      rw [hg] at eg
      refine iteT ⟨_,_,_,by rw [eg]; rfl,g6,hrr6,l6,f6⟩
     | false =>
      rw [hg] at eg
      obtain ⟨t',a1,a2⟩:=g6.lab (k:=i) (by omega)
      rw [set_at (by omega),if_pos rfl] at a2
      refine iteF ⟨_,rfl,_,rfl,p,_,_,_,rfl,rfl,SqL.of g6.at_,by rw [Int.zero_add]; exact a1,t',_,_,_,rfl,rfl,SqT.of a2,at0,_,_,_,by rw [eg]; rfl,g6,hrr6,l6,f6⟩
  ·rintro σ' H4 ⟨L',us',o8,rfl,g4,hrr4,l4,h4⟩
   rw [lw] at h4 ⊢
   have h5:∀ k,k < n→L'.getD k default = newL sm W left m L k:=fun k hk=>by rw [h4 k hk,if_pos hk]
   have gi':=gi.step hW l4 h5
   refine ⟨_,?_,m + 1,L',us',_,_,_,rfl,g4,gi',fun hg=>?_,rfl⟩
   ·have le:=cf_le (tru_keep h5)
    cases hg:grewB sm W left m L n with
    | false =>
     show 0 + cf n L' < 1 + cf n L
     omega
    | true =>
     unfold grewB at hg
     rw [List.any_eq_true] at hg
     obtain ⟨k,hk,hg⟩:=hg
     rw [Bool.and_eq_true] at hg
     have lt:=cf_lt (tru_keep h5) ⟨k,List.mem_range.mp hk,by simpa using hg.1,by rw [h5 k (List.mem_range.mp hk)]; exact hg.2⟩
     show 1 + cf n L' < 1 + cf n L
     omega
   ·refine still_of (m:=m) h5 (fun k hk hf=>?_) fun k hk=>(dr_in hW hk).2
    rw [h5 k hk]
    unfold grewB at hg
    rw [List.any_eq_false] at hg
    have:=hg k (List.mem_range.mpr hk)
    rw [hf] at this
    cases hz:(newL sm W left m L k).1 with
    | false=>rfl
    | true=>rw [hz] at this; exact absurd rfl this
def spUntilG (sm:Bool):Sp:=fun vs H Q _=>∃ (a l r:Addr) (n b:Nat) (W:World2) (left right:List Bool),vs = [.ref a,.ref l,.ref r]∧DAt H (.ref a) (wdat W)∧Valid n b W∧n ≤ 1000∧b ≤ 1000 ∧
 H l = some (.lst (left.map V.bl))∧H r = some (.lst (right.map V.bl))∧left.length = n∧right.length = n ∧
 ∀ (q:Addr) (L:List Lb) (us:List V) (H':Hp),Grow lbdat H H' q L us→L.length = n→(∀ k,k < n→lbOk (L.getD k default) (dr W k) = true)→(∀ k,k < n→(if sm then suR2 left right L k (dr W k) else auR left right L k (dr W k)) = true)→Q (.ref q) H'
def spFalseDoors:Sp:=fun vs H Q _=>∃ (a l c:Addr) (n b:Nat) (W:World2) (left:List Bool) (L:List Lb),vs = [.ref a,.ref l,.ref c]∧DAt H (.ref a) (wdat W)∧Valid n b W∧n ≤ 1000 ∧
 H l = some (.lst (left.map V.bl))∧left.length = n∧DAt H (.ref c) (lsdat L)∧L.length = n∧∀ (q:Addr) (us:List V) (H':Hp),Grow lbdat H H' q ((List.range n).map (fdL W left L)) us→Q (.ref q) H'
theorem ok_with_false_doors {f g h e:Addr} {fd gd hd ed:FuncData} (F:Fun K "with_false_doors" "with_false_doors" sd_with_false_doors f fd) (B:Blt mg) (G_p_truths_of:FnOk P w K mg base CX0 1 g gd ["labels"] spTruths) (M_p_truths_of:MG K mg "truths_of" ["labels"] g gd)
  (G_p_turned:FnOk P w K mg base CX0 1 h hd ["truths"] spNots) (M_p_turned:MG K mg "turned" ["truths"] h hd) (G_door_to:FnOk P w K mg base CX0 2 e ed ["world","place","wanted"] spDoorTo) (M_door_to:MG K mg "door_to" ["world","place","wanted"] e ed) :
  FnOk P w K mg base CX0 3 f fd ["world","left","labels"] spFalseDoors:=by
 refine F.ok sc_with_false_doors (fun vs H Q E h=>?_) (fun cdv A outer s H vs Q E hr h=>?_)
 ·obtain ⟨a,l,c,n,b,W,left,L,rfl,_⟩:=h
  rfl
 obtain ⟨a,l,c,n,b,W,left,L,rfl,ha,hW,hn,hl,ll,hc,lc,q⟩:=h
 obtain ⟨a',ws,e,hA,hw⟩:=DAt.lst_inv ha
 cases e
 have lw:=hw.length
 rw [List.length_map,hW.len] at lw
 have lt:(trs L).length = n:=by unfold trs; rw [List.length_map,lc]
 refine ⟨_,
  (pss_cons (ps_set (i:=3) sc_with_false_doors.nd rfl (Or.inl rfl) (pe_cm G_p_turned M_p_turned hr rfl (pa_cons (pe_cm G_p_truths_of M_p_truths_of hr rfl (pa_cons (pv 2) pa_nil)) pa_nil)))
  (pss_cons (ps_set (i:=4) sc_with_false_doors.nd rfl (Or.inl rfl) (pe_lst pa_nil))
  (pss_cons (ps_for PassesOwn.never rfl (pi_range1 rfl B.range (pa_cons (pe_callB call_len_seq rfl B.len PySem.boot_len (pa_cons (pv 0) pa_nil)) pa_nil)) (pg_name (i:=5) sc_with_false_doors.nd rfl (Or.inl rfl))
  (pss_one (ps_if (PW.pt (pw_and (pt_val (pe_ix ix_list (pv 1) (pv 5) (fun _ _=>rfl))) (pw_and1 (pt_val (pe_ix ix_list (pv 3) (pv 5) (fun _ _=>rfl))))))
  (pss_one (ps_expr (pe_bm PySem.F.plainAttrs_list PySem.F.slot_list_append PySem.F.type_list_append mt_append (pv 4) (pa_cons (pe_tup (pa_cons pe_bl (pa_cons pe_non (pa_cons (pe_cm G_door_to M_door_to hr rfl (pa_cons (pv 0) (pa_cons (pv 5) (pa_cons (pv 3) pa_nil)))) pa_nil)))) pa_nil))))
  (pss_one (ps_expr (pe_bm PySem.F.plainAttrs_list PySem.F.slot_list_append PySem.F.type_list_append mt_append (pv 4) (pa_cons (pe_ix ix_list (pv 2) (pv 5) (fun _ _=>rfl)) pa_nil)))))))
  (pss_one (ps_ret (pv 4)))))),?_⟩
 refine ⟨_,rfl,c,L,rfl,hc,by omega,fun c1 H1 s1 hf1 h1=>⟨c1,trs L,rfl,h1,by omega,fun mi H2 s2 hf2 h2=>?_⟩⟩
 have S2:=s1.trans s2
 refine ⟨line_le (by show 0 ≤ 16000000; decide),fun p hp=>?_⟩
 have nm:mi ≠ p:=ne_of_none h2 hp
 have lm:((trs L).map (!·)).length = n:=by rw [List.length_map,lt]
 refine ⟨_,rfl,a,_,rfl,.inl (SqL.of (same_new hp _ _ _ (S2 _ _ hA))),_,rfl,by omega,by omega,for_range (lo:=0) (n:=ws.length)
  (fun i σ' H'=>∃ (us:List V) (o5:Option V),σ' = [some (.ref a),some (.ref l),some (.ref c),some (.ref mi),some (.ref p),o5]∧Grow lbdat H H' p ((List.range i).map (fdL W left L)) us∧H' mi = some (.lst (((trs L).map (!·)).map V.bl)))
  ⟨[],none,rfl,Grow.from S2 hp,same_new hp _ _ _ h2⟩ ?_ ?_⟩
 ·rintro i σ' H4 hi ⟨us,o5,rfl,g4,hm4⟩
  rw [lw] at hi
  have lu:=g4.len
  rw [List.length_map,List.length_range] at lu
  have ia:atI (left.map V.bl) (0 + (i:Int)) = some (V.bl (left.getD i false)):=by rw [Int.zero_add]; exact row_at (H:=H) (a:=a) (by omega)
  have ib:atI (((trs L).map (!·)).map V.bl) (0 + (i:Int)) = some (V.bl (!(L.getD i default).1)):=by
   rw [Int.zero_add,← trs_at,← not_at _ (by omega)]
   exact row_at (H:=H) (a:=a) (by omega)
  have more:(List.range (i + 1)).map (fdL W left L) = (List.range i).map (fdL W left L) ++ [fdL W left L i]:=by rw [List.range_succ,List.map_append]; rfl
  obtain ⟨vs,t,hcv,ht,dt,_⟩:=lab_at hc (k:=i) (by omega)
  have keep:(left.getD i false && !(L.getD i default).1) = false→∃ (us':List V) (o5:Option V),[some (V.ref a),some (.ref l),some (.ref c),some (.ref mi),some (.ref p),some (.int (0 + (i:Int)))] = [some (.ref a),some (.ref l),some (.ref c),some (.ref mi),some (.ref p),o5] ∧
    Grow lbdat H (upd H4 p (.lst (us ++ [.ref t]))) p ((List.range (i + 1)).map (fdL W left L)) us'∧upd H4 p (.lst (us ++ [.ref t])) mi = some (.lst (((trs L).map (!·)).map V.bl)):=fun hcd=>by
   refine ⟨us ++ [.ref t],_,rfl,?_,by rw [upd_ne nm]; exact hm4⟩
   have e:fdL W left L i = L.getD i default:=by unfold fdL; rw [hcd,if_neg Bool.false_ne_true]
   rw [more,e]
   exact g4.push (g4.old dt)
  refine ⟨_,rfl,_,rfl,l,_,_,_,rfl,rfl,SqL.of (g4.same _ _ hl),ia,_,rfl,?_⟩
  cases hle:left.getD i false with
  | false =>
   refine iteF ⟨_,rfl,.inl ⟨rfl,_,SqL.of g4.at_⟩,_,rfl,_,rfl,c,_,_,_,rfl,rfl,SqL.of (g4.same _ _ hcv),by rw [Int.zero_add]; exact atI_nat ht,p,us,_,rfl,rfl,g4.at_,line_lt (by omega),keep (by rw [hle]; rfl)⟩
  | true =>
   refine iteT ⟨_,rfl,_,rfl,mi,_,_,_,rfl,rfl,SqL.of hm4,ib,_,rfl,?_⟩
   cases hre:(L.getD i default).1 with
   | true =>
    refine iteF ⟨_,rfl,.inl ⟨rfl,_,SqL.of g4.at_⟩,_,rfl,_,rfl,c,_,_,_,rfl,rfl,SqL.of (g4.same _ _ hcv),by rw [Int.zero_add]; exact atI_nat ht,p,us,_,rfl,rfl,g4.at_,line_lt (by omega),keep (by rw [hle,hre]; rfl)⟩
   | false =>
    refine iteT ⟨_,rfl,.inl ⟨rfl,_,SqL.of g4.at_⟩,_,rfl,_,rfl,_,rfl,a,mi,i,n,b,W,(trs L).map (!·),by rw [Int.zero_add]; rfl,ha.mono g4.same,hW,hi,hm4,lm,line_le (by show 3 ≤ 16000000; decide),fun t2 ht2=>?_⟩
    have nt:=g4.fresh_ne ht2
    have g5:=g4.keep (same_new ht2 (.tup [V.bl false,V.non,ov (doorTo (dr W i) ((trs L).map (!·)))]))
    refine ⟨p,us,_,rfl,rfl,g5.at_,line_lt (by omega),us ++ [.ref t2],_,rfl,?_,by rw [upd_ne nm]; exact same_new ht2 _ _ _ hm4⟩
    have e:fdL W left L i = (false,none,doorTo (dr W i) ((trs L).map (!·))):=by unfold fdL; rw [hle,hre]; rfl
    rw [more,e]
    exact g5.push (v:=.ref t2) (t:=(false,none,doorTo (dr W i) ((trs L).map (!·)))) (lbdat_mk (l:=(false,none,doorTo (dr W i) ((trs L).map (!·)))) (by rw [del_ne nt]; exact upd_same))
 ·rintro σ' H4 ⟨us,o5,rfl,g4,hm4⟩
  rw [lw] at g4
  exact ⟨_,rfl,q p us H4 g4⟩
theorem ok_some_until {f g:Addr} {fd gd:FuncData} (F:Fun K "some_until" "some_until" sd_some_until f fd) (G_grown_labels:FnOk P w K mg base CX0 4 g gd ["world","left","right","who"] spGrownL) (M_grown_labels:MG K mg "grown_labels" ["world","left","right","who"] g gd) :
  FnOk P w K mg base CX0 5 f fd ["world","left","right"] (spUntilG true):=by
 refine F.ok sc_some_until (fun vs H Q E h=>?_) (fun cdv A outer s H vs Q E hr h=>?_)
 ·obtain ⟨a,l,r,n,b,W,left,right,rfl,_⟩:=h
  rfl
 obtain ⟨a,l,r,n,b,W,left,right,rfl,ha,hW,hn,hb,hl,hr',ll,lr,q⟩:=h
 refine ⟨_,
  (pss_one (ps_ret (pe_cm G_grown_labels M_grown_labels hr rfl (pa_cons (pv 0) (pa_cons (pv 1) (pa_cons (pv 2) (pa_cons pe_str pa_nil))))))),?_⟩
 refine ⟨_,rfl,_,rfl,_,rfl,a,l,r,true,n,b,W,left,right,rfl,ha,hW,hn,hb,hl,hr',ll,lr,fun q' L us m H' gr gi st=>?_⟩
 have d:=su_done hW gi st
 exact q q' L us H' gr gi.len (fun k hk=>(d k hk).1) fun k hk=>(d k hk).2
theorem until_some {f:Addr} {fd:FuncData} (G:FnOk P w K mg base CX0 5 f fd ["world","left","right"] (spUntilG true)):FnOk P w K mg base CX0 20 f fd ["world","left","right"] (spUntil suR) :=
 (G.mono (by decide)).imp fun vs H Q E h=>by
  obtain ⟨a,b,c,n,W,left,right,rfl,hW,hv,n1,n2,hl,hr,ll,lr,q⟩:=h
  exact ⟨a,b,c,n,200,W,left,right,rfl,hW,hv,by omega,by decide,hl,hr,ll,lr,fun q' L us H' gr len ok su=>q (.ref q') L H' gr.same gr.done len ok fun k hk=>su2_su (su k hk)⟩
theorem ok_all_until {f g h:Addr} {fd gd hd:FuncData} (F:Fun K "all_until" "all_until" sd_all_until f fd) (G_grown_labels:FnOk P w K mg base CX0 4 g gd ["world","left","right","who"] spGrownL) (M_grown_labels:MG K mg "grown_labels" ["world","left","right","who"] g gd)
  (G_with_false_doors:FnOk P w K mg base CX0 3 h hd ["world","left","labels"] spFalseDoors) (M_with_false_doors:MG K mg "with_false_doors" ["world","left","labels"] h hd) :
  FnOk P w K mg base CX0 5 f fd ["world","left","right"] (spUntilG false):=by
 refine F.ok sc_all_until (fun vs H Q E h=>?_) (fun cdv A outer s H vs Q E hr h=>?_)
 ·obtain ⟨a,l,r,n,b,W,left,right,rfl,_⟩:=h
  rfl
 obtain ⟨a,l,r,n,b,W,left,right,rfl,ha,hW,hn,hb,hl,hr',ll,lr,q⟩:=h
 refine ⟨_,
  (pss_one (ps_ret (pe_cm G_with_false_doors M_with_false_doors hr rfl (pa_cons (pv 0) (pa_cons (pv 1) (pa_cons (pe_cm G_grown_labels M_grown_labels hr rfl (pa_cons (pv 0) (pa_cons (pv 1) (pa_cons (pv 2) (pa_cons pe_str pa_nil))))) pa_nil)))))),?_⟩
 refine ⟨_,rfl,_,rfl,_,rfl,_,rfl,_,rfl,a,l,r,false,n,b,W,left,right,rfl,ha,hW,hn,hb,hl,hr',ll,lr,fun q' L us m H' gr gi st=>?_⟩
 have sm:=gr.same
 refine ⟨a,l,q',n,b,W,left,L,rfl,ha.mono sm,hW,hn,sm _ _ hl,ll,gr.done,gi.len,fun q2 us2 H2 g2=>?_⟩
 have at_:∀ k,k < n→((List.range n).map (fdL W left L)).getD k default = fdL W left L k:=fun k hk=>by
  rw [List.getD_eq_getElem?_getD,List.getElem?_map,List.getElem?_range hk]
  rfl
 have d:=au_done hW gi st at_
 have g3:Grow lbdat H H2 q2 ((List.range n).map (fdL W left L)) us2:=by
  obtain ⟨⟨G,x1,x2,x3,x4⟩,x5⟩:=g2
  exact ⟨⟨G,sm.trans x1,x2,x3,x4⟩,x5⟩
 exact q q2 _ us2 H2 g3 (by rw [List.length_map,List.length_range]) (fun k hk=>(d k hk).1) fun k hk=>(d k hk).2
theorem until_all {f:Addr} {fd:FuncData} (G:FnOk P w K mg base CX0 5 f fd ["world","left","right"] (spUntilG false)):FnOk P w K mg base CX0 20 f fd ["world","left","right"] (spUntil auR) :=
 (G.mono (by decide)).imp fun vs H Q E h=>by
  obtain ⟨a,b,c,n,W,left,right,rfl,hW,hv,n1,n2,hl,hr,ll,lr,q⟩:=h
  exact ⟨a,b,c,n,200,W,left,right,rfl,hW,hv,by omega,by decide,hl,hr,ll,lr,fun q' L us H' gr len ok su=>q (.ref q') L H' gr.same gr.done len ok su⟩
def spReach:Sp:=fun vs H Q _=>∃ (a l c:Addr) (n b:Nat) (W:World2) (here kept:List Bool),vs = [.ref a,.ref l,.ref c]∧DAt H (.ref a) (wdat W)∧Valid n b W∧n ≤ 1000∧b ≤ 1000 ∧
 H l = some (.lst (here.map V.bl))∧H c = some (.lst (kept.map V.bl))∧here.length = n∧kept.length = n ∧
 ∀ (q:Addr) (L:List Lb) (us:List V) (H':Hp),Grow lbdat H H' q L us→L.length = n→SuAll W n (allT n) (goalsOf W n here kept) L→Q (.ref q) H'
theorem ok_reaching {f g h e:Addr} {fd gd hd ed:FuncData} (F:Fun K "reaching" "reaching" sd_reaching f fd) (B:Blt mg) (G_door_to:FnOk P w K mg base CX0 2 g gd ["world","place","wanted"] spDoorTo) (M_door_to:MG K mg "door_to" ["world","place","wanted"] g gd)
  (G_everywhere:FnOk P w K mg base CX0 1 h hd ["world"] spEvery) (M_everywhere:MG K mg "everywhere" ["world"] h hd) (G_some_until:FnOk P w K mg base CX0 5 e ed ["world","left","right"] (spUntilG true)) (M_some_until:MG K mg "some_until" ["world","left","right"] e ed) :
  FnOk P w K mg base CX0 6 f fd ["world","here","kept"] spReach:=by
 refine F.ok sc_reaching (fun vs H Q E h=>?_) (fun cdv A outer s H vs Q E hr h=>?_)
 ·obtain ⟨a,l,c,n,b,W,here,kept,rfl,_⟩:=h
  rfl
 obtain ⟨a,l,c,n,b,W,here,kept,rfl,ha,hW,hn,hb,hl,hc,ll,lc,q⟩:=h
 obtain ⟨a',ws,e,hA,hw⟩:=DAt.lst_inv ha
 cases e
 have lw:=hw.length
 rw [List.length_map,hW.len] at lw
 refine ⟨_,
  (pss_cons (ps_comp (i:=3) sc_reaching.nd rfl rfl rfl cs_reaching_0 rfl rfl (pi_range1 rfl B.range (pa_cons (pe_callB call_len_seq rfl B.len PySem.boot_len (pa_cons (pv 0) pa_nil)) pa_nil)) (fun _ _ _ _ _=>pg_name (i:=0) cs_reaching_0.nd rfl (Or.inl rfl)) (fun _ _ _ _ _=>pf_nil) (fun _ _ _ _ _=>(pe_and (pe_ix cix_list (pv 1) (pv 0) (fun _ _=>rfl)) (pe_one (pe_cmp (pc_notN (pe_cm G_door_to M_door_to hr rfl (pa_cons (pv 3) (pa_cons (pv 0) (pa_cons (pv 2) pa_nil))))))))))
  (pss_one (ps_ret (pe_cm G_some_until M_some_until hr rfl (pa_cons (pv 0) (pa_cons (pe_cm G_everywhere M_everywhere hr rfl (pa_cons (pv 0) pa_nil)) (pa_cons (pv 3) pa_nil))))))),?_⟩
 refine ⟨_,rfl,a,_,rfl,.inl (SqL.of hA),_,rfl,by omega,by omega,fun D hD=>?_⟩
 refine comp_range (lo:=0) (n:=ws.length) (fun i ys τ H'=>ys = ((List.range i).map (goalB W here kept)).map V.bl∧H' D = some (.lst ys)∧Same H H'∧∃ v,τ = [v,some (.ref l),some (.ref c),some (.ref a)]) ⟨rfl,upd_same,same_new hD _,none,rfl⟩ ?_ ?_
 ·rintro i ys τ H1 hi ⟨rfl,hD1,sm,v,rfl⟩
  rw [lw] at hi
  have ia:atI (here.map V.bl) (0 + (i:Int)) = some (V.bl (here.getD i false)):=by rw [Int.zero_add]; exact row_at (H:=H) (a:=a) (by omega)
  have lz:(((List.range i).map (goalB W here kept)).map V.bl).length = i:=by rw [List.length_map,List.length_map,List.length_range]
  have more:∀ x:Bool,x = goalB W here kept i→((List.range i).map (goalB W here kept)).map V.bl ++ [V.bl x] = ((List.range (i + 1)).map (goalB W here kept)).map V.bl:=fun x e=>by
   rw [List.range_succ,List.map_append,List.map_append,e]
   rfl
  refine ⟨_,rfl,_,rfl,l,_,_,_,rfl,rfl,SqL.of (sm _ _ hl),ia,_,rfl,?_⟩
  cases hh:here.getD i false with
  | false=>exact iteF ⟨hD1,line_lt (by omega),more _ (by unfold goalB; rw [hh]; rfl),upd_same,same_upd sm hD _,_,rfl⟩
  | true =>
   refine iteT ⟨_,rfl,_,rfl,_,rfl,a,c,i,n,b,W,kept,by rw [Int.zero_add]; rfl,ha.mono sm,hW,hi,sm _ _ hc,lc,hD1,line_lt (by omega),more _ ?_,upd_same,same_upd sm hD _,_,rfl⟩
   unfold goalB
   rw [hh]
   cases doorTo (dr W i) kept <;> rfl
 ·rintro ys τ H1 ⟨rfl,hD1,sm,v,rfl⟩
  rw [lw] at hD1
  refine ⟨_,rfl,_,rfl,a,W,rfl,ha.mono sm,by rw [hW.len]; exact hn,fun c1 H2 s2 f2 h2=>?_⟩
  rw [hW.len] at h2
  have S2:=sm.trans s2
  refine ⟨_,rfl,a,c1,D,n,b,W,allT n,goalsOf W n here kept,rfl,ha.mono S2,hW,hn,hb,h2,s2 _ _ hD1,by unfold allT; rw [List.length_replicate],by unfold goalsOf; rw [List.length_map,List.length_range],fun q' L us H' gr len ok su=>?_⟩
  have g3:Grow lbdat H H' q' L us:=by
   obtain ⟨⟨G,x1,x2,x3,x4⟩,x5⟩:=gr
   exact ⟨⟨G,S2.trans x1,x2,x3,x4⟩,x5⟩
  exact q q' L us H' g3 len ⟨ok,fun k hk=>su2_su (su k hk)⟩
theorem ov_none {o:Option Int}:decide (ov o = V.non) = o.isNone:=by cases o <;> rfl
theorem kept_comp {K:PySem.W.Frag} {H:Hp} {a D:Addr} {N:List (Option Int)} (h:H a = some (.lst (N.map ov))) (few:N.length ≤ 1000) {Q:VK} (hD:H D = none) (hq:∀ H1,Same H H1→H1 D = some (.lst ((keptOf N).map V.bl))→Q (.ref D) H1) :
  CompRd D (Itl K a) (gName 0) (fun _ H Q=>Q true H) (tIsN (tVar 0)) Q [none] (upd H D (.lst [])):=by
 refine comp_over (xs:=N.map ov) (fun i ys τ H'=>Same H H'∧H' D = some (.lst ys)∧ys = ((keptOf N).take i).map V.bl∧∃ v,τ = [v]) ⟨same_new hD _,upd_same,rfl,none,rfl⟩ (fun i ys τ H' _ z=>SqL.of (z.1 _ _ h)) ?_ ?_
 ·rintro i y ys τ H4 hy ⟨s4,hD3,rfl,v,rfl⟩
  obtain ⟨x,hx,rfl⟩:∃ x,N[i]? = some x∧ov x = y:=by
   rw [List.getElem?_map] at hy
   cases e:N[i]? with
   | none=>rw [e] at hy; cases hy
   | some x=>rw [e] at hy; exact ⟨x,rfl,Option.some.inj hy⟩
  refine ⟨_,rfl,hD3,line_lt ?_,same_upd s4 hD _,upd_same,?_,_,rfl⟩
  ·unfold keptOf
   rw [List.length_map,List.length_take,List.length_map]
   omega
  ·have e:(keptOf N)[i]? = some x.isNone:=by unfold keptOf; rw [List.getElem?_map,hx]; rfl
   rw [List.take_add_one,e,List.map_append,ov_none]
   rfl
 ·rintro ys τ H4 ⟨s4,hD3,rfl,v,rfl⟩
  refine hq H4 s4 ?_
  rw [hD3,List.length_map,List.take_of_length_le (by unfold keptOf; rw [List.length_map]; exact Nat.le_refl _)]
def spMost:Sp:=fun vs H Q _=>∃ (a l:Addr) (n b:Nat) (W:World2) (here:List Bool),vs = [.ref a,.ref l]∧DAt H (.ref a) (wdat W)∧Valid n b W∧n ≤ 1000∧b ≤ 1000 ∧
 H l = some (.lst (here.map V.bl))∧here.length = n ∧
 ∀ (p:Addr) (N:List (Option Int)) (m:Int) (R:List Lb) (H':Hp),Same H H'→H p = none→H' p = some (.lst (N.map ov))→FallInv W n here m N→SuAll W n (allT n) (goalsOf W n here (keptOf N)) R→(∀ k,k < n→N.getD k none = none→(R.getD k default).1 = true)→Q (.ref p) H'
theorem ok_most_times {f g h:Addr} {fd gd hd:FuncData} (F:Fun K "most_times" "most_times" sd_most_times f fd) (B:Blt mg) (G_p_truths_of:FnOk P w K mg base CX0 1 g gd ["labels"] spTruths) (M_p_truths_of:MG K mg "truths_of" ["labels"] g gd)
  (G_reaching:FnOk P w K mg base CX0 6 h hd ["world","here","kept"] spReach) (M_reaching:MG K mg "reaching" ["world","here","kept"] h hd):FnOk P w K mg base CX0 7 f fd ["world","here"] spMost:=by
 refine F.ok sc_most_times (fun vs H Q E h=>?_) (fun cdv A outer s H vs Q E hr h=>?_)
 ·obtain ⟨a,l,n,b,W,here,rfl,_⟩:=h
  rfl
 obtain ⟨a,l,n,b,W,here,rfl,ha,hW,hn,hb,hl,ll,q⟩:=h
 obtain ⟨a',ws,e,hA,hw⟩:=DAt.lst_inv ha
 cases e
 have lw:=hw.length
 rw [List.length_map,hW.len] at lw
 refine ⟨_,
  (pss_cons (ps_comp (i:=2) sc_most_times.nd rfl rfl rfl cs_most_times_0 rfl rfl (pi_list (pv 0)) (fun _ _ _ _ _=>pg_name (i:=0) cs_most_times_0.nd rfl (Or.inl rfl)) (fun _ _ _ _ _=>pf_nil) (fun _ _ _ _ _=>pe_non))
  (pss_cons (ps_set (i:=3) sc_most_times.nd rfl (Or.inl rfl) pe_int)
  (pss_cons (ps_set (i:=4) sc_most_times.nd rfl (Or.inl rfl) pe_bl)
  (pss_cons (ps_while PassesOwn.never (pt_val (pv 4))
  (pss_cons (ps_set (i:=4) sc_most_times.nd rfl (Or.inl rfl) pe_bl)
  (pss_cons (ps_comp (i:=5) sc_most_times.nd rfl rfl rfl cs_most_times_1 rfl rfl (pi_list (pv 2)) (fun _ _ _ _ _=>pg_name (i:=0) cs_most_times_1.nd rfl (Or.inl rfl)) (fun _ _ _ _ _=>pf_nil) (fun _ _ _ _ _=>(pe_cmp (pc_isN (pv 0)))))
  (pss_cons (ps_set (i:=6) sc_most_times.nd rfl (Or.inl rfl) (pe_cm G_p_truths_of M_p_truths_of hr rfl (pa_cons (pe_cm G_reaching M_reaching hr rfl (pa_cons (pv 0) (pa_cons (pv 1) (pa_cons (pv 5) pa_nil)))) pa_nil)))
  (pss_cons (ps_for PassesOwn.never rfl (pi_range1 rfl B.range (pa_cons (pe_callB call_len_seq rfl B.len PySem.boot_len (pa_cons (pv 0) pa_nil)) pa_nil)) (pg_name (i:=7) sc_most_times.nd rfl (Or.inl rfl))
  (pss_one (ps_if (PW.pt (pw_and (pt_val (pe_ix ix_list (pv 5) (pv 7) (fun _ _=>rfl))) (pw_and1 (pt_not (pt_val (pe_ix ix_list (pv 6) (pv 7) (fun _ _=>rfl)))))))
  (pss_cons (ps_asg (pv 3) (pg_sub (pv 2) (pv 7) set_list))
  (pss_one (ps_set (i:=4) sc_most_times.nd rfl (Or.inl rfl) pe_bl)))
  pss_nil)))
  (pss_one (ps_set (i:=3) sc_most_times.nd rfl (Or.inl rfl) (pe_op op_add (pv 3) pe_int))))))))
  (pss_one (ps_ret (pv 2))))))),?_⟩
 refine ⟨_,rfl,a,rfl,⟨_,SqL.of hA⟩,fun p hp=>?_⟩
 refine comp_over (xs:=ws) (fun i ys τ H'=>i ≤ 1000∧ys = (List.replicate i none).map ov∧H' p = some (.lst ys)∧Same H H'∧∃ v,τ = [v]) ⟨Nat.zero_le _,rfl,upd_same,same_new hp _,none,rfl⟩ (fun i ys τ H' _ h=>SqL.of (h.2.2.2.1 _ _ hA)) ?_ ?_
 ·rintro i y ys τ H1 hy ⟨hi,rfl,hD1,sm,v,rfl⟩
  have hi':=(List.getElem?_eq_some_iff.mp hy).1
  refine ⟨hD1,line_lt ?_,by omega,?_,upd_same,same_upd sm hp _,_,rfl⟩
  ·rw [List.length_map,List.length_replicate]
   omega
  ·rw [List.replicate_succ',List.map_append]
   rfl
 rintro ys τ H1 ⟨_,rfl,hp1,s1,v,rfl⟩
 rw [lw] at hp1
 have none_:∀ k,(List.replicate n (none:Option Int)).getD k none = none:=fun k=>by
  rw [List.getD_eq_getElem?_getD,List.getElem?_replicate]
  split <;> rfl
 have i0:FallInv W n here 0 (List.replicate n none):=⟨List.length_replicate,Int.le_refl _,(fun k _ x e=>by rw [none_] at e; cases e),fun k _ x e=>by rw [none_] at e; cases e⟩
 refine ⟨fun c σ' H'=>∃ (m:Int) (N:List (Option Int)) (fl:Bool) (o5 o6 o7:Option V),σ' = [some (.ref a),some (.ref l),some (.ref p),some (.int m),some (.bl fl),o5,o6,o7]∧Same H H'∧H' p = some (.lst (N.map ov))∧FallInv W n here m N ∧
   (fl = false→∃ R,SuAll W n (allT n) (goalsOf W n here (keptOf N)) R∧∀ k,k < n→N.getD k none = none→(R.getD k default).1 = true)∧c = (if fl then 1 else 0) + cn n N,
  ⟨_,0,_,true,none,none,none,rfl,s1,hp1,i0,(fun z=>nomatch z),rfl⟩,?_⟩
 clear i0 none_ hp1 s1
 rintro c σ' H2 ⟨m,N,fl,o5,o6,o7,rfl,s2,hp2,fi,dn,rfl⟩
 refine ⟨_,rfl,_,rfl,?_⟩
 cases fl with
 | false =>
  obtain ⟨R,r1,r2⟩:=dn rfl
  exact iteF ⟨_,rfl,q p N m R H2 s2 hp hp2 fi r1 r2⟩
 | true =>
  refine iteT ⟨_,fun _ _ h=>h,?_⟩
  have lN:=fi.len
  refine ⟨_,rfl,p,rfl,⟨_,SqL.of hp2⟩,fun kp hkp=>kept_comp hp2 (by omega) hkp fun H3 s3 hk3=>?_⟩
  have S3:=s2.trans s3
  have np:kp ≠ p:=fun z=>by rw [z,hp2] at hkp; cases hkp
  have lk:(keptOf N).length = n:=by unfold keptOf; rw [List.length_map,lN]
  refine ⟨_,rfl,_,rfl,_,rfl,a,l,kp,n,b,W,here,keptOf N,rfl,ha.mono S3,hW,hn,hb,S3 _ _ hl,hk3,ll,lk,fun rq R us H4 g4 lR sR=>?_⟩
  have S4:=S3.trans g4.same
  refine ⟨rq,R,rfl,g4.done,by omega,fun rd H5 s5 hf5 h5=>?_⟩
  have S5:=S4.trans s5
  have hk5:=s5 _ _ (g4.same _ _ hk3)
  have hp5:=s5 _ _ (g4.same _ _ (s3 _ _ hp2))
  have nr:rd ≠ p:=fun z=>by rw [z,g4.same _ _ (s3 _ _ hp2)] at hf5; cases hf5
  refine ⟨_,rfl,a,_,rfl,.inl (SqL.of (S5 _ _ hA)),_,rfl,by omega,by omega,for_range (lo:=0) (n:=ws.length)
   (fun i σ' H'=>∃ (N':List (Option Int)) (o7:Option V),σ' = [some (.ref a),some (.ref l),some (.ref p),some (.int m),some (.bl (fellB N R i)),some (.ref kp),some (.ref rd),o7]∧Same H H'∧H' p = some (.lst (N'.map ov)) ∧
    H' kp = some (.lst ((keptOf N).map V.bl))∧H' rd = some (.lst ((trs R).map V.bl))∧N'.length = n∧∀ k,k < n→N'.getD k none = if k < i then newN N R m k else N.getD k none)
   ⟨N,_,rfl,S5,hp5,hk5,h5,lN,fun k _=>by rw [if_neg (Nat.not_lt_zero k)]⟩ ?_ ?_⟩
  ·rintro i σ' H6 hi ⟨N',o7,rfl,S6,hp6,hk6,hr6,l6,h6⟩
   rw [lw] at hi
   have ia:atI ((keptOf N).map V.bl) (0 + (i:Int)) = some (V.bl ((keptOf N).getD i false)):=by rw [Int.zero_add]; exact row_at (H:=H) (a:=a) (by omega)
   have ib:atI ((trs R).map V.bl) (0 + (i:Int)) = some (V.bl (R.getD i default).1):=by
    rw [Int.zero_add,← trs_at]
    exact row_at (H:=H) (a:=a) (by unfold trs; rw [List.length_map,lR]; exact hi)
   have skip:((keptOf N).getD i false && !(R.getD i default).1) = false→∃ (N'':List (Option Int)) (o7':Option V),[some (V.ref a),some (.ref l),some (.ref p),some (.int m),some (.bl (fellB N R i)),some (.ref kp),some (.ref rd),some (.int (0 + (i:Int)))] = [some (.ref a),some (.ref l),some (.ref p),some (.int m),some (.bl (fellB N R (i + 1))),some (.ref kp),some (.ref rd),o7']∧Same H H6∧H6 p = some (.lst (N''.map ov)) ∧
     H6 kp = some (.lst ((keptOf N).map V.bl))∧H6 rd = some (.lst ((trs R).map V.bl))∧N''.length = n∧∀ k,k < n→N''.getD k none = if k < i + 1 then newN N R m k else N.getD k none:=fun hc=>by
    refine ⟨N',_,by rw [fell_succ,hc,Bool.or_false],S6,hp6,hk6,hr6,l6,fun k hk=>?_⟩
    rw [step_if (x:=newN N R m) (y:=fun k=>N.getD k none),h6 k hk]
    by_cases ek:k = i
    ·subst ek
     rw [if_neg (Nat.lt_irrefl _),if_pos rfl]
     unfold newN
     rw [hc,if_neg Bool.false_ne_true]
    ·rw [if_neg ek]
   refine ⟨_,rfl,_,rfl,kp,_,_,_,rfl,rfl,SqL.of hk6,ia,_,rfl,?_⟩
   cases hke:(keptOf N).getD i false with
   | false=>exact iteF (skip (by rw [hke]; rfl))
   | true =>
    refine iteT ⟨_,rfl,_,rfl,rd,_,_,_,rfl,rfl,SqL.of hr6,ib,_,rfl,?_⟩
    cases hre:(R.getD i default).1 with
    | true=>exact iteF (skip (by rw [hke,hre]; rfl))
    | false =>
     have en:newN N R m i = some m:=by unfold newN; rw [hke,hre]; rfl
     refine iteT ⟨_,rfl,_,rfl,_,rfl,p,_,_,i,rfl,rfl,hp6,by rw [Int.zero_add,List.length_map]; exact ixN_nat (by omega),?_⟩
     refine ⟨N'.set i (some m),_,by rw [fell_succ,hke,hre]; simp; rfl,same_upd S6 hp _,?_,by rw [upd_ne np]; exact hk6,by rw [upd_ne nr]; exact hr6,by rw [List.length_set,l6],fun k hk=>?_⟩
     ·rw [upd_same,List.map_set]
      rfl
     ·rw [step_if (x:=newN N R m) (y:=fun k=>N.getD k none),set_at (by omega),h6 k hk,en]
  ·rintro σ' H6 ⟨N',o7,rfl,S6,hp6,hk6,hr6,l6,h6⟩
   rw [lw] at h6 ⊢
   have h7:∀ k,k < n→N'.getD k none = newN N R m k:=fun k hk=>by rw [h6 k hk,if_pos hk]
   have fi':=fi.step hW l6 (fun k hk=>goals_at hk) sR h7
   refine ⟨_,rfl,_,_,rfl,rfl,?_⟩
   refine ⟨_,?_,m + 1,N',_,_,_,_,rfl,S6,hp6,fi',fun hg=>?_,rfl⟩
   ·have le:=cn_le h7
    cases hg:fellB N R n with
    | false =>
     show 0 + cn n N' < 1 + cn n N
     omega
    | true =>
     have lt:=cn_lt lN h7 hg
     show 1 + cn n N' < 1 + cn n N
     omega
   ·obtain ⟨rfl,r2⟩:=not_fell lN l6 h7 hg
    exact ⟨R,sR,r2⟩
theorem Grow.back {α:Type} {φ:α→Dat} {H0 H1 H:Hp} {q:Addr} {ts:List α} {vs:List V} (sm:Same H0 H1) (g:Grow φ H1 H q ts vs):Grow φ H0 H q ts vs:=by
 obtain ⟨⟨G,x1,x2,x3,x4⟩,x5⟩:=g
 exact ⟨⟨G,sm.trans x1,x2,x3,x4⟩,x5⟩
def spAgainG (Rf:List Bool→List Lb→Nat→List Int→Bool):Sp:=fun vs H Q _=>∃ (a l:Addr) (n b:Nat) (W:World2) (here:List Bool),vs = [.ref a,.ref l]∧DAt H (.ref a) (wdat W)∧Valid n b W∧n ≤ 1000∧b ≤ 1000 ∧
 H l = some (.lst (here.map V.bl))∧here.length = n ∧
 ∀ (q:Addr) (L:List Lb) (us:List V) (H':Hp),Grow lbdat H H' q L us→L.length = n→(∀ k,k < n→lbOk (L.getD k default) (dr W k) = true)→(∀ k,k < n→Rf here L k (dr W k) = true)→Q (.ref q) H'
theorem again_of {Rf:List Bool→List Lb→Nat→List Int→Bool} {k:Nat} {f:Addr} {fd:FuncData} (G:FnOk P w K mg base CX0 k f fd ["world","here"] (spAgainG Rf)) (hk:k ≤ 20):FnOk P w K mg base CX0 20 f fd ["world","here"] (spAgain Rf) :=
 (G.mono hk).imp fun vs H Q E h=>by
  obtain ⟨a,b,n,W,here,rfl,hW,hv,n1,n2,hl,ll,q⟩:=h
  exact ⟨a,b,n,200,W,here,rfl,hW,hv,by omega,by decide,hl,ll,fun q' L us H' gr len ok su=>q (.ref q') L H' gr.same gr.done len ok su⟩
theorem ok_all_next {f g h e:Addr} {fd gd hd ed:FuncData} (F:Fun K "all_next" "all_next" sd_all_next f fd) (G_p_turned:FnOk P w K mg base CX0 1 g gd ["truths"] spNots) (M_p_turned:MG K mg "turned" ["truths"] g gd)
  (G_some_next:FnOk P w K mg base CX0 3 h hd ["world","here"] spNextS) (M_some_next:MG K mg "some_next" ["world","here"] h hd) (G_turned_labels:FnOk P w K mg base CX0 1 e ed ["labels"] spTurnL) (M_turned_labels:MG K mg "turned_labels" ["labels"] e ed) :
  FnOk P w K mg base CX0 4 f fd ["world","here"] (spNextG false):=by
 refine F.ok sc_all_next (fun vs H Q E h=>?_) (fun cdv A outer s H vs Q E hr h=>?_)
 ·obtain ⟨a,l,n,b,W,here,rfl,_⟩:=h
  rfl
 obtain ⟨a,l,n,b,W,here,rfl,ha,hW,hn,hl,ll,q⟩:=h
 refine ⟨_,
  (pss_one (ps_ret (pe_cm G_turned_labels M_turned_labels hr rfl (pa_cons (pe_cm G_some_next M_some_next hr rfl (pa_cons (pv 0) (pa_cons (pe_cm G_p_turned M_p_turned hr rfl (pa_cons (pv 1) pa_nil)) pa_nil))) pa_nil)))),?_⟩
 refine ⟨_,rfl,_,rfl,l,here,rfl,hl,by omega,fun c1 H1 s1 f1 h1=>?_⟩
 refine ⟨a,c1,n,b,W,here.map (!·),rfl,ha.mono s1,hW,hn,h1,by rw [List.length_map,ll],fun q2 us H2 g2=>?_⟩
 refine ⟨q2,_,rfl,g2.done,by rw [next_len]; exact hn,fun q3 us3 H3 g3=>?_⟩
 exact q q3 _ us3 H3 ((g3.back g2.same).back s1) (by rw [List.length_map,next_len]) (fun k hk=>(nx_all hW ll hk).1) fun k hk=>(nx_all hW ll hk).2
theorem ok_some_again {f g h e:Addr} {fd gd hd ed:FuncData} (F:Fun K "some_again" "some_again" sd_some_again f fd) (B:Blt mg) (G_most_times:FnOk P w K mg base CX0 7 g gd ["world","here"] spMost) (M_most_times:MG K mg "most_times" ["world","here"] g gd)
  (G_reaching:FnOk P w K mg base CX0 6 h hd ["world","here","kept"] spReach) (M_reaching:MG K mg "reaching" ["world","here","kept"] h hd) (G_door_to:FnOk P w K mg base CX0 2 e ed ["world","place","wanted"] spDoorTo) (M_door_to:MG K mg "door_to" ["world","place","wanted"] e ed) :
  FnOk P w K mg base CX0 8 f fd ["world","here"] (spAgainG saR):=by
 refine F.ok sc_some_again (fun vs H Q E h=>?_) (fun cdv A outer s H vs Q E hr h=>?_)
 ·obtain ⟨a,l,n,b,W,here,rfl,_⟩:=h
  rfl
 obtain ⟨a,l,n,b,W,here,rfl,ha,hW,hn,hb,hl,ll,q⟩:=h
 obtain ⟨a',ws,e,hA,hw⟩:=DAt.lst_inv ha
 cases e
 have lw:=hw.length
 rw [List.length_map,hW.len] at lw
 refine ⟨_,
  (pss_cons (ps_set (i:=2) sc_some_again.nd rfl (Or.inl rfl) (pe_cm G_most_times M_most_times hr rfl (pa_cons (pv 0) (pa_cons (pv 1) pa_nil))))
  (pss_cons (ps_comp (i:=3) sc_some_again.nd rfl rfl rfl cs_some_again_0 rfl rfl (pi_list (pv 2)) (fun _ _ _ _ _=>pg_name (i:=0) cs_some_again_0.nd rfl (Or.inl rfl)) (fun _ _ _ _ _=>pf_nil) (fun _ _ _ _ _=>(pe_cmp (pc_isN (pv 0)))))
  (pss_cons (ps_set (i:=4) sc_some_again.nd rfl (Or.inl rfl) (pe_cm G_reaching M_reaching hr rfl (pa_cons (pv 0) (pa_cons (pv 1) (pa_cons (pv 3) pa_nil)))))
  (pss_cons (ps_for PassesOwn.never rfl (pi_range1 rfl B.range (pa_cons (pe_callB call_len_seq rfl B.len PySem.boot_len (pa_cons (pv 0) pa_nil)) pa_nil)) (pg_name (i:=5) sc_some_again.nd rfl (Or.inl rfl))
  (pss_one (ps_if (pt_not (pt_val (pe_ix ix_list (pv 3) (pv 5) (fun _ _=>rfl))))
  (pss_one (ps_asg (pe_tup (pa_cons pe_bl (pa_cons (pe_ix ix_list (pv 2) (pv 5) (fun _ _=>rfl)) (pa_cons pe_non pa_nil)))) (pg_sub (pv 4) (pv 5) set_list)))
  (pss_one (ps_if (pt_cmpR op_eq (pe_ix ix_tup (pe_ix ix_list (pv 4) (pv 5) (fun _ _=>rfl)) pe_int (fun _ _=>rfl)) pe_int (nomark _))
  (pss_one (ps_asg (pe_tup (pa_cons pe_bl (pa_cons pe_int (pa_cons (pe_cm G_door_to M_door_to hr rfl (pa_cons (pv 0) (pa_cons (pv 5) (pa_cons (pv 3) pa_nil)))) pa_nil)))) (pg_sub (pv 4) (pv 5) set_list)))
  pss_nil)))))
  (pss_one (ps_ret (pv 4))))))),?_⟩
 refine ⟨_,rfl,_,rfl,a,l,n,b,W,here,rfl,ha,hW,hn,hb,hl,ll,fun np N m R H1 s1 f1 h1 fi sR rk=>?_⟩
 have lN:=fi.len
 refine ⟨_,rfl,np,rfl,⟨_,SqL.of h1⟩,fun kp hkp=>kept_comp h1 (by omega) hkp fun H2 s2 hk2=>?_⟩
 have S2:=s1.trans s2
 have hn2:=s2 _ _ h1
 have lk:(keptOf N).length = n:=by unfold keptOf; rw [List.length_map,lN]
 refine ⟨_,rfl,_,rfl,_,rfl,a,l,kp,n,b,W,here,keptOf N,rfl,ha.mono S2,hW,hn,hb,S2 _ _ hl,hk2,ll,lk,fun p L us H3 g3' lL sL=>?_⟩
 have g3:=g3'.back S2
 have hk3:=g3'.same _ _ hk2
 have hn3:=g3'.same _ _ hn2
 have nk:kp ≠ p:=fun z=>by have:=g3'.free; rw [← z,hk2] at this; cases this
 have nn:np ≠ p:=fun z=>by have:=g3'.free; rw [← z,hn2] at this; cases this
 refine ⟨_,rfl,a,_,rfl,.inl (SqL.of (g3.same _ _ hA)),_,rfl,by omega,by omega,for_range (lo:=0) (n:=ws.length)
  (fun i σ' H'=>∃ (L':List Lb) (us':List V) (o5:Option V),σ' = [some (.ref a),some (.ref l),some (.ref np),some (.ref kp),some (.ref p),o5]∧Grow lbdat H H' p L' us'∧H' kp = some (.lst ((keptOf N).map V.bl))∧H' np = some (.lst (N.map ov)) ∧
   L'.length = n∧∀ k,k < n→L'.getD k default = if k < i then newA W N L k else L.getD k default)
  ⟨L,us,none,rfl,g3,hk3,hn3,lL,fun k _=>by rw [if_neg (Nat.not_lt_zero k)]⟩ ?_ ?_⟩
 ·rintro i σ' H4 hi ⟨L',us',o5,rfl,g4,hk4,hn4,l4,h4⟩
  rw [lw] at hi
  have lu:=g4.len
  have hLi:L'.getD i default = L.getD i default:=by rw [h4 i hi,if_neg (Nat.lt_irrefl _)]
  have ia:atI ((keptOf N).map V.bl) (0 + (i:Int)) = some (V.bl ((keptOf N).getD i false)):=by rw [Int.zero_add]; exact row_at (H:=H) (a:=a) (by omega)
  have ib:atI (N.map ov) (0 + (i:Int)) = some (ov (N.getD i none)):=by
   rw [Int.zero_add,getD_eq (by omega)]
   exact atI_nat (map_nth (by omega))
  obtain ⟨t0,a1,a2⟩:=g4.lab (k:=i) (by omega)
  rw [hLi] at a2
  have put:∀ (H5:Hp) (t:Addr),Same H4 H5→H4 t = none→H5 t = some (.tup [.bl (newA W N L i).1,ov (newA W N L i).2.1,ov (newA W N L i).2.2])→∃ (L'':List Lb) (us'':List V) (o5':Option V),[some (V.ref a),some (.ref l),some (.ref np),some (.ref kp),some (.ref p),some (.int (0 + (i:Int)))] = [some (.ref a),some (.ref l),some (.ref np),some (.ref kp),some (.ref p),o5']∧Grow lbdat H (upd H5 p (.lst (us'.set i (.ref t)))) p L'' us'' ∧
    upd H5 p (.lst (us'.set i (.ref t))) kp = some (.lst ((keptOf N).map V.bl))∧upd H5 p (.lst (us'.set i (.ref t))) np = some (.lst (N.map ov))∧L''.length = n∧∀ k,k < n→L''.getD k default = if k < i + 1 then newA W N L k else L.getD k default:=fun H5 t s5 ht et=>by
   have nt:=g4.fresh_ne ht
   have g5:=g4.keep s5
   refine ⟨L'.set i (newA W N L i),_,_,rfl,g5.put (v:=.ref t) (t:=newA W N L i) i (lbdat_mk (by rw [del_ne nt]; exact et)),by rw [upd_ne nk]; exact s5 _ _ hk4,by rw [upd_ne nn]; exact s5 _ _ hn4,by rw [List.length_set,l4],fun k hk=>?_⟩
   rw [step_if (x:=newA W N L) (y:=fun k=>L.getD k default),set_at (by omega),h4 k hk]
  refine ⟨_,rfl,_,rfl,kp,_,_,_,rfl,rfl,SqL.of hk4,ia,_,rfl,?_⟩
  rw [kept_at (by omega)]
  cases hN:N.getD i none with
  | some x =>
   rw [hN] at ib
   refine iteT ⟨_,rfl,_,rfl,np,_,_,_,rfl,rfl,SqL.of hn4,ib,line_le (by show 3 ≤ 16000000; decide),fun t ht=>?_⟩
   have en:newA W N L i = (false,some x,none):=by unfold newA; rw [hN]
   refine ⟨_,rfl,_,rfl,p,us',_,i,rfl,rfl,same_new ht _ _ _ g4.at_,by rw [Int.zero_add]; exact ixN_nat (by omega),put _ t (same_new ht _) ht (by rw [en]; exact upd_same)⟩
  | none =>
   refine iteF ⟨_,rfl,_,rfl,p,_,_,_,rfl,rfl,SqL.of g4.at_,by rw [Int.zero_add]; exact a1,t0,_,_,_,rfl,rfl,SqT.of a2,at1,scal_ov,_,rfl,?_⟩
   rw [dec_ov]
   by_cases h0:(L.getD i default).2.1 = some 0
   ·rw [decide_eq_true h0]
    refine iteT ⟨_,rfl,_,rfl,_,rfl,a,kp,i,n,b,W,keptOf N,by rw [Int.zero_add]; rfl,ha.mono g4.same,hW,hi,hk4,lk,line_le (by show 3 ≤ 16000000; decide),fun t ht=>?_⟩
    have en:newA W N L i = (true,some 0,doorTo (dr W i) (keptOf N)):=by unfold newA; rw [hN]; exact if_pos h0
    refine ⟨_,rfl,_,rfl,p,us',_,i,rfl,rfl,same_new ht _ _ _ g4.at_,by rw [Int.zero_add]; exact ixN_nat (by omega),put _ t (same_new ht _) ht (by rw [en]; exact upd_same)⟩
   ·rw [decide_eq_false h0]
    refine iteF ⟨L',us',_,rfl,g4,hk4,hn4,l4,fun k hk=>?_⟩
    rw [step_if (x:=newA W N L) (y:=fun k=>L.getD k default),h4 k hk]
    by_cases ek:k = i
    ·subst ek
     rw [if_neg (Nat.lt_irrefl _),if_pos rfl]
     unfold newA
     rw [hN]
     exact (if_neg h0).symm
    ·rw [if_neg ek]
 ·rintro σ' H4 ⟨L',us',o5,rfl,g4,hk4,hn4,l4,h4⟩
  rw [lw] at h4
  have h5:∀ k,k < n→L'.getD k default = newA W N L k:=fun k hk=>by rw [h4 k hk,if_pos hk]
  have d:=sa_done fi hW (fun k hk=>goals_at hk) sL (fun k hk hnk=>su_unique hW sR sL k hk (rk k hk hnk)) h5
  exact ⟨_,rfl,q p L' us' H4 g4 l4 (fun k hk=>(d k hk).1) fun k hk=>(d k hk).2⟩
theorem ok_all_again {f g h e d c u:Addr} {fd gd hd ed dd cd ud:FuncData} (F:Fun K "all_again" "all_again" sd_all_again f fd) (B:Blt mg) (G_p_truths_of:FnOk P w K mg base CX0 1 g gd ["labels"] spTruths) (M_p_truths_of:MG K mg "truths_of" ["labels"] g gd)
  (G_p_turned:FnOk P w K mg base CX0 1 h hd ["truths"] spNots) (M_p_turned:MG K mg "turned" ["truths"] h hd) (G_turned_labels:FnOk P w K mg base CX0 1 e ed ["labels"] spTurnL) (M_turned_labels:MG K mg "turned_labels" ["labels"] e ed)
  (G_everywhere:FnOk P w K mg base CX0 1 d dd ["world"] spEvery) (M_everywhere:MG K mg "everywhere" ["world"] d dd) (G_some_until:FnOk P w K mg base CX0 5 c cd ["world","left","right"] (spUntilG true)) (M_some_until:MG K mg "some_until" ["world","left","right"] c cd)
  (G_all_until:FnOk P w K mg base CX0 5 u ud ["world","left","right"] (spUntilG false)) (M_all_until:MG K mg "all_until" ["world","left","right"] u ud):FnOk P w K mg base CX0 6 f fd ["world","here"] (spAgainG aaR):=by
 refine F.ok sc_all_again (fun vs H Q E h=>?_) (fun cdv A outer s H vs Q E hr h=>?_)
 ·obtain ⟨a,l,n,b,W,here,rfl,_⟩:=h
  rfl
 obtain ⟨a,l,n,b,W,here,rfl,ha,hW,hn,hb,hl,ll,q⟩:=h
 obtain ⟨a',ws,e,hA,hw⟩:=DAt.lst_inv ha
 cases e
 have lw:=hw.length
 rw [List.length_map,hW.len] at lw
 have lT:(allT n).length = n:=by unfold allT; rw [List.length_replicate]
 refine ⟨_,
  (pss_cons (ps_set (i:=2) sc_all_again.nd rfl (Or.inl rfl) (pe_cm G_all_until M_all_until hr rfl (pa_cons (pv 0) (pa_cons (pe_cm G_everywhere M_everywhere hr rfl (pa_cons (pv 0) pa_nil)) (pa_cons (pv 1) pa_nil)))))
  (pss_cons (ps_set (i:=3) sc_all_again.nd rfl (Or.inl rfl) (pe_cm G_p_turned M_p_turned hr rfl (pa_cons (pe_cm G_p_truths_of M_p_truths_of hr rfl (pa_cons (pv 2) pa_nil)) pa_nil)))
  (pss_cons (ps_set (i:=4) sc_all_again.nd rfl (Or.inl rfl) (pe_cm G_turned_labels M_turned_labels hr rfl (pa_cons (pe_cm G_some_until M_some_until hr rfl (pa_cons (pv 0) (pa_cons (pe_cm G_everywhere M_everywhere hr rfl (pa_cons (pv 0) pa_nil)) (pa_cons (pv 3) pa_nil)))) pa_nil)))
  (pss_cons (ps_for PassesOwn.never rfl (pi_range1 rfl B.range (pa_cons (pe_callB call_len_seq rfl B.len PySem.boot_len (pa_cons (pv 0) pa_nil)) pa_nil)) (pg_name (i:=5) sc_all_again.nd rfl (Or.inl rfl))
  (pss_one (ps_if (pt_val (pe_ix ix_tup (pe_ix ix_list (pv 4) (pv 5) (fun _ _=>rfl)) pe_int (fun _ _=>rfl)))
  (pss_one (ps_asg (pe_tup (pa_cons pe_bl (pa_cons (pe_ix ix_tup (pe_ix ix_list (pv 2) (pv 5) (fun _ _=>rfl)) pe_int (fun _ _=>rfl)) (pa_cons pe_non pa_nil)))) (pg_sub (pv 4) (pv 5) set_list)))
  (pss_one (ps_if (pt_cmpR op_eq (pe_ix ix_tup (pe_ix ix_list (pv 4) (pv 5) (fun _ _=>rfl)) pe_int (fun _ _=>rfl)) pe_int (nomark _))
  (pss_one (ps_asg (pe_tup (pa_cons pe_bl (pa_cons pe_int (pa_cons (pe_ix ix_tup (pe_ix ix_list (pv 2) (pv 5) (fun _ _=>rfl)) pe_int (fun _ _=>rfl)) pa_nil)))) (pg_sub (pv 4) (pv 5) set_list)))
  pss_nil)))))
  (pss_one (ps_ret (pv 4))))))),?_⟩
 refine ⟨_,rfl,_,rfl,a,W,rfl,ha,by rw [hW.len]; exact hn,fun c1 H1 s1 f1 h1=>?_⟩
 rw [hW.len] at h1
 refine ⟨_,rfl,a,c1,l,n,b,W,allT n,here,rfl,ha.mono s1,hW,hn,hb,h1,s1 _ _ hl,lT,ll,fun op O uo H2 gO lO okO suO=>?_⟩
 have S2:=s1.trans gO.same
 refine ⟨_,rfl,op,O,rfl,gO.done,by omega,fun c3 H3 s3 f3 h3=>⟨c3,trs O,rfl,h3,by unfold trs; rw [List.length_map]; omega,fun wp H4 s4 f4 h4=>?_⟩⟩
 have S4:=S2.trans (s3.trans s4)
 have O4:=gO.done.mono (s3.trans s4)
 have lwo:((trs O).map (!·)).length = n:=by unfold trs; rw [List.length_map,List.length_map,lO]
 refine ⟨_,rfl,_,rfl,a,W,rfl,ha.mono S4,by rw [hW.len]; exact hn,fun c5 H5 s5 f5 h5=>?_⟩
 rw [hW.len] at h5
 have S5:=S4.trans s5
 refine ⟨_,rfl,a,c5,wp,n,b,W,allT n,(trs O).map (!·),rfl,ha.mono S5,hW,hn,hb,h5,s5 _ _ h4,lT,lwo,fun sp S us H6 gS lS okS suS=>?_⟩
 have S6:=S5.trans gS.same
 have O6:=O4.mono (s5.trans gS.same)
 refine ⟨sp,S,rfl,gS.done,by omega,fun p up H7 gT'=>?_⟩
 have gT:=gT'.back S6
 have O7:=O6.mono gT'.same
 have fp:H6 p = none:=gT'.free
 refine ⟨_,rfl,a,_,rfl,.inl (SqL.of (gT.same _ _ hA)),_,rfl,by omega,by omega,for_range (lo:=0) (n:=ws.length)
  (fun i σ' H'=>∃ (L':List Lb) (us':List V) (o5:Option V),σ' = [some (.ref a),some (.ref l),some (.ref op),some (.ref wp),some (.ref p),o5]∧Grow lbdat H6 H' p L' us' ∧
   L'.length = n∧∀ k,k < n→L'.getD k default = if k < i then newB O S k else turnL (S.getD k default))
  ⟨_,up,none,rfl,gT',by rw [List.length_map,lS],fun k hk=>by rw [if_neg (Nat.not_lt_zero k),turnL_at (by omega)]⟩ ?_ ?_⟩
 ·rintro i σ' H8 hi ⟨L',us',o5,rfl,g4,l4,h4⟩
  rw [lw] at hi
  have lu:=g4.len
  have hLi:L'.getD i default = turnL (S.getD i default):=by rw [h4 i hi,if_neg (Nat.lt_irrefl _)]
  obtain ⟨t0,a1,a2⟩:=g4.lab (k:=i) (by omega)
  rw [hLi] at a2
  obtain ⟨vo,to,ho1,ho2,_,ho3⟩:=lab_at (O6.mono g4.same) (k:=i) (by omega)
  have put:∀ (t:Addr),H8 t = none→∀ x:Lb,x = newB O S i→∃ (L'':List Lb) (us'':List V) (o5':Option V),[some (V.ref a),some (.ref l),some (.ref op),some (.ref wp),some (.ref p),some (.int (0 + (i:Int)))] = [some (.ref a),some (.ref l),some (.ref op),some (.ref wp),some (.ref p),o5'] ∧
    Grow lbdat H6 (upd (upd H8 t (.tup [.bl x.1,ov x.2.1,ov x.2.2])) p (.lst (us'.set i (.ref t)))) p L'' us''∧L''.length = n∧∀ k,k < n→L''.getD k default = if k < i + 1 then newB O S k else turnL (S.getD k default):=fun t ht x ex=>by
   have nt:=g4.fresh_ne ht
   have g5:=g4.keep (same_new ht (.tup [.bl x.1,ov x.2.1,ov x.2.2]))
   refine ⟨L'.set i x,_,_,rfl,g5.put (v:=.ref t) (t:=x) i (lbdat_mk (by rw [del_ne nt]; exact upd_same)),by rw [List.length_set,l4],fun k hk=>?_⟩
   rw [step_if (x:=newB O S) (y:=fun k=>turnL (S.getD k default)),set_at (by omega),h4 k hk,ex]
  refine ⟨_,rfl,_,rfl,p,_,_,_,rfl,rfl,SqL.of g4.at_,by rw [Int.zero_add]; exact a1,t0,_,_,_,rfl,rfl,SqT.of a2,at0,_,rfl,?_⟩
  cases hs:(S.getD i default).1 with
  | false =>
   have en:(true,(O.getD i default).2.1,none) = newB O S i:=by unfold newB; rw [if_pos hs]
   have e0:(turnL (S.getD i default)).1 = true:=by unfold turnL; rw [hs]; rfl
   rw [e0]
   refine iteT ⟨_,rfl,_,rfl,op,_,_,_,rfl,rfl,SqL.of ho1,by rw [Int.zero_add]; exact atI_nat ho2,to,_,_,_,rfl,rfl,SqT.of ho3,at1,line_le (by show 3 ≤ 16000000; decide),fun t ht=>?_⟩
   exact ⟨_,rfl,_,rfl,p,us',_,i,rfl,rfl,same_new ht _ _ _ g4.at_,by rw [Int.zero_add]; exact ixN_nat (by omega),put t ht _ en⟩
  | true =>
   have e0:(turnL (S.getD i default)).1 = false:=by unfold turnL; rw [hs]; rfl
   rw [e0]
   refine iteF ⟨_,rfl,_,rfl,p,_,_,_,rfl,rfl,SqL.of g4.at_,by rw [Int.zero_add]; exact a1,t0,_,_,_,rfl,rfl,SqT.of a2,at1,scal_ov,_,rfl,?_⟩
   rw [dec_ov]
   by_cases h0:(S.getD i default).2.1 = some 0
   ·rw [decide_eq_true (show (turnL (S.getD i default)).2.1 = some 0 from h0)]
    have en:(false,some 0,(O.getD i default).2.2) = newB O S i:=by unfold newB; rw [if_neg (by rw [hs]; exact fun z=>nomatch z),if_pos h0]
    refine iteT ⟨_,rfl,_,rfl,op,_,_,_,rfl,rfl,SqL.of ho1,by rw [Int.zero_add]; exact atI_nat ho2,to,_,_,_,rfl,rfl,SqT.of ho3,at2,line_le (by show 3 ≤ 16000000; decide),fun t ht=>?_⟩
    exact ⟨_,rfl,_,rfl,p,us',_,i,rfl,rfl,same_new ht _ _ _ g4.at_,by rw [Int.zero_add]; exact ixN_nat (by omega),put t ht _ en⟩
   ·rw [decide_eq_false (show ¬ (turnL (S.getD i default)).2.1 = some 0 from h0)]
    refine iteF ⟨L',us',_,rfl,g4,l4,fun k hk=>?_⟩
    rw [step_if (x:=newB O S) (y:=fun k=>turnL (S.getD k default)),h4 k hk]
    by_cases ek:k = i
    ·subst ek
     rw [if_neg (Nat.lt_irrefl _),if_pos rfl]
     unfold newB
     rw [if_neg (by rw [hs]; exact fun z=>nomatch z),if_neg h0]
    ·rw [if_neg ek]
 ·rintro σ' H8 ⟨L',us',o5,rfl,g4,l4,h4⟩
  rw [lw] at h4
  have h9:∀ k,k < n→L'.getD k default = newB O S k:=fun k hk=>by rw [h4 k hk,if_pos hk]
  have d:=aa_done hW okO suO (fun k hk=>by rw [not_at _ (by unfold trs; rw [List.length_map]; omega),trs_at]) okS suS h9
  exact ⟨_,rfl,q p L' us' H8 (g4.back S6) l4 (fun k hk=>(d k hk).1) fun k hk=>(d k hk).2⟩
def spOther:Sp:=fun vs H Q _=>∃ who:Str,vs = [.str who]∧Q (.str (mate who)) H
theorem ok_other_who {f:Addr} {fd:FuncData} (F:Fun K "other_who" "other_who" sd_other_who f fd):FnOk P w K mg base CX0 1 f fd ["who"] spOther:=by
 refine F.ok sc_other_who (fun vs H Q E h=>?_) (fun cdv A outer s H vs Q E hr h=>?_)
 ·obtain ⟨who,rfl,_⟩:=h
  rfl
 obtain ⟨who,rfl,q⟩:=h
 refine ⟨_,
  (pss_one (ps_ret (pe_ifExp (pt_cmpR op_eq (pv 0) pe_str (nomark _)) pe_str pe_str))),?_⟩
 refine ⟨_,rfl,rfl,_,rfl,itS (fun e=>?_) (fun e=>?_)⟩
 ·unfold mate at q
  rw [if_pos e] at q
  exact q
 ·unfold mate at q
  rw [if_neg e] at q
  exact q
def spPlainT:Sp:=fun vs H Q _=>∃ (a p rs:Addr) (n b:Nat) (W:World2) (t:T) (rows:List (List Bool)),vs = [.ref a,.ref p,.ref rs]∧DAt H (.ref a) (wdat W)∧Valid n b W∧n ≤ 1000∧DAt H (.ref p) t.dat∧t.fit∧plainB t.so = true∧Rows H rs n rows∧rows.length = t.kids.length ∧
 ∀ (c:Addr) (H':Hp),Same H H'→H c = none→H' c = some (.lst ((plRow W n t rows).map V.bl))→Q (.ref c) H'
theorem ok_plain_truths {f g h:Addr} {fd gd hd:FuncData} (F:Fun K "plain_truths" "plain_truths" sd_plain_truths f fd) (B:Blt mg) (B3:Blt3 mg) (G_marks_of:FnOk P w K mg base CX0 1 g gd ["world","place"] spMarks) (M_marks_of:MG K mg "marks_of" ["world","place"] g gd)
  (G_p_turned:FnOk P w K mg base CX0 1 h hd ["truths"] spNots) (M_p_turned:MG K mg "turned" ["truths"] h hd):FnOk P w K mg base CX0 2 f fd ["world","part","own"] spPlainT:=by
 refine F.ok sc_plain_truths (fun vs H Q E h=>?_) (fun cdv A outer s H vs Q E hr h=>?_)
 ·obtain ⟨a,p,rs,n,b,W,t,rows,rfl,_⟩:=h
  rfl
 obtain ⟨a,p,rs,n,b,W,t,rows,rfl,ha,hW,hn,hp,hf,hpl,R,lr,q⟩:=h
 obtain ⟨a',ws,e,hA,hw⟩:=DAt.lst_inv ha
 cases e
 have lw:=hw.length
 rw [List.length_map,hW.len] at lw
 obtain ⟨ks,ep,em,_⟩:=part_at hp hf
 refine ⟨_,
  (pss_cons (ps_set (i:=3) sc_plain_truths.nd rfl (Or.inl rfl) (pe_ix ix_tup (pv 1) pe_int (fun _ _=>rfl)))
  (pss_cons (ps_if (pt_cmpR op_eq (pv 3) pe_str (nomark _))
  (pss_one (ps_ret (pe_comp rfl cs_plain_truths_0 rfl rfl (pi_range1 rfl B.range (pa_cons (pe_callB call_len_seq rfl B.len PySem.boot_len (pa_cons (pv 0) pa_nil)) pa_nil)) (fun _ _ _ _ _=>pg_name (i:=0) cs_plain_truths_0.nd rfl (Or.inl rfl)) (fun _ _ _ _ _=>pf_nil) (fun _ _ _ _ _=>(pe_cmpR cop_in (pe_ix cix_tup (pv 1) pe_int (fun _ _=>rfl)) (pe_cm G_marks_of M_marks_of hr rfl (pa_cons (pv 2) (pa_cons (pv 0) pa_nil))) rfl)))))
  pss_nil)
  (pss_cons (ps_if (pt_cmpR op_eq (pv 3) pe_str (nomark _))
  (pss_one (ps_ret (pe_cm G_p_turned M_p_turned hr rfl (pa_cons (pe_ix ix_list (pv 2) pe_int (fun _ _=>rfl)) pa_nil))))
  pss_nil)
  (pss_cons (ps_if (pt_cmpR op_eq (pv 3) pe_str (nomark _))
  (pss_one (ps_ret (pe_comp rfl cs_plain_truths_1 rfl rfl (pi_zip rfl B3.zip (pa_cons (pe_ix ix_list (pv 2) pe_int (fun _ _=>rfl)) (pa_cons (pe_ix ix_list (pv 2) pe_int (fun _ _=>rfl)) pa_nil))) (fun _ _ _ _ _=>cpg_tup (n:=2) rfl (pgs_cons (pg_name (i:=0) cs_plain_truths_1.nd rfl (Or.inl rfl)) (pgs_cons (pg_name (i:=1) cs_plain_truths_1.nd rfl (Or.inl rfl)) pgs_nil))) (fun _ _ _ _ _=>pf_nil) (fun _ _ _ _ _=>(pe_and (pv 0) (pe_one (pv 1)))))))
  pss_nil)
  (pss_one (ps_ret (pe_comp rfl cs_plain_truths_2 rfl rfl (pi_zip rfl B3.zip (pa_cons (pe_ix ix_list (pv 2) pe_int (fun _ _=>rfl)) (pa_cons (pe_ix ix_list (pv 2) pe_int (fun _ _=>rfl)) pa_nil))) (fun _ _ _ _ _=>cpg_tup (n:=2) rfl (pgs_cons (pg_name (i:=0) cs_plain_truths_2.nd rfl (Or.inl rfl)) (pgs_cons (pg_name (i:=1) cs_plain_truths_2.nd rfl (Or.inl rfl)) pgs_nil))) (fun _ _ _ _ _=>pf_nil) (fun _ _ _ _ _=>(pe_or (pv 0) (pe_one (pv 1))))))))))),?_⟩
 refine ⟨_,rfl,p,_,_,_,rfl,rfl,SqT.of ep,at0,?_⟩
 refine ⟨_,rfl,rfl,_,rfl,itS (fun c1=>?_) (fun c1=>?_)⟩
 ·-- a mark
  have ek:=em c1
  subst ek
  refine ⟨_,rfl,a,_,rfl,.inl (SqL.of hA),_,rfl,by omega,by omega,fun D hD=>?_⟩
  refine comp_range (lo:=0) (n:=ws.length) (fun i ys τ H'=>ys = ((List.range i).map fun k=>plR t.so t.mk (W.getD k default) rows k).map V.bl∧H' D = some (.lst ys)∧Same H H'∧∃ v,τ = [v,some (.ref p),some (.ref a)]) ⟨rfl,upd_same,same_new hD _,none,rfl⟩ ?_ ?_
  ·rintro i ys τ H1 hi ⟨rfl,hD1,sm,v,rfl⟩
   rw [lw] at hi
   refine ⟨_,rfl,p,_,_,_,rfl,rfl,SqT.of (sm _ _ ep),at1,_,rfl,_,rfl,a,i,W,by rw [Int.zero_add]; rfl,ha.mono sm,by rw [hW.len]; exact hi,fun d hd=>⟨d,_,rfl,.inl (SqL.of hd),rfl,flat_ints,hD1,line_lt ?_,?_,upd_same,same_upd sm hD _,_,rfl⟩⟩
   ·rw [List.length_map,List.length_map,List.length_range]
    omega
   ·rw [List.range_succ,List.map_append,List.map_append]
    have e:plR t.so t.mk (W.getD i default) rows i = decide (t.mk ∈ (W.getD i default).1):=by unfold plR; rw [if_pos c1]
    show _ = _ ++ [V.bl (plR t.so t.mk (W.getD i default) rows i)]
    rw [e,← inV_int]
    rfl
  ·rintro ys τ H1 ⟨rfl,hD1,sm,v,rfl⟩
   rw [lw] at hD1
   exact q D H1 sm hD hD1
 have pos:=kids_pos hf c1
 obtain ⟨us,a0,hrs,at_0,ha0,l0⟩:=R.nth (i:=0) (by omega)
 refine ⟨_,rfl,rfl,_,rfl,itS (fun c2=>?_) (fun c2=>?_)⟩
 ·-- a not
  refine ⟨_,rfl,rs,_,_,_,rfl,rfl,SqL.of hrs,at_0,a0,_,rfl,ha0,by omega,fun c' H' s' f' h'=>q c' H' s' f' ?_⟩
  rw [h']
  have e:plRow W n t rows = (rows.getD 0 []).map (!·):=by
   rw [← list_range (l:=(rows.getD 0 []).map (!·)) (n:=n) (by rw [List.length_map,l0])]
   unfold plRow
   refine List.map_congr_left fun k hk=>?_
   have hk:=List.mem_range.mp hk
   rw [not_at _ (by omega)]
   unfold plR
   rw [if_neg c1,if_pos c2]
   rfl
  rw [e]
 have two:=kids_two hf c1 c2 hpl
 obtain ⟨us',a1,hrs',at_1,ha1,l1⟩:=R.nth (i:=1) (by omega)
 rw [hrs] at hrs'
 cases hrs'
 have bl_at:∀ {l:List Bool} {i:Nat} {x:V},(l.map V.bl)[i]? = some x→x = V.bl (l.getD i false):=fun {l i x} h=>by
  have hi:=(List.getElem?_eq_some_iff.mp h).1
  rw [List.length_map] at hi
  rw [map_nth hi] at h
  rw [getD_eq hi]
  exact (Option.some.inj h).symm
 refine ⟨_,rfl,rfl,_,rfl,itS (fun c3=>?_) (fun c3=>?_)⟩
 ·-- an and
  refine ⟨_,rfl,rs,_,_,_,rfl,rfl,SqL.of hrs,at_0,_,rfl,rs,_,_,_,rfl,rfl,SqL.of hrs,at_1,a0,a1,rfl,⟨_,SqL.of ha0⟩,⟨_,SqL.of ha1⟩,fun D hD=>?_⟩
  refine comp_zip (n:=n) (xs:=(rows.getD 0 []).map V.bl) (ys:=(rows.getD 1 []).map V.bl) (fun i zs τ H'=>zs = ((List.range i).map fun k=>plR t.so t.mk (W.getD k default) rows k).map V.bl∧H' D = some (.lst zs)∧Same H H'∧∃ v1 v2,τ = [v1,v2]) (by rw [List.length_map,l0]) (by rw [List.length_map,l1]) ⟨rfl,upd_same,same_new hD _,none,none,rfl⟩ (fun i zs τ H' _ h=>⟨SqL.of (h.2.2.1 _ _ ha0),SqL.of (h.2.2.1 _ _ ha1)⟩) ?_ ?_
  ·rintro i x y T1 zs τ H1 hx hy hT ⟨rfl,hD1,sm,v1,v2,rfl⟩
   have hi:i < n:=by
    have:=(List.getElem?_eq_some_iff.mp hx).1
    rwa [List.length_map,l0] at this
   have ex:=bl_at hx
   have ey:=bl_at hy
   subst ex ey
   have sT:=same_new hT (.tup [V.bl ((rows.getD 0 []).getD i false),V.bl ((rows.getD 1 []).getD i false)])
   have hD2:=sT _ _ hD1
   have S2:=sm.trans sT
   have lz:(((List.range i).map fun k=>plR t.so t.mk (W.getD k default) rows k).map V.bl).length < sizeLine:=line_lt (by rw [List.length_map,List.length_map,List.length_range]; omega)
   have more:∀ x:Bool,x = plR t.so t.mk (W.getD i default) rows i→((List.range i).map fun k=>plR t.so t.mk (W.getD k default) rows k).map V.bl ++ [V.bl x] = ((List.range (i + 1)).map fun k=>plR t.so t.mk (W.getD k default) rows k).map V.bl:=fun x e=>by
    rw [List.range_succ,List.map_append,List.map_append,e]
    rfl
   have ep2:plR t.so t.mk (W.getD i default) rows i = ((rows.getD 0 []).getD i false && (rows.getD 1 []).getD i false):=by
    unfold plR
    rw [if_neg c1,if_neg c2,if_pos c3]
    rfl
   refine ⟨T1,_,rfl,SqT.of upd_same,rfl,_,_,rfl,_,_,rfl,rfl,?_⟩
   refine ⟨_,rfl,_,rfl,?_⟩
   cases h0:(rows.getD 0 []).getD i false with
   | false =>
    rw [h0] at hD2 S2 ep2
    exact iteF ⟨hD2,lz,more _ ep2.symm,upd_same,same_upd S2 hD _,_,_,rfl⟩
   | true =>
    rw [h0] at hD2 S2 ep2
    exact iteT ⟨_,rfl,hD2,lz,more _ ep2.symm,upd_same,same_upd S2 hD _,_,_,rfl⟩
  ·rintro zs τ H1 ⟨rfl,hD1,sm,v1,v2,rfl⟩
   exact q D H1 sm hD hD1
 ·-- an or
  refine ⟨_,rfl,rs,_,_,_,rfl,rfl,SqL.of hrs,at_0,_,rfl,rs,_,_,_,rfl,rfl,SqL.of hrs,at_1,a0,a1,rfl,⟨_,SqL.of ha0⟩,⟨_,SqL.of ha1⟩,fun D hD=>?_⟩
  refine comp_zip (n:=n) (xs:=(rows.getD 0 []).map V.bl) (ys:=(rows.getD 1 []).map V.bl) (fun i zs τ H'=>zs = ((List.range i).map fun k=>plR t.so t.mk (W.getD k default) rows k).map V.bl∧H' D = some (.lst zs)∧Same H H'∧∃ v1 v2,τ = [v1,v2]) (by rw [List.length_map,l0]) (by rw [List.length_map,l1]) ⟨rfl,upd_same,same_new hD _,none,none,rfl⟩ (fun i zs τ H' _ h=>⟨SqL.of (h.2.2.1 _ _ ha0),SqL.of (h.2.2.1 _ _ ha1)⟩) ?_ ?_
  ·rintro i x y T1 zs τ H1 hx hy hT ⟨rfl,hD1,sm,v1,v2,rfl⟩
   have hi:i < n:=by
    have:=(List.getElem?_eq_some_iff.mp hx).1
    rwa [List.length_map,l0] at this
   have ex:=bl_at hx
   have ey:=bl_at hy
   subst ex ey
   have sT:=same_new hT (.tup [V.bl ((rows.getD 0 []).getD i false),V.bl ((rows.getD 1 []).getD i false)])
   have hD2:=sT _ _ hD1
   have S2:=sm.trans sT
   have lz:(((List.range i).map fun k=>plR t.so t.mk (W.getD k default) rows k).map V.bl).length < sizeLine:=line_lt (by rw [List.length_map,List.length_map,List.length_range]; omega)
   have more:∀ x:Bool,x = plR t.so t.mk (W.getD i default) rows i→((List.range i).map fun k=>plR t.so t.mk (W.getD k default) rows k).map V.bl ++ [V.bl x] = ((List.range (i + 1)).map fun k=>plR t.so t.mk (W.getD k default) rows k).map V.bl:=fun x e=>by
    rw [List.range_succ,List.map_append,List.map_append,e]
    rfl
   have ep2:plR t.so t.mk (W.getD i default) rows i = ((rows.getD 0 []).getD i false || (rows.getD 1 []).getD i false):=by
    unfold plR
    rw [if_neg c1,if_neg c2,if_neg c3]
    rfl
   refine ⟨T1,_,rfl,SqT.of upd_same,rfl,_,_,rfl,_,_,rfl,rfl,?_⟩
   refine ⟨_,rfl,_,rfl,?_⟩
   cases h0:(rows.getD 0 []).getD i false with
   | true =>
    rw [h0] at hD2 S2 ep2
    exact iteT ⟨hD2,lz,more _ ep2.symm,upd_same,same_upd S2 hD _,_,_,rfl⟩
   | false =>
    rw [h0] at hD2 S2 ep2
    exact iteF ⟨_,rfl,hD2,lz,more _ ep2.symm,upd_same,same_upd S2 hD _,_,_,rfl⟩
  ·rintro zs τ H1 ⟨rfl,hD1,sm,v1,v2,rfl⟩
   exact q D H1 sm hD hD1
def spForm:Sp:=fun vs H Q _=>∃ (a p rs:Addr) (n b:Nat) (W:World2) (t:T) (rows:List (List Bool)),vs = [.ref a,.ref p,.ref rs]∧DAt H (.ref a) (wdat W)∧Valid n b W∧n ≤ 1000∧DAt H (.ref p) t.dat∧t.fit∧plainB t.so = false∧Rows H rs n rows∧rows.length = t.kids.length ∧
 ∀ (v rs':Addr) (H':Hp),Same H H'→H' v = some (.tup [.str (formW t.so),.str (formWho t.so t.wh),.ref rs',.bl (formT t.so)])→Rows H' rs' n (formRows n t.so rows)→Q (.ref v) H'
theorem ok_root_form {f g h e:Addr} {fd gd hd ed:FuncData} (F:Fun K "root_form" "root_form" sd_root_form f fd) (G_everywhere:FnOk P w K mg base CX0 1 g gd ["world"] spEvery) (M_everywhere:MG K mg "everywhere" ["world"] g gd)
  (G_p_turned:FnOk P w K mg base CX0 1 h hd ["truths"] spNots) (M_p_turned:MG K mg "turned" ["truths"] h hd) (G_other_who:FnOk P w K mg base CX0 1 e ed ["who"] spOther) (M_other_who:MG K mg "other_who" ["who"] e ed):FnOk P w K mg base CX0 2 f fd ["world","part","own"] spForm:=by
 refine F.ok sc_root_form (fun vs H Q E h=>?_) (fun cdv A outer s H vs Q E hr h=>?_)
 ·obtain ⟨a,p,rs,n,b,W,t,rows,rfl,_⟩:=h
  rfl
 obtain ⟨a,p,rs,n,b,W,t,rows,rfl,ha,hW,hn,hp,hf,hpl,R,lr,q⟩:=h
 obtain ⟨ks,ep,_,ew⟩:=part_at hp hf
 obtain ⟨ks',rfl⟩:=ew hpl
 have nm:t.so ≠ "mark":=fun z=>by rw [z] at hpl; exact absurd hpl (by decide +kernel)
 have pos:=kids_pos hf nm
 obtain ⟨us,a0,hrs,at_0,ha0,l0⟩:=R.nth (i:=0) (by omega)
 refine ⟨_,
  (pss_cons (ps_set (i:=3) sc_root_form.nd rfl (Or.inl rfl) (pe_ix ix_tup (pv 1) pe_int (fun _ _=>rfl)))
  (pss_cons (ps_set (i:=4) sc_root_form.nd rfl (Or.inl rfl) (pe_ix ix_tup (pv 1) pe_int (fun _ _=>rfl)))
  (pss_cons (ps_if (pt_cmpR op_eq (pv 3) pe_str (nomark _))
  (pss_one (ps_ret (pe_tup (pa_cons pe_str (pa_cons (pv 4) (pa_cons (pe_lst (pa_cons (pe_cm G_everywhere M_everywhere hr rfl (pa_cons (pv 0) pa_nil)) (pa_cons (pe_ix ix_list (pv 2) pe_int (fun _ _=>rfl)) pa_nil))) (pa_cons pe_bl pa_nil)))))))
  pss_nil)
  (pss_cons (ps_if (pt_cmpR op_eq (pv 3) pe_str (nomark _))
  (pss_one (ps_ret (pe_tup (pa_cons pe_str (pa_cons (pe_cm G_other_who M_other_who hr rfl (pa_cons (pv 4) pa_nil)) (pa_cons (pe_lst (pa_cons (pe_cm G_everywhere M_everywhere hr rfl (pa_cons (pv 0) pa_nil)) (pa_cons (pe_cm G_p_turned M_p_turned hr rfl (pa_cons (pe_ix ix_list (pv 2) pe_int (fun _ _=>rfl)) pa_nil)) pa_nil))) (pa_cons pe_bl pa_nil)))))))
  pss_nil)
  (pss_cons (ps_if (pt_cmpR op_eq (pv 3) pe_str (nomark _))
  (pss_one (ps_ret (pe_tup (pa_cons pe_str (pa_cons (pe_cm G_other_who M_other_who hr rfl (pa_cons (pv 4) pa_nil)) (pa_cons (pe_lst (pa_cons (pe_cm G_p_turned M_p_turned hr rfl (pa_cons (pe_ix ix_list (pv 2) pe_int (fun _ _=>rfl)) pa_nil)) pa_nil)) (pa_cons pe_bl pa_nil)))))))
  pss_nil)
  (pss_one (ps_ret (pe_tup (pa_cons (pv 3) (pa_cons (pv 4) (pa_cons (pv 2) (pa_cons pe_bl pa_nil)))))))))))),?_⟩
 refine ⟨_,rfl,p,_,_,_,rfl,rfl,SqT.of ep,at0,_,rfl,p,_,_,_,rfl,rfl,SqT.of ep,at1,?_⟩
 refine ⟨_,rfl,rfl,_,rfl,itS (fun c1=>?_) (fun c1=>?_)⟩
 ·refine ⟨_,rfl,_,rfl,a,W,rfl,ha,by rw [hW.len]; exact hn,fun c2 H1 s1 f1 h1=>?_⟩
  rw [hW.len] at h1
  refine ⟨_,rfl,rs,_,_,_,rfl,rfl,SqL.of (s1 _ _ hrs),at_0,line_le (by show 2 ≤ 16000000; decide),fun l hl=>⟨line_le (by show 4 ≤ 16000000; decide),fun v hv=>?_⟩⟩
  have s2:=same_new hl (.lst [V.ref c2,V.ref a0])
  have e1:formW t.so = "until":=by unfold formW; rw [if_pos c1]
  have e2:formWho t.so t.wh = t.wh:=by unfold formWho; rw [if_pos c1]
  have e3:formT t.so = false:=by unfold formT; rw [if_pos c1]
  have e4:formRows n t.so rows = [allT n,row0 rows]:=by unfold formRows; rw [if_pos c1]
  have s3:=same_new hv (.tup [V.str "until",V.str t.wh,V.ref l,V.bl false])
  refine q v l _ (s1.trans (s2.trans s3)) (by rw [e1,e2,e3]; exact upd_same) ?_
  rw [e4]
  refine Rows.mk' (s3 _ _ upd_same) (.cons (DAt.of_bools (s3 _ _ (s2 _ _ h1))) (.cons (DAt.of_bools (s3 _ _ (s2 _ _ (s1 _ _ ha0)))) .nil)) fun r hr=>?_
  simp only [List.mem_cons,List.not_mem_nil,or_false] at hr
  rcases hr with rfl | rfl
  ·unfold allT; rw [List.length_replicate]
  ·exact l0
 refine ⟨_,rfl,rfl,_,rfl,itS (fun c2=>?_) (fun c2=>?_)⟩
 ·refine ⟨_,rfl,t.wh,rfl,_,rfl,a,W,rfl,ha,by rw [hW.len]; exact hn,fun c3 H1 s1 f1 h1=>?_⟩
  rw [hW.len] at h1
  refine ⟨_,rfl,rs,_,_,_,rfl,rfl,SqL.of (s1 _ _ hrs),at_0,a0,_,rfl,s1 _ _ ha0,by omega,fun c4 H2 s2 f2 h2=>⟨line_le (by show 2 ≤ 16000000; decide),fun l hl=>⟨line_le (by show 4 ≤ 16000000; decide),fun v hv=>?_⟩⟩⟩
  have s3:=same_new hl (.lst [V.ref c3,V.ref c4])
  have s4:=same_new hv (.tup [V.str "until",V.str (mate t.wh),V.ref l,V.bl true])
  have e1:formW t.so = "until":=by unfold formW; rw [if_neg c1,if_pos c2]
  have e2:formWho t.so t.wh = mate t.wh:=by unfold formWho; rw [if_neg c1,if_pos c2]
  have e3:formT t.so = true:=by unfold formT; rw [if_neg c1,if_pos c2]
  have e4:formRows n t.so rows = [allT n,(row0 rows).map (!·)]:=by unfold formRows; rw [if_neg c1,if_pos c2]
  refine q v l _ (s1.trans (s2.trans (s3.trans s4))) (by rw [e1,e2,e3]; exact upd_same) ?_
  rw [e4]
  refine Rows.mk' (s4 _ _ upd_same) (.cons (DAt.of_bools (s4 _ _ (s3 _ _ (s2 _ _ h1)))) (.cons (DAt.of_bools (s4 _ _ (s3 _ _ h2))) .nil)) fun r hr=>?_
  simp only [List.mem_cons,List.not_mem_nil,or_false] at hr
  rcases hr with rfl | rfl
  ·unfold allT; rw [List.length_replicate]
  ·rw [List.length_map]; exact l0
 refine ⟨_,rfl,rfl,_,rfl,itS (fun c3=>?_) (fun c3=>?_)⟩
 ·refine ⟨_,rfl,t.wh,rfl,_,rfl,rs,_,_,_,rfl,rfl,SqL.of hrs,at_0,a0,_,rfl,ha0,by omega,fun c4 H2 s2 f2 h2=>⟨line_le (by show 1 ≤ 16000000; decide),fun l hl=>⟨line_le (by show 4 ≤ 16000000; decide),fun v hv=>?_⟩⟩⟩
  have s3:=same_new hl (.lst [V.ref c4])
  have s4:=same_new hv (.tup [V.str "again",V.str (mate t.wh),V.ref l,V.bl true])
  have e1:formW t.so = "again":=by unfold formW; rw [if_neg c1,if_neg c2,if_pos c3]
  have e2:formWho t.so t.wh = mate t.wh:=by unfold formWho; rw [if_neg c1,if_neg c2,if_pos c3]
  have e3:formT t.so = true:=by unfold formT; rw [if_neg c1,if_neg c2,c3]; rfl
  have e4:formRows n t.so rows = [(row0 rows).map (!·)]:=by unfold formRows; rw [if_neg c1,if_neg c2,if_pos c3]
  refine q v l _ (s2.trans (s3.trans s4)) (by rw [e1,e2,e3]; exact upd_same) ?_
  rw [e4]
  refine Rows.mk' (s4 _ _ upd_same) (.cons (DAt.of_bools (s4 _ _ (s3 _ _ h2))) .nil) fun r hr=>?_
  rw [List.mem_singleton] at hr
  rw [hr,List.length_map]
  exact l0
 ·refine ⟨_,rfl,_,rfl,_,rfl,line_le (by show 4 ≤ 16000000; decide),fun v hv=>?_⟩
  have s4:=same_new hv (.tup [V.str t.so,V.str t.wh,V.ref rs,V.bl false])
  have e1:formW t.so = t.so:=by unfold formW; rw [if_neg c1,if_neg c2,if_neg c3]
  have e2:formWho t.so t.wh = t.wh:=by unfold formWho; rw [if_neg c1,if_neg c2,if_neg c3]
  have e3:formT t.so = false:=by unfold formT; rw [if_neg c1,if_neg c2,decide_eq_false c3]
  have e4:formRows n t.so rows = rows:=by unfold formRows; rw [if_neg c1,if_neg c2,if_neg c3]
  refine q v rs _ s4 (by rw [e1,e2,e3]; exact upd_same) ?_
  rw [e4]
  exact R.keep s4
def spAbout:Sp:=fun vs H Q _=>∃ (a:Addr) (t:T) (G:Hp),vs = [.ref a]∧Same G H∧DAt G (.ref a) t.dat∧t.ok∧∀ H',Same H H'→Q (.bl (abB t)) H'
theorem ok_is_about_ways {f:Addr} {fd:FuncData} (F:Fun K "is_about_ways" "is_about_ways" sd_is_about_ways f fd):FnOk P w K mg base CX0 1 f fd ["sentence"] spAbout:=by
 refine F.ok sc_is_about_ways (fun vs H Q E h=>?_) (fun cdv A outer s H vs Q E hr h=>?_)
 ·obtain ⟨a,t,G,rfl,_⟩:=h
  rfl
 obtain ⟨a,t,G,rfl,sG,ha,hok,q⟩:=h
 refine ⟨_,
  (pss_one (ps_ret (pe_cmpR op_notIn_seq (pe_ix ix_tup (pv 0) pe_int (fun _ _=>rfl)) (pe_tup (pa_cons pe_str (pa_cons pe_str (pa_cons pe_str (pa_cons pe_str pa_nil))))) rfl))),?_⟩
 obtain ⟨sw,r,hG,e⟩:∃ (sw:Str) (r:List V),G a = some (.tup (.str sw :: r))∧abB t = !inV (.str sw) [.str "mark",.str "not",.str "and",.str "or"]:=by
  rcases T.dat_kids hok with ⟨i,rfl⟩ | ⟨wd,hw,ed⟩
  ·obtain ⟨a',vs,e,hG,hv⟩:=ha.tup_inv
   cases e
   cases hv with | cons h1 hv=>cases hv with | cons h2 hv =>
   cases h1.str_inv
   exact ⟨_,_,hG,by show false = _; decide +kernel⟩
  ·have ea:abB t = decide (wd.length = 2):=by
    cases t with
    | mark i =>
     have ed:Dat.tup [.str "mark",.int i] = .tup (wd.map .str ++ []):=ed
     injection ed with ed
     rw [List.append_nil] at ed
     exfalso
     cases wd with
     | nil=>cases ed
     | cons x r =>
      cases r with
      | nil=>cases ed
      | cons y r=>cases ed
    | un w t =>
     have ed:Dat.tup (w.map .str ++ [t.dat]) = .tup (wd.map .str ++ [t.dat]):=ed
     injection ed with ed
     have l:=congrArg List.length ed
     rw [List.length_append,List.length_append,List.length_map,List.length_map] at l
     show decide (w.length = 2) = _
     rw [show w.length = wd.length by omega]
    | bin w t u =>
     have ed:Dat.tup (w.map .str ++ [t.dat,u.dat]) = .tup (wd.map .str ++ [t.dat,u.dat]):=ed
     injection ed with ed
     have l:=congrArg List.length ed
     rw [List.length_append,List.length_append,List.length_map,List.length_map] at l
     show decide (w.length = 2) = _
     rw [show w.length = wd.length by omega]
   rw [ed] at ha
   obtain ⟨a',vs,e,hG,hv⟩:=ha.tup_inv
   cases e
   obtain ⟨hs,ks,rfl,hh,hk⟩:=hv.split
   cases strs_inv hh
   rcases hw with ⟨sw,rfl,hs⟩ | ⟨sw,x,rfl,n1,n2,n3,n4⟩
   ·refine ⟨sw,_,hG,?_⟩
    rw [ea]
    rcases hs with rfl | rfl | rfl <;> decide +kernel
   ·refine ⟨sw,_,hG,?_⟩
    rw [ea]
    have e0:("mark" == sw) = false:=beq_eq_false_iff_ne.mpr fun z=>n1 z.symm
    have e1:("not" == sw) = false:=beq_eq_false_iff_ne.mpr fun z=>n2 z.symm
    have e2:("and" == sw) = false:=beq_eq_false_iff_ne.mpr fun z=>n3 z.symm
    have e3:("or" == sw) = false:=beq_eq_false_iff_ne.mpr fun z=>n4 z.symm
    show true = !((("mark":Str) == sw) || ((("not":Str) == sw) || ((("and":Str) == sw) || ((("or":Str) == sw) || false))))
    rw [e0,e1,e2,e3]
    rfl
 refine ⟨_,rfl,a,_,_,_,rfl,rfl,SqT.of (sG _ _ hG),at0,line_le (by show 4 ≤ 16000000; decide),fun p hp=>⟨p,_,rfl,.inr (SqT.of upd_same),rfl,rfl,?_⟩⟩
 have:=q _ (same_new hp (.tup [.str "mark",.str "not",.str "and",.str "or"]))
 rw [e] at this
 exact this
def spOwn:Sp:=fun vs H Q _=>∃ (a:Addr) (t:T) (G:Hp),vs = [.ref a]∧Same G H∧DAt G (.ref a) t.dat∧t.ok ∧
 ∀ (l:Addr) (us:List V) (H':Hp),Same H H'→H l = none→H' l = some (.lst us)→DsAt G us (t.kids.map T.dat)→Q (.ref l) H'
theorem ok_own_parts {f g:Addr} {fd gd:FuncData} (F:Fun K "own_parts" "own_parts" sd_own_parts f fd) (B:Blt mg) (G_is_about_ways:FnOk P w K mg base CX0 1 g gd ["sentence"] spAbout) (M_is_about_ways:MG K mg "is_about_ways" ["sentence"] g gd):FnOk P w K mg base CX0 2 f fd ["sentence"] spOwn:=by
 refine F.ok sc_own_parts (fun vs H Q E h=>?_) (fun cdv A outer s H vs Q E hr h=>?_)
 ·obtain ⟨a,t,G,rfl,_⟩:=h
  rfl
 obtain ⟨a,t,G,rfl,sG,ha,hok,k⟩:=h
 refine ⟨_,
  (pss_cons (ps_if (pt_cmpR op_eq (pe_ix ix_tup (pv 0) pe_int (fun _ _=>rfl)) pe_str (nomark _))
  (pss_one (ps_ret (pe_lst pa_nil)))
  pss_nil)
  (pss_one (ps_ret (pe_callTy call_list_of rfl B.list bList (pa_cons (pe_ifExp (pt_val (pe_cm G_is_about_ways M_is_about_ways hr rfl (pa_cons (pv 0) pa_nil))) (pe_slice sl_tup (pv 0) (po_some pe_int) po_none) (pe_slice sl_tup (pv 0) (po_some pe_int) po_none)) pa_nil))))),?_⟩
 have ha0:=ha
 rcases T.dat_kids hok with ⟨i,rfl⟩ | ⟨wd,hw,ed⟩
 ·obtain ⟨a',vs,e,hG,hv⟩:=ha.tup_inv
  cases e
  cases hv with | cons h1 hv=>cases hv with | cons h2 hv =>
  cases h1.str_inv
  refine ⟨_,rfl,a,_,_,_,rfl,rfl,SqT.of (sG _ _ hG),at0,rfl,_,rfl,itD rfl ?_⟩
  refine ⟨line_le (by decide),fun l hl=>?_⟩
  exact k l [] _ (same_new hl _) hl upd_same .nil
 ·have ea:abB t = decide (wd.length = 2):=by
   cases t with
   | mark i =>
    have ed:Dat.tup [.str "mark",.int i] = .tup (wd.map .str ++ []):=ed
    injection ed with ed
    rw [List.append_nil] at ed
    exfalso
    cases wd with
    | nil=>cases ed
    | cons x r =>
     cases r with
     | nil=>cases ed
     | cons y r=>cases ed
   | un w t =>
    have ed:Dat.tup (w.map .str ++ [t.dat]) = .tup (wd.map .str ++ [t.dat]):=ed
    injection ed with ed
    have l:=congrArg List.length ed
    rw [List.length_append,List.length_append,List.length_map,List.length_map] at l
    show decide (w.length = 2) = _
    rw [show w.length = wd.length by omega]
   | bin w t u =>
    have ed:Dat.tup (w.map .str ++ [t.dat,u.dat]) = .tup (wd.map .str ++ [t.dat,u.dat]):=ed
    injection ed with ed
    have l:=congrArg List.length ed
    rw [List.length_append,List.length_append,List.length_map,List.length_map] at l
    show decide (w.length = 2) = _
    rw [show w.length = wd.length by omega]
  rw [ed] at ha
  obtain ⟨a',vs,e,hG,hv⟩:=ha.tup_inv
  cases e
  obtain ⟨hs,ks,rfl,hh,hk⟩:=hv.split
  cases strs_inv hh
  rcases hw with ⟨sw,rfl,hs⟩ | ⟨sw,x,rfl,n1,n2,n3,n4⟩
  ·refine ⟨_,rfl,a,_,_,_,rfl,rfl,SqT.of (sG _ _ hG),at0,rfl,_,rfl,itN ?_ ?_⟩
   ·rcases hs with rfl | rfl | rfl <;> decide +kernel
   refine ⟨_,rfl,a,t,G,rfl,sG,ha0,hok,fun H1 s1=>⟨_,rfl,?_⟩⟩
   rw [ea]
   refine iteF ⟨_,rfl,_,rfl,a,_,rfl,SqT.of (s1 _ _ (sG _ _ hG)),nowhole (k:=1) (by decide) (Nat.succ_pos _),fun p2 hp2=>⟨p2,_,rfl,.inr (SqT.of upd_same),fun l hl=>?_⟩⟩
   have s2:=s1.trans (same_new hp2 (.tup (cutV (List.map V.str [sw] ++ ks) (some 1) none)))
   refine k l ks _ (s2.trans (same_new hl _)) (s2.free hl) ?_ hk
   rw [upd_same]
   exact congrArg (fun z=>some (HO.lst z)) (cut_from _ 1)
  ·refine ⟨_,rfl,a,_,_,_,rfl,rfl,SqT.of (sG _ _ hG),at0,rfl,_,rfl,itN (fun c=>n1 (V.str.inj c)) ?_⟩
   refine ⟨_,rfl,a,t,G,rfl,sG,ha0,hok,fun H1 s1=>⟨_,rfl,?_⟩⟩
   rw [ea]
   refine iteT ⟨_,rfl,_,rfl,a,_,rfl,SqT.of (s1 _ _ (sG _ _ hG)),nowhole (k:=2) (by decide) (Nat.succ_pos _),fun p2 hp2=>⟨p2,_,rfl,.inr (SqT.of upd_same),fun l hl=>?_⟩⟩
   have s2:=s1.trans (same_new hp2 (.tup (cutV (List.map V.str [sw,x] ++ ks) (some 2) none)))
   refine k l ks _ (s2.trans (same_new hl _)) (s2.free hl) ?_ hk
   rw [upd_same]
   exact congrArg (fun z=>some (HO.lst z)) (cut_from _ 2)
def spParts:Sp:=fun vs H Q _=>∃ (a:Addr) (t:T),vs = [.ref a]∧DAt H (.ref a) t.dat∧t.ok∧t.parts.length ≤ 1000000 ∧
 ∀ (l:Addr) (us:List V) (H':Hp),Same H H'→H l = none→H' l = some (.lst us)→DsAt H us (t.parts.map T.dat)→Q (.ref l) H'
theorem ok_parts_of {f g:Addr} {fd gd:FuncData} (F:Fun K "parts_of" "parts_of" sd_parts_of f fd) (G_own_parts:FnOk P w K mg base CX0 2 g gd ["sentence"] spOwn) (M_own_parts:MG K mg "own_parts" ["sentence"] g gd) :
  FnOk P w K mg base CX0 3 f fd ["sentence"] spParts:=by
 refine F.ok sc_parts_of (fun vs H Q E h=>?_) (fun cdv A outer s H vs Q E hr h=>?_)
 ·obtain ⟨a,t,rfl,_⟩:=h
  rfl
 obtain ⟨a,t,rfl,ha,hok,hbig,k⟩:=h
 refine ⟨_,
  (pss_cons (ps_set (i:=1) sc_parts_of.nd rfl (Or.inl rfl) (pe_lst (pa_cons (pv 0) pa_nil)))
  (pss_cons (ps_set (i:=2) sc_parts_of.nd rfl (Or.inl rfl) (pe_lst pa_nil))
  (pss_cons (ps_while PassesOwn.never (pt_truth (pv 1) (fun _=>rfl))
  (pss_cons (ps_set (i:=3) sc_parts_of.nd rfl (Or.inl rfl) (pe_bm0 PySem.F.plainAttrs_list PySem.F.slot_list_pop PySem.F.type_list_pop mt_pop (pv 1)))
  (pss_cons (ps_expr (pe_bm PySem.F.plainAttrs_list PySem.F.slot_list_append PySem.F.type_list_append mt_append (pv 2) (pa_cons (pv 3) pa_nil)))
  (pss_one (ps_expr (pe_bm PySem.F.plainAttrs_list PySem.F.slot_list_extend PySem.F.type_list_extend mt_extend (pv 1) (pa_cons (pe_cm G_own_parts M_own_parts hr rfl (pa_cons (pv 3) pa_nil)) pa_nil)))))))
  (pss_cons (ps_expr (pe_bm0 PySem.F.plainAttrs_list PySem.F.slot_list_reverse PySem.F.type_list_reverse mt_reverse (pv 2)))
  (pss_one (ps_ret (pv 2))))))),?_⟩
 refine ⟨_,rfl,line_le (by show 1 ≤ 16000000; decide),fun p hp=>?_⟩
 refine ⟨line_le (by show 0 ≤ 16000000; decide),fun q hq=>?_⟩
 have s1:Same H (upd H p (.lst [.ref a])):=same_new hp _
 have hq0:H q = none:=s1.free hq
 have npq:p ≠ q:=ne_of_none upd_same hq
 refine ⟨fun m σ' H'=>∃ (ts fs:List T) (ws us:List V) (v:Option V),m = cnt ts∧σ' = [some (.ref a),some (.ref p),some (.ref q),v]∧Same H H'∧H' p = some (.lst ws)∧H' q = some (.lst us) ∧
   DsAt H ws (ts.map T.dat)∧DsAt H us (fs.map T.dat)∧fs ++ back ts = t.parts.reverse∧(∀ x ∈ ts,x.ok),
  ⟨_,[t],[],[.ref a],[],none,rfl,rfl,s1.trans (same_new hq _),by rw [upd_ne npq,upd_same],upd_same,.cons ha .nil,.nil,back_one t,fun x hx=>by rw [List.mem_singleton] at hx; rw [hx]; exact hok⟩,?_⟩
 rintro m σ' H' ⟨ts,fs,ws,us,v,rfl,rfl,sm,hp',hq',hw,hu,eq,oks⟩
 refine ⟨_,rfl,!ws.isEmpty,.inl ⟨ws,SqL.of hp',rfl⟩,?_⟩
 have eql:=congrArg List.length eq
 rw [List.length_append,back_length,List.length_reverse] at eql
 have lw:=hw.length
 have lu:=hu.length
 rw [List.length_map] at lw lu
 have lc:=le_cnt ts
 rcases List.eq_nil_or_concat ts with rfl | ⟨r,x,rfl⟩
 ·cases hw
  refine iteF ?_
  refine ⟨_,rfl,.inl ⟨rfl,_,SqL.of hq'⟩,q,us,rfl,rfl,hq',?_⟩
  refine ⟨_,rfl,?_⟩
  refine k q us.reverse _ (same_upd sm hq0 _) hq0 upd_same ?_
  have e:fs.reverse = t.parts:=by
   have e0:fs = t.parts.reverse:=by rw [← eq]; exact (List.append_nil _).symm
   rw [e0,List.reverse_reverse]
  rw [← e,List.map_reverse]
  exact hu.reverse
 ·rw [List.concat_eq_append] at *
  rw [List.map_append] at hw
  obtain ⟨ws',vx,rfl,hw',hx⟩:=DsAt.last hw
  obtain ⟨ax,rfl⟩:=T.dat_ref hx
  refine ite2 (fun _=>?_) (fun c=>absurd (by simp) c)
  refine ⟨_,fun _ _ h=>h,?_⟩
  refine ⟨_,rfl,.inl ⟨rfl,_,SqL.of hp'⟩,p,_,.ref ax,rfl,rfl,hp',last_at _ _,?_⟩
  have hq1:upd H' p (.lst (ws' ++ [V.ref ax]).dropLast) q = some (.lst us):=by rw [upd_ne npq.symm]; exact hq'
  refine ⟨_,rfl,.inl ⟨rfl,_,SqL.of hq1⟩,_,rfl,q,us,_,rfl,rfl,hq1,line_lt (by omega),?_⟩
  have s2:Same H (upd (upd H' p (.lst (ws' ++ [V.ref ax]).dropLast)) q (.lst (us ++ [V.ref ax]))):=same_upd (same_upd sm hp _) hq0 _
  have hp2:upd (upd H' p (.lst (ws' ++ [V.ref ax]).dropLast)) q (.lst (us ++ [V.ref ax])) p = some (.lst ws'):=by
   rw [upd_ne npq,upd_same,List.dropLast_concat]
  have hxo:x.ok:=oks x (List.mem_append_right _ (List.mem_singleton.mpr rfl))
  refine ⟨_,rfl,.inl ⟨rfl,_,SqL.of hp2⟩,_,rfl,ax,x,H,rfl,s2,hx,hxo,fun l ls H3 s3 hl hl3 hk=>?_⟩
  have lk:=hk.length
  rw [List.length_map] at lk
  have lk2:=x.kids_len
  have lw2:=hw'.length
  rw [List.length_map] at lw2
  rw [List.length_append] at lc
  refine ⟨p,l,_,_,rfl,rfl,s3 _ _ hp2,hl3,line_le (by omega),?_⟩
  have ck:=cnt_kids x
  refine ⟨cnt (r ++ x.kids),?_,r ++ x.kids,fs ++ [x],_,us ++ [V.ref ax],_,rfl,rfl,same_upd (s2.trans s3) hp _,upd_same,?_,?_,?_,?_,?_⟩
  ·rw [cnt_append,cnt_append]
   show cnt r + cnt x.kids < cnt r + (x.parts.length + 0)
   omega
  ·rw [upd_ne npq.symm]
   exact s3 _ _ upd_same
  ·rw [List.map_append]
   exact hw'.append hk
  ·rw [List.map_append]
   exact hu.append (.cons hx .nil)
  ·rw [← eq,back_snoc,List.append_assoc]
   rfl
  ·intro y hy
   rcases List.mem_append.mp hy with hy | hy
   ·exact oks y (List.mem_append_left _ hy)
   ·exact T.ok_kids hxo y hy
def plDat (l:List Nat):Dat:=dints (zs l)
def spPlaces:Sp:=fun vs H Q _=>∃ (a:Addr) (ts:List T),vs = [.ref a]∧DAt H (.ref a) (.lst (ts.map T.dat))∧(∀ t ∈ ts,t.ok)∧okGo ts 0∧ts.length ≤ 1000 ∧
 ∀ (q:Addr) (us:List V) (H':Hp),Grow plDat H H' q ((List.range ts.length).map (placesAt ts)) us→(∀ v ∈ us,∃ c,v = V.ref c∧H c = none)→Q (.ref q) H'
theorem ok_own_places {f g:Addr} {fd gd:FuncData} (F:Fun K "own_places" "own_places" sd_own_places f fd) (B:Blt mg) (B3:Blt3 mg) (G_own_parts:FnOk P w K mg base CX0 2 g gd ["sentence"] spOwn) (M_own_parts:MG K mg "own_parts" ["sentence"] g gd):FnOk P w K mg base CX0 3 f fd ["parts"] spPlaces:=by
 refine F.ok sc_own_places (fun vs H Q E h=>?_) (fun cdv A outer s H vs Q E hr h=>?_)
 ·obtain ⟨a,ts,rfl,_⟩:=h
  rfl
 obtain ⟨a,ts,rfl,ha,oks,okg,lts,q⟩:=h
 obtain ⟨a',vs,e,hA,hv⟩:=DAt.lst_inv ha
 cases e
 have lv:=hv.length
 rw [List.length_map] at lv
 refine ⟨_,
  (pss_cons (ps_set (i:=1) sc_own_places.nd rfl (Or.inl rfl) (pe_lst pa_nil))
  (pss_cons (ps_set (i:=2) sc_own_places.nd rfl (Or.inl rfl) (pe_lst pa_nil))
  (pss_cons (ps_for PassesOwn.never rfl (pi_enum rfl B3.enumerate (pa_cons (pv 0) pa_nil)) (pg_tup (n:=2) rfl (pgs_cons (pg_name (i:=3) sc_own_places.nd rfl (Or.inl rfl)) (pgs_cons (pg_name (i:=4) sc_own_places.nd rfl (Or.inl rfl)) pgs_nil)))
  (pss_cons (ps_set (i:=5) sc_own_places.nd rfl (Or.inl rfl) (pe_op op_sub (pe_callB call_len_seq rfl B.len PySem.boot_len (pa_cons (pv 2) pa_nil)) (pe_callB call_len_seq rfl B.len PySem.boot_len (pa_cons (pe_cm G_own_parts M_own_parts hr rfl (pa_cons (pv 4) pa_nil)) pa_nil))))
  (pss_cons (ps_expr (pe_bm PySem.F.plainAttrs_list PySem.F.slot_list_append PySem.F.type_list_append mt_append (pv 1) (pa_cons (pe_slice sl_list (pv 2) (po_some (pv 5)) po_none) pa_nil)))
  (pss_one (ps_set (i:=2) sc_own_places.nd rfl (Or.inl rfl) (pe_op op_cat (pe_slice sl_list (pv 2) po_none (po_some (pv 5))) (pe_lst (pa_cons (pv 3) pa_nil))))))))
  (pss_one (ps_ret (pv 1)))))),?_⟩
 refine ⟨line_le (by show 0 ≤ 16000000; decide),fun tp htp=>⟨line_le (by show 0 ≤ 16000000; decide),fun w0 hw0=>?_⟩⟩
 have n0:w0 ≠ tp:=fun z=>by rw [z,upd_same] at hw0; cases hw0
 have g0:Grow plDat H (upd (upd H tp (.lst [])) w0 (.lst [])) tp [] []:=(Grow.start htp).keep (same_new hw0 _)
 refine ⟨_,rfl,a,vs,rfl,g0.same _ _ hA,for_enum (K:=K) (a:=a) (xs:=vs)
  (fun i σ' H'=>∃ (wp:Addr) (us:List V) (o3 o4 o5:Option V),σ' = [some (.ref a),some (.ref tp),some (.ref wp),o3,o4,o5]∧Grow plDat H H' tp ((List.range i).map (placesAt ts)) us∧wp ≠ tp∧H' wp = some (.lst ((zs (wAt ts i)).map V.int))∧∀ v ∈ us,∃ c,v = V.ref c∧H c = none)
  ⟨w0,[],none,none,none,rfl,g0,n0,upd_same,fun _ h=>nomatch h⟩ (fun i σ' H' _ ⟨_,_,_,_,_,_,g,_⟩=>SqL.of (g.same _ _ hA)) ?_ ?_⟩
 ·rintro i x Tt σ' H1 hx hT ⟨wp,us,o3,o4,o5,rfl,gr,nw,hw,fus⟩
  have hi:i < ts.length:=by rw [← lv]; exact (List.getElem?_eq_some_iff.mp hx).1
  obtain ⟨u,hu,du⟩:=hv.nth hi
  rw [hx] at hu
  cases hu
  obtain ⟨ax,rfl⟩:=tdat_ref du
  have sT:=same_new hT (.tup [V.int (i:Int),V.ref ax])
  have e2:upd H1 Tt (.tup [V.int (i:Int),V.ref ax]) Tt = some (.tup [V.int (i:Int),V.ref ax]):=upd_same
  have g2:=gr.keep sT
  have hw2:=sT _ _ hw
  generalize upd H1 Tt (.tup [V.int (i:Int),V.ref ax]) = H2 at sT e2 g2 hw2
  refine ⟨Tt,_,rfl,SqT.of e2,rfl,_,_,rfl,_,_,rfl,rfl,?_⟩
  have kl:=wAt_kids okg hi
  have wl:=wAt_len (ts:=ts) i
  have lz:((zs (wAt ts i)).map V.int).length = (wAt ts i).length:=by unfold zs; rw [List.length_map,List.length_map]
  refine ⟨_,rfl,wp,_,rfl,.inl (SqL.of hw2),_,rfl,ax,ts[i],H,rfl,g2.same,du,oks _ (List.getElem_mem hi),fun l ls H3 s3 hl hl3 hk=>?_⟩
  have lk:=hk.length
  rw [List.length_map] at lk
  refine ⟨l,_,rfl,.inl (SqL.of hl3),_,_,rfl,rfl,?_⟩
  obtain ⟨m,hm⟩:∃ m,m = (wAt ts i).length - ts[i].kids.length:=⟨_,rfl⟩
  have em:((((zs (wAt ts i)).map V.int).length:Nat):Int) - ((ls.length:Nat):Int) = ((m:Nat):Int):=by omega
  have cf:cutV ((zs (wAt ts i)).map V.int) (some (((((zs (wAt ts i)).map V.int).length:Nat):Int) - ((ls.length:Nat):Int))) none = (zs ((wAt ts i).drop m)).map V.int:=by
   rw [em,cut_from]
   unfold zs
   rw [← List.map_drop,← List.map_drop]
  have ct:cutV ((zs (wAt ts i)).map V.int) none (some (((((zs (wAt ts i)).map V.int).length:Nat):Int) - ((ls.length:Nat):Int))) = (zs ((wAt ts i).take m)).map V.int:=by
   rw [em,cut_to]
   unfold zs
   rw [← List.map_take,← List.map_take]
  have ep:placesAt ts i = (wAt ts i).drop m:=by unfold placesAt; rw [getD_eq hi,hm]
  have ew:wAt ts (i + 1) = (wAt ts i).take m ++ [i]:=by
   show (wAt ts i).take ((wAt ts i).length - (ts.getD i (.mark 0)).kids.length) ++ [i] = _
   rw [getD_eq hi,hm]
  have g3:=g2.keep s3
  have hw3:=s3 _ _ hw2
  have lu:=g3.len
  rw [List.length_map,List.length_range] at lu
  refine ⟨_,rfl,.inl ⟨rfl,_,SqL.of g3.at_⟩,_,rfl,_,rfl,_,rfl,wp,_,rfl,SqL.of hw3,fun c4 hc4=>?_⟩
  rw [cf]
  have n4:=g3.fresh_ne hc4
  have s4:=same_new hc4 (.lst ((zs ((wAt ts i).drop m)).map V.int))
  have e4:upd H3 c4 (.lst ((zs ((wAt ts i).drop m)).map V.int)) c4 = some (.lst ((zs ((wAt ts i).drop m)).map V.int)):=upd_same
  have g4:=g3.keep s4
  have hw4:=s4 _ _ hw3
  generalize upd H3 c4 (.lst ((zs ((wAt ts i).drop m)).map V.int)) = H4 at s4 e4 g4 hw4
  refine ⟨tp,us,_,rfl,rfl,g4.at_,line_lt (by omega),?_⟩
  have g5:=g4.push (v:=.ref c4) (t:=placesAt ts i) (by rw [ep]; exact DAt.of_ints (by rw [del_ne n4]; exact e4))
  have hw5:upd H4 tp (.lst (us ++ [.ref c4])) wp = some (.lst ((zs (wAt ts i)).map V.int)):=by rw [upd_ne nw]; exact hw4
  generalize upd H4 tp (.lst (us ++ [.ref c4])) = H5 at g5 hw5
  refine ⟨_,rfl,_,rfl,_,rfl,wp,_,rfl,SqL.of hw5,fun c6 hc6=>?_⟩
  rw [ct]
  have s6:=same_new hc6 (.lst ((zs ((wAt ts i).take m)).map V.int))
  have e6:upd H5 c6 (.lst ((zs ((wAt ts i).take m)).map V.int)) c6 = some (.lst ((zs ((wAt ts i).take m)).map V.int)):=upd_same
  have g6:=g5.keep s6
  generalize upd H5 c6 (.lst ((zs ((wAt ts i).take m)).map V.int)) = H6 at s6 e6 g6
  refine ⟨_,rfl,line_le (by show 1 ≤ 16000000; decide),fun c7 hc7=>?_⟩
  have s7:=same_new hc7 (.lst [V.int (i:Int)])
  have g7:=g6.keep s7
  have lz6:((zs ((wAt ts i).take m)).map V.int).length ≤ i:=by unfold zs; rw [List.length_map,List.length_map,List.length_take]; omega
  refine ⟨c6,c7,_,_,rfl,rfl,s7 _ _ e6,upd_same,line_le (by show _ + 1 ≤ 16000000; omega),fun c8 hc8=>?_⟩
  have n8:=g7.fresh_ne hc8
  refine ⟨c8,us ++ [.ref c4],_,_,_,rfl,?_,n8,?_,fun v hv=>?_⟩
  ·have more:(List.range (i + 1)).map (placesAt ts) = (List.range i).map (placesAt ts) ++ [placesAt ts i]:=by rw [List.range_succ,List.map_append]; rfl
   rw [more]
   exact g7.keep (same_new hc8 _)
  ·rw [upd_same,ew]
   unfold zs
   rw [List.map_append,List.map_append]
   rfl
  ·rcases List.mem_append.mp hv with hv | hv
   ·exact fus v hv
   ·rw [List.mem_singleton] at hv
    exact ⟨c4,hv,g3.same.free hc4⟩
 ·rintro σ' H1 ⟨wp,us,o3,o4,o5,rfl,gr,nw,hw,fus⟩
  rw [lv] at gr
  exact ⟨_,rfl,q tp us H1 gr fus⟩
def spRoot:Sp:=fun vs H Q _=>∃ (a rs:Addr) (n b:Nat) (W:World2) (word who:Str) (rows:List (List Bool)),vs = [.ref a,.str word,.str who,.ref rs]∧DAt H (.ref a) (wdat W)∧Valid n b W∧n ≤ 1000∧b ≤ 1000∧Rows H rs n rows∧0 < rows.length∧(word ≠ "next"→word ≠ "again"→1 < rows.length) ∧
 ∀ (q:Addr) (L:List Lb) (us:List V) (H':Hp),Grow lbdat H H' q L us→L.length = n→(∀ k,k < n→lbOk (L.getD k default) (dr W k) = true)→(∀ k,k < n→rootR word who rows L k (dr W k) = true)→Q (.ref q) H'
theorem ok_labels_of_root {f f1 f2 f3 f4 f5 f6:Addr} {fd d1 d2 d3 d4 d5 d6:FuncData} (F:Fun K "labels_of_root" "labels_of_root" sd_labels_of_root f fd)
  (G_some_next:FnOk P w K mg base CX0 3 f1 d1 ["world","here"] spNextS) (M_some_next:MG K mg "some_next" ["world","here"] f1 d1) (G_all_next:FnOk P w K mg base CX0 4 f2 d2 ["world","here"] (spNextG false)) (M_all_next:MG K mg "all_next" ["world","here"] f2 d2)
  (G_some_again:FnOk P w K mg base CX0 8 f3 d3 ["world","here"] (spAgainG saR)) (M_some_again:MG K mg "some_again" ["world","here"] f3 d3) (G_all_again:FnOk P w K mg base CX0 6 f4 d4 ["world","here"] (spAgainG aaR)) (M_all_again:MG K mg "all_again" ["world","here"] f4 d4)
  (G_some_until:FnOk P w K mg base CX0 5 f5 d5 ["world","left","right"] (spUntilG true)) (M_some_until:MG K mg "some_until" ["world","left","right"] f5 d5) (G_all_until:FnOk P w K mg base CX0 5 f6 d6 ["world","left","right"] (spUntilG false)) (M_all_until:MG K mg "all_until" ["world","left","right"] f6 d6) :
  FnOk P w K mg base CX0 9 f fd ["world","word","who","truths"] spRoot:=by
 refine F.ok sc_labels_of_root (fun vs H Q E h=>?_) (fun cdv A outer s H vs Q E hr h=>?_)
 ·obtain ⟨a,rs,n,b,W,word,who,rows,rfl,_⟩:=h
  rfl
 obtain ⟨a,rs,n,b,W,word,who,rows,rfl,ha,hW,hn,hb,R,pos,two,q⟩:=h
 obtain ⟨us,a0,hrs,at_0,ha0,l0⟩:=R.nth (i:=0) pos
 refine ⟨_,
  (pss_cons (ps_set (i:=4) sc_labels_of_root.nd rfl (Or.inl rfl) (pe_cmpR op_eq (pv 2) pe_str (nomark _)))
  (pss_cons (ps_set (i:=5) sc_labels_of_root.nd rfl (Or.inl rfl) (pe_ix ix_list (pv 3) pe_int (fun _ _=>rfl)))
  (pss_cons (ps_if (pt_cmpR op_eq (pv 1) pe_str (nomark _))
  (pss_one (ps_ret (pe_ifExp (pt_val (pv 4)) (pe_cm G_some_next M_some_next hr rfl (pa_cons (pv 0) (pa_cons (pv 5) pa_nil))) (pe_cm G_all_next M_all_next hr rfl (pa_cons (pv 0) (pa_cons (pv 5) pa_nil))))))
  pss_nil)
  (pss_cons (ps_if (pt_cmpR op_eq (pv 1) pe_str (nomark _))
  (pss_one (ps_ret (pe_ifExp (pt_val (pv 4)) (pe_cm G_some_again M_some_again hr rfl (pa_cons (pv 0) (pa_cons (pv 5) pa_nil))) (pe_cm G_all_again M_all_again hr rfl (pa_cons (pv 0) (pa_cons (pv 5) pa_nil))))))
  pss_nil)
  (pss_one (ps_ret (pe_ifExp (pt_val (pv 4)) (pe_cm G_some_until M_some_until hr rfl (pa_cons (pv 0) (pa_cons (pv 5) (pa_cons (pe_ix ix_list (pv 3) pe_int (fun _ _=>rfl)) pa_nil)))) (pe_cm G_all_until M_all_until hr rfl (pa_cons (pv 0) (pa_cons (pv 5) (pa_cons (pe_ix ix_list (pv 3) pe_int (fun _ _=>rfl)) pa_nil))))))))))),?_⟩
 refine ⟨_,rfl,rfl,_,rfl,rs,_,_,_,rfl,rfl,SqL.of hrs,at_0,?_⟩
 have ewho:decide (V.str who = V.str "some") = decide (who = "some"):=by
  by_cases h:who = "some"
  ·rw [decide_eq_true h,decide_eq_true (congrArg V.str h)]
  ·rw [decide_eq_false h,decide_eq_false fun z=>h (V.str.inj z)]
 refine ⟨_,rfl,rfl,_,rfl,itS (fun c1=>?_) (fun c1=>?_)⟩
 ·refine ⟨_,rfl,_,rfl,?_⟩
  rw [ewho]
  by_cases hs:who = "some"
  ·rw [decide_eq_true hs]
   refine iteT ⟨_,rfl,_,rfl,a,a0,n,b,W,_,rfl,ha,hW,hn,ha0,l0,fun q' us H' gr=>q q' _ us H' gr next_len (fun k hk=>(nx_some hk).1) fun k hk=>?_⟩
   unfold rootR
   rw [if_pos c1,decide_eq_true hs]
   exact (nx_some hk).2
  ·rw [decide_eq_false hs]
   refine iteF ⟨_,rfl,_,rfl,a,a0,n,b,W,_,rfl,ha,hW,hn,ha0,l0,fun q' L us H' gr len ok h=>q q' L us H' gr len ok fun k hk=>?_⟩
   unfold rootR
   rw [if_pos c1,decide_eq_false hs]
   exact h k hk
 refine ⟨_,rfl,rfl,_,rfl,itS (fun c2=>?_) (fun c2=>?_)⟩
 ·refine ⟨_,rfl,_,rfl,?_⟩
  rw [ewho]
  by_cases hs:who = "some"
  ·rw [decide_eq_true hs]
   refine iteT ⟨_,rfl,_,rfl,a,a0,n,b,W,_,rfl,ha,hW,hn,hb,ha0,l0,fun q' L us H' gr len ok h=>q q' L us H' gr len ok fun k hk=>?_⟩
   unfold rootR agR
   rw [if_neg c1,if_pos c2,if_pos hs]
   exact h k hk
  ·rw [decide_eq_false hs]
   refine iteF ⟨_,rfl,_,rfl,a,a0,n,b,W,_,rfl,ha,hW,hn,hb,ha0,l0,fun q' L us H' gr len ok h=>q q' L us H' gr len ok fun k hk=>?_⟩
   unfold rootR agR
   rw [if_neg c1,if_pos c2,if_neg hs]
   exact h k hk
 ·obtain ⟨us',a1,hrs',at_1,ha1,l1⟩:=R.nth (i:=1) (two c1 c2)
  rw [hrs] at hrs'
  cases hrs'
  refine ⟨_,rfl,_,rfl,?_⟩
  rw [ewho]
  by_cases hs:who = "some"
  ·rw [decide_eq_true hs]
   refine iteT ⟨_,rfl,_,rfl,_,rfl,rs,_,_,_,rfl,rfl,SqL.of hrs,at_1,a,a0,a1,n,b,W,_,_,rfl,ha,hW,hn,hb,ha0,ha1,l0,l1,fun q' L us H' gr len ok h=>q q' L us H' gr len ok fun k hk=>?_⟩
   unfold rootR unR
   rw [if_neg c1,if_neg c2,if_pos hs]
   exact su2_su (h k hk)
  ·rw [decide_eq_false hs]
   refine iteF ⟨_,rfl,_,rfl,_,rfl,rs,_,_,_,rfl,rfl,SqL.of hrs,at_1,a,a0,a1,n,b,W,_,_,rfl,ha,hW,hn,hb,ha0,ha1,l0,l1,fun q' L us H' gr len ok h=>q q' L us H' gr len ok fun k hk=>?_⟩
   unfold rootR unR
   rw [if_neg c1,if_neg c2,if_neg hs]
   exact h k hk
def spLabels:Sp:=fun vs H Q _=>∃ (a p rs:Addr) (n b:Nat) (W:World2) (t:T) (rows:List (List Bool)),vs = [.ref a,.ref p,.ref rs]∧DAt H (.ref a) (wdat W)∧Valid n b W∧n ≤ 1000∧b ≤ 1000∧DAt H (.ref p) t.dat∧t.fit∧Rows H rs n rows∧rows.length = t.kids.length ∧
 ∀ (q:Addr) (L:List Lb) (us:List V) (H':Hp),Grow lbdat H H' q L us→LbsOk W t rows L→Q (.ref q) H'
theorem six_of {t:T} (hf:t.fit) (h:plainB t.so = false):sixB t.so:=by
 rcases T.kinds hf with ⟨e,_⟩ | ⟨_,e,_⟩ | ⟨_,_,hk,_⟩
 ·rw [e] at h
  exact absurd h (by decide +kernel)
 ·rw [e] at h; cases h
 ·unfold sixB
  rcases hk with ⟨hk,_⟩ | ⟨hk,_⟩
  ·rcases hk with e | e | e | e | e
   ·exact .inl e
   ·exact .inr (.inr (.inl e))
   ·exact .inr (.inr (.inr (.inl e)))
   ·exact .inr (.inr (.inr (.inr (.inl e))))
   ·exact .inr (.inr (.inr (.inr (.inr e))))
  ·exact .inr (.inl hk)
theorem form_two {n:Nat} {t:T} {rows:List (List Bool)} (hf:t.fit) (h:plainB t.so = false) (l:rows.length = t.kids.length):0 < (formRows n t.so rows).length∧(formW t.so ≠ "next"→formW t.so ≠ "again"→1 < (formRows n t.so rows).length):=by
 have nm:t.so ≠ "mark":=fun z=>by rw [z] at h; exact absurd h (by decide +kernel)
 have pos:=kids_pos hf nm
 have hs:=six_of hf h
 have two:=kids_until hf
 generalize t.so = so at hs two
 rcases hs with rfl | rfl | rfl | rfl | rfl | rfl
 ·exact ⟨by show 0 < rows.length; omega,fun z=>absurd rfl z⟩
 ·have:=two rfl
  exact ⟨by show 0 < rows.length; omega,fun _ _=>by show 1 < rows.length; omega⟩
 ·exact ⟨by show 0 < 2; decide,fun _ _=>by show 1 < 2; decide⟩
 ·exact ⟨by show 0 < 2; decide,fun _ _=>by show 1 < 2; decide⟩
 ·exact ⟨by show 0 < rows.length; omega,fun _ z=>absurd rfl z⟩
 ·exact ⟨by show 0 < 1; decide,fun _ z=>absurd rfl z⟩
theorem ok_labels_of {f f1 f2 f3 f4 f5:Addr} {fd d1 d2 d3 d4 d5:FuncData} (F:Fun K "labels_of" "labels_of" sd_labels_of f fd) (G_is_about_ways:FnOk P w K mg base CX0 1 f1 d1 ["sentence"] spAbout) (M_is_about_ways:MG K mg "is_about_ways" ["sentence"] f1 d1)
  (G_plain_truths:FnOk P w K mg base CX0 2 f2 d2 ["world","part","own"] spPlainT) (M_plain_truths:MG K mg "plain_truths" ["world","part","own"] f2 d2) (G_root_form:FnOk P w K mg base CX0 2 f3 d3 ["world","part","own"] spForm) (M_root_form:MG K mg "root_form" ["world","part","own"] f3 d3)
  (G_labels_of_root:FnOk P w K mg base CX0 9 f4 d4 ["world","word","who","truths"] spRoot) (M_labels_of_root:MG K mg "labels_of_root" ["world","word","who","truths"] f4 d4) (G_turned_labels:FnOk P w K mg base CX0 1 f5 d5 ["labels"] spTurnL) (M_turned_labels:MG K mg "turned_labels" ["labels"] f5 d5) :
  FnOk P w K mg base CX0 10 f fd ["world","part","own"] spLabels:=by
 refine F.ok sc_labels_of (fun vs H Q E h=>?_) (fun cdv A outer s H vs Q E hr h=>?_)
 ·obtain ⟨a,p,rs,n,b,W,t,rows,rfl,_⟩:=h
  rfl
 obtain ⟨a,p,rs,n,b,W,t,rows,rfl,ha,hW,hn,hb,hp,hf,R,lr,q⟩:=h
 have eab:=ab_plain hf
 refine ⟨_,
  (pss_cons (ps_if (pt_not (pt_val (pe_cm G_is_about_ways M_is_about_ways hr rfl (pa_cons (pv 1) pa_nil))))
  (pss_one (ps_ret (pe_comp rfl cs_labels_of_0 rfl rfl (pi_list (pe_cm G_plain_truths M_plain_truths hr rfl (pa_cons (pv 0) (pa_cons (pv 1) (pa_cons (pv 2) pa_nil))))) (fun _ _ _ _ _=>pg_name (i:=0) cs_labels_of_0.nd rfl (Or.inl rfl)) (fun _ _ _ _ _=>pf_nil) (fun _ _ _ _ _=>(pe_tup (pa_cons (pv 0) (pa_cons pe_non (pa_cons pe_non pa_nil))))))))
  pss_nil)
  (pss_cons (ps_asg (pe_cm G_root_form M_root_form hr rfl (pa_cons (pv 0) (pa_cons (pv 1) (pa_cons (pv 2) pa_nil)))) (pg_tup (n:=4) rfl (pgs_cons (pg_name (i:=3) sc_labels_of.nd rfl (Or.inl rfl)) (pgs_cons (pg_name (i:=4) sc_labels_of.nd rfl (Or.inl rfl)) (pgs_cons (pg_name (i:=5) sc_labels_of.nd rfl (Or.inl rfl)) (pgs_cons (pg_name (i:=6) sc_labels_of.nd rfl (Or.inl rfl)) pgs_nil))))))
  (pss_cons (ps_set (i:=7) sc_labels_of.nd rfl (Or.inl rfl) (pe_cm G_labels_of_root M_labels_of_root hr rfl (pa_cons (pv 0) (pa_cons (pv 3) (pa_cons (pv 4) (pa_cons (pv 5) pa_nil))))))
  (pss_one (ps_ret (pe_ifExp (pt_val (pv 6)) (pe_cm G_turned_labels M_turned_labels hr rfl (pa_cons (pv 7) pa_nil)) (pv 7))))))),?_⟩
 refine ⟨_,rfl,p,t,H,rfl,Same.refl _,hp,T.fit_ok hf,fun H1 s1=>⟨_,rfl,?_⟩⟩
 rw [eab]
 cases hpl:plainB t.so with
 | true =>
  refine iteT ⟨_,rfl,_,rfl,_,rfl,a,p,rs,n,b,W,t,rows,rfl,ha.mono s1,hW,hn,hp.mono s1,hf,hpl,R.keep s1,lr,fun c H2 s2 f2 h2=>⟨c,rfl,⟨_,SqL.of h2⟩,fun D hD=>?_⟩⟩
  have S2:=s1.trans s2
  have lpr:(plRow W n t rows).length = n:=by unfold plRow; rw [List.length_map,List.length_range]
  have nD:c ≠ D:=fun z=>by rw [z] at h2; rw [h2] at hD; cases hD
  refine comp_over (xs:=(plRow W n t rows).map V.bl) (fun i ys τ H'=>Grow lbdat H H' D (plLs ((plRow W n t rows).take i)) ys∧H' c = some (.lst ((plRow W n t rows).map V.bl))∧∃ v,τ = [v]) ⟨Grow.from S2 hD,same_new hD _ _ _ h2,none,rfl⟩ (fun i ys τ H' _ h=>SqL.of h.2.1) ?_ ?_
  ·rintro i y ys τ H3 hy ⟨gr,hc3,v,rfl⟩
   have hi:i < (plRow W n t rows).length:=by
    have:=(List.getElem?_eq_some_iff.mp hy).1
    rwa [List.length_map] at this
   rw [map_nth hi] at hy
   cases hy
   have lg:=gr.len
   unfold plLs at lg
   rw [List.length_map,List.length_take] at lg
   refine ⟨_,rfl,line_le (by show 3 ≤ 16000000; decide),fun tt ht=>?_⟩
   have nt:=gr.fresh_ne ht
   have s3:=same_new ht (.tup [V.bl (plRow W n t rows)[i],V.non,V.non])
   have g2:=gr.keep s3
   refine ⟨g2.at_,line_lt (by omega),?_,by rw [upd_ne nD]; exact s3 _ _ hc3,_,rfl⟩
   have et:plLs ((plRow W n t rows).take (i + 1)) = plLs ((plRow W n t rows).take i) ++ [((plRow W n t rows)[i],none,none)]:=by
    unfold plLs
    rw [List.take_add_one,List.getElem?_eq_getElem hi,List.map_append]
    rfl
   rw [et]
   exact g2.push (v:=.ref tt) (t:=((plRow W n t rows)[i],none,none)) (lbdat_mk (l:=((plRow W n t rows)[i],none,none)) (by rw [del_ne nt]; exact upd_same))
  ·rintro ys τ H3 ⟨gr,_,v,rfl⟩
   rw [List.length_map,List.take_length] at gr
   exact q D _ ys H3 gr (pl_stand hW hpl)
 | false =>
  refine iteF ⟨_,rfl,_,rfl,_,rfl,a,p,rs,n,b,W,t,rows,rfl,ha.mono s1,hW,hn,hp.mono s1,hf,hpl,R.keep s1,lr,fun v rs' H2 s2 h2 R2=>?_⟩
  refine ⟨v,_,rfl,SqT.of h2,rfl,_,_,rfl,_,_,rfl,_,_,rfl,_,_,rfl,rfl,?_⟩
  have S2:=s1.trans s2
  obtain ⟨pos,two⟩:=form_two (n:=n) hf hpl lr
  refine ⟨_,rfl,_,rfl,_,rfl,_,rfl,a,rs',n,b,W,_,_,_,rfl,ha.mono S2,hW,hn,hb,R2,pos,two,fun m M us H3 g3 lM okM rM=>?_⟩
  have S3:=S2.trans g3.same
  have fr:=fun k hk=>form_right (k:=k) (who:=t.wh) (rows:=rows) (six_of hf hpl) lM (rM k hk)
  refine ⟨_,rfl,_,rfl,?_⟩
  cases hT:formT t.so with
  | true =>
   rw [hT] at fr
   refine iteT ⟨_,rfl,m,M,rfl,g3.done,by omega,fun m' us' H4 g4=>?_⟩
   refine q m' _ us' H4 (g4.back S3) (wa_stand hW hpl (by rw [List.length_map,lM]) (fun k hk=>?_) fun k hk=>fr k hk)
   rw [turnL_at (by omega),lbOk_turn]
   exact okM k hk
  | false =>
   rw [hT] at fr
   exact iteF ⟨_,rfl,q m M us H3 (g3.back S2) (wa_stand hW hpl lM okM fun k hk=>fr k hk)⟩
theorem labs_del {H:Hp} {q p:Addr} {L:List Lb} {xs:List V} (h:DAt H (.ref q) (lsdat L)) (hne:q ≠ p) (hp:H p = some (.lst xs)):DAt (del H p) (.ref q) (lsdat L):=by
 obtain ⟨q',us,e,hq,hu⟩:=DAt.lst_inv h
 cases e
 refine .lst (by rw [del_ne hne]; exact hq) ?_
 clear hq h
 induction L generalizing us with
 | nil=>cases hu; exact .nil
 | cons l L ih =>
  cases hu with | cons h1 h2 =>
  refine .cons ?_ (ih _ h2)
  obtain ⟨t,rfl,et⟩:=lbdat_inv h1
  have nt:t ≠ p:=fun z=>by rw [z,hp] at et; cases et
  exact lbdat_mk (by rw [del_ne nt]; exact et)
theorem truths_getD {Ls:List (List Lb)} {L:List Lb} {j:Nat} (h:j < Ls.length):(Ls ++ [L]).getD j [] = Ls.getD j []:=by
 rw [List.getD_eq_getElem?_getD,List.getD_eq_getElem?_getD,List.getElem?_append_left h]
theorem last_getD {Ls:List (List Lb)} {L:List Lb}:(Ls ++ [L]).getD Ls.length [] = L:=by
 rw [List.getD_eq_getElem?_getD,List.getElem?_append_right (Nat.le_refl _),Nat.sub_self]
 rfl
def pileOf (Ls:List (List Lb)) (l:List Nat):List (List Bool):=l.map fun j=>truths (Ls.getD j [])
theorem pile_more {Ls:List (List Lb)} {L:List Lb} {l:List Nat} (h:∀ j ∈ l,j < Ls.length):pileOf (Ls ++ [L]) l = pileOf Ls l :=
 List.map_congr_left fun j hj=>by rw [truths_getD (h j hj)]
def spTableG:Sp:=fun vs H Q _=>∃ (a p:Addr) (n b:Nat) (W:World2) (t:T),vs = [.ref a,.ref p]∧DAt H (.ref a) (wdat W)∧Valid n b W∧n ≤ 1000∧b ≤ 1000∧DAt H (.ref p) t.dat∧t.fit∧t.parts.length ≤ 1000 ∧
 ∀ (q:Addr) (Ls:List (List Lb)) (us:List V) (H':Hp),Grow lsdat H H' q Ls us→Stand W t Ls→Q (.ref q) H'
theorem ok_table_of {f f1 f2 f3 f4 f5:Addr} {fd d1 d2 d3 d4 d5:FuncData} (F:Fun K "table_of" "table_of" sd_table_of f fd) (B3:Blt3 mg) (G_check_world:FnOk P w K mg base CX0 2 f1 d1 ["world"] spCheck) (M_check_world:MG K mg "check_world" ["world"] f1 d1)
  (G_parts_of:FnOk P w K mg base CX0 3 f2 d2 ["sentence"] spParts) (M_parts_of:MG K mg "parts_of" ["sentence"] f2 d2) (G_own_places:FnOk P w K mg base CX0 3 f3 d3 ["parts"] spPlaces) (M_own_places:MG K mg "own_places" ["parts"] f3 d3)
  (G_p_truths_of:FnOk P w K mg base CX0 1 f4 d4 ["labels"] spTruths) (M_p_truths_of:MG K mg "truths_of" ["labels"] f4 d4) (G_labels_of:FnOk P w K mg base CX0 10 f5 d5 ["world","part","own"] spLabels) (M_labels_of:MG K mg "labels_of" ["world","part","own"] f5 d5) :
  FnOk P w K mg base CX0 11 f fd ["world","sentence"] spTableG:=by
 refine F.ok sc_table_of (fun vs H Q E h=>?_) (fun cdv A outer s H vs Q E hr h=>?_)
 ·obtain ⟨a,p,n,b,W,t,rfl,_⟩:=h
  rfl
 obtain ⟨a,p,n,b,W,t,rfl,ha,hW,hn,hb,hp,hf,hl,q⟩:=h
 refine ⟨_,
  (pss_cons (ps_expr (pe_cm G_check_world M_check_world hr rfl (pa_cons (pv 0) pa_nil)))
  (pss_cons (ps_set (i:=2) sc_table_of.nd rfl (Or.inl rfl) (pe_cm G_parts_of M_parts_of hr rfl (pa_cons (pv 1) pa_nil)))
  (pss_cons (ps_set (i:=3) sc_table_of.nd rfl (Or.inr rfl) (pe_lst pa_nil))
  (pss_cons (ps_for PassesOwn.never rfl (pi_zip rfl B3.zip (pa_cons (pv 2) (pa_cons (pe_cm G_own_places M_own_places hr rfl (pa_cons (pv 2) pa_nil)) pa_nil))) (pg_tup (n:=2) rfl (pgs_cons (pg_name (i:=4) sc_table_of.nd rfl (Or.inl rfl)) (pgs_cons (pg_name (i:=5) sc_table_of.nd rfl (Or.inl rfl)) pgs_nil)))
  (pss_cons (ps_comp (i:=6) sc_table_of.nd rfl rfl rfl cs_table_of_0 rfl rfl (pi_list (pv 5)) (fun _ _ _ _ _=>pg_name (i:=0) cs_table_of_0.nd rfl (Or.inl rfl)) (fun _ _ _ _ _=>pf_nil) (fun _ _ _ _ _=>(pe_cm G_p_truths_of M_p_truths_of hr rfl (pa_cons (pe_ix cix_list (pv 1) (pv 0) (fun _ _=>rfl)) pa_nil))))
  (pss_one (ps_expr (pe_bm PySem.F.plainAttrs_list PySem.F.slot_list_append PySem.F.type_list_append mt_append (pv 3) (pa_cons (pe_cm G_labels_of M_labels_of hr rfl (pa_cons (pv 0) (pa_cons (pv 4) (pa_cons (pv 6) pa_nil)))) pa_nil))))))
  (pss_one (ps_ret (pv 3))))))),?_⟩
 refine ⟨_,rfl,a,n,b,W,rfl,ha,hW,hn,?_⟩
 refine ⟨_,rfl,p,t,rfl,hp,T.fit_ok hf,by omega,fun pl pv H1 s1 f1 h1 dp=>?_⟩
 have lpv:=dp.length
 rw [List.length_map] at lpv
 refine ⟨line_le (by show 0 ≤ 16000000; decide),fun tb htb=>?_⟩
 have s2:=same_new htb (.lst [])
 have S2:=s1.trans s2
 have g2:Grow lsdat H (upd H1 tb (.lst [])) tb [] []:=Grow.from s1 htb
 have h2:=s2 _ _ h1
 have ntb:tb ≠ pl:=fun z=>by rw [z,h1] at htb; cases htb
 generalize upd H1 tb (.lst []) = H2 at s2 S2 g2 h2
 refine ⟨_,rfl,_,rfl,pl,t.parts,rfl,.lst h2 (dp.mono S2),(fun x hx=>T.fit_ok (T.fit_parts hf hx)),okGo_one t,hl,fun pq pu H3 g3 fpu=>?_⟩
 have lpu:=g3.len
 rw [List.length_map,List.length_range] at lpu
 have t3:=g3.same _ _ g2.at_
 have npq:pq ≠ tb:=fun z=>by have:=g3.free; rw [z,g2.at_] at this; cases this
 have d3:=g3.items
 have pq3:=g3.at_
 have S3:=S2.trans g3.same
 have htH:H tb = none:=s1.free htb
 obtain ⟨G0,eG0⟩:∃ G,G = del H3 tb:=⟨_,rfl⟩
 have sG:Same H G0:=by rw [eG0]; exact same_del S3 htH
 have plG:G0 pl = some (.lst pv):=by rw [eG0,del_ne (Ne.symm ntb)]; exact g3.same _ _ h2
 have pqG:G0 pq = some (.lst pu):=by rw [eG0,del_ne npq]; exact pq3
 have inG:∀ i,i < t.parts.length→∃ c,pu[i]? = some (.ref c)∧G0 c = some (.lst ((zs (placesAt t.parts i)).map V.int)):=fun i hi=>by
  obtain ⟨v,e1,e2⟩:=d3.nth (ts:=(List.range t.parts.length).map (placesAt t.parts)) (i:=i) (by rw [List.length_map,List.length_range]; exact hi)
  rw [List.getElem_map,List.getElem_range] at e2
  obtain ⟨c,rfl,hc⟩:=DAt.ints_at e2
  obtain ⟨c',ec,hc'⟩:=fpu _ (List.mem_of_getElem? e1)
  cases ec
  have nc:c ≠ tb:=fun z=>by rw [z,g2.at_] at hc'; cases hc'
  exact ⟨c,e1,by rw [eG0,del_ne nc]; exact hc⟩
 have g0:Grow lsdat G0 H3 tb [] []:=⟨⟨G0,Same.refl _,by rw [eG0]; exact del_same,by rw [eG0]; exact del_at,.nil⟩,t3⟩
 clear eG0 fpu d3 pq3 S3 t3 npq g3 s2 S2 g2 h2
 refine ⟨pl,pq,rfl,⟨_,SqL.of (g0.same _ _ plG)⟩,⟨_,SqL.of (g0.same _ _ pqG)⟩,for_zip (K:=K) (a:=pl) (b:=pq) (xs:=pv) (ys:=pu) (n:=t.parts.length)
  (fun i σ' H'=>∃ (Ls:List (List Lb)) (us:List V) (o4 o5 o6:Option V),σ' = [some (.ref a),some (.ref p),some (.ref pl),some (.ref tb),o4,o5,o6]∧Grow lsdat G0 H' tb Ls us∧Ls.length = i∧(∀ L ∈ Ls,L.length = n) ∧
   ∀ Ms,tabGo W (t.parts.drop i) (pileOf Ls (wAt t.parts i)) Ms→tabGo W t.parts [] (Ls ++ Ms))
  lpv lpu ⟨[],[],none,none,none,rfl,g0,rfl,(fun _ h=>nomatch h),fun Ms h=>h⟩ (fun i σ' H' _ ⟨_,_,_,_,_,_,g,_⟩=>⟨SqL.of (g.same _ _ plG),SqL.of (g.same _ _ pqG)⟩) ?_ ?_⟩
 ·rintro i x y Tt σ' H4 hx hy hT ⟨Ls,us,o4,o5,o6,rfl,g4,lLs,nLs,tab⟩
  have hi:i < t.parts.length:=by rw [← lpv]; exact (List.getElem?_eq_some_iff.mp hx).1
  have fi:=T.fit_parts hf (List.getElem_mem hi)
  obtain ⟨u,hu,du⟩:=dp.nth hi
  rw [hx] at hu
  cases hu
  obtain ⟨ax,rfl⟩:=tdat_ref du
  obtain ⟨c,ec,hcG⟩:=inG i hi
  rw [hy] at ec
  cases ec
  have lu:=g4.len
  have sT:=same_new hT (.tup [V.ref ax,V.ref c])
  have e5:upd H4 Tt (.tup [V.ref ax,V.ref c]) Tt = some (.tup [V.ref ax,V.ref c]):=upd_same
  have g5:=g4.keep sT
  generalize upd H4 Tt (.tup [V.ref ax,V.ref c]) = H5 at sT e5 g5
  refine ⟨Tt,_,rfl,SqT.of e5,rfl,_,_,rfl,_,_,rfl,rfl,?_⟩
  have hc5:=g5.same _ _ hcG
  have lz:((zs (placesAt t.parts i)).map V.int).length = (placesAt t.parts i).length:=by unfold zs; rw [List.length_map,List.length_map]
  have lpl:=places_len (okGo_one t) hi
  have k2:=T.kids_len t.parts[i]
  refine ⟨_,rfl,c,rfl,⟨_,SqL.of hc5⟩,fun D hD=>?_⟩
  refine comp_over (xs:=(zs (placesAt t.parts i)).map V.int) (fun j ys τ H'=>Grow dbools H5 H' D (pileOf Ls ((placesAt t.parts i).take j)) ys∧∃ v,τ = [v,some (.ref tb)]) ⟨Grow.start hD,none,rfl⟩ (fun j ys τ H' _ h=>SqL.of (h.1.same _ _ hc5)) ?_ ?_
  ·rintro j z ys τ H6 hz ⟨g6,v,rfl⟩
   have hj:j < (placesAt t.parts i).length:=by rw [← lz]; exact (List.getElem?_eq_some_iff.mp hz).1
   have ez:z = V.int (((placesAt t.parts i)[j]:Nat):Int):=by
    unfold zs at hz
    rw [List.map_map,map_nth hj] at hz
    exact (Option.some.inj hz).symm
   subst ez
   have hlt:(placesAt t.parts i)[j] < Ls.length:=by
    rw [lLs]
    exact places_lt (List.getElem_mem hj)
   have g56:=g5.keep g6.same
   obtain ⟨w',ew,dw⟩:=g56.items.nth hlt
   obtain ⟨lq,rfl⟩:=lst_ref dw
   have ll:=nLs _ (List.getElem_mem hlt)
   have lg:=g6.len
   unfold pileOf at lg
   rw [List.length_map,List.length_take] at lg
   refine ⟨_,rfl,_,rfl,tb,us,_,_,rfl,rfl,SqL.of g56.at_,atI_nat ew,lq,_,rfl,dw,by omega,fun c' H7 s7 f7 h7=>?_⟩
   have nc:=g6.fresh_ne f7
   have g7:=g6.keep s7
   refine ⟨g7.at_,line_lt (by omega),?_,_,rfl⟩
   have et:pileOf Ls ((placesAt t.parts i).take (j + 1)) = pileOf Ls ((placesAt t.parts i).take j) ++ [truths Ls[(placesAt t.parts i)[j]]]:=by
    unfold pileOf
    rw [List.take_add_one,List.getElem?_eq_getElem hj,List.map_append]
    show _ ++ [truths (Ls.getD (placesAt t.parts i)[j] [])] = _
    rw [getD_eq hlt]
   rw [et]
   exact g7.push (v:=.ref c') (DAt.of_bools (by rw [del_ne nc]; exact h7))
  rintro ys τ H6 ⟨g6,v,rfl⟩
  rw [lz,List.take_length] at g6
  have R6:Rows H6 D n (pileOf Ls (placesAt t.parts i)):=⟨g6.done,fun r hr=>by
   obtain ⟨j,hj,rfl⟩:=List.mem_map.mp hr
   have hlt:j < Ls.length:=by rw [lLs]; exact places_lt hj
   rw [getD_eq hlt]
   unfold truths
   rw [List.length_map]
   exact nLs _ (List.getElem_mem hlt)⟩
  have g56:=g5.keep g6.same
  have S6:=sG.trans g56.same
  refine ⟨_,rfl,.inl ⟨rfl,_,SqL.of g56.at_⟩,_,rfl,_,rfl,_,rfl,a,ax,D,n,b,W,t.parts[i],_,rfl,ha.mono S6,hW,hn,hb,du.mono S6,fi,R6,?_,fun lq L lus H7 g7 ok=>?_⟩
  ·unfold pileOf
   rw [List.length_map,lpl]
  have g8:=g56.keep g7.same
  have nlq:lq ≠ tb:=fun z=>by have:=g7.free; rw [z,g56.at_] at this; cases this
  refine ⟨tb,us,_,rfl,rfl,g8.at_,line_lt (by omega),Ls ++ [L],us ++ [.ref lq],_,_,_,rfl,g8.push (labs_del g7.done nlq g8.at_),by rw [List.length_append,lLs]; rfl,fun M hM=>?_,fun Ms hg=>?_⟩
  ·rcases List.mem_append.mp hM with hM | hM
   ·exact nLs M hM
   ·rw [List.mem_singleton] at hM
    rw [hM]
    exact (ar_inv ok.1 hW).1
  ·rw [List.append_assoc]
   refine tab (L :: Ms) ?_
   rw [List.drop_eq_getElem_cons hi]
   have lp:(pileOf Ls (wAt t.parts i)).length = (wAt t.parts i).length:=by unfold pileOf; rw [List.length_map]
   have ep:placesAt t.parts i = (wAt t.parts i).drop ((wAt t.parts i).length - t.parts[i].kids.length):=by unfold placesAt; rw [getD_eq hi]
   have ew:wAt t.parts (i + 1) = (wAt t.parts i).take ((wAt t.parts i).length - t.parts[i].kids.length) ++ [i]:=by
    show (wAt t.parts i).take ((wAt t.parts i).length - (t.parts.getD i (.mark 0)).kids.length) ++ [i] = _
    rw [getD_eq hi]
   refine ⟨?_,?_⟩
   ·rw [lp]
    have e:(pileOf Ls (wAt t.parts i)).drop ((wAt t.parts i).length - t.parts[i].kids.length) = pileOf Ls (placesAt t.parts i):=by
     rw [ep]
     unfold pileOf
     rw [List.map_drop]
    rw [e]
    exact ok
   ·rw [lp]
    have e:(pileOf Ls (wAt t.parts i)).take ((wAt t.parts i).length - t.parts[i].kids.length) ++ [truths L] = pileOf (Ls ++ [L]) (wAt t.parts (i + 1)):=by
     rw [ew]
     have e1:pileOf (Ls ++ [L]) ((wAt t.parts i).take ((wAt t.parts i).length - t.parts[i].kids.length) ++ [i]) = pileOf (Ls ++ [L]) ((wAt t.parts i).take ((wAt t.parts i).length - t.parts[i].kids.length)) ++ [truths ((Ls ++ [L]).getD i [])]:=by
      unfold pileOf
      rw [List.map_append]
      rfl
     rw [e1,pile_more (fun j hj=>by rw [lLs]; exact wAt_lt i j (List.mem_of_mem_take hj))]
     have e2:(Ls ++ [L]).getD i [] = L:=by rw [← lLs]; exact last_getD
     rw [e2]
     unfold pileOf
     rw [List.map_take]
    rw [e]
    exact hg
 ·rintro σ' H4 ⟨Ls,us,o4,o5,o6,rfl,g4,lLs,nLs,tab⟩
  have h:=tab [] (by rw [List.drop_length]; rfl)
  rw [List.append_nil] at h
  exact ⟨_,rfl,q tb Ls us H4 (g4.back sG) (tab_whole h)⟩
theorem table_law {f:Addr} {fd:FuncData} (G:FnOk P w K mg base CX0 11 f fd ["world","sentence"] spTableG):FnOk P w K mg base CX0 200 f fd ["world","sentence"] spTable :=
 (G.mono (by decide)).imp fun vs H Q E h=>by
  obtain ⟨a,p,n,W,t,rfl,ha,hv,n1,n2,hp,hf,hl,q⟩:=h
  exact ⟨a,p,n,200,W,t,rfl,ha,hv,by omega,by decide,hp,hf,by omega,fun q' Ls us H' gr st=>q (.ref q') Ls H' gr.same gr.done st⟩
def spDraw:Sp:=fun vs H Q _=>∃ x p m:Int,vs = [.int x,.int p,.int m]∧0 < p∧0 < m∧∀ i:Int,0 ≤ i→i < m→Q (.int i) H
theorem ok_draw {f:Addr} {fd:FuncData} (F:Fun K "_law_draw" "_law_draw" sd_draw f fd):FnOk P w K mg base CX0 1 f fd ["_law_number","_law_prime","_law_many"] spDraw:=by
 refine F.ok sc_draw (fun vs H Q E h=>?_) (fun cdv A outer s H vs Q E hr h=>?_)
 ·obtain ⟨x,p,m,rfl,_⟩:=h
  rfl
 obtain ⟨x,p,m,rfl,hp,hm,k⟩:=h
 refine ⟨_,
  (pss_one (ps_ret (pe_op op_mod (pe_op op_mod (pe_op op_mul (pv 0) pe_int) (pv 1)) (pv 2)))),?_⟩
 refine ⟨_,rfl,_,_,rfl,rfl,.inr ⟨by decide,by decide⟩,_,rfl,_,_,rfl,rfl,hp,_,rfl,_,_,rfl,rfl,hm,?_⟩
 exact k _ (Int.emod_nonneg _ (by omega)) (Int.emod_lt_of_pos _ hm)
def spWhole:Sp:=fun vs H Q _=>∃ i:Int,vs = [.int i]∧Q (.bl true) H
theorem ok_whole {f:Addr} {fd:FuncData} (F:Fun K "_law_whole" "_law_whole" sd_whole f fd) (B:Blt mg):FnOk P w K mg base CX0 1 f fd ["_law_found"] spWhole:=by
 refine F.ok sc_whole (fun vs H Q E h=>?_) (fun cdv A outer s H vs Q E hr h=>?_)
 ·obtain ⟨i,rfl,_⟩:=h
  rfl
 obtain ⟨i,rfl,q⟩:=h
 refine ⟨_,pss_one (ps_ret (pe_and (pe_callB call_is1 rfl B.isinst bIs (pa_cons (pv 0) (pa_cons (pe_bltn (v:=.ty "int") rfl B.int bInt rfl) pa_nil)))
  (pe_one (pe_not (pe_callB call_is1 rfl B.isinst bIs (pa_cons (pv 0) (pa_cons (pe_bltn (v:=.ty "bool") rfl B.bool bBool rfl) pa_nil))))))),?_⟩
 refine ⟨_,rfl,_,_,_,_,rfl,.int i,o_ii,_,rfl,iteT ?_⟩
 exact ⟨_,rfl,_,_,_,_,rfl,.int i,o_ib,_,rfl,q⟩
def spAt (K:PySem.W.Frag):Sp:=fun vs H Q _=>∃ (a:Addr) (ns:List Int) (k:Int),vs = [.ref a,.int k]∧SqL K H a (ns.map V.int)∧ns.length ≤ 1000000∧∀ (i:Int) (H':Hp),Same H H'→Q (.int i) H'
theorem ok_at {f:Addr} {fd:FuncData} (F:Fun K "_law_at" "_law_at" sd_at f fd) (B:Blt mg):FnOk P w K mg base CX0 1 f fd ["_law_script","_law_k"] (spAt K):=by
 refine F.ok sc_at (fun vs H Q E h=>?_) (fun cdv A outer s H vs Q E hr h=>?_)
 ·obtain ⟨a,ns,k,rfl,_⟩:=h
  rfl
 obtain ⟨a,ns,k,rfl,hS,hl,q⟩:=h
 have hu:=Nat.lt_of_succ_lt (hu_of hr)
 refine ⟨_,
  (pss_cons (ps_if (pt_cmpR (op_eqNilS hu) (pv 0) (pe_lst pa_nil) (nomark _))
  (pss_one (ps_ret pe_int))
  pss_nil)
  (pss_one (ps_ret (pe_op op_add (pe_ix ix_list (pv 0) (pe_op op_mod (pv 1) (pe_callB call_len_seq rfl B.len PySem.boot_len (pa_cons (pv 0) pa_nil))) (fun _ _=>rfl)) (pe_op op_mul pe_int (pe_op op_fdiv (pv 1) (pe_callB call_len_seq rfl B.len PySem.boot_len (pa_cons (pv 0) pa_nil)))))))),?_⟩
 refine ⟨_,rfl,line0,fun b hb=>⟨a,b,_,rfl,rfl,(same_new hb _).seq hS,upd_same,_,rfl,?_⟩⟩
 have s1:=same_new hb (.lst [])
 have hS1:=s1.seq hS
 generalize upd H b (.lst []) = H1 at s1 hS1
 refine ite2 (fun _=>q 0 _ s1) (fun c=>?_)
 have lm:(ns.map V.int).length = ns.length:=List.length_map _
 have hpos:0 < (ns.map V.int).length:=by
  cases ns with
  | nil=>exact absurd rfl c
  | cons x r=>exact Nat.succ_pos _
 obtain ⟨v,e1,e2⟩:=idx_mod (xs:=ns.map V.int) (z:=k) rfl hpos
 obtain ⟨z,rfl,_⟩:=int_mem e2
 have hp2:(0:Int) < (((ns.map V.int).length:Nat):Int):=by omega
 refine ⟨_,rfl,_,rfl,_,rfl,a,_,rfl,.inl hS1,_,_,rfl,rfl,hp2,a,_,_,_,rfl,rfl,hS1,e1,_,rfl,_,rfl,a,_,rfl,.inl hS1,_,_,rfl,rfl,⟨hp2,by omega⟩,_,_,rfl,rfl,.inl ⟨by decide,by decide⟩,_,_,rfl,rfl,?_⟩
 exact q _ _ s1
def spSame:Sp:=fun vs H Q _=>∃ (x y:V) (d:Dat),vs = [x,y]∧DAt H x d∧DAt H y d∧d.wt ≤ 10000000∧∀ H',Same H H'→Q (.bl true) H'
theorem ok_same {f g:Addr} {fd gd:FuncData} (F:Fun K "_law_same" "_law_same" sd_same f fd) (B:Blt mg) (G_whole:FnOk P w K mg base CX0 1 g gd ["_law_found"] spWhole) (M_whole:MG K mg "_law_whole" ["_law_found"] g gd) :
  FnOk P w K mg base CX0 2 f fd ["_law_found","_law_due"] spSame:=by
 refine F.ok sc_same (fun vs H Q E h=>?_) (fun cdv A outer s H vs Q E hr h=>?_)
 ·obtain ⟨x,y,d,rfl,_⟩:=h
  rfl
 obtain ⟨x,y,d,rfl,hx,hy,hbig,k⟩:=h
 have hu:=Nat.lt_of_succ_lt (hu_of hr)
 refine ⟨_,
  (pss_cons (ps_set (i:=2) sc_same.nd rfl (Or.inl rfl) (pe_lst (pa_cons (pv 0) pa_nil)))
  (pss_cons (ps_set (i:=3) sc_same.nd rfl (Or.inl rfl) (pe_lst (pa_cons (pv 1) pa_nil)))
  (pss_cons (ps_while PassesOwn.never (pt_cmpR (op_neNil hu) (pv 3) (pe_lst pa_nil) (nomark _))
  (pss_cons (ps_set (i:=4) sc_same.nd rfl (Or.inl rfl) (pe_bm0 PySem.F.plainAttrs_list PySem.F.slot_list_pop PySem.F.type_list_pop mt_pop (pv 2)))
  (pss_cons (ps_set (i:=5) sc_same.nd rfl (Or.inl rfl) (pe_bm0 PySem.F.plainAttrs_list PySem.F.slot_list_pop PySem.F.type_list_pop mt_pop (pv 3)))
  (pss_one (ps_if (pt_val (pe_callB call_is2 rfl B.isinst bIs (pa_cons (pv 5) (pa_cons (pe_tup (pa_cons (pe_bltn (v:=.ty "list") rfl B.list bList rfl) (pa_cons (pe_bltn (v:=.ty "tuple") rfl B.tuple bTuple rfl) pa_nil))) pa_nil))))
  (pss_cons (ps_if (pt_cmpR op_ne (pe_callB call_is1 rfl B.isinst bIs (pa_cons (pv 4) (pa_cons (pe_bltn (v:=.ty "list") rfl B.list bList rfl) pa_nil))) (pe_callB call_is1 rfl B.isinst bIs (pa_cons (pv 5) (pa_cons (pe_bltn (v:=.ty "list") rfl B.list bList rfl) pa_nil))) (nomark _))
  (pss_one (ps_ret pe_bl))
  pss_nil)
  (pss_cons (ps_if (PW.pt (pw_or (pt_cmpR op_ne (pe_callB call_is1 rfl B.isinst bIs (pa_cons (pv 4) (pa_cons (pe_bltn (v:=.ty "tuple") rfl B.tuple bTuple rfl) pa_nil))) (pe_callB call_is1 rfl B.isinst bIs (pa_cons (pv 5) (pa_cons (pe_bltn (v:=.ty "tuple") rfl B.tuple bTuple rfl) pa_nil))) (nomark _)) (pw_or1 (pt_cmpR op_ne (pe_callB call_len_seq rfl B.len PySem.boot_len (pa_cons (pv 4) pa_nil)) (pe_callB call_len_seq rfl B.len PySem.boot_len (pa_cons (pv 5) pa_nil)) (nomark _)))))
  (pss_one (ps_ret pe_bl))
  pss_nil)
  (pss_cons (ps_expr (pe_bm PySem.F.plainAttrs_list PySem.F.slot_list_extend PySem.F.type_list_extend (MtR.or mt_extend mt_extendT) (pv 2) (pa_cons (pv 4) pa_nil)))
  (pss_one (ps_expr (pe_bm PySem.F.plainAttrs_list PySem.F.slot_list_extend PySem.F.type_list_extend (MtR.or mt_extend mt_extendT) (pv 3) (pa_cons (pv 5) pa_nil)))))))
  (pss_one (ps_if (pt_cmp (pc_isN (pv 5)))
  (pss_one (ps_if (pt_cmp (pc_notN (pv 4)))
  (pss_one (ps_ret pe_bl))
  pss_nil))
  (pss_one (ps_if (pt_val (pe_callB call_is1 rfl B.isinst bIs (pa_cons (pv 5) (pa_cons (pe_bltn (v:=.ty "bool") rfl B.bool bBool rfl) pa_nil))))
  (pss_one (ps_if (PW.pt (pw_or (pt_not (pt_val (pe_callB call_is1 rfl B.isinst bIs (pa_cons (pv 4) (pa_cons (pe_bltn (v:=.ty "bool") rfl B.bool bBool rfl) pa_nil))))) (pw_or1 (pt_cmpR op_ne (pv 4) (pv 5) (nomark _)))))
  (pss_one (ps_ret pe_bl))
  pss_nil))
  (pss_one (ps_if (pt_val (pe_callB call_is1 rfl B.isinst bIs (pa_cons (pv 5) (pa_cons (pe_bltn (v:=.ty "str") rfl B.str bStr rfl) pa_nil))))
  (pss_one (ps_if (PW.pt (pw_or (pt_not (pt_val (pe_callB call_is1 rfl B.isinst bIs (pa_cons (pv 4) (pa_cons (pe_bltn (v:=.ty "str") rfl B.str bStr rfl) pa_nil))))) (pw_or1 (pt_cmpR op_ne (pv 4) (pv 5) (nomark _)))))
  (pss_one (ps_ret pe_bl))
  pss_nil))
  (pss_one (ps_if (PW.pt (pw_or (pt_not (pt_val (pe_cm G_whole M_whole hr rfl (pa_cons (pv 4) pa_nil)))) (pw_or1 (pt_cmpR op_ne (pv 4) (pv 5) (nomark _)))))
  (pss_one (ps_ret pe_bl))
  pss_nil)))))))))))))
  (pss_one (ps_ret pe_bl))))),?_⟩
 refine ⟨_,rfl,line_le (by show 1 ≤ 16000000; decide),fun l hl=>?_⟩
 refine ⟨_,rfl,line_le (by show 1 ≤ 16000000; decide),fun r hr'=>?_⟩
 have s1:Same H (upd H l (.lst [x])):=same_new hl _
 have hr0:H r = none:=s1.free hr'
 have nlr:l ≠ r:=ne_of_none upd_same hr'
 refine ⟨fun m σ' H'=>∃ (ds:List Dat) (ls rs:List V) (o1 o2:Option V),m = wts ds∧σ' = [some x,some y,some (.ref l),some (.ref r),o1,o2]∧Same H H'∧H' l = some (.lst ls)∧H' r = some (.lst rs)∧DsAt H ls ds∧DsAt H rs ds∧wts ds ≤ 10000000,
  ⟨_,[d],[x],[y],none,none,rfl,rfl,s1.trans (same_new hr' _),by rw [upd_ne nlr,upd_same],upd_same,.cons hx .nil,.cons hy .nil,hbig⟩,?_⟩
 rintro m σ' H' ⟨ds,ls,rs,o1,o2,rfl,rfl,sm,hl',hr1,hL,hR,hb⟩
 refine ⟨_,rfl,line_le (by show 0 ≤ 16000000; decide),fun q hq=>?_⟩
 have sq:Same H' (upd H' q (.lst [])):=same_new hq _
 refine ⟨r,q,rs,rfl,rfl,sq _ _ hr1,upd_same,_,rfl,?_⟩
 have sm1:=sm.trans sq
 have hl1:=sq _ _ hl'
 have hr2:=sq _ _ hr1
 generalize upd H' q (.lst []) = H1 at sm1 hl1 hr2
 rcases List.eq_nil_or_concat ds with rfl | ⟨ds',d',rfl⟩
 ·cases hR
  exact iteF (k H1 sm1)
 rw [List.concat_eq_append] at *
 obtain ⟨ls',v1,rfl,hL',h1⟩:=DsAt.last hL
 obtain ⟨rs',v2,rfl,hR',h2⟩:=DsAt.last hR
 refine ite2 (fun _=>?_) (fun c=>absurd (by simp) c)
 refine ⟨_,fun _ _ h=>h,?_⟩
 refine ⟨_,rfl,.inl ⟨rfl,_,SqL.of hl1⟩,l,_,v1,rfl,rfl,hl1,last_at _ _,?_⟩
 have hr3:upd H1 l (.lst (ls' ++ [v1]).dropLast) r = some (.lst (rs' ++ [v2])):=by rw [upd_ne nlr.symm]; exact hr2
 refine ⟨_,rfl,.inl ⟨rfl,_,SqL.of hr3⟩,r,_,v2,rfl,rfl,hr3,last_at _ _,?_⟩
 have s2:Same H (upd (upd H1 l (.lst (ls' ++ [v1]).dropLast)) r (.lst (rs' ++ [v2]).dropLast)):=same_upd (same_upd sm1 hl _) hr0 _
 have hl2:upd (upd H1 l (.lst (ls' ++ [v1]).dropLast)) r (.lst (rs' ++ [v2]).dropLast) l = some (.lst ls'):=by rw [upd_ne nlr,upd_same,List.dropLast_concat]
 have hr4:upd (upd H1 l (.lst (ls' ++ [v1]).dropLast)) r (.lst (rs' ++ [v2]).dropLast) r = some (.lst rs'):=by rw [upd_same,List.dropLast_concat]
 generalize upd (upd H1 l (.lst (ls' ++ [v1]).dropLast)) r (.lst (rs' ++ [v2]).dropLast) = H2 at s2 hl2 hr4
 have wsum:=wts_append ds' [d']
 have wpos:=d'.wt_pos
 have w1:wts [d'] = d'.wt:=Nat.add_zero _
 have lL:=hL'.length
 have lR:=hR'.length
 have ll:=length_wts ds'
 have stay:∀ H3:Hp,Same H2 H3→(∃ m',m' < wts (ds' ++ [d'])∧∃ (ds:List Dat) (ls rs:List V) (o1 o2:Option V),m' = wts ds∧([some x,some y,some (.ref l),some (.ref r),some v1,some v2]:St) = [some x,some y,some (.ref l),some (.ref r),o1,o2]∧Same H H3∧H3 l = some (.lst ls)∧H3 r = some (.lst rs)∧DsAt H ls ds∧DsAt H rs ds∧wts ds ≤ 10000000):=fun H3 s3 =>
  ⟨wts ds',by omega,ds',ls',rs',_,_,rfl,rfl,s2.trans s3,s3 _ _ hl2,s3 _ _ hr4,hL',hR',by omega⟩
 have nest:∀ (H3:Hp) (es:List Dat) (us zs:List V),Same H2 H3→1 + wts es = d'.wt→DsAt H us es→DsAt H zs es→(∃ m',m' < wts (ds' ++ [d'])∧∃ (ds:List Dat) (ls rs:List V) (o1 o2:Option V),m' = wts ds∧([some x,some y,some (.ref l),some (.ref r),some v1,some v2]:St) = [some x,some y,some (.ref l),some (.ref r),o1,o2]∧Same H (upd (upd H3 l (.lst (ls' ++ us))) r (.lst (rs' ++ zs))) ∧
   upd (upd H3 l (.lst (ls' ++ us))) r (.lst (rs' ++ zs)) l = some (.lst ls)∧upd (upd H3 l (.lst (ls' ++ us))) r (.lst (rs' ++ zs)) r = some (.lst rs)∧DsAt H ls ds∧DsAt H rs ds∧wts ds ≤ 10000000):=fun H3 es us zs s3 we hu hz=>by
  have wa:=wts_append ds' es
  exact ⟨wts (ds' ++ es),by omega,ds' ++ es,_,_,_,_,rfl,rfl,same_upd (same_upd (s2.trans s3) hl _) hr0 _,by rw [upd_ne nlr,upd_same],upd_same,hL'.append hu,hR'.append hz,by omega⟩
 cases d' with
 | tup es =>
  obtain ⟨a1,us,rfl,e1,hu1⟩:=h1.tup_inv
  obtain ⟨a2,zs,rfl,e2,hu2⟩:=h2.tup_inv
  have lu1:=hu1.length
  have lu2:=hu2.length
  have le:=length_wts es
  have we:1 + wts es = (Dat.tup es).wt:=rfl
  refine ⟨_,rfl,line_le (by show 2 ≤ 16000000; decide),fun tp htp=>?_⟩
  have s3:=same_new (H:=H2) htp (.tup [.ty "list",.ty "tuple"])
  have f1:=s3 _ _ (s2 _ _ e1)
  have f2:=s3 _ _ (s2 _ _ e2)
  refine ⟨_,tp,_,_,_,_,rfl,upd_same,.tup f2,kTL,_,rfl,iteT ?_⟩
  refine ⟨_,rfl,_,_,_,_,rfl,.tup f1,o_tl,_,rfl,_,_,_,_,rfl,.tup f2,o_tl,rfl,_,rfl,iteF ?_⟩
  refine ⟨_,rfl,_,_,_,_,rfl,.tup f1,o_tt,_,rfl,_,_,_,_,rfl,.tup f2,o_tt,rfl,_,rfl,iteF ?_⟩
  refine ⟨_,rfl,a1,us,rfl,.inr (SqT.of f1),_,rfl,a2,zs,rfl,.inr (SqT.of f2),rfl,_,rfl,?_⟩
  refine ite2 (fun c=>absurd c ?_) (fun _=>?_)
  ·rw [lu1,lu2]; simp
  refine ⟨_,rfl,.inl ⟨rfl,_,SqL.of (s3 _ _ hl2)⟩,_,rfl,.inr ⟨l,a1,ls',us,rfl,rfl,s3 _ _ hl2,SqT.of f1,line_le (by omega),?_⟩⟩
  have g1:∀ b o,b ≠ l→upd H2 tp (.tup [.ty "list",.ty "tuple"]) b = some o→upd (upd H2 tp (.tup [.ty "list",.ty "tuple"])) l (.lst (ls' ++ us)) b = some o:=fun b o hb e=>by rw [upd_ne hb]; exact e
  have hr5:=g1 _ _ nlr.symm (s3 _ _ hr4)
  have na2:a2 ≠ l:=ne_of_none e2 hl
  refine ⟨_,rfl,.inl ⟨rfl,_,SqL.of hr5⟩,_,rfl,.inr ⟨r,a2,rs',zs,rfl,rfl,hr5,SqT.of (g1 _ _ na2 f2),line_le (by omega),?_⟩⟩
  exact nest _ es us zs s3 we hu1 hu2
 | lst es =>
  obtain ⟨a1,us,rfl,e1,hu1⟩:=h1.lst_inv
  obtain ⟨a2,zs,rfl,e2,hu2⟩:=h2.lst_inv
  have lu1:=hu1.length
  have lu2:=hu2.length
  have le:=length_wts es
  have we:1 + wts es = (Dat.lst es).wt:=rfl
  refine ⟨_,rfl,line_le (by show 2 ≤ 16000000; decide),fun tp htp=>?_⟩
  have s3:=same_new (H:=H2) htp (.tup [.ty "list",.ty "tuple"])
  have f1:=s3 _ _ (s2 _ _ e1)
  have f2:=s3 _ _ (s2 _ _ e2)
  refine ⟨_,tp,_,_,_,_,rfl,upd_same,.lst f2,kLL,_,rfl,iteT ?_⟩
  refine ⟨_,rfl,_,_,_,_,rfl,.lst f1,o_ll,_,rfl,_,_,_,_,rfl,.lst f2,o_ll,rfl,_,rfl,iteF ?_⟩
  refine ⟨_,rfl,_,_,_,_,rfl,.lst f1,o_lt,_,rfl,_,_,_,_,rfl,.lst f2,o_lt,rfl,_,rfl,iteF ?_⟩
  refine ⟨_,rfl,a1,us,rfl,.inl (SqL.of f1),_,rfl,a2,zs,rfl,.inl (SqL.of f2),rfl,_,rfl,?_⟩
  refine ite2 (fun c=>absurd c ?_) (fun _=>?_)
  ·rw [lu1,lu2]; simp
  refine ⟨_,rfl,.inl ⟨rfl,_,SqL.of (s3 _ _ hl2)⟩,_,rfl,.inl ⟨l,a1,ls',us,rfl,rfl,s3 _ _ hl2,f1,line_le (by omega),?_⟩⟩
  have g1:∀ b o,b ≠ l→upd H2 tp (.tup [.ty "list",.ty "tuple"]) b = some o→upd (upd H2 tp (.tup [.ty "list",.ty "tuple"])) l (.lst (ls' ++ us)) b = some o:=fun b o hb e=>by rw [upd_ne hb]; exact e
  have hr5:=g1 _ _ nlr.symm (s3 _ _ hr4)
  have na2:a2 ≠ l:=ne_of_none e2 hl
  refine ⟨_,rfl,.inl ⟨rfl,_,SqL.of hr5⟩,_,rfl,.inl ⟨r,a2,rs',zs,rfl,rfl,hr5,g1 _ _ na2 f2,line_le (by omega),?_⟩⟩
  exact nest _ es us zs s3 we hu1 hu2
 | non =>
  cases h1
  cases h2
  refine ⟨_,rfl,line_le (by show 2 ≤ 16000000; decide),fun tp htp=>?_⟩
  have s3:=same_new (H:=H2) htp (.tup [.ty "list",.ty "tuple"])
  refine ⟨_,tp,_,_,_,_,rfl,upd_same,.non,kNL,_,rfl,iteF ?_⟩
  refine ⟨_,rfl,_,rfl,itD rfl ?_⟩
  refine ⟨_,rfl,_,rfl,iteF ?_⟩
  exact stay _ s3
 | bl b =>
  cases h1
  cases h2
  refine ⟨_,rfl,line_le (by show 2 ≤ 16000000; decide),fun tp htp=>?_⟩
  have s3:=same_new (H:=H2) htp (.tup [.ty "list",.ty "tuple"])
  refine ⟨_,tp,_,_,_,_,rfl,upd_same,.bl b,kBL,_,rfl,iteF ?_⟩
  refine ⟨_,rfl,_,rfl,itN (by intro z; cases z) ?_⟩
  refine ⟨_,rfl,_,_,_,_,rfl,.bl b,o_bb,_,rfl,iteT ?_⟩
  refine ⟨_,rfl,_,_,_,_,rfl,.bl b,o_bb,_,rfl,iteF ?_⟩
  refine ⟨_,rfl,_,rfl,(by cases b <;> rfl),_,rfl,?_⟩
  refine ite2 (fun c=>absurd c (by simp)) (fun _=>?_)
  exact stay _ s3
 | str z =>
  cases h1
  cases h2
  refine ⟨_,rfl,line_le (by show 2 ≤ 16000000; decide),fun tp htp=>?_⟩
  have s3:=same_new (H:=H2) htp (.tup [.ty "list",.ty "tuple"])
  refine ⟨_,tp,_,_,_,_,rfl,upd_same,.str z,kSL,_,rfl,iteF ?_⟩
  refine ⟨_,rfl,_,rfl,itN (by intro z; cases z) ?_⟩
  refine ⟨_,rfl,_,_,_,_,rfl,.str z,o_sb,_,rfl,iteF ?_⟩
  refine ⟨_,rfl,_,_,_,_,rfl,.str z,o_ss,_,rfl,iteT ?_⟩
  refine ⟨_,rfl,_,_,_,_,rfl,.str z,o_ss,_,rfl,iteF ?_⟩
  refine ⟨_,rfl,_,rfl,rfl,_,rfl,?_⟩
  refine ite2 (fun c=>absurd c (by simp)) (fun _=>?_)
  exact stay _ s3
 | int z =>
  cases h1
  cases h2
  refine ⟨_,rfl,line_le (by show 2 ≤ 16000000; decide),fun tp htp=>?_⟩
  have s3:=same_new (H:=H2) htp (.tup [.ty "list",.ty "tuple"])
  refine ⟨_,tp,_,_,_,_,rfl,upd_same,.int z,kIL,_,rfl,iteF ?_⟩
  refine ⟨_,rfl,_,rfl,itN (by intro z; cases z) ?_⟩
  refine ⟨_,rfl,_,_,_,_,rfl,.int z,o_ib,_,rfl,iteF ?_⟩
  refine ⟨_,rfl,_,_,_,_,rfl,.int z,o_is,_,rfl,iteF ?_⟩
  refine ⟨_,rfl,z,rfl,_,rfl,iteF ?_⟩
  refine ⟨_,rfl,_,rfl,rfl,_,rfl,?_⟩
  refine ite2 (fun c=>absurd c (by simp)) (fun _=>?_)
  exact stay _ s3
end
end Ws
namespace Ws
open PySem L2
def litStr:Expr→Option Str
 | .Constant (.str x) _ _=>some x
 | _=>none
def litPair:Expr→Option (Str × Str)
 | .Tuple [a,b] _ _=>(litStr a).bind fun x=>(litStr b).map fun y=>(x,y)
 | _=>none
def litPairs:List Expr→Option (List (Str × Str))
 | []=>some []
 | e :: r=>(litPair e).bind fun p=>(litPairs r).map fun q=>p :: q
def pd (p:Str × Str):Dat:=.tup [.str p.1,.str p.2]
def tPairs (ps:List (Str × Str)):TA:=fun _ H Q=>∀ vs H',Same H H'→DsAt H' vs (ps.map pd)→Q vs H'
theorem litStr_inv {e:Expr} {x:Str} (h:litStr e = some x):∃ j pos,e = .Constant (.str x) j pos:=by
 unfold litStr at h
 split at h
 ·cases h; exact ⟨_,_,rfl⟩
 ·cases h
theorem litPair_inv {e:Expr} {p:Str × Str} (h:litPair e = some p):∃ j1 p1 j2 p2 k pos,e = .Tuple [.Constant (.str p.1) j1 p1,.Constant (.str p.2) j2 p2] k pos:=by
 unfold litPair at h
 split at h
 ·rename_i a b k pos
  cases ha:litStr a with
  | none=>rw [ha] at h; cases h
  | some x =>
   cases hb:litStr b with
   | none=>rw [ha,hb] at h; cases h
   | some y =>
    rw [ha,hb] at h
    have h:some (x,y) = some p:=h
    cases h
    obtain ⟨j1,p1,rfl⟩:=litStr_inv ha
    obtain ⟨j2,p2,rfl⟩:=litStr_inv hb
    exact ⟨_,_,_,_,_,_,rfl⟩
 ·cases h
theorem pa_pairs {X:Cx}:∀ {es:List Expr} {ps:List (Str × Str)},litPairs es = some ps→PA X es (tPairs ps)
 | [],ps,h=>by
  cases h
  exact fun pos pins s σ H Q I q=>pa_nil pos pins s σ H Q I (q [] H (Same.refl H) .nil)
 | e :: r,ps,h=>by
  unfold litPairs at h
  cases he:litPair e with
  | none=>rw [he] at h; cases h
  | some p =>
   cases hr:litPairs r with
   | none=>rw [he,hr] at h; cases h
   | some q =>
    rw [he,hr] at h
    have h:some (p :: q) = some ps:=h
    cases h
    obtain ⟨j1,p1,j2,p2,k,ps,rfl⟩:=litPair_inv he
    have ih:=pa_pairs (X:=X) hr
    intro pos pins s σ H Q I w
    refine pa_cons (pe_tup (pa_cons pe_str (pa_cons pe_str pa_nil))) ih rfl pos pins s σ H Q I ?_
    refine ⟨line_le (by show 2 ≤ 16000000; decide),fun a ha vs H' sm dv=>?_⟩
    refine w _ H' ((same_new ha _).trans sm) (.cons (.tup (sm _ _ upd_same) (.cons (.str _) (.cons (.str _) .nil))) dv)
def ps1:List (Str × Str):=[("and",""),("or",""),("not",""),("next","some"),("next","all")]
def ps2:List (Str × Str):=[("until","some"),("until","all")]
def ps3:List (Str × Str):=[("last","some"),("last","all"),("always","some")]
def ps4:List (Str × Str):=[("always","all"),("again","some"),("again","all"),("settle","some")]
def ps5:List (Str × Str):=[("settle","all"),("mark",""),("mark",""),("mark",""),("mark","")]
def sorts:List (Str × Str):=(((ps1 ++ ps2) ++ ps3) ++ ps4) ++ ps5
section
variable {P:Program} {w:World} {K:PySem.W.Frag} {mg:Str→Option Value} {base:Heap}
def spSort:Sp:=fun vs H Q _=>∃ z:Int,vs = [.int z]∧∀ (v:V) (p:Str × Str) (H':Hp),p ∈ sorts→Same H H'→DAt H' v (pd p)→Q v H'
seal L2.PSs L2.PS L2.PE L2.PA L2.PT
theorem ok_sort_of {f:Addr} {fd:FuncData} (F:Fun K "_law_sort_of" "_law_sort_of" sd_sort_of f fd):FnOk P w K mg base CX0 1 f fd ["_law_cell"] spSort:=by
 refine F.ok sc_sort_of (fun vs H Q E h=>?_) (fun cdv A outer s H vs Q E hr h=>?_)
 ·obtain ⟨z,rfl,_⟩:=h
  rfl
 obtain ⟨z,rfl,k⟩:=h
 refine ⟨_,pss_cons (ps_set (i:=1) sc_sort_of.nd rfl (Or.inl rfl) (pe_lst (pa_pairs (ps:=ps1) (by rfl))))
  (pss_cons (ps_set (i:=1) sc_sort_of.nd rfl (Or.inl rfl) (pe_op op_cat (pv 1) (pe_lst (pa_pairs (ps:=ps2) (by rfl)))))
  (pss_cons (ps_set (i:=1) sc_sort_of.nd rfl (Or.inl rfl) (pe_op op_cat (pv 1) (pe_lst (pa_pairs (ps:=ps3) (by rfl)))))
  (pss_cons (ps_set (i:=1) sc_sort_of.nd rfl (Or.inl rfl) (pe_op op_cat (pv 1) (pe_lst (pa_pairs (ps:=ps4) (by rfl)))))
  (pss_cons (ps_set (i:=1) sc_sort_of.nd rfl (Or.inl rfl) (pe_op op_cat (pv 1) (pe_lst (pa_pairs (ps:=ps5) (by rfl)))))
  (pss_one (ps_ret (pe_ix ix_list (pv 1) (pe_op op_mod (pv 0) pe_int) (fun _ _=>rfl)))))))),?_⟩
 have step:∀ (H1 H2:Hp) (p1:Addr) (vs ws:List V) (ps qs:List (Str × Str)),Same H H1→H1 p1 = some (.lst vs)→DsAt H1 vs (ps.map pd)→Same H1 H2→DsAt H2 ws (qs.map pd)→ps.length + qs.length ≤ 100 →
   vs.length + ws.length ≤ 16000000∧Same H H2∧H2 p1 = some (.lst vs)∧DsAt H2 (vs ++ ws) ((ps ++ qs).map pd):=fun H1 H2 p1 vs ws ps qs s1 h1 d1 s2 d2 hl=>by
  have l1:=d1.length
  have l2:=d2.length
  rw [List.length_map] at l1 l2
  exact ⟨by omega,s1.trans s2,s2 _ _ h1,by rw [List.map_append]; exact (d1.mono s2).append d2⟩
 intro v1 H1 s1 d1
 refine ⟨line_le (by rw [d1.length,List.length_map]; decide),fun p1 hp1=>?_⟩
 have t1:=same_new hp1 (.lst v1)
 refine ⟨_,rfl,fun v2 H2 s2 d2=>?_⟩
 obtain ⟨l2,a2,b2,c2⟩:=step _ _ p1 v1 v2 ps1 ps2 (s1.trans t1) upd_same (d1.mono t1) s2 d2 (by decide)
 refine ⟨line_le (by omega),fun q2 hq2=>⟨p1,q2,_,_,rfl,rfl,same_new hq2 _ _ _ b2,upd_same,line_le l2,fun p2 hp2=>?_⟩⟩
 have t2:=(same_new hq2 (.lst v2)).trans (same_new hp2 (.lst (v1 ++ v2)))
 refine ⟨_,rfl,fun v3 H3 s3 d3=>?_⟩
 obtain ⟨l3,a3,b3,c3⟩:=step _ _ p2 _ v3 _ ps3 (a2.trans t2) upd_same (c2.mono t2) s3 d3 (by decide)
 refine ⟨line_le (by omega),fun q3 hq3=>⟨p2,q3,_,_,rfl,rfl,same_new hq3 _ _ _ b3,upd_same,line_le l3,fun p3 hp3=>?_⟩⟩
 have t3:=(same_new hq3 (.lst v3)).trans (same_new hp3 (.lst (v1 ++ v2 ++ v3)))
 refine ⟨_,rfl,fun v4 H4 s4 d4=>?_⟩
 obtain ⟨l4,a4,b4,c4⟩:=step _ _ p3 _ v4 _ ps4 (a3.trans t3) upd_same (c3.mono t3) s4 d4 (by decide)
 refine ⟨line_le (by omega),fun q4 hq4=>⟨p3,q4,_,_,rfl,rfl,same_new hq4 _ _ _ b4,upd_same,line_le l4,fun p4 hp4=>?_⟩⟩
 have t4:=(same_new hq4 (.lst v4)).trans (same_new hp4 (.lst (v1 ++ v2 ++ v3 ++ v4)))
 refine ⟨_,rfl,fun v5 H5 s5 d5=>?_⟩
 obtain ⟨l5,a5,b5,c5⟩:=step _ _ p4 _ v5 _ ps5 (a4.trans t4) upd_same (c4.mono t4) s5 d5 (by decide)
 refine ⟨line_le (by omega),fun q5 hq5=>⟨p4,q5,_,_,rfl,rfl,same_new hq5 _ _ _ b5,upd_same,line_le l5,fun p5 hp5=>?_⟩⟩
 have t5:=(same_new hq5 (.lst v5)).trans (same_new hp5 (.lst (v1 ++ v2 ++ v3 ++ v4 ++ v5)))
 have c6:DsAt _ (v1 ++ v2 ++ v3 ++ v4 ++ v5) (sorts.map pd):=c5.mono t5
 have l6:(v1 ++ v2 ++ v3 ++ v4 ++ v5).length = 19:=by rw [c6.length,List.length_map]; decide
 obtain ⟨v,e1,e2⟩:=idx_mod (z:=z) l6 (by decide)
 refine ⟨_,rfl,_,rfl,_,_,rfl,rfl,(by show (0:Int) < 19; decide),p5,_,_,v,rfl,rfl,SqL.of upd_same,e1,?_⟩
 have hk:(z % ((19:Nat):Int)).toNat < sorts.length:=by
  have h1:=(List.getElem?_eq_some_iff.mp e2).1
  rw [l6] at h1
  exact h1
 obtain ⟨u,hu,du⟩:=c6.get (i:=(z % ((19:Nat):Int)).toNat) (d:=pd sorts[(z % ((19:Nat):Int)).toNat]) (by rw [List.getElem?_map,List.getElem?_eq_getElem hk]; rfl)
 rw [e2] at hu
 cases hu
 exact k v _ _ (List.getElem_mem hk) (a5.trans t5) du
end
end Ws
namespace Ws
open PySem L2
section
variable {P:Program} {w:World} {K:PySem.W.Frag} {mg:Str→Option Value} {base:Heap}
seal L2.PSs L2.PS L2.PE L2.PA L2.PT L2.PG L2.PF L2.PI
end
end Ws
namespace Ws
open PySem L2
section
variable {P:Program} {w:World} {K:PySem.W.Frag} {mg:Str→Option Value} {base:Heap}
def spSent:Sp:=fun vs H Q _=>∃ (s x:Str) (l:Addr) (ks:List V),vs = [.str s,.str x,.ref l]∧H l = some (.lst ks)∧ks.length ≤ 100∧∀ (p:Addr) (H':Hp),Same H H'→H p = none→H' p = some (.tup ((hd s x).map V.str ++ ks))→Q (.ref p) H'
theorem ok_sentence_of {f:Addr} {fd:FuncData} (F:Fun K "_law_sentence_of" "_law_sentence_of" sd_sentence_of f fd) (B:Blt mg):FnOk P w K mg base CX0 1 f fd ["_law_sort","_law_who","_law_inner"] spSent:=by
 refine F.ok sc_sentence_of (fun vs H Q E h=>?_) (fun cdv A outer s H vs Q E hr h=>?_)
 ·obtain ⟨s,x,l,ks,rfl,_⟩:=h
  rfl
 obtain ⟨s,x,l,ks,rfl,hl,hz,k⟩:=h
 refine ⟨_,pss_cons (ps_if (pt_cmpR op_eq (pv 1) pe_str (nomark _)) (pss_one (ps_ret (pe_callTy call_tuple_of rfl B.tuple bTuple (pa_cons (pe_op op_cat (pe_lst (pa_cons (pv 0) pa_nil)) (pv 2)) pa_nil)))) pss_nil)
  (pss_one (ps_ret (pe_callTy call_tuple_of rfl B.tuple bTuple (pa_cons (pe_op op_cat (pe_lst (pa_cons (pv 0) (pa_cons (pv 1) pa_nil))) (pv 2)) pa_nil)))),?_⟩
 refine ⟨_,rfl,rfl,_,rfl,ite2 (fun c=>?_) (fun c=>?_)⟩
 ·have e:x = "":=V.str.inj (of_decide_eq_true c)
  refine ⟨_,rfl,line_le (by show 1 ≤ 16000000; decide),fun a ha=>⟨_,rfl,a,l,_,_,rfl,rfl,upd_same,same_new ha _ _ _ hl,line_le (by show 1 + ks.length ≤ 16000000; omega),fun b hb=>⟨b,_,rfl,.inl ⟨SqL.of upd_same,fun p hp=>?_⟩⟩⟩⟩
  have s1:=(same_new ha (.lst [V.str s])).trans (same_new hb (.lst ([V.str s] ++ ks)))
  refine k p _ (s1.trans (same_new hp _)) (s1.free hp) ?_
  rw [upd_same]
  unfold hd
  rw [if_pos e]
  rfl
 ·have e:¬ x = "":=fun z=>c (decide_eq_true (congrArg V.str z))
  refine ⟨_,rfl,_,rfl,line_le (by show 2 ≤ 16000000; decide),fun a ha=>⟨_,rfl,a,l,_,_,rfl,rfl,upd_same,same_new ha _ _ _ hl,line_le (by show 2 + ks.length ≤ 16000000; omega),fun b hb=>⟨b,_,rfl,.inl ⟨SqL.of upd_same,fun p hp=>?_⟩⟩⟩⟩
  have s1:=(same_new ha (.lst [V.str s,V.str x])).trans (same_new hb (.lst ([V.str s,V.str x] ++ ks)))
  refine k p _ (s1.trans (same_new hp _)) (s1.free hp) ?_
  rw [upd_same]
  unfold hd
  rw [if_neg e]
  rfl
end
end Ws
namespace Ws
open PySem L2
section
variable {P:Program} {w:World} {K:PySem.W.Frag} {mg:Str→Option Value} {base:Heap}
seal L2.PSs L2.PS L2.PE L2.PA L2.PT L2.PG L2.PF L2.PI
end
end Ws
namespace Ws
open PySem L2
section
variable {P:Program} {w:World} {K:PySem.W.Frag} {mg:Str→Option Value} {base:Heap}
theorem join_all (w:List Str) {ks:List T} (h:ks.length = 1 ∨ ks.length = 2) :
  (join w ks).dat = .tup (w.map .str ++ ks.map T.dat)∧(join w ks).parts = ks.flatMap T.parts ++ [join w ks]∧(Head w→(∀ t ∈ ks,t.ok)→(join w ks).ok)∧(join w ks).parts.length = cnt ks + 1:=by
 match ks,h with
 | [t],_=>exact ⟨rfl,by simp [join,T.parts],fun a b=>⟨a,b t (by simp)⟩,by simp [join,T.parts,cnt]⟩
 | [t,u],_=>exact ⟨rfl,by simp [join,T.parts],fun a b=>⟨a,b t (by simp),b u (by simp)⟩,by simp [join,T.parts,cnt]; omega⟩
 | [],h=>simp at h
 | _ :: _ :: _ :: _,h=>simp at h
theorem flat_cnt:∀ (ks:List T),(ks.flatMap T.parts).length = cnt ks
 | []=>rfl
 | t :: r=>by
  rw [List.flatMap_cons,List.length_append,flat_cnt r]
  rfl
theorem item_inv {G:Hp} {v:V} {t:T} (h:DAt G v (item t)):∃ a x b zs,v = .ref a∧G a = some (.tup [x,.ref b])∧DAt G x t.dat∧G b = some (.lst zs)∧DsAt G zs (t.parts.map T.dat):=by
 obtain ⟨a,vs,rfl,e,hv⟩:=DAt.tup_inv h
 cases hv with | cons h1 hv=>cases hv with | cons h2 hv =>
 cases hv
 obtain ⟨b,zs,rfl,e2,h3⟩:=h2.lst_inv
 exact ⟨a,_,b,zs,rfl,e,h1,e2,h3⟩
theorem DsAt.get' {G:Hp} {vs:List V} {ts:List T} {φ:T→Dat} {i:Nat} {v:V} (h:DsAt G vs (ts.map φ)) (e:vs[i]? = some v):∃ t,ts[i]? = some t∧DAt G v (φ t):=by
 have l:=h.length
 rw [List.length_map] at l
 have hi:=(List.getElem?_eq_some_iff.mp e).1
 have hi':i < ts.length:=by omega
 obtain ⟨u,hu,du⟩:=h.get (i:=i) (d:=φ ts[i]) (by rw [List.getElem?_map,List.getElem?_eq_getElem hi']; rfl)
 rw [e] at hu
 cases hu
 exact ⟨ts[i],List.getElem?_eq_getElem hi',du⟩
theorem take_more {α β:Type} {ts:List α} {t:α} {i:Nat} (φ:α→β) (h:ts[i]? = some t):(ts.take (i + 1)).map φ = (ts.take i).map φ ++ [φ t]:=by
 rw [List.take_add_one,h,List.map_append]
 rfl
theorem flat_more {ts:List T} {t:T} {i:Nat} (h:ts[i]? = some t):((ts.take (i + 1)).flatMap T.parts).map T.dat = ((ts.take i).flatMap T.parts).map T.dat ++ t.parts.map T.dat:=by
 rw [List.take_add_one,h,List.flatMap_append,List.map_append]
 simp
theorem cnt_take:∀ (ts:List T) (i:Nat),cnt (ts.take i) ≤ cnt ts
 | [],i=>by simp [cnt]
 | t :: r,0=>Nat.zero_le _
 | t :: r,i + 1=>by
  have h:=cnt_take r i
  show t.parts.length + cnt (r.take i) ≤ t.parts.length + cnt r
  omega
def spJoin:Sp:=fun vs H Q _=>∃ (p:Addr) (s x:Str) (n:Int) (us:List V) (rest ks:List T),vs = [.ref p,.str s,.str x,.int n]∧H p = some (.lst us)∧DsAt H us ((rest ++ ks).map item)∧(ks.length = 1 ∨ ks.length = 2)∧n = (ks.length:Int)∧cnt (rest ++ ks) ≤ 1000 ∧
 ∀ (r:Addr) (zs:List V) (G H':Hp),Same H G→Same G H'→G r = none→H' r = some (.lst zs)→DsAt G zs ((rest ++ [join (hd s x) ks]).map item)→Q (.ref r) H'
seal L2.PSs L2.PS L2.PE L2.PA L2.PT L2.PG L2.PF L2.PI
theorem ok_joined {f g:Addr} {fd gd:FuncData} (F:Fun K "_law_joined" "_law_joined" sd_joined f fd) (B:Blt mg) (G:FnOk P w K mg base CX0 1 g gd ["_law_sort","_law_who","_law_inner"] spSent) (MG0:MG K mg "_law_sentence_of" ["_law_sort","_law_who","_law_inner"] g gd) :
  FnOk P w K mg base CX0 2 f fd ["_law_pile","_law_sort","_law_who","_law_many"] spJoin:=by
 refine F.ok sc_joined (fun vs H Q E h=>?_) (fun cdv A outer s H vs Q E hr h=>?_)
 ·obtain ⟨p,s,x,n,us,rest,ks,rfl,_⟩:=h
  rfl
 obtain ⟨p,s,x,n,us,rest,ks,rfl,hp,hd',few,hn,hc,k⟩:=h
 have mG:=MG0.m; have kG:=MG0.k; have bG:=MG0.b
 refine ⟨_,pss_cons (ps_comp (i:=5) sc_joined.nd rfl rfl rfl cs_joined_0 rfl rfl
   (pi_list (pe_slice sl_list (pv 0) (po_some (pe_op op_sub (pe_callB call_len_seq rfl B.len PySem.boot_len (pa_cons (pv 0) pa_nil)) (pv 3))) po_none))
   (fun _ _ _ _ _=>pg_name (i:=0) cs_joined_0.nd rfl (Or.inl rfl)) (fun _ _ _ _ _=>pf_nil) (fun _ _ _ _ _=>pe_ix cix_tup (pv 0) pe_int (fun _ _=>rfl)))
  (pss_cons (ps_set (i:=6) sc_joined.nd rfl (Or.inl rfl) (pe_lst pa_nil))
  (pss_cons (ps_for PassesOwn.never rfl (pi_list (pe_slice sl_list (pv 0) (po_some (pe_op op_sub (pe_callB call_len_seq rfl B.len PySem.boot_len (pa_cons (pv 0) pa_nil)) (pv 3))) po_none)) (pg_name (i:=4) sc_joined.nd rfl (Or.inl rfl))
   (pss_one (ps_set (i:=6) sc_joined.nd rfl (Or.inl rfl) (pe_op op_cat (pv 6) (pe_ix ix_tup (pv 4) pe_int (fun _ _=>rfl))))))
  (pss_cons (ps_set (i:=7) sc_joined.nd rfl (Or.inl rfl) (pe_call G hr rfl mG kG bG .nil pass0 (pa_cons (pv 1) (pa_cons (pv 2) (pa_cons (pv 5) pa_nil)))))
  (pss_one (ps_ret (pe_op op_cat (pe_slice sl_list (pv 0) po_none (po_some (pe_op op_sub (pe_callB call_len_seq rfl B.len PySem.boot_len (pa_cons (pv 0) pa_nil)) (pv 3))))
   (pe_lst (pa_cons (pe_tup (pa_cons (pv 7) (pa_cons (pe_op op_cat (pv 6) (pe_lst (pa_cons (pv 7) pa_nil))) pa_nil))) pa_nil)))))))),?_⟩
 rw [List.map_append] at hd'
 obtain ⟨vr,vk,rfl,hR,hK⟩:=hd'.split
 have lr:=hR.length
 have lk:=hK.length
 rw [List.length_map] at lr lk
 rw [cnt_append] at hc
 have cr:=le_cnt rest
 have ck:=le_cnt ks
 have en:(((vr ++ vk).length:Nat):Int) - n = ((vr.length:Nat):Int):=by rw [List.length_append,hn]; omega
 have ec:cutV (vr ++ vk) (some ((((vr ++ vk).length:Nat):Int) - n)) none = vk:=by rw [en,cut_from,List.drop_left]
 have et:cutV (vr ++ vk) none (some ((((vr ++ vk).length:Nat):Int) - n)) = vr:=by rw [en,cut_to,List.take_left]
 refine ⟨_,rfl,_,rfl,p,_,rfl,.inl (SqL.of hp),_,rfl,_,_,rfl,rfl,_,rfl,p,_,rfl,SqL.of hp,fun c hc1=>?_⟩
 rw [ec]
 have s1:=same_new hc1 (.lst vk)
 refine ⟨c,rfl,⟨_,SqL.of upd_same⟩,fun D hD=>?_⟩
 refine comp_over (xs:=vk) (fun i ys τ H'=>Same (upd H c (.lst vk)) H'∧H' D = some (.lst ys)∧DsAt H ys ((ks.take i).map T.dat)∧∃ v,τ = [v])
  ⟨same_new hD _,upd_same,.nil,none,rfl⟩ (fun i ys τ H' _ h=>SqL.of (h.1 _ _ upd_same)) ?_ ?_
 ·rintro i y ys τ H' hy ⟨sm,hD',hys,v,rfl⟩
  obtain ⟨t,ht,dt⟩:=DsAt.get' hK hy
  obtain ⟨a,xx,b,zs,rfl,ea,dx,_,_⟩:=item_inv dt
  have ly:=hys.length
  rw [List.length_map] at ly
  rw [List.length_take] at ly
  refine ⟨_,rfl,a,_,_,_,rfl,rfl,SqT.of (sm _ _ (s1 _ _ ea)),at0,hD',line_lt (by omega),same_upd sm hD _,upd_same,?_,_,rfl⟩
  rw [take_more T.dat ht]
  exact hys.append (.cons dx .nil)
 rintro ys τ H1 ⟨sm1,hD1,hys,v,rfl⟩
 rw [lk,List.take_length] at hys
 have S1:=s1.trans sm1
 refine ⟨line_le (by show 0 ≤ 16000000; decide),fun p0 hp0=>?_⟩
 have S2:=S1.trans (same_new hp0 (.lst []))
 have hD2:=same_new hp0 (.lst []) _ _ hD1
 have h00:upd H1 p0 (.lst []) p0 = some (.lst []):=upd_same
 generalize upd H1 p0 (.lst []) = H2 at S2 hD2 h00
 refine ⟨_,rfl,_,rfl,p,_,rfl,.inl (SqL.of (S2 _ _ hp)),_,rfl,_,_,rfl,rfl,_,rfl,p,_,rfl,SqL.of (S2 _ _ hp),fun c2 hc2=>?_⟩
 rw [ec]
 have s3:=same_new hc2 (.lst vk)
 have hc3:upd H2 c2 (.lst vk) c2 = some (.lst vk):=upd_same
 generalize upd H2 c2 (.lst vk) = H3 at s3 hc3
 have S3:=S2.trans s3
 refine ⟨c2,rfl,⟨_,SqL.of hc3⟩,for_list (K:=K) (a:=c2) (xs:=vk) (fun i σ' H'=>∃ (q:Addr) (us:List V) (o:Option V),σ' = [some (.ref p),some (.str s),some (.str x),some (.int n),o,some (.ref D),some (.ref q),none]∧Same H3 H'∧H' q = some (.lst us)∧DsAt H us (((ks.take i).flatMap T.parts).map T.dat))
  ⟨p0,[],_,rfl,Same.refl _,s3 _ _ h00,.nil⟩ (fun i σ' H' _ ⟨_,_,_,_,sm,_⟩=>SqL.of (sm _ _ hc3)) ?_ ?_⟩
 ·rintro i y σ' H' hy ⟨q,us,o,rfl,sm,hq,hus⟩
  obtain ⟨t,ht,dt⟩:=DsAt.get' hK hy
  obtain ⟨a,xx,b,zs,rfl,ea,dx,eb,dz⟩:=item_inv dt
  have lu:=hus.length
  have lz:=dz.length
  rw [List.length_map] at lu lz
  rw [flat_cnt] at lu
  have ct:=cnt_take ks (i + 1)
  have ce:cnt (ks.take (i + 1)) = cnt (ks.take i) + t.parts.length:=by
   rw [List.take_add_one,ht,cnt_append]
   rfl
  have S4:=S3.trans sm
  refine ⟨_,rfl,_,rfl,a,_,_,_,rfl,rfl,SqT.of (S4 _ _ ea),at1,q,b,us,zs,rfl,rfl,hq,S4 _ _ eb,line_le (by omega),fun q2 hq2=>?_⟩
  refine ⟨q2,_,_,rfl,sm.trans (same_new hq2 _),upd_same,?_⟩
  rw [flat_more ht]
  exact hus.append dz
 rintro σ' H4 ⟨q,us,o,rfl,sm4,hq,hus⟩
 rw [lk,List.take_length] at hus
 have S4:=S3.trans sm4
 have hD4:=sm4 _ _ (s3 _ _ hD2)
 have lu:=hus.length
 rw [List.length_map,flat_cnt] at lu
 have ly:=hys.length
 rw [List.length_map] at ly
 refine ⟨_,rfl,_,rfl,_,rfl,s,x,D,ys,rfl,hD4,by omega,fun pm H5 s5 hpm0 hpm=>?_⟩
 have S5:=S4.trans s5
 refine ⟨_,rfl,_,rfl,p,_,rfl,.inl (SqL.of (S5 _ _ hp)),_,rfl,_,_,rfl,rfl,_,rfl,p,_,rfl,SqL.of (S5 _ _ hp),fun c3 hc4=>?_⟩
 rw [et]
 have s6:=same_new hc4 (.lst vr)
 have hc5:upd H5 c3 (.lst vr) c3 = some (.lst vr):=upd_same
 generalize upd H5 c3 (.lst vr) = H6 at s6 hc5
 refine ⟨_,rfl,_,rfl,_,rfl,line_le (by show 1 ≤ 16000000; decide),fun l1 hl1=>?_⟩
 have s7:=same_new hl1 (.lst [V.ref pm])
 refine ⟨q,l1,us,_,rfl,rfl,s7 _ _ (s6 _ _ (s5 _ _ hq)),upd_same,line_le (by show us.length + 1 ≤ 16000000; omega),fun l2 hl2=>?_⟩
 have s8:=s7.trans (same_new hl2 (.lst (us ++ [V.ref pm])))
 have hl3:upd (upd H6 l1 (.lst [V.ref pm])) l2 (.lst (us ++ [V.ref pm])) l2 = some (.lst (us ++ [V.ref pm])):=upd_same
 generalize upd (upd H6 l1 (.lst [V.ref pm])) l2 (.lst (us ++ [V.ref pm])) = H7 at s8 hl3
 refine ⟨line_le (by show 2 ≤ 16000000; decide),fun t1 ht1=>?_⟩
 have s9:=same_new ht1 (.tup [V.ref pm,V.ref l2])
 have ht2:upd H7 t1 (.tup [V.ref pm,V.ref l2]) t1 = some (.tup [V.ref pm,V.ref l2]):=upd_same
 generalize upd H7 t1 (.tup [V.ref pm,V.ref l2]) = H8 at s9 ht2
 refine ⟨line_le (by show 1 ≤ 16000000; decide),fun l4 hl4=>?_⟩
 have s10:=same_new hl4 (.lst [V.ref t1])
 have hl5:upd H8 l4 (.lst [V.ref t1]) l4 = some (.lst [V.ref t1]):=upd_same
 generalize upd H8 l4 (.lst [V.ref t1]) = H9 at s10 hl5
 have S9:Same H5 H9:=s6.trans (s8.trans (s9.trans s10))
 refine ⟨c3,l4,_,_,rfl,rfl,(s8.trans (s9.trans s10)) _ _ hc5,hl5,line_le (by show vr.length + 1 ≤ 16000000; omega),fun r hr1=>?_⟩
 obtain ⟨j1,j2,_,_⟩:=join_all (hd s x) few
 refine k r _ H9 _ (S5.trans S9) (same_new hr1 _) hr1 upd_same ?_
 rw [List.map_append]
 have dm:DAt H9 (.ref pm) (join (hd s x) ks).dat:=by
  rw [j1]
  refine .tup (S9 _ _ hpm) (DsAt.append ?_ (hys.mono (S5.trans S9)))
  generalize hd s x = ww
  clear j1 j2 hpm k
  induction ww with
  | nil=>exact .nil
  | cons z r ih=>exact .cons (.str z) ih
 refine (hR.mono (S5.trans S9)).append (.cons (.tup (s10 _ _ ht2) (.cons dm (.cons (.lst ((s9.trans s10) _ _ hl3) ?_) .nil))) .nil)
 rw [j2,List.map_append]
 exact (hus.mono (S5.trans S9)).append (.cons dm .nil)
end
end Ws
namespace Ws
open PySem L2
section
variable {P:Program} {w:World} {K:PySem.W.Frag} {mg:Str→Option Value} {base:Heap}
seal L2.PSs L2.PS L2.PE L2.PA L2.PT L2.PG L2.PF L2.PI
end
end Ws
namespace Ws
open PySem L2
def isTwo (s:Str):Bool:=inV (.str s) [.str "and",.str "or",.str "until"]
def kidsOf (s:Str):Nat:=if isTwo s = true then 2 else 1
theorem kids_few (s:Str):kidsOf s = 1 ∨ kidsOf s = 2:=by
 unfold kidsOf
 cases isTwo s with
 | true=>exact .inr rfl
 | false=>exact .inl rfl
theorem sorts_fit:∀ p ∈ sorts,p.1 = "mark" ∨ fitB (kidsOf p.1) p.1 p.2 = true:=by decide +kernel
theorem many_of {Q:V→Hp→Prop} {H:Hp} {s:Str} (h:Q (.int (kidsOf s:Int)) H):Q (.int (1 + (if isTwo s = true then 1 else 0))) H:=by
 unfold kidsOf at h
 cases e:isTwo s with
 | false=>rw [e] at h; exact h
 | true=>rw [e] at h; exact h
def tMany (i:Nat):TE:=fun σ H Q=>∃ s:Str,σ[i]? = some (some (.str s))∧∀ (H':Hp),Same H H'→Q (.int (kidsOf s:Int)) H'
theorem many_rd {K:PySem.W.Frag} (i:Nat):∀ σ H Q,tMany i σ H Q→tOp (rI0 fun i j=>.int (i + j)) (tC (.int 1)) (tCB (fun xs H Q=>(∃ i,xs = [.int i]∧Q (.int i) H) ∨ ∃ k,xs = [.bl k]∧Q (.int (if k then 1 else 0)) H)
  (tCons (tOp (rIn K false) (tVar i) (tLst (tCons (tC (.str "and")) (tCons (tC (.str "or")) (tCons (tC (.str "until")) tNil))))) tNil)) σ H Q:=by
 rintro σ H Q ⟨s,hs,k⟩
 refine ⟨_,hs,line_le (by show 3 ≤ 16000000; decide),fun l1 hl1=>⟨l1,_,rfl,.inl (SqL.of upd_same),rfl,rfl,.inr ⟨_,rfl,_,_,rfl,rfl,?_⟩⟩⟩
 exact many_of (Q:=Q) (k _ (same_new hl1 _))
theorem four (z:Int) (a b c d:Int):∃ e,atI [V.int a,V.int b,V.int c,V.int d] (z % 4) = some (.int e):=by
 obtain ⟨v,e1,e2⟩:=idx_mod (xs:=[V.int a,V.int b,V.int c,V.int d]) (z:=z) (n:=4) rfl (by decide)
 have m:=List.mem_of_getElem? e2
 simp only [List.mem_cons,List.not_mem_nil,or_false] at m
 rcases m with rfl | rfl | rfl | rfl
 ·exact ⟨a,e1⟩
 ·exact ⟨b,e1⟩
 ·exact ⟨c,e1⟩
 ·exact ⟨d,e1⟩
theorem two (n:Nat) (a b:V):∃ v,atI [a,b] ((n:Int) % 2) = some v∧(((n:Int) % 2 = 0∧v = a) ∨ ((n:Int) % 2 = 1∧v = b)):=by
 rcases Int.emod_two_eq (n:Int) with e | e
 ·exact ⟨a,by rw [e]; exact at0,.inl ⟨e,rfl⟩⟩
 ·exact ⟨b,by rw [e]; exact at1,.inr ⟨e,rfl⟩⟩
section
variable {P:Program} {w:World} {K:PySem.W.Frag} {mg:Str→Option Value} {base:Heap}
def spGrown:Sp:=fun vs H Q _=>∃ (c:Addr) (f:Int) (ns:List Int),vs = [.ref c,.int f]∧H c = some (.lst (ns.map V.int))∧ns.length ≤ 50 ∧
 ∀ (v:V) (t:T) (H':Hp),Same H H'→DAt H' v (item t)→t.fit→t.parts.length ≤ 100→Q v H'
structure Pile (H0 H:Hp) (q:Addr) (ts:List T):Prop where
 at_:∃ (G:Hp) (vs:List V),Same H0 G∧Same G H∧G q = none∧H q = some (.lst vs)∧DsAt G vs (ts.map item)
 ok:∀ t ∈ ts,t.fit
seal L2.PSs L2.PS L2.PE L2.PA L2.PT L2.PG L2.PF L2.PI
theorem ok_grown {f g j:Addr} {fd gd jd:FuncData} (F:Fun K "_law_grown" "_law_grown" sd_grown f fd) (B:Blt mg) (G:FnOk P w K mg base CX0 1 g gd ["_law_cell"] spSort) (MG0:MG K mg "_law_sort_of" ["_law_cell"] g gd)
  (J:FnOk P w K mg base CX0 2 j jd ["_law_pile","_law_sort","_law_who","_law_many"] spJoin) (MJ0:MG K mg "_law_joined" ["_law_pile","_law_sort","_law_who","_law_many"] j jd) :
  FnOk P w K mg base CX0 3 f fd ["_law_cells","_law_first"] spGrown:=by
 refine F.ok sc_grown (fun vs H Q E h=>?_) (fun cdv A outer s H vs Q E hr h=>?_)
 ·obtain ⟨c,f,ns,rfl,_⟩:=h
  rfl
 obtain ⟨c,fi,ns,rfl,hcs,hlen,k⟩:=h
 have mG:=MG0.m; have kG:=MG0.k; have bG:=MG0.b
 have mJ:=MJ0.m; have kJ:=MJ0.k; have bJ:=MJ0.b
 have hr1:Room 1 _:=hr.mono (by decide)
 have hu:=Nat.lt_of_succ_lt (hu_of hr)
 refine ⟨_,
  (pss_cons (ps_set (i:=2) sc_grown.nd rfl (Or.inl rfl) (pe_lst pa_nil))
  (pss_cons (ps_for PassesOwn.never rfl (pi_list (pv 0)) (pg_name (i:=3) sc_grown.nd rfl (Or.inl rfl))
  (pss_cons (ps_asg (pe_call G hr1 rfl mG kG bG .nil pass0 (pa_cons (pv 3) pa_nil)) (pg_tup (n:=2) rfl (pgs_cons (pg_name (i:=4) sc_grown.nd rfl (Or.inl rfl)) (pgs_cons (pg_name (i:=5) sc_grown.nd rfl (Or.inl rfl)) pgs_nil))))
  (pss_cons (ps_set (i:=6) sc_grown.nd rfl (Or.inl rfl) (pe_weak (pe_op op_add pe_int (pe_callTy call_int1 rfl B.int bInt (pa_cons (pe_cmpR op_in_seq (pv 4) (pe_lst (pa_cons pe_str (pa_cons pe_str (pa_cons pe_str pa_nil)))) rfl) pa_nil))) (many_rd 4)))
  (pss_one (ps_if (PW.pt (pw_or (pt_cmpR op_eq (pv 4) pe_str (nomark _)) (pw_or1 (pt_cmpR op_gt (pv 6) (pe_callB call_len_seq rfl B.len PySem.boot_len (pa_cons (pv 2) pa_nil)) (nomark _)))))
  (pss_cons (ps_set (i:=7) sc_grown.nd rfl (Or.inl rfl) (pe_tup (pa_cons pe_str (pa_cons (pe_op op_add (pv 1) (pe_ix ix_list (pe_lst (pa_cons pe_int (pa_cons (pe_un un_neg pe_int) (pa_cons pe_int (pa_cons pe_int pa_nil))))) (pe_op op_mod (pe_op op_fdiv (pv 3) pe_int) pe_int) (fun _ _=>rfl))) pa_nil))))
  (pss_one (ps_expr (pe_bm PySem.F.plainAttrs_list PySem.F.slot_list_append PySem.F.type_list_append mt_append (pv 2) (pa_cons (pe_tup (pa_cons (pv 7) (pa_cons (pe_lst (pa_cons (pv 7) pa_nil)) pa_nil))) pa_nil)))))
  (pss_one (ps_set (i:=2) sc_grown.nd rfl (Or.inl rfl) (pe_call J hr rfl mJ kJ bJ .nil pass0 (pa_cons (pv 2) (pa_cons (pv 4) (pa_cons (pv 5) (pa_cons (pv 6) pa_nil))))))))))))
  (pss_cons (ps_if (pt_cmpR (op_eqNil hu) (pv 2) (pe_lst pa_nil) (nomark _))
  (pss_one (ps_ret (pe_tup (pa_cons (pe_tup (pa_cons pe_str (pa_cons (pv 1) pa_nil))) (pa_cons (pe_lst (pa_cons (pe_tup (pa_cons pe_str (pa_cons (pv 1) pa_nil))) pa_nil)) pa_nil)))))
  pss_nil)
  (pss_cons (ps_while PassesOwn.never (pt_cmpR op_gt (pe_callB call_len_seq rfl B.len PySem.boot_len (pa_cons (pv 2) pa_nil)) pe_int (nomark _))
  (pss_one (ps_set (i:=2) sc_grown.nd rfl (Or.inl rfl) (pe_call J hr rfl mJ kJ bJ .nil pass0 (pa_cons (pv 2) (pa_cons (pe_ix ix_list (pe_lst (pa_cons pe_str (pa_cons pe_str pa_nil))) (pe_op op_mod (pe_callB call_len_seq rfl B.len PySem.boot_len (pa_cons (pv 2) pa_nil)) pe_int) (fun _ _=>rfl)) (pa_cons (pe_ix ix_list (pe_lst (pa_cons pe_str (pa_cons pe_str pa_nil))) (pe_op op_mod (pe_callB call_len_seq rfl B.len PySem.boot_len (pa_cons (pv 2) pa_nil)) pe_int) (fun _ _=>rfl)) (pa_cons pe_int pa_nil))))))))
  (pss_one (ps_ret (pe_ix ix_list (pv 2) pe_int (fun _ _=>rfl)))))))),?_⟩
 refine ⟨line_le (by show 0 ≤ 16000000; decide),fun p0 hp0=>?_⟩
 refine ⟨_,rfl,c,rfl,⟨_,SqL.of (same_new hp0 _ _ _ hcs)⟩,for_list (K:=K) (a:=c) (xs:=ns.map V.int)
  (fun i σ' H'=>∃ (q:Addr) (ts:List T) (o3 o4 o5 o6 o7:Option V),σ' = [some (.ref c),some (.int fi),some (.ref q),o3,o4,o5,o6,o7]∧Pile H H' q ts∧cnt ts ≤ i)
  ⟨p0,[],none,none,none,none,none,rfl,⟨⟨H,[],Same.refl _,same_new hp0 _,hp0,upd_same,.nil⟩,fun _ h=>by cases h⟩,Nat.le_refl _⟩
  (fun i σ' H' _ ⟨_,_,_,_,_,_,_,_,⟨⟨_,_,a,b,_⟩,_⟩,_⟩=>SqL.of (b _ _ (a _ _ hcs))) ?_ ?_⟩
 ·-- one cell
  rintro i y σ' H1 hy ⟨q,ts,o3,o4,o5,o6,o7,rfl,⟨⟨G1,us,sa,sb,hq0,hq,du⟩,oks⟩,hcnt⟩
  obtain ⟨z,rfl⟩:∃ z,y = V.int z:=by
   rw [List.getElem?_map] at hy
   cases e:ns[i]? with
   | none=>rw [e] at hy; cases hy
   | some z=>rw [e] at hy; exact ⟨z,(Option.some.inj hy).symm⟩
  have hi:i < ns.length:=by
   have:=(List.getElem?_eq_some_iff.mp hy).1
   rwa [List.length_map] at this
  have lu:=du.length
  rw [List.length_map] at lu
  have lc:=le_cnt ts
  refine ⟨_,rfl,z,rfl,fun v pr H2 hpr s2 dv=>?_⟩
  obtain ⟨a,vs,rfl,ea,dvs⟩:=DAt.tup_inv dv
  cases dvs with | cons d1 dvs=>cases dvs with | cons d2 dvs =>
  cases dvs
  cases d1.str_inv
  cases d2.str_inv
  refine ⟨a,_,rfl,SqT.of ea,rfl,_,_,rfl,_,_,rfl,rfl,?_⟩
  refine ⟨_,rfl,fun H3 s3'=>?_⟩
  obtain ⟨m,hm⟩:∃ m,m = kidsOf pr.1:=⟨_,rfl⟩
  have hm2:=kids_few pr.1
  rw [← hm] at hm2 ⊢
  have s3:=s2.trans s3'
  have S3:Same G1 H3:=sb.trans s3
  have hq3:=s3 _ _ hq
  have mk:∀ (H3:Hp),Same G1 H3→H3 q = some (.lst us)→∀ (e:Int) (p7:Addr),H3 p7 = none→∀ l3,upd H3 p7 (.tup [.str "mark",.int e]) l3 = none→∀ q3,upd (upd H3 p7 (.tup [.str "mark",.int e])) l3 (.lst [.ref p7]) q3 = none →
    Pile H (upd (upd (upd (upd H3 p7 (.tup [.str "mark",.int e])) l3 (.lst [.ref p7])) q3 (.tup [.ref p7,.ref l3])) q (.lst (us ++ [.ref q3]))) q (ts ++ [.mark e]):=by
   intro H3 S3 hq3 e p7 h7 l3 h3 q3 hq3'
   have t1:=same_new h7 (.tup [.str "mark",.int e])
   have t2:=same_new h3 (.lst [.ref p7])
   have t3:=same_new hq3' (.tup [.ref p7,.ref l3])
   have n7:p7 ≠ q:=fun z=>by rw [z,hq3] at h7; cases h7
   have n3:l3 ≠ q:=fun z=>by rw [z,t1 _ _ hq3] at h3; cases h3
   have nq:q3 ≠ q:=fun z=>by rw [z,t2 _ _ (t1 _ _ hq3)] at hq3'; cases hq3'
   have e7:upd (upd (upd H3 p7 (.tup [.str "mark",.int e])) l3 (.lst [.ref p7])) q3 (.tup [.ref p7,.ref l3]) p7 = some (.tup [.str "mark",.int e]):=t3 _ _ (t2 _ _ upd_same)
   have e3:upd (upd (upd H3 p7 (.tup [.str "mark",.int e])) l3 (.lst [.ref p7])) q3 (.tup [.ref p7,.ref l3]) l3 = some (.lst [.ref p7]):=t3 _ _ upd_same
   have eq3:upd (upd (upd H3 p7 (.tup [.str "mark",.int e])) l3 (.lst [.ref p7])) q3 (.tup [.ref p7,.ref l3]) q3 = some (.tup [.ref p7,.ref l3]):=upd_same
   have St:Same G1 (upd (upd (upd H3 p7 (.tup [.str "mark",.int e])) l3 (.lst [.ref p7])) q3 (.tup [.ref p7,.ref l3])):=S3.trans (t1.trans (t2.trans t3))
   generalize upd (upd (upd H3 p7 (.tup [.str "mark",.int e])) l3 (.lst [.ref p7])) q3 (.tup [.ref p7,.ref l3]) = H4 at e7 e3 eq3 St
   refine ⟨⟨del H4 q,us ++ [.ref q3],sa.trans (same_del St hq0),del_upd,del_at,upd_same,?_⟩,fun t ht=>?_⟩
   ·rw [List.map_append]
    refine (du.mono (same_del St hq0)).append (.cons ?_ .nil)
    have dm:DAt (del H4 q) (.ref p7) (T.mark e).dat:=.tup (by rw [del_ne n7]; exact e7) (.cons (.str _) (.cons (.int _) .nil))
    exact .tup (by rw [del_ne nq]; exact eq3) (.cons dm (.cons (.lst (by rw [del_ne n3]; exact e3) (.cons dm .nil)) .nil))
   ·rcases List.mem_append.mp ht with ht | ht
    ·exact oks t ht
    ·rw [List.mem_singleton] at ht
     subst ht
     exact True.intro
  refine ⟨_,rfl,rfl,_,rfl,?_⟩
  refine ite2 (fun cm=>iteT ?mb) (fun cm=>⟨_,rfl,_,rfl,q,us,rfl,.inl (SqL.of hq3),_,_,rfl,rfl,_,rfl,ite2 (fun _=>?mb2) (fun cj=>?jb)⟩)
  case mb | mb2 =>
   refine ⟨_,rfl,_,rfl,line_le (by show 4 ≤ 16000000; decide),fun l2 hl2=>?_⟩
   obtain ⟨e,he⟩:=four (z / 19) 0 (-1) 1000000007 1
   refine ⟨_,rfl,_,_,rfl,rfl,⟨by decide,by decide⟩,_,_,rfl,rfl,(by show (0:Int) < 4; decide),l2,_,_,_,rfl,rfl,SqL.of upd_same,he,_,_,rfl,rfl,line_le (by show 2 ≤ 16000000; decide),fun p7 hp7=>?_⟩
   have s4:=same_new hl2 (.lst [V.int 0,V.int (-1),V.int 1000000007,V.int 1])
   have S4:=S3.trans s4
   have hq4:=s4 _ _ hq3
   generalize upd H3 l2 (.lst [V.int 0,V.int (-1),V.int 1000000007,V.int 1]) = H4 at s4 S4 hq4 hp7
   have s5:=same_new hp7 (.tup [V.str "mark",V.int (fi + e)])
   refine ⟨_,rfl,.inl ⟨rfl,_,SqL.of (s5 _ _ hq4)⟩,_,rfl,_,rfl,line_le (by show 1 ≤ 16000000; decide),fun l3 hl3=>⟨line_le (by show 2 ≤ 16000000; decide),fun q3 hq3'=>?_⟩⟩
   refine ⟨q,us,_,rfl,rfl,same_new hq3' _ _ _ (same_new hl3 _ _ _ (s5 _ _ hq4)),line_lt (by omega),?_⟩
   refine ⟨q,ts ++ [.mark (fi + e)],_,_,_,_,_,rfl,mk H4 S4 hq4 (fi + e) p7 hp7 l3 hl3 q3 hq3',?_⟩
   rw [cnt_append]
   show cnt ts + 1 ≤ i + 1
   omega
  case jb =>
   have hle:m ≤ ts.length:=by
    have:¬ ((us.length:Int) < (m:Int)):=fun z=>cj (decide_eq_true z)
    omega
   have hs:pr.1 ≠ "mark":=fun z=>cm (decide_eq_true (congrArg V.str z))
   have ets:ts.take (ts.length - m) ++ ts.drop (ts.length - m) = ts:=List.take_append_drop _ _
   have few:(ts.drop (ts.length - m)).length = 1 ∨ (ts.drop (ts.length - m)).length = 2:=by
    rw [List.length_drop]
    omega
   have em2:(m:Int) = ((ts.drop (ts.length - m)).length:Int):=by
    rw [List.length_drop]
    omega
   have ekl:(ts.drop (ts.length - m)).length = m:=by
    rw [List.length_drop]
    omega
   generalize ts.take (ts.length - m) = rest at ets
   generalize ts.drop (ts.length - m) = ks at ets few em2 ekl
   subst ets
   obtain ⟨_,_,jok,jl⟩:=join_all (hd pr.1 pr.2) few
   rw [cnt_append] at hcnt
   refine ⟨_,rfl,_,rfl,_,rfl,_,rfl,q,pr.1,pr.2,m,us,rest,ks,rfl,hq3,du.mono S3,few,em2,by rw [cnt_append]; omega,fun r zs G2 H4 sG sH hr0 hr4 dz=>?_⟩
   refine ⟨r,rest ++ [join (hd pr.1 pr.2) ks],_,_,_,_,_,rfl,⟨⟨G2,zs,(sa.trans S3).trans sG,sH,hr0,hr4,dz⟩,fun t ht=>?_⟩,?_⟩
   ·rcases List.mem_append.mp ht with ht | ht
    ·exact oks t (List.mem_append_left _ ht)
    ·rw [List.mem_singleton] at ht
     subst ht
     refine join_fit (s:=pr.1) (x:=pr.2) few ?_ fun t ht=>oks t (List.mem_append_right _ ht)
     rw [ekl,hm]
     exact (sorts_fit _ hpr).resolve_left hs
   ·rw [cnt_append]
    show cnt rest + ((join (hd pr.1 pr.2) ks).parts.length + 0) ≤ i + 1
    omega
 ·-- behind the cells
  rintro σ' H1 ⟨q,ts,o3,o4,o5,o6,o7,rfl,⟨⟨G1,us,sa,sb,hq0,hq,du⟩,oks⟩,hcnt⟩
  rw [List.length_map] at hcnt
  have lu:=du.length
  rw [List.length_map] at lu
  refine ⟨_,rfl,line_le (by show 0 ≤ 16000000; decide),fun l hl=>⟨q,l,us,rfl,rfl,same_new hl _ _ _ hq,upd_same,_,rfl,?_⟩⟩
  have s2:=same_new hl (.lst [])
  have S2:Same H _:=(sa.trans sb).trans s2
  have hq2:=s2 _ _ hq
  have sb2:=sb.trans s2
  generalize upd H1 l (.lst []) = H2 at s2 S2 hq2 sb2
  by_cases hn:ts = []
  ·subst hn
   cases du
   refine iteT ?_
   refine ⟨_,rfl,line_le (by show 2 ≤ 16000000; decide),fun a1 h1=>⟨_,rfl,line_le (by show 2 ≤ 16000000; decide),fun a2 h2=>⟨line_le (by show 1 ≤ 16000000; decide),fun l3 h3=>⟨line_le (by show 2 ≤ 16000000; decide),fun a4 h4=>?_⟩⟩⟩⟩
   have t1:=same_new h1 (.tup [V.str "mark",V.int fi])
   have t2:=same_new h2 (.tup [V.str "mark",V.int fi])
   have t3:=same_new h3 (.lst [V.ref a2])
   have t4:=same_new h4 (.tup [V.ref a1,V.ref l3])
   refine k (.ref a4) (.mark fi) _ (S2.trans (t1.trans (t2.trans (t3.trans t4)))) ?_ True.intro (by show 1 ≤ 100; decide)
   have d1:DAt _ (V.ref a1) (T.mark fi).dat:=DAt.tup ((t2.trans (t3.trans t4)) _ _ upd_same) (.cons (.str _) (.cons (.int _) .nil))
   have d2:DAt _ (V.ref a2) (T.mark fi).dat:=DAt.tup ((t3.trans t4) _ _ upd_same) (.cons (.str _) (.cons (.int _) .nil))
   exact .tup upd_same (.cons d1 (.cons (.lst (t4 _ _ upd_same) (.cons d2 .nil)) .nil))
  ·have hne:us ≠ []:=fun z=>hn (by rw [z] at lu; exact List.length_eq_zero_iff.mp lu.symm)
   refine ite2 (fun cz=>absurd ?_ hne) (fun _=>?_)
   ·exact List.isEmpty_iff.mp cz
   refine ⟨fun m σ' H'=>∃ (q:Addr) (ts:List T),m = ts.length∧ts ≠ []∧σ' = [some (.ref c),some (.int fi),some (.ref q),o3,o4,o5,o6,o7]∧Pile H H' q ts∧cnt ts + ts.length ≤ 100,
    ⟨_,q,ts,rfl,hn,rfl,⟨⟨G1,us,sa,sb2,hq0,hq2,du⟩,oks⟩,by have:=le_cnt ts; omega⟩,?_⟩
   clear sa sb hq0 hq du oks hcnt lu hne hn s2 S2 hq2 sb2
   rintro m σ' H3 ⟨q,ts,rfl,hne,rfl,⟨⟨G3,us,sa,sb,hq0,hq,du⟩,oks⟩,hcnt⟩
   have lu:=du.length
   rw [List.length_map] at lu
   refine ⟨_,rfl,q,us,rfl,.inl (SqL.of hq),_,_,rfl,rfl,_,rfl,ite2 (fun cg=>?_) (fun cg=>?_)⟩
   ·-- two are joined
    have hlt:(1:Int) < (us.length:Int):=of_decide_eq_true cg
    have h2:2 ≤ ts.length:=by omega
    refine ⟨_,fun _ _ h=>h,?_⟩
    refine ⟨_,rfl,line_le (by show 2 ≤ 16000000; decide),fun l1 hl1=>?_⟩
    have s4:=same_new hl1 (.lst [V.str "until",V.str "and"])
    have hl1':upd H3 l1 (.lst [V.str "until",V.str "and"]) l1 = some (.lst [V.str "until",V.str "and"]):=upd_same
    generalize upd H3 l1 (.lst [V.str "until",V.str "and"]) = H4 at s4 hl1'
    obtain ⟨v1,a1,alt1⟩:=two us.length (V.str "until") (V.str "and")
    refine ⟨_,rfl,q,us,rfl,.inl (SqL.of (s4 _ _ hq)),_,_,rfl,rfl,(by show (0:Int) < 2; decide),l1,_,_,v1,rfl,rfl,SqL.of hl1',a1,?_⟩
    refine ⟨line_le (by show 2 ≤ 16000000; decide),fun l2 hl2=>?_⟩
    have s5:=same_new hl2 (.lst [V.str "all",V.str ""])
    have hl2':upd H4 l2 (.lst [V.str "all",V.str ""]) l2 = some (.lst [V.str "all",V.str ""]):=upd_same
    generalize upd H4 l2 (.lst [V.str "all",V.str ""]) = H5 at s5 hl2'
    obtain ⟨v2,a2,alt2⟩:=two us.length (V.str "all") (V.str "")
    have S5:=s4.trans s5
    refine ⟨_,rfl,q,us,rfl,.inl (SqL.of (S5 _ _ hq)),_,_,rfl,rfl,(by show (0:Int) < 2; decide),l2,_,_,v2,rfl,rfl,SqL.of hl2',a2,?_⟩
    have hv:∃ x1 x2:Str,v1 = .str x1∧v2 = .str x2∧fitB 2 x1 x2 = true:=by
     rcases alt1 with ⟨e1,rfl⟩ | ⟨e1,rfl⟩
     ·rcases alt2 with ⟨e2,rfl⟩ | ⟨e2,rfl⟩
      ·exact ⟨_,_,rfl,rfl,by decide +kernel⟩
      ·rw [e1] at e2; cases e2
     ·rcases alt2 with ⟨e2,rfl⟩ | ⟨e2,rfl⟩
      ·rw [e1] at e2; cases e2
      ·exact ⟨_,_,rfl,rfl,by decide +kernel⟩
    obtain ⟨x1,x2,rfl,rfl,hh⟩:=hv
    have ets:ts.take (ts.length - 2) ++ ts.drop (ts.length - 2) = ts:=List.take_append_drop _ _
    have few:(ts.drop (ts.length - 2)).length = 2:=by
     rw [List.length_drop]
     omega
    generalize ts.take (ts.length - 2) = rest at ets
    generalize ts.drop (ts.length - 2) = ks at ets few
    subst ets
    obtain ⟨_,_,jok,jl⟩:=join_all (hd x1 x2) (Or.inr few:ks.length = 1 ∨ ks.length = 2)
    rw [cnt_append,List.length_append] at hcnt
    refine ⟨q,x1,x2,2,us,rest,ks,rfl,S5 _ _ hq,du.mono (sb.trans S5),.inr few,by rw [few]; rfl,by rw [cnt_append]; omega,fun r zs G2 H6 sG sH hr0 hr4 dz=>?_⟩
    refine ⟨(rest ++ [join (hd x1 x2) ks]).length,?_,r,rest ++ [join (hd x1 x2) ks],rfl,by simp,rfl,⟨⟨G2,zs,(sa.trans (sb.trans S5)).trans sG,sH,hr0,hr4,dz⟩,fun t ht=>?_⟩,?_⟩
    ·rw [List.length_append,List.length_append,few]
     show rest.length + 1 < rest.length + 2
     omega
    ·rcases List.mem_append.mp ht with ht | ht
     ·exact oks t (List.mem_append_left _ ht)
     ·rw [List.mem_singleton] at ht
      subst ht
      exact join_fit (Or.inr few) (by rw [few]; exact hh) fun t ht=>oks t (List.mem_append_right _ ht)
    ·rw [cnt_append,List.length_append]
     show cnt rest + ((join (hd x1 x2) ks).parts.length + 0) + (rest.length + 1) ≤ 100
     omega
   ·-- the one that is left
    have hle:¬ ((1:Int) < (us.length:Int)):=fun z=>cg (decide_eq_true z)
    match ts,hne,du,oks,hcnt,lu with
    | [t],_,du,oks,hcnt,lu =>
     cases du with | cons d1 du =>
     cases du
     refine ⟨_,rfl,q,_,_,_,rfl,rfl,SqL.of hq,at0,?_⟩
     refine k _ t H3 (sa.trans sb) (d1.mono sb) (oks t (by simp)) ?_
     have:cnt [t] = t.parts.length + 0:=rfl
     have:([t]:List T).length = 1:=rfl
     omega
    | _ :: _ :: _,_,_,_,_,lu =>
     exfalso
     rw [List.length_cons,List.length_cons] at lu
     omega
end
end Ws
namespace Ws
open PySem L2
section
variable {P:Program} {w:World} {K:PySem.W.Frag} {mg:Str→Option Value} {base:Heap}
seal L2.PSs L2.PS L2.PE L2.PA L2.PT L2.PG L2.PF L2.PI
def spMark (K:PySem.W.Frag):Sp:=fun vs H Q _=>∃ (a:Addr) (ns:List Int),vs = [.ref a]∧SqL K H a (ns.map V.int)∧ns.length ≤ 1000000∧∀ (i:Int) (H':Hp),Same H H'→Q (.int i) H'
theorem ok_first_mark {f g:Addr} {fd gd:FuncData} (F:Fun K "_law_first_mark" "_law_first_mark" sd_first_mark f fd) (G_at:FnOk P w K mg base CX0 1 g gd ["_law_script","_law_k"] (spAt K)) (M_at:MG K mg "_law_at" ["_law_script","_law_k"] g gd) :
  FnOk P w K mg base CX0 2 f fd ["_law_script"] (spMark K):=by
 refine F.ok sc_first_mark (fun vs H Q E h=>?_) (fun cdv A outer s H vs Q E hr h=>?_)
 ·obtain ⟨a,ns,rfl,_⟩:=h
  rfl
 obtain ⟨a,ns,rfl,hS,hl,q⟩:=h
 refine ⟨_,
  (pss_cons (ps_set (i:=1) sc_first_mark.nd rfl (Or.inl rfl) (pe_cm G_at M_at hr rfl (pa_cons (pv 0) (pa_cons pe_int pa_nil))))
  (pss_one (ps_ret (pe_ix ix_list (pe_lst (pa_cons pe_int (pa_cons (pe_op op_mod (pv 1) (pe_op op_pow pe_int pe_int)) (pa_cons (pe_op op_sub pe_int (pe_op op_mod (pv 1) (pe_op op_pow pe_int pe_int))) pa_nil)))) (pe_op op_mod (pv 1) pe_int) (fun _ _=>rfl))))),?_⟩
 refine ⟨_,rfl,a,ns,30,rfl,hS,hl,fun i H1 s1=>?_⟩
 refine ⟨_,rfl,_,_,rfl,rfl,⟨by decide,by decide,by decide⟩,_,_,rfl,rfl,(by show (0:Int) < 10 ^ (60:Int).toNat; decide),?_⟩
 refine ⟨_,rfl,_,_,rfl,rfl,⟨by decide,by decide,by decide⟩,_,_,rfl,rfl,(by show (0:Int) < 10 ^ (60:Int).toNat; decide),_,_,rfl,rfl,line_le (by show 3 ≤ 16000000; decide),fun l hl1=>?_⟩
 obtain ⟨e,he⟩:=three i 0 (i % 10 ^ (60:Int).toNat) (0 - i % 10 ^ (60:Int).toNat)
 refine ⟨_,rfl,_,_,rfl,rfl,(by show (0:Int) < 3; decide),l,_,_,_,rfl,rfl,SqL.of upd_same,he,?_⟩
 exact q e _ (s1.trans (same_new hl1 _))
def spCount (K:PySem.W.Frag):Sp:=fun vs H Q _=>∃ (a:Addr) (ns:List Int),vs = [.ref a]∧SqL K H a (ns.map V.int)∧ns.length ≤ 1000000∧∀ (n:Nat) (H':Hp),1 ≤ n→n ≤ 40→Same H H'→Q (.int (n:Int)) H'
theorem ok_count_of {f g:Addr} {fd gd:FuncData} (F:Fun K "_law_count_of" "_law_count_of" sd_count_of f fd) (B:Blt mg) (G_at:FnOk P w K mg base CX0 1 g gd ["_law_script","_law_k"] (spAt K)) (M_at:MG K mg "_law_at" ["_law_script","_law_k"] g gd) :
  FnOk P w K mg base CX0 2 f fd ["_law_script"] (spCount K):=by
 refine F.ok sc_count_of (fun vs H Q E h=>?_) (fun cdv A outer s H vs Q E hr h=>?_)
 ·obtain ⟨a,ns,rfl,_⟩:=h
  rfl
 obtain ⟨a,ns,rfl,hS,hl,q⟩:=h
 refine ⟨_,
  (pss_cons (ps_if (pt_cmpR op_eq (pe_op op_mod (pe_cm G_at M_at hr rfl (pa_cons (pv 0) (pa_cons pe_int pa_nil))) pe_int) pe_int (nomark _))
  (pss_cons (ps_if (pt_cmpR op_eq (pe_op op_mod (pe_cm G_at M_at hr rfl (pa_cons (pv 0) (pa_cons pe_int pa_nil))) pe_int) pe_int (nomark _))
  (pss_cons (ps_set (i:=1) sc_count_of.nd rfl (Or.inl rfl) (pe_callTy call_int1 rfl B.int bInt (pa_cons (pe_or (pe_cmpR op_gt (pe_callB call_len_seq rfl B.len PySem.boot_len (pa_cons (pv 0) pa_nil)) pe_int (nomark _)) (pe_one (pe_cmpR op_eq (pe_op op_mod (pe_callB (call_sum rfl) rfl B.sum bSum (pa_cons (pe_slice sl_list (pv 0) po_none (po_some pe_int)) pa_nil)) pe_int) pe_int (nomark _)))) pa_nil)))
  (pss_one (ps_ret (pe_op op_add pe_int (pe_op op_mod (pe_cm G_at M_at hr rfl (pa_cons (pv 0) (pa_cons pe_int pa_nil))) (pe_ix ix_list (pe_lst (pa_cons pe_int (pa_cons pe_int pa_nil))) (pv 1) (fun _ _=>rfl)))))))
  pss_nil)
  (pss_one (ps_ret (pe_op op_add pe_int (pe_op op_mod (pe_cm G_at M_at hr rfl (pa_cons (pv 0) (pa_cons pe_int pa_nil))) pe_int)))))
  pss_nil)
  (pss_one (ps_ret (pe_op op_add pe_int (pe_op op_mod (pe_cm G_at M_at hr rfl (pa_cons (pv 0) (pa_cons pe_int pa_nil))) pe_int))))),?_⟩
 refine ⟨_,rfl,a,ns,1,rfl,hS,hl,fun i H1 s1=>⟨_,_,rfl,rfl,(by show (0:Int) < 3; decide),rfl,_,rfl,ite2 (fun _=>?_) (fun _=>?_)⟩⟩
 ·refine ⟨_,rfl,a,ns,29,rfl,s1.seq hS,hl,fun i H2 s2=>⟨_,_,rfl,rfl,(by show (0:Int) < 4; decide),rfl,_,rfl,ite2 (fun _=>?_) (fun _=>?_)⟩⟩
  ·have S2:=s1.trans s2
   have pick:∀ k:Bool,∃ m:Int,(m = 6 ∨ m = 30)∧atI [V.int 6,V.int 30] (if k = true then 1 else 0) = some (V.int m):=fun k=>by
    cases k with
    | false=>exact ⟨6,.inl rfl,at0⟩
    | true=>exact ⟨30,.inr rfl,at1⟩
   refine ⟨_,rfl,a,_,rfl,.inl (S2.seq hS),_,_,rfl,rfl,_,rfl,ite2 (fun _=>?_) (fun _=>?_)⟩
   ·obtain ⟨m,hm,em⟩:=pick true
    refine .inr ⟨true,rfl,_,rfl,a,ns,0,rfl,S2.seq hS,hl,fun i H3 s3=>⟨line_le (by show 2 ≤ 16000000; decide),fun l hl'=>?_⟩⟩
    refine ⟨_,rfl,?_⟩
    refine ⟨l,_,_,_,rfl,rfl,SqL.of upd_same,em,?_⟩
    refine ⟨_,_,rfl,rfl,(by omega),_,_,rfl,rfl,?_⟩
    exact cnt_ok (Q:=Q) (fun n a b=>q n _ a b ((S2.trans s3).trans (same_new hl' _))) (by have:=Int.emod_nonneg i (show m ≠ 0 by omega); omega) (by have:=Int.emod_lt_of_pos i (show (0:Int) < m by omega); omega)
   ·refine ⟨_,rfl,_,rfl,a,_,rfl,S2.seq hS,fun c hc=>?_⟩
    obtain ⟨cs,ecs,lcs⟩:=cut_ints ns none (some 1)
    rw [ecs]
    have s3:=same_new hc (.lst (cs.map V.int))
    have hc3:upd H2 c (.lst (cs.map V.int)) c = some (.lst (cs.map V.int)):=upd_same
    generalize upd H2 c (.lst (cs.map V.int)) = H3 at s3 hc3
    refine ⟨c,cs,rfl,SqL.of hc3,_,_,rfl,rfl,(by show (0:Int) < 32; decide),rfl,.inr ⟨_,rfl,?_⟩⟩
    generalize decide (V.int (cs.sum % 32) = V.int 9) = kk
    obtain ⟨m,hm,em⟩:=pick kk
    have S3:=S2.trans s3
    refine ⟨_,rfl,a,ns,0,rfl,S3.seq hS,hl,fun i H4 s4=>⟨line_le (by show 2 ≤ 16000000; decide),fun l hl'=>?_⟩⟩
    refine ⟨_,rfl,?_⟩
    refine ⟨l,_,_,_,rfl,rfl,SqL.of upd_same,em,?_⟩
    refine ⟨_,_,rfl,rfl,(by omega),_,_,rfl,rfl,?_⟩
    exact cnt_ok (Q:=Q) (fun n a b=>q n _ a b ((S3.trans s4).trans (same_new hl' _))) (by have:=Int.emod_nonneg i (show m ≠ 0 by omega); omega) (by have:=Int.emod_lt_of_pos i (show (0:Int) < m by omega); omega)
  ·refine ⟨_,rfl,a,ns,0,rfl,(s1.trans s2).seq hS,hl,fun i H3 s3=>⟨_,_,rfl,rfl,(by show (0:Int) < 5; decide),_,_,rfl,rfl,?_⟩⟩
   exact cnt_ok (Q:=Q) (fun n a b=>q n _ a b ((s1.trans s2).trans s3)) (by have:=Int.emod_nonneg i (show (5:Int) ≠ 0 by decide); omega) (by have:=Int.emod_lt_of_pos i (show (0:Int) < 5 by decide); omega)
 ·refine ⟨_,rfl,a,ns,0,rfl,s1.seq hS,hl,fun i H3 s3=>⟨_,_,rfl,rfl,(by show (0:Int) < 6; decide),_,_,rfl,rfl,?_⟩⟩
  exact cnt_ok (Q:=Q) (fun n a b=>q n _ a b (s1.trans s3)) (by have:=Int.emod_nonneg i (show (6:Int) ≠ 0 by decide); omega) (by have:=Int.emod_lt_of_pos i (show (0:Int) < 6 by decide); omega)
end
end Ws
namespace Ws
open PySem L2
section
variable {P:Program} {w:World} {K:PySem.W.Frag} {mg:Str→Option Value} {base:Heap}
theorem wk_marks:∀ D σ H,tMay 5 (fun σ H=>(∃ z:Int,σ[4]? = some (some (.int z)))∧∃ (a:Addr) (ns:List Int),σ[1]? = some (some (.ref a))∧SqL K H a (ns.map V.int)∧ns.length ≤ 1000000) (fun _ y=>∃ z,y = V.int z) D σ H →
  tIfS (tTest (tOp rEq (tCall spDraw [] E0 (tCons (tVar 4) (tCons (tC (.int 1009)) (tCons (tC (.int 3)) tNil)))) (tC (.int 1)))) (tDrop (tBM K "list" rAppend (tVar 5) (tCons (tOp (rI0 fun i j=>.int (i + j)) (tCall (spMark K) [] E0 (tCons (tVar 1) tNil)) (tC (.int 1000000007))) tNil))) tNext D σ H:=by
 rintro D σ H ⟨p,xs,e5,hp,hz,⟨⟨z,e4⟩,a,ns,e1,hS,hl⟩,k⟩
 refine ⟨_,e4,z,1009,3,rfl,by decide,by decide,fun i _ _=>⟨rfl,_,rfl,ite2 (fun _=>?_) (fun _=>?_)⟩⟩
 ·refine ⟨_,e5,.inl ⟨rfl,_,SqL.of hp⟩,_,e1,a,ns,rfl,hS,hl,fun y H1 s1=>⟨_,_,rfl,rfl,p,xs,_,rfl,rfl,s1 _ _ hp,line_lt (by omega),?_⟩⟩
  exact k _ _ (.inr ⟨_,⟨_,rfl⟩,rfl⟩) upd_same (fun b o hb e=>by rw [upd_ne hb]; exact s1 _ _ e)
 ·exact k H xs (.inl rfl) hp (fun b o _ e=>e)
theorem wk_doors:∀ D σ H,tMay 6 (fun σ H=>(∃ z:Int,σ[4]? = some (some (.int z)))∧∃ (q:Addr) (ds:List Int) (m:Int),σ[6]? = some (some (.ref q))∧H q = some (.lst (ds.map V.int))∧σ[7]? = some (some (.int m))) (fun σ y=>σ[7]? = some (some y)) D σ H →
  tIfS (tAnd (tTest (tOp rEq (tCall spDraw [] E0 (tCons (tVar 4) (tCons (tC (.int 1019)) (tCons (tC (.int 5)) tNil)))) (tC (.int 2)))) (tTest (tOp (rIn K true) (tVar 7) (tVar 6)))) (tDrop (tBM K "list" rAppend (tVar 6) (tCons (tVar 7) tNil))) tNext D σ H:=by
 rintro D σ H ⟨p,xs,e6,hp,hz,⟨⟨z,e4⟩,q,ds,m,e6',hq,e7⟩,k⟩
 have no:D.nx σ H:=k H xs (.inl rfl) hp (fun b o _ e=>e)
 refine ⟨_,e4,z,1019,5,rfl,by decide,by decide,fun i _ _=>⟨rfl,_,rfl,ite2 (fun _=>?_) (fun _=>no)⟩⟩
 refine ⟨_,e7,_,e6',q,_,rfl,.inl (SqL.of hq),rfl,?_,_,rfl,ite2 (fun _=>?_) (fun _=>no)⟩
 ·rw [List.all_map]
  exact List.all_eq_true.mpr fun x _=>rfl
 refine ⟨_,e6,.inl ⟨rfl,_,SqL.of hp⟩,_,e7,p,xs,_,rfl,rfl,hp,line_lt (by omega),?_⟩
 exact k _ _ (.inr ⟨_,e7,rfl⟩) upd_same (fun b o hb e=>by rw [upd_ne hb]; exact e)
seal L2.PSs L2.PS L2.PE L2.PA L2.PT L2.PG L2.PF L2.PI
def spWorld (K:PySem.W.Frag):Sp:=fun vs H Q _=>∃ (a:Addr) (ns:List Int) (n:Nat),vs = [.int (n:Int),.ref a]∧SqL K H a (ns.map V.int)∧ns.length ≤ 1000000∧1 ≤ n∧n ≤ 100 ∧
 ∀ (v:V) (W:World2) (H':Hp),Same H H'→DAt H' v (wdat W)→Valid n 100 W→Q v H'
theorem ok_line_of {f g h j:Addr} {fd gd hd' jd:FuncData} (F:Fun K "_law_line_of" "_law_line_of" sd_line_of f fd) (B:Blt mg) (G_at:FnOk P w K mg base CX0 1 g gd ["_law_script","_law_k"] (spAt K)) (M_at:MG K mg "_law_at" ["_law_script","_law_k"] g gd)
  (G_first_mark:FnOk P w K mg base CX0 2 h hd' ["_law_script"] (spMark K)) (M_first_mark:MG K mg "_law_first_mark" ["_law_script"] h hd') (G_draw:FnOk P w K mg base CX0 1 j jd ["_law_number","_law_prime","_law_many"] spDraw) (M_draw:MG K mg "_law_draw" ["_law_number","_law_prime","_law_many"] j jd) :
  FnOk P w K mg base CX0 3 f fd ["_law_count","_law_script"] (spWorld K):=by
 refine F.ok sc_line_of (fun vs H Q E h=>?_) (fun cdv A outer s H vs Q E hr h=>?_)
 ·obtain ⟨a,ns,n,rfl,_⟩:=h
  rfl
 obtain ⟨a,ns,n,rfl,hS,hl,h1,hn,k⟩:=h
 refine ⟨_,
  (pss_cons (ps_set (i:=2) sc_line_of.nd rfl (Or.inl rfl) (pe_lst pa_nil))
  (pss_cons (ps_for PassesOwn.never rfl (pi_range1 rfl B.range (pa_cons (pv 0) pa_nil)) (pg_name (i:=3) sc_line_of.nd rfl (Or.inl rfl))
  (pss_cons (ps_set (i:=4) sc_line_of.nd rfl (Or.inl rfl) (pe_op op_add (pe_cm G_at M_at hr rfl (pa_cons (pv 1) (pa_cons (pe_op op_add pe_int (pv 3)) pa_nil))) (pe_op op_mul pe_int (pv 3))))
  (pss_cons (ps_set (i:=5) sc_line_of.nd rfl (Or.inl rfl) (pe_lst (pa_cons (pe_op op_sub (pe_cm G_first_mark M_first_mark hr rfl (pa_cons (pv 1) pa_nil)) (pe_callTy call_int1 rfl B.int bInt (pa_cons (pe_cmpR op_eq (pv 3) (pe_op op_sub (pv 0) pe_int) (nomark _)) pa_nil))) pa_nil)))
  (pss_cons (ps_weak (ps_if (pt_cmpR op_eq (pe_cm G_draw M_draw hr rfl (pa_cons (pv 4) (pa_cons pe_int (pa_cons pe_int pa_nil)))) pe_int (nomark _))
  (pss_one (ps_expr (pe_bm PySem.F.plainAttrs_list PySem.F.slot_list_append PySem.F.type_list_append mt_append (pv 5) (pa_cons (pe_op op_add (pe_cm G_first_mark M_first_mark hr rfl (pa_cons (pv 1) pa_nil)) pe_int) pa_nil))))
  pss_nil) (wk_marks (K:=K)))
  (pss_cons (ps_set (i:=6) sc_line_of.nd rfl (Or.inl rfl) (pe_lst (pa_cons (pe_callB (call_min2 rfl) rfl B.min bMin (pa_cons (pe_op op_add (pv 3) pe_int) (pa_cons (pe_op op_sub (pv 0) pe_int) pa_nil))) pa_nil)))
  (pss_cons (ps_set (i:=7) sc_line_of.nd rfl (Or.inl rfl) (pe_cm G_draw M_draw hr rfl (pa_cons (pv 4) (pa_cons pe_int (pa_cons (pv 0) pa_nil)))))
  (pss_cons (ps_weak (ps_if (PW.pt (pw_and (pt_cmpR op_eq (pe_cm G_draw M_draw hr rfl (pa_cons (pv 4) (pa_cons pe_int (pa_cons pe_int pa_nil)))) pe_int (nomark _)) (pw_and1 (pt_cmpR op_notIn_seq (pv 7) (pv 6) rfl))))
  (pss_one (ps_expr (pe_bm PySem.F.plainAttrs_list PySem.F.slot_list_append PySem.F.type_list_append mt_append (pv 6) (pa_cons (pv 7) pa_nil))))
  pss_nil) (wk_doors (K:=K)))
  (pss_one (ps_expr (pe_bm PySem.F.plainAttrs_list PySem.F.slot_list_append PySem.F.type_list_append mt_append (pv 2) (pa_cons (pe_tup (pa_cons (pv 5) (pa_cons (pv 6) pa_nil))) pa_nil)))))))))))
  (pss_cons (ps_set (i:=8) sc_line_of.nd rfl (Or.inr rfl) (pe_cm G_at M_at hr rfl (pa_cons (pv 1) (pa_cons pe_int pa_nil))))
  (pss_cons (ps_if (pt_cmpR op_eq (pe_op op_mod (pv 8) pe_int) pe_int (nomark _))
  (pss_cons (ps_comp (i:=6) sc_line_of.nd rfl rfl rfl cs_line_of_0 rfl rfl (pi_range1 rfl B.range (pa_cons (pv 0) pa_nil)) (fun _ _ _ _ _=>pg_name (i:=0) cs_line_of_0.nd rfl (Or.inl rfl)) (fun _ _ _ _ _=>pf_nil) (fun _ _ _ _ _=>(pe_op op_mod (pe_op op_sub (pe_op op_fdiv (pv 2) pe_int) (pv 0)) (pv 1))))
  (pss_cons (ps_expr (pe_bm0 PySem.F.plainAttrs_list PySem.F.slot_list_clear PySem.F.type_list_clear mt_clear (pe_ix ix_tup (pe_ix ix_list (pv 2) (pe_op op_mod (pe_op op_fdiv (pv 8) pe_int) (pv 0)) (fun _ _=>rfl)) pe_int (fun _ _=>rfl))))
  (pss_one (ps_expr (pe_bm PySem.F.plainAttrs_list PySem.F.slot_list_extend PySem.F.type_list_extend mt_extend (pe_ix ix_tup (pe_ix ix_list (pv 2) (pe_op op_mod (pe_op op_fdiv (pv 8) pe_int) (pv 0)) (fun _ _=>rfl)) pe_int (fun _ _=>rfl)) (pa_cons (pv 6) pa_nil))))))
  pss_nil)
  (pss_one (ps_ret (pv 2))))))),?_⟩
 refine ⟨line0,fun q hq=>?_⟩
 have fin:∀ (H':Hp) (rs:List Rec),Line H H' q rs→rs.length = n→(∀ (i:Nat) (r:Rec),rs[i]? = some r→StOk n 100 r.s)→Q (.ref q) H':=fun H' rs L el ok =>
  k _ _ _ L.same L.done (valid_of (by rw [List.length_map,el]) fun s hs=>by
   obtain ⟨r,hr,rfl⟩:=List.mem_map.mp hs
   obtain ⟨i,hi,rfl⟩:=List.getElem_of_mem hr
   exact ok i _ (List.getElem?_eq_getElem hi))
 refine ⟨_,rfl,n,rfl,by omega,by omega,for_range (lo:=0) (n:=n) (fun i σ' H'=>∃ (rs:List Rec) (o3 o4 o5 o6 o7:Option V),σ' = [some (.int (n:Int)),some (.ref a),some (.ref q),o3,o4,o5,o6,o7,none]∧Line H H' q rs∧rs.length = i∧∀ (i:Nat) (r:Rec),rs[i]? = some r→StOk n 100 r.s)
  ⟨[],none,none,none,none,none,rfl,Line.start hq,rfl,fun i r e=>by simp at e⟩ ?_ ?_⟩
 ·rintro i σ' H1 hi ⟨rs,o3,o4,o5,o6,o7,rfl,L,el,ok⟩
  refine ⟨_,rfl,_,rfl,_,_,rfl,rfl,a,ns,_,rfl,L.same.seq hS,hl,fun z H2 s2=>⟨_,rfl,_,_,rfl,rfl,.inl ⟨by decide,by decide⟩,_,_,rfl,rfl,?_⟩⟩
  have L2':=L.keep s2
  refine ⟨_,rfl,a,ns,rfl,L2'.same.seq hS,hl,fun y H3 s3=>?_⟩
  have L3:=L2'.keep s3
  refine ⟨_,rfl,_,rfl,_,_,rfl,rfl,rfl,.inr ⟨_,rfl,_,_,rfl,rfl,line_le (by show 1 ≤ 16000000; decide),fun p hp=>?_⟩⟩
  refine ⟨p,_,rfl,upd_same,by show 1 ≤ 1000000; decide,⟨⟨_,rfl⟩,a,ns,rfl,(L3.same.trans (same_new hp _)).seq hS,hl⟩,fun H5 ys hys hp5 k5=>?_⟩
  obtain ⟨ms,lm,rfl⟩:∃ ms:List Int,ms.length ≤ 2∧ys = ms.map V.int:=by
   rcases hys with rfl | ⟨_,⟨z',rfl⟩,rfl⟩
   ·exact ⟨[_],by show 1 ≤ 2; decide,rfl⟩
   ·exact ⟨[_,z'],by show 2 ≤ 2; decide,rfl⟩
  have s5:Same H3 H5:=fun b o e=>k5 b o (ne_of_none e hp) (by rw [upd_ne (ne_of_none e hp)]; exact e)
  have L5:=L3.keep s5
  clear k5
  refine ⟨_,rfl,_,_,rfl,rfl,_,rfl,_,_,rfl,rfl,_,_,rfl,line_le (by show 1 ≤ 16000000; decide),fun r hr1=>?_⟩
  refine ⟨_,rfl,_,rfl,_,1013,n,rfl,by decide,by omega,fun mo h0 h1'=>?_⟩
  refine ⟨r,_,rfl,upd_same,by show 1 ≤ 1000000; decide,⟨⟨_,rfl⟩,r,[_],mo,rfl,upd_same,rfl⟩,fun H7 ds hds hr7 k7=>?_⟩
  have hdoor:∃ dd:List Int,ds = dd.map V.int∧StOk n 100 (ms,dd):=by
   have first:∀ x:Int,x = (if (n:Int) - 1 < 0 + (i:Int) + 1 then (n:Int) - 1 else 0 + (i:Int) + 1)→0 ≤ x∧x < (n:Int):=fun x e=>by
    split at e <;> omega
   rcases hds with rfl | ⟨y',e7,rfl⟩
   ·refine ⟨[_],rfl,by simp,fun d hd=>?_,by show ms.length ≤ 100; omega,by show 1 ≤ 100; decide⟩
    rw [List.mem_singleton] at hd
    exact first d hd
   ·have e7:some (some (V.int mo)) = some (some y'):=e7
    cases e7
    refine ⟨[_,mo],rfl,by simp,fun d hd=>?_,by show ms.length ≤ 100; omega,by show 2 ≤ 100; decide⟩
    have hd:d ∈ [_,mo]:=hd
    rw [List.mem_cons,List.mem_singleton] at hd
    rcases hd with hd | hd
    ·exact first d hd
    ·rw [hd]; exact ⟨h0,h1'⟩
  obtain ⟨dd,rfl,sok⟩:=hdoor
  clear hds
  have s7:Same H5 H7:=fun b o e=>k7 b o (ne_of_none e hr1) (by rw [upd_ne (ne_of_none e hr1)]; exact e)
  have L7:=L5.keep s7
  refine ⟨_,rfl,.inl ⟨rfl,_,SqL.of L7.at_⟩,_,rfl,_,rfl,line_le (by show 2 ≤ 16000000; decide),fun t ht=>?_⟩
  have s8:=same_new ht (.tup [V.ref p,V.ref r])
  have L8:=L7.keep s8
  refine ⟨q,_,_,rfl,rfl,L8.at_,by rw [List.length_map]; exact line_lt (by omega),?_⟩
  have hp7:H7 p = some (.lst (ms.map V.int)):=s7 _ _ hp5
  refine ⟨rs ++ [⟨t,p,r,(ms,dd)⟩],_,_,_,_,_,rfl,L8.push (r:=⟨t,p,r,(ms,dd)⟩) upd_same (s8 _ _ hp7) (s8 _ _ hr7) (L5.same.free hr1) ?_ ?_ ?_ ?_ ?_,?_,?_⟩
  ·exact fun z=>by rw [show r = q from z,L5.at_] at hr1; cases hr1
  ·exact fun z=>by rw [show p = q from z,L3.at_] at hp; cases hp
  ·exact fun z=>by rw [show t = q from z,L7.at_] at ht; cases ht
  ·exact ne_of_none hp5 hr1
  ·intro i' r' e'
   obtain ⟨_,b5,c5,_⟩:=L5.tu i' r' e'
   obtain ⟨_,_,c3,_⟩:=L3.tu i' r' e'
   exact ⟨ne_of_none b5 hr1,(ne_of_none c3 hp).symm,ne_of_none c5 hr1⟩
  ·rw [List.length_append,el]; rfl
  ·intro i' r' e'
   rcases snoc_get e' with ⟨e1,_⟩ | ⟨_,rfl⟩
   ·exact ok i' r' e1
   ·exact sok
 ·rintro σ' H1 ⟨rs,o3,o4,o5,o6,o7,rfl,L,el,ok⟩
  refine ⟨_,rfl,a,ns,28,rfl,L.same.seq hS,hl,fun tu H2 s2=>?_⟩
  have L2':=L.keep s2
  refine ⟨_,rfl,_,_,rfl,rfl,(by show (0:Int) < 2; decide),rfl,_,rfl,ite2 (fun _=>?_) (fun _=>⟨_,rfl,fin _ rs L2' el ok⟩)⟩
  refine ⟨_,rfl,n,rfl,by omega,by omega,fun D hD=>?_⟩
  refine comp_range (lo:=0) (n:=n) (fun j es τ H'=>∃ zs:List Int,zs.length = j∧(∀ z ∈ zs,0 ≤ z∧z < (n:Int))∧es = zs.map V.int∧H' D = some (.lst es)∧Same H2 H'∧∃ v,τ = [v,some (.int (n:Int)),some (.int tu)]) ⟨[],rfl,(fun _ h=>nomatch h),rfl,upd_same,same_new hD _,none,rfl⟩ ?_ ?_
  ·rintro j' es τ H3 hj ⟨zs,ez,hz,rfl,hD3,s3,v,rfl⟩
   have lz:(zs.map V.int).length = j':=by rw [List.length_map,ez]
   refine ⟨_,rfl,_,_,rfl,rfl,⟨by decide,by decide⟩,_,rfl,_,_,rfl,rfl,_,rfl,_,_,rfl,rfl,(by omega),hD3,line_lt (by omega),?_⟩
   refine ⟨zs ++ [(tu / 2 - (0 + (j':Int))) % (n:Int)],?_,fun z hz'=>?_,?_,upd_same,same_upd s3 hD _,_,rfl⟩
   ·rw [List.length_append,ez]; rfl
   ·rcases List.mem_append.mp hz' with hz' | hz'
    ·exact hz z hz'
    ·rw [List.mem_singleton] at hz'
     rw [hz']
     exact ⟨Int.emod_nonneg _ (by omega),Int.emod_lt_of_pos _ (by omega)⟩
   ·rw [List.map_append]; rfl
  rintro es τ H3 ⟨zs,ez,hz,rfl,hD3,s3,v,rfl⟩
  have L3:=L2'.keep s3
  have hj0:0 ≤ tu / 2 % (n:Int):=Int.emod_nonneg _ (by omega)
  have hj1:tu / 2 % (n:Int) < (n:Int):=Int.emod_lt_of_pos _ (by omega)
  obtain ⟨jj,ej⟩:∃ jj:Nat,tu / 2 % (n:Int) = (jj:Int):=⟨(tu / 2 % (n:Int)).toNat,by omega⟩
  have hjl:jj < rs.length:=by omega
  have er:rs[jj]? = some rs[jj]:=List.getElem?_eq_getElem hjl
  obtain ⟨ta,tb,tc,td,te,tf,tg⟩:=L3.tu jj _ er
  have eat:atI (rs.map fun r=>V.ref r.t) (tu / 2 % (n:Int)) = some (V.ref rs[jj].t):=atI_of (map_nth hjl) ej
  refine ⟨_,rfl,_,rfl,_,_,rfl,rfl,⟨by decide,by decide⟩,_,rfl,_,_,rfl,rfl,(by omega),q,_,_,_,rfl,rfl,SqL.of L3.at_,eat,rs[jj].t,_,_,_,rfl,rfl,SqT.of ta,at1,.inl ⟨rfl,_,SqL.of tc⟩,rs[jj].d,_,rfl,rfl,tc,?_⟩
  have L4:=L3.store er []
  have L5:=L3.store er zs
  have ta4:upd H3 rs[jj].d (.lst []) rs[jj].t = some (.tup [.ref rs[jj].m,.ref rs[jj].d]):=by rw [upd_ne (ne_of ta tc (by intro z; cases z))]; exact ta
  have hq4:upd H3 rs[jj].d (.lst []) q = some (.lst (rs.map fun r=>V.ref r.t)):=by rw [upd_ne (Ne.symm te)]; exact L3.at_
  have nD:D ≠ rs[jj].d:=fun z=>by
   obtain ⟨_,_,c2,_⟩:=L2'.tu jj _ er
   rw [z,c2] at hD; cases hD
  have hD4:upd H3 rs[jj].d (.lst []) D = some (.lst (zs.map V.int)):=by rw [upd_ne nD]; exact hD3
  refine ⟨_,rfl,_,rfl,_,_,rfl,rfl,⟨by decide,by decide⟩,_,rfl,_,_,rfl,rfl,(by omega),q,_,_,_,rfl,rfl,SqL.of hq4,eat,rs[jj].t,_,_,_,rfl,rfl,SqT.of ta4,at1,.inl ⟨rfl,_,SqL.of upd_same⟩,_,rfl,rs[jj].d,D,_,_,rfl,rfl,upd_same,hD4,?_,?_⟩
  ·show ([]:List V).length + (zs.map V.int).length ≤ sizeLine
   rw [List.length_map,ez]
   exact line_le (by show 0 + n ≤ 16000000; omega)
  refine ⟨_,rfl,?_⟩
  rw [upd_upd]
  refine fin _ _ L5 (by rw [List.length_set,el]) fun i' r' e'=>?_
  by_cases hi':i' = jj
  ·subst hi'
   rw [List.getElem?_set_self hjl] at e'
   cases e'
   have o:=ok i' _ er
   refine ⟨?_,hz,o.2.2.1,by show zs.length ≤ 100; omega⟩
   intro z0
   have z0:zs = []:=z0
   rw [z0] at ez
   have:([]:List Int).length = 0:=rfl
   omega
  ·rw [List.getElem?_set_ne (fun z=>hi' z.symm)] at e'
   exact ok i' r' e'
end
end Ws
namespace Ws
open PySem L2
section
variable {P:Program} {w:World} {K:PySem.W.Frag} {mg:Str→Option Value} {base:Heap}
seal L2.PSs L2.PS L2.PE L2.PA L2.PT L2.PG L2.PF L2.PI
end
end Ws
namespace Ws
open PySem L2
section
variable {P:Program} {w:World} {K:PySem.W.Frag} {mg:Str→Option Value} {base:Heap}
theorem wk_spot:∀ D σ H,tMay 5 (fun σ H=>(∃ z:Int,σ[4]? = some (some (.int z)))∧(∃ j:Nat,j < 3∧σ[7]? = some (some (.int (0 + (j:Int)))))∧∃ (a:Addr) (ns:List Int),σ[1]? = some (some (.ref a))∧SqL K H a (ns.map V.int)∧ns.length ≤ 1000000) (fun _ y=>∃ z,y = V.int z) D σ H →
  tIfS (tTest (tOp rEq (tCall spDraw [] E0 (tCons (tOp (rI0 fun i j=>.int (i + j)) (tVar 4) (tOp (rI CMul fun i j=>.int (i * j)) (tC (.int 104729)) (tVar 7))) (tCons (tC (.int 1009)) (tCons (tC (.int 2)) tNil)))) (tC (.int 1))))
   (tDrop (tBM K "list" rAppend (tVar 5) (tCons (tOp (rI0 fun i j=>.int (i + j)) (tCall (spMark K) [] E0 (tCons (tVar 1) tNil)) (tOp (rIxL K) (tLst (tCons (tC (.int 0)) (tCons (tUn (rU fun i=>.int (-i)) (tC (.int 1))) (tCons (tC (.int 1000000007)) tNil)))) (tVar 7))) tNil))) tNext D σ H:=by
 rintro D σ H ⟨p,xs,e5,hp,hz,⟨⟨z,e4⟩,⟨j,hj,e7⟩,a,ns,e1,hS,hl⟩,k⟩
 refine ⟨_,e4,_,e7,_,_,rfl,rfl,.inl ⟨by decide,by decide⟩,_,_,rfl,rfl,_,1009,2,rfl,by decide,by decide,fun i _ _=>⟨rfl,_,rfl,ite2 (fun _=>?_) (fun _=>?_)⟩⟩
 ·obtain ⟨e,he⟩:=three_at hj 0 (-1) 1000000007
  refine ⟨_,e5,.inl ⟨rfl,_,SqL.of hp⟩,_,e1,a,ns,rfl,hS,hl,fun y H1 s1=>⟨_,rfl,line_le (by show 3 ≤ 16000000; decide),fun l hl1=>⟨_,e7,l,_,_,_,rfl,rfl,SqL.of upd_same,he,_,_,rfl,rfl,p,xs,_,rfl,rfl,same_new hl1 _ _ _ (s1 _ _ hp),line_lt (by omega),?_⟩⟩⟩
  exact k _ _ (.inr ⟨_,⟨_,rfl⟩,rfl⟩) upd_same (fun b o hb e=>by rw [upd_ne hb]; exact same_new hl1 _ _ _ (s1 _ _ e))
 ·exact k H xs (.inl rfl) hp (fun b o _ e=>e)
theorem wk_door:∀ D σ H,tMay 6 (fun σ H=>(∃ z:Int,σ[4]? = some (some (.int z)))∧∃ j:Int,σ[8]? = some (some (.int j))) (fun σ y=>σ[8]? = some (some y)) D σ H →
  tIfS (tTest (tOp rEq (tCall spDraw [] E0 (tCons (tOp (rI0 fun i j=>.int (i + j)) (tVar 4) (tOp (rI CMul fun i j=>.int (i * j)) (tC (.int 104729)) (tVar 8))) (tCons (tC (.int 1013)) (tCons (tC (.int 3)) tNil)))) (tC (.int 1))))
   (tDrop (tBM K "list" rAppend (tVar 6) (tCons (tVar 8) tNil))) tNext D σ H:=by
 rintro D σ H ⟨p,xs,e6,hp,hz,⟨⟨z,e4⟩,j,e8⟩,k⟩
 refine ⟨_,e4,_,e8,_,_,rfl,rfl,.inl ⟨by decide,by decide⟩,_,_,rfl,rfl,_,1013,3,rfl,by decide,by decide,fun i _ _=>⟨rfl,_,rfl,ite2 (fun _=>?_) (fun _=>?_)⟩⟩
 ·refine ⟨_,e6,.inl ⟨rfl,_,SqL.of hp⟩,_,e8,p,xs,_,rfl,rfl,hp,line_lt (by omega),?_⟩
  exact k _ _ (.inr ⟨_,e8,rfl⟩) upd_same (fun b o hb e=>by rw [upd_ne hb]; exact e)
 ·exact k H xs (.inl rfl) hp (fun b o _ e=>e)
def tNone:TS:=fun D σ H=>∃ (p:Addr) (ds:List Int) (z n:Int),σ[6]? = some (some (.ref p))∧H p = some (.lst (ds.map V.int))∧σ[4]? = some (some (.int z))∧σ[0]? = some (some (.int n))∧0 < n ∧
 ∀ (H2:Hp) (es:List Int),((es = ds∧ds ≠ []) ∨ ∃ y:Int,0 ≤ y∧y < n∧es = [y])→H2 p = some (.lst (es.map V.int))→(∀ b o,b ≠ p→H b = some o→H2 b = some o)→D.nx σ H2
theorem wk_none:∀ D σ H,tNone D σ H→tIfS (tTest (tOp (rNil false) (tVar 6) (tLst tNil))) (tDrop (tBM K "list" rAppend (tVar 6) (tCons (tCall spDraw [] E0 (tCons (tVar 4) (tCons (tC (.int 1019)) (tCons (tVar 0) tNil)))) tNil))) tNext D σ H:=by
 rintro D σ H ⟨p,ds,z,n,e6,hp,e4,e0,hn,k⟩
 refine ⟨_,e6,line0,fun l hl=>⟨p,l,_,rfl,rfl,same_new hl _ _ _ hp,upd_same,_,rfl,?_⟩⟩
 have s1:=same_new hl (.lst [])
 generalize upd H l (.lst []) = H1 at s1
 cases ds with
 | nil =>
  refine iteT ?_
  refine ⟨_,e6,.inl ⟨rfl,_,SqL.of (s1 _ _ hp)⟩,_,e4,_,e0,z,1019,n,rfl,by decide,hn,fun y h0 h1=>⟨p,_,_,rfl,rfl,s1 _ _ hp,line_lt (by show 0 ≤ 16000000; decide),?_⟩⟩
  exact k _ [y] (.inr ⟨y,h0,h1,rfl⟩) upd_same (fun b o hb e=>by rw [upd_ne hb]; exact s1 _ _ e)
 | cons x r =>
  refine iteF ?_
  exact k H1 (x :: r) (.inl ⟨rfl,by simp⟩) (s1 _ _ hp) (fun b o _ e=>s1 _ _ e)
seal L2.PSs L2.PS L2.PE L2.PA L2.PT L2.PG L2.PF L2.PI
theorem ok_world_of {f g h j l:Addr} {fd gd hd' jd ld:FuncData} (F:Fun K "_law_world_of" "_law_world_of" sd_world_of f fd) (B:Blt mg) (G_at:FnOk P w K mg base CX0 1 g gd ["_law_script","_law_k"] (spAt K)) (M_at:MG K mg "_law_at" ["_law_script","_law_k"] g gd)
  (G_first_mark:FnOk P w K mg base CX0 2 h hd' ["_law_script"] (spMark K)) (M_first_mark:MG K mg "_law_first_mark" ["_law_script"] h hd') (G_draw:FnOk P w K mg base CX0 1 j jd ["_law_number","_law_prime","_law_many"] spDraw) (M_draw:MG K mg "_law_draw" ["_law_number","_law_prime","_law_many"] j jd)
  (G_line_of:FnOk P w K mg base CX0 3 l ld ["_law_count","_law_script"] (spWorld K)) (M_line_of:MG K mg "_law_line_of" ["_law_count","_law_script"] l ld) :
  FnOk P w K mg base CX0 4 f fd ["_law_count","_law_script"] (spWorld K):=by
 refine F.ok sc_world_of (fun vs H Q E h=>?_) (fun cdv A outer s H vs Q E hr h=>?_)
 ·obtain ⟨a,ns,n,rfl,_⟩:=h
  rfl
 obtain ⟨a,ns,n,rfl,hS,hl,h1,hn,k⟩:=h
 have hu:=Nat.lt_of_succ_lt (hu_of hr)
 refine ⟨_,
  (pss_cons (ps_if (pt_cmpR op_eq (pe_op op_mod (pe_cm G_at M_at hr rfl (pa_cons (pv 1) (pa_cons pe_int pa_nil))) pe_int) pe_int (nomark _))
  (pss_one (ps_ret (pe_cm G_line_of M_line_of hr rfl (pa_cons (pv 0) (pa_cons (pv 1) pa_nil)))))
  pss_nil)
  (pss_cons (ps_set (i:=2) sc_world_of.nd rfl (Or.inl rfl) (pe_lst pa_nil))
  (pss_cons (ps_for PassesOwn.never rfl (pi_range1 rfl B.range (pa_cons (pv 0) pa_nil)) (pg_name (i:=3) sc_world_of.nd rfl (Or.inl rfl))
  (pss_cons (ps_set (i:=4) sc_world_of.nd rfl (Or.inl rfl) (pe_op op_add (pe_cm G_at M_at hr rfl (pa_cons (pv 1) (pa_cons (pe_op op_add pe_int (pv 3)) pa_nil))) (pe_op op_mul pe_int (pv 3))))
  (pss_cons (ps_set (i:=5) sc_world_of.nd rfl (Or.inl rfl) (pe_lst pa_nil))
  (pss_cons (ps_set (i:=6) sc_world_of.nd rfl (Or.inl rfl) (pe_lst pa_nil))
  (pss_cons (ps_for PassesOwn.never rfl (pi_range1 rfl B.range (pa_cons pe_int pa_nil)) (pg_name (i:=7) sc_world_of.nd rfl (Or.inl rfl))
  (pss_one (ps_weak (ps_if (pt_cmpR op_eq (pe_cm G_draw M_draw hr rfl (pa_cons (pe_op op_add (pv 4) (pe_op op_mul pe_int (pv 7))) (pa_cons pe_int (pa_cons pe_int pa_nil)))) pe_int (nomark _))
  (pss_one (ps_expr (pe_bm PySem.F.plainAttrs_list PySem.F.slot_list_append PySem.F.type_list_append mt_append (pv 5) (pa_cons (pe_op op_add (pe_cm G_first_mark M_first_mark hr rfl (pa_cons (pv 1) pa_nil)) (pe_ix ix_list (pe_lst (pa_cons pe_int (pa_cons (pe_un un_neg pe_int) (pa_cons pe_int pa_nil)))) (pv 7) (fun _ _=>rfl))) pa_nil))))
  pss_nil) (wk_spot (K:=K)))))
  (pss_cons (ps_for PassesOwn.never rfl (pi_range1 rfl B.range (pa_cons (pv 0) pa_nil)) (pg_name (i:=8) sc_world_of.nd rfl (Or.inl rfl))
  (pss_one (ps_weak (ps_if (pt_cmpR op_eq (pe_cm G_draw M_draw hr rfl (pa_cons (pe_op op_add (pv 4) (pe_op op_mul pe_int (pv 8))) (pa_cons pe_int (pa_cons pe_int pa_nil)))) pe_int (nomark _))
  (pss_one (ps_expr (pe_bm PySem.F.plainAttrs_list PySem.F.slot_list_append PySem.F.type_list_append mt_append (pv 6) (pa_cons (pv 8) pa_nil))))
  pss_nil) (wk_door (K:=K)))))
  (pss_cons (ps_weak (ps_if (pt_cmpR (op_eqNil hu) (pv 6) (pe_lst pa_nil) (nomark _))
  (pss_one (ps_expr (pe_bm PySem.F.plainAttrs_list PySem.F.slot_list_append PySem.F.type_list_append mt_append (pv 6) (pa_cons (pe_cm G_draw M_draw hr rfl (pa_cons (pv 4) (pa_cons pe_int (pa_cons (pv 0) pa_nil)))) pa_nil))))
  pss_nil) (wk_none (K:=K)))
  (pss_one (ps_expr (pe_bm PySem.F.plainAttrs_list PySem.F.slot_list_append PySem.F.type_list_append mt_append (pv 2) (pa_cons (pe_tup (pa_cons (pv 5) (pa_cons (pv 6) pa_nil))) pa_nil)))))))))))
  (pss_one (ps_ret (pv 2)))))),?_⟩
 refine ⟨_,rfl,a,ns,1,rfl,hS,hl,fun i0 H0 s0=>⟨_,_,rfl,rfl,(by show (0:Int) < 3; decide),rfl,_,rfl,ite2 (fun _=>?_) (fun _=>?_)⟩⟩
 ·exact ⟨_,rfl,_,rfl,a,ns,n,rfl,s0.seq hS,hl,h1,hn,fun v W H2 s2 dv hv=>k v W H2 (s0.trans s2) dv hv⟩
 refine ⟨line0,fun q hq=>?_⟩
 refine ⟨_,rfl,n,rfl,by omega,by omega,for_range (lo:=0) (n:=n) (fun i σ' H'=>∃ (ts:World2) (ys:List V) (o3 o4 o5 o6 o7 o8:Option V),σ' = [some (.int (n:Int)),some (.ref a),some (.ref q),o3,o4,o5,o6,o7,o8]∧Grow sdat H H' q ts ys∧ts.length = i∧∀ t ∈ ts,StOk n 100 t)
  ⟨[],[],none,none,none,none,none,none,rfl,Grow.from s0 hq,rfl,(fun _ h=>nomatch h)⟩ ?_ ?_⟩
 ·rintro i σ' H1 hi ⟨ts,ys,o3,o4,o5,o6,o7,o8,rfl,gr,et,oks⟩
  refine ⟨_,rfl,_,rfl,_,_,rfl,rfl,a,ns,_,rfl,gr.same.seq hS,hl,fun z H2 s2=>⟨_,rfl,_,_,rfl,rfl,.inl ⟨by decide,by decide⟩,_,_,rfl,rfl,?_⟩⟩
  have g2:=gr.keep s2
  have ly:=g2.len
  refine ⟨line0,fun p hp=>⟨line0,fun r hr1=>?_⟩⟩
  have npr:p ≠ r:=ne_of_none upd_same hr1
  have hr0:H2 r = none:=(same_new hp _).free hr1
  refine ⟨3,rfl,by decide,by decide,for_range (lo:=0) (n:=3) (fun j σ' H'=>∃ (ms:List Int) (o7:Option V),σ' = [some (.int (n:Int)),some (.ref a),some (.ref q),some (.int (0 + (i:Int))),some (.int (z + 7919 * (0 + (i:Int)))),some (.ref p),some (.ref r),o7,o8]∧Same H2 H'∧H' p = some (.lst (ms.map V.int))∧H' r = some (.lst [])∧ms.length ≤ j)
   ⟨[],o7,rfl,(same_new hp _).trans (same_new hr1 _),by rw [upd_ne npr,upd_same]; rfl,upd_same,Nat.le_refl _⟩ ?_ ?_⟩
  ·rintro j' σ' H3 hj ⟨ms,o7,rfl,s3,hp3,hr3,lm⟩
   refine ⟨p,_,rfl,hp3,by rw [List.length_map]; omega,⟨⟨_,rfl⟩,⟨j',hj,rfl⟩,a,ns,rfl,(g2.same.trans s3).seq hS,hl⟩,fun H4 es hes hp4 k4=>?_⟩
   have s4:Same H2 H4:=fun b o e=>k4 b o (ne_of_none e hp) (s3 _ _ e)
   have hr4:=k4 r _ npr.symm hr3
   rcases hes with rfl | ⟨_,⟨y,rfl⟩,rfl⟩
   ·exact ⟨ms,_,rfl,s4,hp4,hr4,by omega⟩
   ·exact ⟨ms ++ [y],_,rfl,s4,by rw [hp4,List.map_append]; rfl,hr4,by rw [List.length_append]; show ms.length + 1 ≤ j' + 1; omega⟩
  rintro σ' H3 ⟨ms,o7,rfl,s3,hp3,hr3,lm⟩
  refine ⟨_,rfl,n,rfl,by omega,by omega,for_range (lo:=0) (n:=n) (fun j σ' H'=>∃ (ds:List Int) (o8:Option V),σ' = [some (.int (n:Int)),some (.ref a),some (.ref q),some (.int (0 + (i:Int))),some (.int (z + 7919 * (0 + (i:Int)))),some (.ref p),some (.ref r),o7,o8]∧Same H2 H'∧H' p = some (.lst (ms.map V.int))∧H' r = some (.lst (ds.map V.int))∧ds.length ≤ j∧∀ d ∈ ds,0 ≤ d∧d < (n:Int))
   ⟨[],_,rfl,s3,hp3,hr3,Nat.le_refl _,(fun _ h=>nomatch h)⟩ ?_ ?_⟩
  ·rintro j' σ' H4 hj ⟨ds,o8,rfl,s4,hp4,hr4,ld',hds⟩
   refine ⟨r,_,rfl,hr4,by rw [List.length_map]; omega,⟨⟨_,rfl⟩,_,rfl⟩,fun H5 es hes hr5 k5=>?_⟩
   have s5:Same H2 H5:=fun b o e=>k5 b o (ne_of_none e hr0) (s4 _ _ e)
   have hp5:=k5 p _ npr hp4
   rcases hes with rfl | ⟨y,ey,rfl⟩
   ·exact ⟨ds,_,rfl,s5,hp5,hr5,by omega,hds⟩
   ·have ey:some (some (V.int (0 + (j':Int)))) = some (some y):=ey
    cases ey
    refine ⟨ds ++ [0 + (j':Int)],_,rfl,s5,hp5,by rw [hr5,List.map_append]; rfl,by rw [List.length_append]; show ds.length + 1 ≤ j' + 1; omega,fun d hd=>?_⟩
    rcases List.mem_append.mp hd with hd | hd
    ·exact hds d hd
    ·rw [List.mem_singleton] at hd
     omega
  rintro σ' H4 ⟨ds,o8,rfl,s4,hp4,hr4,ld',hds⟩
  refine ⟨r,ds,_,n,rfl,hr4,rfl,rfl,by omega,fun H5 es hes hr5 k5=>?_⟩
  have s5:Same H2 H5:=fun b o e=>k5 b o (ne_of_none e hr0) (s4 _ _ e)
  have hp5:=k5 p _ npr hp4
  have sok:StOk n 100 (ms,es):=by
   rcases hes with ⟨rfl,ne⟩ | ⟨y,y0,y1,rfl⟩
   ·exact ⟨ne,hds,by show ms.length ≤ 100; omega,by show es.length ≤ 100; omega⟩
   ·refine ⟨by simp,fun d hd=>?_,by show ms.length ≤ 100; omega,by show 1 ≤ 100; decide⟩
    have hd:d ∈ [y]:=hd
    rw [List.mem_singleton] at hd
    rw [hd]
    exact ⟨y0,y1⟩
  have g5:=g2.keep s5
  refine ⟨_,rfl,.inl ⟨rfl,_,SqL.of g5.at_⟩,_,rfl,_,rfl,line_le (by show 2 ≤ 16000000; decide),fun t ht=>?_⟩
  have s6:=same_new ht (.tup [V.ref p,V.ref r])
  have g6:=g5.keep s6
  have nt:t ≠ q:=fun z=>by rw [z,g5.at_] at ht; cases ht
  have np:p ≠ q:=fun z=>by rw [z,g2.at_] at hp; cases hp
  have nr:r ≠ q:=fun z=>by rw [z,g2.at_] at hr0; cases hr0
  refine ⟨q,_,_,rfl,rfl,g6.at_,line_lt (by omega),?_⟩
  exact ⟨ts ++ [(ms,es)],_,_,_,_,_,_,_,rfl,g6.push (sdat_mk (by rw [del_ne nt]; exact upd_same) (by rw [del_ne np]; exact s6 _ _ hp5) (by rw [del_ne nr]; exact s6 _ _ hr5)),by rw [List.length_append,et]; rfl,ok_snoc oks sok⟩
 ·rintro σ' H1 ⟨ts,ys,o3,o4,o5,o6,o7,o8,rfl,gr,et,oks⟩
  exact ⟨_,rfl,k _ ts _ gr.same gr.done (valid_of et oks)⟩
end
end Ws
namespace Ws
open PySem L2
section
variable {P:Program} {w:World} {K:PySem.W.Frag} {mg:Str→Option Value} {base:Heap}
seal L2.PSs L2.PS L2.PE L2.PA L2.PT L2.PG L2.PF L2.PI
def spCopy:Sp:=fun vs H Q _=>∃ (a:Addr) (W:World2),vs = [.ref a]∧DAt H (.ref a) (wdat W)∧W.length ≤ 1000∧∀ (v:V) (H':Hp),Same H H'→DAt H' v (wdat W)→Q v H'
theorem ok_copy_of {f:Addr} {fd:FuncData} (F:Fun K "_law_copy_of" "_law_copy_of" sd_copy_of f fd) (B:Blt mg):FnOk P w K mg base CX0 1 f fd ["_law_world"] spCopy:=by
 refine F.ok sc_copy_of (fun vs H Q E h=>?_) (fun cdv A outer s H vs Q E hr h=>?_)
 ·obtain ⟨a,W,rfl,_⟩:=h
  rfl
 obtain ⟨a,W,rfl,ha,hl,k⟩:=h
 obtain ⟨a',vs,e,hH,hv⟩:=DAt.lst_inv ha
 cases e
 have lv:=hv.length
 rw [List.length_map] at lv
 refine ⟨_,
  (pss_one (ps_ret (pe_comp rfl cs_copy_of_0 rfl rfl (pi_list (pv 0)) (fun _ _ _ _ _=>pg_name (i:=0) cs_copy_of_0.nd rfl (Or.inl rfl)) (fun _ _ _ _ _=>pf_nil) (fun _ _ _ _ _=>(pe_tup (pa_cons (pe_callTy ccall_list rfl B.list bList (pa_cons (pe_ix cix_tup (pv 0) pe_int (fun _ _=>rfl)) pa_nil)) (pa_cons (pe_callTy ccall_list rfl B.list bList (pa_cons (pe_ix cix_tup (pv 0) pe_int (fun _ _=>rfl)) pa_nil)) pa_nil))))))),?_⟩
 refine ⟨_,rfl,a,rfl,⟨_,SqL.of hH⟩,fun D hD=>?_⟩
 refine comp_over (xs:=vs) (fun i ys τ H'=>Grow sdat H H' D (W.take i) ys∧∃ v,τ = [v]) ⟨Grow.start hD,none,rfl⟩ (fun i ys τ H' _ h=>SqL.of (h.1.same _ _ hH)) ?_ ?_
 ·rintro i y ys τ H1 hy ⟨gr,v,rfl⟩
  have hi:i < W.length:=by rw [← lv]; exact (List.getElem?_eq_some_iff.mp hy).1
  obtain ⟨u,hu,du⟩:=hv.nth hi
  rw [hy] at hu
  cases hu
  obtain ⟨t,m,d,rfl,et,em,ed⟩:=sdat_inv du
  have sm:=gr.same
  have lg:=gr.len
  rw [List.length_take] at lg
  refine ⟨_,rfl,t,_,_,_,rfl,rfl,SqT.of (sm _ _ et),at0,m,_,rfl,.inl (SqL.of (sm _ _ em)),fun m2 hm2=>?_⟩
  have s2:=same_new hm2 (.lst (W[i].1.map V.int))
  refine ⟨_,rfl,t,_,_,_,rfl,rfl,SqT.of (s2 _ _ (sm _ _ et)),at1,d,_,rfl,.inl (SqL.of (s2 _ _ (sm _ _ ed))),fun d2 hd2=>?_⟩
  have s3:=same_new hd2 (.lst (W[i].2.map V.int))
  refine ⟨line_le (by show 2 ≤ 16000000; decide),fun t2 ht2=>?_⟩
  have s4:=same_new ht2 (.tup [V.ref m2,V.ref d2])
  have g2:=gr.keep (s2.trans (s3.trans s4))
  have nm:m2 ≠ D:=fun z=>by rw [z,gr.at_] at hm2; cases hm2
  have nd:d2 ≠ D:=fun z=>by rw [z,s2 _ _ gr.at_] at hd2; cases hd2
  have nt:t2 ≠ D:=fun z=>by rw [z,s3 _ _ (s2 _ _ gr.at_)] at ht2; cases ht2
  have e1:=(s3.trans s4) _ _ (upd_same:upd H1 m2 (.lst (W[i].1.map V.int)) m2 = _)
  have e2:=s4 _ _ (upd_same:upd (upd H1 m2 (.lst (W[i].1.map V.int))) d2 (.lst (W[i].2.map V.int)) d2 = _)
  refine ⟨g2.at_,line_lt (by omega),?_,_,rfl⟩
  have g3:=g2.push (v:=.ref t2) (t:=W[i]) (sdat_mk (by rw [del_ne nt]; exact upd_same) (by rw [del_ne nm]; exact e1) (by rw [del_ne nd]; exact e2))
  have et:W.take (i + 1) = W.take i ++ [W[i]]:=by rw [List.take_add_one,List.getElem?_eq_getElem hi]; rfl
  rw [et]
  exact g3
 ·rintro ys τ H1 ⟨gr,v,rfl⟩
  rw [lv,List.take_length] at gr
  exact k _ _ gr.same gr.done
def spOthers (K:PySem.W.Frag):Sp:=fun vs H Q _=>∃ (a b:Addr) (ns:List Int) (W:World2) (n:Nat),vs = [.ref a,.ref b]∧SqL K H a (ns.map V.int)∧ns.length ≤ 1000000∧DAt H (.ref b) (wdat W)∧Valid n 100 W∧n ≤ 1000 ∧
 ∀ (v:V) (W':World2) (H':Hp),Same H H'→DAt H' v (wdat W')→Valid n 200 W'→Q v H'
theorem ok_with_others {f g h:Addr} {fd gd hd':FuncData} (F:Fun K "_law_with_others" "_law_with_others" sd_with_others f fd) (B:Blt mg) (G_at:FnOk P w K mg base CX0 1 g gd ["_law_script","_law_k"] (spAt K)) (M_at:MG K mg "_law_at" ["_law_script","_law_k"] g gd)
  (G_first_mark:FnOk P w K mg base CX0 2 h hd' ["_law_script"] (spMark K)) (M_first_mark:MG K mg "_law_first_mark" ["_law_script"] h hd'):FnOk P w K mg base CX0 3 f fd ["_law_script","_law_world"] (spOthers K):=by
 refine F.ok sc_with_others (fun vs H Q E h=>?_) (fun cdv A outer s H vs Q E hr h=>?_)
 ·obtain ⟨a,b,ns,W,n,rfl,_⟩:=h
  rfl
 obtain ⟨a,b,ns,W,n,rfl,hS,hl,hb,hW,hn,k⟩:=h
 obtain ⟨b',us,e,hB,hv⟩:=DAt.lst_inv hb
 cases e
 have lv:=hv.length
 rw [List.length_map] at lv
 have lW:=hW.len
 refine ⟨_,
  (pss_cons (ps_set (i:=2) sc_with_others.nd rfl (Or.inl rfl) (pe_lst pa_nil))
  (pss_cons (ps_for PassesOwn.never rfl (pi_range1 rfl B.range (pa_cons (pe_callB call_len_seq rfl B.len PySem.boot_len (pa_cons (pv 1) pa_nil)) pa_nil)) (pg_name (i:=3) sc_with_others.nd rfl (Or.inl rfl))
  (pss_cons (ps_set (i:=4) sc_with_others.nd rfl (Or.inl rfl) (pe_op op_mod (pe_op op_add (pe_cm G_at M_at hr rfl (pa_cons (pv 0) (pa_cons pe_int pa_nil))) (pv 3)) pe_int))
  (pss_cons (ps_comp (i:=5) sc_with_others.nd rfl rfl rfl cs_with_others_0 rfl rfl (pi_range1 rfl B.range (pa_cons (pv 4) pa_nil)) (fun _ _ _ _ _=>pg_name (i:=0) cs_with_others_0.nd rfl (Or.inl rfl)) (fun _ _ _ _ _=>pf_nil) (fun _ _ _ _ _=>(pe_op op_add (pe_op op_add (pe_cm G_first_mark M_first_mark hr rfl (pa_cons (pv 1) pa_nil)) pe_int) (pv 0))))
  (pss_one (ps_expr (pe_bm PySem.F.plainAttrs_list PySem.F.slot_list_append PySem.F.type_list_append mt_append (pv 2) (pa_cons (pe_tup (pa_cons (pe_op op_cat (pe_op op_cat (pe_slice sl_list (pv 5) po_none (po_some pe_int)) (pe_ix ix_tup (pe_ix ix_list (pv 1) (pv 3) (fun _ _=>rfl)) pe_int (fun _ _=>rfl))) (pe_slice sl_list (pv 5) (po_some pe_int) po_none)) (pa_cons (pe_ix ix_tup (pe_ix ix_list (pv 1) (pv 3) (fun _ _=>rfl)) pe_int (fun _ _=>rfl)) pa_nil))) pa_nil)))))))
  (pss_one (ps_ret (pv 2))))),?_⟩
 refine ⟨line0,fun q hq=>?_⟩
 have s0:=same_new hq (.lst [])
 refine ⟨_,rfl,b,us,rfl,.inl (SqL.of (s0 _ _ hB)),_,rfl,by omega,by omega,for_range (lo:=0) (n:=us.length) (fun i σ' H'=>∃ (ts:World2) (ys:List V) (o3 o4 o5:Option V),σ' = [some (.ref a),some (.ref b),some (.ref q),o3,o4,o5]∧Grow sdat H H' q ts ys∧ts.length = i∧∀ t ∈ ts,StOk n 200 t)
  ⟨[],[],none,none,none,rfl,Grow.start hq,rfl,fun _ h=>by cases h⟩ ?_ ?_⟩
 ·rintro i σ' H1 hi ⟨ts,ys,o3,o4,o5,rfl,gr,et,oks⟩
  have hiW:i < W.length:=by omega
  obtain ⟨u,hu,du⟩:=hv.nth hiW
  obtain ⟨t,m,d,rfl,ett,em,ed⟩:=sdat_inv du
  have hWi:=hW.all _ (List.getElem_mem hiW)
  refine ⟨_,rfl,a,ns,27,rfl,gr.same.seq hS,hl,fun z H2 s2=>?_⟩
  refine ⟨_,rfl,_,_,rfl,rfl,_,_,rfl,rfl,(by show (0:Int) < 7; decide),?_⟩
  have g2:=gr.keep s2
  refine ⟨_,rfl,_,rfl,?_,?_,fun D hD=>?_⟩
  ·have:=Int.emod_nonneg (z + (0 + (i:Int))) (show (7:Int) ≠ 0 by decide)
   show -(2 ^ 62) ≤ (z + (0 + (i:Int))) % 7
   omega
  ·have:=Int.emod_lt_of_pos (z + (0 + (i:Int))) (show (0:Int) < 7 by decide)
   show (z + (0 + (i:Int))) % 7 < 2 ^ 62
   omega
  have h7:((z + (0 + (i:Int))) % 7).toNat ≤ 6:=by
   have:=Int.emod_lt_of_pos (z + (0 + (i:Int))) (show (0:Int) < 7 by decide)
   omega
  refine comp_range (fun j es τ H'=>∃ zs:List Int,zs.length = j∧es = zs.map V.int∧H' D = some (.lst es)∧Same H2 H'∧∃ v,τ = [v,some (.ref a)]) ⟨[],rfl,rfl,upd_same,same_new hD _,none,rfl⟩ ?_ ?_
  ·rintro j es τ H3 hj ⟨zs,ez,rfl,hD3,s3,v,rfl⟩
   have lz:(zs.map V.int).length = j:=by rw [List.length_map,ez]
   refine ⟨_,rfl,a,ns,rfl,(g2.same.trans s3).seq hS,hl,fun y H4 s4=>?_⟩
   refine ⟨_,_,rfl,rfl,_,rfl,_,_,rfl,rfl,s4 _ _ hD3,line_lt (by omega),?_⟩
   refine ⟨zs ++ [y + 2 + (0 + (j:Int))],?_,?_,upd_same,same_upd (s3.trans s4) hD _,_,rfl⟩
   ·rw [List.length_append,ez]; rfl
   ·rw [List.map_append]; rfl
  rintro es τ H3 ⟨zs,ez,rfl,hD3,s3,v,rfl⟩
  have g3:=g2.keep s3
  have lz:(zs.map V.int).length = zs.length:=List.length_map _
  have cut3:cutV (zs.map V.int) none (some 3) = (zs.take 3).map V.int:=by rw [List.map_take]; exact cut_to _ 3
  have cut4:cutV (zs.map V.int) (some 3) none = (zs.drop 3).map V.int:=by rw [List.map_drop]; exact cut_from _ 3
  refine ⟨_,rfl,.inl ⟨rfl,_,SqL.of g3.at_⟩,_,rfl,_,rfl,D,_,rfl,SqL.of hD3,fun c1 hc1=>?_⟩
  rw [cut3]
  have s4:=same_new hc1 (.lst ((zs.take 3).map V.int))
  have e1:upd H3 c1 (.lst ((zs.take 3).map V.int)) c1 = some (.lst ((zs.take 3).map V.int)):=upd_same
  generalize upd H3 c1 (.lst ((zs.take 3).map V.int)) = H4 at s4 e1
  have S4:=g3.same.trans s4
  refine ⟨_,rfl,_,rfl,b,us,_,_,rfl,rfl,SqL.of (S4 _ _ hB),atI_of hu (by omega),t,_,_,_,rfl,rfl,SqT.of (S4 _ _ ett),at0,c1,m,_,_,rfl,rfl,e1,S4 _ _ em,?_,fun c2 hc2=>?_⟩
  ·rw [List.length_map,List.length_map,List.length_take]
   exact line_le (by have:=hWi.2.2.1; omega)
  have s5:=same_new hc2 (.lst ((zs.take 3).map V.int ++ W[i].1.map V.int))
  have e2:upd H4 c2 (.lst ((zs.take 3).map V.int ++ W[i].1.map V.int)) c2 = some (.lst ((zs.take 3).map V.int ++ W[i].1.map V.int)):=upd_same
  generalize upd H4 c2 (.lst ((zs.take 3).map V.int ++ W[i].1.map V.int)) = H5 at s5 e2
  refine ⟨_,rfl,_,rfl,D,_,rfl,SqL.of ((s4.trans s5) _ _ hD3),fun c3 hc3=>?_⟩
  rw [cut4]
  have s6:=same_new hc3 (.lst ((zs.drop 3).map V.int))
  have e3:upd H5 c3 (.lst ((zs.drop 3).map V.int)) c3 = some (.lst ((zs.drop 3).map V.int)):=upd_same
  generalize upd H5 c3 (.lst ((zs.drop 3).map V.int)) = H6 at s6 e3
  refine ⟨c2,c3,_,_,rfl,rfl,s6 _ _ e2,e3,?_,fun c4 hc4=>?_⟩
  ·rw [List.length_append,List.length_map,List.length_map,List.length_map,List.length_take,List.length_drop]
   exact line_le (by have:=hWi.2.2.1; omega)
  have em4:(zs.take 3).map V.int ++ W[i].1.map V.int ++ (zs.drop 3).map V.int = (zs.take 3 ++ W[i].1 ++ zs.drop 3).map V.int:=by rw [List.map_append,List.map_append]
  rw [em4]
  have s7:=same_new hc4 (.lst ((zs.take 3 ++ W[i].1 ++ zs.drop 3).map V.int))
  have e4:upd H6 c4 (.lst ((zs.take 3 ++ W[i].1 ++ zs.drop 3).map V.int)) c4 = some (.lst ((zs.take 3 ++ W[i].1 ++ zs.drop 3).map V.int)):=upd_same
  have n4:c4 ≠ q:=fun z=>by rw [z,(s4.trans (s5.trans s6)) _ _ g3.at_] at hc4; cases hc4
  generalize upd H6 c4 (.lst ((zs.take 3 ++ W[i].1 ++ zs.drop 3).map V.int)) = H7 at s7 e4
  have S7:=s4.trans (s5.trans (s6.trans s7))
  refine ⟨_,rfl,_,rfl,b,us,_,_,rfl,rfl,SqL.of ((g3.same.trans S7) _ _ hB),atI_of hu (by omega),t,_,_,_,rfl,rfl,SqT.of ((g3.same.trans S7) _ _ ett),at1,line_le (by show 2 ≤ 16000000; decide),fun t2 ht2=>?_⟩
  have s8:=same_new ht2 (.tup [V.ref c4,V.ref d])
  have n8:t2 ≠ q:=fun z=>by rw [z,S7 _ _ g3.at_] at ht2; cases ht2
  have g8:=g3.keep (S7.trans s8)
  have ly:=g8.len
  have nd:d ≠ q:=ne_of_none ed hq
  refine ⟨q,_,_,rfl,rfl,g8.at_,line_lt (by omega),?_⟩
  refine ⟨ts ++ [(zs.take 3 ++ W[i].1 ++ zs.drop 3,W[i].2)],_,_,_,_,rfl,g8.push (sdat_mk (by rw [del_ne n8]; exact upd_same) (by rw [del_ne n4]; exact s8 _ _ e4) (by rw [del_ne nd]; exact g8.same _ _ ed)),?_,ok_snoc oks ⟨hWi.1,hWi.2.1,?_,?_⟩⟩
  ·rw [List.length_append,et]; rfl
  ·show (zs.take 3 ++ W[i].1 ++ zs.drop 3).length ≤ 200
   rw [List.length_append,List.length_append,List.length_take,List.length_drop]
   have:=hWi.2.2.1
   omega
  ·have:=hWi.2.2.2
   show W[i].2.length ≤ 200
   omega
 ·rintro σ' H1 ⟨ts,ys,o3,o4,o5,rfl,gr,et,oks⟩
  refine ⟨_,rfl,?_⟩
  exact k _ ts _ gr.same gr.done (valid_of (by omega) oks)
def spArity:Sp:=fun vs H Q _=>∃ (p:Addr) (so:Str) (ks:List V),vs = [.ref p]∧H p = some (.tup (.str so :: ks))∧∀ H',Same H H'→Q (.int (arity so:Int)) H'
theorem ok_arity {f:Addr} {fd:FuncData} (F:Fun K "_law_arity" "_law_arity" sd_arity f fd) (B:Blt mg):FnOk P w K mg base CX0 1 f fd ["_law_part"] spArity:=by
 refine F.ok sc_arity (fun vs H Q E h=>?_) (fun cdv A outer s H vs Q E hr h=>?_)
 ·obtain ⟨p,so,ks,rfl,_⟩:=h
  rfl
 obtain ⟨p,so,ks,rfl,hp,q⟩:=h
 refine ⟨_,
  (pss_cons (ps_if (pt_cmpR op_eq (pe_ix ix_tup (pv 0) pe_int (fun _ _=>rfl)) pe_str (nomark _))
  (pss_one (ps_ret pe_int))
  pss_nil)
  (pss_one (ps_ret (pe_op op_add pe_int (pe_callTy call_int1 rfl B.int bInt (pa_cons (pe_cmpR op_in_seq (pe_ix ix_tup (pv 0) pe_int (fun _ _=>rfl)) (pe_lst (pa_cons pe_str (pa_cons pe_str (pa_cons pe_str pa_nil)))) rfl) pa_nil)))))),?_⟩
 unfold arity at q
 refine ⟨_,rfl,p,_,_,_,rfl,rfl,SqT.of hp,at0,rfl,_,rfl,itS (fun e=>?_) (fun e=>?_)⟩
 ·rw [if_pos e] at q
  exact q H (Same.refl _)
 ·rw [if_neg e] at q
  refine ⟨_,rfl,p,_,_,_,rfl,rfl,SqT.of hp,at0,line_le (by show 3 ≤ 16000000; decide),fun l hl=>?_⟩
  refine ⟨l,_,rfl,.inl (SqL.of upd_same),rfl,rfl,.inr ⟨_,rfl,_,_,rfl,rfl,?_⟩⟩
  have q:=q _ (same_new hl (.lst [V.str "and",V.str "or",V.str "until"]))
  cases h:inV (.str so) [.str "and",.str "or",.str "until"] with
  | true=>rw [h] at q; exact q
  | false=>rw [h] at q; exact q
def spBefore:Sp:=fun vs H Q _=>∃ (wa ra:Addr) (who:Str) (n b:Nat) (W:World2) (row:List Bool),vs = [.ref wa,.str who,.ref ra]∧DAt H (.ref wa) (wdat W)∧Valid n b W∧n ≤ 1000∧b ≤ 1000∧H ra = some (.lst (row.map V.bl))∧row.length = n ∧
 ∀ (fa:Addr) (H':Hp),Same H H'→H' fa = some (.lst ((bfR W who row).map V.bl))→Q (.ref fa) H'
theorem ok_before {f:Addr} {fd:FuncData} (F:Fun K "_law_before" "_law_before" sd_before f fd):FnOk P w K mg base CX0 1 f fd ["_law_world","_law_who","_law_row"] spBefore:=by
 refine F.ok sc_before (fun vs H Q E h=>?_) (fun cdv A outer s H vs Q E hr h=>?_)
 ·obtain ⟨wa,ra,who,n,b,W,row,rfl,_⟩:=h
  rfl
 obtain ⟨wa,ra,who,n,b,W,row,rfl,hWd,hW,hn,hb,hR,lr,q⟩:=h
 refine ⟨_,
  (pss_cons (ps_set (i:=3) sc_before.nd rfl (Or.inl rfl) (pe_lst pa_nil))
  (pss_cons (ps_for PassesOwn.never rfl (pi_list (pv 0)) (pg_name (i:=4) sc_before.nd rfl (Or.inl rfl))
  (pss_cons (ps_comp (i:=5) sc_before.nd rfl rfl rfl cs_before_0 rfl rfl (pi_list (pe_ix ix_tup (pv 4) pe_int (fun _ _=>rfl))) (fun _ _ _ _ _=>pg_name (i:=0) cs_before_0.nd rfl (Or.inl rfl)) (fun _ _ _ _ _=>pf_nil) (fun _ _ _ _ _=>(pe_ix cix_list (pv 1) (pv 0) (fun _ _=>rfl))))
  (pss_one (ps_if (pt_cmpR op_eq (pv 1) pe_str (nomark _))
  (pss_one (ps_expr (pe_bm PySem.F.plainAttrs_list PySem.F.slot_list_append PySem.F.type_list_append mt_append (pv 3) (pa_cons (pe_cmpR op_in_seq pe_bl (pv 5) rfl) pa_nil))))
  (pss_one (ps_expr (pe_bm PySem.F.plainAttrs_list PySem.F.slot_list_append PySem.F.type_list_append mt_append (pv 3) (pa_cons (pe_cmpR op_notIn_seq pe_bl (pv 5) rfl) pa_nil))))))))
  (pss_one (ps_ret (pv 3))))),?_⟩
 obtain ⟨wa',ws,e,hA,hw⟩:=DAt.lst_inv hWd
 cases e
 have lw:=hw.length
 rw [List.length_map] at lw
 have lW:=hW.len
 refine ⟨line0,fun p hp=>?_⟩
 have s1:=same_new hp (.lst [])
 refine ⟨_,rfl,wa,rfl,⟨_,SqL.of (s1 _ _ hA)⟩,for_list (K:=K) (a:=wa) (xs:=ws)
  (fun i σ' H'=>∃ o4 o5,σ' = [some (.ref wa),some (.str who),some (.ref ra),some (.ref p),o4,o5]∧Same H H'∧H' p = some (.lst (((W.take i).map (bfS who row)).map V.bl)))
  ⟨none,none,rfl,s1,upd_same⟩ (fun i σ' H' _ ⟨_,_,_,sm,_⟩=>SqL.of (sm _ _ hA)) ?_ ?_⟩
 ·rintro i y σ' H1 hy ⟨o4,o5,rfl,sm,hp1⟩
  have hi:i < W.length:=by rw [← lw]; exact (List.getElem?_eq_some_iff.mp hy).1
  obtain ⟨u,eu,du⟩:=(hw.mono sm).nth hi
  rw [hy] at eu
  cases eu
  obtain ⟨t,m,d,rfl,et,em,ed⟩:=sdat_inv du
  obtain ⟨ne,inn,few1,few⟩:=hW.all W[i] (List.getElem_mem hi)
  refine ⟨_,rfl,t,_,_,_,rfl,rfl,SqT.of et,at1,d,rfl,⟨_,SqL.of ed⟩,fun D hD=>?_⟩
  refine comp_over (xs:=W[i].2.map V.int) (fun j ys τ H'=>Same H1 H'∧H' D = some (.lst ys)∧ys = ((W[i].2.map fun d=>row.getD d.toNat false).take j).map V.bl∧∃ v,τ = [v,some (.ref ra)]) ⟨same_new hD _,upd_same,rfl,none,rfl⟩ (fun i ys τ H' _ h=>SqL.of (h.1 _ _ ed)) ?_ ?_
  ·rintro j y ys τ H2 hy2 ⟨s2,hD2,rfl,v,rfl⟩
   obtain ⟨x,rfl,hx⟩:=int_mem hy2
   have hj:=(List.getElem?_eq_some_iff.mp hx).1
   obtain ⟨x0,x1⟩:=inn x (List.mem_of_getElem? hx)
   have rl:atI (row.map V.bl) x = some (V.bl (row.getD x.toNat false)):=by
    rw [getD_eq (by omega)]
    exact atI_of (map_nth (by omega)) (by omega)
   refine ⟨_,rfl,_,rfl,ra,_,_,_,rfl,rfl,SqL.of (s2 _ _ (sm _ _ hR)),rl,hD2,?_,same_upd s2 hD _,upd_same,?_,_,rfl⟩
   ·rw [List.length_map,List.length_take,List.length_map]
    exact line_lt (by omega)
   ·rw [List.take_add_one,List.getElem?_map,hx,List.map_append]
    rfl
  rintro ys τ H2 ⟨s2,hD2,rfl,v,rfl⟩
  rw [List.length_map,← List.length_map (f:=fun d:Int=>row.getD d.toNat false),List.take_length] at hD2
  have hp2:=s2 _ _ hp1
  have tk:∀ x:Bool,x = bfS who row W[i]→((W.take i).map (bfS who row)).map V.bl ++ [V.bl x] = ((W.take (i + 1)).map (bfS who row)).map V.bl:=fun x e=>by
   rw [List.take_add_one,List.getElem?_eq_getElem hi,List.map_append,List.map_append,e]
   rfl
  have fw:(((W.take i).map (bfS who row)).map V.bl).length ≤ 1000:=by
   rw [List.length_map,List.length_map,List.length_take]
   omega
  refine ⟨_,rfl,rfl,_,rfl,itS (fun e=>?_) (fun e=>?_)⟩
  ·refine ⟨_,rfl,.inl ⟨rfl,_,SqL.of hp2⟩,_,rfl,D,_,rfl,.inl (SqL.of hD2),rfl,flat_bls,p,_,_,rfl,rfl,hp2,line_lt (by omega),?_⟩
   refine ⟨_,_,rfl,same_upd (sm.trans s2) hp _,?_⟩
   rw [upd_same]
   refine congrArg (fun z=>some (HO.lst z)) (tk _ ?_)
   unfold bfS
   rw [if_pos e,← inV_bl]
   rfl
  ·refine ⟨_,rfl,.inl ⟨rfl,_,SqL.of hp2⟩,_,rfl,D,_,rfl,.inl (SqL.of hD2),rfl,flat_bls,p,_,_,rfl,rfl,hp2,line_lt (by omega),?_⟩
   refine ⟨_,_,rfl,same_upd (sm.trans s2) hp _,?_⟩
   rw [upd_same]
   refine congrArg (fun z=>some (HO.lst z)) (tk _ ?_)
   unfold bfS
   rw [if_neg e,← inV_bl]
   rfl
 ·rintro σ' H1 ⟨o4,o5,rfl,sm,hp1⟩
  rw [lw,List.take_length] at hp1
  exact ⟨_,rfl,q p H1 sm hp1⟩
def spUnT:Sp:=fun vs H Q _=>∃ (wa la ra:Addr) (who:Str) (n b:Nat) (W:World2) (left right:List Bool),vs = [.ref wa,.str who,.ref la,.ref ra]∧DAt H (.ref wa) (wdat W)∧Valid n b W∧n ≤ 1000∧b ≤ 1000∧H la = some (.lst (left.map V.bl))∧left.length = n∧H ra = some (.lst (right.map V.bl))∧right.length = n ∧
 ∀ (fa:Addr) (H':Hp),Same H H'→H' fa = some (.lst ((unT W who left right).map V.bl))→Q (.ref fa) H'
theorem ok_until_truth {f g:Addr} {fd gd:FuncData} (F:Fun K "_law_until_truth" "_law_until_truth" sd_until_truth f fd) (B:Blt mg) (G_before:FnOk P w K mg base CX0 1 g gd ["_law_world","_law_who","_law_row"] spBefore) (M_before:MG K mg "_law_before" ["_law_world","_law_who","_law_row"] g gd) :
  FnOk P w K mg base CX0 2 f fd ["_law_world","_law_who","_law_left","_law_right"] spUnT:=by
 refine F.ok sc_until_truth (fun vs H Q E h=>?_) (fun cdv A outer s H vs Q E hr h=>?_)
 ·obtain ⟨wa,la,ra,who,n,b,W,left,right,rfl,_⟩:=h
  rfl
 obtain ⟨wa,la,ra,who,n,b,W,left,right,rfl,hWd,hW,hn,hb,hL,ll,hR,lr,q⟩:=h
 refine ⟨_,
  (pss_cons (ps_set (i:=4) sc_until_truth.nd rfl (Or.inl rfl) (pe_callTy call_list_of rfl B.list bList (pa_cons (pv 3) pa_nil)))
  (pss_cons (ps_for PassesOwn.never rfl (pi_list (pv 0)) (pg_name (i:=5) sc_until_truth.nd rfl (Or.inl rfl))
  (pss_cons (ps_set (i:=6) sc_until_truth.nd rfl (Or.inr rfl) (pe_cm G_before M_before hr rfl (pa_cons (pv 0) (pa_cons (pv 1) (pa_cons (pv 4) pa_nil)))))
  (pss_one (ps_comp (i:=4) sc_until_truth.nd rfl rfl rfl cs_until_truth_0 rfl rfl (pi_range1 rfl B.range (pa_cons (pe_callB call_len_seq rfl B.len PySem.boot_len (pa_cons (pv 0) pa_nil)) pa_nil)) (fun _ _ _ _ _=>pg_name (i:=0) cs_until_truth_0.nd rfl (Or.inl rfl)) (fun _ _ _ _ _=>pf_nil) (fun _ _ _ _ _=>(pe_or (pe_ix cix_list (pv 3) (pv 0) (fun _ _=>rfl)) (pe_one (pe_and (pe_ix cix_list (pv 2) (pv 0) (fun _ _=>rfl)) (pe_one (pe_ix cix_list (pv 1) (pv 0) (fun _ _=>rfl)))))))))))
  (pss_one (ps_ret (pv 4))))),?_⟩
 obtain ⟨wa',ws,e,hA,hw⟩:=DAt.lst_inv hWd
 cases e
 have lw:=hw.length
 rw [List.length_map] at lw
 have lW:=hW.len
 refine ⟨_,rfl,ra,_,rfl,.inl (SqL.of hR),fun p hp=>?_⟩
 have s1:=same_new hp (.lst (right.map V.bl))
 refine ⟨_,rfl,wa,rfl,⟨_,SqL.of (s1 _ _ hA)⟩,for_list (K:=K) (a:=wa) (xs:=ws)
  (fun i σ' H'=>∃ (pn:Addr) (o4 o5:Option V),σ' = [some (.ref wa),some (.str who),some (.ref la),some (.ref ra),some (.ref pn),o4,o5]∧Same H H'∧H' pn = some (.lst ((itN' (unS W who left right) i right).map V.bl)))
  ⟨p,none,none,rfl,s1,upd_same⟩ (fun i σ' H' _ ⟨_,_,_,_,sm,_⟩=>SqL.of (sm _ _ hA)) ?_ ?_⟩
 ·rintro i y σ' H1 hy ⟨pn,o4,o5,rfl,sm,hp1⟩
  have ln:(itN' (unS W who left right) i right).length = n:=itN_len (fun x=>by rw [unS_len,lW]) lr i
  generalize hnow:itN' (unS W who left right) i right = now at hp1 ln
  refine ⟨_,rfl,_,rfl,_,rfl,wa,pn,who,n,b,W,now,rfl,hWd.mono sm,hW,hn,hb,hp1,ln,fun aa H2 s2 ha=>?_⟩
  have S2:=sm.trans s2
  refine ⟨_,rfl,wa,_,rfl,.inl (SqL.of (S2 _ _ hA)),_,rfl,by omega,by omega,fun D hD=>?_⟩
  refine comp_range (lo:=0) (n:=ws.length) (fun j es τ H'=>es = ((List.range j).map (unG W who left right now)).map V.bl∧H' D = some (.lst es)∧Same H2 H'∧∃ v,τ = [v,some (.ref aa),some (.ref la),some (.ref ra)]) ⟨rfl,upd_same,same_new hD _,none,rfl⟩ ?_ ?_
  ·rintro j es τ H3 hj ⟨rfl,hD3,s3,v,rfl⟩
   have lz:(((List.range j).map (unG W who left right now)).map V.bl).length = j:=by rw [List.length_map,List.length_map,List.length_range]
   have i1:atI (right.map V.bl) (0 + (j:Int)) = some (V.bl (right.getD j false)):=by rw [Int.zero_add]; exact row_at (H:=H) (a:=wa) (by omega)
   have i0:atI (left.map V.bl) (0 + (j:Int)) = some (V.bl (left.getD j false)):=by rw [Int.zero_add]; exact row_at (H:=H) (a:=wa) (by omega)
   have i2:atI ((bfR W who now).map V.bl) (0 + (j:Int)) = some (V.bl ((bfR W who now).getD j false)):=by rw [Int.zero_add]; exact row_at (H:=H) (a:=wa) (by rw [bfR_len]; omega)
   refine ⟨_,rfl,_,rfl,ra,_,_,_,rfl,rfl,SqL.of (s3 _ _ (S2 _ _ hR)),i1,_,rfl,?_⟩
   cases h1:right.getD j false with
   | true=>exact iteT ⟨hD3,line_lt (by omega),range_more _ _ (by unfold unG; rw [h1]; rfl),upd_same,same_upd s3 hD _,_,rfl⟩
   | false =>
    refine iteF ⟨_,rfl,_,rfl,la,_,_,_,rfl,rfl,SqL.of (s3 _ _ (S2 _ _ hL)),i0,_,rfl,?_⟩
    cases h2:left.getD j false with
    | false=>exact iteF ⟨hD3,line_lt (by omega),range_more _ _ (by unfold unG; rw [h1,h2]; rfl),upd_same,same_upd s3 hD _,_,rfl⟩
    | true=>exact iteT ⟨_,rfl,_,rfl,aa,_,_,_,rfl,rfl,SqL.of (s3 _ _ ha),i2,hD3,line_lt (by omega),range_more _ _ (by unfold unG; rw [h1,h2]; rfl),upd_same,same_upd s3 hD _,_,rfl⟩
  ·rintro es τ H3 ⟨rfl,hD3,s3,v,rfl⟩
   refine ⟨D,_,_,rfl,S2.trans s3,?_⟩
   rw [hD3,lw]
   show _ = some (HO.lst ((unS W who left right (itN' (unS W who left right) i right)).map V.bl))
   rw [hnow]
   rfl
 ·rintro σ' H1 ⟨pn,o4,o5,rfl,sm,hp1⟩
  rw [lw] at hp1
  exact ⟨_,rfl,q pn H1 sm hp1⟩
def spAlT:Sp:=fun vs H Q _=>∃ (wa ra:Addr) (who:Str) (n b:Nat) (W:World2) (here:List Bool),vs = [.ref wa,.str who,.ref ra]∧DAt H (.ref wa) (wdat W)∧Valid n b W∧n ≤ 1000∧b ≤ 1000∧H ra = some (.lst (here.map V.bl))∧here.length = n ∧
 ∀ (fa:Addr) (H':Hp),Same H H'→H' fa = some (.lst ((alT W who here).map V.bl))→Q (.ref fa) H'
theorem ok_always_truth {f g:Addr} {fd gd:FuncData} (F:Fun K "_law_always_truth" "_law_always_truth" sd_always_truth f fd) (B:Blt mg) (G_before:FnOk P w K mg base CX0 1 g gd ["_law_world","_law_who","_law_row"] spBefore) (M_before:MG K mg "_law_before" ["_law_world","_law_who","_law_row"] g gd) :
  FnOk P w K mg base CX0 2 f fd ["_law_world","_law_who","_law_here"] spAlT:=by
 refine F.ok sc_always_truth (fun vs H Q E h=>?_) (fun cdv A outer s H vs Q E hr h=>?_)
 ·obtain ⟨wa,ra,who,n,b,W,here,rfl,_⟩:=h
  rfl
 obtain ⟨wa,ra,who,n,b,W,here,rfl,hWd,hW,hn,hb,hR,lr,q⟩:=h
 refine ⟨_,
  (pss_cons (ps_set (i:=3) sc_always_truth.nd rfl (Or.inl rfl) (pe_callTy call_list_of rfl B.list bList (pa_cons (pv 2) pa_nil)))
  (pss_cons (ps_for PassesOwn.never rfl (pi_list (pv 0)) (pg_name (i:=4) sc_always_truth.nd rfl (Or.inl rfl))
  (pss_cons (ps_set (i:=5) sc_always_truth.nd rfl (Or.inr rfl) (pe_cm G_before M_before hr rfl (pa_cons (pv 0) (pa_cons (pv 1) (pa_cons (pv 3) pa_nil)))))
  (pss_one (ps_comp (i:=3) sc_always_truth.nd rfl rfl rfl cs_always_truth_0 rfl rfl (pi_range1 rfl B.range (pa_cons (pe_callB call_len_seq rfl B.len PySem.boot_len (pa_cons (pv 0) pa_nil)) pa_nil)) (fun _ _ _ _ _=>pg_name (i:=0) cs_always_truth_0.nd rfl (Or.inl rfl)) (fun _ _ _ _ _=>pf_nil) (fun _ _ _ _ _=>(pe_and (pe_ix cix_list (pv 2) (pv 0) (fun _ _=>rfl)) (pe_one (pe_ix cix_list (pv 1) (pv 0) (fun _ _=>rfl)))))))))
  (pss_one (ps_ret (pv 3))))),?_⟩
 obtain ⟨wa',ws,e,hA,hw⟩:=DAt.lst_inv hWd
 cases e
 have lw:=hw.length
 rw [List.length_map] at lw
 have lW:=hW.len
 refine ⟨_,rfl,ra,_,rfl,.inl (SqL.of hR),fun p hp=>?_⟩
 have s1:=same_new hp (.lst (here.map V.bl))
 refine ⟨_,rfl,wa,rfl,⟨_,SqL.of (s1 _ _ hA)⟩,for_list (K:=K) (a:=wa) (xs:=ws)
  (fun i σ' H'=>∃ (pn:Addr) (o4 o5:Option V),σ' = [some (.ref wa),some (.str who),some (.ref ra),some (.ref pn),o4,o5]∧Same H H'∧H' pn = some (.lst ((itN' (alS W who here) i here).map V.bl)))
  ⟨p,none,none,rfl,s1,upd_same⟩ (fun i σ' H' _ ⟨_,_,_,_,sm,_⟩=>SqL.of (sm _ _ hA)) ?_ ?_⟩
 ·rintro i y σ' H1 hy ⟨pn,o4,o5,rfl,sm,hp1⟩
  have ln:(itN' (alS W who here) i here).length = n:=itN_len (fun x=>by rw [alS_len,lW]) lr i
  generalize hnow:itN' (alS W who here) i here = now at hp1 ln
  refine ⟨_,rfl,_,rfl,_,rfl,wa,pn,who,n,b,W,now,rfl,hWd.mono sm,hW,hn,hb,hp1,ln,fun aa H2 s2 ha=>?_⟩
  have S2:=sm.trans s2
  refine ⟨_,rfl,wa,_,rfl,.inl (SqL.of (S2 _ _ hA)),_,rfl,by omega,by omega,fun D hD=>?_⟩
  refine comp_range (lo:=0) (n:=ws.length) (fun j es τ H'=>es = ((List.range j).map (alG W who here now)).map V.bl∧H' D = some (.lst es)∧Same H2 H'∧∃ v,τ = [v,some (.ref aa),some (.ref ra)]) ⟨rfl,upd_same,same_new hD _,none,rfl⟩ ?_ ?_
  ·rintro j es τ H3 hj ⟨rfl,hD3,s3,v,rfl⟩
   have lz:(((List.range j).map (alG W who here now)).map V.bl).length = j:=by rw [List.length_map,List.length_map,List.length_range]
   have i1:atI (here.map V.bl) (0 + (j:Int)) = some (V.bl (here.getD j false)):=by rw [Int.zero_add]; exact row_at (H:=H) (a:=wa) (by omega)
   have i2:atI ((bfR W who now).map V.bl) (0 + (j:Int)) = some (V.bl ((bfR W who now).getD j false)):=by rw [Int.zero_add]; exact row_at (H:=H) (a:=wa) (by rw [bfR_len]; omega)
   refine ⟨_,rfl,_,rfl,ra,_,_,_,rfl,rfl,SqL.of (s3 _ _ (S2 _ _ hR)),i1,_,rfl,?_⟩
   cases h1:here.getD j false with
   | false=>exact iteF ⟨hD3,line_lt (by omega),range_more _ _ (by unfold alG; rw [h1]; rfl),upd_same,same_upd s3 hD _,_,rfl⟩
   | true=>exact iteT ⟨_,rfl,_,rfl,aa,_,_,_,rfl,rfl,SqL.of (s3 _ _ ha),i2,hD3,line_lt (by omega),range_more _ _ (by unfold alG; rw [h1]; rfl),upd_same,same_upd s3 hD _,_,rfl⟩
  ·rintro es τ H3 ⟨rfl,hD3,s3,v,rfl⟩
   refine ⟨D,_,_,rfl,S2.trans s3,?_⟩
   rw [hD3,lw]
   show _ = some (HO.lst ((alS W who here (itN' (alS W who here) i here)).map V.bl))
   rw [hnow]
   rfl
 ·rintro σ' H1 ⟨pn,o4,o5,rfl,sm,hp1⟩
  rw [lw] at hp1
  exact ⟨_,rfl,q pn H1 sm hp1⟩
def spAgT:Sp:=fun vs H Q _=>∃ (wa ra:Addr) (who:Str) (n b:Nat) (W:World2) (here:List Bool),vs = [.ref wa,.str who,.ref ra]∧DAt H (.ref wa) (wdat W)∧Valid n b W∧n ≤ 1000∧b ≤ 1000∧H ra = some (.lst (here.map V.bl))∧here.length = n ∧
 ∀ (fa:Addr) (H':Hp),Same H H'→H' fa = some (.lst ((agT W who here).map V.bl))→Q (.ref fa) H'
theorem ok_again_truth {f g h i:Addr} {fd gd hd' id':FuncData} (F:Fun K "_law_again_truth" "_law_again_truth" sd_again_truth f fd) (B:Blt mg) (G_before:FnOk P w K mg base CX0 1 g gd ["_law_world","_law_who","_law_row"] spBefore) (M_before:MG K mg "_law_before" ["_law_world","_law_who","_law_row"] g gd)
  (G_always_truth:FnOk P w K mg base CX0 2 h hd' ["_law_world","_law_who","_law_here"] spAlT) (M_always_truth:MG K mg "_law_always_truth" ["_law_world","_law_who","_law_here"] h hd')
  (G_until_truth:FnOk P w K mg base CX0 2 i id' ["_law_world","_law_who","_law_left","_law_right"] spUnT) (M_until_truth:MG K mg "_law_until_truth" ["_law_world","_law_who","_law_left","_law_right"] i id') :
  FnOk P w K mg base CX0 3 f fd ["_law_world","_law_who","_law_here"] spAgT:=by
 refine F.ok sc_again_truth (fun vs H Q E h=>?_) (fun cdv A outer s H vs Q E hr h=>?_)
 ·obtain ⟨wa,ra,who,n,b,W,here,rfl,_⟩:=h
  rfl
 obtain ⟨wa,ra,who,n,b,W,here,rfl,hWd,hW,hn,hb,hR,lr,q⟩:=h
 refine ⟨_,
  (pss_cons (ps_set (i:=3) sc_again_truth.nd rfl (Or.inl rfl) (pe_op op_rep (pe_lst (pa_cons pe_bl pa_nil)) (pe_callB call_len_seq rfl B.len PySem.boot_len (pa_cons (pv 0) pa_nil))))
  (pss_cons (ps_if (pt_cmpR op_eq (pv 1) pe_str (nomark _))
  (pss_one (ps_ret (pe_cm G_always_truth M_always_truth hr rfl (pa_cons (pv 0) (pa_cons pe_str (pa_cons (pe_cm G_until_truth M_until_truth hr rfl (pa_cons (pv 0) (pa_cons pe_str (pa_cons (pv 3) (pa_cons (pv 2) pa_nil))))) pa_nil))))))
  pss_nil)
  (pss_cons (ps_set (i:=4) sc_again_truth.nd rfl (Or.inl rfl) (pv 3))
  (pss_cons (ps_for PassesOwn.never rfl (pi_list (pv 0)) (pg_name (i:=5) sc_again_truth.nd rfl (Or.inl rfl))
  (pss_cons (ps_set (i:=6) sc_again_truth.nd rfl (Or.inr rfl) (pe_cm G_before M_before hr rfl (pa_cons (pv 0) (pa_cons pe_str (pa_cons (pv 4) pa_nil)))))
  (pss_cons (ps_comp (i:=7) sc_again_truth.nd rfl rfl rfl cs_again_truth_0 rfl rfl (pi_range1 rfl B.range (pa_cons (pe_callB call_len_seq rfl B.len PySem.boot_len (pa_cons (pv 0) pa_nil)) pa_nil)) (fun _ _ _ _ _=>pg_name (i:=0) cs_again_truth_0.nd rfl (Or.inl rfl)) (fun _ _ _ _ _=>pf_nil) (fun _ _ _ _ _=>(pe_and (pe_ix cix_list (pv 2) (pv 0) (fun _ _=>rfl)) (pe_one (pe_ix cix_list (pv 1) (pv 0) (fun _ _=>rfl))))))
  (pss_one (ps_set (i:=4) sc_again_truth.nd rfl (Or.inl rfl) (pe_cm G_until_truth M_until_truth hr rfl (pa_cons (pv 0) (pa_cons pe_str (pa_cons (pv 3) (pa_cons (pv 7) pa_nil))))))))))
  (pss_one (ps_ret (pv 4))))))),?_⟩
 obtain ⟨wa',ws,e,hA,hw⟩:=DAt.lst_inv hWd
 cases e
 have lw:=hw.length
 rw [List.length_map] at lw
 have lW:=hW.len
 refine ⟨line_le (by show 1 ≤ 16000000; decide),fun l2 hl2=>?_⟩
 have s2:=same_new hl2 (.lst [V.bl true])
 have e2:upd H l2 (.lst [V.bl true]) l2 = some (.lst [V.bl true]):=upd_same
 generalize upd H l2 (.lst [V.bl true]) = H2 at s2 e2
 refine ⟨_,rfl,wa,ws,rfl,.inl (SqL.of (s2 _ _ hA)),l2,_,_,rfl,rfl,e2,(by omega),(by omega),line_le (by show 1 * ws.length ≤ _; omega),fun l3 hl3=>?_⟩
 have eu:((ws.length:Int)).toNat = ws.length:=rfl
 rw [eu,rep_true,lw]
 have s3:=same_new hl3 (.lst ((List.replicate W.length true).map V.bl))
 have e3:upd H2 l3 (.lst ((List.replicate W.length true).map V.bl)) l3 = some (.lst ((List.replicate W.length true).map V.bl)):=upd_same
 generalize upd H2 l3 (.lst ((List.replicate W.length true).map V.bl)) = H3 at s3 e3
 have S3:=s2.trans s3
 have lev:(List.replicate W.length true).length = n:=by rw [List.length_replicate]; exact lW
 unfold agT at q
 refine ⟨_,rfl,rfl,_,rfl,itS (fun e=>?_) (fun e=>?_)⟩
 ·rw [if_pos e] at q
  refine ⟨_,rfl,_,rfl,_,rfl,_,rfl,wa,l3,ra,"all",n,b,W,_,here,rfl,hWd.mono S3,hW,hn,hb,e3,lev,S3 _ _ hR,lr,fun fa H4 s4 h4=>?_⟩
  exact ⟨wa,fa,"all",n,b,W,_,rfl,hWd.mono (S3.trans s4),hW,hn,hb,h4,by rw [unT_len (by omega)]; exact lW,fun f2 H5 s5 h5=>q f2 H5 (S3.trans (s4.trans s5)) h5⟩
 rw [if_neg e] at q
 refine ⟨_,rfl,?_⟩
 refine ⟨_,rfl,wa,rfl,⟨_,SqL.of (S3 _ _ hA)⟩,for_list (K:=K) (a:=wa) (xs:=ws)
  (fun i σ' H'=>∃ (pn:Addr) (o5 o6 o7:Option V),σ' = [some (.ref wa),some (.str who),some (.ref ra),some (.ref l3),some (.ref pn),o5,o6,o7]∧Same H3 H'∧H' pn = some (.lst ((itN' (agS W here) i (List.replicate W.length true)).map V.bl)))
  ⟨l3,none,none,none,rfl,Same.refl _,e3⟩ (fun i σ' H' _ ⟨_,_,_,_,_,sm,_⟩=>SqL.of (sm _ _ (S3 _ _ hA))) ?_ ?_⟩
 ·rintro i y σ' H4 hy ⟨pn,o5,o6,o7,rfl,s4,hp1⟩
  have S4:=S3.trans s4
  have ln:(itN' (agS W here) i (List.replicate W.length true)).length = n:=itN_len (fun x=>by rw [agS_len,lW]) lev i
  generalize hnow:itN' (agS W here) i (List.replicate W.length true) = now at hp1 ln
  refine ⟨_,rfl,_,rfl,wa,pn,"some",n,b,W,now,rfl,hWd.mono S4,hW,hn,hb,hp1,ln,fun aa H5 s5 ha=>?_⟩
  have S5:=S4.trans s5
  refine ⟨_,rfl,wa,_,rfl,.inl (SqL.of (S5 _ _ hA)),_,rfl,by omega,by omega,fun D hD=>?_⟩
  refine comp_range (lo:=0) (n:=ws.length) (fun j es τ H'=>es = ((List.range j).map (alG W "some" here now)).map V.bl∧H' D = some (.lst es)∧Same H5 H'∧∃ v,τ = [v,some (.ref aa),some (.ref ra)]) ⟨rfl,upd_same,same_new hD _,none,rfl⟩ ?_ ?_
  ·rintro j es τ H6 hj ⟨rfl,hD3,s6,v,rfl⟩
   have lz:(((List.range j).map (alG W "some" here now)).map V.bl).length = j:=by rw [List.length_map,List.length_map,List.length_range]
   have i1:atI (here.map V.bl) (0 + (j:Int)) = some (V.bl (here.getD j false)):=by rw [Int.zero_add]; exact row_at (H:=H) (a:=wa) (by omega)
   have i2:atI ((bfR W "some" now).map V.bl) (0 + (j:Int)) = some (V.bl ((bfR W "some" now).getD j false)):=by rw [Int.zero_add]; exact row_at (H:=H) (a:=wa) (by rw [bfR_len]; omega)
   refine ⟨_,rfl,_,rfl,ra,_,_,_,rfl,rfl,SqL.of (s6 _ _ (S5 _ _ hR)),i1,_,rfl,?_⟩
   cases h1:here.getD j false with
   | false=>exact iteF ⟨hD3,line_lt (by omega),range_more _ _ (by unfold alG; rw [h1]; rfl),upd_same,same_upd s6 hD _,_,rfl⟩
   | true=>exact iteT ⟨_,rfl,_,rfl,aa,_,_,_,rfl,rfl,SqL.of (s6 _ _ ha),i2,hD3,line_lt (by omega),range_more _ _ (by unfold alG; rw [h1]; rfl),upd_same,same_upd s6 hD _,_,rfl⟩
  ·rintro es τ H6 ⟨rfl,hD3,s6,v,rfl⟩
   rw [lw] at hD3
   have S6:=S5.trans s6
   refine ⟨_,rfl,_,rfl,_,rfl,wa,l3,D,"some",n,b,W,_,alS W "some" here now,rfl,hWd.mono S6,hW,hn,hb,(s4.trans (s5.trans s6)) _ _ e3,lev,hD3,by rw [alS_len]; exact lW,fun fa H7 s7 h7=>?_⟩
   refine ⟨fa,_,_,_,rfl,s4.trans (s5.trans (s6.trans s7)),?_⟩
   rw [h7]
   show _ = some (HO.lst ((agS W here (itN' (agS W here) i (List.replicate W.length true))).map V.bl))
   rw [hnow]
   rfl
 ·rintro σ' H4 ⟨pn,o5,o6,o7,rfl,s4,hp1⟩
  rw [lw] at hp1
  exact ⟨_,rfl,q pn H4 (S3.trans s4) hp1⟩
def spWaT:Sp:=fun vs H Q _=>∃ (wa p rs:Addr) (n b:Nat) (W:World2) (so wh:Str) (k0:V) (ks:List V) (rows:List (List Bool)),vs = [.ref wa,.ref p,.ref rs]∧DAt H (.ref wa) (wdat W)∧Valid n b W∧n ≤ 1000∧b ≤ 1000∧H p = some (.tup (.str so :: .str wh :: k0 :: ks))∧Rows H rs n rows∧0 < rows.length∧(so = "until"→1 < rows.length) ∧
 ∀ (fa:Addr) (H':Hp),Same H H'→H' fa = some (.lst ((waT W so wh rows).map V.bl))→Q (.ref fa) H'
theorem ok_way_truth {f g h i j:Addr} {fd gd hd' id' jd:FuncData} (F:Fun K "_law_way_truth" "_law_way_truth" sd_way_truth f fd) (B:Blt mg) (G_before:FnOk P w K mg base CX0 1 g gd ["_law_world","_law_who","_law_row"] spBefore) (M_before:MG K mg "_law_before" ["_law_world","_law_who","_law_row"] g gd)
  (G_always_truth:FnOk P w K mg base CX0 2 h hd' ["_law_world","_law_who","_law_here"] spAlT) (M_always_truth:MG K mg "_law_always_truth" ["_law_world","_law_who","_law_here"] h hd')
  (G_until_truth:FnOk P w K mg base CX0 2 i id' ["_law_world","_law_who","_law_left","_law_right"] spUnT) (M_until_truth:MG K mg "_law_until_truth" ["_law_world","_law_who","_law_left","_law_right"] i id')
  (G_again_truth:FnOk P w K mg base CX0 3 j jd ["_law_world","_law_who","_law_here"] spAgT) (M_again_truth:MG K mg "_law_again_truth" ["_law_world","_law_who","_law_here"] j jd) :
  FnOk P w K mg base CX0 4 f fd ["_law_world","_law_part","_law_rows"] spWaT:=by
 refine F.ok sc_way_truth (fun vs H Q E h=>?_) (fun cdv A outer s H vs Q E hr h=>?_)
 ·obtain ⟨wa,p,rs,n,b,W,so,wh,k0,ks,rows,rfl,_⟩:=h
  rfl
 obtain ⟨wa,p,rs,n,b,W,so,wh,k0,ks,rows,rfl,hWd,hW,hn,hb,hp,RS,r0,r1,q⟩:=h
 refine ⟨_,
  (pss_cons (ps_asg (pe_slice sl_tup (pv 1) po_none (po_some pe_int)) (pg_tup (n:=2) rfl (pgs_cons (pg_name (i:=3) sc_way_truth.nd rfl (Or.inl rfl)) (pgs_cons (pg_name (i:=4) sc_way_truth.nd rfl (Or.inl rfl)) pgs_nil))))
  (pss_cons (ps_set (i:=5) sc_way_truth.nd rfl (Or.inl rfl) (pe_ix ix_list (pv 2) pe_int (fun _ _=>rfl)))
  (pss_cons (ps_if (pt_cmpR op_eq (pv 3) pe_str (nomark _))
  (pss_one (ps_ret (pe_cm G_before M_before hr rfl (pa_cons (pv 0) (pa_cons (pv 4) (pa_cons (pv 5) pa_nil))))))
  pss_nil)
  (pss_cons (ps_if (pt_cmpR op_eq (pv 3) pe_str (nomark _))
  (pss_one (ps_ret (pe_cm G_until_truth M_until_truth hr rfl (pa_cons (pv 0) (pa_cons (pv 4) (pa_cons (pv 5) (pa_cons (pe_ix ix_list (pv 2) pe_int (fun _ _=>rfl)) pa_nil)))))))
  pss_nil)
  (pss_cons (ps_if (pt_cmpR op_eq (pv 3) pe_str (nomark _))
  (pss_one (ps_ret (pe_cm G_until_truth M_until_truth hr rfl (pa_cons (pv 0) (pa_cons (pv 4) (pa_cons (pe_op op_rep (pe_lst (pa_cons pe_bl pa_nil)) (pe_callB call_len_seq rfl B.len PySem.boot_len (pa_cons (pv 0) pa_nil))) (pa_cons (pv 5) pa_nil)))))))
  pss_nil)
  (pss_cons (ps_if (pt_cmpR op_eq (pv 3) pe_str (nomark _))
  (pss_one (ps_ret (pe_cm G_always_truth M_always_truth hr rfl (pa_cons (pv 0) (pa_cons (pv 4) (pa_cons (pv 5) pa_nil))))))
  pss_nil)
  (pss_cons (ps_if (pt_cmpR op_eq (pv 3) pe_str (nomark _))
  (pss_one (ps_ret (pe_cm G_again_truth M_again_truth hr rfl (pa_cons (pv 0) (pa_cons (pv 4) (pa_cons (pv 5) pa_nil))))))
  pss_nil)
  (pss_cons (ps_set (i:=6) sc_way_truth.nd rfl (Or.inl rfl) (pe_ix ix_list (pe_lst (pa_cons pe_str (pa_cons pe_str pa_nil))) (pe_callTy call_int1 rfl B.int bInt (pa_cons (pe_cmpR op_eq (pv 4) pe_str (nomark _)) pa_nil)) (fun _ _=>rfl)))
  (pss_cons (ps_set (i:=7) sc_way_truth.nd rfl (Or.inl rfl) (pe_cm G_again_truth M_again_truth hr rfl (pa_cons (pv 0) (pa_cons (pv 6) (pa_cons (pe_comp rfl cs_way_truth_0 rfl rfl (pi_list (pv 5)) (fun _ _ _ _ _=>pg_name (i:=0) cs_way_truth_0.nd rfl (Or.inl rfl)) (fun _ _ _ _ _=>pf_nil) (fun _ _ _ _ _=>(pe_not (pv 0)))) pa_nil)))))
  (pss_one (ps_ret (pe_comp rfl cs_way_truth_1 rfl rfl (pi_list (pv 7)) (fun _ _ _ _ _=>pg_name (i:=0) cs_way_truth_1.nd rfl (Or.inl rfl)) (fun _ _ _ _ _=>pf_nil) (fun _ _ _ _ _=>(pe_not (pv 0))))))))))))))),?_⟩
 have lW:=hW.len
 obtain ⟨wa',ws,e,hA,hw⟩:=DAt.lst_inv hWd
 cases e
 have lw:=hw.length
 rw [List.length_map] at lw
 have ec:cutV (.str so :: .str wh :: k0 :: ks) none (some 2) = [.str so,.str wh]:=cut_to (.str so :: .str wh :: k0 :: ks) 2
 refine ⟨_,rfl,_,rfl,p,_,rfl,SqT.of hp,?_,fun p1 hp1=>?_⟩
 ·rw [HT.sIx_none]
  intro z
  have:=z.2
  rw [show ((2:Int)) = ((2:Nat):Int) from rfl,HT.sIx_nat] at this
  have h3:(V.str so :: V.str wh :: k0 :: ks).length = ks.length + 3:=rfl
  rw [h3] at this
  omega
 rw [ec]
 have s1:=same_new hp1 (.tup [V.str so,V.str wh])
 have h1:upd H p1 (.tup [V.str so,V.str wh]) p1 = some (.tup [V.str so,V.str wh]):=upd_same
 generalize upd H p1 (.tup [V.str so,V.str wh]) = H1 at s1 h1
 obtain ⟨us0,a0,h0,i0,ea0,la0⟩:=(RS.keep s1).nth r0
 refine ⟨p1,_,rfl,SqT.of h1,rfl,_,_,rfl,_,_,rfl,rfl,?_⟩
 refine ⟨_,rfl,rs,us0,_,_,rfl,rfl,SqL.of h0,i0,?_⟩
 have hW1:=hWd.mono s1
 have q1:∀ (fa:Addr) (H':Hp),Same H1 H'→H' fa = some (.lst ((waT W so wh rows).map V.bl))→Q (.ref fa) H':=fun fa H' s e=>q fa H' (s1.trans s) e
 have la0':(rows.getD 0 []).length = W.length:=by rw [lW]; exact la0
 unfold waT row0 row1 at q1
 refine ⟨_,rfl,rfl,_,rfl,itS (fun e=>?_) (fun e=>?_)⟩
 ·rw [if_pos e] at q1
  exact ⟨_,rfl,_,rfl,_,rfl,wa,a0,wh,n,b,W,_,rfl,hW1,hW,hn,hb,ea0,la0,q1⟩
 rw [if_neg e] at q1
 refine ⟨_,rfl,rfl,_,rfl,itS (fun e=>?_) (fun e=>?_)⟩
 ·rw [if_pos e] at q1
  obtain ⟨us1,a1,h1',i1,ea1,la1⟩:=(RS.keep s1).nth (r1 e)
  exact ⟨_,rfl,_,rfl,_,rfl,_,rfl,rs,us1,_,_,rfl,rfl,SqL.of h1',i1,wa,a0,a1,wh,n,b,W,_,_,rfl,hW1,hW,hn,hb,ea0,la0,ea1,la1,q1⟩
 rw [if_neg e] at q1
 refine ⟨_,rfl,rfl,_,rfl,itS (fun e=>?_) (fun e=>?_)⟩
 ·rw [if_pos e] at q1
  refine ⟨_,rfl,_,rfl,line_le (by show 1 ≤ 16000000; decide),fun l2 hl2=>?_⟩
  have s2:=same_new hl2 (.lst [V.bl true])
  have e2:upd H1 l2 (.lst [V.bl true]) l2 = some (.lst [V.bl true]):=upd_same
  generalize upd H1 l2 (.lst [V.bl true]) = H2 at s2 e2
  refine ⟨_,rfl,wa,ws,rfl,.inl (SqL.of (s2 _ _ (s1 _ _ hA))),l2,_,_,rfl,rfl,e2,(by omega),(by omega),line_le (by show 1 * ws.length ≤ _; omega),fun l3 hl3=>?_⟩
  have eu:((ws.length:Int)).toNat = ws.length:=rfl
  rw [eu,rep_true,lw]
  have s3:=same_new hl3 (.lst ((List.replicate W.length true).map V.bl))
  have e3:upd H2 l3 (.lst ((List.replicate W.length true).map V.bl)) l3 = some (.lst ((List.replicate W.length true).map V.bl)):=upd_same
  generalize upd H2 l3 (.lst ((List.replicate W.length true).map V.bl)) = H3 at s3 e3
  have S3:=s2.trans s3
  exact ⟨_,rfl,wa,l3,a0,wh,n,b,W,_,_,rfl,hW1.mono S3,hW,hn,hb,e3,by rw [List.length_replicate]; exact lW,S3 _ _ ea0,la0,fun fa H' s e=>q1 fa H' (S3.trans s) e⟩
 rw [if_neg e] at q1
 refine ⟨_,rfl,rfl,_,rfl,itS (fun e=>?_) (fun e=>?_)⟩
 ·rw [if_pos e] at q1
  exact ⟨_,rfl,_,rfl,_,rfl,wa,a0,wh,n,b,W,_,rfl,hW1,hW,hn,hb,ea0,la0,q1⟩
 rw [if_neg e] at q1
 refine ⟨_,rfl,rfl,_,rfl,itS (fun e=>?_) (fun e=>?_)⟩
 ·rw [if_pos e] at q1
  exact ⟨_,rfl,_,rfl,_,rfl,wa,a0,wh,n,b,W,_,rfl,hW1,hW,hn,hb,ea0,la0,q1⟩
 rw [if_neg e] at q1
 refine ⟨line_le (by show 2 ≤ 16000000; decide),fun l4 hl4=>?_⟩
 have s4:=same_new hl4 (.lst [V.str "some",V.str "all"])
 have e4:upd H1 l4 (.lst [V.str "some",V.str "all"]) l4 = some (.lst [V.str "some",V.str "all"]):=upd_same
 generalize upd H1 l4 (.lst [V.str "some",V.str "all"]) = H4 at s4 e4
 have em:atI [V.str "some",V.str "all"] (if decide (V.str wh = V.str "some") = true then 1 else 0) = some (.str (mate wh)):=by
  unfold mate
  by_cases e:wh = "some"
  ·rw [if_pos e,if_pos (decide_eq_true (congrArg V.str e))]
   exact at1
  ·rw [if_neg e,if_neg (fun z=>e (V.str.inj (of_decide_eq_true z)))]
   exact at0
 refine ⟨_,rfl,rfl,.inr ⟨_,rfl,l4,_,_,_,rfl,rfl,SqL.of e4,em,?_⟩⟩
 refine ⟨_,rfl,_,rfl,_,rfl,a0,rfl,⟨_,SqL.of (s4 _ _ ea0)⟩,fun D hD=>not_comp (s4 _ _ ea0) (by omega) hD fun H5 s5 hD5=>?_⟩
 have S5:=s4.trans s5
 refine ⟨wa,D,mate wh,n,b,W,_,rfl,hW1.mono S5,hW,hn,hb,hD5,by rw [List.length_map]; exact la0,fun fa H6 s6 h6=>?_⟩
 have lag:(agT W (mate wh) ((rows.getD 0 []).map not)).length ≤ 1000:=by
  rw [agT_len (by rw [List.length_map]; exact la0'),lW]
  exact hn
 refine ⟨_,rfl,fa,rfl,⟨_,SqL.of h6⟩,fun D2 hD2=>not_comp h6 lag hD2 fun H7 s7 hD7=>?_⟩
 exact q1 D2 H7 (S5.trans (s6.trans s7)) hD7
def spTrT:Sp:=fun vs H Q _=>∃ (wa p rs:Addr) (n b:Nat) (W:World2) (t:T) (rows:List (List Bool)),vs = [.ref wa,.ref p,.ref rs]∧DAt H (.ref wa) (wdat W)∧Valid n b W∧n ≤ 1000∧b ≤ 1000∧DAt H (.ref p) t.dat∧t.fit∧Rows H rs n rows∧rows.length = t.kids.length ∧
 ∀ (fa:Addr) (H':Hp),Same H H'→H' fa = some (.lst ((trT W t rows).map V.bl))→Q (.ref fa) H'
theorem ok_truth_of {f g:Addr} {fd gd:FuncData} (F:Fun K "_law_truth_of" "_law_truth_of" sd_truth_of f fd) (B:Blt mg)
  (G_way_truth:FnOk P w K mg base CX0 4 g gd ["_law_world","_law_part","_law_rows"] spWaT) (M_way_truth:MG K mg "_law_way_truth" ["_law_world","_law_part","_law_rows"] g gd) :
  FnOk P w K mg base CX0 5 f fd ["_law_world","_law_part","_law_rows"] spTrT:=by
 refine F.ok sc_truth_of (fun vs H Q E h=>?_) (fun cdv A outer s H vs Q E hr h=>?_)
 ·obtain ⟨wa,p,rs,n,b,W,t,rows,rfl,_⟩:=h
  rfl
 obtain ⟨wa,p,rs,n,b,W,t,rows,rfl,hWd,hW,hn,hb,hp,ft,RS,lr,q⟩:=h
 refine ⟨_,
  (pss_cons (ps_if (pt_cmpR op_eq (pe_ix ix_tup (pv 1) pe_int (fun _ _=>rfl)) pe_str (nomark _))
  (pss_one (ps_ret (pe_comp rfl cs_truth_of_0 rfl rfl (pi_list (pv 0)) (fun _ _ _ _ _=>pg_name (i:=0) cs_truth_of_0.nd rfl (Or.inl rfl)) (fun _ _ _ _ _=>pf_nil) (fun _ _ _ _ _=>(pe_cmpR cop_in (pe_ix cix_tup (pv 1) pe_int (fun _ _=>rfl)) (pe_ix cix_tup (pv 0) pe_int (fun _ _=>rfl)) rfl)))))
  pss_nil)
  (pss_cons (ps_if (pt_cmpR op_eq (pe_ix ix_tup (pv 1) pe_int (fun _ _=>rfl)) pe_str (nomark _))
  (pss_one (ps_ret (pe_comp rfl cs_truth_of_1 rfl rfl (pi_list (pe_ix ix_list (pv 2) pe_int (fun _ _=>rfl))) (fun _ _ _ _ _=>pg_name (i:=0) cs_truth_of_1.nd rfl (Or.inl rfl)) (fun _ _ _ _ _=>pf_nil) (fun _ _ _ _ _=>(pe_not (pv 0))))))
  pss_nil)
  (pss_cons (ps_if (pt_cmpR op_eq (pe_ix ix_tup (pv 1) pe_int (fun _ _=>rfl)) pe_str (nomark _))
  (pss_one (ps_ret (pe_comp rfl cs_truth_of_2 rfl rfl (pi_range1 rfl B.range (pa_cons (pe_callB call_len_seq rfl B.len PySem.boot_len (pa_cons (pv 0) pa_nil)) pa_nil)) (fun _ _ _ _ _=>pg_name (i:=0) cs_truth_of_2.nd rfl (Or.inl rfl)) (fun _ _ _ _ _=>pf_nil) (fun _ _ _ _ _=>(pe_and (pe_ix cix_list (pe_ix cix_list (pv 1) pe_int (fun _ _=>rfl)) (pv 0) (fun _ _=>rfl)) (pe_one (pe_ix cix_list (pe_ix cix_list (pv 1) pe_int (fun _ _=>rfl)) (pv 0) (fun _ _=>rfl))))))))
  pss_nil)
  (pss_cons (ps_if (pt_cmpR op_eq (pe_ix ix_tup (pv 1) pe_int (fun _ _=>rfl)) pe_str (nomark _))
  (pss_one (ps_ret (pe_comp rfl cs_truth_of_3 rfl rfl (pi_range1 rfl B.range (pa_cons (pe_callB call_len_seq rfl B.len PySem.boot_len (pa_cons (pv 0) pa_nil)) pa_nil)) (fun _ _ _ _ _=>pg_name (i:=0) cs_truth_of_3.nd rfl (Or.inl rfl)) (fun _ _ _ _ _=>pf_nil) (fun _ _ _ _ _=>(pe_or (pe_ix cix_list (pe_ix cix_list (pv 1) pe_int (fun _ _=>rfl)) (pv 0) (fun _ _=>rfl)) (pe_one (pe_ix cix_list (pe_ix cix_list (pv 1) pe_int (fun _ _=>rfl)) (pv 0) (fun _ _=>rfl))))))))
  pss_nil)
  (pss_one (ps_ret (pe_cm G_way_truth M_way_truth hr rfl (pa_cons (pv 0) (pa_cons (pv 1) (pa_cons (pv 2) pa_nil)))))))))),?_⟩
 have lW:=hW.len
 obtain ⟨wa',ws,e,hA,hw⟩:=DAt.lst_inv hWd
 cases e
 have lw:=hw.length
 rw [List.length_map] at lw
 obtain ⟨ks,ep,em,ew⟩:=part_at hp ft
 unfold trT row0 row1 at q
 refine ⟨_,rfl,p,_,_,_,rfl,rfl,SqT.of ep,at0,rfl,_,rfl,itS (fun e=>?_) (fun e1=>?_)⟩
 ·rw [if_pos e] at q
  rw [em e] at ep
  refine ⟨_,rfl,wa,rfl,⟨_,SqL.of hA⟩,fun D hD=>?_⟩
  refine comp_over (xs:=ws) (fun i ys τ H'=>Same H H'∧H' D = some (.lst ys)∧ys = ((W.map fun st=>decide (t.mk ∈ st.1)).take i).map V.bl∧∃ v,τ = [v,some (.ref p)]) ⟨same_new hD _,upd_same,rfl,none,rfl⟩ (fun i ys τ H' _ z=>SqL.of (z.1 _ _ hA)) ?_ ?_
  ·rintro i y ys τ H4 hy ⟨s4,hD3,rfl,v,rfl⟩
   have hi:i < W.length:=by rw [← lw]; exact (List.getElem?_eq_some_iff.mp hy).1
   obtain ⟨u,eu,du⟩:=(hw.mono s4).nth hi
   rw [hy] at eu
   cases eu
   obtain ⟨t2,m,d,rfl,et,em2,ed⟩:=sdat_inv du
   refine ⟨_,rfl,p,_,_,_,rfl,rfl,SqT.of (s4 _ _ ep),at1,_,rfl,t2,_,_,_,rfl,rfl,SqT.of et,at0,m,_,rfl,.inl (SqL.of em2),rfl,flat_ints,hD3,?_,same_upd s4 hD _,upd_same,?_,_,rfl⟩
   ·rw [List.length_map,List.length_take,List.length_map]
    exact line_lt (by omega)
   ·rw [List.take_add_one,List.getElem?_map,List.getElem?_eq_getElem hi,List.map_append]
    show _ ++ [V.bl (inV (.int t.mk) (W[i].1.map V.int))] = _
    rw [inV_int]
    rfl
  ·rintro ys τ H4 ⟨s4,hD4,rfl,v,rfl⟩
   rw [lw,← List.length_map (f:=fun st:List Int × List Int=>decide (t.mk ∈ st.1)),List.take_length] at hD4
   exact q D H4 s4 hD4
 rw [if_neg e1] at q
 have k0:0 < rows.length:=by rw [lr]; exact kids_pos ft e1
 obtain ⟨us0,a0,h0,i0,ea0,la0⟩:=RS.nth k0
 refine ⟨_,rfl,p,_,_,_,rfl,rfl,SqT.of ep,at0,rfl,_,rfl,itS (fun e=>?_) (fun e2=>?_)⟩
 ·rw [if_pos e] at q
  exact ⟨_,rfl,rs,us0,_,_,rfl,rfl,SqL.of h0,i0,a0,rfl,⟨_,SqL.of ea0⟩,fun D hD=>not_comp ea0 (by omega) hD fun H5 s5 hD5=>q D H5 s5 hD5⟩
 rw [if_neg e2] at q
 refine ⟨_,rfl,p,_,_,_,rfl,rfl,SqT.of ep,at0,rfl,_,rfl,itS (fun e=>?_) (fun e3=>?_)⟩
 ·rw [if_pos e] at q
  obtain ⟨us1,a1,h1,i1,ea1,la1⟩:=RS.nth (i:=1) (by rw [lr]; exact kids_two ft e1 e2 (plain_pl (.inr (.inl e))))
  refine ⟨_,rfl,wa,_,rfl,.inl (SqL.of hA),_,rfl,by omega,by omega,fun D hD=>?_⟩
  refine comp_range (lo:=0) (n:=ws.length) (fun j es τ H'=>es = ((List.range j).map (fun k=>(rows.getD 0 []).getD k false && (rows.getD 1 []).getD k false)).map V.bl∧H' D = some (.lst es)∧Same H H'∧∃ v,τ = [v,some (.ref rs)]) ⟨rfl,upd_same,same_new hD _,none,rfl⟩ ?_ ?_
  ·rintro j es τ H3 hj ⟨rfl,hD3,s3,v,rfl⟩
   have lz:(((List.range j).map (fun k=>(rows.getD 0 []).getD k false && (rows.getD 1 []).getD k false)).map V.bl).length = j:=by rw [List.length_map,List.length_map,List.length_range]
   have v0:atI ((rows.getD 0 []).map V.bl) (0 + (j:Int)) = some (V.bl ((rows.getD 0 []).getD j false)):=by rw [Int.zero_add]; exact row_at (H:=H) (a:=wa) (by omega)
   have v1:atI ((rows.getD 1 []).map V.bl) (0 + (j:Int)) = some (V.bl ((rows.getD 1 []).getD j false)):=by rw [Int.zero_add]; exact row_at (H:=H) (a:=wa) (by omega)
   refine ⟨_,rfl,rs,us0,_,_,rfl,rfl,SqL.of (s3 _ _ h0),i0,_,rfl,a0,_,_,_,rfl,rfl,SqL.of (s3 _ _ ea0),v0,_,rfl,?_⟩
   cases hb:(rows.getD 0 []).getD j false with
   | false=>exact iteF ⟨hD3,line_lt (by omega),range_more _ _ (by rw [hb]; rfl),upd_same,same_upd s3 hD _,_,rfl⟩
   | true=>exact iteT ⟨_,rfl,rs,us1,_,_,rfl,rfl,SqL.of (s3 _ _ h1),i1,_,rfl,a1,_,_,_,rfl,rfl,SqL.of (s3 _ _ ea1),v1,hD3,line_lt (by omega),range_more _ _ (by rw [hb]; rfl),upd_same,same_upd s3 hD _,_,rfl⟩
  ·rintro es τ H3 ⟨rfl,hD3,s3,v,rfl⟩
   rw [lw] at hD3
   exact q D H3 s3 hD3
 rw [if_neg e3] at q
 refine ⟨_,rfl,p,_,_,_,rfl,rfl,SqT.of ep,at0,rfl,_,rfl,itS (fun e=>?_) (fun e4=>?_)⟩
 ·rw [if_pos e] at q
  obtain ⟨us1,a1,h1,i1,ea1,la1⟩:=RS.nth (i:=1) (by rw [lr]; exact kids_two ft e1 e2 (plain_pl (.inr (.inr e))))
  refine ⟨_,rfl,wa,_,rfl,.inl (SqL.of hA),_,rfl,by omega,by omega,fun D hD=>?_⟩
  refine comp_range (lo:=0) (n:=ws.length) (fun j es τ H'=>es = ((List.range j).map (fun k=>(rows.getD 0 []).getD k false || (rows.getD 1 []).getD k false)).map V.bl∧H' D = some (.lst es)∧Same H H'∧∃ v,τ = [v,some (.ref rs)]) ⟨rfl,upd_same,same_new hD _,none,rfl⟩ ?_ ?_
  ·rintro j es τ H3 hj ⟨rfl,hD3,s3,v,rfl⟩
   have lz:(((List.range j).map (fun k=>(rows.getD 0 []).getD k false || (rows.getD 1 []).getD k false)).map V.bl).length = j:=by rw [List.length_map,List.length_map,List.length_range]
   have v0:atI ((rows.getD 0 []).map V.bl) (0 + (j:Int)) = some (V.bl ((rows.getD 0 []).getD j false)):=by rw [Int.zero_add]; exact row_at (H:=H) (a:=wa) (by omega)
   have v1:atI ((rows.getD 1 []).map V.bl) (0 + (j:Int)) = some (V.bl ((rows.getD 1 []).getD j false)):=by rw [Int.zero_add]; exact row_at (H:=H) (a:=wa) (by omega)
   refine ⟨_,rfl,rs,us0,_,_,rfl,rfl,SqL.of (s3 _ _ h0),i0,_,rfl,a0,_,_,_,rfl,rfl,SqL.of (s3 _ _ ea0),v0,_,rfl,?_⟩
   cases hb:(rows.getD 0 []).getD j false with
   | true=>exact iteT ⟨hD3,line_lt (by omega),range_more _ _ (by rw [hb]; rfl),upd_same,same_upd s3 hD _,_,rfl⟩
   | false=>exact iteF ⟨_,rfl,rs,us1,_,_,rfl,rfl,SqL.of (s3 _ _ h1),i1,_,rfl,a1,_,_,_,rfl,rfl,SqL.of (s3 _ _ ea1),v1,hD3,line_lt (by omega),range_more _ _ (by rw [hb]; rfl),upd_same,same_upd s3 hD _,_,rfl⟩
  ·rintro es τ H3 ⟨rfl,hD3,s3,v,rfl⟩
   rw [lw] at hD3
   exact q D H3 s3 hD3
 rw [if_neg e4] at q
 obtain ⟨k0',ks',ep3⟩:=part_at3 hp ft (not_plain e1 e2 e3 e4)
 exact ⟨_,rfl,_,rfl,_,rfl,wa,p,rs,n,b,W,t.so,t.wh,k0',ks',rows,rfl,hWd,hW,hn,hb,ep3,RS,k0,fun z=>by rw [lr]; exact kids_until ft z,q⟩
def spOn:Sp:=fun vs H Q _=>∃ (so:Str) (r v:Addr) (rows:List (List Bool)) (row:List Int) (bk n:Nat),vs = [.str so,.ref r,.ref v]∧DAt H (.ref r) (.lst (rows.map dbools))∧DAt H (.ref v) (.tup [dints row,.int (bk:Int)]) ∧
 0 < rows.length∧(rows.getD 0 []).length = n∧(so = "until"→1 < rows.length∧(rows.getD 1 []).length = n)∧(∀ x ∈ row,0 ≤ x∧x < (n:Int))∧row.length ≤ 10000∧bk < row.length∧∀ H',Same H H'→Q (.bl (onW so rows row bk)) H'
theorem ok_on_way {f:Addr} {fd:FuncData} (F:Fun K "_law_on_way" "_law_on_way" sd_on_way f fd):FnOk P w K mg base CX0 1 f fd ["_law_sort","_law_rows","_law_way"] spOn:=by
 refine F.ok sc_on_way (fun vs H Q E h=>?_) (fun cdv A outer s H vs Q E hr h=>?_)
 ·obtain ⟨so,r,v,rows,row,bk,n,rfl,_⟩:=h
  rfl
 obtain ⟨so,r,v,rows,row,bk,n,rfl,hr0,hv0,l0,ln,hun,inn,few,hbk,q⟩:=h
 obtain ⟨r',us,e,hR,hu⟩:=DAt.lst_inv hr0
 cases e
 obtain ⟨v',vs,e,hV,hvs⟩:=DAt.tup_inv hv0
 cases e
 cases hvs with | cons d1 hvs=>cases hvs with | cons d2 hvs =>
 cases hvs
 cases d2.int_inv
 obtain ⟨ro,rfl,hro⟩:=d1.ints_at
 have rowsAt:∀ (j:Nat),j < rows.length→∃ a,atI us (j:Int) = some (V.ref a)∧H a = some (.lst ((rows.getD j []).map V.bl)):=fun j hj=>by
  obtain ⟨u,eu,du⟩:=hu.nth hj
  obtain ⟨a,rfl,ea⟩:=du.bools_at
  exact ⟨a,atI_nat eu,by rw [getD_eq hj]; exact ea⟩
 obtain ⟨a0,e0,h0⟩:=rowsAt 0 l0
 have e0:atI us (0:Int) = some (V.ref a0):=e0
 have fin:∀ (x:Bool) (H':Hp),Same H H'→x = onW so rows row bk→Q (.bl x) H':=fun x H' s e=>by rw [e]; exact q H' s
 unfold onW at fin
 generalize hr00:rows.getD 0 [] = r0 at *
 have at_:∀ (l:List Bool) (k:Int),l.length = n→0 ≤ k→k < (n:Int)→atI (l.map V.bl) k = some (V.bl (l.getD k.toNat false)):=fun l k hl p0 p1=>by
  have:=row_at (H:=H) (a:=0) (l:=l) (k:=k.toNat) (by omega)
  have e:((k.toNat:Nat):Int) = k:=by omega
  rw [e] at this
  exact this
 refine ⟨_,
  (pss_cons (ps_asg (pv 2) (pg_tup (n:=2) rfl (pgs_cons (pg_name (i:=3) sc_on_way.nd rfl (Or.inl rfl)) (pgs_cons (pg_name (i:=4) sc_on_way.nd rfl (Or.inl rfl)) pgs_nil))))
  (pss_cons (ps_comp (i:=6) sc_on_way.nd rfl rfl rfl cs_on_way_0 rfl rfl (pi_list (pv 3)) (fun _ _ _ _ _=>pg_name (i:=0) cs_on_way_0.nd rfl (Or.inl rfl)) (fun _ _ _ _ _=>pf_nil) (fun _ _ _ _ _=>(pe_ix cix_list (pe_ix cix_list (pv 1) pe_int (fun _ _=>rfl)) (pv 0) (fun _ _=>rfl))))
  (pss_cons (ps_if (pt_cmpR op_eq (pv 0) pe_str (nomark _))
  (pss_one (ps_ret (pe_ix ix_list (pe_op op_cat (pv 6) (pe_slice sl_list (pv 6) (po_some (pv 4)) po_none)) pe_int (fun _ _=>rfl))))
  pss_nil)
  (pss_cons (ps_if (pt_cmpR op_eq (pv 0) pe_str (nomark _))
  (pss_cons (ps_for PassesOwn.never rfl (pi_list (pv 3)) (pg_name (i:=5) sc_on_way.nd rfl (Or.inl rfl))
  (pss_cons (ps_if (pt_val (pe_ix ix_list (pe_ix ix_list (pv 1) pe_int (fun _ _=>rfl)) (pv 5) (fun _ _=>rfl)))
  (pss_one (ps_ret pe_bl))
  pss_nil)
  (pss_one (ps_if (pt_not (pt_val (pe_ix ix_list (pe_ix ix_list (pv 1) pe_int (fun _ _=>rfl)) (pv 5) (fun _ _=>rfl))))
  (pss_one (ps_ret pe_bl))
  pss_nil))))
  (pss_one (ps_ret pe_bl)))
  pss_nil)
  (pss_cons (ps_if (pt_cmpR op_eq (pv 0) pe_str (nomark _))
  (pss_one (ps_ret (pe_cmpR op_in_seq pe_bl (pv 6) rfl)))
  pss_nil)
  (pss_cons (ps_if (pt_cmpR op_eq (pv 0) pe_str (nomark _))
  (pss_one (ps_ret (pe_cmpR op_notIn_seq pe_bl (pv 6) rfl)))
  pss_nil)
  (pss_cons (ps_if (pt_cmpR op_eq (pv 0) pe_str (nomark _))
  (pss_one (ps_ret (pe_cmpR op_in_seq pe_bl (pe_slice sl_list (pv 6) (po_some (pv 4)) po_none) rfl)))
  pss_nil)
  (pss_one (ps_ret (pe_cmpR op_notIn_seq pe_bl (pe_slice sl_list (pv 6) (po_some (pv 4)) po_none) rfl)))))))))),?_⟩
 refine ⟨_,rfl,v,_,rfl,SqT.of hV,rfl,_,_,rfl,_,_,rfl,rfl,?_⟩
 refine ⟨_,rfl,ro,rfl,⟨_,SqL.of hro⟩,fun D hD=>?_⟩
 refine comp_over (xs:=row.map V.int) (fun i ys τ H'=>Same H H'∧H' D = some (.lst ys)∧ys = (trOf r0 (row.take i)).map V.bl∧∃ v,τ = [v,some (.ref r)]) ⟨same_new hD _,upd_same,rfl,none,rfl⟩ (fun i ys τ H' _ h=>SqL.of (h.1 _ _ hro)) ?_ ?_
 ·rintro i y ys τ H1 hy ⟨s1,hD1,rfl,v',rfl⟩
  obtain ⟨e,rfl,he⟩:=int_mem hy
  have hi:=(List.getElem?_eq_some_iff.mp he).1
  obtain ⟨p0,p1⟩:=inn e (List.mem_of_getElem? he)
  refine ⟨_,rfl,r,us,_,_,rfl,rfl,SqL.of (s1 _ _ hR),e0,_,rfl,a0,_,_,_,rfl,rfl,SqL.of (s1 _ _ h0),at_ r0 e ln p0 p1,hD1,?_,same_upd s1 hD _,upd_same,?_,_,rfl⟩
  ·rw [List.length_map]
   unfold trOf
   rw [List.length_map,List.length_take]
   exact line_lt (by omega)
  ·unfold trOf
   rw [List.take_add_one,he,List.map_append,List.map_append]
   rfl
 rintro ys τ H1 ⟨s1,hD1,rfl,v',rfl⟩
 rw [List.length_map,List.take_length] at hD1
 have ltr:(trOf r0 row).length = row.length:=List.length_map _
 have cutb:cutV ((trOf r0 row).map V.bl) (some (bk:Int)) none = ((trOf r0 row).drop bk).map V.bl:=by rw [List.map_drop]; exact cut_from _ bk
 refine ⟨_,rfl,rfl,_,rfl,itS (fun hs=>?_) (fun hs=>?_)⟩
 ·-- next
  rw [if_pos hs] at fin
  refine ⟨_,rfl,_,rfl,_,rfl,_,rfl,D,_,rfl,SqL.of hD1,fun c1 hc1=>?_⟩
  rw [cutb]
  have s2:=same_new hc1 (.lst (((trOf r0 row).drop bk).map V.bl))
  refine ⟨D,c1,_,_,rfl,rfl,s2 _ _ hD1,upd_same,?_,fun c2 hc2=>?_⟩
  ·rw [List.length_map,List.length_map,List.length_drop,ltr]
   exact line_le (by omega)
  have s3:=same_new hc2 (.lst ((trOf r0 row).map V.bl ++ ((trOf r0 row).drop bk).map V.bl))
  have hl:1 < (trOf r0 row ++ (trOf r0 row).drop bk).length:=by rw [List.length_append,List.length_drop,ltr]; omega
  have e1:atI ((trOf r0 row).map V.bl ++ ((trOf r0 row).drop bk).map V.bl) (1:Int) = some (V.bl ((trOf r0 row ++ (trOf r0 row).drop bk).getD 1 false)):=by
   rw [← List.map_append]
   exact row_at (H:=H) (a:=0) hl
  exact ⟨c2,_,_,_,rfl,rfl,SqL.of upd_same,e1,fin _ _ (s1.trans (s2.trans s3)) rfl⟩
 rw [if_neg hs] at fin
 refine ⟨_,rfl,rfl,_,rfl,itS (fun hs=>?_) (fun hs=>?_)⟩
 ·-- until
  rw [if_pos hs] at fin
  obtain ⟨l1,ln1⟩:=hun hs
  obtain ⟨a1,e1,h1⟩:=rowsAt 1 l1
  have e1:atI us (1:Int) = some (V.ref a1):=e1
  generalize rows.getD 1 [] = r1 at *
  refine ⟨_,rfl,ro,rfl,⟨_,SqL.of (s1 _ _ hro)⟩,for_list (K:=K) (a:=ro) (xs:=row.map V.int) (fun i σ' H'=>(∃ o5,σ' = [some (.str so),some (.ref r),some (.ref v),some (.ref ro),some (.int (bk:Int)),o5,some (.ref D)])∧H' = H1∧untilB r0 r1 row = untilB r0 r1 (row.drop i))
   ⟨⟨_,rfl⟩,rfl,rfl⟩ (fun i σ' H' _ h=>by rw [h.2.1]; exact SqL.of (s1 _ _ hro)) ?_ ?_⟩
  ·rintro i y σ' H' hy ⟨⟨o5,rfl⟩,rfl,hun⟩
   obtain ⟨e,rfl,he⟩:=int_mem hy
   have hi:=(List.getElem?_eq_some_iff.mp he).1
   obtain ⟨p0,p1⟩:=inn e (List.mem_of_getElem? he)
   have dr:row.drop i = e :: row.drop (i + 1):=by
    rw [List.drop_eq_getElem_cons hi]
    congr 1
    exact (List.getElem?_eq_some_iff.mp he).2
   rw [dr] at hun
   have hun:untilB r0 r1 row = (if r1.getD e.toNat false then true else if r0.getD e.toNat false then untilB r0 r1 (row.drop (i + 1)) else false):=hun
   refine ⟨_,rfl,r,us,_,_,rfl,rfl,SqL.of (s1 _ _ hR),e1,_,rfl,a1,_,_,_,rfl,rfl,SqL.of (s1 _ _ h1),at_ r1 e ln1 p0 p1,_,rfl,?_⟩
   cases hb:r1.getD e.toNat false with
   | true =>
    rw [hb] at hun
    exact iteT (fin _ _ s1 hun.symm)
   | false =>
    rw [hb] at hun
    refine iteF ⟨_,rfl,r,us,_,_,rfl,rfl,SqL.of (s1 _ _ hR),e0,_,rfl,a0,_,_,_,rfl,rfl,SqL.of (s1 _ _ h0),at_ r0 e ln p0 p1,_,rfl,?_⟩
    cases hb0:r0.getD e.toNat false with
    | false =>
     rw [hb0] at hun
     exact ite2 (fun _=>fin _ _ s1 hun.symm) (fun z=>absurd rfl z)
    | true =>
     rw [hb0] at hun
     exact ite2 (fun z=>absurd z Bool.false_ne_true) (fun _=>⟨⟨_,rfl⟩,rfl,hun⟩)
  ·rintro σ' H' ⟨⟨o5,rfl⟩,rfl,hun⟩
   rw [List.length_map,List.drop_length] at hun
   exact fin _ _ s1 hun.symm
 rw [if_neg hs] at fin
 refine ⟨_,rfl,rfl,_,rfl,itS (fun hs=>?_) (fun hs=>?_)⟩
 ·rw [if_pos hs] at fin
  refine ⟨_,rfl,D,_,rfl,.inl (SqL.of hD1),rfl,flat_bls,fin _ _ s1 ?_⟩
  show inV (.bl true) _ = _
  rw [inV_bl]
 rw [if_neg hs] at fin
 refine ⟨_,rfl,rfl,_,rfl,itS (fun hs=>?_) (fun hs=>?_)⟩
 ·rw [if_pos hs] at fin
  refine ⟨_,rfl,D,_,rfl,.inl (SqL.of hD1),rfl,flat_bls,fin _ _ s1 ?_⟩
  show (!inV (.bl false) _) = _
  rw [inV_bl]
 rw [if_neg hs] at fin
 refine ⟨_,rfl,rfl,_,rfl,itS (fun hs=>?_) (fun hs=>?_)⟩
 ·rw [if_pos hs] at fin
  refine ⟨_,rfl,_,rfl,_,rfl,D,_,rfl,SqL.of hD1,fun c1 hc1=>?_⟩
  rw [cutb]
  refine ⟨c1,_,rfl,.inl (SqL.of upd_same),rfl,flat_bls,fin _ _ (s1.trans (same_new hc1 _)) ?_⟩
  show inV (.bl true) _ = _
  rw [inV_bl]
 ·rw [if_neg hs] at fin
  refine ⟨_,rfl,_,rfl,_,rfl,D,_,rfl,SqL.of hD1,fun c1 hc1=>?_⟩
  rw [cutb]
  refine ⟨c1,_,rfl,.inl (SqL.of upd_same),rfl,flat_bls,fin _ _ (s1.trans (same_new hc1 _)) ?_⟩
  show (!inV (.bl false) _) = _
  rw [inV_bl]
def spStep:Sp:=fun vs H Q _=>∃ (a c:Addr) (x:Int) (n b:Nat) (W:World2) (L:List Lb),vs = [.ref a,.ref c,.int x]∧DAt H (.ref a) (wdat W)∧Valid n b W∧DAt H (.ref c) (lsdat L)∧L.length = n∧0 ≤ x∧x < (n:Int)∧Q (.int (stp W L x)) H
theorem ok_step_from {f g:Addr} {fd gd:FuncData} (F:Fun K "step_from" "step_from" sd_step_from f fd) (G_doors_of:FnOk P w K mg base CX0 1 g gd ["world","place"] spDoors) (M_doors_of:MG K mg "doors_of" ["world","place"] g gd) :
  FnOk P w K mg base CX0 2 f fd ["world","labels","place"] spStep:=by
 refine F.ok sc_step_from (fun vs H Q E h=>?_) (fun cdv A outer s H vs Q E hr h=>?_)
 ·obtain ⟨a,c,x,n,b,W,L,rfl,_⟩:=h
  rfl
 obtain ⟨a,c,x,n,b,W,L,rfl,ha,hW,hc,hL,x0,x1,q⟩:=h
 obtain ⟨c',us,e,hC,hu⟩:=DAt.lst_inv hc
 cases e
 have hi:x.toNat < L.length:=by omega
 obtain ⟨u,eu,du⟩:=hu.nth hi
 obtain ⟨l,rfl,el⟩:=lbdat_inv du
 have eq:lbAt L x = L[x.toNat]:=getD_eq hi
 rw [← eq] at el
 refine ⟨_,
  (pss_cons (ps_set (i:=3) sc_step_from.nd rfl (Or.inl rfl) (pe_ix ix_tup (pe_ix ix_list (pv 1) (pv 2) (fun _ _=>rfl)) pe_int (fun _ _=>rfl)))
  (pss_one (ps_ret (pe_ifExp (pt_cmp (pc_isN (pv 3))) (pe_ix ix_list (pe_cm G_doors_of M_doors_of hr rfl (pa_cons (pv 0) (pa_cons (pv 2) pa_nil))) pe_int (fun _ _=>rfl)) (pv 3))))),?_⟩
 refine ⟨_,rfl,_,rfl,c,us,_,_,rfl,rfl,SqL.of hC,atI_of eu (by omega),l,_,_,_,rfl,rfl,SqT.of el,at2,?_⟩
 unfold stp at q
 cases hd:(lbAt L x).2.2 with
 | some d =>
  rw [hd] at q
  exact ⟨_,rfl,_,rfl,iteF ⟨_,rfl,q⟩⟩
 | none =>
  rw [hd] at q
  have kn:x.toNat < n:=by omega
  refine ⟨_,rfl,_,rfl,iteT ⟨_,rfl,_,rfl,a,x.toNat,W,by rw [show ((x.toNat:Nat):Int) = x by omega]; rfl,ha,by rw [hW.len]; exact kn,fun d hd=>?_⟩⟩
  have ne:=(dr_in hW kn).1
  cases e:dr W x.toNat with
  | nil=>exact absurd e ne
  | cons y r =>
   rw [e] at q hd
   exact ⟨d,_,_,_,rfl,rfl,SqL.of hd,at0,q⟩
def spFollow:Sp:=fun vs H Q _=>∃ (a c:Addr) (s:Int) (n b:Nat) (W:World2) (L:List Lb),vs = [.ref a,.ref c,.int s]∧DAt H (.ref a) (wdat W)∧Valid n b W∧n ≤ 1000∧DAt H (.ref c) (lsdat L)∧L.length = n∧(∀ k,k < n→lbOk (L.getD k default) (dr W k) = true)∧0 ≤ s∧s < (n:Int) ∧
 ∀ (q r:Addr) (row:List Int) (bk:Nat) (H':Hp),Same H H'→H' q = some (.tup [.ref r,.int (bk:Int)])→H' r = some (.lst (row.map V.int))→Fol n W L row bk→row[0]? = some s→row.length ≤ 1000→Q (.ref q) H'
theorem stp_in {n b:Nat} {W:World2} {L:List Lb} (hW:Valid n b W) (ok:∀ k,k < n→lbOk (L.getD k default) (dr W k) = true) {x:Int} (x0:0 ≤ x) (x1:x < (n:Int)):stp W L x ∈ dr W x.toNat:=by
 have kn:x.toNat < n:=by omega
 have q:=(Bool.and_eq_true_iff.mp (ok x.toNat kn)).2
 unfold stp lbAt
 cases hd:(L.getD x.toNat default).2.2 with
 | some d =>
  rw [hd] at q
  simp only [doorOk] at q
  simpa using q
 | none =>
  have ne:=(dr_in hW kn).1
  cases e:dr W x.toNat with
  | nil=>exact absurd e ne
  | cons y r=>simp
theorem ok_follow {f g:Addr} {fd gd:FuncData} (F:Fun K "follow" "follow" sd_follow f fd) (G_step_from:FnOk P w K mg base CX0 2 g gd ["world","labels","place"] spStep) (M_step_from:MG K mg "step_from" ["world","labels","place"] g gd) :
  FnOk P w K mg base CX0 3 f fd ["world","labels","state"] spFollow:=by
 refine F.ok sc_follow (fun vs H Q E h=>?_) (fun cdv A outer s H vs Q E hr h=>?_)
 ·obtain ⟨a,c,s,n,b,W,L,rfl,_⟩:=h
  rfl
 obtain ⟨a,c,s,n,b,W,L,rfl,ha,hW,hn,hc,hL,ok,s0,s1,k⟩:=h
 refine ⟨_,
  (pss_cons (ps_set (i:=3) sc_follow.nd rfl (Or.inl rfl) (pe_lst pa_nil))
  (pss_cons (ps_set (i:=4) sc_follow.nd rfl (Or.inl rfl) (pv 2))
  (pss_cons (ps_while PassesOwn.never (pt_cmpR op_notIn_seq (pv 4) (pv 3) rfl)
  (pss_cons (ps_expr (pe_bm PySem.F.plainAttrs_list PySem.F.slot_list_append PySem.F.type_list_append mt_append (pv 3) (pa_cons (pv 4) pa_nil)))
  (pss_one (ps_set (i:=4) sc_follow.nd rfl (Or.inl rfl) (pe_cm G_step_from M_step_from hr rfl (pa_cons (pv 0) (pa_cons (pv 1) (pa_cons (pv 4) pa_nil))))))))
  (pss_one (ps_ret (pe_tup (pa_cons (pv 3) (pa_cons (pe_bm PySem.F.plainAttrs_list PySem.F.slot_list_index PySem.F.type_list_index mt_index (pv 3) (pa_cons (pv 4) pa_nil)) pa_nil)))))))),?_⟩
 refine ⟨line0,fun q hq=>⟨_,rfl,?_⟩⟩
 have sq:=same_new hq (.lst [])
 refine ⟨fun m σ' H'=>∃ (r:List Int) (x:Int),m = missing n r∧σ' = [some (.ref a),some (.ref c),some (.int s),some (.ref q),some (.int x)]∧Same H H'∧H' q = some (.lst (r.map V.int))∧0 ≤ x∧x < (n:Int)∧(∀ z ∈ r,0 ≤ z∧z < (n:Int)) ∧
  (∀ (i:Nat) (u v:Int),(r ++ [x])[i]? = some u→(r ++ [x])[i + 1]? = some v→v = stp W L u)∧(r ++ [x])[0]? = some s∧r.length + missing n r ≤ n,
  ⟨_,[],s,rfl,rfl,sq,upd_same,s0,s1,(fun z hz=>by cases hz),(fun i u v _ hv=>by simp at hv),rfl,by have:=missing_le n []; show 0 + _ ≤ n; omega⟩,?_⟩
 rintro m σ' H2 ⟨r,x,rfl,rfl,sm,hq2,x0,x1,inn,go,r0,lr⟩
 refine ⟨_,rfl,_,rfl,q,_,rfl,.inl (SqL.of hq2),rfl,flat_ints,_,rfl,ite2 (fun cz=>?_) (fun cz=>?_)⟩
 ·have cz:(!inV (V.int x) (r.map V.int)) = true:=cz
  rw [inV_int] at cz
  have hx:¬ x ∈ r:=by simpa using cz
  have ml:=missing_lt x0 x1 hx
  refine ⟨_,fun _ _ h=>h,?_⟩
  refine ⟨_,rfl,.inl ⟨rfl,_,SqL.of hq2⟩,_,rfl,q,_,_,rfl,rfl,hq2,?_,?_⟩
  ·rw [List.length_map]
   exact line_lt (by omega)
  have S1:=same_upd sm hq (.lst (r.map V.int ++ [V.int x]))
  refine ⟨_,rfl,_,rfl,_,rfl,a,c,x,n,b,W,L,rfl,ha.mono S1,hW,hc.mono S1,hL,x0,x1,?_⟩
  obtain ⟨y0,y1⟩:=(dr_in hW (show x.toNat < n by omega)).2 _ (stp_in hW ok x0 x1)
  refine ⟨_,ml,r ++ [x],stp W L x,rfl,rfl,S1,by rw [upd_same,map_snoc],y0,y1,fun z hz=>?_,fun i u v hu hv=>?_,?_,?_⟩
  ·rcases List.mem_append.mp hz with hz | hz
   ·exact inn z hz
   ·rw [List.mem_singleton] at hz; rw [hz]; exact ⟨x0,x1⟩
  ·rcases snoc_get hv with ⟨hv,_⟩ | ⟨hi,e⟩
   ·rcases snoc_get hu with ⟨hu,_⟩ | ⟨hj,_⟩
    ·exact go i u v hu hv
    ·have:=(List.getElem?_eq_some_iff.mp hv).1
     omega
   ·rw [List.length_append] at hi
    have hi:i + 1 = r.length + 1:=hi
    rcases snoc_get hu with ⟨hu,_⟩ | ⟨hj,_⟩
    ·have el:i = r.length:=by omega
     subst el
     rw [List.getElem?_append_right (Nat.le_refl _),Nat.sub_self] at hu
     have hu:some x = some u:=hu
     cases hu
     exact e
    ·rw [List.length_append] at hj
     have hj:i = r.length + 1:=hj
     omega
  ·rw [List.getElem?_append_left (by rw [List.length_append]; show 0 < r.length + 1; omega)]
   exact r0
  ·rw [List.length_append]
   show r.length + 1 + _ ≤ n
   omega
 ·have cz:¬ (!inV (V.int x) (r.map V.int)) = true:=cz
  rw [inV_int] at cz
  have hx:x ∈ r:=Classical.byContradiction fun z=>cz (by rw [decide_eq_false z]; rfl)
  obtain ⟨jj,hj,hjx⟩:=find_mem hx
  refine ⟨_,rfl,_,rfl,.inl ⟨rfl,_,SqL.of hq2⟩,_,rfl,q,_,_,jj,rfl,rfl,hq2,rfl,flat_ints,hj,line_le (by show 2 ≤ 16000000; decide),fun t2 ht2=>?_⟩
  have s2:=same_new ht2 (.tup [V.ref q,V.int (jj:Int)])
  have hp:0 < r.length:=List.length_pos_of_mem hx
  have el:=List.getElem?_eq_getElem (show r.length - 1 < r.length by omega)
  have lx:=go (r.length - 1) _ x (by rw [List.getElem?_append_left (by omega)]; exact el) (by rw [show r.length - 1 + 1 = r.length by omega,List.getElem?_append_right (Nat.le_refl _),Nat.sub_self]; rfl)
  refine k t2 q r jj _ (sm.trans s2) upd_same (s2 _ _ hq2) ⟨inn,fun i u v hu hv=>go i u v ?_ ?_,_,el,by rw [← lx]; exact hjx⟩ ?_ (by omega)
  ·rw [List.getElem?_append_left (List.getElem?_eq_some_iff.mp hu).1]; exact hu
  ·rw [List.getElem?_append_left (List.getElem?_eq_some_iff.mp hv).1]; exact hv
  ·rw [List.getElem?_append_left hp] at r0; exact r0
def spWayFor (cS cW:Addr):Sp:=fun vs H Q E=>∃ (a p:Addr) (s:Int) (n b:Nat) (W:World2) (t:T),vs = [.ref a,.ref p,.int s]∧DAt H (.ref a) (wdat W)∧Valid n b W∧n ≤ 1000∧b ≤ 1000∧DAt H (.ref p) t.dat∧t.fit∧t.parts.length ≤ 1000 ∧
 (¬ (0 ≤ s∧s < (n:Int))→∀ H',Same H H'→E (.ref cS) none H') ∧
 (0 ≤ s→s < (n:Int)→(abB t = true→(trW W t).getD s.toNat false = !decide (t.wh = "some"))→∀ H',Same H H'→E (.ref cW) none H') ∧
 (0 ≤ s→s < (n:Int)→abB t = true→(trW W t).getD s.toNat false = decide (t.wh = "some")→∀ (q r:Addr) (row:List Int) (bk:Nat) (H':Hp),Same H H'→H' q = some (.tup [.ref r,.int (bk:Int)])→H' r = some (.lst (row.map V.int))→Path n W row→row[0]? = some s→row.length ≤ 1000→bk < row.length →
  (∃ x y st,row[row.length - 1]? = some x∧row[bk]? = some y∧W[x.toNat]? = some st∧y ∈ st.2)→onW t.so (t.kids.map (trW W)) row bk = decide (t.wh = "some")→Q (.ref q) H')
theorem ok_way_for {f f1 f2 f3 f4 f5 cS cW:Addr} {fd d1 d2 d3 d4 d5:FuncData} (F:Fun K "way_for" "way_for" sd_way_for f fd) (X_NoState:Xc K mg "NoState" cS) (X_NoWay:Xc K mg "NoWay" cW)
  (G_check_world:FnOk P w K mg base CX0 2 f1 d1 ["world"] spCheck) (M_check_world:MG K mg "check_world" ["world"] f1 d1) (G_is_state:FnOk P w K mg base CX0 1 f2 d2 ["world","number"] spIsState) (M_is_state:MG K mg "is_state" ["world","number"] f2 d2)
  (G_is_about_ways:FnOk P w K mg base CX0 1 f3 d3 ["sentence"] spAbout) (M_is_about_ways:MG K mg "is_about_ways" ["sentence"] f3 d3) (G_table_of:FnOk P w K mg base CX0 11 f4 d4 ["world","sentence"] spTableG) (M_table_of:MG K mg "table_of" ["world","sentence"] f4 d4)
  (G_follow:FnOk P w K mg base CX0 3 f5 d5 ["world","labels","state"] spFollow) (M_follow:MG K mg "follow" ["world","labels","state"] f5 d5):FnOk P w K mg base (CXe P w) 12 f fd ["world","sentence","state"] (spWayFor cS cW):=by
 refine F.okE sc_way_for (fun vs H Q E h=>?_) (fun cdv A outer s H vs Q E hr h=>?_)
 ·obtain ⟨a,p,s,n,b,W,t,rfl,_⟩:=h
  rfl
 obtain ⟨a,p,s,n,b,W,t,rfl,ha,hW,hn,hb,hp,hf,hl,kS,kW,kR⟩:=h
 obtain ⟨a',us,e,hA,hv⟩:=DAt.lst_inv ha
 cases e
 have lv:=hv.length
 rw [List.length_map,hW.len] at lv
 have one:[V.str ""].length ≤ sizeLine:=line_le (by show 1 ≤ 16000000; decide)
 refine ⟨_,
  (pss_cons (ps_expr (pe_cm G_check_world M_check_world hr rfl (pa_cons (pv 0) pa_nil)))
  (pss_cons (ps_if (pt_not (pt_val (pe_cm G_is_state M_is_state hr rfl (pa_cons (pv 0) (pa_cons (pv 2) pa_nil)))))
  (pss_one (ps_raise raises_cx rfl rfl X_NoState.mg X_NoState.ex (pa_cons pe_str pa_nil)))
  pss_nil)
  (pss_cons (ps_if (pt_not (pt_val (pe_cm G_is_about_ways M_is_about_ways hr rfl (pa_cons (pv 1) pa_nil))))
  (pss_one (ps_raise raises_cx rfl rfl X_NoWay.mg X_NoWay.ex (pa_cons pe_str pa_nil)))
  pss_nil)
  (pss_cons (ps_set (i:=3) sc_way_for.nd rfl (Or.inl rfl) (pe_ix ix_list (pe_cm G_table_of M_table_of hr rfl (pa_cons (pv 0) (pa_cons (pv 1) pa_nil))) (pe_un un_neg pe_int) (fun _ _=>rfl)))
  (pss_cons (ps_set (i:=4) sc_way_for.nd rfl (Or.inl rfl) (pe_cmpR op_eq (pe_ix ix_tup (pv 1) pe_int (fun _ _=>rfl)) pe_str (nomark _)))
  (pss_cons (ps_if (pt_cmpR op_ne (pe_ix ix_tup (pe_ix ix_list (pv 3) (pv 2) (fun _ _=>rfl)) pe_int (fun _ _=>rfl)) (pv 4) (nomark _))
  (pss_one (ps_raise raises_cx rfl rfl X_NoWay.mg X_NoWay.ex (pa_cons pe_str pa_nil)))
  pss_nil)
  (pss_one (ps_ret (pe_cm G_follow M_follow hr rfl (pa_cons (pv 0) (pa_cons (pv 3) (pa_cons (pv 2) pa_nil)))))))))))),?_⟩
 refine ⟨_,rfl,a,n,b,W,rfl,ha,hW,hn,?_⟩
 refine ⟨_,rfl,_,rfl,a,s,us,rfl,hA,_,rfl,?_⟩
 rw [lv]
 by_cases hs:0 ≤ s∧s < (n:Int)
 rotate_left
 ·have e:(decide (0 ≤ s) && decide (s < (n:Int))) = false:=by
   cases z:decide (0 ≤ s) && decide (s < (n:Int)) with
   | false=>rfl
   | true=>rw [Bool.and_eq_true,decide_eq_true_eq,decide_eq_true_eq] at z; exact absurd z hs
  rw [e]
  exact iteT ⟨one,kS hs H (Same.refl _)⟩
 obtain ⟨s0,s1⟩:=hs
 rw [decide_eq_true s0,decide_eq_true s1]
 refine iteF ⟨_,rfl,p,t,H,rfl,Same.refl H,hp,T.fit_ok hf,fun H1 sm1=>⟨_,rfl,?_⟩⟩
 cases hab:abB t with
 | false=>exact iteT ⟨one,kW s0 s1 (fun z=>by rw [hab] at z; cases z) H1 sm1⟩
 | true =>
  have hpl:plainB t.so = false:=by have:=ab_plain hf; rw [hab] at this; simpa using this.symm
  refine iteF ⟨_,rfl,_,rfl,a,p,n,b,W,t,rfl,ha.mono sm1,hW,hn,hb,hp.mono sm1,hf,hl,fun tb Ls us2 H2 g2 st=>?_⟩
  have sm2:=sm1.trans g2.same
  obtain ⟨A0,L,eL,okL,tL⟩:=stand_kids hW hf st
  subst eL
  obtain ⟨lL,lbs⟩:=ar_inv okL.1 hW
  have d2:=g2.items
  rw [List.map_append] at d2
  obtain ⟨us',u,rfl,_,du⟩:=d2.last
  obtain ⟨la,rfl⟩:=lst_ref du
  have dp2:=hp.mono sm2
  obtain ⟨ks,hP,_,hw⟩:=part_at dp2 hf
  obtain ⟨ks',rfl⟩:=hw hpl
  refine ⟨_,rfl,tb,_,_,_,rfl,rfl,SqL.of g2.at_,atI_last _ _,_,rfl,p,_,_,_,rfl,rfl,SqT.of hP,at1,rfl,?_⟩
  have dL:DAt H2 (.ref la) (lsdat L):=du
  obtain ⟨c',vs3,e3,hC,hu⟩:=DAt.lst_inv dL
  cases e3
  have hi:s.toNat < L.length:=by omega
  obtain ⟨u3,eu3,du3⟩:=hu.nth hi
  obtain ⟨l,rfl,el⟩:=lbdat_inv du3
  have tr:L[s.toNat].1 = (trW W t).getD s.toNat false:=by
   rw [← tL]
   have:(truths L).getD s.toNat false = (L.getD s.toNat default).1:=trs_at L s.toNat
   rw [this,getD_eq hi]
  rw [tr] at el
  refine ⟨_,rfl,_,rfl,la,_,_,_,rfl,rfl,SqL.of hC,atI_of eu3 (by omega),l,_,_,_,rfl,rfl,SqT.of el,at0,_,rfl,rfl,_,rfl,?_⟩
  have ew:decide (V.str t.wh = V.str "some") = decide (t.wh = "some"):=by
   by_cases h:t.wh = "some"
   ·rw [decide_eq_true h,decide_eq_true (congrArg V.str h)]
   ·rw [decide_eq_false h,decide_eq_false fun z=>h (V.str.inj z)]
  rw [ew,dec_bl2]
  by_cases hq:(trW W t).getD s.toNat false = decide (t.wh = "some")
  ·rw [decide_eq_true hq]
   refine iteF ⟨_,rfl,_,rfl,_,rfl,a,la,s,n,b,W,L,rfl,ha.mono sm2,hW,hn,dL,lL,lbs,s0,s1,fun q r row bk H3 s3 hq3 hr3 Fo r0 lr=>?_⟩
   obtain ⟨pa,cl⟩:=Fo.path hW fun x x0 x1=>stp_in hW lbs x0 x1
   have R:∀ k,k < n→waR t.so t.wh (t.kids.map (trW W)) L k (dr W k) = true:=fun k hk=>by
    have z:=List.all_eq_true.mp okL.2 k (List.mem_range.mpr (by rw [hW.len]; exact hk))
    unfold ptK at z
    rw [if_neg (by rw [hpl]; exact Bool.false_ne_true)] at z
    exact z
   have l0:(row0 (t.kids.map (trW W))).length = n:=by
    have kp:=kids_pos hf (by intro z; rw [z] at hpl; revert hpl; decide +kernel)
    unfold row0
    rw [getD_eq (by rw [List.length_map]; exact kp),List.getElem_map]
    exact trW_len hW (kid_fit hf (List.getElem_mem kp))
   have ht:(lbAt L s).1 = decide (t.wh = "some"):=by
    have:lbAt L s = L[s.toNat]:=getD_eq hi
    rw [this,tr]; exact hq
   exact kR s0 s1 hab hq q r row bk H3 (sm2.trans s3) hq3 hr3 pa r0 lr Fo.bk_lt cl (wa_fol lL l0 (six_of' hf hpl) lbs R Fo r0 ht)
  ·rw [decide_eq_false hq]
   refine iteT ⟨one,kW s0 s1 (fun _=>?_) H2 sm2⟩
   cases h1:(trW W t).getD s.toNat false <;> cases h2:decide (t.wh = "some") <;> first | rfl | (rw [h1,h2] at hq; exact absurd rfl hq)
def spRefused:Sp:=fun vs H Q _=>∃ x:Str,vs = [.str x,.str x]∧Q (.bl true) H
theorem ok_refused {f:Addr} {fd:FuncData} (F:Fun K "_law_refused" "_law_refused" sd_refused f fd) (B:Blt mg):FnOk P w K mg base CX0 1 f fd ["_law_found","_law_word"] spRefused:=by
 refine F.ok sc_refused (fun vs H Q E h=>?_) (fun cdv A outer s H vs Q E hr h=>?_)
 ·obtain ⟨x,rfl,_⟩:=h
  rfl
 obtain ⟨x,rfl,q⟩:=h
 refine ⟨_,
  (pss_one (ps_ret (pe_and (pe_callB call_is1 rfl B.isinst bIs (pa_cons (pv 0) (pa_cons (pe_bltn (v:=.ty "str") rfl B.str bStr rfl) pa_nil))) (pe_one (pe_cmpR op_eq (pv 0) (pv 1) (nomark _)))))),?_⟩
 refine ⟨_,rfl,_,_,_,_,rfl,.str x,o_ss,_,rfl,iteT ⟨_,rfl,_,rfl,rfl,?_⟩⟩
 rw [decide_eq_true rfl]
 exact q
def spAsked:Sp:=fun vs H Q _=>∃ (a p:Addr) (s:Int) (n b:Nat) (W:World2) (t:T),vs = [.ref a,.ref p,.int s]∧DAt H (.ref a) (wdat W)∧Valid n b W∧n ≤ 1000∧b ≤ 1000∧DAt H (.ref p) t.dat∧t.fit∧t.parts.length ≤ 1000 ∧
 (¬ (0 ≤ s∧s < (n:Int))→∀ H',Same H H'→Q (.str "no state") H') ∧
 (0 ≤ s→s < (n:Int)→(abB t = true→(trW W t).getD s.toNat false = !decide (t.wh = "some"))→∀ H',Same H H'→Q (.str "no way") H') ∧
 (0 ≤ s→s < (n:Int)→abB t = true→(trW W t).getD s.toNat false = decide (t.wh = "some")→∀ (q r:Addr) (row:List Int) (bk:Nat) (H':Hp),Same H H'→H' q = some (.tup [.ref r,.int (bk:Int)])→H' r = some (.lst (row.map V.int))→Path n W row→row[0]? = some s→row.length ≤ 1000→bk < row.length →
  (∃ x y st,row[row.length - 1]? = some x∧row[bk]? = some y∧W[x.toNat]? = some st∧y ∈ st.2)→onW t.so (t.kids.map (trW W)) row bk = decide (t.wh = "some")→Q (.ref q) H')
theorem ok_asked {f g cS cW:Addr} {fd gd:FuncData} (F:Fun K "_law_asked" "_law_asked" sd_asked f fd) (X_NoState:Xc K mg "NoState" cS) (X_NoWay:Xc K mg "NoWay" cW) (Xm:XmOk K cS cW)
  (G_way_for:FnOk P w K mg base (CXe P w) 12 g gd ["world","sentence","state"] (spWayFor cS cW)) (M_way_for:MG K mg "way_for" ["world","sentence","state"] g gd):FnOk P w K mg base CX0 13 f fd ["_law_world","_law_sentence","_law_state"] spAsked:=by
 refine F.ok sc_asked (fun vs H Q E h=>?_) (fun cdv A outer s H vs Q E hr h=>?_)
 ·obtain ⟨a,p,s,n,b,W,t,rfl,_⟩:=h
  rfl
 obtain ⟨a,p,s,n,b,W,t,rfl,ha,hW,hn,hb,hp,hf,hl,kS,kW,kR⟩:=h
 refine ⟨_,(pss_one (ps_try rfl rfl (fun _ _=>(pss_one (ps_ret (pe_ce G_way_for M_way_for hr rfl passes_try (pa_cons (pv 0) (pa_cons (pv 1) (pa_cons (pv 2) pa_nil)))))))
  (.cons rfl X_NoWay.mg (by decide) (fun _=>(pss_one (ps_ret pe_str))) (.cons rfl X_NoState.mg (by decide) (fun _=>(pss_one (ps_ret pe_str))) .nil)))),?_⟩
 refine ⟨_,rfl,_,rfl,_,rfl,a,p,s,n,b,W,t,rfl,ha,hW,hn,hb,hp,hf,hl,fun h H' sm=>?_,fun h0 h1 h2 H' sm=>?_,kR⟩
 ·exact ⟨false,Xm.sw,iteF ⟨true,Xm.ss,iteT (kS h H' sm)⟩⟩
 ·exact ⟨true,Xm.ww,iteT (kW h0 h1 h2 H' sm)⟩
def spTruthsOf:Sp:=fun vs H Q _=>∃ (wa pa:Addr) (n b:Nat) (W:World2) (t:T),vs = [.ref wa,.ref pa]∧DAt H (.ref wa) (wdat W)∧Valid n b W∧n ≤ 1000∧b ≤ 1000∧DAt H (.ref pa) (.lst (t.parts.map T.dat))∧t.fit∧t.parts.length ≤ 1000 ∧
 ∀ (q r z:Addr) (H':Hp),Same H H'→H' q = some (.tup [.ref r,.ref z])→Rows H' r n (t.kids.map (trW W))→H' z = some (.lst ((trW W t).map V.bl))→Q (.ref q) H'
theorem ok_truths_of {f g h:Addr} {fd gd hd':FuncData} (F:Fun K "_law_truths_of" "_law_truths_of" sd_truths_of f fd) (B:Blt mg)
  (G_arity:FnOk P w K mg base CX0 1 g gd ["_law_part"] spArity) (M_arity:MG K mg "_law_arity" ["_law_part"] g gd)
  (G_truth_of:FnOk P w K mg base CX0 5 h hd' ["_law_world","_law_part","_law_rows"] spTrT) (M_truth_of:MG K mg "_law_truth_of" ["_law_world","_law_part","_law_rows"] h hd') :
  FnOk P w K mg base CX0 6 f fd ["_law_world","_law_parts"] spTruthsOf:=by
 refine F.ok sc_truths_of (fun vs H Q E h=>?_) (fun cdv A outer s H vs Q E hr h=>?_)
 ·obtain ⟨wa,pa,n,b,W,t,rfl,_⟩:=h
  rfl
 obtain ⟨wa,pa,n,b,W,t,rfl,hWd,hW,hn,hb,hP,hf,lts,k⟩:=h
 refine ⟨_,
  (pss_cons (ps_set (i:=2) sc_truths_of.nd rfl (Or.inl rfl) (pe_lst pa_nil))
  (pss_cons (ps_set (i:=3) sc_truths_of.nd rfl (Or.inl rfl) (pe_lst pa_nil))
  (pss_cons (ps_for PassesOwn.never rfl (pi_list (pv 1)) (pg_name (i:=4) sc_truths_of.nd rfl (Or.inl rfl))
  (pss_cons (ps_set (i:=5) sc_truths_of.nd rfl (Or.inl rfl) (pe_op op_sub (pe_callB call_len_seq rfl B.len PySem.boot_len (pa_cons (pv 2) pa_nil)) (pe_cm G_arity M_arity hr rfl (pa_cons (pv 4) pa_nil))))
  (pss_cons (ps_set (i:=3) sc_truths_of.nd rfl (Or.inl rfl) (pe_slice sl_list (pv 2) (po_some (pv 5)) po_none))
  (pss_one (ps_set (i:=2) sc_truths_of.nd rfl (Or.inl rfl) (pe_op op_cat (pe_slice sl_list (pv 2) po_none (po_some (pv 5))) (pe_lst (pa_cons (pe_cm G_truth_of M_truth_of hr rfl (pa_cons (pv 0) (pa_cons (pv 4) (pa_cons (pv 3) pa_nil)))) pa_nil))))))))
  (pss_one (ps_ret (pe_tup (pa_cons (pv 3) (pa_cons (pe_ix ix_list (pv 2) pe_int (fun _ _=>rfl)) pa_nil)))))))),?_⟩
 obtain ⟨ts,ets⟩:∃ ts,ts = t.parts:=⟨_,rfl⟩
 have fin:trGo2 W ts [] [] = ([trW W t],t.kids.map (trW W)):=by
  have:=tr2_parts (W:=W) t [] [] []
  rw [List.append_nil] at this
  rw [ets,this]
  rfl
 have okts:okGo ts 0:=by rw [ets]; exact okGo_one t
 have fts:∀ u ∈ ts,u.fit:=fun u hu=>T.fit_parts hf (by rw [← ets]; exact hu)
 rw [← ets] at hP lts
 obtain ⟨pa',ps,e,hP1,hps⟩:=DAt.lst_inv hP
 cases e
 have lp:=hps.length
 rw [List.length_map] at lp
 refine ⟨line0,fun p0 hp0=>⟨line0,fun r0 hr0=>?_⟩⟩
 have s1:=(same_new hp0 (.lst [])).trans (same_new hr0 (.lst []))
 have e1:upd (upd H p0 (.lst [])) r0 (.lst []) p0 = some (.lst []):=same_new hr0 _ _ _ upd_same
 have e2:upd (upd H p0 (.lst [])) r0 (.lst []) r0 = some (.lst []):=upd_same
 generalize upd (upd H p0 (.lst [])) r0 (.lst []) = H1 at s1 e1 e2
 refine ⟨_,rfl,pa,rfl,⟨_,SqL.of (s1 _ _ hP1)⟩,for_list (K:=K) (a:=pa) (xs:=ps) (fun i σ' H'=>∃ (q r:Addr) (pile rows:List (List Bool)) (o4 o5:Option V),σ' = [some (.ref wa),some (.ref pa),some (.ref q),some (.ref r),o4,o5]∧Same H H'∧Rows H' q n pile∧Rows H' r n rows∧pile.length ≤ i ∧
   okGo (ts.drop i) pile.length∧trGo2 W (ts.drop i) pile rows = ([trW W t],t.kids.map (trW W)))
  ⟨p0,r0,[],[],none,none,rfl,s1,Rows.mk' e1 .nil (fun _ h=>nomatch h),Rows.mk' e2 .nil (fun _ h=>nomatch h),Nat.le_refl _,okts,fin⟩ (fun i σ' H' _ h=>by obtain ⟨_,_,_,_,_,_,_,sm,_⟩:=h; exact SqL.of (sm _ _ hP1)) ?_ ?_⟩
 ·rintro i y σ' H2 hy ⟨q,r,pile,rows,o4,o5,rfl,s2,RP,RR,lpi,okp,hgo⟩
  have hit:i < ts.length:=by have:=(List.getElem?_eq_some_iff.mp hy).1; omega
  have ft:=fts _ (List.getElem_mem hit)
  rw [tr2_step hit] at hgo
  obtain ⟨ok1,ok2⟩:=ok_step hit okp
  obtain ⟨pu,epu,dpu⟩:=(hps.mono s2).nth hit
  rw [hy] at epu
  cases epu
  obtain ⟨pp,rfl⟩:=tdat_ref dpu
  obtain ⟨ks,ep,_,_⟩:=part_at dpu ft
  obtain ⟨vs,hq,dvs,lvs⟩:=RP.inv
  refine ⟨_,rfl,q,_,rfl,.inl (SqL.of hq),_,rfl,pp,_,ks,rfl,ep,fun H3 s3=>⟨_,_,rfl,rfl,?_⟩⟩
  obtain ⟨m,hm⟩:∃ m,m = pile.length - ts[i].kids.length:=⟨_,rfl⟩
  rw [← hm] at hgo
  have est:((vs.length:Nat):Int) - ((arity ts[i].so:Nat):Int) = ((m:Nat):Int):=by
   rw [arity_kids ft]
   omega
  have ec:cutV vs (some (((vs.length:Nat):Int) - ((arity ts[i].so:Nat):Int))) none = vs.drop m:=by rw [est,cut_from]
  have et:cutV vs none (some (((vs.length:Nat):Int) - ((arity ts[i].so:Nat):Int))) = vs.take m:=by rw [est,cut_to]
  have S3:=s2.trans s3
  refine ⟨_,rfl,_,rfl,_,rfl,q,_,rfl,SqL.of (s3 _ _ hq),fun c4 hc4=>?_⟩
  rw [ec]
  have s4:=same_new hc4 (.lst (vs.drop m))
  have e4:upd H3 c4 (.lst (vs.drop m)) c4 = some (.lst (vs.drop m)):=upd_same
  generalize upd H3 c4 (.lst (vs.drop m)) = H4 at s4 e4
  have S4:=S3.trans s4
  have dvs4:=dvs.mono (s3.trans s4)
  have RW:Rows H4 c4 n (pile.drop m):=Rows.mk' e4 (by rw [List.map_drop]; exact dvs4.drop m) (fun r hr=>RP.len r (List.mem_of_mem_drop hr))
  have hq4:=(s3.trans s4) _ _ hq
  refine ⟨_,rfl,_,rfl,_,rfl,q,_,rfl,SqL.of hq4,fun c6 hc6=>?_⟩
  rw [et]
  have s6:=same_new hc6 (.lst (vs.take m))
  have e6:upd H4 c6 (.lst (vs.take m)) c6 = some (.lst (vs.take m)):=upd_same
  generalize upd H4 c6 (.lst (vs.take m)) = H6 at s6 e6
  have S6:=S4.trans s6
  have lk:(pile.drop m).length = ts[i].kids.length:=by rw [List.length_drop]; omega
  refine ⟨_,rfl,_,rfl,_,rfl,wa,pp,c4,n,b,W,ts[i],pile.drop m,rfl,hWd.mono S6,hW,hn,hb,dpu.mono (s3.trans (s4.trans s6)),ft,RW.keep s6,lk,fun fa H7 s7 hfa=>?_⟩
  have S7:=S6.trans s7
  refine ⟨line_le (by show 1 ≤ 16000000; decide),fun c8 hc8=>?_⟩
  have s8:=same_new hc8 (.lst [V.ref fa])
  have e8:upd H7 c8 (.lst [V.ref fa]) c8 = some (.lst [V.ref fa]):=upd_same
  generalize upd H7 c8 (.lst [V.ref fa]) = H8 at s8 e8
  have S8:=S7.trans s8
  have e68:=s8 _ _ (s7 _ _ e6)
  have dv8:=dvs.mono (s3.trans (s4.trans (s6.trans (s7.trans s8))))
  have RW8:=RW.keep (s6.trans (s7.trans s8))
  refine ⟨c6,c8,_,_,rfl,rfl,e68,e8,line_le (by rw [List.length_take]; show min m vs.length + 1 ≤ 16000000; omega),fun l9 hl9=>?_⟩
  have s9:=same_new hl9 (.lst (vs.take m ++ [V.ref fa]))
  have ln:∀ r ∈ pile.drop m,r.length = n:=fun r hr=>RP.len r (List.mem_of_mem_drop hr)
  refine ⟨l9,c4,pile.take m ++ [trT W ts[i] (pile.drop m)],pile.drop m,_,_,rfl,S8.trans s9,Rows.mk' upd_same ?_ ?_,RW8.keep s9,?_,?_,hgo⟩
  ·rw [List.map_append,List.map_take]
   exact ((dv8.mono s9).take m).append (.cons (.of_bools (s9 _ _ (s8 _ _ hfa))) .nil)
  ·intro r hr
   rcases List.mem_append.mp hr with hr | hr
   ·exact RP.len r (List.mem_of_mem_take hr)
   ·rw [List.mem_singleton] at hr
    rw [hr]
    exact trT_len hW ft lk ln
  ·rw [List.length_append,List.length_take]
   show min m pile.length + 1 ≤ i + 1
   omega
  ·rw [List.length_append,List.length_take]
   have:min m pile.length + [trT W ts[i] (pile.drop m)].length = pile.length - ts[i].kids.length + 1:=by
    show min m pile.length + 1 = _
    omega
   rw [this]
   exact ok2
 ·rintro σ' H2 ⟨q,r,pile,rows,o4,o5,rfl,s2,RP,RR,lpi,okp,hgo⟩
  rw [lp,List.drop_length] at hgo
  have hgo:(pile,rows) = ([trW W t],t.kids.map (trW W)):=hgo
  injection hgo with hg1 hg2
  subst hg1
  subst hg2
  obtain ⟨vs,z,hq,hz0,hz,_⟩:=RP.nth (i:=0) (by show 0 < 1; decide)
  refine ⟨_,rfl,_,rfl,q,_,_,_,rfl,rfl,SqL.of hq,hz0,line_le (by show 2 ≤ 16000000; decide),fun t2 ht2=>?_⟩
  have s3:=same_new ht2 (.tup [V.ref r,V.ref z])
  exact k t2 r z _ (s2.trans s3) upd_same (RR.keep s3) (s3 _ _ hz)
def spIsWay:Sp:=fun vs H Q _=>∃ (q wa r:Addr) (s:Int) (n b:Nat) (W:World2) (row:List Int) (bk:Nat),vs = [.ref q,.ref wa,.int s]∧H q = some (.tup [.ref r,.int (bk:Int)])∧H r = some (.lst (row.map V.int))∧DAt H (.ref wa) (wdat W)∧Valid n b W∧n ≤ 1000∧b ≤ 1000∧Path n W row∧row[0]? = some s∧row.length ≤ 1000∧bk < row.length ∧
 (∃ x y st,row[row.length - 1]? = some x∧row[bk]? = some y∧W[x.toNat]? = some st∧y ∈ st.2)∧∀ H',Same H H'→Q (.bl true) H'
theorem ok_is_way {f g:Addr} {fd gd:FuncData} (F:Fun K "_law_is_way" "_law_is_way" sd_is_way f fd) (B:Blt mg) (G_whole:FnOk P w K mg base CX0 1 g gd ["_law_found"] spWhole) (M_whole:MG K mg "_law_whole" ["_law_found"] g gd) :
  FnOk P w K mg base CX0 2 f fd ["_law_found","_law_world","_law_start"] spIsWay:=by
 refine F.ok sc_is_way (fun vs H Q E h=>?_) (fun cdv A outer s H vs Q E hr h=>?_)
 ·obtain ⟨q,wa,r,s,n,b,W,row,bk,rfl,_⟩:=h
  rfl
 have hu:=Nat.lt_of_succ_lt (hu_of hr)
 obtain ⟨q,wa,r,s,n,b,W,row,bk,rfl,hq,hrr,hWd,hW,hn,hb,pa,r0,lr,lb,cl,k⟩:=h
 obtain ⟨wa',us,e,hA,hv⟩:=DAt.lst_inv hWd
 cases e
 have lv:=hv.length
 rw [List.length_map,hW.len] at lv
 have st:∀ x:Int,0 ≤ x→x < (n:Int)→∃ (t m d:Addr) (S:List Int × List Int),atI us x = some (.ref t)∧H t = some (.tup [.ref m,.ref d])∧H d = some (.lst (S.2.map V.int))∧W[x.toNat]? = some S:=fun x h0 h1=>by
  have hi:x.toNat < W.length:=by have:=hW.len; omega
  obtain ⟨u,eu,du⟩:=hv.nth hi
  obtain ⟨t,m,d,rfl,et,em,ed⟩:=sdat_inv du
  exact ⟨t,m,d,W[x.toNat],atI_of eu (by omega),et,ed,List.getElem?_eq_getElem hi⟩
 have rl:(row.map V.int).length = row.length:=List.length_map _
 have rat:∀ {i:Nat} {x:Int},row[i]? = some x→atI (row.map V.int) (i:Int) = some (V.int x):=fun {i x} h=>atI_nat (by rw [List.getElem?_map,h]; rfl)
 refine ⟨_,
  (pss_cons (ps_if (PW.pt (pw_or (pt_not (pt_val (pe_callB call_is1 rfl B.isinst bIs (pa_cons (pv 0) (pa_cons (pe_bltn (v:=.ty "tuple") rfl B.tuple bTuple rfl) pa_nil))))) (pw_or (pt_cmpR op_ne (pe_callB call_len_seq rfl B.len PySem.boot_len (pa_cons (pv 0) pa_nil)) pe_int (nomark _)) (pw_or1 (pt_not (pt_val (pe_callB call_is1 rfl B.isinst bIs (pa_cons (pe_ix ix_tup (pv 0) pe_int (fun _ _=>rfl)) (pa_cons (pe_bltn (v:=.ty "list") rfl B.list bList rfl) pa_nil)))))))))
  (pss_one (ps_ret pe_bl))
  pss_nil)
  (pss_cons (ps_asg (pv 0) (pg_tup (n:=2) rfl (pgs_cons (pg_name (i:=3) sc_is_way.nd rfl (Or.inl rfl)) (pgs_cons (pg_name (i:=4) sc_is_way.nd rfl (Or.inl rfl)) pgs_nil))))
  (pss_cons (ps_if (PW.pt (pw_or (pt_cmpR (op_eqNil hu) (pv 3) (pe_lst pa_nil) (nomark _)) (pw_or (pt_not (pt_val (pe_cm G_whole M_whole hr rfl (pa_cons (pv 4) pa_nil)))) (pw_or (pt_cmpR op_lt (pv 4) pe_int (nomark _)) (pw_or1 (pt_cmpR op_ge (pv 4) (pe_callB call_len_seq rfl B.len PySem.boot_len (pa_cons (pv 3) pa_nil)) (nomark _)))))))
  (pss_one (ps_ret pe_bl))
  pss_nil)
  (pss_cons (ps_for PassesOwn.never rfl (pi_list (pv 3)) (pg_name (i:=5) sc_is_way.nd rfl (Or.inl rfl))
  (pss_one (ps_if (PW.pt (pw_or (pt_not (pt_val (pe_cm G_whole M_whole hr rfl (pa_cons (pv 5) pa_nil)))) (pw_or (pt_cmpR op_lt (pv 5) pe_int (nomark _)) (pw_or1 (pt_cmpR op_ge (pv 5) (pe_callB call_len_seq rfl B.len PySem.boot_len (pa_cons (pv 1) pa_nil)) (nomark _))))))
  (pss_one (ps_ret pe_bl))
  pss_nil)))
  (pss_cons (ps_if (pt_cmpR op_ne (pe_ix ix_list (pv 3) pe_int (fun _ _=>rfl)) (pv 2) (nomark _))
  (pss_one (ps_ret pe_bl))
  pss_nil)
  (pss_cons (ps_for PassesOwn.never rfl (pi_range1 rfl B.range (pa_cons (pe_callB call_len_seq rfl B.len PySem.boot_len (pa_cons (pv 3) pa_nil)) pa_nil)) (pg_name (i:=6) sc_is_way.nd rfl (Or.inl rfl))
  (pss_one (ps_if (pt_cmpR op_notIn_seq (pe_ix ix_list (pe_op op_cat (pv 3) (pe_lst (pa_cons (pe_ix ix_list (pv 3) (pv 4) (fun _ _=>rfl)) pa_nil))) (pe_op op_add (pv 6) pe_int) (fun _ _=>rfl)) (pe_ix ix_tup (pe_ix ix_list (pv 1) (pe_ix ix_list (pv 3) (pv 6) (fun _ _=>rfl)) (fun _ _=>rfl)) pe_int (fun _ _=>rfl)) rfl)
  (pss_one (ps_ret pe_bl))
  pss_nil)))
  (pss_one (ps_ret pe_bl)))))))),?_⟩
 refine ⟨_,rfl,_,_,_,_,rfl,.tup hq,o_tt,_,rfl,iteF ?_⟩
 refine ⟨_,rfl,q,_,rfl,.inr (SqT.of hq),rfl,_,rfl,iteNS rfl ?_⟩
 refine ⟨_,rfl,q,_,_,_,rfl,rfl,SqT.of hq,at0,_,_,_,_,rfl,.lst hrr,o_ll,_,rfl,iteF ?_⟩
 refine ⟨_,rfl,q,_,rfl,SqT.of hq,rfl,_,_,rfl,_,_,rfl,rfl,?_⟩
 refine ⟨_,rfl,line0,fun l hl=>⟨r,l,_,rfl,rfl,same_new hl _ _ _ hrr,upd_same,_,rfl,?_⟩⟩
 have s1:=same_new hl (.lst [])
 generalize upd H l (.lst []) = H1 at s1
 have em:(row.map V.int).isEmpty = false:=by
  cases row with
  | nil=>exact absurd lb (Nat.not_lt_zero _)
  | cons x y=>rfl
 rw [em]
 refine iteF ⟨_,rfl,(bk:Int),rfl,_,rfl,iteF ?_⟩
 refine ⟨_,rfl,_,_,rfl,rfl,_,rfl,ite2 (fun c=>?_) (fun _=>?_)⟩
 ·have c:decide ((bk:Int) < 0) = true:=c
  rw [decide_eq_true_eq] at c
  omega
 refine ⟨_,rfl,_,rfl,r,_,rfl,.inl (SqL.of (s1 _ _ hrr)),_,_,rfl,rfl,_,rfl,ite2 (fun c=>?_) (fun _=>?_)⟩
 ·have c:decide (((row.map V.int).length:Int) ≤ (bk:Int)) = true:=c
  rw [decide_eq_true_eq] at c
  omega
 refine ⟨_,rfl,r,rfl,⟨_,SqL.of (s1 _ _ hrr)⟩,for_list (K:=K) (a:=r) (xs:=row.map V.int) (fun i σ' H'=>∃ o5,σ' = [some (.ref q),some (.ref wa),some (.int s),some (.ref r),some (.int (bk:Int)),o5,none]∧H' = H1) ⟨none,rfl,rfl⟩ (fun i σ' H' _ ⟨_,_,e⟩=>by rw [e]; exact SqL.of (s1 _ _ hrr)) ?_ ?_⟩
 ·rintro i y σ' H2 hy ⟨o5,rfl,rfl⟩
  obtain ⟨x,rfl,hx⟩:=int_mem hy
  obtain ⟨x0,x1⟩:=pa.inn x (List.mem_of_getElem? hx)
  refine ⟨_,rfl,x,rfl,_,rfl,iteF ?_⟩
  refine ⟨_,rfl,_,_,rfl,rfl,_,rfl,ite2 (fun c=>?_) (fun _=>?_)⟩
  ·have c:decide (x < 0) = true:=c
   rw [decide_eq_true_eq] at c
   omega
  refine ⟨_,rfl,_,rfl,wa,us,rfl,.inl (SqL.of (s1 _ _ hA)),_,_,rfl,rfl,_,rfl,ite2 (fun c=>?_) (fun _=>?_)⟩
  ·have c:decide ((us.length:Int) ≤ x) = true:=c
   rw [decide_eq_true_eq] at c
   omega
  exact ⟨_,rfl,rfl⟩
 rintro σ' H2 ⟨o5,rfl,rfl⟩
 refine ⟨_,rfl,r,_,_,_,rfl,rfl,SqL.of (s1 _ _ hrr),rat (i:=0) r0,_,rfl,rfl,_,rfl,iteNS rfl ?_⟩
 refine ⟨_,rfl,r,_,rfl,.inl (SqL.of (s1 _ _ hrr)),_,rfl,by omega,by omega,for_range (lo:=0) (n:=(row.map V.int).length) (fun i σ' H'=>∃ o6,σ' = [some (.ref q),some (.ref wa),some (.int s),some (.ref r),some (.int (bk:Int)),o5,o6]∧Same H H') ⟨none,rfl,s1⟩ ?_ ?_⟩
 ·rintro i σ' H3 hi ⟨o6,rfl,s3⟩
  have hir:i < row.length:=by omega
  have ex:=List.getElem?_eq_getElem hir
  obtain ⟨x0,x1⟩:=pa.inn _ (List.mem_of_getElem? ex)
  obtain ⟨t,m,d,S,e1,et,ed,eW⟩:=st _ x0 x1
  have eb:=List.getElem?_eq_getElem lb
  obtain ⟨y,hy,hyS⟩:∃ y,(row ++ [row[bk]])[i + 1]? = some y∧y ∈ S.2:=by
   by_cases hl:i + 1 < row.length
   ·have ey:=List.getElem?_eq_getElem hl
    obtain ⟨S',eS,hS⟩:=pa.go i _ _ ex ey
    rw [eW] at eS
    cases eS
    exact ⟨_,by rw [List.getElem?_append_left hl]; exact ey,hS⟩
   ·have el:i = row.length - 1:=by omega
    obtain ⟨x,y,S',hx,hy,hS,hm⟩:=cl
    rw [← el,ex] at hx
    cases hx
    rw [eW] at hS
    cases hS
    rw [eb] at hy
    cases hy
    exact ⟨_,by rw [List.getElem?_append_right (by omega),show i + 1 - row.length = 0 by omega]; rfl,hm⟩
  refine ⟨_,rfl,_,rfl,_,rfl,r,_,_,_,rfl,rfl,SqL.of (s3 _ _ hrr),rat eb,line_le (by show 1 ≤ 16000000; decide),fun l1 hl1=>?_⟩
  have s4:=same_new hl1 (.lst [V.int row[bk]])
  have e4:upd H3 l1 (.lst [V.int row[bk]]) l1 = some (.lst [V.int row[bk]]):=upd_same
  generalize upd H3 l1 (.lst [V.int row[bk]]) = H4 at s4 e4
  have S4:=s3.trans s4
  refine ⟨r,l1,_,_,rfl,rfl,S4 _ _ hrr,e4,line_le (by rw [rl]; show row.length + 1 ≤ 16000000; omega),fun l2 hl2=>?_⟩
  have s5:=same_new hl2 (.lst (row.map V.int ++ [V.int row[bk]]))
  have e5:upd H4 l2 (.lst (row.map V.int ++ [V.int row[bk]])) l2 = some (.lst (row.map V.int ++ [V.int row[bk]])):=upd_same
  generalize upd H4 l2 (.lst (row.map V.int ++ [V.int row[bk]])) = H5 at s5 e5
  have S5:=S4.trans s5
  have ey:atI (row.map V.int ++ [V.int row[bk]]) (0 + (i:Int) + 1) = some (V.int y):=by
   rw [show (0 + (i:Int) + 1) = ((i + 1:Nat):Int) by omega]
   refine atI_nat ?_
   have:row.map V.int ++ [V.int row[bk]] = (row ++ [row[bk]]).map V.int:=by rw [List.map_append]; rfl
   rw [this,List.getElem?_map,hy]
   rfl
  have ei:atI (row.map V.int) (0 + (i:Int)) = some (V.int row[i]):=by rw [Int.zero_add]; exact rat ex
  refine ⟨_,rfl,_,_,rfl,rfl,l2,_,_,_,rfl,rfl,SqL.of e5,ey,_,rfl,_,rfl,_,rfl,r,_,_,_,rfl,rfl,SqL.of (S5 _ _ hrr),ei,wa,us,_,_,rfl,rfl,SqL.of (S5 _ _ hA),e1,t,_,_,_,rfl,rfl,SqT.of (S5 _ _ et),at1,d,_,rfl,.inl (SqL.of (S5 _ _ ed)),rfl,flat_ints,_,rfl,?_⟩
  rw [inV_int,decide_eq_true hyS]
  exact iteF ⟨_,rfl,S5⟩
 ·rintro σ' H3 ⟨o6,rfl,s3⟩
  exact k H3 s3
end
end Ws
namespace Ws
open PySem L2
section
variable {P:Program} {w:World} {K:PySem.W.Frag} {mg:Str→Option Value} {base:Heap}
def tUn (_:PySem.W.Frag):TS:=fun D σ H=>∃ (a b p1 l1 p2 l2 s0:Addr) (n fm:Int) (wh so:Str) (t1 t2:T),σ = [some (.ref a),some (.int n),some (.ref b),some (.int fm),some (.ref p1),some (.ref l1),some (.ref p2),some (.ref l2),some (.str wh),some (.str so),some (.ref s0),none,none,none,none,none,none,none,none,none,none,none] ∧
 H s0 = some (.tup [.str so,.str wh,.ref p1])∧DAt H (.ref p1) t1.dat∧DAt H (.ref l1) (.lst (t1.parts.map T.dat))∧DAt H (.ref p2) t2.dat∧DAt H (.ref l2) (.lst (t2.parts.map T.dat))∧t1.fit∧t2.fit∧t1.parts.length ≤ 100∧t2.parts.length ≤ 100∧sixB so∧(wh = "some" ∨ wh = "all") ∧
 ∀ (s' l':Addr) (t':T) (ps:List T) (H2:Hp),Same H H2→DAt H2 (.ref s') t'.dat→DAt H2 (.ref l') (.lst (ps.map T.dat))→t'.parts = ps ++ [t']→t'.fit→t'.so = so→t'.wh = wh→ps.length ≤ 200 →
  D.nx [some (.ref a),some (.int n),some (.ref b),some (.int fm),some (.ref p1),some (.ref l'),some (.ref p2),some (.ref l2),some (.str wh),some (.str so),some (.ref s'),none,none,none,none,none,none,none,none,none,none,none] H2
theorem wk_un:∀ D σ H,tUn K D σ H→tIfS (tTest (tOp rEq (tVar 9) (tC (V.str "until")))) (tSeq (tAsg (tTup (tCons (tVar 9) (tCons (tVar 8) (tCons (tVar 4) (tCons (tVar 6) tNil))))) (gName 10)) (tAsg (tOp rCat (tVar 5) (tVar 7)) (gName 5))) tNext D σ H:=by
 rintro D σ H ⟨a,b,p1,l1,p2,l2,s0,n,fm,wh,so,t1,t2,rfl,hs,d1,e1,d2,e2,f1,f2,n1,n2,hso,hwh,k⟩
 have hw:wh ≠ "":=by
  rcases hwh with rfl | rfl <;> decide +kernel
 have eh:hd so wh = [so,wh]:=if_neg hw
 refine ⟨_,rfl,rfl,_,rfl,itS (fun hu=>?_) (fun hu=>?_)⟩
 ·subst hu
  refine ⟨_,rfl,_,rfl,_,rfl,_,rfl,line_le (by show 4 ≤ 16000000; decide),fun s' hs'=>?_⟩
  have sm:=same_new hs' (.tup [V.str "until",V.str wh,V.ref p1,V.ref p2])
  have h2:upd H s' (.tup [V.str "until",V.str wh,V.ref p1,V.ref p2]) s' = some (.tup [V.str "until",V.str wh,V.ref p1,V.ref p2]):=upd_same
  generalize upd H s' (.tup [V.str "until",V.str wh,V.ref p1,V.ref p2]) = H1 at sm h2
  obtain ⟨l1',vs1,z1,hL1,dv1⟩:=DAt.lst_inv (e1.mono sm)
  cases z1
  obtain ⟨l2',vs2,z2,hL2,dv2⟩:=DAt.lst_inv (e2.mono sm)
  cases z2
  have lv1:=dv1.length
  have lv2:=dv2.length
  rw [List.length_map] at lv1 lv2
  refine ⟨_,rfl,_,rfl,l1,l2,vs1,vs2,rfl,rfl,hL1,hL2,line_le (by show vs1.length + vs2.length ≤ 16000000; omega),fun l4 hl4=>?_⟩
  have s4:=same_new hl4 (.lst (vs1 ++ vs2))
  have S4:=sm.trans s4
  refine k s' l4 (.bin ["until",wh] t1 t2) (t1.parts ++ t2.parts) _ S4 (.tup (s4 _ _ h2) (.cons (.str _) (.cons (.str _) (.cons (d1.mono S4) (.cons (d2.mono S4) .nil))))) ?_ rfl ⟨⟨"until",wh,eh.symm,?_⟩,f1,f2⟩ ?_ ?_ ?_
  ·rw [List.map_append]
   exact .lst upd_same ((dv1.mono s4).append (dv2.mono s4))
  ·rcases hwh with rfl | rfl <;> decide +kernel
  ·rfl
  ·rfl
  ·rw [List.length_append]; omega
 ·refine k s0 l1 (.un [so,wh] t1) t1.parts H (Same.refl _) (.tup hs (.cons (.str _) (.cons (.str _) (.cons d1 .nil)))) e1 rfl ⟨⟨so,wh,eh.symm,?_⟩,f1⟩ rfl rfl (by omega)
  rcases hso with rfl | rfl | rfl | rfl | rfl | rfl
  ·rcases hwh with rfl | rfl <;> decide +kernel
  ·exact absurd rfl hu
  all_goals (rcases hwh with rfl | rfl <;> decide +kernel)
def tStates (K:PySem.W.Frag):TS:=fun D σ H=>∃ (a st:Addr) (n:Nat) (ns zs:List Int) (σ1 σ2:St),σ1.length = 12∧σ = (some (.ref a) :: some (.int (n:Int)) :: σ1) ++ (some (.ref st) :: σ2)∧SqL K H a (ns.map V.int)∧ns.length ≤ 1000000∧1 ≤ n∧H st = some (.lst (zs.map V.int))∧(∀ z ∈ zs,0 ≤ z∧z < (n:Int))∧zs.length ≤ 1000 ∧
 ∀ (st':Addr) (zs':List Int) (H2:Hp),Same H H2→H2 st' = some (.lst (zs'.map V.int))→(∀ z ∈ zs',0 ≤ z∧z < (n:Int))→zs'.length ≤ 1000→D.nx ((some (.ref a) :: some (.int (n:Int)) :: σ1) ++ (some (.ref st') :: σ2)) H2
theorem wk_states:∀ D σ H,tStates K D σ H→tIfS (tTest (tOp (rI0 fun i j=>V.bl (decide (j < i))) (tVar 1) (tC (V.int 6)))) (tAsg (tLst (tCons (tC (V.int 0)) (tCons (tOp (rI CDiv fun i j=>V.int (i / j)) (tVar 1) (tC (V.int 2))) (tCons (tOp (rI0 fun i j=>V.int (i - j)) (tVar 1) (tC (V.int 1)))
  (tCons (tOp (rI (fun _ j=>0 < j) fun i j=>V.int (i % j)) (tCall (spAt K) [] E0 (tCons (tVar 0) (tCons (tC (V.int 15)) tNil))) (tVar 1)) tNil))))) (gName 14)) tNext D σ H:=by
 rintro D σ H ⟨a,st,n,ns,zs,σ1,σ2,l1,rfl,hS,hl,n1,hst,hz,lz,k⟩
 refine ⟨_,rfl,_,_,rfl,rfl,_,rfl,ite2 (fun _=>?_) (fun _=>k st zs H (Same.refl _) hst hz lz)⟩
 refine ⟨_,rfl,_,_,rfl,rfl,⟨by decide,by decide⟩,_,rfl,_,_,rfl,rfl,_,rfl,a,ns,15,rfl,hS,hl,fun z H1 s1=>?_⟩
 have np:(0:Int) < (n:Int):=by omega
 refine ⟨_,rfl,_,_,rfl,rfl,np,line_le (by show 4 ≤ 16000000; decide),fun st' hst'=>?_⟩
 have e:((some (V.ref a) :: some (V.int (n:Int)) :: σ1) ++ (some (V.ref st) :: σ2)).set 14 (some (V.ref st')) = (some (V.ref a) :: some (V.int (n:Int)) :: σ1) ++ (some (V.ref st') :: σ2):=by
  rw [List.set_append_right _ _ (by rw [List.length_cons,List.length_cons,l1]; exact Nat.le_refl _),List.length_cons,List.length_cons,l1]
  rfl
 show D.nx (((some (V.ref a) :: some (V.int (n:Int)) :: σ1) ++ (some (V.ref st) :: σ2)).set 14 (some (V.ref st'))) _
 rw [e]
 refine k st' [0,(n:Int) / 2,(n:Int) - 1,z % (n:Int)] _ (s1.trans (same_new hst' _)) upd_same (fun y hy=>?_) (by show 4 ≤ 1000; decide)
 have m0:=Int.emod_nonneg z (show (n:Int) ≠ 0 by omega)
 have m1:=Int.emod_lt_of_pos z np
 simp only [List.mem_cons,List.not_mem_nil,or_false] at hy
 rcases hy with rfl | rfl | rfl | rfl <;> omega
end
end Ws
namespace Ws
open PySem L2
section
variable {P:Program} {w:World} {K:PySem.W.Frag} {mg:Str→Option Value} {base:Heap}
seal L2.PSs L2.PS L2.PE L2.PA L2.PT L2.PG L2.PF L2.PI
theorem rng_ints (n:Nat):((List.range n).map fun i=>V.int ((i:Nat):Int)) = ((List.range n).map fun i:Nat=>(i:Int)).map V.int:=by
 rw [List.map_map]
 rfl
theorem odd_ok {H:Hp} {s p:Addr} {t t1:T} {fm:Int} {v1 v2 v3 v4:Addr} (ds:DAt H (.ref s) t.dat) (ft:t.fit) (lt:t.parts.length ≤ 201) (dp:DAt H (.ref p) t1.dat) (f1:t1.fit) (l1:t1.parts.length ≤ 100)
  (h1:H v1 = some (.tup [.str "not",.ref s])) (h2:H v2 = some (.tup [.str "mark",.int fm])) (h3:H v3 = some (.tup [.str "and",.ref s,.ref s])) (h4:H v4 = some (.tup [.str "or",.ref p,.ref s])) :
  ∀ v ∈ [V.ref v1,V.ref v2,V.ref v3,V.ref v4],∃ (o:Addr) (u:T),v = .ref o∧DAt H (.ref o) u.dat∧u.fit∧abB u = false∧u.parts.length ≤ 1000:=by
 intro v hv
 simp only [List.mem_cons,List.not_mem_nil,or_false] at hv
 rcases hv with rfl | rfl | rfl | rfl
 ·refine ⟨v1,.un ["not"] t,rfl,.tup h1 (.cons (.str _) (.cons ds .nil)),⟨⟨"not","",(hd_nil _).symm,by decide +kernel⟩,ft⟩,rfl,?_⟩
  show (t.parts ++ [_]).length ≤ 1000
  rw [List.length_append]; show t.parts.length + 1 ≤ 1000; omega
 ·refine ⟨v2,.mark fm,rfl,.tup h2 (.cons (.str _) (.cons (.int _) .nil)),trivial,rfl,by show 1 ≤ 1000; decide⟩
 ·refine ⟨v3,.bin ["and"] t t,rfl,.tup h3 (.cons (.str _) (.cons ds (.cons ds .nil))),⟨⟨"and","",(hd_nil _).symm,by decide +kernel⟩,ft,ft⟩,rfl,?_⟩
  show (t.parts ++ t.parts ++ [_]).length ≤ 1000
  rw [List.length_append,List.length_append]; show t.parts.length + t.parts.length + 1 ≤ 1000; omega
 ·refine ⟨v4,.bin ["or"] t1 t,rfl,.tup h4 (.cons (.str _) (.cons dp (.cons ds .nil))),⟨⟨"or","",(hd_nil _).symm,by decide +kernel⟩,f1,ft⟩,rfl,?_⟩
  show (t1.parts ++ t.parts ++ [_]).length ≤ 1000
  rw [List.length_append,List.length_append]; show t1.parts.length + t.parts.length + 1 ≤ 1000; omega
theorem ok_law {f f1 f2 f3 f4 f5 f6 f7 f8 f9 f10 f11 f12:Addr} {fd d1 d2 d3 d4 d5 d6 d7 d8 d9 d10 d11 d12:FuncData} (F:Fun K "law" "law" sd_law f fd) (B:Blt mg)
  (G_count_of:FnOk P w K mg base CX0 2 f1 d1 ["_law_script"] (spCount K)) (M_count_of:MG K mg "_law_count_of" ["_law_script"] f1 d1)
  (G_with_others:FnOk P w K mg base CX0 3 f2 d2 ["_law_script","_law_world"] (spOthers K)) (M_with_others:MG K mg "_law_with_others" ["_law_script","_law_world"] f2 d2)
  (G_world_of:FnOk P w K mg base CX0 4 f3 d3 ["_law_count","_law_script"] (spWorld K)) (M_world_of:MG K mg "_law_world_of" ["_law_count","_law_script"] f3 d3)
  (G_grown:FnOk P w K mg base CX0 3 f4 d4 ["_law_cells","_law_first"] spGrown) (M_grown:MG K mg "_law_grown" ["_law_cells","_law_first"] f4 d4)
  (G_copy_of:FnOk P w K mg base CX0 1 f5 d5 ["_law_world"] spCopy) (M_copy_of:MG K mg "_law_copy_of" ["_law_world"] f5 d5)
  (G_truths_of:FnOk P w K mg base CX0 6 f6 d6 ["_law_world","_law_parts"] spTruthsOf) (M_truths_of:MG K mg "_law_truths_of" ["_law_world","_law_parts"] f6 d6)
  (G_same:FnOk P w K mg base CX0 2 f7 d7 ["_law_found","_law_due"] spSame) (M_same:MG K mg "_law_same" ["_law_found","_law_due"] f7 d7)
  (G_asked:FnOk P w K mg base CX0 13 f8 d8 ["_law_world","_law_sentence","_law_state"] spAsked) (M_asked:MG K mg "_law_asked" ["_law_world","_law_sentence","_law_state"] f8 d8)
  (G_first_mark:FnOk P w K mg base CX0 2 f9 d9 ["_law_script"] (spMark K)) (M_first_mark:MG K mg "_law_first_mark" ["_law_script"] f9 d9)
  (G_at:FnOk P w K mg base CX0 1 f10 d10 ["_law_script","_law_k"] (spAt K)) (M_at:MG K mg "_law_at" ["_law_script","_law_k"] f10 d10)
  (G_refused:FnOk P w K mg base CX0 1 f11 d11 ["_law_found","_law_word"] spRefused) (M_refused:MG K mg "_law_refused" ["_law_found","_law_word"] f11 d11)
  (G_is_way:FnOk P w K mg base CX0 2 f12 d12 ["_law_found","_law_world","_law_start"] spIsWay) (M_is_way:MG K mg "_law_is_way" ["_law_found","_law_world","_law_start"] f12 d12)
  {f13:Addr} {d13:FuncData} (G_on_way:FnOk P w K mg base CX0 1 f13 d13 ["_law_sort","_law_rows","_law_way"] spOn) (M_on_way:MG K mg "_law_on_way" ["_law_sort","_law_rows","_law_way"] f13 d13) :
  FnOk P w K mg base CX0 14 f fd ["_law_script"] (spLaw K):=by
 refine F.ok sc_law (fun vs H Q E h=>?_) (fun cdv A outer s H vs Q E hr h=>?_)
 ·obtain ⟨a,ns,rfl,_⟩:=h
  rfl
 obtain ⟨a,ns,rfl,hS,hl,q⟩:=h
 refine ⟨_,
  (pss_cons (ps_set (i:=1) sc_law.nd rfl (Or.inl rfl) (pe_cm G_count_of M_count_of hr rfl (pa_cons (pv 0) pa_nil)))
  (pss_cons (ps_set (i:=2) sc_law.nd rfl (Or.inl rfl) (pe_cm G_with_others M_with_others hr rfl (pa_cons (pv 0) (pa_cons (pe_cm G_world_of M_world_of hr rfl (pa_cons (pv 1) (pa_cons (pv 0) pa_nil))) pa_nil))))
  (pss_cons (ps_set (i:=3) sc_law.nd rfl (Or.inl rfl) (pe_cm G_first_mark M_first_mark hr rfl (pa_cons (pv 0) pa_nil)))
  (pss_cons (ps_asg (pe_cm G_grown M_grown hr rfl (pa_cons (pe_slice sl_list (pv 0) (po_some pe_int) (po_some (pe_op op_sub (pe_op op_sub pe_int (pe_op op_mul pe_int (pe_callTy call_int1 rfl B.int bInt (pa_cons (pe_cmpR op_gt (pv 1) pe_int (nomark _)) pa_nil)))) (pe_callTy call_int1 rfl B.int bInt (pa_cons (pe_cmpR op_gt (pv 1) pe_int (nomark _)) pa_nil))))) (pa_cons (pv 3) pa_nil))) (pg_tup (n:=2) rfl (pgs_cons (pg_name (i:=4) sc_law.nd rfl (Or.inl rfl)) (pgs_cons (pg_name (i:=5) sc_law.nd rfl (Or.inl rfl)) pgs_nil))))
  (pss_cons (ps_asg (pe_cm G_grown M_grown hr rfl (pa_cons (pe_slice sl_list (pv 0) (po_some pe_int) (po_some pe_int)) (pa_cons (pv 3) pa_nil))) (pg_tup (n:=2) rfl (pgs_cons (pg_name (i:=6) sc_law.nd rfl (Or.inl rfl)) (pgs_cons (pg_name (i:=7) sc_law.nd rfl (Or.inl rfl)) pgs_nil))))
  (pss_cons (ps_set (i:=8) sc_law.nd rfl (Or.inl rfl) (pe_ix ix_list (pe_lst (pa_cons pe_str (pa_cons pe_str pa_nil))) (pe_op op_mod (pe_cm G_at M_at hr rfl (pa_cons (pv 0) (pa_cons pe_int pa_nil))) pe_int) (fun _ _=>rfl)))
  (pss_cons (ps_set (i:=9) sc_law.nd rfl (Or.inl rfl) (pe_ix ix_list (pe_lst (pa_cons pe_str (pa_cons pe_str (pa_cons pe_str (pa_cons pe_str (pa_cons pe_str (pa_cons pe_str pa_nil))))))) (pe_op op_mod (pe_op op_fdiv (pe_cm G_at M_at hr rfl (pa_cons (pv 0) (pa_cons pe_int pa_nil))) pe_int) pe_int) (fun _ _=>rfl)))
  (pss_cons (ps_set (i:=10) sc_law.nd rfl (Or.inl rfl) (pe_tup (pa_cons (pv 9) (pa_cons (pv 8) (pa_cons (pv 4) pa_nil)))))
  (pss_cons (ps_weak (ps_if (pt_cmpR op_eq (pv 9) pe_str (nomark _))
  (pss_cons (ps_set (i:=10) sc_law.nd rfl (Or.inl rfl) (pe_tup (pa_cons (pv 9) (pa_cons (pv 8) (pa_cons (pv 4) (pa_cons (pv 6) pa_nil))))))
  (pss_one (ps_set (i:=5) sc_law.nd rfl (Or.inl rfl) (pe_op op_cat (pv 5) (pv 7)))))
  pss_nil) (wk_un (K:=K)))
  (pss_cons (ps_set (i:=5) sc_law.nd rfl (Or.inl rfl) (pe_op op_cat (pv 5) (pe_lst (pa_cons (pv 10) pa_nil))))
  (pss_cons (ps_asg (pe_cm G_truths_of M_truths_of hr rfl (pa_cons (pv 2) (pa_cons (pv 5) pa_nil))) (pg_tup (n:=2) rfl (pgs_cons (pg_name (i:=11) sc_law.nd rfl (Or.inl rfl)) (pgs_cons (pg_name (i:=12) sc_law.nd rfl (Or.inl rfl)) pgs_nil))))
  (pss_cons (ps_set (i:=13) sc_law.nd rfl (Or.inl rfl) (pe_cm G_copy_of M_copy_of hr rfl (pa_cons (pv 2) pa_nil)))
  (pss_cons (ps_set (i:=14) sc_law.nd rfl (Or.inl rfl) (pe_callTy (call_list_rng rfl) rfl B.list bList (pa_cons (pe_callTy call_rng rfl B.range PyProof.Rows.boot_range (pa_cons (pv 1) pa_nil)) pa_nil)))
  (pss_cons (ps_weak (ps_if (pt_cmpR op_gt (pv 1) pe_int (nomark _))
  (pss_one (ps_set (i:=14) sc_law.nd rfl (Or.inl rfl) (pe_lst (pa_cons pe_int (pa_cons (pe_op op_fdiv (pv 1) pe_int) (pa_cons (pe_op op_sub (pv 1) pe_int) (pa_cons (pe_op op_mod (pe_cm G_at M_at hr rfl (pa_cons (pv 0) (pa_cons pe_int pa_nil))) (pv 1)) pa_nil)))))))
  pss_nil) (wk_states (K:=K)))
  (pss_cons (ps_for PassesOwn.never rfl (pi_list (pv 14)) (pg_name (i:=15) sc_law.nd rfl (Or.inl rfl))
  (pss_cons (ps_set (i:=16) sc_law.nd rfl (Or.inl rfl) (pe_cm G_asked M_asked hr rfl (pa_cons (pv 13) (pa_cons (pv 10) (pa_cons (pv 15) pa_nil)))))
  (pss_one (ps_if (pt_cmpR op_ne (pe_ix ix_list (pv 12) (pv 15) (fun _ _=>rfl)) (pe_cmpR op_eq (pv 8) pe_str (nomark _)) (nomark _))
  (pss_one (ps_if (pt_not (pt_val (pe_cm G_refused M_refused hr rfl (pa_cons (pv 16) (pa_cons pe_str pa_nil)))))
  (pss_one (ps_ret pe_bl))
  pss_nil))
  (pss_one (ps_if (pt_not (pt_val (pe_cm G_is_way M_is_way hr rfl (pa_cons (pv 16) (pa_cons (pv 2) (pa_cons (pv 15) pa_nil))))))
  (pss_one (ps_ret pe_bl))
  (pss_one (ps_if (pt_cmpR op_ne (pe_cm G_on_way M_on_way hr rfl (pa_cons (pv 9) (pa_cons (pv 11) (pa_cons (pv 16) pa_nil)))) (pe_cmpR op_eq (pv 8) pe_str (nomark _)) (nomark _))
  (pss_one (ps_ret pe_bl))
  pss_nil))))))))
  (pss_cons (ps_set (i:=17) sc_law.nd rfl (Or.inl rfl) (pe_cm G_at M_at hr rfl (pa_cons (pv 0) (pa_cons pe_int pa_nil))))
  (pss_cons (ps_set (i:=18) sc_law.nd rfl (Or.inl rfl) (pe_lst (pa_cons (pe_tup (pa_cons pe_str (pa_cons (pv 10) pa_nil))) (pa_cons (pe_tup (pa_cons pe_str (pa_cons (pv 3) pa_nil))) (pa_cons (pe_tup (pa_cons pe_str (pa_cons (pv 10) (pa_cons (pv 10) pa_nil)))) pa_nil)))))
  (pss_cons (ps_set (i:=19) sc_law.nd rfl (Or.inl rfl) (pe_ix ix_list (pe_op op_cat (pv 18) (pe_lst (pa_cons (pe_tup (pa_cons pe_str (pa_cons (pv 4) (pa_cons (pv 10) pa_nil)))) pa_nil))) (pe_op op_mod (pv 17) pe_int) (fun _ _=>rfl)))
  (pss_cons (ps_if (pt_not (pt_val (pe_cm G_refused M_refused hr rfl (pa_cons (pe_cm G_asked M_asked hr rfl (pa_cons (pv 13) (pa_cons (pv 19) (pa_cons (pe_op op_mod (pe_op op_fdiv (pv 17) pe_int) (pv 1)) pa_nil)))) (pa_cons pe_str pa_nil)))))
  (pss_one (ps_ret pe_bl))
  pss_nil)
  (pss_cons (ps_set (i:=20) sc_law.nd rfl (Or.inl rfl) (pe_ix ix_list (pe_lst (pa_cons (pe_un un_neg pe_int) (pa_cons (pe_un un_neg pe_int) (pa_cons (pv 1) (pa_cons (pe_op op_add (pv 1) pe_int) (pa_cons pe_int pa_nil)))))) (pe_op op_mod (pe_cm G_at M_at hr rfl (pa_cons (pv 0) (pa_cons pe_int pa_nil))) pe_int) (fun _ _=>rfl)))
  (pss_cons (ps_for PassesOwn.never rfl (pi_list (pe_lst (pa_cons (pe_tup (pa_cons (pv 10) (pa_cons (pe_un un_neg pe_int) pa_nil))) (pa_cons (pe_tup (pa_cons (pv 10) (pa_cons (pv 20) pa_nil))) (pa_cons (pe_tup (pa_cons (pv 19) (pa_cons (pv 1) pa_nil))) pa_nil))))) (pg_name (i:=21) sc_law.nd rfl (Or.inl rfl))
  (pss_one (ps_if (pt_not (pt_val (pe_cm G_refused M_refused hr rfl (pa_cons (pe_cm G_asked M_asked hr rfl (pa_cons (pv 13) (pa_cons (pe_ix ix_tup (pv 21) pe_int (fun _ _=>rfl)) (pa_cons (pe_ix ix_tup (pv 21) pe_int (fun _ _=>rfl)) pa_nil)))) (pa_cons pe_str pa_nil)))))
  (pss_one (ps_ret pe_bl))
  pss_nil)))
  (pss_one (ps_ret (pe_cm G_same M_same hr rfl (pa_cons (pv 13) (pa_cons (pv 2) pa_nil)))))))))))))))))))))))))),?_⟩
 refine ⟨_,rfl,a,ns,rfl,hS,by omega,fun n H1 n1 n40 s1=>?_⟩
 refine ⟨_,rfl,_,rfl,_,rfl,a,ns,n,rfl,s1.seq hS,by omega,n1,by omega,fun v W0 H2 s2 dv hW0=>?_⟩
 obtain ⟨b0,rfl⟩:=lst_ref dv
 have S2:=s1.trans s2
 refine ⟨a,b0,ns,W0,n,rfl,S2.seq hS,by omega,dv,hW0,by omega,fun v W H3 s3 dW hW=>?_⟩
 clear dv hW0
 obtain ⟨b,rfl⟩:=lst_ref dW
 have S3:=S2.trans s3
 refine ⟨_,rfl,a,ns,rfl,S3.seq hS,by omega,fun fm H3' s3'=>?_⟩
 have S3':=S3.trans s3'
 refine ⟨_,rfl,_,rfl,_,rfl,_,_,rfl,rfl,.inr ⟨_,rfl,?_⟩⟩
 refine ⟨_,_,rfl,rfl,.inl ⟨by decide,by decide⟩,_,_,rfl,rfl,_,rfl,_,_,rfl,rfl,.inr ⟨_,rfl,_,_,rfl,rfl,_,rfl,a,_,rfl,S3'.seq hS,fun c hc=>?_⟩⟩
 obtain ⟨hi,ehi,h16⟩:∃ hi:Nat,10 - 4 * (if decide ((6:Int) < (n:Int)) = true then (1:Int) else 0) - (if decide ((10:Int) < (n:Int)) = true then (1:Int) else 0) = (hi:Int)∧hi ≤ 16:=by
  by_cases c6:(6:Int) < (n:Int)
  ·by_cases c10:(10:Int) < (n:Int)
   ·exact ⟨5,by rw [if_pos (decide_eq_true c6),if_pos (decide_eq_true c10)]; rfl,by decide⟩
   ·exact ⟨6,by rw [if_pos (decide_eq_true c6),if_neg (fun z=>c10 (of_decide_eq_true z))]; rfl,by decide⟩
  ·by_cases c10:(10:Int) < (n:Int)
   ·exact ⟨9,by rw [if_neg (fun z=>c6 (of_decide_eq_true z)),if_pos (decide_eq_true c10)]; rfl,by decide⟩
   ·exact ⟨10,by rw [if_neg (fun z=>c6 (of_decide_eq_true z)),if_neg (fun z=>c10 (of_decide_eq_true z))]; rfl,by decide⟩
 obtain ⟨cs,ecs,lcs⟩:=cut_ints ns (some 3) (some (hi:Int))
 have lcs2:cs.length ≤ 16:=by
  have:=cut_len (ns.map V.int) (some 3) hi
  rw [ecs,List.length_map] at this
  omega
 have ecs':cutV (ns.map V.int) (some 3) (some (10 - 4 * (if decide ((6:Int) < (n:Int)) = true then (1:Int) else 0) - (if decide ((10:Int) < (n:Int)) = true then (1:Int) else 0))) = cs.map V.int:=by rw [ehi]; exact ecs
 rw [ecs']
 have s4:=same_new hc (.lst (cs.map V.int))
 have hc4:upd H3' c (.lst (cs.map V.int)) c = some (.lst (cs.map V.int)):=upd_same
 generalize upd H3' c (.lst (cs.map V.int)) = H4 at s4 hc4
 have S4:=S3'.trans s4
 refine ⟨_,rfl,c,fm,cs,rfl,hc4,by omega,fun v t1 H5 s5 dv ft1 lt1=>?_⟩
 obtain ⟨tv,tvs,rfl,etv,dtv⟩:=DAt.tup_inv dv
 cases dtv with | cons dt dtv=>cases dtv with | cons dps dtv =>
 cases dtv
 obtain ⟨l1,rfl⟩:∃ a,_ = V.ref a:=lst_ref dps
 obtain ⟨p1,rfl⟩:∃ a,_ = V.ref a:=tdat_ref dt
 refine ⟨tv,_,rfl,SqT.of etv,rfl,_,_,rfl,_,_,rfl,rfl,?_⟩
 have S5:=S4.trans s5
 refine ⟨_,rfl,_,rfl,_,rfl,a,_,rfl,S5.seq hS,fun c2 hc2=>?_⟩
 obtain ⟨cs2,ecs2,_⟩:=cut_ints ns (some 10) (some ((13:Nat):Int))
 have lc2:cs2.length ≤ 13:=by
  have:=cut_len (ns.map V.int) (some 10) 13
  rw [ecs2,List.length_map] at this
  omega
 have ecs2':cutV (ns.map V.int) (some 10) (some 13) = cs2.map V.int:=ecs2
 rw [ecs2']
 have s6:=same_new hc2 (.lst (cs2.map V.int))
 have hc6:upd H5 c2 (.lst (cs2.map V.int)) c2 = some (.lst (cs2.map V.int)):=upd_same
 generalize upd H5 c2 (.lst (cs2.map V.int)) = H6 at s6 hc6
 refine ⟨_,rfl,c2,fm,cs2,rfl,hc6,by omega,fun v t2 H7 s7 dv2 ft2 lt2=>?_⟩
 obtain ⟨tw,tws,rfl,etw,dtw⟩:=DAt.tup_inv dv2
 cases dtw with | cons du dtw=>cases dtw with | cons dqs dtw =>
 cases dtw
 obtain ⟨l2,rfl⟩:∃ a,_ = V.ref a:=lst_ref dqs
 obtain ⟨p2,rfl⟩:∃ a,_ = V.ref a:=tdat_ref du
 refine ⟨tw,_,rfl,SqT.of etw,rfl,_,_,rfl,_,_,rfl,rfl,?_⟩
 have u7:=s6.trans s7
 have S7:=S5.trans u7
 clear ecs' ecs2' ecs ecs2 ehi
 refine ⟨line_le (by show 2 ≤ 16000000; decide),fun l8 hl8=>?_⟩
 have s8:=same_new hl8 (.lst [V.str "some",V.str "all"])
 have h8:upd H7 l8 (.lst [V.str "some",V.str "all"]) l8 = some (.lst [V.str "some",V.str "all"]):=upd_same
 generalize upd H7 l8 (.lst [V.str "some",V.str "all"]) = H8 at s8 h8
 have S8:=S7.trans s8
 refine ⟨_,rfl,a,ns,2,rfl,S8.seq hS,by omega,fun z1 H9 s9=>?_⟩
 obtain ⟨v1,a1,m1⟩:=pick_mod (xs:=[V.str "some",V.str "all"]) (z:=z1) (n:=2) rfl (by decide)
 refine ⟨_,_,rfl,rfl,(by show (0:Int) < 2; decide),l8,_,_,v1,rfl,rfl,SqL.of (s9 _ _ h8),a1,?_⟩
 obtain ⟨wh,rfl,hwh⟩:∃ wh:Str,v1 = .str wh∧(wh = "some" ∨ wh = "all"):=by
  simp only [List.mem_cons,List.not_mem_nil,or_false] at m1
  rcases m1 with rfl | rfl
  ·exact ⟨_,rfl,.inl rfl⟩
  ·exact ⟨_,rfl,.inr rfl⟩
 have S9:=S8.trans s9
 refine ⟨line_le (by show 6 ≤ 16000000; decide),fun l10 hl10=>?_⟩
 have s10:=same_new hl10 (.lst [V.str "until",V.str "always",V.str "last",V.str "again",V.str "settle",V.str "next"])
 have h10:upd H9 l10 (.lst [V.str "until",V.str "always",V.str "last",V.str "again",V.str "settle",V.str "next"]) l10 = some (.lst [V.str "until",V.str "always",V.str "last",V.str "again",V.str "settle",V.str "next"]):=upd_same
 generalize upd H9 l10 (.lst [V.str "until",V.str "always",V.str "last",V.str "again",V.str "settle",V.str "next"]) = H10 at s10 h10
 have S10:=S9.trans s10
 refine ⟨_,rfl,a,ns,2,rfl,S10.seq hS,by omega,fun z2 H11 s11=>?_⟩
 obtain ⟨v2,a2,m2⟩:=pick_mod (xs:=[V.str "until",V.str "always",V.str "last",V.str "again",V.str "settle",V.str "next"]) (z:=z2 / 2) (n:=6) rfl (by decide)
 refine ⟨_,_,rfl,rfl,⟨by decide,by decide⟩,_,_,rfl,rfl,(by show (0:Int) < 6; decide),l10,_,_,v2,rfl,rfl,SqL.of (s11 _ _ h10),a2,?_⟩
 obtain ⟨so,rfl,hso⟩:∃ so:Str,v2 = .str so∧sixB so:=by
  simp only [List.mem_cons,List.not_mem_nil,or_false] at m2
  rcases m2 with rfl | rfl | rfl | rfl | rfl | rfl
  ·exact ⟨_,rfl,.inr (.inl rfl)⟩
  ·exact ⟨_,rfl,.inr (.inr (.inr (.inl rfl)))⟩
  ·exact ⟨_,rfl,.inr (.inr (.inl rfl))⟩
  ·exact ⟨_,rfl,.inr (.inr (.inr (.inr (.inl rfl))))⟩
  ·exact ⟨_,rfl,.inr (.inr (.inr (.inr (.inr rfl))))⟩
  ·exact ⟨_,rfl,.inl rfl⟩
 have S11:=S10.trans s11
 clear m1 m2 a1 a2
 refine ⟨_,rfl,_,rfl,_,rfl,line_le (by show 3 ≤ 16000000; decide),fun s0 hs0=>?_⟩
 have s12:=same_new hs0 (.tup [V.str so,V.str wh,V.ref p1])
 have h12:upd H11 s0 (.tup [V.str so,V.str wh,V.ref p1]) s0 = some (.tup [V.str so,V.str wh,V.ref p1]):=upd_same
 generalize upd H11 s0 (.tup [V.str so,V.str wh,V.ref p1]) = H12 at s12 h12
 have u12:=s8.trans (s9.trans (s10.trans (s11.trans s12)))
 have S12:=S7.trans u12
 have U12:=u7.trans u12
 refine ⟨a,b,p1,l1,p2,l2,s0,n,fm,wh,so,t1,t2,rfl,h12,dt.mono U12,dps.mono U12,du.mono u12,dqs.mono u12,ft1,ft2,lt1,lt2,hso,hwh,fun s' l' t ps H13 s13 ds dl eps ft eso ewh lps=>?_⟩
 have S13:=S12.trans s13
 obtain ⟨l'',vs,e,hL,dvs⟩:=DAt.lst_inv dl
 cases e
 have lv:=dvs.length
 rw [List.length_map] at lv
 refine ⟨V.ref l',rfl,V.ref s',rfl,line_le (by show 1 ≤ 16000000; decide),fun l3 hl3=>?_⟩
 have s14:=same_new hl3 (.lst [V.ref s'])
 have h14:upd H13 l3 (.lst [V.ref s']) l3 = some (.lst [V.ref s']):=upd_same
 generalize upd H13 l3 (.lst [V.ref s']) = H14 at s14 h14
 refine ⟨l',l3,vs,_,rfl,rfl,s14 _ _ hL,h14,line_le (by show vs.length + 1 ≤ 16000000; omega),fun l4 hl4=>?_⟩
 have s15:=same_new hl4 (.lst (vs ++ [V.ref s']))
 have h15:upd H14 l4 (.lst (vs ++ [V.ref s'])) l4 = some (.lst (vs ++ [V.ref s'])):=upd_same
 generalize upd H14 l4 (.lst (vs ++ [V.ref s'])) = H15 at s15 h15
 have u15:=s14.trans s15
 have S15:=S13.trans u15
 have ds15:=ds.mono u15
 have dl15:DAt H15 (.ref l4) (.lst (t.parts.map T.dat)):=by
  rw [eps,List.map_append]
  exact .lst h15 ((dvs.mono u15).append (.cons ds15 .nil))
 have lt:t.parts.length ≤ 201:=by rw [eps,List.length_append]; show ps.length + 1 ≤ 201; omega
 have dW15:=dW.mono (s3'.trans (s4.trans (s5.trans (U12.trans (s13.trans u15)))))
 refine ⟨_,rfl,_,rfl,b,l4,n,200,W,t,rfl,dW15,hW,by omega,by decide,dl15,ft,by omega,fun tq rr tz H16 s16 htq RR hz=>?_⟩
 refine ⟨tq,_,rfl,SqT.of htq,rfl,_,_,rfl,_,_,rfl,rfl,?_⟩
 have dW16:=dW15.mono s16
 refine ⟨_,rfl,b,W,rfl,dW16,by rw [hW.len]; omega,fun v H17 s17 dh=>?_⟩
 obtain ⟨ha,rfl⟩:=lst_ref dh
 refine ⟨_,rfl,(n:Int),rfl,fun ra hra=>⟨ra,n,rfl,upd_same,by omega,fun st hst=>?_⟩⟩
 rw [rng_ints]
 have s18:=(same_new hra (.rng 0 (n:Int))).trans (same_new hst (.lst (((List.range n).map fun i:Nat=>(i:Int)).map V.int)))
 have h18:upd (upd H17 ra (.rng 0 (n:Int))) st (.lst (((List.range n).map fun i:Nat=>(i:Int)).map V.int)) st = some (.lst (((List.range n).map fun i:Nat=>(i:Int)).map V.int)):=upd_same
 generalize upd (upd H17 ra (.rng 0 (n:Int))) st (.lst (((List.range n).map fun i:Nat=>(i:Int)).map V.int)) = H18 at s18 h18
 have u18:=s16.trans (s17.trans s18)
 have S18:=S15.trans u18
 refine ⟨a,st,n,ns,(List.range n).map fun i:Nat=>(i:Int),[some (.ref b),some (.int fm),some (.ref p1),some (.ref l4),some (.ref p2),some (.ref l2),some (.str wh),some (.str so),some (.ref s'),some (.ref rr),some (.ref tz),some (.ref ha)],[none,none,none,none,none,none,none],rfl,rfl,S18.seq hS,by omega,n1,h18,fun z hz=>?_,by rw [List.length_map,List.length_range]; omega,fun st' zs H19 s19 h19 hzs lzs=>?_⟩
 ·obtain ⟨i,hi,rfl⟩:=List.mem_map.mp hz
  rw [List.mem_range] at hi
  omega
 have S19:=S18.trans s19
 have u19:=u18.trans s19
 have ds19:=ds15.mono u19
 have dW19:=dW15.mono u19
 have dh19:=dh.mono (s18.trans s19)
 have hz19:=(s17.trans (s18.trans s19)) _ _ hz
 have RR19:=RR.keep (s17.trans (s18.trans s19))
 have dp19:=dt.mono (U12.trans (s13.trans (u15.trans u19)))
 have hpl:plainB t.so = false:=by
  rw [eso]
  rcases hso with rfl | rfl | rfl | rfl | rfl | rfl <;> decide +kernel
 have hab:abB t = true:=by rw [ab_plain ft,hpl]; rfl
 have ltr:=trW_len hW ft
 have ew:decide (V.str wh = V.str "some") = decide (t.wh = "some"):=by
  rw [ewh]
  by_cases h:wh = "some"
  ·rw [decide_eq_true h,decide_eq_true (congrArg V.str h)]
  ·rw [decide_eq_false h,decide_eq_false fun z=>h (V.str.inj z)]
 clear s1 s2 s3 s3' s4 s5 s6 s7 s8 s9 s10 s11 s12 s13 s14 s15 s16 s17 s18 s19 S2 S3 S3' S4 S5 S7 S8 S9 S10 S11 S12 S13 S15 S18 u7 u12 u15 u18 u19 U12
 refine ⟨_,rfl,st',rfl,⟨_,SqL.of h19⟩,for_list (K:=K) (a:=st') (xs:=zs.map V.int)
  (fun i σ' H'=>∃ (o15 o16:Option V),σ' = [some (.ref a),some (.int (n:Int)),some (.ref b),some (.int fm),some (.ref p1),some (.ref l4),some (.ref p2),some (.ref l2),some (.str wh),some (.str so),some (.ref s'),some (.ref rr),some (.ref tz),some (.ref ha),some (.ref st'),o15,o16,none,none,none,none,none]∧Same H19 H')
  ⟨none,none,rfl,Same.refl _⟩ (fun i σ' H' _ ⟨_,_,_,sm⟩=>SqL.of (sm _ _ h19)) ?_ ?_⟩
 ·rintro i y σ' H20 hy ⟨o15,o16,rfl,s20⟩
  obtain ⟨x,rfl,hx⟩:=int_mem hy
  obtain ⟨x0,x1⟩:=hzs x (List.mem_of_getElem? hx)
  have etr:atI ((trW W t).map V.bl) x = some (V.bl ((trW W t).getD x.toNat false)):=by
   have:=row_at (H:=H20) (a:=a) (l:=trW W t) (k:=x.toNat) (by omega)
   rwa [show ((x.toNat:Nat):Int) = x by omega] at this
  refine ⟨_,rfl,_,rfl,_,rfl,ha,s',x,n,200,W,t,rfl,dh19.mono s20,hW,by omega,by decide,ds19.mono s20,ft,by omega,fun h=>absurd ⟨x0,x1⟩ h,fun _ _ hq H21 s21=>?_,fun _ _ _ hq fq fr row bk H21 s21 hfq hfr pa r0 lrow lbk cl on=>?_⟩
  ·have S21:=s20.trans s21
   refine ⟨_,rfl,_,rfl,tz,_,_,_,rfl,rfl,SqL.of (S21 _ _ hz19),etr,_,rfl,rfl,rfl,_,rfl,?_⟩
   rw [ew,dec_bl2,hq hab]
   have en:(!decide ((!decide (t.wh = "some")) = decide (t.wh = "some"))) = true:=by cases decide (t.wh = "some") <;> rfl
   rw [en]
   exact iteT ⟨_,rfl,"no way",rfl,_,rfl,iteF ⟨_,_,rfl,S21⟩⟩
  ·have S21:=s20.trans s21
   refine ⟨_,rfl,_,rfl,tz,_,_,_,rfl,rfl,SqL.of (S21 _ _ hz19),etr,_,rfl,rfl,rfl,_,rfl,?_⟩
   rw [ew,dec_bl2,hq,decide_eq_true rfl]
   refine iteF ⟨_,rfl,_,rfl,_,rfl,fq,b,fr,x,n,200,W,row,bk,rfl,hfq,hfr,dW19.mono S21,hW,by omega,by decide,pa,r0,lrow,lbk,cl,fun H22 s22=>⟨_,rfl,iteF ?_⟩⟩
   have S22:=S21.trans s22
   have kp:=kids_pos ft (by intro z; rw [z] at hpl; revert hpl; decide +kernel)
   have RR22:=RR19.keep S22
   have l0:((t.kids.map (trW W)).getD 0 []).length = n:=by
    rw [getD_eq (by rw [List.length_map]; exact kp),List.getElem_map]
    exact trW_len hW (kid_fit ft (List.getElem_mem kp))
   refine ⟨_,rfl,_,rfl,_,rfl,so,rr,fq,t.kids.map (trW W),row,bk,n,rfl,RR22.at_,.tup (s22 _ _ hfq) (.cons (.of_ints (s22 _ _ hfr)) (.cons (.int _) .nil)),by rw [List.length_map]; exact kp,l0,fun hu=>?_,pa.inn,by omega,lbk,fun H23 s23=>?_⟩
   ·have k2:=kids_until ft (eso.trans hu)
    refine ⟨by rw [List.length_map]; exact k2,?_⟩
    rw [getD_eq (by rw [List.length_map]; exact k2),List.getElem_map]
    exact trW_len hW (kid_fit ft (List.getElem_mem k2))
   ·rw [← eso,on]
    refine ⟨_,rfl,rfl,rfl,_,rfl,?_⟩
    rw [ew,dec_bl2,decide_eq_true rfl]
    exact iteF ⟨_,_,rfl,S22.trans s23⟩
 rintro σ' H20 ⟨o15,o16,rfl,s20⟩
 have S20:=S19.trans s20
 refine ⟨_,rfl,a,ns,13,rfl,S20.seq hS,by omega,fun zc H21 s21=>?_⟩
 have S21:=S20.trans s21
 refine ⟨_,rfl,line_le (by show 2 ≤ 16000000; decide),fun v1 hv1=>?_⟩
 have e1:upd H21 v1 (.tup [V.str "not",V.ref s']) v1 = some (.tup [V.str "not",V.ref s']):=upd_same
 have k1:=same_new hv1 (.tup [V.str "not",V.ref s'])
 generalize upd H21 v1 (.tup [V.str "not",V.ref s']) = G1 at e1 k1
 refine ⟨_,rfl,line_le (by show 2 ≤ 16000000; decide),fun v2 hv2=>?_⟩
 have e2:upd G1 v2 (.tup [V.str "mark",V.int fm]) v2 = some (.tup [V.str "mark",V.int fm]):=upd_same
 have k2:=same_new hv2 (.tup [V.str "mark",V.int fm])
 generalize upd G1 v2 (.tup [V.str "mark",V.int fm]) = G2 at e2 k2
 refine ⟨_,rfl,_,rfl,line_le (by show 3 ≤ 16000000; decide),fun v3 hv3=>?_⟩
 have e3:upd G2 v3 (.tup [V.str "and",V.ref s',V.ref s']) v3 = some (.tup [V.str "and",V.ref s',V.ref s']):=upd_same
 have k3:=same_new hv3 (.tup [V.str "and",V.ref s',V.ref s'])
 generalize upd G2 v3 (.tup [V.str "and",V.ref s',V.ref s']) = G3 at e3 k3
 refine ⟨line_le (by show 3 ≤ 16000000; decide),fun lo hlo=>?_⟩
 have e4:upd G3 lo (.lst [V.ref v1,V.ref v2,V.ref v3]) lo = some (.lst [V.ref v1,V.ref v2,V.ref v3]):=upd_same
 have k4:=same_new hlo (.lst [V.ref v1,V.ref v2,V.ref v3])
 generalize upd G3 lo (.lst [V.ref v1,V.ref v2,V.ref v3]) = G4 at e4 k4
 refine ⟨_,rfl,_,rfl,_,rfl,line_le (by show 3 ≤ 16000000; decide),fun v4 hv4=>?_⟩
 have e5:upd G4 v4 (.tup [V.str "or",V.ref p1,V.ref s']) v4 = some (.tup [V.str "or",V.ref p1,V.ref s']):=upd_same
 have k5:=same_new hv4 (.tup [V.str "or",V.ref p1,V.ref s'])
 generalize upd G4 v4 (.tup [V.str "or",V.ref p1,V.ref s']) = G5 at e5 k5
 refine ⟨line_le (by show 1 ≤ 16000000; decide),fun lq hlq=>?_⟩
 have e6:upd G5 lq (.lst [V.ref v4]) lq = some (.lst [V.ref v4]):=upd_same
 have k6:=same_new hlq (.lst [V.ref v4])
 generalize upd G5 lq (.lst [V.ref v4]) = G6 at e6 k6
 refine ⟨lo,lq,_,_,rfl,rfl,k6 _ _ (k5 _ _ e4),e6,line_le (by show 4 ≤ 16000000; decide),fun lc hlc=>?_⟩
 have e7:upd G6 lc (.lst [V.ref v1,V.ref v2,V.ref v3,V.ref v4]) lc = some (.lst [V.ref v1,V.ref v2,V.ref v3,V.ref v4]):=upd_same
 have k7:=same_new hlc (.lst [V.ref v1,V.ref v2,V.ref v3,V.ref v4])
 have g7:Same H19 (upd G6 lc (.lst [V.ref v1,V.ref v2,V.ref v3,V.ref v4])):=s20.trans (s21.trans (k1.trans (k2.trans (k3.trans (k4.trans (k5.trans (k6.trans k7)))))))
 have odds:=odd_ok (fm:=fm) (ds19.mono g7) ft lt (dp19.mono g7) ft1 lt1 ((k2.trans (k3.trans (k4.trans (k5.trans (k6.trans k7))))) _ _ e1) ((k3.trans (k4.trans (k5.trans (k6.trans k7)))) _ _ e2) ((k4.trans (k5.trans (k6.trans k7))) _ _ e3) ((k6.trans k7) _ _ e5)
 have ech:([V.ref v1,V.ref v2,V.ref v3] ++ [V.ref v4]:List V) = [V.ref v1,V.ref v2,V.ref v3,V.ref v4]:=rfl
 rw [ech]
 generalize upd G6 lc (.lst [V.ref v1,V.ref v2,V.ref v3,V.ref v4]) = G7 at e7 k7 g7 odds
 obtain ⟨ov,aov,mov⟩:=pick_mod (xs:=[V.ref v1,V.ref v2,V.ref v3,V.ref v4]) (z:=zc) (n:=4) rfl (by decide)
 obtain ⟨o,u,rfl,dou,fu,abu,lu⟩:=odds ov mov
 refine ⟨_,rfl,_,_,rfl,rfl,(by show (0:Int) < 4; decide),lc,_,_,_,rfl,rfl,SqL.of e7,aov,?_⟩
 have np:(0:Int) < (n:Int):=by omega
 have m0:=Int.emod_nonneg (zc / 4) (show (n:Int) ≠ 0 by omega)
 have m1:=Int.emod_lt_of_pos (zc / 4) np
 refine ⟨_,rfl,_,rfl,_,rfl,_,_,rfl,rfl,⟨by decide,by decide⟩,_,rfl,_,_,rfl,rfl,np,ha,o,_,n,200,W,u,rfl,dh19.mono g7,hW,by omega,by decide,dou,fu,lu,fun h=>absurd ⟨m0,m1⟩ h,fun _ _ _ H22 s22=>?_,fun _ _ h=>absurd h (by rw [abu]; exact Bool.false_ne_true)⟩
 have g22:=g7.trans s22
 refine ⟨"no way",rfl,_,rfl,iteF ?_⟩
 refine ⟨_,rfl,_,rfl,_,rfl,_,rfl,_,_,rfl,rfl,line_le (by show 5 ≤ 16000000; decide),fun lb hlb=>?_⟩
 have e8:upd H22 lb (.lst [V.int (-1),V.int (-2),V.int (n:Int),V.int ((n:Int) + 1),V.int 1000000000000]) lb = some (.lst [V.int (-1),V.int (-2),V.int (n:Int),V.int ((n:Int) + 1),V.int 1000000000000]):=upd_same
 have k8:=same_new hlb (.lst [V.int (-1),V.int (-2),V.int (n:Int),V.int ((n:Int) + 1),V.int 1000000000000])
 generalize upd H22 lb (.lst [V.int (-1),V.int (-2),V.int (n:Int),V.int ((n:Int) + 1),V.int 1000000000000]) = G8 at e8 k8
 have g8:=g22.trans k8
 refine ⟨_,rfl,a,ns,14,rfl,(S19.trans g8).seq hS,by omega,fun zb G9 k9=>?_⟩
 obtain ⟨bv,abv,mbv⟩:=pick_mod (xs:=[V.int (-1),V.int (-2),V.int (n:Int),V.int ((n:Int) + 1),V.int 1000000000000]) (z:=zb) (n:=5) rfl (by decide)
 refine ⟨_,_,rfl,rfl,(by show (0:Int) < 5; decide),lb,_,_,bv,rfl,rfl,SqL.of (k9 _ _ e8),abv,?_⟩
 obtain ⟨be,rfl,hbe⟩:∃ be:Int,bv = .int be∧¬ (0 ≤ be∧be < (n:Int)):=by
  simp only [List.mem_cons,List.not_mem_nil,or_false] at mbv
  rcases mbv with rfl | rfl | rfl | rfl | rfl
  ·exact ⟨_,rfl,by omega⟩
  ·exact ⟨_,rfl,by omega⟩
  ·exact ⟨_,rfl,by omega⟩
  ·exact ⟨_,rfl,by omega⟩
  ·exact ⟨_,rfl,by omega⟩
 have g9:=g8.trans k9
 refine ⟨_,rfl,_,rfl,line_le (by show 2 ≤ 16000000; decide),fun w1 hw1=>?_⟩
 have f1':upd G9 w1 (.tup [V.ref s',V.int (-1)]) w1 = some (.tup [V.ref s',V.int (-1)]):=upd_same
 have j1:=same_new hw1 (.tup [V.ref s',V.int (-1)])
 generalize upd G9 w1 (.tup [V.ref s',V.int (-1)]) = J1 at f1' j1
 refine ⟨_,rfl,_,rfl,line_le (by show 2 ≤ 16000000; decide),fun w2 hw2=>?_⟩
 have f2':upd J1 w2 (.tup [V.ref s',V.int be]) w2 = some (.tup [V.ref s',V.int be]):=upd_same
 have j2:=same_new hw2 (.tup [V.ref s',V.int be])
 generalize upd J1 w2 (.tup [V.ref s',V.int be]) = J2 at f2' j2
 refine ⟨_,rfl,_,rfl,line_le (by show 2 ≤ 16000000; decide),fun w3 hw3=>?_⟩
 have f3':upd J2 w3 (.tup [V.ref o,V.int (n:Int)]) w3 = some (.tup [V.ref o,V.int (n:Int)]):=upd_same
 have j3:=same_new hw3 (.tup [V.ref o,V.int (n:Int)])
 generalize upd J2 w3 (.tup [V.ref o,V.int (n:Int)]) = J3 at f3' j3
 refine ⟨line_le (by show 3 ≤ 16000000; decide),fun lp hlp=>?_⟩
 have f4':upd J3 lp (.lst [V.ref w1,V.ref w2,V.ref w3]) lp = some (.lst [V.ref w1,V.ref w2,V.ref w3]):=upd_same
 have j4:=same_new hlp (.lst [V.ref w1,V.ref w2,V.ref w3])
 generalize upd J3 lp (.lst [V.ref w1,V.ref w2,V.ref w3]) = J4 at f4' j4
 have gJ:=g9.trans (j1.trans (j2.trans (j3.trans j4)))
 have pairs:∀ y ∈ [V.ref w1,V.ref w2,V.ref w3],∃ (wv o:Addr) (u:T) (e:Int),y = .ref wv∧J4 wv = some (.tup [.ref o,.int e])∧DAt J4 (.ref o) u.dat∧u.fit∧u.parts.length ≤ 1000∧¬ (0 ≤ e∧e < (n:Int)):=by
  intro y hy
  simp only [List.mem_cons,List.not_mem_nil,or_false] at hy
  rcases hy with rfl | rfl | rfl
  ·exact ⟨w1,s',t,-1,rfl,(j2.trans (j3.trans j4)) _ _ f1',ds19.mono gJ,ft,by omega,by omega⟩
  ·exact ⟨w2,s',t,be,rfl,(j3.trans j4) _ _ f2',ds19.mono gJ,ft,by omega,hbe⟩
  ·exact ⟨w3,o,u,(n:Int),rfl,j4 _ _ f3',dou.mono (s22.trans (k8.trans (k9.trans (j1.trans (j2.trans (j3.trans j4)))))),fu,lu,by omega⟩
 refine ⟨lp,rfl,⟨_,SqL.of f4'⟩,for_list (K:=K) (a:=lp) (xs:=[V.ref w1,V.ref w2,V.ref w3])
  (fun i σ' H'=>∃ (o21:Option V),σ' = [some (.ref a),some (.int (n:Int)),some (.ref b),some (.int fm),some (.ref p1),some (.ref l4),some (.ref p2),some (.ref l2),some (.str wh),some (.str so),some (.ref s'),some (.ref rr),some (.ref tz),some (.ref ha),some (.ref st'),o15,o16,some (.int zc),some (.ref lo),some (.ref o),some (.int be),o21]∧Same J4 H')
  ⟨none,rfl,Same.refl _⟩ (fun i σ' H' _ ⟨_,_,sm⟩=>SqL.of (sm _ _ f4')) ?_ ?_⟩
 ·rintro i y σ' H30 hy ⟨o21,rfl,s30⟩
  obtain ⟨wv,o',u',e',rfl,hw,du',fu',lu',ne'⟩:=pairs y (List.mem_of_getElem? hy)
  refine ⟨_,rfl,_,rfl,wv,_,_,_,rfl,rfl,SqT.of (s30 _ _ hw),at0,_,rfl,wv,_,_,_,rfl,rfl,SqT.of (s30 _ _ hw),at1,ha,o',e',n,200,W,u',rfl,dh19.mono (gJ.trans s30),hW,by omega,by decide,du'.mono s30,fu',lu',fun _ H31 s31=>?_,fun h0 h1=>absurd ⟨h0,h1⟩ ne',fun h0 h1=>absurd ⟨h0,h1⟩ ne'⟩
  exact ⟨"no state",rfl,_,rfl,iteF ⟨_,rfl,s30.trans s31⟩⟩
 ·rintro σ' H30 ⟨o21,rfl,s30⟩
  refine ⟨_,rfl,_,rfl,.ref ha,.ref b,wdat W,rfl,dh19.mono (gJ.trans s30),dW19.mono (gJ.trans s30),?_,fun H31 _=>q H31⟩
  have q1:=wdat_wt hW
  have q3:n * (2 * 200 + 3) ≤ 40 * (2 * 200 + 3):=Nat.mul_le_mul_right _ n40
  omega
end
end Ws
namespace Ws
open PySem L2
def MF (K:PySem.W.Frag) (mg:Str→Option Value) (x:Str) (st:Stmt) (ps:List Str):Prop:=∃ (f:Addr) (fd:FuncData),Fun K x x st f fd∧MG K mg x ps f fd
theorem mf_of {K:PySem.W.Frag} {h:Heap} {mg:Str→Option Value} {x:Str} {st:Stmt} {ps:List Str} {f:Addr} {od an:Option Addr} {sl:Array (Option Value)} {oc kV dc pm cd ct:Value} (X:K.In h) (G:h.Ns mainGlobals mg)
  (a:PySem.W.nsIn K mainGlobals x = some (some (.ref f))) (l:K.lookup f = some ⟨oc,od,.func (PySem.W.fnOf x x (defArgs st) (defBody st) (defScope st) .none kV dc pm an cd ct),sl⟩) (c:PySem.W.codeIn K cd x = true) (k:PySem.W.keepIn K (.ref f) = true)
  (hb:∀ (kV doc pm:Value) (an:Option Addr) (cdv ct:Value) (us:List Value),us.length = ps.length→bindArgs (PySem.W.fnOf x x (defArgs st) (defBody st) (defScope st) .none kV doc pm an cdv ct) ⟨us,[]⟩ = pure (ps.zip us)):MF K mg x st ps :=
 ⟨f,_,fun_mk l c k,⟨PySem.W.mg_of X G a,k,(fun_mk l c k).binds hb⟩⟩
theorem all_mk {l:PySem.W.OpenLaw} {w:World} {K:PySem.W.Frag} {h:Heap} {mg:Str→Option Value} {fa:Addr} (X:K.In h) (G:h.Ns mainGlobals mg) (hfa:mg "law" = some (.ref fa))
  (p1:MF K mg "marks_of" sd_marks_of ["world","place"])
  (p2:MF K mg "doors_of" sd_doors_of ["world","place"])
  (p3:MF K mg "is_state" sd_is_state ["world","number"])
  (p4:MF K mg "check_world" sd_check_world ["world"])
  (p5:MF K mg "truths_of" sd_p_truths_of ["labels"])
  (p6:MF K mg "turned" sd_p_turned ["truths"])
  (p7:MF K mg "turned_labels" sd_turned_labels ["labels"])
  (p8:MF K mg "everywhere" sd_everywhere ["world"])
  (p9:MF K mg "door_to" sd_door_to ["world","place","wanted"])
  (p10:MF K mg "some_next" sd_some_next ["world","here"])
  (p11:MF K mg "joined_label" sd_joined_label ["world","place","reached","number","who"])
  (p12:MF K mg "grown_labels" sd_grown_labels ["world","left","right","who"])
  (p13:MF K mg "with_false_doors" sd_with_false_doors ["world","left","labels"])
  (p14:MF K mg "some_until" sd_some_until ["world","left","right"])
  (p15:MF K mg "all_until" sd_all_until ["world","left","right"])
  (p16:MF K mg "reaching" sd_reaching ["world","here","kept"])
  (p17:MF K mg "most_times" sd_most_times ["world","here"])
  (p18:MF K mg "all_next" sd_all_next ["world","here"])
  (p19:MF K mg "some_again" sd_some_again ["world","here"])
  (p20:MF K mg "all_again" sd_all_again ["world","here"])
  (p21:MF K mg "other_who" sd_other_who ["who"])
  (p22:MF K mg "plain_truths" sd_plain_truths ["world","part","own"])
  (p23:MF K mg "root_form" sd_root_form ["world","part","own"])
  (p24:MF K mg "is_about_ways" sd_is_about_ways ["sentence"])
  (p25:MF K mg "own_parts" sd_own_parts ["sentence"])
  (p26:MF K mg "parts_of" sd_parts_of ["sentence"])
  (p27:MF K mg "own_places" sd_own_places ["parts"])
  (p28:MF K mg "labels_of_root" sd_labels_of_root ["world","word","who","truths"])
  (p29:MF K mg "labels_of" sd_labels_of ["world","part","own"])
  (p30:MF K mg "table_of" sd_table_of ["world","sentence"])
  (p31:MF K mg "_law_draw" sd_draw ["_law_number","_law_prime","_law_many"])
  (p32:MF K mg "_law_whole" sd_whole ["_law_found"])
  (p33:MF K mg "_law_at" sd_at ["_law_script","_law_k"])
  (p34:MF K mg "_law_same" sd_same ["_law_found","_law_due"])
  (p35:MF K mg "_law_sort_of" sd_sort_of ["_law_cell"])
  (p36:MF K mg "_law_sentence_of" sd_sentence_of ["_law_sort","_law_who","_law_inner"])
  (p37:MF K mg "_law_joined" sd_joined ["_law_pile","_law_sort","_law_who","_law_many"])
  (p38:MF K mg "_law_grown" sd_grown ["_law_cells","_law_first"])
  (p39:MF K mg "_law_first_mark" sd_first_mark ["_law_script"])
  (p40:MF K mg "_law_count_of" sd_count_of ["_law_script"])
  (p41:MF K mg "_law_line_of" sd_line_of ["_law_count","_law_script"])
  (p42:MF K mg "_law_world_of" sd_world_of ["_law_count","_law_script"])
  (p43:MF K mg "_law_copy_of" sd_copy_of ["_law_world"])
  (p44:MF K mg "_law_with_others" sd_with_others ["_law_script","_law_world"])
  (p45:MF K mg "_law_arity" sd_arity ["_law_part"])
  (p46:MF K mg "_law_before" sd_before ["_law_world","_law_who","_law_row"])
  (p47:MF K mg "_law_until_truth" sd_until_truth ["_law_world","_law_who","_law_left","_law_right"])
  (p48:MF K mg "_law_always_truth" sd_always_truth ["_law_world","_law_who","_law_here"])
  (p49:MF K mg "_law_again_truth" sd_again_truth ["_law_world","_law_who","_law_here"])
  (p50:MF K mg "_law_way_truth" sd_way_truth ["_law_world","_law_part","_law_rows"])
  (p51:MF K mg "_law_truth_of" sd_truth_of ["_law_world","_law_part","_law_rows"])
  (p52:MF K mg "_law_on_way" sd_on_way ["_law_sort","_law_rows","_law_way"])
  (p53:MF K mg "step_from" sd_step_from ["world","labels","place"])
  (p54:MF K mg "follow" sd_follow ["world","labels","state"])
  (p55:MF K mg "way_for" sd_way_for ["world","sentence","state"])
  (p56:MF K mg "_law_refused" sd_refused ["_law_found","_law_word"])
  (p57:MF K mg "_law_asked" sd_asked ["_law_world","_law_sentence","_law_state"])
  (p58:MF K mg "_law_truths_of" sd_truths_of ["_law_world","_law_parts"])
  (p59:MF K mg "_law_is_way" sd_is_way ["_law_found","_law_world","_law_start"])
  {f60:Addr} {od60 an60:Option Addr} {sl60:Array (Option Value)} {oc60 kV60 dc60 pm60 cd60 ct60:Value}
  (a60:PySem.W.nsIn K mainGlobals "law" = some (some (.ref f60))) (l60:K.lookup f60 = some ⟨oc60,od60,.func (PySem.W.fnOf "law" "law" (defArgs sd_law) (defBody sd_law) (defScope sd_law) .none kV60 dc60 pm60 an60 cd60 ct60),sl60⟩) (c60:PySem.W.codeIn K cd60 "law" = true) (k60:PySem.W.keepIn K (.ref f60) = true)
  {c_NoState:Addr} (n_NoState:PySem.W.nsIn K mainGlobals "NoState" = some (some (.ref c_NoState))) (x_NoState:PySem.W.excIn K c_NoState bmV "ValueError.__new__" = true)
  {c_NoWay:Addr} (n_NoWay:PySem.W.nsIn K mainGlobals "NoWay" = some (some (.ref c_NoWay))) (x_NoWay:PySem.W.excIn K c_NoWay bmV "ValueError.__new__" = true)
  (xww:PySem.W.exmOne K (.ref c_NoWay) (.ref c_NoWay) = some true) (xsw:PySem.W.exmOne K (.ref c_NoState) (.ref c_NoWay) = some false) (xss:PySem.W.exmOne K (.ref c_NoState) (.ref c_NoState) = some true)
  (z1:PySem.W.nsIn K mainGlobals "list" = some none) (z2:PySem.W.nsIn K mainGlobals "tuple" = some none) (z3:PySem.W.nsIn K mainGlobals "int" = some none) (z4:PySem.W.nsIn K mainGlobals "bool" = some none) (z5:PySem.W.nsIn K mainGlobals "str" = some none) (z6:PySem.W.nsIn K mainGlobals "len" = some none) (z7:PySem.W.nsIn K mainGlobals "isinstance" = some none) (z8:PySem.W.nsIn K mainGlobals "sum" = some none) (z9:PySem.W.nsIn K mainGlobals "range" = some none) (z10:PySem.W.nsIn K mainGlobals "min" = some none) (z11:PySem.W.nsIn K mainGlobals "max" = some none) (z12:PySem.W.nsIn K mainGlobals "all" = some none) (z13:PySem.W.nsIn K mainGlobals "any" = some none) (z14:PySem.W.nsIn K mainGlobals "zip" = some none) (z15:PySem.W.nsIn K mainGlobals "enumerate" = some none) :
  ∃ fd:FuncData,(∀ (s:Shared) (v:Value),BindsTo s fd ⟨[v],[]⟩ [("_law_script",v)])∧∀ base:Heap,K.In base→base.Ns mainGlobals mg→FnOk l.prog w K mg base CX0 14 fa fd ["_law_script"] (spLaw K):=by
 have e:=hfa.symm.trans (PySem.W.mg_of X G a60)
 cases e
 have B:Blt mg:=⟨PySem.W.mg_none_of X G z1,PySem.W.mg_none_of X G z2,PySem.W.mg_none_of X G z3,PySem.W.mg_none_of X G z4,PySem.W.mg_none_of X G z5,PySem.W.mg_none_of X G z6,PySem.W.mg_none_of X G z7,PySem.W.mg_none_of X G z8,PySem.W.mg_none_of X G z9,PySem.W.mg_none_of X G z10,PySem.W.mg_none_of X G z11⟩
 have B2:Blt2 mg:=⟨PySem.W.mg_none_of X G z12,PySem.W.mg_none_of X G z13⟩
 have B3:Blt3 mg:=⟨PySem.W.mg_none_of X G z14,PySem.W.mg_none_of X G z15⟩
 have XC_NoState:Xc K mg "NoState" _:=⟨PySem.W.mg_of X G n_NoState,x_NoState⟩
 have XC_NoWay:Xc K mg "NoWay" _:=⟨PySem.W.mg_of X G n_NoWay,x_NoWay⟩
 have XM:XmOk K c_NoState c_NoWay:=⟨xww,xsw,xss⟩
 obtain ⟨_,_,F_marks_of,M_marks_of⟩:=p1
 obtain ⟨_,_,F_doors_of,M_doors_of⟩:=p2
 obtain ⟨_,_,F_is_state,M_is_state⟩:=p3
 obtain ⟨_,_,F_check_world,M_check_world⟩:=p4
 obtain ⟨_,_,F_p_truths_of,M_p_truths_of⟩:=p5
 obtain ⟨_,_,F_p_turned,M_p_turned⟩:=p6
 obtain ⟨_,_,F_turned_labels,M_turned_labels⟩:=p7
 obtain ⟨_,_,F_everywhere,M_everywhere⟩:=p8
 obtain ⟨_,_,F_door_to,M_door_to⟩:=p9
 obtain ⟨_,_,F_some_next,M_some_next⟩:=p10
 obtain ⟨_,_,F_joined_label,M_joined_label⟩:=p11
 obtain ⟨_,_,F_grown_labels,M_grown_labels⟩:=p12
 obtain ⟨_,_,F_with_false_doors,M_with_false_doors⟩:=p13
 obtain ⟨_,_,F_some_until,M_some_until⟩:=p14
 obtain ⟨_,_,F_all_until,M_all_until⟩:=p15
 obtain ⟨_,_,F_reaching,M_reaching⟩:=p16
 obtain ⟨_,_,F_most_times,M_most_times⟩:=p17
 obtain ⟨_,_,F_all_next,M_all_next⟩:=p18
 obtain ⟨_,_,F_some_again,M_some_again⟩:=p19
 obtain ⟨_,_,F_all_again,M_all_again⟩:=p20
 obtain ⟨_,_,F_other_who,M_other_who⟩:=p21
 obtain ⟨_,_,F_plain_truths,M_plain_truths⟩:=p22
 obtain ⟨_,_,F_root_form,M_root_form⟩:=p23
 obtain ⟨_,_,F_is_about_ways,M_is_about_ways⟩:=p24
 obtain ⟨_,_,F_own_parts,M_own_parts⟩:=p25
 obtain ⟨_,_,F_parts_of,M_parts_of⟩:=p26
 obtain ⟨_,_,F_own_places,M_own_places⟩:=p27
 obtain ⟨_,_,F_labels_of_root,M_labels_of_root⟩:=p28
 obtain ⟨_,_,F_labels_of,M_labels_of⟩:=p29
 obtain ⟨_,_,F_table_of,M_table_of⟩:=p30
 obtain ⟨_,_,F_draw,M_draw⟩:=p31
 obtain ⟨_,_,F_whole,M_whole⟩:=p32
 obtain ⟨_,_,F_at,M_at⟩:=p33
 obtain ⟨_,_,F_same,M_same⟩:=p34
 obtain ⟨_,_,F_sort_of,M_sort_of⟩:=p35
 obtain ⟨_,_,F_sentence_of,M_sentence_of⟩:=p36
 obtain ⟨_,_,F_joined,M_joined⟩:=p37
 obtain ⟨_,_,F_grown,M_grown⟩:=p38
 obtain ⟨_,_,F_first_mark,M_first_mark⟩:=p39
 obtain ⟨_,_,F_count_of,M_count_of⟩:=p40
 obtain ⟨_,_,F_line_of,M_line_of⟩:=p41
 obtain ⟨_,_,F_world_of,M_world_of⟩:=p42
 obtain ⟨_,_,F_copy_of,M_copy_of⟩:=p43
 obtain ⟨_,_,F_with_others,M_with_others⟩:=p44
 obtain ⟨_,_,F_arity,M_arity⟩:=p45
 obtain ⟨_,_,F_before,M_before⟩:=p46
 obtain ⟨_,_,F_until_truth,M_until_truth⟩:=p47
 obtain ⟨_,_,F_always_truth,M_always_truth⟩:=p48
 obtain ⟨_,_,F_again_truth,M_again_truth⟩:=p49
 obtain ⟨_,_,F_way_truth,M_way_truth⟩:=p50
 obtain ⟨_,_,F_truth_of,M_truth_of⟩:=p51
 obtain ⟨_,_,F_on_way,M_on_way⟩:=p52
 obtain ⟨_,_,F_step_from,M_step_from⟩:=p53
 obtain ⟨_,_,F_follow,M_follow⟩:=p54
 obtain ⟨_,_,F_way_for,M_way_for⟩:=p55
 obtain ⟨_,_,F_refused,M_refused⟩:=p56
 obtain ⟨_,_,F_asked,M_asked⟩:=p57
 obtain ⟨_,_,F_truths_of,M_truths_of⟩:=p58
 obtain ⟨_,_,F_is_way,M_is_way⟩:=p59
 have F_law:=fun_mk (st:=sd_law) l60 c60 k60
 refine ⟨PySem.W.fnOf "law" "law" (defArgs sd_law) (defBody sd_law) (defScope sd_law) .none kV60 dc60 pm60 an60 cd60 ct60,fun s v=>.of_eq rfl,fun base _ _=>?_⟩
 have G_marks_of:=ok_marks_of (P:=l.prog) (w:=w) (mg:=mg) (base:=base) (F:=F_marks_of)
 have G_doors_of:=ok_doors_of (P:=l.prog) (w:=w) (mg:=mg) (base:=base) (F:=F_doors_of)
 have G_is_state:=ok_is_state (P:=l.prog) (w:=w) (mg:=mg) (base:=base) (F:=F_is_state) (B:=B)
 have G_check_world:=ok_check_world (P:=l.prog) (w:=w) (mg:=mg) (base:=base) (F:=F_check_world) (B:=B) (G_doors_of:=G_doors_of) (M_doors_of:=M_doors_of) (G_is_state:=G_is_state) (M_is_state:=M_is_state)
 have G_p_truths_of:=ok_p_truths_of (P:=l.prog) (w:=w) (mg:=mg) (base:=base) (F:=F_p_truths_of)
 have G_p_turned:=ok_p_turned (P:=l.prog) (w:=w) (mg:=mg) (base:=base) (F:=F_p_turned)
 have G_turned_labels:=ok_turned_labels (P:=l.prog) (w:=w) (mg:=mg) (base:=base) (F:=F_turned_labels)
 have G_everywhere:=ok_everywhere (P:=l.prog) (w:=w) (mg:=mg) (base:=base) (F:=F_everywhere)
 have G_door_to:=ok_door_to (P:=l.prog) (w:=w) (mg:=mg) (base:=base) (F:=F_door_to) (G_doors_of:=G_doors_of) (M_doors_of:=M_doors_of)
 have G_some_next:=ok_some_next (P:=l.prog) (w:=w) (mg:=mg) (base:=base) (F:=F_some_next) (B:=B) (G_door_to:=G_door_to) (M_door_to:=M_door_to)
 have G_joined_label:=ok_joined_label (P:=l.prog) (w:=w) (mg:=mg) (base:=base) (F:=F_joined_label) (B2:=B2) (G_doors_of:=G_doors_of) (M_doors_of:=M_doors_of) (G_door_to:=G_door_to) (M_door_to:=M_door_to)
 have G_grown_labels:=ok_grown_labels (P:=l.prog) (w:=w) (mg:=mg) (base:=base) (F:=F_grown_labels) (B:=B) (G_p_truths_of:=G_p_truths_of) (M_p_truths_of:=M_p_truths_of) (G_joined_label:=G_joined_label) (M_joined_label:=M_joined_label)
 have G_with_false_doors:=ok_with_false_doors (P:=l.prog) (w:=w) (mg:=mg) (base:=base) (F:=F_with_false_doors) (B:=B) (G_p_truths_of:=G_p_truths_of) (M_p_truths_of:=M_p_truths_of) (G_p_turned:=G_p_turned) (M_p_turned:=M_p_turned) (G_door_to:=G_door_to) (M_door_to:=M_door_to)
 have G_some_until:=ok_some_until (P:=l.prog) (w:=w) (mg:=mg) (base:=base) (F:=F_some_until) (G_grown_labels:=G_grown_labels) (M_grown_labels:=M_grown_labels)
 have G_all_until:=ok_all_until (P:=l.prog) (w:=w) (mg:=mg) (base:=base) (F:=F_all_until) (G_grown_labels:=G_grown_labels) (M_grown_labels:=M_grown_labels) (G_with_false_doors:=G_with_false_doors) (M_with_false_doors:=M_with_false_doors)
 have G_reaching:=ok_reaching (P:=l.prog) (w:=w) (mg:=mg) (base:=base) (F:=F_reaching) (B:=B) (G_door_to:=G_door_to) (M_door_to:=M_door_to) (G_everywhere:=G_everywhere) (M_everywhere:=M_everywhere) (G_some_until:=G_some_until) (M_some_until:=M_some_until)
 have G_most_times:=ok_most_times (P:=l.prog) (w:=w) (mg:=mg) (base:=base) (F:=F_most_times) (B:=B) (G_p_truths_of:=G_p_truths_of) (M_p_truths_of:=M_p_truths_of) (G_reaching:=G_reaching) (M_reaching:=M_reaching)
 have G_all_next:=ok_all_next (P:=l.prog) (w:=w) (mg:=mg) (base:=base) (F:=F_all_next) (G_p_turned:=G_p_turned) (M_p_turned:=M_p_turned) (G_some_next:=G_some_next) (M_some_next:=M_some_next) (G_turned_labels:=G_turned_labels) (M_turned_labels:=M_turned_labels)
 have G_some_again:=ok_some_again (P:=l.prog) (w:=w) (mg:=mg) (base:=base) (F:=F_some_again) (B:=B) (G_most_times:=G_most_times) (M_most_times:=M_most_times) (G_reaching:=G_reaching) (M_reaching:=M_reaching) (G_door_to:=G_door_to) (M_door_to:=M_door_to)
 have G_all_again:=ok_all_again (P:=l.prog) (w:=w) (mg:=mg) (base:=base) (F:=F_all_again) (B:=B) (G_p_truths_of:=G_p_truths_of) (M_p_truths_of:=M_p_truths_of) (G_p_turned:=G_p_turned) (M_p_turned:=M_p_turned) (G_turned_labels:=G_turned_labels) (M_turned_labels:=M_turned_labels) (G_everywhere:=G_everywhere) (M_everywhere:=M_everywhere) (G_some_until:=G_some_until) (M_some_until:=M_some_until) (G_all_until:=G_all_until) (M_all_until:=M_all_until)
 have G_other_who:=ok_other_who (P:=l.prog) (w:=w) (mg:=mg) (base:=base) (F:=F_other_who)
 have G_plain_truths:=ok_plain_truths (P:=l.prog) (w:=w) (mg:=mg) (base:=base) (F:=F_plain_truths) (B:=B) (B3:=B3) (G_marks_of:=G_marks_of) (M_marks_of:=M_marks_of) (G_p_turned:=G_p_turned) (M_p_turned:=M_p_turned)
 have G_root_form:=ok_root_form (P:=l.prog) (w:=w) (mg:=mg) (base:=base) (F:=F_root_form) (G_everywhere:=G_everywhere) (M_everywhere:=M_everywhere) (G_p_turned:=G_p_turned) (M_p_turned:=M_p_turned) (G_other_who:=G_other_who) (M_other_who:=M_other_who)
 have G_is_about_ways:=ok_is_about_ways (P:=l.prog) (w:=w) (mg:=mg) (base:=base) (F:=F_is_about_ways)
 have G_own_parts:=ok_own_parts (P:=l.prog) (w:=w) (mg:=mg) (base:=base) (F:=F_own_parts) (B:=B) (G_is_about_ways:=G_is_about_ways) (M_is_about_ways:=M_is_about_ways)
 have G_parts_of:=ok_parts_of (P:=l.prog) (w:=w) (mg:=mg) (base:=base) (F:=F_parts_of) (G_own_parts:=G_own_parts) (M_own_parts:=M_own_parts)
 have G_own_places:=ok_own_places (P:=l.prog) (w:=w) (mg:=mg) (base:=base) (F:=F_own_places) (B:=B) (B3:=B3) (G_own_parts:=G_own_parts) (M_own_parts:=M_own_parts)
 have G_labels_of_root:=ok_labels_of_root (P:=l.prog) (w:=w) (mg:=mg) (base:=base) (F:=F_labels_of_root) (G_some_next:=G_some_next) (M_some_next:=M_some_next) (G_all_next:=G_all_next) (M_all_next:=M_all_next) (G_some_again:=G_some_again) (M_some_again:=M_some_again) (G_all_again:=G_all_again) (M_all_again:=M_all_again) (G_some_until:=G_some_until) (M_some_until:=M_some_until) (G_all_until:=G_all_until) (M_all_until:=M_all_until)
 have G_labels_of:=ok_labels_of (P:=l.prog) (w:=w) (mg:=mg) (base:=base) (F:=F_labels_of) (G_is_about_ways:=G_is_about_ways) (M_is_about_ways:=M_is_about_ways) (G_plain_truths:=G_plain_truths) (M_plain_truths:=M_plain_truths) (G_root_form:=G_root_form) (M_root_form:=M_root_form) (G_labels_of_root:=G_labels_of_root) (M_labels_of_root:=M_labels_of_root) (G_turned_labels:=G_turned_labels) (M_turned_labels:=M_turned_labels)
 have G_table_of:=ok_table_of (P:=l.prog) (w:=w) (mg:=mg) (base:=base) (F:=F_table_of) (B3:=B3) (G_check_world:=G_check_world) (M_check_world:=M_check_world) (G_parts_of:=G_parts_of) (M_parts_of:=M_parts_of) (G_own_places:=G_own_places) (M_own_places:=M_own_places) (G_p_truths_of:=G_p_truths_of) (M_p_truths_of:=M_p_truths_of) (G_labels_of:=G_labels_of) (M_labels_of:=M_labels_of)
 have G_draw:=ok_draw (P:=l.prog) (w:=w) (mg:=mg) (base:=base) (F:=F_draw)
 have G_whole:=ok_whole (P:=l.prog) (w:=w) (mg:=mg) (base:=base) (F:=F_whole) (B:=B)
 have G_at:=ok_at (P:=l.prog) (w:=w) (mg:=mg) (base:=base) (F:=F_at) (B:=B)
 have G_same:=ok_same (P:=l.prog) (w:=w) (mg:=mg) (base:=base) (F:=F_same) (B:=B) (G_whole:=G_whole) (M_whole:=M_whole)
 have G_sort_of:=ok_sort_of (P:=l.prog) (w:=w) (mg:=mg) (base:=base) (F:=F_sort_of)
 have G_sentence_of:=ok_sentence_of (P:=l.prog) (w:=w) (mg:=mg) (base:=base) (F:=F_sentence_of) (B:=B)
 have G_joined:=ok_joined (P:=l.prog) (w:=w) (mg:=mg) (base:=base) (F:=F_joined) (B:=B) (G:=G_sentence_of) (MG0:=M_sentence_of)
 have G_grown:=ok_grown (P:=l.prog) (w:=w) (mg:=mg) (base:=base) (F:=F_grown) (B:=B) (G:=G_sort_of) (MG0:=M_sort_of) (J:=G_joined) (MJ0:=M_joined)
 have G_first_mark:=ok_first_mark (P:=l.prog) (w:=w) (mg:=mg) (base:=base) (F:=F_first_mark) (G_at:=G_at) (M_at:=M_at)
 have G_count_of:=ok_count_of (P:=l.prog) (w:=w) (mg:=mg) (base:=base) (F:=F_count_of) (B:=B) (G_at:=G_at) (M_at:=M_at)
 have G_line_of:=ok_line_of (P:=l.prog) (w:=w) (mg:=mg) (base:=base) (F:=F_line_of) (B:=B) (G_at:=G_at) (M_at:=M_at) (G_first_mark:=G_first_mark) (M_first_mark:=M_first_mark) (G_draw:=G_draw) (M_draw:=M_draw)
 have G_world_of:=ok_world_of (P:=l.prog) (w:=w) (mg:=mg) (base:=base) (F:=F_world_of) (B:=B) (G_at:=G_at) (M_at:=M_at) (G_first_mark:=G_first_mark) (M_first_mark:=M_first_mark) (G_draw:=G_draw) (M_draw:=M_draw) (G_line_of:=G_line_of) (M_line_of:=M_line_of)
 have G_copy_of:=ok_copy_of (P:=l.prog) (w:=w) (mg:=mg) (base:=base) (F:=F_copy_of) (B:=B)
 have G_with_others:=ok_with_others (P:=l.prog) (w:=w) (mg:=mg) (base:=base) (F:=F_with_others) (B:=B) (G_at:=G_at) (M_at:=M_at) (G_first_mark:=G_first_mark) (M_first_mark:=M_first_mark)
 have G_arity:=ok_arity (P:=l.prog) (w:=w) (mg:=mg) (base:=base) (F:=F_arity) (B:=B)
 have G_before:=ok_before (P:=l.prog) (w:=w) (mg:=mg) (base:=base) (F:=F_before)
 have G_until_truth:=ok_until_truth (P:=l.prog) (w:=w) (mg:=mg) (base:=base) (F:=F_until_truth) (B:=B) (G_before:=G_before) (M_before:=M_before)
 have G_always_truth:=ok_always_truth (P:=l.prog) (w:=w) (mg:=mg) (base:=base) (F:=F_always_truth) (B:=B) (G_before:=G_before) (M_before:=M_before)
 have G_again_truth:=ok_again_truth (P:=l.prog) (w:=w) (mg:=mg) (base:=base) (F:=F_again_truth) (B:=B) (G_before:=G_before) (M_before:=M_before) (G_always_truth:=G_always_truth) (M_always_truth:=M_always_truth) (G_until_truth:=G_until_truth) (M_until_truth:=M_until_truth)
 have G_way_truth:=ok_way_truth (P:=l.prog) (w:=w) (mg:=mg) (base:=base) (F:=F_way_truth) (B:=B) (G_before:=G_before) (M_before:=M_before) (G_always_truth:=G_always_truth) (M_always_truth:=M_always_truth) (G_until_truth:=G_until_truth) (M_until_truth:=M_until_truth) (G_again_truth:=G_again_truth) (M_again_truth:=M_again_truth)
 have G_truth_of:=ok_truth_of (P:=l.prog) (w:=w) (mg:=mg) (base:=base) (F:=F_truth_of) (B:=B) (G_way_truth:=G_way_truth) (M_way_truth:=M_way_truth)
 have G_on_way:=ok_on_way (P:=l.prog) (w:=w) (mg:=mg) (base:=base) (F:=F_on_way)
 have G_step_from:=ok_step_from (P:=l.prog) (w:=w) (mg:=mg) (base:=base) (F:=F_step_from) (G_doors_of:=G_doors_of) (M_doors_of:=M_doors_of)
 have G_follow:=ok_follow (P:=l.prog) (w:=w) (mg:=mg) (base:=base) (F:=F_follow) (G_step_from:=G_step_from) (M_step_from:=M_step_from)
 have G_way_for:=ok_way_for (P:=l.prog) (w:=w) (mg:=mg) (base:=base) (F:=F_way_for) (X_NoState:=XC_NoState) (X_NoWay:=XC_NoWay) (G_check_world:=G_check_world) (M_check_world:=M_check_world) (G_is_state:=G_is_state) (M_is_state:=M_is_state) (G_is_about_ways:=G_is_about_ways) (M_is_about_ways:=M_is_about_ways) (G_table_of:=G_table_of) (M_table_of:=M_table_of) (G_follow:=G_follow) (M_follow:=M_follow)
 have G_refused:=ok_refused (P:=l.prog) (w:=w) (mg:=mg) (base:=base) (F:=F_refused) (B:=B)
 have G_asked:=ok_asked (P:=l.prog) (w:=w) (mg:=mg) (base:=base) (F:=F_asked) (X_NoState:=XC_NoState) (X_NoWay:=XC_NoWay) (Xm:=XM) (G_way_for:=G_way_for) (M_way_for:=M_way_for)
 have G_truths_of:=ok_truths_of (P:=l.prog) (w:=w) (mg:=mg) (base:=base) (F:=F_truths_of) (B:=B) (G_arity:=G_arity) (M_arity:=M_arity) (G_truth_of:=G_truth_of) (M_truth_of:=M_truth_of)
 have G_is_way:=ok_is_way (P:=l.prog) (w:=w) (mg:=mg) (base:=base) (F:=F_is_way) (B:=B) (G_whole:=G_whole) (M_whole:=M_whole)
 exact ok_law (P:=l.prog) (w:=w) (mg:=mg) (base:=base) (F:=F_law) (B:=B) (G_count_of:=G_count_of) (M_count_of:=M_count_of) (G_with_others:=G_with_others) (M_with_others:=M_with_others) (G_world_of:=G_world_of) (M_world_of:=M_world_of) (G_grown:=G_grown) (M_grown:=M_grown) (G_copy_of:=G_copy_of) (M_copy_of:=M_copy_of) (G_truths_of:=G_truths_of) (M_truths_of:=M_truths_of) (G_same:=G_same) (M_same:=M_same) (G_asked:=G_asked) (M_asked:=M_asked) (G_first_mark:=G_first_mark) (M_first_mark:=M_first_mark) (G_at:=G_at) (M_at:=M_at) (G_refused:=G_refused) (M_refused:=M_refused) (G_is_way:=G_is_way) (M_is_way:=M_is_way) (G_on_way:=G_on_way) (M_on_way:=M_on_way)
theorem walk {l:PySem.W.OpenLaw} {q:Program} {loose:List Str} {XP:(Str→Option Value)→Heap→Prop} {YP:World→Heap→Prop} {d:DefRec} {K:Params→PySem.W.Frag} (hn:l.most = some 63) (hdf:d.params.defaults = [])
  (hY:∀ (w:World) (h:Heap),YP w h→(K w.params).In h)
  (F:∀ (w:World) (mg:Str→Option Value) (fa:Addr) (h:Heap),(K w.params).In h→h.Ns mainGlobals mg→mg d.name = some (.ref fa) →
   ∃ fd:FuncData,(∀ (s:Shared) (u:Value),BindsTo s fd ⟨[u],[]⟩ [("_law_script",u)])∧∀ base:Heap,(K w.params).In base→base.Ns mainGlobals mg→FnOk l.prog w (K w.params) mg base CX0 14 fa fd ["_law_script"] (spLaw (K w.params))) :
  PySem.W.WalkO q loose XP YP l.row.toRowW d [] (fun f vs=>PySem.call f vs) :=
 L2.walk_of (n:=63) (k:=14) (x:="_law_script") (CX:=fun _=>CX0) (sp:=fun w=>spLaw (K w.params)) hn (by decide) hdf ⟨rfl,by decide,by decide⟩ hY F (fun _ _ a ns hl _ hS=>⟨a,ns,rfl,hS,hl,fun _=>rfl⟩) fun _ _ _ _ _ z=>z
end Ws
open PySem PySem.W PyProof.Rows
set_option maxRecDepth 100000 in
set_option maxHeartbeats 0 in
theorem PySem.Challenge.cw_waysaid_k07_whole_ways_that_show_holds : PySem.Challenge.rw_waysaid_k07_whole_ways_that_show.Holds := by
 w_on
 refine holds_law Ws.said fun _=>?_
 refine holds_open (q:=Ws.viewQ) (loose:=[]) (Xt:=Ws.viewX)
  (XP:=XL Ws.viewQ []) (Yf:=Hook.obs (kHook Ws.mkK.heap_1 Ws.asK fun _=>by kernel_rfl))
  (Ya:=Hook.val (kHook Ws.mkK.heap_1 Ws.asK fun _=>by kernel_rfl))
  (YP:=Hook.says (kHook Ws.mkK.heap_1 Ws.asK fun _=>by kernel_rfl)) (N:=6000)
  (Ws.left_two Ws.left1 Ws.left2) (Hook.of _) (Hook.keeps _)
  (fun s e=>xl_of s (Bool.and_eq_true_iff.mp e).1) XL.keeps
  rfl rfl rfl
  (fun s e=>recFacts_of (Bool.and_eq_true_iff.mp e).2)
  rfl (by assumption) (by decide +kernel)
  ⟨rfl,rfl,rfl,rfl,rfl,by decide +kernel⟩ ?_ ?_
 ·w_witness2
 k_fill
 refine Ws.walk (l:=PySem.Challenge.rw_waysaid_k07_whole_ways_that_show) rfl rfl (fun w h Y=>PySem.W.kIn_of Y) ?F
 case F =>
  intro w mg fa h KX G hmg
  refine' Ws.all_mk KX G hmg ?p1 ?p2 ?p3 ?p4 ?p5 ?p6 ?p7 ?p8 ?p9 ?p10 ?p11 ?p12 ?p13 ?p14 ?p15 ?p16 ?p17 ?p18 ?p19 ?p20 ?p21 ?p22 ?p23 ?p24 ?p25 ?p26 ?p27 ?p28 ?p29 ?p30 ?p31 ?p32 ?p33 ?p34 ?p35 ?p36 ?p37 ?p38 ?p39 ?p40 ?p41 ?p42 ?p43 ?p44 ?p45 ?p46 ?p47 ?p48 ?p49 ?p50 ?p51 ?p52 ?p53 ?p54 ?p55 ?p56 ?p57 ?p58 ?p59 ?a60 ?l60 ?c60 ?k60 ?n_NoState ?x_NoState ?n_NoWay ?x_NoWay ?xww ?xsw ?xss ?z1 ?z2 ?z3 ?z4 ?z5 ?z6 ?z7 ?z8 ?z9 ?z10 ?z11 ?z12 ?z13 ?z14 ?z15
  (case p1 | p2 | p3 | p10 | p17 | p18 | p19 | p20 | p30 | p33 | p34 | p38 | p41 | p42 | p44 | p56 | p58=>refine' Ws.mf_of KX G ?a ?l ?c ?k (fun _ _ _ _ _ _ us hl=>match us,hl with | [_,_],_=>rfl); (case a=>k_is); (case l=>k_is); (case c=>k_is); (case k=>k_is))
  (case p4 | p5 | p6 | p7 | p8 | p21 | p24 | p25 | p26 | p27 | p32 | p35 | p39 | p40 | p43 | p45=>refine' Ws.mf_of KX G ?a ?l ?c ?k (fun _ _ _ _ _ _ us hl=>match us,hl with | [_],_=>rfl); (case a=>k_is); (case l=>k_is); (case c=>k_is); (case k=>k_is))
  (case p9 | p13 | p14 | p15 | p16 | p22 | p23 | p29 | p31 | p36 | p46 | p48 | p49 | p50 | p51 | p52 | p53 | p54 | p55 | p57 | p59=>refine' Ws.mf_of KX G ?a ?l ?c ?k (fun _ _ _ _ _ _ us hl=>match us,hl with | [_,_,_],_=>rfl); (case a=>k_is); (case l=>k_is); (case c=>k_is); (case k=>k_is))
  (case p11=>refine' Ws.mf_of KX G ?a ?l ?c ?k (fun _ _ _ _ _ _ us hl=>match us,hl with | [_,_,_,_,_],_=>rfl); (case a=>k_is); (case l=>k_is); (case c=>k_is); (case k=>k_is))
  (case p12 | p28 | p37 | p47=>refine' Ws.mf_of KX G ?a ?l ?c ?k (fun _ _ _ _ _ _ us hl=>match us,hl with | [_,_,_,_],_=>rfl); (case a=>k_is); (case l=>k_is); (case c=>k_is); (case k=>k_is))
  (case a60=>k_is); (case l60=>k_is); (case c60=>k_is); (case k60=>k_is)
  (case n_NoState=>k_is); (case x_NoState=>k_exc)
  (case n_NoWay=>k_is); (case x_NoWay=>k_exc)
  (case xww=>kernel_rfl); (case xsw=>kernel_rfl); (case xss=>kernel_rfl)
  (case z1=>k_is); (case z2=>k_is); (case z3=>k_is); (case z4=>k_is); (case z5=>k_is); (case z6=>k_is); (case z7=>k_is); (case z8=>k_is); (case z9=>k_is); (case z10=>k_is); (case z11=>k_is); (case z12=>k_is); (case z13=>k_is); (case z14=>k_is); (case z15=>k_is)
#print axioms PySem.Challenge.cw_waysaid_k07_whole_ways_that_show_holds
