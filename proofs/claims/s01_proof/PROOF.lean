import PyProof.Rows.All
import Wide.All
import OpenK.AllK
import Wide.FinOn
import PyProof.EqAt
import PyProof.EqKinds
import PyProof.TupleCall
import KE.BitLaws
import PySem.Challenge.RW_typedaheaddesk_s01_answers
import KE.KMinKey
import KE.KFmtOwn
import KE.KDictSum
import KE.KSortTup
import KE.KSortTupAny
import PyProof.Draws
import Open.SpecLaws
import KE.OsHead
import KE.OsGo
set_option Elab.async false
set_option linter.all false
set_option maxRecDepth 100000
set_option maxHeartbeats 4000000
section
namespace L2
open PySem PySem.Spec PyProof.Rows
abbrev Key:=Sum Int Str
def keyIs:Key->Value->Bool
  | .inl k,v=>Value.isInt k v
  | .inr x,v=>Value.isStrOf x v
def keyH (w:World):Key->Int
  | .inl k=>hashInt k
  | .inr x=>hashStr w x
theorem keyIs_shape:∀{k:Key} {v:Value},keyIs k v=true->(∃i t,k=Sum.inl i/\v=Value.int i t)∨(∃x t,k=Sum.inr x/\v=Value.str x t)
  | .inl i,v,h=>by
    obtain⟨t,e⟩:=Value.isInt_shape (k:=i) (v:=v) h
    exact .inl ⟨i,t,rfl,e⟩
  | .inr x,v,h=>by
    obtain⟨t,e⟩:=Value.isStrOf_shape (x:=x) (v:=v) h
    exact .inr ⟨x,t,rfl,e⟩
theorem keyIs_int (i:Int) (t:Tok):keyIs (.inl i) (.int i t)=true:=by simp[keyIs,Value.isInt]
theorem keyIs_str (x:Str) (t:Tok):keyIs (.inr x) (.str x t)=true:=by simp[keyIs,Value.isStrOf]
theorem key_ll (a b:Int):decide ((Sum.inl a:Key)=Sum.inl b)=(a == b):=by
  by_cases e:a=b
  · subst e;simp
  · have h:¬(Sum.inl a:Key)=Sum.inl b:=fun q=>e (Sum.inl.inj q)
    rw[decide_eq_false h]
    exact(beq_eq_false_iff_ne.mpr e).symm
theorem key_rr (a b:Str):decide ((Sum.inr a:Key)=Sum.inr b)=decide (a=b):=by
  by_cases e:a=b
  · subst e;simp
  · have h:¬(Sum.inr a:Key)=Sum.inr b:=fun q=>e (Sum.inr.inj q)
    rw[decide_eq_false h,decide_eq_false e]
theorem key_lr (a:Int) (b:Str):decide ((Sum.inl a:Key)=Sum.inr b)=false:=decide_eq_false (fun q=>nomatch q)
theorem key_rl (a:Str) (b:Int):decide ((Sum.inr a:Key)=Sum.inl b)=false:=decide_eq_false (fun q=>nomatch q)
def mixKind (prog:Program) (w:World):PySem.KeyKind prog w Key where
  is:=keyIs
  hash:=keyH w
  inj:=fun v a b ha hb=>by
    rcases keyIs_shape ha with⟨i,t,rfl,rfl⟩ | ⟨x,t,rfl,rfl⟩
    · rcases keyIs_shape hb with⟨j,u,rfl,e⟩ | ⟨y,u,rfl,e⟩
      · injection e with e1 _;rw[e1]
      · exact nomatch e
    · rcases keyIs_shape hb with⟨j,u,rfl,e⟩ | ⟨y,u,rfl,e⟩
      · exact nomatch e
      · injection e with e1 _;rw[e1]
  byValue:=fun k v h=>by
    rcases keyIs_shape h with⟨i,t,rfl,rfl⟩ | ⟨x,t,rfl,rfl⟩ <;> rfl
  pyHash:=fun hv h=>by
    rcases keyIs_shape hv with⟨i,t,rfl,rfl⟩ | ⟨x,t,rfl,rfl⟩
    · exact wpAny_pyHash_int h
    · exact wpAny_pyHash_str h
  eqBool:=fun hu hv h=>by
    rcases keyIs_shape hu with⟨i,t,rfl,rfl⟩ | ⟨x,t,rfl,rfl⟩
    · rcases keyIs_shape hv with⟨j,u,rfl,rfl⟩ | ⟨y,u,rfl,rfl⟩
      · rw[key_ll]at h;exact wpAny_eqBool_int h
      · rw[key_lr]at h;exact SeqAt.EqAt.int_str i t y u _ _ _ _ h
    · rcases keyIs_shape hv with⟨j,u,rfl,rfl⟩ | ⟨y,u,rfl,rfl⟩
      · rw[key_rl]at h;exact SeqAt.EqAt.str_int x t j u _ _ _ _ h
      · rw[key_rr]at h;exact wpAny_eqBool_str h
  «strs» :=fun k x t v h=>by
    rcases keyIs_shape h with⟨i,u,rfl,e⟩ | ⟨y,u,rfl,e⟩
    · exact nomatch e
    · injection e with e1 _
      subst e1
      cases v <;> rfl
theorem mixKind_int (prog:Program) (w:World) (i:Int) (t:Tok):(mixKind prog w).is (.inl i) (.int i t)=true:=keyIs_int i t
theorem mixKind_str (prog:Program) (w:World) (x:Str) (t:Tok):(mixKind prog w).is (.inr x) (.str x t)=true:=keyIs_str x t
end L2
namespace L2
open PySem PySem.Spec PyProof.Rows
inductive V where
  | non | bl (b:Bool) | int (i:Int) | str (x:Str) | byt (b:Array UInt8) | flt (b:UInt64) | ref (a:Addr) | ty (n:String)
  deriving DecidableEq
def RelV:V->Value->Prop
  | .non,u=>u=Value.none
  | .bl b,u=>u=Value.bool b
  | .int i,u=>∃t,u=Value.int i t
  | .str x,u=>∃t,u=Value.str x t
  | .byt b,u=>∃t,u=Value.bytes b t
  | .flt b,u=>∃t,u=Value.float b t
  | .ref a,u=>u=Value.ref a
  | .ty n,u=>u=Value.type n
abbrev Vals:List V->List Value->Prop:=Paired RelV
theorem Vals.length {xs:List V} {us:List Value} (r:Vals xs us):xs.length=us.length:=Paired.length r
theorem Vals.get:∀{xs:List V} {us:List Value} {i:Nat} {x:V},Vals xs us->xs[i]? =some x->∃u,us[i]? =some u/\RelV x u
  | _,_,_,_,.nil,e=>by simp at e
  | _,_,0,_,.cons r _,e=>by simp at e;subst e;exact⟨_,rfl,r⟩
  | _,_,i+1,x,.cons _ t,e=>by
    obtain⟨u,h1,h2⟩:=Vals.get (i:=i) (x:=x) t (by simpa using e)
    exact⟨u,by simpa using h1,h2⟩
theorem Vals.append:∀{xs ys:List V} {us ws:List Value},Vals xs us->Vals ys ws->Vals (xs++ys) (us++ws)
  | _,_,_,_,.nil,s=>s
  | _,_,_,_,.cons r t,s=> .cons r (Vals.append t s)
theorem Vals.take:∀{xs:List V} {us:List Value} (n:Nat),Vals xs us->Vals (xs.take n) (us.take n)
  | _,_,0,_=> .nil
  | _,_,_+1,.nil=> .nil
  | _,_,n+1,.cons r t=> .cons r (Vals.take n t)
theorem Vals.drop:∀{xs:List V} {us:List Value} (n:Nat),Vals xs us->Vals (xs.drop n) (us.drop n)
  | _,_,0,r=>r
  | _,_,_+1,.nil=> .nil
  | _,_,n+1,.cons _ t=>Vals.drop n t
def RelO:Option V->Option Value->Prop
  | some v,some u=>RelV v u
  | none,none=>True
  | _,_=>False
def KV {κ:Type}:List (κ×V)->List (κ×Value)->Prop:=Paired fun(p:κ×V) (q:κ×Value)=>p.1=q.1/\RelV p.2 q.2
def kV:Key->V
  | .inl i=> .int i
  | .inr x=> .str x
inductive HO where
  | lst (xs:List V)
  | tup (xs:List V)
  | dK (kvs:List (Key×V)) | dT (kvs:List (List Key×V))
  | set (S:Int->Bool) (n:Nat)
  | ins (C dx:Addr) (fs:List (Str×V))
  | own (x:Addr)
  | xd (fs:List (Str×V))
  | met (f x:Addr)
  | rng (lo hi:Int)
  | frz (o:Obj) (u:HO)
  | tbl (ps:Array Value)
  | ext (φ:Heap->Prop)
abbrev Hp:=Addr->Option HO
def upd (H:Hp) (a:Addr) (o:HO):Hp:=fun b=>if b=a then some o else H b
theorem upd_same {H:Hp} {a:Addr} {o:HO}:upd H a o a=some o:=by unfold upd;rw[if_pos rfl]
theorem upd_ne {H:Hp} {a b:Addr} {o:HO} (h:b≠a):upd H a o b=H b:=by unfold upd;rw[if_neg h]
theorem upd_upd {H:Hp} {a:Addr} {o u:HO}:upd (upd H a o) a u=upd H a u:=by
  funext b;unfold upd;split <;> rfl
theorem ne_of {H:Hp} {a b:Addr} {o u:HO} (h:H a=some o) (h':H b=some u) (d:o≠u):a≠b:=by
  intro e;subst e;rw[h]at h';exact d (Option.some.inj h')
theorem ne_of_none {H:Hp} {a b:Addr} {o:HO} (h:H a=some o) (h':H b=none):a≠b:=by
  intro e;subst e;rw[h]at h';cases h'
section
variable (P:Program) (w:World)
def ObjOk (H:Hp) (h:Heap) (a:Addr):HO->Prop
  | .lst xs=>xs.length≤sizeLine/\∃(its:List Value) (n:Nat),Vals xs its/\h.get? a=some {cls:= .type "list",data:= .seq its.toArray n}
  | .tup xs=>xs.length≤sizeLine/\∃its:List Value,Vals xs its/\IsTup h a its.toArray
  | .dK kvs=>kvs.length≤sizeLine/\(a == sysModules)=false/\∃vs,KV kvs vs/\h.DictOf (mixKind P w) a vs
  | .dT kvs=>kvs.length≤sizeLine/\(a == sysModules)=false/\∃xs:List (List Key×Addr×Value),
      Paired (fun(p:List Key×V) (q:List Key×Addr×Value)=>p.1=q.1/\H q.2.1=some (.tup (p.1.map kV))/\RelV p.2 q.2.2) kvs xs/\
      ∃o es ep,h.get? a=some o/\o.ExactDict/\o.data= .dict es ep/\es.toList=xs.map (entryOfKey (tupleKind (mixKind P w)))/\(xs.map (·.1)).Nodup
  | .set S n=>h.SetOf (intKind P w) a S n
  | .ins C dx fs=>H dx=some (.own a)/\fs.length≤1000/\dx≠a/\h.get? a=some (PySem.W.instObj C dx)/\
      ∃mA,h.Ns1 dx mA/\(∀f,RelO (fs.lookup f) (mA f))/\PySem.Within mA (fs.map (·.1))
  | .own _=>∃o,h.get? a=some o
  | .xd fs=>∃mA,h.Ns1 a mA/\∀f,RelO (fs.lookup f) (mA f)
  | .rng lo hi=>∃t u v,h.get? a=some {cls:= .type "range",data:= .fields #[.int lo t,.int hi u,.int 1 v]}
  | .frz o u=>h.get? a=some o/\ObjOk H h a u
  | .tbl ps=>h.get? a=some {cls:= .none,data:= .fields ps}
  | .met f x=>h.get? a=some (PySem.W.methodObj (.ref f) (.ref x))
  | .ext φ=>φ h/\(∃o,h.get? a=some o)/\∀h1 h2:Heap,φ h1->(∀o,h1.get? a=some o->h2.get? a=some o)->φ h2
def HOk (H:Hp) (h:Heap):Prop:=∀a o,H a=some o->ObjOk P w H h a o
end
section
variable {P:Program} {w:World} {H H':Hp} {h h':Heap} {a:Addr} {o:HO}
theorem ObjOk.lt (x:ObjOk P w H h a o):a < h.objs.size:=by
  cases o with
  | lst xs=>obtain⟨_,_,_,_,e⟩:=x;exact Heap.lt_size e
  | tup xs=>obtain⟨_,_,_,p⟩:=x;exact p.lt
  | dK kvs=>obtain⟨_,_,_,_,o,_,_,e,_⟩:=x;exact Heap.lt_size e
  | dT kvs=>obtain⟨_,_,_,_,o,_,_,e,_⟩:=x;exact Heap.lt_size e
  | set S n=>obtain⟨o,_,_,_,e,_⟩:=x;exact Heap.lt_size e
  | ins C dx fs=>obtain⟨_,_,_,e,_⟩:=x;exact Heap.lt_size e
  | own y=>obtain⟨_,e⟩:=x;exact Heap.lt_size e
  | xd fs=>obtain⟨_,⟨_,_,_,e,_⟩,_⟩:=x;exact Heap.lt_size e
  | rng lo hi=>obtain⟨_,_,_,e⟩:=x;exact Heap.lt_size e
  | frz ob u=>obtain⟨e,_⟩:=x;exact Heap.lt_size e
  | tbl ps=>exact Heap.lt_size (show h.get? a=some _ from x)
  | met f y=>exact Heap.lt_size (show h.get? a=some _ from x)
  | ext φ=>obtain⟨_,⟨_,e⟩,_⟩:=x;exact Heap.lt_size e
theorem Paired.mapP {α β:Type} {F G:α->β->Prop}:∀{l₁:List α} {l₂:List β},Paired F l₁ l₂->(∀a b,F a b->G a b)->Paired G l₁ l₂
  | _,_,.nil,_=> .nil
  | _,_,.cons r t,f=> .cons (f _ _ r) (Paired.mapP t f)
theorem Paired.imp' {α β:Type} {F G:α->β->Prop} (f:∀a b,F a b->G a b) {l₁:List α} {l₂:List β} (r:Paired F l₁ l₂):Paired G l₁ l₂:=Paired.mapP r f
theorem ObjOk.stay (x:ObjOk P w H h a o) (k:∀b u,(b=a∨H b=some (.own a))->h.get? b=some u->h'.get? b=some u)
    (ho:∀b,H b=some (.own a)->H' b=some (.own a)) (ht:∀b xs,H b=some (.tup xs)->H' b=some (.tup xs)):ObjOk P w H' h' a o:=by
  induction o with
  | lst xs=>obtain⟨z,its,n,r,e⟩:=x;exact⟨z,its,n,r,k _ _ (.inl rfl) e⟩
  | tup xs=>obtain⟨z,its,r,ob,e,c⟩:=x;exact⟨z,its,r,ob,k _ _ (.inl rfl) e,c⟩
  | dK kvs=>obtain⟨z,y,vs,r,ob,es,ep,e,c⟩:=x;exact⟨z,y,vs,r,ob,es,ep,k _ _ (.inl rfl) e,c⟩
  | dT kvs=>
    obtain⟨z,y,xs,r,ob,es,ep,e,c⟩:=x
    exact⟨z,y,xs,Paired.mapP r fun p q z=>⟨z.1,ht _ _ z.2.1,z.2.2⟩,ob,es,ep,k _ _ (.inl rfl) e,c⟩
  | set S n=>obtain⟨ob,es,ep,t,e,c⟩:=x;exact⟨ob,es,ep,t,k _ _ (.inl rfl) e,c⟩
  | ins C dx fs=>
    obtain⟨d,z,ne,e,mA,⟨od,es,ep,e2,c⟩,r⟩:=x
    exact⟨ho _ d,z,ne,k _ _ (.inl rfl) e,mA,⟨od,es,ep,k _ _ (.inr d) e2,c⟩,r⟩
  | own y=>obtain⟨ob,e⟩:=x;exact⟨ob,k _ _ (.inl rfl) e⟩
  | xd fs=>obtain⟨mA,⟨od,es,ep,e,c⟩,r⟩:=x;exact⟨mA,⟨od,es,ep,k _ _ (.inl rfl) e,c⟩,r⟩
  | rng lo hi=>obtain⟨t,u,v,e⟩:=x;exact⟨t,u,v,k _ _ (.inl rfl) e⟩
  | frz ob u ih=>obtain⟨e,q⟩:=x;exact⟨k _ _ (.inl rfl) e,ih q⟩
  | tbl ps=>
    have e:h.get? a=some {cls:= .none,data:= .fields ps}:=x
    show h'.get? a=some {cls:= .none,data:= .fields ps}
    exact k a _ (.inl rfl) e
  | met f y=>
    have e:h.get? a=some (PySem.W.methodObj (.ref f) (.ref y)):=x
    show h'.get? a=some (PySem.W.methodObj (.ref f) (.ref y))
    exact k a _ (.inl rfl) e
  | ext φ=>obtain⟨p,⟨o,e⟩,st⟩:=x;exact⟨st _ _ p fun o q=>k _ _ (.inl rfl) q,⟨o,k _ _ (.inl rfl) e⟩,st⟩
theorem HOk.lt (x:HOk P w H h) (e:H a=some o):a < h.objs.size:=(x a o e).lt
theorem HOk.fresh (x:HOk P w H h) (e:h.objs.size≤a):H a=none:=by
  cases q:H a with
  | none=>rfl
  | some u=>exact absurd (Nat.lt_of_lt_of_le (x.lt q) e) (Nat.lt_irrefl _)
theorem HOk.kept (x:HOk P w H h) (k:∀b u,h.get? b=some u->h'.get? b=some u):HOk P w H h':=fun a o e=>
  (x a o e).stay (fun b u _ q=>k b u q) (fun _ q=>q) fun _ _ q=>q
theorem HOk.laid (x:HOk P w H h) (k:∀b u,h.get? b=some u->h'.get? b=some u) (hp:h.objs.size≤a) (new:ObjOk P w (upd H a o) h' a o):HOk P w (upd H a o) h':=fun b u e=>by
  have hn:=x.fresh hp
  by_cases hb:b=a
  · subst hb;rw[upd_same]at e;cases e;exact new
  · rw[upd_ne hb]at e
    exact(x b u e).stay (fun c v _ q=>k c v q) (fun c q=>by rw[upd_ne (ne_of_none q hn)];exact q) fun c xs q=>by rw[upd_ne (ne_of_none q hn)];exact q
end
def Rd (H:Hp) (a:Addr) (u:HO):Prop:=H a=some u∨∃o,H a=some (.frz o u)
theorem Rd.of {H:Hp} {a:Addr} {u:HO} (h:H a=some u):Rd H a u:= .inl h
theorem Rd.ok {P:Program} {w:World} {H:Hp} {h:Heap} {a:Addr} {u:HO} (r:Rd H a u) (x:HOk P w H h):ObjOk P w H h a u:=by
  rcases r with r | ⟨o,r⟩
  · exact x a u r
  · obtain⟨_,q⟩:=x a _ r
    exact q
def Mut:Option HO->Prop
  | some (.lst _)=>True
  | some (.dK _)=>True
  | some (.dT _)=>True
  | some (.set _ _)=>True
  | some (.ins _ _ _)=>True
  | some (.ext _)=>True
  | _=>False
section
variable {P:Program} {w:World} {H:Hp} {h h':Heap} {x e:Addr} {o':HO}
theorem HOk.write (ok:HOk P w H h) (mu:Mut (H x)) (he:e=x∨H e=some (.own x)) (k:∀b u,b≠e->h.get? b=some u->h'.get? b=some u) (heo:∃u,h'.get? e=some u)
    (new:ObjOk P w (upd H x o') h' x o'):HOk P w (upd H x o') h':=fun b u q=>by
  have nown:∀c y,H c=some (.own y)->c≠x:=fun c y r z=>by subst z;rw[r]at mu;exact mu
  have ntup:∀c xs,H c=some (.tup xs)->c≠x:=fun c xs r z=>by subst z;rw[r]at mu;exact mu
  by_cases hb:b=x
  · subst hb;rw[upd_same]at q;cases q;exact new
  · rw[upd_ne hb]at q
    by_cases hbe:b=e
    · have q':H b=some (.own x):=by
        rcases he with z | z
        · exact absurd (hbe.trans z) hb
        · rw[hbe];exact z
      rw[q]at q';cases q'
      obtain⟨v,hv⟩:=heo
      exact⟨v,by rw[hbe];exact hv⟩
    · refine(ok b u q).stay (fun c v hc r=>k c v ?_ r) (fun c r=>by rw[upd_ne (nown c b r)];exact r) fun c xs r=>by rw[upd_ne (ntup c xs r)];exact r
      rcases hc with rfl | hc
      · exact hbe
      · rintro rfl
        rcases he with z | z
        · exact nown c b hc z
        · rw[hc]at z;cases z;exact hb rfl
end
structure Un (fs ex:List Addr) (H H':Hp) (h h':Heap):Prop where
  keep:∀b o,h.get? b=some o->H b=none->b ∉ fs->b ∉ ex->h'.get? b=some o
  slot:∀b o,h.get? b=some o->H b=none->b∈fs->b ∉ ex->∃sl,h'.get? b=some {o with slots:=sl}
  free:∀b o,h.get? b=some o->H b=none->b ∉ ex->H' b=none
  there:∀b o,h.get? b=some o->b ∉ ex->∃o',h'.get? b=some o'
  tups:∀b xs,H b=some (.tup xs)->H' b=some (.tup xs)
  frzs:∀b o u,H b=some (.frz o u)->H' b=some (.frz o u)
  tbls:∀b ps,H b=some (.tbl ps)->∃more,H' b=some (.tbl (ps++more))
section
variable {fs fs' ex ex':List Addr} {H H1 H2:Hp} {h h1 h2 h':Heap} {a x e:Addr} {o:HO}
theorem Un.any (u:Un fs ex H H1 h h1) {b:Addr} {ob:Obj} (q:h.get? b=some ob) (n:H b=none) (hx:b ∉ ex):∃sl,h1.get? b=some {ob with slots:=sl}:=by
  by_cases hb:b∈fs
  · exact u.slot b ob q n hb hx
  · exact⟨ob.slots,u.keep b ob q n hb hx⟩
theorem Un.kept (k:∀b u,h.get? b=some u->h'.get? b=some u):Un fs ex H H h h':=
  ⟨fun b ob q _ _ _=>k b ob q,fun b ob q _ _ _=>⟨ob.slots,k b ob q⟩,fun _ _ _ n _=>n,fun b ob q _=>⟨ob,k b ob q⟩,fun _ _ q=>q,fun _ _ _ q=>q,fun _ ps q=>⟨#[],by rw[q];simp⟩⟩
theorem Un.refl:Un fs ex H H h h:=Un.kept fun _ _ q=>q
theorem Un.laid (k:∀b u,h.get? b=some u->h'.get? b=some u) (hp:h.objs.size≤a) (hn:H a=none):Un fs ex H (upd H a o) h h' where
  keep:=fun b u q _ _ _=>k b u q
  slot:=fun b u q _ _ _=>⟨u.slots,k b u q⟩
  free:=fun b u q n _=>by rw[upd_ne (Nat.ne_of_lt (Nat.lt_of_lt_of_le (Heap.lt_size q) hp))];exact n
  there:=fun b u q _=>⟨u,k b u q⟩
  tups:=fun b xs q=>by rw[upd_ne (ne_of_none q hn)];exact q
  frzs:=fun b u xs q=>by rw[upd_ne (ne_of_none q hn)];exact q
  tbls:=fun b ps q=>⟨#[],by rw[upd_ne (ne_of_none q hn),q];simp⟩
theorem Un.write (mu:Mut (H x)) (he:e=x∨H e=some (.own x)) (k:∀b u,b≠e->h.get? b=some u->h'.get? b=some u) (heo:∃u,h'.get? e=some u):Un fs ex H (upd H x o) h h':=by
  have hx:∀b,H b=none->b≠x:=fun b n z=>by subst z;rw[n]at mu;exact mu
  have hb:∀b,H b=none->b≠e:=fun b n z=>by
    subst z
    rcases he with r | r
    · exact hx b n r
    · rw[n]at r;cases r
  have hm:∀b u,H b=some u->¬Mut (some u)->b≠x:=fun b u q nm z=>by subst z;rw[q]at mu;exact nm mu
  refine⟨fun b u q n _ _=>k b u (hb b n) q,fun b u q n _ _=>⟨u.slots,k b u (hb b n) q⟩,fun b u q n _=>by rw[upd_ne (hx b n)];exact n,fun b u q _=> ?_,
    fun b xs q=>by rw[upd_ne (hm b _ q fun z=>z)];exact q,fun b u xs q=>by rw[upd_ne (hm b _ q fun z=>z)];exact q,fun b ps q=>⟨#[],by rw[upd_ne (hm b _ q fun z=>z),q];simp⟩⟩
  by_cases hbe:b=e
  · subst hbe;exact heo
  · exact⟨u,k b u hbe q⟩
end
def trk (h:Heap) (H:Hp):List Addr:=(List.range h.objs.size).filter fun a=>(H a).isSome
def hidT (h:Heap) (H:Hp):Heap:=PySem.W.hideAll h (trk h H)
theorem hidT_size (h:Heap) (H:Hp):(hidT h H).objs.size=h.objs.size:=PySem.W.hideAll_size _ _
theorem hidT_get {h:Heap} {H:Hp} {b:Addr} {o:Obj} (e:h.get? b=some o) (n:H b=none):(hidT h H).get? b=some o:=
  PySem.W.hideAll_get _ e fun hm=>by
    have q:(H b).isSome=true:=(List.mem_filter.mp hm).2
    rw[n]at q;simp at q
theorem of_hidT {h:Heap} {H:Hp} {b:Addr} {o:Obj} (e:(hidT h H).get? b=some o):h.get? b=some o/\H b=none:=by
  have e':h.get? b=some o:=PySem.W.of_hideAll (trk h H) e
  refine⟨e',?_⟩
  cases q:H b with
  | none=>rfl
  | some x=>
    have hm:b∈trk h H:=List.mem_filter.mpr ⟨List.mem_range.mpr (Heap.lt_size e'),by simp[q]⟩
    have z:(hidT h H).get? b=none:=PySem.W.hideAll_none (trk h H) hm
    rw[z]at e;cases e
end L2
namespace L2
open PySem PySem.Spec PyProof.Rows
structure Mod (K:PySem.W.Frag) (mg:Str->Option Value) (base:Heap):Prop where
  kin:K.In base
  glob:base.Ns mainGlobals mg
  blt:∃mb,base.Ns builtinsNs mb/\∀x:Str,x≠"__name__"->mb x=bootBuiltins x
  nolimit:base.NoLimit
structure Cx where
  prog:Program
  w:World
  K:PySem.W.Frag
  mg:Str->Option Value
  base:Heap
  A:Around
  N:List Str
  s_0:Shared
  H_0:Hp
  env:Env
  outer:List Env
  stack:List Env
  ex:List Addr
  fn:Str->Bool
  calm:Bool
  pn:List (Addr×Obj)
  xe:Value->Shared->Prop
def frs (l:List Env):List Addr:=l.filterMap (·.frame)
abbrev Cx.fs (X:Cx):List Addr:=frs X.outer
def Vis (sc:Scope) (x:Str):Prop:=sc.names.lookup x=some .local∨sc.names.lookup x=some .cell∨sc.names.lookup x=some .free
def Loc (sc:Scope) (x:Str):Prop:=sc.names.lookup x=some .local∨sc.names.lookup x=some .cell
def Look (env:Env) (h:Heap) (m:Str->Option Value) (x:Str) (u:Value):Prop:=
  (env.kindOf x=some .local/\m x=some u)∨((env.kindOf x=some .cell∨env.kindOf x=some .free)/\∃c,env.cells.lookup x=some c/\h.IsCell c (some u))
structure Cx.Ok (X:Cx):Prop where
  mod:Mod X.K X.mg X.base
  kind:X.env.scope.kind= .function
  glob:X.env.globals=mainGlobals
  blt:X.env.builtins=builtinsNs
  above:X.s_0.heap.objs.size≤X.env.locals
  inj:∀x y c,X.env.cells.lookup x=some c->X.env.cells.lookup y=some c->x=y
  has:∀x,(X.env.kindOf x=some .cell∨X.env.kindOf x=some .free)->∃c,X.env.cells.lookup x=some c
  cab:∀x c,X.fn x=true->X.env.cells.lookup x=some c->X.s_0.heap.objs.size≤c
  hd:X.calm=true->X.A.handled=none
  frames:X.A.frames=some X.stack
  stk:X.stack=X.outer∨(X.stack=X.env::X.outer/\X.env.frame=some X.env.locals)
  exf:∀b∈X.ex,b≠X.env.locals/\∀x c,X.env.cells.lookup x=some c->c≠b
  bs:∀b o,X.base.get? b=some o->X.s_0.heap.get? b=some o/\X.H_0 b=none
  bsz:X.base.objs.size≤X.s_0.heap.objs.size
  noex:∀b o,X.base.get? b=some o->b ∉ X.ex
  exfs:∀b∈X.ex,b ∉ X.fs
  funs:X.s_0.heap.FunFrames X.base X.outer
  frf:∀b∈X.fs,X.H_0 b=none
structure Inv (X:Cx) (pins:List (Addr×Obj)) (σ:List (Option V)) (H:Hp) (s:Shared):Prop where
  ok:X.Ok
  os:s.os=X.s_0.os
  bare:AllBare s.gens
  base:Un X.fs X.ex X.H_0 H X.s_0.heap s.heap
  loc:∃m,s.heap.Ns X.env.locals m/\∀(i:Nat) (x:Str) (v:V),X.N[i]? =some x->σ[i]? =some (some v)->Vis X.env.scope x->∃u,RelV v u/\Look X.env s.heap m x u
  cell:∀x c,X.env.cells.lookup x=some c->∃v,s.heap.IsCell c v
  free:H X.env.locals=none
  freeC:∀x c,X.env.cells.lookup x=some c->H c=none
  pin:∀p∈X.pn++pins,s.heap.get? p.1=some p.2/\H p.1=none/\p.1≠X.env.locals/\p.1 ∉ X.fs/\∀v,p.2.data≠ .cell v
  hok:HOk X.prog X.w H s.heap
  len:σ.length=X.N.length
section
variable {X:Cx} {pins:List (Addr×Obj)} {σ:List (Option V)} {H H':Hp} {s:Shared} {h':Heap}
theorem Cx.Ok.nofr (ok:X.Ok) {b:Addr} {o:Obj} (e:X.base.get? b=some o):b ∉ X.fs:=fun hb=>by
  have:=(ok.funs.mem hb).1
  rw[e]at this;cases this
theorem Inv.bs (I:Inv X pins σ H s):∀b o,X.base.get? b=some o->s.heap.get? b=some o/\H b=none:=fun b o e=>
  ⟨I.base.keep b o (I.ok.bs b o e).1 (I.ok.bs b o e).2 (I.ok.nofr e) (I.ok.noex b o e),I.base.free b o (I.ok.bs b o e).1 (I.ok.bs b o e).2 (I.ok.noex b o e)⟩
theorem Inv.bk (I:Inv X pins σ H s):∀b o,X.base.get? b=some o->s.heap.get? b=some o:=fun b o e=>(I.bs b o e).1
theorem Inv.mod (I:Inv X pins σ H s):Mod X.K X.mg X.base:=I.ok.mod
theorem Inv.kIn (I:Inv X pins σ H s):X.K.In s.heap:=I.ok.mod.kin.keeps I.bk
theorem Inv.lt (I:Inv X pins σ H s):X.env.locals < s.heap.objs.size:=let ⟨_,hn,_⟩:=I.loc;hn.lt
theorem Inv.sz (I:Inv X pins σ H s):X.s_0.heap.objs.size≤s.heap.objs.size:=Nat.le_trans I.ok.above (Nat.le_of_lt I.lt)
theorem Inv.nofs (I:Inv X pins σ H s) {a:Addr} (h:s.heap.objs.size≤a):a ∉ X.fs:=fun hb=>by
  obtain⟨_,o,ho,_⟩:=I.ok.funs.mem hb
  exact absurd (Nat.lt_of_lt_of_le (Heap.lt_size ho) (Nat.le_trans I.sz h)) (Nat.lt_irrefl _)
theorem Inv.cne (I:Inv X pins σ H s):∀x c,X.env.cells.lookup x=some c->c≠X.env.locals:=fun x c e z=>by
  obtain⟨v,o,ho,hd⟩:=I.cell x c e
  obtain⟨m,⟨o',es,ep,ho',hd',_⟩,_⟩:=I.loc
  rw[z,ho']at ho;cases ho;rw[hd']at hd;cases hd
theorem Inv.funs (I:Inv X pins σ H s):s.heap.FunFrames X.base X.outer:=by
  have all:∀(l:List Env),(∀b∈frs l,b∈X.fs)->X.s_0.heap.FunFrames X.base l->s.heap.FunFrames X.base l:=by
    intro l
    induction l with
    | nil=>intro _ _;trivial
    | cons env r ih=>
      intro hs hl
      obtain⟨hk,⟨L,o,hf,hn,ho,hd⟩,hr⟩:=hl
      have hL:L∈X.fs:=hs L (by unfold frs;rw[List.filterMap_cons,hf];exact List.mem_cons_self)
      obtain⟨sl,e⟩:=I.base.slot L o ho (I.ok.frf L hL) hL fun z=>I.ok.exfs L z hL
      exact⟨hk,⟨L,_,hf,hn,e,hd⟩,ih (fun b hb=>hs b (by unfold frs;rw[List.filterMap_cons,hf];exact List.mem_cons_of_mem _ hb)) hr⟩
  exact all X.outer (fun _ hb=>hb) I.ok.funs
theorem Inv.stack (I:Inv X pins σ H s):s.heap.FunFrames X.base X.stack:=by
  rcases I.ok.stk with e | ⟨e,hf⟩
  · rw[e];exact I.funs
  · rw[e]
    obtain⟨m,hn,_⟩:=I.loc
    refine .cons (by rw[I.ok.kind];decide) hf hn ?_ I.funs
    exact Heap.get?_none_of_le (Nat.le_trans I.ok.bsz I.ok.above)
theorem Inv.stkSub (I:Inv X pins σ H s):∀b∈frs X.stack,b∈X.env.locals::X.fs:=fun b hb=>by
  rcases I.ok.stk with e | ⟨e,hf⟩
  · rw[e]at hb;exact List.mem_cons_of_mem _ hb
  · rw[e]at hb
    unfold frs at hb
    rw[List.filterMap_cons,hf]at hb
    exact hb
theorem Inv.stkFree (I:Inv X pins σ H s):∀b∈frs X.stack,H b=none:=fun b hb=>by
  rcases List.mem_cons.mp (I.stkSub b hb)with e | hb
  · rw[e];exact I.free
  · obtain⟨_,o,ho,_⟩:=I.ok.funs.mem hb
    exact I.base.free b o ho (I.ok.frf b hb) fun z=>I.ok.exfs b z hb
theorem Inv.step {g':Array GenState} {t':Nat} {d':Drawn} {ch:List Addr} (I:Inv X pins σ H s)
    (hch:∀b∈ch,(b∈X.ex∨X.s_0.heap.objs.size≤b)/\b≠X.env.locals/\(∀x c,X.env.cells.lookup x=some c->c≠b)/\∀p∈X.pn++pins,p.1≠b)
    (keep:∀b o,b≠X.env.locals->b ∉ X.fs->b ∉ ch->s.heap.get? b=some o->H b=none->h'.get? b=some o)
    (slot:∀b o,b≠X.env.locals->b∈X.fs->b ∉ ch->s.heap.get? b=some o->H b=none->∃sl,h'.get? b=some {o with slots:=sl}) (free:∀b o,b ∉ ch->s.heap.get? b=some o->H b=none->H' b=none)
    (there:∀b o,b ∉ ch->s.heap.get? b=some o->∃o',h'.get? b=some o')
    (tups:∀b xs,H b=some (.tup xs)->H' b=some (.tup xs)) (frzs:∀b o u,H b=some (.frz o u)->H' b=some (.frz o u)) (tbls:∀b ps,H b=some (.tbl ps)->∃more,H' b=some (.tbl (ps++more)))
    (ns:∀m,s.heap.Ns X.env.locals m->h'.Ns X.env.locals m) (hok:HOk X.prog X.w H' h') (hg:AllBare g'):
    Inv X pins σ H' {s with heap:=h',gens:=g',drawn:=d',toks:=t'}:=by
  have neL:∀b o,X.s_0.heap.get? b=some o->b≠X.env.locals:=fun b o e=>Nat.ne_of_lt (Nat.lt_of_lt_of_le (Heap.lt_size e) I.ok.above)
  have neC:∀b o,X.s_0.heap.get? b=some o->b ∉ X.ex->b ∉ ch:=fun b o e hx hb=>by
    rcases(hch b hb).1 with z | z
    · exact hx z
    · exact absurd (Nat.lt_of_lt_of_le (Heap.lt_size e) z) (Nat.lt_irrefl _)
  have cellK:∀x c,X.env.cells.lookup x=some c->∀v,s.heap.IsCell c v->h'.IsCell c v:=fun x c e v ⟨o,ho,hd⟩=>by
    have nch:c ∉ ch:=fun z=>(hch c z).2.2.1 x c e rfl
    by_cases hc:c∈X.fs
    · obtain⟨sl,q⟩:=slot c o (I.cne x c e) hc nch ho (I.freeC x c e)
      exact⟨_,q,hd⟩
    · exact⟨o,keep c o (I.cne x c e) hc nch ho (I.freeC x c e),hd⟩
  refine⟨I.ok,I.os,hg,⟨fun b o e n hb hx=> ?_,fun b o e n hb hx=> ?_,fun b o e n hx=> ?_,fun b o e hx=> ?_,fun b xs e=>tups b xs (I.base.tups b xs e),fun b o xs e=>frzs b o xs (I.base.frzs b o xs e),fun b ps e=> ?_⟩,?_,fun x c e=> ?_,?_,fun x c e=> ?_,fun p hp=> ?_,hok,I.len⟩
  · exact keep b o (neL b o e) hb (neC b o e hx) (I.base.keep b o e n hb hx) (I.base.free b o e n hx)
  · obtain⟨sl,e1⟩:=I.base.slot b o e n hb hx
    obtain⟨sl',e2⟩:=slot b _ (neL b o e) hb (neC b o e hx) e1 (I.base.free b o e n hx)
    exact⟨sl',e2⟩
  · obtain⟨o',e1⟩:=I.base.there b o e hx
    exact free b o' (neC b o e hx) e1 (I.base.free b o e n hx)
  · obtain⟨o',e1⟩:=I.base.there b o e hx
    exact there b o' (neC b o e hx) e1
  · obtain⟨m1,e1⟩:=I.base.tbls b ps e
    obtain⟨m2,e2⟩:=tbls b _ e1
    exact⟨m1++m2,by rw[e2,Array.append_assoc]⟩
  · obtain⟨m,hn,hl⟩:=I.loc
    refine⟨m,ns m hn,fun i x v e1 e2 e3=> ?_⟩
    obtain⟨u,r,l⟩:=hl i x v e1 e2 e3
    refine⟨u,r,?_⟩
    rcases l with l | ⟨k,c,e,z⟩
    · exact .inl l
    · exact .inr ⟨k,c,e,cellK x c e _ z⟩
  · obtain⟨v,z⟩:=I.cell x c e
    exact⟨v,cellK x c e v z⟩
  · obtain⟨m,⟨o,_,_,ho,_⟩,_⟩:=I.loc
    exact free _ o (fun z=>(hch _ z).2.1 rfl) ho I.free
  · obtain⟨v,o,ho,hd⟩:=I.cell x c e
    exact free c o (fun z=>(hch c z).2.2.1 x c e rfl) ho (I.freeC x c e)
  · obtain⟨e,n,ne,nf,d⟩:=I.pin p hp
    have nch:p.1 ∉ ch:=fun z=>(hch p.1 z).2.2.2 p hp rfl
    exact⟨keep p.1 p.2 ne nf nch e n,free p.1 p.2 nch e n,ne,nf,d⟩
theorem Inv.un {t':Nat} (I:Inv X pins σ H s) (u:Un X.fs [] H H' s.heap h') (hok:HOk X.prog X.w H' h'):Inv X pins σ H' {s with heap:=h',toks:=t'}:=by
  obtain⟨m,⟨o,es,ep,ho,r⟩,_⟩:=id I.loc
  obtain⟨sl,hL⟩:=u.any ho I.free (by simp)
  exact I.step (g':=s.gens) (d':=s.drawn) (ch:=[]) (fun _ z=>nomatch z) (fun b o _ hb _ e n=>u.keep b o e n hb (by simp)) (fun b o _ hb _ e n=>u.slot b o e n hb (by simp)) (fun b o _ e n=>u.free b o e n (by simp)) (fun b o _ e=>u.there b o e (by simp)) u.tups u.frzs u.tbls (fun m' hm=>by
    obtain⟨o',es',ep',ho',r'⟩:=hm
    rw[ho]at ho';cases ho'
    exact⟨_,es',ep',hL,r'⟩) hok I.bare
theorem Inv.call {g':Array GenState} {t':Nat} {d':Drawn} {ch:List Addr} (I:Inv X pins σ H s) (u:Un (frs X.stack) ch H H' s.heap h') (hok:HOk X.prog X.w H' h') (hg:AllBare g')
    (hch:∀b∈ch,(b∈X.ex∨X.s_0.heap.objs.size≤b)/\b≠X.env.locals/\(∀x c,X.env.cells.lookup x=some c->c≠b)/\∀p∈X.pn++pins,p.1≠b):
    Inv X pins σ H' {s with heap:=h',gens:=g',drawn:=d',toks:=t'}:=by
  obtain⟨m,⟨o,es,ep,ho,r⟩,_⟩:=id I.loc
  obtain⟨sl,hL⟩:=u.any ho I.free fun z=>(hch _ z).2.1 rfl
  exact I.step (ch:=ch) hch (fun b o hL hb hc e n=>u.keep b o e n (fun z=>(List.mem_cons.mp (I.stkSub b z)).elim hL hb) hc) (fun b o _ _ hc e n=>u.any e n hc) (fun b o hc e n=>u.free b o e n hc) (fun b o hc e=>u.there b o e hc) u.tups u.frzs u.tbls (fun m' hm=>by
    obtain⟨o',es',ep',ho',r'⟩:=hm
    rw[ho]at ho';cases ho'
    exact⟨_,es',ep',hL,r'⟩) hok hg
theorem Inv.turned {t':Nat} {it:Addr} (I:Inv X pins σ H s) (k:∀b o,b≠it->s.heap.get? b=some o->h'.get? b=some o) (hn:H it=none) (hL:it≠X.env.locals)
    (h1:it∈X.ex∨X.s_0.heap.objs.size≤it) (h2:∀x c,X.env.cells.lookup x=some c->c≠it) (h3:∀p∈X.pn++pins,p.1≠it):Inv X pins σ H {s with heap:=h',toks:=t'}:=by
  have nit:∀b u,H b=some u->b≠it:=fun b u e z=>by rw[z,hn]at e;cases e
  refine I.step (g':=s.gens) (d':=s.drawn) (ch:=[it]) (fun b hb=> ?_) (fun b o _ _ hc e _=>k b o (fun z=>hc (by simp[z])) e) (fun b o _ _ hc e _=>⟨o.slots,k b o (fun z=>hc (by simp[z])) e⟩) (fun _ _ _ _ n=>n)
    (fun b o hc e=>⟨o,k b o (fun z=>hc (by simp[z])) e⟩) (fun _ _ e=>e) (fun _ _ _ e=>e) (fun b ps e=>⟨#[],by rw[e];simp⟩) (fun m hm=> ?_) (fun b u e=> ?_) I.bare
  · have e:b=it:=by simpa using hb
    subst e
    exact⟨h1,hL,h2,h3⟩
  · obtain⟨o,es,ep,ho,r⟩:=hm
    exact⟨o,es,ep,k _ o (Ne.symm hL) ho,r⟩
  · refine(I.hok b u e).stay (fun c v hc q=>k c v ?_ q) (fun _ q=>q) fun _ _ q=>q
    rcases hc with z | z
    · rw[z];exact nit b u e
    · exact nit c _ z
theorem Inv.tok (I:Inv X pins σ H s) (t:Nat):Inv X pins σ H {s with toks:=t}:=I.un (h':=s.heap) (t':=t) Un.refl I.hok
theorem Inv.kept {t':Nat} (I:Inv X pins σ H s) (k:∀b u,s.heap.get? b=some u->h'.get? b=some u):Inv X pins σ H {s with heap:=h',toks:=t'}:=I.un (Un.kept k) (I.hok.kept k)
theorem Inv.laid {a:Addr} {o:HO} {t':Nat} (I:Inv X pins σ H s) (k:∀b u,s.heap.get? b=some u->h'.get? b=some u) (hp:s.heap.objs.size≤a) (new:ObjOk X.prog X.w (upd H a o) h' a o):
    Inv X pins σ (upd H a o) {s with heap:=h',toks:=t'}:=I.un (Un.laid k hp (I.hok.fresh hp)) (I.hok.laid k hp new)
theorem Inv.write {x e:Addr} {o:HO} {t':Nat} (I:Inv X pins σ H s) (mu:Mut (H x)) (he:e=x∨H e=some (.own x)) (k:∀b u,b≠e->s.heap.get? b=some u->h'.get? b=some u) (heo:∃u,h'.get? e=some u)
    (new:ObjOk X.prog X.w (upd H x o) h' x o):Inv X pins σ (upd H x o) {s with heap:=h',toks:=t'}:=I.un (Un.write mu he k heo) (I.hok.write mu he k heo new)
theorem Inv.weak {σ':List (Option V)} (I:Inv X pins σ H s) (hl:σ'.length=σ.length) (w:∀(i:Nat) v,σ'[i]? =some (some v)->σ[i]? =some (some v)):Inv X pins σ' H s:=
  ⟨I.ok,I.os,I.bare,I.base,let ⟨m,hn,hl'⟩:=I.loc;⟨m,hn,fun i x v e1 e2 e3=>hl' i x v e1 (w i v e2) e3⟩,I.cell,I.free,I.freeC,I.pin,I.hok,hl.trans I.len⟩
theorem Inv.pins_of {pins':List (Addr×Obj)} (I:Inv X pins σ H s) (h:∀p∈pins',s.heap.get? p.1=some p.2/\H p.1=none/\p.1≠X.env.locals/\p.1 ∉ X.fs/\∀v,p.2.data≠ .cell v):Inv X pins' σ H s:=
  ⟨I.ok,I.os,I.bare,I.base,I.loc,I.cell,I.free,I.freeC,fun p hp=>(List.mem_append.mp hp).elim (fun z=>I.pin p (List.mem_append_left _ z)) (h p),I.hok,I.len⟩
theorem nodup_ix {N:List Str} (hN:N.Nodup) {i j:Nat} {x:Str} (a:N[i]? =some x) (b:N[j]? =some x):i=j:=by
  obtain⟨h1,e1⟩:=List.getElem?_eq_some_iff.mp a
  obtain⟨h2,e2⟩:=List.getElem?_eq_some_iff.mp b
  exact(List.getElem_inj hN).mp (e1.trans e2.symm)
theorem store_ok2 {M:Model} {A:Around} {E:Value->Shared->Prop} {i:Nat} {x:Str} {v:V} {u:Value} {Q:Unit->Shared->Prop} (I:Inv X pins σ H s) (hN:X.N.Nodup) (hi:X.N[i]? =some x) (hx:Loc X.env.scope x) (r:RelV v u)
    (h:∀s',Inv X pins (σ.set i (some v)) H s'->(∃a,Heap.SameBut a s.heap s'.heap/\(a=X.env.locals∨X.env.cells.lookup x=some a))->Q () s') (hf:X.fn x=true∨X.env.scope.names.lookup x=some .local:=by first | exact .inl rfl | exact .inr rfl | assumption):wpAny M A (storeName X.env x u) Q E s:=by
  obtain⟨m,hn,hl⟩:=id I.loc
  have hcls:(X.env.scope.kind == .class || (X.env.scope.kind == .module && X.env.locals != X.env.globals))=false:=by rw[I.ok.kind];rfl
  have hiσ:i < σ.length:=by rw[I.len];exact(List.getElem?_eq_some_iff.mp hi).1
  have cne:=I.cne
  have tracked:∀{a:Addr} {h':Heap},(∃o,s.heap.get? a=some o/\H a=none)->Heap.SameBut a s.heap h'->HOk X.prog X.w H h':=fun{a h'} ha hs b ob e=>by
    obtain⟨_,_,hfree⟩:=ha
    refine(I.hok b ob e).stay (fun c w' hc q=>(hs.2 c ?_).trans q) (fun _ q=>q) fun _ _ q=>q
    rintro rfl
    rcases hc with rfl | hc
    · rw[hfree]at e;cases e
    · rw[hfree]at hc;cases hc
  rcases hx with hk | hk
  · refine wpAny_storeName_local hk hn (fun h' hn' hs=> ?_) hcls
    obtain⟨oL,_,_,hoL,_⟩:=id hn
    refine h _ ⟨I.ok,I.os,I.bare,⟨fun b o e n hb hx=> ?_,fun b o e n hb hx=> ?_,I.base.free,fun b o e hx=> ?_,I.base.tups,I.base.frzs,I.base.tbls⟩,⟨_,hn',fun j y v' e1 e2 e3=> ?_⟩,fun y c e=> ?_,I.free,I.freeC,fun p hp=> ?_,tracked ⟨oL,hoL,I.free⟩ hs,by simpa using I.len⟩ ⟨_,hs,.inl rfl⟩
    · exact(hs.2 b (Nat.ne_of_lt (Nat.lt_of_lt_of_le (Heap.lt_size e) I.ok.above))).trans (I.base.keep b o e n hb hx)
    · obtain⟨sl,e1⟩:=I.base.slot b o e n hb hx
      exact⟨sl,(hs.2 b (Nat.ne_of_lt (Nat.lt_of_lt_of_le (Heap.lt_size e) I.ok.above))).trans e1⟩
    · obtain⟨o',e1⟩:=I.base.there b o e hx
      exact⟨o',(hs.2 b (Nat.ne_of_lt (Nat.lt_of_lt_of_le (Heap.lt_size e) I.ok.above))).trans e1⟩
    · by_cases hj:j=i
      · subst hj
        rw[hi]at e1;cases e1
        rw[List.getElem?_set_self hiσ]at e2
        cases e2
        exact⟨u,r,.inl ⟨hk,by simp⟩⟩
      · rw[List.getElem?_set_ne (Ne.symm hj)]at e2
        obtain⟨u',r',q⟩:=hl j y v' e1 e2 e3
        refine⟨u',r',?_⟩
        rcases q with⟨k,e⟩ | ⟨k,c,e,z⟩
        · refine .inl ⟨k,?_⟩
          have:y≠x:=fun e=>hj (nodup_ix hN e1 (e ▸ hi))
          simp[this,e]
        · exact .inr ⟨k,c,e,z.sameBut hs (cne y c e)⟩
    · obtain⟨w',z⟩:=I.cell y c e
      exact⟨w',z.sameBut hs (cne y c e)⟩
    · obtain⟨e,n,ne,nf,d⟩:=I.pin p hp
      exact⟨(hs.2 p.1 ne).trans e,n,ne,nf,d⟩
  · have hfn:X.fn x=true:=by
      rcases hf with z | z
      · exact z
      · rw[z]at hk;cases hk
    obtain⟨c,hc⟩:=I.ok.has x (.inl hk)
    obtain⟨w',z⟩:=I.cell x c hc
    refine wpAny_storeName_cell I.ok.kind hk hc z (fun h' hc' hs=> ?_)
    obtain⟨oc,hoc,hocd⟩:=id z
    refine h {s with heap:=h'} ⟨I.ok,I.os,I.bare,⟨fun b o e n hb hx=> ?_,fun b o e n hb hx=> ?_,I.base.free,fun b o e hx=> ?_,I.base.tups,I.base.frzs,I.base.tbls⟩,⟨m,hn.sameBut hs (Ne.symm (cne x c hc)),fun j y v' e1 e2 e3=> ?_⟩,fun y c' e=> ?_,I.free,I.freeC,fun p hp=> ?_,tracked ⟨oc,hoc,I.freeC x c hc⟩ hs,by simpa using I.len⟩ ⟨c,hs,.inr hc⟩
    · exact(hs.2 b (Nat.ne_of_lt (Nat.lt_of_lt_of_le (Heap.lt_size e) (I.ok.cab x c hfn hc)))).trans (I.base.keep b o e n hb hx)
    · obtain⟨sl,e1⟩:=I.base.slot b o e n hb hx
      exact⟨sl,(hs.2 b (Nat.ne_of_lt (Nat.lt_of_lt_of_le (Heap.lt_size e) (I.ok.cab x c hfn hc)))).trans e1⟩
    · obtain⟨o',e1⟩:=I.base.there b o e hx
      exact⟨o',(hs.2 b (Nat.ne_of_lt (Nat.lt_of_lt_of_le (Heap.lt_size e) (I.ok.cab x c hfn hc)))).trans e1⟩
    · by_cases hj:j=i
      · subst hj
        rw[hi]at e1;cases e1
        rw[List.getElem?_set_self hiσ]at e2
        cases e2
        exact⟨u,r,.inr ⟨.inl hk,c,hc,hc'⟩⟩
      · rw[List.getElem?_set_ne (Ne.symm hj)]at e2
        obtain⟨u',r',q⟩:=hl j y v' e1 e2 e3
        refine⟨u',r',?_⟩
        rcases q with q | ⟨k,c',e,z'⟩
        · exact .inl q
        · refine .inr ⟨k,c',e,z'.sameBut hs ?_⟩
          rintro rfl
          exact hj (nodup_ix hN e1 (I.ok.inj _ _ _ e hc ▸ hi))
    · by_cases hcc:c'=c
      · subst hcc;exact⟨_,hc'⟩
      · obtain⟨w2,z2⟩:=I.cell y c' e
        exact⟨w2,z2.sameBut hs hcc⟩
    · obtain⟨e,n,ne,nf,d⟩:=I.pin p hp
      refine⟨(hs.2 p.1 ?_).trans e,n,ne,nf,d⟩
      intro q
      rw[q,hoc]at e
      have q':oc=p.2:=Option.some.inj e
      exact d w' (by rw[←q'];exact hocd)
theorem store_ok {M:Model} {A:Around} {E:Value->Shared->Prop} {i:Nat} {x:Str} {v:V} {u:Value} {Q:Unit->Shared->Prop} (I:Inv X pins σ H s) (hN:X.N.Nodup) (hi:X.N[i]? =some x) (hx:Loc X.env.scope x) (r:RelV v u)
    (h:∀s',Inv X pins (σ.set i (some v)) H s'->Q () s') (hf:X.fn x=true∨X.env.scope.names.lookup x=some .local:=by first | exact .inl rfl | exact .inr rfl | assumption):wpAny M A (storeName X.env x u) Q E s:=
  store_ok2 I hN hi hx r (fun s' I' _=>h s' I') hf
theorem Inv.call' {s':Shared} {ch:List Addr} (I:Inv X pins σ H s) (ho:s'.os=s.os) (u:Un (frs X.stack) ch H H' s.heap s'.heap) (hok:HOk X.prog X.w H' s'.heap) (hg:AllBare s'.gens)
    (hch:∀b∈ch,(b∈X.ex∨X.s_0.heap.objs.size≤b)/\b≠X.env.locals/\(∀x c,X.env.cells.lookup x=some c->c≠b)/\∀p∈X.pn++pins,p.1≠b):Inv X pins σ H' s':=by
  obtain⟨h',g',d',t',o'⟩:=s'
  have e:o'=s.os:=ho
  subst e
  exact I.call (g':=g') (t':=t') (d':=d') u hok hg hch
end
abbrev XK:=Value->Option Addr->Hp->Prop
abbrev St:=List (Option V)
abbrev VK:=V->Hp->Prop
abbrev TE:=St->Hp->VK->Prop
abbrev TT:=St->Hp->(Bool->Hp->Prop)->Prop
abbrev TA:=St->Hp->(List V->Hp->Prop)->Prop
structure Ends where
  nx:St->Hp->Prop
  rt:VK
  bk:St->Hp->Prop:=fun _ _=>False
  ct:St->Hp->Prop:=fun _ _=>False
abbrev TS:=Ends->St->Hp->Prop
inductive EP (X:Cx) (pins:List (Addr×Obj)) (σ:St) (Q:VK) (u:Value) (s':Shared):Prop
  | mk (v:V) (H':Hp) (i:Inv X pins σ H' s') (r:RelV v u) (q:Q v H'):EP X pins σ Q u s'
inductive TP (X:Cx) (pins:List (Addr×Obj)) (σ:St) (Q:Bool->Hp->Prop) (b:Bool) (s':Shared):Prop
  | mk (H':Hp) (i:Inv X pins σ H' s') (q:Q b H'):TP X pins σ Q b s'
inductive AP (X:Cx) (pins:List (Addr×Obj)) (σ:St) (Q:List V->Hp->Prop) (us:List Value) (s':Shared):Prop
  | mk (vs:List V) (H':Hp) (i:Inv X pins σ H' s') (r:Vals vs us) (q:Q vs H'):AP X pins σ Q us s'
def SP (X:Cx) (pins:List (Addr×Obj)) (D:Ends) (f:Flow) (s':Shared):Prop:=
  match f with
  | .next=>∃σ' H',Inv X pins σ' H' s'/\D.nx σ' H'
  | .brk=>∃σ' H',Inv X pins σ' H' s'/\D.bk σ' H'
  | .cont=>∃σ' H',Inv X pins σ' H' s'/\D.ct σ' H'
  | .ret u=>∃v σ' H',Inv X pins σ' H' s'/\RelV v u/\D.rt v H'
def PE (X:Cx) (e:Expr) (t:TE):Prop:=
  ∀(pins:List (Addr×Obj)) (s:Shared) (σ:St) (H:Hp) (Q:VK),Inv X pins σ H s->t σ H Q->wpAny (model X.prog X.w) X.A (eval e X.env) (EP X pins σ Q) X.xe s
def PT (X:Cx) (e:Expr) (t:TT):Prop:=
  ∀(pins:List (Addr×Obj)) (s:Shared) (σ:St) (H:Hp) (Q:Bool->Hp->Prop),Inv X pins σ H s->t σ H Q->wpAny (model X.prog X.w) X.A (isTrue e X.env (eval e X.env)) (TP X pins σ Q) X.xe s
def PW (X:Cx) (e:Expr) (t:TT):Prop:=
  ∀(whole:Sem Value) (pins:List (Addr×Obj)) (s:Shared) (σ:St) (H:Hp) (Q:Bool->Hp->Prop),Inv X pins σ H s->t σ H Q->wpAny (model X.prog X.w) X.A (isTrue e X.env whole) (TP X pins σ Q) X.xe s
theorem PW.pt {X:Cx} {e:Expr} {t:TT} (h:PW X e t):PT X e t:=h _
def PA (X:Cx) (es:List Expr) (t:TA):Prop:=
  ∀(pos:Pos) (pins:List (Addr×Obj)) (s:Shared) (σ:St) (H:Hp) (Q:List V->Hp->Prop),Inv X pins σ H s->t σ H Q->wpAny (model X.prog X.w) X.A (spliced (backTo pos (starEach es X.env))) (AP X pins σ Q) X.xe s
def PS (X:Cx) (st:Stmt) (t:TS):Prop:=
  ∀(pins:List (Addr×Obj)) (s:Shared) (σ:St) (H:Hp) (D:Ends),Inv X pins σ H s->t D σ H->wpAny (model X.prog X.w) X.A (exec st X.env) (SP X pins D) X.xe s
def PSs (X:Cx) (st:List Stmt) (t:TS):Prop:=
  ∀(pins:List (Addr×Obj)) (s:Shared) (σ:St) (H:Hp) (D:Ends),Inv X pins σ H s->t D σ H->wpAny (model X.prog X.w) X.A (execs st X.env) (SP X pins D) X.xe s
theorem thn {α:Type} {t:Sem α} {Q Q':α->Shared->Prop} {M:Model} {A:Around} {E:Value->Shared->Prop} {s:Shared} (h:wpAny M A t Q E s) (hQ:∀a s,Q a s->Q' a s):wpAny M A t Q' E s:=wpAny_mono h hQ fun _ _ x=>x
end L2
namespace L2
open PySem PySem.Spec PyProof.Rows
section
variable {X:Cx}
inductive tVar (i:Nat) (σ:St) (H:Hp) (Q:VK):Prop
  | mk (v:V) (h:σ[i]? =some (some v)) (q:Q v H):tVar i σ H Q
def tC (v:V):TE:=fun _ H Q=>Q v H
theorem pe_var {i:Nat} {x:Str} {pos:Pos} (hN:X.N[i]? =some x) (hv:Vis X.env.scope x) (hd:(x == ("__debug__":Str))=false:=by decide) (hcd:(x == ("__classdict__":Str))=false:=by decide):PE X (.Name x pos) (tVar i):=by
  intro pins s σ H Q I h
  obtain⟨v,e,h⟩:=h
  obtain⟨m,hn,hl⟩:=I.loc
  obtain⟨u,r,l⟩:=hl i x v hN e hv
  have fin:EP X pins σ Q u s:=⟨v,H,I,r,h⟩
  rcases l with⟨hk,hm⟩ | ⟨hk,c,hc,hcell⟩
  · exact wpAny_Name (wpAny_loadName_local I.ok.kind hk hn hm fin) hd
  · rcases hk with hk | hk
    · exact wpAny_Name (wpAny_loadName_cell I.ok.kind hk hc hcell fin) hd
    · exact wpAny_Name (wpAny_loadName_free I.ok.kind hk hc hcell fin hcd) hd
theorem pe_int {i j pos}:PE X (.Constant (.int i) j pos) (tC (.int i)):=fun _ _ _ H _ I h=>wpAny_Constant_int ⟨.int i,H,I.tok _,⟨_,rfl⟩,h⟩
theorem pe_bl {b j pos}:PE X (.Constant (.bool b) j pos) (tC (.bl b)):=fun _ _ _ H _ I h=>Constant_bool ⟨.bl b,H,I,rfl,h⟩
theorem pe_non {j pos}:PE X (.Constant .none j pos) (tC .non):=fun _ _ _ H _ I h=>Constant_none ⟨.non,H,I,rfl,h⟩
def Gl (X:Cx) (x:Str):Prop:=X.env.kindOf x=some .globalImplicit
theorem ld_glob {E:Value->Shared->Prop} {pins:List (Addr×Obj)} {s:Shared} {σ:St} {H:Hp} {x:Str} {u:Value} {pos:Pos} {Q:Value->Shared->Prop} (I:Inv X pins σ H s) (hg:Gl X x) (hm:X.mg x=some u) (h:Q u s)
    (hd:(x == ("__debug__":Str))=false:=by decide):wpAny (model X.prog X.w) X.A (eval (.Name x pos) X.env) Q E s:=
  Calls.Name_function_global I.ok.kind hg (Calls.loadGlobal_global (by rw[I.ok.glob];exact I.mod.glob.keeps I.bk) hm h) hd
theorem ld_blt {E:Value->Shared->Prop} {pins:List (Addr×Obj)} {s:Shared} {σ:St} {H:Hp} {x:Str} {u:Value} {pos:Pos} {Q:Value->Shared->Prop} (I:Inv X pins σ H s) (hg:Gl X x) (hm:X.mg x=none) (hv:bootBuiltins x=some u) (h:Q u s)
    (hn:x≠"__name__":=by decide) (hd:(x == ("__debug__":Str))=false:=by decide):wpAny (model X.prog X.w) X.A (eval (.Name x pos) X.env) Q E s:=by
  obtain⟨mb,h1,h2⟩:=I.mod.blt
  exact Calls.Name_function_global I.ok.kind hg (Calls.loadGlobal_builtin (by rw[I.ok.glob];exact I.mod.glob.keeps I.bk) hm (by rw[I.ok.blt];exact h1.keeps I.bk) ((h2 x hn).trans hv) h) hd
theorem pe_glob {x:Str} {v:V} {u:Value} {pos:Pos} (hg:Gl X x) (hm:X.mg x=some u) (r:RelV v u) (hd:(x == ("__debug__":Str))=false:=by decide):PE X (.Name x pos) (tC v):=
  fun _ _ _ H _ I h=>ld_glob I hg hm ⟨v,H,I,r,h⟩ hd
variable {a b:Expr} {ta tb:TE} {pos:Pos}
def PC (X:Cx) (op:CmpOp) (a b:Expr) (t:TE):Prop:=
  ∀(pins:List (Addr×Obj)) (s:Shared) (σ:St) (H:Hp) (Q:VK),Inv X pins σ H s->t σ H Q->
    wpAny (model X.prog X.w) X.A (eval a X.env) (fun v s₁=>wpAny (model X.prog X.w) X.A (eval b X.env) (fun u s₂=>wpAny (model X.prog X.w) X.A (compareOp op v u) (EP X pins σ Q) X.xe s₂) X.xe s₁) X.xe s
theorem nobehind (b:Expr) {op:CmpOp} (h:op≠ .In) (h2:op≠ .NotIn):behindInMarks op b=false:=by
  have e1:(op == CmpOp.In)=false:=by cases op <;> first | rfl | exact absurd rfl h
  have e2:(op == CmpOp.NotIn)=false:=by cases op <;> first | rfl | exact absurd rfl h2
  cases b <;> simp[behindInMarks,e1,e2]
def tIsN (ta:TE):TE:=fun σ H Q=>ta σ H fun x H1=>Q (.bl (decide (x= .non))) H1
theorem RelV.none_iff {x:V} {v:Value} (r:RelV x v):(v == Value.none)=decide (x= .non):=by
  cases x with
  | non=>cases r;rfl
  | bl _=>cases r;rfl
  | int _=>obtain⟨t,rfl⟩:=r;rfl
  | str _=>obtain⟨t,rfl⟩:=r;rfl
  | byt _=>obtain⟨t,rfl⟩:=r;rfl
  | flt _=>obtain⟨t,rfl⟩:=r;rfl
  | ref _=>cases r;rfl
  | ty _=>cases r;rfl
theorem pc_isN {j pos'} (ha:PE X a ta):PC X .Is a (.Constant .none j pos') (tIsN ta):=by
  intro pins s σ H Q I h
  refine thn (ha pins s σ H _ I h) fun v s1 ⟨x,H1,I1,r1,q1⟩=> ?_
  exact Constant_none (is_none_gen ⟨.bl _,H1,I1,by rw[r1.none_iff];rfl,q1⟩)
inductive blI (Q:Bool->Hp->Prop) (x:V) (H:Hp):Prop
  | mk (c:Bool) (h:x= .bl c) (q:Q c H):blI Q x H
def tB (t:TE):TT:=fun σ H Q=>t σ H (blI Q)
theorem pt_cmp {op:CmpOp} {t:TE} (h:PC X op a b t) (h1:behindInMarks op b=false:=by first | exact nobehind _ (by decide) (by decide) | rfl):PT X (.Compare a [op] [b] pos) (tB t):=by
  intro pins s σ H Q I hw
  refine wpAny_isTrue_Compare1 (thn (h pins s σ H _ I hw) fun v s1 h1=>thn h1 fun u s2 h2=>thn h2 fun c s3 ⟨x,H1,I1,r1,q1⟩=> ?_) h1
  obtain⟨d,rfl,q⟩:=q1
  cases r1
  exact wpAny_truthy_bool ⟨H1,I1,q⟩
theorem pt_val {e:Expr} {t:TE} (h:PE X e t) (he:∀whole,isTrue e X.env whole=(do let v ←whole;standAt e.pos;holding [v] (truthy v)):=by intro _;rfl):PT X e (tB t):=by
  intro pins s σ H Q I hw
  refine isTrue_plain (thn (h pins s σ H _ I hw) fun v s1 ⟨x,H1,I1,r1,q1⟩=> ?_) (he _)
  obtain⟨d,rfl,q⟩:=q1
  cases r1
  exact wpAny_truthy_bool ⟨H1,I1,q⟩
variable {tA tB':TT} {rest:List Expr}
def tAnd (t u:TT):TT:=fun σ H Q=>t σ H fun c H1=>if c=true then u σ H1 Q else Q false H1
def tOr (t u:TT):TT:=fun σ H Q=>t σ H fun c H1=>if c=true then Q true H1 else u σ H1 Q
def tNot (t:TT):TT:=fun σ H Q=>t σ H fun c H1=>Q (!c) H1
theorem pw_and1 (ha:PT X a tA):PW X (.BoolOp .And [a] pos) tA:=by
  intro wh pins s σ H Q I h
  refine isTrue_and (thn (ha pins s σ H Q I h) fun c s1 e=> ?_)
  cases c with
  | true=>exact isTrue_and_nil e
  | false=>exact e
theorem pw_or1 (ha:PT X a tA):PW X (.BoolOp .Or [a] pos) tA:=by
  intro wh pins s σ H Q I h
  refine isTrue_or (thn (ha pins s σ H Q I h) fun c s1 e=> ?_)
  cases c with
  | false=>exact isTrue_or_nil e
  | true=>exact e
theorem pw_and (ha:PT X a tA) (hb:PW X (.BoolOp .And (b::rest) pos) tB'):PW X (.BoolOp .And (a::b::rest) pos) (tAnd tA tB'):=by
  intro wh pins s σ H Q I h
  refine isTrue_and (thn (ha pins s σ H _ I h) fun c s1 ⟨H1,I1,q1⟩=> ?_)
  cases c with
  | true=>exact hb wh pins s1 σ H1 Q I1 q1
  | false=>exact⟨H1,I1,q1⟩
theorem pw_or (ha:PT X a tA) (hb:PW X (.BoolOp .Or (b::rest) pos) tB'):PW X (.BoolOp .Or (a::b::rest) pos) (tOr tA tB'):=by
  intro wh pins s σ H Q I h
  refine isTrue_or (thn (ha pins s σ H _ I h) fun c s1 ⟨H1,I1,q1⟩=> ?_)
  cases c with
  | true=>exact⟨H1,I1,q1⟩
  | false=>exact hb wh pins s1 σ H1 Q I1 q1
theorem pt_not (ha:PT X a tA):PT X (.UnaryOp .Not a pos) (tNot tA):=by
  intro pins s σ H Q I h
  exact isTrue_not (thn (ha pins s σ H (fun c H1=>Q (!c) H1) I h) fun c s1 ⟨H1,I1,q1⟩=>⟨H1,I1,q1⟩)
def tAndV (ta tb:TE):TE:=fun σ H Q=>ta σ H fun x H1=>∃c,x= .bl c/\if c=true then tb σ H1 Q else Q (.bl false) H1
theorem pe_one {op} {t:TE} (h:PE X a t):PE X (.BoolOp op [a] pos) t:=fun pins s σ H Q I hw=>BoolOp_one (h pins s σ H Q I hw)
theorem pe_and (ha:PE X a ta) (hb:PE X (.BoolOp .And (b::rest) pos) tb):PE X (.BoolOp .And (a::b::rest) pos) (tAndV ta tb):=by
  intro pins s σ H Q I h
  refine BoolOp_and (thn (ha pins s σ H _ I h) fun v s1 ⟨x,H1,I1,r1,q1⟩=> ?_)
  obtain⟨c,rfl,q1⟩:=q1
  cases r1
  refine wpAny_truthy_bool ?_
  cases c with
  | true=>exact hb pins s1 σ H1 Q I1 q1
  | false=>exact⟨.bl false,H1,I1,rfl,q1⟩
def tIf (t:TT) (ta tb:TE):TE:=fun σ H Q=>t σ H fun c H1=>if c=true then ta σ H1 Q else tb σ H1 Q
theorem pe_ifExp {c:Expr} (hc:PT X c tA) (ha:PE X a ta) (hb:PE X b tb):PE X (.IfExp c a b pos) (tIf tA ta tb):=by
  intro pins s σ H Q I h
  refine wpAny_IfExp (thn (hc pins s σ H _ I h) fun d s1 ⟨H1,I1,q1⟩=> ?_)
  cases d with
  | true=>exact ha pins s1 σ H1 Q I1 q1
  | false=>exact hb pins s1 σ H1 Q I1 q1
end
end L2
namespace L2
open PySem PySem.Spec PyProof.Rows
def SqL (K:PySem.W.Frag) (H:Hp) (a:Addr) (xs:List V):Prop:=
  Rd H a (.lst xs)∨
    ∃(o:Obj) (its:Array Value) (n:Nat),K.lookup a=some o/\o.cls= .type "list"/\o.dict=none/\o.data= .seq its n/\its.size≤sizeLine/\Vals xs its.toList
def SqT (K:PySem.W.Frag) (H:Hp) (a:Addr) (xs:List V):Prop:=
  Rd H a (.tup xs)∨
    ∃(o:Obj) (its:Array Value) (n:Nat),K.lookup a=some o/\o.cls= .type "tuple"/\o.data= .seq its n/\its.size≤sizeLine/\Vals xs its.toList
def absV:Value->Option V
  | .none=>some .non
  | .bool b=>some (.bl b)
  | .int i _=>some (.int i)
  | .str x _=>some (.str x)
  | .bytes b _=>some (.byt b)
  | .float b _=>some (.flt b)
  | .ref a=>some (.ref a)
  | .type n=>some (.ty n)
  | _=>none
theorem RelV.abs {x:V} {u:Value} (r:RelV x u):absV u=some x:=by
  cases x with
  | non=>cases r;rfl
  | bl _=>cases r;rfl
  | int _=>obtain⟨t,rfl⟩:=r;rfl
  | str _=>obtain⟨t,rfl⟩:=r;rfl
  | byt _=>obtain⟨t,rfl⟩:=r;rfl
  | flt _=>obtain⟨t,rfl⟩:=r;rfl
  | ref _=>cases r;rfl
  | ty _=>cases r;rfl
theorem RelV.inj {x y:V} {u:Value} (r:RelV x u) (q:RelV y u):x=y:=Option.some.inj (r.abs.symm.trans q.abs)
theorem Vals.inj:∀{xs ys:List V} {us:List Value},Vals xs us->Vals ys us->xs=ys
  | _,_,_,.nil,.nil=>rfl
  | _,_,_,.cons r t,.cons r' t'=>by rw[r.inj r',Vals.inj t t']
section
variable {X:Cx} {pins:List (Addr×Obj)} {σ:St} {H:Hp} {s:Shared} {a:Addr} {xs ys:List V}
theorem SqL.of {K:PySem.W.Frag} (h:H a=some (.lst xs)):SqL K H a xs:= .inl (.inl h)
theorem SqT.of {K:PySem.W.Frag} (h:H a=some (.tup xs)):SqT K H a xs:= .inl (.inl h)
theorem Inv.list (I:Inv X pins σ H s) (h:SqL X.K H a xs):∃its:List Value,Vals xs its/\PlainL s.heap a its.toArray/\xs.length≤sizeLine:=by
  rcases h with h | ⟨o,its,n,hk,hc,hd,hs,hz,r⟩
  · obtain⟨z,its,n,r,e⟩:=h.ok I.hok
    exact⟨its,r,⟨_,n,e,rfl,rfl,rfl⟩,z⟩
  · refine⟨its.toList,r,⟨o,n,I.kIn a o hk,hc,hd,by simpa using hs⟩,?_⟩
    have e:=r.length
    simp only[Array.length_toList]at e
    omega
theorem Inv.tuple (I:Inv X pins σ H s) (h:SqT X.K H a xs):∃its:List Value,Vals xs its/\IsTup s.heap a its.toArray/\xs.length≤sizeLine:=by
  rcases h with h | ⟨o,its,n,hk,hc,hs,hz,r⟩
  · obtain⟨z,its,r,p⟩:=h.ok I.hok
    exact⟨its,r,p,z⟩
  · refine⟨its.toList,r,⟨o,I.kIn a o hk,hc,n,by simpa using hs⟩,?_⟩
    have e:=r.length
    simp only[Array.length_toList]at e
    omega
theorem Inv.list_inj (I:Inv X pins σ H s) (h:SqL X.K H a xs) (h':SqL X.K H a ys):xs=ys:=by
  obtain⟨its,r,⟨o,n,e,_,_,d⟩,_⟩:=I.list h
  obtain⟨its',r',⟨o',n',e',_,_,d'⟩,_⟩:=I.list h'
  rw[e]at e';cases e'
  rw[d]at d'
  injection d' with d1 _
  have:its=its':=by simpa using congrArg Array.toList d1
  subst this
  exact r.inj r'
theorem Inv.tuple_inj (I:Inv X pins σ H s) (h:SqT X.K H a xs) (h':SqT X.K H a ys):xs=ys:=by
  obtain⟨its,r,⟨o,e,_,n,d⟩,_⟩:=I.tuple h
  obtain⟨its',r',⟨o',e',_,n',d'⟩,_⟩:=I.tuple h'
  rw[e]at e';cases e'
  rw[d]at d'
  injection d' with d1 _
  have:its=its':=by simpa using congrArg Array.toList d1
  subst this
  exact r.inj r'
end
abbrev Cx.wish (X:Cx) (E:Value->Shared->Prop):Cx:={X with xe:=E}
abbrev Cx.nox (X:Cx):Cx:=X.wish fun _ _=>False
theorem Cx.Ok.wish {X:Cx} (ok:X.Ok) (E:Value->Shared->Prop):(X.wish E).Ok:=
  ⟨ok.mod,ok.kind,ok.glob,ok.blt,ok.above,ok.inj,ok.has,ok.cab,ok.hd,ok.frames,ok.stk,ok.exf,ok.bs,ok.bsz,ok.noex,ok.exfs,ok.funs,ok.frf⟩
theorem Cx.Ok.unwish {X:Cx} {E:Value->Shared->Prop} (ok:(X.wish E).Ok):X.Ok:=
  ⟨ok.mod,ok.kind,ok.glob,ok.blt,ok.above,ok.inj,ok.has,ok.cab,ok.hd,ok.frames,ok.stk,ok.exf,ok.bs,ok.bsz,ok.noex,ok.exfs,ok.funs,ok.frf⟩
section
variable {X:Cx} {pins:List (Addr×Obj)} {σ:St} {H:Hp} {s:Shared} {E:Value->Shared->Prop}
theorem Inv.wish (I:Inv X pins σ H s) (E:Value->Shared->Prop):Inv (X.wish E) pins σ H s:=⟨I.ok.wish E,I.os,I.bare,I.base,I.loc,I.cell,I.free,I.freeC,I.pin,I.hok,I.len⟩
theorem Inv.unwish (I:Inv (X.wish E) pins σ H s):Inv X pins σ H s:=⟨I.ok.unwish,I.os,I.bare,I.base,I.loc,I.cell,I.free,I.freeC,I.pin,I.hok,I.len⟩
theorem SP.unwish {D:Ends} {f:Flow} {s':Shared} (h:SP (X.wish E) pins D f s'):SP X pins D f s':=by
  cases f with
  | next=>obtain⟨σ',H',I,q⟩:=h;exact⟨σ',H',I.unwish,q⟩
  | brk=>obtain⟨σ',H',I,q⟩:=h;exact⟨σ',H',I.unwish,q⟩
  | cont=>obtain⟨σ',H',I,q⟩:=h;exact⟨σ',H',I.unwish,q⟩
  | ret u=>obtain⟨v,σ',H',I,r,q⟩:=h;exact⟨v,σ',H',I.unwish,r,q⟩
theorem PSs.nox {st:List Stmt} {t:TS} (h:PSs X.nox st t):PSs X st t:=fun pins s σ H D I hw=>
  wpAny_mono (h pins s σ H D (I.wish _) hw) (fun _ _ q=>q.unwish) fun _ _ z=>False.elim z
end
section
variable {X:Cx} {st:Stmt} {rest:List Stmt} {t u:TS} {e:Expr} {te:TE} {pos:Pos}
def tNext:TS:=fun D σ H=>D.nx σ H
def tSeq (t u:TS):TS:=fun D σ H=>t {D with nx:=u D} σ H
theorem pss_nil:PSs X [] tNext:=fun _ _ σ H _ I h=>wpAny_execs_nil ⟨σ,H,I,h⟩
theorem pss_cons (h1:PS X st t) (h2:PSs X rest u):PSs X (st::rest) (tSeq t u):=by
  intro pins s σ H D I h
  refine wpAny_execs_cons (thn (h1 pins s σ H {D with nx:=u D} I h) fun f s1 q=> ?_)
  cases f with
  | next=>
    obtain⟨σ',H',I',q⟩:=q
    exact h2 pins s1 σ' H' D I' q
  | ret v=>exact q
  | brk=>exact q
  | cont=>exact q
theorem pss_one (h1:PS X st t):PSs X [st] t:=by
  intro pins s σ H D I h
  refine wpAny_execs_cons (thn (h1 pins s σ H D I h) fun f s1 q=> ?_)
  cases f with
  | next=>exact wpAny_execs_nil q
  | ret v=>exact q
  | brk=>exact q
  | cont=>exact q
def tBreak:TS:=fun D σ H=>D.bk σ H
theorem ps_break:PS X (.Break pos) tBreak:=fun _ _ σ H _ I h=>wpAny_Break ⟨σ,H,I,h⟩
theorem Inv.quiet {pins:List (Addr×Obj)} {σ:St} {H:Hp} {s:Shared} (I:Inv X pins σ H s):interactive X.env=false:=by simp[interactive,I.ok.kind]
def tDrop (te:TE):TS:=fun D σ H=>te σ H fun _ H1=>D.nx σ H1
theorem ps_expr (he:PE X e te) (hs:swapsWith e none pos.line X.env=pure false:=by rfl):PS X (.Expr e pos) (tDrop te):=by
  intro pins s σ H D I h
  exact wpAny_Expr_any (thn (he pins s σ H _ I h) fun v s1 ⟨x,H1,I1,r1,q1⟩=>⟨σ,H1,I1,q1⟩) I.quiet hs
def tRet (te:TE):TS:=fun D σ H=>te σ H D.rt
theorem ps_ret (he:PE X e te):PS X (.Return (some e) pos) (tRet te):=by
  intro pins s σ H D I h
  exact wpAny_Return_some (thn (he pins s σ H _ I h) fun v s1 ⟨x,H1,I1,r1,q1⟩=>⟨x,σ,H1,I1,r1,q1⟩)
def tIfS (c:TT) (t u:TS):TS:=fun D σ H=>c σ H fun b H1=>if b=true then t D σ H1 else u D σ H1
theorem ps_if {c:Expr} {a b:List Stmt} {tc:TT} (hc:PT X c tc) (ha:PSs X a t) (hb:PSs X b u):PS X (.If c a b pos) (tIfS tc t u):=by
  intro pins s σ H D I h
  refine wpAny_If (thn (hc pins s σ H _ I h) fun d s1 ⟨H1,I1,q1⟩=> ?_)
  cases d with
  | true=>exact ha pins s1 σ H1 D I1 q1
  | false=>exact hb pins s1 σ H1 D I1 q1
end
abbrev TG:=V->St->Hp->(St->Hp->Prop)->Prop
abbrev TGs:=List V->St->Hp->(St->Hp->Prop)->Prop
def PG (X:Cx) (target:Expr) (t:TG):Prop:=
  ∀(pins:List (Addr×Obj)) (s:Shared) (σ:St) (H:Hp) (v:V) (u:Value) (Q:St->Hp->Prop),Inv X pins σ H s->RelV v u->t v σ H Q->
    wpAny (model X.prog X.w) X.A (assign target X.env u) (fun _ s'=>∃σ' H',Inv X pins σ' H' s'/\Q σ' H') X.xe s
def PGs (X:Cx) (ts:List Expr) (t:TGs):Prop:=
  ∀(pins:List (Addr×Obj)) (s:Shared) (σ:St) (H:Hp) (vs:List V) (us:List Value) (Q:St->Hp->Prop),Inv X pins σ H s->Vals vs us->t vs σ H Q->
    wpAny (model X.prog X.w) X.A (assignInOrder ((assignEach ts X.env).map (·.2)) us) (fun _ s'=>∃σ' H',Inv X pins σ' H' s'/\Q σ' H') X.xe s
section
variable {X:Cx} {pos:Pos}
def gName (i:Nat):TG:=fun v σ H Q=>Q (σ.set i (some v)) H
theorem pg_name {i:Nat} {x:Str} (hN:X.N.Nodup) (hi:X.N[i]? =some x) (hx:Loc X.env.scope x) (hf:X.fn x=true∨X.env.scope.names.lookup x=some .local:=by first | exact .inl rfl | exact .inr rfl | assumption):PG X (.Name x pos) (gName i):=by
  intro pins s σ H v u Q I r h
  exact wpAny_assign_Name (store_ok I hN hi hx r (fun s' I'=>⟨_,H,I',h⟩) hf)
inductive gNil (vs:List V) (σ:St) (H:Hp) (Q:St->Hp->Prop):Prop
  | mk (h:vs=[]) (q:Q σ H):gNil vs σ H Q
inductive gCons (t:TG) (u:TGs) (vs:List V) (σ:St) (H:Hp) (Q:St->Hp->Prop):Prop
  | mk (v:V) (r:List V) (h:vs=v::r) (q:t v σ H fun σ' H'=>u r σ' H' Q):gCons t u vs σ H Q
theorem pgs_nil:PGs X [] gNil:=by
  intro pins s σ H vs us Q I r h
  obtain⟨e,h⟩:=h
  subst e
  cases r
  exact assignInOrder_nil ⟨σ,H,I,h⟩
theorem pgs_cons {e:Expr} {es:List Expr} {t:TG} {u:TGs} (h1:PG X e t) (h2:PGs X es u)
    (hs:(assignEach (e::es) X.env).map (·.2)=assign e X.env::(assignEach es X.env).map (·.2):=by rfl):PGs X (e::es) (gCons t u):=by
  intro pins s σ H vs us Q I r h
  obtain⟨v,vr,e1,h⟩:=h
  subst e1
  cases r with
  | cons r rr=>
    rw[hs]
    refine assignInOrder_cons (thn (h1 pins s σ H _ _ _ I r h) fun _ s1 ⟨σ1,H1,I1,q1⟩=> ?_)
    exact h2 pins s1 σ1 H1 _ _ Q I1 rr q1
inductive gTup (K:PySem.W.Frag) (n:Nat) (t:TGs) (v:V) (σ:St) (H:Hp) (Q:St->Hp->Prop):Prop
  | mk (a:Addr) (xs:List V) (h1:v= .ref a) (h2:SqT K H a xs) (h3:xs.length=n) (q:t xs σ H Q):gTup K n t v σ H Q
theorem pg_tup {es:List Expr} {k:Nat} {t:TGs} {n:Nat} (hc:X.calm=true) (h:PGs X es t)
    (hn:(assignEach es X.env).length=n:=by rfl) (hst:(assignEach es X.env).findIdx? (·.1)=none:=by rfl):PG X (.Tuple es k pos) (gTup X.K n t):=by
  intro pins s σ H v u Q I r hw
  obtain⟨a,xs,e1,hq,hl,hw⟩:=hw
  subst e1
  cases r
  obtain⟨its,rv,ht,hz⟩:=I.tuple hq
  refine assign_Tuple_tuple (I.ok.hd hc) ht (by simp[hn,←hl,rv.length]) hst fun h' hx=> ?_
  have I1:Inv X pins σ H {s with heap:=h'}:=I.kept (t':=s.toks) fun b o e=>hx b o (Nat.ne_of_lt (Heap.lt_size e)) e
  exact h pins _ σ H xs _ Q I1 (by simpa using rv) hw
def tAsg (te:TE) (g:TG):TS:=fun D σ H=>te σ H fun x H1=>g x σ H1 D.nx
theorem ps_set {i:Nat} {x:Str} {e:Expr} {te:TE} {pos':Pos} (hN:X.N.Nodup) (hi:X.N[i]? =some x) (hx:Loc X.env.scope x) (he:PE X e te) (hs:swapsWith e (some (.Name x pos')) pos.line X.env=pure false:=by rfl) (hf:X.fn x=true∨X.env.scope.names.lookup x=some .local:=by first | exact .inl rfl | exact .inr rfl | assumption):
    PS X (.Assign [.Name x pos'] e pos) (tAsg te (gName i)):=by
  intro pins s σ H D I h
  refine wpAny_Assign_Name (thn (he pins s σ H _ I h) fun v s1 ⟨y,H1,I1,r1,q1⟩=> ?_) hs
  exact store_ok I1 hN hi hx r1 (fun s2 I2=>⟨_,H1,I2,q1⟩) hf
end
section
variable {X:Cx} {pos:Pos}
def tWhile (c:TT) (tb:TS):TS:=fun D σ H=>∃W:Nat->St->Hp->Prop,(∃m,W m σ H)/\∀m σ H,W m σ H->
  c σ H fun b H1=>if b=true then ∃N:St->Hp->Prop,(∀σ' H',N σ' H'->∃m',m' < m/\W m' σ' H')/\tb {D with nx:=N,ct:=N,bk:=D.nx} σ H1 else D.nx σ H1
theorem ps_while {c:Expr} {body:List Stmt} {tc:TT} {tb:TS} (hp:PassesOwn (model X.prog X.w) X.A X.env X.xe) (hc:PT X c tc) (hb:PSs X body tb):PS X (.While c body [] pos) (tWhile tc tb):=by
  intro pins s σ H D I h
  obtain⟨W,⟨m0,w0⟩,turn⟩:=h
  refine wpAny_While (codeAny_whileLoop (fun n s'=>∃σ' H',Inv X pins σ' H' s'/\W n σ' H') ?_ m0 ⟨σ,H,I,w0⟩)
  rintro n s1 ⟨σ1,H1,I1,w1⟩
  refine wpAny_passesOwn hp (thn (hc pins s1 σ1 H1 _ I1 (turn n σ1 H1 w1)) fun b s2 ⟨H2,I2,q2⟩=> ?_)
  cases b with
  | true=>
    obtain⟨N,hN,q2⟩:=q2
    rw[if_pos rfl]
    refine wpAny_passesOwn hp (thn (hb pins s2 σ1 H2 _ I2 q2) fun f s3 q3=> ?_)
    cases f with
    | next=>
      obtain⟨σ3,H3,I3,n3⟩:=q3
      obtain⟨m',hm,w3⟩:=hN σ3 H3 n3
      exact⟨m',hm,σ3,H3,I3,w3⟩
    | cont=>
      obtain⟨σ3,H3,I3,n3⟩:=q3
      obtain⟨m',hm,w3⟩:=hN σ3 H3 n3
      exact⟨m',hm,σ3,H3,I3,w3⟩
    | brk=>exact q3
    | ret v=>exact q3
  | false=>
    rw[if_neg Bool.false_ne_true]
    exact wpAny_execs_nil ⟨σ1,H2,I2,q2⟩
end
structure It where
  go:Nat->Hp->Prop
  yld:Nat->Hp->V->Hp->Prop
  stop:Nat->Hp->Prop
def FpOk (X:Cx) (pins:List (Addr×Obj)) (H:Hp) (b:Addr):Prop:=
  H b=none/\b≠X.env.locals/\b ∉ X.fs/\(b∈X.ex∨X.s_0.heap.objs.size≤b)/\(∀x c,X.env.cells.lookup x=some c->c≠b)/\∀p∈X.pn++pins,p.1≠b
theorem Inv.fpOk {X:Cx} {pins:List (Addr×Obj)} {σ:St} {H H':Hp} {s:Shared} {b:Addr} (I:Inv X pins σ H s) (hb:s.heap.objs.size≤b) (hn:H' b=none):FpOk X pins H' b:=by
  refine⟨hn,Nat.ne_of_gt (Nat.lt_of_lt_of_le I.lt hb),I.nofs hb,.inr (Nat.le_trans I.sz hb),fun x c e z=> ?_,fun p hp z=> ?_⟩
  · obtain⟨v,q⟩:=I.cell x c e
    exact absurd (Nat.lt_of_lt_of_le q.lt (by rw[z];exact hb)) (Nat.lt_irrefl _)
  · exact absurd (Nat.lt_of_lt_of_le (Heap.lt_size (I.pin p hp).1) (by rw[z];exact hb)) (Nat.lt_irrefl _)
structure Turn (P:Program) (w:World) (K:PySem.W.Frag) (tg:Expr) (J:It) (fp:List Addr) (it:Addr) (tn:Nat->Heap->Prop):Prop where
  mem:it∈fp
  obj:∀i h,tn i h->∀b∈fp,∃o,h.get? b=some o/\∀v,o.data≠ .cell v
  keep:∀i h h',tn i h->(∀b∈fp,∀o,h.get? b=some o->h'.get? b=some o)->tn i h'
  item:∀(X:Cx),X.prog=P->X.w=w->X.K=K->X.calm=true->∀(i:Nat) (pins:List (Addr×Obj)) (s:Shared) (σ:St) (H:Hp) (E:Value->Shared->Prop),Inv X pins σ H s->(∀b∈fp,FpOk X pins H b)->tn i s.heap->J.go i H->
    wpAny (model P w) X.A (pyNext (.ref it)) (fun r s1=>∃u,r=some u/\
      wpAny (model P w) X.A (letOwnedTupleGo tg (.ref it) u) (fun _ s2=>∃x H',Inv X pins σ H' s2/\RelV x u/\J.yld i H x H'/\tn (i+1) s2.heap/\∀b∈fp,H' b=none) E s1) E s
  done:∀(X:Cx),X.prog=P->X.w=w->X.K=K->X.calm=true->∀(i:Nat) (pins:List (Addr×Obj)) (s:Shared) (σ:St) (H:Hp) (E:Value->Shared->Prop),Inv X pins σ H s->(∀b∈fp,FpOk X pins H b)->tn i s.heap->J.stop i H->
    wpAny (model P w) X.A (pyNext (.ref it)) (fun r s1=>r=none/\Inv X pins σ H s1) E s
  self:∀(A:Around) (i:Nat) (s:Shared) (Q:Value->Shared->Prop) (E:Value->Shared->Prop),tn i s.heap->Q (.ref it) s->wpAny (model P w) A (pyIter (.ref it)) Q E s
abbrev TI:=St->Hp->(It->Hp->Prop)->Prop
def PIE (X:Cx) (pins:List (Addr×Obj)) (σ:St) (tg:Expr) (R:It->Hp->Prop) (itv:Value) (s2:Shared):Prop:=
  ∃(it:Addr) (fp:List Addr) (tn:Nat->Heap->Prop) (J:It) (H':Hp),itv= .ref it/\Inv X pins σ H' s2/\Turn X.prog X.w X.K tg J fp it tn/\tn 0 s2.heap/\(∀b∈fp,FpOk X pins H' b)/\R J H'
def PI (X:Cx) (tg iter:Expr) (wi:TI):Prop:=
  ∀(pins:List (Addr×Obj)) (s:Shared) (σ:St) (H:Hp) (R:It->Hp->Prop),Inv X pins σ H s->wi σ H R->
    wpAny (model X.prog X.w) X.A (eval iter X.env) (fun v s1=>wpAny (model X.prog X.w) X.A (pyIter v) (PIE X pins σ tg R) X.xe s1) X.xe s
theorem go_of {M:Model} {A:Around} {E:Value->Shared->Prop} {s:Shared} {tg:Expr} {it:Addr} {u:Value} {o:Obj} {n:String} {vs:Array Value} {Q:Unit->Shared->Prop} (ho:s.heap.get? it=some o) (hc:o.cls= .type n) (hd:o.data= .fields vs)
    (hn:["enumerate","zip","dict_itemiterator","dict_reverseitemiterator","odict_iterator","itertools.zip_longest","itertools.pairwise"].contains n=false) (hQ:Q () s):wpAny M A (letOwnedTupleGo tg (.ref it) u) Q E s:=by
  unfold letOwnedTupleGo
  cases tg <;> first
    | exact wpAny_pure hQ
    | (cases u <;> first
        | exact wpAny_pure hQ
        | (refine wpAny_bind (wpAny_load ho ?_)
           rw[hc,hd]
           show wpAny M A (if (["enumerate","zip","dict_itemiterator","dict_reverseitemiterator","odict_iterator","itertools.zip_longest","itertools.pairwise"].contains n && vs[0]? == some (rawInt _))=true then _ else _) Q E s
           rw[if_neg (by intro h;rw[hn,Bool.false_and]at h;cases h)]
           exact wpAny_pure hQ))
def Itl (K:PySem.W.Frag) (a:Addr):It:=
  ⟨fun i H=>∃xs x,SqL K H a xs/\xs[i]? =some x,fun i H x H'=>H'=H/\∀xs,SqL K H a xs->xs[i]? =some x,fun i H=>∃xs,SqL K H a xs/\xs.length≤i⟩
def Itt (K:PySem.W.Frag) (a:Addr):It:=
  ⟨fun i H=>∃xs x,SqT K H a xs/\xs[i]? =some x,fun i H x H'=>H'=H/\∀xs,SqT K H a xs->xs[i]? =some x,fun i H=>∃xs,SqT K H a xs/\xs.length≤i⟩
def Itr (lo:Int) (n:Nat):It:=⟨fun i _=>i < n,fun i H x H'=>H'=H/\x= .int (lo+i),fun i _=>n≤i⟩
theorem turn_list {P:Program} {w:World} {K:PySem.W.Frag} {tg:Expr} (a it:Addr):Turn P w K tg (Itl K a) [it] it (fun i h=>h.IsListIter it a i) where
  mem:=by simp
  obj:=fun i h st b hb=>by
    have e:b=it:=by simpa using hb
    subst e
    obtain⟨o,e,c,d⟩:=st
    exact⟨o,e,fun v z=>by rw[d]at z;cases z⟩
  keep:=fun i h h' st k=>st.at fun o e=>k it (by simp) o e
  item:=by
    intro X hP hw hK hc i pins s σ H E I hf st hg
    subst hP hw hK
    obtain⟨xs,x,hq,hx⟩:=hg
    obtain⟨its,rv,p,hz⟩:=I.list hq
    obtain⟨u,hu,ru⟩:=rv.get hx
    obtain⟨f0,f1,f2,f3,f4,f5⟩:=hf it (by simp)
    refine wpAny_pyNext_list_item st p.isList (x:=u) (by simpa using hu) fun h' st' sb=> ?_
    have I1:Inv X pins σ H {s with heap:=h'}:=I.turned (t':=s.toks) (fun b o hb e=>(sb.2 b hb).trans e) f0 f1 f3 f4 f5
    obtain⟨o,e,c,d⟩:=id st'
    exact⟨u,rfl,go_of (s:={s with heap:=h'}) e c d (by decide) ⟨x,H,I1,ru,⟨rfl,fun ys hy=>by rw[I.list_inj hy hq];exact hx⟩,st',fun b hb=>(hf b hb).1⟩⟩
  done:=by
    intro X hP hw hK hc i pins s σ H E I hf st hg
    subst hP hw hK
    obtain⟨xs,hq,hx⟩:=hg
    obtain⟨its,rv,p,hz⟩:=I.list hq
    obtain⟨f0,f1,f2,f3,f4,f5⟩:=hf it (by simp)
    have hl:=rv.length
    exact wpAny_pyNext_list_end (I.ok.hd hc) st p.isList (by simp;omega) fun h' eb=>⟨rfl,I.turned (t':=s.toks) (fun b o hb e=>eb b o hb e) f0 f1 f3 f4 f5⟩
  self:=fun _ _ _ _ _ st h=>wpAny_pyIter_listiter st h
theorem turn_tuple {P:Program} {w:World} {K:PySem.W.Frag} {tg:Expr} (a it:Addr):Turn P w K tg (Itt K a) [it] it (fun i h=>h.IsTupleIter it a i) where
  mem:=by simp
  obj:=fun i h st b hb=>by
    have e:b=it:=by simpa using hb
    subst e
    obtain⟨o,e,c,d⟩:=st
    exact⟨o,e,fun v z=>by rw[d]at z;cases z⟩
  keep:=fun i h h' st k=>st.at fun o e=>k it (by simp) o e
  item:=by
    intro X hP hw hK hc i pins s σ H E I hf st hg
    subst hP hw hK
    obtain⟨xs,x,hq,hx⟩:=hg
    obtain⟨its,rv,p,hz⟩:=I.tuple hq
    obtain⟨u,hu,ru⟩:=rv.get hx
    obtain⟨f0,f1,f2,f3,f4,f5⟩:=hf it (by simp)
    refine wpAny_pyNext_tuple_item st (show s.heap.IsTuple a its.toArray from p) (x:=u) (by simpa using hu) fun h' st' sb=> ?_
    have I1:Inv X pins σ H {s with heap:=h'}:=I.turned (t':=s.toks) (fun b o hb e=>(sb.2 b hb).trans e) f0 f1 f3 f4 f5
    obtain⟨o,e,c,d⟩:=id st'
    exact⟨u,rfl,go_of (s:={s with heap:=h'}) e c d (by decide) ⟨x,H,I1,ru,⟨rfl,fun ys hy=>by rw[I.tuple_inj hy hq];exact hx⟩,st',fun b hb=>(hf b hb).1⟩⟩
  done:=by
    intro X hP hw hK hc i pins s σ H E I hf st hg
    subst hP hw hK
    obtain⟨xs,hq,hx⟩:=hg
    obtain⟨its,rv,p,hz⟩:=I.tuple hq
    obtain⟨f0,f1,f2,f3,f4,f5⟩:=hf it (by simp)
    have hl:=rv.length
    exact wpAny_pyNext_tuple_end (I.ok.hd hc) st (show s.heap.IsTuple a its.toArray from p) (by simp;omega) fun h' eb=>⟨rfl,I.turned (t':=s.toks) (fun b o hb e=>eb b o hb e) f0 f1 f3 f4 f5⟩
  self:=fun _ _ _ _ _ st h=>wpAny_pyIter_tupleiter st h
theorem turn_range {P:Program} {w:World} {K:PySem.W.Frag} {tg:Expr} (it:Addr) (lo:Int) (n:Nat):Turn P w K tg (Itr lo n) [it] it (fun i h=>IsRangeIter h it (lo+(i:Nat) * 1) ((n:Int) - (i:Nat)) 1) where
  mem:=by simp
  obj:=fun i h st b hb=>by
    have e:b=it:=by simpa using hb
    subst e
    exact⟨_,st,fun v z=>by
      have z':Data.fields _=Data.cell v:=z
      cases z'⟩
  keep:=fun i h h' st k=>k it (by simp) _ st
  item:=by
    intro X hP hw hK hc i pins s σ H E I hf st hg
    subst hP hw hK
    obtain⟨f0,f1,f2,f3,f4,f5⟩:=hf it (by simp)
    have W:=Walks.range (prog:=X.prog) (w:=X.w) (I.ok.hd hc) it lo 1 n
    refine W.item i s _ _ hg st fun v h' tk hv st' kk=> ?_
    obtain⟨t,rfl⟩:=hv
    have I1:Inv X pins σ H {s with heap:=h',toks:=tk}:=I.turned (fun b o hb e=>kk b o (by simpa using hb) e) f0 f1 f3 f4 f5
    refine⟨_,rfl,go_of (s:={s with heap:=h',toks:=tk}) (n:="range_iterator") st' rfl rfl (by decide) ⟨.int (lo+i),H,I1,⟨t,?_⟩,⟨rfl,rfl⟩,st',fun b hb=>(hf b hb).1⟩⟩
    rw[Int.mul_one]
  done:=by
    intro X hP hw hK hc i pins s σ H E I hf st hg
    subst hP hw hK
    obtain⟨f0,f1,f2,f3,f4,f5⟩:=hf it (by simp)
    exact wpAny_pyNext_range_end (I.ok.hd hc) st (by have:n≤i:=hg;omega) fun h' eb=>⟨rfl,I.turned (t':=s.toks) (fun b o hb e=>eb b o hb e) f0 f1 f3 f4 f5⟩
  self:=fun _ _ _ _ _ st h=>wpAny_pyIter_rangeiter st h
end L2
namespace L2
open PySem PySem.Spec PyProof.Rows
section
variable {X:Cx} {tg:Expr}
def iList (K:PySem.W.Frag) (tl:TE):TI:=fun σ H R=>tl σ H fun x H1=>∃a,x= .ref a/\(∃xs,SqL K H1 a xs)/\R (Itl K a) H1
def iTup (K:PySem.W.Frag) (tl:TE):TI:=fun σ H R=>tl σ H fun x H1=>∃a,x= .ref a/\(∃xs,SqT K H1 a xs)/\R (Itt K a) H1
theorem pi_list {l:Expr} {tl:TE} (hl:PE X l tl):PI X tg l (iList X.K tl):=by
  intro pins s σ H R I h
  refine thn (hl pins s σ H _ I h) fun v s1 ⟨x,H1,I1,r1,q1⟩=> ?_
  obtain⟨a,e,⟨xs,hq⟩,q⟩:=q1
  subst e
  cases r1
  obtain⟨its,rv,p,hz⟩:=I1.list hq
  refine wpAny_pyIter_list p.isList ?_
  refine⟨s1.heap.objs.size,[s1.heap.objs.size],_,_,H1,rfl,I1.kept (t':=s1.toks) fun b o e=>Heap.get?_push_of_some _ e,turn_list a _,⟨_,Heap.get?_push_size _ rfl,rfl,rfl⟩,fun b hb=> ?_,q⟩
  have e:b=s1.heap.objs.size:=by simpa using hb
  subst e
  exact I1.fpOk (Nat.le_refl _) (I1.hok.fresh (Nat.le_refl _))
theorem pi_tup {l:Expr} {tl:TE} (hl:PE X l tl):PI X tg l (iTup X.K tl):=by
  intro pins s σ H R I h
  refine thn (hl pins s σ H _ I h) fun v s1 ⟨x,H1,I1,r1,q1⟩=> ?_
  obtain⟨a,e,⟨xs,hq⟩,q⟩:=q1
  subst e
  cases r1
  obtain⟨its,rv,p,hz⟩:=I1.tuple hq
  refine wpAny_pyIter_tuple (show s1.heap.IsTuple a its.toArray from p) ?_
  refine⟨s1.heap.objs.size,[s1.heap.objs.size],_,_,H1,rfl,I1.kept (t':=s1.toks) fun b o e=>Heap.get?_push_of_some _ e,turn_tuple a _,⟨_,Heap.get?_push_size _ rfl,rfl,rfl⟩,fun b hb=> ?_,q⟩
  have e:b=s1.heap.objs.size:=by simpa using hb
  subst e
  exact I1.fpOk (Nat.le_refl _) (I1.hok.fresh (Nat.le_refl _))
theorem range_it {pins:List (Addr×Obj)} {σ:St} {H:Hp} {s:Shared} {R:It->Hp->Prop} {E:Value->Shared->Prop} {lo hi:Int} {t u v:Tok} {tk:Nat} (I:Inv X pins σ H s) (h1: -(2 ^ 62)≤lo) (h2:lo < 2 ^ 62) (h3: -(2 ^ 62)≤hi) (h4:hi < 2 ^ 62)
    (q:R (Itr lo (hi - lo).toNat) H):wpAny (model X.prog X.w) X.A (pyIter (.ref s.heap.objs.size)) (PIE X pins σ tg R) E {s with heap:=s.heap.push {cls:= .type "range",data:= .fields #[.int lo t,.int hi u,.int 1 v]},toks:=tk}:=by
  refine wpAny_pyIter_range (IsRange.new ..) (small_one h1 h2 h3 h4) ?_
  have I1:Inv X pins σ H {s with heap:=s.heap.push {cls:= .type "range",data:= .fields #[.int lo t,.int hi u,.int 1 v]},toks:=tk}:=I.kept fun b o e=>Heap.get?_push_of_some _ e
  refine⟨(s.heap.push {cls:= .type "range",data:= .fields #[.int lo t,.int hi u,.int 1 v]}).objs.size,[(s.heap.push {cls:= .type "range",data:= .fields #[.int lo t,.int hi u,.int 1 v]}).objs.size],_,_,H,rfl,
    I1.kept (t':=tk) fun b o e=>Heap.get?_push_of_some _ e,turn_range _ lo (hi - lo).toNat,?_,fun b hb=> ?_,q⟩
  · have e1:lo+((0:Nat):Int) * 1=lo:=by simp
    have e2:(((hi - lo).toNat:Nat):Int) - ((0:Nat):Int)=Builtin.Range.rangeSize lo hi 1:=by rw[rangeSize_one];split <;> omega
    show IsRangeIter _ _ (lo+((0:Nat):Int) * 1) ((((hi - lo).toNat:Nat):Int) - ((0:Nat):Int)) 1
    rw[e1,e2]
    exact Heap.get?_push_size _ rfl
  · have e:b=(s.heap.push {cls:= .type "range",data:= .fields #[.int lo t,.int hi u,.int 1 v]}).objs.size:=by simpa using hb
    subst e
    exact I1.fpOk (Nat.le_refl _) (I1.hok.fresh (Nat.le_refl _))
def iRng1 (ta:TA):TI:=fun σ H R=>ta σ H fun vs H1=>∃j:Int,vs=[.int j]/\ -(2 ^ 62)≤j/\j < 2 ^ 62/\R (Itr 0 j.toNat) H1
def iRng2 (ta:TA):TI:=fun σ H R=>ta σ H fun vs H1=>∃i j:Int,vs=[.int i,.int j]/\(-(2 ^ 62)≤i/\i < 2 ^ 62/\ -(2 ^ 62)≤j/\j < 2 ^ 62)/\R (Itr i (j - i).toNat) H1
theorem pi_range1 {a:Expr} {ta:TA} {p pos:Pos} (hg:Gl X "range") (hm:X.mg "range"=none) (ha:PA X [a] ta) (hs:starEach [a] X.env=[(false,eval a X.env)]:=by rfl):PI X tg (.Call (.Name "range" p) [a] [] pos) (iRng1 ta):=by
  intro pins s σ H R I h
  refine Call_ (ld_blt I hg hm boot_range (PyProof.Rows.callWith_type1 (thn (ha pos pins s σ H _ I h) fun us s1 ⟨vs,H1,I1,r1,q1⟩=> ?_) hs rfl))
  obtain⟨j,e,q1,q2,q⟩:=q1
  subst e
  cases r1 with
  | cons r rr=>
    cases rr
    obtain⟨t,rfl⟩:=r
    exact call_range_1 (range_it I1 (by omega) (by omega) q1 q2 (by simpa using q))
theorem pi_range2 {a b:Expr} {ta:TA} {p pos:Pos} (hg:Gl X "range") (hm:X.mg "range"=none) (ha:PA X [a,b] ta) (hs:starEach [a,b] X.env=[(false,eval a X.env),(false,eval b X.env)]:=by rfl) (hs2:starEach [b] X.env=[(false,eval b X.env)]:=by rfl):
    PI X tg (.Call (.Name "range" p) [a,b] [] pos) (iRng2 ta):=by
  intro pins s σ H R I h
  refine Call_ (ld_blt I hg hm boot_range (PyProof.Rows.callWith_type1 (thn (ha pos pins s σ H _ I h) fun us s1 ⟨vs,H1,I1,r1,q1⟩=> ?_) (by rw[hs,hs2]) (by rw[hs2];rfl)))
  obtain⟨i,j,e,⟨q1,q2,q3,q4⟩,q⟩:=q1
  subst e
  cases r1 with
  | cons r rr=>
    cases rr with
    | cons r' rr=>
      cases rr
      obtain⟨t,rfl⟩:=r
      obtain⟨t',rfl⟩:=r'
      exact call_range_2 (range_it I1 q1 q2 q3 q4 q)
def tFor (wi:TI) (g:TG) (tb:TS):TS:=fun D σ H=>wi σ H fun J H1=>∃W:Nat->Nat->St->Hp->Prop,(∃m,W 0 m σ H1)/\∀i m σ H,W i m σ H->
  (J.stop i H/\D.nx σ H)∨(J.go i H/\∃N:St->Hp->Prop,(∀σ' H',N σ' H'->∃m',m' < m/\W (i+1) m' σ' H')/\∀x H',J.yld i H x H'->g x σ H' fun σ2 H2=>tb {D with nx:=N,ct:=N,bk:=D.nx} σ2 H2)
def pinsAt (fp:List Addr) (h:Heap):List (Addr×Obj):=fp.filterMap fun b=>(h.get? b).map fun o=>(b,o)
theorem mem_pinsAt {fp:List Addr} {h:Heap} {b:Addr} {o:Obj} (hb:b∈fp) (e:h.get? b=some o):(b,o)∈pinsAt fp h:=List.mem_filterMap.mpr ⟨b,hb,by rw[e];rfl⟩
theorem of_pinsAt {fp:List Addr} {h:Heap} {p:Addr×Obj} (hp:p∈pinsAt fp h):p.1∈fp/\h.get? p.1=some p.2:=by
  obtain⟨b,hb,e⟩:=List.mem_filterMap.mp hp
  cases q:h.get? b with
  | none=>rw[q]at e;cases e
  | some o=>
    rw[q]at e
    have e':(b,o)=p:=Option.some.inj e
    subst e'
    exact⟨hb,q⟩
theorem Inv.pinned {pins:List (Addr×Obj)} {σ:St} {H:Hp} {s:Shared} {fp:List Addr} (I:Inv X pins σ H s) (hf:∀b∈fp,FpOk X pins H b) (ho:∀b∈fp,∃o,s.heap.get? b=some o/\∀v,o.data≠ .cell v):Inv X (pins++pinsAt fp s.heap) σ H s:=
  I.pins_of fun p hp=>(List.mem_append.mp hp).elim (fun z=>I.pin p (List.mem_append_right _ z)) fun z=>by
    obtain⟨hb,e⟩:=of_pinsAt z
    obtain⟨f0,f1,f2,_⟩:=hf p.1 hb
    obtain⟨o,e',d⟩:=ho p.1 hb
    rw[e]at e';cases e'
    exact⟨e,f0,f1,f2,d⟩
theorem Inv.unpinned {pins pl:List (Addr×Obj)} {σ:St} {H:Hp} {s:Shared} (I:Inv X (pins++pl) σ H s):Inv X pins σ H s:=I.pins_of fun p hp=>I.pin p (List.mem_append_right _ (List.mem_append_left _ hp))
theorem ps_for {iter:Expr} {body:List Stmt} {wi:TI} {g:TG} {tb:TS} {pos:Pos} (hp:PassesOwn (model X.prog X.w) X.A X.env X.xe) (hc:X.calm=true) (hi:PI X tg iter wi) (hg:PG X tg g) (hb:PSs X body tb)
    (hs:∀x,foldedSetIterable iter X.env x=pure x:=by intro _;rfl):PS X (.For tg iter body [] pos) (tFor wi g tb):=by
  intro pins s σ H D I h
  refine wpAny_For (thn (hi pins s σ H _ I h) fun v s1 h1=>thn h1 fun itv s2 h2=> ?_) hs
  obtain⟨it,fp,tn,J,H2,e,I2,T,st2,f2,W,⟨m0,w0⟩,turn⟩:=h2
  subst e
  have stat:∀{H':Hp},(∀b∈fp,H' b=none)->∀b∈fp,FpOk X pins H' b:=fun hn b hb=>⟨hn b hb,(f2 b hb).2⟩
  refine codeAny_forLoop_any (fun n s'=>∃i σ' H',Inv X pins σ' H' s'/\tn i s'.heap/\(∀b∈fp,H' b=none)/\W i n σ' H') ?_ m0 ⟨0,σ,H2,I2,st2,fun b hb=>(f2 b hb).1,w0⟩
  rintro n s3 ⟨i,σ3,H3,I3,st3,fr3,w3⟩
  rcases turn i n σ3 H3 w3 with⟨stop,qn⟩ | ⟨go,N,hN,step⟩
  · refine wpAny_passesOwn hp (thn (T.done X rfl rfl rfl hc i pins s3 σ3 H3 X.xe I3 (stat fr3) st3 stop) fun r s4 ⟨hr,I4⟩=> ?_)
    subst hr
    exact wpAny_execs_nil ⟨σ3,H3,I4,qn⟩
  · refine wpAny_passesOwn hp (thn (T.item X rfl rfl rfl hc i pins s3 σ3 H3 X.xe I3 (stat fr3) st3 go) fun r s4 ⟨u,hr,h4⟩=> ?_)
    subst hr
    refine wpAny_passesOwn hp (thn h4 fun _ s5 ⟨x,H5,I5,r5,y5,st5,fr5⟩=> ?_)
    have I5':=I5.pinned (stat fr5) (T.obj _ _ st5)
    refine wpAny_passesOwn hp (thn (hg _ s5 σ3 H5 x u _ I5' r5 (step x H5 y5)) fun _ s6 ⟨σ6,H6,I6,q6⟩=> ?_)
    refine wpAny_passesOwn hp (thn (hb _ s6 σ6 H6 _ I6 q6) fun f s7 q7=> ?_)
    have again:∀{σ7:St} {H7:Hp},Inv X (pins++pinsAt fp s5.heap) σ7 H7 s7->N σ7 H7->∃m,m < n/\∃i σ' H',Inv X pins σ' H' s7/\tn i s7.heap/\(∀b∈fp,H' b=none)/\W i m σ' H':=fun{σ7 H7} I7 n7=>by
      obtain⟨m',hm,w7⟩:=hN σ7 H7 n7
      refine⟨m',hm,i+1,σ7,H7,I7.unpinned,T.keep _ _ _ st5 fun b hb o e=>(I7.pin (b,o) (List.mem_append_right _ (List.mem_append_right _ (mem_pinsAt hb e)))).1,fun b hb=> ?_,w7⟩
      obtain⟨o,e,d⟩:=T.obj _ _ st5 b hb
      exact(I7.pin (b,o) (List.mem_append_right _ (List.mem_append_right _ (mem_pinsAt hb e)))).2.1
    cases f with
    | next=>obtain⟨σ7,H7,I7,n7⟩:=q7;exact again I7 n7
    | cont=>obtain⟨σ7,H7,I7,n7⟩:=q7;exact again I7 n7
    | brk=>obtain⟨σ7,H7,I7,q7⟩:=q7;exact⟨σ7,H7,I7.unpinned,q7⟩
    | ret v=>obtain⟨x7,σ7,H7,I7,r7,q7⟩:=q7;exact⟨x7,σ7,H7,I7.unpinned,r7,q7⟩
end
theorem for_list {K:PySem.W.Frag} {a:Addr} {xs:List V} {g:TG} {tb:TS} {D:Ends} {σ:St} {H:Hp} (Pv:Nat->St->Hp->Prop) (h0:Pv 0 σ H) (hl:∀i σ H,i≤xs.length->Pv i σ H->SqL K H a xs)
    (hs:∀i x σ H,xs[i]? =some x->Pv i σ H->g x σ H fun σ2 H2=>tb {D with nx:=Pv (i+1),ct:=Pv (i+1),bk:=D.nx} σ2 H2) (hd:∀σ H,Pv xs.length σ H->D.nx σ H):
    ∃W:Nat->Nat->St->Hp->Prop,(∃m,W 0 m σ H)/\∀i m σ H,W i m σ H->
      ((Itl K a).stop i H/\D.nx σ H)∨((Itl K a).go i H/\∃N:St->Hp->Prop,(∀σ' H',N σ' H'->∃m',m' < m/\W (i+1) m' σ' H')/\∀x H',(Itl K a).yld i H x H'->g x σ H' fun σ2 H2=>tb {D with nx:=N,ct:=N,bk:=D.nx} σ2 H2):=by
  refine⟨fun i m σ H=>m=xs.length - i/\i≤xs.length/\Pv i σ H,⟨xs.length,by simp,Nat.zero_le _,h0⟩,?_⟩
  rintro i m σ H ⟨rfl,hi,p⟩
  have q:=hl i σ H hi p
  by_cases hlt:i < xs.length
  · refine .inr ⟨⟨xs,xs[i],q,by simp[hlt]⟩,Pv (i+1),fun σ' H' p'=>⟨xs.length - (i+1),by omega,rfl,hlt,p'⟩,fun x H' y=> ?_⟩
    obtain⟨e,y⟩:=y
    subst e
    exact hs i x σ _ (y xs q) p
  · have e:i=xs.length:=by omega
    subst e
    exact .inl ⟨⟨xs,q,Nat.le_refl _⟩,hd σ H p⟩
theorem for_tup {K:PySem.W.Frag} {a:Addr} {xs:List V} {g:TG} {tb:TS} {D:Ends} {σ:St} {H:Hp} (Pv:Nat->St->Hp->Prop) (h0:Pv 0 σ H) (hl:∀i σ H,i≤xs.length->Pv i σ H->SqT K H a xs)
    (hs:∀i x σ H,xs[i]? =some x->Pv i σ H->g x σ H fun σ2 H2=>tb {D with nx:=Pv (i+1),ct:=Pv (i+1),bk:=D.nx} σ2 H2) (hd:∀σ H,Pv xs.length σ H->D.nx σ H):
    ∃W:Nat->Nat->St->Hp->Prop,(∃m,W 0 m σ H)/\∀i m σ H,W i m σ H->
      ((Itt K a).stop i H/\D.nx σ H)∨((Itt K a).go i H/\∃N:St->Hp->Prop,(∀σ' H',N σ' H'->∃m',m' < m/\W (i+1) m' σ' H')/\∀x H',(Itt K a).yld i H x H'->g x σ H' fun σ2 H2=>tb {D with nx:=N,ct:=N,bk:=D.nx} σ2 H2):=by
  refine⟨fun i m σ H=>m=xs.length - i/\i≤xs.length/\Pv i σ H,⟨xs.length,by simp,Nat.zero_le _,h0⟩,?_⟩
  rintro i m σ H ⟨rfl,hi,p⟩
  have q:=hl i σ H hi p
  by_cases hlt:i < xs.length
  · refine .inr ⟨⟨xs,xs[i],q,by simp[hlt]⟩,Pv (i+1),fun σ' H' p'=>⟨xs.length - (i+1),by omega,rfl,hlt,p'⟩,fun x H' y=> ?_⟩
    obtain⟨e,y⟩:=y
    subst e
    exact hs i x σ _ (y xs q) p
  · have e:i=xs.length:=by omega
    subst e
    exact .inl ⟨⟨xs,q,Nat.le_refl _⟩,hd σ H p⟩
theorem for_range {lo:Int} {n:Nat} {g:TG} {tb:TS} {D:Ends} {σ:St} {H:Hp} (Pv:Nat->St->Hp->Prop) (h0:Pv 0 σ H)
    (hs:∀i σ H,i < n->Pv i σ H->g (.int (lo+i)) σ H fun σ2 H2=>tb {D with nx:=Pv (i+1),ct:=Pv (i+1),bk:=D.nx} σ2 H2) (hd:∀σ H,Pv n σ H->D.nx σ H):
    ∃W:Nat->Nat->St->Hp->Prop,(∃m,W 0 m σ H)/\∀i m σ H,W i m σ H->
      ((Itr lo n).stop i H/\D.nx σ H)∨((Itr lo n).go i H/\∃N:St->Hp->Prop,(∀σ' H',N σ' H'->∃m',m' < m/\W (i+1) m' σ' H')/\∀x H',(Itr lo n).yld i H x H'->g x σ H' fun σ2 H2=>tb {D with nx:=N,ct:=N,bk:=D.nx} σ2 H2):=by
  refine⟨fun i m σ H=>m=n - i/\i≤n/\Pv i σ H,⟨n,by simp,Nat.zero_le _,h0⟩,?_⟩
  rintro i m σ H ⟨rfl,hi,p⟩
  by_cases hlt:i < n
  · refine .inr ⟨hlt,Pv (i+1),fun σ' H' p'=>⟨n - (i+1),by omega,rfl,hlt,p'⟩,fun x H' y=> ?_⟩
    obtain⟨e,y⟩:=y
    subst e y
    exact hs i σ _ hlt p
  · have e:i=n:=by omega
    subst e
    exact .inl ⟨Nat.le_refl _,hd σ H p⟩
end L2
namespace L2
open PySem PySem.Spec PyProof.Rows
abbrev R2:=V->V->Hp->VK->Prop
def OpR (X:Cx) (f:Value->Value->Sem Value) (r:R2):Prop:=
  ∀(pins:List (Addr×Obj)) (s:Shared) (σ:St) (H:Hp) (x y:V) (v u:Value) (Q:VK),Inv X pins σ H s->RelV x v->RelV y u->r x y H Q->
    wpAny (model X.prog X.w) X.A (f v u) (EP X pins σ Q) X.xe s
def UnR (X:Cx) (f:Value->Sem Value) (r:V->Hp->VK->Prop):Prop:=
  ∀(pins:List (Addr×Obj)) (s:Shared) (σ:St) (H:Hp) (x:V) (v:Value) (Q:VK),Inv X pins σ H s->RelV x v->r x H Q->
    wpAny (model X.prog X.w) X.A (f v) (EP X pins σ Q) X.xe s
def CallR (X:Cx) (f:Value) (r:List V->Hp->VK->Prop):Prop:=
  ∀(pins:List (Addr×Obj)) (s:Shared) (σ:St) (H:Hp) (xs:List V) (us:List Value) (Q:VK),Inv X pins σ H s->Vals xs us->r xs H Q->
    wpAny (model X.prog X.w) X.A (call f us) (EP X pins σ Q) X.xe s
def tOp (r:R2) (ta tb:TE):TE:=fun σ H Q=>ta σ H fun x H1=>tb σ H1 fun y H2=>r x y H2 Q
def tUn (r:V->Hp->VK->Prop) (ta:TE):TE:=fun σ H Q=>ta σ H fun x H1=>r x H1 Q
inductive rI (C:Int->Int->Prop) (g:Int->Int->V) (x y:V) (H:Hp) (Q:VK):Prop
  | mk (i j:Int) (h1:x= .int i) (h2:y= .int j) (h3:C i j) (q:Q (g i j) H):rI C g x y H Q
inductive rI0 (g:Int->Int->V) (x y:V) (H:Hp) (Q:VK):Prop
  | mk (i j:Int) (h1:x= .int i) (h2:y= .int j) (q:Q (g i j) H):rI0 g x y H Q
inductive rU (g:Int->V) (x:V) (H:Hp) (Q:VK):Prop
  | mk (i:Int) (h:x= .int i) (q:Q (g i) H):rU g x H Q
section
variable {X:Cx} {a b c:Expr} {ta tb tc:TE} {pos:Pos}
theorem binT (ha:PE X a ta) (hb:PE X b tb) {pins:List (Addr×Obj)} {s:Shared} {σ:St} {H:Hp} {R:V->V->Hp->Prop} (I:Inv X pins σ H s)
    (h:ta σ H fun x H1=>tb σ H1 fun y H2=>R x y H2) {Q:Value->Shared->Prop} {f:Value->Value->Sem Value}
    (hf:∀v u s2 x y H2,Inv X pins σ H2 s2->RelV x v->RelV y u->R x y H2->wpAny (model X.prog X.w) X.A (f v u) Q X.xe s2):
    wpAny (model X.prog X.w) X.A (eval a X.env) (fun v s₁=>wpAny (model X.prog X.w) X.A (eval b X.env) (fun u s₂=>wpAny (model X.prog X.w) X.A (f v u) Q X.xe s₂) X.xe s₁) X.xe s:=by
  refine thn (ha pins s σ H _ I h) fun v s1 ⟨x,H1,I1,r1,q1⟩=> ?_
  refine thn (hb pins s1 σ H1 _ I1 q1) fun u s2 ⟨y,H2,I2,r2,q2⟩=> ?_
  exact hf v u s2 x y H2 I2 r1 r2 q2
theorem pe_op {op:Operator} {r:R2} (ho:OpR X (binaryOp op) r) (ha:PE X a ta) (hb:PE X b tb):PE X (.BinOp a op b pos) (tOp r ta tb):=by
  intro pins s σ H Q I h
  exact wpAny_BinOp (binT ha hb I h fun v u s2 x y H2 I2 rx ry q=>ho pins s2 σ H2 x y v u Q I2 rx ry q)
theorem pe_un {op:UnaryOp} {r:V->Hp->VK->Prop} (ho:UnR X (unaryOp op) r) (ha:PE X a ta):PE X (.UnaryOp op a pos) (tUn r ta):=by
  intro pins s σ H Q I h
  exact UnaryOp_ (thn (ha pins s σ H _ I h) fun v s1 ⟨x,H1,I1,r1,q1⟩=>ho pins s1 σ H1 x v Q I1 r1 q1)
theorem opI {f:Value->Value->Sem Value} {C:Int->Int->Prop} {g:Int->Int->Int}
    (rule:∀(i j:Int) (t u:Tok) (s:Shared) (Q:Value->Shared->Prop) (E:Value->Shared->Prop),C i j->Q (.int (g i j) s.toks) {s with toks:=s.toks+1}->wpAny (model X.prog X.w) X.A (f (.int i t) (.int j u)) Q E s):
    OpR X f (rI C fun i j=> .int (g i j)):=by
  intro pins s σ H x y v u Q I rx ry h
  obtain⟨i,j,rfl,rfl,hc,q⟩:=h
  obtain⟨t,rfl⟩:=rx
  obtain⟨t',rfl⟩:=ry
  exact rule i j t t' s _ _ hc ⟨.int (g i j),H,I.tok _,⟨_,rfl⟩,q⟩
theorem opI0 {f:Value->Value->Sem Value} {g:Int->Int->Int}
    (rule:∀(i j:Int) (t u:Tok) (s:Shared) (Q:Value->Shared->Prop) (E:Value->Shared->Prop),Q (.int (g i j) s.toks) {s with toks:=s.toks+1}->wpAny (model X.prog X.w) X.A (f (.int i t) (.int j u)) Q E s):
    OpR X f (rI0 fun i j=> .int (g i j)):=by
  intro pins s σ H x y v u Q I rx ry h
  obtain⟨i,j,rfl,rfl,q⟩:=h
  obtain⟨t,rfl⟩:=rx
  obtain⟨t',rfl⟩:=ry
  exact rule i j t t' s _ _ ⟨.int (g i j),H,I.tok _,⟨_,rfl⟩,q⟩
theorem opB0 {f:Value->Value->Sem Value} {g:Int->Int->Bool}
    (rule:∀(i j:Int) (t u:Tok) (s:Shared) (Q:Value->Shared->Prop) (E:Value->Shared->Prop),Q (.bool (g i j)) s->wpAny (model X.prog X.w) X.A (f (.int i t) (.int j u)) Q E s):
    OpR X f (rI0 fun i j=> .bl (g i j)):=by
  intro pins s σ H x y v u Q I rx ry h
  obtain⟨i,j,rfl,rfl,q⟩:=h
  obtain⟨t,rfl⟩:=rx
  obtain⟨t',rfl⟩:=ry
  exact rule i j t t' s _ _ ⟨.bl (g i j),H,I,rfl,q⟩
def CDiv (i j:Int):Prop:=0 < j/\j < 1073741824
theorem op_add:OpR X (binaryOp .Add) (rI0 fun i j=> .int (i+j)):=opI0 fun _ _ _ _ _ _ _ q=>add_int q
theorem op_sub:OpR X (binaryOp .Sub) (rI0 fun i j=> .int (i - j)):=opI0 fun _ _ _ _ _ _ _ q=>sub_int q
theorem op_fdiv:OpR X (binaryOp .FloorDiv) (rI CDiv fun i j=> .int (i / j)):=opI fun i j _ _ _ _ _ hc q=>by
  have h1:(0:Int) < j:=hc.1
  have h2:j < 1073741824:=hc.2
  exact floordiv_int (by omega) (by rw[Int.fdiv_eq_ediv_of_nonneg i (by omega)];exact q) (.inl (PyProof.noPylong_small (by omega)))
theorem unI {f:Value->Sem Value} {g:Int->Int}
    (rule:∀(i:Int) (t:Tok) (s:Shared) (Q:Value->Shared->Prop) (E:Value->Shared->Prop),Q (.int (g i) s.toks) {s with toks:=s.toks+1}->wpAny (model X.prog X.w) X.A (f (.int i t)) Q E s):
    UnR X f (rU fun i=> .int (g i)):=by
  intro pins s σ H x v Q I rx h
  obtain⟨i,rfl,q⟩:=h
  obtain⟨t,rfl⟩:=rx
  exact rule i t s _ _ ⟨.int (g i),H,I.tok _,⟨_,rfl⟩,q⟩
theorem un_neg:UnR X (unaryOp .USub) (rU fun i=> .int (-i)):=unI fun _ _ _ _ _ q=>neg_int q
end
def scal:V->V->Bool
  | .non,.non=>true | .non,.int _=>true | .int _,.non=>true | .non,.bl _=>true | .bl _,.non=>true | .non,.str _=>true | .str _,.non=>true
  | .int _,.int _=>true | .bl _,.bl _=>true | .str _,.str _=>true | .byt _,.byt _=>true
  | .int _,.str _=>true | .str _,.int _=>true | .bl _,.str _=>true | .str _,.bl _=>true
  | _,_=>false
def rEq:R2:=fun x y H Q=>scal x y=true/\Q (.bl (decide (x=y))) H
def rNe:R2:=fun x y H Q=>scal x y=true/\Q (.bl (!decide (x=y))) H
theorem dec_int {i j:Int}:decide (V.int i=V.int j)=(i == j):=by
  rw[Bool.eq_iff_iff]
  simp
theorem dec_bl {i j:Bool}:decide (V.bl i=V.bl j)=(i == j):=by
  rw[Bool.eq_iff_iff]
  simp
theorem dec_str {i j:Str}:decide (V.str i=V.str j)=(i == j):=by
  rw[Bool.eq_iff_iff]
  simp
theorem dec_byt {i j:Array UInt8}:decide (V.byt i=V.byt j)=(i.toList == j.toList):=by
  rw[Bool.eq_iff_iff]
  cases i
  cases j
  simp
section
variable {X:Cx} {a b c:Expr} {ta tb tc:TE} {pos:Pos}
theorem fin_bl {pins:List (Addr×Obj)} {σ:St} {H:Hp} {s:Shared} {Q:VK} {k k':Bool} (I:Inv X pins σ H s) (q:Q (.bl k) H) (e:k=k'):EP X pins σ Q (.bool k') s:=by
  subst e
  exact⟨.bl k,H,I,rfl,q⟩
theorem op_eq:OpR X (compareOp .Eq) rEq:=by
  intro pins s σ H x y v u Q I rx ry h
  obtain⟨hs,q⟩:=h
  cases x with
  | non=>
    cases rx
    cases y with
    | non=>cases ry;exact PySem.EqNone.eq_none_none (fin_bl I q (by simp))
    | bl j=>cases ry;exact PySem.EqNone.eq_none_bool (fin_bl I q (by simp))
    | int j=>obtain⟨t',rfl⟩:=ry;exact PySem.EqNone.eq_none_int (fin_bl I q (by simp))
    | str j=>obtain⟨t',rfl⟩:=ry;exact PySem.EqNone.eq_none_str (fin_bl I q (by simp))
    | _=>exact absurd (show false=true from hs) Bool.false_ne_true
  | bl i=>
    cases rx
    cases y with
    | non=>cases ry;exact PySem.EqNone.eq_bool_none (fin_bl I q (by simp))
    | bl j=>cases ry;exact eq_bool (fin_bl I q dec_bl)
    | str j=>obtain⟨t',rfl⟩:=ry;exact PySem.EqMixed.eq_bool_str (fin_bl I q (by simp))
    | _=>exact absurd (show false=true from hs) Bool.false_ne_true
  | int i=>
    obtain⟨t,rfl⟩:=rx
    cases y with
    | non=>cases ry;exact PySem.EqNone.eq_int_none (fin_bl I q (by simp))
    | int j=>obtain⟨t',rfl⟩:=ry;exact eq_int (fin_bl I q dec_int)
    | str j=>obtain⟨t',rfl⟩:=ry;exact PySem.EqMixed.eq_int_str (fin_bl I q (by simp))
    | _=>exact absurd (show false=true from hs) Bool.false_ne_true
  | str i=>
    obtain⟨t,rfl⟩:=rx
    cases y with
    | non=>cases ry;exact PySem.EqNone.eq_str_none (fin_bl I q (by simp))
    | bl j=>cases ry;exact PySem.EqMixed.eq_str_bool (fin_bl I q (by simp))
    | int j=>obtain⟨t',rfl⟩:=ry;exact PySem.EqMixed.eq_str_int (fin_bl I q (by simp))
    | str j=>obtain⟨t',rfl⟩:=ry;exact eq_str (fin_bl I q dec_str)
    | _=>exact absurd (show false=true from hs) Bool.false_ne_true
  | byt i=>
    obtain⟨t,rfl⟩:=rx
    cases y with
    | byt j=>obtain⟨t',rfl⟩:=ry;exact PySem.W.eq_bytes (fin_bl I q dec_byt)
    | _=>exact absurd (show false=true from hs) Bool.false_ne_true
  | _=>cases y <;> exact absurd (show false=true from hs) Bool.false_ne_true
theorem op_ne:OpR X (compareOp .NotEq) rNe:=by
  intro pins s σ H x y v u Q I rx ry h
  obtain⟨hs,q⟩:=h
  cases x with
  | non=>
    cases rx
    cases y with
    | non=>cases ry;exact PySem.EqNone.ne_none_none (fin_bl I q (by simp))
    | bl j=>cases ry;exact PySem.EqNone.ne_none_bool (fin_bl I q (by simp))
    | int j=>obtain⟨t',rfl⟩:=ry;exact PySem.EqNone.ne_none_int (fin_bl I q (by simp))
    | str j=>obtain⟨t',rfl⟩:=ry;exact PySem.EqNone.ne_none_str (fin_bl I q (by simp))
    | _=>exact absurd (show false=true from hs) Bool.false_ne_true
  | bl i=>
    cases rx
    cases y with
    | non=>cases ry;exact PySem.EqNone.ne_bool_none (fin_bl I q (by simp))
    | bl j=>cases ry;exact ne_bool (fin_bl I q (congrArg not dec_bl))
    | str j=>obtain⟨t',rfl⟩:=ry;exact PySem.EqMixed.ne_bool_str (fin_bl I q (by simp))
    | _=>exact absurd (show false=true from hs) Bool.false_ne_true
  | int i=>
    obtain⟨t,rfl⟩:=rx
    cases y with
    | non=>cases ry;exact PySem.EqNone.ne_int_none (fin_bl I q (by simp))
    | int j=>obtain⟨t',rfl⟩:=ry;exact ne_int (fin_bl I q (congrArg not dec_int))
    | str j=>obtain⟨t',rfl⟩:=ry;exact PySem.EqMixed.ne_int_str (fin_bl I q (by simp))
    | _=>exact absurd (show false=true from hs) Bool.false_ne_true
  | str i=>
    obtain⟨t,rfl⟩:=rx
    cases y with
    | non=>cases ry;exact PySem.EqNone.ne_str_none (fin_bl I q (by simp))
    | bl j=>cases ry;exact PySem.EqMixed.ne_str_bool (fin_bl I q (by simp))
    | int j=>obtain⟨t',rfl⟩:=ry;exact PySem.EqMixed.ne_str_int (fin_bl I q (by simp))
    | str j=>obtain⟨t',rfl⟩:=ry;exact ne_str (fin_bl I q (congrArg not dec_str))
    | _=>exact absurd (show false=true from hs) Bool.false_ne_true
  | byt i=>
    obtain⟨t,rfl⟩:=rx
    cases y with
    | byt j=>obtain⟨t',rfl⟩:=ry;exact PySem.W.ne_bytes (fin_bl I q (congrArg not dec_byt))
    | _=>exact absurd (show false=true from hs) Bool.false_ne_true
  | _=>cases y <;> exact absurd (show false=true from hs) Bool.false_ne_true
theorem op_lt:OpR X (compareOp .Lt) (rI0 fun i j=> .bl (decide (i < j))):=opB0 fun _ _ _ _ _ _ _ q=>lt_int q
theorem op_le:OpR X (compareOp .LtE) (rI0 fun i j=> .bl (decide (i≤j))):=opB0 fun _ _ _ _ _ _ _ q=>le_int q
theorem op_gt:OpR X (compareOp .Gt) (rI0 fun i j=> .bl (decide (j < i))):=opB0 fun _ _ _ _ _ _ _ q=>gt_int q
theorem op_ge:OpR X (compareOp .GtE) (rI0 fun i j=> .bl (decide (j≤i))):=opB0 fun _ _ _ _ _ _ _ q=>ge_int q
theorem nomark (b:Expr) {op:CmpOp} (h:op≠ .In:=by decide) (h2:op≠ .NotIn:=by decide):behindInMarks op b=false:=by
  have e1:(op == CmpOp.In)=false:=by cases op <;> first | rfl | exact absurd rfl h
  have e2:(op == CmpOp.NotIn)=false:=by cases op <;> first | rfl | exact absurd rfl h2
  cases b <;> simp[behindInMarks,e1,e2]
theorem pe_cmpR {op:CmpOp} {r:R2} (ho:OpR X (compareOp op) r) (ha:PE X a ta) (hb:PE X b tb) (hm:behindInMarks op b=false):PE X (.Compare a [op] [b] pos) (tOp r ta tb):=by
  intro pins s σ H Q I h
  exact wpAny_Compare1 (binT ha hb I h fun v u s2 x y H2 I2 rx ry q=>ho pins s2 σ H2 x y v u Q I2 rx ry q) hm
def tTest (t:TE):TT:=fun σ H Q=>t σ H (blI Q)
theorem pt_cmpR {op:CmpOp} {r:R2} (ho:OpR X (compareOp op) r) (ha:PE X a ta) (hb:PE X b tb) (hm:behindInMarks op b=false):PT X (.Compare a [op] [b] pos) (tTest (tOp r ta tb)):=by
  intro pins s σ H Q I h
  refine wpAny_isTrue_Compare1 (thn (ha pins s σ H _ I h) fun v s1 ⟨x,H1,I1,r1,q1⟩=>thn (hb pins s1 σ H1 _ I1 q1) fun u s2 ⟨y,H2,I2,r2,q2⟩=>
    thn (ho pins s2 σ H2 x y v u _ I2 r1 r2 q2) fun c s3 ⟨z,H3,I3,r3,k,e,q3⟩=> ?_) hm
  subst e
  cases r3
  exact wpAny_truthy_bool ⟨H3,I3,q3⟩
def tChain (r r':R2) (ta tb tc:TE):TE:=fun σ H Q=>ta σ H fun x H1=>tb σ H1 fun y H2=>r x y H2 fun z H3=>∃k,z= .bl k/\
  (if k=true then tc σ H3 fun w' H4=>r' y w' H4 Q else Q (.bl false) H3)
theorem pe_chain {op op':CmpOp} {r r':R2} (ho:OpR X (compareOp op) r) (ho':OpR X (compareOp op') r') (ha:PE X a ta) (hb:PE X b tb) (hc:PE X c tc)
    (hm:lastMarks [op,op'] [b,c]=false:=by with_unfolding_all rfl):PE X (.Compare a [op,op'] [b,c] pos) (tChain r r' ta tb tc):=by
  intro pins s σ H Q I h
  refine Compare_chain (thn (ha pins s σ H _ I h) fun v s1 ⟨x,H1,I1,r1,q1⟩=>chain_link (thn (hb pins s1 σ H1 _ I1 q1) fun u s2 ⟨y,H2,I2,r2,q2⟩=>
    thn (ho pins s2 σ H2 x y v u _ I2 r1 r2 q2) fun d s3 ⟨z,H3,I3,r3,k,e,q3⟩=> ?_)) hm
  subst e
  cases r3
  refine wpAny_truthy_bool ?_
  cases k with
  | false=>exact ite_ff ⟨.bl false,H3,I3,rfl,q3⟩
  | true=>exact ite_tt (chain_last (thn (hc pins s3 σ H3 _ I3 q3) fun w' s4 ⟨z',H4,I4,r4,q4⟩=>ho' pins s4 σ H4 y z' u w' Q I4 r2 r4 q4))
theorem line63:(sizeLine:Nat) < 2 ^ 63:=by rw[sizeLine_eq];decide
theorem vals1 {x:V} {us:List Value} (r:Vals [x] us):∃u,us=[u]/\RelV x u:=by
  cases r with
  | cons r1 r2=>cases r2;exact⟨_,rfl,r1⟩
theorem vals2 {x y:V} {us:List Value} (r:Vals [x,y] us):∃u w',us=[u,w']/\RelV x u/\RelV y w':=by
  cases r with
  | cons r1 r2=>
    cases r2 with
    | cons r3 r4=>cases r4;exact⟨_,_,rfl,r1,r3⟩
theorem call_max2 (hc:X.calm=true):CallR X (.builtin "max") (fun xs H Q=>∃i j,xs=[.int i,.int j]/\Q (.int (if j > i then j else i)) H):=by
  intro pins s σ H xs us Q I r h
  obtain⟨i,j,rfl,q⟩:=h
  obtain⟨u,w',rfl,⟨t,rfl⟩,⟨t',rfl⟩⟩:=vals2 r
  refine max_two_ints (I.ok.hd hc) fun h' tk k=>⟨_,H,I.kept k,?_,q⟩
  by_cases hj:j > i
  · rw[if_pos hj,if_pos hj];exact⟨_,rfl⟩
  · rw[if_neg hj,if_neg hj];exact⟨_,rfl⟩
theorem call_min2 (hc:X.calm=true):CallR X (.builtin "min") (fun xs H Q=>∃i j,xs=[.int i,.int j]/\Q (.int (if j < i then j else i)) H):=by
  intro pins s σ H xs us Q I r h
  obtain⟨i,j,rfl,q⟩:=h
  obtain⟨u,w',rfl,⟨t,rfl⟩,⟨t',rfl⟩⟩:=vals2 r
  refine min_two_ints (I.ok.hd hc) fun h' tk k=>⟨_,H,I.kept k,?_,q⟩
  by_cases hj:j < i
  · rw[if_pos hj,if_pos hj];exact⟨_,rfl⟩
  · rw[if_neg hj,if_neg hj];exact⟨_,rfl⟩
end
end L2
namespace L2
open PySem PySem.Spec PyProof.Rows
structure ObjM (h:Heap) (x dx C:Addr) (mA:Str->Option Value):Prop where
  obj:h.get? x=some (PySem.W.instObj C dx)
  ns:h.Ns1 dx mA
  ne:dx≠x
theorem lookIn_ns {h:Heap} {dx:Addr} {mA:Str->Option Value} (n:h.Ns1 dx mA):∃od,h.get? dx=some od/\∀name,PySem.W.lookIn name od=some (mA name):=by
  obtain⟨o,es,ep,ho,hd,hk,_,hm⟩:=n
  refine⟨o,ho,fun name=> ?_⟩
  have e:=hm name
  unfold nsFind findBy at e
  rw[←Array.find?_toList]at e
  unfold PySem.W.lookIn
  rw[hd]
  dsimp only
  split
  · rename_i y q
    rw[q]at e
    exact congrArg some e
  · rename_i q
    rw[q]at e
    have a:es.toList.any (·.refKey)=false:=by
      rw[List.any_eq_false]
      intro y hy
      obtain⟨z,t,hkey⟩:=hk y (Array.mem_toList_iff.mp hy)
      simp[DictEntry.refKey,hkey]
    have a':¬es.toList.any (·.refKey)=true:=by rw[a];exact Bool.false_ne_true
    rw[if_neg a']
    exact congrArg some e
theorem ObjM.look {h:Heap} {x dx C:Addr} {mA:Str->Option Value} (I:ObjM h x dx C mA):∃od,PySem.W.InstAt h x (PySem.W.instObj C dx) C (some od)/\∀name,PySem.W.lookIn name od=some (mA name):=
  let ⟨od,ho,hl⟩:=lookIn_ns I.ns
  ⟨od,⟨I.obj,rfl,rfl,ho⟩,hl⟩
section
variable {prog:Program} {w:World} {A:Around} {E:Value->Shared->Prop} {s:Shared} {K:PySem.W.Frag} {x dx C f:Addr} {mA:Str->Option Value} {name:Str} {v:Value}
theorem get_map {expr:Bool} {Q:Value->Shared->Prop} (X:K.In s.heap) (I:ObjM s.heap x dx C mA) (hg:PySem.W.plainGet K C name=true) (hh:PySem.W.hasDictIn K C=true)
    (ha:PySem.W.findIn K (.ref C) name=some none) (hv:mA name=some v) (hv':PySem.W.handedIn v=true) (h:Q v {s with toks:=s.toks+1}):
    wpAny (model prog w) A (getAttr (.ref x) name expr) Q E s:=by
  obtain⟨od,J,hl⟩:=I.look
  exact PySem.W.get_value X J (PySem.W.plainGet_of hg).1 (PySem.W.findObj_own hh ha rfl (by rw[hl,hv])) hv' h
theorem get_meth {pl:Sem Bool} {Q:Value×List Value->Shared->Prop} (X:K.In s.heap) (I:ObjM s.heap x dx C mA) (hg:PySem.W.plainGet K C name=true)
    (hf:PySem.W.findIn K (.ref C) name=some (some (.ref f))) (ht:PySem.W.isFn K (.ref f)=true) (hv:mA name=none) (h:Q (.ref f,[.ref x]) s):
    wpAny (model prog w) A (getMethod (.ref x) name pl) Q E s:=by
  obtain⟨od,J,hl⟩:=I.look
  exact PySem.W.method_fn X J (PySem.W.plainGet_of hg).1 (PySem.W.plainGet_of hg).2 hf (beq_iff_eq.mp ht) (by show(PySem.W.lookIn name od).map (·.isSome)=some false;rw[hl,hv];rfl) h
theorem set_map {ns:List Str} {Q:Unit->Shared->Prop} (X:K.In s.heap) (I:ObjM s.heap x dx C mA)
    (hs:PySem.W.findIn K (.ref C) "__setattr__"=some (some (.builtin "object.__setattr__"))) (hp:PySem.W.plainOver K C=true) (ht:PySem.W.takerIn K C name=some none) (hh:PySem.W.hasDictIn K C=true)
    (hw:PySem.Within mA ns) (hsz:ns.length≤sizeLine)
    (h:∀h',ObjM h' x dx C (fun y=>if y=name then some v else mA y)->Heap.SameBut dx s.heap h'->Q () {s with heap:=h',toks:=s.toks+2}):
    wpAny (model prog w) A (setAttr (.ref x) name v) Q E s:=by
  obtain⟨od,J,hl⟩:=I.look
  refine PySem.W.set_plain X J hs (PySem.W.osa_open (s:={s with toks:=s.toks+1}) (r:=none) X J hp ht fun b=> ?_)
  obtain⟨cd,hc,hd'⟩:=PySem.W.any_some hh
  have hx:s.heap.get? x=some ⟨.ref C,some dx,.plain,#[]⟩:=I.obj
  refine wpAny_bind (wpAny_pure (wpAny_bind (wpAny_bind (wpAny_loadPart hx (wpAny_bind (PySem.W.Looks.here (s:={s with toks:=s.toks+1}) (PySem.W.looks_clsIn X hc) ?_))))))
  rw[hd']
  refine wpAny_pure (a:=some dx) (wpAny_bind (wpAny_pure (wpAny_bind ?_)))
  refine wpAny_nsSet1 (s:={s with toks:=s.toks+1}) I.ns fun h' hn2 hs2=> ?_
  obtain⟨oD,esD,epD,hoD,hdD,hcD⟩:=hn2.count (PySem.Within.cons name v hw)
  refine wpAny_bind (wpAny_lookBehind hoD (by rw[hdD];exact pastItsLine_dict (Nat.le_trans hcD (by rw[List.length_cons];omega))) ?_)
  exact wpAny_pure (h _ ⟨(hs2.2 _ (Ne.symm I.ne)).trans I.obj,hn2,I.ne⟩ hs2)
theorem make_map {R:Result->Shared->Prop} {vs:List Value} {kw:List (Str×Value)} (X:K.In s.heap) (hm:PySem.W.makesIn K C=true)
    (hi:PySem.W.findIn K (.ref C) "__init__"=some (some (.ref f))) (hf:PySem.W.typeIn K (.ref f)=some (.type "function"))
    (h:codeAny (model prog w) (A.under (.builtin "type.__call__" ⟨.ref C::vs,kw⟩)) (.call (.ref f) ⟨.ref (s.heap.objs.size+1)::vs,kw⟩) (PySem.W.InitBack (s.heap.objs.size+1) R)
      {s with heap:=(s.heap.push PySem.W.emptyDict).push (PySem.W.instObj C s.heap.objs.size)}):
    codeAny (model prog w) A (.call (.ref C) ⟨vs,kw⟩) R s:=by
  obtain⟨hh,g,d,t,os⟩:=s
  exact PySem.W.make_core (PySem.W.makes_of X hm) (PySem.W.looks_findIn X hi) (fun self=>PySem.W.bind_fn X self hf) (.inl rfl) h
end
def putF (f:Str) (v:V):List (Str×V)->List (Str×V)
  | []=>[(f,v)]
  | (g,x)::r=>if g=f then(g,v)::r else(g,x)::putF f v r
theorem lookup_putF (f g:Str) (v:V):∀fs:List (Str×V),(putF f v fs).lookup g=if g=f then some v else fs.lookup g
  | []=>by
    show List.lookup g [(f,v)]=_
    by_cases h:g=f
    · have hb:(g == f)=true:=beq_iff_eq.mpr h
      simp only[List.lookup,hb,if_pos h]
    · have hb:(g == f)=false:=beq_eq_false_iff_ne.mpr h
      simp only[List.lookup,hb,if_neg h]
  | (k,x)::r=>by
    have ih:=lookup_putF f g v r
    rw[show putF f v ((k,x)::r)=(if k=f then(k,v)::r else(k,x)::putF f v r)from rfl]
    by_cases hk:k=f
    · rw[if_pos hk]
      by_cases h:g=k
      · have hb:(g == k)=true:=beq_iff_eq.mpr h
        simp only[List.lookup,hb,if_pos (h.trans hk)]
      · have hb:(g == k)=false:=beq_eq_false_iff_ne.mpr h
        simp only[List.lookup,hb,if_neg (fun e:g=f=>h (e.trans hk.symm))]
    · rw[if_neg hk]
      by_cases h:g=k
      · have hb:(g == k)=true:=beq_iff_eq.mpr h
        simp only[List.lookup,hb,if_neg (fun e:g=f=>hk (h.symm.trans e))]
      · have hb:(g == k)=false:=beq_eq_false_iff_ne.mpr h
        simp only[List.lookup,hb]
        exact ih
theorem keys_putF (f:Str) (v:V):∀fs:List (Str×V),f∈(putF f v fs).map (·.1)/\∀g,g∈fs.map (·.1)->g∈(putF f v fs).map (·.1)
  | []=>⟨by simp[putF],fun g h=>by simp at h⟩
  | (k,x)::r=>by
    obtain⟨i1,i2⟩:=keys_putF f v r
    rw[show putF f v ((k,x)::r)=(if k=f then(k,v)::r else(k,x)::putF f v r)from rfl]
    by_cases hk:k=f
    · rw[if_pos hk]
      subst hk
      exact⟨by simp,fun g h=>by simpa using h⟩
    · rw[if_neg hk]
      refine⟨?_,fun g h=> ?_⟩
      · rw[List.map_cons]
        exact List.mem_cons_of_mem _ i1
      · rw[List.map_cons]at h ⊢
        rcases List.mem_cons.mp h with e | e
        · exact List.mem_cons.mpr (.inl e)
        · exact List.mem_cons_of_mem _ (i2 g e)
theorem length_putF (f:Str) (v:V):∀fs:List (Str×V),(putF f v fs).length≤fs.length+1
  | []=>by simp[putF]
  | (k,x)::r=>by
    have ih:=length_putF f v r
    rw[show putF f v ((k,x)::r)=(if k=f then(k,v)::r else(k,x)::putF f v r)from rfl]
    by_cases hk:k=f
    · rw[if_pos hk,List.length_cons,List.length_cons];omega
    · rw[if_neg hk,List.length_cons,List.length_cons];omega
theorem RelO.some_of {v:V} {o:Option Value} (r:RelO (some v) o):∃u,o=some u/\RelV v u:=by
  cases o with
  | none=>exact(show False from r).elim
  | some u=>exact⟨u,rfl,r⟩
theorem RelO.none_of {o:Option Value} (r:RelO none o):o=none:=by
  cases o with
  | none=>rfl
  | some u=>exact(show False from r).elim
theorem handed_of {v:V} {u:Value} (r:RelV v u):PySem.W.handedIn u=true:=by
  cases v with
  | non=>cases (show u=Value.none from r);rfl
  | bl b=>cases (show u=Value.bool b from r);rfl
  | int i=>obtain⟨t,e⟩:=(show ∃t,u=Value.int i t from r);cases e;rfl
  | str x=>obtain⟨t,e⟩:=(show ∃t,u=Value.str x t from r);cases e;rfl
  | byt b=>obtain⟨t,e⟩:=(show ∃t,u=Value.bytes b t from r);cases e;rfl
  | flt b=>obtain⟨t,e⟩:=(show ∃t,u=Value.float b t from r);cases e;rfl
  | ref a=>cases (show u=Value.ref a from r);rfl
  | ty n=>cases (show u=Value.type n from r);rfl
section
variable {P:Program} {w:World} {H H':Hp} {h h':Heap} {a C dx:Addr} {fs fs':List (Str×V)}
theorem ins_get (hok:HOk P w H h) (e:H a=some (.ins C dx fs)):∃mA,ObjM h a dx C mA/\(∀f,RelO (fs.lookup f) (mA f))/\PySem.Within mA (fs.map (·.1))/\fs.length≤1000/\H dx=some (.own a):=by
  obtain⟨d,z,ne,ob,mA,n,r,q⟩:=(show ObjOk P w H h a (.ins C dx fs)from hok a _ e)
  exact⟨mA,⟨ob,n,ne⟩,r,q,z,d⟩
end
structure Cls (K:PySem.W.Frag) (C:Addr):Prop where
  pg:PySem.W.plainGet K C Str.empty=true
  hd:PySem.W.hasDictIn K C=true
  po:PySem.W.plainOver K C=true
  sa:PySem.W.findIn K (.ref C) "__setattr__"=some (some (.builtin "object.__setattr__"))
theorem Cls.get {K:PySem.W.Frag} {C:Addr} (c:Cls K C) (f:Str):PySem.W.plainGet K C f=true:=c.pg
def NoAttr (K:PySem.W.Frag) (C:Addr) (f:Str):Prop:=PySem.W.findIn K (.ref C) f=some none
theorem NoAttr.taker {K:PySem.W.Frag} {C:Addr} {f:Str} (n:NoAttr K C f):PySem.W.takerIn K C f=some none:=by
  unfold PySem.W.takerIn
  rw[show PySem.W.findIn K (.ref C) f=some none from n]
  rfl
structure Meth (K:PySem.W.Frag) (C:Addr) (m:Str) (f:Addr):Prop where
  at_:PySem.W.findIn K (.ref C) m=some (some (.ref f))
  fn:PySem.W.isFn K (.ref f)=true
  kp:PySem.W.keepIn K (.ref f)=true
section
variable {X:Cx} {pins:List (Addr×Obj)} {σ:St} {H:Hp} {s:Shared} {a C dx:Addr} {fs:List (Str×V)} {f:Str} {v:V} {A:Around} {E:Value->Shared->Prop}
theorem getattr_ok {b:Bool} {Q:Value->Shared->Prop} (I:Inv X pins σ H s) (e:H a=some (.ins C dx fs)) (c:Cls X.K C) (n:NoAttr X.K C f) (l:fs.lookup f=some v)
    (h:∀u s',Inv X pins σ H s'->RelV v u->Q u s'):wpAny (model X.prog X.w) A (getAttr (.ref a) f b) Q E s:=by
  obtain⟨mA,O,r,_,_,_⟩:=ins_get I.hok e
  obtain⟨u,hu,ru⟩:=RelO.some_of (v:=v) (o:=mA f) (by rw[←l];exact r f)
  exact get_map I.kIn O (c.get f) c.hd n hu (handed_of ru) (h u _ (I.tok _) ru)
theorem getmeth_ok {m:Str} {g:Addr} {pl:Sem Bool} {Q:Value×List Value->Shared->Prop} (I:Inv X pins σ H s) (e:H a=some (.ins C dx fs)) (c:Cls X.K C) (k:Meth X.K C m g) (l:fs.lookup m=none)
    (h:Q (.ref g,[.ref a]) s):wpAny (model X.prog X.w) A (getMethod (.ref a) m pl) Q E s:=by
  obtain⟨mA,O,r,_,_,_⟩:=ins_get I.hok e
  have hn:mA m=none:=RelO.none_of (by rw[←l];exact r m)
  exact get_meth I.kIn O (c.get m) k.at_ k.fn hn h
theorem setattr_ok {y:V} {u:Value} {Q:Unit->Shared->Prop} (I:Inv X pins σ H s) (e:H a=some (.ins C dx fs)) (c:Cls X.K C) (n:NoAttr X.K C f) (hl:fs.length < 1000) (ry:RelV y u)
    (h:∀s',Inv X pins σ (upd H a (.ins C dx (putF f y fs))) s'->Q () s'):wpAny (model X.prog X.w) A (setAttr (.ref a) f u) Q E s:=by
  obtain⟨mA,O,r,wi,_,ho⟩:=ins_get I.hok e
  have hz:(fs.map (·.1)).length≤sizeLine:=by rw[List.length_map,sizeLine_eq];omega
  refine set_map I.kIn O c.sa c.po n.taker c.hd wi hz fun h' O' sb=>h _ ?_
  have hd:∃o,h'.get? dx=some o:=let ⟨o,_,_,e',_⟩:=O'.ns;⟨o,e'⟩
  refine I.write (x:=a) (e:=dx) (by rw[e];exact True.intro) (.inr ho) (fun b q hb z=>(sb.2 b hb).trans z) hd ?_
  refine⟨by rw[upd_ne O.ne];exact ho,?_,O.ne,O'.obj,_,O'.ns,fun g=> ?_,fun g hg=> ?_⟩
  · have:=length_putF f y fs;omega
  · show RelO ((putF f y fs).lookup g) (if g=f then some u else mA g)
    rw[lookup_putF]
    by_cases q:g=f
    · rw[if_pos q,if_pos q];exact ry
    · rw[if_neg q,if_neg q];exact r g
  · by_cases q:g=f
    · rw[q];exact(keys_putF f y fs).1
    · refine(keys_putF f y fs).2 g (wi g fun z=>hg ?_)
      show(if g=f then some u else mA g)=none
      rw[if_neg q];exact z
theorem Inv.made (I:Inv X pins σ H s):Inv X pins σ (upd (upd H s.heap.objs.size (.own (s.heap.objs.size+1))) (s.heap.objs.size+1) (.ins C s.heap.objs.size []))
    {s with heap:=(s.heap.push PySem.W.emptyDict).push (PySem.W.instObj C s.heap.objs.size)}:=by
  have e1:(s.heap.push PySem.W.emptyDict).get? s.heap.objs.size=some PySem.W.emptyDict:=Heap.get?_push_size s.heap rfl
  have e2:((s.heap.push PySem.W.emptyDict).push (PySem.W.instObj C s.heap.objs.size)).get? (s.heap.objs.size+1)=some (PySem.W.instObj C s.heap.objs.size):=by
    have:=Heap.get?_push_size (s.heap.push PySem.W.emptyDict) (o:=PySem.W.instObj C s.heap.objs.size) rfl
    rwa [Heap.size_push]at this
  have e3:(s.heap.push PySem.W.emptyDict).Ns s.heap.objs.size (fun _=>none):=⟨PySem.W.emptyDict,#[],_,e1,rfl,(fun e he=>absurd he (by simp)),fun _=>rfl⟩
  have I1:=I.laid (a:=s.heap.objs.size) (o:= .own (s.heap.objs.size+1)) (h':=s.heap.push PySem.W.emptyDict) (t':=s.toks) (fun b u q=>Heap.get?_push_of_some _ q) (Nat.le_refl _) ⟨_,e1⟩
  refine I1.laid (a:=s.heap.objs.size+1) (o:= .ins C s.heap.objs.size []) (t':=s.toks) (fun b u q=>Heap.get?_push_of_some _ q) (Nat.le_of_eq (Heap.size_push _ _)) ?_
  have ne:s.heap.objs.size≠s.heap.objs.size+1:=Nat.ne_of_lt (Nat.lt_succ_self _)
  refine⟨by rw[upd_ne ne,upd_same],Nat.zero_le _,ne,e2,fun _=>none,(Heap.Ns1.of_empty e3).at fun o q=>Heap.get?_push_of_some _ q,fun _=>True.intro,fun y hy=>absurd rfl hy⟩
theorem attr_of {prog:Program} {w:World} {env:Env} {e:Expr} {f:Str} {pos:Pos} {s:Shared} {Q:Value->Shared->Prop} (hb:attributeBase e f env (eval e env)=eval e env)
    (h:wpAny (model prog w) A (eval e env) (fun o s₁=>wpAny (model prog w) A (getAttr o f true) Q E s₁) E s):wpAny (model prog w) A (eval (.Attribute e f pos) env) Q E s:=
  Attribute_any_ h (by rw[arm_eval_Attribute,hb])
end
inductive fldI (K:PySem.W.Frag) (f:Str) (Q:VK) (x:V) (H1:Hp):Prop
  | mk (a C dx:Addr) (fs:List (Str×V)) (v:V) (h1:x= .ref a) (h2:H1 a=some (.ins C dx fs)) (h3:Cls K C) (h4:NoAttr K C f) (h5:fs.lookup f=some v) (q:Q v H1):fldI K f Q x H1
def tFld (K:PySem.W.Frag) (ta:TE) (f:Str):TE:=fun σ H Q=>ta σ H (fldI K f Q)
def sFld (K:PySem.W.Frag) (ta tv:TE) (f:Str):TS:=fun D σ H=>tv σ H fun y H1=>ta σ H1 fun x H2=>∃a C dx fs,x= .ref a/\H2 a=some (.ins C dx fs)/\Cls K C/\NoAttr K C f/\fs.length < 1000/\
  D.nx σ (upd H2 a (.ins C dx (putF f y fs)))
def InOp (X:Cx) (op:Operator) (rd:V->V->Hp->VK->Prop):Prop:=
  ∀(pins:List (Addr×Obj)) (s:Shared) (σ:St) (H:Hp) (x y:V) (u v:Value) (Q:VK),Inv X pins σ H s->RelV x u->RelV y v->rd x y H Q->wpAny (model X.prog X.w) X.A (inplaceOp op u v) (EP X pins σ Q) X.xe s
def sFldAug (K:PySem.W.Frag) (ta tv:TE) (rd:V->V->Hp->VK->Prop) (f:Str):TS:=fun D σ H=>ta σ H fun x H1=>∃a C dx fs v,x= .ref a/\H1 a=some (.ins C dx fs)/\Cls K C/\NoAttr K C f/\fs.lookup f=some v/\
  tv σ H1 fun y H2=>rd v y H2 fun z H3=>∃dx' fs',H3 a=some (.ins C dx' fs')/\fs'.length < 1000/\D.nx σ (upd H3 a (.ins C dx' (putF f z fs')))
section
variable {X:Cx} {o e value:Expr} {f:Str} {pos pos' tpos:Pos} {ta tv:TE}
theorem pe_fld (he:PE X e ta) (hb:attributeBase e f X.env (eval e X.env)=eval e X.env):PE X (.Attribute e f pos) (tFld X.K ta f):=by
  intro pins s σ H Q I h
  refine attr_of hb (thn (he pins s σ H _ I h) fun u s1 ⟨x,H1,I1,rx,a,C,dx,fs,v,ex,ea,c,n,l,q⟩=> ?_)
  subst ex
  obtain rfl:u=Value.ref a:=rx
  exact getattr_ok I1 ea c n l fun u' s2 I2 ru=>⟨v,H1,I2,ru,q⟩
theorem ps_fld (ha:PE X o ta) (hv:PE X value tv) (hs:swapsWith value (some (.Attribute o f pos')) pos.line X.env=pure false):PS X (.Assign [.Attribute o f pos'] value pos) (sFld X.K ta tv f):=by
  intro pins s σ H D I h
  refine plainObj_wpAny_Assign_Attribute (thn (hv pins s σ H _ I h) fun u s1 ⟨y,H1,I1,ry,q⟩=>thn (ha pins s1 σ H1 _ I1 q) fun ov s2 ⟨x,H2,I2,rx,a,C,dx,fs,ex,ea,c,n,l,q2⟩=> ?_) hs
  subst ex
  obtain rfl:ov=Value.ref a:=rx
  exact setattr_ok I2 ea c n l ry fun s3 I3=>⟨σ,_,I3,q2⟩
theorem ps_fldaug {op:Operator} {rd:V->V->Hp->VK->Prop} (ha:PE X o ta) (hv:PE X value tv) (hop:InOp X op rd):PS X (.AugAssign (.Attribute o f tpos) op value pos) (sFldAug X.K ta tv rd f):=by
  intro pins s σ H D I h
  refine wpAny_AugAssign_AttributeAny (thn (ha pins s σ H _ I h) fun ov s1 ⟨x,H1,I1,rx,a,C,dx,fs,v,ex,ea,c,n,l,q⟩=> ?_)
  subst ex
  obtain rfl:ov=Value.ref a:=rx
  refine getattr_ok I1 ea c n l fun u s2 I2 ru=>thn (hv pins s2 σ H1 _ I2 q) fun w3 s3 ⟨y,H2,I3,ry,q3⟩=>thn (hop pins s3 σ H2 v y u w3 _ I3 ru ry q3) fun w4 s4 ⟨z,H3,I4,rz,dx',fs',ea',l',q4⟩=> ?_
  exact setattr_ok I4 ea' c n l' rz fun s5 I5=>⟨σ,_,I5,q4⟩
def rAdd:V->V->Hp->VK->Prop:=fun x y H Q=>∃i j,x= .int i/\y= .int j/\Q (.int (i+j)) H
theorem in_add:InOp X .Add rAdd:=by
  rintro pins s σ H x y u v Q I rx ry ⟨i,j,rfl,rfl,q⟩
  obtain⟨t,rfl⟩:=(show ∃t,u=Value.int i t from rx)
  obtain⟨t',rfl⟩:=(show ∃t',v=Value.int j t' from ry)
  exact PyProof.Rows.iadd_int ⟨.int (i+j),H,I.tok _,⟨_,rfl⟩,q⟩
end
section
variable {X:Cx} {pins:List (Addr×Obj)} {σ:St} {H:Hp} {s:Shared} {A:Around} {E:Value->Shared->Prop} {Q:Value->Shared->Prop} {c:Value} {b:Bool}
end
end L2
namespace L2
open PySem PySem.Spec PyProof.Rows
structure Room (k:Nat) (A:Around):Prop where
  hd:A.handled=none
  dp:A.depth+3 * k+5 < recursionLimit
  un:A.units+16 * k+200 < cLine
theorem Room.mono {j k:Nat} {A:Around} (r:Room k A) (h:j≤k):Room j A:=⟨r.hd,by have:=r.dp;omega,by have:=r.un;omega⟩
theorem Room.deeper {k:Nat} {A:Around} (r:Room (k+1) A) (env:Env):Room k (A.deeper env):=
  ⟨r.hd,by have:=r.dp;show A.depth+1+3 * k+5 < _;omega,by have:=r.un;show A.units+3+16 * k+200 < _;omega⟩
theorem Room.in1 {k:Nat} {A:Around} (r:Room (k+1) A):Room k A.in1:=
  ⟨r.hd,by have:=r.dp;show A.depth+3 * k+5 < _;omega,by have:=r.un;show A.units+1+16 * k+200 < _;omega⟩
theorem make_depth {A:Around} {C:Addr} {us:List Value} {kw:List (Str×Value)}:(A.under (.builtin "type.__call__" ⟨.ref C::us,kw⟩)).depth=A.depth+1:=by
  first | rfl | simp[Around.under,Code.weight,Code.isCreation,Code.isGuard,Code.isCaller,Code.frames,Code.isFrame,guardIds]
theorem make_units {A:Around} {C:Addr} {us:List Value} {kw:List (Str×Value)}:(A.under (.builtin "type.__call__" ⟨.ref C::us,kw⟩)).units=A.units+1:=by
  first | rfl | simp[Around.under,Code.cUnits,Code.frames,Code.isFrame]
theorem Room.make {k:Nat} {A:Around} (r:Room (k+1) A) (C:Addr) (us:List Value) (kw:List (Str×Value)):Room k (A.under (.builtin "type.__call__" ⟨.ref C::us,kw⟩)):=
  ⟨r.hd,by have:=r.dp;rw[make_depth];omega,by have:=r.un;rw[make_units];omega⟩
theorem Room.depth {k:Nat} {A:Around} (r:Room k A):A.depth < recursionLimit:=by have:=r.dp;omega
theorem Room.units {k:Nat} {A:Around} (r:Room k A):A.units+64 < cLine:=by have:=r.un;omega
def tNil:TA:=fun _ H Q=>Q [] H
def tCons (ta:TE) (tr:TA):TA:=fun σ H Q=>ta σ H fun x H1=>tr σ H1 fun xs H2=>Q (x::xs) H2
section
variable {X:Cx} {e:Expr} {es:List Expr} {te:TE} {t:TA} {pos:Pos}
theorem pa_nil:PA X [] tNil:=fun _ _ _ _ H Q I h=>Calls.spliced_nil ⟨[],H,I,.nil,h⟩
theorem pa_cons (ha:PE X e te) (hr:PA X es t) (hs:starEach (e::es) X.env=(false,eval e X.env)::starEach es X.env:=by rfl):PA X (e::es) (tCons te t):=by
  intro pos pins s σ H Q I h
  rw[hs]
  show wpAny _ _ (spliced ((false,eval e X.env)::backTo pos (starEach es X.env))) _ _ s
  refine Calls.spliced_cons (thn (ha pins s σ H _ I h) fun u s1 ⟨x,H1,I1,r1,q1⟩=> ?_)
  exact thn (hr pos pins s1 σ H1 _ I1 q1) fun us s2 ⟨xs,H2,I2,r2,q2⟩=>⟨x::xs,H2,I2,.cons r1 r2,q2⟩
def tTup (t:TA):TE:=fun σ H Q=>t σ H fun xs H1=>xs.length≤sizeLine/\∀p,H1 p=none->Q (.ref p) (upd H1 p (.tup xs))
def tLst (t:TA):TE:=fun σ H Q=>t σ H fun xs H1=>xs.length≤sizeLine/\∀p,H1 p=none->Q (.ref p) (upd H1 p (.lst xs))
theorem pe_tup {x1} (h:PA X es t):PE X (.Tuple es x1 pos) (tTup t):=by
  intro pins s σ H Q I hq
  refine wpAny_Tuple_spliced (thn (h pos pins s σ H _ I hq) fun us s1 ⟨xs,H1,I1,r,z,q⟩=>⟨by rw[←r.length];exact z,?_⟩)
  have hf:H1 s1.heap.objs.size=none:=I1.hok.fresh (Nat.le_refl _)
  refine⟨.ref s1.heap.objs.size,upd H1 s1.heap.objs.size (.tup xs),I1.laid (t':=s1.toks) (fun b u e=>Heap.get?_push_of_some _ e) (Nat.le_refl _) ?_,rfl,q _ hf⟩
  exact⟨z,us,r,⟨_,Heap.get?_push_size _ rfl,rfl,_,rfl⟩⟩
theorem pe_lst (h:PA X es t):PE X (.List es pos) (tLst t):=by
  intro pins s σ H Q I hq
  refine wpAny_List_spliced (thn (h pos pins s σ H _ I hq) fun us s1 ⟨xs,H1,I1,r,z,q⟩=>⟨by rw[←r.length];exact z,?_⟩)
  have hf:H1 s1.heap.objs.size=none:=I1.hok.fresh (Nat.le_refl _)
  refine⟨.ref s1.heap.objs.size,upd H1 s1.heap.objs.size (.lst xs),I1.laid (t':=s1.toks) (fun b u e=>Heap.get?_push_of_some _ e) (Nat.le_refl _) ?_,rfl,q _ hf⟩
  exact⟨z,us,0,r,Heap.get?_push_size _ rfl⟩
end
abbrev Sp:=List V->Hp->VK->XK->Prop
abbrev CXT:=List Env->Hp->Shared->XK->Value->Shared->Prop
structure Env0 (P:Program) (w:World) (K:PySem.W.Frag) (mg:Str->Option Value) (base:Heap) (A:Around) (outer:List Env) (s:Shared) (H:Hp):Prop where
  frames:A.frames=some outer
  mod:Mod K mg base
  bs:∀b o,base.get? b=some o->s.heap.get? b=some o/\H b=none
  bsz:base.objs.size≤s.heap.objs.size
  funs:s.heap.FunFrames base outer
  frf:∀b∈frs outer,H b=none
  hok:HOk P w H s.heap
  bare:AllBare s.gens
def CE (outer:List Env) (P:Program) (w:World) (H:Hp) (s:Shared) (Q:VK) (u:Value) (s':Shared):Prop:=
  ∃v H',s'.os=s.os/\AllBare s'.gens/\Un (frs outer) [] H H' s.heap s'.heap/\HOk P w H' s'.heap/\RelV v u/\Q v H'
def CR (CX:CXT) (outer:List Env) (P:Program) (w:World) (H:Hp) (s:Shared) (Q:VK) (E:XK) (r:Result) (s':Shared):Prop:=
  match r with
  | .ok (.ret u)=>CE outer P w H s Q u s'
  | .ok _=>False
  | .error e=>CX outer H s E e s'
structure FnOk (P:Program) (w:World) (K:PySem.W.Frag) (mg:Str->Option Value) (base:Heap) (CX:CXT) (k:Nat) (f:Addr) (fd:FuncData) (ps:List Str) (sp:Sp):Prop where
  len:∀vs H Q E,sp vs H Q E->vs.length=ps.length
  run:∀(A:Around) (outer:List Env) (s:Shared) (H:Hp) (args:Args) (us:List Value) (vs:List V) (Q:VK) (E:XK),Room k A->Env0 P w K mg base A outer s H->BindsTo s fd args (ps.zip us)->Vals vs us->sp vs H Q E->
    codeAny (model P w) A (.call (.ref f) args) (CR CX outer P w H s Q E) s
theorem Env0.make {P:Program} {w:World} {K:PySem.W.Frag} {mg:Str->Option Value} {base:Heap} {A:Around} {outer:List Env} {s:Shared} {H:Hp} (e:Env0 P w K mg base A outer s H) (C:Addr) (us:List Value) (kw:List (Str×Value)):
    Env0 P w K mg base (A.under (.builtin "type.__call__" ⟨.ref C::us,kw⟩)) outer s H:=⟨by first | exact e.frames | (simpa [Around.under,Code.envs,Code.isFrame,pushEnvs] using e.frames),e.mod,e.bs,e.bsz,e.funs,e.frf,e.hok,e.bare⟩
theorem Env0.in1 {P:Program} {w:World} {K:PySem.W.Frag} {mg:Str->Option Value} {base:Heap} {A:Around} {outer:List Env} {s:Shared} {H:Hp} (e:Env0 P w K mg base A outer s H):
    Env0 P w K mg base A.in1 outer s H:=⟨e.frames,e.mod,e.bs,e.bsz,e.funs,e.frf,e.hok,e.bare⟩
section
variable {X:Cx} {pins:List (Addr×Obj)} {σ:St} {H:Hp} {s s':Shared}
theorem Inv.env0 (I:Inv X pins σ H s):Env0 X.prog X.w X.K X.mg X.base X.A X.stack s H:=
  ⟨I.ok.frames,I.ok.mod,I.bs,Nat.le_trans I.ok.bsz I.sz,I.stack,I.stkFree,I.hok,I.bare⟩
theorem Inv.after {Q:VK} {u:Value} (I:Inv X pins σ H s) (h:CE X.stack X.prog X.w H s Q u s'):EP X pins σ Q u s':=by
  obtain⟨v,H',os,bare,un,hok,r,q⟩:=h
  obtain⟨hh,g,d,t,os'⟩:=s'
  obtain rfl:os'=s.os:=os
  exact⟨v,H',I.call (h':=hh) (g':=g) (d':=d) (t':=t) (ch:=[]) un hok bare (fun b z=>absurd z (by simp)),r,q⟩
end
def tCall (sp:Sp) (dvs:List V) (E:XK) (t:TA):TE:=fun σ H Q=>t σ H fun vs H1=>sp (vs++dvs) H1 Q E
inductive methI (C:Addr) (m:Str) (R:Hp->Prop) (x:V) (H1:Hp):Prop
  | mk (a dx:Addr) (fs:List (Str×V)) (h1:x= .ref a) (h2:H1 a=some (.ins C dx fs)) (h3:fs.lookup m=none) (q:R H1):methI C m R x H1
def tMeth (C:Addr) (m:Str) (sp:Sp) (dvs:List V) (E:XK) (ta:TE) (t:TA):TE:=fun σ H Q=>ta σ H fun x=>methI C m (fun H1=>t σ H1 fun vs H2=>sp (x::(vs++dvs)) H2 Q E) x
def tMake (C:Addr) (sp:Sp) (dvs:List V) (E:XK) (t:TA):TE:=fun σ H Q=>t σ H fun vs H1=>∀x dx,H1 x=none->H1 dx=none->dx≠x->
  sp (.ref x::(vs++dvs)) (upd (upd H1 dx (.own x)) x (.ins C dx [])) (fun v H2=>v= .non/\Q (.ref x) H2) E
def Binds (K:PySem.W.Frag) (fd:FuncData) (ps:List Str) (ds:List Value):Prop:=
  ∀(s:Shared) (us:List Value),K.In s.heap->(us++ds).length=ps.length->BindsTo s fd ⟨us,[]⟩ (ps.zip (us++ds))
theorem Binds.all {K:PySem.W.Frag} {fd:FuncData} {ps:List Str} (h:∀us:List Value,us.length=ps.length->bindArgs fd ⟨us,[]⟩=pure (ps.zip us)):Binds K fd ps []:=fun s us _ hl=>by
  rw[List.append_nil]at hl ⊢
  exact .of_eq (h us hl)
def Passes (CX:CXT) (X:Cx) (E:XK):Prop:=∀(pins:List (Addr×Obj)) (σ:St) (H:Hp) (s:Shared) (e:Value) (s':Shared),Inv X pins σ H s->CX X.stack H s E e s'->X.xe e s'
section
variable {X:Cx} {CX:CXT} {k:Nat} {f C:Addr} {fd:FuncData} {ps:List Str} {sp:Sp} {dvs:List V} {ds:List Value} {E:XK} {x m:Str} {p pos apos:Pos} {e o:Expr} {es:List Expr} {ta:TE} {t:TA}
theorem run_fn {pins:List (Addr×Obj)} {σ:St} {H:Hp} {s:Shared} {Q:VK} {us:List Value} {vs:List V} (F:FnOk X.prog X.w X.K X.mg X.base CX k f fd ps sp) (hr:Room k X.A) (hb:Binds X.K fd ps ds) (hd:Vals dvs ds) (hx:Passes CX X E)
    (I:Inv X pins σ H s) (r:Vals vs us) (h:sp (vs++dvs) H Q E):wpAny (model X.prog X.w) X.A (call (.ref f) us) (EP X pins σ Q) X.xe s:=by
  have r2:Vals (vs++dvs) (us++ds):=r.append hd
  have hl:(us++ds).length=ps.length:=by rw[←r2.length];exact F.len _ _ _ _ h
  refine wpAny_call (codeAny_mono (F.run X.A X.stack s H ⟨us,[]⟩ (us++ds) (vs++dvs) Q E hr I.env0 (hb s us I.kIn hl) r2 h) fun r s' hq=> ?_)
  cases r with
  | error e=>exact hx pins σ H s e s' I hq
  | ok fl=>
    cases fl with
    | ret u=>exact I.after hq
    | next=>exact False.elim hq
    | brk=>exact False.elim hq
    | cont=>exact False.elim hq
theorem pe_call (F:FnOk X.prog X.w X.K X.mg X.base CX k f fd ps sp) (hr:Room k X.A) (hg:Gl X x) (hm:X.mg x=some (.ref f)) (hk:PySem.W.keepIn X.K (.ref f)=true) (hb:Binds X.K fd ps ds) (hd:Vals dvs ds) (hx:Passes CX X E)
    (ha:PA X (e::es) t) (hdb:(x == ("__debug__":Str))=false:=by decide) (he:starEach (e::es) X.env=(false,eval e X.env)::starEach es X.env:=by rfl) (hpl:(backTo pos (starEach es X.env)).any (·.1)=false:=by rfl):
    PE X (.Call (.Name x p) (e::es) [] pos) (tCall sp dvs E t):=by
  intro pins s σ H Q I h
  refine wpAny_Call_Name_kw (ld_glob I hg hm ?_ hdb)
  refine PySem.W.callWith_K (h₀:=X.base) I.ok.mod.kin hk (thn (ha pos pins s σ H _ I h) fun us s1 ⟨vs,H1,I1,r,q⟩=>⟨I1.kIn,?_⟩) he hpl
  exact run_fn F hr hb hd hx I1 r q
theorem pe_meth {pl:Sem Bool} (he:PE X o ta) (c:Cls X.K C) (hm:Meth X.K C m f) (F:FnOk X.prog X.w X.K X.mg X.base CX k f fd ps sp) (hr:Room k X.A) (hb:Binds X.K fd ps ds) (hd:Vals dvs ds) (hx:Passes CX X E) (ha:PA X (e::es) t)
    (hst:starEach (e::es) X.env=(false,eval e X.env)::starEach es X.env:=by rfl) (hpl:(backTo pos (starEach es X.env)).any (·.1)=false:=by rfl)
    (ht:eval (.Call (.Attribute o m apos) (e::es) [] pos) X.env=(do
      let ov ←eval o X.env
      standAt apos.atName
      let (f,first) ←holding [ov] (getMethod ov m pl)
      callWith pos f first (backTo pos (starEach (e::es) X.env)) (backToKw pos (keywordEach [] X.env))):=by rfl):
    PE X (.Call (.Attribute o m apos) (e::es) [] pos) (tMeth C m sp dvs E ta t):=by
  intro pins s σ H Q I h
  refine PySem.W.methodCall_KW (pl:=pl) (thn (he pins s σ H _ I h) fun u s1 ⟨x,H1,I1,rx,a,dx,fs,ex,ea,l,q⟩=> ?_) ht
  subst ex
  obtain rfl:u=Value.ref a:=rx
  refine getmeth_ok I1 ea c hm l ?_
  refine PySem.W.callWith_K (first:=[.ref a]) (h₀:=X.base) I.ok.mod.kin hm.kp (thn (ha pos pins s1 σ H1 _ I1 q) fun us s2 ⟨vs,H2,I2,r,q2⟩=>⟨I2.kIn,?_⟩) hst hpl
  exact run_fn (us:= .ref a::us) (vs:= .ref a::vs) F hr hb hd hx I2 (.cons rfl r) q2
theorem pe_meth0 {pl:Sem Bool} (he:PE X o ta) (c:Cls X.K C) (hm:Meth X.K C m f) (F:FnOk X.prog X.w X.K X.mg X.base CX k f fd ps sp) (hr:Room k X.A) (hb:Binds X.K fd ps ds) (hd:Vals dvs ds) (hx:Passes CX X E)
    (ht:eval (.Call (.Attribute o m apos) [] [] pos) X.env=(do
      let ov ←eval o X.env
      standAt apos.atName
      let (f,first) ←holding [ov] (getMethod ov m pl)
      callWith pos f first (backTo pos (starEach [] X.env)) (backToKw pos (keywordEach [] X.env))):=by rfl):
    PE X (.Call (.Attribute o m apos) [] [] pos) (tMeth C m sp dvs E ta tNil):=by
  intro pins s σ H Q I h
  refine PySem.W.methodCall_KW (pl:=pl) (thn (he pins s σ H _ I h) fun u s1 ⟨x,H1,I1,rx,a,dx,fs,ex,ea,l,q⟩=> ?_) ht
  subst ex
  obtain rfl:u=Value.ref a:=rx
  refine getmeth_ok I1 ea c hm l ?_
  exact PySem.W.callWith_K0 (first:=[.ref a]) I1.kIn hm.kp (run_fn (us:=[.ref a]) (vs:=[.ref a]) F hr hb hd hx I1 (.cons rfl .nil) q)
structure Mk (K:PySem.W.Frag) (C f:Addr):Prop where
  makes:PySem.W.makesIn K C=true
  init:PySem.W.findIn K (.ref C) "__init__"=some (some (.ref f))
  fn:PySem.W.isFn K (.ref f)=true
  kp:PySem.W.keepIn K (.ref C)=true
theorem run_make {pins:List (Addr×Obj)} {σ:St} {H:Hp} {s:Shared} {Q:VK} {us:List Value} {vs:List V} (M:Mk X.K C f) (F:FnOk X.prog X.w X.K X.mg X.base CX k f fd ps sp) (hr:Room (k+1) X.A) (hb:Binds X.K fd ps ds) (hd:Vals dvs ds)
    (hx:Passes CX X E) (I:Inv X pins σ H s) (r:Vals vs us)
    (h:∀x dx,H x=none->H dx=none->dx≠x->sp (.ref x::(vs++dvs)) (upd (upd H dx (.own x)) x (.ins C dx [])) (fun v H2=>v= .non/\Q (.ref x) H2) E):
    wpAny (model X.prog X.w) X.A (call (.ref C) us) (EP X pins σ Q) X.xe s:=by
  have hq:=h (s.heap.objs.size+1) s.heap.objs.size (I.hok.fresh (Nat.le_succ _)) (I.hok.fresh (Nat.le_refl _)) (Nat.ne_of_lt (Nat.lt_succ_self _))
  have I2:=Inv.made (C:=C) I
  have r2:Vals (V.ref (s.heap.objs.size+1)::(vs++dvs)) (Value.ref (s.heap.objs.size+1)::(us++ds)):= .cons rfl (r.append hd)
  have hl:(Value.ref (s.heap.objs.size+1)::us++ds).length=ps.length:=by
    have e:=r2.length
    rw[F.len _ _ _ _ hq]at e
    exact e.symm
  refine wpAny_call (make_map (f:=f) I.kIn M.makes M.init (beq_iff_eq.mp M.fn) (codeAny_mono (F.run _ X.stack _ _ ⟨Value.ref (s.heap.objs.size+1)::us,[]⟩ (Value.ref (s.heap.objs.size+1)::(us++ds)) _ _ E (hr.make C us [])
    (I2.env0.make C us []) (hb _ (Value.ref (s.heap.objs.size+1)::us) I2.kIn hl) r2 hq) fun r s' hq'=> ?_))
  cases r with
  | error e=>exact hx pins σ _ _ e s' I2 hq'
  | ok fl=>
    cases fl with
    | ret u=>
      obtain⟨v,H',I3,rv,ev,q3⟩:=I2.after hq'
      subst ev
      exact⟨rv,⟨V.ref (s.heap.objs.size+1),H',I3,rfl,q3⟩⟩
    | next=>exact False.elim hq'
    | brk=>exact False.elim hq'
    | cont=>exact False.elim hq'
theorem pe_make (M:Mk X.K C f) (F:FnOk X.prog X.w X.K X.mg X.base CX k f fd ps sp) (hr:Room (k+1) X.A) (hg:Gl X x) (hm:X.mg x=some (.ref C)) (hb:Binds X.K fd ps ds) (hd:Vals dvs ds) (hx:Passes CX X E)
    (ha:PA X (e::es) t) (hdb:(x == ("__debug__":Str))=false:=by decide) (he:starEach (e::es) X.env=(false,eval e X.env)::starEach es X.env:=by rfl) (hpl:(backTo pos (starEach es X.env)).any (·.1)=false:=by rfl):
    PE X (.Call (.Name x p) (e::es) [] pos) (tMake C sp dvs E t):=by
  intro pins s σ H Q I h
  refine wpAny_Call_Name_kw (ld_glob I hg hm ?_ hdb)
  refine PySem.W.callWith_K (h₀:=X.base) I.ok.mod.kin M.kp (thn (ha pos pins s σ H _ I h) fun us s1 ⟨vs,H1,I1,r,q⟩=>⟨I1.kIn,?_⟩) he hpl
  exact run_make M F hr hb hd hx I1 r q
theorem pe_make0 (M:Mk X.K C f) (F:FnOk X.prog X.w X.K X.mg X.base CX k f fd ps sp) (hr:Room (k+1) X.A) (hg:Gl X x) (hm:X.mg x=some (.ref C)) (hb:Binds X.K fd ps ds) (hd:Vals dvs ds) (hx:Passes CX X E)
    (hdb:(x == ("__debug__":Str))=false:=by decide):PE X (.Call (.Name x p) [] [] pos) (tMake C sp dvs E tNil):=by
  intro pins s σ H Q I h
  refine wpAny_Call_Name_kw (ld_glob I hg hm ?_ hdb)
  exact PySem.W.callWith_K0 I.kIn M.kp (run_make (us:=[]) M F hr hb hd hx I .nil h)
end
section
variable {X:Cx} {CX:CXT} {k:Nat} {f C:Addr} {fd:FuncData} {ps ks:List Str} {sp:Sp} {E:XK} {x m:Str} {p pos apos kpos:Pos} {e o:Expr} {es:List Expr} {kws:List Keyword} {te ta:TE} {t tk:TA} {nm:Option Str}
variable {g:List Value->List Value->List Value} {gV:List V->List V->List V}
end
structure FnScope (N P:List Str) (sc:Scope):Prop where
  kind:sc.kind= .function
  co:sc.isCoroutine=false
  gen:sc.isGenerator=false
  nd:N.Nodup
  pre:N.take P.length=P
  par:∀x∈P,sc.names.lookup x=some .local∨sc.names.lookup x=some .cell
  nofree:∀y∈sc.names,y.2≠ .free
theorem bindL_out {kindOf:Str->Option NameKind} {x:Str}:∀{binds:List (Str×Value)} {m:Str->Option Value},(∀v,(x,v) ∉ binds)->bindL kindOf binds m x=m x
  | [],_,_=>rfl
  | (n,v)::r,m,h=>by
    unfold bindL
    rw[bindL_out fun w hw=>h w (List.mem_cons_of_mem _ hw)]
    split
    · have:x≠n:=by rintro rfl;exact h v List.mem_cons_self
      simp[this]
    · rfl
theorem bindC_out {kindOf:Str->Option NameKind} {x:Str}:∀{binds:List (Str×Value)} {m:Str->Option Value},(∀v,(x,v) ∉ binds)->bindC kindOf binds m x=m x
  | [],_,_=>rfl
  | (n,v)::r,m,h=>by
    unfold bindC
    rw[bindC_out fun w hw=>h w (List.mem_cons_of_mem _ hw)]
    split
    · rfl
    · have:x≠n:=by rintro rfl;exact h v List.mem_cons_self
      simp[this]
theorem bindL_get {kindOf:Str->Option NameKind} {x:Str} {v:Value}:∀{P:List Str} {vs:List Value} {i:Nat} {m:Str->Option Value},P.Nodup->P[i]? =some x->vs[i]? =some v->kindOf x=some .local->
    bindL kindOf (P.zip vs) m x=some v
  | [],_,_,_,_,h,_,_=>by simp at h
  | _::_,[],_,_,_,_,h,_=>by simp at h
  | p::P,w::vs,0,m,nd,h1,h2,hk=>by
    simp at h1 h2;subst h1;subst h2
    show bindL kindOf ((p,w)::P.zip vs) m p=_
    unfold bindL
    rw[bindL_out fun v hv=>(List.nodup_cons.mp nd).1 (List.of_mem_zip hv).1,if_pos hk]
    simp
  | p::P,w::vs,i+1,m,nd,h1,h2,hk=>by
    show bindL kindOf ((p,w)::P.zip vs) m x=_
    unfold bindL
    exact bindL_get (i:=i) (List.nodup_cons.mp nd).2 (by simpa using h1) (by simpa using h2) hk
theorem bindC_get {kindOf:Str->Option NameKind} {x:Str} {v:Value}:∀{P:List Str} {vs:List Value} {i:Nat} {m:Str->Option Value},P.Nodup->P[i]? =some x->vs[i]? =some v->kindOf x≠some .local->
    bindC kindOf (P.zip vs) m x=some v
  | [],_,_,_,_,h,_,_=>by simp at h
  | _::_,[],_,_,_,_,h,_=>by simp at h
  | p::P,w::vs,0,m,nd,h1,h2,hk=>by
    simp at h1 h2;subst h1;subst h2
    show bindC kindOf ((p,w)::P.zip vs) m p=_
    unfold bindC
    rw[bindC_out fun v hv=>(List.nodup_cons.mp nd).1 (List.of_mem_zip hv).1,if_neg hk]
    simp
  | p::P,w::vs,i+1,m,nd,h1,h2,hk=>by
    show bindC kindOf ((p,w)::P.zip vs) m x=_
    unfold bindC
    exact bindC_get (i:=i) (List.nodup_cons.mp nd).2 (by simpa using h1) (by simpa using h2) hk
def start (N:List Str) (vs:List V):St:=vs.map some++List.replicate (N.length - vs.length) none
def cxOf (CX:CXT) (P:Program) (w:World) (K:PySem.W.Frag) (mg:Str->Option Value) (base:Heap) (N:List Str) (qual:Str) (scope:Scope) (f:Addr) (cd:Value) (A:Around) (outer:List Env) (s:Shared) (H:Hp) (E:XK):Cx where
  prog:=P
  w:=w
  K:=K
  mg:=mg
  base:=base
  A:=A.deeper (envOfC qual scope s.heap.objs.size f cd)
  N:=N
  s_0:=s
  H_0:=H
  env:=envOfC qual scope s.heap.objs.size f cd
  outer:=outer
  stack:=envOfC qual scope s.heap.objs.size f cd::outer
  ex:=[]
  calm:=true
  fn:=fun _=>true
  pn:=[]
  xe:=fun e s'=>wpAny (model P w) (A.deeper (envOfC qual scope s.heap.objs.size f cd)) (leaving (envOfC qual scope s.heap.objs.size f cd) e) (fun _ s''=>CX outer H s E e s'') (fun e' s''=>CX outer H s E e' s'') s'
theorem cell_has {sc:Scope} {n:Nat} {x:Str} (h:sc.names.lookup x=some .cell):∃c,(cellsFrom n sc.names []).lookup x=some c:=by
  have q:=PySem.W.cellsFrom_some sc.names n [] (.inl h)
  exact Option.isSome_iff_exists.mp q
theorem inv_start {CX:CXT} {P:Program} {w:World} {K:PySem.W.Frag} {mg:Str->Option Value} {base:Heap} {N ps:List Str} {qual:Str} {scope:Scope} {f:Addr} {cd:Value} {A:Around} {outer:List Env} {s s1:Shared} {H:Hp} {E:XK} {us:List Value} {vs:List V}
    (S:FnScope N ps scope) (hd:A.handled=none) (e0:Env0 P w K mg base A outer s H) (hl:vs.length=ps.length) (r:Vals vs us)
    (x:InCallC s s.heap.objs.size (bindL (envOfC qual scope s.heap.objs.size f cd).kindOf (ps.zip us) fun _=>none) (cellsFrom (s.heap.objs.size+1) scope.names []) (bindC (envOfC qual scope s.heap.objs.size f cd).kindOf (ps.zip us) fun _=>none) s1):
    Inv (cxOf CX P w K mg base N qual scope f cd A outer s H E) [] (start N vs) H s1:=by
  have hpl:ps.length≤N.length:=by have:=congrArg List.length S.pre;rw[List.length_take]at this;omega
  obtain⟨h1,tk,rfl,hk⟩:=x.done
  have noA:∀b:Addr,b ∉ (cxOf CX P w K mg base N qual scope f cd A outer s H E).ex:=fun b z=>absurd (show b∈([]:List Addr)from z) (by simp)
  refine⟨⟨e0.mod,S.kind,rfl,rfl,Nat.le_refl _,fun y z c h1 h2=> ?_,fun y hy=> ?_,fun y c _ h=> ?_,fun _=>hd,Around.frames_deeper e0.frames,.inr ⟨rfl,rfl⟩,fun b z=>absurd z (noA b),e0.bs,e0.bsz,fun b _ _=>noA b,fun b z=>absurd z (noA b),e0.funs,e0.frf⟩,
    rfl,e0.bare,Un.kept hk,⟨_,x.toInCall.ns,fun i y v h1 h2 h3=> ?_⟩,fun y c h=>⟨_,x.cell y c h⟩,e0.hok.fresh (Nat.le_refl _),fun y c h=> ?_,fun p hp=>absurd (show p∈([]:List (Addr×Obj))from hp) (by simp),e0.hok.kept hk,?_⟩
  · exact name_of_addr x.apart (PySem.mem_of_lookup h1) (PySem.mem_of_lookup h2)
  · have hy:scope.names.lookup y=some .cell∨scope.names.lookup y=some .free:=hy
    rcases hy with hy | hy
    · exact cell_has hy
    · exact absurd rfl (S.nofree _ (PySem.mem_of_lookup hy))
  · exact Nat.le_of_lt (x.above y c (PySem.mem_of_lookup h))
  · have hi:i < vs.length:=by
      unfold start at h2
      by_cases hi:i < vs.length
      · exact hi
      · rw[List.getElem?_append_right (by simpa using hi)]at h2
        rw[List.getElem?_replicate]at h2
        split at h2 <;> cases h2
    have ha:vs[i]? =some v:=by
      unfold start at h2
      rw[List.getElem?_append_left (by simpa using hi),List.getElem?_map]at h2
      cases e:vs[i]? with
      | none=>rw[e]at h2;cases h2
      | some a=>rw[e]at h2;cases h2;rfl
    obtain⟨u,hu,rv⟩:=r.get ha
    have hp:ps[i]? =some y:=by
      rw[←S.pre,List.getElem?_take_of_lt (by omega)];exact h1
    have ndP:ps.Nodup:=by rw[←S.pre];exact S.nd.sublist (List.take_sublist _ _)
    refine⟨u,rv,?_⟩
    rcases S.par y (List.mem_of_getElem? hp)with k | k
    · exact .inl ⟨k,bindL_get ndP hp hu k⟩
    · obtain⟨c,e⟩:=cell_has (n:=s.heap.objs.size+1) k
      refine .inr ⟨.inl k,c,e,?_⟩
      have q:=x.cell y c e
      rw[bindC_get ndP hp hu (by show scope.names.lookup y≠_;rw[k];decide)]at q
      exact q
  · exact e0.hok.fresh (Nat.le_of_lt (x.above y c (PySem.mem_of_lookup h)))
  · unfold start
    show _=N.length
    rw[List.length_append,List.length_map,List.length_replicate]
    omega
theorem fn_of {CX:CXT} {P:Program} {w:World} {K:PySem.W.Frag} {mg:Str->Option Value} {base:Heap} {k:Nat} {f:Addr} {name qual:Str} {params:Arguments} {body:List Stmt} {scope:Scope} {dV kV doc pm cdv ct oc:Value} {an od:Option Addr}
    {osl:Array (Option Value)} {N ps:List Str} {sp:Sp} (lk:K.lookup f=some ⟨oc,od,.func (PySem.W.fnOf name qual params body scope dV kV doc pm an cdv ct),osl⟩) (hcd:PySem.W.codeIn K cdv qual=true) (S:FnScope N ps scope)
    (len:∀vs H Q E,sp vs H Q E->vs.length=ps.length)
    (hbody:∀(A:Around) (outer:List Env) (s:Shared) (H:Hp) (vs:List V) (Q:VK) (E:XK),Room k (A.deeper (envOfC qual scope s.heap.objs.size f cdv))->sp vs H Q E->
      ∃t,PSs (cxOf CX P w K mg base N qual scope f cdv A outer s H E) body t/\t {nx:=fun _ H'=>Q .non H',rt:=Q} (start N vs) H):
    FnOk P w K mg base CX (k+1) f (PySem.W.fnOf name qual params body scope dV kV doc pm an cdv ct) ps sp:=by
  refine⟨len,fun A outer s H args us vs Q E hr e0 hb r hsp=> ?_⟩
  have hl:=len _ _ _ _ hsp
  have KX:K.In s.heap:=e0.mod.kin.keeps fun b o e=>(e0.bs b o e).1
  have lim:s.heap.NoLimit:=e0.mod.nolimit.keeps fun b o e=>(e0.bs b o e).1
  have hkind:∀y∈ps.zip us,scope.names.lookup y.1=some .local∨(scope.names.lookup y.1=some .cell/\((cellsFrom (s.heap.objs.size+1) scope.names []).lookup y.1).isSome=true):=fun⟨n,v⟩ hy=>by
    rcases S.par n (List.of_mem_zip hy).1 with q | q
    · exact .inl q
    · exact .inr ⟨q,PySem.W.cellsFrom_some _ _ _ (.inl q)⟩
  refine codeAny_call_function hr.depth (KX _ _ lk) rfl S.co S.gen rfl (PySem.W.codeRec_of KX hcd) (hb _ _ _ _ ?_)
  refine wpAny_newFunctionEnv_cells S.kind hkind fun env he s1 x=> ?_
  subst he
  refine⟨lim.keeps x.toInCall.keep,codeAny_func ?_⟩
  obtain⟨t,ht,hq⟩:=hbody A outer s H vs Q E (hr.deeper _) hsp
  have I:Inv (cxOf CX P w K mg base N qual scope f cdv A outer s H E) [] (start N vs) H s1:=inv_start S hr.hd e0 hl r x
  refine wpAny_mono (ht [] s1 (start N vs) H _ I hq) (fun fl s' hs=> ?_) fun e s' hs=>hs
  have fin:∀{σ':St} {H':Hp} {v:V} {u:Value},Inv (cxOf CX P w K mg base N qual scope f cdv A outer s H E) [] σ' H' s'->RelV v u->Q v H'->CE outer P w H s Q u s':=
    fun{σ' H' v u} J rv q=>⟨v,H',J.os,J.bare,J.base,J.hok,rv,q⟩
  cases fl with
  | ret u=>
    obtain⟨v,σ',H',J,rv,q⟩:=hs
    exact fin J rv q
  | next=>
    obtain⟨σ',H',J,q⟩:=hs
    exact fin (v:=V.non) (u:=Value.none) J rfl q
  | brk=>
    obtain⟨_,_,_,q⟩:=hs
    exact False.elim q
  | cont=>
    obtain⟨_,_,_,q⟩:=hs
    exact False.elim q
end L2
namespace L2
open PySem PySem.Spec PyProof.Rows
section
variable {X:Cx} {x:Str} {p pos:Pos} {e:Expr} {es:List Expr} {t:TA} {id T:String} {r:List V->Hp->VK->Prop}
def tCB (r:List V->Hp->VK->Prop) (t:TA):TE:=fun σ H Q=>t σ H fun vs H1=>r vs H1 Q
theorem pe_callB (hc:CallR X (.builtin id) r) (hg:Gl X x) (hm:X.mg x=none) (hv:bootBuiltins x=some (.builtin id)) (ha:PA X (e::es) t) (hn:x≠"__name__":=by decide) (hdb:(x == ("__debug__":Str))=false:=by decide)
    (he:starEach (e::es) X.env=(false,eval e X.env)::starEach es X.env:=by rfl) (hpl:(backTo pos (starEach es X.env)).any (·.1)=false:=by rfl):PE X (.Call (.Name x p) (e::es) [] pos) (tCB r t):=by
  intro pins s σ H Q I h
  refine wpAny_Call_Name_kw (ld_blt I hg hm hv ?_ hn hdb)
  exact PyProof.Rows.callWith_builtin1 (thn (ha pos pins s σ H _ I h) fun us s1 ⟨vs,H1,I1,r1,q1⟩=>hc pins s1 σ H1 vs us Q I1 r1 q1) he hpl
theorem pe_callTy (hc:CallR X (.type T) r) (hg:Gl X x) (hm:X.mg x=none) (hv:bootBuiltins x=some (.type T)) (ha:PA X (e::es) t) (hn:x≠"__name__":=by decide) (hdb:(x == ("__debug__":Str))=false:=by decide)
    (he:starEach (e::es) X.env=(false,eval e X.env)::starEach es X.env:=by rfl) (hpl:(backTo pos (starEach es X.env)).any (·.1)=false:=by rfl):PE X (.Call (.Name x p) (e::es) [] pos) (tCB r t):=by
  intro pins s σ H Q I h
  refine wpAny_Call_Name_kw (ld_blt I hg hm hv ?_ hn hdb)
  exact PyProof.Rows.callWith_type1 (thn (ha pos pins s σ H _ I h) fun us s1 ⟨vs,H1,I1,r1,q1⟩=>hc pins s1 σ H1 vs us Q I1 r1 q1) he hpl
end
end L2
namespace HT
open PySem PyProof.Rows
def lexLt:List Int->List Int->Bool
  | [],[]=>false
  | [],_::_=>true
  | _::_,[]=>false
  | x::xs,y::ys=>if x=y then lexLt xs ys else decide (x < y)
theorem lexLt_cons (x y:Int) (xs ys:List Int):lexLt (x::xs) (y::ys)=if x=y then lexLt xs ys else decide (x < y):=rfl
theorem lexLt_nil_nil:lexLt [] []=false:=rfl
theorem lexLt_nil_cons (y:Int) (ys:List Int):lexLt [] (y::ys)=true:=rfl
theorem lexLt_cons_nil (x:Int) (xs:List Int):lexLt (x::xs) []=false:=rfl
theorem eqAt_int (A:Around) (s:Shared) (a:Int) (t:Tok) (c:Int) (u:Tok):∃e,SeqAt.EqAt A s (.int a t) (.int c u) e/\(e=true↔a=c):=
  ⟨(a == c),SeqAt.EqAt.int_int a t c u,by simp⟩
theorem rcLt_int (A:Around) (s:Shared) (a:Int) (t:Tok) (c:Int) (u:Tok) (prog:Program) (w:World) (E:Value->Shared->Prop) (Q:Value->Shared->Prop) (h:Q (.bool (decide (a < c))) s):
    wpAny (model prog w) A (richCompare .Lt (.int a t) (.int c u)) Q E s:=
  (PyProof.Rows.lt_int h:wpAny (model prog w) A (compareOp .Lt (.int a t) (.int c u)) Q E s)
section
open PySem.SeqAt
open PySem.AutoSeq1 (wpAny_loadPart')
open PySem.MeetsSeq PySem.MeetsSeq2 PySem.MeetsSeq3
theorem tuple_lt_ints (l b:Addr) (items items2:Array Value) (n n2:Nat) (dd dd2:Option Addr) (sl sl2:Array (Option Value)) (ns ms:List Int) (hi:IntsAre items.toList ns) (hj:IntsAre items2.toList ms):
    Meets (Builtin.«tuple.__lt__» ⟨[.ref l,.ref b],[]⟩)
      (fun _ R s=>s.heap.get? l=some {cls:= .type "tuple",dict:=dd,data:= .seq items n,slots:=sl}/\s.heap.get? b=some {cls:= .type "tuple",dict:=dd2,data:= .seq items2 n2,slots:=sl2}/\
        R (.ok (.ret (.bool (lexLt ns ms)))) s):=
  .of_wp fun prog w A R s h=>by
    obtain⟨hp,g,d,tk,os⟩:=s;obtain⟨hl,hb,h⟩:=h
    have f2:=AutoSeq1.sub_tuple_tuple
    have z1:items.size=ns.length:=by rw[←hi.length];simp
    have z2:items2.size=ms.length:=by rw[←hj.length];simp
    wp_walk using wpAny_loadPart' hl,wpAny_loadPart' hb,wpAny_forIn_list _ (fun rest b s'=>b.1=none/\s'=⟨hp,g,d,tk,os⟩/\∃(vs ws:List Value) (ns' ms':List Int),rest=vs.zip ws/\
      IntsAre vs ns'/\IntsAre ws ms'/\ns'.length+items2.size=ms'.length+items.size/\R (.ok (.ret (.bool (lexLt ns' ms')))) ⟨hp,g,d,tk,os⟩) _
    case turn=>
      rintro⟨y,x⟩ rest b s' ⟨hb',rfl,vs,ws,ns',ms',hz,hvi,hwi,hlen,hR⟩
      cases hvi with
      | nil=>rw[List.zip_nil_left]at hz;cases hz
      | cons a t hvi'=>
        cases hwi with
        | nil=>rw[List.zip_nil_right]at hz;cases hz
        | cons c u hwi'=>
          rw[List.zip_cons_cons]at hz
          injection hz with hyx hrest
          injection hyx with hy hx
          subst hy hx
          rw[lexLt_cons]at hR
          simp only[List.length_cons]at hlen
          obtain⟨e,he,hiff⟩:=eqAt_int A.in1 ⟨hp,g,d,tk,os⟩ a t c u
          refine wpAny_bind (he prog w _ _ ?_)
          cases e with
          | true=>
            rw[if_pos (hiff.mp rfl)]at hR
            wp_walk
            exact⟨rfl,rfl,_,_,_,_,hrest,hvi',hwi',by omega,hR⟩
          | false=>
            rw[if_neg (fun q=>absurd (hiff.mpr q) Bool.false_ne_true)]at hR
            have hri:=rcLt_int A.in1 ⟨hp,g,d,tk,os⟩ a t c u prog w
            wp_walk using hri
            exact⟨_,rfl,by simpa using hR⟩
    case fin=>
      rintro⟨b1,b2⟩ s' ⟨hb',rfl,vs,ws,ns',ms',hz,hvi,hwi,hlen,hR⟩
      simp only at hb'
      subst hb'
      have hv:lexLt ns' ms'=decide (items.size < items2.size):=by
        cases hvi with
        | nil=>
          cases hwi with
          | nil=>
            simp only[List.length_nil]at hlen
            rw[lexLt_nil_nil]
            exact(decide_eq_false (by omega)).symm
          | cons c u hw=>
            simp only[List.length_nil,List.length_cons]at hlen
            rw[lexLt_nil_cons]
            exact(decide_eq_true (by omega)).symm
        | cons a t hv=>
          cases hwi with
          | nil=>
            simp only[List.length_nil,List.length_cons]at hlen
            rw[lexLt_cons_nil]
            exact(decide_eq_false (by omega)).symm
          | cons c u hw=>
            rw[List.zip_cons_cons]at hz
            cases hz
      rw[hv]at hR
      wp_walk
      exact⟨_,rfl,by simpa [Builtin.Tuple.tupleCompareSizes] using hR⟩
    case h=>
      exact⟨rfl,rfl,items.toList,items2.toList,ns,ms,rfl,hi,hj,by omega,h⟩
end
section
variable {prog:Program} {w:World} {A:Around} {E:Value->Shared->Prop} {s:Shared}
theorem lt_tupInts {l b:Addr} {items items2:Array Value} {ns ms:List Int} {Q:Value->Shared->Prop} (hl:IsTup s.heap l items) (hb:IsTup s.heap b items2) (hi:IntsAre items.toList ns) (hj:IntsAre items2.toList ms)
    (hu:A.units < cLine) (h:Q (.bool (lexLt ns ms)) s):wpAny (model prog w) A (compareOp .Lt (.ref l) (.ref b)) Q E s:=by
  obtain⟨⟨cls,dd,data,sl⟩,ho,hc,n,hd⟩:=id hl
  obtain⟨⟨cls2,dd2,data2,sl2⟩,ho2,hc2,n2,hd2⟩:=id hb
  simp only at hc hd hc2 hd2
  subst hc hd hc2 hd2
  exact richCompare_meets_room (op:= .Lt) ⟨_,ho,rfl⟩ ⟨_,ho2,rfl⟩ PySem.F.slot_tuple_lt PySem.F.entry_tuple_lt (PySem.F.args_tuple_lt_2 _ _) (tuple_lt_ints l b items items2 n n2 dd dd2 sl sl2 ns ms hi hj)
    ⟨ho,ho2,show Value.bool (lexLt ns ms)≠Value.notImplemented/\Q (.bool (lexLt ns ms)) s from⟨(fun x=>nomatch x),h⟩⟩ hu
theorem cat_tup {t b:Addr} {vs ws:List Value} {Q:Value->Shared->Prop} (ht:IsTup s.heap t vs.toArray) (hb:IsTup s.heap b ws.toArray) (hv:vs≠[])
    (h1:ws=[]->Q (.ref t) s) (h2:ws≠[]->Q (.ref s.heap.objs.size) {s with heap:=s.heap.push {cls:= .type "tuple",data:= .seq (vs++ws).toArray}})
    (hsz:vs.length+ws.length≤sizeLine):wpAny (model prog w) A (binaryOp .Add (.ref t) (.ref b)) Q E s:=by
  obtain⟨⟨cls,dd,data,sl⟩,ho,hc,n,hd⟩:=id ht
  obtain⟨⟨cls2,dd2,data2,sl2⟩,ho2,hc2,n2,hd2⟩:=id hb
  simp only at hc hd hc2 hd2
  subst hc hd hc2 hd2
  have e:vs.toArray++ws.toArray=(vs++ws).toArray:=by simp
  by_cases hw:ws=[]
  · exact concat_meets ⟨_,ho,rfl⟩ ⟨_,ho2,rfl⟩ noFill_tuple_add seq_tuple_add PySem.F.slot_tuple_add PySem.F.entry_tuple_add (PySem.F.args_tuple_add_2 _ _)
      (tuple_addW1 t b vs.toArray ws.toArray n n2 dd dd2 sl sl2 (by simpa using hv) (by simp[hw])) ⟨ho,ho2,h1 hw⟩
  · refine concat_meets ⟨_,ho,rfl⟩ ⟨_,ho2,rfl⟩ noFill_tuple_add seq_tuple_add PySem.F.slot_tuple_add PySem.F.entry_tuple_add (PySem.F.args_tuple_add_2 _ _)
      (tuple_addW2 t b vs.toArray ws.toArray n n2 dd dd2 sl sl2 (by simpa using hv) (by simpa using hw) (by rw[List.size_toArray,List.size_toArray];exact hsz)) ⟨ho,ho2,?_⟩
    rw[e]
    exact h2 hw
def sIx (n d:Nat):Option Int->Nat
  | none=>d
  | some v=>if v < 0 then(v+(n:Int)).toNat else min v.toNat n
theorem sIx_none (n d:Nat):sIx n d none=d:=rfl
theorem sIx_nat (n d k:Nat):sIx n d (some (k:Int))=min k n:=by
  show(if (k:Int) < 0 then((k:Int)+(n:Int)).toNat else min (k:Int).toNat n)=min k n
  rw[if_neg (by omega),Int.toNat_natCast]
theorem sIx_le (n d:Nat) (hd:d≤n) (o:Option Int):sIx n d o≤n:=by
  cases o with
  | none=>exact hd
  | some v=>
    show(if v < 0 then(v+(n:Int)).toNat else min v.toNat n)≤n
    by_cases hv:v < 0
    · rw[if_pos hv];omega
    · rw[if_neg hv];exact Nat.min_le_right _ _
theorem clip_eq (v:Int) (n d:Nat):(if v < 0 then max (v+(n:Int)) 0 else min v (n:Int))=((sIx n d (some v):Nat):Int):=by
  show(if v < 0 then max (v+(n:Int)) 0 else min v (n:Int))=(((if v < 0 then(v+(n:Int)).toNat else min v.toNat n):Nat):Int)
  by_cases hv:v < 0
  · simp only[if_pos hv];omega
  · simp only[if_neg hv];omega
theorem adjust_gen (lo hi:Option Int) (n:Nat):Builtin.Slice.sliceAdjust lo hi 1 (n:Int)=(((sIx n 0 lo:Nat):Int),((sIx n n hi:Nat):Int)):=by
  have h1:¬((1:Int) < 0):=by omega
  unfold Builtin.Slice.sliceAdjust
  simp only[h1,if_false]
  refine Prod.ext ?_ ?_
  · cases lo with
    | none=>rfl
    | some v=>exact clip_eq v n 0
  · cases hi with
    | none=>rfl
    | some v=>exact clip_eq v n n
theorem places_gen (i j:Nat):Builtin.Slice.slicePlaces (i:Int) (j:Int) 1=j - i:=by
  unfold Builtin.Slice.slicePlaces
  have h1:(1:Int) > 0:=by omega
  simp only[h1,if_true,Int.ediv_one]
  split <;> omega
theorem slicePart_ {v:Value} {o:Option Int} {Q:Option Int->Shared->Prop} (p:IsPart v o) (h:Q o s):wpAny (model prog w) A (Builtin.Slice.slicePartIndex v) Q E s:=by
  cases p with
  | none=>exact slicePart_none h
  | int i t=>exact slicePart_int h
theorem sliceApplied_gen {sl:Addr} {vl vu:Value} {lo hi:Option Int} {n:Nat} {Q:Int×Int×Nat->Shared->Prop} (hs:s.heap.IsSliceOf sl vl vu .none) (pl:IsPart vl lo) (pu:IsPart vu hi)
    (h:Q (((sIx n 0 lo:Nat):Int),1,sIx n n hi - sIx n 0 lo) s):wpAny (model prog w) A (Builtin.Slice.sliceApplied (.ref sl) (pure (n:Int))) Q E s:=by
  obtain⟨os,hos,hcs,hds⟩:=id hs
  unfold Builtin.Slice.sliceApplied Builtin.Slice.sliceFields
  refine wpAny_bind (wpAny_bind (wpAny_field hos hds (x:=vl) rfl (wpAny_bind (wpAny_field hos hds (x:=vu) rfl (wpAny_bind (wpAny_field hos hds (x:= .none) rfl (wpAny_pure ?_)))))))
  refine wpAny_bind (slicePart_none ?_)
  show wpAny _ _ (if ((1:Int) == 0)=true then _ else _) _ _ s
  rw[if_neg (by decide)]
  refine wpAny_bind (slicePart_ pl (wpAny_bind (slicePart_ pu (wpAny_bind (wpAny_pure ?_)))))
  show wpAny _ _ (match Builtin.Slice.sliceAdjust lo hi 1 (n:Int)with | (lo,hi)=>pure (lo,(1:Int),Builtin.Slice.slicePlaces lo hi 1)) _ _ s
  rw[adjust_gen lo hi n]
  show wpAny _ _ (pure (((sIx n 0 lo:Nat):Int),(1:Int),Builtin.Slice.slicePlaces ((sIx n 0 lo:Nat):Int) ((sIx n n hi:Nat):Int) 1)) _ _ s
  rw[places_gen]
  exact wpAny_pure h
theorem pick_gen (xs:Array Value) (i k:Nat):((List.range k).filterMap fun(m:Nat)=>xs[((i:Int)+(m:Int) * 1).toNat]?).toArray=((xs.toList.drop i).take k).toArray:=by
  have e:(fun(m:Nat)=>xs[((i:Int)+(m:Int) * 1).toNat]?)=fun m=>xs[i+m]? :=by
    funext m
    have:((i:Int)+(m:Int) * 1).toNat=i+m:=by omega
    rw[this]
  rw[e]
  have:=pick_run xs i k
  rw[List.filterMap_map]at this
  have e2:((fun x=>xs[x]?) ∘ fun x=>i+x)=fun m=>xs[i+m]? :=rfl
  rw[e2]at this
  rw[this]
theorem getItem_tuple_cut {t sl:Addr} {items:Array Value} {vl vu:Value} {lo hi:Option Int} {Q:Value->Shared->Prop} (ht:IsTup s.heap t items) (hs:s.heap.IsSliceOf sl vl vu .none) (pl:IsPart vl lo) (pu:IsPart vu hi)
    (hw:¬(sIx items.size 0 lo=0/\sIx items.size items.size hi=items.size))
    (h:Q (.ref s.heap.objs.size) {s with heap:=s.heap.push {cls:= .type "tuple",data:= .seq ((items.toList.drop (sIx items.size 0 lo)).take (sIx items.size items.size hi - sIx items.size 0 lo)).toArray}})
    (hsz:items.size≤sizeLine):wpAny (model prog w) A (getItem (.ref t) (.ref sl)) Q E s:=by
  have htake:sizeOk (.seq ((items.toList.drop (sIx items.size 0 lo)).take (sIx items.size items.size hi - sIx items.size 0 lo)).toArray):=by
    show((items.toList.drop (sIx items.size 0 lo)).take (sIx items.size items.size hi - sIx items.size 0 lo)).toArray.size≤sizeLine
    rw[List.size_toArray,List.length_take,List.length_drop,Array.length_toList]
    omega
  have hj:sIx items.size items.size hi≤items.size:=sIx_le _ _ (Nat.le_refl _) hi
  obtain⟨os,hos,hcs,hds⟩:=id hs
  have hTs:s.TypeIs (.ref sl) "slice":=⟨os,hos,hcs⟩
  unfold getItem
  try with_reducible refine wpAny_holding ?_
  first | refine wpAny_bind (wpAny_pure ?_) | skip
  refine wpAny_bind (wpAny_sequenceKey ht.typeIs (by decide) ?_)
  refine wpAny_bind (wpAny_callSpecial?_slot (name:=Str.ofString "__getitem__") ht.typeIs PyProof.Rows.slot_tuple_getitem
    (wpAny_call_entry PyProof.Rows.slot_tuple_getitem ht.typeIs entry_tuple_getitem ?_ (args_tuple_getitem _ _)))
  show wpAny _ _ (Builtin.Tuple.tupleItemsOf (.ref t) >>= _) _ _ s
  refine wpAny_bind (tupleItemsOf_ ht ?_)
  refine wpAny_bind (wpAny_typeOf hTs ?_)
  rw[if_pos (by decide)]
  refine wpAny_bind (sliceApplied_gen hs pl pu ?_)
  have hno:¬((((sIx items.size 0 lo:Nat):Int) == 0 && (1:Int) == 1 && (sIx items.size items.size hi - sIx items.size 0 lo) == items.size)=true):=by
    intro q
    rw[Bool.and_eq_true,Bool.and_eq_true]at q
    have q1:((sIx items.size 0 lo:Nat):Int)=0:=eq_of_beq q.1.1
    have q2:sIx items.size items.size hi - sIx items.size 0 lo=items.size:=eq_of_beq q.2
    exact hw ⟨by omega,by omega⟩
  show wpAny _ _ (if (((sIx items.size 0 lo:Nat):Int) == 0 && (1:Int) == 1 && (sIx items.size items.size hi - sIx items.size 0 lo) == items.size)=true then _ else _) _ _ s
  rw[if_neg hno,pick_gen]
  first
    | exact wpAny_bind (m:=Builtin.Tuple.tupleExact _) (wpAny_newObj_type (wpAny_pure ⟨_,rfl,wpAny_pure h⟩) htake)
    | exact wpAny_bind (m:=Builtin.Tuple.tupleExact _) (wpAny_newObj_type (wpAny_bind (wpAny_pure (wpAny_pure ⟨_,rfl,wpAny_pure h⟩))) htake)
    | exact wpAny_bind (wpAny_bind (m:=Builtin.Tuple.tupleExact _) (wpAny_newObj_type (wpAny_pure (wpAny_pure ⟨_,rfl,wpAny_pure h⟩)) htake))
    | exact wpAny_bind (wpAny_bind (m:=Builtin.Tuple.tupleExact _) (wpAny_newObj_type (wpAny_pure ⟨_,rfl,wpAny_pure h⟩) htake))
end
end HT
namespace L2
open PySem PySem.Spec PyProof.Rows
abbrev TO:=St->Hp->(Option Int->Hp->Prop)->Prop
def PO (X:Cx) (e:Option Expr) (t:TO):Prop:=
  ∀(pins:List (Addr×Obj)) (s:Shared) (σ:St) (H:Hp) (Q:Option Int->Hp->Prop),Inv X pins σ H s->t σ H Q->
    wpAny (model X.prog X.w) X.A (evalPart e X.env) (fun u s'=>∃o H',Inv X pins σ H' s'/\IsPart u o/\Q o H') X.xe s
def tNoPart:TO:=fun _ H Q=>Q none H
inductive partI (Q:Option Int->Hp->Prop) (x:V) (H:Hp):Prop
  | mk (i:Int) (h:x= .int i) (q:Q (some i) H):partI Q x H
def tPart (t:TE):TO:=fun σ H Q=>t σ H (partI Q)
theorem intsAre_of {ns:List Int}:∀{us:List Value},Vals (ns.map V.int) us->IntsAre us ns:=by
  induction ns with
  | nil=>intro us r;rw[List.map_nil]at r;cases r;exact .nil
  | cons n ns ih=>
    intro us r
    rw[List.map_cons]at r
    cases r with
    | cons r1 r2=>
      obtain⟨t,e⟩:=r1
      subst e
      exact .cons n t (ih r2)
section
variable {X:Cx} {e:Expr} {te:TE} {lo hi:Option Expr} {tl th:TO} {pos p2:Pos}
theorem po_none:PO X none tNoPart:=by
  intro pins s σ H Q I h
  rw[evalPart_none]
  exact wpAny_pure ⟨none,H,I,.none,h⟩
theorem po_some (h:PE X e te):PO X (some e) (tPart te):=by
  intro pins s σ H Q I hw
  rw[evalPart_some]
  refine thn (h pins s σ H _ I hw) fun u s1 ⟨x,H1,I1,r1,q1⟩=> ?_
  obtain⟨i,rfl,q⟩:=q1
  obtain⟨t,rfl⟩:=r1
  exact⟨some i,H1,I1,.int i t,q⟩
def SlR (X:Cx) (r:V->Option Int->Option Int->Hp->VK->Prop):Prop:=
  ∀(pins:List (Addr×Obj)) (s:Shared) (σ:St) (H:Hp) (x:V) (v vl vu:Value) (lo hi:Option Int) (sl:Addr) (Q:VK),Inv X pins σ H s->RelV x v->s.heap.IsSliceOf sl vl vu .none->IsPart vl lo->IsPart vu hi->r x lo hi H Q->
    ∃T id,typeLookup (.type T) "__getitem__"=pure (some (.builtin id))/\s.TypeIs v T/\wpAny (model X.prog X.w) X.A (getItem v (.ref sl)) (EP X pins σ Q) X.xe s
def tSl (r:V->Option Int->Option Int->Hp->VK->Prop) (te:TE) (tl th:TO):TE:=fun σ H Q=>te σ H fun x H1=>tl σ H1 fun l H2=>th σ H2 fun u H3=>r x l u H3 Q
theorem pe_slice {r:V->Option Int->Option Int->Hp->VK->Prop} (hr:SlR X r) (he:PE X e te) (hl:PO X lo tl) (hu:PO X hi th):PE X (.Subscript e (.Slice lo hi none p2) pos) (tSl r te tl th):=by
  intro pins s σ H Q I h
  refine Subscript_ (thn (he pins s σ H _ I h) fun v s1 ⟨x,H1,I1,r1,q1⟩=> ?_)
  refine wpAny_Slice (thn (hl pins s1 σ H1 _ I1 q1) fun vl s2 ⟨l,H2,I2,pl,q2⟩=>thn (hu pins s2 σ H2 _ I2 q2) fun vu s3 ⟨u,H3,I3,pu,q3⟩=> ?_)
  rw[evalPart_none]
  refine wpAny_pure ?_
  have I4:Inv X pins σ H3 {s3 with heap:=s3.heap.push {cls:= .type "slice",data:= .fields #[vl,vu,.none]}}:=I3.kept (t':=s3.toks) fun b ob q=>Heap.get?_push_of_some _ q
  obtain⟨T,id,hT,ht,hg⟩:=hr pins {s3 with heap:=s3.heap.push {cls:= .type "slice",data:= .fields #[vl,vu,.none]}} σ H3 x v vl vu l u s3.heap.objs.size Q I4 r1 (Heap.IsSliceOf.new ..) pl pu q3
  show wpAny (model X.prog X.w) X.A (subscriptTail e (.Slice lo hi none p2) v (.ref s3.heap.objs.size)) (EP X pins σ Q) X.xe {s3 with heap:=s3.heap.push {cls:= .type "slice",data:= .fields #[vl,vu,.none]}}
  exact tail_any (ops:=[.ref s3.heap.objs.size,v]) ht hT hg (by with_unfolding_all rfl)
def cutV (xs:List V) (lo hi:Option Int):List V:=(xs.drop (HT.sIx xs.length 0 lo)).take (HT.sIx xs.length xs.length hi - HT.sIx xs.length 0 lo)
theorem cutV_length (xs:List V) (lo hi:Option Int):(cutV xs lo hi).length≤xs.length:=by
  unfold cutV
  rw[List.length_take,List.length_drop]
  omega
def rSlT (K:PySem.W.Frag):V->Option Int->Option Int->Hp->VK->Prop:=fun x lo hi H Q=>∃a xs,x= .ref a/\SqT K H a xs/\
  ¬(HT.sIx xs.length 0 lo=0/\HT.sIx xs.length xs.length hi=xs.length)/\∀p,H p=none->Q (.ref p) (upd H p (.tup (cutV xs lo hi)))
theorem sl_tup:SlR X (rSlT X.K):=by
  intro pins s σ H x v vl vu lo hi sl Q I rx hs pl pu h
  obtain⟨a,xs,rfl,hx,hw,q⟩:=h
  cases rx
  obtain⟨its,r,ht,hz⟩:=I.tuple hx
  have hlen:its.toArray.size=xs.length:=by rw[List.size_toArray];exact r.length.symm
  refine⟨"tuple",_,PyProof.Rows.slot_tuple_getitem.lookup,ht.typeIs,?_⟩
  refine HT.getItem_tuple_cut ht hs pl pu (by rw[hlen];exact hw) ?_ (by rw[hlen];exact hz)
  rw[hlen]
  refine⟨.ref s.heap.objs.size,_,I.laid (t':=s.toks) (o:= .tup (cutV xs lo hi)) (fun b ob q=>Heap.get?_push_of_some _ q) (Nat.le_refl _) ?_,rfl,q _ (I.hok.fresh (Nat.le_refl _))⟩
  exact⟨Nat.le_trans (cutV_length xs lo hi) hz,_,(r.drop (HT.sIx xs.length 0 lo)).take (HT.sIx xs.length xs.length hi - HT.sIx xs.length 0 lo),IsTup.new _ _⟩
def rCatT (K:PySem.W.Frag):R2:=fun x y H Q=>∃a b xs ys,x= .ref a/\y= .ref b/\SqT K H a xs/\SqT K H b ys/\xs≠[]/\xs.length+ys.length≤sizeLine/\
  (ys=[]->Q (.ref a) H)/\(ys≠[]->∀p,H p=none->Q (.ref p) (upd H p (.tup (xs++ys))))
theorem Vals.nil_iff {xs:List V} {us:List Value} (r:Vals xs us):us=[]↔xs=[]:=by
  cases r with
  | nil=>simp
  | cons _ _=>simp
theorem op_catT:OpR X (binaryOp .Add) (rCatT X.K):=by
  intro pins s σ H x y v u Q I rx ry h
  obtain⟨a,b,xs,ys,rfl,rfl,ha,hb,hx,hz,q1,q2⟩:=h
  cases rx
  cases ry
  obtain⟨its,r1,p1,_⟩:=I.tuple ha
  obtain⟨its2,r2,p2,_⟩:=I.tuple hb
  refine HT.cat_tup p1 p2 (fun z=>hx (r1.nil_iff.mp z)) (fun z=>⟨.ref a,H,I,rfl,q1 (r2.nil_iff.mp z)⟩) (fun z=> ?_) (by rw[←r1.length,←r2.length];exact hz)
  refine⟨.ref s.heap.objs.size,_,I.laid (t':=s.toks) (o:= .tup (xs++ys)) (fun b ob q=>Heap.get?_push_of_some _ q) (Nat.le_refl _) ?_,rfl,q2 (fun w=>z (r2.nil_iff.mpr w)) _ (I.hok.fresh (Nat.le_refl _))⟩
  exact⟨by rw[List.length_append];exact hz,_,r1.append r2,IsTup.new _ _⟩
end
end L2
namespace L2
open PySem PySem.Spec PyProof.Rows
def ixN (n:Nat) (i:Int):Option Nat:=if 0≤i then(if i < n then some i.toNat else none)else if -(n:Int)≤i then some (i+n).toNat else none
def atI {α:Type} (xs:List α) (i:Int):Option α:=(ixN xs.length i).bind fun j=>xs[j]?
theorem ixN_seq {n:Nat} {i:Int} {j:Nat} (h:ixN n i=some j):seqIndex? i n=some j/\j < n/\ -(n:Int)≤i/\i < n:=by
  unfold ixN at h
  by_cases h0:0≤i
  · rw[if_pos h0]at h
    by_cases h1:i < n
    · rw[if_pos h1]at h
      have e:i.toNat=j:=Option.some.inj h
      exact⟨by rw[seqIndex_of h0 h1,e],by omega,by omega,h1⟩
    · rw[if_neg h1]at h;cases h
  · rw[if_neg h0]at h
    by_cases h1: -(n:Int)≤i
    · rw[if_pos h1]at h
      have e:(i+n).toNat=j:=Option.some.inj h
      exact⟨by rw[seqIndex_neg (by omega) h1,e],by omega,h1,by omega⟩
    · rw[if_neg h1]at h;cases h
theorem atI_get {α:Type} {xs:List α} {i:Int} {v:α} (h:atI xs i=some v):∃j,seqIndex? i xs.length=some j/\xs[j]? =some v/\j < xs.length/\ -(xs.length:Int)≤i/\i < xs.length:=by
  unfold atI at h
  cases e:ixN xs.length i with
  | none=>rw[e]at h;cases h
  | some j=>
    rw[e]at h
    obtain⟨h1,h2,h3,h4⟩:=ixN_seq e
    exact⟨j,h1,h,h2,h3,h4⟩
theorem atI_nat {α:Type} {xs:List α} {j:Nat} {v:α} (h:xs[j]? =some v):atI xs (j:Int)=some v:=by
  have hj:j < xs.length:=(List.getElem?_eq_some_iff.mp h).1
  have e:ixN xs.length (j:Int)=some j:=by
    unfold ixN
    rw[if_pos (by omega),if_pos (by omega)];simp
  unfold atI;rw[e];exact h
def PlainIx (b:Expr):Prop:=∀o i,subscripted b false o i=operate [o,i] (getItem o i)
def IxR (X:Cx) (r:R2):Prop:=
  ∀(value slice:Expr) (pins:List (Addr×Obj)) (s:Shared) (σ:St) (H:Hp) (x y:V) (v u:Value) (Q:VK),Inv X pins σ H s->RelV x v->RelV y u->r x y H Q->
    subscripted slice false v u=operate [v,u] (getItem v u)->wpAny (model X.prog X.w) X.A (subscriptTail value slice v u) (EP X pins σ Q) X.xe s
def MtR (X:Cx) (id:String) (r:V->List V->Hp->VK->Prop):Prop:=
  ∀(pins:List (Addr×Obj)) (s:Shared) (σ:St) (H:Hp) (x:V) (xs:List V) (v:Value) (us:List Value) (Q:VK),Inv X pins σ H s->RelV x v->Vals xs us->r x xs H Q->
    wpAny (model X.prog X.w) X.A (call (.builtin id) (v::us)) (EP X pins σ Q) X.xe s
section
variable {X:Cx} {a b:Expr} {ta tb:TE} {pos:Pos}
theorem pe_ix {r:R2} (hr:IxR X r) (ha:PE X a ta) (hb:PE X b tb) (hs:PlainIx b):PE X (.Subscript a b pos) (tOp r ta tb):=by
  intro pins s σ H Q I h
  exact Subscript_ (binT ha hb I h fun v u s2 x y H2 I2 rx ry q=>hr a b pins s2 σ H2 x y v u Q I2 rx ry q (hs _ _))
inductive rIxL (K:PySem.W.Frag) (x y:V) (H:Hp) (Q:VK):Prop
  | mk (p:Addr) (xs:List V) (i:Int) (v:V) (h1:x= .ref p) (h2:y= .int i) (h3:SqL K H p xs) (h4:atI xs i=some v) (q:Q v H):rIxL K x y H Q
inductive rIxT (K:PySem.W.Frag) (x y:V) (H:Hp) (Q:VK):Prop
  | mk (p:Addr) (xs:List V) (i:Int) (v:V) (h1:x= .ref p) (h2:y= .int i) (h3:SqT K H p xs) (h4:atI xs i=some v) (q:Q v H):rIxT K x y H Q
theorem ix_list:IxR X (rIxL X.K):=by
  intro value slice pins s σ H x y v u Q I rx ry h hs
  obtain⟨p,xs,i,z,rfl,rfl,hq,he,q⟩:=h
  cases rx
  obtain⟨t,rfl⟩:=ry
  obtain⟨its,r,pl,hz⟩:=I.list hq
  obtain⟨j,h1,h2,h3,h4,h5⟩:=atI_get he
  obtain⟨w,ew,rw'⟩:=r.get h2
  have hl:=r.length
  have hn:=line63
  have fin:EP X pins σ Q w s:=⟨z,H,I,rw',q⟩
  by_cases h0:0≤i
  · have hj:i.toNat=j:=by
      rw[seqIndex_of h0 h5]at h1
      exact Option.some.inj h1
    exact item_listR pl.isList h0 (by omega) (by rw[hj];simpa using ew) fin hs
  · have hj:(i+(its.toArray.size:Int)).toNat=j:=by
      rw[seqIndex_neg (by omega) h4]at h1
      rw[List.size_toArray,←hl]
      exact Option.some.inj h1
    exact subscriptTail_builtinR (x:=w) pl.isList.typeIs slot_list_getitem.lookup
      (wpAny_getItem_list_neg (Q:=fun r s'=>r=w/\EP X pins σ Q r s') pl.isList (by omega) (by rw[List.size_toArray] <;> omega) (by omega) (by rw[hj];simpa using ew) ⟨rfl,fin⟩) hs
theorem ix_tup:IxR X (rIxT X.K):=by
  intro value slice pins s σ H x y v u Q I rx ry h hs
  obtain⟨p,xs,i,z,rfl,rfl,hq,he,q⟩:=h
  cases rx
  obtain⟨t,rfl⟩:=ry
  obtain⟨its,r,pl,hz⟩:=I.tuple hq
  obtain⟨j,h1,h2,h3,h4,h5⟩:=atI_get he
  obtain⟨w,ew,rw'⟩:=r.get h2
  have hl:=r.length
  have hn:=line63
  have fin:EP X pins σ Q w s:=⟨z,H,I,rw',q⟩
  exact subscriptTail_builtinR (x:=w) pl.typeIs slot_tuple_getitem.lookup
    (getItem_tuple (j:=j) (Q:=fun r s'=>r=w/\EP X pins σ Q r s') pl (by omega) (by omega) (by rw[List.size_toArray,←hl];exact h1) (by simpa using ew) ⟨rfl,fin⟩) hs
theorem slice_bounds (lo hi:Option Int) (n:Nat):(sliceBounds lo hi none n).1=((HT.sIx n 0 lo:Nat):Int)/\(sliceBounds lo hi none n).2.1=((HT.sIx n n hi:Nat):Int)/\(sliceBounds lo hi none n).2.2=1:=by
  refine⟨?_,?_,rfl⟩
  · cases lo with
    | none=>simp[sliceBounds,HT.sIx]
    | some i=>
      simp only[sliceBounds,HT.sIx,Option.getD_none,show(1:Int) > 0 by decide,if_true]
      by_cases h:i < 0
      · simp only[h,if_true] <;> omega
      · simp only[h,if_false] <;> omega
  · cases hi with
    | none=>simp[sliceBounds,HT.sIx]
    | some i=>
      simp only[sliceBounds,HT.sIx,Option.getD_none,show(1:Int) > 0 by decide,if_true]
      by_cases h:i < 0
      · simp only[h,if_true] <;> omega
      · simp only[h,if_false] <;> omega
theorem slicePick_cut (its:List Value) (lo hi:Option Int):slicePick its.toArray lo hi none=((its.drop (HT.sIx its.length 0 lo)).take (HT.sIx its.length its.length hi - HT.sIx its.length 0 lo)).toArray:=by
  obtain⟨h1,h2,h3⟩:=slice_bounds lo hi its.toArray.size
  unfold slicePick
  rw[h1,h2,h3]
  simp only[sliceRange_one,pick_run,List.size_toArray] <;> rfl
def rSlL (K:PySem.W.Frag):V->Option Int->Option Int->Hp->VK->Prop:=fun x lo hi H Q=>∃a xs,x= .ref a/\SqL K H a xs/\∀p,H p=none->Q (.ref p) (upd H p (.lst (cutV xs lo hi)))
theorem sl_list:SlR X (rSlL X.K):=by
  intro pins s σ H x v vl vu lo hi sl Q I rx hs pl pu h
  obtain⟨a,xs,rfl,hx,q⟩:=h
  cases rx
  obtain⟨its,r,ht,hz⟩:=I.list hx
  have hlen:=r.length
  refine⟨"list",_,slot_list_getitem.lookup,ht.isList.typeIs,?_⟩
  refine wpAny_getItem_list_slice ht.isList hs pl pu .none (by simp) ?_ (by rw[List.size_toArray] <;> omega)
  rw[slicePick_cut,←hlen]
  refine⟨.ref s.heap.objs.size,_,I.laid (t':=s.toks) (o:= .lst (cutV xs lo hi)) (fun b ob q=>Heap.get?_push_of_some _ q) (Nat.le_refl _) ?_,rfl,q _ (I.hok.fresh (Nat.le_refl _))⟩
  exact⟨Nat.le_trans (cutV_length xs lo hi) hz,_,0,(r.drop (HT.sIx xs.length 0 lo)).take (HT.sIx xs.length xs.length hi - HT.sIx xs.length 0 lo),Heap.get?_push_size _ rfl⟩
inductive lenI (K:PySem.W.Frag) (xs:List V) (H:Hp) (Q:VK):Prop
  | mk (p:Addr) (ys:List V) (h1:xs=[.ref p]) (h2:SqL K H p ys∨SqT K H p ys) (q:Q (.int ys.length) H):lenI K xs H Q
theorem call_len_seq:CallR X (.builtin "len") (lenI X.K):=by
  intro pins s σ H xs us Q I r h
  obtain⟨p,ys,rfl,hq,q⟩:=h
  obtain⟨u,rfl,rx⟩:=vals1 r
  cases rx
  have hn:=line63
  rcases hq with hq | hq
  · obtain⟨its,r',pl,hz⟩:=I.list hq
    have hlen:=r'.length
    exact Calls.call_len_list pl.isList (by simp only[List.size_toArray] <;> omega) ⟨.int ys.length,H,I.tok _,⟨s.toks+1,by rw[List.size_toArray,hlen]⟩,q⟩
  · obtain⟨its,r',pl,hz⟩:=I.tuple hq
    have hlen:=r'.length
    exact len_tuple pl (by simp only[List.size_toArray] <;> omega) ⟨.int ys.length,H,I.tok _,⟨s.toks+1,by rw[List.size_toArray,hlen]⟩,q⟩
theorem call_list_of:CallR X (.type "list") (fun xs H Q=>∃p ys,xs=[.ref p]/\(SqL X.K H p ys∨SqT X.K H p ys)/\∀l,H l=none->Q (.ref l) (upd H l (.lst ys))):=by
  intro pins s σ H xs us Q I r h
  obtain⟨p,ys,rfl,hq,q⟩:=h
  obtain⟨u,rfl,rx⟩:=vals1 r
  cases rx
  have fin:∀(its:List Value),Vals ys its->ys.length≤sizeLine->∀(h':Heap) (c':Nat),(∀b o',s.heap.get? b=some o'->h'.get? b=some o')->
      h'.get? s.heap.objs.size=some {cls:= .type "list",dict:=none,data:= .seq its.toArray c',slots:= #[]}->EP X pins σ Q (.ref s.heap.objs.size) {s with heap:=h'}:=fun its r' hz h' c' kp e=>
    ⟨.ref s.heap.objs.size,_,I.laid (t':=s.toks) kp (Nat.le_refl _) (show ObjOk X.prog X.w _ h' _ (.lst ys)from⟨hz,its,c',r',e⟩),rfl,q _ (I.hok.fresh (Nat.le_refl _))⟩
  rcases hq with hq | hq
  · obtain⟨its,r',pl,hz⟩:=I.list hq
    have hlen:=r'.length
    obtain⟨o,ho,hc,n,hd⟩:=pl.isList
    exact call_list_seq p (.inl rfl) ho hc hd (fun h' c' kp e=>fin its r' hz h' c' kp e) (by simp only[List.size_toArray] <;> omega)
  · obtain⟨its,r',pl,hz⟩:=I.tuple hq
    have hlen:=r'.length
    obtain⟨o,ho,hc,n,hd⟩:=pl
    exact call_list_seq p (.inr rfl) ho hc hd (fun h' c' kp e=>fin its r' hz h' c' kp e) (by simp only[List.size_toArray] <;> omega)
theorem call_tuple_of:CallR X (.type "tuple") (fun xs H Q=>∃p ys,xs=[.ref p]/\((SqL X.K H p ys/\∀l,H l=none->Q (.ref l) (upd H l (.tup ys)))∨(SqT X.K H p ys/\Q (.ref p) H))):=by
  intro pins s σ H xs us Q I r h
  obtain⟨p,ys,rfl,h⟩:=h
  obtain⟨u,rfl,rx⟩:=vals1 r
  cases rx
  rcases h with⟨hq,q⟩ | ⟨hq,q⟩
  · obtain⟨its,r',pl,hz⟩:=I.list hq
    have hlen:=r'.length
    refine call_tuple_list pl.isList (fun h' kp=> ?_) (by simp only[List.size_toArray] <;> omega)
    have I1:Inv X pins σ H {s with heap:=h'}:=I.kept (t':=s.toks) kp
    have I2:Inv X pins σ (upd H h'.objs.size (.tup ys)) {s with heap:=h'.push {cls:= .type "tuple",data:= .seq its.toArray}}:=
      I1.laid (t':=s.toks) (fun b o e=>Heap.get?_push_of_some _ e) (Nat.le_refl _) (show ObjOk X.prog X.w _ _ _ (.tup ys)from⟨hz,its,r',IsTup.new _ _⟩)
    exact⟨.ref h'.objs.size,_,I2,rfl,q _ (I1.hok.fresh (Nat.le_refl _))⟩
  · obtain⟨its,r',pl,hz⟩:=I.tuple hq
    exact call_tuple_same pl ⟨.ref p,H,I,rfl,q⟩
def tyV (K:PySem.W.Frag) (T:String) (x:V) (H:Hp):Prop:=match x with
  | .str _=>T="str"
  | .int _=>T="int"
  | .ref p=>(T="list"/\∃xs,SqL K H p xs)∨(T="tuple"/\∃o,K.lookup p=some o/\o.cls= .type "tuple"/\o.dict=none)∨
      (T="dict"/\((∃kvs,H p=some (.dK kvs))∨∃kvs,H p=some (.dT kvs)))∨(T="set"/\∃S n,H p=some (.set S n))
  | _=>False
theorem tyV_is {pins:List (Addr×Obj)} {σ:St} {H:Hp} {s:Shared} {T:String} {x:V} {v:Value} (I:Inv X pins σ H s) (r:RelV x v) (ty:tyV X.K T x H):
    s.TypeIs v T/\∀a,v= .ref a->∃ob,s.heap.get? a=some ob/\ob.dict=none:=by
  cases x with
  | str z=>
    obtain⟨t,rfl⟩:=r
    cases (show T="str" from ty)
    exact⟨typeIs_str s z t,fun _ e=>nomatch e⟩
  | int i=>
    obtain⟨t,rfl⟩:=r
    cases (show T="int" from ty)
    exact⟨typeIs_int s i t,fun _ e=>nomatch e⟩
  | ref p=>
    cases r
    rcases ty with⟨rfl,xs,hq⟩ | ⟨rfl,o,hk,hc,hd⟩ | ⟨rfl,hk⟩ | ⟨rfl,S,n,hk⟩
    · obtain⟨its,_,pl,_⟩:=I.list hq
      refine⟨pl.isList.typeIs,fun a e=> ?_⟩
      cases e
      obtain⟨o,n,e,c,hd,_⟩:=pl
      exact⟨o,e,hd⟩
    · refine⟨⟨o,I.kIn p o hk,hc⟩,fun a e=> ?_⟩
      cases e
      exact⟨o,I.kIn _ o hk,hd⟩
    · have z:∃o,s.heap.get? p=some o/\o.ExactDict:=by
        rcases hk with⟨kvs,hk⟩ | ⟨kvs,hk⟩
        · obtain⟨_,_,_,_,o,_,_,e,ex,_⟩:=I.hok p _ hk
          exact⟨o,e,ex⟩
        · obtain⟨_,_,_,_,o,_,_,e,ex,_⟩:=I.hok p _ hk
          exact⟨o,e,ex⟩
      obtain⟨o,e,ex⟩:=z
      refine⟨⟨o,e,ex.1⟩,fun a e2=> ?_⟩
      cases e2
      exact⟨o,e,ex.2.1⟩
    · obtain⟨o,_,_,_,e,ex,_⟩:=I.hok p _ hk
      refine⟨⟨o,e,ex.1⟩,fun a e2=> ?_⟩
      cases e2
      exact⟨o,e,ex.2.1⟩
  | _=>exact False.elim ty
def tBM (K:PySem.W.Frag) (T:String) (r:V->List V->Hp->VK->Prop) (to:TE) (t:TA):TE:=fun σ H Q=>to σ H fun x H1=>tyV K T x H1/\t σ H1 fun xs H2=>r x xs H2 Q
variable {o e:Expr} {es:List Expr} {to:TE} {t:TA} {name:Str} {apos cpos:Pos} {T id:String} {r:V->List V->Hp->VK->Prop}
theorem pe_bm (pa:PlainAttrs T) (slot:Slot T name id) (hty:typeOf (.builtin id)=pure (.type "method_descriptor")) (hm:MtR X id r) (ho:PE X o to) (ha:PA X (e::es) t)
    (hbase:attributeBase o name X.env (eval o X.env)=eval o X.env:=by rfl)
    (hfew:((backTo cpos (starEach (e::es) X.env)).all (fun x=> !x.1) && (backToKw cpos (keywordEach [] X.env)).all (fun x=>x.1.isSome)
      && decide ((e::es).length+([]:List Keyword).length+(if ([]:List Keyword).isEmpty then 0 else 1) < 30))=true:=by rfl)
    (hline:(apos.endLine == cpos.line)=true:=by rfl) (hs:starEach (e::es) X.env=(false,eval e X.env)::starEach es X.env:=by rfl) (hplain:(backTo cpos (starEach es X.env)).any (·.1)=false:=by rfl):
    PE X (.Call (.Attribute o name apos) (e::es) [] cpos) (tBM X.K T r to t):=by
  intro pins s σ H Q I h
  refine wpAny_Call_method_late hbase hfew hline rfl (thn (ho pins s σ H _ I h) fun v s1 ⟨x,H1,I1,r1,ty,q1⟩=> ?_)
  obtain⟨h1,h2⟩:=tyV_is I1 r1 ty
  refine⟨T,id,pa,slot,hty,h1,h2,?_⟩
  have hA:=ha cpos pins s1 σ H1 _ I1 q1
  rw[hs]at hA ⊢
  refine Calls.callWith_builtin (by show(false || (backTo cpos (starEach es X.env)).any (·.1))=false;rw[hplain] <;> rfl) (Calls.evalArgs_plain ?_)
  exact thn hA fun us s2 ⟨vs,H2,I2,r2,q2⟩=>hm pins s2 σ H2 x vs v us Q I2 r1 r2 q2
end
end L2
namespace L2
open PySem PySem.Spec PyProof.Rows
def MtM (X:Cx) (id:String) (r:V->List V->Hp->VK->Prop):Prop:=
  ∀(pins:List (Addr×Obj)) (s:Shared) (σ:St) (H:Hp) (x:V) (xs:List V) (v:Value) (us:List Value) (Q:VK),Inv X pins σ H s->RelV x v->Vals xs us->r x xs H Q->
    wpAny (model X.prog X.w) X.A (call (.builtin id) (v::us)) (EP X pins σ Q) X.xe s
theorem Vals.one:∀{x:V} {us:List Value},Vals [x] us->∃u,us=[u]/\RelV x u
  | _,_,.cons r .nil=>⟨_,rfl,r⟩
section
variable {X:Cx} {pins:List (Addr×Obj)} {σ:St} {H:Hp} {s:Shared} {l b:Addr} {xs ys zs:List V}
theorem Inv.lset {its its':List Value} {n:Nat} {f:Array Value->Array Value} {t':Nat} (I:Inv X pins σ H s) (hH:H l=some (.lst xs))
    (e:s.heap.get? l=some {cls:= .type "list",data:= .seq its.toArray n}) (hf:f its.toArray=its'.toArray) (hv:Vals ys its') (hz:ys.length≤sizeLine):
    Inv X pins σ (upd H l (.lst ys)) {s with heap:=s.heap.update l (Obj.mapSeq f),toks:=t'}:=by
  have q:=PySem.IsL.update e f
  rw[hf]at q
  refine I.write (x:=l) (e:=l) (by rw[hH];exact trivial) (.inl rfl) (fun b' u hb hu=>(Heap.get?_update_other s.heap (Obj.mapSeq f) (Ne.symm hb)).trans hu) ⟨_,q⟩ ?_
  exact⟨hz,its',_,hv,q⟩
theorem Inv.lnew {its:List Value} {t':Nat} (I:Inv X pins σ H s) (hv:Vals ys its) (hz:ys.length≤sizeLine):
    Inv X pins σ (upd H s.heap.objs.size (.lst ys)) {s with heap:=s.heap.push {cls:= .type "list",data:= .seq its.toArray},toks:=t'}:=
  I.laid (fun _ _ q=>Heap.get?_push_of_some _ q) (Nat.le_refl _) ⟨hz,its,0,hv,Heap.get?_push_size _ rfl⟩
theorem Inv.fresh (I:Inv X pins σ H s):H s.heap.objs.size=none:=I.hok.fresh (Nat.le_refl _)
theorem Inv.lstM (I:Inv X pins σ H s) (hH:H l=some (.lst xs)):xs.length≤sizeLine/\∃(its:List Value) (n:Nat),Vals xs its/\xs.length=its.length/\s.heap.get? l=some {cls:= .type "list",data:= .seq its.toArray n}:=by
  obtain⟨z,its,n,r,e⟩:=I.hok l _ hH
  exact⟨z,its,n,r,r.length,e⟩
theorem notLongL {n:Nat} (h:n≤sizeLine):Builtin.List.listTooLong n=false:=by
  unfold Builtin.List.listTooLong
  exact decide_eq_false (by omega)
end
section
variable {X:Cx}
inductive rAppend (x:V) (vs:List V) (H:Hp) (Q:VK):Prop
  | mk (l:Addr) (xs:List V) (y:V) (h1:x= .ref l) (h2:vs=[y]) (h3:H l=some (.lst xs)) (h4:xs.length < sizeLine) (q:Q .non (upd H l (.lst (xs++[y])))):rAppend x vs H Q
theorem mt_append:MtM X "list.append" rAppend:=by
  intro pins s σ H x vs v us Q I rx rv h
  obtain⟨l,xs,y,rfl,rfl,hH,hz,q⟩:=h
  cases rx
  obtain⟨u,rfl,ru⟩:=rv.one
  obtain⟨z,its,n,r,hl,e⟩:=I.lstM hH
  refine call_meets F.slot_list_append ⟨_,e,rfl⟩ F.entry_list_append (F.args_list_append_2 _ _) (PySem.list_append l its.toArray n u (by rw[List.size_toArray];omega)) ⟨e,?_⟩
  refine⟨.non,_,I.lset (its':=its++[u]) hH e (by simp) (r.append (.cons ru .nil)) ?_,rfl,q⟩
  rw[List.length_append,List.length_singleton]
  omega
def rExtend:V->List V->Hp->VK->Prop:=fun x vs H Q=>∃l b xs zs,x= .ref l/\vs=[.ref b]/\H l=some (.lst xs)/\H b=some (.lst zs)/\xs.length+zs.length≤sizeLine/\Q .non (upd H l (.lst (xs++zs)))
theorem mt_extend:MtM X "list.extend" rExtend:=by
  intro pins s σ H x vs v us Q I rx rv h
  obtain⟨l,b,xs,zs,rfl,rfl,hH,hB,hz,q⟩:=h
  cases rx
  obtain⟨u,rfl,ru⟩:=rv.one
  cases ru
  obtain⟨z,its,n,r,hl,e⟩:=I.lstM hH
  obtain⟨z2,its2,n2,r2,hl2,e2⟩:=I.lstM hB
  have hsz:its.toArray.size+its2.toArray.size≤sizeLine:=by rw[List.size_toArray,List.size_toArray];omega
  have hlong:¬(!its.toArray.isEmpty && Builtin.List.listTooLong (its.toArray.size+its2.toArray.size))=true:=by
    rw[notLongL hsz,Bool.and_false]
    exact Bool.false_ne_true
  refine call_meets F.slot_list_extend ⟨_,e,rfl⟩ F.entry_list_extend (F.args_list_extend_2 _ _)
    (AutoSeq1.list_extend_list_list_0 l its.toArray n b its2.toArray n2 hlong (by rw[List.size_toArray];omega) (by omega)) ⟨e,e2,?_⟩
  refine⟨.non,_,I.lset (its':=its++its2) hH e (by simp) (r.append r2) ?_,rfl,q⟩
  rw[List.length_append]
  omega
inductive rCat (x y:V) (H:Hp) (Q:VK):Prop
  | mk (l b:Addr) (xs zs:List V) (h1:x= .ref l) (h2:y= .ref b) (h3:H l=some (.lst xs)) (h4:H b=some (.lst zs)) (h5:xs.length+zs.length≤sizeLine) (q:∀p,H p=none->Q (.ref p) (upd H p (.lst (xs++zs)))):rCat x y H Q
theorem op_cat:OpR X (binaryOp .Add) rCat:=by
  intro pins s σ H x y v u Q I rx ry h
  obtain⟨l,b,xs,zs,rfl,rfl,hH,hB,hz,q⟩:=h
  cases rx
  cases ry
  obtain⟨z,its,n,r,hl,e⟩:=I.lstM hH
  obtain⟨z2,its2,n2,r2,hl2,e2⟩:=I.lstM hB
  refine PySem.P.add_list e e2 ?_ (by rw[List.size_toArray,List.size_toArray];omega)
  have ea:its.toArray++its2.toArray=(its++its2).toArray:=by simp
  rw[ea]
  exact⟨.ref _,_,I.lnew (t':=s.toks) (r.append r2) (by rw[List.length_append];omega),rfl,q _ I.fresh⟩
end
section
variable {prog:Program} {w:World} {A:Around} {E:Value->Shared->Prop} {s:Shared}
set_option maxRecDepth 100000 in
end
section
variable {X:Cx}
end
end L2
namespace L2
open PySem PySem.Spec PyProof.Rows
theorem Vals.ints:∀{ns:List Int} {us:List Value},Vals (ns.map V.int) us->IntsAre us ns
  | [],us,h=>by
    rw[List.map_nil]at h
    cases h
    exact IntsAre.nil
  | n::ns,us,h=>by
    rw[List.map_cons]at h
    cases h with
    | cons r t=>
      obtain⟨k,rfl⟩:=r
      exact IntsAre.cons n k (Vals.ints t)
theorem Vals.bls:∀{bs:List Bool} {us:List Value},Vals (bs.map V.bl) us->us=bs.map Value.bool
  | [],us,h=>by
    rw[List.map_nil]at h
    cases h
    rfl
  | b::bs,us,h=>by
    rw[List.map_cons]at h
    cases h with
    | cons r t=>
      cases r
      rw[Vals.bls t,List.map_cons]
theorem Vals.ref1 {a:Addr} {us:List Value} (r:Vals [V.ref a] us):us=[Value.ref a]:=by
  cases r with
  | cons r t=>
    cases t
    cases r
    rfl
section
variable {prog:Program} {w:World} {A:Around} {E:Value->Shared->Prop} {s:Shared} {l:Addr} {its:List Value} {ns:List Int} {Q:Value->Shared->Prop}
theorem min_raw (hh:A.handled=none) (hl:s.heap.IsList l its.toArray) (hi:IntsAre its ns) (hne:0 < ns.length)
    (h:∀h' tk M t',(∀b o,s.heap.get? b=some o->h'.get? b=some o)->M∈ns->(∀a,a∈ns->M≤a)->Q (.int M t') {s with heap:=h',toks:=tk}):wpAny (model prog w) A (call (.builtin "min") [.ref l]) Q E s:=by
  obtain⟨xs,e⟩:=hi.allInts.items
  have hn:numsOf (intItems xs).toList=ns:=by rw[←e];exact hi.numsOf
  rw[nums_intItems]at hn
  subst hn
  rw[e]at hl
  have hsz:0 < xs.size:=by simpa using hne
  refine PySem.min_intList hh hl hsz fun v h' tk hv hk=> ?_
  obtain⟨t,rfl⟩:=intItems_at hv
  obtain⟨h1,h2⟩:=argBest_lt (numAt xs) (xs.size - 1)
  refine h h' tk _ t hk ?_ fun a ha=> ?_
  · rw[numAt_eq];exact PySem.getD_mem (by rw[List.length_map,Array.length_toList];omega)
  · obtain⟨j,hj,rfl⟩:=mem_getD ha
    rw[List.length_map,Array.length_toList]at hj
    rw[←numAt_eq];exact h2 j (by omega)
end
section
variable {X:Cx}
def rMin (K:PySem.W.Frag):List V->Hp->VK->Prop:=fun vs H Q=>∃(a:Addr) (ns:List Int),vs=[V.ref a]/\SqL K H a (ns.map V.int)/\0 < ns.length/\∀m,m∈ns->(∀y,y∈ns->m≤y)->Q (.int m) H
theorem cr_min (hc:X.calm=true):CallR X (.builtin "min") (rMin X.K):=by
  intro pins s σ H vs us Q I r h
  obtain⟨a,ns,rfl,hs,hne,q⟩:=h
  obtain⟨its,rv,hl,_⟩:=I.list hs
  rw[Vals.ref1 r]
  exact min_raw (I.ok.hd hc) hl.isList rv.ints hne fun h' tk m t' hk h1 h2=>⟨.int _,H,I.kept hk,⟨_,rfl⟩,q m h1 h2⟩
theorem small64 {n:Nat} (h:n < 64):n≤sizeLine:=by rw[sizeLine_eq];omega
end
section
variable {X:Cx}
end
section
variable {X:Cx}
end
theorem iter_any {prog:Program} {w:World} {A:Around} {E:Value->Shared->Prop} {s:Shared} {l:Addr} {items:Array Value} {Q:Value->Shared->Prop} (hl:s.heap.IsList l items)
    (h:∀s₂:Shared,s₂={s with heap:=s.heap.push {cls:= .type "list_iterator",data:= .fields #[.ref l,.int 0 0]}}->
      (s₂.heap.IsListIter s.heap.objs.size l 0/\s₂.heap.IsList l items)->l≠s.heap.objs.size->Q (.ref s.heap.objs.size) s₂):wpAny (model prog w) A (pyIter (.ref l)) Q E s:=by
  have hlt:l < s.heap.objs.size:=by obtain⟨_,e,_⟩:=hl;exact Heap.lt_size e
  exact wpAny_pyIter_list hl (h _ rfl ⟨⟨_,Heap.get?_push_size _ rfl,rfl,rfl⟩,hl.push _⟩ (Nat.ne_of_lt hlt))
theorem truth_bools {prog:Program} {w:World} {A:Around} {bs:List Bool} {its:List Value} (e:its=bs.map Value.bool):
    TruthOf prog w A (fun i v=>its.toArray[i]? =some v) (fun i=>bs.getD i false):=fun i v s Q E hv hq=>by
  have hv':its[i]? =some v:=by simpa using hv
  rw[e,List.getElem?_map]at hv'
  obtain⟨b,hb,rfl⟩:=Option.map_eq_some_iff.mp hv'
  have hg:bs.getD i false=b:=by rw[List.getD_eq_getElem?_getD,hb] <;> rfl
  have hq':Q (bs.getD i false) s:=hq
  rw[hg]at hq'
  exact wpAny_truthy_bool hq'
theorem all_range:∀bs:List Bool,(List.range bs.length).all (fun i=>bs.getD i false)=bs.all id
  | []=>rfl
  | b::bs=>by
    rw[List.length_cons,List.range_succ_eq_map,List.all_cons,List.all_map,List.all_cons,←all_range bs]
    all_goals rfl
section
variable {X:Cx}
def rAll (K:PySem.W.Frag):List V->Hp->VK->Prop:=fun vs H Q=>∃(a:Addr) (bs:List Bool),vs=[V.ref a]/\SqL K H a (bs.map V.bl)/\Q (.bl (bs.all id)) H
theorem cr_all (hc:X.calm=true):CallR X (.builtin "all") (rAll X.K):=by
  intro pins s σ H vs us Q I r h
  obtain⟨a,bs,rfl,hs,q⟩:=h
  obtain⟨its,rv,hl,_⟩:=I.list hs
  rw[Vals.ref1 r]
  have hb:=rv.bls
  refine call_all_walk (iter_any hl.isList fun s₂ e2 st hne=> ?_)
  subst e2
  refine⟨_,_,_,_,_,_,_,rfl,Walks.list (A:=X.A.in1) (I.ok.hd hc) _ a hne its.toArray,st,truth_bools hb,fun h' tk hk=> ?_⟩
  refine⟨.bl _,H,I.kept fun b o eo=>hk b o (fun hmem=> ?_) (Heap.get?_push_of_some _ eo),?_,q⟩
  · rcases List.mem_cons.mp hmem with e1 | hmem
    · exact absurd (e1 ▸ Heap.lt_size eo) (Nat.lt_irrefl _)
    · cases hmem
  · show Value.bool _=Value.bool _
    rw[←all_range,hb,List.size_toArray,List.length_map]
end
section
variable {X:Cx} {pins:List (Addr×Obj)} {σ:St} {H:Hp} {s:Shared}
end
section
variable {X:Cx}
end
end L2
namespace L2
open PySem PySem.Spec PyProof.Rows
abbrev CellAt (h:Heap) (c:Addr) (v:Option Value):Prop:=h.IsCell c v
def relS (scope sc:Scope):Scope:=
  {scope with names:=scope.names.map fun(n,k)=>if (k == .free && sc.kind == .function && sc.names.lookup n == some .cell)then(n,.cell)else(n,k)}
def cloFrom (cells:List (Str×Addr)):List (Str×NameKind)->List (Str×Addr)->List (Str×Addr)
  | [],acc=>acc
  | (n,k)::r,acc=>if k == .free then cloFrom cells r ((n,(cells.lookup n).getD 0)::acc)else cloFrom cells r acc
theorem closure_loop (env:Env) (f:Str×NameKind->List (Str×Addr)->Sem (ForInStep (List (Str×Addr))))
    (hf:∀n k c,f (n,k) c=if k == .free then(do let a ←cellOf env n;pure (.yield ((n,a)::c)))else pure (.yield c)):
    ∀(names:List (Str×NameKind)) (acc:List (Str×Addr)),(∀y∈names,y.2= .free->∃c,env.cells.lookup y.1=some c)->forIn names acc f=pure (cloFrom env.cells names acc)
  | [],acc,_=>by rw[List.forIn_nil];rfl
  | (n,k)::r,acc,h=>by
    rw[List.forIn_cons,hf]
    have ih:=fun acc=>closure_loop env f hf r acc fun y hy=>h y (List.mem_cons_of_mem _ hy)
    unfold cloFrom
    by_cases hk:(k == NameKind.free)=true
    · rw[if_pos hk,if_pos hk]
      obtain⟨c,hc⟩:=h (n,k) List.mem_cons_self (by simpa using hk)
      have e:cellOf env n=pure c:=by unfold cellOf;rw[hc]
      rw[e]
      have e2:(env.cells.lookup n).getD 0=c:=by rw[hc];rfl
      rw[e2]
      exact ih _
    · rw[if_neg hk,if_neg hk]
      exact ih _
theorem closure_ok {scope:Scope} {env:Env} (h:∀y∈scope.names,y.2= .free->∃c,env.cells.lookup y.1=some c):closureFor scope env=pure (cloFrom env.cells scope.names []):=by
  simp only[closureFor]
  rw[closure_loop env _ (fun n k c=>rfl) scope.names [] h]
  rfl
theorem mem_lookup {α:Type}:∀{l:List (Str×α)} {n:Str} {c:α},(n,c)∈l->∃c',l.lookup n=some c'
  | (k,v)::r,n,c,h=>by
    rw[List.lookup_cons]
    cases hb:n == k with
    | true=>exact⟨_,rfl⟩
    | false=>
      rcases List.mem_cons.mp h with e | h
      · cases e;simp at hb
      · exact mem_lookup h
theorem cloFrom_mem {cells:List (Str×Addr)}:∀{names:List (Str×NameKind)} {acc:List (Str×Addr)} {n:Str} {c:Addr},(n,c)∈cloFrom cells names acc->(n,c)∈acc∨((n,.free)∈names/\c=(cells.lookup n).getD 0)
  | [],_,_,_,h=> .inl h
  | (m,k)::r,acc,n,c,h=>by
    unfold cloFrom at h
    split at h
    · rename_i hk
      have hk:k= .free:=by simpa using hk
      rcases cloFrom_mem h with h | ⟨h1,h2⟩
      · rcases List.mem_cons.mp h with e | h
        · cases e;exact .inr ⟨hk ▸ List.mem_cons_self,rfl⟩
        · exact .inl h
      · exact .inr ⟨List.mem_cons_of_mem _ h1,h2⟩
    · rcases cloFrom_mem h with h | ⟨h1,h2⟩
      · exact .inl h
      · exact .inr ⟨List.mem_cons_of_mem _ h1,h2⟩
theorem cloFrom_acc {cells:List (Str×Addr)}:∀{names:List (Str×NameKind)} {acc:List (Str×Addr)} {p:Str×Addr},p∈acc->p∈cloFrom cells names acc
  | [],_,_,h=>h
  | (m,k)::r,acc,p,h=>by
    unfold cloFrom
    split
    · exact cloFrom_acc (List.mem_cons_of_mem _ h)
    · exact cloFrom_acc h
theorem cloFrom_has {cells:List (Str×Addr)}:∀{names:List (Str×NameKind)} {acc:List (Str×Addr)} {n:Str},(n,.free)∈names->(n,(cells.lookup n).getD 0)∈cloFrom cells names acc
  | (m,k)::r,acc,n,h=>by
    unfold cloFrom
    rcases List.mem_cons.mp h with e | h
    · cases e
      exact cloFrom_acc List.mem_cons_self
    · split
      · exact cloFrom_has h
      · exact cloFrom_has h
theorem cells_mem:∀{names:List (Str×NameKind)} {h:Heap} {acc:List (Str×Addr)} {x:Str} {c:Addr},(x,c)∈cellsFrom h.objs.size names acc->
    (x,c)∈acc∨((x,.cell)∈names/\h.objs.size≤c/\CellAt (pushCells h names) c none)
  | [],_,_,_,_,h=> .inl h
  | (n,k)::r,h,acc,x,c,hm=>by
    unfold cellsFrom at hm
    unfold pushCells
    split at hm
    · rename_i hk
      rw[if_pos hk]
      have hk:k= .cell:=by simpa using hk
      rw[←Heap.size_push h {cls:= .type "cell",data:= .cell none}]at hm
      rcases cells_mem hm with hm | ⟨h1,h2,h3⟩
      · rcases List.mem_cons.mp hm with e | hm
        · cases e
          exact .inr ⟨hk ▸ List.mem_cons_self,Nat.le_refl _,_,pushCells_keeps r _ _ _ (Heap.get?_push_size _ rfl),rfl⟩
        · exact .inl hm
      · rw[Heap.size_push]at h2
        exact .inr ⟨List.mem_cons_of_mem _ h1,Nat.le_of_succ_le h2,h3⟩
    · rename_i hk
      rw[if_neg hk]
      rcases cells_mem hm with hm | ⟨h1,h2,h3⟩
      · exact .inl hm
      · exact .inr ⟨List.mem_cons_of_mem _ h1,h2,h3⟩
theorem cells_acc:∀{names:List (Str×NameKind)} {n:Nat} {acc:List (Str×Addr)} {p:Str×Addr},p∈acc->p∈cellsFrom n names acc
  | [],_,_,_,h=>h
  | (m,k)::r,n,acc,p,h=>by
    unfold cellsFrom
    split
    · exact cells_acc (List.mem_cons_of_mem _ h)
    · exact cells_acc h
theorem cells_has:∀{names:List (Str×NameKind)} {n:Nat} {acc:List (Str×Addr)} {x:Str},(x,.cell)∈names->∃c,(x,c)∈cellsFrom n names acc
  | (m,k)::r,n,acc,x,h=>by
    unfold cellsFrom
    rcases List.mem_cons.mp h with e | h
    · cases e
      exact⟨n,cells_acc List.mem_cons_self⟩
    · split
      · exact cells_has h
      · exact cells_has h
theorem cells_inj:∀{names:List (Str×NameKind)} {h:Heap} {acc:List (Str×Addr)} {x y:Str} {c:Addr},(∀p∈acc,p.2 < h.objs.size)->(∀x y c,(x,c)∈acc->(y,c)∈acc->x=y)->
    (x,c)∈cellsFrom h.objs.size names acc->(y,c)∈cellsFrom h.objs.size names acc->x=y
  | [],_,_,_,_,_,_,hi,h1,h2=>hi _ _ _ h1 h2
  | (n,k)::r,h,acc,x,y,c,hl,hi,h1,h2=>by
    unfold cellsFrom at h1 h2
    split at h1
    · rename_i hk
      rw[if_pos hk]at h2
      rw[←Heap.size_push h {cls:= .type "cell",data:= .cell none}]at h1 h2
      refine cells_inj (h:=h.push _) (fun p hp=> ?_) (fun x y c a b=> ?_) h1 h2
      · rw[Heap.size_push]
        rcases List.mem_cons.mp hp with rfl | hp
        · exact Nat.lt_succ_self _
        · exact Nat.lt_succ_of_lt (hl p hp)
      · rcases List.mem_cons.mp a with e | a <;> rcases List.mem_cons.mp b with e' | b
        · cases e;cases e';rfl
        · cases e;exact absurd (hl _ b) (Nat.lt_irrefl _)
        · cases e';exact absurd (hl _ a) (Nat.lt_irrefl _)
        · exact hi _ _ _ a b
    · rename_i hk
      rw[if_neg hk]at h2
      exact cells_inj hl hi h1 h2
theorem newEnv_comp {M:Model} {A:Around} {E:Value->Shared->Prop} {s:Shared} {scope:Scope} {globals:Addr} {closure:List (Str×Addr)} {qual:Str} {func:Option Addr} {code:Value} {around:Env} {builtins:Addr} {Q:Env->Shared->Prop}
    (h:Q (newEnv scope s.heap.objs.size globals (cellsFrom (s.heap.objs.size+1) scope.names closure) qual func code (some around) builtins)
      {s with heap:=pushCells (s.heap.push {cls:= .type "dict",data:= .dict #[]}) scope.names}):
    wpAny M A (newFunctionEnv scope globals closure [] qual func code (some around) builtins) Q E s:=by
  simp only[newFunctionEnv,Option.isSome_some,if_true]
  refine wpAny_bind (wpAny_alloc ?_)
  refine wpAny_bind (wpAny_layCells _ (fun n k c=>rfl) scope.names closure _ _ ?_)
  rw[show({s with heap:=s.heap.push {cls:= .type "dict",data:= .dict #[]}}:Shared).heap.objs.size=s.heap.objs.size+1 from Heap.size_push ..]
  rw[List.forIn_nil]
  exact wpAny_bind (wpAny_pure (wpAny_pure h))
theorem lookup_relS {sc:Scope}:∀{names:List (Str×NameKind)} {x:Str} {k:NameKind},
    (names.map fun(n,k)=>if (k == NameKind.free && sc.kind == .function && sc.names.lookup n == some .cell)then(n,NameKind.cell)else(n,k)).lookup x=some k->
    ∃k',names.lookup x=some k'/\(k=k'∨(k'= .free/\k= .cell))
  | [],_,_,h=>by simp at h
  | (n,k₀)::r,x,k,h=>by
    have ih:= @lookup_relS sc r x k
    have h':List.lookup x ((if (k₀ == NameKind.free && sc.kind == .function && sc.names.lookup n == some .cell)=true then(n,NameKind.cell)else(n,k₀))::(r.map _))=some k:=h
    cases hx:x == n with
    | true=>
      simp only[List.lookup_cons,hx]
      by_cases hc:(k₀ == NameKind.free && sc.kind == .function && sc.names.lookup n == some .cell)=true
      · rw[if_pos hc]at h'
        simp only[List.lookup_cons,hx]at h'
        cases h'
        simp only[Bool.and_eq_true,beq_iff_eq]at hc
        exact⟨k₀,rfl,.inr ⟨hc.1.1,rfl⟩⟩
      · rw[if_neg hc]at h'
        simp only[List.lookup_cons,hx]at h'
        cases h'
        exact⟨_,rfl,.inl rfl⟩
    | false=>
      simp only[List.lookup_cons,hx]
      by_cases hc:(k₀ == NameKind.free && sc.kind == .function && sc.names.lookup n == some .cell)=true
      · rw[if_pos hc]at h'
        simp only[List.lookup_cons,hx]at h'
        exact ih h'
      · rw[if_neg hc]at h'
        simp only[List.lookup_cons,hx]at h'
        exact ih h'
structure BlkOk (N:List Str) (sc scope:Scope) (own:List (Str×Nat)):Prop where
  kind:scope.kind= .function
  uniq:∀y∈scope.names,scope.names.lookup y.1=some y.2
  ix:∀p∈own,N[p.2]? =some p.1
  free:∀y∈scope.names,y.2= .free->sc.names.lookup y.1=some .cell∨sc.names.lookup y.1=some .free
  own:∀y∈scope.names,y.2= .local∨y.2= .cell->y.1∈own.map (·.1)∨y.1 ∉ N
def wipe (σ:St):List Nat->St
  | []=>σ
  | v::vs=>(wipe σ vs).set v none
theorem wipe_length (σ:St):∀vs:List Nat,(wipe σ vs).length=σ.length
  | []=>rfl
  | v::vs=>by unfold wipe;rw[List.length_set,wipe_length σ vs]
theorem wipe_some {σ:St} {i:Nat} {x:V}:∀{vs:List Nat},(wipe σ vs)[i]? =some (some x)->σ[i]? =some (some x)/\i ∉ vs
  | [],h=>⟨h,by simp⟩
  | v::vs,h=>by
    unfold wipe at h
    by_cases hi:v=i
    · subst hi
      by_cases hv:v < (wipe σ vs).length
      · rw[List.getElem?_set_self hv]at h;cases h
      · rw[List.getElem?_eq_none (by simpa using hv)]at h;cases h
    · rw[List.getElem?_set_ne hi]at h
      obtain⟨h1,h2⟩:=wipe_some h
      exact⟨h1,by simp only[List.mem_cons,not_or];exact⟨fun e=>hi e.symm,h2⟩⟩
abbrev Cx.blk (X:Cx) (s:Shared) (H:Hp) (scope:Scope) (cenv:Env) (fp:List Addr):Cx:={X with s_0:=s,H_0:=H,env:=cenv,outer:=X.stack,ex:=fp,fn:=fun x=>scope.names.lookup x == some .cell,pn:=[],xe:=fun _ _=>False}
section
variable {X:Cx} {pins:List (Addr×Obj)} {σ:St} {H:Hp} {s:Shared}
theorem block_start {scope:Scope} {own:List (Str×Nat)} {fp:List Addr} (I:Inv X pins σ H s) (ok:BlkOk X.N X.env.scope scope own) (hN:X.N.Nodup) (hfp:∀b∈fp,FpOk X pins H b/\b < s.heap.objs.size):
    Inv (X.blk s H scope (compEnvC scope (cellsFrom (s.heap.objs.size+1) scope.names (cloFrom X.env.cells scope.names [])) s.heap.objs.size X.env) fp) [] (wipe σ (own.map (·.2))) H {s with heap:=pushCells (s.heap.push {cls:= .type "dict",data:= .dict #[]}) scope.names}:=by
  have hfree:∀y∈scope.names,y.2= .free->∃c,X.env.cells.lookup y.1=some c:=fun y hy e=>by
    rcases ok.free y hy e with k | k
    · exact I.ok.has _ (.inl k)
    · exact I.ok.has _ (.inr k)
  generalize hcenv:compEnvC scope (cellsFrom (s.heap.objs.size+1) scope.names (cloFrom X.env.cells scope.names [])) s.heap.objs.size X.env=cenv
  have kp:∀b o,s.heap.get? b=some o->(pushCells (s.heap.push {cls:= .type "dict",data:= .dict #[]}) scope.names).get? b=some o:=fun b o e=>pushCells_keeps _ _ _ _ (Heap.get?_push_of_some _ e)
  have hL:cenv.locals=s.heap.objs.size:=by rw[←hcenv];rfl
  have hcl:cenv.cells=cellsFrom (s.heap.objs.size+1) scope.names (cloFrom X.env.cells scope.names []):=by rw[←hcenv];rfl
  have hsc:cenv.scope=relS scope X.env.scope:=by rw[←hcenv];rfl
  rw[←Heap.size_push s.heap {cls:= .type "dict",data:= .dict #[]}]at hcl
  have cm:∀{y c},(y,c)∈cloFrom X.env.cells scope.names []->X.env.cells.lookup y=some c/\c < s.heap.objs.size:=fun{y c} hm=>by
    rcases cloFrom_mem hm with hm | ⟨h1,rfl⟩
    · cases hm
    · obtain⟨c,hc⟩:=hfree _ h1 rfl
      rw[hc]
      obtain⟨w,z⟩:=I.cell _ _ hc
      exact⟨rfl,z.lt⟩
  have mem:∀{y c},cenv.cells.lookup y=some c->(X.env.cells.lookup y=some c/\c < s.heap.objs.size)∨(s.heap.objs.size+1≤c/\CellAt (pushCells (s.heap.push {cls:= .type "dict",data:= .dict #[]}) scope.names) c none):=fun{y c} e=>by
    rw[hcl]at e
    rcases cells_mem (PySem.mem_of_lookup e)with hm | ⟨_,h2,h3⟩
    · exact .inl (cm hm)
    · rw[Heap.size_push]at h2;exact .inr ⟨h2,h3⟩
  have look:∀{y},scope.names.lookup y=some .free->∃c,cenv.cells.lookup y=some c/\X.env.cells.lookup y=some c:=fun{y} hl=>by
    have hy:(y,NameKind.free)∈scope.names:=PySem.mem_of_lookup hl
    obtain⟨c',e'⟩:=mem_lookup (cells_acc (names:=scope.names) (n:=(s.heap.push {cls:= .type "dict",data:= .dict #[]}).objs.size) (cloFrom_has (cells:=X.env.cells) (acc:=[]) hy))
    rw[←hcl]at e'
    refine⟨c',e',?_⟩
    rw[hcl]at e'
    rcases cells_mem (PySem.mem_of_lookup e')with hm | ⟨h1,_,_⟩
    · exact(cm hm).1
    · have:=ok.uniq _ h1
      rw[hl]at this;cases this
  have okB:(X.blk s H scope cenv fp).Ok:=by
    refine⟨I.ok.mod,by show cenv.scope.kind=_;rw[hsc];exact ok.kind,by show cenv.globals=_;rw[←hcenv];exact I.ok.glob,by show cenv.builtins=_;rw[←hcenv];exact I.ok.blt,by show s.heap.objs.size≤cenv.locals;rw[hL];exact Nat.le_refl _,
      fun y z c e1 e2=> ?_,fun y hy=> ?_,fun y c z e=> ?_,I.ok.hd,I.ok.frames,.inl rfl,fun b hb=>⟨?_,fun y c e z=> ?_⟩,I.bs,Nat.le_trans I.ok.bsz I.sz,fun b o e hb=> ?_,fun b hb z=> ?_,I.stack,I.stkFree⟩
    · have e1:cenv.cells.lookup y=some c:=e1
      have e2:cenv.cells.lookup z=some c:=e2
      rw[hcl]at e1 e2
      refine cells_inj (fun p hp=> ?_) (fun y z c a b=>I.ok.inj y z c (cm a).1 (cm b).1) (PySem.mem_of_lookup e1) (PySem.mem_of_lookup e2)
      rw[Heap.size_push]
      exact Nat.lt_succ_of_lt (cm (y:=p.1) (c:=p.2) hp).2
    · show ∃c,cenv.cells.lookup y=some c
      have key:∀k,cenv.kindOf y=some k->(k= .cell∨k= .free)->∃c,cenv.cells.lookup y=some c:=fun k hk hk'=>by
        unfold Env.kindOf at hk
        rw[hsc]at hk
        obtain⟨k',e,r⟩:=lookup_relS hk
        have:k'= .cell∨k'= .free:=by
          rcases r with rfl | ⟨rfl,_⟩
          · exact hk'
          · exact .inr rfl
        rcases this with rfl | rfl
        · obtain⟨c,hm⟩:=cells_has (n:=(s.heap.push {cls:= .type "dict",data:= .dict #[]}).objs.size) (acc:=cloFrom X.env.cells scope.names []) (PySem.mem_of_lookup e)
          obtain⟨c',e'⟩:=mem_lookup hm
          exact⟨c',by rw[hcl];exact e'⟩
        · obtain⟨c,h1,_⟩:=look e
          exact⟨c,h1⟩
      rcases hy with hy | hy
      · exact key _ hy (.inl rfl)
      · exact key _ hy (.inr rfl)
    · have z:(scope.names.lookup y == some NameKind.cell)=true:=z
      have z:scope.names.lookup y=some .cell:=by simpa using z
      have e:cenv.cells.lookup y=some c:=e
      rw[hcl]at e
      rcases cells_mem (PySem.mem_of_lookup e)with hm | ⟨_,h2,_⟩
      · rcases cloFrom_mem hm with hm | ⟨h1,_⟩
        · cases hm
        · have q:=ok.uniq _ h1
          rw[z]at q;cases q
      · rw[Heap.size_push]at h2
        exact Nat.le_of_succ_le h2
    · show b≠cenv.locals
      rw[hL];exact Nat.ne_of_lt (hfp b hb).2
    · have e:cenv.cells.lookup y=some c:=e
      rcases mem e with⟨h1,_⟩ | ⟨h1,_⟩
      · exact(hfp b hb).1.2.2.2.2.1 y c h1 z
      · have h2:s.heap.objs.size+1≤b:=by rw[←z];exact h1
        exact absurd (Nat.lt_of_lt_of_le (hfp b hb).2 (Nat.le_of_succ_le h2)) (Nat.lt_irrefl _)
    · rcases(hfp b hb).1.2.2.2.1 with z | z
      · exact I.ok.noex b o e z
      · exact absurd (Nat.lt_of_lt_of_le (Heap.lt_size e) (Nat.le_trans I.ok.bsz z)) (Nat.lt_irrefl _)
    · rcases List.mem_cons.mp (I.stkSub b z)with z | z
      · exact(hfp b hb).1.2.1 z
      · exact(hfp b hb).1.2.2.1 z
  refine⟨okB,rfl,I.bare,Un.kept kp,⟨fun _=>none,?_,fun i y av e1 e2 e3=> ?_⟩,fun y c e=> ?_,?_,fun y c e=> ?_,fun p hp=> ?_,I.hok.kept kp,by rw[wipe_length];exact I.len⟩
  · show Heap.Ns _ cenv.locals _
    rw[hL]
    exact Heap.Ns.keeps (Heap.Ns.new ..) fun b o e=>pushCells_keeps _ _ _ _ e
  · obtain⟨e2,hne⟩:=wipe_some e2
    have hfr:scope.names.lookup y=some .free/\(cenv.kindOf y=some .cell∨cenv.kindOf y=some .free):=by
      have key:∀k,cenv.scope.names.lookup y=some k->k= .local∨k= .cell∨k= .free->scope.names.lookup y=some .free/\(cenv.kindOf y=some .cell∨cenv.kindOf y=some .free):=fun k hk hk'=>by
        have hk0:=hk
        rw[hsc]at hk
        obtain⟨k',e,r⟩:=lookup_relS hk
        have no:¬(k'= .local∨k'= .cell):=fun hh=>by
          rcases ok.own _ (PySem.mem_of_lookup e) hh with e' | e'
          · obtain⟨p,hp,hpy⟩:=List.mem_map.mp e'
            have e3:=ok.ix p hp
            have:p.1=y:=hpy
            rw[this]at e3
            exact hne (List.mem_map.mpr ⟨p,hp,nodup_ix hN e3 e1⟩)
          · exact e' (List.mem_of_getElem? e1)
        rcases r with rfl | ⟨rfl,rfl⟩
        · rcases hk' with rfl | rfl | rfl
          · exact absurd (.inl rfl) no
          · exact absurd (.inr rfl) no
          · exact⟨e,.inr hk0⟩
        · exact⟨e,.inl hk0⟩
      have e3:Vis cenv.scope y:=e3
      rcases e3 with e3 | e3 | e3
      · exact key _ e3 (.inl rfl)
      · exact key _ e3 (.inr (.inl rfl))
      · exact key _ e3 (.inr (.inr rfl))
    obtain⟨m,hn,hl⟩:=I.loc
    have hvis:Vis X.env.scope y:=(ok.free _ (PySem.mem_of_lookup hfr.1) rfl).elim (fun k=> .inr (.inl k)) (fun k=> .inr (.inr k))
    obtain⟨w,r,q⟩:=hl i y av e1 e2 hvis
    refine⟨w,r,.inr ⟨hfr.2,?_⟩⟩
    obtain⟨c,h1,h2⟩:=look hfr.1
    rcases q with⟨k,_⟩ | ⟨_,c',e',z⟩
    · have k:X.env.scope.names.lookup y=some .local:=k
      rcases ok.free _ (PySem.mem_of_lookup hfr.1) rfl with k' | k' <;> rw[show X.env.scope.names.lookup y=_ from k']at k <;> cases k
    · rw[h2]at e';cases e'
      exact⟨c,h1,z.keeps kp⟩
  · have e:cenv.cells.lookup y=some c:=e
    rcases mem e with⟨h1,_⟩ | ⟨_,z⟩
    · obtain⟨w,z⟩:=I.cell y c h1
      exact⟨w,z.keeps kp⟩
    · exact⟨_,z⟩
  · show H cenv.locals=none
    rw[hL];exact I.hok.fresh (Nat.le_refl _)
  · have e:cenv.cells.lookup y=some c:=e
    rcases mem e with⟨h1,_⟩ | ⟨h1,_⟩
    · exact I.freeC y c h1
    · exact I.hok.fresh (Nat.le_of_succ_le h1)
  · exact absurd (show p∈([]:List (Addr×Obj))++[]from hp) (by simp)
theorem app_ok {E:Value->Shared->Prop} {D:Addr} {xs:List V} {y:V} {v:Value} {Q:Value->Shared->Prop} (I:Inv X pins σ H s) (hD:H D=some (.lst xs)) (hz:xs.length < sizeLine) (r:RelV y v)
    (h:∀s',Inv X pins σ (upd H D (.lst (xs++[y]))) s'->Q .none s'):wpAny (model X.prog X.w) X.A (call (.builtin "list.append") [.ref D,v]) Q E s:=by
  obtain⟨hz',its,n,ri,e⟩:=I.hok D _ hD
  have hl:=ri.length
  refine append_at (hsz:=by rw[List.size_toArray];omega) e fun h' sb ho'=> ?_
  refine h {s with heap:=h'} (I.write (t':=s.toks) (by rw[hD];trivial) (.inl rfl) (fun b u hb q=>(sb.2 b hb).trans q) ⟨_,ho'⟩ ⟨by rw[List.length_append];exact hz,its++[v],n+1,ri.append (.cons r .nil),?_⟩)
  rw[ho']
  simp
def PTs (X:Cx) (ifs:List Expr) (t:TT):Prop:=
  ∀(pins:List (Addr×Obj)) (s:Shared) (σ:St) (H:Hp) (Q:Bool->Hp->Prop),Inv X pins σ H s->t σ H Q->
    wpAny (model X.prog X.w) X.A (forIn ifs true fun c r=>if r=true then do let ok ←isTrue c X.env (eval c X.env);pure (ForInStep.yield ok)else pure (ForInStep.yield r)) (TP X pins σ Q) X.xe s
def tYes:TT:=fun _ H Q=>Q true H
theorem pts_nil:PTs X [] tYes:=fun _ _ _ H _ I h=>wpAny_tests_nil ⟨H,I,h⟩
end
theorem thnF {α:Type} {t:Sem α} {Q Q':α->Shared->Prop} {M:Model} {A:Around} {E:Value->Shared->Prop} {s:Shared} (h:wpAny M A t Q (fun _ _=>False) s) (hQ:∀a s,Q a s->Q' a s):wpAny M A t Q' E s:=wpAny_mono h hQ fun _ _ z=>False.elim z
theorem compLoop_any {prog:Program} {w:World} {A:Around} {R:Result->Shared->Prop} {s:Shared} {elt target iter:Expr} {ifs:List Expr} {scope:Scope} {pos:Pos} {it acc:Value} {env:Env} (I:Nat->Shared->Prop)
    (turn:∀n s,I n s->wpAny (model prog w) A (pyNext it) (fun r s₁=>match r with
      | none=>R (.ok .next) s₁
      | some v=>wpAny (model prog w) A (letOwnedTupleGo target it v) (fun _ s₁'=>wpAny (model prog w) A (assign target env v) (fun _ s₂=>
          wpAny (model prog w) A (forIn ifs true fun c r=>if r=true then do let ok ←isTrue c env (eval c env);pure (ForInStep.yield ok)else pure (ForInStep.yield r)) (fun ok s₃=>
            if ok=true then wpAny (model prog w) A (eval elt env) (fun x s₄=>
              wpAny (model prog w) A (call (.builtin "list.append") [acc,x]) (fun _ s₅=>∃m,m < n/\I m s₅) (notedBy (model prog w) A env fun e s'=>R (.error e) s') s₄) (notedBy (model prog w) A env fun e s'=>R (.error e) s') s₃
            else ∃m,m < n/\I m s₃) (notedBy (model prog w) A env fun e s'=>R (.error e) s') s₂) (notedBy (model prog w) A env fun e s'=>R (.error e) s') s₁') (notedBy (model prog w) A env fun e s'=>R (.error e) s') s₁) (notedBy (model prog w) A env fun e s'=>R (.error e) s') s)
    (n:Nat) (h:I n s):
    codeAny (model prog w) A (.compLoop (.ListComp elt [⟨target,iter,ifs,0⟩] scope pos) 0 it acc env) R s:=by
  refine codeAny_loop rfl I (fun n s hI=> ?_) n h
  show wpAny _ A ((compTurn (.ListComp elt [⟨target,iter,ifs,0⟩] scope pos) 0 it acc env).onRaise (fun x=>do noteFrame x env;theTreesLotGoes x)) _ _ s
  refine wpAny_noted ?_
  rw[compTurn_list]
  refine wpAny_bind (wpAny_standAt (wpAny_bind (wpAny_mono (turn n s hI) (fun r s₁ h₁=> ?_) fun _ _ h'=>h')))
  cases r with
  | none=>exact wpAny_pure h₁
  | some v=>
    refine wpAny_bind (wpAny_mono h₁ (fun _ s₁' h₁'=> ?_) fun _ _ h'=>h')
    refine wpAny_bind (wpAny_mono h₁' (fun _ s₂ h₂=>wpAny_bind (wpAny_mono h₂ (fun ok s₃ h₃=> ?_) fun _ _ h'=>h')) fun _ _ h'=>h')
    cases ok with
    | false=>exact wpAny_pure ⟨rfl,h₃⟩
    | true=>
      exact wpAny_bind (wpAny_bind (wpAny_mono h₃ (fun x s₄ h₄=>wpAny_bind (wpAny_mono h₄ (fun _ s₅ h₅=>wpAny_pure (wpAny_pure ⟨rfl,h₅⟩)) fun _ _ h'=>h')) fun _ _ h'=>h'))
section
variable {X:Cx}
def tLc (wi:TI) (g:TG) (tt:TT) (te:TE) (vs:List Nat):TE:=fun σ H Q=>wi σ H fun J H1=>∀D,H1 D=none->∃W:Nat->Nat->Hp->Prop,(∃m,W 0 m (upd H1 D (.lst [])))/\∀i m H,W i m H->
  (J.stop i H/\Q (.ref D) H)∨(J.go i H/\∃Nx:Hp->Prop,(∀H',Nx H'->∃m',m' < m/\W (i+1) m' H')/\∀x H',J.yld i H x H'->g x (wipe σ vs) H' fun σ2 H2=>wipe σ2 vs=wipe σ vs/\tt σ2 H2 fun b H3=>
    if b=true then te σ2 H3 fun y H4=>∃acc,H4 D=some (.lst acc)/\acc.length < sizeLine/\Nx (upd H4 D (.lst (acc++[y])))else Nx H3)
theorem lc_core {pins:List (Addr×Obj)} {s:Shared} {σ:St} {H:Hp} {Q:VK} {elt tg iter:Expr} {ifs:List Expr} {scope:Scope} {own:List (Str×Nat)} {pos pos':Pos} {wi:TI} {g:TG} {tt:TT} {te:TE} {use:Option (Value->Sem Unit)} {Qf:Value->Shared->Prop}
    (hc:X.calm=true) (hN:X.N.Nodup) (I:Inv X pins σ H s) (hi:PI X tg iter wi) (ok:BlkOk X.N X.env.scope scope own)
    (hg:∀(s:Shared) (H:Hp) (C:Addr) (cl:List (Str×Addr)) (fp:List Addr),PG (X.blk s H scope (compEnvC scope cl C X.env) fp) tg g) (ht:∀(s:Shared) (H:Hp) (C:Addr) (cl:List (Str×Addr)) (fp:List Addr),PTs (X.blk s H scope (compEnvC scope cl C X.env) fp) ifs tt)
    (he:∀(s:Shared) (H:Hp) (C:Addr) (cl:List (Str×Addr)) (fp:List Addr),PE (X.blk s H scope (compEnvC scope cl C X.env) fp) elt te) (hs:∀x,foldedSetIterable iter X.env x=pure x)
    (h:tLc wi g tt te (own.map (·.2)) σ H Q)
    (hRR:∀D C s' m H',Inv X pins σ H' s'->Q (.ref D) H'->s'.heap.Ns C m->FpOk X pins H' C->compPost (model X.prog X.w) X.A X.xe use Qf (.ref D) C (.ok .next) s'):
    wpAny (model X.prog X.w) X.A (comprehension (.ListComp elt [⟨tg,iter,ifs,0⟩] scope pos) scope X.env pos' (newList []) false (eval iter X.env) use) Qf X.xe s:=by
  have hfree:∀y∈scope.names,y.2= .free->∃c,X.env.cells.lookup y.1=some c:=fun y hy e=>by
    rcases ok.free y hy e with k | k
    · exact I.ok.has _ (.inl k)
    · exact I.ok.has _ (.inr k)
  refine wpAny_comprehension_free (use:=use) rfl hs (closure_ok hfree) ok.kind (fun y hy e=>by rw[ok.uniq y hy,e])
    (thn (hi pins s σ H _ I h) fun xv s1 hx=>thn hx fun itv s2 h2=> ?_)
  obtain⟨it,fp,tn,J,H2,e,I2,T,st2,f2,q⟩:=h2
  subst e
  refine wpAny_newObj_type (newEnv_comp ?_) (by show 0≤sizeLine;decide)
  generalize hD:s2.heap.objs.size=D
  have hDn:H2 D=none:=I2.hok.fresh (Nat.le_of_eq hD)
  obtain⟨W,⟨m0,w0⟩,turn⟩:=q D hDn
  generalize hs3:({s2 with heap:=s2.heap.push {cls:= .type "list",data:= .seq ([]:List Value).toArray}}:Shared)=s3
  have I3:Inv X pins σ (upd H2 D (.lst [])) s3:=by
    rw[←hs3]
    refine I2.laid (t':=s2.toks) (fun b o e=>Heap.get?_push_of_some _ e) (Nat.le_of_eq hD) ⟨Nat.zero_le _,[],0,.nil,?_⟩
    rw[←hD]
    exact Heap.get?_push_size _ rfl
  have h3:s3.heap=s2.heap.push {cls:= .type "list",data:= .seq ([]:List Value).toArray}:=by rw[←hs3]
  have sz:∀b∈fp,b < s2.heap.objs.size:=fun b hb=>by
    obtain⟨o,e,_⟩:=T.obj _ _ st2 b hb
    exact Heap.lt_size e
  have f3:∀b∈fp,FpOk X pins (upd H2 D (.lst [])) b/\b < s3.heap.objs.size:=fun b hb=>by
    have hlt:=sz b hb
    refine⟨⟨?_,(f2 b hb).2⟩,by rw[h3,Heap.size_push];exact Nat.lt_succ_of_lt hlt⟩
    rw[upd_ne (by rw[←hD];exact Nat.ne_of_lt hlt)]
    exact(f2 b hb).1
  have st3:tn 0 s3.heap:=T.keep _ _ _ st2 fun b _ o e=>by rw[h3];exact Heap.get?_push_of_some _ e
  have I4:=block_start I3 ok hN f3
  have pg:=hg s3 (upd H2 D (.lst [])) s3.heap.objs.size (cellsFrom (s3.heap.objs.size+1) scope.names (cloFrom X.env.cells scope.names [])) fp
  have pt:=ht s3 (upd H2 D (.lst [])) s3.heap.objs.size (cellsFrom (s3.heap.objs.size+1) scope.names (cloFrom X.env.cells scope.names [])) fp
  have pe:=he s3 (upd H2 D (.lst [])) s3.heap.objs.size (cellsFrom (s3.heap.objs.size+1) scope.names (cloFrom X.env.cells scope.names [])) fp
  show codeAny _ _ (.compStart (.ListComp elt [⟨tg,iter,ifs,0⟩] scope pos) 0 (.ref it) (.ref D) (compEnvC scope (cellsFrom (s3.heap.objs.size+1) scope.names (cloFrom X.env.cells scope.names [])) s3.heap.objs.size X.env)) (compPost (model X.prog X.w) X.A X.xe use Qf (.ref D) s3.heap.objs.size) {s3 with heap:=pushCells (s3.heap.push {cls:= .type "dict",data:= .dict #[]}) scope.names}
  have nfp:∀b∈fp,(upd H2 D (.lst [])) b=none:=fun b hb=>(f3 b hb).1.1
  generalize hce:compEnvC scope (cellsFrom (s3.heap.objs.size+1) scope.names (cloFrom X.env.cells scope.names [])) s3.heap.objs.size X.env=ce at I4 pg pt pe ⊢
  have cL:ce.locals=s3.heap.objs.size:=by subst hce;rfl
  generalize hH3:upd H2 D (.lst [])=H3 at I3 I4 pg pt pe w0 nfp f3
  generalize hs4:({s3 with heap:=pushCells (s3.heap.push {cls:= .type "dict",data:= .dict #[]}) scope.names}:Shared)=s4 at I4 ⊢
  have st4:tn 0 s4.heap:=T.keep _ _ _ st3 fun b _ o e=>by rw[←hs4];exact pushCells_keeps _ _ _ _ (Heap.get?_push_of_some _ e)
  have stat:∀{σ':St} {H':Hp} {s':Shared},Inv (X.blk s3 H3 scope ce fp) [] σ' H' s'->(∀b∈fp,H' b=none)->∀b∈fp,FpOk (X.blk s3 H3 scope ce fp) [] H' b:=fun{σ' H' s'} I' hn b hb=>
    ⟨hn b hb,(I'.ok.exf b hb).1,I'.ok.exfs b hb,.inl hb,fun x c e=>(I'.ok.exf b hb).2 x c e,fun p hp=>absurd (show p∈([]:List (Addr×Obj))++[]from hp) (by simp)⟩
  have loop:codeAny (model X.prog X.w) X.A (.compLoop (.ListComp elt [⟨tg,iter,ifs,0⟩] scope pos) 0 (.ref it) (.ref D) ce) (compPost (model X.prog X.w) X.A X.xe use Qf (.ref D) s3.heap.objs.size) s4:=by
    refine compLoop_any (fun n s'=>∃i H',Inv (X.blk s3 H3 scope ce fp) [] (wipe σ (own.map (·.2))) H' s'/\tn i s'.heap/\(∀b∈fp,H' b=none)/\W i n H') ?_ m0 ⟨0,H3,I4,st4,nfp,w0⟩
    rintro n s5 ⟨i,H5,I5,st5,n5,w5⟩
    rcases turn i n H5 w5 with⟨stop,qq⟩ | ⟨go,Nx,hNx,step⟩
    · have td:=T.done (X.blk s3 H3 scope ce fp) rfl rfl rfl hc i [] s5 _ H5 (fun _ _=>False) I5 (stat I5 n5) st5 stop
      refine thnF td fun r s6 ⟨hr,I6⟩=> ?_
      subst hr
      have I7:Inv X pins σ H5 s6:=I3.call' (ch:=fp) I6.os I6.base I6.hok I6.bare fun b hb=>⟨(f3 b hb).1.2.2.2.1,(f3 b hb).1.2.1,(f3 b hb).1.2.2.2.2.1,(f3 b hb).1.2.2.2.2.2⟩
      have nC:H5 s3.heap.objs.size=none:=by
        have z:H5 ce.locals=none:=I6.free
        rw[cL]at z
        exact z
      obtain⟨m,hn,_⟩:=I6.loc
      have hn:s6.heap.Ns ce.locals m:=hn
      rw[cL]at hn
      exact hRR D s3.heap.objs.size s6 m H5 I7 qq hn (I3.fpOk (Nat.le_refl _) nC)
    · have ti:=T.item (X.blk s3 H3 scope ce fp) rfl rfl rfl hc i [] s5 _ H5 (fun _ _=>False) I5 (stat I5 n5) st5 go
      refine thnF ti fun r s6 ⟨u,hr,h6⟩=> ?_
      subst hr
      refine thnF h6 fun _ s7 ⟨x,H7,I7,r7,y7,st7,n7⟩=> ?_
      have I7':=I7.pinned (stat I7 n7) (T.obj _ _ st7)
      refine thnF (pg _ s7 _ H7 x u _ I7' r7 (step x H7 y7)) fun _ s8 ⟨σ8,H8,I8,hw8,q8⟩=> ?_
      refine thnF (pt _ s8 σ8 H8 _ I8 q8) fun b s9 ⟨H9,I9,q9⟩=> ?_
      have fin:∀{s':Shared} {H':Hp},Inv (X.blk s3 H3 scope ce fp) ([]++pinsAt fp s7.heap) σ8 H' s'->Nx H'->∃m,m < n/\∃i H',Inv (X.blk s3 H3 scope ce fp) [] (wipe σ (own.map (·.2))) H' s'/\tn i s'.heap/\(∀b∈fp,H' b=none)/\W i m H':=fun{s' H'} I' nx=>by
        obtain⟨m',hm,w'⟩:=hNx H' nx
        have pin':∀b∈fp,∀o,s7.heap.get? b=some o->s'.heap.get? b=some o/\H' b=none:=fun b hb o e=>
          let z:=I'.pin (b,o) (List.mem_append_right _ (List.mem_append_right _ (mem_pinsAt hb e)))
          ⟨z.1,z.2.1⟩
        have hl:(wipe σ (own.map (·.2))).length=σ8.length:=by rw[←hw8,wipe_length]
        refine⟨m',hm,i+1,H',(I'.unpinned (pins:=[])).weak hl (fun j v e=> ?_),T.keep _ _ _ st7 fun b hb o e=>(pin' b hb o e).1,fun b hb=> ?_,w'⟩
        · rw[←hw8]at e
          exact(wipe_some e).1
        · obtain⟨o,e,_⟩:=T.obj _ _ st7 b hb
          exact(pin' b hb o e).2
      cases b with
      | false=>
        simp only[Bool.false_eq_true,if_false]at q9 ⊢
        exact fin I9 q9
      | true=>
        simp only[if_true]at q9 ⊢
        refine thnF (pe _ s9 σ8 H9 _ I9 q9) fun z s10 ⟨yv,H10,I10,r10,acc,hD10,hz10,nx⟩=> ?_
        exact app_ok (X:=X.blk s3 H3 scope ce fp) I10 hD10 hz10 r10 fun s11 I11=>fin I11 nx
  exact codeAny_compStart_list loop (T.self X.A 0 _ _ _ st4 loop)
theorem pe_lc {elt tg iter:Expr} {ifs:List Expr} {scope:Scope} {own:List (Str×Nat)} {pos:Pos} {wi:TI} {g:TG} {tt:TT} {te:TE} (hc:X.calm=true) (hN:X.N.Nodup) (hi:PI X tg iter wi) (ok:BlkOk X.N X.env.scope scope own)
    (hg:∀(s:Shared) (H:Hp) (C:Addr) (cl:List (Str×Addr)) (fp:List Addr),PG (X.blk s H scope (compEnvC scope cl C X.env) fp) tg g) (ht:∀(s:Shared) (H:Hp) (C:Addr) (cl:List (Str×Addr)) (fp:List Addr),PTs (X.blk s H scope (compEnvC scope cl C X.env) fp) ifs tt)
    (he:∀(s:Shared) (H:Hp) (C:Addr) (cl:List (Str×Addr)) (fp:List Addr),PE (X.blk s H scope (compEnvC scope cl C X.env) fp) elt te) (hs:∀x,foldedSetIterable iter X.env x=pure x:=by intro _;rfl):
    PE X (.ListComp elt [⟨tg,iter,ifs,0⟩] scope pos) (tLc wi g tt te (own.map (·.2))):=by
  intro pins s σ H Q I h
  rw[eval_ListComp]
  refine lc_core hc hN I hi ok hg ht he hs h fun D C s' m H' I' q hn f=>⟨m,hn,fun h'' sb=> ?_⟩
  obtain⟨f0,f1,f2,f3,f4,f5⟩:=f
  exact⟨.ref D,H',I'.turned (t':=s'.toks) (fun b o hb e=>(sb.2 b hb).trans e) f0 f1 f3 f4 f5,rfl,q⟩
theorem ps_setLc {i:Nat} {y:Str} {py:Pos} {elt tg iter:Expr} {ifs:List Expr} {scope:Scope} {own:List (Str×Nat)} {pos spos:Pos} {wi:TI} {g:TG} {tt:TT} {te:TE} (hc:X.calm=true) (hN:X.N.Nodup) (hy:X.N[i]? =some y) (hyl:X.env.scope.names.lookup y=some .local)
    (hsw:swapsWith (.ListComp elt [⟨tg,iter,ifs,0⟩] scope pos) (some (.Name y py)) spos.line X.env=pure true) (hi:PI X tg iter wi) (ok:BlkOk X.N X.env.scope scope own)
    (hg:∀(s:Shared) (H:Hp) (C:Addr) (cl:List (Str×Addr)) (fp:List Addr),PG (X.blk s H scope (compEnvC scope cl C X.env) fp) tg g) (ht:∀(s:Shared) (H:Hp) (C:Addr) (cl:List (Str×Addr)) (fp:List Addr),PTs (X.blk s H scope (compEnvC scope cl C X.env) fp) ifs tt)
    (he:∀(s:Shared) (H:Hp) (C:Addr) (cl:List (Str×Addr)) (fp:List Addr),PE (X.blk s H scope (compEnvC scope cl C X.env) fp) elt te) (hs:∀x,foldedSetIterable iter X.env x=pure x:=by intro _;rfl):
    PS X (.Assign [.Name y py] (.ListComp elt [⟨tg,iter,ifs,0⟩] scope pos) spos) (tAsg (tLc wi g tt te (own.map (·.2))) (gName i)):=by
  intro pins s σ H D I h
  rw[exec_Assign_Name_used _ _ _ _ hsw]
  refine wpAny_bind (wpAny_standAt (wpAny_bind ?_))
  show wpAny _ X.A (do let _ ←comprehension (.ListComp elt [⟨tg,iter,ifs,0⟩] scope pos) scope X.env (firstIterPos [⟨tg,iter,ifs,0⟩] pos) (newList []) false (eval iter X.env) (some (assign (.Name y py) X.env))) _ _ s
  have h:tLc wi g tt te (own.map (·.2)) σ H (fun x H1=>gName i x σ H1 D.nx):=h
  refine wpAny_bind (thn (lc_core (Qf:=fun _ s'=>SP X pins D .next s') hc hN I hi ok hg ht he hs h fun L C s' m H' I' q hn f=> ?_) fun _ s' hq=>wpAny_pure (wpAny_pure hq))
  show wpAny _ _ (assign (.Name y py) X.env (.ref L)) _ _ _
  refine wpAny_assign_Name (store_ok2 (v:=V.ref L) I' hN hy (.inl hyl) rfl (fun s2 I2 ⟨a,sb,ha⟩=> ?_) (.inr hyl))
  obtain⟨f0,f1,f2,f3,f4,f5⟩:=f
  have haC:C≠a:=by
    rcases ha with z | z
    · rw[z];exact f1
    · exact fun e=>f4 y a z e.symm
  refine⟨m,hn.sameBut sb haC,fun h3 sb3=> ?_⟩
  exact⟨_,H',I2.turned (t':=s2.toks) (fun b o hb e=>(sb3.2 b hb).trans e) f0 f1 f3 f4 f5,q⟩
theorem sw_true {elt:Expr} {gs:List Comprehension} {scope:Scope} {pos py:Pos} {y:Str} {l:Nat} {env:Env} (hk:env.scope.kind= .function) (hy:env.scope.names.lookup y=some .local) (hl:(py.line == pos.line)=true)
    (ha:(scope.names.any fun(n,k)=>n == y && (k == .local || k == .cell))=false):swapsWith (.ListComp elt gs scope pos) (some (.Name y py)) l env=pure true:=by
  have ky:env.kindOf y=some .local:=hy
  have hb:env.blockKind= .function:=by unfold Env.blockKind;rw[hk];rfl
  unfold swapsWith
  simp only[hb,ky,ha,Expr.pos,hl]
  rfl
end
theorem lc_list {K:PySem.W.Frag} {a:Addr} {xs:List V} {g:TG} {tt:TT} {te:TE} {vs:List Nat} {σ:St} {H1:Hp} {D:Addr} {Qd:Hp->Prop} (Pv:Nat->Hp->Prop) (h0:Pv 0 (upd H1 D (.lst []))) (hl:∀i H,i≤xs.length->Pv i H->SqL K H a xs)
    (hs:∀i x H,xs[i]? =some x->Pv i H->g x (wipe σ vs) H fun σ2 H2=>wipe σ2 vs=wipe σ vs/\tt σ2 H2 fun b H3=>
      if b=true then te σ2 H3 fun y H4=>∃acc,H4 D=some (.lst acc)/\acc.length < sizeLine/\Pv (i+1) (upd H4 D (.lst (acc++[y])))else Pv (i+1) H3) (hd:∀H,Pv xs.length H->Qd H):
    ∃W:Nat->Nat->Hp->Prop,(∃m,W 0 m (upd H1 D (.lst [])))/\∀i m H,W i m H->
      ((Itl K a).stop i H/\Qd H)∨((Itl K a).go i H/\∃Nx:Hp->Prop,(∀H',Nx H'->∃m',m' < m/\W (i+1) m' H')/\∀x H',(Itl K a).yld i H x H'->g x (wipe σ vs) H' fun σ2 H2=>wipe σ2 vs=wipe σ vs/\tt σ2 H2 fun b H3=>
        if b=true then te σ2 H3 fun y H4=>∃acc,H4 D=some (.lst acc)/\acc.length < sizeLine/\Nx (upd H4 D (.lst (acc++[y])))else Nx H3):=by
  refine⟨fun i m H=>m=xs.length - i/\i≤xs.length/\Pv i H,⟨xs.length,by simp,Nat.zero_le _,h0⟩,?_⟩
  rintro i m H ⟨rfl,hi,p⟩
  have q:=hl i H hi p
  by_cases hlt:i < xs.length
  · refine .inr ⟨⟨xs,xs[i],q,by simp[hlt]⟩,Pv (i+1),fun H' p'=>⟨xs.length - (i+1),by omega,rfl,hlt,p'⟩,fun x H' y=> ?_⟩
    obtain⟨e,y⟩:=y
    subst e
    exact hs i x _ (y xs q) p
  · have e:i=xs.length:=by omega
    subst e
    exact .inl ⟨⟨xs,q,Nat.le_refl _⟩,hd H p⟩
theorem lc_tup {K:PySem.W.Frag} {a:Addr} {xs:List V} {g:TG} {tt:TT} {te:TE} {vs:List Nat} {σ:St} {H1:Hp} {D:Addr} {Qd:Hp->Prop} (Pv:Nat->Hp->Prop) (h0:Pv 0 (upd H1 D (.lst []))) (hl:∀i H,i≤xs.length->Pv i H->SqT K H a xs)
    (hs:∀i x H,xs[i]? =some x->Pv i H->g x (wipe σ vs) H fun σ2 H2=>wipe σ2 vs=wipe σ vs/\tt σ2 H2 fun b H3=>
      if b=true then te σ2 H3 fun y H4=>∃acc,H4 D=some (.lst acc)/\acc.length < sizeLine/\Pv (i+1) (upd H4 D (.lst (acc++[y])))else Pv (i+1) H3) (hd:∀H,Pv xs.length H->Qd H):
    ∃W:Nat->Nat->Hp->Prop,(∃m,W 0 m (upd H1 D (.lst [])))/\∀i m H,W i m H->
      ((Itt K a).stop i H/\Qd H)∨((Itt K a).go i H/\∃Nx:Hp->Prop,(∀H',Nx H'->∃m',m' < m/\W (i+1) m' H')/\∀x H',(Itt K a).yld i H x H'->g x (wipe σ vs) H' fun σ2 H2=>wipe σ2 vs=wipe σ vs/\tt σ2 H2 fun b H3=>
        if b=true then te σ2 H3 fun y H4=>∃acc,H4 D=some (.lst acc)/\acc.length < sizeLine/\Nx (upd H4 D (.lst (acc++[y])))else Nx H3):=by
  refine⟨fun i m H=>m=xs.length - i/\i≤xs.length/\Pv i H,⟨xs.length,by simp,Nat.zero_le _,h0⟩,?_⟩
  rintro i m H ⟨rfl,hi,p⟩
  have q:=hl i H hi p
  by_cases hlt:i < xs.length
  · refine .inr ⟨⟨xs,xs[i],q,by simp[hlt]⟩,Pv (i+1),fun H' p'=>⟨xs.length - (i+1),by omega,rfl,hlt,p'⟩,fun x H' y=> ?_⟩
    obtain⟨e,y⟩:=y
    subst e
    exact hs i x _ (y xs q) p
  · have e:i=xs.length:=by omega
    subst e
    exact .inl ⟨⟨xs,q,Nat.le_refl _⟩,hd H p⟩
def blkC (N:List Str) (sc scope:Scope) (own:List (Str×Nat)):Bool:=
  (match scope.kind with | .function=>true | _=>false) && (scope.names.all fun y=>decide (scope.names.lookup y.1=some y.2)) && (own.all fun p=>decide (N[p.2]? =some p.1)) &&
    (scope.names.all fun y=>match y.2 with
      | .free=>(match sc.names.lookup y.1 with | some .cell=>true | some .free=>true | _=>false)
      | .local=>decide (y.1∈own.map (·.1)) || decide (y.1 ∉ N)
      | .cell=>decide (y.1∈own.map (·.1)) || decide (y.1 ∉ N)
      | _=>true)
theorem blkOk_by {N:List Str} {sc scope:Scope} {own:List (Str×Nat)} (h:blkC N sc scope own=true):BlkOk N sc scope own:=by
  unfold blkC at h
  simp only[Bool.and_eq_true,List.all_eq_true,decide_eq_true_eq]at h
  obtain⟨⟨⟨h1,h2⟩,h3⟩,h4⟩:=h
  refine⟨?_,h2,h3,fun y hy e=> ?_,fun y hy e=> ?_⟩
  · split at h1
    · assumption
    · cases h1
  · have q:=h4 y hy
    simp only[e]at q
    split at q <;> first | exact .inl (by assumption) | exact .inr (by assumption) | cases q
  · have q:=h4 y hy
    rcases e with e | e <;> (simp only[e,Bool.or_eq_true,decide_eq_true_eq]at q;exact q)
end L2
namespace L2
open PySem PySem.Spec PyProof.Rows
section
variable {prog:Program} {w:World} {A:Around} {R:Result->Shared->Prop} {s:Shared} {elt t0 i0 t1 i1:Expr} {ifs0 ifs1:List Expr} {scope:Scope} {pos:Pos} {it acc:Value} {env:Env}
end
section
variable {X:Cx}
end
end L2
namespace L2
open PySem PySem.Spec PyProof.Rows
section
variable {κ:Type} [DecidableEq κ]
def valV (kvs:List (κ×V)) (k:κ):Option V:=(kvs.find? fun kv=>decide (kv.1=k)).map (·.2)
def putK (kvs:List (κ×V)) (k:κ) (v:V):List (κ×V):=
  if (kvs.any fun kv=>decide (kv.1=k))=true then kvs.map (fun kv=>if kv.1=k then(kv.1,v)else kv)else kvs++[(k,v)]
def dropK (kvs:List (κ×V)) (k:κ):List (κ×V):=kvs.filter fun kv=>decide (kv.1≠k)
theorem valV_pos {p:κ×V} {r:List (κ×V)} {k:κ} (e:p.1=k):valV (p::r) k=some p.2:=by simp[valV,List.find?_cons,e]
theorem valV_neg {p:κ×V} {r:List (κ×V)} {k:κ} (e:¬p.1=k):valV (p::r) k=valV r k:=by simp[valV,List.find?_cons,e]
theorem valV_any (k:κ):∀kvs:List (κ×V),(kvs.any fun kv=>decide (kv.1=k))=(valV kvs k).isSome
  | []=>rfl
  | p::r=>by
    rw[List.any_cons]
    by_cases e:p.1=k
    · simp only[valV_pos e,decide_eq_true e,Bool.true_or,Option.isSome_some]
    · rw[valV_neg e,decide_eq_false e,Bool.false_or];exact valV_any k r
theorem length_putK (kvs:List (κ×V)) (k:κ) (v:V):(putK kvs k v).length≤kvs.length+1:=by
  unfold putK
  split
  · rw[List.length_map];omega
  · rw[List.length_append,List.length_cons,List.length_nil];omega
theorem RelO.isSome_eq {o:Option V} {u:Option Value} (r:RelO o u):o.isSome=u.isSome:=by
  cases o with
  | none=>cases u with
    | none=>rfl
    | some _=>exact(show False from r).elim
  | some _=>cases u with
    | none=>exact(show False from r).elim
    | some _=>rfl
theorem RelO.getD {o:Option V} {u:Option Value} {d:V} {d':Value} (r:RelO o u) (rd:RelV d d'):RelV (o.getD d) (u.getD d'):=by
  cases o with
  | none=>cases u with
    | none=>exact rd
    | some _=>exact(show False from r).elim
  | some _=>cases u with
    | none=>exact(show False from r).elim
    | some _=>exact r
theorem KV.val {kvs:List (κ×V)} {vs:List (κ×Value)} (r:KV kvs vs) (k:κ):RelO (valV kvs k) (valueAt vs k):=by
  unfold KV at r
  induction r with
  | nil=>exact True.intro
  | @cons p q ps qs h t ih=>
    obtain⟨h1,h2⟩:=h
    by_cases e:p.1=k
    · have e':q.1=k:=h1.symm.trans e
      have b:valueAt (q::qs) k=some q.2:=by simp[valueAt,List.find?_cons,e']
      rw[valV_pos e,b];exact h2
    · have e':¬q.1=k:=fun z=>e (h1.trans z)
      have b:valueAt (q::qs) k=valueAt qs k:=by simp[valueAt,List.find?_cons,e']
      rw[valV_neg e,b];exact ih
theorem KV.any {kvs:List (κ×V)} {vs:List (κ×Value)} (r:KV kvs vs) (k:κ):(kvs.any fun kv=>decide (kv.1=k))=vs.any fun kv=>decide (kv.1=k):=by
  unfold KV at r
  induction r with
  | nil=>rfl
  | cons h t ih=>rw[List.any_cons,List.any_cons,ih,h.1]
theorem KV.repl {kvs:List (κ×V)} {vs:List (κ×Value)} (r:KV kvs vs) (k:κ) {y:V} {u:Value} (ry:RelV y u):
    KV (kvs.map fun kv=>if kv.1=k then(kv.1,y)else kv) (vs.map fun kv=>if kv.1=k then(kv.1,u)else kv):=by
  unfold KV at r ⊢
  induction r with
  | nil=>exact .nil
  | @cons p q ps qs h t ih=>
    rw[List.map_cons,List.map_cons]
    refine .cons ?_ ih
    obtain⟨h1,h2⟩:=h
    by_cases e:p.1=k
    · rw[if_pos e,if_pos (h1.symm.trans e)];exact⟨h1,ry⟩
    · rw[if_neg e,if_neg (fun z=>e (h1.trans z))];exact⟨h1,h2⟩
theorem KV.put {kvs:List (κ×V)} {vs:List (κ×Value)} (r:KV kvs vs) (k:κ) {y:V} {u:Value} (ry:RelV y u):KV (putK kvs k y) (stored vs k u):=by
  unfold putK stored
  rw[r.any k]
  by_cases e:(vs.any fun kv=>decide (kv.1=k))=true
  · rw[if_pos e,if_pos e];exact r.repl k ry
  · rw[if_neg e,if_neg e];exact Paired.snoc r ⟨rfl,ry⟩
theorem KV.length {kvs:List (κ×V)} {vs:List (κ×Value)} (r:KV kvs vs):kvs.length=vs.length:=Paired.length r
theorem dropK_le (kvs:List (κ×V)) (k:κ):(dropK kvs k).length≤kvs.length:=List.length_filter_le _ _
end
theorem kV_is {P:Program} {w:World} {k:Key} {u:Value} (r:RelV (kV k) u):(mixKind P w).is k u=true:=by
  cases k with
  | inl i=>obtain⟨t,e⟩:=(show ∃t,u=Value.int i t from r);subst e;exact mixKind_int P w i t
  | inr x=>obtain⟨t,e⟩:=(show ∃t,u=Value.str x t from r);subst e;exact mixKind_str P w x t
theorem items_are {P:Program} {w:World}:∀{ks:List Key} {us:List Value},Vals (ks.map kV) us->ItemsAre (mixKind P w) ks us
  | [],_,r=>by rw[List.map_nil]at r;cases r;exact .nil
  | k::ks,_,r=>by
    rw[List.map_cons]at r
    cases r with
    | cons h t=>exact .cons (kV_is h) (items_are t)
abbrev KT (H:Hp):List (List Key×V)->List (List Key×Addr×Value)->Prop:=Paired fun p q=>p.1=q.1/\H q.2.1=some (.tup (p.1.map kV))/\RelV p.2 q.2.2
theorem KT.val {H:Hp} {kvs:List (List Key×V)} {xs:List (List Key×Addr×Value)} (r:KT H kvs xs) (k:List Key):RelO (valV kvs k) ((atKey xs k).map (·.2)):=by
  induction r with
  | nil=>exact True.intro
  | @cons p q ps qs h t ih=>
    obtain⟨h1,_,h2⟩:=h
    by_cases e:p.1=k
    · have e':q.1=k:=h1.symm.trans e
      have b:atKey (q::qs) k=some q.2:=by simp[atKey,List.find?_cons,e']
      rw[valV_pos e,b];exact h2
    · have e':¬q.1=k:=fun z=>e (h1.trans z)
      have b:atKey (q::qs) k=atKey qs k:=by simp[atKey,List.find?_cons,e']
      rw[valV_neg e,b];exact ih
theorem KT.repl {H:Hp} {kvs:List (List Key×V)} {xs:List (List Key×Addr×Value)} (r:KT H kvs xs) (k:List Key) {y:V} {u:Value} (ry:RelV y u):
    KT H (kvs.map fun kv=>if kv.1=k then(kv.1,y)else kv) (xs.map (putAt k u)):=by
  induction r with
  | nil=>exact .nil
  | @cons p q ps qs h t ih=>
    rw[List.map_cons,List.map_cons]
    refine .cons ?_ ih
    obtain⟨h1,h2,h3⟩:=h
    unfold putAt
    by_cases e:p.1=k
    · rw[if_pos e,if_pos (h1.symm.trans e)];exact⟨h1,h2,ry⟩
    · rw[if_neg e,if_neg (fun z=>e (h1.trans z))];exact⟨h1,h2,h3⟩
theorem KT.put {H:Hp} {kvs:List (List Key×V)} {xs:List (List Key×Addr×Value)} (r:KT H kvs xs) (k:List Key) {b:Addr} {y:V} {u:Value} (hb:H b=some (.tup (k.map kV))) (ry:RelV y u):
    KT H (putK kvs k y) (storedH xs k b u):=by
  have e:(kvs.any fun kv=>decide (kv.1=k))=(atKey xs k).isSome:=by
    rw[valV_any,(r.val k).isSome_eq,Option.isSome_map]
  unfold putK storedH
  rw[e]
  by_cases q:(atKey xs k).isSome=true
  · rw[if_pos q,if_pos q];exact r.repl k ry
  · rw[if_neg q,if_neg q];exact Paired.snoc r ⟨rfl,hb,ry⟩
theorem KT.keeps {H H':Hp} {kvs:List (List Key×V)} {xs:List (List Key×Addr×Value)} (r:KT H kvs xs) (ht:∀b ys,H b=some (.tup ys)->H' b=some (.tup ys)):KT H' kvs xs:=
  Paired.mapP r fun _ _ z=>⟨z.1,ht _ _ z.2.1,z.2.2⟩
section
variable {P:Program} {w:World} {H:Hp} {h:Heap} {a:Addr}
theorem rd_of {u:HO} (ok:HOk P w H h) (e:Rd H a u):ObjOk P w H h a u:=e.ok ok
theorem dk_rd {kvs:List (Key×V)} (ok:HOk P w H h) (e:Rd H a (.dK kvs)):kvs.length≤sizeLine/\(a == sysModules)=false/\∃vs,KV kvs vs/\h.DictOf (mixKind P w) a vs:=
  show ObjOk P w H h a (.dK kvs)from rd_of ok e
theorem dk_of {kvs:List (Key×V)} (ok:HOk P w H h) (e:H a=some (.dK kvs)):kvs.length≤sizeLine/\(a == sysModules)=false/\∃vs,KV kvs vs/\h.DictOf (mixKind P w) a vs:=dk_rd ok (.inl e)
theorem key_of {ks:List Key} (ok:HOk P w H h) (e:H a=some (.tup (ks.map kV))):(tupleKind (mixKind P w)).is h ks a:=by
  obtain⟨_,its,r,o,h1,h2,n,h3⟩:=(show ObjOk P w H h a (.tup (ks.map kV))from ok a _ e)
  exact⟨o,its.toArray,n,h1,h2,h3,by simpa using items_are r⟩
theorem dt_rd {kvs:List (List Key×V)} (ok:HOk P w H h) (e:Rd H a (.dT kvs)):kvs.length≤sizeLine/\(a == sysModules)=false/\
    ∃xs,KT H kvs xs/\h.DictOfH (tupleKind (mixKind P w)) a xs:=by
  obtain⟨z,y,xs,r,o,es,ep,h1,h2,h3,h4,h5⟩:=(show ObjOk P w H h a (.dT kvs)from rd_of ok e)
  refine⟨z,y,xs,r,o,es,ep,h1,h2,h3,h4,fun x hx=> ?_,h5⟩
  have all:∀{l:List (List Key×V)} {m:List (List Key×Addr×Value)},KT H l m->∀x∈m,(tupleKind (mixKind P w)).is h x.1 x.2.1:=by
    intro l m q
    induction q with
    | nil=>intro x hx;exact nomatch hx
    | @cons p q ps qs hq t ih=>
      intro x hx
      rcases List.mem_cons.mp hx with e | hx
      · subst e
        exact key_of ok (by rw[←hq.1];exact hq.2.1)
      · exact ih x hx
  exact all r x hx
theorem dt_of {kvs:List (List Key×V)} (ok:HOk P w H h) (e:H a=some (.dT kvs)):kvs.length≤sizeLine/\(a == sysModules)=false/\
    ∃xs,KT H kvs xs/\h.DictOfH (tupleKind (mixKind P w)) a xs:=dt_rd ok (.inl e)
end
def DGet (H:Hp) (a:Addr) (y:V) (r:Option V):Prop:=
  (∃kvs k,Rd H a (.dK kvs)/\y=kV k/\r=valV kvs k)∨∃kvs k b,Rd H a (.dT kvs)/\y= .ref b/\H b=some (.tup (k.map kV))/\r=valV kvs k
def DPut (H:Hp) (a:Addr) (y v:V) (H':Hp):Prop:=
  (∃kvs k,H a=some (.dK kvs)/\y=kV k/\kvs.length < sizeLine/\H'=upd H a (.dK (putK kvs k v)))∨
  ∃kvs k b,H a=some (.dT kvs)/\y= .ref b/\H b=some (.tup (k.map kV))/\kvs.length < sizeLine/\H'=upd H a (.dT (putK kvs k v))
theorem DGet.t {H:Hp} {a b:Addr} {kvs:List (List Key×V)} {k:List Key} (e:H a=some (.dT kvs)) (eb:H b=some (.tup (k.map kV))):DGet H a (.ref b) (valV kvs k):= .inr ⟨kvs,k,b,.inl e,rfl,eb,rfl⟩
theorem DPut.t {H:Hp} {a b:Addr} {kvs:List (List Key×V)} {k:List Key} {v:V} (e:H a=some (.dT kvs)) (eb:H b=some (.tup (k.map kV))) (hl:kvs.length < sizeLine):
    DPut H a (.ref b) v (upd H a (.dT (putK kvs k v))):= .inr ⟨kvs,k,b,e,rfl,eb,hl,rfl⟩
section
variable {X:Cx} {pins:List (Addr×Obj)} {σ:St} {H:Hp} {s:Shared} {a:Addr} {y v:V} {u r:Value} {o:Option V} {A:Around} {E:Value->Shared->Prop}
theorem Inv.big (I:Inv X pins σ H s):sysModules < s.heap.objs.size:=by
  have h:mainGlobals < s.heap.objs.size:=(I.mod.glob.keeps I.bk).lt
  exact Nat.lt_trans (by decide) h
theorem d_getItem {Q:Value->Shared->Prop} (hu:A.units+1 < cLine) (I:Inv X pins σ H s) (g:DGet H a y (some v)) (ry:RelV y u) (h:∀w' s',Inv X pins σ H s'->RelV v w'->Q w' s'):
    wpAny (model X.prog X.w) A (getItem (.ref a) u) Q E s:=by
  rcases g with⟨kvs,k,e,ey,l⟩ | ⟨kvs,k,b,e,ey,eb,l⟩
  · subst ey
    obtain⟨z,hd,vs,rel,dd⟩:=dk_rd I.hok e
    obtain⟨w',hw,rw'⟩:=RelO.some_of (v:=v) (o:=valueAt vs k) (by rw[l];exact rel.val k)
    exact wpAny_getItem_of (kV_is ry) dd.mapOf hw (h w' _ (I.tok _) rw')
  · subst ey
    cases (show u=Value.ref b from ry)
    obtain⟨z,hd,xs,rel,dd⟩:=dt_rd I.hok e
    obtain⟨w',hw,rw'⟩:=RelO.some_of (v:=v) (o:=(atKey xs k).map (·.2)) (by rw[l];exact rel.val k)
    obtain⟨p,hp,hp2⟩:=Option.map_eq_some_iff.mp hw
    refine wpAny_getItem_heap (tupleKind_room_in1 hu) (key_of I.hok eb) dd hp ?_
    rw[hp2]
    exact h w' _ (I.tok _) rw'
theorem d_in {Q:Value->Shared->Prop} (hu:A.units+1 < cLine) (I:Inv X pins σ H s) (g:DGet H a y o) (ry:RelV y u) (h:∀s',Inv X pins σ H s'->Q (.bool o.isSome) s'):
    wpAny (model X.prog X.w) A (compareOp .In u (.ref a)) Q E s:=by
  rcases g with⟨kvs,k,e,ey,l⟩ | ⟨kvs,k,b,e,ey,eb,l⟩
  · subst ey
    obtain⟨z,hd,vs,rel,dd⟩:=dk_rd I.hok e
    refine wpAny_in_of (kV_is ry) hd dd.mapOf ?_
    rw[←(rel.val k).isSome_eq,←l]
    exact h _ (I.tok _)
  · subst ey
    cases (show u=Value.ref b from ry)
    obtain⟨z,hd,xs,rel,dd⟩:=dt_rd I.hok e
    refine wpAny_in_heap (tupleKind_room_in1 hu) (key_of I.hok eb) hd dd ?_
    have q:=(rel.val k).isSome_eq
    rw[Option.isSome_map]at q
    rw[←q,←l]
    exact h _ (I.tok _)
theorem d_notIn {Q:Value->Shared->Prop} (hu:A.units+1 < cLine) (I:Inv X pins σ H s) (g:DGet H a y o) (ry:RelV y u) (h:∀s',Inv X pins σ H s'->Q (.bool (!o.isSome)) s'):
    wpAny (model X.prog X.w) A (compareOp .NotIn u (.ref a)) Q E s:=by
  rcases g with⟨kvs,k,e,ey,l⟩ | ⟨kvs,k,b,e,ey,eb,l⟩
  · subst ey
    obtain⟨z,hd,vs,rel,dd⟩:=dk_rd I.hok e
    refine wpAny_notIn_of (kV_is ry) hd dd.mapOf ?_
    rw[←(rel.val k).isSome_eq,←l]
    exact h _ (I.tok _)
  · subst ey
    cases (show u=Value.ref b from ry)
    obtain⟨z,hd,xs,rel,dd⟩:=dt_rd I.hok e
    refine wpAny_notIn_heap (tupleKind_room_in1 hu) (key_of I.hok eb) hd dd ?_
    have q:=(rel.val k).isSome_eq
    rw[Option.isSome_map]at q
    rw[←q,←l]
    exact h _ (I.tok _)
theorem d_write {h':Heap} {t':Nat} {ob:HO} (I:Inv X pins σ H s) (mu:Mut (H a)) (hs:Heap.SameBut a s.heap h') (he:∃q,h'.get? a=some q) (new:ObjOk X.prog X.w (upd H a ob) h' a ob):
    Inv X pins σ (upd H a ob) {s with heap:=h',toks:=t'}:=
  I.write (x:=a) (e:=a) mu (.inl rfl) (fun b q hb z=>(hs.2 b hb).trans z) he new
theorem dk_new {P:Program} {w:World} {H':Hp} {h':Heap} {kvs:List (Key×V)} {vs:List (Key×Value)} (z:kvs.length≤sizeLine) (hd:(a == sysModules)=false) (rel:KV kvs vs) (dd:h'.DictOf (mixKind P w) a vs):
    ObjOk P w H' h' a (.dK kvs):=⟨z,hd,vs,rel,dd⟩
theorem d_setItem {H':Hp} {Q:Unit->Shared->Prop} (hu:A.units+1 < cLine) (I:Inv X pins σ H s) (g:DPut H a y v H') (ry:RelV y u) (rv:RelV v r) (h:∀s',Inv X pins σ H' s'->Q () s'):
    wpAny (model X.prog X.w) A (setItem (.ref a) u r) Q E s:=by
  rcases g with⟨kvs,k,e,ey,l,eH⟩ | ⟨kvs,k,b,e,ey,eb,l,eH⟩
  · subst ey eH
    obtain⟨z,hd,vs,rel,dd⟩:=dk_of I.hok e
    have hz:vs.length≤sizeLine:=by rw[←rel.length];exact z
    have hl:(putK kvs k v).length≤sizeLine:=by have:=length_putK kvs k v;omega
    refine wpAny_setItem_pairs (hsz:=hz) (kV_is ry) dd fun h' dd' hs=>h _ ?_
    have he:∃q,h'.get? a=some q:=let ⟨q,_,_,hq,_⟩:=dd';⟨q,hq⟩
    exact d_write I (by rw[e];exact True.intro) hs he (dk_new hl hd (rel.put k rv) dd')
  · subst ey eH
    cases (show u=Value.ref b from ry)
    obtain⟨z,hd,xs,rel,dd⟩:=dt_of I.hok e
    have hz:xs.length≤sizeLine:=by rw[←Paired.length rel];exact z
    have hl:(putK kvs k v).length≤sizeLine:=by have:=length_putK kvs k v;omega
    refine wpAny_setItem_heap (hsz:=hz) (tupleKind_room_in1 hu) (key_of I.hok eb) dd fun h' dd' hs=>h _ ?_
    obtain⟨q,es,ep,hq,h2,h3,h4,_,h5⟩:=dd'
    refine d_write I (by rw[e];exact True.intro) hs ⟨q,hq⟩ ⟨hl,hd,_,(rel.put k eb rv).keeps fun c ys ec=> ?_,q,es,ep,hq,h2,h3,h4,h5⟩
    rw[upd_ne (ne_of ec e (fun z=>nomatch z))]
    exact ec
end
section
variable {X:Cx} {pins:List (Addr×Obj)} {σ:St} {H:Hp} {s:Shared} {a:Addr} {kvs:List (Key×V)} {k:Key} {u:Value} {A:Around} {E:Value->Shared->Prop}
end
def NoSl (i:Expr):Prop:=∀ov iv,subscripted i false ov iv=operate [ov,iv] (getItem ov iv)
theorem subD_of {prog:Program} {w:World} {A:Around} {E:Value->Shared->Prop} {s:Shared} {env:Env} {value slice:Expr} {pos:Pos} {T id:String} {Q:Value->Shared->Prop}
    (hl:typeLookup (.type T) "__getitem__"=pure (some (.builtin id))) (hs:NoSl slice)
    (h:wpAny (model prog w) A (eval value env) (fun o s₁=>wpAny (model prog w) A (eval slice env) (fun i s₂=>s₂.TypeIs o T/\wpAny (model prog w) A (getItem o i) Q E s₂) E s₁) E s):
    wpAny (model prog w) A (eval (.Subscript value slice pos) env) Q E s:=by
  refine Subscript_ (wpAny_mono h (fun o s₁ h₁=>wpAny_mono h₁ (fun i s₂ h₂=> ?_) fun _ _ x=>x) fun _ _ x=>x)
  obtain⟨hT,h₂⟩:=h₂
  unfold subscriptTail
  refine wpAny_bind ?_
  rw[getitemInPython_of_ne hT.not_modules]
  refine wpAny_bind (wpAny_specialOf hT hl ?_)
  have fin:wpAny (model prog w) A (subscripted slice false o i) (fun r s₃=>wpAny (model prog w) A (letTemporaryGo value o r >>= fun _=>pure r) Q E s₃) E s₂:=by
    rw[hs o i]
    exact wpAny_operating (wpAny_mono h₂ (fun r s₃ h₃=>wpAny_bind (wpAny_letTemporaryGo (wpAny_pure h₃))) fun _ _ x=>x)
  first
    | exact wpAny_pure (wpAny_bind fin)
    | exact wpAny_bind (wpAny_pure (wpAny_bind fin))
    | exact wpAny_bind fin
theorem dict_typeIs {X:Cx} {pins:List (Addr×Obj)} {σ:St} {H:Hp} {s:Shared} {a:Addr} {y:V} {o:Option V} (I:Inv X pins σ H s) (g:DGet H a y o):s.TypeIs (.ref a) "dict":=by
  rcases g with⟨kvs,k,e,_,_⟩ | ⟨kvs,k,b,e,_,_,_⟩
  · obtain⟨_,_,vs,_,dd⟩:=dk_rd I.hok e
    exact dd.typeIs
  · obtain⟨_,_,xs,_,dd⟩:=dt_rd I.hok e
    exact dd.typeIs
def tDGet (td ty:TE):TE:=fun σ H Q=>td σ H fun x H1=>ty σ H1 fun y H2=>∃a v,x= .ref a/\DGet H2 a y (some v)/\Q v H2
def tDIn (ty td:TE):TE:=fun σ H Q=>ty σ H fun y H1=>td σ H1 fun x H2=>∃a o,x= .ref a/\DGet H2 a y o/\Q (.bl o.isSome) H2
def tDNotIn (ty td:TE):TE:=fun σ H Q=>ty σ H fun y H1=>td σ H1 fun x H2=>∃a o,x= .ref a/\DGet H2 a y o/\Q (.bl (!o.isSome)) H2
def sDPut (td ty tv:TE):TS:=fun D σ H=>tv σ H fun v H1=>td σ H1 fun x H2=>ty σ H2 fun y H3=>∃a H4,x= .ref a/\DPut H3 a y v H4/\D.nx σ H4
section
variable {X:Cx} {o i e value:Expr} {pos pos' tpos:Pos} {td ty tv:TE}
theorem pe_dget (hu:X.A.units+1 < cLine) (ho:PE X o td) (hi:PE X i ty) (hs:NoSl i):PE X (.Subscript o i pos) (tDGet td ty):=by
  intro pins s σ H Q I h
  refine subD_of PySem.F.slot_dict_getitem.lookup hs (thn (ho pins s σ H _ I h) fun u s1 ⟨x,H1,I1,rx,q1⟩=>thn (hi pins s1 σ H1 _ I1 q1) fun iv s2 ⟨y,H2,I2,ry,a,v,ex,g,q2⟩=> ?_)
  subst ex
  obtain rfl:u=Value.ref a:=rx
  exact⟨dict_typeIs I2 g,d_getItem hu I2 g ry fun w' s3 I3 rw'=>⟨v,H2,I3,rw',q2⟩⟩
theorem pc_din (hu:X.A.units+1 < cLine) (hi:PE X i ty) (ho:PE X o td):PC X .In i o (tDIn ty td):=by
  intro pins s σ H Q I h
  refine thn (hi pins s σ H _ I h) fun iv s1 ⟨y,H1,I1,ry,q1⟩=>thn (ho pins s1 σ H1 _ I1 q1) fun u s2 ⟨x,H2,I2,rx,a,ov,ex,g,q2⟩=> ?_
  subst ex
  obtain rfl:u=Value.ref a:=rx
  exact d_in hu I2 g ry fun s3 I3=>⟨.bl ov.isSome,H2,I3,rfl,q2⟩
theorem pc_dnotin (hu:X.A.units+1 < cLine) (hi:PE X i ty) (ho:PE X o td):PC X .NotIn i o (tDNotIn ty td):=by
  intro pins s σ H Q I h
  refine thn (hi pins s σ H _ I h) fun iv s1 ⟨y,H1,I1,ry,q1⟩=>thn (ho pins s1 σ H1 _ I1 q1) fun u s2 ⟨x,H2,I2,rx,a,ov,ex,g,q2⟩=> ?_
  subst ex
  obtain rfl:u=Value.ref a:=rx
  exact d_notIn hu I2 g ry fun s3 I3=>⟨.bl (!ov.isSome),H2,I3,rfl,q2⟩
theorem ps_dput (hu:X.A.units+1 < cLine) (ho:PE X o td) (hi:PE X i ty) (hv:PE X value tv) (hs:swapsWith value (some (.Subscript o i pos')) pos.line X.env=pure false):
    PS X (.Assign [.Subscript o i pos'] value pos) (sDPut td ty tv):=by
  intro pins s σ H D I h
  refine wpAny_Assign_Subscript (thn (hv pins s σ H _ I h) fun r s1 ⟨v,H1,I1,rv,q1⟩=>thn (ho pins s1 σ H1 _ I1 q1) fun u s2 ⟨x,H2,I2,rx,q2⟩=>thn (hi pins s2 σ H2 _ I2 q2) fun iv s3 ⟨y,H3,I3,ry,a,H4,ex,g,q3⟩=> ?_) hs
  subst ex
  obtain rfl:u=Value.ref a:=rx
  exact d_setItem hu I3 g ry rv fun s4 I4=>⟨σ,H4,I4,q3⟩
end
theorem dt_empty {P:Program} {w:World} {H:Hp} (h:Heap) (hb:sysModules < h.objs.size):ObjOk P w H (h.push {cls:= .type "dict",data:= .dict #[]}) h.objs.size (.dT []):=
  ⟨Nat.zero_le _,beq_eq_false_iff_ne.mpr (Ne.symm (Nat.ne_of_lt hb)),[],.nil,_,#[],0,Heap.get?_push_size _ rfl,⟨rfl,rfl,rfl⟩,rfl,rfl,List.nodup_nil⟩
def tDNewT:TE:=fun _ H Q=>∀p,H p=none->Q (.ref p) (upd H p (.dT []))
section
variable {X:Cx} {pos:Pos}
theorem pe_dnewT:PE X (.Dict [] [] pos) tDNewT:=fun pins s σ H Q I h=>
  wpAny_Dict_empty ⟨.ref s.heap.objs.size,_,I.laid (a:=s.heap.objs.size) (o:= .dT []) (t':=s.toks) (fun _ _ q=>Heap.get?_push_of_some _ q) (Nat.le_refl _) (dt_empty s.heap I.big),rfl,h _ (I.hok.fresh (Nat.le_refl _))⟩
end
structure M1 (X:Cx) (o:Expr) (m:Str) (apos:Pos) (e:Expr) (cpos:Pos):Prop where
  base:attributeBase o m X.env (eval o X.env)=eval o X.env
  few:((backTo cpos (starEach [e] X.env)).all (fun x=> !x.1) && (backToKw cpos (keywordEach [] X.env)).all (fun x=>x.1.isSome)
    && decide (([e]:List Expr).length+([]:List Keyword).length+(if ([]:List Keyword).isEmpty then 0 else 1) < 30))=true
  line:(apos.endLine == cpos.line)=true
  trees:backTo cpos (starEach [e] X.env)=[(false,eval e X.env)]
structure M2 (X:Cx) (o:Expr) (m:Str) (apos:Pos) (e f:Expr) (cpos:Pos):Prop where
  base:attributeBase o m X.env (eval o X.env)=eval o X.env
  few:((backTo cpos (starEach [e,f] X.env)).all (fun x=> !x.1) && (backToKw cpos (keywordEach [] X.env)).all (fun x=>x.1.isSome)
    && decide (([e,f]:List Expr).length+([]:List Keyword).length+(if ([]:List Keyword).isEmpty then 0 else 1) < 30))=true
  line:(apos.endLine == cpos.line)=true
  trees:backTo cpos (starEach [e,f] X.env)=[(false,eval e X.env),(false,eval f X.env)]
def IsD (H:Hp) (a:Addr):Prop:=(∃kvs,Rd H a (.dK kvs))∨∃kvs,Rd H a (.dT kvs)
theorem isD_at {X:Cx} {pins:List (Addr×Obj)} {σ:St} {H:Hp} {s:Shared} {a:Addr} (I:Inv X pins σ H s) (d:IsD H a):
    s.TypeIs (.ref a) "dict"/\(∀b,Value.ref a= .ref b->∃ob,s.heap.get? b=some ob/\ob.dict=none)/\(a == sysModules)=false:=by
  rcases d with⟨kvs,e⟩ | ⟨kvs,e⟩
  · obtain⟨_,hd,vs,_,dd⟩:=dk_rd I.hok e
    refine⟨dd.typeIs,fun b q=> ?_,hd⟩
    cases q
    obtain⟨ob,_,_,h1,h2,_⟩:=dd
    exact⟨ob,h1,h2.2.1⟩
  · obtain⟨_,hd,xs,_,dd⟩:=dt_rd I.hok e
    refine⟨dd.typeIs,fun b q=> ?_,hd⟩
    cases q
    obtain⟨ob,_,_,h1,h2,_⟩:=dd
    exact⟨ob,h1,h2.2.1⟩
section
variable {X:Cx} {pins:List (Addr×Obj)} {σ:St} {H:Hp} {s:Shared} {a:Addr} {y d:V} {u r:Value} {o:Option V} {A:Around} {E:Value->Shared->Prop}
theorem d_get2 {Q:Value->Shared->Prop} (hu:A.units+1 < cLine) (I:Inv X pins σ H s) (g:DGet H a y o) (ry:RelV y u) (rd:RelV d r) (h:∀w' s',Inv X pins σ H s'->RelV (o.getD d) w'->Q w' s'):
    wpAny (model X.prog X.w) A (call (.builtin "dict.get") [.ref a,u,r]) Q E s:=by
  rcases g with⟨kvs,k,e,ey,l⟩ | ⟨kvs,k,b,e,ey,eb,l⟩
  · subst ey
    obtain⟨z,hd,vs,rel,dd⟩:=dk_rd I.hok e
    refine call_meetsIn PySem.F.slot_dict_get dd.typeIs PySem.F.entry_dict_get (PySem.F.args_dict_get_3 _ _ _) (meets_dict_get_default (mixKind X.prog X.w) a (kV_is ry) hd r) ⟨_,dd.mapOf,h _ _ (I.tok _) ?_⟩
    rw[l]
    exact(rel.val k).getD rd
  · subst ey
    cases (show u=Value.ref b from ry)
    obtain⟨z,hd,xs,rel,dd⟩:=dt_rd I.hok e
    refine call_meetsIn PySem.F.slot_dict_get dd.typeIs PySem.F.entry_dict_get (PySem.F.args_dict_get_3 _ _ _) (meetsH_dict_get_default (tupleKind (mixKind X.prog X.w)) a b hd r) ⟨tupleKind_room_in1 hu,k,xs,key_of I.hok eb,dd,h _ _ (I.tok _) ?_⟩
    rw[l]
    exact(rel.val k).getD rd
end
def tDGet2 (td ty tx:TE):TE:=fun σ H Q=>td σ H fun x H1=>∃a,x= .ref a/\IsD H1 a/\ty σ H1 fun y H2=>tx σ H2 fun z H3=>∃o,DGet H3 a y o/\Q (o.getD z) H3
section
variable {X:Cx} {o e f:Expr} {apos cpos:Pos} {td ty tx:TE}
theorem pe_dget2 (hu:X.A.units+1 < cLine) (ho:PE X o td) (he:PE X e ty) (hf:PE X f tx) (m:M2 X o "get" apos e f cpos):PE X (.Call (.Attribute o "get" apos) [e,f] [] cpos) (tDGet2 td ty tx):=by
  intro pins s σ H Q I h
  refine wpAny_Call_method m.base m.few m.line PySem.F.plainAttrs_dict PySem.F.slot_dict_get PySem.F.type_dict_get (thn (ho pins s σ H _ I h) fun u s1 ⟨x,H1,I1,rx,a,ex,d,q1⟩=> ?_)
  subst ex
  obtain rfl:u=Value.ref a:=rx
  obtain⟨t1,t2,_⟩:=isD_at I1 d
  refine⟨t1,t2,?_⟩
  rw[m.trees]
  refine Calls.callWith_builtin rfl (Calls.evalArgs_plain (Calls.spliced_cons (thn (he pins s1 σ H1 _ I1 q1) fun iv s2 ⟨y,H2,I2,ry,q2⟩=>
    Calls.spliced_cons (thn (hf pins s2 σ H2 _ I2 q2) fun fv s3 ⟨z,H3,I3,rz,ov,g,q3⟩=>Calls.spliced_nil ?_))))
  exact d_get2 hu I3 g ry rz fun w' s4 I4 rw'=>⟨_,H3,I4,rw',q3⟩
end
section
variable {X:Cx} {pins:List (Addr×Obj)} {σ:St} {H:Hp} {s:Shared} {a:Addr} {kvs:List (Key×V)} {A:Around} {E:Value->Shared->Prop}
end
section
variable {X:Cx} {pins:List (Addr×Obj)} {σ:St} {H:Hp} {s:Shared} {a:Addr} {y:V} {u:Value} {A:Around} {E:Value->Shared->Prop}
end
end L2
namespace L2
open PySem PySem.Spec PyProof.Rows
section
variable {prog:Program} {w:World} {A:Around} {E:Value->Shared->Prop}
end
section
variable {X:Cx}
end
end L2
namespace L2
open PySem PySem.Spec PyProof.Rows
section
variable {X:Cx} {pins:List (Addr×Obj)} {σ:St} {H:Hp} {s:Shared} {h':Heap}
theorem Inv.turnedL {t':Nat} {ch:List Addr} (I:Inv X pins σ H s) (k:∀b o,b ∉ ch->s.heap.get? b=some o->h'.get? b=some o) (hf:∀b∈ch,FpOk X pins H b):Inv X pins σ H {s with heap:=h',toks:=t'}:=by
  have nit:∀b u,H b=some u->b ∉ ch:=fun b u e z=>by
    have q:=(hf b z).1
    rw[q]at e;cases e
  refine I.step (g':=s.gens) (d':=s.drawn) (ch:=ch) (fun b hb=>⟨(hf b hb).2.2.2.1,(hf b hb).2.1,(hf b hb).2.2.2.2.1,(hf b hb).2.2.2.2.2⟩) (fun b o _ _ hc e _=>k b o hc e) (fun b o _ _ hc e _=>⟨o.slots,k b o hc e⟩)
    (fun _ _ _ _ n=>n) (fun b o hc e=>⟨o,k b o hc e⟩) (fun _ _ e=>e) (fun _ _ _ e=>e) (fun b ps e=>⟨#[],by rw[e];simp⟩) (fun m hm=> ?_) (fun b u e=> ?_) I.bare
  · obtain⟨o,es,ep,ho,r⟩:=hm
    exact⟨o,es,ep,k _ o (fun z=>(hf _ z).2.1 rfl) ho,r⟩
  · refine(I.hok b u e).stay (fun c v hc q=>k c v ?_ q) (fun _ q=>q) fun _ _ q=>q
    rcases hc with z | z
    · rw[z];exact nit b u e
    · exact nit c _ z
theorem Inv.turnedNew {t':Nat} {ch:List Addr} {T:Addr} {ob:HO} (I:Inv X pins σ H s) (k:∀b o,b ∉ ch->s.heap.get? b=some o->h'.get? b=some o) (hf:∀b∈ch,FpOk X pins H b) (hT:s.heap.objs.size≤T)
    (new:ObjOk X.prog X.w (upd H T ob) h' T ob):Inv X pins σ (upd H T ob) {s with heap:=h',toks:=t'}:=by
  have hn:H T=none:=I.hok.fresh hT
  have nit:∀b u,H b=some u->b ∉ ch:=fun b u e z=>by
    have q:=(hf b z).1
    rw[q]at e;cases e
  refine I.step (g':=s.gens) (d':=s.drawn) (ch:=ch) (fun b hb=>⟨(hf b hb).2.2.2.1,(hf b hb).2.1,(hf b hb).2.2.2.2.1,(hf b hb).2.2.2.2.2⟩) (fun b o _ _ hc e _=>k b o hc e) (fun b o _ _ hc e _=>⟨o.slots,k b o hc e⟩)
    (fun b o _ e n=> ?_) (fun b o hc e=>⟨o,k b o hc e⟩) (fun b xs e=> ?_) (fun b o u e=> ?_) (fun b ps e=>⟨#[],?_⟩) (fun m hm=> ?_) (fun b u e=> ?_) I.bare
  · rw[upd_ne (Nat.ne_of_lt (Nat.lt_of_lt_of_le (Heap.lt_size e) hT))];exact n
  · rw[upd_ne (ne_of_none e hn)];exact e
  · rw[upd_ne (ne_of_none e hn)];exact e
  · rw[upd_ne (ne_of_none e hn),e];simp
  · obtain⟨o,es,ep,ho,r⟩:=hm
    exact⟨o,es,ep,k _ o (fun z=>(hf _ z).2.1 rfl) ho,r⟩
  · by_cases hb:b=T
    · subst hb
      rw[upd_same]at e
      cases e
      exact new
    · rw[upd_ne hb]at e
      refine(I.hok b u e).stay (fun c v hc q=>k c v ?_ q) (fun c q=>by rw[upd_ne (ne_of_none q hn)];exact q) fun c xs q=>by rw[upd_ne (ne_of_none q hn)];exact q
      rcases hc with z | z
      · rw[z];exact nit b u e
      · exact nit c _ z
theorem Inv.lock {d:Addr} {u:HO} (I:Inv X pins σ H s) (h:H d=some u) (mu:Mut (some u)):∃od,Inv X pins σ (upd H d (.frz od u)) s:=by
  have x:=I.hok d u h
  have ex:∃od,s.heap.get? d=some od:=by
    cases u with
    | lst xs=>obtain⟨_,_,_,_,e⟩:=x;exact⟨_,e⟩
    | dK kvs=>obtain⟨_,_,_,_,o,_,_,e,_⟩:=x;exact⟨o,e⟩
    | dT kvs=>obtain⟨_,_,_,_,o,_,_,e,_⟩:=x;exact⟨o,e⟩
    | set S n=>obtain⟨o,_,_,_,e,_⟩:=x;exact⟨o,e⟩
    | ins C dx fs=>obtain⟨_,_,_,e,_⟩:=x;exact⟨_,e⟩
    | ext φ=>obtain⟨_,⟨_,e⟩,_⟩:=x;exact⟨_,e⟩
    | _=>exact False.elim mu
  obtain⟨od,e⟩:=ex
  have new:ObjOk X.prog X.w (upd H d (.frz od u)) s.heap d (.frz od u):=by
    refine⟨e,x.stay (fun b v _ q=>q) (fun b q=> ?_) fun b xs q=> ?_⟩
    · rw[upd_ne (fun z=>by rw[z,h]at q;cases q;exact mu)];exact q
    · rw[upd_ne (fun z=>by rw[z,h]at q;cases q;exact mu)];exact q
  exact⟨od,I.write (x:=d) (e:=d) (t':=s.toks) (h':=s.heap) (by rw[h];exact mu) (.inl rfl) (fun b v _ q=>q) ⟨od,e⟩ new⟩
theorem Inv.nofrz {d:Addr} {u:HO} (I:Inv X pins σ H s) (h:H d=some u) (mu:Mut (some u)):∀o' u',X.H_0 d≠some (.frz o' u'):=fun o' u' e=>by
  have q:=I.base.frzs d o' u' e
  rw[h]at q
  cases q
  exact mu
theorem Inv.unlock {d:Addr} {od:Obj} {u:HO} (I:Inv X pins σ H s) (h:H d=some (.frz od u)) (hn:∀o' u',X.H_0 d≠some (.frz o' u')):Inv X pins σ (upd H d u) s:=by
  have neH:∀b o,H b=some o->(∀o' u',o≠ .frz o' u')->b≠d:=fun b o e hne z=>by
    rw[z,h]at e
    cases e
    exact hne _ _ rfl
  have neN:∀b,H b=none->b≠d:=fun b e z=>by rw[z,h]at e;cases e
  refine⟨I.ok,I.os,I.bare,⟨I.base.keep,I.base.slot,fun b o e n hx=> ?_,I.base.there,fun b xs e=> ?_,fun b o x e=> ?_,fun b ps e=> ?_⟩,I.loc,I.cell,?_,fun x c e=> ?_,fun p hp=> ?_,fun b o e=> ?_,I.len⟩
  · rw[upd_ne (neN b (I.base.free b o e n hx))];exact I.base.free b o e n hx
  · have q:=I.base.tups b xs e
    rw[upd_ne (neH b _ q (fun _ _ z=>nomatch z))];exact q
  · have q:=I.base.frzs b o x e
    rw[upd_ne (fun z=>by rw[z]at e;exact hn _ _ e)];exact q
  · obtain⟨m,q⟩:=I.base.tbls b ps e
    exact⟨m,by rw[upd_ne (neH b _ q (fun _ _ z=>nomatch z))];exact q⟩
  · rw[upd_ne (neN _ I.free)];exact I.free
  · rw[upd_ne (neN c (I.freeC x c e))];exact I.freeC x c e
  · obtain⟨e,n,r⟩:=I.pin p hp
    exact⟨e,by rw[upd_ne (neN _ n)];exact n,r⟩
  · by_cases hb:b=d
    · rw[hb,upd_same]at e
      cases e
      rw[hb]
      obtain⟨_,x⟩:=I.hok d _ h
      exact x.stay (fun c v _ q=>q) (fun c q=>by rw[upd_ne (neH c _ q (fun _ _ z=>nomatch z))];exact q) fun c xs q=>by rw[upd_ne (neH c _ q (fun _ _ z=>nomatch z))];exact q
    · rw[upd_ne hb]at e
      exact(I.hok b o e).stay (fun c v _ q=>q) (fun c q=>by rw[upd_ne (neH c _ q (fun _ _ z=>nomatch z))];exact q) fun c xs q=>by rw[upd_ne (neH c _ q (fun _ _ z=>nomatch z))];exact q
end
def tLock (t:TS):TS:=fun D σ H=>∃d u,H d=some u/\Mut (some u)/\∀od,t ⟨fun σ' H'=>H' d=some (.frz od u)/\D.nx σ' (upd H' d u),fun v H'=>H' d=some (.frz od u)/\D.rt v (upd H' d u),fun σ' H'=>H' d=some (.frz od u)/\D.bk σ' (upd H' d u),fun σ' H'=>H' d=some (.frz od u)/\D.ct σ' (upd H' d u)⟩ σ (upd H d (.frz od u))
section
variable {X:Cx}
theorem ps_lock {st:Stmt} {t:TS} (h:PS X st t):PS X st (tLock t):=by
  intro pins s σ H D I hw
  obtain⟨d,u,hd,mu,hw⟩:=hw
  obtain⟨od,I1⟩:=I.lock hd mu
  refine thn (h pins s σ _ _ I1 (hw od)) fun f s1 q=> ?_
  cases f with
  | next=>obtain⟨σ',H',I2,e,q⟩:=q;exact⟨σ',_,I2.unlock e (I.nofrz hd mu),q⟩
  | brk=>obtain⟨σ',H',I2,e,q⟩:=q;exact⟨σ',_,I2.unlock e (I.nofrz hd mu),q⟩
  | cont=>obtain⟨σ',H',I2,e,q⟩:=q;exact⟨σ',_,I2.unlock e (I.nofrz hd mu),q⟩
  | ret v=>obtain⟨x,σ',H',I2,r,e,q⟩:=q;exact⟨x,σ',_,I2.unlock e (I.nofrz hd mu),r,q⟩
theorem pi_one {tg:Expr} {pins:List (Addr×Obj)} {σ:St} {H:Hp} {s:Shared} {R:It->Hp->Prop} {J:It} {tn:Nat->Heap->Prop} {tk:Nat} (I:Inv X pins σ H s) (o:Obj)
    (T:Turn X.prog X.w X.K tg J [s.heap.objs.size] s.heap.objs.size tn) (st:tn 0 (s.heap.push o)) (q:R J H):PIE X pins σ tg R (.ref s.heap.objs.size) {s with heap:=s.heap.push o,toks:=tk}:=by
  refine⟨s.heap.objs.size,[s.heap.objs.size],tn,J,H,rfl,I.kept fun b ob e=>Heap.get?_push_of_some _ e,T,st,fun b hb=> ?_,q⟩
  have e:b=s.heap.objs.size:=by simpa using hb
  subst e
  exact I.fpOk (Nat.le_refl _) (I.hok.fresh (Nat.le_refl _))
end
section
variable {X:Cx} {tg:Expr}
end
section
variable {X:Cx} {tg:Expr}
end
section
variable {prog:Program} {w:World} {A:Around} {E:Value->Shared->Prop} {s:Shared}
theorem iter_keys {d:Addr} {o:Obj} {es:Array DictEntry} {ep:Nat} {Q:Value->Shared->Prop} (hd:(d == sysModules)=false) (ho:s.heap.get? d=some o) (hc:o.ExactDict) (hdat:o.data= .dict es ep)
    (hQ:Q (.ref s.heap.objs.size) {s with heap:=s.heap.push {cls:= .type "dict_keyiterator",data:= .fields #[.ref d,.int 0 0,.int es.size 0,.int ep 0]}}):
    wpAny (model prog w) A (pyIter (.ref d)) Q E s:=by
  have hT:s.TypeIs (.ref d) "dict":=⟨o,ho,hc.1⟩
  refine wpAny_pyIter_slot hT F.slot_dict_iter (wpAny_call_entry F.slot_dict_iter hT F.entry_dict_iter ?_ (F.args_dict_iter_1 _))
  unfold Builtin.«dict.__iter__»
  refine wpAny_bind ?_
  unfold Builtin.Dict.dictSlotNone
  refine wpAny_bind (wpAny_notOrdered_dict hT ?_)
  show wpAny _ _ (pure (Value.ref d)) _ _ s
  refine wpAny_pure ?_
  show wpAny _ _ (Builtin.Dict.showsAll d >>= _) _ _ s
  unfold Builtin.Dict.showsAll
  rw[if_neg (by rw[hd];exact Bool.false_ne_true)]
  refine wpAny_bind (wpAny_pure ?_)
  refine wpAny_bind (wpAny_dictEntries ho hdat ?_)
  refine wpAny_bind (wpAny_dictEpoch ho hdat ?_)
  refine wpAny_bind (wpAny_newObj_type (wpAny_pure ⟨_,rfl,"dict_keyiterator",_,⟨_,Heap.get?_push_size _ rfl,rfl⟩,F.slot_dict_keyiterator_next.lookup,?_⟩))
  simpa [rawInt] using hQ
theorem next_key_item {it d:Addr} {i n ep:Nat} {od:Obj} {es:Array DictEntry} {en:DictEntry} {Q:Option Value->Shared->Prop} (hit:s.heap.IsKeyIter it d i n ep) (hod:s.heap.get? d=some od) (hdd:od.data= .dict es ep)
    (hsz:es.size=n) (hx:es[i]? =some en) (hQ:∀h',h'.IsKeyIter it d (i+1) n ep->Heap.SameBut it s.heap h'->Q (some en.key) {s with heap:=h'}):wpAny (model prog w) A (pyNext (.ref it)) Q E s:=by
  obtain⟨o,ho,hc,hd⟩:=id hit
  unfold pyNext
  refine wpAny_bind (wpAny_attempt (wpAny_callSpecial?_slot (name:=Str.ofString "__next__") hit.typeIs F.slot_dict_keyiterator_next
    (wpAny_call_entry F.slot_dict_keyiterator_next hit.typeIs F.entry_dict_keyiterator_next ?_ (F.args_dict_keyiterator_next_1 _))))
  refine wpAny_bind (wpAny_pure ?_)
  refine wpAny_bind ?_
  refine wpAny_bind ?_
  first | refine wpAny_bind (wpAny_typeNameOfWhole_keyiter hit.typeIs (wpAny_pure ?_)) | refine wpAny_bind (wpAny_typeNameOf_keyiter hit.typeIs (wpAny_pure ?_))
  refine wpAny_bind (wpAny_fieldsOf ho hd ?_)
  have hown:Builtin.Dict_items.ownsTuple "dict_keyiterator"=false:=by decide
  simp only[hown,Bool.false_eq_true,if_false]
  show wpAny _ _ (if (Value.ref d == Value.none)=true then _ else _) _ _ s
  rw[if_neg (show ¬((Value.ref d == Value.none)=true)from Bool.false_ne_true)]
  refine wpAny_bind (wpAny_pure ?_)
  refine wpAny_bind (wpAny_dictEntries hod hdd ?_)
  rw[if_neg (by rw[hsz];simp)]
  refine wpAny_bind (wpAny_pure ?_)
  refine wpAny_bind (wpAny_dictEpoch hod hdd ?_)
  rw[if_neg (by simp)]
  refine wpAny_pure ?_
  obtain⟨hlt',hen⟩:=Array.getElem?_eq_some_iff.mp hx
  simp only[show ¬((i:Int) < 0)from by omega,if_false,Int.toNat_natCast,Array.getElem?_eq_getElem hlt']
  refine wpAny_bind ?_
  first | refine wpAny_bind (wpAny_typeNameOfWhole_keyiter hit.typeIs (wpAny_pure ?_)) | refine wpAny_bind (wpAny_typeNameOf_keyiter hit.typeIs (wpAny_pure ?_))
  refine wpAny_bind (wpAny_isOneOf_keyiter hit.typeIs ?_)
  show wpAny _ _ (setField (.ref it) 1 (rawInt ((i:Int)+1)) >>= _) _ _ s
  refine wpAny_bind (wpAny_setField ho hd (by simp) ?_)
  have hit':(s.heap.update it (Obj.mapFields (·.setIfInBounds 1 (rawInt ((i:Int)+1))))).IsKeyIter it d (i+1) n ep:=
    ⟨_,Heap.get?_update_self _ ho (Obj.isFreed_of_fields (Obj.data_mapFields hd _)),(Obj.cls_mapFields ..).trans hc,by rw[Obj.data_mapFields hd];simp[rawInt]⟩
  refine wpAny_bind (wpAny_holding ?_)
  refine wpAny_bind (wpAny_isOneOf_keyiter (s:={s with heap:=s.heap.update it (Obj.mapFields (·.setIfInBounds 1 (rawInt ((i:Int)+1))))}) hit'.typeIs ?_)
  show wpAny _ _ (pure es[i].key) _ _ _
  rw[hen]
  exact wpAny_pure (wpAny_pure ⟨_,rfl,wpAny_pure (hQ _ hit' (Heap.SameBut.update ..))⟩)
theorem next_key_end {it d:Addr} {i n ep:Nat} {od:Obj} {es:Array DictEntry} {Q:Option Value->Shared->Prop} (hh:A.handled=none) (hit:s.heap.IsKeyIter it d i n ep) (hod:s.heap.get? d=some od) (hdd:od.data= .dict es ep)
    (hsz:es.size=n) (hge:n≤i) (hQ:∀h',Heap.ExtBut it s.heap h'->Q none {s with heap:=h'}):wpAny (model prog w) A (pyNext (.ref it)) Q E s:=by
  obtain⟨o,ho,hc,hd⟩:=id hit
  unfold pyNext
  refine wpAny_bind (wpAny_attempt (wpAny_callSpecial?_slot (name:=Str.ofString "__next__") hit.typeIs F.slot_dict_keyiterator_next
    (wpAny_call_entry F.slot_dict_keyiterator_next hit.typeIs F.entry_dict_keyiterator_next ?_ (F.args_dict_keyiterator_next_1 _))))
  refine wpAny_bind (wpAny_pure ?_)
  refine wpAny_bind ?_
  refine wpAny_bind ?_
  first | refine wpAny_bind (wpAny_typeNameOfWhole_keyiter hit.typeIs (wpAny_pure ?_)) | refine wpAny_bind (wpAny_typeNameOf_keyiter hit.typeIs (wpAny_pure ?_))
  refine wpAny_bind (wpAny_fieldsOf ho hd ?_)
  have hown:Builtin.Dict_items.ownsTuple "dict_keyiterator"=false:=by decide
  simp only[hown,Bool.false_eq_true,if_false]
  show wpAny _ _ (if (Value.ref d == Value.none)=true then _ else _) _ _ s
  rw[if_neg (show ¬((Value.ref d == Value.none)=true)from Bool.false_ne_true)]
  refine wpAny_bind (wpAny_pure ?_)
  refine wpAny_bind (wpAny_dictEntries hod hdd ?_)
  rw[if_neg (by rw[hsz];simp)]
  refine wpAny_bind (wpAny_pure ?_)
  refine wpAny_bind (wpAny_dictEpoch hod hdd ?_)
  rw[if_neg (by simp)]
  refine wpAny_pure ?_
  have hge':es.size≤i:=by rw[hsz];exact hge
  simp only[show ¬((i:Int) < 0)from by omega,if_false,Int.toNat_natCast,Array.getElem?_eq_none hge']
  refine wpAny_bind ?_
  first | refine wpAny_bind (wpAny_typeNameOfWhole_keyiter hit.typeIs (wpAny_pure ?_)) | refine wpAny_bind (wpAny_typeNameOf_keyiter hit.typeIs (wpAny_pure ?_))
  show wpAny _ _ (setField (.ref it) 0 .none >>= _) _ _ s
  refine wpAny_bind (wpAny_setField ho hd (by simp) ?_)
  show wpAny _ _ (newExc (.type "StopIteration") [] >>= _) _ _ _
  refine wpAny_bind ?_
  simp only[newExc,newTuple]
  refine wpAny_bind (wpAny_newObj_type ?_ (by size_fits))
  refine wpAny_bind (m:=firstArgMember _ _) (wpAny_of_eq (a:=Value.none) (by first | rfl | (simp only[firstArgMember];rfl)) ?_)
  refine wpAny_newObj_type ?_ (by size_fits)
  simp only[raiseNew]
  refine wpAny_bind (wpAny_handled ?_)
  rw[show A.in1.handled=none from hh]
  refine wpAny_bind (wpAny_pure (wpAny_throw ?_))
  refine wpAny_bind (wpAny_isInstance (T:="StopIteration") (b:=true) ⟨_,Heap.get?_push_size _ rfl,rfl⟩ isSubtype_stop ?_)
  exact wpAny_pure (hQ _ (((Heap.SameBut.update ..).extBut.push _).push _))
end
theorem paired_get {α β:Type} {G:α->β->Prop} {l₁:List α} {l₂:List β} (h:Paired G l₁ l₂):∀{i:Nat} {a:α},l₁[i]? =some a->∃b,l₂[i]? =some b/\G a b:=by
  induction h with
  | nil=>intro i a e;simp at e
  | @cons a b l₁ l₂ r t ih=>
    intro i a' e
    cases i with
    | zero=>
      simp only[List.getElem?_cons_zero,Option.some.injEq]at e
      subst e
      exact⟨b,rfl,r⟩
    | succ j=>
      simp only[List.getElem?_cons_succ]at e ⊢
      exact ih e
section
variable {X:Cx} {pins:List (Addr×Obj)} {σ:St} {H:Hp} {s:Shared} {d:Addr} {o:Obj}
end
theorem dict_ep {o:Obj} {es es':Array DictEntry} {ep ep':Nat} (h:o.data= .dict es ep) (h':o.data= .dict es' ep'):es'=es/\ep'=ep:=by
  rw[h]at h'
  cases h'
  exact⟨rfl,rfl⟩
section
variable {P:Program} {w:World} {K:PySem.W.Frag} {tg:Expr} {d:Addr} {o:Obj} {es:Array DictEntry} {ep:Nat}
end
section
variable {X:Cx} {tg e:Expr} {td:TE} {apos cpos:Pos}
end
theorem boot_zip5:bootBuiltins "zip"=some (.type "zip"):=by decide +kernel
end L2
section
namespace Bits
open PySem PyProof.Rows
end Bits
end
section
namespace TL
open PySem PySem.Builtin PySem.Builtin.Str PySem.StrLaws
end TL
end
namespace L2
open PySem PySem.Spec PyProof.Rows
section
variable {X:Cx} {pins:List (Addr×Obj)} {σ:St} {H:Hp} {s:Shared} {Q:VK}
end
section
variable {X:Cx}
end
section
variable {X:Cx} {o e:Expr} {to te:TE}
end
end L2
namespace L2
open PySem PySem.Spec PyProof.Rows
section
variable {X:Cx}
end
end L2
namespace Att
open PySem PySem.W PySem.Calls PyProof.Rows
section
variable {prog:Program} {w:World} {A:Around} {E:Value->Shared->Prop} {s:Shared} {K:Frag}
end
end Att
namespace L2
open PySem PySem.Spec PyProof.Rows
end L2
namespace L2
open PySem PySem.Spec PyProof.Rows
end L2
namespace L2
open PySem PySem.Spec PyProof.Rows
def inClass (s:Stmt) (j:Nat):Stmt:=match s with
  | .ClassDef _ _ _ body _ _ _ _ _ _ _=>body.getD j (.Pass ⟨0,0,0,0⟩)
  | _=> .Pass ⟨0,0,0,0⟩
def defArgs (s:Stmt):Arguments:=match s with
  | .FunctionDef _ a _ _ _ _ _ _ _ _=>a
  | _=>{posonlyargs:=[],args:=[],vararg:=none,kwonlyargs:=[],kw_defaults:=[],kwarg:=none,defaults:=[]}
def defBody (s:Stmt):List Stmt:=match s with
  | .FunctionDef _ _ b _ _ _ _ _ _ _=>b
  | _=>[]
def defScope (s:Stmt):Scope:=match s with
  | .FunctionDef _ _ _ _ _ _ sc _ _ _=>sc
  | _=>{kind:= .function,names:=[],isGenerator:=false,isCoroutine:=false}
abbrev CX0:CXT:=fun _ _ _ _ _ _=>False
abbrev E0:XK:=fun _ _ _=>False
theorem pass0 {X:Cx}:Passes CX0 X E0:=fun _ _ _ _ _ _ _ h=>h.elim
structure Fun (K:PySem.W.Frag) (x qual:Str) (st:Stmt) (f:Addr) (fd:FuncData):Prop where
  ex:∃(oc:Value) (od:Option Addr) (kV doc pm:Value) (an:Option Addr) (cdv ct:Value) (osl:Array (Option Value)),
    fd=PySem.W.fnOf x qual (defArgs st) (defBody st) (defScope st) .none kV doc pm an cdv ct/\K.lookup f=some ⟨oc,od,.func fd,osl⟩/\PySem.W.codeIn K cdv qual=true
  kp:PySem.W.keepIn K (.ref f)=true
section
variable {P:Program} {w:World} {K:PySem.W.Frag} {mg:Str->Option Value} {base:Heap}
theorem Fun.ok {x qual:Str} {st:Stmt} {f:Addr} {fd:FuncData} {N ps:List Str} {k:Nat} {sp:Sp} (F:Fun K x qual st f fd) (S:FnScope N ps (defScope st)) (len:∀vs H Q E,sp vs H Q E->vs.length=ps.length)
    (hbody:∀(cdv:Value) (A:Around) (outer:List Env) (s:Shared) (H:Hp) (vs:List V) (Q:VK) (E:XK),Room k (A.deeper (envOfC qual (defScope st) s.heap.objs.size f cdv))->sp vs H Q E->
      ∃t,PSs (cxOf CX0 P w K mg base N qual (defScope st) f cdv A outer s H E).nox (defBody st) t/\t {nx:=fun _ H'=>Q .non H',rt:=Q} (start N vs) H):FnOk P w K mg base CX0 (k+1) f fd ps sp:=by
  obtain⟨oc,od,kV,doc,pm,an,cdv,ct,osl,rfl,lk,hcd⟩:=F.ex
  refine fn_of lk hcd S len fun A outer s H vs Q E hr hsp=> ?_
  obtain⟨t,h,q⟩:=hbody cdv A outer s H vs Q E hr hsp
  exact⟨t,h.nox,q⟩
theorem Fun.binds {x qual:Str} {st:Stmt} {f:Addr} {fd:FuncData} {ps:List Str} (F:Fun K x qual st f fd)
    (h:∀(kV doc pm:Value) (an:Option Addr) (cdv ct:Value) (us:List Value),us.length=ps.length->bindArgs (PySem.W.fnOf x qual (defArgs st) (defBody st) (defScope st) .none kV doc pm an cdv ct) ⟨us,[]⟩=pure (ps.zip us)):Binds K fd ps []:=by
  obtain⟨oc,od,kV,doc,pm,an,cdv,ct,osl,rfl,lk,hcd⟩:=F.ex
  exact .all (h kV doc pm an cdv ct)
theorem fun_mk {x qual:Str} {st:Stmt} {f:Addr} {oc:Value} {od an:Option Addr} {osl:Array (Option Value)} {kV doc pm cdv ct:Value} (l:K.lookup f=some ⟨oc,od,.func (PySem.W.fnOf x qual (defArgs st) (defBody st) (defScope st) .none kV doc pm an cdv ct),osl⟩)
    (c:PySem.W.codeIn K cdv qual=true) (k:PySem.W.keepIn K (.ref f)=true):Fun K x qual st f (PySem.W.fnOf x qual (defArgs st) (defBody st) (defScope st) .none kV doc pm an cdv ct):=⟨⟨oc,od,kV,doc,pm,an,cdv,ct,osl,rfl,l,c⟩,k⟩
end
theorem hu_of {A:Around} {k:Nat} (hr:Room k A):A.units+1 < cLine:=Nat.lt_of_le_of_lt (Nat.add_le_add_left (by decide:1≤64) _) hr.units
theorem small1000 {n:Nat} (h:n≤1000):n < sizeLine:=Nat.lt_of_le_of_lt h (by decide)
section
variable {X:Cx}
theorem pv (i:Nat) {x:Str} {pos:Pos} (hN:X.N[i]? =some x:=by rfl) (hv:Vis X.env.scope x:=by first | exact Or.inl rfl | exact Or.inr (Or.inl rfl) | exact Or.inr (Or.inr rfl)) (hd:(x == ("__debug__":Str))=false:=by decide)
    (hcd:(x == ("__classdict__":Str))=false:=by decide):PE X (.Name x pos) (tVar i):=pe_var hN hv hd hcd
end
theorem iteF {A B:Prop} (h:B):if false=true then A else B:=by
  rw[if_neg Bool.false_ne_true]
  exact h
theorem iteT {A B:Prop} (h:A):if true=true then A else B:=by
  rw[if_pos rfl]
  exact h
theorem ite2 {c A B:Prop} [Decidable c] (h1:c->A) (h2:¬c->B):if c then A else B:=by
  by_cases h:c
  · rw[if_pos h]
    exact h1 h
  · rw[if_neg h]
    exact h2 h
def Same (H H':Hp):Prop:=∀b o,H b=some o->H' b=some o
theorem Same.refl (H:Hp):Same H H:=fun _ _ h=>h
theorem Same.trans {H H1 H2:Hp} (a:Same H H1) (b:Same H1 H2):Same H H2:=fun c o h=>b c o (a c o h)
theorem Same.free {H H':Hp} (e:Same H H') {l:Addr} (h:H' l=Option.none):H l=Option.none:=by
  cases q:H l with
  | none=>rfl
  | some o=>
    rw[e l o q]at h
    cases h
theorem Same.seq {K:PySem.W.Frag} {H H':Hp} {a:Addr} {xs:List V} (e:Same H H') (h:SqL K H a xs):SqL K H' a xs:=by
  rcases h with(h | ⟨o,h⟩) | h
  · exact .inl (.inl (e _ _ h))
  · exact .inl (.inr ⟨o,e _ _ h⟩)
  · exact .inr h
section
variable {κ:Type} [DecidableEq κ]
theorem nd_snoc:∀{l:List κ} {k:κ},l.Nodup->¬k∈l->(l++[k]).Nodup
  | [],k,_,_=>by simp
  | a::r,k,h,hk=>by
    obtain⟨h1,h2⟩:=List.nodup_cons.mp h
    show(a::(r++[k])).Nodup
    refine List.nodup_cons.mpr ⟨fun m=> ?_,nd_snoc h2 fun m=>hk (List.mem_cons.mpr (Or.inr m))⟩
    rcases List.mem_append.mp m with q | q
    · exact h1 q
    · exact hk (List.mem_cons.mpr (Or.inl (List.mem_singleton.mp q).symm))
end
theorem nd_ix {α:Type} {l:List α} (hN:l.Nodup) {i j:Nat} {x:α} (a:l[i]? =some x) (b:l[j]? =some x):i=j:=by
  obtain⟨h1,e1⟩:=List.getElem?_eq_some_iff.mp a
  obtain⟨h2,e2⟩:=List.getElem?_eq_some_iff.mp b
  exact(List.getElem_inj hN).mp (e1.trans e2.symm)
theorem sum_take:∀{l:List Int} {i:Nat} {z:Int},l[i]? =some z->(l.take (i+1)).sum=(l.take i).sum+z
  | [],i,z,h=>by simp at h
  | a::r,0,z,h=>by
    have e:a=z:=Option.some.inj h
    subst e
    show([a]:List Int).sum=([]:List Int).sum+a
    rw[List.sum_cons]
    exact Int.add_comm _ _
  | a::r,i+1,z,h=>by
    have ih:=sum_take (l:=r) (i:=i) (z:=z) h
    show(a::r.take (i+1)).sum=(a::r.take i).sum+z
    rw[List.sum_cons,List.sum_cons,ih]
    omega
end L2
end
section
namespace TyR
open PySem PySem.Spec PyProof.Rows L2
section
variable {prog:Program} {w:World} {A:Around} {E:Value->Shared->Prop} {s:Shared}
theorem getItem_tuple_whole {t sl:Addr} {items:Array Value} {vl vu:Value} {lo hi:Option Int} {Q:Value->Shared->Prop} (ht:IsTup s.heap t items) (hs:s.heap.IsSliceOf sl vl vu .none) (pl:IsPart vl lo) (pu:IsPart vu hi)
    (h0:HT.sIx items.size 0 lo=0) (h1:HT.sIx items.size items.size hi=items.size) (h:Q (.ref t) s):wpAny (model prog w) A (getItem (.ref t) (.ref sl)) Q E s:=by
  obtain⟨os,hos,hcs,hds⟩:=id hs
  have hTs:s.TypeIs (.ref sl) "slice":=⟨os,hos,hcs⟩
  unfold getItem
  try with_reducible refine wpAny_holding ?_
  first | refine wpAny_bind (wpAny_pure ?_) | skip
  refine wpAny_bind (wpAny_sequenceKey ht.typeIs (by decide) ?_)
  refine wpAny_bind (wpAny_callSpecial?_slot (name:=Str.ofString "__getitem__") ht.typeIs PyProof.Rows.slot_tuple_getitem
    (wpAny_call_entry PyProof.Rows.slot_tuple_getitem ht.typeIs entry_tuple_getitem ?_ (args_tuple_getitem _ _)))
  show wpAny _ _ (Builtin.Tuple.tupleItemsOf (.ref t) >>= _) _ _ s
  refine wpAny_bind (tupleItemsOf_ ht ?_)
  refine wpAny_bind (wpAny_typeOf hTs ?_)
  rw[if_pos (by decide)]
  refine wpAny_bind (HT.sliceApplied_gen hs pl pu ?_)
  have hyes:(((HT.sIx items.size 0 lo:Nat):Int) == 0 && (1:Int) == 1 && (HT.sIx items.size items.size hi - HT.sIx items.size 0 lo) == items.size)=true:=by
    rw[h0,h1];simp
  show wpAny _ _ (if (((HT.sIx items.size 0 lo:Nat):Int) == 0 && (1:Int) == 1 && (HT.sIx items.size items.size hi - HT.sIx items.size 0 lo) == items.size)=true then _ else _) _ _ s
  rw[if_pos hyes]
  refine wpAny_bind (m:=Builtin.Tuple.tupleIsExact (.ref t)) ?_
  unfold Builtin.Tuple.tupleIsExact
  refine wpAny_bind (wpAny_typeOf ht.typeIs (wpAny_pure ?_))
  rw[if_pos (by decide)]
  exact wpAny_bind (wpAny_rule (wpAny_pure ⟨_,rfl,wpAny_pure h⟩))
theorem cat_tup0 {t b:Addr} {ws:List Value} {Q:Value->Shared->Prop} (ht:IsTup s.heap t (#[]:Array Value)) (hb:IsTup s.heap b ws.toArray) (h:Q (.ref b) s):wpAny (model prog w) A (binaryOp .Add (.ref t) (.ref b)) Q E s:=by
  obtain⟨⟨cls,dd,data,sl⟩,ho,hc,n,hd⟩:=id ht
  obtain⟨⟨cls2,dd2,data2,sl2⟩,ho2,hc2,n2,hd2⟩:=id hb
  simp only at hc hd hc2 hd2
  subst hc hd hc2 hd2
  exact concat_meets ⟨_,ho,rfl⟩ ⟨_,ho2,rfl⟩ noFill_tuple_add seq_tuple_add PySem.F.slot_tuple_add PySem.F.entry_tuple_add (PySem.F.args_tuple_add_2 _ _)
      (tuple_addW0 t b #[] ws.toArray n n2 dd dd2 sl sl2 (by simp)) ⟨ho,ho2,h⟩
end
abbrev LKey:=Sum Int (List Int)
def ltK:LKey->LKey->Bool
  | .inl i,.inl j=>decide (i < j)
  | .inr u,.inr v=>HT.lexLt u v
  | _,_=>false
def lexK:List LKey->List LKey->Bool
  | [],[]=>false
  | [],_::_=>true
  | _::_,[]=>false
  | x::xs,y::ys=>if x=y then lexK xs ys else ltK x y
def likeK:List LKey->List LKey->Prop
  | .inl _::xs,.inl _::ys=>likeK xs ys
  | .inr _::xs,.inr _::ys=>likeK xs ys
  | [],_=>True
  | _,[]=>True
  | _,_=>False
def KIs (h:Heap):LKey->Value->Prop
  | .inl i,v=>∃t,v= .int i t
  | .inr ns,v=>∃a items,v= .ref a/\IsTup h a items/\IntsAre items.toList ns
theorem IntsAre.itemsAre {prog:Program} {w:World}:∀{vs:List Value} {ns:List Int},IntsAre vs ns->ItemsAre (intKind prog w) ns vs
  | _,_,.nil=> .nil
  | _,_,.cons n t r=> .cons (by simp[intKind,Value.isInt]) (IntsAre.itemsAre r)
section
variable {prog:Program} {w:World} {A:Around} {E:Value->Shared->Prop} {s:Shared}
theorem key_eq {x y:LKey} {u v:Value} {Q:Bool->Shared->Prop} (hu:A.units < cLine) (hx:KIs s.heap x u) (hy:KIs s.heap y v) (hl:likeK [x] [y]) (h:Q (decide (x=y)) s):
    wpAny (model prog w) A (eqBool u v) Q E s:=by
  cases x with
  | inl i=>
    cases y with
    | inl j=>
      obtain⟨t,rfl⟩:=hx
      obtain⟨t',rfl⟩:=hy
      refine(SeqAt.EqAt.int_int i t j t') prog w E Q ?_
      have e:(i == j)=decide ((Sum.inl i:LKey)=Sum.inl j):=by
        by_cases q:i=j
        · subst q;simp
        · simp[q]
      rw[e];exact h
    | inr m=>exact hl.elim
  | inr n=>
    cases y with
    | inl j=>exact hl.elim
    | inr m=>
      obtain⟨a,items,rfl,⟨o,ho,hc,k,hd⟩,hi⟩:=hx
      obtain⟨b,items',rfl,⟨o',ho',hc',k',hd'⟩,hi'⟩:=hy
      refine wpAny_eqBool_tuple (knd:=intKind prog w) (x:=n) (y:=m) hu ⟨o,items,k,ho,hc,hd,IntsAre.itemsAre hi⟩ ⟨o',items',k',ho',hc',hd',IntsAre.itemsAre hi'⟩ ?_
      have e:decide (n=m)=decide ((Sum.inr n:LKey)=Sum.inr m):=by
        by_cases q:n=m
        · subst q;simp
        · simp[q]
      rw[e];exact h
theorem key_lt {x y:LKey} {u v:Value} {Q:Value->Shared->Prop} (hu:A.units < cLine) (hx:KIs s.heap x u) (hy:KIs s.heap y v) (hl:likeK [x] [y]) (h:Q (.bool (ltK x y)) s):
    wpAny (model prog w) A (richCompare .Lt u v) Q E s:=by
  cases x with
  | inl i=>
    cases y with
    | inl j=>
      obtain⟨t,rfl⟩:=hx
      obtain⟨t',rfl⟩:=hy
      exact HT.rcLt_int A s i t j t' prog w E Q h
    | inr m=>exact hl.elim
  | inr n=>
    cases y with
    | inl j=>exact hl.elim
    | inr m=>
      obtain⟨a,items,rfl,h1,hi⟩:=hx
      obtain⟨b,items',rfl,h2,hi'⟩:=hy
      exact(HT.lt_tupInts h1 h2 hi hi' hu h:wpAny (model prog w) A (compareOp .Lt (.ref a) (.ref b)) Q E s)
end
section
open PySem.SeqAt
open PySem.AutoSeq1 (wpAny_loadPart')
open PySem.MeetsSeq PySem.MeetsSeq2 PySem.MeetsSeq3
theorem likeK_tail {x y:LKey} {xs ys:List LKey} (h:likeK (x::xs) (y::ys)):likeK [x] [y]/\likeK xs ys:=by
  cases x with
  | inl i=>
    cases y with
    | inl j=>exact⟨True.intro,h⟩
    | inr m=>exact h.elim
  | inr n=>
    cases y with
    | inl j=>exact h.elim
    | inr m=>exact⟨True.intro,h⟩
theorem tuple_lt_keys (l b:Addr) (items items2:Array Value) (n n2:Nat) (dd dd2:Option Addr) (sl sl2:Array (Option Value)) (ns ms:List LKey) (hlk:likeK ns ms):
    Meets (Builtin.«tuple.__lt__» ⟨[.ref l,.ref b],[]⟩)
      (fun A R s=>A.in1.units < cLine/\Paired (KIs s.heap) ns items.toList/\Paired (KIs s.heap) ms items2.toList/\s.heap.get? l=some {cls:= .type "tuple",dict:=dd,data:= .seq items n,slots:=sl}/\s.heap.get? b=some {cls:= .type "tuple",dict:=dd2,data:= .seq items2 n2,slots:=sl2}/\
        R (.ok (.ret (.bool (lexK ns ms)))) s):=
  .of_wp fun prog w A R s h=>by
    obtain⟨hp,g,d,tk,os⟩:=s;obtain⟨hu,hi,hj,hl,hb,h⟩:=h
    have f2:=AutoSeq1.sub_tuple_tuple
    have z1:items.size=ns.length:=by rw[Paired.length hi];simp
    have z2:items2.size=ms.length:=by rw[Paired.length hj];simp
    wp_walk using wpAny_loadPart' hl,wpAny_loadPart' hb,wpAny_forIn_list _ (fun rest b s'=>b.1=none/\s'=⟨hp,g,d,tk,os⟩/\∃(vs ws:List Value) (ns' ms':List LKey),rest=vs.zip ws/\
      Paired (KIs hp) ns' vs/\Paired (KIs hp) ms' ws/\likeK ns' ms'/\ns'.length+items2.size=ms'.length+items.size/\R (.ok (.ret (.bool (lexK ns' ms')))) ⟨hp,g,d,tk,os⟩) _
    case turn=>
      rintro⟨y,x⟩ rest b s' ⟨hb',rfl,vs,ws,ns',ms',hz,hvi,hwi,hlk,hlen,hR⟩
      cases hvi with
      | nil=>rw[List.zip_nil_left]at hz;cases hz
      | @cons a v ns' vs ha hvi'=>
        cases hwi with
        | nil=>rw[List.zip_nil_right]at hz;cases hz
        | @cons c u ms' ws hc hwi'=>
          rw[List.zip_cons_cons]at hz
          injection hz with hyx hrest
          injection hyx with hy hx
          subst hy hx
          have hR':R (.ok (.ret (.bool (if a=c then lexK ns' ms' else ltK a c)))) ⟨hp,g,d,tk,os⟩:=hR
          simp only[List.length_cons]at hlen
          obtain⟨lk1,lk2⟩:=likeK_tail hlk
          refine wpAny_bind (key_eq (s:=⟨hp,g,d,tk,os⟩) hu ha hc lk1 ?_)
          by_cases e:a=c
          · rw[if_pos e]at hR'
            rw[decide_eq_true e]
            wp_walk
            exact⟨rfl,rfl,_,_,_,_,hrest,hvi',hwi',lk2,by omega,hR'⟩
          · rw[if_neg e]at hR'
            rw[decide_eq_false e]
            have hri:∀(Q:Value->Shared->Prop) (E:Value->Shared->Prop),Q (.bool (ltK a c)) ⟨hp,g,d,tk,os⟩->wpAny (model prog w) A.in1 (richCompare .Lt y x) Q E ⟨hp,g,d,tk,os⟩:=fun Q E q=>key_lt (s:=⟨hp,g,d,tk,os⟩) hu ha hc lk1 q
            wp_walk using hri
            exact⟨_,rfl,by simpa using hR'⟩
    case fin=>
      rintro⟨b1,b2⟩ s' ⟨hb',rfl,vs,ws,ns',ms',hz,hvi,hwi,_,hlen,hR⟩
      simp only at hb'
      subst hb'
      have hv:lexK ns' ms'=decide (items.size < items2.size):=by
        cases hvi with
        | nil=>
          cases hwi with
          | nil=>
            simp only[List.length_nil]at hlen
            exact(decide_eq_false (by omega)).symm
          | cons hc hw=>
            simp only[List.length_nil,List.length_cons]at hlen
            exact(decide_eq_true (by omega)).symm
        | cons ha hv=>
          cases hwi with
          | nil=>
            simp only[List.length_nil,List.length_cons]at hlen
            exact(decide_eq_false (by omega)).symm
          | cons hc hw=>
            rw[List.zip_cons_cons]at hz
            cases hz
      rw[hv]at hR
      wp_walk
      exact⟨_,rfl,by simpa [Builtin.Tuple.tupleCompareSizes] using hR⟩
    case h=>
      exact⟨rfl,rfl,items.toList,items2.toList,ns,ms,rfl,hi,hj,hlk,by omega,h⟩
end
section
variable {prog:Program} {w:World} {A:Around} {E:Value->Shared->Prop} {s:Shared}
theorem lt_tupKeys {l b:Addr} {items items2:Array Value} {ns ms:List LKey} {Q:Value->Shared->Prop} (hl:IsTup s.heap l items) (hb:IsTup s.heap b items2) (hi:Paired (KIs s.heap) ns items.toList) (hj:Paired (KIs s.heap) ms items2.toList)
    (hlk:likeK ns ms) (hu:A.units < cLine) (hu1:A.in1.units < cLine) (h:Q (.bool (lexK ns ms)) s):wpAny (model prog w) A (richCompare .Lt (.ref l) (.ref b)) Q E s:=by
  obtain⟨⟨cls,dd,data,sl⟩,ho,hc,n,hd⟩:=id hl
  obtain⟨⟨cls2,dd2,data2,sl2⟩,ho2,hc2,n2,hd2⟩:=id hb
  simp only at hc hd hc2 hd2
  subst hc hd hc2 hd2
  exact richCompare_meets_room (op:= .Lt) ⟨_,ho,rfl⟩ ⟨_,ho2,rfl⟩ PySem.F.slot_tuple_lt PySem.F.entry_tuple_lt (PySem.F.args_tuple_lt_2 _ _) (tuple_lt_keys l b items items2 n n2 dd dd2 sl sl2 ns ms hlk)
    ⟨hu1,hi,hj,ho,ho2,show Value.bool (lexK ns ms)≠Value.notImplemented/\Q (.bool (lexK ns ms)) s from⟨(fun x=>nomatch x),h⟩⟩ hu
end
end TyR
end
section
namespace TyR
open PySem PySem.Spec PyProof.Rows L2
section
variable {X:Cx}
inductive rSlT2 (K:PySem.W.Frag) (x:V) (lo:Option Int) (hi:Option Int) (H:Hp) (Q:VK):Prop
  | mk a xs (h_0:x= .ref a) (h_1:SqT K H a xs) (h_2:((HT.sIx xs.length 0 lo=0/\HT.sIx xs.length xs.length hi=xs.length)->Q (.ref a) H)) (h_3:(¬(HT.sIx xs.length 0 lo=0/\HT.sIx xs.length xs.length hi=xs.length)->∀p,H p=none->Q (.ref p) (upd H p (.tup (cutV xs lo hi))))):rSlT2 K x lo hi H Q
theorem sl_tup2:SlR X (rSlT2 X.K):=by
  intro pins s σ H x v vl vu lo hi sl Q I rx hs pl pu h
  obtain⟨a,xs,rfl,hx,q1,q2⟩:=h
  by_cases hw:HT.sIx xs.length 0 lo=0/\HT.sIx xs.length xs.length hi=xs.length
  · cases rx
    obtain⟨its,r,ht,hz⟩:=I.tuple hx
    have hlen:its.toArray.size=xs.length:=by rw[List.size_toArray];exact r.length.symm
    refine⟨"tuple",_,PyProof.Rows.slot_tuple_getitem.lookup,ht.typeIs,?_⟩
    exact getItem_tuple_whole ht hs pl pu (by rw[hlen];exact hw.1) (by rw[hlen];exact hw.2) ⟨.ref a,H,I,rfl,q1 hw⟩
  · exact sl_tup pins s σ H _ v vl vu lo hi sl Q I rx hs pl pu ⟨a,xs,rfl,hx,hw,q2 hw⟩
inductive rCatT2 (K:PySem.W.Frag) (x:V) (y:V) (H:Hp) (Q:VK):Prop
  | mk a b xs ys (h_0:x= .ref a) (h_1:y= .ref b) (h_2:SqT K H a xs) (h_3:SqT K H b ys) (h_4:ys≠[]) (h_5:xs.length+ys.length≤sizeLine) (h_6:(xs=[]->Q (.ref b) H)) (h_7:(xs≠[]->∀p,H p=none->Q (.ref p) (upd H p (.tup (xs++ys))))):rCatT2 K x y H Q
theorem op_catT2:OpR X (binaryOp .Add) (rCatT2 X.K):=by
  intro pins s σ H x y v u Q I rx ry h
  obtain⟨a,b,xs,ys,rfl,rfl,ha,hb,hy,hz,q1,q2⟩:=h
  by_cases hx:xs=[]
  · subst hx
    cases rx
    cases ry
    obtain⟨its,r1,p1,_⟩:=I.tuple ha
    obtain⟨its2,r2,p2,_⟩:=I.tuple hb
    cases r1
    exact cat_tup0 p1 p2 ⟨.ref b,H,I,rfl,q1 rfl⟩
  · exact op_catT pins s σ H _ _ v u Q I rx ry ⟨a,b,xs,ys,rfl,rfl,ha,hb,hx,hz,fun e=>absurd e hy,fun _=>q2 hx⟩
end
def KV1 (K:PySem.W.Frag) (H:Hp):LKey->V->Prop
  | .inl i,v=>v= .int i
  | .inr ns,v=>∃a,v= .ref a/\SqT K H a (ns.map V.int)
inductive KTup (K:PySem.W.Frag) (H:Hp) (r:V) (ks:List LKey):Prop
  | mk (t:Addr) (xs:List V) (h_0:r= .ref t) (h_1:SqT K H t xs) (h_2:Paired (KV1 K H) ks xs):KTup K H r ks
theorem SqT.same {K:PySem.W.Frag} {H H':Hp} {a:Addr} {xs:List V} (e:Same H H') (h:SqT K H a xs):SqT K H' a xs:=by
  rcases h with h | h
  · rcases h with h | ⟨o,h⟩
    · exact .inl (.inl (e _ _ h))
    · exact .inl (.inr ⟨o,e _ _ h⟩)
  · exact .inr h
theorem KV1.same {K:PySem.W.Frag} {H H':Hp} (e:Same H H'):∀{k:LKey} {v:V},KV1 K H k v->KV1 K H' k v
  | .inl _,_,h=>h
  | .inr _,_,⟨a,h1,h2⟩=>⟨a,h1,SqT.same e h2⟩
theorem KTup.same {K:PySem.W.Frag} {H H':Hp} {r:V} {ks:List LKey} (e:Same H H') (h:KTup K H r ks):KTup K H' r ks:=by
  obtain⟨t,xs,h1,h2,h3⟩:=h
  exact⟨t,xs,h1,SqT.same e h2,Paired.imp' (fun _ _ q=>KV1.same e q) h3⟩
section
variable {X:Cx} {pins:List (Addr×Obj)} {σ:L2.St} {H:Hp} {s:Shared}
theorem KV1.at (I:Inv X pins σ H s):∀{k:LKey} {v:V} {u:Value},KV1 X.K H k v->RelV v u->KIs s.heap k u
  | .inl i,_,u,h,r=>by
    cases (show _=V.int i from h)
    exact r
  | .inr ns,_,u,⟨a,h1,h2⟩,r=>by
    subst h1
    cases (show u=Value.ref a from r)
    obtain⟨its,rv,ht,_⟩:=I.tuple h2
    exact⟨a,its.toArray,rfl,ht,by simpa using intsAre_of rv⟩
theorem KV1.all (I:Inv X pins σ H s):∀{ks:List LKey} {xs:List V} {us:List Value},Paired (KV1 X.K H) ks xs->Vals xs us->Paired (KIs s.heap) ks us
  | _,_,_,.nil,.nil=> .nil
  | _,_,_,.cons h t,.cons r q=> .cons (KV1.at I h r) (KV1.all I t q)
theorem KTup.at (I:Inv X pins σ H s) {r:V} {u:Value} {ks:List LKey} (h:KTup X.K H r ks) (ru:RelV r u):∃t its,u= .ref t/\IsTup s.heap t its/\Paired (KIs s.heap) ks its.toList:=by
  obtain⟨t,xs,rfl,h2,h3⟩:=h
  cases (show u=Value.ref t from ru)
  obtain⟨its,rv,ht,_⟩:=I.tuple h2
  exact⟨t,its.toArray,rfl,ht,by simpa using KV1.all I h3 rv⟩
end
theorem FpOk.to {X:Cx} {pins:List (Addr×Obj)} {H H':Hp} {b:Addr} (f:FpOk X pins H b) (h:H' b=none):FpOk X pins H' b:=⟨h,f.2⟩
section
variable {X:Cx} {pins:List (Addr×Obj)} {σ:L2.St} {k:Nat} {f:Addr} {fd:FuncData} {ps:List Str} {sp:Sp} {l:Addr} {xs:List V} {keys:List (List LKey)} {H1:Hp} {Q:VK}
def minEnd (X:Cx) (pins:List (Addr×Obj)) (σ:L2.St) (Q:VK):Result->Shared->Prop:=fun r s'=>match r with
  | .ok (.ret v)=>EP X pins σ Q v s'
  | .ok _=>False
  | .error e=>X.xe e s'
theorem key_call (F:FnOk X.prog X.w X.K X.mg X.base CX0 k f fd ps sp) (hr:Room (k+1) X.A) (hb:Binds X.K fd ps [])
    {H:Hp} {s:Shared} {v:V} {u:Value} {R:VK} {E:Value->Shared->Prop} (I:Inv X pins σ H s) (ru:RelV v u) (h:sp [v] H R E0):
    wpAny (model X.prog X.w) X.A.in1 (call (.ref f) [u]) (EP X pins σ R) E s:=by
  have r2:Vals ([v]++[]) ([u]++[]):= .cons ru .nil
  have hl:([u]++([]:List Value)).length=ps.length:=by rw[←r2.length];exact F.len _ _ _ _ h
  refine wpAny_call (codeAny_mono (F.run X.A.in1 X.stack s H ⟨[u],[]⟩ [u] [v] R E0 hr.in1 I.env0.in1 (hb s [u] I.kIn hl) (.cons ru .nil) h) fun r s' hq=> ?_)
  cases r with
  | error e=>exact(show False from hq).elim
  | ok fl=>
    cases fl with
    | ret u=>exact I.after hq
    | next=>exact False.elim hq
    | brk=>exact False.elim hq
    | cont=>exact False.elim hq
theorem min_loop (F:FnOk X.prog X.w X.K X.mg X.base CX0 k f fd ps sp) (hr:Room (k+1) X.A) (hb:Binds X.K fd ps []) (hcalm:X.calm=true)
    (hl:SqL X.K H1 l xs) (hlen:keys.length=xs.length) (like:∀a∈keys,∀b∈keys,likeK a b)
    (tr:∀a∈keys,∀b∈keys,∀c∈keys,lexK a b=true->lexK b c=true->lexK a c=true) (irr:∀a∈keys,lexK a a=false)
    (hsp:∀(i:Nat) (v:V) (ks:List LKey) (H':Hp),xs[i]? =some v->keys[i]? =some ks->Same H1 H'->sp [v] H' (fun r H''=>Same H' H''/\KTup X.K H'' r ks) E0)
    (hQ:∀(i:Nat) (v:V) (ki:List LKey) (H':Hp),xs[i]? =some v->keys[i]? =some ki->(∀a∈keys,lexK a ki=false)->Same H1 H'->Q v H') {it S:Addr} (hIS:S≠it) (hlI:l≠it):
    ∀(r j i:Nat) (s:Shared) (H:Hp) (vb:V) (ub kb:Value) (rk:V) (ki:List LKey) (c:Nat),xs.length - j=r->j≤xs.length->Inv X pins σ H s->Same H1 H->FpOk X pins H it->FpOk X pins H S->
      s.heap.get? S=some (seqObj "list" #[ub,kb] c)->s.heap.IsListIter it l j->i < j->xs[i]? =some vb->RelV vb ub->keys[i]? =some ki->KTup X.K H rk ki->RelV rk kb->(∀(j':Nat) (kj:List LKey),j' < j->keys[j']? =some kj->lexK kj ki=false)->
      codeAny (model X.prog X.w) X.A (.builtin "min.loop" ⟨[.ref it,.ref f,.ref S],[]⟩) (minEnd X pins σ Q) s:=by
  have hname:(toString "min"++toString ".loop":String)="min.loop":=by decide
  have hh:X.A.in1.handled=none:=hr.hd
  intro r
  induction r with
  | zero=>
    intro j i s H vb ub kb rk ki c hr' hj I sm fi fS gS hit hij hvb rvb hki hkt rkb best
    have e:j=xs.length:=by omega
    obtain⟨its,rv,pl,hz⟩:=I.list (sm.seq hl)
    have W:=Walks.list (prog:=X.prog) (w:=X.w) (A:=X.A.in1) hh it l hlI its.toArray
    have hsz:its.toArray.size=xs.length:=by rw[List.size_toArray];exact rv.length.symm
    refine codeAny_builtin PySem.F.entry_min_loop ?_
    rw[Around.under_plainId PySem.F.plain_min_loop _]
    show wpAny _ X.A.in1 (seqItems? (.ref S) >>= _) _ _ _
    refine wpAny_bind (wpAny_seqItems gS rfl ?_)
    show wpAny _ X.A.in1 (tryCatch (pyNext (.ref it)) _ >>= _) _ _ _
    refine wpAny_bind (wpAny_tryCatch (W.done _ _ _ ⟨by rw[hsz,←e];exact hit,pl.isList⟩ fun h' tk' hk'=> ?_))
    obtain⟨f0,f1,f2,f3,f4,f5⟩:=fi
    have I1:Inv X pins σ H {s with heap:=h',toks:=tk'}:=I.turned (fun b o hb e=>hk' b o (by simpa using hb) e) f0 f1 f3 f4 f5
    have gS':h'.get? S=some (seqObj "list" #[ub,kb] c):=hk' S _ (by simpa using hIS) gS
    show wpAny _ X.A.in1 (updateSeq S (fun _=> #[]) >>= _) _ _ _
    refine wpAny_bind ?_
    refine wpAny_updateSeq gS' rfl (wpAny_bind (wpAny_letGo (wpAny_pure ?_)))
    have s1:=Heap.SameBut.update h' S (Obj.mapSeq fun _=>(#[]:Array Value))
    obtain⟨g0,g1,g2,g3,g4,g5⟩:=fS
    have I2:Inv X pins σ H {s with heap:=h'.update S (Obj.mapSeq fun _=>(#[]:Array Value)),toks:=tk'}:=I1.turned (t':=tk') (fun b o hb e=>(s1.2 b hb).trans e) g0 g1 g3 g4 g5
    refine⟨vb,H,I2,rvb,hQ i vb ki H hvb hki (fun a ha=> ?_) sm⟩
    obtain⟨j',hj',ea⟩:=List.getElem_of_mem ha
    exact best j' a (by omega) (by rw[←ea];exact List.getElem?_eq_getElem hj')
  | succ r ih=>
    intro j i s H vb ub kb rk ki c hr' hj I sm fi fS gS hit hij hvb rvb hki hkt rkb best
    have hlt:j < xs.length:=by omega
    obtain⟨its,rv,pl,hz⟩:=I.list (sm.seq hl)
    have W:=Walks.list (prog:=X.prog) (w:=X.w) (A:=X.A.in1) hh it l hlI its.toArray
    have hsz:its.toArray.size=xs.length:=by rw[List.size_toArray];exact rv.length.symm
    obtain⟨v,hv⟩:∃v,xs[j]? =some v:=⟨_,List.getElem?_eq_getElem hlt⟩
    obtain⟨kj,hkj⟩:∃kj,keys[j]? =some kj:=⟨_,List.getElem?_eq_getElem (by omega)⟩
    refine codeAny_builtin PySem.F.entry_min_loop ?_
    rw[Around.under_plainId PySem.F.plain_min_loop _]
    show wpAny _ X.A.in1 (seqItems? (.ref S) >>= _) _ _ _
    refine wpAny_bind (wpAny_seqItems gS rfl ?_)
    show wpAny _ X.A.in1 (tryCatch (pyNext (.ref it)) _ >>= _) _ _ _
    refine wpAny_bind (wpAny_tryCatch (W.item j _ _ _ (by rw[hsz];exact hlt) ⟨hit,pl.isList⟩ fun u h' tk' hP hst' hk'=> ?_))
    have hu:its[j]? =some u:=by simpa using hP
    obtain⟨u',hu',ru⟩:=rv.get hv
    obtain rfl:u'=u:=Option.some.inj (hu'.symm.trans hu)
    have I1:Inv X pins σ H {s with heap:=h',toks:=tk'}:=I.turned (fun b o hb e=>hk' b o (by simpa using hb) e) fi.1 fi.2.1 fi.2.2.2.1 fi.2.2.2.2.1 fi.2.2.2.2.2
    have gS':h'.get? S=some (seqObj "list" #[ub,kb] c):=hk' S _ (by simpa using hIS) gS
    obtain⟨oI,hoI,hoc,hod⟩:=id hst'.1
    show wpAny _ X.A.in1 (tryCatch (holding [u'] (call (.ref f) [u'])) _ >>= _) _ _ _
    have fp:∀b∈[it,S],FpOk X pins H b:=fun b hb=>by
      rcases List.mem_cons.mp hb with e | e
      · rw[e];exact fi
      · rw[List.mem_singleton.mp e];exact fS
    have ob:∀b∈[it,S],∃o,h'.get? b=some o/\∀v,o.data≠ .cell v:=fun b hb=>by
      rcases List.mem_cons.mp hb with e | e
      · rw[e];exact⟨oI,hoI,fun v z=>by rw[hod]at z;cases z⟩
      · rw[List.mem_singleton.mp e];exact⟨_,gS',fun v z=>nomatch z⟩
    have I1':=I1.pinned fp ob
    refine wpAny_bind (wpAny_tryCatch (wpAny_holding (wpAny_mono (key_call (E:=fun _ _=>False) F hr hb I1' ru (hsp j v kj H hv hkj sm)) (fun x s2 he=> ?_) fun _ _ hF=>hF.elim)))
    obtain⟨rx,H2,I2',rxx,sm2,kt2⟩:=he
    have I2:=I2'.unpinned
    have pI:=I2'.pin (it,oI) (List.mem_append_right _ (List.mem_append_right _ (mem_pinsAt (by simp) hoI)))
    have pS:=I2'.pin (S,seqObj "list" #[ub,kb] c) (List.mem_append_right _ (List.mem_append_right _ (mem_pinsAt (by simp) gS')))
    have fi2:FpOk X pins H2 it:=FpOk.to fi pI.2.1
    have fS2:FpOk X pins H2 S:=FpOk.to fS pS.2.1
    have hit2:s2.heap.IsListIter it l (j+1):=⟨oI,pI.1,hoc,hod⟩
    have smm:Same H1 H2:=sm.trans sm2
    obtain⟨t1,its1,e1,ht1,hk1⟩:=KTup.at I2 kt2 rxx
    obtain⟨t2,its2,e2,ht2,hk2⟩:=KTup.at I2 (KTup.same sm2 hkt) rkb
    subst e1 e2
    have mi:ki∈keys:=List.mem_of_getElem? hki
    have mj:kj∈keys:=List.mem_of_getElem? hkj
    show wpAny _ X.A.in1 (tryCatch (holding [u',.ref t1] (richCompare .Lt (.ref t1) (.ref t2) >>= _)) _ >>= _) _ _ _
    have un:=hr.un
    refine wpAny_bind (wpAny_tryCatch (wpAny_holding (wpAny_bind (lt_tupKeys ht1 ht2 hk1 hk2 (like _ mj _ mi) (show X.A.units+1 < cLine by omega) (show X.A.units+1+1 < cLine by omega) ?_))))
    refine wpAny_bind (wpAny_holding (wpAny_truthy_bool ?_))
    refine wpAny_bind (wpAny_letGo (wpAny_pure ?_))
    by_cases hb':lexK kj ki=true
    · have s1:=Heap.SameBut.update s2.heap S (Obj.mapSeq fun _=> #[u',.ref t1])
      obtain⟨c2,hc2⟩:∃c2,(s2.heap.update S (Obj.mapSeq fun _=> #[u',.ref t1])).get? S=some (seqObj "list" #[u',.ref t1] c2):=⟨_,get?_update_seq pS.1 fun _=> #[u',.ref t1]⟩
      simp only[hb',if_true]
      refine wpAny_bind ?_
      refine wpAny_updateSeq pS.1 rfl (wpAny_bind (wpAny_letGo ?_))
      rw[hname]
      have I3:Inv X pins σ H2 {s2 with heap:=s2.heap.update S (Obj.mapSeq fun _=> #[u',.ref t1])}:=I2.turned (t':=s2.toks) (fun b o hb e=>(s1.2 b hb).trans e) fS2.1 fS2.2.1 fS2.2.2.2.1 fS2.2.2.2.2.1 fS2.2.2.2.2.2
      refine wpAny_pure ⟨plainId_quiet PySem.F.plain_min_loop _,ih (j+1) j _ H2 v u' (.ref t1) rx kj c2 (by omega) (by omega) I3 smm fi2 fS2 hc2 ⟨oI,(s1.2 it (Ne.symm hIS)).trans pI.1,hoc,hod⟩ (Nat.lt_succ_self _) hv ru hkj kt2 rxx fun j' k' hj' hk'=> ?_⟩
      by_cases e:j'=j
      · subst e
        rw[hkj]at hk'
        cases hk'
        exact irr kj mj
      · have hbj:=best j' k' (by omega) hk'
        cases q:lexK k' kj with
        | false=>rfl
        | true=>
          rw[tr k' (List.mem_of_getElem? hk') kj mj ki mi q hb']at hbj
          cases hbj
    · have hb2:lexK kj ki=false:=by
        cases q:lexK kj ki with
        | false=>rfl
        | true=>exact absurd q hb'
      simp only[hb2,Bool.false_eq_true,if_false]
      refine wpAny_bind (wpAny_letGo ?_)
      rw[hname]
      refine wpAny_pure ⟨plainId_quiet PySem.F.plain_min_loop _,ih (j+1) i _ H2 vb ub (.ref t2) rk ki c (by omega) (by omega) I2 smm fi2 fS2 pS.1 hit2 (by omega) hvb rvb hki (KTup.same sm2 hkt) rkb fun j' k' hj' hk'=> ?_⟩
      by_cases e:j'=j
      · subst e
        rw[hkj]at hk'
        cases hk'
        exact hb2
      · exact best j' k' (by omega) hk'
end
end TyR
end
section
namespace TyR
open PySem PySem.Spec PyProof.Rows L2
section
variable {X:Cx} {pins:List (Addr×Obj)} {σ:L2.St} {k:Nat} {f:Addr} {fd:FuncData} {ps:List Str} {sp:Sp} {l:Addr} {xs:List V} {keys:List (List LKey)} {H1:Hp} {Q:VK} {s:Shared}
theorem min_key (F:FnOk X.prog X.w X.K X.mg X.base CX0 k f fd ps sp) (hr:Room (k+1) X.A) (hb:Binds X.K fd ps []) (hcalm:X.calm=true) (I:Inv X pins σ H1 s)
    (hl:SqL X.K H1 l xs) (hne:xs≠[]) (hlen:keys.length=xs.length) (like:∀a∈keys,∀b∈keys,likeK a b)
    (tr:∀a∈keys,∀b∈keys,∀c∈keys,lexK a b=true->lexK b c=true->lexK a c=true) (irr:∀a∈keys,lexK a a=false)
    (hsp:∀(i:Nat) (v:V) (ks:List LKey) (H':Hp),xs[i]? =some v->keys[i]? =some ks->Same H1 H'->sp [v] H' (fun r H''=>Same H' H''/\KTup X.K H'' r ks) E0)
    (hQ:∀(i:Nat) (v:V) (ki:List LKey) (H':Hp),xs[i]? =some v->keys[i]? =some ki->(∀a∈keys,lexK a ki=false)->Same H1 H'->Q v H'):
    wpAny (model X.prog X.w) X.A (call (.builtin "min") [.ref l] [(Str.ofString "key",.ref f)]) (EP X pins σ Q) X.xe s:=by
  have hname:(toString "min"++toString ".loop":String)="min.loop":=by decide
  have hh:X.A.in1.handled=none:=hr.hd
  obtain⟨its,rv,pl,hz⟩:=I.list hl
  have hls:=pl.isList
  obtain⟨ol,hol,_⟩:=id hls
  have hll:l < s.heap.objs.size:=Heap.lt_size hol
  have hsz:its.toArray.size=xs.length:=by rw[List.size_toArray];exact rv.length.symm
  have hpos:0 < xs.length:=by
    cases xs with
    | nil=>exact absurd rfl hne
    | cons a l=>exact Nat.zero_lt_succ _
  refine kmk_tree PySem.F.kind_min PySem.F.plain_min PySem.F.entry_min (kmk_min_key _ _) ?_
  show wpAny _ X.A.in1 (Builtin.Builtins.bindParams "min" ["key","default"] 0 ⟨[],[(Str.ofString "key",.ref f)]⟩ >>= _) _ _ s
  refine wpAny_bind (wpAny_of_eq (show Builtin.Builtins.bindParams "min" ["key","default"] 0 ⟨[],[(Str.ofString "key",.ref f)]⟩=pure [some (.ref f),none]from rfl) ?_)
  refine wpAny_bind (wpAny_pure ?_)
  refine wpAny_bind (wpAny_pyIter_list hls ?_)
  refine wpAny_bind (wpAny_newList ?_ (Nat.zero_le _))
  rw[hname]
  have hS:(s.heap.push {cls:= .type "list_iterator",data:= .fields #[.ref l,.int 0 0]}).objs.size=s.heap.objs.size+1:=size_push' ..
  refine wpAny_pure ⟨plainId_quiet PySem.F.plain_min_loop _,?_⟩
  have gI:((s.heap.push {cls:= .type "list_iterator",data:= .fields #[.ref l,.int 0 0]}).push (seqObj "list" #[] 0)).get? s.heap.objs.size=some {cls:= .type "list_iterator",data:= .fields #[.ref l,.int 0 0]}:=
    Heap.get?_push_of_some _ (Heap.get?_push_size _ rfl)
  have gS:((s.heap.push {cls:= .type "list_iterator",data:= .fields #[.ref l,.int 0 0]}).push (seqObj "list" #[] 0)).get? (s.heap.push {cls:= .type "list_iterator",data:= .fields #[.ref l,.int 0 0]}).objs.size=some (seqObj "list" #[] 0):=
    Heap.get?_push_size _ rfl
  have I0:Inv X pins σ H1 {s with heap:=(s.heap.push {cls:= .type "list_iterator",data:= .fields #[.ref l,.int 0 0]}).push (seqObj "list" #[] 0)}:=I.kept (t':=s.toks) fun b o e=>Heap.get?_push_of_some _ (Heap.get?_push_of_some _ e)
  have hlI:l≠s.heap.objs.size:=Nat.ne_of_lt hll
  have hSI:(s.heap.push {cls:= .type "list_iterator",data:= .fields #[.ref l,.int 0 0]}).objs.size≠s.heap.objs.size:=by rw[hS];exact Nat.ne_of_gt (Nat.lt_succ_self _)
  have fi:FpOk X pins H1 s.heap.objs.size:=I.fpOk (Nat.le_refl _) (I.hok.fresh (Nat.le_refl _))
  have fS:FpOk X pins H1 (s.heap.push {cls:= .type "list_iterator",data:= .fields #[.ref l,.int 0 0]}).objs.size:=by
    rw[hS]
    exact I.fpOk (Nat.le_succ _) (I.hok.fresh (Nat.le_succ _))
  generalize hSe:(s.heap.push {cls:= .type "list_iterator",data:= .fields #[.ref l,.int 0 0]}).objs.size=S at gS hSI fS ⊢
  generalize hh0:(s.heap.push {cls:= .type "list_iterator",data:= .fields #[.ref l,.int 0 0]}).push (seqObj "list" #[] 0)=h0 at gI gS I0 ⊢
  generalize hit:s.heap.objs.size=it at gI hlI hSI fi ⊢
  obtain⟨its,rv,pl,hz⟩:=I0.list hl
  have hsz:its.toArray.size=xs.length:=by rw[List.size_toArray];exact rv.length.symm
  have W:=Walks.list (prog:=X.prog) (w:=X.w) (A:=X.A.in1) hh it l hlI its.toArray
  obtain⟨v,hv⟩:∃v,xs[0]? =some v:=⟨_,List.getElem?_eq_getElem hpos⟩
  obtain⟨kj,hkj⟩:∃kj,keys[0]? =some kj:=⟨_,List.getElem?_eq_getElem (by omega)⟩
  refine codeAny_builtin PySem.F.entry_min_loop ?_
  rw[Around.under_plainId PySem.F.plain_min_loop _]
  show wpAny _ X.A.in1 (seqItems? (.ref S) >>= _) _ _ _
  refine wpAny_bind (wpAny_seqItems gS rfl ?_)
  show wpAny _ X.A.in1 (tryCatch (pyNext (.ref it)) _ >>= _) _ _ _
  refine wpAny_bind (wpAny_tryCatch (W.item 0 _ _ _ (by rw[hsz];exact hpos) ⟨⟨_,gI,rfl,rfl⟩,pl.isList⟩ fun u h' tk' hP hst' hk'=> ?_))
  have hu:its[0]? =some u:=by simpa using hP
  obtain⟨u',hu',ru⟩:=rv.get hv
  obtain rfl:u'=u:=Option.some.inj (hu'.symm.trans hu)
  have I1:Inv X pins σ H1 {s with heap:=h',toks:=tk'}:=I0.turned (t':=tk') (fun b o hb e=>hk' b o (by simpa using hb) e) fi.1 fi.2.1 fi.2.2.2.1 fi.2.2.2.2.1 fi.2.2.2.2.2
  have gS':h'.get? S=some (seqObj "list" #[] 0):=hk' S _ (by simpa using hSI) gS
  obtain⟨oI,hoI,hoc,hod⟩:=id hst'.1
  show wpAny _ X.A.in1 (tryCatch (holding [u'] (call (.ref f) [u'])) _ >>= _) _ _ _
  have fp:∀b∈[it,S],FpOk X pins H1 b:=fun b hb=>by
    rcases List.mem_cons.mp hb with e | e
    · rw[e];exact fi
    · rw[List.mem_singleton.mp e];exact fS
  have ob:∀b∈[it,S],∃o,h'.get? b=some o/\∀v,o.data≠ .cell v:=fun b hb=>by
    rcases List.mem_cons.mp hb with e | e
    · rw[e];exact⟨oI,hoI,fun v z=>by rw[hod]at z;cases z⟩
    · rw[List.mem_singleton.mp e];exact⟨_,gS',fun v z=>nomatch z⟩
  have I1':=I1.pinned fp ob
  refine wpAny_bind (wpAny_tryCatch (wpAny_holding (wpAny_mono (key_call (E:=fun _ _=>False) F hr hb I1' ru (hsp 0 v kj H1 hv hkj (Same.refl _))) (fun x s2 he=> ?_) fun _ _ hF=>hF.elim)))
  obtain⟨rx,H2,I2',rxx,sm2,kt2⟩:=he
  have I2:=I2'.unpinned
  have pI:=I2'.pin (it,oI) (List.mem_append_right _ (List.mem_append_right _ (mem_pinsAt (by simp) hoI)))
  have pS:=I2'.pin (S,seqObj "list" #[] 0) (List.mem_append_right _ (List.mem_append_right _ (mem_pinsAt (by simp) gS')))
  have fi2:FpOk X pins H2 it:=FpOk.to fi pI.2.1
  have fS2:FpOk X pins H2 S:=FpOk.to fS pS.2.1
  have s1:=Heap.SameBut.update s2.heap S (Obj.mapSeq fun _=> #[u',x])
  obtain⟨c2,hc2⟩:∃c2,(s2.heap.update S (Obj.mapSeq fun _=> #[u',x])).get? S=some (seqObj "list" #[u',x] c2):=⟨_,get?_update_seq pS.1 fun _=> #[u',x]⟩
  show wpAny _ X.A.in1 (updateSeq S (fun _=> #[u',x]) >>= _) _ _ _
  refine wpAny_bind ?_
  refine wpAny_updateSeq pS.1 rfl ?_
  rw[hname]
  have I3:Inv X pins σ H2 {s2 with heap:=s2.heap.update S (Obj.mapSeq fun _=> #[u',x])}:=I2.turned (t':=s2.toks) (fun b o hb e=>(s1.2 b hb).trans e) fS2.1 fS2.2.1 fS2.2.2.2.1 fS2.2.2.2.2.1 fS2.2.2.2.2.2
  refine wpAny_pure ⟨plainId_quiet PySem.F.plain_min_loop _,min_loop F hr hb hcalm hl hlen like tr irr hsp hQ hSI hlI _ 1 0 _ H2 v u' x rx kj c2 rfl (by omega) I3 sm2 fi2 fS2 hc2 ⟨oI,(s1.2 it (Ne.symm hSI)).trans pI.1,hoc,hod⟩ (Nat.zero_lt_one) hv ru hkj kt2 rxx fun j' k' hj' hk'=> ?_⟩
  have e:j'=0:=by omega
  subst e
  rw[hkj]at hk'
  cases hk'
  exact irr kj (List.mem_of_getElem? hkj)
def tMinKey (K:PySem.W.Frag) (sp:Sp) (te:TE):TE:=fun σ H Q=>te σ H fun x H1=>∃(l:Addr) (xs:List V) (keys:List (List LKey)),x= .ref l/\SqL K H1 l xs/\xs≠[]/\keys.length=xs.length/\(∀a∈keys,∀b∈keys,likeK a b)/\
  (∀a∈keys,∀b∈keys,∀c∈keys,lexK a b=true->lexK b c=true->lexK a c=true)/\(∀a∈keys,lexK a a=false)/\
  (∀(i:Nat) (v:V) (ks:List LKey) (H':Hp),xs[i]? =some v->keys[i]? =some ks->Same H1 H'->sp [v] H' (fun r H''=>Same H' H''/\KTup K H'' r ks) E0)/\
  ∀(i:Nat) (v:V) (ki:List LKey) (H':Hp),xs[i]? =some v->keys[i]? =some ki->(∀a∈keys,lexK a ki=false)->Same H1 H'->Q v H'
theorem pe_minKey {e:Expr} {te:TE} {g:Str} {p pos kp kpos:Pos} (F:FnOk X.prog X.w X.K X.mg X.base CX0 k f fd ps sp) (hr:Room (k+1) X.A) (hb:Binds X.K fd ps []) (hcalm:X.calm=true)
    (hgm:Gl X "min") (hm:X.mg "min"=none) (hgg:Gl X g) (hg:X.mg g=some (.ref f)) (he:PE X e te) (hdb:(g == ("__debug__":Str))=false:=by decide)
    (hs:starEach [e] X.env=[(false,eval e X.env)]:=by rfl):
    PE X (.Call (.Name "min" p) [e] [⟨some "key",.Name g kp,kpos⟩] pos) (tMinKey X.K sp te):=by
  intro pins s σ H Q I h
  refine wpAny_Call_Name_kw (ld_blt I hgm hm (show bootBuiltins "min"=some (.builtin "min")from by first | exact PySem.boot_min | rfl) ?_)
  refine callWith_kw ?_ (by rw[hs];rfl) (by rw[hs];rfl)
  rw[hs]
  refine Calls.spliced_cons (thn (he pins s σ H _ I h) fun u s1 ⟨x,H1,I1,rx,l,xs,keys,ex,hl,hne,hlen,like,tr,irr,hsp,hQ⟩=>Calls.spliced_nil ?_)
  subst ex
  obtain rfl:u=Value.ref l:=rx
  refine wpAny_evalAll_cons (wpAny_bind (ld_glob I1 hgg hg (wpAny_bind (wpAny_standAt (wpAny_pure (wpAny_evalAll_nil ?_)))) hdb))
  exact min_key F hr hb hcalm I1 hl hne hlen like tr irr hsp hQ
end
end TyR
end
section
namespace TyR
open PySem PySem.Spec PyProof.Rows L2
open PySem.W (Looks InstAt findIn mroIn looks_findIn looks_mroIn)
section
variable {prog:Program} {w:World} {A:Around} {E:Value->Shared->Prop} {s:Shared} {K:PySem.W.Frag} {x y C:Addr} {ox oy:Obj} {od od':Option Obj}
theorem special_inst {M:Model} {name:Str} {id:String} {args:List Value} {Q:Option Value->Shared->Prop} (X:K.In s.heap) (I:InstAt s.heap x ox C od) (hs:findIn K (.ref C) name=some (some (.builtin id)))
    (hb:∀self,bindSpecial (.builtin id) self=pure (.builtin id,[self])) (h:wpAny M A (call (.builtin id) (.ref x::args)) (fun v=>Q (some v)) E s):wpAny M A (callSpecialIfBound? (.ref x) name args) Q E s:=by
  simp only[callSpecialIfBound?,bindSpecialIfBound?]
  refine wpAny_holding (wpAny_bind (wpAny_bind (wpAny_bind (I.type.here ((looks_findIn X hs).here ?_)))))
  simp only[hb]
  refine wpAny_bind (wpAny_askSetting (wpAny_ite ?_))
  have fin:wpAny M A (call (.builtin id) ([.ref x]++args) >>= fun v=>pure (some v)) Q E s:=
    wpAny_bind (wpAny_mono h (fun v s' h'=>wpAny_pure h') fun _ _ h'=>h')
  split
  · exact wpAny_bind (wpAny_pure (wpAny_pure fin))
  · exact wpAny_tryCatch (wpAny_bind (wpAny_pure (wpAny_pure fin)))
theorem try_other {Q:Option Value->Shared->Prop} (X:K.In s.heap) (I:InstAt s.heap x ox C od) (hy:s.heap.get? y=some oy) (hs:findIn K (.ref C) "__eq__"=some (some (.builtin "object.__eq__")))
    (hm:mroIn K C (.type "object")=some true) (hxy:x≠y) (h:Q none s):wpAny (model prog w) A (tryCompare (.ref x) "__eq__" (.ref y)) Q E s:=by
  simp only[tryCompare]
  refine wpAny_bind (special_inst X I hs PySem.F.slot_object_eq.bind ?_)
  refine wpAny_call (codeAny_call_builtin PySem.F.slot_object_eq.plain PySem.F.entry_object_eq (PySem.W.check_slot (i:="object.__eq__") (owner:="object") (n:="__eq__") (by decide +kernel) (by decide +kernel) (I.type.andThen (looks_mroIn X hm)) (PySem.F.args_object_eq_2 _ _) ?_))
  exact objEq_entry_other hxy I.at_ hy (by rw[I.cls];intro e;cases e) (wpAny_pure h)
theorem inst_eq_other {Q:Bool->Shared->Prop} (hu:A.units < cLine) (X:K.In s.heap) (I:InstAt s.heap x ox C od) (J:InstAt s.heap y oy C od') (hs:findIn K (.ref C) "__eq__"=some (some (.builtin "object.__eq__")))
    (hm:mroIn K C (.type "object")=some true) (hxy:x≠y) (h:Q false s):wpAny (model prog w) A (eqBool (.ref x) (.ref y)) Q E s:=by
  unfold eqBool
  try with_reducible refine wpAny_holding ?_
  show wpAny _ _ (if (Value.ref x == Value.ref y)=true then _ else _) Q E s
  have hne:¬(Value.ref x == Value.ref y)=true:=fun e=>hxy (by have:=eq_of_beq e;injection this)
  rw[if_neg hne]
  refine wpAny_bind (m:=richCompare .Eq (.ref x) (.ref y)) ?_
  simp only[richCompare,cmpInfo_Eq,oneThing_ref]
  refine wpAny_holding ?_
  refine wpAny_bind (wpAny_cRoomFor hu ?_)
  refine wpAny_bind (I.type.here ?_)
  refine wpAny_bind (J.type.here ?_)
  rw[if_neg (by simp)]
  refine wpAny_bind (wpAny_pure ?_)
  rw[if_neg Bool.false_ne_true]
  refine wpAny_bind (try_other X I J.at_ hs hm hxy ?_)
  show wpAny _ _ (if (!false)=true then _ else _) _ _ _
  rw[if_pos (by rfl)]
  refine wpAny_bind (try_other X J I.at_ hs hm (Ne.symm hxy) ?_)
  refine wpAny_bind (wpAny_rule ?_)
  refine wpAny_bind (wpAny_isSame_ref_other hxy I.at_ J.at_ (by rw[I.cls];intro e;cases e) (wpAny_pure ?_))
  unfold truthOfDropped
  first
    | exact wpAny_bind (wpAny_holding (wpAny_truthy_bool (wpAny_bind (wpAny_letGo (wpAny_pure h)))))
    | exact wpAny_truthy_bool h
    | (trace_state;done)
end
section
open PySem.AutoSeq1 (wpAny_loadPart')
open PySem.MeetsSeq PySem.MeetsSeq2 PySem.MeetsSeq3 PySem.SeqAt
theorem remove_loop_at (l:Addr) (items:Array Value) (n:Nat) (x:Value) (j:Nat) (hj:j < items.size) (hit:items[j]=x) (k:Nat) (hs1:items.size≤sizeLine) (prog:Program) (w:World):
    ∀i:Nat,j - i=k->i≤j->MeetsIn prog w (Builtin.«list.remove.loop» ⟨[.ref l,x,rawInt i],[]⟩)
      (fun A R s=>s.heap.get? l=some {cls:= .type "list",dict:=none,data:= .seq items n,slots:= #[]}/\(∀m (hm:m < items.size),m < j->∀(E:Value->Shared->Prop) (Q:Bool->Shared->Prop),Q false s->wpAny (model prog w) A.in1 (eqBool items[m] x) Q E s)/\
        R (.ok (.ret .none)) {s with heap:=s.heap.update l (Obj.mapSeq fun xs=>xs.eraseIdxIfInBounds j)}):=by
  induction k with
  | zero=>
    intro i hk hij A R s h
    obtain⟨hp,g,d,tk,os⟩:=s;obtain⟨hl,hno,h⟩:=h
    have hij':i=j:=by omega
    subst hij'
    wp_walk using wpAny_loadPart' hl
    have hi:items[((i:Nat):Int).toNat]? =some items[i]:=by simp[hj]
    rw[hi]
    subst hit
    refine wpAny_bind (SeqAt.EqAt.same items[i] prog w _ _ ?_)
    have hz':(items.eraseIdxIfInBounds i).size≤sizeLine+1:=Nat.le_trans (size_erased items _) (Nat.le_succ_of_le hs1)
    wp_walk using (wpAny_updateSeq hl rfl (hz:=hs1) (_hz':=hz')),wpAny_loadPart' hl
    simpa using h
  | succ k ih=>
    intro i hk hij A R s h
    obtain⟨hp,g,d,tk,os⟩:=s;obtain⟨hl,hno,h⟩:=h
    have hlt:i < items.size:=by omega
    wp_walk using wpAny_loadPart' hl
    have hi:items[((i:Nat):Int).toNat]? =some items[i]:=by simp[hlt]
    have hc:((i:Int)+1)=((i+1:Nat):Int):=by push_cast;rfl
    rw[hi]
    refine wpAny_bind (hno i hlt (by omega) _ _ ?_)
    wp_walk
    rw[hc]
    exact⟨plainId_quiet plain_remove_loop _,codeAny_builtin entry_remove_loop (by
      rw[Around.under_plainId plain_remove_loop _]
      exact ih (i+1) (by omega) (by omega) A R _ ⟨hl,hno,h⟩)⟩
theorem list_remove_at (l:Addr) (items:Array Value) (n:Nat) (x:Value) (j:Nat) (hj:j < items.size) (hit:items[j]=x) (hs1:items.size≤sizeLine) (prog:Program) (w:World):
    MeetsIn prog w (Builtin.«list.remove» ⟨[.ref l,x],[]⟩)
      (fun A R s=>s.heap.get? l=some {cls:= .type "list",dict:=none,data:= .seq items n,slots:= #[]}/\(∀m (hm:m < items.size),m < j->∀(E:Value->Shared->Prop) (Q:Bool->Shared->Prop),Q false s->wpAny (model prog w) A.in1 (eqBool items[m] x) Q E s)/\
        R (.ok (.ret .none)) {s with heap:=s.heap.update l (Obj.mapSeq fun xs=>xs.eraseIdxIfInBounds j)}):=by
  intro A R s h
  obtain⟨hp,g,d,tk,os⟩:=s;obtain⟨hl,hno,h⟩:=h
  wp_walk using wpAny_loadPart' hl
  exact⟨plainId_quiet plain_remove_loop _,codeAny_builtin entry_remove_loop (by
    rw[Around.under_plainId plain_remove_loop _]
    exact remove_loop_at l items n x j hj hit _ hs1 prog w 0 rfl (Nat.zero_le _) A R _ ⟨hl,hno,h⟩)⟩
end
end TyR
end
section
namespace TyR
open PySem PySem.Spec PyProof.Rows L2
structure NoEq (K:PySem.W.Frag) (C:Addr):Prop where
  eq:PySem.W.findIn K (.ref C) "__eq__"=some (some (.builtin "object.__eq__"))
  mro:PySem.W.mroIn K C (.type "object")=some true
theorem erase_ix:∀(as:List Addr) (a:Addr),a∈as->∃j,as[j]? =some a/\(∀m,m < j->as[m]? ≠some a)/\as.erase a=as.eraseIdx j
  | [],a,h=>by simp at h
  | b::as,a,h=>by
    by_cases e:b=a
    · subst e
      exact⟨0,rfl,fun m hm=>absurd hm (Nat.not_lt_zero _),by simp⟩
    · have h':a∈as:=by
        rcases List.mem_cons.mp h with q | q
        · exact absurd q.symm e
        · exact q
      obtain⟨j,h1,h2,h3⟩:=erase_ix as a h'
      refine⟨j+1,h1,fun m hm=> ?_,?_⟩
      · cases m with
        | zero=>intro q;exact e (Option.some.inj q)
        | succ m=>exact h2 m (by omega)
      · rw[List.erase_cons_tail (by simpa using e),h3]
        rfl
section
variable {X:Cx}
inductive rRemove (K:PySem.W.Frag) (C:Addr) (x:V) (vs:List V) (H:Hp) (Q:VK):Prop
  | mk (l:Addr) (as:List Addr) (a:Addr) (h_0:x= .ref l) (h_1:vs=[.ref a]) (h_2:H l=some (.lst (as.map V.ref))) (h_3:a∈as) (h_4:(∀b∈as,∃dx fs,H b=some (.ins C dx fs))) (h_5:Q .non (upd H l (.lst ((as.erase a).map V.ref)))):rRemove K C x vs H Q
theorem eraseIdx_map' {α β:Type} (f:α->β):∀(l:List α) (j:Nat),(l.map f).eraseIdx j=(l.eraseIdx j).map f
  | [],_=>rfl
  | _::_,0=>rfl
  | a::l,j+1=>congrArg (f a:: ·) (eraseIdx_map' f l j)
theorem refs_of:∀{as:List Addr} {us:List Value},Vals (as.map V.ref) us->us=as.map Value.ref
  | [],_,h=>by cases h;rfl
  | a::as,_,h=>by
    cases h with
    | cons r t=>
      cases r
      rw[refs_of t]
      rfl
theorem mt_remove {C:Addr} (hu:X.A.in1.units < cLine) (ne:NoEq X.K C):MtM X "list.remove" (rRemove X.K C):=by
  intro pins s σ H x vs v us Q I rx rv h
  obtain⟨l,as,a,rfl,rfl,hH,ha,hins,q⟩:=h
  cases rx
  obtain⟨u,rfl,ru⟩:=rv.one
  cases ru
  obtain⟨z,its,n,r,hl,e⟩:=I.lstM hH
  have ei:=refs_of r
  subst ei
  obtain⟨j,h1,h2,h3⟩:=erase_ix as a ha
  have hj:j < as.length:=(List.getElem?_eq_some_iff.mp h1).1
  have hzl:as.length≤sizeLine:=by simpa using z
  refine call_meetsIn F.slot_list_remove ⟨_,e,rfl⟩ F.entry_list_remove (F.args_list_remove_2 _ _)
    (list_remove_at l (as.map Value.ref).toArray n (.ref a) j (by simpa using hj) (by simp;exact(List.getElem?_eq_some_iff.mp h1).2) (by simpa using hzl) X.prog X.w) ⟨e,fun m hm hmj E Q' hq=> ?_,?_⟩
  · have hm':m < as.length:=by simpa using hm
    have e1:(as.map Value.ref).toArray[m]= .ref as[m]:=by simp
    rw[e1]
    obtain⟨dx,fs,hb⟩:=hins as[m] (List.getElem_mem hm')
    obtain⟨dx',fs',hb'⟩:=hins a ha
    obtain⟨mA,O,_⟩:=ins_get I.hok hb
    obtain⟨od,J,_⟩:=O.look
    obtain⟨mA',O',_⟩:=ins_get I.hok hb'
    obtain⟨od',J',_⟩:=O'.look
    refine inst_eq_other hu I.kIn J J' ne.eq ne.mro (fun q'=>h2 m hmj ?_) hq
    rw[←q']
    exact List.getElem?_eq_getElem hm'
  · refine⟨.non,_,I.lset (its':=(as.eraseIdx j).map Value.ref) (ys:=(as.erase a).map V.ref) hH e ?_ ?_ ?_,rfl,q⟩
    · show(as.map Value.ref).toArray.eraseIdxIfInBounds j=((as.eraseIdx j).map Value.ref).toArray
      rw[List.eraseIdxIfInBounds_toArray,eraseIdx_map']
    · rw[h3]
      have:∀bs:List Addr,Vals (bs.map V.ref) (bs.map Value.ref):=fun bs=>by
        induction bs with
        | nil=>exact .nil
        | cons b bs ih=>exact .cons rfl ih
      exact this _
    · rw[h3,List.length_map,List.length_eraseIdx_of_lt hj]
      omega
end
end TyR
end
section
namespace TyR
open PySem PySem.Spec PyProof.Rows L2
section
variable {prog:Program} {w:World} {A:Around} {E:Value->Shared->Prop} {s:Shared}
theorem pair_next {it d:Addr} {i n ep:Nat} {od:Obj} {es:Array DictEntry} {en:DictEntry} {ok ov:Value} {Q:Option Value->Shared->Prop} (hit:IsItemIter s.heap it d i n ep ok ov)
    (hod:s.heap.get? d=some od) (hdd:od.data= .dict es ep) (hsz:es.size=n) (hx:es[i]? =some en)
    (hQ:∀h',IsItemIterOut h' it d (i+1) n ep en.key en.val s.heap.objs.size->h'.get? s.heap.objs.size=some {cls:= .type "tuple",data:= .seq #[en.key,en.val]}->
      (∀b o,b≠it->s.heap.get? b=some o->h'.get? b=some o)->Q (some (.ref s.heap.objs.size)) {s with heap:=h'}):wpAny (model prog w) A (pyNext (.ref it)) Q E s:=by
  obtain⟨hp,g,dr,tk,os⟩:=s
  have ty:Shared.TypeIs ⟨hp,g,dr,tk,os⟩ (.ref it) "dict_itemiterator":=⟨_,hit,rfl⟩
  have own:Builtin.Dict_items.ownsTuple "dict_itemiterator"=true:=by decide
  obtain⟨hlt,hen⟩:=Array.getElem?_eq_some_iff.mp hx
  unfold pyNext
  refine wpAny_bind (wpAny_attempt (wpAny_callSpecial?_slot (name:=Str.ofString "__next__") ty F.slot_dict_itemiterator_next (wpAny_call_entry F.slot_dict_itemiterator_next ty F.entry_dict_itemiterator_next ?_ (F.args_dict_itemiterator_next_1 _))))
  refine wpAny_bind (wpAny_pure (wpAny_bind (wpAny_bind ?_)))
  first | refine wpAny_bind (wpAny_typeNameOfWhole_itemiter ty (wpAny_pure ?_)) | refine wpAny_bind (wpAny_typeNameOf_itemiter ty (wpAny_pure ?_))
  refine wpAny_bind (wpAny_fieldsOf hit rfl ?_)
  simp only[own,if_true]
  show wpAny _ _ (if (Value.ref d == Value.none)=true then _ else _) _ _ _
  rw[if_neg (show ¬((Value.ref d == Value.none)=true)from Bool.false_ne_true)]
  refine wpAny_bind (wpAny_pure (wpAny_bind (wpAny_dictEntries hod hdd ?_)))
  rw[if_neg (by rw[hsz];simp)]
  refine wpAny_bind (wpAny_pure (wpAny_bind (wpAny_dictEpoch hod hdd ?_)))
  rw[if_neg (by simp)]
  refine wpAny_pure ?_
  simp only[show ¬((i:Int) < 0)from by omega,if_false,Int.toNat_natCast,Array.getElem?_eq_getElem hlt]
  rw[hen]
  refine wpAny_bind ?_
  first | refine wpAny_bind (wpAny_typeNameOfWhole_itemiter ty (wpAny_pure ?_)) | refine wpAny_bind (wpAny_typeNameOf_itemiter ty (wpAny_pure ?_))
  refine wpAny_bind (wpAny_isOneOf_itemiter ty ?_)
  show wpAny _ _ (setField (.ref it) 3 (rawInt ((i:Int)+1)) >>= _) _ _ ⟨hp,g,dr,tk,os⟩
  refine wpAny_bind (wpAny_setField_rec hit (by simp) fun h1 e1 k1=> ?_)
  replace k1:Heap.SameBut it hp h1:=k1
  replace e1:IsItemIter h1 it d (i+1) n ep ok ov:=by
    have e:((i+1:Nat):Int)=(i:Int)+1:=by omega
    unfold IsItemIter;rw[e];simpa [rawInt] using e1
  have ty1:Shared.TypeIs ⟨h1,g,dr,tk,os⟩ (.ref it) "dict_itemiterator":=⟨_,e1,rfl⟩
  refine wpAny_bind (wpAny_holding (wpAny_bind (wpAny_isOneOf_itemiter ty1 (wpAny_bind (wpAny_isOneOf_itemiter ty1 ?_)))))
  show wpAny _ _ (Builtin.Dict_items.pairFromOwner (.ref it) 6 en.key en.val) _ _ ⟨h1,g,dr,tk,os⟩
  unfold Builtin.Dict_items.pairFromOwner
  refine wpAny_bind (wpAny_newTuple ?_)
  have e2:IsItemIter (h1.push {cls:= .type "tuple",data:= .seq #[en.key,en.val]}) it d (i+1) n ep ok ov:=Heap.get?_push_of_some _ e1
  generalize q2:h1.push {cls:= .type "tuple",data:= .seq #[en.key,en.val]}=h2 at e2
  have z1:h1.objs.size=hp.objs.size:=k1.1
  have lt:it < hp.objs.size:=Heap.lt_size hit
  have t2:h2.get? hp.objs.size=some {cls:= .type "tuple",data:= .seq #[en.key,en.val]}:=by rw[←q2,←z1];exact Heap.get?_push_size _ rfl
  have k2:∀b o,b≠it->hp.get? b=some o->h2.get? b=some o:=fun b o hb e=>by rw[←q2];exact Heap.get?_push_of_some _ (k1.extBut b o hb e)
  show wpAny _ _ (Builtin.Dict_items.ownedTupleIsFree (.ref it) >>= _) _ _ ⟨h2,g,dr,tk,os⟩
  rw[z1]
  clear q2 e1 k1 ty1 z1 h1
  refine wpAny_bind ?_
  unfold Builtin.Dict_items.ownedTupleIsFree
  refine wpAny_bind (wpAny_field e2 rfl (x:= .none) rfl (wpAny_pure ?_))
  simp only[if_true]
  refine wpAny_bind (wpAny_field e2 rfl (x:=ok) rfl (wpAny_bind (wpAny_field e2 rfl (x:=ov) rfl ?_)))
  refine wpAny_bind (wpAny_setField_rec e2 (by simp) fun h3 e3 k3=> ?_)
  replace k3:Heap.SameBut it h2 h3:=k3
  replace e3:IsItemIter h3 it d (i+1) n ep en.key ov:=e3
  refine wpAny_bind (wpAny_setField_rec e3 (by simp) fun h4 e4 k4=> ?_)
  replace k4:Heap.SameBut it h3 h4:=k4
  replace e4:IsItemIter h4 it d (i+1) n ep en.key en.val:=e4
  refine wpAny_bind (wpAny_setField_rec e4 (by simp) fun h5 e5 k5=> ?_)
  replace k5:Heap.SameBut it h4 h5:=k5
  replace e5:IsItemIterOut h5 it d (i+1) n ep en.key en.val hp.objs.size:=e5
  refine wpAny_bind (wpAny_setField_rec e5 (by simp) fun h6 e6 k6=> ?_)
  replace k6:Heap.SameBut it h5 h6:=k6
  replace e6:IsItemIterOut h6 it d (i+1) n ep en.key en.val hp.objs.size:=e6
  have kk:∀b o,b≠it->h2.get? b=some o->h6.get? b=some o:=fun b o hb e=>k6.extBut b o hb (k5.extBut b o hb (k4.extBut b o hb (k3.extBut b o hb e)))
  exact wpAny_bind (wpAny_letGo (wpAny_pure (wpAny_pure ⟨_,rfl,wpAny_pure (hQ h6 e6 (kk _ _ (Nat.ne_of_gt lt) t2) fun b o hb e=>kk b o hb (k2 b o hb e))⟩)))
theorem pair_end {it d:Addr} {i n ep:Nat} {od:Obj} {es:Array DictEntry} {ok ov:Value} {Q:Option Value->Shared->Prop} (hh:A.handled=none) (hit:IsItemIter s.heap it d i n ep ok ov)
    (hod:s.heap.get? d=some od) (hdd:od.data= .dict es ep) (hsz:es.size=n) (hge:n≤i) (hQ:∀h',Heap.ExtBut it s.heap h'->Q none {s with heap:=h'}):wpAny (model prog w) A (pyNext (.ref it)) Q E s:=by
  have ty:s.TypeIs (.ref it) "dict_itemiterator":=⟨_,hit,rfl⟩
  have own:Builtin.Dict_items.ownsTuple "dict_itemiterator"=true:=by decide
  unfold pyNext
  refine wpAny_bind (wpAny_attempt (wpAny_callSpecial?_slot (name:=Str.ofString "__next__") ty F.slot_dict_itemiterator_next (wpAny_call_entry F.slot_dict_itemiterator_next ty F.entry_dict_itemiterator_next ?_ (F.args_dict_itemiterator_next_1 _))))
  refine wpAny_bind (wpAny_pure (wpAny_bind (wpAny_bind ?_)))
  first | refine wpAny_bind (wpAny_typeNameOfWhole_itemiter ty (wpAny_pure ?_)) | refine wpAny_bind (wpAny_typeNameOf_itemiter ty (wpAny_pure ?_))
  refine wpAny_bind (wpAny_fieldsOf hit rfl ?_)
  simp only[own,if_true]
  show wpAny _ _ (if (Value.ref d == Value.none)=true then _ else _) _ _ s
  rw[if_neg (show ¬((Value.ref d == Value.none)=true)from Bool.false_ne_true)]
  refine wpAny_bind (wpAny_pure (wpAny_bind (wpAny_dictEntries hod hdd ?_)))
  rw[if_neg (by rw[hsz];simp)]
  refine wpAny_bind (wpAny_pure (wpAny_bind (wpAny_dictEpoch hod hdd ?_)))
  rw[if_neg (by simp)]
  refine wpAny_pure ?_
  have hge':es.size≤i:=by rw[hsz];exact hge
  simp only[show ¬((i:Int) < 0)from by omega,if_false,Int.toNat_natCast,Array.getElem?_eq_none hge']
  refine wpAny_bind ?_
  first | refine wpAny_bind (wpAny_typeNameOfWhole_itemiter ty (wpAny_pure ?_)) | refine wpAny_bind (wpAny_typeNameOf_itemiter ty (wpAny_pure ?_))
  show wpAny _ _ (setField (.ref it) 2 .none >>= _) _ _ s
  refine wpAny_bind (wpAny_setField hit rfl (by simp) ?_)
  show wpAny _ _ (newExc (.type "StopIteration") [] >>= _) _ _ _
  refine wpAny_bind ?_
  simp only[newExc,newTuple]
  refine wpAny_bind (wpAny_newObj_type ?_ (by size_fits))
  refine wpAny_bind (m:=firstArgMember _ _) (wpAny_of_eq (a:=Value.none) (by first | rfl | (simp only[firstArgMember];rfl)) ?_)
  refine wpAny_newObj_type ?_ (by size_fits)
  simp only[raiseNew]
  refine wpAny_bind (wpAny_handled ?_)
  rw[show A.in1.handled=none from hh]
  refine wpAny_bind (wpAny_pure (wpAny_throw ?_))
  refine wpAny_bind (wpAny_isInstance (T:="StopIteration") (b:=true) ⟨_,Heap.get?_push_size _ rfl,rfl⟩ isSubtype_stop ?_)
  exact wpAny_pure (hQ _ (((Heap.SameBut.update ..).extBut.push _).push _))
theorem items_view (d:Addr) (hd:(d == sysModules)=false):
    MeetsIn prog w (Builtin.«dict.items» ⟨[.ref d],[]⟩) (fun _ R s=>s.TypeIs (.ref d) "dict"/\R (.ok (.ret (.ref s.heap.objs.size))) {s with heap:=s.heap.push {cls:= .type "dict_items",data:= .fields #[.ref d]}}):=
  .of_wp fun A R s ⟨ty,h⟩=>by
    unfold Builtin.«dict.items»
    refine wpAny_bind ?_
    unfold Builtin.Dict.noArgs
    refine wpAny_bind (wpAny_notOrdered_dict ty ?_)
    show wpAny _ _ (pure d) _ _ s
    refine wpAny_pure ?_
    show wpAny _ _ (Builtin.Dict.showsAll d >>= _) _ _ s
    unfold Builtin.Dict.showsAll
    rw[if_neg (by rw[hd];exact Bool.false_ne_true)]
    exact wpAny_bind (wpAny_pure (wpAny_bind (wpAny_newObj_type (wpAny_pure ⟨_,rfl,h⟩))))
theorem items_iter {v d:Addr} {o:Obj} {es:Array DictEntry} {n ep:Nat} {Q:Value->Shared->Prop} (hv:s.heap.IsItemsView v d) (ho:s.heap.get? d=some o) (hdat:o.data= .dict es ep) (hsz:es.size=n)
    (hQ:Q (.ref s.heap.objs.size) {s with heap:=s.heap.push {cls:= .type "dict_itemiterator",data:= .fields #[.none,.bool false,.ref d,.int 0 0,.int n 0,.int ep 0,.none,.none]}}):
    wpAny (model prog w) A (pyIter (.ref v)) Q E s:=by
  obtain⟨ov,hov,hcv,hdv⟩:=id hv
  refine wpAny_pyIter_slot hv.typeIs F.slot_dict_items_iter (wpAny_call_entry F.slot_dict_items_iter hv.typeIs F.entry_dict_items_iter ?_ (F.args_dict_items_iter_1 _))
  unfold Builtin.«dict_items.__iter__»
  refine wpAny_bind (wpAny_pure (wpAny_bind ?_))
  unfold Builtin.Dict_items.dictOf
  refine wpAny_bind (wpAny_field hov hdv (x:= .ref d) rfl (wpAny_pure (wpAny_bind ?_)))
  unfold Builtin.Dict_items.newIterator
  refine wpAny_bind (wpAny_dictEntries ho hdat (wpAny_bind (wpAny_dictEpoch ho hdat ?_)))
  have own:Builtin.Dict_items.ownsTuple "dict_itemiterator"=true:=by decide
  simp only[own,if_true]
  refine wpAny_newObj_type (wpAny_pure ⟨_,rfl,"dict_itemiterator",_,⟨_,Heap.get?_push_size _ rfl,rfl⟩,F.slot_dict_itemiterator_next.lookup,?_⟩)
    (by simp only[sizeOk,Builtin.Dict_items.ownedTupleFields,List.size_toArray,List.length_append,List.length_cons,List.length_nil,sizeLine_eq];omega)
  simpa [rawInt,hsz,Builtin.Dict_items.ownedTupleFields] using hQ
end
end TyR
end
section
namespace TyR
open PySem PySem.Spec PyProof.Rows L2
section
variable {X:Cx} {pins:List (Addr×Obj)} {σ:L2.St} {H:Hp} {s:Shared} {d:Addr} {o:Obj}
theorem entries_t {P:Program} {w:World} {h:Heap} {kvs:List (List Key×V)} (x:ObjOk P w H h d (.dT kvs)):
    (d == sysModules)=false/\∃(o:Obj) (es:Array DictEntry) (ep:Nat),h.get? d=some o/\o.ExactDict/\o.data= .dict es ep/\es.size=kvs.length/\
      ∀(i:Nat) (k:List Key) (v:V),kvs[i]? =some (k,v)->∃(en:DictEntry) (q:Addr),es[i]? =some en/\en.key= .ref q/\H q=some (.tup (k.map kV))/\RelV v en.val:=by
  obtain⟨z,hs,xs,pr,o,es,ep,ho,hx,hdt,he,_⟩:=x
  refine⟨hs,o,es,ep,ho,hx,hdt,?_,fun i k v e=> ?_⟩
  · have l1:es.size=xs.length:=size_of_entries he
    have l2:kvs.length=xs.length:=Paired.length pr
    omega
  · obtain⟨b,hb,e1,e2,e3⟩:=paired_get pr e
    have q:=entry_at he i
    rw[hb]at q
    exact⟨_,b.2.1,q,rfl,e2,e3⟩
theorem frz_t {kvs:List (List Key×V)} (I:Inv X pins σ H s) (h:H d=some (.frz o (.dT kvs))):
    (d == sysModules)=false/\s.heap.get? d=some o/\o.ExactDict/\∃(es:Array DictEntry) (ep:Nat),o.data= .dict es ep/\es.size=kvs.length/\
      ∀(i:Nat) (k:List Key) (v:V),kvs[i]? =some (k,v)->∃(en:DictEntry) (q:Addr),es[i]? =some en/\en.key= .ref q/\H q=some (.tup (k.map kV))/\RelV v en.val:=by
  obtain⟨hd,x⟩:=(show ObjOk X.prog X.w H s.heap d (.frz o (.dT kvs))from I.hok d _ h)
  obtain⟨hs,o',es,ep,ho,hx,hdt,hsz,r⟩:=entries_t x
  rw[hd]at ho
  cases ho
  exact⟨hs,hd,hx,es,ep,hdt,hsz,r⟩
end
def ItT (d:Addr) (o:Obj) (kvs:List (List Key×V)):It:=
  ⟨fun i H=>H d=some (.frz o (.dT kvs))/\i < kvs.length,fun i H x H'=>∃T k v q,kvs[i]? =some (k,v)/\H q=some (.tup (k.map kV))/\x= .ref T/\H T=none/\H'=upd H T (.tup [.ref q,v]),fun i H=>H d=some (.frz o (.dT kvs))/\kvs.length≤i⟩
section
variable {P:Program} {w:World} {K:PySem.W.Frag} {d:Addr} {o:Obj} {es:Array DictEntry} {ep:Nat}
theorem turn_itemsT {kvs:List (List Key×V)} {elts:List Expr} {kk:Nat} {tpos:Pos} (it:Addr) (hod:o.data= .dict es ep):
    Turn P w K (.Tuple elts kk tpos) (ItT d o kvs) [it] it (fun i h=>∃ok ov,IsItemIter h it d i kvs.length ep ok ov) where
  mem:=by simp
  obj:=fun i h st b hb=>by
    have e:b=it:=by simpa using hb
    subst e
    obtain⟨ok,ov,e⟩:=st
    exact⟨_,e,fun v z=>nomatch z⟩
  keep:=fun i h h' st k=>let ⟨ok,ov,e⟩:=st;⟨ok,ov,k it (by simp) _ e⟩
  item:=by
    intro X hP hw hK hc i pins s σ H E I hf st hg
    subst hP hw hK
    obtain⟨hd,hi⟩:=hg
    obtain⟨hs,hgd,hx,es',ep',hdt,hsz,ent⟩:=frz_t I hd
    obtain⟨rfl,rfl⟩:=dict_ep hod hdt
    obtain⟨⟨k,v⟩,hkv⟩:∃p,kvs[i]? =some p:=⟨kvs[i],List.getElem?_eq_getElem hi⟩
    obtain⟨en,q,hen,hkey,hq,rv⟩:=ent i k v hkv
    obtain⟨ok,ov,he⟩:=st
    have hlt:it < s.heap.objs.size:=Heap.lt_size he
    refine pair_next he hgd hdt hsz hen fun h' ho hT hk=> ?_
    refine⟨_,rfl,wpAny_letOwnedTupleGo_items (s:={s with heap:=h'}) ho fun h'' he' sb=> ?_⟩
    have hT2:h''.get? s.heap.objs.size=some {cls:= .type "tuple",data:= .seq #[en.key,en.val]}:=(sb.2 _ (Nat.ne_of_gt hlt)).trans hT
    have new:ObjOk X.prog X.w (upd H s.heap.objs.size (.tup [.ref q,v])) h'' s.heap.objs.size (.tup [.ref q,v]):=
      ⟨by show 2≤sizeLine;decide,[en.key,en.val],.cons hkey (.cons rv .nil),⟨_,hT2,rfl,_,rfl⟩⟩
    have I1:Inv X pins σ (upd H s.heap.objs.size (.tup [.ref q,v])) {s with heap:=h''}:=
      I.turnedNew (t':=s.toks) (ch:=[it]) (fun b ob hb e=>(sb.2 b (by simpa using hb)).trans (hk b ob (by simpa using hb) e)) hf (Nat.le_refl _) new
    refine⟨.ref s.heap.objs.size,_,I1,rfl,⟨_,k,v,q,hkv,hq,rfl,I.hok.fresh (Nat.le_refl _),rfl⟩,⟨en.key,en.val,he'⟩,fun b hb=> ?_⟩
    have e:b=it:=by simpa using hb
    rw[e,upd_ne (Nat.ne_of_lt hlt)]
    exact(hf it (by simp)).1
  done:=by
    intro X hP hw hK hc i pins s σ H E I hf st hg
    subst hP hw hK
    obtain⟨hd,hi⟩:=hg
    obtain⟨f0,f1,f2,f3,f4,f5⟩:=hf it (by simp)
    obtain⟨hs,hgd,hx,es',ep',hdt,hsz,ent⟩:=frz_t I hd
    obtain⟨rfl,rfl⟩:=dict_ep hod hdt
    obtain⟨ok,ov,he⟩:=st
    exact pair_end (I.ok.hd hc) he hgd hdt hsz hi fun h' eb=>⟨rfl,I.turned (t':=s.toks) (fun b ob hb e=>eb b ob hb e) f0 f1 f3 f4 f5⟩
  self:=fun A i s Q E st h=>let ⟨_,_,e⟩:=st;PySem.W.kcp_self e h
end
def iItemsT (td:TE):TI:=fun σ H R=>td σ H fun x H1=>∃d o kvs,x= .ref d/\H1 d=some (.frz o (.dT kvs))/\R (ItT d o kvs) H1
theorem pi_itemsT {X:Cx} {e:Expr} {td:TE} {apos cpos:Pos} {elts:List Expr} {kk:Nat} {tpos:Pos} (he:PE X e td) (hbase:attributeBase e "items" X.env (eval e X.env)=eval e X.env:=by rfl) (hline:(apos.endLine == cpos.line)=true:=by rfl):
    PI X (.Tuple elts kk tpos) (.Call (.Attribute e "items" apos) [] [] cpos) (iItemsT td):=by
  intro pins s σ H R I h
  refine wpAny_Call_method (T:="dict") (id:="dict.items") hbase rfl hline F.plainAttrs_dict F.slot_dict_items F.type_dict_items (thn (he pins s σ H _ I h) fun u s1 ⟨x,H1,I1,rx,d,o,kvs,ex,hd,q⟩=> ?_)
  subst ex
  obtain rfl:u=Value.ref d:=rx
  obtain⟨hs,hgd,hx,es,ep,hdt,hsz,ent⟩:=frz_t I1 hd
  have ty:s1.TypeIs (.ref d) "dict":=⟨o,hgd,hx.1⟩
  refine⟨ty,fun b q=> ?_,?_⟩
  · cases q
    exact⟨o,hgd,hx.2.1⟩
  have I2:Inv X pins σ H1 {s1 with heap:=s1.heap.push {cls:= .type "dict_items",data:= .fields #[.ref d]}}:=I1.kept (t':=s1.toks) fun b ob q=>Heap.get?_push_of_some _ q
  have fin:wpAny (model X.prog X.w) X.A (pyIter (.ref s1.heap.objs.size)) (PIE X pins σ (.Tuple elts kk tpos) R) X.xe {s1 with heap:=s1.heap.push {cls:= .type "dict_items",data:= .fields #[.ref d]}}:=
    items_iter (d:=d) ⟨_,Heap.get?_push_size _ rfl,rfl,rfl⟩ (Heap.get?_push_of_some _ hgd) hdt hsz (pi_one (tk:=s1.toks) I2 _ (turn_itemsT _ hdt) ⟨.none,.none,Heap.get?_push_size _ rfl⟩ q)
  show wpAny _ _ (callWith cpos (.builtin "dict.items") [.ref d] [] []) _ X.xe s1
  exact method_meetsIn F.slot_dict_items F.entry_dict_items rfl (PySem.evalArgs_none ⟨rfl,ty,F.args_dict_items_1 _,_,items_view d hs,ty,fin⟩)
theorem for_itemsT {d:Addr} {o:Obj} {kvs:List (List Key×V)} {g:TG} {tb:TS} {D:Ends} {σ:L2.St} {H:Hp} (Pv:Nat->L2.St->Hp->Prop) (h0:Pv 0 σ H) (hl:∀i σ H,i≤kvs.length->Pv i σ H->H d=some (.frz o (.dT kvs)))
    (hs:∀i k v q T σ H,kvs[i]? =some (k,v)->Pv i σ H->H q=some (.tup (k.map kV))->H T=none->g (.ref T) σ (upd H T (.tup [.ref q,v])) fun σ2 H2=>tb {D with nx:=Pv (i+1),ct:=Pv (i+1),bk:=D.nx} σ2 H2) (hd:∀σ H,Pv kvs.length σ H->D.nx σ H):
    ∃W:Nat->Nat->L2.St->Hp->Prop,(∃m,W 0 m σ H)/\∀i m σ H,W i m σ H->
      ((ItT d o kvs).stop i H/\D.nx σ H)∨((ItT d o kvs).go i H/\∃N:L2.St->Hp->Prop,(∀σ' H',N σ' H'->∃m',m' < m/\W (i+1) m' σ' H')/\∀x H',(ItT d o kvs).yld i H x H'->g x σ H' fun σ2 H2=>tb {D with nx:=N,ct:=N,bk:=D.nx} σ2 H2):=by
  refine⟨fun i m σ H=>m=kvs.length - i/\i≤kvs.length/\Pv i σ H,⟨kvs.length,by simp,Nat.zero_le _,h0⟩,?_⟩
  rintro i m σ H ⟨rfl,hi,p⟩
  have q:=hl i σ H hi p
  by_cases hlt:i < kvs.length
  · refine .inr ⟨⟨q,hlt⟩,Pv (i+1),fun σ' H' p'=>⟨kvs.length - (i+1),by omega,rfl,hlt,p'⟩,fun x H' y=> ?_⟩
    obtain⟨T,k,v,b,hkv,hb,rfl,hT,rfl⟩:=y
    exact hs i k v b T σ H hkv p hb hT
  · have e:i=kvs.length:=by omega
    subst e
    exact .inl ⟨⟨q,Nat.le_refl _⟩,hd σ H p⟩
end TyR
end
section
namespace TyR
open PySem PySem.Spec PyProof.Rows L2
section
variable {prog:Program} {w:World} {K:Type} [DecidableEq K] {knd:HeapKind prog w K} {A:Around} {E:Value->Shared->Prop} {s:Shared}
theorem dropAt_list {α β:Type} [DecidableEq α]:∀{xs:List (α×β)} {j:Nat} {k:α} {p:β},(xs.map (·.1)).Nodup->xs[j]? =some (k,p)->xs.eraseIdx j=xs.filter fun x=>decide (x.1≠k)
  | [],j,_,_,_,h=>by simp at h
  | x::xs,0,k,p,hn,h=>by
    have e:x=(k,p):=Option.some.inj h
    subst e
    rw[List.map_cons,List.nodup_cons]at hn
    show xs=_
    rw[List.filter_cons,if_neg (by simp)]
    refine(List.filter_eq_self.mpr fun y hy=> ?_).symm
    rw[decide_eq_true_eq]
    exact fun e=>hn.1 (e ▸ List.mem_map.mpr ⟨y,hy,rfl⟩)
  | x::xs,j+1,k,p,hn,h=>by
    rw[List.map_cons,List.nodup_cons]at hn
    have h':xs[j]? =some (k,p):=h
    have hne:x.1≠k:=fun e=>hn.1 (e ▸ List.mem_map.mpr ⟨(k,p),List.mem_of_getElem? h',rfl⟩)
    show x::xs.eraseIdx j=_
    rw[List.filter_cons,if_pos (by simpa using hne),dropAt_list hn.2 h']
theorem takeOut_heap {d a:Addr} {xs:List (K×Addr×Value)} {k:K} {p:Addr×Value} {Q:Option DictEntry->Shared->Prop} (hu:knd.room A) (hkey:knd.is s.heap k a) (hm:s.heap.DictOfH knd d xs) (hz:xs.length≤sizeLine) (hp:atKey xs k=some p)
    (hQ:∀h' e,e.val=p.2->h'.DictOfH knd d (xs.filter fun x=>decide (x.1≠k))->Heap.SameBut d s.heap h'->Q (some e) {s with heap:=h',toks:=s.toks+knd.draws k}):
    wpAny (model prog w) A (Builtin.Dict.takeOut d (.ref a)) Q E s:=by
  obtain⟨o,es,ep,ho,hc,hd,he,his,hn⟩:=hm
  unfold Builtin.Dict.takeOut
  try with_reducible refine wpAny_holding ?_
  refine wpAny_bind (knd.pyHash hu hkey ?_)
  refine wpAny_bind (wpAny_dictFind_heap (s:={s with toks:=s.toks+knd.draws k}) hu hkey ho hd he his hn ?_ ?_)
  · intro hno
    rw[atKey_none_of_get hno]at hp
    cases hp
  · intro j q hj
    rw[atKey_of_get hn hj]at hp
    cases hp
    refine wpAny_bind (wpAny_dictEntries (s:={s with toks:=s.toks+knd.draws k}) ho hd ?_)
    rw[entry_at he j,hj]
    refine wpAny_bind (wpAny_updateDictKeys (hz:=by have e:=size_of_entries he;omega) (s:={s with toks:=s.toks+knd.draws k}) ho hd (wpAny_pure (hQ _ _ rfl ⟨_,_,ep+1,Heap.get?_update_self _ ho (Obj.isFreed_of_dict (Obj.data_mapDictKeys hd _)),
      hc.mapDictKeys _,Obj.data_mapDictKeys hd _,?_,fun x hx=>knd.keeps (his x (List.mem_filter.mp hx).1) ho hd (Heap.SameBut.update ..),?_⟩ (Heap.SameBut.update ..))))
    · rw[←dropAt_list hn hj]
      obtain⟨l⟩:=es
      have he':l=xs.map (entryOfKey knd):=he
      rw[he',List.eraseIdxIfInBounds_toArray]
      show((xs.map (entryOfKey knd)).eraseIdx j)=_
      exact eraseIdx_map' _ _ _
    · exact hn.sublist ((List.filter_sublist).map _)
theorem pop_meets {d a:Addr} (hd:(d == sysModules)=false):
    MeetsIn prog w (Builtin.«dict.pop» ⟨[.ref d,.ref a],[]⟩) (fun A R s=>knd.room A.in1/\∃xs k p,knd.is s.heap k a/\s.heap.DictOfH knd d xs/\xs.length≤sizeLine/\atKey xs k=some p/\
      ∀h',h'.DictOfH knd d (xs.filter fun x=>decide (x.1≠k))->Heap.SameBut d s.heap h'->R (.ok (.ret p.2)) {s with heap:=h',toks:=s.toks+knd.draws k}):=
  .of_wp fun A R s ⟨hu,xs,k,p,hk,hm,hz,hp,h⟩=>by
    have ty:s.TypeIs (.ref d) "dict":=hm.typeIs
    obtain⟨o,es,ep,ho,hc,hdd,he,his,hn⟩:=id hm
    unfold Builtin.«dict.pop»
    refine wpAny_bind ?_
    unfold Builtin.Dict.keyAndDefault
    refine wpAny_bind (wpAny_notOrdered_dict ty ?_)
    show wpAny _ _ (pure (d,Value.ref a,none)) _ _ s
    refine wpAny_pure ?_
    show wpAny _ _ (dictEntries d >>= _) _ _ s
    refine wpAny_bind (wpAny_dictEntries ho hdd (wpAny_bind (wpAny_pure ?_)))
    have hne:es.isEmpty=false:=by
      cases q:es.isEmpty with
      | false=>rfl
      | true=>
        have e0:es.size=0:=by simpa [Array.isEmpty] using q
        have e1:es.size=xs.length:=size_of_entries he
        have e2:xs=[]:=List.length_eq_zero_iff.mp (by omega)
        rw[e2]at hp
        cases hp
    rw[hne]
    show wpAny _ _ (Builtin.Dict.takeOut d (Value.ref a) >>= _) _ _ s
    refine wpAny_bind (takeOut_heap hu hk hm hz hp fun h' e ev hm' hs'=> ?_)
    simp only[Option.isNone_some,Bool.false_eq_true,if_false]
    exact wpAny_bind (wpAny_letGo (wpAny_pure ⟨e.val,rfl,by rw[ev];exact h h' hm' hs'⟩))
theorem setDefault_heap {d a:Addr} {xs:List (K×Addr×Value)} {k:K} {v:Value} {Q:Value->Shared->Prop} (hu:knd.room A) (hkey:knd.is s.heap k a) (hm:s.heap.DictOfH knd d xs) (hz:xs.length≤sizeLine)
    (h1:∀p,atKey xs k=some p->Q p.2 {s with toks:=s.toks+knd.draws k})
    (h2:atKey xs k=none->∀h',h'.DictOfH knd d (xs++[(k,a,v)])->Heap.SameBut d s.heap h'->Q v {s with heap:=h',toks:=s.toks+knd.draws k}):
    wpAny (model prog w) A (dictSetDefault d (.ref a) v) Q E s:=by
  obtain⟨o,es,ep,ho,hc,hd,he,his,hn⟩:=hm
  unfold dictSetDefault
  try with_reducible refine wpAny_holding ?_
  refine wpAny_bind (knd.pyHash hu hkey ?_)
  refine wpAny_bind (wpAny_dictFind_heap (s:={s with toks:=s.toks+knd.draws k}) hu hkey ho hd he his hn ?_ ?_)
  · intro hno
    have hnot:k ∉ xs.map (·.1):=not_mem_keys_of_get hno
    refine wpAny_bind (wpAny_rule (wpAny_bind (wpAny_updateDictKeys (hz:=by have e:=size_of_entries he;omega) (s:={s with toks:=s.toks+knd.draws k}) ho hd (wpAny_pure (h2 (atKey_none_of_get hno) _ ⟨_,_,ep+1,Heap.get?_update_self _ ho (Obj.isFreed_of_dict (Obj.data_mapDictKeys hd _)),
      hc.mapDictKeys _,Obj.data_mapDictKeys hd _,?_,?_,?_⟩ (Heap.SameBut.update ..))))))
    · simp[he,entryOfKey]
    · intro x hx
      rcases List.mem_append.mp hx with hx | hx
      · exact knd.keeps (his x hx) ho hd (Heap.SameBut.update ..)
      · simp only[List.mem_singleton]at hx
        subst hx
        exact knd.keeps hkey ho hd (Heap.SameBut.update ..)
    · rw[List.map_append,List.nodup_append]
      refine⟨hn,by simp,fun x hx y hy e=> ?_⟩
      simp only[List.map_cons,List.map_nil,List.mem_singleton]at hy
      subst hy e
      exact hnot hx
  · intro j p hj
    refine wpAny_bind (wpAny_dictEntries (s:={s with toks:=s.toks+knd.draws k}) ho hd ?_)
    rw[entry_at he j,hj]
    exact wpAny_bind (wpAny_rule (wpAny_pure (h1 p (atKey_of_get hn hj))))
theorem setdefault_meets {d a:Addr} (hd:(d == sysModules)=false) (v:Value):
    MeetsIn prog w (Builtin.«dict.setdefault» ⟨[.ref d,.ref a,v],[]⟩) (fun A R s=>knd.room A.in1/\∃xs k,knd.is s.heap k a/\s.heap.DictOfH knd d xs/\xs.length≤sizeLine/\
      (∀p,atKey xs k=some p->R (.ok (.ret p.2)) {s with toks:=s.toks+knd.draws k})/\
      (atKey xs k=none->∀h',h'.DictOfH knd d (xs++[(k,a,v)])->Heap.SameBut d s.heap h'->R (.ok (.ret v)) {s with heap:=h',toks:=s.toks+knd.draws k})):=
  .of_wp fun A R s ⟨hu,xs,k,hk,hm,hz,h1,h2⟩=>by
    have ty:s.TypeIs (.ref d) "dict":=hm.typeIs
    unfold Builtin.«dict.setdefault»
    refine wpAny_bind ?_
    unfold Builtin.Dict.keyAndDefault
    refine wpAny_bind (wpAny_notOrdered_dict ty ?_)
    show wpAny _ _ (pure (d,Value.ref a,some v)) _ _ s
    refine wpAny_pure ?_
    show wpAny _ _ (if (d == sysModules)=true then _ else(dictSetDefault d (.ref a) v >>= _)) _ _ s
    rw[if_neg (by rw[hd];exact Bool.false_ne_true)]
    exact wpAny_bind (setDefault_heap hu hk hm hz (fun p hp=>wpAny_pure ⟨p.2,rfl,h1 p hp⟩) fun hn h' hm' hs'=>wpAny_pure ⟨v,rfl,h2 hn h' hm' hs'⟩)
theorem len_meets {d:Addr} (hd:(d == sysModules)=false):
    MeetsIn prog w (Builtin.«dict.__len__» ⟨[.ref d],[]⟩) (fun _ R s=>∃o es ep,s.heap.get? d=some o/\o.data= .dict es ep/\R (.ok (.ret (.int es.size s.toks))) {s with toks:=s.toks+1}):=
  .of_wp fun A R s ⟨o,es,ep,ho,hdat,h⟩=>by
    show wpAny _ _ (dictSize d >>= _) _ _ s
    unfold dictSize
    refine wpAny_bind (wpAny_bind (wpAny_dictEntries ho hdat (wpAny_pure ?_)))
    show wpAny _ _ (Builtin.Dict.pendingCount d >>= _) _ _ s
    refine wpAny_bind (wpAny_pendingCount_other hd ?_)
    refine wpAny_ret_mkInt ?_
    rw[Nat.add_zero];exact h
theorem len_dict_raw {d:Addr} {o:Obj} {es:Array DictEntry} {ep:Nat} {Q:Value->Shared->Prop} (hd:(d == sysModules)=false) (ty:s.TypeIs (.ref d) "dict") (ho:s.heap.get? d=some o) (hdat:o.data= .dict es ep) (hfit:(es.size:Int) < 2 ^ 63)
    (h:Q (.int es.size (s.toks+1)) {s with toks:=s.toks+1+1}):wpAny (model prog w) A (call (.builtin "len") [.ref d]) Q E s:=by
  refine Calls.call_function_entry kind_len plain_len entry_len (args_len1 _) ?_
  unfold Builtin.«len»
  refine wpAny_bind (m:=oneArg "len" _) (wpAny_pure ?_)
  refine wpAny_bind (m:=callSpecial? (.ref d) (Str.ofString "__len__")) (wpAny_callSpecial?_slot (name:=Str.ofString "__len__") ty F.slot_dict_len
    (call_meetsIn F.slot_dict_len ty F.entry_dict_len (F.args_dict_len_1 _) (len_meets hd) ⟨o,es,ep,ho,hdat,?_⟩))
  show wpAny _ _ _ _ _ {s with toks:=s.toks+1}
  refine wpAny_bind (wpAny_holding (wpAny_pure (wpAny_bind (wpAny_letGo ?_))))
  show wpAny _ _ (if ((es.size:Nat):Int) < 0 then _ else _) _ _ _
  rw[if_neg (by omega)]
  show wpAny _ _ (if ((es.size:Nat):Int) ≥ 2 ^ 63 then _ else _) _ _ _
  rw[if_neg (by omega)]
  exact wpAny_bind (wpAny_mkInt (wpAny_pure ⟨_,rfl,h⟩))
end
section
variable {X:Cx} {o e f:Expr} {apos cpos:Pos} {td ty tx:TE}
theorem call_lenT:CallR X (.builtin "len") (fun xs H Q=>∃a kvs,xs=[V.ref a]/\Rd H a (.dT kvs)/\Q (.int kvs.length) H):=by
  intro pins s σ H xs us Q I r h
  obtain⟨a,kvs,rfl,hd,q⟩:=h
  obtain⟨u,rfl,ru⟩:=vals1 r
  cases ru
  obtain⟨z,_⟩:=dt_rd I.hok hd
  obtain⟨hs,ob,es,ep,ho,hx,hdt,hsz,_⟩:=entries_t (rd_of I.hok hd)
  refine len_dict_raw hs ⟨ob,ho,hx.1⟩ ho hdt (by rw[hsz];rw[sizeLine_eq]at z;omega) ⟨.int kvs.length,H,I.tok _,⟨_,by rw[hsz]⟩,q⟩
theorem KT.drop {H:Hp} {kvs:List (List Key×V)} {xs:List (List Key×Addr×Value)} (k:List Key) (r:KT H kvs xs):KT H (dropK kvs k) (xs.filter fun x=>decide (x.1≠k)):=by
  unfold KT at *
  induction r with
  | nil=>exact .nil
  | @cons p q ps qs h t ih=>
    unfold dropK
    rw[List.filter_cons,List.filter_cons]
    by_cases e:p.1=k
    · rw[if_neg (by simpa using e),if_neg (by simpa using (h.1 ▸ e))]
      exact ih
    · rw[if_pos (by simpa using e),if_pos (by simpa using fun z=>e (h.1.trans z))]
      exact .cons h ih
def tDPopT (td ty:TE):TE:=fun σ H Q=>td σ H fun x H1=>∃a,x= .ref a/\IsD H1 a/\ty σ H1 fun y H2=>∃kvs k b v,H2 a=some (.dT kvs)/\y= .ref b/\H2 b=some (.tup (k.map kV))/\valV kvs k=some v/\Q v (upd H2 a (.dT (dropK kvs k)))
theorem pe_dpopT (hu:X.A.units+1 < cLine) (ho:PE X o td) (he:PE X e ty) (m:M1 X o "pop" apos e cpos):PE X (.Call (.Attribute o "pop" apos) [e] [] cpos) (tDPopT td ty):=by
  intro pins s σ H Q I h
  refine wpAny_Call_method m.base m.few m.line PySem.F.plainAttrs_dict PySem.F.slot_dict_pop PySem.F.type_dict_pop (thn (ho pins s σ H _ I h) fun u s1 ⟨x,H1,I1,rx,a,ex,d,q1⟩=> ?_)
  subst ex
  obtain rfl:u=Value.ref a:=rx
  obtain⟨t1,t2,_⟩:=isD_at I1 d
  refine⟨t1,t2,?_⟩
  rw[m.trees]
  refine Calls.callWith_builtin rfl (Calls.evalArgs_plain (Calls.spliced_cons (thn (he pins s1 σ H1 _ I1 q1) fun iv s2 ⟨y,H2,I2,ry,kvs,k,b,v,ea,ey,eb,l,q2⟩=>Calls.spliced_nil ?_)))
  subst ey
  cases (show iv=Value.ref b from ry)
  obtain⟨z,hd,xs,rel,dd⟩:=dt_of I2.hok ea
  obtain⟨w',hw,rw'⟩:=RelO.some_of (v:=v) (o:=(atKey xs k).map (·.2)) (by rw[←l];exact rel.val k)
  obtain⟨p,hp,rfl⟩:=Option.map_eq_some_iff.mp hw
  refine call_meetsIn PySem.F.slot_dict_pop dd.typeIs PySem.F.entry_dict_pop (PySem.F.args_dict_pop_2 _ _) (pop_meets (knd:=tupleKind (mixKind X.prog X.w)) hd)
    ⟨tupleKind_room_in1 hu,xs,k,p,key_of I2.hok eb,dd,by rw[←Paired.length rel];exact z,hp,fun h' dd' hs=> ?_⟩
  obtain⟨q,es,ep,hq,h2,h3,h4,_,h5⟩:=dd'
  refine⟨v,_,d_write (ob:= .dT (dropK kvs k)) I2 (by rw[ea];exact True.intro) hs ⟨q,hq⟩ ⟨Nat.le_trans (dropK_le kvs k) z,hd,_,(KT.drop k rel).keeps fun c ys ec=> ?_,q,es,ep,hq,h2,h3,h4,h5⟩,rw',q2⟩
  rw[upd_ne (ne_of ec ea (fun z=>nomatch z))]
  exact ec
def tDSetT (td ty tx:TE):TE:=fun σ H Q=>td σ H fun x H1=>∃a,x= .ref a/\IsD H1 a/\ty σ H1 fun y H2=>tx σ H2 fun z H3=>∃kvs k b,H3 a=some (.dT kvs)/\y= .ref b/\H3 b=some (.tup (k.map kV))/\kvs.length < sizeLine/\
  (∀v,valV kvs k=some v->Q v H3)/\(valV kvs k=none->Q z (upd H3 a (.dT (kvs++[(k,z)]))))
theorem pe_dsetT (hu:X.A.units+1 < cLine) (ho:PE X o td) (he:PE X e ty) (hf:PE X f tx) (m:M2 X o "setdefault" apos e f cpos):PE X (.Call (.Attribute o "setdefault" apos) [e,f] [] cpos) (tDSetT td ty tx):=by
  intro pins s σ H Q I h
  refine wpAny_Call_method m.base m.few m.line PySem.F.plainAttrs_dict PySem.F.slot_dict_setdefault PySem.F.type_dict_setdefault (thn (ho pins s σ H _ I h) fun u s1 ⟨x,H1,I1,rx,a,ex,d,q1⟩=> ?_)
  subst ex
  obtain rfl:u=Value.ref a:=rx
  obtain⟨t1,t2,_⟩:=isD_at I1 d
  refine⟨t1,t2,?_⟩
  rw[m.trees]
  refine Calls.callWith_builtin rfl (Calls.evalArgs_plain (Calls.spliced_cons (thn (he pins s1 σ H1 _ I1 q1) fun iv s2 ⟨y,H2,I2,ry,q2⟩=>
    Calls.spliced_cons (thn (hf pins s2 σ H2 _ I2 q2) fun fv s3 ⟨z,H3,I3,rz,kvs,k,b,ea,ey,eb,hl,q3,q4⟩=>Calls.spliced_nil ?_))))
  subst ey
  cases (show iv=Value.ref b from ry)
  obtain⟨zz,hd,xs,rel,dd⟩:=dt_of I3.hok ea
  refine call_meetsIn PySem.F.slot_dict_setdefault dd.typeIs PySem.F.entry_dict_setdefault (PySem.F.args_dict_setdefault_3 _ _ _) (setdefault_meets (knd:=tupleKind (mixKind X.prog X.w)) hd fv)
    ⟨tupleKind_room_in1 hu,xs,k,key_of I3.hok eb,dd,by rw[←Paired.length rel];exact zz,fun p hp=> ?_,fun hn h' dd' hs=> ?_⟩
  · have r1:RelO (valV kvs k) ((atKey xs k).map (·.2)):=rel.val k
    rw[hp]at r1
    cases l:valV kvs k with
    | none=>rw[l]at r1;exact(show False from r1).elim
    | some v=>
      rw[l]at r1
      exact⟨v,H3,I3.tok _,r1,q3 v l⟩
  · have r1:RelO (valV kvs k) ((atKey xs k).map (·.2)):=rel.val k
    rw[hn]at r1
    have l:valV kvs k=none:=by
      cases l:valV kvs k with
      | none=>rfl
      | some v=>rw[l]at r1;exact(show False from r1).elim
    obtain⟨q,es,ep,hq,h2,h3,h4,_,h5⟩:=dd'
    refine⟨z,_,d_write (ob:= .dT (kvs++[(k,z)])) I3 (by rw[ea];exact True.intro) hs ⟨q,hq⟩ ⟨by rw[List.length_append];exact hl,hd,_,KT.keeps (H:=H3) (Paired.snoc rel ⟨rfl,eb,rz⟩) fun c ys ec=> ?_,q,es,ep,hq,h2,h3,h4,h5⟩,rz,q4 l⟩
    rw[upd_ne (ne_of ec ea (fun z=>nomatch z))]
    exact ec
end
end TyR
end
section
namespace TyR
open PySem PySem.Spec PyProof.Rows L2
open PySem.W (KdlSrc kdl_call kdl_hint_dict)
section
variable {prog:Program} {w:World} {A:Around} {E:Value->Shared->Prop} {s:Shared}
theorem walks_keys {I d:Addr} {o:Obj} {es:Array DictEntry} {ep:Nat} (hh:A.handled=none) (hne:d≠I) (hdd:o.data= .dict es ep):
    Walks prog w A I [I,d] [I] es.size (fun i v=>∃en,es[i]? =some en/\v=en.key) (fun i h=>h.IsKeyIter I d i es.size ep/\h.get? d=some o) where
  sub:=fun b hb=>by simp at hb;simp[hb]
  frame:=fun _ _ _ st hk=>⟨st.1.at fun o e=>hk I (by simp) o e,hk d (by simp) _ st.2⟩
  item:=fun i s Q E hi st hQ=>by
    refine next_key_item st.1 st.2 hdd rfl (Array.getElem?_eq_getElem hi) fun h' st' sb=> ?_
    exact hQ _ h' s.toks ⟨_,Array.getElem?_eq_getElem hi,rfl⟩ ⟨st',(sb.2 d hne).trans st.2⟩ fun b ob hb e=>(sb.2 b (by simpa using hb)).trans e
  done:=fun s Q E st hQ=>next_key_end hh st.1 st.2 hdd rfl (Nat.le_refl _) fun h' eb=>hQ h' s.toks fun b ob hb e=>eb b ob (by simpa using hb) e
  self:=fun i s Q E st h=>by
    refine wpAny_pyIter_slot st.1.typeIs F.slot_dict_keyiterator_iter (wpAny_call_entry F.slot_dict_keyiterator_iter st.1.typeIs F.entry_dict_keyiterator_iter ?_ (F.args_dict_keyiterator_iter_1 _))
    show wpAny _ _ (ret (.ref I)) _ _ s
    exact wpAny_pure ⟨_,rfl,"dict_keyiterator",_,st.1.typeIs,F.slot_dict_keyiterator_next.lookup,h⟩
theorem src_keys {d:Addr} {o:Obj} {es:Array DictEntry} {ep:Nat} (lo:(d == sysModules)=false) (hc:o.ExactDict) (hdd:o.data= .dict es ep):
    KdlSrc prog w "dict" d d es.size (fun i v=>∃en,es[i]? =some en/\v=en.key) (fun h=>h.get? d=some o) where
  type:=fun _ hm=>⟨o,hm,hc.1⟩
  there:=fun _ hm=>⟨Heap.lt_size hm,Heap.lt_size hm⟩
  keep:=fun _ _ hm hk=>hk d (.inl rfl) _ hm
  notList:=by decide
  notTuple:=by decide
  hint:=fun _ _ _ _ hm hq=>kdl_hint_dict ⟨o,hm,hc.1⟩ hq
  iter:=fun _ _ hh hm=>⟨_,_,(fun _ _ hq=>iter_keys lo hm hc hdd hq),walks_keys hh (Nat.ne_of_lt (Heap.lt_size hm)) hdd,⟨⟨_,Heap.get?_push_size _ rfl,rfl,rfl⟩,Heap.get?_push_of_some _ hm⟩⟩
theorem val_next {it d:Addr} {i n ep:Nat} {od:Obj} {es:Array DictEntry} {en:DictEntry} {Q:Option Value->Shared->Prop} (hit:s.heap.IsValIter it d i n ep) (hod:s.heap.get? d=some od) (hdd:od.data= .dict es ep)
    (hsz:es.size=n) (hx:es[i]? =some en) (hQ:∀h',h'.IsValIter it d (i+1) n ep->Heap.SameBut it s.heap h'->Q (some en.val) {s with heap:=h'}):wpAny (model prog w) A (pyNext (.ref it)) Q E s:=by
  obtain⟨o,ho,hc,hd⟩:=id hit
  have own:Builtin.Dict_items.ownsTuple "dict_valueiterator"=false:=by decide
  unfold pyNext
  refine wpAny_bind (wpAny_attempt (wpAny_callSpecial?_slot (name:=Str.ofString "__next__") hit.typeIs F.slot_dict_valueiterator_next (wpAny_call_entry F.slot_dict_valueiterator_next hit.typeIs F.entry_dict_valueiterator_next ?_ (F.args_dict_valueiterator_next_1 _))))
  refine wpAny_bind (wpAny_pure (wpAny_bind (wpAny_bind ?_)))
  first | refine wpAny_bind (wpAny_typeNameOfWhole_valiter hit.typeIs (wpAny_pure ?_)) | refine wpAny_bind (wpAny_typeNameOf_valiter hit.typeIs (wpAny_pure ?_))
  refine wpAny_bind (wpAny_fieldsOf ho hd ?_)
  simp only[own,Bool.false_eq_true,if_false]
  show wpAny _ _ (if (Value.ref d == Value.none)=true then _ else _) _ _ s
  rw[if_neg (show ¬((Value.ref d == Value.none)=true)from Bool.false_ne_true)]
  refine wpAny_bind (wpAny_pure (wpAny_bind (wpAny_dictEntries hod hdd ?_)))
  rw[if_neg (by rw[hsz];simp)]
  refine wpAny_bind (wpAny_pure (wpAny_bind (wpAny_dictEpoch hod hdd ?_)))
  rw[if_neg (by simp)]
  refine wpAny_pure ?_
  obtain⟨hlt,hen⟩:=Array.getElem?_eq_some_iff.mp hx
  simp only[show ¬((i:Int) < 0)from by omega,if_false,Int.toNat_natCast,Array.getElem?_eq_getElem hlt]
  rw[hen]
  refine wpAny_bind ?_
  first | refine wpAny_bind (wpAny_typeNameOfWhole_valiter hit.typeIs (wpAny_pure ?_)) | refine wpAny_bind (wpAny_typeNameOf_valiter hit.typeIs (wpAny_pure ?_))
  refine wpAny_bind (wpAny_isOneOf_valiter hit.typeIs ?_)
  show wpAny _ _ (setField (.ref it) 1 (rawInt ((i:Int)+1)) >>= _) _ _ s
  refine wpAny_bind (wpAny_setField ho hd (by simp) ?_)
  have hit':(s.heap.update it (Obj.mapFields (·.setIfInBounds 1 (rawInt ((i:Int)+1))))).IsValIter it d (i+1) n ep:=
    ⟨_,Heap.get?_update_self _ ho (Obj.isFreed_of_fields (Obj.data_mapFields hd _)),(Obj.cls_mapFields ..).trans hc,by rw[Obj.data_mapFields hd];simp[rawInt]⟩
  refine wpAny_bind (wpAny_holding ?_)
  refine wpAny_bind (wpAny_isOneOf_valiter (s:={s with heap:=s.heap.update it (Obj.mapFields (·.setIfInBounds 1 (rawInt ((i:Int)+1))))}) hit'.typeIs ?_)
  refine wpAny_bind (wpAny_isOneOf_valiter (s:={s with heap:=s.heap.update it (Obj.mapFields (·.setIfInBounds 1 (rawInt ((i:Int)+1))))}) hit'.typeIs ?_)
  show wpAny _ _ (pure en.val) _ _ _
  exact wpAny_pure (wpAny_pure ⟨_,rfl,wpAny_pure (hQ _ hit' (Heap.SameBut.update ..))⟩)
theorem val_end {it d:Addr} {i n ep:Nat} {od:Obj} {es:Array DictEntry} {Q:Option Value->Shared->Prop} (hh:A.handled=none) (hit:s.heap.IsValIter it d i n ep) (hod:s.heap.get? d=some od) (hdd:od.data= .dict es ep)
    (hsz:es.size=n) (hge:n≤i) (hQ:∀h',Heap.ExtBut it s.heap h'->Q none {s with heap:=h'}):wpAny (model prog w) A (pyNext (.ref it)) Q E s:=by
  obtain⟨o,ho,hc,hd⟩:=id hit
  have own:Builtin.Dict_items.ownsTuple "dict_valueiterator"=false:=by decide
  unfold pyNext
  refine wpAny_bind (wpAny_attempt (wpAny_callSpecial?_slot (name:=Str.ofString "__next__") hit.typeIs F.slot_dict_valueiterator_next (wpAny_call_entry F.slot_dict_valueiterator_next hit.typeIs F.entry_dict_valueiterator_next ?_ (F.args_dict_valueiterator_next_1 _))))
  refine wpAny_bind (wpAny_pure (wpAny_bind (wpAny_bind ?_)))
  first | refine wpAny_bind (wpAny_typeNameOfWhole_valiter hit.typeIs (wpAny_pure ?_)) | refine wpAny_bind (wpAny_typeNameOf_valiter hit.typeIs (wpAny_pure ?_))
  refine wpAny_bind (wpAny_fieldsOf ho hd ?_)
  simp only[own,Bool.false_eq_true,if_false]
  show wpAny _ _ (if (Value.ref d == Value.none)=true then _ else _) _ _ s
  rw[if_neg (show ¬((Value.ref d == Value.none)=true)from Bool.false_ne_true)]
  refine wpAny_bind (wpAny_pure (wpAny_bind (wpAny_dictEntries hod hdd ?_)))
  rw[if_neg (by rw[hsz];simp)]
  refine wpAny_bind (wpAny_pure (wpAny_bind (wpAny_dictEpoch hod hdd ?_)))
  rw[if_neg (by simp)]
  refine wpAny_pure ?_
  have hge':es.size≤i:=by rw[hsz];exact hge
  simp only[show ¬((i:Int) < 0)from by omega,if_false,Int.toNat_natCast,Array.getElem?_eq_none hge']
  refine wpAny_bind ?_
  first | refine wpAny_bind (wpAny_typeNameOfWhole_valiter hit.typeIs (wpAny_pure ?_)) | refine wpAny_bind (wpAny_typeNameOf_valiter hit.typeIs (wpAny_pure ?_))
  show wpAny _ _ (setField (.ref it) 0 .none >>= _) _ _ s
  refine wpAny_bind (wpAny_setField ho hd (by simp) ?_)
  show wpAny _ _ (newExc (.type "StopIteration") [] >>= _) _ _ _
  refine wpAny_bind ?_
  simp only[newExc,newTuple]
  refine wpAny_bind (wpAny_newObj_type ?_ (by size_fits))
  refine wpAny_bind (m:=firstArgMember _ _) (wpAny_of_eq (a:=Value.none) (by first | rfl | (simp only[firstArgMember];rfl)) ?_)
  refine wpAny_newObj_type ?_ (by size_fits)
  simp only[raiseNew]
  refine wpAny_bind (wpAny_handled ?_)
  rw[show A.in1.handled=none from hh]
  refine wpAny_bind (wpAny_pure (wpAny_throw ?_))
  refine wpAny_bind (wpAny_isInstance (T:="StopIteration") (b:=true) ⟨_,Heap.get?_push_size _ rfl,rfl⟩ isSubtype_stop ?_)
  exact wpAny_pure (hQ _ (((Heap.SameBut.update ..).extBut.push _).push _))
theorem values_view (d:Addr) (hd:(d == sysModules)=false):
    MeetsIn prog w (Builtin.«dict.values» ⟨[.ref d],[]⟩) (fun _ R s=>s.TypeIs (.ref d) "dict"/\R (.ok (.ret (.ref s.heap.objs.size))) {s with heap:=s.heap.push {cls:= .type "dict_values",data:= .fields #[.ref d]}}):=
  .of_wp fun A R s ⟨ty,h⟩=>by
    refine wpAny_bind ?_
    unfold Builtin.Dict.noArgs
    refine wpAny_bind (wpAny_notOrdered_dict ty ?_)
    show wpAny _ _ (pure d) _ _ s
    refine wpAny_pure ?_
    show wpAny _ _ (Builtin.Dict.showsAll d >>= _) _ _ s
    unfold Builtin.Dict.showsAll
    rw[if_neg (by rw[hd];exact Bool.false_ne_true)]
    exact wpAny_bind (wpAny_pure (wpAny_bind (wpAny_newObj_type (wpAny_pure ⟨_,rfl,h⟩))))
theorem values_iter {v d:Addr} {o:Obj} {es:Array DictEntry} {ep:Nat} {Q:Value->Shared->Prop} (hv:s.heap.IsValuesView v d) (ho:s.heap.get? d=some o) (hdat:o.data= .dict es ep)
    (hQ:Q (.ref s.heap.objs.size) {s with heap:=s.heap.push {cls:= .type "dict_valueiterator",data:= .fields #[.ref d,.int 0 0,.int es.size 0,.int ep 0]}}):
    wpAny (model prog w) A (pyIter (.ref v)) Q E s:=by
  obtain⟨ov,hov,hcv,hdv⟩:=id hv
  refine wpAny_pyIter_slot hv.typeIs F.slot_dict_values_iter (wpAny_call_entry F.slot_dict_values_iter hv.typeIs F.entry_dict_values_iter ?_ (F.args_dict_values_iter_1 _))
  unfold Builtin.«dict_values.__iter__»
  refine wpAny_bind (wpAny_pure (wpAny_bind ?_))
  unfold Builtin.Dict_items.dictOf
  refine wpAny_bind (wpAny_field hov hdv (x:= .ref d) rfl (wpAny_pure (wpAny_bind ?_)))
  unfold Builtin.Dict_items.newIterator
  refine wpAny_bind (wpAny_dictEntries ho hdat (wpAny_bind (wpAny_dictEpoch ho hdat ?_)))
  have own:Builtin.Dict_items.ownsTuple "dict_valueiterator"=false:=by decide
  simp only[own,Bool.false_eq_true,if_false]
  refine wpAny_newObj_type (wpAny_pure ⟨_,rfl,"dict_valueiterator",_,⟨_,Heap.get?_push_size _ rfl,rfl⟩,F.slot_dict_valueiterator_next.lookup,?_⟩)
  simpa [rawInt] using hQ
theorem walks_vals {I d:Addr} {o:Obj} {es:Array DictEntry} {ep:Nat} (hh:A.handled=none) (hne:d≠I) (hdd:o.data= .dict es ep):
    Walks prog w A I [I,d] [I] es.size (fun i v=>∃en,es[i]? =some en/\v=en.val) (fun i h=>h.IsValIter I d i es.size ep/\h.get? d=some o) where
  sub:=fun b hb=>by simp at hb;simp[hb]
  frame:=fun _ _ _ st hk=>⟨let ⟨oi,ho,x⟩:=st.1;⟨oi,hk I (by simp) oi ho,x⟩,hk d (by simp) _ st.2⟩
  item:=fun i s Q E hi st hQ=>by
    refine val_next st.1 st.2 hdd rfl (Array.getElem?_eq_getElem hi) fun h' st' sb=> ?_
    exact hQ _ h' s.toks ⟨_,Array.getElem?_eq_getElem hi,rfl⟩ ⟨st',(sb.2 d hne).trans st.2⟩ fun b ob hb e=>(sb.2 b (by simpa using hb)).trans e
  done:=fun s Q E st hQ=>val_end hh st.1 st.2 hdd rfl (Nat.le_refl _) fun h' eb=>hQ h' s.toks fun b ob hb e=>eb b ob (by simpa using hb) e
  self:=fun i s Q E st h=>wpAny_pyIter_valiter st.1 h
end
section
variable {X:Cx} {e:Expr} {td:TE}
theorem call_listT (hc:X.calm=true):CallR X (.type "list") (fun xs H Q=>∃a kvs,xs=[V.ref a]/\Rd H a (.dT kvs)/\∀l (qs:List Addr),H l=none->qs.length=kvs.length->
    (∀(i:Nat) (k:List Key) (v:V),kvs[i]? =some (k,v)->∃q,qs[i]? =some q/\H q=some (.tup (k.map kV)))->Q (.ref l) (upd H l (.lst (qs.map V.ref)))):=by
  intro pins s σ H xs us Q I r h
  obtain⟨a,kvs,rfl,hd,q⟩:=h
  obtain⟨u,rfl,ru⟩:=vals1 r
  cases ru
  obtain⟨z,_⟩:=dt_rd I.hok hd
  obtain⟨hs,ob,es,ep,ho,hx,hdt,hsz,ent⟩:=entries_t (rd_of I.hok hd)
  refine kdl_call (src_keys hs hx hdt) (I.ok.hd hc) ho (by rw[hsz];exact z) fun h' tk acc c hk hl hacc=> ?_
  have hall:∀i,i < kvs.length->∃q:Addr,acc[i]? =some (.ref q)/\∀(k:List Key) (v:V),kvs[i]? =some (k,v)->H q=some (.tup (k.map kV)):=fun i hi=>by
    obtain⟨⟨k,v⟩,hkv⟩:∃p,kvs[i]? =some p:=⟨kvs[i],List.getElem?_eq_getElem hi⟩
    obtain⟨en,q,hen,hkey,hq,_⟩:=ent i k v hkv
    have hlt:i < acc.size:=by rw[hacc.1,hsz];exact hi
    obtain⟨en',hen',hv⟩:=hacc.2 i acc[i] (Array.getElem?_eq_getElem hlt)
    rw[hen]at hen'
    cases hen'
    refine⟨q,by rw[Array.getElem?_eq_getElem hlt,hv,hkey],fun k' v' e'=> ?_⟩
    rw[hkv]at e'
    cases e'
    exact hq
  have hqs:∀n,n≤kvs.length->∃qs:List Addr,qs.length=n/\acc.toList.take n=qs.map Value.ref/\∀(i:Nat) (k:List Key) (v:V),i < n->kvs[i]? =some (k,v)->∃q,qs[i]? =some q/\H q=some (.tup (k.map kV)):=by
    intro n
    induction n with
    | zero=>exact fun _=>⟨[],rfl,rfl,fun i _ _ hi=>absurd hi (Nat.not_lt_zero _)⟩
    | succ n ih=>
      intro hn
      obtain⟨qs,h1,h2,h3⟩:=ih (by omega)
      obtain⟨q,hq1,hq2⟩:=hall n (by omega)
      have hq1':acc.toList[n]? =some (.ref q):=by rw[Array.getElem?_toList];exact hq1
      refine⟨qs++[q],by simp[h1],?_,fun i k v hi hkv=> ?_⟩
      · rw[List.take_add_one,hq1',h2];simp
      · by_cases e:i=n
        · subst e
          exact⟨q,by rw[List.getElem?_append_right (by omega),h1];simp,hq2 k v hkv⟩
        · obtain⟨q',h4,h5⟩:=h3 i k v (by omega) hkv
          exact⟨q',by rw[List.getElem?_append_left (by omega)];exact h4,h5⟩
  obtain⟨qs,h1,h2,h3⟩:=hqs kvs.length (Nat.le_refl _)
  have h2':acc.toList=qs.map Value.ref:=by
    rw[←h2,List.take_of_length_le (by rw[Array.length_toList,hacc.1,hsz];exact Nat.le_refl _)]
  have hn:H s.heap.objs.size=none:=I.hok.fresh (Nat.le_refl _)
  have hv:∀bs:List Addr,Vals (bs.map V.ref) (bs.map Value.ref):=fun bs=>by
    induction bs with
    | nil=>exact .nil
    | cons b bs ih=>exact .cons rfl ih
  refine⟨.ref s.heap.objs.size,_,I.laid (o:= .lst (qs.map V.ref)) hk (Nat.le_refl _) ⟨by rw[List.length_map,h1];exact z,acc.toList,c,by rw[h2'];exact hv qs,by simpa using hl⟩,rfl,q _ qs hn h1 fun i k v hkv=>h3 i k v (List.getElem?_eq_some_iff.mp hkv).1 hkv⟩
theorem preSum_list:∀(ns:List Int) (n:Nat),n≤ns.length->preSum (fun i=>ns.getD i 0) n=(ns.take n).sum
  | ns,0,_=>by simp[preSum]
  | ns,n+1,h=>by
    have ih:=preSum_list ns n (by omega)
    have e:ns[n]? =some ns[n]:=List.getElem?_eq_getElem (by omega)
    show preSum (fun i=>ns.getD i 0) n+ns.getD n 0=_
    rw[ih,sum_take e,List.getD_eq_getElem?_getD,e]
    rfl
def tSumVals (td:TE):TE:=fun σ H Q=>td σ H fun x H1=>∃(a:Addr) (kvs:List (List Key×V)) (ns:List Int),x= .ref a/\Rd H1 a (.dT kvs)/\kvs.map (·.2)=ns.map V.int/\Q (.int ns.sum) H1
theorem pe_sumVals {p pos apos cpos:Pos} (hc:X.calm=true) (hg:Gl X "sum") (hm:X.mg "sum"=none) (he:PE X e td) (hbase:attributeBase e "values" X.env (eval e X.env)=eval e X.env:=by rfl) (hline:(apos.endLine == cpos.line)=true:=by rfl)
    (hs:starEach [.Call (.Attribute e "values" apos) [] [] cpos] X.env=[(false,eval (.Call (.Attribute e "values" apos) [] [] cpos) X.env)]:=by rfl):
    PE X (.Call (.Name "sum" p) [.Call (.Attribute e "values" apos) [] [] cpos] [] pos) (tSumVals td):=by
  intro pins s σ H Q I h
  refine wpAny_Call_Name_kw (ld_blt I hg hm (show bootBuiltins "sum"=some (.builtin "sum")from by first | exact PySem.boot_sum | rfl) ?_)
  refine PyProof.Rows.callWith_builtin1 ?_ (by rw[hs];rfl) (by rfl)
  rw[hs]
  refine Calls.spliced_cons (wpAny_Call_method (T:="dict") (id:="dict.values") hbase rfl hline F.plainAttrs_dict F.slot_dict_values F.type_dict_values (thn (he pins s σ H _ I h) fun u s1 ⟨x,H1,I1,rx,a,kvs,ns,ex,hd,hns,q⟩=> ?_))
  subst ex
  obtain rfl:u=Value.ref a:=rx
  obtain⟨hs',ob,es,ep,ho,hx,hdt,hsz,ent⟩:=entries_t (rd_of I1.hok hd)
  have ty:s1.TypeIs (.ref a) "dict":=⟨ob,ho,hx.1⟩
  refine⟨ty,fun b q=> ?_,?_⟩
  · cases q
    exact⟨ob,ho,hx.2.1⟩
  have hlen:ns.length=kvs.length:=by have:=congrArg List.length hns;simpa using this.symm
  have I2:Inv X pins σ H1 {s1 with heap:=s1.heap.push {cls:= .type "dict_values",data:= .fields #[.ref a]}}:=I1.kept (t':=s1.toks) fun b ob q=>Heap.get?_push_of_some _ q
  show wpAny _ _ (callWith cpos (.builtin "dict.values") [.ref a] [] []) _ X.xe s1
  refine method_meetsIn F.slot_dict_values F.entry_dict_values rfl (PySem.evalArgs_none ⟨rfl,ty,F.args_dict_values_1 _,_,values_view a hs',ty,?_⟩)
  refine Calls.spliced_nil ?_
  refine call_sum_walkAnyS ?_
  have ho2:=Heap.get?_push_of_some (h:=s1.heap) {cls:= .type "dict_values",data:= .fields #[.ref a]} ho
  refine values_iter (v:=s1.heap.objs.size) (d:=a) ⟨_,Heap.get?_push_size _ rfl,rfl,rfl⟩ ho2 hdt ?_
  have hlt:a < (s1.heap.push {cls:= .type "dict_values",data:= .fields #[.ref a]}).objs.size:=Heap.lt_size ho2
  refine⟨_,_,_,_,es.size,_,_,fun i=>ns.getD i 0,rfl,(walks_vals (prog:=X.prog) (w:=X.w) (A:=X.A.in1) (I.ok.hd hc) (Nat.ne_of_lt hlt) hdt).toS,⟨⟨_,Heap.get?_push_size _ rfl,rfl,rfl⟩,Heap.get?_push_of_some _ ho2⟩,fun b hb=> ?_,fun i v hv=> ?_,fun s' t' hm=> ?_⟩
  · rw[size_push']
    rcases List.mem_cons.mp hb with e | hb
    · rw[e];exact Nat.lt_succ_self _
    · rw[List.mem_singleton.mp hb];exact Nat.lt_succ_of_lt hlt
  · obtain⟨en,hen,rfl⟩:=hv
    have hi:i < kvs.length:=by rw[←hsz];exact(Array.getElem?_eq_some_iff.mp hen).1
    obtain⟨⟨k,v⟩,hkv⟩:∃p,kvs[i]? =some p:=⟨kvs[i],List.getElem?_eq_getElem hi⟩
    obtain⟨en',q',hen',_,_,rv⟩:=ent i k v hkv
    rw[hen]at hen'
    cases hen'
    have e1:(kvs.map (·.2))[i]? =some v:=by rw[List.getElem?_map,hkv];rfl
    rw[hns,List.getElem?_map]at e1
    obtain⟨z,hz,rfl⟩:=Option.map_eq_some_iff.mp e1
    obtain⟨t,ht⟩:=rv
    exact⟨t,by rw[ht];simp[List.getD_eq_getElem?_getD,hz]⟩
  · have hk:∀b o,s1.heap.get? b=some o->s'.heap.get? b=some o:=fun b o e=>
      hm.heap b o (fun hI=>by
        rw[List.mem_singleton.mp hI]at e
        have:=Heap.lt_size e
        rw[size_push']at this
        exact absurd this (Nat.not_lt.mpr (Nat.le_succ _))) (Heap.get?_push_of_some _ (Heap.get?_push_of_some _ e))
    rw[Moved.eq_with hm]
    refine⟨.int ns.sum,H1,I1.kept hk,⟨t',?_⟩,q⟩
    rw[hsz,←hlen,preSum_list ns _ (Nat.le_refl _),List.take_length]
end
end TyR
end
section
namespace Ty
open Rh04 (Word Item Weighed Ready Search before first lay begins top letters once enter find_ open_ next enough more start pair weight all put)
theorem before_irrefl:∀u:Word,before u u=false
  | []=>rfl
  | a::u=>by
    unfold before
    rw[if_neg (Nat.lt_irrefl a),if_neg (Nat.lt_irrefl a)]
    exact before_irrefl u
theorem before_cons (a b:Nat) (u v:Word):before (a::u) (b::v)=true↔a < b∨(a=b/\before u v=true):=by
  rw[before]
  by_cases h:a < b
  · rw[if_pos h];simp[h]
  · rw[if_neg h]
    by_cases h2:b < a
    · rw[if_pos h2];simp;omega
    · rw[if_neg h2]
      have e:a=b:=by omega
      simp[e]
theorem before_trans:∀{u v w:Word},before u v=true->before v w=true->before u w=true
  | [],[],_,h,_=>by simp[before]at h
  | [],_::_,[],_,h=>by simp[before]at h
  | [],_::_,_::_,_,_=>rfl
  | _::_,[],_,h,_=>by simp[before]at h
  | _::_,_::_,[],_,h=>by simp[before]at h
  | a::u,b::v,c::w,h1,h2=>by
    rw[before_cons]at h1 h2 ⊢
    rcases h1 with h1 | ⟨e1,h1⟩
    · rcases h2 with h2 | ⟨e2,h2⟩
      · exact .inl (by omega)
      · exact .inl (by omega)
    · rcases h2 with h2 | ⟨e2,h2⟩
      · exact .inl (by omega)
      · exact .inr ⟨by omega,before_trans h1 h2⟩
theorem before_total:∀{u v:Word},u≠v->before u v=true∨before v u=true
  | [],[],h=>absurd rfl h
  | [],_::_,_=> .inl rfl
  | _::_,[],_=> .inr rfl
  | a::u,b::v,h=>by
    rw[before_cons,before_cons]
    by_cases e:a=b
    · subst e
      have h':u≠v:=fun q=>h (by rw[q])
      rcases before_total h' with q | q
      · exact .inl (.inr ⟨rfl,q⟩)
      · exact .inr (.inr ⟨rfl,q⟩)
    · have:a < b∨b < a:=by omega
      rcases this with q | q
      · exact .inl (.inl q)
      · exact .inr (.inl q)
theorem before_asymm {u v:Word} (h:before u v=true):before v u=false:=by
  cases e:before v u with
  | false=>rfl
  | true=>
    have:=before_trans h e
    rw[before_irrefl]at this
    cases this
theorem first_iff (x y:Weighed):first x y=true↔y.2 < x.2∨(x.2=y.2/\before x.1 y.1=true):=by
  unfold first
  rw[Bool.or_eq_true,Bool.and_eq_true,decide_eq_true_eq,beq_iff_eq]
theorem first_irrefl (x:Weighed):first x x=false:=by
  cases e:first x x with
  | false=>rfl
  | true=>
    rw[first_iff]at e
    rcases e with e | ⟨_,e⟩
    · omega
    · rw[before_irrefl]at e;cases e
theorem first_trans {x y z:Weighed} (h1:first x y=true) (h2:first y z=true):first x z=true:=by
  rw[first_iff]at h1 h2 ⊢
  rcases h1 with h1 | ⟨e1,h1⟩
  · rcases h2 with h2 | ⟨e2,h2⟩
    · exact .inl (by omega)
    · exact .inl (by omega)
  · rcases h2 with h2 | ⟨e2,h2⟩
    · exact .inl (by omega)
    · exact .inr ⟨by omega,before_trans h1 h2⟩
theorem first_total {x y:Weighed} (h:x≠y):first x y=true∨first y x=true:=by
  rw[first_iff,first_iff]
  by_cases e:x.2=y.2
  · have hw:x.1≠y.1:=fun q=>h (Prod.ext q e)
    rcases before_total hw with q | q
    · exact .inl (.inr ⟨e,q⟩)
    · exact .inr (.inr ⟨e.symm,q⟩)
  · have:y.2 < x.2∨x.2 < y.2:=by omega
    rcases this with q | q
    · exact .inl (.inl q)
    · exact .inr (.inl q)
theorem first_asymm {x y:Weighed} (h:first x y=true):first y x=false:=by
  cases e:first y x with
  | false=>rfl
  | true=>
    have:=first_trans h e
    rw[first_irrefl]at this
    cases this
theorem begins_iff:∀(p w:Word),begins p w=true↔p <+:w
  | [],w=>by simp[begins]
  | a::p,[]=>by simp[begins]
  | a::p,b::w=>by
    rw[begins,Bool.and_eq_true,beq_iff_eq,begins_iff p w,List.cons_prefix_cons]
theorem begins_take (p w:Word):begins p w=true↔w.take p.length=p:=by
  rw[begins_iff,List.prefix_iff_eq_take]
  exact⟨fun h=>h.symm,fun h=>h.symm⟩
theorem begins_self (p:Word):begins p p=true:=(begins_iff p p).mpr (List.prefix_refl p)
theorem begins_trans {p q w:Word} (h1:begins p q=true) (h2:begins q w=true):begins p w=true:=by
  rw[begins_iff]at *
  exact h1.trans h2
theorem begins_len {p w:Word} (h:begins p w=true):p.length≤w.length:=((begins_iff p w).mp h).length_le
theorem begins_snoc (p w:Word) (a:Nat):begins (p++[a]) w=true↔begins p w=true/\w[p.length]? =some a:=by
  rw[begins_iff,begins_iff]
  constructor
  · rintro⟨t,rfl⟩
    refine⟨⟨a::t,by simp⟩,by simp⟩
  · rintro⟨⟨t,rfl⟩,h⟩
    rw[List.getElem?_append_right (Nat.le_refl _),Nat.sub_self]at h
    cases t with
    | nil=>simp at h
    | cons b t=>
      simp at h
      subst h
      exact⟨t,by simp⟩
theorem begins_snoc' {p q:Word} {a:Nat} (h:begins q (p++[a])=true):q=p++[a]∨begins q p=true:=by
  rw[begins_iff]at *
  by_cases e:q.length≤p.length
  · exact .inr (List.prefix_of_prefix_length_le h ⟨[a],rfl⟩ e)
  · left
    have hl:=h.length_le
    simp at hl
    exact h.eq_of_length (by simp;omega)
abbrev SortR (l:List Ready):Prop:=l.Pairwise fun a b=>first a.it b.it=true
theorem lay_perm (x:Ready):∀l:List Ready,(lay x l).Perm (x::l)
  | []=> .refl _
  | y::l=>by
    unfold lay
    by_cases h:first x.it y.it=true
    · rw[if_pos h]
    · rw[if_neg h]
      exact((lay_perm x l).cons y).trans (List.Perm.swap x y l)
theorem lay_sort (x:Ready):∀{l:List Ready},SortR l->(∀y∈l,y.it≠x.it)->SortR (lay x l)
  | [],_,_=>by simp[lay,SortR]
  | y::l,hs,hn=>by
    unfold lay
    have h1:=List.pairwise_cons.mp hs
    by_cases h:first x.it y.it=true
    · rw[if_pos h]
      refine List.pairwise_cons.mpr ⟨fun z hz=> ?_,hs⟩
      rcases List.mem_cons.mp hz with e | e
      · rw[e];exact h
      · exact first_trans h (h1.1 z e)
    · rw[if_neg h]
      refine List.pairwise_cons.mpr ⟨fun z hz=> ?_,lay_sort x h1.2 fun z hz=>hn z (List.mem_cons_of_mem _ hz)⟩
      rcases List.mem_cons.mp ((lay_perm x l).mem_iff.mp hz)with e | e
      · rw[e]
        rcases first_total (hn y List.mem_cons_self)with q | q
        · exact q
        · exact absurd q h
      · exact h1.1 z e
theorem lays_perm:∀(b l:List Ready),(b.foldl (fun r x=>lay x r) l).Perm (l++b)
  | [],l=>by simp
  | x::b,l=>by
    rw[List.foldl_cons]
    refine(lays_perm b (lay x l)).trans ?_
    refine((lay_perm x l).append_right b).trans ?_
    exact(List.perm_middle (l₁:=l) (a:=x) (l₂:=b)).symm
theorem lays_sort:∀{b l:List Ready},SortR l->((l++b).map (·.it)).Nodup->SortR (b.foldl (fun r x=>lay x r) l)
  | [],l,hs,_=>hs
  | x::b,l,hs,hn=>by
    rw[List.foldl_cons]
    have hp:((l++x::b).map (·.it)).Perm ((x::(l++b)).map (·.it)):=(List.perm_middle (l₁:=l) (a:=x) (l₂:=b)).map _
    have hn2:=hp.nodup_iff.mp hn
    rw[List.map_cons,List.nodup_cons]at hn2
    refine lays_sort (lay_sort x hs fun y hy e=>hn2.1 ?_) ?_
    · rw[←e]
      exact List.mem_map.mpr ⟨y,List.mem_append_left _ hy,rfl⟩
    · have hq:((lay x l++b).map (·.it)).Perm ((l++x::b).map (·.it)):=
        (((lay_perm x l).append_right b).trans (List.perm_middle (l₁:=l) (a:=x) (l₂:=b)).symm).map _
      exact hq.nodup_iff.mpr hn
theorem sort_head {L M:List Ready} (hs:SortR L) (hp:L.Perm M) {m:Ready} (hm:m∈M) (hmin:∀y∈M,first y.it m.it=false):∃L',L=m::L'/\L'.Perm (M.erase m):=by
  cases L with
  | nil=>exact absurd (hp.mem_iff.mpr hm) (by simp)
  | cons h L=>
    have h1:=List.pairwise_cons.mp hs
    have e:h=m:=by
      rcases List.mem_cons.mp (hp.mem_iff.mpr hm)with e | e
      · exact e.symm
      · have:=h1.1 m e
        rw[hmin h (hp.mem_iff.mp List.mem_cons_self)]at this
        cases this
    subst e
    exact⟨L,rfl,by have:=hp.erase h;rwa [List.erase_cons_head]at this⟩
end Ty
end
section
namespace Ty
open Rh04 (Word Item Weighed Ready Search before first lay begins top letters once enter find_ open_ next enough more start pair weight all put)
theorem top_cons (x:Item) (d:List Item) (p:Word):top (x::d) p=if begins p x.word=true then max (weight x) (top d p)else top d p:=by
  unfold top
  rw[List.filter_cons]
  by_cases h:begins p x.word=true
  · rw[if_pos h,if_pos h];rfl
  · rw[if_neg h,if_neg h]
theorem top_perm {d d':List Item} (h:d.Perm d') (p:Word):top d p=top d' p:=by
  induction h with
  | nil=>rfl
  | cons x _ ih=>rw[top_cons,top_cons,ih]
  | swap x y l=>
    rw[top_cons,top_cons,top_cons,top_cons]
    by_cases h1:begins p x.word=true <;> by_cases h2:begins p y.word=true <;> simp[h1,h2] <;> omega
  | trans _ _ a b=>exact a.trans b
abbrev Rise (l:List Nat):Prop:=l.Pairwise (· < ·)
theorem once_mem (a b:Nat):∀l:List Nat,b∈once a l↔b=a∨b∈l
  | []=>by simp[once]
  | x::l=>by
    unfold once
    by_cases h:a < x
    · rw[if_pos h];simp
    · rw[if_neg h]
      by_cases e:x=a
      · rw[if_pos e];simp[e]
      · rw[if_neg e,List.mem_cons,once_mem a b l,List.mem_cons]
        constructor <;> rintro(q | q | q) <;> simp[q]
theorem once_rise (a:Nat):∀{l:List Nat},Rise l->Rise (once a l)
  | [],_=>by simp[once,Rise]
  | x::l,h=>by
    have h1:=List.pairwise_cons.mp h
    unfold once
    by_cases hx:a < x
    · rw[if_pos hx]
      refine List.pairwise_cons.mpr ⟨fun z hz=> ?_,h⟩
      rcases List.mem_cons.mp hz with e | e
      · omega
      · have:=h1.1 z e;omega
    · rw[if_neg hx]
      by_cases e:x=a
      · rw[if_pos e];exact h
      · rw[if_neg e]
        refine List.pairwise_cons.mpr ⟨fun z hz=> ?_,once_rise a h1.2⟩
        rcases(once_mem a z l).mp hz with q | q
        · omega
        · exact h1.1 z q
theorem onces_mem (b:Nat):∀(l acc:List Nat),b∈l.foldl (fun l a=>once a l) acc↔b∈acc∨b∈l
  | [],acc=>by simp
  | x::l,acc=>by
    rw[List.foldl_cons,onces_mem b l,once_mem,List.mem_cons]
    constructor
    · rintro((q | q) | q) <;> simp[q]
    · rintro(q | q | q) <;> simp[q]
theorem onces_rise:∀(l:List Nat) {acc:List Nat},Rise acc->Rise (l.foldl (fun l a=>once a l) acc)
  | [],_,h=>h
  | x::l,_,h=>onces_rise l (once_rise x h)
theorem letters_rise (d:List Item) (p:Word):Rise (letters d p):=by
  unfold letters
  exact onces_rise _ (by simp[Rise])
theorem letters_mem (d:List Item) (p:Word) (a:Nat):a∈letters d p↔∃x∈d,begins (p++[a]) x.word=true:=by
  unfold letters
  rw[onces_mem]
  simp only[List.not_mem_nil,false_or,List.mem_filterMap,List.mem_filter]
  constructor
  · rintro⟨x,⟨hx,hb⟩,h⟩
    exact⟨x,hx,(begins_snoc _ _ _).mpr ⟨hb,h⟩⟩
  · rintro⟨x,hx,h⟩
    obtain⟨hb,h⟩:=(begins_snoc _ _ _).mp h
    exact⟨x,⟨hx,hb⟩,h⟩
theorem rise_eq:∀{l m:List Nat},Rise l->Rise m->(∀a,a∈l↔a∈m)->l=m
  | [],[],_,_,_=>rfl
  | [],b::m,_,_,h=>absurd ((h b).mpr List.mem_cons_self) (by simp)
  | a::l,[],_,_,h=>absurd ((h a).mp List.mem_cons_self) (by simp)
  | a::l,b::m,hl,hm,h=>by
    have l1:=List.pairwise_cons.mp hl
    have m1:=List.pairwise_cons.mp hm
    have e:a=b:=by
      have ha:=(h a).mp List.mem_cons_self
      have hb:=(h b).mpr List.mem_cons_self
      rcases List.mem_cons.mp ha with q | q
      · exact q
      · rcases List.mem_cons.mp hb with q' | q'
        · exact q'.symm
        · have:=m1.1 a q
          have:=l1.1 b q'
          omega
    subst e
    rw[rise_eq l1.2 m1.2 fun c=> ?_]
    constructor
    · intro hc
      rcases List.mem_cons.mp ((h c).mp (List.mem_cons_of_mem _ hc))with q | q
      · have:=l1.1 c hc;omega
      · exact q
    · intro hc
      rcases List.mem_cons.mp ((h c).mpr (List.mem_cons_of_mem _ hc))with q | q
      · have:=m1.1 c hc;omega
      · exact q
theorem rise_nodup:∀{l:List Nat},Rise l->l.Nodup:=fun h=>List.Pairwise.imp (fun q=>Nat.ne_of_lt q) h
def belowOf (r:Word) (x:Item):Nat:=if begins r x.word=true then x.word.length - r.length+1 else 0
def below (d:List Item) (r:Word):Nat:=(d.map (belowOf r)).sum
theorem below_pos {d:List Item} {r:Word} {x:Item} (hx:x∈d) (hb:begins r x.word=true):1≤below d r:=by
  unfold below
  induction d with
  | nil=>simp at hx
  | cons y d ih=>
    rw[List.map_cons,List.sum_cons]
    rcases List.mem_cons.mp hx with e | e
    · subst e
      have:belowOf r x=x.word.length - r.length+1:=by unfold belowOf;rw[if_pos hb]
      omega
    · have:=ih e
      omega
theorem child_one (r:Word) (x:Item):∀{as:List Nat},as.Nodup->(as.map fun a=>belowOf (r++[a]) x).sum≤belowOf r x - 1
  | [],_=>by simp
  | a::as,h=>by
    have h1:=List.nodup_cons.mp h
    rw[List.map_cons,List.sum_cons]
    by_cases hb:begins (r++[a]) x.word=true
    · obtain⟨hr,ha⟩:=(begins_snoc _ _ _).mp hb
      have z:(as.map fun a=>belowOf (r++[a]) x).sum=0:=by
        have:∀l:List Nat,(∀b∈l,b≠a)->(l.map fun a=>belowOf (r++[a]) x).sum=0:=by
          intro l
          induction l with
          | nil=>intro _;rfl
          | cons b l ih=>
            intro hl
            rw[List.map_cons,List.sum_cons,ih fun c hc=>hl c (List.mem_cons_of_mem _ hc)]
            unfold belowOf
            rw[if_neg]
            intro q
            have:=((begins_snoc _ _ _).mp q).2
            rw[ha]at this
            exact hl b List.mem_cons_self (Option.some.inj this).symm
        exact this as fun b hb e=>h1.1 (e ▸ hb)
      rw[z]
      unfold belowOf
      rw[if_pos hb,if_pos hr]
      have:=begins_len hb
      simp at this ⊢
      omega
    · have:=child_one r x h1.2
      have z:belowOf (r++[a]) x=0:=by unfold belowOf;rw[if_neg hb]
      omega
theorem sum_swap {α β:Type} (f:α->β->Nat) (l:List α):∀m:List β,(m.map fun b=>(l.map fun a=>f a b).sum).sum=(l.map fun a=>(m.map fun b=>f a b).sum).sum
  | []=>by
    show(0:Nat)=(l.map fun _=>0).sum
    induction l with
    | nil=>rfl
    | cons a l ih=>rw[List.map_cons,List.sum_cons,←ih]
  | b::m=>by
    rw[List.map_cons,List.sum_cons,sum_swap f l m]
    have:∀l:List α,(l.map fun a=>f a b).sum+(l.map fun a=>(m.map fun b=>f a b).sum).sum=(l.map fun a=>((b::m).map fun b=>f a b).sum).sum:=by
      intro l
      induction l with
      | nil=>rfl
      | cons a l ih=>
        simp only[List.map_cons,List.sum_cons]at ih ⊢
        omega
    exact this l
theorem sum_le {α:Type} {f g:α->Nat}:∀{l:List α},(∀a∈l,f a≤g a)->(l.map f).sum≤(l.map g).sum
  | [],_=>Nat.le_refl _
  | a::l,h=>by
    rw[List.map_cons,List.sum_cons,List.map_cons,List.sum_cons]
    have:=h a List.mem_cons_self
    have:=sum_le (f:=f) (g:=g) fun b hb=>h b (List.mem_cons_of_mem _ hb)
    omega
theorem sum_lt {α:Type} {f:α->Nat}:∀{l:List α} {x:α},x∈l->1≤f x->(l.map fun a=>f a - 1).sum+1≤(l.map f).sum
  | [],_,h,_=>by simp at h
  | a::l,x,h,hx=>by
    rw[List.map_cons,List.sum_cons,List.map_cons,List.sum_cons]
    rcases List.mem_cons.mp h with e | e
    · subst e
      have:=sum_le (f:=fun a=>f a - 1) (g:=f) (l:=l) fun b _=>by omega
      omega
    · have:=sum_lt (f:=f) e hx
      omega
theorem children_below {d:List Item} {r:Word} {x:Item} (hx:x∈d) (hb:begins r x.word=true) {as:List Nat} (ha:as.Nodup):(as.map fun a=>below d (r++[a])).sum+1≤below d r:=by
  unfold below
  rw[sum_swap (fun(a:Item) (b:Nat)=>belowOf (r++[b]) a) d as]
  have h1:(d.map fun y=>(as.map fun b=>belowOf (r++[b]) y).sum).sum≤(d.map fun y=>belowOf r y - 1).sum:=sum_le fun y _=>child_one r y ha
  have h2:1≤belowOf r x:=by unfold belowOf;rw[if_pos hb];omega
  have h3:=sum_lt (f:=belowOf r) hx h2
  omega
def readyBelow (d:List Item) (x:Ready):Nat:=if x.isWord=true then 0 else below d x.it.1
def todo (d:List Item) (l:List Ready):Nat:=(l.map (readyBelow d)).sum
theorem todo_perm (d:List Item) {l m:List Ready} (h:l.Perm m):todo d l=todo d m:=by
  unfold todo
  exact(h.map _).sum_nat
theorem todo_append (d:List Item) (l m:List Ready):todo d (l++m)=todo d l+todo d m:=by
  unfold todo
  rw[List.map_append,List.sum_append_nat]
end Ty
end
section
namespace Ty
open Rh04 (Word Item Weighed Ready Search before first lay begins top letters once enter find_ open_ next enough more start pair weight all put)
def wordHere (d:List Item) (r:Word):List Ready:=match find_ d r with
  | some x=>[⟨true,pair x⟩]
  | none=>[]
def kids (d:List Item) (r:Word):List Ready:=(letters d r).map fun a=>⟨false,(r++[a],top d (r++[a]))⟩
def fresh (d:List Item) (r:Word):List Ready:=wordHere d r++kids d r
theorem open_eq (s:Search) (r:Word) (l:List Ready):open_ s r l=⟨s.words,(fresh s.words r).foldl (fun r x=>lay x r) l,s.opened+1⟩:=by
  unfold open_ fresh wordHere kids
  cases find_ s.words r <;> rfl
theorem find_some {d:List Item} {w:Word} {x:Item} (h:find_ d w=some x):x∈d/\x.word=w:=by
  unfold find_ at h
  exact⟨List.mem_of_find?_eq_some h,by have:=List.find?_some h;exact beq_iff_eq.mp this⟩
theorem find_none {d:List Item} {w:Word} (h:find_ d w=none):∀x∈d,x.word≠w:=by
  unfold find_ at h
  intro x hx e
  have:=List.find?_eq_none.mp h x hx
  simp[e]at this
theorem wordHere_mem {d:List Item} {r:Word} {x:Ready} (h:x∈wordHere d r):x.isWord=true/\x.it.1=r:=by
  unfold wordHere at h
  cases e:find_ d r with
  | none=>rw[e]at h;simp at h
  | some y=>
    rw[e]at h
    simp at h
    subst h
    exact⟨rfl,(find_some e).2⟩
theorem kids_mem {d:List Item} {r:Word} {x:Ready} (h:x∈kids d r):∃a,a∈letters d r/\x=⟨false,(r++[a],top d (r++[a]))⟩:=by
  unfold kids at h
  obtain⟨a,ha,e⟩:=List.mem_map.mp h
  exact⟨a,ha,e.symm⟩
theorem fresh_begins {d:List Item} {r:Word} {x:Ready} (h:x∈fresh d r):begins r x.it.1=true:=by
  rcases List.mem_append.mp h with h | h
  · rw[(wordHere_mem h).2];exact begins_self r
  · obtain⟨a,_,rfl⟩:=kids_mem h
    exact(begins_iff _ _).mpr ⟨[a],rfl⟩
theorem fresh_rows (d:List Item) (r:Word):((fresh d r).map (·.it.1)).Nodup:=by
  unfold fresh
  rw[List.map_append]
  refine List.nodup_append.mpr ⟨?_,?_,?_⟩
  · unfold wordHere
    cases find_ d r <;> simp
  · unfold kids
    rw[List.map_map]
    have hn:=rise_nodup (letters_rise d r)
    refine List.pairwise_map.mpr (hn.imp fun{a b} hne e=>hne ?_)
    simpa using e
  · intro a ha b hb e
    subst e
    obtain⟨x,hx,rfl⟩:=List.mem_map.mp ha
    obtain⟨y,hy,e⟩:=List.mem_map.mp hb
    obtain⟨c,_,rfl⟩:=kids_mem hy
    rw[(wordHere_mem hx).2]at e
    have:=congrArg List.length e
    simp at this
theorem fresh_nonempty {d:List Item} {r:Word} {x:Item} (hx:x∈d) (hb:begins r x.word=true):fresh d r≠[]:=by
  intro e
  have e1:wordHere d r=[]:=(List.append_eq_nil_iff.mp e).1
  have e2:kids d r=[]:=(List.append_eq_nil_iff.mp e).2
  have h1:find_ d r=none:=by
    unfold wordHere at e1
    cases q:find_ d r with
    | none=>rfl
    | some y=>rw[q]at e1;simp at e1
  have h2:letters d r=[]:=by
    unfold kids at e2
    simpa using e2
  have hne:=find_none h1 x hx
  cases q:x.word[r.length]? with
  | none=>
    have hl:=List.getElem?_eq_none_iff.mp q
    have:=begins_len hb
    exact hne (((begins_iff _ _).mp hb).eq_of_length (by omega)).symm
  | some a=>
    have:a∈letters d r:=(letters_mem d r a).mpr ⟨x,hx,(begins_snoc _ _ _).mpr ⟨hb,q⟩⟩
    rw[h2]at this
    simp at this
theorem todo_fresh {d:List Item} {r:Word} {x:Item} (hx:x∈d) (hb:begins r x.word=true):todo d (fresh d r)+1≤below d r:=by
  unfold fresh
  rw[todo_append]
  have h1:todo d (wordHere d r)=0:=by
    unfold wordHere todo
    cases find_ d r <;> simp[readyBelow]
  have h2:todo d (kids d r)=((letters d r).map fun a=>below d (r++[a])).sum:=by
    unfold kids todo
    rw[List.map_map]
    rfl
  rw[h1,h2,Nat.zero_add]
  exact children_below hx hb (rise_nodup (letters_rise d r))
structure Good (s:Search):Prop where
  srt:SortR s.ready
  rows:(s.ready.map (·.it.1)).Nodup
  anti:∀x∈s.ready,x.isWord=false->∀y∈s.ready,x≠y->begins x.it.1 y.it.1=false
  has:∀x∈s.ready,x.isWord=false->∃w∈s.words,begins x.it.1 w.word=true
  fuel:todo s.words s.ready < enough s
theorem enough_eq (s:Search):enough s=(s.words.map fun x=>x.word.length+1).sum+1:=by
  unfold enough
  induction s.words with
  | nil=>rfl
  | cons x l ih=>rw[List.foldr_cons,ih,List.map_cons,List.sum_cons];omega
theorem below_le (d:List Item) (r:Word):below d r≤(d.map fun x=>x.word.length+1).sum:=by
  unfold below
  refine sum_le fun x _=> ?_
  unfold belowOf
  split <;> omega
theorem start_good (d:List Item) (p:Word):Good (start d p):=by
  unfold start
  by_cases h:d.any (fun x=>begins p x.word)=true
  · rw[if_pos h]
    refine⟨by simp[SortR],by simp,fun x hx _ y hy ne=> ?_,fun x hx _=> ?_,?_⟩
    · simp at hx hy
      exact absurd (hx.trans hy.symm) ne
    · simp at hx
      subst hx
      obtain⟨w,hw,hb⟩:=List.any_eq_true.mp h
      exact⟨w,hw,hb⟩
    · rw[enough_eq]
      show([(⟨false,(p,top d p)⟩:Ready)].map (readyBelow d)).sum < _
      have:=below_le d p
      simp[readyBelow]
      omega
  · rw[if_neg h]
    refine⟨by simp[SortR],by simp,by simp,by simp,?_⟩
    rw[enough_eq]
    show(([]:List Ready).map (readyBelow d)).sum < _
    simp
theorem head_out {s:Search} (G:Good s) {x:Ready} {l:List Ready} (e:s.ready=x::l):x ∉ l:=by
  have:=G.rows
  rw[e,List.map_cons,List.nodup_cons]at this
  exact fun h=>this.1 (List.mem_map.mpr ⟨x,h,rfl⟩)
theorem open_perm (s:Search) (r:Word) (l:List Ready):(open_ s r l).ready.Perm (l++fresh s.words r):=by
  rw[open_eq]
  exact lays_perm _ _
theorem open_todo {s:Search} (G:Good s) {it:Weighed} {l:List Ready} (e:s.ready=⟨false,it⟩::l):todo s.words (open_ s it.1 l).ready+1≤todo s.words s.ready:=by
  obtain⟨w,hw,hb⟩:=G.has ⟨false,it⟩ (by rw[e];exact List.mem_cons_self) rfl
  rw[todo_perm _ (open_perm s it.1 l),todo_append,e]
  have:=todo_fresh (r:=it.1) hw hb
  have h2:todo s.words (⟨false,it⟩::l)=below s.words it.1+todo s.words l:=by
    unfold todo
    rw[List.map_cons,List.sum_cons]
    rfl
  rw[h2]
  have hb':begins (⟨false,it⟩:Ready).it.1 w.word=true:=hb
  omega
theorem open_good {s:Search} (G:Good s) {it:Weighed} {l:List Ready} (e:s.ready=⟨false,it⟩::l):Good (open_ s it.1 l):=by
  have hp:=open_perm s it.1 l
  have hw:(open_ s it.1 l).words=s.words:=by rw[open_eq]
  have ho:=head_out G e
  have hh:(⟨false,it⟩:Ready)∈s.ready:=by rw[e];exact List.mem_cons_self
  have hl:∀y∈l,y∈s.ready:=fun y hy=>by rw[e];exact List.mem_cons_of_mem _ hy
  have nl:∀y∈l,begins it.1 y.it.1=false:=fun y hy=>G.anti _ hh rfl y (hl y hy) fun q=>ho (q ▸ hy)
  have s1:=G.srt
  have r1:=G.rows
  rw[e]at s1 r1
  have s2:=(List.pairwise_cons.mp s1).2
  rw[List.map_cons,List.nodup_cons]at r1
  have rn:((l++fresh s.words it.1).map (·.it.1)).Nodup:=by
    rw[List.map_append]
    refine List.nodup_append.mpr ⟨r1.2,fresh_rows _ _,fun a ha b hb q=> ?_⟩
    subst q
    obtain⟨x,hx,rfl⟩:=List.mem_map.mp ha
    obtain⟨y,hy,q⟩:=List.mem_map.mp hb
    have:=fresh_begins hy
    rw[q,nl x hx]at this
    cases this
  have rn2:((l++fresh s.words it.1).map (·.it)).Nodup:=by
    have:((l++fresh s.words it.1).map (·.it.1))=((l++fresh s.words it.1).map (·.it)).map (·.1):=by rw[List.map_map];rfl
    rw[this]at rn
    exact List.Pairwise.of_map _ (fun a b h q=>h (by rw[q])) rn
  refine⟨?_,(hp.map _).nodup_iff.mpr rn,fun x hx xw y hy ne=> ?_,fun x hx xw=> ?_,?_⟩
  · rw[open_eq]
    exact lays_sort s2 rn2
  · have hx:=List.mem_append.mp (hp.mem_iff.mp hx)
    have hy:=List.mem_append.mp (hp.mem_iff.mp hy)
    rcases hx with hx | hx
    · have hxr:begins x.it.1 it.1=false:=G.anti x (hl x hx) xw ⟨false,it⟩ hh fun q=>ho (q ▸ hx)
      rcases hy with hy | hy
      · exact G.anti x (hl x hx) xw y (hl y hy) ne
      · rcases List.mem_append.mp hy with hy | hy
        · rw[(wordHere_mem hy).2];exact hxr
        · obtain⟨a,_,rfl⟩:=kids_mem hy
          cases q:begins x.it.1 (it.1++[a])with
          | false=>rfl
          | true=>
            rcases begins_snoc' q with q | q
            · have:=nl x hx
              rw[q,(begins_iff _ _).mpr ⟨[a],rfl⟩]at this
              cases this
            · rw[hxr]at q;cases q
    · rcases List.mem_append.mp hx with hx | hx
      · rw[(wordHere_mem hx).1]at xw;cases xw
      · obtain⟨a,_,rfl⟩:=kids_mem hx
        have ha:begins it.1 (it.1++[a])=true:=(begins_iff _ _).mpr ⟨[a],rfl⟩
        cases q:begins (it.1++[a]) y.it.1 with
        | false=>rfl
        | true=>
          exfalso
          rcases hy with hy | hy
          · have:=nl y hy
            rw[begins_trans ha q]at this
            cases this
          · rcases List.mem_append.mp hy with hy | hy
            · have:=begins_len q
              rw[(wordHere_mem hy).2,List.length_append]at this
              exact absurd this (by simp)
            · obtain⟨b,_,rfl⟩:=kids_mem hy
              have:=((begins_iff _ _).mp q).eq_of_length (by simp)
              exact ne (by rw[this])
  · have hx:=List.mem_append.mp (hp.mem_iff.mp hx)
    rw[hw]
    rcases hx with hx | hx
    · exact G.has x (hl x hx) xw
    · rcases List.mem_append.mp hx with hx | hx
      · rw[(wordHere_mem hx).1]at xw;cases xw
      · obtain⟨a,ha,rfl⟩:=kids_mem hx
        exact(letters_mem _ _ _).mp ha
  · have h1:=open_todo G e
    have h2:enough (open_ s it.1 l)=enough s:=by rw[enough_eq,enough_eq,hw]
    have h3:=G.fuel
    rw[h2,hw]
    omega
theorem take_good {s:Search} (G:Good s) {x:Ready} {l:List Ready} (e:s.ready=x::l):Good {s with ready:=l}:=by
  have s1:=G.srt
  have r1:=G.rows
  rw[e]at s1 r1
  have hl:∀y∈l,y∈s.ready:=fun y hy=>by rw[e];exact List.mem_cons_of_mem _ hy
  refine⟨(List.pairwise_cons.mp s1).2,(List.nodup_cons.mp r1).2,fun x hx xw y hy ne=>G.anti x (hl x hx) xw y (hl y hy) ne,fun x hx xw=>G.has x (hl x hx) xw,?_⟩
  have h:=G.fuel
  have:todo s.words l≤todo s.words s.ready:=by
    rw[e]
    unfold todo
    rw[List.map_cons,List.sum_cons]
    omega
  show todo s.words l < enough s
  omega
theorem open_nonempty {s:Search} (G:Good s) {it:Weighed} {l:List Ready} (e:s.ready=⟨false,it⟩::l):(open_ s it.1 l).ready≠[]:=by
  obtain⟨w,hw,hb⟩:=G.has ⟨false,it⟩ (by rw[e];exact List.mem_cons_self) rfl
  intro q
  have hp:=open_perm s it.1 l
  rw[q]at hp
  have:=List.nil_perm.mp hp
  exact fresh_nonempty hw hb (List.append_eq_nil_iff.mp this).2
theorem next_fuel:∀(f g:Nat) {s:Search},Good s->todo s.words s.ready < f->todo s.words s.ready < g->next f s=next g s
  | 0,_,_,_,h,_=>absurd h (Nat.not_lt_zero _)
  | _+1,0,_,_,_,h=>absurd h (Nat.not_lt_zero _)
  | f+1,g+1,s,G,hf,hg=>by
    unfold next
    cases e:s.ready with
    | nil=>rfl
    | cons x l=>
      dsimp only
      obtain⟨b,it⟩:=x
      cases b with
      | true=>rfl
      | false=>
        rw[if_neg Bool.false_ne_true,if_neg Bool.false_ne_true]
        have h1:=open_todo G e
        have hw:(open_ s it.1 l).words=s.words:=by rw[open_eq]
        exact next_fuel f g (open_good G e) (by rw[hw];show todo s.words (open_ s it.1 l).ready < f;omega) (by rw[hw];show todo s.words (open_ s it.1 l).ready < g;omega)
theorem next_some:∀(f:Nat) {s:Search},Good s->todo s.words s.ready < f->s.ready≠[]->∃r,next f s=some r
  | 0,_,_,h,_=>absurd h (Nat.not_lt_zero _)
  | f+1,s,G,hf,hn=>by
    unfold next
    cases e:s.ready with
    | nil=>exact absurd e hn
    | cons x l=>
      dsimp only
      obtain⟨b,it⟩:=x
      cases b with
      | true=>exact⟨_,rfl⟩
      | false=>
        rw[if_neg Bool.false_ne_true]
        have h1:=open_todo G e
        have hw:(open_ s it.1 l).words=s.words:=by rw[open_eq]
        exact next_some f (open_good G e) (by rw[hw];show todo s.words (open_ s it.1 l).ready < f;omega) (open_nonempty G e)
theorem next_open {s:Search} (G:Good s) {it:Weighed} {l:List Ready} (e:s.ready=⟨false,it⟩::l):next (enough s) s=next (enough (open_ s it.1 l)) (open_ s it.1 l):=by
  have hw:(open_ s it.1 l).words=s.words:=by rw[open_eq]
  have h2:enough (open_ s it.1 l)=enough s:=by rw[enough_eq,enough_eq,hw]
  have h1:=open_todo G e
  have h3:=G.fuel
  rw[h2]
  obtain⟨n,hn⟩:∃n,enough s=n+1:=⟨_,enough_eq s⟩
  have:next (n+1) s=next n (open_ s it.1 l):=by
    rw[next,e]
    dsimp only
    rw[if_neg Bool.false_ne_true]
  rw[hn,this]
  exact next_fuel n (n+1) (open_good G e) (by rw[hw];omega) (by rw[hw];omega)
theorem more_nil {s:Search} (e:s.ready=[]) (k:Nat):more k s=([],s):=by
  cases k with
  | zero=>rfl
  | succ k=>
    obtain⟨n,hn⟩:∃n,enough s=n+1:=⟨_,enough_eq s⟩
    rw[more,hn,next,e]
theorem more_word {s:Search} {it:Weighed} {l:List Ready} (e:s.ready=⟨true,it⟩::l) (k:Nat):more (k+1) s=(it::(more k {s with ready:=l}).1,(more k {s with ready:=l}).2):=by
  obtain⟨n,hn⟩:∃n,enough s=n+1:=⟨_,enough_eq s⟩
  rw[more,hn,next,e]
  dsimp only
  rw[if_pos rfl]
theorem more_open {s:Search} (G:Good s) {it:Weighed} {l:List Ready} (e:s.ready=⟨false,it⟩::l) (k:Nat):more (k+1) s=more (k+1) (open_ s it.1 l):=by
  have h:=next_open G e
  have G':=open_good G e
  obtain⟨r,hr⟩:=next_some _ G' G'.fuel (open_nonempty G e)
  rw[more,more,h,hr]
def rest (s:Search):Nat:=2 * todo s.words s.ready+(s.ready.filter (·.isWord)).length
theorem rest_word {s:Search} {it:Weighed} {l:List Ready} (e:s.ready=⟨true,it⟩::l):rest {s with ready:=l} < rest s:=by
  unfold rest
  rw[e]
  unfold todo
  simp[readyBelow,List.filter_cons]
theorem rest_open {s:Search} (G:Good s) {it:Weighed} {l:List Ready} (e:s.ready=⟨false,it⟩::l):rest (open_ s it.1 l) < rest s:=by
  have hw:(open_ s it.1 l).words=s.words:=by rw[open_eq]
  have h1:=open_todo G e
  unfold rest
  rw[hw]
  have h2:((open_ s it.1 l).ready.filter (·.isWord)).length≤(s.ready.filter (·.isWord)).length+1:=by
    rw[((open_perm s it.1 l).filter _).length_eq,List.filter_append,List.length_append,e]
    have h3:((fresh s.words it.1).filter (·.isWord)).length≤1:=by
      unfold fresh
      rw[List.filter_append,List.length_append]
      have h4:((kids s.words it.1).filter (·.isWord))=[]:=by
        rw[List.filter_eq_nil_iff]
        intro x hx
        obtain⟨a,_,rfl⟩:=kids_mem hx
        simp
      have h5:(wordHere s.words it.1).length≤1:=by
        unfold wordHere
        cases find_ s.words it.1 <;> simp
      have h6:=List.length_filter_le (fun x:Ready=>x.isWord) (wordHere s.words it.1)
      rw[h4]
      simp
      omega
    have h7:((⟨false,it⟩::l:List Ready).filter (·.isWord))=l.filter (·.isWord):=by
      rw[List.filter_cons,if_neg (by simp)]
    rw[h7]
    omega
  omega
end Ty
end
section
namespace TyP
open PySem PySem.Spec PyProof.Rows L2 TyR
section
variable {X:Cx}
inductive rEqTI (K:PySem.W.Frag) (x:V) (y:V) (H:Hp) (Q:VK):Prop
  | mk (a b:Addr) (ns ms:List Int) (h_0:x= .ref a) (h_1:y= .ref b) (h_2:SqT K H a (ns.map V.int)) (h_3:SqT K H b (ms.map V.int)) (h_4:Q (.bl (decide (ns=ms))) H):rEqTI K x y H Q
theorem op_eqTI (hu:X.A.units < cLine):OpR X (compareOp .Eq) (rEqTI X.K):=by
  intro pins s σ H x y v u Q I rx ry h
  obtain⟨a,b,ns,ms,rfl,rfl,ha,hb,q⟩:=h
  cases rx
  cases ry
  obtain⟨its,r1,⟨o,ho,hc,n,hd⟩,_⟩:=I.tuple ha
  obtain⟨its2,r2,⟨o2,ho2,hc2,n2,hd2⟩,_⟩:=I.tuple hb
  have hx:IsTupleKey (intKind X.prog X.w) s.heap ns a:=⟨o,its.toArray,n,ho,hc,hd,by simpa using TyR.IntsAre.itemsAre (intsAre_of r1)⟩
  have hy:IsTupleKey (intKind X.prog X.w) s.heap ms b:=⟨o2,its2.toArray,n2,ho2,hc2,hd2,by simpa using TyR.IntsAre.itemsAre (intsAre_of r2)⟩
  exact(wpAny_richCompare_same_room (op:= .Eq) hx.typeIs hy.typeIs F.slot_tuple_eq
    (wpAny_call_entry F.slot_tuple_eq hx.typeIs F.entry_tuple_eq (tuple_eq_tree hx hy ⟨_,rfl,(fun e=>nomatch e),⟨.bl _,H,I,rfl,q⟩⟩) (F.args_tuple_eq_2 _ _)) hu:
    wpAny (model X.prog X.w) X.A (richCompare .Eq (.ref a) (.ref b)) (EP X pins σ Q) X.xe s)
end
abbrev Word:=List Nat
def rowV (w:Word):List V:=w.map fun n=>V.int (n:Nat)
def keyW (w:Word):List Key:=w.map fun n=>Sum.inl ((n:Nat):Int)
def intsW (w:Word):List Int:=w.map fun n=>((n:Nat):Int)
theorem keyW_V (w:Word):(keyW w).map kV=rowV w:=by
  unfold keyW rowV
  rw[List.map_map]
  rfl
theorem rowV_ints (w:Word):rowV w=(intsW w).map V.int:=by
  unfold intsW rowV
  rw[List.map_map]
  rfl
theorem rowV_len (w:Word):(rowV w).length=w.length:=by unfold rowV;rw[List.length_map]
theorem map_inj' {α β:Type} {f:α->β} (hf:∀a b,f a=f b->a=b):∀{u v:List α},u.map f=v.map f->u=v
  | [],[],_=>rfl
  | [],_::_,h=>by simp at h
  | _::_,[],h=>by simp at h
  | a::u,b::v,h=>by
    rw[List.map_cons,List.map_cons]at h
    injection h with h1 h2
    rw[hf a b h1,map_inj' hf h2]
theorem intsW_inj {u v:Word}:intsW u=intsW v↔u=v:=by
  constructor
  · intro h
    exact map_inj' (fun a b e=>Int.ofNat.inj e) h
  · intro h;rw[h]
theorem keyW_inj {u v:Word}:keyW u=keyW v↔u=v:=by
  constructor
  · intro h
    exact map_inj' (fun a b e=>Int.ofNat.inj (Sum.inl.inj e)) h
  · intro h;rw[h]
abbrev WD:=List (Word×Nat)
def dictW (l:WD):List (List Key×V):=l.map fun p=>(keyW p.1,V.int (p.2:Nat))
def look (l:WD) (w:Word):Option Nat:=(l.find? fun p=>decide (p.1=w)).map (·.2)
def putW (l:WD) (w:Word) (n:Nat):WD:=if (l.any fun p=>decide (p.1=w))=true then l.map (fun p=>if p.1=w then(p.1,n)else p)else l++[(w,n)]
def dropW (l:WD) (w:Word):WD:=l.filter fun p=>decide (p.1≠w)
theorem dictW_len (l:WD):(dictW l).length=l.length:=by unfold dictW;rw[List.length_map]
theorem dictW_get {l:WD} {i:Nat} {w:Word} {n:Nat} (h:l[i]? =some (w,n)):(dictW l)[i]? =some (keyW w,V.int (n:Nat)):=by
  unfold dictW
  rw[List.getElem?_map,h]
  rfl
theorem dictW_get' {l:WD} {i:Nat} {k:List Key} {v:V} (h:(dictW l)[i]? =some (k,v)):∃w n,l[i]? =some (w,n)/\k=keyW w/\v=V.int (n:Nat):=by
  unfold dictW at h
  rw[List.getElem?_map]at h
  obtain⟨⟨w,n⟩,h1,h2⟩:=Option.map_eq_some_iff.mp h
  cases h2
  exact⟨w,n,h1,rfl,rfl⟩
theorem dec_key (u v:Word):decide (keyW u=keyW v)=decide (u=v):=by
  by_cases e:u=v
  · rw[decide_eq_true e,decide_eq_true (keyW_inj.mpr e)]
  · rw[decide_eq_false e,decide_eq_false (fun q=>e (keyW_inj.mp q))]
theorem valV_dict (l:WD) (w:Word):valV (dictW l) (keyW w)=(look l w).map fun n=>V.int (n:Nat):=by
  unfold valV dictW look
  induction l with
  | nil=>rfl
  | cons p l ih=>
    rw[List.map_cons,List.find?_cons,List.find?_cons]
    have e:=dec_key p.1 w
    cases q:decide (p.1=w)with
    | true=>
      rw[q]at e
      simp only[e]
      rfl
    | false=>
      rw[q]at e
      simp only[e]
      exact ih
theorem putK_dict (l:WD) (w:Word) (n:Nat):putK (dictW l) (keyW w) (V.int (n:Nat))=dictW (putW l w n):=by
  unfold putK putW
  have e:((dictW l).any fun kv=>decide (kv.1=keyW w))=(l.any fun p=>decide (p.1=w)):=by
    unfold dictW
    rw[List.any_map]
    congr 1
    funext p
    exact dec_key _ _
  rw[e]
  by_cases h:(l.any fun p=>decide (p.1=w))=true
  · rw[if_pos h,if_pos h]
    unfold dictW
    rw[List.map_map,List.map_map]
    congr 1
    funext p
    show(if keyW p.1=keyW w then(keyW p.1,V.int (n:Nat))else(keyW p.1,V.int (p.2:Nat)))=(keyW (if p.1=w then(p.1,n)else p).1,V.int ((if p.1=w then(p.1,n)else p).2:Nat))
    by_cases q:p.1=w
    · rw[if_pos q,if_pos (keyW_inj.mpr q)]
    · rw[if_neg q,if_neg (fun z=>q (keyW_inj.mp z))]
  · rw[if_neg h,if_neg h]
    unfold dictW
    rw[List.map_append]
    rfl
theorem dropK_dict (l:WD) (w:Word):dropK (dictW l) (keyW w)=dictW (dropW l w):=by
  unfold dropK dropW dictW
  rw[List.filter_map]
  congr 1
  refine List.filter_congr fun p _=> ?_
  show decide (keyW p.1≠keyW w)=decide (p.1≠w)
  by_cases e:p.1=w
  · rw[decide_eq_false (by simp[e]),decide_eq_false (by simp[e])]
  · rw[decide_eq_true (show keyW p.1≠keyW w from fun q=>e (keyW_inj.mp q)),decide_eq_true (show p.1≠w from e)]
theorem cut_row (w:Word) (n:Nat):cutV (rowV w) none (some (n:Int))=rowV (w.take n):=by
  unfold cutV
  rw[HT.sIx_none,HT.sIx_nat,rowV_len,List.drop_zero,Nat.sub_zero]
  unfold rowV
  rw[←List.map_take]
  congr 1
  by_cases h:n≤w.length
  · rw[Nat.min_eq_left h]
  · rw[Nat.min_eq_right (by omega),List.take_length,List.take_of_length_le (by omega)]
end TyP
namespace TyP
open PySem PySem.Spec PyProof.Rows L2 TyR
theorem Same.new {H:Hp} {p:Addr} {o:HO} (h:H p=none):Same H (upd H p o):=fun b u e=>by
  rw[upd_ne (ne_of_none e h)]
  exact e
section
variable {X:Cx}
inductive rSlT4 (x:V) (lo:Option Int) (hi:Option Int) (H:Hp) (Q:VK):Prop
  | mk a xs (h_0:x= .ref a) (h_1:H a=some (.tup xs)) (h_2:∀t H',Same H H'->H' t=some (.tup (cutV xs lo hi))->Q (.ref t) H'):rSlT4 x lo hi H Q
theorem cutV_whole {xs:List V} {lo hi:Option Int} (h:HT.sIx xs.length 0 lo=0/\HT.sIx xs.length xs.length hi=xs.length):cutV xs lo hi=xs:=by
  unfold cutV
  rw[h.1,h.2,Nat.sub_zero,List.drop_zero,List.take_length]
theorem sl_tup4:SlR X rSlT4:=by
  intro pins s σ H x v vl vu lo hi sl Q I rx hs pl pu h
  obtain⟨a,xs,rfl,hx,q⟩:=h
  exact sl_tup2 pins s σ H _ v vl vu lo hi sl Q I rx hs pl pu ⟨a,xs,rfl,SqT.of hx,fun hw=>q a H (Same.refl _) (by rw[cutV_whole hw];exact hx),fun _ p hp=>q p _ (Same.new hp) upd_same⟩
inductive rCatT4 (x:V) (y:V) (H:Hp) (Q:VK):Prop
  | mk a b xs ys (h_0:x= .ref a) (h_1:y= .ref b) (h_2:H a=some (.tup xs)) (h_3:H b=some (.tup ys)) (h_4:ys≠[]) (h_5:xs.length+ys.length≤sizeLine) (h_6:∀t H',Same H H'->H' t=some (.tup (xs++ys))->Q (.ref t) H'):rCatT4 x y H Q
theorem op_catT4:OpR X (binaryOp .Add) rCatT4:=by
  intro pins s σ H x y v u Q I rx ry h
  obtain⟨a,b,xs,ys,rfl,rfl,ha,hb,hy,hz,q⟩:=h
  exact op_catT2 pins s σ H _ _ v u Q I rx ry ⟨a,b,xs,ys,rfl,rfl,SqT.of ha,SqT.of hb,hy,hz,fun hx=>q b H (Same.refl _) (by rw[hx];exact hb),fun _ p hp=>q p _ (Same.new hp) upd_same⟩
end
end TyP
end
section
namespace TyP
open PySem PySem.Spec PyProof.Rows L2 TyR
def top (i:Nat):Stmt:=PySem.Challenge.pw_typedaheaddesk_s01_answers.main.body.getD i (.Pass ⟨0,0,0,0⟩)
abbrev sWtb:Stmt:=top 2
structure Blt (mg:Str->Option Value):Prop where
  len:mg "len"=none
  range:mg "range"=none
  max:mg "max"=none
  min:mg "min"=none
  sum:mg "sum"=none
  all:mg "all"=none
  tuple:mg "tuple"=none
  list:mg "list"=none
theorem take_snoc {α:Type}:∀{l:List α} {i:Nat} {x:α},l[i]? =some x->l.take (i+1)=l.take i++[x]
  | [],i,x,h=>by simp at h
  | a::l,0,x,h=>by
    have e:a=x:=Option.some.inj h
    subst e
    rfl
  | a::l,i+1,x,h=>by
    have ih:=take_snoc (l:=l) (i:=i) (x:=x) h
    show a::l.take (i+1)=a::l.take i++[x]
    rw[ih]
    rfl
theorem putW_new {l:WD} {w:Word} {n:Nat} (h:w ∉ l.map (·.1)):putW l w n=l++[(w,n)]:=by
  unfold putW
  rw[if_neg]
  intro q
  obtain⟨p,hp,e⟩:=List.any_eq_true.mp q
  exact h (List.mem_map.mpr ⟨p,hp,of_decide_eq_true e⟩)
theorem not_in_take {l:WD} {i:Nat} {w:Word} {n:Nat} (hn:(l.map (·.1)).Nodup) (h:l[i]? =some (w,n)):w ∉ (l.take i).map (·.1):=by
  intro q
  obtain⟨p,hp,e⟩:=List.mem_map.mp q
  obtain⟨j,hj,ej⟩:=List.getElem_of_mem hp
  rw[List.length_take]at hj
  have e1:(l.map (·.1))[j]? =some w:=by
    rw[List.getElem?_map,List.getElem?_eq_getElem (by omega)]
    rw[List.getElem_take]at ej
    rw[ej]
    simp[e]
  have e2:(l.map (·.1))[i]? =some w:=by rw[List.getElem?_map,h];rfl
  have:=nd_ix hn e1 e2
  omega
def wtb (l:WD) (p:Word):WD:=l.filter fun q=>Rh04.begins p q.1
inductive spWtb (vs:List V) (H:Hp) (Q:VK) (xk_:XK):Prop
  | mk (a b:Addr) (l:WD) (p:Word) (h_0:vs=[.ref a,.ref b]) (h_1:H a=some (.dT (dictW l))) (h_2:H b=some (.tup (rowV p))) (h_3:(l.map (·.1)).Nodup) (h_4:l.length≤1000) (h_5:(∀q∈l,q.1.length≤1000)) (h_6:p.length≤1000) (h_7:∀(H':Hp) (c:Addr),Same H H'->H c=none->H' c=some (.dT (dictW (wtb l p)))->Q (.ref c) H'):spWtb vs H Q xk_
section
variable {P:Program} {w:World} {K:PySem.W.Frag} {mg:Str->Option Value} {base:Heap}
theorem scWtb:FnScope ["weights","typed","chosen","word","weight"] ["weights","typed"] (defScope sWtb):=⟨rfl,rfl,rfl,by decide +kernel,rfl,by decide +kernel,by decide +kernel⟩
theorem ok_wtb {f:Addr} {fd:FuncData} (F:Fun K "words_that_begin" "words_that_begin" sWtb f fd) (B:Blt mg):FnOk P w K mg base CX0 1 f fd ["weights","typed"] spWtb:=by
  refine F.ok scWtb (fun vs H Q E h=> ?_) (fun cdv A outer s H vs Q E hr h=> ?_)
  · obtain⟨a,b,l,p,rfl,_⟩:=h
    rfl
  · obtain⟨a,b,l,p,rfl,ha,hb,hn,hl,hls,hp,k⟩:=h
    have hu:=hu_of hr
    have nd:=scWtb.nd
    refine⟨_,pss_cons (ps_set (i:=2) nd rfl (Or.inl rfl) pe_dnewT)
      (pss_cons (ps_lock (ps_for PassesOwn.never rfl (pi_itemsT (pv 0)) (pg_tup rfl (pgs_cons (pg_name (i:=3) nd rfl (Or.inl rfl)) (pgs_cons (pg_name (i:=4) nd rfl (Or.inl rfl)) pgs_nil)))
        (pss_one (ps_if (pt_cmpR (op_eqTI (Nat.lt_of_succ_lt hu)) (pe_slice sl_tup4 (pv 3) po_none (po_some (pe_callB call_len_seq (by rfl) B.len PySem.boot_len (pa_cons (pv 1) pa_nil)))) (pv 1) (nomark _))
          (pss_one (ps_dput hu (pv 2) (pv 3) (pv 4) rfl)) pss_nil))))
      (pss_one (ps_ret (pv 2)))),?_⟩
    intro c hc
    have nca:a≠c:=ne_of_none ha hc
    have ncb:b≠c:=ne_of_none hb hc
    have nab:b≠a:=ne_of hb ha (by intro z;cases z)
    refine⟨a,.dT (dictW l),(by rw[upd_ne nca];exact ha),True.intro,fun od=>⟨_,rfl,a,od,dictW l,rfl,upd_same,for_itemsT (fun i σ H'=>∃v3 v4:Option V,σ=[some (.ref a),some (.ref b),some (.ref c),v3,v4]/\
      H' a=some (.frz od (.dT (dictW l)))/\H' c=some (.dT (dictW (wtb (l.take i) p)))/\∀x o,H x=some o->x≠a->H' x=some o) ⟨none,none,rfl,upd_same,?_,fun x o e hx=> ?_⟩ (fun i σ H' _ ⟨_,_,_,h1,_⟩=>h1) ?_ ?_⟩⟩
    · rw[upd_ne (Ne.symm nca),upd_same]
      rfl
    · rw[upd_ne hx,upd_ne (ne_of_none e hc)]
      exact e
    · rintro i kk v q T σ H' hkv ⟨v3,v4,rfl,h1,h2,h3⟩ hq hT
      obtain⟨w',n,hi,rfl,rfl⟩:=dictW_get' hkv
      rw[keyW_V]at hq
      have hTq:q≠T:=ne_of_none hq hT
      have hTa:a≠T:=ne_of_none h1 hT
      have hTb:b≠T:=ne_of_none (h3 _ _ hb nab) hT
      have hTc:c≠T:=ne_of_none h2 hT
      have hcT:∀x o,H x=some o->x≠a->x≠T:=fun x o e hx=>ne_of_none (h3 x o e hx) hT
      refine⟨T,_,rfl,SqT.of upd_same,rfl,_,_,rfl,_,_,rfl,rfl,?_⟩
      refine⟨_,rfl,_,rfl,b,rowV p,rfl,.inr (SqT.of (by rw[upd_ne hTb];exact h3 _ _ hb nab)),_,rfl,q,rowV w',rfl,(by rw[upd_ne hTq];exact hq),fun t H4 sm ht=> ?_⟩
      rw[rowV_len,cut_row]at ht
      refine⟨_,rfl,t,b,intsW (w'.take p.length),intsW p,rfl,rfl,?_,?_,?_⟩
      · rw[←rowV_ints];exact SqT.of ht
      · rw[←rowV_ints];exact SqT.of (sm _ _ (by rw[upd_ne hTb];exact h3 _ _ hb nab))
      have st:∀x o,H x=some o->x≠a->H4 x=some o:=fun x o e hx=>sm x o (by rw[upd_ne (hcT x o e hx)];exact h3 x o e hx)
      have hc4:H4 c=some (.dT (dictW (wtb (l.take i) p))):=sm c _ (by rw[upd_ne hTc];exact h2)
      have ha4:H4 a=some (.frz od (.dT (dictW l))):=sm a _ (by rw[upd_ne hTa];exact h1)
      have hq4:H4 q=some (.tup ((keyW w').map kV)):=by rw[keyW_V];exact sm q _ (by rw[upd_ne hTq];exact hq)
      have ew:wtb (l.take (i+1)) p=if Rh04.begins p w'=true then wtb (l.take i) p++[(w',n)]else wtb (l.take i) p:=by
        unfold wtb
        rw[take_snoc hi,List.filter_append,List.filter_cons,List.filter_nil]
        by_cases hb':Rh04.begins p w'=true
        · rw[if_pos hb',if_pos hb']
        · rw[if_neg hb',if_neg hb',List.append_nil]
      refine⟨_,rfl,ite2 (fun hd=> ?_) (fun hd=> ?_)⟩
      · have hbg:Rh04.begins p w'=true:=(Ty.begins_take p w').mpr (intsW_inj.mp (of_decide_eq_true hd))
        rw[if_pos hbg]at ew
        have hlen:(dictW (wtb (l.take i) p)).length < sizeLine:=by
          rw[dictW_len]
          refine small1000 (Nat.le_trans (List.length_filter_le _ _) ?_)
          rw[List.length_take]
          exact Nat.le_trans (Nat.min_le_right _ _) hl
        refine⟨_,rfl,_,rfl,_,rfl,c,_,rfl,DPut.t (k:=keyW w') hc4 hq4 hlen,?_⟩
        have hnew:w' ∉ (wtb (l.take i) p).map (·.1):=fun z=>not_in_take hn hi (by
          obtain⟨x,hx,e⟩:=List.mem_map.mp z
          exact List.mem_map.mpr ⟨x,(List.mem_filter.mp hx).1,e⟩)
        rw[putK_dict,putW_new hnew,←ew]
        exact⟨_,_,rfl,by rw[upd_ne nca];exact ha4,upd_same,fun x o e hx=>by rw[upd_ne (ne_of_none e hc)];exact st x o e hx⟩
      · have hbg:¬Rh04.begins p w'=true:=fun z=>hd (decide_eq_true (intsW_inj.mpr ((Ty.begins_take p w').mp z)))
        rw[if_neg hbg]at ew
        exact⟨_,_,rfl,ha4,by rw[ew];exact hc4,st⟩
    · rintro σ H' ⟨v3,v4,rfl,h1,h2,h3⟩
      refine⟨h1,_,rfl,k _ c (fun x o e=> ?_) hc ?_⟩
      · by_cases hx:x=a
        · subst hx
          rw[ha]at e
          cases e
          exact upd_same
        · rw[upd_ne hx]
          exact h3 x o e hx
      · rw[upd_ne (Ne.symm nca),h2,dictW_len,List.take_length]
end
end TyP
end
section
namespace TyP
open PySem PySem.Spec PyProof.Rows L2 TyR
abbrev sHvy:Stmt:=top 5
def bump (acc:WD) (r:Word) (n:Nat):WD:=putW acc r (max n ((look acc r).getD 0))
def bumps (acc:WD) (w:Word) (n:Nat) (p j:Nat):WD:=(List.range j).foldl (fun acc i=>bump acc (w.take (p+i)) n) acc
def heavy (l:WD) (p:Nat):WD:=l.foldl (fun acc q=>bumps acc q.1 q.2 p (q.1.length+1 - p)) []
theorem bumps_succ (acc:WD) (w:Word) (n p j:Nat):bumps acc w n p (j+1)=bump (bumps acc w n p j) (w.take (p+j)) n:=by
  unfold bumps
  rw[List.range_succ,List.foldl_append]
  rfl
theorem heavy_snoc (l:WD) (p:Nat) (q:Word×Nat):heavy (l++[q]) p=bumps (heavy l p) q.1 q.2 p (q.1.length+1 - p):=by
  unfold heavy
  rw[List.foldl_append]
  rfl
theorem putW_len (l:WD) (w:Word) (n:Nat):(putW l w n).length≤l.length+1:=by
  unfold putW
  split
  · rw[List.length_map];omega
  · rw[List.length_append,List.length_singleton];omega
theorem bumps_len (acc:WD) (w:Word) (n p:Nat):∀j,(bumps acc w n p j).length≤acc.length+j
  | 0=>by simp[bumps]
  | j+1=>by
    rw[bumps_succ]
    have:=bumps_len acc w n p j
    have:=putW_len (bumps acc w n p j) (w.take (p+j)) (max n ((look (bumps acc w n p j) (w.take (p+j))).getD 0))
    unfold bump
    omega
theorem heavy_len {l:WD} (p:Nat) (hl:∀q∈l,q.1.length≤100):∀i,(heavy (l.take i) p).length≤101 * i
  | 0=>by simp[heavy]
  | i+1=>by
    have ih:=heavy_len p hl i
    by_cases h:i < l.length
    · rw[take_snoc (List.getElem?_eq_getElem h),heavy_snoc]
      have:=bumps_len (heavy (l.take i) p) l[i].1 l[i].2 p (l[i].1.length+1 - p)
      have:=hl _ (List.getElem_mem h)
      omega
    · rw[List.take_of_length_le (by omega)]
      rw[List.take_of_length_le (by omega)]at ih
      omega
theorem small20k {n:Nat} (h:n≤20000):n < sizeLine:=by rw[sizeLine_eq];omega
theorem boot_max':bootBuiltins "max"=some (.builtin "max"):=by decide +kernel
theorem getD_dict (acc:WD) (r:Word):(valV (dictW acc) (keyW r)).getD (V.int 0)=V.int (((look acc r).getD 0:Nat):Int):=by
  rw[valV_dict]
  cases look acc r <;> rfl
theorem max_int (n m:Nat):(if ((m:Nat):Int) > ((n:Nat):Int)then((m:Nat):Int)else((n:Nat):Int))=((max n m:Nat):Int):=by
  split <;> omega
inductive spHvy (vs:List V) (H:Hp) (Q:VK) (xk_:XK):Prop
  | mk (a b:Addr) (l:WD) (p:Word) (h_0:vs=[.ref a,.ref b]) (h_1:H a=some (.dT (dictW l))) (h_2:H b=some (.tup (rowV p))) (h_3:l.length≤100) (h_4:(∀q∈l,q.1.length≤100)) (h_5:p.length≤100) (h_6:∀(H':Hp) (c:Addr),Same H H'->H c=none->H' c=some (.dT (dictW (heavy l p.length)))->Q (.ref c) H'):spHvy vs H Q xk_
section
variable {P:Program} {w:World} {K:PySem.W.Frag} {mg:Str->Option Value} {base:Heap}
theorem scHvy:FnScope ["weights","typed","heaviest","word","weight","size","beginning"] ["weights","typed"] (defScope sHvy):=⟨rfl,rfl,rfl,by decide +kernel,rfl,by decide +kernel,by decide +kernel⟩
theorem ok_hvy {f:Addr} {fd:FuncData} (F:Fun K "heaviest_words" "heaviest_words" sHvy f fd) (B:Blt mg):FnOk P w K mg base CX0 1 f fd ["weights","typed"] spHvy:=by
  refine F.ok scHvy (fun vs H Q E h=> ?_) (fun cdv A outer s H vs Q E hr h=> ?_)
  · obtain⟨a,b,l,p,rfl,_⟩:=h
    rfl
  · obtain⟨a,b,l,p,rfl,ha,hb,hl,hls,hp,k⟩:=h
    have hu:=hu_of hr
    have nd:=scHvy.nd
    refine⟨_,pss_cons (ps_set (i:=2) nd rfl (Or.inl rfl) pe_dnewT)
      (pss_cons (ps_lock (ps_for PassesOwn.never rfl (pi_itemsT (pv 0)) (pg_tup rfl (pgs_cons (pg_name (i:=3) nd rfl (Or.inl rfl)) (pgs_cons (pg_name (i:=4) nd rfl (Or.inl rfl)) pgs_nil)))
        (pss_one (ps_for PassesOwn.never rfl (pi_range2 rfl B.range (pa_cons (pe_callB call_len_seq (by rfl) B.len PySem.boot_len (pa_cons (pv 1) pa_nil)) (pa_cons (pe_op op_add (pe_callB call_len_seq (by rfl) B.len PySem.boot_len (pa_cons (pv 3) pa_nil)) pe_int) pa_nil)))
          (pg_name (i:=5) nd rfl (Or.inl rfl))
          (pss_cons (ps_set (i:=6) nd rfl (Or.inl rfl) (pe_slice sl_tup4 (pv 3) po_none (po_some (pv 5))))
          (pss_one (ps_dput hu (pv 2) (pv 6) (pe_callB (call_max2 rfl) (by rfl) B.max boot_max' (pa_cons (pv 4) (pa_cons (pe_dget2 hu (pv 2) (pv 6) pe_int ⟨rfl,rfl,rfl,rfl⟩) pa_nil))) rfl)))))))
      (pss_one (ps_ret (pv 2)))),?_⟩
    intro c hc
    have nca:a≠c:=ne_of_none ha hc
    have nab:b≠a:=ne_of hb ha (by intro z;cases z)
    refine⟨a,.dT (dictW l),(by rw[upd_ne nca];exact ha),True.intro,fun od=>⟨_,rfl,a,od,dictW l,rfl,upd_same,for_itemsT (fun i σ H'=>∃v3 v4 v5 v6:Option V,σ=[some (.ref a),some (.ref b),some (.ref c),v3,v4,v5,v6]/\
      H' a=some (.frz od (.dT (dictW l)))/\H' c=some (.dT (dictW (heavy (l.take i) p.length)))/\∀x o,H x=some o->x≠a->H' x=some o) ⟨none,none,none,none,rfl,upd_same,?_,fun x o e hx=> ?_⟩ (fun i σ H' _ ⟨_,_,_,_,_,h1,_⟩=>h1) ?_ ?_⟩⟩
    · rw[upd_ne (Ne.symm nca),upd_same]
      rfl
    · rw[upd_ne hx,upd_ne (ne_of_none e hc)]
      exact e
    · rintro i kk v q T σ H' hkv ⟨v3,v4,v5,v6,rfl,h1,h2,h3⟩ hq hT
      obtain⟨w',n,hi,rfl,rfl⟩:=dictW_get' hkv
      rw[keyW_V]at hq
      have hTq:q≠T:=ne_of_none hq hT
      have hTa:a≠T:=ne_of_none h1 hT
      have hTb:b≠T:=ne_of_none (h3 _ _ hb nab) hT
      have hTc:c≠T:=ne_of_none h2 hT
      have nqc:q≠c:=ne_of hq h2 (by intro z;cases z)
      have hcT:∀x o,H x=some o->x≠a->x≠T:=fun x o e hx=>ne_of_none (h3 x o e hx) hT
      have hwl:w'.length≤100:=hls _ (List.mem_of_getElem? hi)
      refine⟨T,_,rfl,SqT.of upd_same,rfl,_,_,rfl,_,_,rfl,rfl,?_⟩
      refine⟨_,rfl,b,rowV p,rfl,.inr (SqT.of (by rw[upd_ne hTb];exact h3 _ _ hb nab)),_,rfl,q,rowV w',rfl,.inr (SqT.of (by rw[upd_ne hTq];exact hq)),_,_,rfl,rfl,_,_,rfl,?_,?_⟩
      · rw[rowV_len,rowV_len]
        refine⟨?_,?_,?_,?_⟩ <;> omega
      have en:(((rowV w').length:Int)+1 - ((rowV p).length:Int)).toNat=w'.length+1 - p.length:=by rw[rowV_len,rowV_len];omega
      rw[en]
      refine for_range (fun j σ H''=>∃v5 v6:Option V,σ=[some (.ref a),some (.ref b),some (.ref c),some (.ref q),some (.int (n:Nat)),v5,v6]/\H'' a=some (.frz od (.dT (dictW l)))/\H'' q=some (.tup (rowV w'))/\
        H'' c=some (.dT (dictW (bumps (heavy (l.take i) p.length) w' n p.length j)))/\∀x o,H x=some o->x≠a->H'' x=some o) ⟨v5,v6,rfl,?_,?_,?_,fun x o e hx=> ?_⟩ ?_ ?_
      · rw[upd_ne hTa];exact h1
      · rw[upd_ne hTq];exact hq
      · rw[upd_ne hTc];exact h2
      · rw[upd_ne (hcT x o e hx)];exact h3 x o e hx
      · rintro j σ H2 hj ⟨u5,u6,rfl,g1,gq,g2,g3⟩
        have e1:(((rowV p).length:Nat):Int)+(j:Int)=((p.length+j:Nat):Int):=by rw[rowV_len];omega
        refine⟨_,rfl,_,rfl,_,rfl,q,rowV w',rfl,gq,fun t H4 sm ht=> ?_⟩
        rw[e1,cut_row]at ht
        have ht':H4 t=some (.tup ((keyW (w'.take (p.length+j))).map kV)):=by rw[keyW_V];exact ht
        have gc4:=sm c _ g2
        have ga4:=sm a _ g1
        have gq4:=sm q _ gq
        have hlen:(dictW (bumps (heavy (l.take i) p.length) w' n p.length j)).length < sizeLine:=by
          rw[dictW_len]
          have l1:=bumps_len (heavy (l.take i) p.length) w' n p.length j
          have l2:=heavy_len (l:=l) p.length hls i
          have l3:i < l.length:=(List.getElem?_eq_some_iff.mp hi).1
          exact small20k (by omega)
        refine⟨_,rfl,_,rfl,c,rfl,.inr ⟨_,.inl gc4⟩,_,rfl,_,DGet.t (k:=keyW (w'.take (p.length+j))) gc4 ht',?_⟩
        rw[getD_dict]
        refine⟨_,_,rfl,_,rfl,_,rfl,c,_,rfl,DPut.t (k:=keyW (w'.take (p.length+j))) gc4 ht' hlen,?_⟩
        rw[max_int,putK_dict]
        refine⟨_,_,rfl,by rw[upd_ne nca];exact ga4,by rw[upd_ne nqc];exact gq4,?_,fun x o e hx=>by rw[upd_ne (ne_of_none e hc)];exact sm x o (g3 x o e hx)⟩
        rw[bumps_succ]
        exact upd_same
      · rintro σ H2 ⟨u5,u6,rfl,g1,gq,g2,g3⟩
        refine⟨_,_,_,_,rfl,g1,?_,g3⟩
        rw[take_snoc hi,heavy_snoc]
        exact g2
    · rintro σ H' ⟨v3,v4,v5,v6,rfl,h1,h2,h3⟩
      refine⟨h1,_,rfl,k _ c (fun x o e=> ?_) hc ?_⟩
      · by_cases hx:x=a
        · subst hx
          rw[ha]at e
          cases e
          exact upd_same
        · rw[upd_ne hx]
          exact h3 x o e hx
      · rw[upd_ne (Ne.symm nca),h2,dictW_len,List.take_length]
end
end TyP
end
section
namespace TyP
open PySem PySem.Spec PyProof.Rows L2 TyR
open Rh04 (Ready)
abbrev sEInit:Stmt:=inClass (top 6) 0
abbrev sPio:Stmt:=top 7
abbrev sSInit:Stmt:=inClass (top 8) 0
abbrev sLay:Stmt:=inClass (top 8) 1
abbrev sOpen:Stmt:=inClass (top 8) 2
abbrev sTake:Stmt:=inClass (top 8) 3
abbrev sTell:Stmt:=inClass (top 8) 4
def ef (n:Nat) (q:Addr) (b:Bool):List (Str×V):=putF "as_word" (.bl b) (putF "row" (.ref q) (putF "weight" (.int (n:Nat)) []))
theorem ef_weight (n:Nat) (q:Addr) (b:Bool):(ef n q b).lookup ("weight":Str)=some (.int (n:Nat)):=by
  unfold ef
  rw[lookup_putF,if_neg (by decide +kernel),lookup_putF,if_neg (by decide +kernel),lookup_putF,if_pos rfl]
theorem ef_row (n:Nat) (q:Addr) (b:Bool):(ef n q b).lookup ("row":Str)=some (.ref q):=by
  unfold ef
  rw[lookup_putF,if_neg (by decide +kernel),lookup_putF,if_pos rfl]
theorem ef_word (n:Nat) (q:Addr) (b:Bool):(ef n q b).lookup ("as_word":Str)=some (.bl b):=by
  unfold ef
  rw[lookup_putF,if_pos rfl]
structure ETxt (K:PySem.W.Frag) (E:Addr):Prop where
  cl:Cls K E
  nw:NoAttr K E "weight"
  nr:NoAttr K E "row"
  na:NoAttr K E "as_word"
  ne:NoEq K E
def EntryAt (E:Addr) (H:Hp) (a:Addr) (r:Ready):Prop:=∃dx q,H a=some (.ins E dx (ef r.it.2 q r.isWord))/\H q=some (.tup (rowV r.it.1))
theorem EntryAt.keep {E:Addr} {H H':Hp} {a:Addr} {r:Ready} {z:Addr} {xs:List V} (h:EntryAt E H a r) (hz:H z=some (.lst xs)) (k:∀x o,H x=some o->x≠z->H' x=some o):EntryAt E H' a r:=by
  obtain⟨dx,q,h1,h2⟩:=h
  exact⟨dx,q,k _ _ h1 (ne_of h1 hz (by intro e;cases e)),k _ _ h2 (ne_of h2 hz (by intro e;cases e))⟩
inductive spEInit (E:Addr) (vs:List V) (H:Hp) (Q:VK) (xk_:XK):Prop
  | mk (p dx q:Addr) (n:Nat) (b:Bool) (h_0:vs=[.ref p,.int (n:Nat),.ref q,.bl b]) (h_1:H p=some (.ins E dx [])) (h_2:∀H':Hp,H' p=some (.ins E dx (ef n q b))->(∀x o,H x=some o->x≠p->H' x=some o)->Q .non H'):spEInit E vs H Q xk_
inductive spPio (E:Addr) (vs:List V) (H:Hp) (Q:VK) (xk_:XK):Prop
  | mk (a dx q:Addr) (n:Nat) (b:Bool) (h_0:vs=[.ref a]) (h_1:H a=some (.ins E dx (ef n q b))) (h_2:∀(H':Hp) (t:Addr),Same H H'->H' t=some (.tup [.int (-((n:Nat):Int)),.ref q])->Q (.ref t) H'):spPio E vs H Q xk_
section
variable {P:Program} {w:World} {K:PySem.W.Frag} {mg:Str->Option Value} {base:Heap}
theorem scEInit:FnScope ["self","weight","row","as_word"] ["self","weight","row","as_word"] (defScope sEInit):=⟨rfl,rfl,rfl,by decide +kernel,rfl,by decide +kernel,by decide +kernel⟩
theorem ok_einit {f E:Addr} {fd:FuncData} (F:Fun K "__init__" "Entry.__init__" sEInit f fd) (T:ETxt K E):FnOk P w K mg base CX0 1 f fd ["self","weight","row","as_word"] (spEInit E):=by
  refine F.ok scEInit (fun vs H Q E h=> ?_) (fun cdv A outer s H vs Q E hr h=> ?_)
  · obtain⟨p,dx,q,n,b,rfl,_⟩:=h
    rfl
  · obtain⟨p,dx,q,n,b,rfl,hp,k⟩:=h
    refine⟨_,pss_cons (ps_fld (pv 0) (pv 1) rfl) (pss_cons (ps_fld (pv 0) (pv 2) rfl) (pss_one (ps_fld (pv 0) (pv 3) rfl))),?_⟩
    refine⟨_,rfl,_,rfl,p,_,dx,[],rfl,hp,T.cl,T.nw,(by show 0 < 1000;decide),?_⟩
    refine⟨_,rfl,_,rfl,p,_,dx,_,rfl,upd_same,T.cl,T.nr,Nat.lt_of_le_of_lt (length_putF _ _ _) (by show 1 < 1000;decide),?_⟩
    refine⟨_,rfl,_,rfl,p,_,dx,_,rfl,upd_same,T.cl,T.na,Nat.lt_of_le_of_lt (length_putF _ _ _) (Nat.lt_of_le_of_lt (Nat.succ_le_succ (length_putF _ _ _)) (by show 2 < 1000;decide)),?_⟩
    exact k _ upd_same fun x o e hx=>by rw[upd_ne hx,upd_ne hx,upd_ne hx];exact e
theorem scPio:FnScope ["entry"] ["entry"] (defScope sPio):=⟨rfl,rfl,rfl,by decide +kernel,rfl,by decide +kernel,by decide +kernel⟩
theorem ok_pio {f E:Addr} {fd:FuncData} (F:Fun K "place_in_order" "place_in_order" sPio f fd) (T:ETxt K E):FnOk P w K mg base CX0 1 f fd ["entry"] (spPio E):=by
  refine F.ok scPio (fun vs H Q E h=> ?_) (fun cdv A outer s H vs Q E hr h=> ?_)
  · obtain⟨a,dx,q,n,b,rfl,_⟩:=h
    rfl
  · obtain⟨a,dx,q,n,b,rfl,ha,k⟩:=h
    refine⟨_,pss_one (ps_ret (pe_tup (pa_cons (pe_un un_neg (pe_fld (pv 0) rfl)) (pa_cons (pe_fld (pv 0) rfl) pa_nil)))),?_⟩
    refine⟨_,rfl,a,_,dx,_,_,rfl,ha,T.cl,T.nw,ef_weight _ _ _,_,rfl,_,rfl,a,_,dx,_,_,rfl,ha,T.cl,T.nr,ef_row _ _ _,(by show 2≤sizeLine;decide),fun t ht=> ?_⟩
    exact k _ t (Same.new ht) upd_same
end
end TyP
end
section
namespace TyP
open PySem PySem.Spec PyProof.Rows L2 TyR
open Rh04 (Ready)
def sf (wd hd rd:Addr) (n:Nat):List (Str×V):=putF "opened" (.int (n:Nat)) (putF "ready" (.ref rd) (putF "heaviest" (.ref hd) (putF "weight_of" (.ref wd) [])))
theorem sf_weight (wd hd rd:Addr) (n:Nat):(sf wd hd rd n).lookup ("weight_of":Str)=some (.ref wd):=by
  unfold sf
  rw[lookup_putF,if_neg (by decide +kernel),lookup_putF,if_neg (by decide +kernel),lookup_putF,if_neg (by decide +kernel),lookup_putF,if_pos rfl]
theorem sf_heavy (wd hd rd:Addr) (n:Nat):(sf wd hd rd n).lookup ("heaviest":Str)=some (.ref hd):=by
  unfold sf
  rw[lookup_putF,if_neg (by decide +kernel),lookup_putF,if_neg (by decide +kernel),lookup_putF,if_pos rfl]
theorem sf_ready (wd hd rd:Addr) (n:Nat):(sf wd hd rd n).lookup ("ready":Str)=some (.ref rd):=by
  unfold sf
  rw[lookup_putF,if_neg (by decide +kernel),lookup_putF,if_pos rfl]
theorem sf_opened (wd hd rd:Addr) (n:Nat):(sf wd hd rd n).lookup ("opened":Str)=some (.int (n:Nat)):=by
  unfold sf
  rw[lookup_putF,if_pos rfl]
theorem sf_no (wd hd rd:Addr) (n:Nat) {m:Str} (h1:¬m="opened") (h2:¬m="ready") (h3:¬m="heaviest") (h4:¬m="weight_of"):(sf wd hd rd n).lookup m=none:=by
  unfold sf
  rw[lookup_putF,if_neg h1,lookup_putF,if_neg h2,lookup_putF,if_neg h3,lookup_putF,if_neg h4]
  rfl
theorem sf_len (wd hd rd:Addr) (n:Nat):(sf wd hd rd n).length < 1000:=by
  unfold sf
  have h1:=length_putF "weight_of" (.ref wd) []
  have h2:=length_putF "heaviest" (.ref hd) (putF "weight_of" (.ref wd) [])
  have h3:=length_putF "ready" (.ref rd) (putF "heaviest" (.ref hd) (putF "weight_of" (.ref wd) []))
  have h4:=length_putF "opened" (.int (n:Nat)) (putF "ready" (.ref rd) (putF "heaviest" (.ref hd) (putF "weight_of" (.ref wd) [])))
  have h0:([]:List (Str×V)).length=0:=rfl
  omega
theorem putF_again (f:Str) (v u:V):∀l:List (Str×V),putF f v (putF f u l)=putF f v l
  | []=>by
    show putF f v [(f,u)]=[(f,v)]
    show(if f=f then [(f,v)]else _)=_
    rw[if_pos rfl]
  | (g,x)::l=>by
    by_cases h:g=f
    · have e:putF f u ((g,x)::l)=(g,u)::l:=by show(if g=f then _ else _)=_;rw[if_pos h]
      have e2:putF f v ((g,x)::l)=(g,v)::l:=by show(if g=f then _ else _)=_;rw[if_pos h]
      have e3:putF f v ((g,u)::l)=(g,v)::l:=by show(if g=f then _ else _)=_;rw[if_pos h]
      rw[e,e2,e3]
    · have e:putF f u ((g,x)::l)=(g,x)::putF f u l:=by show(if g=f then _ else _)=_;rw[if_neg h]
      have e2:putF f v ((g,x)::l)=(g,x)::putF f v l:=by show(if g=f then _ else _)=_;rw[if_neg h]
      have e3:putF f v ((g,x)::putF f u l)=(g,x)::putF f v (putF f u l):=by show(if g=f then _ else _)=_;rw[if_neg h]
      rw[e,e2,e3,putF_again f v u l]
structure STxt (K:PySem.W.Frag) (mg:Str->Option Value) (S E:Addr):Prop where
  e:ETxt K E
  cl:Cls K S
  nw:NoAttr K S "weight_of"
  nh:NoAttr K S "heaviest"
  nr:NoAttr K S "ready"
  no:NoAttr K S "opened"
  mgE:mg "Entry"=some (.ref E)
  mgL:∃t,mg "LAST_LETTER"=some (.int 26 t)
  b:Blt mg
structure ReadyAt (E:Addr) (H:Hp) (rd:Addr) (as:List Addr) (rs:List Ready):Prop where
  lst:H rd=some (.lst (as.map V.ref))
  nd:as.Nodup
  at_:Paired (EntryAt E H) as rs
def layOf (hv:WD) (r:Word):List Ready:=match look hv r with
  | some n=>[⟨false,(r,n)⟩]
  | none=>[]
inductive spLay (S E:Addr) (vs:List V) (H:Hp) (Q:VK) (xk_:XK):Prop
  | mk (a q dx wd hd rd:Addr) (n:Nat) (hv:WD) (as:List Addr) (rs:List Ready) (r:Word) (h_0:vs=[.ref a,.ref q]) (h_1:H a=some (.ins S dx (sf wd hd rd n))) (h_2:H hd=some (.dT (dictW hv))) (h_3:ReadyAt E H rd as rs) (h_4:H q=some (.tup (rowV r))) (h_5:as.length≤10000) (h_6:∀(H':Hp) (bs:List Addr),ReadyAt E H' rd (as++bs) (rs++layOf hv r)->(∀x o,H x=some o->x≠rd->H' x=some o)->Q .non H'):spLay S E vs H Q xk_
theorem Paired.append' {α β:Type} {G:α->β->Prop}:∀{a b:List α} {c d:List β},Paired G a c->Paired G b d->Paired G (a++b) (c++d)
  | _,_,_,_,.nil,s=>s
  | _,_,_,_,.cons r t,s=> .cons r (Paired.append' t s)
theorem Paired.len {α β:Type} {G:α->β->Prop} {a:List α} {c:List β} (h:Paired G a c):a.length=c.length:=Paired.length h
section
variable {P:Program} {w:World} {K:PySem.W.Frag} {mg:Str->Option Value} {base:Heap}
theorem scLay:FnScope ["self","row"] ["self","row"] (defScope sLay):=⟨rfl,rfl,rfl,by decide +kernel,rfl,by decide +kernel,by decide +kernel⟩
theorem ok_lay {f S E fE:Addr} {fd fdE:FuncData} (F:Fun K "lay_beginning" "Search.lay_beginning" sLay f fd) (T:STxt K mg S E) (M:Mk K E fE) (FE:Fun K "__init__" "Entry.__init__" sEInit fE fdE) (bE:Binds K fdE ["self","weight","row","as_word"] []):
    FnOk P w K mg base CX0 3 f fd ["self","row"] (spLay S E):=by
  have GE:FnOk P w K mg base CX0 1 fE fdE ["self","weight","row","as_word"] (spEInit E):=ok_einit FE T.e
  refine F.ok scLay (fun vs H Q E h=> ?_) (fun cdv A outer s H vs Q X hr h=> ?_)
  · obtain⟨a,q,dx,wd,hd,rd,n,hv,as,rs,r,rfl,_⟩:=h
    rfl
  · obtain⟨a,q,dx,wd,hd,rd,n,hv,as,rs,r,rfl,ha,hh,R,hq,hlen,k⟩:=h
    have hu:=hu_of hr
    refine⟨_,pss_one (ps_if (pt_cmp (pc_din hu (pv 1) (pe_fld (pv 0) rfl)))
      (pss_one (ps_expr (pe_bm PySem.F.plainAttrs_list PySem.F.slot_list_append PySem.F.type_list_append mt_append (pe_fld (pv 0) rfl)
        (pa_cons (pe_make M GE hr rfl T.mgE bE .nil pass0 (pa_cons (pe_dget hu (pe_fld (pv 0) rfl) (pv 1) (fun _ _=>rfl)) (pa_cons (pv 1) (pa_cons pe_bl pa_nil)))) pa_nil)))) pss_nil),?_⟩
    have hq':H q=some (.tup ((keyW r).map kV)):=by rw[keyW_V];exact hq
    refine⟨_,rfl,_,rfl,a,_,dx,_,_,rfl,ha,T.cl,T.nh,sf_heavy _ _ _ _,hd,_,rfl,DGet.t (k:=keyW r) hh hq',_,rfl,?_⟩
    rw[valV_dict]
    cases el:look hv r with
    | none=>
      refine iteF ?_
      exact k H [] (by unfold layOf;rw[el,List.append_nil,List.append_nil];exact R) fun x o e _=>e
    | some m=>
      refine iteT ?_
      refine⟨_,rfl,a,_,dx,_,_,rfl,ha,T.cl,T.nr,sf_ready _ _ _ _,.inl ⟨rfl,_,SqL.of R.lst⟩,_,rfl,a,_,dx,_,_,rfl,ha,T.cl,T.nh,sf_heavy _ _ _ _,_,rfl,hd,.int ((m:Nat):Int),rfl,?_,_,rfl,fun x d hx hdx hne=> ?_⟩
      · have:=DGet.t (k:=keyW r) hh hq'
        rw[valV_dict,el]at this
        exact this
      have nx:∀y o,H y=some o->(upd (upd H d (.own x)) x (.ins E d [])) y=some o:=fun y o e=>by rw[upd_ne (ne_of_none e hx),upd_ne (ne_of_none e hdx)];exact e
      refine⟨x,d,q,m,false,rfl,upd_same,fun H' e1 e2=>⟨rfl,?_⟩⟩
      have st:∀y o,H y=some o->H' y=some o:=fun y o e=>e2 y o (nx y o e) (ne_of_none e hx)
      refine⟨rd,_,.ref x,rfl,rfl,st _ _ R.lst,?_,?_⟩
      · rw[List.length_map]
        exact small20k (by omega)
      have hl':H' rd=some (.lst (as.map V.ref)):=st _ _ R.lst
      have nxr:x≠rd:=Ne.symm (ne_of_none R.lst hx)
      refine k _ [x] ⟨?_,?_,?_⟩ fun y o e hy=>by rw[upd_ne hy];exact st y o e
      · rw[upd_same,List.map_append]
        rfl
      · refine List.nodup_append.mpr ⟨R.nd,by simp,fun y hy z hz e=> ?_⟩
        rw[List.mem_singleton.mp hz]at e
        subst e
        obtain⟨j,hj,ej⟩:=List.getElem_of_mem hy
        obtain⟨z',hz',dz,qz,hz1,hz2⟩:=paired_get R.at_ (List.getElem?_eq_getElem hj)
        rw[ej,hx]at hz1
        cases hz1
      · have keep:∀y o,H y=some o->y≠rd->(upd H' rd (.lst (as.map V.ref++[.ref x]))) y=some o:=fun y o e hy=>by rw[upd_ne hy];exact st y o e
        unfold layOf
        rw[el]
        refine Paired.append' (Paired.imp' (fun b z hz=>EntryAt.keep hz R.lst keep) R.at_) (.cons ⟨d,q,?_,?_⟩ .nil)
        · rw[upd_ne nxr];exact e1
        · rw[upd_ne (ne_of hq R.lst (by intro z;cases z))];exact st _ _ hq
end
end TyP
end
section
namespace TyP
open PySem PySem.Spec PyProof.Rows L2 TyR
open Rh04 (Ready)
def wordOf (wt:WD) (r:Word):List Ready:=match look wt r with
  | some n=>[⟨true,(r,n)⟩]
  | none=>[]
def kidsOf (hv:WD) (r:Word) (k:Nat):List Ready:=(List.range k).flatMap fun i=>layOf hv (r++[i+1])
theorem kidsOf_succ (hv:WD) (r:Word) (k:Nat):kidsOf hv r (k+1)=kidsOf hv r k++layOf hv (r++[k+1]):=by
  unfold kidsOf
  rw[List.range_succ,List.flatMap_append,List.flatMap_singleton]
theorem layOf_len (hv:WD) (r:Word):(layOf hv r).length≤1:=by
  unfold layOf
  cases look hv r <;> simp
theorem wordOf_len (wt:WD) (r:Word):(wordOf wt r).length≤1:=by
  unfold wordOf
  cases look wt r <;> simp
inductive spOpen (S E:Addr) (vs:List V) (H:Hp) (Q:VK) (xk_:XK):Prop
  | mk (a q dx wd hd rd:Addr) (n:Nat) (wt hv:WD) (as:List Addr) (rs:List Ready) (r:Word) (h_0:vs=[.ref a,.ref q]) (h_1:H a=some (.ins S dx (sf wd hd rd n))) (h_2:H wd=some (.dT (dictW wt))) (h_3:H hd=some (.dT (dictW hv))) (h_4:ReadyAt E H rd as rs) (h_5:H q=some (.tup (rowV r))) (h_6:as.length≤9000) (h_7:r.length≤1000) (h_8:∀(H':Hp) (bs:List Addr),H' a=some (.ins S dx (sf wd hd rd (n+1)))->ReadyAt E H' rd (as++bs) (rs++(wordOf wt r++kidsOf hv r 26))->(∀x o,H x=some o->x≠rd->x≠a->H' x=some o)->Q .non H'):spOpen S E vs H Q xk_
section
variable {P:Program} {w:World} {K:PySem.W.Frag} {mg:Str->Option Value} {base:Heap}
theorem scOpen:FnScope ["self","row","letter"] ["self","row"] (defScope sOpen):=⟨rfl,rfl,rfl,by decide +kernel,rfl,by decide +kernel,by decide +kernel⟩
theorem sf_put (wd hd rd:Addr) (n:Nat):putF "opened" (.int (((n:Nat):Int)+1)) (sf wd hd rd n)=sf wd hd rd (n+1):=by
  unfold sf
  rw[putF_again]
  rfl
theorem ReadyAt.keep {E:Addr} {H H':Hp} {rd:Addr} {as:List Addr} {rs:List Ready} (R:ReadyAt E H rd as rs) (k:∀x o,H x=some o->(∀C dx fs,C≠E->o≠ .ins C dx fs)->H' x=some o):ReadyAt E H' rd as rs:=
  ⟨k _ _ R.lst (fun _ _ _ _ z=>nomatch z),R.nd,Paired.imp' (fun b z hz=>by
    obtain⟨dx,q,h1,h2⟩:=hz
    exact⟨dx,q,k _ _ h1 (fun C dx' fs hC z=>by cases z;exact hC rfl),k _ _ h2 (fun _ _ _ _ z=>nomatch z)⟩) R.at_⟩
theorem ok_open {f S E fE fL:Addr} {fd fdE fdL:FuncData} (F:Fun K "open_beginning" "Search.open_beginning" sOpen f fd) (T:STxt K mg S E) (hSE:S≠E) (M:Mk K E fE) (FE:Fun K "__init__" "Entry.__init__" sEInit fE fdE) (bE:Binds K fdE ["self","weight","row","as_word"] [])
    (FL:Fun K "lay_beginning" "Search.lay_beginning" sLay fL fdL) (bL:Binds K fdL ["self","row"] []) (mL:Meth K S "lay_beginning" fL):
    FnOk P w K mg base CX0 4 f fd ["self","row"] (spOpen S E):=by
  have GE:FnOk P w K mg base CX0 1 fE fdE ["self","weight","row","as_word"] (spEInit E):=ok_einit FE T.e
  have GL:FnOk P w K mg base CX0 3 fL fdL ["self","row"] (spLay S E):=ok_lay FL T M FE bE
  refine F.ok scOpen (fun vs H Q E h=> ?_) (fun cdv A outer s H vs Q X hr h=> ?_)
  · obtain⟨a,q,dx,wd,hd,rd,n,wt,hv,as,rs,r,rfl,_⟩:=h
    rfl
  · obtain⟨a,q,dx,wd,hd,rd,n,wt,hv,as,rs,r,rfl,ha,hw,hh,R,hq,hlen,hrl,k⟩:=h
    have hu:=hu_of hr
    have nd:=scOpen.nd
    obtain⟨tk,hL⟩:=T.mgL
    refine⟨_,pss_cons (ps_fldaug (pv 0) pe_int in_add) (pss_cons (ps_if (pt_cmp (pc_din hu (pv 1) (pe_fld (pv 0) rfl)))
      (pss_one (ps_expr (pe_bm PySem.F.plainAttrs_list PySem.F.slot_list_append PySem.F.type_list_append mt_append (pe_fld (pv 0) rfl)
        (pa_cons (pe_make M GE (hr.mono (by decide)) rfl T.mgE bE .nil pass0 (pa_cons (pe_dget hu (pe_fld (pv 0) rfl) (pv 1) (fun _ _=>rfl)) (pa_cons (pv 1) (pa_cons pe_bl pa_nil)))) pa_nil)))) pss_nil)
      (pss_one (ps_for PassesOwn.never rfl (pi_range2 rfl T.b.range (pa_cons pe_int (pa_cons (pe_op op_add (pe_glob rfl hL (v:= .int 26) ⟨tk,rfl⟩) pe_int) pa_nil))) (pg_name (i:=2) nd rfl (Or.inl rfl))
        (pss_one (ps_expr (pe_meth (pv 0) T.cl mL GL hr bL .nil pass0 (pa_cons (pe_op op_catT4 (pv 1) (pe_tup (pa_cons (pv 2) pa_nil))) pa_nil))))))),?_⟩
    refine⟨_,rfl,a,_,dx,_,_,rfl,ha,T.cl,T.no,sf_opened _ _ _ _,_,_,rfl,rfl,dx,_,ha,sf_len _ _ _ _,?_⟩
    rw[sf_put]
    have nqa:q≠a:=ne_of hq ha (by intro z;cases z)
    have nwa:wd≠a:=ne_of hw ha (by intro z;cases z)
    have nha:hd≠a:=ne_of hh ha (by intro z;cases z)
    have nra:rd≠a:=ne_of R.lst ha (by intro z;cases z)
    have st0:∀x o,H x=some o->x≠a->upd H a (.ins S dx (sf wd hd rd (n+1))) x=some o:=fun x o e hx=>by rw[upd_ne hx];exact e
    have R1:ReadyAt E (upd H a (.ins S dx (sf wd hd rd (n+1)))) rd as rs:=R.keep fun x o e hx=>st0 x o e fun z=>by
      rw[z,ha]at e
      cases e
      exact hx S _ _ hSE rfl
    generalize hH1:upd H a (.ins S dx (sf wd hd rd (n+1)))=H1 at st0 R1 ⊢
    have ha1:H1 a=some (.ins S dx (sf wd hd rd (n+1))):=by rw[←hH1];exact upd_same
    have hw1:=st0 _ _ hw nwa
    have hh1:=st0 _ _ hh nha
    have hq1:=st0 _ _ hq nqa
    have hq1':H1 q=some (.tup ((keyW r).map kV)):=by rw[keyW_V];exact hq1
    have after:∀(H2:Hp) (bs:List Addr),ReadyAt E H2 rd (as++bs) (rs++wordOf wt r)->(∀x o,H1 x=some o->x≠rd->H2 x=some o)->
        tFor (iRng2 (tCons (tC (.int 1)) (tCons (tOp (rI0 fun i j=> .int (i+j)) (tC (.int 26)) (tC (.int 1))) tNil))) (gName 2)
          (tDrop (tMeth S "lay_beginning" (spLay S E) [] E0 (tVar 0) (tCons (tOp rCatT4 (tVar 1) (tTup (tCons (tVar 2) tNil))) tNil)))
          {nx:=fun _ H'=>Q .non H',rt:=Q} [some (.ref a),some (.ref q),none] H2:=by
      intro H2 bs R2 st2
      have hlb:bs.length≤1:=by
        have:=Paired.len R2.at_
        have:=Paired.len R.at_
        have:=wordOf_len wt r
        simp only[List.length_append]at *
        omega
      refine⟨_,_,rfl,rfl,_,_,rfl,⟨by decide,by decide,by decide,by decide⟩,?_⟩
      refine for_range (n:=26) (lo:=1) (fun i σ H'=>∃(v:Option V) (cs:List Addr),σ=[some (.ref a),some (.ref q),v]/\ReadyAt E H' rd (as++(bs++cs)) (rs++(wordOf wt r++kidsOf hv r i))/\cs.length≤i/\(∀x o,H1 x=some o->x≠rd->H' x=some o))
        ⟨none,[],rfl,?_,Nat.le_refl _,st2⟩ ?_ ?_
      · rw[List.append_nil]
        show ReadyAt E H2 rd (as++bs) (rs++(wordOf wt r++[]))
        rw[List.append_nil]
        exact R2
      · rintro i σ H' hi ⟨v,cs,rfl,R3,hcs,st3⟩
        have nqr:q≠rd:=ne_of hq R.lst (by intro z;cases z)
        have nhr:hd≠rd:=ne_of hh R.lst (by intro z;cases z)
        have hq3:=st3 _ _ hq1 nqr
        have ha3:=st3 _ _ ha1 (Ne.symm nra)
        refine⟨_,rfl,a,dx,_,rfl,ha3,sf_no _ _ _ _ (by decide +kernel) (by decide +kernel) (by decide +kernel) (by decide +kernel),_,rfl,_,rfl,(by show 1≤sizeLine;decide),fun t1 ht1=> ?_⟩
        have sm1:Same H' (upd H' t1 (.tup [.int (1+(i:Nat))])):=Same.new ht1
        refine⟨q,t1,_,_,rfl,rfl,sm1 _ _ hq3,upd_same,by simp,?_,fun t H4 sm ht=> ?_⟩
        · rw[rowV_len]
          have:=small20k (n:=r.length+1) (by omega)
          exact Nat.le_of_lt this
        have er:rowV r++[V.int (1+((i:Nat):Int))]=rowV (r++[i+1]):=by
          unfold rowV
          rw[List.map_append]
          show _++[V.int (1+((i:Nat):Int))]=_++[V.int ((i+1:Nat):Int)]
          have:1+((i:Nat):Int)=((i+1:Nat):Int):=by omega
          rw[this]
        rw[er]at ht
        have sm4:Same H' H4:=sm1.trans sm
        have R4:ReadyAt E H4 rd (as++(bs++cs)) (rs++(wordOf wt r++kidsOf hv r i)):=R3.keep fun x o e _=>sm4 x o e
        refine⟨a,t,dx,wd,hd,rd,n+1,hv,_,_,r++[i+1],rfl,sm4 _ _ ha3,sm4 _ _ (st3 _ _ hh1 nhr),R4,ht,?_,fun H5 ds R5 st5=> ?_⟩
        · simp only[List.length_append]
          omega
        refine⟨_,cs++ds,rfl,?_,?_,fun x o e hx=>st5 x o (sm4 x o (st3 x o e hx)) hx⟩
        · rw[kidsOf_succ]
          simp only[List.append_assoc]at R5 ⊢
          exact R5
        · have l1:=Paired.len R5.at_
          have l2:=Paired.len R4.at_
          have l3:=layOf_len hv (r++[i+1])
          simp only[List.length_append]at l1 l2 ⊢
          omega
      · rintro σ H' ⟨v,cs,rfl,R3,hcs,st3⟩
        refine k H' (bs++cs) (st3 _ _ ha1 (Ne.symm nra)) R3 fun x o e hx hxa=>st3 x o (st0 x o e hxa) hx
    refine⟨_,rfl,_,rfl,a,_,dx,_,_,rfl,ha1,T.cl,T.nw,sf_weight _ _ _ _,wd,_,rfl,DGet.t (k:=keyW r) hw1 hq1',_,rfl,?_⟩
    rw[valV_dict]
    cases el:look wt r with
    | none=>
      refine iteF ?_
      refine after H1 [] ?_ fun x o e _=>e
      unfold wordOf
      rw[el,List.append_nil,List.append_nil]
      exact R1
    | some m=>
      refine iteT ?_
      refine⟨_,rfl,a,_,dx,_,_,rfl,ha1,T.cl,T.nr,sf_ready _ _ _ _,.inl ⟨rfl,_,SqL.of R1.lst⟩,_,rfl,a,_,dx,_,_,rfl,ha1,T.cl,T.nw,sf_weight _ _ _ _,_,rfl,wd,.int ((m:Nat):Int),rfl,?_,_,rfl,fun x d hx hdx hne=> ?_⟩
      · have:=DGet.t (k:=keyW r) hw1 hq1'
        rw[valV_dict,el]at this
        exact this
      have nx:∀y o,H1 y=some o->(upd (upd H1 d (.own x)) x (.ins E d [])) y=some o:=fun y o e=>by rw[upd_ne (ne_of_none e hx),upd_ne (ne_of_none e hdx)];exact e
      refine⟨x,d,q,m,true,rfl,upd_same,fun H' e1 e2=>⟨rfl,?_⟩⟩
      have st:∀y o,H1 y=some o->H' y=some o:=fun y o e=>e2 y o (nx y o e) (ne_of_none e hx)
      refine⟨rd,_,.ref x,rfl,rfl,st _ _ R1.lst,?_,?_⟩
      · rw[List.length_map]
        exact small20k (by omega)
      have nxr:x≠rd:=Ne.symm (ne_of_none R1.lst hx)
      refine after _ [x] ⟨?_,?_,?_⟩ fun y o e hy=>by rw[upd_ne hy];exact st y o e
      · rw[upd_same,List.map_append]
        rfl
      · refine List.nodup_append.mpr ⟨R1.nd,by simp,fun y hy z hz e=> ?_⟩
        rw[List.mem_singleton.mp hz]at e
        subst e
        obtain⟨j,hj,ej⟩:=List.getElem_of_mem hy
        obtain⟨z',hz',dz,qz,hz1,hz2⟩:=paired_get R1.at_ (List.getElem?_eq_getElem hj)
        rw[ej,hx]at hz1
        cases hz1
      · have keep:∀y o,H1 y=some o->y≠rd->(upd H' rd (.lst (as.map V.ref++[.ref x]))) y=some o:=fun y o e hy=>by rw[upd_ne hy];exact st y o e
        unfold wordOf
        rw[el]
        refine Paired.append' (Paired.imp' (fun b z hz=>EntryAt.keep hz R1.lst keep) R1.at_) (.cons ⟨d,q,?_,?_⟩ .nil)
        · rw[upd_ne nxr];exact e1
        · rw[upd_ne (ne_of hq1 R1.lst (by intro z;cases z))];exact st _ _ hq1
end
end TyP
end
section
namespace Ty
open Rh04 (Word Item Weighed Ready Search before first lay begins top letters once enter find_ open_ next enough more start pair weight all put)
theorem find_unique {d:List Item} (hn:(d.map (·.word)).Nodup) {x:Item} (hx:x∈d):find_ d x.word=some x:=by
  unfold find_
  induction d with
  | nil=>simp at hx
  | cons y d ih=>
    rw[List.map_cons,List.nodup_cons]at hn
    rw[List.find?_cons]
    rcases List.mem_cons.mp hx with e | e
    · subst e
      simp
    · have hne:¬y.word=x.word:=fun q=>hn.1 (q ▸ List.mem_map.mpr ⟨x,e,rfl⟩)
      rw[show(y.word == x.word)=false from by simpa using hne]
      exact ih hn.2 e
theorem find_perm {d d':List Item} (h:d.Perm d') (hn:(d.map (·.word)).Nodup) (w:Word):find_ d w=find_ d' w:=by
  have hn':(d'.map (·.word)).Nodup:=(h.map _).nodup_iff.mp hn
  cases e:find_ d w with
  | none=>
    cases e':find_ d' w with
    | none=>rfl
    | some y=>
      obtain⟨h1,h2⟩:=find_some e'
      exact absurd h2 (find_none e y (h.mem_iff.mpr h1))
  | some x=>
    obtain⟨h1,h2⟩:=find_some e
    rw[←h2,find_unique hn' (h.mem_iff.mp h1)]
theorem ready_le {s:Search} (G:Good s):s.ready.length≤rest s:=by
  have h:∀l:List Ready,(∀x∈l,x.isWord=false->1≤below s.words x.it.1)->l.length≤todo s.words l+(l.filter (·.isWord)).length:=by
    intro l
    induction l with
    | nil=>intro _;simp[todo]
    | cons x l ih=>
      intro hx
      have i:=ih fun y hy=>hx y (List.mem_cons_of_mem _ hy)
      have t:todo s.words (x::l)=readyBelow s.words x+todo s.words l:=by unfold todo;rw[List.map_cons,List.sum_cons]
      rw[t,List.filter_cons,List.length_cons]
      unfold readyBelow
      cases e:x.isWord with
      | true=>simp;omega
      | false=>
        have:=hx x List.mem_cons_self e
        simp
        omega
  have:=h s.ready fun x hx xw=>by
    obtain⟨w,hw,hb⟩:=G.has x hx xw
    exact below_pos hw hb
  unfold rest
  omega
theorem rest_start (d:List Item) (p:Word):rest (start d p)≤2 * (d.map fun x=>x.word.length+1).sum:=by
  unfold rest start
  by_cases h:d.any (fun x=>begins p x.word)=true
  · rw[if_pos h]
    have:=below_le d p
    simp[todo,readyBelow]
    omega
  · rw[if_neg h]
    simp[todo]
theorem start_begins (d:List Item) (p:Word):∀x∈(start d p).ready,begins p x.it.1=true:=by
  unfold start
  by_cases h:d.any (fun x=>begins p x.word)=true
  · rw[if_pos h]
    intro x hx
    rw[List.mem_singleton.mp hx]
    exact begins_self p
  · rw[if_neg h]
    intro x hx
    simp at hx
theorem open_begins {s:Search} {p:Word} (hb:∀x∈s.ready,begins p x.it.1=true) {it:Weighed} {l:List Ready} (e:s.ready=⟨false,it⟩::l):∀x∈(open_ s it.1 l).ready,begins p x.it.1=true:=by
  intro x hx
  rcases List.mem_append.mp ((open_perm s it.1 l).mem_iff.mp hx)with h | h
  · exact hb x (by rw[e];exact List.mem_cons_of_mem _ h)
  · exact begins_trans (hb ⟨false,it⟩ (by rw[e];exact List.mem_cons_self)) (fresh_begins h)
theorem letters_eq {d:List Item} (hl:∀x∈d,∀a∈x.word,1≤a/\a≤26) (r:Word):letters d r=((List.range 26).map (· +1)).filter fun a=>d.any fun x=>begins (r++[a]) x.word:=by
  refine rise_eq (letters_rise d r) ?_ fun a=> ?_
  · refine List.Pairwise.filter _ ?_
    decide
  · rw[letters_mem,List.mem_filter,List.any_eq_true]
    constructor
    · rintro⟨x,hx,hb⟩
      have ha:=((begins_snoc _ _ _).mp hb).2
      have:=hl x hx a (List.mem_of_getElem? ha)
      refine⟨List.mem_map.mpr ⟨a - 1,List.mem_range.mpr (by omega),by omega⟩,x,hx,hb⟩
    · rintro⟨_,x,hx,hb⟩
      exact⟨x,hx,hb⟩
end Ty
end
section
namespace TyP
open PySem PySem.Spec PyProof.Rows L2 TyR
open Rh04 (Ready)
def rkey (r:Ready):List LKey:=[.inl (-((r.it.2:Nat):Int)),.inr (intsW r.it.1)]
theorem lex_before:∀u v:Word,HT.lexLt (intsW u) (intsW v)=Rh04.before u v
  | [],[]=>rfl
  | [],_::_=>rfl
  | _::_,[]=>rfl
  | a::u,b::v=>by
    show(if ((a:Nat):Int)=((b:Nat):Int)then HT.lexLt (intsW u) (intsW v)else decide (((a:Nat):Int) < ((b:Nat):Int)))=_
    rw[Rh04.before]
    by_cases h:a < b
    · rw[if_neg (by omega),if_pos h]
      exact decide_eq_true (by omega)
    · rw[if_neg h]
      by_cases h2:b < a
      · rw[if_neg (by omega),if_pos h2]
        exact decide_eq_false (by omega)
      · rw[if_pos (by omega),if_neg h2]
        exact lex_before u v
theorem lex_first (x y:Ready):lexK (rkey x) (rkey y)=Rh04.first x.it y.it:=by
  show(if (Sum.inl (-((x.it.2:Nat):Int)):LKey)=Sum.inl (-((y.it.2:Nat):Int))then(if (Sum.inr (intsW x.it.1):LKey)=Sum.inr (intsW y.it.1)then lexK [] []else HT.lexLt (intsW x.it.1) (intsW y.it.1))else decide (-((x.it.2:Nat):Int) < -((y.it.2:Nat):Int)))=_
  unfold Rh04.first
  rw[lex_before]
  by_cases h:x.it.2=y.it.2
  · rw[if_pos (by rw[h])]
    have e1:decide (y.it.2 < x.it.2)=false:=decide_eq_false (by omega)
    have e2:(x.it.2 == y.it.2)=true:=by simpa using h
    rw[e1,e2,Bool.false_or,Bool.true_and]
    by_cases q:x.it.1=y.it.1
    · rw[if_pos (by rw[q]),q,Ty.before_irrefl]
      rfl
    · rw[if_neg (fun z=>q (intsW_inj.mp (Sum.inr.inj z)))]
  · rw[if_neg (fun z=>h (by have:=Sum.inl.inj z;omega))]
    have e2:(x.it.2 == y.it.2)=false:=by simpa using h
    rw[e2,Bool.false_and,Bool.or_false]
    by_cases q:y.it.2 < x.it.2
    · rw[decide_eq_true q];exact decide_eq_true (by omega)
    · rw[decide_eq_false q];exact decide_eq_false (by omega)
theorem rkey_like (x y:Ready):likeK (rkey x) (rkey y):=True.intro
inductive spTake (S E:Addr) (vs:List V) (H:Hp) (Q:VK) (xk_:XK):Prop
  | mk (a dx wd hd rd:Addr) (n:Nat) (as:List Addr) (rs:List Ready) (h_0:vs=[.ref a]) (h_1:H a=some (.ins S dx (sf wd hd rd n))) (h_2:ReadyAt E H rd as rs) (h_3:rs≠[]) (h_4:∀(H':Hp) (j:Nat) (b:Addr) (r:Ready),as[j]? =some b->rs[j]? =some r->(∀y∈rs,Rh04.first y.it r.it=false)->ReadyAt E H' rd (as.eraseIdx j) (rs.eraseIdx j)->EntryAt E H' b r->(∀x o,H x=some o->x≠rd->H' x=some o)->Q (.ref b) H'):spTake S E vs H Q xk_
theorem Paired.erase {α β:Type} {G:α->β->Prop}:∀{a:List α} {c:List β} (j:Nat),Paired G a c->Paired G (a.eraseIdx j) (c.eraseIdx j)
  | _,_,_,.nil=> .nil
  | _,_,0,.cons _ t=>t
  | _,_,j+1,.cons r t=> .cons r (Paired.erase j t)
theorem Paired.get2 {α β:Type} {G:α->β->Prop} {a:List α} {c:List β} {i:Nat} {x:α} {y:β} (h:Paired G a c) (h1:a[i]? =some x) (h2:c[i]? =some y):G x y:=by
  obtain⟨b,hb,g⟩:=paired_get h h1
  rw[h2]at hb
  cases hb
  exact g
section
variable {P:Program} {w:World} {K:PySem.W.Frag} {mg:Str->Option Value} {base:Heap}
theorem scTake:FnScope ["self","first"] ["self"] (defScope sTake):=⟨rfl,rfl,rfl,by decide +kernel,rfl,by decide +kernel,by decide +kernel⟩
theorem ok_take {f S E fP:Addr} {fd fdP:FuncData} (F:Fun K "take_first" "Search.take_first" sTake f fd) (T:STxt K mg S E) (FP:Fun K "place_in_order" "place_in_order" sPio fP fdP) (bP:Binds K fdP ["entry"] []) (mP:mg "place_in_order"=some (.ref fP)):
    FnOk P w K mg base CX0 3 f fd ["self"] (spTake S E):=by
  have GP:FnOk P w K mg base CX0 1 fP fdP ["entry"] (spPio E):=ok_pio FP T.e
  refine F.ok scTake (fun vs H Q E h=> ?_) (fun cdv A outer s H vs Q X hr h=> ?_)
  · obtain⟨a,dx,wd,hd,rd,n,as,rs,rfl,_⟩:=h
    rfl
  · obtain⟨a,dx,wd,hd,rd,n,as,rs,rfl,ha,R,hne,k⟩:=h
    have hu:=hu_of hr
    have nd:=scTake.nd
    refine⟨_,pss_cons (ps_set (i:=1) nd rfl (Or.inl rfl) (pe_minKey GP hr bP rfl rfl T.b.min rfl mP (pe_fld (pv 0) rfl)))
      (pss_cons (ps_expr (pe_bm PySem.F.plainAttrs_list PySem.F.slot_list_remove PySem.F.type_list_remove (mt_remove hu T.e.ne) (pe_fld (pv 0) rfl) (pa_cons (pv 1) pa_nil)))
      (pss_one (ps_ret (pv 1)))),?_⟩
    have hlen:as.length=rs.length:=Paired.len R.at_
    refine⟨_,rfl,a,_,dx,_,_,rfl,ha,T.cl,T.nr,sf_ready _ _ _ _,rd,as.map V.ref,rs.map rkey,rfl,SqL.of R.lst,?_,?_,?_,?_,?_,?_,?_⟩
    · intro e
      have:as=[]:=by simpa using e
      rw[this]at hlen
      exact hne (List.length_eq_zero_iff.mp hlen.symm)
    · rw[List.length_map,List.length_map,hlen]
    · intro x hx y hy
      obtain⟨x',_,rfl⟩:=List.mem_map.mp hx
      obtain⟨y',_,rfl⟩:=List.mem_map.mp hy
      exact rkey_like _ _
    · intro x hx y hy z hz h1 h2
      obtain⟨x',_,rfl⟩:=List.mem_map.mp hx
      obtain⟨y',_,rfl⟩:=List.mem_map.mp hy
      obtain⟨z',_,rfl⟩:=List.mem_map.mp hz
      rw[lex_first]at *
      exact Ty.first_trans h1 h2
    · intro x hx
      obtain⟨x',_,rfl⟩:=List.mem_map.mp hx
      rw[lex_first]
      exact Ty.first_irrefl _
    · intro i v ks H' hv hk sm
      rw[List.getElem?_map]at hv hk
      obtain⟨b,hb,rfl⟩:=Option.map_eq_some_iff.mp hv
      obtain⟨r,hr',rfl⟩:=Option.map_eq_some_iff.mp hk
      obtain⟨d,q,e1,e2⟩:=Paired.get2 R.at_ hb hr'
      refine⟨b,d,q,r.it.2,r.isWord,rfl,sm _ _ e1,fun H'' t sm2 ht=>⟨sm2,t,_,rfl,SqT.of ht,.cons rfl (.cons ⟨q,rfl,?_⟩ .nil)⟩⟩
      rw[←rowV_ints]
      exact SqT.of (sm2 _ _ (sm _ _ e2))
    · intro i v ki H' hv hk hmin sm
      rw[List.getElem?_map]at hv hk
      obtain⟨b,hb,rfl⟩:=Option.map_eq_some_iff.mp hv
      obtain⟨r,hr',rfl⟩:=Option.map_eq_some_iff.mp hk
      have hl':=sm _ _ R.lst
      have em:as.erase b=as.eraseIdx i:=by
        obtain⟨j,h1,h2,h3⟩:=erase_ix as b (List.mem_of_getElem? hb)
        have:j=i:=nd_ix R.nd h1 hb
        rw[h3,this]
      refine⟨_,rfl,a,_,dx,_,_,rfl,sm _ _ ha,T.cl,T.nr,sf_ready _ _ _ _,.inl ⟨rfl,_,SqL.of hl'⟩,_,rfl,rd,as,b,rfl,rfl,hl',List.mem_of_getElem? hb,fun c hc=> ?_,_,rfl,?_⟩
      · obtain⟨j,hj,ej⟩:=List.getElem_of_mem hc
        obtain⟨z',hz',dz,qz,hz1,hz2⟩:=paired_get R.at_ (List.getElem?_eq_getElem hj)
        rw[ej]at hz1
        exact⟨dz,_,sm _ _ hz1⟩
      have keep:∀x o,H x=some o->x≠rd->upd H' rd (.lst ((as.erase b).map V.ref)) x=some o:=fun x o e hx=>by rw[upd_ne hx];exact sm x o e
      refine k _ i b r hb hr' (fun y hy=> ?_) ⟨?_,?_,?_⟩ ?_ keep
      · rw[←lex_first]
        exact hmin _ (List.mem_map.mpr ⟨y,hy,rfl⟩)
      · rw[upd_same,em]
      · exact R.nd.sublist (List.eraseIdx_sublist _ _)
      · exact Paired.erase i (Paired.imp' (fun c z hz=>EntryAt.keep hz R.lst keep) R.at_)
      · exact EntryAt.keep (Paired.get2 R.at_ hb hr') R.lst keep
end
end TyP
end
section
namespace TyP
open PySem PySem.Spec PyProof.Rows L2 TyR
open Rh04 (Ready Item Weighed)
structure Src (d:List Item) (p:Word) (wt hv:WD):Prop where
  cnt:hv.length=(Rh04.reaches d p).length
  cnw:wt.length=(d.filter fun x=>Rh04.begins p x.word).length
  wt:∀r,Rh04.begins p r=true->look wt r=(Rh04.find_ d r).map Rh04.weight
  hv:∀r,Rh04.begins p r=true->look hv r=if (d.any fun x=>Rh04.begins r x.word)=true then some (Rh04.top d r)else none
  abc:∀x∈d,∀a∈x.word,1≤a/\a≤26
  len:∀x∈d,x.word.length≤100
theorem Src.fresh {d:List Item} {p:Word} {wt hv:WD} (S:Src d p wt hv) {r:Word} (hp:Rh04.begins p r=true):wordOf wt r++kidsOf hv r 26=Ty.fresh d r:=by
  have e1:wordOf wt r=Ty.wordHere d r:=by
    unfold wordOf Ty.wordHere
    rw[S.wt r hp]
    cases e:Rh04.find_ d r with
    | none=>rfl
    | some x=>
      show [(⟨true,(r,Rh04.weight x)⟩:Ready)]=[⟨true,(x.word,Rh04.weight x)⟩]
      rw[(Ty.find_some e).2]
  have e2:kidsOf hv r 26=Ty.kids d r:=by
    unfold kidsOf Ty.kids
    rw[Ty.letters_eq S.abc r]
    have:∀l:List Nat,(l.flatMap fun i=>layOf hv (r++[i+1]))=((l.map (· +1)).filter fun a=>d.any fun x=>Rh04.begins (r++[a]) x.word).map fun a=>(⟨false,(r++[a],Rh04.top d (r++[a]))⟩:Ready):=by
      intro l
      induction l with
      | nil=>rfl
      | cons i l ih=>
        rw[List.flatMap_cons,ih,List.map_cons,List.filter_cons]
        have hb:Rh04.begins p (r++[i+1])=true:=Ty.begins_trans hp ((Ty.begins_iff _ _).mpr ⟨[i+1],rfl⟩)
        unfold layOf
        rw[S.hv _ hb]
        by_cases q:(d.any fun x=>Rh04.begins (r++[i+1]) x.word)=true
        · rw[if_pos q,if_pos q]
          rfl
        · rw[if_neg q,if_neg q]
          rfl
    exact this _
  rw[e1,e2]
  rfl
structure Words (d:List Item):Prop where
  nd:(d.map (·.word)).Nodup
  abc:∀x∈d,∀a∈x.word,1≤a/\a≤26
  len:∀x∈d,x.word.length≤10
  few:d.length≤60
theorem Words.perm {d d':List Item} (W:Words d) (h:d'.Perm d):Words d':=
  ⟨(h.map _).nodup_iff.mpr W.nd,fun x hx=>W.abc x (h.mem_iff.mp hx),fun x hx=>W.len x (h.mem_iff.mp hx),by rw[h.length_eq];exact W.few⟩
theorem Words.size {d:List Item} (W:Words d):(d.map fun x=>x.word.length+1).sum≤660:=by
  have:∀l:List Item,(∀x∈l,x.word.length≤10)->(l.map fun x=>x.word.length+1).sum≤11 * l.length:=by
    intro l
    induction l with
    | nil=>intro _;simp
    | cons x l ih=>
      intro h
      rw[List.map_cons,List.sum_cons,List.length_cons]
      have:=ih fun y hy=>h y (List.mem_cons_of_mem _ hy)
      have:=h x List.mem_cons_self
      omega
  have h1:=this d W.len
  have h2:=W.few
  omega
structure SearchAt (S E:Addr) (H:Hp) (a rd wd hd:Addr) (p:Word) (s:Rh04.Search):Prop where
  ex:∃(dx:Addr) (wt hv:WD) (as:List Addr) (rs:List Ready),H a=some (.ins S dx (sf wd hd rd s.opened))/\H wd=some (.dT (dictW wt))/\H hd=some (.dT (dictW hv))/\ReadyAt E H rd as rs/\rs.Perm s.ready/\Src s.words p wt hv
  good:Ty.Good s
  beg:∀x∈s.ready,Rh04.begins p x.it.1=true
  few:Ty.rest s≤1400
  wg:∀x∈s.ready,x.isWord=true->∃it∈s.words,x.it=Rh04.pair it
  ws:Words s.words
theorem wg_open {s:Rh04.Search} (h:∀x∈s.ready,x.isWord=true->∃it∈s.words,x.it=Rh04.pair it) {it:Weighed} {l:List Ready} (e:s.ready=⟨false,it⟩::l):∀x∈(Rh04.open_ s it.1 l).ready,x.isWord=true->∃y∈(Rh04.open_ s it.1 l).words,x.it=Rh04.pair y:=by
  intro x hx xw
  have wo:(Rh04.open_ s it.1 l).words=s.words:=by rw[Ty.open_eq]
  rw[wo]
  rcases List.mem_append.mp ((Ty.open_perm s it.1 l).mem_iff.mp hx)with q | q
  · exact h x (by rw[e];exact List.mem_cons_of_mem _ q) xw
  · rcases List.mem_append.mp q with q | q
    · unfold Ty.wordHere at q
      cases ef:Rh04.find_ s.words it.1 with
      | none=>rw[ef]at q;simp at q
      | some y=>
        rw[ef]at q
        rw[List.mem_singleton.mp q]
        exact⟨y,(Ty.find_some ef).1,rfl⟩
    · obtain⟨a,_,rfl⟩:=Ty.kids_mem q
      cases xw
theorem more_told:∀(n k:Nat) (s:Rh04.Search),Ty.rest s≤n->Ty.Good s->(∀x∈s.ready,x.isWord=true->∃it∈s.words,x.it=Rh04.pair it)->(∀x∈(Rh04.more k s).1,∃it∈s.words,x=Rh04.pair it)/\(Rh04.more k s).1.length≤Ty.rest s/\(Rh04.more k s).2.words=s.words:=by
  intro n
  induction n with
  | zero=>
    intro k s hn G wg
    cases er:s.ready with
    | nil=>rw[Ty.more_nil er];exact⟨by simp,by simp,rfl⟩
    | cons x l=>
      have:=Ty.ready_le G
      rw[er,List.length_cons]at this
      omega
  | succ n ih=>
    intro k s hn G wg
    cases k with
    | zero=>exact⟨by simp[Rh04.more],by simp[Rh04.more],rfl⟩
    | succ k=>
      cases er:s.ready with
      | nil=>rw[Ty.more_nil er];exact⟨by simp,by simp,rfl⟩
      | cons x l=>
        obtain⟨b,it⟩:=x
        cases b with
        | true=>
          have rl:=Ty.rest_word er
          obtain⟨h1,h2,h3⟩:=ih k {s with ready:=l} (by omega) (Ty.take_good G er) fun x hx=>wg x (by rw[er];exact List.mem_cons_of_mem _ hx)
          rw[Ty.more_word er]
          refine⟨fun x hx=> ?_,?_,h3⟩
          · rcases List.mem_cons.mp hx with e | e
            · rw[e]
              obtain⟨y,hy,e2⟩:=wg ⟨true,it⟩ (by rw[er];exact List.mem_cons_self) rfl
              exact⟨y,hy,e2⟩
            · exact h1 x e
          · show(it::(Rh04.more k {s with ready:=l}).1).length≤_
            rw[List.length_cons]
            omega
        | false=>
          have rl:=Ty.rest_open G er
          have wo:(Rh04.open_ s it.1 l).words=s.words:=by rw[Ty.open_eq]
          obtain⟨h1,h2,h3⟩:=ih (k+1) (Rh04.open_ s it.1 l) (by omega) (Ty.open_good G er) (wg_open wg er)
          rw[Ty.more_open G er]
          rw[wo]at h1 h3
          exact⟨h1,by omega,h3⟩
inductive ToldAt (H:Hp) (t:Addr) (l:List Weighed):Prop
  | mk (ts:List Addr) (h_0:H t=some (.lst (ts.map V.ref))) (h_1:Paired (fun b (x:Weighed)=>∃q,H b=some (.tup [.ref q,.int ((x.2:Nat):Int)])/\H q=some (.tup (rowV x.1))) ts l):ToldAt H t l
inductive spTell (S E:Addr) (vs:List V) (H:Hp) (Q:VK) (xk_:XK):Prop
  | mk (a rd wd hd:Addr) (k:Nat) (p:Word) (s:Rh04.Search) (h_0:vs=[.ref a,.int ((k:Nat):Int)]) (h_1:SearchAt S E H a rd wd hd p s) (h_2:∀(H':Hp) (t:Addr),H t=none->ToldAt H' t (Rh04.more k s).1->SearchAt S E H' a rd wd hd p (Rh04.more k s).2->(∀x o,H x=some o->x≠a->x≠rd->H' x=some o)->Q (.ref t) H'):spTell S E vs H Q xk_
section
variable {P:Program} {w:World} {K:PySem.W.Frag} {mg:Str->Option Value} {base:Heap}
theorem scTell:FnScope ["self","wanted","told","first"] ["self","wanted"] (defScope sTell):=⟨rfl,rfl,rfl,by decide +kernel,rfl,by decide +kernel,by decide +kernel⟩
theorem perm_erase {l m:List Ready} {j:Nat} {r:Ready} (h:l.Perm m) (hj:l[j]? =some r):(l.eraseIdx j).Perm (m.erase r):=by
  have:(r::l.eraseIdx j).Perm l:=by
    clear h
    induction l generalizing j with
    | nil=>simp at hj
    | cons x l ih=>
      cases j with
      | zero=>
        cases (Option.some.inj hj)
        exact List.Perm.refl _
      | succ j=>
        exact(List.Perm.swap _ _ _).trans ((ih hj).cons x)
  have h2:=(this.trans h).erase r
  rwa [List.erase_cons_head]at h2
theorem ToldAt.keep {H H':Hp} {t:Addr} {l:List Weighed} (h:ToldAt H t l) (k:∀x o,H x=some o->(∀C dx fs,o≠ .ins C dx fs)->(∀xs,o= .lst xs->x=t)->H' x=some o):ToldAt H' t l:=by
  obtain⟨ts,h1,h2⟩:=h
  exact⟨ts,k _ _ h1 (fun _ _ _ z=>nomatch z) (fun _ _=>rfl),Paired.imp' (fun b x hx=>by
    obtain⟨q,g1,g2⟩:=hx
    exact⟨q,k _ _ g1 (fun _ _ _ z=>nomatch z) (fun _ z=>nomatch z),k _ _ g2 (fun _ _ _ z=>nomatch z) (fun _ z=>nomatch z)⟩) h2⟩
theorem ReadyAt.keep2 {E:Addr} {H H':Hp} {rd z:Addr} {as:List Addr} {rs:List Ready} {zs:List V} (R:ReadyAt E H rd as rs) (hz:H z=some (.lst zs)) (hne:rd≠z) (k:∀x o,H x=some o->x≠z->H' x=some o):ReadyAt E H' rd as rs:=
  ⟨k _ _ R.lst hne,R.nd,Paired.imp' (fun b y hy=>by
    obtain⟨dx,q,h1,h2⟩:=hy
    exact⟨dx,q,k _ _ h1 (ne_of h1 hz (by intro e;cases e)),k _ _ h2 (ne_of h2 hz (by intro e;cases e))⟩) R.at_⟩
theorem ToldAt.keep2 {H H':Hp} {t a rd:Addr} {l:List Weighed} {C dx:Addr} {fs:List (Str×V)} {zs:List V} (h:ToldAt H t l) (ha:H a=some (.ins C dx fs)) (hr:H rd=some (.lst zs)) (ht:t≠rd) (k:∀x o,H x=some o->x≠a->x≠rd->H' x=some o):ToldAt H' t l:=by
  obtain⟨ts,h1,h2⟩:=h
  exact⟨ts,k _ _ h1 (ne_of h1 ha (by intro e;cases e)) ht,Paired.imp' (fun b x hx=>by
    obtain⟨q,g1,g2⟩:=hx
    exact⟨q,k _ _ g1 (ne_of g1 ha (by intro e;cases e)) (ne_of g1 hr (by intro e;cases e)),k _ _ g2 (ne_of g2 ha (by intro e;cases e)) (ne_of g2 hr (by intro e;cases e))⟩) h2⟩
theorem Paired.snoc' {α β:Type} {G:α->β->Prop} {a:List α} {c:List β} {x:α} {y:β} (h:Paired G a c) (g:G x y):Paired G (a++[x]) (c++[y]):=Paired.append' h (.cons g .nil)
theorem ok_tell {f S E fE fL fP fO fT:Addr} {fd fdE fdL fdP fdO fdT:FuncData} (F:Fun K "tell" "Search.tell" sTell f fd) (T:STxt K mg S E) (hSE:S≠E) (M:Mk K E fE) (FE:Fun K "__init__" "Entry.__init__" sEInit fE fdE) (bE:Binds K fdE ["self","weight","row","as_word"] [])
    (FL:Fun K "lay_beginning" "Search.lay_beginning" sLay fL fdL) (bL:Binds K fdL ["self","row"] []) (mL:Meth K S "lay_beginning" fL)
    (FP:Fun K "place_in_order" "place_in_order" sPio fP fdP) (bP:Binds K fdP ["entry"] []) (mP:mg "place_in_order"=some (.ref fP))
    (FO:Fun K "open_beginning" "Search.open_beginning" sOpen fO fdO) (bO:Binds K fdO ["self","row"] []) (mO:Meth K S "open_beginning" fO)
    (FT:Fun K "take_first" "Search.take_first" sTake fT fdT) (bT:Binds K fdT ["self"] []) (mT:Meth K S "take_first" fT):
    FnOk P w K mg base CX0 5 f fd ["self","wanted"] (spTell S E):=by
  have GO:FnOk P w K mg base CX0 4 fO fdO ["self","row"] (spOpen S E):=ok_open FO T hSE M FE bE FL bL mL
  have GT:FnOk P w K mg base CX0 3 fT fdT ["self"] (spTake S E):=ok_take FT T FP bP mP
  refine F.ok scTell (fun vs H Q E h=> ?_) (fun cdv A outer s H vs Q X hr h=> ?_)
  · obtain⟨a,rd,wd,hd,k,p,s,rfl,_⟩:=h
    rfl
  · obtain⟨a,rd,wd,hd,k,p,sr,rfl,SA,kq⟩:=h
    have hu:=hu_of hr
    have nd:=scTell.nd
    refine⟨_,pss_cons (ps_set (i:=2) nd rfl (Or.inl rfl) (pe_lst pa_nil))
      (pss_cons (ps_while PassesOwn.never (PW.pt (pw_and (pt_cmpR op_lt (pe_callB call_len_seq (by rfl) T.b.len PySem.boot_len (pa_cons (pv 2) pa_nil)) (pv 1) (nomark _)) (pw_and1 (pt_cmpR op_gt (pe_callB call_len_seq (by rfl) T.b.len PySem.boot_len (pa_cons (pe_fld (pv 0) rfl) pa_nil)) pe_int (nomark _)))))
        (pss_cons (ps_set (i:=3) nd rfl (Or.inl rfl) (pe_meth0 (pv 0) T.cl mT GT (hr.mono (by decide)) bT .nil pass0))
        (pss_one (ps_if (pt_val (pe_fld (pv 3) rfl))
          (pss_one (ps_expr (pe_bm PySem.F.plainAttrs_list PySem.F.slot_list_append PySem.F.type_list_append mt_append (pv 2) (pa_cons (pe_tup (pa_cons (pe_fld (pv 3) rfl) (pa_cons (pe_fld (pv 3) rfl) pa_nil))) pa_nil))))
          (pss_one (ps_expr (pe_meth (pv 0) T.cl mO GO hr bO .nil pass0 (pa_cons (pe_fld (pv 3) rfl) pa_nil))))))))
      (pss_one (ps_ret (pv 2)))),?_⟩
    refine⟨Nat.zero_le _,fun t ht=> ?_⟩
    obtain⟨⟨dx0,wt0,hv0,as0,rs0,ha0,hw0,hh0,R0,p0,S0⟩,G0,B0,few0,wg0,ws0⟩:=id SA
    have nta:a≠t:=ne_of_none ha0 ht
    have ntr:rd≠t:=ne_of_none R0.lst ht
    have nar:a≠rd:=ne_of ha0 R0.lst (by intro e;cases e)
    refine⟨fun m σ H'=>∃(v3:Option V) (s':Rh04.Search) (told:List Weighed),σ=[some (.ref a),some (.int ((k:Nat):Int)),some (.ref t),v3]/\m=Ty.rest s'/\SearchAt S E H' a rd wd hd p s'/\ToldAt H' t told/\
      Rh04.more k sr=(told++(Rh04.more (k - told.length) s').1,(Rh04.more (k - told.length) s').2)/\told.length≤k/\told.length+Ty.rest s'≤Ty.rest sr/\(∀x o,H x=some o->x≠a->x≠rd->H' x=some o),⟨_,none,sr,[],rfl,rfl,?_,⟨[],upd_same,.nil⟩,?_,Nat.zero_le _,?_,fun x o e _ _=>Same.new ht x o e⟩,?_⟩
    · have sm:Same H (upd H t (.lst [])):=Same.new ht
      exact⟨⟨dx0,wt0,hv0,as0,rs0,sm _ _ ha0,sm _ _ hw0,sm _ _ hh0,R0.keep fun x o e _=>sm x o e,p0,S0⟩,G0,B0,few0,wg0,ws0⟩
    · simp
    · simp
    rintro m σ H' ⟨v3,s',told,rfl,rfl,SA',TA,hmore,hk,hbud,st⟩
    obtain⟨⟨dx,wt,hv,as,rs,ha,hw,hh,R,pm,SR⟩,G,B,few,wg,ws⟩:=id SA'
    obtain⟨ts,ht1,ht2⟩:=id TA
    have hlt:ts.length=told.length:=Paired.len ht2
    have hlr:as.length=rs.length:=Paired.len R.at_
    refine⟨_,rfl,t,_,rfl,.inl (SqL.of ht1),_,rfl,_,_,rfl,rfl,_,rfl,?_⟩
    refine ite2 (fun hc=> ?_) (fun hc=> ?_)
    · have hc1:told.length < k:=by
        have:=of_decide_eq_true hc
        rw[List.length_map,hlt]at this
        omega
      refine⟨_,rfl,a,_,dx,_,_,rfl,ha,T.cl,T.nr,sf_ready _ _ _ _,rd,_,rfl,.inl (SqL.of R.lst),_,_,rfl,rfl,_,rfl,?_⟩
      refine ite2 (fun hd'=> ?_) (fun hd'=> ?_)
      · have hne:rs≠[]:=fun e=>by
          have:=of_decide_eq_true hd'
          rw[List.length_map,hlr,e]at this
          simp at this
        refine⟨fun σ' H''=>∃m',m' < Ty.rest s'/\∃(v3:Option V) (s':Rh04.Search) (told:List Weighed),σ'=[some (.ref a),some (.int ((k:Nat):Int)),some (.ref t),v3]/\m'=Ty.rest s'/\SearchAt S E H'' a rd wd hd p s'/\ToldAt H'' t told/\
          Rh04.more k sr=(told++(Rh04.more (k - told.length) s').1,(Rh04.more (k - told.length) s').2)/\told.length≤k/\told.length+Ty.rest s'≤Ty.rest sr/\(∀x o,H x=some o->x≠a->x≠rd->H'' x=some o),fun σ' H'' h=>h,?_⟩
        refine⟨_,rfl,a,dx,_,rfl,ha,sf_no _ _ _ _ (by decide +kernel) (by decide +kernel) (by decide +kernel) (by decide +kernel),a,dx,wd,hd,rd,_,as,rs,rfl,ha,R,hne,fun H2 j b r hb hr' hmin R2 e2 keep=> ?_⟩
        obtain⟨L,eL,pL⟩:=Ty.sort_head G.srt pm.symm (List.mem_of_getElem? hr') hmin
        have pE:(rs.eraseIdx j).Perm L:=(perm_erase (List.Perm.refl rs) hr').trans pL.symm
        have ha2:=keep _ _ ha nar
        have hw2:=keep _ _ hw (ne_of hw R.lst (by intro e;cases e))
        have hh2:=keep _ _ hh (ne_of hh R.lst (by intro e;cases e))
        have ht2':=keep _ _ ht1 (Ne.symm ntr)
        have TA2:ToldAt H2 t told:=TA.keep2 ha R.lst (Ne.symm ntr) fun x o e _ hx=>keep x o e hx
        obtain⟨d,q,hb1,hb2⟩:=id e2
        obtain⟨isw,it⟩:=r
        refine⟨_,rfl,b,_,d,_,_,rfl,hb1,T.e.cl,T.e.na,ef_word _ _ _,_,rfl,?_⟩
        cases isw with
        | true=>
          refine iteT ?_
          refine⟨_,rfl,.inl ⟨rfl,_,SqL.of ht2'⟩,_,rfl,b,_,d,_,_,rfl,hb1,T.e.cl,T.e.nr,ef_row _ _ _,_,rfl,b,_,d,_,_,rfl,hb1,T.e.cl,T.e.nw,ef_weight _ _ _,(by show 2≤sizeLine;decide),fun u hu'=> ?_⟩
          have sm3:Same H2 (upd H2 u (.tup [.ref q,.int ((it.2:Nat):Int)])):=Same.new hu'
          have nut:u≠t:=Ne.symm (ne_of_none ht2' hu')
          refine⟨t,_,.ref u,rfl,rfl,sm3 _ _ ht2',?_,?_⟩
          · rw[List.length_map,hlt]
            exact small20k (by omega)
          have keep4:∀x o,H2 x=some o->x≠t->upd (upd H2 u (.tup [.ref q,.int ((it.2:Nat):Int)])) t (.lst (ts.map V.ref++[.ref u])) x=some o:=fun x o e hx=>by rw[upd_ne hx];exact sm3 x o e
          have rl:=Ty.rest_word eL
          refine⟨_,rl,some (.ref b),{s' with ready:=L},told++[it],rfl,rfl,⟨⟨dx,wt,hv,_,_,keep4 _ _ ha2 nta,keep4 _ _ hw2 (ne_of hw2 ht2' (by intro e;cases e)),keep4 _ _ hh2 (ne_of hh2 ht2' (by intro e;cases e)),R2.keep2 ht2' ntr keep4,pE,SR⟩,Ty.take_good G eL,fun x hx=>B x (by rw[eL];exact List.mem_cons_of_mem _ hx),by omega,fun x hx=>wg x (by rw[eL];exact List.mem_cons_of_mem _ hx),ws⟩,?_,?_,?_,?_,fun x o e hxa hxr=>keep4 x o (keep x o (st x o e hxa hxr) hxr) (ne_of_none e ht)⟩
          · obtain⟨ts',g1,g2⟩:=TA2
            have:ts'=ts:=by
              rw[ht2']at g1
              injection g1 with g1
              injection g1 with g1
              exact(map_inj' (fun a b e=>by injection e) g1).symm
            subst this
            refine⟨ts'++[u],by rw[upd_same,List.map_append];rfl,Paired.snoc' (Paired.imp' (fun b x hx=> ?_) g2) ⟨q,?_,?_⟩⟩
            · obtain⟨q',f1,f2⟩:=hx
              exact⟨q',keep4 _ _ f1 (ne_of f1 ht2' (by intro e;cases e)),keep4 _ _ f2 (ne_of f2 ht2' (by intro e;cases e))⟩
            · rw[upd_ne nut,upd_same]
            · exact keep4 _ _ hb2 (ne_of hb2 ht2' (by intro e;cases e))
          · obtain⟨k',hk'⟩:∃k',k - told.length=k'+1:=⟨k - told.length - 1,by omega⟩
            rw[hmore,hk',Ty.more_word eL,List.length_append,List.length_singleton,show k - (told.length+1)=k' by omega]
            simp
          · rw[List.length_append,List.length_singleton];omega
          · rw[List.length_append,List.length_singleton];omega
        | false=>
          refine iteF ?_
          have hrow:it.1.length≤1000:=by
            obtain⟨x,hx,hb⟩:=G.has ⟨false,it⟩ (by rw[eL];exact List.mem_cons_self) rfl
            have h1:=Ty.begins_len hb
            have h2:=SR.len x hx
            have h1':it.1.length≤x.word.length:=h1
            omega
          have hfew:(as.eraseIdx j).length≤9000:=by
            have h1:=Paired.len R2.at_
            have h2:=pE.length_eq
            have h3:=Ty.ready_le G
            rw[eL]at h3
            simp only[List.length_cons]at h3
            omega
          refine⟨_,rfl,a,dx,_,rfl,ha2,sf_no _ _ _ _ (by decide +kernel) (by decide +kernel) (by decide +kernel) (by decide +kernel),_,rfl,b,_,d,_,_,rfl,hb1,T.e.cl,T.e.nr,ef_row _ _ _,a,q,dx,wd,hd,rd,_,wt,hv,_,_,it.1,rfl,ha2,hw2,hh2,R2,hb2,hfew,hrow,fun H3 bs ha3 R3 keep3=> ?_⟩
          have rl:=Ty.rest_open G eL
          have eo:=Ty.open_eq s' it.1 L
          have hpr:Rh04.begins p it.1=true:=B ⟨false,it⟩ (by rw[eL];exact List.mem_cons_self)
          have wo:(Rh04.open_ s' it.1 L).words=s'.words:=by rw[eo]
          have oo:(Rh04.open_ s' it.1 L).opened=s'.opened+1:=by rw[eo]
          refine⟨_,rl,some (.ref b),Rh04.open_ s' it.1 L,told,rfl,rfl,⟨⟨dx,wt,hv,_,_,by rw[oo];exact ha3,keep3 _ _ hw2 (ne_of hw R.lst (by intro e;cases e)) (ne_of hw2 ha2 (by intro e;cases e)),keep3 _ _ hh2 (ne_of hh R.lst (by intro e;cases e)) (ne_of hh2 ha2 (by intro e;cases e)),R3,?_,by rw[wo];exact SR⟩,Ty.open_good G eL,Ty.open_begins B eL,by omega,wg_open wg eL,by rw[wo];exact ws⟩,TA2.keep2 ha2 R2.lst (Ne.symm ntr) fun x o e hxa hxr=>keep3 x o e hxr hxa,?_,hk,by omega,fun x o e hxa hxr=>keep3 x o (keep x o (st x o e hxa hxr) hxr) hxr hxa⟩
          · rw[SR.fresh hpr]
            exact(pE.append_right _).trans (Ty.open_perm s' it.1 L).symm
          · obtain⟨k',hk'⟩:∃k',k - told.length=k'+1:=⟨k - told.length - 1,by omega⟩
            rw[hmore,hk',Ty.more_open G eL]
      · have e0:rs=[]:=by
          cases rs with
          | nil=>rfl
          | cons x l=>exact absurd (decide_eq_true (by rw[List.length_map,hlr,List.length_cons];omega)) hd'
        have er:s'.ready=[]:=by
          rw[e0]at pm
          exact List.nil_perm.mp pm
        rw[Ty.more_nil er]at hmore
        refine⟨_,rfl,kq H' t ht ?_ ?_ st⟩
        · rw[hmore,List.append_nil];exact TA
        · rw[hmore];exact SA'
    · have e0:told.length=k:=by
        have h1:¬((((ts.map V.ref).length:Nat):Int) < ((k:Nat):Int)):=fun z=>hc (decide_eq_true z)
        rw[List.length_map,hlt]at h1
        omega
      rw[e0,Nat.sub_self]at hmore
      have e1:Rh04.more 0 s'=([],s'):=rfl
      rw[e1]at hmore
      refine⟨_,rfl,kq H' t ht ?_ ?_ st⟩
      · rw[hmore,List.append_nil];exact TA
      · rw[hmore];exact SA'
end
end TyP
end
section
namespace TyP
open Rh04 (Ready Item Weighed)
def wdOf (d:List Item):WD:=d.map fun x=>(x.word,Rh04.weight x)
theorem wdOf_keys (d:List Item):(wdOf d).map (·.1)=d.map (·.word):=by unfold wdOf;rw[List.map_map];rfl
theorem wdOf_wtb (d:List Item) (p:Word):wtb (wdOf d) p=wdOf (d.filter fun x=>Rh04.begins p x.word):=by
  unfold wtb wdOf
  rw[List.filter_map]
  rfl
theorem look_wdOf (d:List Item) (r:Word):look (wdOf d) r=(Rh04.find_ d r).map Rh04.weight:=by
  unfold look wdOf Rh04.find_
  induction d with
  | nil=>rfl
  | cons x d ih=>
    rw[List.map_cons,List.find?_cons,List.find?_cons]
    by_cases h:x.word=r
    · rw[show(x.word == r)=true from by simpa using h]
      simp[h]
    · rw[show(x.word == r)=false from by simpa using h]
      simp only[h,decide_false]
      exact ih
theorem find_filter {d:List Item} {p r:Word} (h:Rh04.begins p r=true):Rh04.find_ (d.filter fun x=>Rh04.begins p x.word) r=Rh04.find_ d r:=by
  unfold Rh04.find_
  rw[List.find?_filter]
  congr 1
  funext x
  by_cases e:x.word=r
  · rw[e,h];simp
  · rw[show(x.word == r)=false from by simpa using e];simp
theorem top_filter {d:List Item} {p r:Word} (h:Rh04.begins p r=true):Rh04.top (d.filter fun x=>Rh04.begins p x.word) r=Rh04.top d r:=by
  induction d with
  | nil=>rfl
  | cons x d ih=>
    rw[List.filter_cons]
    by_cases e:Rh04.begins p x.word=true
    · rw[if_pos e,Ty.top_cons,Ty.top_cons,ih]
    · rw[if_neg e,ih,Ty.top_cons,if_neg (fun q=>e (Ty.begins_trans h q))]
theorem any_filter {d:List Item} {p r:Word} (h:Rh04.begins p r=true):((d.filter fun x=>Rh04.begins p x.word).any fun x=>Rh04.begins r x.word)=d.any fun x=>Rh04.begins r x.word:=by
  rw[List.any_filter]
  congr 1
  funext x
  cases e:Rh04.begins r x.word with
  | false=>rw[Bool.and_false]
  | true=>rw[Ty.begins_trans h e,Bool.true_and]
theorem look_put (l:WD) (r q:Word) (n:Nat):look (putW l r n) q=if q=r then some n else look l q:=by
  unfold putW look
  by_cases h:(l.any fun p=>decide (p.1=r))=true
  · rw[if_pos h]
    induction l with
    | nil=>simp at h
    | cons x l ih=>
      rw[List.map_cons,List.find?_cons,List.find?_cons]
      by_cases e:x.1=r
      · rw[if_pos e]
        by_cases e2:q=r
        · subst e2;simp[e]
        · rw[if_neg e2]
          have e3:¬x.1=q:=fun z=>e2 (z.symm.trans e)
          simp only[e3,decide_false]
          by_cases h2:(l.any fun p=>decide (p.1=r))=true
          · have:=ih h2
            rw[if_neg e2]at this
            exact this
          · have:l.map (fun p=>if p.1=r then(p.1,n)else p)=l:=by
              have:∀p∈l,(if p.1=r then(p.1,n)else p)=p:=fun p hp=>by
                rw[if_neg]
                intro z
                exact h2 (List.any_eq_true.mpr ⟨p,hp,decide_eq_true z⟩)
              exact(List.map_congr_left this).trans (List.map_id' l)
            rw[this]
      · rw[if_neg e]
        have h2:(l.any fun p=>decide (p.1=r))=true:=by
          rw[List.any_cons,decide_eq_false e,Bool.false_or]at h
          exact h
        by_cases e3:x.1=q
        · rw[if_neg (fun z=>e (e3.trans z))]
          simp[e3]
        · simp only[e3,decide_false]
          exact ih h2
  · rw[if_neg h,List.find?_append]
    by_cases e:q=r
    · rw[if_pos e]
      have:(l.find? fun p=>decide (p.1=q))=none:=by
        rw[List.find?_eq_none]
        intro p hp z
        exact h (List.any_eq_true.mpr ⟨p,hp,decide_eq_true ((of_decide_eq_true z).trans e)⟩)
      rw[this]
      simp[e]
    · rw[if_neg e]
      have e':¬r=q:=fun z=>e z.symm
      cases (l.find? fun p=>decide (p.1=q))with
      | some v=>rfl
      | none=>simp[e']
theorem look_bumps (acc:WD) (w:Word) (n pl:Nat) (q:Word):∀j,look (bumps acc w n pl j) q=if (∃i,i < j/\q=w.take (pl+i))then some (max n ((look acc q).getD 0))else look acc q
  | 0=>by
    rw[if_neg (by rintro⟨i,hi,_⟩;omega)]
    rfl
  | j+1=>by
    rw[bumps_succ]
    unfold bump
    rw[look_put]
    have ih:=look_bumps acc w n pl q j
    by_cases e:q=w.take (pl+j)
    · rw[if_pos e,if_pos ⟨j,by omega,e⟩,←e,ih]
      by_cases h:∃i,i < j/\q=w.take (pl+i)
      · rw[if_pos h]
        simp
        omega
      · rw[if_neg h]
    · rw[if_neg e,ih]
      by_cases h:∃i,i < j/\q=w.take (pl+i)
      · obtain⟨i,hi,hq⟩:=h
        rw[if_pos ⟨i,hi,hq⟩,if_pos ⟨i,by omega,hq⟩]
      · rw[if_neg h,if_neg]
        rintro⟨i,hi,hq⟩
        by_cases z:i=j
        · subst z;exact e hq
        · exact h ⟨i,by omega,hq⟩
theorem take_iff {w q:Word} {pl:Nat} (hw:pl≤w.length) (hq:pl≤q.length):(∃i,i < w.length+1 - pl/\q=w.take (pl+i))↔Rh04.begins q w=true:=by
  rw[Ty.begins_take]
  constructor
  · rintro⟨i,hi,rfl⟩
    rw[List.length_take,Nat.min_eq_left (by omega)]
  · intro h
    have hl:q.length≤w.length:=by
      rw[←h,List.length_take]
      exact Nat.min_le_right _ _
    exact⟨q.length - pl,by omega,by rw[show pl+(q.length - pl)=q.length by omega,h]⟩
theorem look_heavy {d:List Item} {p:Word} (hb:∀x∈d,Rh04.begins p x.word=true) (q:Word) (hq:p.length≤q.length):∀i,look (heavy ((wdOf d).take i) p.length) q=if ((d.take i).any fun x=>Rh04.begins q x.word)=true then some (Rh04.top (d.take i) q)else none
  | 0=>by simp[heavy,look]
  | i+1=>by
    have ih:=look_heavy hb q hq i
    by_cases h:i < d.length
    · have e1:d[i]? =some d[i]:=List.getElem?_eq_getElem h
      have e2:(wdOf d)[i]? =some (d[i].word,Rh04.weight d[i]):=by unfold wdOf;rw[List.getElem?_map,e1];rfl
      have hbw:=hb _ (List.getElem_mem h)
      rw[take_snoc e2,heavy_snoc,look_bumps,take_snoc e1,List.any_append,List.any_cons,List.any_nil,Bool.or_false,ih]
      have et:Rh04.top (d.take i++[d[i]]) q=if Rh04.begins q d[i].word=true then max (Rh04.weight d[i]) (Rh04.top (d.take i) q)else Rh04.top (d.take i) q:=by
        rw[Ty.top_perm (List.perm_append_comm (l₁:=d.take i) (l₂:=[d[i]])) q]
        exact Ty.top_cons _ _ _
      rw[et]
      by_cases c:Rh04.begins q d[i].word=true
      · rw[if_pos ((take_iff (Ty.begins_len hbw) hq).mpr c),if_pos c,if_pos (show(((d.take i).any fun x=>Rh04.begins q x.word) || Rh04.begins q d[i].word)=true by rw[c,Bool.or_true])]
        by_cases a:((d.take i).any fun x=>Rh04.begins q x.word)=true
        · rw[if_pos a]
          rfl
        · rw[if_neg a]
          have z:Rh04.top (d.take i) q=0:=by
            unfold Rh04.top
            have:(d.take i).filter (fun x=>Rh04.begins q x.word)=[]:=by
              rw[List.filter_eq_nil_iff]
              intro x hx hz
              exact a (List.any_eq_true.mpr ⟨x,hx,hz⟩)
            rw[this]
            rfl
          rw[z]
          rfl
      · rw[if_neg (fun z=>c ((take_iff (Ty.begins_len hbw) hq).mp z)),if_neg c]
        have c':Rh04.begins q d[i].word=false:=by
          cases z:Rh04.begins q d[i].word with
          | false=>rfl
          | true=>exact absurd z c
        rw[c',Bool.or_false]
    · have e1:(wdOf d).length=d.length:=by unfold wdOf;rw[List.length_map]
      rw[List.take_of_length_le (by omega),List.take_of_length_le (by omega)]
      rw[List.take_of_length_le (by omega),List.take_of_length_le (by omega)]at ih
      exact ih
theorem put_keys (l:WD) (r:Word) (n:Nat):(putW l r n).map (·.1)=if r∈l.map (·.1)then l.map (·.1)else l.map (·.1)++[r]:=by
  unfold putW
  by_cases h:(l.any fun p=>decide (p.1=r))=true
  · have:r∈l.map (·.1):=by
      obtain⟨p,hp,e⟩:=List.any_eq_true.mp h
      exact List.mem_map.mpr ⟨p,hp,of_decide_eq_true e⟩
    rw[if_pos h,if_pos this,List.map_map]
    congr 1
    funext p
    show(if p.1=r then(p.1,n)else p).1=p.1
    split <;> rfl
  · have:r ∉ l.map (·.1):=fun z=>by
      obtain⟨p,hp,e⟩:=List.mem_map.mp z
      exact h (List.any_eq_true.mpr ⟨p,hp,decide_eq_true e⟩)
    rw[if_neg h,if_neg this,List.map_append]
    rfl
theorem put_nodup {l:WD} {r:Word} {n:Nat} (h:(l.map (·.1)).Nodup):((putW l r n).map (·.1)).Nodup:=by
  rw[put_keys]
  by_cases e:r∈l.map (·.1)
  · rw[if_pos e];exact h
  · rw[if_neg e];exact L2.nd_snoc h e
theorem bumps_nodup {acc:WD} {w:Word} {n pl:Nat} (h:(acc.map (·.1)).Nodup):∀j,((bumps acc w n pl j).map (·.1)).Nodup
  | 0=>h
  | j+1=>by
    rw[bumps_succ]
    exact put_nodup (bumps_nodup h j)
theorem heavy_nodup (l:WD) (pl:Nat):((heavy l pl).map (·.1)).Nodup:=by
  unfold heavy
  have:∀(l acc:WD),(acc.map (·.1)).Nodup->((l.foldl (fun acc q=>bumps acc q.1 q.2 pl (q.1.length+1 - pl)) acc).map (·.1)).Nodup:=by
    intro l
    induction l with
    | nil=>intro acc h;exact h
    | cons q l ih=>intro acc h;exact ih _ (bumps_nodup h _)
  exact this l [] (by simp)
theorem look_mem (l:WD) (r:Word):(look l r).isSome=true↔r∈l.map (·.1):=by
  unfold look
  rw[Option.isSome_map,List.find?_isSome]
  constructor
  · rintro⟨p,hp,e⟩
    exact List.mem_map.mpr ⟨p,hp,of_decide_eq_true e⟩
  · intro h
    obtain⟨p,hp,e⟩:=List.mem_map.mp h
    exact⟨p,hp,decide_eq_true e⟩
theorem keys_long {d:List Item} {p:Word} (hb:∀x∈d,Rh04.begins p x.word=true):∀i,∀r∈(heavy ((wdOf d).take i) p.length).map (·.1),p.length≤r.length
  | 0=>by simp[heavy]
  | i+1=>by
    have ih:=keys_long hb i
    by_cases h:i < d.length
    · have e1:d[i]? =some d[i]:=List.getElem?_eq_getElem h
      have e2:(wdOf d)[i]? =some (d[i].word,Rh04.weight d[i]):=by unfold wdOf;rw[List.getElem?_map,e1];rfl
      have hl:=Ty.begins_len (hb _ (List.getElem_mem h))
      rw[take_snoc e2,heavy_snoc]
      have:∀j,j≤d[i].word.length+1 - p.length->∀r∈(bumps (heavy ((wdOf d).take i) p.length) d[i].word (Rh04.weight d[i]) p.length j).map (·.1),p.length≤r.length:=by
        intro j
        induction j with
        | zero=>intro _;exact ih
        | succ j ihj=>
          intro hj r hr
          rw[bumps_succ]at hr
          unfold bump at hr
          rw[put_keys]at hr
          have h1:=ihj (by omega)
          split at hr
          · exact h1 r hr
          · rcases List.mem_append.mp hr with z | z
            · exact h1 r z
            · rw[List.mem_singleton.mp z,List.length_take]
              omega
      exact this _ (Nat.le_refl _)
    · have e1:(wdOf d).length=d.length:=by unfold wdOf;rw[List.length_map]
      rw[List.take_of_length_le (by omega)]
      rw[List.take_of_length_le (by omega)]at ih
      exact ih
theorem seen_mem (w:Word):∀(l acc:List Word),w∈l.foldl (fun l w=>if l.contains w=true then l else l++[w]) acc↔w∈acc∨w∈l
  | [],acc=>by simp
  | x::l,acc=>by
    rw[List.foldl_cons,seen_mem w l]
    by_cases h:acc.contains x=true
    · rw[if_pos h]
      have hx:x∈acc:=by simpa using h
      constructor
      · rintro(q | q)
        · exact .inl q
        · exact .inr (List.mem_cons_of_mem _ q)
      · rintro(q | q)
        · exact .inl q
        · rcases List.mem_cons.mp q with e | e
          · rw[e];exact .inl hx
          · exact .inr e
    · rw[if_neg h,List.mem_append,List.mem_singleton,List.mem_cons]
      constructor
      · rintro((q | q) | q)
        · exact .inl q
        · exact .inr (.inl q)
        · exact .inr (.inr q)
      · rintro(q | q | q)
        · exact .inl (.inl q)
        · exact .inl (.inr q)
        · exact .inr q
theorem seen_nodup:∀(l:List Word) {acc:List Word},acc.Nodup->(l.foldl (fun l w=>if l.contains w=true then l else l++[w]) acc).Nodup
  | [],_,h=>h
  | x::l,acc,h=>by
    rw[List.foldl_cons]
    refine seen_nodup l ?_
    by_cases e:acc.contains x=true
    · rw[if_pos e];exact h
    · rw[if_neg e];exact L2.nd_snoc h (by simpa using e)
theorem reaches_mem (d:List Item) (p r:Word):r∈Rh04.reaches d p↔p.length≤r.length/\∃x∈d,Rh04.begins p x.word=true/\Rh04.begins r x.word=true:=by
  unfold Rh04.reaches
  rw[seen_mem]
  simp only[List.not_mem_nil,false_or,List.mem_flatMap,List.mem_filter,List.mem_map,List.mem_range,decide_eq_true_eq]
  constructor
  · rintro⟨x,⟨hx,hb⟩,n,⟨hn,hp⟩,rfl⟩
    refine⟨by rw[List.length_take];omega,x,hx,hb,?_⟩
    rw[Ty.begins_take,List.length_take,Nat.min_eq_left (by omega)]
  · rintro⟨hl,x,hx,hb,hr⟩
    exact⟨x,⟨hx,hb⟩,r.length,⟨by have:=Ty.begins_len hr;omega,hl⟩,(Ty.begins_take r x.word).mp hr⟩
theorem heavy_count {d d':List Item} {p:Word} (hp:d'.Perm d):(heavy (wdOf (d'.filter fun x=>Rh04.begins p x.word)) p.length).length=(Rh04.reaches d p).length:=by
  have hb:∀x∈d'.filter (fun x=>Rh04.begins p x.word),Rh04.begins p x.word=true:=fun x hx=>(List.mem_filter.mp hx).2
  have e0:(wdOf (d'.filter fun x=>Rh04.begins p x.word)).take (d'.filter fun x=>Rh04.begins p x.word).length=wdOf (d'.filter fun x=>Rh04.begins p x.word):=by
    rw[List.take_of_length_le]
    unfold wdOf
    rw[List.length_map]
    exact Nat.le_refl _
  have n1:=heavy_nodup (wdOf (d'.filter fun x=>Rh04.begins p x.word)) p.length
  have n2:(Rh04.reaches d p).Nodup:=by unfold Rh04.reaches;exact seen_nodup _ (by simp)
  have h:=(List.perm_ext_iff_of_nodup n1 n2).mpr fun r=>by
    rw[reaches_mem]
    constructor
    · intro hr
      have hlen:=keys_long hb (d'.filter fun x=>Rh04.begins p x.word).length r (by rw[e0];exact hr)
      have hs:=(look_mem _ r).mpr hr
      have hk:=look_heavy hb r hlen (d'.filter fun x=>Rh04.begins p x.word).length
      rw[e0,List.take_length]at hk
      rw[hk]at hs
      by_cases a:((d'.filter fun x=>Rh04.begins p x.word).any fun x=>Rh04.begins r x.word)=true
      · obtain⟨x,hx,hxr⟩:=List.any_eq_true.mp a
        obtain⟨h1,h2⟩:=List.mem_filter.mp hx
        exact⟨hlen,x,hp.mem_iff.mp h1,h2,hxr⟩
      · rw[if_neg a]at hs
        cases hs
    · rintro⟨hlen,x,hx,hbp,hbr⟩
      refine(look_mem _ r).mp ?_
      have hk:=look_heavy hb r hlen (d'.filter fun x=>Rh04.begins p x.word).length
      rw[e0,List.take_length]at hk
      rw[hk,if_pos (List.any_eq_true.mpr ⟨x,List.mem_filter.mpr ⟨hp.mem_iff.mpr hx,hbp⟩,hbr⟩)]
      rfl
  have:=h.length_eq
  rw[List.length_map]at this
  exact this
theorem src_of {d d':List Item} {p:Word} (hp:d'.Perm d) (hn:(d.map (·.word)).Nodup) (abc:∀x∈d,∀a∈x.word,1≤a/\a≤26) (len:∀x∈d,x.word.length≤100):Src d p (wtb (wdOf d') p) (heavy (wtb (wdOf d') p) p.length):=by
  have hn':(d'.map (·.word)).Nodup:=(hp.map _).nodup_iff.mpr hn
  have hb:∀x∈d'.filter (fun x=>Rh04.begins p x.word),Rh04.begins p x.word=true:=fun x hx=>(List.mem_filter.mp hx).2
  have e0:(wdOf (d'.filter fun x=>Rh04.begins p x.word)).take (d'.filter fun x=>Rh04.begins p x.word).length=wdOf (d'.filter fun x=>Rh04.begins p x.word):=by
    rw[List.take_of_length_le]
    unfold wdOf
    rw[List.length_map]
    exact Nat.le_refl _
  refine⟨by rw[wdOf_wtb];exact heavy_count hp,by rw[wdOf_wtb];unfold wdOf;rw[List.length_map];exact(hp.filter _).length_eq,fun r hr=> ?_,fun r hr=> ?_,abc,len⟩
  · rw[wdOf_wtb,look_wdOf,find_filter hr,Ty.find_perm hp hn' r]
  · have hk:=look_heavy hb r (Ty.begins_len hr) (d'.filter fun x=>Rh04.begins p x.word).length
    rw[e0,List.take_length]at hk
    rw[wdOf_wtb,hk,any_filter hr,top_filter hr,hp.any_eq,Ty.top_perm hp r]
end TyP
end
section
namespace TyP
open PySem PySem.Spec PyProof.Rows L2 TyR
open Rh04 (Ready Item Weighed)
inductive spSInit (S E:Addr) (vs:List V) (H:Hp) (Q:VK) (xk_:XK):Prop
  | mk (a wa ty dx:Addr) (d d':List Item) (p:Word) (h_0:vs=[.ref a,.ref wa,.ref ty]) (h_1:H a=some (.ins S dx [])) (h_2:H wa=some (.dT (dictW (wdOf d')))) (h_3:H ty=some (.tup (rowV p))) (h_4:d'.Perm d) (h_5:Words d) (h_6:p.length≤100) (h_7:∀(H':Hp) (rd wd hd:Addr),H rd=none->H wd=none->H hd=none->SearchAt S E H' a rd wd hd p (Rh04.start d p)->(∀x o,H x=some o->x≠a->H' x=some o)->Q .non H'):spSInit S E vs H Q xk_
section
variable {P:Program} {w:World} {K:PySem.W.Frag} {mg:Str->Option Value} {base:Heap}
theorem scSInit:FnScope ["self","weights","typed"] ["self","weights","typed"] (defScope sSInit):=⟨rfl,rfl,rfl,by decide +kernel,rfl,by decide +kernel,by decide +kernel⟩
theorem wdOf_len (d:List Item):(wdOf d).length=d.length:=by unfold wdOf;rw[List.length_map]
theorem wtb_len (l:WD) (p:Word):(wtb l p).length≤l.length:=List.length_filter_le _ _
theorem wdOf_short {d:List Item} {n:Nat} (h:∀x∈d,x.word.length≤n):∀q∈wdOf d,q.1.length≤n:=fun q hq=>by
  obtain⟨x,hx,rfl⟩:=List.mem_map.mp hq
  exact h x hx
theorem ok_sinit {f S E fE fL fW fH:Addr} {fd fdE fdL fdW fdH:FuncData} (F:Fun K "__init__" "Search.__init__" sSInit f fd) (T:STxt K mg S E) (M:Mk K E fE) (FE:Fun K "__init__" "Entry.__init__" sEInit fE fdE) (bE:Binds K fdE ["self","weight","row","as_word"] [])
    (FL:Fun K "lay_beginning" "Search.lay_beginning" sLay fL fdL) (bL:Binds K fdL ["self","row"] []) (mL:Meth K S "lay_beginning" fL)
    (FW:Fun K "words_that_begin" "words_that_begin" sWtb fW fdW) (bW:Binds K fdW ["weights","typed"] []) (gW:mg "words_that_begin"=some (.ref fW)) (kW:PySem.W.keepIn K (.ref fW)=true)
    (FH:Fun K "heaviest_words" "heaviest_words" sHvy fH fdH) (bH:Binds K fdH ["weights","typed"] []) (gH:mg "heaviest_words"=some (.ref fH)) (kH:PySem.W.keepIn K (.ref fH)=true):
    FnOk P w K mg base CX0 4 f fd ["self","weights","typed"] (spSInit S E):=by
  have GL:FnOk P w K mg base CX0 3 fL fdL ["self","row"] (spLay S E):=ok_lay FL T M FE bE
  have GW:FnOk P w K mg base CX0 1 fW fdW ["weights","typed"] spWtb:=ok_wtb FW T.b
  have GH:FnOk P w K mg base CX0 1 fH fdH ["weights","typed"] spHvy:=ok_hvy FH T.b
  refine F.ok scSInit (fun vs H Q E h=> ?_) (fun cdv A outer s H vs Q X hr h=> ?_)
  · obtain⟨a,wa,ty,dx,d,d',p,rfl,_⟩:=h
    rfl
  · obtain⟨a,wa,ty,dx,d,d',p,rfl,ha,hw,ht,hp,W,hpl,k⟩:=h
    have W':=W.perm hp
    have hr1:Room 1 _:=hr.mono (by decide)
    refine⟨_,pss_cons (ps_fld (pv 0) (pe_call GW hr1 rfl gW kW bW .nil pass0 (pa_cons (pv 1) (pa_cons (pv 2) pa_nil))) rfl)
      (pss_cons (ps_fld (pv 0) (pe_call GH hr1 rfl gH kH bH .nil pass0 (pa_cons (pe_fld (pv 0) rfl) (pa_cons (pv 2) pa_nil))) rfl)
      (pss_cons (ps_fld (pv 0) (pe_lst pa_nil) rfl)
      (pss_cons (ps_fld (pv 0) pe_int rfl)
      (pss_one (ps_expr (pe_meth (pv 0) T.cl mL GL hr bL .nil pass0 (pa_cons (pv 2) pa_nil))))))),?_⟩
    refine⟨_,rfl,_,rfl,wa,ty,wdOf d',p,rfl,hw,ht,?_,?_,?_,by omega,fun H1 c1 s1 n1 e1=> ?_⟩
    · rw[wdOf_keys];exact W'.nd
    · rw[wdOf_len];have:=W'.few;omega
    · exact wdOf_short fun x hx=>by have:=W'.len x hx;omega
    have ha1:=s1 _ _ ha
    have nac1:a≠c1:=ne_of_none ha n1
    refine⟨_,rfl,a,_,dx,_,rfl,ha1,T.cl,T.nw,(by show 0 < 1000;decide),?_⟩
    generalize hH2:upd H1 a (.ins S dx (putF "weight_of" (.ref c1) []))=H2
    have k2:∀x o,H1 x=some o->x≠a->H2 x=some o:=fun x o e hx=>by rw[←hH2,upd_ne hx];exact e
    have ha2:H2 a=some (.ins S dx (putF "weight_of" (.ref c1) [])):=by rw[←hH2];exact upd_same
    have hc2:=k2 _ _ e1 (Ne.symm nac1)
    have nta:ty≠a:=ne_of ht ha (by intro z;cases z)
    have ht2:=k2 _ _ (s1 _ _ ht) nta
    have hlw:(wtb (wdOf d') p).length≤60:=by
      have h1:=wtb_len (wdOf d') p
      rw[wdOf_len]at h1
      have:=W'.few
      omega
    refine⟨_,rfl,a,_,dx,_,_,rfl,ha2,T.cl,T.nw,(by rw[lookup_putF,if_pos rfl]),_,rfl,c1,ty,wtb (wdOf d') p,p,rfl,hc2,ht2,by omega,?_,hpl,fun H3 c2 s3 n3 e3=> ?_⟩
    · rw[wdOf_wtb]
      exact wdOf_short fun x hx=>by have:=W'.len x (List.mem_filter.mp hx).1;omega
    have ha3:=s3 _ _ ha2
    have nac2:a≠c2:=ne_of_none ha2 n3
    refine⟨_,rfl,a,_,dx,_,rfl,ha3,T.cl,T.nh,Nat.lt_of_le_of_lt (length_putF _ _ _) (by show 1 < 1000;decide),?_⟩
    generalize hH4:upd H3 a (.ins S dx (putF "heaviest" (.ref c2) (putF "weight_of" (.ref c1) [])))=H4
    have k4:∀x o,H3 x=some o->x≠a->H4 x=some o:=fun x o e hx=>by rw[←hH4,upd_ne hx];exact e
    have ha4:H4 a=some (.ins S dx (putF "heaviest" (.ref c2) (putF "weight_of" (.ref c1) []))):=by rw[←hH4];exact upd_same
    have hc4:=k4 _ _ (s3 _ _ hc2) (Ne.symm nac1)
    have hh4:=k4 _ _ e3 (Ne.symm nac2)
    have ht4:=k4 _ _ (s3 _ _ ht2) nta
    refine⟨Nat.zero_le _,fun rd hrd=> ?_⟩
    have s5:Same H4 (upd H4 rd (.lst [])):=Same.new hrd
    have nar:a≠rd:=ne_of_none ha4 hrd
    refine⟨_,rfl,a,_,dx,_,rfl,s5 _ _ ha4,T.cl,T.nr,Nat.lt_of_le_of_lt (length_putF _ _ _) (Nat.lt_of_le_of_lt (Nat.succ_le_succ (length_putF _ _ _)) (by show 2 < 1000;decide)),?_⟩
    refine⟨_,rfl,a,_,dx,_,rfl,upd_same,T.cl,T.no,Nat.lt_of_le_of_lt (length_putF _ _ _) (Nat.lt_of_le_of_lt (Nat.succ_le_succ (length_putF _ _ _)) (Nat.lt_of_le_of_lt (Nat.succ_le_succ (Nat.succ_le_succ (length_putF _ _ _))) (by show 3 < 1000;decide))),?_⟩
    have ef:upd (upd (upd H4 rd (.lst [])) a (.ins S dx (putF "ready" (.ref rd) (putF "heaviest" (.ref c2) (putF "weight_of" (.ref c1) []))))) a (.ins S dx (putF "opened" (.int 0) (putF "ready" (.ref rd) (putF "heaviest" (.ref c2) (putF "weight_of" (.ref c1) [])))))=upd (upd H4 rd (.lst [])) a (.ins S dx (sf c1 c2 rd 0)):=by
      rw[upd_upd]
      rfl
    rw[ef]
    generalize hH6:upd (upd H4 rd (.lst [])) a (.ins S dx (sf c1 c2 rd 0))=H6
    have k6:∀x o,H4 x=some o->x≠a->H6 x=some o:=fun x o e hx=>by rw[←hH6,upd_ne hx];exact s5 x o e
    have ha6:H6 a=some (.ins S dx (sf c1 c2 rd 0)):=by rw[←hH6];exact upd_same
    have hr6:H6 rd=some (.lst []):=by rw[←hH6,upd_ne (Ne.symm nar)];exact upd_same
    have hc6:=k6 _ _ hc4 (Ne.symm nac1)
    have hh6:=k6 _ _ hh4 (Ne.symm nac2)
    have ht6:=k6 _ _ ht4 nta
    have R6:ReadyAt E H6 rd [] []:=⟨hr6,by simp,.nil⟩
    refine⟨_,rfl,a,dx,_,rfl,ha6,sf_no _ _ _ _ (by decide +kernel) (by decide +kernel) (by decide +kernel) (by decide +kernel),_,rfl,a,ty,dx,c1,c2,rd,0,_,[],[],p,rfl,ha6,hh6,R6,ht6,by decide,fun H7 bs R7 k7=> ?_⟩
    have hold:∀x o,H x=some o->x≠a->H4 x=some o:=fun x o e hx=>k4 x o (s3 x o (k2 x o (s1 x o e) hx)) hx
    have nrd:H rd=none:=by
      cases e:H rd with
      | none=>rfl
      | some o=>
        have:=hold rd o e (Ne.symm nar)
        rw[hrd]at this
        cases this
    have nc2:H c2=none:=by
      cases e:H c2 with
      | none=>rfl
      | some o=>
        have:=k2 c2 o (s1 c2 o e) (Ne.symm nac2)
        rw[n3]at this
        cases this
    have SR:Src d p (wtb (wdOf d') p) (heavy (wtb (wdOf d') p) p.length):=src_of hp W.nd W.abc fun x hx=>by have:=W.len x hx;omega
    refine k H7 rd c1 c2 nrd n1 nc2 ⟨⟨dx,_,_,_,_,k7 _ _ ha6 nar,k7 _ _ hc6 (ne_of hc6 hr6 (by intro z;cases z)),k7 _ _ hh6 (ne_of hh6 hr6 (by intro z;cases z)),R7,?_,SR⟩,Ty.start_good d p,Ty.start_begins d p,?_,?_,W⟩ fun x o e hx=>k7 x o (k6 x o (hold x o e hx) hx) (fun z=>by rw[z,nrd]at e;cases e)
    · unfold layOf Rh04.start
      rw[SR.hv p (Ty.begins_self p),List.nil_append]
      by_cases q:(d.any fun x=>Rh04.begins p x.word)=true
      · rw[if_pos q,if_pos q]
      · rw[if_neg q,if_neg q]
    · have h1:=Ty.rest_start d p
      have h2:=W.size
      omega
    · intro x hx xw
      unfold Rh04.start at hx
      split at hx
      · rw[List.mem_singleton.mp hx]at xw
        cases xw
      · simp at hx
end
end TyP
end
section
namespace TyR
open PySem PySem.Spec PyProof.Rows L2
section
open PySem.AutoSeq1 (wpAny_loadPart' idx_int)
end
section
variable {X:Cx}
end
end TyR
namespace TyP
open PySem PySem.Spec PyProof.Rows L2 TyR
open Rh04 (Ready Item Weighed)
abbrev sAre:Stmt:=top 33
abbrev sIsw:Stmt:=top 34
abbrev sCan:Stmt:=top 35
abbrev sTww:Stmt:=top 37
structure Nums (mg:Str->Option Value):Prop where
  last:∃t,mg "LAST_LETTER"=some (.int 26 t)
  ten:∃t,mg "MOST_WORD_LETTERS"=some (.int 10 t)
  twelve:∃t,mg "MOST_LETTERS_TYPED"=some (.int 12 t)
inductive spAre (vs:List V) (H:Hp) (Q:VK) (xk_:XK):Prop
  | mk (q:Addr) (r:Word) (h_0:vs=[.ref q]) (h_1:H q=some (.tup (rowV r))) (h_2:r.length≤1000) (h_3:∀H',Same H H'->Q (.bl (r.all Rh04.isLetter)) H'):spAre vs H Q xk_
inductive spIsw (vs:List V) (H:Hp) (Q:VK) (xk_:XK):Prop
  | mk (q:Addr) (r:Word) (h_0:vs=[.ref q]) (h_1:H q=some (.tup (rowV r))) (h_2:r.length≤1000) (h_3:∀H',Same H H'->Q (.bl (Rh04.isWord r)) H'):spIsw vs H Q xk_
inductive spCan (vs:List V) (H:Hp) (Q:VK) (xk_:XK):Prop
  | mk (q:Addr) (r:Word) (h_0:vs=[.ref q]) (h_1:H q=some (.tup (rowV r))) (h_2:r.length≤1000) (h_3:∀H',Same H H'->Q (.bl (Rh04.isTyped r)) H'):spCan vs H Q xk_
section
variable {P:Program} {w:World} {K:PySem.W.Frag} {mg:Str->Option Value} {base:Heap}
theorem scAre:FnScope ["row","letter"] ["row"] (defScope sAre):=⟨rfl,rfl,rfl,by decide +kernel,rfl,by decide +kernel,by decide +kernel⟩
theorem ok_are {f:Addr} {fd:FuncData} (F:Fun K "are_letters" "are_letters" sAre f fd) (B:Blt mg) (N:Nums mg):FnOk P w K mg base CX0 1 f fd ["row"] spAre:=by
  refine F.ok scAre (fun vs H Q E h=> ?_) (fun cdv A outer s H vs Q E hr h=> ?_)
  · obtain⟨q,r,rfl,_⟩:=h
    rfl
  · obtain⟨q,r,rfl,hq,hl,k⟩:=h
    obtain⟨tk,hL⟩:=N.last
    refine⟨_,pss_one (ps_ret (pe_callB (cr_all rfl) (by rfl) B.all PyProof.Rows.boot_all (pa_cons (pe_lc (own:=[("letter",1)]) rfl scAre.nd (pi_tup (pv 0)) (blkOk_by (by show blkC ["row","letter"] (defScope sAre) _ _=true;decide +kernel)) (fun _ _ _ _ _=>pg_name (i:=1) scAre.nd rfl (Or.inl rfl)) (fun _ _ _ _ _=>pts_nil)
      (fun _ _ _ _ _=>pe_chain op_le op_le pe_int (pv 1) (pe_glob rfl hL (v:= .int 26) ⟨tk,rfl⟩))) pa_nil))),?_⟩
    refine⟨_,rfl,q,rfl,⟨_,SqT.of hq⟩,fun D hD=>lc_tup (K:=K) (a:=q) (xs:=rowV r) (fun i H'=>Same H H'/\H' D=some (.lst (((r.take i).map Rh04.isLetter).map V.bl))) ⟨Same.new hD,upd_same⟩ (fun i H' _ h=>SqT.of (h.1 _ _ hq)) ?_ ?_⟩
    · rintro i x H' hx ⟨sm,hd⟩
      unfold rowV at hx
      rw[List.getElem?_map]at hx
      obtain⟨n,hn,rfl⟩:=Option.map_eq_some_iff.mp hx
      refine⟨rfl,?_⟩
      unfold tYes
      dsimp only
      first | rw[if_pos rfl] | skip
      refine⟨_,rfl,_,_,rfl,rfl,_,rfl,?_⟩
      have fin:∀b:Bool,b=Rh04.isLetter n->∃acc,H' D=some (.lst acc)/\acc.length < sizeLine/\(Same H (upd H' D (.lst (acc++[V.bl b])))/\upd H' D (.lst (acc++[V.bl b])) D=some (.lst (((r.take (i+1)).map Rh04.isLetter).map V.bl))):=fun b hb=>by
        refine⟨_,hd,?_,fun x o e=>by rw[upd_ne (ne_of_none e hD)];exact sm x o e,?_⟩
        · rw[List.length_map,List.length_map,List.length_take]
          exact small1000 (by omega)
        · rw[upd_same,take_snoc hn,List.map_append,List.map_append,hb]
          rfl
      refine ite2 (fun h1=> ?_) (fun h1=> ?_)
      · refine⟨_,_,rfl,rfl,fin _ ?_⟩
        unfold Rh04.isLetter
        have e1:decide (1≤n)=true:=decide_eq_true (by have:=of_decide_eq_true h1;omega)
        rw[e1,Bool.true_and]
        by_cases c:n≤26
        · rw[decide_eq_true c];exact decide_eq_true (by omega)
        · rw[decide_eq_false c];exact decide_eq_false (by omega)
      · refine fin _ ?_
        unfold Rh04.isLetter
        have e1:decide (1≤n)=false:=decide_eq_false (fun z=>h1 (decide_eq_true (by omega)))
        rw[e1]
        rfl
    · rintro H' ⟨sm,hd⟩
      rw[rowV_len,List.take_length]at hd
      refine⟨D,r.map Rh04.isLetter,rfl,SqL.of hd,?_⟩
      have:(r.map Rh04.isLetter).all id=r.all Rh04.isLetter:=by rw[List.all_map];rfl
      rw[this]
      exact k H' sm
theorem scIsw:FnScope ["row"] ["row"] (defScope sIsw):=⟨rfl,rfl,rfl,by decide +kernel,rfl,by decide +kernel,by decide +kernel⟩
theorem ok_isw {f fA:Addr} {fd fdA:FuncData} (F:Fun K "is_word" "is_word" sIsw f fd) (B:Blt mg) (N:Nums mg) (FA:Fun K "are_letters" "are_letters" sAre fA fdA) (bA:Binds K fdA ["row"] []) (gA:mg "are_letters"=some (.ref fA)) (kA:PySem.W.keepIn K (.ref fA)=true):
    FnOk P w K mg base CX0 2 f fd ["row"] spIsw:=by
  have GA:FnOk P w K mg base CX0 1 fA fdA ["row"] spAre:=ok_are FA B N
  refine F.ok scIsw (fun vs H Q E h=> ?_) (fun cdv A outer s H vs Q E hr h=> ?_)
  · obtain⟨q,r,rfl,_⟩:=h
    rfl
  · obtain⟨q,r,rfl,hq,hl,k⟩:=h
    obtain⟨tk,hL⟩:=N.ten
    refine⟨_,pss_one (ps_ret (pe_and (pe_chain op_le op_le pe_int (pe_callB call_len_seq (by rfl) B.len PySem.boot_len (pa_cons (pv 0) pa_nil)) (pe_glob rfl hL (v:= .int 10) ⟨tk,rfl⟩)) (pe_one (pe_call GA hr rfl gA kA bA .nil pass0 (pa_cons (pv 0) pa_nil))))),?_⟩
    refine⟨_,rfl,q,rowV r,rfl,.inr (SqT.of hq),_,_,rfl,rfl,_,rfl,?_⟩
    rw[rowV_len]
    refine ite2 (fun h1=> ?_) (fun h1=> ?_)
    · have c1:1≤r.length:=by have:=of_decide_eq_true h1;omega
      refine⟨_,_,rfl,rfl,_,rfl,ite2 (fun h2=> ?_) (fun h2=> ?_)⟩
      · have c2:r.length≤10:=by have:=of_decide_eq_true h2;omega
        refine⟨_,rfl,q,r,rfl,hq,hl,fun H' sm=> ?_⟩
        have e:Rh04.isWord r=r.all Rh04.isLetter:=by
          unfold Rh04.isWord
          rw[decide_eq_true c1,decide_eq_true c2,Bool.true_and,Bool.true_and]
        rw[←e]
        exact k H' sm
      · have c2:¬r.length≤10:=fun z=>h2 (decide_eq_true (by omega))
        have e:Rh04.isWord r=false:=by
          unfold Rh04.isWord
          rw[decide_eq_false c2,Bool.false_and,Bool.and_false]
        rw[←e]
        exact k H (Same.refl _)
    · have c1:¬1≤r.length:=fun z=>h1 (decide_eq_true (by omega))
      have e:Rh04.isWord r=false:=by
        unfold Rh04.isWord
        rw[decide_eq_false c1,Bool.false_and]
      refine⟨_,rfl,iteF ?_⟩
      rw[←e]
      exact k H (Same.refl _)
theorem scCan:FnScope ["row"] ["row"] (defScope sCan):=⟨rfl,rfl,rfl,by decide +kernel,rfl,by decide +kernel,by decide +kernel⟩
theorem ok_can {f fA:Addr} {fd fdA:FuncData} (F:Fun K "can_be_typed" "can_be_typed" sCan f fd) (B:Blt mg) (N:Nums mg) (FA:Fun K "are_letters" "are_letters" sAre fA fdA) (bA:Binds K fdA ["row"] []) (gA:mg "are_letters"=some (.ref fA)) (kA:PySem.W.keepIn K (.ref fA)=true):
    FnOk P w K mg base CX0 2 f fd ["row"] spCan:=by
  have GA:FnOk P w K mg base CX0 1 fA fdA ["row"] spAre:=ok_are FA B N
  refine F.ok scCan (fun vs H Q E h=> ?_) (fun cdv A outer s H vs Q E hr h=> ?_)
  · obtain⟨q,r,rfl,_⟩:=h
    rfl
  · obtain⟨q,r,rfl,hq,hl,k⟩:=h
    obtain⟨tk,hL⟩:=N.twelve
    refine⟨_,pss_one (ps_ret (pe_and (pe_cmpR op_le (pe_callB call_len_seq (by rfl) B.len PySem.boot_len (pa_cons (pv 0) pa_nil)) (pe_glob rfl hL (v:= .int 12) ⟨tk,rfl⟩) (nomark _)) (pe_one (pe_call GA hr rfl gA kA bA .nil pass0 (pa_cons (pv 0) pa_nil))))),?_⟩
    refine⟨_,rfl,q,rowV r,rfl,.inr (SqT.of hq),_,_,rfl,rfl,_,rfl,?_⟩
    rw[rowV_len]
    refine ite2 (fun h1=> ?_) (fun h1=> ?_)
    · have c1:r.length≤12:=by have:=of_decide_eq_true h1;omega
      refine⟨_,rfl,q,r,rfl,hq,hl,fun H' sm=> ?_⟩
      have e:Rh04.isTyped r=r.all Rh04.isLetter:=by
        unfold Rh04.isTyped
        rw[decide_eq_true c1,Bool.true_and]
      rw[←e]
      exact k H' sm
    · have c1:¬r.length≤12:=fun z=>h1 (decide_eq_true (by omega))
      have e:Rh04.isTyped r=false:=by
        unfold Rh04.isTyped
        rw[decide_eq_false c1,Bool.false_and]
      rw[←e]
      exact k H (Same.refl _)
end
end TyP
end
section
namespace TyP
open PySem PySem.Spec PyProof.Rows L2 TyR
open Rh04 (Ready Item Weighed)
def flat (l:List Weighed):List Nat:=l.flatMap fun x=>x.1.length::x.1++[x.2]
theorem flat_snoc (l:List Weighed) (x:Weighed):flat (l++[x])=flat l++(x.1.length::x.1++[x.2]):=by
  unfold flat
  rw[List.flatMap_append,List.flatMap_singleton]
theorem flat_len {l:List Weighed} (h:∀x∈l,x.1.length≤10):(flat l).length≤12 * l.length:=by
  unfold flat
  induction l with
  | nil=>simp
  | cons x l ih=>
    rw[List.flatMap_cons,List.length_append,List.length_cons]
    have:=ih fun y hy=>h y (List.mem_cons_of_mem _ hy)
    have:=h x List.mem_cons_self
    simp only[List.length_append,List.length_cons,List.length_nil]at *
    omega
theorem rowV_append (u v:List Nat):rowV (u++v)=rowV u++rowV v:=by unfold rowV;rw[List.map_append]
inductive spTww (vs:List V) (H:Hp) (Q:VK) (xk_:XK):Prop
  | mk (t:Addr) (l:List Weighed) (h_0:vs=[.ref t]) (h_1:ToldAt H t l) (h_2:l.length≤1600) (h_3:(∀x∈l,x.1.length≤10)) (h_4:∀(H':Hp) (c:Addr),Same H H'->H c=none->H' c=some (.lst (rowV (flat l)))->Q (.ref c) H'):spTww vs H Q xk_
abbrev sTw:Stmt:=top 36
inductive spTw (vs:List V) (H:Hp) (Q:VK) (xk_:XK):Prop
  | mk (q:Addr) (w:Word) (n:Nat) (h_0:vs=[.ref q,.int ((n:Nat):Int)]) (h_1:H q=some (.tup (rowV w))) (h_2:w.length≤1000) (h_3:∀(H':Hp) (c:Addr),Same H H'->H c=none->H' c=some (.lst (rowV (w.length::w++[n])))->Q (.ref c) H'):spTw vs H Q xk_
section
variable {P:Program} {w:World} {K:PySem.W.Frag} {mg:Str->Option Value} {base:Heap}
theorem scTw:FnScope ["word","weight"] ["word","weight"] (defScope sTw):=⟨rfl,rfl,rfl,by decide +kernel,rfl,by decide +kernel,by decide +kernel⟩
theorem boot_list':bootBuiltins "list"=some (.type "list"):=by decide +kernel
theorem ok_tw {f:Addr} {fd:FuncData} (F:Fun K "told_with_weight" "told_with_weight" sTw f fd) (B:Blt mg):FnOk P w K mg base CX0 1 f fd ["word","weight"] spTw:=by
  refine F.ok scTw (fun vs H Q E h=> ?_) (fun cdv A outer s H vs Q E hr h=> ?_)
  · obtain⟨q,w,n,rfl,_⟩:=h
    rfl
  · obtain⟨q,w,n,rfl,hq,hl,k⟩:=h
    have nd:=scTw.nd
    refine⟨_,pss_one (ps_ret (pe_op op_cat (pe_op op_cat (pe_lst (pa_cons (pe_callB call_len_seq (by rfl) B.len PySem.boot_len (pa_cons (pv 0) pa_nil)) pa_nil)) (pe_callTy call_list_of (by rfl) B.list boot_list' (pa_cons (pv 0) pa_nil))) (pe_lst (pa_cons (pv 1) pa_nil)))),?_⟩
    refine⟨_,rfl,q,_,rfl,.inr (SqT.of hq),(by show 1≤sizeLine;decide),fun c1 h1=> ?_⟩
    have s1:Same H (upd H c1 (.lst [V.int (((rowV w).length:Nat):Int)])):=Same.new h1
    refine⟨_,rfl,q,_,rfl,.inr (SqT.of (s1 _ _ hq)),fun c2 h2=> ?_⟩
    have s2:Same (upd H c1 (.lst [V.int (((rowV w).length:Nat):Int)])) (upd (upd H c1 (.lst [V.int (((rowV w).length:Nat):Int)])) c2 (.lst (rowV w))):=Same.new h2
    refine⟨c1,c2,_,_,rfl,rfl,s2 _ _ upd_same,upd_same,?_,fun c3 h3=> ?_⟩
    · rw[rowV_len];exact Nat.le_of_lt (small20k (by simp only[List.length_cons,List.length_nil];omega))
    refine⟨_,rfl,(by show 1≤sizeLine;decide),fun c4 h4=> ?_⟩
    refine⟨c3,c4,[V.int (((rowV w).length:Nat):Int)]++rowV w,_,rfl,rfl,?_,upd_same,?_,fun c5 h5=> ?_⟩
    · rw[upd_ne (fun z=>by rw[z,upd_same]at h4;cases h4)];exact upd_same
    · simp only[List.length_append,rowV_len,List.length_cons,List.length_nil]
      exact Nat.le_of_lt (small20k (by omega))
    · have sA:=s1.trans (s2.trans ((Same.new h3).trans (Same.new (o:= .lst [V.int ((n:Nat):Int)]) h4)))
      refine k _ c5 (sA.trans (Same.new h5)) (sA.free h5) ?_
      rw[upd_same,rowV_len,rowV_append]
      rfl
theorem scTww:FnScope ["pairs","numbers","word","weight"] ["pairs"] (defScope sTww):=⟨rfl,rfl,rfl,by decide +kernel,rfl,by decide +kernel,by decide +kernel⟩
theorem ok_tww {f fT:Addr} {fd fdT:FuncData} (F:Fun K "told_with_weights" "told_with_weights" sTww f fd) (GT:FnOk P w K mg base CX0 1 fT fdT ["word","weight"] spTw) (bT:Binds K fdT ["word","weight"] []) (gT:mg "told_with_weight"=some (.ref fT)) (kT:PySem.W.keepIn K (.ref fT)=true):
    FnOk P w K mg base CX0 2 f fd ["pairs"] spTww:=by
  refine F.ok scTww (fun vs H Q E h=> ?_) (fun cdv A outer s H vs Q E hr h=> ?_)
  · obtain⟨t,l,rfl,_⟩:=h
    rfl
  · obtain⟨t,l,rfl,⟨ts,ht,hp⟩,hl,hls,k⟩:=h
    have nd:=scTww.nd
    refine⟨_,pss_cons (ps_set (i:=1) nd rfl (Or.inl rfl) (pe_lst pa_nil))
      (pss_cons (ps_for PassesOwn.never rfl (pi_list (pv 0)) (pg_tup rfl (pgs_cons (pg_name (i:=2) nd rfl (Or.inl rfl)) (pgs_cons (pg_name (i:=3) nd rfl (Or.inl rfl)) pgs_nil)))
        (pss_one (ps_expr (pe_bm PySem.F.plainAttrs_list PySem.F.slot_list_extend PySem.F.type_list_extend mt_extend (pv 1) (pa_cons (pe_call GT hr rfl gT kT bT .nil pass0 (pa_cons (pv 2) (pa_cons (pv 3) pa_nil))) pa_nil)))))
      (pss_one (ps_ret (pv 1)))),?_⟩
    refine⟨Nat.zero_le _,fun c hc=> ?_⟩
    have hlt:ts.length=l.length:=Paired.len hp
    have sm0:Same H (upd H c (.lst [])):=Same.new hc
    refine⟨_,rfl,t,rfl,⟨_,SqL.of (sm0 _ _ ht)⟩,for_list (K:=K) (a:=t) (xs:=ts.map V.ref) (fun i σ H'=>∃v2 v3:Option V,σ=[some (.ref t),some (.ref c),v2,v3]/\Same H H'/\H' c=some (.lst (rowV (flat (l.take i)))))
      ⟨none,none,rfl,sm0,upd_same⟩ (fun i σ H' _ ⟨_,_,_,sm,_⟩=>SqL.of (sm _ _ ht)) ?_ ?_⟩
    · rintro i y σ H' hi ⟨v2,v3,rfl,sm,hc'⟩
      rw[List.getElem?_map]at hi
      obtain⟨b,hb,rfl⟩:=Option.map_eq_some_iff.mp hi
      obtain⟨x,hx,q,g1,g2⟩:=paired_get hp hb
      have hxl:=hls x (List.mem_of_getElem? hx)
      have g1':=sm _ _ g1
      have g2':=sm _ _ g2
      have hfl:(flat (l.take i)).length≤12 * l.length:=by
        have:=flat_len (l:=l.take i) fun y hy=>hls y (List.mem_of_mem_take hy)
        rw[List.length_take]at this
        omega
      refine⟨b,_,rfl,SqT.of g1',rfl,_,_,rfl,_,_,rfl,rfl,?_⟩
      refine⟨_,rfl,.inl ⟨rfl,_,SqL.of hc'⟩,_,rfl,_,rfl,q,x.1,x.2,rfl,g2',by omega,fun H2 c2 s2 n2 e2=> ?_⟩
      have hc2:=s2 _ _ hc'
      refine⟨c,c2,_,_,rfl,rfl,hc2,e2,?_,?_⟩
      · rw[rowV_len,rowV_len]
        exact Nat.le_of_lt (small20k (by simp only[List.length_append,List.length_cons,List.length_nil];omega))
      refine⟨_,_,rfl,fun z o e=>by rw[upd_ne (ne_of_none e hc)];exact s2 _ _ (sm z o e),?_⟩
      rw[upd_same,take_snoc hx,flat_snoc,rowV_append (flat (l.take i))]
    · rintro σ H' ⟨v2,v3,rfl,sm,hc'⟩
      rw[List.length_map,hlt,List.take_length]at hc'
      exact⟨_,rfl,k H' c sm hc hc'⟩
end
end TyP
end
section
namespace TyP
open Rh04 (Item)
abbrev SortW (d:List Item):Prop:=d.Pairwise fun x y=>Rh04.before x.word y.word=true
theorem enter_new {x:Item}:∀{d:List Item},SortW d->x.word ∉ d.map (·.word)->(Rh04.enter x d).Perm (x::d)/\SortW (Rh04.enter x d)
  | [],_,_=>⟨.refl _,by simp[Rh04.enter,SortW]⟩
  | y::d,hs,hn=>by
    have h1:=List.pairwise_cons.mp hs
    rw[List.map_cons,List.mem_cons,not_or]at hn
    unfold Rh04.enter
    by_cases hb:Rh04.before x.word y.word=true
    · rw[if_pos hb]
      refine⟨.refl _,List.pairwise_cons.mpr ⟨fun z hz=> ?_,hs⟩⟩
      rcases List.mem_cons.mp hz with e | e
      · rw[e];exact hb
      · exact Ty.before_trans hb (h1.1 z e)
    · rw[if_neg hb,if_neg hn.1]
      obtain⟨p,s⟩:=enter_new h1.2 hn.2
      refine⟨(p.cons y).trans (List.Perm.swap _ _ _),List.pairwise_cons.mpr ⟨fun z hz=> ?_,s⟩⟩
      rcases List.mem_cons.mp (p.mem_iff.mp hz)with e | e
      · rw[e]
        rcases Ty.before_total (fun q=>hn.1 q)with q | q
        · exact absurd q hb
        · exact q
      · exact h1.1 z e
def replace (x:Item) (y:Item):Item:=if y.word=x.word then x else y
theorem replace_word (x y:Item):(replace x y).word=y.word:=by
  unfold replace
  split
  · rename_i h;exact h.symm
  · rfl
theorem enter_old {x:Item}:∀{d:List Item},SortW d->x.word∈d.map (·.word)->Rh04.enter x d=d.map (replace x)
  | [],_,h=>by simp at h
  | y::d,hs,hm=>by
    have h1:=List.pairwise_cons.mp hs
    unfold Rh04.enter
    rw[List.map_cons]at hm ⊢
    by_cases e:x.word=y.word
    · rw[if_neg (by rw[e,Ty.before_irrefl];exact Bool.false_ne_true),if_pos e]
      have e2:d.map (replace x)=d:=by
        have:∀z∈d,replace x z=z:=fun z hz=>by
          unfold replace
          rw[if_neg]
          intro q
          have:=h1.1 z hz
          rw[q,e,Ty.before_irrefl]at this
          cases this
        exact(List.map_congr_left this).trans (List.map_id' d)
      rw[e2]
      unfold replace
      rw[if_pos e.symm]
    · have hm':x.word∈d.map (·.word):=by
        rcases List.mem_cons.mp hm with q | q
        · exact absurd q e
        · exact q
      have hb:¬Rh04.before x.word y.word=true:=fun q=>by
        obtain⟨z,hz,ez⟩:=List.mem_map.mp hm'
        have:=h1.1 z hz
        rw[ez]at this
        rw[Ty.before_asymm q]at this
        cases this
      rw[if_neg hb,if_neg e,enter_old h1.2 hm']
      unfold replace
      rw[if_neg (fun q=>e q.symm)]
theorem map_sort {d:List Item} {f:Item->Item} (hf:∀x,(f x).word=x.word) (h:SortW d):SortW (d.map f):=by
  refine List.pairwise_map.mpr (h.imp fun{a b} q=> ?_)
  rw[hf,hf]
  exact q
theorem map_words {d:List Item} {f:Item->Item} (hf:∀x,(f x).word=x.word):(d.map f).map (·.word)=d.map (·.word):=by
  rw[List.map_map]
  congr 1
  funext x
  exact hf x
theorem Words.map {d:List Item} {f:Item->Item} (hf:∀x,(f x).word=x.word) (W:Words d):Words (d.map f):=by
  refine⟨by rw[map_words hf];exact W.nd,fun x hx=> ?_,fun x hx=> ?_,by rw[List.length_map];exact W.few⟩
  · obtain⟨y,hy,rfl⟩:=List.mem_map.mp hx
    rw[hf];exact W.abc y hy
  · obtain⟨y,hy,rfl⟩:=List.mem_map.mp hx
    rw[hf];exact W.len y hy
theorem Words.filter {d:List Item} (f:Item->Bool) (W:Words d):Words (d.filter f):=
  ⟨W.nd.sublist ((List.filter_sublist).map _),fun x hx=>W.abc x (List.mem_filter.mp hx).1,fun x hx=>W.len x (List.mem_filter.mp hx).1,Nat.le_trans (List.length_filter_le _ _) W.few⟩
theorem Words.cons {d:List Item} {x:Item} (W:Words d) (hn:x.word ∉ d.map (·.word)) (hw:Rh04.isWord x.word=true) (h60:d.length < 60):Words (x::d):=by
  unfold Rh04.isWord at hw
  rw[Bool.and_eq_true,Bool.and_eq_true,decide_eq_true_eq,decide_eq_true_eq]at hw
  refine⟨by rw[List.map_cons];exact List.nodup_cons.mpr ⟨hn,W.nd⟩,fun y hy=> ?_,fun y hy=> ?_,by rw[List.length_cons];omega⟩
  · rcases List.mem_cons.mp hy with e | e
    · rw[e]
      intro a ha
      have:=List.all_eq_true.mp hw.2.2 a ha
      unfold Rh04.isLetter at this
      rw[Bool.and_eq_true,decide_eq_true_eq,decide_eq_true_eq]at this
      exact this
    · exact W.abc y e
  · rcases List.mem_cons.mp hy with e | e
    · rw[e];exact hw.2.1
    · exact W.len y e
def ownOf (d:List Item):WD:=d.map fun x=>(x.word,x.own)
def usesOf (d:List Item):WD:=d.map fun x=>(x.word,x.used)
theorem ownOf_keys (d:List Item):(ownOf d).map (·.1)=d.map (·.word):=by unfold ownOf;rw[List.map_map];rfl
theorem look_map {d:List Item} (g:Item->Nat) (r:Word):look (d.map fun x=>(x.word,g x)) r=(Rh04.find_ d r).map g:=by
  unfold look Rh04.find_
  induction d with
  | nil=>rfl
  | cons x d ih=>
    rw[List.map_cons,List.find?_cons,List.find?_cons]
    by_cases h:x.word=r
    · rw[show(x.word == r)=true from by simpa using h]
      simp[h]
    · rw[show(x.word == r)=false from by simpa using h]
      simp only[h,decide_false]
      exact ih
theorem look_own (d:List Item) (r:Word):look (ownOf d) r=(Rh04.find_ d r).map (·.own):=look_map _ r
theorem look_uses (d:List Item) (r:Word):look (usesOf d) r=(Rh04.find_ d r).map (·.used):=look_map _ r
theorem drop_map (d:List Item) (g:Item->Nat) (w:Word):dropW (d.map fun x=>(x.word,g x)) w=(d.filter fun x=>x.word != w).map fun x=>(x.word,g x):=by
  unfold dropW
  rw[List.filter_map]
  congr 1
  refine List.filter_congr fun x _=> ?_
  show decide (x.word≠w)=(x.word != w)
  by_cases e:x.word=w
  · rw[decide_eq_false (by simp[e])];simp[e]
  · rw[decide_eq_true (show x.word≠w from e)];simp[e]
theorem any_word {d:List Item} {g:Item->Nat} {w:Word}:((d.map fun x=>(x.word,g x)).any fun p=>decide (p.1=w))=true↔w∈d.map (·.word):=by
  rw[List.any_map,List.any_eq_true,List.mem_map]
  constructor
  · rintro⟨x,hx,e⟩;exact⟨x,hx,of_decide_eq_true e⟩
  · rintro⟨x,hx,e⟩;exact⟨x,hx,decide_eq_true e⟩
theorem put_old {d:List Item} {g:Item->Nat} {f:Item->Item} {w:Word} {n:Nat} (hw:w∈d.map (·.word)) (h1:∀x∈d,x.word=w->(f x).word=w/\g (f x)=n) (h2:∀x∈d,x.word≠w->(f x).word=x.word/\g (f x)=g x):
    putW (d.map fun x=>(x.word,g x)) w n=(d.map f).map fun x=>(x.word,g x):=by
  unfold putW
  rw[if_pos (any_word.mpr hw),List.map_map,List.map_map]
  refine List.map_congr_left fun x hx=> ?_
  show(if x.word=w then(x.word,n)else(x.word,g x))=((f x).word,g (f x))
  by_cases e:x.word=w
  · rw[if_pos e,(h1 x hx e).1,(h1 x hx e).2,e]
  · rw[if_neg e,(h2 x hx e).1,(h2 x hx e).2]
theorem put_fresh {d:List Item} {g:Item->Nat} {w:Word} {n:Nat} (hw:w ∉ d.map (·.word)):putW (d.map fun x=>(x.word,g x)) w n=(d.map fun x=>(x.word,g x))++[(w,n)]:=by
  unfold putW
  rw[if_neg fun z=>hw (any_word.mp z)]
theorem find_iff {d:List Item} {w:Word}:(Rh04.find_ d w).isNone=true↔w ∉ d.map (·.word):=by
  cases e:Rh04.find_ d w with
  | none=>exact⟨fun _ z=>by obtain⟨x,hx,q⟩:=List.mem_map.mp z;exact Ty.find_none e x hx q,fun _=>rfl⟩
  | some x=>exact⟨(fun z=>by cases z),fun z=>absurd (List.mem_map.mpr ⟨x,(Ty.find_some e).1,(Ty.find_some e).2⟩) z⟩
theorem find_mem {d:List Item} {w:Word} {x:Item} (h:Rh04.find_ d w=some x):w∈d.map (·.word):=List.mem_map.mpr ⟨x,(Ty.find_some h).1,(Ty.find_some h).2⟩
theorem total_perm {d d':List Item} (h:d.Perm d'):Rh04.total d=Rh04.total d':=by
  unfold Rh04.total
  induction h with
  | nil=>rfl
  | cons x _ ih=>rw[List.foldr_cons,List.foldr_cons,ih]
  | swap x y l=>rw[List.foldr_cons,List.foldr_cons,List.foldr_cons,List.foldr_cons];omega
  | trans _ _ a b=>exact a.trans b
theorem total_sum (d:List Item):((d.map fun x=>(((Rh04.weight x:Nat):Int))).sum)=((Rh04.total d:Nat):Int):=by
  unfold Rh04.total
  induction d with
  | nil=>rfl
  | cons x d ih=>
    rw[List.map_cons,List.sum_cons,ih,List.foldr_cons]
    omega
end TyP
end
section
namespace Ty
open Rh04 (Word Item Weighed)
def cell (p w:Word):Nat->Nat->Nat
  | 0,j=>j
  | i+1,0=>i+1
  | i+1,j+1=>min (cell p w i (j+1)+1) (min (cell p w (i+1) j+1) (if p[i]? =w[j]? then cell p w i j else cell p w i j+1))
theorem cell_zero (p w:Word):∀i,cell p w i 0=i
  | 0=>by simp[cell]
  | i+1=>by simp[cell]
def col (p w:Word) (j:Nat):List Nat:=(List.range (p.length+1)).map fun i=>cell p w i j
theorem col_zero (p w:Word):col p w 0=List.range (p.length+1):=by
  unfold col
  refine(List.map_congr_left fun i _=>cell_zero p w i).trans (List.map_id' _)
def colFrom (p w:Word) (j i:Nat):List Nat:=((List.range (p.length+1 - i)).map fun t=>cell p w (i+t) j)
theorem colFrom_cons (p w:Word) (j i:Nat) (h:i≤p.length):colFrom p w j i=cell p w i j::colFrom p w j (i+1):=by
  unfold colFrom
  rw[show p.length+1 - i=(p.length+1 - (i+1))+1 by omega,List.range_succ_eq_map,List.map_cons,List.map_map]
  congr 1
  refine List.map_congr_left fun t _=> ?_
  show cell p w (i+(t+1)) j=cell p w (i+1+t) j
  rw[show i+(t+1)=i+1+t by omega]
theorem colFrom_zero (p w:Word) (j:Nat):colFrom p w j 0=col p w j:=by
  unfold colFrom col
  rw[Nat.sub_zero]
  refine List.map_congr_left fun t _=> ?_
  rw[Nat.zero_add]
theorem next_row (p w:Word) (j b:Nat) (hb:w[j]? =some b):∀(n i:Nat),p.length - i=n->i≤p.length->Rh04.nextRow b (p.drop i) (cell p w i (j+1)) (colFrom p w j i)=colFrom p w (j+1) (i+1)
  | 0,i,hn,hi=>by
    have e:i=p.length:=by omega
    subst e
    rw[List.drop_length]
    have:colFrom p w (j+1) (p.length+1)=[]:=by unfold colFrom;rw[Nat.sub_self];rfl
    rw[this]
    rfl
  | n+1,i,hn,hi=>by
    have hlt:i < p.length:=by omega
    rw[List.drop_eq_getElem_cons hlt,colFrom_cons p w j i hi,colFrom_cons p w j (i+1) (by omega)]
    have hp:p[i]? =some p[i]:=List.getElem?_eq_getElem hlt
    have ec:min (cell p w i (j+1)+1) (min (cell p w (i+1) j+1) (if p[i]=b then cell p w i j else cell p w i j+1))=cell p w (i+1) (j+1):=by
      rw[cell,hp,hb]
      by_cases e:p[i]=b
      · rw[if_pos e,if_pos (by rw[e])]
      · rw[if_neg e,if_neg (fun z=>e (Option.some.inj z))]
    rw[Rh04.nextRow,ec,←colFrom_cons p w j (i+1) (by omega),next_row p w j b hb n (i+1) (by omega) (by omega),colFrom_cons p w (j+1) (i+1) (by omega)]
theorem step_row (p w:Word) (j b:Nat) (hb:w[j]? =some b):Rh04.stepRow p (col p w j) b=col p w (j+1):=by
  unfold Rh04.stepRow
  have h0:(col p w j).headD 0=j:=by
    rw[←colFrom_zero,colFrom_cons p w j 0 (Nat.zero_le _)]
    show cell p w 0 j=j
    simp[cell]
  have e0:j+1=cell p w 0 (j+1):=by simp[cell]
  rw[h0,←colFrom_zero p w (j+1),colFrom_cons p w (j+1) 0 (Nat.zero_le _),←colFrom_zero p w j]
  have:=next_row p w j b hb p.length 0 (by omega) (Nat.zero_le _)
  rw[List.drop_zero]at this
  rw[←e0]at this ⊢
  rw[this]
theorem rows_eq (p w:Word):∀(n j:Nat),w.length - j=n->j≤w.length->Rh04.rows p (col p w j) (w.drop j)=(List.range (n+1)).map fun t=>col p w (j+t)
  | 0,j,hn,hj=>by
    have e:j=w.length:=by omega
    subst e
    rw[List.drop_length]
    rfl
  | n+1,j,hn,hj=>by
    have hlt:j < w.length:=by omega
    rw[List.drop_eq_getElem_cons hlt,Rh04.rows,step_row p w j _ (List.getElem?_eq_getElem hlt),rows_eq p w n (j+1) (by omega) (by omega)]
    rw[List.range_succ_eq_map (n:=n+1),List.map_cons,List.map_map]
    congr 1
    refine List.map_congr_left fun t _=> ?_
    show col p w (j+1+t)=col p w (j+(t+1))
    rw[show j+1+t=j+(t+1) by omega]
theorem col_last (p w:Word) (j:Nat):(col p w j).getLastD 0=cell p w p.length j:=by
  unfold col
  rw[List.range_succ,List.map_append,List.map_singleton,List.getLastD_concat]
theorem faults_eq (p w:Word):Rh04.faults p w=((List.range (w.length+1)).map fun j=>cell p w p.length j).foldr min p.length:=by
  unfold Rh04.faults
  rw[←col_zero p w]
  have:=rows_eq p w w.length 0 (by omega) (Nat.zero_le _)
  rw[List.drop_zero]at this
  rw[this,List.map_map]
  congr 1
  refine List.map_congr_left fun j _=> ?_
  show(col p w (0+j)).getLastD 0=_
  rw[Nat.zero_add,col_last]
theorem foldr_min_le {l:List Nat} {z x:Nat} (h:x∈l∨x=z):l.foldr min z≤x:=by
  induction l with
  | nil=>
    rcases h with h | h
    · simp at h
    · rw[h];exact Nat.le_refl _
  | cons y l ih=>
    rw[List.foldr_cons]
    rcases h with h | h
    · rcases List.mem_cons.mp h with e | e
      · rw[e];exact Nat.min_le_left _ _
      · exact Nat.le_trans (Nat.min_le_right _ _) (ih (.inl e))
    · exact Nat.le_trans (Nat.min_le_right _ _) (ih (.inr h))
theorem foldr_min_mem (l:List Nat) (z:Nat):l.foldr min z=z∨l.foldr min z∈l:=by
  induction l with
  | nil=>exact .inl rfl
  | cons y l ih=>
    rw[List.foldr_cons]
    by_cases h:y≤l.foldr min z
    · rw[Nat.min_eq_left h];exact .inr List.mem_cons_self
    · rw[Nat.min_eq_right (by omega)]
      rcases ih with e | e
      · exact .inl e
      · exact .inr (List.mem_cons_of_mem _ e)
theorem faults_least {p w:Word} {m:Nat} (h1:∃j,j≤w.length/\m=cell p w p.length j) (h2:∀j,j≤w.length->m≤cell p w p.length j):Rh04.faults p w=m:=by
  rw[faults_eq]
  obtain⟨j,hj,e⟩:=h1
  refine Nat.le_antisymm ?_ ?_
  · exact foldr_min_le (.inl (List.mem_map.mpr ⟨j,List.mem_range.mpr (by omega),e.symm⟩))
  · rcases foldr_min_mem ((List.range (w.length+1)).map fun j=>cell p w p.length j) p.length with q | q
    · rw[q]
      have:=h2 0 (Nat.zero_le _)
      rw[cell_zero]at this
      exact this
    · obtain⟨i,hi,e2⟩:=List.mem_map.mp q
      rw[←e2]
      exact h2 i (by have:=List.mem_range.mp hi;omega)
end Ty
end
section
namespace Ty
open Rh04 (Word Item Weighed first put pair begins)
theorem sorted_unique {α:Type} {R:α->α->Prop} (as:∀a b,R a b->¬R b a):∀{l m:List α},l.Pairwise R->m.Pairwise R->l.Perm m->l=m
  | [],m,_,_,h=>(List.nil_perm.mp h).symm
  | a::l,[],_,_,h=>absurd (List.perm_nil.mp h) (by simp)
  | a::l,b::m,hl,hm,h=>by
    have l1:=List.pairwise_cons.mp hl
    have m1:=List.pairwise_cons.mp hm
    have e:a=b:=by
      rcases List.mem_cons.mp (h.mem_iff.mp List.mem_cons_self)with q | q
      · exact q
      · rcases List.mem_cons.mp (h.mem_iff.mpr List.mem_cons_self)with q' | q'
        · exact q'.symm
        · exact absurd (m1.1 a q) (as _ _ (l1.1 b q'))
    subst e
    rw[sorted_unique as l1.2 m1.2 (List.Perm.cons_inv h)]
abbrev SortF (l:List Weighed):Prop:=l.Pairwise fun a b=>first a b=true
theorem put_perm (x:Weighed):∀l:List Weighed,(put x l).Perm (x::l)
  | []=> .refl _
  | y::l=>by
    unfold put
    by_cases h:first x y=true
    · rw[if_pos h]
    · rw[if_neg h]
      exact((put_perm x l).cons y).trans (List.Perm.swap x y l)
theorem put_sort (x:Weighed):∀{l:List Weighed},SortF l->(∀y∈l,y≠x)->SortF (put x l)
  | [],_,_=>by simp[put,SortF]
  | y::l,hs,hn=>by
    unfold put
    have h1:=List.pairwise_cons.mp hs
    by_cases h:first x y=true
    · rw[if_pos h]
      refine List.pairwise_cons.mpr ⟨fun z hz=> ?_,hs⟩
      rcases List.mem_cons.mp hz with e | e
      · rw[e];exact h
      · exact first_trans h (h1.1 z e)
    · rw[if_neg h]
      refine List.pairwise_cons.mpr ⟨fun z hz=> ?_,put_sort x h1.2 fun z hz=>hn z (List.mem_cons_of_mem _ hz)⟩
      rcases List.mem_cons.mp ((put_perm x l).mem_iff.mp hz)with e | e
      · rw[e]
        rcases first_total (hn y List.mem_cons_self)with q | q
        · exact q
        · exact absurd q h
      · exact h1.1 z e
theorem puts_perm:∀(b l:List Weighed),(b.foldl (fun l x=>put x l) l).Perm (l++b)
  | [],l=>by simp
  | x::b,l=>by
    rw[List.foldl_cons]
    exact(puts_perm b (put x l)).trans (((put_perm x l).append_right b).trans (List.perm_middle (l₁:=l) (a:=x) (l₂:=b)).symm)
theorem puts_sort:∀{b l:List Weighed},SortF l->(l++b).Nodup->SortF (b.foldl (fun l x=>put x l) l)
  | [],l,hs,_=>hs
  | x::b,l,hs,hn=>by
    rw[List.foldl_cons]
    have hp:(l++x::b).Perm (x::(l++b)):=List.perm_middle (l₁:=l) (a:=x) (l₂:=b)
    have hn2:=List.nodup_cons.mp (hp.nodup_iff.mp hn)
    refine puts_sort (put_sort x hs fun y hy e=>hn2.1 (e ▸ List.mem_append_left _ hy)) ?_
    exact(((put_perm x l).append_right b).trans (List.perm_middle (l₁:=l) (a:=x) (l₂:=b)).symm).nodup_iff.mpr hn
theorem pairs_nodup {d:List Item} (hn:(d.map (·.word)).Nodup):(d.map pair).Nodup:=by
  have e:d.map (·.word)=(d.map pair).map (·.1):=by rw[List.map_map];rfl
  rw[e]at hn
  exact List.Pairwise.of_map _ (fun a b h q=>h (by rw[q])) hn
theorem all_perm (d:List Item) (p:Word):(Rh04.all d p).Perm ((d.filter fun x=>begins p x.word).map pair):=by
  unfold Rh04.all
  exact puts_perm _ []
theorem all_len (d:List Item) (p:Word):(Rh04.all d p).length=(d.filter fun x=>begins p x.word).length:=by rw[(all_perm d p).length_eq,List.length_map]
def nlt (x y:Weighed×Nat):Prop:=x.2 < y.2∨(x.2=y.2/\first x.1 y.1=true)
theorem nlt_asymm (x y:Weighed×Nat) (h:nlt x y):¬nlt y x:=by
  rintro(q | ⟨q,r⟩)
  · rcases h with h | ⟨h,_⟩ <;> omega
  · rcases h with h | ⟨_,h⟩
    · omega
    · rw[first_asymm h]at r;cases r
theorem nlt_trans {x y z:Weighed×Nat} (h1:nlt x y) (h2:nlt y z):nlt x z:=by
  rcases h1 with h1 | ⟨e1,h1⟩ <;> rcases h2 with h2 | ⟨e2,h2⟩
  · exact .inl (by omega)
  · exact .inl (by omega)
  · exact .inl (by omega)
  · exact .inr ⟨by omega,first_trans h1 h2⟩
def nearN (d:List Item) (p:Word) (n:Nat):List (Weighed×Nat):=(((d.filter fun x=>Rh04.faults p x.word == n).map pair).foldl (fun l x=>put x l) []).map fun x=>(x,n)
theorem near_eq (d:List Item) (e:Nat) (p:Word):Rh04.near d e p=(List.range (e+1)).flatMap (nearN d p):=rfl
theorem nearN_perm (d:List Item) (p:Word) (n:Nat):(nearN d p n).Perm ((d.filter fun x=>Rh04.faults p x.word == n).map fun x=>(pair x,Rh04.faults p x.word)):=by
  unfold nearN
  refine((puts_perm _ []).map _).trans ?_
  rw[List.nil_append,List.map_map]
  refine List.Perm.of_eq (List.map_congr_left fun x hx=> ?_)
  have:=(List.mem_filter.mp hx).2
  show(pair x,n)=(pair x,Rh04.faults p x.word)
  rw[beq_iff_eq.mp this]
theorem nearN_sort {d:List Item} (hn:(d.map (·.word)).Nodup) (p:Word) (n:Nat):(nearN d p n).Pairwise nlt:=by
  unfold nearN
  refine List.pairwise_map.mpr (List.Pairwise.imp (fun{a b} h=> .inr ⟨rfl,h⟩) (puts_sort (by simp[SortF]) ?_))
  rw[List.nil_append]
  exact pairs_nodup (hn.sublist ((List.filter_sublist).map _))
theorem nearN_snd {d:List Item} {p:Word} {n:Nat} {x:Weighed×Nat} (h:x∈nearN d p n):x.2=n:=by
  unfold nearN at h
  obtain⟨y,_,rfl⟩:=List.mem_map.mp h
  rfl
theorem near_sort {d:List Item} (hn:(d.map (·.word)).Nodup) (p:Word):∀e,(Rh04.near d e p).Pairwise nlt:=by
  intro e
  rw[near_eq]
  generalize e+1=k
  induction k with
  | zero=>simp
  | succ k ih=>
    rw[List.range_succ,List.flatMap_append,List.flatMap_singleton]
    refine List.pairwise_append.mpr ⟨ih,nearN_sort hn p k,fun x hx y hy=> .inl ?_⟩
    obtain⟨i,hi,hx'⟩:=List.mem_flatMap.mp hx
    rw[nearN_snd hx',nearN_snd hy]
    exact List.mem_range.mp hi
theorem near_perm (d:List Item) (p:Word) (e:Nat):(Rh04.near d e p).Perm ((d.filter fun x=>decide (Rh04.faults p x.word≤e)).map fun x=>(pair x,Rh04.faults p x.word)):=by
  rw[near_eq]
  have key:∀k,((List.range k).flatMap (nearN d p)).Perm ((d.filter fun x=>decide (Rh04.faults p x.word < k)).map fun x=>(pair x,Rh04.faults p x.word)):=by
    intro k
    induction k with
    | zero=>simp
    | succ k ih=>
      rw[List.range_succ,List.flatMap_append,List.flatMap_singleton]
      refine(ih.append (nearN_perm d p k)).trans ?_
      rw[←List.map_append]
      refine List.Perm.map _ ?_
      have h:=List.filter_append_perm (fun x=>decide (Rh04.faults p x.word < k)) (d.filter fun x=>decide (Rh04.faults p x.word < k+1))
      rw[List.filter_filter,List.filter_filter]at h
      refine List.Perm.trans (List.Perm.of_eq ?_) h
      congr 1
      · refine List.filter_congr fun x _=> ?_
        by_cases q:Rh04.faults p x.word < k
        · simp[q];omega
        · simp[q]
      · refine List.filter_congr fun x _=> ?_
        by_cases q:Rh04.faults p x.word=k
        · simp[q]
        · by_cases q2:Rh04.faults p x.word < k
          · simp[q,q2]
          · have:¬Rh04.faults p x.word < k+1:=by omega
            simp[q,q2,this]
  refine(key (e+1)).trans (List.Perm.of_eq ?_)
  congr 1
  refine List.filter_congr fun x _=> ?_
  by_cases q:Rh04.faults p x.word≤e
  · rw[decide_eq_true q];exact decide_eq_true (by omega)
  · rw[decide_eq_false q];exact decide_eq_false (by omega)
theorem near_unique {d d':List Item} (hp:d'.Perm d) (hn:(d.map (·.word)).Nodup) {p:Word} {e:Nat} {l:List (Weighed×Nat)} (hs:l.Pairwise nlt) (h:l.Perm ((d'.filter fun x=>decide (Rh04.faults p x.word≤e)).map fun x=>(pair x,Rh04.faults p x.word))):
    l=Rh04.near d e p:=
  sorted_unique nlt_asymm hs (near_sort hn p e) (h.trans (((hp.filter _).map _).trans (near_perm d p e).symm))
theorem common_prefix (q:Word):∀u v:Word,q <+:Rh04.common u v↔q <+:u/\q <+:v:=by
  intro u
  induction u generalizing q with
  | nil=>
    intro v
    cases v <;> simp[Rh04.common]
    intro h;rw[h];simp
  | cons a u ih=>
    intro v
    cases v with
    | nil=>simp[Rh04.common];intro h;rw[h];simp
    | cons b v=>
      unfold Rh04.common
      by_cases e:a=b
      · subst e
        rw[if_pos rfl]
        cases q with
        | nil=>simp
        | cons c q=>
          rw[List.cons_prefix_cons,List.cons_prefix_cons,List.cons_prefix_cons,ih q v]
          constructor
          · rintro⟨h1,h2,h3⟩;exact⟨⟨h1,h2⟩,h1,h3⟩
          · rintro⟨⟨h1,h2⟩,_,h3⟩;exact⟨h1,h2,h3⟩
      · rw[if_neg e]
        cases q with
        | nil=>simp
        | cons c q=>
          rw[List.cons_prefix_cons,List.cons_prefix_cons]
          constructor
          · intro h;simp at h
          · rintro⟨⟨h1,_⟩,h2,_⟩;exact absurd (h1.symm.trans h2) e
theorem commons_prefix (q:Word):∀(l:List Word) (w:Word),q <+:l.foldl Rh04.common w↔q <+:w/\∀v∈l,q <+:v
  | [],w=>by simp
  | x::l,w=>by
    rw[List.foldl_cons,commons_prefix q l,common_prefix]
    simp only[List.mem_cons]
    constructor
    · rintro⟨⟨h1,h2⟩,h3⟩
      exact⟨h1,fun v hv=>hv.elim (fun e=>e ▸ h2) (h3 v)⟩
    · rintro⟨h1,h2⟩
      exact⟨⟨h1,h2 x (.inl rfl)⟩,fun v hv=>h2 v (.inr hv)⟩
theorem drop_prefix {p q w:Word} (h:begins p w=true):q <+:w.drop p.length↔begins (p++q) w=true:=by
  rw[begins_iff]
  obtain⟨t,rfl⟩:=(begins_iff p w).mp h
  rw[List.drop_left,List.prefix_append_right_inj]
theorem sure_prefix {d:List Item} {p:Word} {x0:Item} (hx:x0∈d) (hb:begins p x0.word=true) (q:Word):q <+:Rh04.sure d p↔∀x∈d,begins p x.word=true->begins (p++q) x.word=true:=by
  unfold Rh04.sure
  have key:∀l:List Item,(∀x∈l,begins p x.word=true)->l≠[]->(q <+:(match l.map fun x=>x.word.drop p.length with | []=>[] | w::l=>l.foldl Rh04.common w)↔∀x∈l,begins (p++q) x.word=true):=by
    intro l hl hne
    cases l with
    | nil=>exact absurd rfl hne
    | cons y l=>
      show q <+:(l.map fun x=>x.word.drop p.length).foldl Rh04.common (y.word.drop p.length)↔_
      rw[commons_prefix,drop_prefix (hl y List.mem_cons_self)]
      constructor
      · rintro⟨h1,h2⟩ x hx
        rcases List.mem_cons.mp hx with e | e
        · rw[e];exact h1
        · exact(drop_prefix (hl x hx)).mp (h2 _ (List.mem_map.mpr ⟨x,e,rfl⟩))
      · intro h
        refine⟨h y List.mem_cons_self,fun v hv=> ?_⟩
        obtain⟨x,hx,rfl⟩:=List.mem_map.mp hv
        exact(drop_prefix (hl x (List.mem_cons_of_mem _ hx))).mpr (h x (List.mem_cons_of_mem _ hx))
  refine(key (d.filter fun x=>begins p x.word) (fun x hx=>(List.mem_filter.mp hx).2) (fun e=> ?_)).trans ?_
  · have:x0∈d.filter fun x=>begins p x.word:=List.mem_filter.mpr ⟨hx,hb⟩
    rw[e]at this
    simp at this
  · constructor
    · intro h x hx hb;exact h x (List.mem_filter.mpr ⟨hx,hb⟩)
    · intro h x hx;exact h x (List.mem_filter.mp hx).1 (List.mem_filter.mp hx).2
theorem sure_unique {d:List Item} {p:Word} {x0:Item} (hx:x0∈d) (hb:begins p x0.word=true) {g:Word} (h:∀q,q <+:g↔∀x∈d,begins p x.word=true->begins (p++q) x.word=true):Rh04.sure d p=g:=by
  have h1:Rh04.sure d p <+:g:=(h _).mpr ((sure_prefix hx hb _).mp (List.prefix_refl _))
  have h2:g <+:Rh04.sure d p:=(sure_prefix hx hb _).mpr ((h _).mp (List.prefix_refl _))
  exact h1.eq_of_length (Nat.le_antisymm h1.length_le h2.length_le)
end Ty
end
section
namespace Ty
open Rh04 (Word Item Weighed)
def better (f:Nat->Option Nat) (b:Nat×Nat) (i:Nat):Nat×Nat:=match f i with
  | some n=>if n≤b.1 then(n,i)else b
  | none=>b
theorem keys_fold (d:List Item) (k:Nat) (w:Word):Rh04.keys d k w=(List.range (w.length+1)).reverse.foldl (better (Rh04.pressed d k w)) (w.length+1,w.length):=rfl
def ahead (a b:Nat×Nat):Prop:=a.1 < b.1∨(a.1=b.1/\a.2≤b.2)
theorem fold_best (f:Nat->Option Nat) (n0 i0:Nat):∀(m:Nat) (b:Nat×Nat),(∀i,m≤i->i≤i0->∀n,f i=some n->ahead b (n,i))->ahead b (n0,i0)->(b=(n0,i0)∨f b.2=some b.1)->m≤b.2->b.2≤i0->
    (∀i,i≤i0->∀n,f i=some n->ahead ((List.range m).reverse.foldl (better f) b) (n,i))/\ahead ((List.range m).reverse.foldl (better f) b) (n0,i0)/\
      (((List.range m).reverse.foldl (better f) b)=(n0,i0)∨f ((List.range m).reverse.foldl (better f) b).2=some ((List.range m).reverse.foldl (better f) b).1)/\((List.range m).reverse.foldl (better f) b).2≤i0
  | 0,b,h1,h2,h3,_,h5=>⟨fun i hi=>h1 i (Nat.zero_le _) hi,h2,h3,h5⟩
  | m+1,b,h1,h2,h3,h4,h5=>by
    rw[List.range_succ,List.reverse_append,List.reverse_singleton,List.singleton_append,List.foldl_cons]
    have key:(∀i,m≤i->i≤i0->∀n,f i=some n->ahead (better f b m) (n,i))/\ahead (better f b m) (n0,i0)/\(better f b m=(n0,i0)∨f (better f b m).2=some (better f b m).1)/\m≤(better f b m).2/\(better f b m).2≤i0:=by
      cases e:f m with
      | none=>
        have eb:better f b m=b:=by unfold better;rw[e]
        rw[eb]
        refine⟨fun i hi hi0 n hn=> ?_,h2,h3,by omega,h5⟩
        by_cases q:i=m
        · subst q;rw[e]at hn;cases hn
        · exact h1 i (by omega) hi0 n hn
      | some n'=>
        by_cases q:n'≤b.1
        · have eb:better f b m=(n',m):=by unfold better;rw[e];exact if_pos q
          rw[eb]
          refine⟨fun i hi hi0 n hn=> ?_,?_,.inr e,Nat.le_refl _,by show m≤i0;omega⟩
          · by_cases z:i=m
            · subst z;rw[e]at hn;cases hn;exact .inr ⟨rfl,Nat.le_refl _⟩
            · have:=h1 i (by omega) hi0 n hn
              rcases this with c | ⟨c1,c2⟩
              · exact .inl (by show n' < n;have:b.1 < n:=c;omega)
              · have c1':b.1=n:=c1
                by_cases y:n'=n
                · exact .inr ⟨y,hi⟩
                · exact .inl (by show n' < n;omega)
          · rcases h2 with c | ⟨c1,c2⟩
            · exact .inl (by show n' < n0;have:b.1 < n0:=c;omega)
            · have c1':b.1=n0:=c1
              by_cases y:n'=n0
              · exact .inr ⟨y,by show m≤i0;omega⟩
              · exact .inl (by show n' < n0;omega)
        · have eb:better f b m=b:=by unfold better;rw[e];exact if_neg q
          rw[eb]
          refine⟨fun i hi hi0 n hn=> ?_,h2,h3,by omega,h5⟩
          by_cases z:i=m
          · subst z;rw[e]at hn;cases hn;exact .inl (by show b.1 < n';omega)
          · exact h1 i (by omega) hi0 n hn
    exact fold_best f n0 i0 m _ key.1 key.2.1 key.2.2.1 key.2.2.2.1 key.2.2.2.2
theorem ahead_anti {a b:Nat×Nat} (h1:ahead a b) (h2:ahead b a):a=b:=by
  rcases h1 with h1 | ⟨e1,h1⟩ <;> rcases h2 with h2 | ⟨e2,h2⟩
  · omega
  · omega
  · omega
  · exact Prod.ext e1 (by omega)
theorem keys_unique {d:List Item} {k:Nat} {w:Word} {r:Nat×Nat} (h1:∀i,i≤w.length->∀n,Rh04.pressed d k w i=some n->ahead r (n,i)) (h2:ahead r (w.length+1,w.length))
    (h3:r=(w.length+1,w.length)∨(r.2≤w.length/\Rh04.pressed d k w r.2=some r.1)):Rh04.keys d k w=r:=by
  rw[keys_fold]
  have e0:(List.range (w.length+1)).reverse.foldl (better (Rh04.pressed d k w)) (w.length+1,w.length)=(List.range w.length).reverse.foldl (better (Rh04.pressed d k w)) (better (Rh04.pressed d k w) (w.length+1,w.length) w.length):=by
    rw[List.range_succ,List.reverse_append,List.reverse_singleton,List.singleton_append,List.foldl_cons]
  rw[e0]
  have hb:(∀i,w.length≤i->i≤w.length->∀n,Rh04.pressed d k w i=some n->ahead (better (Rh04.pressed d k w) (w.length+1,w.length) w.length) (n,i))/\ahead (better (Rh04.pressed d k w) (w.length+1,w.length) w.length) (w.length+1,w.length)/\
      (better (Rh04.pressed d k w) (w.length+1,w.length) w.length=(w.length+1,w.length)∨Rh04.pressed d k w (better (Rh04.pressed d k w) (w.length+1,w.length) w.length).2=some (better (Rh04.pressed d k w) (w.length+1,w.length) w.length).1)/\(better (Rh04.pressed d k w) (w.length+1,w.length) w.length).2=w.length:=by
    cases e:Rh04.pressed d k w w.length with
    | none=>
      have eb:better (Rh04.pressed d k w) (w.length+1,w.length) w.length=(w.length+1,w.length):=by unfold better;rw[e]
      rw[eb]
      refine⟨fun i hi hi0 n hn=> ?_,.inr ⟨rfl,Nat.le_refl _⟩,.inl rfl,rfl⟩
      have:i=w.length:=by omega
      subst this;rw[e]at hn;cases hn
    | some n'=>
      by_cases q:n'≤w.length+1
      · have eb:better (Rh04.pressed d k w) (w.length+1,w.length) w.length=(n',w.length):=by unfold better;rw[e];exact if_pos q
        rw[eb]
        refine⟨fun i hi hi0 n hn=> ?_,?_,.inr e,rfl⟩
        · have:i=w.length:=by omega
          subst this;rw[e]at hn;cases hn;exact .inr ⟨rfl,Nat.le_refl _⟩
        · by_cases y:n'=w.length+1
          · exact .inr ⟨y,Nat.le_refl _⟩
          · exact .inl (by show n' < w.length+1;omega)
      · have eb:better (Rh04.pressed d k w) (w.length+1,w.length) w.length=(w.length+1,w.length):=by unfold better;rw[e];exact if_neg q
        rw[eb]
        refine⟨fun i hi hi0 n hn=> ?_,.inr ⟨rfl,Nat.le_refl _⟩,.inl rfl,rfl⟩
        have:i=w.length:=by omega
        subst this;rw[e]at hn;cases hn;exact .inl (by show w.length+1 < n';omega)
  obtain⟨g1,g2,g3,g4⟩:=fold_best (Rh04.pressed d k w) (w.length+1) w.length w.length _ hb.1 hb.2.1 hb.2.2.1 (Nat.le_of_eq hb.2.2.2.symm) (Nat.le_of_eq hb.2.2.2)
  refine ahead_anti ?_ ?_
  · rcases h3 with e | ⟨e1,e2⟩
    · rw[e];exact g2
    · exact g1 _ e1 _ e2
  · rcases g3 with e | e
    · rw[e];exact h2
    · exact h1 _ g4 _ e
end Ty
end
section
namespace TyP
open PySem PySem.Spec PyProof.Rows L2 TyR
open Rh04 (Ready Item Weighed)
abbrev cDesk:Stmt:=top 40
abbrev sNow:Stmt:=inClass cDesk 1
abbrev sWord:Stmt:=inClass cDesk 2
abbrev sOut:Stmt:=inClass cDesk 3
abbrev sUse:Stmt:=inClass cDesk 4
abbrev sDay:Stmt:=inClass cDesk 5
abbrev sBest:Stmt:=inClass cDesk 6
abbrev sLooks:Stmt:=inClass cDesk 7
structure DeskF (fs:List (Str×V)) (ow us:Addr):Prop where
  own:fs.lookup ("own_weights":Str)=some (.ref ow)
  uses:fs.lookup ("uses_weights":Str)=some (.ref us)
  now:fs.lookup ("weights_now":Str)=none
structure DTxt (K:PySem.W.Frag) (mg:Str->Option Value) (D:Addr):Prop where
  cl:Cls K D
  no:NoAttr K D "own_weights"
  nu:NoAttr K D "uses_weights"
  b:Blt mg
  n:Nums mg
  m1:∃t,mg "NOT_AS_TOLD"=some (.int (-1) t)
  m3:∃t,mg "NOT_THERE"=some (.int (-3) t)
  m5:∃t,mg "TOO_MUCH"=some (.int (-5) t)
  most:∃t,mg "MOST_WORDS"=some (.int 60 t)
  ownMax:∃t,mg "MOST_OWN_WEIGHT"=some (.int 100000 t)
  usesMax:∃t,mg "MOST_USES_WEIGHT"=some (.int 100000 t)
  one:∃t,mg "ONE_USE_WEIGHT"=some (.int 16 t)
structure WordsAt (H:Hp) (ow us:Addr) (its d:List Item):Prop where
  own:H ow=some (.dT (dictW (ownOf its)))
  uses:H us=some (.dT (dictW (usesOf its)))
  ne:ow≠us
  perm:its.Perm d
  ok:Words d
  srt:SortW d
theorem WordsAt.keep {H H':Hp} {ow us:Addr} {its d:List Item} (W:WordsAt H ow us its d) (k:∀x o,H x=some o->(∀xs,o≠ .lst xs)->(∀C dx fs,o≠ .ins C dx fs)->H' x=some o):WordsAt H' ow us its d:=
  ⟨k _ _ W.own (fun _ z=>nomatch z) (fun _ _ _ z=>nomatch z),k _ _ W.uses (fun _ z=>nomatch z) (fun _ _ _ z=>nomatch z),W.ne,W.perm,W.ok,W.srt⟩
theorem WordsAt.same {H H':Hp} {ow us:Addr} {its d:List Item} (W:WordsAt H ow us its d) (k:Same H H'):WordsAt H' ow us its d:=W.keep fun x o e _ _=>k x o e
theorem ownOf_len (d:List Item):(ownOf d).length=d.length:=by unfold ownOf;rw[List.length_map]
theorem usesOf_len (d:List Item):(usesOf d).length=d.length:=by unfold usesOf;rw[List.length_map]
inductive spNow (D:Addr) (vs:List V) (H:Hp) (Q:VK) (xk_:XK):Prop
  | mk (a dx ow us:Addr) (fs:List (Str×V)) (its d:List Item) (h_0:vs=[.ref a]) (h_1:H a=some (.ins D dx fs)) (h_2:DeskF fs ow us) (h_3:WordsAt H ow us its d) (h_4:∀(H':Hp) (c:Addr),Same H H'->H c=none->H' c=some (.dT (dictW (wdOf its)))->Q (.ref c) H'):spNow D vs H Q xk_
section
variable {P:Program} {w:World} {K:PySem.W.Frag} {mg:Str->Option Value} {base:Heap}
theorem scNow:FnScope ["self","weights","row","own"] ["self"] (defScope sNow):=⟨rfl,rfl,rfl,by decide +kernel,rfl,by decide +kernel,by decide +kernel⟩
theorem get_map' {α β:Type} {f:α->β} {l:List α} {i:Nat} {y:β} (h:(l.map f)[i]? =some y):∃x,l[i]? =some x/\y=f x:=by
  rw[List.getElem?_map]at h
  obtain⟨x,hx,e⟩:=Option.map_eq_some_iff.mp h
  exact⟨x,hx,e.symm⟩
theorem find_at {d:List Item} (hn:(d.map (·.word)).Nodup) {i:Nat} {x:Item} (h:d[i]? =some x):Rh04.find_ d x.word=some x:=Ty.find_unique hn (List.mem_of_getElem? h)
theorem ok_now {f D:Addr} {fd:FuncData} (F:Fun K "weights_now" "Desk.weights_now" sNow f fd) (T:DTxt K mg D):FnOk P w K mg base CX0 1 f fd ["self"] (spNow D):=by
  refine F.ok scNow (fun vs H Q E h=> ?_) (fun cdv A outer s H vs Q E hr h=> ?_)
  · obtain⟨a,dx,ow,us,fs,its,d,rfl,_⟩:=h
    rfl
  · obtain⟨a,dx,ow,us,fs,its,d,rfl,ha,DF,W,k⟩:=h
    have hu:=hu_of hr
    have nd:=scNow.nd
    have W':=W.ok.perm W.perm
    refine⟨_,pss_cons (ps_set (i:=1) nd rfl (Or.inl rfl) pe_dnewT)
      (pss_cons (ps_lock (ps_for PassesOwn.never rfl (pi_itemsT (pe_fld (pv 0) rfl)) (pg_tup rfl (pgs_cons (pg_name (i:=2) nd rfl (Or.inl rfl)) (pgs_cons (pg_name (i:=3) nd rfl (Or.inl rfl)) pgs_nil)))
        (pss_one (ps_dput hu (pv 1) (pv 2) (pe_op op_add (pv 3) (pe_dget hu (pe_fld (pv 0) rfl) (pv 2) (fun _ _=>rfl))) rfl))))
      (pss_one (ps_ret (pv 1)))),?_⟩
    intro c hc
    have nac:a≠c:=ne_of_none ha hc
    have noc:ow≠c:=ne_of_none W.own hc
    have nuc:us≠c:=ne_of_none W.uses hc
    have nao:a≠ow:=ne_of ha W.own (by intro z;cases z)
    have ha0:upd (upd H c (.dT [])) ow (.frz ⟨.none,none,.plain,#[]⟩ (.dT [])) a=some (.ins D dx fs):=by rw[upd_ne nao,upd_ne nac];exact ha
    refine⟨ow,.dT (dictW (ownOf its)),(by rw[upd_ne noc];exact W.own),True.intro,fun od=>⟨_,rfl,a,_,dx,_,_,rfl,(by rw[upd_ne nao,upd_ne nac];exact ha),T.cl,T.no,DF.own,ow,od,dictW (ownOf its),rfl,upd_same,for_itemsT (fun i σ H'=>∃v2 v3:Option V,σ=[some (.ref a),some (.ref c),v2,v3]/\
      H' ow=some (.frz od (.dT (dictW (ownOf its))))/\H' c=some (.dT (dictW (wdOf (its.take i))))/\∀x o,H x=some o->x≠ow->H' x=some o) ⟨none,none,rfl,upd_same,?_,fun x o e hx=> ?_⟩ (fun i σ H' _ ⟨_,_,_,h1,_⟩=>h1) ?_ ?_⟩⟩
    · rw[upd_ne (Ne.symm noc),upd_same]
      rfl
    · rw[upd_ne hx,upd_ne (ne_of_none e hc)]
      exact e
    · rintro i kk v q T' σ H' hkv ⟨v2,v3,rfl,h1,h2,h3⟩ hq hT
      obtain⟨w',n,hi,rfl,rfl⟩:=dictW_get' hkv
      obtain⟨x,hx,e⟩:=get_map' hi
      injection e with e1 e2
      subst e1 e2
      have hTq:q≠T':=ne_of_none hq hT
      have hTo:ow≠T':=ne_of_none h1 hT
      have hTc:c≠T':=ne_of_none h2 hT
      have hcT:∀y o,H y=some o->y≠ow->upd H' T' (.tup [.ref q,.int ((x.own:Nat):Int)]) y=some o:=fun y o e hy=>by rw[upd_ne (ne_of_none (h3 y o e hy) hT)];exact h3 y o e hy
      have hq4:upd H' T' (.tup [.ref q,.int ((x.own:Nat):Int)]) q=some (.tup ((keyW x.word).map kV)):=by rw[upd_ne hTq];exact hq
      have hc4:upd H' T' (.tup [.ref q,.int ((x.own:Nat):Int)]) c=some (.dT (dictW (wdOf (its.take i)))):=by rw[upd_ne hTc];exact h2
      have hus:=hcT _ _ W.uses (Ne.symm W.ne)
      refine⟨T',_,rfl,SqT.of upd_same,rfl,_,_,rfl,_,_,rfl,rfl,?_⟩
      have hget:DGet (upd H' T' (.tup [.ref q,.int ((x.own:Nat):Int)])) us (.ref q) (some (.int ((x.used:Nat):Int))):=by
        have:=DGet.t (k:=keyW x.word) hus hq4
        rw[valV_dict,look_uses,find_at W'.nd hx]at this
        exact this
      have hlen:(dictW (wdOf (its.take i))).length < sizeLine:=by
        rw[dictW_len,wdOf_len,List.length_take]
        have:=W'.few
        exact small1000 (by omega)
      refine⟨_,rfl,_,rfl,a,_,dx,_,_,rfl,hcT _ _ ha nao,T.cl,T.nu,DF.uses,_,rfl,us,_,rfl,hget,_,_,rfl,rfl,_,rfl,_,rfl,c,_,rfl,DPut.t (k:=keyW x.word) hc4 hq4 hlen,?_⟩
      have ew:putK (dictW (wdOf (its.take i))) (keyW x.word) (V.int (((x.own:Nat):Int)+((x.used:Nat):Int)))=dictW (wdOf (its.take (i+1))):=by
        have:((x.own:Nat):Int)+((x.used:Nat):Int)=((x.own+x.used:Nat):Int):=by omega
        rw[this,putK_dict,putW_new,take_snoc hx]
        · unfold wdOf
          rw[List.map_append]
          rfl
        · rw[wdOf_keys]
          intro z
          have hn:((ownOf its).map (·.1)).Nodup:=by rw[ownOf_keys];exact W'.nd
          refine not_in_take hn hi ?_
          unfold ownOf
          rw[←List.map_take,List.map_map]
          exact z
      rw[ew]
      exact⟨_,_,rfl,by rw[upd_ne noc,upd_ne hTo];exact h1,upd_same,fun y o e hy=>by rw[upd_ne (ne_of_none e hc)];exact hcT y o e hy⟩
    · rintro σ H' ⟨v2,v3,rfl,h1,h2,h3⟩
      refine⟨h1,_,rfl,k _ c (fun x o e=> ?_) hc ?_⟩
      · by_cases hx:x=ow
        · subst hx
          rw[W.own]at e
          cases e
          exact upd_same
        · rw[upd_ne hx]
          exact h3 x o e hx
      · rw[upd_ne (Ne.symm noc),h2,dictW_len,ownOf_len,List.take_length]
end
end TyP
end
section
namespace TyP
open PySem PySem.Spec PyProof.Rows L2 TyR
open Rh04 (Ready Item Weighed)
def ansOf (d:List Item) (c:Rh04.Call):List Int:=(Rh04.step ⟨d,none⟩ c).2
def wordsOf (d:List Item) (c:Rh04.Call):List Item:=(Rh04.step ⟨d,none⟩ c).1.words
def Ended (H:Hp) (ow us:Addr) (d:List Item) (c:Rh04.Call) (Q:VK):Prop:=
  ∀(H':Hp) (r:Addr) (its':List Item),H r=none->H' r=some (.lst ((ansOf d c).map V.int))->WordsAt H' ow us its' (wordsOf d c)->(∀x o,H x=some o->x≠ow->x≠us->H' x=some o)->Q (.ref r) H'
theorem ended {H H':Hp} {ow us:Addr} {d:List Item} {c:Rh04.Call} {Q:VK} {r:Addr} {its' d':List Item} {z:List Int} (k:Ended H ow us d c Q) (e:Rh04.step ⟨d,none⟩ c=(⟨d',none⟩,z)) (hr:H r=none) (h1:H' r=some (.lst (z.map V.int))) (W:WordsAt H' ow us its' d')
    (st:∀x o,H x=some o->x≠ow->x≠us->H' x=some o):Q (.ref r) H':=by
  refine k H' r its' hr ?_ ?_ st
  · unfold ansOf;rw[e];exact h1
  · unfold wordsOf;rw[e];exact W
theorem Same.back {H H':Hp} (s:Same H H') {p:Addr} (h:H' p=none):H p=none:=by
  cases e:H p with
  | none=>rfl
  | some o=>
    have:=s p o e
    rw[h]at this
    cases this
inductive spWord (D:Addr) (vs:List V) (H:Hp) (Q:VK) (xk_:XK):Prop
  | mk (a dx ow us q:Addr) (fs:List (Str×V)) (its d:List Item) (v:Nat) (r:Word) (h_0:vs=[.ref a,.int ((v:Nat):Int),.ref q]) (h_1:H a=some (.ins D dx fs)) (h_2:DeskF fs ow us) (h_3:WordsAt H ow us its d) (h_4:H q=some (.tup (rowV r))) (h_5:r.length≤1000) (h_6:Ended H ow us d (.word v r) Q):spWord D vs H Q xk_
inductive spOut (D:Addr) (vs:List V) (H:Hp) (Q:VK) (xk_:XK):Prop
  | mk (a dx ow us q:Addr) (fs:List (Str×V)) (its d:List Item) (r:Word) (h_0:vs=[.ref a,.ref q]) (h_1:H a=some (.ins D dx fs)) (h_2:DeskF fs ow us) (h_3:WordsAt H ow us its d) (h_4:H q=some (.tup (rowV r))) (h_5:Ended H ow us d (.out r) Q):spOut D vs H Q xk_
inductive spUse (D:Addr) (vs:List V) (H:Hp) (Q:VK) (xk_:XK):Prop
  | mk (a dx ow us q:Addr) (fs:List (Str×V)) (its d:List Item) (r:Word) (h_0:vs=[.ref a,.ref q]) (h_1:H a=some (.ins D dx fs)) (h_2:DeskF fs ow us) (h_3:WordsAt H ow us its d) (h_4:H q=some (.tup (rowV r))) (h_5:Ended H ow us d (.use r) Q):spUse D vs H Q xk_
inductive spDay (D:Addr) (vs:List V) (H:Hp) (Q:VK) (xk_:XK):Prop
  | mk (a dx ow us:Addr) (fs:List (Str×V)) (its d:List Item) (h_0:vs=[.ref a]) (h_1:H a=some (.ins D dx fs)) (h_2:DeskF fs ow us) (h_3:WordsAt H ow us its d) (h_4:Ended H ow us d .day Q):spDay D vs H Q xk_
section
variable {P:Program} {w:World} {K:PySem.W.Frag} {mg:Str->Option Value} {base:Heap}
theorem scWord:FnScope ["self","v","letters"] ["self","v","letters"] (defScope sWord):=⟨rfl,rfl,rfl,by decide +kernel,rfl,by decide +kernel,by decide +kernel⟩
theorem get_own {H:Hp} {ow us q:Addr} {its d:List Item} {r:Word} (W:WordsAt H ow us its d) (hq:H q=some (.tup (rowV r))):DGet H ow (.ref q) ((Rh04.find_ d r).map fun x=>V.int ((x.own:Nat):Int)):=by
  have W':=W.ok.perm W.perm
  have:=DGet.t (k:=keyW r) W.own (show H q=some (.tup ((keyW r).map kV)) by rw[keyW_V];exact hq)
  rw[valV_dict,look_own,Ty.find_perm W.perm W'.nd]at this
  rw[Option.map_map]at this
  exact this
theorem get_uses {H:Hp} {ow us q:Addr} {its d:List Item} {r:Word} (W:WordsAt H ow us its d) (hq:H q=some (.tup (rowV r))):DGet H us (.ref q) ((Rh04.find_ d r).map fun x=>V.int ((x.used:Nat):Int)):=by
  have W':=W.ok.perm W.perm
  have:=DGet.t (k:=keyW r) W.uses (show H q=some (.tup ((keyW r).map kV)) by rw[keyW_V];exact hq)
  rw[valV_dict,look_uses,Ty.find_perm W.perm W'.nd]at this
  rw[Option.map_map]at this
  exact this
theorem ok_word {f D fI fA:Addr} {fd fdI fdA:FuncData} (F:Fun K "word" "Desk.word" sWord f fd) (T:DTxt K mg D) (FI:Fun K "is_word" "is_word" sIsw fI fdI) (bI:Binds K fdI ["row"] []) (gI:mg "is_word"=some (.ref fI)) (kI:PySem.W.keepIn K (.ref fI)=true)
    (FA:Fun K "are_letters" "are_letters" sAre fA fdA) (bA:Binds K fdA ["row"] []) (gA:mg "are_letters"=some (.ref fA)) (kA:PySem.W.keepIn K (.ref fA)=true):FnOk P w K mg base CX0 3 f fd ["self","v","letters"] (spWord D):=by
  have GI:FnOk P w K mg base CX0 2 fI fdI ["row"] spIsw:=ok_isw FI T.b T.n FA bA gA kA
  refine F.ok scWord (fun vs H Q E h=> ?_) (fun cdv A outer s H vs Q E hr h=> ?_)
  · obtain⟨a,dx,ow,us,q,fs,its,d,v,r,rfl,_⟩:=h
    rfl
  · obtain⟨a,dx,ow,us,q,fs,its,d,v,r,rfl,ha,DF,W,hq,hl,k⟩:=h
    have hu:=hu_of hr
    obtain⟨t1,g1⟩:=T.m1
    obtain⟨t5,g5⟩:=T.m5
    obtain⟨tm,gm⟩:=T.most
    obtain⟨to,go⟩:=T.ownMax
    refine⟨_,pss_cons (ps_if (PW.pt (pw_or (pt_cmpR op_gt (pv 1) (pe_glob rfl go (v:= .int 100000) ⟨to,rfl⟩) (nomark _)) (pw_or1 (pt_not (pt_val (pe_call GI hr rfl gI kI bI .nil pass0 (pa_cons (pv 2) pa_nil)))))))
        (pss_one (ps_ret (pe_lst (pa_cons (pe_glob rfl g1 (v:= .int (-1)) ⟨t1,rfl⟩) pa_nil)))) pss_nil)
      (pss_cons (ps_if (PW.pt (pw_and (pt_cmp (pc_dnotin hu (pv 2) (pe_fld (pv 0) rfl))) (pw_and1 (pt_cmpR op_ge (pe_callB call_lenT (by rfl) T.b.len PySem.boot_len (pa_cons (pe_fld (pv 0) rfl) pa_nil)) (pe_glob rfl gm (v:= .int 60) ⟨tm,rfl⟩) (nomark _)))))
        (pss_one (ps_ret (pe_lst (pa_cons (pe_glob rfl g5 (v:= .int (-5)) ⟨t5,rfl⟩) pa_nil)))) pss_nil)
      (pss_cons (ps_dput hu (pe_fld (pv 0) rfl) (pv 2) (pv 1) rfl)
      (pss_cons (ps_expr (pe_dsetT hu (pe_fld (pv 0) rfl) (pv 2) pe_int ⟨rfl,rfl,rfl,rfl⟩))
      (pss_one (ps_ret (pe_lst (pa_cons (pe_callB call_lenT (by rfl) T.b.len PySem.boot_len (pa_cons (pe_fld (pv 0) rfl) pa_nil)) pa_nil))))))),?_⟩
    have hq':H q=some (.tup ((keyW r).map kV)):=by rw[keyW_V];exact hq
    refine⟨_,rfl,_,_,rfl,rfl,_,rfl,?_⟩
    have refuse1:(100000 < v∨Rh04.isWord r=false)->∀H1,Same H H1->∀p,H1 p=none->Q (.ref p) (upd H1 p (.lst [.int (-1)])):=fun hc H1 sm p hp=>by
      have sm2:Same H (upd H1 p (.lst [.int (-1)])):=sm.trans (Same.new hp)
      exact ended (its':=its) k (show Rh04.step ⟨d,none⟩ (.word v r)=(⟨d,none⟩,[-1]) by show(if 100000 < v∨Rh04.isWord r=false then _ else _)=_;rw[if_pos hc]) (Same.back sm hp) upd_same (W.same sm2) fun x o e _ _=>sm2 x o e
    refine ite2 (fun h1=> ?_) (fun h1=> ?_)
    · refine iteT ?_
      refine⟨(by show 1≤sizeLine;decide),fun p hp=> ?_⟩
      exact refuse1 (.inl (by have:=of_decide_eq_true h1;omega)) H (Same.refl _) p hp
    have hv:¬100000 < v:=fun z=>h1 (decide_eq_true (by omega))
    refine⟨_,rfl,q,r,rfl,hq,hl,fun H1 sm=>⟨_,rfl,?_⟩⟩
    cases hw:Rh04.isWord r with
    | false=>
      refine iteT ?_
      refine⟨(by show 1≤sizeLine;decide),fun p hp=> ?_⟩
      exact refuse1 (.inr hw) H1 sm p hp
    | true=>
    refine iteF ?_
    have W1:=W.same sm
    have ha1:=sm _ _ ha
    have hq1:=sm _ _ hq
    have hq1':H1 q=some (.tup ((keyW r).map kV)):=by rw[keyW_V];exact hq1
    have W':=W.ok.perm W.perm
    have hlen:its.length=d.length:=W.perm.length_eq
    have hc1:¬(100000 < v∨Rh04.isWord r=false):=fun z=>z.elim hv (fun e=>by rw[hw]at e;cases e)
    have store:¬((Rh04.find_ d r).isNone=true/\60≤d.length)->sDPut (tFld K (tVar 0) "own_weights") (tVar 2) (tVar 1)
        {nx:=tSeq (tDrop (tDSetT (tFld K (tVar 0) "uses_weights") (tVar 2) (tC (.int 0)))) (tRet (tLst (tCons (tCB (fun xs H Q=>∃a kvs,xs=[V.ref a]/\Rd H a (.dT kvs)/\Q (.int kvs.length) H) (tCons (tFld K (tVar 0) "own_weights") tNil)) tNil))) {nx:=fun _ H'=>Q .non H',rt:=Q},rt:=Q}
        [some (.ref a),some (.int ((v:Nat):Int)),some (.ref q)] H1:=by
      intro hc2
      have nao:a≠ow:=ne_of ha W.own (by intro z;cases z)
      have nau:a≠us:=ne_of ha W.uses (by intro z;cases z)
      have nqo:q≠ow:=ne_of hq W.own (by intro z;cases z)
      have nqu:q≠us:=ne_of hq W.uses (by intro z;cases z)
      have hl1:(dictW (ownOf its)).length < sizeLine:=by
        rw[dictW_len,ownOf_len];have:=W'.few;exact small1000 (by omega)
      have hl2:(dictW (usesOf its)).length < sizeLine:=by
        rw[dictW_len,usesOf_len];have:=W'.few;exact small1000 (by omega)
      refine⟨_,rfl,_,rfl,a,_,dx,_,_,rfl,ha1,T.cl,T.no,DF.own,_,rfl,ow,_,rfl,DPut.t (k:=keyW r) W1.own hq1' hl1,?_⟩
      rw[putK_dict]
      generalize hH2:upd H1 ow (.dT (dictW (putW (ownOf its) r v)))=H2
      have k2:∀x o,H1 x=some o->x≠ow->H2 x=some o:=fun x o e hx=>by rw[←hH2,upd_ne hx];exact e
      have ho2:H2 ow=some (.dT (dictW (putW (ownOf its) r v))):=by rw[←hH2];exact upd_same
      have hu2:=k2 _ _ W1.uses (Ne.symm W.ne)
      have ha2:=k2 _ _ ha1 nao
      have hq2:H2 q=some (.tup ((keyW r).map kV)):=by rw[keyW_V];exact k2 _ _ hq1 nqo
      refine⟨_,rfl,a,_,dx,_,_,rfl,ha2,T.cl,T.nu,DF.uses,us,rfl,.inr ⟨_,.inl hu2⟩,_,rfl,_,_,q,hu2,rfl,hq2,hl2,fun z hz=> ?_,fun hz=> ?_⟩
      ·
        rw[valV_dict,look_uses]at hz
        obtain⟨n,hn,rfl⟩:=Option.map_eq_some_iff.mp hz
        obtain⟨x,hx,rfl⟩:=Option.map_eq_some_iff.mp hn
        have hm:r∈its.map (·.word):=find_mem hx
        have hxd:Rh04.find_ d r=some x:=by rw[←Ty.find_perm W.perm W'.nd];exact hx
        have hmd:r∈d.map (·.word):=find_mem hxd
        refine⟨_,rfl,a,_,dx,_,_,rfl,ha2,T.cl,T.no,DF.own,ow,_,rfl,.inl ho2,(by show 1≤sizeLine;decide),fun p hp=> ?_⟩
        have hxw:=(Ty.find_some hx).2
        let g:Item->Item:=replace ⟨r,v,x.used⟩
        have gw:∀y,(g y).word=y.word:=replace_word _
        have eo:putW (ownOf its) r v=ownOf (its.map g):=put_old hm (fun y _ e=>by show(replace _ y).word=r/\(replace _ y).own=v;unfold replace;rw[if_pos e];exact⟨rfl,rfl⟩) (fun y _ e=>by show(replace _ y).word=y.word/\(replace _ y).own=y.own;unfold replace;rw[if_neg e];exact⟨rfl,rfl⟩)
        have eu:usesOf its=usesOf (its.map g):=by
          unfold usesOf
          rw[List.map_map]
          refine List.map_congr_left fun y hy=> ?_
          show(y.word,y.used)=((replace _ y).word,(replace _ y).used)
          unfold replace
          by_cases e:y.word=r
          · rw[if_pos e]
            have:y=x:=by
              have h1:=Ty.find_unique W'.nd hy
              rw[e,hx]at h1
              exact(Option.some.inj h1).symm
            rw[this,hxw]
          · rw[if_neg e]
        have ed:Rh04.enter ⟨r,v,x.used⟩ d=d.map g:=enter_old W.srt hmd
        have sm3:Same H2 (upd H2 p (.lst [.int (((dictW (putW (ownOf its) r v)).length:Nat):Int)])):=Same.new hp
        refine ended (its':=its.map g) (d':=d.map g) (z:=[((d.length:Nat):Int)]) k ?_ (Same.back sm (by cases e:H1 p with | none=>rfl | some o=>exact absurd (by by_cases q:p=ow;(rw[q,ho2]at hp;cases hp);(rw[k2 p o e q]at hp;cases hp)) (fun z=>z))) ?_ ⟨?_,?_,W.ne,W.perm.map _,W.ok.map gw,map_sort gw W.srt⟩ fun y o e hy1 hy2=>sm3 y o (k2 y o (sm y o e) hy1)
        · show(if 100000 < v∨Rh04.isWord r=false then _ else if (Rh04.find_ d r).isNone=true/\60≤d.length then _ else _)=_
          rw[if_neg hc1,if_neg hc2,hxd]
          show((⟨Rh04.enter ⟨r,v,x.used⟩ d,none⟩:Rh04.Desk),Rh04.ints [(Rh04.enter ⟨r,v,x.used⟩ d).length])=_
          rw[ed,List.length_map]
          rfl
        · rw[upd_same,dictW_len,eo,ownOf_len,List.length_map,hlen]
          rfl
        · rw[sm3 _ _ ho2,eo]
        · rw[←eu];exact sm3 _ _ hu2
      ·
        rw[valV_dict,look_uses]at hz
        have hx:Rh04.find_ its r=none:=by
          cases e:Rh04.find_ its r with
          | none=>rfl
          | some x=>rw[e]at hz;cases hz
        have hxd:Rh04.find_ d r=none:=by rw[←Ty.find_perm W.perm W'.nd];exact hx
        have hm:r ∉ its.map (·.word):=find_iff.mp (by rw[hx];rfl)
        have hmd:r ∉ d.map (·.word):=find_iff.mp (by rw[hxd];rfl)
        have h60:d.length < 60:=Nat.lt_of_not_le fun z=>hc2 ⟨by rw[hxd];rfl,z⟩
        have eo:putW (ownOf its) r v=ownOf (its++[⟨r,v,0⟩]):=by
          refine(put_fresh hm).trans ?_
          unfold ownOf
          rw[List.map_append]
          rfl
        have eu:dictW (usesOf its)++[(keyW r,V.int 0)]=dictW (usesOf (its++[⟨r,v,0⟩])):=by
          unfold usesOf dictW
          rw[List.map_append,List.map_append]
          rfl
        obtain⟨ep,es⟩:=enter_new (x:=⟨r,v,0⟩) W.srt hmd
        have pp:(its++[(⟨r,v,0⟩:Item)]).Perm (Rh04.enter ⟨r,v,0⟩ d):=(List.perm_append_comm.trans (W.perm.cons _)).trans ep.symm
        rw[eu]
        have ho3:upd H2 us (.dT (dictW (usesOf (its++[⟨r,v,0⟩])))) ow=some (.dT (dictW (putW (ownOf its) r v))):=by rw[upd_ne W.ne];exact ho2
        refine⟨_,rfl,a,_,dx,_,_,rfl,(by rw[upd_ne nau];exact ha2),T.cl,T.no,DF.own,ow,_,rfl,.inl ho3,(by show 1≤sizeLine;decide),fun p hp=> ?_⟩
        generalize hH3:upd H2 us (.dT (dictW (usesOf (its++[⟨r,v,0⟩]))))=H3 at ho3 hp
        have k3:∀x o,H2 x=some o->x≠us->H3 x=some o:=fun x o e hx=>by rw[←hH3,upd_ne hx];exact e
        have hu3:H3 us=some (.dT (dictW (usesOf (its++[⟨r,v,0⟩])))):=by rw[←hH3];exact upd_same
        have sm4:Same H3 (upd H3 p (.lst [.int (((dictW (putW (ownOf its) r v)).length:Nat):Int)])):=Same.new hp
        have hpn:H p=none:=by
          cases e:H p with
          | none=>rfl
          | some o=>
            have e1:=sm p o e
            by_cases q1:p=ow
            · rw[q1,ho3]at hp;cases hp
            · by_cases q2:p=us
              · rw[q2,hu3]at hp;cases hp
              · rw[k3 p o (k2 p o e1 q1) q2]at hp;cases hp
        refine ended (its':=its++[⟨r,v,0⟩]) (d':=Rh04.enter ⟨r,v,0⟩ d) (z:=[((d.length+1:Nat):Int)]) k ?_ hpn ?_ ⟨?_,?_,W.ne,pp,(W.ok.cons (x:=⟨r,v,0⟩) hmd hw h60).perm ep,es⟩ fun y o e hy1 hy2=>sm4 y o (k3 y o (k2 y o (sm y o e) hy1) hy2)
        · show(if 100000 < v∨Rh04.isWord r=false then _ else if (Rh04.find_ d r).isNone=true/\60≤d.length then _ else _)=_
          rw[if_neg hc1,if_neg hc2,hxd]
          show((⟨Rh04.enter ⟨r,v,0⟩ d,none⟩:Rh04.Desk),Rh04.ints [(Rh04.enter ⟨r,v,0⟩ d).length])=_
          rw[ep.length_eq,List.length_cons]
          rfl
        · rw[upd_same,dictW_len,eo,ownOf_len,List.length_append,hlen]
          rfl
        · rw[sm4 _ _ ho3,eo]
        · exact sm4 _ _ hu3
    refine⟨_,rfl,_,rfl,a,_,dx,_,_,rfl,ha1,T.cl,T.no,DF.own,ow,_,rfl,get_own W1 hq1,_,rfl,?_⟩
    rw[Option.isSome_map]
    cases hf:Rh04.find_ d r with
    | some x=>
      refine iteF ?_
      refine iteF ?_
      exact store (fun z=>by rw[hf]at z;cases z.1)
    | none=>
      refine iteT ?_
      refine⟨_,rfl,a,_,dx,_,_,rfl,ha1,T.cl,T.no,DF.own,ow,_,rfl,.inl W1.own,_,_,rfl,rfl,_,rfl,?_⟩
      rw[dictW_len,ownOf_len,hlen]
      refine ite2 (fun h2=> ?_) (fun h2=> ?_)
      · have h60:60≤d.length:=by have:=of_decide_eq_true h2;omega
        refine⟨(by show 1≤sizeLine;decide),fun p hp=> ?_⟩
        have sm2:Same H (upd H1 p (.lst [.int (-5)])):=sm.trans (Same.new hp)
        refine ended (its':=its) (d':=d) (z:=[-5]) k ?_ (Same.back sm hp) upd_same (W.same sm2) fun x o e _ _=>sm2 x o e
        show(if 100000 < v∨Rh04.isWord r=false then _ else if (Rh04.find_ d r).isNone=true/\60≤d.length then _ else _)=_
        rw[if_neg hc1,if_pos ⟨by rw[hf];rfl,h60⟩]
      · exact store (fun z=>h2 (decide_eq_true (by have:=z.2;omega)))
end
end TyP
end
section
namespace TyP
open PySem PySem.Spec PyProof.Rows L2 TyR
open Rh04 (Ready Item Weighed)
theorem filter_sort {d:List Item} (f:Item->Bool) (h:SortW d):SortW (d.filter f):=h.sublist List.filter_sublist
section
variable {P:Program} {w:World} {K:PySem.W.Frag} {mg:Str->Option Value} {base:Heap}
theorem scOut:FnScope ["self","letters"] ["self","letters"] (defScope sOut):=⟨rfl,rfl,rfl,by decide +kernel,rfl,by decide +kernel,by decide +kernel⟩
theorem scUse:FnScope ["self","letters","uses"] ["self","letters"] (defScope sUse):=⟨rfl,rfl,rfl,by decide +kernel,rfl,by decide +kernel,by decide +kernel⟩
theorem ok_out {f D:Addr} {fd:FuncData} (F:Fun K "out" "Desk.out" sOut f fd) (T:DTxt K mg D):FnOk P w K mg base CX0 1 f fd ["self","letters"] (spOut D):=by
  refine F.ok scOut (fun vs H Q E h=> ?_) (fun cdv A outer s H vs Q E hr h=> ?_)
  · obtain⟨a,dx,ow,us,q,fs,its,d,r,rfl,_⟩:=h
    rfl
  · obtain⟨a,dx,ow,us,q,fs,its,d,r,rfl,ha,DF,W,hq,k⟩:=h
    have hu:=hu_of hr
    obtain⟨t3,g3⟩:=T.m3
    refine⟨_,pss_cons (ps_if (pt_cmp (pc_dnotin hu (pv 1) (pe_fld (pv 0) rfl)))
        (pss_one (ps_ret (pe_lst (pa_cons (pe_glob rfl g3 (v:= .int (-3)) ⟨t3,rfl⟩) pa_nil)))) pss_nil)
      (pss_cons (ps_expr (pe_dpopT hu (pe_fld (pv 0) rfl) (pv 1) ⟨rfl,rfl,rfl,rfl⟩))
      (pss_cons (ps_expr (pe_dpopT hu (pe_fld (pv 0) rfl) (pv 1) ⟨rfl,rfl,rfl,rfl⟩))
      (pss_one (ps_ret (pe_lst (pa_cons (pe_callB call_lenT (by rfl) T.b.len PySem.boot_len (pa_cons (pe_fld (pv 0) rfl) pa_nil)) pa_nil)))))),?_⟩
    have hq':H q=some (.tup ((keyW r).map kV)):=by rw[keyW_V];exact hq
    have W':=W.ok.perm W.perm
    refine⟨_,rfl,_,rfl,a,_,dx,_,_,rfl,ha,T.cl,T.no,DF.own,ow,_,rfl,get_own W hq,_,rfl,?_⟩
    rw[Option.isSome_map]
    cases hf:Rh04.find_ d r with
    | none=>
      refine iteT ?_
      refine⟨(by show 1≤sizeLine;decide),fun p hp=> ?_⟩
      have sm2:Same H (upd H p (.lst [.int (-3)])):=Same.new hp
      refine ended (its':=its) (d':=d) (z:=[-3]) k ?_ hp upd_same (W.same sm2) fun x o e _ _=>sm2 x o e
      show(if (Rh04.find_ d r).isNone=true then _ else _)=_
      rw[if_pos (by rw[hf];rfl)]
    | some x=>
      refine iteF ?_
      have nao:a≠ow:=ne_of ha W.own (by intro z;cases z)
      have nau:a≠us:=ne_of ha W.uses (by intro z;cases z)
      have nqo:q≠ow:=ne_of hq W.own (by intro z;cases z)
      have nqu:q≠us:=ne_of hq W.uses (by intro z;cases z)
      have hfi:Rh04.find_ its r=some x:=by rw[Ty.find_perm W.perm W'.nd];exact hf
      have v1:valV (dictW (ownOf its)) (keyW r)=some (.int ((x.own:Nat):Int)):=by rw[valV_dict,look_own,hfi];rfl
      have v2:valV (dictW (usesOf its)) (keyW r)=some (.int ((x.used:Nat):Int)):=by rw[valV_dict,look_uses,hfi];rfl
      refine⟨_,rfl,a,_,dx,_,_,rfl,ha,T.cl,T.no,DF.own,ow,rfl,.inr ⟨_,.inl W.own⟩,_,rfl,_,_,q,_,W.own,rfl,hq',v1,?_⟩
      rw[dropK_dict]
      generalize hH2:upd H ow (.dT (dictW (dropW (ownOf its) r)))=H2
      have k2:∀x o,H x=some o->x≠ow->H2 x=some o:=fun x o e hx=>by rw[←hH2,upd_ne hx];exact e
      have ho2:H2 ow=some (.dT (dictW (dropW (ownOf its) r))):=by rw[←hH2];exact upd_same
      have hu2:=k2 _ _ W.uses (Ne.symm W.ne)
      refine⟨_,rfl,a,_,dx,_,_,rfl,k2 _ _ ha nao,T.cl,T.nu,DF.uses,us,rfl,.inr ⟨_,.inl hu2⟩,_,rfl,_,_,q,_,hu2,rfl,k2 _ _ hq' nqo,v2,?_⟩
      rw[dropK_dict]
      generalize hH3:upd H2 us (.dT (dictW (dropW (usesOf its) r)))=H3
      have k3:∀x o,H2 x=some o->x≠us->H3 x=some o:=fun x o e hx=>by rw[←hH3,upd_ne hx];exact e
      have hu3:H3 us=some (.dT (dictW (dropW (usesOf its) r))):=by rw[←hH3];exact upd_same
      have ho3:=k3 _ _ ho2 W.ne
      refine⟨_,rfl,a,_,dx,_,_,rfl,k3 _ _ (k2 _ _ ha nao) nau,T.cl,T.no,DF.own,ow,_,rfl,.inl ho3,(by show 1≤sizeLine;decide),fun p hp=> ?_⟩
      have sm4:Same H3 (upd H3 p (.lst [.int (((dictW (dropW (ownOf its) r)).length:Nat):Int)])):=Same.new hp
      have hpn:H p=none:=by
        cases e:H p with
        | none=>rfl
        | some o=>
          by_cases q1:p=ow
          · rw[q1,ho3]at hp;cases hp
          · by_cases q2:p=us
            · rw[q2,hu3]at hp;cases hp
            · rw[k3 p o (k2 p o e q1) q2]at hp;cases hp
      have eo:dropW (ownOf its) r=ownOf (its.filter fun x=>x.word != r):=drop_map _ _ _
      have eu:dropW (usesOf its) r=usesOf (its.filter fun x=>x.word != r):=drop_map _ _ _
      have pp:(its.filter fun x=>x.word != r).Perm (d.filter fun x=>x.word != r):=W.perm.filter _
      refine ended (its':=its.filter fun x=>x.word != r) (d':=d.filter fun x=>x.word != r) (z:=[(((d.filter fun x=>x.word != r).length:Nat):Int)]) k ?_ hpn ?_ ⟨?_,?_,W.ne,pp,W.ok.filter _,filter_sort _ W.srt⟩ fun y o e hy1 hy2=>sm4 y o (k3 y o (k2 y o e hy1) hy2)
      · show(if (Rh04.find_ d r).isNone=true then _ else _)=_
        rw[if_neg (by rw[hf];exact Bool.false_ne_true)]
        rfl
      · rw[upd_same,dictW_len,eo,ownOf_len,pp.length_eq]
        rfl
      · rw[sm4 _ _ ho3,eo]
      · rw[sm4 _ _ hu3,eu]
theorem ok_use {f D:Addr} {fd:FuncData} (F:Fun K "use" "Desk.use" sUse f fd) (T:DTxt K mg D):FnOk P w K mg base CX0 1 f fd ["self","letters"] (spUse D):=by
  refine F.ok scUse (fun vs H Q E h=> ?_) (fun cdv A outer s H vs Q E hr h=> ?_)
  · obtain⟨a,dx,ow,us,q,fs,its,d,r,rfl,_⟩:=h
    rfl
  · obtain⟨a,dx,ow,us,q,fs,its,d,r,rfl,ha,DF,W,hq,k⟩:=h
    have hu:=hu_of hr
    have nd:=scUse.nd
    obtain⟨t3,g3⟩:=T.m3
    obtain⟨t5,g5⟩:=T.m5
    obtain⟨tu,gu⟩:=T.usesMax
    obtain⟨to,go⟩:=T.one
    refine⟨_,pss_cons (ps_if (pt_cmp (pc_dnotin hu (pv 1) (pe_fld (pv 0) rfl)))
        (pss_one (ps_ret (pe_lst (pa_cons (pe_glob rfl g3 (v:= .int (-3)) ⟨t3,rfl⟩) pa_nil)))) pss_nil)
      (pss_cons (ps_set (i:=2) nd rfl (Or.inl rfl) (pe_op op_add (pe_dget hu (pe_fld (pv 0) rfl) (pv 1) (fun _ _=>rfl)) (pe_glob rfl go (v:= .int 16) ⟨to,rfl⟩)))
      (pss_cons (ps_if (pt_cmpR op_gt (pv 2) (pe_glob rfl gu (v:= .int 100000) ⟨tu,rfl⟩) (nomark _))
        (pss_one (ps_ret (pe_lst (pa_cons (pe_glob rfl g5 (v:= .int (-5)) ⟨t5,rfl⟩) pa_nil)))) pss_nil)
      (pss_cons (ps_dput hu (pe_fld (pv 0) rfl) (pv 1) (pv 2) rfl)
      (pss_one (ps_ret (pe_lst (pa_cons (pe_op op_add (pe_dget hu (pe_fld (pv 0) rfl) (pv 1) (fun _ _=>rfl)) (pv 2)) pa_nil))))))),?_⟩
    have hq':H q=some (.tup ((keyW r).map kV)):=by rw[keyW_V];exact hq
    have W':=W.ok.perm W.perm
    refine⟨_,rfl,_,rfl,a,_,dx,_,_,rfl,ha,T.cl,T.no,DF.own,ow,_,rfl,get_own W hq,_,rfl,?_⟩
    rw[Option.isSome_map]
    cases hf:Rh04.find_ d r with
    | none=>
      refine iteT ?_
      refine⟨(by show 1≤sizeLine;decide),fun p hp=> ?_⟩
      have sm2:Same H (upd H p (.lst [.int (-3)])):=Same.new hp
      refine ended (its':=its) (d':=d) (z:=[-3]) k ?_ hp upd_same (W.same sm2) fun x o e _ _=>sm2 x o e
      show(match Rh04.find_ d r with | none=>_ | some x=>_)=_
      rw[hf]
    | some x=>
      refine iteF ?_
      have nao:a≠ow:=ne_of ha W.own (by intro z;cases z)
      have nau:a≠us:=ne_of ha W.uses (by intro z;cases z)
      have nqu:q≠us:=ne_of hq W.uses (by intro z;cases z)
      have hfi:Rh04.find_ its r=some x:=by rw[Ty.find_perm W.perm W'.nd];exact hf
      have gu1:=get_uses W hq
      rw[hf]at gu1
      refine⟨_,rfl,a,_,dx,_,_,rfl,ha,T.cl,T.nu,DF.uses,_,rfl,us,_,rfl,gu1,_,_,rfl,rfl,_,rfl,_,_,rfl,rfl,_,rfl,?_⟩
      refine ite2 (fun h1=> ?_) (fun h1=> ?_)
      · refine⟨(by show 1≤sizeLine;decide),fun p hp=> ?_⟩
        have sm2:Same H (upd H p (.lst [.int (-5)])):=Same.new hp
        refine ended (its':=its) (d':=d) (z:=[-5]) k ?_ hp upd_same (W.same sm2) fun x o e _ _=>sm2 x o e
        show(match Rh04.find_ d r with | none=>_ | some x=>_)=_
        rw[hf]
        exact if_pos (by have:=of_decide_eq_true h1;omega)
      · have hle:¬100000 < x.used+16:=fun z=>h1 (decide_eq_true (by omega))
        have hm:r∈its.map (·.word):=find_mem hfi
        have hmd:r∈d.map (·.word):=find_mem hf
        have hxw:=(Ty.find_some hf).2
        let g:Item->Item:=replace ⟨x.word,x.own,x.used+16⟩
        have gw:∀y,(g y).word=y.word:=replace_word _
        have hl2:(dictW (usesOf its)).length < sizeLine:=by
          rw[dictW_len,usesOf_len];have:=W'.few;exact small1000 (by omega)
        refine⟨_,rfl,_,rfl,a,_,dx,_,_,rfl,ha,T.cl,T.nu,DF.uses,_,rfl,us,_,rfl,DPut.t (k:=keyW r) W.uses hq' hl2,?_⟩
        dsimp only
        rw[show(((x.used:Nat):Int)+16)=((x.used+16:Nat):Int) by omega,putK_dict]
        generalize hH2:upd H us (.dT (dictW (putW (usesOf its) r (x.used+16))))=H2
        have k2:∀x o,H x=some o->x≠us->H2 x=some o:=fun x o e hx=>by rw[←hH2,upd_ne hx];exact e
        have hu2:H2 us=some (.dT (dictW (putW (usesOf its) r (x.used+16)))):=by rw[←hH2];exact upd_same
        have ho2:=k2 _ _ W.own W.ne
        have go1:DGet H2 ow (.ref q) (some (.int ((x.own:Nat):Int))):=by
          have:=DGet.t (k:=keyW r) ho2 (k2 _ _ hq' nqu)
          rw[valV_dict,look_own,hfi]at this
          exact this
        refine⟨_,rfl,a,_,dx,_,_,rfl,k2 _ _ ha nau,T.cl,T.no,DF.own,_,rfl,ow,_,rfl,go1,_,rfl,_,_,rfl,rfl,(by show 1≤sizeLine;decide),fun p hp=> ?_⟩
        have eu:putW (usesOf its) r (x.used+16)=usesOf (its.map g):=put_old hm (fun y _ e=>by show(replace _ y).word=r/\(replace _ y).used=x.used+16;unfold replace;rw[if_pos (e.trans hxw.symm)];exact⟨hxw,rfl⟩) (fun y _ e=>by show(replace _ y).word=y.word/\(replace _ y).used=y.used;unfold replace;rw[if_neg (fun z=>e (z.trans hxw))];exact⟨rfl,rfl⟩)
        have eo:ownOf its=ownOf (its.map g):=by
          unfold ownOf
          rw[List.map_map]
          refine List.map_congr_left fun y hy=> ?_
          show(y.word,y.own)=((replace _ y).word,(replace _ y).own)
          unfold replace
          by_cases e:y.word=x.word
          · rw[if_pos e]
            have:y=x:=by
              have h1:=Ty.find_unique W'.nd hy
              rw[e,hxw,hfi]at h1
              exact(Option.some.inj h1).symm
            rw[this]
          · rw[if_neg e]
        have ed:Rh04.enter ⟨x.word,x.own,x.used+16⟩ d=d.map g:=enter_old W.srt (by rw[show(⟨x.word,x.own,x.used+16⟩:Item).word=r from hxw];exact hmd)
        have sm3:Same H2 (upd H2 p (.lst [.int (((x.own:Nat):Int)+((x.used+16:Nat):Int))])):=Same.new hp
        have hpn:H p=none:=by
          cases e:H p with
          | none=>rfl
          | some o=>
            by_cases q2:p=us
            · rw[q2,hu2]at hp;cases hp
            · rw[k2 p o e q2]at hp;cases hp
        refine ended (its':=its.map g) (d':=d.map g) (z:=[((x.own+x.used+16:Nat):Int)]) k ?_ hpn ?_ ⟨?_,?_,W.ne,W.perm.map _,W.ok.map gw,map_sort gw W.srt⟩ fun y o e hy1 hy2=>sm3 y o (k2 y o e hy2)
        · show(match Rh04.find_ d r with | none=>_ | some x=>_)=_
          rw[hf]
          refine(if_neg hle).trans ?_
          rw[show({x with used:=x.used+16}:Item)=⟨x.word,x.own,x.used+16⟩from rfl,ed]
          rfl
        · rw[upd_same]
          show some (HO.lst [V.int _])=some (HO.lst [V.int _])
          congr 3
        · rw[←eo];exact sm3 _ _ ho2
        · rw[sm3 _ _ hu2,eu]
end
end TyP
end
section
namespace TyP
open PySem PySem.Spec PyProof.Rows L2 TyR
open Rh04 (Ready Item Weighed)
def half (x:Item):Item:={x with used:=x.used / 2}
theorem half_word (x:Item):(half x).word=x.word:=rfl
def halves (its:List Item) (i:Nat):List Item:=(its.take i).map half++its.drop i
theorem halves_words (its:List Item) (i:Nat):(halves its i).map (·.word)=its.map (·.word):=by
  unfold halves
  rw[List.map_append,List.map_map,show((fun x:Item=>x.word) ∘ half)=(fun x=>x.word)from rfl,←List.map_append,List.take_append_drop]
theorem halves_len (its:List Item) (i:Nat):(halves its i).length=its.length:=by
  have:=congrArg List.length (halves_words its i)
  rwa [List.length_map,List.length_map]at this
theorem halves_at {its:List Item} {i:Nat} {x:Item} (h:its[i]? =some x):(halves its i)[i]? =some x:=by
  unfold halves
  have hi:i < its.length:=by
    rcases Nat.lt_or_ge i its.length with q | q
    · exact q
    · rw[List.getElem?_eq_none q]at h;cases h
  rw[List.getElem?_append_right (by rw[List.length_map,List.length_take];omega),List.length_map,List.length_take,List.getElem?_drop,show i+(i - min i its.length)=i by omega]
  exact h
theorem halves_next {its:List Item} {i:Nat} {x:Item} (hn:(its.map (·.word)).Nodup) (h:its[i]? =some x):putW (usesOf (halves its i)) x.word (x.used / 2)=usesOf (halves its (i+1)):=by
  have hi:i < its.length:=by
    rcases Nat.lt_or_ge i its.length with q | q
    · exact q
    · rw[List.getElem?_eq_none q]at h;cases h
  have hx:its[i]=x:=by rw[List.getElem?_eq_getElem hi]at h;exact Option.some.inj h
  have hn':((halves its i).map (·.word)).Nodup:=by rw[halves_words];exact hn
  have hd:its.drop i=x::its.drop (i+1):=by rw[←hx];exact List.drop_eq_getElem_cons hi
  have e1:halves its i=(its.take i).map half++x::its.drop (i+1):=by unfold halves;rw[hd]
  have e2:halves its (i+1)=(its.take i).map half++half x::its.drop (i+1):=by
    unfold halves
    rw[take_snoc h,List.map_append,List.append_assoc]
    rfl
  have hm:x.word∈(halves its i).map (·.word):=by rw[e1];simp
  have hf:(halves its i).map (replace (half x))=halves its (i+1):=by
    rw[e1]at hn'
    rw[e1,e2,List.map_append,List.map_cons]
    rw[List.map_append,List.map_cons,List.nodup_append]at hn'
    obtain⟨_,h2,h3⟩:=hn'
    have h4:=List.nodup_cons.mp h2
    congr 1
    · refine(List.map_congr_left fun y hy=> ?_).trans (List.map_id' _)
      unfold replace
      rw[if_neg]
      intro e
      exact h3 y.word (List.mem_map_of_mem hy) x.word List.mem_cons_self e
    · congr 1
      · unfold replace;exact if_pos rfl
      · refine(List.map_congr_left fun y hy=> ?_).trans (List.map_id' _)
        unfold replace
        rw[if_neg]
        intro e
        exact h4.1 (by rw[show x.word=y.word from e.symm];exact List.mem_map_of_mem hy)
  rw[←hf]
  exact put_old hm (fun y _ e=>by show(replace _ y).word=x.word/\(replace _ y).used=x.used / 2;unfold replace;rw[if_pos (show y.word=(half x).word from e)];exact⟨rfl,rfl⟩) (fun y _ e=>by show(replace _ y).word=y.word/\(replace _ y).used=y.used;unfold replace;rw[if_neg (show ¬y.word=(half x).word from e)];exact⟨rfl,rfl⟩)
section
variable {P:Program} {w:World} {K:PySem.W.Frag} {mg:Str->Option Value} {base:Heap}
theorem scDay:FnScope ["self","row"] ["self"] (defScope sDay):=⟨rfl,rfl,rfl,by decide +kernel,rfl,by decide +kernel,by decide +kernel⟩
theorem ok_day {f D fN:Addr} {fd fdN:FuncData} (F:Fun K "day" "Desk.day" sDay f fd) (T:DTxt K mg D) (FN:Fun K "weights_now" "Desk.weights_now" sNow fN fdN) (bN:Binds K fdN ["self"] []) (mN:Meth K D "weights_now" fN):FnOk P w K mg base CX0 2 f fd ["self"] (spDay D):=by
  have GN:FnOk P w K mg base CX0 1 fN fdN ["self"] (spNow D):=ok_now FN T
  refine F.ok scDay (fun vs H Q E h=> ?_) (fun cdv A outer s H vs Q E hr h=> ?_)
  · obtain⟨a,dx,ow,us,fs,its,d,rfl,_⟩:=h
    rfl
  · obtain⟨a,dx,ow,us,fs,its,d,rfl,ha,DF,W,k⟩:=h
    have hu:=hu_of hr
    have nd:=scDay.nd
    have W':=W.ok.perm W.perm
    refine⟨_,pss_cons (ps_for PassesOwn.never rfl (pi_list (pe_callTy (call_listT rfl) (by rfl) T.b.list (show bootBuiltins "list"=some (.type "list")from by rfl) (pa_cons (pe_fld (pv 0) rfl) pa_nil))) (pg_name (i:=1) nd rfl (Or.inl rfl))
        (pss_one (ps_dput hu (pe_fld (pv 0) rfl) (pv 1) (pe_op op_fdiv (pe_dget hu (pe_fld (pv 0) rfl) (pv 1) (fun _ _=>rfl)) pe_int) rfl)))
      (pss_one (ps_ret (pe_lst (pa_cons (pe_sumVals rfl (by rfl) T.b.sum (pe_meth0 (pv 0) T.cl mN GN hr bN .nil pass0)) pa_nil)))),?_⟩
    refine⟨_,rfl,a,_,dx,_,_,rfl,ha,T.cl,T.nu,DF.uses,us,_,rfl,.inl W.uses,fun l qs hl hqs hqk=> ?_⟩
    have nal:a≠l:=ne_of_none ha hl
    have nul:us≠l:=ne_of_none W.uses hl
    have nau:a≠us:=ne_of ha W.uses (by intro z;cases z)
    have sl:Same H (upd H l (.lst (qs.map V.ref))):=Same.new hl
    refine⟨l,rfl,⟨_,SqL.of upd_same⟩,for_list (xs:=qs.map V.ref) (fun i σ H'=>∃v1:Option V,σ=[some (.ref a),v1]/\H' l=some (.lst (qs.map V.ref))/\H' us=some (.dT (dictW (usesOf (halves its i))))/\∀x o,H x=some o->x≠us->H' x=some o) ⟨none,rfl,upd_same,sl _ _ W.uses,fun x o e _=>sl x o e⟩ (fun i σ H' _ ⟨_,_,h1,_⟩=>SqL.of h1) ?_ ?_⟩
    · rintro i v σ H' hv ⟨v1,rfl,h1,h2,h3⟩
      obtain⟨q,hq,rfl⟩:=get_map' hv
      have hi:i < its.length:=by
        have:i < qs.length:=by
          rcases Nat.lt_or_ge i qs.length with z | z
          · exact z
          · rw[List.getElem?_eq_none z]at hq;cases hq
        rw[hqs,dictW_len,usesOf_len]at this
        exact this
      have hx:its[i]? =some its[i]:=List.getElem?_eq_getElem hi
      generalize its[i]=x at hx
      have hxd:(dictW (usesOf its))[i]? =some (keyW x.word,V.int ((x.used:Nat):Int)):=dictW_get (by unfold usesOf;rw[List.getElem?_map,hx];rfl)
      obtain⟨q',hq',hqt⟩:=hqk i _ _ hxd
      rw[hq]at hq'
      cases hq'
      have nqu:q≠us:=ne_of hqt W.uses (by intro z;cases z)
      have hqt':=h3 _ _ hqt nqu
      have hn':((halves its i).map (·.word)).Nodup:=by rw[halves_words];exact W'.nd
      have hget:DGet H' us (.ref q) (some (.int ((x.used:Nat):Int))):=by
        have:=DGet.t (k:=keyW x.word) h2 hqt'
        rw[valV_dict,look_uses,find_at hn' (halves_at hx)]at this
        exact this
      have hlen:(dictW (usesOf (halves its i))).length < sizeLine:=by
        rw[dictW_len,usesOf_len,halves_len]
        have:=W'.few
        exact small1000 (by omega)
      refine⟨_,rfl,a,_,dx,_,_,rfl,h3 _ _ ha nau,T.cl,T.nu,DF.uses,_,rfl,us,_,rfl,hget,_,_,rfl,rfl,⟨by decide,by decide⟩,_,rfl,a,_,dx,_,_,rfl,h3 _ _ ha nau,T.cl,T.nu,DF.uses,_,rfl,us,_,rfl,DPut.t (k:=keyW x.word) h2 hqt' hlen,?_⟩
      dsimp only
      rw[show(((x.used:Nat):Int) / 2)=((x.used / 2:Nat):Int) by omega,putK_dict,halves_next W'.nd hx]
      exact⟨_,rfl,by rw[upd_ne (Ne.symm nul)];exact h1,upd_same,fun y o e hy=>by rw[upd_ne hy];exact h3 y o e hy⟩
    · rintro σ H' ⟨v1,rfl,h1,h2,h3⟩
      rw[List.length_map,hqs,dictW_len,usesOf_len]at h2
      have e2:halves its its.length=its.map half:=by unfold halves;rw[List.take_length,List.drop_length,List.append_nil]
      rw[e2]at h2
      have eo:ownOf its=ownOf (its.map half):=by unfold ownOf;rw[List.map_map];rfl
      have pp:=W.perm.map half
      have W2:WordsAt H' ow us (its.map half) (d.map half):=⟨by rw[←eo];exact h3 _ _ W.own W.ne,h2,W.ne,pp,W.ok.map half_word,map_sort half_word W.srt⟩
      have ha2:=h3 _ _ ha nau
      refine⟨_,rfl,a,dx,fs,rfl,ha2,DF.now,a,dx,ow,us,fs,_,_,rfl,ha2,DF,W2,fun H2 c sm hc hcc=> ?_⟩
      refine⟨c,_,(its.map half).map fun x=>((Rh04.weight x:Nat):Int),rfl,.inl hcc,?_,(by show 1≤sizeLine;decide),fun p hp=> ?_⟩
      · unfold dictW wdOf
        rw[List.map_map,List.map_map,List.map_map,List.map_map,List.map_map]
        rfl
      · have sm2:Same H' (upd H2 p (.lst [.int (((its.map half).map fun x=>((Rh04.weight x:Nat):Int)).sum)])):=sm.trans (Same.new hp)
        have hpn:H p=none:=by
          cases e:H p with
          | none=>rfl
          | some o=>
            by_cases q2:p=us
            · rw[q2,sm _ _ h2]at hp;cases hp
            · rw[sm _ _ (h3 p o e q2)]at hp;cases hp
        refine ended (its':=its.map half) (d':=d.map half) (z:=[((Rh04.total (d.map half):Nat):Int)]) k rfl hpn ?_ (W2.same sm2) fun y o e hy1 hy2=>sm2 y o (h3 y o e hy2)
        rw[upd_same,total_sum,total_perm pp]
        rfl
end
end TyP
end
section
namespace TyP
open PySem PySem.Spec PyProof.Rows L2 TyR
open Rh04 (Ready Item Weighed)
def Said (H:Hp) (d:List Item) (c:Rh04.Call) (Q:VK):Prop:=
  ∀(H':Hp) (r:Addr),Same H H'->H r=none->H' r=some (.lst ((ansOf d c).map V.int))->Q (.ref r) H'
theorem said {H H':Hp} {d:List Item} {c:Rh04.Call} {Q:VK} {r:Addr} {z:List Int} (k:Said H d c Q) (e:(Rh04.step ⟨d,none⟩ c).2=z) (sm:Same H H') (hr:H r=none) (h1:H' r=some (.lst (z.map V.int))):Q (.ref r) H':=by
  refine k H' r sm hr ?_
  unfold ansOf;rw[e];exact h1
theorem made {S E D:Addr} {H:Hp} {σ:L2.St} {a dx ow us q:Addr} {fs:List (Str×V)} {its d:List Item} {p:Word} {j:Nat} {X Y:XK} {Q:VK} (h0:σ[0]? =some (some (.ref a))) (hj:σ[j]? =some (some (.ref q)))
    (ha:H a=some (.ins D dx fs)) (DF:DeskF fs ow us) (W:WordsAt H ow us its d) (hq:H q=some (.tup (rowV p))) (hp:p.length≤100)
    (k:∀(H':Hp) (x rd wd hd:Addr),Same H H'->H x=none->H rd=none->H wd=none->H hd=none->SearchAt S E H' x rd wd hd p (Rh04.start d p)->Q (.ref x) H'):
    tMake S (spSInit S E) [] X (tCons (tMeth D "weights_now" (spNow D) [] Y (tVar 0) tNil) (tCons (tVar j) tNil)) σ H Q:=by
  refine⟨_,h0,a,dx,fs,rfl,ha,DF.now,a,dx,ow,us,fs,its,d,rfl,ha,DF,W,fun H1 c sm hc hcc=>⟨_,hj,fun x xd hx hxd hne=> ?_⟩⟩
  have s2:Same H1 (upd (upd H1 xd (.own x)) x (.ins S xd [])):=(Same.new hxd).trans (Same.new (by rw[upd_ne (Ne.symm hne)];exact hx))
  refine⟨x,c,q,xd,d,its,p,rfl,upd_same,s2 _ _ hcc,s2 _ _ (sm _ _ hq),W.perm,W.ok,hp,fun H' rd wd hd hrd hwd hhd SA st=>⟨rfl,?_⟩⟩
  have hxn:=Same.back sm hx
  exact k H' x rd wd hd (fun y o e=>st y o (s2 y o (sm y o e)) (ne_of_none e hxn)) hxn (Same.back sm (Same.back s2 hrd)) (Same.back sm (Same.back s2 hwd)) (Same.back sm (Same.back s2 hhd)) SA
theorem meth_of {C:Addr} {m:Str} {sp:Sp} {dvs:List V} {E:XK} {ta:TE} {t:TA} {σ:L2.St} {H:Hp} {Q:VK}
    (h:ta σ H fun x=>methI C m (fun H1=>t σ H1 fun vs H2=>sp (x::(vs++dvs)) H2 Q E) x):tMeth C m sp dvs E ta t σ H Q:=h
theorem weighed_flat (l:List Weighed):(Rh04.weighed l).map V.int=V.int ((l.length:Nat):Int)::rowV (flat l):=by
  unfold Rh04.weighed Rh04.ints flat rowV
  rw[List.map_cons,List.map_map]
  rfl
inductive spBest (D:Addr) (vs:List V) (H:Hp) (Q:VK) (xk_:XK):Prop
  | mk (a dx ow us q:Addr) (fs:List (Str×V)) (its d:List Item) (k:Nat) (r:Word) (h_0:vs=[.ref a,.int ((k:Nat):Int),.ref q]) (h_1:H a=some (.ins D dx fs)) (h_2:DeskF fs ow us) (h_3:WordsAt H ow us its d) (h_4:H q=some (.tup (rowV r))) (h_5:r.length≤1000) (h_6:Said H d (.best k r) Q):spBest D vs H Q xk_
inductive spLooks (D:Addr) (vs:List V) (H:Hp) (Q:VK) (xk_:XK):Prop
  | mk (a dx ow us q:Addr) (fs:List (Str×V)) (its d:List Item) (k:Nat) (r:Word) (h_0:vs=[.ref a,.int ((k:Nat):Int),.ref q]) (h_1:H a=some (.ins D dx fs)) (h_2:DeskF fs ow us) (h_3:WordsAt H ow us its d) (h_4:H q=some (.tup (rowV r))) (h_5:r.length≤1000) (h_6:Said H d (.looks k r) Q):spLooks D vs H Q xk_
structure Fns (P:Program) (w:World) (K:PySem.W.Frag) (mg:Str->Option Value) (base:Heap) (D S E fN fI fT fC fW:Addr) (fdN fdI fdT fdC fdW:FuncData):Prop where
  T:DTxt K mg D
  U:STxt K mg S E
  GN:FnOk P w K mg base CX0 1 fN fdN ["self"] (spNow D)
  bN:Binds K fdN ["self"] []
  mN:Meth K D "weights_now" fN
  M:Mk K S fI
  gS:mg "Search"=some (.ref S)
  GI:FnOk P w K mg base CX0 4 fI fdI ["self","weights","typed"] (spSInit S E)
  bI:Binds K fdI ["self","weights","typed"] []
  GT:FnOk P w K mg base CX0 5 fT fdT ["self","wanted"] (spTell S E)
  bT:Binds K fdT ["self","wanted"] []
  mT:Meth K S "tell" fT
  GC:FnOk P w K mg base CX0 2 fC fdC ["row"] spCan
  bC:Binds K fdC ["row"] []
  gC:mg "can_be_typed"=some (.ref fC)
  kC:PySem.W.keepIn K (.ref fC)=true
  GW:FnOk P w K mg base CX0 2 fW fdW ["pairs"] spTww
  bW:Binds K fdW ["pairs"] []
  gW:mg "told_with_weights"=some (.ref fW)
  kW:PySem.W.keepIn K (.ref fW)=true
theorem typed_len {p:Word} (h:Rh04.isTyped p=true):p.length≤12:=by
  unfold Rh04.isTyped at h
  rw[Bool.and_eq_true,decide_eq_true_eq]at h
  exact h.1
theorem sf_tell (wd hd rd:Addr) (n:Nat):(sf wd hd rd n).lookup ("tell":Str)=none:=sf_no _ _ _ _ (by decide +kernel) (by decide +kernel) (by decide +kernel) (by decide +kernel)
section
variable {P:Program} {w:World} {K:PySem.W.Frag} {mg:Str->Option Value} {base:Heap}
theorem scBest:FnScope ["self","k","letters","told"] ["self","k","letters"] (defScope sBest):=⟨rfl,rfl,rfl,by decide +kernel,rfl,by decide +kernel,by decide +kernel⟩
theorem scLooks:FnScope ["self","k","letters","search"] ["self","k","letters"] (defScope sLooks):=⟨rfl,rfl,rfl,by decide +kernel,rfl,by decide +kernel,by decide +kernel⟩
theorem SearchAt.told {S E:Addr} {H:Hp} {a rd wd hd:Addr} {p:Word} {s:Rh04.Search} (A:SearchAt S E H a rd wd hd p s) (k:Nat):(Rh04.more k s).1.length≤1400/\(∀x∈(Rh04.more k s).1,x.1.length≤10)/\(Rh04.more k s).2.words=s.words:=by
  obtain⟨h1,h2,h3⟩:=more_told _ k s (Nat.le_refl _) A.good A.wg
  refine⟨Nat.le_trans h2 A.few,fun x hx=> ?_,h3⟩
  obtain⟨it,hi,rfl⟩:=h1 x hx
  exact A.ws.len it hi
theorem ok_best {f D S E fN fI fT fC fW:Addr} {fd fdN fdI fdT fdC fdW:FuncData} (F:Fun K "best" "Desk.best" sBest f fd) (G:Fns P w K mg base D S E fN fI fT fC fW fdN fdI fdT fdC fdW):FnOk P w K mg base CX0 6 f fd ["self","k","letters"] (spBest D):=by
  have T:=G.T
  refine F.ok scBest (fun vs H Q E h=> ?_) (fun cdv A outer s H vs Q X hr h=> ?_)
  · obtain⟨a,dx,ow,us,q,fs,its,d,k,r,rfl,_⟩:=h
    rfl
  · obtain⟨a,dx,ow,us,q,fs,its,d,n,r,rfl,ha,DF,W,hq,hl,k⟩:=h
    have nd:=scBest.nd
    obtain⟨t1,g1⟩:=T.m1
    refine⟨_,pss_cons (ps_if (pt_not (pt_val (pe_call G.GC (hr.mono (by decide)) rfl G.gC G.kC G.bC .nil pass0 (pa_cons (pv 2) pa_nil))))
        (pss_one (ps_ret (pe_lst (pa_cons (pe_glob rfl g1 (v:= .int (-1)) ⟨t1,rfl⟩) pa_nil)))) pss_nil)
      (pss_cons (ps_set (i:=3) nd rfl (Or.inl rfl) (pe_meth (pe_make G.M G.GI hr rfl G.gS G.bI .nil pass0 (pa_cons (pe_meth0 (pv 0) T.cl G.mN G.GN (hr.mono (by decide)) G.bN .nil pass0) (pa_cons (pv 2) pa_nil))) G.U.cl G.mT G.GT hr G.bT .nil pass0 (pa_cons (pv 1) pa_nil)))
      (pss_one (ps_ret (pe_op op_cat (pe_lst (pa_cons (pe_callB call_len_seq (by rfl) T.b.len PySem.boot_len (pa_cons (pv 3) pa_nil)) pa_nil)) (pe_call G.GW (hr.mono (by decide)) rfl G.gW G.kW G.bW .nil pass0 (pa_cons (pv 3) pa_nil)))))),?_⟩
    refine⟨_,rfl,q,r,rfl,hq,hl,fun H1 sm=>⟨_,rfl,?_⟩⟩
    cases hw:Rh04.isTyped r with
    | false=>
      refine iteT ?_
      refine⟨(by show 1≤sizeLine;decide),fun p hp=> ?_⟩
      refine said (z:=[-1]) k ?_ (sm.trans (Same.new hp)) (Same.back sm hp) upd_same
      show(if Rh04.isTyped r=false then _ else _)=_
      rw[if_pos hw]
    | true=>
      refine iteF ?_
      have hr12:=typed_len hw
      dsimp only [tNext,tSeq,tAsg]
      refine meth_of ?_
      refine made (S:=S) (E:=E) (j:=2) (σ:=[some (.ref a),some (.int ((n:Nat):Int)),some (.ref q),none]) rfl rfl (sm _ _ ha) DF (W.same sm) (sm _ _ hq) (by omega) fun H2 x rd wd hd s2 nx nrd nwd nhd SA=> ?_
      obtain⟨⟨xd,wt,hv,as,rs,hx,_⟩,_⟩:=id SA
      obtain⟨b1,b2,_⟩:=SA.told n
      refine⟨x,xd,_,rfl,hx,sf_tell _ _ _ _,_,rfl,x,rd,wd,hd,n,r,_,rfl,SA,fun H3 t ht TA SA3 st=> ?_⟩
      have s3:Same H1 H3:=fun y o e=>st y o (s2 y o e) (ne_of_none e nx) (ne_of_none e nrd)
      obtain⟨ts,ht1,ht2⟩:=id TA
      have hlt:ts.length=_:=Paired.len ht2
      refine⟨_,rfl,t,_,rfl,.inl (SqL.of ht1),(by show 1≤sizeLine;decide),fun c hc=> ?_⟩
      have s4:Same H3 (upd H3 c (.lst [.int (((ts.map V.ref).length:Nat):Int)])):=Same.new hc
      refine⟨_,rfl,t,_,rfl,TA.keep (fun y o e _ _=>s4 y o e),by omega,b2,fun H5 c5 s5 n5 e5=> ?_⟩
      have fl:=flat_len b2
      refine⟨c,c5,_,_,rfl,rfl,s5 _ _ upd_same,e5,?_,fun p hp=> ?_⟩
      · rw[rowV_len];exact Nat.le_of_lt (small20k (by simp only[List.length_cons,List.length_nil];omega))
      · have sAll:Same H H5:=(sm.trans s3).trans (s4.trans s5)
        refine said (z:=Rh04.weighed (Rh04.best d r n)) k ?_ (sAll.trans (Same.new hp)) (Same.back sAll hp) ?_
        · show(if Rh04.isTyped r=false then _ else _)=_
          rw[if_neg (by rw[hw];exact Bool.false_ne_true.symm)]
        · rw[upd_same,weighed_flat,List.length_map,hlt]
          rfl
theorem ok_looks {f D S E fN fI fT fC fW:Addr} {fd fdN fdI fdT fdC fdW:FuncData} (F:Fun K "looks" "Desk.looks" sLooks f fd) (G:Fns P w K mg base D S E fN fI fT fC fW fdN fdI fdT fdC fdW):FnOk P w K mg base CX0 6 f fd ["self","k","letters"] (spLooks D):=by
  have T:=G.T
  refine F.ok scLooks (fun vs H Q E h=> ?_) (fun cdv A outer s H vs Q X hr h=> ?_)
  · obtain⟨a,dx,ow,us,q,fs,its,d,k,r,rfl,_⟩:=h
    rfl
  · obtain⟨a,dx,ow,us,q,fs,its,d,n,r,rfl,ha,DF,W,hq,hl,k⟩:=h
    have nd:=scLooks.nd
    obtain⟨t1,g1⟩:=T.m1
    refine⟨_,pss_cons (ps_if (pt_not (pt_val (pe_call G.GC (hr.mono (by decide)) rfl G.gC G.kC G.bC .nil pass0 (pa_cons (pv 2) pa_nil))))
        (pss_one (ps_ret (pe_lst (pa_cons (pe_glob rfl g1 (v:= .int (-1)) ⟨t1,rfl⟩) pa_nil)))) pss_nil)
      (pss_cons (ps_set (i:=3) nd rfl (Or.inl rfl) (pe_make G.M G.GI hr rfl G.gS G.bI .nil pass0 (pa_cons (pe_meth0 (pv 0) T.cl G.mN G.GN (hr.mono (by decide)) G.bN .nil pass0) (pa_cons (pv 2) pa_nil))))
      (pss_cons (ps_expr (pe_meth (pv 3) G.U.cl G.mT G.GT hr G.bT .nil pass0 (pa_cons (pv 1) pa_nil)))
      (pss_one (ps_ret (pe_lst (pa_cons (pe_fld (pv 3) rfl) (pa_cons (pe_callB call_lenT (by rfl) T.b.len PySem.boot_len (pa_cons (pe_fld (pv 3) rfl) pa_nil)) pa_nil))))))),?_⟩
    refine⟨_,rfl,q,r,rfl,hq,hl,fun H1 sm=>⟨_,rfl,?_⟩⟩
    cases hw:Rh04.isTyped r with
    | false=>
      refine iteT ?_
      refine⟨(by show 1≤sizeLine;decide),fun p hp=> ?_⟩
      refine said (z:=[-1]) k ?_ (sm.trans (Same.new hp)) (Same.back sm hp) upd_same
      show(if Rh04.isTyped r=false then _ else _)=_
      rw[if_pos hw]
    | true=>
      refine iteF ?_
      have hr12:=typed_len hw
      dsimp only [tNext,tSeq,tAsg]
      refine made (S:=S) (E:=E) (j:=2) (σ:=[some (.ref a),some (.int ((n:Nat):Int)),some (.ref q),none]) rfl rfl (sm _ _ ha) DF (W.same sm) (sm _ _ hq) (by omega) fun H2 x rd wd hd s2 nx nrd nwd nhd SA=> ?_
      obtain⟨⟨xd,wt,hv,as,rs,hx,_⟩,_⟩:=id SA
      obtain⟨b1,b2,b3⟩:=SA.told n
      refine⟨_,rfl,x,xd,_,rfl,hx,sf_tell _ _ _ _,_,rfl,x,rd,wd,hd,n,r,_,rfl,SA,fun H3 t ht TA SA3 st=> ?_⟩
      have s3:Same H1 H3:=fun y o e=>st y o (s2 y o e) (ne_of_none e nx) (ne_of_none e nrd)
      obtain⟨⟨xd3,wt3,hv3,as3,rs3,hx3,hw3,hh3,R3,p3,S3⟩,_⟩:=id SA3
      refine⟨_,rfl,x,_,xd3,_,_,rfl,hx3,G.U.cl,G.U.no,sf_opened _ _ _ _,_,rfl,x,_,xd3,_,_,rfl,hx3,G.U.cl,G.U.nh,sf_heavy _ _ _ _,hd,_,rfl,.inl hh3,(by show 2≤sizeLine;decide),fun p hp=> ?_⟩
      have sAll:Same H H3:=sm.trans s3
      refine said (z:=Rh04.ints [(Rh04.more n (Rh04.start d r)).2.opened,(Rh04.reaches d r).length]) k ?_ (sAll.trans (Same.new hp)) (Same.back sAll hp) ?_
      · show(if Rh04.isTyped r=false then _ else _)=_
        rw[if_neg (by rw[hw];exact Bool.false_ne_true.symm)]
      · have:=S3.cnt
        rw[b3]at this
        rw[upd_same,dictW_len,this]
        rfl
end
end TyP
end
section
namespace TyP
open PySem PySem.Spec PyProof.Rows L2 TyR
abbrev Raw:=List (List Int)
def rP (c:Raw):Int:=(c.headD []).headD 0
def rX (c:Raw):List Int:=(c.headD []).tail
def rR (c:Raw):List Int:=c.tail.headD []
theorem ite_some {c:Prop} [Decidable c] {a:Nat×Nat} {b:Option (Nat×Nat)} {z:Nat×Nat} {Q:Nat×Nat->Prop} (ha:Q a) (hb:b=some z->Q z) (h:(if c then some a else b)=some z):Q z:=by
  by_cases hc:c
  · rw[if_pos hc]at h
    exact Option.some.inj h ▸ ha
  · rw[if_neg hc]at h
    exact hb h
theorem shape_k {p:Int} {n k:Nat} (h:PyRh04.shape p=some (n,k)):k=0∨k=1:=by
  show(fun z:Nat×Nat=>z.2=0∨z.2=1) (n,k)
  unfold PyRh04.shape at h
  refine ite_some (Q:=fun z:Nat×Nat=>z.2=0∨z.2=1) (.inr rfl) (fun h=> ?_) h
  refine ite_some (Q:=fun z:Nat×Nat=>z.2=0∨z.2=1) (.inr rfl) (fun h=> ?_) h
  refine ite_some (Q:=fun z:Nat×Nat=>z.2=0∨z.2=1) (.inr rfl) (fun h=> ?_) h
  refine ite_some (Q:=fun z:Nat×Nat=>z.2=0∨z.2=1) (.inl rfl) (fun h=> ?_) h
  refine ite_some (Q:=fun z:Nat×Nat=>z.2=0∨z.2=1) (.inr rfl) (fun h=> ?_) h
  refine ite_some (Q:=fun z:Nat×Nat=>z.2=0∨z.2=1) (.inr rfl) (fun h=> ?_) h
  refine ite_some (Q:=fun z:Nat×Nat=>z.2=0∨z.2=1) (.inr rfl) (fun h=> ?_) h
  refine ite_some (Q:=fun z:Nat×Nat=>z.2=0∨z.2=1) (.inl rfl) (fun h=> ?_) h
  refine ite_some (Q:=fun z:Nat×Nat=>z.2=0∨z.2=1) (.inr rfl) (fun h=> ?_) h
  refine ite_some (Q:=fun z:Nat×Nat=>z.2=0∨z.2=1) (.inr rfl) (fun h=> ?_) h
  refine ite_some (Q:=fun z:Nat×Nat=>z.2=0∨z.2=1) (.inr rfl) (fun h=> ?_) h
  refine ite_some (Q:=fun z:Nat×Nat=>z.2=0∨z.2=1) (.inr rfl) (fun h=> ?_) h
  cases h
theorem read_one {f:Nat} {l:List Int} {raw:List Raw} (h:PyFlat.calls PyRh04.shape f l=some raw) (hl:l≠[]):∃(f' n:Nat) (p:Int) (r:List Int) (c:Raw) (cs:List Raw) (t:List Int),l=p::r/\raw=c::cs/\PyFlat.calls PyRh04.shape f' t=some cs/\rP c=p/\rX c=r.take n/\n≤r.length/\
    ((PyRh04.shape p=some (n,0)/\c=[p::r.take n]/\t=r.drop n)∨(PyRh04.shape p=some (n,1)/\∃(z:Nat) (u:List Int),r.drop n=(z:Int)::u/\z≤u.length/\c=[p::r.take n,u.take z]/\t=u.drop z)):=by
  cases l with
  | nil=>exact absurd rfl hl
  | cons p r=>
  cases f with
  | zero=>cases h
  | succ f=>
  rw[PyFlat.calls]at h
  unfold PyFlat.call at h
  cases hs:PyRh04.shape p with
  | none=>simp only[hs]at h;cases h
  | some nk=>
    obtain⟨n,k⟩:=nk
    simp only[hs]at h
    by_cases hn:r.length < n
    · rw[if_pos hn]at h;cases h
    rw[if_neg hn]at h
    have hk:k=0∨k=1:=shape_k hs
    rcases hk with rfl | rfl
    · rw[PyFlat.rows]at h
      dsimp only at h
      cases hc:PyFlat.calls PyRh04.shape f (r.drop n)with
      | none=>simp only[hc]at h;cases h
      | some cs=>
        simp only[hc]at h
        exact⟨f,n,p,r,_,cs,r.drop n,rfl,(Option.some.inj h).symm,hc,rfl,rfl,by omega,.inl ⟨hs,rfl,rfl⟩⟩
    · rw[PyFlat.rows]at h
      cases hd:r.drop n with
      | nil=>rw[hd]at h;simp only[PyFlat.row]at h;cases h
      | cons z u=>
        rw[hd]at h
        simp only[PyFlat.row]at h
        by_cases hz:0≤z/\z.toNat≤u.length
        · rw[if_pos hz]at h
          simp only[PyFlat.rows]at h
          cases hc:PyFlat.calls PyRh04.shape f (u.drop z.toNat)with
          | none=>simp only[hc]at h;cases h
          | some cs=>
            simp only[hc]at h
            exact⟨f,n,p,r,_,cs,u.drop z.toNat,rfl,(Option.some.inj h).symm,hc,rfl,rfl,by omega,.inr ⟨hs,z.toNat,u,by rw[Int.toNat_of_nonneg hz.1];exact hd,hz.2,rfl,rfl⟩⟩
        · rw[if_neg hz]at h;cases h
end TyP
end
section
namespace TyP
open PySem PySem.Spec PyProof.Rows L2 TyR
abbrev sRead:Stmt:=top 42
abbrev intV (l:List Int):List V:=l.map V.int
def ShapesAt (K:PySem.W.Frag) (mg:Str->Option Value):Prop:=∃(sh:Addr) (ss:List Addr),mg "SHAPES"=some (.ref sh)/\(∀H,SqT K H sh (ss.map V.ref))/\
  ∀p n k,PyRh04.shape p=some (n,k)->∃(j:Nat) (s:Addr),p=(j:Int)/\ss[j]? =some s/\∀H,SqT K H s [.int (n:Nat),.int (k:Nat)]
def CallAt (H0 H:Hp) (b:Addr) (c:Raw):Prop:=∃n l:Addr,(H0 b=none/\H0 n=none/\H0 l=none)/\H b=some (.tup [.int (rP c),.ref n,.ref l])/\H n=some (.lst (intV (rX c)))/\H l=some (.tup (intV (rR c)))
inductive spRead (K:PySem.W.Frag) (vs:List V) (H:Hp) (Q:VK) (xk_:XK):Prop
  | mk (a:Addr) (ns:List Int) (raw:List Raw) (h_0:vs=[.ref a]) (h_1:SqL K H a (intV ns)) (h_2:ns.length≤2000) (h_3:PyFlat.calls PyRh04.shape ns.length ns=some raw) (h_4:∀(H':Hp) (t:Addr) (ts:List Addr),Same H H'->H t=none->H' t=some (.lst (ts.map V.ref))->Paired (CallAt H H') ts raw->Q (.ref t) H'):spRead K vs H Q xk_
theorem cut_ints (l:List Int) (i j:Nat) (hi:i≤j) (hj:j≤l.length):cutV (intV l) (some (i:Int)) (some (j:Int))=intV ((l.drop i).take (j - i)):=by
  unfold cutV
  rw[HT.sIx_nat,HT.sIx_nat]
  have:(intV l).length=l.length:=List.length_map ..
  rw[this,Nat.min_eq_left hj,Nat.min_eq_left (Nat.le_trans hi hj)]
  unfold intV
  rw[List.map_take,List.map_drop]
theorem sqL_same {K:PySem.W.Frag} {H H':Hp} {a:Addr} {xs:List V} (h:SqL K H a xs) (sm:Same H H'):SqL K H' a xs:=by
  rcases h with h | h
  · rcases h with h | ⟨o,h⟩
    · exact .inl (.inl (sm _ _ h))
    · exact .inl (.inr ⟨o,sm _ _ h⟩)
  · exact .inr h
def RInv (H:Hp) (a t:Addr) (ns:List Int) (raw:List Raw) (i:Nat) (σ:L2.St) (H':Hp):Prop:=∃(f:Nat) (v3 v4 v5 v6 v7 v8:Option V) (ts:List Addr) (dn rest:List Raw),σ=[some (.ref a),some (.ref t),some (.int ((i:Nat):Int)),v3,v4,v5,v6,v7,v8]/\i≤ns.length/\PyFlat.calls PyRh04.shape f (ns.drop i)=some rest/\raw=dn++rest/\dn.length≤i/\
      H' t=some (.lst (ts.map V.ref))/\Paired (fun b c=>CallAt H H' b c/\∀n l:Addr,H' b=some (.tup [.int (rP c),.ref n,.ref l])->n≠t) ts dn/\Same H H'
theorem rinv_next {H H' H8:Hp} {a t nb lb b:Addr} {ns:List Int} {raw:List Raw} {i i' f:Nat} {v3 v4 v5 v6 v7 v8:Option V} {ts:List Addr} {dn cs:List Raw} {c:Raw} (ht:H t=none) (hi':i'≤ns.length) (hii:i < i') (hc:PyFlat.calls PyRh04.shape f (ns.drop i')=some cs) (hraw:raw=dn++c::cs) (hdn:dn.length≤i)
    (h1:H' t=some (.lst (ts.map V.ref))) (hp:Paired (fun b c=>CallAt H H' b c/\∀n l:Addr,H' b=some (.tup [.int (rP c),.ref n,.ref l])->n≠t) ts dn) (sm:Same H H') (s8:Same H' H8) (hnb:H' nb=none) (hlb:H' lb=none) (hn8:H8 nb=some (.lst (intV (rX c)))) (hl8:H8 lb=some (.tup (intV (rR c)))) (hb:H8 b=none):
    RInv H a t ns raw i' [some (.ref a),some (.ref t),some (.int ((i':Nat):Int)),v3,v4,v5,v6,v7,v8] (upd (upd H8 b (.tup [.int (rP c),.ref nb,.ref lb])) t (.lst (ts.map V.ref++[.ref b]))):=by
  have h18:=s8 _ _ h1
  have ntn:nb≠t:=fun e=>by rw[e,h1]at hnb;cases hnb
  have ntl:lb≠t:=ne_of hl8 h18 (by intro z;cases z)
  have nbt:b≠t:=fun e=>by rw[e,h18]at hb;cases hb
  have nbn:nb≠b:=ne_of_none hn8 hb
  have nbl:lb≠b:=ne_of_none hl8 hb
  have kp:∀x o,H' x=some o->x≠t->upd (upd H8 b (.tup [.int (rP c),.ref nb,.ref lb])) t (.lst (ts.map V.ref++[.ref b])) x=some o:=fun x o e hx=>by rw[upd_ne hx,upd_ne (ne_of_none (s8 _ _ e) hb)];exact s8 _ _ e
  refine⟨f,v3,v4,v5,v6,v7,v8,ts++[b],dn++[c],cs,rfl,hi',hc,by rw[hraw,List.append_assoc];rfl,by rw[List.length_append];simp only[List.length_cons,List.length_nil];omega,by rw[upd_same,List.map_append];rfl,Paired.snoc' (Paired.mapP hp fun b' c' ⟨h,h2⟩=> ?_) ⟨⟨nb,lb,⟨Same.back (sm.trans s8) hb,Same.back sm hnb,Same.back sm hlb⟩,?_,?_,?_⟩,?_⟩,fun x o e=>kp x o (sm x o e) (ne_of_none e ht)⟩
  · obtain⟨n,l,q0,q1,q2,q3⟩:=h
    have d1:b'≠t:=ne_of q1 h1 (by intro z;cases z)
    refine⟨⟨n,l,q0,kp _ _ q1 d1,kp _ _ q2 (h2 n l q1),kp _ _ q3 (ne_of q3 h1 (by intro z;cases z))⟩,fun n' l' q4=> ?_⟩
    rw[kp _ _ q1 d1]at q4
    injection q4 with q5
    injection q5 with q6
    injection q6 with _ q7
    injection q7 with q8 _
    injection q8 with q9
    exact q9 ▸ h2 n l q1
  · rw[upd_ne nbt,upd_same]
  · rw[upd_ne ntn,upd_ne nbn];exact hn8
  · rw[upd_ne ntl,upd_ne nbl];exact hl8
  · intro n' l' q4
    rw[upd_ne nbt,upd_same]at q4
    injection q4 with q5
    injection q5 with q6
    injection q6 with _ q7
    injection q7 with q8 _
    injection q8 with q9
    exact q9 ▸ ntn
section
variable {P:Program} {w:World} {K:PySem.W.Frag} {mg:Str->Option Value} {base:Heap}
theorem scRead:FnScope ["calls","read","place","call","shape","end","numbers","letters","begin"] ["calls"] (defScope sRead):=⟨rfl,rfl,rfl,by decide +kernel,rfl,by decide +kernel,by decide +kernel⟩
theorem ok_read {f:Addr} {fd:FuncData} (F:Fun K "read_calls" "read_calls" sRead f fd) (B:Blt mg) (SH:ShapesAt K mg):FnOk P w K mg base CX0 1 f fd ["calls"] (spRead K):=by
  refine F.ok scRead (fun vs H Q E h=> ?_) (fun cdv A outer s H vs Q E hr h=> ?_)
  · obtain⟨a,ns,raw,rfl,_⟩:=h
    rfl
  · obtain⟨a,ns,raw,rfl,ha,hl,hraw,k⟩:=h
    have nd:=scRead.nd
    obtain⟨sh,ss,gs,hsh,hss⟩:=SH
    refine⟨_,pss_cons (ps_set (i:=1) nd rfl (Or.inl rfl) (pe_lst pa_nil))
      (pss_cons (ps_set (i:=2) nd rfl (Or.inl rfl) pe_int)
      (pss_cons (ps_while PassesOwn.never (pt_cmpR op_lt (pv 2) (pe_callB call_len_seq (by rfl) B.len PySem.boot_len (pa_cons (pv 0) pa_nil)) (nomark _))
        (pss_cons (ps_set (i:=3) nd rfl (Or.inl rfl) (pe_ix ix_list (pv 0) (pv 2) (fun _ _=>rfl)))
        (pss_cons (ps_set (i:=4) nd rfl (Or.inl rfl) (pe_ix ix_tup (pe_glob rfl gs (v:= .ref sh) rfl) (pv 3) (fun _ _=>rfl)))
        (pss_cons (ps_set (i:=5) nd rfl (Or.inl rfl) (pe_op op_add (pe_op op_add (pv 2) pe_int) (pe_ix ix_tup (pv 4) pe_int (fun _ _=>rfl))))
        (pss_cons (ps_set (i:=6) nd rfl (Or.inl rfl) (pe_slice sl_list (pv 0) (po_some (pe_op op_add (pv 2) pe_int)) (po_some (pv 5))))
        (pss_cons (ps_set (i:=7) nd rfl (Or.inl rfl) (pe_tup pa_nil))
        (pss_cons (ps_if (pt_cmpR op_eq (pe_ix ix_tup (pv 4) pe_int (fun _ _=>rfl)) pe_int (nomark _))
          (pss_cons (ps_set (i:=8) nd rfl (Or.inl rfl) (pe_op op_add (pv 5) pe_int))
          (pss_cons (ps_set (i:=5) nd rfl (Or.inl rfl) (pe_op op_add (pv 8) (pe_ix ix_list (pv 0) (pe_op op_sub (pv 8) pe_int) (fun _ _=>rfl))))
          (pss_one (ps_set (i:=7) nd rfl (Or.inl rfl) (pe_callTy call_tuple_of (by rfl) B.tuple (show bootBuiltins "tuple"=some (.type "tuple")from by rfl) (pa_cons (pe_slice sl_list (pv 0) (po_some (pv 8)) (po_some (pv 5))) pa_nil)))))) pss_nil)
        (pss_cons (ps_expr (pe_bm PySem.F.plainAttrs_list PySem.F.slot_list_append PySem.F.type_list_append mt_append (pv 1) (pa_cons (pe_tup (pa_cons (pv 3) (pa_cons (pv 6) (pa_cons (pv 7) pa_nil)))) pa_nil)))
        (pss_one (ps_set (i:=2) nd rfl (Or.inl rfl) (pv 5)))))))))))
      (pss_one (ps_ret (pv 1))))),?_⟩
    refine⟨Nat.zero_le _,fun t ht=> ?_⟩
    have hlen:(intV ns).length=ns.length:=List.length_map ..
    refine⟨fun m σ H'=>∃i,m=ns.length - i/\RInv H a t ns raw i σ H',⟨_,0,rfl,ns.length,none,none,none,none,none,none,[],[],raw,rfl,Nat.zero_le _,hraw,rfl,Nat.zero_le _,upd_same,.nil,Same.new ht⟩,?_⟩
    rintro m σ H' ⟨i,rfl,f,v3,v4,v5,v6,v7,v8,ts,dn,rest,rfl,hi,hc,hr2,hdn,h1,hp,sm⟩
    have ha':=sqL_same ha sm
    have hts:ts.length=dn.length:=Paired.len hp
    refine⟨_,rfl,_,rfl,a,_,rfl,.inl ha',_,_,rfl,rfl,_,rfl,?_⟩
    rw[hlen]
    refine ite2 (fun hlt=> ?_) (fun hge=> ?_)
    · have hlt':i < ns.length:=by have:=of_decide_eq_true hlt;omega
      have hne:ns.drop i≠[]:=fun e=>by
        have:=congrArg List.length e
        rw[List.length_drop,List.length_nil]at this
        omega
      obtain⟨f',n,p,r,c,cs,t',e1,e2,e3,e4,e5,e6,e7⟩:=read_one hc hne
      have hr1:r=ns.drop (i+1):=by
        have:=congrArg List.tail e1
        rw[List.tail_drop]at this
        exact this.symm
      have hrl:r.length=ns.length - (i+1):=by rw[hr1,List.length_drop]
      have hp0:ns[i]? =some p:=by
        have:(ns.drop i)[0]? =some p:=by rw[e1];rfl
        rw[List.getElem?_drop]at this
        exact this
      have hpV:(intV ns)[i]? =some (.int p):=by unfold intV;rw[List.getElem?_map,hp0];rfl
      refine⟨fun σ' H''=>∃i',i < i'/\RInv H a t ns raw i' σ' H'',fun σ' H'' ⟨i',h3,h4⟩=>⟨ns.length - i',by obtain⟨_,_,_,_,_,_,_,_,_,_,_,h5,_⟩:=id h4;omega,i',rfl,h4⟩,?_⟩
      have hk:∃k,PyRh04.shape p=some (n,k):=by rcases e7 with⟨h,_⟩ | ⟨h,_⟩ <;> exact⟨_,h⟩
      obtain⟨k',hk'⟩:=hk
      obtain⟨j,sa,hj,hsa,hsq⟩:=hss p n k' hk'
      have hjV:(ss.map V.ref)[j]? =some (.ref sa):=by rw[List.getElem?_map,hsa];rfl
      have ec:cutV (intV ns) (some ((i:Int)+1)) (some ((i:Int)+1+(n:Int)))=intV (rX c):=by
        rw[show((i:Int)+1)=((i+1:Nat):Int) by omega,show(((i+1:Nat):Int)+(n:Int))=((i+1+n:Nat):Int) by omega,cut_ints _ _ _ (by omega) (by omega),e5,hr1]
        rw[show i+1+n - (i+1)=n by omega]
      refine⟨_,rfl,_,rfl,a,_,_,_,rfl,rfl,ha',atI_nat hpV,?_⟩
      refine⟨_,rfl,sh,_,_,_,rfl,rfl,hsh _,(by rw[hj];exact atI_nat hjV),?_⟩
      refine⟨_,rfl,_,_,rfl,rfl,_,rfl,sa,_,_,_,rfl,rfl,hsq _,rfl,_,_,rfl,rfl,?_⟩
      refine⟨_,rfl,_,rfl,_,_,rfl,rfl,_,rfl,_,rfl,_,rfl,a,_,rfl,ha',fun nb hnb=> ?_⟩
      refine⟨Nat.zero_le _,fun lb hlb=> ?_⟩
      rw[ec]at hlb
      have hr2':raw=dn++c::cs:=by rw[hr2,e2]
      have s6:Same H' (upd H' nb (.lst (intV (rX c)))):=Same.new hnb
      have s7:Same H' (upd (upd H' nb (.lst (intV (rX c)))) lb (.tup [])):=s6.trans (Same.new hlb)
      have nnl:nb≠lb:=ne_of_none (show upd H' nb (.lst (intV (rX c))) nb=some _ from upd_same) hlb
      have hts2:(ts.map V.ref).length < sizeLine:=by rw[List.length_map,hts];exact small20k (by omega)
      refine⟨_,rfl,sa,_,_,_,rfl,rfl,hsq _,rfl,rfl,_,rfl,?_⟩
      rw[ec]
      rcases e7 with⟨g1,g2,g3⟩ | ⟨g1,z,u,g2,g3,g4,g5⟩
      · rw[hk']at g1
        cases g1
        refine iteF ?_
        refine⟨_,rfl,.inl ⟨rfl,_,SqL.of (s7 _ _ h1)⟩,_,rfl,_,rfl,_,rfl,(by show 3≤sizeLine;decide),fun b hb=> ?_⟩
        refine⟨t,_,_,rfl,rfl,(Same.new hb) _ _ (s7 _ _ h1),hts2,?_⟩
        refine⟨_,rfl,i+1+n,by omega,?_⟩
        have:=rinv_next (ns:=ns) (raw:=raw) (i:=i) (c:=c) (cs:=cs) (dn:=dn) (a:=a) (nb:=nb) (lb:=lb) (b:=b) (i':=i+1+n) (v3:=some (.int p)) (v4:=some (.ref sa)) (v5:=some (.int ((i:Int)+1+(n:Int)))) (v6:=some (.ref nb)) (v7:=some (.ref lb)) (v8:=v8) ht (by omega) (by omega) (by rw[←List.drop_drop,←hr1,←g3];exact e3) hr2' hdn h1 hp sm s7 hnb (Same.back s6 hlb) (by rw[upd_ne nnl];exact upd_same) (by rw[g2];exact upd_same) hb
        rw[e4,show(((i+1+n:Nat)):Int)=(i:Int)+1+(n:Int) by omega]at this
        exact this
      · rw[hk']at g1
        cases g1
        refine iteT ?_
        have hdn2:ns.drop (i+1+n)=(z:Int)::u:=by rw[←List.drop_drop,←hr1];exact g2
        have hz0:ns[i+1+n]? =some ((z:Nat):Int):=by
          have:(ns.drop (i+1+n))[0]? =some ((z:Nat):Int):=by rw[hdn2];rfl
          rw[List.getElem?_drop]at this
          exact this
        have hzV:(intV ns)[i+1+n]? =some (.int ((z:Nat):Int)):=by unfold intV;rw[List.getElem?_map,hz0];rfl
        have hu1:u=ns.drop (i+1+n+1):=by
          have:=congrArg List.tail hdn2
          rw[List.tail_drop]at this
          exact this.symm
        have hul:u.length=ns.length - (i+1+n+1):=by rw[hu1,List.length_drop]
        have hin:i+1+n < ns.length:=by
          rcases Nat.lt_or_ge (i+1+n) ns.length with q | q
          · exact q
          · rw[List.getElem?_eq_none q]at hz0;cases hz0
        have er:cutV (intV ns) (some ((i:Int)+1+(n:Int)+1)) (some ((i:Int)+1+(n:Int)+1+(z:Int)))=intV (rR c):=by
          rw[show((i:Int)+1+(n:Int)+1)=((i+1+n+1:Nat):Int) by omega,show(((i+1+n+1:Nat):Int)+(z:Int))=((i+1+n+1+z:Nat):Int) by omega,cut_ints _ _ _ (by omega) (by omega),g4]
          rw[show i+1+n+1+z - (i+1+n+1)=z by omega,←hu1]
          rfl
        refine⟨_,rfl,_,_,rfl,rfl,?_⟩
        refine⟨_,rfl,_,rfl,_,rfl,_,_,rfl,rfl,a,_,_,_,rfl,rfl,sqL_same ha' s7,(by rw[show((i:Int)+1+(n:Int)+1 - 1)=((i+1+n:Nat):Int) by omega];exact atI_nat hzV),_,_,rfl,rfl,?_⟩
        refine⟨_,rfl,_,rfl,_,rfl,_,rfl,_,rfl,a,_,rfl,sqL_same ha' s7,fun q hq=> ?_⟩
        refine⟨q,_,rfl,.inl ⟨SqL.of upd_same,fun l hl'=> ?_⟩⟩
        rw[er]at hl' ⊢
        have s8:Same H' (upd (upd (upd H' nb (.lst (intV (rX c)))) lb (.tup [])) q (.lst (intV (rR c)))):=s7.trans (Same.new hq)
        have s9:Same H' (upd (upd (upd (upd H' nb (.lst (intV (rX c)))) lb (.tup [])) q (.lst (intV (rR c)))) l (.tup (intV (rR c)))):=s8.trans (Same.new hl')
        have hn7:upd (upd H' nb (.lst (intV (rX c)))) lb (.tup []) nb=some (.lst (intV (rX c))):=by rw[upd_ne nnl];exact upd_same
        refine⟨_,rfl,.inl ⟨rfl,_,SqL.of (s9 _ _ h1)⟩,_,rfl,_,rfl,_,rfl,(by show 3≤sizeLine;decide),fun b hb=> ?_⟩
        refine⟨t,_,_,rfl,rfl,(Same.new hb) _ _ (s9 _ _ h1),hts2,?_⟩
        refine⟨_,rfl,i+1+n+1+z,by omega,?_⟩
        have:=rinv_next (ns:=ns) (raw:=raw) (i:=i) (c:=c) (cs:=cs) (dn:=dn) (a:=a) (nb:=nb) (lb:=l) (b:=b) (i':=i+1+n+1+z) (v3:=some (.int p)) (v4:=some (.ref sa)) (v5:=some (.int ((i:Int)+1+(n:Int)+1+(z:Int)))) (v6:=some (.ref nb)) (v7:=some (.ref l)) (v8:=some (.int ((i:Int)+1+(n:Int)+1))) ht (by omega) (by omega)
          (by rw[←List.drop_drop,←hu1,←g5];exact e3) hr2' hdn h1 hp sm s9 hnb (Same.back s8 hl') ((Same.new hl') _ _ ((Same.new hq) _ _ hn7)) upd_same hb
        rw[e4,show(((i+1+n+1+z:Nat)):Int)=(i:Int)+1+(n:Int)+1+(z:Int) by omega]at this
        exact this
    · have he:i=ns.length:=by have:¬((i:Nat):Int) < ((ns.length:Nat):Int):=fun z=>hge (decide_eq_true z);omega
      subst he
      have hnil:rest=[]:=by
        rw[List.drop_length]at hc
        cases f with
        | zero=>exact(Option.some.inj hc).symm
        | succ f=>exact(Option.some.inj hc).symm
      subst hnil
      rw[List.append_nil]at hr2
      subst hr2
      exact⟨_,rfl,k H' t ts sm ht h1 (Paired.mapP hp fun _ _ h=>h.1)⟩
end
end TyP
end
section
namespace TyP
open PySem PySem.Spec
def CallIs (p:Int) (xs r:List Int):Rh04.Call->Prop
  | .word v w=>p=0/\xs=[(v:Int)]/\r=intsW w/\w.length≤30
  | .out w=>p=1/\xs=[]/\r=intsW w/\w.length≤30
  | .use w=>p=2/\xs=[]/\r=intsW w/\w.length≤30
  | .day=>p=3/\xs=[]/\r=[]
  | .best k w=>p=4/\xs=[(k:Int)]/\r=intsW w/\w.length≤30
  | .looks k w=>p=5/\xs=[(k:Int)]/\r=intsW w/\w.length≤30
  | .begin_ w=>p=6/\xs=[]/\r=intsW w/\w.length≤30
  | .more n=>p=7/\xs=[(n:Int)]/\r=[]
  | .sure w=>p=8/\xs=[]/\r=intsW w/\w.length≤30
  | .near e k w=>p=9/\xs=[(e:Int),(k:Int)]/\r=intsW w/\w.length≤30
  | .faults n w=>p=10/\xs=[(n:Int)]/\r=intsW w/\w.length≤30
  | .keys k w=>p=11/\xs=[(k:Int)]/\r=intsW w/\w.length≤30
theorem nat_int {z:Int} (h:Rh04Neutral.nat z=true):((z.toNat:Nat):Int)=z:=by
  unfold Rh04Neutral.nat at h
  rw[Bool.and_eq_true,decide_eq_true_eq]at h
  omega
theorem nats_ints {l:List Int} (h:l.all Rh04Neutral.nat=true):intsW (l.map Int.toNat)=l:=by
  unfold intsW
  rw[List.map_map]
  refine(List.map_congr_left fun z hz=> ?_).trans (List.map_id' l)
  exact nat_int (List.all_eq_true.mp h z hz)
theorem callOf_some {l:List Int} {x:Rh04.Call} (h:Rh04Neutral.callOf l=some x):l.all Rh04Neutral.nat=true/\Rh04Neutral.callIn (l.map Int.toNat)=some x:=by
  unfold Rh04Neutral.callOf at h
  by_cases e:l.all Rh04Neutral.nat=false
  · rw[if_pos e]at h;cases h
  · rw[if_neg e]at h
    exact⟨by simpa using e,h⟩
theorem ite_some2 {c:Prop} [Decidable c] {a:Nat×Nat} {b:Option (Nat×Nat)} {z:Nat×Nat} {G:Prop} (h1:c->a=z->G) (h2:b=some z->G) (h:(if c then some a else b)=some z):G:=by
  by_cases hc:c
  · rw[if_pos hc]at h
    exact h1 hc (Option.some.inj h)
  · rw[if_neg hc]at h
    exact h2 h
def Shaped (c:Raw):Prop:=∃(p:Int) (n:Nat) (xs:List Int),xs.length=n/\((PyRh04.shape p=some (n,0)/\c=[p::xs])∨(PyRh04.shape p=some (n,1)/\∃r,c=[p::xs,r]))
theorem shaped_all:∀(m f:Nat) (l:List Int) (raw:List Raw),raw.length≤m->PyFlat.calls PyRh04.shape f l=some raw->∀c∈raw,Shaped c:=by
  intro m
  induction m with
  | zero=>
    intro f l raw hm h c hc
    rw[List.length_eq_zero_iff.mp (Nat.le_zero.mp hm)]at hc
    cases hc
  | succ m ih=>
    intro f l raw hm h c hc
    by_cases hl:l=[]
    · subst hl
      have:raw=[]:=by cases f <;> exact(Option.some.inj h).symm
      rw[this]at hc;cases hc
    · obtain⟨f',n,p,r,c',cs,t,e1,e2,e3,e4,e5,e6,e7⟩:=read_one h hl
      rw[e2]at hc hm
      rcases List.mem_cons.mp hc with e | e
      · rw[e]
        refine⟨p,n,r.take n,by rw[List.length_take];omega,?_⟩
        rcases e7 with⟨g1,g2,_⟩ | ⟨g1,z,u,_,_,g2,_⟩
        · exact .inl ⟨g1,g2⟩
        · exact .inr ⟨g1,_,g2⟩
      · exact ih f' t cs (by rw[List.length_cons]at hm;omega) e3 c e
theorem len1 {xs:List Int} (h:xs.length=1):∃x,xs=[x]:=by
  match xs,h with
  | [x],_=>exact⟨x,rfl⟩
theorem len2 {xs:List Int} (h:xs.length=2):∃x y,xs=[x,y]:=by
  match xs,h with
  | [x,y],_=>exact⟨x,y,rfl⟩
theorem row30 {p:Int} {ys r:List Int} (h:PyInside.call PyRh04.bound [p::ys,r]=true) (hb:(PyRh04.bound p).2=[(0,4294967295,0,30)]):r.length≤30:=by
  unfold PyInside.call at h
  simp only[hb,PyInside.lists,Bool.and_eq_true,decide_eq_true_eq]at h
  exact h.2.1.1.2
theorem all_tail {a:Int} {l:List Int} (h:(a::l).all Rh04Neutral.nat=true):l.all Rh04Neutral.nat=true:=by
  rw[List.all_cons,Bool.and_eq_true]at h
  exact h.2
theorem all_head {a:Int} {l:List Int} (h:(a::l).all Rh04Neutral.nat=true):((a.toNat:Nat):Int)=a:=by
  rw[List.all_cons,Bool.and_eq_true]at h
  exact nat_int h.1
theorem row_of {r:List Int} (h:r.all Rh04Neutral.nat=true) (hl:r.length≤30):r=intsW (r.map Int.toNat)/\(r.map Int.toNat).length≤30:=⟨(nats_ints h).symm,by rw[List.length_map];exact hl⟩
theorem callIs_of {c:Raw} (hs:Shaped c) (hb:PyInside.call PyRh04.bound c=true) (ha:Rh04Neutral.asked1 ((PyRh04.whole c).headD [])=true):∃x,Rh04Neutral.callOf ((PyRh04.whole c).headD [])=some x/\CallIs (rP c) (rX c) (rR c) x:=by
  unfold Rh04Neutral.asked1 at ha
  obtain⟨x,hx⟩:=Option.isSome_iff_exists.mp ha
  refine⟨x,hx,?_⟩
  obtain⟨hn,hin⟩:=callOf_some hx
  obtain⟨p,n,xs,hl,⟨h,rfl⟩ | ⟨h,r,rfl⟩⟩:=hs
  · unfold PyRh04.shape at h
    refine ite_some2 (fun e1 e2=>by cases e2) (fun h=> ?_) h
    refine ite_some2 (fun e1 e2=>by cases e2) (fun h=> ?_) h
    refine ite_some2 (fun e1 e2=>by cases e2) (fun h=> ?_) h
    refine ite_some2 (fun e1 e2=> ?_) (fun h=> ?_) h
    · cases e2
      subst e1
      obtain rfl:=List.length_eq_zero_iff.mp hl
      cases hin
      exact⟨rfl,rfl,rfl⟩
    refine ite_some2 (fun e1 e2=>by cases e2) (fun h=> ?_) h
    refine ite_some2 (fun e1 e2=>by cases e2) (fun h=> ?_) h
    refine ite_some2 (fun e1 e2=>by cases e2) (fun h=> ?_) h
    refine ite_some2 (fun e1 e2=> ?_) (fun h=> ?_) h
    · cases e2
      subst e1
      obtain⟨x0,rfl⟩:=len1 hl
      cases hin
      have:=nats_ints hn
      refine⟨rfl,?_,rfl⟩
      show [x0]=[((x0.toNat:Nat):Int)]
      rw[nat_int (List.all_eq_true.mp hn x0 (by show x0∈[(7:Int),x0];exact List.mem_cons_of_mem _ List.mem_cons_self))]
    refine ite_some2 (fun e1 e2=>by cases e2) (fun h=> ?_) h
    refine ite_some2 (fun e1 e2=>by cases e2) (fun h=> ?_) h
    refine ite_some2 (fun e1 e2=>by cases e2) (fun h=> ?_) h
    refine ite_some2 (fun e1 e2=>by cases e2) (fun h=> ?_) h
    cases h
  · unfold PyRh04.shape at h
    refine ite_some2 (fun e1 e2=> ?_) (fun h=> ?_) h
    · cases e2
      subst e1
      obtain⟨x0,rfl⟩:=len1 hl
      have hn':((0:Int)::x0::r).all Rh04Neutral.nat=true:=hn
      have hw:=row_of (all_tail (all_tail hn')) (row30 hb rfl)
      have h0:=all_head (all_tail hn')
      cases hin
      exact⟨rfl,by show [x0]=[((x0.toNat:Nat):Int)];rw[h0],hw.1,hw.2⟩
    refine ite_some2 (fun e1 e2=> ?_) (fun h=> ?_) h
    · cases e2
      subst e1
      obtain rfl:=List.length_eq_zero_iff.mp hl
      have hn':((1:Int)::r).all Rh04Neutral.nat=true:=hn
      have hw:=row_of (all_tail hn') (row30 hb rfl)
      cases hin
      exact⟨rfl,rfl,hw.1,hw.2⟩
    refine ite_some2 (fun e1 e2=> ?_) (fun h=> ?_) h
    · cases e2
      subst e1
      obtain rfl:=List.length_eq_zero_iff.mp hl
      have hn':((2:Int)::r).all Rh04Neutral.nat=true:=hn
      have hw:=row_of (all_tail hn') (row30 hb rfl)
      cases hin
      exact⟨rfl,rfl,hw.1,hw.2⟩
    refine ite_some2 (fun e1 e2=>by cases e2) (fun h=> ?_) h
    refine ite_some2 (fun e1 e2=> ?_) (fun h=> ?_) h
    · cases e2
      subst e1
      obtain⟨x0,rfl⟩:=len1 hl
      have hn':((4:Int)::x0::r).all Rh04Neutral.nat=true:=hn
      have hw:=row_of (all_tail (all_tail hn')) (row30 hb rfl)
      have h0:=all_head (all_tail hn')
      cases hin
      exact⟨rfl,by show [x0]=[((x0.toNat:Nat):Int)];rw[h0],hw.1,hw.2⟩
    refine ite_some2 (fun e1 e2=> ?_) (fun h=> ?_) h
    · cases e2
      subst e1
      obtain⟨x0,rfl⟩:=len1 hl
      have hn':((5:Int)::x0::r).all Rh04Neutral.nat=true:=hn
      have hw:=row_of (all_tail (all_tail hn')) (row30 hb rfl)
      have h0:=all_head (all_tail hn')
      cases hin
      exact⟨rfl,by show [x0]=[((x0.toNat:Nat):Int)];rw[h0],hw.1,hw.2⟩
    refine ite_some2 (fun e1 e2=> ?_) (fun h=> ?_) h
    · cases e2
      subst e1
      obtain rfl:=List.length_eq_zero_iff.mp hl
      have hn':((6:Int)::r).all Rh04Neutral.nat=true:=hn
      have hw:=row_of (all_tail hn') (row30 hb rfl)
      cases hin
      exact⟨rfl,rfl,hw.1,hw.2⟩
    refine ite_some2 (fun e1 e2=>by cases e2) (fun h=> ?_) h
    refine ite_some2 (fun e1 e2=> ?_) (fun h=> ?_) h
    · cases e2
      subst e1
      obtain rfl:=List.length_eq_zero_iff.mp hl
      have hn':((8:Int)::r).all Rh04Neutral.nat=true:=hn
      have hw:=row_of (all_tail hn') (row30 hb rfl)
      cases hin
      exact⟨rfl,rfl,hw.1,hw.2⟩
    refine ite_some2 (fun e1 e2=> ?_) (fun h=> ?_) h
    · cases e2
      subst e1
      obtain⟨x0,x1,rfl⟩:=len2 hl
      have hn':((9:Int)::x0::x1::r).all Rh04Neutral.nat=true:=hn
      have hw:=row_of (all_tail (all_tail (all_tail hn'))) (row30 hb rfl)
      have h0:=all_head (all_tail hn')
      have h1:=all_head (all_tail (all_tail hn'))
      cases hin
      exact⟨rfl,by show [x0,x1]=[((x0.toNat:Nat):Int),((x1.toNat:Nat):Int)];rw[h0,h1],hw.1,hw.2⟩
    refine ite_some2 (fun e1 e2=> ?_) (fun h=> ?_) h
    · cases e2
      subst e1
      obtain⟨x0,rfl⟩:=len1 hl
      have hn':((10:Int)::x0::r).all Rh04Neutral.nat=true:=hn
      have hw:=row_of (all_tail (all_tail hn')) (row30 hb rfl)
      have h0:=all_head (all_tail hn')
      cases hin
      exact⟨rfl,by show [x0]=[((x0.toNat:Nat):Int)];rw[h0],hw.1,hw.2⟩
    refine ite_some2 (fun e1 e2=> ?_) (fun h=> ?_) h
    · cases e2
      subst e1
      obtain⟨x0,rfl⟩:=len1 hl
      have hn':((11:Int)::x0::r).all Rh04Neutral.nat=true:=hn
      have hw:=row_of (all_tail (all_tail hn')) (row30 hb rfl)
      have h0:=all_head (all_tail hn')
      cases hin
      exact⟨rfl,by show [x0]=[((x0.toNat:Nat):Int)];rw[h0],hw.1,hw.2⟩
    cases h
end TyP
end
section
namespace TyP
open PySem PySem.Spec PyProof.Rows L2 TyR
abbrev sAnswers:Stmt:=top 43
abbrev DIT:=Hp->Addr->Rh04.Desk->List Addr->Prop
structure DeskI (DI:DIT):Prop where
  live:∀{H:Hp} {a:Addr} {s:Rh04.Desk} {own:List Addr},DI H a s own->∀y∈own,∃o,H y=some o
  keep:∀{H H':Hp} {a:Addr} {s:Rh04.Desk} {own:List Addr},DI H a s own->(∀x o,H x=some o->(x∈own∨∀xs,o≠ .lst xs)->H' x=some o)->DI H' a s own
inductive spDInit (DI:DIT) (D:Addr) (vs:List V) (H:Hp) (Q:VK) (xk_:XK):Prop
  | mk (a dx:Addr) (h_0:vs=[.ref a]) (h_1:H a=some (.ins D dx [])) (h_2:∀(H':Hp) (own:List Addr),DI H' a ⟨[],none⟩ own->(∀x o,H x=some o->x≠a->H' x=some o)->Q .non H'):spDInit DI D vs H Q xk_
inductive spAns (DI:DIT) (vs:List V) (H:Hp) (Q:VK) (xk_:XK):Prop
  | mk (a n l:Addr) (p:Int) (xs r:List Int) (st:Rh04.Desk) (own:List Addr) (x:Rh04.Call) (h_0:vs=[.ref a,.int p,.ref n,.ref l]) (h_1:DI H a st own) (h_2:H n=some (.lst (intV xs))) (h_3:n ∉ own) (h_4:H l=some (.tup (intV r))) (h_5:CallIs p xs r x) (h_6:∀(H':Hp) (z:Addr) (own':List Addr),DI H' a (Rh04.step st x).1 own'->(∀y∈own',y∈own∨H y=none)->H z=none->z ∉ own'->H' z=some (.lst (intV (Rh04.step st x).2))->(∀y o,H y=some o->y ∉ own->H' y=some o)->Q (.ref z) H'):spAns DI vs H Q xk_
inductive spTop (K:PySem.W.Frag) (vs:List V) (H:Hp) (Q:VK) (xk_:XK):Prop
  | mk (a:Addr) (ns:List Int) (h_0:vs=[.ref a]) (h_1:SqL K H a (intV ns)) (h_2:ns.length≤2000) (h_3:PyRh04.answers_asked ns=true) (h_4:∀(H':Hp) (g:Addr),H' g=some (.lst (intV (PyRh04.answers ns)))->Q (.ref g) H'):spTop K vs H Q xk_
abbrev stp:Rh04.Desk->List (List Int)->Rh04.Desk×List Int:=fun s c=>Rh04Neutral.step s (c.headD [])
theorem stp_is {st:Rh04.Desk} {c:Raw} {x:Rh04.Call} (h:Rh04Neutral.callOf ((PyRh04.whole c).headD [])=some x):stp st (PyRh04.whole c)=Rh04.step st x:=by
  show Rh04Neutral.step st _=_
  unfold Rh04Neutral.step
  rw[h]
theorem asked_of {ns:List Int} (h:PyRh04.answers_asked ns=true):∃raw,PyFlat.calls PyRh04.shape ns.length ns=some raw/\PyRh04.answers ns=PyFlat.told (PyFlat.played stp ⟨[],none⟩ (raw.map PyRh04.whole))/\(PyRh04.answers ns).length≤10000000/\
    ∀c∈raw,∃x,Rh04Neutral.callOf ((PyRh04.whole c).headD [])=some x/\CallIs (rP c) (rX c) (rR c) x:=by
  unfold PyRh04.answers_asked at h
  cases e:PyFlat.calls PyRh04.shape ns.length ns with
  | none=>rw[e]at h;cases h
  | some raw=>
    rw[e]at h
    simp only[Bool.and_eq_true]at h
    obtain⟨⟨⟨⟨h1,h2⟩,h3⟩,h4⟩,h5⟩:=h
    refine⟨raw,rfl,?_,of_decide_eq_true h5,fun c hc=> ?_⟩
    · unfold PyRh04.answers PyRh04.calls
      rw[e]
      rfl
    · refine callIs_of (shaped_all _ _ _ _ (Nat.le_refl _) e c hc) (List.all_eq_true.mp h3 c hc) ?_
      unfold Rh04Neutral.asked at h4
      rw[Bool.and_eq_true]at h4
      exact List.all_eq_true.mp h4.1 _ (List.mem_map.mpr ⟨PyRh04.whole c,List.mem_map.mpr ⟨c,hc,rfl⟩,rfl⟩)
section
variable {P:Program} {w:World} {K:PySem.W.Frag} {mg:Str->Option Value} {base:Heap}
theorem scAnswers:FnScope ["calls","desk","given","call","numbers","letters","answered"] ["calls"] (defScope sAnswers):=⟨rfl,rfl,rfl,by decide +kernel,rfl,by decide +kernel,by decide +kernel⟩
theorem ok_answers {DI:DIT} {k f D fI fR fA:Addr} {fd fdI fdR fdA:FuncData} (J:DeskI DI) (F:Fun K "answers" "answers" sAnswers f fd) (B:Blt mg)
    (M:Mk K D fI) (gD:mg "Desk"=some (.ref D)) (GI:FnOk P w K mg base CX0 1 fI fdI ["self"] (spDInit DI D)) (bI:Binds K fdI ["self"] [])
    (GR:FnOk P w K mg base CX0 1 fR fdR ["calls"] (spRead K)) (bR:Binds K fdR ["calls"] []) (gR:mg "read_calls"=some (.ref fR)) (kR:PySem.W.keepIn K (.ref fR)=true)
    (GA:FnOk P w K mg base CX0 9 fA fdA ["desk","call","numbers","letters"] (spAns DI)) (bA:Binds K fdA ["desk","call","numbers","letters"] []) (gA:mg "answer"=some (.ref fA)) (kA:PySem.W.keepIn K (.ref fA)=true):
    FnOk P w K mg base CX0 10 f fd ["calls"] (spTop K):=by
  refine F.ok scAnswers (fun vs H Q E h=> ?_) (fun cdv A outer s H vs Q E hr h=> ?_)
  · obtain⟨a,ns,rfl,_⟩:=h
    rfl
  · obtain⟨c0,ns,rfl,hc0,hl,hask,k⟩:=h
    have nd:=scAnswers.nd
    obtain⟨raw,hraw,hans,hshort,hcalls⟩:=asked_of hask
    refine⟨_,pss_cons (ps_set (i:=1) nd rfl (Or.inl rfl) (pe_make0 M GI (hr.mono (by decide)) rfl gD bI .nil pass0))
      (pss_cons (ps_set (i:=2) nd rfl (Or.inl rfl) (pe_lst pa_nil))
      (pss_cons (ps_for PassesOwn.never rfl (pi_list (pe_call GR (hr.mono (by decide)) rfl gR kR bR .nil pass0 (pa_cons (pv 0) pa_nil))) (pg_tup rfl (pgs_cons (pg_name (i:=3) nd rfl (Or.inl rfl)) (pgs_cons (pg_name (i:=4) nd rfl (Or.inl rfl)) (pgs_cons (pg_name (i:=5) nd rfl (Or.inl rfl)) pgs_nil))))
        (pss_cons (ps_set (i:=6) nd rfl (Or.inl rfl) (pe_call GA hr rfl gA kA bA .nil pass0 (pa_cons (pv 1) (pa_cons (pv 3) (pa_cons (pv 4) (pa_cons (pv 5) pa_nil))))))
        (pss_cons (ps_expr (pe_bm PySem.F.plainAttrs_list PySem.F.slot_list_append PySem.F.type_list_append mt_append (pv 2) (pa_cons (pe_callB call_len_seq (by rfl) B.len PySem.boot_len (pa_cons (pv 6) pa_nil)) pa_nil)))
        (pss_one (ps_expr (pe_bm PySem.F.plainAttrs_list PySem.F.slot_list_extend PySem.F.type_list_extend mt_extend (pv 2) (pa_cons (pv 6) pa_nil)))))))
      (pss_one (ps_ret (pv 2))))),?_⟩
    intro a dx ha hdx hne
    have s1:Same H (upd (upd H dx (.own a)) a (.ins D dx [])):=(Same.new hdx).trans (Same.new (by rw[upd_ne (Ne.symm hne)];exact ha))
    refine⟨a,dx,rfl,upd_same,fun H1 own0 DI0 st1=>⟨rfl,?_⟩⟩
    have s2:Same H H1:=fun x o e=>st1 x o (s1 x o e) (ne_of_none e ha)
    refine⟨Nat.zero_le _,fun g hg=> ?_⟩
    have s3:Same H1 (upd H1 g (.lst [])):=Same.new hg
    have hgo:g ∉ own0:=fun z=>by
      obtain⟨o,ho⟩:=J.live DI0 g z
      rw[ho]at hg;cases hg
    refine⟨_,rfl,c0,ns,raw,rfl,sqL_same hc0 (s2.trans s3),hl,hraw,fun H3 t ts s4 ht ht3 hp=> ?_⟩
    have live0:∀y∈own0,∃o,upd H1 g (.lst []) y=some o:=fun y hy=>by
      obtain⟨o,ho⟩:=J.live DI0 y hy
      exact⟨o,s3 _ _ ho⟩
    have fresh0:∀y,upd H1 g (.lst []) y=none->y ∉ own0/\y≠g:=by
      intro y hy
      refine⟨fun z=> ?_,fun z=> ?_⟩
      · obtain⟨o,ho⟩:=live0 y z
        rw[ho]at hy;cases hy
      · rw[z,upd_same]at hy;cases hy
    have hg3:H3 g=some (.lst []):=s4 _ _ upd_same
    refine⟨t,rfl,⟨_,SqL.of ht3⟩,for_list (K:=K) (a:=t) (xs:=ts.map V.ref) (fun i σ H'=>∃(st:Rh04.Desk) (own:List Addr) (out:List Int) (v3 v4 v5 v6:Option V),σ=[some (.ref c0),some (.ref a),some (.ref g),v3,v4,v5,v6]/\DI H' a st own/\g ∉ own/\(∀y∈own,y∈own0∨H3 y=none)/\H' g=some (.lst (intV out))/\
      PyRh04.answers ns=out++PyFlat.told (PyFlat.played stp st ((raw.drop i).map PyRh04.whole))/\(∀x o,H3 x=some o->x≠g->x ∉ own0->H' x=some o))
      ⟨⟨[],none⟩,own0,[],none,none,none,none,rfl,J.keep DI0 (fun x o e _=>s4 _ _ (s3 _ _ e)),hgo,fun y hy=> .inl hy,hg3,hans,fun x o e _ _=>e⟩ (fun i σ H' _ ⟨_,_,_,_,_,_,_,_,_,_,_,_,_,h3⟩=>SqL.of (h3 _ _ ht3 (fresh0 t ht).2 (fresh0 t ht).1)) ?_ ?_⟩
    · rintro i y σ H' hi ⟨st,own,out,v3,v4,v5,v6,rfl,hDI,hgn,hown,hH,htot,kp⟩
      rw[List.getElem?_map]at hi
      obtain⟨b,hb,rfl⟩:=Option.map_eq_some_iff.mp hi
      obtain⟨c,hc,n,l,⟨f1,f2,f3⟩,q1,q2,q3⟩:=paired_get hp hb
      obtain⟨x,hx,hci⟩:=hcalls c (List.mem_of_getElem? hc)
      have q1':=kp _ _ q1 (fresh0 b f1).2 (fresh0 b f1).1
      have q2':=kp _ _ q2 (fresh0 n f2).2 (fresh0 n f2).1
      have q3':=kp _ _ q3 (fresh0 l f3).2 (fresh0 l f3).1
      have notown:∀z o,H3 z=some o->z ∉ own0->z ∉ own:=fun z o e h1 h2=>by
        rcases hown z h2 with h3 | h3
        · exact h1 h3
        · rw[e]at h3;cases h3
      have hil:i < raw.length:=by
        rcases Nat.lt_or_ge i raw.length with z | z
        · exact z
        · rw[List.getElem?_eq_none z]at hc;cases hc
      have hdr:raw.drop i=c::raw.drop (i+1):=by
        rw[List.drop_eq_getElem_cons hil]
        congr 1
        rw[List.getElem?_eq_getElem hil]at hc
        exact Option.some.inj hc
      have htot2:PyRh04.answers ns=out++[(((Rh04.step st x).2.length:Nat):Int)]++(Rh04.step st x).2++PyFlat.told (PyFlat.played stp (Rh04.step st x).1 ((raw.drop (i+1)).map PyRh04.whole)):=by
        rw[htot,hdr,List.map_cons]
        show out++PyFlat.told ((stp st (PyRh04.whole c)).2::PyFlat.played stp (stp st (PyRh04.whole c)).1 _)=_
        rw[stp_is hx]
        unfold PyFlat.told
        rw[List.flatMap_cons]
        simp only[List.append_assoc,List.cons_append,List.nil_append]
      have hlenT:=congrArg List.length htot2
      simp only[List.length_append,List.length_cons,List.length_nil]at hlenT
      have hsz:out.length+1+(Rh04.step st x).2.length≤10000000:=by omega
      refine⟨b,_,rfl,SqT.of q1',rfl,_,_,rfl,_,_,rfl,_,_,rfl,rfl,?_⟩
      refine⟨_,rfl,_,rfl,_,rfl,_,rfl,a,n,l,rP c,rX c,rR c,st,own,x,rfl,hDI,q2',notown _ _ q2 (fresh0 n f2).1,q3',hci,fun H4 z own' hDI' ho' hz hzo hz4 k4=> ?_⟩
      have hg4:H4 g=some (.lst (intV out)):=k4 _ _ hH hgn
      have hgz:z≠g:=fun e=>by rw[e,hH]at hz;cases hz
      have hgo':g ∉ own':=fun e=>by
        rcases ho' g e with h | h
        · exact hgn h
        · rw[hH]at h;cases h
      refine⟨_,rfl,.inl ⟨rfl,_,SqL.of hg4⟩,_,rfl,z,_,rfl,.inl (SqL.of hz4),g,_,_,rfl,rfl,hg4,?_,?_⟩
      · rw[List.length_map,sizeLine_eq];omega
      refine⟨_,rfl,.inl ⟨rfl,_,SqL.of upd_same⟩,_,rfl,g,z,_,_,rfl,rfl,upd_same,(by rw[upd_ne hgz];exact hz4),?_,?_⟩
      · rw[List.length_append,List.length_map,List.length_map,sizeLine_eq];simp only[List.length_cons,List.length_nil];omega
      refine⟨(Rh04.step st x).1,own',out++[(((Rh04.step st x).2.length:Nat):Int)]++(Rh04.step st x).2,_,_,_,_,rfl,J.keep hDI' (fun y o e hy=> ?_),hgo',fun y hy=> ?_,?_,htot2,fun y o e h1 h2=> ?_⟩
      · have:y≠g:=fun e2=>by
          rcases hy with h | h
          · exact hgo' (e2 ▸ h)
          · rw[e2,hg4]at e
            cases e
            exact h _ rfl
        rw[upd_ne this,upd_ne this]
        exact e
      · rcases ho' y hy with h | h
        · exact hown y h
        · by_cases h0:y∈own0
          · exact .inl h0
          refine .inr ?_
          cases e:H3 y with
          | none=>rfl
          | some o=>
            by_cases h1:y=g
            · rw[h1,hH]at h;cases h
            · rw[kp y o e h1 h0]at h;cases h
      · rw[upd_same,List.length_map]
        unfold intV
        rw[List.map_append,List.map_append]
        rfl
      · rw[upd_ne h1,upd_ne h1]
        exact k4 _ _ (kp _ _ e h1 h2) (notown _ _ e h2)
    · rintro σ H' ⟨st,own,out,v3,v4,v5,v6,rfl,hDI,hgn,hown,hH,htot,kp⟩
      refine⟨_,rfl,k H' g ?_⟩
      have hlt:ts.length=raw.length:=Paired.len hp
      rw[List.length_map,hlt,List.drop_length]at htot
      rw[htot]
      show H' g=some (.lst (intV (out++[])))
      rw[List.append_nil]
      exact hH
end
end TyP
end
section
namespace TyP
open PySem PySem.Spec PyProof.Rows L2 TyR
open Rh04 (Ready Item Weighed)
theorem SearchAt.keep {S E:Addr} {H H':Hp} {x rd wd hd:Addr} {p:Word} {s:Rh04.Search} (A:SearchAt S E H x rd wd hd p s)
    (k:∀y o,H y=some o->(y=x∨y=rd∨y=wd∨y=hd∨((∀xs,o≠ .lst xs)/\∀kvs,o≠ .dT kvs))->H' y=some o):SearchAt S E H' x rd wd hd p s:=by
  obtain⟨⟨dx,wt,hv,as,rs,h1,h2,h3,R,h4,h5⟩,h6,h7,h8,h9,h10⟩:=A
  refine⟨⟨dx,wt,hv,as,rs,k _ _ h1 (.inl rfl),k _ _ h2 (.inr (.inr (.inl rfl))),k _ _ h3 (.inr (.inr (.inr (.inl rfl)))),⟨k _ _ R.lst (.inr (.inl rfl)),R.nd,Paired.mapP R.at_ fun b r h=> ?_⟩,h4,h5⟩,h6,h7,h8,h9,h10⟩
  obtain⟨d,q,g1,g2⟩:=h
  exact⟨d,q,k _ _ g1 (.inr (.inr (.inr (.inr ⟨(by intro xs z;cases z),(by intro xs z;cases z)⟩)))),k _ _ g2 (.inr (.inr (.inr (.inr ⟨(by intro xs z;cases z),(by intro xs z;cases z)⟩))))⟩
def Srch (S E:Addr) (H:Hp) (ow us:Addr) (v:V):Option Rh04.Search->List Addr->Prop
  | none,so=>v= .non/\so=[]
  | some t,so=>∃(x rd wd hd:Addr) (p:Word),v= .ref x/\SearchAt S E H x rd wd hd p t/\wd≠ow/\wd≠us/\hd≠ow/\hd≠us/\so=[x,rd]
theorem Srch.live {S E:Addr} {H:Hp} {ow us:Addr} {v:V} {t:Option Rh04.Search} {so:List Addr} (h:Srch S E H ow us v t so):∀y∈so,∃o,H y=some o:=by
  cases t with
  | none=>obtain⟨_,rfl⟩:=h;intro y hy;cases hy
  | some t=>
    obtain⟨x,rd,wd,hd,p,_,A,_,_,_,_,rfl⟩:=h
    obtain⟨⟨dx,wt,hv,as,rs,h1,h2,h3,R,h4,h5⟩,_⟩:=id A
    intro y hy
    simp only[List.mem_cons,List.not_mem_nil,or_false]at hy
    rcases hy with rfl | rfl
    · exact⟨_,h1⟩
    · exact⟨_,R.lst⟩
theorem Srch.keep {S E:Addr} {H H':Hp} {ow us:Addr} {v:V} {t:Option Rh04.Search} {so:List Addr} (h:Srch S E H ow us v t so)
    (k:∀y o,H y=some o->(y∈so∨((∀xs,o≠ .lst xs)/\y≠ow/\y≠us))->H' y=some o) (ho:∃kvs,H ow=some (.dT kvs)) (hu:∃kvs,H us=some (.dT kvs)):Srch S E H' ow us v t so:=by
  cases t with
  | none=>exact h
  | some t=>
    obtain⟨x,rd,wd,hd,p,e,A,n1,n2,n3,n4,rfl⟩:=h
    obtain⟨ko,ho⟩:=ho
    obtain⟨ku,hu⟩:=hu
    refine⟨x,rd,wd,hd,p,e,A.keep fun y o e hy=> ?_,n1,n2,n3,n4,rfl⟩
    obtain⟨⟨dx,wt,hv,as,rs,h1,h2,h3,R,h4,h5⟩,_⟩:=id A
    refine k y o e ?_
    rcases hy with rfl | rfl | rfl | rfl | ⟨g1,g2⟩
    · exact .inl (by simp)
    · exact .inl (by simp)
    · rw[h2]at e;cases e
      exact .inr ⟨(by intro xs z;cases z),n1,n2⟩
    · rw[h3]at e;cases e
      exact .inr ⟨(by intro xs z;cases z),n3,n4⟩
    · refine .inr ⟨g1,fun z=> ?_,fun z=> ?_⟩
      · rw[z,ho]at e;cases e;exact g2 _ rfl
      · rw[z,hu]at e;cases e;exact g2 _ rfl
def df (ow us:Addr) (v:V):List (Str×V):=putF "open_search" v (putF "uses_weights" (.ref us) (putF "own_weights" (.ref ow) []))
theorem df_search (ow us:Addr) (v:V):(df ow us v).lookup ("open_search":Str)=some v:=by
  unfold df
  rw[lookup_putF,if_pos rfl]
theorem df_no (ow us:Addr) (v:V) {m:Str} (h1:¬m="open_search") (h2:¬m="uses_weights") (h3:¬m="own_weights"):(df ow us v).lookup m=none:=by
  unfold df
  rw[lookup_putF,if_neg h1,lookup_putF,if_neg h2,lookup_putF,if_neg h3]
  rfl
theorem df_F (ow us:Addr) (v:V):DeskF (df ow us v) ow us:=by
  refine⟨?_,?_,df_no _ _ _ (by decide +kernel) (by decide +kernel) (by decide +kernel)⟩ <;> unfold df
  · rw[lookup_putF,if_neg (by decide +kernel),lookup_putF,if_neg (by decide +kernel),lookup_putF,if_pos rfl]
  · rw[lookup_putF,if_neg (by decide +kernel),lookup_putF,if_pos rfl]
theorem df_put (ow us:Addr) (v v':V):putF "open_search" v' (df ow us v)=df ow us v':=by
  unfold df
  rfl
def DI (D S E:Addr):DIT:=fun H a s own=>∃(dx ow us:Addr) (v:V) (its:List Item) (so:List Addr),H a=some (.ins D dx (df ow us v))/\WordsAt H ow us its s.words/\Srch S E H ow us v s.search so/\own=a::ow::us::so
theorem di_ok (D S E:Addr):DeskI (DI D S E):=by
  refine⟨?_,?_⟩
  · rintro H a s own ⟨dx,ow,us,v,its,so,ha,W,hs,rfl⟩ y hy
    simp only[List.mem_cons]at hy
    rcases hy with rfl | rfl | rfl | hy
    · exact⟨_,ha⟩
    · exact⟨_,W.own⟩
    · exact⟨_,W.uses⟩
    · exact hs.live y hy
  · rintro H H' a s own ⟨dx,ow,us,v,its,so,ha,W,hs,rfl⟩ k
    refine⟨dx,ow,us,v,its,so,k _ _ ha (.inl (by simp)),⟨k _ _ W.own (.inl (by simp)),k _ _ W.uses (.inl (by simp)),W.ne,W.perm,W.ok,W.srt⟩,hs.keep (fun y o e hy=>k y o e ?_) ⟨_,W.own⟩ ⟨_,W.uses⟩,rfl⟩
    rcases hy with hy | hy
    · exact .inl (by simp[hy])
    · exact .inr hy.1
theorem step_words (st:Rh04.Desk) (c:Rh04.Call) (h:(∃v w,c= .word v w)∨(∃w,c= .out w)∨(∃w,c= .use w)∨c= .day):Rh04.step st c=({st with words:=wordsOf st.words c},ansOf st.words c):=by
  unfold wordsOf ansOf
  obtain⟨d,s⟩:=st
  rcases h with⟨v,w,rfl⟩ | ⟨w,rfl⟩ | ⟨w,rfl⟩ | rfl
  · by_cases h1:100000 < v∨Rh04.isWord w=false
    · simp only[Rh04.step,if_pos h1]
    · by_cases h2:(Rh04.find_ d w).isNone=true/\60≤d.length
      · simp only[Rh04.step,if_neg h1,if_pos h2]
      · simp only[Rh04.step,if_neg h1,if_neg h2]
  · by_cases h1:(Rh04.find_ d w).isNone=true
    · simp only[Rh04.step,if_pos h1]
    · simp only[Rh04.step,if_neg h1]
  · cases h1:Rh04.find_ d w with
    | none=>simp only[Rh04.step,h1]
    | some x=>
      by_cases h2:100000 < x.used+16
      · simp only[Rh04.step,h1,if_pos h2]
      · simp only[Rh04.step,h1,if_neg h2]
  · rfl
def Asks:Rh04.Call->Prop
  | .best _ _=>True | .looks _ _=>True | .sure _=>True | .near _ _ _=>True | .faults _ _=>True | .keys _ _=>True
  | _=>False
theorem step_asks (st:Rh04.Desk) (c:Rh04.Call) (h:Asks c):Rh04.step st c=(st,ansOf st.words c):=by
  cases c <;> first | rfl | cases h
end TyP
end
section
namespace TyP
open PySem PySem.Spec PyProof.Rows L2 TyR
open Rh04 (Ready Item Weighed)
def After (I:DIT) (H:Hp) (a:Addr) (st:Rh04.Desk) (own:List Addr) (x:Rh04.Call) (Q:VK):Prop:=
  ∀(H':Hp) (z:Addr) (own':List Addr),I H' a (Rh04.step st x).1 own'->(∀y∈own',y∈own∨H y=none)->H z=none->z ∉ own'->H' z=some (.lst (intV (Rh04.step st x).2))->(∀y o,H y=some o->y ∉ own->H' y=some o)->Q (.ref z) H'
theorem Srch.notD {S E:Addr} {H:Hp} {ow us:Addr} {v:V} {t:Option Rh04.Search} {so:List Addr} (h:Srch S E H ow us v t so):∀y∈so,∀kvs,H y≠some (.dT kvs):=by
  cases t with
  | none=>obtain⟨_,rfl⟩:=h;intro y hy;cases hy
  | some t=>
    obtain⟨x,rd,wd,hd,p,_,A,_,_,_,_,rfl⟩:=h
    obtain⟨⟨dx,wt,hv,as,rs,h1,h2,h3,R,h4,h5⟩,_⟩:=id A
    intro y hy kvs z
    simp only[List.mem_cons,List.not_mem_nil,or_false]at hy
    rcases hy with rfl | rfl
    · rw[h1]at z;cases z
    · rw[R.lst]at z;cases z
theorem ended_of {D S E:Addr} {H:Hp} {a dx ow us:Addr} {v:V} {its:List Item} {so:List Addr} {st:Rh04.Desk} {c:Rh04.Call} {Q:VK} (hc:(∃v w,c= .word v w)∨(∃w,c= .out w)∨(∃w,c= .use w)∨c= .day)
    (ha:H a=some (.ins D dx (df ow us v))) (W:WordsAt H ow us its st.words) (hs:Srch S E H ow us v st.search so) (k:After (DI D S E) H a st (a::ow::us::so) c Q):Ended H ow us st.words c Q:=by
  intro H' r its' hr hr' W' fr
  unfold After at k
  rw[step_words st c hc]at k
  have nao:a≠ow:=ne_of ha W.own (by intro z;cases z)
  have nau:a≠us:=ne_of ha W.uses (by intro z;cases z)
  refine k H' r (a::ow::us::so) ⟨dx,ow,us,v,its',so,fr _ _ ha nao nau,W',hs.keep (fun y o e hy=> ?_) ⟨_,W.own⟩ ⟨_,W.uses⟩,rfl⟩ (fun y hy=> .inl hy) hr (fun z=> ?_) hr' (fun y o e hy=> ?_)
  · rcases hy with hy | ⟨_,h1,h2⟩
    · exact fr y o e (fun z=>hs.notD y hy _ (by rw[z];exact W.own)) (fun z=>hs.notD y hy _ (by rw[z];exact W.uses))
    · exact fr y o e h1 h2
  · obtain⟨o,ho⟩:=(di_ok D S E).live (a:=a) (s:=st) ⟨dx,ow,us,v,its,so,ha,W,hs,rfl⟩ r z
    rw[ho]at hr;cases hr
  · simp only[List.mem_cons,not_or]at hy
    exact fr y o e hy.2.1 hy.2.2.1
theorem said_of {D S E:Addr} {H:Hp} {a dx ow us:Addr} {v:V} {its:List Item} {so:List Addr} {st:Rh04.Desk} {c:Rh04.Call} {Q:VK} (hc:Asks c)
    (ha:H a=some (.ins D dx (df ow us v))) (W:WordsAt H ow us its st.words) (hs:Srch S E H ow us v st.search so) (k:After (DI D S E) H a st (a::ow::us::so) c Q):Said H st.words c Q:=by
  intro H' r sm hr hr'
  unfold After at k
  rw[step_asks st c hc]at k
  have A:DI D S E H a st (a::ow::us::so):=⟨dx,ow,us,v,its,so,ha,W,hs,rfl⟩
  refine k H' r (a::ow::us::so) ((di_ok D S E).keep A fun y o e _=>sm y o e) (fun y hy=> .inl hy) hr (fun z=> ?_) hr' (fun y o e _=>sm y o e)
  obtain⟨o,ho⟩:=(di_ok D S E).live A r z
  rw[ho]at hr;cases hr
theorem begun_of {D S E:Addr} {H H':Hp} {a dx ow us x rd wd hd z:Addr} {v:V} {its:List Item} {so:List Addr} {st:Rh04.Desk} {p:Word} {Q:VK}
    (ha:H a=some (.ins D dx (df ow us v))) (W:WordsAt H ow us its st.words) (hs:Srch S E H ow us v st.search so) (k:After (DI D S E) H a st (a::ow::us::so) (.begin_ p) Q) (hp:Rh04.isTyped p=true)
    (nx:H x=none) (nrd:H rd=none) (nwd:H wd=none) (nhd:H hd=none) (SA:SearchAt S E H' x rd wd hd p (Rh04.start st.words p)) (hz:H z=none) (hzx:z≠x) (hzr:z≠rd) (ha':H' a=some (.ins D dx (df ow us (.ref x))))
    (fr:∀y o,H y=some o->y≠a->H' y=some o) (hz':H' z=some (.lst [.int (((Rh04.all st.words p).length:Nat):Int)])):Q (.ref z) H':=by
  unfold After at k
  have e:Rh04.step st (.begin_ p)=({st with search:=some (Rh04.start st.words p)},Rh04.ints [(Rh04.all st.words p).length]):=by
    simp only[Rh04.step,hp,Bool.true_eq_false,if_false]
  rw[e]at k
  have nao:ow≠a:=ne_of W.own ha (by intro z;cases z)
  have nau:us≠a:=ne_of W.uses ha (by intro z;cases z)
  have A:DI D S E H a st (a::ow::us::so):=⟨dx,ow,us,v,its,so,ha,W,hs,rfl⟩
  refine k H' z [a,ow,us,x,rd] ⟨dx,ow,us,.ref x,its,[x,rd],ha',⟨fr _ _ W.own nao,fr _ _ W.uses nau,W.ne,W.perm,W.ok,W.srt⟩,⟨x,rd,wd,hd,p,rfl,SA,?_,?_,?_,?_,rfl⟩,rfl⟩ (fun y hy=> ?_) hz (fun q=> ?_) hz' (fun y o e hy=>fr y o e (fun z=>hy (by simp[z])))
  · exact Ne.symm (ne_of_none W.own nwd)
  · exact Ne.symm (ne_of_none W.uses nwd)
  · exact Ne.symm (ne_of_none W.own nhd)
  · exact Ne.symm (ne_of_none W.uses nhd)
  · simp only[List.mem_cons,List.not_mem_nil,or_false]at hy
    rcases hy with rfl | rfl | rfl | rfl | rfl
    · exact .inl (by simp)
    · exact .inl (by simp)
    · exact .inl (by simp)
    · exact .inr nx
    · exact .inr nrd
  · simp only[List.mem_cons,List.not_mem_nil,or_false]at q
    rcases q with rfl | rfl | rfl | rfl | rfl
    · rw[ha]at hz;cases hz
    · rw[W.own]at hz;cases hz
    · rw[W.uses]at hz;cases hz
    · exact hzx rfl
    · exact hzr rfl
theorem refused_of {D S E:Addr} {H H':Hp} {a dx ow us z:Addr} {v:V} {its:List Item} {so:List Addr} {st:Rh04.Desk} {c:Rh04.Call} {l:List Int} {Q:VK}
    (ha:H a=some (.ins D dx (df ow us v))) (W:WordsAt H ow us its st.words) (hs:Srch S E H ow us v st.search so) (k:After (DI D S E) H a st (a::ow::us::so) c Q) (e:Rh04.step st c=(st,l)) (sm:Same H H') (hz:H z=none) (hz':H' z=some (.lst (intV l))):Q (.ref z) H':=by
  unfold After at k
  rw[e]at k
  have A:DI D S E H a st (a::ow::us::so):=⟨dx,ow,us,v,its,so,ha,W,hs,rfl⟩
  refine k H' z (a::ow::us::so) ((di_ok D S E).keep A fun y o e _=>sm y o e) (fun y hy=> .inl hy) hz (fun q=> ?_) hz' (fun y o e _=>sm y o e)
  obtain⟨o,ho⟩:=(di_ok D S E).live A z q
  rw[ho]at hz;cases hz
theorem gone_of {D S E:Addr} {H H':Hp} {a dx ow us x rd wd hd z:Addr} {its:List Item} {st:Rh04.Desk} {t:Rh04.Search} {p:Word} {n:Nat} {Q:VK} (hDS:D≠S)
    (ha:H a=some (.ins D dx (df ow us (.ref x)))) (W:WordsAt H ow us its st.words) (hst:st.search=some t) (SA:SearchAt S E H x rd wd hd p t) (n1:wd≠ow) (n2:wd≠us) (n3:hd≠ow) (n4:hd≠us) (k:After (DI D S E) H a st [a,ow,us,x,rd] (.more n) Q)
    (SA':SearchAt S E H' x rd wd hd p (Rh04.more n t).2) (hz:H z=none) (fr:∀y o,H y=some o->y≠x->y≠rd->H' y=some o) (hz':H' z=some (.lst (intV (Rh04.weighed (Rh04.more n t).1++Rh04.ints [(Rh04.more n t).2.opened])))):Q (.ref z) H':=by
  unfold After at k
  have e:Rh04.step st (.more n)=({st with search:=some (Rh04.more n t).2},Rh04.weighed (Rh04.more n t).1++Rh04.ints [(Rh04.more n t).2.opened]):=by
    simp only[Rh04.step,hst]
  rw[e]at k
  obtain⟨⟨xd,wt,hv,as,rs,h1,h2,h3,R,h4,h5⟩,_⟩:=id SA
  have nax:a≠x:=fun q=>by rw[q,h1]at ha;injection ha with q2;injection q2 with q3;exact hDS q3.symm
  have nar:a≠rd:=ne_of ha R.lst (by intro z;cases z)
  have nox:ow≠x:=ne_of W.own h1 (by intro z;cases z)
  have nor:ow≠rd:=ne_of W.own R.lst (by intro z;cases z)
  have nux:us≠x:=ne_of W.uses h1 (by intro z;cases z)
  have nur:us≠rd:=ne_of W.uses R.lst (by intro z;cases z)
  refine k H' z [a,ow,us,x,rd] ⟨dx,ow,us,.ref x,its,[x,rd],fr _ _ ha nax nar,⟨fr _ _ W.own nox nor,fr _ _ W.uses nux nur,W.ne,W.perm,W.ok,W.srt⟩,⟨x,rd,wd,hd,p,rfl,SA',n1,n2,n3,n4,rfl⟩,rfl⟩ (fun y hy=> .inl hy) hz (fun q=> ?_) hz' (fun y o e hy=> ?_)
  · simp only[List.mem_cons,List.not_mem_nil,or_false]at q
    rcases q with rfl | rfl | rfl | rfl | rfl
    · rw[ha]at hz;cases hz
    · rw[W.own]at hz;cases hz
    · rw[W.uses]at hz;cases hz
    · rw[h1]at hz;cases hz
    · rw[R.lst]at hz;cases hz
  · simp only[List.mem_cons,List.not_mem_nil,or_false,not_or]at hy
    exact fr y o e hy.2.2.2.1 hy.2.2.2.2
end TyP
end
section
namespace TyR
open PySem PySem.W PyProof.Rows
section
variable {n:Nat} {lt:Nat->Nat->Bool} {s:Shared}
def pureC (n:Nat) (lt:Nat->Nat->Bool) (i j:Nat) (C:Bool->Shared->Prop) (s:Shared):Prop:=i < n/\j < n/\C (lt i j) s
abbrev W {α:Type} (n:Nat) (lt:Nat->Nat->Bool) (t:KasT α) (R:α->Prop):Prop:=∀s,t.kasWp (pureC n lt) (fun a s'=>R a/\s'=s) s
theorem W.to {α:Type} {cmp:Nat->Nat->(Bool->Shared->Prop)->Shared->Prop} {s:Shared} (hc:∀i j (C:Bool->Shared->Prop),i < n->j < n->C (lt i j) s->cmp i j C s) {Q:α->Shared->Prop} {R:α->Prop} (hQ:∀a,R a->Q a s):
    ∀t:KasT α,t.kasWp (pureC n lt) (fun a s'=>R a/\s'=s) s->t.kasWp cmp Q s
  | .ret a,h=>by
    have h':R a/\s=s:=h
    exact hQ a h'.1
  | .ask i j k,h=>by
    have h':i < n/\j < n/\(k (lt i j)).kasWp (pureC n lt) (fun a s'=>R a/\s'=s) s:=h
    exact hc i j _ h'.1 h'.2.1 (W.to hc hQ (k (lt i j)) h'.2.2)
theorem W.ret {α:Type} {a:α} {R:α->Prop} (h:R a):W n lt (.ret a) R:=fun _=>⟨h,rfl⟩
theorem W.ask {α:Type} {i j:Nat} {k:Bool->KasT α} {R:α->Prop} (hi:i < n) (hj:j < n) (h:W n lt (k (lt i j)) R):W n lt (.ask i j k) R:=fun s=>⟨hi,hj,h s⟩
theorem W.bind {α β:Type} {f:α->KasT β} {R:β->Prop}:∀{t:KasT α},W n lt t (fun a=>W n lt (f a) R)->W n lt (t.bind f) R
  | .ret a,w=>fun s=>(w s).1 s
  | .ask i j k,w=>fun s=>⟨(w s).1,(w s).2.1,(W.bind (t:=k (lt i j)) (fun s=>(w s).2.2)) s⟩
def Asc (lt:Nat->Nat->Bool) (p:Array Nat) (m:Nat):Prop:=∀i j,i < j->j < m->lt (p.getD i 0) (p.getD j 0)=true
structure Ord (n:Nat) (lt:Nat->Nat->Bool):Prop where
  tr:∀i j k,i < n->j < n->k < n->lt i j=true->lt j k=true->lt i k=true
  irr:∀i,i < n->lt i i=false
  tot:∀i j,i < n->j < n->i≠j->lt i j=true∨lt j i=true
structure Pl (n:Nat) (p:Array Nat):Prop where
  size:p.size=n
  lt:∀i,i < n->p.getD i 0 < n
  inj:∀i j,i < n->j < n->p.getD i 0=p.getD j 0->i=j
  pm:p.toList.Perm (List.range n)
theorem getD_of {p:Array Nat} {i v:Nat} (h:p[i]? =some v):p.getD i 0=v:=by
  rw[Array.getD_eq_getD_getElem?,h];rfl
theorem get_of {p:Array Nat} {i:Nat} (h:i < p.size):p[i]? =some (p.getD i 0):=by
  rw[Array.getD_eq_getD_getElem?,Array.getElem?_eq_getElem h];rfl
theorem getD_eq {p q:Array Nat} {i j:Nat} (h:p[i]? =q[j]?):p.getD i 0=q.getD j 0:=by
  rw[Array.getD_eq_getD_getElem?,h,←Array.getD_eq_getD_getElem?]
theorem Pl.perm {p q:Array Nat} (P:Pl n p) (h:q.Perm p):Pl n q:=by
  have hs:q.size=n:=h.size_eq.trans P.size
  have hl:q.toList.Perm p.toList:=Array.perm_iff_toList_perm.mp h
  have nd:p.toList.Nodup:=by
    refine List.pairwise_iff_getElem.mpr fun i j hi hj hij e=> ?_
    have hi':i < p.size:=by simpa using hi
    have hj':j < p.size:=by simpa using hj
    have e':p[i]? =p[j]? :=by
      rw[Array.getElem?_eq_getElem hi',Array.getElem?_eq_getElem hj']
      simpa using e
    have:=P.inj i j (by rw[←P.size];exact hi') (by rw[←P.size];exact hj') (getD_eq e')
    omega
  have nq:=List.pairwise_iff_getElem.mp (hl.nodup_iff.mpr nd)
  refine⟨hs,fun i hi=> ?_,fun i j hi hj e=> ?_,hl.trans P.pm⟩
  · have hm:q.getD i 0∈q.toList:=List.mem_of_getElem? (i:=i) (by rw[Array.getElem?_toList];exact get_of (by omega))
    obtain⟨k,hk,e⟩:=List.getElem_of_mem (hl.mem_iff.mp hm)
    have hk':k < p.size:=by simpa using hk
    have:=P.lt k (by rw[←P.size];exact hk')
    rw[←e,Array.getElem_toList]
    rw[Array.getD_eq_getD_getElem?,Array.getElem?_eq_getElem hk']at this
    exact this
  · have key:∀i j,i < j->j < n->q.getD i 0≠q.getD j 0:=fun i j hij hj e=>by
      have hj':j < q.size:=by omega
      have hi':i < q.size:=by omega
      refine nq i j (by simpa using hi') (by simpa using hj') hij ?_
      rw[Array.getD_eq_getD_getElem?,Array.getD_eq_getD_getElem?,Array.getElem?_eq_getElem hi',Array.getElem?_eq_getElem hj']at e
      simpa using e
    rcases Nat.lt_trichotomy i j with h | h | h
    · exact absurd e (key i j h hj)
    · exact h
    · exact absurd e.symm (key j i h hi)
variable {p:Array Nat}
theorem Ord.not {i j:Nat} (O:Ord n lt) (hi:i < n) (hj:j < n) (hne:i≠j) (h:lt i j=false):lt j i=true:=by
  rcases O.tot i j hi hj hne with q | q
  · rw[q]at h;cases h
  · exact q
theorem Asc.step {m:Nat} (O:Ord n lt) (P:Pl n p) (h:Asc lt p m) (h1:1≤m) (hm:m < n) (q:lt (p.getD (m - 1) 0) (p.getD m 0)=true):Asc lt p (m+1):=by
  intro i j hij hj
  by_cases e:j=m
  · subst e
    by_cases e2:i=j - 1
    · subst e2;exact q
    · exact O.tr _ (p.getD (j - 1) 0) _ (P.lt i (by omega)) (P.lt _ (by omega)) (P.lt _ hm) (h i (j - 1) (by omega) (by omega)) q
  · exact h i j hij (by omega)
theorem asc_ok {R:Nat->Prop} {N:Nat} (O:Ord n lt) (P:Pl n p) (hN:N≤n):∀(f m:Nat),m+f=N->1≤m->Asc lt p m->(∀m',m≤m'->m'≤N->Asc lt p m'->(m'=N∨lt (p.getD m' 0) (p.getD (m' - 1) 0)=true)->R m')->W n lt (kas_asc p f m) R
  | 0,m,hf,h1,ha,k=> .ret (k m (Nat.le_refl _) (by omega) ha (.inl (by omega)))
  | f+1,m,hf,h1,ha,k=>by
    refine .ask (P.lt m (by omega)) (P.lt (m - 1) (by omega)) ?_
    cases q:lt (p.getD m 0) (p.getD (m - 1) 0)with
    | true=>
      rw[if_pos rfl]
      exact .ret (k m (Nat.le_refl _) (by omega) ha (.inr q))
    | false=>
      rw[if_neg Bool.false_ne_true]
      have hne:p.getD m 0≠p.getD (m - 1) 0:=fun e=>by have:=P.inj m (m - 1) (by omega) (by omega) e;omega
      refine asc_ok O P hN f (m+1) (by omega) (by omega) (ha.step O P h1 (by omega) (O.not (P.lt m (by omega)) (P.lt (m - 1) (by omega)) hne q)) fun m' h2 h3 h4 h5=>k m' (by omega) h3 h4 h5
def Dsc (lt:Nat->Nat->Bool) (p:Array Nat) (m:Nat):Prop:=∀i j,i < j->j < m->lt (p.getD j 0) (p.getD i 0)=true
theorem Dsc.step {m:Nat} (O:Ord n lt) (P:Pl n p) (h:Dsc lt p m) (h1:1≤m) (hm:m < n) (q:lt (p.getD m 0) (p.getD (m - 1) 0)=true):Dsc lt p (m+1):=by
  intro i j hij hj
  by_cases e:j=m
  · subst e
    by_cases e2:i=j - 1
    · subst e2;exact q
    · exact O.tr _ (p.getD (j - 1) 0) _ (P.lt _ hm) (P.lt _ (by omega)) (P.lt i (by omega)) q (h i (j - 1) (by omega) (by omega))
  · exact h i j hij (by omega)
theorem desc_ok {R:Array Nat×Nat×Nat->Prop} {N:Nat} (O:Ord n lt) (P:Pl n p) (hN:N≤n):∀(f m:Nat),m+f=N->1≤m->Dsc lt p m->(∀m',m≤m'->m'≤N->Dsc lt p m'->R (p,m',0))->W n lt (kas_desc f p m 0) R
  | 0,m,hf,h1,hd,k=> .ret (k m (Nat.le_refl _) (by omega) hd)
  | f+1,m,hf,h1,hd,k=>by
    refine .ask (P.lt m (by omega)) (P.lt (m - 1) (by omega)) ?_
    cases q:lt (p.getD m 0) (p.getD (m - 1) 0)with
    | true=>
      rw[if_pos rfl,if_neg (Nat.lt_irrefl 0)]
      exact desc_ok O P hN f (m+1) (by omega) (by omega) (hd.step O P h1 (by omega) q) fun m' h2 h3 h4=>k m' (by omega) h3 h4
    | false=>
      rw[if_neg Bool.false_ne_true]
      have hne:p.getD m 0≠p.getD (m - 1) 0:=fun e=>by have:=P.inj m (m - 1) (by omega) (by omega) e;omega
      refine .ask (P.lt (m - 1) (by omega)) (P.lt m (by omega)) ?_
      rw[if_pos (O.not (P.lt m (by omega)) (P.lt (m - 1) (by omega)) hne q)]
      exact .ret (k m (Nat.le_refl _) (by omega) hd)
theorem rev_get {m:Nat} (hm:m≤p.size) (i:Nat) (hi:i < m):(kas_rev p 0 m).getD i 0=p.getD (m - 1 - i) 0:=by
  unfold kas_rev
  have:=getElem?_mirror_all (xs:=p) (i:=0) (j:=m) hm i
  rw[if_pos ⟨Nat.zero_le _,hi⟩]at this
  rw[getD_eq this,Nat.zero_add]
theorem count_ok {R:Nat×Array Nat->Prop} (O:Ord n lt) (P:Pl n p) (h1:1≤n) (k:∀m q,1≤m->m≤n->Pl n q->Asc lt q m->R (m,q)):W n lt (kas_count n p) R:=by
  unfold kas_count
  refine W.bind (asc_ok O P (Nat.le_refl n) (n - 1) 1 (by omega) (Nat.le_refl _) (fun i j hij hj=>by omega) fun m h2 h3 h4 h5=> ?_)
  by_cases e:m=n
  · rw[if_pos (by rw[e];exact beq_self_eq_true n)]
    exact .ret (k m p h2 h3 P h4)
  · rw[if_neg (by rw[beq_iff_eq];exact e)]
    by_cases g:m > 1
    · rw[if_pos g]
      refine .ask (P.lt 0 (by omega)) (P.lt (m - 1) (by omega)) ?_
      rw[if_pos (h4 0 (m - 1) (by omega) (by omega))]
      exact .ret (k m p h2 h3 P h4)
    · rw[if_neg g]
      have em:m=1:=by omega
      subst em
      unfold kas_descPart
      have q0:lt (p.getD 1 0) (p.getD 0 0)=true:=by
        rcases h5 with q | q
        · exact absurd q e
        · exact q
      refine W.bind (desc_ok O P (Nat.le_refl n) (n - (1+1)) (1+1) (by omega) (by omega) (fun i j hij hj=> ?_) fun m' g1 g2 g3=> ?_)
      · have:i=0:=by omega
        have:j=1:=by omega
        subst i j;exact q0
      · rw[if_neg (Nat.lt_irrefl 0)]
        unfold kas_tail3
        have P':Pl n (kas_rev p 0 m'):=P.perm (mirror_perm _ _ _ _)
        have A':Asc lt (kas_rev p 0 m') m':=fun i j hij hj=>by
          rw[rev_get (by rw[P.size];exact g2) i (by omega),rev_get (by rw[P.size];exact g2) j hj]
          exact g3 _ _ (by omega) (by omega)
        refine W.bind (asc_ok O P' (Nat.le_refl n) (n - m') m' (by omega) (by omega) A' fun m'' f1 f2 f3 _=> .ret (k m'' _ (by omega) f2 P' f3))
theorem place_ok {R:Nat->Prop} {k:Nat} (O:Ord n lt) (P:Pl n p) (hk:k < n) (ha:Asc lt p k) (kk:∀l,l≤k->(∀i,i < l->lt (p.getD i 0) (p.getD k 0)=true)->(∀i,l≤i->i < k->lt (p.getD k 0) (p.getD i 0)=true)->R l):
    ∀(f l r:Nat),r - l≤f->l≤r->r≤k->(∀i,i < l->lt (p.getD i 0) (p.getD k 0)=true)->(∀i,r≤i->i < k->lt (p.getD k 0) (p.getD i 0)=true)->W n lt (kas_place p k f l r) R
  | 0,l,r,hf,hlr,hr,h1,h2=>by
    have:l=r:=by omega
    subst this
    exact .ret (kk l hr h1 h2)
  | f+1,l,r,hf,hlr,hr,h1,h2=>by
    unfold kas_place
    by_cases g:l ≥ r
    · rw[if_pos g]
      have:l=r:=by omega
      subst this
      exact .ret (kk l hr h1 h2)
    · rw[if_neg g]
      refine .ask (P.lt k hk) (P.lt _ (by omega)) ?_
      cases q:lt (p.getD k 0) (p.getD ((l+r) / 2) 0)with
      | true=>
        rw[if_pos rfl]
        refine place_ok O P hk ha kk f l ((l+r) / 2) (by omega) (by omega) (by omega) h1 fun i hi hik=> ?_
        by_cases e:i=(l+r) / 2
        · rw[e];exact q
        · exact O.tr _ _ _ (P.lt k hk) (P.lt ((l+r) / 2) (by omega)) (P.lt i (by omega)) q (ha _ _ (by omega) hik)
      | false=>
        rw[if_neg Bool.false_ne_true]
        have hne:p.getD k 0≠p.getD ((l+r) / 2) 0:=fun e=>by have:=P.inj k ((l+r) / 2) hk (by omega) e;omega
        have q':=O.not (P.lt k hk) (P.lt ((l+r) / 2) (by omega)) hne q
        refine place_ok O P hk ha kk f ((l+r) / 2+1) r (by omega) (by omega) hr (fun i hi=> ?_) h2
        by_cases e:i=(l+r) / 2
        · rw[e];exact q'
        · exact O.tr _ _ _ (P.lt i (by omega)) (P.lt ((l+r) / 2) (by omega)) (P.lt k hk) (ha i _ (by omega) (by omega)) q'
theorem bin_ok {R:Array Nat->Prop} (O:Ord n lt) (kk:∀q,Pl n q->Asc lt q n->R q):∀(f k:Nat) (p:Array Nat),k+f=n->Pl n p->Asc lt p k->W n lt (kas_bin f p k) R
  | 0,k,p,hf,P,ha=>by
    have:k=n:=by omega
    subst this
    exact .ret (kk p P ha)
  | f+1,k,p,hf,P,ha=>by
    unfold kas_bin
    refine W.bind (place_ok O P (by omega) ha (fun l hl h1 h2=> ?_) k 0 k (by omega) (Nat.zero_le _) (Nat.le_refl _) (fun i hi=>absurd hi (Nat.not_lt_zero _)) (fun i hi hi2=>by omega))
    have P':Pl n (bubble p k (k - l)):=P.perm (bubble_perm _ _ _)
    refine bin_ok O kk f (k+1) _ (by omega) P' ?_
    have gb:∀i,(bubble p k (k - l)).getD i 0=if i=l then p.getD k 0 else if l < i/\i≤k then p.getD (i - 1) 0 else p.getD i 0:=fun i=>by
      have e:=getElem?_bubble (xs:=p) (src:=k) (by rw[P.size];omega) (k - l) (by omega) i
      rw[show k - (k - l)=l by omega]at e
      by_cases c1:i=l
      · rw[if_pos c1]at e ⊢;exact getD_eq e
      · rw[if_neg c1]at e ⊢
        by_cases c2:l < i/\i≤k
        · rw[if_pos c2]at e ⊢;exact getD_eq e
        · rw[if_neg c2]at e ⊢;exact getD_eq e
    intro i j hij hj
    rw[gb i,gb j]
    by_cases c1:i=l
    · rw[if_pos c1,if_neg (by omega),if_pos ⟨by omega,by omega⟩]
      exact h2 (j - 1) (by omega) (by omega)
    · rw[if_neg c1]
      by_cases c2:l < i/\i≤k
      · rw[if_pos c2,if_neg (by omega),if_pos ⟨by omega,by omega⟩]
        exact ha _ _ (by omega) (by omega)
      · rw[if_neg c2]
        have hil:i < l:=by omega
        by_cases c3:j=l
        · rw[if_pos c3];exact h1 i hil
        · rw[if_neg c3]
          by_cases c4:l < j/\j≤k
          · rw[if_pos c4];exact ha _ _ (by omega) (by omega)
          · rw[if_neg c4];exact ha _ _ hij (by omega)
theorem sort_ok (O:Ord n lt) (h1:1≤n):W n lt (kas_sort n) (fun q=>Pl n q/\Asc lt q n):=by
  have P0:Pl n (List.toArray (List.range n)):=by
    have g:∀i,i < n->(List.toArray (List.range n)).getD i 0=i:=fun i hi=>getD_of (by simp[hi])
    exact⟨by simp,fun i hi=>by rw[g i hi];exact hi,fun i j hi hj e=>by rw[g i hi,g j hj]at e;exact e,by simp⟩
  unfold kas_sort
  refine W.bind (count_ok O P0 h1 fun m q hm1 hm2 P A=> ?_)
  by_cases c:m < n
  · rw[if_pos c]
    rw[show max m 1=m by omega]
    exact bin_ok O (fun q P A=>⟨P,A⟩) (n - m) m q (by omega) P A
  · rw[if_neg c]
    have:m=n:=by omega
    subst this
    exact .ret ⟨P,A⟩
end
end TyR
end
section
namespace TyR
open PySem PySem.Spec PyProof.Rows L2
section
variable {prog:Program} {w:World} {A:Around} {E:Value->Shared->Prop} {s:Shared}
def KTp (h:Heap) (kk:List LKey) (u:Value):Prop:=∃t its,u= .ref t/\IsTup h t its/\Paired (KIs h) kk its.toList
theorem lex_ok {b:Bool} {Q:Bool->Shared->Prop} (hu:A.units < cLine):∀(us vs:List Value) (i:Nat) (ns ms:List LKey),Paired (KIs s.heap) ns us->Paired (KIs s.heap) ms vs->ns.length=ms.length->likeK ns ms->
    (i=0->∀x r,ns=x::r->∃n,x= .inl n)->Q (lexK ns ms) s->PySem.W.KatLex prog w A b false Q (us.zip vs) i s
  | _,_,_,[],[],.nil,.nil,_,_,_,h=>PySem.W.kat_nil h
  | _,_,i,x::ns,y::ms,.cons (b:=u) hx hn,.cons (b:=v) hy hm,hl,lk,h0,h=>by
    have l2:=likeK_tail lk
    rw[List.zip_cons_cons]
    refine PySem.W.kat_cons (key_eq hu hx hy l2.1 ?_)
    refine PySem.W.kat_go (fun e=>PySem.W.kat_yes ?_) (fun e=>PySem.W.kat_no ?_)
    · have exy:x=y:=of_decide_eq_true e
      refine lex_ok hu _ _ (i+1) ns ms hn hm (by simpa using hl) l2.2 (fun z=>by omega) ?_
      rw[lexK,if_pos exy]at h
      exact h
    · have exy:x≠y:=of_decide_eq_false e
      rw[lexK,if_neg exy]at h
      cases x with
      | inl n=>
        cases y with
        | inl m=>
          obtain⟨t,rfl⟩:=hx
          obtain⟨t',rfl⟩:=hy
          exact oneLt_any_int h
        | inr m=>exact l2.1.elim
      | inr n=>
        have hi:¬i=0:=fun z=>by
          obtain⟨n',q⟩:=h0 z _ _ rfl
          cases q
        have e0:(b && i == 0)=false:=by rw[show(i == 0)=false from beq_false_of_ne hi,Bool.and_false]
        rw[e0]
        exact PySem.W.kat_one _ _ (key_lt hu hx hy l2.1 h)
theorem ask_ok {ks:List Value} {keys:List (List LKey)} {b:Bool} (hu:A.units < cLine) (hk:Paired (KTp s.heap) keys ks) (like:∀a∈keys,∀b∈keys,likeK a b) (len:∀a∈keys,∀b∈keys,a.length=b.length) (hd:∀a∈keys,∃n r,a= .inl n::r)
    (i j:Nat) (C:Bool->Shared->Prop) (hi:i < keys.length) (hj:j < keys.length) (h:C (lexK (keys.getD i []) (keys.getD j [])) s):PySem.W.kas_ask prog w A (tuples' b) ks i j C s:=by
  have hl:keys.length=ks.length:=Paired.length hk
  unfold PySem.W.kas_ask
  have ei:ks[i]? =some (ks.getD i Value.none):=by rw[List.getD_eq_getElem?_getD,List.getElem?_eq_getElem (by omega)];rfl
  have ej:ks[j]? =some (ks.getD j Value.none):=by rw[List.getD_eq_getElem?_getD,List.getElem?_eq_getElem (by omega)];rfl
  have ki:keys[i]? =some (keys.getD i []):=by rw[List.getD_eq_getElem?_getD,List.getElem?_eq_getElem hi];rfl
  have kj:keys[j]? =some (keys.getD j []):=by rw[List.getD_eq_getElem?_getD,List.getElem?_eq_getElem hj];rfl
  obtain⟨y,hy,t,its,e,⟨o,ho,hc,n,hd1⟩,hp⟩:=paired_get hk ki
  obtain rfl:y=_:=Option.some.inj (hy.symm.trans ei)
  obtain⟨y',hy',t',its',e',⟨o',ho',hc',n',hd1'⟩,hp'⟩:=paired_get hk kj
  obtain rfl:y'=_:=Option.some.inj (hy'.symm.trans ej)
  rw[e,e']
  have mi:=List.mem_of_getElem? ki
  have mj:=List.mem_of_getElem? kj
  have l1:(keys.getD i []).length=its.toList.length:=Paired.length hp
  have l2:(keys.getD j []).length=its'.toList.length:=Paired.length hp'
  have l3:=len _ mi _ mj
  refine PySem.W.kat_lt ho hd1 ho' hd1' ?_
  have ef:decide (its.size < its'.size)=false:=decide_eq_false (by simp only[Array.length_toList]at l1 l2;omega)
  rw[ef]
  refine lex_ok hu _ _ 0 _ _ hp hp' l3 (like _ mi _ mj) (fun _ x r q=> ?_) h
  obtain⟨n,r',q'⟩:=hd _ mi
  rw[q]at q'
  cases q'
  exact⟨n,rfl⟩
theorem tups_of {h:Heap}:∀{kks:List (List LKey)} {us:List Value},Paired (KTp h) kks us->(∀a∈kks,∃n r,a= .inl n::r)->∃fs,PySem.W.KatTups h us fs/\fs.length=us.length/\∀v∈fs,∃i t,v=Value.int i t
  | _,_,.nil,_=>⟨[],PySem.W.KatTups.nil,rfl,fun v hv=>by simp at hv⟩
  | kk::kks,u::us,.cons hx r,hd=>by
    obtain⟨fs,h1,h2,h3⟩:=tups_of r fun a ha=>hd a (List.mem_cons_of_mem _ ha)
    obtain⟨n,rr,rfl⟩:=hd kk List.mem_cons_self
    obtain⟨t,its,rfl,⟨o,ho,hc,m,hd1⟩,hp⟩:=hx
    obtain⟨y,hy,q⟩:=paired_get (i:=0) hp rfl
    obtain⟨tk,rfl⟩:=q
    refine⟨.int n tk::fs,PySem.W.KatTups.cons ho hc hd1 (by rw[←Array.getElem?_toList];exact hy) h1,by simp[h2],fun v hv=> ?_⟩
    rcases List.mem_cons.mp hv with e | e
    · exact⟨n,tk,e⟩
    · exact h3 v e
theorem kind_ok {ks:List Value} {keys:List (List LKey)} {M:Model} {Q:SortKind->Shared->Prop} (hk:Paired (KTp s.heap) keys ks) (hd:∀a∈keys,∃n r,a= .inl n::r) (h1:0 < ks.length) (h:Q (tuples' true) s):wpAny M A (keyKind' ks.toArray) Q E s:=by
  obtain⟨fs,g1,g2,g3⟩:=tups_of hk hd
  have e:(Value.type "int" != Value.type "tuple")=true:=by decide
  refine PySem.W.kat_kind (T:=Value.type "int") g1 (by omega) (fun v hv=> ?_) rfl (by rw[e];exact h)
  obtain⟨i,t,rfl⟩:=g3 v hv
  exact PySem.W.Looks.of_pure rfl
end
end TyR
end
section
namespace TyR
open PySem PySem.Spec PyProof.Rows L2
section
variable {X:Cx} {pins:List (Addr×Obj)} {σ:L2.St} {k:Nat} {f:Addr} {fd:FuncData} {ps:List Str} {sp:Sp} {l:Addr} {xs:List V} {keys:List (List LKey)} {H1:Hp} {Q:VK} {s:Shared}
theorem key_call2 (F:FnOk X.prog X.w X.K X.mg X.base CX0 k f fd ps sp) (hr:Room (k+2) X.A) (hb:Binds X.K fd ps [])
    {H:Hp} {s:Shared} {v:V} {u:Value} {R:VK} {E:Value->Shared->Prop} (I:Inv X pins σ H s) (ru:RelV v u) (h:sp [v] H R E0):
    wpAny (model X.prog X.w) X.A.in1.in1 (call (.ref f) [u]) (EP X pins σ R) E s:=by
  have r2:Vals ([v]++[]) ([u]++[]):= .cons ru .nil
  have hl:([u]++([]:List Value)).length=ps.length:=by rw[←r2.length];exact F.len _ _ _ _ h
  refine wpAny_call (codeAny_mono (F.run X.A.in1.in1 X.stack s H ⟨[u],[]⟩ [u] [v] R E0 (Room.in1 (Room.in1 hr)) I.env0.in1.in1 (hb s [u] I.kIn hl) (.cons ru .nil) h) fun r s' hq=> ?_)
  cases r with
  | error e=>exact(show False from hq).elim
  | ok fl=>
    cases fl with
    | ret u=>exact I.after hq
    | next=>exact False.elim hq
    | brk=>exact False.elim hq
    | cont=>exact False.elim hq
structure KeysAt (X:Cx) (pins:List (Addr×Obj)) (σ:L2.St) (H4:Hp) (kS:Addr) (keys:List (List LKey)) (i:Nat) (s:Shared):Prop where
  ex:∃(H:Hp) (kv:List V) (ks:List Value) (c:Nat),Inv X pins σ H s/\Same H4 H/\FpOk X pins H kS/\s.heap.get? kS=some (seqObj "list" ks.toArray c)/\Vals kv ks/\Paired (fun kk r=>KTup X.K H r kk) (keys.take i) kv
theorem take_snoc' {α:Type} {l:List α} {i:Nat} {x:α} (h:l[i]? =some x):l.take (i+1)=l.take i++[x]:=by
  rw[List.take_add_one,h];rfl
theorem Paired.snoc {α β:Type} {G:α->β->Prop}:∀{a:List α} {c:List β} {x:α} {y:β},Paired G a c->G x y->Paired G (a++[x]) (c++[y])
  | _,_,_,_,.nil,h=> .cons h .nil
  | _,_,_,_,.cons g r,h=> .cons g (Paired.snoc r h)
theorem Paired.map2 {α β γ:Type} {G:α->β->Prop} {G':α->γ->Prop} {R:β->γ->Prop} (hh:∀a b c,G a b->R b c->G' a c):∀{x:List α} {y:List β} {z:List γ},Paired G x y->Paired R y z->Paired G' x z
  | _,_,_,.nil,.nil=> .nil
  | _,_,_,.cons g r,.cons q t=> .cons (hh _ _ _ g q) (Paired.map2 hh r t)
theorem tail_ok {A:Around} {H5:Hp} {kS a:Addr} {e1 c:Nat} {ks:List Value} {st:SortSt} {ys:List V} {out:List Value} {P:PySem.Fin->Shared->Prop} {E:Value->Shared->Prop} (I:Inv X pins σ H5 s) (fS:FpOk X pins H5 kS) (gk:s.heap.get? kS=some (seqObj "list" ks.toArray c)) (hkz:ks.length < 64)
    (ha:H5 a=some (.frz (seqObj "list" #[] e1) (.lst []))) (hn:∀o' u',X.H_0 a≠some (.frz o' u')) (ho:(arrOf st).map (·.2)=out.toArray) (hf:failedOf st=none) (rv:Vals ys out) (hz:ys.length < 64)
    (h:∀(h':Heap) (t:Nat),Inv X pins σ (upd H5 a (.lst ys)) {s with heap:=h',toks:=t}->P (.done (.ret .none)) {s with heap:=h',toks:=t}):
    wpAny (model X.prog X.w) A (ksk_tail a false e1 (.ref kS) st) P E s:=by
  have hol:out.length=ys.length:=rv.length.symm
  have hka:a≠kS:=fun z=>by rw[z,fS.1]at ha;cases ha
  have gal:s.heap.get? a=some (seqObj "list" #[] e1):=(I.hok a _ ha).1
  have s1:=Heap.SameBut.update s.heap kS (Obj.mapSeq fun _=>(#[]:Array Value))
  have ga1:(s.heap.update kS (Obj.mapSeq fun _=>(#[]:Array Value))).get? a=some (seqObj "list" #[] e1):=(s1.2 a hka).trans gal
  have I1:Inv X pins σ H5 {s with heap:=s.heap.update kS (Obj.mapSeq fun _=>(#[]:Array Value))}:=I.turned (t':=s.toks) (fun b o hb e=>(s1.2 b hb).trans e) fS.1 fS.2.1 fS.2.2.2.1 fS.2.2.2.2.1 fS.2.2.2.2.2
  have I2:=I1.unlock ha hn
  unfold ksk_tail
  dsimp only
  refine wpAny_bind (listUpdate_at gk rfl ?_ (by rw[List.size_toArray,sizeLine_eq];omega) (Nat.zero_le _))
  refine wpAny_bind (wpAny_letGo ?_)
  refine wpAny_bind (seqEpoch_at ga1 rfl ?_)
  refine wpAny_bind (listUpdate_at ga1 rfl ?_ (Nat.zero_le _) ?_)
  · rw[hf]
    simp only[bne_self_eq_false,Bool.false_eq_true,if_false]
    rw[ho]
    refine wpAny_pure (h _ s.toks ?_)
    have I3:=I2.lset (t':=s.toks) (l:=a) (its:=[]) (its':=out) (n:=e1) (f:=fun _=>out.toArray) (xs:=[]) (ys:=ys) upd_same ga1 rfl rv (small64 hz)
    rw[upd_upd]at I3
    exact I3
  · simp only[Bool.false_eq_true,if_false]
    rw[ho,List.size_toArray,sizeLine_eq]
    omega
theorem vals_pick {vs:List Value} (rv:Vals xs vs):∀il:List Nat,(∀i∈il,i < xs.length)->Vals (il.map fun i=>xs.getD i .non) (il.map fun i=>vs.getD i Value.none)
  | [],_=> .nil
  | i::il,h=>by
    have hi:=h i List.mem_cons_self
    have e:xs[i]? =some (xs.getD i .non):=by rw[List.getD_eq_getElem?_getD,List.getElem?_eq_getElem hi];rfl
    obtain⟨u,hu,ru⟩:=rv.get e
    rw[List.map_cons,List.map_cons]
    refine .cons ?_ (vals_pick rv il fun j hj=>h j (List.mem_cons_of_mem _ hj))
    rw[List.getD_eq_getElem?_getD (l:=vs),hu]
    exact ru
theorem map_range_getD {α:Type} (l:List α) (d:α):((List.range l.length).map fun i=>l.getD i d)=l:=by
  refine List.ext_getElem? fun i=> ?_
  rw[List.getElem?_map]
  by_cases h:i < l.length
  · rw[List.getElem?_range h,Option.map_some,List.getD_eq_getElem?_getD,List.getElem?_eq_getElem h];rfl
  · rw[List.getElem?_eq_none (by simpa using h),List.getElem?_eq_none (by omega)];rfl
theorem end_ok {A:Around} {H5:Hp} {kS a:Addr} {e1 c:Nat} {kv:List V} {ks vs:List Value} {P:PySem.Fin->Shared->Prop} {E:Value->Shared->Prop} (hu:A.units < cLine) (I:Inv X pins σ H5 s) (fS:FpOk X pins H5 kS) (gk:s.heap.get? kS=some (seqObj "list" ks.toArray c))
    (rk:Vals kv ks) (pk:Paired (fun kk r=>KTup X.K H5 r kk) keys kv) (rv:Vals xs vs) (hlen:keys.length=xs.length) (h64:xs.length < 64)
    (like:∀a∈keys,∀b∈keys,likeK a b) (len:∀a∈keys,∀b∈keys,a.length=b.length) (hd:∀a∈keys,∃n r,a= .inl n::r) (O:Ord xs.length fun i j=>lexK (keys.getD i []) (keys.getD j []))
    (ha:H5 a=some (.frz (seqObj "list" #[] e1) (.lst []))) (hn:∀o' u',X.H_0 a≠some (.frz o' u'))
    (h:∀(q:Array Nat) (h':Heap) (t:Nat),Pl xs.length q->Asc (fun i j=>lexK (keys.getD i []) (keys.getD j [])) q xs.length->Inv X pins σ (upd H5 a (.lst (q.toList.map fun i=>xs.getD i .non))) {s with heap:=h',toks:=t}->P (.done (.ret .none)) {s with heap:=h',toks:=t}):
    wpAny (model X.prog X.w) A (ksk_end a false vs.toArray e1 (.ref kS) ks.toArray) P E s:=by
  have lv:xs.length=vs.length:=rv.length
  have lk:kv.length=ks.length:=rk.length
  have lp:keys.length=kv.length:=Paired.length pk
  have hkl:ks.length=vs.length:=by omega
  have pk':Paired (KTp s.heap) keys ks:=by
    refine Paired.map2 (fun kk r u h1 h2=> ?_) pk rk
    exact KTup.at I h1 h2
  unfold ksk_end
  simp only[Bool.false_eq_true,if_false]
  by_cases h2:vs.toArray.size < 2
  · rw[if_pos h2,if_pos h2]
    rw[List.size_toArray]at h2
    refine wpAny_bind (wpAny_pure ?_)
    rw[StateT.run_pure]
    refine wpAny_bind (wpAny_pure ?_)
    have P0:Pl xs.length (List.toArray (List.range xs.length)):=by
      have g:∀i,i < xs.length->(List.toArray (List.range xs.length)).getD i 0=i:=fun i hi=>getD_of (by simp[hi])
      exact⟨by simp,fun i hi=>by rw[g i hi];exact hi,fun i j hi hj e=>by rw[g i hi,g j hj]at e;exact e,by simp⟩
    refine tail_ok (out:=(List.range xs.length).map fun i=>vs.getD i Value.none) (ys:=(List.range xs.length).map fun i=>xs.getD i .non) I fS gk (by omega) ha hn ?_ rfl (vals_pick rv _ fun i hi=>List.mem_range.mp hi) (by rw[List.length_map,List.length_range];exact h64) fun h' t I'=> ?_
    · rw[lv,map_range_getD]
      show((ks.toArray.zip vs.toArray).map (·.2))=vs.toArray
      apply Array.toList_inj.mp
      rw[Array.toList_map,Array.toList_zip]
      exact List.map_snd_zip (by show vs.length≤ks.length;omega)
    · refine h (List.toArray (List.range xs.length)) h' t P0 (fun i j hij hj=>by omega) ?_
      exact I'
  · rw[if_neg h2,if_neg h2]
    rw[List.size_toArray]at h2
    refine wpAny_bind (kind_ok pk' hd (by omega) ?_)
    refine wpAny_bind (PySem.W.kat_run (Q:=fun st' s'=>wpAny (model X.prog X.w) A (ksk_tail a false e1 (.ref kS) st') P E s') (G:=fun q s'=>s'=s/\Pl xs.length q/\Asc (fun i j=>lexK (keys.getD i []) (keys.getD j [])) q xs.length) hkl (by omega) (by omega) (fun q st' s' hq har hfl g=> ?_) ?_)
    · obtain⟨rfl,P1,A1⟩:=g
      refine tail_ok (out:=q.toList.map fun i=>vs.getD i Value.none) (ys:=q.toList.map fun i=>xs.getD i .non) I fS gk (by omega) ha hn (PySem.W.kat_snds hkl har) hfl (vals_pick rv _ fun i hi=> ?_) (by rw[List.length_map,Array.length_toList,P1.size];exact h64) fun h' t I'=>h q h' t P1 A1 I'
      obtain⟨j,hj,e⟩:=List.getElem_of_mem hi
      have hj':j < q.size:=by simpa using hj
      have:=P1.lt j (by rw[←P1.size];exact hj')
      rw[Array.getD_eq_getD_getElem?,Array.getElem?_eq_getElem hj']at this
      rw[←e,Array.getElem_toList]
      exact this
    · rw[←lv]
      refine W.to (n:=xs.length) (lt:=fun i j=>lexK (keys.getD i []) (keys.getD j [])) (fun i j C hi hj hC=>ask_ok hu pk' like len hd i j C (by omega) (by omega) hC) (fun q hq=>⟨rfl,hq.1,hq.2⟩) (PySem.W.kas_sort xs.length) (sort_ok O (by omega) s)
end
end TyR
end
section
namespace TyR
open PySem PySem.Spec PyProof.Rows L2
section
variable {X:Cx} {pins:List (Addr×Obj)} {σ:L2.St} {k:Nat} {f:Addr} {fd:FuncData} {ps:List Str} {sp:Sp} {l:Addr} {xs:List V} {keys:List (List LKey)} {H1:Hp} {Q:VK} {s:Shared}
theorem rest_ok {H4:Hp} {kS a:Addr} {e1:Nat} {vs:List Value} {P:PySem.Fin->Shared->Prop} {E:Value->Shared->Prop} (F:FnOk X.prog X.w X.K X.mg X.base CX0 k f fd ps sp) (hr:Room (k+2) X.A) (hb:Binds X.K fd ps []) (hu:X.A.in1.in1.units < cLine)
    (I:Inv X pins σ H4 s) (fS:FpOk X pins H4 kS) (gk:s.heap.get? kS=some (seqObj "list" #[] 0)) (rv:Vals xs vs) (hlen:keys.length=xs.length) (h64:xs.length < 64)
    (like:∀a∈keys,∀b∈keys,likeK a b) (len:∀a∈keys,∀b∈keys,a.length=b.length) (hd:∀a∈keys,∃n r,a= .inl n::r) (O:Ord xs.length fun i j=>lexK (keys.getD i []) (keys.getD j []))
    (ha:H4 a=some (.frz (seqObj "list" #[] e1) (.lst []))) (hn:∀o' u',X.H_0 a≠some (.frz o' u'))
    (hsp:∀(i:Nat) (v:V) (ks:List LKey) (H':Hp),xs[i]? =some v->keys[i]? =some ks->Same H4 H'->sp [v] H' (fun r H''=>Same H' H''/\KTup X.K H'' r ks) E0)
    (h:∀(q:Array Nat) (H5:Hp) (s':Shared),Same H4 H5->Pl xs.length q->Asc (fun i j=>lexK (keys.getD i []) (keys.getD j [])) q xs.length->Inv X pins σ (upd H5 a (.lst (q.toList.map fun i=>xs.getD i .non))) s'->P (.done (.ret .none)) s'):
    wpAny (model X.prog X.w) X.A.in1.in1 (ksk_rest a (.ref f) false vs.toArray e1 (.ref kS)) P E s:=by
  have lv:xs.length=vs.length:=rv.length
  unfold ksk_rest
  refine wpAny_bind (wpAny_rule ?_)
  first
    | rw[List.forIn_toArray]
    | (rw[←Array.forIn_toList];simp only[List.toList_toArray])
  refine wpAny_bind (ksk_fold (fun i s'=>KeysAt X pins σ H4 kS keys i s') vs 0 s ⟨H4,[],[],0,I,Same.refl _,fS,gk,.nil,by rw[List.take_zero];exact .nil⟩ (fun j x s' hx hI=> ?_) fun s' hI=> ?_)
  · rw[Nat.zero_add]at hI ⊢
    obtain⟨H,kv,ks,c,I',sm,fS',gk',rk,pk⟩:=hI.ex
    have hj:j < xs.length:=by
      have:=(List.getElem?_eq_some_iff.mp hx).1
      omega
    obtain⟨v,hv⟩:∃v,xs[j]? =some v:=⟨_,List.getElem?_eq_getElem hj⟩
    obtain⟨kj,hkj⟩:∃kj,keys[j]? =some kj:=⟨_,List.getElem?_eq_getElem (by omega)⟩
    obtain⟨u',hu',ru⟩:=rv.get hv
    obtain rfl:u'=x:=Option.some.inj (hu'.symm.trans hx)
    have lk:ks.length=j:=by
      have h1:=rk.length
      have h2:=Paired.length pk
      rw[List.length_take]at h2
      omega
    have fp:∀b∈[kS],FpOk X pins H b:=fun b hb=>by rw[List.mem_singleton.mp hb];exact fS'
    have ob:∀b∈[kS],∃o,s'.heap.get? b=some o/\∀v,o.data≠ .cell v:=fun b hb=>by rw[List.mem_singleton.mp hb];exact⟨_,gk',fun v z=>nomatch z⟩
    have Ip:=I'.pinned fp ob
    refine wpAny_bind (wpAny_attempt (wpAny_mono (key_call2 (E:=fun _ _=>False) F hr hb Ip ru (hsp j v kj H hv hkj sm)) (fun r s2 he=> ?_) fun _ _ hF=>hF.elim))
    obtain⟨rx,H2,I2',rxx,sm2,kt2⟩:=he
    have I2:=I2'.unpinned
    have pS:=I2'.pin (kS,seqObj "list" ks.toArray c) (List.mem_append_right _ (List.mem_append_right _ (mem_pinsAt (by simp) gk')))
    have fS2:FpOk X pins H2 kS:=FpOk.to fS' pS.2.1
    have s1:=Heap.SameBut.update s2.heap kS (Obj.mapSeq (·.push r))
    have ea:(List.toArray ks).push r=List.toArray (ks++[r]):=by simp
    obtain⟨c2,hc2⟩:∃c2,(s2.heap.update kS (Obj.mapSeq (·.push r))).get? kS=some (seqObj "list" (List.toArray (ks++[r])) c2):=⟨_,by rw[←ea];exact get?_update_seq pS.1 (·.push r)⟩
    try dsimp only
    refine wpAny_bind (listUpdate_at pS.1 rfl ?_ (by rw[List.size_toArray,sizeLine_eq];omega) (Nat.le_trans (Nat.le_of_eq (Array.size_push ..)) (by rw[List.size_toArray,sizeLine_eq];omega)))
    have I3:Inv X pins σ H2 {s2 with heap:=s2.heap.update kS (Obj.mapSeq (·.push r))}:=I2.turned (t':=s2.toks) (fun b o hb e=>(s1.2 b hb).trans e) fS2.1 fS2.2.1 fS2.2.2.2.1 fS2.2.2.2.2.1 fS2.2.2.2.2.2
    refine wpAny_pure ⟨rfl,H2,kv++[rx],ks++[r],c2,I3,sm.trans sm2,fS2,hc2,rk.append (.cons rxx .nil),?_⟩
    rw[take_snoc' hkj]
    exact Paired.snoc (Paired.imp' (fun _ _ z=>KTup.same sm2 z) pk) kt2
  · rw[Nat.zero_add]at hI
    obtain⟨H,kv,ks,c,I',sm,fS',gk',rk,pk⟩:=hI.ex
    rw[←lv,←hlen,List.take_length]at pk
    try dsimp only
    refine wpAny_bind (listItems_at gk' rfl ?_)
    exact end_ok hu I' fS' gk' rk pk rv hlen h64 like len hd O (sm _ _ ha) hn fun q h' t P1 A1 I1=>h q H _ sm P1 A1 I1
theorem sort_key (F:FnOk X.prog X.w X.K X.mg X.base CX0 k f fd ps sp) (hr:Room (k+2) X.A) (hb:Binds X.K fd ps []) (I:Inv X pins σ H1 s)
    (hl:SqL X.K H1 l xs) (h64:xs.length < 64) (hlen:keys.length=xs.length)
    (like:∀a∈keys,∀b∈keys,likeK a b) (len:∀a∈keys,∀b∈keys,a.length=b.length) (hd:∀a∈keys,∃n r,a= .inl n::r) (O:Ord xs.length fun i j=>lexK (keys.getD i []) (keys.getD j []))
    (hsp:∀(i:Nat) (v:V) (ks:List LKey) (H':Hp),xs[i]? =some v->keys[i]? =some ks->Same H1 H'->sp [v] H' (fun r H''=>Same H' H''/\KTup X.K H'' r ks) E0)
    (hQ:∀(q:Array Nat) (r:Addr) (H':Hp),Pl xs.length q->Asc (fun i j=>lexK (keys.getD i []) (keys.getD j [])) q xs.length->Same H1 H'->H1 r=none->H' r=some (.lst (q.toList.map fun i=>xs.getD i .non))->Q (.ref r) H'):
    wpAny (model X.prog X.w) X.A (call (.builtin "sorted") [.ref l] [(Str.ofString "key",.ref f)]) (EP X pins σ Q) X.xe s:=by
  have hun:=hr.un
  obtain⟨vs,rv,pl,hz⟩:=I.list hl
  have lv:xs.length=vs.length:=rv.length
  have hls:=pl.isList
  refine call_function_entry_kw kind_sorted plain_sorted entry_sorted (ksk_s1 _ _) ?_
  unfold Builtin.«sorted»
  refine wpAny_bind (m:=checkCount "sorted" 1 1 _) (wpAny_pure ?_)
  refine wpAny_bind (collect_list hls ?_ (by rw[sizeLine_eq];omega))
  refine wpAny_bind (wpAny_newList ?_ (by rw[sizeLine_eq];omega))
  have keep:∀b o,s.heap.get? b=some o->((s.heap.push (seqObj "list" #[] 0)).update s.heap.objs.size (Obj.mapSeq (· ++vs.toArray))).get? b=some o:=fun b o q=>by
    have hlt:b < s.heap.objs.size:=Heap.lt_size q
    rw[Heap.get?_update_ne _ _ _ _ (Nat.ne_of_lt hlt),Heap.get?_push_ne _ _ _ (Nat.ne_of_lt hlt)]
    exact q
  have I1:Inv X pins σ H1 {s with heap:=(s.heap.push (seqObj "list" #[] 0)).update s.heap.objs.size (Obj.mapSeq (· ++vs.toArray))}:=I.kept (t':=s.toks) keep
  have fr1:=I1.fresh
  have I2:=I1.lnew (t':=s.toks) rv hz
  dsimp only at fr1 I2
  generalize hhp:(s.heap.push (seqObj "list" #[] 0)).update s.heap.objs.size (Obj.mapSeq (· ++vs.toArray))=hp1 at I1 I2 fr1 ⊢
  generalize hae:hp1.objs.size=a at fr1 I2 ⊢
  have hn:∀o' u',X.H_0 a≠some (.frz o' u'):=I2.nofrz upd_same trivial
  have ga:(hp1.push (seqObj "list" vs.toArray 0)).get? a=some (seqObj "list" vs.toArray 0):=by rw[←hae];exact Heap.get?_push_size _ rfl
  refine wpAny_bind (wpAny_holding (wpAny_call_entry_kw slot_list_sort ⟨_,ga,rfl⟩ entry_list_sort ?_ (ksk_l1 _ _)))
  show wpAny (model X.prog X.w) X.A.in1.in1 (Builtin.«list.sort» ⟨[.ref a],[(Str.ofString "key",.ref f)]⟩) _ _ _
  rw[ksk_t1]
  unfold ksk_tree
  refine wpAny_bind (listItems_at ga rfl ?_)
  refine wpAny_bind (listUpdate_at ga rfl ?_ (by rw[List.size_toArray,sizeLine_eq];omega) (Nat.zero_le _))
  obtain⟨e1,ho1⟩:∃e1,((hp1.push (seqObj "list" vs.toArray 0)).update a (Obj.mapSeq fun _=>(#[]:Array Value))).get? a=some (seqObj "list" #[] e1):=⟨_,get?_update_seq ga fun _=> #[]⟩
  refine wpAny_bind (seqEpoch_at ho1 rfl ?_)
  have I3:=I2.lset (t':=s.toks) (l:=a) (its:=vs) (its':=[]) (n:=0) (f:=fun _=> #[]) (xs:=xs) (ys:=[]) upd_same ga rfl .nil (Nat.zero_le _)
  rw[upd_upd]at I3
  obtain⟨od,I4⟩:=I3.lock upd_same trivial
  rw[upd_upd]at I4
  have eod:od=seqObj "list" #[] e1:=by
    have:=(I4.hok a _ upd_same).1
    exact Option.some.inj (this.symm.trans ho1)
  subst eod
  refine wpAny_bind (wpAny_newTuple ?_ (by show vs.length≤_;rw[sizeLine_eq];omega))
  refine wpAny_bind (wpAny_newList ?_ (Nat.zero_le _))
  refine wpAny_holding ?_
  dsimp only at I4
  generalize hh2:(hp1.push (seqObj "list" vs.toArray 0)).update a (Obj.mapSeq fun _=>(#[]:Array Value))=hp2 at I4 ho1 ⊢
  have I5:Inv X pins σ (upd H1 a (.frz (seqObj "list" #[] e1) (.lst []))) {s with heap:=hp2.push (seqObj "tuple" vs.toArray 0)}:=I4.kept (t':=s.toks) fun b o q=>Heap.get?_push_of_some _ q
  have fS:=I5.fpOk (Nat.le_refl _) I5.fresh
  have I6:Inv X pins σ (upd H1 a (.frz (seqObj "list" #[] e1) (.lst []))) {s with heap:=(hp2.push (seqObj "tuple" vs.toArray 0)).push (seqObj "list" #[] 0)}:=I5.kept (t':=s.toks) fun b o q=>Heap.get?_push_of_some _ q
  have gk:((hp2.push (seqObj "tuple" vs.toArray 0)).push (seqObj "list" #[] 0)).get? (hp2.push (seqObj "tuple" vs.toArray 0)).objs.size=some (seqObj "list" #[] 0):=Heap.get?_push_size _ rfl
  have sm0:Same H1 (upd H1 a (.frz (seqObj "list" #[] e1) (.lst []))):=fun b o e=>by rw[upd_ne (ne_of_none e fr1)];exact e
  refine rest_ok F hr hb (by show X.A.units+1+1 < cLine;omega) I6 fS gk rv hlen h64 like len hd O upd_same hn (fun i v ks H' g1 g2 g3=>hsp i v ks H' g1 g2 (sm0.trans g3)) fun q H5 s' sm P1 A1 I7=>⟨_,rfl,?_⟩
  refine wpAny_pure ⟨_,rfl,.ref a,_,I7,rfl,hQ q a _ P1 A1 (fun b o e=> ?_) fr1 upd_same⟩
  rw[upd_ne (ne_of_none e fr1)]
  exact sm _ _ (sm0 _ _ e)
def tSortKey (K:PySem.W.Frag) (sp:Sp) (te:TE):TE:=fun σ H Q=>te σ H fun x H1=>∃(l:Addr) (xs:List V) (keys:List (List LKey)),x= .ref l/\SqL K H1 l xs/\xs.length < 64/\keys.length=xs.length/\(∀a∈keys,∀b∈keys,likeK a b)/\
  (∀a∈keys,∀b∈keys,a.length=b.length)/\(∀a∈keys,∃n r,a= .inl n::r)/\(Ord xs.length fun i j=>lexK (keys.getD i []) (keys.getD j []))/\
  (∀(i:Nat) (v:V) (ks:List LKey) (H':Hp),xs[i]? =some v->keys[i]? =some ks->Same H1 H'->sp [v] H' (fun r H''=>Same H' H''/\KTup K H'' r ks) E0)/\
  ∀(q:Array Nat) (r:Addr) (H':Hp),Pl xs.length q->Asc (fun i j=>lexK (keys.getD i []) (keys.getD j [])) q xs.length->Same H1 H'->H1 r=none->H' r=some (.lst (q.toList.map fun i=>xs.getD i .non))->Q (.ref r) H'
theorem pe_sortKey {e:Expr} {te:TE} {g:Str} {p pos kp kpos:Pos} (F:FnOk X.prog X.w X.K X.mg X.base CX0 k f fd ps sp) (hr:Room (k+2) X.A) (hb:Binds X.K fd ps [])
    (hgm:Gl X "sorted") (hm:X.mg "sorted"=none) (hgg:Gl X g) (hg:X.mg g=some (.ref f)) (he:PE X e te) (hdb:(g == ("__debug__":Str))=false:=by decide)
    (hs:starEach [e] X.env=[(false,eval e X.env)]:=by rfl):
    PE X (.Call (.Name "sorted" p) [e] [⟨some "key",.Name g kp,kpos⟩] pos) (tSortKey X.K sp te):=by
  intro pins s σ H Q I h
  refine wpAny_Call_Name_kw (ld_blt I hgm hm (show bootBuiltins "sorted"=some (.builtin "sorted")from by first | exact PySem.boot_sorted | rfl) ?_)
  refine callWith_kw ?_ (by rw[hs];rfl) (by rw[hs];rfl)
  rw[hs]
  refine Calls.spliced_cons (thn (he pins s σ H _ I h) fun u s1 ⟨x,H1,I1,rx,l,xs,keys,ex,hl,h64,hlen,like,len,hd,O,hsp,hQ⟩=>Calls.spliced_nil ?_)
  subst ex
  obtain rfl:u=Value.ref l:=rx
  refine wpAny_evalAll_cons (wpAny_bind (ld_glob I1 hgg hg (wpAny_bind (wpAny_standAt (wpAny_pure (wpAny_evalAll_nil ?_)))) hdb))
  exact sort_key F hr hb I1 hl h64 hlen like len hd O hsp hQ
end
end TyR
end
section
namespace TyR
open PySem PySem.Spec PyProof.Rows L2
section
open PySem.SeqAt
open PySem.AutoSeq1 (wpAny_loadPart')
open PySem.MeetsSeq PySem.MeetsSeq2 PySem.MeetsSeq3
theorem tuple_gt_ints (l b:Addr) (items items2:Array Value) (n n2:Nat) (dd dd2:Option Addr) (sl sl2:Array (Option Value)) (ns ms:List Int) (hi:IntsAre items.toList ns) (hj:IntsAre items2.toList ms):
    Meets (Builtin.«tuple.__gt__» ⟨[.ref l,.ref b],[]⟩)
      (fun _ R s=>s.heap.get? l=some {cls:= .type "tuple",dict:=dd,data:= .seq items n,slots:=sl}/\s.heap.get? b=some {cls:= .type "tuple",dict:=dd2,data:= .seq items2 n2,slots:=sl2}/\
        R (.ok (.ret (.bool (HT.lexLt ms ns)))) s):=
  .of_wp fun prog w A R s h=>by
    obtain⟨hp,g,d,tk,os⟩:=s;obtain⟨hl,hb,h⟩:=h
    have f2:=AutoSeq1.sub_tuple_tuple
    have z1:items.size=ns.length:=by rw[←hi.length];simp
    have z2:items2.size=ms.length:=by rw[←hj.length];simp
    wp_walk using wpAny_loadPart' hl,wpAny_loadPart' hb,wpAny_forIn_list _ (fun rest b s'=>b.1=none/\s'=⟨hp,g,d,tk,os⟩/\∃(vs ws:List Value) (ns' ms':List Int),rest=vs.zip ws/\
      IntsAre vs ns'/\IntsAre ws ms'/\ns'.length+items2.size=ms'.length+items.size/\R (.ok (.ret (.bool (HT.lexLt ms' ns')))) ⟨hp,g,d,tk,os⟩) _
    case turn=>
      rintro⟨y,x⟩ rest b s' ⟨hb',rfl,vs,ws,ns',ms',hz,hvi,hwi,hlen,hR⟩
      cases hvi with
      | nil=>rw[List.zip_nil_left]at hz;cases hz
      | cons a t hvi'=>
        cases hwi with
        | nil=>rw[List.zip_nil_right]at hz;cases hz
        | cons c u hwi'=>
          rw[List.zip_cons_cons]at hz
          injection hz with hyx hrest
          injection hyx with hy hx
          subst hy hx
          rw[HT.lexLt_cons]at hR
          simp only[List.length_cons]at hlen
          obtain⟨e,he,hiff⟩:=HT.eqAt_int A.in1 ⟨hp,g,d,tk,os⟩ a t c u
          refine wpAny_bind (he prog w _ _ ?_)
          cases e with
          | true=>
            rw[if_pos (hiff.mp rfl).symm]at hR
            wp_walk
            exact⟨rfl,rfl,_,_,_,_,hrest,hvi',hwi',by omega,hR⟩
          | false=>
            rw[if_neg (fun q=>absurd (hiff.mpr q.symm) Bool.false_ne_true)]at hR
            have hri:∀(Q:Value->Shared->Prop) (E:Value->Shared->Prop),Q (.bool (decide (c < a))) ⟨hp,g,d,tk,os⟩->wpAny (model prog w) A.in1 (richCompare .Gt (.int a t) (.int c u)) Q E ⟨hp,g,d,tk,os⟩:=fun Q E q=>
              (PyProof.Rows.gt_int q:wpAny (model prog w) A.in1 (compareOp .Gt (.int a t) (.int c u)) Q E ⟨hp,g,d,tk,os⟩)
            wp_walk using hri
            exact⟨_,rfl,by simpa using hR⟩
    case fin=>
      rintro⟨b1,b2⟩ s' ⟨hb',rfl,vs,ws,ns',ms',hz,hvi,hwi,hlen,hR⟩
      simp only at hb'
      subst hb'
      have hv:HT.lexLt ms' ns'=decide (items2.size < items.size):=by
        cases hvi with
        | nil=>
          cases hwi with
          | nil=>
            simp only[List.length_nil]at hlen
            rw[HT.lexLt_nil_nil]
            exact(decide_eq_false (by omega)).symm
          | cons c u hw=>
            simp only[List.length_nil,List.length_cons]at hlen
            rw[HT.lexLt_cons_nil]
            exact(decide_eq_false (by omega)).symm
        | cons a t hv=>
          cases hwi with
          | nil=>
            simp only[List.length_nil,List.length_cons]at hlen
            rw[HT.lexLt_nil_cons]
            exact(decide_eq_true (by omega)).symm
          | cons c u hw=>
            rw[List.zip_cons_cons]at hz
            cases hz
      rw[hv]at hR
      wp_walk
      exact⟨_,rfl,by simpa [Builtin.Tuple.tupleCompareSizes] using hR⟩
    case h=>
      exact⟨rfl,rfl,items.toList,items2.toList,ns,ms,rfl,hi,hj,by omega,h⟩
end
section
variable {prog:Program} {w:World} {A:Around} {E:Value->Shared->Prop} {s:Shared}
theorem gt_tupInts {l b:Addr} {items items2:Array Value} {ns ms:List Int} {Q:Value->Shared->Prop} (hl:IsTup s.heap l items) (hb:IsTup s.heap b items2) (hi:IntsAre items.toList ns) (hj:IntsAre items2.toList ms)
    (hu:A.units < cLine) (h:Q (.bool (HT.lexLt ms ns)) s):wpAny (model prog w) A (richCompare .Gt (.ref l) (.ref b)) Q E s:=by
  obtain⟨⟨cls,dd,data,sl⟩,ho,hc,n,hd⟩:=id hl
  obtain⟨⟨cls2,dd2,data2,sl2⟩,ho2,hc2,n2,hd2⟩:=id hb
  simp only at hc hd hc2 hd2
  subst hc hd hc2 hd2
  exact richCompare_meets_room (op:= .Gt) ⟨_,ho,rfl⟩ ⟨_,ho2,rfl⟩ PySem.F.slot_tuple_gt PySem.F.entry_tuple_gt (PySem.F.args_tuple_gt_2 _ _) (tuple_gt_ints l b items items2 n n2 dd dd2 sl sl2 ns ms hi hj)
    ⟨ho,ho2,show Value.bool (HT.lexLt ms ns)≠Value.notImplemented/\Q (.bool (HT.lexLt ms ns)) s from⟨(fun x=>nomatch x),h⟩⟩ hu
end
theorem lexLt_irr:∀a:List Int,HT.lexLt a a=false
  | []=>rfl
  | x::a=>by rw[HT.lexLt_cons,if_pos rfl];exact lexLt_irr a
theorem lexLt_tr:∀a b c:List Int,HT.lexLt a b=true->HT.lexLt b c=true->HT.lexLt a c=true
  | [],[],_,h,_=>by cases h
  | [],_::_,[],_,h=>by cases h
  | [],_::_,_::_,_,_=>rfl
  | _::_,[],_,h,_=>by cases h
  | _::_,_::_,[],_,h=>by cases h
  | x::a,y::b,z::c,h1,h2=>by
    rw[HT.lexLt_cons]at h1 h2 ⊢
    by_cases e1:x=y
    · rw[if_pos e1]at h1
      subst e1
      by_cases e2:x=z
      · rw[if_pos e2]at h2 ⊢;exact lexLt_tr a b c h1 h2
      · rw[if_neg e2]at h2 ⊢;exact h2
    · rw[if_neg e1,decide_eq_true_eq]at h1
      by_cases e2:y=z
      · subst e2
        rw[if_neg e1];exact decide_eq_true h1
      · rw[if_neg e2,decide_eq_true_eq]at h2
        rw[if_neg (by omega)]
        exact decide_eq_true (by omega)
inductive TI1 (K:PySem.W.Frag) (H:Hp) (ns:List Int) (v:V):Prop
  | mk (a:Addr) (h_0:v= .ref a) (h_1:SqT K H a (ns.map V.int)):TI1 K H ns v
section
variable {X:Cx} {pins:List (Addr×Obj)} {σ:L2.St} {l:Addr} {xs:List V} {keys:List (List Int)} {H:Hp} {Q:VK} {s:Shared}
theorem TI1.at (I:Inv X pins σ H s) {ns:List Int} {v:V} {u:Value} (h:TI1 X.K H ns v) (r:RelV v u):∃t its,u= .ref t/\IsTup s.heap t its/\IntsAre its.toList ns:=by
  obtain⟨a,rfl,h2⟩:=h
  cases (show u=Value.ref a from r)
  obtain⟨its,rv,ht,_⟩:=I.tuple h2
  exact⟨a,its.toArray,rfl,ht,by simpa using intsAre_of rv⟩
theorem minT_loop (hr:Room 1 X.A) (hl:SqL X.K H l xs) (hp:Paired (TI1 X.K H) keys xs)
    (hQ:∀(i:Nat) (v:V) (ki:List Int),xs[i]? =some v->keys[i]? =some ki->(∀a∈keys,HT.lexLt a ki=false)->Q v H) {it S:Addr} (hIS:S≠it) (hlI:l≠it):
    ∀(r j i:Nat) (s:Shared) (vb:V) (ub:Value) (ki:List Int) (c:Nat),xs.length - j=r->j≤xs.length->Inv X pins σ H s->FpOk X pins H it->FpOk X pins H S->
      s.heap.get? S=some (seqObj "list" #[ub,ub] c)->s.heap.IsListIter it l j->i < j->xs[i]? =some vb->RelV vb ub->keys[i]? =some ki->(∀(j':Nat) (kj:List Int),j' < j->keys[j']? =some kj->HT.lexLt kj ki=false)->
      codeAny (model X.prog X.w) X.A (.builtin "min.loop" ⟨[.ref it,.none,.ref S],[]⟩) (minEnd X pins σ Q) s:=by
  have hname:(toString "min"++toString ".loop":String)="min.loop":=by decide
  have hh:X.A.in1.handled=none:=hr.hd
  have hlen:keys.length=xs.length:=Paired.length hp
  intro r
  induction r with
  | zero=>
    intro j i s vb ub ki c hr' hj I fi fS gS hit hij hvb rvb hki best
    have e:j=xs.length:=by omega
    obtain⟨its,rv,pl,hz⟩:=I.list hl
    have W:=Walks.list (prog:=X.prog) (w:=X.w) (A:=X.A.in1) hh it l hlI its.toArray
    have hsz:its.toArray.size=xs.length:=by rw[List.size_toArray];exact rv.length.symm
    refine codeAny_builtin PySem.F.entry_min_loop ?_
    rw[Around.under_plainId PySem.F.plain_min_loop _]
    show wpAny _ X.A.in1 (seqItems? (.ref S) >>= _) _ _ _
    refine wpAny_bind (wpAny_seqItems gS rfl ?_)
    show wpAny _ X.A.in1 (tryCatch (pyNext (.ref it)) _ >>= _) _ _ _
    refine wpAny_bind (wpAny_tryCatch (W.done _ _ _ ⟨by rw[hsz,←e];exact hit,pl.isList⟩ fun h' tk' hk'=> ?_))
    obtain⟨f0,f1,f2,f3,f4,f5⟩:=fi
    have I1:Inv X pins σ H {s with heap:=h',toks:=tk'}:=I.turned (fun b o hb e=>hk' b o (by simpa using hb) e) f0 f1 f3 f4 f5
    have gS':h'.get? S=some (seqObj "list" #[ub,ub] c):=hk' S _ (by simpa using hIS) gS
    show wpAny _ X.A.in1 (updateSeq S (fun _=> #[]) >>= _) _ _ _
    refine wpAny_bind ?_
    refine wpAny_updateSeq gS' rfl (wpAny_bind (wpAny_letGo (wpAny_pure ?_)))
    have s1:=Heap.SameBut.update h' S (Obj.mapSeq fun _=>(#[]:Array Value))
    obtain⟨g0,g1,g2,g3,g4,g5⟩:=fS
    have I2:Inv X pins σ H {s with heap:=h'.update S (Obj.mapSeq fun _=>(#[]:Array Value)),toks:=tk'}:=I1.turned (t':=tk') (fun b o hb e=>(s1.2 b hb).trans e) g0 g1 g3 g4 g5
    refine⟨vb,H,I2,rvb,hQ i vb ki hvb hki (fun a ha=> ?_)⟩
    obtain⟨j',hj',ea⟩:=List.getElem_of_mem ha
    exact best j' a (by omega) (by rw[←ea];exact List.getElem?_eq_getElem hj')
  | succ r ih=>
    intro j i s vb ub ki c hr' hj I fi fS gS hit hij hvb rvb hki best
    have hlt:j < xs.length:=by omega
    obtain⟨its,rv,pl,hz⟩:=I.list hl
    have W:=Walks.list (prog:=X.prog) (w:=X.w) (A:=X.A.in1) hh it l hlI its.toArray
    have hsz:its.toArray.size=xs.length:=by rw[List.size_toArray];exact rv.length.symm
    obtain⟨v,hv⟩:∃v,xs[j]? =some v:=⟨_,List.getElem?_eq_getElem hlt⟩
    obtain⟨kj,hkj⟩:∃kj,keys[j]? =some kj:=⟨_,List.getElem?_eq_getElem (by omega)⟩
    refine codeAny_builtin PySem.F.entry_min_loop ?_
    rw[Around.under_plainId PySem.F.plain_min_loop _]
    show wpAny _ X.A.in1 (seqItems? (.ref S) >>= _) _ _ _
    refine wpAny_bind (wpAny_seqItems gS rfl ?_)
    show wpAny _ X.A.in1 (tryCatch (pyNext (.ref it)) _ >>= _) _ _ _
    refine wpAny_bind (wpAny_tryCatch (W.item j _ _ _ (by rw[hsz];exact hlt) ⟨hit,pl.isList⟩ fun u h' tk' hP hst' hk'=> ?_))
    have hu:its[j]? =some u:=by simpa using hP
    obtain⟨u',hu',ru⟩:=rv.get hv
    obtain rfl:u'=u:=Option.some.inj (hu'.symm.trans hu)
    have I1:Inv X pins σ H {s with heap:=h',toks:=tk'}:=I.turned (fun b o hb e=>hk' b o (by simpa using hb) e) fi.1 fi.2.1 fi.2.2.2.1 fi.2.2.2.2.1 fi.2.2.2.2.2
    have gS':h'.get? S=some (seqObj "list" #[ub,ub] c):=hk' S _ (by simpa using hIS) gS
    obtain⟨y1,hy1,q1⟩:=paired_get hp hkj
    obtain rfl:y1=v:=Option.some.inj (hy1.symm.trans hv)
    obtain⟨y2,hy2,q2⟩:=paired_get hp hki
    obtain rfl:y2=vb:=Option.some.inj (hy2.symm.trans hvb)
    obtain⟨t1,its1,e1,ht1,hk1⟩:=q1.at I1 ru
    obtain⟨t2,its2,e2,ht2,hk2⟩:=q2.at I1 rvb
    subst e1 e2
    refine wpAny_bind (wpAny_pure ?_)
    show wpAny _ X.A.in1 (tryCatch (holding [.ref t1,.ref t1] (richCompare .Lt (.ref t1) (.ref t2) >>= _)) _ >>= _) _ _ _
    have un:=hr.un
    refine wpAny_bind (wpAny_tryCatch (wpAny_holding (wpAny_bind (HT.lt_tupInts ht1 ht2 hk1 hk2 (show X.A.units+1 < cLine by omega) ?_))))
    refine wpAny_bind (wpAny_holding (wpAny_truthy_bool ?_))
    refine wpAny_bind (wpAny_letGo (wpAny_pure ?_))
    by_cases hb':HT.lexLt kj ki=true
    · have s1:=Heap.SameBut.update h' S (Obj.mapSeq fun _=> #[Value.ref t1,.ref t1])
      obtain⟨c2,hc2⟩:∃c2,(h'.update S (Obj.mapSeq fun _=> #[Value.ref t1,.ref t1])).get? S=some (seqObj "list" #[Value.ref t1,.ref t1] c2):=⟨_,get?_update_seq gS' fun _=> #[Value.ref t1,.ref t1]⟩
      simp only[hb',if_true]
      refine wpAny_bind ?_
      refine wpAny_updateSeq gS' rfl (wpAny_bind (wpAny_letGo ?_))
      rw[hname]
      have I3:Inv X pins σ H {s with heap:=h'.update S (Obj.mapSeq fun _=> #[Value.ref t1,.ref t1]),toks:=tk'}:=I1.turned (t':=tk') (fun b o hb e=>(s1.2 b hb).trans e) fS.1 fS.2.1 fS.2.2.2.1 fS.2.2.2.2.1 fS.2.2.2.2.2
      refine wpAny_pure ⟨plainId_quiet PySem.F.plain_min_loop _,ih (j+1) j _ y1 (.ref t1) kj c2 (by omega) (by omega) I3 fi fS hc2 (hst'.1.at fun o q=>(s1.2 it (Ne.symm hIS)).trans q) (Nat.lt_succ_self _) hv ru hkj fun j' k' hj' hk'=> ?_⟩
      by_cases e:j'=j
      · subst e
        rw[hkj]at hk'
        cases hk'
        exact lexLt_irr kj
      · have hbj:=best j' k' (by omega) hk'
        cases q:HT.lexLt k' kj with
        | false=>rfl
        | true=>
          rw[lexLt_tr k' kj ki q hb']at hbj
          cases hbj
    · have hb2:HT.lexLt kj ki=false:=by
        cases q:HT.lexLt kj ki with
        | false=>rfl
        | true=>exact absurd q hb'
      simp only[hb2,Bool.false_eq_true,if_false]
      refine wpAny_bind (wpAny_letGo ?_)
      rw[hname]
      refine wpAny_pure ⟨plainId_quiet PySem.F.plain_min_loop _,ih (j+1) i _ y2 (.ref t2) ki c (by omega) (by omega) I1 fi fS gS' hst'.1 (by omega) hvb rvb hki fun j' k' hj' hk'=> ?_⟩
      by_cases e:j'=j
      · subst e
        rw[hkj]at hk'
        cases hk'
        exact hb2
      · exact best j' k' (by omega) hk'
theorem min_tups (hr:Room 1 X.A) (I:Inv X pins σ H s) (hl:SqL X.K H l xs) (hne:xs≠[]) (hp:Paired (TI1 X.K H) keys xs)
    (hQ:∀(i:Nat) (v:V) (ki:List Int),xs[i]? =some v->keys[i]? =some ki->(∀a∈keys,HT.lexLt a ki=false)->Q v H):
    wpAny (model X.prog X.w) X.A (call (.builtin "min") [.ref l]) (EP X pins σ Q) X.xe s:=by
  have hname:(toString "min"++toString ".loop":String)="min.loop":=by decide
  have hh:X.A.in1.handled=none:=hr.hd
  have hlen:keys.length=xs.length:=Paired.length hp
  obtain⟨its,rv,pl,hz⟩:=I.list hl
  have hls:=pl.isList
  obtain⟨ol,hol,_⟩:=id hls
  have hll:l < s.heap.objs.size:=Heap.lt_size hol
  have hpos:0 < xs.length:=by
    cases xs with
    | nil=>exact absurd rfl hne
    | cons a l=>exact Nat.zero_lt_succ _
  refine call_function_tree PySem.F.kind_min PySem.F.plain_min PySem.F.entry_min (PySem.F.args_min1 _) ?_
  show wpAny _ X.A.in1 (Builtin.Builtins.bindParams "min" ["key","default"] 0 ⟨[],[]⟩ >>= _) _ _ s
  refine wpAny_bind (wpAny_of_eq (show Builtin.Builtins.bindParams "min" ["key","default"] 0 ⟨[],[]⟩=pure [none,none]from rfl) ?_)
  refine wpAny_bind (wpAny_pure ?_)
  refine wpAny_bind (wpAny_pyIter_list hls ?_)
  refine wpAny_bind (wpAny_newList ?_ (Nat.zero_le _))
  rw[hname]
  have hS:(s.heap.push {cls:= .type "list_iterator",data:= .fields #[.ref l,.int 0 0]}).objs.size=s.heap.objs.size+1:=size_push' ..
  refine wpAny_pure ⟨plainId_quiet PySem.F.plain_min_loop _,?_⟩
  have gI:((s.heap.push {cls:= .type "list_iterator",data:= .fields #[.ref l,.int 0 0]}).push (seqObj "list" #[] 0)).get? s.heap.objs.size=some {cls:= .type "list_iterator",data:= .fields #[.ref l,.int 0 0]}:=
    Heap.get?_push_of_some _ (Heap.get?_push_size _ rfl)
  have gS:((s.heap.push {cls:= .type "list_iterator",data:= .fields #[.ref l,.int 0 0]}).push (seqObj "list" #[] 0)).get? (s.heap.push {cls:= .type "list_iterator",data:= .fields #[.ref l,.int 0 0]}).objs.size=some (seqObj "list" #[] 0):=
    Heap.get?_push_size _ rfl
  have I0:Inv X pins σ H {s with heap:=(s.heap.push {cls:= .type "list_iterator",data:= .fields #[.ref l,.int 0 0]}).push (seqObj "list" #[] 0)}:=I.kept (t':=s.toks) fun b o e=>Heap.get?_push_of_some _ (Heap.get?_push_of_some _ e)
  have hlI:l≠s.heap.objs.size:=Nat.ne_of_lt hll
  have hSI:(s.heap.push {cls:= .type "list_iterator",data:= .fields #[.ref l,.int 0 0]}).objs.size≠s.heap.objs.size:=by rw[hS];exact Nat.ne_of_gt (Nat.lt_succ_self _)
  have fi:FpOk X pins H s.heap.objs.size:=I.fpOk (Nat.le_refl _) (I.hok.fresh (Nat.le_refl _))
  have fS:FpOk X pins H (s.heap.push {cls:= .type "list_iterator",data:= .fields #[.ref l,.int 0 0]}).objs.size:=by
    rw[hS]
    exact I.fpOk (Nat.le_succ _) (I.hok.fresh (Nat.le_succ _))
  generalize hSe:(s.heap.push {cls:= .type "list_iterator",data:= .fields #[.ref l,.int 0 0]}).objs.size=S at gS hSI fS ⊢
  generalize hh0:(s.heap.push {cls:= .type "list_iterator",data:= .fields #[.ref l,.int 0 0]}).push (seqObj "list" #[] 0)=h0 at gI gS I0 ⊢
  generalize hit:s.heap.objs.size=it at gI hlI hSI fi ⊢
  obtain⟨its,rv,pl,hz⟩:=I0.list hl
  have hsz:its.toArray.size=xs.length:=by rw[List.size_toArray];exact rv.length.symm
  have W:=Walks.list (prog:=X.prog) (w:=X.w) (A:=X.A.in1) hh it l hlI its.toArray
  obtain⟨v,hv⟩:∃v,xs[0]? =some v:=⟨_,List.getElem?_eq_getElem hpos⟩
  obtain⟨kj,hkj⟩:∃kj,keys[0]? =some kj:=⟨_,List.getElem?_eq_getElem (by omega)⟩
  refine codeAny_builtin PySem.F.entry_min_loop ?_
  rw[Around.under_plainId PySem.F.plain_min_loop _]
  show wpAny _ X.A.in1 (seqItems? (.ref S) >>= _) _ _ _
  refine wpAny_bind (wpAny_seqItems gS rfl ?_)
  show wpAny _ X.A.in1 (tryCatch (pyNext (.ref it)) _ >>= _) _ _ _
  refine wpAny_bind (wpAny_tryCatch (W.item 0 _ _ _ (by rw[hsz];exact hpos) ⟨⟨_,gI,rfl,rfl⟩,pl.isList⟩ fun u h' tk' hP hst' hk'=> ?_))
  have hu:its[0]? =some u:=by simpa using hP
  obtain⟨u',hu',ru⟩:=rv.get hv
  obtain rfl:u'=u:=Option.some.inj (hu'.symm.trans hu)
  have I1:Inv X pins σ H {s with heap:=h',toks:=tk'}:=I0.turned (t':=tk') (fun b o hb e=>hk' b o (by simpa using hb) e) fi.1 fi.2.1 fi.2.2.2.1 fi.2.2.2.2.1 fi.2.2.2.2.2
  have gS':h'.get? S=some (seqObj "list" #[] 0):=hk' S _ (by simpa using hSI) gS
  have s1:=Heap.SameBut.update h' S (Obj.mapSeq fun _=> #[u',u'])
  obtain⟨c2,hc2⟩:∃c2,(h'.update S (Obj.mapSeq fun _=> #[u',u'])).get? S=some (seqObj "list" #[u',u'] c2):=⟨_,get?_update_seq gS' fun _=> #[u',u']⟩
  refine wpAny_bind (wpAny_pure ?_)
  show wpAny _ X.A.in1 (updateSeq S (fun _=> #[u',u']) >>= _) _ _ _
  refine wpAny_bind ?_
  refine wpAny_updateSeq gS' rfl ?_
  rw[hname]
  have I3:Inv X pins σ H {s with heap:=h'.update S (Obj.mapSeq fun _=> #[u',u']),toks:=tk'}:=I1.turned (t':=tk') (fun b o hb e=>(s1.2 b hb).trans e) fS.1 fS.2.1 fS.2.2.2.1 fS.2.2.2.2.1 fS.2.2.2.2.2
  refine wpAny_pure ⟨plainId_quiet PySem.F.plain_min_loop _,minT_loop hr hl hp hQ hSI hlI _ 1 0 _ v u' kj c2 rfl (by omega) I3 fi fS hc2 (hst'.1.at fun o q=>(s1.2 it (Ne.symm hSI)).trans q) (Nat.zero_lt_one) hv ru hkj fun j' k' hj' hk'=> ?_⟩
  have e:j'=0:=by omega
  subst e
  rw[hkj]at hk'
  cases hk'
  exact lexLt_irr kj
inductive rminT (K:PySem.W.Frag) (vs:List V) (H:Hp) (Q:VK):Prop
  | mk (a:Addr) (xs:List V) (keys:List (List Int)) (h_0:vs=[V.ref a]) (h_1:SqL K H a xs) (h_2:xs≠[]) (h_3:Paired (TI1 K H) keys xs) (h_4:∀(i:Nat) (v:V) (ki:List Int),xs[i]? =some v->keys[i]? =some ki->(∀a∈keys,HT.lexLt a ki=false)->Q v H):rminT K vs H Q
theorem call_minT (hr:Room 1 X.A):CallR X (.builtin "min") (rminT X.K):=by
  intro pins s σ H vs us Q I r h
  obtain⟨a,xs,keys,rfl,hs,hne,hp,q⟩:=h
  rw[Vals.ref1 r]
  exact min_tups hr I hs hne hp q
theorem maxT_loop (hr:Room 1 X.A) (hl:SqL X.K H l xs) (hp:Paired (TI1 X.K H) keys xs)
    (hQ:∀(i:Nat) (v:V) (ki:List Int),xs[i]? =some v->keys[i]? =some ki->(∀a∈keys,HT.lexLt ki a=false)->Q v H) {it S:Addr} (hIS:S≠it) (hlI:l≠it):
    ∀(r j i:Nat) (s:Shared) (vb:V) (ub:Value) (ki:List Int) (c:Nat),xs.length - j=r->j≤xs.length->Inv X pins σ H s->FpOk X pins H it->FpOk X pins H S->
      s.heap.get? S=some (seqObj "list" #[ub,ub] c)->s.heap.IsListIter it l j->i < j->xs[i]? =some vb->RelV vb ub->keys[i]? =some ki->(∀(j':Nat) (kj:List Int),j' < j->keys[j']? =some kj->HT.lexLt ki kj=false)->
      codeAny (model X.prog X.w) X.A (.builtin "max.loop" ⟨[.ref it,.none,.ref S],[]⟩) (minEnd X pins σ Q) s:=by
  have hname:(toString "max"++toString ".loop":String)="max.loop":=by decide
  have hh:X.A.in1.handled=none:=hr.hd
  have hlen:keys.length=xs.length:=Paired.length hp
  intro r
  induction r with
  | zero=>
    intro j i s vb ub ki c hr' hj I fi fS gS hit hij hvb rvb hki best
    have e:j=xs.length:=by omega
    obtain⟨its,rv,pl,hz⟩:=I.list hl
    have W:=Walks.list (prog:=X.prog) (w:=X.w) (A:=X.A.in1) hh it l hlI its.toArray
    have hsz:its.toArray.size=xs.length:=by rw[List.size_toArray];exact rv.length.symm
    refine codeAny_builtin PySem.F.entry_max_loop ?_
    rw[Around.under_plainId PySem.F.plain_max_loop _]
    show wpAny _ X.A.in1 (seqItems? (.ref S) >>= _) _ _ _
    refine wpAny_bind (wpAny_seqItems gS rfl ?_)
    show wpAny _ X.A.in1 (tryCatch (pyNext (.ref it)) _ >>= _) _ _ _
    refine wpAny_bind (wpAny_tryCatch (W.done _ _ _ ⟨by rw[hsz,←e];exact hit,pl.isList⟩ fun h' tk' hk'=> ?_))
    obtain⟨f0,f1,f2,f3,f4,f5⟩:=fi
    have I1:Inv X pins σ H {s with heap:=h',toks:=tk'}:=I.turned (fun b o hb e=>hk' b o (by simpa using hb) e) f0 f1 f3 f4 f5
    have gS':h'.get? S=some (seqObj "list" #[ub,ub] c):=hk' S _ (by simpa using hIS) gS
    show wpAny _ X.A.in1 (updateSeq S (fun _=> #[]) >>= _) _ _ _
    refine wpAny_bind ?_
    refine wpAny_updateSeq gS' rfl (wpAny_bind (wpAny_letGo (wpAny_pure ?_)))
    have s1:=Heap.SameBut.update h' S (Obj.mapSeq fun _=>(#[]:Array Value))
    obtain⟨g0,g1,g2,g3,g4,g5⟩:=fS
    have I2:Inv X pins σ H {s with heap:=h'.update S (Obj.mapSeq fun _=>(#[]:Array Value)),toks:=tk'}:=I1.turned (t':=tk') (fun b o hb e=>(s1.2 b hb).trans e) g0 g1 g3 g4 g5
    refine⟨vb,H,I2,rvb,hQ i vb ki hvb hki (fun a ha=> ?_)⟩
    obtain⟨j',hj',ea⟩:=List.getElem_of_mem ha
    exact best j' a (by omega) (by rw[←ea];exact List.getElem?_eq_getElem hj')
  | succ r ih=>
    intro j i s vb ub ki c hr' hj I fi fS gS hit hij hvb rvb hki best
    have hlt:j < xs.length:=by omega
    obtain⟨its,rv,pl,hz⟩:=I.list hl
    have W:=Walks.list (prog:=X.prog) (w:=X.w) (A:=X.A.in1) hh it l hlI its.toArray
    have hsz:its.toArray.size=xs.length:=by rw[List.size_toArray];exact rv.length.symm
    obtain⟨v,hv⟩:∃v,xs[j]? =some v:=⟨_,List.getElem?_eq_getElem hlt⟩
    obtain⟨kj,hkj⟩:∃kj,keys[j]? =some kj:=⟨_,List.getElem?_eq_getElem (by omega)⟩
    refine codeAny_builtin PySem.F.entry_max_loop ?_
    rw[Around.under_plainId PySem.F.plain_max_loop _]
    show wpAny _ X.A.in1 (seqItems? (.ref S) >>= _) _ _ _
    refine wpAny_bind (wpAny_seqItems gS rfl ?_)
    show wpAny _ X.A.in1 (tryCatch (pyNext (.ref it)) _ >>= _) _ _ _
    refine wpAny_bind (wpAny_tryCatch (W.item j _ _ _ (by rw[hsz];exact hlt) ⟨hit,pl.isList⟩ fun u h' tk' hP hst' hk'=> ?_))
    have hu:its[j]? =some u:=by simpa using hP
    obtain⟨u',hu',ru⟩:=rv.get hv
    obtain rfl:u'=u:=Option.some.inj (hu'.symm.trans hu)
    have I1:Inv X pins σ H {s with heap:=h',toks:=tk'}:=I.turned (fun b o hb e=>hk' b o (by simpa using hb) e) fi.1 fi.2.1 fi.2.2.2.1 fi.2.2.2.2.1 fi.2.2.2.2.2
    have gS':h'.get? S=some (seqObj "list" #[ub,ub] c):=hk' S _ (by simpa using hIS) gS
    obtain⟨y1,hy1,q1⟩:=paired_get hp hkj
    obtain rfl:y1=v:=Option.some.inj (hy1.symm.trans hv)
    obtain⟨y2,hy2,q2⟩:=paired_get hp hki
    obtain rfl:y2=vb:=Option.some.inj (hy2.symm.trans hvb)
    obtain⟨t1,its1,e1,ht1,hk1⟩:=q1.at I1 ru
    obtain⟨t2,its2,e2,ht2,hk2⟩:=q2.at I1 rvb
    subst e1 e2
    refine wpAny_bind (wpAny_pure ?_)
    show wpAny _ X.A.in1 (tryCatch (holding [.ref t1,.ref t1] (richCompare .Gt (.ref t1) (.ref t2) >>= _)) _ >>= _) _ _ _
    have un:=hr.un
    refine wpAny_bind (wpAny_tryCatch (wpAny_holding (wpAny_bind (gt_tupInts ht1 ht2 hk1 hk2 (show X.A.units+1 < cLine by omega) ?_))))
    refine wpAny_bind (wpAny_holding (wpAny_truthy_bool ?_))
    refine wpAny_bind (wpAny_letGo (wpAny_pure ?_))
    by_cases hb':HT.lexLt ki kj=true
    · have s1:=Heap.SameBut.update h' S (Obj.mapSeq fun _=> #[Value.ref t1,.ref t1])
      obtain⟨c2,hc2⟩:∃c2,(h'.update S (Obj.mapSeq fun _=> #[Value.ref t1,.ref t1])).get? S=some (seqObj "list" #[Value.ref t1,.ref t1] c2):=⟨_,get?_update_seq gS' fun _=> #[Value.ref t1,.ref t1]⟩
      simp only[hb',if_true]
      refine wpAny_bind ?_
      refine wpAny_updateSeq gS' rfl (wpAny_bind (wpAny_letGo ?_))
      rw[hname]
      have I3:Inv X pins σ H {s with heap:=h'.update S (Obj.mapSeq fun _=> #[Value.ref t1,.ref t1]),toks:=tk'}:=I1.turned (t':=tk') (fun b o hb e=>(s1.2 b hb).trans e) fS.1 fS.2.1 fS.2.2.2.1 fS.2.2.2.2.1 fS.2.2.2.2.2
      refine wpAny_pure ⟨plainId_quiet PySem.F.plain_max_loop _,ih (j+1) j _ y1 (.ref t1) kj c2 (by omega) (by omega) I3 fi fS hc2 (hst'.1.at fun o q=>(s1.2 it (Ne.symm hIS)).trans q) (Nat.lt_succ_self _) hv ru hkj fun j' k' hj' hk'=> ?_⟩
      by_cases e:j'=j
      · subst e
        rw[hkj]at hk'
        cases hk'
        exact lexLt_irr kj
      · have hbj:=best j' k' (by omega) hk'
        cases q:HT.lexLt kj k' with
        | false=>rfl
        | true=>
          rw[lexLt_tr ki kj k' hb' q]at hbj
          cases hbj
    · have hb2:HT.lexLt ki kj=false:=by
        cases q:HT.lexLt ki kj with
        | false=>rfl
        | true=>exact absurd q hb'
      simp only[hb2,Bool.false_eq_true,if_false]
      refine wpAny_bind (wpAny_letGo ?_)
      rw[hname]
      refine wpAny_pure ⟨plainId_quiet PySem.F.plain_max_loop _,ih (j+1) i _ y2 (.ref t2) ki c (by omega) (by omega) I1 fi fS gS' hst'.1 (by omega) hvb rvb hki fun j' k' hj' hk'=> ?_⟩
      by_cases e:j'=j
      · subst e
        rw[hkj]at hk'
        cases hk'
        exact hb2
      · exact best j' k' (by omega) hk'
theorem max_tups (hr:Room 1 X.A) (I:Inv X pins σ H s) (hl:SqL X.K H l xs) (hne:xs≠[]) (hp:Paired (TI1 X.K H) keys xs)
    (hQ:∀(i:Nat) (v:V) (ki:List Int),xs[i]? =some v->keys[i]? =some ki->(∀a∈keys,HT.lexLt ki a=false)->Q v H):
    wpAny (model X.prog X.w) X.A (call (.builtin "max") [.ref l]) (EP X pins σ Q) X.xe s:=by
  have hname:(toString "max"++toString ".loop":String)="max.loop":=by decide
  have hh:X.A.in1.handled=none:=hr.hd
  have hlen:keys.length=xs.length:=Paired.length hp
  obtain⟨its,rv,pl,hz⟩:=I.list hl
  have hls:=pl.isList
  obtain⟨ol,hol,_⟩:=id hls
  have hll:l < s.heap.objs.size:=Heap.lt_size hol
  have hpos:0 < xs.length:=by
    cases xs with
    | nil=>exact absurd rfl hne
    | cons a l=>exact Nat.zero_lt_succ _
  refine call_function_tree PySem.F.kind_max PySem.F.plain_max PySem.F.entry_max (PySem.F.args_max1 _) ?_
  show wpAny _ X.A.in1 (Builtin.Builtins.bindParams "max" ["key","default"] 0 ⟨[],[]⟩ >>= _) _ _ s
  refine wpAny_bind (wpAny_of_eq (show Builtin.Builtins.bindParams "max" ["key","default"] 0 ⟨[],[]⟩=pure [none,none]from rfl) ?_)
  refine wpAny_bind (wpAny_pure ?_)
  refine wpAny_bind (wpAny_pyIter_list hls ?_)
  refine wpAny_bind (wpAny_newList ?_ (Nat.zero_le _))
  rw[hname]
  have hS:(s.heap.push {cls:= .type "list_iterator",data:= .fields #[.ref l,.int 0 0]}).objs.size=s.heap.objs.size+1:=size_push' ..
  refine wpAny_pure ⟨plainId_quiet PySem.F.plain_max_loop _,?_⟩
  have gI:((s.heap.push {cls:= .type "list_iterator",data:= .fields #[.ref l,.int 0 0]}).push (seqObj "list" #[] 0)).get? s.heap.objs.size=some {cls:= .type "list_iterator",data:= .fields #[.ref l,.int 0 0]}:=
    Heap.get?_push_of_some _ (Heap.get?_push_size _ rfl)
  have gS:((s.heap.push {cls:= .type "list_iterator",data:= .fields #[.ref l,.int 0 0]}).push (seqObj "list" #[] 0)).get? (s.heap.push {cls:= .type "list_iterator",data:= .fields #[.ref l,.int 0 0]}).objs.size=some (seqObj "list" #[] 0):=
    Heap.get?_push_size _ rfl
  have I0:Inv X pins σ H {s with heap:=(s.heap.push {cls:= .type "list_iterator",data:= .fields #[.ref l,.int 0 0]}).push (seqObj "list" #[] 0)}:=I.kept (t':=s.toks) fun b o e=>Heap.get?_push_of_some _ (Heap.get?_push_of_some _ e)
  have hlI:l≠s.heap.objs.size:=Nat.ne_of_lt hll
  have hSI:(s.heap.push {cls:= .type "list_iterator",data:= .fields #[.ref l,.int 0 0]}).objs.size≠s.heap.objs.size:=by rw[hS];exact Nat.ne_of_gt (Nat.lt_succ_self _)
  have fi:FpOk X pins H s.heap.objs.size:=I.fpOk (Nat.le_refl _) (I.hok.fresh (Nat.le_refl _))
  have fS:FpOk X pins H (s.heap.push {cls:= .type "list_iterator",data:= .fields #[.ref l,.int 0 0]}).objs.size:=by
    rw[hS]
    exact I.fpOk (Nat.le_succ _) (I.hok.fresh (Nat.le_succ _))
  generalize hSe:(s.heap.push {cls:= .type "list_iterator",data:= .fields #[.ref l,.int 0 0]}).objs.size=S at gS hSI fS ⊢
  generalize hh0:(s.heap.push {cls:= .type "list_iterator",data:= .fields #[.ref l,.int 0 0]}).push (seqObj "list" #[] 0)=h0 at gI gS I0 ⊢
  generalize hit:s.heap.objs.size=it at gI hlI hSI fi ⊢
  obtain⟨its,rv,pl,hz⟩:=I0.list hl
  have hsz:its.toArray.size=xs.length:=by rw[List.size_toArray];exact rv.length.symm
  have W:=Walks.list (prog:=X.prog) (w:=X.w) (A:=X.A.in1) hh it l hlI its.toArray
  obtain⟨v,hv⟩:∃v,xs[0]? =some v:=⟨_,List.getElem?_eq_getElem hpos⟩
  obtain⟨kj,hkj⟩:∃kj,keys[0]? =some kj:=⟨_,List.getElem?_eq_getElem (by omega)⟩
  refine codeAny_builtin PySem.F.entry_max_loop ?_
  rw[Around.under_plainId PySem.F.plain_max_loop _]
  show wpAny _ X.A.in1 (seqItems? (.ref S) >>= _) _ _ _
  refine wpAny_bind (wpAny_seqItems gS rfl ?_)
  show wpAny _ X.A.in1 (tryCatch (pyNext (.ref it)) _ >>= _) _ _ _
  refine wpAny_bind (wpAny_tryCatch (W.item 0 _ _ _ (by rw[hsz];exact hpos) ⟨⟨_,gI,rfl,rfl⟩,pl.isList⟩ fun u h' tk' hP hst' hk'=> ?_))
  have hu:its[0]? =some u:=by simpa using hP
  obtain⟨u',hu',ru⟩:=rv.get hv
  obtain rfl:u'=u:=Option.some.inj (hu'.symm.trans hu)
  have I1:Inv X pins σ H {s with heap:=h',toks:=tk'}:=I0.turned (t':=tk') (fun b o hb e=>hk' b o (by simpa using hb) e) fi.1 fi.2.1 fi.2.2.2.1 fi.2.2.2.2.1 fi.2.2.2.2.2
  have gS':h'.get? S=some (seqObj "list" #[] 0):=hk' S _ (by simpa using hSI) gS
  have s1:=Heap.SameBut.update h' S (Obj.mapSeq fun _=> #[u',u'])
  obtain⟨c2,hc2⟩:∃c2,(h'.update S (Obj.mapSeq fun _=> #[u',u'])).get? S=some (seqObj "list" #[u',u'] c2):=⟨_,get?_update_seq gS' fun _=> #[u',u']⟩
  refine wpAny_bind (wpAny_pure ?_)
  show wpAny _ X.A.in1 (updateSeq S (fun _=> #[u',u']) >>= _) _ _ _
  refine wpAny_bind ?_
  refine wpAny_updateSeq gS' rfl ?_
  rw[hname]
  have I3:Inv X pins σ H {s with heap:=h'.update S (Obj.mapSeq fun _=> #[u',u']),toks:=tk'}:=I1.turned (t':=tk') (fun b o hb e=>(s1.2 b hb).trans e) fS.1 fS.2.1 fS.2.2.2.1 fS.2.2.2.2.1 fS.2.2.2.2.2
  refine wpAny_pure ⟨plainId_quiet PySem.F.plain_max_loop _,maxT_loop hr hl hp hQ hSI hlI _ 1 0 _ v u' kj c2 rfl (by omega) I3 fi fS hc2 (hst'.1.at fun o q=>(s1.2 it (Ne.symm hSI)).trans q) (Nat.zero_lt_one) hv ru hkj fun j' k' hj' hk'=> ?_⟩
  have e:j'=0:=by omega
  subst e
  rw[hkj]at hk'
  cases hk'
  exact lexLt_irr kj
inductive rmaxT (K:PySem.W.Frag) (vs:List V) (H:Hp) (Q:VK):Prop
  | mk (a:Addr) (xs:List V) (keys:List (List Int)) (h_0:vs=[V.ref a]) (h_1:SqL K H a xs) (h_2:xs≠[]) (h_3:Paired (TI1 K H) keys xs) (h_4:∀(i:Nat) (v:V) (ki:List Int),xs[i]? =some v->keys[i]? =some ki->(∀a∈keys,HT.lexLt ki a=false)->Q v H):rmaxT K vs H Q
theorem call_maxT (hr:Room 1 X.A):CallR X (.builtin "max") (rmaxT X.K):=by
  intro pins s σ H vs us Q I r h
  obtain⟨a,xs,keys,rfl,hs,hne,hp,q⟩:=h
  rw[Vals.ref1 r]
  exact max_tups hr I hs hne hp q
theorem call_min3 (hc:X.calm=true):CallR X (.builtin "min") (fun xs H Q=>∃i j k,xs=[.int i,.int j,.int k]/\Q (.int (min i (min j k))) H):=by
  intro pins s σ H xs us Q I r h
  obtain⟨i,j,k,rfl,q⟩:=h
  cases r with
  | cons r1 r=>cases r with
    | cons r2 r=>cases r with
      | cons r3 r=>
        cases r
        obtain⟨t1,rfl⟩:=r1
        obtain⟨t2,rfl⟩:=r2
        obtain⟨t3,rfl⟩:=r3
        refine min_three_ints (I.ok.hd hc) fun h' tk kp=>⟨_,H,I.kept kp,?_,q⟩
        by_cases a:j < i
        · rw[if_pos a]
          by_cases b:k < j
          · rw[if_pos b];exact⟨_,by rw[show min i (min j k)=k by omega]⟩
          · rw[if_neg b];exact⟨_,by rw[show min i (min j k)=j by omega]⟩
        · rw[if_neg a]
          by_cases b:k < i
          · rw[if_pos b];exact⟨_,by rw[show min i (min j k)=k by omega]⟩
          · rw[if_neg b];exact⟨_,by rw[show min i (min j k)=i by omega]⟩
end
end TyR
end
section
namespace TyR
open PySem PySem.Spec PyProof.Rows L2
open PySem.AutoSeq1 (wpAny_loadPart')
section
variable {prog:Program} {w:World} {A:Around} {E:Value->Shared->Prop} {s:Shared}
theorem tup_next {I t:Addr} {i:Nat} {items:Array Value} {x:Value} {Q:Value->Shared->Prop} (hI:s.heap.IsTupleIter I t i) (ht:s.heap.IsTuple t items) (hx:items[i]? =some x)
    (hQ:∀h',h'.IsTupleIter I t (i+1)->Heap.SameBut I s.heap h'->Q x {s with heap:=h'}):wpAny (model prog w) A (Builtin.SmallTypes.nextOf (.ref I)) Q E s:=by
  obtain⟨oI,gI,cI,dI⟩:=id hI
  obtain⟨oT,gT,_,nT,dT⟩:=ht
  unfold Builtin.SmallTypes.nextOf
  refine wpAny_bind (wpAny_callSpecial?_slot (name:=Str.ofString "__next__") hI.typeIs PySem.F.slot_tuple_iterator_next (wpAny_call_entry PySem.F.slot_tuple_iterator_next hI.typeIs PySem.F.entry_tuple_iterator_next ?_ (PySem.F.args_tuple_iterator_next_1 _)))
  show wpAny _ _ (field (.ref I) 0 >>= _) _ _ s
  refine wpAny_bind (wpAny_field gI dI (x:= .ref t) rfl ?_)
  show wpAny _ _ (if (Value.ref t == Value.none)=true then _ else _) _ _ s
  rw[if_neg (show ¬((Value.ref t == Value.none)=true)from Bool.false_ne_true)]
  show wpAny _ _ (field (.ref I) 1 >>= _) _ _ s
  refine wpAny_bind (wpAny_field gI dI (x:= .int i 0) rfl ?_)
  show wpAny _ _ (seqItems? (.ref t) >>= _) _ _ s
  refine wpAny_bind (wpAny_seqItems gT dT ?_)
  simp only[Int.toNat_natCast,hx]
  refine wpAny_bind (wpAny_setField gI dI (by simp) (wpAny_pure ⟨x,rfl,wpAny_pure (hQ _ ?_ (Heap.SameBut.update ..))⟩))
  exact⟨_,Heap.get?_update_self _ gI (Obj.isFreed_of_fields (Obj.data_mapFields dI _)),(Obj.cls_mapFields ..).trans cI,by rw[Obj.data_mapFields dI];simp[rawInt]⟩
theorem tup_end {I t:Addr} {i:Nat} {items:Array Value} {Q:Value->Shared->Prop} (hh:A.handled=none) (hI:s.heap.IsTupleIter I t i) (ht:s.heap.IsTuple t items) (hx:items[i]? =none)
    (hE:∀h' e,Heap.ExtBut I s.heap h'->(∃o,h'.get? e=some o/\o.cls= .type "StopIteration")->E (.ref e) {s with heap:=h'}):wpAny (model prog w) A (Builtin.SmallTypes.nextOf (.ref I)) Q E s:=by
  obtain⟨oI,gI,cI,dI⟩:=id hI
  obtain⟨oT,gT,_,nT,dT⟩:=ht
  unfold Builtin.SmallTypes.nextOf
  refine wpAny_bind (wpAny_callSpecial?_slot (name:=Str.ofString "__next__") hI.typeIs PySem.F.slot_tuple_iterator_next (wpAny_call_entry PySem.F.slot_tuple_iterator_next hI.typeIs PySem.F.entry_tuple_iterator_next ?_ (PySem.F.args_tuple_iterator_next_1 _)))
  show wpAny _ _ (field (.ref I) 0 >>= _) _ _ s
  refine wpAny_bind (wpAny_field gI dI (x:= .ref t) rfl ?_)
  show wpAny _ _ (if (Value.ref t == Value.none)=true then _ else _) _ _ s
  rw[if_neg (show ¬((Value.ref t == Value.none)=true)from Bool.false_ne_true)]
  show wpAny _ _ (field (.ref I) 1 >>= _) _ _ s
  refine wpAny_bind (wpAny_field gI dI (x:= .int i 0) rfl ?_)
  show wpAny _ _ (seqItems? (.ref t) >>= _) _ _ s
  refine wpAny_bind (wpAny_seqItems gT dT ?_)
  simp only[Int.toNat_natCast,hx]
  refine wpAny_bind (wpAny_rule (wpAny_bind (wpAny_setField gI dI (by simp) ?_)))
  show wpAny _ _ (newExc (.type "StopIteration") [] >>= _) _ _ _
  refine wpAny_bind ?_
  simp only[newExc,newTuple]
  refine wpAny_bind (wpAny_newObj_type ?_ (by size_fits))
  refine wpAny_bind (m:=firstArgMember _ _) (wpAny_of_eq (a:=Value.none) (by first | rfl | (simp only[firstArgMember];rfl)) ?_)
  refine wpAny_newObj_type ?_ (by size_fits)
  simp only[raiseNew]
  refine wpAny_bind (wpAny_handled ?_)
  first | rw[show A.in1.handled=none from hh] | rw[hh]
  refine wpAny_bind (wpAny_pure (wpAny_throw ?_))
  exact hE _ _ (((Heap.SameBut.update ..).extBut.push _).push _) ⟨_,Heap.get?_push_size _ rfl,rfl⟩
end
theorem draws_tup {prog:Program} {w:World} {A:Around} (hh:A.handled=none) (I t:Addr) (hne:t≠I) (items:Array Value):
    Draws prog w A I [I,t] items.size (fun i v=>items[i]? =some v) (fun i h=>h.IsTupleIter I t i/\h.IsTuple t items) where
  live:=fun _ _ st=>let ⟨o,ho,_⟩:=st.1;⟨o,ho⟩
  frame:=fun _ _ _ st hk=>⟨st.1.at fun o e=>hk I (by simp) o e,st.2.at fun o e=>hk t (by simp) o e⟩
  item:=fun i s Q E hi st hQ=>by
    refine tup_next st.1 st.2 (x:=items[i]) (by simp[hi]) fun h' hI' hs'=> ?_
    exact hQ _ h' s.toks (by simp[hi]) ⟨hI',st.2.extBut hs'.extBut hne⟩ hs'
  done:=fun s Q E st hE=>tup_end hh st.1 st.2 (by simp) hE
theorem enum_newT (t:Addr) (items:Array Value) (n:Nat) (dct:Option Addr) (sl:Array (Option Value)):
    Meets (Builtin.«enumerate.__new__» ⟨[.type "enumerate",.ref t],[]⟩) (fun _ R s=>s.heap.get? t=some {cls:= .type "tuple",dict:=dct,data:= .seq items n,slots:=sl}/\
      R (.ok (.ret (.ref (s.heap.push {cls:= .type "tuple_iterator",data:= .fields #[.ref t,.int 0 0]}).objs.size)))
        {s with heap:=(s.heap.push {cls:= .type "tuple_iterator",data:= .fields #[.ref t,.int 0 0]}).push {cls:= .type "enumerate",data:= .fields #[.none,.bool false,.ref s.heap.objs.size,rawInt 0,.none,.none]}}):=
  .of_wp fun prog w A R s h=>by
    obtain⟨hp,g,d,tk,os⟩:=s;obtain⟨hl,h⟩:=h
    have hsub:=sub_enumerate
    have hT:Heap.IsTuple (Shared.heap ⟨hp,g,d,tk,os⟩) t items:=⟨_,hl,rfl,n,rfl⟩
    wp_walk using wpAny_loadPart' hl
    refine wpAny_stack_any fun st=>wpAny_pure ?_
    split
    · rename_i c _ _ _ _ _
      cases (c == Value.type "enumerate")
      · wp_walk using wpAny_loadPart' hl,wpAny_pyIter_tuple hT
        exact⟨_,rfl,h⟩
      · wp_walk using wpAny_loadPart' hl,wpAny_pyIter_tuple hT
        exact⟨_,rfl,h⟩
    · wp_walk using wpAny_loadPart' hl,wpAny_pyIter_tuple hT
      exact⟨_,rfl,h⟩
section
variable {prog:Program} {w:World} {A:Around} {E:Value->Shared->Prop} {s:Shared}
theorem call_enumT {t:Addr} {items:Array Value} {Q:Value->Shared->Prop} (ht:s.heap.IsTuple t items)
    (h:∀h',IsEnum h' (s.heap.objs.size+1) s.heap.objs.size 0 .none->h'.IsTupleIter s.heap.objs.size t 0->h'.objs.size=s.heap.objs.size+2->(∀b o,s.heap.get? b=some o->h'.get? b=some o)->Q (.ref (s.heap.objs.size+1)) {s with heap:=h'}):
    wpAny (model prog w) A (call (.type "enumerate") [.ref t]) Q E s:=by
  obtain⟨⟨c,dct,dt,sl⟩,hl,hc,n,hd⟩:=ht
  replace hc:c= .type "tuple":=hc
  replace hd:dt= .seq items n:=hd
  subst hc hd
  refine callType_new PySem.F.called_enumerate (by decide) (PySem.F.typeCall_enumerate_1 _) (PySem.F.newCall_enumerate_1 _) (fun obj=>PySem.F.args_object_init_2 obj _) PySem.F.entry_enumerate_new (enum_newT t items n dct sl) ⟨hl,?_⟩
  have hz:(s.heap.push {cls:= .type "tuple_iterator",data:= .fields #[.ref t,.int 0 0]}).objs.size=s.heap.objs.size+1:=Heap.size_push ..
  show _/\_
  rw[hz]
  have he:IsEnum ((s.heap.push {cls:= .type "tuple_iterator",data:= .fields #[.ref t,.int 0 0]}).push {cls:= .type "enumerate",data:= .fields #[.none,.bool false,.ref s.heap.objs.size,rawInt 0,.none,.none]}) (s.heap.objs.size+1) s.heap.objs.size 0 .none:=by
    have:=Heap.get?_push_size (s.heap.push {cls:= .type "tuple_iterator",data:= .fields #[.ref t,.int 0 0]}) (o:={cls:= .type "enumerate",data:= .fields #[.none,.bool false,.ref s.heap.objs.size,rawInt 0,.none,.none]}) rfl
    rw[hz]at this;exact this
  refine⟨⟨_,he,rfl⟩,h _ he ⟨_,Heap.get?_push_of_some _ (Heap.get?_push_size _ rfl),rfl,rfl⟩ (by rw[Heap.size_push,hz]) fun b o x=>Heap.get?_push_of_some _ (Heap.get?_push_of_some _ x)⟩
end
def IteT (K:PySem.W.Frag) (a:Addr):It:=
  ⟨fun i H=>∃(xs:List V) (x:V),SqT K H a xs/\xs[i]? =some x,fun i H v H'=>∃T x,v= .ref T/\H T=none/\H'=upd H T (.tup [.int (i:Nat),x])/\∀xs,SqT K H a xs->xs[i]? =some x,fun i H=>∃xs:List V,SqT K H a xs/\xs.length=i⟩
theorem turn_enumT {P:Program} {w:World} {K:PySem.W.Frag} {elts:List Expr} {kk:Nat} {tpos:Pos} (a e it:Addr):
    Turn P w K (.Tuple elts kk tpos) (IteT K a) [e,it] e (fun i h=>(∃old,IsEnum h e it ((i:Nat):Int) old)/\h.IsTupleIter it a i/\e≠it) where
  mem:=by simp
  obj:=fun i h st b hb=>by
    obtain⟨⟨old,he⟩,⟨o,ho,hc,hd⟩,_⟩:=st
    have e':b=e∨b=it:=by simpa using hb
    rcases e' with z | z
    · rw[z];exact⟨_,he,fun v q=>nomatch q⟩
    · rw[z];exact⟨o,ho,fun v q=>by rw[hd]at q;cases q⟩
  keep:=fun i h h' st k=>let ⟨⟨old,he⟩,hi,hne⟩:=st;⟨⟨old,k e (by simp) _ he⟩,hi.at fun o q=>k it (by simp) o q,hne⟩
  item:=by
    intro X hP hw hK hc i pins s σ H E I hf st hg
    subst hP hw hK
    obtain⟨⟨old,he⟩,hit,hne⟩:=st
    obtain⟨xs,x,hq,hx⟩:=hg
    obtain⟨its,rv,p,hz⟩:=I.tuple hq
    have pt:s.heap.IsTuple a its.toArray:=p
    obtain⟨u,hu,ru⟩:=rv.get hx
    have hel:e < s.heap.objs.size:=Heap.lt_size he
    have hil:it < s.heap.objs.size:=by obtain⟨_,q,_⟩:=hit;exact Heap.lt_size q
    obtain⟨ot,got,gct,nt,gdt⟩:=id pt
    have hea:e≠a:=fun z=>by rw[←z,he]at got;cases got;cases gdt
    have hia:a≠it:=fun z=>by
      obtain⟨oi,goi,gci,gdi⟩:=hit
      rw[←z,got]at goi;cases goi;rw[gdt]at gdi;cases gdi
    have hlt:i < its.toArray.size:=by
      have:=(List.getElem?_eq_some_iff.mp hu).1
      simpa using this
    refine wpAny_pyNext_enum_itemD (draws_tup (prog:=X.prog) (w:=X.w) (A:=X.A.in1) (I.ok.hd hc) it a hia its.toArray) he ⟨hit,pt⟩ hlt hne (by simp[hne,hea]) fun y h' tk hy ho hit' hT hsz hk=> ?_
    obtain rfl:y=u:=by
      have h1:its[i]? =some y:=by simpa using hy
      exact Option.some.inj (h1.symm.trans hu)
    refine⟨_,rfl,wpAny_letOwnedTupleGo_enum (s:={s with heap:=h',toks:=tk+1}) ho fun h'' he' sb=> ?_⟩
    have hT2:h''.get? s.heap.objs.size=some {cls:= .type "tuple",data:= .seq #[.int i tk,y]}:=(sb.2 _ (Nat.ne_of_gt hel)).trans hT
    have new:ObjOk X.prog X.w (upd H s.heap.objs.size (.tup [.int (i:Nat),x])) h'' s.heap.objs.size (.tup [.int (i:Nat),x]):=
      ⟨by show 2≤sizeLine;decide,[.int i tk,y],.cons ⟨_,rfl⟩ (.cons ru .nil),⟨_,hT2,rfl,_,rfl⟩⟩
    have I1:Inv X pins σ (upd H s.heap.objs.size (.tup [.int (i:Nat),x])) {s with heap:=h'',toks:=tk+1}:=
      I.turnedNew (ch:=[e,it]) (fun b ob hb q=>(sb.2 b (fun z=>hb (by simp[z]))).trans (hk b ob (fun z=>hb (by simp[z])) (fun z=>hb (by simp[z])) q)) hf (Nat.le_refl _) new
    refine⟨.ref s.heap.objs.size,_,I1,rfl,⟨_,x,rfl,I.hok.fresh (Nat.le_refl _),rfl,fun ys hy=>by rw[I.tuple_inj hy hq];exact hx⟩,⟨⟨y,?_⟩,hit'.1.at fun o q=>(sb.2 it (Ne.symm hne)).trans q,hne⟩,fun b hb=> ?_⟩
    · have e1:((i+1:Nat):Int)=(i:Int)+1:=by omega
      rw[e1];exact he'
    · have hb':b < s.heap.objs.size:=by
        have e':b=e∨b=it:=by simpa using hb
        rcases e' with z | z
        · rw[z];exact hel
        · rw[z];exact hil
      rw[upd_ne (Nat.ne_of_lt hb')]
      exact(hf b hb).1
  done:=by
    intro X hP hw hK hc i pins s σ H E I hf st hg
    subst hP hw hK
    obtain⟨⟨old,he⟩,hit,hne⟩:=st
    obtain⟨xs,hq,hx⟩:=hg
    obtain⟨its,rv,p,hz⟩:=I.tuple hq
    have pt:s.heap.IsTuple a its.toArray:=p
    obtain⟨f0,f1,f2,f3,f4,f5⟩:=hf it (by simp)
    have hia:a≠it:=fun z=>by
      obtain⟨ot,got,gct,nt,gdt⟩:=id pt
      obtain⟨oi,goi,gci,gdi⟩:=hit
      rw[←z,got]at goi;cases goi;rw[gdt]at gdi;cases gdi
    have ei:i=its.toArray.size:=by rw[List.size_toArray,←rv.length];exact hx.symm
    subst ei
    exact wpAny_pyNext_enum_endD (draws_tup (prog:=X.prog) (w:=X.w) (A:=X.A.in1) (I.ok.hd hc) it a hia its.toArray) he ⟨hit,pt⟩ fun h' eb=>⟨rfl,I.turned (t':=s.toks) (fun b o hb q=>eb b o hb q) f0 f1 f3 f4 f5⟩
  self:=fun A i s Q E st h=>let ⟨⟨_,he⟩,_⟩:=st;wpAny_pyIter_enum he h
def iEnumT (K:PySem.W.Frag) (ta:TA):TI:=fun σ H R=>ta σ H fun vs H1=>∃a xs,vs=[.ref a]/\SqT K H1 a xs/\R (IteT K a) H1
theorem pi_enumT {X:Cx} {e:Expr} {ta:TA} {p pos tpos:Pos} {elts:List Expr} {kk:Nat} (hg:Gl X "enumerate") (hm:X.mg "enumerate"=none) (ha:PA X [e] ta) (hs:starEach [e] X.env=[(false,eval e X.env)]:=by rfl):
    PI X (.Tuple elts kk tpos) (.Call (.Name "enumerate" p) [e] [] pos) (iEnumT X.K ta):=by
  intro pins s σ H R I h
  refine Call_ (ld_blt I hg hm boot_enumerate (PyProof.Rows.callWith_type1 (thn (ha pos pins s σ H _ I h) fun us s1 ⟨vs,H1,I1,r1,q1⟩=> ?_) hs rfl))
  obtain⟨a,xs,ex,hq,q⟩:=q1
  subst ex
  cases r1 with
  | cons r rr=>
    cases rr
    cases r
    obtain⟨its,rv,p',hz⟩:=I1.tuple hq
    refine call_enumT (show s1.heap.IsTuple a its.toArray from p') fun h' he hit hsz hk=>wpAny_pyIter_enum he ?_
    have I2:Inv X pins σ H1 {s1 with heap:=h'}:=I1.kept (t':=s1.toks) hk
    refine⟨s1.heap.objs.size+1,[s1.heap.objs.size+1,s1.heap.objs.size],_,_,H1,rfl,I2,turn_enumT a (s1.heap.objs.size+1) s1.heap.objs.size,⟨⟨.none,he⟩,hit,Nat.succ_ne_self _⟩,fun b hb=> ?_,q⟩
    have e':b=s1.heap.objs.size+1∨b=s1.heap.objs.size:=by simpa using hb
    have hle:s1.heap.objs.size≤b:=by
      rcases e' with z | z
      · rw[z];exact Nat.le_add_right _ _
      · rw[z];exact Nat.le_refl _
    exact I1.fpOk hle (I1.hok.fresh hle)
theorem for_enumT {K:PySem.W.Frag} {a:Addr} {xs:List V} {g:TG} {tb:TS} {D:Ends} {σ:L2.St} {H:Hp} (Pv:Nat->L2.St->Hp->Prop) (h0:Pv 0 σ H) (hl:∀i σ H,i≤xs.length->Pv i σ H->SqT K H a xs)
    (hs:∀i x T σ H,xs[i]? =some x->Pv i σ H->H T=none->g (.ref T) σ (upd H T (.tup [.int (i:Nat),x])) fun σ2 H2=>tb {D with nx:=Pv (i+1),ct:=Pv (i+1),bk:=D.nx} σ2 H2) (hd:∀σ H,Pv xs.length σ H->D.nx σ H):
    ∃W:Nat->Nat->L2.St->Hp->Prop,(∃m,W 0 m σ H)/\∀i m σ H,W i m σ H->
      ((IteT K a).stop i H/\D.nx σ H)∨((IteT K a).go i H/\∃N:L2.St->Hp->Prop,(∀σ' H',N σ' H'->∃m',m' < m/\W (i+1) m' σ' H')/\∀x H',(IteT K a).yld i H x H'->g x σ H' fun σ2 H2=>tb {D with nx:=N,ct:=N,bk:=D.nx} σ2 H2):=by
  refine⟨fun i m σ H=>m=xs.length - i/\i≤xs.length/\Pv i σ H,⟨xs.length,by simp,Nat.zero_le _,h0⟩,?_⟩
  rintro i m σ H ⟨rfl,hi,p⟩
  have q:=hl i σ H hi p
  by_cases hlt:i < xs.length
  · refine .inr ⟨⟨xs,xs[i],q,by simp[hlt]⟩,Pv (i+1),fun σ' H' p'=>⟨xs.length - (i+1),by omega,rfl,hlt,p'⟩,fun x H' y=> ?_⟩
    obtain⟨T,z,rfl,hT,rfl,y⟩:=y
    exact hs i z T σ H (y xs q) p hT
  · have e:i=xs.length:=by omega
    subst e
    exact .inl ⟨⟨xs,q,rfl⟩,hd σ H p⟩
end TyR
end
section
namespace TyR
open PySem PySem.Spec PyProof.Rows L2
section
variable {prog:Program} {w:World} {A:Around} {E:Value->Shared->Prop} {s:Shared}
theorem zipT_next {z TI TO i1 i2 l1 l2:Addr} {k1 k2:Nat} {xs ys:Array Value} {x y a b:Value} {Q:Value->Shared->Prop} (D:ZipApart z TI TO i1 i2 l1 l2)
    (gz:IsZip s.heap z TI TO .none) (gI:IsPair s.heap TI (.ref i1) (.ref i2)) (gO:IsPair s.heap TO a b)
    (w1:s.heap.IsTupleIter i1 l1 k1) (w2:s.heap.IsTupleIter i2 l2 k2) (t1:s.heap.IsTuple l1 xs) (t2:s.heap.IsTuple l2 ys) (hx:xs[k1]? =some x) (hy:ys[k2]? =some y)
    (hQ:∀h',IsZip h' z TI TO (rawInt s.heap.objs.size)->IsPair h' TO x y->h'.IsTupleIter i1 l1 (k1+1)->h'.IsTupleIter i2 l2 (k2+1)->IsPair h' s.heap.objs.size x y->h'.objs.size=s.heap.objs.size+1->
      (∀c o,c≠z->c≠TO->c≠i1->c≠i2->s.heap.get? c=some o->h'.get? c=some o)->Q (.ref s.heap.objs.size) {s with heap:=h'}):
    wpAny (model prog w) A (Builtin.«zip.__next__» ⟨[.ref z],[]⟩) (fun fin s'=>∃v,fin= .done (.ret v)/\Q v s') E s:=by
  show wpAny _ _ (field (.ref z) 2 >>= _) _ _ _
  refine wpAny_bind (wpAny_field gz rfl (x:= .bool false) rfl ?_)
  show wpAny _ _ (field (.ref z) 3 >>= _) _ _ _
  refine wpAny_bind (wpAny_field gz rfl (x:= .ref TI) rfl ?_)
  refine wpAny_bind (wpAny_seqItems gI rfl ?_)
  show wpAny _ _ (Builtin.SmallTypes.ownedTupleIsFree (.ref z) >>= _) _ _ _
  refine wpAny_bind ?_
  unfold Builtin.SmallTypes.ownedTupleIsFree
  refine wpAny_bind (wpAny_field gz rfl (x:= .none) rfl (wpAny_pure ?_))
  simp only[if_true]
  refine wpAny_bind (wpAny_rule ?_)
  refine wpAny_bind (wpAny_field gz rfl (x:= .ref TO) rfl ?_)
  refine wpAny_bind (wpAny_setField_rec gz (by simp) fun h₁ gz₁ e₁=> ?_)
  replace gz₁:IsZip h₁ z TI TO .ellipsis:=gz₁
  refine wpAny_bind ?_
  simp only[List.zipIdx_cons,List.zipIdx_nil,List.forIn_cons,List.forIn_nil]
  refine wpAny_bind (wpAny_bind (wpAny_onRaise ?_))
  show wpAny _ _ (Builtin.SmallTypes.nextOf (.ref i1) >>= _) _ _ _
  refine wpAny_bind (tup_next (w1.extBut e₁.extBut D.i1z) (t1.extBut e₁.extBut D.l1z) hx fun h₂ w₂ e₂=>wpAny_pure ?_)
  have gO₂:IsPair h₂ TO a b:=e₂.extBut _ _ D.TOi1 (e₁.extBut _ _ D.TOz gO)
  refine wpAny_bind (wpAny_seqItems gO₂ rfl ?_)
  refine wpAny_bind (wpAny_updateSeq_pair gO₂ fun h₃ gO₃ e₃=> ?_)
  replace gO₃:IsPair h₃ TO x b:=gO₃
  refine wpAny_bind (wpAny_letGo (wpAny_pure ?_))
  refine wpAny_bind (wpAny_bind (wpAny_onRaise ?_))
  show wpAny _ _ (Builtin.SmallTypes.nextOf (.ref i2) >>= _) _ _ _
  refine wpAny_bind (tup_next (((w2.extBut e₁.extBut D.i2z).extBut e₂.extBut D.i12.symm).extBut e₃.extBut D.TOi2.symm) (((t2.extBut e₁.extBut D.l2z).extBut e₂.extBut D.l2i1).extBut e₃.extBut D.l2TO) hy fun h₄ w₄ e₄=>wpAny_pure ?_)
  have gO₄:IsPair h₄ TO x b:=e₄.extBut _ _ D.TOi2 gO₃
  refine wpAny_bind (wpAny_seqItems gO₄ rfl ?_)
  refine wpAny_bind (wpAny_updateSeq_pair gO₄ fun h₅ gO₅ e₅=> ?_)
  replace gO₅:IsPair h₅ TO x y:=gO₅
  refine wpAny_bind (wpAny_letGo (wpAny_pure (wpAny_pure ?_)))
  refine wpAny_bind (wpAny_seqItems gO₅ rfl ?_)
  refine wpAny_bind (wpAny_newTuple ?_)
  have hsz:h₅.objs.size=s.heap.objs.size:=by rw[e₅.1,e₄.1,e₃.1,e₂.1,e₁.1]
  have gz₅:IsZip h₅ z TI TO .ellipsis:=e₅.extBut _ _ D.TOz.symm (e₄.extBut _ _ D.i2z.symm (e₃.extBut _ _ D.TOz.symm (e₂.extBut _ _ D.i1z.symm gz₁)))
  have k₅:∀c o,c≠z->c≠TO->c≠i1->c≠i2->s.heap.get? c=some o->h₅.get? c=some o:=fun c o c1 c2 c3 c4 q=>e₅.extBut _ _ c2 (e₄.extBut _ _ c4 (e₃.extBut _ _ c2 (e₂.extBut _ _ c3 (e₁.extBut _ _ c1 q))))
  have v₁:h₅.IsTupleIter i1 l1 (k1+1):=((w₂.extBut e₃.extBut D.TOi1.symm).extBut e₄.extBut D.i12).extBut e₅.extBut D.TOi1.symm
  have v₂:h₅.IsTupleIter i2 l2 (k2+1):=w₄.extBut e₅.extBut D.TOi2.symm
  have hzl:z < h₅.objs.size:=Heap.lt_size gz₅
  show wpAny _ _ (Builtin.SmallTypes.ownedTupleHandOut (.ref z) (.ref h₅.objs.size) >>= _) _ _ _
  refine wpAny_bind ?_
  unfold Builtin.SmallTypes.ownedTupleHandOut
  have gz₆:IsZip (h₅.push {cls:= .type "tuple",data:= .seq #[x,y]}) z TI TO .ellipsis:=Heap.get?_push_of_some _ gz₅
  refine wpAny_bind (wpAny_setField_rec gz₆ (by simp) fun h₇ gz₇ e₇=> ?_)
  replace gz₇:IsZip h₇ z TI TO (rawInt h₅.objs.size):=gz₇
  refine wpAny_setField_rec gz₇ (by simp) fun h₈ gz₈ e₈=> ?_
  replace gz₈:IsZip h₈ z TI TO (rawInt h₅.objs.size):=gz₈
  have up:∀c o,c≠z->h₅.get? c=some o->h₈.get? c=some o:=fun c o c1 q=>e₈.extBut _ _ c1 (e₇.extBut _ _ c1 (Heap.get?_push_of_some _ q))
  have gT:IsPair h₈ h₅.objs.size x y:=e₈.extBut _ _ (Nat.ne_of_gt hzl) (e₇.extBut _ _ (Nat.ne_of_gt hzl) (Heap.get?_push_size _ rfl))
  have z8:h₈.objs.size=h₅.objs.size+1:=by rw[e₈.1,e₇.1,Heap.size_push]
  rw[hsz]at gz₈ gT z8
  refine wpAny_pure ⟨_,rfl,?_⟩
  show Q (.ref h₅.objs.size) _
  rw[hsz]
  exact hQ h₈ gz₈ (up _ _ D.TOz gO₅) (v₁.at fun o q=>up _ o D.i1z q) (v₂.at fun o q=>up _ o D.i2z q) gT z8 fun c o c1 c2 c3 c4 q=>up c o c1 (k₅ c o c1 c2 c3 c4 q)
theorem zipT_end {z TI TO i1 i2 l1 l2:Addr} {k1 k2:Nat} {xs ys:Array Value} {a b:Value} {Q:PySem.Fin->Shared->Prop} (hh:A.handled=none) (D:ZipApart z TI TO i1 i2 l1 l2)
    (gz:IsZip s.heap z TI TO .none) (gI:IsPair s.heap TI (.ref i1) (.ref i2)) (gO:IsPair s.heap TO a b)
    (w1:s.heap.IsTupleIter i1 l1 k1) (w2:s.heap.IsTupleIter i2 l2 k2) (t1:s.heap.IsTuple l1 xs) (t2:s.heap.IsTuple l2 ys) (hend:xs[k1]? =none∨ys[k2]? =none)
    (hE:∀h' e,(∀c o,c≠z->c≠TO->c≠i1->c≠i2->s.heap.get? c=some o->h'.get? c=some o)->(∃o,h'.get? e=some o/\o.cls= .type "StopIteration")->E (.ref e) {s with heap:=h'}):
    wpAny (model prog w) A (Builtin.«zip.__next__» ⟨[.ref z],[]⟩) Q E s:=by
  show wpAny _ _ (field (.ref z) 2 >>= _) _ _ _
  refine wpAny_bind (wpAny_field gz rfl (x:= .bool false) rfl ?_)
  show wpAny _ _ (field (.ref z) 3 >>= _) _ _ _
  refine wpAny_bind (wpAny_field gz rfl (x:= .ref TI) rfl ?_)
  refine wpAny_bind (wpAny_seqItems gI rfl ?_)
  show wpAny _ _ (Builtin.SmallTypes.ownedTupleIsFree (.ref z) >>= _) _ _ _
  refine wpAny_bind ?_
  unfold Builtin.SmallTypes.ownedTupleIsFree
  refine wpAny_bind (wpAny_field gz rfl (x:= .none) rfl (wpAny_pure ?_))
  simp only[if_true]
  refine wpAny_bind (wpAny_rule ?_)
  refine wpAny_bind (wpAny_field gz rfl (x:= .ref TO) rfl ?_)
  refine wpAny_bind (wpAny_setField_rec gz (by simp) fun h₁ gz₁ e₁=> ?_)
  replace gz₁:IsZip h₁ z TI TO .ellipsis:=gz₁
  refine wpAny_bind ?_
  simp only[List.zipIdx_cons,List.zipIdx_nil,List.forIn_cons,List.forIn_nil]
  refine wpAny_bind (wpAny_bind (wpAny_onRaise ?_))
  show wpAny _ _ (Builtin.SmallTypes.nextOf (.ref i1) >>= _) _ _ _
  cases hx:xs[k1]? with
  | none=>
    refine wpAny_bind (tup_end hh (w1.extBut e₁.extBut D.i1z) (t1.extBut e₁.extBut D.l1z) hx fun h₂ e e₂ he=> ?_)
    obtain⟨oe,hoe,hce⟩:=he
    have gz₂:IsZip h₂ z TI TO .ellipsis:=e₂ _ _ D.i1z.symm gz₁
    have nz:e≠z:=fun q=>by subst q;rw[gz₂]at hoe;cases hoe;simp at hce
    refine wpAny_setField_rec gz₂ (by simp) fun h₃ _ e₃=>hE h₃ e (fun c o c1 _ c3 _ q=>e₃.extBut _ _ c1 (e₂ _ _ c3 (e₁.extBut _ _ c1 q))) ⟨oe,e₃.extBut _ _ nz hoe,hce⟩
  | some x=>
    have hy:ys[k2]? =none:=by rcases hend with q | q;rw[hx]at q;cases q;exact q
    refine wpAny_bind (tup_next (w1.extBut e₁.extBut D.i1z) (t1.extBut e₁.extBut D.l1z) hx fun h₂ w₂ e₂=>wpAny_pure ?_)
    have gO₂:IsPair h₂ TO a b:=e₂.extBut _ _ D.TOi1 (e₁.extBut _ _ D.TOz gO)
    refine wpAny_bind (wpAny_seqItems gO₂ rfl ?_)
    refine wpAny_bind (wpAny_updateSeq_pair gO₂ fun h₃ gO₃ e₃=> ?_)
    refine wpAny_bind (wpAny_letGo (wpAny_pure ?_))
    refine wpAny_bind (wpAny_bind (wpAny_onRaise ?_))
    show wpAny _ _ (Builtin.SmallTypes.nextOf (.ref i2) >>= _) _ _ _
    refine wpAny_bind (tup_end hh (((w2.extBut e₁.extBut D.i2z).extBut e₂.extBut D.i12.symm).extBut e₃.extBut D.TOi2.symm) (((t2.extBut e₁.extBut D.l2z).extBut e₂.extBut D.l2i1).extBut e₃.extBut D.l2TO) hy fun h₄ e e₄ he=> ?_)
    obtain⟨oe,hoe,hce⟩:=he
    have gz₄:IsZip h₄ z TI TO .ellipsis:=e₄ _ _ D.i2z.symm (e₃.extBut _ _ D.TOz.symm (e₂.extBut _ _ D.i1z.symm gz₁))
    have nz:e≠z:=fun q=>by subst q;rw[gz₄]at hoe;cases hoe;simp at hce
    refine wpAny_setField_rec gz₄ (by simp) fun h₅ _ e₅=>hE h₅ e (fun c o c1 c2 c3 c4 q=>e₅.extBut _ _ c1 (e₄ _ _ c4 (e₃.extBut _ _ c2 (e₂.extBut _ _ c3 (e₁.extBut _ _ c1 q))))) ⟨oe,e₅.extBut _ _ nz hoe,hce⟩
theorem zipT_pyNext {z TI TO i1 i2 l1 l2:Addr} {k1 k2:Nat} {xs ys:Array Value} {x y a b:Value} {Q:Option Value->Shared->Prop} (D:ZipApart z TI TO i1 i2 l1 l2)
    (gz:IsZip s.heap z TI TO .none) (gI:IsPair s.heap TI (.ref i1) (.ref i2)) (gO:IsPair s.heap TO a b)
    (w1:s.heap.IsTupleIter i1 l1 k1) (w2:s.heap.IsTupleIter i2 l2 k2) (t1:s.heap.IsTuple l1 xs) (t2:s.heap.IsTuple l2 ys) (hx:xs[k1]? =some x) (hy:ys[k2]? =some y)
    (hQ:∀h',IsZip h' z TI TO (rawInt s.heap.objs.size)->IsPair h' TO x y->h'.IsTupleIter i1 l1 (k1+1)->h'.IsTupleIter i2 l2 (k2+1)->IsPair h' s.heap.objs.size x y->h'.objs.size=s.heap.objs.size+1->
      (∀c o,c≠z->c≠TO->c≠i1->c≠i2->s.heap.get? c=some o->h'.get? c=some o)->Q (some (.ref s.heap.objs.size)) {s with heap:=h'}):
    wpAny (model prog w) A (pyNext (.ref z)) Q E s:=by
  have hT:s.TypeIs (.ref z) "zip":=⟨_,gz,rfl⟩
  unfold pyNext
  exact wpAny_bind (wpAny_attempt (wpAny_callSpecial?_slot (name:=Str.ofString "__next__") hT PySem.F.slot_zip_next (wpAny_call_entry PySem.F.slot_zip_next hT PySem.F.entry_zip_next
      (zipT_next D gz gI gO w1 w2 t1 t2 hx hy fun h' a1 a2 a3 a4 a5 a6 a7=>wpAny_pure (hQ h' a1 a2 a3 a4 a5 a6 a7)) (PySem.F.args_zip_next_1 _))))
theorem zipT_pyEnd {z TI TO i1 i2 l1 l2:Addr} {k1 k2:Nat} {xs ys:Array Value} {a b:Value} {Q:Option Value->Shared->Prop} (hh:A.handled=none) (D:ZipApart z TI TO i1 i2 l1 l2)
    (gz:IsZip s.heap z TI TO .none) (gI:IsPair s.heap TI (.ref i1) (.ref i2)) (gO:IsPair s.heap TO a b)
    (w1:s.heap.IsTupleIter i1 l1 k1) (w2:s.heap.IsTupleIter i2 l2 k2) (t1:s.heap.IsTuple l1 xs) (t2:s.heap.IsTuple l2 ys) (hend:xs[k1]? =none∨ys[k2]? =none)
    (hQ:∀h',(∀c o,c≠z->c≠TO->c≠i1->c≠i2->s.heap.get? c=some o->h'.get? c=some o)->Q none {s with heap:=h'}):wpAny (model prog w) A (pyNext (.ref z)) Q E s:=by
  have hT:s.TypeIs (.ref z) "zip":=⟨_,gz,rfl⟩
  unfold pyNext
  refine wpAny_bind (wpAny_attempt (wpAny_callSpecial?_slot (name:=Str.ofString "__next__") hT PySem.F.slot_zip_next
    (wpAny_call_entry PySem.F.slot_zip_next hT PySem.F.entry_zip_next (zipT_end hh D gz gI gO w1 w2 t1 t2 hend fun h' e hk he=> ?_) (PySem.F.args_zip_next_1 _))))
  obtain⟨o,ho,hc⟩:=he
  refine wpAny_bind (wpAny_isInstance (T:="StopIteration") (b:=true) ⟨o,ho,hc⟩ isSubtype_stop ?_)
  exact wpAny_pure (hQ _ hk)
end
abbrev zH1 (h:Heap) (l1:Addr):Heap:=h.push {cls:= .type "tuple_iterator",data:= .fields #[.ref l1,.int 0 0]}
abbrev zH2 (h:Heap) (l1 l2:Addr):Heap:=(zH1 h l1).push {cls:= .type "tuple_iterator",data:= .fields #[.ref l2,.int 0 0]}
abbrev zH3 (h:Heap) (l1 l2:Addr):Heap:=(zH2 h l1 l2).push {cls:= .type "tuple",data:= .seq #[.ref h.objs.size,.ref (zH1 h l1).objs.size]}
abbrev zH4 (h:Heap) (l1 l2:Addr):Heap:=(zH3 h l1 l2).push {cls:= .type "tuple",data:= .seq #[.none,.none]}
abbrev zH5 (h:Heap) (l1 l2:Addr):Heap:=(zH4 h l1 l2).push {cls:= .type "zip",data:= .fields #[.none,.bool false,.bool false,.ref (zH2 h l1 l2).objs.size,.ref (zH3 h l1 l2).objs.size]}
theorem zipT_new (l1 l2:Addr) (xs ys:Array Value):
    Meets (Builtin.«zip.__new__» ⟨[.type "zip",.ref l1,.ref l2],[]⟩) (fun _ R s=>s.heap.IsTuple l1 xs/\s.heap.IsTuple l2 ys/\R (.ok (.ret (.ref (zH4 s.heap l1 l2).objs.size))) {s with heap:=zH5 s.heap l1 l2}):=
  .of_wp fun prog w A R s h=>by
    obtain⟨hp,g,d,tk,os⟩:=s;obtain⟨hl1,hl2,h⟩:=h
    have hsub:=sub_zip
    have hL1:Heap.IsTuple (Shared.heap ⟨hp,g,d,tk,os⟩) l1 xs:=hl1
    have hL2:Heap.IsTuple (Shared.heap ⟨hp.push {cls:= .type "tuple_iterator",data:= .fields #[.ref l1,.int 0 0]},g,d,tk,os⟩) l2 ys:=Heap.IsTuple.push hl2 _
    wp_walk using wpAny_pyIter_tuple hL1,wpAny_pyIter_tuple hL2
    exact⟨_,rfl,h⟩
section
variable {prog:Program} {w:World} {A:Around} {E:Value->Shared->Prop} {s:Shared}
theorem call_zipT {l1 l2:Addr} {xs ys:Array Value} {Q:Value->Shared->Prop} (hl1:s.heap.IsTuple l1 xs) (hl2:s.heap.IsTuple l2 ys)
    (h:∀h',IsZip h' (s.heap.objs.size+4) (s.heap.objs.size+2) (s.heap.objs.size+3) .none->IsPair h' (s.heap.objs.size+2) (.ref s.heap.objs.size) (.ref (s.heap.objs.size+1))->
      IsPair h' (s.heap.objs.size+3) .none .none->h'.IsTupleIter s.heap.objs.size l1 0->h'.IsTupleIter (s.heap.objs.size+1) l2 0->h'.objs.size=s.heap.objs.size+5->
      (∀c o,s.heap.get? c=some o->h'.get? c=some o)->Q (.ref (s.heap.objs.size+4)) {s with heap:=h'}):
    wpAny (model prog w) A (call (.type "zip") [.ref l1,.ref l2]) Q E s:=by
  refine callType_new PySem.F.called_zip (by decide) (PySem.F.typeCall_zip_2 _ _) (PySem.F.newCall_zip_2 _ _) (fun obj=>PySem.F.args_object_init_3 obj _ _) PySem.F.entry_zip_new (zipT_new l1 l2 xs ys) ⟨hl1,hl2,?_⟩
  have z1:(zH1 s.heap l1).objs.size=s.heap.objs.size+1:=Heap.size_push ..
  have z2:(zH2 s.heap l1 l2).objs.size=s.heap.objs.size+2:=by rw[Heap.size_push,z1]
  have z3:(zH3 s.heap l1 l2).objs.size=s.heap.objs.size+3:=by rw[Heap.size_push,z2]
  have z4:(zH4 s.heap l1 l2).objs.size=s.heap.objs.size+4:=by rw[Heap.size_push,z3]
  have z5:(zH5 s.heap l1 l2).objs.size=s.heap.objs.size+5:=by rw[Heap.size_push,z4]
  have g5:(zH5 s.heap l1 l2).get? (zH4 s.heap l1 l2).objs.size=some _:=Heap.get?_push_size _ rfl
  have g4:(zH5 s.heap l1 l2).get? (zH3 s.heap l1 l2).objs.size=some _:=Heap.get?_push_of_some _ (Heap.get?_push_size _ rfl)
  have g3:(zH5 s.heap l1 l2).get? (zH2 s.heap l1 l2).objs.size=some _:=Heap.get?_push_of_some _ (Heap.get?_push_of_some _ (Heap.get?_push_size _ rfl))
  have g2:(zH5 s.heap l1 l2).get? (zH1 s.heap l1).objs.size=some _:=Heap.get?_push_of_some _ (Heap.get?_push_of_some _ (Heap.get?_push_of_some _ (Heap.get?_push_size _ rfl)))
  have g1:(zH5 s.heap l1 l2).get? s.heap.objs.size=some _:=Heap.get?_push_of_some _ (Heap.get?_push_of_some _ (Heap.get?_push_of_some _ (Heap.get?_push_of_some _ (Heap.get?_push_size _ rfl))))
  show _/\_
  rw[z2,z3,z4]at g5
  rw[z1,z2]at g3
  rw[z3]at g4
  rw[z1]at g2
  rw[z4]
  refine⟨⟨_,g5,rfl⟩,h _ g5 g3 g4 ⟨_,g1,rfl,rfl⟩ ⟨_,g2,rfl,rfl⟩ z5 fun c o q=> ?_⟩
  exact Heap.get?_push_of_some _ (Heap.get?_push_of_some _ (Heap.get?_push_of_some _ (Heap.get?_push_of_some _ (Heap.get?_push_of_some _ q))))
end
end TyR
end
section
namespace TyR
open PySem PySem.Spec PyProof.Rows L2
def ItzT (K:PySem.W.Frag) (a b:Addr):It:=
  ⟨fun i H=>∃(xs ys:List V) (x y:V),SqT K H a xs/\SqT K H b ys/\xs[i]? =some x/\ys[i]? =some y,
    fun i H v H'=>∃T x y,v= .ref T/\H T=none/\H'=upd H T (.tup [x,y])/\(∀xs,SqT K H a xs->xs[i]? =some x)/\∀ys,SqT K H b ys->ys[i]? =some y,
    fun i H=>∃xs ys:List V,SqT K H a xs/\SqT K H b ys/\(xs.length≤i∨ys.length≤i)⟩
theorem turn_zipT {P:Program} {w:World} {K:PySem.W.Frag} {elts:List Expr} {kk:Nat} {tpos:Pos} {a b z TI TO i1 i2:Addr} (D:ZipApart z TI TO i1 i2 a b):
    Turn P w K (.Tuple elts kk tpos) (ItzT K a b) [z,TI,TO,i1,i2] z (fun i h=>IsZip h z TI TO .none/\IsPair h TI (.ref i1) (.ref i2)/\(∃x y,IsPair h TO x y)/\h.IsTupleIter i1 a i/\h.IsTupleIter i2 b i) where
  mem:=by simp
  obj:=fun i h st c hc=>by
    obtain⟨hz,hTI,⟨x,y,hTO⟩,⟨o1,e1,_,d1⟩,⟨o2,e2,_,d2⟩⟩:=st
    have e':c=z∨c=TI∨c=TO∨c=i1∨c=i2:=by simpa using hc
    rcases e' with q | q | q | q | q
    · rw[q];exact⟨_,hz,fun v q=>nomatch q⟩
    · rw[q];exact⟨_,hTI,fun v q=>nomatch q⟩
    · rw[q];exact⟨_,hTO,fun v q=>nomatch q⟩
    · rw[q];exact⟨o1,e1,fun v q=>by rw[d1]at q;cases q⟩
    · rw[q];exact⟨o2,e2,fun v q=>by rw[d2]at q;cases q⟩
  keep:=fun i h h' st k=>by
    obtain⟨hz,hTI,⟨x,y,hTO⟩,h1,h2⟩:=st
    exact⟨k z (by simp) _ hz,k TI (by simp) _ hTI,⟨x,y,k TO (by simp) _ hTO⟩,h1.at fun o q=>k i1 (by simp) o q,h2.at fun o q=>k i2 (by simp) o q⟩
  item:=by
    intro X hP hw hK hc i pins s σ H E I hf st hg
    subst hP hw hK
    obtain⟨hz,hTI,⟨x0,y0,hTO⟩,h1,h2⟩:=st
    obtain⟨xs,ys,x,y,hqx,hqy,hx,hy⟩:=hg
    obtain⟨its,rv,p,_⟩:=I.tuple hqx
    obtain⟨its2,rv2,p2,_⟩:=I.tuple hqy
    have pt:s.heap.IsTuple a its.toArray:=p
    have pt2:s.heap.IsTuple b its2.toArray:=p2
    obtain⟨u,hu,ru⟩:=rv.get hx
    obtain⟨u2,hu2,ru2⟩:=rv2.get hy
    have hzl:z < s.heap.objs.size:=Heap.lt_size hz
    refine zipT_pyNext D hz hTI hTO h1 h2 pt pt2 (x:=u) (y:=u2) (by simpa using hu) (by simpa using hu2) fun h' z' TO' h1' h2' hT hsz hk=> ?_
    refine⟨_,rfl,wpAny_letOwnedTupleGo_zip (s:={s with heap:=h'}) z' fun h'' z'' sb=> ?_⟩
    have hT2:h''.get? s.heap.objs.size=some {cls:= .type "tuple",data:= .seq #[u,u2]}:=(sb.2 _ (Nat.ne_of_gt hzl)).trans hT
    have new:ObjOk X.prog X.w (upd H s.heap.objs.size (.tup [x,y])) h'' s.heap.objs.size (.tup [x,y]):=
      ⟨by show 2≤sizeLine;decide,[u,u2],.cons ru (.cons ru2 .nil),⟨_,hT2,rfl,_,rfl⟩⟩
    have I1:Inv X pins σ (upd H s.heap.objs.size (.tup [x,y])) {s with heap:=h''}:=
      I.turnedNew (t':=s.toks) (ch:=[z,TI,TO,i1,i2]) (fun c o hb q=>(sb.2 c (fun q'=>hb (by simp[q']))).trans (hk c o (fun q'=>hb (by simp[q'])) (fun q'=>hb (by simp[q'])) (fun q'=>hb (by simp[q'])) (fun q'=>hb (by simp[q'])) q)) hf (Nat.le_refl _) new
    refine⟨.ref s.heap.objs.size,_,I1,rfl,⟨_,x,y,rfl,I.hok.fresh (Nat.le_refl _),rfl,fun l hl=>by rw[I.tuple_inj hl hqx];exact hx,fun l hl=>by rw[I.tuple_inj hl hqy];exact hy⟩,⟨z'',?_,⟨u,u2,?_⟩,?_,?_⟩,fun c hcm=> ?_⟩
    · exact(sb.2 _ D.TIz).trans (hk _ _ D.TIz D.TITO D.TIi1 D.TIi2 hTI)
    · exact(sb.2 _ D.TOz).trans TO'
    · exact h1'.at fun o q=>(sb.2 _ D.i1z).trans q
    · exact h2'.at fun o q=>(sb.2 _ D.i2z).trans q
    · have hlt:c < s.heap.objs.size:=by
        have e':c=z∨c=TI∨c=TO∨c=i1∨c=i2:=by simpa using hcm
        rcases e' with q | q | q | q | q
        · rw[q];exact hzl
        · rw[q];exact Heap.lt_size hTI
        · rw[q];exact Heap.lt_size hTO
        · rw[q];obtain⟨_,e1,_⟩:=h1;exact Heap.lt_size e1
        · rw[q];obtain⟨_,e2,_⟩:=h2;exact Heap.lt_size e2
      rw[upd_ne (Nat.ne_of_lt hlt)]
      exact(hf c hcm).1
  done:=by
    intro X hP hw hK hc i pins s σ H E I hf st hg
    subst hP hw hK
    obtain⟨hz,hTI,⟨x0,y0,hTO⟩,h1,h2⟩:=st
    obtain⟨xs,ys,hqx,hqy,hend⟩:=hg
    obtain⟨its,rv,p,_⟩:=I.tuple hqx
    obtain⟨its2,rv2,p2,_⟩:=I.tuple hqy
    have pt:s.heap.IsTuple a its.toArray:=p
    have pt2:s.heap.IsTuple b its2.toArray:=p2
    have l1:=rv.length
    have l2:=rv2.length
    have he:its.toArray[i]? =none∨its2.toArray[i]? =none:=by
      rcases hend with q | q
      · exact .inl (by simp;omega)
      · exact .inr (by simp;omega)
    exact zipT_pyEnd (I.ok.hd hc) D hz hTI hTO h1 h2 pt pt2 he fun h' hk=>⟨rfl,I.turnedL (t':=s.toks) (ch:=[z,TI,TO,i1,i2]) (fun c o hb q=>
      hk c o (fun q'=>hb (by simp[q'])) (fun q'=>hb (by simp[q'])) (fun q'=>hb (by simp[q'])) (fun q'=>hb (by simp[q'])) q) hf⟩
  self:=fun A i s Q E st h=>wpAny_pyIter_zip st.1 h
def iZipT (K:PySem.W.Frag) (ta:TA):TI:=fun σ H R=>ta σ H fun vs H1=>∃a b xs ys,vs=[.ref a,.ref b]/\SqT K H1 a xs/\SqT K H1 b ys/\R (ItzT K a b) H1
theorem pi_zipT {X:Cx} {e e2:Expr} {ta:TA} {p pos tpos:Pos} {elts:List Expr} {kk:Nat} (hg:Gl X "zip") (hm:X.mg "zip"=none) (ha:PA X [e,e2] ta)
    (hs:starEach [e,e2] X.env=(false,eval e X.env)::starEach [e2] X.env:=by rfl) (hpl:(backTo pos (starEach [e2] X.env)).any (·.1)=false:=by rfl):
    PI X (.Tuple elts kk tpos) (.Call (.Name "zip" p) [e,e2] [] pos) (iZipT X.K ta):=by
  intro pins s σ H R I h
  refine Call_ (ld_blt I hg hm boot_zip5 (PyProof.Rows.callWith_type1 (thn (ha pos pins s σ H _ I h) fun us s1 ⟨vs,H1,I1,r1,q1⟩=> ?_) hs hpl))
  obtain⟨a,b,xs,ys,ex,hqx,hqy,q⟩:=q1
  subst ex
  cases r1 with
  | cons r rr=>
    cases rr with
    | cons r' rr=>
      cases rr
      cases r
      cases r'
      obtain⟨its,rv,p1,_⟩:=I1.tuple hqx
      obtain⟨its2,rv2,p2,_⟩:=I1.tuple hqy
      have la:a < s1.heap.objs.size:=p1.lt
      have lb:b < s1.heap.objs.size:=p2.lt
      refine call_zipT (show s1.heap.IsTuple a its.toArray from p1) (show s1.heap.IsTuple b its2.toArray from p2) fun h' hz hTI hTO h1 h2 hsz hk=>wpAny_pyIter_zip hz ?_
      have I2:Inv X pins σ H1 {s1 with heap:=h'}:=I1.kept (t':=s1.toks) hk
      refine⟨s1.heap.objs.size+4,[s1.heap.objs.size+4,s1.heap.objs.size+2,s1.heap.objs.size+3,s1.heap.objs.size,s1.heap.objs.size+1],_,_,H1,rfl,I2,turn_zipT (PySem.W.ktu_apart s1.heap.objs.size a b la lb),⟨hz,hTI,⟨_,_,hTO⟩,h1,h2⟩,fun c hcm=> ?_,q⟩
      have e':c=s1.heap.objs.size+4∨c=s1.heap.objs.size+2∨c=s1.heap.objs.size+3∨c=s1.heap.objs.size∨c=s1.heap.objs.size+1:=by simpa using hcm
      have hle:s1.heap.objs.size≤c:=by
        rcases e' with z | z | z | z | z
        · rw[z];exact Nat.le_add_right _ _
        · rw[z];exact Nat.le_add_right _ _
        · rw[z];exact Nat.le_add_right _ _
        · rw[z];exact Nat.le_refl _
        · rw[z];exact Nat.le_add_right _ _
      exact I1.fpOk hle (I1.hok.fresh hle)
theorem for_zipT {K:PySem.W.Frag} {a b:Addr} {xs ys:List V} {g:TG} {tb:TS} {D:Ends} {σ:L2.St} {H:Hp} (Pv:Nat->L2.St->Hp->Prop) (h0:Pv 0 σ H) (hl:∀i σ H,Pv i σ H->SqT K H a xs/\SqT K H b ys)
    (hs:∀i x y T σ H,xs[i]? =some x->ys[i]? =some y->Pv i σ H->H T=none->g (.ref T) σ (upd H T (.tup [x,y])) fun σ2 H2=>tb {D with nx:=Pv (i+1),ct:=Pv (i+1),bk:=D.nx} σ2 H2) (hd:∀σ H,Pv (min xs.length ys.length) σ H->D.nx σ H):
    ∃W:Nat->Nat->L2.St->Hp->Prop,(∃m,W 0 m σ H)/\∀i m σ H,W i m σ H->
      ((ItzT K a b).stop i H/\D.nx σ H)∨((ItzT K a b).go i H/\∃N:L2.St->Hp->Prop,(∀σ' H',N σ' H'->∃m',m' < m/\W (i+1) m' σ' H')/\∀x H',(ItzT K a b).yld i H x H'->g x σ H' fun σ2 H2=>tb {D with nx:=N,ct:=N,bk:=D.nx} σ2 H2):=by
  refine⟨fun i m σ H=>m=min xs.length ys.length - i/\i≤min xs.length ys.length/\Pv i σ H,⟨min xs.length ys.length,by simp,Nat.zero_le _,h0⟩,?_⟩
  rintro i m σ H ⟨rfl,hi,p⟩
  obtain⟨q1,q2⟩:=hl i σ H p
  by_cases hlt:i < min xs.length ys.length
  · have l1:i < xs.length:=by omega
    have l2:i < ys.length:=by omega
    refine .inr ⟨⟨xs,ys,xs[i],ys[i],q1,q2,by simp[l1],by simp[l2]⟩,Pv (i+1),fun σ' H' p'=>⟨min xs.length ys.length - (i+1),by omega,rfl,hlt,p'⟩,fun x H' y=> ?_⟩
    obtain⟨T,x,y,rfl,hT,rfl,g1,g2⟩:=y
    exact hs i x y T σ H (g1 xs q1) (g2 ys q2) p hT
  · have e:i=min xs.length ys.length:=by omega
    subst e
    exact .inl ⟨⟨xs,ys,q1,q2,by omega⟩,hd σ H p⟩
end TyR
end
section
namespace TyR
open PySem PySem.Spec PyProof.Rows L2
theorem ints_inj:∀{vs:List Value} {ns ms:List Int},IntsAre vs ns->IntsAre vs ms->ns=ms
  | _,_,_,.nil,.nil=>rfl
  | _,_,_,.cons a t r,q=>by
    cases q with
    | cons _ _ q=>rw[ints_inj r q]
def IsTI (h:Heap) (ns:List Int) (u:Value):Prop:=∃a items,u= .ref a/\IsTup h a items/\IntsAre items.toList ns
theorem isTI_inj {h:Heap} {ns ms:List Int} {u:Value} (x:IsTI h ns u) (y:IsTI h ms u):ns=ms:=by
  obtain⟨a,items,rfl,⟨o,ho,hc,n,hd⟩,hi⟩:=x
  obtain⟨b,items',e,⟨o',ho',hc',n',hd'⟩,hi'⟩:=y
  cases e
  rw[ho]at ho';cases ho'
  rw[hd]at hd';cases hd'
  exact ints_inj hi hi'
open Classical in
noncomputable def isTI (h:Heap) (ns:List Int) (u:Value):Bool:=decide (IsTI h ns u)
theorem isTI_of {h:Heap} {ns ms:List Int} {u:Value} (x:IsTI h ms u):isTI h ns u=decide (ms=ns):=by
  unfold isTI
  exact decide_eq_decide.mpr ⟨fun q=>isTI_inj x q,fun q=>q ▸ x⟩
section
variable {X:Cx} {pins:List (Addr×Obj)} {σ:L2.St} {H:Hp} {s:Shared}
theorem eqAt_TI {A:Around} (hu:A.units < cLine) {ns ms:List Int} {u v:Value} (x:IsTI s.heap ms u) (y:IsTI s.heap ns v):SeqAt.EqAt A s u v (isTI s.heap ns u):=by
  rw[isTI_of x]
  intro prog w E Q q
  obtain⟨a,items,rfl,⟨o,ho,hc,n,hd⟩,hi⟩:=x
  obtain⟨b,items',rfl,⟨o',ho',hc',n',hd'⟩,hi'⟩:=y
  exact wpAny_eqBool_tuple (knd:=intKind prog w) (x:=ms) (y:=ns) hu ⟨o,items,n,ho,hc,hd,IntsAre.itemsAre hi⟩ ⟨o',items',n',ho',hc',hd',IntsAre.itemsAre hi'⟩ q
theorem TI1.is (I:Inv X pins σ H s) {ns:List Int} {v:V} {u:Value} (h:TI1 X.K H ns v) (r:RelV v u):IsTI s.heap ns u:=by
  obtain⟨t,its,e,h1,h2⟩:=h.at I r
  exact⟨t,its,e,h1,h2⟩
theorem TI1.all (I:Inv X pins σ H s):∀{ks:List (List Int)} {xs:List V} {us:List Value},Paired (TI1 X.K H) ks xs->Vals xs us->Paired (IsTI s.heap) ks us
  | _,_,_,.nil,.nil=> .nil
  | _,_,_,.cons h t,.cons r q=> .cons (h.is I r) (TI1.all I t q)
theorem any_TI {h:Heap} {ns:List Int}:∀{ks:List (List Int)} {us:List Value},Paired (IsTI h) ks us->us.any (isTI h ns)=decide (ns∈ks)
  | _,_,.nil=>by simp
  | k::ks,_,.cons x r=>by
    rw[List.any_cons,isTI_of x,any_TI r]
    by_cases e:k=ns
    · subst e;simp
    · by_cases e2:ns∈ks
      · simp[e,e2]
      · simp[e,e2,Ne.symm e]
theorem mem_TI {h:Heap}:∀{ks:List (List Int)} {us:List Value},Paired (IsTI h) ks us->∀u∈us,∃ms,IsTI h ms u
  | _,_,.nil,u,hu=>by cases hu
  | _,_,.cons x r,u,hu=>by
    rcases List.mem_cons.mp hu with rfl | hu
    · exact⟨_,x⟩
    · exact mem_TI r u hu
inductive rInT (K:PySem.W.Frag) (x:V) (y:V) (H:Hp) (Q:VK):Prop
  | mk (p:Addr) (xs:List V) (keys:List (List Int)) (ns:List Int) (h_0:y= .ref p) (h_1:SqL K H p xs) (h_2:TI1 K H ns x) (h_3:Paired (TI1 K H) keys xs) (h_4:Q (.bl (decide (ns∈keys))) H):rInT K x y H Q
theorem op_inT (hr:Room 1 X.A):OpR X (compareOp .In) (rInT X.K):=by
  intro pins s σ H x y v u Q I rx ry h
  obtain⟨p,xs,keys,ns,rfl,hq,tx,ts,q⟩:=h
  cases ry
  have un:=hr.un
  obtain⟨its,r,pl,hz⟩:=I.list hq
  have ps:=TI1.all I ts r
  refine SeqAt.in_listAt (isTI s.heap ns) pl.isList (fun w hw=> ?_) ⟨.bl _,H,I,rfl,?_⟩
  · obtain⟨ms,hm⟩:=mem_TI ps w (by simpa using hw)
    exact eqAt_TI (by show X.A.units+1 < cLine;omega) hm (tx.is I rx)
  · rw[show its.toArray.any (isTI s.heap ns)=its.any (isTI s.heap ns) by simp,any_TI ps]
    exact q
inductive rIndexT (K:PySem.W.Frag) (x:V) (vs:List V) (H:Hp) (Q:VK):Prop
  | mk (a:Addr) (ys:List V) (y:V) (keys:List (List Int)) (ns:List Int) (j:Nat) (h_0:x=V.ref a) (h_1:vs=[y]) (h_2:SqL K H a ys) (h_3:TI1 K H ns y) (h_4:Paired (TI1 K H) keys ys) (h_5:keys[j]? =some ns) (h_6:(∀m,m < j->keys[m]? ≠some ns)) (h_7:Q (.int (j:Nat)) H):rIndexT K x vs H Q
theorem mt_indexT (hr:Room 1 X.A):MtR X "list.index" (rIndexT X.K):=by
  intro pins s σ H x xs v us Q I rx rxs h
  obtain⟨a,ys,y,keys,ns,j,rfl,rfl,hs,ty,tys,hj,hno,q⟩:=h
  cases rx
  have un:=hr.un
  cases rxs with
  | cons ry rt=>
    rename_i uy ut
    cases rt
    obtain⟨its,rv,⟨⟨cls,dd,data,sl⟩,n,ho,hc,hdn,hd⟩,hlen⟩:=I.list hs
    simp only at hc hd
    subst hc hd
    have psn:=TI1.all I tys rv
    have lk:keys.length=its.length:=Paired.length psn
    have hvl:=rv.length
    obtain⟨u,hu,ru⟩:=paired_get psn hj
    obtain⟨hjl,hje⟩:=List.getElem?_eq_some_iff.mp hu
    have hj':j < its.toArray.size:=by simpa using hjl
    have hsl:=sizeLine_eq
    refine call_meets PySem.F.slot_list_index ⟨_,ho,rfl⟩ PySem.F.entry_list_index (PySem.F.args_list_index_2 _ _)
      (SeqAt.list_indexAt a its.toArray n dd sl uy (isTI s.heap ns) j hj' (by omega) ?_ ?_) ⟨ho,fun u' hu'=> ?_,?_⟩
    · have e1:its.toArray[j]=u:=by simpa using hje
      rw[e1,isTI_of ru];exact decide_eq_true rfl
    · intro m hm hmj
      have hml:m < its.length:=by simpa using hm
      obtain⟨km,hkm⟩:∃km,keys[m]? =some km:=⟨_,List.getElem?_eq_getElem (by omega)⟩
      obtain⟨u2,hu2,ru2⟩:=paired_get psn hkm
      obtain⟨_,hme⟩:=List.getElem?_eq_some_iff.mp hu2
      have e1:its.toArray[m]=u2:=by simpa using hme
      rw[e1,isTI_of ru2]
      exact decide_eq_false fun z=>hno m hmj (by rw[hkm,z])
    · obtain⟨ms,hm⟩:=mem_TI psn u' (by simpa using hu')
      exact eqAt_TI (by show X.A.units+1 < cLine;omega) hm (ty.is I ry)
    · exact⟨.int (j:Nat),H,I.tok _,⟨_,rfl⟩,q⟩
end
end TyR
end
section
namespace TyR
open PySem PySem.Spec PyProof.Rows L2
section
variable {X:Cx}
def tListRange (ta:TA):TE:=fun σ H Q=>ta σ H fun vs H1=>∃n:Nat,vs=[.int ((n:Nat):Int)]/\n≤1000/\∀l,H1 l=none->Q (.ref l) (upd H1 l (.lst ((List.range n).map fun(i:Nat)=>V.int (i:Int))))
theorem pe_listRange {a:Expr} {ta:TA} {p pos p2 pos2:Pos} (hg:Gl X "list") (hm:X.mg "list"=none) (hg2:Gl X "range") (hm2:X.mg "range"=none) (hc:X.calm=true) (ha:PA X [a] ta) (hs:starEach [a] X.env=[(false,eval a X.env)]:=by rfl)
    (hs2:starEach [.Call (.Name "range" p2) [a] [] pos2] X.env=[(false,eval (.Call (.Name "range" p2) [a] [] pos2) X.env)]:=by rfl):
    PE X (.Call (.Name "list" p) [.Call (.Name "range" p2) [a] [] pos2] [] pos) (tListRange ta):=by
  intro pins s σ H Q I h
  refine wpAny_Call_Name_kw (ld_blt I hg hm (show bootBuiltins "list"=some (.type "list") by decide +kernel) ?_)
  refine PyProof.Rows.callWith_type1 ?_ hs2 rfl
  rw[hs2]
  show wpAny _ _ (spliced ((false,eval (.Call (.Name "range" p2) [a] [] pos2) X.env)::backTo pos [])) _ _ s
  refine Calls.spliced_cons ?_
  refine Call_ (ld_blt I hg2 hm2 boot_range (PyProof.Rows.callWith_type1 (thn (ha pos2 pins s σ H _ I h) fun us s1 ⟨vs,H1,I1,r1,q1⟩=> ?_) hs rfl))
  obtain⟨n,e,hn,q⟩:=q1
  subst e
  cases r1 with
  | cons r rr=>
    cases rr
    obtain⟨t,rfl⟩:=r
    refine call_range_1 (Calls.spliced_nil ?_)
    have I2:Inv X pins σ H1 {s1 with heap:=s1.heap.push {cls:= .type "range",data:= .fields #[.int 0 s1.toks,.int ((n:Nat):Int) t,.int 1 (s1.toks+1)]},toks:=s1.toks+1+1}:=I1.kept fun b o e=>Heap.get?_push_of_some _ e
    refine call_list_range (n:=n) (I.ok.hd hc) (IsRange.new ..) (small_one (by omega) (by omega) (by omega) (by omega)) (by rw[rangeSize_one];split <;> omega) (by omega) fun h' tk acc c hk hl hacc=> ?_
    have hv:Vals ((List.range n).map fun(i:Nat)=>V.int (i:Int)) acc.toList:=by
      have key:∀m,m≤n->Vals ((List.range m).map fun(i:Nat)=>V.int (i:Int)) (acc.toList.take m):=by
        intro m
        induction m with
        | zero=>intro _;rw[List.take_zero];exact .nil
        | succ m ih=>
          intro hm
          have hlt:m < acc.size:=by rw[hacc.1];exact hm
          obtain⟨t',e⟩:=hacc.2 m acc[m] (Array.getElem?_eq_getElem hlt)
          have e1:acc.toList[m]? =some acc[m]:=by rw[Array.getElem?_toList];exact Array.getElem?_eq_getElem hlt
          rw[List.range_succ,List.map_append,List.take_add_one,e1]
          refine(ih (by omega)).append (.cons ⟨t',?_⟩ .nil)
          rw[e]
          congr 1
          omega
      have:=key n (Nat.le_refl _)
      rw[List.take_of_length_le (by rw[Array.length_toList,hacc.1];exact Nat.le_refl _)]at this
      exact this
    have hnn:=I2.hok.fresh (Nat.le_refl _)
    refine⟨.ref _,_,I2.laid (o:= .lst ((List.range n).map fun(i:Nat)=>V.int (i:Int))) hk (Nat.le_refl _) ⟨by rw[List.length_map,List.length_range,sizeLine_eq];omega,acc.toList,c,hv,by simpa using hl⟩,rfl,q _ hnn⟩
end
end TyR
namespace TyP
open PySem PySem.Spec PyProof.Rows L2 TyR
open Rh04 (Ready Item Weighed)
abbrev sShared:Stmt:=top 3
abbrev sFew:Stmt:=top 4
structure Blt2 (mg:Str->Option Value):Prop where
  enum:mg "enumerate"=none
  zip:mg "zip"=none
  sorted:mg "sorted"=none
def cellV (p w:Word) (i n:Nat):List V:=(List.range n).map fun j=>V.int ((Ty.cell p w i j:Nat):Int)
theorem cellV_len (p w:Word) (i n:Nat):(cellV p w i n).length=n:=by unfold cellV;rw[List.length_map,List.length_range]
theorem cellV_succ (p w:Word) (i n:Nat):cellV p w i (n+1)=cellV p w i n++[V.int ((Ty.cell p w i n:Nat):Int)]:=by
  unfold cellV;rw[List.range_succ,List.map_append];rfl
theorem cellV_get (p w:Word) (i n j:Nat) (h:j < n):(cellV p w i n)[j]? =some (V.int ((Ty.cell p w i j:Nat):Int)):=by
  unfold cellV;rw[List.getElem?_map,List.getElem?_range h];rfl
theorem cellV_at (p w:Word) (i n j:Nat) (h:j < n):atI (cellV p w i n) ((j:Nat):Int)=some (V.int ((Ty.cell p w i j:Nat):Int)):=by
  rw[atI_nat];exact cellV_get p w i n j h
inductive spFew (vs:List V) (H:Hp) (Q:VK) (xk_:XK):Prop
  | mk (t q:Addr) (p w:Word) (h_0:vs=[.ref t,.ref q]) (h_1:H t=some (.tup (rowV p))) (h_2:H q=some (.tup (rowV w))) (h_3:p.length≤100) (h_4:w.length≤100) (h_5:∀H',Same H H'->Q (.int ((Rh04.faults p w:Nat):Int)) H'):spFew vs H Q xk_
end TyP
end
section
namespace TyP
open PySem PySem.Spec PyProof.Rows L2 TyR
open Rh04 (Ready Item Weighed)
section
variable {P:Program} {w:World} {K:PySem.W.Frag} {mg:Str->Option Value} {base:Heap}
theorem ifT {c:Bool} {α β:Prop} (h:c=true) (a:α):(if c=true then α else β):=by rw[if_pos h];exact a
theorem ifF {c:Bool} {α β:Prop} (h:c=false) (b:β):(if c=true then α else β):=by rw[if_neg (by rw[h];exact Bool.false_ne_true)];exact b
theorem scFew:FnScope ["typed","word","faults","letter","before","place","wanted","changed"] ["typed","word"] (defScope sFew):=⟨rfl,rfl,rfl,by decide +kernel,rfl,by decide +kernel,by decide +kernel⟩
theorem boot_min':bootBuiltins "min"=some (.builtin "min"):=by decide +kernel
theorem ok_few {f:Addr} {fd:FuncData} (F:Fun K "fewest_faults" "fewest_faults" sFew f fd) (B:Blt mg) (B2:Blt2 mg):FnOk P w K mg base CX0 1 f fd ["typed","word"] spFew:=by
  refine F.ok scFew (fun vs H Q E h=> ?_) (fun cdv A outer s H vs Q E hr h=> ?_)
  · obtain⟨t,q,p,w,rfl,_⟩:=h
    rfl
  · obtain⟨t,q,p,w,rfl,ht,hq,hp,hw,k⟩:=h
    have nd:=scFew.nd
    refine⟨_,pss_cons (ps_set (i:=2) nd rfl (Or.inl rfl) (pe_listRange (by rfl) B.list (by rfl) B.range rfl (pa_cons (pe_op op_add (pe_callB call_len_seq (by rfl) B.len PySem.boot_len (pa_cons (pv 1) pa_nil)) pe_int) pa_nil)))
      (pss_cons (ps_for PassesOwn.never rfl (pi_tup (pv 0)) (pg_name (i:=3) nd rfl (Or.inl rfl))
        (pss_cons (ps_set (i:=4) nd rfl (Or.inl rfl) (pv 2))
        (pss_cons (ps_set (i:=2) nd rfl (Or.inl rfl) (pe_lst (pa_cons (pe_op op_add (pe_ix ix_list (pv 4) pe_int (by intro _ _;rfl)) pe_int) pa_nil)))
        (pss_one (ps_for PassesOwn.never rfl (pi_enumT (by rfl) B2.enum (pa_cons (pv 1) pa_nil)) (pg_tup rfl (pgs_cons (pg_name (i:=5) nd rfl (Or.inl rfl)) (pgs_cons (pg_name (i:=6) nd rfl (Or.inl rfl)) pgs_nil)))
          (pss_cons (ps_set (i:=7) nd rfl (Or.inl rfl) (pe_ifExp (pt_cmpR op_eq (pv 3) (pv 6) (by rfl)) (pe_ix ix_list (pv 4) (pv 5) (by intro _ _;rfl)) (pe_op op_add (pe_ix ix_list (pv 4) (pv 5) (by intro _ _;rfl)) pe_int)))
          (pss_one (ps_expr (pe_bm PySem.F.plainAttrs_list PySem.F.slot_list_append PySem.F.type_list_append mt_append (pv 2)
            (pa_cons (pe_callB (call_min3 rfl) (by rfl) B.min boot_min' (pa_cons (pe_op op_add (pe_ix ix_list (pv 4) (pe_op op_add (pv 5) pe_int) (by intro _ _;rfl)) pe_int) (pa_cons (pv 7) (pa_cons (pe_op op_add (pe_ix ix_list (pv 2) (pv 5) (by intro _ _;rfl)) pe_int) pa_nil)))) pa_nil))))))))))
      (pss_one (ps_ret (pe_callB (cr_min rfl) (by rfl) B.min boot_min' (pa_cons (pv 2) pa_nil))))),?_⟩
    refine⟨_,rfl,q,_,rfl,.inr (SqT.of hq),_,_,rfl,rfl,(rowV w).length+1,rfl,by rw[rowV_len];omega,fun f0 hf0=> ?_⟩
    have s0:Same H (upd H f0 (.lst ((List.range ((rowV w).length+1)).map fun(i:Nat)=>V.int (i:Int)))):=Same.new hf0
    refine⟨_,rfl,t,rfl,⟨_,SqT.of (s0 _ _ ht)⟩,for_tup (K:=K) (a:=t) (xs:=rowV p) (fun i σ H'=>∃(fl:Addr) (v3 v4 v5 v6 v7:Option V),σ=[some (.ref t),some (.ref q),some (.ref fl),v3,v4,v5,v6,v7]/\Same H H'/\H fl=none/\H' fl=some (.lst (cellV p w i (w.length+1))))
      ⟨f0,none,none,none,none,none,rfl,s0,hf0,?_⟩ (fun i σ H' _ ⟨_,_,_,_,_,_,_,sm,_⟩=>SqT.of (sm _ _ ht)) ?_ ?_⟩
    · rw[upd_same,rowV_len]
      unfold cellV
      congr 2
      exact List.map_congr_left fun j _=>by simp[Ty.cell]
    · rintro i y σ H' hi ⟨fl,v3,v4,v5,v6,v7,rfl,sm,nfl,hfl⟩
      unfold rowV at hi
      obtain⟨a,ha,rfl⟩:=get_map' hi
      have e0:Ty.cell p w (i+1) 0=Ty.cell p w i 0+1:=by rw[Ty.cell_zero,Ty.cell_zero]
      refine⟨_,rfl,_,rfl,fl,_,0,_,rfl,rfl,SqL.of hfl,cellV_at p w i (w.length+1) 0 (by omega),_,_,rfl,rfl,(by show 1≤sizeLine;decide),fun c hc=> ?_⟩
      have hcH:H c=none:=sm.free hc
      have nfc:fl≠c:=fun z=>by rw[z,hc]at hfl;cases hfl
      have sm1:Same H (upd H' c (.lst [V.int (((Ty.cell p w i 0:Nat):Int)+1)])):=sm.trans (Same.new hc)
      refine⟨_,rfl,q,_,rfl,SqT.of (sm1 _ _ hq),for_enumT (K:=K) (a:=q) (xs:=rowV w) (fun j σ H''=>∃v5 v6 v7:Option V,σ=[some (.ref t),some (.ref q),some (.ref c),some (.int ((a:Nat):Int)),some (.ref fl),v5,v6,v7]/\Same H H''/\H'' fl=some (.lst (cellV p w i (w.length+1)))/\H'' c=some (.lst (cellV p w (i+1) (j+1))))
        ⟨v5,v6,v7,rfl,sm1,by rw[upd_ne nfc];exact hfl,?_⟩ (fun j σ H'' _ ⟨_,_,_,_,sm,_,_⟩=>SqT.of (sm _ _ hq)) ?_ ?_⟩
      · rw[upd_same]
        have:cellV p w (i+1) (0+1)=[V.int ((Ty.cell p w (i+1) 0:Nat):Int)]:=rfl
        rw[this,e0]
        rfl
      · rintro j x T σ H'' hj ⟨v5,v6,v7,rfl,sm2,hfl2,hc2⟩ hT
        unfold rowV at hj
        obtain⟨b,hb,rfl⟩:=get_map' hj
        have hjw:j < w.length:=(List.getElem?_eq_some_iff.mp hb).1
        have s3:Same H'' (upd H'' T (.tup [.int ((j:Nat):Int),.int ((b:Nat):Int)])):=Same.new hT
        have hfl3:=s3 _ _ hfl2
        have hc3:=s3 _ _ hc2
        have ej:((j:Nat):Int)+1=((j+1:Nat):Int):=by omega
        have key:∀ch:Nat,ch=(if p[i]? =w[j]? then Ty.cell p w i j else Ty.cell p w i j+1)->min (((Ty.cell p w i (j+1):Nat):Int)+1) (min ((ch:Nat):Int) (((Ty.cell p w (i+1) j:Nat):Int)+1))=((Ty.cell p w (i+1) (j+1):Nat):Int):=fun ch e=>by
          rw[Ty.cell,←e]
          omega
        refine⟨T,_,rfl,SqT.of upd_same,rfl,_,_,rfl,_,_,rfl,rfl,?_⟩
        refine⟨_,rfl,_,rfl,rfl,_,rfl,?_⟩
        by_cases hab:a=b
        · refine ifT (decide_eq_true (by rw[hab])) ?_
          refine⟨_,rfl,_,rfl,fl,_,_,_,rfl,rfl,SqL.of hfl3,cellV_at p w i (w.length+1) j (by omega),?_⟩
          refine⟨_,rfl,.inl ⟨rfl,_,SqL.of hc3⟩,_,rfl,_,rfl,_,_,rfl,rfl,fl,_,_,_,rfl,rfl,SqL.of hfl3,(by rw[ej];exact cellV_at p w i (w.length+1) (j+1) (by omega)),_,_,rfl,rfl,_,rfl,_,rfl,_,rfl,c,_,_,_,rfl,rfl,SqL.of hc3,cellV_at p w (i+1) (j+1) j (by omega),_,_,rfl,rfl,_,_,_,rfl,c,_,_,rfl,rfl,hc3,(by rw[cellV_len];exact small1000 (by omega)),?_⟩
          refine⟨_,_,_,rfl,fun z o e=>by rw[upd_ne (ne_of_none e hcH)];exact s3 _ _ (sm2 z o e),by rw[upd_ne nfc];exact hfl3,?_⟩
          rw[upd_same,cellV_succ p w (i+1) (j+1),key (Ty.cell p w i j) (by rw[if_pos (by rw[ha,hb,hab])])]
        · refine ifF (decide_eq_false (by intro z;injection z with z;exact hab (Int.ofNat.inj z))) ?_
          refine⟨_,rfl,_,rfl,fl,_,_,_,rfl,rfl,SqL.of hfl3,cellV_at p w i (w.length+1) j (by omega),_,_,rfl,rfl,?_⟩
          refine⟨_,rfl,.inl ⟨rfl,_,SqL.of hc3⟩,_,rfl,_,rfl,_,_,rfl,rfl,fl,_,_,_,rfl,rfl,SqL.of hfl3,(by rw[ej];exact cellV_at p w i (w.length+1) (j+1) (by omega)),_,_,rfl,rfl,_,rfl,_,rfl,_,rfl,c,_,_,_,rfl,rfl,SqL.of hc3,cellV_at p w (i+1) (j+1) j (by omega),_,_,rfl,rfl,_,_,_,rfl,c,_,_,rfl,rfl,hc3,(by rw[cellV_len];exact small1000 (by omega)),?_⟩
          refine⟨_,_,_,rfl,fun z o e=>by rw[upd_ne (ne_of_none e hcH)];exact s3 _ _ (sm2 z o e),by rw[upd_ne nfc];exact hfl3,?_⟩
          rw[upd_same,cellV_succ p w (i+1) (j+1),←key (Ty.cell p w i j+1) (by rw[if_neg (by rw[ha,hb];intro z;exact hab (Option.some.inj z))])]
          rfl
      · rintro σ H'' ⟨v5,v6,v7,rfl,sm2,hfl2,hc2⟩
        rw[rowV_len]at hc2
        exact⟨c,_,_,_,_,_,rfl,sm2,hcH,hc2⟩
    · rintro σ H' ⟨fl,v3,v4,v5,v6,v7,rfl,sm,nfl,hfl⟩
      rw[rowV_len]at hfl
      have ev:cellV p w p.length (w.length+1)=((List.range (w.length+1)).map fun j=>((Ty.cell p w p.length j:Nat):Int)).map V.int:=by
        unfold cellV;rw[List.map_map];rfl
      rw[ev]at hfl
      refine⟨_,rfl,fl,_,rfl,SqL.of hfl,by rw[List.length_map,List.length_range];omega,fun m hm hle=> ?_⟩
      obtain⟨j0,hj0,rfl⟩:=List.mem_map.mp hm
      have hj0':=List.mem_range.mp hj0
      have:=Ty.faults_least (p:=p) (w:=w) (m:=Ty.cell p w p.length j0) ⟨j0,by omega,rfl⟩ (fun j hj=>by
        have:=hle _ (List.mem_map.mpr ⟨j,List.mem_range.mpr (by omega),rfl⟩)
        omega)
      have kk:=k H' sm
      rw[this]at kk
      exact kk
end
end TyP
end
section
namespace TyP
open PySem PySem.Spec PyProof.Rows L2 TyR
open Rh04 (Ready Item Weighed)
theorem between:∀(q lo hi w:Word),q <+:lo->q <+:hi->HT.lexLt (intsW w) (intsW lo)=false->HT.lexLt (intsW hi) (intsW w)=false->q <+:w
  | [],_,_,_,_,_,_,_=>List.nil_prefix
  | a::q,lo,hi,w,h1,h2,h3,h4=>by
    obtain⟨t1,rfl⟩:=h1
    obtain⟨t2,rfl⟩:=h2
    cases w with
    | nil=>cases h3
    | cons b w=>
      have e3:HT.lexLt (((b:Nat):Int)::intsW w) (((a:Nat):Int)::intsW (q++t1))=false:=h3
      have e4:HT.lexLt (((a:Nat):Int)::intsW (q++t2)) (((b:Nat):Int)::intsW w)=false:=h4
      rw[HT.lexLt_cons]at e3 e4
      by_cases e:a=b
      · subst e
        rw[if_pos rfl]at e3 e4
        rw[List.cons_prefix_cons]
        exact⟨rfl,between q (q++t1) (q++t2) w (List.prefix_append _ _) (List.prefix_append _ _) e3 e4⟩
      · rw[if_neg (by omega),decide_eq_false_iff_not]at e3 e4
        omega
theorem common_take:∀(lo hi:Word) (i:Nat),lo.take i=hi.take i->(i=min lo.length hi.length∨∃a b,lo[i]? =some a/\hi[i]? =some b/\a≠b)->Rh04.common lo hi=lo.take i
  | [],hi,i,h1,h2=>by simp[Rh04.common]
  | a::lo,[],i,h1,h2=>by
    rcases h2 with h | ⟨x,y,_,h,_⟩
    · simp at h;subst h;simp[Rh04.common]
    · simp at h
  | a::lo,b::hi,0,h1,h2=>by
    rcases h2 with h | ⟨x,y,g1,g2,g3⟩
    · simp at h
    · simp at g1 g2
      subst g1 g2
      simp[Rh04.common,g3]
  | a::lo,b::hi,i+1,h1,h2=>by
    rw[List.take_succ_cons,List.take_succ_cons]at h1
    injection h1 with e h1
    subst e
    rw[Rh04.common,if_pos rfl,List.take_succ_cons,common_take lo hi i h1]
    rcases h2 with h | ⟨x,y,g1,g2,g3⟩
    · exact .inl (by simp only[List.length_cons]at h;omega)
    · exact .inr ⟨x,y,by simpa using g1,by simpa using g2,g3⟩
inductive spShared (vs:List V) (H:Hp) (Q:VK) (xk_:XK):Prop
  | mk (l:Addr) (qs:List Addr) (ws:List Word) (h_0:vs=[.ref l]) (h_1:H l=some (.lst (qs.map V.ref))) (h_2:Paired (fun q w=>H q=some (.tup (rowV w))) qs ws) (h_3:ws≠[]) (h_4:(∀w∈ws,w.length≤10)) (h_5:∀(H':Hp) (c:Addr) (g:Word),Same H H'->H c=none->H' c=some (.lst (rowV g))->(∀q,q <+:g↔∀w∈ws,q <+:w)->g.length≤10->Q (.ref c) H'):spShared vs H Q xk_
theorem ti_all {K:PySem.W.Frag} {H:Hp}:∀{qs:List Addr} {ws:List Word},Paired (fun q w=>H q=some (.tup (rowV w))) qs ws->Paired (TI1 K H) (ws.map intsW) (qs.map V.ref)
  | _,_,.nil=> .nil
  | _,_,.cons h r=> .cons ⟨_,rfl,by rw[←rowV_ints];exact SqT.of h⟩ (ti_all r)
section
variable {P:Program} {w:World} {K:PySem.W.Frag} {mg:Str->Option Value} {base:Heap}
theorem scShared:FnScope ["words","shared","letter","other"] ["words"] (defScope sShared):=⟨rfl,rfl,rfl,by decide +kernel,rfl,by decide +kernel,by decide +kernel⟩
theorem ok_shared {f:Addr} {fd:FuncData} (F:Fun K "shared_letters" "shared_letters" sShared f fd) (B:Blt mg) (B2:Blt2 mg):FnOk P w K mg base CX0 2 f fd ["words"] spShared:=by
  refine F.ok scShared (fun vs H Q E h=> ?_) (fun cdv A outer s H vs Q E hr h=> ?_)
  · obtain⟨l,qs,ws,rfl,_⟩:=h
    rfl
  · obtain⟨l,qs,ws,rfl,hl,hp,hne,hlen,k⟩:=h
    have nd:=scShared.nd
    refine⟨_,pss_cons (ps_set (i:=1) nd rfl (Or.inl rfl) (pe_lst pa_nil))
      (pss_cons (ps_for PassesOwn.never rfl (pi_zipT (by rfl) B2.zip (pa_cons (pe_callB (call_minT hr) (by rfl) B.min boot_min' (pa_cons (pv 0) pa_nil)) (pa_cons (pe_callB (call_maxT hr) (by rfl) B.max boot_max' (pa_cons (pv 0) pa_nil)) pa_nil)))
          (pg_tup rfl (pgs_cons (pg_name (i:=2) nd rfl (Or.inl rfl)) (pgs_cons (pg_name (i:=3) nd rfl (Or.inl rfl)) pgs_nil)))
        (pss_cons (ps_if (pt_cmpR op_ne (pv 2) (pv 3) (by rfl)) (pss_one ps_break) pss_nil)
        (pss_one (ps_expr (pe_bm PySem.F.plainAttrs_list PySem.F.slot_list_append PySem.F.type_list_append mt_append (pv 1) (pa_cons (pv 2) pa_nil))))))
      (pss_one (ps_ret (pv 1)))),?_⟩
    have hpl:qs.length=ws.length:=Paired.len hp
    refine⟨Nat.zero_le _,fun c hc=> ?_⟩
    have s0:Same H (upd H c (.lst [])):=Same.new hc
    have hqne:qs.map V.ref≠[]:=fun z=>hne (List.eq_nil_of_length_eq_zero (by have:=congrArg List.length z;simp at this;rw[this]at hpl;simpa using hpl.symm))
    have hp0:Paired (TI1 K (upd H c (.lst []))) (ws.map intsW) (qs.map V.ref):=ti_all (Paired.imp' (fun _ _ z=>s0 _ _ z) hp)
    refine⟨_,rfl,l,_,_,rfl,SqL.of (s0 _ _ hl),hqne,hp0,fun i1 v1 k1 gv1 gk1 min1=> ?_⟩
    refine⟨_,rfl,l,_,_,rfl,SqL.of (s0 _ _ hl),hqne,hp0,fun i2 v2 k2 gv2 gk2 max2=> ?_⟩
    rw[List.getElem?_map]at gv1 gv2 gk1 gk2
    obtain⟨q1,hq1,rfl⟩:=Option.map_eq_some_iff.mp gv1
    obtain⟨q2,hq2,rfl⟩:=Option.map_eq_some_iff.mp gv2
    obtain⟨lo,hlo,rfl⟩:=Option.map_eq_some_iff.mp gk1
    obtain⟨hi,hhi,rfl⟩:=Option.map_eq_some_iff.mp gk2
    obtain⟨lo',hlo',t1⟩:=paired_get hp hq1
    obtain rfl:lo'=lo:=Option.some.inj (hlo'.symm.trans hlo)
    obtain⟨hi',hhi',t2⟩:=paired_get hp hq2
    obtain rfl:hi'=hi:=Option.some.inj (hhi'.symm.trans hhi)
    have mlo:=List.mem_of_getElem? hlo
    have mhi:=List.mem_of_getElem? hhi
    have fin:∀(H':Hp) (i:Nat),Same H H'->H' c=some (.lst (rowV (lo'.take i)))->lo'.take i=hi'.take i->(i=min lo'.length hi'.length∨∃a b,lo'[i]? =some a/\hi'[i]? =some b/\a≠b)->Q (.ref c) H':=fun H' i sm hc' e1 e2=>by
      have ec:=common_take lo' hi' i e1 e2
      refine k H' c (lo'.take i) sm hc hc' (fun q=> ?_) (by rw[List.length_take];have:=hlen _ mlo;omega)
      rw[←ec,Ty.common_prefix]
      constructor
      · rintro⟨g1,g2⟩ w hw
        exact between q lo' hi' w g1 g2 (min1 _ (List.mem_map_of_mem hw)) (max2 _ (List.mem_map_of_mem hw))
      · intro g
        exact⟨g _ mlo,g _ mhi⟩
    refine⟨q1,q2,rowV lo',rowV hi',rfl,SqT.of (s0 _ _ t1),SqT.of (s0 _ _ t2),for_zipT (K:=K) (a:=q1) (b:=q2) (xs:=rowV lo') (ys:=rowV hi') (fun i σ H'=>∃v2 v3:Option V,σ=[some (.ref l),some (.ref c),v2,v3]/\Same H H'/\H' c=some (.lst (rowV (lo'.take i)))/\lo'.take i=hi'.take i)
      ⟨none,none,rfl,s0,upd_same,by rw[List.take_zero,List.take_zero]⟩ (fun i σ H' ⟨_,_,_,sm,_,_⟩=>⟨SqT.of (sm _ _ t1),SqT.of (sm _ _ t2)⟩) ?_ ?_⟩
    · rintro i x y T σ H' hx hy ⟨v2,v3,rfl,sm,hc',et⟩ hT
      unfold rowV at hx hy
      obtain⟨a,ha,rfl⟩:=get_map' hx
      obtain⟨b,hb,rfl⟩:=get_map' hy
      have s1:Same H' (upd H' T (.tup [.int ((a:Nat):Int),.int ((b:Nat):Int)])):=Same.new hT
      refine⟨T,_,rfl,SqT.of upd_same,rfl,_,_,rfl,_,_,rfl,rfl,?_⟩
      refine⟨_,rfl,_,rfl,rfl,_,rfl,?_⟩
      by_cases e:a=b
      · refine ifF (by rw[decide_eq_true (by rw[e])];rfl) ?_
        refine⟨_,rfl,.inl ⟨rfl,_,SqL.of (s1 _ _ hc')⟩,_,rfl,c,_,_,rfl,rfl,s1 _ _ hc',?_,?_⟩
        · rw[rowV_len,List.length_take];exact small1000 (by have:=hlen _ mlo;omega)
        refine⟨_,_,rfl,fun z o g=>by rw[upd_ne (ne_of_none g hc)];exact s1 _ _ (sm z o g),?_,?_⟩
        · rw[upd_same,take_snoc ha,rowV_append];rfl
        · rw[take_snoc ha,take_snoc hb,et,e]
      · refine ifT (by rw[decide_eq_false (by intro z;injection z with z;exact e (Int.ofNat.inj z))];rfl) ?_
        exact⟨_,rfl,fin _ i (sm.trans s1) (s1 _ _ hc') et (.inr ⟨a,b,ha,hb,e⟩)⟩
    · rintro σ H' ⟨v2,v3,rfl,sm,hc',et⟩
      rw[rowV_len,rowV_len]at hc' et
      exact⟨_,rfl,fin H' _ sm hc' et (.inl rfl)⟩
end
end TyP
end
section
namespace TyP
open PySem PySem.Spec PyProof.Rows L2 TyR
open Rh04 (Ready Item Weighed)
abbrev sPwn:Stmt:=top 38
abbrev sNear:Stmt:=top 39
def nkey (x:Weighed×Nat):List LKey:= .inl ((x.2:Nat):Int)::rkey ⟨true,x.1⟩
theorem lex_near (x y:Weighed×Nat):lexK (nkey x) (nkey y)=true↔Ty.nlt x y:=by
  have e:lexK (nkey x) (nkey y)=(if (Sum.inl ((x.2:Nat):Int):LKey)=Sum.inl ((y.2:Nat):Int)then lexK (rkey ⟨true,x.1⟩) (rkey ⟨true,y.1⟩)else decide (((x.2:Nat):Int) < ((y.2:Nat):Int))):=rfl
  rw[e,lex_first]
  unfold Ty.nlt
  by_cases h:x.2=y.2
  · rw[if_pos (by rw[h])]
    constructor
    · intro q;exact .inr ⟨h,q⟩
    · rintro(q | ⟨_,q⟩)
      · omega
      · exact q
  · rw[if_neg (fun z=>h (by have:=Sum.inl.inj z;omega)),decide_eq_true_eq]
    constructor
    · intro q;exact .inl (by omega)
    · rintro(q | ⟨q,_⟩)
      · omega
      · exact absurd q h
inductive Fnd (H:Hp) (b:Addr) (x:Weighed×Nat):Prop
  | mk (q:Addr) (h_0:H b=some (.tup [.ref q,.int ((x.1.2:Nat):Int),.int ((x.2:Nat):Int)])) (h_1:H q=some (.tup (rowV x.1.1))):Fnd H b x
theorem Fnd.keep {H H':Hp} {b:Addr} {x:Weighed×Nat} (h:Fnd H b x) (k:∀y ys,H y=some (.tup ys)->H' y=some (.tup ys)):Fnd H' b x:=by
  obtain⟨q,h1,h2⟩:=h
  exact⟨q,k _ _ h1,k _ _ h2⟩
theorem fnd_keep {H H':Hp} (k:∀y ys,H y=some (.tup ys)->H' y=some (.tup ys)):∀{ts:List Addr} {out:List (Weighed×Nat)},Paired (Fnd H) ts out->Paired (Fnd H') ts out
  | _,_,.nil=> .nil
  | _,_,.cons h r=> .cons (h.keep k) (fnd_keep k r)
inductive spPwn (vs:List V) (H:Hp) (Q:VK) (xk_:XK):Prop
  | mk (a:Addr) (x:Weighed×Nat) (h_0:vs=[.ref a]) (h_1:Fnd H a x) (h_2:∀(H':Hp) (r q:Addr),Same H H'->H' r=some (.tup [.int ((x.2:Nat):Int),.int (-((x.1.2:Nat):Int)),.ref q])->H' q=some (.tup (rowV x.1.1))->Q (.ref r) H'):spPwn vs H Q xk_
inductive spNear (vs:List V) (H:Hp) (Q:VK) (xk_:XK):Prop
  | mk (a t:Addr) (l:WD) (p:Word) (e:Nat) (h_0:vs=[.ref a,.ref t,.int ((e:Nat):Int)]) (h_1:H a=some (.dT (dictW l))) (h_2:H t=some (.tup (rowV p))) (h_3:(l.map (·.1)).Nodup) (h_4:l.length≤60) (h_5:(∀q∈l,q.1.length≤100)) (h_6:p.length≤100) (h_7:∀(H':Hp) (c:Addr) (ts:List Addr) (out:List (Weighed×Nat)),Same H H'->H c=none->H' c=some (.lst (ts.map V.ref))->Paired (Fnd H') ts out->out.Pairwise Ty.nlt->out.Perm ((l.filter fun x=>decide (Rh04.faults p x.1≤e)).map fun x=>(x,Rh04.faults p x.1))->Q (.ref c) H'):spNear vs H Q xk_
theorem pick {α β:Type} {G:α->β->Prop} {d:α} {d':β} {ts:List α} {out:List β} (h:Paired G ts out):∀il:List Nat,(∀i∈il,i < ts.length)->Paired G (il.map fun i=>ts.getD i d) (il.map fun i=>out.getD i d')
  | [],_=> .nil
  | i::il,hi=>by
    have h1:=hi i List.mem_cons_self
    have e:ts[i]? =some (ts.getD i d):=by rw[List.getD_eq_getElem?_getD,List.getElem?_eq_getElem h1];rfl
    obtain⟨y,hy,g⟩:=paired_get h e
    have e2:out.getD i d'=y:=by rw[List.getD_eq_getElem?_getD,hy];rfl
    rw[List.map_cons,List.map_cons,e2]
    exact .cons g (pick h il fun j hj=>hi j (List.mem_cons_of_mem _ hj))
def outI (l:WD) (p:Word) (e i:Nat):List (Weighed×Nat):=((l.take i).filter fun x=>decide (Rh04.faults p x.1≤e)).map fun x=>(x,Rh04.faults p x.1)
theorem outI_yes {l:WD} {p:Word} {e i:Nat} {x:Weighed} (h:l[i]? =some x) (q:Rh04.faults p x.1≤e):outI l p e (i+1)=outI l p e i++[(x,Rh04.faults p x.1)]:=by
  unfold outI
  rw[take_snoc h,List.filter_append,List.map_append,List.filter_cons,if_pos (decide_eq_true q)]
  rfl
theorem outI_no {l:WD} {p:Word} {e i:Nat} {x:Weighed} (h:l[i]? =some x) (q:¬Rh04.faults p x.1≤e):outI l p e (i+1)=outI l p e i:=by
  unfold outI
  rw[take_snoc h,List.filter_append,List.filter_cons,if_neg (by rw[decide_eq_true_eq];exact q),List.filter_nil,List.append_nil]
theorem outI_words {l:WD} {p:Word} {e i:Nat} (hn:(l.map (·.1)).Nodup):((outI l p e i).map (·.1.1)).Nodup:=by
  unfold outI
  rw[List.map_map]
  exact hn.sublist ((List.filter_sublist.trans (List.take_sublist _ _)).map _)
theorem key_at {out:List (Weighed×Nat)} {i:Nat} (h:i < out.length):(out.map nkey).getD i []=nkey out[i]:=by
  rw[List.getD_eq_getElem?_getD,List.getElem?_map,List.getElem?_eq_getElem h];rfl
theorem near_ord {out:List (Weighed×Nat)} (hn:(out.map (·.1.1)).Nodup):Ord out.length fun i j=>lexK ((out.map nkey).getD i []) ((out.map nkey).getD j []):=by
  refine⟨fun i j k hi hj hk h1 h2=> ?_,fun i hi=> ?_,fun i j hi hj hne=> ?_⟩
  · rw[key_at hi,key_at hj,lex_near]at h1
    rw[key_at hj,key_at hk,lex_near]at h2
    rw[key_at hi,key_at hk,lex_near]
    exact Ty.nlt_trans h1 h2
  · rw[key_at hi]
    cases q:lexK (nkey out[i]) (nkey out[i])with
    | false=>rfl
    | true=>exact absurd ((lex_near _ _).mp q) (Ty.nlt_asymm _ _ ((lex_near _ _).mp q))
  · rw[key_at hi,key_at hj,lex_near,lex_near]
    have hw:out[i].1≠out[j].1:=fun z=>by
      have e1:(out.map (·.1.1))[i]? =some out[i].1.1:=by rw[List.getElem?_map,List.getElem?_eq_getElem hi];rfl
      have e2:(out.map (·.1.1))[j]? =some out[i].1.1:=by rw[List.getElem?_map,List.getElem?_eq_getElem hj,z];rfl
      exact hne (nd_ix hn e1 e2)
    unfold Ty.nlt
    rcases Nat.lt_trichotomy out[i].2 out[j].2 with q | q | q
    · exact .inl (.inl q)
    · rcases Ty.first_total hw with z | z
      · exact .inl (.inr ⟨q,z⟩)
      · exact .inr (.inr ⟨q.symm,z⟩)
    · exact .inr (.inl q)
theorem near_sorted {out:List (Weighed×Nat)} {d:Weighed×Nat} {q:Array Nat} (P:Pl out.length q) (A:Asc (fun i j=>lexK ((out.map nkey).getD i []) ((out.map nkey).getD j [])) q out.length):(q.toList.map fun i=>out.getD i d).Pairwise Ty.nlt/\(q.toList.map fun i=>out.getD i d).Perm out:=by
  refine⟨List.pairwise_iff_getElem.mpr fun i j hi hj hij=> ?_,?_⟩
  · have hi':i < q.size:=by simpa using hi
    have hj':j < q.size:=by simpa using hj
    rw[P.size]at hi' hj'
    have a:=A i j hij hj'
    have qi:=P.lt i hi'
    have qj:=P.lt j hj'
    dsimp only at a
    rw[key_at qi,key_at qj,lex_near]at a
    have ei:q.toList[i]'(by simpa using hi)=q.getD i 0:=by rw[Array.getElem_toList,Array.getD_eq_getD_getElem?,Array.getElem?_eq_getElem (by rw[P.size];exact hi')];rfl
    have ej:q.toList[j]'(by simpa using hj)=q.getD j 0:=by rw[Array.getElem_toList,Array.getD_eq_getD_getElem?,Array.getElem?_eq_getElem (by rw[P.size];exact hj')];rfl
    rw[List.getElem_map,List.getElem_map,ei,ej]
    have gi:out.getD (q.getD i 0) d=out[q.getD i 0]:=by rw[List.getD_eq_getElem?_getD,List.getElem?_eq_getElem qi];rfl
    have gj:out.getD (q.getD j 0) d=out[q.getD j 0]:=by rw[List.getD_eq_getElem?_getD,List.getElem?_eq_getElem qj];rfl
    rw[gi,gj]
    exact a
  · have:=P.pm.map fun i=>out.getD i d
    rw[map_range_getD]at this
    exact this
section
variable {P:Program} {w:World} {K:PySem.W.Frag} {mg:Str->Option Value} {base:Heap}
theorem scPwn:FnScope ["found"] ["found"] (defScope sPwn):=⟨rfl,rfl,rfl,by decide +kernel,rfl,by decide +kernel,by decide +kernel⟩
theorem ok_pwn {f:Addr} {fd:FuncData} (F:Fun K "place_when_near" "place_when_near" sPwn f fd):FnOk P w K mg base CX0 1 f fd ["found"] spPwn:=by
  refine F.ok scPwn (fun vs H Q E h=> ?_) (fun cdv A outer s H vs Q E hr h=> ?_)
  · obtain⟨a,x,rfl,_⟩:=h
    rfl
  · obtain⟨a,x,rfl,⟨q,h1,h2⟩,k⟩:=h
    refine⟨_,pss_one (ps_ret (pe_tup (pa_cons (pe_ix ix_tup (pv 0) pe_int (by intro _ _;rfl)) (pa_cons (pe_un un_neg (pe_ix ix_tup (pv 0) pe_int (by intro _ _;rfl))) (pa_cons (pe_ix ix_tup (pv 0) pe_int (by intro _ _;rfl)) pa_nil))))),?_⟩
    refine⟨_,rfl,a,_,2,_,rfl,rfl,SqT.of h1,rfl,_,rfl,a,_,1,_,rfl,rfl,SqT.of h1,rfl,_,rfl,_,rfl,a,_,0,_,rfl,rfl,SqT.of h1,rfl,(by show 3≤sizeLine;decide),fun r hr'=> ?_⟩
    exact k _ r q (Same.new hr') upd_same (Same.new hr' _ _ h2)
theorem scNear:FnScope ["weights","typed","most_faults","found","word","weight","faults"] ["weights","typed","most_faults"] (defScope sNear):=⟨rfl,rfl,rfl,by decide +kernel,rfl,by decide +kernel,by decide +kernel⟩
theorem ok_nearw {f fF fP:Addr} {fd fdF fdP:FuncData} (F:Fun K "near_words" "near_words" sNear f fd) (B2:Blt2 mg) (GF:FnOk P w K mg base CX0 1 fF fdF ["typed","word"] spFew) (bF:Binds K fdF ["typed","word"] []) (gF:mg "fewest_faults"=some (.ref fF)) (kF:PySem.W.keepIn K (.ref fF)=true)
    (GP:FnOk P w K mg base CX0 1 fP fdP ["found"] spPwn) (bP:Binds K fdP ["found"] []) (gP:mg "place_when_near"=some (.ref fP)):FnOk P w K mg base CX0 4 f fd ["weights","typed","most_faults"] spNear:=by
  refine F.ok scNear (fun vs H Q E h=> ?_) (fun cdv A outer s H vs Q E hr h=> ?_)
  · obtain⟨a,t,l,p,e,rfl,_⟩:=h
    rfl
  · obtain⟨a,t,l,p,e,rfl,ha,ht,hn,hl,hls,hp,k⟩:=h
    have hu:=hu_of hr
    have nd:=scNear.nd
    refine⟨_,pss_cons (ps_set (i:=3) nd rfl (Or.inl rfl) (pe_lst pa_nil))
      (pss_cons (ps_lock (ps_for PassesOwn.never rfl (pi_itemsT (pv 0)) (pg_tup rfl (pgs_cons (pg_name (i:=4) nd rfl (Or.inl rfl)) (pgs_cons (pg_name (i:=5) nd rfl (Or.inl rfl)) pgs_nil)))
        (pss_cons (ps_set (i:=6) nd rfl (Or.inl rfl) (pe_call GF (hr.mono (by decide)) rfl gF kF bF .nil pass0 (pa_cons (pv 1) (pa_cons (pv 4) pa_nil))))
        (pss_one (ps_if (pt_cmpR op_le (pv 6) (pv 2) (by rfl)) (pss_one (ps_expr (pe_bm PySem.F.plainAttrs_list PySem.F.slot_list_append PySem.F.type_list_append mt_append (pv 3) (pa_cons (pe_tup (pa_cons (pv 4) (pa_cons (pv 5) (pa_cons (pv 6) pa_nil)))) pa_nil)))) pss_nil)))))
      (pss_one (ps_ret (pe_sortKey GP (hr.mono (by decide)) bP (by rfl) B2.sorted (by rfl) gP (pv 3))))),?_⟩
    refine⟨Nat.zero_le _,fun c hc=> ?_⟩
    have nca:a≠c:=ne_of_none ha hc
    have nta:t≠a:=ne_of ht ha (by intro z;cases z)
    refine⟨a,.dT (dictW l),(by rw[upd_ne nca];exact ha),True.intro,fun od=>⟨_,rfl,a,od,dictW l,rfl,upd_same,for_itemsT (fun i σ H'=>∃(ts:List Addr) (v4 v5 v6:Option V),σ=[some (.ref a),some (.ref t),some (.int ((e:Nat):Int)),some (.ref c),v4,v5,v6]/\
      H' a=some (.frz od (.dT (dictW l)))/\H' c=some (.lst (ts.map V.ref))/\Paired (Fnd H') ts (outI l p e i)/\∀x o,H x=some o->x≠a->H' x=some o) ⟨[],none,none,none,rfl,upd_same,?_,.nil,fun x o e hx=> ?_⟩ (fun i σ H' _ ⟨_,_,_,_,_,h1,_⟩=>h1) ?_ ?_⟩⟩
    · rw[upd_ne (Ne.symm nca),upd_same]
      rfl
    · rw[upd_ne hx,upd_ne (ne_of_none e hc)]
      exact e
    · rintro i kk v q T σ H' hkv ⟨ts,v4,v5,v6,rfl,h1,h2,h3,h4⟩ hq hT
      obtain⟨w',n,hi,rfl,rfl⟩:=dictW_get' hkv
      rw[keyW_V]at hq
      have hw':=hls _ (List.mem_of_getElem? hi)
      have s2:Same H' (upd H' T (.tup [.ref q,.int ((n:Nat):Int)])):=Same.new hT
      refine⟨T,_,rfl,SqT.of upd_same,rfl,_,_,rfl,_,_,rfl,rfl,?_⟩
      refine⟨_,rfl,_,rfl,t,q,p,w',rfl,s2 _ _ (h4 _ _ ht nta),s2 _ _ hq,hp,hw',fun H3 sm3=> ?_⟩
      have s3:Same H' H3:=s2.trans sm3
      refine⟨_,rfl,_,rfl,_,_,rfl,rfl,_,rfl,ite2 (fun hd=> ?_) (fun hd=> ?_)⟩
      · have hle:Rh04.faults p w'≤e:=by have:=of_decide_eq_true hd;omega
        have htl:ts.length≤60:=by
          have:=Paired.len h3
          unfold outI at this
          rw[List.length_map]at this
          have h5:=List.length_filter_le (fun x=>decide (Rh04.faults p x.1≤e)) (l.take i)
          rw[List.length_take]at h5
          omega
        refine⟨_,rfl,.inl ⟨rfl,_,SqL.of (s3 _ _ h2)⟩,_,rfl,_,rfl,_,rfl,(by show 3≤sizeLine;decide),fun b hb=> ?_⟩
        have s4:Same H3 (upd H3 b (.tup [.ref q,.int ((n:Nat):Int),.int ((Rh04.faults p w':Nat):Int)])):=Same.new hb
        refine⟨c,_,_,rfl,rfl,s4 _ _ (s3 _ _ h2),by rw[List.length_map];exact small1000 (by omega),?_⟩
        have nca':a≠c:=nca
        have kt:∀y ys,H' y=some (.tup ys)->upd (upd H3 b (.tup [.ref q,.int ((n:Nat):Int),.int ((Rh04.faults p w':Nat):Int)])) c (.lst (ts.map V.ref++[V.ref b])) y=some (.tup ys):=fun y ys g=>by
          rw[upd_ne (ne_of g h2 (by intro z;cases z))]
          exact s4 _ _ (s3 _ _ g)
        have nbc:b≠c:=fun z=>by rw[z,s3 _ _ h2]at hb;cases hb
        refine⟨ts++[b],_,_,_,rfl,by rw[upd_ne nca];exact s4 _ _ (s3 _ _ h1),by rw[upd_same,List.map_append];rfl,?_,fun x o g hx=>by rw[upd_ne (ne_of_none g hc)];exact s4 _ _ (s3 _ _ (h4 x o g hx))⟩
        rw[outI_yes hi hle]
        refine TyR.Paired.snoc (fnd_keep kt h3) ⟨q,?_,kt _ _ hq⟩
        rw[upd_ne nbc,upd_same]
      · have hle:¬Rh04.faults p w'≤e:=fun z=>hd (decide_eq_true (by omega))
        exact⟨ts,_,_,_,rfl,s3 _ _ h1,s3 _ _ h2,by rw[outI_no hi hle];exact fnd_keep (fun y ys g=>s3 _ _ g) h3,fun x o g hx=>s3 _ _ (h4 x o g hx)⟩
    · rintro σ H' ⟨ts,v4,v5,v6,rfl,h1,h2,h3,h4⟩
      rw[dictW_len]at h3
      have hout:=outI_words (p:=p) (e:=e) (i:=l.length) hn
      have eout:outI l p e l.length=(l.filter fun x=>decide (Rh04.faults p x.1≤e)).map fun x=>(x,Rh04.faults p x.1):=by unfold outI;rw[List.take_length]
      generalize outI l p e l.length=out at h3 hout eout
      have hol:ts.length=out.length:=Paired.len h3
      have holn:out.length≤60:=by rw[eout,List.length_map];exact Nat.le_trans (List.length_filter_le _ _) hl
      have kt:∀y ys,H' y=some (.tup ys)->upd H' a (.dT (dictW l)) y=some (.tup ys):=fun y ys g=>by
        rw[upd_ne (ne_of g h1 (by intro z;cases z))];exact g
      have h3':=fnd_keep kt h3
      have h2':upd H' a (.dT (dictW l)) c=some (.lst (ts.map V.ref)):=by rw[upd_ne (Ne.symm nca)];exact h2
      have smA:Same H (upd H' a (.dT (dictW l))):=fun x o g=>by
        by_cases hx:x=a
        · subst hx
          rw[ha]at g
          cases g
          exact upd_same
        · rw[upd_ne hx]
          exact h4 x o g hx
      have O:=near_ord hout
      have ekl:(ts.map V.ref).length=out.length:=by rw[List.length_map];exact hol
      rw[←ekl]at O
      refine⟨h1,_,rfl,c,ts.map V.ref,out.map nkey,rfl,SqL.of h2',by omega,by rw[List.length_map,ekl],fun x hx y hy=> ?_,fun x hx y hy=> ?_,fun x hx=> ?_,O,fun i v ks H'' gv gk sm=> ?_,fun q r H7 P1 A1 sm nr hr7=> ?_⟩
      · obtain⟨x',_,rfl⟩:=List.mem_map.mp hx
        obtain⟨y',_,rfl⟩:=List.mem_map.mp hy
        exact True.intro
      · obtain⟨x',_,rfl⟩:=List.mem_map.mp hx
        obtain⟨y',_,rfl⟩:=List.mem_map.mp hy
        rfl
      · obtain⟨x',_,rfl⟩:=List.mem_map.mp hx
        exact⟨_,_,rfl⟩
      · rw[List.getElem?_map]at gv gk
        obtain⟨b,hb,rfl⟩:=Option.map_eq_some_iff.mp gv
        obtain⟨x,hx,rfl⟩:=Option.map_eq_some_iff.mp gk
        obtain⟨x',hx',g⟩:=paired_get h3' hb
        obtain rfl:x'=x:=Option.some.inj (hx'.symm.trans hx)
        exact⟨b,x',rfl,g.keep fun y ys z=>sm _ _ z,fun H3 r q sm3 e1 e2=>⟨sm3,r,_,rfl,SqT.of e1,.cons rfl (.cons rfl (.cons ⟨q,rfl,by rw[←rowV_ints];exact SqT.of e2⟩ .nil))⟩⟩
      · rw[ekl]at P1 A1
        obtain⟨g1,g2⟩:=near_sorted (d:=(([],0),0)) P1 A1
        have hlt:∀i∈q.toList,i < ts.length:=fun i hi=>by rw[hol];exact List.mem_range.mp (P1.pm.mem_iff.mp hi)
        refine k H7 r (q.toList.map fun i=>ts.getD i 0) _ (smA.trans sm) (smA.free nr) ?_ (pick (fnd_keep (fun y ys z=>sm _ _ z) h3') q.toList hlt) g1 (by rw[←eout];exact g2)
        rw[hr7,List.map_map]
        congr 2
        refine List.map_congr_left fun i hi=> ?_
        show(ts.map V.ref).getD i .non=V.ref (ts.getD i 0)
        rw[List.getD_eq_getElem?_getD,List.getD_eq_getElem?_getD,List.getElem?_map,List.getElem?_eq_getElem (hlt i hi)]
        rfl
end
end TyP
end
section
namespace TyP
open PySem PySem.Spec PyProof.Rows L2 TyR
open Rh04 (Ready Item Weighed)
abbrev sDInit:Stmt:=inClass cDesk 0
abbrev sBegin:Stmt:=inClass cDesk 8
abbrev sMore:Stmt:=inClass cDesk 9
abbrev sSure:Stmt:=inClass cDesk 10
abbrev sNearM:Stmt:=inClass cDesk 11
abbrev sFaults:Stmt:=inClass cDesk 12
abbrev sKeys:Stmt:=inClass cDesk 13
abbrev sAns:Stmt:=top 41
structure DTxt2 (K:PySem.W.Frag) (mg:Str->Option Value) (D:Addr):Prop where
  ns:NoAttr K D "open_search"
  m2:∃t,mg "NO_SEARCH"=some (.int (-2) t)
  mf:∃t,mg "MOST_FAULTS_ASKED"=some (.int 3 t)
section
variable {P:Program} {w:World} {K:PySem.W.Frag} {mg:Str->Option Value} {base:Heap}
theorem scDInit:FnScope ["self"] ["self"] (defScope sDInit):=⟨rfl,rfl,rfl,by decide +kernel,rfl,by decide +kernel,by decide +kernel⟩
theorem ok_dinit {f D S E:Addr} {fd:FuncData} (F:Fun K "__init__" "Desk.__init__" sDInit f fd) (T:DTxt K mg D) (T2:DTxt2 K mg D):FnOk P w K mg base CX0 1 f fd ["self"] (spDInit (DI D S E) D):=by
  refine F.ok scDInit (fun vs H Q E h=> ?_) (fun cdv A outer s H vs Q E hr h=> ?_)
  · obtain⟨p,dx,rfl,_⟩:=h
    rfl
  · obtain⟨a,dx,rfl,ha,k⟩:=h
    refine⟨_,pss_cons (ps_fld (pv 0) pe_dnewT rfl) (pss_cons (ps_fld (pv 0) pe_dnewT rfl) (pss_one (ps_fld (pv 0) pe_non rfl))),?_⟩
    intro ow how
    have nao:a≠ow:=ne_of_none ha how
    refine⟨_,rfl,a,D,dx,[],rfl,(by rw[upd_ne nao];exact ha),T.cl,T.no,(by show 0 < 1000;decide),?_⟩
    intro us hus
    have h1:upd (upd H ow (.dT [])) a (.ins D dx (putF "own_weights" (.ref ow) [])) a=some (.ins D dx (putF "own_weights" (.ref ow) [])):=upd_same
    have nau:a≠us:=ne_of_none h1 hus
    have h2:upd (upd H ow (.dT [])) a (.ins D dx (putF "own_weights" (.ref ow) [])) ow=some (.dT []):=by rw[upd_ne (Ne.symm nao)];exact upd_same
    have nou:ow≠us:=ne_of_none h2 hus
    refine⟨_,rfl,a,D,dx,_,rfl,(by rw[upd_ne nau];exact h1),T.cl,T.nu,(by have:=length_putF "own_weights" (.ref ow) [];simp only[List.length_nil]at this;omega),?_⟩
    refine⟨_,rfl,a,D,dx,_,rfl,upd_same,T.cl,T2.ns,?_,?_⟩
    · have e1:=length_putF "own_weights" (.ref ow) []
      have e2:=length_putF "uses_weights" (.ref us) (putF "own_weights" (.ref ow) [])
      simp only[List.length_nil]at e1
      omega
    refine k _ [a,ow,us] ⟨dx,ow,us,.non,[],[],upd_same,⟨?_,?_,nou,.refl _,⟨.nil,(fun x h=>by cases h),(fun x h=>by cases h),Nat.zero_le _⟩,.nil⟩,⟨rfl,rfl⟩,rfl⟩ fun x o e hx=> ?_
    · rw[upd_ne (Ne.symm nao),upd_ne (Ne.symm nao),upd_ne nou];exact h2
    · rw[upd_ne (Ne.symm nau),upd_ne (Ne.symm nau)];exact upd_same
    · have e1:upd H ow (.dT []) x=some o:=by rw[upd_ne (ne_of_none e how)];exact e
      have e2:upd (upd H ow (.dT [])) a (.ins D dx (putF "own_weights" (.ref ow) [])) x=some o:=by rw[upd_ne hx];exact e1
      rw[upd_ne hx,upd_ne hx,upd_ne (ne_of_none e2 hus)]
      exact e2
end
theorem SearchAt.keep2 {S E D:Addr} (hDE:D≠E) {H H':Hp} {x rd wd hd:Addr} {p:Word} {s:Rh04.Search} (A:SearchAt S E H x rd wd hd p s)
    (k:∀y o,H y=some o->(y=x∨y=rd∨y=wd∨y=hd∨((∀xs,o≠ .lst xs)/\(∀kvs,o≠ .dT kvs)/\∀dx fs,o≠ .ins D dx fs))->H' y=some o):SearchAt S E H' x rd wd hd p s:=by
  obtain⟨⟨dx,wt,hv,as,rs,h1,h2,h3,R,h4,h5⟩,h6,h7,h8,h9,h10⟩:=A
  refine⟨⟨dx,wt,hv,as,rs,k _ _ h1 (.inl rfl),k _ _ h2 (.inr (.inr (.inl rfl))),k _ _ h3 (.inr (.inr (.inr (.inl rfl)))),⟨k _ _ R.lst (.inr (.inl rfl)),R.nd,Paired.mapP R.at_ fun b r h=> ?_⟩,h4,h5⟩,h6,h7,h8,h9,h10⟩
  obtain⟨d,q,g1,g2⟩:=h
  exact⟨d,q,k _ _ g1 (.inr (.inr (.inr (.inr ⟨(by intro xs z;cases z),(by intro xs z;cases z),(by intro dx fs z;cases z;exact hDE rfl)⟩)))),k _ _ g2 (.inr (.inr (.inr (.inr ⟨(by intro xs z;cases z),(by intro xs z;cases z),(by intro dx fs z;cases z)⟩))))⟩
def At (D S E:Addr) (H:Hp) (a:Addr) (st:Rh04.Desk) (dx ow us:Addr) (v:V) (its:List Item) (so:List Addr):Prop:=H a=some (.ins D dx (df ow us v))/\WordsAt H ow us its st.words/\Srch S E H ow us v st.search so
inductive spBegin (D S E:Addr) (vs:List V) (H:Hp) (Q:VK) (xk_:XK):Prop
  | mk (a dx ow us q:Addr) (v:V) (its:List Item) (so:List Addr) (st:Rh04.Desk) (r:Word) (h_0:vs=[.ref a,.ref q]) (h_1:At D S E H a st dx ow us v its so) (h_2:H q=some (.tup (rowV r))) (h_3:r.length≤1000) (h_4:After (DI D S E) H a st (a::ow::us::so) (.begin_ r) Q):spBegin D S E vs H Q xk_
inductive spMore (D S E:Addr) (vs:List V) (H:Hp) (Q:VK) (xk_:XK):Prop
  | mk (a dx ow us:Addr) (v:V) (its:List Item) (so:List Addr) (st:Rh04.Desk) (n:Nat) (h_0:vs=[.ref a,.int ((n:Nat):Int)]) (h_1:At D S E H a st dx ow us v its so) (h_2:After (DI D S E) H a st (a::ow::us::so) (.more n) Q):spMore D S E vs H Q xk_
section
variable {P:Program} {w:World} {K:PySem.W.Frag} {mg:Str->Option Value} {base:Heap}
theorem scBegin:FnScope ["self","letters"] ["self","letters"] (defScope sBegin):=⟨rfl,rfl,rfl,by decide +kernel,rfl,by decide +kernel,by decide +kernel⟩
theorem scMore:FnScope ["self","n","told"] ["self","n"] (defScope sMore):=⟨rfl,rfl,rfl,by decide +kernel,rfl,by decide +kernel,by decide +kernel⟩
theorem ok_begin {f D S E fN fI fT fC fW:Addr} {fd fdN fdI fdT fdC fdW:FuncData} (F:Fun K "begin" "Desk.begin" sBegin f fd) (G:Fns P w K mg base D S E fN fI fT fC fW fdN fdI fdT fdC fdW) (T2:DTxt2 K mg D) (hDE:D≠E):FnOk P w K mg base CX0 6 f fd ["self","letters"] (spBegin D S E):=by
  have T:=G.T
  refine F.ok scBegin (fun vs H Q E h=> ?_) (fun cdv A outer s H vs Q X hr h=> ?_)
  · obtain⟨a,dx,ow,us,q,v,its,so,st,r,rfl,_⟩:=h
    rfl
  · obtain⟨a,dx,ow,us,q,v,its,so,st,r,rfl,⟨ha,W,hs⟩,hq,hl,k⟩:=h
    obtain⟨t1,g1⟩:=T.m1
    refine⟨_,pss_cons (ps_if (pt_not (pt_val (pe_call G.GC (hr.mono (by decide)) rfl G.gC G.kC G.bC .nil pass0 (pa_cons (pv 1) pa_nil))))
        (pss_one (ps_ret (pe_lst (pa_cons (pe_glob rfl g1 (v:= .int (-1)) ⟨t1,rfl⟩) pa_nil)))) pss_nil)
      (pss_cons (ps_fld (pv 0) (pe_make G.M G.GI hr rfl G.gS G.bI .nil pass0 (pa_cons (pe_meth0 (pv 0) T.cl G.mN G.GN (hr.mono (by decide)) G.bN .nil pass0) (pa_cons (pv 1) pa_nil))) rfl)
      (pss_one (ps_ret (pe_lst (pa_cons (pe_callB call_lenT (by rfl) T.b.len PySem.boot_len (pa_cons (pe_fld (pe_fld (pv 0) rfl) rfl) pa_nil)) pa_nil))))),?_⟩
    refine⟨_,rfl,q,r,rfl,hq,hl,fun H1 sm=>⟨_,rfl,?_⟩⟩
    cases hw:Rh04.isTyped r with
    | false=>
      refine iteT ?_
      refine⟨(by show 1≤sizeLine;decide),fun p hp=> ?_⟩
      refine refused_of (l:=[-1]) ha W hs k ?_ (sm.trans (Same.new hp)) (Same.back sm hp) upd_same
      simp only[Rh04.step,if_pos hw]
    | true=>
      refine iteF ?_
      have hr12:=typed_len hw
      dsimp only [tNext,tSeq,sFld]
      refine made (S:=S) (E:=E) (j:=1) (σ:=[some (.ref a),some (.ref q)]) rfl rfl (sm _ _ ha) (df_F _ _ _) (W.same sm) (sm _ _ hq) (by omega) fun H2 x rd wd hd s2 nx nrd nwd nhd SA=> ?_
      obtain⟨⟨xd,wt,hv,as,rs,hx,hwd,hhd,R,hp,hSrc⟩,_⟩:=id SA
      have ha2:=s2 _ _ (sm _ _ ha)
      have nxa:x≠a:=Ne.symm (ne_of_none (sm _ _ ha) nx)
      have nwa:wd≠a:=ne_of hwd ha2 (by intro z;cases z)
      have nha:hd≠a:=ne_of hhd ha2 (by intro z;cases z)
      have nra:rd≠a:=ne_of R.lst ha2 (by intro z;cases z)
      refine⟨_,rfl,a,D,dx,_,rfl,ha2,T.cl,T2.ns,(by show 3 < 1000;decide),?_⟩
      rw[df_put]
      refine⟨_,rfl,a,D,dx,_,_,rfl,upd_same,T.cl,T2.ns,df_search _ _ _,x,S,xd,_,_,rfl,(by rw[upd_ne nxa];exact hx),G.U.cl,G.U.nw,sf_weight _ _ _ _,wd,_,rfl,.inl (by rw[upd_ne nwa];exact hwd),(by show 1≤sizeLine;decide),fun z hz=> ?_⟩
      have hza:z≠a:=fun q=>by rw[q,upd_same]at hz;cases hz
      rw[upd_ne hza]at hz
      have hzx:z≠x:=fun q=>by rw[q,hx]at hz;cases hz
      have hzr:z≠rd:=fun q=>by rw[q,R.lst]at hz;cases hz
      have sA:Same H H2:=sm.trans s2
      have keep:∀y o,H2 y=some o->y≠a->upd (upd H2 a (.ins D dx (df ow us (.ref x)))) z (.lst [V.int (((dictW wt).length:Nat):Int)]) y=some o:=fun y o g hy=>by
        rw[upd_ne (ne_of_none g hz),upd_ne hy];exact g
      refine begun_of (x:=x) (rd:=rd) (wd:=wd) (hd:=hd) ha W hs k hw (Same.back sm nx) (Same.back sm nrd) (Same.back sm nwd) (Same.back sm nhd) (SA.keep2 hDE fun y o g hy=>keep y o g ?_) (Same.back sA hz) hzx hzr (by rw[upd_ne (Ne.symm hza),upd_same]) (fun y o g hy=>keep y o (sA _ _ g) hy) ?_
      · rcases hy with rfl | rfl | rfl | rfl | ⟨_,_,hy⟩
        · exact nxa
        · exact nra
        · exact nwa
        · exact nha
        · intro q
          rw[q,ha2]at g
          cases g
          exact hy _ _ rfl
      · rw[upd_same,dictW_len,hSrc.cnw,Ty.all_len]
        rfl
theorem ok_more {f D S E fN fI fT fC fW:Addr} {fd fdN fdI fdT fdC fdW:FuncData} (F:Fun K "more" "Desk.more" sMore f fd) (G:Fns P w K mg base D S E fN fI fT fC fW fdN fdI fdT fdC fdW) (T2:DTxt2 K mg D) (hDS:D≠S):FnOk P w K mg base CX0 6 f fd ["self","n"] (spMore D S E):=by
  have T:=G.T
  refine F.ok scMore (fun vs H Q E h=> ?_) (fun cdv A outer s H vs Q X hr h=> ?_)
  · obtain⟨a,dx,ow,us,v,its,so,st,n,rfl,_⟩:=h
    rfl
  · obtain⟨a,dx,ow,us,v,its,so,st,n,rfl,⟨ha,W,hs⟩,k⟩:=h
    obtain⟨t2,g2⟩:=T2.m2
    have nd:=scMore.nd
    refine⟨_,pss_cons (ps_if (pt_cmp (pc_isN (pe_fld (pv 0) rfl))) (pss_one (ps_ret (pe_lst (pa_cons (pe_glob rfl g2 (v:= .int (-2)) ⟨t2,rfl⟩) pa_nil)))) pss_nil)
      (pss_cons (ps_set (i:=2) nd rfl (Or.inl rfl) (pe_meth (pe_fld (pv 0) rfl) G.U.cl G.mT G.GT hr G.bT .nil pass0 (pa_cons (pv 1) pa_nil)))
      (pss_one (ps_ret (pe_op op_cat (pe_op op_cat (pe_lst (pa_cons (pe_callB call_len_seq (by rfl) T.b.len PySem.boot_len (pa_cons (pv 2) pa_nil)) pa_nil)) (pe_call G.GW (hr.mono (by decide)) rfl G.gW G.kW G.bW .nil pass0 (pa_cons (pv 2) pa_nil)))
        (pe_lst (pa_cons (pe_fld (pe_fld (pv 0) rfl) rfl) pa_nil)))))),?_⟩
    refine⟨_,rfl,a,D,dx,_,_,rfl,ha,T.cl,T2.ns,df_search _ _ _,_,rfl,?_⟩
    cases ht:st.search with
    | none=>
      rw[ht]at hs
      obtain⟨rfl,rfl⟩:=id hs
      refine ifT (decide_eq_true rfl) ?_
      refine⟨(by show 1≤sizeLine;decide),fun p hp=> ?_⟩
      refine refused_of (l:=[-2]) ha W (by rw[ht];exact hs) k ?_ (Same.new hp) hp upd_same
      simp only[Rh04.step,ht]
    | some t=>
      rw[ht]at hs
      obtain⟨x,rd,wd,hd,p,rfl,SA,n1,n2,n3,n4,rfl⟩:=hs
      refine ifF (decide_eq_false (by intro z;cases z)) ?_
      obtain⟨⟨xd,wt,hv,as,rs,hx,hwd,hhd,R,hp,hSrc⟩,_⟩:=id SA
      have nax:a≠x:=fun q=>by rw[q,hx]at ha;injection ha with q2;injection q2 with q3;exact hDS q3.symm
      have nar:a≠rd:=ne_of ha R.lst (by intro z;cases z)
      obtain⟨b1,b2,_⟩:=SA.told n
      dsimp only [tNext,tSeq,tAsg]
      refine⟨_,rfl,a,D,dx,_,_,rfl,ha,T.cl,T2.ns,df_search _ _ _,x,xd,_,rfl,hx,sf_tell _ _ _ _,_,rfl,x,rd,wd,hd,n,p,t,rfl,SA,fun H1 tt htt TA SA1 st1=> ?_⟩
      obtain⟨ts,ht1,ht2⟩:=id TA
      have hlt:ts.length=_:=Paired.len ht2
      obtain⟨⟨xd1,wt1,hv1,as1,rs1,hx1,hwd1,hhd1,R1,hp1,hSrc1⟩,_⟩:=id SA1
      have ha1:=st1 _ _ ha nax nar
      refine⟨_,rfl,tt,_,rfl,.inl (SqL.of ht1),(by show 1≤sizeLine;decide),fun c hc=> ?_⟩
      have s4:Same H1 (upd H1 c (.lst [.int (((ts.map V.ref).length:Nat):Int)])):=Same.new hc
      refine⟨_,rfl,tt,_,rfl,TA.keep (fun y o e _ _=>s4 y o e),by omega,b2,fun H5 c5 s5 n5 e5=> ?_⟩
      have fl:=flat_len b2
      refine⟨c,c5,_,_,rfl,rfl,s5 _ _ upd_same,e5,?_,fun c6 h6=> ?_⟩
      · rw[rowV_len];exact Nat.le_of_lt (small20k (by simp only[List.length_cons,List.length_nil];omega))
      have s5':Same H1 H5:=s4.trans s5
      have s6:Same H1 (upd H5 c6 (.lst ([V.int (((ts.map V.ref).length:Nat):Int)]++rowV (flat (Rh04.more n t).1)))):=s5'.trans (Same.new h6)
      refine⟨_,rfl,a,D,dx,_,_,rfl,s6 _ _ ha1,T.cl,T2.ns,df_search _ _ _,x,S,xd1,_,_,rfl,s6 _ _ hx1,G.U.cl,G.U.no,sf_opened _ _ _ _,(by show 1≤sizeLine;decide),fun c7 h7=> ?_⟩
      have s7:Same (upd H5 c6 (.lst ([V.int (((ts.map V.ref).length:Nat):Int)]++rowV (flat (Rh04.more n t).1)))) (upd (upd H5 c6 (.lst ([V.int (((ts.map V.ref).length:Nat):Int)]++rowV (flat (Rh04.more n t).1)))) c7 (.lst [V.int (((Rh04.more n t).2.opened:Nat):Int)])):=Same.new h7
      refine⟨c6,c7,_,_,rfl,rfl,s7 _ _ upd_same,upd_same,?_,fun c8 h8=> ?_⟩
      · simp only[List.length_append,rowV_len,List.length_cons,List.length_nil]
        exact Nat.le_of_lt (small20k (by omega))
      have sA:Same H1 (upd (upd (upd H5 c6 (.lst ([V.int (((ts.map V.ref).length:Nat):Int)]++rowV (flat (Rh04.more n t).1)))) c7 (.lst [V.int (((Rh04.more n t).2.opened:Nat):Int)])) c8 (.lst ([V.int (((ts.map V.ref).length:Nat):Int)]++rowV (flat (Rh04.more n t).1)++[V.int (((Rh04.more n t).2.opened:Nat):Int)]))):=s6.trans (s7.trans (Same.new h8))
      have h8':H1 c8=none:=Same.back s6 (Same.back s7 h8)
      refine gone_of (n:=n) hDS ha W ht SA n1 n2 n3 n4 k (SA1.keep fun y o g _=>sA y o g) ?_ (fun y o g hy1 hy2=>sA _ _ (st1 y o g hy1 hy2)) ?_
      · cases q:H c8 with
        | none=>rfl
        | some o=>
          by_cases e1:c8=x
          · rw[e1,hx1]at h8';cases h8'
          · by_cases e2:c8=rd
            · rw[e2,R1.lst]at h8';cases h8'
            · rw[st1 _ _ q e1 e2]at h8';cases h8'
      · rw[upd_same]
        unfold intV
        rw[List.map_append,weighed_flat,List.length_map,hlt]
        rfl
end
end TyP
end
section
namespace TyP
open PySem PySem.Spec PyProof.Rows L2 TyR
open Rh04 (Ready Item Weighed)
inductive spSure (D:Addr) (vs:List V) (H:Hp) (Q:VK) (xk_:XK):Prop
  | mk (a dx ow us q:Addr) (fs:List (Str×V)) (its d:List Item) (r:Word) (h_0:vs=[.ref a,.ref q]) (h_1:H a=some (.ins D dx fs)) (h_2:DeskF fs ow us) (h_3:WordsAt H ow us its d) (h_4:H q=some (.tup (rowV r))) (h_5:r.length≤1000) (h_6:Said H d (.sure r) Q):spSure D vs H Q xk_
inductive spFaultsM (D:Addr) (vs:List V) (H:Hp) (Q:VK) (xk_:XK):Prop
  | mk (a dx q:Addr) (fs:List (Str×V)) (d:List Item) (n:Nat) (r:Word) (h_0:vs=[.ref a,.int ((n:Nat):Int),.ref q]) (h_1:H a=some (.ins D dx fs)) (h_2:H q=some (.tup (rowV r))) (h_3:r.length≤1000) (h_4:Said H d (.faults n r) Q):spFaultsM D vs H Q xk_
inductive spNearM (D:Addr) (vs:List V) (H:Hp) (Q:VK) (xk_:XK):Prop
  | mk (a dx ow us q:Addr) (fs:List (Str×V)) (its d:List Item) (e k:Nat) (r:Word) (h_0:vs=[.ref a,.int ((e:Nat):Int),.int ((k:Nat):Int),.ref q]) (h_1:H a=some (.ins D dx fs)) (h_2:DeskF fs ow us) (h_3:WordsAt H ow us its d) (h_4:H q=some (.tup (rowV r))) (h_5:r.length≤1000) (h_6:Said H d (.near e k r) Q):spNearM D vs H Q xk_
theorem cut_drop (w:Word) (n:Nat):cutV (rowV w) (some (n:Int)) none=rowV (w.drop n):=by
  unfold cutV
  rw[HT.sIx_none,HT.sIx_nat,rowV_len]
  unfold rowV
  rw[←List.map_drop,←List.map_take]
  congr 1
  by_cases h:n≤w.length
  · rw[Nat.min_eq_left h,List.take_of_length_le (by rw[List.length_drop];exact Nat.le_refl _)]
  · rw[Nat.min_eq_right (by omega),List.drop_length,List.take_nil,List.drop_eq_nil_of_le (by omega)]
section
variable {P:Program} {w:World} {K:PySem.W.Frag} {mg:Str->Option Value} {base:Heap}
theorem scSure:FnScope ["self","letters","begun","further"] ["self","letters"] (defScope sSure):=⟨rfl,rfl,rfl,by decide +kernel,rfl,by decide +kernel,by decide +kernel⟩
theorem scNearM:FnScope ["self","e","k","letters","found","numbers","word","weight","faults"] ["self","e","k","letters"] (defScope sNearM):=⟨rfl,rfl,rfl,by decide +kernel,rfl,by decide +kernel,by decide +kernel⟩
theorem scFaults:FnScope ["self","n","letters","typed","word"] ["self","n","letters"] (defScope sFaults):=⟨rfl,rfl,rfl,by decide +kernel,rfl,by decide +kernel,by decide +kernel⟩
theorem ok_faults {f D fC fF:Addr} {fd fdC fdF:FuncData} (F:Fun K "faults" "Desk.faults" sFaults f fd) (T:DTxt K mg D)
    (GC:FnOk P w K mg base CX0 2 fC fdC ["row"] spCan) (bC:Binds K fdC ["row"] []) (gC:mg "can_be_typed"=some (.ref fC)) (kC:PySem.W.keepIn K (.ref fC)=true)
    (GF:FnOk P w K mg base CX0 1 fF fdF ["typed","word"] spFew) (bF:Binds K fdF ["typed","word"] []) (gF:mg "fewest_faults"=some (.ref fF)) (kF:PySem.W.keepIn K (.ref fF)=true):FnOk P w K mg base CX0 3 f fd ["self","n","letters"] (spFaultsM D):=by
  refine F.ok scFaults (fun vs H Q E h=> ?_) (fun cdv A outer s H vs Q X hr h=> ?_)
  · obtain⟨a,dx,q,fs,d,n,r,rfl,_⟩:=h
    rfl
  · obtain⟨a,dx,q,fs,d,n,r,rfl,ha,hq,hl,k⟩:=h
    have nd:=scFaults.nd
    obtain⟨t1,g1⟩:=T.m1
    refine⟨_,pss_cons (ps_set (i:=3) nd rfl (Or.inl rfl) (pe_slice sl_tup4 (pv 2) po_none (po_some (pv 1))))
      (pss_cons (ps_set (i:=4) nd rfl (Or.inl rfl) (pe_slice sl_tup4 (pv 2) (po_some (pv 1)) po_none))
      (pss_cons (ps_if (PW.pt (pw_or (pt_cmpR op_lt (pe_callB call_len_seq (by rfl) T.b.len PySem.boot_len (pa_cons (pv 2) pa_nil)) (pv 1) (by rfl))
            (pw_or (pt_not (pt_val (pe_call GC hr rfl gC kC bC .nil pass0 (pa_cons (pv 3) pa_nil)))) (pw_or1 (pt_not (pt_val (pe_call GC hr rfl gC kC bC .nil pass0 (pa_cons (pv 4) pa_nil))))))))
          (pss_one (ps_ret (pe_lst (pa_cons (pe_glob rfl g1 (v:= .int (-1)) ⟨t1,rfl⟩) pa_nil)))) pss_nil)
      (pss_one (ps_ret (pe_lst (pa_cons (pe_call GF (hr.mono (by decide)) rfl gF kF bF .nil pass0 (pa_cons (pv 3) (pa_cons (pv 4) pa_nil))) pa_nil)))))),?_⟩
    refine⟨_,rfl,_,rfl,_,rfl,q,rowV r,rfl,hq,fun ta H1 s1 h1=> ?_⟩
    rw[cut_row]at h1
    refine⟨_,rfl,_,rfl,_,rfl,q,rowV r,rfl,s1 _ _ hq,fun wa H2 s2 h2=> ?_⟩
    rw[cut_drop]at h2
    have h1':=s2 _ _ h1
    have s12:=s1.trans s2
    have lt1:(r.take n).length≤1000:=by rw[List.length_take];omega
    have lt2:(r.drop n).length≤1000:=by rw[List.length_drop];omega
    have no:∀H3:Hp,Same H H3->(r.length < n∨Rh04.isTyped (r.take n)=false∨Rh04.isTyped (r.drop n)=false)->1≤sizeLine/\∀p,H3 p=none->Q (.ref p) (upd H3 p (.lst [V.int (-1)])):=fun H3 s3 hno=>by
      refine⟨by decide,fun p hp=>said (z:=[-1]) k ?_ (s3.trans (Same.new hp)) (Same.back s3 hp) upd_same⟩
      show(if r.length < n∨Rh04.isTyped (r.take n)=false∨Rh04.isTyped (r.drop n)=false then _ else _)=_
      rw[if_pos hno]
    refine⟨_,rfl,q,_,rfl,.inr (SqT.of (s12 _ _ hq)),_,rfl,_,_,rfl,rfl,_,rfl,?_⟩
    by_cases c1:r.length < n
    · refine ifT (decide_eq_true (by rw[rowV_len];omega)) ?_
      refine iteT ?_
      exact no H2 s12 (.inl c1)
    · refine ifF (decide_eq_false (by rw[rowV_len];omega)) ?_
      refine⟨_,rfl,ta,r.take n,rfl,h1',lt1,fun H3 s3=>⟨_,rfl,?_⟩⟩
      have s13:=s12.trans s3
      cases c2:Rh04.isTyped (r.take n)with
      | false=>
        refine ifT rfl ?_
        refine iteT ?_
        exact no H3 s13 (.inr (.inl c2))
      | true=>
        refine ifF rfl ?_
        refine⟨_,rfl,wa,r.drop n,rfl,s3 _ _ h2,lt2,fun H4 s4=>⟨_,rfl,?_⟩⟩
        have s14:=s13.trans s4
        cases c3:Rh04.isTyped (r.drop n)with
        | false=>
          refine iteT ?_
          exact no H4 s14 (.inr (.inr c3))
        | true=>
          refine iteF ?_
          have l1:=typed_len c2
          have l2:=typed_len c3
          refine⟨_,rfl,_,rfl,ta,wa,r.take n,r.drop n,rfl,s4 _ _ (s3 _ _ h1'),s4 _ _ (s3 _ _ h2),by omega,by omega,fun H5 s5=>⟨(by show 1≤sizeLine;decide),fun p hp=> ?_⟩⟩
          have s15:=s14.trans s5
          refine said (z:=Rh04.ints [Rh04.faults (r.take n) (r.drop n)]) k ?_ (s15.trans (Same.new hp)) (Same.back s15 hp) upd_same
          show(if r.length < n∨Rh04.isTyped (r.take n)=false∨Rh04.isTyped (r.drop n)=false then _ else _)=_
          rw[if_neg (by rintro(z | z | z);exact c1 z;rw[c2]at z;cases z;rw[c3]at z;cases z)]
end
end TyP
end
section
namespace TyP
open PySem PySem.Spec PyProof.Rows L2 TyR
open Rh04 (Ready Item Weighed)
theorem paired_of {α β:Type} {G:α->β->Prop}:∀{xs:List α} {ys:List β},xs.length=ys.length->(∀(i:Nat) y,ys[i]? =some y->∃x,xs[i]? =some x/\G x y)->Paired G xs ys
  | [],[],_,_=> .nil
  | [],_::_,h,_=>by simp at h
  | _::_,[],h,_=>by simp at h
  | x::xs,y::ys,h,k=>by
    obtain⟨x',e,g⟩:=k 0 y rfl
    simp at e
    subst e
    exact .cons g (paired_of (by simpa using h) fun i z hz=>by
      obtain⟨x'',e,g⟩:=k (i+1) z (by simpa using hz)
      exact⟨x'',by simpa using e,g⟩)
def begun (its:List Item) (r:Word):List Word:=(wtb (ownOf its) r).map (·.1)
theorem begun_eq (its:List Item) (r:Word):begun its r=(its.filter fun x=>Rh04.begins r x.word).map (·.word):=by
  unfold begun wtb ownOf
  rw[List.filter_map,List.map_map]
  rfl
theorem begun_mem {its d:List Item} (hp:its.Perm d) {r w:Word}:w∈begun its r↔∃x∈d,Rh04.begins r x.word=true/\x.word=w:=by
  rw[begun_eq,List.mem_map]
  constructor
  · rintro⟨x,hx,rfl⟩
    exact⟨x,hp.mem_iff.mp (List.mem_filter.mp hx).1,(List.mem_filter.mp hx).2,rfl⟩
  · rintro⟨x,hx,hb,rfl⟩
    exact⟨x,List.mem_filter.mpr ⟨hp.mem_iff.mpr hx,hb⟩,rfl⟩
theorem sure_ok {its d:List Item} (hp:its.Perm d) {r g:Word} (hne:begun its r≠[]) (hg:∀q,q <+:g↔∀w∈begun its r,q <+:w):Rh04.sure d r=g.drop r.length:=by
  have hr:r <+:g:=(hg r).mpr fun w hw=>by
    obtain⟨x,_,hb,rfl⟩:=(begun_mem hp).mp hw
    exact(Ty.begins_iff _ _).mp hb
  obtain⟨g',rfl⟩:=hr
  rw[List.drop_left]
  obtain⟨w0,l0,e0⟩:∃w l,begun its r=w::l:=by
    cases h:begun its r with
    | nil=>exact absurd h hne
    | cons w l=>exact⟨w,l,rfl⟩
  obtain⟨x0,hx0,hb0,_⟩:=(begun_mem hp (w:=w0)).mp (by rw[e0];exact List.mem_cons_self)
  refine Ty.sure_unique hx0 hb0 fun q=> ?_
  rw[←List.prefix_append_right_inj r,hg]
  constructor
  · intro h x hx hb
    exact(Ty.begins_iff _ _).mpr (h _ ((begun_mem hp).mpr ⟨x,hx,hb,rfl⟩))
  · intro h w hw
    obtain⟨x,hx,hb,rfl⟩:=(begun_mem hp).mp hw
    exact(Ty.begins_iff _ _).mp (h x hx hb)
theorem all_empty {its d:List Item} (hp:its.Perm d) (r:Word):(Rh04.all d r).isEmpty=(begun its r).isEmpty:=by
  have h1:(Rh04.all d r).length=(begun its r).length:=by rw[Ty.all_len,begun_eq,List.length_map];exact((hp.filter _).length_eq).symm
  cases e1:Rh04.all d r with
  | nil=>
    rw[e1]at h1
    cases e2:begun its r with
    | nil=>rfl
    | cons a l=>rw[e2]at h1;simp at h1
  | cons a l=>
    rw[e1]at h1
    cases e2:begun its r with
    | nil=>rw[e2]at h1;simp at h1
    | cons b m=>rfl
section
variable {P:Program} {w:World} {K:PySem.W.Frag} {mg:Str->Option Value} {base:Heap}
theorem ok_sure {f D fC fB fS:Addr} {fd fdC fdB fdS:FuncData} (F:Fun K "sure" "Desk.sure" sSure f fd) (T:DTxt K mg D)
    (GC:FnOk P w K mg base CX0 2 fC fdC ["row"] spCan) (bC:Binds K fdC ["row"] []) (gC:mg "can_be_typed"=some (.ref fC)) (kC:PySem.W.keepIn K (.ref fC)=true)
    (GB:FnOk P w K mg base CX0 1 fB fdB ["weights","typed"] spWtb) (bB:Binds K fdB ["weights","typed"] []) (gB:mg "words_that_begin"=some (.ref fB)) (kB:PySem.W.keepIn K (.ref fB)=true)
    (GS:FnOk P w K mg base CX0 2 fS fdS ["words"] spShared) (bS:Binds K fdS ["words"] []) (gS:mg "shared_letters"=some (.ref fS)) (kS:PySem.W.keepIn K (.ref fS)=true):FnOk P w K mg base CX0 3 f fd ["self","letters"] (spSure D):=by
  refine F.ok scSure (fun vs H Q E h=> ?_) (fun cdv A outer s H vs Q X hr h=> ?_)
  · obtain⟨a,dx,ow,us,q,fs,its,d,r,rfl,_⟩:=h
    rfl
  · obtain⟨a,dx,ow,us,q,fs,its,d,r,rfl,ha,DF,W,hq,hl,k⟩:=h
    have nd:=scSure.nd
    obtain⟨t1,g1⟩:=T.m1
    obtain⟨t3,g3⟩:=T.m3
    refine⟨_,pss_cons (ps_if (pt_not (pt_val (pe_call GC hr rfl gC kC bC .nil pass0 (pa_cons (pv 1) pa_nil))))
        (pss_one (ps_ret (pe_lst (pa_cons (pe_glob rfl g1 (v:= .int (-1)) ⟨t1,rfl⟩) pa_nil)))) pss_nil)
      (pss_cons (ps_set (i:=2) nd rfl (Or.inl rfl) (pe_callTy (call_listT rfl) (by rfl) T.b.list boot_list' (pa_cons (pe_call GB (hr.mono (by decide)) rfl gB kB bB .nil pass0 (pa_cons (pe_fld (pv 0) rfl) (pa_cons (pv 1) pa_nil))) pa_nil)))
      (pss_cons (ps_if (pt_cmpR op_eq (pe_callB call_len_seq (by rfl) T.b.len PySem.boot_len (pa_cons (pv 2) pa_nil)) pe_int (by rfl))
        (pss_one (ps_ret (pe_lst (pa_cons (pe_glob rfl g3 (v:= .int (-3)) ⟨t3,rfl⟩) pa_nil)))) pss_nil)
      (pss_cons (ps_set (i:=3) nd rfl (Or.inl rfl) (pe_slice sl_list (pe_call GS hr rfl gS kS bS .nil pass0 (pa_cons (pv 2) pa_nil)) (po_some (pe_callB call_len_seq (by rfl) T.b.len PySem.boot_len (pa_cons (pv 1) pa_nil))) po_none))
      (pss_one (ps_ret (pe_op op_cat (pe_lst (pa_cons (pe_callB call_len_seq (by rfl) T.b.len PySem.boot_len (pa_cons (pv 3) pa_nil)) pa_nil)) (pv 3))))))),?_⟩
    refine⟨_,rfl,q,r,rfl,hq,hl,fun H1 sm=>⟨_,rfl,?_⟩⟩
    cases hw:Rh04.isTyped r with
    | false=>
      refine iteT ?_
      refine⟨(by show 1≤sizeLine;decide),fun p hp=> ?_⟩
      refine said (z:=[-1]) k ?_ (sm.trans (Same.new hp)) (Same.back sm hp) upd_same
      show(if Rh04.isTyped r=false then _ else _)=_
      rw[if_pos hw]
    | true=>
      refine iteF ?_
      have hr12:=typed_len hw
      have W':=W.ok.perm W.perm
      have hkeys:(ownOf its).map (·.1)=its.map (·.word):=by unfold ownOf;rw[List.map_map];rfl
      refine⟨_,rfl,a,D,dx,fs,_,rfl,sm _ _ ha,T.cl,T.no,DF.own,_,rfl,ow,q,ownOf its,r,rfl,sm _ _ W.own,sm _ _ hq,by rw[hkeys];exact W'.nd,by rw[ownOf_len];have:=W'.few;omega,fun x hx=> ?_,by omega,fun H2 c s2 nc hc=> ?_⟩
      · unfold ownOf at hx
        obtain⟨y,hy,rfl⟩:=List.mem_map.mp hx
        have:=W'.len y hy
        show y.word.length≤1000
        omega
      refine⟨c,_,rfl,Rd.of hc,fun l qs nl hql hqs=> ?_⟩
      have s3:Same H2 (upd H2 l (.lst (qs.map V.ref))):=Same.new nl
      have hP:Paired (fun q w=>upd H2 l (.lst (qs.map V.ref)) q=some (.tup (rowV w))) qs (begun its r):=by
        refine paired_of (by rw[hql,dictW_len];unfold begun;rw[List.length_map]) fun i y hy=> ?_
        unfold begun at hy
        obtain⟨z,hz,rfl⟩:=get_map' hy
        obtain⟨q',e1,e2⟩:=hqs i (keyW z.1) (.int ((z.2:Nat):Int)) (dictW_get hz)
        rw[keyW_V]at e2
        exact⟨q',e1,s3 _ _ e2⟩
      have hlq:qs.length=(begun its r).length:=Paired.len hP
      have sA:Same H (upd H2 l (.lst (qs.map V.ref))):=sm.trans (s2.trans s3)
      refine⟨_,rfl,l,_,rfl,.inl (SqL.of upd_same),rfl,_,rfl,?_⟩
      by_cases h0:begun its r=[]
      · refine ifT (decide_eq_true (by rw[List.length_map,hlq,h0];rfl)) ?_
        refine⟨(by show 1≤sizeLine;decide),fun p hp=> ?_⟩
        refine said (z:=[-3]) k ?_ (sA.trans (Same.new hp)) (Same.back sA hp) upd_same
        show(if Rh04.isTyped r=false then _ else _)=_
        rw[if_neg (by rw[hw];exact Bool.false_ne_true.symm),if_pos (by rw[all_empty W.perm,h0];rfl)]
      · refine ifF (decide_eq_false (by
          intro z
          injection z with z
          rw[List.length_map,hlq]at z
          exact h0 (List.eq_nil_of_length_eq_zero (Int.ofNat.inj z)))) ?_
        refine⟨_,rfl,l,qs,begun its r,rfl,upd_same,hP,h0,fun w hw=> ?_,fun H4 c4 g s4 n4 e4 hg hgl=> ?_⟩
        · obtain⟨x,hx,_,rfl⟩:=(begun_mem W.perm).mp hw
          exact W.ok.len x hx
        have sB:=sA.trans s4
        refine⟨_,rfl,q,_,rfl,.inr (SqT.of (sB _ _ hq)),_,rfl,c4,rowV g,rfl,SqL.of e4,fun p hp=> ?_⟩
        have es:=sure_ok W.perm h0 hg
        have ec:cutV (rowV g) (some ((((rowV r).length:Nat):Int))) none=rowV (Rh04.sure d r):=by rw[cut_drop,rowV_len,es]
        rw[ec]
        have hsl:(Rh04.sure d r).length≤10:=by rw[es,List.length_drop];omega
        have s5:Same H4 (upd H4 p (.lst (rowV (Rh04.sure d r)))):=Same.new hp
        refine⟨_,rfl,p,_,rfl,.inl (SqL.of upd_same),(by show 1≤sizeLine;decide),fun c6 n6=> ?_⟩
        have s6:Same (upd H4 p (.lst (rowV (Rh04.sure d r)))) (upd (upd H4 p (.lst (rowV (Rh04.sure d r)))) c6 (.lst [V.int (((rowV (Rh04.sure d r)).length:Nat):Int)])):=Same.new n6
        refine⟨_,rfl,c6,p,_,_,rfl,rfl,upd_same,s6 _ _ upd_same,?_,fun c7 n7=> ?_⟩
        · rw[rowV_len];exact Nat.le_of_lt (small20k (by simp only[List.length_cons,List.length_nil];omega))
        have sC:=sB.trans (s5.trans s6)
        refine said (z:=Rh04.told (Rh04.sure d r)) k ?_ (sC.trans (Same.new n7)) (Same.back sC n7) ?_
        · show(if Rh04.isTyped r=false then _ else _)=_
          rw[if_neg (by rw[hw];exact Bool.false_ne_true.symm),if_neg (by rw[all_empty W.perm];simpa using h0)]
        · rw[upd_same,rowV_len]
          unfold Rh04.told Rh04.ints rowV
          rw[List.map_map]
          rfl
end
end TyP
end
section
namespace TyP
open PySem PySem.Spec PyProof.Rows L2 TyR
open Rh04 (Ready Item Weighed)
theorem cut_take (xs:List V) (n:Nat):cutV xs none (some (n:Int))=xs.take n:=by
  unfold cutV
  rw[HT.sIx_none,HT.sIx_nat,List.drop_zero,Nat.sub_zero]
  by_cases h:n≤xs.length
  · rw[Nat.min_eq_left h]
  · rw[Nat.min_eq_right (by omega),List.take_length,List.take_of_length_le (by omega)]
def flatN (l:List (Weighed×Nat)):List Nat:=l.flatMap fun x=>x.1.1.length::x.1.1++[x.1.2,x.2]
theorem flatN_snoc (l:List (Weighed×Nat)) (x:Weighed×Nat):flatN (l++[x])=flatN l++(x.1.1.length::x.1.1++[x.1.2,x.2]):=by
  unfold flatN
  rw[List.flatMap_append,List.flatMap_singleton]
theorem flatN_len {l:List (Weighed×Nat)} (h:∀x∈l,x.1.1.length≤10):(flatN l).length≤13 * l.length:=by
  unfold flatN
  induction l with
  | nil=>simp
  | cons x l ih=>
    rw[List.flatMap_cons,List.length_append,List.length_cons]
    have:=ih fun y hy=>h y (List.mem_cons_of_mem _ hy)
    have:=h x List.mem_cons_self
    simp only[List.length_append,List.length_cons,List.length_nil]at *
    omega
theorem paired_take {α β:Type} {G:α->β->Prop}:∀{xs:List α} {ys:List β} (n:Nat),Paired G xs ys->Paired G (xs.take n) (ys.take n)
  | _,_,0,_=>by rw[List.take_zero,List.take_zero];exact .nil
  | _,_,_+1,.nil=>by rw[List.take_nil,List.take_nil];exact .nil
  | _,_,n+1,.cons h r=>by rw[List.take_succ_cons,List.take_succ_cons];exact .cons h (paired_take n r)
section
variable {P:Program} {w:World} {K:PySem.W.Frag} {mg:Str->Option Value} {base:Heap}
theorem ok_near {f D fN fC fR fT:Addr} {fd fdN fdC fdR fdT:FuncData} (F:Fun K "near" "Desk.near" sNearM f fd) (T:DTxt K mg D) (T2:DTxt2 K mg D)
    (GN:FnOk P w K mg base CX0 1 fN fdN ["self"] (spNow D)) (bN:Binds K fdN ["self"] []) (mN:Meth K D "weights_now" fN)
    (GC:FnOk P w K mg base CX0 2 fC fdC ["row"] spCan) (bC:Binds K fdC ["row"] []) (gC:mg "can_be_typed"=some (.ref fC)) (kC:PySem.W.keepIn K (.ref fC)=true)
    (GR:FnOk P w K mg base CX0 4 fR fdR ["weights","typed","most_faults"] spNear) (bR:Binds K fdR ["weights","typed","most_faults"] []) (gR:mg "near_words"=some (.ref fR)) (kR:PySem.W.keepIn K (.ref fR)=true)
    (GT:FnOk P w K mg base CX0 1 fT fdT ["word","weight"] spTw) (bT:Binds K fdT ["word","weight"] []) (gT:mg "told_with_weight"=some (.ref fT)) (kT:PySem.W.keepIn K (.ref fT)=true):
    FnOk P w K mg base CX0 5 f fd ["self","e","k","letters"] (spNearM D):=by
  refine F.ok scNearM (fun vs H Q E h=> ?_) (fun cdv A outer s H vs Q X hr h=> ?_)
  · obtain⟨a,dx,ow,us,q,fs,its,d,e,n,r,rfl,_⟩:=h
    rfl
  · obtain⟨a,dx,ow,us,q,fs,its,d,e,n,r,rfl,ha,DF,W,hq,hl,k⟩:=h
    have nd:=scNearM.nd
    obtain⟨t1,g1⟩:=T.m1
    obtain⟨tm,gm⟩:=T2.mf
    refine⟨_,pss_cons (ps_if (PW.pt (pw_or (pt_cmpR op_gt (pv 1) (pe_glob rfl gm (v:= .int 3) ⟨tm,rfl⟩) (by rfl)) (pw_or1 (pt_not (pt_val (pe_call GC (hr.mono (by decide)) rfl gC kC bC .nil pass0 (pa_cons (pv 3) pa_nil)))))))
        (pss_one (ps_ret (pe_lst (pa_cons (pe_glob rfl g1 (v:= .int (-1)) ⟨t1,rfl⟩) pa_nil)))) pss_nil)
      (pss_cons (ps_set (i:=4) nd rfl (Or.inl rfl) (pe_call GR hr rfl gR kR bR .nil pass0 (pa_cons (pe_meth0 (pv 0) T.cl mN GN (hr.mono (by decide)) bN .nil pass0) (pa_cons (pv 3) (pa_cons (pv 1) pa_nil)))))
      (pss_cons (ps_set (i:=5) nd rfl (Or.inl rfl) (pe_lst (pa_cons (pe_callB call_len_seq (by rfl) T.b.len PySem.boot_len (pa_cons (pv 4) pa_nil)) (pa_cons (pe_callB (call_min2 rfl) (by rfl) T.b.min boot_min' (pa_cons (pv 2) (pa_cons (pe_callB call_len_seq (by rfl) T.b.len PySem.boot_len (pa_cons (pv 4) pa_nil)) pa_nil))) pa_nil))))
      (pss_cons (ps_for PassesOwn.never rfl (pi_list (pe_slice sl_list (pv 4) po_none (po_some (pv 2)))) (pg_tup rfl (pgs_cons (pg_name (i:=6) nd rfl (Or.inl rfl)) (pgs_cons (pg_name (i:=7) nd rfl (Or.inl rfl)) (pgs_cons (pg_name (i:=8) nd rfl (Or.inl rfl)) pgs_nil))))
        (pss_cons (ps_expr (pe_bm PySem.F.plainAttrs_list PySem.F.slot_list_extend PySem.F.type_list_extend mt_extend (pv 5) (pa_cons (pe_call GT (hr.mono (by decide)) rfl gT kT bT .nil pass0 (pa_cons (pv 6) (pa_cons (pv 7) pa_nil))) pa_nil)))
        (pss_one (ps_expr (pe_bm PySem.F.plainAttrs_list PySem.F.slot_list_append PySem.F.type_list_append mt_append (pv 5) (pa_cons (pv 8) pa_nil))))))
      (pss_one (ps_ret (pv 5)))))),?_⟩
    have no:∀H3:Hp,Same H H3->(3 < e∨Rh04.isTyped r=false)->1≤sizeLine/\∀p,H3 p=none->Q (.ref p) (upd H3 p (.lst [V.int (-1)])):=fun H3 s3 hno=>by
      refine⟨by decide,fun p hp=>said (z:=[-1]) k ?_ (s3.trans (Same.new hp)) (Same.back s3 hp) upd_same⟩
      show(if 3 < e∨Rh04.isTyped r=false then _ else _)=_
      rw[if_pos hno]
    refine⟨_,rfl,_,_,rfl,rfl,_,rfl,?_⟩
    by_cases c1:3 < e
    · refine ifT (decide_eq_true (by omega)) ?_
      refine iteT ?_
      exact no H (Same.refl _) (.inl c1)
    · refine ifF (decide_eq_false (by omega)) ?_
      refine⟨_,rfl,q,r,rfl,hq,hl,fun H1 sm=>⟨_,rfl,?_⟩⟩
      cases hw:Rh04.isTyped r with
      | false=>
        refine iteT ?_
        exact no H1 sm (.inr hw)
      | true=>
        refine iteF ?_
        have hr12:=typed_len hw
        have W':=W.ok.perm W.perm
        refine⟨_,rfl,a,dx,fs,rfl,sm _ _ ha,DF.now,a,dx,ow,us,fs,its,d,rfl,sm _ _ ha,DF,W.same sm,fun H2 c s2 nc hc=> ?_⟩
        have s12:=sm.trans s2
        refine⟨_,rfl,_,rfl,c,q,wdOf its,r,e,rfl,hc,s12 _ _ hq,by rw[wdOf_keys];exact W'.nd,by unfold wdOf;rw[List.length_map];exact W'.few,fun x hx=> ?_,by omega,fun H3 l ts out s3 nl hl3 hF hsort hperm=> ?_⟩
        · unfold wdOf at hx
          obtain⟨y,hy,rfl⟩:=List.mem_map.mp hx
          have:=W'.len y hy
          show y.word.length≤100
          omega
        have s13:=s12.trans s3
        have hlen10:∀x∈out,x.1.1.length≤10:=fun x hx=>by
          obtain⟨y,hy,rfl⟩:=List.mem_map.mp (hperm.mem_iff.mp hx)
          have hy':=(List.mem_filter.mp hy).1
          unfold wdOf at hy'
          obtain⟨z,hz,rfl⟩:=List.mem_map.mp hy'
          exact W'.len z hz
        have hol:out.length≤60:=by
          rw[hperm.length_eq,List.length_map]
          refine Nat.le_trans (List.length_filter_le _ _) ?_
          unfold wdOf;rw[List.length_map];exact W'.few
        have eout:out=Rh04.near d e r:=by
          refine Ty.near_unique W.perm W.ok.nd hsort (hperm.trans (List.Perm.of_eq ?_))
          unfold wdOf
          rw[List.filter_map,List.map_map]
          rfl
        have htl:ts.length=out.length:=Paired.len hF
        refine⟨_,rfl,l,_,rfl,.inl (SqL.of hl3),_,rfl,_,rfl,l,_,rfl,.inl (SqL.of hl3),_,_,rfl,(by show 2≤sizeLine;decide),fun c4 n4=> ?_⟩
        have em:(if (((ts.map V.ref).length:Nat):Int) < ((n:Nat):Int)then(((ts.map V.ref).length:Nat):Int)else((n:Nat):Int))=(((out.take n).length:Nat):Int):=by
          rw[List.length_map,List.length_take,htl]
          split <;> omega
        rw[em,List.length_map,htl]
        have s4:Same H3 (upd H3 c4 (.lst [V.int ((out.length:Nat):Int),V.int (((out.take n).length:Nat):Int)])):=Same.new n4
        refine⟨_,rfl,_,rfl,_,rfl,l,_,rfl,SqL.of (s4 _ _ hl3),fun p hp=> ?_⟩
        rw[cut_take,←List.map_take]
        have s5:Same (upd H3 c4 (.lst [V.int ((out.length:Nat):Int),V.int (((out.take n).length:Nat):Int)])) (upd (upd H3 c4 (.lst [V.int ((out.length:Nat):Int),V.int (((out.take n).length:Nat):Int)])) p (.lst ((ts.take n).map V.ref))):=Same.new hp
        have hcp:c4≠p:=fun z=>by rw[←z,upd_same]at hp;cases hp
        have s35:Same H3 (upd (upd H3 c4 (.lst [V.int ((out.length:Nat):Int),V.int (((out.take n).length:Nat):Int)])) p (.lst ((ts.take n).map V.ref))):=s4.trans s5
        have hFt:=paired_take n hF
        have hlt:(ts.take n).length=(out.take n).length:=Paired.len hFt
        have hlen10t:∀x∈out.take n,x.1.1.length≤10:=fun x hx=>hlen10 x (List.mem_of_mem_take hx)
        have holt:(out.take n).length≤60:=by rw[List.length_take];omega
        refine⟨p,rfl,⟨_,SqL.of upd_same⟩,for_list (K:=K) (a:=p) (xs:=(ts.take n).map V.ref) (fun i σ H'=>∃v6 v7 v8:Option V,σ=[some (.ref a),some (.int ((e:Nat):Int)),some (.int ((n:Nat):Int)),some (.ref q),some (.ref l),some (.ref c4),v6,v7,v8]/\Same H3 H'/\H' p=some (.lst ((ts.take n).map V.ref))/\
            H' c4=some (.lst ([V.int ((out.length:Nat):Int),V.int (((out.take n).length:Nat):Int)]++rowV (flatN ((out.take n).take i)))))
          ⟨none,none,none,rfl,s35,upd_same,by rw[upd_ne hcp,upd_same];rfl⟩ (fun i σ H' _ ⟨_,_,_,_,_,h1,_⟩=>SqL.of h1) ?_ ?_⟩
        · rintro i y σ H' hi ⟨v6,v7,v8,rfl,s6,hp6,hc6⟩
          rw[List.getElem?_map]at hi
          obtain⟨b,hb,rfl⟩:=Option.map_eq_some_iff.mp hi
          obtain⟨x,hx,fq,f1,f2⟩:=paired_get hFt hb
          have hx10:=hlen10t x (List.mem_of_getElem? hx)
          have hfl:(flatN ((out.take n).take i)).length≤13 * 60:=by
            have:=flatN_len (l:=(out.take n).take i) fun y hy=>hlen10t y (List.mem_of_mem_take hy)
            rw[List.length_take]at this
            omega
          refine⟨b,_,rfl,SqT.of (s6 _ _ f1),rfl,_,_,rfl,_,_,rfl,_,_,rfl,rfl,?_⟩
          refine⟨_,rfl,.inl ⟨rfl,_,SqL.of hc6⟩,_,rfl,_,rfl,fq,x.1.1,x.1.2,rfl,s6 _ _ f2,by omega,fun H7 c7 s7 n7 e7=> ?_⟩
          refine⟨c4,c7,_,_,rfl,rfl,s7 _ _ hc6,e7,?_,?_⟩
          · simp only[List.length_append,rowV_len,List.length_cons,List.length_nil]
            exact Nat.le_of_lt (small20k (by omega))
          refine⟨_,rfl,.inl ⟨rfl,_,SqL.of upd_same⟩,_,rfl,c4,_,_,rfl,rfl,upd_same,?_,?_⟩
          · simp only[List.length_append,rowV_len,List.length_cons,List.length_nil]
            exact small20k (by omega)
          refine⟨_,_,_,rfl,fun z o g=> ?_,?_,?_⟩
          · have g6:=s7 _ _ (s6 z o g)
            rw[upd_ne (ne_of_none g n4),upd_ne (ne_of_none g n4)]
            exact g6
          · rw[upd_ne (Ne.symm hcp),upd_ne (Ne.symm hcp)]
            exact s7 _ _ hp6
          · rw[upd_same,take_snoc hx,flatN_snoc,rowV_append (flatN ((out.take n).take i))]
            congr 2
            rw[List.append_assoc,List.append_assoc]
            congr 2
            show rowV (x.1.1.length::x.1.1++[x.1.2])++[V.int ((x.2:Nat):Int)]=rowV (x.1.1.length::x.1.1++[x.1.2,x.2])
            rw[rowV_append,rowV_append,List.append_assoc]
            rfl
        · rintro σ H' ⟨v6,v7,v8,rfl,s6,hp6,hc6⟩
          rw[List.length_map,hlt,List.take_length]at hc6
          refine⟨_,rfl,said (z:=(((out.length:Nat):Int))::((((out.take n).length:Nat):Int)::Rh04.ints (flatN (out.take n)))) k ?_ (s13.trans s6) (Same.back s13 n4) ?_⟩
          · show(if 3 < e∨Rh04.isTyped r=false then _ else _)=_
            rw[if_neg (by rintro(z | z);exact c1 z;rw[hw]at z;cases z),←eout]
            rfl
          · rw[hc6]
            unfold Rh04.ints rowV
            rw[List.map_cons,List.map_cons,List.map_map]
            rfl
end
end TyP
end
section
namespace TyP
open PySem PySem.Spec PyProof.Rows L2 TyR
open Rh04 (Ready Item Weighed)
inductive spKeysM (D:Addr) (vs:List V) (H:Hp) (Q:VK) (xk_:XK):Prop
  | mk (a dx ow us q:Addr) (fs:List (Str×V)) (its d:List Item) (k:Nat) (r:Word) (h_0:vs=[.ref a,.int ((k:Nat):Int),.ref q]) (h_1:H a=some (.ins D dx fs)) (h_2:DeskF fs ow us) (h_3:WordsAt H ow us its d) (h_4:H q=some (.tup (rowV r))) (h_5:r.length≤1000) (h_6:Said H d (.keys k r) Q):spKeysM D vs H Q xk_
def ways (d:List Item) (k:Nat) (w:Word) (i:Nat):List (Nat×Nat):=(w.length+1,w.length)::(List.range i).filterMap fun s=>(Rh04.pressed d k w s).map fun n=>(n,s)
theorem ways_yes {d:List Item} {k:Nat} {w:Word} {i n:Nat} (h:Rh04.pressed d k w i=some n):ways d k w (i+1)=ways d k w i++[(n,i)]:=by
  unfold ways
  rw[List.range_succ,List.filterMap_append,List.cons_append]
  congr 2
  rw[List.filterMap_cons,h]
  rfl
theorem ways_no {d:List Item} {k:Nat} {w:Word} {i:Nat} (h:Rh04.pressed d k w i=none):ways d k w (i+1)=ways d k w i:=by
  unfold ways
  rw[List.range_succ,List.filterMap_append]
  congr 1
  rw[List.filterMap_cons,h]
  simp
theorem ways_mem {d:List Item} {k:Nat} {w:Word} {i:Nat} {x:Nat×Nat}:x∈ways d k w i↔x=(w.length+1,w.length)∨(x.2 < i/\Rh04.pressed d k w x.2=some x.1):=by
  unfold ways
  rw[List.mem_cons,List.mem_filterMap]
  constructor
  · rintro(h | ⟨s,hs,h⟩)
    · exact .inl h
    · obtain⟨n,hn,rfl⟩:=Option.map_eq_some_iff.mp h
      exact .inr ⟨List.mem_range.mp hs,hn⟩
  · rintro(h | ⟨h1,h2⟩)
    · exact .inl h
    · exact .inr ⟨x.2,List.mem_range.mpr h1,by rw[h2];rfl⟩
theorem ways_len {d:List Item} {k:Nat} {w:Word} {i:Nat}:(ways d k w i).length≤i+1:=by
  unfold ways
  rw[List.length_cons]
  have:=List.length_filterMap_le (fun s=>(Rh04.pressed d k w s).map fun n=>(n,s)) (List.range i)
  rw[List.length_range]at this
  omega
theorem lex2 (a b c e:Nat) (h:HT.lexLt [((a:Nat):Int),((b:Nat):Int)] [((c:Nat):Int),((e:Nat):Int)]=false):Ty.ahead (c,e) (a,b):=by
  rw[HT.lexLt_cons]at h
  unfold Ty.ahead
  by_cases h1:a=c
  · rw[if_pos (by omega),HT.lexLt_cons]at h
    by_cases h2:b=e
    · exact .inr ⟨h1.symm,by show e≤b;omega⟩
    · rw[if_neg (by omega),decide_eq_false_iff_not]at h
      exact .inr ⟨h1.symm,by show e≤b;omega⟩
  · rw[if_neg (by omega),decide_eq_false_iff_not]at h
    exact .inl (by show c < a;omega)
theorem keys_least {d:List Item} {k:Nat} {w:Word} {x:Nat×Nat} (hx:x∈ways d k w (w.length+1)) (h:∀y∈ways d k w (w.length+1),HT.lexLt [((y.1:Nat):Int),((y.2:Nat):Int)] [((x.1:Nat):Int),((x.2:Nat):Int)]=false):Rh04.keys d k w=x:=by
  refine Ty.keys_unique (fun i hi n hn=>lex2 _ _ _ _ (h (n,i) (ways_mem.mpr (.inr ⟨by show i < w.length+1;omega,hn⟩)))) (lex2 _ _ _ _ (h _ (ways_mem.mpr (.inl rfl)))) ?_
  rcases ways_mem.mp hx with e | ⟨e1,e2⟩
  · exact .inl e
  · exact .inr ⟨by omega,e2⟩
theorem first_at:∀(l:List Weighed) (w:Word),(l.any fun x=>x.1 == w)=true->(l.map (·.1))[(l.takeWhile fun x=>x.1 != w).length]? =some w/\∀m,m < (l.takeWhile fun x=>x.1 != w).length->(l.map (·.1))[m]? ≠some w
  | [],_,h=>by simp at h
  | x::l,w,h=>by
    by_cases e:x.1=w
    · rw[List.takeWhile_cons,if_neg (by simp[e])]
      exact⟨by simp[e],fun m hm=>absurd hm (Nat.not_lt_zero _)⟩
    · have h':(l.any fun x=>x.1 == w)=true:=by
        rw[List.any_cons]at h
        simpa [e] using h
      obtain⟨h1,h2⟩:=first_at l w h'
      rw[List.takeWhile_cons,if_pos (by simpa using e),List.length_cons]
      refine⟨by simpa using h1,fun m hm=> ?_⟩
      cases m with
      | zero=>simpa using e
      | succ m=>simpa using h2 m (by omega)
def WayAt (H:Hp) (b:Addr) (x:Nat×Nat):Prop:=H b=some (.tup [.int ((x.1:Nat):Int),.int ((x.2:Nat):Int)])
theorem way_keep {H H':Hp} (k:∀y ys,H y=some (.tup ys)->H' y=some (.tup ys)):∀{ts:List Addr} {ws:List (Nat×Nat)},Paired (WayAt H) ts ws->Paired (WayAt H') ts ws
  | _,_,.nil=> .nil
  | _,_,.cons h r=> .cons (k _ _ h) (way_keep k r)
theorem way_ti {K:PySem.W.Frag} {H:Hp}:∀{ts:List Addr} {ws:List (Nat×Nat)},Paired (WayAt H) ts ws->Paired (TI1 K H) (ws.map fun x=>[((x.1:Nat):Int),((x.2:Nat):Int)]) (ts.map V.ref)
  | _,_,.nil=> .nil
  | _,_,.cons h r=> .cons ⟨_,rfl,SqT.of h⟩ (way_ti r)
section
variable {P:Program} {w:World} {K:PySem.W.Frag} {mg:Str->Option Value} {base:Heap}
theorem scKeys:FnScope ["self","k","letters","weights","ways","size","told","row","weight"] ["self","k","letters"] (defScope sKeys):=⟨rfl,rfl,rfl,by decide +kernel,rfl,by decide +kernel,by decide +kernel⟩
theorem ok_keys {f D S E fN fI fT fC fW:Addr} {fd fdN fdI fdT fdC fdW:FuncData} (F:Fun K "keys_to" "Desk.keys_to" sKeys f fd) (G:Fns P w K mg base D S E fN fI fT fC fW fdN fdI fdT fdC fdW):FnOk P w K mg base CX0 6 f fd ["self","k","letters"] (spKeysM D):=by
  have T:=G.T
  refine F.ok scKeys (fun vs H Q E h=> ?_) (fun cdv A outer s H vs Q X hr h=> ?_)
  · obtain⟨a,dx,ow,us,q,fs,its,d,k,r,rfl,_⟩:=h
    rfl
  · obtain⟨a,dx,ow,us,q,fs,its,d,n,r,rfl,ha,DF,W,hq,hl,k⟩:=h
    have hu:=hu_of hr
    have nd:=scKeys.nd
    have hr1:=hr.mono (show 1≤5 by decide)
    obtain⟨t3,g3⟩:=T.m3
    refine⟨_,pss_cons (ps_if (pt_cmp (pc_dnotin hu (pv 2) (pe_fld (pv 0) rfl)))
        (pss_one (ps_ret (pe_lst (pa_cons (pe_glob rfl g3 (v:= .int (-3)) ⟨t3,rfl⟩) pa_nil)))) pss_nil)
      (pss_cons (ps_set (i:=3) nd rfl (Or.inl rfl) (pe_meth0 (pv 0) T.cl G.mN G.GN (hr.mono (by decide)) G.bN .nil pass0))
      (pss_cons (ps_set (i:=4) nd rfl (Or.inl rfl) (pe_lst (pa_cons (pe_tup (pa_cons (pe_op op_add (pe_callB call_len_seq (by rfl) T.b.len PySem.boot_len (pa_cons (pv 2) pa_nil)) pe_int) (pa_cons (pe_callB call_len_seq (by rfl) T.b.len PySem.boot_len (pa_cons (pv 2) pa_nil)) pa_nil))) pa_nil)))
      (pss_cons (ps_for PassesOwn.never rfl (pi_range1 (by rfl) T.b.range (pa_cons (pe_op op_add (pe_callB call_len_seq (by rfl) T.b.len PySem.boot_len (pa_cons (pv 2) pa_nil)) pe_int) pa_nil)) (pg_name (i:=5) nd rfl (Or.inl rfl))
        (pss_cons (ps_setLc (i:=6) (own:=[("row",7),("weight",8)]) (g:=gTup K 2 (gCons (gName 7) (gCons (gName 8) gNil))) rfl nd rfl rfl (sw_true rfl rfl rfl rfl)
            (pi_list (pe_meth (pe_make G.M G.GI hr rfl G.gS G.bI .nil pass0 (pa_cons (pv 3) (pa_cons (pe_slice sl_tup4 (pv 2) po_none (po_some (pv 5))) pa_nil))) G.U.cl G.mT G.GT hr G.bT .nil pass0 (pa_cons (pv 1) pa_nil)))
            (blkOk_by (by show blkC ["self","k","letters","weights","ways","size","told","row","weight"] (defScope sKeys) _ _=true;decide +kernel))
            (fun _ _ _ _ _=>pg_tup rfl (pgs_cons (pg_name (i:=7) nd rfl (Or.inl rfl) (.inr rfl)) (pgs_cons (pg_name (i:=8) nd rfl (Or.inl rfl) (.inr rfl)) pgs_nil))) (fun _ _ _ _ _=>pts_nil) (fun _ _ _ _ _=>pv 7))
        (pss_one (ps_if (pt_cmpR (op_inT hr1) (pv 2) (pv 6) (by rfl))
          (pss_one (ps_expr (pe_bm PySem.F.plainAttrs_list PySem.F.slot_list_append PySem.F.type_list_append mt_append (pv 4)
            (pa_cons (pe_tup (pa_cons (pe_op op_add (pe_op op_add (pv 5) (pe_bm PySem.F.plainAttrs_list PySem.F.slot_list_index PySem.F.type_list_index (mt_indexT hr1) (pv 6) (pa_cons (pv 2) pa_nil))) pe_int) (pa_cons (pv 5) pa_nil))) pa_nil)))) pss_nil))))
      (pss_one (ps_ret (pe_callTy call_list_of (by rfl) T.b.list boot_list' (pa_cons (pe_callB (call_minT hr1) (by rfl) T.b.min boot_min' (pa_cons (pv 4) pa_nil)) pa_nil))))))),?_⟩
    have hq':H q=some (.tup ((keyW r).map kV)):=by rw[keyW_V];exact hq
    refine⟨_,rfl,_,rfl,a,_,dx,_,_,rfl,ha,T.cl,T.no,DF.own,ow,_,rfl,get_own W hq,_,rfl,?_⟩
    rw[Option.isSome_map]
    cases hf:Rh04.find_ d r with
    | none=>
      refine iteT ?_
      refine⟨(by show 1≤sizeLine;decide),fun p hp=> ?_⟩
      refine said (z:=[-3]) k ?_ (Same.new hp) hp upd_same
      show(if (Rh04.find_ d r).isNone=true then _ else _)=_
      rw[hf]
      rfl
    | some x0=>
      refine iteF ?_
      have hx0:x0∈d:=List.mem_of_find?_eq_some hf
      have ex0:x0.word=r:=by
        have:=List.find?_some hf
        simpa using this
      have hr10:r.length≤10:=by rw[←ex0];exact W.ok.len x0 hx0
      refine⟨_,rfl,a,dx,fs,rfl,ha,DF.now,a,dx,ow,us,fs,its,d,rfl,ha,DF,W,fun H1 c s1 nc hc=> ?_⟩
      have hq1:=s1 _ _ hq
      refine⟨_,rfl,q,_,rfl,.inr (SqT.of hq1),_,_,rfl,rfl,_,rfl,q,_,rfl,.inr (SqT.of hq1),(by show 2≤sizeLine;decide),fun t0 nt0=>⟨(by show 1≤sizeLine;decide),fun ys nys=> ?_⟩⟩
      have s2:Same H1 (upd H1 t0 (.tup [V.int ((((rowV r).length:Nat):Int)+1),V.int (((rowV r).length:Nat):Int)])):=Same.new nt0
      have s3:=s2.trans (Same.new (o:= .lst [V.ref t0]) nys)
      have nys1:H1 ys=none:=Same.back s2 nys
      refine⟨_,rfl,q,_,rfl,.inr (SqT.of (s3 _ _ hq1)),_,_,rfl,rfl,_,rfl,by rw[rowV_len];omega,by rw[rowV_len];omega,?_⟩
      have en:((((rowV r).length:Nat):Int)+1).toNat=r.length+1:=by rw[rowV_len];omega
      rw[en]
      refine for_range (lo:=0) (n:=r.length+1) (fun i σ H'=>∃(ts:List Addr) (v5 v6 v7 v8:Option V),σ=[some (.ref a),some (.int ((n:Nat):Int)),some (.ref q),some (.ref c),some (.ref ys),v5,v6,v7,v8]/\Same H1 H'/\H' ys=some (.lst (ts.map V.ref))/\Paired (WayAt H') ts (ways d n r i))
        ⟨[t0],none,none,none,none,rfl,s3,upd_same,.cons ?_ .nil⟩ ?_ ?_
      · show upd _ ys _ t0=_
        rw[upd_ne (fun z=>by rw[z]at nys;rw[upd_same]at nys;cases nys),upd_same,rowV_len]
        rfl
      · rintro i σ H2 hi ⟨ts,v5,v6,v7,v8,rfl,sm2,hys2,hP2⟩
        dsimp only [tNext,tSeq,tAsg,tLc,iList]
        refine meth_of ?_
        refine⟨_,rfl,_,rfl,_,rfl,_,rfl,q,rowV r,rfl,sm2 _ _ hq1,fun tq H3 s23 htq=>fun x xd nx nxd hne=> ?_⟩
        rw[Int.zero_add,cut_row]at htq
        have s34:Same H3 (upd (upd H3 xd (.own x)) x (.ins S xd [])):=(Same.new nxd).trans (Same.new (by rw[upd_ne (Ne.symm hne)];exact nx))
        refine⟨x,c,tq,xd,d,its,r.take i,rfl,upd_same,s34 _ _ (s23 _ _ (sm2 _ _ hc)),s34 _ _ htq,W.perm,W.ok,(by rw[List.length_take];omega),fun H4 rd wd hd nrd nwd nhd SA st4=>⟨rfl,?_⟩⟩
        have s24:Same H2 H4:=fun y o g=>st4 y o (s34 _ _ (s23 _ _ g)) (ne_of_none (s23 _ _ g) nx)
        obtain⟨⟨xd4,wt,hv,as,rs,hx4,_⟩,_⟩:=id SA
        obtain⟨b1,b2,_⟩:=SA.told n
        refine⟨x,xd4,_,rfl,hx4,sf_tell _ _ _ _,_,rfl,x,rd,wd,hd,n,r.take i,_,rfl,SA,fun H6 tt ntt TA SA6 st6=> ?_⟩
        have s26:Same H2 H6:=fun y o g=>st6 y o (s24 _ _ g) (ne_of_none (s23 _ _ g) nx) (ne_of_none (s34 _ _ (s23 _ _ g)) nrd)
        obtain⟨tts,ht1,ht2⟩:=id TA
        have hbest:(Rh04.more n (Rh04.start d (r.take i))).1=Rh04.best d (r.take i) n:=rfl
        rw[hbest]at ht2 b1 b2
        generalize hl0:Rh04.best d (r.take i) n=l at ht2 b1 b2
        have hpr:∀j0,(l.takeWhile fun x=>x.1 != r).length=j0->(l.any fun x=>x.1 == r)=true->Rh04.pressed d n r i=some (i+j0+1):=fun j0 e hb=>by
          unfold Rh04.pressed
          rw[hl0,if_pos hb,e]
        have hpn:¬(l.any fun x=>x.1 == r)=true->Rh04.pressed d n r i=none:=fun hb=>by
          unfold Rh04.pressed
          rw[hl0,if_neg hb]
        have hlt:tts.length=l.length:=Paired.len ht2
        refine⟨tt,rfl,⟨_,SqL.of ht1⟩,fun D hD=>lc_list (K:=K) (a:=tt) (xs:=tts.map V.ref) (fun j H'=>∃qs:List Addr,Same H6 H'/\H' D=some (.lst (qs.map V.ref))/\Paired (fun q w=>H6 q=some (.tup (rowV w))) qs ((l.take j).map (·.1)))
          ⟨[],Same.new hD,upd_same,.nil⟩ (fun j H' _ ⟨_,s7,_⟩=>SqL.of (s7 _ _ ht1)) ?_ ?_⟩
        · rintro j y H7 hy ⟨qs,s7,hD7,hqs⟩
          rw[List.getElem?_map]at hy
          obtain⟨b,hb,rfl⟩:=Option.map_eq_some_iff.mp hy
          obtain⟨z,hz,q',g1,g2⟩:=paired_get ht2 hb
          have hql:qs.length≤1400:=by
            have:=Paired.len hqs
            rw[List.length_map,List.length_take]at this
            omega
          refine⟨b,_,rfl,SqT.of (s7 _ _ g1),rfl,_,_,rfl,_,_,rfl,rfl,rfl,?_⟩
          unfold tYes
          dsimp only
          first | rw[if_pos rfl] | skip
          refine⟨_,rfl,qs.map V.ref,hD7,by rw[List.length_map];exact small20k (by omega),qs++[q'],fun y o g=>by rw[upd_ne (ne_of_none g hD)];exact s7 _ _ g,by rw[upd_same,List.map_append];rfl,?_⟩
          rw[take_snoc hz,List.map_append]
          exact TyR.Paired.snoc hqs g2
        · rintro H7 ⟨qs,s7,hD7,hqs⟩
          rw[List.length_map,hlt,List.take_length]at hqs
          have s27:Same H2 H7:=s26.trans s7
          have hqs7:Paired (TI1 K H7) ((l.map (·.1)).map intsW) (qs.map V.ref):=ti_all (Paired.imp' (fun _ _ z=>s7 _ _ z) hqs)
          have tq7:TI1 K H7 (intsW r) (.ref q):=⟨q,rfl,by rw[←rowV_ints];exact SqT.of (s27 _ _ (sm2 _ _ hq1))⟩
          have hmem:intsW r∈(l.map (·.1)).map intsW↔(l.any fun x=>x.1 == r)=true:=by
            rw[List.any_eq_true,List.mem_map]
            constructor
            · rintro⟨u,hu,e⟩
              obtain⟨z,hz,rfl⟩:=List.mem_map.mp hu
              exact⟨z,hz,by rw[beq_iff_eq];exact intsW_inj.mp e⟩
            · rintro⟨z,hz,e⟩
              exact⟨z.1,List.mem_map_of_mem hz,by rw[beq_iff_eq.mp e]⟩
          refine⟨_,rfl,_,rfl,D,qs.map V.ref,_,intsW r,rfl,SqL.of hD7,tq7,hqs7,_,rfl,?_⟩
          by_cases hb:(l.any fun x=>x.1 == r)=true
          · refine ifT (decide_eq_true (hmem.mpr hb)) ?_
            obtain⟨f1,f2⟩:=first_at l r hb
            have epr:=hpr _ rfl hb
            generalize (l.takeWhile fun x=>x.1 != r).length=j0 at f1 f2 epr
            have hts:ts.length≤100:=by
              have:=Paired.len hP2
              have h5:=ways_len (d:=d) (k:=n) (w:=r) (i:=i)
              omega
            refine⟨_,rfl,.inl ⟨rfl,_,SqL.of (s27 _ _ hys2)⟩,_,rfl,_,rfl,.inl ⟨rfl,_,SqL.of hD7⟩,_,rfl,D,qs.map V.ref,_,_,intsW r,j0,rfl,rfl,SqL.of hD7,tq7,hqs7,?_,?_,_,_,rfl,rfl,_,_,rfl,rfl,_,rfl,(by show 2≤sizeLine;decide),fun b nb=> ?_⟩
            · rw[List.getElem?_map,f1];rfl
            · intro m hm z
              rw[List.getElem?_map]at z
              obtain⟨u,hu,e⟩:=Option.map_eq_some_iff.mp z
              exact f2 m hm (by rw[hu,intsW_inj.mp e])
            have s8:Same H7 (upd H7 b (.tup [V.int (0+((i:Nat):Int)+((j0:Nat):Int)+1),V.int (0+((i:Nat):Int))])):=Same.new nb
            have nby:b≠ys:=fun z=>by rw[z,s27 _ _ hys2]at nb;cases nb
            refine⟨ys,_,_,rfl,rfl,s8 _ _ (s27 _ _ hys2),by rw[List.length_map];exact small1000 (by omega),?_⟩
            have kt:∀y zs,H2 y=some (.tup zs)->upd (upd H7 b (.tup [V.int (0+((i:Nat):Int)+((j0:Nat):Int)+1),V.int (0+((i:Nat):Int))])) ys (.lst (ts.map V.ref++[V.ref b])) y=some (.tup zs):=fun y zs g=>by
              rw[upd_ne (ne_of g hys2 (by intro z;cases z))]
              exact s8 _ _ (s27 _ _ g)
            refine⟨ts++[b],_,_,_,_,rfl,fun y o g=>by rw[upd_ne (ne_of_none g nys1)];exact s8 _ _ (s27 _ _ (sm2 _ _ g)),by rw[upd_same,List.map_append];rfl,?_⟩
            rw[ways_yes epr]
            refine TyR.Paired.snoc (way_keep kt hP2) ?_
            show upd _ ys _ b=_
            rw[upd_ne nby,upd_same]
            have e1:(0:Int)+((i:Nat):Int)+((j0:Nat):Int)+1=((i+j0+1:Nat):Int):=by omega
            have e2:(0:Int)+((i:Nat):Int)=((i:Nat):Int):=by omega
            show some (HO.tup [V.int (0+((i:Nat):Int)+((j0:Nat):Int)+1),V.int (0+((i:Nat):Int))])=some (HO.tup [V.int ((i+j0+1:Nat):Int),V.int ((i:Nat):Int)])
            rw[e1,e2]
          · refine ifF (decide_eq_false (fun z=>hb (hmem.mp z))) ?_
            refine⟨ts,_,_,_,_,rfl,sm2.trans s27,s27 _ _ hys2,?_⟩
            rw[ways_no (hpn hb)]
            exact way_keep (fun y zs g=>s27 _ _ g) hP2
      · rintro σ H2 ⟨ts,v5,v6,v7,v8,rfl,sm2,hys2,hP2⟩
        have hlt:ts.length=_:=Paired.len hP2
        refine⟨_,rfl,ys,ts.map V.ref,_,rfl,SqL.of hys2,?_,way_ti hP2,fun i0 v ki gv gk hmin=> ?_⟩
        · intro z
          have:=congrArg List.length z
          rw[List.length_map,hlt]at this
          unfold ways at this
          simp at this
        rw[List.getElem?_map]at gv gk
        obtain⟨b,hb,rfl⟩:=Option.map_eq_some_iff.mp gv
        obtain⟨x,hx,rfl⟩:=Option.map_eq_some_iff.mp gk
        obtain⟨x',hx',g⟩:=paired_get hP2 hb
        obtain rfl:x'=x:=Option.some.inj (hx'.symm.trans hx)
        have ek:=keys_least (List.mem_of_getElem? hx) fun y hy=>hmin _ (List.mem_map_of_mem hy)
        refine⟨b,_,rfl,.inr (SqT.of g),fun l nl=> ?_⟩
        have sA:=s1.trans sm2
        refine said (z:=Rh04.ints [(Rh04.keys d n r).1,(Rh04.keys d n r).2]) k ?_ (sA.trans (Same.new nl)) (Same.back sA nl) ?_
        · show(if (Rh04.find_ d r).isNone=true then _ else _)=_
          rw[if_neg (by rw[hf];exact Bool.false_ne_true)]
        · rw[upd_same,ek]
          rfl
end
end TyP
end
section
namespace TyP
open PySem PySem.Spec PyProof.Rows L2 TyR
open Rh04 (Ready Item Weighed)
structure MO (P:Program) (w:World) (K:PySem.W.Frag) (mg:Str->Option Value) (base:Heap) (D:Addr) (n:Str) (k:Nat) (f:Addr) (fd:FuncData) (ps:List Str) (sp:Sp):Prop where
  G:FnOk P w K mg base CX0 k f fd ps sp
  b:Binds K fd ps []
  m:Meth K D n f
section
variable {P:Program} {w:World} {K:PySem.W.Frag} {mg:Str->Option Value} {base:Heap}
theorem scAns:FnScope ["desk","call","numbers","letters"] ["desk","call","numbers","letters"] (defScope sAns):=⟨rfl,rfl,rfl,by decide +kernel,rfl,by decide +kernel,by decide +kernel⟩
theorem ok_answer {f D S E f_wrd f_out f_use f_day f_bst f_lks f_bgn f_mor f_sur f_nea f_fau f_kys:Addr} {fd d_wrd d_out d_use d_day d_bst d_lks d_bgn d_mor d_sur d_nea d_fau d_kys:FuncData} (F:Fun K "answer" "answer" sAns f fd) (cl:Cls K D) (M_wrd:MO P w K mg base D "word" 3 f_wrd d_wrd ["self","v","letters"] (spWord D)) (M_out:MO P w K mg base D "out" 1 f_out d_out ["self","letters"] (spOut D)) (M_use:MO P w K mg base D "use" 1 f_use d_use ["self","letters"] (spUse D)) (M_day:MO P w K mg base D "day" 2 f_day d_day ["self"] (spDay D)) (M_bst:MO P w K mg base D "best" 6 f_bst d_bst ["self","k","letters"] (spBest D)) (M_lks:MO P w K mg base D "looks" 6 f_lks d_lks ["self","k","letters"] (spLooks D)) (M_bgn:MO P w K mg base D "begin" 6 f_bgn d_bgn ["self","letters"] (spBegin D S E)) (M_mor:MO P w K mg base D "more" 6 f_mor d_mor ["self","n"] (spMore D S E)) (M_sur:MO P w K mg base D "sure" 3 f_sur d_sur ["self","letters"] (spSure D)) (M_nea:MO P w K mg base D "near" 5 f_nea d_nea ["self","e","k","letters"] (spNearM D)) (M_fau:MO P w K mg base D "faults" 3 f_fau d_fau ["self","n","letters"] (spFaultsM D)) (M_kys:MO P w K mg base D "keys_to" 6 f_kys d_kys ["self","k","letters"] (spKeysM D)) (c_wrd:∃t,mg "WORD"=some (.int 0 t)) (c_out:∃t,mg "OUT"=some (.int 1 t)) (c_use:∃t,mg "USE"=some (.int 2 t)) (c_day:∃t,mg "DAY"=some (.int 3 t)) (c_bst:∃t,mg "BEST"=some (.int 4 t)) (c_lks:∃t,mg "LOOKS"=some (.int 5 t)) (c_bgn:∃t,mg "BEGIN"=some (.int 6 t)) (c_mor:∃t,mg "MORE"=some (.int 7 t)) (c_sur:∃t,mg "SURE"=some (.int 8 t)) (c_nea:∃t,mg "NEAR"=some (.int 9 t)) (c_fau:∃t,mg "FAULTS"=some (.int 10 t)):FnOk P w K mg base CX0 9 f fd ["desk","call","numbers","letters"] (spAns (DI D S E)):=by
  refine F.ok scAns (fun vs H Q E h=> ?_) (fun cdv A outer s H vs Q X hr h=> ?_)
  · obtain⟨a,n,l,p,xs,r,st,own,x,rfl,_⟩:=h
    rfl
  · obtain⟨a,n,l,p,xs,r,st,own,x,rfl,⟨dx,ow,us,v,its,so,ha,W,hs,rfl⟩,hn,hno,hl,hci,k⟩:=h
    obtain⟨t_wrd,g_wrd⟩:=c_wrd
    obtain⟨t_out,g_out⟩:=c_out
    obtain⟨t_use,g_use⟩:=c_use
    obtain⟨t_day,g_day⟩:=c_day
    obtain⟨t_bst,g_bst⟩:=c_bst
    obtain⟨t_lks,g_lks⟩:=c_lks
    obtain⟨t_bgn,g_bgn⟩:=c_bgn
    obtain⟨t_mor,g_mor⟩:=c_mor
    obtain⟨t_sur,g_sur⟩:=c_sur
    obtain⟨t_nea,g_nea⟩:=c_nea
    obtain⟨t_fau,g_fau⟩:=c_fau
    refine⟨_,pss_cons (ps_if (pt_cmpR op_eq (pv 1) (pe_glob rfl g_wrd (v:= .int 0) ⟨t_wrd,rfl⟩) (by rfl)) (pss_one (ps_ret (pe_meth (pv 0) cl M_wrd.m M_wrd.G (hr.mono (by decide)) M_wrd.b .nil pass0 (pa_cons (pe_ix ix_list (pv 2) pe_int (by intro _ _;rfl)) (pa_cons (pv 3) pa_nil))))) pss_nil)
      (pss_cons (ps_if (pt_cmpR op_eq (pv 1) (pe_glob rfl g_out (v:= .int 1) ⟨t_out,rfl⟩) (by rfl)) (pss_one (ps_ret (pe_meth (pv 0) cl M_out.m M_out.G (hr.mono (by decide)) M_out.b .nil pass0 (pa_cons (pv 3) pa_nil)))) pss_nil)
      (pss_cons (ps_if (pt_cmpR op_eq (pv 1) (pe_glob rfl g_use (v:= .int 2) ⟨t_use,rfl⟩) (by rfl)) (pss_one (ps_ret (pe_meth (pv 0) cl M_use.m M_use.G (hr.mono (by decide)) M_use.b .nil pass0 (pa_cons (pv 3) pa_nil)))) pss_nil)
      (pss_cons (ps_if (pt_cmpR op_eq (pv 1) (pe_glob rfl g_day (v:= .int 3) ⟨t_day,rfl⟩) (by rfl)) (pss_one (ps_ret (pe_meth0 (pv 0) cl M_day.m M_day.G (hr.mono (by decide)) M_day.b .nil pass0))) pss_nil)
      (pss_cons (ps_if (pt_cmpR op_eq (pv 1) (pe_glob rfl g_bst (v:= .int 4) ⟨t_bst,rfl⟩) (by rfl)) (pss_one (ps_ret (pe_meth (pv 0) cl M_bst.m M_bst.G (hr.mono (by decide)) M_bst.b .nil pass0 (pa_cons (pe_ix ix_list (pv 2) pe_int (by intro _ _;rfl)) (pa_cons (pv 3) pa_nil))))) pss_nil)
      (pss_cons (ps_if (pt_cmpR op_eq (pv 1) (pe_glob rfl g_lks (v:= .int 5) ⟨t_lks,rfl⟩) (by rfl)) (pss_one (ps_ret (pe_meth (pv 0) cl M_lks.m M_lks.G (hr.mono (by decide)) M_lks.b .nil pass0 (pa_cons (pe_ix ix_list (pv 2) pe_int (by intro _ _;rfl)) (pa_cons (pv 3) pa_nil))))) pss_nil)
      (pss_cons (ps_if (pt_cmpR op_eq (pv 1) (pe_glob rfl g_bgn (v:= .int 6) ⟨t_bgn,rfl⟩) (by rfl)) (pss_one (ps_ret (pe_meth (pv 0) cl M_bgn.m M_bgn.G (hr.mono (by decide)) M_bgn.b .nil pass0 (pa_cons (pv 3) pa_nil)))) pss_nil)
      (pss_cons (ps_if (pt_cmpR op_eq (pv 1) (pe_glob rfl g_mor (v:= .int 7) ⟨t_mor,rfl⟩) (by rfl)) (pss_one (ps_ret (pe_meth (pv 0) cl M_mor.m M_mor.G (hr.mono (by decide)) M_mor.b .nil pass0 (pa_cons (pe_ix ix_list (pv 2) pe_int (by intro _ _;rfl)) pa_nil)))) pss_nil)
      (pss_cons (ps_if (pt_cmpR op_eq (pv 1) (pe_glob rfl g_sur (v:= .int 8) ⟨t_sur,rfl⟩) (by rfl)) (pss_one (ps_ret (pe_meth (pv 0) cl M_sur.m M_sur.G (hr.mono (by decide)) M_sur.b .nil pass0 (pa_cons (pv 3) pa_nil)))) pss_nil)
      (pss_cons (ps_if (pt_cmpR op_eq (pv 1) (pe_glob rfl g_nea (v:= .int 9) ⟨t_nea,rfl⟩) (by rfl)) (pss_one (ps_ret (pe_meth (pv 0) cl M_nea.m M_nea.G (hr.mono (by decide)) M_nea.b .nil pass0 (pa_cons (pe_ix ix_list (pv 2) pe_int (by intro _ _;rfl)) (pa_cons (pe_ix ix_list (pv 2) pe_int (by intro _ _;rfl)) (pa_cons (pv 3) pa_nil)))))) pss_nil)
      (pss_cons (ps_if (pt_cmpR op_eq (pv 1) (pe_glob rfl g_fau (v:= .int 10) ⟨t_fau,rfl⟩) (by rfl)) (pss_one (ps_ret (pe_meth (pv 0) cl M_fau.m M_fau.G (hr.mono (by decide)) M_fau.b .nil pass0 (pa_cons (pe_ix ix_list (pv 2) pe_int (by intro _ _;rfl)) (pa_cons (pv 3) pa_nil))))) pss_nil)
      (pss_one (ps_ret (pe_meth (pv 0) cl M_kys.m M_kys.G (hr.mono (by decide)) M_kys.b .nil pass0 (pa_cons (pe_ix ix_list (pv 2) pe_int (by intro _ _;rfl)) (pa_cons (pv 3) pa_nil))))))))))))))),?_⟩
    have hrow:∀w:Word,r=intsW w->H l=some (.tup (rowV w)):=fun w e=>by rw[rowV_ints,←e];exact hl
    cases x with
    | word v0 w0=>
      obtain⟨rfl,rfl,e3,hlen⟩:=hci
      have hl2:=hrow _ e3
      refine⟨_,rfl,rfl,_,rfl,ifT (decide_eq_true rfl) ?_⟩
      exact⟨_,rfl,a,dx,_,rfl,ha,df_no _ _ _ (by decide +kernel) (by decide +kernel) (by decide +kernel),_,rfl,n,_,0,_,rfl,rfl,SqL.of hn,rfl,_,rfl,a,dx,ow,us,l,_,its,st.words,v0,w0,rfl,ha,df_F _ _ _,W,hl2,by omega,ended_of (.inl ⟨_,_,rfl⟩) ha W hs k⟩
    | out w0=>
      obtain⟨rfl,rfl,e3,hlen⟩:=hci
      have hl2:=hrow _ e3
      refine⟨_,rfl,rfl,_,rfl,ifF (decide_eq_false (by intro z;injection z with z;revert z;decide)) ?_⟩
      refine⟨_,rfl,rfl,_,rfl,ifT (decide_eq_true rfl) ?_⟩
      exact⟨_,rfl,a,dx,_,rfl,ha,df_no _ _ _ (by decide +kernel) (by decide +kernel) (by decide +kernel),_,rfl,a,dx,ow,us,l,_,its,st.words,w0,rfl,ha,df_F _ _ _,W,hl2,ended_of (.inr (.inl ⟨_,rfl⟩)) ha W hs k⟩
    | use w0=>
      obtain⟨rfl,rfl,e3,hlen⟩:=hci
      have hl2:=hrow _ e3
      iterate 2 refine⟨_,rfl,rfl,_,rfl,ifF (decide_eq_false (by intro z;injection z with z;revert z;decide)) ?_⟩
      refine⟨_,rfl,rfl,_,rfl,ifT (decide_eq_true rfl) ?_⟩
      exact⟨_,rfl,a,dx,_,rfl,ha,df_no _ _ _ (by decide +kernel) (by decide +kernel) (by decide +kernel),_,rfl,a,dx,ow,us,l,_,its,st.words,w0,rfl,ha,df_F _ _ _,W,hl2,ended_of (.inr (.inr (.inl ⟨_,rfl⟩))) ha W hs k⟩
    | day=>
      obtain⟨rfl,rfl,e3⟩:=hci
      iterate 3 refine⟨_,rfl,rfl,_,rfl,ifF (decide_eq_false (by intro z;injection z with z;revert z;decide)) ?_⟩
      refine⟨_,rfl,rfl,_,rfl,ifT (decide_eq_true rfl) ?_⟩
      exact⟨_,rfl,a,dx,_,rfl,ha,df_no _ _ _ (by decide +kernel) (by decide +kernel) (by decide +kernel),a,dx,ow,us,_,its,st.words,rfl,ha,df_F _ _ _,W,ended_of (.inr (.inr (.inr rfl))) ha W hs k⟩
    | best k0 w0=>
      obtain⟨rfl,rfl,e3,hlen⟩:=hci
      have hl2:=hrow _ e3
      iterate 4 refine⟨_,rfl,rfl,_,rfl,ifF (decide_eq_false (by intro z;injection z with z;revert z;decide)) ?_⟩
      refine⟨_,rfl,rfl,_,rfl,ifT (decide_eq_true rfl) ?_⟩
      exact⟨_,rfl,a,dx,_,rfl,ha,df_no _ _ _ (by decide +kernel) (by decide +kernel) (by decide +kernel),_,rfl,n,_,0,_,rfl,rfl,SqL.of hn,rfl,_,rfl,a,dx,ow,us,l,_,its,st.words,k0,w0,rfl,ha,df_F _ _ _,W,hl2,by omega,said_of True.intro ha W hs k⟩
    | looks k0 w0=>
      obtain⟨rfl,rfl,e3,hlen⟩:=hci
      have hl2:=hrow _ e3
      iterate 5 refine⟨_,rfl,rfl,_,rfl,ifF (decide_eq_false (by intro z;injection z with z;revert z;decide)) ?_⟩
      refine⟨_,rfl,rfl,_,rfl,ifT (decide_eq_true rfl) ?_⟩
      exact⟨_,rfl,a,dx,_,rfl,ha,df_no _ _ _ (by decide +kernel) (by decide +kernel) (by decide +kernel),_,rfl,n,_,0,_,rfl,rfl,SqL.of hn,rfl,_,rfl,a,dx,ow,us,l,_,its,st.words,k0,w0,rfl,ha,df_F _ _ _,W,hl2,by omega,said_of True.intro ha W hs k⟩
    | begin_ w0=>
      obtain⟨rfl,rfl,e3,hlen⟩:=hci
      have hl2:=hrow _ e3
      iterate 6 refine⟨_,rfl,rfl,_,rfl,ifF (decide_eq_false (by intro z;injection z with z;revert z;decide)) ?_⟩
      refine⟨_,rfl,rfl,_,rfl,ifT (decide_eq_true rfl) ?_⟩
      exact⟨_,rfl,a,dx,_,rfl,ha,df_no _ _ _ (by decide +kernel) (by decide +kernel) (by decide +kernel),_,rfl,a,dx,ow,us,l,v,its,so,st,w0,rfl,⟨ha,W,hs⟩,hl2,by omega,k⟩
    | more n0=>
      obtain⟨rfl,rfl,e3⟩:=hci
      iterate 7 refine⟨_,rfl,rfl,_,rfl,ifF (decide_eq_false (by intro z;injection z with z;revert z;decide)) ?_⟩
      refine⟨_,rfl,rfl,_,rfl,ifT (decide_eq_true rfl) ?_⟩
      exact⟨_,rfl,a,dx,_,rfl,ha,df_no _ _ _ (by decide +kernel) (by decide +kernel) (by decide +kernel),_,rfl,n,_,0,_,rfl,rfl,SqL.of hn,rfl,a,dx,ow,us,v,its,so,st,n0,rfl,⟨ha,W,hs⟩,k⟩
    | sure w0=>
      obtain⟨rfl,rfl,e3,hlen⟩:=hci
      have hl2:=hrow _ e3
      iterate 8 refine⟨_,rfl,rfl,_,rfl,ifF (decide_eq_false (by intro z;injection z with z;revert z;decide)) ?_⟩
      refine⟨_,rfl,rfl,_,rfl,ifT (decide_eq_true rfl) ?_⟩
      exact⟨_,rfl,a,dx,_,rfl,ha,df_no _ _ _ (by decide +kernel) (by decide +kernel) (by decide +kernel),_,rfl,a,dx,ow,us,l,_,its,st.words,w0,rfl,ha,df_F _ _ _,W,hl2,by omega,said_of True.intro ha W hs k⟩
    | near e0 k0 w0=>
      obtain⟨rfl,rfl,e3,hlen⟩:=hci
      have hl2:=hrow _ e3
      iterate 9 refine⟨_,rfl,rfl,_,rfl,ifF (decide_eq_false (by intro z;injection z with z;revert z;decide)) ?_⟩
      refine⟨_,rfl,rfl,_,rfl,ifT (decide_eq_true rfl) ?_⟩
      exact⟨_,rfl,a,dx,_,rfl,ha,df_no _ _ _ (by decide +kernel) (by decide +kernel) (by decide +kernel),_,rfl,n,_,0,_,rfl,rfl,SqL.of hn,rfl,_,rfl,n,_,1,_,rfl,rfl,SqL.of hn,rfl,_,rfl,a,dx,ow,us,l,_,its,st.words,e0,k0,w0,rfl,ha,df_F _ _ _,W,hl2,by omega,said_of True.intro ha W hs k⟩
    | faults n0 w0=>
      obtain⟨rfl,rfl,e3,hlen⟩:=hci
      have hl2:=hrow _ e3
      iterate 10 refine⟨_,rfl,rfl,_,rfl,ifF (decide_eq_false (by intro z;injection z with z;revert z;decide)) ?_⟩
      refine⟨_,rfl,rfl,_,rfl,ifT (decide_eq_true rfl) ?_⟩
      exact⟨_,rfl,a,dx,_,rfl,ha,df_no _ _ _ (by decide +kernel) (by decide +kernel) (by decide +kernel),_,rfl,n,_,0,_,rfl,rfl,SqL.of hn,rfl,_,rfl,a,dx,l,_,st.words,n0,w0,rfl,ha,hl2,by omega,said_of True.intro ha W hs k⟩
    | keys k0 w0=>
      obtain⟨rfl,rfl,e3,hlen⟩:=hci
      have hl2:=hrow _ e3
      iterate 11 refine⟨_,rfl,rfl,_,rfl,ifF (decide_eq_false (by intro z;injection z with z;revert z;decide)) ?_⟩
      exact⟨_,rfl,a,dx,_,rfl,ha,df_no _ _ _ (by decide +kernel) (by decide +kernel) (by decide +kernel),_,rfl,n,_,0,_,rfl,rfl,SqL.of hn,rfl,_,rfl,a,dx,ow,us,l,_,its,st.words,k0,w0,rfl,ha,df_F _ _ _,W,hl2,by omega,said_of True.intro ha W hs k⟩
end
end TyP
end
section
namespace TyP
open PySem PySem.Spec PyProof.Rows L2 TyR
def TupAt (K:PySem.W.Frag) (a:Addr) (xs:List V):Prop:=∃(o:Obj) (its:Array Value) (n:Nat),K.lookup a=some o/\o.cls= .type "tuple"/\o.data= .seq its n/\its.size≤sizeLine/\Vals xs its.toList
theorem tup_mk {K:PySem.W.Frag} {a:Addr} {xs:List V} {o:Obj} {its:Array Value} {n:Nat} (l:K.lookup a=some o) (c:o.cls= .type "tuple") (d:o.data= .seq its n) (z:its.size≤sizeLine) (v:Vals xs its.toList):TupAt K a xs:=⟨o,its,n,l,c,d,z,v⟩
theorem TupAt.sq {K:PySem.W.Frag} {a:Addr} {xs:List V} (h:TupAt K a xs) (H:Hp):SqT K H a xs:= .inr h
theorem shapes_of {K:PySem.W.Frag} {mg:Str->Option Value} {sh s0 s1 s2 s3 s4 s5 s6 s7 s8 s9 s10 s11:Addr} (g:mg "SHAPES"=some (.ref sh)) (h:TupAt K sh [.ref s0,.ref s1,.ref s2,.ref s3,.ref s4,.ref s5,.ref s6,.ref s7,.ref s8,.ref s9,.ref s10,.ref s11])
    (h0:TupAt K s0 [.int 1,.int 1]) (h1:TupAt K s1 [.int 0,.int 1]) (h2:TupAt K s2 [.int 0,.int 1]) (h3:TupAt K s3 [.int 0,.int 0])
    (h4:TupAt K s4 [.int 1,.int 1]) (h5:TupAt K s5 [.int 1,.int 1]) (h6:TupAt K s6 [.int 0,.int 1]) (h7:TupAt K s7 [.int 1,.int 0])
    (h8:TupAt K s8 [.int 0,.int 1]) (h9:TupAt K s9 [.int 2,.int 1]) (h10:TupAt K s10 [.int 1,.int 1]) (h11:TupAt K s11 [.int 1,.int 1]):ShapesAt K mg:=by
  refine⟨sh,[s0,s1,s2,s3,s4,s5,s6,s7,s8,s9,s10,s11],g,h.sq,fun p n k e=> ?_⟩
  unfold PyRh04.shape at e
  refine ite_some2 (fun e1 e2=>by cases e2;exact⟨0,s0,e1,rfl,h0.sq⟩) (fun e=> ?_) e
  refine ite_some2 (fun e1 e2=>by cases e2;exact⟨1,s1,e1,rfl,h1.sq⟩) (fun e=> ?_) e
  refine ite_some2 (fun e1 e2=>by cases e2;exact⟨2,s2,e1,rfl,h2.sq⟩) (fun e=> ?_) e
  refine ite_some2 (fun e1 e2=>by cases e2;exact⟨3,s3,e1,rfl,h3.sq⟩) (fun e=> ?_) e
  refine ite_some2 (fun e1 e2=>by cases e2;exact⟨4,s4,e1,rfl,h4.sq⟩) (fun e=> ?_) e
  refine ite_some2 (fun e1 e2=>by cases e2;exact⟨5,s5,e1,rfl,h5.sq⟩) (fun e=> ?_) e
  refine ite_some2 (fun e1 e2=>by cases e2;exact⟨6,s6,e1,rfl,h6.sq⟩) (fun e=> ?_) e
  refine ite_some2 (fun e1 e2=>by cases e2;exact⟨7,s7,e1,rfl,h7.sq⟩) (fun e=> ?_) e
  refine ite_some2 (fun e1 e2=>by cases e2;exact⟨8,s8,e1,rfl,h8.sq⟩) (fun e=> ?_) e
  refine ite_some2 (fun e1 e2=>by cases e2;exact⟨9,s9,e1,rfl,h9.sq⟩) (fun e=> ?_) e
  refine ite_some2 (fun e1 e2=>by cases e2;exact⟨10,s10,e1,rfl,h10.sq⟩) (fun e=> ?_) e
  refine ite_some2 (fun e1 e2=>by cases e2;exact⟨11,s11,e1,rfl,h11.sq⟩) (fun e=> ?_) e
  cases e
end TyP
end
section
section
set_option maxHeartbeats 2000000
namespace L2
open PySem PySem.Spec PyProof.Rows
open PySem.W (WData Codec OpenSpec Well WellAll ReadsW ReadsAllW)
mutual
inductive Dw (K:PySem.W.Frag) (H:Hp):V->WData->Prop
  | non:Dw K H .non .none
  | bl (b:Bool):Dw K H (.bl b) (.bool b)
  | int (i:Int):Dw K H (.int i) (.int i)
  | str (x:Str):Dw K H (.str x) (.str x)
  | byt (b:Array UInt8):Dw K H (.byt b) (.bytes b.toList)
  | lst {a:Addr} {xs:List V} {ds:List WData}:SqL K H a xs->DwAll K H xs ds->Dw K H (.ref a) (.list ds)
  | tup {a:Addr} {xs:List V} {ds:List WData}:SqT K H a xs->DwAll K H xs ds->Dw K H (.ref a) (.tuple ds)
inductive DwAll (K:PySem.W.Frag) (H:Hp):List V->List WData->Prop
  | nil:DwAll K H [] []
  | cons {v:V} {vs:List V} {d:WData} {ds:List WData}:Dw K H v d->DwAll K H vs ds->DwAll K H (v::vs) (d::ds)
end
theorem dw_ints {K:PySem.W.Frag} {H:Hp}:∀ns:List Int,DwAll K H (ns.map V.int) (ns.map WData.int)
  | []=> .nil
  | n::r=> .cons (.int n) (dw_ints r)
theorem ints_dw {K:PySem.W.Frag} {H:Hp}:∀(ns:List Int) (xs:List V),DwAll K H xs (ns.map WData.int)->xs=ns.map V.int
  | [],xs,h=>by
    cases h
    rfl
  | n::r,xs,h=>by
    cases h with
    | cons h1 h2=>
      cases h1
      rw[ints_dw r _ h2] <;> rfl
section
variable {P:Program} {w:World} {K:PySem.W.Frag} {H:Hp} {h:Heap} {R:PySem.W.WRecords} {cl:Str->Option Addr}
theorem sqL_at {a:Addr} {xs:List V} (hok:HOk P w H h) (KX:K.In h) (q:SqL K H a xs):∃(its:List Value) (o:Obj) (n:Nat),Vals xs its/\h.get? a=some o/\o.cls= .type "list"/\o.data= .seq its.toArray n:=by
  rcases q with q | ⟨o,its,n,e,hc,_,hd,_,hv⟩
  · obtain⟨_,its,n,hv,e⟩:=(show ObjOk P w H h a (.lst xs)from q.ok hok)
    exact⟨its,_,n,hv,e,rfl,rfl⟩
  · exact⟨its.toList,o,n,hv,KX _ _ e,hc,by simp[hd]⟩
theorem sqT_at {a:Addr} {xs:List V} (hok:HOk P w H h) (KX:K.In h) (q:SqT K H a xs):∃(its:List Value) (o:Obj) (n:Nat),Vals xs its/\h.get? a=some o/\o.cls= .type "tuple"/\o.data= .seq its.toArray n:=by
  rcases q with q | ⟨o,its,n,e,hc,hd,_,hv⟩
  · obtain⟨_,its,hv,o,e,hc,n,hd⟩:=(show ObjOk P w H h a (.tup xs)from q.ok hok)
    exact⟨its,o,n,hv,e,hc,hd⟩
  · exact⟨its.toList,o,n,hv,KX _ _ e,hc,by simp[hd]⟩
mutual
theorem Dw.reads (hok:HOk P w H h) (KX:K.In h):∀(d:WData) (v:V) (u:Value),Dw K H v d->RelV v u->∃as,ReadsW R cl h u d as
  | .none,_,_,x,r=>by
    cases x
    cases r
    exact⟨_,ReadsW.none⟩
  | .bool b,_,_,x,r=>by
    cases x
    cases r
    exact⟨_,ReadsW.bool b⟩
  | .int i,_,_,x,r=>by
    cases x
    obtain⟨t,rfl⟩:=r
    exact⟨_,ReadsW.int i t⟩
  | .str s,_,_,x,r=>by
    cases x
    obtain⟨t,rfl⟩:=r
    exact⟨_,ReadsW.str s t⟩
  | .bytes b,_,_,x,r=>by
    cases x
    obtain⟨t,rfl⟩:=r
    exact⟨_,ReadsW.bytes _ t⟩
  | .list ds,_,_,x,r=>by
    cases x with
    | lst hs ha=>
      cases r
      obtain⟨its,o,n,rv,ho,hc,hd⟩:=sqL_at hok KX hs
      obtain⟨as,hr⟩:=Dw.readsAll hok KX ds _ its ha rv
      exact⟨_,ReadsW.list ho hc hd hr⟩
  | .tuple ds,_,_,x,r=>by
    cases x with
    | tup hs ha=>
      cases r
      obtain⟨its,o,n,rv,ho,hc,hd⟩:=sqT_at hok KX hs
      obtain⟨as,hr⟩:=Dw.readsAll hok KX ds _ its ha rv
      exact⟨_,ReadsW.tuple ho hc hd hr⟩
  | .float _,_,_,x,_=>by cases x
  | .dict _,_,_,x,_=>by cases x
  | .bytearray _,_,_,x,_=>by cases x
  | .set _,_,_,x,_=>by cases x
  | .frozenset _,_,_,x,_=>by cases x
  | .obj _ _,_,_,x,_=>by cases x
theorem Dw.readsAll (hok:HOk P w H h) (KX:K.In h):∀(ds:List WData) (vs:List V) (us:List Value),DwAll K H vs ds->Vals vs us->∃as,ReadsAllW R cl h us ds as
  | [],_,_,x,r=>by
    cases x
    cases r
    exact⟨_,ReadsAllW.nil⟩
  | d::ds,_,_,x,r=>by
    cases x with
    | cons h1 h2=>
      cases r with
      | cons r1 r2=>
        obtain⟨as,q1⟩:=Dw.reads hok KX d _ _ h1 r1
        obtain⟨bs,q2⟩:=Dw.readsAll hok KX ds _ _ h2 r2
        exact⟨_,ReadsAllW.cons q1 q2⟩
end
end
mutual
def plW:WData->Bool
  | .none=>true
  | .bool _=>true
  | .int _=>true
  | .str _=>true
  | .bytes _=>true
  | .list xs=>plWs xs
  | .tuple xs=>plWs xs
  | _=>false
def plWs:List WData->Bool
  | []=>true
  | x::r=>plW x && plWs r
end
theorem plWs_map {α:Type} {f:α->WData} (h:∀a,plW (f a)=true):∀l:List α,plWs (l.map f)=true
  | []=>rfl
  | x::r=>by
    show(plW (f x) && plWs (r.map f))=true
    rw[h x,plWs_map h r] <;> rfl
theorem pl_enc:∀(c:Codec) (a:c.denote),plW (c.enc a)=true
  | .unit,_=>rfl
  | .bool,_=>rfl
  | .int _ _,_=>rfl
  | .nat _ _,_=>rfl
  | .u8,_=>rfl
  | .bytes _ _,_=>rfl
  | .text _ _ _ _,_=>rfl
  | .list _ _ c,a=>plWs_map (fun x=>pl_enc c x) a
  | .pair c d,a=>by
    show(plW (c.enc a.1) && (plW (d.enc a.2) && true))=true
    rw[pl_enc c a.1,pl_enc d a.2] <;> rfl
  | .triple c d e,a=>by
    show(plW (c.enc a.1) && (plW (d.enc a.2.1) && (plW (e.enc a.2.2) && true)))=true
    rw[pl_enc c a.1,pl_enc d a.2.1,pl_enc e a.2.2] <;> rfl
  | .option c,none=>rfl
  | .option c,some x=>pl_enc c x
theorem pl_encAll:∀(cs:List Codec) (a:Codec.denoteAll cs),plWs (Codec.encAll cs a)=true
  | [],_=>rfl
  | c::cs,a=>by
    show(plW (c.enc a.1) && plWs (Codec.encAll cs a.2))=true
    rw[pl_enc c a.1,pl_encAll cs a.2] <;> rfl
theorem weight_mem:∀{xs:List WData} {d:WData},d∈xs->d.weight≤WData.weightAll xs
  | [],d,h=>absurd h (by simp)
  | x::r,d,h=>by
    show d.weight≤x.weight+1+WData.weightAll r
    rcases List.mem_cons.mp h with e | m
    · rw[e]
      omega
    · have z:=weight_mem m
      omega
def toV:Value->V
  | .none=> .non
  | .bool b=> .bl b
  | .int i _=> .int i
  | .str x _=> .str x
  | .bytes b _=> .byt b
  | .ref a=> .ref a
  | _=> .non
def OkU (A:List Addr):Value->Prop
  | .none=>True
  | .bool _=>True
  | .int _ _=>True
  | .str _ _=>True
  | .bytes _ _=>True
  | .ref a=>a∈A
  | _=>False
theorem OkU.mono {A B:List Addr} (h:∀a∈A,a∈B):∀{u:Value},OkU A u->OkU B u:=fun{u} x=>by
  cases u with
  | ref a=>exact h a x
  | none=>trivial
  | bool b=>trivial
  | int i t=>trivial
  | str s t=>trivial
  | bytes b t=>trivial
  | _=>exact False.elim x
theorem relV_toV {A:List Addr} {u:Value} (x:OkU A u):RelV (toV u) u:=by
  cases u with
  | ref a=>rfl
  | none=>rfl
  | bool b=>rfl
  | int i t=>exact⟨t,rfl⟩
  | str s t=>exact⟨t,rfl⟩
  | bytes b t=>exact⟨t,rfl⟩
  | _=>exact False.elim x
theorem vals_toV {A:List Addr}:∀{vs:List Value},(∀u∈vs,OkU A u)->Vals (vs.map toV) vs
  | [],_=> .nil
  | u::r,h=> .cons (relV_toV (h u (List.mem_cons_self ..))) (vals_toV fun x hx=>h x (List.mem_cons_of_mem _ hx))
def ArgOb (h:Heap) (A:List Addr) (a:Addr):Prop:=∃vs:List Value,vs.length≤sizeLine/\(∀u∈vs,OkU A u)/\
  (h.get? a=some {cls:= .type "list",data:= .seq vs.toArray}∨h.get? a=some {cls:= .type "tuple",data:= .seq vs.toArray})
theorem ArgOb.mono {h:Heap} {A B:List Addr} {a:Addr} (k:∀a∈A,a∈B) (x:ArgOb h A a):ArgOb h B a:=by
  obtain⟨vs,h1,h2,h3⟩:=x
  exact⟨vs,h1,fun u hu=>(h2 u hu).mono k,h3⟩
theorem wellAll_len {P:Params} {h:Heap}:∀{vs:List Value} {ds:List WData},WellAll P h vs ds->vs.length=ds.length
  | _,_,.nil=>rfl
  | _,_,.cons _ b=>by
    show _+1=_+1
    rw[wellAll_len b]
theorem well_list {P:Params} {h:Heap} {v:Value} {ds:List WData} (x:Well P h v (.list ds)):∃(a:Addr) (vs:List Value),v= .ref a/\h.get? a=some {cls:= .type "list",data:= .seq vs.toArray}/\WellAll P h vs ds:=by
  cases x with
  | list ho hall=>exact⟨_,_,rfl,ho,hall⟩
theorem well_tuple {P:Params} {h:Heap} {v:Value} {ds:List WData} (x:Well P h v (.tuple ds)):∃(a:Addr) (vs:List Value),v= .ref a/\h.get? a=some {cls:= .type "tuple",data:= .seq vs.toArray}/\WellAll P h vs ds:=by
  cases x with
  | tuple ho hall=>exact⟨_,_,rfl,ho,hall⟩
theorem well_cons {P:Params} {h:Heap} {us:List Value} {d:WData} {ds:List WData} (x:WellAll P h us (d::ds)):∃(v:Value) (vs:List Value),us=v::vs/\Well P h v d/\WellAll P h vs ds:=by
  cases x with
  | cons a b=>exact⟨_,_,rfl,a,b⟩
theorem line_of {n:Nat} (h:n≤1048576):n≤sizeLine:=Nat.le_trans h (by decide)
section
variable {P:Params} {h:Heap}
mutual
theorem area_one:∀(d:WData) (v:Value),Well P h v d->plW d=true->d.weight≤1048576->∃A:List Addr,OkU A v/\∀a∈A,ArgOb h A a
  | .none,_,x,_,_=>by
    cases x
    exact⟨[],trivial,fun a m=>absurd m (by simp)⟩
  | .bool b,_,x,_,_=>by
    cases x
    exact⟨[],trivial,fun a m=>absurd m (by simp)⟩
  | .int i,_,x,_,_=>by
    cases x
    exact⟨[],trivial,fun a m=>absurd m (by simp)⟩
  | .str s,_,x,_,_=>by
    cases x
    exact⟨[],trivial,fun a m=>absurd m (by simp)⟩
  | .bytes b,_,x,_,_=>by
    cases x
    exact⟨[],trivial,fun a m=>absurd m (by simp)⟩
  | .list ds,_,x,p,z=>by
    obtain⟨a,vs,rfl,ho,hall⟩:=well_list x
    have z2:WData.weightAll ds≤1048576:=z
    obtain⟨A,h1,h2⟩:=area_all ds _ hall p fun d hd=>Nat.le_trans (weight_mem hd) z2
    have k:∀b∈A,b∈a::A:=fun b hb=>List.mem_cons_of_mem _ hb
    refine⟨a::A,List.mem_cons_self ..,fun b hb=> ?_⟩
    rcases List.mem_cons.mp hb with e | m
    · rw[e]
      exact⟨vs,line_of (by rw[wellAll_len hall];exact Nat.le_trans (PySem.W.length_le_weightAllW ds) z2),fun u hu=>(h1 u hu).mono k,.inl ho⟩
    · exact(h2 b m).mono k
  | .tuple ds,_,x,p,z=>by
    obtain⟨a,vs,rfl,ho,hall⟩:=well_tuple x
    have z2:WData.weightAll ds≤1048576:=z
    obtain⟨A,h1,h2⟩:=area_all ds _ hall p fun d hd=>Nat.le_trans (weight_mem hd) z2
    have k:∀b∈A,b∈a::A:=fun b hb=>List.mem_cons_of_mem _ hb
    refine⟨a::A,List.mem_cons_self ..,fun b hb=> ?_⟩
    rcases List.mem_cons.mp hb with e | m
    · rw[e]
      exact⟨vs,line_of (by rw[wellAll_len hall];exact Nat.le_trans (PySem.W.length_le_weightAllW ds) z2),fun u hu=>(h1 u hu).mono k,.inr ho⟩
    · exact(h2 b m).mono k
  | .float _,_,_,p,_=>Bool.noConfusion (show false=true from p)
  | .dict _,_,_,p,_=>Bool.noConfusion (show false=true from p)
  | .bytearray _,_,_,p,_=>Bool.noConfusion (show false=true from p)
  | .set _,_,_,p,_=>Bool.noConfusion (show false=true from p)
  | .frozenset _,_,_,p,_=>Bool.noConfusion (show false=true from p)
  | .obj _ _,_,_,p,_=>Bool.noConfusion (show false=true from p)
theorem area_all:∀(ds:List WData) (vs:List Value),WellAll P h vs ds->plWs ds=true->(∀d∈ds,d.weight≤1048576)->∃A:List Addr,(∀u∈vs,OkU A u)/\∀a∈A,ArgOb h A a
  | [],_,x,_,_=>by
    cases x
    exact⟨[],fun u m=>absurd m (by simp),fun a m=>absurd m (by simp)⟩
  | d::ds,_,x,p,z=>by
    obtain⟨v,vs,rfl,x1,x2⟩:=well_cons x
    have q:plW d=true/\plWs ds=true:=Bool.and_eq_true_iff.mp p
    obtain⟨A,a1,a2⟩:=area_one d v x1 q.1 (z d (List.mem_cons_self ..))
    obtain⟨B,b1,b2⟩:=area_all ds vs x2 q.2 fun e he=>z e (List.mem_cons_of_mem _ he)
    have kA:∀b∈A,b∈A++B:=fun b hb=>List.mem_append.mpr (.inl hb)
    have kB:∀b∈B,b∈A++B:=fun b hb=>List.mem_append.mpr (.inr hb)
    refine⟨A++B,fun u hu=> ?_,fun b hb=> ?_⟩
    · rcases List.mem_cons.mp hu with e | m
      · rw[e]
        exact a1.mono kA
      · exact(b1 u m).mono kB
    · rcases List.mem_append.mp hb with m | m
      · exact(a2 b m).mono kA
      · exact(b2 b m).mono kB
end
end
def hoOf (o:Obj):Option HO:=match o.data with
  | .seq vs _=>if (o.cls == Value.type "list")=true then some (.frz o (.lst (vs.toList.map toV)))else some (.frz o (.tup (vs.toList.map toV)))
  | _=>none
def argH (K:PySem.W.Frag) (h:Heap) (A:List Addr):Hp:=fun b=>if b∈A then(if (K.lookup b).isNone=true then(h.get? b).bind hoOf else none)else none
def OnlyF (H:Hp):Prop:=∀b,H b=none∨∃o u,H b=some (.frz o u)
theorem hoOf_lst (vs:List Value):hoOf {cls:= .type "list",data:= .seq vs.toArray}=some (.frz {cls:= .type "list",data:= .seq vs.toArray} (.lst (vs.map toV))):=by
  show(if (Value.type "list" == Value.type "list")=true then some (HO.frz {cls:= .type "list",data:= .seq vs.toArray} (.lst (vs.toArray.toList.map toV)))else some (HO.frz {cls:= .type "list",data:= .seq vs.toArray} (.tup (vs.toArray.toList.map toV))))=_
  rw[if_pos (beq_self_eq_true _)]
theorem hoOf_tup (vs:List Value):hoOf {cls:= .type "tuple",data:= .seq vs.toArray}=some (.frz {cls:= .type "tuple",data:= .seq vs.toArray} (.tup (vs.map toV))):=by
  show(if (Value.type "tuple" == Value.type "list")=true then some (HO.frz {cls:= .type "tuple",data:= .seq vs.toArray} (.lst (vs.toArray.toList.map toV)))else some (HO.frz {cls:= .type "tuple",data:= .seq vs.toArray} (.tup (vs.toArray.toList.map toV))))=_
  rw[if_neg (by decide)]
section
variable {P:Program} {w:World} {K:PySem.W.Frag} {h:Heap} {A:List Addr}
theorem argH_at {b:Addr} {o:Obj} (hb:b∈A) (hk:K.lookup b=none) (e:h.get? b=some o):argH K h A b=hoOf o:=by
  unfold argH
  rw[if_pos hb,hk,if_pos (show(none:Option Obj).isNone=true from rfl),e] <;> rfl
theorem of_argH {b:Addr} {u:HO} (q:argH K h A b=some u):b∈A/\K.lookup b=none:=by
  unfold argH at q
  by_cases hb:b∈A
  · rw[if_pos hb]at q
    cases hk:K.lookup b with
    | none=>exact⟨hb,rfl⟩
    | some o=>
      rw[hk,if_neg (by simp)]at q
      cases q
  · rw[if_neg hb]at q
    cases q
theorem argH_is (ar:∀a∈A,ArgOb h A a) {b:Addr} {u:HO} (q:argH K h A b=some u):K.lookup b=none/\∃vs:List Value,vs.length≤sizeLine/\(∀u∈vs,OkU A u)/\
    ((h.get? b=some {cls:= .type "list",data:= .seq vs.toArray}/\u= .frz {cls:= .type "list",data:= .seq vs.toArray} (.lst (vs.map toV)))∨
     (h.get? b=some {cls:= .type "tuple",data:= .seq vs.toArray}/\u= .frz {cls:= .type "tuple",data:= .seq vs.toArray} (.tup (vs.map toV)))):=by
  obtain⟨hb,hk⟩:=of_argH q
  obtain⟨vs,h1,h2,h3⟩:=ar b hb
  refine⟨hk,vs,h1,h2,?_⟩
  rcases h3 with e | e
  · rw[argH_at hb hk e,hoOf_lst]at q
    exact .inl ⟨e,(Option.some.inj q).symm⟩
  · rw[argH_at hb hk e,hoOf_tup]at q
    exact .inr ⟨e,(Option.some.inj q).symm⟩
theorem argH_only (ar:∀a∈A,ArgOb h A a):OnlyF (argH K h A):=fun b=>by
  cases q:argH K h A b with
  | none=>exact .inl rfl
  | some u=>
    obtain⟨_,vs,_,_,⟨_,e⟩ | ⟨_,e⟩⟩:=argH_is ar q
    · exact .inr ⟨_,_,by rw[e]⟩
    · exact .inr ⟨_,_,by rw[e]⟩
theorem argH_ok (ar:∀a∈A,ArgOb h A a):HOk P w (argH K h A) h:=fun b u q=>by
  obtain⟨_,vs,h1,h2,⟨e,rfl⟩ | ⟨e,rfl⟩⟩:=argH_is ar q
  · exact⟨e,by rw[List.length_map];exact h1,vs,_,vals_toV h2,e⟩
  · exact⟨e,by rw[List.length_map];exact h1,vs,vals_toV h2,_,e,rfl,_,rfl⟩
theorem seq_inj {c c':Value} {vs us:List Value} (e:(some {cls:=c,data:= .seq vs.toArray}:Option Obj)=some {cls:=c',data:= .seq us.toArray}):c=c'/\vs=us:=by
  have e1:=Option.some.inj e
  have e2:c=c':=congrArg Obj.cls e1
  have e3:Data.seq vs.toArray=Data.seq us.toArray:=congrArg Obj.data e1
  injection e3 with e4
  refine⟨e2,?_⟩
  have e5:=congrArg Array.toList e4
  simpa using e5
theorem argL (KX:K.In h) (ar:∀a∈A,ArgOb h A a) {a:Addr} {vs:List Value} (ha:a∈A) (e:h.get? a=some {cls:= .type "list",data:= .seq vs.toArray}):(∀u∈vs,OkU A u)/\SqL K (argH K h A) a (vs.map toV):=by
  obtain⟨us,h1,h2,h3⟩:=ar a ha
  have hu:us=vs:=by
    rcases h3 with q | q
    · rw[e]at q
      exact(seq_inj q).2.symm
    · rw[e]at q
      exact absurd (Value.type.inj (seq_inj q).1) (by decide)
  subst hu
  refine⟨h2,?_⟩
  cases hk:K.lookup a with
  | none=>exact .inl (.inr ⟨_,by rw[argH_at ha hk e,hoOf_lst]⟩)
  | some o=>
    have e2:=KX a o hk
    rw[e]at e2
    obtain rfl:=Option.some.inj e2
    exact .inr ⟨_,us.toArray,_,hk,rfl,rfl,rfl,by rw[List.size_toArray];exact h1,by simpa using vals_toV h2⟩
theorem argT (KX:K.In h) (ar:∀a∈A,ArgOb h A a) {a:Addr} {vs:List Value} (ha:a∈A) (e:h.get? a=some {cls:= .type "tuple",data:= .seq vs.toArray}):(∀u∈vs,OkU A u)/\SqT K (argH K h A) a (vs.map toV):=by
  obtain⟨us,h1,h2,h3⟩:=ar a ha
  have hu:us=vs:=by
    rcases h3 with q | q
    · rw[e]at q
      exact absurd (Value.type.inj (seq_inj q).1) (by decide)
    · rw[e]at q
      exact(seq_inj q).2.symm
  subst hu
  refine⟨h2,?_⟩
  cases hk:K.lookup a with
  | none=>exact .inl (.inr ⟨_,by rw[argH_at ha hk e,hoOf_tup]⟩)
  | some o=>
    have e2:=KX a o hk
    rw[e]at e2
    obtain rfl:=Option.some.inj e2
    exact .inr ⟨_,us.toArray,_,hk,rfl,rfl,by rw[List.size_toArray];exact h1,by simpa using vals_toV h2⟩
mutual
theorem dw_one {Pm:Params} (KX:K.In h) (ar:∀a∈A,ArgOb h A a):∀(d:WData) (v:Value),Well Pm h v d->plW d=true->OkU A v->Dw K (argH K h A) (toV v) d
  | .none,_,x,_,_=>by
    cases x
    exact .non
  | .bool b,_,x,_,_=>by
    cases x
    exact .bl b
  | .int i,_,x,_,_=>by
    cases x
    exact .int i
  | .str s,_,x,_,_=>by
    cases x
    exact .str s
  | .bytes b,_,x,_,_=>by
    cases x
    have z:=Dw.byt (K:=K) (H:=argH K h A) b.toArray
    exact z
  | .list ds,_,x,p,hu=>by
    obtain⟨a,vs,rfl,ho,hall⟩:=well_list x
    obtain⟨h2,hs⟩:=argL KX ar hu ho
    exact .lst hs (dw_all KX ar ds _ hall p h2)
  | .tuple ds,_,x,p,hu=>by
    obtain⟨a,vs,rfl,ho,hall⟩:=well_tuple x
    obtain⟨h2,hs⟩:=argT KX ar hu ho
    exact .tup hs (dw_all KX ar ds _ hall p h2)
  | .float _,_,_,p,_=>Bool.noConfusion (show false=true from p)
  | .dict _,_,_,p,_=>Bool.noConfusion (show false=true from p)
  | .bytearray _,_,_,p,_=>Bool.noConfusion (show false=true from p)
  | .set _,_,_,p,_=>Bool.noConfusion (show false=true from p)
  | .frozenset _,_,_,p,_=>Bool.noConfusion (show false=true from p)
  | .obj _ _,_,_,p,_=>Bool.noConfusion (show false=true from p)
theorem dw_all {Pm:Params} (KX:K.In h) (ar:∀a∈A,ArgOb h A a):∀(ds:List WData) (vs:List Value),WellAll Pm h vs ds->plWs ds=true->(∀u∈vs,OkU A u)->DwAll K (argH K h A) (vs.map toV) ds
  | [],_,x,_,_=>by
    cases x
    exact .nil
  | d::ds,_,x,p,hu=>by
    obtain⟨v,vs,rfl,x1,x2⟩:=well_cons x
    have q:plW d=true/\plWs ds=true:=Bool.and_eq_true_iff.mp p
    exact .cons (dw_one KX ar d v x1 q.1 (hu _ (List.mem_cons_self ..))) (dw_all KX ar ds vs x2 q.2 fun u m=>hu u (List.mem_cons_of_mem _ m))
end
end
theorem spec_call {P:Program} {w:World} {K:PySem.W.Frag} {mg mb:Str->Option Value} {CX:CXT} {k:Nat} {fa:Addr} {fd:FuncData} {ps:List Str} {sp:Sp} {s₁:Shared} {vals:List Value} {ds:List WData} {R:PySem.W.WRecords} {cl:Str->Option Addr} {d0:WData}
    (KX:K.In s₁.heap) (hns:s₁.heap.Ns mainGlobals mg) (hb:s₁.heap.Ns builtinsNs mb) (hbb:∀x:Str,x≠"__name__"->mb x=bootBuiltins x) (hlim:s₁.heap.NoLimit) (hg:s₁.gens= #[])
    (hwl:WellAll w.params s₁.heap vals ds) (hpl:plWs ds=true) (hwt:∀d∈ds,d.weight≤1048576) (hr:Room k callerA)
    (F:∀base:Heap,K.In base->base.Ns mainGlobals mg->FnOk P w K mg base CX k fa fd ps sp) (hbind:∀(s:Shared) (us:List Value),us.length=ps.length->BindsTo s fd ⟨us,[]⟩ (ps.zip us)) (hlen:ds.length=ps.length)
    (hsp:∀(H:Hp) (xs:List V),OnlyF H->DwAll K H xs ds->sp xs H (fun v H'=>Dw K H' v d0) fun _ _ _=>False)
    (hCX:∀H e s',CX [] H s₁ (fun _ _ _=>False) e s'->False):
    codeAny (model P w) callerA (.call (.ref fa) ⟨vals,[]⟩) (fun r s'=>∃u as,r= .ok (.ret u)/\ReadsW R cl s'.heap u d0 as/\OldK s₁.heap s'.heap/\s'.os=s₁.os/\AllBare s'.gens) s₁:=by
  obtain⟨A,ho,ar⟩:=area_all ds vals hwl hpl hwt
  have hO:OnlyF (argH K s₁.heap A):=argH_only ar
  have hok:HOk P w (argH K s₁.heap A) s₁.heap:=argH_ok ar
  have hS:=dw_all KX ar ds vals hwl hpl ho
  have hV:=vals_toV ho
  have hK:∀b u,argH K s₁.heap A b=some u->K.lookup b=none:=fun b u q=>(argH_is ar q).1
  have noA:∀{b:Addr} {o:Obj} {es:Array DictEntry} {ep:Nat},s₁.heap.get? b=some o->o.data= .dict es ep->argH K s₁.heap A b=none:=fun{b o es ep} e d=>by
    cases q:argH K s₁.heap A b with
    | none=>rfl
    | some u=>
      obtain⟨_,vs,_,_,⟨e2,_⟩ | ⟨e2,_⟩⟩:=argH_is ar q
      · rw[e2]at e
        cases e
        have d':Data.seq vs.toArray _=Data.dict es ep:=d
        cases d'
      · rw[e2]at e
        cases e
        have d':Data.seq vs.toArray _=Data.dict es ep:=d
        cases d'
  generalize argH K s₁.heap A=H at hO hok hS hK noA
  have base_of:∀{b:Addr} {o:Obj},s₁.heap.get? b=some o->H b=none->(hidT s₁.heap H).get? b=some o:=fun e n=>hidT_get e n
  have nsK:∀{b:Addr} {m:Str->Option Value},s₁.heap.Ns b m->(hidT s₁.heap H).Ns b m:=fun{b m} ⟨o,es,ep,e,d,r⟩=>⟨o,es,ep,base_of e (noA e d),d,r⟩
  have nK:∀b o,K.lookup b=some o->H b=none:=fun b o e=>by
    cases q:H b with
    | none=>rfl
    | some u=>
      rw[hK b u q]at e
      cases e
  have hKb:K.In (hidT s₁.heap H):=fun b o e=>base_of (KX b o e) (nK b o e)
  have hM:Mod K mg (hidT s₁.heap H):=⟨hKb,nsK hns,⟨mb,nsK hb,hbb⟩,let ⟨mc,h1,h2⟩:=hlim;⟨mc,nsK h1,h2⟩⟩
  have e0:Env0 P w K mg (hidT s₁.heap H) callerA [] s₁ H:=⟨rfl,hM,fun b o e=>of_hidT e,Nat.le_of_eq (hidT_size _ _),trivial,fun b hb=>absurd (show b∈([]:List Addr)from hb) (by simp),hok,.of_eq hg⟩
  have hl:vals.length=ps.length:=by rw[wellAll_len hwl];exact hlen
  refine codeAny_mono ((F _ hKb (nsK hns)).run callerA [] s₁ H ⟨vals,[]⟩ vals (vals.map toV) _ _ hr e0 (hbind s₁ vals hl) hV (hsp H _ hO hS)) fun r s' x=> ?_
  cases r with
  | error e=>exact(hCX H e s' x).elim
  | ok fl=>
    cases fl with
    | next=>exact False.elim x
    | brk=>exact False.elim x
    | cont=>exact False.elim x
    | ret u=>
      obtain⟨v,H',os,bare,un,hok',r',q⟩:=x
      have kept:∀b o,s₁.heap.get? b=some o->s'.heap.get? b=some o:=fun b o e=>by
        cases q2:H b with
        | none=>exact un.keep b o e q2 (by intro z;exact absurd (show b∈([]:List Addr)from z) (by simp)) (by simp)
        | some u2=>
          rcases hO b with z | ⟨ob,u3,z⟩
          · rw[q2]at z
            cases z
          · have z2:=un.frzs b ob _ z
            obtain⟨e1,_⟩:=hok b _ z
            obtain⟨e2,_⟩:=hok' b _ z2
            rw[e]at e1
            cases e1
            exact e2
      have KX':K.In s'.heap:=fun b o e=>kept b o (KX b o e)
      obtain⟨as,hrd⟩:=Dw.reads (R:=R) (cl:=cl) hok' KX' d0 v u q r'
      exact⟨u,as,rfl,hrd,OldK.of_keep kept,os,bare⟩
theorem layable_weight {ds:List WData} (h:WData.layableAll ds=true):∀d∈ds,d.weight≤1048576:=fun d hd=>
  (PySem.W.layableW_iff.mp (List.all_eq_true.mp h d hd)).2.2
theorem encAll_len:∀(cs:List Codec) (a:Codec.denoteAll cs),(Codec.encAll cs a).length=cs.length
  | [],_=>rfl
  | c::cs,a=>by
    show(Codec.encAll cs a.2).length+1=cs.length+1
    rw[encAll_len cs a.2]
theorem walk_spec {r:OpenSpec} {k:Nat} {q:Program} {loose:List Str} {XP:(Str->Option Value)->Heap->Prop} {YP:World->Heap->Prop} {d:DefRec} {K:Params->PySem.W.Frag} {CX:World->CXT} {ps:List Str} {sp:World->Sp}
    (hwell:r.wellSaid=true) (hdf:d.params.defaults=[]) (hlen:r.args.length=ps.length) (hr:Room k callerA)
    (hY:∀(w:World) (h:Heap),YP w h->(K w.params).In h)
    (F:∀(w:World) (mg:Str->Option Value) (fa:Addr) (h:Heap),YP w h->(K w.params).In h->h.Ns mainGlobals mg->mg d.name=some (.ref fa)->
      ∃fd:FuncData,(∀(s:Shared) (us:List Value),us.length=ps.length->BindsTo s fd ⟨us,[]⟩ (ps.zip us))/\
        ∀base:Heap,(K w.params).In base->base.Ns mainGlobals mg->FnOk r.prog w (K w.params) mg base (CX w) k fa fd ps (sp w))
    (hsp:∀(w:World) (H:Hp) (xs:List V) (a:Codec.denoteAll r.args),OnlyF H->Codec.withinAll r.args a=true->Codec.app r.args r.asked a=true->DwAll (K w.params) H xs (Codec.encAll r.args a)->
      sp w xs H (fun v H'=>Dw (K w.params) H' v (r.ret.enc (Codec.app r.args r.f a))) fun _ _ _=>False)
    (hCX:∀(w:World) (H:Hp) (s:Shared) (e:Value) (s':Shared),CX w [] H s (fun _ _ _=>False) e s'->False):
    PySem.W.WalkOS q loose XP YP r d [] (fun f vs=>PySem.call f vs):=by
  intro w s_0 s₁ mg mb G Y fa o pm cd doc dV kV ho hd hcd hD hmg hg args vals as hpre hlay hrd hwl hlo
  obtain⟨a,e1,e2⟩:=PySem.W.os_pre_some hpre
  obtain⟨e3,hwi⟩:=Codec.encAll_of_decAll r.args args a e1
  subst e3
  have KX:=hY w _ Y
  obtain⟨fd,hb,hF⟩:=F w mg fa _ Y KX G.T.g hmg
  refine PySem.W.enter_call (codeAny_mono (spec_call (R:=[]) (cl:=classAt s_0.heap) (d0:=r.ret.enc (Codec.app r.args r.f a)) KX G.T.g G.T.b G.T.builtins G.T.nolimit hg hwl (pl_encAll _ _) (layable_weight hlay) hr hF hb (by rw[encAll_len];exact hlen)
    (fun H xs hO hS=>hsp w H xs a hO hwi e2 hS) fun H e s'=>hCX w H s₁ e s') fun r' s' hq=> ?_)
  obtain⟨u,as',rfl,h1,h2,h3,h4⟩:=hq
  exact⟨.inl ⟨u,_,as',rfl,fun _=>rfl,h1,(OpenSpec.post_iff hwell hwi _ _).mpr rfl,fun z=>Bool.noConfusion (show false=true from z)⟩,h2,h3,h4⟩
theorem walk_specK {r:OpenSpec} {k:Nat} {q:Program} {loose:List Str} {XP:(Str->Option Value)->Heap->Prop} {YP:World->Heap->Prop} {d:DefRec} {K:Params->PySem.W.Frag} {CX:CXT} {ps:List Str} {sp:PySem.W.Frag->Sp}
    (hwell:r.wellSaid=true) (hdf:d.params.defaults=[]) (hlen:r.args.length=ps.length) (hr:Room k callerA)
    (hY:∀(w:World) (h:Heap),YP w h->(K w.params).In h)
    (F:∀(w:World) (mg:Str->Option Value) (fa:Addr) (h:Heap),YP w h->(K w.params).In h->h.Ns mainGlobals mg->mg d.name=some (.ref fa)->
      ∃fd:FuncData,(∀(s:Shared) (us:List Value),us.length=ps.length->BindsTo s fd ⟨us,[]⟩ (ps.zip us))/\
        ∀base:Heap,(K w.params).In base->base.Ns mainGlobals mg->FnOk r.prog w (K w.params) mg base CX k fa fd ps (sp (K w.params)))
    (hsp:∀(K:PySem.W.Frag) (H:Hp) (xs:List V) (a:Codec.denoteAll r.args),OnlyF H->Codec.withinAll r.args a=true->Codec.app r.args r.asked a=true->DwAll K H xs (Codec.encAll r.args a)->
      sp K xs H (fun v H'=>Dw K H' v (r.ret.enc (Codec.app r.args r.f a))) fun _ _ _=>False)
    (hCX:∀(H:Hp) (s:Shared) (e:Value) (s':Shared),CX [] H s (fun _ _ _=>False) e s'->False):
    PySem.W.WalkOS q loose XP YP r d [] (fun f vs=>PySem.call f vs):=
  walk_spec (K:=K) (CX:=fun _=>CX) (sp:=fun w=>sp (K w.params)) hwell hdf hlen hr hY F (fun w H xs a h1 h2 h3 h4=>hsp (K w.params) H xs a h1 h2 h3 h4) fun _ H s e s'=>hCX H s e s'
end L2
end
end
section
def PySem.W.Fast.tw5093373181799934163:Nat:=0
def PySem.W.Fast.tw11183414940143251953:Nat:=0
def PySem.W.Fast.tw14964353508326217910:Nat:=0
def PySem.W.Fast.tw17031996598029355038:Nat:=0
def PySem.W.Fast.tw3100160032835432159:Nat:=0
def PySem.W.Fast.tw16784883605243553010:Nat:=0
def PySem.W.Fast.tw3354110995990655513:Nat:=0
def PySem.W.Fast.tw18299702552743371643:Nat:=0
def PySem.W.Fast.tw13483138812672414110:Nat:=0
namespace TyP
open PySem PySem.Spec PyProof.Rows L2 TyR
theorem all_mk {P:Program} {w:World} {K:PySem.W.Frag} {h:Heap} {mg:Str->Option Value} {fa:Addr} {E S D f_wtb f_shr f_few f_hvy f_ein f_pio f_sin f_lay f_opn f_tak f_tel f_are f_isw f_can f_tw f_tww f_pwn f_nrw f_din f_now f_wrd f_out f_use f_day f_bst f_lks f_bgn f_mor f_sur f_nea f_fau f_kys f_ans f_rdc f_top:Addr} {d_wtb d_shr d_few d_hvy d_ein d_pio d_sin d_lay d_opn d_tak d_tel d_are d_isw d_can d_tw d_tww d_pwn d_nrw d_din d_now d_wrd d_out d_use d_day d_bst d_lks d_bgn d_mor d_sur d_nea d_fau d_kys d_ans d_rdc d_top:FuncData} {t_NOT_AS_TOLD t_NO_SEARCH t_NOT_THERE t_TOO_MUCH t_MOST_WORDS t_MOST_OWN_WEIGHT t_MOST_USES_WEIGHT t_ONE_USE_WEIGHT t_LAST_LETTER t_MOST_WORD_LETTERS t_MOST_LETTERS_TYPED t_MOST_FAULTS_ASKED t_WORD t_OUT t_USE t_DAY t_BEST t_LOOKS t_BEGIN t_MORE t_SURE t_NEAR t_FAULTS:Tok} (X:K.In h) (G:h.Ns mainGlobals mg) (hfa:mg "answers"=some (.ref fa))
    (gE:PySem.W.nsIn K mainGlobals "Entry"=some (some (.ref E)))
    (clE:Cls K E)
    (mkE:PySem.W.makesIn K E=true)
    (kpE:PySem.W.keepIn K (.ref E)=true)
    (gS:PySem.W.nsIn K mainGlobals "Search"=some (some (.ref S)))
    (clS:Cls K S)
    (mkS:PySem.W.makesIn K S=true)
    (kpS:PySem.W.keepIn K (.ref S)=true)
    (gD:PySem.W.nsIn K mainGlobals "Desk"=some (some (.ref D)))
    (clD:Cls K D)
    (mkD:PySem.W.makesIn K D=true)
    (kpD:PySem.W.keepIn K (.ref D)=true)
    (naE_weight:NoAttr K E "weight")
    (naE_row:NoAttr K E "row")
    (naE_as_word:NoAttr K E "as_word")
    (naS_weight_of:NoAttr K S "weight_of")
    (naS_heaviest:NoAttr K S "heaviest")
    (naS_ready:NoAttr K S "ready")
    (naS_opened:NoAttr K S "opened")
    (naD_own_weights:NoAttr K D "own_weights")
    (naD_uses_weights:NoAttr K D "uses_weights")
    (naD_open_search:NoAttr K D "open_search")
    (a_wtb:PySem.W.nsIn K mainGlobals "words_that_begin"=some (some (.ref f_wtb)))
    (F_wtb:Fun K "words_that_begin" "words_that_begin" sWtb f_wtb d_wtb)
    (a_shr:PySem.W.nsIn K mainGlobals "shared_letters"=some (some (.ref f_shr)))
    (F_shr:Fun K "shared_letters" "shared_letters" sShared f_shr d_shr)
    (a_few:PySem.W.nsIn K mainGlobals "fewest_faults"=some (some (.ref f_few)))
    (F_few:Fun K "fewest_faults" "fewest_faults" sFew f_few d_few)
    (a_hvy:PySem.W.nsIn K mainGlobals "heaviest_words"=some (some (.ref f_hvy)))
    (F_hvy:Fun K "heaviest_words" "heaviest_words" sHvy f_hvy d_hvy)
    (a_ein:PySem.W.findIn K (.ref E) "__init__"=some (some (.ref f_ein)))
    (i_ein:PySem.W.isFn K (.ref f_ein)=true)
    (F_ein:Fun K "__init__" "Entry.__init__" sEInit f_ein d_ein)
    (a_pio:PySem.W.nsIn K mainGlobals "place_in_order"=some (some (.ref f_pio)))
    (F_pio:Fun K "place_in_order" "place_in_order" sPio f_pio d_pio)
    (a_sin:PySem.W.findIn K (.ref S) "__init__"=some (some (.ref f_sin)))
    (i_sin:PySem.W.isFn K (.ref f_sin)=true)
    (F_sin:Fun K "__init__" "Search.__init__" sSInit f_sin d_sin)
    (a_lay:PySem.W.findIn K (.ref S) "lay_beginning"=some (some (.ref f_lay)))
    (i_lay:PySem.W.isFn K (.ref f_lay)=true)
    (F_lay:Fun K "lay_beginning" "Search.lay_beginning" sLay f_lay d_lay)
    (a_opn:PySem.W.findIn K (.ref S) "open_beginning"=some (some (.ref f_opn)))
    (i_opn:PySem.W.isFn K (.ref f_opn)=true)
    (F_opn:Fun K "open_beginning" "Search.open_beginning" sOpen f_opn d_opn)
    (a_tak:PySem.W.findIn K (.ref S) "take_first"=some (some (.ref f_tak)))
    (i_tak:PySem.W.isFn K (.ref f_tak)=true)
    (F_tak:Fun K "take_first" "Search.take_first" sTake f_tak d_tak)
    (a_tel:PySem.W.findIn K (.ref S) "tell"=some (some (.ref f_tel)))
    (i_tel:PySem.W.isFn K (.ref f_tel)=true)
    (F_tel:Fun K "tell" "Search.tell" sTell f_tel d_tel)
    (a_are:PySem.W.nsIn K mainGlobals "are_letters"=some (some (.ref f_are)))
    (F_are:Fun K "are_letters" "are_letters" sAre f_are d_are)
    (a_isw:PySem.W.nsIn K mainGlobals "is_word"=some (some (.ref f_isw)))
    (F_isw:Fun K "is_word" "is_word" sIsw f_isw d_isw)
    (a_can:PySem.W.nsIn K mainGlobals "can_be_typed"=some (some (.ref f_can)))
    (F_can:Fun K "can_be_typed" "can_be_typed" sCan f_can d_can)
    (a_tw:PySem.W.nsIn K mainGlobals "told_with_weight"=some (some (.ref f_tw)))
    (F_tw:Fun K "told_with_weight" "told_with_weight" sTw f_tw d_tw)
    (a_tww:PySem.W.nsIn K mainGlobals "told_with_weights"=some (some (.ref f_tww)))
    (F_tww:Fun K "told_with_weights" "told_with_weights" sTww f_tww d_tww)
    (a_pwn:PySem.W.nsIn K mainGlobals "place_when_near"=some (some (.ref f_pwn)))
    (F_pwn:Fun K "place_when_near" "place_when_near" sPwn f_pwn d_pwn)
    (a_nrw:PySem.W.nsIn K mainGlobals "near_words"=some (some (.ref f_nrw)))
    (F_nrw:Fun K "near_words" "near_words" sNear f_nrw d_nrw)
    (a_din:PySem.W.findIn K (.ref D) "__init__"=some (some (.ref f_din)))
    (i_din:PySem.W.isFn K (.ref f_din)=true)
    (F_din:Fun K "__init__" "Desk.__init__" sDInit f_din d_din)
    (a_now:PySem.W.findIn K (.ref D) "weights_now"=some (some (.ref f_now)))
    (i_now:PySem.W.isFn K (.ref f_now)=true)
    (F_now:Fun K "weights_now" "Desk.weights_now" sNow f_now d_now)
    (a_wrd:PySem.W.findIn K (.ref D) "word"=some (some (.ref f_wrd)))
    (i_wrd:PySem.W.isFn K (.ref f_wrd)=true)
    (F_wrd:Fun K "word" "Desk.word" sWord f_wrd d_wrd)
    (a_out:PySem.W.findIn K (.ref D) "out"=some (some (.ref f_out)))
    (i_out:PySem.W.isFn K (.ref f_out)=true)
    (F_out:Fun K "out" "Desk.out" sOut f_out d_out)
    (a_use:PySem.W.findIn K (.ref D) "use"=some (some (.ref f_use)))
    (i_use:PySem.W.isFn K (.ref f_use)=true)
    (F_use:Fun K "use" "Desk.use" sUse f_use d_use)
    (a_day:PySem.W.findIn K (.ref D) "day"=some (some (.ref f_day)))
    (i_day:PySem.W.isFn K (.ref f_day)=true)
    (F_day:Fun K "day" "Desk.day" sDay f_day d_day)
    (a_bst:PySem.W.findIn K (.ref D) "best"=some (some (.ref f_bst)))
    (i_bst:PySem.W.isFn K (.ref f_bst)=true)
    (F_bst:Fun K "best" "Desk.best" sBest f_bst d_bst)
    (a_lks:PySem.W.findIn K (.ref D) "looks"=some (some (.ref f_lks)))
    (i_lks:PySem.W.isFn K (.ref f_lks)=true)
    (F_lks:Fun K "looks" "Desk.looks" sLooks f_lks d_lks)
    (a_bgn:PySem.W.findIn K (.ref D) "begin"=some (some (.ref f_bgn)))
    (i_bgn:PySem.W.isFn K (.ref f_bgn)=true)
    (F_bgn:Fun K "begin" "Desk.begin" sBegin f_bgn d_bgn)
    (a_mor:PySem.W.findIn K (.ref D) "more"=some (some (.ref f_mor)))
    (i_mor:PySem.W.isFn K (.ref f_mor)=true)
    (F_mor:Fun K "more" "Desk.more" sMore f_mor d_mor)
    (a_sur:PySem.W.findIn K (.ref D) "sure"=some (some (.ref f_sur)))
    (i_sur:PySem.W.isFn K (.ref f_sur)=true)
    (F_sur:Fun K "sure" "Desk.sure" sSure f_sur d_sur)
    (a_nea:PySem.W.findIn K (.ref D) "near"=some (some (.ref f_nea)))
    (i_nea:PySem.W.isFn K (.ref f_nea)=true)
    (F_nea:Fun K "near" "Desk.near" sNearM f_nea d_nea)
    (a_fau:PySem.W.findIn K (.ref D) "faults"=some (some (.ref f_fau)))
    (i_fau:PySem.W.isFn K (.ref f_fau)=true)
    (F_fau:Fun K "faults" "Desk.faults" sFaults f_fau d_fau)
    (a_kys:PySem.W.findIn K (.ref D) "keys_to"=some (some (.ref f_kys)))
    (i_kys:PySem.W.isFn K (.ref f_kys)=true)
    (F_kys:Fun K "keys_to" "Desk.keys_to" sKeys f_kys d_kys)
    (a_ans:PySem.W.nsIn K mainGlobals "answer"=some (some (.ref f_ans)))
    (F_ans:Fun K "answer" "answer" sAns f_ans d_ans)
    (a_rdc:PySem.W.nsIn K mainGlobals "read_calls"=some (some (.ref f_rdc)))
    (F_rdc:Fun K "read_calls" "read_calls" sRead f_rdc d_rdc)
    (a_top:PySem.W.nsIn K mainGlobals "answers"=some (some (.ref f_top)))
    (F_top:Fun K "answers" "answers" sAnswers f_top d_top)
    (n_len:PySem.W.nsIn K mainGlobals "len"=some none)
    (n_range:PySem.W.nsIn K mainGlobals "range"=some none)
    (n_max:PySem.W.nsIn K mainGlobals "max"=some none)
    (n_min:PySem.W.nsIn K mainGlobals "min"=some none)
    (n_sum:PySem.W.nsIn K mainGlobals "sum"=some none)
    (n_all:PySem.W.nsIn K mainGlobals "all"=some none)
    (n_tuple:PySem.W.nsIn K mainGlobals "tuple"=some none)
    (n_list:PySem.W.nsIn K mainGlobals "list"=some none)
    (n_enumerate:PySem.W.nsIn K mainGlobals "enumerate"=some none)
    (n_zip:PySem.W.nsIn K mainGlobals "zip"=some none)
    (n_sorted:PySem.W.nsIn K mainGlobals "sorted"=some none)
    (v_NOT_AS_TOLD:PySem.W.nsIn K mainGlobals "NOT_AS_TOLD"=some (some (.int (-1) t_NOT_AS_TOLD)))
    (v_NO_SEARCH:PySem.W.nsIn K mainGlobals "NO_SEARCH"=some (some (.int (-2) t_NO_SEARCH)))
    (v_NOT_THERE:PySem.W.nsIn K mainGlobals "NOT_THERE"=some (some (.int (-3) t_NOT_THERE)))
    (v_TOO_MUCH:PySem.W.nsIn K mainGlobals "TOO_MUCH"=some (some (.int (-5) t_TOO_MUCH)))
    (v_MOST_WORDS:PySem.W.nsIn K mainGlobals "MOST_WORDS"=some (some (.int (60) t_MOST_WORDS)))
    (v_MOST_OWN_WEIGHT:PySem.W.nsIn K mainGlobals "MOST_OWN_WEIGHT"=some (some (.int (100000) t_MOST_OWN_WEIGHT)))
    (v_MOST_USES_WEIGHT:PySem.W.nsIn K mainGlobals "MOST_USES_WEIGHT"=some (some (.int (100000) t_MOST_USES_WEIGHT)))
    (v_ONE_USE_WEIGHT:PySem.W.nsIn K mainGlobals "ONE_USE_WEIGHT"=some (some (.int (16) t_ONE_USE_WEIGHT)))
    (v_LAST_LETTER:PySem.W.nsIn K mainGlobals "LAST_LETTER"=some (some (.int (26) t_LAST_LETTER)))
    (v_MOST_WORD_LETTERS:PySem.W.nsIn K mainGlobals "MOST_WORD_LETTERS"=some (some (.int (10) t_MOST_WORD_LETTERS)))
    (v_MOST_LETTERS_TYPED:PySem.W.nsIn K mainGlobals "MOST_LETTERS_TYPED"=some (some (.int (12) t_MOST_LETTERS_TYPED)))
    (v_MOST_FAULTS_ASKED:PySem.W.nsIn K mainGlobals "MOST_FAULTS_ASKED"=some (some (.int (3) t_MOST_FAULTS_ASKED)))
    (v_WORD:PySem.W.nsIn K mainGlobals "WORD"=some (some (.int (0) t_WORD)))
    (v_OUT:PySem.W.nsIn K mainGlobals "OUT"=some (some (.int (1) t_OUT)))
    (v_USE:PySem.W.nsIn K mainGlobals "USE"=some (some (.int (2) t_USE)))
    (v_DAY:PySem.W.nsIn K mainGlobals "DAY"=some (some (.int (3) t_DAY)))
    (v_BEST:PySem.W.nsIn K mainGlobals "BEST"=some (some (.int (4) t_BEST)))
    (v_LOOKS:PySem.W.nsIn K mainGlobals "LOOKS"=some (some (.int (5) t_LOOKS)))
    (v_BEGIN:PySem.W.nsIn K mainGlobals "BEGIN"=some (some (.int (6) t_BEGIN)))
    (v_MORE:PySem.W.nsIn K mainGlobals "MORE"=some (some (.int (7) t_MORE)))
    (v_SURE:PySem.W.nsIn K mainGlobals "SURE"=some (some (.int (8) t_SURE)))
    (v_NEAR:PySem.W.nsIn K mainGlobals "NEAR"=some (some (.int (9) t_NEAR)))
    (v_FAULTS:PySem.W.nsIn K mainGlobals "FAULTS"=some (some (.int (10) t_FAULTS)))
    {sh s0 s1 s2 s3 s4 s5 s6 s7 s8 s9 s10 s11:Addr} (neE:NoEq K E) (hSE:S≠E) (hDS:D≠S) (hDE:D≠E) (gSH:PySem.W.nsIn K mainGlobals "SHAPES"=some (some (.ref sh))) (tSH:TupAt K sh [.ref s0,.ref s1,.ref s2,.ref s3,.ref s4,.ref s5,.ref s6,.ref s7,.ref s8,.ref s9,.ref s10,.ref s11]) (t_s0:TupAt K s0 [.int 1,.int 1]) (t_s1:TupAt K s1 [.int 0,.int 1]) (t_s2:TupAt K s2 [.int 0,.int 1]) (t_s3:TupAt K s3 [.int 0,.int 0]) (t_s4:TupAt K s4 [.int 1,.int 1]) (t_s5:TupAt K s5 [.int 1,.int 1]) (t_s6:TupAt K s6 [.int 0,.int 1]) (t_s7:TupAt K s7 [.int 1,.int 0]) (t_s8:TupAt K s8 [.int 0,.int 1]) (t_s9:TupAt K s9 [.int 2,.int 1]) (t_s10:TupAt K s10 [.int 1,.int 1]) (t_s11:TupAt K s11 [.int 1,.int 1]):
    ∃fd:FuncData,(∀(s:Shared) (us:List Value),us.length=(["calls"]:List Str).length->BindsTo s fd ⟨us,[]⟩ ((["calls"]:List Str).zip us))/\∀base:Heap,K.In base->base.Ns mainGlobals mg->FnOk P w K mg base CX0 10 fa fd ["calls"] (spTop K):=by
  have e:=hfa.symm.trans (PySem.W.mg_of X G a_top)
  cases e
  have b_wtb:=F_wtb.binds (ps:=["weights","typed"]) fun _ _ _ _ _ _ us hl=>match us,hl with | [_,_],_=>rfl
  have g_wtb:mg "words_that_begin"=some (.ref f_wtb):=PySem.W.mg_of X G a_wtb
  have b_shr:=F_shr.binds (ps:=["words"]) fun _ _ _ _ _ _ us hl=>match us,hl with | [_],_=>rfl
  have g_shr:mg "shared_letters"=some (.ref f_shr):=PySem.W.mg_of X G a_shr
  have b_few:=F_few.binds (ps:=["typed","word"]) fun _ _ _ _ _ _ us hl=>match us,hl with | [_,_],_=>rfl
  have g_few:mg "fewest_faults"=some (.ref f_few):=PySem.W.mg_of X G a_few
  have b_hvy:=F_hvy.binds (ps:=["weights","typed"]) fun _ _ _ _ _ _ us hl=>match us,hl with | [_,_],_=>rfl
  have g_hvy:mg "heaviest_words"=some (.ref f_hvy):=PySem.W.mg_of X G a_hvy
  have b_ein:=F_ein.binds (ps:=["self","weight","row","as_word"]) fun _ _ _ _ _ _ us hl=>match us,hl with | [_,_,_,_],_=>rfl
  have ME:Mk K E f_ein:=⟨mkE,a_ein,i_ein,kpE⟩
  have b_pio:=F_pio.binds (ps:=["entry"]) fun _ _ _ _ _ _ us hl=>match us,hl with | [_],_=>rfl
  have g_pio:mg "place_in_order"=some (.ref f_pio):=PySem.W.mg_of X G a_pio
  have b_sin:=F_sin.binds (ps:=["self","weights","typed"]) fun _ _ _ _ _ _ us hl=>match us,hl with | [_,_,_],_=>rfl
  have MS:Mk K S f_sin:=⟨mkS,a_sin,i_sin,kpS⟩
  have b_lay:=F_lay.binds (ps:=["self","row"]) fun _ _ _ _ _ _ us hl=>match us,hl with | [_,_],_=>rfl
  have m_lay:Meth K S "lay_beginning" f_lay:=⟨a_lay,i_lay,F_lay.kp⟩
  have b_opn:=F_opn.binds (ps:=["self","row"]) fun _ _ _ _ _ _ us hl=>match us,hl with | [_,_],_=>rfl
  have m_opn:Meth K S "open_beginning" f_opn:=⟨a_opn,i_opn,F_opn.kp⟩
  have b_tak:=F_tak.binds (ps:=["self"]) fun _ _ _ _ _ _ us hl=>match us,hl with | [_],_=>rfl
  have m_tak:Meth K S "take_first" f_tak:=⟨a_tak,i_tak,F_tak.kp⟩
  have b_tel:=F_tel.binds (ps:=["self","wanted"]) fun _ _ _ _ _ _ us hl=>match us,hl with | [_,_],_=>rfl
  have m_tel:Meth K S "tell" f_tel:=⟨a_tel,i_tel,F_tel.kp⟩
  have b_are:=F_are.binds (ps:=["row"]) fun _ _ _ _ _ _ us hl=>match us,hl with | [_],_=>rfl
  have g_are:mg "are_letters"=some (.ref f_are):=PySem.W.mg_of X G a_are
  have b_isw:=F_isw.binds (ps:=["row"]) fun _ _ _ _ _ _ us hl=>match us,hl with | [_],_=>rfl
  have g_isw:mg "is_word"=some (.ref f_isw):=PySem.W.mg_of X G a_isw
  have b_can:=F_can.binds (ps:=["row"]) fun _ _ _ _ _ _ us hl=>match us,hl with | [_],_=>rfl
  have g_can:mg "can_be_typed"=some (.ref f_can):=PySem.W.mg_of X G a_can
  have b_tw:=F_tw.binds (ps:=["word","weight"]) fun _ _ _ _ _ _ us hl=>match us,hl with | [_,_],_=>rfl
  have g_tw:mg "told_with_weight"=some (.ref f_tw):=PySem.W.mg_of X G a_tw
  have b_tww:=F_tww.binds (ps:=["pairs"]) fun _ _ _ _ _ _ us hl=>match us,hl with | [_],_=>rfl
  have g_tww:mg "told_with_weights"=some (.ref f_tww):=PySem.W.mg_of X G a_tww
  have b_pwn:=F_pwn.binds (ps:=["found"]) fun _ _ _ _ _ _ us hl=>match us,hl with | [_],_=>rfl
  have g_pwn:mg "place_when_near"=some (.ref f_pwn):=PySem.W.mg_of X G a_pwn
  have b_nrw:=F_nrw.binds (ps:=["weights","typed","most_faults"]) fun _ _ _ _ _ _ us hl=>match us,hl with | [_,_,_],_=>rfl
  have g_nrw:mg "near_words"=some (.ref f_nrw):=PySem.W.mg_of X G a_nrw
  have b_din:=F_din.binds (ps:=["self"]) fun _ _ _ _ _ _ us hl=>match us,hl with | [_],_=>rfl
  have MD:Mk K D f_din:=⟨mkD,a_din,i_din,kpD⟩
  have b_now:=F_now.binds (ps:=["self"]) fun _ _ _ _ _ _ us hl=>match us,hl with | [_],_=>rfl
  have m_now:Meth K D "weights_now" f_now:=⟨a_now,i_now,F_now.kp⟩
  have b_wrd:=F_wrd.binds (ps:=["self","v","letters"]) fun _ _ _ _ _ _ us hl=>match us,hl with | [_,_,_],_=>rfl
  have m_wrd:Meth K D "word" f_wrd:=⟨a_wrd,i_wrd,F_wrd.kp⟩
  have b_out:=F_out.binds (ps:=["self","letters"]) fun _ _ _ _ _ _ us hl=>match us,hl with | [_,_],_=>rfl
  have m_out:Meth K D "out" f_out:=⟨a_out,i_out,F_out.kp⟩
  have b_use:=F_use.binds (ps:=["self","letters"]) fun _ _ _ _ _ _ us hl=>match us,hl with | [_,_],_=>rfl
  have m_use:Meth K D "use" f_use:=⟨a_use,i_use,F_use.kp⟩
  have b_day:=F_day.binds (ps:=["self"]) fun _ _ _ _ _ _ us hl=>match us,hl with | [_],_=>rfl
  have m_day:Meth K D "day" f_day:=⟨a_day,i_day,F_day.kp⟩
  have b_bst:=F_bst.binds (ps:=["self","k","letters"]) fun _ _ _ _ _ _ us hl=>match us,hl with | [_,_,_],_=>rfl
  have m_bst:Meth K D "best" f_bst:=⟨a_bst,i_bst,F_bst.kp⟩
  have b_lks:=F_lks.binds (ps:=["self","k","letters"]) fun _ _ _ _ _ _ us hl=>match us,hl with | [_,_,_],_=>rfl
  have m_lks:Meth K D "looks" f_lks:=⟨a_lks,i_lks,F_lks.kp⟩
  have b_bgn:=F_bgn.binds (ps:=["self","letters"]) fun _ _ _ _ _ _ us hl=>match us,hl with | [_,_],_=>rfl
  have m_bgn:Meth K D "begin" f_bgn:=⟨a_bgn,i_bgn,F_bgn.kp⟩
  have b_mor:=F_mor.binds (ps:=["self","n"]) fun _ _ _ _ _ _ us hl=>match us,hl with | [_,_],_=>rfl
  have m_mor:Meth K D "more" f_mor:=⟨a_mor,i_mor,F_mor.kp⟩
  have b_sur:=F_sur.binds (ps:=["self","letters"]) fun _ _ _ _ _ _ us hl=>match us,hl with | [_,_],_=>rfl
  have m_sur:Meth K D "sure" f_sur:=⟨a_sur,i_sur,F_sur.kp⟩
  have b_nea:=F_nea.binds (ps:=["self","e","k","letters"]) fun _ _ _ _ _ _ us hl=>match us,hl with | [_,_,_,_],_=>rfl
  have m_nea:Meth K D "near" f_nea:=⟨a_nea,i_nea,F_nea.kp⟩
  have b_fau:=F_fau.binds (ps:=["self","n","letters"]) fun _ _ _ _ _ _ us hl=>match us,hl with | [_,_,_],_=>rfl
  have m_fau:Meth K D "faults" f_fau:=⟨a_fau,i_fau,F_fau.kp⟩
  have b_kys:=F_kys.binds (ps:=["self","k","letters"]) fun _ _ _ _ _ _ us hl=>match us,hl with | [_,_,_],_=>rfl
  have m_kys:Meth K D "keys_to" f_kys:=⟨a_kys,i_kys,F_kys.kp⟩
  have b_ans:=F_ans.binds (ps:=["desk","call","numbers","letters"]) fun _ _ _ _ _ _ us hl=>match us,hl with | [_,_,_,_],_=>rfl
  have g_ans:mg "answer"=some (.ref f_ans):=PySem.W.mg_of X G a_ans
  have b_rdc:=F_rdc.binds (ps:=["calls"]) fun _ _ _ _ _ _ us hl=>match us,hl with | [_],_=>rfl
  have g_rdc:mg "read_calls"=some (.ref f_rdc):=PySem.W.mg_of X G a_rdc
  have b_top:=F_top.binds (ps:=["calls"]) fun _ _ _ _ _ _ us hl=>match us,hl with | [_],_=>rfl
  have mgE:mg "Entry"=some (.ref E):=PySem.W.mg_of X G gE
  have mgS:mg "Search"=some (.ref S):=PySem.W.mg_of X G gS
  have mgD:mg "Desk"=some (.ref D):=PySem.W.mg_of X G gD
  have B:Blt mg:=⟨PySem.W.mg_none_of X G n_len,PySem.W.mg_none_of X G n_range,PySem.W.mg_none_of X G n_max,PySem.W.mg_none_of X G n_min,PySem.W.mg_none_of X G n_sum,PySem.W.mg_none_of X G n_all,PySem.W.mg_none_of X G n_tuple,PySem.W.mg_none_of X G n_list⟩
  have B2:Blt2 mg:=⟨PySem.W.mg_none_of X G n_enumerate,PySem.W.mg_none_of X G n_zip,PySem.W.mg_none_of X G n_sorted⟩
  have w_NOT_AS_TOLD:∃t,mg "NOT_AS_TOLD"=some (.int (-1) t):=⟨_,PySem.W.mg_of X G v_NOT_AS_TOLD⟩
  have w_NO_SEARCH:∃t,mg "NO_SEARCH"=some (.int (-2) t):=⟨_,PySem.W.mg_of X G v_NO_SEARCH⟩
  have w_NOT_THERE:∃t,mg "NOT_THERE"=some (.int (-3) t):=⟨_,PySem.W.mg_of X G v_NOT_THERE⟩
  have w_TOO_MUCH:∃t,mg "TOO_MUCH"=some (.int (-5) t):=⟨_,PySem.W.mg_of X G v_TOO_MUCH⟩
  have w_MOST_WORDS:∃t,mg "MOST_WORDS"=some (.int (60) t):=⟨_,PySem.W.mg_of X G v_MOST_WORDS⟩
  have w_MOST_OWN_WEIGHT:∃t,mg "MOST_OWN_WEIGHT"=some (.int (100000) t):=⟨_,PySem.W.mg_of X G v_MOST_OWN_WEIGHT⟩
  have w_MOST_USES_WEIGHT:∃t,mg "MOST_USES_WEIGHT"=some (.int (100000) t):=⟨_,PySem.W.mg_of X G v_MOST_USES_WEIGHT⟩
  have w_ONE_USE_WEIGHT:∃t,mg "ONE_USE_WEIGHT"=some (.int (16) t):=⟨_,PySem.W.mg_of X G v_ONE_USE_WEIGHT⟩
  have w_LAST_LETTER:∃t,mg "LAST_LETTER"=some (.int (26) t):=⟨_,PySem.W.mg_of X G v_LAST_LETTER⟩
  have w_MOST_WORD_LETTERS:∃t,mg "MOST_WORD_LETTERS"=some (.int (10) t):=⟨_,PySem.W.mg_of X G v_MOST_WORD_LETTERS⟩
  have w_MOST_LETTERS_TYPED:∃t,mg "MOST_LETTERS_TYPED"=some (.int (12) t):=⟨_,PySem.W.mg_of X G v_MOST_LETTERS_TYPED⟩
  have w_MOST_FAULTS_ASKED:∃t,mg "MOST_FAULTS_ASKED"=some (.int (3) t):=⟨_,PySem.W.mg_of X G v_MOST_FAULTS_ASKED⟩
  have w_WORD:∃t,mg "WORD"=some (.int (0) t):=⟨_,PySem.W.mg_of X G v_WORD⟩
  have w_OUT:∃t,mg "OUT"=some (.int (1) t):=⟨_,PySem.W.mg_of X G v_OUT⟩
  have w_USE:∃t,mg "USE"=some (.int (2) t):=⟨_,PySem.W.mg_of X G v_USE⟩
  have w_DAY:∃t,mg "DAY"=some (.int (3) t):=⟨_,PySem.W.mg_of X G v_DAY⟩
  have w_BEST:∃t,mg "BEST"=some (.int (4) t):=⟨_,PySem.W.mg_of X G v_BEST⟩
  have w_LOOKS:∃t,mg "LOOKS"=some (.int (5) t):=⟨_,PySem.W.mg_of X G v_LOOKS⟩
  have w_BEGIN:∃t,mg "BEGIN"=some (.int (6) t):=⟨_,PySem.W.mg_of X G v_BEGIN⟩
  have w_MORE:∃t,mg "MORE"=some (.int (7) t):=⟨_,PySem.W.mg_of X G v_MORE⟩
  have w_SURE:∃t,mg "SURE"=some (.int (8) t):=⟨_,PySem.W.mg_of X G v_SURE⟩
  have w_NEAR:∃t,mg "NEAR"=some (.int (9) t):=⟨_,PySem.W.mg_of X G v_NEAR⟩
  have w_FAULTS:∃t,mg "FAULTS"=some (.int (10) t):=⟨_,PySem.W.mg_of X G v_FAULTS⟩
  have TE:ETxt K E:=⟨clE,naE_weight,naE_row,naE_as_word,neE⟩
  have TS:STxt K mg S E:=⟨TE,clS,naS_weight_of,naS_heaviest,naS_ready,naS_opened,mgE,w_LAST_LETTER,B⟩
  have N:Nums mg:=⟨w_LAST_LETTER,w_MOST_WORD_LETTERS,w_MOST_LETTERS_TYPED⟩
  have T:DTxt K mg D:=⟨clD,naD_own_weights,naD_uses_weights,B,N,w_NOT_AS_TOLD,w_NOT_THERE,w_TOO_MUCH,w_MOST_WORDS,w_MOST_OWN_WEIGHT,w_MOST_USES_WEIGHT,w_ONE_USE_WEIGHT⟩
  have T2:DTxt2 K mg D:=⟨naD_open_search,w_NO_SEARCH,w_MOST_FAULTS_ASKED⟩
  have SH:ShapesAt K mg:=shapes_of (PySem.W.mg_of X G gSH) tSH t_s0 t_s1 t_s2 t_s3 t_s4 t_s5 t_s6 t_s7 t_s8 t_s9 t_s10 t_s11
  obtain⟨oc,od,kV,doc,pm,an,cdv,ct,osl,hfd,lk,hcd⟩:=id F_top.ex
  subst hfd
  refine⟨PySem.W.fnOf "answers" "answers" (defArgs sAnswers) (defBody sAnswers) (defScope sAnswers) .none kV doc pm an cdv ct,fun s us hu=>match us,hu with | [_],_=> .of_eq rfl,fun base _ _=> ?_⟩
  have GN:FnOk P w K mg base CX0 1 f_now d_now ["self"] (spNow D):=ok_now F_now T
  have GI:FnOk P w K mg base CX0 4 f_sin d_sin ["self","weights","typed"] (spSInit S E):=ok_sinit F_sin TS ME F_ein b_ein F_lay b_lay m_lay F_wtb b_wtb g_wtb F_wtb.kp F_hvy b_hvy g_hvy F_hvy.kp
  have GT:FnOk P w K mg base CX0 5 f_tel d_tel ["self","wanted"] (spTell S E):=ok_tell F_tel TS hSE ME F_ein b_ein F_lay b_lay m_lay F_pio b_pio g_pio F_opn b_opn m_opn F_tak b_tak m_tak
  have GC:FnOk P w K mg base CX0 2 f_can d_can ["row"] spCan:=ok_can F_can B N F_are b_are g_are F_are.kp
  have GTw:FnOk P w K mg base CX0 1 f_tw d_tw ["word","weight"] spTw:=ok_tw F_tw B
  have GW:FnOk P w K mg base CX0 2 f_tww d_tww ["pairs"] spTww:=ok_tww F_tww GTw b_tw g_tw F_tw.kp
  have GB:FnOk P w K mg base CX0 1 f_wtb d_wtb ["weights","typed"] spWtb:=ok_wtb F_wtb B
  have GS:FnOk P w K mg base CX0 2 f_shr d_shr ["words"] spShared:=ok_shared F_shr B B2
  have GF:FnOk P w K mg base CX0 1 f_few d_few ["typed","word"] spFew:=ok_few F_few B B2
  have GP:FnOk P w K mg base CX0 1 f_pwn d_pwn ["found"] spPwn:=ok_pwn F_pwn
  have GR:FnOk P w K mg base CX0 4 f_nrw d_nrw ["weights","typed","most_faults"] spNear:=ok_nearw F_nrw B2 GF b_few g_few F_few.kp GP b_pwn g_pwn
  have G:Fns P w K mg base D S E f_now f_sin f_tel f_can f_tww d_now d_sin d_tel d_can d_tww:=⟨T,TS,GN,b_now,m_now,MS,mgS,GI,b_sin,GT,b_tel,m_tel,GC,b_can,g_can,F_can.kp,GW,b_tww,g_tww,F_tww.kp⟩
  have GA:FnOk P w K mg base CX0 9 f_ans d_ans ["desk","call","numbers","letters"] (spAns (DI D S E)):=ok_answer F_ans clD
    ⟨ok_word F_wrd T F_isw b_isw g_isw F_isw.kp F_are b_are g_are F_are.kp,b_wrd,m_wrd⟩ ⟨ok_out F_out T,b_out,m_out⟩ ⟨ok_use F_use T,b_use,m_use⟩ ⟨ok_day F_day T F_now b_now m_now,b_day,m_day⟩
    ⟨ok_best F_bst G,b_bst,m_bst⟩ ⟨ok_looks F_lks G,b_lks,m_lks⟩ ⟨ok_begin F_bgn G T2 hDE,b_bgn,m_bgn⟩ ⟨ok_more F_mor G T2 hDS,b_mor,m_mor⟩
    ⟨ok_sure F_sur T GC b_can g_can F_can.kp GB b_wtb g_wtb F_wtb.kp GS b_shr g_shr F_shr.kp,b_sur,m_sur⟩ ⟨ok_near F_nea T T2 GN b_now m_now GC b_can g_can F_can.kp GR b_nrw g_nrw F_nrw.kp GTw b_tw g_tw F_tw.kp,b_nea,m_nea⟩
    ⟨ok_faults F_fau T GC b_can g_can F_can.kp GF b_few g_few F_few.kp,b_fau,m_fau⟩ ⟨ok_keys F_kys G,b_kys,m_kys⟩
    w_WORD w_OUT w_USE w_DAY w_BEST w_LOOKS w_BEGIN w_MORE w_SURE w_NEAR w_FAULTS
  have GD:FnOk P w K mg base CX0 1 f_din d_din ["self"] (spDInit (DI D S E) D):=ok_dinit F_din T T2
  have GRd:FnOk P w K mg base CX0 1 f_rdc d_rdc ["calls"] (spRead K):=ok_read F_rdc B SH
  exact ok_answers (k:=0) (di_ok D S E) F_top B MD mgD GD b_din GRd b_rdc g_rdc F_rdc.kp GA b_ans g_ans F_ans.kp
end TyP
open PySem PySem.W PyProof.Rows
set_option maxRecDepth 100000 in
set_option maxHeartbeats 0 in
theorem PySem.Challenge.cw_typedaheaddesk_s01_answers_holds : PySem.Challenge.rw_typedaheaddesk_s01_answers.Holds := by
  w_on;k_headS;(case hw=>exact⟨[.list [.int 3]],by decide +kernel,by decide +kernel⟩)
  k_fillS
  refine L2.walk_specK (r:=PySem.Challenge.rw_typedaheaddesk_s01_answers) (k:=10) (CX:=L2.CX0) (ps:=["calls"]) (sp:=TyP.spTop) (by decide +kernel) rfl rfl ⟨rfl,by decide,by decide⟩ (fun w h Y=>PySem.W.kIn_of Y) ?F ?S (fun _ _ _ _ z=>z)
  case F=>
    intro w mg fa h Y KX G hmg
    refine' TyP.all_mk KX G hmg ?gE ?clE ?mkE ?kpE ?gS ?clS ?mkS ?kpS ?gD ?clD ?mkD ?kpD ?naE_weight ?naE_row ?naE_as_word ?naS_weight_of ?naS_heaviest ?naS_ready ?naS_opened ?naD_own_weights ?naD_uses_weights ?naD_open_search ?a_wtb ?F_wtb ?a_shr ?F_shr ?a_few ?F_few ?a_hvy ?F_hvy ?a_ein ?i_ein ?F_ein ?a_pio ?F_pio ?a_sin ?i_sin ?F_sin ?a_lay ?i_lay ?F_lay ?a_opn ?i_opn ?F_opn ?a_tak ?i_tak ?F_tak ?a_tel ?i_tel ?F_tel ?a_are ?F_are ?a_isw ?F_isw ?a_can ?F_can ?a_tw ?F_tw ?a_tww ?F_tww ?a_pwn ?F_pwn ?a_nrw ?F_nrw ?a_din ?i_din ?F_din ?a_now ?i_now ?F_now ?a_wrd ?i_wrd ?F_wrd ?a_out ?i_out ?F_out ?a_use ?i_use ?F_use ?a_day ?i_day ?F_day ?a_bst ?i_bst ?F_bst ?a_lks ?i_lks ?F_lks ?a_bgn ?i_bgn ?F_bgn ?a_mor ?i_mor ?F_mor ?a_sur ?i_sur ?F_sur ?a_nea ?i_nea ?F_nea ?a_fau ?i_fau ?F_fau ?a_kys ?i_kys ?F_kys ?a_ans ?F_ans ?a_rdc ?F_rdc ?a_top ?F_top ?n_len ?n_range ?n_max ?n_min ?n_sum ?n_all ?n_tuple ?n_list ?n_enumerate ?n_zip ?n_sorted ?v_NOT_AS_TOLD ?v_NO_SEARCH ?v_NOT_THERE ?v_TOO_MUCH ?v_MOST_WORDS ?v_MOST_OWN_WEIGHT ?v_MOST_USES_WEIGHT ?v_ONE_USE_WEIGHT ?v_LAST_LETTER ?v_MOST_WORD_LETTERS ?v_MOST_LETTERS_TYPED ?v_MOST_FAULTS_ASKED ?v_WORD ?v_OUT ?v_USE ?v_DAY ?v_BEST ?v_LOOKS ?v_BEGIN ?v_MORE ?v_SURE ?v_NEAR ?v_FAULTS ?neE ?hSE ?hDS ?hDE ?gSH ?tSH ?t_s0 ?t_s1 ?t_s2 ?t_s3 ?t_s4 ?t_s5 ?t_s6 ?t_s7 ?t_s8 ?t_s9 ?t_s10 ?t_s11
    (case gE=>k_is)
    (case clE=>refine' ⟨?_,?_,?_,?_⟩ <;> k_is)
    (case mkE=>k_is)
    (case kpE=>k_is)
    (case gS=>k_is)
    (case clS=>refine' ⟨?_,?_,?_,?_⟩ <;> k_is)
    (case mkS=>k_is)
    (case kpS=>k_is)
    (case gD=>k_is)
    (case clD=>refine' ⟨?_,?_,?_,?_⟩ <;> k_is)
    (case mkD=>k_is)
    (case kpD=>k_is)
    (case naE_weight=>unfold L2.NoAttr;k_is)
    (case naE_row=>unfold L2.NoAttr;k_is)
    (case naE_as_word=>unfold L2.NoAttr;k_is)
    (case naS_weight_of=>unfold L2.NoAttr;k_is)
    (case naS_heaviest=>unfold L2.NoAttr;k_is)
    (case naS_ready=>unfold L2.NoAttr;k_is)
    (case naS_opened=>unfold L2.NoAttr;k_is)
    (case naD_own_weights=>unfold L2.NoAttr;k_is)
    (case naD_uses_weights=>unfold L2.NoAttr;k_is)
    (case naD_open_search=>unfold L2.NoAttr;k_is)
    (case a_wtb=>k_is)
    (case F_wtb=>refine' L2.fun_mk ?l ?c ?k;(case l=>k_is);(case c=>k_is);(case k=>k_is))
    (case a_shr=>k_is)
    (case F_shr=>refine' L2.fun_mk ?l ?c ?k;(case l=>k_is);(case c=>k_is);(case k=>k_is))
    (case a_few=>k_is)
    (case F_few=>refine' L2.fun_mk ?l ?c ?k;(case l=>k_is);(case c=>k_is);(case k=>k_is))
    (case a_hvy=>k_is)
    (case F_hvy=>refine' L2.fun_mk ?l ?c ?k;(case l=>k_is);(case c=>k_is);(case k=>k_is))
    (case a_ein=>k_is)
    (case i_ein=>k_is)
    (case F_ein=>refine' L2.fun_mk ?l ?c ?k;(case l=>k_is);(case c=>k_is);(case k=>k_is))
    (case a_pio=>k_is)
    (case F_pio=>refine' L2.fun_mk ?l ?c ?k;(case l=>k_is);(case c=>k_is);(case k=>k_is))
    (case a_sin=>k_is)
    (case i_sin=>k_is)
    (case F_sin=>refine' L2.fun_mk ?l ?c ?k;(case l=>k_is);(case c=>k_is);(case k=>k_is))
    (case a_lay=>k_is)
    (case i_lay=>k_is)
    (case F_lay=>refine' L2.fun_mk ?l ?c ?k;(case l=>k_is);(case c=>k_is);(case k=>k_is))
    (case a_opn=>k_is)
    (case i_opn=>k_is)
    (case F_opn=>refine' L2.fun_mk ?l ?c ?k;(case l=>k_is);(case c=>k_is);(case k=>k_is))
    (case a_tak=>k_is)
    (case i_tak=>k_is)
    (case F_tak=>refine' L2.fun_mk ?l ?c ?k;(case l=>k_is);(case c=>k_is);(case k=>k_is))
    (case a_tel=>k_is)
    (case i_tel=>k_is)
    (case F_tel=>refine' L2.fun_mk ?l ?c ?k;(case l=>k_is);(case c=>k_is);(case k=>k_is))
    (case a_are=>k_is)
    (case F_are=>refine' L2.fun_mk ?l ?c ?k;(case l=>k_is);(case c=>k_is);(case k=>k_is))
    (case a_isw=>k_is)
    (case F_isw=>refine' L2.fun_mk ?l ?c ?k;(case l=>k_is);(case c=>k_is);(case k=>k_is))
    (case a_can=>k_is)
    (case F_can=>refine' L2.fun_mk ?l ?c ?k;(case l=>k_is);(case c=>k_is);(case k=>k_is))
    (case a_tw=>k_is)
    (case F_tw=>refine' L2.fun_mk ?l ?c ?k;(case l=>k_is);(case c=>k_is);(case k=>k_is))
    (case a_tww=>k_is)
    (case F_tww=>refine' L2.fun_mk ?l ?c ?k;(case l=>k_is);(case c=>k_is);(case k=>k_is))
    (case a_pwn=>k_is)
    (case F_pwn=>refine' L2.fun_mk ?l ?c ?k;(case l=>k_is);(case c=>k_is);(case k=>k_is))
    (case a_nrw=>k_is)
    (case F_nrw=>refine' L2.fun_mk ?l ?c ?k;(case l=>k_is);(case c=>k_is);(case k=>k_is))
    (case a_din=>k_is)
    (case i_din=>k_is)
    (case F_din=>refine' L2.fun_mk ?l ?c ?k;(case l=>k_is);(case c=>k_is);(case k=>k_is))
    (case a_now=>k_is)
    (case i_now=>k_is)
    (case F_now=>refine' L2.fun_mk ?l ?c ?k;(case l=>k_is);(case c=>k_is);(case k=>k_is))
    (case a_wrd=>k_is)
    (case i_wrd=>k_is)
    (case F_wrd=>refine' L2.fun_mk ?l ?c ?k;(case l=>k_is);(case c=>k_is);(case k=>k_is))
    (case a_out=>k_is)
    (case i_out=>k_is)
    (case F_out=>refine' L2.fun_mk ?l ?c ?k;(case l=>k_is);(case c=>k_is);(case k=>k_is))
    (case a_use=>k_is)
    (case i_use=>k_is)
    (case F_use=>refine' L2.fun_mk ?l ?c ?k;(case l=>k_is);(case c=>k_is);(case k=>k_is))
    (case a_day=>k_is)
    (case i_day=>k_is)
    (case F_day=>refine' L2.fun_mk ?l ?c ?k;(case l=>k_is);(case c=>k_is);(case k=>k_is))
    (case a_bst=>k_is)
    (case i_bst=>k_is)
    (case F_bst=>refine' L2.fun_mk ?l ?c ?k;(case l=>k_is);(case c=>k_is);(case k=>k_is))
    (case a_lks=>k_is)
    (case i_lks=>k_is)
    (case F_lks=>refine' L2.fun_mk ?l ?c ?k;(case l=>k_is);(case c=>k_is);(case k=>k_is))
    (case a_bgn=>k_is)
    (case i_bgn=>k_is)
    (case F_bgn=>refine' L2.fun_mk ?l ?c ?k;(case l=>k_is);(case c=>k_is);(case k=>k_is))
    (case a_mor=>k_is)
    (case i_mor=>k_is)
    (case F_mor=>refine' L2.fun_mk ?l ?c ?k;(case l=>k_is);(case c=>k_is);(case k=>k_is))
    (case a_sur=>k_is)
    (case i_sur=>k_is)
    (case F_sur=>refine' L2.fun_mk ?l ?c ?k;(case l=>k_is);(case c=>k_is);(case k=>k_is))
    (case a_nea=>k_is)
    (case i_nea=>k_is)
    (case F_nea=>refine' L2.fun_mk ?l ?c ?k;(case l=>k_is);(case c=>k_is);(case k=>k_is))
    (case a_fau=>k_is)
    (case i_fau=>k_is)
    (case F_fau=>refine' L2.fun_mk ?l ?c ?k;(case l=>k_is);(case c=>k_is);(case k=>k_is))
    (case a_kys=>k_is)
    (case i_kys=>k_is)
    (case F_kys=>refine' L2.fun_mk ?l ?c ?k;(case l=>k_is);(case c=>k_is);(case k=>k_is))
    (case a_ans=>k_is)
    (case F_ans=>refine' L2.fun_mk ?l ?c ?k;(case l=>k_is);(case c=>k_is);(case k=>k_is))
    (case a_rdc=>k_is)
    (case F_rdc=>refine' L2.fun_mk ?l ?c ?k;(case l=>k_is);(case c=>k_is);(case k=>k_is))
    (case a_top=>k_is)
    (case F_top=>refine' L2.fun_mk ?l ?c ?k;(case l=>k_is);(case c=>k_is);(case k=>k_is))
    (case n_len=>k_is)
    (case n_range=>k_is)
    (case n_max=>k_is)
    (case n_min=>k_is)
    (case n_sum=>k_is)
    (case n_all=>k_is)
    (case n_tuple=>k_is)
    (case n_list=>k_is)
    (case n_enumerate=>k_is)
    (case n_zip=>k_is)
    (case n_sorted=>k_is)
    (case v_NOT_AS_TOLD=>k_is)
    (case v_NO_SEARCH=>k_is)
    (case v_NOT_THERE=>k_is)
    (case v_TOO_MUCH=>k_is)
    (case v_MOST_WORDS=>k_is)
    (case v_MOST_OWN_WEIGHT=>k_is)
    (case v_MOST_USES_WEIGHT=>k_is)
    (case v_ONE_USE_WEIGHT=>k_is)
    (case v_LAST_LETTER=>k_is)
    (case v_MOST_WORD_LETTERS=>k_is)
    (case v_MOST_LETTERS_TYPED=>k_is)
    (case v_MOST_FAULTS_ASKED=>k_is)
    (case v_WORD=>k_is)
    (case v_OUT=>k_is)
    (case v_USE=>k_is)
    (case v_DAY=>k_is)
    (case v_BEST=>k_is)
    (case v_LOOKS=>k_is)
    (case v_BEGIN=>k_is)
    (case v_MORE=>k_is)
    (case v_SURE=>k_is)
    (case v_NEAR=>k_is)
    (case v_FAULTS=>k_is)
    (case neE=>refine' ⟨?_,?_⟩ <;> k_is)
    (case hSE=>decide)
    (case hDS=>decide)
    (case hDE=>decide)
    (case gSH=>k_is)
    (case tSH=>refine' TyP.tup_mk ?l ?c ?d ?z ?v;(case l=>k_is);(case c=>rfl);(case d=>rfl);(case z=>decide);(case v=>exact .cons rfl (.cons rfl (.cons rfl (.cons rfl (.cons rfl (.cons rfl (.cons rfl (.cons rfl (.cons rfl (.cons rfl (.cons rfl (.cons rfl (.nil))))))))))))))
    (case t_s0=>refine' TyP.tup_mk ?l ?c ?d ?z ?v;(case l=>k_is);(case c=>rfl);(case d=>rfl);(case z=>decide);(case v=>exact .cons ⟨_,rfl⟩ (.cons ⟨_,rfl⟩ .nil)))
    (case t_s1=>refine' TyP.tup_mk ?l ?c ?d ?z ?v;(case l=>k_is);(case c=>rfl);(case d=>rfl);(case z=>decide);(case v=>exact .cons ⟨_,rfl⟩ (.cons ⟨_,rfl⟩ .nil)))
    (case t_s2=>refine' TyP.tup_mk ?l ?c ?d ?z ?v;(case l=>k_is);(case c=>rfl);(case d=>rfl);(case z=>decide);(case v=>exact .cons ⟨_,rfl⟩ (.cons ⟨_,rfl⟩ .nil)))
    (case t_s3=>refine' TyP.tup_mk ?l ?c ?d ?z ?v;(case l=>k_is);(case c=>rfl);(case d=>rfl);(case z=>decide);(case v=>exact .cons ⟨_,rfl⟩ (.cons ⟨_,rfl⟩ .nil)))
    (case t_s4=>refine' TyP.tup_mk ?l ?c ?d ?z ?v;(case l=>k_is);(case c=>rfl);(case d=>rfl);(case z=>decide);(case v=>exact .cons ⟨_,rfl⟩ (.cons ⟨_,rfl⟩ .nil)))
    (case t_s5=>refine' TyP.tup_mk ?l ?c ?d ?z ?v;(case l=>k_is);(case c=>rfl);(case d=>rfl);(case z=>decide);(case v=>exact .cons ⟨_,rfl⟩ (.cons ⟨_,rfl⟩ .nil)))
    (case t_s6=>refine' TyP.tup_mk ?l ?c ?d ?z ?v;(case l=>k_is);(case c=>rfl);(case d=>rfl);(case z=>decide);(case v=>exact .cons ⟨_,rfl⟩ (.cons ⟨_,rfl⟩ .nil)))
    (case t_s7=>refine' TyP.tup_mk ?l ?c ?d ?z ?v;(case l=>k_is);(case c=>rfl);(case d=>rfl);(case z=>decide);(case v=>exact .cons ⟨_,rfl⟩ (.cons ⟨_,rfl⟩ .nil)))
    (case t_s8=>refine' TyP.tup_mk ?l ?c ?d ?z ?v;(case l=>k_is);(case c=>rfl);(case d=>rfl);(case z=>decide);(case v=>exact .cons ⟨_,rfl⟩ (.cons ⟨_,rfl⟩ .nil)))
    (case t_s9=>refine' TyP.tup_mk ?l ?c ?d ?z ?v;(case l=>k_is);(case c=>rfl);(case d=>rfl);(case z=>decide);(case v=>exact .cons ⟨_,rfl⟩ (.cons ⟨_,rfl⟩ .nil)))
    (case t_s10=>refine' TyP.tup_mk ?l ?c ?d ?z ?v;(case l=>k_is);(case c=>rfl);(case d=>rfl);(case z=>decide);(case v=>exact .cons ⟨_,rfl⟩ (.cons ⟨_,rfl⟩ .nil)))
    (case t_s11=>refine' TyP.tup_mk ?l ?c ?d ?z ?v;(case l=>k_is);(case c=>rfl);(case d=>rfl);(case z=>decide);(case v=>exact .cons ⟨_,rfl⟩ (.cons ⟨_,rfl⟩ .nil)))
  case S=>
    intro K H xs a hO hwi hask hx
    cases hx with
    | cons h1 h2=>
      cases h2
      cases h1 with
      | lst hs ha=>
        have e:=L2.ints_dw a.1 _ ha
        subst e
        have q:((Codec.inLen 0 1360 a.1 && a.1.all (Codec.inInt 0 4294967295)) && true)=true:=hwi
        rw[Bool.and_eq_true,Bool.and_eq_true]at q
        exact⟨_,a.1,rfl,hs,Nat.le_trans (Codec.inNat_iff.mp q.1.1).2 (by decide),hask,fun H' p hp=> .lst (L2.SqL.of hp) (L2.dw_ints _)⟩
end
