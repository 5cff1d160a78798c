import PyProof.Rows.All
import Wide.All
import OpenK.AllK
import Wide.FinOn
import Lean
import PyProof.EqAt
import PyProof.EqKinds
import PyProof.TupleCall
import PyProof.P3Statements
import PyProof.Dict
import PySem.Syntax
import PySem.Challenge.RW_traitorround_k41_a_book
set_option Elab.async false
set_option linter.all false
set_option maxRecDepth 100000
set_option bootstrap.genMatcherCode false
namespace PySem.W.Fast
end PySem.W.Fast
namespace PySem.W.Fast
def tw3246864361260080038:=0
def tw1863816233286264291:=0
def tw6155362631411362759:=0
def tw7860339810644616160:=0
def tw16856689382206854587:=0
def tw11155246692284783934:=0
def tw3668529144658423377:=0
def tw14185077043605851463:=0
def tw1481290464072506928:=0
def tw12794987045202750402:=0
def tw945306246625186677:=0
def tw15966464518384178021:=0
def tw10159358571105919269:=0
def tw13199793706590860199:=0
def tw471491459420486540:=0
def tw11318427718026982339:=0
def tw17409120275637241714:=0
def tw14000219370602580070:=0
def tw6521291261882363129:=0
def tw6573849165158006752:=0
def tw16260385921681004779:=0
def tw4896367835488196753:=0
def tw2477798082615140108:=0
def tw6769338402446060733:=0
def tw15123265885727002321:=0
def tw3058020595894465314:=0
def tw16275191643990093486:=0
def tw1938466191879902621:=0
def tw17221364622036028257:=0
def tw8504001704186622339:=0
def tw3855991781150996441:=0
def tw915028803804597079:=0
def tw14766652794121585772:=0
def tw151474709001946418:=0
def tw3614165209170677669:=0
def tw5875567661101674620:=0
def tw6164082608084216958:=0
def tw11270333679885610709:=0
def tw11923724445176376407:=0
def tw10932964872866510376:=0
def tw621758985459492729:=0
def tw12185569607837368190:=0
def tw10365127373825791523:=0
def tw14227916427961694710:=0
def tw4601046214934851785:=0
def tw7610098478939163048:=0
def tw14728157121142294420:=0
def tw13434216860077597008:=0
def tw15578291947183718152:=0
def tw6314193438444472130:=0
def tw18441191719693072473:=0
def tw1468782039884007073:=0
def tw11594304678000686989:=0
def tw9238353928031595504:=0
def tw14410875378138749124:=0
def tw2515331992350144880:=0
def tw13054153108062096124:=0
def tw5278085057443710709:=0
def tw9004018081917797438:=0
def tw4210632979109063627:=0
def tw16634890986658021157:=0
def tw806018441625193677:=0
def tw17747349045865038957:=0
def tw9320885648401097291:=0
def tw532406710620485695:=0
def tw11914094741955009181:=0
def tw17988353436248219691:=0
def tw3465024293040571745:=0
def tw7839555404945202579:=0
def tw5056979506834630155:=0
def tw17662104850429601816:=0
def tw14112814307658321455:=0
def tw3955526751948585326:=0
def tw14463573930960153687:=0
def tw5001105868402949838:=0
def tw14946244438417593357:=0
def tw16273249880629342017:=0
def tw7531905253685582833:=0
def tw7172244609497207058:=0
def tw9714561377141540265:=0
def tw13144848246619395216:=0
def tw14497871804809367357:=0
def tw12465796349682940232:=0
def tw5632069611205010920:=0
def tw6591243376360895165:=0
def tw12304323474417535960:=0
def tw6662754562929869042:=0
def tw11492248038544133630:=0
def tw2360911382292778593:=0
def tw8971468712757443891:=0
def tw8134879187994091526:=0
def tw921825575293904947:=0
def tw14329567393793531120:=0
def tw6372636624477362482:=0
def tw10904183052848905854:=0
def tw4702560682957704377:=0
def tw6325833694716729509:=0
def tw7713561607968415562:=0
def tw2272818284940633534:=0
def tw7197212749376410340:=0
def tw6587495168843407031:=0
def tw14547978512243066824:=0
def tw2020346604598297528:=0
def tw16500020505208270846:=0
def tw13599614503949841288:=0
def tw9427376837195243737:=0
def tw14826840960285915892:=0
def tw11663235610869033856:=0
def tw17404157857199105728:=0
def tw17847404304089010019:=0
def tw16418121590865357486:=0
def tw17701324737656875731:=0
end PySem.W.Fast
section
namespace L2
open PySem PySem.Spec PyProof.Rows
noncomputable abbrev Key:=Sum Int Str
noncomputable def zfn:Key->Value->Bool
 |.inl k,v=>Value.isInt k v
 |.inr x,v=>Value.isStrOf x v
noncomputable def keyH (w:World):Key->Int
 |.inl k=>hashInt k
 |.inr x=>hashStr w x
theorem zaz:∀{k:Key} {v:Value},zfn k v=true->(∃i t,k=Sum.inl i/\v=Value.int i t)\/(∃x t,k=Sum.inr x/\v=Value.str x t)
 | .inl i, v, h => by
   obtain⟨t,e⟩:=Value.isInt_shape (k:=i) (v:=v) h
   exact .inl ⟨i,t,rfl,e⟩
 | .inr x, v, h => by
   obtain⟨t,e⟩:=Value.isStrOf_shape (x:=x) (v:=v) h
   exact .inr ⟨x,t,rfl,e⟩
theorem zhE (i:Int)(t:Tok):zfn (.inl i) (.int i t)=true:=by simp[zfn,Value.isInt]
theorem zhD (x:Str)(t:Tok):zfn (.inr x) (.str x t)=true:=by simp[zfn,Value.isStrOf]
theorem zm8 (a b:Int):decide ((Sum.inl a:Key)=Sum.inl b)=(a == b):=by
 by_cases e:a=b
 · subst e;simp
 · have h:¬(Sum.inl a:Key)=Sum.inl b:=fun q=>e (Sum.inl.inj q)
   rw[decide_eq_false h]
   exact (beq_eq_false_iff_ne.mpr e).symm
theorem zm4 (a b:Str):decide ((Sum.inr a:Key)=Sum.inr b)=decide (a=b):=by
 by_cases e:a=b
 · subst e;simp
 · have h:¬(Sum.inr a:Key)=Sum.inr b:=fun q=>e (Sum.inr.inj q)
   rw[decide_eq_false h,decide_eq_false e]
theorem zm7 (a:Int)(b:Str):decide ((Sum.inl a:Key)=Sum.inr b)=false:=decide_eq_false (fun q=>nomatch q)
theorem zm5 (a:Str)(b:Int):decide ((Sum.inr a:Key)=Sum.inl b)=false:=decide_eq_false (fun q=>nomatch q)
noncomputable def zap (prog:Program)(w:World):PySem.KeyKind prog w Key where
 is:=zfn
 hash:=keyH w
 inj:=fun v a b ha hb=>by
  rcases zaz ha with ⟨i,t,rfl,rfl⟩|⟨x,t,rfl,rfl⟩
  · rcases zaz hb with ⟨j,u,rfl,e⟩|⟨y,u,rfl,e⟩
    · injection e with e1 _;rw[e1]
    · exact nomatch e
  · rcases zaz hb with ⟨j,u,rfl,e⟩|⟨y,u,rfl,e⟩
    · exact nomatch e
    · injection e with e1 _;rw[e1]
 byValue:=fun k v h=>by
  rcases zaz h with ⟨i,t,rfl,rfl⟩|⟨x,t,rfl,rfl⟩<;>rfl
 pyHash:=fun hv h=>by
  rcases zaz hv with ⟨i,t,rfl,rfl⟩|⟨x,t,rfl,rfl⟩
  · exact wpAny_pyHash_int h
  · exact wpAny_pyHash_str h
 eqBool:=fun hu hv h=>by
  rcases zaz hu with ⟨i,t,rfl,rfl⟩|⟨x,t,rfl,rfl⟩
  · rcases zaz hv with ⟨j,u,rfl,rfl⟩|⟨y,u,rfl,rfl⟩
    · rw[zm8] at h;exact wpAny_eqBool_int h
    · rw[zm7] at h;exact SeqAt.EqAt.int_str i t y u _ _ _ _ h
  · rcases zaz hv with ⟨j,u,rfl,rfl⟩|⟨y,u,rfl,rfl⟩
    · rw[zm5] at h;exact SeqAt.EqAt.str_int x t j u _ _ _ _ h
    · rw[zm4] at h;exact wpAny_eqBool_str h
 «strs»:=fun k x t v h=>by
  rcases zaz h with ⟨i,u,rfl,e⟩|⟨y,u,rfl,e⟩
  · exact nomatch e
  · injection e with e1 _
    subst e1
    cases v<;>rfl
theorem zfm (prog:Program)(w:World)(i:Int)(t:Tok):(zap prog w).is (.inl i) (.int i t)=true:=zhE i t
theorem zfl (prog:Program)(w:World)(x:Str)(t:Tok):(zap prog w).is (.inr x) (.str x t)=true:=zhD x t
end L2
namespace L2
open PySem PySem.Spec PyProof.Rows
inductive V where
 |non|bl (b:Bool)|int (i:Int)|str (x:Str)|byt (b:Array UInt8)|flt (b:UInt64)|ref (a:Addr)|ty (n:String)
 deriving DecidableEq
noncomputable def RelV:V->Value->Prop
 |.non,u=>u=Value.none
 |.bl b,u=>u=Value.bool b
 |.int i,u=>∃t,u=Value.int i t
 |.str x,u=>∃t,u=Value.str x t
 |.byt b,u=>∃t,u=Value.bytes b t
 |.flt b,u=>∃t,u=Value.float b t
 |.ref a,u=>u=Value.ref a
 |.ty n,u=>u=Value.type n
noncomputable abbrev Vals:List V->List Value->Prop:=Paired RelV
theorem Vals.length {xs:List V}{us:List Value}(r:Vals xs us):xs.length=us.length:=Paired.length r
theorem Vals.get:∀{xs:List V} {us:List Value} {i:Nat} {x:V},Vals xs us->xs[i]?=some x->∃u,us[i]?=some u/\RelV x u
 |_,_,_,_,.nil,e=>by simp at e
 |_,_,0,_,.cons r _,e=>by simp at e;subst e;exact⟨_,rfl,r⟩
 | _, _, i + 1, x, .cons _ t, e => by
   obtain⟨u,h1,h2⟩:=Vals.get (i:=i) (x:=x) t (by simpa using e)
   exact⟨u,by simpa using h1,h2⟩
theorem Vals.append:∀{xs ys:List V} {us ws:List Value},Vals xs us->Vals ys ws->Vals (xs++ys) (us++ws)
 |_,_,_,_,.nil,s=>s
 |_,_,_,_,.cons r t,s=>.cons r (Vals.append t s)
theorem Vals.take:∀{xs:List V} {us:List Value} (n:Nat),Vals xs us->Vals (xs.take n) (us.take n)
 |_,_,0,_=>.nil
 |_,_,_+1,.nil=>.nil
 |_,_,n+1,.cons r t=>.cons r (Vals.take n t)
theorem Vals.drop:∀{xs:List V} {us:List Value} (n:Nat),Vals xs us->Vals (xs.drop n) (us.drop n)
 |_,_,0,r=>r
 |_,_,_+1,.nil=>.nil
 |_,_,n+1,.cons _ t=>Vals.drop n t
noncomputable def RelO:Option V->Option Value->Prop
 |some v,some u=>RelV v u
 |none,none=>True
 |_,_=>False
noncomputable def KV {κ:Type}:List (κ × V)->List (κ × Value)->Prop:=Paired fun (p:κ × V) (q:κ × Value)=>p.1=q.1/\RelV p.2 q.2
noncomputable def kV:Key->V
 |.inl i=>.int i
 |.inr x=>.str x
inductive HO where
 |lst (xs:List V)
 |tup (xs:List V)
 |dK (kvs:List (Key × V))|dT (kvs:List (List Key × V))
 |set (S:Int->Bool) (n:Nat)
 |ins (C dx:Addr) (fs:List (Str × V))
 |own (x:Addr)
 |xd (fs:List (Str × V))
 |met (f x:Addr)
 |rng (lo hi:Int)
 |frz (o:Obj) (u:HO)
 |tbl (ps:Array Value)
 |ext (φ:Heap->Prop)
noncomputable abbrev Hp:=Addr->Option HO
noncomputable def upd (H:Hp)(a:Addr)(o:HO):Hp:=fun b=>if b=a then some o else H b
theorem zaq {H:Hp}{a:Addr}{o:HO}:upd H a o a=some o:=by unfold upd;rw[if_pos rfl]
theorem zam {H:Hp}{a b:Addr}{o:HO}(h:b≠a):upd H a o b=H b:=by unfold upd;rw[if_neg h]
theorem ne_of {H:Hp}{a b:Addr}{o u:HO}(h:H a=some o)(h':H b=some u)(d:o≠u):a≠b:=by
 intro e;subst e;rw[h] at h';exact d (Option.some.inj h')
theorem zaJ {H:Hp}{a b:Addr}{o:HO}(h:H a=some o)(h':H b=none):a≠b:=by
 intro e;subst e;rw[h] at h';cases h'
section
variable (P:Program) (w:World)
noncomputable def ObjOk (H:Hp)(h:Heap)(a:Addr):HO->Prop
 |.lst xs=>xs.length<=sizeLine/\∃(its:List Value) (n:Nat),Vals xs its/\h.get? a=some {cls:=.type "list",data:=.seq its.toArray n}
 |.tup xs=>xs.length<=sizeLine/\∃its:List Value,Vals xs its/\IsTup h a its.toArray
 |.dK kvs=>kvs.length<=sizeLine/\(a == sysModules)=false/\∃vs,KV kvs vs/\h.DictOf (zap P w) a vs
 |.dT kvs=>kvs.length<=sizeLine/\(a == sysModules)=false/\∃xs:List (List Key × Addr × Value),
  Paired (fun (p:List Key × V) (q:List Key × Addr × Value)=>p.1=q.1/\H q.2.1=some (.tup (p.1.map kV))/\RelV p.2 q.2.2) kvs xs/\
  ∃o es ep,h.get? a=some o/\o.ExactDict/\o.data=.dict es ep/\es.toList=xs.map (entryOfKey (tupleKind (zap P w)))/\(xs.map (·.1)).Nodup
 |.set S n=>h.SetOf (intKind P w) a S n
 |.ins C dx fs=>H dx=some (.own a)/\fs.length<=1000/\dx≠a/\h.get? a=some (PySem.W.instObj C dx)/\
  ∃mA,h.Ns1 dx mA/\(∀f,RelO (fs.lookup f) (mA f))/\PySem.Within mA (fs.map (·.1))
 |.own _=>∃o,h.get? a=some o
 |.xd fs=>∃mA,h.Ns1 a mA/\∀f,RelO (fs.lookup f) (mA f)
 |.rng lo hi=>∃t u v,h.get? a=some {cls:=.type "range",data:=.fields #[.int lo t,.int hi u,.int 1 v]}
 |.frz o u=>h.get? a=some o/\ObjOk H h a u
 |.tbl ps=>h.get? a=some {cls:=.none,data:=.fields ps}
 |.met f x=>h.get? a=some (PySem.W.methodObj (.ref f) (.ref x))
 |.ext φ=>φ h/\(∃o,h.get? a=some o)/\∀h1 h2:Heap,φ h1->(∀o,h1.get? a=some o->h2.get? a=some o)->φ h2
noncomputable def HOk (H:Hp)(h:Heap):Prop:=∀a o,H a=some o->ObjOk P w H h a o
end
section
variable {P:Program} {w:World} {H H':Hp} {h h':Heap} {a:Addr} {o:HO}
theorem ObjOk.lt (x:ObjOk P w H h a o):a<h.objs.size:=by
 cases o with
 |lst xs=>obtain⟨_,_,_,_,e⟩:=x;exact Heap.lt_size e
 |tup xs=>obtain⟨_,_,_,p⟩:=x;exact p.lt
 |dK kvs=>obtain⟨_,_,_,_,o,_,_,e,_⟩:=x;exact Heap.lt_size e
 |dT kvs=>obtain⟨_,_,_,_,o,_,_,e,_⟩:=x;exact Heap.lt_size e
 |set S n=>obtain⟨o,_,_,_,e,_⟩:=x;exact Heap.lt_size e
 |ins C dx fs=>obtain⟨_,_,_,e,_⟩:=x;exact Heap.lt_size e
 |own y=>obtain⟨_,e⟩:=x;exact Heap.lt_size e
 |xd fs=>obtain⟨_,⟨_,_,_,e,_⟩,_⟩:=x;exact Heap.lt_size e
 |rng lo hi=>obtain⟨_,_,_,e⟩:=x;exact Heap.lt_size e
 |frz ob u=>obtain⟨e,_⟩:=x;exact Heap.lt_size e
 |tbl ps=>exact Heap.lt_size (show h.get? a=some _ from x)
 |met f y=>exact Heap.lt_size (show h.get? a=some _ from x)
 |ext φ=>obtain⟨_,⟨_,e⟩,_⟩:=x;exact Heap.lt_size e
theorem Paired.mapP {α β:Type}{F G:α->β->Prop}:∀{l₁:List α} {l₂:List β},Paired F l₁ l₂->(∀a b,F a b->G a b)->Paired G l₁ l₂
 |_,_,.nil,_=>.nil
 |_,_,.cons r t,f=>.cons (f _ _ r) (Paired.mapP t f)
theorem ObjOk.stay (x:ObjOk P w H h a o)(k:∀b u,(b=a\/H b=some (.own a))->h.get? b=some u->h'.get? b=some u)
  (ho:∀b,H b=some (.own a)->H' b=some (.own a)) (ht:∀b xs,H b=some (.tup xs)->H' b=some (.tup xs)):ObjOk P w H' h' a o:=by
 induction o with
 |lst xs=>obtain⟨z,its,n,r,e⟩:=x;exact⟨z,its,n,r,k _ _ (.inl rfl) e⟩
 |tup xs=>obtain⟨z,its,r,ob,e,c⟩:=x;exact⟨z,its,r,ob,k _ _ (.inl rfl) e,c⟩
 |dK kvs=>obtain⟨z,y,vs,r,ob,es,ep,e,c⟩:=x;exact⟨z,y,vs,r,ob,es,ep,k _ _ (.inl rfl) e,c⟩
 | dT kvs =>
   obtain⟨z,y,xs,r,ob,es,ep,e,c⟩:=x
   exact⟨z,y,xs,Paired.mapP r fun p q z=>⟨z.1,ht _ _ z.2.1,z.2.2⟩,ob,es,ep,k _ _ (.inl rfl) e,c⟩
 |set S n=>obtain⟨ob,es,ep,t,e,c⟩:=x;exact⟨ob,es,ep,t,k _ _ (.inl rfl) e,c⟩
 | ins C dx fs =>
   obtain⟨d,z,ne,e,mA,⟨od,es,ep,e2,c⟩,r⟩:=x
   exact⟨ho _ d,z,ne,k _ _ (.inl rfl) e,mA,⟨od,es,ep,k _ _ (.inr d) e2,c⟩,r⟩
 |own y=>obtain⟨ob,e⟩:=x;exact⟨ob,k _ _ (.inl rfl) e⟩
 |xd fs=>obtain⟨mA,⟨od,es,ep,e,c⟩,r⟩:=x;exact⟨mA,⟨od,es,ep,k _ _ (.inl rfl) e,c⟩,r⟩
 |rng lo hi=>obtain⟨t,u,v,e⟩:=x;exact⟨t,u,v,k _ _ (.inl rfl) e⟩
 |frz ob u ih=>obtain⟨e,q⟩:=x;exact⟨k _ _ (.inl rfl) e,ih q⟩
 | tbl ps =>
   have e:h.get? a=some {cls:=.none,data:=.fields ps}:=x
   show h'.get? a=some {cls:=.none,data:=.fields ps}
   exact k a _ (.inl rfl) e
 | met f y =>
   have e:h.get? a=some (PySem.W.methodObj (.ref f) (.ref y)):=x
   show h'.get? a=some (PySem.W.methodObj (.ref f) (.ref y))
   exact k a _ (.inl rfl) e
 |ext φ=>obtain⟨p,⟨o,e⟩,st⟩:=x;exact⟨st _ _ p fun o q=>k _ _ (.inl rfl) q,⟨o,k _ _ (.inl rfl) e⟩,st⟩
theorem HOk.lt (x:HOk P w H h)(e:H a=some o):a<h.objs.size:=(x a o e).lt
theorem HOk.fresh (x:HOk P w H h)(e:h.objs.size<=a):H a=none:=by
 cases q:H a with
 |none=>rfl
 |some u=>exact absurd (Nat.lt_of_lt_of_le (x.lt q) e) (Nat.lt_irrefl _)
theorem HOk.kept (x:HOk P w H h)(k:∀b u,h.get? b=some u->h'.get? b=some u):HOk P w H h':=fun a o e=>
 (x a o e).stay (fun b u _ q=>k b u q) (fun _ q=>q) fun _ _ q=>q
theorem HOk.laid (x:HOk P w H h)(k:∀b u,h.get? b=some u->h'.get? b=some u)(hp:h.objs.size<=a)(new:ObjOk P w (upd H a o) h' a o):HOk P w (upd H a o) h':=fun b u e=>by
 have hn:=x.fresh hp
 by_cases hb:b=a
 · subst hb;rw[zaq] at e;cases e;exact new
 · rw[zam hb] at e
   exact (x b u e).stay (fun c v _ q=>k c v q) (fun c q=>by rw[zam (zaJ q hn)];exact q) fun c xs q=>by rw[zam (zaJ q hn)];exact q
end
noncomputable def Rd (H:Hp)(a:Addr)(u:HO):Prop:=H a=some u\/∃o,H a=some (.frz o u)
theorem Rd.ok {P:Program}{w:World}{H:Hp}{h:Heap}{a:Addr}{u:HO}(r:Rd H a u)(x:HOk P w H h):ObjOk P w H h a u:=by
 rcases r with r|⟨o,r⟩
 · exact x a u r
 · obtain⟨_,q⟩:=x a _ r
   exact q
noncomputable def Mut:Option HO->Prop
 |some (.lst _)=>True
 |some (.dK _)=>True
 |some (.dT _)=>True
 |some (.set _ _)=>True
 |some (.ins _ _ _)=>True
 |some (.ext _)=>True
 |_=>False
section
variable {P:Program} {w:World} {H:Hp} {h h':Heap} {x e:Addr} {o':HO}
theorem HOk.write (ok:HOk P w H h)(mu:Mut (H x))(he:e=x\/H e=some (.own x))(k:∀b u,b≠e->h.get? b=some u->h'.get? b=some u)(heo:∃u,h'.get? e=some u)
  (new:ObjOk P w (upd H x o') h' x o'):HOk P w (upd H x o') h':=fun b u q=>by
 have nown:∀c y,H c=some (.own y)->c≠x:=fun c y r z=>by subst z;rw[r] at mu;exact mu
 have ntup:∀c xs,H c=some (.tup xs)->c≠x:=fun c xs r z=>by subst z;rw[r] at mu;exact mu
 by_cases hb:b=x
 · subst hb;rw[zaq] at q;cases q;exact new
 · rw[zam hb] at q
   by_cases hbe:b=e
   · have q':H b=some (.own x):=by
      rcases he with z|z
      · exact absurd (hbe.trans z) hb
      · rw[hbe];exact z
     rw[q] at q';cases q'
     obtain⟨v,hv⟩:=heo
     exact⟨v,by rw[hbe];exact hv⟩
   · refine (ok b u q).stay (fun c v hc r=>k c v ?_ r) (fun c r=>by rw[zam (nown c b r)];exact r) fun c xs r=>by rw[zam (ntup c xs r)];exact r
     rcases hc with rfl|hc
     · exact hbe
     · rintro rfl
       rcases he with z|z
       · exact nown c b hc z
       · rw[hc] at z;cases z;exact hb rfl
end
structure Un (fs ex:List Addr) (H H':Hp) (h h':Heap):Prop where
 keep:∀b o,h.get? b=some o->H b=none->b∉fs->b∉ex->h'.get? b=some o
 slot:∀b o,h.get? b=some o->H b=none->b∈fs->b∉ex->∃sl,h'.get? b=some {o with slots:=sl}
 free:∀b o,h.get? b=some o->H b=none->b∉ex->H' b=none
 there:∀b o,h.get? b=some o->b∉ex->∃o',h'.get? b=some o'
 tups:∀b xs,H b=some (.tup xs)->H' b=some (.tup xs)
 frzs:∀b o u,H b=some (.frz o u)->H' b=some (.frz o u)
 tbls:∀b ps,H b=some (.tbl ps)->∃more,H' b=some (.tbl (ps++more))
section
variable {fs fs' ex ex':List Addr} {H H1 H2:Hp} {h h1 h2 h':Heap} {a x e:Addr} {o:HO}
theorem Un.any (u:Un fs ex H H1 h h1){b:Addr}{ob:Obj}(q:h.get? b=some ob)(n:H b=none)(hx:b∉ex):∃sl,h1.get? b=some {ob with slots:=sl}:=by
 by_cases hb:b∈fs
 · exact u.slot b ob q n hb hx
 · exact⟨ob.slots,u.keep b ob q n hb hx⟩
theorem Un.kept (k:∀b u,h.get? b=some u->h'.get? b=some u):Un fs ex H H h h':=
 ⟨fun b ob q _ _ _=>k b ob q,fun b ob q _ _ _=>⟨ob.slots,k b ob q⟩,fun _ _ _ n _=>n,fun b ob q _=>⟨ob,k b ob q⟩,fun _ _ q=>q,fun _ _ _ q=>q,fun _ ps q=>⟨#[],by rw[q];simp⟩⟩
theorem Un.refl:Un fs ex H H h h:=Un.kept fun _ _ q=>q
theorem Un.laid (k:∀b u,h.get? b=some u->h'.get? b=some u)(hp:h.objs.size<=a)(hn:H a=none):Un fs ex H (upd H a o) h h' where
 keep:=fun b u q _ _ _=>k b u q
 slot:=fun b u q _ _ _=>⟨u.slots,k b u q⟩
 free:=fun b u q n _=>by rw[zam (Nat.ne_of_lt (Nat.lt_of_lt_of_le (Heap.lt_size q) hp))];exact n
 there:=fun b u q _=>⟨u,k b u q⟩
 tups:=fun b xs q=>by rw[zam (zaJ q hn)];exact q
 frzs:=fun b u xs q=>by rw[zam (zaJ q hn)];exact q
 tbls:=fun b ps q=>⟨#[],by rw[zam (zaJ q hn),q];simp⟩
theorem Un.write (mu:Mut (H x))(he:e=x\/H e=some (.own x))(k:∀b u,b≠e->h.get? b=some u->h'.get? b=some u)(heo:∃u,h'.get? e=some u):Un fs ex H (upd H x o) h h':=by
 have hx:∀b,H b=none->b≠x:=fun b n z=>by subst z;rw[n] at mu;exact mu
 have hb:∀b,H b=none->b≠e:=fun b n z=>by
  subst z
  rcases he with r|r
  · exact hx b n r
  · rw[n] at r;cases r
 have hm:∀b u,H b=some u->¬Mut (some u)->b≠x:=fun b u q nm z=>by subst z;rw[q] at mu;exact nm mu
 refine⟨fun b u q n _ _=>k b u (hb b n) q,fun b u q n _ _=>⟨u.slots,k b u (hb b n) q⟩,fun b u q n _=>by rw[zam (hx b n)];exact n,fun b u q _=>?_,
  fun b xs q=>by rw[zam (hm b _ q fun z=>z)];exact q,fun b u xs q=>by rw[zam (hm b _ q fun z=>z)];exact q,fun b ps q=>⟨#[],by rw[zam (hm b _ q fun z=>z),q];simp⟩⟩
 by_cases hbe:b=e
 · subst hbe;exact heo
 · exact⟨u,k b u hbe q⟩
end
noncomputable def trk (h:Heap)(H:Hp):List Addr:=(List.range h.objs.size).filter fun a=>(H a).isSome
noncomputable def hidT (h:Heap)(H:Hp):Heap:=PySem.W.hideAll h (trk h H)
theorem zhS (h:Heap)(H:Hp):(hidT h H).objs.size=h.objs.size:=PySem.W.hideAll_size _ _
theorem zjm {h:Heap}{H:Hp}{b:Addr}{o:Obj}(e:h.get? b=some o)(n:H b=none):(hidT h H).get? b=some o:=
 PySem.W.hideAll_get _ e fun hm=>by
  have q:(H b).isSome=true:=(List.mem_filter.mp hm).2
  rw[n] at q;simp at q
theorem zkW {h:Heap}{H:Hp}{b:Addr}{o:Obj}(e:(hidT h H).get? b=some o):h.get? b=some o/\H b=none:=by
 have e':h.get? b=some o:=PySem.W.of_hideAll (trk h H) e
 refine⟨e',?_⟩
 cases q:H b with
 |none=>rfl
 | some x =>
   have hm:b∈trk h H:=List.mem_filter.mpr ⟨List.mem_range.mpr (Heap.lt_size e'),by simp[q]⟩
   have z:(hidT h H).get? b=none:=PySem.W.hideAll_none (trk h H) hm
   rw[z] at e;cases e
end L2
namespace L2
open PySem PySem.Spec PyProof.Rows
structure Mod (K:PySem.W.Frag) (mg:Str->Option Value) (base:Heap):Prop where
 kin:K.In base
 glob:base.Ns mainGlobals mg
 blt:∃mb,base.Ns builtinsNs mb/\∀x:Str,x≠"__name__"->mb x=bootBuiltins x
 nolimit:base.NoLimit
structure Cx where
 prog:Program
 w:World
 K:PySem.W.Frag
 mg:Str->Option Value
 base:Heap
 A:Around
 N:List Str
 s₀:Shared
 H₀:Hp
 env:Env
 outer:List Env
 stack:List Env
 ex:List Addr
 fn:Str->Bool
 calm:Bool
 pn:List (Addr × Obj)
 xe:Value->Shared->Prop
noncomputable def frs (l:List Env):List Addr:=l.filterMap (·.frame)
noncomputable abbrev Cx.fs (X:Cx):List Addr:=frs X.outer
noncomputable def Vis (sc:Scope)(x:Str):Prop:=sc.names.lookup x=some .local\/sc.names.lookup x=some .cell\/sc.names.lookup x=some .free
noncomputable def Loc (sc:Scope)(x:Str):Prop:=sc.names.lookup x=some .local\/sc.names.lookup x=some .cell
noncomputable def Look (env:Env)(h:Heap)(m:Str->Option Value)(x:Str)(u:Value):Prop:=
 (env.kindOf x=some .local/\m x=some u)\/((env.kindOf x=some .cell\/env.kindOf x=some .free)/\∃c,env.cells.lookup x=some c/\h.IsCell c (some u))
structure Cx.Ok (X:Cx):Prop where
 mod:Mod X.K X.mg X.base
 kind:X.env.scope.kind=.function
 glob:X.env.globals=mainGlobals
 blt:X.env.builtins=builtinsNs
 above:X.s₀.heap.objs.size<=X.env.locals
 inj:∀x y c,X.env.cells.lookup x=some c->X.env.cells.lookup y=some c->x=y
 has:∀x,(X.env.kindOf x=some .cell\/X.env.kindOf x=some .free)->∃c,X.env.cells.lookup x=some c
 cab:∀x c,X.fn x=true->X.env.cells.lookup x=some c->X.s₀.heap.objs.size<=c
 hd:X.calm=true->X.A.handled=none
 frames:X.A.frames=some X.stack
 stk:X.stack=X.outer\/(X.stack=X.env::X.outer/\X.env.frame=some X.env.locals)
 exf:∀b∈X.ex,b≠X.env.locals/\∀x c,X.env.cells.lookup x=some c->c≠b
 bs:∀b o,X.base.get? b=some o->X.s₀.heap.get? b=some o/\X.H₀ b=none
 bsz:X.base.objs.size<=X.s₀.heap.objs.size
 noex:∀b o,X.base.get? b=some o->b∉X.ex
 exfs:∀b∈X.ex,b∉X.fs
 funs:X.s₀.heap.FunFrames X.base X.outer
 frf:∀b∈X.fs,X.H₀ b=none
structure Inv (X:Cx) (pins:List (Addr × Obj)) (σ:List (Option V)) (H:Hp) (s:Shared):Prop where
 ok:X.Ok
 os:s.os=X.s₀.os
 bare:AllBare s.gens
 base:Un X.fs X.ex X.H₀ H X.s₀.heap s.heap
 loc:∃m,s.heap.Ns X.env.locals m/\∀(i:Nat) (x:Str) (v:V),X.N[i]?=some x->σ[i]?=some (some v)->Vis X.env.scope x->∃u,RelV v u/\Look X.env s.heap m x u
 cell:∀x c,X.env.cells.lookup x=some c->∃v,s.heap.IsCell c v
 free:H X.env.locals=none
 freeC:∀x c,X.env.cells.lookup x=some c->H c=none
 pin:∀p∈X.pn++pins,s.heap.get? p.1=some p.2/\H p.1=none/\p.1≠X.env.locals/\p.1∉X.fs/\∀v,p.2.data≠.cell v
 hok:HOk X.prog X.w H s.heap
 len:σ.length=X.N.length
section
variable {X:Cx} {pins:List (Addr × Obj)} {σ:List (Option V)} {H H':Hp} {s:Shared} {h':Heap}
theorem Cx.Ok.nofr (ok:X.Ok){b:Addr}{o:Obj}(e:X.base.get? b=some o):b∉X.fs:=fun hb=>by
 have:=(ok.funs.mem hb).1
 rw[e] at this;cases this
theorem Inv.bs (I:Inv X pins σ H s):∀b o,X.base.get? b=some o->s.heap.get? b=some o/\H b=none:=fun b o e=>
 ⟨I.base.keep b o (I.ok.bs b o e).1 (I.ok.bs b o e).2 (I.ok.nofr e) (I.ok.noex b o e),I.base.free b o (I.ok.bs b o e).1 (I.ok.bs b o e).2 (I.ok.noex b o e)⟩
theorem Inv.bk (I:Inv X pins σ H s):∀b o,X.base.get? b=some o->s.heap.get? b=some o:=fun b o e=>(I.bs b o e).1
theorem Inv.mod (I:Inv X pins σ H s):Mod X.K X.mg X.base:=I.ok.mod
theorem Inv.kIn (I:Inv X pins σ H s):X.K.In s.heap:=I.ok.mod.kin.keeps I.bk
theorem Inv.lt (I:Inv X pins σ H s):X.env.locals<s.heap.objs.size:=let ⟨_,hn,_⟩:=I.loc;hn.lt
theorem Inv.sz (I:Inv X pins σ H s):X.s₀.heap.objs.size<=s.heap.objs.size:=Nat.le_trans I.ok.above (Nat.le_of_lt I.lt)
theorem Inv.nofs (I:Inv X pins σ H s){a:Addr}(h:s.heap.objs.size<=a):a∉X.fs:=fun hb=>by
 obtain⟨_,o,ho,_⟩:=I.ok.funs.mem hb
 exact absurd (Nat.lt_of_lt_of_le (Heap.lt_size ho) (Nat.le_trans I.sz h)) (Nat.lt_irrefl _)
theorem Inv.cne (I:Inv X pins σ H s):∀x c,X.env.cells.lookup x=some c->c≠X.env.locals:=fun x c e z=>by
 obtain⟨v,o,ho,hd⟩:=I.cell x c e
 obtain⟨m,⟨o',es,ep,ho',hd',_⟩,_⟩:=I.loc
 rw[z,ho'] at ho;cases ho;rw[hd'] at hd;cases hd
theorem Inv.funs (I:Inv X pins σ H s):s.heap.FunFrames X.base X.outer:=by
 have all:∀(l:List Env),(∀b∈frs l,b∈X.fs)->X.s₀.heap.FunFrames X.base l->s.heap.FunFrames X.base l:=by
  intro l
  induction l with
  |nil=>intro _ _;trivial
  | cons env r ih =>
    intro hs hl
    obtain⟨hk,⟨L,o,hf,hn,ho,hd⟩,hr⟩:=hl
    have hL:L∈X.fs:=hs L (by unfold frs;rw[List.filterMap_cons,hf];exact List.mem_cons_self)
    obtain⟨sl,e⟩:=I.base.slot L o ho (I.ok.frf L hL) hL fun z=>I.ok.exfs L z hL
    exact⟨hk,⟨L,_,hf,hn,e,hd⟩,ih (fun b hb=>hs b (by unfold frs;rw[List.filterMap_cons,hf];exact List.mem_cons_of_mem _ hb)) hr⟩
 exact all X.outer (fun _ hb=>hb) I.ok.funs
theorem Inv.stack (I:Inv X pins σ H s):s.heap.FunFrames X.base X.stack:=by
 rcases I.ok.stk with e|⟨e,hf⟩
 · rw[e];exact I.funs
 · rw[e]
   obtain⟨m,hn,_⟩:=I.loc
   refine .cons (by rw[I.ok.kind];decide) hf hn ?_ I.funs
   exact Heap.get?_none_of_le (Nat.le_trans I.ok.bsz I.ok.above)
theorem Inv.stkSub (I:Inv X pins σ H s):∀b∈frs X.stack,b∈X.env.locals::X.fs:=fun b hb=>by
 rcases I.ok.stk with e|⟨e,hf⟩
 · rw[e] at hb;exact List.mem_cons_of_mem _ hb
 · rw[e] at hb
   unfold frs at hb
   rw[List.filterMap_cons,hf] at hb
   exact hb
theorem Inv.stkFree (I:Inv X pins σ H s):∀b∈frs X.stack,H b=none:=fun b hb=>by
 rcases List.mem_cons.mp (I.stkSub b hb) with e|hb
 · rw[e];exact I.free
 · obtain⟨_,o,ho,_⟩:=I.ok.funs.mem hb
   exact I.base.free b o ho (I.ok.frf b hb) fun z=>I.ok.exfs b z hb
theorem Inv.step {g':Array GenState}{t':Nat}{d':Drawn}{ch:List Addr}(I:Inv X pins σ H s)
  (hch:∀b∈ch,(b∈X.ex\/X.s₀.heap.objs.size<=b)/\b≠X.env.locals/\(∀x c,X.env.cells.lookup x=some c->c≠b)/\∀p∈X.pn++pins,p.1≠b)
  (keep:∀b o,b≠X.env.locals->b∉X.fs->b∉ch->s.heap.get? b=some o->H b=none->h'.get? b=some o)
  (slot:∀b o,b≠X.env.locals->b∈X.fs->b∉ch->s.heap.get? b=some o->H b=none->∃sl,h'.get? b=some {o with slots:=sl}) (free:∀b o,b∉ch->s.heap.get? b=some o->H b=none->H' b=none)
  (there:∀b o,b∉ch->s.heap.get? b=some o->∃o',h'.get? b=some o')
  (tups:∀b xs,H b=some (.tup xs)->H' b=some (.tup xs)) (frzs:∀b o u,H b=some (.frz o u)->H' b=some (.frz o u)) (tbls:∀b ps,H b=some (.tbl ps)->∃more,H' b=some (.tbl (ps++more)))
  (ns:∀m,s.heap.Ns X.env.locals m->h'.Ns X.env.locals m) (hok:HOk X.prog X.w H' h') (hg:AllBare g') :
  Inv X pins σ H' {s with heap:=h',gens:=g',drawn:=d',toks:=t'}:=by
 have neL:∀b o,X.s₀.heap.get? b=some o->b≠X.env.locals:=fun b o e=>Nat.ne_of_lt (Nat.lt_of_lt_of_le (Heap.lt_size e) I.ok.above)
 have neC:∀b o,X.s₀.heap.get? b=some o->b∉X.ex->b∉ch:=fun b o e hx hb=>by
  rcases (hch b hb).1 with z|z
  · exact hx z
  · exact absurd (Nat.lt_of_lt_of_le (Heap.lt_size e) z) (Nat.lt_irrefl _)
 have cellK:∀x c,X.env.cells.lookup x=some c->∀v,s.heap.IsCell c v->h'.IsCell c v:=fun x c e v ⟨o,ho,hd⟩=>by
  have nch:c∉ch:=fun z=>(hch c z).2.2.1 x c e rfl
  by_cases hc:c∈X.fs
  · obtain⟨sl,q⟩:=slot c o (I.cne x c e) hc nch ho (I.freeC x c e)
    exact⟨_,q,hd⟩
  · exact⟨o,keep c o (I.cne x c e) hc nch ho (I.freeC x c e),hd⟩
 refine⟨I.ok,I.os,hg,⟨fun b o e n hb hx=>?_,fun b o e n hb hx=>?_,fun b o e n hx=>?_,fun b o e hx=>?_,fun b xs e=>tups b xs (I.base.tups b xs e),fun b o xs e=>frzs b o xs (I.base.frzs b o xs e),fun b ps e=>?_⟩,?_,fun x c e=>?_,?_,fun x c e=>?_,fun p hp=>?_,hok,I.len⟩
 · exact keep b o (neL b o e) hb (neC b o e hx) (I.base.keep b o e n hb hx) (I.base.free b o e n hx)
 · obtain⟨sl,e1⟩:=I.base.slot b o e n hb hx
   obtain⟨sl',e2⟩:=slot b _ (neL b o e) hb (neC b o e hx) e1 (I.base.free b o e n hx)
   exact⟨sl',e2⟩
 · obtain⟨o',e1⟩:=I.base.there b o e hx
   exact free b o' (neC b o e hx) e1 (I.base.free b o e n hx)
 · obtain⟨o',e1⟩:=I.base.there b o e hx
   exact there b o' (neC b o e hx) e1
 · obtain⟨m1,e1⟩:=I.base.tbls b ps e
   obtain⟨m2,e2⟩:=tbls b _ e1
   exact⟨m1++m2,by rw[e2,Array.append_assoc]⟩
 · obtain⟨m,hn,hl⟩:=I.loc
   refine⟨m,ns m hn,fun i x v e1 e2 e3=>?_⟩
   obtain⟨u,r,l⟩:=hl i x v e1 e2 e3
   refine⟨u,r,?_⟩
   rcases l with l|⟨k,c,e,z⟩
   · exact .inl l
   · exact .inr ⟨k,c,e,cellK x c e _ z⟩
 · obtain⟨v,z⟩:=I.cell x c e
   exact⟨v,cellK x c e v z⟩
 · obtain⟨m,⟨o,_,_,ho,_⟩,_⟩:=I.loc
   exact free _ o (fun z=>(hch _ z).2.1 rfl) ho I.free
 · obtain⟨v,o,ho,hd⟩:=I.cell x c e
   exact free c o (fun z=>(hch c z).2.2.1 x c e rfl) ho (I.freeC x c e)
 · obtain⟨e,n,ne,nf,d⟩:=I.pin p hp
   have nch:p.1∉ch:=fun z=>(hch p.1 z).2.2.2 p hp rfl
   exact⟨keep p.1 p.2 ne nf nch e n,free p.1 p.2 nch e n,ne,nf,d⟩
theorem Inv.un {t':Nat}(I:Inv X pins σ H s)(u:Un X.fs [] H H' s.heap h')(hok:HOk X.prog X.w H' h'):Inv X pins σ H' {s with heap:=h',toks:=t'}:=by
 obtain⟨m,⟨o,es,ep,ho,r⟩,_⟩:=id I.loc
 obtain⟨sl,hL⟩:=u.any ho I.free (by simp)
 exact I.step (g':=s.gens) (d':=s.drawn) (ch:=[]) (fun _ z=>nomatch z) (fun b o _ hb _ e n=>u.keep b o e n hb (by simp)) (fun b o _ hb _ e n=>u.slot b o e n hb (by simp)) (fun b o _ e n=>u.free b o e n (by simp)) (fun b o _ e=>u.there b o e (by simp)) u.tups u.frzs u.tbls (fun m' hm=>by
  obtain⟨o',es',ep',ho',r'⟩:=hm
  rw[ho] at ho';cases ho'
  exact⟨_,es',ep',hL,r'⟩) hok I.bare
theorem Inv.call {g':Array GenState}{t':Nat}{d':Drawn}{ch:List Addr}(I:Inv X pins σ H s)(u:Un (frs X.stack) ch H H' s.heap h')(hok:HOk X.prog X.w H' h')(hg:AllBare g')
  (hch:∀b∈ch,(b∈X.ex\/X.s₀.heap.objs.size<=b)/\b≠X.env.locals/\(∀x c,X.env.cells.lookup x=some c->c≠b)/\∀p∈X.pn++pins,p.1≠b) :
  Inv X pins σ H' {s with heap:=h',gens:=g',drawn:=d',toks:=t'}:=by
 obtain⟨m,⟨o,es,ep,ho,r⟩,_⟩:=id I.loc
 obtain⟨sl,hL⟩:=u.any ho I.free fun z=>(hch _ z).2.1 rfl
 exact I.step (ch:=ch) hch (fun b o hL hb hc e n=>u.keep b o e n (fun z=>(List.mem_cons.mp (I.stkSub b z)).elim hL hb) hc) (fun b o _ _ hc e n=>u.any e n hc) (fun b o hc e n=>u.free b o e n hc) (fun b o hc e=>u.there b o e hc) u.tups u.frzs u.tbls (fun m' hm=>by
  obtain⟨o',es',ep',ho',r'⟩:=hm
  rw[ho] at ho';cases ho'
  exact⟨_,es',ep',hL,r'⟩) hok hg
theorem Inv.turned {t':Nat}{it:Addr}(I:Inv X pins σ H s)(k:∀b o,b≠it->s.heap.get? b=some o->h'.get? b=some o)(hn:H it=none)(hL:it≠X.env.locals)
  (h1:it∈X.ex\/X.s₀.heap.objs.size<=it) (h2:∀x c,X.env.cells.lookup x=some c->c≠it) (h3:∀p∈X.pn++pins,p.1≠it):Inv X pins σ H {s with heap:=h',toks:=t'}:=by
 have nit:∀b u,H b=some u->b≠it:=fun b u e z=>by rw[z,hn] at e;cases e
 refine I.step (g':=s.gens) (d':=s.drawn) (ch:=[it]) (fun b hb=>?_) (fun b o _ _ hc e _=>k b o (fun z=>hc (by simp[z])) e) (fun b o _ _ hc e _=>⟨o.slots,k b o (fun z=>hc (by simp[z])) e⟩) (fun _ _ _ _ n=>n)
  (fun b o hc e=>⟨o,k b o (fun z=>hc (by simp[z])) e⟩) (fun _ _ e=>e) (fun _ _ _ e=>e) (fun b ps e=>⟨#[],by rw[e];simp⟩) (fun m hm=>?_) (fun b u e=>?_) I.bare
 · have e:b=it:=by simpa using hb
   subst e
   exact⟨h1,hL,h2,h3⟩
 · obtain⟨o,es,ep,ho,r⟩:=hm
   exact⟨o,es,ep,k _ o (Ne.symm hL) ho,r⟩
 · refine (I.hok b u e).stay (fun c v hc q=>k c v ?_ q) (fun _ q=>q) fun _ _ q=>q
   rcases hc with z|z
   · rw[z];exact nit b u e
   · exact nit c _ z
theorem Inv.tok (I:Inv X pins σ H s)(t:Nat):Inv X pins σ H {s with toks:=t}:=I.un (h':=s.heap) (t':=t) Un.refl I.hok
theorem Inv.kept {t':Nat}(I:Inv X pins σ H s)(k:∀b u,s.heap.get? b=some u->h'.get? b=some u):Inv X pins σ H {s with heap:=h',toks:=t'}:=I.un (Un.kept k) (I.hok.kept k)
theorem Inv.laid {a:Addr}{o:HO}{t':Nat}(I:Inv X pins σ H s)(k:∀b u,s.heap.get? b=some u->h'.get? b=some u)(hp:s.heap.objs.size<=a)(new:ObjOk X.prog X.w (upd H a o) h' a o) :
 Inv X pins σ (upd H a o) {s with heap:=h',toks:=t'}:=I.un (Un.laid k hp (I.hok.fresh hp)) (I.hok.laid k hp new)
theorem Inv.write {x e:Addr}{o:HO}{t':Nat}(I:Inv X pins σ H s)(mu:Mut (H x))(he:e=x\/H e=some (.own x))(k:∀b u,b≠e->s.heap.get? b=some u->h'.get? b=some u)(heo:∃u,h'.get? e=some u)
 (new:ObjOk X.prog X.w (upd H x o) h' x o):Inv X pins σ (upd H x o) {s with heap:=h',toks:=t'}:=I.un (Un.write mu he k heo) (I.hok.write mu he k heo new)
theorem Inv.pins_of {pins':List (Addr × Obj)}(I:Inv X pins σ H s)(h:∀p∈pins',s.heap.get? p.1=some p.2/\H p.1=none/\p.1≠X.env.locals/\p.1∉X.fs/\∀v,p.2.data≠.cell v):Inv X pins' σ H s:=
 ⟨I.ok,I.os,I.bare,I.base,I.loc,I.cell,I.free,I.freeC,fun p hp=>(List.mem_append.mp hp).elim (fun z=>I.pin p (List.mem_append_left _ z)) (h p),I.hok,I.len⟩
theorem zfV {N:List Str}(hN:N.Nodup){i j:Nat}{x:Str}(a:N[i]?=some x)(b:N[j]?=some x):i=j:=by
 obtain⟨h1,e1⟩:=List.getElem?_eq_some_iff.mp a
 obtain⟨h2,e2⟩:=List.getElem?_eq_some_iff.mp b
 exact (List.getElem_inj hN).mp (e1.trans e2.symm)
theorem zek {M:Model}{A:Around}{E:Value->Shared->Prop}{i:Nat}{x:Str}{v:V}{u:Value}{Q:Unit->Shared->Prop}(I:Inv X pins σ H s)(hN:X.N.Nodup)(hi:X.N[i]?=some x)(hx:Loc X.env.scope x)(r:RelV v u)
  (h:∀s',Inv X pins (σ.set i (some v)) H s'->(∃a,Heap.SameBut a s.heap s'.heap/\(a=X.env.locals\/X.env.cells.lookup x=some a))->Q () s') (hf:X.fn x=true\/X.env.scope.names.lookup x=some .local:=by first|exact .inl rfl|exact .inr rfl|assumption):wpAny M A (storeName X.env x u) Q E s:=by
 obtain⟨m,hn,hl⟩:=id I.loc
 have hcls:(X.env.scope.kind == .class || (X.env.scope.kind == .module&&X.env.locals != X.env.globals))=false:=by rw[I.ok.kind];rfl
 have hiσ:i<σ.length:=by rw[I.len];exact (List.getElem?_eq_some_iff.mp hi).1
 have cne:=I.cne
 have tracked:∀{a:Addr} {h':Heap},(∃o,s.heap.get? a=some o/\H a=none)->Heap.SameBut a s.heap h'->HOk X.prog X.w H h':=fun {a h'} ha hs b ob e=>by
  obtain⟨_,_,hfree⟩:=ha
  refine (I.hok b ob e).stay (fun c w' hc q=>(hs.2 c ?_).trans q) (fun _ q=>q) fun _ _ q=>q
  rintro rfl
  rcases hc with rfl|hc
  · rw[hfree] at e;cases e
  · rw[hfree] at hc;cases hc
 rcases hx with hk|hk
 · refine wpAny_storeName_local hk hn (fun h' hn' hs=>?_) hcls
   obtain⟨oL,_,_,hoL,_⟩:=id hn
   refine h _ ⟨I.ok,I.os,I.bare,⟨fun b o e n hb hx=>?_,fun b o e n hb hx=>?_,I.base.free,fun b o e hx=>?_,I.base.tups,I.base.frzs,I.base.tbls⟩,⟨_,hn',fun j y v' e1 e2 e3=>?_⟩,fun y c e=>?_,I.free,I.freeC,fun p hp=>?_,tracked ⟨oL,hoL,I.free⟩ hs,by simpa using I.len⟩ ⟨_,hs,.inl rfl⟩
   · exact (hs.2 b (Nat.ne_of_lt (Nat.lt_of_lt_of_le (Heap.lt_size e) I.ok.above))).trans (I.base.keep b o e n hb hx)
   · obtain⟨sl,e1⟩:=I.base.slot b o e n hb hx
     exact⟨sl,(hs.2 b (Nat.ne_of_lt (Nat.lt_of_lt_of_le (Heap.lt_size e) I.ok.above))).trans e1⟩
   · obtain⟨o',e1⟩:=I.base.there b o e hx
     exact⟨o',(hs.2 b (Nat.ne_of_lt (Nat.lt_of_lt_of_le (Heap.lt_size e) I.ok.above))).trans e1⟩
   · by_cases hj:j=i
     · subst hj
       rw[hi] at e1;cases e1
       rw[List.getElem?_set_self hiσ] at e2
       cases e2
       exact⟨u,r,.inl ⟨hk,by simp⟩⟩
     · rw[List.getElem?_set_ne (Ne.symm hj)] at e2
       obtain⟨u',r',q⟩:=hl j y v' e1 e2 e3
       refine⟨u',r',?_⟩
       rcases q with ⟨k,e⟩|⟨k,c,e,z⟩
       · refine .inl ⟨k,?_⟩
         have:y≠x:=fun e=>hj (zfV hN e1 (e▸hi))
         simp[this,e]
       · exact .inr ⟨k,c,e,z.sameBut hs (cne y c e)⟩
   · obtain⟨w',z⟩:=I.cell y c e
     exact⟨w',z.sameBut hs (cne y c e)⟩
   · obtain⟨e,n,ne,nf,d⟩:=I.pin p hp
     exact⟨(hs.2 p.1 ne).trans e,n,ne,nf,d⟩
 · have hfn:X.fn x=true:=by
    rcases hf with z|z
    · exact z
    · rw[z] at hk;cases hk
   obtain⟨c,hc⟩:=I.ok.has x (.inl hk)
   obtain⟨w',z⟩:=I.cell x c hc
   refine wpAny_storeName_cell I.ok.kind hk hc z (fun h' hc' hs=>?_)
   obtain⟨oc,hoc,hocd⟩:=id z
   refine h {s with heap:=h'} ⟨I.ok,I.os,I.bare,⟨fun b o e n hb hx=>?_,fun b o e n hb hx=>?_,I.base.free,fun b o e hx=>?_,I.base.tups,I.base.frzs,I.base.tbls⟩,⟨m,hn.sameBut hs (Ne.symm (cne x c hc)),fun j y v' e1 e2 e3=>?_⟩,fun y c' e=>?_,I.free,I.freeC,fun p hp=>?_,tracked ⟨oc,hoc,I.freeC x c hc⟩ hs,by simpa using I.len⟩ ⟨c,hs,.inr hc⟩
   · exact (hs.2 b (Nat.ne_of_lt (Nat.lt_of_lt_of_le (Heap.lt_size e) (I.ok.cab x c hfn hc)))).trans (I.base.keep b o e n hb hx)
   · obtain⟨sl,e1⟩:=I.base.slot b o e n hb hx
     exact⟨sl,(hs.2 b (Nat.ne_of_lt (Nat.lt_of_lt_of_le (Heap.lt_size e) (I.ok.cab x c hfn hc)))).trans e1⟩
   · obtain⟨o',e1⟩:=I.base.there b o e hx
     exact⟨o',(hs.2 b (Nat.ne_of_lt (Nat.lt_of_lt_of_le (Heap.lt_size e) (I.ok.cab x c hfn hc)))).trans e1⟩
   · by_cases hj:j=i
     · subst hj
       rw[hi] at e1;cases e1
       rw[List.getElem?_set_self hiσ] at e2
       cases e2
       exact⟨u,r,.inr ⟨.inl hk,c,hc,hc'⟩⟩
     · rw[List.getElem?_set_ne (Ne.symm hj)] at e2
       obtain⟨u',r',q⟩:=hl j y v' e1 e2 e3
       refine⟨u',r',?_⟩
       rcases q with q|⟨k,c',e,z'⟩
       · exact .inl q
       · refine .inr ⟨k,c',e,z'.sameBut hs ?_⟩
         rintro rfl
         exact hj (zfV hN e1 (I.ok.inj _ _ _ e hc▸hi))
   · by_cases hcc:c'=c
     · subst hcc;exact⟨_,hc'⟩
     · obtain⟨w2,z2⟩:=I.cell y c' e
       exact⟨w2,z2.sameBut hs hcc⟩
   · obtain⟨e,n,ne,nf,d⟩:=I.pin p hp
     refine⟨(hs.2 p.1 ?_).trans e,n,ne,nf,d⟩
     intro q
     rw[q,hoc] at e
     have q':oc=p.2:=Option.some.inj e
     exact d w' (by rw[<-q'];exact hocd)
theorem zfI {M:Model}{A:Around}{E:Value->Shared->Prop}{i:Nat}{x:Str}{v:V}{u:Value}{Q:Unit->Shared->Prop}(I:Inv X pins σ H s)(hN:X.N.Nodup)(hi:X.N[i]?=some x)(hx:Loc X.env.scope x)(r:RelV v u)
  (h:∀s',Inv X pins (σ.set i (some v)) H s'->Q () s') (hf:X.fn x=true\/X.env.scope.names.lookup x=some .local:=by first|exact .inl rfl|exact .inr rfl|assumption):wpAny M A (storeName X.env x u) Q E s:=
 zek I hN hi hx r (fun s' I' _=>h s' I') hf
theorem Inv.call' {s':Shared}{ch:List Addr}(I:Inv X pins σ H s)(ho:s'.os=s.os)(u:Un (frs X.stack) ch H H' s.heap s'.heap)(hok:HOk X.prog X.w H' s'.heap)(hg:AllBare s'.gens)
  (hch:∀b∈ch,(b∈X.ex\/X.s₀.heap.objs.size<=b)/\b≠X.env.locals/\(∀x c,X.env.cells.lookup x=some c->c≠b)/\∀p∈X.pn++pins,p.1≠b):Inv X pins σ H' s':=by
 obtain⟨h',g',d',t',o'⟩:=s'
 have e:o'=s.os:=ho
 subst e
 exact I.call (g':=g') (t':=t') (d':=d') u hok hg hch
end
noncomputable abbrev XK:=Value->Option Addr->Hp->Prop
noncomputable abbrev St:=List (Option V)
noncomputable abbrev VK:=V->Hp->Prop
noncomputable abbrev TE:=St->Hp->VK->Prop
noncomputable abbrev TT:=St->Hp->(Bool->Hp->Prop)->Prop
noncomputable abbrev TA:=St->Hp->(List V->Hp->Prop)->Prop
structure Ends where
 nx:St->Hp->Prop
 rt:VK
 bk:St->Hp->Prop:=fun _ _=>False
 ct:St->Hp->Prop:=fun _ _=>False
noncomputable abbrev TS:=Ends->St->Hp->Prop
noncomputable def EP (X:Cx)(pins:List (Addr × Obj))(σ:St)(Q:VK)(u:Value)(s':Shared):Prop:=∃v H',Inv X pins σ H' s'/\RelV v u/\Q v H'
noncomputable def TP (X:Cx)(pins:List (Addr × Obj))(σ:St)(Q:Bool->Hp->Prop)(b:Bool)(s':Shared):Prop:=∃H',Inv X pins σ H' s'/\Q b H'
noncomputable def AP (X:Cx)(pins:List (Addr × Obj))(σ:St)(Q:List V->Hp->Prop)(us:List Value)(s':Shared):Prop:=∃vs H',Inv X pins σ H' s'/\Vals vs us/\Q vs H'
noncomputable def SP (X:Cx)(pins:List (Addr × Obj))(D:Ends)(f:Flow)(s':Shared):Prop:=
 match f with
 |.next=>∃σ' H',Inv X pins σ' H' s'/\D.nx σ' H'
 |.brk=>∃σ' H',Inv X pins σ' H' s'/\D.bk σ' H'
 |.cont=>∃σ' H',Inv X pins σ' H' s'/\D.ct σ' H'
 |.ret u=>∃v σ' H',Inv X pins σ' H' s'/\RelV v u/\D.rt v H'
noncomputable def PE (X:Cx)(e:Expr)(t:TE):Prop:=
 ∀(pins:List (Addr × Obj)) (s:Shared) (σ:St) (H:Hp) (Q:VK),Inv X pins σ H s->t σ H Q->wpAny (model X.prog X.w) X.A (eval e X.env) (EP X pins σ Q) X.xe s
noncomputable def PT (X:Cx)(e:Expr)(t:TT):Prop:=
 ∀(pins:List (Addr × Obj)) (s:Shared) (σ:St) (H:Hp) (Q:Bool->Hp->Prop),Inv X pins σ H s->t σ H Q->wpAny (model X.prog X.w) X.A (isTrue e X.env (eval e X.env)) (TP X pins σ Q) X.xe s
noncomputable def PW (X:Cx)(e:Expr)(t:TT):Prop:=
 ∀(whole:Sem Value) (pins:List (Addr × Obj)) (s:Shared) (σ:St) (H:Hp) (Q:Bool->Hp->Prop),Inv X pins σ H s->t σ H Q->wpAny (model X.prog X.w) X.A (isTrue e X.env whole) (TP X pins σ Q) X.xe s
theorem PW.pt {X:Cx}{e:Expr}{t:TT}(h:PW X e t):PT X e t:=h _
noncomputable def PA (X:Cx)(es:List Expr)(t:TA):Prop:=
 ∀(pos:Pos) (pins:List (Addr × Obj)) (s:Shared) (σ:St) (H:Hp) (Q:List V->Hp->Prop),Inv X pins σ H s->t σ H Q->wpAny (model X.prog X.w) X.A (spliced (backTo pos (starEach es X.env))) (AP X pins σ Q) X.xe s
noncomputable def PS (X:Cx)(st:Stmt)(t:TS):Prop:=
 ∀(pins:List (Addr × Obj)) (s:Shared) (σ:St) (H:Hp) (D:Ends),Inv X pins σ H s->t D σ H->wpAny (model X.prog X.w) X.A (exec st X.env) (SP X pins D) X.xe s
noncomputable def PSs (X:Cx)(st:List Stmt)(t:TS):Prop:=
 ∀(pins:List (Addr × Obj)) (s:Shared) (σ:St) (H:Hp) (D:Ends),Inv X pins σ H s->t D σ H->wpAny (model X.prog X.w) X.A (execs st X.env) (SP X pins D) X.xe s
theorem thn {α:Type}{t:Sem α}{Q Q':α->Shared->Prop}{M:Model}{A:Around}{E:Value->Shared->Prop}{s:Shared}(h:wpAny M A t Q E s)(hQ:∀a s,Q a s->Q' a s):wpAny M A t Q' E s:=wpAny_mono h hQ fun _ _ x=>x
end L2
namespace L2
open PySem PySem.Spec PyProof.Rows
section
variable {X:Cx}
theorem bin {a b:Expr}{ta tb:TE}(ha:PE X a ta)(hb:PE X b tb){pins:List (Addr × Obj)}{s:Shared}{σ:St}{H:Hp}{R:V->V->Hp->Prop}(I:Inv X pins σ H s)(h:ta σ H fun x H1=>tb σ H1 fun y H2=>R x y H2)
  {α:Type} {Q:α->Shared->Prop} {f:Value->Value->Sem α}
  (hf:∀v u s2 x y H2,Inv X pins σ H2 s2->RelV x v->RelV y u->R x y H2->wpAny (model X.prog X.w) X.A (f v u) Q X.xe s2) :
  wpAny (model X.prog X.w) X.A (eval a X.env) (fun v s₁=>wpAny (model X.prog X.w) X.A (eval b X.env) (fun u s₂=>wpAny (model X.prog X.w) X.A (f v u) Q X.xe s₂) X.xe s₁) X.xe s:=by
 refine thn (ha pins s σ H _ I h) fun v s1 ⟨x,H1,I1,r1,q1⟩=>?_
 refine thn (hb pins s1 σ H1 _ I1 q1) fun u s2 ⟨y,H2,I2,r2,q2⟩=>?_
 exact hf v u s2 x y H2 I2 r1 r2 q2
noncomputable def tVar (i:Nat):TE:=fun σ H Q=>∃v,σ[i]?=some (some v)/\Q v H
noncomputable def tC (v:V):TE:=fun _ H Q=>Q v H
theorem zmz {i:Nat}{x:Str}{pos:Pos}(hN:X.N[i]?=some x)(hv:Vis X.env.scope x)(hd:(x == ("__debug__":Str))=false:=by decide)(hcd:(x == ("__classdict__":Str))=false:=by decide):PE X (.Name x pos) (tVar i):=by
 intro pins s σ H Q I h
 obtain⟨v,e,h⟩:=h
 obtain⟨m,hn,hl⟩:=I.loc
 obtain⟨u,r,l⟩:=hl i x v hN e hv
 have fin:EP X pins σ Q u s:=⟨v,H,I,r,h⟩
 rcases l with ⟨hk,hm⟩|⟨hk,c,hc,hcell⟩
 · exact wpAny_Name (wpAny_loadName_local I.ok.kind hk hn hm fin) hd
 · rcases hk with hk|hk
   · exact wpAny_Name (wpAny_loadName_cell I.ok.kind hk hc hcell fin) hd
   · exact wpAny_Name (wpAny_loadName_free I.ok.kind hk hc hcell fin hcd) hd
theorem zmF {i j pos}:PE X (.Constant (.int i) j pos) (tC (.int i)):=fun _ _ _ H _ I h=>wpAny_Constant_int ⟨.int i,H,I.tok _,⟨_,rfl⟩,h⟩
theorem zoc {b j pos}:PE X (.Constant (.bool b) j pos) (tC (.bl b)):=fun _ _ _ H _ I h=>Constant_bool ⟨.bl b,H,I,rfl,h⟩
theorem zmD {j pos}:PE X (.Constant .none j pos) (tC .non):=fun _ _ _ H _ I h=>Constant_none ⟨.non,H,I,rfl,h⟩
theorem zmB {x j pos}:PE X (.Constant (.str x) j pos) (tC (.str x)):=fun _ _ _ H _ I h=>Calls.Constant_str ⟨.str x,H,I.tok _,⟨_,rfl⟩,h⟩
noncomputable def Gl (X:Cx)(x:Str):Prop:=X.env.kindOf x=some .globalImplicit
theorem zcV {E:Value->Shared->Prop}{pins:List (Addr × Obj)}{s:Shared}{σ:St}{H:Hp}{x:Str}{u:Value}{pos:Pos}{Q:Value->Shared->Prop}(I:Inv X pins σ H s)(hg:Gl X x)(hm:X.mg x=some u)(h:Q u s)
  (hd:(x == ("__debug__":Str))=false:=by decide):wpAny (model X.prog X.w) X.A (eval (.Name x pos) X.env) Q E s:=
 Calls.Name_function_global I.ok.kind hg (Calls.loadGlobal_global (by rw[I.ok.glob];exact I.mod.glob.keeps I.bk) hm h) hd
theorem zdw {E:Value->Shared->Prop}{pins:List (Addr × Obj)}{s:Shared}{σ:St}{H:Hp}{x:Str}{u:Value}{pos:Pos}{Q:Value->Shared->Prop}(I:Inv X pins σ H s)(hg:Gl X x)(hm:X.mg x=none)(hv:bootBuiltins x=some u)(h:Q u s)
  (hn:x≠"__name__":=by decide) (hd:(x == ("__debug__":Str))=false:=by decide):wpAny (model X.prog X.w) X.A (eval (.Name x pos) X.env) Q E s:=by
 obtain⟨mb,h1,h2⟩:=I.mod.blt
 exact Calls.Name_function_global I.ok.kind hg (Calls.loadGlobal_builtin (by rw[I.ok.glob];exact I.mod.glob.keeps I.bk) hm (by rw[I.ok.blt];exact h1.keeps I.bk) ((h2 x hn).trans hv) h) hd
theorem zfj {x:Str}{v:V}{u:Value}{pos:Pos}(hg:Gl X x)(hm:X.mg x=some u)(r:RelV v u)(hd:(x == ("__debug__":Str))=false:=by decide):PE X (.Name x pos) (tC v):=
 fun _ _ _ H _ I h=>zcV I hg hm ⟨v,H,I,r,h⟩ hd
theorem zkR {x:Str}{v:V}{u:Value}{pos:Pos}(hg:Gl X x)(hm:X.mg x=none)(hv:bootBuiltins x=some u)(r:RelV v u)(hn:x≠"__name__":=by decide)(hd:(x == ("__debug__":Str))=false:=by decide):PE X (.Name x pos) (tC v):=
 fun _ _ _ H _ I h=>zdw I hg hm hv ⟨v,H,I,r,h⟩ hn hd
variable {a b:Expr} {ta tb:TE} {pos:Pos}
theorem RelV.none_iff {x:V}{v:Value}(r:RelV x v):(v == Value.none)=decide (x=.non):=by
 cases x with
 |non=>cases r;rfl
 |bl _=>cases r;rfl
 |int _=>obtain⟨t,rfl⟩:=r;rfl
 |str _=>obtain⟨t,rfl⟩:=r;rfl
 |byt _=>obtain⟨t,rfl⟩:=r;rfl
 |flt _=>obtain⟨t,rfl⟩:=r;rfl
 |ref _=>cases r;rfl
 |ty _=>cases r;rfl
variable {tA tB':TT} {rest:List Expr}
noncomputable def tAnd (t u:TT):TT:=fun σ H Q=>t σ H fun c H1=>if c=true then u σ H1 Q else Q false H1
noncomputable def tOr (t u:TT):TT:=fun σ H Q=>t σ H fun c H1=>if c=true then Q true H1 else u σ H1 Q
noncomputable def tNot (t:TT):TT:=fun σ H Q=>t σ H fun c H1=>Q (!c) H1
theorem zkB (ha:PT X a tA):PW X (.BoolOp .And [a] pos) tA:=by
 intro wh pins s σ H Q I h
 refine isTrue_and (thn (ha pins s σ H Q I h) fun c s1 e=>?_)
 cases c with
 |true=>exact isTrue_and_nil e
 |false=>exact e
theorem zmr (ha:PT X a tA):PW X (.BoolOp .Or [a] pos) tA:=by
 intro wh pins s σ H Q I h
 refine isTrue_or (thn (ha pins s σ H Q I h) fun c s1 e=>?_)
 cases c with
 |false=>exact isTrue_or_nil e
 |true=>exact e
theorem zms (ha:PT X a tA)(hb:PW X (.BoolOp .And (b::rest) pos) tB'):PW X (.BoolOp .And (a::b::rest) pos) (tAnd tA tB'):=by
 intro wh pins s σ H Q I h
 refine isTrue_and (thn (ha pins s σ H _ I h) fun c s1 ⟨H1,I1,q1⟩=>?_)
 cases c with
 |true=>exact hb wh pins s1 σ H1 Q I1 q1
 |false=>exact⟨H1,I1,q1⟩
theorem zn6 (ha:PT X a tA)(hb:PW X (.BoolOp .Or (b::rest) pos) tB'):PW X (.BoolOp .Or (a::b::rest) pos) (tOr tA tB'):=by
 intro wh pins s σ H Q I h
 refine isTrue_or (thn (ha pins s σ H _ I h) fun c s1 ⟨H1,I1,q1⟩=>?_)
 cases c with
 |true=>exact⟨H1,I1,q1⟩
 |false=>exact hb wh pins s1 σ H1 Q I1 q1
theorem zmt (ha:PT X a tA):PT X (.UnaryOp .Not a pos) (tNot tA):=by
 intro pins s σ H Q I h
 exact isTrue_not (ha pins s σ H (fun c H1=>Q (!c) H1) I h)
noncomputable def znV (ta tb:TE):TE:=fun σ H Q=>ta σ H fun x H1=>∃c,x=.bl c/\if c=true then tb σ H1 Q else Q (.bl false) H1
noncomputable def tOrV (ta tb:TE):TE:=fun σ H Q=>ta σ H fun x H1=>∃c,x=.bl c/\if c=true then Q (.bl true) H1 else tb σ H1 Q
noncomputable def znS (ta:TE):TE:=fun σ H Q=>ta σ H fun x H1=>∃c,x=.bl c/\Q (.bl (!c)) H1
theorem zjQ {op}{t:TE}(h:PE X a t):PE X (.BoolOp op [a] pos) t:=fun pins s σ H Q I hw=>BoolOp_one (h pins s σ H Q I hw)
theorem zmK (ha:PE X a ta)(hb:PE X (.BoolOp .And (b::rest) pos) tb):PE X (.BoolOp .And (a::b::rest) pos) (znV ta tb):=by
 intro pins s σ H Q I h
 refine BoolOp_and (thn (ha pins s σ H _ I h) fun v s1 ⟨x,H1,I1,r1,q1⟩=>?_)
 obtain⟨c,rfl,q1⟩:=q1
 cases r1
 refine wpAny_truthy_bool ?_
 cases c with
 |true=>exact hb pins s1 σ H1 Q I1 q1
 |false=>exact⟨.bl false,H1,I1,rfl,q1⟩
theorem zn9 (ha:PE X a ta)(hb:PE X (.BoolOp .Or (b::rest) pos) tb):PE X (.BoolOp .Or (a::b::rest) pos) (tOrV ta tb):=by
 intro pins s σ H Q I h
 refine BoolOp_or (thn (ha pins s σ H _ I h) fun v s1 ⟨x,H1,I1,r1,q1⟩=>?_)
 obtain⟨c,rfl,q1⟩:=q1
 cases r1
 refine wpAny_truthy_bool ?_
 cases c with
 |false=>exact hb pins s1 σ H1 Q I1 q1
 |true=>exact⟨.bl true,H1,I1,rfl,q1⟩
theorem zmC (ha:PE X a ta):PE X (.UnaryOp .Not a pos) (znS ta):=by
 intro pins s σ H Q I h
 refine UnaryOp_ (thn (ha pins s σ H _ I h) fun v s1 ⟨x,H1,I1,r1,q1⟩=>?_)
 obtain⟨c,rfl,q1⟩:=q1
 cases r1
 exact not_of (wpAny_truthy_bool ⟨.bl (!c),H1,I1,rfl,q1⟩)
noncomputable def tIf (t:TT)(ta tb:TE):TE:=fun σ H Q=>t σ H fun c H1=>if c=true then ta σ H1 Q else tb σ H1 Q
theorem zi1 {c:Expr}(hc:PT X c tA)(ha:PE X a ta)(hb:PE X b tb):PE X (.IfExp c a b pos) (tIf tA ta tb):=by
 intro pins s σ H Q I h
 refine wpAny_IfExp (thn (hc pins s σ H _ I h) fun d s1 ⟨H1,I1,q1⟩=>?_)
 cases d with
 |true=>exact ha pins s1 σ H1 Q I1 q1
 |false=>exact hb pins s1 σ H1 Q I1 q1
end
end L2
namespace L2
open PySem PySem.Spec PyProof.Rows
noncomputable def SqL (K:PySem.W.Frag)(H:Hp)(a:Addr)(xs:List V):Prop:=
 Rd H a (.lst xs)\/
  ∃(o:Obj) (its:Array Value) (n:Nat),K.lookup a=some o/\o.cls=.type "list"/\o.dict=none/\o.data=.seq its n/\its.size<=sizeLine/\Vals xs its.toList
noncomputable def SqT (K:PySem.W.Frag)(H:Hp)(a:Addr)(xs:List V):Prop:=
 Rd H a (.tup xs)\/
  ∃(o:Obj) (its:Array Value) (n:Nat),K.lookup a=some o/\o.cls=.type "tuple"/\o.data=.seq its n/\its.size<=sizeLine/\Vals xs its.toList
noncomputable def absV:Value->Option V
 |.none=>some .non
 |.bool b=>some (.bl b)
 |.int i _=>some (.int i)
 |.str x _=>some (.str x)
 |.bytes b _=>some (.byt b)
 |.float b _=>some (.flt b)
 |.ref a=>some (.ref a)
 |.type n=>some (.ty n)
 |_=>none
theorem RelV.abs {x:V}{u:Value}(r:RelV x u):absV u=some x:=by
 cases x with
 |non=>cases r;rfl
 |bl _=>cases r;rfl
 |int _=>obtain⟨t,rfl⟩:=r;rfl
 |str _=>obtain⟨t,rfl⟩:=r;rfl
 |byt _=>obtain⟨t,rfl⟩:=r;rfl
 |flt _=>obtain⟨t,rfl⟩:=r;rfl
 |ref _=>cases r;rfl
 |ty _=>cases r;rfl
theorem RelV.inj {x y:V}{u:Value}(r:RelV x u)(q:RelV y u):x=y:=Option.some.inj (r.abs.symm.trans q.abs)
theorem Vals.inj:∀{xs ys:List V} {us:List Value},Vals xs us->Vals ys us->xs=ys
 |_,_,_,.nil,.nil=>rfl
 |_,_,_,.cons r t,.cons r' t'=>by rw[r.inj r',Vals.inj t t']
section
variable {X:Cx} {pins:List (Addr × Obj)} {σ:St} {H:Hp} {s:Shared} {a:Addr} {xs ys:List V}
theorem SqL.of {K:PySem.W.Frag}(h:H a=some (.lst xs)):SqL K H a xs:=.inl (.inl h)
theorem SqT.of {K:PySem.W.Frag}(h:H a=some (.tup xs)):SqT K H a xs:=.inl (.inl h)
theorem Inv.list (I:Inv X pins σ H s)(h:SqL X.K H a xs):∃its:List Value,Vals xs its/\PlainL s.heap a its.toArray/\xs.length<=sizeLine:=by
 rcases h with h|⟨o,its,n,hk,hc,hd,hs,hz,r⟩
 · obtain⟨z,its,n,r,e⟩:=h.ok I.hok
   exact⟨its,r,⟨_,n,e,rfl,rfl,rfl⟩,z⟩
 · refine⟨its.toList,r,⟨o,n,I.kIn a o hk,hc,hd,by simpa using hs⟩,?_⟩
   have e:=r.length
   simp only[Array.length_toList] at e
   omega
theorem Inv.tuple (I:Inv X pins σ H s)(h:SqT X.K H a xs):∃its:List Value,Vals xs its/\IsTup s.heap a its.toArray/\xs.length<=sizeLine:=by
 rcases h with h|⟨o,its,n,hk,hc,hs,hz,r⟩
 · obtain⟨z,its,r,p⟩:=h.ok I.hok
   exact⟨its,r,p,z⟩
 · refine⟨its.toList,r,⟨o,I.kIn a o hk,hc,n,by simpa using hs⟩,?_⟩
   have e:=r.length
   simp only[Array.length_toList] at e
   omega
theorem Inv.list_inj (I:Inv X pins σ H s)(h:SqL X.K H a xs)(h':SqL X.K H a ys):xs=ys:=by
 obtain⟨its,r,⟨o,n,e,_,_,d⟩,_⟩:=I.list h
 obtain⟨its',r',⟨o',n',e',_,_,d'⟩,_⟩:=I.list h'
 rw[e] at e';cases e'
 rw[d] at d'
 injection d' with d1 _
 have:its=its':=by simpa using congrArg Array.toList d1
 subst this
 exact r.inj r'
theorem Inv.tuple_inj (I:Inv X pins σ H s)(h:SqT X.K H a xs)(h':SqT X.K H a ys):xs=ys:=by
 obtain⟨its,r,⟨o,e,_,n,d⟩,_⟩:=I.tuple h
 obtain⟨its',r',⟨o',e',_,n',d'⟩,_⟩:=I.tuple h'
 rw[e] at e';cases e'
 rw[d] at d'
 injection d' with d1 _
 have:its=its':=by simpa using congrArg Array.toList d1
 subst this
 exact r.inj r'
end
noncomputable abbrev Cx.wish (X:Cx)(E:Value->Shared->Prop):Cx:={X with xe:=E}
noncomputable abbrev Cx.nox (X:Cx):Cx:=X.wish fun _ _=>False
theorem Cx.Ok.wish {X:Cx}(ok:X.Ok)(E:Value->Shared->Prop):(X.wish E).Ok:=
 ⟨ok.mod,ok.kind,ok.glob,ok.blt,ok.above,ok.inj,ok.has,ok.cab,ok.hd,ok.frames,ok.stk,ok.exf,ok.bs,ok.bsz,ok.noex,ok.exfs,ok.funs,ok.frf⟩
theorem Cx.Ok.unwish {X:Cx}{E:Value->Shared->Prop}(ok:(X.wish E).Ok):X.Ok:=
 ⟨ok.mod,ok.kind,ok.glob,ok.blt,ok.above,ok.inj,ok.has,ok.cab,ok.hd,ok.frames,ok.stk,ok.exf,ok.bs,ok.bsz,ok.noex,ok.exfs,ok.funs,ok.frf⟩
section
variable {X:Cx} {pins:List (Addr × Obj)} {σ:St} {H:Hp} {s:Shared} {E:Value->Shared->Prop}
theorem Inv.wish (I:Inv X pins σ H s)(E:Value->Shared->Prop):Inv (X.wish E) pins σ H s:=⟨I.ok.wish E,I.os,I.bare,I.base,I.loc,I.cell,I.free,I.freeC,I.pin,I.hok,I.len⟩
theorem Inv.unwish (I:Inv (X.wish E) pins σ H s):Inv X pins σ H s:=⟨I.ok.unwish,I.os,I.bare,I.base,I.loc,I.cell,I.free,I.freeC,I.pin,I.hok,I.len⟩
theorem SP.unwish {D:Ends}{f:Flow}{s':Shared}(h:SP (X.wish E) pins D f s'):SP X pins D f s':=by
 cases f with
 |next=>obtain⟨σ',H',I,q⟩:=h;exact⟨σ',H',I.unwish,q⟩
 |brk=>obtain⟨σ',H',I,q⟩:=h;exact⟨σ',H',I.unwish,q⟩
 |cont=>obtain⟨σ',H',I,q⟩:=h;exact⟨σ',H',I.unwish,q⟩
 |ret u=>obtain⟨v,σ',H',I,r,q⟩:=h;exact⟨v,σ',H',I.unwish,r,q⟩
theorem PSs.nox {st:List Stmt}{t:TS}(h:PSs X.nox st t):PSs X st t:=fun pins s σ H D I hw=>
 wpAny_mono (h pins s σ H D (I.wish _) hw) (fun _ _ q=>q.unwish) fun _ _ z=>False.elim z
end
section
variable {X:Cx} {st:Stmt} {rest:List Stmt} {t u:TS} {e:Expr} {te:TE} {pos:Pos}
noncomputable def znT:TS:=fun D σ H=>D.nx σ H
noncomputable def tSeq (t u:TS):TS:=fun D σ H=>t {D with nx:=u D} σ H
theorem zkG:PSs X [] znT:=fun _ _ σ H _ I h=>wpAny_execs_nil ⟨σ,H,I,h⟩
theorem zbc (h1:PS X st t)(h2:PSs X rest u):PSs X (st::rest) (tSeq t u):=by
 intro pins s σ H D I h
 refine wpAny_execs_cons (thn (h1 pins s σ H {D with nx:=u D} I h) fun f s1 q=>?_)
 cases f with
 | next =>
   obtain⟨σ',H',I',q⟩:=q
   exact h2 pins s1 σ' H' D I' q
 |ret v=>exact q
 |brk=>exact q
 |cont=>exact q
theorem Inv.quiet {pins:List (Addr × Obj)}{σ:St}{H:Hp}{s:Shared}(I:Inv X pins σ H s):interactive X.env=false:=by simp[interactive,I.ok.kind]
noncomputable def znU (te:TE):TS:=fun D σ H=>te σ H fun _ H1=>D.nx σ H1
theorem zkI (he:PE X e te)(hs:swapsWith e none pos.line X.env=pure false:=by rfl):PS X (.Expr e pos) (znU te):=by
 intro pins s σ H D I h
 exact wpAny_Expr_any (thn (he pins s σ H _ I h) fun v s1 ⟨x,H1,I1,r1,q1⟩=>⟨σ,H1,I1,q1⟩) I.quiet hs
noncomputable def tRet (te:TE):TS:=fun D σ H=>te σ H D.rt
theorem zmu (he:PE X e te):PS X (.Return (some e) pos) (tRet te):=by
 intro pins s σ H D I h
 exact wpAny_Return_some (thn (he pins s σ H _ I h) fun v s1 ⟨x,H1,I1,r1,q1⟩=>⟨x,σ,H1,I1,r1,q1⟩)
noncomputable def tIfS (c:TT)(t u:TS):TS:=fun D σ H=>c σ H fun b H1=>if b=true then t D σ H1 else u D σ H1
theorem zn7 {c:Expr}{a b:List Stmt}{tc:TT}(hc:PT X c tc)(ha:PSs X a t)(hb:PSs X b u):PS X (.If c a b pos) (tIfS tc t u):=by
 intro pins s σ H D I h
 refine wpAny_If (thn (hc pins s σ H _ I h) fun d s1 ⟨H1,I1,q1⟩=>?_)
 cases d with
 |true=>exact ha pins s1 σ H1 D I1 q1
 |false=>exact hb pins s1 σ H1 D I1 q1
end
noncomputable abbrev TG:=V->St->Hp->(St->Hp->Prop)->Prop
noncomputable abbrev TGs:=List V->St->Hp->(St->Hp->Prop)->Prop
noncomputable def PG (X:Cx)(target:Expr)(t:TG):Prop:=
 ∀(pins:List (Addr × Obj)) (s:Shared) (σ:St) (H:Hp) (v:V) (u:Value) (Q:St->Hp->Prop),Inv X pins σ H s->RelV v u->t v σ H Q->
  wpAny (model X.prog X.w) X.A (assign target X.env u) (fun _ s'=>∃σ' H',Inv X pins σ' H' s'/\Q σ' H') X.xe s
noncomputable def PGs (X:Cx)(ts:List Expr)(t:TGs):Prop:=
 ∀(pins:List (Addr × Obj)) (s:Shared) (σ:St) (H:Hp) (vs:List V) (us:List Value) (Q:St->Hp->Prop),Inv X pins σ H s->Vals vs us->t vs σ H Q->
  wpAny (model X.prog X.w) X.A (assignInOrder ((assignEach ts X.env).map (·.2)) us) (fun _ s'=>∃σ' H',Inv X pins σ' H' s'/\Q σ' H') X.xe s
section
variable {X:Cx} {pos:Pos}
noncomputable def zhY (i:Nat):TG:=fun v σ H Q=>Q (σ.set i (some v)) H
theorem zhp {i:Nat}{x:Str}(hN:X.N.Nodup)(hi:X.N[i]?=some x)(hx:Loc X.env.scope x)(hf:X.fn x=true\/X.env.scope.names.lookup x=some .local:=by first|exact .inl rfl|exact .inr rfl|assumption):PG X (.Name x pos) (zhY i):=by
 intro pins s σ H v u Q I r h
 exact wpAny_assign_Name (zfI I hN hi hx r (fun s' I'=>⟨_,H,I',h⟩) hf)
noncomputable def gNil:TGs:=fun vs σ H Q=>vs=[]/\Q σ H
noncomputable def zos (t:TG)(u:TGs):TGs:=fun vs σ H Q=>∃v r,vs=v::r/\t v σ H fun σ' H'=>u r σ' H' Q
theorem zkM:PGs X [] gNil:=by
 intro pins s σ H vs us Q I r h
 obtain⟨e,h⟩:=h
 subst e
 cases r
 exact assignInOrder_nil ⟨σ,H,I,h⟩
theorem ziW {e:Expr}{es:List Expr}{t:TG}{u:TGs}(h1:PG X e t)(h2:PGs X es u)
  (hs:(assignEach (e::es) X.env).map (·.2)=assign e X.env::(assignEach es X.env).map (·.2):=by rfl):PGs X (e::es) (zos t u):=by
 intro pins s σ H vs us Q I r h
 obtain⟨v,vr,e1,h⟩:=h
 subst e1
 cases r with
 | cons r rr =>
   rw[hs]
   refine assignInOrder_cons (thn (h1 pins s σ H _ _ _ I r h) fun _ s1 ⟨σ1,H1,I1,q1⟩=>?_)
   exact h2 pins s1 σ1 H1 _ _ Q I1 rr q1
noncomputable def gTup (K:PySem.W.Frag)(n:Nat)(t:TGs):TG:=fun v σ H Q=>∃a xs,v=.ref a/\SqT K H a xs/\xs.length=n/\t xs σ H Q
theorem zmy {es:List Expr}{k:Nat}{t:TGs}{n:Nat}(hc:X.calm=true)(h:PGs X es t)
  (hn:(assignEach es X.env).length=n:=by rfl) (hst:(assignEach es X.env).findIdx? (·.1)=none:=by rfl):PG X (.Tuple es k pos) (gTup X.K n t):=by
 intro pins s σ H v u Q I r hw
 obtain⟨a,xs,e1,hq,hl,hw⟩:=hw
 subst e1
 cases r
 obtain⟨its,rv,ht,hz⟩:=I.tuple hq
 refine assign_Tuple_tuple (I.ok.hd hc) ht (by simp[hn,<-hl,rv.length]) hst fun h' hx=>?_
 have I1:Inv X pins σ H {s with heap:=h'}:=I.kept (t':=s.toks) fun b o e=>hx b o (Nat.ne_of_lt (Heap.lt_size e)) e
 exact h pins _ σ H xs _ Q I1 (by simpa using rv) hw
noncomputable def tAsg (te:TE)(g:TG):TS:=fun D σ H=>te σ H fun x H1=>g x σ H1 D.nx
theorem zjP {i:Nat}{x:Str}{e:Expr}{te:TE}{pos':Pos}(hN:X.N.Nodup)(hi:X.N[i]?=some x)(hx:Loc X.env.scope x)(he:PE X e te)(hs:swapsWith e (some (.Name x pos')) pos.line X.env=pure false:=by rfl)(hf:X.fn x=true\/X.env.scope.names.lookup x=some .local:=by first|exact .inl rfl|exact .inr rfl|assumption) :
  PS X (.Assign [.Name x pos'] e pos) (tAsg te (zhY i)):=by
 intro pins s σ H D I h
 refine wpAny_Assign_Name (thn (he pins s σ H _ I h) fun v s1 ⟨y,H1,I1,r1,q1⟩=>?_) hs
 exact zfI I1 hN hi hx r1 (fun s2 I2=>⟨_,H1,I2,q1⟩) hf
end
section
variable {X:Cx} {pos:Pos}
end
structure It where
 go:Nat->Hp->Prop
 yld:Nat->Hp->V->Hp->Prop
 stop:Nat->Hp->Prop
noncomputable def FpOk (X:Cx)(pins:List (Addr × Obj))(H:Hp)(b:Addr):Prop:=
 H b=none/\b≠X.env.locals/\b∉X.fs/\(b∈X.ex\/X.s₀.heap.objs.size<=b)/\(∀x c,X.env.cells.lookup x=some c->c≠b)/\∀p∈X.pn++pins,p.1≠b
theorem Inv.fpOk {X:Cx}{pins:List (Addr × Obj)}{σ:St}{H H':Hp}{s:Shared}{b:Addr}(I:Inv X pins σ H s)(hb:s.heap.objs.size<=b)(hn:H' b=none):FpOk X pins H' b:=by
 refine⟨hn,Nat.ne_of_gt (Nat.lt_of_lt_of_le I.lt hb),I.nofs hb,.inr (Nat.le_trans I.sz hb),fun x c e z=>?_,fun p hp z=>?_⟩
 · obtain⟨v,q⟩:=I.cell x c e
   exact absurd (Nat.lt_of_lt_of_le q.lt (by rw[z];exact hb)) (Nat.lt_irrefl _)
 · exact absurd (Nat.lt_of_lt_of_le (Heap.lt_size (I.pin p hp).1) (by rw[z];exact hb)) (Nat.lt_irrefl _)
structure Turn (P:Program) (w:World) (K:PySem.W.Frag) (tg:Expr) (J:It) (fp:List Addr) (it:Addr) (tn:Nat->Heap->Prop):Prop where
 mem:it∈fp
 obj:∀i h,tn i h->∀b∈fp,∃o,h.get? b=some o/\∀v,o.data≠.cell v
 keep:∀i h h',tn i h->(∀b∈fp,∀o,h.get? b=some o->h'.get? b=some o)->tn i h'
 item:∀(X:Cx),X.prog=P->X.w=w->X.K=K->X.calm=true->∀(i:Nat) (pins:List (Addr × Obj)) (s:Shared) (σ:St) (H:Hp) (E:Value->Shared->Prop),Inv X pins σ H s->(∀b∈fp,FpOk X pins H b)->tn i s.heap->J.go i H->
  wpAny (model P w) X.A (pyNext (.ref it)) (fun r s1=>∃u,r=some u/\
   wpAny (model P w) X.A (letOwnedTupleGo tg (.ref it) u) (fun _ s2=>∃x H',Inv X pins σ H' s2/\RelV x u/\J.yld i H x H'/\tn (i+1) s2.heap/\∀b∈fp,H' b=none) E s1) E s
 done:∀(X:Cx),X.prog=P->X.w=w->X.K=K->X.calm=true->∀(i:Nat) (pins:List (Addr × Obj)) (s:Shared) (σ:St) (H:Hp) (E:Value->Shared->Prop),Inv X pins σ H s->(∀b∈fp,FpOk X pins H b)->tn i s.heap->J.stop i H->
  wpAny (model P w) X.A (pyNext (.ref it)) (fun r s1=>r=none/\Inv X pins σ H s1) E s
 self:∀(A:Around) (i:Nat) (s:Shared) (Q:Value->Shared->Prop) (E:Value->Shared->Prop),tn i s.heap->Q (.ref it) s->wpAny (model P w) A (pyIter (.ref it)) Q E s
noncomputable abbrev TI:=St->Hp->(It->Hp->Prop)->Prop
noncomputable def PIE (X:Cx)(pins:List (Addr × Obj))(σ:St)(tg:Expr)(R:It->Hp->Prop)(itv:Value)(s2:Shared):Prop:=
 ∃(it:Addr) (fp:List Addr) (tn:Nat->Heap->Prop) (J:It) (H':Hp),itv=.ref it/\Inv X pins σ H' s2/\Turn X.prog X.w X.K tg J fp it tn/\tn 0 s2.heap/\(∀b∈fp,FpOk X pins H' b)/\R J H'
noncomputable def PI (X:Cx)(tg iter:Expr)(wi:TI):Prop:=
 ∀(pins:List (Addr × Obj)) (s:Shared) (σ:St) (H:Hp) (R:It->Hp->Prop),Inv X pins σ H s->wi σ H R->
  wpAny (model X.prog X.w) X.A (eval iter X.env) (fun v s1=>wpAny (model X.prog X.w) X.A (pyIter v) (PIE X pins σ tg R) X.xe s1) X.xe s
theorem zlf {M:Model}{A:Around}{E:Value->Shared->Prop}{s:Shared}{tg:Expr}{it:Addr}{u:Value}{o:Obj}{n:String}{vs:Array Value}{Q:Unit->Shared->Prop}(ho:s.heap.get? it=some o)(hc:o.cls=.type n)(hd:o.data=.fields vs)
  (hn:["enumerate","zip","dict_itemiterator","dict_reverseitemiterator","odict_iterator","itertools.zip_longest","itertools.pairwise"].contains n=false) (hQ:Q () s):wpAny M A (letOwnedTupleGo tg (.ref it) u) Q E s:=by
 unfold letOwnedTupleGo
 cases tg<;>first
  |exact wpAny_pure hQ
  |(cases u<;>first
   |exact wpAny_pure hQ
   | (refine wpAny_bind (wpAny_load ho ?_)
      rw[hc,hd]
      show wpAny M A (if (["enumerate","zip","dict_itemiterator","dict_reverseitemiterator","odict_iterator","itertools.zip_longest","itertools.pairwise"].contains n&&vs[0]? == some (rawInt _))=true then _ else _) Q E s
      rw[if_neg (by intro h;rw[hn,Bool.false_and] at h;cases h)]
      exact wpAny_pure hQ))
noncomputable def Itl (K:PySem.W.Frag)(a:Addr):It:=
 ⟨fun i H=>∃xs x,SqL K H a xs/\xs[i]?=some x,fun i H x H'=>H'=H/\∀xs,SqL K H a xs->xs[i]?=some x,fun i H=>∃xs,SqL K H a xs/\xs.length<=i⟩
noncomputable def Itt (K:PySem.W.Frag)(a:Addr):It:=
 ⟨fun i H=>∃xs x,SqT K H a xs/\xs[i]?=some x,fun i H x H'=>H'=H/\∀xs,SqT K H a xs->xs[i]?=some x,fun i H=>∃xs,SqT K H a xs/\xs.length<=i⟩
noncomputable def Itr (lo:Int)(n:Nat):It:=⟨fun i _=>i<n,fun i H x H'=>H'=H/\x=.int (lo+i),fun i _=>n<=i⟩
theorem zgX {P:Program}{w:World}{K:PySem.W.Frag}{tg:Expr}(a it:Addr):Turn P w K tg (Itl K a) [it] it (fun i h=>h.IsListIter it a i) where
 mem:=by simp
 obj:=fun i h st b hb=>by
  have e:b=it:=by simpa using hb
  subst e
  obtain⟨o,e,c,d⟩:=st
  exact⟨o,e,fun v z=>by rw[d] at z;cases z⟩
 keep:=fun i h h' st k=>st.at fun o e=>k it (by simp) o e
 item:=by
  intro X hP hw hK hc i pins s σ H E I hf st hg
  subst hP hw hK
  obtain⟨xs,x,hq,hx⟩:=hg
  obtain⟨its,rv,p,hz⟩:=I.list hq
  obtain⟨u,hu,ru⟩:=rv.get hx
  obtain⟨f0,f1,f2,f3,f4,f5⟩:=hf it (by simp)
  refine wpAny_pyNext_list_item st p.isList (x:=u) (by simpa using hu) fun h' st' sb=>?_
  have I1:Inv X pins σ H {s with heap:=h'}:=I.turned (t':=s.toks) (fun b o hb e=>(sb.2 b hb).trans e) f0 f1 f3 f4 f5
  obtain⟨o,e,c,d⟩:=id st'
  exact⟨u,rfl,zlf (s:={s with heap:=h'}) e c d (by decide) ⟨x,H,I1,ru,⟨rfl,fun ys hy=>by rw[I.list_inj hy hq];exact hx⟩,st',fun b hb=>(hf b hb).1⟩⟩
 done:=by
  intro X hP hw hK hc i pins s σ H E I hf st hg
  subst hP hw hK
  obtain⟨xs,hq,hx⟩:=hg
  obtain⟨its,rv,p,hz⟩:=I.list hq
  obtain⟨f0,f1,f2,f3,f4,f5⟩:=hf it (by simp)
  have hl:=rv.length
  exact wpAny_pyNext_list_end (I.ok.hd hc) st p.isList (by simp;omega) fun h' eb=>⟨rfl,I.turned (t':=s.toks) (fun b o hb e=>eb b o hb e) f0 f1 f3 f4 f5⟩
 self:=fun _ _ _ _ _ st h=>wpAny_pyIter_listiter st h
theorem zgh {P:Program}{w:World}{K:PySem.W.Frag}{tg:Expr}(a it:Addr):Turn P w K tg (Itt K a) [it] it (fun i h=>h.IsTupleIter it a i) where
 mem:=by simp
 obj:=fun i h st b hb=>by
  have e:b=it:=by simpa using hb
  subst e
  obtain⟨o,e,c,d⟩:=st
  exact⟨o,e,fun v z=>by rw[d] at z;cases z⟩
 keep:=fun i h h' st k=>st.at fun o e=>k it (by simp) o e
 item:=by
  intro X hP hw hK hc i pins s σ H E I hf st hg
  subst hP hw hK
  obtain⟨xs,x,hq,hx⟩:=hg
  obtain⟨its,rv,p,hz⟩:=I.tuple hq
  obtain⟨u,hu,ru⟩:=rv.get hx
  obtain⟨f0,f1,f2,f3,f4,f5⟩:=hf it (by simp)
  refine wpAny_pyNext_tuple_item st (show s.heap.IsTuple a its.toArray from p) (x:=u) (by simpa using hu) fun h' st' sb=>?_
  have I1:Inv X pins σ H {s with heap:=h'}:=I.turned (t':=s.toks) (fun b o hb e=>(sb.2 b hb).trans e) f0 f1 f3 f4 f5
  obtain⟨o,e,c,d⟩:=id st'
  exact⟨u,rfl,zlf (s:={s with heap:=h'}) e c d (by decide) ⟨x,H,I1,ru,⟨rfl,fun ys hy=>by rw[I.tuple_inj hy hq];exact hx⟩,st',fun b hb=>(hf b hb).1⟩⟩
 done:=by
  intro X hP hw hK hc i pins s σ H E I hf st hg
  subst hP hw hK
  obtain⟨xs,hq,hx⟩:=hg
  obtain⟨its,rv,p,hz⟩:=I.tuple hq
  obtain⟨f0,f1,f2,f3,f4,f5⟩:=hf it (by simp)
  have hl:=rv.length
  exact wpAny_pyNext_tuple_end (I.ok.hd hc) st (show s.heap.IsTuple a its.toArray from p) (by simp;omega) fun h' eb=>⟨rfl,I.turned (t':=s.toks) (fun b o hb e=>eb b o hb e) f0 f1 f3 f4 f5⟩
 self:=fun _ _ _ _ _ st h=>wpAny_pyIter_tupleiter st h
theorem zgi {P:Program}{w:World}{K:PySem.W.Frag}{tg:Expr}(it:Addr)(lo:Int)(n:Nat):Turn P w K tg (Itr lo n) [it] it (fun i h=>IsRangeIter h it (lo+(i:Nat) * 1) ((n:Int) - (i:Nat)) 1) where
 mem:=by simp
 obj:=fun i h st b hb=>by
  have e:b=it:=by simpa using hb
  subst e
  exact⟨_,st,fun v z=>by
   have z':Data.fields _=Data.cell v:=z
   cases z'⟩
 keep:=fun i h h' st k=>k it (by simp) _ st
 item:=by
  intro X hP hw hK hc i pins s σ H E I hf st hg
  subst hP hw hK
  obtain⟨f0,f1,f2,f3,f4,f5⟩:=hf it (by simp)
  have W:=Walks.range (prog:=X.prog) (w:=X.w) (I.ok.hd hc) it lo 1 n
  refine W.item i s _ _ hg st fun v h' tk hv st' kk=>?_
  obtain⟨t,rfl⟩:=hv
  have I1:Inv X pins σ H {s with heap:=h',toks:=tk}:=I.turned (fun b o hb e=>kk b o (by simpa using hb) e) f0 f1 f3 f4 f5
  refine⟨_,rfl,zlf (s:={s with heap:=h',toks:=tk}) (n:="range_iterator") st' rfl rfl (by decide) ⟨.int (lo+i),H,I1,⟨t,?_⟩,⟨rfl,rfl⟩,st',fun b hb=>(hf b hb).1⟩⟩
  rw[Int.mul_one]
 done:=by
  intro X hP hw hK hc i pins s σ H E I hf st hg
  subst hP hw hK
  obtain⟨f0,f1,f2,f3,f4,f5⟩:=hf it (by simp)
  exact wpAny_pyNext_range_end (I.ok.hd hc) st (by have:n<=i:=hg;omega) fun h' eb=>⟨rfl,I.turned (t':=s.toks) (fun b o hb e=>eb b o hb e) f0 f1 f3 f4 f5⟩
 self:=fun _ _ _ _ _ st h=>wpAny_pyIter_rangeiter st h
end L2
namespace L2
open PySem PySem.Spec PyProof.Rows
section
variable {X:Cx} {tg:Expr}
theorem zfO {pins:List (Addr × Obj)}{σ:St}{H:Hp}{s:Shared}{R:It->Hp->Prop}{E:Value->Shared->Prop}{lo hi:Int}{t u v:Tok}{tk:Nat}(I:Inv X pins σ H s)(h1:-(2 ^ 62)<=lo)(h2:lo<2 ^ 62)(h3:-(2 ^ 62)<=hi)(h4:hi<2 ^ 62)
  (q:R (Itr lo (hi - lo).toNat) H):wpAny (model X.prog X.w) X.A (pyIter (.ref s.heap.objs.size)) (PIE X pins σ tg R) E {s with heap:=s.heap.push {cls:=.type "range",data:=.fields #[.int lo t,.int hi u,.int 1 v]},toks:=tk}:=by
 refine wpAny_pyIter_range (IsRange.new ..) (small_one h1 h2 h3 h4) ?_
 have I1:Inv X pins σ H {s with heap:=s.heap.push {cls:=.type "range",data:=.fields #[.int lo t,.int hi u,.int 1 v]},toks:=tk}:=I.kept fun b o e=>Heap.get?_push_of_some _ e
 refine⟨(s.heap.push {cls:=.type "range",data:=.fields #[.int lo t,.int hi u,.int 1 v]}).objs.size,[(s.heap.push {cls:=.type "range",data:=.fields #[.int lo t,.int hi u,.int 1 v]}).objs.size],_,_,H,rfl,
  I1.kept (t':=tk) fun b o e=>Heap.get?_push_of_some _ e,zgi _ lo (hi - lo).toNat,?_,fun b hb=>?_,q⟩
 · have e1:lo+((0:Nat):Int) * 1=lo:=by simp
   have e2:(((hi - lo).toNat:Nat):Int) - ((0:Nat):Int)=Builtin.Range.rangeSize lo hi 1:=by rw[rangeSize_one];split<;>omega
   show IsRangeIter _ _ (lo+((0:Nat):Int) * 1) ((((hi - lo).toNat:Nat):Int) - ((0:Nat):Int)) 1
   rw[e1,e2]
   exact Heap.get?_push_size _ rfl
 · have e:b=(s.heap.push {cls:=.type "range",data:=.fields #[.int lo t,.int hi u,.int 1 v]}).objs.size:=by simpa using hb
   subst e
   exact I1.fpOk (Nat.le_refl _) (I1.hok.fresh (Nat.le_refl _))
noncomputable def zor (ta:TA):TI:=fun σ H R=>ta σ H fun vs H1=>∃j:Int,vs=[.int j]/\-(2 ^ 62)<=j/\j<2 ^ 62/\R (Itr 0 j.toNat) H1
noncomputable def zoq (ta:TA):TI:=fun σ H R=>ta σ H fun vs H1=>∃i j:Int,vs=[.int i,.int j]/\(-(2 ^ 62)<=i/\i<2 ^ 62/\-(2 ^ 62)<=j/\j<2 ^ 62)/\R (Itr i (j - i).toNat) H1
theorem zho {a:Expr}{ta:TA}{p pos:Pos}(hg:Gl X "range")(hm:X.mg "range"=none)(ha:PA X [a] ta)(hs:starEach [a] X.env=[(false,eval a X.env)]:=by rfl):PI X tg (.Call (.Name "range" p) [a] [] pos) (zor ta):=by
 intro pins s σ H R I h
 refine Call_ (zdw I hg hm boot_range (PyProof.Rows.callWith_type1 (thn (ha pos pins s σ H _ I h) fun us s1 ⟨vs,H1,I1,r1,q1⟩=>?_) hs rfl))
 obtain⟨j,e,q1,q2,q⟩:=q1
 subst e
 cases r1 with
 | cons r rr =>
   cases rr
   obtain⟨t,rfl⟩:=r
   exact call_range_1 (zfO I1 (by omega) (by omega) q1 q2 (by simpa using q))
theorem zhn {a b:Expr}{ta:TA}{p pos:Pos}(hg:Gl X "range")(hm:X.mg "range"=none)(ha:PA X [a,b] ta)(hs:starEach [a,b] X.env=[(false,eval a X.env),(false,eval b X.env)]:=by rfl)(hs2:starEach [b] X.env=[(false,eval b X.env)]:=by rfl) :
  PI X tg (.Call (.Name "range" p) [a,b] [] pos) (zoq ta):=by
 intro pins s σ H R I h
 refine Call_ (zdw I hg hm boot_range (PyProof.Rows.callWith_type1 (thn (ha pos pins s σ H _ I h) fun us s1 ⟨vs,H1,I1,r1,q1⟩=>?_) (by rw[hs,hs2]) (by rw[hs2];rfl)))
 obtain⟨i,j,e,⟨q1,q2,q3,q4⟩,q⟩:=q1
 subst e
 cases r1 with
 | cons r rr =>
   cases rr with
   | cons r' rr =>
     cases rr
     obtain⟨t,rfl⟩:=r
     obtain⟨t',rfl⟩:=r'
     exact call_range_2 (zfO I1 q1 q2 q3 q4 q)
noncomputable def tFor (wi:TI)(g:TG)(tb:TS):TS:=fun D σ H=>wi σ H fun J H1=>∃W:Nat->Nat->St->Hp->Prop,(∃m,W 0 m σ H1)/\∀i m σ H,W i m σ H->
 (J.stop i H/\D.nx σ H)\/(J.go i H/\∃N:St->Hp->Prop,(∀σ' H',N σ' H'->∃m',m'<m/\W (i+1) m' σ' H')/\∀x H',J.yld i H x H'->g x σ H' fun σ2 H2=>tb {D with nx:=N,ct:=N,bk:=D.nx} σ2 H2)
noncomputable def zeA (fp:List Addr)(h:Heap):List (Addr × Obj):=fp.filterMap fun b=>(h.get? b).map fun o=>(b,o)
theorem zbQ {fp:List Addr}{h:Heap}{b:Addr}{o:Obj}(hb:b∈fp)(e:h.get? b=some o):(b,o)∈zeA fp h:=List.mem_filterMap.mpr ⟨b,hb,by rw[e];rfl⟩
theorem zht {fp:List Addr}{h:Heap}{p:Addr × Obj}(hp:p∈zeA fp h):p.1∈fp/\h.get? p.1=some p.2:=by
 obtain⟨b,hb,e⟩:=List.mem_filterMap.mp hp
 cases q:h.get? b with
 |none=>rw[q] at e;cases e
 | some o =>
   rw[q] at e
   have e':(b,o)=p:=Option.some.inj e
   subst e'
   exact⟨hb,q⟩
theorem Inv.pinned {pins:List (Addr × Obj)}{σ:St}{H:Hp}{s:Shared}{fp:List Addr}(I:Inv X pins σ H s)(hf:∀b∈fp,FpOk X pins H b)(ho:∀b∈fp,∃o,s.heap.get? b=some o/\∀v,o.data≠.cell v):Inv X (pins++zeA fp s.heap) σ H s:=
 I.pins_of fun p hp=>(List.mem_append.mp hp).elim (fun z=>I.pin p (List.mem_append_right _ z)) fun z=>by
  obtain⟨hb,e⟩:=zht z
  obtain⟨f0,f1,f2,_⟩:=hf p.1 hb
  obtain⟨o,e',d⟩:=ho p.1 hb
  rw[e] at e';cases e'
  exact⟨e,f0,f1,f2,d⟩
theorem Inv.unpinned {pins pl:List (Addr × Obj)}{σ:St}{H:Hp}{s:Shared}(I:Inv X (pins++pl) σ H s):Inv X pins σ H s:=I.pins_of fun p hp=>I.pin p (List.mem_append_right _ (List.mem_append_left _ hp))
theorem zmv {iter:Expr}{body:List Stmt}{wi:TI}{g:TG}{tb:TS}{pos:Pos}(hp:PassesOwn (model X.prog X.w) X.A X.env X.xe)(hc:X.calm=true)(hi:PI X tg iter wi)(hg:PG X tg g)(hb:PSs X body tb)
  (hs:∀x,foldedSetIterable iter X.env x=pure x:=by intro _;rfl):PS X (.For tg iter body [] pos) (tFor wi g tb):=by
 intro pins s σ H D I h
 refine wpAny_For (thn (hi pins s σ H _ I h) fun v s1 h1=>thn h1 fun itv s2 h2=>?_) hs
 obtain⟨it,fp,tn,J,H2,e,I2,T,st2,f2,W,⟨m0,w0⟩,turn⟩:=h2
 subst e
 -- what stays true of the iterator's objects through the loop
 have stat:∀{H':Hp},(∀b∈fp,H' b=none)->∀b∈fp,FpOk X pins H' b:=fun hn b hb=>⟨hn b hb,(f2 b hb).2⟩
 refine codeAny_forLoop_any (fun n s'=>∃i σ' H',Inv X pins σ' H' s'/\tn i s'.heap/\(∀b∈fp,H' b=none)/\W i n σ' H') ?_ m0 ⟨0,σ,H2,I2,st2,fun b hb=>(f2 b hb).1,w0⟩
 rintro n s3 ⟨i,σ3,H3,I3,st3,fr3,w3⟩
 rcases turn i n σ3 H3 w3 with ⟨stop,qn⟩|⟨go,N,hN,step⟩
 · refine wpAny_passesOwn hp (thn (T.done X rfl rfl rfl hc i pins s3 σ3 H3 X.xe I3 (stat fr3) st3 stop) fun r s4 ⟨hr,I4⟩=>?_)
   subst hr
   exact wpAny_execs_nil ⟨σ3,H3,I4,qn⟩
 · refine wpAny_passesOwn hp (thn (T.item X rfl rfl rfl hc i pins s3 σ3 H3 X.xe I3 (stat fr3) st3 go) fun r s4 ⟨u,hr,h4⟩=>?_)
   subst hr
   refine wpAny_passesOwn hp (thn h4 fun _ s5 ⟨x,H5,I5,r5,y5,st5,fr5⟩=>?_)
   have I5':=I5.pinned (stat fr5) (T.obj _ _ st5)
   refine wpAny_passesOwn hp (thn (hg _ s5 σ3 H5 x u _ I5' r5 (step x H5 y5)) fun _ s6 ⟨σ6,H6,I6,q6⟩=>?_)
   refine wpAny_passesOwn hp (thn (hb _ s6 σ6 H6 _ I6 q6) fun f s7 q7=>?_)
   have again:∀{σ7:St} {H7:Hp},Inv X (pins++zeA fp s5.heap) σ7 H7 s7->N σ7 H7->∃m,m<n/\∃i σ' H',Inv X pins σ' H' s7/\tn i s7.heap/\(∀b∈fp,H' b=none)/\W i m σ' H':=fun {σ7 H7} I7 n7=>by
    obtain⟨m',hm,w7⟩:=hN σ7 H7 n7
    refine⟨m',hm,i+1,σ7,H7,I7.unpinned,T.keep _ _ _ st5 fun b hb o e=>(I7.pin (b,o) (List.mem_append_right _ (List.mem_append_right _ (zbQ hb e)))).1,fun b hb=>?_,w7⟩
    obtain⟨o,e,d⟩:=T.obj _ _ st5 b hb
    exact (I7.pin (b,o) (List.mem_append_right _ (List.mem_append_right _ (zbQ hb e)))).2.1
   cases f with
   |next=>obtain⟨σ7,H7,I7,n7⟩:=q7;exact again I7 n7
   |cont=>obtain⟨σ7,H7,I7,n7⟩:=q7;exact again I7 n7
   |brk=>obtain⟨σ7,H7,I7,q7⟩:=q7;exact⟨σ7,H7,I7.unpinned,q7⟩
   |ret v=>obtain⟨x7,σ7,H7,I7,r7,q7⟩:=q7;exact⟨x7,σ7,H7,I7.unpinned,r7,q7⟩
end
end L2
namespace L2
open PySem PySem.Spec PyProof.Rows
noncomputable abbrev R2:=V->V->Hp->VK->Prop
noncomputable def OpR (X:Cx)(f:Value->Value->Sem Value)(r:R2):Prop:=
 ∀(pins:List (Addr × Obj)) (s:Shared) (σ:St) (H:Hp) (x y:V) (v u:Value) (Q:VK),Inv X pins σ H s->RelV x v->RelV y u->r x y H Q->
  wpAny (model X.prog X.w) X.A (f v u) (EP X pins σ Q) X.xe s
noncomputable def UnR (X:Cx)(f:Value->Sem Value)(r:V->Hp->VK->Prop):Prop:=
 ∀(pins:List (Addr × Obj)) (s:Shared) (σ:St) (H:Hp) (x:V) (v:Value) (Q:VK),Inv X pins σ H s->RelV x v->r x H Q->
  wpAny (model X.prog X.w) X.A (f v) (EP X pins σ Q) X.xe s
noncomputable def zbb (X:Cx)(f:Value)(r:List V->Hp->VK->Prop):Prop:=
 ∀(pins:List (Addr × Obj)) (s:Shared) (σ:St) (H:Hp) (xs:List V) (us:List Value) (Q:VK),Inv X pins σ H s->Vals xs us->r xs H Q->
  wpAny (model X.prog X.w) X.A (call f us) (EP X pins σ Q) X.xe s
noncomputable def TruR (X:Cx)(r:V->Hp->(Bool->Hp->Prop)->Prop):Prop:=
 ∀(pins:List (Addr × Obj)) (s:Shared) (σ:St) (H:Hp) (x:V) (v:Value) (Q:Bool->Hp->Prop),Inv X pins σ H s->RelV x v->r x H Q->
  wpAny (model X.prog X.w) X.A (truthy v) (TP X pins σ Q) X.xe s
noncomputable def tOp (r:R2)(ta tb:TE):TE:=fun σ H Q=>ta σ H fun x H1=>tb σ H1 fun y H2=>r x y H2 Q
noncomputable def tUn (r:V->Hp->VK->Prop)(ta:TE):TE:=fun σ H Q=>ta σ H fun x H1=>r x H1 Q
noncomputable def rI (C:Int->Int->Prop)(g:Int->Int->V):R2:=fun x y H Q=>∃i j,x=.int i/\y=.int j/\C i j/\Q (g i j) H
noncomputable def rI0 (g:Int->Int->V):R2:=fun x y H Q=>∃i j,x=.int i/\y=.int j/\Q (g i j) H
noncomputable def rU (g:Int->V):V->Hp->VK->Prop:=fun x H Q=>∃i,x=.int i/\Q (g i) H
section
variable {X:Cx} {a b c:Expr} {ta tb tc:TE} {pos:Pos}
theorem binT (ha:PE X a ta)(hb:PE X b tb){pins:List (Addr × Obj)}{s:Shared}{σ:St}{H:Hp}{R:V->V->Hp->Prop}(I:Inv X pins σ H s)
  (h:ta σ H fun x H1=>tb σ H1 fun y H2=>R x y H2) {Q:Value->Shared->Prop} {f:Value->Value->Sem Value}
  (hf:∀v u s2 x y H2,Inv X pins σ H2 s2->RelV x v->RelV y u->R x y H2->wpAny (model X.prog X.w) X.A (f v u) Q X.xe s2) :
  wpAny (model X.prog X.w) X.A (eval a X.env) (fun v s₁=>wpAny (model X.prog X.w) X.A (eval b X.env) (fun u s₂=>wpAny (model X.prog X.w) X.A (f v u) Q X.xe s₂) X.xe s₁) X.xe s:=by
 refine thn (ha pins s σ H _ I h) fun v s1 ⟨x,H1,I1,r1,q1⟩=>?_
 refine thn (hb pins s1 σ H1 _ I1 q1) fun u s2 ⟨y,H2,I2,r2,q2⟩=>?_
 exact hf v u s2 x y H2 I2 r1 r2 q2
theorem zoa {op:Operator}{r:R2}(ho:OpR X (binaryOp op) r)(ha:PE X a ta)(hb:PE X b tb):PE X (.BinOp a op b pos) (tOp r ta tb):=by
 intro pins s σ H Q I h
 exact wpAny_BinOp (binT ha hb I h fun v u s2 x y H2 I2 rx ry q=>ho pins s2 σ H2 x y v u Q I2 rx ry q)
theorem zn8 {op:UnaryOp}{r:V->Hp->VK->Prop}(ho:UnR X (unaryOp op) r)(ha:PE X a ta):PE X (.UnaryOp op a pos) (tUn r ta):=by
 intro pins s σ H Q I h
 exact UnaryOp_ (thn (ha pins s σ H _ I h) fun v s1 ⟨x,H1,I1,r1,q1⟩=>ho pins s1 σ H1 x v Q I1 r1 q1)
theorem opI {f:Value->Value->Sem Value}{C:Int->Int->Prop}{g:Int->Int->Int}
  (rule:∀(i j:Int) (t u:Tok) (s:Shared) (Q:Value->Shared->Prop) (E:Value->Shared->Prop),C i j->Q (.int (g i j) s.toks) {s with toks:=s.toks+1}->wpAny (model X.prog X.w) X.A (f (.int i t) (.int j u)) Q E s) :
  OpR X f (rI C fun i j=>.int (g i j)):=by
 intro pins s σ H x y v u Q I rx ry h
 obtain⟨i,j,rfl,rfl,hc,q⟩:=h
 obtain⟨t,rfl⟩:=rx
 obtain⟨t',rfl⟩:=ry
 exact rule i j t t' s _ _ hc ⟨.int (g i j),H,I.tok _,⟨_,rfl⟩,q⟩
theorem opI0 {f:Value->Value->Sem Value}{g:Int->Int->Int}
  (rule:∀(i j:Int) (t u:Tok) (s:Shared) (Q:Value->Shared->Prop) (E:Value->Shared->Prop),Q (.int (g i j) s.toks) {s with toks:=s.toks+1}->wpAny (model X.prog X.w) X.A (f (.int i t) (.int j u)) Q E s) :
  OpR X f (rI0 fun i j=>.int (g i j)):=by
 intro pins s σ H x y v u Q I rx ry h
 obtain⟨i,j,rfl,rfl,q⟩:=h
 obtain⟨t,rfl⟩:=rx
 obtain⟨t',rfl⟩:=ry
 exact rule i j t t' s _ _ ⟨.int (g i j),H,I.tok _,⟨_,rfl⟩,q⟩
theorem opB0 {f:Value->Value->Sem Value}{g:Int->Int->Bool}
  (rule:∀(i j:Int) (t u:Tok) (s:Shared) (Q:Value->Shared->Prop) (E:Value->Shared->Prop),Q (.bool (g i j)) s->wpAny (model X.prog X.w) X.A (f (.int i t) (.int j u)) Q E s) :
  OpR X f (rI0 fun i j=>.bl (g i j)):=by
 intro pins s σ H x y v u Q I rx ry h
 obtain⟨i,j,rfl,rfl,q⟩:=h
 obtain⟨t,rfl⟩:=rx
 obtain⟨t',rfl⟩:=ry
 exact rule i j t t' s _ _ ⟨.bl (g i j),H,I,rfl,q⟩
noncomputable def CDiv (i j:Int):Prop:=0<j/\j<1073741824
noncomputable def CPow (i j:Int):Prop:=0<=j/\j<=1000000/\i.natAbs<2 ^ 64
noncomputable def CMul (i j:Int):Prop:=(-(2 ^ 64)<i/\i<2 ^ 64)\/(-(2 ^ 64)<j/\j<2 ^ 64)
theorem CMul.ok {i j:Int}(h:CMul i j):IntMulOk i j:=by
 rcases h with ⟨h1,h2⟩|⟨h1,h2⟩
 · exact .of_left (intBits_le_64 h1 h2)
 · exact .of_right (intBits_le_64 h1 h2)
theorem zmW:OpR X (binaryOp .Add) (rI0 fun i j=>.int (i+j)):=opI0 fun _ _ _ _ _ _ _ q=>add_int q
theorem zmN:OpR X (binaryOp .Sub) (rI0 fun i j=>.int (i - j)):=opI0 fun _ _ _ _ _ _ _ q=>sub_int q
theorem zmQ:OpR X (binaryOp .Mult) (rI CMul fun i j=>.int (i * j)):=opI fun _ _ _ _ _ _ _ hc q=>mul_int q hc.ok
theorem zkT:OpR X (binaryOp .FloorDiv) (rI CDiv fun i j=>.int (i / j)):=opI fun i j _ _ _ _ _ hc q=>by
 have h1:(0:Int)<j:=hc.1
 have h2:j<1073741824:=hc.2
 exact floordiv_int (by omega) (by rw[Int.fdiv_eq_ediv_of_nonneg i (by omega)];exact q) (.inl (PyProof.noPylong_small (by omega)))
theorem zmR:OpR X (binaryOp .Mod) (rI (fun _ j=>0<j) fun i j=>.int (i % j)):=opI fun i j _ _ _ _ _ hc q=>by
 have h1:(0:Int)<j:=hc
 exact mod_int' (by omega) (by rw[Int.fmod_eq_emod_of_nonneg i (by omega)];exact q)
theorem zmO:OpR X (binaryOp .Pow) (rI CPow fun i j=>.int (i ^ j.toNat)):=opI fun _ _ _ _ _ _ _ hc q=>pow_int_small hc.1 hc.2.1 hc.2.2 q
theorem unI {f:Value->Sem Value}{g:Int->Int}
  (rule:∀(i:Int) (t:Tok) (s:Shared) (Q:Value->Shared->Prop) (E:Value->Shared->Prop),Q (.int (g i) s.toks) {s with toks:=s.toks+1}->wpAny (model X.prog X.w) X.A (f (.int i t)) Q E s) :
  UnR X f (rU fun i=>.int (g i)):=by
 intro pins s σ H x v Q I rx h
 obtain⟨i,rfl,q⟩:=h
 obtain⟨t,rfl⟩:=rx
 exact rule i t s _ _ ⟨.int (g i),H,I.tok _,⟨_,rfl⟩,q⟩
theorem zlG:UnR X (unaryOp .USub) (rU fun i=>.int (-i)):=unI fun _ _ _ _ _ q=>neg_int q
end
noncomputable def scal:V->V->Bool
 |.non,.non=>true|.non,.int _=>true|.int _,.non=>true|.non,.bl _=>true|.bl _,.non=>true|.non,.str _=>true|.str _,.non=>true
 |.int _,.int _=>true|.bl _,.bl _=>true|.str _,.str _=>true|.byt _,.byt _=>true
 |.int _,.str _=>true|.str _,.int _=>true|.bl _,.str _=>true|.str _,.bl _=>true
 |_,_=>false
noncomputable def rEq:R2:=fun x y H Q=>scal x y=true/\Q (.bl (decide (x=y))) H
noncomputable def rNe:R2:=fun x y H Q=>scal x y=true/\Q (.bl (!decide (x=y))) H
theorem zia {i j:Int}:decide (V.int i=V.int j)=(i == j):=by
 rw[Bool.eq_iff_iff]
 simp
theorem zjT {i j:Bool}:decide (V.bl i=V.bl j)=(i == j):=by
 rw[Bool.eq_iff_iff]
 simp
theorem zh9 {i j:Str}:decide (V.str i=V.str j)=(i == j):=by
 rw[Bool.eq_iff_iff]
 simp
theorem zib {i j:Array UInt8}:decide (V.byt i=V.byt j)=(i.toList == j.toList):=by
 rw[Bool.eq_iff_iff]
 cases i
 cases j
 simp
section
variable {X:Cx} {a b c:Expr} {ta tb tc:TE} {pos:Pos}
theorem zan {pins:List (Addr × Obj)}{σ:St}{H:Hp}{s:Shared}{Q:VK}{k k':Bool}(I:Inv X pins σ H s)(q:Q (.bl k) H)(e:k=k'):EP X pins σ Q (.bool k') s:=by
 subst e
 exact⟨.bl k,H,I,rfl,q⟩
theorem zoj:OpR X (compareOp .Eq) rEq:=by
 intro pins s σ H x y v u Q I rx ry h
 obtain⟨hs,q⟩:=h
 cases x with
 | non =>
   cases rx
   cases y with
   |non=>cases ry;exact PySem.EqNone.eq_none_none (zan I q (by simp))
   |bl j=>cases ry;exact PySem.EqNone.eq_none_bool (zan I q (by simp))
   |int j=>obtain⟨t',rfl⟩:=ry;exact PySem.EqNone.eq_none_int (zan I q (by simp))
   |str j=>obtain⟨t',rfl⟩:=ry;exact PySem.EqNone.eq_none_str (zan I q (by simp))
   |_=>exact absurd (show false=true from hs) Bool.false_ne_true
 | bl i =>
   cases rx
   cases y with
   |non=>cases ry;exact PySem.EqNone.eq_bool_none (zan I q (by simp))
   |bl j=>cases ry;exact eq_bool (zan I q zjT)
   |str j=>obtain⟨t',rfl⟩:=ry;exact PySem.EqMixed.eq_bool_str (zan I q (by simp))
   |_=>exact absurd (show false=true from hs) Bool.false_ne_true
 | int i =>
   obtain⟨t,rfl⟩:=rx
   cases y with
   |non=>cases ry;exact PySem.EqNone.eq_int_none (zan I q (by simp))
   |int j=>obtain⟨t',rfl⟩:=ry;exact eq_int (zan I q zia)
   |str j=>obtain⟨t',rfl⟩:=ry;exact PySem.EqMixed.eq_int_str (zan I q (by simp))
   |_=>exact absurd (show false=true from hs) Bool.false_ne_true
 | str i =>
   obtain⟨t,rfl⟩:=rx
   cases y with
   |non=>cases ry;exact PySem.EqNone.eq_str_none (zan I q (by simp))
   |bl j=>cases ry;exact PySem.EqMixed.eq_str_bool (zan I q (by simp))
   |int j=>obtain⟨t',rfl⟩:=ry;exact PySem.EqMixed.eq_str_int (zan I q (by simp))
   |str j=>obtain⟨t',rfl⟩:=ry;exact eq_str (zan I q zh9)
   |_=>exact absurd (show false=true from hs) Bool.false_ne_true
 | byt i =>
   obtain⟨t,rfl⟩:=rx
   cases y with
   |byt j=>obtain⟨t',rfl⟩:=ry;exact PySem.W.eq_bytes (zan I q zib)
   |_=>exact absurd (show false=true from hs) Bool.false_ne_true
 |_=>cases y<;>exact absurd (show false=true from hs) Bool.false_ne_true
theorem zoe:OpR X (compareOp .NotEq) rNe:=by
 intro pins s σ H x y v u Q I rx ry h
 obtain⟨hs,q⟩:=h
 cases x with
 | non =>
   cases rx
   cases y with
   |non=>cases ry;exact PySem.EqNone.ne_none_none (zan I q (by simp))
   |bl j=>cases ry;exact PySem.EqNone.ne_none_bool (zan I q (by simp))
   |int j=>obtain⟨t',rfl⟩:=ry;exact PySem.EqNone.ne_none_int (zan I q (by simp))
   |str j=>obtain⟨t',rfl⟩:=ry;exact PySem.EqNone.ne_none_str (zan I q (by simp))
   |_=>exact absurd (show false=true from hs) Bool.false_ne_true
 | bl i =>
   cases rx
   cases y with
   |non=>cases ry;exact PySem.EqNone.ne_bool_none (zan I q (by simp))
   |bl j=>cases ry;exact ne_bool (zan I q (congrArg not zjT))
   |str j=>obtain⟨t',rfl⟩:=ry;exact PySem.EqMixed.ne_bool_str (zan I q (by simp))
   |_=>exact absurd (show false=true from hs) Bool.false_ne_true
 | int i =>
   obtain⟨t,rfl⟩:=rx
   cases y with
   |non=>cases ry;exact PySem.EqNone.ne_int_none (zan I q (by simp))
   |int j=>obtain⟨t',rfl⟩:=ry;exact ne_int (zan I q (congrArg not zia))
   |str j=>obtain⟨t',rfl⟩:=ry;exact PySem.EqMixed.ne_int_str (zan I q (by simp))
   |_=>exact absurd (show false=true from hs) Bool.false_ne_true
 | str i =>
   obtain⟨t,rfl⟩:=rx
   cases y with
   |non=>cases ry;exact PySem.EqNone.ne_str_none (zan I q (by simp))
   |bl j=>cases ry;exact PySem.EqMixed.ne_str_bool (zan I q (by simp))
   |int j=>obtain⟨t',rfl⟩:=ry;exact PySem.EqMixed.ne_str_int (zan I q (by simp))
   |str j=>obtain⟨t',rfl⟩:=ry;exact ne_str (zan I q (congrArg not zh9))
   |_=>exact absurd (show false=true from hs) Bool.false_ne_true
 | byt i =>
   obtain⟨t,rfl⟩:=rx
   cases y with
   |byt j=>obtain⟨t',rfl⟩:=ry;exact PySem.W.ne_bytes (zan I q (congrArg not zib))
   |_=>exact absurd (show false=true from hs) Bool.false_ne_true
 |_=>cases y<;>exact absurd (show false=true from hs) Bool.false_ne_true
theorem zof:OpR X (compareOp .Lt) (rI0 fun i j=>.bl (decide (i<j))):=opB0 fun _ _ _ _ _ _ _ q=>lt_int q
theorem zog:OpR X (compareOp .LtE) (rI0 fun i j=>.bl (decide (i<=j))):=opB0 fun _ _ _ _ _ _ _ q=>le_int q
theorem zoh:OpR X (compareOp .Gt) (rI0 fun i j=>.bl (decide (j<i))):=opB0 fun _ _ _ _ _ _ _ q=>gt_int q
theorem zoi:OpR X (compareOp .GtE) (rI0 fun i j=>.bl (decide (j<=i))):=opB0 fun _ _ _ _ _ _ _ q=>ge_int q
theorem zkP {op:CmpOp}{r:R2}(ho:OpR X (compareOp op) r)(ha:PE X a ta)(hb:PE X b tb)(hm:behindInMarks op b=false):PE X (.Compare a [op] [b] pos) (tOp r ta tb):=by
 intro pins s σ H Q I h
 exact wpAny_Compare1 (binT ha hb I h fun v u s2 x y H2 I2 rx ry q=>ho pins s2 σ H2 x y v u Q I2 rx ry q) hm
noncomputable def znQ (t:TE):TT:=fun σ H Q=>t σ H fun x H'=>∃k,x=.bl k/\Q k H'
theorem zkF {op:CmpOp}{r:R2}(ho:OpR X (compareOp op) r)(ha:PE X a ta)(hb:PE X b tb)(hm:behindInMarks op b=false):PT X (.Compare a [op] [b] pos) (znQ (tOp r ta tb)):=by
 intro pins s σ H Q I h
 refine wpAny_isTrue_Compare1 (thn (ha pins s σ H _ I h) fun v s1 ⟨x,H1,I1,r1,q1⟩=>thn (hb pins s1 σ H1 _ I1 q1) fun u s2 ⟨y,H2,I2,r2,q2⟩=>
  thn (ho pins s2 σ H2 x y v u _ I2 r1 r2 q2) fun c s3 ⟨z,H3,I3,r3,k,e,q3⟩=>?_) hm
 subst e
 cases r3
 exact wpAny_truthy_bool ⟨H3,I3,q3⟩
noncomputable def TruV (K:PySem.W.Frag)(x:V)(H:Hp)(k:Bool):Prop:=
 match x with
 |.non=>k=false
 |.bl b=>k=b
 |.int i=>k=(i != 0)
 |.str y=>y.length<=sizeLine/\k=((y.length:Int) != 0)
 |.byt y=>y.size<=sizeLine/\k=((y.size:Int) != 0)
 |.ref p=>(∃xs,SqL K H p xs/\k = !xs.isEmpty)\/(∃xs,SqT K H p xs/\k = !xs.isEmpty)\/∃kvs,H p=some (.dK kvs)/\k = !kvs.isEmpty
 |_=>False
theorem zgA {κ:Type}{kvs:List (κ × V)}{vs:List (κ × Value)}(r:KV kvs vs):(!vs.isEmpty) = !kvs.isEmpty:=by
 cases r<;>rfl
theorem zdz {xs:List V}{its:List Value}(r:Vals xs its):(!its.toArray.isEmpty) = !xs.isEmpty:=by
 cases r<;>simp
theorem zeD:(sizeLine:Nat)<2 ^ 63:=by rw[sizeLine_eq];decide
theorem zlJ:TruR X (fun x H Q=>∃k,TruV X.K x H k/\Q k H):=by
 intro pins s σ H x v Q I rx h
 obtain⟨k,e,q⟩:=h
 have hl:=zeD
 have hs:sizeLine=16777216:=sizeLine_eq
 cases x with
 | non =>
   cases rx
   have e':k=false:=e
   subst e'
   exact truthy_none ⟨H,I,q⟩
 | bl b =>
   cases rx
   have e':k=b:=e
   subst e'
   exact wpAny_truthy_bool ⟨H,I,q⟩
 | int i =>
   obtain⟨t,rfl⟩:=rx
   have e':k=(i != 0):=e
   subst e'
   exact PySem.P.truthy_int ⟨H,I,q⟩
 | str y =>
   obtain⟨t,rfl⟩:=rx
   obtain⟨hy,e'⟩:y.length<=sizeLine/\k=((y.length:Int) != 0):=e
   subst e'
   exact PySem.P.truthy_str (by omega) ⟨H,I.tok _,q⟩
 | byt y =>
   obtain⟨t,rfl⟩:=rx
   obtain⟨hy,e'⟩:y.size<=sizeLine/\k=((y.size:Int) != 0):=e
   subst e'
   exact PySem.W.truthy_bytes (by omega) ⟨H,I.tok _,q⟩
 | ref p =>
   cases rx
   have e':(∃xs,SqL X.K H p xs/\k = !xs.isEmpty)\/(∃xs,SqT X.K H p xs/\k = !xs.isEmpty)\/∃kvs,H p=some (.dK kvs)/\k = !kvs.isEmpty:=e
   rcases e' with ⟨xs,hx,e'⟩|⟨xs,hx,e'⟩|⟨kvs,hx,e'⟩
   · subst e'
     obtain⟨its,r,pl,hz⟩:=I.list hx
     have hlen:=r.length
     exact wpAny_truthy_list pl.isList (by simp only[List.size_toArray];omega) ⟨H,I.tok _,by rw[zdz r];exact q⟩
   · subst e'
     obtain⟨its,r,pl,hz⟩:=I.tuple hx
     have hlen:=r.length
     exact truthy_tuple pl (by simp only[List.size_toArray];omega) ⟨H,I.tok _,by rw[zdz r];exact q⟩
   · subst e'
     obtain⟨hz,hS,vs,r,m⟩:kvs.length<=sizeLine/\(p == sysModules)=false/\∃vs,KV kvs vs/\s.heap.DictOf (zap X.prog X.w) p vs:=I.hok p _ hx
     have hlen:kvs.length=vs.length:=Paired.length r
     exact wpAny_truthy_dict hS m (by omega) ⟨H,I.tok _,by rw[zgA r];exact q⟩
 |_=>exact (show False from e).elim
theorem ziR (ha:PE X a ta)(he:∀whole,isTrue a X.env whole=(do let v <-whole;standAt a.pos;holding [v] (truthy v))) :
  PT X a (fun σ H Q=>ta σ H fun x H'=>∃k,TruV X.K x H' k/\Q k H'):=by
 intro pins s σ H Q I h
 exact isTrue_plain (thn (ha pins s σ H _ I h) fun v s1 ⟨x,H1,I1,r1,q1⟩=>zlJ pins s1 σ H1 x v Q I1 r1 q1) (he _)
theorem zgV {x:V}{us:List Value}(r:Vals [x] us):∃u,us=[u]/\RelV x u:=by
 cases r with
 |cons r1 r2=>cases r2;exact⟨_,rfl,r1⟩
theorem ziw {x y:V}{us:List Value}(r:Vals [x,y] us):∃u w',us=[u,w']/\RelV x u/\RelV y w':=by
 cases r with
 | cons r1 r2 =>
   cases r2 with
   |cons r3 r4=>cases r4;exact⟨_,_,rfl,r1,r3⟩
theorem zjF:zbb X (.builtin "abs") (fun xs H Q=>∃i,xs=[.int i]/\Q (.int (if i<0 then -i else i)) H):=by
 intro pins s σ H xs us Q I r h
 obtain⟨i,rfl,q⟩:=h
 obtain⟨u,rfl,t,rfl⟩:=zgV r
 exact call_abs_int fun u tk=>⟨.int (if i<0 then -i else i),H,I.tok _,⟨_,rfl⟩,q⟩
theorem zih (hc:X.calm=true):zbb X (.builtin "max") (fun xs H Q=>∃i j,xs=[.int i,.int j]/\Q (.int (if j > i then j else i)) H):=by
 intro pins s σ H xs us Q I r h
 obtain⟨i,j,rfl,q⟩:=h
 obtain⟨u,w',rfl,⟨t,rfl⟩,⟨t',rfl⟩⟩:=ziw r
 refine max_two_ints (I.ok.hd hc) fun h' tk k=>⟨_,H,I.kept k,?_,q⟩
 by_cases hj:j > i
 · rw[if_pos hj,if_pos hj];exact⟨_,rfl⟩
 · rw[if_neg hj,if_neg hj];exact⟨_,rfl⟩
theorem zig (hc:X.calm=true):zbb X (.builtin "min") (fun xs H Q=>∃i j,xs=[.int i,.int j]/\Q (.int (if j<i then j else i)) H):=by
 intro pins s σ H xs us Q I r h
 obtain⟨i,j,rfl,q⟩:=h
 obtain⟨u,w',rfl,⟨t,rfl⟩,⟨t',rfl⟩⟩:=ziw r
 refine min_two_ints (I.ok.hd hc) fun h' tk k=>⟨_,H,I.kept k,?_,q⟩
 by_cases hj:j<i
 · rw[if_pos hj,if_pos hj];exact⟨_,rfl⟩
 · rw[if_neg hj,if_neg hj];exact⟨_,rfl⟩
end
end L2
namespace L2
open PySem PySem.Spec PyProof.Rows
structure ObjM (h:Heap) (x dx C:Addr) (mA:Str->Option Value):Prop where
 obj:h.get? x=some (PySem.W.instObj C dx)
 ns:h.Ns1 dx mA
 ne:dx≠x
theorem zhz {h:Heap}{dx:Addr}{mA:Str->Option Value}(n:h.Ns1 dx mA):∃od,h.get? dx=some od/\∀name,PySem.W.lookIn name od=some (mA name):=by
 obtain⟨o,es,ep,ho,hd,hk,_,hm⟩:=n
 refine⟨o,ho,fun name=>?_⟩
 have e:=hm name
 unfold nsFind findBy at e
 rw[<-Array.find?_toList] at e
 unfold PySem.W.lookIn
 rw[hd]
 dsimp only
 split
 · rename_i y q
   rw[q] at e
   exact congrArg some e
 · rename_i q
   rw[q] at e
   have a:es.toList.any (·.refKey)=false:=by
    rw[List.any_eq_false]
    intro y hy
    obtain⟨z,t,hkey⟩:=hk y (Array.mem_toList_iff.mp hy)
    simp[DictEntry.refKey,hkey]
   have a':¬es.toList.any (·.refKey)=true:=by rw[a];exact Bool.false_ne_true
   rw[if_neg a']
   exact congrArg some e
theorem ObjM.look {h:Heap}{x dx C:Addr}{mA:Str->Option Value}(I:ObjM h x dx C mA):∃od,PySem.W.InstAt h x (PySem.W.instObj C dx) C (some od)/\∀name,PySem.W.lookIn name od=some (mA name):=
 let ⟨od,ho,hl⟩:=zhz I.ns
 ⟨od,⟨I.obj,rfl,rfl,ho⟩,hl⟩
section
variable {prog:Program} {w:World} {A:Around} {E:Value->Shared->Prop} {s:Shared} {K:PySem.W.Frag} {x dx C f:Addr} {mA:Str->Option Value} {name:Str} {v:Value}
theorem zlh {expr:Bool}{Q:Value->Shared->Prop}(X:K.In s.heap)(I:ObjM s.heap x dx C mA)(hg:PySem.W.plainGet K C name=true)(hh:PySem.W.hasDictIn K C=true)
  (ha:PySem.W.findIn K (.ref C) name=some none) (hv:mA name=some v) (hv':PySem.W.handedIn v=true) (h:Q v {s with toks:=s.toks+1}) :
  wpAny (model prog w) A (getAttr (.ref x) name expr) Q E s:=by
 obtain⟨od,J,hl⟩:=I.look
 exact PySem.W.get_value X J (PySem.W.plainGet_of hg).1 (PySem.W.findObj_own hh ha rfl (by rw[hl,hv])) hv' h
theorem zjr {pl:Sem Bool}{Q:Value × List Value->Shared->Prop}(X:K.In s.heap)(I:ObjM s.heap x dx C mA)(hg:PySem.W.plainGet K C name=true)
  (hf:PySem.W.findIn K (.ref C) name=some (some (.ref f))) (ht:PySem.W.isFn K (.ref f)=true) (hv:mA name=none) (h:Q (.ref f,[.ref x]) s) :
  wpAny (model prog w) A (getMethod (.ref x) name pl) Q E s:=by
 obtain⟨od,J,hl⟩:=I.look
 exact PySem.W.method_fn X J (PySem.W.plainGet_of hg).1 (PySem.W.plainGet_of hg).2 hf (beq_iff_eq.mp ht) (by show (PySem.W.lookIn name od).map (·.isSome)=some false;rw[hl,hv];rfl) h
theorem zki {ns:List Str}{Q:Unit->Shared->Prop}(X:K.In s.heap)(I:ObjM s.heap x dx C mA)
  (hs:PySem.W.findIn K (.ref C) "__setattr__"=some (some (.builtin "object.__setattr__"))) (hp:PySem.W.plainOver K C=true) (ht:PySem.W.takerIn K C name=some none) (hh:PySem.W.hasDictIn K C=true)
  (hw:PySem.Within mA ns) (hsz:ns.length<=sizeLine)
  (h:∀h',ObjM h' x dx C (fun y=>if y=name then some v else mA y)->Heap.SameBut dx s.heap h'->Q () {s with heap:=h',toks:=s.toks+2}) :
  wpAny (model prog w) A (setAttr (.ref x) name v) Q E s:=by
 obtain⟨od,J,hl⟩:=I.look
 refine PySem.W.set_plain X J hs (PySem.W.osa_open (s:={s with toks:=s.toks+1}) (r:=none) X J hp ht fun b=>?_)
 obtain⟨cd,hc,hd'⟩:=PySem.W.any_some hh
 have hx:s.heap.get? x=some ⟨.ref C,some dx,.plain,#[]⟩:=I.obj
 refine wpAny_bind (wpAny_pure (wpAny_bind (wpAny_bind (wpAny_loadPart hx (wpAny_bind (PySem.W.Looks.here (s:={s with toks:=s.toks+1}) (PySem.W.looks_clsIn X hc) ?_))))))
 rw[hd']
 refine wpAny_pure (a:=some dx) (wpAny_bind (wpAny_pure (wpAny_bind ?_)))
 refine wpAny_nsSet1 (s:={s with toks:=s.toks+1}) I.ns fun h' hn2 hs2=>?_
 obtain⟨oD,esD,epD,hoD,hdD,hcD⟩:=hn2.count (PySem.Within.cons name v hw)
 refine wpAny_bind (wpAny_lookBehind hoD (by rw[hdD];exact pastItsLine_dict (Nat.le_trans hcD (by rw[List.length_cons];omega))) ?_)
 exact wpAny_pure (h _ ⟨(hs2.2 _ (Ne.symm I.ne)).trans I.obj,hn2,I.ne⟩ hs2)
theorem zjd {R:Result->Shared->Prop}{vs:List Value}{kw:List (Str × Value)}(X:K.In s.heap)(hm:PySem.W.makesIn K C=true)
  (hi:PySem.W.findIn K (.ref C) "__init__"=some (some (.ref f))) (hf:PySem.W.typeIn K (.ref f)=some (.type "function"))
  (h:codeAny (model prog w) (A.under (.builtin "type.__call__" ⟨.ref C::vs,kw⟩)) (.call (.ref f) ⟨.ref (s.heap.objs.size+1)::vs,kw⟩) (PySem.W.InitBack (s.heap.objs.size+1) R)
   {s with heap:=(s.heap.push PySem.W.emptyDict).push (PySem.W.instObj C s.heap.objs.size)}) :
  codeAny (model prog w) A (.call (.ref C) ⟨vs,kw⟩) R s:=by
 obtain⟨hh,g,d,t,os⟩:=s
 exact PySem.W.make_core (PySem.W.makes_of X hm) (PySem.W.looks_findIn X hi) (fun self=>PySem.W.bind_fn X self hf) (.inl rfl) h
end
noncomputable def putF (f:Str)(v:V):List (Str × V)->List (Str × V)
 | []=>[(f,v)]
 |(g,x)::r=>if g=f then (g,v)::r else (g,x)::putF f v r
theorem zcQ (f g:Str)(v:V):∀fs:List (Str × V),(putF f v fs).lookup g=if g=f then some v else fs.lookup g
 | [] => by
   show List.lookup g [(f,v)]=_
   by_cases h:g=f
   · have hb:(g == f)=true:=beq_iff_eq.mpr h
     simp only[List.lookup,hb,if_pos h]
   · have hb:(g == f)=false:=beq_eq_false_iff_ne.mpr h
     simp only[List.lookup,hb,if_neg h]
 | (k, x) :: r => by
   have ih:=zcQ f g v r
   rw[show putF f v ((k,x)::r)=(if k=f then (k,v)::r else (k,x)::putF f v r) from rfl]
   by_cases hk:k=f
   · rw[if_pos hk]
     by_cases h:g=k
     · have hb:(g == k)=true:=beq_iff_eq.mpr h
       simp only[List.lookup,hb,if_pos (h.trans hk)]
     · have hb:(g == k)=false:=beq_eq_false_iff_ne.mpr h
       simp only[List.lookup,hb,if_neg (fun e:g=f=>h (e.trans hk.symm))]
   · rw[if_neg hk]
     by_cases h:g=k
     · have hb:(g == k)=true:=beq_iff_eq.mpr h
       simp only[List.lookup,hb,if_neg (fun e:g=f=>hk (h.symm.trans e))]
     · have hb:(g == k)=false:=beq_eq_false_iff_ne.mpr h
       simp only[List.lookup,hb]
       exact ih
theorem zcX (f:Str)(v:V):∀fs:List (Str × V),f∈(putF f v fs).map (·.1)/\∀g,g∈fs.map (·.1)->g∈(putF f v fs).map (·.1)
 | []=>⟨by simp[putF],fun g h=>by simp at h⟩
 | (k, x) :: r => by
   obtain⟨i1,i2⟩:=zcX f v r
   rw[show putF f v ((k,x)::r)=(if k=f then (k,v)::r else (k,x)::putF f v r) from rfl]
   by_cases hk:k=f
   · rw[if_pos hk]
     subst hk
     exact⟨by simp,fun g h=>by simpa using h⟩
   · rw[if_neg hk]
     refine⟨?_,fun g h=>?_⟩
     · rw[List.map_cons]
       exact List.mem_cons_of_mem _ i1
     · rw[List.map_cons] at h⊢
       rcases List.mem_cons.mp h with e|e
       · exact List.mem_cons.mpr (.inl e)
       · exact List.mem_cons_of_mem _ (i2 g e)
theorem zcS (f:Str)(v:V):∀fs:List (Str × V),(putF f v fs).length<=fs.length+1
 | []=>by simp[putF]
 | (k, x) :: r => by
   have ih:=zcS f v r
   rw[show putF f v ((k,x)::r)=(if k=f then (k,v)::r else (k,x)::putF f v r) from rfl]
   by_cases hk:k=f
   · rw[if_pos hk,List.length_cons,List.length_cons];omega
   · rw[if_neg hk,List.length_cons,List.length_cons];omega
theorem RelO.some_of {v:V}{o:Option Value}(r:RelO (some v) o):∃u,o=some u/\RelV v u:=by
 cases o with
 |none=>exact (show False from r).elim
 |some u=>exact⟨u,rfl,r⟩
theorem RelO.none_of {o:Option Value}(r:RelO none o):o=none:=by
 cases o with
 |none=>rfl
 |some u=>exact (show False from r).elim
theorem zhW {v:V}{u:Value}(r:RelV v u):PySem.W.handedIn u=true:=by
 cases v with
 |non=>cases (show u=Value.none from r);rfl
 |bl b=>cases (show u=Value.bool b from r);rfl
 |int i=>obtain⟨t,e⟩:=(show ∃t,u=Value.int i t from r);cases e;rfl
 |str x=>obtain⟨t,e⟩:=(show ∃t,u=Value.str x t from r);cases e;rfl
 |byt b=>obtain⟨t,e⟩:=(show ∃t,u=Value.bytes b t from r);cases e;rfl
 |flt b=>obtain⟨t,e⟩:=(show ∃t,u=Value.float b t from r);cases e;rfl
 |ref a=>cases (show u=Value.ref a from r);rfl
 |ty n=>cases (show u=Value.type n from r);rfl
section
variable {P:Program} {w:World} {H H':Hp} {h h':Heap} {a C dx:Addr} {fs fs':List (Str × V)}
theorem zd3 (hok:HOk P w H h)(e:H a=some (.ins C dx fs)):∃mA,ObjM h a dx C mA/\(∀f,RelO (fs.lookup f) (mA f))/\PySem.Within mA (fs.map (·.1))/\fs.length<=1000/\H dx=some (.own a):=by
 obtain⟨d,z,ne,ob,mA,n,r,q⟩:=(show ObjOk P w H h a (.ins C dx fs) from hok a _ e)
 exact⟨mA,⟨ob,n,ne⟩,r,q,z,d⟩
end
structure Cls (K:PySem.W.Frag) (C:Addr):Prop where
 pg:PySem.W.plainGet K C Str.empty=true
 hd:PySem.W.hasDictIn K C=true
 po:PySem.W.plainOver K C=true
 sa:PySem.W.findIn K (.ref C) "__setattr__"=some (some (.builtin "object.__setattr__"))
theorem Cls.get {K:PySem.W.Frag}{C:Addr}(c:Cls K C)(f:Str):PySem.W.plainGet K C f=true:=c.pg
noncomputable def NoAttr (K:PySem.W.Frag)(C:Addr)(f:Str):Prop:=PySem.W.findIn K (.ref C) f=some none
theorem NoAttr.taker {K:PySem.W.Frag}{C:Addr}{f:Str}(n:NoAttr K C f):PySem.W.takerIn K C f=some none:=by
 unfold PySem.W.takerIn
 rw[show PySem.W.findIn K (.ref C) f=some none from n]
 rfl
structure Con (K:PySem.W.Frag) (C:Addr) (f:Str) (v:V) (u:Value):Prop where
 at_:PySem.W.findIn K (.ref C) f=some (some u)
 rel:RelV v u
 get:PySem.W.specialIn K u "__get__"=some none
 cp:PySem.W.copiedNames.contains f=false
structure Meth (K:PySem.W.Frag) (C:Addr) (m:Str) (f:Addr):Prop where
 at_:PySem.W.findIn K (.ref C) m=some (some (.ref f))
 fn:PySem.W.isFn K (.ref f)=true
 kp:PySem.W.keepIn K (.ref f)=true
section
variable {X:Cx} {pins:List (Addr × Obj)} {σ:St} {H:Hp} {s:Shared} {a C dx:Addr} {fs:List (Str × V)} {f:Str} {v:V} {A:Around} {E:Value->Shared->Prop}
theorem zgB {b:Bool}{Q:Value->Shared->Prop}(I:Inv X pins σ H s)(e:H a=some (.ins C dx fs))(c:Cls X.K C)(n:NoAttr X.K C f)(l:fs.lookup f=some v)
  (h:∀u s',Inv X pins σ H s'->RelV v u->Q u s'):wpAny (model X.prog X.w) A (getAttr (.ref a) f b) Q E s:=by
 obtain⟨mA,O,r,_,_,_⟩:=zd3 I.hok e
 obtain⟨u,hu,ru⟩:=RelO.some_of (v:=v) (o:=mA f) (by rw[<-l];exact r f)
 exact zlh I.kIn O (c.get f) c.hd n hu (zhW ru) (h u _ (I.tok _) ru)
theorem zdB {m:Str}{g:Addr}{pl:Sem Bool}{Q:Value × List Value->Shared->Prop}(I:Inv X pins σ H s)(e:H a=some (.ins C dx fs))(c:Cls X.K C)(k:Meth X.K C m g)(l:fs.lookup m=none)
  (h:Q (.ref g,[.ref a]) s):wpAny (model X.prog X.w) A (getMethod (.ref a) m pl) Q E s:=by
 obtain⟨mA,O,r,_,_,_⟩:=zd3 I.hok e
 have hn:mA m=none:=RelO.none_of (by rw[<-l];exact r m)
 exact zjr I.kIn O (c.get m) k.at_ k.fn hn h
theorem zgk {y:V}{u:Value}{Q:Unit->Shared->Prop}(I:Inv X pins σ H s)(e:H a=some (.ins C dx fs))(c:Cls X.K C)(n:NoAttr X.K C f)(hl:fs.length<1000)(ry:RelV y u)
  (h:∀s',Inv X pins σ (upd H a (.ins C dx (putF f y fs))) s'->Q () s'):wpAny (model X.prog X.w) A (setAttr (.ref a) f u) Q E s:=by
 obtain⟨mA,O,r,wi,_,ho⟩:=zd3 I.hok e
 have hz:(fs.map (·.1)).length<=sizeLine:=by rw[List.length_map,sizeLine_eq];omega
 refine zki I.kIn O c.sa c.po n.taker c.hd wi hz fun h' O' sb=>h _ ?_
 have hd:∃o,h'.get? dx=some o:=let ⟨o,_,_,e',_⟩:=O'.ns;⟨o,e'⟩
 refine I.write (x:=a) (e:=dx) (by rw[e];exact True.intro) (.inr ho) (fun b q hb z=>(sb.2 b hb).trans z) hd ?_
 refine⟨by rw[zam O.ne];exact ho,?_,O.ne,O'.obj,_,O'.ns,fun g=>?_,fun g hg=>?_⟩
 · have:=zcS f y fs;omega
 · show RelO ((putF f y fs).lookup g) (if g=f then some u else mA g)
   rw[zcQ]
   by_cases q:g=f
   · rw[if_pos q,if_pos q];exact ry
   · rw[if_neg q,if_neg q];exact r g
 · by_cases q:g=f
   · rw[q];exact (zcX f y fs).1
   · refine (zcX f y fs).2 g (wi g fun z=>hg ?_)
     show (if g=f then some u else mA g)=none
     rw[if_neg q];exact z
theorem Inv.made (I:Inv X pins σ H s):Inv X pins σ (upd (upd H s.heap.objs.size (.own (s.heap.objs.size+1))) (s.heap.objs.size+1) (.ins C s.heap.objs.size []))
  {s with heap:=(s.heap.push PySem.W.emptyDict).push (PySem.W.instObj C s.heap.objs.size)}:=by
 have e1:(s.heap.push PySem.W.emptyDict).get? s.heap.objs.size=some PySem.W.emptyDict:=Heap.get?_push_size s.heap rfl
 have e2:((s.heap.push PySem.W.emptyDict).push (PySem.W.instObj C s.heap.objs.size)).get? (s.heap.objs.size+1)=some (PySem.W.instObj C s.heap.objs.size):=by
  have:=Heap.get?_push_size (s.heap.push PySem.W.emptyDict) (o:=PySem.W.instObj C s.heap.objs.size) rfl
  rwa [Heap.size_push] at this
 have e3:(s.heap.push PySem.W.emptyDict).Ns s.heap.objs.size (fun _=>none):=⟨PySem.W.emptyDict,#[],_,e1,rfl,(fun e he=>absurd he (by simp)),fun _=>rfl⟩
 have I1:=I.laid (a:=s.heap.objs.size) (o:=.own (s.heap.objs.size+1)) (h':=s.heap.push PySem.W.emptyDict) (t':=s.toks) (fun b u q=>Heap.get?_push_of_some _ q) (Nat.le_refl _) ⟨_,e1⟩
 refine I1.laid (a:=s.heap.objs.size+1) (o:=.ins C s.heap.objs.size []) (t':=s.toks) (fun b u q=>Heap.get?_push_of_some _ q) (Nat.le_of_eq (Heap.size_push _ _)) ?_
 have ne:s.heap.objs.size≠s.heap.objs.size+1:=Nat.ne_of_lt (Nat.lt_succ_self _)
 refine⟨by rw[zam ne,zaq],Nat.zero_le _,ne,e2,fun _=>none,(Heap.Ns1.of_empty e3).at fun o q=>Heap.get?_push_of_some _ q,fun _=>True.intro,fun y hy=>absurd rfl hy⟩
theorem zlu {prog:Program}{w:World}{env:Env}{e:Expr}{f:Str}{pos:Pos}{s:Shared}{Q:Value->Shared->Prop}(hb:attributeBase e f env (eval e env)=eval e env)
  (h:wpAny (model prog w) A (eval e env) (fun o s₁=>wpAny (model prog w) A (getAttr o f true) Q E s₁) E s):wpAny (model prog w) A (eval (.Attribute e f pos) env) Q E s:=
 Attribute_any_ h (by rw[arm_eval_Attribute,hb])
end
noncomputable def tFld (K:PySem.W.Frag)(ta:TE)(f:Str):TE:=fun σ H Q=>ta σ H fun x H1=>∃a C dx fs v,x=.ref a/\H1 a=some (.ins C dx fs)/\Cls K C/\NoAttr K C f/\fs.lookup f=some v/\Q v H1
noncomputable def sFld (K:PySem.W.Frag)(ta tv:TE)(f:Str):TS:=fun D σ H=>tv σ H fun y H1=>ta σ H1 fun x H2=>∃a C dx fs,x=.ref a/\H2 a=some (.ins C dx fs)/\Cls K C/\NoAttr K C f/\fs.length<1000/\
 D.nx σ (upd H2 a (.ins C dx (putF f y fs)))
section
variable {X:Cx} {o e value:Expr} {f:Str} {pos pos' tpos:Pos} {ta tv:TE}
theorem zmH (he:PE X e ta)(hb:attributeBase e f X.env (eval e X.env)=eval e X.env):PE X (.Attribute e f pos) (tFld X.K ta f):=by
 intro pins s σ H Q I h
 refine zlu hb (thn (he pins s σ H _ I h) fun u s1 ⟨x,H1,I1,rx,a,C,dx,fs,v,ex,ea,c,n,l,q⟩=>?_)
 subst ex
 obtain rfl:u=Value.ref a:=rx
 exact zgB I1 ea c n l fun u' s2 I2 ru=>⟨v,H1,I2,ru,q⟩
theorem zmw (ha:PE X o ta)(hv:PE X value tv)(hs:swapsWith value (some (.Attribute o f pos')) pos.line X.env=pure false):PS X (.Assign [.Attribute o f pos'] value pos) (sFld X.K ta tv f):=by
 intro pins s σ H D I h
 refine plainObj_wpAny_Assign_Attribute (thn (hv pins s σ H _ I h) fun u s1 ⟨y,H1,I1,ry,q⟩=>thn (ha pins s1 σ H1 _ I1 q) fun ov s2 ⟨x,H2,I2,rx,a,C,dx,fs,ex,ea,c,n,l,q2⟩=>?_) hs
 subst ex
 obtain rfl:ov=Value.ref a:=rx
 exact zgk I2 ea c n l ry fun s3 I3=>⟨σ,_,I3,q2⟩
end
section
variable {X:Cx} {pins:List (Addr × Obj)} {σ:St} {H:Hp} {s:Shared} {A:Around} {E:Value->Shared->Prop} {Q:Value->Shared->Prop} {c:Value} {b:Bool}
inductive TyOf (K:PySem.W.Frag) (H:Hp):V->Value->Prop where
 |non:TyOf K H .non (.type "NoneType")
 |bl (x:Bool):TyOf K H (.bl x) (.type "bool")
 |int (i:Int):TyOf K H (.int i) (.type "int")
 |str (x:Str):TyOf K H (.str x) (.type "str")
 |flt (x:UInt64):TyOf K H (.flt x) (.type "float")
 |lst {a:Addr} {xs:List V} (e:H a=some (.lst xs)):TyOf K H (.ref a) (.type "list")
 |frz {a:Addr} {o:Obj} {xs:List V} (e:H a=some (.frz o (.lst xs))):TyOf K H (.ref a) (.type "list")
 |tup {a:Addr} {xs:List V} (e:H a=some (.tup xs)):TyOf K H (.ref a) (.type "tuple")
 |dK {a:Addr} {kvs:List (Key × V)} (e:H a=some (.dK kvs)):TyOf K H (.ref a) (.type "dict")
 |dT {a:Addr} {kvs:List (List Key × V)} (e:H a=some (.dT kvs)):TyOf K H (.ref a) (.type "dict")
 |ins {a C dx:Addr} {fs:List (Str × V)} (e:H a=some (.ins C dx fs)) (cl:Cls K C) (ha:PySem.W.findIn K (.ref C) "__class__"=some (some (.builtin "object.__class__")))
  (hn:PySem.W.specialIn K (.builtin "object.__class__") "__get__"=some (some (.builtin "getset_descriptor.__get__"))) (htk:PySem.W.takesIn K (.builtin "object.__class__")=some true)
  (hm:PySem.W.mroIn K C (.type "object")=some true):TyOf K H (.ref a) (.ref C)
theorem zeK {x:V}{u t:Value}(I:Inv X pins σ H s)(rx:RelV x u)(ty:TyOf X.K H x t)(e:PySem.W.kitOne X.K t c=some b)(h:∀tk,Q (.bool b) {s with toks:=tk}) :
  wpAny (model X.prog X.w) A (call (.builtin "isinstance") [u,c]) Q E s:=by
 cases ty with
 |non=>cases (show u=Value.none from rx);exact PySem.W.kia_one PySem.W.kitx_none I.kIn True.intro e (fun z=>nomatch z) h
 |bl y=>cases (show u=Value.bool y from rx);exact PySem.W.kia_one PySem.W.kitx_bool I.kIn True.intro e (fun z=>nomatch z) h
 |int i=>obtain⟨t,q⟩:=(show ∃t,u=Value.int i t from rx);cases q;exact PySem.W.kia_one PySem.W.kitx_int I.kIn True.intro e (fun z=>nomatch z) h
 |str y=>obtain⟨t,q⟩:=(show ∃t,u=Value.str y t from rx);cases q;exact PySem.W.kia_one PySem.W.kitx_str I.kIn True.intro e (fun z=>nomatch z) h
 |flt y=>obtain⟨t,q⟩:=(show ∃t,u=Value.float y t from rx);cases q;exact PySem.W.kia_one PySem.W.kitx_float I.kIn True.intro e (fun z=>nomatch z) h
 | @lst a xs ea =>
   cases (show u=Value.ref a from rx)
   obtain⟨_,_,n,_,h1⟩:=(show ObjOk X.prog X.w H s.heap a (.lst xs) from I.hok a _ ea)
   exact PySem.W.kia_one PySem.W.kitx_list I.kIn ⟨_,h1,rfl⟩ e (fun z=>nomatch z) h
 | @frz a ob xs ea =>
   cases (show u=Value.ref a from rx)
   obtain⟨_,_,_,n,_,h1⟩:=(show ObjOk X.prog X.w H s.heap a (.frz ob (.lst xs)) from I.hok a _ ea)
   exact PySem.W.kia_one PySem.W.kitx_list I.kIn ⟨_,h1,rfl⟩ e (fun z=>nomatch z) h
 | @tup a xs ea =>
   cases (show u=Value.ref a from rx)
   obtain⟨_,_,_,p⟩:=(show ObjOk X.prog X.w H s.heap a (.tup xs) from I.hok a _ ea)
   obtain⟨o,h1,h2,_⟩:=p
   exact PySem.W.kia_one PySem.W.kitx_tuple I.kIn ⟨o,h1,h2⟩ e (fun z=>nomatch z) h
 | @dK a kvs ea =>
   cases (show u=Value.ref a from rx)
   obtain⟨_,_,vs,_,p⟩:=(show ObjOk X.prog X.w H s.heap a (.dK kvs) from I.hok a _ ea)
   obtain⟨o,es,ep,h1,h2,_⟩:=p
   exact PySem.W.kia_one PySem.W.kitx_dict I.kIn ⟨o,h1,h2.1⟩ e (fun z=>nomatch z) h
 | @dT a kvs ea =>
   cases (show u=Value.ref a from rx)
   obtain⟨_,_,xs,_,o,es,ep,h1,h2,_⟩:=(show ObjOk X.prog X.w H s.heap a (.dT kvs) from I.hok a _ ea)
   exact PySem.W.kia_one PySem.W.kitx_dict I.kIn ⟨o,h1,h2.1⟩ e (fun z=>nomatch z) h
 | @ins a C dx fs ea cl ha hn htk hm =>
   cases (show u=Value.ref a from rx)
   obtain⟨mA,O,_⟩:=zd3 I.hok ea
   obtain⟨od,J,_⟩:=O.look
   exact PySem.W.kia_one (PySem.W.kitx_own (cl.get _) cl.hd ha hn htk hm) I.kIn J e (fun z=>nomatch z) h
end
end L2
namespace L2
open PySem PySem.Spec PyProof.Rows
structure Room (k:Nat) (A:Around):Prop where
 hd:A.handled=none
 dp:A.depth+3 * k+5<recursionLimit
 un:A.units+16 * k+200<cLine
theorem Room.mono {j k:Nat}{A:Around}(r:Room k A)(h:j<=k):Room j A:=⟨r.hd,by have:=r.dp;omega,by have:=r.un;omega⟩
theorem Room.deeper {k:Nat}{A:Around}(r:Room (k+1) A)(env:Env):Room k (A.deeper env):=
 ⟨r.hd,by have:=r.dp;show A.depth+1+3 * k+5<_;omega,by have:=r.un;show A.units+3+16 * k+200<_;omega⟩
theorem Room.in1 {k:Nat}{A:Around}(r:Room (k+1) A):Room k A.in1:=
 ⟨r.hd,by have:=r.dp;show A.depth+3 * k+5<_;omega,by have:=r.un;show A.units+1+16 * k+200<_;omega⟩
theorem zgw {A:Around}{C:Addr}{us:List Value}{kw:List (Str × Value)}:(A.under (.builtin "type.__call__" ⟨.ref C::us,kw⟩)).depth=A.depth+1:=by
 first|rfl|simp[Around.under,Code.weight,Code.isCreation,Code.isGuard,Code.isCaller,Code.frames,Code.isFrame,guardIds]
theorem zgv {A:Around}{C:Addr}{us:List Value}{kw:List (Str × Value)}:(A.under (.builtin "type.__call__" ⟨.ref C::us,kw⟩)).units=A.units+1:=by
 first|rfl|simp[Around.under,Code.cUnits,Code.frames,Code.isFrame]
theorem Room.make {k:Nat}{A:Around}(r:Room (k+1) A)(C:Addr)(us:List Value)(kw:List (Str × Value)):Room k (A.under (.builtin "type.__call__" ⟨.ref C::us,kw⟩)):=
 ⟨r.hd,by have:=r.dp;rw[zgw];omega,by have:=r.un;rw[zgv];omega⟩
theorem Room.depth {k:Nat}{A:Around}(r:Room k A):A.depth<recursionLimit:=by have:=r.dp;omega
theorem Room.units {k:Nat}{A:Around}(r:Room k A):A.units+64<cLine:=by have:=r.un;omega
noncomputable def tNil:TA:=fun _ H Q=>Q [] H
noncomputable def zlR (ta:TE)(tr:TA):TA:=fun σ H Q=>ta σ H fun x H1=>tr σ H1 fun xs H2=>Q (x::xs) H2
section
variable {X:Cx} {e:Expr} {es:List Expr} {te:TE} {t:TA} {pos:Pos}
theorem zfS:PA X [] tNil:=fun _ _ _ _ H Q I h=>Calls.spliced_nil ⟨[],H,I,.nil,h⟩
theorem zb8 (ha:PE X e te)(hr:PA X es t)(hs:starEach (e::es) X.env=(false,eval e X.env)::starEach es X.env:=by rfl):PA X (e::es) (zlR te t):=by
 intro pos pins s σ H Q I h
 rw[hs]
 show wpAny _ _ (spliced ((false,eval e X.env)::backTo pos (starEach es X.env))) _ _ s
 refine Calls.spliced_cons (thn (ha pins s σ H _ I h) fun u s1 ⟨x,H1,I1,r1,q1⟩=>?_)
 exact thn (hr pos pins s1 σ H1 _ I1 q1) fun us s2 ⟨xs,H2,I2,r2,q2⟩=>⟨x::xs,H2,I2,.cons r1 r2,q2⟩
noncomputable def tTup (t:TA):TE:=fun σ H Q=>t σ H fun xs H1=>xs.length<=sizeLine/\∀p,H1 p=none->Q (.ref p) (upd H1 p (.tup xs))
noncomputable def tLst (t:TA):TE:=fun σ H Q=>t σ H fun xs H1=>xs.length<=sizeLine/\∀p,H1 p=none->Q (.ref p) (upd H1 p (.lst xs))
theorem zmA {x1}(h:PA X es t):PE X (.Tuple es x1 pos) (tTup t):=by
 intro pins s σ H Q I hq
 refine wpAny_Tuple_spliced (thn (h pos pins s σ H _ I hq) fun us s1 ⟨xs,H1,I1,r,z,q⟩=>⟨by rw[<-r.length];exact z,?_⟩)
 have hf:H1 s1.heap.objs.size=none:=I1.hok.fresh (Nat.le_refl _)
 refine⟨.ref s1.heap.objs.size,upd H1 s1.heap.objs.size (.tup xs),I1.laid (t':=s1.toks) (fun b u e=>Heap.get?_push_of_some _ e) (Nat.le_refl _) ?_,rfl,q _ hf⟩
 exact⟨z,us,r,⟨_,Heap.get?_push_size _ rfl,rfl,_,rfl⟩⟩
theorem zmE (h:PA X es t):PE X (.List es pos) (tLst t):=by
 intro pins s σ H Q I hq
 refine wpAny_List_spliced (thn (h pos pins s σ H _ I hq) fun us s1 ⟨xs,H1,I1,r,z,q⟩=>⟨by rw[<-r.length];exact z,?_⟩)
 have hf:H1 s1.heap.objs.size=none:=I1.hok.fresh (Nat.le_refl _)
 refine⟨.ref s1.heap.objs.size,upd H1 s1.heap.objs.size (.lst xs),I1.laid (t':=s1.toks) (fun b u e=>Heap.get?_push_of_some _ e) (Nat.le_refl _) ?_,rfl,q _ hf⟩
 exact⟨z,us,0,r,Heap.get?_push_size _ rfl⟩
end
noncomputable abbrev Sp:=List V->Hp->VK->XK->Prop
noncomputable abbrev CXT:=List Env->Hp->Shared->XK->Value->Shared->Prop
structure Env0 (P:Program) (w:World) (K:PySem.W.Frag) (mg:Str->Option Value) (base:Heap) (A:Around) (outer:List Env) (s:Shared) (H:Hp):Prop where
 frames:A.frames=some outer
 mod:Mod K mg base
 bs:∀b o,base.get? b=some o->s.heap.get? b=some o/\H b=none
 bsz:base.objs.size<=s.heap.objs.size
 funs:s.heap.FunFrames base outer
 frf:∀b∈frs outer,H b=none
 hok:HOk P w H s.heap
 bare:AllBare s.gens
noncomputable def CE (outer:List Env)(P:Program)(w:World)(H:Hp)(s:Shared)(Q:VK)(u:Value)(s':Shared):Prop:=
 ∃v H',s'.os=s.os/\AllBare s'.gens/\Un (frs outer) [] H H' s.heap s'.heap/\HOk P w H' s'.heap/\RelV v u/\Q v H'
noncomputable def CR (CX:CXT)(outer:List Env)(P:Program)(w:World)(H:Hp)(s:Shared)(Q:VK)(E:XK)(r:Result)(s':Shared):Prop:=
 match r with
 |.ok (.ret u)=>CE outer P w H s Q u s'
 |.ok _=>False
 |.error e=>CX outer H s E e s'
structure FnOk (P:Program) (w:World) (K:PySem.W.Frag) (mg:Str->Option Value) (base:Heap) (CX:CXT) (k:Nat) (f:Addr) (fd:FuncData) (ps:List Str) (sp:Sp):Prop where
 len:∀vs H Q E,sp vs H Q E->vs.length=ps.length
 run:∀(A:Around) (outer:List Env) (s:Shared) (H:Hp) (args:Args) (us:List Value) (vs:List V) (Q:VK) (E:XK),Room k A->Env0 P w K mg base A outer s H->BindsTo s fd args (ps.zip us)->Vals vs us->sp vs H Q E->
  codeAny (model P w) A (.call (.ref f) args) (CR CX outer P w H s Q E) s
theorem FnOk.mono {P:Program}{w:World}{K:PySem.W.Frag}{mg:Str->Option Value}{base:Heap}{CX:CXT}{j k:Nat}{f:Addr}{fd:FuncData}{ps:List Str}{sp:Sp}(F:FnOk P w K mg base CX j f fd ps sp)(h:j<=k) :
 FnOk P w K mg base CX k f fd ps sp:=⟨F.len,fun A outer s H args us vs Q E hr=>F.run A outer s H args us vs Q E (hr.mono h)⟩
theorem Env0.make {P:Program}{w:World}{K:PySem.W.Frag}{mg:Str->Option Value}{base:Heap}{A:Around}{outer:List Env}{s:Shared}{H:Hp}(e:Env0 P w K mg base A outer s H)(C:Addr)(us:List Value)(kw:List (Str × Value)) :
 Env0 P w K mg base (A.under (.builtin "type.__call__" ⟨.ref C::us,kw⟩)) outer s H:=⟨by first|exact e.frames|(simpa[Around.under,Code.envs,Code.isFrame,pushEnvs] using e.frames),e.mod,e.bs,e.bsz,e.funs,e.frf,e.hok,e.bare⟩
theorem Env0.in1 {P:Program}{w:World}{K:PySem.W.Frag}{mg:Str->Option Value}{base:Heap}{A:Around}{outer:List Env}{s:Shared}{H:Hp}(e:Env0 P w K mg base A outer s H) :
 Env0 P w K mg base A.in1 outer s H:=⟨e.frames,e.mod,e.bs,e.bsz,e.funs,e.frf,e.hok,e.bare⟩
section
variable {X:Cx} {pins:List (Addr × Obj)} {σ:St} {H:Hp} {s s':Shared}
theorem Inv.env0 (I:Inv X pins σ H s):Env0 X.prog X.w X.K X.mg X.base X.A X.stack s H:=
 ⟨I.ok.frames,I.ok.mod,I.bs,Nat.le_trans I.ok.bsz I.sz,I.stack,I.stkFree,I.hok,I.bare⟩
theorem Inv.after {Q:VK}{u:Value}(I:Inv X pins σ H s)(h:CE X.stack X.prog X.w H s Q u s'):EP X pins σ Q u s':=by
 obtain⟨v,H',os,bare,un,hok,r,q⟩:=h
 obtain⟨hh,g,d,t,os'⟩:=s'
 obtain rfl:os'=s.os:=os
 exact⟨v,H',I.call (h':=hh) (g':=g) (d':=d) (t':=t) (ch:=[]) un hok bare (fun b z=>absurd z (by simp)),r,q⟩
end
noncomputable def zdi (sp:Sp)(dvs:List V)(E:XK)(t:TA):TE:=fun σ H Q=>t σ H fun vs H1=>sp (vs++dvs) H1 Q E
noncomputable def zj5 (C:Addr)(sp:Sp)(dvs:List V)(E:XK)(t:TA):TE:=fun σ H Q=>t σ H fun vs H1=>∀x dx,H1 x=none->H1 dx=none->dx≠x->
 sp (.ref x::(vs++dvs)) (upd (upd H1 dx (.own x)) x (.ins C dx [])) (fun v H2=>v=.non/\Q (.ref x) H2) E
noncomputable def Binds (K:PySem.W.Frag)(fd:FuncData)(ps:List Str)(ds:List Value):Prop:=
 ∀(s:Shared) (us:List Value),K.In s.heap->(us++ds).length=ps.length->BindsTo s fd ⟨us,[]⟩ (ps.zip (us++ds))
theorem Binds.all {K:PySem.W.Frag}{fd:FuncData}{ps:List Str}(h:∀us:List Value,us.length=ps.length->bindArgs fd ⟨us,[]⟩=pure (ps.zip us)):Binds K fd ps []:=fun s us _ hl=>by
 rw[List.append_nil] at hl⊢
 exact .of_eq (h us hl)
noncomputable def zdh (CX:CXT)(X:Cx)(E:XK):Prop:=∀(pins:List (Addr × Obj)) (σ:St) (H:Hp) (s:Shared) (e:Value) (s':Shared),Inv X pins σ H s->CX X.stack H s E e s'->X.xe e s'
section
variable {X:Cx} {CX:CXT} {k:Nat} {f C:Addr} {fd:FuncData} {ps:List Str} {sp:Sp} {dvs:List V} {ds:List Value} {E:XK} {x m:Str} {p pos apos:Pos} {e o:Expr} {es:List Expr} {ta:TE} {t:TA}
theorem zes {pins:List (Addr × Obj)}{σ:St}{H:Hp}{s:Shared}{Q:VK}{us:List Value}{vs:List V}(F:FnOk X.prog X.w X.K X.mg X.base CX k f fd ps sp)(hr:Room k X.A)(hb:Binds X.K fd ps ds)(hd:Vals dvs ds)(hx:zdh CX X E)
  (I:Inv X pins σ H s) (r:Vals vs us) (h:sp (vs++dvs) H Q E):wpAny (model X.prog X.w) X.A (call (.ref f) us) (EP X pins σ Q) X.xe s:=by
 have r2:Vals (vs++dvs) (us++ds):=r.append hd
 have hl:(us++ds).length=ps.length:=by rw[<-r2.length];exact F.len _ _ _ _ h
 refine wpAny_call (codeAny_mono (F.run X.A X.stack s H ⟨us,[]⟩ (us++ds) (vs++dvs) Q E hr I.env0 (hb s us I.kIn hl) r2 h) fun r s' hq=>?_)
 cases r with
 |error e=>exact hx pins σ H s e s' I hq
 | ok fl =>
   cases fl with
   |ret u=>exact I.after hq
   |next=>exact False.elim hq
   |brk=>exact False.elim hq
   |cont=>exact False.elim hq
theorem zkQ (F:FnOk X.prog X.w X.K X.mg X.base CX k f fd ps sp)(hr:Room k X.A)(hg:Gl X x)(hm:X.mg x=some (.ref f))(hk:PySem.W.keepIn X.K (.ref f)=true)(hb:Binds X.K fd ps ds)(hd:Vals dvs ds)(hx:zdh CX X E)
  (ha:PA X (e::es) t) (hdb:(x == ("__debug__":Str))=false:=by decide) (he:starEach (e::es) X.env=(false,eval e X.env)::starEach es X.env:=by rfl) (hpl:(backTo pos (starEach es X.env)).any (·.1)=false:=by rfl) :
  PE X (.Call (.Name x p) (e::es) [] pos) (zdi sp dvs E t):=by
 intro pins s σ H Q I h
 refine wpAny_Call_Name_kw (zcV I hg hm ?_ hdb)
 refine PySem.W.callWith_K (h₀:=X.base) I.ok.mod.kin hk (thn (ha pos pins s σ H _ I h) fun us s1 ⟨vs,H1,I1,r,q⟩=>⟨I1.kIn,?_⟩) he hpl
 exact zes F hr hb hd hx I1 r q
theorem zi6 (F:FnOk X.prog X.w X.K X.mg X.base CX k f fd ps sp)(hr:Room k X.A)(hg:Gl X x)(hm:X.mg x=some (.ref f))(hk:PySem.W.keepIn X.K (.ref f)=true)(hb:Binds X.K fd ps ds)(hd:Vals dvs ds)(hx:zdh CX X E)
  (hdb:(x == ("__debug__":Str))=false:=by decide):PE X (.Call (.Name x p) [] [] pos) (zdi sp dvs E tNil):=by
 intro pins s σ H Q I h
 refine wpAny_Call_Name_kw (zcV I hg hm ?_ hdb)
 exact PySem.W.callWith_K0 I.kIn hk (zes (us:=[]) F hr hb hd hx I .nil h)
structure Mk (K:PySem.W.Frag) (C f:Addr):Prop where
 makes:PySem.W.makesIn K C=true
 init:PySem.W.findIn K (.ref C) "__init__"=some (some (.ref f))
 fn:PySem.W.isFn K (.ref f)=true
 kp:PySem.W.keepIn K (.ref C)=true
theorem zfL {pins:List (Addr × Obj)}{σ:St}{H:Hp}{s:Shared}{Q:VK}{us:List Value}{vs:List V}(M:Mk X.K C f)(F:FnOk X.prog X.w X.K X.mg X.base CX k f fd ps sp)(hr:Room (k+1) X.A)(hb:Binds X.K fd ps ds)(hd:Vals dvs ds)
  (hx:zdh CX X E) (I:Inv X pins σ H s) (r:Vals vs us)
  (h:∀x dx,H x=none->H dx=none->dx≠x->sp (.ref x::(vs++dvs)) (upd (upd H dx (.own x)) x (.ins C dx [])) (fun v H2=>v=.non/\Q (.ref x) H2) E) :
  wpAny (model X.prog X.w) X.A (call (.ref C) us) (EP X pins σ Q) X.xe s:=by
 have hq:=h (s.heap.objs.size+1) s.heap.objs.size (I.hok.fresh (Nat.le_succ _)) (I.hok.fresh (Nat.le_refl _)) (Nat.ne_of_lt (Nat.lt_succ_self _))
 have I2:=Inv.made (C:=C) I
 have r2:Vals (V.ref (s.heap.objs.size+1)::(vs++dvs)) (Value.ref (s.heap.objs.size+1)::(us++ds)):=.cons rfl (r.append hd)
 have hl:(Value.ref (s.heap.objs.size+1)::us++ds).length=ps.length:=by
  have e:=r2.length
  rw[F.len _ _ _ _ hq] at e
  exact e.symm
 refine wpAny_call (zjd (f:=f) I.kIn M.makes M.init (beq_iff_eq.mp M.fn) (codeAny_mono (F.run _ X.stack _ _ ⟨Value.ref (s.heap.objs.size+1)::us,[]⟩ (Value.ref (s.heap.objs.size+1)::(us++ds)) _ _ E (hr.make C us [])
  (I2.env0.make C us []) (hb _ (Value.ref (s.heap.objs.size+1)::us) I2.kIn hl) r2 hq) fun r s' hq'=>?_))
 cases r with
 |error e=>exact hx pins σ _ _ e s' I2 hq'
 | ok fl =>
   cases fl with
   | ret u =>
     obtain⟨v,H',I3,rv,ev,q3⟩:=I2.after hq'
     subst ev
     exact⟨rv,⟨V.ref (s.heap.objs.size+1),H',I3,rfl,q3⟩⟩
   |next=>exact False.elim hq'
   |brk=>exact False.elim hq'
   |cont=>exact False.elim hq'
theorem zkN (M:Mk X.K C f)(F:FnOk X.prog X.w X.K X.mg X.base CX k f fd ps sp)(hr:Room (k+1) X.A)(hg:Gl X x)(hm:X.mg x=some (.ref C))(hb:Binds X.K fd ps ds)(hd:Vals dvs ds)(hx:zdh CX X E)
  (ha:PA X (e::es) t) (hdb:(x == ("__debug__":Str))=false:=by decide) (he:starEach (e::es) X.env=(false,eval e X.env)::starEach es X.env:=by rfl) (hpl:(backTo pos (starEach es X.env)).any (·.1)=false:=by rfl) :
  PE X (.Call (.Name x p) (e::es) [] pos) (zj5 C sp dvs E t):=by
 intro pins s σ H Q I h
 refine wpAny_Call_Name_kw (zcV I hg hm ?_ hdb)
 refine PySem.W.callWith_K (h₀:=X.base) I.ok.mod.kin M.kp (thn (ha pos pins s σ H _ I h) fun us s1 ⟨vs,H1,I1,r,q⟩=>⟨I1.kIn,?_⟩) he hpl
 exact zfL M F hr hb hd hx I1 r q
theorem ziZ (M:Mk X.K C f)(F:FnOk X.prog X.w X.K X.mg X.base CX k f fd ps sp)(hr:Room (k+1) X.A)(hg:Gl X x)(hm:X.mg x=some (.ref C))(hb:Binds X.K fd ps ds)(hd:Vals dvs ds)(hx:zdh CX X E)
  (hdb:(x == ("__debug__":Str))=false:=by decide):PE X (.Call (.Name x p) [] [] pos) (zj5 C sp dvs E tNil):=by
 intro pins s σ H Q I h
 refine wpAny_Call_Name_kw (zcV I hg hm ?_ hdb)
 exact PySem.W.callWith_K0 I.kIn M.kp (zfL (us:=[]) M F hr hb hd hx I .nil h)
end
section
variable {X:Cx} {CX:CXT} {k:Nat} {f C:Addr} {fd:FuncData} {ps ks:List Str} {sp:Sp} {E:XK} {x m:Str} {p pos apos kpos:Pos} {e o:Expr} {es:List Expr} {kws:List Keyword} {te ta:TE} {t tk:TA} {nm:Option Str}
structure KBinds (K:PySem.W.Frag) (fd:FuncData) (ps ks:List Str) (g:List Value->List Value->List Value) (gV:List V->List V->List V):Prop where
 to:∀(s:Shared) (us ws:List Value),K.In s.heap->(g us ws).length=ps.length->BindsTo s fd ⟨us,ks.zip ws⟩ (ps.zip (g us ws))
 rel:∀{vs:List V} {us:List Value} {zs:List V} {ws:List Value},Vals vs us->Vals zs ws->Vals (gV vs zs) (g us ws)
variable {g:List Value->List Value->List Value} {gV:List V->List V->List V}
end
structure FnScope (N P:List Str) (sc:Scope):Prop where
 kind:sc.kind=.function
 co:sc.isCoroutine=false
 gen:sc.isGenerator=false
 nd:N.Nodup
 pre:N.take P.length=P
 par:∀x∈P,sc.names.lookup x=some .local\/sc.names.lookup x=some .cell
 nofree:∀y∈sc.names,y.2≠.free
theorem ze2 {kindOf:Str->Option NameKind}{x:Str}:∀{binds:List (Str × Value)} {m:Str->Option Value},(∀v,(x,v)∉binds)->bindL kindOf binds m x=m x
 | [],_,_=>rfl
 | (n, v) :: r, m, h => by
   unfold bindL
   rw[ze2 fun w hw=>h w (List.mem_cons_of_mem _ hw)]
   split
   · have:x≠n:=by rintro rfl;exact h v List.mem_cons_self
     simp[this]
   · rfl
theorem ze4 {kindOf:Str->Option NameKind}{x:Str}:∀{binds:List (Str × Value)} {m:Str->Option Value},(∀v,(x,v)∉binds)->bindC kindOf binds m x=m x
 | [],_,_=>rfl
 | (n, v) :: r, m, h => by
   unfold bindC
   rw[ze4 fun w hw=>h w (List.mem_cons_of_mem _ hw)]
   split
   · rfl
   · have:x≠n:=by rintro rfl;exact h v List.mem_cons_self
     simp[this]
theorem ze3 {kindOf:Str->Option NameKind}{x:Str}{v:Value}:∀{P:List Str} {vs:List Value} {i:Nat} {m:Str->Option Value},P.Nodup->P[i]?=some x->vs[i]?=some v->kindOf x=some .local->
  bindL kindOf (P.zip vs) m x=some v
 | [],_,_,_,_,h,_,_=>by simp at h
 |_::_,[],_,_,_,_,h,_=>by simp at h
 | p :: P, w :: vs, 0, m, nd, h1, h2, hk => by
   simp at h1 h2;subst h1;subst h2
   show bindL kindOf ((p,w)::P.zip vs) m p=_
   unfold bindL
   rw[ze2 fun v hv=>(List.nodup_cons.mp nd).1 (List.of_mem_zip hv).1,if_pos hk]
   simp
 | p :: P, w :: vs, i + 1, m, nd, h1, h2, hk => by
   show bindL kindOf ((p,w)::P.zip vs) m x=_
   unfold bindL
   exact ze3 (i:=i) (List.nodup_cons.mp nd).2 (by simpa using h1) (by simpa using h2) hk
theorem ze5 {kindOf:Str->Option NameKind}{x:Str}{v:Value}:∀{P:List Str} {vs:List Value} {i:Nat} {m:Str->Option Value},P.Nodup->P[i]?=some x->vs[i]?=some v->kindOf x≠some .local->
  bindC kindOf (P.zip vs) m x=some v
 | [],_,_,_,_,h,_,_=>by simp at h
 |_::_,[],_,_,_,_,h,_=>by simp at h
 | p :: P, w :: vs, 0, m, nd, h1, h2, hk => by
   simp at h1 h2;subst h1;subst h2
   show bindC kindOf ((p,w)::P.zip vs) m p=_
   unfold bindC
   rw[ze4 fun v hv=>(List.nodup_cons.mp nd).1 (List.of_mem_zip hv).1,if_neg hk]
   simp
 | p :: P, w :: vs, i + 1, m, nd, h1, h2, hk => by
   show bindC kindOf ((p,w)::P.zip vs) m x=_
   unfold bindC
   exact ze5 (i:=i) (List.nodup_cons.mp nd).2 (by simpa using h1) (by simpa using h2) hk
noncomputable def start (N:List Str)(vs:List V):St:=vs.map some++List.replicate (N.length - vs.length) none
noncomputable def cxOf (CX:CXT)(P:Program)(w:World)(K:PySem.W.Frag)(mg:Str->Option Value)(base:Heap)(N:List Str)(qual:Str)(scope:Scope)(f:Addr)(cd:Value)(A:Around)(outer:List Env)(s:Shared)(H:Hp)(E:XK):Cx where
 prog:=P
 w:=w
 K:=K
 mg:=mg
 base:=base
 A:=A.deeper (envOfC qual scope s.heap.objs.size f cd)
 N:=N
 s₀:=s
 H₀:=H
 env:=envOfC qual scope s.heap.objs.size f cd
 outer:=outer
 stack:=envOfC qual scope s.heap.objs.size f cd::outer
 ex:=[]
 calm:=true
 fn:=fun _=>true
 pn:=[]
 xe:=fun e s'=>wpAny (model P w) (A.deeper (envOfC qual scope s.heap.objs.size f cd)) (leaving (envOfC qual scope s.heap.objs.size f cd) e) (fun _ s''=>CX outer H s E e s'') (fun e' s''=>CX outer H s E e' s'') s'
theorem zga {sc:Scope}{n:Nat}{x:Str}(h:sc.names.lookup x=some .cell):∃c,(cellsFrom n sc.names []).lookup x=some c:=by
 have q:=PySem.W.cellsFrom_some sc.names n [] (.inl h)
 exact Option.isSome_iff_exists.mp q
theorem zhN {CX:CXT}{P:Program}{w:World}{K:PySem.W.Frag}{mg:Str->Option Value}{base:Heap}{N ps:List Str}{qual:Str}{scope:Scope}{f:Addr}{cd:Value}{A:Around}{outer:List Env}{s s1:Shared}{H:Hp}{E:XK}{us:List Value}{vs:List V}
  (S:FnScope N ps scope) (hd:A.handled=none) (e0:Env0 P w K mg base A outer s H) (hl:vs.length=ps.length) (r:Vals vs us)
  (x:InCallC s s.heap.objs.size (bindL (envOfC qual scope s.heap.objs.size f cd).kindOf (ps.zip us) fun _=>none) (cellsFrom (s.heap.objs.size+1) scope.names []) (bindC (envOfC qual scope s.heap.objs.size f cd).kindOf (ps.zip us) fun _=>none) s1) :
  Inv (cxOf CX P w K mg base N qual scope f cd A outer s H E) [] (start N vs) H s1:=by
 have hpl:ps.length<=N.length:=by have:=congrArg List.length S.pre;rw[List.length_take] at this;omega
 obtain⟨h1,tk,rfl,hk⟩:=x.done
 have noA:∀b:Addr,b∉(cxOf CX P w K mg base N qual scope f cd A outer s H E).ex:=fun b z=>absurd (show b∈([]:List Addr) from z) (by simp)
 refine⟨⟨e0.mod,S.kind,rfl,rfl,Nat.le_refl _,fun y z c h1 h2=>?_,fun y hy=>?_,fun y c _ h=>?_,fun _=>hd,Around.frames_deeper e0.frames,.inr ⟨rfl,rfl⟩,fun b z=>absurd z (noA b),e0.bs,e0.bsz,fun b _ _=>noA b,fun b z=>absurd z (noA b),e0.funs,e0.frf⟩,
  rfl,e0.bare,Un.kept hk,⟨_,x.toInCall.ns,fun i y v h1 h2 h3=>?_⟩,fun y c h=>⟨_,x.cell y c h⟩,e0.hok.fresh (Nat.le_refl _),fun y c h=>?_,fun p hp=>absurd (show p∈([]:List (Addr × Obj)) from hp) (by simp),e0.hok.kept hk,?_⟩
 · exact name_of_addr x.apart (PySem.mem_of_lookup h1) (PySem.mem_of_lookup h2)
 · have hy:scope.names.lookup y=some .cell\/scope.names.lookup y=some .free:=hy
   rcases hy with hy|hy
   · exact zga hy
   · exact absurd rfl (S.nofree _ (PySem.mem_of_lookup hy))
 · exact Nat.le_of_lt (x.above y c (PySem.mem_of_lookup h))
 · have hi:i<vs.length:=by
    unfold start at h2
    by_cases hi:i<vs.length
    · exact hi
    · rw[List.getElem?_append_right (by simpa using hi)] at h2
      rw[List.getElem?_replicate] at h2
      split at h2<;>cases h2
   have ha:vs[i]?=some v:=by
    unfold start at h2
    rw[List.getElem?_append_left (by simpa using hi),List.getElem?_map] at h2
    cases e:vs[i]? with
    |none=>rw[e] at h2;cases h2
    |some a=>rw[e] at h2;cases h2;rfl
   obtain⟨u,hu,rv⟩:=r.get ha
   have hp:ps[i]?=some y:=by
    rw[<-S.pre,List.getElem?_take_of_lt (by omega)];exact h1
   have ndP:ps.Nodup:=by rw[<-S.pre];exact S.nd.sublist (List.take_sublist _ _)
   refine⟨u,rv,?_⟩
   rcases S.par y (List.mem_of_getElem? hp) with k|k
   · exact .inl ⟨k,ze3 ndP hp hu k⟩
   · obtain⟨c,e⟩:=zga (n:=s.heap.objs.size+1) k
     refine .inr ⟨.inl k,c,e,?_⟩
     have q:=x.cell y c e
     rw[ze5 ndP hp hu (by show scope.names.lookup y≠_;rw[k];decide)] at q
     exact q
 · exact e0.hok.fresh (Nat.le_of_lt (x.above y c (PySem.mem_of_lookup h)))
 · unfold start
   show _=N.length
   rw[List.length_append,List.length_map,List.length_replicate]
   omega
theorem zot {CX:CXT}{P:Program}{w:World}{K:PySem.W.Frag}{mg:Str->Option Value}{base:Heap}{k:Nat}{f:Addr}{name qual:Str}{params:Arguments}{body:List Stmt}{scope:Scope}{dV kV doc pm cdv ct oc:Value}{an od:Option Addr}
  {osl:Array (Option Value)} {N ps:List Str} {sp:Sp} (lk:K.lookup f=some ⟨oc,od,.func (PySem.W.fnOf name qual params body scope dV kV doc pm an cdv ct),osl⟩) (hcd:PySem.W.codeIn K cdv qual=true) (S:FnScope N ps scope)
  (len:∀vs H Q E,sp vs H Q E->vs.length=ps.length)
  (hbody:∀(A:Around) (outer:List Env) (s:Shared) (H:Hp) (vs:List V) (Q:VK) (E:XK),Room k (A.deeper (envOfC qual scope s.heap.objs.size f cdv))->sp vs H Q E->
   ∃t,PSs (cxOf CX P w K mg base N qual scope f cdv A outer s H E) body t/\t {nx:=fun _ H'=>Q .non H',rt:=Q} (start N vs) H) :
  FnOk P w K mg base CX (k+1) f (PySem.W.fnOf name qual params body scope dV kV doc pm an cdv ct) ps sp:=by
 refine⟨len,fun A outer s H args us vs Q E hr e0 hb r hsp=>?_⟩
 have hl:=len _ _ _ _ hsp
 have KX:K.In s.heap:=e0.mod.kin.keeps fun b o e=>(e0.bs b o e).1
 have lim:s.heap.NoLimit:=e0.mod.nolimit.keeps fun b o e=>(e0.bs b o e).1
 have hkind:∀y∈ps.zip us,scope.names.lookup y.1=some .local\/(scope.names.lookup y.1=some .cell/\((cellsFrom (s.heap.objs.size+1) scope.names []).lookup y.1).isSome=true):=fun⟨n,v⟩ hy=>by
  rcases S.par n (List.of_mem_zip hy).1 with q|q
  · exact .inl q
  · exact .inr ⟨q,PySem.W.cellsFrom_some _ _ _ (.inl q)⟩
 refine codeAny_call_function hr.depth (KX _ _ lk) rfl S.co S.gen rfl (PySem.W.codeRec_of KX hcd) (hb _ _ _ _ ?_)
 refine wpAny_newFunctionEnv_cells S.kind hkind fun env he s1 x=>?_
 subst he
 refine⟨lim.keeps x.toInCall.keep,codeAny_func ?_⟩
 obtain⟨t,ht,hq⟩:=hbody A outer s H vs Q E (hr.deeper _) hsp
 have I:Inv (cxOf CX P w K mg base N qual scope f cdv A outer s H E) [] (start N vs) H s1:=zhN S hr.hd e0 hl r x
 refine wpAny_mono (ht [] s1 (start N vs) H _ I hq) (fun fl s' hs=>?_) fun e s' hs=>hs
 have fin:∀{σ':St} {H':Hp} {v:V} {u:Value},Inv (cxOf CX P w K mg base N qual scope f cdv A outer s H E) [] σ' H' s'->RelV v u->Q v H'->CE outer P w H s Q u s':=
  fun {σ' H' v u} J rv q=>⟨v,H',J.os,J.bare,J.base,J.hok,rv,q⟩
 cases fl with
 | ret u =>
   obtain⟨v,σ',H',J,rv,q⟩:=hs
   exact fin J rv q
 | next =>
   obtain⟨σ',H',J,q⟩:=hs
   exact fin (v:=V.non) (u:=Value.none) J rfl q
 | brk =>
   obtain⟨_,_,_,q⟩:=hs
   exact False.elim q
 | cont =>
   obtain⟨_,_,_,q⟩:=hs
   exact False.elim q
end L2
namespace L2
open PySem PySem.Spec PyProof.Rows
section
variable {X:Cx} {x:Str} {p pos:Pos} {e:Expr} {es:List Expr} {t:TA} {id T:String} {r:List V->Hp->VK->Prop}
noncomputable def tCB (r:List V->Hp->VK->Prop)(t:TA):TE:=fun σ H Q=>t σ H fun vs H1=>r vs H1 Q
theorem zbP (hc:zbb X (.builtin id) r)(hg:Gl X x)(hm:X.mg x=none)(hv:bootBuiltins x=some (.builtin id))(ha:PA X (e::es) t)(hn:x≠"__name__":=by decide)(hdb:(x == ("__debug__":Str))=false:=by decide)
  (he:starEach (e::es) X.env=(false,eval e X.env)::starEach es X.env:=by rfl) (hpl:(backTo pos (starEach es X.env)).any (·.1)=false:=by rfl):PE X (.Call (.Name x p) (e::es) [] pos) (tCB r t):=by
 intro pins s σ H Q I h
 refine wpAny_Call_Name_kw (zdw I hg hm hv ?_ hn hdb)
 exact PyProof.Rows.callWith_builtin1 (thn (ha pos pins s σ H _ I h) fun us s1 ⟨vs,H1,I1,r1,q1⟩=>hc pins s1 σ H1 vs us Q I1 r1 q1) he hpl
theorem zbg (hc:zbb X (.type T) r)(hg:Gl X x)(hm:X.mg x=none)(hv:bootBuiltins x=some (.type T))(ha:PA X (e::es) t)(hn:x≠"__name__":=by decide)(hdb:(x == ("__debug__":Str))=false:=by decide)
  (he:starEach (e::es) X.env=(false,eval e X.env)::starEach es X.env:=by rfl) (hpl:(backTo pos (starEach es X.env)).any (·.1)=false:=by rfl):PE X (.Call (.Name x p) (e::es) [] pos) (tCB r t):=by
 intro pins s σ H Q I h
 refine wpAny_Call_Name_kw (zdw I hg hm hv ?_ hn hdb)
 exact PyProof.Rows.callWith_type1 (thn (ha pos pins s σ H _ I h) fun us s1 ⟨vs,H1,I1,r1,q1⟩=>hc pins s1 σ H1 vs us Q I1 r1 q1) he hpl
end
end L2
namespace L2
open PySem PySem.Spec PyProof.Rows
section
variable {κ:Type} [DecidableEq κ]
noncomputable def valV (kvs:List (κ × V))(k:κ):Option V:=(kvs.find? fun kv=>decide (kv.1=k)).map (·.2)
noncomputable def putK (kvs:List (κ × V))(k:κ)(v:V):List (κ × V):=
 if (kvs.any fun kv=>decide (kv.1=k))=true then kvs.map (fun kv=>if kv.1=k then (kv.1,v) else kv) else kvs++[(k,v)]
theorem zdG {p:κ × V}{r:List (κ × V)}{k:κ}(e:p.1=k):valV (p::r) k=some p.2:=by simp[valV,List.find?_cons,e]
theorem zdH {p:κ × V}{r:List (κ × V)}{k:κ}(e:¬p.1=k):valV (p::r) k=valV r k:=by simp[valV,List.find?_cons,e]
theorem zfE (k:κ):∀kvs:List (κ × V),(kvs.any fun kv=>decide (kv.1=k))=(valV kvs k).isSome
 | []=>rfl
 | p :: r => by
   rw[List.any_cons]
   by_cases e:p.1=k
   · simp only[zdG e,decide_eq_true e,Bool.true_or,Option.isSome_some]
   · rw[zdH e,decide_eq_false e,Bool.false_or];exact zfE k r
theorem zcR (kvs:List (κ × V))(k:κ)(v:V):(putK kvs k v).length<=kvs.length+1:=by
 unfold putK
 split
 · rw[List.length_map];omega
 · rw[List.length_append,List.length_cons,List.length_nil];omega
theorem RelO.isSome_eq {o:Option V}{u:Option Value}(r:RelO o u):o.isSome=u.isSome:=by
 cases o with
 | none => cases u with
   |none=>rfl
   |some _=>exact (show False from r).elim
 | some _ => cases u with
   |none=>exact (show False from r).elim
   |some _=>rfl
theorem RelO.getD {o:Option V}{u:Option Value}{d:V}{d':Value}(r:RelO o u)(rd:RelV d d'):RelV (o.getD d) (u.getD d'):=by
 cases o with
 | none => cases u with
   |none=>exact rd
   |some _=>exact (show False from r).elim
 | some _ => cases u with
   |none=>exact (show False from r).elim
   |some _=>exact r
theorem KV.val {kvs:List (κ × V)}{vs:List (κ × Value)}(r:KV kvs vs)(k:κ):RelO (valV kvs k) (valueAt vs k):=by
 unfold KV at r
 induction r with
 |nil=>exact True.intro
 | @cons p q ps qs h t ih =>
   obtain⟨h1,h2⟩:=h
   by_cases e:p.1=k
   · have e':q.1=k:=h1.symm.trans e
     have b:valueAt (q::qs) k=some q.2:=by simp[valueAt,List.find?_cons,e']
     rw[zdG e,b];exact h2
   · have e':¬q.1=k:=fun z=>e (h1.trans z)
     have b:valueAt (q::qs) k=valueAt qs k:=by simp[valueAt,List.find?_cons,e']
     rw[zdH e,b];exact ih
theorem KV.any {kvs:List (κ × V)}{vs:List (κ × Value)}(r:KV kvs vs)(k:κ):(kvs.any fun kv=>decide (kv.1=k))=vs.any fun kv=>decide (kv.1=k):=by
 unfold KV at r
 induction r with
 |nil=>rfl
 |cons h t ih=>rw[List.any_cons,List.any_cons,ih,h.1]
theorem KV.repl {kvs:List (κ × V)}{vs:List (κ × Value)}(r:KV kvs vs)(k:κ){y:V}{u:Value}(ry:RelV y u) :
  KV (kvs.map fun kv=>if kv.1=k then (kv.1,y) else kv) (vs.map fun kv=>if kv.1=k then (kv.1,u) else kv):=by
 unfold KV at r⊢
 induction r with
 |nil=>exact .nil
 | @cons p q ps qs h t ih =>
   rw[List.map_cons,List.map_cons]
   refine .cons ?_ ih
   obtain⟨h1,h2⟩:=h
   by_cases e:p.1=k
   · rw[if_pos e,if_pos (h1.symm.trans e)];exact⟨h1,ry⟩
   · rw[if_neg e,if_neg (fun z=>e (h1.trans z))];exact⟨h1,h2⟩
theorem KV.put {kvs:List (κ × V)}{vs:List (κ × Value)}(r:KV kvs vs)(k:κ){y:V}{u:Value}(ry:RelV y u):KV (putK kvs k y) (stored vs k u):=by
 unfold putK stored
 rw[r.any k]
 by_cases e:(vs.any fun kv=>decide (kv.1=k))=true
 · rw[if_pos e,if_pos e];exact r.repl k ry
 · rw[if_neg e,if_neg e];exact Paired.snoc r ⟨rfl,ry⟩
theorem KV.length {kvs:List (κ × V)}{vs:List (κ × Value)}(r:KV kvs vs):kvs.length=vs.length:=Paired.length r
end
theorem zji {P:Program}{w:World}{k:Key}{u:Value}(r:RelV (kV k) u):(zap P w).is k u=true:=by
 cases k with
 |inl i=>obtain⟨t,e⟩:=(show ∃t,u=Value.int i t from r);subst e;exact zfm P w i t
 |inr x=>obtain⟨t,e⟩:=(show ∃t,u=Value.str x t from r);subst e;exact zfl P w x t
theorem zeJ {P:Program}{w:World}:∀{ks:List Key} {us:List Value},Vals (ks.map kV) us->ItemsAre (zap P w) ks us
 | [],_,r=>by rw[List.map_nil] at r;cases r;exact .nil
 | k :: ks, _, r => by
   rw[List.map_cons] at r
   cases r with
   |cons h t=>exact .cons (zji h) (zeJ t)
noncomputable abbrev KT (H:Hp):List (List Key × V)->List (List Key × Addr × Value)->Prop:=Paired fun p q=>p.1=q.1/\H q.2.1=some (.tup (p.1.map kV))/\RelV p.2 q.2.2
theorem KT.val {H:Hp}{kvs:List (List Key × V)}{xs:List (List Key × Addr × Value)}(r:KT H kvs xs)(k:List Key):RelO (valV kvs k) ((atKey xs k).map (·.2)):=by
 induction r with
 |nil=>exact True.intro
 | @cons p q ps qs h t ih =>
   obtain⟨h1,_,h2⟩:=h
   by_cases e:p.1=k
   · have e':q.1=k:=h1.symm.trans e
     have b:atKey (q::qs) k=some q.2:=by simp[atKey,List.find?_cons,e']
     rw[zdG e,b];exact h2
   · have e':¬q.1=k:=fun z=>e (h1.trans z)
     have b:atKey (q::qs) k=atKey qs k:=by simp[atKey,List.find?_cons,e']
     rw[zdH e,b];exact ih
theorem KT.repl {H:Hp}{kvs:List (List Key × V)}{xs:List (List Key × Addr × Value)}(r:KT H kvs xs)(k:List Key){y:V}{u:Value}(ry:RelV y u) :
  KT H (kvs.map fun kv=>if kv.1=k then (kv.1,y) else kv) (xs.map (putAt k u)):=by
 induction r with
 |nil=>exact .nil
 | @cons p q ps qs h t ih =>
   rw[List.map_cons,List.map_cons]
   refine .cons ?_ ih
   obtain⟨h1,h2,h3⟩:=h
   unfold putAt
   by_cases e:p.1=k
   · rw[if_pos e,if_pos (h1.symm.trans e)];exact⟨h1,h2,ry⟩
   · rw[if_neg e,if_neg (fun z=>e (h1.trans z))];exact⟨h1,h2,h3⟩
theorem KT.put {H:Hp}{kvs:List (List Key × V)}{xs:List (List Key × Addr × Value)}(r:KT H kvs xs)(k:List Key){b:Addr}{y:V}{u:Value}(hb:H b=some (.tup (k.map kV)))(ry:RelV y u) :
  KT H (putK kvs k y) (storedH xs k b u):=by
 have e:(kvs.any fun kv=>decide (kv.1=k))=(atKey xs k).isSome:=by
  rw[zfE,(r.val k).isSome_eq,Option.isSome_map]
 unfold putK storedH
 rw[e]
 by_cases q:(atKey xs k).isSome=true
 · rw[if_pos q,if_pos q];exact r.repl k ry
 · rw[if_neg q,if_neg q];exact Paired.snoc r ⟨rfl,hb,ry⟩
theorem KT.keeps {H H':Hp}{kvs:List (List Key × V)}{xs:List (List Key × Addr × Value)}(r:KT H kvs xs)(ht:∀b ys,H b=some (.tup ys)->H' b=some (.tup ys)):KT H' kvs xs:=
 Paired.mapP r fun _ _ z=>⟨z.1,ht _ _ z.2.1,z.2.2⟩
section
variable {P:Program} {w:World} {H:Hp} {h:Heap} {a:Addr}
theorem zml {u:HO}(ok:HOk P w H h)(e:Rd H a u):ObjOk P w H h a u:=e.ok ok
theorem zjw {kvs:List (Key × V)}(ok:HOk P w H h)(e:Rd H a (.dK kvs)):kvs.length<=sizeLine/\(a == sysModules)=false/\∃vs,KV kvs vs/\h.DictOf (zap P w) a vs:=
 show ObjOk P w H h a (.dK kvs) from zml ok e
theorem zow {kvs:List (Key × V)}(ok:HOk P w H h)(e:H a=some (.dK kvs)):kvs.length<=sizeLine/\(a == sysModules)=false/\∃vs,KV kvs vs/\h.DictOf (zap P w) a vs:=zjw ok (.inl e)
theorem zeI {ks:List Key}(ok:HOk P w H h)(e:H a=some (.tup (ks.map kV))):(tupleKind (zap P w)).is h ks a:=by
 obtain⟨_,its,r,o,h1,h2,n,h3⟩:=(show ObjOk P w H h a (.tup (ks.map kV)) from ok a _ e)
 exact⟨o,its.toArray,n,h1,h2,h3,by simpa using zeJ r⟩
theorem zll {kvs:List (List Key × V)}(ok:HOk P w H h)(e:Rd H a (.dT kvs)):kvs.length<=sizeLine/\(a == sysModules)=false/\
  ∃xs,KT H kvs xs/\h.DictOfH (tupleKind (zap P w)) a xs:=by
 obtain⟨z,y,xs,r,o,es,ep,h1,h2,h3,h4,h5⟩:=(show ObjOk P w H h a (.dT kvs) from zml ok e)
 refine⟨z,y,xs,r,o,es,ep,h1,h2,h3,h4,fun x hx=>?_,h5⟩
 have all:∀{l:List (List Key × V)} {m:List (List Key × Addr × Value)},KT H l m->∀x∈m,(tupleKind (zap P w)).is h x.1 x.2.1:=by
  intro l m q
  induction q with
  |nil=>intro x hx;exact nomatch hx
  | @cons p q ps qs hq t ih =>
    intro x hx
    rcases List.mem_cons.mp hx with e|hx
    · subst e
      exact zeI ok (by rw[<-hq.1];exact hq.2.1)
    · exact ih x hx
 exact all r x hx
theorem zgF {kvs:List (List Key × V)}(ok:HOk P w H h)(e:H a=some (.dT kvs)):kvs.length<=sizeLine/\(a == sysModules)=false/\
 ∃xs,KT H kvs xs/\h.DictOfH (tupleKind (zap P w)) a xs:=zll ok (.inl e)
end
noncomputable def DGet (H:Hp)(a:Addr)(y:V)(r:Option V):Prop:=
 (∃kvs k,Rd H a (.dK kvs)/\y=kV k/\r=valV kvs k)\/∃kvs k b,Rd H a (.dT kvs)/\y=.ref b/\H b=some (.tup (k.map kV))/\r=valV kvs k
noncomputable def DPut (H:Hp)(a:Addr)(y v:V)(H':Hp):Prop:=
 (∃kvs k,H a=some (.dK kvs)/\y=kV k/\kvs.length<sizeLine/\H'=upd H a (.dK (putK kvs k v)))\/
 ∃kvs k b,H a=some (.dT kvs)/\y=.ref b/\H b=some (.tup (k.map kV))/\kvs.length<sizeLine/\H'=upd H a (.dT (putK kvs k v))
theorem DGet.k {H:Hp}{a:Addr}{kvs:List (Key × V)}{k:Key}(e:H a=some (.dK kvs)):DGet H a (kV k) (valV kvs k):=.inl ⟨kvs,k,.inl e,rfl,rfl⟩
theorem DGet.t {H:Hp}{a b:Addr}{kvs:List (List Key × V)}{k:List Key}(e:H a=some (.dT kvs))(eb:H b=some (.tup (k.map kV))):DGet H a (.ref b) (valV kvs k):=.inr ⟨kvs,k,b,.inl e,rfl,eb,rfl⟩
theorem DPut.k {H:Hp}{a:Addr}{kvs:List (Key × V)}{k:Key}{v:V}(e:H a=some (.dK kvs))(hl:kvs.length<sizeLine):DPut H a (kV k) v (upd H a (.dK (putK kvs k v))):=.inl ⟨kvs,k,e,rfl,hl,rfl⟩
theorem DPut.t {H:Hp}{a b:Addr}{kvs:List (List Key × V)}{k:List Key}{v:V}(e:H a=some (.dT kvs))(eb:H b=some (.tup (k.map kV)))(hl:kvs.length<sizeLine) :
 DPut H a (.ref b) v (upd H a (.dT (putK kvs k v))):=.inr ⟨kvs,k,b,e,rfl,eb,hl,rfl⟩
section
variable {X:Cx} {pins:List (Addr × Obj)} {σ:St} {H:Hp} {s:Shared} {a:Addr} {y v:V} {u r:Value} {o:Option V} {A:Around} {E:Value->Shared->Prop}
theorem Inv.big (I:Inv X pins σ H s):sysModules<s.heap.objs.size:=by
 have h:mainGlobals<s.heap.objs.size:=(I.mod.glob.keeps I.bk).lt
 exact Nat.lt_trans (by decide) h
theorem d_in {Q:Value->Shared->Prop}(hu:A.units+1<cLine)(I:Inv X pins σ H s)(g:DGet H a y o)(ry:RelV y u)(h:∀s',Inv X pins σ H s'->Q (.bool o.isSome) s') :
  wpAny (model X.prog X.w) A (compareOp .In u (.ref a)) Q E s:=by
 rcases g with ⟨kvs,k,e,ey,l⟩|⟨kvs,k,b,e,ey,eb,l⟩
 · subst ey
   obtain⟨z,hd,vs,rel,dd⟩:=zjw I.hok e
   refine wpAny_in_of (zji ry) hd dd.mapOf ?_
   rw[<-(rel.val k).isSome_eq,<-l]
   exact h _ (I.tok _)
 · subst ey
   cases (show u=Value.ref b from ry)
   obtain⟨z,hd,xs,rel,dd⟩:=zll I.hok e
   refine wpAny_in_heap (tupleKind_room_in1 hu) (zeI I.hok eb) hd dd ?_
   have q:=(rel.val k).isSome_eq
   rw[Option.isSome_map] at q
   rw[<-q,<-l]
   exact h _ (I.tok _)
theorem zln {Q:Value->Shared->Prop}(hu:A.units+1<cLine)(I:Inv X pins σ H s)(g:DGet H a y o)(ry:RelV y u)(h:∀s',Inv X pins σ H s'->Q (.bool (!o.isSome)) s') :
  wpAny (model X.prog X.w) A (compareOp .NotIn u (.ref a)) Q E s:=by
 rcases g with ⟨kvs,k,e,ey,l⟩|⟨kvs,k,b,e,ey,eb,l⟩
 · subst ey
   obtain⟨z,hd,vs,rel,dd⟩:=zjw I.hok e
   refine wpAny_notIn_of (zji ry) hd dd.mapOf ?_
   rw[<-(rel.val k).isSome_eq,<-l]
   exact h _ (I.tok _)
 · subst ey
   cases (show u=Value.ref b from ry)
   obtain⟨z,hd,xs,rel,dd⟩:=zll I.hok e
   refine wpAny_notIn_heap (tupleKind_room_in1 hu) (zeI I.hok eb) hd dd ?_
   have q:=(rel.val k).isSome_eq
   rw[Option.isSome_map] at q
   rw[<-q,<-l]
   exact h _ (I.tok _)
theorem zft {h':Heap}{t':Nat}{ob:HO}(I:Inv X pins σ H s)(mu:Mut (H a))(hs:Heap.SameBut a s.heap h')(he:∃q,h'.get? a=some q)(new:ObjOk X.prog X.w (upd H a ob) h' a ob) :
  Inv X pins σ (upd H a ob) {s with heap:=h',toks:=t'}:=
 I.write (x:=a) (e:=a) mu (.inl rfl) (fun b q hb z=>(hs.2 b hb).trans z) he new
theorem znq {P:Program}{w:World}{H':Hp}{h':Heap}{kvs:List (Key × V)}{vs:List (Key × Value)}(z:kvs.length<=sizeLine)(hd:(a == sysModules)=false)(rel:KV kvs vs)(dd:h'.DictOf (zap P w) a vs) :
 ObjOk P w H' h' a (.dK kvs):=⟨z,hd,vs,rel,dd⟩
theorem zic {H':Hp}{Q:Unit->Shared->Prop}(hu:A.units+1<cLine)(I:Inv X pins σ H s)(g:DPut H a y v H')(ry:RelV y u)(rv:RelV v r)(h:∀s',Inv X pins σ H' s'->Q () s') :
  wpAny (model X.prog X.w) A (setItem (.ref a) u r) Q E s:=by
 rcases g with ⟨kvs,k,e,ey,l,eH⟩|⟨kvs,k,b,e,ey,eb,l,eH⟩
 · subst ey eH
   obtain⟨z,hd,vs,rel,dd⟩:=zow I.hok e
   have hz:vs.length<=sizeLine:=by rw[<-rel.length];exact z
   have hl:(putK kvs k v).length<=sizeLine:=by have:=zcR kvs k v;omega
   refine wpAny_setItem_pairs (hsz:=hz) (zji ry) dd fun h' dd' hs=>h _ ?_
   have he:∃q,h'.get? a=some q:=let ⟨q,_,_,hq,_⟩:=dd';⟨q,hq⟩
   exact zft I (by rw[e];exact True.intro) hs he (znq hl hd (rel.put k rv) dd')
 · subst ey eH
   cases (show u=Value.ref b from ry)
   obtain⟨z,hd,xs,rel,dd⟩:=zgF I.hok e
   have hz:xs.length<=sizeLine:=by rw[<-Paired.length rel];exact z
   have hl:(putK kvs k v).length<=sizeLine:=by have:=zcR kvs k v;omega
   refine wpAny_setItem_heap (hsz:=hz) (tupleKind_room_in1 hu) (zeI I.hok eb) dd fun h' dd' hs=>h _ ?_
   obtain⟨q,es,ep,hq,h2,h3,h4,_,h5⟩:=dd'
   refine zft I (by rw[e];exact True.intro) hs ⟨q,hq⟩ ⟨hl,hd,_,(rel.put k eb rv).keeps fun c ys ec=>?_,q,es,ep,hq,h2,h3,h4,h5⟩
   rw[zam (ne_of ec e (fun z=>nomatch z))]
   exact ec
end
section
variable {X:Cx} {pins:List (Addr × Obj)} {σ:St} {H:Hp} {s:Shared} {a:Addr} {kvs:List (Key × V)} {k:Key} {u:Value} {A:Around} {E:Value->Shared->Prop}
theorem zox {Q:Value->Shared->Prop}(I:Inv X pins σ H s)(e:Rd H a (.dK kvs))(h:∀t s',Inv X pins σ H s'->Q (.int kvs.length t) s'):wpAny (model X.prog X.w) A (call (.builtin "len") [.ref a]) Q E s:=by
 obtain⟨z,hd,vs,rel,dd⟩:=zjw I.hok e
 refine call_len_dict hd dd (by rw[<-rel.length];rw[sizeLine_eq] at z;omega) ?_
 rw[<-rel.length]
 exact h _ _ (I.tok _)
end
section
variable {X:Cx} {o i e value:Expr} {pos pos' tpos:Pos} {td ty tv:TE}
end
theorem zjx {P:Program}{w:World}{H:Hp}(h:Heap)(hb:sysModules<h.objs.size):ObjOk P w H (h.push {cls:=.type "dict",data:=.dict #[]}) h.objs.size (.dK []):=
 ⟨Nat.zero_le _,beq_eq_false_iff_ne.mpr (Ne.symm (Nat.ne_of_lt hb)),[],.nil,Heap.DictOf.new h⟩
theorem zjv {P:Program}{w:World}{H:Hp}(h:Heap)(hb:sysModules<h.objs.size):ObjOk P w H (h.push {cls:=.type "dict",data:=.dict #[]}) h.objs.size (.dT []):=
 ⟨Nat.zero_le _,beq_eq_false_iff_ne.mpr (Ne.symm (Nat.ne_of_lt hb)),[],.nil,_,#[],0,Heap.get?_push_size _ rfl,⟨rfl,rfl,rfl⟩,rfl,rfl,List.nodup_nil⟩
noncomputable def zlQ:TE:=fun _ H Q=>∀p,H p=none->Q (.ref p) (upd H p (.dK []))
noncomputable def zlP:TE:=fun _ H Q=>∀p,H p=none->Q (.ref p) (upd H p (.dT []))
section
variable {X:Cx} {pos:Pos}
theorem zi3:PE X (.Dict [] [] pos) zlQ:=fun pins s σ H Q I h=>
 wpAny_Dict_empty ⟨.ref s.heap.objs.size,_,I.laid (a:=s.heap.objs.size) (o:=.dK []) (t':=s.toks) (fun _ _ q=>Heap.get?_push_of_some _ q) (Nat.le_refl _) (zjx s.heap I.big),rfl,h _ (I.hok.fresh (Nat.le_refl _))⟩
theorem zi2:PE X (.Dict [] [] pos) zlP:=fun pins s σ H Q I h=>
 wpAny_Dict_empty ⟨.ref s.heap.objs.size,_,I.laid (a:=s.heap.objs.size) (o:=.dT []) (t':=s.toks) (fun _ _ q=>Heap.get?_push_of_some _ q) (Nat.le_refl _) (zjv s.heap I.big),rfl,h _ (I.hok.fresh (Nat.le_refl _))⟩
end
structure M1 (X:Cx) (o:Expr) (m:Str) (apos:Pos) (e:Expr) (cpos:Pos):Prop where
 base:attributeBase o m X.env (eval o X.env)=eval o X.env
 few:((backTo cpos (starEach [e] X.env)).all (fun x=>!x.1)&&(backToKw cpos (keywordEach [] X.env)).all (fun x=>x.1.isSome)
  && decide (([e]:List Expr).length+([]:List Keyword).length+(if ([]:List Keyword).isEmpty then 0 else 1)<30))=true
 line:(apos.endLine == cpos.line)=true
 trees:backTo cpos (starEach [e] X.env)=[(false,eval e X.env)]
structure M2 (X:Cx) (o:Expr) (m:Str) (apos:Pos) (e f:Expr) (cpos:Pos):Prop where
 base:attributeBase o m X.env (eval o X.env)=eval o X.env
 few:((backTo cpos (starEach [e,f] X.env)).all (fun x=>!x.1)&&(backToKw cpos (keywordEach [] X.env)).all (fun x=>x.1.isSome)
  && decide (([e,f]:List Expr).length+([]:List Keyword).length+(if ([]:List Keyword).isEmpty then 0 else 1)<30))=true
 line:(apos.endLine == cpos.line)=true
 trees:backTo cpos (starEach [e,f] X.env)=[(false,eval e X.env),(false,eval f X.env)]
section
variable {X:Cx} {pins:List (Addr × Obj)} {σ:St} {H:Hp} {s:Shared} {a:Addr} {y d:V} {u r:Value} {o:Option V} {A:Around} {E:Value->Shared->Prop}
end
section
variable {X:Cx} {o e f:Expr} {apos cpos:Pos} {td ty tx:TE}
end
section
variable {X:Cx} {pins:List (Addr × Obj)} {σ:St} {H:Hp} {s:Shared} {a:Addr} {kvs:List (Key × V)} {A:Around} {E:Value->Shared->Prop}
end
section
variable {X:Cx} {pins:List (Addr × Obj)} {σ:St} {H:Hp} {s:Shared} {a:Addr} {y:V} {u:Value} {A:Around} {E:Value->Shared->Prop}
end
end L2
namespace HT
open PySem PyProof.Rows
noncomputable def lexLt:List Int->List Int->Bool
 | [],[]=>false
 | [],_::_=>true
 |_::_,[]=>false
 |x::xs,y::ys=>if x=y then lexLt xs ys else decide (x<y)
theorem zgy (x y:Int)(xs ys:List Int):lexLt (x::xs) (y::ys)=if x=y then lexLt xs ys else decide (x<y):=rfl
theorem zdY:lexLt [] []=false:=rfl
theorem zdm (y:Int)(ys:List Int):lexLt [] (y::ys)=true:=rfl
theorem zdn (x:Int)(xs:List Int):lexLt (x::xs) []=false:=rfl
theorem zjt (A:Around)(s:Shared)(a:Int)(t:Tok)(c:Int)(u:Tok):∃e,SeqAt.EqAt A s (.int a t) (.int c u) e/\(e=true↔a=c):=
 ⟨(a == c),SeqAt.EqAt.int_int a t c u,by simp⟩
theorem ziN (A:Around)(s:Shared)(a:Int)(t:Tok)(c:Int)(u:Tok)(prog:Program)(w:World)(E:Value->Shared->Prop)(Q:Value->Shared->Prop)(h:Q (.bool (decide (a<c))) s) :
  wpAny (model prog w) A (richCompare .Lt (.int a t) (.int c u)) Q E s:=
 (PyProof.Rows.lt_int h:wpAny (model prog w) A (compareOp .Lt (.int a t) (.int c u)) Q E s)
section
open PySem.SeqAt
open PySem.AutoSeq1 (wpAny_loadPart')
open PySem.MeetsSeq PySem.MeetsSeq2 PySem.MeetsSeq3
theorem zdJ (l b:Addr)(items items2:Array Value)(n n2:Nat)(dd dd2:Option Addr)(sl sl2:Array (Option Value))(ns ms:List Int)(hi:IntsAre items.toList ns)(hj:IntsAre items2.toList ms) :
  Meets (Builtin.«tuple.__lt__» ⟨[.ref l,.ref b],[]⟩)
   (fun _ R s=>s.heap.get? l=some {cls:=.type "tuple",dict:=dd,data:=.seq items n,slots:=sl}/\s.heap.get? b=some {cls:=.type "tuple",dict:=dd2,data:=.seq items2 n2,slots:=sl2}/\
    R (.ok (.ret (.bool (lexLt ns ms)))) s):=
 .of_wp fun prog w A R s h=>by
  obtain⟨hp,g,d,tk,os⟩:=s;obtain⟨hl,hb,h⟩:=h
  have f2:=AutoSeq1.sub_tuple_tuple
  have z1:items.size=ns.length:=by rw[<-hi.length];simp
  have z2:items2.size=ms.length:=by rw[<-hj.length];simp
  wp_walk using wpAny_loadPart' hl,wpAny_loadPart' hb,wpAny_forIn_list _ (fun rest b s'=>b.1=none/\s'=⟨hp,g,d,tk,os⟩/\∃(vs ws:List Value) (ns' ms':List Int),rest=vs.zip ws/\
   IntsAre vs ns'/\IntsAre ws ms'/\ns'.length+items2.size=ms'.length+items.size/\R (.ok (.ret (.bool (lexLt ns' ms')))) ⟨hp,g,d,tk,os⟩) _
  case turn=>
   rintro⟨y,x⟩ rest b s' ⟨hb',rfl,vs,ws,ns',ms',hz,hvi,hwi,hlen,hR⟩
   cases hvi with
   |nil=>rw[List.zip_nil_left] at hz;cases hz
   | cons a t hvi' =>
     cases hwi with
     |nil=>rw[List.zip_nil_right] at hz;cases hz
     | cons c u hwi' =>
       rw[List.zip_cons_cons] at hz
       injection hz with hyx hrest
       injection hyx with hy hx
       subst hy hx
       rw[zgy] at hR
       simp only[List.length_cons] at hlen
       obtain⟨e,he,hiff⟩:=zjt A.in1 ⟨hp,g,d,tk,os⟩ a t c u
       refine wpAny_bind (he prog w _ _ ?_)
       cases e with
       | true =>
         rw[if_pos (hiff.mp rfl)] at hR
         wp_walk
         exact⟨rfl,rfl,_,_,_,_,hrest,hvi',hwi',by omega,hR⟩
       | false =>
         rw[if_neg (fun q=>absurd (hiff.mpr q) Bool.false_ne_true)] at hR
         have hri:=ziN A.in1 ⟨hp,g,d,tk,os⟩ a t c u prog w
         wp_walk using hri
         exact⟨_,rfl,by simpa using hR⟩
  case fin=>
   rintro⟨b1,b2⟩ s' ⟨hb',rfl,vs,ws,ns',ms',hz,hvi,hwi,hlen,hR⟩
   simp only at hb'
   subst hb'
   have hv:lexLt ns' ms'=decide (items.size<items2.size):=by
    cases hvi with
    | nil =>
      cases hwi with
      | nil =>
        simp only[List.length_nil] at hlen
        rw[zdY]
        exact (decide_eq_false (by omega)).symm
      | cons c u hw =>
        simp only[List.length_nil,List.length_cons] at hlen
        rw[zdm]
        exact (decide_eq_true (by omega)).symm
    | cons a t hv =>
      cases hwi with
      | nil =>
        simp only[List.length_nil,List.length_cons] at hlen
        rw[zdn]
        exact (decide_eq_false (by omega)).symm
      | cons c u hw =>
        rw[List.zip_cons_cons] at hz
        cases hz
   rw[hv] at hR
   wp_walk
   exact⟨_,rfl,by simpa[Builtin.Tuple.tupleCompareSizes] using hR⟩
  case h=>
   exact⟨rfl,rfl,items.toList,items2.toList,ns,ms,rfl,hi,hj,by omega,h⟩
end
section
variable {prog:Program} {w:World} {A:Around} {E:Value->Shared->Prop} {s:Shared}
theorem lt_tupInts {l b:Addr}{items items2:Array Value}{ns ms:List Int}{Q:Value->Shared->Prop}(hl:IsTup s.heap l items)(hb:IsTup s.heap b items2)(hi:IntsAre items.toList ns)(hj:IntsAre items2.toList ms)
  (hu:A.units<cLine) (h:Q (.bool (lexLt ns ms)) s):wpAny (model prog w) A (compareOp .Lt (.ref l) (.ref b)) Q E s:=by
 obtain⟨⟨cls,dd,data,sl⟩,ho,hc,n,hd⟩:=id hl
 obtain⟨⟨cls2,dd2,data2,sl2⟩,ho2,hc2,n2,hd2⟩:=id hb
 simp only at hc hd hc2 hd2
 subst hc hd hc2 hd2
 exact richCompare_meets_room (op:=.Lt) ⟨_,ho,rfl⟩ ⟨_,ho2,rfl⟩ PySem.F.slot_tuple_lt PySem.F.entry_tuple_lt (PySem.F.args_tuple_lt_2 _ _) (zdJ l b items items2 n n2 dd dd2 sl sl2 ns ms hi hj)
  ⟨ho,ho2,show Value.bool (lexLt ns ms)≠Value.notImplemented/\Q (.bool (lexLt ns ms)) s from⟨(fun x=>nomatch x),h⟩⟩ hu
theorem cat_tup {t b:Addr}{vs ws:List Value}{Q:Value->Shared->Prop}(ht:IsTup s.heap t vs.toArray)(hb:IsTup s.heap b ws.toArray)(hv:vs≠[])
  (h1:ws=[]->Q (.ref t) s) (h2:ws≠[]->Q (.ref s.heap.objs.size) {s with heap:=s.heap.push {cls:=.type "tuple",data:=.seq (vs++ws).toArray}})
  (hsz:vs.length+ws.length<=sizeLine):wpAny (model prog w) A (binaryOp .Add (.ref t) (.ref b)) Q E s:=by
 obtain⟨⟨cls,dd,data,sl⟩,ho,hc,n,hd⟩:=id ht
 obtain⟨⟨cls2,dd2,data2,sl2⟩,ho2,hc2,n2,hd2⟩:=id hb
 simp only at hc hd hc2 hd2
 subst hc hd hc2 hd2
 have e:vs.toArray++ws.toArray=(vs++ws).toArray:=by simp
 by_cases hw:ws=[]
 · exact concat_meets ⟨_,ho,rfl⟩ ⟨_,ho2,rfl⟩ noFill_tuple_add seq_tuple_add PySem.F.slot_tuple_add PySem.F.entry_tuple_add (PySem.F.args_tuple_add_2 _ _)
    (tuple_addW1 t b vs.toArray ws.toArray n n2 dd dd2 sl sl2 (by simpa using hv) (by simp[hw])) ⟨ho,ho2,h1 hw⟩
 · refine concat_meets ⟨_,ho,rfl⟩ ⟨_,ho2,rfl⟩ noFill_tuple_add seq_tuple_add PySem.F.slot_tuple_add PySem.F.entry_tuple_add (PySem.F.args_tuple_add_2 _ _)
    (tuple_addW2 t b vs.toArray ws.toArray n n2 dd dd2 sl sl2 (by simpa using hv) (by simpa using hw) (by rw[List.size_toArray,List.size_toArray];exact hsz)) ⟨ho,ho2,?_⟩
   rw[e]
   exact h2 hw
noncomputable def sIx (n d:Nat):Option Int->Nat
 |none=>d
 |some v=>if v<0 then (v+(n:Int)).toNat else min v.toNat n
theorem zmj (n d:Nat)(hd:d<=n)(o:Option Int):sIx n d o<=n:=by
 cases o with
 |none=>exact hd
 | some v =>
   show (if v<0 then (v+(n:Int)).toNat else min v.toNat n)<=n
   by_cases hv:v<0
   · rw[if_pos hv];omega
   · rw[if_neg hv];exact Nat.min_le_right _ _
theorem zif (v:Int)(n d:Nat):(if v<0 then max (v+(n:Int)) 0 else min v (n:Int))=((sIx n d (some v):Nat):Int):=by
 show (if v<0 then max (v+(n:Int)) 0 else min v (n:Int))=(((if v<0 then (v+(n:Int)).toNat else min v.toNat n):Nat):Int)
 by_cases hv:v<0
 · simp only[if_pos hv];omega
 · simp only[if_neg hv];omega
theorem zgP (lo hi:Option Int)(n:Nat):Builtin.Slice.sliceAdjust lo hi 1 (n:Int)=(((sIx n 0 lo:Nat):Int),((sIx n n hi:Nat):Int)):=by
 have h1:¬((1:Int)<0):=by omega
 unfold Builtin.Slice.sliceAdjust
 simp only[h1,if_false]
 refine Prod.ext ?_ ?_
 · cases lo with
   |none=>rfl
   |some v=>exact zif v n 0
 · cases hi with
   |none=>rfl
   |some v=>exact zif v n n
theorem zgs (i j:Nat):Builtin.Slice.slicePlaces (i:Int) (j:Int) 1=j - i:=by
 unfold Builtin.Slice.slicePlaces
 have h1:(1:Int) > 0:=by omega
 simp only[h1,if_true,Int.ediv_one]
 split<;>omega
theorem zdt {v:Value}{o:Option Int}{Q:Option Int->Shared->Prop}(p:IsPart v o)(h:Q o s):wpAny (model prog w) A (Builtin.Slice.slicePartIndex v) Q E s:=by
 cases p with
 |none=>exact slicePart_none h
 |int i t=>exact slicePart_int h
theorem sliceApplied_gen {sl:Addr}{vl vu:Value}{lo hi:Option Int}{n:Nat}{Q:Int × Int × Nat->Shared->Prop}(hs:s.heap.IsSliceOf sl vl vu .none)(pl:IsPart vl lo)(pu:IsPart vu hi)
  (h:Q (((sIx n 0 lo:Nat):Int),1,sIx n n hi - sIx n 0 lo) s):wpAny (model prog w) A (Builtin.Slice.sliceApplied (.ref sl) (pure (n:Int))) Q E s:=by
 obtain⟨os,hos,hcs,hds⟩:=id hs
 unfold Builtin.Slice.sliceApplied Builtin.Slice.sliceFields
 refine wpAny_bind (wpAny_bind (wpAny_field hos hds (x:=vl) rfl (wpAny_bind (wpAny_field hos hds (x:=vu) rfl (wpAny_bind (wpAny_field hos hds (x:=.none) rfl (wpAny_pure ?_)))))))
 refine wpAny_bind (slicePart_none ?_)
 show wpAny _ _ (if ((1:Int) == 0)=true then _ else _) _ _ s
 rw[if_neg (by decide)]
 refine wpAny_bind (zdt pl (wpAny_bind (zdt pu (wpAny_bind (wpAny_pure ?_)))))
 show wpAny _ _ (match Builtin.Slice.sliceAdjust lo hi 1 (n:Int) with|(lo,hi)=>pure (lo,(1:Int),Builtin.Slice.slicePlaces lo hi 1)) _ _ s
 rw[zgP lo hi n]
 show wpAny _ _ (pure (((sIx n 0 lo:Nat):Int),(1:Int),Builtin.Slice.slicePlaces ((sIx n 0 lo:Nat):Int) ((sIx n n hi:Nat):Int) 1)) _ _ s
 rw[zgs]
 exact wpAny_pure h
theorem ziU (xs:Array Value)(i k:Nat):((List.range k).filterMap fun (m:Nat)=>xs[((i:Int)+(m:Int) * 1).toNat]?).toArray=((xs.toList.drop i).take k).toArray:=by
 have e:(fun (m:Nat)=>xs[((i:Int)+(m:Int) * 1).toNat]?)=fun m=>xs[i+m]?:=by
  funext m
  have:((i:Int)+(m:Int) * 1).toNat=i+m:=by omega
  rw[this]
 rw[e]
 have:=pick_run xs i k
 rw[List.filterMap_map] at this
 have e2:((fun x=>xs[x]?)∘fun x=>i+x)=fun m=>xs[i+m]?:=rfl
 rw[e2] at this
 rw[this]
theorem getItem_tuple_cut {t sl:Addr}{items:Array Value}{vl vu:Value}{lo hi:Option Int}{Q:Value->Shared->Prop}(ht:IsTup s.heap t items)(hs:s.heap.IsSliceOf sl vl vu .none)(pl:IsPart vl lo)(pu:IsPart vu hi)
  (hw:¬(sIx items.size 0 lo=0/\sIx items.size items.size hi=items.size))
  (h:Q (.ref s.heap.objs.size) {s with heap:=s.heap.push {cls:=.type "tuple",data:=.seq ((items.toList.drop (sIx items.size 0 lo)).take (sIx items.size items.size hi - sIx items.size 0 lo)).toArray}})
  (hsz:items.size<=sizeLine):wpAny (model prog w) A (getItem (.ref t) (.ref sl)) Q E s:=by
 have htake:sizeOk (.seq ((items.toList.drop (sIx items.size 0 lo)).take (sIx items.size items.size hi - sIx items.size 0 lo)).toArray):=by
  show ((items.toList.drop (sIx items.size 0 lo)).take (sIx items.size items.size hi - sIx items.size 0 lo)).toArray.size<=sizeLine
  rw[List.size_toArray,List.length_take,List.length_drop,Array.length_toList]
  omega
 have hj:sIx items.size items.size hi<=items.size:=zmj _ _ (Nat.le_refl _) hi
 obtain⟨os,hos,hcs,hds⟩:=id hs
 have hTs:s.TypeIs (.ref sl) "slice":=⟨os,hos,hcs⟩
 unfold getItem
 try with_reducible refine wpAny_holding ?_
 first|refine wpAny_bind (wpAny_pure ?_)|skip
 refine wpAny_bind (wpAny_sequenceKey ht.typeIs (by decide) ?_)
 refine wpAny_bind (wpAny_callSpecial?_slot (name:=Str.ofString "__getitem__") ht.typeIs PyProof.Rows.slot_tuple_getitem
  (wpAny_call_entry PyProof.Rows.slot_tuple_getitem ht.typeIs entry_tuple_getitem ?_ (args_tuple_getitem _ _)))
 show wpAny _ _ (Builtin.Tuple.tupleItemsOf (.ref t) >>= _) _ _ s
 refine wpAny_bind (tupleItemsOf_ ht ?_)
 refine wpAny_bind (wpAny_typeOf hTs ?_)
 rw[if_pos (by decide)]
 refine wpAny_bind (sliceApplied_gen hs pl pu ?_)
 have hno:¬((((sIx items.size 0 lo:Nat):Int) == 0&&(1:Int) == 1&&(sIx items.size items.size hi - sIx items.size 0 lo) == items.size)=true):=by
  intro q
  rw[Bool.and_eq_true,Bool.and_eq_true] at q
  have q1:((sIx items.size 0 lo:Nat):Int)=0:=eq_of_beq q.1.1
  have q2:sIx items.size items.size hi - sIx items.size 0 lo=items.size:=eq_of_beq q.2
  exact hw ⟨by omega,by omega⟩
 show wpAny _ _ (if (((sIx items.size 0 lo:Nat):Int) == 0&&(1:Int) == 1&&(sIx items.size items.size hi - sIx items.size 0 lo) == items.size)=true then _ else _) _ _ s
 rw[if_neg hno,ziU]
 first
  |exact wpAny_bind (m:=Builtin.Tuple.tupleExact _) (wpAny_newObj_type (wpAny_pure ⟨_,rfl,wpAny_pure h⟩) htake)
  |exact wpAny_bind (m:=Builtin.Tuple.tupleExact _) (wpAny_newObj_type (wpAny_bind (wpAny_pure (wpAny_pure ⟨_,rfl,wpAny_pure h⟩))) htake)
  |exact wpAny_bind (wpAny_bind (m:=Builtin.Tuple.tupleExact _) (wpAny_newObj_type (wpAny_pure (wpAny_pure ⟨_,rfl,wpAny_pure h⟩)) htake))
  |exact wpAny_bind (wpAny_bind (m:=Builtin.Tuple.tupleExact _) (wpAny_newObj_type (wpAny_pure ⟨_,rfl,wpAny_pure h⟩) htake))
end
end HT
namespace L2
open PySem PySem.Spec PyProof.Rows
noncomputable abbrev TO:=St->Hp->(Option Int->Hp->Prop)->Prop
noncomputable def PO (X:Cx)(e:Option Expr)(t:TO):Prop:=
 ∀(pins:List (Addr × Obj)) (s:Shared) (σ:St) (H:Hp) (Q:Option Int->Hp->Prop),Inv X pins σ H s->t σ H Q->
  wpAny (model X.prog X.w) X.A (evalPart e X.env) (fun u s'=>∃o H',Inv X pins σ H' s'/\IsPart u o/\Q o H') X.xe s
noncomputable def zj4:TO:=fun _ H Q=>Q none H
noncomputable def znR (t:TE):TO:=fun σ H Q=>t σ H fun x H1=>∃i,x=.int i/\Q (some i) H1
theorem zdA {ns:List Int}:∀{us:List Value},Vals (ns.map V.int) us->IntsAre us ns:=by
 induction ns with
 |nil=>intro us r;rw[List.map_nil] at r;cases r;exact .nil
 | cons n ns ih =>
   intro us r
   rw[List.map_cons] at r
   cases r with
   | cons r1 r2 =>
     obtain⟨t,e⟩:=r1
     subst e
     exact .cons n t (ih r2)
section
variable {X:Cx} {e:Expr} {te:TE} {lo hi:Option Expr} {tl th:TO} {pos p2:Pos}
theorem zkL:PO X none zj4:=by
 intro pins s σ H Q I h
 rw[evalPart_none]
 exact wpAny_pure ⟨none,H,I,.none,h⟩
theorem zkK (h:PE X e te):PO X (some e) (znR te):=by
 intro pins s σ H Q I hw
 rw[evalPart_some]
 refine thn (h pins s σ H _ I hw) fun u s1 ⟨x,H1,I1,r1,q1⟩=>?_
 obtain⟨i,rfl,q⟩:=q1
 obtain⟨t,rfl⟩:=r1
 exact⟨some i,H1,I1,.int i t,q⟩
noncomputable def SlR (X:Cx)(r:V->Option Int->Option Int->Hp->VK->Prop):Prop:=
 ∀(pins:List (Addr × Obj)) (s:Shared) (σ:St) (H:Hp) (x:V) (v vl vu:Value) (lo hi:Option Int) (sl:Addr) (Q:VK),Inv X pins σ H s->RelV x v->s.heap.IsSliceOf sl vl vu .none->IsPart vl lo->IsPart vu hi->r x lo hi H Q->
  ∃T id,typeLookup (.type T) "__getitem__"=pure (some (.builtin id))/\s.TypeIs v T/\wpAny (model X.prog X.w) X.A (getItem v (.ref sl)) (EP X pins σ Q) X.xe s
theorem SlR.or {r r':V->Option Int->Option Int->Hp->VK->Prop}(h:SlR X r)(h':SlR X r'):SlR X (fun x lo hi H Q=>r x lo hi H Q\/r' x lo hi H Q):=by
 intro pins s σ H x v vl vu lo hi sl Q I rx hs pl pu q
 rcases q with q|q
 · exact h pins s σ H x v vl vu lo hi sl Q I rx hs pl pu q
 · exact h' pins s σ H x v vl vu lo hi sl Q I rx hs pl pu q
noncomputable def tSl (r:V->Option Int->Option Int->Hp->VK->Prop)(te:TE)(tl th:TO):TE:=fun σ H Q=>te σ H fun x H1=>tl σ H1 fun l H2=>th σ H2 fun u H3=>r x l u H3 Q
theorem ziX {r:V->Option Int->Option Int->Hp->VK->Prop}(hr:SlR X r)(he:PE X e te)(hl:PO X lo tl)(hu:PO X hi th):PE X (.Subscript e (.Slice lo hi none p2) pos) (tSl r te tl th):=by
 intro pins s σ H Q I h
 refine Subscript_ (thn (he pins s σ H _ I h) fun v s1 ⟨x,H1,I1,r1,q1⟩=>?_)
 refine wpAny_Slice (thn (hl pins s1 σ H1 _ I1 q1) fun vl s2 ⟨l,H2,I2,pl,q2⟩=>thn (hu pins s2 σ H2 _ I2 q2) fun vu s3 ⟨u,H3,I3,pu,q3⟩=>?_)
 rw[evalPart_none]
 refine wpAny_pure ?_
 have I4:Inv X pins σ H3 {s3 with heap:=s3.heap.push {cls:=.type "slice",data:=.fields #[vl,vu,.none]}}:=I3.kept (t':=s3.toks) fun b ob q=>Heap.get?_push_of_some _ q
 obtain⟨T,id,hT,ht,hg⟩:=hr pins {s3 with heap:=s3.heap.push {cls:=.type "slice",data:=.fields #[vl,vu,.none]}} σ H3 x v vl vu l u s3.heap.objs.size Q I4 r1 (Heap.IsSliceOf.new ..) pl pu q3
 show wpAny (model X.prog X.w) X.A (subscriptTail e (.Slice lo hi none p2) v (.ref s3.heap.objs.size)) (EP X pins σ Q) X.xe {s3 with heap:=s3.heap.push {cls:=.type "slice",data:=.fields #[vl,vu,.none]}}
 exact tail_any (ops:=[.ref s3.heap.objs.size,v]) ht hT hg (by with_unfolding_all rfl)
noncomputable def cutV (xs:List V)(lo hi:Option Int):List V:=(xs.drop (HT.sIx xs.length 0 lo)).take (HT.sIx xs.length xs.length hi - HT.sIx xs.length 0 lo)
theorem zda (xs:List V)(lo hi:Option Int):(cutV xs lo hi).length<=xs.length:=by
 unfold cutV
 rw[List.length_take,List.length_drop]
 omega
noncomputable def rSlT (K:PySem.W.Frag):V->Option Int->Option Int->Hp->VK->Prop:=fun x lo hi H Q=>∃a xs,x=.ref a/\SqT K H a xs/\
 ¬(HT.sIx xs.length 0 lo=0/\HT.sIx xs.length xs.length hi=xs.length)/\∀p,H p=none->Q (.ref p) (upd H p (.tup (cutV xs lo hi)))
theorem zl0:SlR X (rSlT X.K):=by
 intro pins s σ H x v vl vu lo hi sl Q I rx hs pl pu h
 obtain⟨a,xs,rfl,hx,hw,q⟩:=h
 cases rx
 obtain⟨its,r,ht,hz⟩:=I.tuple hx
 have hlen:its.toArray.size=xs.length:=by rw[List.size_toArray];exact r.length.symm
 refine⟨"tuple",_,PyProof.Rows.slot_tuple_getitem.lookup,ht.typeIs,?_⟩
 refine HT.getItem_tuple_cut ht hs pl pu (by rw[hlen];exact hw) ?_ (by rw[hlen];exact hz)
 rw[hlen]
 refine⟨.ref s.heap.objs.size,_,I.laid (t':=s.toks) (o:=.tup (cutV xs lo hi)) (fun b ob q=>Heap.get?_push_of_some _ q) (Nat.le_refl _) ?_,rfl,q _ (I.hok.fresh (Nat.le_refl _))⟩
 exact⟨Nat.le_trans (zda xs lo hi) hz,_,(r.drop (HT.sIx xs.length 0 lo)).take (HT.sIx xs.length xs.length hi - HT.sIx xs.length 0 lo),IsTup.new _ _⟩
noncomputable def rLtT (K:PySem.W.Frag):R2:=fun x y H Q=>∃a b ns ms,x=.ref a/\y=.ref b/\SqT K H a (ns.map V.int)/\SqT K H b (ms.map V.int)/\Q (.bl (HT.lexLt ns ms)) H
theorem zmS (hu:X.A.units<cLine):OpR X (compareOp .Lt) (rLtT X.K):=by
 intro pins s σ H x y v u Q I rx ry h
 obtain⟨a,b,ns,ms,rfl,rfl,ha,hb,q⟩:=h
 cases rx
 cases ry
 obtain⟨its,r1,p1,_⟩:=I.tuple ha
 obtain⟨its2,r2,p2,_⟩:=I.tuple hb
 have i1:IntsAre its.toArray.toList ns:=zdA r1
 have i2:IntsAre its2.toArray.toList ms:=zdA r2
 exact HT.lt_tupInts p1 p2 i1 i2 hu ⟨.bl (HT.lexLt ns ms),H,I,rfl,q⟩
noncomputable def zn5 (K:PySem.W.Frag):R2:=fun x y H Q=>∃a b xs ys,x=.ref a/\y=.ref b/\SqT K H a xs/\SqT K H b ys/\xs≠[]/\xs.length+ys.length<=sizeLine/\
 (ys=[]->Q (.ref a) H)/\(ys≠[]->∀p,H p=none->Q (.ref p) (upd H p (.tup (xs++ys))))
theorem Vals.nil_iff {xs:List V}{us:List Value}(r:Vals xs us):us=[]↔xs=[]:=by
 cases r with
 |nil=>simp
 |cons _ _=>simp
theorem zkU:OpR X (binaryOp .Add) (zn5 X.K):=by
 intro pins s σ H x y v u Q I rx ry h
 obtain⟨a,b,xs,ys,rfl,rfl,ha,hb,hx,hz,q1,q2⟩:=h
 cases rx
 cases ry
 obtain⟨its,r1,p1,_⟩:=I.tuple ha
 obtain⟨its2,r2,p2,_⟩:=I.tuple hb
 refine HT.cat_tup p1 p2 (fun z=>hx (r1.nil_iff.mp z)) (fun z=>⟨.ref a,H,I,rfl,q1 (r2.nil_iff.mp z)⟩) (fun z=>?_) (by rw[<-r1.length,<-r2.length];exact hz)
 refine⟨.ref s.heap.objs.size,_,I.laid (t':=s.toks) (o:=.tup (xs++ys)) (fun b ob q=>Heap.get?_push_of_some _ q) (Nat.le_refl _) ?_,rfl,q2 (fun w=>z (r2.nil_iff.mpr w)) _ (I.hok.fresh (Nat.le_refl _))⟩
 exact⟨by rw[List.length_append];exact hz,_,r1.append r2,IsTup.new _ _⟩
end
end L2
namespace L2
open PySem PySem.Spec PyProof.Rows
noncomputable def ixN (n:Nat)(i:Int):Option Nat:=if 0<=i then (if i<n then some i.toNat else none) else if -(n:Int)<=i then some (i+n).toNat else none
noncomputable def atI {α:Type}(xs:List α)(i:Int):Option α:=(ixN xs.length i).bind fun j=>xs[j]?
theorem zk8 {n:Nat}{i:Int}{j:Nat}(h:ixN n i=some j):seqIndex? i n=some j/\j<n/\-(n:Int)<=i/\i<n:=by
 unfold ixN at h
 by_cases h0:0<=i
 · rw[if_pos h0] at h
   by_cases h1:i<n
   · rw[if_pos h1] at h
     have e:i.toNat=j:=Option.some.inj h
     exact⟨by rw[seqIndex_of h0 h1,e],by omega,by omega,h1⟩
   · rw[if_neg h1] at h;cases h
 · rw[if_neg h0] at h
   by_cases h1:-(n:Int)<=i
   · rw[if_pos h1] at h
     have e:(i+n).toNat=j:=Option.some.inj h
     exact⟨by rw[seqIndex_neg (by omega) h1,e],by omega,h1,by omega⟩
   · rw[if_neg h1] at h;cases h
theorem zfA {α:Type}{xs:List α}{i:Int}{v:α}(h:atI xs i=some v):∃j,seqIndex? i xs.length=some j/\xs[j]?=some v/\j<xs.length/\-(xs.length:Int)<=i/\i<xs.length:=by
 unfold atI at h
 cases e:ixN xs.length i with
 |none=>rw[e] at h;cases h
 | some j =>
   rw[e] at h
   obtain⟨h1,h2,h3,h4⟩:=zk8 e
   exact⟨j,h1,h,h2,h3,h4⟩
noncomputable def ziq (b:Expr):Prop:=∀o i,subscripted b false o i=operate [o,i] (getItem o i)
noncomputable def IxR (X:Cx)(r:R2):Prop:=
 ∀(value slice:Expr) (pins:List (Addr × Obj)) (s:Shared) (σ:St) (H:Hp) (x y:V) (v u:Value) (Q:VK),Inv X pins σ H s->RelV x v->RelV y u->r x y H Q->
  subscripted slice false v u=operate [v,u] (getItem v u)->wpAny (model X.prog X.w) X.A (subscriptTail value slice v u) (EP X pins σ Q) X.xe s
noncomputable def MtR (X:Cx)(id:String)(r:V->List V->Hp->VK->Prop):Prop:=
 ∀(pins:List (Addr × Obj)) (s:Shared) (σ:St) (H:Hp) (x:V) (xs:List V) (v:Value) (us:List Value) (Q:VK),Inv X pins σ H s->RelV x v->Vals xs us->r x xs H Q->
  wpAny (model X.prog X.w) X.A (call (.builtin id) (v::us)) (EP X pins σ Q) X.xe s
section
variable {X:Cx} {a b:Expr} {ta tb:TE} {pos:Pos}
theorem IxR.or {r r':R2}(h:IxR X r)(h':IxR X r'):IxR X (fun x y H Q=>r x y H Q\/r' x y H Q):=by
 intro value slice pins s σ H x y v u Q I rx ry q hs
 rcases q with q|q
 · exact h value slice pins s σ H x y v u Q I rx ry q hs
 · exact h' value slice pins s σ H x y v u Q I rx ry q hs
theorem zob {r:R2}(hr:IxR X r)(ha:PE X a ta)(hb:PE X b tb)(hs:ziq b):PE X (.Subscript a b pos) (tOp r ta tb):=by
 intro pins s σ H Q I h
 exact Subscript_ (binT ha hb I h fun v u s2 x y H2 I2 rx ry q=>hr a b pins s2 σ H2 x y v u Q I2 rx ry q (hs _ _))
noncomputable def rIxL (K:PySem.W.Frag):R2:=fun x y H Q=>∃p xs i v,x=.ref p/\y=.int i/\SqL K H p xs/\atI xs i=some v/\Q v H
noncomputable def rIxT (K:PySem.W.Frag):R2:=fun x y H Q=>∃p xs i v,x=.ref p/\y=.int i/\SqT K H p xs/\atI xs i=some v/\Q v H
noncomputable def rIxS:R2:=fun x y H Q=>∃z i c,x=.str z/\y=.int i/\z.length<=sizeLine/\atI z.cps.toList i=some c/\Q (.str ⟨#[c]⟩) H
theorem ix_list:IxR X (rIxL X.K):=by
 intro value slice pins s σ H x y v u Q I rx ry h hs
 obtain⟨p,xs,i,z,rfl,rfl,hq,he,q⟩:=h
 cases rx
 obtain⟨t,rfl⟩:=ry
 obtain⟨its,r,pl,hz⟩:=I.list hq
 obtain⟨j,h1,h2,h3,h4,h5⟩:=zfA he
 obtain⟨w,ew,rw'⟩:=r.get h2
 have hl:=r.length
 have hn:=zeD
 have fin:EP X pins σ Q w s:=⟨z,H,I,rw',q⟩
 by_cases h0:0<=i
 · have hj:i.toNat=j:=by
    rw[seqIndex_of h0 h5] at h1
    exact Option.some.inj h1
   exact item_listR pl.isList h0 (by omega) (by rw[hj];simpa using ew) fin hs
 · have hj:(i+(its.toArray.size:Int)).toNat=j:=by
    rw[seqIndex_neg (by omega) h4] at h1
    rw[List.size_toArray,<-hl]
    exact Option.some.inj h1
   exact subscriptTail_builtinR (x:=w) pl.isList.typeIs slot_list_getitem.lookup
    (wpAny_getItem_list_neg (Q:=fun r s'=>r=w/\EP X pins σ Q r s') pl.isList (by omega) (by rw[List.size_toArray]<;>omega) (by omega) (by rw[hj];simpa using ew) ⟨rfl,fin⟩) hs
theorem ix_tup:IxR X (rIxT X.K):=by
 intro value slice pins s σ H x y v u Q I rx ry h hs
 obtain⟨p,xs,i,z,rfl,rfl,hq,he,q⟩:=h
 cases rx
 obtain⟨t,rfl⟩:=ry
 obtain⟨its,r,pl,hz⟩:=I.tuple hq
 obtain⟨j,h1,h2,h3,h4,h5⟩:=zfA he
 obtain⟨w,ew,rw'⟩:=r.get h2
 have hl:=r.length
 have hn:=zeD
 have fin:EP X pins σ Q w s:=⟨z,H,I,rw',q⟩
 exact subscriptTail_builtinR (x:=w) pl.typeIs slot_tuple_getitem.lookup
  (getItem_tuple (j:=j) (Q:=fun r s'=>r=w/\EP X pins σ Q r s') pl (by omega) (by omega) (by rw[List.size_toArray,<-hl];exact h1) (by simpa using ew) ⟨rfl,fin⟩) hs
theorem znb:IxR X rIxS:=by
 intro value slice pins s σ H x y v u Q I rx ry h hs
 obtain⟨z,i,c,rfl,rfl,hz,he,q⟩:=h
 obtain⟨t,rfl⟩:=rx
 obtain⟨t',rfl⟩:=ry
 obtain⟨j,h1,h2,h3,h4,h5⟩:=zfA he
 have hl:z.cps.toList.length=z.length:=by simp[Str.length]
 rw[hl] at h1 h4 h5
 have hn:=zeD
 exact tail_any (typeIs_str s z t) slot_str_getitem.lookup (getItem_str (c:=c) (by
  have e1:decide (i < -(2 ^ 63:Int))=false:=decide_eq_false (by omega)
  have e2:decide (i≥2 ^ 63)=false:=decide_eq_false (by omega)
  rw[e1,e2,Bool.or_false]) (by rw[h1];simpa using h2) ⟨.str ⟨#[c]⟩,H,I.tok _,⟨_,rfl⟩,q⟩) hs
noncomputable def rIx (K:PySem.W.Frag):R2:=fun x y H Q=>rIxL K x y H Q\/rIxT K x y H Q\/rIxS x y H Q
theorem znc:IxR X (rIx X.K):=ix_list.or (ix_tup.or znb)
theorem Inv.lst {pins:List (Addr × Obj)}{σ:St}{H:Hp}{s:Shared}{p:Addr}{xs:List V}(I:Inv X pins σ H s)(h:H p=some (.lst xs)) :
  ∃(its:List Value) (n:Nat),Vals xs its/\s.heap.get? p=some {cls:=.type "list",data:=.seq its.toArray n}/\xs.length<=sizeLine:=by
 obtain⟨z,its,n,r,e⟩:=I.hok p _ h
 exact⟨its,n,r,e,z⟩
theorem zel (lo hi:Option Int)(n:Nat):(sliceBounds lo hi none n).1=((HT.sIx n 0 lo:Nat):Int)/\(sliceBounds lo hi none n).2.1=((HT.sIx n n hi:Nat):Int)/\(sliceBounds lo hi none n).2.2=1:=by
 refine⟨?_,?_,rfl⟩
 · cases lo with
   |none=>simp[sliceBounds,HT.sIx]
   | some i =>
     simp only[sliceBounds,HT.sIx,Option.getD_none,show (1:Int) > 0 by decide,if_true]
     by_cases h:i<0
     · simp only[h,if_true]<;>omega
     · simp only[h,if_false]<;>omega
 · cases hi with
   |none=>simp[sliceBounds,HT.sIx]
   | some i =>
     simp only[sliceBounds,HT.sIx,Option.getD_none,show (1:Int) > 0 by decide,if_true]
     by_cases h:i<0
     · simp only[h,if_true]<;>omega
     · simp only[h,if_false]<;>omega
theorem zdM (its:List Value)(lo hi:Option Int):slicePick its.toArray lo hi none=((its.drop (HT.sIx its.length 0 lo)).take (HT.sIx its.length its.length hi - HT.sIx its.length 0 lo)).toArray:=by
 obtain⟨h1,h2,h3⟩:=zel lo hi its.toArray.size
 unfold slicePick
 rw[h1,h2,h3]
 simp only[sliceRange_one,pick_run,List.size_toArray]<;>rfl
noncomputable def rSlL (K:PySem.W.Frag):V->Option Int->Option Int->Hp->VK->Prop:=fun x lo hi H Q=>∃a xs,x=.ref a/\SqL K H a xs/\∀p,H p=none->Q (.ref p) (upd H p (.lst (cutV xs lo hi)))
theorem zkc:SlR X (rSlL X.K):=by
 intro pins s σ H x v vl vu lo hi sl Q I rx hs pl pu h
 obtain⟨a,xs,rfl,hx,q⟩:=h
 cases rx
 obtain⟨its,r,ht,hz⟩:=I.list hx
 have hlen:=r.length
 refine⟨"list",_,slot_list_getitem.lookup,ht.isList.typeIs,?_⟩
 refine wpAny_getItem_list_slice ht.isList hs pl pu .none (by simp) ?_ (by rw[List.size_toArray]<;>omega)
 rw[zdM,<-hlen]
 refine⟨.ref s.heap.objs.size,_,I.laid (t':=s.toks) (o:=.lst (cutV xs lo hi)) (fun b ob q=>Heap.get?_push_of_some _ q) (Nat.le_refl _) ?_,rfl,q _ (I.hok.fresh (Nat.le_refl _))⟩
 exact⟨Nat.le_trans (zda xs lo hi) hz,_,0,(r.drop (HT.sIx xs.length 0 lo)).take (HT.sIx xs.length xs.length hi - HT.sIx xs.length 0 lo),Heap.get?_push_size _ rfl⟩
theorem zbK:zbb X (.builtin "len") (fun xs H Q=>∃p ys,xs=[.ref p]/\(SqL X.K H p ys\/SqT X.K H p ys)/\Q (.int ys.length) H):=by
 intro pins s σ H xs us Q I r h
 obtain⟨p,ys,rfl,hq,q⟩:=h
 obtain⟨u,rfl,rx⟩:=zgV r
 cases rx
 have hn:=zeD
 rcases hq with hq|hq
 · obtain⟨its,r',pl,hz⟩:=I.list hq
   have hlen:=r'.length
   exact Calls.call_len_list pl.isList (by simp only[List.size_toArray]<;>omega) ⟨.int ys.length,H,I.tok _,⟨s.toks+1,by rw[List.size_toArray,hlen]⟩,q⟩
 · obtain⟨its,r',pl,hz⟩:=I.tuple hq
   have hlen:=r'.length
   exact len_tuple pl (by simp only[List.size_toArray]<;>omega) ⟨.int ys.length,H,I.tok _,⟨s.toks+1,by rw[List.size_toArray,hlen]⟩,q⟩
theorem ze0:zbb X (.type "list") (fun xs H Q=>∃p ys,xs=[.ref p]/\(SqL X.K H p ys\/SqT X.K H p ys)/\∀l,H l=none->Q (.ref l) (upd H l (.lst ys))):=by
 intro pins s σ H xs us Q I r h
 obtain⟨p,ys,rfl,hq,q⟩:=h
 obtain⟨u,rfl,rx⟩:=zgV r
 cases rx
 have fin:∀(its:List Value),Vals ys its->ys.length<=sizeLine->∀(h':Heap) (c':Nat),(∀b o',s.heap.get? b=some o'->h'.get? b=some o')->
   h'.get? s.heap.objs.size=some {cls:=.type "list",dict:=none,data:=.seq its.toArray c',slots:=#[]}->EP X pins σ Q (.ref s.heap.objs.size) {s with heap:=h'}:=fun its r' hz h' c' kp e=>
  ⟨.ref s.heap.objs.size,_,I.laid (t':=s.toks) kp (Nat.le_refl _) (show ObjOk X.prog X.w _ h' _ (.lst ys) from⟨hz,its,c',r',e⟩),rfl,q _ (I.hok.fresh (Nat.le_refl _))⟩
 rcases hq with hq|hq
 · obtain⟨its,r',pl,hz⟩:=I.list hq
   have hlen:=r'.length
   obtain⟨o,ho,hc,n,hd⟩:=pl.isList
   exact call_list_seq p (.inl rfl) ho hc hd (fun h' c' kp e=>fin its r' hz h' c' kp e) (by simp only[List.size_toArray]<;>omega)
 · obtain⟨its,r',pl,hz⟩:=I.tuple hq
   have hlen:=r'.length
   obtain⟨o,ho,hc,n,hd⟩:=pl
   exact call_list_seq p (.inr rfl) ho hc hd (fun h' c' kp e=>fin its r' hz h' c' kp e) (by simp only[List.size_toArray]<;>omega)
theorem zea:zbb X (.type "tuple") (fun xs H Q=>∃p ys,xs=[.ref p]/\((SqL X.K H p ys/\∀l,H l=none->Q (.ref l) (upd H l (.tup ys)))\/(SqT X.K H p ys/\Q (.ref p) H))):=by
 intro pins s σ H xs us Q I r h
 obtain⟨p,ys,rfl,h⟩:=h
 obtain⟨u,rfl,rx⟩:=zgV r
 cases rx
 rcases h with ⟨hq,q⟩|⟨hq,q⟩
 · obtain⟨its,r',pl,hz⟩:=I.list hq
   have hlen:=r'.length
   refine call_tuple_list pl.isList (fun h' kp=>?_) (by simp only[List.size_toArray]<;>omega)
   have I1:Inv X pins σ H {s with heap:=h'}:=I.kept (t':=s.toks) kp
   have I2:Inv X pins σ (upd H h'.objs.size (.tup ys)) {s with heap:=h'.push {cls:=.type "tuple",data:=.seq its.toArray}}:=
    I1.laid (t':=s.toks) (fun b o e=>Heap.get?_push_of_some _ e) (Nat.le_refl _) (show ObjOk X.prog X.w _ _ _ (.tup ys) from⟨hz,its,r',IsTup.new _ _⟩)
   exact⟨.ref h'.objs.size,_,I2,rfl,q _ (I1.hok.fresh (Nat.le_refl _))⟩
 · obtain⟨its,r',pl,hz⟩:=I.tuple hq
   exact call_tuple_same pl ⟨.ref p,H,I,rfl,q⟩
noncomputable def tyV (K:PySem.W.Frag)(T:String)(x:V)(H:Hp):Prop:=match x with
 |.str _=>T="str"
 |.int _=>T="int"
 |.ref p=>(T="list"/\∃xs,SqL K H p xs)\/(T="tuple"/\∃o,K.lookup p=some o/\o.cls=.type "tuple"/\o.dict=none)\/
  (T="dict"/\((∃kvs,H p=some (.dK kvs))\/∃kvs,H p=some (.dT kvs)))\/(T="set"/\∃S n,H p=some (.set S n))
 |_=>False
theorem zjI {pins:List (Addr × Obj)}{σ:St}{H:Hp}{s:Shared}{T:String}{x:V}{v:Value}(I:Inv X pins σ H s)(r:RelV x v)(ty:tyV X.K T x H) :
  s.TypeIs v T/\∀a,v=.ref a->∃ob,s.heap.get? a=some ob/\ob.dict=none:=by
 cases x with
 | str z =>
   obtain⟨t,rfl⟩:=r
   cases (show T="str" from ty)
   exact⟨typeIs_str s z t,fun _ e=>nomatch e⟩
 | int i =>
   obtain⟨t,rfl⟩:=r
   cases (show T="int" from ty)
   exact⟨typeIs_int s i t,fun _ e=>nomatch e⟩
 | ref p =>
   cases r
   rcases ty with ⟨rfl,xs,hq⟩|⟨rfl,o,hk,hc,hd⟩|⟨rfl,hk⟩|⟨rfl,S,n,hk⟩
   · obtain⟨its,_,pl,_⟩:=I.list hq
     refine⟨pl.isList.typeIs,fun a e=>?_⟩
     cases e
     obtain⟨o,n,e,c,hd,_⟩:=pl
     exact⟨o,e,hd⟩
   · refine⟨⟨o,I.kIn p o hk,hc⟩,fun a e=>?_⟩
     cases e
     exact⟨o,I.kIn _ o hk,hd⟩
   · have z:∃o,s.heap.get? p=some o/\o.ExactDict:=by
      rcases hk with ⟨kvs,hk⟩|⟨kvs,hk⟩
      · obtain⟨_,_,_,_,o,_,_,e,ex,_⟩:=I.hok p _ hk
        exact⟨o,e,ex⟩
      · obtain⟨_,_,_,_,o,_,_,e,ex,_⟩:=I.hok p _ hk
        exact⟨o,e,ex⟩
     obtain⟨o,e,ex⟩:=z
     refine⟨⟨o,e,ex.1⟩,fun a e2=>?_⟩
     cases e2
     exact⟨o,e,ex.2.1⟩
   · obtain⟨o,_,_,_,e,ex,_⟩:=I.hok p _ hk
     refine⟨⟨o,e,ex.1⟩,fun a e2=>?_⟩
     cases e2
     exact⟨o,e,ex.2.1⟩
 |_=>exact False.elim ty
noncomputable def tBM0 (K:PySem.W.Frag)(T:String)(r:V->List V->Hp->VK->Prop)(to:TE):TE:=fun σ H Q=>to σ H fun x H1=>tyV K T x H1/\r x [] H1 Q
noncomputable def tBM (K:PySem.W.Frag)(T:String)(r:V->List V->Hp->VK->Prop)(to:TE)(t:TA):TE:=fun σ H Q=>to σ H fun x H1=>tyV K T x H1/\t σ H1 fun xs H2=>r x xs H2 Q
variable {o e:Expr} {es:List Expr} {to:TE} {t:TA} {name:Str} {apos cpos:Pos} {T id:String} {r:V->List V->Hp->VK->Prop}
theorem zmI (pa:PlainAttrs T)(slot:Slot T name id)(hty:typeOf (.builtin id)=pure (.type "method_descriptor"))(hm:MtR X id r)(ho:PE X o to)
  (hbase:attributeBase o name X.env (eval o X.env)=eval o X.env:=by rfl) (hline:(apos.endLine == cpos.line)=true:=by rfl):PE X (.Call (.Attribute o name apos) [] [] cpos) (tBM0 X.K T r to):=by
 intro pins s σ H Q I h
 refine wpAny_Call_method0_late hbase hline (thn (ho pins s σ H _ I h) fun v s1 ⟨x,H1,I1,r1,ty,q1⟩=>?_)
 obtain⟨h1,h2⟩:=zjI I1 r1 ty
 exact⟨T,id,pa,slot,hty,h1,h2,Calls.callWith_builtin rfl (PySem.evalArgs_none (hm pins s1 σ H1 x [] v [] Q I1 r1 .nil q1))⟩
theorem zmJ (pa:PlainAttrs T)(slot:Slot T name id)(hty:typeOf (.builtin id)=pure (.type "method_descriptor"))(hm:MtR X id r)(ho:PE X o to)(ha:PA X (e::es) t)
  (hbase:attributeBase o name X.env (eval o X.env)=eval o X.env:=by rfl)
  (hfew:((backTo cpos (starEach (e::es) X.env)).all (fun x=>!x.1)&&(backToKw cpos (keywordEach [] X.env)).all (fun x=>x.1.isSome)
   && decide ((e::es).length+([]:List Keyword).length+(if ([]:List Keyword).isEmpty then 0 else 1)<30))=true:=by rfl)
  (hline:(apos.endLine == cpos.line)=true:=by rfl) (hs:starEach (e::es) X.env=(false,eval e X.env)::starEach es X.env:=by rfl) (hplain:(backTo cpos (starEach es X.env)).any (·.1)=false:=by rfl) :
  PE X (.Call (.Attribute o name apos) (e::es) [] cpos) (tBM X.K T r to t):=by
 intro pins s σ H Q I h
 refine wpAny_Call_method_late hbase hfew hline rfl (thn (ho pins s σ H _ I h) fun v s1 ⟨x,H1,I1,r1,ty,q1⟩=>?_)
 obtain⟨h1,h2⟩:=zjI I1 r1 ty
 refine⟨T,id,pa,slot,hty,h1,h2,?_⟩
 have hA:=ha cpos pins s1 σ H1 _ I1 q1
 rw[hs] at hA⊢
 refine Calls.callWith_builtin (by show (false || (backTo cpos (starEach es X.env)).any (·.1))=false;rw[hplain]<;>rfl) (Calls.evalArgs_plain ?_)
 exact thn hA fun us s2 ⟨vs,H2,I2,r2,q2⟩=>hm pins s2 σ H2 x vs v us Q I2 r1 r2 q2
/- xs.append(e),list.index on a module's tuple .. are MtR facts of 06m -/
end
end L2
namespace L2
open PySem PySem.Spec PyProof.Rows
noncomputable def MtM (X:Cx)(id:String)(r:V->List V->Hp->VK->Prop):Prop:=
 ∀(pins:List (Addr × Obj)) (s:Shared) (σ:St) (H:Hp) (x:V) (xs:List V) (v:Value) (us:List Value) (Q:VK),Inv X pins σ H s->RelV x v->Vals xs us->r x xs H Q->
  wpAny (model X.prog X.w) X.A (call (.builtin id) (v::us)) (EP X pins σ Q) X.xe s
theorem Vals.one:∀{x:V} {us:List Value},Vals [x] us->∃u,us=[u]/\RelV x u
 |_,_,.cons r .nil=>⟨_,rfl,r⟩
theorem Vals.zero:∀{us:List Value},Vals [] us->us=[]
 |_,.nil=>rfl
theorem Vals.eraseIdx:∀{xs:List V} {us:List Value} (i:Nat),Vals xs us->Vals (xs.eraseIdx i) (us.eraseIdx i)
 |_,_,_,.nil=>.nil
 |_,_,0,.cons _ t=>t
 |_,_,i+1,.cons r t=>.cons r (Vals.eraseIdx i t)
theorem zeG {α:Type}:∀(l:List α) (i:Nat),(l.eraseIdx i).length<=l.length
 | [],_=>Nat.le_refl _
 |_::_,0=>Nat.le_succ _
 |_::r,i+1=>Nat.succ_le_succ (zeG r i)
section
variable {X:Cx} {pins:List (Addr × Obj)} {σ:St} {H:Hp} {s:Shared} {l b:Addr} {xs ys zs:List V}
theorem Inv.lset {its its':List Value}{n:Nat}{f:Array Value->Array Value}{t':Nat}(I:Inv X pins σ H s)(hH:H l=some (.lst xs))
  (e:s.heap.get? l=some {cls:=.type "list",data:=.seq its.toArray n}) (hf:f its.toArray=its'.toArray) (hv:Vals ys its') (hz:ys.length<=sizeLine) :
  Inv X pins σ (upd H l (.lst ys)) {s with heap:=s.heap.update l (Obj.mapSeq f),toks:=t'}:=by
 have q:=PySem.IsL.update e f
 rw[hf] at q
 refine I.write (x:=l) (e:=l) (by rw[hH];exact trivial) (.inl rfl) (fun b' u hb hu=>(Heap.get?_update_other s.heap (Obj.mapSeq f) (Ne.symm hb)).trans hu) ⟨_,q⟩ ?_
 exact⟨hz,its',_,hv,q⟩
theorem Inv.lnew {its:List Value}{t':Nat}(I:Inv X pins σ H s)(hv:Vals ys its)(hz:ys.length<=sizeLine) :
  Inv X pins σ (upd H s.heap.objs.size (.lst ys)) {s with heap:=s.heap.push {cls:=.type "list",data:=.seq its.toArray},toks:=t'}:=
 I.laid (fun _ _ q=>Heap.get?_push_of_some _ q) (Nat.le_refl _) ⟨hz,its,0,hv,Heap.get?_push_size _ rfl⟩
theorem Inv.fresh (I:Inv X pins σ H s):H s.heap.objs.size=none:=I.hok.fresh (Nat.le_refl _)
theorem Inv.lstM (I:Inv X pins σ H s)(hH:H l=some (.lst xs)):xs.length<=sizeLine/\∃(its:List Value) (n:Nat),Vals xs its/\xs.length=its.length/\s.heap.get? l=some {cls:=.type "list",data:=.seq its.toArray n}:=by
 obtain⟨z,its,n,r,e⟩:=I.hok l _ hH
 exact⟨z,its,n,r,r.length,e⟩
theorem zi8 {n:Nat}(h:n<=sizeLine):Builtin.List.listTooLong n=false:=by
 unfold Builtin.List.listTooLong
 exact decide_eq_false (by omega)
end
section
variable {X:Cx}
noncomputable def zkA:V->List V->Hp->VK->Prop:=fun x vs H Q=>∃l xs y,x=.ref l/\vs=[y]/\H l=some (.lst xs)/\xs.length<sizeLine/\Q .non (upd H l (.lst (xs++[y])))
theorem zeC:MtM X "list.append" zkA:=by
 intro pins s σ H x vs v us Q I rx rv h
 obtain⟨l,xs,y,rfl,rfl,hH,hz,q⟩:=h
 cases rx
 obtain⟨u,rfl,ru⟩:=rv.one
 obtain⟨z,its,n,r,hl,e⟩:=I.lstM hH
 refine call_meets F.slot_list_append ⟨_,e,rfl⟩ F.entry_list_append (F.args_list_append_2 _ _) (PySem.list_append l its.toArray n u (by rw[List.size_toArray];omega)) ⟨e,?_⟩
 refine⟨.non,_,I.lset (its':=its++[u]) hH e (by simp) (r.append (.cons ru .nil)) ?_,rfl,q⟩
 rw[List.length_append,List.length_singleton]
 omega
noncomputable def zkz:V->List V->Hp->VK->Prop:=fun x vs H Q=>∃l b xs zs,x=.ref l/\vs=[.ref b]/\H l=some (.lst xs)/\H b=some (.lst zs)/\xs.length+zs.length<=sizeLine/\Q .non (upd H l (.lst (xs++zs)))
theorem zhu:MtM X "list.extend" zkz:=by
 intro pins s σ H x vs v us Q I rx rv h
 obtain⟨l,b,xs,zs,rfl,rfl,hH,hB,hz,q⟩:=h
 cases rx
 obtain⟨u,rfl,ru⟩:=rv.one
 cases ru
 obtain⟨z,its,n,r,hl,e⟩:=I.lstM hH
 obtain⟨z2,its2,n2,r2,hl2,e2⟩:=I.lstM hB
 have hsz:its.toArray.size+its2.toArray.size<=sizeLine:=by rw[List.size_toArray,List.size_toArray];omega
 have hlong:¬(!its.toArray.isEmpty&&Builtin.List.listTooLong (its.toArray.size+its2.toArray.size))=true:=by
  rw[zi8 hsz,Bool.and_false]
  exact Bool.false_ne_true
 refine call_meets F.slot_list_extend ⟨_,e,rfl⟩ F.entry_list_extend (F.args_list_extend_2 _ _)
  (AutoSeq1.list_extend_list_list_0 l its.toArray n b its2.toArray n2 hlong (by rw[List.size_toArray];omega) (by omega)) ⟨e,e2,?_⟩
 refine⟨.non,_,I.lset (its':=its++its2) hH e (by simp) (r.append r2) ?_,rfl,q⟩
 rw[List.length_append]
 omega
noncomputable def zmo:V->List V->Hp->VK->Prop:=fun x vs H Q=>∃l xs i k y,x=.ref l/\vs=[.int i]/\H l=some (.lst xs)/\-(2 ^ 63)<=i/\i<2 ^ 63/\seqIndex? i xs.length=some k/\xs[k]?=some y/\Q y (upd H l (.lst (xs.eraseIdx k)))
theorem zjb:MtM X "list.pop" zmo:=by
 intro pins s σ H x vs v us Q I rx rv h
 obtain⟨l,xs,i,k,y,rfl,rfl,hH,h1,h2,hk,hy,q⟩:=h
 cases rx
 obtain⟨u,rfl,ru⟩:=rv.one
 obtain⟨t,rfl⟩:=ru
 obtain⟨z,its,n,r,hl,e⟩:=I.lstM hH
 obtain⟨w,hw,rw'⟩:=r.get hy
 refine call_meets F.slot_list_pop ⟨_,e,rfl⟩ F.entry_list_pop (F.args_list_pop_2 _ _)
  (MeetsSeq.list_pop_at l its.toArray n i t k w (fitsIndex_both h1 h2) (by rw[List.size_toArray,<-hl];exact hk) (by rw[<-Array.getElem?_toList];exact hw) (by rw[List.size_toArray];omega)) ⟨e,?_⟩
 refine⟨y,_,I.lset (its':=its.eraseIdx k) hH e ?_ (r.eraseIdx k) ?_,rw',q⟩
 · show its.toArray.eraseIdxIfInBounds k=(its.eraseIdx k).toArray
   rw[List.eraseIdxIfInBounds_toArray]
 · have:=zeG xs k
   omega
noncomputable def zmp:V->List V->Hp->VK->Prop:=fun x vs H Q=>∃l xs,x=.ref l/\vs=[]/\H l=some (.lst xs)/\Q .non (upd H l (.lst []))
theorem zjc:MtM X "list.clear" zmp:=by
 intro pins s σ H x vs v us Q I rx rv h
 obtain⟨l,xs,rfl,rfl,hH,q⟩:=h
 cases rx
 have hus:=rv.zero
 subst hus
 obtain⟨z,its,n,r,hl,e⟩:=I.lstM hH
 refine call_meets F.slot_list_clear ⟨_,e,rfl⟩ F.entry_list_clear (F.args_list_clear_1 _) (AutoSeq1.list_clear_list_0 l its.toArray n (by rw[List.size_toArray];omega)) ⟨e,?_⟩
 exact⟨.non,_,I.lset (its':=[]) (ys:=[]) hH e rfl .nil (Nat.zero_le _),rfl,q⟩
noncomputable def rCat:R2:=fun x y H Q=>∃l b xs zs,x=.ref l/\y=.ref b/\H l=some (.lst xs)/\H b=some (.lst zs)/\xs.length+zs.length<=sizeLine/\∀p,H p=none->Q (.ref p) (upd H p (.lst (xs++zs)))
theorem zmV:OpR X (binaryOp .Add) rCat:=by
 intro pins s σ H x y v u Q I rx ry h
 obtain⟨l,b,xs,zs,rfl,rfl,hH,hB,hz,q⟩:=h
 cases rx
 cases ry
 obtain⟨z,its,n,r,hl,e⟩:=I.lstM hH
 obtain⟨z2,its2,n2,r2,hl2,e2⟩:=I.lstM hB
 refine PySem.P.add_list e e2 ?_ (by rw[List.size_toArray,List.size_toArray];omega)
 have ea:its.toArray++its2.toArray=(its++its2).toArray:=by simp
 rw[ea]
 exact⟨.ref _,_,I.lnew (t':=s.toks) (r.append r2) (by rw[List.length_append];omega),rfl,q _ I.fresh⟩
end
section
variable {prog:Program} {w:World} {A:Around} {E:Value->Shared->Prop} {s:Shared}
end
section
variable {X:Cx}
end
end L2
namespace Att
open PySem PySem.W PySem.Calls PyProof.Rows
theorem zcZ {P:Params}{h:Heap}:∀(ns:List Int) (vs:List Value),WellAll P h vs (ns.map WData.int)->IntsAre vs ns:=by
 intro ns
 induction ns with
 | nil =>
   intro vs w
   rw[List.map_nil] at w
   cases w
   exact .nil
 | cons n ns ih =>
   intro vs w
   rw[List.map_cons] at w
   cases w with
   | cons a b =>
     cases a
     exact .cons _ _ (ih _ b)
theorem zg7 {l:OpenLaw}{n:Nat}(hn:l.most=some n){P:Params}{h:Heap}{args:List WData}{vals:List Value}
  (hpre:l.row.toRowW.claim.pre args=true) (hwl:WellAll P h vals args) :
  ∃a vs ns,vals=[Value.ref a]/\args=[WData.list (ns.map WData.int)]/\h.get? a=some {cls:=.type "list",data:=.seq vs.toArray}/\IntsAre vs ns/\ns.length<=n:=by
 have hsh:WShape.hasAll [] args [.list .int]=true:=(pre_splitW hpre).1
 have hc:l.pre.holds [] {args:=args}=true:=(pre_splitW hpre).2
 obtain⟨d,r,rfl,h1,h2⟩:=hasAllW_cons hsh
 obtain rfl:=hasAllW_nil h2
 obtain⟨xs,rfl,h3⟩:=hasW_list h1
 obtain⟨ns,rfl⟩:=items_int h3
 have hlen:ns.length<=n:=by
  unfold OpenLaw.pre at hc
  have h4:(WTm.not (.lt (.lit (.int (n:Int))) (.len (.arg 0)))).holds [] {args:=[.list (ns.map .int)]}=true:=by
   have h4:=(holds_andW hc).1
   rw[hn] at h4
   exact h4
  have h5:=condW_of h4 (w_not (w_lt w_lit (w_len_list (w_arg rfl))))
  rw[List.length_map] at h5
  refine Nat.le_of_not_lt fun q=>?_
  have q':(n:Int)<((ns.length:Nat):Int):=by omega
  first
   |(rw[decide_eq_true q'] at h5;exact absurd h5 (by decide))
   |(simp at h5;omega)
 cases hwl with
 | cons w1 w2 =>
   cases w2
   cases w1 with
   |list ho hall=>exact⟨_,_,ns,rfl,rfl,ho,zcZ ns _ hall,hlen⟩
theorem zhm (l:OpenLaw)(args:List WData):l.row.toRowW.claim.post args (.bool true) args=true:=
 postW_of (r:=l.row.toRowW) (X:=(true == true))
  (show WShape.has [] (.bool true) .bool=true by first|rfl|decide|simp[WShape.has,WShape.arms,WShape.armsAll])
  (show (WTm.eq .res (.lit (.bool true))).value [] {args:=args,res:=some (.bool true),after:=args}=some (.bool (true == true)) from w_eq_bool (w_res rfl) w_lit) rfl
theorem attach_call {l:OpenLaw}{n:Nat}{q:Program}{loose:List Str}{XP:(Str->Option Value)->Heap->Prop}{YP:World->Heap->Prop}{d:DefRec}
  (hn:l.most=some n) (hdf:d.params.defaults=[])
  (call:∀(w:World) (s₀ s₁:Shared) (mg mb:Str->Option Value) (fa:Addr) (o:Obj) (pm cd doc:Value) (a:Addr) (vs:List Value) (ns:List Int),
   Ground q loose [] XP w s₀ mg mb s₁.heap->YP w s₁.heap->
   s₁.heap.get? fa=some o->o.data=.func (docDef d.name d.params d.body d.scope pm cd doc)->s₁.heap.CodeRec cd d.name->mg d.name=some (.ref fa)->
   s₁.heap.get? a=some {cls:=.type "list",data:=.seq vs.toArray}->IntsAre vs ns->ns.length<=n->s₁.gens = #[]->
   codeAny (model l.prog w) callerA (.call (.ref fa) ⟨[.ref a],[]⟩) (fun r s'=>r=.ok (.ret (.bool true))/\OldK s₁.heap s'.heap/\s'.os=s₁.os/\AllBare s'.gens) s₁) :
  WalkO q loose XP YP l.row.toRowW d [] (fun f vs=>PySem.call f vs):=by
 intro w s₀ s₁ mg mb G Y fa o pm cd doc dV kV ho hd hcd hD hmg hg args vals as hpre hlay hrd hwl hlo
 obtain rfl:dV=.none:=Dflts.none hD hdf
 obtain rfl:kV=.none:=Dflts.noKw hD
 obtain⟨a,vs,ns,rfl,rfl,hobj,hints,hlen⟩:=zg7 hn hpre hwl
 refine enter_call (codeAny_mono (call w s₀ s₁ mg mb fa o pm cd doc a vs ns G Y ho (fd_plain hd) hcd hmg hobj hints hlen hg) fun r s' hq=>?_)
 obtain⟨rfl,h2,h3,h4⟩:=hq
 exact⟨.inl ⟨.bool true,.bool true,[],rfl,fun _=>rfl,.bool true,zhm l _,fun _=>⟨List.Pairwise.nil,fun _ hm=>(nomatch hm)⟩⟩,h2,h3,h4⟩
section
variable {prog:Program} {w:World} {A:Around} {E:Value->Shared->Prop} {s:Shared} {K:Frag}
end
end Att
namespace L2
open PySem PySem.Spec PyProof.Rows
theorem zeh:∀{vs:List Value} {ns:List Int},IntsAre vs ns->Vals (ns.map V.int) vs
 |_,_,.nil=>.nil
 |_,_,.cons n t h=>.cons ⟨t,rfl⟩ (zeh h)
noncomputable def Only (H:Hp):Prop:=∀b,H b=none\/∃o xs,H b=some (.frz o (.lst xs))
theorem zjg {P:Program}{w:World}{K:PySem.W.Frag}{mg mb:Str->Option Value}{CX:CXT}{k:Nat}{fa a:Addr}{fd:FuncData}{x:Str}{sp:Sp}{s₁:Shared}{vs:List Value}{ns:List Int}
  (KX:K.In s₁.heap) (hns:s₁.heap.Ns mainGlobals mg) (hb:s₁.heap.Ns builtinsNs mb) (hbb:∀x:Str,x≠"__name__"->mb x=bootBuiltins x) (hlim:s₁.heap.NoLimit) (hg:s₁.gens = #[])
  (ha:s₁.heap.get? a=some {cls:=.type "list",data:=.seq vs.toArray}) (hi:IntsAre vs ns) (hl:ns.length<=sizeLine) (hr:Room k callerA)
  (F:∀base:Heap,K.In base->base.Ns mainGlobals mg->FnOk P w K mg base CX k fa fd [x] sp) (hbind:∀(s:Shared) (u:Value),BindsTo s fd ⟨[u],[]⟩ [(x,u)])
  (hsp:∀H:Hp,Only H->SqL K H a (ns.map V.int)->sp [.ref a] H (fun v _=>v=.bl true) fun _ _ _=>False)
  (hCX:∀H e s',CX [] H s₁ (fun _ _ _=>False) e s'->False) :
  codeAny (model P w) callerA (.call (.ref fa) ⟨[.ref a],[]⟩) (fun r s'=>r=.ok (.ret (.bool true))/\OldK s₁.heap s'.heap/\s'.os=s₁.os/\AllBare s'.gens) s₁:=by
 have rv:=zeh hi
 have lenV:=hi.length
 -- from an abstract heap in which nothing but the script may be tracked
 have core:∀H:Hp,Only H->SqL K H a (ns.map V.int)->HOk P w H s₁.heap->(∀b,H b≠none->b=a)->(H a≠none->K.lookup a=none)->
   codeAny (model P w) callerA (.call (.ref fa) ⟨[.ref a],[]⟩) (fun r s'=>r=.ok (.ret (.bool true))/\OldK s₁.heap s'.heap/\s'.os=s₁.os/\AllBare s'.gens) s₁:=by
  intro H hO hS hok hA hK
  have base_of:∀{b:Addr} {o:Obj},s₁.heap.get? b=some o->H b=none->(hidT s₁.heap H).get? b=some o:=fun e n=>zjm e n
  have noA:∀{b:Addr} {o:Obj} {es:Array DictEntry} {ep:Nat},s₁.heap.get? b=some o->o.data=.dict es ep->H b=none:=fun {b o es ep} e d=>by
   cases q:H b with
   |none=>rfl
   | some u =>
     have e':b=a:=hA b (by rw[q];simp)
     subst e'
     rw[ha] at e;cases e
     have d':Data.seq vs.toArray _=Data.dict es ep:=d
     cases d'
  have nsK:∀{b:Addr} {m:Str->Option Value},s₁.heap.Ns b m->(hidT s₁.heap H).Ns b m:=fun {b m} ⟨o,es,ep,e,d,r⟩=>⟨o,es,ep,base_of e (noA e d),d,r⟩
  have hKb:K.In (hidT s₁.heap H):=fun b o e=>base_of (KX b o e) (by
   cases q:H b with
   |none=>rfl
   | some u =>
     have e':b=a:=hA b (by rw[q];simp)
     subst e'
     rw[hK (by rw[q];simp)] at e;cases e)
  have hM:Mod K mg (hidT s₁.heap H):=⟨hKb,nsK hns,⟨mb,nsK hb,hbb⟩,let ⟨mc,h1,h2⟩:=hlim;⟨mc,nsK h1,h2⟩⟩
  have e0:Env0 P w K mg (hidT s₁.heap H) callerA [] s₁ H:=⟨rfl,hM,fun b o e=>zkW e,Nat.le_of_eq (zhS _ _),trivial,fun b hb=>absurd (show b∈([]:List Addr) from hb) (by simp),hok,.of_eq hg⟩
  refine codeAny_mono ((F _ hKb (nsK hns)).run callerA [] s₁ H ⟨[.ref a],[]⟩ [.ref a] [.ref a] _ _ hr e0 (hbind s₁ (.ref a)) (.cons rfl .nil) (hsp H hO hS)) fun r s' h=>?_
  cases r with
  |error e=>exact (hCX H e s' h).elim
  | ok fl =>
    cases fl with
    |next=>exact False.elim h
    |brk=>exact False.elim h
    |cont=>exact False.elim h
    | ret u =>
      obtain⟨v,H',os,bare,un,hok',r',q⟩:=h
      have q':v=.bl true:=q
      subst q'
      obtain rfl:u=Value.bool true:=r'
      refine⟨rfl,OldK.of_keep fun b o e=>?_,os,bare⟩
      cases q:H b with
      |none=>exact un.keep b o e q (by intro z;exact absurd (show b∈([]:List Addr) from z) (by simp)) (by simp)
      | some u =>
        rcases hO b with z|⟨ob,xs,z⟩
        · rw[q] at z;cases z
        · have z2:=un.frzs b ob _ z
          obtain⟨e1,_⟩:=hok b _ z
          obtain⟨e2,_⟩:=hok' b _ z2
          rw[e] at e1;cases e1
          exact e2
 cases hk:K.lookup a with
 | some o =>
   -- the script is one of the module's own objects
   have e:=KX a o hk
   rw[ha] at e
   cases e
   refine core (fun _=>none) (fun _=>.inl rfl) (.inr ⟨_,vs.toArray,_,hk,rfl,rfl,rfl,by rw[List.size_toArray,lenV];exact hl,by simpa using rv⟩) (fun b u z=>by have z':(none:Option HO)=some u:=z;cases z') (fun b z=>absurd rfl z) fun z=>absurd rfl z
 | none =>
   refine core (fun b=>if b=a then some (.frz {cls:=.type "list",data:=.seq vs.toArray} (.lst (ns.map V.int))) else none) (fun b=>?_) (.inl (.inr ⟨{cls:=.type "list",data:=.seq vs.toArray},if_pos rfl⟩)) (fun b u z=>?_) (fun b z=>?_) fun _=>hk
   · by_cases hb:b=a
     · exact .inr ⟨_,_,if_pos hb⟩
     · exact .inl (if_neg hb)
   · by_cases hb:b=a
     · have z':=(if_pos hb).symm.trans z
       cases z'
       subst hb
       exact⟨ha,by rw[List.length_map];exact hl,vs,_,rv,ha⟩
     · have z':=(if_neg hb).symm.trans z
       cases z'
   · by_cases hb:b=a
     · exact hb
     · exact absurd (if_neg hb) z
end L2
namespace L2
open PySem PySem.Spec PyProof.Rows
theorem walk_of {l:PySem.W.OpenLaw}{n k:Nat}{q:Program}{loose:List Str}{XP:(Str->Option Value)->Heap->Prop}{YP:World->Heap->Prop}{d:DefRec}{K:Params->PySem.W.Frag}{CX:World->CXT}{sp:World->Sp}{x:Str}
  (hn:l.most=some n) (hn2:n<=sizeLine) (hdf:d.params.defaults=[]) (hr:Room k callerA)
  (hY:∀(w:World) (h:Heap),YP w h->(K w.params).In h)
  (F:∀(w:World) (mg:Str->Option Value) (fa:Addr) (h:Heap),(K w.params).In h->h.Ns mainGlobals mg->mg d.name=some (.ref fa)->
   ∃fd:FuncData,(∀(s:Shared) (u:Value),BindsTo s fd ⟨[u],[]⟩ [(x,u)])/\
    ∀base:Heap,(K w.params).In base->base.Ns mainGlobals mg->FnOk l.prog w (K w.params) mg base (CX w) k fa fd [x] (sp w))
  (hsp:∀(w:World) (H:Hp) (a:Addr) (ns:List Int),ns.length<=n->Only H->SqL (K w.params) H a (ns.map V.int)->sp w [.ref a] H (fun v _=>v=.bl true) fun _ _ _=>False)
  (hCX:∀(w:World) (H:Hp) (s:Shared) (e:Value) (s':Shared),CX w [] H s (fun _ _ _=>False) e s'->False) :
  PySem.W.WalkO q loose XP YP l.row.toRowW d [] (fun f vs=>PySem.call f vs):=by
 refine Att.attach_call hn hdf fun w s₀ s₁ mg mb fa o pm cd doc a vs ns G Y ho hd hcd hmg hobj hints hlen hg=>?_
 have KX:=hY w _ Y
 obtain⟨fd,hb,hF⟩:=F w mg fa _ KX G.T.g hmg
 exact zjg KX G.T.g G.T.b G.T.builtins G.T.nolimit hg hobj hints (Nat.le_trans hlen hn2) hr hF hb (fun H hO hS=>hsp w H a ns hlen hO hS) fun H e s'=>hCX w H s₁ e s'
end L2
/- THE LAST THEOREM (shape;LID,My.* are yours):
 My.Adr: a structure of the addresses that your layer names (classes,functions);My.Txt K t: a structure (Prop) of the equations over K;
 My.txt_mk:{K} {implicit addresses ..} (e1:nsIn K mainGlobals "law"=some (some (.ref f))) (e2:K.lookup f=some ⟨oc,od,.func (fnOf "law" "law" params body scope dV kV doc pm an cdv ct),sl⟩) (e3:codeIn K cdv "law"=true) ..:∃t,My.Txt K t
set_option maxRecDepth 100000 in
set_option maxHeartbeats 0 in
theorem PySem.Challenge.cw_LID_holds : PySem.Challenge.rw_LID.Holds := by
 w_on;o_law;k_head;(case hw=>w_witness2)
 k_fill
 refine L2.walk_of (l:=PySem.Challenge.rw_LID) (n:=63) (k:=40) (x:="script") (CX:=fun w=>..) (sp:=fun _=>My.sp_law) rfl (by decide) rfl ⟨rfl,by decide,by decide⟩ (fun w h Y=>PySem.W.kIn_of Y) ?F ?S ?C
 case F=>
  intro w mg fa h KX G hmg
  have T:∃t,My.Txt (L2.KOf KX) t:=by
   dsimp only[L2.KOf] -- K must stand as «<heap const> w.params» for k_is
   refine' My.txt_mk ?e1 ?e2 ?e3 ..
   (case e1=>PySem.W.k_is) -- in the order: a name -> its address -> its object -> its parts
   (case e2=>PySem.W.k_is)
   ..
  obtain⟨t,T⟩:=T
  have e0:=hmg.symm.trans (PySem.W.mg_of KX G T.law)
  cases e0 -- fa is the law's own address
  exact⟨_,fun s u=>.of_eq rfl,fun base kb nb=>My.law_fn T kb nb⟩ -- if «.of_eq rfl» comes too early: refine'⟨_,?b,fun base kb nb=>My.law_fn T kb nb⟩;exact fun s u=>.of_eq rfl
 case S=>exact fun w H a ns hl hO hS=>..
 case C=>exact ..
(the tactic k_is has no namespace: write k_is) -/
namespace L2
open PySem PySem.Spec PyProof.Rows
noncomputable def zop (s:Stmt)(j:Nat):Stmt:=match s with
 |.ClassDef _ _ _ body _ _ _ _ _ _ _=>body.getD j (.Pass ⟨0,0,0,0⟩)
 |_=>.Pass ⟨0,0,0,0⟩
noncomputable def zaA (s:Stmt):Arguments:=match s with
 |.FunctionDef _ a _ _ _ _ _ _ _ _=>a
 |_=>{posonlyargs:=[],args:=[],vararg:=none,kwonlyargs:=[],kw_defaults:=[],kwarg:=none,defaults:=[]}
noncomputable def zai (s:Stmt):List Stmt:=match s with
 |.FunctionDef _ _ b _ _ _ _ _ _ _=>b
 |_=>[]
noncomputable def zad (s:Stmt):Scope:=match s with
 |.FunctionDef _ _ _ _ _ _ sc _ _ _=>sc
 |_=>{kind:=.function,names:=[],isGenerator:=false,isCoroutine:=false}
noncomputable abbrev CX0:CXT:=fun _ _ _ _ _ _=>False
noncomputable abbrev E0:XK:=fun _ _ _=>False
theorem zfk {X:Cx}:zdh CX0 X E0:=fun _ _ _ _ _ _ _ h=>h.elim
structure Fun (K:PySem.W.Frag) (x qual:Str) (st:Stmt) (f:Addr) (fd:FuncData):Prop where
 ex:∃(oc:Value) (od:Option Addr) (kV doc pm:Value) (an:Option Addr) (cdv ct:Value) (osl:Array (Option Value)),
  fd=PySem.W.fnOf x qual (zaA st) (zai st) (zad st) .none kV doc pm an cdv ct/\K.lookup f=some ⟨oc,od,.func fd,osl⟩/\PySem.W.codeIn K cdv qual=true
 kp:PySem.W.keepIn K (.ref f)=true
section
variable {P:Program} {w:World} {K:PySem.W.Frag} {mg:Str->Option Value} {base:Heap}
end
section
variable {X:Cx}
end
noncomputable def Same (H H':Hp):Prop:=∀b o,H b=some o->H' b=some o
end L2
namespace L2
open PySem PySem.Spec PyProof.Rows
section
variable {X:Cx}
theorem zii:zbb X (.builtin "len") (fun xs H Q=>∃a kvs,xs=[V.ref a]/\H a=some (.dK kvs)/\Q (.int kvs.length) H):=by
 intro pins s σ H xs us Q I r h
 obtain⟨a,kvs,rfl,ha,q⟩:=h
 obtain⟨u,rfl,ru⟩:=zgV r
 cases ru
 exact zox I (.inl ha) fun t s' I'=>⟨.int kvs.length,H,I',⟨t,rfl⟩,q⟩
end
section
variable {κ:Type} [DecidableEq κ]
end
end L2
end
section
namespace L2
open PySem PySem.Spec PyProof.Rows
noncomputable def zbd (cells:List (Str × Addr))(y:Str × NameKind)(acc:List (Str × Addr)):List (Str × Addr):=
 if (y.2 == NameKind.free)=true then (match cells.lookup y.1 with|some c=>(y.1,c)::acc|none=>acc) else acc
noncomputable def zfx (cells:List (Str × Addr))(names:List (Str × NameKind))(acc:List (Str × Addr)):List (Str × Addr):=names.foldl (fun a y=>zbd cells y a) acc
theorem zc6 {α β:Type}(f:α->β->Sem (ForInStep β))(g:α->β->β):∀(l:List α) (b:β),(∀x∈l,∀b,f x b=pure (.yield (g x b)))->forIn l b f=(pure (l.foldl (fun b x=>g x b) b):Sem β)
 | [],b,_=>rfl
 | x :: l, b, h => by
   rw[List.forIn_cons,h x List.mem_cons_self,pure_bind]
   exact zc6 f g l _ fun y hy=>h y (List.mem_cons_of_mem _ hy)
theorem zbw {scope:Scope}{env:Env}(h:∀y∈scope.names,y.2=.free->∃c,env.cells.lookup y.1=some c) :
  closureFor scope env=pure (zfx env.cells scope.names []):=by
 unfold closureFor zfx
 dsimp only
 rw[zc6 _ (fun y a=>zbd env.cells y a)]
 · simp
 · intro y hy a
   obtain⟨n,k⟩:=y
   by_cases hk:k=.free
   · obtain⟨c,hc⟩:=h _ hy hk
     subst hk
     simp at hc
     simp[cellOf,hc,zbd]
   · have:(k == NameKind.free)=false:=by simpa using hk
     simp[this,zbd]
theorem zeU {cells:List (Str × Addr)}:∀(names:List (Str × NameKind)) (acc:List (Str × Addr)),(∀x c,acc.lookup x=some c->cells.lookup x=some c)->
  ∀x c,(zfx cells names acc).lookup x=some c->cells.lookup x=some c
 | [],acc,h=>h
 | y :: r, acc, h => by
   refine zeU r (zbd cells y acc) ?_
   intro x c e
   unfold zbd at e
   split at e
   · split at e
     · rename_i c' hc'
       rw[List.lookup_cons] at e
       cases hx:x == y.1 with
       | true =>
         rw[hx] at e
         have q:x=y.1:=beq_iff_eq.mp hx
         have e':c'=c:=Option.some.inj e
         rw[q,<-e']
         exact hc'
       |false=>rw[hx] at e;exact h x c e
     · exact h x c e
   · exact h x c e
theorem zdb {cells:List (Str × Addr)}:∀(names:List (Str × NameKind)) (acc:List (Str × Addr)) (x:Str),(∀y∈names,y.2=.free->∃c,cells.lookup y.1=some c)->
  ((∃c,acc.lookup x=some c)\/(x,NameKind.free)∈names)->∃c,(zfx cells names acc).lookup x=some c
 | [], acc, x, _, h => by
   rcases h with h|h
   · exact h
   · cases h
 | y :: r, acc, x, hf, h => by
   refine zdb r (zbd cells y acc) x (fun z hz=>hf z (List.mem_cons_of_mem _ hz)) ?_
   rcases h with ⟨c,h⟩|h
   · left
     unfold zbd
     split
     · split
       · rename_i c' hc'
         rw[List.lookup_cons]
         cases hx:x == y.1 with
         |true=>exact⟨c',rfl⟩
         |false=>exact⟨c,h⟩
       · exact⟨c,h⟩
     · exact⟨c,h⟩
   · rcases List.mem_cons.mp h with h|h
     · left
       subst h
       obtain⟨c,hc⟩:=hf _ List.mem_cons_self rfl
       refine⟨c,?_⟩
       simp at hc
       simp[zbd,hc]
     · exact .inr h
noncomputable def zbS (env:Env)(y:Str × NameKind):Str × NameKind:=if (y.2 == .free&&env.scope.kind == .function&&env.kindOf y.1 == some .cell)=true then (y.1,.cell) else y
theorem zbt (scope:Scope)(env:Env):(relabel scope env).names=scope.names.map (zbS env):=by
 unfold relabel
 show scope.names.map _=_
 refine List.map_congr_left fun y _=>?_
 obtain⟨n,k⟩:=y
 rfl
theorem zcE (env:Env)(y:Str × NameKind):(zbS env y).1=y.1:=by unfold zbS;split<;>rfl
theorem zcD (env:Env)(y:Str × NameKind):(zbS env y).2=y.2\/(y.2=.free/\(zbS env y).2=.cell):=by
 unfold zbS
 split
 · rename_i h
   simp only[Bool.and_eq_true,beq_iff_eq] at h
   exact .inr ⟨h.1.1,rfl⟩
 · exact .inl rfl
theorem zbz (env:Env)(x:Str):∀names:List (Str × NameKind),∀k,(names.map (zbS env)).lookup x=some k->∃k0,(x,k0)∈names/\names.lookup x=some k0/\(k=k0\/(k0=.free/\k=.cell))
 | [],k,h=>by simp at h
 | y :: r, k, h => by
   rw[List.map_cons] at h
   have f1:=zcE env y
   have f2:=zcD env y
   obtain⟨n,k1⟩:=y
   generalize hz:zbS env (n,k1)=z at *
   obtain⟨zn,zk⟩:=z
   simp only at f1 f2
   subst f1
   rw[List.lookup_cons] at h
   rw[List.lookup_cons]
   cases hx:x == zn with
   | true =>
     rw[hx] at h
     have q:x=zn:=beq_iff_eq.mp hx
     subst q
     have e:zk=k:=Option.some.inj h
     subst e
     exact⟨k1,List.mem_cons_self,rfl,f2⟩
   | false =>
     rw[hx] at h
     obtain⟨k0,m,l,q⟩:=zbz env x r k h
     exact⟨k0,List.mem_cons_of_mem _ m,l,q⟩
theorem zbu (env:Env)(x:Str):∀names:List (Str × NameKind),names.lookup x=some .free->(names.map (zbS env)).lookup x=some .free\/(names.map (zbS env)).lookup x=some .cell
 | [],h=>by simp at h
 | y :: r, h => by
   rw[List.map_cons]
   have f1:=zcE env y
   have f2:=zcD env y
   obtain⟨n,k1⟩:=y
   generalize hz:zbS env (n,k1)=z at *
   obtain⟨zn,zk⟩:=z
   simp only at f1 f2
   subst f1
   rw[List.lookup_cons] at h
   rw[List.lookup_cons]
   cases hx:x == zn with
   | true =>
     rw[hx] at h
     have e:k1=.free:=Option.some.inj h
     subst e
     rcases f2 with f2|⟨_,f2⟩
     · left;show some zk=_;rw[f2]
     · right;show some zk=_;rw[f2]
   | false =>
     rw[hx] at h
     exact zbu env x r h
structure CompOk (sc scope:Scope) (N0:List Str) (js:List Nat):Prop where
 kind:scope.kind=.function
 nocell:∀y∈scope.names,y.2≠.cell
 locs:∀y∈scope.names,y.2=.local->scope.names.lookup y.1=some .local
 frees:∀y∈scope.names,y.2=.free->sc.names.lookup y.1=some .cell\/sc.names.lookup y.1=some .free
 caps:∀j∈js,scope.names.lookup (N0.getD j "")=some .free/\j<N0.length
noncomputable abbrev zaI (X:Cx)(N':List Str)(scope:Scope)(cl:List (Str × Addr))(C:Addr)(fp:List Addr)(s:Shared)(H:Hp)(pn:List (Addr × Obj)):Cx:=
 {X with N:=N',s₀:=s,H₀:=H,env:=compEnvC scope cl C X.env,outer:=X.stack,stack:=X.stack,ex:=fp,fn:=fun _=>false,pn:=pn,xe:=fun _ _=>False}
noncomputable def csl (nt:Nat)(js:List Nat)(σ:St):St:=List.replicate nt none++js.map fun j=>(σ[j]?).join
noncomputable abbrev capN (N0:List Str)(tgs:List Str)(js:List Nat):List Str:=tgs++js.map fun j=>N0.getD j ""
noncomputable def PTs (X:Cx)(ifs:List Expr)(t:TT):Prop:=
 ∀(pins:List (Addr × Obj)) (s:Shared) (σ:St) (H:Hp) (Q:Bool->Hp->Prop),Inv X pins σ H s->t σ H Q->
  wpAny (model X.prog X.w) X.A (forIn ifs true fun c r=>if r=true then do let ok <-isTrue c X.env (eval c X.env);pure (ForInStep.yield ok) else pure (ForInStep.yield r)) (TP X pins σ Q) X.xe s
noncomputable def tYes:TT:=fun _ H Q=>Q true H
theorem zkE {X:Cx}:PTs X [] tYes:=fun pins s σ H Q I h=>wpAny_tests_nil ⟨H,I,h⟩
theorem zhk {X:Cx}{c:Expr}{t:TT}(h:PT X c t):PTs X [c] t:=fun pins s σ H Q I q=>wpAny_tests_one (h pins s σ H Q I q)
noncomputable def zj6 (nt:Nat)(js:List Nat)(wi:TI)(g:TG)(tt:TT)(te:TE):TE:=fun σ H Q=>wi σ H fun J H1=>∀p,H1 p=none->
 ∃W:Nat->Nat->St->Hp->Prop,(∃m,W 0 m (csl nt js σ) (upd H1 p (.lst [])))/\∀i m σ' H',W i m σ' H'->
  (J.stop i H'/\Q (.ref p) H')\/(J.go i H'/\∃N:St->Hp->Prop,(∀σ2 H2,N σ2 H2->∃m',m'<m/\W (i+1) m' σ2 H2)/\
   ∀x H2,J.yld i H' x H2->g x σ' H2 fun σ2 H3=>tt σ2 H3 fun b H4=>if b=true then te σ2 H4 fun v H5=>∃acc,H5 p=some (.lst acc)/\acc.length<sizeLine/\N σ2 (upd H5 p (.lst (acc++[v]))) else N σ2 H4)
section
variable {prog:Program} {w:World} {A:Around} {R:Result->Shared->Prop} {s:Shared}
theorem zgH {elt tg iter:Expr}{ifs:List Expr}{scope:Scope}{pos:Pos}{it acc:Value}{env:Env}(J:Nat->Shared->Prop)
  (turn:∀n s,J n s->wpAny (model prog w) A (pyNext it) (fun r s₁=>(r=none/\R (.ok .next) s₁)\/∃v,r=some v/\
   wpAny (model prog w) A (letOwnedTupleGo tg it v) (fun _ s₀=>wpAny (model prog w) A (assign tg env v) (fun _ s₂=>
    wpAny (model prog w) A (forIn ifs true fun c r=>if r=true then do let ok <-isTrue c env (eval c env);pure (ForInStep.yield ok) else pure (ForInStep.yield r)) (fun ok s₃=>
     if ok=true then wpAny (model prog w) A (eval elt env) (fun x s₄=>wpAny (model prog w) A (call (.builtin "list.append") [acc,x]) (fun _ s₅=>∃m,m<n/\J m s₅) (fun _ _=>False) s₄) (fun _ _=>False) s₃
     else ∃m,m<n/\J m s₃) (fun _ _=>False) s₂) (fun _ _=>False) s₀) (fun _ _=>False) s₁) (fun _ _=>False) s)
  (n:Nat) (h:J n s):codeAny (model prog w) A (.compLoop (.ListComp elt [⟨tg,iter,ifs,0⟩] scope pos) 0 it acc env) R s:=by
 refine codeAny_loop rfl J (fun n s hI=>?_) n h
 show wpAny _ A ((compTurn (.ListComp elt [⟨tg,iter,ifs,0⟩] scope pos) 0 it acc env).onRaise (fun x=>do noteFrame x env;theTreesLotGoes x)) _ _ s
 refine wpAny_noted ?_
 rw[compTurn_list]
 refine wpAny_bind (wpAny_standAt (wpAny_bind (wpAny_mono (turn n s hI) (fun r s₁ h₁=>?_) fun _ _ f=>f.elim)))
 rcases h₁ with ⟨rfl,h₁⟩|⟨v,rfl,h₁⟩
 · exact wpAny_pure h₁
 · refine wpAny_bind (wpAny_mono h₁ (fun _ s₀ h₀=>?_) fun _ _ f=>f.elim)
   refine wpAny_bind (wpAny_mono h₀ (fun _ s₂ h₂=>?_) fun _ _ f=>f.elim)
   refine wpAny_bind (wpAny_mono h₂ (fun ok s₃ h₃=>?_) fun _ _ f=>f.elim)
   cases ok with
   |false=>exact wpAny_pure ⟨rfl,h₃⟩
   | true =>
     refine wpAny_bind (wpAny_bind (wpAny_mono h₃ (fun x s₄ h₄=>?_) fun _ _ f=>f.elim))
     exact wpAny_bind (wpAny_mono h₄ (fun _ s₅ h₅=>wpAny_pure (wpAny_pure ⟨rfl,h₅⟩)) fun _ _ f=>f.elim)
end
section
variable {X:Cx} {sc scope:Scope} {tgs:List Str} {js:List Nat} {elt tg iter:Expr} {ifs:List Expr} {pos:Pos} {wi:TI} {g:TG} {tt:TT} {te:TE}
theorem zdx (hc:X.calm=true)(hsc:X.env.scope=sc)(ok:CompOk sc scope X.N js)
  (hg:∀cl C fp s H pn,PG (zaI X (capN X.N tgs js) scope cl C fp s H pn) tg g)
  (ht:∀cl C fp s H pn,PTs (zaI X (capN X.N tgs js) scope cl C fp s H pn) ifs tt)
  (he:∀cl C fp s H pn,PE (zaI X (capN X.N tgs js) scope cl C fp s H pn) elt te)
  {pins:List (Addr × Obj)} {σ:St} {H2:Hp} {s2:Shared} {it:Addr} {fp:List Addr} {tn:Nat->Heap->Prop} {J:It} {E:Value->Shared->Prop} {RR:Value->Addr->Result->Shared->Prop} {Q:VK}
  (I2:Inv X pins σ H2 s2) (T:Turn X.prog X.w X.K tg J fp it tn) (st2:tn 0 s2.heap) (f2:∀b∈fp,FpOk X pins H2 b)
  (rd:∀p,H2 p=none->∃W:Nat->Nat->St->Hp->Prop,(∃m,W 0 m (csl tgs.length js σ) (upd H2 p (.lst [])))/\∀i m σ' H',W i m σ' H'->
   (J.stop i H'/\Q (.ref p) H')\/(J.go i H'/\∃N:St->Hp->Prop,(∀σ2 H2,N σ2 H2->∃m',m'<m/\W (i+1) m' σ2 H2)/\
    ∀x H2,J.yld i H' x H2->g x σ' H2 fun σ2 H3=>tt σ2 H3 fun b H4=>if b=true then te σ2 H4 fun v H5=>∃acc,H5 p=some (.lst acc)/\acc.length<sizeLine/\N σ2 (upd H5 p (.lst (acc++[v]))) else N σ2 H4))
  (fin:∀p C H' s',Inv X pins σ H' s'->(∃m,s'.heap.Ns C m)->s2.heap.objs.size<C->H' C=none->Q (.ref p) H'->RR (.ref p) C (.ok .next) s') :
  wpAny (model X.prog X.w) X.A (newList []) (fun acc s₃=>wpAny (model X.prog X.w) X.A (newFunctionEnv scope X.env.globals (zfx X.env.cells scope.names []) [] X.env.qual none .none (some X.env)) (fun cenv s₄=>
   codeAny (model X.prog X.w) X.A (.compStart (.ListComp elt [⟨tg,iter,ifs,0⟩] scope pos) 0 (.ref it) acc {cenv with scope:=relabel scope X.env}) (RR acc cenv.locals) s₄) E s₃) E s2:=by
 subst hsc
 refine wpAny_newObj_type (wpAny_newFunctionEnv ok.nocell (by intro y hy;simp at hy) (fun h₁ hns₁ hsb₁=>?_) ok.kind)
 have I3:Inv X pins σ (upd H2 s2.heap.objs.size (.lst [])) {s2 with heap:=s2.heap.push {cls:=.type "list",data:=.seq ([]:List Value).toArray}}:=
  I2.lnew (its:=[]) (ys:=[]) (t':=s2.toks) .nil (Nat.zero_le _)
 obtain⟨W,⟨m0,w0⟩,turn⟩:=rd _ I2.fresh
 generalize hp:s2.heap.objs.size=p at *
 generalize hs3:({s2 with heap:=s2.heap.push {cls:=.type "list",data:=.seq ([]:List Value).toArray}}:Shared)=s3 at I3
 have e3:s3.heap=s2.heap.push {cls:=.type "list",data:=.seq ([]:List Value).toArray}:=by rw[<-hs3]
 have sz3:s3.heap.objs.size=p+1:=by rw[e3,Heap.size_push,hp]
 generalize hH3:upd H2 p (.lst [])=H3 at *
 -- the block's frame
 have hns:h₁.Ns s3.heap.objs.size (fun x=>([]:List (Str × Value)).reverse.lookup x):=by rw[e3];exact hns₁
 have hsb:Heap.SameBut s3.heap.objs.size (s3.heap.push {cls:=.type "dict",data:=.dict #[]}) h₁:=by rw[e3];exact hsb₁
 have old:∀b o,s3.heap.get? b=some o->h₁.get? b=some o:=fun b o e=>
  (hsb.2 b (Nat.ne_of_lt (Heap.lt_size e))).trans (Heap.get?_push_of_some _ e)
 have frees:∀y∈scope.names,y.2=.free->∃c,X.env.cells.lookup y.1=some c:=fun y hy hk=>I2.ok.has y.1 (ok.frees y hy hk)
 have cellX:∀x c,(zfx X.env.cells scope.names []).lookup x=some c->X.env.cells.lookup x=some c:=zeU scope.names [] (fun x c e=>by simp at e)
 generalize hcl:zfx X.env.cells scope.names []=cl at *
 have okX:(zaI X (capN X.N tgs js) scope cl s3.heap.objs.size fp s3 H3 (X.pn++pins)).Ok:=
  { mod := I3.ok.mod, kind := ok.kind, glob := I3.ok.glob, blt := I3.ok.blt, above := Nat.le_refl _,
    inj:=fun x y c e1 e2=>I3.ok.inj x y c (cellX x c e1) (cellX y c e2),
    has:=fun x hk=>by
     have hk':(scope.names.map (zbS X.env)).lookup x=some .cell\/(scope.names.map (zbS X.env)).lookup x=some .free:=by
      rw[<-zbt];exact hk
     rw[<-hcl]
     refine zdb scope.names [] x frees (.inr ?_)
     rcases hk' with q|q
     · obtain⟨k0,m,_,e⟩:=zbz X.env x _ _ q
       rcases e with e|⟨e,_⟩
       · subst e;exact absurd rfl (ok.nocell _ m)
       · subst e;exact m
     · obtain⟨k0,m,_,e⟩:=zbz X.env x _ _ q
       rcases e with e|⟨e,z⟩
       · subst e;exact m
       · exact absurd z (fun h=>(nomatch h)),
    cab:=fun x c e=>absurd e Bool.false_ne_true,hd:=I3.ok.hd,frames:=I3.ok.frames,stk:=.inl rfl,
    exf:=fun b hb=>⟨Nat.ne_of_lt (by
     obtain⟨o,ho,_⟩:=T.obj 0 _ st2 b hb
     show b<s3.heap.objs.size
     rw[sz3,<-hp]
     exact Nat.lt_succ_of_lt (Heap.lt_size ho)),fun x c e=>(f2 b hb).2.2.2.2.1 x c (cellX x c e)⟩,
    bs:=I3.bs,bsz:=Nat.le_trans I3.ok.bsz I3.sz,
    noex:=fun b o e hb=>by
     rcases (f2 b hb).2.2.2.1 with z|z
     · exact I3.ok.noex b o e z
     · exact absurd (Nat.lt_of_lt_of_le (Heap.lt_size e) (Nat.le_trans I3.ok.bsz z)) (Nat.lt_irrefl _),
    exfs:=fun b hb hx=>by
     rcases List.mem_cons.mp (I3.stkSub b hx) with z|z
     · exact (f2 b hb).2.1 z
     · exact (f2 b hb).2.2.1 z,
    funs:=I3.stack,frf:=I3.stkFree}
 have I4:Inv (zaI X (capN X.N tgs js) scope cl s3.heap.objs.size fp s3 H3 (X.pn++pins)) [] (csl tgs.length js σ) H3 {s3 with heap:=h₁}:=
  { ok := okX, os := rfl, bare := I3.bare, base := Un.kept old,
    loc:=⟨_,hns,fun i x v e1 e2 e3=>by
     have e1:(tgs++js.map fun j=>X.N.getD j "")[i]?=some x:=e1
     have e2:(List.replicate tgs.length none++js.map fun j=>(σ[j]?).join)[i]?=some (some v):=e2
     by_cases hi:i<tgs.length
     · rw[List.getElem?_append_left (by rw[List.length_replicate];exact hi),List.getElem?_replicate,if_pos hi] at e2
       cases e2
     · rw[List.getElem?_append_right (by omega),List.getElem?_map] at e1
       rw[List.getElem?_append_right (by rw[List.length_replicate];omega),List.length_replicate,List.getElem?_map] at e2
       cases hj:js[i - tgs.length]? with
       |none=>rw[hj] at e1;cases e1
       | some j =>
         rw[hj] at e1 e2
         have e1:X.N.getD j ""=x:=Option.some.inj e1
         have e2:(σ[j]?).join=some v:=Option.some.inj e2
         have hjm:j∈js:=List.mem_of_getElem? hj
         obtain⟨hfr,hjl⟩:=ok.caps j hjm
         rw[e1] at hfr
         have hNj:X.N[j]?=some x:=by
          rw[List.getElem?_eq_getElem hjl]
          rw[List.getD_eq_getElem?_getD,List.getElem?_eq_getElem hjl] at e1
          exact congrArg some e1
         have hσ:σ[j]?=some (some v):=by
          cases q:σ[j]? with
          |none=>rw[q] at e2;cases e2
          | some o =>
            rw[q] at e2
            have e2:o=some v:=e2
            rw[e2]
         have hmem:(x,NameKind.free)∈scope.names:=by
          obtain⟨l1,l2,h3,_⟩:=List.lookup_eq_some_iff.mp hfr
          rw[h3];simp
         have hkX:=ok.frees _ hmem rfl
         have hvis:Vis X.env.scope x:=hkX.elim (fun z=>.inr (.inl z)) fun z=>.inr (.inr z)
         obtain⟨m,hn,hl⟩:=I3.loc
         obtain⟨u,r,lk⟩:=hl j x v hNj hσ hvis
         refine⟨u,r,.inr ⟨?_,?_⟩⟩
         · have q:=zbu X.env x scope.names hfr
           rw[<-zbt] at q
           exact q.symm
         · rcases lk with ⟨k,_⟩|⟨_,c,ec,z⟩
           · exfalso
             have k:X.env.scope.names.lookup x=some .local:=k
             rcases hkX with q|q<;>(rw[k] at q;cases q)
           · obtain⟨c',hc'⟩:∃c',cl.lookup x=some c':=by
              rw[<-hcl]
              exact zdb scope.names [] x frees (.inr hmem)
             have q:=cellX x c' hc'
             rw[ec] at q
             cases q
             obtain⟨o,ho,hd⟩:=z
             exact⟨c,hc',o,old _ _ ho,hd⟩⟩,
    cell:=fun x c e=>by
     obtain⟨v,o,ho,hd⟩:=I3.cell x c (cellX x c e)
     exact⟨v,o,old _ _ ho,hd⟩,
    free:=I3.fresh,
    freeC:=fun x c e=>I3.freeC x c (cellX x c e),
    pin:=fun q hq=>by
     have hq:q∈X.pn++pins:=by simpa using hq
     obtain⟨e,n,ne,nf,d⟩:=I3.pin q hq
     refine⟨old _ _ e,n,Nat.ne_of_lt (Heap.lt_size e),fun z=>?_,d⟩
     rcases List.mem_cons.mp (I3.stkSub _ z) with z|z
     · exact ne z
     · exact nf z,
    hok:=I3.hok.kept old,
    len:=by
     show (List.replicate tgs.length none++js.map fun j=>(σ[j]?).join).length=(tgs++js.map fun j=>X.N.getD j "").length
     simp}
 have stat:∀{H':Hp},(∀b∈fp,H' b=none)->∀b∈fp,FpOk (zaI X (capN X.N tgs js) scope cl s3.heap.objs.size fp s3 H3 (X.pn++pins)) [] H' b:=fun hn b hb=>
  ⟨hn b hb,(okX.exf b hb).1,okX.exfs b hb,.inl hb,(okX.exf b hb).2,fun q hq=>by
   have hq:q∈X.pn++pins:=by simpa using hq
   exact (f2 b hb).2.2.2.2.2 q hq⟩
 have fr3:∀b∈fp,H3 b=none:=fun b hb=>by
  obtain⟨o,ho,_⟩:=T.obj 0 _ st2 b hb
  rw[<-hH3,zam (Nat.ne_of_lt (hp▸Heap.lt_size ho))]
  exact (f2 b hb).1
 have st4:tn 0 h₁:=T.keep 0 _ _ st2 fun b hb o e=>old b o (by rw[e3];exact Heap.get?_push_of_some _ e)
 have loop:codeAny (model X.prog X.w) X.A (.compLoop (.ListComp elt [⟨tg,iter,ifs,0⟩] scope pos) 0 (.ref it) (.ref p) (compEnvC scope cl s3.heap.objs.size X.env)) (RR (.ref p) s3.heap.objs.size) {s3 with heap:=h₁}:=by
  refine zgH (fun n s'=>∃i σ' H',Inv (zaI X (capN X.N tgs js) scope cl s3.heap.objs.size fp s3 H3 (X.pn++pins)) [] σ' H' s'/\tn i s'.heap/\(∀b∈fp,H' b=none)/\W i n σ' H') ?_ m0 ⟨0,_,H3,I4,st4,fr3,w0⟩
  rintro n s4 ⟨i,σ4,H4,J4,st4,fr4,w4⟩
  rcases turn i n σ4 H4 w4 with ⟨stop,qn⟩|⟨go,N,hN,step⟩
  · refine thn (T.done (zaI X (capN X.N tgs js) scope cl s3.heap.objs.size fp s3 H3 (X.pn++pins)) rfl rfl rfl hc i [] s4 σ4 H4 _ J4 (stat fr4) st4 stop) fun r s5 ⟨hr,J5⟩=>.inl ⟨hr,?_⟩
    have hX:Inv X pins σ H4 s5:=I3.call' J5.os J5.base J5.hok J5.bare fun b hb=>⟨(f2 b hb).2.2.2.1,(f2 b hb).2.1,(f2 b hb).2.2.2.2.1,(f2 b hb).2.2.2.2.2⟩
    obtain⟨m,hm,_⟩:=J5.loc
    exact fin p _ H4 s5 hX ⟨m,hm⟩ (by rw[sz3];exact Nat.lt_succ_self _) J5.free qn
  · refine thn (T.item (zaI X (capN X.N tgs js) scope cl s3.heap.objs.size fp s3 H3 (X.pn++pins)) rfl rfl rfl hc i [] s4 σ4 H4 _ J4 (stat fr4) st4 go) fun r s5 ⟨u,hr,h5⟩=>.inr ⟨u,hr,?_⟩
    refine thn h5 fun _ s6 ⟨x,H6,J6,r6,y6,st6,fr6⟩=>?_
    have J6':=J6.pinned (stat fr6) (T.obj _ _ st6)
    refine thn (hg _ _ _ _ _ _ _ s6 σ4 H6 x u _ J6' r6 (step x H6 y6)) fun _ s7 ⟨σ7,H7,J7,q7⟩=>?_
    refine thn (ht _ _ _ _ _ _ _ s7 σ7 H7 _ J7 q7) fun ok8 s8 ⟨H8,J8,q8⟩=>?_
    have again:∀{s9:Shared} {H9:Hp},Inv (zaI X (capN X.N tgs js) scope cl s3.heap.objs.size fp s3 H3 (X.pn++pins)) ([]++zeA fp s6.heap) σ7 H9 s9->N σ7 H9->
      ∃m,m<n/\∃i σ' H',Inv (zaI X (capN X.N tgs js) scope cl s3.heap.objs.size fp s3 H3 (X.pn++pins)) [] σ' H' s9/\tn i s9.heap/\(∀b∈fp,H' b=none)/\W i m σ' H':=fun {s9 H9} J9 n9=>by
     obtain⟨m',hm,w9⟩:=hN σ7 H9 n9
     refine⟨m',hm,i+1,σ7,H9,J9.unpinned,T.keep _ _ _ st6 fun b hb o e=>(J9.pin (b,o) (List.mem_append_right _ (List.mem_append_right _ (zbQ hb e)))).1,fun b hb=>?_,w9⟩
     obtain⟨o,e,d⟩:=T.obj _ _ st6 b hb
     exact (J9.pin (b,o) (List.mem_append_right _ (List.mem_append_right _ (zbQ hb e)))).2.1
    cases ok8 with
    |false=>exact again J8 q8
    | true =>
      refine thn (he _ _ _ _ _ _ _ s8 σ7 H8 _ J8 q8) fun y s9 ⟨v,H9,J9,r9,acc,ha,hl,q9⟩=>?_
      refine thn (zeC _ s9 σ7 H9 (.ref p) [v] (.ref p) [y] (fun _ H=>N σ7 H) J9 rfl (.cons r9 .nil) ⟨p,acc,v,rfl,rfl,ha,hl,q9⟩) fun _ s10 ⟨_,H10,J10,_,q10⟩=>?_
      exact again J10 q10
 exact codeAny_compStart_list loop (T.self _ 0 _ _ _ st4 loop)
theorem zi0 (sc:Scope)(tgs:List Str)(js:List Nat)(hc:X.calm=true)(hsc:X.env.scope=sc)(ok:CompOk sc scope X.N js)(hi:PI X tg iter wi)
  (hg:∀cl C fp s H pn,PG (zaI X (capN X.N tgs js) scope cl C fp s H pn) tg g)
  (ht:∀cl C fp s H pn,PTs (zaI X (capN X.N tgs js) scope cl C fp s H pn) ifs tt)
  (he:∀cl C fp s H pn,PE (zaI X (capN X.N tgs js) scope cl C fp s H pn) elt te)
  (hs:∀x,foldedSetIterable iter X.env x=pure x:=by intro _;rfl) :
  PE X (.ListComp elt [⟨tg,iter,ifs,0⟩] scope pos) (zj6 tgs.length js wi g tt te):=by
 intro pins s σ H Q I h
 rw[eval_ListComp]
 have frees:∀y∈scope.names,y.2=.free->∃c,X.env.cells.lookup y.1=some c:=fun y hy hk=>I.ok.has y.1 (by
  have q:=ok.frees y hy hk
  rw[<-hsc] at q
  exact q)
 refine wpAny_comprehension_free (use:=none) rfl hs (zbw frees) ok.kind ok.locs (thn (hi pins s σ H _ I h) fun v s1 h1=>thn h1 fun itv s2 h2=>?_)
 obtain⟨it,fp,tn,J,H2,e,I2,T,st2,f2,rd⟩:=h2
 subst e
 refine zdx hc hsc ok hg ht he I2 T st2 f2 rd (Q:=Q) fun p C H' s' I' hm hC hn q=>?_
 obtain⟨m,hm⟩:=hm
 refine⟨m,hm,fun h' hs'=>⟨.ref p,H',?_,rfl,q⟩⟩
 exact I'.turned (t':=s'.toks) (it:=C) (fun b o hb e=>(hs'.2 b hb).trans e) hn (Nat.ne_of_gt (Nat.lt_trans I2.lt hC)) (.inr (Nat.le_trans I2.sz (Nat.le_of_lt hC))) (fun x c e=>by
  obtain⟨v,o,ho,_⟩:=I2.cell x c e
  exact Nat.ne_of_lt (Nat.lt_trans (Heap.lt_size ho) hC)) fun q hq=>Nat.ne_of_lt (Nat.lt_trans (Heap.lt_size (I2.pin q hq).1) hC)
theorem zkH (sc:Scope)(tgs:List Str)(js:List Nat){i:Nat}{y:Str}{py spos:Pos}(hN:X.N.Nodup)(hi':X.N[i]?=some y)(hy:Loc X.env.scope y)(hc:X.calm=true)(hsc:X.env.scope=sc)(ok:CompOk sc scope X.N js)(hi:PI X tg iter wi)
  (hg:∀cl C fp s H pn,PG (zaI X (capN X.N tgs js) scope cl C fp s H pn) tg g)
  (ht:∀cl C fp s H pn,PTs (zaI X (capN X.N tgs js) scope cl C fp s H pn) ifs tt)
  (he:∀cl C fp s H pn,PE (zaI X (capN X.N tgs js) scope cl C fp s H pn) elt te)
  (hsw:swapsWith (.ListComp elt [⟨tg,iter,ifs,0⟩] scope pos) (some (.Name y py)) spos.line X.env=pure true:=by rfl)
  (hs:∀x,foldedSetIterable iter X.env x=pure x:=by intro _;rfl)
  (hf:X.fn y=true\/X.env.scope.names.lookup y=some .local:=by first|exact .inl rfl|exact .inr rfl|assumption) :
  PS X (.Assign [.Name y py] (.ListComp elt [⟨tg,iter,ifs,0⟩] scope pos) spos) (tAsg (zj6 tgs.length js wi g tt te) (zhY i)):=by
 intro pins s σ H D I h
 have frees:∀y∈scope.names,y.2=.free->∃c,X.env.cells.lookup y.1=some c:=fun y hy hk=>I.ok.has y.1 (by
  have q:=ok.frees y hy hk
  rw[<-hsc] at q
  exact q)
 rw[exec_Assign_Name_used _ _ _ _ hsw]
 refine wpAny_bind (wpAny_standAt (wpAny_bind ?_))
 show wpAny _ X.A (do let _ <-comprehension (.ListComp elt [⟨tg,iter,ifs,0⟩] scope pos) scope X.env _ (newList []) false (eval iter X.env) (some (assign (.Name y py) X.env))) _ _ s
 refine wpAny_bind (wpAny_mono (wpAny_comprehension_free (use:=some (assign (.Name y py) X.env)) (Q:=fun _ s'=>SP X pins D .next s') rfl hs (zbw frees) ok.kind ok.locs
  (thn (hi pins s σ H _ I h) fun v s1 h1=>thn h1 fun itv s2 h2=>?_)) (fun _ s' hq=>wpAny_pure (wpAny_pure hq)) fun _ _ e=>e)
 obtain⟨it,fp,tn,J,H2,e,I2,T,st2,f2,rd⟩:=h2
 subst e
 refine zdx hc hsc ok hg ht he I2 T st2 f2 rd (Q:=fun x H1=>zhY i x σ H1 D.nx) fun p C H' s' I' hm hC hn q=>?_
 obtain⟨m,hm⟩:=hm
 have hL:C≠X.env.locals:=Nat.ne_of_gt (Nat.lt_trans I2.lt hC)
 have hCc:∀x c,X.env.cells.lookup x=some c->c≠C:=fun x c e=>by
  obtain⟨v,o,ho,_⟩:=I2.cell x c e
  exact Nat.ne_of_lt (Nat.lt_trans (Heap.lt_size ho) hC)
 show wpAny _ X.A (assign (.Name y py) X.env (.ref p)) _ _ _
 refine wpAny_assign_Name (zek I' hN hi' hy (v:=.ref p) rfl (fun s'' I'' hch=>?_) hf)
 obtain⟨a,hsb,ha⟩:=hch
 have hCa:C≠a:=by
  rcases ha with z|z
  · rw[z];exact hL
  · exact fun e=>hCc y a z e.symm
 refine⟨m,hm.sameBut hsb hCa,fun h' hs'=>⟨σ.set i (some (.ref p)),H',?_,q⟩⟩
 exact I''.turned (t':=s''.toks) (it:=C) (fun b o hb e=>(hs'.2 b hb).trans e) hn hL (.inr (Nat.le_trans I2.sz (Nat.le_of_lt hC))) hCc fun q hq=>Nat.ne_of_lt (Nat.lt_trans (Heap.lt_size (I2.pin q hq).1) hC)
end
end L2
end
section
namespace L2
open PySem PySem.Spec PyProof.Rows
structure FunV (K:PySem.W.Frag) (x qual:Str) (st:Stmt) (dV:Value) (f:Addr) (fd:FuncData):Prop where
 ex:∃(oc:Value) (od:Option Addr) (kV doc pm:Value) (an:Option Addr) (cdv ct:Value) (osl:Array (Option Value)),
  fd=PySem.W.fnOf x qual (zaA st) (zai st) (zad st) dV kV doc pm an cdv ct/\K.lookup f=some ⟨oc,od,.func fd,osl⟩/\PySem.W.codeIn K cdv qual=true
 kp:PySem.W.keepIn K (.ref f)=true
theorem zaV {K:PySem.W.Frag}{x qual:Str}{st:Stmt}{f:Addr}{oc:Value}{od an:Option Addr}{osl:Array (Option Value)}{dV kV doc pm cdv ct:Value}(l:K.lookup f=some ⟨oc,od,.func (PySem.W.fnOf x qual (zaA st) (zai st) (zad st) dV kV doc pm an cdv ct),osl⟩)
 (c:PySem.W.codeIn K cdv qual=true) (k:PySem.W.keepIn K (.ref f)=true):FunV K x qual st dV f (PySem.W.fnOf x qual (zaA st) (zai st) (zad st) dV kV doc pm an cdv ct):=⟨⟨oc,od,kV,doc,pm,an,cdv,ct,osl,rfl,l,c⟩,k⟩
section
variable {P:Program} {w:World} {K:PySem.W.Frag} {mg:Str->Option Value} {base:Heap}
theorem FunV.ok {x qual:Str}{st:Stmt}{dV:Value}{f:Addr}{fd:FuncData}{N ps:List Str}{k:Nat}{sp:Sp}(F:FunV K x qual st dV f fd)(S:FnScope N ps (zad st))(len:∀vs H Q E,sp vs H Q E->vs.length=ps.length)
  (hbody:∀(cdv:Value) (A:Around) (outer:List Env) (s:Shared) (H:Hp) (vs:List V) (Q:VK) (E:XK),Room k (A.deeper (envOfC qual (zad st) s.heap.objs.size f cdv))->sp vs H Q E->
   ∃t,PSs (cxOf CX0 P w K mg base N qual (zad st) f cdv A outer s H E).nox (zai st) t/\t {nx:=fun _ H'=>Q .non H',rt:=Q} (start N vs) H):FnOk P w K mg base CX0 (k+1) f fd ps sp:=by
 obtain⟨oc,od,kV,doc,pm,an,cdv,ct,osl,rfl,lk,hcd⟩:=F.ex
 refine zot lk hcd S len fun A outer s H vs Q E hr hsp=>?_
 obtain⟨t,h,q⟩:=hbody cdv A outer s H vs Q E hr hsp
 exact⟨t,h.nox,q⟩
theorem FunV.binds {x qual:Str}{st:Stmt}{dV:Value}{f:Addr}{fd:FuncData}{ps:List Str}(F:FunV K x qual st dV f fd)
  (h:∀(kV doc pm:Value) (an:Option Addr) (cdv ct:Value) (us:List Value),us.length=ps.length->bindArgs (PySem.W.fnOf x qual (zaA st) (zai st) (zad st) dV kV doc pm an cdv ct) ⟨us,[]⟩=pure (ps.zip us)):Binds K fd ps []:=by
 obtain⟨oc,od,kV,doc,pm,an,cdv,ct,osl,rfl,lk,hcd⟩:=F.ex
 exact .all (h kV doc pm an cdv ct)
structure Has (P:Program) (w:World) (K:PySem.W.Frag) (mg:Str->Option Value) (base:Heap) (k:Nat) (x:Str) (ps:List Str) (dvs:List V) (sp:Sp):Prop where
 ex:∃(f:Addr) (fd:FuncData) (ds:List Value),FnOk P w K mg base CX0 k f fd ps sp/\mg x=some (.ref f)/\PySem.W.keepIn K (.ref f)=true/\Binds K fd ps ds/\Vals dvs ds
end
theorem zkO {X:Cx}{k:Nat}{x:Str}{ps:List Str}{dvs:List V}{sp:Sp}{p pos:Pos}{e:Expr}{es:List Expr}{t:TA}(G:Has X.prog X.w X.K X.mg X.base k x ps dvs sp)(hr:Room k X.A)(ha:PA X (e::es) t)(hg:Gl X x:=by rfl)
  (hdb:(x == ("__debug__":Str))=false:=by decide) (he:starEach (e::es) X.env=(false,eval e X.env)::starEach es X.env:=by rfl) (hpl:(backTo pos (starEach es X.env)).any (·.1)=false:=by rfl) :
  PE X (.Call (.Name x p) (e::es) [] pos) (zdi sp dvs E0 t):=by
 obtain⟨f,fd,ds,F,hm,hk,hb,hd⟩:=G.ex
 exact zkQ F hr hg hm hk hb hd zfk ha hdb he hpl
theorem zmG {X:Cx}{k:Nat}{x:Str}{ps:List Str}{dvs:List V}{sp:Sp}{p pos:Pos}(G:Has X.prog X.w X.K X.mg X.base k x ps dvs sp)(hr:Room k X.A)(hg:Gl X x:=by rfl)
  (hdb:(x == ("__debug__":Str))=false:=by decide):PE X (.Call (.Name x p) [] [] pos) (zdi sp dvs E0 tNil):=by
 obtain⟨f,fd,ds,F,hm,hk,hb,hd⟩:=G.ex
 exact zi6 F hr hg hm hk hb hd zfk hdb
mutual
noncomputable def Rep (H:Hp):PyData->V->Prop
 |.none,v=>v=.non
 |.bool b,v=>v=.bl b
 |.int i,v=>v=.int i
 |.str x,v=>v=.str x
 |.list ds,v=>∃a vs,v=.ref a/\H a=some (.lst vs)/\RepAll H ds vs
 |.tuple ds,v=>∃a vs,v=.ref a/\H a=some (.tup vs)/\RepAll H ds vs
 |.dict _,_=>False
noncomputable def RepAll (H:Hp):List PyData->List V->Prop
 | [],vs=>vs=[]
 |d::ds,vs=>∃v r,vs=v::r/\Rep H d v/\RepAll H ds r
end
mutual
noncomputable def imm:PyData->Bool
 |.none=>true
 |.bool _=>true
 |.int _=>true
 |.str _=>true
 |.list _=>false
 |.tuple ds=>zeM ds
 |.dict _=>false
noncomputable def zeM:List PyData->Bool
 | []=>true
 |d::ds=>imm d&&zeM ds
end
noncomputable def Tups (H H':Hp):Prop:=∀b xs,H b=some (.tup xs)->H' b=some (.tup xs)
theorem Tups.refl (H:Hp):Tups H H:=fun _ _ h=>h
theorem Tups.trans {H H1 H2:Hp}(a:Tups H H1)(b:Tups H1 H2):Tups H H2:=fun c xs h=>b c xs (a c xs h)
theorem Tups.upd {H:Hp}{p:Addr}{o:HO}(h:∀xs,H p≠some (.tup xs)):Tups H (upd H p o):=fun b xs e=>by
 have hb:b≠p:=fun z=>by subst z;exact h xs e
 rw[zam hb];exact e
theorem Tups.upd_lst {H:Hp}{p:Addr}{o:HO}{xs:List V}(h:H p=some (.lst xs)):Tups H (L2.upd H p o):=Tups.upd fun ys e=>by rw[h] at e;cases e
theorem Tups.upd_new {H:Hp}{p:Addr}{o:HO}(h:H p=none):Tups H (L2.upd H p o):=Tups.upd fun ys e=>by rw[h] at e;cases e
mutual
theorem Rep.same {H H':Hp}(hs:Same H H'):∀{d:PyData} {v:V},Rep H d v->Rep H' d v
 |.none,_,h=>h
 |.bool _,_,h=>h
 |.int _,_,h=>h
 |.str _,_,h=>h
 | .list ds, v, h => by
   obtain⟨a,vs,e,ha,r⟩:=h
   exact⟨a,vs,e,hs _ _ ha,RepAll.same hs r⟩
 | .tuple ds, v, h => by
   obtain⟨a,vs,e,ha,r⟩:=h
   exact⟨a,vs,e,hs _ _ ha,RepAll.same hs r⟩
 |.dict _,_,h=>h
theorem RepAll.same {H H':Hp}(hs:Same H H'):∀{ds:List PyData} {vs:List V},RepAll H ds vs->RepAll H' ds vs
 | [],_,h=>h
 | d :: ds, vs, h => by
   obtain⟨v,r,e,h1,h2⟩:=h
   exact⟨v,r,e,Rep.same hs h1,RepAll.same hs h2⟩
end
mutual
theorem Rep.tups {H H':Hp}(hs:Tups H H'):∀{d:PyData} {v:V},imm d=true->Rep H d v->Rep H' d v
 |.none,_,_,h=>h
 |.bool _,_,_,h=>h
 |.int _,_,_,h=>h
 |.str _,_,_,h=>h
 |.list ds,v,i,h=>by simp[imm] at i
 | .tuple ds, v, i, h => by
   obtain⟨a,vs,e,ha,r⟩:=h
   exact⟨a,vs,e,hs _ _ ha,RepAll.tups hs (by simpa[imm] using i) r⟩
 |.dict _,_,_,h=>h
theorem RepAll.tups {H H':Hp}(hs:Tups H H'):∀{ds:List PyData} {vs:List V},zeM ds=true->RepAll H ds vs->RepAll H' ds vs
 | [],_,_,h=>h
 | d :: ds, vs, i, h => by
   obtain⟨v,r,e,h1,h2⟩:=h
   have i':imm d=true/\zeM ds=true:=by simpa[zeM] using i
   exact⟨v,r,e,Rep.tups hs i'.1 h1,RepAll.tups hs i'.2 h2⟩
end
theorem RepAll.ints (H:Hp):∀ns:List Int,RepAll H (ns.map PyData.int) (ns.map V.int)
 | []=>rfl
 |n::ns=>⟨_,_,rfl,rfl,RepAll.ints H ns⟩
mutual
theorem Rep.reads {X:Cx}{pins:List (Addr × Obj)}{σ:St}{H:Hp}{s:Shared}(I:Inv X pins σ H s):∀(d:PyData) (v:V) (u:Value),Rep H d v->RelV v u->∃as,Reads s.heap u d as
 | .none, v, u, h, r => by
   cases (show v=.non from h)
   cases (show u=Value.none from r)
   exact⟨_,.none⟩
 | .bool b, v, u, h, r => by
   cases (show v=.bl b from h)
   cases (show u=Value.bool b from r)
   exact⟨_,.bool b⟩
 | .int i, v, u, h, r => by
   cases (show v=.int i from h)
   obtain⟨t,rfl⟩:=(show ∃t,u=Value.int i t from r)
   exact⟨_,.int i t⟩
 | .str x, v, u, h, r => by
   cases (show v=.str x from h)
   obtain⟨t,rfl⟩:=(show ∃t,u=Value.str x t from r)
   exact⟨_,.str x t⟩
 | .list ds, v, u, h, r => by
   obtain⟨a,vs,rfl,ha,hr⟩:=h
   cases (show u=Value.ref a from r)
   obtain⟨its,n,rv,e,_⟩:=I.lst ha
   obtain⟨as,q⟩:=RepAll.reads I ds vs its hr rv
   exact⟨_,.list e rfl rfl q⟩
 | .tuple ds, v, u, h, r => by
   obtain⟨a,vs,rfl,ha,hr⟩:=h
   cases (show u=Value.ref a from r)
   obtain⟨its,rv,⟨o,e1,e2,n,e3⟩,_⟩:=I.tuple (SqT.of (K:=X.K) ha)
   obtain⟨as,q⟩:=RepAll.reads I ds vs its hr rv
   exact⟨_,.tuple e1 e2 e3 q⟩
 |.dict _,_,_,h,_=>False.elim h
theorem RepAll.reads {X:Cx}{pins:List (Addr × Obj)}{σ:St}{H:Hp}{s:Shared}(I:Inv X pins σ H s):∀(ds:List PyData) (vs:List V) (us:List Value),RepAll H ds vs->Vals vs us->∃as,ReadsAll s.heap us ds as
 | [], vs, us, h, r => by
   cases (show vs=[] from h)
   cases r
   exact⟨_,.nil⟩
 | d :: ds, vs, us, h, r => by
   obtain⟨v,vr,rfl,h1,h2⟩:=h
   cases r with
   | cons r1 r2 =>
     obtain⟨as,q1⟩:=Rep.reads I d v _ h1 r1
     obtain⟨bs,q2⟩:=RepAll.reads I ds vr _ h2 r2
     exact⟨_,.cons q1 q2⟩
end
section
variable {X:Cx}
noncomputable def rEqD (g:Bool->Bool):R2:=fun x y H Q=>∃da db,Rep H da x/\Rep H db y/\da.canLay0=true/\db.canLay0=true/\min da.depth db.depth<=60/\Q (.bl (g (PyData.eqv da db))) H
theorem zmU (hu:X.A.units+64<cLine):OpR X (compareOp .Eq) (rEqD id):=by
 intro pins s σ H x y v u Q I rx ry h
 obtain⟨da,db,h1,h2,l1,l2,hd,q⟩:=h
 obtain⟨as,r1⟩:=Rep.reads I da x v h1 rx
 obtain⟨bs,r2⟩:=Rep.reads I db y u h2 ry
 exact SeqAt.compareEq_reads r1 r2 l1 l2 (by omega) (zan I q rfl)
theorem zmP (hu:X.A.units+64<cLine):OpR X (compareOp .NotEq) (rEqD not):=by
 intro pins s σ H x y v u Q I rx ry h
 obtain⟨da,db,h1,h2,l1,l2,hd,q⟩:=h
 obtain⟨as,r1⟩:=Rep.reads I da x v h1 rx
 obtain⟨bs,r2⟩:=Rep.reads I db y u h2 ry
 exact SeqAt.compareNe_reads r1 r2 l1 l2 (by omega) (zan I q rfl)
theorem zmT:OpR X (compareOp .Is) (fun x y H Q=>∃a b,x=.bl a/\y=.bl b/\Q (.bl (a == b)) H):=by
 intro pins s σ H x y v u Q I rx ry h
 obtain⟨a,b,rfl,rfl,q⟩:=h
 cases rx
 cases ry
 refine wpAny_is_plain (by cases a<;>cases b<;>rfl) (zan I q ?_)
 cases a<;>cases b<;>rfl
noncomputable def zcq (H:Hp):V->Option String
 |.non=>some "NoneType"
 |.bl _=>some "bool"
 |.int _=>some "int"
 |.str _=>some "str"
 | .ref a => match H a with
   |some (.lst _)=>some "list"
   |some (.frz _ (.lst _))=>some "list"
   |some (.tup _)=>some "tuple"
   |some (.dK _)=>some "dict"
   |some (.dT _)=>some "dict"
   |_=>none
 |_=>none
theorem zgW {K:PySem.W.Frag}{H:Hp}{x:V}{a:String}(h:zcq H x=some a):TyOf K H x (.type a):=by
 cases x with
 |non=>cases h;exact .non
 |bl b=>cases h;exact .bl b
 |int i=>cases h;exact .int i
 |str y=>cases h;exact .str y
 |byt _=>cases h
 |flt _=>cases h
 |ty _=>cases h
 | ref p =>
   unfold zcq at h
   cases e:H p with
   |none=>simp[e] at h
   | some o =>
     cases o with
     |lst xs=>simp[e] at h;subst h;exact .lst e
     |tup xs=>simp[e] at h;subst h;exact .tup e
     |dK kvs=>simp[e] at h;subst h;exact .dK e
     |dT kvs=>simp[e] at h;subst h;exact .dT e
     | frz ob q =>
       cases q with
       |lst xs=>simp[e] at h;subst h;exact .frz e
       |_=>simp[e] at h
     |_=>simp[e] at h
noncomputable def subT (a b:String):Bool:=a == b || (a == "bool"&&b == "int")
theorem zk6 (K:PySem.W.Frag){a b:String}(ha:a∈["NoneType","bool","int","str","list","tuple","dict"])(hb:b∈["bool","int","str","list","tuple","dict"]):PySem.W.kitOne K (.type a) (.type b)=some (subT a b):=by
 simp only[List.mem_cons,List.not_mem_nil,or_false] at ha hb
 rcases ha with rfl|rfl|rfl|rfl|rfl|rfl|rfl<;>rcases hb with rfl|rfl|rfl|rfl|rfl|rfl<;>rfl
theorem zgf {H:Hp}{x:V}{a:String}(h:zcq H x=some a):a∈["NoneType","bool","int","str","list","tuple","dict"]:=by
 cases x with
 |non=>cases h;simp
 |bl b=>cases h;simp
 |int i=>cases h;simp
 |str y=>cases h;simp
 |byt _=>cases h
 |flt _=>cases h
 |ty _=>cases h
 | ref p =>
   unfold zcq at h
   simp only at h
   split at h<;>first|(cases h;simp)|cases h
theorem zfz:zbb X (.builtin "isinstance") (fun xs H Q=>∃x c a,xs=[x,.ty c]/\zcq H x=some a/\c∈["bool","int","str","list","tuple","dict"]/\Q (.bl (subT a c)) H):=by
 intro pins s σ H xs us Q I r h
 obtain⟨x,c,a,rfl,hx,hc,q⟩:=h
 obtain⟨u,w',rfl,rx,rc⟩:=ziw r
 cases (show w'=Value.type c from rc)
 exact zeK I rx (zgW hx) (zk6 X.K (zgf hx) hc) fun tk=>⟨.bl (subT a c),H,I.tok tk,rfl,q⟩
end
end L2
namespace L2
open PySem PySem.Spec PyProof.Rows
section
variable {X:Cx} {scope:Scope} {elt tg iter:Expr} {ifs:List Expr} {pos:Pos} {wi:TI} {g:TG} {tt:TT} {te:TE}
end
end L2
namespace L2
open PySem PySem.Spec PyProof.Rows
section
variable {X:Cx} (K:PySem.W.Frag) (hK:X.K=K)
include hK
end
end L2
end
section
namespace TM
structure Good (m:Nat) (wo:Option Int) (s:Int) (n:Nat) (p:List Int):Prop where
 len:p.length=n
 head:p.head?=some s
 nd:p.Nodup
 rng:∀h∈p,0<=h/\h<m/\wo≠some h
noncomputable def left (m:Nat)(wo:Option Int):Int:=match wo with|none=>m|some _=>m - 1
end TM
end
section
namespace L2
open PySem PySem.Spec PyProof.Rows
theorem znA:bootBuiltins "len"=some (.builtin "len"):=by decide +kernel
theorem znD:bootBuiltins "abs"=some (.builtin "abs"):=by decide +kernel
theorem znz:bootBuiltins "max"=some (.builtin "max"):=by decide +kernel
theorem znC:bootBuiltins "all"=some (.builtin "all"):=by decide +kernel
theorem zch:bootBuiltins "isinstance"=some (.builtin "isinstance"):=by decide +kernel
theorem znB:bootBuiltins "int"=some (.type "int"):=by decide +kernel
theorem zlt:bootBuiltins "bool"=some (.type "bool"):=by decide +kernel
theorem znx:bootBuiltins "str"=some (.type "str"):=by decide +kernel
theorem zec:bootBuiltins "list"=some (.type "list"):=by decide +kernel
theorem zeb:bootBuiltins "tuple"=some (.type "tuple"):=by decide +kernel
theorem zls:bootBuiltins "dict"=some (.type "dict"):=by decide +kernel
noncomputable def cellZ (ns:List Int)(k:Nat):Int:=match ns[k]? with|some v=>v % 10 ^ 64|none=>0
end L2
end
section
namespace R
noncomputable def zn4 (a b:Int × Int):Bool:=decide (b.2<a.2\/(a.2=b.2/\a.1<=b.1))
noncomputable def zlN (rows:List (Int × Int)):List (Int × Int):=rows.mergeSort zn4
noncomputable def bump:List (Int × Int)->Int->List (Int × Int)
 | [],w=>[(w,1)]
 |(k,c)::r,w=>if k=w then (k,c+1)::r else (k,c)::bump r w
noncomputable def zdE (kvs:List (Int × Int))(ws:List (Option Int)):List (Int × Int):=ws.foldl (fun a w=>match w with|some x=>bump a x|none=>a) kvs
end R
end
section
namespace R
noncomputable abbrev K3:=Int × List Int × Int
noncomputable def lexZ:List Int->List Int->Bool
 | [],[]=>false
 | [],_::_=>true
 |_::_,[]=>false
 |x::xs,y::ys=>if x=y then lexZ xs ys else decide (x<y)
theorem zce (x y:Int)(xs ys:List Int):lexZ (x::xs) (y::ys)=if x=y then lexZ xs ys else decide (x<y):=rfl
theorem zcn:∀l:List Int,lexZ l l=false
 | []=>rfl
 |x::l=>by rw[zce,if_pos rfl];exact zcn l
theorem zeE:∀{a b c:List Int},lexZ a b=true->lexZ b c=true->lexZ a c=true
 | [],[],c,h,k=>by cases h
 | [],y::b,[],h,k=>by cases k
 | [],y::b,z::c,h,k=>rfl
 |x::a,[],c,h,k=>by cases h
 |x::a,y::b,[],h,k=>by cases k
 | x :: a, y :: b, z :: c, h, k => by
   rw[zce] at h k⊢
   split at h
   · rename_i e1
     split at k
     · rename_i e2
       rw[if_pos (e1.trans e2)];exact zeE h k
     · rename_i e2
       have k:=of_decide_eq_true k
       rw[if_neg (by omega)];exact decide_eq_true (by omega)
   · rename_i e1
     have h:=of_decide_eq_true h
     split at k
     · rename_i e2
       rw[if_neg (by omega)];exact decide_eq_true (by omega)
     · rename_i e2
       have k:=of_decide_eq_true k
       rw[if_neg (by omega)];exact decide_eq_true (by omega)
theorem zeF:∀{a b:List Int},a≠b->lexZ a b=true\/lexZ b a=true
 | [],[],h=>absurd rfl h
 | [],y::b,_=>.inl rfl
 |x::a,[],_=>.inr rfl
 | x :: a, y :: b, h => by
   rw[zce,zce]
   by_cases e:x=y
   · subst e
     rw[if_pos rfl,if_pos rfl]
     exact zeF fun z=>h (by rw[z])
   · rw[if_neg e,if_neg (Ne.symm e)]
     rcases Int.lt_or_gt_of_ne e with z|z
     · exact .inl (decide_eq_true z)
     · exact .inr (decide_eq_true z)
noncomputable def Lt3 (a b:K3):Prop:=a.1<b.1\/(a.1=b.1/\(lexZ a.2.1 b.2.1=true\/(a.2.1=b.2.1/\a.2.2<b.2.2)))
noncomputable instance (a b:K3):Decidable (Lt3 a b):=by unfold Lt3;infer_instance
theorem zcm (a:K3):¬Lt3 a a:=by
 unfold Lt3
 rw[zcn]
 simp
theorem zcN {a b c:K3}(h:Lt3 a b)(k:Lt3 b c):Lt3 a c:=by
 unfold Lt3 at *
 rcases h with h|⟨h1,h2⟩
 · rcases k with k|⟨k1,k2⟩
   · exact .inl (by omega)
   · exact .inl (by omega)
 · rcases k with k|⟨k1,k2⟩
   · exact .inl (by omega)
   · refine .inr ⟨h1.trans k1,?_⟩
     rcases h2 with h2|⟨h2,h3⟩
     · rcases k2 with k2|⟨k2,k3⟩
       · exact .inl (zeE h2 k2)
       · exact .inl (k2▸h2)
     · rcases k2 with k2|⟨k2,k3⟩
       · exact .inl (h2▸k2)
       · exact .inr ⟨h2.trans k2,by omega⟩
theorem zcO {a b:K3}(h:a≠b):Lt3 a b\/Lt3 b a:=by
 unfold Lt3
 obtain⟨a1,a2,a3⟩:=a
 obtain⟨b1,b2,b3⟩:=b
 dsimp only
 by_cases e1:a1=b1
 · by_cases e2:a2=b2
   · have e3:a3≠b3:=fun z=>h (by rw[e1,e2,z])
     rcases Int.lt_or_gt_of_ne e3 with z|z
     · exact .inl (.inr ⟨e1,.inr ⟨e2,z⟩⟩)
     · exact .inr (.inr ⟨e1.symm,.inr ⟨e2.symm,z⟩⟩)
   · rcases zeF e2 with z|z
     · exact .inl (.inr ⟨e1,.inl z⟩)
     · exact .inr (.inr ⟨e1.symm,.inl z⟩)
 · rcases Int.lt_or_gt_of_ne e1 with z|z
   · exact .inl (.inl z)
   · exact .inr (.inl z)
noncomputable def ins3 (x:K3):List K3->List K3
 | []=>[x]
 |y::l=>if Lt3 x y then x::y::l else y::ins3 x l
noncomputable def zal:List K3->List K3
 | []=>[]
 |x::l=>ins3 x (zal l)
theorem zc3 (x:K3):∀l:List K3,(ins3 x l).Perm (x::l)
 | []=>List.Perm.refl _
 | y :: l => by
   unfold ins3
   split
   · exact List.Perm.refl _
   · exact ((zc3 x l).cons y).trans (List.Perm.swap ..)
theorem zbp:∀l:List K3,(zal l).Perm l
 | []=>List.Perm.refl _
 |x::l=>(zc3 x _).trans ((zbp l).cons x)
theorem zc2 (x:K3):∀{l:List K3},x∉l->l.Pairwise Lt3->(ins3 x l).Pairwise Lt3
 | [],_,_=>by simp[ins3]
 | y :: l, hx, h => by
   have h':=List.pairwise_cons.mp h
   unfold ins3
   split
   · rename_i c
     exact List.pairwise_cons.mpr ⟨fun z hz=>by
      rcases List.mem_cons.mp hz with e|e
      · rw[e];exact c
      · exact zcN c (h'.1 z e),h⟩
   · rename_i c
     refine List.pairwise_cons.mpr ⟨fun z hz=>?_,zc2 x (fun m=>hx (List.mem_cons_of_mem _ m)) h'.2⟩
     rcases List.mem_cons.mp ((zc3 x l).mem_iff.mp hz) with e|e
     · rw[e]
       rcases zcO (a:=y) (b:=x) (fun z=>hx (by rw[z];exact List.mem_cons_self)) with q|q
       · exact q
       · exact absurd q c
     · exact h'.1 z e
theorem zby:∀{l:List K3},l.Nodup->(zal l).Pairwise Lt3
 | [],_=>List.Pairwise.nil
 | x :: l, h => by
   have h':=List.nodup_cons.mp h
   exact zc2 x (fun m=>h'.1 ((zbp l).mem_iff.mp m)) (zby h'.2)
theorem zb3:∀{a b:List K3},a.Perm b->a.Pairwise Lt3->b.Pairwise Lt3->a=b
 | [],b,p,_,_=>(List.nil_perm.mp p).symm
 |x::a,[],p,_,_=>absurd (List.perm_nil.mp p) (by simp)
 | x :: a, y :: b, p, ha, hb => by
   have ha':=List.pairwise_cons.mp ha
   have hb':=List.pairwise_cons.mp hb
   have e:x=y:=by
    rcases List.mem_cons.mp (p.mem_iff.mp List.mem_cons_self) with e1|e1
    · exact e1
    · rcases List.mem_cons.mp (p.mem_iff.mpr List.mem_cons_self) with e2|e2
      · exact e2.symm
      · exact absurd (zcN (hb'.1 x e1) (ha'.1 y e2)) (zcm y)
   subst e
   rw[zb3 (List.Perm.cons_inv p) ha'.2 hb'.2]
noncomputable def rk3 (ks:List K3)(k:K3):Int:=((ks.filter fun x=>decide (Lt3 x k)).length:Nat)
theorem zeQ {α:Type}{p q:α->Bool}:∀{l:List α},(∀x∈l,p x=true->q x=true)->(l.filter p).length<=(l.filter q).length
 | [],_=>Nat.le_refl _
 | x :: l, h => by
   have ih:=zeQ (l:=l) fun y hy=>h y (List.mem_cons_of_mem _ hy)
   rw[List.filter_cons,List.filter_cons]
   cases e:p x with
   |true=>rw[h x List.mem_cons_self e];simp;exact ih
   | false =>
     cases q x with
     |true=>simp;omega
     |false=>simpa using ih
theorem zeP {α:Type}{p q:α->Bool}:∀{l:List α} {a:α},(∀x∈l,p x=true->q x=true)->a∈l->p a=false->q a=true->(l.filter p).length<(l.filter q).length
 | [],_,_,h,_,_=>by cases h
 | x :: l, a, h, ha, hp, hq => by
   rw[List.filter_cons,List.filter_cons]
   rcases List.mem_cons.mp ha with e|e
   · subst e
     have:=zeQ (l:=l) fun y hy=>h y (List.mem_cons_of_mem _ hy)
     rw[hp,hq];simp;omega
   · have ih:=zeP (l:=l) (fun y hy=>h y (List.mem_cons_of_mem _ hy)) e hp hq
     cases e':p x with
     |true=>rw[h x List.mem_cons_self e'];simp;exact ih
     | false =>
       cases q x with
       |true=>simp;omega
       |false=>simpa using ih
theorem zfM {ks:List K3}{a b:K3}(ha:a∈ks)(h:Lt3 a b):rk3 ks a<rk3 ks b:=by
 unfold rk3
 have:=zeP (p:=fun x=>decide (Lt3 x a)) (q:=fun x=>decide (Lt3 x b)) (l:=ks) (a:=a) (fun x _ hx=>decide_eq_true (zcN (of_decide_eq_true hx) h)) ha (decide_eq_false (zcm a)) (decide_eq_true h)
 omega
theorem zhc {ks:List K3}{a b:K3}(ha:a∈ks)(hb:b∈ks):Lt3 a b↔rk3 ks a<rk3 ks b:=by
 refine⟨zfM ha,fun h=>?_⟩
 by_cases e:a=b
 · subst e;omega
 · rcases zcO e with z|z
   · exact z
   · have:=zfM hb z;omega
theorem zkv {ks:List K3}{a b:K3}(ha:a∈ks)(hb:b∈ks)(h:rk3 ks a=rk3 ks b):a=b:=by
 by_cases e:a=b
 · exact e
 · rcases zcO e with z|z
   · have:=zfM ha z;omega
   · have:=zfM hb z;omega
end R
end
section
namespace R
open PySem (Str PyData Operator CmpOp)
inductive D where
 |non|bl (b:Bool)|int (i:Int)|str (x:Str)|tup (ds:List D)|ref (l:Nat)
 |fix (ds:List D)
inductive MO where
 |lst (ds:List D)|dic (kvs:List (Int × D))|ins (c:Nat) (fs:List (Str × D))
 |dtp (kvs:List (List Int × D))
 |d3 (kvs:List (K3 × D))
structure St where
 frz:List MO
 new:List MO
 lk:List Nat
inductive Out (α:Type) where
 |ok (a:α) (S:St)
 |err (d:D) (S:St)
 |bad
noncomputable def Out.bind {α β:Type}(o:Out α)(f:α->St->Out β):Out β:=match o with
 |.ok a S=>f a S
 |.err d S=>.err d S
 |.bad=>.bad
noncomputable def lift {α:Type}(S:St):Option α->Out α
 |some a=>.ok a S
 |none=>.bad
namespace St
noncomputable def get (S:St)(l:Nat):Option MO:=if l<S.frz.length then S.frz[l]? else S.new[l - S.frz.length]?
noncomputable def len (S:St):Nat:=S.frz.length+S.new.length
noncomputable def push (S:St)(o:MO):St:={S with new:=S.new++[o]}
noncomputable def put (S:St)(l:Nat)(o:MO):Option St:=if l<S.frz.length then none else if S.lk.contains l then none else some {S with new:=S.new.set (l - S.frz.length) o}
noncomputable def enter (S:St):St:=⟨S.frz++S.new,[],[]⟩
end St
noncomputable def lay (S:St)(ds:List D):Out D:=if ds.length<=16777216 then .ok (.ref S.len) (S.push (.lst ds)) else .bad
noncomputable def wr (S:St)(l:Nat)(ds:List D)(d:D):Out D:=if ds.length<=16777216 then (match S.put l (.lst ds) with|some S'=>.ok d S'|none=>.bad) else .bad
noncomputable def pd (S:St):Nat->D->Option PyData
 |_,.non=>some .none
 |_,.bl b=>some (.bool b)
 |_,.int i=>some (.int i)
 |_,.str x=>if PySem.PyData.strOk x then some (.str x) else none
 |n+1,.tup ds=>(ds.mapM (pd S n)).map PyData.tuple
 | n + 1, .ref l => match S.get l with
   |some (.lst ds)=>(ds.mapM (pd S n)).map PyData.list
   |_=>none
 |_,.fix _=>none
 |0,_=>none
mutual
noncomputable def flat (n:Nat):D->Bool
 |.tup ds=>flats n ds
 |.ref l=>decide (l<n)
 |.fix ds=>flats n ds
 |_=>true
noncomputable def flats (n:Nat):List D->Bool
 | []=>true
 |d::ds=>flat n d&&flats n ds
end
noncomputable def zcj (S:St):D->Option (List D)
 |.tup ds=>some ds
 |.fix ds=>some ds
 | .ref l => match S.get l with
   |some (.lst ds)=>some ds
   |_=>none
 |_=>none
noncomputable def lkOf (S:St):D->List Nat
 |.ref l=>[l]
 |_=>[]
noncomputable def tru (S:St):D->Option Bool
 |.non=>some false
 |.bl b=>some b
 |.int i=>some (i != 0)
 |.tup ds=>some (!ds.isEmpty)
 | .ref l => match S.get l with
   |some (.lst ds)=>some (!ds.isEmpty)
   |_=>none
 |_=>none
noncomputable def tyOf (S:St):D->Option String
 |.non=>some "NoneType"
 |.bl _=>some "bool"
 |.int _=>some "int"
 |.str _=>some "str"
 |.tup _=>some "tuple"
 | .ref l => match S.get l with
   |some (.lst _)=>some "list"
   |some (.dic _)=>some "dict"
   |some (.dtp _)=>some "dict"
   |_=>none
 |.fix _=>none
noncomputable def ixN (n:Nat)(i:Int):Option Nat:=if 0<=i then (if i<n then some i.toNat else none) else if -(n:Int)<=i then some (i+n).toNat else none
noncomputable def atI {α:Type}(xs:List α)(i:Int):Option α:=(ixN xs.length i).bind fun j=>xs[j]?
noncomputable def sIx (n d:Nat):Option Int->Nat
 |none=>d
 |some i=>if i<0 then (i+n).toNat else min i.toNat n
noncomputable def cut {α:Type}(xs:List α)(lo hi:Option Int):List α:=(xs.drop (sIx xs.length 0 lo)).take (sIx xs.length xs.length hi - sIx xs.length 0 lo)
noncomputable def zd2:D->Option Int
 |.int i=>some i
 |_=>none
noncomputable def zbD (m:Bool)(d:D):Option (Option Int):=if m then (match d with|.int i=>some (some i)|_=>none) else some none
noncomputable def zja (i j:Int):Bool:=decide (-(2 ^ 64)<i/\i<2 ^ 64) || decide (-(2 ^ 64)<j/\j<2 ^ 64)
noncomputable def binI (S:St)(op:Operator)(i j:Int):Out D:=match op with
 |.Add=>.ok (.int (i+j)) S
 |.Sub=>.ok (.int (i - j)) S
 |.Mult=>if zja i j then .ok (.int (i * j)) S else .bad
 |.FloorDiv=>if 0<j/\j<1073741824 then .ok (.int (i / j)) S else .bad
 |.Mod=>if 0<j then .ok (.int (i % j)) S else .bad
 |.Pow=>if 0<=j/\j<=1000000/\-18446744073709551616<i/\i<18446744073709551616 then .ok (.int (i ^ j.toNat)) S else .bad
 |_=>.bad
noncomputable def binD (S:St)(op:Operator)(x y:D):Out D:=match x,y with
 |.int i,.int j=>binI S op i j
 |.tup xs,.tup ys=>(match op with|.Add=>if xs.length+ys.length<=16777216 then .ok (.tup (xs++ys)) S else .bad|_=>.bad)
 |.ref a,.ref b=>(match op,S.get a,S.get b with|.Add,some (.lst xs),some (.lst ys)=>lay S (xs++ys)|_,_,_=>.bad)
 |_,_=>.bad
noncomputable def eqD (S:St)(x y:D):Option Bool:=(pd S 60 x).bind fun a=>(pd S 60 y).map fun b=>PyData.eqv a b
noncomputable def inD (S:St)(x:D)(ys:List D):Option Bool:=(ys.mapM fun z=>eqD S z x).map fun bs=>bs.any id
noncomputable def lexLt:List Int->List Int->Bool
 | [],[]=>false
 | [],_::_=>true
 |_::_,[]=>false
 |a::as,b::bs=>if a=b then lexLt as bs else decide (a<b)
noncomputable def zbG (ds:List D):Option (List Int):=ds.mapM zd2
noncomputable def cmpI (op:CmpOp)(i j:Int):Option Bool:=match op with
 |.Eq=>some (decide (i=j))
 |.NotEq=>some (!decide (i=j))
 |.Lt=>some (decide (i<j))
 |.LtE=>some (decide (i<=j))
 |.Gt=>some (decide (j<i))
 |.GtE=>some (decide (j<=i))
 |_=>none
noncomputable def zla:D->Bool|.non=>true|_=>false
noncomputable def zef:D->Option (Option Int)
 |.non=>some none
 |.int i=>some (some i)
 |_=>none
noncomputable def dKvs (S:St):D->Option (List (List Int × D))
 |.ref l=>(match S.get l with|some (.dtp kvs)=>some kvs|_=>none)
 |_=>none
noncomputable def zco (kvs:List (List Int × D)):Option (List (List Int × Option Int)):=kvs.mapM fun kv=>(zef kv.2).map fun w=>(kv.1,w)
noncomputable def eqK (a b:List (List Int × D)):Option Bool:=(zco a).bind fun x=>(zco b).bind fun y=>if x=y then some true else none
noncomputable def zeS (S:St)(x y:D):Option Bool:=match dKvs S x,dKvs S y with
 |some a,some b=>eqK a b
 |_,_=>eqD S x y
noncomputable def zd0:D->Option (List Int)
 |.tup ds=>zbG ds
 |_=>none
noncomputable def key3:D->Option K3
 |.tup [.int a,.tup ds,.int b]=>(zbG ds).map fun p=>(a,p,b)
 |_=>none
noncomputable def zah (k:K3):D:=.tup [.int k.1,.tup (k.2.1.map .int),.int k.2.2]
noncomputable def d3K (S:St):D->Option (List (K3 × D))
 |.ref l=>(match S.get l with|some (.d3 kvs)=>some kvs|_=>none)
 |_=>none
noncomputable def zfi (kvs:List (K3 × D))(k:K3)(v:D):List (K3 × D):=if k∈kvs.map (·.1) then kvs.map (fun x=>if x.1=k then (x.1,v) else x) else kvs++[(k,v)]
noncomputable def lst3 (S:St)(x:D):Option (List K3):=match x with
 |.ref p=>(match S.get p with|some (.lst ds)=>ds.mapM key3|_=>none)
 |_=>none
noncomputable def valP (kvs:List (List Int × D))(k:List Int):Option D:=(kvs.find? fun kv=>decide (kv.1=k)).map (·.2)
noncomputable def zfq (S:St)(x y:D):Option Bool:=match dKvs S y with
 |some kvs=>(zd0 x).map fun k=>(valP kvs k).isSome
 | none => (match d3K S y with
   |some kvs=>(key3 x).map fun k=>decide (k∈kvs.map (·.1))
   |none=>(zcj S y).bind fun ys=>inD S x ys)
noncomputable def cmpO (S:St)(op:CmpOp)(x y:D):Option Bool:=match op with
 |.Eq=>zeS S x y
 |.NotEq=>(zeS S x y).map (!·)
 |.Is=>(match y with|.non=>some (zla x)|.bl b=>(match x with|.bl a=>some (a == b)|_=>none)|_=>none)
 |.IsNot=>(match y with|.non=>some (!zla x)|_=>none)
 |.In=>zfq S x y
 |.NotIn=>(zfq S x y).map (!·)
 |.Lt=>(match x,y with|.tup xs,.tup ys=>(zbG xs).bind fun a=>(zbG ys).map fun b=>lexLt a b|_,_=>none)
 |_=>none
noncomputable def cmpD (S:St)(op:CmpOp)(x y:D):Option Bool:=match x,y with
 |.int i,.int j=>cmpI op i j
 |_,_=>cmpO S op x y
inductive Bi where
 |len|abs|max2|min2|isin (t:String)
noncomputable def zb1 (ds:List D):Option (List (Option Int)):=ds.mapM zef
inductive Mt where
 |append|popAt|count
noncomputable def bi (S:St):Bi->List D->Out D
 | .len, [x] => (match x with
   |.tup ds=>.ok (.int ds.length) S
   |.fix ds=>.ok (.int ds.length) S
   |.ref l=>(match S.get l with|some (.lst ds)=>.ok (.int ds.length) S|some (.dic kvs)=>.ok (.int kvs.length) S|some (.dtp kvs)=>.ok (.int kvs.length) S|_=>.bad)
   |_=>.bad)
 |.abs,[.int i]=>.ok (.int (if i<0 then -i else i)) S
 |.max2,[.int i,.int j]=>.ok (.int (if j > i then j else i)) S
 |.min2,[.int i,.int j]=>.ok (.int (if j<i then j else i)) S
 |.isin t,[x]=>(match tyOf S x with|some a=>.ok (.bl (a == t || (a == "bool"&&t == "int"))) S|none=>.bad)
 |_,_=>.bad
noncomputable def isL (S:St):D->Bool
 |.ref l=>(match S.get l with|some (.lst _)=>true|_=>false)
 |_=>false
noncomputable def mt (S:St):Mt->D->List D->Out D
 |.append,.ref l,[y]=>(match S.get l with|some (.lst ds)=>wr S l (ds++[y]) .non|_=>.bad)
 | .popAt, .ref l, [.int i] => (match S.get l with
   |some (.lst ds)=>if 0<=i then (match ds[i.toNat]? with|some y=>wr S l (ds.eraseIdx i.toNat) y|none=>.bad) else .bad
   |_=>.bad)
 | .count, .ref l, [.int i] => (match S.get l with
   |some (.lst ds)=>(match zb1 ds with|some os=>.ok (.int (os.count (some i):Nat)) S|none=>.bad)
   |_=>.bad)
 |_,_,_=>.bad
noncomputable def putP:List (List Int × D)->List Int->D->List (List Int × D)
 | [],k,v=>[(k,v)]
 |(j,d)::r,k,v=>if j=k then (j,v)::r else (j,d)::putP r k v
noncomputable def putI:List (Int × D)->Int->D->List (Int × D)
 | [],k,v=>[(k,v)]
 |(j,d)::r,k,v=>if j=k then (j,v)::r else (j,d)::putI r k v
noncomputable def dPut (S:St)(x y v:D):Option St:=match x with
 | .ref l => (match S.get l with
   |some (.dtp kvs)=>(zd0 y).bind fun k=>if kvs.length<16777216 then S.put l (.dtp (putP kvs k v)) else none
   |some (.dic kvs)=>(zd2 y).bind fun k=>if kvs.length<16777216 then S.put l (.dic (putI kvs k v)) else none
   |some (.d3 kvs)=>(key3 y).bind fun k=>if kvs.length<16777216 then S.put l (.d3 (zfi kvs k v)) else none
   |_=>none)
 |_=>none
noncomputable def zbT (S:St):D->Option (Nat × List (Str × D))
 |.ref l=>(match S.get l with|some (.ins c fs)=>some (c,fs)|_=>none)
 |_=>none
noncomputable def ziP (f:Str)(v:D):List (Str × D)->List (Str × D)
 | []=>[(f,v)]
 |(g,x)::r=>if g=f then (g,v)::r else (g,x)::ziP f v r
noncomputable def zbU (S:St)(x:D)(f:Str)(v:D):Option St:=match x with
 |.ref l=>(match S.get l with|some (.ins c fs)=>if fs.length<1000 then S.put l (.ins c (ziP f v fs)) else none|_=>none)
 |_=>none
noncomputable def zjR:D->Bool|.non=>true|_=>false
mutual
inductive CE where
 |loc (i:Nat)|con (d:D)
 |tst (a:CE)
 |bin (op:Operator) (a b:CE)|neg (a:CE)|nt (a:CE)
 |cmp (op:CmpOp) (a b:CE)
 |and (a b:CE)|or (a b:CE)|ite (c a b:CE)
 |tup (es:CEs)|lst (es:CEs)|dnew|dnewT|dnew3|d3keys (a:CE)|d3srt (a:CE)|srt3 (a:CE)
 |ix (a b:CE)
 |fld (a:CE) (f:Str)|mk (c f:Nat) (x:Str) (j:Nat) (es:CEs)|meth (m:Str) (tb:List (Nat × Nat)) (o:CE) (es:CEs)|isc (cs:List Nat) (x:Str) (a:CE)|callC (f:Nat) (x m:Str) (es:CEs)|clr (a:CE)
 |sl (a:CE) (ml mh:Bool) (lo hi:CE)
 |call (f j:Nat) (es:CEs)|callW (f j:Nat) (es:CEs)|bi (b:Bi) (es:CEs)|mt (m:Mt) (o:CE) (es:CEs)
 |mkL (l:CL)|mkT (l:CL)|all (l:CL)|ext (a:CE) (l:CL)
inductive CEs where
 |nil|cons (e:CE) (r:CEs)
inductive CL where
 |val (e:CE)|callL (f j:Nat) (es:CEs)|rng1 (a:CE)|rng2 (a b:CE)|enum (a:CE)
 |comp (nt:Nat) (js:List Nat) (g:List Nat) (it:CL) (c:CE) (e:CE)
end
inductive CS where
 |nil|stop|asg (i:Nat) (e:CE) (r:CS)|setIx (a b e:CE) (r:CS)|setF (a:CE) (f:Str) (e:CE) (r:CS)
 |ifS (c:CE) (t u:CS) (r:CS)|forS (g:List Nat) (l:CL) (b:CS) (r:CS)|ret (e:CE) (r:CS)|expr (e:CE) (r:CS)
noncomputable abbrev Ev:=List (Option D)
noncomputable def zde:List Nat->List D->Ev->Ev
 |i::is,d::ds,δ=>zde is ds (δ.set i (some d))
 |_,_,δ=>δ
noncomputable def asgG (g:List Nat)(x:D)(δ:Ev):Option Ev:=match g with
 | [i]=>some (δ.set i (some x))
 |is=>(match x with|.tup ds=>if ds.length=is.length then some (zde is ds δ) else none|_=>none)
noncomputable def zcl (x y:D):D:=.tup [x,y]
noncomputable def zdD (S:St):D->Option (List D × List Nat)
 |.ref l=>(match S.get l with|some (.lst xs)=>some (xs.mapIdx fun i d=>zcl (.int i) d,[l])|_=>none)
 |.tup xs=>some (xs.mapIdx fun i d=>zcl (.int i) d,[])
 |_=>none
noncomputable abbrev CF:=Nat->List D->St->Out D
noncomputable def zcU (S:St)(d:D)(T:St):Out D:=
 if flat S.len d then .ok d S else
 let keep:Out D:=.ok d ⟨S.frz,S.new++T.new,S.lk⟩
 match d with
  | .ref l => (match T.get l with
    |some (.lst ds)=>if flats S.len ds then .ok (.ref S.len) (S.push (.lst ds)) else keep
    |some (.dic kvs)=>if flats S.len (kvs.map (·.2)) then .ok (.ref S.len) (S.push (.dic kvs)) else keep
    |some (.dtp kvs)=>if flats S.len (kvs.map (·.2)) then .ok (.ref S.len) (S.push (.dtp kvs)) else keep
    |_=>keep)
  |_=>keep
noncomputable def zcT (S:St)(d:D)(T:St):Out (List D):=match d with
 |.ref l=>if l<S.len then .bad else (match T.get l with|some (.lst ds)=>if flats S.len ds then .ok ds S else .bad|_=>.bad)
 |_=>.bad
@[irreducible] noncomputable def app (cf:CF)(f:Nat)(ds:List D)(S:St):Out D:=(cf f ds S.enter).bind fun d T=>zcU S d T
@[irreducible] noncomputable def appL (cf:CF)(f:Nat)(ds:List D)(S:St):Out (List D):=(cf f ds S.enter).bind fun d T=>zcT S d T
@[irreducible] noncomputable def appW (cf:CF)(f:Nat)(ds:List D)(S:St):Out D:=cf f ds S
noncomputable def csl (nt:Nat)(js:List Nat)(δ:Ev):Ev:=List.replicate nt none++js.map fun j=>(δ[j]?).join
noncomputable def za6 (g:List Nat)(c:Ev->St->Out Bool)(e:Ev->St->Out D):List D->Ev->St->Out (List D)
 | [],_,S=>.ok [] S
 | x :: xs, δ, S => match asgG g x δ with
   |none=>.bad
   |some δ'=>(c δ' S).bind fun b S1=>if b then (e δ' S1).bind fun d S2=>(za6 g c e xs δ' S2).bind fun ds S3=>.ok (d::ds) S3 else za6 g c e xs δ' S1
noncomputable def zbh {α:Type}(ls:List Nat)(S:St)(f:St->Out α):Out α:=
 (f {S with lk:=ls++S.lk}).bind fun a S'=>.ok a {S' with lk:=S.lk}
noncomputable def ze1:D->Option Bool
 |.bl b=>some b
 |_=>none
noncomputable def allD (ds:List D):Option Bool:=(ds.mapM ze1).map fun bs=>bs.all id
section
variable (cf:CF)
mutual
noncomputable def evE:CE->Ev->St->Out D
 |.loc i,δ,S=>lift S (δ[i]?).join
 |.con d,_,S=>.ok d S
 |.tst _,_,_=>.bad
 |.bin op a b,δ,S=>(evE a δ S).bind fun x S1=>(evE b δ S1).bind fun y S2=>binD S2 op x y
 |.neg a,δ,S=>(evE a δ S).bind fun x S1=>match x with|.int i=>.ok (.int (-i)) S1|_=>.bad
 |.nt a,δ,S=>(evE a δ S).bind fun x S1=>match x with|.bl b=>.ok (.bl (!b)) S1|_=>.bad
 |.cmp op a b,δ,S=>(evE a δ S).bind fun x S1=>(evE b δ S1).bind fun y S2=>(lift S2 (cmpD S2 op x y)).bind fun k S3=>.ok (.bl k) S3
 |.and a b,δ,S=>(evE a δ S).bind fun x S1=>match x with|.bl k=>if k then evE b δ S1 else .ok (.bl false) S1|_=>.bad
 |.or a b,δ,S=>(evE a δ S).bind fun x S1=>match x with|.bl k=>if k then .ok (.bl true) S1 else evE b δ S1|_=>.bad
 |.ite c a b,δ,S=>(evT c δ S).bind fun k S1=>if k then evE a δ S1 else evE b δ S1
 |.tup es,δ,S=>(evEs es δ S).bind fun ds S1=>if ds.length<=16777216 then .ok (.tup ds) S1 else .bad
 |.lst es,δ,S=>(evEs es δ S).bind fun ds S1=>lay S1 ds
 |.dnew,_,S=>.ok (.ref S.len) (S.push (.dic []))
 |.dnewT,_,S=>.ok (.ref S.len) (S.push (.dtp []))
 |.dnew3,_,S=>.ok (.ref S.len) (S.push (.d3 []))
 |.d3keys a,δ,S=>(evE a δ S).bind fun x S1=>(lift S1 (d3K S1 x)).bind fun kvs S2=>lay S2 (kvs.map fun kv=>zah kv.1)
 |.d3srt a,δ,S=>(evE a δ S).bind fun x S1=>(lift S1 (d3K S1 x)).bind fun kvs S2=>if kvs.length<64 then lay S2 ((zal (kvs.map (·.1))).map zah) else .bad
 |.srt3 a,δ,S=>(evE a δ S).bind fun x S1=>(lift S1 (lst3 S1 x)).bind fun ks S2=>if ks.length<64/\ks.Nodup then lay S2 ((zal ks).map zah) else .bad
 |.fld a f,δ,S=>(evE a δ S).bind fun x S1=>lift S1 ((zbT S1 x).bind fun p=>p.2.lookup f)
 |.mk c f _ j es,δ,S=>(evEs es δ S).bind fun ds S1=>(appW cf f (.ref S1.len::(ds++List.replicate j .non)) (S1.push (.ins c []))).bind fun d S2=>if zjR d then .ok (.ref S1.len) S2 else .bad
 |.meth m tb o es,δ,S=>(evE o δ S).bind fun x S1=>(lift S1 (zbT S1 x)).bind fun p S1=>(lift S1 (tb.lookup p.1)).bind fun f S1=>if (p.2.lookup m).isNone then (evEs es δ S1).bind fun ds S2=>appW cf f (x::ds) S2 else .bad
 |.isc cs _ a,δ,S=>(evE a δ S).bind fun x S1=>(lift S1 (zbT S1 x)).bind fun p S1=>.ok (.bl (cs.contains p.1)) S1
 |.callC f _ _ es,δ,S=>(evEs es δ S).bind fun ds S1=>appW cf f ds S1
 |.clr a,δ,S=>(evE a δ S).bind fun x S1=>if isL S1 x then (match x with|.ref l=>wr S1 l [] .non|_=>.bad) else .bad
 |.ix a b,δ,S=>(evE a δ S).bind fun x S1=>(evE b δ S1).bind fun y S2=>match zcj S2 x,y with|some ds,.int i=>lift S2 (atI ds i)|_,_=>.bad
 |.sl a ml mh lo hi,δ,S=>(evE a δ S).bind fun x S1=>(evE lo δ S1).bind fun y S2=>(evE hi δ S2).bind fun z S3=>match zbD ml y,zbD mh z with
  | some l, some h => (match x with
    |.tup ds=>.ok (.tup (cut ds l h)) S3
    |.fix ds=>lay S3 (cut ds l h)
    |.ref p=>(match S3.get p with|some (.lst ds)=>lay S3 (cut ds l h)|_=>.bad)
    |_=>.bad)
  |_,_=>.bad
 |.call f j es,δ,S=>(evEs es δ S).bind fun ds S1=>app cf f (ds++List.replicate j .non) S1
 |.callW f j es,δ,S=>(evEs es δ S).bind fun ds S1=>appW cf f (ds++List.replicate j .non) S1
 |.bi b es,δ,S=>(evEs es δ S).bind fun ds S1=>R.bi S1 b ds
 |.mt m o es,δ,S=>(evE o δ S).bind fun x S1=>if isL S1 x then (evEs es δ S1).bind fun ds S2=>R.mt S2 m x ds else .bad
 |.mkL l,δ,S=>(evL l δ S).bind fun r S1=>lay S1 r.1
 |.mkT l,δ,S=>(evL l δ S).bind fun r S1=>if r.1.length<=16777216 then .ok (.tup r.1) S1 else .bad
 |.all l,δ,S=>(evL l δ S).bind fun r S1=>(lift S1 (allD r.1)).bind fun b S2=>.ok (.bl b) S2
 |.ext a l,δ,S=>(evE a δ S).bind fun x S1=>if isL S1 x then (evL l δ S1).bind fun r S2=>(match x with
  |.ref p=>(match S2.get p with|some (.lst ds)=>wr S2 p (ds++r.1) .non|_=>.bad)
  |_=>.bad) else .bad
noncomputable def evEs:CEs->Ev->St->Out (List D)
 |.nil,_,S=>.ok [] S
 |.cons e r,δ,S=>(evE e δ S).bind fun d S1=>(evEs r δ S1).bind fun ds S2=>.ok (d::ds) S2
noncomputable def evT:CE->Ev->St->Out Bool
 |.cmp op a b,δ,S=>(evE a δ S).bind fun x S1=>(evE b δ S1).bind fun y S2=>lift S2 (cmpD S2 op x y)
 |.nt a,δ,S=>(evT a δ S).bind fun k S1=>.ok (!k) S1
 |.and a b,δ,S=>(evT a δ S).bind fun k S1=>if k then evT b δ S1 else .ok false S1
 |.or a b,δ,S=>(evT a δ S).bind fun k S1=>if k then .ok true S1 else evT b δ S1
 |.tst e,δ,S=>(evE e δ S).bind fun x S1=>lift S1 (tru S1 x)
 |_,_,_=>.bad
noncomputable def evL:CL->Ev->St->Out (List D × List Nat)
 |.val e,δ,S=>(evE e δ S).bind fun x S1=>(lift S1 (zcj S1 x)).bind fun ds S2=>.ok (ds,lkOf S2 x) S2
 |.callL f j es,δ,S=>(evEs es δ S).bind fun ds S1=>(appL cf f (ds++List.replicate j .non) S1).bind fun r S2=>.ok (r,[]) S2
 |.rng1 a,δ,S=>(evE a δ S).bind fun x S1=>match x with|.int j=>if -(2 ^ 62)<=j/\j<2 ^ 62 then .ok ((List.range j.toNat).map fun (k:Nat)=>.int k,[]) S1 else .bad|_=>.bad
 |.rng2 a b,δ,S=>(evE a δ S).bind fun x S1=>(evE b δ S1).bind fun y S2=>match x,y with
  |.int i,.int j=>if -(2 ^ 62)<=i/\i<2 ^ 62/\-(2 ^ 62)<=j/\j<2 ^ 62 then .ok ((List.range (j - i).toNat).map fun (k:Nat)=>.int (i+k),[]) S2 else .bad
  |_,_=>.bad
 |.enum a,δ,S=>(evE a δ S).bind fun x S1=>lift S1 (zdD S1 x)
 |.comp n js g it c e,δ,S=>(evL it δ S).bind fun r S1=>(zbh r.2 S1 fun S2=>za6 g (evT c) (evE e) r.1 (csl n js δ) S2).bind fun ds S3=>if ds.length<=16777216 then .ok (ds,[]) S3 else .bad
end
inductive Fl where
 |nx (δ:Ev)|rt (d:D)
noncomputable def zbo (g:List Nat)(b:Ev->St->Out Fl):List D->Ev->St->Out Fl
 | [],δ,S=>.ok (.nx δ) S
 | x :: xs, δ, S => match asgG g x δ with
   |none=>.bad
   | some δ' => (b δ' S).bind fun f S1 => match f with
     |.nx δ2=>zbo g b xs δ2 S1
     |.rt d=>.ok (.rt d) S1
noncomputable def exS:CS->Ev->St->Out Fl
 |.nil,δ,S=>.ok (.nx δ) S
 |.stop,_,_=>.bad
 |.asg i e r,δ,S=>(evE cf e δ S).bind fun x S1=>exS r (δ.set i (some x)) S1
 |.setIx a b e r,δ,S=>(evE cf e δ S).bind fun v S1=>(evE cf a δ S1).bind fun x S2=>(evE cf b δ S2).bind fun y S3=>match dPut S3 x y v with|some S4=>exS r δ S4|none=>.bad
 |.setF a f e r,δ,S=>(evE cf e δ S).bind fun v S1=>(evE cf a δ S1).bind fun x S2=>match zbU S2 x f v with|some S3=>exS r δ S3|none=>.bad
 |.ifS c t u r,δ,S=>(evT cf c δ S).bind fun k S1=>(if k then exS t δ S1 else exS u δ S1).bind fun f S2=>match f with
  |.nx δ'=>exS r δ' S2
  |.rt d=>.ok (.rt d) S2
 |.forS g l b r,δ,S=>(evL cf l δ S).bind fun q S1=>(zbh q.2 S1 fun S2=>zbo g (exS b) q.1 δ S2).bind fun f S3=>match f with
  |.nx δ'=>exS r δ' S3
  |.rt d=>.ok (.rt d) S3
 |.ret e _,δ,S=>(evE cf e δ S).bind fun x S1=>.ok (.rt x) S1
 |.expr e r,δ,S=>(evE cf e δ S).bind fun _ S1=>exS r δ S1
end
inductive Prim where
 |tally
noncomputable def rowD (r:Int × Int):D:=.tup [.int r.1,.int r.2]
noncomputable def talD (os:List (Option Int)):List D:=(zlN (zdE [] os)).map rowD
noncomputable def prm (S:St):Prim->List D->Out D
 | .tally, [.ref l] => (match S.get l with
   | some (.lst ws) => (match zb1 ws with
     |some os=>if (zdE [] os).length<64/\os.length<=16777216 then .ok (.ref S.len) (S.push (.lst (talD os))) else .bad
     |none=>.bad)
   |_=>.bad)
 |_,_=>.bad
structure Fn where
 np:Nat
 nn:Nat
 body:CS
 prim:Option Prim
noncomputable def zaW (F:Fn)(ds:List D):Ev:=ds.map some++List.replicate (F.nn - F.np) none
noncomputable def callF (P:List Fn):Nat->CF
 |0,_,_,_=>.bad
 | n + 1, f, ds, S => match P[f]? with
   | some F => if ds.length = F.np then (match F.prim with
      |some p=>if 3<=n then prm S p ds else .bad
      | none => (exS (callF P n) F.body (zaW F ds) S).bind fun r T => match r with
        |.nx _=>.ok .non T
        |.rt d=>.ok d T)
     else .bad
   |none=>.bad
end R
end
section
namespace R
open PySem (Str PyData Operator CmpOp)
@[simp] theorem zaM {α β:Type}(a:α)(S:St)(f:α->St->Out β):(Out.ok a S).bind f=f a S:=rfl
@[simp] theorem znM {α β:Type}(f:α->St->Out β):(Out.bad:Out α).bind f=.bad:=rfl
@[simp] theorem znL {α β:Type}(d:D)(S:St)(f:α->St->Out β):(Out.err d S:Out α).bind f=.err d S:=rfl
@[simp] theorem zbF {α:Type}(S:St)(a:α):lift S (some a)=.ok a S:=rfl
theorem zbH (S:St):S.enter.get=S.get:=by
 funext l
 simp only[St.get,St.enter,List.length_append,List.getElem?_append]
 by_cases h:l<S.frz.length
 · simp[h,Nat.lt_of_lt_of_le h (Nat.le_add_right _ _)]
 · simp only[h,if_false]
   split
   · rfl
   · simp only[List.getElem?_nil]
     exact (List.getElem?_eq_none (by omega)).symm
@[simp] theorem zh5 (S:St):S.enter.frz=S.frz++S.new:=rfl
@[simp] theorem zno (S:St):S.enter.new=[]:=rfl
@[simp] theorem znK (S:St):S.enter.lk=[]:=rfl
@[simp] theorem zh4 (S:St):S.enter.len=S.len:=by simp[St.len]
theorem zk3 (S:St):(S.frz++S.new).length=S.len:=by simp[St.len]
theorem zaZ {S:St}{l:Nat}{o:MO}(h:S.get l=some o):l<S.len:=by
 unfold St.get at h
 unfold St.len
 split at h
 · omega
 · have:=(List.getElem?_eq_some_iff.mp h).1
   omega
theorem zlg {S:St}{l:Nat}{o:MO}(h:S.get l=some o)(nw:List MO)(lk:List Nat):(St.mk (S.frz++S.new) nw lk).get l=some o:=by
 have hl:=zaZ h
 rw[<-zbH] at h
 unfold St.get at h⊢
 have e:l<(S.frz++S.new).length:=by rw[zk3];exact hl
 simp only[zh5,e,if_true] at h⊢
 exact h
@[simp] theorem znH (n:Nat):flat n .non=true:=by simp[flat]
@[simp] theorem zou (n:Nat)(b:Bool):flat n (.bl b)=true:=by simp[flat]
@[simp] theorem znI (n:Nat)(i:Int):flat n (.int i)=true:=by simp[flat]
@[simp] theorem znG (n:Nat)(x:Str):flat n (.str x)=true:=by simp[flat]
@[simp] theorem zjs (n:Nat)(ds:List D):flat n (.tup ds)=flats n ds:=by simp[flat]
@[simp] theorem znJ (n:Nat)(ds:List D):flat n (.fix ds)=flats n ds:=by simp[flat]
@[simp] theorem znj (n:Nat):flats n []=true:=by simp[flats]
@[simp] theorem zdC (n:Nat)(d:D)(ds:List D):flats n (d::ds)=(flat n d&&flats n ds):=by simp[flats]
@[simp] theorem zeO (n : Nat) : ∀ ds es : List D, flats n (ds ++ es) = (flats n ds && flats n es)
  | [],es=>by simp
  |d::ds,es=>by simp[zeO n ds es,Bool.and_assoc]
theorem zcg (n:Nat):∀ds:List D,flats n ds=true↔∀d∈ds,flat n d=true
 | []=>by simp
 |d::ds=>by simp[zcg n ds]
@[simp] theorem zlB (n:Nat)(ns:List Int):flats n (ns.map D.int)=true:=by rw[zcg];simp
@[simp] theorem zgz (S:St)(d:D)(T:St)(h:flat S.len d=true):zcU S d T=.ok d S:=by simp[zcU,h]
noncomputable def W {α:Type}(o:Out α)(Q:α->St->Prop):Prop:=match o with
 |.ok a S=>Q a S
 |_=>False
@[simp] theorem W_ok {α:Type}(a:α)(S:St)(Q:α->St->Prop):W (.ok a S) Q=Q a S:=rfl
@[simp] theorem zoH {α:Type}(Q:α->St->Prop):W (.bad:Out α) Q=False:=rfl
@[simp] theorem zoG {α:Type}(d:D)(S:St)(Q:α->St->Prop):W (.err d S:Out α) Q=False:=rfl
@[simp] theorem zaa {α β : Type} (o : Out α) (f : α → St → Out β) (Q : β → St → Prop) : W (o.bind f) Q = W o fun a S => W (f a S) Q := by
  cases o<;>rfl
theorem W.mono {α:Type}{o:Out α}{Q Q':α->St->Prop}(h:W o Q)(hq:∀a S,Q a S->Q' a S):W o Q':=by
 cases o with
 |ok a S=>exact hq a S h
 |err d S=>exact h
 |bad=>exact h
theorem W.eq {α:Type}{o:Out α}{d:α}{S:St}(h:W o fun a T=>a=d/\T=S):o=.ok d S:=by
 cases o with
 |ok a T=>obtain⟨rfl,rfl⟩:=h;rfl
 |err d S=>exact False.elim h
 |bad=>exact False.elim h
theorem W.of {α:Type}{o:Out α}{d:α}{S:St}{Q:α->St->Prop}(h:o=.ok d S)(q:Q d S):W o Q:=by rw[h];exact q
theorem W.iff {α:Type}{o:Out α}{Q:α->St->Prop}:W o Q↔∃a S,o=.ok a S/\Q a S:=by
 cases o with
 |ok a S=>exact⟨fun h=>⟨a,S,rfl,h⟩,fun⟨_,_,e,h⟩=>by cases e;exact h⟩
 |err d S=>exact⟨fun h=>h.elim,fun⟨_,_,e,_⟩=>nomatch e⟩
 |bad=>exact⟨fun h=>h.elim,fun⟨_,_,e,_⟩=>nomatch e⟩
noncomputable def fin (S:St)(r:Fl)(T:St):Out D:=match r with
 |.nx _=>zcU S .non T
 |.rt d=>zcU S d T
@[simp] theorem znk (S T:St)(d:D):fin S (.rt d) T=zcU S d T:=rfl
@[simp] theorem zoF (S T:St)(δ:Ev):fin S (.nx δ) T=.ok .non S:=by simp[fin]
theorem zjX {P:List Fn}{F:Fn}{f n:Nat}{ds:List D}{S:St}(h:P[f]?=some F)(hl:ds.length=F.np)(hp:F.prim=none:=by rfl) :
  app (callF P (n+1)) f ds S=(exS (callF P n) F.body (zaW F ds) S.enter).bind fun r T=>fin S r T:=by
 simp only[app,callF,h,hl,hp,if_true]
 generalize exS (callF P n) F.body (zaW F ds) S.enter=o
 cases o with
 |ok r T=>cases r<;>rfl
 |err d S=>rfl
 |bad=>rfl
noncomputable def finL (S:St)(r:Fl)(T:St):Out (List D):=match r with
 |.nx _=>.bad
 |.rt d=>zcT S d T
@[simp] theorem zlj (S T:St)(d:D):finL S (.rt d) T=zcT S d T:=rfl
theorem zly {P:List Fn}{F:Fn}{f n:Nat}{ds:List D}{S:St}(h:P[f]?=some F)(hl:ds.length=F.np)(hp:F.prim=none:=by rfl) :
  appL (callF P (n+1)) f ds S=(exS (callF P n) F.body (zaW F ds) S.enter).bind fun r T=>finL S r T:=by
 simp only[appL,callF,h,hl,hp,if_true]
 generalize exS (callF P n) F.body (zaW F ds) S.enter=o
 cases o with
 |ok r T=>cases r<;>rfl
 |err d S=>rfl
 |bad=>rfl
theorem zbn {g:List Nat}{b:Ev->St->Out Fl}(I:Nat->Ev->St->Prop)(Rt:D->St->Prop):∀(xs:List D) (k:Nat) (δ:Ev) (S:St),I k δ S->
  (∀i x δ S,xs[i]?=some x->I (k+i) δ S->∃δ',asgG g x δ=some δ'/\W (b δ' S) fun f S'=>match f with|.nx δ2=>I (k+i+1) δ2 S'|.rt d=>Rt d S')->
  W (zbo g b xs δ S) fun f S'=>match f with|.nx δ'=>I (k+xs.length) δ' S'|.rt d=>Rt d S'
 | [],k,δ,S,h,_=>by simpa[zbo] using h
 | x :: xs, k, δ, S, h, step => by
   obtain⟨δ',e,w⟩:=step 0 x δ S rfl h
   simp only[zbo,e,zaa]
   refine w.mono fun f S1 hf=>?_
   cases f with
   |rt d=>exact hf
   | nx δ2 =>
     have ih:=zbn I Rt xs (k+1) δ2 S1 hf (fun i y δ S hy hi=>by
      have:=step (i+1) y δ S (by simpa using hy) (by rw[show k+(i+1)=k+1+i by omega];exact hi)
      rw[show k+(i+1)+1=k+1+i+1 by omega] at this
      exact this)
     rw[show k+1+xs.length=k+(x::xs).length by simp;omega] at ih
     exact ih
theorem zb2 {c:Ev->St->Out Bool}{e:Ev->St->Out D}{S:St}{rest:Ev}(p:D->Bool)(f:D->D):∀(xs:List D) (o:Option D),
  (∀x∈xs,c (some x::rest) S=.ok (p x) S)->(∀x∈xs,p x=true->e (some x::rest) S=.ok (f x) S)->za6 [0] c e xs (o::rest) S=.ok ((xs.filter p).map f) S
 | [],o,_,_=>rfl
 | x :: xs, o, hc, he => by
   have ih:=zb2 p f xs (some x) (fun y hy=>hc y (List.mem_cons_of_mem _ hy)) (fun y hy=>he y (List.mem_cons_of_mem _ hy))
   simp only[za6,asgG,List.set_cons_zero,hc x List.mem_cons_self,zaM]
   cases hp:p x with
   |false=>simp[ih,hp]
   |true=>simp[ih,hp,he x List.mem_cons_self hp]
theorem zgg {c:Ev->St->Out Bool}{e:Ev->St->Out D}{S:St}{rest:Ev}(f:D->D)(xs:List D)(o:Option D)
  (hc:∀x∈xs,c (some x::rest) S=.ok true S) (he:∀x∈xs,e (some x::rest) S=.ok (f x) S):za6 [0] c e xs (o::rest) S=.ok (xs.map f) S:=by
 have:=zb2 (c:=c) (e:=e) (S:=S) (rest:=rest) (fun _=>true) f xs o hc (fun x hx _=>he x hx)
 rw[List.filter_eq_self.mpr (fun _ _=>rfl)] at this
 exact this
@[simp] theorem zlA {α:Type}(S:St)(f:St->Out α):zbh [] S f=(f S).bind fun a S'=>.ok a {S' with lk:=S.lk}:=rfl
end R
end
section
namespace R
open PySem (Str PyData Operator CmpOp)
noncomputable def wIf (c:Bool)(P Q:Prop):Prop:=match c with|true=>P|false=>Q
@[irreducible] noncomputable def wOpt {α:Type}(o:Option α)(k:α->Prop):Prop:=match o with|some a=>k a|none=>False
@[irreducible] noncomputable def zaQ (p k:Prop):Prop:=p/\k
@[irreducible] noncomputable def wOut {α:Type}(o:Out α)(Q:α->St->Prop):Prop:=W o Q
theorem ziv {c:Bool}{P Q:Prop}(h:c=true)(k:P):wIf c P Q:=by subst h;exact k
theorem zfa {c:Bool}{P Q:Prop}(h:c=false)(k:Q):wIf c P Q:=by subst h;exact k
theorem znO {c:Bool}{P Q:Prop}(h1:c=true->P)(h2:c=false->Q):wIf c P Q:=by
 cases c with
 |true=>exact ziv rfl (h1 rfl)
 |false=>exact zfa rfl (h2 rfl)
theorem zgT {p:Prop}[Decidable p]{P Q:Prop}(h1:p->P)(h2:¬p->Q):wIf (decide p) P Q:=znO (fun h=>h1 (of_decide_eq_true h)) (fun h=>h2 (of_decide_eq_false h))
theorem zac {α:Type}{o:Option α}{k:α->Prop}{a:α}(h:o=some a)(q:k a):wOpt o k:=by unfold wOpt;rw[h];exact q
theorem zab {p k:Prop}(h:p)(q:k):zaQ p k:=by unfold zaQ;exact⟨h,q⟩
theorem zar {α:Type}{o:Out α}{Q:α->St->Prop}{a:α}{S:St}(h:o=.ok a S)(q:Q a S):wOut o Q:=by unfold wOut;rw[h];exact q
theorem zfD {α:Type}{o:Out α}{Q:α->St->Prop}(h:W o Q):wOut o Q:=by unfold wOut;exact h
noncomputable abbrev wGet (S:St)(l:Nat)(k:MO->Prop):Prop:=wOpt (S.get l) k
noncomputable abbrev wPut (S:St)(l:Nat)(o:MO)(k:St->Prop):Prop:=wOpt (S.put l o) k
noncomputable def wLay (S:St)(ds:List D)(Q:D->St->Prop):Prop:=zaQ (ds.length<=16777216) (Q (.ref S.len) (S.push (.lst ds)))
theorem zcp {S:St}{ds:List D}{Q:D->St->Prop}(h:wLay S ds Q):W (lay S ds) Q:=by
 unfold wLay zaQ at h
 unfold lay
 rw[if_pos h.1];exact h.2
noncomputable def wWr (S:St)(l:Nat)(ds:List D)(d:D)(Q:D->St->Prop):Prop:=zaQ (ds.length<=16777216) (wPut S l (.lst ds) fun S'=>Q d S')
theorem ziu {S:St}{l:Nat}{ds:List D}{d:D}{Q:D->St->Prop}(h:wWr S l ds d Q):W (wr S l ds d) Q:=by
 unfold wWr zaQ wPut wOpt at h
 unfold wr
 rw[if_pos h.1]
 have h2:=h.2
 cases e:S.put l (.lst ds) with
 |none=>rw[e] at h2;exact h2.elim
 |some S'=>rw[e] at h2;exact h2
noncomputable def zlF (S:St)(op:Operator)(i j:Int)(Q:D->St->Prop):Prop:=match op with
 |.Add=>Q (.int (i+j)) S
 |.Sub=>Q (.int (i - j)) S
 |.Mult=>zaQ (zja i j=true) (Q (.int (i * j)) S)
 |.FloorDiv=>zaQ (0<j/\j<1073741824) (Q (.int (i / j)) S)
 |.Mod=>zaQ (0<j) (Q (.int (i % j)) S)
 |.Pow=>zaQ (0<=j/\j<=1000000/\-18446744073709551616<i/\i<18446744073709551616) (Q (.int (i ^ j.toNat)) S)
 |_=>False
noncomputable def wBin (S:St)(op:Operator)(x y:D)(Q:D->St->Prop):Prop:=match x,y with
 |.int i,.int j=>zlF S op i j Q
 |.tup xs,.tup ys=>(match op with|.Add=>zaQ (xs.length+ys.length<=16777216) (Q (.tup (xs++ys)) S)|_=>False)
 |.ref a,.ref b=>(match op with|.Add=>wGet S a fun o=>wGet S b fun u=>(match o,u with|.lst xs,.lst ys=>wLay S (xs++ys) Q|_,_=>False)|_=>False)
 |_,_=>False
theorem zlE {S:St}{op:Operator}{x y:D}{Q:D->St->Prop}(h:wBin S op x y Q):W (binD S op x y) Q:=by
 unfold wBin at h
 unfold binD
 split at h
 · unfold zlF zaQ at h
   unfold binI
   split at h<;>(try dsimp only)<;>first|exact h|(rw[if_pos h.1];exact h.2)|exact False.elim h
 · split at h
   · unfold zaQ at h
     (try simp only)
     rw[if_pos h.1];exact h.2
   · exact h.elim
 · split at h
   · unfold wGet wOpt at h
     (try simp only)
     cases ea:S.get _ with
     |none=>simp only[ea] at h
     | some o =>
       simp only[ea] at h
       cases eb:S.get _ with
       |none=>simp only[eb] at h
       | some u =>
         simp only[eb] at h
         cases o<;>cases u<;>first|exact zcp h|exact h.elim
   · exact h.elim
 · exact h.elim
noncomputable def wCmp (S:St)(op:CmpOp)(x y:D)(Q:Bool->Prop):Prop:=match x,y with
 |.int i,.int j=>(match cmpI op i j with|some k=>Q k|none=>False)
 | _, _ => (match op with
   |.Is=>(match cmpO S .Is x y with|some k=>Q k|none=>False)
   |.IsNot=>(match cmpO S .IsNot x y with|some k=>Q k|none=>False)
   |_=>wOpt (cmpO S op x y) Q)
theorem zlq {S:St}{op:CmpOp}{x y:D}(h:∀i j,x=.int i->y=.int j->False):cmpD S op x y=cmpO S op x y:=by
 unfold cmpD
 split
 · rename_i i j;exact (h i j rfl rfl).elim
 · rfl
theorem zj1 {S:St}{op:CmpOp}{x y:D}{Q:Bool->Prop}(h:wCmp S op x y Q):∃k,cmpD S op x y=some k/\Q k:=by
 have fin:∀o:Option Bool,(match o with|some k=>Q k|none=>False)->∃k,o=some k/\Q k:=fun o q=>by
  cases o with
  |none=>exact q.elim
  |some k=>exact⟨k,rfl,q⟩
 unfold wCmp at h
 split at h
 · exact fin _ h
 · rename_i hn
   rw[zlq hn]
   split at h
   · exact fin _ h
   · exact fin _ h
   · unfold wOpt at h
     cases e:cmpO S op x y with
     |none=>rw[e] at h;exact h.elim
     |some k=>rw[e] at h;exact⟨k,rfl,h⟩
theorem zjH {S:St}{op:CmpOp}{x y:D}{Q:Bool->St->Prop}(h:wCmp S op x y fun k=>Q k S):W (lift S (cmpD S op x y)) Q:=by
 obtain⟨k,e,q⟩:=zj1 h
 rw[e];exact q
noncomputable def wBi (S:St)(b:Bi)(ds:List D)(Q:D->St->Prop):Prop:=match b,ds with
 | .len, [x] => (match x with
   |.tup ds=>Q (.int ds.length) S
   |.fix ds=>Q (.int ds.length) S
   |.ref l=>wGet S l fun o=>(match o with|.lst ds=>Q (.int ds.length) S|.dic kvs=>Q (.int kvs.length) S|.dtp kvs=>Q (.int kvs.length) S|_=>False)
   |_=>False)
 |.abs,[.int i]=>Q (.int (if i<0 then -i else i)) S
 |.max2,[.int i,.int j]=>Q (.int (if j > i then j else i)) S
 |.min2,[.int i,.int j]=>Q (.int (if j<i then j else i)) S
 |.isin t,[x]=>wOpt (tyOf S x) fun a=>Q (.bl (a == t || (a == "bool"&&t == "int"))) S
 |_,_=>False
theorem znP {S:St}{b:Bi}{ds:List D}{Q:D->St->Prop}(h:wBi S b ds Q):W (bi S b ds) Q:=by
 unfold wBi at h
 split at h
 · split at h
   · exact h
   · exact h
   · rename_i l
     unfold wGet wOpt at h
     simp only[bi]
     cases e:S.get l with
     |none=>rw[e] at h;exact h.elim
     |some o=>rw[e] at h;cases o<;>first|exact h|exact h.elim
   · exact h.elim
 · exact h
 · exact h
 · exact h
 · rename_i t x
   unfold wOpt at h
   simp only[bi]
   cases e:tyOf S x with
   |none=>rw[e] at h;exact h.elim
   |some a=>rw[e] at h;exact h
 · exact h.elim
noncomputable def wIsL (S:St)(x:D)(P:Prop):Prop:=match x with
 |.ref l=>wGet S l fun o=>(match o with|.lst _=>P|_=>False)
 |_=>False
theorem ze9 {S:St}{x:D}{P:Prop}(h:wIsL S x P):isL S x=true/\P:=by
 unfold wIsL at h
 split at h
 · rename_i l
   unfold wGet wOpt at h
   unfold isL
   cases e:S.get l with
   |none=>rw[e] at h;exact h.elim
   | some o =>
     rw[e] at h
     cases o with
     |lst ds=>exact⟨by simp[e],h⟩
     |_=>exact False.elim h
 · exact h.elim
noncomputable def wMt (S:St)(m:Mt)(x:D)(ds:List D)(Q:D->St->Prop):Prop:=match m,x,ds with
 |.append,.ref l,[y]=>wGet S l fun o=>(match o with|.lst ds=>wWr S l (ds++[y]) .non Q|_=>False)
 | .popAt, .ref l, [.int i] => wGet S l fun o => (match o with
   |.lst ds=>zaQ (0<=i) (wOpt ds[i.toNat]? fun y=>wWr S l (ds.eraseIdx i.toNat) y Q)
   |_=>False)
 | .count, .ref l, [.int i] => wGet S l fun o => (match o with
   |.lst ds=>wOpt (zb1 ds) fun os=>Q (.int (os.count (some i):Nat)) S
   |_=>False)
 |_,_,_=>False
theorem znN {S:St}{m:Mt}{x:D}{ds:List D}{Q:D->St->Prop}(h:wMt S m x ds Q):W (mt S m x ds) Q:=by
 unfold wMt at h
 split at h
 · rename_i l y
   unfold wGet wOpt at h
   simp only[mt]
   cases e:S.get l with
   |none=>rw[e] at h;exact h.elim
   |some o=>rw[e] at h;cases o<;>first|exact ziu h|exact h.elim
 · rename_i l i
   unfold wGet wOpt zaQ at h
   simp only[mt]
   cases e:S.get l with
   |none=>rw[e] at h;exact h.elim
   | some o =>
     rw[e] at h
     cases o with
     | lst ds =>
       simp only at h⊢
       rw[if_pos h.1]
       have h2:=h.2
       cases e2:ds[i.toNat]? with
       |none=>rw[e2] at h2;exact h2.elim
       |some y=>rw[e2] at h2;exact ziu h2
     |_=>exact h.elim
 · rename_i l i
   unfold wGet wOpt at h
   simp only[mt]
   cases e:S.get l with
   |none=>rw[e] at h;exact h.elim
   | some o =>
     rw[e] at h
     cases o with
     | lst ds =>
       simp only at h⊢
       cases e2:zb1 ds with
       |none=>rw[e2] at h;exact h.elim
       |some y=>rw[e2] at h;exact h
     |_=>exact h.elim
 · exact h.elim
noncomputable def wSeq (S:St)(x:D)(k:List D->Prop):Prop:=match x with
 |.tup ds=>k ds
 |.fix ds=>k ds
 |.ref l=>wGet S l fun o=>(match o with|.lst ds=>k ds|_=>False)
 |_=>False
theorem zgR {S:St}{x:D}{k:List D->Prop}(h:wSeq S x k):∃ds,zcj S x=some ds/\k ds:=by
 unfold wSeq at h
 unfold zcj
 split at h
 · exact⟨_,rfl,h⟩
 · exact⟨_,rfl,h⟩
 · rename_i l
   unfold wGet wOpt at h
   cases e:S.get l with
   |none=>rw[e] at h;exact h.elim
   | some o =>
     rw[e] at h
     cases o with
     |lst ds=>exact⟨ds,by simp[e],h⟩
     |dic _=>exact False.elim h
     |ins _ _=>exact False.elim h
     |dtp _=>exact False.elim h
     |d3 _=>exact False.elim h
 · exact h.elim
noncomputable def wTru (S:St)(x:D)(Q:Bool->Prop):Prop:=match x with
 |.bl b=>Q b
 |.non=>Q false
 |.int i=>Q (i != 0)
 |.tup ds=>Q (!ds.isEmpty)
 |.ref l=>wGet S l fun o=>(match o with|.lst ds=>Q (!ds.isEmpty)|_=>False)
 |_=>False
theorem zlD {S:St}{x:D}{Q:Bool->St->Prop}(h:wTru S x fun k=>Q k S):W (lift S (tru S x)) Q:=by
 unfold wTru at h
 unfold tru
 split at h
 · exact h
 · exact h
 · exact h
 · exact h
 · rename_i l
   unfold wGet wOpt at h
   simp only
   cases e:S.get l with
   |none=>rw[e] at h;exact h.elim
   |some o=>rw[e] at h;cases o<;>first|exact h|exact h.elim
 · exact h.elim
@[irreducible] noncomputable def zge {α:Type}(ls:List Nat)(S:St)(f:St->Out α)(Q:α->St->Prop):Prop:=W (zbh ls S f) Q
theorem zgS {α:Type}{ls:List Nat}{S:St}{f:St->Out α}{Q:α->St->Prop}(h:zge ls S f Q):W (zbh ls S f) Q:=by unfold zge at h;exact h
theorem zbM {α:Type}{ls:List Nat}{S:St}{f:St->Out α}{Q:α->St->Prop}(h:W (f {S with lk:=ls++S.lk}) fun a T=>Q a {T with lk:=S.lk}):zge ls S f Q:=by
 unfold zge zbh
 rw[zaa];exact h
section
variable (cf:CF)
mutual
noncomputable def wE:CE->Ev->St->(D->St->Prop)->Prop
 |.loc i,δ,S,Q=>(match (δ[i]?).join with|some d=>Q d S|none=>False)
 |.con d,_,S,Q=>Q d S
 |.tst _,_,_,_=>False
 |.bin op a b,δ,S,Q=>wE a δ S fun x S1=>wE b δ S1 fun y S2=>wBin S2 op x y Q
 |.neg a,δ,S,Q=>wE a δ S fun x S1=>(match x with|.int i=>Q (.int (-i)) S1|_=>False)
 |.nt a,δ,S,Q=>wE a δ S fun x S1=>(match x with|.bl b=>Q (.bl (!b)) S1|_=>False)
 |.cmp op a b,δ,S,Q=>wE a δ S fun x S1=>wE b δ S1 fun y S2=>wCmp S2 op x y fun k=>Q (.bl k) S2
 |.and a b,δ,S,Q=>wE a δ S fun x S1=>(match x with|.bl k=>wIf k (wE b δ S1 Q) (Q (.bl false) S1)|_=>False)
 |.or a b,δ,S,Q=>wE a δ S fun x S1=>(match x with|.bl k=>wIf k (Q (.bl true) S1) (wE b δ S1 Q)|_=>False)
 |.ite c a b,δ,S,Q=>wT c δ S fun k S1=>wIf k (wE a δ S1 Q) (wE b δ S1 Q)
 |.tup es,δ,S,Q=>wEs es δ S fun ds S1=>zaQ (ds.length<=16777216) (Q (.tup ds) S1)
 |.lst es,δ,S,Q=>wEs es δ S fun ds S1=>wLay S1 ds Q
 |.dnew,_,S,Q=>Q (.ref S.len) (S.push (.dic []))
 |.dnewT,_,S,Q=>Q (.ref S.len) (S.push (.dtp []))
 |.dnew3,_,S,Q=>Q (.ref S.len) (S.push (.d3 []))
 |.d3keys a,δ,S,Q=>wE a δ S fun r S1=>wOpt (d3K S1 r) fun kvs=>wLay S1 (kvs.map fun kv=>zah kv.1) Q
 |.d3srt a,δ,S,Q=>wE a δ S fun r S1=>wOpt (d3K S1 r) fun kvs=>zaQ (kvs.length<64) (wLay S1 ((zal (kvs.map (·.1))).map zah) Q)
 |.srt3 a,δ,S,Q=>wE a δ S fun r S1=>wOpt (lst3 S1 r) fun ks=>zaQ (ks.length<64/\ks.Nodup) (wLay S1 ((zal ks).map zah) Q)
 |.fld a f,δ,S,Q=>wE a δ S fun x S1=>wOpt ((zbT S1 x).bind fun p=>p.2.lookup f) fun v=>Q v S1
 |.mk c f _ j es,δ,S,Q=>wEs es δ S fun ds S1=>wOut (appW cf f (.ref S1.len::(ds++List.replicate j .non)) (S1.push (.ins c []))) fun d S2=>zaQ (zjR d=true) (Q (.ref S1.len) S2)
 |.meth m tb o es,δ,S,Q=>wE o δ S fun x S1=>wOpt (zbT S1 x) fun p=>wOpt (tb.lookup p.1) fun f=>zaQ ((p.2.lookup m).isNone=true) (wEs es δ S1 fun ds S2=>wOut (appW cf f (x::ds) S2) Q)
 |.isc cs _ a,δ,S,Q=>wE a δ S fun x S1=>wOpt (zbT S1 x) fun p=>Q (.bl (cs.contains p.1)) S1
 |.callC f _ _ es,δ,S,Q=>wEs es δ S fun ds S1=>wOut (appW cf f ds S1) Q
 |.clr a,δ,S,Q=>wE a δ S fun x S1=>wIsL S1 x (match x with|.ref l=>wWr S1 l [] .non Q|_=>False)
 |.ix a b,δ,S,Q=>wE a δ S fun x S1=>wE b δ S1 fun y S2=>wSeq S2 x fun ds=>(match y with|.int i=>wOpt (atI ds i) fun d=>Q d S2|_=>False)
 |.sl a ml mh lo hi,δ,S,Q=>wE a δ S fun x S1=>wE lo δ S1 fun y S2=>wE hi δ S2 fun z S3=>(match zbD ml y,zbD mh z with
  | some l, some h => (match x with
    |.tup ds=>Q (.tup (cut ds l h)) S3
    |.fix ds=>wLay S3 (cut ds l h) Q
    |.ref p=>wGet S3 p fun o=>(match o with|.lst ds=>wLay S3 (cut ds l h) Q|_=>False)
    |_=>False)
  |_,_=>False)
 |.call f j es,δ,S,Q=>wEs es δ S fun ds S1=>wOut (app cf f (ds++List.replicate j .non) S1) Q
 |.callW f j es,δ,S,Q=>wEs es δ S fun ds S1=>wOut (appW cf f (ds++List.replicate j .non) S1) Q
 |.bi b es,δ,S,Q=>wEs es δ S fun ds S1=>wBi S1 b ds Q
 |.mt m o es,δ,S,Q=>wE o δ S fun x S1=>wIsL S1 x (wEs es δ S1 fun ds S2=>wMt S2 m x ds Q)
 |.mkL l,δ,S,Q=>wL l δ S fun r S1=>wLay S1 r.1 Q
 |.mkT l,δ,S,Q=>wL l δ S fun r S1=>zaQ (r.1.length<=16777216) (Q (.tup r.1) S1)
 |.all l,δ,S,Q=>wL l δ S fun r S1=>wOpt (allD r.1) fun b=>Q (.bl b) S1
 |.ext a l,δ,S,Q=>wE a δ S fun x S1=>wIsL S1 x (wL l δ S1 fun r S2=>(match x with
  |.ref p=>wGet S2 p fun o=>(match o with|.lst ds=>wWr S2 p (ds++r.1) .non Q|_=>False)
  |_=>False))
noncomputable def wEs:CEs->Ev->St->(List D->St->Prop)->Prop
 |.nil,_,S,Q=>Q [] S
 |.cons e r,δ,S,Q=>wE e δ S fun d S1=>wEs r δ S1 fun ds S2=>Q (d::ds) S2
noncomputable def wT:CE->Ev->St->(Bool->St->Prop)->Prop
 |.cmp op a b,δ,S,Q=>wE a δ S fun x S1=>wE b δ S1 fun y S2=>wCmp S2 op x y fun k=>Q k S2
 |.nt a,δ,S,Q=>wT a δ S fun k S1=>Q (!k) S1
 |.and a b,δ,S,Q=>wT a δ S fun k S1=>wIf k (wT b δ S1 Q) (Q false S1)
 |.or a b,δ,S,Q=>wT a δ S fun k S1=>wIf k (Q true S1) (wT b δ S1 Q)
 |.tst e,δ,S,Q=>wE e δ S fun x S1=>wTru S1 x fun k=>Q k S1
 |_,_,_,_=>False
noncomputable def wL:CL->Ev->St->(List D × List Nat->St->Prop)->Prop
 |.val e,δ,S,Q=>wE e δ S fun x S1=>wSeq S1 x fun ds=>Q (ds,lkOf S1 x) S1
 |.callL f j es,δ,S,Q=>wEs es δ S fun ds S1=>wOut (appL cf f (ds++List.replicate j .non) S1) fun r S2=>Q (r,[]) S2
 |.rng1 a,δ,S,Q=>wE a δ S fun x S1=>(match x with|.int j=>zaQ (-(2 ^ 62)<=j/\j<2 ^ 62) (Q ((List.range j.toNat).map fun (k:Nat)=>.int k,[]) S1)|_=>False)
 |.rng2 a b,δ,S,Q=>wE a δ S fun x S1=>wE b δ S1 fun y S2=>(match x,y with
  |.int i,.int j=>zaQ (-(2 ^ 62)<=i/\i<2 ^ 62/\-(2 ^ 62)<=j/\j<2 ^ 62) (Q ((List.range (j - i).toNat).map fun (k:Nat)=>.int (i+k),[]) S2)
  |_,_=>False)
 |.enum a,δ,S,Q=>wE a δ S fun x S1=>wOpt (zdD S1 x) fun r=>Q r S1
 |.comp n js g it c e,δ,S,Q=>wL it δ S fun r S1=>zge r.2 S1 (fun S2=>za6 g (evT cf c) (evE cf e) r.1 (csl n js δ) S2) fun ds S3=>zaQ (ds.length<=16777216) (Q (ds,[]) S3)
end
noncomputable def wS:CS->Ev->St->(Fl->St->Prop)->Prop
 |.nil,δ,S,Q=>Q (.nx δ) S
 |.stop,_,_,_=>False
 |.asg i e r,δ,S,Q=>wE cf e δ S fun x S1=>wS r (δ.set i (some x)) S1 Q
 |.setIx a b e r,δ,S,Q=>wE cf e δ S fun v S1=>wE cf a δ S1 fun x S2=>wE cf b δ S2 fun y S3=>wOpt (dPut S3 x y v) fun S4=>wS r δ S4 Q
 |.setF a f e r,δ,S,Q=>wE cf e δ S fun v S1=>wE cf a δ S1 fun x S2=>wOpt (zbU S2 x f v) fun S3=>wS r δ S3 Q
 |.ifS c t u r,δ,S,Q=>wT cf c δ S fun k S1=>wIf k (wS t δ S1 fun f S2=>(match f with|.nx δ'=>wS r δ' S2 Q|.rt d=>Q (.rt d) S2)) (wS u δ S1 fun f S2=>(match f with|.nx δ'=>wS r δ' S2 Q|.rt d=>Q (.rt d) S2))
 |.forS g l b r,δ,S,Q=>wL cf l δ S fun q S1=>zge q.2 S1 (fun S2=>zbo g (exS cf b) q.1 δ S2) fun f S3=>(match f with|.nx δ'=>wS r δ' S3 Q|.rt d=>Q (.rt d) S3)
 |.ret e _,δ,S,Q=>wE cf e δ S fun x S1=>Q (.rt x) S1
 |.expr e r,δ,S,Q=>wE cf e δ S fun _ S1=>wS r δ S1 Q
end
section
variable {cf:CF}
mutual
theorem wE_W:∀(e:CE) {δ:Ev} {S:St} {Q:D->St->Prop},wE cf e δ S Q->W (evE cf e δ S) Q
 | .loc i, δ, S, Q, h => by
   simp only[wE] at h
   simp only[evE]
   cases e:(δ[i]?).join with
   |none=>rw[e] at h;exact h.elim
   |some d=>rw[e] at h;exact h
 |.con d,δ,S,Q,h=>by simp only[wE] at h;simp only[evE];exact h
 |.tst _,δ,S,Q,h=>by simp only[wE] at h
 | .bin op a b, δ, S, Q, h => by
   simp only[wE] at h
   simp only[evE,zaa]
   exact (wE_W a h).mono fun x S1 h1=>(wE_W b h1).mono fun y S2 h2=>zlE h2
 | .neg a, δ, S, Q, h => by
   simp only[wE] at h
   simp only[evE,zaa]
   refine (wE_W a h).mono fun x S1 h1=>?_
   cases x<;>first|exact h1|exact h1.elim
 | .nt a, δ, S, Q, h => by
   simp only[wE] at h
   simp only[evE,zaa]
   refine (wE_W a h).mono fun x S1 h1=>?_
   cases x<;>first|exact h1|exact h1.elim
 | .cmp op a b, δ, S, Q, h => by
   simp only[wE] at h
   simp only[evE,zaa,W_ok]
   exact (wE_W a h).mono fun x S1 h1=>(wE_W b h1).mono fun y S2 h2=>zjH (Q:=fun k S=>Q (.bl k) S) h2
 | .and a b, δ, S, Q, h => by
   simp only[wE] at h
   simp only[evE,zaa]
   refine (wE_W a h).mono fun x S1 h1=>?_
   cases x with
   | bl k =>
     unfold wIf at h1
     cases k with
     |false=>exact h1
     |true=>exact wE_W b h1
   |_=>exact h1.elim
 | .or a b, δ, S, Q, h => by
   simp only[wE] at h
   simp only[evE,zaa]
   refine (wE_W a h).mono fun x S1 h1=>?_
   cases x with
   | bl k =>
     unfold wIf at h1
     cases k with
     |true=>exact h1
     |false=>exact wE_W b h1
   |_=>exact h1.elim
 | .ite c a b, δ, S, Q, h => by
   simp only[wE] at h
   simp only[evE,zaa]
   refine (wT_W c h).mono fun k S1 h1=>?_
   unfold wIf at h1
   cases k with
   |true=>exact wE_W a h1
   |false=>exact wE_W b h1
 | .tup es, δ, S, Q, h => by
   simp only[wE] at h
   simp only[evE,zaa]
   refine (zcy es h).mono fun ds S1 h1=>?_
   unfold zaQ at h1
   rw[if_pos h1.1];exact h1.2
 | .lst es, δ, S, Q, h => by
   simp only[wE] at h
   simp only[evE,zaa]
   exact (zcy es h).mono fun ds S1 h1=>zcp h1
 |.dnew,δ,S,Q,h=>by simp only[wE] at h;simp only[evE];exact h
 |.dnewT,δ,S,Q,h=>by simp only[wE] at h;simp only[evE];exact h
 | .fld a f, δ, S, Q, h => by
   simp only[wE] at h
   simp only[evE,zaa]
   refine (wE_W a h).mono fun x S1 h1=>?_
   unfold wOpt at h1
   cases e:(zbT S1 x).bind fun p=>p.2.lookup f with
   |none=>rw[e] at h1;exact h1.elim
   |some o=>rw[e] at h1;exact h1
 | .mk c f _ j es, δ, S, Q, h => by
   simp only[wE] at h
   simp only[evE,zaa]
   refine (zcy es h).mono fun ds S1 h1=>?_
   unfold wOut at h1
   refine h1.mono fun d S2 h2=>?_
   unfold zaQ at h2
   rw[if_pos h2.1];exact h2.2
 | .meth m tb o es, δ, S, Q, h => by
   simp only[wE] at h
   simp only[evE,zaa]
   refine (wE_W o h).mono fun x S1 h1=>?_
   unfold wOpt at h1
   cases e:zbT S1 x with
   |none=>rw[e] at h1;exact h1.elim
   | some p =>
     rw[e] at h1
     dsimp only at h1
     cases e2:tb.lookup p.1 with
     |none=>rw[e2] at h1;exact h1.elim
     | some f =>
       rw[e2] at h1
       unfold zaQ at h1
       simp only[zbF,W_ok]
       rw[e2,zbF,W_ok,if_pos h1.1,zaa]
       refine (zcy es h1.2).mono fun ds S2 h2=>?_
       unfold wOut at h2;exact h2
 | .isc cs _ a, δ, S, Q, h => by
   simp only[wE] at h
   simp only[evE,zaa]
   refine (wE_W a h).mono fun x S1 h1=>?_
   unfold wOpt at h1
   cases e:zbT S1 x with
   |none=>rw[e] at h1;exact h1.elim
   |some p=>rw[e] at h1;exact h1
 | .callC f _ _ es, δ, S, Q, h => by
   simp only[wE] at h
   simp only[evE,zaa]
   refine (zcy es h).mono fun ds S1 h1=>?_
   unfold wOut at h1;exact h1
 | .clr a, δ, S, Q, h => by
   simp only[wE] at h
   simp only[evE,zaa]
   refine (wE_W a h).mono fun x S1 h1=>?_
   obtain⟨h2,h3⟩:=ze9 h1
   rw[if_pos h2]
   cases x with
   |ref l=>exact ziu h3
   |_=>exact h3.elim
 | .ix a b, δ, S, Q, h => by
   simp only[wE] at h
   simp only[evE,zaa]
   refine (wE_W a h).mono fun x S1 h1=>(wE_W b h1).mono fun y S2 h2=>?_
   obtain⟨ds,e,h3⟩:=zgR h2
   rw[e]
   cases y with
   | int i =>
     unfold wOpt at h3
     simp only at h3⊢
     cases e2:atI ds i with
     |none=>rw[e2] at h3;exact h3.elim
     |some d=>rw[e2] at h3;exact h3
   |_=>exact h3.elim
 | .sl a ml mh lo hi, δ, S, Q, h => by
   simp only[wE] at h
   simp only[evE,zaa]
   refine (wE_W a h).mono fun x S1 h1=>(wE_W lo h1).mono fun y S2 h2=>(wE_W hi h2).mono fun z S3 h3=>?_
   cases ey:zbD ml y with
   |none=>rw[ey] at h3;exact h3.elim
   | some l =>
     cases ez:zbD mh z with
     |none=>rw[ey,ez] at h3;exact h3.elim
     | some u =>
       rw[ey,ez] at h3
       cases x with
       |tup ds=>exact h3
       |fix ds=>exact zcp h3
       | ref p =>
         unfold wGet wOpt at h3
         simp only at h3⊢
         cases e:S3.get p with
         |none=>rw[e] at h3;exact h3.elim
         |some o=>rw[e] at h3;cases o<;>first|exact zcp h3|exact h3.elim
       |_=>exact h3.elim
 | .call f j es, δ, S, Q, h => by
   simp only[wE] at h
   simp only[evE,zaa]
   refine (zcy es h).mono fun ds S1 h1=>?_
   unfold wOut at h1;exact h1
 | .callW f j es, δ, S, Q, h => by
   simp only[wE] at h
   simp only[evE,zaa]
   refine (zcy es h).mono fun ds S1 h1=>?_
   unfold wOut at h1;exact h1
 | .bi b es, δ, S, Q, h => by
   simp only[wE] at h
   simp only[evE,zaa]
   exact (zcy es h).mono fun ds S1 h1=>znP h1
 | .mt m o es, δ, S, Q, h => by
   simp only[wE] at h
   simp only[evE,zaa]
   refine (wE_W o h).mono fun x S1 h1=>?_
   obtain⟨c,h2⟩:=ze9 h1
   rw[if_pos c,zaa]
   exact (zcy es h2).mono fun ds S2 h3=>znN h3
 | .mkL l, δ, S, Q, h => by
   simp only[wE] at h
   simp only[evE,zaa]
   exact (wL_W l h).mono fun ds S1 h1=>zcp h1
 | .mkT l, δ, S, Q, h => by
   simp only[wE] at h
   simp only[evE,zaa]
   refine (wL_W l h).mono fun r S1 h1=>?_
   unfold zaQ at h1
   rw[if_pos h1.1];exact h1.2
 | .all l, δ, S, Q, h => by
   simp only[wE] at h
   simp only[evE,zaa]
   refine (wL_W l h).mono fun r S1 h1=>?_
   unfold wOpt at h1
   cases e:allD r.1 with
   |none=>rw[e] at h1;exact h1.elim
   |some d=>rw[e] at h1;exact h1
 | .ext a l, δ, S, Q, h => by
   simp only[wE] at h
   simp only[evE,zaa]
   refine (wE_W a h).mono fun x S1 h1=>?_
   obtain⟨c,h1⟩:=ze9 h1
   rw[if_pos c,zaa]
   refine (wL_W l h1).mono fun r S2 h2=>?_
   cases x with
   | ref p =>
     unfold wGet wOpt at h2
     simp only at h2⊢
     cases e:S2.get p with
     |none=>rw[e] at h2;exact h2.elim
     |some o=>rw[e] at h2;cases o<;>first|exact ziu h2|exact h2.elim
   |_=>exact h2.elim
 |.dnew3,δ,S,Q,h=>by simp only[wE] at h;simp only[evE];exact h
 | .d3srt a, δ, S, Q, h => by
   simp only[wE] at h
   simp only[evE,zaa]
   refine (wE_W a h).mono fun r S1 h1=>?_
   unfold wOpt at h1
   cases e:d3K S1 r with
   |none=>rw[e] at h1;exact h1.elim
   | some d =>
     rw[e] at h1
     unfold zaQ at h1
     simp only[lift,W_ok]
     rw[if_pos h1.1];exact zcp h1.2
 | .srt3 a, δ, S, Q, h => by
   simp only[wE] at h
   simp only[evE,zaa]
   refine (wE_W a h).mono fun r S1 h1=>?_
   unfold wOpt at h1
   cases e:lst3 S1 r with
   |none=>rw[e] at h1;exact h1.elim
   | some d =>
     rw[e] at h1
     unfold zaQ at h1
     simp only[lift,W_ok]
     rw[if_pos h1.1];exact zcp h1.2
 | .d3keys a, δ, S, Q, h => by
   simp only[wE] at h
   simp only[evE,zaa]
   refine (wE_W a h).mono fun x S1 h1=>?_
   unfold wOpt at h1
   cases e:d3K S1 x with
   |none=>rw[e] at h1;exact h1.elim
   |some kvs=>rw[e] at h1;exact zcp h1
theorem zcy:∀(es:CEs) {δ:Ev} {S:St} {Q:List D->St->Prop},wEs cf es δ S Q->W (evEs cf es δ S) Q
 |.nil,δ,S,Q,h=>by simp only[wEs] at h;simp only[evEs];exact h
 | .cons e r, δ, S, Q, h => by
   simp only[wEs] at h
   simp only[evEs,zaa]
   exact (wE_W e h).mono fun d S1 h1=>(zcy r h1).mono fun ds S2 h2=>h2
theorem wT_W:∀(e:CE) {δ:Ev} {S:St} {Q:Bool->St->Prop},wT cf e δ S Q->W (evT cf e δ S) Q
 | .cmp op a b, δ, S, Q, h => by
   simp only[wT] at h
   simp only[evT,zaa]
   exact (wE_W a h).mono fun x S1 h1=>(wE_W b h1).mono fun y S2 h2=>zjH h2
 | .nt a, δ, S, Q, h => by
   simp only[wT] at h
   simp only[evT,zaa]
   exact (wT_W a h).mono fun k S1 h1=>h1
 | .and a b, δ, S, Q, h => by
   simp only[wT] at h
   simp only[evT,zaa]
   refine (wT_W a h).mono fun k S1 h1=>?_
   unfold wIf at h1
   cases k with
   |false=>exact h1
   |true=>exact wT_W b h1
 | .or a b, δ, S, Q, h => by
   simp only[wT] at h
   simp only[evT,zaa]
   refine (wT_W a h).mono fun k S1 h1=>?_
   unfold wIf at h1
   cases k with
   |true=>exact h1
   |false=>exact wT_W b h1
 | .tst e, δ, S, Q, h => by
   simp only[wT] at h
   simp only[evT,zaa]
   exact (wE_W e h).mono fun x S1 h1=>zlD h1
 |.loc i,δ,S,Q,h=>by simp only[wT] at h
 |.con d,δ,S,Q,h=>by simp only[wT] at h
 |.bin op a b,δ,S,Q,h=>by simp only[wT] at h
 |.neg a,δ,S,Q,h=>by simp only[wT] at h
 |.ite c a b,δ,S,Q,h=>by simp only[wT] at h
 |.tup es,δ,S,Q,h=>by simp only[wT] at h
 |.lst es,δ,S,Q,h=>by simp only[wT] at h
 |.dnew,δ,S,Q,h=>by simp only[wT] at h
 |.dnewT,δ,S,Q,h=>by simp only[wT] at h
 |.fld a f,δ,S,Q,h=>by simp only[wT] at h
 |.mk c f x j es,δ,S,Q,h=>by simp only[wT] at h
 |.meth m tb o es,δ,S,Q,h=>by simp only[wT] at h
 |.isc cs x a,δ,S,Q,h=>by simp only[wT] at h
 |.callC f x m es,δ,S,Q,h=>by simp only[wT] at h
 |.clr a,δ,S,Q,h=>by simp only[wT] at h
 |.ix a b,δ,S,Q,h=>by simp only[wT] at h
 |.sl a ml mh lo hi,δ,S,Q,h=>by simp only[wT] at h
 |.call f j es,δ,S,Q,h=>by simp only[wT] at h
 |.callW f j es,δ,S,Q,h=>by simp only[wT] at h
 |.bi b es,δ,S,Q,h=>by simp only[wT] at h
 |.mt m o es,δ,S,Q,h=>by simp only[wT] at h
 |.mkL l,δ,S,Q,h=>by simp only[wT] at h
 |.mkT l,δ,S,Q,h=>by simp only[wT] at h
 |.all l,δ,S,Q,h=>by simp only[wT] at h
 |.ext a l,δ,S,Q,h=>by simp only[wT] at h
 |.dnew3,δ,S,Q,h=>by simp only[wT] at h
 |.d3keys a,δ,S,Q,h=>by simp only[wT] at h
 |.d3srt a,δ,S,Q,h=>by simp only[wT] at h
 |.srt3 a,δ,S,Q,h=>by simp only[wT] at h
theorem wL_W:∀(l:CL) {δ:Ev} {S:St} {Q:List D × List Nat->St->Prop},wL cf l δ S Q->W (evL cf l δ S) Q
 | .val e, δ, S, Q, h => by
   simp only[wL] at h
   simp only[evL,zaa]
   refine (wE_W e h).mono fun x S1 h1=>?_
   obtain⟨ds,e,h2⟩:=zgR h1
   rw[e];exact h2
 | .callL f j es, δ, S, Q, h => by
   simp only[wL] at h
   simp only[evL,zaa]
   refine (zcy es h).mono fun ds S1 h1=>?_
   unfold wOut at h1;exact h1
 | .rng1 a, δ, S, Q, h => by
   simp only[wL] at h
   simp only[evL,zaa]
   refine (wE_W a h).mono fun x S1 h1=>?_
   cases x with
   | int j =>
     unfold zaQ at h1
     simp only
     rw[if_pos h1.1];exact h1.2
   |_=>exact h1.elim
 | .rng2 a b, δ, S, Q, h => by
   simp only[wL] at h
   simp only[evL,zaa]
   refine (wE_W a h).mono fun x S1 h1=>(wE_W b h1).mono fun y S2 h2=>?_
   cases x with
   | int i =>
     cases y with
     | int j =>
       unfold zaQ at h2
       simp only
       rw[if_pos h2.1];exact h2.2
     |_=>exact h2.elim
   |_=>exact h2.elim
 | .enum a, δ, S, Q, h => by
   simp only[wL] at h
   simp only[evL,zaa]
   refine (wE_W a h).mono fun x S1 h1=>?_
   unfold wOpt at h1
   cases e:zdD S1 x with
   |none=>rw[e] at h1;exact h1.elim
   |some r=>rw[e] at h1;exact h1
 | .comp n js g it c e, δ, S, Q, h => by
   simp only[wL] at h
   simp only[evL,zaa]
   refine (wL_W it h).mono fun r S1 h1=>(zgS h1).mono fun ds S3 h3=>?_
   unfold zaQ at h3
   rw[if_pos h3.1];exact h3.2
end
theorem wS_W:∀(s:CS) {δ:Ev} {S:St} {Q:Fl->St->Prop},wS cf s δ S Q->W (exS cf s δ S) Q
 |.nil,δ,S,Q,h=>by simp only[wS] at h;simp only[exS];exact h
 |.stop,δ,S,Q,h=>by simp only[wS] at h
 | .asg i e r, δ, S, Q, h => by
   simp only[wS] at h
   simp only[exS,zaa]
   exact (wE_W e h).mono fun x S1 h1=>wS_W r h1
 | .setIx a b e r, δ, S, Q, h => by
   simp only[wS] at h
   simp only[exS,zaa]
   refine (wE_W e h).mono fun v S1 h1=>(wE_W a h1).mono fun x S2 h2=>(wE_W b h2).mono fun y S3 h3=>?_
   unfold wOpt at h3
   cases e:dPut S3 x y v with
   |none=>rw[e] at h3;exact h3.elim
   |some S4=>rw[e] at h3;exact wS_W r h3
 | .setF a f e r, δ, S, Q, h => by
   simp only[wS] at h
   simp only[exS,zaa]
   refine (wE_W e h).mono fun v S1 h1=>(wE_W a h1).mono fun x S2 h2=>?_
   unfold wOpt at h2
   cases e:zbU S2 x f v with
   |none=>rw[e] at h2;exact h2.elim
   |some S3=>rw[e] at h2;exact wS_W r h2
 | .ifS c t u r, δ, S, Q, h => by
   simp only[wS] at h
   simp only[exS,zaa]
   refine (wT_W c h).mono fun k S1 h1=>?_
   unfold wIf at h1
   have nx:∀(f:Fl) (S2:St),(match f with|.nx δ'=>wS cf r δ' S2 Q|.rt d=>Q (.rt d) S2)->W (match f with|.nx δ'=>exS cf r δ' S2|.rt d=>.ok (.rt d) S2) Q:=fun f S2 q=>by
    cases f with
    |nx δ'=>exact wS_W r q
    |rt d=>exact q
   cases k with
   |true=>exact (wS_W t h1).mono nx
   |false=>exact (wS_W u h1).mono nx
 | .forS g l b r, δ, S, Q, h => by
   simp only[wS] at h
   simp only[exS,zaa]
   refine (wL_W l h).mono fun q S1 h1=>(zgS h1).mono fun f S2 q=>?_
   cases f with
   |nx δ'=>exact wS_W r q
   |rt d=>exact q
 | .ret e r, δ, S, Q, h => by
   simp only[wS] at h
   simp only[exS,zaa]
   exact (wE_W e h).mono fun x S1 h1=>h1
 | .expr e r, δ, S, Q, h => by
   simp only[wS] at h
   simp only[exS,zaa]
   exact (wE_W e h).mono fun x S1 h1=>wS_W r h1
@[irreducible] noncomputable def wFin (S:St)(r:Fl)(T:St)(Q:D->St->Prop):Prop:=W (fin S r T) Q
theorem zlw {P:List Fn}{F:Fn}{f n:Nat}{ds:List D}{S:St}{Q:D->St->Prop}(h:P[f]?=some F)(hl:ds.length=F.np)(w:wS (callF P n) F.body (zaW F ds) S.enter fun r T=>wFin S r T Q)(hp:F.prim=none:=by rfl) :
  W (app (callF P (n+1)) f ds S) Q:=by
 rw[zjX h hl hp,zaa]
 refine (wS_W _ w).mono fun r T q=>?_
 unfold wFin at q;exact q
theorem zgc {P:List Fn}{F:Fn}{f n:Nat}{ds:List D}{S S':St}{d:D}(h:P[f]?=some F)(hl:ds.length=F.np)(w:wS (callF P n) F.body (zaW F ds) S.enter fun r T=>wFin S r T fun a T'=>a=d/\T'=S')(hp:F.prim=none:=by rfl) :
 app (callF P (n+1)) f ds S=.ok d S':=W.eq (zlw h hl w hp)
theorem za0 {S T:St}{d:D}{Q:D->St->Prop}(h:flat S.len d=true)(q:Q d S):wFin S (.rt d) T Q:=by
 unfold wFin;rw[znk,zgz S d T h];exact q
end
end R
end
section
namespace R
open PySem (Str PyData Operator CmpOp)
structure Frm (S S':St):Prop where
 frz:S'.frz=S.frz
 lk:S'.lk=S.lk
 len:S.new.length<=S'.new.length
 same:∀l∈S.lk,l<S.len->S'.get l=S.get l
theorem Frm.refl (S:St):Frm S S:=⟨rfl,rfl,Nat.le_refl _,fun _ _ _=>rfl⟩
theorem Frm.lens {S S':St}(h:Frm S S'):S.len<=S'.len:=by unfold St.len;rw[h.frz];have:=h.len;omega
theorem Frm.trans {S S1 S2:St}(a:Frm S S1)(b:Frm S1 S2):Frm S S2:=
 ⟨b.frz.trans a.frz,b.lk.trans a.lk,Nat.le_trans a.len b.len,fun l hl h=>(b.same l (by rw[a.lk];exact hl) (Nat.lt_of_lt_of_le h a.lens)).trans (a.same l hl h)⟩
theorem Frm.push (S:St)(o:MO):Frm S (S.push o):=by
 refine⟨rfl,rfl,by simp[St.push],fun l _ h=>?_⟩
 unfold St.len at h
 unfold St.get St.push
 simp only
 split
 · rfl
 · rw[List.getElem?_append_left (by omega)]
theorem Frm.put {S S':St}{l:Nat}{o:MO}(h:S.put l o=some S'):Frm S S':=by
 unfold St.put at h
 split at h
 · cases h
 · split at h
   · cases h
   · rename_i h1 h2
     injection h with h
     subst h
     refine⟨rfl,rfl,by simp,fun m hm hl=>?_⟩
     have hne:m≠l:=fun e=>by subst e;exact h2 (by simpa using hm)
     unfold St.get
     simp only
     split
     · rfl
     · rw[List.getElem?_set_ne (by omega)]
noncomputable abbrev WF {α:Type}(S:St)(o:Out α)(Q:α->St->Prop):Prop:=W o fun a S'=>Q a S'/\Frm S S'
theorem WF.bind {α β:Type}{S:St}{o:Out α}{f:α->St->Out β}{Q:β->St->Prop}(h:WF S o fun a S1=>W (f a S1) Q)(hf:∀a S1,W (f a S1) Q->WF S1 (f a S1) Q):WF S (o.bind f) Q:=by
 rw[WF,zaa]
 exact h.mono fun a S1 ⟨q,f1⟩=>(hf a S1 q).mono fun b S2 ⟨q2,f2⟩=>⟨q2,f1.trans f2⟩
theorem zeH {S:St}{ds:List D}{Q:D->St->Prop}(h:W (lay S ds) Q):WF S (lay S ds) Q:=by
 unfold lay at h⊢
 split
 · rename_i c;rw[if_pos c] at h;exact⟨h,Frm.push _ _⟩
 · rename_i c;rw[if_neg c] at h;exact h.elim
theorem wr_F {S:St}{l:Nat}{ds:List D}{d:D}{Q:D->St->Prop}(h:W (wr S l ds d) Q):WF S (wr S l ds d) Q:=by
 unfold wr at h⊢
 split
 · rename_i c
   rw[if_pos c] at h
   cases e:S.put l (.lst ds) with
   |none=>rw[e] at h;exact h.elim
   |some S'=>rw[e] at h;exact⟨h,Frm.put e⟩
 · rename_i c;rw[if_neg c] at h;exact h.elim
theorem zbi {α:Type}{S:St}{o:Option α}{Q:α->St->Prop}(h:W (lift S o) Q):WF S (lift S o) Q:=by
 cases o with
 |none=>exact h.elim
 |some a=>exact⟨h,Frm.refl S⟩
theorem znw {S:St}{op:Operator}{x y:D}{Q:D->St->Prop}(h:W (binD S op x y) Q):WF S (binD S op x y) Q:=by
 unfold binD at h⊢
 split
 · unfold binI at h⊢
   dsimp only at h
   cases op<;>dsimp only at h⊢<;> first
    |exact⟨h,Frm.refl S⟩
    |exact h.elim
    | (split at h
       · rename_i c;rw[if_pos c];exact⟨h,Frm.refl S⟩
       · exact h.elim)
 · dsimp only at h
   cases op<;>dsimp only at h⊢<;> first
    |exact False.elim h
    | (split at h
       · rename_i c;rw[if_pos c];exact⟨h,Frm.refl S⟩
       · exact False.elim h)
 · dsimp only at h
   split at h
   · exact zeH h
   · exact False.elim h
 · rename_i h1 h2 h3
   split at h
   · exact (h1 _ _ rfl rfl).elim
   · exact (h2 _ _ rfl rfl).elim
   · exact (h3 _ _ rfl rfl).elim
   · exact False.elim h
theorem bi_F {S:St}{b:Bi}{ds:List D}{Q:D->St->Prop}(h:W (bi S b ds) Q):WF S (bi S b ds) Q:=by
 unfold bi at h⊢
 split
 · rename_i x
   dsimp only at h
   cases x with
   |tup ds=>exact⟨h,Frm.refl S⟩
   |fix ds=>exact⟨h,Frm.refl S⟩
   | ref l =>
     dsimp only at h⊢
     cases e:S.get l with
     |none=>rw[e] at h;exact False.elim h
     |some o=>rw[e] at h;cases o<;>first|exact⟨h,Frm.refl S⟩|exact False.elim h
   |_=>exact False.elim h
 · exact⟨h,Frm.refl S⟩
 · exact⟨h,Frm.refl S⟩
 · exact⟨h,Frm.refl S⟩
 · dsimp only at h
   split at h
   · exact⟨h,Frm.refl S⟩
   · exact False.elim h
 · exact False.elim (by simpa using h)
theorem mt_F {S:St}{m:Mt}{x:D}{ds:List D}{Q:D->St->Prop}(h:W (mt S m x ds) Q):WF S (mt S m x ds) Q:=by
 unfold mt at h⊢
 split
 · dsimp only at h
   split at h
   · exact wr_F h
   · exact False.elim h
 · dsimp only at h
   split at h
   · split at h
     · rename_i c
       rw[if_pos c]
       split at h
       · exact wr_F h
       · exact False.elim h
     · exact False.elim h
   · exact False.elim h
 · dsimp only at h
   split at h
   · split at h
     · exact⟨h,Frm.refl _⟩
     · exact False.elim h
   · exact False.elim h
 · exact False.elim (by simpa using h)
theorem Frm.keep (S T:St):Frm S ⟨S.frz,S.new++T.new,S.lk⟩:=by
 refine⟨rfl,rfl,by simp,fun l _ h=>?_⟩
 unfold St.len at h
 unfold St.get
 simp only
 split
 · rfl
 · rw[List.getElem?_append_left (by omega)]
theorem ziz {S S':St}{x:D}{f:Str}{v:D}(h:zbU S x f v=some S'):Frm S S':=by
 unfold zbU at h
 split at h
 · split at h
   · split at h
     · exact Frm.put h
     · cases h
   · cases h
 · cases h
theorem znr {S S':St}{x y v:D}(h:dPut S x y v=some S'):Frm S S':=by
 unfold dPut at h
 split at h
 · split at h
   · cases e:zd0 y with
     |none=>rw[e] at h;cases h
     | some k =>
       rw[e] at h
       dsimp only[Option.bind_some] at h
       split at h
       · exact Frm.put h
       · cases h
   · cases e:zd2 y with
     |none=>rw[e] at h;cases h
     | some k =>
       rw[e] at h
       dsimp only[Option.bind_some] at h
       split at h
       · exact Frm.put h
       · cases h
   · cases e:key3 y with
     |none=>rw[e] at h;cases h
     | some k =>
       rw[e] at h
       dsimp only[Option.bind_some] at h
       split at h
       · exact Frm.put h
       · cases h
   · cases h
 · cases h
theorem zk4 {S T:St}{d:D}{Q:D->St->Prop}(h:W (zcU S d T) Q):WF S (zcU S d T) Q:=by
 unfold zcU at h⊢
 split
 · rename_i c;rw[if_pos c] at h;exact⟨h,Frm.refl S⟩
 · rename_i c
   rw[if_neg c] at h
   dsimp only at h⊢
   split at h
   · split at h
     · split at h
       · rename_i c;rw[if_pos c];exact⟨h,Frm.push _ _⟩
       · rename_i c;rw[if_neg c];exact⟨h,Frm.keep _ _⟩
     · split at h
       · rename_i c;rw[if_pos c];exact⟨h,Frm.push _ _⟩
       · rename_i c;rw[if_neg c];exact⟨h,Frm.keep _ _⟩
     · split at h
       · rename_i c;rw[if_pos c];exact⟨h,Frm.push _ _⟩
       · rename_i c;rw[if_neg c];exact⟨h,Frm.keep _ _⟩
     · exact⟨h,Frm.keep _ _⟩
   · exact⟨h,Frm.keep _ _⟩
theorem zoC {cf:CF}{f:Nat}{ds:List D}{S:St}{Q:D->St->Prop}(h:W (app cf f ds S) Q):WF S (app cf f ds S) Q:=by
 unfold app at h⊢
 cases e:cf f ds S.enter with
 |ok d T=>rw[e] at h;exact zk4 h
 |err d T=>rw[e] at h;exact h.elim
 |bad=>rw[e] at h;exact h.elim
theorem znE {cf:CF}{f:Nat}{ds:List D}{S:St}{Q:List D->St->Prop}(h:W (appL cf f ds S) Q):WF S (appL cf f ds S) Q:=by
 unfold appL at h⊢
 cases e:cf f ds S.enter with
 | ok d T =>
   rw[e] at h
   simp only[zaM] at h⊢
   unfold zcT at h⊢
   cases d with
   | ref l =>
     dsimp only at h⊢
     split at h
     · exact False.elim h
     · rename_i c
       rw[if_neg c]
       cases e:T.get l with
       |none=>rw[e] at h;exact False.elim h
       | some o =>
         rw[e] at h
         cases o with
         | lst ds =>
           dsimp only at h⊢
           split at h
           · rename_i c;rw[if_pos c];exact⟨h,Frm.refl S⟩
           · exact False.elim h
         |_=>exact False.elim h
   |_=>exact False.elim h
 |err d T=>rw[e] at h;exact h.elim
 |bad=>rw[e] at h;exact h.elim
theorem Frm.unlock {S T:St}{ls:List Nat}(h:Frm {S with lk:=ls++S.lk} T):Frm S {T with lk:=S.lk}:=
 ⟨h.frz,rfl,h.len,fun l hl hn=>h.same l (List.mem_append_right _ hl) hn⟩
theorem zf0 {α:Type}{ls:List Nat}{S:St}{f:St->Out α}{Q:α->St->Prop}(h:W (zbh ls S f) Q)(hf:∀Q',W (f {S with lk:=ls++S.lk}) Q'->WF {S with lk:=ls++S.lk} (f {S with lk:=ls++S.lk}) Q'):WF S (zbh ls S f) Q:=by
 unfold zbh at h⊢
 rw[zaa] at h
 rw[WF,zaa]
 exact (hf _ h).mono fun a T ⟨q,fr⟩=>⟨q,fr.unlock⟩
theorem zdI {g:List Nat}{c:Ev->St->Out Bool}{e:Ev->St->Out D}(hc:∀δ S Q,W (c δ S) Q->WF S (c δ S) Q)(he:∀δ S Q,W (e δ S) Q->WF S (e δ S) Q) :
  ∀(xs:List D) (δ:Ev) (S:St) (Q:List D->St->Prop),W (za6 g c e xs δ S) Q->WF S (za6 g c e xs δ S) Q
 | [],δ,S,Q,h=>⟨h,Frm.refl S⟩
 | x :: xs, δ, S, Q, h => by
   simp only[za6] at h⊢
   cases ea:asgG g x δ with
   |none=>rw[ea] at h;exact h.elim
   | some δ' =>
     rw[ea] at h
     dsimp only at h⊢
     rw[zaa] at h
     refine WF.bind (hc _ _ _ h) fun b S1 h1=>?_
     cases b with
     | false =>
       simp only[Bool.false_eq_true,if_false] at h1⊢
       exact zdI hc he xs δ' S1 Q h1
     | true =>
       simp only[if_true] at h1⊢
       rw[zaa] at h1
       refine WF.bind (he _ _ _ h1) fun d S2 h2=>?_
       rw[zaa] at h2
       exact WF.bind (zdI hc he xs δ' S2 _ h2) fun ds S3 h3=>⟨h3,Frm.refl _⟩
theorem zfF {g:List Nat}{b:Ev->St->Out Fl}(hb:∀δ S Q,W (b δ S) Q->WF S (b δ S) Q) :
  ∀(xs:List D) (δ:Ev) (S:St) (Q:Fl->St->Prop),W (zbo g b xs δ S) Q->WF S (zbo g b xs δ S) Q
 | [],δ,S,Q,h=>⟨h,Frm.refl S⟩
 | x :: xs, δ, S, Q, h => by
   simp only[zbo] at h⊢
   cases ea:asgG g x δ with
   |none=>rw[ea] at h;exact h.elim
   | some δ' =>
     rw[ea] at h
     dsimp only at h⊢
     rw[zaa] at h
     refine WF.bind (hb _ _ _ h) fun f S1 h1=>?_
     cases f with
     |nx δ2=>exact zfF hb xs δ2 S1 Q h1
     |rt d=>exact⟨h1,Frm.refl _⟩
noncomputable def CFok (cf:CF):Prop:=∀f ds S d T,cf f ds S=.ok d T->Frm S T
theorem appW_F {cf:CF}(hcf:CFok cf){f:Nat}{ds:List D}{S:St}{Q:D->St->Prop}(h:W (appW cf f ds S) Q):WF S (appW cf f ds S) Q:=by
 unfold appW at h⊢
 cases e:cf f ds S with
 |ok d T=>rw[e] at h;exact⟨h,hcf f ds S d T e⟩
 |err d T=>rw[e] at h;exact h.elim
 |bad=>rw[e] at h;exact h.elim
section
variable {cf:CF} (hcf:CFok cf)
include hcf
mutual
theorem zav:∀(e:CE) (δ:Ev) (S:St) (Q:D->St->Prop),W (evE cf e δ S) Q->WF S (evE cf e δ S) Q
 |.loc i,δ,S,Q,h=>by simp only[evE] at h⊢;exact zbi h
 |.con d,δ,S,Q,h=>by simp only[evE] at h⊢;exact⟨h,Frm.refl S⟩
 |.tst _,δ,S,Q,h=>by simp only[evE] at h;exact h.elim
 | .bin op a b, δ, S, Q, h => by
   simp only[evE] at h⊢
   rw[zaa] at h
   refine WF.bind (zav a δ S _ h) fun x S1 h1=>?_
   rw[zaa] at h1
   exact WF.bind (zav b δ S1 _ h1) fun y S2 h2=>znw h2
 | .neg a, δ, S, Q, h => by
   simp only[evE] at h⊢
   rw[zaa] at h
   refine WF.bind (zav a δ S _ h) fun x S1 h1=>?_
   cases x<;>first|exact⟨h1,Frm.refl _⟩|exact h1.elim
 | .nt a, δ, S, Q, h => by
   simp only[evE] at h⊢
   rw[zaa] at h
   refine WF.bind (zav a δ S _ h) fun x S1 h1=>?_
   cases x<;>first|exact⟨h1,Frm.refl _⟩|exact h1.elim
 | .cmp op a b, δ, S, Q, h => by
   simp only[evE] at h⊢
   rw[zaa] at h
   refine WF.bind (zav a δ S _ h) fun x S1 h1=>?_
   rw[zaa] at h1
   refine WF.bind (zav b δ S1 _ h1) fun y S2 h2=>?_
   rw[zaa] at h2
   exact WF.bind (zbi h2) fun k S3 h3=>⟨h3,Frm.refl _⟩
 | .and a b, δ, S, Q, h => by
   simp only[evE] at h⊢
   rw[zaa] at h
   refine WF.bind (zav a δ S _ h) fun x S1 h1=>?_
   cases x with
   | bl k =>
     cases k with
     |false=>exact⟨h1,Frm.refl _⟩
     |true=>exact zav b δ S1 Q h1
   |_=>exact h1.elim
 | .or a b, δ, S, Q, h => by
   simp only[evE] at h⊢
   rw[zaa] at h
   refine WF.bind (zav a δ S _ h) fun x S1 h1=>?_
   cases x with
   | bl k =>
     cases k with
     |true=>exact⟨h1,Frm.refl _⟩
     |false=>exact zav b δ S1 Q h1
   |_=>exact h1.elim
 | .ite c a b, δ, S, Q, h => by
   simp only[evE] at h⊢
   rw[zaa] at h
   refine WF.bind (zd5 c δ S _ h) fun k S1 h1=>?_
   cases k with
   |true=>exact zav a δ S1 Q h1
   |false=>exact zav b δ S1 Q h1
 | .tup es, δ, S, Q, h => by
   simp only[evE] at h⊢
   rw[zaa] at h
   refine WF.bind (zbJ es δ S _ h) fun ds S1 h1=>?_
   split at h1
   · rename_i c;rw[if_pos c];exact⟨h1,Frm.refl _⟩
   · exact h1.elim
 | .lst es, δ, S, Q, h => by
   simp only[evE] at h⊢
   rw[zaa] at h
   exact WF.bind (zbJ es δ S _ h) fun ds S1 h1=>zeH h1
 |.dnew,δ,S,Q,h=>by simp only[evE] at h⊢;exact⟨h,Frm.push _ _⟩
 |.dnewT,δ,S,Q,h=>by simp only[evE] at h⊢;exact⟨h,Frm.push _ _⟩
 | .fld a f, δ, S, Q, h => by
   simp only[evE] at h⊢
   rw[zaa] at h
   exact WF.bind (zav a δ S _ h) fun x S1 h1=>zbi h1
 | .mk c f _ j es, δ, S, Q, h => by
   simp only[evE] at h⊢
   rw[zaa] at h
   refine WF.bind (zbJ es δ S _ h) fun ds S1 h1=>?_
   rw[zaa] at h1
   have h2:=(appW_F hcf h1:WF (S1.push (.ins c [])) _ _)
   refine WF.bind (h2.mono fun d T q=>⟨q.1,(Frm.push S1 _).trans q.2⟩) fun d S2 h3=>?_
   split at h3
   · rename_i c;rw[if_pos c];exact⟨h3,Frm.refl _⟩
   · exact h3.elim
 | .meth m tb o es, δ, S, Q, h => by
   simp only[evE] at h⊢
   rw[zaa] at h
   refine WF.bind (zav o δ S _ h) fun x S1 h1=>?_
   rw[zaa] at h1
   refine WF.bind (zbi h1) fun p S2 h2=>?_
   rw[zaa] at h2
   refine WF.bind (zbi h2) fun f S3 h3=>?_
   split at h3
   · rename_i c
     rw[if_pos c]
     rw[zaa] at h3
     exact WF.bind (zbJ es δ S3 _ h3) fun ds S4 h4=>appW_F hcf h4
   · exact h3.elim
 | .isc cs _ a, δ, S, Q, h => by
   simp only[evE] at h⊢
   rw[zaa] at h
   refine WF.bind (zav a δ S _ h) fun x S1 h1=>?_
   rw[zaa] at h1
   exact WF.bind (zbi h1) fun p S2 h2=>⟨h2,Frm.refl _⟩
 | .callC f _ _ es, δ, S, Q, h => by
   simp only[evE] at h⊢
   rw[zaa] at h
   exact WF.bind (zbJ es δ S _ h) fun ds S1 h1=>appW_F hcf h1
 | .clr a, δ, S, Q, h => by
   simp only[evE] at h⊢
   rw[zaa] at h
   refine WF.bind (zav a δ S _ h) fun x S1 h1=>?_
   split at h1
   · rename_i c
     rw[if_pos c]
     cases x with
     |ref l=>exact wr_F h1
     |_=>exact h1.elim
   · exact h1.elim
 | .ix a b, δ, S, Q, h => by
   simp only[evE] at h⊢
   rw[zaa] at h
   refine WF.bind (zav a δ S _ h) fun x S1 h1=>?_
   rw[zaa] at h1
   refine WF.bind (zav b δ S1 _ h1) fun y S2 h2=>?_
   split at h2
   · exact zbi h2
   · exact h2.elim
 | .sl a ml mh lo hi, δ, S, Q, h => by
   simp only[evE] at h⊢
   rw[zaa] at h
   refine WF.bind (zav a δ S _ h) fun x S1 h1=>?_
   rw[zaa] at h1
   refine WF.bind (zav lo δ S1 _ h1) fun y S2 h2=>?_
   rw[zaa] at h2
   refine WF.bind (zav hi δ S2 _ h2) fun z S3 h3=>?_
   split at h3
   · split at h3
     · exact⟨h3,Frm.refl _⟩
     · exact zeH h3
     · split at h3
       · exact zeH h3
       · exact h3.elim
     · exact h3.elim
   · exact h3.elim
 | .call f j es, δ, S, Q, h => by
   simp only[evE] at h⊢
   rw[zaa] at h
   exact WF.bind (zbJ es δ S _ h) fun ds S1 h1=>zoC h1
 | .callW f j es, δ, S, Q, h => by
   simp only[evE] at h⊢
   rw[zaa] at h
   exact WF.bind (zbJ es δ S _ h) fun ds S1 h1=>appW_F hcf h1
 | .bi b es, δ, S, Q, h => by
   simp only[evE] at h⊢
   rw[zaa] at h
   exact WF.bind (zbJ es δ S _ h) fun ds S1 h1=>bi_F h1
 | .mt m o es, δ, S, Q, h => by
   simp only[evE] at h⊢
   rw[zaa] at h
   refine WF.bind (zav o δ S _ h) fun x S1 h1=>?_
   split at h1
   · rename_i c
     rw[if_pos c]
     rw[zaa] at h1
     exact WF.bind (zbJ es δ S1 _ h1) fun ds S2 h2=>mt_F h2
   · exact h1.elim
 | .mkL l, δ, S, Q, h => by
   simp only[evE] at h⊢
   rw[zaa] at h
   exact WF.bind (zgC l δ S _ h) fun r S1 h1=>zeH h1
 | .mkT l, δ, S, Q, h => by
   simp only[evE] at h⊢
   rw[zaa] at h
   refine WF.bind (zgC l δ S _ h) fun r S1 h1=>?_
   split at h1
   · rename_i c;rw[if_pos c];exact⟨h1,Frm.refl _⟩
   · exact h1.elim
 | .all l, δ, S, Q, h => by
   simp only[evE] at h⊢
   rw[zaa] at h
   refine WF.bind (zgC l δ S _ h) fun r S1 h1=>?_
   rw[zaa] at h1
   exact WF.bind (zbi h1) fun k S3 h3=>⟨h3,Frm.refl _⟩
 | .ext a l, δ, S, Q, h => by
   simp only[evE] at h⊢
   rw[zaa] at h
   refine WF.bind (zav a δ S _ h) fun x S1 h1=>?_
   split at h1
   · rename_i c
     rw[if_pos c]
     rw[zaa] at h1
     refine WF.bind (zgC l δ S1 _ h1) fun r S2 h2=>?_
     split at h2
     · split at h2
       · exact wr_F h2
       · exact h2.elim
     · exact h2.elim
   · exact h1.elim
 |.dnew3,δ,S,Q,h=>by simp only[evE] at h⊢;exact⟨h,Frm.push _ _⟩
 | .d3srt a, δ, S, Q, h => by
   simp only[evE] at h⊢
   rw[zaa] at h
   refine WF.bind (zav a δ S _ h) fun r S1 h1=>?_
   rw[zaa] at h1
   refine WF.bind (zbi h1) fun k S3 h3=>?_
   split at h3
   · rename_i c;rw[if_pos c];exact zeH h3
   · exact h3.elim
 | .srt3 a, δ, S, Q, h => by
   simp only[evE] at h⊢
   rw[zaa] at h
   refine WF.bind (zav a δ S _ h) fun r S1 h1=>?_
   rw[zaa] at h1
   refine WF.bind (zbi h1) fun k S3 h3=>?_
   split at h3
   · rename_i c;rw[if_pos c];exact zeH h3
   · exact h3.elim
 | .d3keys a, δ, S, Q, h => by
   simp only[evE] at h⊢
   rw[zaa] at h
   refine WF.bind (zav a δ S _ h) fun x S1 h1=>?_
   rw[zaa] at h1
   exact WF.bind (zbi h1) fun k S2 h2=>zeH h2
theorem zbJ:∀(es:CEs) (δ:Ev) (S:St) (Q:List D->St->Prop),W (evEs cf es δ S) Q->WF S (evEs cf es δ S) Q
 |.nil,δ,S,Q,h=>by simp only[evEs] at h⊢;exact⟨h,Frm.refl S⟩
 | .cons e r, δ, S, Q, h => by
   simp only[evEs] at h⊢
   rw[zaa] at h
   refine WF.bind (zav e δ S _ h) fun x S1 h1=>?_
   rw[zaa] at h1
   exact WF.bind (zbJ r δ S1 _ h1) fun k S3 h3=>⟨h3,Frm.refl _⟩
theorem zd5:∀(e:CE) (δ:Ev) (S:St) (Q:Bool->St->Prop),W (evT cf e δ S) Q->WF S (evT cf e δ S) Q
 | .cmp op a b, δ, S, Q, h => by
   simp only[evT] at h⊢
   rw[zaa] at h
   refine WF.bind (zav a δ S _ h) fun x S1 h1=>?_
   rw[zaa] at h1
   exact WF.bind (zav b δ S1 _ h1) fun y S2 h2=>zbi h2
 | .nt a, δ, S, Q, h => by
   simp only[evT] at h⊢
   rw[zaa] at h
   exact WF.bind (zd5 a δ S _ h) fun k S3 h3=>⟨h3,Frm.refl _⟩
 | .and a b, δ, S, Q, h => by
   simp only[evT] at h⊢
   rw[zaa] at h
   refine WF.bind (zd5 a δ S _ h) fun k S1 h1=>?_
   cases k with
   |false=>exact⟨h1,Frm.refl _⟩
   |true=>exact zd5 b δ S1 Q h1
 | .or a b, δ, S, Q, h => by
   simp only[evT] at h⊢
   rw[zaa] at h
   refine WF.bind (zd5 a δ S _ h) fun k S1 h1=>?_
   cases k with
   |true=>exact⟨h1,Frm.refl _⟩
   |false=>exact zd5 b δ S1 Q h1
 | .tst e, δ, S, Q, h => by
   simp only[evT] at h⊢
   rw[zaa] at h
   exact WF.bind (zav e δ S _ h) fun k S3 h3=>zbi h3
 |.loc i,δ,S,Q,h=>by simp only[evT] at h;exact h.elim
 |.con d,δ,S,Q,h=>by simp only[evT] at h;exact h.elim
 |.bin op a b,δ,S,Q,h=>by simp only[evT] at h;exact h.elim
 |.neg a,δ,S,Q,h=>by simp only[evT] at h;exact h.elim
 |.ite c a b,δ,S,Q,h=>by simp only[evT] at h;exact h.elim
 |.tup es,δ,S,Q,h=>by simp only[evT] at h;exact h.elim
 |.lst es,δ,S,Q,h=>by simp only[evT] at h;exact h.elim
 |.dnew,δ,S,Q,h=>by simp only[evT] at h;exact h.elim
 |.dnewT,δ,S,Q,h=>by simp only[evT] at h;exact h.elim
 |.fld a f,δ,S,Q,h=>by simp only[evT] at h;exact h.elim
 |.mk c f x j es,δ,S,Q,h=>by simp only[evT] at h;exact h.elim
 |.meth m tb o es,δ,S,Q,h=>by simp only[evT] at h;exact h.elim
 |.isc cs x a,δ,S,Q,h=>by simp only[evT] at h;exact h.elim
 |.callC f x m es,δ,S,Q,h=>by simp only[evT] at h;exact h.elim
 |.clr a,δ,S,Q,h=>by simp only[evT] at h;exact h.elim
 |.ix a b,δ,S,Q,h=>by simp only[evT] at h;exact h.elim
 |.sl a ml mh lo hi,δ,S,Q,h=>by simp only[evT] at h;exact h.elim
 |.call f j es,δ,S,Q,h=>by simp only[evT] at h;exact h.elim
 |.callW f j es,δ,S,Q,h=>by simp only[evT] at h;exact h.elim
 |.bi b es,δ,S,Q,h=>by simp only[evT] at h;exact h.elim
 |.mt m o es,δ,S,Q,h=>by simp only[evT] at h;exact h.elim
 |.mkL l,δ,S,Q,h=>by simp only[evT] at h;exact h.elim
 |.mkT l,δ,S,Q,h=>by simp only[evT] at h;exact h.elim
 |.all l,δ,S,Q,h=>by simp only[evT] at h;exact h.elim
 |.ext a l,δ,S,Q,h=>by simp only[evT] at h;exact h.elim
 |.dnew3,δ,S,Q,h=>by simp only[evT] at h;exact h.elim
 |.d3keys a,δ,S,Q,h=>by simp only[evT] at h;exact h.elim
 |.d3srt a,δ,S,Q,h=>by simp only[evT] at h;exact h.elim
 |.srt3 a,δ,S,Q,h=>by simp only[evT] at h;exact h.elim
theorem zgC:∀(l:CL) (δ:Ev) (S:St) (Q:List D × List Nat->St->Prop),W (evL cf l δ S) Q->WF S (evL cf l δ S) Q
 | .val e, δ, S, Q, h => by
   simp only[evL] at h⊢
   rw[zaa] at h
   refine WF.bind (zav e δ S _ h) fun x S1 h1=>?_
   rw[zaa] at h1
   exact WF.bind (zbi h1) fun k S3 h3=>⟨h3,Frm.refl _⟩
 | .callL f j es, δ, S, Q, h => by
   simp only[evL] at h⊢
   rw[zaa] at h
   refine WF.bind (zbJ es δ S _ h) fun ds S1 h1=>?_
   rw[zaa] at h1
   exact WF.bind (znE h1) fun k S3 h3=>⟨h3,Frm.refl _⟩
 | .rng1 a, δ, S, Q, h => by
   simp only[evL] at h⊢
   rw[zaa] at h
   refine WF.bind (zav a δ S _ h) fun x S1 h1=>?_
   cases x with
   | int j =>
     dsimp only at h1⊢
     split at h1
     · rename_i c;rw[if_pos c];exact⟨h1,Frm.refl _⟩
     · exact h1.elim
   |_=>exact h1.elim
 | .rng2 a b, δ, S, Q, h => by
   simp only[evL] at h⊢
   rw[zaa] at h
   refine WF.bind (zav a δ S _ h) fun x S1 h1=>?_
   rw[zaa] at h1
   refine WF.bind (zav b δ S1 _ h1) fun y S2 h2=>?_
   split at h2
   · split at h2
     · rename_i c;rw[if_pos c];exact⟨h2,Frm.refl _⟩
     · exact h2.elim
   · exact h2.elim
 | .enum a, δ, S, Q, h => by
   simp only[evL] at h⊢
   rw[zaa] at h
   exact WF.bind (zav a δ S _ h) fun x S1 h1=>zbi h1
 | .comp n js g it c e, δ, S, Q, h => by
   simp only[evL] at h⊢
   rw[zaa] at h
   refine WF.bind (zgC it δ S _ h) fun r S1 h1=>?_
   rw[zaa] at h1
   exact WF.bind (zf0 h1 fun Q' h2=>zdI (fun δ S Q=>zd5 c δ S Q) (fun δ S Q=>zav e δ S Q) _ _ _ _ h2) fun k S3 h3=>by
    split at h3
    · rename_i c;rw[if_pos c];exact⟨h3,Frm.refl _⟩
    · exact h3.elim
end
theorem zc7:∀(s:CS) (δ:Ev) (S:St) (Q:Fl->St->Prop),W (exS cf s δ S) Q->WF S (exS cf s δ S) Q
 |.nil,δ,S,Q,h=>by simp only[exS] at h⊢;exact⟨h,Frm.refl S⟩
 |.stop,δ,S,Q,h=>by simp only[exS] at h;exact h.elim
 | .asg i e r, δ, S, Q, h => by
   simp only[exS] at h⊢
   rw[zaa] at h
   exact WF.bind (zav hcf e δ S _ h) fun x S1 h1=>zc7 r _ S1 Q h1
 | .setIx a b e r, δ, S, Q, h => by
   simp only[exS] at h⊢
   rw[zaa] at h
   refine WF.bind (zav hcf e δ S _ h) fun v S1 h1=>?_
   rw[zaa] at h1
   refine WF.bind (zav hcf a δ S1 _ h1) fun x S2 h2=>?_
   rw[zaa] at h2
   refine WF.bind (zav hcf b δ S2 _ h2) fun y S3 h3=>?_
   cases ed:dPut S3 x y v with
   |none=>rw[ed] at h3;exact h3.elim
   | some S4 =>
     rw[ed] at h3
     have f1:=znr ed
     have f2:=zc7 r δ S4 Q h3
     dsimp only
     unfold WF at f2⊢
     exact f2.mono fun a T ⟨q,f⟩=>⟨q,f1.trans f⟩
 | .setF a f e r, δ, S, Q, h => by
   simp only[exS] at h⊢
   rw[zaa] at h
   refine WF.bind (zav hcf e δ S _ h) fun v S1 h1=>?_
   rw[zaa] at h1
   refine WF.bind (zav hcf a δ S1 _ h1) fun x S2 h2=>?_
   cases ed:zbU S2 x f v with
   |none=>rw[ed] at h2;exact h2.elim
   | some S3 =>
     rw[ed] at h2
     exact (zc7 r δ S3 Q h2).mono fun a S' q=>⟨q.1,(ziz ed).trans q.2⟩
 | .ifS c t u r, δ, S, Q, h => by
   simp only[exS] at h⊢
   rw[zaa] at h
   refine WF.bind (zd5 hcf c δ S _ h) fun k S1 h1=>?_
   rw[zaa] at h1
   refine WF.bind (Q:=Q) (S:=S1) ?_ fun f S2 h2=>?_
   · cases k with
     |true=>exact zc7 t δ S1 _ h1
     |false=>exact zc7 u δ S1 _ h1
   · cases f with
     |nx δ'=>exact zc7 r _ S2 Q h2
     |rt d=>exact⟨h2,Frm.refl _⟩
 | .forS g l b r, δ, S, Q, h => by
   simp only[exS] at h⊢
   rw[zaa] at h
   refine WF.bind (zgC hcf l δ S _ h) fun q S1 h1=>?_
   rw[zaa] at h1
   refine WF.bind (zf0 h1 fun Q' h2=>zfF (fun δ S Q=>zc7 b δ S Q) _ _ _ _ h2) fun f S3 h3=>?_
   cases f with
   |nx δ'=>exact zc7 r _ S3 Q h3
   |rt d=>exact⟨h3,Frm.refl _⟩
 | .ret e r, δ, S, Q, h => by
   simp only[exS] at h⊢
   rw[zaa] at h
   exact WF.bind (zav hcf e δ S _ h) fun x S1 h1=>⟨h1,Frm.refl _⟩
 | .expr e r, δ, S, Q, h => by
   simp only[exS] at h⊢
   rw[zaa] at h
   exact WF.bind (zav hcf e δ S _ h) fun x S1 h1=>zc7 r _ S1 Q h1
end
end R
end
section
set_option maxHeartbeats 4000000
namespace R
open PySem PySem.Spec PyProof.Rows L2
section
variable {prog:Program} {w:World} {A:Around} {E:Value->Shared->Prop} {s:Shared}
noncomputable def IsTri (prog:Program)(w:World)(h:Heap)(k:K3)(a:Addr):Prop:=∃o t u b n,h.get? a=some o/\o.cls=.type "tuple"/\o.data=.seq #[.int k.1 t,.ref b,.int k.2.2 u] n/\IsTupleKey (zap prog w) h (k.2.1.map Sum.inl) b
theorem zfp {x y:List Int}(h:(x.map Sum.inl:List Key)=y.map Sum.inl):x=y:=(List.map_inj_right (fun a b e=>Sum.inl.inj e)).mp h
theorem IsTri.typeIs {k:K3}{a:Addr}(x:IsTri prog w s.heap k a):s.TypeIs (.ref a) "tuple":=let ⟨o,_,_,_,_,ho,hc,_⟩:=x;⟨o,ho,hc⟩
theorem IsTri.inj {h:Heap}{a:Addr}{x y:K3}(hx:IsTri prog w h x a)(hy:IsTri prog w h y a):x=y:=by
 obtain⟨o,t,u,b,n,ho,_,hd,hi⟩:=hx
 obtain⟨o',t',u',b',n',ho',_,hd',hi'⟩:=hy
 obtain rfl:o=o':=Option.some.inj (ho.symm.trans ho')
 rw[hd] at hd'
 injection hd' with h1 _
 have h1:=congrArg Array.toList h1
 simp only[List.cons.injEq,Value.int.injEq,Value.ref.injEq,and_true] at h1
 obtain⟨⟨e1,_⟩,rfl,e3,_⟩:=h1
 have e2:=zfp (hi.inj hi')
 obtain⟨x1,x2,x3⟩:=x
 obtain⟨y1,y2,y3⟩:=y
 simp_all
theorem IsTri.keeps {h h':Heap}{k:K3}{a d:Addr}{o:Obj}{es ep}(x:IsTri prog w h k a)(ho:h.get? d=some o)(hd:o.data=.dict es ep)(hs:Heap.SameBut d h h'):IsTri prog w h' k a:=by
 obtain⟨o',t,u,b,n,ho',hc,hd',hi⟩:=x
 have hne:a≠d:=by
  rintro rfl
  obtain rfl:o'=o:=Option.some.inj (ho'.symm.trans ho)
  rw[hd] at hd';exact nomatch hd'
 exact⟨o',t,u,b,n,(hs.2 a hne).trans ho',hc,hd',hi.keeps ho hd hs⟩
noncomputable def zcz (prog:Program)(w:World)(k:K3):Int:=reduceHash (Builtin.Tuple.tupleHashOf [hashInt k.1,tupleKeyHash (zap prog w) (k.2.1.map Sum.inl),hashInt k.2.2])
theorem zct {k:K3}{a:Addr}{Q:Int->Shared->Prop}(hu:A.units+4<cLine)(hk:IsTri prog w s.heap k a)(h:Q (zcz prog w k) {s with toks:=s.toks+(k.2.1.length+4)}) :
  wpAny (model prog w) A (pyHash (.ref a)) Q E s:=by
 have hT:=hk.typeIs
 obtain⟨o,t,u,b,n,ho,_,hd,hi⟩:=hk
 unfold pyHash
 first|unfold pyHashByItsType|skip
 first|refine wpAny_bind (wpAny_cRoomFor_or (.inr (by omega)) ?_)|skip
 refine wpAny_bind (wpAny_specialOf hT F.slot_tuple_hash.lookup ?_)
 show wpAny _ _ (if (some (Value.builtin "tuple.__hash__") == some Value.none)=true then _ else _) Q E s
 rw[if_neg (by rw[beq_builtin_none];exact Bool.false_ne_true)]
 refine wpAny_bind (wpAny_specialOf hT F.slot_tuple_hash.lookup ?_)
 show wpAny _ _ (callSpecialIfBoundUnlessNone? (.ref a) "__hash__" _ >>= _) Q E s
 refine wpAny_bind (wpAny_callSpecialIfBoundUnlessNone?_slot hT F.slot_tuple_hash (wpAny_call_entry F.slot_tuple_hash hT F.entry_tuple_hash ?_ (F.args_tuple_hash_1 _)))
 show wpAny _ _ (Builtin.Tuple.tupleItemsOf (.ref a) >>= _) _ _ s
 refine wpAny_bind (wpAny_tupleItemsOf ho hd ?_)
 refine wpAny_bind ?_
 rw[<-Array.forIn_toList]
 refine wpAny_forIn_list _
  (fun rest (g:Array Int) s'=>(rest=[.int k.1 t,.ref b,.int k.2.2 u]/\g.toList=[]/\s'=s)\/(rest=[.ref b,.int k.2.2 u]/\g.toList=[hashInt k.1]/\s'={s with toks:=s.toks+1})
   \/(rest=[.int k.2.2 u]/\g.toList=[hashInt k.1,tupleKeyHash (zap prog w) (k.2.1.map Sum.inl)]/\s'={s with toks:=s.toks+(k.2.1.length+2)})
   \/(rest=[]/\g.toList=[hashInt k.1,tupleKeyHash (zap prog w) (k.2.1.map Sum.inl),hashInt k.2.2]/\s'={s with toks:=s.toks+(k.2.1.length+3)}))
  _ ?_ ?_ _ _ (.inl ⟨rfl,rfl,rfl⟩)
 · rintro x rest g s' (⟨e,hg,rfl⟩|⟨e,hg,rfl⟩|⟨e,hg,rfl⟩|⟨e,hg,rfl⟩)
   · cases e
     refine wpAny_bind (wpAny_pyHash_int ?_)
     exact wpAny_pure (.inr (.inl ⟨rfl,by simp[hg],rfl⟩))
   · cases e
     refine wpAny_bind (wpAny_pyHash_tuple (knd:=zap prog w) (ks:=k.2.1.map Sum.inl) ?_ hi ?_)
     · show A.units+1<cLine;omega
     · exact wpAny_pure (.inr (.inr (.inl ⟨rfl,by simp[hg],by simp only[List.length_map];congr 1;omega⟩)))
   · cases e
     refine wpAny_bind (wpAny_pyHash_int ?_)
     exact wpAny_pure (.inr (.inr (.inr ⟨rfl,by simp[hg],by simp[Nat.add_assoc]⟩)))
   · cases e
 · rintro g s' (⟨e,hg,rfl⟩|⟨e,hg,rfl⟩|⟨e,hg,rfl⟩|⟨e,hg,rfl⟩)
   · cases e
   · cases e
   · cases e
   show wpAny _ _ (retInt (Builtin.Tuple.tupleHashOf g.toList)) _ _ _
   rw[hg]
   refine wpAny_ret_mkInt ?_
   show wpAny _ _ (if (decide (-(2:Int) ^ 63<=Builtin.Tuple.tupleHashOf [hashInt k.1,tupleKeyHash (zap prog w) (k.2.1.map Sum.inl),hashInt k.2.2])&&decide (Builtin.Tuple.tupleHashOf [hashInt k.1,tupleKeyHash (zap prog w) (k.2.1.map Sum.inl),hashInt k.2.2]<2 ^ 63))=true then _ else _) Q E _
   unfold zcz reduceHash at h
   by_cases hr:(decide (-(2:Int) ^ 63<=Builtin.Tuple.tupleHashOf [hashInt k.1,tupleKeyHash (zap prog w) (k.2.1.map Sum.inl),hashInt k.2.2])&&decide (Builtin.Tuple.tupleHashOf [hashInt k.1,tupleKeyHash (zap prog w) (k.2.1.map Sum.inl),hashInt k.2.2]<2 ^ 63))=true
   · rw[if_pos hr]
     rw[if_pos hr] at h
     exact wpAny_pure (by simpa[Nat.add_assoc] using h)
   · rw[if_neg hr]
     rw[if_neg hr] at h
     exact wpAny_bind (wpAny_rule (wpAny_pure (by simpa[Nat.add_assoc] using h)))
theorem zfb {x y:K3}{a b:Addr}{P:Fin->Shared->Prop}(hu:A.units<cLine)(hx:IsTri prog w s.heap x a)(hy:IsTri prog w s.heap y b)(h:P (.done (.ret (.bool (decide (x=y))))) s) :
  wpAny (model prog w) A (Builtin.«tuple.__eq__» ⟨[.ref a,.ref b],[]⟩) P E s:=by
 have hTb:=hy.typeIs
 obtain⟨oa,t1,u1,b1,na,hoa,_,hda,hia⟩:=hx
 obtain⟨ob,t2,u2,b2,nb,hob,_,hdb,hib⟩:=hy
 obtain⟨x1,x2,x3⟩:=x
 obtain⟨y1,y2,y3⟩:=y
 show wpAny _ _ (isInstance (.ref b) (.type "tuple") >>= _) _ _ s
 refine wpAny_bind (wpAny_isInstance hTb isSubtype_tuple_tuple ?_)
 simp only[Bool.not_true,Bool.false_eq_true,if_false]
 refine wpAny_bind (wpAny_tupleItemsOf hoa hda ?_)
 refine wpAny_bind (wpAny_tupleItemsOf hob hdb ?_)
 refine wpAny_bind ?_
 refine wpAny_forIn_list _
  (fun rest r s'=>r.1=none/\s'=s/\(rest=[(.int x1 t1,.int y1 t2),(.ref b1,.ref b2),(.int x3 u1,.int y3 u2)]\/(rest=[(.ref b1,.ref b2),(.int x3 u1,.int y3 u2)]/\x1=y1)\/(rest=[(.int x3 u1,.int y3 u2)]/\x1=y1/\x2=y2)\/(rest=[]/\x1=y1/\x2=y2/\x3=y3)))
  _ ?_ ?_ _ _ ⟨rfl,rfl,.inl rfl⟩
 · rintro⟨p,q⟩ rest r s' ⟨hr,rfl,(e|⟨e,z1⟩|⟨e,z1,z2⟩|⟨e,z1,z2,z3⟩)⟩
   · cases e
     refine wpAny_bind (wpAny_eqBool_int ?_)
     by_cases hk:x1=y1
     · rw[show (x1 == y1)=true by simp[hk]]
       simp only[Bool.not_true,Bool.false_eq_true,if_false]
       exact wpAny_pure ⟨rfl,rfl,.inr (.inl ⟨trivial,hk⟩)⟩
     · rw[show (x1 == y1)=false by simp[hk]]
       simp only[Bool.not_false,if_true]
       rw[decide_eq_false (by simp[hk])] at h
       exact wpAny_bind (wpAny_pure (wpAny_pure (wpAny_pure h)))
   · cases e
     refine wpAny_bind (wpAny_eqBool_tuple hu hia hib ?_)
     by_cases hk:x2=y2
     · rw[decide_eq_true (by rw[hk])]
       simp only[Bool.not_true,Bool.false_eq_true,if_false]
       exact wpAny_pure ⟨rfl,rfl,.inr (.inr (.inl ⟨trivial,z1,hk⟩))⟩
     · rw[decide_eq_false (fun z=>hk (zfp z))]
       simp only[Bool.not_false,if_true]
       rw[decide_eq_false (by simp[hk])] at h
       exact wpAny_bind (wpAny_pure (wpAny_pure (wpAny_pure h)))
   · cases e
     refine wpAny_bind (wpAny_eqBool_int ?_)
     by_cases hk:x3=y3
     · rw[show (x3 == y3)=true by simp[hk]]
       simp only[Bool.not_true,Bool.false_eq_true,if_false]
       exact wpAny_pure ⟨rfl,rfl,.inr (.inr (.inr ⟨trivial,z1,z2,hk⟩))⟩
     · rw[show (x3 == y3)=false by simp[hk]]
       simp only[Bool.not_false,if_true]
       rw[decide_eq_false (by simp[hk])] at h
       exact wpAny_bind (wpAny_pure (wpAny_pure (wpAny_pure h)))
   · cases e
 · rintro⟨r1,r2⟩ s' ⟨hr,rfl,(e|⟨e,z1⟩|⟨e,z1,z2⟩|⟨e,z1,z2,z3⟩)⟩
   · cases e
   · cases e
   · cases e
   simp only at hr
   subst hr
   refine wpAny_pure ?_
   rw[decide_eq_true (by rw[z1,z2,z3])] at h
   exact h
theorem zcu {x y:K3}{a b:Addr}{Q:Bool->Shared->Prop}(hu:A.units+4<cLine)(hx:IsTri prog w s.heap x a)(hy:IsTri prog w s.heap y b)(h:Q (decide (x=y)) s) :
  wpAny (model prog w) A (eqBool (.ref a) (.ref b)) Q E s:=by
 unfold eqBool
 try with_reducible refine wpAny_holding ?_
 show wpAny _ _ (if (Value.ref a == Value.ref b)=true then _ else _) Q E s
 by_cases hab:(Value.ref a == Value.ref b)=true
 · rw[if_pos hab]
   have e:a=b:=by have:=eq_of_beq hab;injection this
   subst e
   obtain rfl:=hx.inj hy
   exact wpAny_bind (wpAny_rule (wpAny_pure (by simpa using h)))
 · rw[if_neg hab]
   exact wpAny_bind (wpAny_richCompare_same_room (op:=.Eq) hx.typeIs hy.typeIs F.slot_tuple_eq
    (wpAny_call_entry F.slot_tuple_eq hx.typeIs F.entry_tuple_eq (zfb (by show A.units+1<cLine;omega) hx hy ⟨_,rfl,(fun e=>nomatch e),wpAny_truthy_bool h⟩) (F.args_tuple_eq_2 _ _)) (by omega))
theorem zmq {ks:List Key}{a:Addr}{Q:Bool->Shared->Prop}(hk:IsTupleKey (zap prog w) s.heap ks a)(h:Q true s):wpAny (model prog w) A (eqIsQuiet 7 (.ref a)) Q E s:=by
 have hT:=hk.typeIs
 obtain⟨o,items,n,ho,_,hd,hi⟩:=hk
 unfold eqIsQuiet
 refine wpAny_bind (wpAny_specialOf hT F.slot_tuple_eq.lookup ?_)
 show wpAny _ _ (isInstance (.ref a) (.type "tuple") >>= _) _ _ s
 refine wpAny_bind (wpAny_isInstance hT isSubtype_tuple_tuple ?_)
 simp only[Bool.not_true,Bool.false_eq_true,if_false]
 refine wpAny_bind (wpAny_seqItems ho hd ?_)
 refine wpAny_bind ?_
 show wpAny _ _ (forIn items _ _) _ _ s
 rw[<-Array.forIn_toList]
 refine wpAny_forIn_list _ (fun rest r s'=>r.1=none/\s'=s/\∀v∈rest,carriedByValue v=true) _ ?_ ?_ _ _ ⟨rfl,rfl,hi.byValue⟩
 · rintro v rest r s' ⟨hr,rfl,hall⟩
   rw[eqIsQuiet_byValue _ (hall v List.mem_cons_self)]
   refine wpAny_bind (wpAny_pure ?_)
   simp only[Bool.not_true,Bool.false_eq_true,if_false]
   exact wpAny_pure ⟨rfl,rfl,fun u hu'=>hall u (List.mem_cons_of_mem _ hu')⟩
 · rintro⟨r1,r2⟩ s' ⟨hr,rfl,_⟩
   simp only at hr
   subst hr
   exact wpAny_pure h
theorem zb0 {k:K3}{a:Addr}{Q:Bool->Shared->Prop}(hk:IsTri prog w s.heap k a)(h:Q true s):wpAny (model prog w) A (eqIsQuiet 8 (.ref a)) Q E s:=by
 have hT:=hk.typeIs
 obtain⟨o,t,u,b,n,ho,_,hd,hi⟩:=hk
 unfold eqIsQuiet
 refine wpAny_bind (wpAny_specialOf hT F.slot_tuple_eq.lookup ?_)
 show wpAny _ _ (isInstance (.ref a) (.type "tuple") >>= _) _ _ s
 refine wpAny_bind (wpAny_isInstance hT isSubtype_tuple_tuple ?_)
 simp only[Bool.not_true,Bool.false_eq_true,if_false]
 refine wpAny_bind (wpAny_seqItems ho hd ?_)
 refine wpAny_bind ?_
 show wpAny _ _ (forIn #[Value.int k.1 t,.ref b,.int k.2.2 u] _ _) _ _ s
 rw[<-Array.forIn_toList]
 refine wpAny_forIn_list _ (fun rest r s'=>r.1=none/\s'=s/\∀v∈rest,carriedByValue v=true\/v=.ref b) _ ?_ ?_ _ _ ⟨rfl,rfl,fun v hv=>by
  simp only[List.mem_cons,List.not_mem_nil,or_false] at hv
  rcases hv with rfl|rfl|rfl
  · exact .inl rfl
  · exact .inr rfl
  · exact .inl rfl⟩
 · rintro v rest r s' ⟨hr,rfl,hall⟩
   rcases hall v List.mem_cons_self with hv|rfl
   · rw[eqIsQuiet_byValue _ hv]
     refine wpAny_bind (wpAny_pure ?_)
     simp only[Bool.not_true,Bool.false_eq_true,if_false]
     exact wpAny_pure ⟨rfl,rfl,fun u hu'=>hall u (List.mem_cons_of_mem _ hu')⟩
   · refine wpAny_bind (zmq hi ?_)
     simp only[Bool.not_true,Bool.false_eq_true,if_false]
     exact wpAny_pure ⟨rfl,rfl,fun u hu'=>hall u (List.mem_cons_of_mem _ hu')⟩
 · rintro⟨r1,r2⟩ s' ⟨hr,rfl,_⟩
   simp only at hr
   subst hr
   exact wpAny_pure h
end
noncomputable def zbx (prog:Program)(w:World):HeapKind prog w K3 where
 is:=IsTri prog w
 hash:=zcz prog w
 draws:=fun k=>k.2.1.length+4
 room:=fun A=>A.units+4<cLine
 inj:=fun hx hy=>hx.inj hy
 keeps:=fun x ho hd hs=>x.keeps ho hd hs
 pyHash:=fun hu hk h=>zct hu hk h
 eqBool:=fun hu hx hy h=>zcu hu hx hy h
 quiet:=fun hk h=>zb0 hk h
end R
end
section
set_option maxHeartbeats 4000000
namespace R
open PySem PySem.Spec PyProof.Rows L2
noncomputable def zjo (k:K3):Int:=reduceHash (Builtin.Tuple.tupleHashOf [hashInt k.1,reduceHash (Builtin.Tuple.tupleHashOf (k.2.1.map hashInt)),hashInt k.2.2])
theorem zjn {P:Program}{w:World}(k:K3):(zbx P w).hash k=zjo k:=by
 show zcz P w k=zjo k
 unfold zcz zjo tupleKeyHash
 rw[List.map_map]
 rfl
noncomputable def P3 (p:K3 × Addr × V)(q:K3 × Addr × Value):Prop:=p.1=q.1/\p.2.1=q.2.1/\RelV p.2.2 q.2.2
noncomputable def ent3 (x:K3 × Addr × Value):DictEntry:=⟨zjo x.1,.ref x.2.1,x.2.2⟩
theorem zh6 {P:Program}{w:World}(x:K3 × Addr × Value):entryOfKey (zbx P w) x=ent3 x:=by
 unfold entryOfKey ent3
 rw[zjn]
noncomputable def TriO (a:Addr)(kxs:List (K3 × Addr × V))(h:Heap):Prop:=kxs.length<=sizeLine/\(a == sysModules)=false/\∃xs,Paired P3 kxs xs/\∃o es ep,h.get? a=some o/\o.ExactDict/\o.data=.dict es ep/\es.toList=xs.map ent3/\(xs.map (·.1)).Nodup
noncomputable def Key3 (H:Hp)(k:K3)(c:Addr):Prop:=∃b,H c=some (.tup [.int k.1,.ref b,.int k.2.2])/\H b=some (.tup (k.2.1.map V.int))
noncomputable def TriK (H:Hp)(kxs:List (K3 × Addr × V)):Prop:=∀x∈kxs,Key3 H x.1 x.2.1
theorem Key3.up {H H':Hp}{k:K3}{c:Addr}(h:Key3 H k c)(ht:∀b xs,H b=some (.tup xs)->H' b=some (.tup xs)):Key3 H' k c:=let ⟨b,h1,h2⟩:=h;⟨b,ht _ _ h1,ht _ _ h2⟩
theorem TriO.stay {a:Addr}{kxs:List (K3 × Addr × V)}{h h':Heap}(x:TriO a kxs h)(k:∀o,h.get? a=some o->h'.get? a=some o):TriO a kxs h':=by
 obtain⟨z,y,xs,r,o,es,ep,e,c⟩:=x
 exact⟨z,y,xs,r,o,es,ep,k _ e,c⟩
theorem TriO.objOk {P:Program}{w:World}{H:Hp}{h:Heap}{a:Addr}{kxs:List (K3 × Addr × V)}(x:TriO a kxs h):ObjOk P w H h a (.ext (TriO a kxs)):=by
 refine⟨x,?_,fun h1 h2 p k=>p.stay k⟩
 obtain⟨_,_,_,_,o,_,_,e,_⟩:=x
 exact⟨o,e⟩
theorem zfT:∀{kxs:List (K3 × Addr × V)} {xs:List (K3 × Addr × Value)},Paired P3 kxs xs->xs.length=kxs.length
 |_,_,.nil=>rfl
 |_,_,.cons _ t=>by simp[zfT t]
theorem zdS:∀{kxs:List (K3 × Addr × V)} {xs:List (K3 × Addr × Value)},Paired P3 kxs xs->xs.map (·.1)=kxs.map (·.1)
 |_,_,.nil=>rfl
 |_,_,.cons h t=>by rw[List.map_cons,List.map_cons,zdS t,h.1]
section
variable {P:Program} {w:World} {H:Hp} {h:Heap} {a c:Addr} {kxs:List (K3 × Addr × V)}
theorem zcY {k:K3}(ok:HOk P w H h)(e:Key3 H k c):IsTri P w h k c:=by
 obtain⟨b,e1,e2⟩:=e
 obtain⟨_,its,rv,o,ho,hc,n,hd⟩:=(show ObjOk P w H h c (.tup _) from ok c _ e1)
 cases rv with
 | @cons _ v1 _ r1 q1 rv =>
   cases rv with
   | @cons _ v2 _ r2 q2 rv =>
     cases rv with
     | @cons _ v3 _ r3 q3 rv =>
       cases rv
       obtain⟨t,rfl⟩:=q1
       cases (show v2=Value.ref b from q2)
       obtain⟨u,rfl⟩:=q3
       refine⟨o,t,u,b,n,ho,hc,hd,?_⟩
       have:=zeI (ks:=k.2.1.map Sum.inl) ok (a:=b) (by rw[List.map_map];exact e2)
       exact this
theorem zej (ok:HOk P w H h)(e:H a=some (.ext (TriO a kxs)))(tk:TriK H kxs):kxs.length<=sizeLine/\(a == sysModules)=false/\∃xs,Paired P3 kxs xs/\h.DictOfH (zbx P w) a xs:=by
 obtain⟨⟨z,y,xs,r,o,es,ep,ho,hx,hd,he,nd⟩,_,_⟩:=(show ObjOk P w H h a (.ext _) from ok a _ e)
 refine⟨z,y,xs,r,o,es,ep,ho,hx,hd,?_,?_,nd⟩
 · rw[he];exact List.map_congr_left fun x _=>(zh6 x).symm
 · have all:∀{l:List (K3 × Addr × V)} {m:List (K3 × Addr × Value)},Paired P3 l m->TriK H l->∀x∈m,(zbx P w).is h x.1 x.2.1:=by
    intro l m q
    induction q with
    |nil=>intro _ x hx;exact nomatch hx
    | @cons p q ps qs hq t ih =>
      intro tk x hx
      rcases List.mem_cons.mp hx with e|hx
      · subst e
        rw[<-hq.1,<-hq.2.1]
        exact zcY ok (tk p List.mem_cons_self)
      · exact ih (fun y hy=>tk y (List.mem_cons_of_mem _ hy)) x hx
   exact all r tk
end
noncomputable def put3 (kxs:List (K3 × Addr × V))(k:K3)(c:Addr)(v:V):List (K3 × Addr × V):=if k∈kxs.map (·.1) then kxs.map (fun x=>if x.1=k then (x.1,x.2.1,v) else x) else kxs++[(k,c,v)]
theorem zbL {xs:List (K3 × Addr × Value)}{k:K3}:(atKey xs k).isSome=decide (k∈xs.map (·.1)):=by
 unfold atKey
 rw[Option.isSome_map]
 apply Bool.eq_iff_iff.mpr
 rw[List.find?_isSome,decide_eq_true_eq,List.mem_map]
 constructor
 · rintro⟨x,hx,e⟩;exact⟨x,hx,by simpa using e⟩
 · rintro⟨x,hx,e⟩;exact⟨x,hx,by simpa using e⟩
theorem zmM {k:K3}{c:Addr}{v:V}{r:Value}(rv:RelV v r){kxs:List (K3 × Addr × V)}{xs:List (K3 × Addr × Value)}(h:Paired P3 kxs xs):Paired P3 (put3 kxs k c v) (storedH xs k c r):=by
 unfold put3 storedH
 rw[zbL,zdS h]
 by_cases hk:k∈kxs.map (·.1)
 · rw[if_pos hk,if_pos (by simpa using hk)]
   clear hk
   induction h with
   |nil=>exact .nil
   | @cons p q ps qs hq t ih =>
     rw[List.map_cons,List.map_cons]
     refine .cons ?_ ih
     unfold putAt
     by_cases e:p.1=k
     · rw[if_pos e,if_pos (by rw[<-hq.1];exact e)]
       exact⟨hq.1,hq.2.1,rv⟩
     · rw[if_neg e,if_neg (by rw[<-hq.1];exact e)]
       exact hq
 · rw[if_neg hk,if_neg (by simpa using hk)]
   clear hk
   induction h with
   |nil=>exact .cons ⟨rfl,rfl,rv⟩ .nil
   |cons hq t ih=>exact .cons hq ih
theorem ziQ (kxs:List (K3 × Addr × V))(k:K3)(c:Addr)(v:V):(put3 kxs k c v).length<=kxs.length+1:=by
 unfold put3
 split
 · rw[List.length_map];omega
 · simp
section
variable {X:Cx} {pins:List (Addr × Obj)} {σ:L2.St} {H:Hp} {s:Shared} {a c:Addr} {kxs:List (K3 × Addr × V)} {k:K3} {v:V} {r:Value} {A:Around} {E:Value->Shared->Prop}
theorem zgG {Q:Unit->Shared->Prop}(hu:A.units+5<cLine)(I:Inv X pins σ H s)(e:H a=some (.ext (TriO a kxs)))(tk:TriK H kxs)(ek:Key3 H k c)(hl:kxs.length<sizeLine)(rv:RelV v r)
  (h:∀s',Inv X pins σ (upd H a (.ext (TriO a (put3 kxs k c v)))) s'->Q () s'):wpAny (model X.prog X.w) A (setItem (.ref a) (.ref c) r) Q E s:=by
 obtain⟨z,hd,xs,rel,dd⟩:=zej I.hok e tk
 have hz:xs.length<=sizeLine:=by rw[zfT rel];exact z
 have hl':=ziQ kxs k c v
 refine wpAny_setItem_heap (knd:=zbx X.prog X.w) (hsz:=hz) (show A.units+1+4<cLine by omega) (zcY I.hok ek) dd fun h' dd' hs=>h _ ?_
 obtain⟨q,es,ep,hq,h2,h3,h4,_,h5⟩:=dd'
 refine zft I (by rw[e];exact True.intro) hs ⟨q,hq⟩ (TriO.objOk ⟨by omega,hd,_,zmM rv rel,q,es,ep,hq,h2,h3,?_,h5⟩)
 rw[h4];exact List.map_congr_left fun x _=>zh6 x
theorem zoA {Q:Value->Shared->Prop}(hu:A.units+5<cLine)(I:Inv X pins σ H s)(e:H a=some (.ext (TriO a kxs)))(tk:TriK H kxs)(ek:Key3 H k c)(h:∀s',Inv X pins σ H s'->Q (.bool (decide (k∈kxs.map (·.1)))) s') :
  wpAny (model X.prog X.w) A (compareOp .In (.ref c) (.ref a)) Q E s:=by
 obtain⟨z,hd,xs,rel,dd⟩:=zej I.hok e tk
 refine wpAny_in_heap (knd:=zbx X.prog X.w) (show A.units+1+4<cLine by omega) (zcY I.hok ek) hd dd ?_
 rw[zbL,zdS rel]
 exact h _ (I.kept fun b o e=>e)
theorem zjz {Q:Value->Shared->Prop}(hu:A.units+5<cLine)(I:Inv X pins σ H s)(e:H a=some (.ext (TriO a kxs)))(tk:TriK H kxs)(ek:Key3 H k c)(h:∀s',Inv X pins σ H s'->Q (.bool (!decide (k∈kxs.map (·.1)))) s') :
  wpAny (model X.prog X.w) A (compareOp .NotIn (.ref c) (.ref a)) Q E s:=by
 obtain⟨z,hd,xs,rel,dd⟩:=zej I.hok e tk
 refine wpAny_notIn_heap (knd:=zbx X.prog X.w) (show A.units+1+4<cLine by omega) (zcY I.hok ek) hd dd ?_
 rw[zbL,zdS rel]
 exact h _ (I.kept fun b o e=>e)
theorem zi4 {pos:Pos}:PE X (.Dict [] [] pos) (fun _ H Q=>∀p,H p=none->Q (.ref p) (upd H p (.ext (TriO p [])))):=fun pins s σ H Q I h=>
 wpAny_Dict_empty ⟨.ref s.heap.objs.size,_,I.laid (a:=s.heap.objs.size) (o:=.ext (TriO s.heap.objs.size [])) (t':=s.toks) (fun _ _ q=>Heap.get?_push_of_some _ q) (Nat.le_refl _)
  (TriO.objOk ⟨Nat.zero_le _,beq_eq_false_iff_ne.mpr (Ne.symm (Nat.ne_of_lt I.big)),[],.nil,_,#[],0,Heap.get?_push_size _ rfl,⟨rfl,rfl,rfl⟩,rfl,rfl,List.nodup_nil⟩),rfl,h _ (I.hok.fresh (Nat.le_refl _))⟩
end
end R
end
section
namespace R
open PySem L2
noncomputable def KL (K:PySem.W.Frag)(a:Addr)(xs:List V):Prop:=∃(o:Obj) (its:Array Value) (n:Nat),K.lookup a=some o/\o.cls=.type "list"/\o.dict=none/\o.data=.seq its n/\its.size<=sizeLine/\Vals xs its.toList
noncomputable def FixL (K:PySem.W.Frag)(H:Hp)(a:Addr)(xs:List V):Prop:=(∃o,H a=some (.frz o (.lst xs)))\/KL K a xs
theorem FixL.sq {K:PySem.W.Frag}{H:Hp}{a:Addr}{xs:List V}(h:FixL K H a xs):SqL K H a xs:=h.elim (fun⟨o,e⟩=>.inl (.inr ⟨o,e⟩)) .inr
class Mks where
 ts:List (Addr × Str)
 cl:List Addr
variable [Mks]
noncomputable def TabIn (H:Hp)(P:Addr)(q:Str):Prop:=∃ps:Array Value,H P=some (.tbl ps)/\TriplesOk ps.toList/\
 ∀(pos:Pos) (v:Value),codeAmong pos ps.toList=some v->∃(c:Addr) (oc:Obj) (vs:Array Value) (t:Tok),v=.ref c/\H c=some (.frz oc (.own 0))/\oc.data=.fields vs/\vs[1]?=some (.str q t)
theorem TabIn.up {H H':Hp}{P:Addr}{q:Str}(t:TabIn H P q)(e:H' P=H P)(f:∀b o u,H b=some (.frz o u)->H' b=some (.frz o u)):TabIn H' P q:=by
 obtain⟨ps,h1,h2,h3⟩:=t
 refine⟨ps,by rw[e];exact h1,h2,fun pos v hv=>?_⟩
 obtain⟨c,oc,vs,t,a1,a2,a3⟩:=h3 pos v hv
 exact⟨c,oc,vs,t,a1,f _ _ _ a2,a3⟩
noncomputable def TB (H:Hp):Prop:=∀p∈Mks.ts,TabIn H p.1 p.2
structure Kp (H H':Hp):Prop where
 tups:Tups H H'
 frzs:∀b o u,H b=some (.frz o u)->H' b=some (.frz o u)
 tab:TB H->TB H'
theorem Kp.refl (H:Hp):Kp H H:=⟨Tups.refl H,fun _ _ _ h=>h,fun h=>h⟩
theorem Kp.trans {H H1 H2:Hp}(a:Kp H H1)(b:Kp H1 H2):Kp H H2:=⟨a.tups.trans b.tups,fun c o u h=>b.frzs c o u (a.frzs c o u h),fun h=>b.tab (a.tab h)⟩
theorem Kp.same {H H':Hp}(a:Tups H H')(b:∀b o u,H b=some (.frz o u)->H' b=some (.frz o u))(c:∀P ps,H P=some (.tbl ps)->H' P=some (.tbl ps)):Kp H H':=
 ⟨a,b,fun h p hp=>by
  obtain⟨ps,h1,_⟩:=id (h p hp)
  exact (h p hp).up ((c _ _ h1).trans h1.symm) b⟩
theorem FixL.kp {K:PySem.W.Frag}{H H':Hp}{a:Addr}{xs:List V}(h:FixL K H a xs)(k:Kp H H'):FixL K H' a xs:=h.elim (fun⟨o,e⟩=>.inl ⟨o,k.frzs _ _ _ e⟩) .inr
mutual
noncomputable def RV (K:PySem.W.Frag)(ι:List Addr)(H:Hp):D->V->Prop
 |.non,v=>v=.non
 |.bl b,v=>v=.bl b
 |.int i,v=>v=.int i
 |.str x,v=>v=.str x
 |.tup ds,v=>∃a xs,v=.ref a/\H a=some (.tup xs)/\RVs K ι H ds xs
 |.ref l,v=>∃a,ι[l]?=some a/\v=.ref a
 |.fix ds,v=>∃a xs,v=.ref a/\FixL K H a xs/\RVs K ι H ds xs
noncomputable def RVs (K:PySem.W.Frag)(ι:List Addr)(H:Hp):List D->List V->Prop
 | [],vs=>vs=[]
 |d::ds,vs=>∃v r,vs=v::r/\RV K ι H d v/\RVs K ι H ds r
end
noncomputable def kI (k:List Int):List Key:=k.map Sum.inl
noncomputable def RKs (K:PySem.W.Frag)(ι:List Addr)(H:Hp):List (List Int × D)->List (List Key × V)->Prop
 | [],ws=>ws=[]
 |(k,d)::r,ws=>∃v w,ws=(kI k,v)::w/\RV K ι H d v/\RKs K ι H r w
noncomputable def RIs (K:PySem.W.Frag)(ι:List Addr)(H:Hp):List (Int × D)->List (Key × V)->Prop
 | [],ws=>ws=[]
 |(k,d)::r,ws=>∃v w,ws=((Sum.inl k:Key),v)::w/\RV K ι H d v/\RIs K ι H r w
noncomputable def R3s (K:PySem.W.Frag)(ι:List Addr)(H:Hp):List (K3 × D)->List (K3 × Addr × V)->Prop
 | [],ws=>ws=[]
 |(k,d)::r,ws=>∃c v w,ws=(k,c,v)::w/\Key3 H k c/\RV K ι H d v/\R3s K ι H r w
noncomputable def RFs (K:PySem.W.Frag)(ι:List Addr)(H:Hp):List (Str × D)->List (Str × V)->Prop
 | [],ws=>ws=[]
 |(f,d)::r,ws=>∃v w,ws=(f,v)::w/\RV K ι H d v/\RFs K ι H r w
noncomputable def RO (K:PySem.W.Frag)(ι:List Addr)(H:Hp)(a:Addr):MO->Prop
 |.lst ds=>∃xs,H a=some (.lst xs)/\RVs K ι H ds xs
 |.dic kvs=>(kvs.map (·.1)).Nodup/\∃ws,H a=some (.dK ws)/\RIs K ι H kvs ws
 |.ins c fs=>∃C dx ws,Mks.cl[c]?=some C/\H a=some (.ins C dx ws)/\RFs K ι H fs ws
 |.dtp kvs=>(kvs.map (·.1)).Nodup/\∃ws,H a=some (.dT ws)/\RKs K ι H kvs ws
 |.d3 kvs=>(kvs.map (·.1)).Nodup/\∃ws,H a=some (.ext (TriO a ws))/\R3s K ι H kvs ws
structure RH (K:PySem.W.Frag) (ι:List Addr) (H:Hp) (S:St):Prop where
 len:ι.length=S.len
 nd:ι.Nodup
 obj:∀l o,S.get l=some o->∃a,ι[l]?=some a/\RO K ι H a o
 tab:TB H
structure Ext (ι:List Addr) (H:Hp) (ι':List Addr) (H':Hp):Prop where
 pre:ι <+: ι'
 kp:Kp H H'
 rest:∀a o,a∉ι->H a=some o->(H' a=some o\/((∃ps,o=.tbl ps)/\∃ps,H' a=some (.tbl ps)))/\a∉ι'
theorem Ext.refl (ι:List Addr)(H:Hp):Ext ι H ι H:=⟨List.prefix_refl _,Kp.refl H,fun a o h e=>⟨.inl e,h⟩⟩
theorem Ext.trans {ι ι1 ι2:List Addr}{H H1 H2:Hp}(a:Ext ι H ι1 H1)(b:Ext ι1 H1 ι2 H2):Ext ι H ι2 H2:=
 ⟨a.pre.trans b.pre,a.kp.trans b.kp,fun x o h e=>by
  obtain⟨e1,h1⟩:=a.rest x o h e
  rcases e1 with e1|⟨t,ps,e1⟩
  · exact b.rest x o h1 e1
  · obtain⟨e2,h2⟩:=b.rest x _ h1 e1
    refine⟨.inr ⟨t,?_⟩,h2⟩
    rcases e2 with e2|⟨_,e2⟩
    · exact⟨ps,e2⟩
    · exact e2⟩
theorem Ext.keep {ι ι1:List Addr}{H H1:Hp}(x:Ext ι H ι1 H1){a:Addr}{o:HO}(h:a∉ι)(e:H a=some o)(n:∀ps,o≠.tbl ps):H1 a=some o:=
 (x.rest a o h e).1.elim id fun⟨⟨ps,z⟩,_⟩=>absurd z (n ps)
theorem zb7 {ι ι':List Addr}(h:ι <+: ι'){l:Nat}{a:Addr}(e:ι[l]?=some a):ι'[l]?=some a:=by
 obtain⟨t,rfl⟩:=h
 rw[List.getElem?_append_left (List.getElem?_eq_some_iff.mp e).1]
 exact e
mutual
theorem RV.up {K:PySem.W.Frag}{ι ι':List Addr}{H H':Hp}(hp:ι <+: ι')(hk:Kp H H'):∀{d:D} {v:V},RV K ι H d v->RV K ι' H' d v
 |.non,_,r=>r
 |.bl _,_,r=>r
 |.int _,_,r=>r
 |.str _,_,r=>r
 | .tup ds, _, r => by
   obtain⟨a,xs,e,ha,q⟩:=r
   exact⟨a,xs,e,hk.tups _ _ ha,RVs.up hp hk q⟩
 | .ref l, _, r => by
   obtain⟨a,e,q⟩:=r
   exact⟨a,zb7 hp e,q⟩
 | .fix ds, _, r => by
   obtain⟨a,xs,e,ha,q⟩:=r
   exact⟨a,xs,e,ha.kp hk,RVs.up hp hk q⟩
theorem RVs.up {K:PySem.W.Frag}{ι ι':List Addr}{H H':Hp}(hp:ι <+: ι')(hk:Kp H H'):∀{ds:List D} {vs:List V},RVs K ι H ds vs->RVs K ι' H' ds vs
 | [],_,r=>r
 | d :: ds, vs, r => by
   obtain⟨v,w,e,r1,r2⟩:=r
   exact⟨v,w,e,RV.up hp hk r1,RVs.up hp hk r2⟩
end
theorem RKs.up {K:PySem.W.Frag}{ι ι':List Addr}{H H':Hp}(hp:ι <+: ι')(hk:Kp H H'):∀{kvs:List (List Int × D)} {ws:List (List Key × V)},RKs K ι H kvs ws->RKs K ι' H' kvs ws
 | [],_,r=>r
 | (k, d) :: kvs, ws, r => by
   obtain⟨v,w,e,r1,r2⟩:=r
   exact⟨v,w,e,RV.up hp hk r1,RKs.up hp hk r2⟩
theorem RIs.up {K:PySem.W.Frag}{ι ι':List Addr}{H H':Hp}(hp:ι <+: ι')(hk:Kp H H'):∀{kvs:List (Int × D)} {ws:List (Key × V)},RIs K ι H kvs ws->RIs K ι' H' kvs ws
 | [],_,r=>r
 | (k, d) :: kvs, ws, r => by
   obtain⟨v,w,e,r1,r2⟩:=r
   exact⟨v,w,e,RV.up hp hk r1,RIs.up hp hk r2⟩
theorem R3s.up {K:PySem.W.Frag}{ι ι':List Addr}{H H':Hp}(hp:ι <+: ι')(hk:Kp H H'):∀{kvs:List (K3 × D)} {ws:List (K3 × Addr × V)},R3s K ι H kvs ws->R3s K ι' H' kvs ws
 | [],_,r=>r
 | (k, d) :: kvs, ws, r => by
   obtain⟨c,v,w,e,r0,r1,r2⟩:=r
   exact⟨c,v,w,e,r0.up hk.tups,RV.up hp hk r1,R3s.up hp hk r2⟩
theorem R3s.length {K:PySem.W.Frag}{ι:List Addr}{H:Hp}:∀{kvs:List (K3 × D)} {ws:List (K3 × Addr × V)},R3s K ι H kvs ws->ws.length=kvs.length
 | [],_,r=>by rw[show _=[] from r];rfl
 | (k, d) :: kvs, ws, r => by
   obtain⟨c,v,w,rfl,_,_,r2⟩:=r
   simp[R3s.length r2]
theorem R3s.keys {K:PySem.W.Frag}{ι:List Addr}{H:Hp}:∀{kvs:List (K3 × D)} {ws:List (K3 × Addr × V)},R3s K ι H kvs ws->ws.map (·.1)=kvs.map (·.1)
 | [],_,r=>by rw[show _=[] from r];rfl
 | (k, d) :: kvs, ws, r => by
   obtain⟨c,v,w,rfl,_,_,r2⟩:=r
   simp[R3s.keys r2]
theorem R3s.triK {K:PySem.W.Frag}{ι:List Addr}{H:Hp}:∀{kvs:List (K3 × D)} {ws:List (K3 × Addr × V)},R3s K ι H kvs ws->TriK H ws
 | [],_,r=>by rw[show _=[] from r];intro x hx;cases hx
 | (k, d) :: kvs, ws, r => by
   obtain⟨c,v,w,rfl,r0,_,r2⟩:=r
   intro x hx
   rcases List.mem_cons.mp hx with e|e
   · subst e;exact r0
   · exact R3s.triK r2 x e
theorem R3s.put {K:PySem.W.Frag}{ι:List Addr}{H:Hp}{k:K3}{c:Addr}{d:D}{v:V}(q:RV K ι H d v)(hc:Key3 H k c){kvs:List (K3 × D)}{ws:List (K3 × Addr × V)}(r:R3s K ι H kvs ws):R3s K ι H (zfi kvs k d) (put3 ws k c v):=by
 unfold zfi put3
 rw[r.keys]
 split
 · rename_i hm;clear hm
   induction kvs generalizing ws with
   |nil=>rw[show ws=[] from r];rfl
   | cons x kvs ih =>
     obtain⟨j,e⟩:=x
     obtain⟨c',u,w,rfl,r0,r1,r2⟩:=r
     rw[List.map_cons,List.map_cons]
     by_cases z:j=k
     · rw[if_pos z,if_pos z]
       exact⟨c',v,_,rfl,r0,q,ih r2⟩
     · rw[if_neg z,if_neg z]
       exact⟨c',u,_,rfl,r0,r1,ih r2⟩
 · rename_i hm;clear hm
   induction kvs generalizing ws with
   |nil=>rw[show ws=[] from r];exact⟨c,v,[],rfl,hc,q,rfl⟩
   | cons x kvs ih =>
     obtain⟨j,e⟩:=x
     obtain⟨c',u,w,rfl,r0,r1,r2⟩:=r
     exact⟨c',u,_,rfl,r0,r1,ih r2⟩
theorem zfh {k:K3}{d:D}{kvs:List (K3 × D)}(h:(kvs.map (·.1)).Nodup):((zfi kvs k d).map (·.1)).Nodup:=by
 unfold zfi
 split
 · rw[List.map_map,show ((fun x:K3 × D=>x.1)∘fun x=>if x.1=k then (x.1,d) else x)=fun x=>x.1 from by funext x;show (if x.1=k then (x.1,d) else x).1=x.1;split<;>rfl]
   exact h
 · rename_i n
   rw[List.map_append,List.nodup_append]
   refine⟨h,by simp,fun a ha b hb=>?_⟩
   simp only[List.map_cons,List.map_nil,List.mem_singleton] at hb
   subst hb
   exact fun z=>n (z▸ha)
theorem RFs.up {K:PySem.W.Frag}{ι ι':List Addr}{H H':Hp}(hp:ι <+: ι')(hk:Kp H H'):∀{fs:List (Str × D)} {ws:List (Str × V)},RFs K ι H fs ws->RFs K ι' H' fs ws
 | [],_,h=>h
 | (f, d) :: r, _, h => by
   obtain⟨v,w,e,r1,r2⟩:=h
   exact⟨v,w,e,RV.up hp hk r1,RFs.up hp hk r2⟩
theorem RFs.length {K:PySem.W.Frag}{ι:List Addr}{H:Hp}:∀{fs:List (Str × D)} {ws:List (Str × V)},RFs K ι H fs ws->ws.length=fs.length
 | [],_,h=>by cases (show _=[] from h);rfl
 | (f, d) :: r, _, h => by
   obtain⟨v,w,rfl,r1,r2⟩:=h
   simp[RFs.length r2]
theorem RFs.look {K:PySem.W.Frag}{ι:List Addr}{H:Hp}(f:Str):∀{fs:List (Str × D)} {ws:List (Str × V)},RFs K ι H fs ws->(fs.lookup f=none/\ws.lookup f=none)\/∃d v,fs.lookup f=some d/\ws.lookup f=some v/\RV K ι H d v
 | [],_,h=>by cases (show _=[] from h);exact .inl ⟨rfl,rfl⟩
 | (g, d) :: r, _, h => by
   obtain⟨v,w,rfl,r1,r2⟩:=h
   by_cases c:(f == g)=true
   · exact .inr ⟨d,v,by simp only[List.lookup,c],by simp only[List.lookup,c],r1⟩
   · have c:(f == g)=false:=by simpa using c
     simp only[List.lookup,c]
     exact RFs.look f r2
theorem RFs.put {K:PySem.W.Frag}{ι:List Addr}{H:Hp}(f:Str){d:D}{v:V}(q:RV K ι H d v):∀{fs:List (Str × D)} {ws:List (Str × V)},RFs K ι H fs ws->RFs K ι H (ziP f d fs) (putF f v ws)
 | [],_,h=>by cases (show _=[] from h);exact⟨v,[],rfl,q,rfl⟩
 | (g, x) :: r, _, h => by
   obtain⟨u,w,rfl,r1,r2⟩:=h
   unfold ziP putF
   by_cases c:g=f
   · rw[if_pos c,if_pos c];exact⟨v,w,rfl,q,r2⟩
   · rw[if_neg c,if_neg c];exact⟨u,_,rfl,r1,RFs.put f q r2⟩
theorem zhF {j k:List Int}(h:kI j=kI k):j=k:=by
 unfold kI at h
 exact (List.map_inj_right (fun a b e=>Sum.inl.inj e)).mp h
theorem RKs.length {K:PySem.W.Frag}{ι:List Addr}{H:Hp}:∀{kvs:List (List Int × D)} {ws:List (List Key × V)},RKs K ι H kvs ws->ws.length=kvs.length
 | [],_,r=>by rw[show _=[] from r];rfl
 | (k, d) :: kvs, ws, r => by
   obtain⟨v,w,rfl,_,r2⟩:=r
   simp[RKs.length r2]
theorem RIs.length {K:PySem.W.Frag}{ι:List Addr}{H:Hp}:∀{kvs:List (Int × D)} {ws:List (Key × V)},RIs K ι H kvs ws->ws.length=kvs.length
 | [],_,r=>by rw[show _=[] from r];rfl
 | (k, d) :: kvs, ws, r => by
   obtain⟨v,w,rfl,_,r2⟩:=r
   simp[RIs.length r2]
theorem RKs.val {K:PySem.W.Frag}{ι:List Addr}{H:Hp}(k:List Int):∀{kvs:List (List Int × D)} {ws:List (List Key × V)},RKs K ι H kvs ws->(valP kvs k=none/\valV ws (kI k)=none)\/∃d v,valP kvs k=some d/\valV ws (kI k)=some v/\RV K ι H d v
 | [],_,r=>by rw[show _=[] from r];exact .inl ⟨rfl,rfl⟩
 | (j, d) :: kvs, ws, r => by
   obtain⟨v,w,rfl,r1,r2⟩:=r
   by_cases e:j=k
   · subst e
     exact .inr ⟨d,v,by simp[valP],by simp[valV],r1⟩
   · have e':¬kI j=kI k:=fun z=>e (zhF z)
     have h1:valP ((j,d)::kvs) k=valP kvs k:=by simp[valP,e]
     have h2:valV ((kI j,v)::w) (kI k)=valV w (kI k):=by simp[valV,e']
     rw[h1,h2]
     exact RKs.val k r2
theorem zey {κ:Type}[DecidableEq κ]{x:κ × V}{r:List (κ × V)}{k:κ}{v:V}(h:x.1≠k):putK (x::r) k v=x::putK r k v:=by
 unfold putK
 have:decide (x.1=k)=false:=decide_eq_false h
 simp only[List.any_cons,this,Bool.false_or]
 split
 · rw[List.map_cons,if_neg h]
 · rfl
theorem RKs.keys {K:PySem.W.Frag}{ι:List Addr}{H:Hp}:∀{kvs:List (List Int × D)} {ws:List (List Key × V)},RKs K ι H kvs ws->ws.map (·.1)=kvs.map (fun p=>kI p.1)
 | [],_,r=>by rw[show _=[] from r];rfl
 | (k, d) :: kvs, ws, r => by
   obtain⟨v,w,rfl,_,r2⟩:=r
   simp[RKs.keys r2]
theorem RIs.keys {K:PySem.W.Frag}{ι:List Addr}{H:Hp}:∀{kvs:List (Int × D)} {ws:List (Key × V)},RIs K ι H kvs ws->ws.map (·.1)=kvs.map (fun p=>(Sum.inl p.1:Key))
 | [],_,r=>by rw[show _=[] from r];rfl
 | (k, d) :: kvs, ws, r => by
   obtain⟨v,w,rfl,_,r2⟩:=r
   simp[RIs.keys r2]
theorem RKs.put {K:PySem.W.Frag}{ι:List Addr}{H:Hp}(k:List Int){d:D}{v:V}(q:RV K ι H d v):∀{kvs:List (List Int × D)} {ws:List (List Key × V)},(kvs.map (·.1)).Nodup->RKs K ι H kvs ws->RKs K ι H (putP kvs k d) (putK ws (kI k) v)
 | [],_,_,r=>by rw[show _=[] from r];exact⟨v,[],rfl,q,rfl⟩
 | (j, e) :: kvs, ws, nd, r => by
   obtain⟨u,w,rfl,r1,r2⟩:=r
   simp only[List.map_cons,List.nodup_cons] at nd
   by_cases z:j=k
   · subst z
     have h1:putP ((j,e)::kvs) j d=(j,d)::kvs:=by simp[putP]
     have h2:putK ((kI j,u)::w) (kI j) v=(kI j,v)::w:=by
      unfold putK
      have:(((kI j,u)::w).any fun kv=>decide (kv.1=kI j))=true:=by simp
      rw[if_pos this,List.map_cons,if_pos rfl,List.map_congr_left (g:=id),List.map_id]
      intro kv hkv
      have hm:kv.1∈w.map (·.1):=List.mem_map.mpr ⟨kv,hkv,rfl⟩
      rw[r2.keys] at hm
      obtain⟨p,hp,ep⟩:=List.mem_map.mp hm
      have:kv.1≠kI j:=fun y=>nd.1 (by
       rw[<-ep] at y
       rw[<-zhF y]
       exact List.mem_map.mpr ⟨p,hp,rfl⟩)
      simp[this]
     rw[h1,h2]
     exact⟨v,w,rfl,q,r2⟩
   · have h1:putP ((j,e)::kvs) k d=(j,e)::putP kvs k d:=by simp[putP,z]
     have h2:putK ((kI j,u)::w) (kI k) v=(kI j,u)::putK w (kI k) v:=zey fun y=>z (zhF y)
     rw[h1,h2]
     exact⟨u,_,rfl,r1,RKs.put k q nd.2 r2⟩
theorem RIs.put {K:PySem.W.Frag}{ι:List Addr}{H:Hp}(k:Int){d:D}{v:V}(q:RV K ι H d v):∀{kvs:List (Int × D)} {ws:List (Key × V)},(kvs.map (·.1)).Nodup->RIs K ι H kvs ws->RIs K ι H (putI kvs k d) (putK ws (Sum.inl k:Key) v)
 | [],_,_,r=>by rw[show _=[] from r];exact⟨v,[],rfl,q,rfl⟩
 | (j, e) :: kvs, ws, nd, r => by
   obtain⟨u,w,rfl,r1,r2⟩:=r
   simp only[List.map_cons,List.nodup_cons] at nd
   by_cases z:j=k
   · subst z
     have h1:putI ((j,e)::kvs) j d=(j,d)::kvs:=by simp[putI]
     have h2:putK (((Sum.inl j:Key),u)::w) (Sum.inl j:Key) v=((Sum.inl j:Key),v)::w:=by
      unfold putK
      have:((((Sum.inl j:Key),u)::w).any fun kv=>decide (kv.1=(Sum.inl j:Key)))=true:=by simp
      rw[if_pos this,List.map_cons,if_pos rfl,List.map_congr_left (g:=id),List.map_id]
      intro kv hkv
      have hm:kv.1∈w.map (·.1):=List.mem_map.mpr ⟨kv,hkv,rfl⟩
      rw[r2.keys] at hm
      obtain⟨p,hp,ep⟩:=List.mem_map.mp hm
      have:kv.1≠(Sum.inl j:Key):=fun y=>nd.1 (by
       rw[<-ep] at y
       rw[<-Sum.inl.inj y]
       exact List.mem_map.mpr ⟨p,hp,rfl⟩)
      simp[this]
     rw[h1,h2]
     exact⟨v,w,rfl,q,r2⟩
   · have h1:putI ((j,e)::kvs) k d=(j,e)::putI kvs k d:=by simp[putI,z]
     have h2:putK (((Sum.inl j:Key),u)::w) (Sum.inl k:Key) v=((Sum.inl j:Key),u)::putK w (Sum.inl k:Key) v:=zey fun y=>z (Sum.inl.inj y)
     rw[h1,h2]
     exact⟨u,_,rfl,r1,RIs.put k q nd.2 r2⟩
theorem zex (k:List Int)(d:D):∀kvs:List (List Int × D),(putP kvs k d).map (·.1)=if k∈kvs.map (·.1) then kvs.map (·.1) else kvs.map (·.1)++[k]
 | []=>by simp[putP]
 | (j, e) :: r => by
   unfold putP
   by_cases z:j=k
   · subst z;simp
   · have ih:=zex k d r
     rw[if_neg z]
     simp only[List.map_cons,List.mem_cons,ih]
     by_cases h:k∈r.map (·.1)
     · rw[if_pos h,if_pos (.inr h)]
     · rw[if_neg h,if_neg (by rintro (y|y);exact z y.symm;exact h y)];rfl
theorem zgq {k:List Int}{d:D}{kvs:List (List Int × D)}(h:(kvs.map (·.1)).Nodup):((putP kvs k d).map (·.1)).Nodup:=by
 rw[zex]
 split
 · exact h
 · rename_i n
   rw[List.nodup_append]
   refine⟨h,by simp,fun a ha b hb=>?_⟩
   rw[List.mem_singleton] at hb
   subst hb
   exact fun z=>n (z▸ha)
theorem zez (k:Int)(d:D):∀kvs:List (Int × D),(putI kvs k d).map (·.1)=if k∈kvs.map (·.1) then kvs.map (·.1) else kvs.map (·.1)++[k]
 | []=>by simp[putI]
 | (j, e) :: r => by
   unfold putI
   by_cases z:j=k
   · subst z;simp
   · have ih:=zez k d r
     rw[if_neg z]
     simp only[List.map_cons,List.mem_cons,ih]
     by_cases h:k∈r.map (·.1)
     · rw[if_pos h,if_pos (.inr h)]
     · rw[if_neg h,if_neg (by rintro (y|y);exact z y.symm;exact h y)];rfl
theorem zgr {k:Int}{d:D}{kvs:List (Int × D)}(h:(kvs.map (·.1)).Nodup):((putI kvs k d).map (·.1)).Nodup:=by
 rw[zez]
 split
 · exact h
 · rename_i n
   rw[List.nodup_append]
   refine⟨h,by simp,fun a ha b hb=>?_⟩
   rw[List.mem_singleton] at hb
   subst hb
   exact fun z=>n (z▸ha)
theorem RV.ext {K:PySem.W.Frag}{ι ι':List Addr}{H H':Hp}(h:Ext ι H ι' H'){d:D}{v:V}(r:RV K ι H d v):RV K ι' H' d v:=r.up h.pre h.kp
theorem RVs.ext {K:PySem.W.Frag}{ι ι':List Addr}{H H':Hp}(h:Ext ι H ι' H'){ds:List D}{vs:List V}(r:RVs K ι H ds vs):RVs K ι' H' ds vs:=r.up h.pre h.kp
theorem RVs.length {K:PySem.W.Frag}{ι:List Addr}{H:Hp}:∀{ds:List D} {vs:List V},RVs K ι H ds vs->vs.length=ds.length
 | [],_,r=>by rw[show _=[] from r];rfl
 | d :: ds, vs, r => by
   obtain⟨v,w,rfl,_,r2⟩:=r
   simp[RVs.length r2]
theorem RVs.get {K:PySem.W.Frag}{ι:List Addr}{H:Hp}:∀{ds:List D} {vs:List V} {i:Nat} {d:D},RVs K ι H ds vs->ds[i]?=some d->∃v,vs[i]?=some v/\RV K ι H d v
 | [],_,_,_,_,e=>by simp at e
 | d :: ds, vs, 0, d', r, e => by
   obtain⟨v,w,rfl,r1,_⟩:=r
   simp at e;subst e
   exact⟨v,rfl,r1⟩
 | d :: ds, vs, i + 1, d', r, e => by
   obtain⟨v,w,rfl,_,r2⟩:=r
   obtain⟨u,e1,e2⟩:=RVs.get (i:=i) (d:=d') r2 (by simpa using e)
   exact⟨u,by simpa using e1,e2⟩
theorem RVs.get' {ι:List Addr}{H:Hp}{ds:List D}{vs:List V}{i:Nat}{v:V}(r:RVs K ι H ds vs)(e:vs[i]?=some v):∃d,ds[i]?=some d/\RV K ι H d v:=by
 have hi:i<ds.length:=by rw[<-r.length];exact (List.getElem?_eq_some_iff.mp e).1
 obtain⟨u,e1,e2⟩:=r.get (List.getElem?_eq_getElem hi)
 rw[e] at e1;cases e1
 exact⟨_,List.getElem?_eq_getElem hi,e2⟩
theorem RVs.append {K:PySem.W.Frag}{ι:List Addr}{H:Hp}:∀{ds es:List D} {vs us:List V},RVs K ι H ds vs->RVs K ι H es us->RVs K ι H (ds++es) (vs++us)
 | [],_,_,_,r,q=>by rw[show _=[] from r];exact q
 | d :: ds, es, vs, us, r, q => by
   obtain⟨v,w,rfl,r1,r2⟩:=r
   exact⟨v,w++us,rfl,r1,RVs.append r2 q⟩
theorem RVs.take {K:PySem.W.Frag}{ι:List Addr}{H:Hp}:∀{ds:List D} {vs:List V} (n:Nat),RVs K ι H ds vs->RVs K ι H (ds.take n) (vs.take n)
 |_,_,0,_=>rfl
 | [],_,n+1,r=>by rw[show _=[] from r];rfl
 | d :: ds, vs, n + 1, r => by
   obtain⟨v,w,rfl,r1,r2⟩:=r
   exact⟨v,w.take n,rfl,r1,RVs.take n r2⟩
theorem RVs.drop {K:PySem.W.Frag}{ι:List Addr}{H:Hp}:∀{ds:List D} {vs:List V} (n:Nat),RVs K ι H ds vs->RVs K ι H (ds.drop n) (vs.drop n)
 |_,_,0,r=>r
 | [],_,n+1,r=>by rw[show _=[] from r];rfl
 | d :: ds, vs, n + 1, r => by
   obtain⟨v,w,rfl,r1,r2⟩:=r
   exact RVs.drop n r2
theorem RVs.erase {K:PySem.W.Frag}{ι:List Addr}{H:Hp}{ds:List D}{vs:List V}(n:Nat)(r:RVs K ι H ds vs):RVs K ι H (ds.eraseIdx n) (vs.eraseIdx n):=by
 rw[List.eraseIdx_eq_take_drop_succ,List.eraseIdx_eq_take_drop_succ]
 exact (r.take n).append (r.drop (n+1))
theorem RVs.ints {K:PySem.W.Frag}{ι:List Addr}{H:Hp}:∀ns:List Int,RVs K ι H (ns.map D.int) (ns.map V.int)
 | []=>rfl
 |n::ns=>⟨_,_,rfl,rfl,RVs.ints ns⟩
theorem RVs.ints_eq {K:PySem.W.Frag}{ι:List Addr}{H:Hp}:∀{ns:List Int} {vs:List V},RVs K ι H (ns.map D.int) vs->vs=ns.map V.int
 | [],_,h=>h
 | n :: ns, vs, h => by
   obtain⟨v,r,rfl,h1,h2⟩:=h
   rw[RVs.ints_eq h2,show v=.int n from h1];rfl
theorem zcf:∀{ds:List D} {ns:List Int},zbG ds=some ns->ds=ns.map D.int:=by
 intro ds
 unfold zbG
 induction ds with
 |nil=>intro ns h;simp at h;subst h;rfl
 | cons d ds ih =>
   intro ns h
   rw[List.mapM_cons] at h
   cases d with
   | int i =>
     cases e:List.mapM zd2 ds with
     |none=>rw[e] at h;simp[zd2] at h
     |some ms=>rw[e] at h;simp[zd2] at h;subst h;simp[ih e]
   |_=>simp[zd2] at h
mutual
theorem RV.flat {K:PySem.W.Frag}{ι:List Addr}{H:Hp}:∀{d:D} {v:V},RV K ι H d v->R.flat ι.length d=true
 |.non,_,_=>by simp[R.flat]
 |.bl _,_,_=>by simp[R.flat]
 |.int _,_,_=>by simp[R.flat]
 |.str _,_,_=>by simp[R.flat]
 | .tup ds, _, r => by
   obtain⟨a,xs,e,ha,q⟩:=r
   simp only[R.flat]
   exact RVs.flats q
 | .ref l, _, r => by
   obtain⟨a,e,q⟩:=r
   simp only[R.flat,decide_eq_true_eq]
   exact (List.getElem?_eq_some_iff.mp e).1
 | .fix ds, _, r => by
   obtain⟨a,xs,e,ha,q⟩:=r
   simp only[R.flat]
   exact RVs.flats q
theorem RVs.flats {K:PySem.W.Frag}{ι:List Addr}{H:Hp}:∀{ds:List D} {vs:List V},RVs K ι H ds vs->R.flats ι.length ds=true
 | [],_,_=>by simp[R.flats]
 | d :: ds, vs, r => by
   obtain⟨v,w,e,r1,r2⟩:=r
   simp only[R.flats,Bool.and_eq_true]
   exact⟨RV.flat r1,RVs.flats r2⟩
end
mutual
theorem RV.restrict {K:PySem.W.Frag}{ι ι':List Addr}{H:Hp}(hp:ι <+: ι'):∀{d:D} {v:V},R.flat ι.length d=true->RV K ι' H d v->RV K ι H d v
 |.non,_,_,r=>r
 |.bl _,_,_,r=>r
 |.int _,_,_,r=>r
 |.str _,_,_,r=>r
 | .tup ds, _, f, r => by
   obtain⟨a,xs,e,ha,q⟩:=r
   simp only[R.flat] at f
   exact⟨a,xs,e,ha,RVs.restrict hp f q⟩
 | .ref l, _, f, r => by
   obtain⟨a,e,q⟩:=r
   simp only[R.flat,decide_eq_true_eq] at f
   refine⟨a,?_,q⟩
   obtain⟨t,rfl⟩:=hp
   rw[List.getElem?_append_left f] at e
   exact e
 | .fix ds, _, f, r => by
   obtain⟨a,xs,e,ha,q⟩:=r
   simp only[R.flat] at f
   exact⟨a,xs,e,ha,RVs.restrict hp f q⟩
theorem RVs.restrict {K:PySem.W.Frag}{ι ι':List Addr}{H:Hp}(hp:ι <+: ι'):∀{ds:List D} {vs:List V},R.flats ι.length ds=true->RVs K ι' H ds vs->RVs K ι H ds vs
 | [],_,_,r=>r
 | d :: ds, vs, f, r => by
   obtain⟨v,w,e,r1,r2⟩:=r
   simp only[R.flats,Bool.and_eq_true] at f
   exact⟨v,w,e,RV.restrict hp f.1 r1,RVs.restrict hp f.2 r2⟩
end
theorem RKs.flats {K:PySem.W.Frag}{ι:List Addr}{H:Hp}:∀{kvs:List (List Int × D)} {ws:List (List Key × V)},RKs K ι H kvs ws->R.flats ι.length (kvs.map (·.2))=true
 | [],_,_=>by simp[R.flats]
 | (k, d) :: kvs, ws, r => by
   obtain⟨v,w,e,r1,r2⟩:=r
   simp only[List.map_cons,R.flats,Bool.and_eq_true]
   exact⟨RV.flat r1,RKs.flats r2⟩
theorem RKs.restrict {K:PySem.W.Frag}{ι ι':List Addr}{H:Hp}(hp:ι <+: ι'):∀{kvs:List (List Int × D)} {ws:List (List Key × V)},R.flats ι.length (kvs.map (·.2))=true->RKs K ι' H kvs ws->RKs K ι H kvs ws
 | [],_,_,r=>r
 | (k, d) :: kvs, ws, f, r => by
   obtain⟨v,w,e,r1,r2⟩:=r
   simp only[List.map_cons,R.flats,Bool.and_eq_true] at f
   exact⟨v,w,e,RV.restrict hp f.1 r1,RKs.restrict hp f.2 r2⟩
theorem RIs.flats {K:PySem.W.Frag}{ι:List Addr}{H:Hp}:∀{kvs:List (Int × D)} {ws:List (Key × V)},RIs K ι H kvs ws->R.flats ι.length (kvs.map (·.2))=true
 | [],_,_=>by simp[R.flats]
 | (k, d) :: kvs, ws, r => by
   obtain⟨v,w,e,r1,r2⟩:=r
   simp only[List.map_cons,R.flats,Bool.and_eq_true]
   exact⟨RV.flat r1,RIs.flats r2⟩
theorem RIs.restrict {K:PySem.W.Frag}{ι ι':List Addr}{H:Hp}(hp:ι <+: ι'):∀{kvs:List (Int × D)} {ws:List (Key × V)},R.flats ι.length (kvs.map (·.2))=true->RIs K ι' H kvs ws->RIs K ι H kvs ws
 | [],_,_,r=>r
 | (k, d) :: kvs, ws, f, r => by
   obtain⟨v,w,e,r1,r2⟩:=r
   simp only[List.map_cons,R.flats,Bool.and_eq_true] at f
   exact⟨v,w,e,RV.restrict hp f.1 r1,RIs.restrict hp f.2 r2⟩
theorem R3s.flats {K:PySem.W.Frag}{ι:List Addr}{H:Hp}:∀{kvs:List (K3 × D)} {ws:List (K3 × Addr × V)},R3s K ι H kvs ws->R.flats ι.length (kvs.map (·.2))=true
 | [],_,_=>by simp[R.flats]
 | (k, d) :: kvs, ws, r => by
   obtain⟨c,v,w,e,_,r1,r2⟩:=r
   simp only[List.map_cons,R.flats,Bool.and_eq_true]
   exact⟨RV.flat r1,R3s.flats r2⟩
theorem R3s.restrict {K:PySem.W.Frag}{ι ι':List Addr}{H:Hp}(hp:ι <+: ι'):∀{kvs:List (K3 × D)} {ws:List (K3 × Addr × V)},R.flats ι.length (kvs.map (·.2))=true->R3s K ι' H kvs ws->R3s K ι H kvs ws
 | [],_,_,r=>r
 | (k, d) :: kvs, ws, f, r => by
   obtain⟨c,v,w,e,r0,r1,r2⟩:=r
   simp only[List.map_cons,R.flats,Bool.and_eq_true] at f
   exact⟨c,v,w,e,r0,RV.restrict hp f.1 r1,R3s.restrict hp f.2 r2⟩
theorem RFs.flats {K:PySem.W.Frag}{ι:List Addr}{H:Hp}:∀{fs:List (Str × D)} {ws:List (Str × V)},RFs K ι H fs ws->R.flats ι.length (fs.map (·.2))=true
 | [],_,_=>by simp
 | (f, d) :: r, _, h => by
   obtain⟨v,w,_,r1,r2⟩:=h
   simp only[List.map_cons,zdC,Bool.and_eq_true]
   exact⟨RV.flat r1,RFs.flats r2⟩
theorem RFs.restrict {K:PySem.W.Frag}{ι ι':List Addr}{H:Hp}(hp:ι <+: ι'):∀{fs:List (Str × D)} {ws:List (Str × V)},R.flats ι.length (fs.map (·.2))=true->RFs K ι' H fs ws->RFs K ι H fs ws
 | [],_,_,h=>h
 | (f, d) :: r, _, f0, h => by
   obtain⟨v,w,e,r1,r2⟩:=h
   simp only[List.map_cons,zdC,Bool.and_eq_true] at f0
   exact⟨v,w,e,RV.restrict hp f0.1 r1,RFs.restrict hp f0.2 r2⟩
theorem RO.up {K:PySem.W.Frag}{ι ι':List Addr}{H H':Hp}{a:Addr}{o:MO}(h:RO K ι H a o)(hp:ι <+: ι')(hk:Kp H H')(e:H' a=H a):RO K ι' H' a o:=by
 cases o with
 |lst ds=>obtain⟨xs,h1,h2⟩:=h;exact⟨xs,e.trans h1,h2.up hp hk⟩
 |dic kvs=>obtain⟨h0,ws,h1,h2⟩:=h;exact⟨h0,ws,e.trans h1,h2.up hp hk⟩
 |ins c fs=>obtain⟨C,dx,ws,h0,h1,h2⟩:=h;exact⟨C,dx,ws,h0,e.trans h1,h2.up hp hk⟩
 |dtp kvs=>obtain⟨h0,ws,h1,h2⟩:=h;exact⟨h0,ws,e.trans h1,h2.up hp hk⟩
 |d3 kvs=>obtain⟨h0,ws,h1,h2⟩:=h;exact⟨h0,ws,e.trans h1,h2.up hp hk⟩
theorem RO.stay {K:PySem.W.Frag}{ι ι':List Addr}{H H':Hp}{a:Addr}{o:MO}(h:RO K ι H a o)(x:Ext ι H ι' H')(e:H' a=H a):RO K ι' H' a o:=h.up x.pre x.kp e
section
variable {K:PySem.W.Frag} {ι ι':List Addr} {H H':Hp} {S S' T:St} {l:Nat} {a p:Addr}
theorem RH.mem (h:RH K ι H S){o:MO}(e:S.get l=some o):∃a,ι[l]?=some a/\RO K ι H a o/\a∈ι:=by
 obtain⟨a,h1,h2⟩:=h.obj l o e
 exact⟨a,h1,h2,List.mem_of_getElem? h1⟩
theorem zjq (h:l<S.len):∃o,S.get l=some o:=by
 unfold St.len at h
 unfold St.get
 split
 · rename_i c;exact⟨_,List.getElem?_eq_getElem c⟩
 · exact⟨_,List.getElem?_eq_getElem (by omega)⟩
theorem RH.off (h:RH K ι H S)(x:Ext ι H ι H')(e:∀a∈ι,H' a=H a):RH K ι H' S:=
 ⟨h.len,h.nd,fun l o q=>let ⟨a,h1,h2,hm⟩:=h.mem q;⟨a,h1,h2.stay x (e a hm)⟩,x.kp.tab h.tab⟩
theorem RH.live (h:RH K ι H S)(ha:a∈ι):∃o,H a=some o/\(∀xs,o≠.tup xs)/\(∀z u,o≠.frz z u)/\∀ps,o≠.tbl ps:=by
 obtain⟨l,hl⟩:=List.mem_iff_getElem?.mp ha
 have hlt:l<S.len:=by rw[<-h.len];exact (List.getElem?_eq_some_iff.mp hl).1
 obtain⟨o,e⟩:=zjq hlt
 obtain⟨b,h1,h2⟩:=h.obj l o e
 rw[hl] at h1;cases h1
 cases o with
 |lst ds=>obtain⟨xs,q,_⟩:=h2;exact⟨_,q,⟨fun _ z=>(by cases z),fun _ _ z=>(by cases z),fun _ z=>(by cases z)⟩⟩
 |dic kvs=>obtain⟨_,ws,q,_⟩:=h2;exact⟨_,q,⟨fun _ z=>(by cases z),fun _ _ z=>(by cases z),fun _ z=>(by cases z)⟩⟩
 |ins c fs=>obtain⟨C,dx,ws,_,q,_⟩:=h2;exact⟨_,q,⟨fun _ z=>(by cases z),fun _ _ z=>(by cases z),fun _ z=>(by cases z)⟩⟩
 |dtp kvs=>obtain⟨_,ws,q,_⟩:=h2;exact⟨_,q,⟨fun _ z=>(by cases z),fun _ _ z=>(by cases z),fun _ z=>(by cases z)⟩⟩
 |d3 kvs=>obtain⟨_,ws,q,_⟩:=h2;exact⟨_,q,⟨fun _ z=>(by cases z),fun _ _ z=>(by cases z),fun _ z=>(by cases z)⟩⟩
theorem RH.fresh (h:RH K ι H S)(hp:H p=Option.none):p∉ι:=fun hm=>by
 obtain⟨o,e,_⟩:=h.live hm
 rw[hp] at e;cases e
theorem RH.notup (h:RH K ι H S){xs:List V}(hp:H p=some (.tup xs)):p∉ι:=fun hm=>by
 obtain⟨o,e,q,_⟩:=h.live hm
 rw[hp] at e;cases e;exact q _ rfl
theorem Kp.new (hp:H p=Option.none)(o:HO):Kp H (upd H p o):=
 .same (Tups.upd_new hp) (fun b z u e=>by rw[zam (zaJ e hp)];exact e) fun b ps e=>by rw[zam (zaJ e hp)];exact e
theorem Ext.new (hp:H p=Option.none)(o:HO):Ext ι H ι (upd H p o):=
 ⟨List.prefix_refl _,Kp.new hp o,fun a u h e=>⟨.inl (by rw[zam (zaJ e hp)];exact e),h⟩⟩
theorem RH.new (h:RH K ι H S)(hp:H p=Option.none)(o:HO):RH K ι (upd H p o) S:=
 h.off (Ext.new hp o) fun a ha=>zam fun e=>h.fresh hp (e▸ha)
theorem zf4 (S:St)(o:MO):(S.push o).get S.len=some o:=by
 have h:¬S.len<S.frz.length:=by unfold St.len;omega
 unfold St.get St.push
 simp only[h,if_false]
 unfold St.len
 simp
theorem zc4 {o:MO}(h:l<S.len):(S.push o).get l=S.get l:=by
 unfold St.len at h
 unfold St.get St.push
 simp only
 split
 · rfl
 · rw[List.getElem?_append_left (by omega)]
theorem zcv (S:St)(o:MO):(S.push o).len=S.len+1:=by simp[St.push,St.len];omega
theorem Ext.obj (h:RH K ι H S)(hp:H p=Option.none)(u:HO):Ext ι H (ι++[p]) (upd H p u):=
 ⟨List.prefix_append _ _,Kp.new hp u,fun a o ha e=>⟨.inl (by rw[zam (zaJ e hp)];exact e),by
  intro z
  rcases List.mem_append.mp z with z|z
  · exact ha z
  · simp at z;exact zaJ e hp z⟩⟩
theorem RH.obj' (h:RH K ι H S)(hp:H p=Option.none)(u:HO)(o:MO)(ho:RO K (ι++[p]) (upd H p u) p o):RH K (ι++[p]) (upd H p u) (S.push o):=by
 refine⟨by rw[List.length_append,h.len,zcv];rfl,?_,fun l o' e=>?_,(Kp.new hp u).tab h.tab⟩
 · rw[List.nodup_append]
   refine⟨h.nd,by simp,fun a ha b hb=>?_⟩
   simp at hb;subst hb
   exact fun z=>h.fresh hp (z▸ha)
 · by_cases hl:l<S.len
   · rw[zc4 hl] at e
     obtain⟨a,h1,h2,hm⟩:=h.mem e
     exact⟨a,zb7 (List.prefix_append _ _) h1,h2.stay (Ext.obj h hp u) (zam fun z=>h.fresh hp (z▸hm))⟩
   · have hl2:=zaZ e
     rw[zcv] at hl2
     have:l=S.len:=by omega
     subst this
     rw[zf4] at e;cases e
     exact⟨p,by rw[<-h.len];simp,ho⟩
theorem RH.lay (h:RH K ι H S)(hp:H p=Option.none){ds:List D}{xs:List V}(r:RVs K ι H ds xs):RH K (ι++[p]) (upd H p (.lst xs)) (S.push (.lst ds)):=
 h.obj' hp _ _ ⟨xs,zaq,r.ext (Ext.obj h hp _)⟩
theorem RH.last (h:RH K ι H S)(p:Addr):(ι++[p])[S.len]?=some p:=by rw[<-h.len];simp
theorem Ext.wr (h:RH K ι H S){o:MO}(e:S.get l=some o)(hl:ι[l]?=some a)(u:HO):Ext ι H ι (upd H a u):=by
 have hm:=List.mem_of_getElem? hl
 refine⟨List.prefix_refl _,.same (fun b xs hb=>?_) (fun b z v hb=>?_) fun b ps hb=>?_,fun b o hb e=>⟨.inl ((zam fun (z:b=a)=>hb (by rw[z];exact hm)).trans e),hb⟩⟩
 · rw[zam];exact hb
   rintro rfl
   exact h.notup hb hm
 · rw[zam];exact hb
   rintro rfl
   obtain⟨o,e,_,q,_⟩:=h.live hm
   rw[hb] at e;cases e;exact q _ _ rfl
 · rw[zam];exact hb
   rintro rfl
   obtain⟨o,e,_,_,q⟩:=h.live hm
   rw[hb] at e;cases e;exact q _ rfl
theorem zkC {o:MO}(e:S.put l o=some S'):S'.len=S.len/\(l<S.len->S'.get l=some o)/\(∀m,m≠l->S'.get m=S.get m)/\S.frz.length<=l:=by
 unfold St.put at e
 split at e
 · cases e
 · split at e
   · cases e
   · injection e with e
     subst e
     rename_i c1 c2
     refine⟨by simp[St.len],fun hl=>?_,fun m hm=>?_,by omega⟩
     · unfold St.len at hl
       unfold St.get
       simp only[c1,if_false]
       rw[List.getElem?_set_self (by omega)]
     · unfold St.get
       simp only
       split
       · rfl
       · rw[List.getElem?_set_ne (by omega)]
theorem RH.wr (h:RH K ι H S){o o':MO}{u:HO}(e:S.get l=some o)(hl:ι[l]?=some a)(w:S.put l o'=some S')(ho:RO K ι (upd H a u) a o'):RH K ι (upd H a u) S':=by
 obtain⟨h1,h2,h3,_⟩:=zkC w
 refine⟨h.len.trans h1.symm,h.nd,fun m o2 e2=>?_,(Ext.wr h e hl u).kp.tab h.tab⟩
 by_cases hm:m=l
 · subst hm
   rw[h2 (zaZ e)] at e2;cases e2
   exact⟨a,hl,ho⟩
 · rw[h3 m hm] at e2
   obtain⟨b,q1,q2,_⟩:=h.mem e2
   refine⟨b,q1,q2.stay (Ext.wr h e hl u) (zam ?_)⟩
   rintro rfl
   obtain⟨i1,e1⟩:=List.getElem?_eq_some_iff.mp hl
   obtain⟨i2,e2⟩:=List.getElem?_eq_some_iff.mp q1
   exact hm ((List.getElem_inj h.nd).mp (e2.trans e1.symm))
end
end R
end
section
namespace R
open PySem PySem.Spec PyProof.Rows L2
section
variable {prog:Program} {w:World} {K:Type} [DecidableEq K] {knd:HeapKind prog w K} {A:Around} {E:Value->Shared->Prop} {s:Shared} {xs ys:List (K × Addr × Value)} {a b d:Addr}
theorem zi9 {ks:List K}(nd:ks.Nodup){i j:Nat}{k:K}(hi:ks[i]?=some k)(hj:ks[j]?=some k):i=j:=by
 obtain⟨h1,e1⟩:=List.getElem?_eq_some_iff.mp hi
 obtain⟨h2,e2⟩:=List.getElem?_eq_some_iff.mp hj
 exact (List.getElem_inj nd).mp (e1.trans e2.symm)
theorem zdv {nm:String}{Q:Bool->Shared->Prop}(hu:knd.room A)(ha:(a == sysModules)=false)(hb:(b == sysModules)=false)(da:s.heap.DictOfH knd a xs)(db:s.heap.DictOfH knd b ys)(hk:xs.map (·.1)=ys.map (·.1))
  (he:∀(i:Nat) x y,xs[i]?=some x->ys[i]?=some y->SeqAt.EqAt A s x.2.2 y.2.2 true) (h:Q true s):wpAny (model prog w) A (Builtin.Dict.samePairs nm a b) Q E s:=by
 obtain⟨oa,es,ep,hoa,_,hda,hea,hia,hna⟩:=da
 obtain⟨ob,es',ep',hob,_,hdb,heb,hib,hnb⟩:=db
 have hla:es.size=xs.length:=size_of_entries hea
 have hlb:es'.size=ys.length:=size_of_entries heb
 have hl:xs.length=ys.length:=by have:=congrArg List.length hk;simpa using this
 unfold Builtin.Dict.samePairs Builtin.Dict.showsAll
 rw[if_neg (show ¬(a == sysModules)=true by rw[ha];exact Bool.false_ne_true),if_neg (show ¬(b == sysModules)=true by rw[hb];exact Bool.false_ne_true)]
 refine wpAny_bind (wpAny_pure (wpAny_bind (wpAny_pure ?_)))
 refine wpAny_bind (wpAny_dictEntries hoa hda ?_)
 dsimp only
 refine wpAny_bind (wpAny_dictEntries hob hdb ?_)
 rw[if_neg (by rw[hla,hlb,hl];simp)]
 refine wpAny_bind (wpAny_dictEpoch hoa hda ?_)
 refine wpAny_bind ?_
 rw[Std.Legacy.Range.forIn_eq_forIn_range']
 simp only[Std.Legacy.Range.size,Nat.sub_zero,Nat.add_sub_cancel,Nat.div_one]
 refine wpAny_forIn_list _ (fun rest q s'=>s'=s/\q=(none,())/\∃i,rest=List.range' i (es.size - i)/\i<=es.size) _ ?_ ?_ _ _ ⟨rfl,rfl,0,by simp,Nat.zero_le _⟩
 · rintro x rest q s' ⟨rfl,rfl,i,hr,hi⟩
   have hlt:i<es.size:=by
    rcases Nat.lt_or_ge i es.size with h|h
    · exact h
    · rw[Nat.sub_eq_zero_of_le h] at hr;simp at hr
   obtain⟨rfl,hrest⟩:x=i/\rest=List.range' (i+1) (es.size - (i+1)):=by
    have e:es.size - i=(es.size - (i+1))+1:=by omega
    rw[e,List.range'_succ] at hr
    injection hr with h1 h2
    exact⟨h1,h2⟩
   obtain⟨⟨k,c,v⟩,hx⟩:∃y,xs[x]?=some y:=⟨xs[x]'(by omega),List.getElem?_eq_getElem _⟩
   obtain⟨⟨k',c',v'⟩,hy⟩:∃y,ys[x]?=some y:=⟨ys[x]'(by omega),List.getElem?_eq_getElem _⟩
   have ekk:k'=k:=by
    have e:=congrArg (fun l=>l[x]?) hk
    simp only[List.getElem?_map,hx,hy,Option.map_some] at e
    exact (Option.some.inj e).symm
   subst ekk
   refine wpAny_bind (wpAny_dictEntries hoa hda ?_)
   rw[entry_at hea x,hx]
   show wpAny _ _ (holding [Value.ref c,v] _ >>= _) _ _ _
   refine wpAny_bind (wpAny_holding (wpAny_bind (wpAny_dictFind_heap (k:=k') hu (hia _ (List.mem_of_getElem? hx)) hob hdb heb hib hnb (fun hno=>absurd hy (hno x _)) fun j p hj=>?_)))
   have ej:j=x:=zi9 hnb (k:=k') (by rw[List.getElem?_map,hj];rfl) (by rw[List.getElem?_map,hy];rfl)
   subst ej
   rw[hy] at hj
   cases hj
   refine wpAny_bind (wpAny_dictEntries hob hdb ?_)
   rw[entry_at heb j,hy]
   refine wpAny_holding (he j _ _ hx hy prog w _ _ ?_)
   show wpAny _ _ (if (!true)=true then _ else _) _ _ _
   rw[if_neg (by decide)]
   refine wpAny_bind (wpAny_dictEpoch hoa hda ?_)
   rw[if_neg (by simp)]
   exact wpAny_pure ⟨rfl,rfl,j+1,hrest,hlt⟩
 · rintro q s' ⟨rfl,rfl,i,hr,hi⟩
   exact wpAny_pure h
theorem znh {Q:Value->Shared->Prop}(hr:knd.room A.in1)(hu:A.units<cLine)(ha:(a == sysModules)=false)(hb:(b == sysModules)=false)(da:s.heap.DictOfH knd a xs)(db:s.heap.DictOfH knd b ys)(hk:xs.map (·.1)=ys.map (·.1))
  (he:∀(i:Nat) x y,xs[i]?=some x->ys[i]?=some y->SeqAt.EqAt A.in1 s x.2.2 y.2.2 true) (h:Q (.bool true) s):wpAny (model prog w) A (compareOp .Eq (.ref a) (.ref b)) Q E s:=by
 refine wpAny_richCompare_same_room (op:=.Eq) da.typeIs db.typeIs PySem.F.slot_dict_eq (wpAny_call_entry PySem.F.slot_dict_eq da.typeIs PySem.F.entry_dict_eq ?_ (PySem.F.args_dict_eq_2 _ _)) hu
 show wpAny _ _ (Builtin.Dict.dictSlotArgs "__eq__" ⟨[.ref a,.ref b],[]⟩ >>= _) _ _ s
 refine wpAny_bind ?_
 unfold Builtin.Dict.dictSlotArgs
 refine wpAny_bind (wpAny_notOrdered_dict da.typeIs ?_)
 show wpAny _ _ (pure (Value.ref a,Value.ref b)) _ _ s
 refine wpAny_pure ?_
 refine wpAny_bind (wpAny_isInstance (T:="dict") db.typeIs PySem.F.sub_dict_dict ?_)
 simp only[Bool.not_true,Bool.false_eq_true,if_false]
 refine wpAny_bind (wpAny_pure (wpAny_bind (wpAny_pure ?_)))
 refine wpAny_bind (zdv hr ha hb da db hk he ?_)
 refine wpAny_pure ⟨_,rfl,?_,?_⟩
 · exact fun x=>nomatch x
 · simpa using h
theorem zng {Q:Value->Shared->Prop}(hr:knd.room A.in1)(hu:A.units<cLine)(ha:(a == sysModules)=false)(hb:(b == sysModules)=false)(da:s.heap.DictOfH knd a xs)(db:s.heap.DictOfH knd b ys)(hk:xs.map (·.1)=ys.map (·.1))
  (he:∀(i:Nat) x y,xs[i]?=some x->ys[i]?=some y->SeqAt.EqAt A.in1 s x.2.2 y.2.2 true) (h:Q (.bool false) s):wpAny (model prog w) A (compareOp .NotEq (.ref a) (.ref b)) Q E s:=by
 refine wpAny_richCompare_same_room (op:=.NotEq) da.typeIs db.typeIs PySem.F.slot_dict_ne (wpAny_call_entry PySem.F.slot_dict_ne da.typeIs PySem.F.entry_dict_ne ?_ (PySem.F.args_dict_ne_2 _ _)) hu
 show wpAny _ _ (Builtin.Dict.dictSlotArgs "__ne__" ⟨[.ref a,.ref b],[]⟩ >>= _) _ _ s
 refine wpAny_bind ?_
 unfold Builtin.Dict.dictSlotArgs
 refine wpAny_bind (wpAny_notOrdered_dict da.typeIs ?_)
 show wpAny _ _ (pure (Value.ref a,Value.ref b)) _ _ s
 refine wpAny_pure ?_
 refine wpAny_bind (wpAny_isInstance (T:="dict") db.typeIs PySem.F.sub_dict_dict ?_)
 simp only[Bool.not_true,Bool.false_eq_true,if_false]
 refine wpAny_bind (wpAny_pure (wpAny_bind (wpAny_pure ?_)))
 refine wpAny_bind (zdv hr ha hb da db hk he ?_)
 refine wpAny_pure ⟨_,rfl,?_,?_⟩
 · exact fun x=>nomatch x
 · simpa using h
end
end R
end
section
namespace R
open PySem PySem.Spec PyProof.Rows L2
variable [Mks]
noncomputable def wVK:Option Int->V|none=>.non|some i=>.int i
theorem zcK {α β:Type}{Rl:α->β->Prop}:∀{ks:List α} {xs:List β},Paired Rl ks xs->∀{i:Nat} {x:β},xs[i]?=some x->∃p,ks[i]?=some p/\Rl p x
 |_,_,.nil,i,x,h=>by simp at h
 |_,_,.cons r t,0,x,h=>by simp at h;subst h;exact⟨_,rfl,r⟩
 | _, _, .cons r t, i + 1, x, h => by
   simp at h
   obtain⟨p,h1,h2⟩:=zcK t h
   exact⟨p,by simpa using h1,h2⟩
theorem zcW {H:Hp}:∀{ks:List (List Key × V)} {xs:List (List Key × Addr × Value)},KT H ks xs->xs.map (·.1)=ks.map (·.1)
 |_,_,.nil=>rfl
 |_,_,.cons r t=>by rw[List.map_cons,List.map_cons,zcW t,r.1]
theorem RKs.words {K:PySem.W.Frag}{ι:List Addr}{H:Hp}:∀{kvs:List (List Int × D)} {ws:List (List Key × V)} {u:List (List Int × Option Int)},RKs K ι H kvs ws->zco kvs=some u->ws=u.map fun p=>(kI p.1,wVK p.2)
 | [], ws, u, r, h => by
   have h:u=[]:=by simpa[zco] using h.symm
   subst h;exact r
 | (k, d) :: kr, ws, u, r, h => by
   obtain⟨v,w,rfl,r1,r2⟩:=r
   unfold zco at h
   rw[List.mapM_cons] at h
   cases e:zef d with
   |none=>simp[e] at h
   | some o =>
     cases e2:kr.mapM fun kv=>(zef kv.2).map fun w=>(kv.1,w) with
     |none=>simp[e,e2] at h
     | some t =>
       simp[e,e2] at h
       subst h
       rw[RKs.words r2 (show zco kr=some t from e2),List.map_cons]
       congr 2
       cases d with
       |non=>cases e;exact r1
       |int i=>cases e;exact r1
       |_=>cases e
section
variable {X:Cx} {pins:List (Addr × Obj)} {σ:L2.St} {H:Hp} {s:Shared} {a b:Addr} {A:Around} {E:Value->Shared->Prop}
theorem zid {u:List (List Int × Option Int)}{xs ys:List (List Key × Addr × Value)}(r1:KT H (u.map fun p=>(kI p.1,wVK p.2)) xs)(r2:KT H (u.map fun p=>(kI p.1,wVK p.2)) ys):∀(i:Nat) x y,xs[i]?=some x->ys[i]?=some y->SeqAt.EqAt A s x.2.2 y.2.2 true:=fun i x y hx hy=>by
 obtain⟨p,h1,_,_,h2⟩:=zcK r1 hx
 obtain⟨q,g1,_,_,g2⟩:=zcK r2 hy
 rw[h1] at g1
 cases g1
 rw[List.getElem?_map] at h1
 cases e:u[i]? with
 |none=>rw[e] at h1;cases h1
 | some w =>
   rw[e] at h1
   cases h1
   obtain⟨k,o⟩:=w
   cases o with
   | none =>
     have e1:x.2.2=Value.none:=h2
     have e2:y.2.2=Value.none:=g2
     rw[e1,e2]
     exact SeqAt.EqAt.same _
   | some z =>
     obtain⟨t,e1⟩:=(show ∃t,x.2.2=Value.int z t from h2)
     obtain⟨t',e2⟩:=(show ∃t,y.2.2=Value.int z t from g2)
     rw[e1,e2]
     have:=SeqAt.EqAt.int_int (A:=A) (s:=s) z t z t'
     simpa using this
theorem zoz {u:List (List Int × Option Int)}{Q:Value->Shared->Prop}(hu:A.units+1<cLine)(I:Inv X pins σ H s)(h1:H a=some (.dT (u.map fun p=>(kI p.1,wVK p.2))))(h2:H b=some (.dT (u.map fun p=>(kI p.1,wVK p.2))))(h:Q (.bool true) s):wpAny (model X.prog X.w) A (compareOp .Eq (.ref a) (.ref b)) Q E s:=by
 obtain⟨_,s1,xs,r1,d1⟩:=zgF I.hok h1
 obtain⟨_,s2,ys,r2,d2⟩:=zgF I.hok h2
 exact znh (tupleKind_room_in1 hu) (by omega) s1 s2 d1 d2 ((zcW r1).trans (zcW r2).symm) (zid r1 r2) h
theorem zoy {u:List (List Int × Option Int)}{Q:Value->Shared->Prop}(hu:A.units+1<cLine)(I:Inv X pins σ H s)(h1:H a=some (.dT (u.map fun p=>(kI p.1,wVK p.2))))(h2:H b=some (.dT (u.map fun p=>(kI p.1,wVK p.2))))(h:Q (.bool false) s):wpAny (model X.prog X.w) A (compareOp .NotEq (.ref a) (.ref b)) Q E s:=by
 obtain⟨_,s1,xs,r1,d1⟩:=zgF I.hok h1
 obtain⟨_,s2,ys,r2,d2⟩:=zgF I.hok h2
 exact zng (tupleKind_room_in1 hu) (by omega) s1 s2 d1 d2 ((zcW r1).trans (zcW r2).symm) (zid r1 r2) h
end
theorem zd6 {S:R.St}{d:D}{kvs:List (List Int × D)}(h:dKvs S d=some kvs):∃l,d=.ref l/\S.get l=some (.dtp kvs):=by
 cases d with
 | ref l =>
   refine⟨l,rfl,?_⟩
   unfold dKvs at h
   dsimp only at h
   cases e:S.get l with
   |none=>rw[e] at h;cases h
   | some o =>
     rw[e] at h
     cases o with
     |dtp k=>cases h;rfl
     |_=>cases h
 |_=>cases h
theorem zk7 {K:PySem.W.Frag}{ι:List Addr}{H:Hp}{y:D}{v:V}{k:List Int}(r:RV K ι H y v)(h:zd0 y=some k):∃b,v=.ref b/\H b=some (.tup ((kI k).map kV)):=by
 cases y with
 | tup ds =>
   obtain⟨b,xs,rfl,hb,rr⟩:=r
   simp only[zd0] at h
   rw[zcf h] at rr
   rw[rr.ints_eq] at hb
   refine⟨b,rfl,?_⟩
   rw[hb]
   unfold kI
   rw[List.map_map];rfl
 |_=>cases h
theorem zf6 {K:PySem.W.Frag}{ι:List Addr}{H:Hp}{S:R.St}{d e:D}{x y:V}{k:Bool}(hH:RH K ι H S)(hd:RV K ι H d x)(he:RV K ι H e y)(h:zeS S d e=some k) :
  (∃(u:List (List Int × Option Int)) (a b:Addr),x=.ref a/\y=.ref b/\H a=some (.dT (u.map fun p=>(kI p.1,wVK p.2)))/\H b=some (.dT (u.map fun p=>(kI p.1,wVK p.2)))/\k=true)\/eqD S d e=some k:=by
 unfold zeS at h
 split at h
 · rename_i ka kb e1 e2
   left
   obtain⟨l,rfl,g1⟩:=zd6 e1
   obtain⟨m,rfl,g2⟩:=zd6 e2
   obtain⟨a,i1,rfl⟩:=hd
   obtain⟨b,i2,rfl⟩:=he
   obtain⟨a',j1,_,ws,ha,rk⟩:=hH.obj l _ g1
   rw[i1] at j1;cases j1
   obtain⟨b',j2,_,us,hb,rl⟩:=hH.obj m _ g2
   rw[i2] at j2;cases j2
   unfold eqK at h
   cases w1:zco ka with
   |none=>rw[w1] at h;cases h
   | some u =>
     cases w2:zco kb with
     |none=>rw[w1,w2] at h;cases h
     | some v =>
       rw[w1,w2] at h
       dsimp only[Option.bind_some] at h
       split at h
       · rename_i c
         subst c
         cases h
         rw[rk.words w1] at ha
         rw[rl.words w2] at hb
         exact⟨u,a,b,rfl,rfl,ha,hb,rfl⟩
       · cases h
 · exact .inr h
theorem zfu {S:R.St}{x:D}{kvs:List (K3 × D)}(h:d3K S x=some kvs):∃l,x=.ref l/\S.get l=some (.d3 kvs):=by
 cases x with
 | ref l =>
   simp only[d3K] at h
   cases e:S.get l with
   |none=>rw[e] at h;cases h
   | some o =>
     rw[e] at h
     cases o with
     |d3 k=>cases h;exact⟨l,rfl,e⟩
     |_=>cases h
 |_=>cases h
theorem zfo {K:PySem.W.Frag}{ι:List Addr}{H:Hp}{y:D}{v:V}{k:K3}(r:RV K ι H y v)(h:key3 y=some k):∃c,v=.ref c/\Key3 H k c:=by
 unfold key3 at h
 split at h
 · rename_i a ds b
   cases e:zbG ds with
   |none=>rw[e] at h;cases h
   | some p =>
     rw[e] at h
     cases h
     obtain⟨c,xs,rfl,hc,v1,r1,rfl,q1,v2,r2,rfl,q2,v3,r3,rfl,q3,q4⟩:=r
     cases (show r3=[] from q4)
     obtain rfl:v1=.int a:=q1
     obtain⟨b',ys,rfl,hb,rr⟩:=q2
     obtain rfl:v3=.int b:=q3
     rw[zcf e] at rr
     rw[rr.ints_eq] at hb
     exact⟨c,rfl,b',hc,hb⟩
 · cases h
theorem zf3 {K:PySem.W.Frag}{ι:List Addr}{H:Hp}{S:R.St}{d e:D}{x y:V}{k:Bool}(hH:RH K ι H S)(hd:RV K ι H d x)(he:RV K ι H e y)(h:zfq S d e=some k) :
  (∃a o,y=.ref a/\DGet H a x o/\k=o.isSome)\/(∃a kxs kk c,y=.ref a/\H a=some (.ext (TriO a kxs))/\TriK H kxs/\x=.ref c/\Key3 H kk c/\k=decide (kk∈kxs.map (·.1)))\/((zcj S e).bind fun ys=>inD S d ys)=some k:=by
 unfold zfq at h
 split at h
 · rename_i kvs e1
   left
   obtain⟨l,rfl,g1⟩:=zd6 e1
   obtain⟨a,i1,rfl⟩:=he
   obtain⟨a',j1,_,ws,ha,rk⟩:=hH.obj l _ g1
   rw[i1] at j1;cases j1
   cases ek:zd0 d with
   |none=>rw[ek] at h;cases h
   | some kk =>
     rw[ek] at h
     cases h
     obtain⟨b,rfl,hb⟩:=zk7 hd ek
     refine⟨a,_,rfl,DGet.t ha hb,?_⟩
     rcases rk.val kk with ⟨e1,e2⟩|⟨d,v,e1,e2,_⟩
     · dsimp only;rw[e1,e2];rfl
     · dsimp only;rw[e1,e2];rfl
 · split at h
   · rename_i kvs e1
     right;left
     obtain⟨l,rfl,g1⟩:=zfu e1
     obtain⟨a,i1,rfl⟩:=he
     obtain⟨a',j1,_,ws,ha,rk⟩:=hH.obj l _ g1
     rw[i1] at j1;cases j1
     cases ek:key3 d with
     |none=>rw[ek] at h;cases h
     | some kk =>
       rw[ek] at h
       cases h
       obtain⟨c,rfl,hc⟩:=zfo hd ek
       exact⟨a,ws,kk,c,rfl,ha,rk.triK,rfl,hc,by dsimp only;rw[rk.keys]⟩
   · exact .inr (.inr h)
end R
end
section
namespace R
open PySem PySem.Spec PyProof.Rows L2
section
variable {prog:Program} {w:World} {K:Type} [DecidableEq K] {knd:HeapKind prog w K} {A:Around} {E:Value->Shared->Prop} {s:Shared} {xs:List (K × Addr × Value)} {d:Addr}
end
section
variable {X:Cx} {o e f:Expr} {apos cpos:Pos} {td ty tv:TE}
end
end R
end
section
namespace R
open PySem PySem.Spec PyProof.Rows L2
section
variable {prog:Program} {w:World} {K:Type} [DecidableEq K] {knd:HeapKind prog w K} {A:Around} {E:Value->Shared->Prop} {s:Shared} {xs:List (K × Addr × Value)} {d j:Addr} {i ep:Nat}
noncomputable def HAt (knd:HeapKind prog w K)(h:Heap)(d:Addr)(xs:List (K × Addr × Value))(ep:Nat):Prop:=∃o es,h.get? d=some o/\o.ExactDict/\o.data=.dict es ep/\es.toList=xs.map (entryOfKey knd)
theorem HAt.at {h h':Heap}(x:HAt knd h d xs ep)(e:∀o,h.get? d=some o->h'.get? d=some o):HAt knd h' d xs ep:=let ⟨o,es,ho,r⟩:=x;⟨o,es,e _ ho,r⟩
theorem HAt.ty (x:HAt knd s.heap d xs ep):s.TypeIs (.ref d) "dict":=let ⟨o,_,ho,hc,_⟩:=x;⟨o,ho,hc.1⟩
theorem zhQ {Q:Value->Shared->Prop}(hS:(d == sysModules)=false)(hm:HAt knd s.heap d xs ep)
  (q:Q (.ref s.heap.objs.size) {s with heap:=s.heap.push {cls:=.type "dict_keyiterator",data:=.fields #[.ref d,.int 0 0,.int xs.length 0,.int ep 0]}}):wpAny (model prog w) A (pyIter (.ref d)) Q E s:=by
 have ty:=hm.ty
 obtain⟨ob,en,g1,_,g2,g3⟩:=hm
 have hl:en.size=xs.length:=size_of_entries g3
 refine wpAny_pyIter_slot ty F.slot_dict_iter (wpAny_call_entry F.slot_dict_iter ty F.entry_dict_iter ?_ (F.args_dict_iter_1 _))
 unfold Builtin.«dict.__iter__» Builtin.Dict.dictSlotNone
 refine wpAny_bind (wpAny_bind (wpAny_notOrdered_dict ty ?_))
 show wpAny _ _ (pure (Value.ref d)) _ _ s
 refine wpAny_pure ?_
 show wpAny _ _ (Builtin.Dict.showsAll d >>= _) _ _ s
 unfold Builtin.Dict.showsAll
 simp only[hS,Bool.false_eq_true,if_false]
 refine wpAny_bind (wpAny_pure (wpAny_bind (wpAny_dictEntries g1 g2 (wpAny_bind (wpAny_dictEpoch g1 g2 ?_)))))
 refine wpAny_bind (wpAny_newObj_type (wpAny_pure ⟨_,rfl,"dict_keyiterator",_,⟨_,Heap.get?_push_size _ rfl,rfl⟩,F.slot_dict_keyiterator_next.lookup,?_⟩))
 simpa[rawInt,hl] using q
theorem zle {x:K × Addr × Value}{Q:Option Value->Shared->Prop}(ht:s.heap.IsKeyIter j d i xs.length ep)(hm:HAt knd s.heap d xs ep)(hx:xs[i]?=some x)
  (q:∀h',h'.IsKeyIter j d (i+1) xs.length ep->Heap.SameBut j s.heap h'->Q (some (.ref x.2.1)) {s with heap:=h'}):wpAny (model prog w) A (pyNext (.ref j)) Q E s:=by
 have ty:=ht.typeIs
 obtain⟨oj,k1,k2,k3⟩:=id ht
 obtain⟨ob,en,g1,_,g2,g3⟩:=id hm
 have hl:en.size=xs.length:=size_of_entries g3
 have hi:i<en.size:=by rw[hl];exact (List.getElem?_eq_some_iff.mp hx).1
 have hkey:en[i].key=.ref x.2.1:=by
  have:=entry_at g3 i
  rw[hx,Array.getElem?_eq_getElem hi] at this
  rw[Option.some.inj this];rfl
 unfold pyNext
 refine wpAny_bind (wpAny_attempt (wpAny_callSpecial?_slot (name:=Str.ofString "__next__") ty F.slot_dict_keyiterator_next (wpAny_call_entry F.slot_dict_keyiterator_next ty F.entry_dict_keyiterator_next ?_ (F.args_dict_keyiterator_next_1 _))))
 refine wpAny_bind (wpAny_pure (wpAny_bind (wpAny_bind ?_)))
 first|refine wpAny_bind (wpAny_typeNameOfWhole_keyiter ty (wpAny_pure ?_))|refine wpAny_bind (wpAny_typeNameOf_keyiter ty (wpAny_pure ?_))
 refine wpAny_bind (wpAny_fieldsOf k1 k3 ?_)
 simp only[show Builtin.Dict_items.ownsTuple "dict_keyiterator"=false by decide,Bool.false_eq_true,if_false]
 show wpAny _ _ (if (Value.ref d == Value.none)=true then _ else _) _ _ s
 rw[if_neg (show ¬((Value.ref d == Value.none)=true) from Bool.false_ne_true)]
 refine wpAny_bind (wpAny_pure (wpAny_bind (wpAny_dictEntries g1 g2 ?_)))
 rw[if_neg (by rw[hl];simp)]
 refine wpAny_bind (wpAny_pure (wpAny_bind (wpAny_dictEpoch g1 g2 ?_)))
 rw[if_neg (by simp)]
 refine wpAny_pure ?_
 simp only[show ¬((i:Int)<0) from by omega,if_false,Int.toNat_natCast,Array.getElem?_eq_getElem hi]
 refine wpAny_bind ?_
 first|refine wpAny_bind (wpAny_typeNameOfWhole_keyiter ty (wpAny_pure ?_))|refine wpAny_bind (wpAny_typeNameOf_keyiter ty (wpAny_pure ?_))
 refine wpAny_bind (wpAny_isOneOf_keyiter ty ?_)
 show wpAny _ _ (setField (.ref j) 1 (rawInt ((i:Int)+1)) >>= _) _ _ s
 refine wpAny_bind (wpAny_setField k1 k3 (by simp) ?_)
 have ht':(s.heap.update j (Obj.mapFields (·.setIfInBounds 1 (rawInt ((i:Int)+1))))).IsKeyIter j d (i+1) xs.length ep:=
  ⟨_,Heap.get?_update_self _ k1 (Obj.isFreed_of_fields (Obj.data_mapFields k3 _)),(Obj.cls_mapFields ..).trans k2,by rw[Obj.data_mapFields k3];simp[rawInt]⟩
 refine wpAny_bind (wpAny_holding (wpAny_bind (wpAny_isOneOf_keyiter (s:={s with heap:=s.heap.update j (Obj.mapFields (·.setIfInBounds 1 (rawInt ((i:Int)+1))))}) ht'.typeIs ?_)))
 show wpAny _ _ (pure en[i].key) _ _ _
 rw[hkey]
 exact wpAny_pure (wpAny_pure ⟨_,rfl,wpAny_pure (q _ ht' (Heap.SameBut.update ..))⟩)
theorem znf {Q:Option Value->Shared->Prop}(hh:A.handled=none)(ht:s.heap.IsKeyIter j d i xs.length ep)(hm:HAt knd s.heap d xs ep)(hi:xs.length<=i)
  (q:∀h',Heap.ExtBut j s.heap h'->Q none {s with heap:=h'}):wpAny (model prog w) A (pyNext (.ref j)) Q E s:=by
 have ty:=ht.typeIs
 obtain⟨oj,k1,k2,k3⟩:=id ht
 obtain⟨ob,en,g1,_,g2,g3⟩:=id hm
 have hl:en.size=xs.length:=size_of_entries g3
 unfold pyNext
 refine wpAny_bind (wpAny_attempt (wpAny_callSpecial?_slot (name:=Str.ofString "__next__") ty F.slot_dict_keyiterator_next (wpAny_call_entry F.slot_dict_keyiterator_next ty F.entry_dict_keyiterator_next ?_ (F.args_dict_keyiterator_next_1 _))))
 refine wpAny_bind (wpAny_pure (wpAny_bind (wpAny_bind ?_)))
 first|refine wpAny_bind (wpAny_typeNameOfWhole_keyiter ty (wpAny_pure ?_))|refine wpAny_bind (wpAny_typeNameOf_keyiter ty (wpAny_pure ?_))
 refine wpAny_bind (wpAny_fieldsOf k1 k3 ?_)
 simp only[show Builtin.Dict_items.ownsTuple "dict_keyiterator"=false by decide,Bool.false_eq_true,if_false]
 show wpAny _ _ (if (Value.ref d == Value.none)=true then _ else _) _ _ s
 rw[if_neg (show ¬((Value.ref d == Value.none)=true) from Bool.false_ne_true)]
 refine wpAny_bind (wpAny_pure (wpAny_bind (wpAny_dictEntries g1 g2 ?_)))
 rw[if_neg (by rw[hl];simp)]
 refine wpAny_bind (wpAny_pure (wpAny_bind (wpAny_dictEpoch g1 g2 ?_)))
 rw[if_neg (by simp)]
 refine wpAny_pure ?_
 simp only[show ¬((i:Int)<0) from by omega,if_false,Int.toNat_natCast,Array.getElem?_eq_none (show en.size<=i by omega)]
 refine wpAny_bind ?_
 first|refine wpAny_bind (wpAny_typeNameOfWhole_keyiter ty (wpAny_pure ?_))|refine wpAny_bind (wpAny_typeNameOf_keyiter ty (wpAny_pure ?_))
 show wpAny _ _ (setField (.ref j) 0 .none >>= _) _ _ s
 refine wpAny_bind (wpAny_setField k1 k3 (by simp) ?_)
 show wpAny _ _ (newExc (.type "StopIteration") [] >>= _) _ _ _
 refine wpAny_bind ?_
 simp only[newExc,newTuple]
 refine wpAny_bind (wpAny_newObj_type ?_ (by size_fits))
 refine wpAny_bind (m:=firstArgMember _ _) (wpAny_of_eq (a:=Value.none) (by first|rfl|(simp only[firstArgMember];rfl)) (wpAny_newObj_type ?_ (by size_fits)))
 simp only[raiseNew]
 refine wpAny_bind (wpAny_handled ?_)
 rw[show A.in1.handled=none from hh]
 refine wpAny_bind (wpAny_pure (wpAny_throw ?_))
 refine wpAny_bind (wpAny_isInstance (b:=true) (T:="StopIteration") ⟨_,Heap.get?_push_size _ rfl,rfl⟩ isSubtype_stop ?_)
 exact wpAny_pure (q _ (((Heap.SameBut.update ..).extBut.push _).push _))
theorem zhP (hh:A.handled=none)(hne:d≠j)(xs:List (K × Addr × Value))(ep:Nat) :
  Walks prog w A j [j,d] [j] xs.length (fun i v=>∃x,xs[i]?=some x/\v=.ref x.2.1) (fun i h=>h.IsKeyIter j d i xs.length ep/\HAt knd h d xs ep) where
 sub:=fun b hb=>by simp at hb;simp[hb]
 frame:=fun _ _ _ st hk=>⟨st.1.at fun o e=>hk j (by simp) o e,st.2.at fun o e=>hk d (by simp) o e⟩
 item:=fun i s Q E hi st hQ=>by
  refine zle st.1 st.2 (List.getElem?_eq_getElem hi) fun h' t' hs=>?_
  exact hQ _ h' s.toks ⟨_,List.getElem?_eq_getElem hi,rfl⟩ ⟨t',st.2.at fun o e=>hs.extBut d o hne e⟩ fun b o hb e=>hs.extBut b o (fun h=>hb (by simp[h])) e
 done:=fun s Q E st hQ=>znf hh st.1 st.2 (Nat.le_refl _) fun h' he'=>hQ h' s.toks fun b o hb e=>he' b o (fun h=>hb (by simp[h])) e
 self:=fun _ _ _ _ st hQ=>wpAny_pyIter_keyiter st.1 hQ
theorem zhR {Q:Bool->Shared->Prop}(ty:s.TypeIs (.ref d) "dict")(h:Q false s):wpAny (model prog w) A (Builtin.List.listLengthHint (.ref d)) Q E s:=by
 unfold Builtin.List.listLengthHint
 refine wpAny_bind (wpAny_specialOf ty F.slot_dict_len.lookup ?_)
 generalize hid:("dict.__len__":String)=id0
 wp_delta
 rw[show splitId id0=some ("dict","__len__") from by subst hid;decide +kernel]
 subst hid
 refine wpAny_bind (wpAny_isInstance (T:="dict") (b:=true) ty isSubtype_dict_dict ?_)
 refine wpAny_ite_split (fun hab=>absurd hab (by decide)) (fun _=>?_)
 refine wpAny_ite_split (fun _=>?_) (fun hab=>absurd (by decide +kernel) hab)
 refine wpAny_bind (wpAny_typeOf ty ?_)
 exact wpAny_pure h
theorem zld {Q:Value->Shared->Prop}(hh:A.handled=none)(hS:(d == sysModules)=false)(hm:s.heap.DictOfH knd d xs)(hz:xs.length<=sizeLine)
  (q:∀(h':Heap) (t c:Nat),(∀b o,s.heap.get? b=some o->h'.get? b=some o)->h'.get? s.heap.objs.size=some {cls:=.type "list",dict:=none,data:=.seq (xs.map fun x=>Value.ref x.2.1).toArray c,slots:=#[]}->Q (.ref s.heap.objs.size) {s with heap:=h',toks:=t}) :
  wpAny (model prog w) A (call (.type "list") [.ref d]) Q E s:=by
 obtain⟨ep,hm⟩:∃ep,HAt knd s.heap d xs ep:=by
  obtain⟨o,es,ep,h1,h2,h3,h4,_⟩:=hm
  exact⟨ep,o,es,h1,h2,h3,h4⟩
 have dlt:d<s.heap.objs.size:=by obtain⟨o,_,h1,_⟩:=hm;exact Heap.lt_size h1
 have dne:d≠s.heap.objs.size:=Nat.ne_of_lt dlt
 refine callType_codes (Q₁:=fun ob z=>ob=.ref s.heap.objs.size/\z={s with heap:=s.heap.push {cls:=.type "list",data:=.seq #[]}}) F.called_list (F.typeCall_list_1 _) F.entry_list_init (code_list_new _ ⟨rfl,rfl⟩) ?_
 rintro _ _ ⟨rfl,rfl⟩
 have g0:(s.heap.push {cls:=.type "list",data:=.seq #[]}).get? s.heap.objs.size=some {cls:=.type "list",data:=.seq #[]}:=Heap.get?_push_size _ rfl
 refine⟨⟨_,g0,rfl⟩,F.args_list_init_2 _ _,?_⟩
 show wpAny _ A.in1.in1 (do let old <-Builtin.List.listItems (.ref s.heap.objs.size);Builtin.List.listUpdate (.ref s.heap.objs.size) (fun _=>#[]);letGo old.toList.reverse;Builtin.List.listExtendWith (.ref s.heap.objs.size) (.ref d) .none) _ _ _
 refine wpAny_bind ?_
 unfold Builtin.List.listItems
 refine wpAny_bind (wpAny_seqItems g0 rfl (wpAny_pure ?_))
 show wpAny _ _ (updateSeq s.heap.objs.size (fun _=>#[]) >>= fun _=>letGo (#[]:Array Value).toList.reverse >>= fun _=>Builtin.List.listExtendWith (.ref s.heap.objs.size) (.ref d) .none) _ _ _
 refine wpAny_bind (wpAny_updateSeq g0 rfl (wpAny_bind (wpAny_letGo ?_)))
 have g1:=Heap.get?_update_self (Obj.mapSeq (fun _=>(#[]:Array Value))) g0 rfl
 have k1:∀b o,s.heap.get? b=some o->((s.heap.push {cls:=.type "list",data:=.seq #[]}).update s.heap.objs.size (Obj.mapSeq fun _=>(#[]:Array Value))).get? b=some o:=fun b o e=>
  (Heap.get?_update_other _ _ (Ne.symm (Nat.ne_of_lt (Heap.lt_size e)))).trans (Heap.get?_push_of_some _ e)
 have z1:((s.heap.push {cls:=.type "list",data:=.seq #[]}).update s.heap.objs.size (Obj.mapSeq fun _=>(#[]:Array Value))).objs.size=s.heap.objs.size+1:=by rw[Heap.size_update,Heap.size_push]
 generalize hg:(s.heap.push {cls:=.type "list",data:=.seq #[]}).update s.heap.objs.size (Obj.mapSeq fun _=>(#[]:Array Value))=h1 at *
 have m1:HAt knd h1 d xs ep:=hm.at fun o e=>k1 d o e
 unfold Builtin.List.listExtendWith
 refine wpAny_bind (wpAny_typeOf (s:={s with heap:=h1}) (HAt.ty (s:={s with heap:=h1}) m1) ?_)
 rw[if_neg (by simp[Builtin.List.listSameRef,Ne.symm dne])]
 refine wpAny_bind (zhQ (s:={s with heap:=h1}) hS m1 ?_)
 refine wpAny_bind (wpAny_holding (zhR ?_ ?_))
 · exact HAt.ty (s:={s with heap:=h1.push _}) (m1.at fun o e=>Heap.get?_push_of_some _ e)
 rw[if_pos (by decide +kernel)]
 refine wpAny_bind (wpAny_rule (wpAny_bind ?_))
 have it0:∀{g:Heap},(h1.push {cls:=.type "dict_keyiterator",data:=.fields #[.ref d,.int 0 0,.int xs.length 0,.int ep 0]}).get? h1.objs.size=g.get? h1.objs.size->g.IsKeyIter h1.objs.size d 0 xs.length ep:=fun {g} e=>⟨_,e.symm.trans (Heap.get?_push_size _ rfl),rfl,rfl⟩
 have sne:s.heap.objs.size≠h1.objs.size:=by rw[z1];omega
 have g2:(h1.push {cls:=.type "dict_keyiterator",data:=.fields #[.ref d,.int 0 0,.int xs.length 0,.int ep 0]}).get? s.heap.objs.size=_:=Heap.get?_push_of_some _ g1
 show wpAny _ _ (updateSeq s.heap.objs.size (·.push .none) >>= fun _=>updateSeq s.heap.objs.size (·.pop)) _ _ _
 refine wpAny_bind (wpAny_updateSeq g2 rfl ?_)
 have g3:=Heap.get?_update_self (Obj.mapSeq (·.push Value.none)) g2 rfl
 refine wpAny_updateSeq (hz:=by seq_fits) g3 rfl ?_
 have g4:=Heap.get?_update_self (Obj.mapSeq (·.pop)) g3 rfl
 have k4:∀b o,b≠s.heap.objs.size->(h1.push {cls:=.type "dict_keyiterator",data:=.fields #[.ref d,.int 0 0,.int xs.length 0,.int ep 0]}).get? b=some o->(((h1.push {cls:=.type "dict_keyiterator",data:=.fields #[.ref d,.int 0 0,.int xs.length 0,.int ep 0]}).update s.heap.objs.size (Obj.mapSeq (·.push Value.none))).update s.heap.objs.size (Obj.mapSeq (·.pop))).get? b=some o:=fun b o hb e=>
  (Heap.get?_update_other _ _ (Ne.symm hb)).trans ((Heap.get?_update_other _ _ (Ne.symm hb)).trans e)
 refine wpAny_pure ⟨plainId_quiet F.plain_extend_loop _,codeAny_extend_loopS (zhP (prog:=prog) (w:=w) (knd:=knd) (A:=A.in1.in1) (j:=h1.objs.size) (d:=d) hh (by rw[z1];exact Nat.ne_of_lt (Nat.lt_succ_of_lt dlt)) xs ep).toS hz _ (by simp only[List.mem_cons,List.not_mem_nil,or_false,not_or];exact⟨sne,Ne.symm dne⟩) _ xs.length 0 _ _ _ rfl (Nat.zero_le _) ⟨?_,?_⟩ g4 (ItemsOf.nil _) fun s' acc c hv hs' hacc=>?_⟩
 · exact it0 (k4 _ _ (Ne.symm sne) (Heap.get?_push_size _ rfl)▸Heap.get?_push_size _ rfl)
 · exact m1.at fun o e=>k4 d o dne (Heap.get?_push_of_some _ e)
 · rw[Moved.eq_with hv]
   refine⟨rfl,q s'.heap s'.toks c (fun b o e=>hv.heap b o (fun hm=>?_) (k4 b o (Nat.ne_of_lt (Heap.lt_size e)) (Heap.get?_push_of_some _ (k1 b o e)))) ?_⟩
   · have hb:=Heap.lt_size e
     simp only[List.mem_cons,List.not_mem_nil,or_false] at hm
     rcases hm with e2|e2
     · exact Nat.ne_of_lt hb e2
     · rw[z1] at e2;exact Nat.ne_of_lt (Nat.lt_succ_of_lt hb) e2
   · rw[hs']
     have:acc=(xs.map fun x=>Value.ref x.2.1).toArray:=by
      obtain⟨a1,a2⟩:=hacc
      apply Array.ext
      · simpa using a1
      · intro n h1 h2
        obtain⟨x,hx,e⟩:=a2 n acc[n] (Array.getElem?_eq_getElem h1)
        rw[e]
        have:=(List.getElem?_eq_some_iff.mp hx).2
        simp[this]
     rw[this]
end
section
variable {X:Cx}
theorem zol:zbb X (.builtin "len") (fun vs H Q=>∃a ws,vs=[.ref a]/\H a=some (.dT ws)/\Q (.int ws.length) H):=by
 intro pins s σ H xs us Q I r h
 obtain⟨a,ws,rfl,e,q⟩:=h
 obtain⟨u,rfl,ru⟩:=r.one
 cases (show u=Value.ref a from ru)
 obtain⟨z,hd,ys,rel,dd⟩:=zgF I.hok e
 have hl:=Paired.length rel
 obtain⟨o,es,ep,h1,h2,h3,h4,_⟩:=id dd
 have hs:es.size=ws.length:=by rw[size_of_entries h4];exact hl.symm
 refine PyProof.Rows.call_len_slot (n:=ws.length) dd.typeIs F.slot_dict_len (fun Q' hq=>?_) (by omega) (by rw[sizeLine_eq] at z;omega) ⟨.int ws.length,H,I.tok _,⟨_,rfl⟩,q⟩
 refine wpAny_call_entry F.slot_dict_len dd.typeIs F.entry_dict_len ?_ (F.args_dict_len_1 _)
 show wpAny _ _ (dictSize a >>= _) _ _ s
 unfold dictSize
 refine wpAny_bind (wpAny_bind (wpAny_dictEntries h1 h3 (wpAny_pure ?_)))
 show wpAny _ _ (Builtin.Dict.pendingCount a >>= _) _ _ s
 refine wpAny_bind (wpAny_pendingCount_other hd ?_)
 rw[show ((es.size:Int)+((0:Nat):Int))=(ws.length:Nat) by rw[hs];simp]
 exact wpAny_bind (wpAny_mkInt (wpAny_pure ⟨_,rfl,hq⟩))
end
end R
end
section
namespace R
open PySem PySem.Spec PyProof.Rows L2
variable [Mks]
noncomputable def Lf (K:PySem.W.Frag)(ι:List Addr)(H:Hp)(Q:D->R.St->Prop):VK:=fun v H'=>∃d ι' S',Ext ι H ι' H'/\RV K ι' H' d v/\RH K ι' H' S'/\Q d S'
section
variable {K:PySem.W.Frag} {ι ι':List Addr} {H H':Hp} {S S':R.St} {Q:D->R.St->Prop} {d:D} {v:V} {p:Addr}
theorem Lf.of (h:RH K ι H S)(r:RV K ι H d v)(q:Q d S):Lf K ι H Q v H:=⟨d,ι,S,Ext.refl ι H,r,h,q⟩
theorem Lf.up (x:Ext ι H ι' H')(h:Lf K ι' H' Q v p'):Lf K ι H Q v p':=by
 obtain⟨d,ι2,S2,x2,r⟩:=h
 exact⟨d,ι2,S2,x.trans x2,r⟩
theorem Lf.tup (h:RH K ι H S)(hp:H p=Option.none){ds:List D}{xs:List V}(r:RVs K ι H ds xs)(q:Q (.tup ds) S):Lf K ι H Q (.ref p) (upd H p (.tup xs)):=
 ⟨.tup ds,ι,S,Ext.new hp _,⟨p,xs,rfl,zaq,r.ext (Ext.new hp _)⟩,h.new hp _,q⟩
theorem Lf.lst (h:RH K ι H S)(hp:H p=Option.none){ds:List D}{xs:List V}(r:RVs K ι H ds xs)(q:Q (.ref S.len) (S.push (.lst ds))):Lf K ι H Q (.ref p) (upd H p (.lst xs)):=
 ⟨.ref S.len,ι++[p],S.push (.lst ds),Ext.obj h hp _,⟨p,h.last p,rfl⟩,h.lay hp r,q⟩
theorem Lf.wr (h:RH K ι H S){l:Nat}{a:Addr}{o:MO}{ds:List D}{xs:List V}(e:S.get l=some o)(hl:ι[l]?=some a)(w:S.put l (.lst ds)=some S')(r:RVs K ι H ds xs)(rv:RV K ι H d v)(q:Q d S'):Lf K ι H Q v (upd H a (.lst xs)):=
 ⟨d,ι,S',Ext.wr h e hl _,rv.ext (Ext.wr h e hl _),h.wr e hl w ⟨xs,zaq,r.ext (Ext.wr h e hl _)⟩,q⟩
end
theorem zbZ {S:R.St}{ds:List D}{Q:D->R.St->Prop}(h:W (lay S ds) Q):ds.length<=sizeLine/\Q (.ref S.len) (S.push (.lst ds)):=by
 unfold lay at h
 split at h
 · rename_i c;exact⟨by rw[sizeLine_eq];exact c,h⟩
 · exact h.elim
theorem zis {S:R.St}{l:Nat}{ds:List D}{d:D}{Q:D->R.St->Prop}(h:W (wr S l ds d) Q):ds.length<=sizeLine/\∃S',S.put l (.lst ds)=some S'/\Q d S':=by
 unfold wr at h
 split at h
 · rename_i c
   refine⟨by rw[sizeLine_eq];exact c,?_⟩
   cases e:S.put l (.lst ds) with
   |none=>rw[e] at h;exact h.elim
   |some S'=>rw[e] at h;exact⟨S',rfl,h⟩
 · exact h.elim
noncomputable def rD2 (K:PySem.W.Frag)(f:R.St->D->D->Out D):R2:=fun x y H Qv=>∃ι S d e Qd,RV K ι H d x/\RV K ι H e y/\RH K ι H S/\W (f S d e) Qd/\∀v H',Lf K ι H Qd v H'->Qv v H'
section
variable {X:Cx}
theorem zjD {prog:Program}{w:World}{A:Around}{E:Value->Shared->Prop}{s:Shared}{t b:Addr}{vs ws:List Value}{Q:Value->Shared->Prop}(ht:IsTup s.heap t vs.toArray)(hb:IsTup s.heap b ws.toArray)(hv:vs=[])
  (h1:Q (.ref b) s):wpAny (model prog w) A (binaryOp .Add (.ref t) (.ref b)) Q E s:=by
 obtain⟨⟨cls,dd,data,sl⟩,ho,hc,n,hd⟩:=id ht
 obtain⟨⟨cls2,dd2,data2,sl2⟩,ho2,hc2,n2,hd2⟩:=id hb
 simp only at hc hd hc2 hd2
 subst hc hd hc2 hd2
 exact concat_meets ⟨_,ho,rfl⟩ ⟨_,ho2,rfl⟩ noFill_tuple_add seq_tuple_add PySem.F.slot_tuple_add PySem.F.entry_tuple_add (PySem.F.args_tuple_add_2 _ _)
  (tuple_addW0 t b vs.toArray ws.toArray n n2 dd dd2 sl sl2 (by simp[hv])) ⟨ho,ho2,h1⟩
theorem zi7:OpR X (binaryOp .Add) (fun x y H Q=>∃a b ys,x=.ref a/\y=.ref b/\SqT X.K H a []/\SqT X.K H b ys/\Q (.ref b) H):=by
 intro pins s σ H x y v u Q I rx ry h
 obtain⟨a,b,ys,rfl,rfl,ha,hb,q⟩:=h
 cases rx
 cases ry
 obtain⟨its,r1,p1,_⟩:=I.tuple ha
 obtain⟨its2,r2,p2,_⟩:=I.tuple hb
 exact zjD p1 p2 (r1.nil_iff.mpr rfl) ⟨.ref b,H,I,rfl,q⟩
theorem znv (op:Operator):OpR X (binaryOp op) (rD2 X.K fun S d e=>binD S op d e):=by
 intro pins s σ H x y v u Qv I rx ry ⟨ι,S,d,e,Qd,hd,he,hH,hw,q⟩
 dsimp only at hw
 unfold binD at hw
 split at hw
 · rename_i i j
   obtain rfl:x=.int i:=hd
   obtain rfl:y=.int j:=he
   have fin:∀k:Int,Qd (.int k) S->Qv (.int k) H:=fun k hk=>q _ _ (Lf.of (d:=.int k) hH rfl hk)
   unfold binI at hw
   split at hw
   · exact zmW pins s σ H _ _ v u Qv I rx ry ⟨i,j,rfl,rfl,fin _ hw⟩
   · exact zmN pins s σ H _ _ v u Qv I rx ry ⟨i,j,rfl,rfl,fin _ hw⟩
   · split at hw
     · rename_i c
       refine zmQ pins s σ H _ _ v u Qv I rx ry ⟨i,j,rfl,rfl,?_,fin _ hw⟩
       unfold zja at c
       rw[Bool.or_eq_true,decide_eq_true_eq,decide_eq_true_eq] at c
       exact c
     · exact hw.elim
   · split at hw
     · rename_i c
       exact zkT pins s σ H _ _ v u Qv I rx ry ⟨i,j,rfl,rfl,c,fin _ hw⟩
     · exact hw.elim
   · split at hw
     · rename_i c
       exact zmR pins s σ H _ _ v u Qv I rx ry ⟨i,j,rfl,rfl,c,fin _ hw⟩
     · exact hw.elim
   · split at hw
     · rename_i c
       exact zmO pins s σ H _ _ v u Qv I rx ry ⟨i,j,rfl,rfl,⟨c.1,c.2.1,by omega⟩,fin _ hw⟩
     · exact hw.elim
   · exact hw.elim
 · rename_i xs ys
   split at hw
   · split at hw
     · rename_i c
       obtain⟨a,us,rfl,ha,r1⟩:=hd
       obtain⟨b,ws,rfl,hb,r2⟩:=he
       by_cases hn:us=[]
       · subst hn
         have hx:xs=[]:=by
          have:=r1.length
          simpa using this.symm
         subst hx
         refine zi7 pins s σ H _ _ v u Qv I rx ry ⟨a,b,ws,rfl,rfl,SqT.of ha,SqT.of hb,?_⟩
         exact q _ _ (Lf.of (d:=.tup ys) hH ⟨b,ws,rfl,hb,r2⟩ (by simpa using hw))
       · refine zkU pins s σ H _ _ v u Qv I rx ry ⟨a,b,us,ws,rfl,rfl,SqT.of ha,SqT.of hb,hn,?_,fun hy=>?_,fun hy p hp=>?_⟩
         · rw[r1.length,r2.length,sizeLine_eq];exact c
         · subst hy
           have hx:ys=[]:=by
            have:=r2.length
            simpa using this.symm
           subst hx
           exact q _ _ (Lf.of (d:=.tup xs) hH ⟨a,us,rfl,ha,r1⟩ (by simpa using hw))
         · exact q _ _ (Lf.tup hH hp (r1.append r2) hw)
     · exact hw.elim
   · exact hw.elim
 · rename_i a b
   split at hw
   · rename_i xs ys e1 e2
     obtain⟨a1,h1,rfl⟩:=hd
     obtain⟨b1,h2,rfl⟩:=he
     obtain⟨a2,h3,us,ha,r1⟩:=hH.obj _ _ e1
     obtain⟨b2,h4,ws,hb,r2⟩:=hH.obj _ _ e2
     rw[h1] at h3;cases h3
     rw[h2] at h4;cases h4
     obtain⟨z,hq⟩:=zbZ hw
     refine zmV pins s σ H _ _ v u Qv I rx ry ⟨a1,b1,us,ws,rfl,rfl,ha,hb,?_,fun p hp=>?_⟩
     · rw[r1.length,r2.length];rw[List.length_append] at z;exact z
     · exact q _ _ (Lf.lst hH hp (r1.append r2) hq)
   · exact hw.elim
 · exact hw.elim
theorem zaK {α β:Type}{f:α->Option β}{x:α}{xs:List α}{ys:List β}(h:(x::xs).mapM f=some ys):∃y r,f x=some y/\xs.mapM f=some r/\ys=y::r:=by
 rw[List.mapM_cons] at h
 cases e:f x with
 |none=>rw[e] at h;cases h
 | some y =>
   rw[e] at h
   cases e2:xs.mapM f with
   |none=>rw[e2] at h;cases h
   |some r=>rw[e2] at h;injection h with h;exact⟨y,r,rfl,rfl,h.symm⟩
theorem zgt {ι:List Addr}{H:Hp}{S:R.St}(hH:RH X.K ι H S):∀(n:Nat) (d:D) (pdd:PyData) (v:V),pd S n d=some pdd->RV X.K ι H d v->Rep H pdd v/\pdd.canLay0=true/\pdd.depth<=n:=by
 intro n
 induction n with
 | zero =>
   intro d p v h r
   cases d<;>simp only[pd] at h
   · cases h;exact⟨r,rfl,Nat.le_refl _⟩
   · cases h;exact⟨r,rfl,Nat.le_refl _⟩
   · cases h;exact⟨r,rfl,Nat.le_refl _⟩
   · split at h
     · rename_i c;cases h;exact⟨r,c,Nat.le_refl _⟩
     · cases h
   all_goals cases h
 | succ n ih =>
   have all:∀(ds:List D) (ps:List PyData) (vs:List V),ds.mapM (pd S n)=some ps->RVs X.K ι H ds vs->RepAll H ps vs/\PyData.canLayAll0 ps=true/\PyData.depthAll ps<=n:=by
    intro ds
    induction ds with
    | nil =>
      intro ps vs h r
      have h:ps=[]:=by simpa using h.symm
      subst h
      exact⟨r,rfl,Nat.zero_le _⟩
    | cons d ds ihd =>
      intro ps vs h r
      obtain⟨y,rr,h1,h2,rfl⟩:=zaK h
      obtain⟨v,w,rfl,r1,r2⟩:=r
      obtain⟨a1,a2,a3⟩:=ih d y v h1 r1
      obtain⟨b1,b2,b3⟩:=ihd rr w h2 r2
      refine⟨⟨v,w,rfl,a1,b1⟩,by simp[PyData.canLayAll0,a2,b2],?_⟩
      simp only[PyData.depthAll]
      omega
   intro d p v h r
   cases d with
   |non=>simp only[pd] at h;cases h;exact⟨r,rfl,Nat.zero_le _⟩
   |bl b=>simp only[pd] at h;cases h;exact⟨r,rfl,Nat.zero_le _⟩
   |int i=>simp only[pd] at h;cases h;exact⟨r,rfl,Nat.zero_le _⟩
   | str x =>
     simp only[pd] at h
     split at h
     · rename_i c;cases h;exact⟨r,c,Nat.zero_le _⟩
     · cases h
   | tup ds =>
     simp only[pd] at h
     cases e:ds.mapM (pd S n) with
     |none=>rw[e] at h;cases h
     | some ps =>
       rw[e] at h
       have h:PyData.tuple ps=p:=by simpa using h
       subst h
       obtain⟨a,xs,rfl,ha,rr⟩:=r
       obtain⟨b1,b2,b3⟩:=all ds ps xs e rr
       refine⟨⟨a,xs,rfl,ha,b1⟩,by simp[PyData.canLay0,b2],?_⟩
       simp only[PyData.depth]
       omega
   | ref l =>
     simp only[pd] at h
     split at h
     · rename_i ds eg
       cases e:ds.mapM (pd S n) with
       |none=>rw[e] at h;cases h
       | some ps =>
         rw[e] at h
         have h:PyData.list ps=p:=by simpa using h
         subst h
         obtain⟨a,h1,rfl⟩:=r
         obtain⟨a2,h2,xs,ha,rr⟩:=hH.obj _ _ eg
         rw[h1] at h2;cases h2
         obtain⟨b1,b2,b3⟩:=all ds ps xs e rr
         refine⟨⟨a,xs,rfl,ha,b1⟩,by simp[PyData.canLay0,b2],?_⟩
         simp only[PyData.depth]
         omega
     · cases h
   |fix ds=>simp only[pd] at h;cases h
noncomputable def rC2 (K:PySem.W.Frag)(op:CmpOp):R2:=fun x y H Qv=>∃ι S d e k,RV K ι H d x/\RV K ι H e y/\RH K ι H S/\cmpD S op d e=some k/\Qv (.bl k) H
theorem zf5 {S:R.St}{d e:D}{k:Bool}(h:eqD S d e=some k):∃a b,pd S 60 d=some a/\pd S 60 e=some b/\k=PyData.eqv a b:=by
 unfold eqD at h
 cases e1:pd S 60 d with
 |none=>rw[e1] at h;cases h
 | some a =>
   rw[e1] at h
   cases e2:pd S 60 e with
   |none=>rw[e2] at h;cases h
   |some b=>rw[e2] at h;injection h with h;exact⟨a,b,rfl,rfl,h.symm⟩
open Classical in
noncomputable def eqRd (h:Heap)(p:PyData)(u:Value):Bool:=if c:∃q as,Reads h u q as/\q.canLay0=true then PyData.eqv c.choose p else false
theorem zlk {h:Heap}{p q:PyData}{u:Value}{as:List Addr}(r:Reads h u q as)(c:q.canLay0=true):eqRd h p u=PyData.eqv q p:=by
 have ex:∃q as,Reads h u q as/\q.canLay0=true:=⟨q,as,r,c⟩
 unfold eqRd
 rw[dif_pos ex]
 obtain⟨as',r',c'⟩:=ex.choose_spec
 rw[SeqAt.Reads.unique _ _ _ _ _ c r r']
theorem zjk {ι:List Addr}{H:Hp}{S:R.St}{pins:List (Addr × Obj)}{σ:L2.St}{s:Shared}{A:Around}(I:Inv X pins σ H s)(hA:A.units+62<cLine)(hH:RH X.K ι H S){x:D}{px:PyData}{vx:V}{ux:Value}(hx:pd S 60 x=some px)(rx:RV X.K ι H x vx)(qx:RelV vx ux) :
  ∀{ds:List D} {vs:List V} {us:List Value} {bs:List Bool},RVs X.K ι H ds vs->Vals vs us->ds.mapM (fun z=>eqD S z x)=some bs->us.any (eqRd s.heap px)=bs.any id/\∀u∈us,SeqAt.EqAt A s u ux (eqRd s.heap px u):=by
 obtain⟨x1,x2,x3⟩:=zgt hH 60 x px vx hx rx
 obtain⟨asx,rdx⟩:=Rep.reads I px vx ux x1 qx
 intro ds
 induction ds with
 | nil =>
   intro vs us bs r rv h
   cases (show vs=[] from r)
   cases rv
   have h:bs=[]:=by simpa using h.symm
   subst h
   exact⟨rfl,fun u hu=>nomatch hu⟩
 | cons d ds ih =>
   intro vs us bs r rv h
   obtain⟨v,w,rfl,r1,r2⟩:=r
   obtain⟨b,rr,e,h2,rfl⟩:=zaK h
   cases rv with
   | cons q1 q2 =>
     rename_i u us'
     obtain⟨a,b',e1,e2,rfl⟩:=zf5 e
     rw[hx] at e2;cases e2
     obtain⟨p1,p2,p3⟩:=zgt hH 60 d a v e1 r1
     obtain⟨as,rd⟩:=Rep.reads I a v u p1 q1
     have hq:=zlk (p:=px) rd p2
     obtain⟨i1,i2⟩:=ih r2 q2 h2
     refine⟨by simp[hq,i1],fun z hz=>?_⟩
     rcases List.mem_cons.mp hz with rfl|hz
     · rw[hq]
       exact SeqAt.eqAt_reads a px A s z ux as asx rd rdx p2 x2 (by omega)
     · exact i2 z hz
theorem zjK {ι:List Addr}{H:Hp}{S:R.St}(hH:RH X.K ι H S){d:D}{v:V}{ds:List D}(h:zcj S d=some ds)(r:RV X.K ι H d v):∃a xs,v=.ref a/\(SqL X.K H a xs\/SqT X.K H a xs)/\RVs X.K ι H ds xs:=by
 cases d with
 | tup es =>
   cases h
   obtain⟨a,xs,rfl,ha,rr⟩:=r
   exact⟨a,xs,rfl,.inr (SqT.of ha),rr⟩
 | fix es =>
   cases h
   obtain⟨a,xs,rfl,ha,rr⟩:=r
   exact⟨a,xs,rfl,.inl ha.sq,rr⟩
 | ref l =>
   simp only[zcj] at h
   split at h
   · rename_i ds' e
     cases h
     obtain⟨a,h1,rfl⟩:=r
     obtain⟨a2,h2,xs,ha,rr⟩:=hH.obj _ _ e
     rw[h1] at h2;cases h2
     exact⟨a,xs,rfl,.inl (SqL.of ha),rr⟩
   · cases h
 |_=>cases h
theorem znd {S:R.St}{x:D}{ys:List D}{k:Bool}(h:inD S x ys=some k):∃bs,ys.mapM (fun z=>eqD S z x)=some bs/\k=bs.any id:=by
 unfold inD at h
 cases e:ys.mapM (fun z=>eqD S z x) with
 |none=>rw[e] at h;cases h
 |some bs=>rw[e] at h;injection h with h;exact⟨bs,rfl,h.symm⟩
theorem zf1:∀(as bs:List Int),R.lexLt as bs=HT.lexLt as bs
 | [],[]=>by simp[R.lexLt,HT.lexLt]
 | [],_::_=>by simp[R.lexLt,HT.lexLt]
 |_::_,[]=>by simp[R.lexLt,HT.lexLt]
 |a::as,b::bs=>by simp[R.lexLt,HT.lexLt,zf1 as bs]
theorem nonV {K:PySem.W.Frag}{ι:List Addr}{H:Hp}{d:D}{x:V}(hd:RV K ι H d x):decide (x=V.non)=zla d:=by
 cases d with
 |non=>rw[show x=.non from hd];rfl
 |bl b=>rw[show x=.bl b from hd];rfl
 |int b=>rw[show x=.int b from hd];rfl
 |str b=>rw[show x=.str b from hd];rfl
 |tup b=>obtain⟨_,_,rfl,_⟩:=hd;rfl
 |ref b=>obtain⟨_,_,rfl⟩:=hd;rfl
 |fix b=>obtain⟨_,_,rfl,_⟩:=hd;rfl
theorem zjU (hu:X.A.units+128<cLine)(op:CmpOp):OpR X (compareOp op) (rC2 X.K op):=by
 intro pins s σ H x y v u Qv I rx ry ⟨ι,S,d,e,k,hd,he,hH,hc,q⟩
 unfold cmpD at hc
 split at hc
 · rename_i i j
   obtain rfl:x=.int i:=hd
   obtain rfl:y=.int j:=he
   unfold cmpI at hc
   split at hc
   · cases hc;exact zoj pins s σ H _ _ v u Qv I rx ry ⟨rfl,by simpa using q⟩
   · cases hc;exact zoe pins s σ H _ _ v u Qv I rx ry ⟨rfl,by simpa using q⟩
   · cases hc;exact zof pins s σ H _ _ v u Qv I rx ry ⟨i,j,rfl,rfl,q⟩
   · cases hc;exact zog pins s σ H _ _ v u Qv I rx ry ⟨i,j,rfl,rfl,q⟩
   · cases hc;exact zoh pins s σ H _ _ v u Qv I rx ry ⟨i,j,rfl,rfl,q⟩
   · cases hc;exact zoi pins s σ H _ _ v u Qv I rx ry ⟨i,j,rfl,rfl,q⟩
   · cases hc
 · unfold cmpO at hc
   have isin:∀(k:Bool),((zcj S e).bind fun ys=>inD S d ys)=some k->∃a xs,y=.ref a/\(SqL X.K H a xs\/SqT X.K H a xs)/\∃(px:PyData),∀us,Vals xs us->us.any (eqRd s.heap px)=k/\∀z∈us,SeqAt.EqAt X.A.in1 s z v (eqRd s.heap px z):=by
    intro k h
    cases es:zcj S e with
    |none=>rw[es] at h;cases h
    | some ys =>
      rw[es] at h
      obtain⟨bs,hb,rfl⟩:=znd (show inD S d ys=some k from h)
      obtain⟨a,xs,rfl,hq,rr⟩:=zjK hH es he
      refine⟨a,xs,rfl,hq,?_⟩
      cases hp:pd S 60 d with
      |some px=>exact⟨px,fun us hus=>zjk I (show X.A.units+1+62<cLine by omega) hH hp hd rx rr hus hb⟩
      | none =>
        cases ys with
        | nil =>
          refine⟨.none,fun us hus=>?_⟩
          cases (show xs=[] from rr)
          cases hus
          have hb:bs=[]:=by simpa using hb.symm
          subst hb
          exact⟨rfl,fun z hz=>nomatch hz⟩
        | cons z zs =>
          obtain⟨b,r,h1,_⟩:=zaK hb
          obtain⟨_,_,_,h3,_⟩:=zf5 h1
          rw[hp] at h3;cases h3
   split at hc
   · rcases zf6 hH hd he hc with ⟨us,a,b,rfl,rfl,ha,hb,rfl⟩|hc
     · cases (show v=Value.ref a from rx)
       cases (show u=Value.ref b from ry)
       exact zoz (by omega) I ha hb ⟨.bl true,H,I,rfl,q⟩
     obtain⟨a,b,h1,h2,rfl⟩:=zf5 hc
     obtain⟨p1,p2,p3⟩:=zgt hH 60 d a x h1 hd
     obtain⟨q1,q2,q3⟩:=zgt hH 60 e b y h2 he
     exact zmU (by omega) pins s σ H x y v u Qv I rx ry ⟨a,b,p1,q1,p2,q2,by omega,q⟩
   · cases hk:zeS S d e with
     |none=>rw[hk] at hc;cases hc
     | some k' =>
       rw[hk] at hc
       rcases zf6 hH hd he hk with ⟨us,a,b,rfl,rfl,ha,hb,rfl⟩|hk
       · cases (show v=Value.ref a from rx)
         cases (show u=Value.ref b from ry)
         have hc:k=false:=by simpa using hc.symm
         subst hc
         exact zoy (by omega) I ha hb ⟨.bl false,H,I,rfl,q⟩
       obtain⟨a,b,h1,h2,rfl⟩:=zf5 hk
       obtain⟨p1,p2,p3⟩:=zgt hH 60 d a x h1 hd
       obtain⟨q1,q2,q3⟩:=zgt hH 60 e b y h2 he
       have hc:k = !PyData.eqv a b:=by simpa using hc.symm
       subst hc
       exact zmP (by omega) pins s σ H x y v u Qv I rx ry ⟨a,b,p1,q1,p2,q2,by omega,q⟩
   · split at hc
     · obtain rfl:y=.non:=he
       cases hc
       obtain rfl:u=Value.none:=ry
       refine is_none_gen ⟨.bl _,H,I,rfl,?_⟩
       rw[rx.none_iff,nonV hd];exact q
     · rename_i b _
       split at hc
       · rename_i a _
         cases hc
         exact zmT pins s σ H _ _ v u Qv I rx ry ⟨a,b,hd,he,q⟩
       · cases hc
     · cases hc
   · split at hc
     · obtain rfl:y=.non:=he
       cases hc
       obtain rfl:u=Value.none:=ry
       refine isnot_none_gen ⟨.bl _,H,I,rfl,?_⟩
       rw[rx.none_iff,nonV hd];exact q
     · cases hc
   · rcases zf3 hH hd he hc with ⟨a,o,rfl,g,rfl⟩|⟨a,kxs,kk,c,rfl,ha,tk,rfl,hk,rfl⟩|hc
     · cases (show u=Value.ref a from ry)
       exact d_in (by omega) I g rx fun s3 I3=>⟨.bl o.isSome,H,I3,rfl,q⟩
     · cases (show u=Value.ref a from ry)
       cases (show v=Value.ref c from rx)
       exact zoA (by omega) I ha tk hk fun s3 I3=>⟨.bl _,H,I3,rfl,q⟩
     obtain⟨a,xs,rfl,hq,px,hp⟩:=isin _ hc
     cases (show u=Value.ref a from ry)
     rcases hq with hq|hq
     · obtain⟨its,r,pl,hz⟩:=I.list hq
       obtain⟨h1,h2⟩:=hp its r
       exact SeqAt.in_listAt (eqRd s.heap px) pl.isList (fun w hw=>h2 w (by simpa using hw)) (zan I q (by simpa using h1.symm))
     · obtain⟨its,r,pl,hz⟩:=I.tuple hq
       obtain⟨h1,h2⟩:=hp its r
       exact SeqAt.in_tupleAt (eqRd s.heap px) pl (fun w hw=>h2 w (by simpa using hw)) (zan I q (by simpa using h1.symm))
   · cases hk:zfq S d e with
     |none=>rw[hk] at hc;cases hc
     | some k' =>
       rw[hk] at hc
       have hc:k = !k':=by simpa using hc.symm
       subst hc
       rcases zf3 hH hd he hk with ⟨a,o,rfl,g,rfl⟩|⟨a,kxs,kk,c,rfl,ha,tk,rfl,h3,rfl⟩|hk
       · cases (show u=Value.ref a from ry)
         exact zln (by omega) I g rx fun s3 I3=>⟨.bl (!o.isSome),H,I3,rfl,q⟩
       · cases (show u=Value.ref a from ry)
         cases (show v=Value.ref c from rx)
         exact zjz (by omega) I ha tk h3 fun s3 I3=>⟨.bl _,H,I3,rfl,q⟩
       obtain⟨a,xs,rfl,hq,px,hp⟩:=isin k' hk
       cases (show u=Value.ref a from ry)
       rcases hq with hq|hq
       · obtain⟨its,r,pl,hz⟩:=I.list hq
         obtain⟨h1,h2⟩:=hp its r
         exact SeqAt.notIn_listAt (eqRd s.heap px) pl.isList (fun w hw=>h2 w (by simpa using hw)) (zan I q (by simpa using congrArg (!·) h1.symm))
       · obtain⟨its,r,pl,hz⟩:=I.tuple hq
         obtain⟨h1,h2⟩:=hp its r
         exact SeqAt.notIn_tupleAt (eqRd s.heap px) pl (fun w hw=>h2 w (by simpa using hw)) (zan I q (by simpa using congrArg (!·) h1.symm))
   · split at hc
     · rename_i xs ys _
       cases e1:zbG xs with
       |none=>rw[e1] at hc;cases hc
       | some ns =>
         cases e2:zbG ys with
         |none=>rw[e1,e2] at hc;cases hc
         | some ms =>
           rw[e1,e2] at hc
           have hc:k=lexLt ns ms:=by simpa using hc.symm
           subst hc
           obtain⟨a,us,rfl,ha,r1⟩:=hd
           obtain⟨b,ws,rfl,hb,r2⟩:=he
           rw[zcf e1] at r1
           rw[zcf e2] at r2
           rw[r1.ints_eq] at ha
           rw[r2.ints_eq] at hb
           exact zmS (by omega) pins s σ H _ _ v u Qv I rx ry ⟨a,b,ns,ms,rfl,rfl,SqT.of ha,SqT.of hb,by rw[<-zf1];exact q⟩
     · cases hc
   · cases hc
end
end R
end
section
namespace R
open PySem PySem.Spec PyProof.Rows L2
variable [Mks]
noncomputable def zaj:Expr->Bool|.Starred _ _=>false|_=>true
noncomputable def zbm:Expr->Bool|.ListComp ..=>false|.SetComp ..=>false|.DictComp ..=>false|_=>true
noncomputable def zdT:Expr->Bool|.Slice ..=>false|_=>true
noncomputable def zbX:Expr->Bool|.Set ..=>false|_=>true
noncomputable def zbr:Expr->Bool|.Call (.Name _ _) [] [] _=>false|_=>true
noncomputable def zfQ:Expr->Bool|.UnaryOp .Not _ _=>false|.BoolOp ..=>false|.IfExp ..=>false|.Compare ..=>false|_=>true
noncomputable def zoE:Expr->Bool|.Tuple ..=>false|_=>true
theorem zak {e:Expr}(h:zaj e=true)(es:List Expr)(env:Env):starEach (e::es) env=(false,eval e env)::starEach es env:=by
 cases e<;>first|rfl|cases h
theorem zdL {e:Expr}(h:zbm e=true)(t:Option Expr)(l:Nat)(env:Env):swapsWith e t l env=pure false:=by
 cases e<;>first|rfl|cases h
theorem zon {e:Expr}(h:zdT e=true):ziq e:=by
 intro o i
 cases e<;>first|rfl|cases h
theorem zhw {e:Expr}(h:zbX e=true)(op:CmpOp):behindInMarks op e=false:=by
 cases e<;>first|rfl|cases h
theorem zcA {e:Expr}(h:zbr e=true)(x:Str)(env:Env)(w:Sem Value):attributeBase e x env w=w:=by
 unfold attributeBase
 split
 · cases h
 · rfl
theorem zlK {e:Expr}(h:zfQ e=true)(env:Env)(w:Sem Value):isTrue e env w=(do let v <-w;standAt e.pos;holding [v] (truthy v)):=by
 cases e with
 |UnaryOp op x p=>cases op<;>first|rfl|cases h
 |_=>first|rfl|cases h
theorem zfr {e:Expr}(h:zbX e=true)(env:Env)(x:Value):foldedSetIterable e env x=pure x:=by
 cases e<;>first|rfl|cases h
theorem zaS {pos:Pos}{env:Env}:∀{es:List Expr},es.all zaj=true->(backTo pos (starEach es env)).any (·.1)=false
 | [],_=>rfl
 | e :: es, h => by
   rw[List.all_cons,Bool.and_eq_true] at h
   rw[zak h.1]
   exact zaS (es:=es) h.2
structure Tab where
 blt:List Str
 cons:List (Str × D)
 fns:List (Str × List Str × Nat)
 cls:List Str:=[]
 flds:List Str:=[]
 mts:List (Nat × Str × Nat):=[]
 inits:List (Nat × Nat × Nat):=[]
 cms:List (Str × Str × Nat):=[]
 isas:List (Str × List Nat):=[]
noncomputable def zjj (sc:Scope)(x:Str):Bool:=match sc.names.lookup x with|some .local=>true|some .cell=>true|some .free=>true|_=>false
noncomputable def zeL (sc:Scope)(x:Str):Bool:=match sc.names.lookup x with|some .local=>true|some .cell=>true|_=>false
noncomputable def isGl (sc:Scope)(x:Str):Bool:=match sc.names.lookup x with|some .globalImplicit=>true|_=>false
noncomputable def eqC:D->D->Bool
 |.non,.non=>true|.bl a,.bl b=>a == b|.int a,.int b=>a == b|.str a,.str b=>a == b|_,_=>false
theorem znn:∀{d e:D},eqC d e=true->d=e:=by
 intro d e h
 cases d<;>cases e<;>first|rfl|(simp only[eqC,beq_iff_eq] at h;subst h;rfl)|cases h
noncomputable def sV:D->V
 |.non=>.non|.bl b=>.bl b|.int i=>.int i|.str x=>.str x|_=>.non
noncomputable def ziI:D->Bool
 |.non=>true|.bl _=>true|.int _=>true|.str _=>true|_=>false
theorem zn3 {K:PySem.W.Frag}{ι:List Addr}{H:Hp}{d:D}(h:ziI d=true):RV K ι H d (sV d):=by
 cases d<;>first|rfl|cases h
noncomputable def conB:D->Const->Bool
 |.non,.none=>true|.bl a,.bool b=>a == b|.int a,.int b=>a == b|.str a,.str b=>a == b|_,_=>false
noncomputable def bltB (T:Tab)(sc:Scope)(x:Str):Bool:=isGl sc x&&T.blt.contains x
noncomputable def spF (K:PySem.W.Frag)(cf:CF)(f:Nat):Sp:=fun vs H Qv _=>∃ι S ds,RVs K ι H ds vs/\RH K ι H S/\W (cf f ds S) (fun d T=>∀v H' ι',Ext ι H ι' H'->RV K ι' H' d v->RH K ι' H' T->Qv v H')
structure HasM (P:Program) (w:World) (K:PySem.W.Frag) (mg:Str->Option Value) (base:Heap) (k c:Nat) (m:Str) (sp:Sp):Prop where
 ex:∃(C fa:Addr) (fd:FuncData) (ps:List Str),Mks.cl[c]?=some C/\Cls K C/\Meth K C m fa/\FnOk P w K mg base CX0 k fa fd ps sp/\Binds K fd ps []
structure HasI (P:Program) (w:World) (K:PySem.W.Frag) (mg:Str->Option Value) (base:Heap) (k c j:Nat) (sp:Sp):Prop where
 ex:∃(C fa:Addr) (fd:FuncData) (ps:List Str),Mks.cl[c]?=some C/\Mk K C fa/\FnOk P w K mg base CX0 k fa fd ps sp/\Binds K fd ps (List.replicate j Value.none)
structure HasC (P:Program) (w:World) (K:PySem.W.Frag) (mg:Str->Option Value) (base:Heap) (k:Nat) (x m:Str) (sp:Sp):Prop where
 ex:∃(C fa:Addr) (fd:FuncData) (ps:List Str) (mc:Value),mg x=some (.ref C)/\PySem.W.specialIn K (.ref C) "__getattribute__"=some (some (.builtin "type.__getattribute__"))/\PySem.W.readsIn K C mc=true/\PySem.W.findCls K (.ref C) mc m=some (.val (.ref fa))/\
  PySem.W.keepIn K (.ref fa)=true/\FnOk P w K mg base CX0 k fa fd ps sp/\Binds K fd ps []
structure IsaOk (K:PySem.W.Frag) (C:Addr):Prop where
 ha:PySem.W.findIn K (.ref C) "__class__"=some (some (.builtin "object.__class__"))
 hn:PySem.W.specialIn K (.builtin "object.__class__") "__get__"=some (some (.builtin "getset_descriptor.__get__"))
 ht:PySem.W.takesIn K (.builtin "object.__class__")=some true
 hm:PySem.W.mroIn K C (.type "object")=some true
structure TabOk (T:Tab) (cf:CF) (k:Nat) (P:Program) (w:World) (K:PySem.W.Frag) (mg:Str->Option Value) (base:Heap):Prop where
 blt:∀x,T.blt.contains x=true->mg x=none
 con:∀x d,T.cons.lookup x=some d->ziI d=true/\∃u,mg x=some u/\RelV (sV d) u
 fns:∀f x ps nd,T.fns[f]?=some (x,ps,nd)->∀j,j<=nd->Has P w K mg base k x ps (List.replicate j .non) (spF K cf f)
 frm:CFok cf
 cls:∀(c:Nat) (x:Str),T.cls[c]?=some x->∃C,Mks.cl[c]?=some C/\Cls K C/\mg x=some (.ref C)/\∀f,T.flds.contains f=true->NoAttr K C f
 mth:∀(c:Nat) (m:Str) (fi:Nat),T.mts.contains (c,m,fi)=true->HasM P w K mg base k c m (spF K cf fi)
 ini:∀(c fi j:Nat),T.inits.contains (c,fi,j)=true->HasI P w K mg base k c j (spF K cf fi)
 cmd:∀(x m:Str) (fi:Nat),T.cms.contains (x,m,fi)=true->HasC P w K mg base k x m (spF K cf fi)
 cln:(T.flds≠[]\/T.inits≠[]\/T.isas≠[])->Mks.cl.length<=T.cls.length
 isa:∀(x:Str) (cs:List Nat),T.isas.contains (x,cs)=true->∃D,mg x=some (.ref D)/\∀c C,Mks.cl[c]?=some C->IsaOk K C/\PySem.W.kitOne K (.ref C) (.ref D)=some (cs.contains c)
structure Gd (T:Tab) (cf:CF) (k:Nat) (N:List Str) (sc:Scope) (X:Cx):Prop where
 nm:X.N=N
 nd:N.Nodup
 loc:∀x,sc.names.lookup x=some .local->X.env.scope.names.lookup x=some .local
 cell:∀x,sc.names.lookup x=some .cell->X.env.scope.names.lookup x=some .cell
 free:∀x,sc.names.lookup x=some .free->X.env.scope.names.lookup x=some .free\/X.env.scope.names.lookup x=some .cell
 glob:∀x,sc.names.lookup x=some .globalImplicit->X.env.scope.names.lookup x=some .globalImplicit
 fn:(∀x,X.fn x=true)\/∀x,sc.names.lookup x≠some .cell
 calm:X.calm=true
 xe:X.xe=fun _ _=>False
 room':Room (k+1) X.A
 tab:TabOk T cf k X.prog X.w X.K X.mg X.base
section
variable {T:Tab} {cf:CF} {k:Nat} {N:List Str} {sc:Scope} {X:Cx}
theorem Gd.room (G:Gd T cf k N sc X):Room k X.A:=G.room'.mono (Nat.le_succ k)
theorem Gd.hu (G:Gd T cf k N sc X):X.A.units+128<cLine:=by have:=G.room.un;omega
theorem Gd.hu64 (G:Gd T cf k N sc X):X.A.units+64<cLine:=by have:=G.room.un;omega
theorem Gd.vis (G:Gd T cf k N sc X){x:Str}(h:zjj sc x=true):Vis X.env.scope x:=by
 unfold zjj at h
 split at h
 · rename_i e;exact .inl (G.loc x e)
 · rename_i e;exact .inr (.inl (G.cell x e))
 · rename_i e
   rcases G.free x e with q|q
   · exact .inr (.inr q)
   · exact .inr (.inl q)
 · cases h
theorem Gd.lc (G:Gd T cf k N sc X){x:Str}(h:zeL sc x=true):Loc X.env.scope x/\(X.fn x=true\/X.env.scope.names.lookup x=some .local):=by
 unfold zeL at h
 split at h
 · rename_i e;exact⟨.inl (G.loc x e),.inr (G.loc x e)⟩
 · rename_i e
   refine⟨.inr (G.cell x e),?_⟩
   rcases G.fn with q|q
   · exact .inl (q x)
   · exact absurd e (q x)
 · cases h
theorem Gd.gl (G:Gd T cf k N sc X){x:Str}(h:isGl sc x=true):Gl X x:=by
 unfold isGl at h
 split at h
 · rename_i e;exact G.glob x e
 · cases h
end
noncomputable def RS (K:PySem.W.Frag)(ι:List Addr)(H:Hp)(δ:Ev)(σ:L2.St):Prop:=δ.length=σ.length/\∀(i:Nat) (d:D),δ[i]?=some (some d)->∃v,σ[i]?=some (some v)/\RV K ι H d v
theorem RS.ext {K:PySem.W.Frag}{ι ι':List Addr}{H H':Hp}{δ:Ev}{σ:L2.St}(h:RS K ι H δ σ)(x:Ext ι H ι' H'):RS K ι' H' δ σ:=
 ⟨h.1,fun i d e=>let ⟨v,e1,r⟩:=h.2 i d e;⟨v,e1,r.ext x⟩⟩
theorem RS.set {K:PySem.W.Frag}{ι:List Addr}{H:Hp}{δ:Ev}{σ:L2.St}(h:RS K ι H δ σ){d:D}{v:V}(r:RV K ι H d v)(i:Nat):RS K ι H (δ.set i (some d)) (σ.set i (some v)):=by
 refine⟨by simp[h.1],fun j e hj=>?_⟩
 by_cases hij:i=j
 · subst hij
   have hl:i<δ.length:=by
    have:=(List.getElem?_eq_some_iff.mp hj).1
    simpa using this
   rw[List.getElem?_set_self hl] at hj
   cases hj
   exact⟨v,List.getElem?_set_self (by rw[<-h.1];exact hl),r⟩
 · rw[List.getElem?_set_ne hij] at hj
   obtain⟨v',e1,r'⟩:=h.2 j e hj
   exact⟨v',by rw[List.getElem?_set_ne hij];exact e1,r'⟩
noncomputable def tE (K:PySem.W.Frag)(cf:CF)(ce:CE):TE:=fun σ H Qv=>∃δ ι S Q,RS K ι H δ σ/\RH K ι H S/\W (evE cf ce δ S) Q/\∀v H',Lf K ι H Q v H'->Qv v H'
noncomputable def LfB (K:PySem.W.Frag)(ι:List Addr)(H:Hp)(Q:Bool->R.St->Prop):Bool->Hp->Prop:=fun b H'=>∃ι' S',Ext ι H ι' H'/\RH K ι' H' S'/\Q b S'
noncomputable def tT (K:PySem.W.Frag)(cf:CF)(ce:CE):TT:=fun σ H Qv=>∃δ ι S Q,RS K ι H δ σ/\RH K ι H S/\W (evT cf ce δ S) Q/\∀b H',LfB K ι H Q b H'->Qv b H'
noncomputable def LfA (K:PySem.W.Frag)(ι:List Addr)(H:Hp)(Q:List D->R.St->Prop):List V->Hp->Prop:=fun vs H'=>∃ds ι' S',Ext ι H ι' H'/\RVs K ι' H' ds vs/\RH K ι' H' S'/\Q ds S'
noncomputable def tAs (K:PySem.W.Frag)(cf:CF)(ces:CEs):TA:=fun σ H Qv=>∃δ ι S Q,RS K ι H δ σ/\RH K ι H S/\W (evEs cf ces δ S) Q/\∀vs H',LfA K ι H Q vs H'->Qv vs H'
inductive SqK (K:PySem.W.Frag) (ι:List Addr) (H:Hp) (S:R.St) (a:Addr) (xs:List V) (ds:List D) (lks:List Nat):Prop where
 |tmp (h:a∉ι) (e:H a=some (.lst xs)):SqK K ι H S a xs ds lks
 |tup (e:H a=some (.tup xs)):SqK K ι H S a xs ds lks
 |fix (e:FixL K H a xs):SqK K ι H S a xs ds lks
 |own (l:Nat) (hl:l∈lks) (hi:ι[l]?=some a) (hs:S.get l=some (.lst ds)) (e:H a=some (.lst xs)):SqK K ι H S a xs ds lks
noncomputable def Sq (K:PySem.W.Frag)(ι:List Addr)(H:Hp)(S:R.St)(v:V)(ds:List D)(lks:List Nat):Prop:=∃a xs,v=.ref a/\RVs K ι H ds xs/\SqK K ι H S a xs ds lks
noncomputable def LfL (K:PySem.W.Frag)(ι:List Addr)(H:Hp)(Q:List D × List Nat->R.St->Prop):VK:=fun v H'=>∃ds lks ι' S',Ext ι H ι' H'/\Sq K ι' H' S' v ds lks/\RH K ι' H' S'/\Q (ds,lks) S'
noncomputable def tL (K:PySem.W.Frag)(cf:CF)(cl:CL):TE:=fun σ H Qv=>∃δ ι S Q,RS K ι H δ σ/\RH K ι H S/\W (evL cf cl δ S) Q/\∀v H',LfL K ι H Q v H'->Qv v H'
noncomputable def LfT (K:PySem.W.Frag)(ι:List Addr)(H:Hp)(Q:List D × List Nat->R.St->Prop):VK:=fun v H'=>∃ds ι' S' a xs,Ext ι H ι' H'/\v=.ref a/\RVs K ι' H' ds xs/\a∉ι'/\H' a=some (.lst xs)/\RH K ι' H' S'/\H a=none/\Q (ds,[]) S'
noncomputable def tLt (K:PySem.W.Frag)(cf:CF)(cl:CL):TE:=fun σ H Qv=>∃δ ι S Q,RS K ι H δ σ/\RH K ι H S/\W (evL cf cl δ S) Q/\∀v H',LfT K ι H Q v H'->Qv v H'
theorem LfT.l {K:PySem.W.Frag}{ι:List Addr}{H:Hp}{Q:List D × List Nat->R.St->Prop}{v:V}{H':Hp}(h:LfT K ι H Q v H'):LfL K ι H Q v H':=by
 obtain⟨ds,ι',S',a,xs,x,rfl,r,ha,e,hh,_,q⟩:=h
 exact⟨ds,[],ι',S',x,⟨a,xs,rfl,r,.tmp ha e⟩,hh,q⟩
theorem PE.imp {X:Cx}{e:Expr}{t t':TE}(h:PE X e t)(i:∀σ H Q,t' σ H Q->t σ H Q):PE X e t':=fun pins s σ H Q I q=>h pins s σ H Q I (i σ H Q q)
theorem PT.imp {X:Cx}{e:Expr}{t t':TT}(h:PT X e t)(i:∀σ H Q,t' σ H Q->t σ H Q):PT X e t':=fun pins s σ H Q I q=>h pins s σ H Q I (i σ H Q q)
theorem PW.imp {X:Cx}{e:Expr}{t t':TT}(h:PW X e t)(i:∀σ H Q,t' σ H Q->t σ H Q):PW X e t':=fun wh pins s σ H Q I q=>h wh pins s σ H Q I (i σ H Q q)
theorem PA.imp {X:Cx}{es:List Expr}{t t':TA}(h:PA X es t)(i:∀σ H Q,t' σ H Q->t σ H Q):PA X es t':=fun pos pins s σ H Q I q=>h pos pins s σ H Q I (i σ H Q q)
theorem tE.run {K:PySem.W.Frag}{cf:CF}{a:CE}{δ:Ev}{σ:L2.St}{ι:List Addr}{H:Hp}{S:R.St}{Q:D->R.St->Prop}{Qv:VK}(hs:RS K ι H δ σ)(hh:RH K ι H S)(w:W (evE cf a δ S) Q)
  (h:∀d v ι' H' S',Ext ι H ι' H'->RS K ι' H' δ σ->RH K ι' H' S'->RV K ι' H' d v->Q d S'->Qv v H'):tE K cf a σ H Qv:=
 ⟨δ,ι,S,Q,hs,hh,w,fun v H' ⟨d,ι',S',x,r,hh',q⟩=>h d v ι' H' S' x (hs.ext x) hh' r q⟩
theorem tT.run {K:PySem.W.Frag}{cf:CF}{a:CE}{δ:Ev}{σ:L2.St}{ι:List Addr}{H:Hp}{S:R.St}{Q:Bool->R.St->Prop}{Qv:Bool->Hp->Prop}(hs:RS K ι H δ σ)(hh:RH K ι H S)(w:W (evT cf a δ S) Q)
  (h:∀b ι' H' S',Ext ι H ι' H'->RS K ι' H' δ σ->RH K ι' H' S'->Q b S'->Qv b H'):tT K cf a σ H Qv:=
 ⟨δ,ι,S,Q,hs,hh,w,fun b H' ⟨ι',S',x,hh',q⟩=>h b ι' H' S' x (hs.ext x) hh' q⟩
theorem tAs.run {K:PySem.W.Frag}{cf:CF}{a:CEs}{δ:Ev}{σ:L2.St}{ι:List Addr}{H:Hp}{S:R.St}{Q:List D->R.St->Prop}{Qv:List V->Hp->Prop}(hs:RS K ι H δ σ)(hh:RH K ι H S)(w:W (evEs cf a δ S) Q)
  (h:∀ds vs ι' H' S',Ext ι H ι' H'->RS K ι' H' δ σ->RH K ι' H' S'->RVs K ι' H' ds vs->Q ds S'->Qv vs H'):tAs K cf a σ H Qv:=
 ⟨δ,ι,S,Q,hs,hh,w,fun v H' ⟨d,ι',S',x,r,hh',q⟩=>h d v ι' H' S' x (hs.ext x) hh' r q⟩
theorem PE.ofT {X:Cx}{e:Expr}{cf:CF}{cl:CL}(h:PE X e (tLt X.K cf cl)):PE X e (tL X.K cf cl):=
 PE.imp h fun σ H Qv ⟨δ,ι,S,Q,hs,hh,w,q⟩=>⟨δ,ι,S,Q,hs,hh,w,fun v H' l=>q v H' l.l⟩
theorem tLt.run {K:PySem.W.Frag}{cf:CF}{a:CL}{δ:Ev}{σ:L2.St}{ι:List Addr}{H:Hp}{S:R.St}{Q:List D × List Nat->R.St->Prop}{Qv:VK}(hs:RS K ι H δ σ)(hh:RH K ι H S)(w:W (evL cf a δ S) Q)
  (h:∀ds p xs ι' H' S',Ext ι H ι' H'->RS K ι' H' δ σ->RH K ι' H' S'->RVs K ι' H' ds xs->p∉ι'->H' p=some (.lst xs)->H p=none->Q (ds,[]) S'->Qv (.ref p) H'):tLt K cf a σ H Qv:=
 ⟨δ,ι,S,Q,hs,hh,w,fun v H' ⟨ds,ι',S',p,xs,x,e,r,hp,hx,hh',hn,q⟩=>e▸h ds p xs ι' H' S' x (hs.ext x) hh' r hp hx hn q⟩
theorem tL.run {K:PySem.W.Frag}{cf:CF}{a:CL}{δ:Ev}{σ:L2.St}{ι:List Addr}{H:Hp}{S:R.St}{Q:List D × List Nat->R.St->Prop}{Qv:VK}(hs:RS K ι H δ σ)(hh:RH K ι H S)(w:W (evL cf a δ S) Q)
  (h:∀ds lks v ι' H' S',Ext ι H ι' H'->RS K ι' H' δ σ->RH K ι' H' S'->Sq K ι' H' S' v ds lks->Q (ds,lks) S'->Qv v H'):tL K cf a σ H Qv:=
 ⟨δ,ι,S,Q,hs,hh,w,fun v H' ⟨ds,lks,ι',S',x,r,hh',q⟩=>h ds lks v ι' H' S' x (hs.ext x) hh' r q⟩
end R
end
section
namespace R
open PySem PySem.Spec PyProof.Rows L2
variable [Mks]
section
variable {T:Tab} {cf:CF} {k:Nat} {N:List Str} {sc:Scope} {X:Cx} {pos:Pos}
theorem zee {α:Type}{o:Out α}{Q:α->R.St->Prop}(h:W o Q):∃a S,o=.ok a S/\Q a S:=W.iff.mp h
theorem zaR {α:Type}{S:R.St}{o:Option α}{Q:α->R.St->Prop}(h:W (lift S o) Q):∃a,o=some a/\Q a S:=by
 cases o with
 |none=>exact h.elim
 |some a=>exact⟨a,rfl,h⟩
theorem zl8 (G:Gd T cf k N sc X){i:Nat}{x:Str}(h1:N[i]?=some x)(h2:zjj sc x=true)(h3:(x == ("__debug__":Str))=false)(h4:(x == ("__classdict__":Str))=false):PE X (.Name x pos) (tE X.K cf (.loc i)):=by
 refine PE.imp (zmz (i:=i) (by rw[G.nm];exact h1) (G.vis h2) h3 h4) fun σ H Qv ⟨δ,ι,S,Q,hs,hh,w,q⟩=>?_
 simp only[evE] at w
 obtain⟨d,e,hq⟩:=zaR w
 have e':δ[i]?=some (some d):=by
  cases z:δ[i]? with
  |none=>rw[z] at e;cases e
  |some o=>rw[z] at e;simp at e;rw[e]
 obtain⟨v,ev,r⟩:=hs.2 i d e'
 exact⟨v,ev,q v H (Lf.of hh r hq)⟩
theorem zmd {d:D}{c:Const}{j:Nat}(h:conB d c=true):PE X (.Constant c j pos) (tE X.K cf (.con d)):=by
 have key:∀{v:V},PE X (.Constant c j pos) (tC v)->(∀K ι H,RV K ι H d v)->PE X (.Constant c j pos) (tE X.K cf (.con d)):=fun {v} hp hr=>
  PE.imp hp fun σ H Qv ⟨δ,ι,S,Q,hs,hh,w,q⟩=>q v H (Lf.of hh (hr _ _ _) (by simpa[evE] using w))
 cases d<;>cases c<;>first
  |exact key zmD fun _ _ _=>rfl
  |cases h
  |(simp only[conB,beq_iff_eq] at h;subst h;exact key zmF fun _ _ _=>rfl)
  |(simp only[conB,beq_iff_eq] at h;subst h;exact key zoc fun _ _ _=>rfl)
  |(simp only[conB,beq_iff_eq] at h;subst h;exact key zmB fun _ _ _=>rfl)
theorem zko (G:Gd T cf k N sc X){d d':D}{x:Str}(h1:isGl sc x=true)(h2:T.cons.lookup x=some d')(h3:eqC d' d=true)(h4:(x == ("__debug__":Str))=false):PE X (.Name x pos) (tE X.K cf (.con d)):=by
 have e:=znn h3
 subst e
 obtain⟨hsc,u,hu,r⟩:=G.tab.con x d' h2
 exact PE.imp (zfj (G.gl h1) hu r h4) fun σ H Qv ⟨δ,ι,S,Q,hs,hh,w,q⟩=>q (sV d') H (Lf.of hh (zn3 hsc) (by simpa[evE] using w))
theorem zmg {ca cb:CE}{a b:Expr}{op:Operator}(ha:PE X a (tE X.K cf ca))(hb:PE X b (tE X.K cf cb)):PE X (.BinOp a op b pos) (tE X.K cf (.bin op ca cb)):=by
 refine PE.imp (zoa (znv op) ha hb) fun σ H Qv ⟨δ,ι,S,Q,hs,hh,w,q⟩=>?_
 simp only[evE,zaa] at w
 refine tE.run hs hh w fun d v ι1 H1 S1 x1 hs1 hh1 r1 w1=>tE.run hs1 hh1 w1 fun e u ι2 H2 S2 x2 hs2 hh2 r2 w2=>?_
 exact⟨ι2,S2,d,e,Q,r1.ext x2,r2,hh2,w2,fun z H3 l=>q z H3 (Lf.up (x1.trans x2) l)⟩
theorem zl4 {ca:CE}{a:Expr}(ha:PE X a (tE X.K cf ca)):PE X (.UnaryOp .USub a pos) (tE X.K cf (.neg ca)):=by
 refine PE.imp (zn8 zlG ha) fun σ H Qv ⟨δ,ι,S,Q,hs,hh,w,q⟩=>?_
 simp only[evE,zaa] at w
 refine tE.run hs hh w fun d v ι1 H1 S1 x1 hs1 hh1 r1 w1=>?_
 cases d with
 | int i =>
   obtain rfl:v=.int i:=r1
   exact⟨i,rfl,q _ _ (Lf.up x1 (Lf.of (d:=.int (-i)) hh1 rfl w1))⟩
 |_=>exact w1.elim
theorem znZ {ca:CE}{a:Expr}(ha:PE X a (tE X.K cf ca)):PE X (.UnaryOp .Not a pos) (tE X.K cf (.nt ca)):=by
 refine PE.imp (zmC ha) fun σ H Qv ⟨δ,ι,S,Q,hs,hh,w,q⟩=>?_
 simp only[evE,zaa] at w
 refine tE.run hs hh w fun d v ι1 H1 S1 x1 hs1 hh1 r1 w1=>?_
 cases d with
 | bl i =>
   obtain rfl:v=.bl i:=r1
   exact⟨i,rfl,q _ _ (Lf.up x1 (Lf.of (d:=.bl (!i)) hh1 rfl w1))⟩
 |_=>exact w1.elim
theorem zme (G:Gd T cf k N sc X){ca cb:CE}{a b:Expr}{op:CmpOp}(ha:PE X a (tE X.K cf ca))(hb:PE X b (tE X.K cf cb))(hm:zbX b=true):PE X (.Compare a [op] [b] pos) (tE X.K cf (.cmp op ca cb)):=by
 refine PE.imp (zkP (zjU G.hu op) ha hb (zhw hm op)) fun σ H Qv ⟨δ,ι,S,Q,hs,hh,w,q⟩=>?_
 simp only[evE,zaa] at w
 refine tE.run hs hh w fun d v ι1 H1 S1 x1 hs1 hh1 r1 w1=>tE.run hs1 hh1 w1 fun e u ι2 H2 S2 x2 hs2 hh2 r2 w2=>?_
 obtain⟨b,hb,w3⟩:=zaR w2
 exact⟨ι2,S2,d,e,b,r1.ext x2,r2,hh2,hb,q _ _ (Lf.up (x1.trans x2) (Lf.of (d:=.bl b) hh2 rfl w3))⟩
theorem zlU (G:Gd T cf k N sc X){ca cb:CE}{a b:Expr}{op:CmpOp}(ha:PE X a (tE X.K cf ca))(hb:PE X b (tE X.K cf cb))(hm:zbX b=true):PT X (.Compare a [op] [b] pos) (tT X.K cf (.cmp op ca cb)):=by
 refine PT.imp (zkF (zjU G.hu op) ha hb (zhw hm op)) fun σ H Qv ⟨δ,ι,S,Q,hs,hh,w,q⟩=>?_
 simp only[evT,zaa] at w
 refine tE.run hs hh w fun d v ι1 H1 S1 x1 hs1 hh1 r1 w1=>tE.run hs1 hh1 w1 fun e u ι2 H2 S2 x2 hs2 hh2 r2 w2=>?_
 obtain⟨b,hb,w3⟩:=zaR w2
 exact⟨ι2,S2,d,e,b,r1.ext x2,r2,hh2,hb,b,rfl,q _ _ ⟨ι2,S2,x1.trans x2,hh2,w3⟩⟩
theorem zjM {ca cb:CE}{a b:Expr}{rest:List Expr}(ha:PE X a (tE X.K cf ca))(hb:PE X (.BoolOp .And (b::rest) pos) (tE X.K cf cb)):PE X (.BoolOp .And (a::b::rest) pos) (tE X.K cf (.and ca cb)):=by
 refine PE.imp (zmK ha hb) fun σ H Qv ⟨δ,ι,S,Q,hs,hh,w,q⟩=>?_
 simp only[evE,zaa] at w
 refine tE.run hs hh w fun d v ι1 H1 S1 x1 hs1 hh1 r1 w1=>?_
 cases d with
 | bl c =>
   obtain rfl:v=.bl c:=r1
   refine⟨c,rfl,?_⟩
   cases c with
   |false=>exact q _ _ (Lf.up x1 (Lf.of (d:=.bl false) hh1 rfl w1))
   |true=>exact⟨δ,ι1,S1,Q,hs1,hh1,w1,fun z H3 l=>q z H3 (Lf.up x1 l)⟩
 |_=>exact w1.elim
theorem zl3 {ca cb:CE}{a b:Expr}{rest:List Expr}(ha:PE X a (tE X.K cf ca))(hb:PE X (.BoolOp .Or (b::rest) pos) (tE X.K cf cb)):PE X (.BoolOp .Or (a::b::rest) pos) (tE X.K cf (.or ca cb)):=by
 refine PE.imp (zn9 ha hb) fun σ H Qv ⟨δ,ι,S,Q,hs,hh,w,q⟩=>?_
 simp only[evE,zaa] at w
 refine tE.run hs hh w fun d v ι1 H1 S1 x1 hs1 hh1 r1 w1=>?_
 cases d with
 | bl c =>
   obtain rfl:v=.bl c:=r1
   refine⟨c,rfl,?_⟩
   cases c with
   |true=>exact q _ _ (Lf.up x1 (Lf.of (d:=.bl true) hh1 rfl w1))
   |false=>exact⟨δ,ι1,S1,Q,hs1,hh1,w1,fun z H3 l=>q z H3 (Lf.up x1 l)⟩
 |_=>exact w1.elim
theorem LfB.up {K:PySem.W.Frag}{ι ι':List Addr}{H H':Hp}{Q:Bool->R.St->Prop}{b:Bool}{H2:Hp}(x:Ext ι H ι' H')(h:LfB K ι' H' Q b H2):LfB K ι H Q b H2:=by
 obtain⟨ι2,S2,x2,r⟩:=h
 exact⟨ι2,S2,x.trans x2,r⟩
theorem zjJ {ca cb:CE}{a b:Expr}{rest:List Expr}(ha:PT X a (tT X.K cf ca))(hb:PW X (.BoolOp .And (b::rest) pos) (tT X.K cf cb)):PW X (.BoolOp .And (a::b::rest) pos) (tT X.K cf (.and ca cb)):=by
 refine PW.imp (zms ha hb) fun σ H Qv ⟨δ,ι,S,Q,hs,hh,w,q⟩=>?_
 simp only[evT,zaa] at w
 refine tT.run hs hh w fun c ι1 H1 S1 x1 hs1 hh1 w1=>?_
 cases c with
 |false=>exact q _ _ ⟨ι1,S1,x1,hh1,w1⟩
 |true=>exact⟨δ,ι1,S1,Q,hs1,hh1,w1,fun z H3 l=>q z H3 (LfB.up x1 l)⟩
theorem zlT {ca cb:CE}{a b:Expr}{rest:List Expr}(ha:PT X a (tT X.K cf ca))(hb:PW X (.BoolOp .Or (b::rest) pos) (tT X.K cf cb)):PW X (.BoolOp .Or (a::b::rest) pos) (tT X.K cf (.or ca cb)):=by
 refine PW.imp (zn6 ha hb) fun σ H Qv ⟨δ,ι,S,Q,hs,hh,w,q⟩=>?_
 simp only[evT,zaa] at w
 refine tT.run hs hh w fun c ι1 H1 S1 x1 hs1 hh1 w1=>?_
 cases c with
 |true=>exact q _ _ ⟨ι1,S1,x1,hh1,w1⟩
 |false=>exact⟨δ,ι1,S1,Q,hs1,hh1,w1,fun z H3 l=>q z H3 (LfB.up x1 l)⟩
theorem znW {ca:CE}{a:Expr}(ha:PT X a (tT X.K cf ca)):PT X (.UnaryOp .Not a pos) (tT X.K cf (.nt ca)):=by
 refine PT.imp (zmt ha) fun σ H Qv ⟨δ,ι,S,Q,hs,hh,w,q⟩=>?_
 simp only[evT,zaa] at w
 exact tT.run hs hh w fun c ι1 H1 S1 x1 hs1 hh1 w1=>q _ _ ⟨ι1,S1,x1,hh1,w1⟩
theorem zlL {ι:List Addr}{H:Hp}{S:R.St}{d:D}{v:V}{b:Bool}(hh:RH X.K ι H S)(r:RV X.K ι H d v)(h:tru S d=some b):TruV X.K v H b:=by
 cases d with
 |non=>obtain rfl:v=.non:=r;cases h;rfl
 |bl c=>obtain rfl:v=.bl c:=r;cases h;rfl
 |int i=>obtain rfl:v=.int i:=r;cases h;rfl
 | tup ds =>
   obtain⟨a,xs,rfl,ha,rr⟩:=r
   cases h
   refine .inr (.inl ⟨xs,SqT.of ha,?_⟩)
   have:=rr.length
   cases ds<;>cases xs<;>first|rfl|simp at this
 | ref l =>
   simp only[tru] at h
   split at h
   · rename_i ds e
     cases h
     obtain⟨a,h1,rfl⟩:=r
     obtain⟨a2,h2,xs,ha,rr⟩:=hh.obj _ _ e
     rw[h1] at h2;cases h2
     refine .inl ⟨xs,SqL.of ha,?_⟩
     have:=rr.length
     cases ds<;>cases xs<;>first|rfl|simp at this
   · cases h
 |_=>cases h
theorem zlS {ca:CE}{a:Expr}(ha:PE X a (tE X.K cf ca))(hp:zfQ a=true):PT X a (tT X.K cf (.tst ca)):=by
 refine PT.imp (ziR ha (zlK hp X.env)) fun σ H Qv ⟨δ,ι,S,Q,hs,hh,w,q⟩=>?_
 simp only[evT,zaa] at w
 refine tE.run hs hh w fun d v ι1 H1 S1 x1 hs1 hh1 r1 w1=>?_
 obtain⟨b,hb,w2⟩:=zaR w1
 exact⟨b,zlL hh1 r1 hb,q _ _ ⟨ι1,S1,x1,hh1,w2⟩⟩
theorem zl9 {cc ca cb:CE}{c a b:Expr}(hc:PT X c (tT X.K cf cc))(ha:PE X a (tE X.K cf ca))(hb:PE X b (tE X.K cf cb)):PE X (.IfExp c a b pos) (tE X.K cf (.ite cc ca cb)):=by
 refine PE.imp (zi1 hc ha hb) fun σ H Qv ⟨δ,ι,S,Q,hs,hh,w,q⟩=>?_
 simp only[evE,zaa] at w
 refine tT.run hs hh w fun c ι1 H1 S1 x1 hs1 hh1 w1=>?_
 cases c with
 |true=>exact⟨δ,ι1,S1,Q,hs1,hh1,w1,fun z H3 l=>q z H3 (Lf.up x1 l)⟩
 |false=>exact⟨δ,ι1,S1,Q,hs1,hh1,w1,fun z H3 l=>q z H3 (Lf.up x1 l)⟩
theorem zjO:PA X [] (tAs X.K cf .nil):=PA.imp zfS fun σ H Qv ⟨δ,ι,S,Q,hs,hh,w,q⟩=>q [] H ⟨[],ι,S,Ext.refl _ _,rfl,hh,by simpa[evEs] using w⟩
theorem zg8 {ce:CE}{ces:CEs}{e:Expr}{es:List Expr}(he:PE X e (tE X.K cf ce))(hes:PA X es (tAs X.K cf ces))(hn:zaj e=true):PA X (e::es) (tAs X.K cf (.cons ce ces)):=by
 refine PA.imp (zb8 he hes (zak hn es X.env)) fun σ H Qv ⟨δ,ι,S,Q,hs,hh,w,q⟩=>?_
 simp only[evEs,zaa] at w
 refine tE.run hs hh w fun d v ι1 H1 S1 x1 hs1 hh1 r1 w1=>tAs.run hs1 hh1 w1 fun ds vs ι2 H2 S2 x2 hs2 hh2 r2 w2=>?_
 exact q _ _ ⟨d::ds,ι2,S2,x1.trans x2,⟨v,vs,rfl,r1.ext x2,r2⟩,hh2,w2⟩
theorem zl2 {ces:CEs}{es:List Expr}{j:Nat}(h:PA X es (tAs X.K cf ces)):PE X (.Tuple es j pos) (tE X.K cf (.tup ces)):=by
 refine PE.imp (zmA h) fun σ H Qv ⟨δ,ι,S,Q,hs,hh,w,q⟩=>?_
 simp only[evE,zaa] at w
 refine tAs.run hs hh w fun ds vs ι1 H1 S1 x1 hs1 hh1 r1 w1=>?_
 split at w1
 · rename_i c
   exact⟨by rw[r1.length,sizeLine_eq];exact c,fun p hp=>q _ _ (Lf.up x1 (Lf.tup hh1 hp r1 w1))⟩
 · exact w1.elim
theorem zl7 {ces:CEs}{es:List Expr}(h:PA X es (tAs X.K cf ces)):PE X (.List es pos) (tE X.K cf (.lst ces)):=by
 refine PE.imp (zmE h) fun σ H Qv ⟨δ,ι,S,Q,hs,hh,w,q⟩=>?_
 simp only[evE,zaa] at w
 refine tAs.run hs hh w fun ds vs ι1 H1 S1 x1 hs1 hh1 r1 w1=>?_
 obtain⟨c,w2⟩:=zbZ w1
 exact⟨by rw[r1.length];exact c,fun p hp=>q _ _ (Lf.up x1 (Lf.lst hh1 hp r1 w2))⟩
theorem zkp:PE X (.Dict [] [] pos) (tE X.K cf .dnew):=by
 refine PE.imp zi3 fun σ H Qv ⟨δ,ι,S,Q,hs,hh,w,q⟩=>?_
 simp only[evE] at w
 intro p hp
 exact q _ _ ⟨.ref S.len,ι++[p],S.push (.dic []),Ext.obj hh hp _,⟨p,hh.last p,rfl⟩,hh.obj' hp _ _ ⟨List.nodup_nil,[],zaq,rfl⟩,w⟩
theorem zom {ι:List Addr}{H:Hp}{S:R.St}{d:D}{v:V}{ds:List D}{i:Int}{e:D}(hh:RH X.K ι H S)(r:RV X.K ι H d v)(hq:zcj S d=some ds)(ha:R.atI ds i=some e):∃u,rIx X.K v (.int i) H (fun z H'=>z=u/\H'=H)/\RV X.K ι H e u:=by
 obtain⟨a,xs,rfl,hx,rr⟩:=zjK hh hq r
 have hl:=rr.length
 have key:∃u,L2.atI xs i=some u/\RV X.K ι H e u:=by
  unfold R.atI at ha
  cases e1:R.ixN ds.length i with
  |none=>rw[e1] at ha;cases ha
  | some j =>
    rw[e1] at ha
    obtain⟨u,h1,h2⟩:=rr.get (show ds[j]?=some e from ha)
    refine⟨u,?_,h2⟩
    unfold L2.atI
    have:L2.ixN xs.length i=some j:=by rw[hl];exact e1
    rw[this];exact h1
 obtain⟨u,h1,h2⟩:=key
 refine⟨u,?_,h2⟩
 rcases hx with hx|hx
 · exact .inl ⟨a,xs,i,u,rfl,rfl,hx,h1,rfl,rfl⟩
 · exact .inr (.inl ⟨a,xs,i,u,rfl,rfl,hx,h1,rfl,rfl⟩)
theorem zky {K:PySem.W.Frag}{x y u:V}{H:Hp}{Q:VK}(h:rIx K x y H (fun z H'=>z=u/\H'=H))(q:Q u H):rIx K x y H Q:=by
 rcases h with ⟨p,xs,i,v,h1,h2,h3,h4,rfl,_⟩|⟨p,xs,i,v,h1,h2,h3,h4,rfl,_⟩|⟨z,i,c,h1,h2,h3,h4,h5,_⟩
 · exact .inl ⟨p,xs,i,v,h1,h2,h3,h4,q⟩
 · exact .inr (.inl ⟨p,xs,i,v,h1,h2,h3,h4,q⟩)
 · exact .inr (.inr ⟨z,i,c,h1,h2,h3,h4,by rw[h5];exact q⟩)
theorem zn1 {ca cb:CE}{a b:Expr}(ha:PE X a (tE X.K cf ca))(hb:PE X b (tE X.K cf cb))(hp:zdT b=true):PE X (.Subscript a b pos) (tE X.K cf (.ix ca cb)):=by
 refine PE.imp (zob znc ha hb (zon hp)) fun σ H Qv ⟨δ,ι,S,Q,hs,hh,w,q⟩=>?_
 simp only[evE,zaa] at w
 refine tE.run hs hh w fun d v ι1 H1 S1 x1 hs1 hh1 r1 w1=>tE.run hs1 hh1 w1 fun e u ι2 H2 S2 x2 hs2 hh2 r2 w2=>?_
 split at w2
 · rename_i ds i eq
   obtain⟨z,hz,w3⟩:=zaR w2
   obtain rfl:u=.int i:=r2
   obtain⟨u,h1,h2⟩:=zom hh2 (r1.ext x2) eq hz
   exact zky h1 (q _ _ (Lf.up (x1.trans x2) (Lf.of hh2 h2 w3)))
 · exact w2.elim
end
end R
end
section
namespace R
open PySem PySem.Spec PyProof.Rows L2
variable [Mks]
section
variable {K:PySem.W.Frag} {ι ι':List Addr} {H H':Hp} {S T:R.St} {d:D} {v:V}
theorem zli {l:Nat}{o:MO}(hf:T.frz=S.frz++S.new)(h:S.get l=some o):T.get l=some o:=by
 obtain⟨f,n,k⟩:=T
 have hf:f=S.frz++S.new:=hf
 subst hf
 exact zlg h n k
theorem RH.cut (hh:RH K ι H S)(x:Ext ι H ι' H')(hT:RH K ι' H' T)(hf:T.frz=S.frz++S.new):RH K ι H' S:=by
 refine⟨hh.len,hh.nd,fun l o e=>?_,hT.tab⟩
 obtain⟨a,h1,h2⟩:=hh.obj l o e
 obtain⟨b,h3,h4⟩:=hT.obj l o (zli hf e)
 rw[zb7 x.pre h1] at h3;cases h3
 refine⟨a,h1,?_⟩
 cases o with
 | lst ds =>
   obtain⟨xs,_,r1⟩:=h2
   obtain⟨ys,e2,r2⟩:=h4
   exact⟨ys,e2,r2.restrict x.pre r1.flats⟩
 | dic kvs =>
   obtain⟨_,ws,_,r1⟩:=h2
   obtain⟨nd,ys,e2,r2⟩:=h4
   exact⟨nd,ys,e2,r2.restrict x.pre r1.flats⟩
 | ins c fs =>
   obtain⟨_,_,ws,_,_,r1⟩:=h2
   obtain⟨C,dx,ys,e0,e2,r2⟩:=h4
   exact⟨C,dx,ys,e0,e2,r2.restrict x.pre r1.flats⟩
 | dtp kvs =>
   obtain⟨_,ws,_,r1⟩:=h2
   obtain⟨nd,ys,e2,r2⟩:=h4
   exact⟨nd,ys,e2,r2.restrict x.pre r1.flats⟩
 | d3 kvs =>
   obtain⟨_,ws,_,r1⟩:=h2
   obtain⟨nd,ys,e2,r2⟩:=h4
   exact⟨nd,ys,e2,r2.restrict x.pre r1.flats⟩
theorem Ext.cut (x:Ext ι H ι' H'):Ext ι H ι H':=⟨List.prefix_refl _,x.kp,fun a o h e=>⟨(x.rest a o h e).1,h⟩⟩
theorem zhl {l:Nat}{a:Addr}(hp:ι <+: ι')(nd:ι'.Nodup)(hl:ι'[l]?=some a)(h:ι.length<=l):a∉ι:=fun hm=>by
 obtain⟨t,rfl⟩:=hp
 rw[List.getElem?_append_right h] at hl
 have h2:=List.mem_of_getElem? hl
 exact (List.nodup_append.mp nd).2.2 a hm a h2 rfl
theorem zfs {l:Nat}{a:Addr}(x:Ext ι H ι' H')(nd:ι'.Nodup)(hl:ι'[l]?=some a)(h:ι.length<=l):Ext ι H (ι++[a]) H':=by
 refine⟨List.prefix_append _ _,x.kp,fun b o hb e=>⟨(x.rest b o hb e).1,fun z=>?_⟩⟩
 rcases List.mem_append.mp z with z|z
 · exact hb z
 · simp at z
   subst z
   exact (x.rest b o hb e).2 (List.mem_of_getElem? hl)
theorem RH.one {l:Nat}{a:Addr}{o:MO}(hh:RH K ι H' S)(nd:a∉ι)(ho:RO K (ι++[a]) H' a o):RH K (ι++[a]) H' (S.push o):=by
 refine⟨by rw[List.length_append,hh.len,zcv];rfl,?_,fun l o' e=>?_,hh.tab⟩
 · rw[List.nodup_append]
   refine⟨hh.nd,by simp,fun b hb c hc=>?_⟩
   simp at hc;subst hc
   exact fun z=>nd (z▸hb)
 · by_cases hl:l<S.len
   · rw[zc4 hl] at e
     obtain⟨b,h1,h2⟩:=hh.obj l o' e
     exact⟨b,zb7 (List.prefix_append _ _) h1,h2.up (List.prefix_append _ _) (Kp.refl _) rfl⟩
   · have hl2:=zaZ e
     rw[zcv] at hl2
     have:l=S.len:=by omega
     subst this
     rw[zf4] at e;cases e
     exact⟨a,by rw[<-hh.len];simp,ho⟩
theorem RH.keep (hT:RH K ι' H' T)(hf:T.frz=S.frz++S.new):RH K ι' H' ⟨S.frz,S.new++T.new,S.lk⟩:=by
 have hg:∀l,(R.St.mk S.frz (S.new++T.new) S.lk).get l=T.get l:=fun l=>by
  unfold St.get
  rw[hf]
  simp only[List.length_append]
  by_cases h1:l<S.frz.length
  · rw[if_pos h1,if_pos (by omega),List.getElem?_append_left h1]
  · by_cases h2:l<S.frz.length+S.new.length
    · rw[if_neg h1,if_pos h2,List.getElem?_append_left (by omega),List.getElem?_append_right (by omega)]
    · rw[if_neg h1,if_neg h2,List.getElem?_append_right (by omega)]
      congr 1;omega
 refine⟨?_,hT.nd,fun l o e=>hT.obj l o (by rw[<-hg];exact e),hT.tab⟩
 rw[hT.len]
 unfold St.len
 rw[hf]
 simp only[List.length_append]
 omega
theorem zf2 {Q:D->R.St->Prop}(hh:RH K ι H S)(x:Ext ι H ι' H')(r:RV K ι' H' d v)(hT:RH K ι' H' T)(hf:T.frz=S.frz++S.new)(w:W (zcU S d T) Q):Lf K ι H Q v H':=by
 have hc:=hh.cut x hT hf
 unfold zcU at w
 split at w
 · rename_i c
   rw[<-hh.len] at c
   exact⟨d,ι,S,x.cut,r.restrict x.pre c,hc,w⟩
 · rename_i c
   dsimp only at w
   split at w
   · rename_i l
     obtain⟨a,h1,rfl⟩:=id r
     have hl:ι.length<=l:=by
      simp only[R.flat,decide_eq_true_eq] at c
      rw[hh.len];omega
     have ha:=zhl x.pre hT.nd h1 hl
     split at w
     · rename_i ds e
       obtain⟨b,h2,h3⟩:=hT.obj l _ e
       rw[h1] at h2;cases h2
       split at w
       · rename_i c2
         rw[<-hh.len] at c2
         obtain⟨ys,e2,r2⟩:=h3
         refine⟨.ref S.len,ι++[a],S.push (.lst ds),zfs x hT.nd h1 hl,⟨a,by rw[<-hh.len];simp,rfl⟩,hc.one (l:=l) ha ⟨ys,e2,(r2.restrict x.pre c2).up (List.prefix_append _ _) (Kp.refl _)⟩,w⟩
       · exact⟨_,ι',_,x,r,hT.keep hf,w⟩
     · rename_i kvs e
       obtain⟨b,h2,h3⟩:=hT.obj l _ e
       rw[h1] at h2;cases h2
       split at w
       · rename_i c2
         rw[<-hh.len] at c2
         obtain⟨nd,ys,e2,r2⟩:=h3
         refine⟨.ref S.len,ι++[a],S.push (.dic kvs),zfs x hT.nd h1 hl,⟨a,by rw[<-hh.len];simp,rfl⟩,hc.one (l:=l) ha ⟨nd,ys,e2,(r2.restrict x.pre c2).up (List.prefix_append _ _) (Kp.refl _)⟩,w⟩
       · exact⟨_,ι',_,x,r,hT.keep hf,w⟩
     · rename_i kvs e
       obtain⟨b,h2,h3⟩:=hT.obj l _ e
       rw[h1] at h2;cases h2
       split at w
       · rename_i c2
         rw[<-hh.len] at c2
         obtain⟨nd,ys,e2,r2⟩:=h3
         refine⟨.ref S.len,ι++[a],S.push (.dtp kvs),zfs x hT.nd h1 hl,⟨a,by rw[<-hh.len];simp,rfl⟩,hc.one (l:=l) ha ⟨nd,ys,e2,(r2.restrict x.pre c2).up (List.prefix_append _ _) (Kp.refl _)⟩,w⟩
       · exact⟨_,ι',_,x,r,hT.keep hf,w⟩
     · exact⟨_,ι',_,x,r,hT.keep hf,w⟩
   · exact⟨_,ι',_,x,r,hT.keep hf,w⟩
theorem zhC {Q:List D->R.St->Prop}(hh:RH K ι H S)(x:Ext ι H ι' H')(r:RV K ι' H' d v)(hT:RH K ι' H' T)(hf:T.frz=S.frz++S.new)(w:W (zcT S d T) Q):∃ds a xs,Ext ι H ι H'/\RH K ι H' S/\v=.ref a/\RVs K ι H' ds xs/\a∉ι/\H' a=some (.lst xs)/\H a=none/\Q ds S:=by
 have hc:=hh.cut x hT hf
 unfold zcT at w
 cases d with
 | ref l =>
   dsimp only at w
   split at w
   · exact w.elim
   · rename_i c
     obtain⟨a,h1,rfl⟩:=r
     have hl:ι.length<=l:=by rw[hh.len];omega
     have ha:=zhl x.pre hT.nd h1 hl
     cases e:T.get l with
     |none=>rw[e] at w;exact w.elim
     | some o =>
       rw[e] at w
       obtain⟨b,h2,h3⟩:=hT.obj l o e
       rw[h1] at h2;cases h2
       cases o with
       | lst ds =>
         dsimp only at w
         split at w
         · rename_i c2
           rw[<-hh.len] at c2
           obtain⟨ys,e2,r2⟩:=h3
           refine⟨ds,a,ys,x.cut,hc,rfl,r2.restrict x.pre c2,ha,e2,?_,w⟩
           cases eh:H a with
           |none=>rfl
           |some o=>exact absurd (List.mem_of_getElem? h1) (x.rest a o ha eh).2
         · exact w.elim
       |_=>exact w.elim
 |_=>exact w.elim
end
section
variable {T:Tab} {cf:CF} {k:Nat} {N:List Str} {sc:Scope} {X:Cx} {pos p:Pos}
theorem RVs.nons {K:PySem.W.Frag}{ι:List Addr}{H:Hp}:∀j:Nat,RVs K ι H (List.replicate j .non) (List.replicate j .non)
 |0=>rfl
 |j+1=>⟨.non,List.replicate j .non,rfl,rfl,RVs.nons j⟩
theorem RH.enter {K:PySem.W.Frag}{ι:List Addr}{H:Hp}{S:R.St}(h:RH K ι H S):RH K ι H S.enter:=⟨by rw[zh4];exact h.len,h.nd,fun l o e=>h.obj l o (by rw[zbH] at e;exact e),h.tab⟩
theorem zij {f j:Nat}{ces:CEs}{σ:L2.St}{H:Hp}{Qv:VK}(hfr:CFok cf)(h:tE X.K cf (.call f j ces) σ H Qv) :
  zdi (spF X.K cf f) (List.replicate j .non) E0 (tAs X.K cf ces) σ H Qv:=by
 obtain⟨δ,ι,S,Q,hs,hh,w,q⟩:=h
 simp only[evE,zaa] at w
 refine tAs.run hs hh w fun ds vs ι1 H1 S1 x1 hs1 hh1 r1 w1=>?_
 unfold app at w1
 rw[zaa] at w1
 refine⟨ι1,S1.enter,ds++List.replicate j .non,r1.append (RVs.nons j),hh1.enter,?_⟩
 obtain⟨d,T',e,w2⟩:=zee w1
 rw[e]
 exact fun v H' ι' x r hT=>q v H' (Lf.up x1 (zf2 hh1 x r hT (hfr _ _ _ _ _ e).frz w2))
theorem ze7 {K:PySem.W.Frag}{ι ι1:List Addr}{H H1:Hp}{S1:R.St}{a:Addr}(hh:RH K ι1 H1 S1)(x:Ext ι H ι1 H1)(hn:H1 a=none):H a=none:=by
 cases e:H a with
 |none=>rfl
 | some o =>
   by_cases hm:a∈ι
   · have h2:a∈ι1:=by obtain⟨t,rfl⟩:=x.pre;exact List.mem_append_left _ hm
     exact absurd h2 (hh.fresh hn)
   · have:=(x.rest a o hm e).1
     rw[hn] at this
     rcases this with z|⟨_,_,z⟩<;>cases z
theorem zgM {f j:Nat}{ces:CEs}{σ:L2.St}{H:Hp}{Qv:VK}(hfr:CFok cf)(h:tLt X.K cf (.callL f j ces) σ H Qv) :
  zdi (spF X.K cf f) (List.replicate j .non) E0 (tAs X.K cf ces) σ H Qv:=by
 obtain⟨δ,ι,S,Q,hs,hh,w,q⟩:=h
 simp only[evL,zaa] at w
 refine tAs.run hs hh w fun ds vs ι1 H1 S1 x1 hs1 hh1 r1 w1=>?_
 unfold appL at w1
 rw[zaa] at w1
 refine⟨ι1,S1.enter,ds++List.replicate j .non,r1.append (RVs.nons j),hh1.enter,?_⟩
 obtain⟨d,T',e,w2⟩:=zee w1
 rw[e]
 intro v H' ι' x r hT
 obtain⟨ds,a,xs,x2,hh2,e1,r2,ha,e2,hn,w3⟩:=zhC hh1 x r hT (hfr _ _ _ _ _ e).frz w2
 exact q v H' ⟨ds,ι1,S1,a,xs,x1.trans x2,e1,r2,ha,e2,hh2,ze7 hh1 x1 hn,w3⟩
theorem zkq (G:Gd T cf k N sc X){f j:Nat}{x:Str}{ps:List Str}{nd:Nat}{ces:CEs}{e:Expr}{es:List Expr}(hf:T.fns[f]?=some (x,ps,nd))(hj:j<=nd)(hg:isGl sc x=true)(hd:(x == ("__debug__":Str))=false)(ha:PA X (e::es) (tAs X.K cf ces))(hst:(e::es).all zaj=true) :
  PE X (.Call (.Name x p) (e::es) [] pos) (tE X.K cf (.call f j ces)):=by
 have Hs:=G.tab.fns f x ps nd hf j hj
 rw[List.all_cons,Bool.and_eq_true] at hst
 exact PE.imp (zkO Hs G.room ha (G.gl hg) hd (zak hst.1 es X.env) (zaS hst.2)) fun σ H Qv h=>zij G.tab.frm h
theorem ziH (G:Gd T cf k N sc X){f j:Nat}{x:Str}{ps:List Str}{nd:Nat}(hf:T.fns[f]?=some (x,ps,nd))(hj:j<=nd)(hg:isGl sc x=true)(hd:(x == ("__debug__":Str))=false) :
  PE X (.Call (.Name x p) [] [] pos) (tE X.K cf (.call f j .nil)):=by
 have Hs:=G.tab.fns f x ps nd hf j hj
 refine PE.imp (zmG Hs G.room (G.gl hg) hd) fun σ H Qv ⟨δ,ι,S,Q,hs,hh,w,q⟩=>?_
 simp only[evE,evEs,zaM] at w
 unfold app at w
 rw[zaa] at w
 obtain⟨d,T',e,w2⟩:=zee w
 refine⟨ι,S.enter,[]++List.replicate j .non,RVs.append rfl (RVs.nons j),hh.enter,?_⟩
 rw[e]
 exact fun v H' ι' x r hT=>q v H' (zf2 hh x r hT (G.tab.frm _ _ _ _ _ e).frz w2)
theorem zkd (G:Gd T cf k N sc X){f j:Nat}{x:Str}{ps:List Str}{nd:Nat}{ces:CEs}{e:Expr}{es:List Expr}(hf:T.fns[f]?=some (x,ps,nd))(hj:j<=nd)(hg:isGl sc x=true)(hd:(x == ("__debug__":Str))=false)(ha:PA X (e::es) (tAs X.K cf ces))(hst:(e::es).all zaj=true) :
  PE X (.Call (.Name x p) (e::es) [] pos) (tLt X.K cf (.callL f j ces)):=by
 have Hs:=G.tab.fns f x ps nd hf j hj
 rw[List.all_cons,Bool.and_eq_true] at hst
 exact PE.imp (zkO Hs G.room ha (G.gl hg) hd (zak hst.1 es X.env) (zaS hst.2)) fun σ H Qv h=>zgM G.tab.frm h
theorem zgL {f j:Nat}{ces:CEs}{σ:L2.St}{H:Hp}{Qv:VK}(h:tE X.K cf (.callW f j ces) σ H Qv) :
  zdi (spF X.K cf f) (List.replicate j .non) E0 (tAs X.K cf ces) σ H Qv:=by
 obtain⟨δ,ι,S,Q,hs,hh,w,q⟩:=h
 simp only[evE,zaa] at w
 refine tAs.run hs hh w fun ds vs ι1 H1 S1 x1 hs1 hh1 r1 w1=>?_
 unfold appW at w1
 refine⟨ι1,S1,ds++List.replicate j .non,r1.append (RVs.nons j),hh1,?_⟩
 obtain⟨d,T',e,w2⟩:=zee w1
 rw[e]
 exact fun v H' ι' x r hT=>q v H' (Lf.up x1 ⟨d,ι',T',x,r,hT,w2⟩)
theorem ziF (G:Gd T cf k N sc X){f j:Nat}{x:Str}{ps:List Str}{nd:Nat}{ces:CEs}{e:Expr}{es:List Expr}(hf:T.fns[f]?=some (x,ps,nd))(hj:j<=nd)(hg:isGl sc x=true)(hd:(x == ("__debug__":Str))=false)(ha:PA X (e::es) (tAs X.K cf ces))(hst:(e::es).all zaj=true) :
  PE X (.Call (.Name x p) (e::es) [] pos) (tE X.K cf (.callW f j ces)):=by
 have Hs:=G.tab.fns f x ps nd hf j hj
 rw[List.all_cons,Bool.and_eq_true] at hst
 exact PE.imp (zkO Hs G.room ha (G.gl hg) hd (zak hst.1 es X.env) (zaS hst.2)) fun σ H Qv h=>zgL h
end
end R
end
section
namespace R
open PySem PySem.Spec PyProof.Rows L2
variable [Mks]
section
variable {T:Tab} {cf:CF} {k:Nat} {N:List Str} {sc:Scope} {X:Cx} {pos p:Pos}
theorem zc1 {S:R.St}{d:D}{c:Nat}{fs:List (Str × D)}(h:zbT S d=some (c,fs)):∃l,d=.ref l/\S.get l=some (.ins c fs):=by
 cases d with
 | ref l =>
   refine⟨l,rfl,?_⟩
   unfold zbT at h
   dsimp only at h
   cases e:S.get l with
   |none=>rw[e] at h;cases h
   | some o =>
     rw[e] at h
     cases o with
     |ins c' fs'=>cases h;rfl
     |_=>cases h
 |_=>cases h
theorem ne_of {α:Type}[BEq α]{xs:List α}{a:α}(h:xs.contains a=true):xs≠[]:=fun e=>by rw[e] at h;simp at h
theorem Gd.clsAt (G:Gd T cf k N sc X)(h0:T.flds≠[]\/T.inits≠[]\/T.isas≠[]){c:Nat}{C:Addr}(h:Mks.cl[c]?=some C):∃x,T.cls[c]?=some x/\Cls X.K C/\X.mg x=some (.ref C)/\∀f,T.flds.contains f=true->NoAttr X.K C f:=by
 have hl:c<T.cls.length:=Nat.lt_of_lt_of_le (List.getElem?_eq_some_iff.mp h).1 (G.tab.cln h0)
 obtain⟨C',h1,h2,h3,h4⟩:=G.tab.cls c T.cls[c] (List.getElem?_eq_getElem hl)
 rw[h] at h1;cases h1
 exact⟨_,List.getElem?_eq_getElem hl,h2,h3,h4⟩
theorem zmb (G:Gd T cf k N sc X){ca:CE}{a:Expr}{f:Str}(ha:PE X a (tE X.K cf ca))(hsup:zbr a=true)(hf:T.flds.contains f=true):PE X (.Attribute a f pos) (tE X.K cf (.fld ca f)):=by
 refine PE.imp (zmH ha (zcA hsup f X.env _)) fun σ H Qv ⟨δ,ι,S,Q,hs,hh,w,q⟩=>?_
 simp only[evE,zaa] at w
 refine tE.run hs hh w fun d v ι1 H1 S1 x1 hs1 hh1 r1 w1=>?_
 obtain⟨u,eu,w2⟩:=zaR w1
 cases ei:zbT S1 d with
 |none=>rw[ei] at eu;cases eu
 | some pr =>
   obtain⟨c,fs⟩:=pr
   rw[ei] at eu
   have eu:fs.lookup f=some u:=eu
   obtain⟨l,rfl,hl⟩:=zc1 ei
   obtain⟨b,i1,rfl⟩:=r1
   obtain⟨b',i2,C,dx,ws,hC,hb,rf⟩:=hh1.obj l _ hl
   rw[i1] at i2;cases i2
   obtain⟨_,_,cl,_,na⟩:=G.clsAt (.inl (ne_of hf)) hC
   rcases rf.look f with ⟨e1,_⟩|⟨d',v',e1,e2,rv⟩
   · rw[eu] at e1;cases e1
   · rw[eu] at e1;cases e1
     exact⟨b,C,dx,ws,v',rfl,hb,cl,na f hf,e2,q _ _ (Lf.up x1 (Lf.of hh1 rv w2))⟩
theorem zdW {prog:Program}{w:World}{A:Around}{E:Value->Shared->Prop}{s:Shared}{env:Env}{o:Expr}{name:Str}{apos pos:Pos}{args:List Expr}{Q:Value->Shared->Prop}
  (hbase:attributeBase o name env (eval o env)=eval o env)
  (hfew:((backTo pos (starEach args env)).all (fun x=>!x.1)&&(backToKw pos (keywordEach [] env)).all (fun x=>x.1.isSome)
   && decide (args.length+([]:List Keyword).length+(if ([]:List Keyword).isEmpty then 0 else 1)<30))=true)
  (hline:(apos.endLine == pos.line)=true)
  (h:wpAny (model prog w) A (eval o env) (fun ov s₁=>∀pl,wpAny (model prog w) A (getMethod ov name pl) (fun fx s₂=>wpAny (model prog w) A (callWith pos fx.1 fx.2 (backTo pos (starEach args env)) (backToKw pos (keywordEach [] env))) Q E s₂) E s₁) E s) :
  wpAny (model prog w) A (eval (.Call (.Attribute o name apos) args [] pos) env) Q E s:=by
 rw[arm_eval_Call,hbase]
 refine wpAny_bind (wpAny_mono h (fun ov s₁ h₁=>?_) fun _ _ e=>e)
 refine wpAny_bind (wpAny_standAt ?_)
 have hform:methodCallForm (args.length+([]:List Keyword).length) (backTo pos (starEach args env)) (backToKw pos (keywordEach [] env))=true:=hfew
 have hpos:methodCallPos true o env apos pos=pure pos:=by unfold methodCallPos;simp[hline]
 unfold methodCall
 rw[hform]
 refine wpAny_bind (wpAny_holding (wpAny_mono (h₁ _) (fun fx s₂ h₂=>?_) fun _ _ e=>e))
 obtain⟨f,first⟩:=fx
 exact wpAny_bind (wpAny_of_eq hpos h₂)
noncomputable def zg2 (X:Cx)(k:Nat)(m:Str)(ta:TE)(t:TA):TE:=fun σ H Q=>ta σ H fun x H1=>∃(a C dx:Addr) (fs:List (Str × V)) (fa:Addr) (fd:FuncData) (ps:List Str) (sp:Sp),x=.ref a/\H1 a=some (.ins C dx fs)/\Cls X.K C/\Meth X.K C m fa/\
 FnOk X.prog X.w X.K X.mg X.base CX0 k fa fd ps sp/\Binds X.K fd ps []/\fs.lookup m=none/\t σ H1 fun vs H2=>sp (x::vs) H2 Q E0
theorem ziY {o e:Expr}{es:List Expr}{m:Str}{ta:TE}{t:TA}{apos:Pos}(he:PE X o ta)(hr:Room k X.A)(ha:PA X (e::es) t)
  (hbase:attributeBase o m X.env (eval o X.env)=eval o X.env)
  (hfew:((backTo pos (starEach (e::es) X.env)).all (fun x=>!x.1)&&(backToKw pos (keywordEach [] X.env)).all (fun x=>x.1.isSome)
   && decide ((e::es).length+([]:List Keyword).length+(if ([]:List Keyword).isEmpty then 0 else 1)<30))=true)
  (hline:(apos.endLine == pos.line)=true) (hst:starEach (e::es) X.env=(false,eval e X.env)::starEach es X.env) (hpl:(backTo pos (starEach es X.env)).any (·.1)=false) :
  PE X (.Call (.Attribute o m apos) (e::es) [] pos) (zg2 X k m ta t):=by
 intro pins s σ H Q I h
 refine zdW hbase hfew hline (thn (he pins s σ H _ I h) fun u s1 ⟨x,H1,I1,rx,a,C,dx,fs,fa,fd,ps,sp,ex,ea,c,hm,F,hb,l,q⟩ pl=>?_)
 subst ex
 obtain rfl:u=Value.ref a:=rx
 refine zdB I1 ea c hm l ?_
 refine PySem.W.callWith_K (first:=[.ref a]) (h₀:=X.base) I.ok.mod.kin hm.kp (thn (ha pos pins s1 σ H1 _ I1 q) fun us s2 ⟨vs,H2,I2,r,q2⟩=>⟨I2.kIn,?_⟩) hst hpl
 exact zes (us:=.ref a::us) (vs:=.ref a::vs) F hr hb .nil zfk I2 (.cons rfl r) (by rw[List.append_nil];exact q2)
theorem zhq {o:Expr}{m:Str}{ta:TE}{apos:Pos}(he:PE X o ta)(hr:Room k X.A)(hbase:attributeBase o m X.env (eval o X.env)=eval o X.env)(hline:(apos.endLine == pos.line)=true) :
  PE X (.Call (.Attribute o m apos) [] [] pos) (zg2 X k m ta tNil):=by
 intro pins s σ H Q I h
 refine zdW hbase rfl hline (thn (he pins s σ H _ I h) fun u s1 ⟨x,H1,I1,rx,a,C,dx,fs,fa,fd,ps,sp,ex,ea,c,hm,F,hb,l,q⟩ pl=>?_)
 subst ex
 obtain rfl:u=Value.ref a:=rx
 refine zdB I1 ea c hm l ?_
 exact PySem.W.callWith_K0 (first:=[.ref a]) I1.kIn hm.kp (zes (us:=[.ref a]) (vs:=[.ref a]) F hr hb .nil zfk I1 (.cons rfl .nil) (by rw[List.append_nil];exact q))
noncomputable def mtB (T:Tab)(m:Str)(tb:List (Nat × Nat)):Bool:=tb.all fun p=>T.mts.contains (p.1,m,p.2)
theorem zgx {tb:List (Nat × Nat)}{c f:Nat}(h:tb.lookup c=some f):(c,f)∈tb:=by
 induction tb with
 |nil=>cases h
 | cons p r ih =>
   obtain⟨c',f'⟩:=p
   simp only[List.lookup] at h
   split at h
   · rename_i e
     cases h
     have:=eq_of_beq e
     subst this
     simp
   · exact List.mem_cons_of_mem _ (ih h)
theorem zfY (G:Gd T cf k N sc X){m:Str}{tb:List (Nat × Nat)}{co:CE}{ces:CEs}{σ:L2.St}{H:Hp}{Qv:VK}{t:TA}(hm:mtB T m tb=true)(ht:∀{σ:L2.St} {H:Hp} {Qa:List V->Hp->Prop},tAs X.K cf ces σ H Qa->t σ H Qa)(h:tE X.K cf (.meth m tb co ces) σ H Qv):zg2 X k m (tE X.K cf co) t σ H Qv:=by
 obtain⟨δ,ι,S,Q,hs,hh,w,q⟩:=h
 simp only[evE,zaa] at w
 refine tE.run hs hh w fun d v ι1 H1 S1 x1 hs1 hh1 r1 w1=>?_
 obtain⟨pr,ei,w2⟩:=zaR w1
 obtain⟨c,fs⟩:=pr
 obtain⟨f,ef,w3⟩:=zaR w2
 split at w3
 · rename_i hn
   rw[zaa] at w3
   obtain⟨l,rfl,hl⟩:=zc1 ei
   have r1':=r1
   obtain⟨b,i1,rfl⟩:=r1
   obtain⟨b',i2,C,dx,ws,hC,hb,rf⟩:=hh1.obj l _ hl
   rw[i1] at i2;cases i2
   have hmt:=List.all_eq_true.mp hm (c,f) (zgx ef)
   obtain⟨C',fa,fd,ps,hC',cl,me,F,bi⟩:=(G.tab.mth c m f hmt).ex
   rw[hC] at hC';cases hC'
   have hlk:ws.lookup m=none:=by
    rcases rf.look m with ⟨_,e2⟩|⟨d',v',e1,_,_⟩
    · exact e2
    · dsimp only at hn;rw[e1] at hn;cases hn
   refine⟨b,C,dx,ws,fa,fd,ps,_,rfl,hb,cl,me,F,bi,hlk,ht ?_⟩
   refine tAs.run hs1 hh1 w3 fun ds vs ι2 H2 S2 x2 hs2 hh2 r2 w4=>?_
   unfold appW at w4
   refine⟨ι2,S2,.ref l::ds,⟨.ref b,vs,rfl,r1'.ext x2,r2⟩,hh2,?_⟩
   obtain⟨d,T',e,w5⟩:=zee w4
   rw[e]
   exact fun v H' ι' x r hT=>q v H' (Lf.up (x1.trans x2) ⟨d,ι',T',x,r,hT,w5⟩)
 · exact w3.elim
theorem zkm (G:Gd T cf k N sc X){m:Str}{tb:List (Nat × Nat)}{co:CE}{ces:CEs}{o e:Expr}{es:List Expr}{apos:Pos}(hm:mtB T m tb=true)(ho:PE X o (tE X.K cf co))(ha:PA X (e::es) (tAs X.K cf ces))(hst:(e::es).all zaj=true)(hsup:zbr o=true)(hl:(apos.endLine == pos.line)=true)(hn:(e::es).length<29) :
  PE X (.Call (.Attribute o m apos) (e::es) [] pos) (tE X.K cf (.meth m tb co ces)):=by
 have hs:=hst
 rw[List.all_cons,Bool.and_eq_true] at hst
 refine PE.imp (ziY ho G.room ha (zcA hsup m X.env _) ?_ hl (zak hst.1 es X.env) (zaS hst.2)) fun σ H Qv h=>zfY G hm (fun z=>z) h
 have h0:=zaS (pos:=pos) (env:=X.env) hs
 have h1:(backTo pos (starEach (e::es) X.env)).all (fun x=>!x.1)=true:=by
  rw[List.all_eq_true]
  intro x hx
  have:=List.any_eq_false.mp h0 x hx
  simpa using this
 have h2:decide ((e::es).length+([]:List Keyword).length+(if ([]:List Keyword).isEmpty then 0 else 1)<30)=true:=by
  rw[decide_eq_true_eq]
  show (e::es).length+0+0<30
  omega
 rw[h1,h2]
 rfl
theorem zfX {ces:CEs}{σ:L2.St}{H:Hp}{Qa:List V->Hp->Prop}(hc:ces=.nil)(h:tAs X.K cf ces σ H Qa):tNil σ H Qa:=by
 subst hc
 obtain⟨δ,ι,S,Q,hs,hh,w,q⟩:=h
 exact q [] H ⟨[],ι,S,Ext.refl _ _,rfl,hh,by simpa[evEs] using w⟩
theorem ziB (G:Gd T cf k N sc X){m:Str}{tb:List (Nat × Nat)}{co:CE}{o:Expr}{apos:Pos}(hm:mtB T m tb=true)(ho:PE X o (tE X.K cf co))(hsup:zbr o=true)(hl:(apos.endLine == pos.line)=true) :
  PE X (.Call (.Attribute o m apos) [] [] pos) (tE X.K cf (.meth m tb co .nil)):=
 PE.imp (zhq ho G.room (zcA hsup m X.env _) hl) fun σ H Qv h=>zfY G hm (fun z=>zfX rfl z) h
theorem Vals.nons:∀j:Nat,Vals (List.replicate j .non) (List.replicate j Value.none)
 |0=>.nil
 |j+1=>.cons rfl (Vals.nons j)
theorem zfZ (G:Gd T cf k N sc X){c f j:Nat}{C:Addr}{x:Str}{ces:CEs}{σ:L2.St}{H:Hp}{Qv:VK}{t:TA}(hC:Mks.cl[c]?=some C)(ht:∀{σ:L2.St} {H:Hp} {Qa:List V->Hp->Prop},tAs X.K cf ces σ H Qa->t σ H Qa)(h:tE X.K cf (.mk c f x j ces) σ H Qv):zj5 C (spF X.K cf f) (List.replicate j V.non) E0 t σ H Qv:=by
 obtain⟨δ,ι,S,Q,hs,hh,w,q⟩:=h
 simp only[evE,zaa] at w
 refine ht (tAs.run hs hh w fun ds vs ι1 H1 S1 x1 hs1 hh1 r1 w1=>?_)
 intro y dy hy hdy hne
 have hh2:=hh1.new hdy (.own y)
 have x2:Ext ι1 H1 ι1 (upd H1 dy (.own y)):=Ext.new hdy _
 have hy2:(upd H1 dy (.own y)) y=none:=by rw[zam (Ne.symm hne)];exact hy
 have hh3:=hh2.obj' hy2 (.ins C dy []) (.ins c []) ⟨C,dy,[],hC,zaq,rfl⟩
 have x3:Ext ι1 (upd H1 dy (.own y)) (ι1++[y]) (upd (upd H1 dy (.own y)) y (.ins C dy [])):=Ext.obj hh2 hy2 _
 unfold appW at w1
 obtain⟨d,T',e,w2⟩:=zee w1
 refine⟨ι1++[y],S1.push (.ins c []),.ref S1.len::(ds++List.replicate j .non),⟨.ref y,_,rfl,⟨y,hh2.last y,rfl⟩,RVs.append ((r1.ext x2).ext x3) (RVs.nons j)⟩,hh3,?_⟩
 rw[e]
 intro v H' ι' x' r hT
 split at w2
 · rename_i hn
   cases d with
   | non =>
     refine⟨r,q _ _ ⟨.ref S1.len,ι',T',((x1.trans x2).trans x3).trans x',⟨y,zb7 x'.pre (hh2.last y),rfl⟩,hT,w2⟩⟩
   |_=>cases hn
 · exact w2.elim
theorem zn0 (G:Gd T cf k N sc X){c f j:Nat}{x:Str}{ces:CEs}{e:Expr}{es:List Expr}(hi:T.inits.contains (c,f,j)=true)(hx:T.cls[c]?=some x)(hg:isGl sc x=true)(hd:(x == ("__debug__":Str))=false)(ha:PA X (e::es) (tAs X.K cf ces))(hst:(e::es).all zaj=true) :
  PE X (.Call (.Name x p) (e::es) [] pos) (tE X.K cf (.mk c f x j ces)):=by
 obtain⟨C,fa,fd,ps,hC,M,F,hb⟩:=(G.tab.ini c f j hi).ex
 obtain⟨x',e1,_,hm,_⟩:=G.clsAt (.inr (.inl (ne_of hi))) hC
 rw[hx] at e1;cases e1
 rw[List.all_cons,Bool.and_eq_true] at hst
 exact PE.imp (zkN M F G.room' (G.gl hg) hm hb (Vals.nons j) zfk ha hd (zak hst.1 es X.env) (zaS hst.2)) fun σ H Qv h=>zfZ G hC (fun z=>z) h
theorem zl6 (G:Gd T cf k N sc X){c f j:Nat}{x:Str}(hi:T.inits.contains (c,f,j)=true)(hx:T.cls[c]?=some x)(hg:isGl sc x=true)(hd:(x == ("__debug__":Str))=false) :
  PE X (.Call (.Name x p) [] [] pos) (tE X.K cf (.mk c f x j .nil)):=by
 obtain⟨C,fa,fd,ps,hC,M,F,hb⟩:=(G.tab.ini c f j hi).ex
 obtain⟨x',e1,_,hm,_⟩:=G.clsAt (.inr (.inl (ne_of hi))) hC
 rw[hx] at e1;cases e1
 exact PE.imp (ziZ M F G.room' (G.gl hg) hm hb (Vals.nons j) zfk hd) fun σ H Qv h=>zfZ G hC (fun z=>zfX rfl z) h
theorem znl {e:Expr}{es:List Expr}{env:Env}(hs:(e::es).all zaj=true)(hn:(e::es).length<29):((backTo pos (starEach (e::es) env)).all (fun x=>!x.1)&&(backToKw pos (keywordEach [] env)).all (fun x=>x.1.isSome)
  && decide ((e::es).length+([]:List Keyword).length+(if ([]:List Keyword).isEmpty then 0 else 1)<30))=true:=by
 have h0:=zaS (pos:=pos) (env:=env) hs
 have h1:(backTo pos (starEach (e::es) env)).all (fun x=>!x.1)=true:=by
  rw[List.all_eq_true]
  intro x hx
  have:=List.any_eq_false.mp h0 x hx
  simpa using this
 have h2:decide ((e::es).length+([]:List Keyword).length+(if ([]:List Keyword).isEmpty then 0 else 1)<30)=true:=by
  rw[decide_eq_true_eq]
  show (e::es).length+0+0<30
  omega
 rw[h1,h2]
 rfl
theorem zi5 {x m:Str}{sp:Sp}{e:Expr}{es:List Expr}{t:TA}{apos:Pos}(Hs:HasC X.prog X.w X.K X.mg X.base k x m sp)(hr:Room k X.A)(ha:PA X (e::es) t)(hg:Gl X x)(hdb:(x == ("__debug__":Str))=false)
  (hbase:attributeBase (.Name x p) m X.env (eval (.Name x p) X.env)=eval (.Name x p) X.env) (hst:(e::es).all zaj=true) (hn:(e::es).length<29) (hline:(apos.endLine == pos.line)=true) :
  PE X (.Call (.Attribute (.Name x p) m apos) (e::es) [] pos) (zdi sp [] E0 t):=by
 obtain⟨C,fa,fd,ps,mc,hm,h1,h2,h3,h4,F,hb⟩:=Hs.ex
 have hst2:=hst
 rw[List.all_cons,Bool.and_eq_true] at hst2
 intro pins s σ H Q I h
 refine zdW hbase (znl hst hn) hline (thn (zfj (v:=.ref C) hg hm rfl hdb pins s σ H (fun v H1=>v=.ref C/\zdi sp [] E0 t σ H1 Q) I ⟨rfl,h⟩) fun u s1 ⟨xv,H1,I1,rx,ex,q⟩ pl=>?_)
 subst ex
 obtain rfl:u=Value.ref C:=rx
 refine PySem.W.method_cls I1.kIn h1 (PySem.W.cls_value I1.kIn h2 h3 rfl ?_)
 refine PySem.W.callWith_K (first:=[]) (h₀:=X.base) I.ok.mod.kin h4 (thn (ha pos pins _ σ H1 _ (I1.tok _) q) fun us s2 ⟨vs,H2,I2,r,q2⟩=>⟨I2.kIn,?_⟩) (zak hst2.1 es X.env) (zaS hst2.2)
 exact zes (us:=us) (vs:=vs) F hr hb .nil zfk I2 r q2
theorem zgN {f:Nat}{x m:Str}{ces:CEs}{σ:L2.St}{H:Hp}{Qv:VK}(h:tE X.K cf (.callC f x m ces) σ H Qv):zdi (spF X.K cf f) [] E0 (tAs X.K cf ces) σ H Qv:=by
 obtain⟨δ,ι,S,Q,hs,hh,w,q⟩:=h
 simp only[evE,zaa] at w
 refine tAs.run hs hh w fun ds vs ι1 H1 S1 x1 hs1 hh1 r1 w1=>?_
 unfold appW at w1
 rw[List.append_nil]
 refine⟨ι1,S1,ds,r1,hh1,?_⟩
 obtain⟨d,T',e,w2⟩:=zee w1
 rw[e]
 exact fun v H' ι' x r hT=>q v H' (Lf.up x1 ⟨d,ι',T',x,r,hT,w2⟩)
theorem ziG (G:Gd T cf k N sc X){f:Nat}{x m:Str}{ces:CEs}{e:Expr}{es:List Expr}{apos:Pos}(hc:T.cms.contains (x,m,f)=true)(hg:isGl sc x=true)(hd:(x == ("__debug__":Str))=false)(hsup:zbr (.Name x p)=true)(ha:PA X (e::es) (tAs X.K cf ces))(hst:(e::es).all zaj=true)(hn:(e::es).length<29)(hl:(apos.endLine == pos.line)=true) :
  PE X (.Call (.Attribute (.Name x p) m apos) (e::es) [] pos) (tE X.K cf (.callC f x m ces)):=
 PE.imp (zi5 (G.tab.cmd x m f hc) G.room ha (G.gl hg) hd (zcA hsup m X.env _) hst hn hl) fun σ H Qv h=>zgN h
end
end R
end
section
namespace R
open PySem PySem.Spec PyProof.Rows L2
variable [Mks]
section
variable {prog:Program} {w:World} {A:Around} {E:Value->Shared->Prop} {s:Shared}
theorem zb9 {t sl:Addr}{items:Array Value}{vl vu:Value}{lo hi:Option Int}{Q:Value->Shared->Prop}(ht:IsTup s.heap t items)(hs:s.heap.IsSliceOf sl vl vu .none)(pl:IsPart vl lo)(pu:IsPart vu hi)
  (hw:HT.sIx items.size 0 lo=0/\HT.sIx items.size items.size hi=items.size)
  (h:Q (.ref t) s):wpAny (model prog w) A (getItem (.ref t) (.ref sl)) Q E s:=by
 obtain⟨os,hos,hcs,hds⟩:=id hs
 have hTs:s.TypeIs (.ref sl) "slice":=⟨os,hos,hcs⟩
 unfold getItem
 try with_reducible refine wpAny_holding ?_
 first|refine wpAny_bind (wpAny_pure ?_)|skip
 refine wpAny_bind (wpAny_sequenceKey ht.typeIs (by decide) ?_)
 refine wpAny_bind (wpAny_callSpecial?_slot (name:=Str.ofString "__getitem__") ht.typeIs PyProof.Rows.slot_tuple_getitem
  (wpAny_call_entry PyProof.Rows.slot_tuple_getitem ht.typeIs entry_tuple_getitem ?_ (args_tuple_getitem _ _)))
 show wpAny _ _ (Builtin.Tuple.tupleItemsOf (.ref t) >>= _) _ _ s
 refine wpAny_bind (tupleItemsOf_ ht ?_)
 refine wpAny_bind (wpAny_typeOf hTs ?_)
 rw[if_pos (by decide)]
 refine wpAny_bind (HT.sliceApplied_gen hs pl pu ?_)
 have hyes:(((HT.sIx items.size 0 lo:Nat):Int) == 0&&(1:Int) == 1&&(HT.sIx items.size items.size hi - HT.sIx items.size 0 lo) == items.size)=true:=by
  rw[hw.1,hw.2]
  simp
 show wpAny _ _ (if (((HT.sIx items.size 0 lo:Nat):Int) == 0&&(1:Int) == 1&&(HT.sIx items.size items.size hi - HT.sIx items.size 0 lo) == items.size)=true then _ else _) _ _ s
 rw[if_pos hyes]
 unfold Builtin.Tuple.tupleIsExact
 refine wpAny_bind (wpAny_bind (wpAny_typeOf ht.typeIs (wpAny_pure ?_)))
 rw[if_pos (by decide)]
 exact wpAny_bind (wpAny_rule (wpAny_pure ⟨_,rfl,wpAny_pure h⟩))
end
section
variable {T:Tab} {cf:CF} {k:Nat} {N:List Str} {sc:Scope} {X:Cx} {pos p:Pos}
noncomputable def rSlW (K:PySem.W.Frag):V->Option Int->Option Int->Hp->VK->Prop:=fun x lo hi H Q=>∃a xs,x=.ref a/\SqT K H a xs/\
 (HT.sIx xs.length 0 lo=0/\HT.sIx xs.length xs.length hi=xs.length)/\Q (.ref a) H
theorem ziy:SlR X (rSlW X.K):=by
 intro pins s σ H x v vl vu lo hi sl Q I rx hs pl pu h
 obtain⟨a,xs,rfl,hx,hw,q⟩:=h
 cases rx
 obtain⟨its,r,ht,hz⟩:=I.tuple hx
 have hlen:its.toArray.size=xs.length:=by rw[List.size_toArray];exact r.length.symm
 exact⟨"tuple",_,PyProof.Rows.slot_tuple_getitem.lookup,ht.typeIs,zb9 ht hs pl pu (by rw[hlen];exact hw) ⟨.ref a,H,I,rfl,q⟩⟩
theorem zfK (n d:Nat)(o:Option Int):R.sIx n d o=HT.sIx n d o:=by
 cases o<;>rfl
theorem zie {α:Type}{xs:List α}{lo hi:Option Int}(h:HT.sIx xs.length 0 lo=0/\HT.sIx xs.length xs.length hi=xs.length):cut xs lo hi=xs:=by
 unfold cut
 rw[zfK,zfK,h.1,h.2]
 simp
theorem RVs.cut {K:PySem.W.Frag}{ι:List Addr}{H:Hp}{ds:List D}{xs:List V}(r:RVs K ι H ds xs)(lo hi:Option Int):RVs K ι H (R.cut ds lo hi) (cutV xs lo hi):=by
 have hl:=r.length
 unfold R.cut cutV
 rw[zfK,zfK,hl]
 exact (r.drop _).take _
inductive PartOk (X:Cx) (cf:CF):Bool->CE->Option Expr->Prop where
 |no {c:CE} (h:∃d,c=.con d):PartOk X cf false c none
 |yes {c:CE} {e:Expr} (h:PE X e (tE X.K cf c)):PartOk X cf true c (some e)
theorem znY {ca clo chi:CE}{ml mh:Bool}{a:Expr}{lo hi:Option Expr}{p2:Pos}(ha:PE X a (tE X.K cf ca))(hlo:PartOk X cf ml clo lo)(hhi:PartOk X cf mh chi hi):PE X (.Subscript a (.Slice lo hi none p2) pos) (tE X.K cf (.sl ca ml mh clo chi)):=by
 have fin:∀{σ:L2.St} {δ:Ev} {ι ι1:List Addr} {H H1:Hp} {S1:R.St} {Q:D->R.St->Prop} {Qv:VK} {d:D} {v:V} {y z:Option Int},Ext ι H ι1 H1->RH X.K ι1 H1 S1->RV X.K ι1 H1 d v->(∀v H',Lf X.K ι H Q v H'->Qv v H')->
   W (match d with|.tup ds=>.ok (.tup (R.cut ds y z)) S1|.fix ds=>lay S1 (R.cut ds y z)|.ref p=>(match S1.get p with|some (.lst ds)=>lay S1 (R.cut ds y z)|_=>.bad)|_=>.bad) Q->
   (rSlL X.K v y z H1 Qv\/rSlT X.K v y z H1 Qv)\/rSlW X.K v y z H1 Qv:=by
  intro σ δ ι ι1 H H1 S1 Q Qv d v y z x hh r q w
  cases d with
  | tup ds =>
    obtain⟨a,xs,rfl,ha,rr⟩:=r
    by_cases hw:HT.sIx xs.length 0 y=0/\HT.sIx xs.length xs.length z=xs.length
    · refine .inr ⟨a,xs,rfl,SqT.of ha,hw,q _ _ (Lf.up x (Lf.of (d:=.tup ds) hh ⟨a,xs,rfl,ha,rr⟩ ?_))⟩
      have e:R.cut ds y z=ds:=zie (by rw[<-rr.length];exact hw)
      dsimp only at w
      rw[e] at w
      exact w
    · exact .inl (.inr ⟨a,xs,rfl,SqT.of ha,hw,fun p hp=>q _ _ (Lf.up x (Lf.tup hh hp (rr.cut y z) w))⟩)
  | fix ds =>
    obtain⟨a,xs,rfl,ha,rr⟩:=r
    obtain⟨_,w2⟩:=zbZ w
    exact .inl (.inl ⟨a,xs,rfl,ha.sq,fun p hp=>q _ _ (Lf.up x (Lf.lst hh hp (rr.cut y z) w2))⟩)
  | ref l =>
    dsimp only at w
    cases e:S1.get l with
    |none=>rw[e] at w;exact w.elim
    | some o =>
      rw[e] at w
      cases o with
      | lst ds =>
        obtain⟨a,h1,rfl⟩:=r
        obtain⟨b,h2,xs,ha,rr⟩:=hh.obj _ _ e
        rw[h1] at h2;cases h2
        obtain⟨_,w2⟩:=zbZ w
        exact .inl (.inl ⟨a,xs,rfl,SqL.of ha,fun p hp=>q _ _ (Lf.up x (Lf.lst hh hp (rr.cut y z) w2))⟩)
      |_=>exact w.elim
  |_=>exact w.elim
 have part:∀{m:Bool} {c:CE} {o:Option Expr},PartOk X cf m c o->∃t,PO X o t/\∀{δ:Ev} {σ:L2.St} {ι:List Addr} {H:Hp} {S:R.St} {Q:D->R.St->Prop} {Qv:Option Int->Hp->Prop},RS X.K ι H δ σ->RH X.K ι H S->W (evE cf c δ S) Q->
   (∀d S',Q d S'->∃z,zbD m d=some z)->
   (∀d ι' H' S' z,Ext ι H ι' H'->RS X.K ι' H' δ σ->RH X.K ι' H' S'->Q d S'->zbD m d=some z->Qv z H')->t σ H Qv:=by
  intro m c o h
  cases h with
  | no h =>
    obtain⟨d,rfl⟩:=h
    refine⟨_,zkL,fun {δ σ ι H S Q Qv} hs hh w hp h=>?_⟩
    simp only[evE] at w
    exact h d ι H S none (Ext.refl _ _) hs hh w rfl
  | yes h =>
    refine⟨_,zkK h,fun {δ σ ι H S Q Qv} hs hh w hp h=>?_⟩
    refine tE.run hs hh w fun d v ι1 H1 S1 x1 hs1 hh1 r1 w1=>?_
    obtain⟨z,hz⟩:=hp d S1 w1
    cases d with
    | int i =>
      obtain rfl:v=.int i:=r1
      exact⟨i,rfl,h _ _ _ _ _ x1 hs1 hh1 w1 rfl⟩
    |_=>cases hz
 obtain⟨tl,pl,rl⟩:=part hlo
 obtain⟨th,ph,rh⟩:=part hhi
 refine PE.imp (ziX (SlR.or (SlR.or zkc zl0) ziy) ha pl ph) fun σ H Qv ⟨δ,ι,S,Q,hs,hh,w,q⟩=>?_
 simp only[evE,zaa] at w
 refine tE.run hs hh w fun d v ι1 H1 S1 x1 hs1 hh1 r1 w1=>?_
 have hz:∀(b:Bool) (y:D),zbD b y=none\/∃z,zbD b y=some z:=fun b y=>by cases zbD b y<;>simp
 refine rl hs1 hh1 w1 (fun y S2 w2=>?_) fun y ι2 H2 S2 zl x2 hs2 hh2 w2 hzl=>?_
 · rcases hz ml y with e|e
   · rw[W.iff] at w2
     obtain⟨u,S3,_,w3⟩:=w2
     rw[e] at w3;exact w3.elim
   · exact e
 · refine rh hs2 hh2 w2 (fun u S3 w3=>?_) fun u ι3 H3 S3 zh x3 hs3 hh3 w3 hzh=>?_
   · rcases hz mh u with e|e
     · rw[hzl,e] at w3;exact w3.elim
     · exact e
   · rw[hzl,hzh] at w3
     exact fin (σ:=σ) (δ:=δ) ((x1.trans x2).trans x3) hh3 (r1.ext (x2.trans x3)) q w3
end
end R
end
section
namespace R
open PySem PySem.Spec PyProof.Rows L2
variable [Mks]
noncomputable def rB (K:PySem.W.Frag)(f:R.St->List D->Out D):List V->Hp->VK->Prop:=fun xs H Qv=>∃ι S ds Qd,RVs K ι H ds xs/\RH K ι H S/\W (f S ds) Qd/\∀v H',Lf K ι H Qd v H'->Qv v H'
section
variable {T:Tab} {cf:CF} {k:Nat} {N:List Str} {sc:Scope} {X:Cx} {pos p:Pos}
theorem RVs.one {K:PySem.W.Frag}{ι:List Addr}{H:Hp}{d:D}{xs:List V}(r:RVs K ι H [d] xs):∃v,xs=[v]/\RV K ι H d v:=by
 obtain⟨v,w,rfl,r1,r2⟩:=r
 cases (show w=[] from r2)
 exact⟨v,rfl,r1⟩
theorem RVs.two {K:PySem.W.Frag}{ι:List Addr}{H:Hp}{d e:D}{xs:List V}(r:RVs K ι H [d,e] xs):∃v u,xs=[v,u]/\RV K ι H d v/\RV K ι H e u:=by
 obtain⟨v,w,rfl,r1,r2⟩:=r
 obtain⟨u,rfl,r3⟩:=RVs.one r2
 exact⟨v,u,rfl,r1,r3⟩
theorem zm3:zbb X (.builtin "len") (rB X.K fun S ds=>R.bi S .len ds):=by
 intro pins s σ H xs us Qv I rv ⟨ι,S,ds,Qd,r,hh,w,q⟩
 dsimp only at w
 unfold bi at w
 split at w
 case h_1 x=>
  obtain⟨v,rfl,rr⟩:=r.one
  split at w
  · obtain⟨a,xs,rfl,ha,r2⟩:=rr
    refine zbK pins s σ H _ us Qv I rv ⟨a,xs,rfl,.inr (SqT.of ha),?_⟩
    rw[r2.length]
    exact q _ _ (Lf.of (d:=.int _) hh rfl w)
  · obtain⟨a,xs,rfl,ha,r2⟩:=rr
    refine zbK pins s σ H _ us Qv I rv ⟨a,xs,rfl,.inl ha.sq,?_⟩
    rw[r2.length]
    exact q _ _ (Lf.of (d:=.int _) hh rfl w)
  · rename_i l
    obtain⟨a,h1,rfl⟩:=rr
    cases e:S.get l with
    |none=>rw[e] at w;exact w.elim
    | some o =>
      rw[e] at w
      obtain⟨b,h2,h3⟩:=hh.obj _ _ e
      rw[h1] at h2;cases h2
      cases o with
      | lst ds =>
        obtain⟨xs,ha,r2⟩:=h3
        refine zbK pins s σ H _ us Qv I rv ⟨a,xs,rfl,.inl (SqL.of ha),?_⟩
        rw[r2.length]
        exact q _ _ (Lf.of (d:=.int _) hh rfl w)
      | dic kvs =>
        obtain⟨_,ws,ha,rk⟩:=h3
        refine zii pins s σ H _ us Qv I rv ⟨a,ws,rfl,ha,?_⟩
        rw[rk.length]
        exact q _ _ (Lf.of (d:=.int _) hh rfl w)
      |ins _ _=>exact w.elim
      |d3 _=>exact w.elim
      | dtp kvs =>
        obtain⟨_,ws,ha,rk⟩:=h3
        refine zol pins s σ H _ us Qv I rv ⟨a,ws,rfl,ha,?_⟩
        rw[rk.length]
        exact q _ _ (Lf.of (d:=.int _) hh rfl w)
  · exact w.elim
 all_goals first|exact w.elim|(rename_i h;cases h)
theorem znF:zbb X (.builtin "abs") (rB X.K fun S ds=>R.bi S .abs ds):=by
 intro pins s σ H xs us Qv I rv ⟨ι,S,ds,Qd,r,hh,w,q⟩
 dsimp only at w
 unfold bi at w
 split at w
 case h_2 i _=>
  obtain⟨v,rfl,rr⟩:=r.one
  obtain rfl:v=.int i:=rr
  exact zjF pins s σ H _ us Qv I rv ⟨i,rfl,q _ _ (Lf.of (d:=.int _) hh rfl w)⟩
 all_goals first|exact w.elim|(rename_i h;cases h)
theorem zm1 (hc:X.calm=true):zbb X (.builtin "max") (rB X.K fun S ds=>R.bi S .max2 ds):=by
 intro pins s σ H xs us Qv I rv ⟨ι,S,ds,Qd,r,hh,w,q⟩
 dsimp only at w
 unfold bi at w
 split at w
 case h_3 i j _=>
  obtain⟨v,u,rfl,r1,r2⟩:=r.two
  obtain rfl:v=.int i:=r1
  obtain rfl:u=.int j:=r2
  exact zih hc pins s σ H _ us Qv I rv ⟨i,j,rfl,q _ _ (Lf.of (d:=.int _) hh rfl w)⟩
 all_goals first|exact w.elim|(rename_i h;cases h)
theorem zmZ (hc:X.calm=true):zbb X (.builtin "min") (rB X.K fun S ds=>R.bi S .min2 ds):=by
 intro pins s σ H xs us Qv I rv ⟨ι,S,ds,Qd,r,hh,w,q⟩
 dsimp only at w
 unfold bi at w
 split at w
 case h_4 i j _=>
  obtain⟨v,u,rfl,r1,r2⟩:=r.two
  obtain rfl:v=.int i:=r1
  obtain rfl:u=.int j:=r2
  exact zig hc pins s σ H _ us Qv I rv ⟨i,j,rfl,q _ _ (Lf.of (d:=.int _) hh rfl w)⟩
 all_goals first|exact w.elim|(rename_i h;cases h)
theorem zba (G:Gd T cf k N sc X){x:Str}(h:bltB T sc x=true):Gl X x/\X.mg x=none:=by
 unfold bltB at h
 rw[Bool.and_eq_true] at h
 exact⟨G.gl h.1,G.tab.blt x h.2⟩
theorem zn2 {b:Bi}{id:String}{x:Str}{ces:CEs}{e:Expr}{es:List Expr}(hc:zbb X (.builtin id) (rB X.K fun S ds=>R.bi S b ds))(hg:Gl X x/\X.mg x=none)(hv:bootBuiltins x=some (.builtin id))(ha:PA X (e::es) (tAs X.K cf ces))(hst:(e::es).all zaj=true)(hn:x≠"__name__")(hdb:(x == ("__debug__":Str))=false) :
  PE X (.Call (.Name x p) (e::es) [] pos) (tE X.K cf (.bi b ces)):=by
 rw[List.all_cons,Bool.and_eq_true] at hst
 refine PE.imp (zbP hc hg.1 hg.2 hv ha hn hdb (zak hst.1 es X.env) (zaS hst.2)) fun σ H Qv ⟨δ,ι,S,Q,hs,hh,w,q⟩=>?_
 simp only[evE,zaa] at w
 refine tAs.run hs hh w fun ds vs ι1 H1 S1 x1 hs1 hh1 r1 w1=>?_
 exact⟨ι1,S1,ds,Q,r1,hh1,w1,fun v H' l=>q v H' (Lf.up x1 l)⟩
theorem zj2 {ι:List Addr}{H:Hp}{S:R.St}{d:D}{v:V}{a:String}(hh:RH X.K ι H S)(r:RV X.K ι H d v)(h:tyOf S d=some a):zcq H v=some a:=by
 cases d with
 |non=>obtain rfl:v=.non:=r;exact h
 |bl b=>obtain rfl:v=.bl b:=r;exact h
 |int b=>obtain rfl:v=.int b:=r;exact h
 |str b=>obtain rfl:v=.str b:=r;exact h
 | tup ds =>
   obtain⟨p,xs,rfl,ha,_⟩:=r
   simp only[tyOf] at h
   simp only[zcq,ha]
   exact h
 | ref l =>
   obtain⟨p,h1,rfl⟩:=r
   simp only[tyOf] at h
   simp only[zcq]
   cases e:S.get l with
   |none=>rw[e] at h;cases h
   | some o =>
     rw[e] at h
     obtain⟨b,h2,h3⟩:=hh.obj _ _ e
     rw[h1] at h2;cases h2
     cases o with
     |lst ds=>obtain⟨xs,ha,_⟩:=h3;rw[ha];exact h
     |dic kvs=>obtain⟨_,ws,ha,_⟩:=h3;rw[ha];exact h
     |ins _ _=>cases h
     |d3 _=>cases h
     |dtp kvs=>obtain⟨_,ws,ha,_⟩:=h3;rw[ha];exact h
 |fix ds=>cases h
theorem zkn (G:Gd T cf k N sc X){t:String}{y:Str}{p2:Pos}{ce:CE}{e:Expr}(hg:Gl X "isinstance"/\X.mg "isinstance"=none)(hy:Gl X y/\X.mg y=none)(hb:bootBuiltins y=some (.type t))(ht:t∈["bool","int","str","list","tuple","dict"])(hyn:y≠"__name__")(hyd:(y == ("__debug__":Str))=false)
  (he:PE X e (tE X.K cf ce)) (hst:zaj e=true):PE X (.Call (.Name "isinstance" p) [e,.Name y p2] [] pos) (tE X.K cf (.bi (.isin t) (.cons ce .nil))):=by
 refine PE.imp (zbP zfz hg.1 hg.2 zch (zb8 he (zb8 (zkR (v:=.ty t) hy.1 hy.2 hb rfl hyn hyd) zfS) (zak hst _ X.env)) (by decide) (by decide) (zak hst _ X.env)) fun σ H Qv ⟨δ,ι,S,Q,hs,hh,w,q⟩=>?_
 simp only[evE,evEs,zaa,W_ok] at w
 refine tE.run hs hh w fun d v ι1 H1 S1 x1 hs1 hh1 r1 w1=>?_
 simp only[bi] at w1
 cases e:tyOf S1 d with
 |none=>rw[e] at w1;exact w1.elim
 | some a =>
   rw[e] at w1
   exact⟨v,t,a,rfl,zj2 hh1 r1 e,ht,q _ _ (Lf.up x1 (Lf.of (d:=.bl _) hh1 rfl w1))⟩
theorem zhL {ι:List Addr}{H:Hp}{S:R.St}{d:D}{v:V}(hh:RH X.K ι H S)(r:RV X.K ι H d v)(h:isL S d=true):tyV X.K "list" v H:=by
 cases d with
 | ref l =>
   obtain⟨p,h1,rfl⟩:=r
   simp only[isL] at h
   cases e:S.get l with
   |none=>rw[e] at h;cases h
   | some o =>
     rw[e] at h
     obtain⟨b,h2,h3⟩:=hh.obj _ _ e
     rw[h1] at h2;cases h2
     cases o with
     |lst ds=>obtain⟨xs,ha,_⟩:=h3;exact .inl ⟨rfl,xs,SqL.of ha⟩
     |_=>cases h
 |_=>cases h
noncomputable def rM (K:PySem.W.Frag)(m:Mt):V->List V->Hp->VK->Prop:=fun x xs H Qv=>∃ι S d ds Qd,RV K ι H d x/\RVs K ι H ds xs/\RH K ι H S/\W (R.mt S m d ds) Qd/\∀v H',Lf K ι H Qd v H'->Qv v H'
theorem zim:MtR X "list.append" (rM X.K .append):=by
 intro pins s σ H x xs v us Qv I rx rv ⟨ι,S,d,ds,Qd,r,rs,hh,w,q⟩
 unfold R.mt at w
 split at w
 case h_1 l y _=>
  obtain⟨a,h1,rfl⟩:=r
  obtain⟨u,rfl,ru⟩:=rs.one
  cases e:S.get l with
  |none=>rw[e] at w;exact w.elim
  | some o =>
    rw[e] at w
    obtain⟨b,h2,h3⟩:=hh.obj _ _ e
    rw[h1] at h2;cases h2
    cases o with
    | lst ds =>
      obtain⟨zs,ha,r2⟩:=h3
      obtain⟨c,S',hp,w2⟩:=zis w
      refine zeC pins s σ H _ _ v us Qv I rx rv ⟨a,zs,u,rfl,rfl,ha,?_,?_⟩
      · rw[r2.length]
        rw[List.length_append,List.length_singleton] at c
        omega
      · exact q _ _ (Lf.wr (d:=.non) hh e h1 hp (r2.append ⟨u,[],rfl,ru,rfl⟩) rfl w2)
    |_=>exact w.elim
 all_goals first|exact w.elim|(rename_i h;cases h)
theorem ziT:MtR X "list.pop" (rM X.K .popAt):=by
 intro pins s σ H x xs v us Qv I rx rv ⟨ι,S,d,ds,Qd,r,rs,hh,w,q⟩
 unfold R.mt at w
 split at w
 case h_2 l i _=>
  obtain⟨a,h1,rfl⟩:=r
  obtain⟨u,rfl,ru⟩:=rs.one
  obtain rfl:u=.int i:=ru
  cases e:S.get l with
  |none=>rw[e] at w;exact w.elim
  | some o =>
    rw[e] at w
    obtain⟨b,h2,h3⟩:=hh.obj _ _ e
    rw[h1] at h2;cases h2
    cases o with
    | lst ds =>
      obtain⟨zs,ha,r2⟩:=h3
      dsimp only at w
      split at w
      · rename_i c0
        cases ey:ds[i.toNat]? with
        |none=>rw[ey] at w;exact w.elim
        | some y =>
          rw[ey] at w
          obtain⟨c,S',hp,w2⟩:=zis w
          obtain⟨u,eu,ru⟩:=r2.get ey
          have hlt:i.toNat<zs.length:=(List.getElem?_eq_some_iff.mp eu).1
          have hz:zs.length<=sizeLine:=(I.lstM ha).1
          rw[sizeLine_eq] at hz
          refine zjb pins s σ H _ _ v us Qv I rx rv ⟨a,zs,i,i.toNat,u,rfl,rfl,ha,by omega,by omega,?_,eu,?_⟩
          · exact PySem.StrLaws.seqIndex_nonneg c0 (by omega)
          · exact q _ _ (Lf.wr (d:=y) hh e h1 hp (r2.erase _) ru w2)
      · exact w.elim
    |_=>exact w.elim
 all_goals first|exact w.elim|(rename_i h;cases h)
theorem zgQ:∀{ds:List D} {os:List (Option Int)},zb1 ds=some os->ds=os.map fun o=>match o with|some i=>D.int i|none=>D.non:=by
 intro ds
 unfold zb1
 induction ds with
 |nil=>intro os h;simp at h;subst h;rfl
 | cons d ds ih =>
   intro os h
   obtain⟨y,r,h1,h2,rfl⟩:=zaK h
   rw[ih h2]
   cases d<;>simp[zef] at h1<;>subst h1<;>rfl
noncomputable def wV:Option Int->V
 |some i=>.int i
 |none=>.non
theorem zfB {K:PySem.W.Frag}{ι:List Addr}{H:Hp}:∀{os:List (Option Int)} {vs:List V},RVs K ι H (os.map fun o=>match o with|some i=>D.int i|none=>D.non) vs->vs=os.map wV
 | [],_,h=>h
 | o :: os, vs, h => by
   obtain⟨v,r,rfl,h1,h2⟩:=h
   rw[zfB h2]
   cases o<;>rw[show v=_ from h1]<;>rfl
noncomputable def isI (i:Int):Value->Bool
 |.int j _=>j == i
 |_=>false
theorem zdF (i:Int):∀{os:List (Option Int)} {us:List Value},Vals (os.map wV) us->(∀y∈us,y=Value.none\/∃a u,y=Value.int a u)/\us.countP (isI i)=os.count (some i)
 | [],us,r=>by cases r;exact⟨fun y hy=>by simp at hy,rfl⟩
 | o :: os, us, r => by
   cases r with
   | @cons _ u _ us r1 r2 =>
     obtain⟨h1,h2⟩:=zdF i r2
     cases o with
     | none =>
       obtain rfl:u=Value.none:=r1
       refine⟨fun y hy=>?_,?_⟩
       · rcases List.mem_cons.mp hy with rfl|hy
         · exact .inl rfl
         · exact h1 y hy
       · rw[List.countP_cons,List.count_cons,h2];simp[isI]
     | some j =>
       obtain⟨t,rfl⟩:∃t,u=Value.int j t:=r1
       refine⟨fun y hy=>?_,?_⟩
       · rcases List.mem_cons.mp hy with rfl|hy
         · exact .inr ⟨_,_,rfl⟩
         · exact h1 y hy
       · rw[List.countP_cons,List.count_cons,h2];simp[isI]
theorem zjC:MtR X "list.count" (rM X.K .count):=by
 intro pins s σ H x xs v us Qv I rx rv ⟨ι,S,d,ds,Qd,r,rs,hh,w,q⟩
 unfold R.mt at w
 split at w
 case h_3 l i _=>
  obtain⟨a,h1,rfl⟩:=r
  obtain⟨u,rfl,ru⟩:=rs.one
  obtain rfl:u=.int i:=ru
  cases e:S.get l with
  |none=>rw[e] at w;exact w.elim
  | some o =>
    rw[e] at w
    obtain⟨b,h2,h3⟩:=hh.obj _ _ e
    rw[h1] at h2;cases h2
    cases o with
    | lst ds =>
      obtain⟨zs,ha,r2⟩:=h3
      dsimp only at w
      cases e2:zb1 ds with
      |none=>rw[e2] at w;exact w.elim
      | some os =>
        rw[e2] at w
        rw[zgQ e2] at r2
        cases zfB r2
        obtain⟨its,rz,pl,_⟩:=I.list (SqL.of ha)
        obtain⟨u1,rfl,ru1⟩:=Vals.one rv
        obtain⟨t,rfl⟩:=ru1
        cases rx
        obtain⟨c1,c2⟩:=zdF i rz
        have hl:=pl.isList
        obtain⟨⟨cls,dd,data,sl⟩,ho,hc,n,hd⟩:=id hl
        simp only at hc hd
        subst hc hd
        refine call_meets PySem.F.slot_list_count ⟨_,ho,rfl⟩ PySem.F.entry_list_count (PySem.F.args_list_count_2 _ _) (PySem.SeqAt.list_countAt a its.toArray n dd sl (.int i t) (isI i)) ⟨ho,fun y hy=>?_,?_⟩
        · rcases c1 y (by simpa using hy) with rfl|⟨j,u,rfl⟩
          · exact PySem.SeqAt.EqAt.none_int i t
          · exact PySem.SeqAt.EqAt.int_int j u i t
        · rw[show its.toArray.toList=its from rfl,c2]
          exact⟨.int _,H,I.tok _,⟨_,rfl⟩,q _ _ (Lf.of (d:=.int _) hh rfl w)⟩
    |_=>exact w.elim
 all_goals first|exact w.elim|(rename_i h;cases h)
theorem zkk {m:Mt}{id:String}{name:Str}{co ce:CE}{o e:Expr}{apos cpos:Pos}(slot:Slot "list" name id)(hty:typeOf (.builtin id)=pure (.type "method_descriptor"))(hm:MtR X id (rM X.K m))(ho:PE X o (tE X.K cf co))(he:PE X e (tE X.K cf ce))(hst:zaj e=true)(hsup:zbr o=true)(hl:(apos.endLine == cpos.line)=true) :
  PE X (.Call (.Attribute o name apos) [e] [] cpos) (tE X.K cf (.mt m co (.cons ce .nil))):=by
 refine PE.imp (zmJ PySem.F.plainAttrs_list slot hty hm ho (zg8 he zjO hst) (zcA hsup name X.env _) (by rw[zak hst];rfl) hl (zak hst [] X.env)) fun σ H Qv ⟨δ,ι,S,Q,hs,hh,w,q⟩=>?_
 simp only[evE,zaa] at w
 refine tE.run hs hh w fun d v ι1 H1 S1 x1 hs1 hh1 r1 w1=>?_
 split at w1
 · rename_i c
   refine⟨zhL hh1 r1 c,?_⟩
   rw[zaa] at w1
   refine tAs.run hs1 hh1 w1 fun ds vs ι2 H2 S2 x2 hs2 hh2 r2 w2=>?_
   exact⟨ι2,S2,d,ds,Q,r1.ext x2,r2,hh2,w2,fun z H3 l=>q z H3 (Lf.up (x1.trans x2) l)⟩
 · exact w1.elim
end
end R
end
section
namespace R
open PySem PySem.Spec PyProof.Rows L2
variable [Mks]
section
variable {T:Tab} {cf:CF} {k:Nat} {N:List Str} {sc:Scope} {X:Cx} {pos p:Pos}
theorem SqK.seq {K:PySem.W.Frag}{ι:List Addr}{H:Hp}{S:R.St}{a:Addr}{xs:List V}{ds:List D}{lks:List Nat}(h:SqK K ι H S a xs ds lks):SqL K H a xs\/SqT K H a xs:=by
 cases h with
 |tmp h e=>exact .inl (SqL.of e)
 |tup e=>exact .inr (SqT.of e)
 |fix e=>exact .inl e.sq
 |own l hl hi hs e=>exact .inl (SqL.of e)
theorem zlZ {ce:CE}{e:Expr}(he:PE X e (tE X.K cf ce)):PE X e (tL X.K cf (.val ce)):=by
 refine PE.imp he fun σ H Qv ⟨δ,ι,S,Q,hs,hh,w,q⟩=>?_
 simp only[evL,zaa] at w
 refine tE.run hs hh w fun d v ι1 H1 S1 x1 hs1 hh1 r1 w1=>?_
 obtain⟨ds,eq,w2⟩:=zaR w1
 refine q v H1 ⟨ds,lkOf S1 d,ι1,S1,x1,?_,hh1,w2⟩
 cases d with
 | tup es =>
   cases eq
   obtain⟨a,xs,rfl,ha,rr⟩:=r1
   exact⟨a,xs,rfl,rr,.tup ha⟩
 | fix es =>
   cases eq
   obtain⟨a,xs,rfl,ha,rr⟩:=r1
   exact⟨a,xs,rfl,rr,.fix ha⟩
 | ref l =>
   simp only[zcj] at eq
   split at eq
   · rename_i ds' e
     cases eq
     obtain⟨a,h1,rfl⟩:=r1
     obtain⟨a2,h2,xs,ha,rr⟩:=hh1.obj _ _ e
     rw[h1] at h2;cases h2
     exact⟨a,xs,rfl,rr,.own l (by simp[lkOf]) h1 e ha⟩
   · cases eq
 |_=>cases eq
theorem za3 {e:Expr}{te:TE}(he:PE X e te)(hst:zaj e=true):PA X [e] (zlR te tNil):=zb8 he zfS (zak hst [] X.env)
theorem zl5 (G:Gd T cf k N sc X){cl:CL}{e:Expr}(hg:Gl X "tuple"/\X.mg "tuple"=none)(he:PE X e (tL X.K cf cl))(hst:zaj e=true):PE X (.Call (.Name "tuple" p) [e] [] pos) (tE X.K cf (.mkT cl)):=by
 refine PE.imp (zbg zea hg.1 hg.2 zeb (za3 he hst) (by decide) (by decide) (zak hst [] X.env)) fun σ H Qv ⟨δ,ι,S,Q,hs,hh,w,q⟩=>?_
 simp only[evE,zaa] at w
 refine tL.run hs hh w fun ds lks v ι1 H1 S1 x1 hs1 hh1 sq w1=>?_
 split at w1
 · rename_i c
   obtain⟨a,xs,rfl,rr,kd⟩:=sq
   have fresh:SqL X.K H1 a xs->∃p ys,[V.ref a]=[V.ref p]/\((SqL X.K H1 p ys/\∀l,H1 l=none->Qv (.ref l) (upd H1 l (.tup ys)))\/(SqT X.K H1 p ys/\Qv (.ref p) H1)):=fun h=>
    ⟨a,xs,rfl,.inl ⟨h,fun l hl=>q _ _ (Lf.up x1 (Lf.tup hh1 hl rr w1))⟩⟩
   cases kd with
   |tmp h e=>exact fresh (SqL.of e)
   |fix e=>exact fresh e.sq
   |own l hl hi hs e=>exact fresh (SqL.of e)
   |tup e=>exact⟨a,xs,rfl,.inr ⟨SqT.of e,q _ _ (Lf.up x1 (Lf.of (d:=.tup ds) hh1 ⟨a,xs,rfl,e,rr⟩ w1))⟩⟩
 · exact w1.elim
theorem zjL (G:Gd T cf k N sc X){cl:CL}{e:Expr}(hg:Gl X "list"/\X.mg "list"=none)(he:PE X e (tL X.K cf cl))(hst:zaj e=true):PE X (.Call (.Name "list" p) [e] [] pos) (tE X.K cf (.mkL cl)):=by
 refine PE.imp (zbg ze0 hg.1 hg.2 zec (za3 he hst) (by decide) (by decide) (zak hst [] X.env)) fun σ H Qv ⟨δ,ι,S,Q,hs,hh,w,q⟩=>?_
 simp only[evE,zaa] at w
 refine tL.run hs hh w fun ds lks v ι1 H1 S1 x1 hs1 hh1 sq w1=>?_
 obtain⟨c,w2⟩:=zbZ w1
 obtain⟨a,xs,rfl,rr,kd⟩:=sq
 exact⟨a,xs,rfl,kd.seq,fun l hl=>q _ _ (Lf.up x1 (Lf.lst hh1 hl rr w2))⟩
theorem zhv {cl:CL}{σ:L2.St}{H:Hp}{Qv:VK}(h:tE X.K cf (.mkL cl) σ H Qv):tLt X.K cf cl σ H Qv:=by
 obtain⟨δ,ι,S,Q,hs,hh,w,q⟩:=h
 simp only[evE,zaa] at w
 refine tLt.run hs hh w fun ds p xs ι1 H1 S1 x1 hs1 hh1 r1 hp e hn w1=>?_
 obtain⟨c,w2⟩:=zbZ w1
 refine q _ _ ⟨.ref S1.len,ι1++[p],S1.push (.lst ds),?_,⟨p,hh1.last p,rfl⟩,hh1.one (l:=0) hp ⟨xs,e,r1.up (List.prefix_append _ _) (Kp.refl _)⟩,w2⟩
 refine⟨x1.pre.trans (List.prefix_append _ _),x1.kp,fun b o hb eb=>⟨(x1.rest b o hb eb).1,fun z=>?_⟩⟩
 rcases List.mem_append.mp z with z|z
 · exact (x1.rest b o hb eb).2 z
 · simp at z
   subst z
   rw[hn] at eb;cases eb
theorem zmc {ca:CE}{cl:CL}{o e:Expr}{apos cpos:Pos}(ho:PE X o (tE X.K cf ca))(he:PE X e (tLt X.K cf cl))(hst:zaj e=true)(hsup:zbr o=true)(hl:(apos.endLine == cpos.line)=true) :
  PE X (.Call (.Attribute o "extend" apos) [e] [] cpos) (tE X.K cf (.ext ca cl)):=by
 refine PE.imp (zmJ PySem.F.plainAttrs_list PySem.F.slot_list_extend PySem.F.type_list_extend zhu ho (za3 he hst) (zcA hsup "extend" X.env _) (by rw[zak hst];rfl) hl (zak hst [] X.env)) fun σ H Qv ⟨δ,ι,S,Q,hs,hh,w,q⟩=>?_
 simp only[evE,zaa] at w
 refine tE.run hs hh w fun d v ι1 H1 S1 x1 hs1 hh1 r1 w1=>?_
 split at w1
 · rename_i c
   refine⟨zhL hh1 r1 c,?_⟩
   rw[zaa] at w1
   refine tLt.run hs1 hh1 w1 fun ds b xs ι2 H2 S2 x2 hs2 hh2 rr _ hb _ w2=>?_
   cases d with
   | ref l =>
     obtain⟨a,h1,rfl⟩:=r1.ext x2
     dsimp only at w2
     cases e:S2.get l with
     |none=>rw[e] at w2;exact w2.elim
     | some o =>
       rw[e] at w2
       cases o with
       | lst es =>
         obtain⟨b',h2,zs,ha,rz⟩:=hh2.obj _ _ e
         rw[h1] at h2;cases h2
         obtain⟨c2,S',hp,w3⟩:=zis w2
         refine⟨a,b,zs,xs,rfl,rfl,ha,hb,?_,q _ _ (Lf.up (x1.trans x2) (Lf.wr (d:=.non) hh2 e h1 hp (rz.append rr) rfl w3))⟩
         rw[rz.length,rr.length,<-List.length_append];exact c2
       |_=>exact w2.elim
   |_=>exact w2.elim
 · exact w1.elim
end
end R
end
section
set_option maxHeartbeats 4000000
namespace R
open PySem PySem.Spec PyProof.Rows L2
variable [Mks]
section
variable {T:Tab} {cf:CF} {k:Nat} {N:List Str} {sc:Scope} {X:Cx} {pos p:Pos}
theorem zgb:bootBuiltins "range"=some (.type "range"):=by decide +kernel
theorem zew:zbb X (.type "range") (fun xs H Q=>∃j,xs=[.int j]/\∀p,H p=none->Q (.ref p) (upd H p (.rng 0 j))):=by
 intro pins s σ H xs us Q I r h
 obtain⟨j,rfl,q⟩:=h
 obtain⟨u,rfl,ru⟩:=r.one
 obtain⟨t,rfl⟩:=ru
 refine call_range_1 ⟨.ref s.heap.objs.size,_,I.laid (o:=.rng 0 j) (fun b ob e=>Heap.get?_push_of_some _ e) (Nat.le_refl _) ?_,rfl,q _ (I.hok.fresh (Nat.le_refl _))⟩
 exact⟨_,_,_,Heap.get?_push_size _ rfl⟩
theorem zjf (hc:X.calm=true):zbb X (.type "list") (fun xs H Q=>∃p hi,xs=[.ref p]/\H p=some (.rng 0 hi)/\-(2 ^ 62)<=hi/\hi<2 ^ 62/\hi.toNat<=16777216/\∀l,H l=none->Q (.ref l) (upd H l (.lst ((List.range hi.toNat).map fun (j:Nat)=>.int j)))):=by
 intro pins s σ H xs us Q I r h
 obtain⟨p,hi,rfl,hp,h1,h2,h3,q⟩:=h
 obtain⟨u,rfl,ru⟩:=r.one
 cases (show u=Value.ref p from ru)
 obtain⟨t,t2,t3,e⟩:=(show ObjOk X.prog X.w H s.heap p (.rng 0 hi) from I.hok p _ hp)
 have hn:Builtin.Range.rangeSize 0 hi 1=(hi.toNat:Nat):=by rw[rangeSize_one];split<;>omega
 refine call_list_range (I.ok.hd hc) e (small_one (by decide) (by decide) h1 h2) hn h3 fun h' tk acc c kp hg it=>?_
 refine⟨.ref s.heap.objs.size,_,I.laid (o:=.lst _) kp (Nat.le_refl _) ⟨?_,acc.toList,c,?_,?_⟩,rfl,q _ (I.hok.fresh (Nat.le_refl _))⟩
 · rw[List.length_map,List.length_range,sizeLine_eq];exact h3
 · have key:∀(n:Nat) (us:List Value),us.length=n->(∀(j:Nat) (v:Value),us[j]?=some v->∃t,v=Value.int (0+(j:Int) * 1) t)->Vals ((List.range n).map fun (j:Nat)=>V.int j) us:=by
    intro n
    induction n with
    | zero => intro us hl _; cases us with
      |nil=>exact .nil
      |cons _ _=>simp at hl
    | succ n ih =>
      intro us hl hv
      have hne:us≠[]:=by intro z;subst z;simp at hl
      have hd:us=us.dropLast++[us.getLast hne]:=(List.dropLast_concat_getLast hne).symm
      rw[List.range_succ,List.map_append,hd]
      have hdl:us.dropLast.length=n:=by simp[hl]
      refine Vals.append (ih _ hdl fun j v e=>hv j v ?_) (.cons ?_ .nil)
      · have hj:j<us.dropLast.length:=(List.getElem?_eq_some_iff.mp e).1
        rw[hd,List.getElem?_append_left hj];exact e
      · obtain⟨t,e⟩:=hv n (us.getLast hne) (by
         conv=>lhs;rw[hd]
         rw[List.getElem?_append_right (by omega)]
         simp[hdl])
        exact⟨t,by simpa using e⟩
   exact key _ _ (by simpa using it.1) fun j v e=>it.2 j v (by simpa using e)
 · simpa using hg
theorem zkl (G:Gd T cf k N sc X){ca:CE}{a:Expr}{p2:Pos}(hg:Gl X "list"/\X.mg "list"=none)(hr:Gl X "range"/\X.mg "range"=none)(ha:PE X a (tE X.K cf ca))(hst:zaj a=true) :
  PE X (.Call (.Name "list" p) [.Call (.Name "range" p2) [a] [] pos'] [] pos) (tE X.K cf (.mkL (.rng1 ca))):=by
 have hin:=zbg (p:=p2) (pos:=pos') zew hr.1 hr.2 zgb (za3 ha hst) (by decide) (by decide) (zak hst [] X.env)
 refine PE.imp (zbg (zjf G.calm) hg.1 hg.2 zec (za3 hin rfl) (by decide) (by decide) rfl) fun σ H Qv ⟨δ,ι,S,Q,hs,hh,w,q⟩=>?_
 simp only[evE,evL,zaa] at w
 refine tE.run hs hh w fun d v ι1 H1 S1 x1 hs1 hh1 r1 w1=>?_
 cases d with
 | int j =>
   obtain rfl:v=.int j:=r1
   dsimp only at w1
   split at w1
   · rename_i c
     obtain⟨c2,w2⟩:=zbZ w1
     refine⟨j,rfl,fun pr hpr=>⟨pr,j,rfl,zaq,c.1,c.2,by simpa[sizeLine_eq] using c2,fun l hl=>?_⟩⟩
     have hh2:=hh1.new hpr (.rng 0 j)
     refine q _ _ (Lf.up (x1.trans (Ext.new hpr _)) (Lf.lst hh2 hl ?_ w2))
     have:=RVs.ints (K:=X.K) (ι:=ι1) (H:=upd H1 pr (.rng 0 j)) ((List.range j.toNat).map fun (m:Nat)=>(m:Int))
     rw[List.map_map,List.map_map] at this
     exact this
   · exact w1.elim
 |_=>exact w1.elim
theorem zlr {ds:List D}{bs:List Bool}(h:ds.mapM ze1=some bs):ds=bs.map D.bl:=by
 induction ds generalizing bs with
 | nil =>
   have h:bs=[]:=by simpa using h.symm
   subst h;rfl
 | cons d ds ih =>
   obtain⟨y,r,h1,h2,rfl⟩:=zaK h
   cases d<;>simp[ze1] at h1
   subst h1
   rw[ih h2];rfl
theorem RVs.bls_eq {K:PySem.W.Frag}{ι:List Addr}{H:Hp}:∀{bs:List Bool} {vs:List V},RVs K ι H (bs.map D.bl) vs->vs=bs.map V.bl
 | [],_,h=>h
 | b :: bs, vs, h => by
   obtain⟨v,r,rfl,h1,h2⟩:=h
   rw[RVs.bls_eq h2,show v=.bl b from h1];rfl
theorem zgU {bs:List Bool}{us:List Value}(r:Vals (bs.map V.bl) us):us=bs.map Value.bool:=by
 induction bs generalizing us with
 |nil=>cases r;rfl
 | cons b bs ih =>
   cases r with
   |cons r1 r2=>rw[ih r2,show _=Value.bool b from r1];rfl
theorem zio (bs:List Bool):(List.range bs.length).all (fun i=>bs.getD i false)=bs.all id:=by
 rw[Bool.eq_iff_iff,List.all_eq_true,List.all_eq_true]
 constructor
 · intro h b hb
   obtain⟨i,hi,e⟩:=List.getElem_of_mem hb
   have:=h i (by simpa using hi)
   rw[List.getD_eq_getElem?_getD,List.getElem?_eq_getElem hi,e] at this
   exact this
 · intro h i hi
   have hi:i<bs.length:=by simpa using hi
   rw[List.getD_eq_getElem?_getD,List.getElem?_eq_getElem hi]
   exact h _ (List.getElem_mem hi)
theorem zlz (hc:X.calm=true):zbb X (.builtin "all") (fun xs H Q=>∃(a:Addr) (bs:List Bool),xs=[.ref a]/\(SqL X.K H a (bs.map V.bl)\/SqT X.K H a (bs.map V.bl))/\Q (.bl (bs.all id)) H):=by
 intro pins s σ H xs us Q I r h
 obtain⟨a,bs,rfl,hq,q⟩:=h
 obtain⟨u,rfl,ru⟩:=r.one
 cases (show u=Value.ref a from ru)
 have hA:X.A.in1.in1.handled=none:=I.ok.hd hc
 have hA1:X.A.in1.handled=none:=I.ok.hd hc
 have tr:∀(items:Array Value),items.toList=bs.map Value.bool->TruthOf X.prog X.w X.A.in1 (fun i v=>items[i]?=some v) (fun i=>bs.getD i false):=by
  intro items e i v s' Q' E' hv hQ
  have hv':items.toList[i]?=some v:=by rw[Array.getElem?_toList];exact hv
  rw[e,List.getElem?_map] at hv'
  cases z:bs[i]? with
  |none=>rw[z] at hv';cases hv'
  | some b =>
    rw[z] at hv'
    simp only[Option.map_some,Option.some.injEq] at hv'
    subst hv'
    dsimp only at hQ
    rw[List.getD_eq_getElem?_getD,z] at hQ
    exact wpAny_truthy_bool hQ
 have fin:∀(h':Heap) (tk n:Nat) (s2:Shared) (it:Addr),n=bs.length->s.heap.objs.size=it->Inv X pins σ H s2->s2.os=s.os->(∀b o,b∉[it]->s2.heap.get? b=some o->h'.get? b=some o)->
   EP X pins σ Q (.bool ((List.range n).all fun i=>bs.getD i false)) {s2 with heap:=h',toks:=tk}:=by
  intro h' tk n s2 it hn hit I2 ho kp
  subst hn
  rw[zio]
  have fp:=I.fpOk (b:=it) (H':=H) (by omega) (I.hok.fresh (by omega))
  obtain⟨f0,f1,f2,f3,f4,f5⟩:=fp
  exact⟨.bl _,H,I2.turned (it:=it) (fun b o hb e=>kp b o (by simpa using hb) e) f0 f1 f3 f4 f5,rfl,q⟩
 rcases hq with hq|hq
 · obtain⟨its,rv,pl,hz⟩:=I.list hq
   have hits:=zgU rv
   have hlen:=rv.length
   refine call_all_walk (wpAny_pyIter_list pl.isList ?_)
   have hne:a≠s.heap.objs.size:=by
    obtain⟨o,n,e,_⟩:=pl
    exact Nat.ne_of_lt (Heap.lt_size e)
   refine⟨s.heap.objs.size,_,_,_,_,_,_,rfl,Walks.list hA1 _ a hne its.toArray,⟨⟨_,Heap.get?_push_size _ rfl,rfl,rfl⟩,pl.isList.push _⟩,tr its.toArray (by simpa using hits),fun h' tk kp=>?_⟩
   exact fin h' tk _ _ _ (by simpa using hlen.symm) rfl (I.kept (t':=s.toks) fun b o e=>Heap.get?_push_of_some _ e) rfl kp
 · obtain⟨its,rv,pl,hz⟩:=I.tuple hq
   have hits:=zgU rv
   have hlen:=rv.length
   refine call_all_walk (wpAny_pyIter_tuple (show s.heap.IsTuple a its.toArray from pl) ?_)
   have hne:a≠s.heap.objs.size:=by
    obtain⟨o,e,_⟩:=pl
    exact Nat.ne_of_lt (Heap.lt_size e)
   refine⟨s.heap.objs.size,_,_,_,_,_,_,rfl,Walks.tuple hA1 _ a hne its.toArray,⟨⟨_,Heap.get?_push_size _ rfl,rfl,rfl⟩,?_⟩,tr its.toArray (by simpa using hits),fun h' tk kp=>?_⟩
   · obtain⟨o,e,c⟩:=pl
     exact⟨o,Heap.get?_push_of_some _ e,c⟩
   · exact fin h' tk _ _ _ (by simpa using hlen.symm) rfl (I.kept (t':=s.toks) fun b o e=>Heap.get?_push_of_some _ e) rfl kp
theorem zmh (G:Gd T cf k N sc X){cl:CL}{e:Expr}(hg:Gl X "all"/\X.mg "all"=none)(he:PE X e (tL X.K cf cl))(hst:zaj e=true):PE X (.Call (.Name "all" p) [e] [] pos) (tE X.K cf (.all cl)):=by
 refine PE.imp (zbP (zlz G.calm) hg.1 hg.2 znC (za3 he hst) (by decide) (by decide) (zak hst [] X.env)) fun σ H Qv ⟨δ,ι,S,Q,hs,hh,w,q⟩=>?_
 simp only[evE,zaa] at w
 refine tL.run hs hh w fun ds lks v ι1 H1 S1 x1 hs1 hh1 sq w1=>?_
 obtain⟨b,hb,w2⟩:=zaR w1
 unfold allD at hb
 cases e:ds.mapM ze1 with
 |none=>rw[e] at hb;cases hb
 | some bs =>
   rw[e] at hb
   have hb:b=bs.all id:=by simpa using hb.symm
   subst hb
   obtain⟨a,xs,rfl,rr,kd⟩:=sq
   rw[zlr e] at rr
   have:=rr.bls_eq
   subst this
   exact⟨a,bs,rfl,kd.seq,q _ _ (Lf.up x1 (Lf.of (d:=.bl _) hh1 rfl w2))⟩
theorem zm6 {ι:List Addr}{H:Hp}{y:D}{v:V}{k:List Int}(r:RV X.K ι H y v)(h:zd0 y=some k):∃b,v=.ref b/\H b=some (.tup ((kI k).map kV)):=by
 cases y with
 | tup ds =>
   obtain⟨b,xs,rfl,hb,rr⟩:=r
   simp only[zd0] at h
   rw[zcf h] at rr
   rw[rr.ints_eq] at hb
   refine⟨b,rfl,?_⟩
   rw[hb]
   unfold kI
   rw[List.map_map];rfl
 |_=>cases h
theorem ziC:PE X (.Dict [] [] pos) (tE X.K cf .dnewT):=by
 refine PE.imp zi2 fun σ H Qv ⟨δ,ι,S,Q,hs,hh,w,q⟩=>?_
 simp only[evE] at w
 intro p hp
 exact q _ _ ⟨.ref S.len,ι++[p],S.push (.dtp []),Ext.obj hh hp _,⟨p,hh.last p,rfl⟩,hh.obj' hp _ _ ⟨List.nodup_nil,[],zaq,rfl⟩,w⟩
end
end R
end
section
set_option maxHeartbeats 4000000
namespace R
open PySem PySem.Spec PyProof.Rows L2
variable [Mks]
section
variable {prog:Program} {w:World} {A:Around} {E:Value->Shared->Prop} {s:Shared}
end
section
variable {T:Tab} {cf:CF} {k:Nat} {N:List Str} {sc:Scope} {X:Cx} {pos p p2 pos':Pos}
end
end R
end
section
namespace R
open PySem
noncomputable abbrev Rise (xs:Array Nat):Prop:=xs.toList.Pairwise (· < ·)
structure TOk (b:Bool) (t:SetTable):Prop where
 led:t.led=b
 rise:Rise t.place
end R
end
section
set_option maxHeartbeats 4000000
namespace R
open PySem PySem.Spec PyProof.Rows
section
variable {prog:Program} {w:World} {A:Around} {E:Value->Shared->Prop} {s:Shared}
end
end R
end
section
set_option maxHeartbeats 8000000
namespace R
open PySem PySem.Spec PyProof.Rows
section
variable {prog:Program} {w:World} {A:Around} {R:Result->Shared->Prop} {I:Addr} {fp wr:List Addr} {G:Array GenState->Array GenState->Prop} {n:Nat} {P:Nat->Value->Prop} {St:Nat->Shared->Prop}
end
section
variable {prog:Program} {w:World} {A:Around} {E:Value->Shared->Prop} {s:Shared}
end
end R
end
section
set_option maxHeartbeats 4000000
namespace R
open PySem PySem.Spec PyProof.Rows
end R
end
section
set_option maxHeartbeats 4000000
namespace R
open PySem PySem.Spec PyProof.Rows
section
variable {prog:Program} {w:World} {A:Around} {E:Value->Shared->Prop} {s:Shared} {a j:Addr} {o:Obj} {es:Array (Int × Value)} {ep:Nat} {t:SetTable}
end
end R
end
section
set_option maxHeartbeats 4000000
namespace R
open PySem PySem.Spec PyProof.Rows
section
variable {prog:Program} {w:World} {A:Around} {E:Value->Shared->Prop} {s:Shared} {a j:Addr} {o:Obj} {es:Array (Int × Value)} {ep:Nat} {t:SetTable}
end
end R
end
section
set_option maxHeartbeats 4000000
namespace R
open PySem PySem.Spec PyProof.Rows
section
variable {prog:Program} {w:World} {A:Around} {E:Value->Shared->Prop} {s:Shared} {a j:Addr} {o:Obj} {es:Array (Int × Value)} {ep:Nat} {t:SetTable}
noncomputable abbrev YP (vals:List Value):Nat->Value->Prop:=fun i v=>vals[i]?=some v
end
end R
end
section
set_option maxHeartbeats 4000000
namespace R
open PySem PySem.Spec PyProof.Rows
section
variable {prog:Program} {w:World} {A:Around} {E:Value->Shared->Prop} {s:Shared} {a:Addr} {o:Obj} {es:Array (Int × Value)} {ep:Nat} {t:SetTable}
structure Got (prog:Program) (w:World) (h0 h':Heap) (a:Addr) (vals:List Value) (I:Addr) (fp:List Addr) (St:Nat->Heap->Prop):Prop where
 wk:∀A:Around,A.handled=none->Walks prog w A I fp [I] vals.length (YP vals) St
 st:St 0 h'
 old:∀b o,h0.get? b=some o->h'.get? b=some o
 new:h0.objs.size<=I
 lt:I<h'.objs.size
 fp:∀b∈fp,b=a\/(h0.objs.size<=b/\b<h'.objs.size)
end
end R
end
section
set_option maxHeartbeats 4000000
namespace R
open PySem PySem.Spec PyProof.Rows
section
variable {prog:Program} {w:World} {A:Around} {E:Value->Shared->Prop} {s:Shared} {a:Addr} {o:Obj} {es:Array (Int × Value)} {ep:Nat} {t:SetTable}
end
end R
end
section
set_option maxHeartbeats 4000000
namespace R
open PySem PySem.Spec PyProof.Rows L2
section
variable [Mks] {X:Cx}
theorem zlc {pins:List (Addr × Obj)}{σ:L2.St}{H:Hp}{s:Shared}{h':Heap}{a:Addr}{o:HO}{t':Nat}{d':Drawn}(I:Inv X pins σ H s)(k:∀b u,s.heap.get? b=some u->h'.get? b=some u)(hp:s.heap.objs.size<=a)(new:ObjOk X.prog X.w (upd H a o) h' a o) :
 Inv X pins σ (upd H a o) {s with heap:=h',drawn:=d',toks:=t'}:=I.call' rfl (Un.laid k hp (I.hok.fresh hp)) (I.hok.laid k hp new) I.bare fun b (hb:b∈([]:List Addr))=>by cases hb
variable {T:Tab} {cf:CF} {k:Nat} {N:List Str} {sc:Scope} {pos p p2 pos':Pos}
theorem ze6:bootBuiltins "sorted"=some (.builtin "sorted"):=by rfl
end
end R
end
section
set_option maxHeartbeats 4000000
namespace R
open PySem PySem.Spec PyProof.Rows L2
section
variable [Mks] {X:Cx}
variable {T:Tab} {cf:CF} {k:Nat} {N:List Str} {sc:Scope} {pos p:Pos}
theorem zny:bootBuiltins "min"=some (.builtin "min"):=by rfl
end
end R
end
section
set_option maxHeartbeats 4000000
namespace R
open PySem PySem.Spec PyProof.Rows L2
section
variable {prog:Program} {w:World} {A:Around} {E:Value->Shared->Prop} {s:Shared} {a:Addr} {kvs:List (Key × Value)} {ep:Nat}
theorem zcx {Rr:List Value->Shared->Prop}{P:List Value->Prop}(hr:a<s.heap.objs.size)
  (key:∀(R:Result->Shared->Prop) (s1:Shared),s1={s with heap:=s.heap.push {cls:=.type "list",data:=.seq #[]}}->
   (∀h' tk acc c,(∀b o,b≠s.heap.objs.size->s1.heap.get? b=some o->h'.get? b=some o)->h'.get? s.heap.objs.size=some {cls:=.type "list",dict:=none,data:=.seq acc c,slots:=#[]}->P acc.toList->R (.ok (.ret (.ref s.heap.objs.size))) {s1 with heap:=h',toks:=tk})->
   wpAny (model prog w) A.in1 (Builtin.List.listExtendWith (.ref s.heap.objs.size) (.ref a) (.ref s.heap.objs.size))
    (fun fin s'=>match fin with|.done f=>R (.ok f) s'|.again c'=>c'.quiet=true/\codeAny (model prog w) A c' R s') (fun e s'=>R (.error e) s') s1)
  (h:∀(h':Heap) (tk:Nat) (vals:List Value),(∀b o,s.heap.get? b=some o->h'.get? b=some o)->s.heap.objs.size<h'.objs.size->P vals->Rr vals {s with heap:=h',toks:=tk}) :
  wpAny (model prog w) A (collect (.ref a)) Rr E s:=by
 unfold collect
 refine wpAny_bind (wpAny_runValue (codeAny_builtin PySem.F.entry_proto_collect ?_))
 rw[Around.under_plainId PySem.F.plain_proto_collect _]
 show wpAny _ A.in1 (newList [] >>= fun l=>again (.builtin "list.__iadd__" ⟨[l,.ref a],[]⟩)) _ _ s
 refine wpAny_bind (wpAny_newObj_type ?_)
 refine wpAny_pure ⟨plainId_quiet PySem.F.plain_list_iadd _,codeAny_builtin PySem.F.entry_list_iadd ?_⟩
 rw[Around.under_plainId PySem.F.plain_list_iadd _]
 show wpAny _ A.in1 (Builtin.List.listExtendWith (.ref s.heap.objs.size) (.ref a) (.ref s.heap.objs.size)) _ _ _
 have key:=key (fun (q:Result) (s':Shared)=>∃(h':Heap) (tk:Nat) (acc':Array Value) (c':Nat),q=.ok (.ret (.ref s.heap.objs.size))/\s'={s with heap:=h',toks:=tk}/\
   (∀b o,s.heap.get? b=some o->h'.get? b=some o)/\h'.get? s.heap.objs.size=some {cls:=.type "list",dict:=none,data:=.seq acc' c',slots:=#[]}/\P acc'.toList) _ rfl
  (fun h' tk acc' c' hk hS' hacc=>⟨h',tk,acc',c',rfl,rfl,fun b o e=>hk b o (Nat.ne_of_lt (Heap.lt_size e)) (Heap.get?_push_of_some _ e),hS',hacc⟩)
 refine wpAny_mono key (fun fin s' x=>?_) fun e s' x=>?_
 · cases fin with
   | done f =>
     obtain⟨h',tk,acc',c',e,rfl,hk,hS',hacc⟩:=x
     cases e
     show wpAny _ A (load s.heap.objs.size >>= _) _ _ _
     exact wpAny_bind (wpAny_load hS' (wpAny_pure (h h' tk _ hk (Heap.lt_size hS') hacc)))
   | again c₁ =>
     refine⟨x.1,codeAny_mono x.2 fun q s₂ y=>?_⟩
     obtain⟨h',tk,acc',c',rfl,rfl,hk,hS',hacc⟩:=y
     show wpAny _ A (load s.heap.objs.size >>= _) _ _ _
     exact wpAny_bind (wpAny_load hS' (wpAny_pure (h h' tk _ hk (Heap.lt_size hS') hacc)))
 · obtain⟨_,_,_,_,e',_⟩:=x
   cases e'
end
theorem ziK {n:Nat}{us:List Value}(it:us.length=n/\∀(j:Nat) (v:Value),us[j]?=some v->∃t,v=Value.int (0+(j:Int) * 1) t):Vals ((List.range n).map fun (j:Nat)=>V.int j) us:=by
 obtain⟨hl,hv⟩:=it
 induction n generalizing us with
 | zero => cases us with
   |nil=>exact .nil
   |cons _ _=>simp at hl
 | succ n ih =>
   have hne:us≠[]:=by intro z;subst z;simp at hl
   have hd:us=us.dropLast++[us.getLast hne]:=(List.dropLast_concat_getLast hne).symm
   rw[List.range_succ,List.map_append,hd]
   have hdl:us.dropLast.length=n:=by simp[hl]
   refine Vals.append (ih hdl fun j v e=>hv j v ?_) (.cons ?_ .nil)
   · have hj:j<us.dropLast.length:=(List.getElem?_eq_some_iff.mp e).1
     rw[hd,List.getElem?_append_left hj];exact e
   · obtain⟨t,e⟩:=hv n (us.getLast hne) (by
      conv=>lhs;rw[hd]
      rw[List.getElem?_append_right (by omega)]
      simp[hdl])
     exact⟨t,by simpa using e⟩
section
variable {prog:Program} {w:World} {A:Around} {E:Value->Shared->Prop} {s:Shared}
theorem zdo {Q₁:Value->Shared->Prop}{r:Addr}{a b c:Int}{t u v:Tok}{n:Nat}(hh:A.handled=none)(hr:IsRange s.heap r a b c t u v)(hsmall:Builtin.Range.small a b c=true)(hn:Builtin.Range.rangeSize a b c=n)(hlen:n<=16777216)
  (h:∀(h':Heap) (tk:Nat) (vals:List Value),(∀b o,s.heap.get? b=some o->h'.get? b=some o)->(vals.length=n/\∀(i:Nat) (x:Value),vals[i]?=some x->∃t,x=.int (a+i * c) t)->Q₁ (.ref h'.objs.size) {s with heap:=h'.push {cls:=.type "tuple",data:=.seq vals.toArray},toks:=tk}) :
  codeAny (model prog w) A (.call (.builtin "tuple.__new__") ⟨[.type "tuple",.ref r],[]⟩) (wants Q₁ E) s:=by
 refine codeAny_of_tree ?_
 show wpAny _ A.in1 (do checkBuiltinCall "tuple.__new__" ⟨[.type "tuple",.ref r],[]⟩;again (.builtin "tuple.__new__" ⟨[.type "tuple",.ref r],[]⟩)) _ _ s
 refine wpAny_bind (wpAny_of_eq (F.newCall_tuple_1 _) (wpAny_pure ⟨plainId_quiet F.plain_tuple_new _,codeAny_builtin F.entry_tuple_new ?_⟩))
 rw[Around.under_plainId F.plain_tuple_new _]
 have hsub:=sub_tuple_self
 have hinit:=init_tuple_lookup
 have hmh:=madeHere_tuple
 have hTI:s.TypeIs (.ref r) "range":=⟨_,hr,rfl⟩
 have col:∀{A':Around} {Rr:List Value->Shared->Prop} {E':Value->Shared->Prop},A'.handled=none->(∀(h':Heap) (tk:Nat) (vals:List Value),(∀b o,s.heap.get? b=some o->h'.get? b=some o)->s.heap.objs.size<h'.objs.size->(vals.length=n/\∀(i:Nat) (x:Value),vals[i]?=some x->∃t,x=.int (a+i * c) t)->Rr vals {s with heap:=h',toks:=tk})->wpAny (model prog w) A' (collect (.ref r)) Rr E' s:=by
  intro A' Rr E' hA' hR
  refine zcx (Heap.lt_size hr) (fun R s1 e1 hR'=>?_) hR
  subst e1
  exact wpAny_extend_range hA' (Heap.get?_push_of_some _ hr) hsmall hn hlen _ _ 0 (Heap.get?_push_size _ rfl) fun h' tk acc c' hk hS' hacc=>hR' h' tk acc c' hk hS' ⟨by rw[Array.length_toList];exact hacc.1,fun i x e=>hacc.2 i x (by simpa using e)⟩
 wp_walk using wpAny_typeOf hTI,col (A':=A.in1) hh
 intro h' tk vals kp hlt hv
 show wpAny _ _ (Builtin.Tuple.tupleExact vals.toArray >>= fun v=>ret v) _ _ _
 unfold Builtin.Tuple.tupleExact
 refine wpAny_bind (wpAny_newObj_type ?_ (by show vals.toArray.size<=sizeLine;rw[List.size_toArray,hv.1,sizeLine_eq];exact hlen))
 refine wpAny_pure ?_
 exact h h' tk vals kp hv
end
section
variable [Mks] {X:Cx}
variable {T:Tab} {cf:CF} {k:Nat} {N:List Str} {sc:Scope} {pos p p2 pos':Pos}
theorem zgZ (hc:X.calm=true):zbb X (.type "tuple") (fun xs H Q=>∃p hi,xs=[.ref p]/\H p=some (.rng 0 hi)/\-(2 ^ 62)<=hi/\hi<2 ^ 62/\hi.toNat<=16777216/\∀l,H l=none->Q (.ref l) (upd H l (.tup ((List.range hi.toNat).map fun (j:Nat)=>.int j)))):=by
 intro pins s σ H xs us Q I r h
 obtain⟨p,hi,rfl,hp,h1,h2,h3,q⟩:=h
 obtain⟨u,rfl,ru⟩:=r.one
 cases (show u=Value.ref p from ru)
 obtain⟨t,t2,t3,e⟩:=(show ObjOk X.prog X.w H s.heap p (.rng 0 hi) from I.hok p _ hp)
 have hA:X.A.handled=none:=I.ok.hd hc
 have hn:Builtin.Range.rangeSize 0 hi 1=(hi.toNat:Nat):=by rw[rangeSize_one];split<;>omega
 refine callType_codes (Q₁:=fun obj s₁=>s₁.TypeIs obj "tuple"/\∃v H',Inv X pins σ H' s₁/\RelV v obj/\Q v H') F.called_tuple (F.typeCall_tuple_1 _) F.entry_object_init ?_ fun obj s₁ h₁=>?_
 · refine zdo hA e (small_one (by decide) (by decide) h1 h2) hn h3 fun h' tk acc kp it=>⟨⟨_,Heap.get?_push_size _ rfl,rfl⟩,?_⟩
   have I1:Inv X pins σ H {s with heap:=h',toks:=tk}:=I.kept kp
   refine⟨.ref h'.objs.size,_,I1.laid (o:=.tup ((List.range hi.toNat).map fun (j:Nat)=>.int j)) (t':=tk) (fun b o e=>Heap.get?_push_of_some _ e) (Nat.le_refl _) ⟨?_,acc,ziK it,IsTup.new _ _⟩,rfl,q _ (I1.hok.fresh (Nat.le_refl _))⟩
   rw[List.length_map,List.length_range,sizeLine_eq];exact h3
 · exact⟨h₁.1,F.args_object_init_2 obj _,object_init_meets F.called_tuple.init.lookup F.called_tuple.made (by decide) X.prog X.w X.A.in1 _ s₁ ⟨h₁.1,rfl,h₁.2⟩⟩
theorem ziA (G:Gd T cf k N sc X){ca:CE}{a:Expr}{p2:Pos}(hg:Gl X "tuple"/\X.mg "tuple"=none)(hr:Gl X "range"/\X.mg "range"=none)(ha:PE X a (tE X.K cf ca))(hst:zaj a=true) :
  PE X (.Call (.Name "tuple" p) [.Call (.Name "range" p2) [a] [] pos'] [] pos) (tE X.K cf (.mkT (.rng1 ca))):=by
 have hin:=zbg (p:=p2) (pos:=pos') zew hr.1 hr.2 zgb (za3 ha hst) (by decide) (by decide) (zak hst [] X.env)
 refine PE.imp (zbg (zgZ G.calm) hg.1 hg.2 zeb (za3 hin rfl) (by decide) (by decide) rfl) fun σ H Qv ⟨δ,ι,S,Q,hs,hh,w,q⟩=>?_
 simp only[evE,evL,zaa] at w
 refine tE.run hs hh w fun d v ι1 H1 S1 x1 hs1 hh1 r1 w1=>?_
 cases d with
 | int j =>
   obtain rfl:v=.int j:=r1
   dsimp only at w1
   split at w1
   · rename_i c
     rw[W_ok] at w1
     split at w1
     · rename_i c2
       refine⟨j,rfl,fun pr hpr=>⟨pr,j,rfl,zaq,c.1,c.2,by simpa using c2,fun l hl=>?_⟩⟩
       have hh2:=hh1.new hpr (.rng 0 j)
       refine q _ _ (Lf.up (x1.trans (Ext.new hpr _)) (Lf.tup hh2 hl ?_ w1))
       have:=RVs.ints (K:=X.K) (ι:=ι1) (H:=upd H1 pr (.rng 0 j)) ((List.range j.toNat).map fun (m:Nat)=>(m:Int))
       rw[List.map_map,List.map_map] at this
       exact this
     · exact w1.elim
   · exact w1.elim
 |_=>exact w1.elim
end
end R
end
section
namespace R
open PySem PySem.W PyProof.Rows
section
variable {n:Nat} {r:Nat->Int} {cmp:Nat->Nat->(Bool->Shared->Prop)->Shared->Prop} {s:Shared}
noncomputable abbrev GP (n:Nat)(p:Array Nat):Prop:=p.Perm (List.range n).toArray
noncomputable def kAt (r:Nat->Int)(p:Array Nat)(i:Nat):Int:=r (p.getD i 0)
noncomputable def AscTo (r:Nat->Int)(p:Array Nat)(k:Nat):Prop:=∀i j,i<j->j<k->kAt r p i<kAt r p j
noncomputable def DescTo (r:Nat->Int)(p:Array Nat)(k:Nat):Prop:=∀i j,i<j->j<k->kAt r p j<kAt r p i
theorem GP.size {p:Array Nat}(h:GP n p):p.size=n:=by
 have:=h.size_eq
 simpa using this
theorem GP.list {p:Array Nat}(h:GP n p):p.toList.Perm (List.range n):=by
 have:=Array.perm_iff_toList_perm.mp h
 simpa using this
theorem zbj (p:Array Nat){i:Nat}(hi:i<p.size):p.getD i 0=p.toList[i]'(by simpa using hi):=by
 simp[Array.getD,hi]
theorem GP.lt {p:Array Nat}(h:GP n p){i:Nat}(hi:i<n):p.getD i 0<n:=by
 have hs:=h.size
 rw[zbj p (by omega)]
 exact List.mem_range.mp (h.list.mem_iff.mp (List.getElem_mem _))
theorem GP.inj {p:Array Nat}(h:GP n p)(hr:∀i j,i<n->j<n->r i=r j->i=j){i j:Nat}(hi:i<n)(hj:j<n)(e:kAt r p i=kAt r p j):i=j:=by
 have e':=hr _ _ (h.lt hi) (h.lt hj) e
 have hs:=h.size
 rw[zbj p (by omega),zbj p (by omega)] at e'
 have nd:p.toList.Nodup:=h.list.nodup_iff.mpr List.nodup_range
 have pw:=List.pairwise_iff_getElem.mp nd
 rcases Nat.lt_trichotomy i j with z|z|z
 · exact absurd e' (pw i j _ _ z)
 · exact z
 · exact absurd e'.symm (pw j i _ _ z)
theorem GP.tri {p:Array Nat}(h:GP n p)(hr:∀i j,i<n->j<n->r i=r j->i=j){i j:Nat}(hi:i<n)(hj:j<n)(ne:i≠j)(c:¬kAt r p i<kAt r p j):kAt r p j<kAt r p i:=by
 have:kAt r p i≠kAt r p j:=fun e=>ne (h.inj hr hi hj e)
 omega
theorem AscTo.snoc {p:Array Nat}{k:Nat}(h:AscTo r p k)(h1:1<=k)(c:kAt r p (k - 1)<kAt r p k):AscTo r p (k+1):=by
 intro i j hij hj
 by_cases e:j<k
 · exact h i j hij e
 · have:j=k:=by omega
   subst this
   by_cases e':i=j - 1
   · subst e';exact c
   · have:=h i (j - 1) (by omega) (by omega)
     omega
theorem DescTo.snoc {p:Array Nat}{k:Nat}(h:DescTo r p k)(h1:1<=k)(c:kAt r p k<kAt r p (k - 1)):DescTo r p (k+1):=by
 intro i j hij hj
 by_cases e:j<k
 · exact h i j hij e
 · have:j=k:=by omega
   subst this
   by_cases e':i=j - 1
   · subst e';exact c
   · have:=h i (j - 1) (by omega) (by omega)
     omega
variable (hr:∀i j,i<n->j<n->r i=r j->i=j) (hc:∀i j (C:Bool->Shared->Prop),i<n->j<n->C (decide (r i<r j)) s->cmp i j C s)
include hr hc
theorem zil {p:Array Nat}(g:GP n p){Q:Nat->Shared->Prop}:∀(f a:Nat),1<=a->a+f<=n->AscTo r p a->
  (∀m,a<=m->m<=a+f->AscTo r p m->(m=a+f\/kAt r p m<kAt r p (m - 1))->Q m s)->(kas_asc p f a).kasWp cmp Q s
 |0,a,_,_,h,q=>q a (Nat.le_refl _) (Nat.le_refl _) h (.inl rfl)
 | f + 1, a, h1, h2, h, q => by
   refine hc _ _ _ (g.lt (by omega)) (g.lt (by omega)) ?_
   by_cases c:kAt r p a<kAt r p (a - 1)
   · have e:decide (r (p.getD a 0)<r (p.getD (a - 1) 0))=true:=decide_eq_true c
     show (if decide (r (p.getD a 0)<r (p.getD (a - 1) 0))=true then KasT.ret a else kas_asc p f (a+1)).kasWp cmp Q s
     rw[if_pos e]
     exact q a (Nat.le_refl _) (by omega) h (.inr c)
   · have e:¬decide (r (p.getD a 0)<r (p.getD (a - 1) 0))=true:=fun z=>c (of_decide_eq_true z)
     show (if decide (r (p.getD a 0)<r (p.getD (a - 1) 0))=true then KasT.ret a else kas_asc p f (a+1)).kasWp cmp Q s
     rw[if_neg e]
     refine zil g f (a+1) (by omega) (by omega) (h.snoc h1 (g.tri hr (by omega) (by omega) (by omega) c)) fun m m1 m2 m3 m4=>q m (by omega) (by omega) m3 ?_
     rcases m4 with z|z
     · exact .inl (by omega)
     · exact .inr z
theorem zh7 {p:Array Nat}(g:GP n p){Q:Array Nat × Nat × Nat->Shared->Prop}:∀(f a:Nat),1<=a->a+f<=n->DescTo r p a->
  (∀m,a<=m->m<=a+f->DescTo r p m->Q (p,m,0) s)->(kas_desc f p a 0).kasWp cmp Q s
 |0,a,_,_,h,q=>q a (Nat.le_refl _) (Nat.le_refl _) h
 | f + 1, a, h1, h2, h, q => by
   refine hc _ _ _ (g.lt (by omega)) (g.lt (by omega)) ?_
   by_cases c:kAt r p a<kAt r p (a - 1)
   · have e:decide (r (p.getD a 0)<r (p.getD (a - 1) 0))=true:=decide_eq_true c
     rw[e]
     show (kas_desc f p (a+1) 0).kasWp cmp Q s
     exact zh7 g f (a+1) (by omega) (by omega) (h.snoc h1 c) fun m m1 m2 m3=>q m (by omega) (by omega) m3
   · have e:decide (r (p.getD a 0)<r (p.getD (a - 1) 0))=false:=decide_eq_false c
     rw[e]
     refine hc _ _ _ (g.lt (by omega)) (g.lt (by omega)) ?_
     have c':=g.tri hr (by omega) (by omega) (by omega) c
     have e':decide (r (p.getD (a - 1) 0)<r (p.getD a 0))=true:=decide_eq_true c'
     rw[e']
     exact q a (Nat.le_refl _) (by omega) h
omit hr hc in
theorem GP.rev {p:Array Nat}(g:GP n p)(i j:Nat):GP n (kas_rev p i j):=(mirror_perm _ _ _ _).trans g
omit hr hc in
theorem zhG {p:Array Nat}(g:GP n p){m i:Nat}(hm:m<=n)(hi:i<m):kAt r (kas_rev p 0 m) i=kAt r p (m - 1 - i):=by
 have hs:=g.size
 have e:=getElem?_mirror_all (xs:=p) (i:=0) (j:=m) (by omega) i
 unfold kAt kas_rev
 congr 1
 have a1:(mirror p 0 m ((m - 0) / 2)).getD i 0=((mirror p 0 m ((m - 0) / 2))[i]?).getD 0:=by simp[Array.getD_eq_getD_getElem?]
 have a2:p.getD (m - 1 - i) 0=(p[m - 1 - i]?).getD 0:=by simp[Array.getD_eq_getD_getElem?]
 rw[a1,a2]
 congr 1
 rw[e]
 have h1:0<=i/\i<m:=⟨Nat.zero_le _,hi⟩
 simp[h1,hi]
 try (congr 1;omega)
omit hr hc in
theorem DescTo.rev {p:Array Nat}{m:Nat}(g:GP n p)(hm:m<=n)(h:DescTo r p m):AscTo r (kas_rev p 0 m) m:=by
 intro i j hij hj
 rw[zhG g hm (by omega),zhG g hm hj]
 exact h _ _ (by omega) (by omega)
theorem zjB {p:Array Nat}(g:GP n p)(h1:1<=n){Q:Nat × Array Nat->Shared->Prop}(q:∀m p',1<=m->m<=n->GP n p'->AscTo r p' m->Q (m,p') s):(kas_count n p).kasWp cmp Q s:=by
 unfold kas_count
 rw[KasT.kasWp_bind]
 refine zil hr hc g (n - 1) 1 (Nat.le_refl _) (by omega) (fun i j _ _=>by omega) fun m m1 m2 m3 m4=>?_
 by_cases e:m=n
 · subst e
   simp only[beq_self_eq_true,if_true]
   exact q m p m1 (Nat.le_refl _) g m3
 · rw[if_neg (by simpa using e)]
   have c:=m4.resolve_left (by omega)
   by_cases e1:m > 1
   · have:=m3 (m - 1 - 1) (m - 1) (by omega) (by omega)
     rw[if_pos e1]
     refine hc _ _ _ (g.lt (by omega)) (g.lt (by omega)) ?_
     have c1:kAt r p 0<kAt r p (m - 1):=m3 0 (m - 1) (by omega) (by omega)
     have e2:decide (r (p.getD 0 0)<r (p.getD (m - 1) 0))=true:=decide_eq_true c1
     rw[e2]
     exact q m p m1 (by omega) g m3
   · rw[if_neg e1]
     have e2:m=1:=by omega
     subst e2
     unfold kas_descPart
     rw[KasT.kasWp_bind]
     have d2:DescTo r p (1+1):=by
      intro i j hij hj
      have:i=0/\j=1:=by omega
      obtain⟨rfl,rfl⟩:=this
      exact c
     refine zh7 hr hc g (n - (1+1)) (1+1) (by omega) (by omega) d2 fun k k1 k2 k3=>?_
     show (kas_tail3 k n p).kasWp cmp Q s
     unfold kas_tail3
     rw[KasT.kasWp_bind]
     refine zil hr hc (g.rev 0 k) (n - k) k (by omega) (by omega) (k3.rev g (by omega)) fun j j1 j2 j3 _=>?_
     exact q j _ (by omega) (by omega) (g.rev 0 k) j3
theorem zdR {p:Array Nat}(g:GP n p){k:Nat}(hk:k<n)(ha:AscTo r p k){Q:Nat->Shared->Prop}:∀(f l t:Nat),l<=t->t<=k->t - l<=f->(∀i,i<l->kAt r p i<kAt r p k)->(∀i,t<=i->i<k->kAt r p k<kAt r p i)->
  (∀l,l<=k->(∀i,i<l->kAt r p i<kAt r p k)->(∀i,l<=i->i<k->kAt r p k<kAt r p i)->Q l s)->(kas_place p k f l t).kasWp cmp Q s
 |0,l,t,h1,h2,h3,a,b,q=>q l (by omega) a fun i hi hik=>b i (by omega) hik
 | f + 1, l, t, h1, h2, h3, a, b, q => by
   unfold kas_place
   by_cases e:l≥t
   · rw[if_pos e]
     exact q l (by omega) a fun i hi hik=>b i (by omega) hik
   · rw[if_neg e]
     refine hc _ _ _ (g.lt hk) (g.lt (by omega)) ?_
     by_cases c:kAt r p k<kAt r p ((l+t) / 2)
     · have e':decide (r (p.getD k 0)<r (p.getD ((l+t) / 2) 0))=true:=decide_eq_true c
       rw[e']
       refine zdR g hk ha f l ((l+t) / 2) (by omega) (by omega) (by omega) a (fun i hi hik=>?_) q
       by_cases z:i=(l+t) / 2
       · rw[z];exact c
       · have:=ha ((l+t) / 2) i (by omega) hik
         omega
     · have e':decide (r (p.getD k 0)<r (p.getD ((l+t) / 2) 0))=false:=decide_eq_false c
       rw[e']
       have c':=g.tri hr hk (by omega) (by omega) c
       refine zdR g hk ha f ((l+t) / 2+1) t (by omega) h2 (by omega) (fun i hi=>?_) b q
       by_cases z:i=(l+t) / 2
       · rw[z];exact c'
       · have:=ha i ((l+t) / 2) (by omega) (by omega)
         omega
omit hr hc in
theorem zdy {p:Array Nat}(g:GP n p){k l:Nat}(hk:k<n)(hl:l<=k)(i:Nat):kAt r (bubble p k (k - l)) i=if i=l then kAt r p k else if l<i/\i<=k then kAt r p (i - 1) else kAt r p i:=by
 have hs:=g.size
 have e:=getElem?_bubble (xs:=p) (src:=k) (by omega) (k - l) (by omega) i
 have a0:∀(q:Array Nat) (j:Nat),q.getD j 0=(q[j]?).getD 0:=fun q j=>by simp[Array.getD_eq_getD_getElem?]
 unfold kAt
 rw[a0,e]
 have hl':k - (k - l)=l:=by omega
 rw[hl']
 split
 · rw[a0]
 · split
   · rw[a0]
   · rw[a0]
omit hr hc in
theorem zgO {p:Array Nat}(g:GP n p){k l:Nat}(hk:k<n)(hl:l<=k)(ha:AscTo r p k)(a:∀i,i<l->kAt r p i<kAt r p k)(b:∀i,l<=i->i<k->kAt r p k<kAt r p i):AscTo r (bubble p k (k - l)) (k+1):=by
 intro i j hij hj
 rw[zdy g hk hl,zdy g hk hl]
 by_cases i1:i=l
 · rw[if_pos i1,if_neg (by omega),if_pos (by omega)]
   exact b _ (by omega) (by omega)
 · rw[if_neg i1]
   by_cases i2:l<i/\i<=k
   · rw[if_pos i2,if_neg (by omega),if_pos (by omega)]
     exact ha _ _ (by omega) (by omega)
   · rw[if_neg i2]
     by_cases j1:j=l
     · rw[if_pos j1];exact a _ (by omega)
     · rw[if_neg j1]
       by_cases j2:l<j/\j<=k
       · rw[if_pos j2]
         by_cases z:i=j - 1
         · omega
         · exact ha _ _ (by omega) (by omega)
       · rw[if_neg j2];exact ha _ _ hij (by omega)
theorem zjW {Q:Array Nat->Shared->Prop}:∀(f k:Nat) (p:Array Nat),k+f=n->1<=k->GP n p->AscTo r p k->(∀p',GP n p'->AscTo r p' n->Q p' s)->(kas_bin f p k).kasWp cmp Q s
 |0,k,p,e,_,g,a,q=>q p g (by rw[show n=k by omega];exact a)
 | f + 1, k, p, e, h1, g, a, q => by
   unfold kas_bin
   rw[KasT.kasWp_bind]
   refine zdR hr hc g (by omega) a k 0 k (by omega) (Nat.le_refl _) (by omega) (fun i hi=>by omega) (fun i hi hik=>by omega) fun l l1 l2 l3=>?_
   exact zjW f (k+1) _ (by omega) (by omega) ((bubble_perm _ _ _).trans g) (zgO g (by omega) l1 a l2 l3) q
theorem zkb (h1:1<=n){Q:Array Nat->Shared->Prop}(q:∀p,GP n p->AscTo r p n->Q p s):(kas_sort n).kasWp cmp Q s:=by
 unfold kas_sort
 rw[KasT.kasWp_bind]
 refine zjB hr hc (Array.Perm.refl _) h1 fun m p' m1 m2 g a=>?_
 show (if m<n then kas_bin (n - max m 1) p' (max m 1) else KasT.ret p').kasWp cmp Q s
 have em:max m 1=m:=by omega
 rw[em]
 by_cases e:m<n
 · rw[if_pos e]
   exact zjW hr hc (n - m) m p' (by omega) m1 g a q
 · rw[if_neg e]
   exact q p' g (by rw[show n=m by omega];exact a)
end
end R
end
section
set_option maxHeartbeats 4000000
namespace R
open PySem PySem.Spec PyProof.Rows L2
theorem zhB:∀(as bs:List Int),lexZ as bs=HT.lexLt as bs
 | [],[]=>by simp[lexZ,HT.lexLt]
 | [],_::_=>by simp[lexZ,HT.lexLt]
 |_::_,[]=>by simp[lexZ,HT.lexLt]
 |a::as,b::bs=>by simp[lexZ,HT.lexLt,zhB as bs]
section
variable {prog:Program} {w:World} {A:Around} {E:Value->Shared->Prop} {s:Shared}
theorem zg0 {h:Heap}{ks:List Int}{b:Addr}(x:IsTupleKey (zap prog w) h (ks.map Sum.inl) b):∃items,IsTup h b items/\IntsAre items.toList ks:=by
 obtain⟨o,items,n,ho,hc,hd,hi⟩:=x
 refine⟨items,⟨o,ho,hc,n,hd⟩,?_⟩
 have:∀{l:List Int} {vs:List Value},ItemsAre (zap prog w) (l.map Sum.inl) vs->IntsAre vs l:=by
  intro l
  induction l with
  |nil=>intro vs h;cases h;exact .nil
  | cons x l ih =>
    intro vs h
    cases h with
    | @cons _ v _ vs h1 h2 =>
      rcases zaz (show zfn (Sum.inl x) v=true from h1) with ⟨i,t,e3,e4⟩|⟨y,t,e3,e4⟩
      · cases e3;subst e4;exact .cons _ _ (ih h2)
      · cases e3
 exact this hi
theorem zlM {x y:K3}{a b:Addr}{Q:Bool->Shared->Prop}(hu:A.units<cLine)(hx:IsTri prog w s.heap x a)(hy:IsTri prog w s.heap y b)(q:Q (decide (Lt3 x y)) s) :
  wpAny (model prog w) A (keyLt' (tuples' true) (.ref a) (.ref b)) Q E s:=by
 obtain⟨oa,t1,u1,b1,na,hoa,_,hda,hia⟩:=hx
 obtain⟨ob,t2,u2,b2,nb,hob,_,hdb,hib⟩:=hy
 obtain⟨x1,x2,x3⟩:=x
 obtain⟨y1,y2,y3⟩:=y
 dsimp only at hda hdb hia hib
 refine PySem.W.kat_lt hoa hda hob hdb (PySem.W.kat_cons (wpAny_eqBool_int ?_))
 by_cases d:x1=y1
 · rw[show (x1 == y1)=true by simp[d]]
   refine PySem.W.kat_yes (PySem.W.kat_cons (wpAny_eqBool_tuple hu hia hib ?_))
   by_cases d2:x2=y2
   · rw[show decide ((x2.map Sum.inl:List Key)=y2.map Sum.inl)=true from decide_eq_true (by rw[d2])]
     refine PySem.W.kat_yes (PySem.W.kat_cons (wpAny_eqBool_int ?_))
     by_cases d3:x3=y3
     · rw[show (x3 == y3)=true by simp[d3]]
       refine PySem.W.kat_yes (PySem.W.kat_nil ?_)
       rw[decide_eq_false (by subst d d2 d3;exact zcm _)] at q
       exact q
     · rw[show (x3 == y3)=false by simp[d3]]
       refine PySem.W.kat_no (PySem.W.kat_one _ _ (wpAny_lt_int ?_))
       have:decide (Lt3 (x1,x2,x3) (y1,y2,y3))=decide (x3<y3):=by
        apply Bool.eq_iff_iff.mpr
        rw[decide_eq_true_eq,decide_eq_true_eq]
        subst d d2
        unfold Lt3
        dsimp only
        rw[zcn]
        simp
       rw[this] at q
       exact q
   · rw[show decide ((x2.map Sum.inl:List Key)=y2.map Sum.inl)=false from decide_eq_false (fun z=>d2 (zfp z))]
     obtain⟨i1,p1,p2⟩:=zg0 hia
     obtain⟨i2,p3,p4⟩:=zg0 hib
     refine PySem.W.kat_no (PySem.W.kat_one _ _ (HT.lt_tupInts p1 p3 p2 p4 hu ?_))
     have:decide (Lt3 (x1,x2,x3) (y1,y2,y3))=HT.lexLt x2 y2:=by
      rw[<-zhB]
      apply Bool.eq_iff_iff.mpr
      rw[decide_eq_true_eq]
      subst d
      unfold Lt3
      dsimp only
      simp[d2]
     rw[this] at q
     exact q
 · rw[show (x1 == y1)=false by simp[d]]
   refine PySem.W.kat_no (oneLt_int ?_)
   have:decide (Lt3 (x1,x2,x3) (y1,y2,y3))=decide (x1<y1):=by
    apply Bool.eq_iff_iff.mpr
    rw[decide_eq_true_eq,decide_eq_true_eq]
    unfold Lt3
    dsimp only
    simp[d]
   rw[this] at q
   exact q
theorem zfH {h:Heap}:∀{vs:List Value} {ks:List K3},(∀(j:Nat) (v:Value),vs[j]?=some v->∃c k,v=.ref c/\ks[j]?=some k/\IsTri prog w h k c)->∃fs:List Value,PySem.W.KatTups h vs fs/\fs.length=vs.length/\∀v∈fs,∃n t,v=Value.int n t
 | [],_,_=>⟨[],PySem.W.KatTups.nil,rfl,fun v h=>by cases h⟩
 | v :: vs, ks, hk => by
   obtain⟨c,k,rfl,e1,o,t,u,b,n,g1,g2,g3,_⟩:=hk 0 v rfl
   obtain⟨fs,h1,h2,h3⟩:=zfH (vs:=vs) (ks:=ks.tail) fun j x e=>by
    obtain⟨c',k',q1,q2,q3⟩:=hk (j+1) x (by simpa using e)
    exact⟨c',k',q1,by rw[List.getElem?_tail];exact q2,q3⟩
   refine⟨.int k.1 t::fs,PySem.W.KatTups.cons g1 g2 g3 rfl h1,by simp[h2],fun v hv=>?_⟩
   rcases List.mem_cons.mp hv with rfl|hv
   · exact⟨_,t,rfl⟩
   · exact h3 v hv
theorem zbI {α:Type}{xs:List α}{i:Nat}(d:α)(h:i<xs.length):xs[i]?=some (xs.getD i d):=by
 rw[List.getD_eq_getElem?_getD,List.getElem?_eq_getElem h];rfl
noncomputable def d3:K3:=(0,[],0)
theorem zcJ {α:Type}{xs:List α}{p:List Nat}(d:α)(hp:p.Perm (List.range xs.length)):(p.map fun i=>xs.getD i d).Perm xs:=by
 have h1:=hp.map fun i=>xs.getD i d
 have h2:(List.range xs.length).map (fun i=>xs.getD i d)=xs:=by
  apply List.ext_getElem
  · simp
  · intro i g1 g2;simp[g2]
 rw[h2] at h1
 exact h1
theorem zlv {ks:List K3}{p:Array Nat}(nd:ks.Nodup)(g:GP ks.length p)(a:AscTo (fun i=>rk3 ks (ks.getD i d3)) p ks.length):(p.toList.map fun i=>ks.getD i d3)=zal ks:=by
 refine zb3 ((zcJ d3 g.list).trans (zbp ks).symm) ?_ (zby nd)
 rw[List.pairwise_map,List.pairwise_iff_getElem]
 intro i j hi hj hij
 rw[Array.length_toList,g.size] at hi hj
 have hi':i<p.size:=by rw[g.size];exact hi
 have hj':j<p.size:=by rw[g.size];exact hj
 have m1:ks.getD p.toList[i] d3∈ks:=List.mem_of_getElem? (zbI d3 (by have:=g.lt hi;rw[zbj p hi'] at this;exact this))
 have m2:ks.getD p.toList[j] d3∈ks:=List.mem_of_getElem? (zbI d3 (by have:=g.lt hj;rw[zbj p hj'] at this;exact this))
 have:=a i j hij hj
 unfold kAt at this
 rw[zbj p hi',zbj p hj'] at this
 exact (zhc m1 m2).mpr this
theorem zdK {a:Addr}{vs:List Value}{ks:List K3}{n:Nat}{P:Fin->Shared->Prop}(hu:A.units<cLine)(ho:s.heap.get? a=some (seqObj "list" vs.toArray n))(hl:vs.length=ks.length)(h64:ks.length<64)(nd:ks.Nodup)
  (hk:∀(j:Nat) (v:Value),vs[j]?=some v->∃c k,v=.ref c/\ks[j]?=some k/\IsTri prog w s.heap k c)
  (h:∀p:List Nat,p.Perm (List.range ks.length)->(p.map fun i=>ks.getD i d3)=zal ks->P (.done (.ret .none)) {s with heap:=sortedHeap s.heap a vs (p.map fun i=>vs.getD i Value.none).toArray}) :
  wpAny (model prog w) A (Builtin.«list.sort» ⟨[.ref a],[]⟩) P E s:=by
 rw[list_sort_plain]
 have ha:a<s.heap.objs.size:=Heap.lt_size ho
 refine wpAny_bind (listItems_at ho rfl ?_)
 refine wpAny_bind (listUpdate_at ho rfl ?_ (by rw[List.size_toArray,sizeLine_eq];omega) (Nat.zero_le _))
 obtain⟨e1,ho1⟩:∃e1,(s.heap.update a (Obj.mapSeq fun _=>(#[]:Array Value))).get? a=some (seqObj "list" #[] e1):=⟨_,get?_update_seq ho (fun _=>#[])⟩
 refine wpAny_bind (seqEpoch_at ho1 rfl ?_)
 refine wpAny_bind (wpAny_newTuple ?_ (by show vs.length<=_;rw[sizeLine_eq];omega))
 refine wpAny_bind (wpAny_newList ?_ (Nat.zero_le _))
 refine wpAny_holding ?_
 have ho6:(((s.heap.update a (Obj.mapSeq fun _=>(#[]:Array Value))).push (seqObj "tuple" vs.toArray 0)).push (seqObj "list" #[] 0)).get? a=some (seqObj "list" #[] e1):=Heap.get?_push_of_some _ (Heap.get?_push_of_some _ ho1)
 have keep:∀b o,b≠a->s.heap.get? b=some o->(((s.heap.update a (Obj.mapSeq fun _=>(#[]:Array Value))).push (seqObj "tuple" vs.toArray 0)).push (seqObj "list" #[] 0)).get? b=some o:=fun b o hb e=>
  Heap.get?_push_of_some _ (Heap.get?_push_of_some _ ((Heap.get?_update_other _ _ (Ne.symm hb)).trans e))
 have hk':∀(j:Nat) (v:Value),vs[j]?=some v->∃c k,v=.ref c/\ks[j]?=some k/\IsTri prog w (((s.heap.update a (Obj.mapSeq fun _=>(#[]:Array Value))).push (seqObj "tuple" vs.toArray 0)).push (seqObj "list" #[] 0)) k c:=fun j v e=>by
  obtain⟨c,k,q1,q2,o,t,u,b,n,g1,g2,g3,o2,its,n2,g4,g5,g6,g7⟩:=hk j v e
  have c1:c≠a:=fun z=>by rw[z,ho] at g1;cases g1;exact absurd (show Value.type "list"=Value.type "tuple" from g2) (by decide)
  have c2:b≠a:=fun z=>by rw[z,ho] at g4;cases g4;exact absurd (show Value.type "list"=Value.type "tuple" from g5) (by decide)
  exact⟨c,k,q1,q2,o,t,u,b,n,keep _ _ c1 g1,g2,g3,o2,its,n2,keep _ _ c2 g4,g5,g6,g7⟩
 show wpAny (model prog w) A _ P E {s with heap:=((s.heap.update a (Obj.mapSeq fun _=>(#[]:Array Value))).push (seqObj "tuple" vs.toArray 0)).push (seqObj "list" #[] 0)}
 dsimp only
 by_cases h2:vs.toArray.size<2
 · rw[if_pos h2,if_pos h2]
   have h2':ks.length<2:=by rw[<-hl];simpa using h2
   refine wpAny_bind (wpAny_pure ?_)
   rw[StateT.run_pure]
   refine wpAny_bind (wpAny_pure ?_)
   dsimp only
   have eo:(arrOf (SortSt.mk' general' (vs.toArray.zip vs.toArray) #[] 7 none)).map (·.2)=vs.toArray:=by
    show ((vs.toArray.zip vs.toArray).map (·.2))=vs.toArray
    apply Array.toList_inj.mp
    rw[Array.toList_map,Array.toList_zip]
    exact List.map_snd_zip (by omega)
   have er:((List.range ks.length).map fun i=>vs.getD i Value.none)=vs:=by
    apply List.ext_getElem
    · simp[hl]
    · intro i g1 g2;simp[g2]
   rw[eo]
   refine wpAny_bind (seqEpoch_at ho6 rfl ?_)
   refine wpAny_bind (listUpdate_at ho6 rfl ?_ (Nat.zero_le _) (by rw[List.size_toArray,sizeLine_eq];omega))
   simp only[bne_self_eq_false,Bool.false_eq_true,if_false]
   have:=h (List.range ks.length) (List.Perm.refl _) (zb3 ((zcJ d3 (List.Perm.refl _)).trans (zbp ks).symm) (by
    rw[List.pairwise_map,List.pairwise_iff_getElem]
    intro i j hi hj hij
    simp at hi hj
    omega) (zby nd))
   rw[er] at this
   exact wpAny_pure this
 · have h2':2<=vs.length:=by simpa using h2
   rw[if_neg h2,if_neg h2]
   obtain⟨fs,t1,t2,t3⟩:=zfH hk'
   refine wpAny_bind (PySem.W.kat_kind (T:=.type "int") t1 (by omega) (fun v hv=>by obtain⟨n,t,rfl⟩:=t3 v hv;exact .now) rfl ?_)
   refine wpAny_bind (wpAny_mono (PySem.W.kat_run (vs:=vs) (ks:=vs) (Q:=fun st' s'=>∃p:Array Nat,GP ks.length p/\AscTo (fun i=>rk3 ks (ks.getD i d3)) p ks.length/\s'={s with heap:=((s.heap.update a (Obj.mapSeq fun _=>(#[]:Array Value))).push (seqObj "tuple" vs.toArray 0)).push (seqObj "list" #[] 0)}/\arrOf st'=p.map (PySem.W.kas_item (vs.toArray.zip vs.toArray))/\failedOf st'=none)
    (G:=fun p s'=>GP ks.length p/\AscTo (fun i=>rk3 ks (ks.getD i d3)) p ks.length/\s'={s with heap:=((s.heap.update a (Obj.mapSeq fun _=>(#[]:Array Value))).push (seqObj "tuple" vs.toArray 0)).push (seqObj "list" #[] 0)}) rfl h2' (by omega) (fun p st' s' _ a2 a3 a4=>⟨p,a4.1,a4.2.1,a4.2.2,a2,a3⟩) ?_) ?_ fun _ _ z=>z)
   · rw[hl]
     refine zkb (r:=fun i=>rk3 ks (ks.getD i d3)) (fun i j hi hj e=>?_) (fun i j C hi hj hC=>?_) (by omega) fun p g a=>⟨g,a,rfl⟩
     · have:=zkv (List.mem_of_getElem? (zbI d3 hi)) (List.mem_of_getElem? (zbI d3 hj)) e
       have q1:=zbI d3 hi
       have q2:=zbI d3 hj
       rw[this,<-q2] at q1
       exact (List.getElem?_inj hi nd).mp q1
     · obtain⟨c,k,q1,q2,q3⟩:=hk' i _ (zbI Value.none (by omega))
       obtain⟨c',k',q1',q2',q3'⟩:=hk' j _ (zbI Value.none (by omega))
       have ek:ks.getD i d3=k:=by rw[List.getD_eq_getElem?_getD,q2];rfl
       have ek':ks.getD j d3=k':=by rw[List.getD_eq_getElem?_getD,q2'];rfl
       show wpAny (model prog w) A (keyLt' (tuples' true) (vs.getD i Value.none) (vs.getD j Value.none)) C (fun _ _=>False) _
       rw[q1,q1']
       refine zlM hu q3 q3' ?_
       (try dsimp only at hC)
       rw[ek,ek'] at hC
       have:decide (Lt3 k k')=decide (rk3 ks k<rk3 ks k'):=by
        apply Bool.eq_iff_iff.mpr
        rw[decide_eq_true_eq,decide_eq_true_eq]
        exact zhc (List.mem_of_getElem? q2) (List.mem_of_getElem? q2')
       rw[this]
       exact hC
   · rintro⟨⟨⟩,st'⟩ s' ⟨p,g,asc,rfl,ar,fl⟩
     dsimp only
     have hout:=PySem.W.kat_snds rfl ar
     rw[hout]
     refine wpAny_bind (seqEpoch_at ho6 rfl ?_)
     refine wpAny_bind (listUpdate_at ho6 rfl ?_ (Nat.zero_le _) (by rw[List.size_toArray,List.length_map,Array.length_toList,g.size,sizeLine_eq];omega))
     rw[fl]
     simp only[bne_self_eq_false,Bool.false_eq_true,if_false]
     exact wpAny_pure (h p.toList g.list (zlv nd g asc))
end
end R
end
section
set_option maxHeartbeats 4000000
namespace R
open PySem PySem.Spec PyProof.Rows L2
section
variable {prog:Program} {w:World} {K:Type} [DecidableEq K] {knd:HeapKind prog w K} {A:Around} {E:Value->Shared->Prop} {s:Shared} {a:Addr} {xs:List (K × Addr × Value)} {ep:Nat}
theorem zjp {R:Result->Shared->Prop}(hh:A.handled=none)(hsm:(a == sysModules)=false)(hm:HAt knd s.heap a xs ep)(hz:xs.length<=sizeLine)
  (S:Addr) (hSa:S≠a) (res:Value) (c₀:Nat) (hS:s.heap.get? S=some {cls:=.type "list",data:=.seq #[] c₀})
  (hR:∀h' tk acc c,(∀b o,b≠S->s.heap.get? b=some o->h'.get? b=some o)->h'.get? S=some {cls:=.type "list",dict:=none,data:=.seq acc c,slots:=#[]}->acc.toList=xs.map (fun x=>Value.ref x.2.1)->R (.ok (.ret res)) {s with heap:=h',toks:=tk}) :
  wpAny (model prog w) A.in1 (Builtin.List.listExtendWith (.ref S) (.ref a) res)
   (fun fin s'=>match fin with|.done f=>R (.ok f) s'|.again c'=>c'.quiet=true/\codeAny (model prog w) A c' R s') (fun e s'=>R (.error e) s') s:=by
 have hlt:=Heap.lt_size hS
 have alt:a<s.heap.objs.size:=by obtain⟨o,_,h1,_⟩:=hm;exact Heap.lt_size h1
 unfold Builtin.List.listExtendWith
 refine wpAny_bind (wpAny_typeOf (T:="dict") hm.ty ?_)
 rw[if_neg (by simp[Builtin.List.listSameRef,hSa])]
 refine wpAny_bind (zhQ hsm hm ?_)
 have hm1:HAt knd (s.heap.push {cls:=.type "dict_keyiterator",data:=.fields #[.ref a,.int 0 0,.int xs.length 0,.int ep 0]}) a xs ep:=hm.at fun o e=>Heap.get?_push_of_some _ e
 have hS1:=Heap.get?_push_of_some {cls:=.type "dict_keyiterator",data:=.fields #[.ref a,.int 0 0,.int xs.length 0,.int ep 0]} hS
 have hI1:(s.heap.push {cls:=.type "dict_keyiterator",data:=.fields #[.ref a,.int 0 0,.int xs.length 0,.int ep 0]}).get? s.heap.objs.size=_:=Heap.get?_push_size _ rfl
 have old1:∀b o,s.heap.get? b=some o->(s.heap.push {cls:=.type "dict_keyiterator",data:=.fields #[.ref a,.int 0 0,.int xs.length 0,.int ep 0]}).get? b=some o:=fun b o e=>Heap.get?_push_of_some _ e
 generalize s.heap.push {cls:=.type "dict_keyiterator",data:=.fields #[.ref a,.int 0 0,.int xs.length 0,.int ep 0]}=h1 at *
 refine wpAny_bind (wpAny_holding (zhR (s:={s with heap:=h1}) (HAt.ty (s:={s with heap:=h1}) hm1) ?_))
 rw[if_pos (by decide +kernel)]
 refine wpAny_bind (wpAny_rule (wpAny_bind ?_))
 show wpAny _ _ (updateSeq S (·.push .none) >>= fun _=>updateSeq S (·.pop)) _ _ _
 refine wpAny_bind (wpAny_updateSeq (s:={s with heap:=h1}) hS1 rfl ?_)
 have hS₂:=Heap.get?_update_self (Obj.mapSeq (·.push Value.none)) hS1 rfl
 refine wpAny_updateSeq (hz:=by seq_fits) hS₂ rfl ?_
 have hS₃:=Heap.get?_update_self (Obj.mapSeq (·.pop)) hS₂ rfl
 have k3:∀b o,b≠S->h1.get? b=some o->((h1.update S (Obj.mapSeq (·.push Value.none))).update S (Obj.mapSeq (·.pop))).get? b=some o:=fun b o hb e=>
  (Heap.get?_update_other _ _ (Ne.symm hb)).trans ((Heap.get?_update_other _ _ (Ne.symm hb)).trans e)
 have sI:S≠s.heap.objs.size:=Nat.ne_of_lt hlt
 have W:=(zhP (prog:=prog) (w:=w) (A:=A.in1) (knd:=knd) (j:=s.heap.objs.size) (d:=a) hh (Nat.ne_of_lt alt) xs ep).toS
 have Sfp:S∉[s.heap.objs.size,a]:=fun hm=>by
  simp only[List.mem_cons,List.not_mem_nil,or_false] at hm
  rcases hm with z|z
  · exact sI z
  · exact hSa z
 refine wpAny_pure ⟨plainId_quiet PySem.F.plain_extend_loop _,codeAny_extend_loopS W hz S Sfp res xs.length 0 _ #[] _ rfl (Nat.zero_le _) ?_ hS₃ (ItemsOf.nil _) fun s' acc c mv hs' hacc=>?_⟩
 · exact⟨⟨_,k3 _ _ (Ne.symm sI) hI1,rfl,rfl⟩,hm1.at fun o e=>k3 _ _ (Ne.symm hSa) e⟩
 · rw[Moved.eq_with mv]
   refine hR s'.heap s'.toks acc c (fun b o hb e=>mv.heap b o (fun hm=>?_) (k3 b o hb (old1 _ _ e))) hs' ?_
   · simp only[List.mem_cons,List.not_mem_nil,or_false] at hm
     rcases hm with z|z
     · exact hb z
     · exact Nat.ne_of_lt (Heap.lt_size e) z
   · refine List.ext_getElem? fun i=>?_
     by_cases hi:i<acc.size
     · have e1:acc[i]?=some acc[i]:=Array.getElem?_eq_getElem hi
       obtain⟨x,e2,e3⟩:=hacc.2 i _ e1
       rw[Array.getElem?_toList,e1,List.getElem?_map,e2,e3];rfl
     · rw[List.getElem?_eq_none (by rw[Array.length_toList];omega),List.getElem?_eq_none (by rw[List.length_map];have:=hacc.1;omega)]
end
section
variable [Mks] {X:Cx}
theorem zk2 (hc:X.calm=true):zbb X (.type "list") (fun xs H Q=>∃(a:Addr) (kxs:List (K3 × Addr × V)),xs=[.ref a]/\H a=some (.ext (TriO a kxs))/\TriK H kxs/\∀p,H p=none->Q (.ref p) (upd H p (.lst (kxs.map fun x=>V.ref x.2.1)))):=by
 intro pins s σ H xs us Q I r h
 obtain⟨a,kxs,rfl,e,tk,q⟩:=h
 obtain⟨u,rfl,ru⟩:=r.one
 cases (show u=Value.ref a from ru)
 obtain⟨z,hd,ys,rel,dd⟩:=zej I.hok e tk
 have hz:ys.length<=sizeLine:=by rw[zfT rel];exact z
 refine zld (I.ok.hd hc) hd dd hz fun h' t c kp hg=>?_
 refine⟨.ref s.heap.objs.size,_,I.laid (o:=.lst (kxs.map fun x=>V.ref x.2.1)) kp (Nat.le_refl _) ⟨by rw[List.length_map];exact z,ys.map fun x=>Value.ref x.2.1,c,?_,hg⟩,rfl,q _ (I.hok.fresh (Nat.le_refl _))⟩
 clear q dd hz hg z tk e
 induction rel with
 |nil=>exact .nil
 |cons hq t ih=>exact .cons (by show _=_;rw[hq.2.1]) ih
theorem zeg:∀(cs:List (K3 × Addr)),Vals (cs.map fun x=>V.ref x.2) (cs.map fun x=>Value.ref x.2)
 | []=>.nil
 |_::cs=>.cons rfl (zeg cs)
theorem fin3 {pins:List (Addr × Obj)}{σ:L2.St}{H:Hp}{s:Shared}{A:Around}{Q:VK}{cs:List (K3 × Addr)}{h1:Heap}{tk:Nat}(I:Inv X pins σ H s)(hu:A.units<cLine)(hk:∀x∈cs,Key3 H x.1 x.2)(nd:(cs.map (·.1)).Nodup)(h64:cs.length<64)
  (kp:∀b o,s.heap.get? b=some o->h1.get? b=some o) (hle:s.heap.objs.size<=h1.objs.size) (q:∀p,H p=none->∀out:List (K3 × Addr),out.Perm cs->out.map (·.1)=zal (cs.map (·.1))->Q (.ref p) (upd H p (.lst (out.map fun x=>V.ref x.2))))
  {P:Fin->Shared->Prop} {E:Value->Shared->Prop} (hP:∀s',EP X pins σ Q (.ref h1.objs.size) s'->P (.done (.ret .none)) s') :
  wpAny (model X.prog X.w) A (Builtin.«list.sort» ⟨[.ref h1.objs.size],[]⟩) P E {s with heap:=h1.push (seqObj "list" (cs.map fun x=>Value.ref x.2).toArray 0),toks:=tk}:=by
 have hoL:(h1.push (seqObj "list" (cs.map fun x=>Value.ref x.2).toArray 0)).get? h1.objs.size=some (seqObj "list" (cs.map fun x=>Value.ref x.2).toArray 0):=Heap.get?_push_size _ rfl
 have I1:Inv X pins σ H {s with heap:=h1.push (seqObj "list" (cs.map fun x=>Value.ref x.2).toArray 0),toks:=tk}:=I.kept fun b o e=>Heap.get?_push_of_some _ (kp b o e)
 refine zdK (ks:=cs.map (·.1)) hu hoL (by simp) (by simpa using h64) nd (fun j v e=>?_) fun p hp he=>hP _ ?_
 · rw[List.getElem?_map] at e
   cases ej:cs[j]? with
   |none=>rw[ej] at e;cases e
   | some x =>
     rw[ej] at e;cases e
     exact⟨x.2,x.1,rfl,by rw[List.getElem?_map,ej];rfl,zcY I1.hok (hk x (List.mem_of_getElem? ej))⟩
 · obtain⟨c,hc'⟩:=sortedHeap_at (out:=(p.map fun i=>(cs.map fun x=>Value.ref x.2).getD i Value.none).toArray) hoL
   have hp':p.Perm (List.range cs.length):=by simpa using hp
   have hlt:∀i∈p,i<cs.length:=fun i hi=>List.mem_range.mp (hp'.mem_iff.mp hi)
   have e1:(p.map fun i=>(cs.map fun x=>Value.ref x.2).getD i Value.none)=(p.map fun i=>cs.getD i (d3,0)).map fun x=>Value.ref x.2:=by
    rw[List.map_map]
    refine List.map_congr_left fun i hi=>?_
    have:=hlt i hi
    simp[this]
   have e2:(p.map fun i=>cs.getD i (d3,0)).map (·.1)=zal (cs.map (·.1)):=by
    rw[<-he,List.map_map]
    refine List.map_congr_left fun i hi=>?_
    have:=hlt i hi
    simp[this]
   have ho:=zcJ (d3,0) hp'
   rw[e1] at hc'⊢
   refine⟨.ref h1.objs.size,_,zlc (s:=s) (d':=s.drawn) (t':=tk) (o:=.lst ((p.map fun i=>cs.getD i (d3,0)).map fun x=>V.ref x.2)) I (fun b u e=>?_) hle ⟨?_,_,c,zeg _,hc'⟩,rfl,q _ (I.hok.fresh hle) _ ho e2⟩
   · have e1:=kp b u e
     have l1:=Heap.lt_size e1
     rw[sortedHeap_old (Nat.ne_of_lt l1) (Nat.lt_of_lt_of_eq (Nat.lt_succ_of_lt l1) (Heap.size_push ..).symm)]
     exact Heap.get?_push_of_some _ e1
   · rw[List.length_map,ho.length_eq,sizeLine_eq];omega
theorem zg4 (hc:X.calm=true)(hu:X.A.units+64<cLine):zbb X (.builtin "sorted") (fun xs H Q=>∃(a:Addr) (kxs:List (K3 × Addr × V)),xs=[.ref a]/\H a=some (.ext (TriO a kxs))/\TriK H kxs/\(kxs.map (·.1)).Nodup/\kxs.length<64/\
  ∀p,H p=none->∀out:List (K3 × Addr),out.Perm (kxs.map fun x=>(x.1,x.2.1))->out.map (·.1)=zal (kxs.map (·.1))->Q (.ref p) (upd H p (.lst (out.map fun x=>V.ref x.2)))):=by
 intro pins s σ H xs us Q I r h
 obtain⟨a,kxs,rfl,e,tk,nd,h64,q⟩:=h
 obtain⟨u,rfl,ru⟩:=r.one
 cases (show u=Value.ref a from ru)
 obtain⟨z,hd,ys,rel,dd⟩:=zej I.hok e tk
 have hz:ys.length<=sizeLine:=by rw[zfT rel];exact z
 have hA:X.A.handled=none:=I.ok.hd hc
 obtain⟨ep,hm⟩:∃ep,HAt (zbx X.prog X.w) s.heap a ys ep:=by
  obtain⟨o,es,ep,h1,h2,h3,h4,_⟩:=dd
  exact⟨ep,o,es,h1,h2,h3,h4⟩
 have alt:a<s.heap.objs.size:=by obtain⟨o,_,h1,_⟩:=hm;exact Heap.lt_size h1
 have ey:(ys.map fun x=>Value.ref x.2.1)=(kxs.map fun x=>(x.1,x.2.1)).map fun x=>Value.ref x.2:=by
  rw[List.map_map]
  clear q dd hz hm z tk e nd h64 ru r
  induction rel with
  |nil=>rfl
  |cons hq t ih=>rw[List.map_cons,List.map_cons,ih,<-hq.2.1];rfl
 refine Calls.call_function_entry kind_sorted plain_sorted entry_sorted (args_sorted1 _) ?_
 unfold Builtin.«sorted»
 refine wpAny_bind (m:=checkCount "sorted" 1 1 _) (wpAny_pure ?_)
 refine wpAny_bind (zcx (P:=fun us=>us=ys.map fun x=>Value.ref x.2.1) alt (fun R s1 e1 hR=>?_) fun h1 tk' vals kp hlt hv=>?_)
 · subst e1
   exact zjp (A:=X.A.in1) hA hd (hm.at fun o e=>Heap.get?_push_of_some _ e) hz _ (Nat.ne_of_gt alt) _ 0 (Heap.get?_push_size _ rfl) fun h' tk acc c hk hS' hacc=>hR h' tk acc c hk hS' hacc
 subst hv
 rw[ey]
 refine wpAny_bind (wpAny_newList ?_ (by rw[List.length_map,List.length_map,sizeLine_eq];omega))
 have hoL:(h1.push (seqObj "list" ((kxs.map fun x=>(x.1,x.2.1)).map fun x=>Value.ref x.2).toArray 0)).get? h1.objs.size=some (seqObj "list" ((kxs.map fun x=>(x.1,x.2.1)).map fun x=>Value.ref x.2).toArray 0):=Heap.get?_push_size _ rfl
 refine wpAny_bind (wpAny_holding (wpAny_call_entry slot_list_sort ⟨_,hoL,rfl⟩ entry_list_sort (fin3 (cs:=kxs.map fun x=>(x.1,x.2.1)) I (by show X.A.units+1+1<cLine;omega) (fun x hx=>?_) ?_ (by simpa using h64) kp (Nat.le_of_lt hlt) (fun p hp out h1 h2=>q p hp out h1 (by rw[h2,List.map_map];rfl)) fun s' hs'=>⟨_,rfl,wpAny_pure ⟨_,rfl,hs'⟩⟩) (args_list_sort _)))
 · obtain⟨y,hy,rfl⟩:=List.mem_map.mp hx
   exact tk y hy
 · rw[List.map_map];exact nd
theorem zg3 (hc:X.calm=true)(hu:X.A.units+64<cLine):zbb X (.builtin "sorted") (fun xs H Q=>∃(a:Addr) (cs:List (K3 × Addr)),xs=[.ref a]/\SqL X.K H a (cs.map fun x=>V.ref x.2)/\(∀x∈cs,Key3 H x.1 x.2)/\(cs.map (·.1)).Nodup/\cs.length<64/\
  ∀p,H p=none->∀out:List (K3 × Addr),out.Perm cs->out.map (·.1)=zal (cs.map (·.1))->Q (.ref p) (upd H p (.lst (out.map fun x=>V.ref x.2)))):=by
 intro pins s σ H xs us Q I r h
 obtain⟨a,cs,rfl,hq,hk,nd,h64,q⟩:=h
 obtain⟨u,rfl,ru⟩:=r.one
 cases (show u=Value.ref a from ru)
 obtain⟨its,rv,pl,hz⟩:=I.list hq
 have ei:its=cs.map fun x=>Value.ref x.2:=by
  have:∀{l:List (K3 × Addr)} {m:List Value},Vals (l.map fun x=>V.ref x.2) m->m=l.map fun x=>Value.ref x.2:=by
   intro l
   induction l with
   |nil=>intro m h;cases h;rfl
   | cons x l ih =>
     intro m h
     cases h with
     |cons h1 h2=>rw[List.map_cons,<-ih h2,show _=Value.ref x.2 from h1]
  exact this rv
 subst ei
 refine Calls.call_function_entry kind_sorted plain_sorted entry_sorted (args_sorted1 _) ?_
 unfold Builtin.«sorted»
 refine wpAny_bind (m:=checkCount "sorted" 1 1 _) (wpAny_pure ?_)
 refine wpAny_bind (collect_list pl.isList ?_ (by rw[List.length_map,sizeLine_eq];omega))
 have kp:∀b o,s.heap.get? b=some o->((s.heap.push (seqObj "list" #[] 0)).update s.heap.objs.size (Obj.mapSeq (·++(cs.map fun x=>Value.ref x.2).toArray))).get? b=some o:=fun b o e=>
  (Heap.get?_update_other _ _ (Nat.ne_of_gt (Heap.lt_size e))).trans (Heap.get?_push_of_some _ e)
 have hle:s.heap.objs.size<=((s.heap.push (seqObj "list" #[] 0)).update s.heap.objs.size (Obj.mapSeq (·++(cs.map fun x=>Value.ref x.2).toArray))).objs.size:=by rw[Heap.size_update,Heap.size_push];exact Nat.le_succ _
 generalize (s.heap.push (seqObj "list" #[] 0)).update s.heap.objs.size (Obj.mapSeq (·++(cs.map fun x=>Value.ref x.2).toArray))=h1 at *
 refine wpAny_bind (wpAny_newList ?_ (by rw[List.length_map,sizeLine_eq];omega))
 have hoL:(h1.push (seqObj "list" (cs.map fun x=>Value.ref x.2).toArray 0)).get? h1.objs.size=some (seqObj "list" (cs.map fun x=>Value.ref x.2).toArray 0):=Heap.get?_push_size _ rfl
 exact wpAny_bind (wpAny_holding (wpAny_call_entry slot_list_sort ⟨_,hoL,rfl⟩ entry_list_sort (fin3 (tk:=s.toks) I (by show X.A.units+1+1<cLine;omega) hk nd h64 kp hle q fun s' hs'=>⟨_,rfl,wpAny_pure ⟨_,rfl,hs'⟩⟩) (args_list_sort _)))
end
end R
end
section
set_option maxHeartbeats 4000000
namespace R
open PySem PySem.Spec PyProof.Rows L2
section
variable [Mks] {X:Cx} {T:Tab} {cf:CF} {k:Nat} {N:List Str} {sc:Scope} {pos p:Pos}
theorem ziD:PE X (.Dict [] [] pos) (tE X.K cf .dnew3):=by
 refine PE.imp zi4 fun σ H Qv ⟨δ,ι,S,Q,hs,hh,w,q⟩=>?_
 simp only[evE] at w
 intro p hp
 exact q _ _ ⟨.ref S.len,ι++[p],S.push (.d3 []),Ext.obj hh hp _,⟨p,hh.last p,rfl⟩,hh.obj' hp _ _ ⟨List.nodup_nil,[],zaq,rfl⟩,w⟩
theorem zku {K:PySem.W.Frag}{ι:List Addr}{H:Hp}{k:K3}{c:Addr}(h:Key3 H k c):RV K ι H (zah k) (.ref c):=by
 obtain⟨b,h1,h2⟩:=h
 exact⟨c,_,rfl,h1,_,_,rfl,rfl,_,_,rfl,⟨b,_,rfl,h2,RVs.ints _⟩,_,_,rfl,rfl,rfl⟩
theorem zcb {K:PySem.W.Frag}{ι:List Addr}{H:Hp}:∀{cs:List (K3 × Addr)},(∀x∈cs,Key3 H x.1 x.2)->RVs K ι H ((cs.map (·.1)).map zah) (cs.map fun x=>V.ref x.2)
 | [],_=>rfl
 |x::cs,h=>⟨_,_,rfl,zku (h x List.mem_cons_self),zcb fun y hy=>h y (List.mem_cons_of_mem _ hy)⟩
theorem znt {K:PySem.W.Frag}{ι:List Addr}{H:Hp}:∀{ds:List D} {ks:List K3} {xs:List V},ds.mapM key3=some ks->RVs K ι H ds xs->∃cs:List (K3 × Addr),cs.map (·.1)=ks/\xs=cs.map (fun x=>V.ref x.2)/\∀x∈cs,Key3 H x.1 x.2
 | [], ks, xs, h, r => by
   have h:ks=[]:=by simpa using h.symm
   subst h
   exact⟨[],rfl,r,fun x hx=>by cases hx⟩
 | d :: ds, ks, xs, h, r => by
   obtain⟨k,r',h1,h2,rfl⟩:=zaK h
   obtain⟨v,w,rfl,r1,r2⟩:=r
   obtain⟨cs,e1,e2,e3⟩:=znt h2 r2
   obtain⟨c,rfl,hc⟩:=zfo r1 h1
   refine⟨(k,c)::cs,by rw[List.map_cons,e1],by rw[List.map_cons,e2],fun x hx=>?_⟩
   rcases List.mem_cons.mp hx with e|e
   · subst e;exact hc
   · exact e3 x e
theorem zg6 (G:Gd T cf k N sc X){ca:CE}{e:Expr}(hg:Gl X "list"/\X.mg "list"=none)(he:PE X e (tE X.K cf ca))(hst:zaj e=true) :
  PE X (.Call (.Name "list" p) [e] [] pos) (tE X.K cf (.d3keys ca)):=by
 refine PE.imp (zbg (zk2 G.calm) hg.1 hg.2 zec (za3 he hst) (by decide) (by decide) (zak hst [] X.env)) fun σ H Qv ⟨δ,ι,S,Q,hs,hh,w,q⟩=>?_
 simp only[evE,zaa] at w
 refine tE.run hs hh w fun d v ι1 H1 S1 x1 hs1 hh1 r1 w1=>?_
 obtain⟨kvs,hb,w2⟩:=zaR w1
 obtain⟨l,rfl,g1⟩:=zfu hb
 obtain⟨a,h1,rfl⟩:=r1
 obtain⟨a',j1,nd,ws,ha,rk⟩:=hh1.obj l _ g1
 rw[h1] at j1;cases j1
 obtain⟨c2,w3⟩:=zbZ w2
 refine⟨a,ws,rfl,ha,rk.triK,fun l hl=>q _ _ (Lf.up x1 (Lf.lst hh1 hl ?_ w3))⟩
 have:=zcb (K:=X.K) (ι:=ι1) (H:=H1) (cs:=ws.map fun x=>(x.1,x.2.1)) (fun x hx=>by
  obtain⟨y,hy,rfl⟩:=List.mem_map.mp hx
  exact rk.triK y hy)
 have e1:((ws.map fun x=>(x.1,x.2.1)).map fun x=>x.1)=kvs.map (·.1):=by rw[List.map_map];exact rk.keys
 have e2:((ws.map fun x=>(x.1,x.2.1)).map fun x=>V.ref x.2)=ws.map fun x=>V.ref x.2.1:=by rw[List.map_map];rfl
 rw[e1,e2,List.map_map] at this
 exact this
theorem ziE (G:Gd T cf k N sc X){ca:CE}{e:Expr}(hg:Gl X "sorted"/\X.mg "sorted"=none)(he:PE X e (tE X.K cf ca))(hst:zaj e=true) :
  PE X (.Call (.Name "sorted" p) [e] [] pos) (tE X.K cf (.d3srt ca)):=by
 refine PE.imp (zbP (zg4 G.calm G.hu64) hg.1 hg.2 ze6 (za3 he hst) (by decide) (by decide) (zak hst [] X.env)) fun σ H Qv ⟨δ,ι,S,Q,hs,hh,w,q⟩=>?_
 simp only[evE,zaa] at w
 refine tE.run hs hh w fun d v ι1 H1 S1 x1 hs1 hh1 r1 w1=>?_
 obtain⟨kvs,hb,w2⟩:=zaR w1
 obtain⟨l,rfl,g1⟩:=zfu hb
 obtain⟨a,h1,rfl⟩:=r1
 obtain⟨a',j1,nd,ws,ha,rk⟩:=hh1.obj l _ g1
 rw[h1] at j1;cases j1
 split at w2
 · rename_i c
   obtain⟨c2,w3⟩:=zbZ w2
   refine⟨a,ws,rfl,ha,rk.triK,by rw[rk.keys];exact nd,by rw[rk.length];exact c,fun l hl out hp ho=>q _ _ (Lf.up x1 (Lf.lst hh1 hl ?_ w3))⟩
   have:=zcb (K:=X.K) (ι:=ι1) (H:=H1) (cs:=out) (fun x hx=>by
    obtain⟨y,hy,rfl⟩:=List.mem_map.mp (hp.mem_iff.mp hx)
    exact rk.triK y hy)
   rw[ho,rk.keys] at this
   exact this
 · exact w2.elim
theorem zkj (G:Gd T cf k N sc X){ca:CE}{e:Expr}(hg:Gl X "sorted"/\X.mg "sorted"=none)(he:PE X e (tE X.K cf ca))(hst:zaj e=true) :
  PE X (.Call (.Name "sorted" p) [e] [] pos) (tE X.K cf (.srt3 ca)):=by
 refine PE.imp (zbP (zg3 G.calm G.hu64) hg.1 hg.2 ze6 (za3 he hst) (by decide) (by decide) (zak hst [] X.env)) fun σ H Qv ⟨δ,ι,S,Q,hs,hh,w,q⟩=>?_
 simp only[evE,zaa] at w
 refine tE.run hs hh w fun d v ι1 H1 S1 x1 hs1 hh1 r1 w1=>?_
 obtain⟨ks,hb,w2⟩:=zaR w1
 unfold lst3 at hb
 cases d with
 | ref l =>
   obtain⟨a,h1,rfl⟩:=r1
   dsimp only at hb
   cases e1:S1.get l with
   |none=>rw[e1] at hb;cases hb
   | some ob =>
     rw[e1] at hb
     cases ob with
     | lst ds =>
       obtain⟨a',g1,zs,ha,rz⟩:=hh1.obj _ _ e1
       rw[h1] at g1;cases g1
       obtain⟨cs,c1,rfl,c3⟩:=znt (show ds.mapM key3=some ks from hb) rz
       split at w2
       · rename_i c
         obtain⟨c2,w3⟩:=zbZ w2
         refine⟨a,cs,rfl,SqL.of ha,c3,by rw[c1];exact c.2,by rw[<-List.length_map (f:=(·.1)),c1];exact c.1,fun l hl out hp ho=>q _ _ (Lf.up x1 (Lf.lst hh1 hl ?_ w3))⟩
         have:=zcb (K:=X.K) (ι:=ι1) (H:=H1) (cs:=out) (fun x hx=>c3 x (hp.mem_iff.mp hx))
         rw[ho,c1] at this
         exact this
       · exact w2.elim
     |_=>cases hb
 |_=>cases hb
end
end R
end
section
namespace R
open PySem PySem.Spec PyProof.Rows L2
variable [Mks]
section
variable {T:Tab} {cf:CF} {k:Nat} {N:List Str} {sc:Scope} {X:Cx} {pos p p2 pos':Pos}
end
end R
end
section
namespace R
open PySem PySem.Spec PyProof.Rows L2
variable [Mks]
structure Ltr (K:PySem.W.Frag) (ι:List Addr) (H:Hp) (S:R.St) (lks:List Nat) (ι2:List Addr) (H2:Hp) (S2:R.St):Prop where
 ext:Ext ι H ι2 H2
 rh:RH K ι2 H2 S2
 lck:∀l∈lks,S2.get l=S.get l
structure Wk (K:PySem.W.Frag) (J:It) (ds:List D) (lks:List Nat) (ι:List Addr) (H:Hp) (S:R.St):Prop where
 go:∀(i:Nat) (ι2:List Addr) (H2:Hp) (S2:R.St),Ltr K ι H S lks ι2 H2 S2->i<ds.length->J.go i H2
 yld:∀(i:Nat) (ι2:List Addr) (H2:Hp) (S2:R.St) (x:V) (H':Hp),Ltr K ι H S lks ι2 H2 S2->i<ds.length->J.yld i H2 x H'->Ext ι2 H2 ι2 H'/\RH K ι2 H' S2/\∃d,ds[i]?=some d/\RV K ι2 H' d x
 stop:∀(i:Nat) (ι2:List Addr) (H2:Hp) (S2:R.St),Ltr K ι H S lks ι2 H2 S2->ds.length<=i->J.stop i H2
 lks:∀l∈lks,l<S.len
noncomputable def LfI (K:PySem.W.Frag)(ι:List Addr)(H:Hp)(Q:List D × List Nat->R.St->Prop)(J:It)(H':Hp):Prop:=∃ds lks ι' S',Ext ι H ι' H'/\RH K ι' H' S'/\Q (ds,lks) S'/\Wk K J ds lks ι' H' S'
noncomputable def tI (K:PySem.W.Frag)(cf:CF)(cl:CL):TI:=fun σ H R=>∃δ ι S Q,RS K ι H δ σ/\RH K ι H S/\W (evL cf cl δ S) Q/\∀J H',LfI K ι H Q J H'->R J H'
theorem PI.imp {X:Cx}{tg e:Expr}{t t':TI}(h:PI X tg e t)(i:∀σ H Q,t' σ H Q->t σ H Q):PI X tg e t':=fun pins s σ H Q I q=>h pins s σ H Q I (i σ H Q q)
noncomputable def iSeq (K:PySem.W.Frag)(tl:TE):TI:=fun σ H R=>tl σ H fun x H1=>∃a,x=.ref a/\(((∃xs,SqL K H1 a xs)/\R (Itl K a) H1)\/((∃xs,SqT K H1 a xs)/\R (Itt K a) H1))
section
variable {T:Tab} {cf:CF} {k:Nat} {N:List Str} {sc:Scope} {X:Cx} {pos p:Pos} {tg:Expr}
theorem zmx {l:Expr}{tl:TE}(hl:PE X l tl):PI X tg l (iSeq X.K tl):=by
 intro pins s σ H R I h
 refine thn (hl pins s σ H _ I h) fun v s1 ⟨x,H1,I1,r1,q1⟩=>?_
 obtain⟨a,rfl,q1⟩:=q1
 cases r1
 rcases q1 with ⟨⟨xs,hq⟩,q⟩|⟨⟨xs,hq⟩,q⟩
 · obtain⟨its,rv,pl,hz⟩:=I1.list hq
   refine wpAny_pyIter_list pl.isList ?_
   refine⟨s1.heap.objs.size,[s1.heap.objs.size],_,_,H1,rfl,I1.kept (t':=s1.toks) fun b o e=>Heap.get?_push_of_some _ e,zgX a _,⟨_,Heap.get?_push_size _ rfl,rfl,rfl⟩,fun b hb=>?_,q⟩
   have e:b=s1.heap.objs.size:=by simpa using hb
   subst e
   exact I1.fpOk (Nat.le_refl _) (I1.hok.fresh (Nat.le_refl _))
 · obtain⟨its,rv,pl,hz⟩:=I1.tuple hq
   refine wpAny_pyIter_tuple (show s1.heap.IsTuple a its.toArray from pl) ?_
   refine⟨s1.heap.objs.size,[s1.heap.objs.size],_,_,H1,rfl,I1.kept (t':=s1.toks) fun b o e=>Heap.get?_push_of_some _ e,zgh a _,⟨_,Heap.get?_push_size _ rfl,rfl,rfl⟩,fun b hb=>?_,q⟩
   have e:b=s1.heap.objs.size:=by simpa using hb
   subst e
   exact I1.fpOk (Nat.le_refl _) (I1.hok.fresh (Nat.le_refl _))
theorem ze8 {K:PySem.W.Frag}{ι:List Addr}{H:Hp}{S:R.St}{a:Addr}{ds:List D}{lks:List Nat}(hl:∀l∈lks,l<S.len)
  (h:∀ι2 H2 S2,Ltr K ι H S lks ι2 H2 S2->∃xs,SqL K H2 a xs/\RVs K ι2 H2 ds xs/\∀ys,SqL K H2 a ys->True):Wk K (Itl K a) ds lks ι H S where
 go:=fun i ι2 H2 S2 lt hi=>by
  obtain⟨xs,hq,rr,_⟩:=h ι2 H2 S2 lt
  exact⟨xs,xs[i]'(by rw[rr.length];exact hi),hq,List.getElem?_eq_getElem _⟩
 yld:=fun i ι2 H2 S2 x H' lt hi y=>by
  obtain⟨xs,hq,rr,_⟩:=h ι2 H2 S2 lt
  obtain⟨rfl,y⟩:=y
  obtain⟨d,e,r⟩:=rr.get' (y xs hq)
  exact⟨Ext.refl _ _,lt.rh,d,e,r⟩
 stop:=fun i ι2 H2 S2 lt hi=>by
  obtain⟨xs,hq,rr,_⟩:=h ι2 H2 S2 lt
  exact⟨xs,hq,by rw[rr.length];exact hi⟩
 lks:=hl
theorem zlC {K:PySem.W.Frag}{ι:List Addr}{H:Hp}{S:R.St}{a:Addr}{ds:List D}{lks:List Nat}{xs:List V}(hl:∀l∈lks,l<S.len)(e:H a=some (.tup xs))(rr:RVs K ι H ds xs):Wk K (Itt K a) ds lks ι H S where
 go:=fun i ι2 H2 S2 lt hi=>⟨xs,xs[i]'(by rw[rr.length];exact hi),SqT.of (lt.ext.kp.tups _ _ e),List.getElem?_eq_getElem _⟩
 yld:=fun i ι2 H2 S2 x H' lt hi y=>by
  obtain⟨rfl,y⟩:=y
  obtain⟨d,e,r⟩:=(rr.ext lt.ext).get' (y xs (SqT.of (lt.ext.kp.tups _ _ e)))
  exact⟨Ext.refl _ _,lt.rh,d,e,r⟩
 stop:=fun i ι2 H2 S2 lt hi=>⟨xs,SqT.of (lt.ext.kp.tups _ _ e),by rw[rr.length];exact hi⟩
 lks:=hl
theorem zg5 {cl:CL}{e:Expr}(he:PE X e (tL X.K cf cl))(hlk:∀{δ:Ev} {S:R.St} {Q:List D × List Nat->R.St->Prop},W (evL cf cl δ S) Q->W (evL cf cl δ S) fun r S'=>(∀l∈r.2,l<S'.len)/\Q r S'):PI X tg e (tI X.K cf cl):=by
 refine PI.imp (zmx he) fun σ H R ⟨δ,ι,S,Q,hs,hh,w,q⟩=>?_
 refine tL.run hs hh (hlk w) fun ds lks v ι1 H1 S1 x1 hs1 hh1 sq w1=>?_
 obtain⟨hl,w1⟩:=w1
 obtain⟨a,xs,rfl,rr,kd⟩:=sq
 refine⟨a,rfl,?_⟩
 cases kd with
 |tmp h e=>exact .inl ⟨⟨xs,SqL.of e⟩,q _ _ ⟨ds,lks,ι1,S1,x1,hh1,w1,ze8 hl fun ι2 H2 S2 lt=>⟨xs,SqL.of (lt.ext.keep h e (by simp)),rr.ext lt.ext,fun _ _=>trivial⟩⟩⟩
 |fix e=>exact .inl ⟨⟨xs,e.sq⟩,q _ _ ⟨ds,lks,ι1,S1,x1,hh1,w1,ze8 hl fun ι2 H2 S2 lt=>⟨xs,(e.kp lt.ext.kp).sq,rr.ext lt.ext,fun _ _=>trivial⟩⟩⟩
 |tup e=>exact .inr ⟨⟨xs,SqT.of e⟩,q _ _ ⟨ds,lks,ι1,S1,x1,hh1,w1,zlC hl e rr⟩⟩
 | own l hm hi hg e =>
   refine .inl ⟨⟨xs,SqL.of e⟩,q _ _ ⟨ds,lks,ι1,S1,x1,hh1,w1,ze8 hl fun ι2 H2 S2 lt=>?_⟩⟩
   obtain⟨b,h2,zs,hz,rz⟩:=lt.rh.obj l (.lst ds) ((lt.lck l hm).trans hg)
   rw[zb7 lt.ext.pre hi] at h2;cases h2
   exact⟨zs,SqL.of hz,rz,fun _ _=>trivial⟩
theorem zm2 {ce:CE}{δ:Ev}{S:R.St}{Q:List D × List Nat->R.St->Prop}(h:W (evL cf (.val ce) δ S) Q):W (evL cf (.val ce) δ S) fun r S'=>(∀l∈r.2,l<S'.len)/\Q r S':=by
 simp only[evL,zaa] at h⊢
 refine h.mono fun x S1 h1=>?_
 obtain⟨ds,e,h2⟩:=zaR h1
 rw[e]
 refine⟨fun l hl=>?_,h2⟩
 cases x with
 | ref l' =>
   simp[lkOf] at hl
   subst hl
   simp only[zcj] at e
   split at e
   · rename_i e2;exact zaZ e2
   · cases e
 |_=>simp[lkOf] at hl
theorem zje {f j:Nat}{ces:CEs}{δ:Ev}{S:R.St}{Q:List D × List Nat->R.St->Prop}(h:W (evL cf (.callL f j ces) δ S) Q):W (evL cf (.callL f j ces) δ S) fun r S'=>(∀l∈r.2,l<S'.len)/\Q r S':=by
 simp only[evL,zaa] at h⊢
 exact h.mono fun ds S1 h1=>h1.mono fun r S2 h2=>⟨fun l hl=>by simp at hl,h2⟩
theorem zk1 {n:Nat}{js g:List Nat}{it:CL}{c e:CE}{δ:Ev}{S:R.St}{Q:List D × List Nat->R.St->Prop}(h:W (evL cf (.comp n js g it c e) δ S) Q):W (evL cf (.comp n js g it c e) δ S) fun r S'=>(∀l∈r.2,l<S'.len)/\Q r S':=by
 simp only[evL,zaa] at h⊢
 refine h.mono fun ds S1 h1=>h1.mono fun r S2 h2=>?_
 split at h2
 · rename_i c;rw[if_pos c];exact⟨fun l hl=>by simp at hl,h2⟩
 · exact h2.elim
theorem zfC {K:PySem.W.Frag}{ι:List Addr}{H:Hp}{S:R.St}(lo:Int)(n:Nat):Wk K (Itr lo n) ((List.range n).map fun (j:Nat)=>D.int (lo+j)) [] ι H S where
 go:=fun i ι2 H2 S2 lt hi=>by show i<n;simpa using hi
 yld:=fun i ι2 H2 S2 x H' lt hi y=>by
  obtain⟨rfl,rfl⟩:=y
  have hi:i<n:=by simpa using hi
  exact⟨Ext.refl _ _,lt.rh,.int (lo+i),by simp[hi],rfl⟩
 stop:=fun i ι2 H2 S2 lt hi=>by show n<=i;simpa using hi
 lks:=fun l hl=>by simp at hl
theorem zkf {ca:CE}{a:Expr}(hg:Gl X "range"/\X.mg "range"=none)(ha:PE X a (tE X.K cf ca))(hst:zaj a=true):PI X tg (.Call (.Name "range" p) [a] [] pos) (tI X.K cf (.rng1 ca)):=by
 refine PI.imp (zho hg.1 hg.2 (za3 ha hst) (zak hst [] X.env)) fun σ H R ⟨δ,ι,S,Q,hs,hh,w,q⟩=>?_
 simp only[evL,zaa] at w
 refine tE.run hs hh w fun d v ι1 H1 S1 x1 hs1 hh1 r1 w1=>?_
 cases d with
 | int j =>
   obtain rfl:v=.int j:=r1
   dsimp only at w1
   split at w1
   · rename_i c
     have e:((List.range j.toNat).map fun (k:Nat)=>D.int k)=(List.range j.toNat).map fun (k:Nat)=>D.int (0+k):=by simp
     rw[e] at w1
     exact⟨j,rfl,c.1,c.2,q _ _ ⟨_,[],ι1,S1,x1,hh1,w1,zfC 0 j.toNat⟩⟩
   · exact w1.elim
 |_=>exact w1.elim
theorem zke {ca cb:CE}{a b:Expr}(hg:Gl X "range"/\X.mg "range"=none)(ha:PE X a (tE X.K cf ca))(hb:PE X b (tE X.K cf cb))(hst:zaj a=true)(hst2:zaj b=true):PI X tg (.Call (.Name "range" p) [a,b] [] pos) (tI X.K cf (.rng2 ca cb)):=by
 refine PI.imp (zhn hg.1 hg.2 (zb8 ha (za3 hb hst2) (zak hst [b] X.env)) (by rw[zak hst,zak hst2];rfl) (zak hst2 [] X.env)) fun σ H R ⟨δ,ι,S,Q,hs,hh,w,q⟩=>?_
 simp only[evL,zaa] at w
 refine tE.run hs hh w fun d v ι1 H1 S1 x1 hs1 hh1 r1 w1=>tE.run hs1 hh1 w1 fun e u ι2 H2 S2 x2 hs2 hh2 r2 w2=>?_
 split at w2
 · rename_i i j
   obtain rfl:v=.int i:=r1
   obtain rfl:u=.int j:=r2
   split at w2
   · rename_i c
     exact⟨i,j,rfl,c,q _ _ ⟨_,[],ι2,S2,x1.trans x2,hh2,w2,zfC i (j - i).toNat⟩⟩
   · exact w2.elim
 · exact w2.elim
theorem zbe {X:Cx}{pins:List (Addr × Obj)}{σ:L2.St}{H:Hp}{s:Shared}{h':Heap}{t':Nat}{fp:List Addr}(I:Inv X pins σ H s)(k:∀b o,b∉fp->s.heap.get? b=some o->h'.get? b=some o)(hf:∀b∈fp,FpOk X pins H b):Inv X pins σ H {s with heap:=h',toks:=t'}:=by
 have nit:∀b u,H b=some u->b∉fp:=fun b u e z=>by rw[(hf b z).1] at e;cases e
 refine I.step (g':=s.gens) (d':=s.drawn) (ch:=fp) (fun b hb=>?_) (fun b o _ _ hc e _=>k b o hc e) (fun b o _ _ hc e _=>⟨o.slots,k b o hc e⟩) (fun _ _ _ _ n=>n)
  (fun b o hc e=>⟨o,k b o hc e⟩) (fun _ _ e=>e) (fun _ _ _ e=>e) (fun b ps e=>⟨#[],by rw[e];simp⟩) (fun m hm=>?_) (fun b u e=>?_) I.bare
 · obtain⟨f0,f1,f2,f3,f4,f5⟩:=hf b hb
   exact⟨f3,f1,f4,f5⟩
 · obtain⟨o,es,ep,ho,r⟩:=hm
   exact⟨o,es,ep,k _ o (fun z=>(hf _ z).2.1 rfl) ho,r⟩
 · refine (I.hok b u e).stay (fun c v hc q=>k c v ?_ q) (fun _ q=>q) fun _ _ q=>q
   rcases hc with z|z
   · rw[z];exact nit b u e
   · exact nit c _ z
noncomputable def tG (K:PySem.W.Frag)(is:List Nat):TG:=fun v σ H Qv=>∃δ ι d δ',RS K ι H δ σ/\RV K ι H d v/\asgG is d δ=some δ'/\∀σ',RS K ι H δ' σ'->Qv σ' H
noncomputable def tGs (K:PySem.W.Frag)(is:List Nat):TGs:=fun vs σ H Qv=>∃δ ι ds,RS K ι H δ σ/\RVs K ι H ds vs/\ds.length=is.length/\∀σ',RS K ι H (zde is ds δ) σ'->Qv σ' H
theorem PG.imp {t t':TG}(h:PG X tg t)(i:∀v σ H Q,t' v σ H Q->t v σ H Q):PG X tg t':=fun pins s σ H v u Q I r q=>h pins s σ H v u Q I r (i v σ H Q q)
theorem PGs.imp {es:List Expr}{t t':TGs}(h:PGs X es t)(i:∀v σ H Q,t' v σ H Q->t v σ H Q):PGs X es t':=fun pins s σ H v u Q I r q=>h pins s σ H v u Q I r (i v σ H Q q)
theorem zkh (G:Gd T cf k N sc X){i:Nat}{x:Str}(hi:N[i]?=some x)(hl:zeL sc x=true):PG X (.Name x pos) (tG X.K [i]):=by
 refine PG.imp (zhp (i:=i) (by rw[G.nm];exact G.nd) (by rw[G.nm];exact hi) (G.lc hl).1 (G.lc hl).2) fun v σ H Qv ⟨δ,ι,d,δ',hs,r,e,q⟩=>?_
 simp only[asgG] at e
 cases e
 exact q _ (hs.set r i)
noncomputable def zcs (sc:Scope)(N:List Str):List Nat->List Expr->Bool
 | [],[]=>true
 |i::is,.Name x _::es=>(N[i]? == some x)&&zeL sc x&&zcs sc N is es
 |_,_=>false
theorem zem (G:Gd T cf k N sc X):∀{is:List Nat} {es:List Expr},zcs sc N is es=true->PGs X es (tGs X.K is)/\(assignEach es X.env).length=is.length/\(assignEach es X.env).findIdx? (·.1)=none
 | [],[],_=>⟨PGs.imp zkM fun v σ H Qv ⟨δ,ι,ds,hs,r,hl,q⟩=>by
  have:ds=[]:=by simpa using hl
  subst this
  exact⟨r,q σ (by simpa[zde] using hs)⟩,rfl,rfl⟩
 | [],_::_,h=>by simp[zcs] at h
 |_::_,[],h=>by simp[zcs] at h
 | i :: is, e :: es, h => by
   cases e with
   | Name x pos =>
     simp only[zcs,Bool.and_eq_true,beq_iff_eq] at h
     obtain⟨h1,h2,h3⟩:=zem G (is:=is) (es:=es) h.2
     refine⟨PGs.imp (ziW (zhp (i:=i) (by rw[G.nm];exact G.nd) (by rw[G.nm];exact h.1.1) (G.lc h.1.2).1 (G.lc h.1.2).2) h1) fun v σ H Qv ⟨δ,ι,ds,hs,r,hl,q⟩=>?_,?_,?_⟩
     · cases ds with
       |nil=>simp at hl
       | cons d ds =>
         obtain⟨v1,vr,rfl,r1,r2⟩:=r
         refine⟨v1,vr,rfl,?_⟩
         exact⟨δ.set i (some d),ι,ds,hs.set r1 i,r2,by simpa using hl,fun σ' hs'=>q σ' (by simpa[zde] using hs')⟩
     · show ((false,_)::assignEach es X.env).length=_
       simp[h2]
     · show ((false,_)::assignEach es X.env).findIdx? _=_
       simp[List.findIdx?_cons,h3]
   |_=>simp[zcs] at h
theorem zjG {is:List Nat}{d:D}{δ δ':Ev}(h2:2<=is.length)(e:asgG is d δ=some δ'):∃ds,d=.tup ds/\ds.length=is.length/\δ'=zde is ds δ:=by
 match is,h2 with
 | a :: b :: t, _ =>
   cases d with
   | tup ds =>
     simp only[asgG] at e
     split at e
     · rename_i c;cases e;exact⟨ds,rfl,c,rfl⟩
     · cases e
   |_=>cases e
theorem zl1 (G:Gd T cf k N sc X){is:List Nat}{es:List Expr}{j:Nat}(h:zcs sc N is es=true)(h2:2<=is.length):PG X (.Tuple es j pos) (tG X.K is):=by
 obtain⟨h1,hn,hst⟩:=zem G h
 refine PG.imp (zmy G.calm h1 hn hst) fun v σ H Qv ⟨δ,ι,d,δ',hs,r,e,q⟩=>?_
 obtain⟨ds,rfl,c,rfl⟩:=zjG h2 e
 obtain⟨a,xs,rfl,ha,rr⟩:=r
 exact⟨a,xs,rfl,SqT.of ha,by rw[rr.length];exact c,δ,ι,ds,hs,rr,c,q⟩
theorem Ext.tmp {ι ι':List Addr}{H H':Hp}{p:Addr}{vs us:List V}(x:Ext ι H ι' H')(hn:H p=none)(e:H' p=some (.lst vs)):Ext ι H ι' (upd H' p (.lst us)):=by
 refine⟨x.pre,x.kp.trans (.same (Tups.upd_lst e) (fun b o u h=>?_) fun b ps h=>?_),fun b o hb eb=>?_⟩
 · rw[zam];exact h
   rintro rfl
   rw[e] at h;cases h
 · rw[zam];exact h
   rintro rfl
   rw[e] at h;cases h
 · obtain⟨h1,h2⟩:=x.rest b o hb eb
   refine⟨?_,h2⟩
   rw[zam];exact h1
   rintro rfl
   rw[hn] at eb;cases eb
theorem Kp.tmp {H:Hp}{p:Addr}{vs us:List V}(e:H p=some (.lst vs)):Kp H (upd H p (.lst us)):=.same (Tups.upd_lst e) (fun b o u h=>by
 rw[zam];exact h
 rintro rfl
 rw[e] at h;cases h) fun b ps h=>by
 rw[zam];exact h
 rintro rfl
 rw[e] at h;cases h
theorem RH.tmp {K:PySem.W.Frag}{ι:List Addr}{H:Hp}{S:R.St}{p:Addr}{vs us:List V}(hh:RH K ι H S)(hp:p∉ι)(e:H p=some (.lst vs)):RH K ι (upd H p (.lst us)) S:=
 ⟨hh.len,hh.nd,fun l o q=>by
  obtain⟨a,h1,h2,hm⟩:=hh.mem q
  exact⟨a,h1,h2.up (List.prefix_refl _) (Kp.tmp e) (zam fun z=>hp (z▸hm))⟩,(Kp.tmp e).tab hh.tab⟩
theorem RS.up {K:PySem.W.Frag}{ι ι':List Addr}{H H':Hp}{δ:Ev}{σ:L2.St}(h:RS K ι H δ σ)(hp:ι <+: ι')(hk:Kp H H'):RS K ι' H' δ σ:=
 ⟨h.1,fun i d e=>let ⟨v,e1,r⟩:=h.2 i d e;⟨v,e1,r.up hp hk⟩⟩
theorem RH.lk {K:PySem.W.Frag}{ι:List Addr}{H:Hp}{S:R.St}(hh:RH K ι H S)(ks:List Nat):RH K ι H {S with lk:=ks}:=⟨hh.len,hh.nd,fun l o e=>hh.obj l o e,hh.tab⟩
theorem RS.csl {K:PySem.W.Frag}{ι:List Addr}{H:Hp}{δ:Ev}{σ:L2.St}(h:RS K ι H δ σ)(nt:Nat)(js:List Nat):RS K ι H (R.csl nt js δ) (L2.csl nt js σ):=by
 refine⟨by simp[R.csl,L2.csl],fun i d e=>?_⟩
 unfold R.csl at e
 unfold L2.csl
 by_cases hi:i<nt
 · rw[List.getElem?_append_left (by simpa using hi),List.getElem?_replicate] at e
   rw[if_pos hi] at e
   cases e
 · rw[List.getElem?_append_right (by simpa using hi)] at e⊢
   simp only[List.length_replicate,List.getElem?_map] at e⊢
   cases ej:js[i - nt]? with
   |none=>rw[ej] at e;cases e
   | some j =>
     rw[ej] at e
     simp only[Option.map_some,Option.some.injEq] at e⊢
     have e2:δ[j]?=some (some d):=by
      cases z:δ[j]? with
      |none=>rw[z] at e;cases e
      |some o=>rw[z] at e;simp at e;rw[e]
     obtain⟨v,ev,r⟩:=h.2 j d e2
     exact⟨v,by rw[ev];rfl,r⟩
theorem zeT {α:Type}{xs:List α}{i:Nat}{x:α}(h:xs[i]?=some x):xs.drop i=x::xs.drop (i+1):=by
 obtain⟨h1,h2⟩:=List.getElem?_eq_some_iff.mp h
 rw[List.drop_eq_getElem_cons h1,h2]
noncomputable def CInv (K:PySem.W.Frag)(cf:CF)(g:List Nat)(c e:CE)(Q:List D × List Nat->R.St->Prop)(ds:List D)(lks:List Nat)(ι1:List Addr)(H1:Hp)(S1:R.St)(p:Addr)(i:Nat)(σ':L2.St)(H':Hp):Prop:=
 i<=ds.length/\∃δ' ι' S' acc vs,RS K ι' H' δ' σ'/\Ltr K ι1 H1 S1 lks ι' H' S'/\S'.lk=lks++S1.lk/\S1.len<=S'.len/\p∉ι'/\H' p=some (.lst vs)/\RVs K ι' H' acc vs/\
  W (za6 g (evT cf c) (evE cf e) (ds.drop i) δ' S') fun rest S2=>(acc++rest).length<=16777216/\Q (acc++rest,[]) {S2 with lk:=S1.lk}
theorem zf7 {nt:Nat}{js is:List Nat}{it:CL}{c e:CE}{σ:L2.St}{H:Hp}{Qv:VK}(hcf:CFok cf)(h:tLt X.K cf (.comp nt js is it c e) σ H Qv):zj6 nt js (tI X.K cf it) (tG X.K is) (tT X.K cf c) (tE X.K cf e) σ H Qv:=by
 obtain⟨δ,ι,S,Q,hs,hh,w,q⟩:=h
 simp only[evL,zaa] at w
 refine⟨δ,ι,S,_,hs,hh,w,fun J H1 ⟨ds,lks,ι1,S1,x1,hh1,w1,wk⟩=>?_⟩
 dsimp only at w1
 unfold zbh at w1
 rw[zaa] at w1
 intro p hp
 have hpi:=hh1.fresh hp
 refine⟨fun i m σ' H'=>m=ds.length - i/\CInv X.K cf is c e Q ds lks ι1 H1 S1 p i σ' H',⟨_,rfl,Nat.zero_le _,R.csl nt js δ,ι1,{S1 with lk:=lks++S1.lk},[],[],((hs.ext x1).csl _ _).up (List.prefix_refl _) (Kp.new hp _),⟨Ext.new hp _,(hh1.lk _).new hp _,fun l _=>rfl⟩,rfl,Nat.le_refl _,hpi,zaq,rfl,?_⟩,?_⟩
 · refine w1.mono fun rest S2 w2=>?_
   simp only[W_ok] at w2
   split at w2
   · rename_i c;exact⟨by simpa using c,by simpa using w2⟩
   · exact w2.elim
 rintro i m σ' H' ⟨rfl,hle,δ',ι',S',acc,vs,hs',lt,hlk,hln,hpn,hpv,ra,wt⟩
 rcases Nat.lt_or_eq_of_le hle with hlt|rfl
 · refine .inr ⟨wk.go i ι' H' S' lt hlt,CInv X.K cf is c e Q ds lks ι1 H1 S1 p (i+1),fun σ2 H2 h=>⟨_,by omega,rfl,h⟩,fun x H2 hy=>?_⟩
   obtain⟨x2,hh2,d,hd,rd⟩:=wk.yld i ι' H' S' x H2 lt hlt hy
   have hs2:=hs'.ext x2
   have hp2:=x2.keep hpn hpv (by simp)
   rw[zeT hd] at wt
   simp only[za6] at wt
   cases ea:asgG is d δ' with
   |none=>rw[ea] at wt;exact wt.elim
   | some δ2 =>
     rw[ea] at wt
     dsimp only at wt
     rw[zaa] at wt
     refine⟨δ',ι',d,δ2,hs2,rd,ea,fun σ2 hs3=>?_⟩
     refine tT.run hs3 hh2 (zd5 hcf c δ2 S' _ wt) fun b ι3 H3 S3 x3 hs4 hh3 w3=>?_
     obtain⟨w3,f3⟩:=w3
     have hp3:=x3.keep hpn hp2 (by simp)
     have hpn3:=(x3.rest p _ hpn hp2).2
     have keep:∀{S4:R.St},Frm S' S4->S4.lk=lks++S1.lk/\S1.len<=S4.len/\∀l∈lks,S4.get l=S1.get l:=fun f=>⟨f.lk.trans hlk,Nat.le_trans hln f.lens,fun l hl=>
      (f.same l (by rw[hlk];exact List.mem_append_left _ hl) (Nat.lt_of_lt_of_le (wk.lks l hl) hln)).trans (lt.lck l hl)⟩
     cases b with
     | false =>
       simp only[Bool.false_eq_true,if_false] at w3⊢
       obtain⟨k1,k2,k3⟩:=keep f3
       exact⟨hlt,δ2,ι3,S3,acc,vs,hs4,⟨(lt.ext.trans x2).trans x3,hh3,k3⟩,k1,k2,hpn3,hp3,(ra.ext x2).ext x3,w3⟩
     | true =>
       simp only[if_true] at w3⊢
       rw[zaa] at w3
       refine tE.run hs4 hh3 (zav hcf e δ2 S3 _ w3) fun z v ι4 H4 S4 x4 hs5 hh4 rz w4=>?_
       obtain⟨w4,f4⟩:=w4
       obtain⟨k1,k2,k3⟩:=keep (f3.trans f4)
       have hp4:=x4.keep hpn3 hp3 (by simp)
       have hpn4:=(x4.rest p _ hpn3 hp3).2
       rw[zaa] at w4
       have ra4:=((ra.ext x2).ext x3).ext x4
       have hlen:acc.length<16777216:=by
        obtain⟨rest,S5,_,w5⟩:=zee w4
        have:=w5.1
        simp at this
        omega
       refine⟨vs,hp4,by rw[ra4.length,sizeLine_eq];exact hlen,hlt,δ2,ι4,S4,acc++[z],vs++[v],hs5.up (List.prefix_refl _) (Kp.tmp hp4),⟨(((lt.ext.trans x2).trans x3).trans x4).tmp hp hp4,hh4.tmp hpn4 hp4,k3⟩,k1,k2,hpn4,zaq,?_,?_⟩
       · exact (RVs.append (es:=[z]) (us:=[v]) ra4 ⟨v,[],rfl,rz,rfl⟩).up (List.prefix_refl _) (Kp.tmp hp4)
       · refine w4.mono fun rest S5 w5=>?_
         simp only[W_ok] at w5
         simpa using w5
 · refine .inl ⟨wk.stop _ ι' H' S' lt (Nat.le_refl _),?_⟩
   rw[List.drop_length] at wt
   simp only[za6,W_ok,List.append_nil] at wt
   exact q _ _ ⟨acc,ι',{S' with lk:=S1.lk},p,vs,x1.trans lt.ext,rfl,ra,hpn,hpv,lt.rh.lk _,ze7 hh1 x1 hp,wt.2⟩
end
end R
end
section
namespace R
open PySem PySem.Spec PyProof.Rows L2
variable [Mks]
section
variable {T:Tab} {cf:CF} {k:Nat} {N:List Str} {sc:Scope} {X:Cx} {pos p:Pos} {tg:Expr}
noncomputable def Ite (K:PySem.W.Frag)(a:Addr):It:=
 ⟨fun i H => ∃ xs x, SqL K H a xs ∧ xs[i]? = some x,
  fun i H v H'=>∃T x,H T=none/\v=.ref T/\H'=upd H T (.tup [.int i,x])/\∀xs,SqL K H a xs->xs[i]?=some x,
  fun i H=>∃xs,SqL K H a xs/\xs.length<=i⟩
theorem zgY {P:Program}{w:World}{K:PySem.W.Frag}{es:List Expr}{j:Nat}{pt:Pos}{e it a:Addr}(hne:e≠it):Turn P w K (.Tuple es j pt) (Ite K a) [e,it] e
  (fun i h=>(∃old,IsEnum h e it i old)/\h.IsListIter it a i) where
 mem:=by simp
 obj:=fun i h st c hc=>by
  obtain⟨⟨old,h1⟩,⟨o4,h4,_,d4⟩⟩:=st
  simp only[List.mem_cons,List.not_mem_nil,or_false] at hc
  rcases hc with rfl|rfl
  · exact⟨_,h1,fun v z=>by cases z⟩
  · exact⟨_,h4,fun v z=>by rw[d4] at z;cases z⟩
 keep:=fun i h h' st k=>by
  obtain⟨⟨old,h1⟩,h4⟩:=st
  exact⟨⟨old,k e (by simp) _ h1⟩,h4.at fun o x=>k it (by simp) o x⟩
 item:=by
  intro X hP hw hK hc i pins s σ H E I hf st hg
  subst hP hw hK
  obtain⟨xs,x,hq,hx⟩:=hg
  obtain⟨xv,rx,px,_⟩:=I.list hq
  obtain⟨u,hu,ru⟩:=rx.get hx
  obtain⟨⟨old,he⟩,h1⟩:=st
  refine wpAny_pyNext_enum_item he h1 px.isList (x:=u) (by simpa using hu) hne fun h' a1 a3 a5 a6 hk=>?_
  have hn:H s.heap.objs.size=none:=I.hok.fresh (Nat.le_refl _)
  have I1:Inv X pins σ (upd H s.heap.objs.size (.tup [.int i,x])) {s with heap:=s.heap.push {cls:=.type "tuple",data:=.seq #[.int i s.toks,u]},toks:=s.toks+1}:=
   I.laid (t':=s.toks+1) (fun b u e=>Heap.get?_push_of_some _ e) (Nat.le_refl _) ⟨by rw[sizeLine_eq];simp,[.int i s.toks,u],.cons ⟨_,rfl⟩ (.cons ru .nil),⟨_,Heap.get?_push_size _ rfl,rfl,_,rfl⟩⟩
  have lt:∀{c o},s.heap.get? c=some o->c≠s.heap.objs.size:=fun e=>Nat.ne_of_lt (Heap.lt_size e)
  have nf:∀c∈[e,it],c≠s.heap.objs.size:=by
   intro c hc
   simp only[List.mem_cons,List.not_mem_nil,or_false] at hc
   rcases hc with rfl|rfl
   · exact lt he
   · obtain⟨o,z,_⟩:=h1;exact lt z
  have hf1:∀c∈[e,it],FpOk X pins (upd H s.heap.objs.size (.tup [.int i,x])) c:=fun c hc=>by
   obtain⟨f0,f⟩:=hf c hc
   exact⟨by rw[zam (nf c hc)];exact f0,f⟩
  have two:∀{c:Addr},¬c∈[e,it]->c≠e/\c≠it:=fun {c} hc=>by
   simp only[List.mem_cons,List.not_mem_nil,or_false,not_or] at hc
   exact hc
  have k2:∀c o,¬c∈[e,it]->(s.heap.push {cls:=.type "tuple",data:=.seq #[.int i s.toks,u]}).get? c=some o->h'.get? c=some o:=fun c o hc z=>by
   by_cases hs:c=s.heap.objs.size
   · subst hs
     have e2:(s.heap.push {cls:=.type "tuple",data:=.seq #[.int i s.toks,u]}).get? s.heap.objs.size=_:=Heap.get?_push_size _ rfl
     rw[e2] at z
     cases z
     exact a5
   · exact hk c o (two hc).1 (two hc).2 ((Heap.get?_push_ne _ _ _ hs).symm.trans z)
  have I2:Inv X pins σ (upd H s.heap.objs.size (.tup [.int i,x])) {s with heap:=h',toks:=s.toks+1}:=zbe (s:={s with heap:=s.heap.push {cls:=.type "tuple",data:=.seq #[.int i s.toks,u]},toks:=s.toks+1}) (h':=h') (t':=s.toks+1) I1 k2 hf1
  refine⟨_,rfl,?_⟩
  refine wpAny_letOwnedTupleGo_enum a1 fun h2' hz' hs'=>?_
  refine⟨.ref s.heap.objs.size,upd H s.heap.objs.size (.tup [.int i,x]),zbe (t':=s.toks+1) I2 (fun c o hc z=>hs'.extBut _ _ (two hc).1 z) hf1,rfl,⟨_,x,hn,rfl,rfl,fun xs' hx'=>by rw[I.list_inj hx' hq];exact hx⟩,
   ⟨⟨_,hz'⟩,a3.extBut hs'.extBut (Ne.symm hne)⟩,fun c hc=>(hf1 c hc).1⟩
 done:=by
  intro X hP hw hK hc i pins s σ H E I hf st hg
  subst hP hw hK
  obtain⟨xs,hq,hl⟩:=hg
  obtain⟨xv,rx,px,_⟩:=I.list hq
  obtain⟨⟨old,he⟩,h1⟩:=st
  have l1:=rx.length
  refine wpAny_pyNext_enum_end (I.ok.hd hc) he h1 px.isList (by simp;omega) fun h' hk=>⟨rfl,zbe (t':=s.toks) I (fun c o hc z=>hk c o (fun q=>hc (by simp[q])) z) hf⟩
 self:=fun _ _ _ _ _ st h=>wpAny_pyIter_enum st.1.choose_spec h
theorem zj0 {K:PySem.W.Frag}{ι:List Addr}{H:Hp}{S:R.St}{a:Addr}{l:Nat}{ds:List D}(hl:S.get l=some (.lst ds))(ha:ι[l]?=some a):Wk K (Ite K a) (ds.mapIdx fun i d=>zcl (.int i) d) [l] ι H S:=by
 have get:∀{ι2 H2 S2},Ltr K ι H S [l] ι2 H2 S2->∃xs,SqL K H2 a xs/\RVs K ι2 H2 ds xs:=fun {ι2 H2 S2} lt=>by
  obtain⟨a',h2,xs,hx,rx⟩:=lt.rh.obj l (.lst ds) ((lt.lck l (by simp)).trans hl)
  rw[zb7 lt.ext.pre ha] at h2;cases h2
  exact⟨xs,SqL.of hx,rx⟩
 refine⟨fun i ι2 H2 S2 lt hi=>?_,fun i ι2 H2 S2 x H' lt hi y=>?_,fun i ι2 H2 S2 lt hi=>?_,fun k hk=>?_⟩
 · obtain⟨xs,hx,rx⟩:=get lt
   rw[List.length_mapIdx] at hi
   have h1:=rx.length
   exact⟨xs,xs[i]'(by omega),hx,List.getElem?_eq_getElem _⟩
 · obtain⟨xs,hx,rx⟩:=get lt
   obtain⟨T,u,hT,rfl,rfl,y1⟩:=y
   obtain⟨d,ed,rd⟩:=rx.get' (y1 xs hx)
   have x2:Ext ι2 H2 ι2 (upd H2 T (.tup [.int i,u])):=Ext.new hT _
   refine⟨x2,lt.rh.new hT _,zcl (.int i) d,by rw[List.getElem?_mapIdx,ed];rfl,?_⟩
   exact⟨T,[.int i,u],rfl,zaq,.int i,[u],rfl,rfl,u,[],rfl,rd.ext x2,rfl⟩
 · obtain⟨xs,hx,rx⟩:=get lt
   rw[List.length_mapIdx] at hi
   have h1:=rx.length
   exact⟨xs,hx,by omega⟩
 · cases List.mem_singleton.mp hk
   exact zaZ hl
end
end R
end
section
set_option maxHeartbeats 4000000
namespace R
open PySem PySem.Spec PyProof.Rows L2
open AutoSeq1 (wpAny_loadPart')
section
variable {prog:Program} {w:World} {A:Around} {E:Value->Shared->Prop} {s:Shared}
theorem zgu {it t:Addr}{i:Nat}{items:Array Value}{x:Value}{Q:Value->Shared->Prop}(hit:s.heap.IsTupleIter it t i)(ht:s.heap.IsTuple t items)(hx:items[i]?=some x)
  (hQ:∀h',h'.IsTupleIter it t (i+1)->Heap.SameBut it s.heap h'->Q x {s with heap:=h'}):wpAny (model prog w) A (Builtin.SmallTypes.nextOf (.ref it)) Q E s:=by
 obtain⟨o,ho,hc,hd⟩:=id hit
 obtain⟨ol,hol,_,nl,hdl⟩:=ht
 unfold Builtin.SmallTypes.nextOf
 refine wpAny_bind (wpAny_callSpecial?_slot (name:=Str.ofString "__next__") hit.typeIs PySem.F.slot_tuple_iterator_next
  (wpAny_call_entry PySem.F.slot_tuple_iterator_next hit.typeIs PySem.F.entry_tuple_iterator_next ?_ (PySem.F.args_tuple_iterator_next_1 _)))
 show wpAny _ _ (field (.ref it) 0 >>= _) _ _ s
 refine wpAny_bind (wpAny_field ho hd (x:=.ref t) rfl ?_)
 show wpAny _ _ (if (Value.ref t == Value.none)=true then _ else _) _ _ s
 rw[if_neg (show ¬((Value.ref t == Value.none)=true) from Bool.false_ne_true)]
 show wpAny _ _ (field (.ref it) 1 >>= _) _ _ s
 refine wpAny_bind (wpAny_field ho hd (x:=.int i 0) rfl ?_)
 show wpAny _ _ (seqItems? (.ref t) >>= _) _ _ s
 refine wpAny_bind (wpAny_seqItems hol hdl ?_)
 simp only[Int.toNat_natCast,hx]
 refine wpAny_bind (wpAny_setField ho hd (by simp) (wpAny_pure ⟨x,rfl,wpAny_pure (hQ _ ?_ (Heap.SameBut.update ..))⟩))
 exact⟨_,Heap.get?_update_self _ ho (Obj.isFreed_of_fields (Obj.data_mapFields hd _)),(Obj.cls_mapFields ..).trans hc,by
  rw[Obj.data_mapFields hd];simp[rawInt]⟩
theorem zeB {it t:Addr}{i:Nat}{items:Array Value}{Q:Value->Shared->Prop}(hh:A.handled=none)(hit:s.heap.IsTupleIter it t i)(ht:s.heap.IsTuple t items)(hx:items[i]?=none)
  (hE:∀h' e,Heap.ExtBut it s.heap h'->(∃o,h'.get? e=some o/\o.cls=.type "StopIteration")->E (.ref e) {s with heap:=h'}):wpAny (model prog w) A (Builtin.SmallTypes.nextOf (.ref it)) Q E s:=by
 obtain⟨o,ho,hc,hd⟩:=id hit
 obtain⟨ol,hol,_,nl,hdl⟩:=ht
 unfold Builtin.SmallTypes.nextOf
 refine wpAny_bind (wpAny_callSpecial?_slot (name:=Str.ofString "__next__") hit.typeIs PySem.F.slot_tuple_iterator_next
  (wpAny_call_entry PySem.F.slot_tuple_iterator_next hit.typeIs PySem.F.entry_tuple_iterator_next ?_ (PySem.F.args_tuple_iterator_next_1 _)))
 show wpAny _ _ (field (.ref it) 0 >>= _) _ _ s
 refine wpAny_bind (wpAny_field ho hd (x:=.ref t) rfl ?_)
 show wpAny _ _ (if (Value.ref t == Value.none)=true then _ else _) _ _ s
 rw[if_neg (show ¬((Value.ref t == Value.none)=true) from Bool.false_ne_true)]
 show wpAny _ _ (field (.ref it) 1 >>= _) _ _ s
 refine wpAny_bind (wpAny_field ho hd (x:=.int i 0) rfl ?_)
 show wpAny _ _ (seqItems? (.ref t) >>= _) _ _ s
 refine wpAny_bind (wpAny_seqItems hol hdl ?_)
 simp only[Int.toNat_natCast,hx]
 first|refine wpAny_bind (wpAny_rule (wpAny_bind (wpAny_setField ho hd (by simp) ?_)))|refine wpAny_bind (wpAny_setField ho hd (by simp) ?_)
 show wpAny _ _ (newExc (.type "StopIteration") [] >>= _) _ _ _
 refine wpAny_bind ?_
 simp only[newExc,newTuple]
 refine wpAny_bind (wpAny_newObj_type ?_ (by size_fits))
 refine wpAny_bind (m:=firstArgMember _ _) (wpAny_of_eq (a:=Value.none) (by first|rfl|(simp only[firstArgMember];rfl)) ?_)
 refine wpAny_newObj_type ?_ (by size_fits)
 simp only[raiseNew]
 refine wpAny_bind (wpAny_handled ?_)
 first|rw[show A.in1.handled=none from hh]|rw[hh]
 refine wpAny_bind (wpAny_pure (wpAny_throw ?_))
 exact hE _ _ (((Heap.SameBut.update ..).extBut.push _).push _) ⟨_,Heap.get?_push_size _ rfl,rfl⟩
end
theorem zh3 {prog:Program}{w:World}{A:Around}{E:Value->Shared->Prop}{s:Shared}{e it t:Addr}{i:Nat}{items:Array Value}{old:Value}{Q:Option Value->Shared->Prop}(hh:A.handled=none)(he:IsEnum s.heap e it i old)(hit:s.heap.IsTupleIter it t i)(ht:s.heap.IsTuple t items)(hx:items[i]?=none)
  (hQ:∀h',Heap.ExtBut it s.heap h'->Q none {s with heap:=h'}):wpAny (model prog w) A (pyNext (.ref e)) Q E s:=by
 have hT:s.TypeIs (.ref e) "enumerate":=⟨_,he,rfl⟩
 unfold pyNext
 refine wpAny_bind (wpAny_attempt (wpAny_callSpecial?_slot (name:=Str.ofString "__next__") hT PySem.F.slot_enumerate_next
  (wpAny_call_entry PySem.F.slot_enumerate_next hT PySem.F.entry_enumerate_next ?_ (PySem.F.args_enumerate_next_1 _))))
 show wpAny _ _ (field (.ref e) 2 >>= _) _ _ _
 refine wpAny_bind (wpAny_field he rfl (x:=.ref it) rfl ?_)
 refine wpAny_bind (zeB hh hit ht hx fun h' x he' hx'=>?_)
 obtain⟨o,ho,hc⟩:=hx'
 refine wpAny_bind (wpAny_isInstance (T:="StopIteration") (b:=true) ⟨o,ho,hc⟩ isSubtype_stop ?_)
 exact wpAny_pure (hQ _ he')
theorem znp {prog:Program}{w:World}{A:Around}(hh:A.handled=none)(it l:Addr)(hne:l≠it)(items:Array Value) :
  Draws prog w A it [it,l] items.size (fun i v=>items[i]?=some v) (fun i h=>h.IsTupleIter it l i/\h.IsTuple l items) where
 live:=fun _ _ st=>let ⟨o,ho,_⟩:=st.1;⟨o,ho⟩
 frame:=fun _ _ _ st hk=>⟨let ⟨o,ho,r⟩:=st.1;⟨o,hk it (by simp) o ho,r⟩,let ⟨o,ho,r⟩:=st.2;⟨o,hk l (by simp) o ho,r⟩⟩
 item:=fun i s Q E hi st hQ=>by
  refine zgu st.1 st.2 (x:=items[i]) (by simp[hi]) fun h' hit' hs'=>?_
  exact hQ _ h' s.toks (by simp[hi]) ⟨hit',st.2.extBut hs'.extBut hne⟩ hs'
 done:=fun s Q E st hE=>zeB hh st.1 st.2 (by simp) hE
theorem zh2 (l:Addr)(items:Array Value)(n:Nat)(dct:Option Addr)(sl:Array (Option Value)) :
  Meets (Builtin.«enumerate.__new__» ⟨[.type "enumerate",.ref l],[]⟩) (fun _ R s=>s.heap.get? l=some {cls:=.type "tuple",dict:=dct,data:=.seq items n,slots:=sl}/\
   R (.ok (.ret (.ref (s.heap.push {cls:=.type "tuple_iterator",data:=.fields #[.ref l,.int 0 0]}).objs.size)))
    {s with heap:=(s.heap.push {cls:=.type "tuple_iterator",data:=.fields #[.ref l,.int 0 0]}).push {cls:=.type "enumerate",data:=.fields #[.none,.bool false,.ref s.heap.objs.size,rawInt 0,.none,.none]}}):=
 .of_wp fun prog w A R s h=>by
  obtain⟨hp,g,d,tk,os⟩:=s;obtain⟨hl,h⟩:=h
  have hsub:=sub_enumerate
  have hL:Heap.IsTuple (Shared.heap ⟨hp,g,d,tk,os⟩) l items:=⟨_,hl,rfl,n,rfl⟩
  wp_walk using wpAny_loadPart' hl
  refine wpAny_stack_any fun st=>wpAny_pure ?_
  split
  · rename_i c _ _ _ _ _
    cases (c == Value.type "enumerate")
    · wp_walk using wpAny_loadPart' hl,wpAny_pyIter_tuple hL
      exact⟨_,rfl,h⟩
    · wp_walk using wpAny_loadPart' hl,wpAny_pyIter_tuple hL
      exact⟨_,rfl,h⟩
  · wp_walk using wpAny_loadPart' hl,wpAny_pyIter_tuple hL
    exact⟨_,rfl,h⟩
theorem zgJ {prog:Program}{w:World}{A:Around}{E:Value->Shared->Prop}{s:Shared}{l:Addr}{items:Array Value}{Q:Value->Shared->Prop}(hL:s.heap.IsTuple l items)
  (h:∀h',IsEnum h' (s.heap.objs.size+1) s.heap.objs.size 0 .none->h'.IsTupleIter s.heap.objs.size l 0->h'.objs.size=s.heap.objs.size+2->
   (∀b o,s.heap.get? b=some o->h'.get? b=some o)->Q (.ref (s.heap.objs.size+1)) {s with heap:=h'}) :
  wpAny (model prog w) A (call (.type "enumerate") [.ref l]) Q E s:=by
 obtain⟨⟨c,dct,dt,sl⟩,hl,hc,n,hd⟩:=hL
 replace hc:c=.type "tuple":=hc
 replace hd:dt=.seq items n:=hd
 subst hc hd
 refine callType_new PySem.F.called_enumerate (by decide) (PySem.F.typeCall_enumerate_1 _) (PySem.F.newCall_enumerate_1 _) (fun obj=>PySem.F.args_object_init_2 obj _) PySem.F.entry_enumerate_new
  (zh2 l items n dct sl) ⟨hl,?_⟩
 have hz:(s.heap.push {cls:=.type "tuple_iterator",data:=.fields #[.ref l,.int 0 0]}).objs.size=s.heap.objs.size+1:=Heap.size_push ..
 show _/\_
 rw[hz]
 have he:IsEnum ((s.heap.push {cls:=.type "tuple_iterator",data:=.fields #[.ref l,.int 0 0]}).push
   {cls:=.type "enumerate",data:=.fields #[.none,.bool false,.ref s.heap.objs.size,rawInt 0,.none,.none]}) (s.heap.objs.size+1) s.heap.objs.size 0 .none:=by
  have:=Heap.get?_push_size (s.heap.push {cls:=.type "tuple_iterator",data:=.fields #[.ref l,.int 0 0]})
   (o:={cls:=.type "enumerate",data:=.fields #[.none,.bool false,.ref s.heap.objs.size,rawInt 0,.none,.none]}) rfl
  rw[hz] at this;exact this
 refine⟨⟨_,he,rfl⟩,h _ he ⟨_,Heap.get?_push_of_some _ (Heap.get?_push_size _ rfl),rfl,rfl⟩ (by rw[Heap.size_push,hz]) fun b o x=>Heap.get?_push_of_some _ (Heap.get?_push_of_some _ x)⟩
variable [Mks]
section
variable {T:Tab} {cf:CF} {k:Nat} {N:List Str} {sc:Scope} {X:Cx} {pos p:Pos} {tg:Expr}
noncomputable def IteT (K:PySem.W.Frag)(a:Addr):It:=
 ⟨fun i H => ∃ xs x, SqT K H a xs ∧ xs[i]? = some x,
  fun i H v H'=>∃T x,H T=none/\v=.ref T/\H'=upd H T (.tup [.int i,x])/\∀xs,SqT K H a xs->xs[i]?=some x,
  fun i H=>∃xs,SqT K H a xs/\xs.length<=i⟩
theorem zgj {P:Program}{w:World}{K:PySem.W.Frag}{es:List Expr}{j:Nat}{pt:Pos}{e it a:Addr}(hne:e≠it)(hai:a≠it)(hae:a≠e):Turn P w K (.Tuple es j pt) (IteT K a) [e,it] e
  (fun i h=>(∃old,IsEnum h e it i old)/\h.IsTupleIter it a i) where
 mem:=by simp
 obj:=fun i h st c hc=>by
  obtain⟨⟨old,h1⟩,⟨o4,h4,_,d4⟩⟩:=st
  simp only[List.mem_cons,List.not_mem_nil,or_false] at hc
  rcases hc with rfl|rfl
  · exact⟨_,h1,fun v z=>by cases z⟩
  · exact⟨_,h4,fun v z=>by rw[d4] at z;cases z⟩
 keep:=fun i h h' st k=>by
  obtain⟨⟨old,h1⟩,⟨o,h4,r⟩⟩:=st
  exact⟨⟨old,k e (by simp) _ h1⟩,⟨o,k it (by simp) o h4,r⟩⟩
 item:=by
  intro X hP hw hK hc i pins s σ H E I hf st hg
  subst hP hw hK
  obtain⟨xs,x,hq,hx⟩:=hg
  obtain⟨xv,rx,px,_⟩:=I.tuple hq
  obtain⟨u,hu,ru⟩:=rx.get hx
  obtain⟨⟨old,he⟩,h1⟩:=st
  have hlt:i<xv.length:=(List.getElem?_eq_some_iff.mp hu).1
  refine wpAny_pyNext_enum_itemD (n:=xv.toArray.size) (znp (A:=X.A.in1) (I.ok.hd hc) it a hai xv.toArray) he ⟨h1,px⟩ (by simpa using hlt) hne (by simp[hne,Ne.symm hae]) fun x' h' tk0 hx' a1 a3 a5 a6 hk=>?_
  have ex:x'=u:=by
   have hu':xv.toArray[i]?=some u:=by simpa using hu
   rw[hu'] at hx';exact (Option.some.inj hx').symm
  subst ex
  have hn:H s.heap.objs.size=none:=I.hok.fresh (Nat.le_refl _)
  have I1:Inv X pins σ (upd H s.heap.objs.size (.tup [.int i,x])) {s with heap:=s.heap.push {cls:=.type "tuple",data:=.seq #[.int i tk0,x']},toks:=tk0+1}:=
   I.laid (t':=tk0+1) (fun b u e=>Heap.get?_push_of_some _ e) (Nat.le_refl _) ⟨by rw[sizeLine_eq];simp,[.int i tk0,x'],.cons ⟨_,rfl⟩ (.cons ru .nil),⟨_,Heap.get?_push_size _ rfl,rfl,_,rfl⟩⟩
  have lt:∀{c o},s.heap.get? c=some o->c≠s.heap.objs.size:=fun e=>Nat.ne_of_lt (Heap.lt_size e)
  have nf:∀c∈[e,it],c≠s.heap.objs.size:=by
   intro c hc
   simp only[List.mem_cons,List.not_mem_nil,or_false] at hc
   rcases hc with rfl|rfl
   · exact lt he
   · obtain⟨o,z,_⟩:=h1;exact lt z
  have hf1:∀c∈[e,it],FpOk X pins (upd H s.heap.objs.size (.tup [.int i,x])) c:=fun c hc=>by
   obtain⟨f0,f⟩:=hf c hc
   exact⟨by rw[zam (nf c hc)];exact f0,f⟩
  have two:∀{c:Addr},¬c∈[e,it]->c≠e/\c≠it:=fun {c} hc=>by
   simp only[List.mem_cons,List.not_mem_nil,or_false,not_or] at hc
   exact hc
  have k2:∀c o,¬c∈[e,it]->(s.heap.push {cls:=.type "tuple",data:=.seq #[.int i tk0,x']}).get? c=some o->h'.get? c=some o:=fun c o hc z=>by
   by_cases hs:c=s.heap.objs.size
   · subst hs
     have e2:(s.heap.push {cls:=.type "tuple",data:=.seq #[.int i tk0,x']}).get? s.heap.objs.size=_:=Heap.get?_push_size _ rfl
     rw[e2] at z
     cases z
     exact a5
   · exact hk c o (two hc).1 (two hc).2 ((Heap.get?_push_ne _ _ _ hs).symm.trans z)
  have I2:Inv X pins σ (upd H s.heap.objs.size (.tup [.int i,x])) {s with heap:=h',toks:=tk0+1}:=zbe (s:={s with heap:=s.heap.push {cls:=.type "tuple",data:=.seq #[.int i tk0,x']},toks:=tk0+1}) (h':=h') (t':=tk0+1) I1 k2 hf1
  refine⟨_,rfl,?_⟩
  refine wpAny_letOwnedTupleGo_enum a1 fun h2' hz' hs'=>?_
  refine⟨.ref s.heap.objs.size,upd H s.heap.objs.size (.tup [.int i,x]),zbe (t':=tk0+1) I2 (fun c o hc z=>hs'.extBut _ _ (two hc).1 z) hf1,rfl,⟨_,x,hn,rfl,rfl,fun xs' hx'=>by rw[I.tuple_inj hx' hq];exact hx⟩,
   ⟨⟨_,hz'⟩,(let ⟨o,ho,r⟩:=a3.1;⟨o,hs'.extBut _ _ (Ne.symm hne) ho,r⟩)⟩,fun c hc=>(hf1 c hc).1⟩
 done:=by
  intro X hP hw hK hc i pins s σ H E I hf st hg
  subst hP hw hK
  obtain⟨xs,hq,hl⟩:=hg
  obtain⟨xv,rx,px,_⟩:=I.tuple hq
  obtain⟨⟨old,he⟩,h1⟩:=st
  have l1:=rx.length
  refine zh3 (I.ok.hd hc) he h1 px (by simp;omega) fun h' hk=>⟨rfl,zbe (t':=s.toks) I (fun c o hc z=>hk c o (fun q=>hc (by simp[q])) z) hf⟩
 self:=fun _ _ _ _ _ st h=>wpAny_pyIter_enum st.1.choose_spec h
noncomputable def zne (K:PySem.W.Frag)(t:TA):TI:=fun σ H R=>t σ H fun vs H1=>∃a xs,vs=[.ref a]/\((SqL K H1 a xs/\R (Ite K a) H1)\/(SqT K H1 a xs/\R (IteT K a) H1))
theorem ziV {a:Expr}{ta:TA}{p pos pt:Pos}{es:List Expr}{j:Nat}(hg:Gl X "enumerate")(hm:X.mg "enumerate"=none)(ha:PA X [a] ta)(hs:starEach [a] X.env=[(false,eval a X.env)]) :
  PI X (.Tuple es j pt) (.Call (.Name "enumerate" p) [a] [] pos) (zne X.K ta):=by
 intro pins s σ H R I h
 refine Call_ (zdw I hg hm boot_enumerate (PyProof.Rows.callWith_type1 (thn (ha pos pins s σ H _ I h) fun us s1 ⟨vs,H1,I1,r1,q1⟩=>?_) hs rfl))
 obtain⟨l,xs,e,q1⟩:=q1
 subst e
 cases r1 with
 | cons r rr =>
   cases rr
   cases r
   rcases q1 with ⟨q1,q⟩|⟨q1,q⟩
   · obtain⟨xv,rx,px,_⟩:=I1.list q1
     refine call_enumerate_list px.isList fun h' he hi hsz hk=>?_
     refine wpAny_pyIter_enum he ?_
     refine⟨_,_,_,_,H1,rfl,I1.kept (t':=s1.toks) hk,zgY (Nat.succ_ne_self _),⟨⟨_,he⟩,hi⟩,fun c hc=>?_,q⟩
     simp only[List.mem_cons,List.not_mem_nil,or_false] at hc
     have:s1.heap.objs.size<=c:=by
      rcases hc with rfl|rfl
      · exact Nat.le_succ _
      · exact Nat.le_refl _
     exact I1.fpOk this (I1.hok.fresh this)
   · obtain⟨xv,rx,px,_⟩:=I1.tuple q1
     have hlt:l<s1.heap.objs.size:=px.lt
     refine zgJ (show s1.heap.IsTuple l xv.toArray from px) fun h' he hi hsz hk=>?_
     refine wpAny_pyIter_enum he ?_
     refine⟨_,_,_,_,H1,rfl,I1.kept (t':=s1.toks) hk,zgj (Nat.succ_ne_self _) (Nat.ne_of_lt hlt) (Nat.ne_of_lt (Nat.lt_succ_of_lt hlt)),⟨⟨_,he⟩,hi⟩,fun c hc=>?_,q⟩
     simp only[List.mem_cons,List.not_mem_nil,or_false] at hc
     have:s1.heap.objs.size<=c:=by
      rcases hc with rfl|rfl
      · exact Nat.le_succ _
      · exact Nat.le_refl _
     exact I1.fpOk this (I1.hok.fresh this)
theorem zit {K:PySem.W.Frag}{ι:List Addr}{H:Hp}{S:R.St}{a:Addr}{ds:List D}{xs:List V}(ha:H a=some (.tup xs))(rx:RVs K ι H ds xs):Wk K (IteT K a) (ds.mapIdx fun i d=>zcl (.int i) d) [] ι H S:=by
 have get:∀{ι2 H2 S2},Ltr K ι H S [] ι2 H2 S2->SqT K H2 a xs/\RVs K ι2 H2 ds xs:=fun {ι2 H2 S2} lt=>⟨SqT.of (lt.ext.kp.tups _ _ ha),rx.ext lt.ext⟩
 refine⟨fun i ι2 H2 S2 lt hi=>?_,fun i ι2 H2 S2 x H' lt hi y=>?_,fun i ι2 H2 S2 lt hi=>?_,fun k hk=>by cases hk⟩
 · obtain⟨hx,rx⟩:=get lt
   rw[List.length_mapIdx] at hi
   have h1:=rx.length
   exact⟨xs,xs[i]'(by omega),hx,List.getElem?_eq_getElem _⟩
 · obtain⟨hx,rx⟩:=get lt
   obtain⟨T,u,hT,rfl,rfl,y1⟩:=y
   obtain⟨d,ed,rd⟩:=rx.get' (y1 xs hx)
   have x2:Ext ι2 H2 ι2 (upd H2 T (.tup [.int i,u])):=Ext.new hT _
   refine⟨x2,lt.rh.new hT _,zcl (.int i) d,by rw[List.getElem?_mapIdx,ed];rfl,?_⟩
   exact⟨T,[.int i,u],rfl,zaq,.int i,[u],rfl,rfl,u,[],rfl,rd.ext x2,rfl⟩
 · obtain⟨hx,rx⟩:=get lt
   rw[List.length_mapIdx] at hi
   have h1:=rx.length
   exact⟨xs,hx,by omega⟩
theorem zgE {S:R.St}{x:D}{r:List D × List Nat}(h:zdD S x=some r):(∃l ds,x=.ref l/\S.get l=some (.lst ds)/\r=(ds.mapIdx fun i d=>zcl (.int i) d,[l]))\/∃ds,x=.tup ds/\r=(ds.mapIdx fun i d=>zcl (.int i) d,[]):=by
 unfold zdD at h
 cases x with
 | ref l =>
   dsimp only at h
   cases e:S.get l with
   |none=>rw[e] at h;cases h
   | some o =>
     rw[e] at h
     cases o with
     |lst ds=>cases h;exact .inl ⟨l,ds,rfl,e,rfl⟩
     |_=>cases h
 |tup ds=>cases h;exact .inr ⟨ds,rfl,rfl⟩
 |_=>cases h
theorem zkg {ca:CE}{a:Expr}{es:List Expr}{j:Nat}{pt:Pos}(hg:Gl X "enumerate"/\X.mg "enumerate"=none)(ha:PE X a (tE X.K cf ca))(hst:zaj a=true):PI X (.Tuple es j pt) (.Call (.Name "enumerate" p) [a] [] pos) (tI X.K cf (.enum ca)):=by
 refine PI.imp (ziV hg.1 hg.2 (za3 ha hst) (zak hst [] X.env)) fun σ H R ⟨δ,ι,S,Q,hs,hh,w,q⟩=>?_
 simp only[evL,zaa] at w
 refine tE.run hs hh w fun d v ι1 H1 S1 x1 hs1 hh1 r1 w1=>?_
 obtain⟨r,ez,w3⟩:=zaR w1
 rcases zgE ez with ⟨l,ds,rfl,hl,rfl⟩|⟨ds,rfl,rfl⟩
 · obtain⟨a,ea,rfl⟩:=r1
   obtain⟨a',h2,xs,hx,rx⟩:=hh1.obj l _ hl
   rw[ea] at h2;cases h2
   exact⟨a,xs,rfl,.inl ⟨SqL.of hx,q _ _ ⟨_,_,ι1,S1,x1,hh1,w3,zj0 hl ea⟩⟩⟩
 · obtain⟨a,xs,rfl,hx,rx⟩:=r1
   exact⟨a,xs,rfl,.inr ⟨SqT.of hx,q _ _ ⟨_,_,ι1,S1,x1,hh1,w3,zit hx rx⟩⟩⟩
end
end R
end
section
namespace R
open PySem PySem.Spec PyProof.Rows L2
variable [Mks]
section
variable {T:Tab} {cf:CF} {k:Nat} {N:List Str} {sc:Scope} {X:Cx} {pos p:Pos}
theorem zjE (D:Addr):zbb X (.builtin "isinstance") (fun xs H Q=>∃a C dx fs b,xs=[.ref a,.ref D]/\H a=some (.ins C dx fs)/\Cls X.K C/\IsaOk X.K C/\PySem.W.kitOne X.K (.ref C) (.ref D)=some b/\Q (.bl b) H):=by
 intro pins s σ H xs us Q I r h
 obtain⟨a,C,dx,fs,b,rfl,ha,hc,ok,hk,q⟩:=h
 obtain⟨u,w',rfl,rx,rc⟩:=ziw r
 cases (show w'=Value.ref D from rc)
 exact zeK I rx (.ins ha hc ok.ha ok.hn ok.ht ok.hm) hk fun tk=>⟨.bl b,H,I.tok tk,rfl,q⟩
theorem zma (G:Gd T cf k N sc X){cs:List Nat}{x:Str}{p2:Pos}{ce:CE}{e:Expr}(hg:Gl X "isinstance"/\X.mg "isinstance"=none)(hx:isGl sc x=true)(hd:(x == ("__debug__":Str))=false)(hi:T.isas.contains (x,cs)=true)
  (he:PE X e (tE X.K cf ce)) (hst:zaj e=true):PE X (.Call (.Name "isinstance" p) [e,.Name x p2] [] pos) (tE X.K cf (.isc cs x ce)):=by
 obtain⟨D,hm,hD⟩:=G.tab.isa x cs hi
 refine PE.imp (zbP (zjE D) hg.1 hg.2 zch (zb8 he (zb8 (zfj (v:=.ref D) (G.gl hx) hm rfl hd) zfS) (zak hst _ X.env)) (by decide) (by decide) (zak hst _ X.env)) fun σ H Qv ⟨δ,ι,S,Q,hs,hh,w,q⟩=>?_
 simp only[evE,zaa] at w
 refine tE.run hs hh w fun d v ι1 H1 S1 x1 hs1 hh1 r1 w1=>?_
 obtain⟨pr,ei,w2⟩:=zaR w1
 obtain⟨c,fs⟩:=pr
 obtain⟨l,rfl,hl⟩:=zc1 ei
 obtain⟨b,i1,rfl⟩:=r1
 obtain⟨b',i2,C,dx,ws,hC,hb,rf⟩:=hh1.obj l _ hl
 rw[i1] at i2;cases i2
 obtain⟨_,_,cl,_,_⟩:=G.clsAt (.inr (.inr (ne_of hi))) hC
 obtain⟨ok,kit⟩:=hD c C hC
 exact⟨b,C,dx,ws,_,rfl,hb,cl,ok,kit,q _ _ (Lf.up x1 (Lf.of (d:=.bl _) hh1 rfl w2))⟩
theorem zmf {ca:CE}{o:Expr}{apos cpos:Pos}(ho:PE X o (tE X.K cf ca))(hsup:zbr o=true)(hl:(apos.endLine == cpos.line)=true) :
  PE X (.Call (.Attribute o "clear" apos) [] [] cpos) (tE X.K cf (.clr ca)):=by
 refine PE.imp (zmI PySem.F.plainAttrs_list PySem.F.slot_list_clear PySem.F.type_list_clear zjc ho (zcA hsup "clear" X.env _) hl) fun σ H Qv ⟨δ,ι,S,Q,hs,hh,w,q⟩=>?_
 simp only[evE,zaa] at w
 refine tE.run hs hh w fun d v ι1 H1 S1 x1 hs1 hh1 r1 w1=>?_
 split at w1
 · rename_i c
   refine⟨zhL hh1 r1 c,?_⟩
   cases d with
   | ref l =>
     obtain⟨a,h1,rfl⟩:=r1
     dsimp only at w1
     cases e:S1.get l with
     |none=>simp[isL,e] at c
     | some o =>
       cases o with
       | lst es =>
         obtain⟨b',h2,zs,ha,rz⟩:=hh1.obj _ _ e
         rw[h1] at h2;cases h2
         obtain⟨c2,S',hp,w3⟩:=zis w1
         exact⟨a,zs,rfl,rfl,ha,q _ _ (Lf.up x1 (Lf.wr (d:=.non) (xs:=[]) hh1 e h1 hp rfl rfl w3))⟩
       |_=>simp[isL,e] at c
   |_=>exact w1.elim
 · exact w1.elim
end
end R
end
section
namespace R
open PySem PySem.Spec PyProof.Rows L2
variable [Mks]
noncomputable def LfS (K:PySem.W.Frag)(ι:List Addr)(H:Hp)(Q:Fl->R.St->Prop)(E:Ends):Prop:=∀f ι' H' S',Ext ι H ι' H'->RH K ι' H' S'->Q f S'->(match f with
 |.nx δ'=>∀σ',RS K ι' H' δ' σ'->E.nx σ' H'
 |.rt d=>∀v,RV K ι' H' d v->E.rt v H')
noncomputable def tS (K:PySem.W.Frag)(cf:CF)(cs:CS):TS:=fun E σ H=>∃δ ι S Q,RS K ι H δ σ/\RH K ι H S/\W (exS cf cs δ S) Q/\LfS K ι H Q E
theorem LfS.up {K:PySem.W.Frag}{ι ι1:List Addr}{H H1:Hp}{Q:Fl->R.St->Prop}{E:Ends}(h:LfS K ι H Q E)(x:Ext ι H ι1 H1):LfS K ι1 H1 Q E:=fun f ι' H' S' x' hh q=>h f ι' H' S' (x.trans x') hh q
theorem PSs.imp {X:Cx}{st:List Stmt}{t t':TS}(h:PSs X st t)(i:∀E σ H,t' E σ H->t E σ H):PSs X st t':=fun pins s σ H E I q=>h pins s σ H E I (i E σ H q)
section
variable {T:Tab} {cf:CF} {k:Nat} {N:List Str} {sc:Scope} {X:Cx} {pos p:Pos} {rest:List Stmt}
theorem zlW:PSs X [] (tS X.K cf .nil):=PSs.imp zkG fun E σ H ⟨δ,ι,S,Q,hs,hh,w,l⟩=>by
 simp only[exS,W_ok] at w
 exact l _ ι H S (Ext.refl _ _) hh w σ hs
theorem zlY (G:Gd T cf k N sc X){i:Nat}{x:Str}{ce:CE}{e:Expr}{r:CS}(hi:N[i]?=some x)(hl:zeL sc x=true)(he:PE X e (tE X.K cf ce))(hc:zbm e=true)(hr:PSs X rest (tS X.K cf r)) :
  PSs X (.Assign [.Name x p] e pos::rest) (tS X.K cf (.asg i ce r)):=by
 refine PSs.imp (zbc (zjP (i:=i) (by rw[G.nm];exact G.nd) (by rw[G.nm];exact hi) (G.lc hl).1 he (zdL hc _ _ _) (G.lc hl).2) hr) fun E σ H ⟨δ,ι,S,Q,hs,hh,w,l⟩=>?_
 simp only[exS,zaa] at w
 refine tE.run hs hh w fun d v ι1 H1 S1 x1 hs1 hh1 r1 w1=>?_
 exact⟨δ.set i (some d),ι1,S1,Q,hs1.set r1 i,hh1,w1,l.up x1⟩
theorem zka (G:Gd T cf k N sc X){i:Nat}{x:Str}{ce:CE}{e:Expr}{r:CS}(hi:N[i]?=some x)(hps:∃t,PS X (.Assign [.Name x p] e pos) (tAsg t (zhY i))/\∀σ H Qv,tE X.K cf ce σ H Qv->t σ H Qv)(hr:PSs X rest (tS X.K cf r)) :
  PSs X (.Assign [.Name x p] e pos::rest) (tS X.K cf (.asg i ce r)):=by
 obtain⟨t,hp,ht⟩:=hps
 refine PSs.imp (zbc hp hr) fun E σ H ⟨δ,ι,S,Q,hs,hh,w,l⟩=>?_
 simp only[exS,zaa] at w
 refine ht _ _ _ (tE.run hs hh w fun d v ι1 H1 S1 x1 hs1 hh1 r1 w1=>?_)
 exact⟨δ.set i (some d),ι1,S1,Q,hs1.set r1 i,hh1,w1,l.up x1⟩
theorem zj8 {ce:CE}{e:Expr}{r:CS}(he:PE X e (tE X.K cf ce))(hc:zbm e=true)(hr:PSs X rest (tS X.K cf r)):PSs X (.Expr e pos::rest) (tS X.K cf (.expr ce r)):=by
 refine PSs.imp (zbc (zkI he (zdL hc _ _ _)) hr) fun E σ H ⟨δ,ι,S,Q,hs,hh,w,l⟩=>?_
 simp only[exS,zaa] at w
 refine tE.run hs hh w fun d v ι1 H1 S1 x1 hs1 hh1 r1 w1=>?_
 exact⟨δ,ι1,S1,Q,hs1,hh1,w1,l.up x1⟩
theorem zlV {ce:CE}{e:Expr}{r:CS}(he:PE X e (tE X.K cf ce))(hr:PSs X rest (tS X.K cf r)):PSs X (.Return (some e) pos::rest) (tS X.K cf (.ret ce r)):=by
 refine PSs.imp (zbc (zmu he) hr) fun E σ H ⟨δ,ι,S,Q,hs,hh,w,l⟩=>?_
 simp only[exS,zaa,W_ok] at w
 refine tE.run hs hh w fun d v ι1 H1 S1 x1 hs1 hh1 r1 w1=>?_
 exact l _ _ _ _ x1 hh1 w1 v r1
theorem znX {cc:CE}{c:Expr}{a b:List Stmt}{ca cb r:CS}(hc:PT X c (tT X.K cf cc))(ha:PSs X a (tS X.K cf ca))(hb:PSs X b (tS X.K cf cb))(hr:PSs X rest (tS X.K cf r)):PSs X (.If c a b pos::rest) (tS X.K cf (.ifS cc ca cb r)):=by
 refine PSs.imp (zbc (zn7 hc ha hb) hr) fun E σ H ⟨δ,ι,S,Q,hs,hh,w,l⟩=>?_
 simp only[exS,zaa] at w
 refine tT.run hs hh w fun z ι1 H1 S1 x1 hs1 hh1 w1=>?_
 have fin:LfS X.K ι1 H1 (fun f S2=>W (match f with|.nx δ'=>exS cf r δ' S2|.rt d=>.ok (.rt d) S2) Q) {E with nx:=tS X.K cf r E}:=by
  intro f ι2 H2 S2 x2 hh2 q
  cases f with
  |nx δ'=>exact fun σ' hs'=>⟨δ',ι2,S2,Q,hs',hh2,q,(l.up x1).up x2⟩
  |rt d=>exact fun v rv=>(l.up x1) _ _ _ _ x2 hh2 q v rv
 cases z with
 |true=>exact⟨δ,ι1,S1,_,hs1,hh1,w1,fin⟩
 |false=>exact⟨δ,ι1,S1,_,hs1,hh1,w1,fin⟩
noncomputable def FInv (K:PySem.W.Frag)(cf:CF)(g:List Nat)(b:CS)(Qf:Fl->R.St->Prop)(ds:List D)(lks:List Nat)(ι1:List Addr)(H1:Hp)(S1:R.St)(i:Nat)(σ':L2.St)(H':Hp):Prop:=
 i<=ds.length/\∃δ' ι' S',RS K ι' H' δ' σ'/\Ltr K ι1 H1 S1 lks ι' H' S'/\S'.lk=lks++S1.lk/\S1.len<=S'.len/\W (zbo g (exS cf b) (ds.drop i) δ' S') fun f S2=>Qf f {S2 with lk:=S1.lk}
theorem zlX (G:Gd T cf k N sc X){is:List Nat}{it:CL}{cb r:CS}{tg iter:Expr}{body:List Stmt}(hi:PI X tg iter (tI X.K cf it))(hg:PG X tg (tG X.K is))(hb:PSs X body (tS X.K cf cb))(hset:zbX iter=true)(hr:PSs X rest (tS X.K cf r)) :
  PSs X (.For tg iter body [] pos::rest) (tS X.K cf (.forS is it cb r)):=by
 have hp:PassesOwn (model X.prog X.w) X.A X.env X.xe:=by rw[G.xe];exact PassesOwn.never
 refine PSs.imp (zbc (zmv hp G.calm hi hg hb (zfr hset X.env)) hr) fun E σ H ⟨δ,ι,S,Q,hs,hh,w,l⟩=>?_
 simp only[exS,zaa] at w
 refine⟨δ,ι,S,_,hs,hh,w,fun J H1 ⟨ds,lks,ι1,S1,x1,hh1,w1,wk⟩=>?_⟩
 dsimp only at w1
 unfold zbh at w1
 rw[zaa] at w1
 simp only[W_ok] at w1
 refine⟨fun i m σ' H'=>m=ds.length - i/\FInv X.K cf is cb (fun f S2=>W (match f with|.nx δ'=>exS cf r δ' S2|.rt d=>.ok (.rt d) S2) Q) ds lks ι1 H1 S1 i σ' H',⟨_,rfl,Nat.zero_le _,δ,ι1,{S1 with lk:=lks++S1.lk},hs.ext x1,⟨Ext.refl _ _,hh1.lk _,fun l _=>rfl⟩,rfl,Nat.le_refl _,w1⟩,?_⟩
 rintro i m σ' H' ⟨rfl,hle,δ',ι',S',hs',lt,hlk,hln,wt⟩
 have l1:=l.up (x1.trans lt.ext)
 rcases Nat.lt_or_eq_of_le hle with hlt|rfl
 · refine .inr ⟨wk.go i ι' H' S' lt hlt,FInv X.K cf is cb _ ds lks ι1 H1 S1 (i+1),fun σ2 H2 h=>⟨_,by omega,rfl,h⟩,fun x H2 hy=>?_⟩
   obtain⟨x2,hh2,d,hd,rd⟩:=wk.yld i ι' H' S' x H2 lt hlt hy
   rw[zeT hd] at wt
   simp only[zbo] at wt
   cases ea:asgG is d δ' with
   |none=>rw[ea] at wt;exact wt.elim
   | some δ2 =>
     rw[ea] at wt
     dsimp only at wt
     rw[zaa] at wt
     refine⟨δ',ι',d,δ2,hs'.ext x2,rd,ea,fun σ2 hs3=>⟨δ2,ι',S',_,hs3,hh2,zc7 G.tab.frm cb δ2 S' _ wt,?_⟩⟩
     rintro f ι3 H3 S3 x3 hh3 ⟨w3,f3⟩
     have k1:S3.lk=lks++S1.lk:=f3.lk.trans hlk
     have k3:∀l∈lks,S3.get l=S1.get l:=fun l hl=>(f3.same l (by rw[hlk];exact List.mem_append_left _ hl) (Nat.lt_of_lt_of_le (wk.lks l hl) hln)).trans (lt.lck l hl)
     cases f with
     |nx δ3=>exact fun σ3 hs4=>⟨hlt,δ3,ι3,S3,hs4,⟨(lt.ext.trans x2).trans x3,hh3,k3⟩,k1,Nat.le_trans hln f3.lens,w3⟩
     |rt z=>exact fun v rv=>l1 _ _ _ _ (x2.trans x3) (hh3.lk _) w3 v rv
 · refine .inl ⟨wk.stop _ ι' H' S' lt (Nat.le_refl _),?_⟩
   rw[List.drop_length] at wt
   simp only[zbo,W_ok] at wt
   exact⟨δ',ι',{S' with lk:=S1.lk},Q,hs',lt.rh.lk _,wt,l1⟩
noncomputable def zoD (H:Hp)(a:Addr)(y v:V)(H':Hp):Prop:=DPut H a y v H'\/∃kxs k c,H a=some (.ext (TriO a kxs))/\TriK H kxs/\y=.ref c/\Key3 H k c/\kxs.length<sizeLine/\H'=upd H a (.ext (TriO a (put3 kxs k c v)))
noncomputable def zmk (td ty tv:TE):TS:=fun D σ H=>tv σ H fun v H1=>td σ H1 fun x H2=>ty σ H2 fun y H3=>∃a H4,x=.ref a/\zoD H3 a y v H4/\D.nx σ H4
theorem ziS {o i value:Expr}{td ty tv:TE}{pos':Pos}(hu:X.A.units+5<cLine)(ho:PE X o td)(hi:PE X i ty)(hv:PE X value tv)(hs:swapsWith value (some (.Subscript o i pos')) pos.line X.env=pure false) :
  PS X (.Assign [.Subscript o i pos'] value pos) (zmk td ty tv):=by
 intro pins s σ H D I h
 refine wpAny_Assign_Subscript (thn (hv pins s σ H _ I h) fun r s1 ⟨v,H1,I1,rv,q1⟩=>thn (ho pins s1 σ H1 _ I1 q1) fun u s2 ⟨x,H2,I2,rx,q2⟩=>thn (hi pins s2 σ H2 _ I2 q2) fun iv s3 ⟨y,H3,I3,ry,a,H4,ex,g,q3⟩=>?_) hs
 subst ex
 obtain rfl:u=Value.ref a:=rx
 rcases g with g|⟨kxs,k,c,e,tk,rfl,ek,hl,rfl⟩
 · exact zic (by omega) I3 g ry rv fun s4 I4=>⟨σ,H4,I4,q3⟩
 · obtain rfl:iv=Value.ref c:=ry
   exact zgG hu I3 e tk ek hl rv fun s4 I4=>⟨σ,_,I4,q3⟩
theorem zix (G:Gd T cf k N sc X){ca cb ce:CE}{a b e:Expr}{r:CS}(ha:PE X a (tE X.K cf ca))(hb:PE X b (tE X.K cf cb))(he:PE X e (tE X.K cf ce))(hc:zbm e=true)(hr:PSs X rest (tS X.K cf r)) :
  PSs X (.Assign [.Subscript a b p] e pos::rest) (tS X.K cf (.setIx ca cb ce r)):=by
 refine PSs.imp (zbc (ziS (by have:=G.hu;omega) ha hb he (zdL hc _ _ _)) hr) fun E σ H ⟨δ,ι,S,Q,hs,hh,w,l⟩=>?_
 simp only[exS,zaa] at w
 refine tE.run hs hh w fun d v ι1 H1 S1 x1 hs1 hh1 r1 w1=>?_
 refine tE.run hs1 hh1 w1 fun x vx ι2 H2 S2 x2 hs2 hh2 r2 w2=>?_
 refine tE.run hs2 hh2 w2 fun y vy ι3 H3 S3 x3 hs3 hh3 r3 w3=>?_
 cases ed:dPut S3 x y d with
 |none=>rw[ed] at w3;exact w3.elim
 | some S4 =>
   rw[ed] at w3
   unfold dPut at ed
   cases x with
   | ref i =>
     obtain⟨p,h1,rfl⟩:=r2.ext x3
     dsimp only at ed
     cases e:S3.get i with
     |none=>rw[e] at ed;cases ed
     | some ob =>
       rw[e] at ed
       obtain⟨b,h2,h3⟩:=hh3.obj _ _ e
       rw[h1] at h2;cases h2
       cases ob with
       | dtp kvs =>
         obtain⟨nd,ws,ha,rk⟩:=h3
         dsimp only at ed
         cases ek:zd0 y with
         |none=>rw[ek] at ed;cases ed
         | some k =>
           rw[ek] at ed
           dsimp only[Option.bind_some] at ed
           split at ed
           · rename_i c
             obtain⟨b,rfl,hb⟩:=zm6 r3 ek
             have rv:=r1.ext (x2.trans x3)
             have xw:=Ext.wr hh3 e h1 (.dT (putK ws (kI k) v))
             refine⟨p,_,rfl,.inl <| DPut.t ha hb (by rw[rk.length,sizeLine_eq];exact c),δ,ι3,S4,Q,hs3.ext xw,hh3.wr e h1 ed ⟨zgq nd,_,zaq,?_⟩,w3,l.up (((x1.trans x2).trans x3).trans xw)⟩
             exact (rk.put k rv nd).up xw.pre xw.kp
           · cases ed
       | dic kvs =>
         obtain⟨nd,ws,ha,rk⟩:=h3
         dsimp only at ed
         cases y with
         | int k =>
           obtain rfl:vy=.int k:=r3
           dsimp only[zd2,Option.bind_some] at ed
           split at ed
           · rename_i c
             have rv:=r1.ext (x2.trans x3)
             have xw:=Ext.wr hh3 e h1 (.dK (putK ws (.inl k) v))
             refine⟨p,_,rfl,.inl <| DPut.k (k:=.inl k) ha (by rw[rk.length,sizeLine_eq];exact c),δ,ι3,S4,Q,hs3.ext xw,hh3.wr e h1 ed ⟨zgr nd,_,zaq,?_⟩,w3,l.up (((x1.trans x2).trans x3).trans xw)⟩
             exact (rk.put k rv nd).up xw.pre xw.kp
           · cases ed
         |_=>cases ed
       | d3 kvs =>
         obtain⟨nd,ws,ha,rk⟩:=h3
         dsimp only at ed
         cases ek:key3 y with
         |none=>rw[ek] at ed;cases ed
         | some k =>
           rw[ek] at ed
           dsimp only[Option.bind_some] at ed
           split at ed
           · rename_i c
             obtain⟨b,rfl,hb⟩:=zfo r3 ek
             have rv:=r1.ext (x2.trans x3)
             have xw:=Ext.wr hh3 e h1 (.ext (TriO p (put3 ws k b v)))
             refine⟨p,_,rfl,.inr ⟨ws,k,b,ha,rk.triK,rfl,hb,by rw[rk.length,sizeLine_eq];exact c,rfl⟩,δ,ι3,S4,Q,hs3.ext xw,hh3.wr e h1 ed ⟨zfh nd,_,zaq,?_⟩,w3,l.up (((x1.trans x2).trans x3).trans xw)⟩
             exact (rk.put rv hb).up xw.pre xw.kp
           · cases ed
       |_=>cases ed
   |_=>cases ed
theorem zj7 (G:Gd T cf k N sc X){ca ce:CE}{a e:Expr}{f:Str}{r:CS}(hf:T.flds.contains f=true)(ha:PE X a (tE X.K cf ca))(he:PE X e (tE X.K cf ce))(hc:zbm e=true)(hr:PSs X rest (tS X.K cf r)) :
  PSs X (.Assign [.Attribute a f p] e pos::rest) (tS X.K cf (.setF ca f ce r)):=by
 refine PSs.imp (zbc (zmw ha he (zdL hc _ _ _)) hr) fun E σ H ⟨δ,ι,S,Q,hs,hh,w,l⟩=>?_
 simp only[exS,zaa] at w
 refine tE.run hs hh w fun d v ι1 H1 S1 x1 hs1 hh1 r1 w1=>?_
 refine tE.run hs1 hh1 w1 fun x vx ι2 H2 S2 x2 hs2 hh2 r2 w2=>?_
 cases ed:zbU S2 x f d with
 |none=>rw[ed] at w2;exact w2.elim
 | some S3 =>
   rw[ed] at w2
   unfold zbU at ed
   cases x with
   | ref i =>
     obtain⟨b,h1,rfl⟩:=r2
     dsimp only at ed
     cases eo:S2.get i with
     |none=>rw[eo] at ed;cases ed
     | some ob =>
       rw[eo] at ed
       cases ob with
       | ins c fs =>
         obtain⟨b',h2,C,dx,ws,hC,hb,rf⟩:=hh2.obj _ _ eo
         rw[h1] at h2;cases h2
         dsimp only at ed
         split at ed
         · rename_i c2
           obtain⟨_,_,cl,_,na⟩:=G.clsAt (.inl (ne_of hf)) hC
           have rv:=r1.ext x2
           have xw:=Ext.wr hh2 eo h1 (.ins C dx (putF f v ws))
           refine⟨b,C,dx,ws,rfl,hb,cl,na f hf,by rw[rf.length];exact c2,δ,ι2,S3,Q,hs2.ext xw,hh2.wr eo h1 ed ⟨C,dx,_,hC,zaq,(rf.put f rv).up xw.pre xw.kp⟩,w2,l.up ((x1.trans x2).trans xw)⟩
         · cases ed
       |_=>cases ed
   |_=>cases ed
end
end R
end
section
namespace R
open PySem PySem.Spec PyProof.Rows L2
variable [Mks]
noncomputable def zk9:CL->Bool|.comp ..=>true|.callL ..=>true|_=>false
noncomputable def isR1:CL->Bool|.rng1 _=>true|_=>false
noncomputable def zhK:CL->Bool|.rng1 _=>true|.rng2 _ _=>true|.enum _=>true|_=>false
noncomputable def zhH:CL->Bool|.enum _=>true|_=>false
noncomputable def zhI:Expr->Bool|.Tuple _ _ _=>true|_=>false
noncomputable def zbR:Expr->List Str
 |.Name x _=>[x]
 |.Tuple es _ _=>es.filterMap fun|.Name x _=>some x|_=>none
 |_=>[]
noncomputable def zlp (sc scope:Scope)(N:List Str)(js:List Nat):Bool:=
 decide (scope.kind=.function)&&scope.names.all (fun y=>decide (y.2≠.cell))&&scope.names.all (fun y=>decide (y.2≠.local) || decide (scope.names.lookup y.1=some .local))
  && scope.names.all (fun y=>decide (y.2≠.free) || decide (sc.names.lookup y.1=some .cell) || decide (sc.names.lookup y.1=some .free))&&js.all (fun j=>decide (scope.names.lookup (N.getD j "")=some .free)&&decide (j<N.length))
noncomputable def nmB (x:Str):Bool:=!(x == ("__debug__":Str))&&!(x == ("__classdict__":Str))&&!(x == ("__name__":Str))
noncomputable def tyB (t:String)(y:Str):Bool:=(t == "bool"&&y == ("bool":Str)) || (t == "int"&&y == ("int":Str)) || (t == "str"&&y == ("str":Str)) || (t == "list"&&y == ("list":Str)) || (t == "tuple"&&y == ("tuple":Str)) || (t == "dict"&&y == ("dict":Str))
noncomputable def biB:Bi->Str->Nat->Bool
 |.len,x,n=>x == ("len":Str)&&n == 1
 |.abs,x,n=>x == ("abs":Str)&&n == 1
 |.max2,x,n=>x == ("max":Str)&&n == 2
 |.min2,x,n=>x == ("min":Str)&&n == 2
 |.isin _,_,_=>false
noncomputable def zbq:Expr->Option Str|.Name x _=>some x|_=>none
noncomputable def zcH:Expr->Option Const|.Constant c _ _=>some c|_=>none
noncomputable def zhi:Expr->Option (Expr × Operator × Expr)|.BinOp l o r _=>some (l,o,r)|_=>none
noncomputable def rdUn:Expr->Option (UnaryOp × Expr)|.UnaryOp o x _=>some (o,x)|_=>none
noncomputable def zgp:Expr->Option (Expr × List CmpOp × List Expr)|.Compare l os rs _=>some (l,os,rs)|_=>none
noncomputable def zcr:Expr->Option (BoolOp × List Expr × Pos)|.BoolOp o vs p=>some (o,vs,p)|_=>none
noncomputable def rdIf:Expr->Option (Expr × Expr × Expr)|.IfExp t x y _=>some (t,x,y)|_=>none
noncomputable def zgn:Expr->Option (List Expr)|.Tuple xs _ _=>some xs|_=>none
noncomputable def zeu:Expr->Option (List Expr)|.List xs _=>some xs|_=>none
noncomputable def zff:Expr->Option (Expr × Expr)|.Dict [some k] [v] _=>some (k,v)|_=>none
noncomputable def zb6:Expr->Bool|.Dict ks vs _=>ks.isEmpty&&vs.isEmpty|_=>false
noncomputable def zfe:Expr->Option (Expr × Expr)|.Subscript x i _=>some (x,i)|_=>none
noncomputable def rdSl:Expr->Option (Option Expr × Option Expr)|.Slice l u st _=>(match st with|none=>some (l,u)|some _=>none)|_=>none
noncomputable def zbV:Expr->Option (Expr × List Expr × List Keyword × Pos)|.Call f as ks p=>some (f,as,ks,p)|_=>none
noncomputable def zbW:Expr->Option (Expr × Str × Pos)|.Attribute o x p=>some (o,x,p)|_=>none
noncomputable def rdLC:Expr->Option (Expr × List Comprehension × Scope × Pos)|.ListComp e gs sc p=>some (e,gs,sc,p)|_=>none
section
variable {e l r x y i f:Expr} {xs rs as:List Expr} {ks:List Keyword} {p:Pos}
theorem zaX {n:Str}(h:zbq e=some n):∃p,e=.Name n p:=by cases e<;>first|(cases h;exact⟨_,rfl⟩)|cases h
theorem zfg {c:Const}(h:zcH e=some c):∃j p,e=.Constant c j p:=by cases e<;>first|(cases h;exact⟨_,_,rfl⟩)|cases h
theorem zhh {o:Operator}(h:zhi e=some (l,o,r)):∃p,e=.BinOp l o r p:=by cases e<;>first|(cases h;exact⟨_,rfl⟩)|cases h
theorem zdQ {o:UnaryOp}(h:rdUn e=some (o,x)):∃p,e=.UnaryOp o x p:=by cases e<;>first|(cases h;exact⟨_,rfl⟩)|cases h
theorem zev {os:List CmpOp}(h:zgp e=some (l,os,rs)):∃p,e=.Compare l os rs p:=by cases e<;>first|(cases h;exact⟨_,rfl⟩)|cases h
theorem zbN {o:BoolOp}(h:zcr e=some (o,xs,p)):e=.BoolOp o xs p:=by cases e<;>first|(cases h;rfl)|cases h
theorem ziM (h:rdIf e=some (l,x,y)):∃p,e=.IfExp l x y p:=by cases e<;>first|(cases h;exact⟨_,rfl⟩)|cases h
theorem zet (h:zgn e=some xs):∃j p,e=.Tuple xs j p:=by cases e<;>first|(cases h;exact⟨_,_,rfl⟩)|cases h
theorem zgo (h:zeu e=some xs):∃p,e=.List xs p:=by cases e<;>first|(cases h;exact⟨_,rfl⟩)|cases h
theorem zb5 (h:zb6 e=true):∃p,e=.Dict [] [] p:=by
 cases e with
 | Dict ks vs p =>
   cases ks with
   |cons _ _=>cases h
   | nil =>
     cases vs with
     |cons _ _=>cases h
     |nil=>exact⟨_,rfl⟩
 |_=>cases h
theorem zcF (h:zfe e=some (x,i)):∃p,e=.Subscript x i p:=by cases e<;>first|(cases h;exact⟨_,rfl⟩)|cases h
theorem ziL {a b:Option Expr}(h:rdSl e=some (a,b)):∃p,e=.Slice a b none p:=by
 cases e with
 | Slice l u st p =>
   cases st with
   |none=>cases h;exact⟨_,rfl⟩
   |some _=>cases h
 |_=>cases h
theorem zck (h:zbV e=some (f,as,ks,p)):e=.Call f as ks p:=by cases e<;>first|(cases h;rfl)|cases h
theorem zbO {n:Str}(h:zbW e=some (x,n,p)):e=.Attribute x n p:=by cases e<;>first|(cases h;rfl)|cases h
theorem zfN {gs:List Comprehension}{sc:Scope}(h:rdLC e=some (x,gs,sc,p)):e=.ListComp x gs sc p:=by cases e<;>first|(cases h;rfl)|cases h
end
theorem zae {α:Type}{o:Option α}{f:α->Bool}(h:o.any f=true):∃x,o=some x/\f x=true:=by
 cases o with
 |none=>cases h
 |some x=>exact⟨x,rfl,h⟩
noncomputable def one {α:Type}:List α->Option α | [x]=>some x|_=>none
theorem zbl {α:Type}{xs:List α}{x:α}(h:one xs=some x):xs=[x]:=by
 match xs,h with
 | [y],h=>cases h;rfl
noncomputable def two {α:Type}:List α->Option (α × α) | [x,y]=>some (x,y)|_=>none
theorem two_inv {α:Type}{xs:List α}{x y:α}(h:two xs=some (x,y)):xs=[x,y]:=by
 match xs,h with
 | [a,b],h=>cases h;rfl
noncomputable def za1 (e:Expr):Option (Str × List Expr):=(zbV e).bind fun q=>if q.2.2.1.isEmpty then (zbq q.1).map fun x=>(x,q.2.1) else none
theorem zaO {e:Expr}{x:Str}{as:List Expr}(h:za1 e=some (x,as)):∃p2 p,e=.Call (.Name x p2) as [] p:=by
 unfold za1 at h
 cases q:zbV e with
 |none=>rw[q] at h;cases h
 | some z =>
   obtain⟨f,bs,ks,p⟩:=z
   rw[q] at h
   dsimp only[Option.bind_some] at h
   split at h
   · rename_i c
     cases q2:zbq f with
     |none=>rw[q2] at h;cases h
     | some y =>
       rw[q2] at h
       obtain⟨p2,rfl⟩:=zaX q2
       cases ks with
       |cons _ _=>cases c
       |nil=>cases h;exact⟨p2,p,zck q⟩
   · cases h
noncomputable def za2 (e:Expr):Option (Str × Expr):=(za1 e).bind fun q=>(one q.2).map fun a=>(q.1,a)
theorem zaG {e a:Expr}{x:Str}(h:za2 e=some (x,a)):∃p2 p,e=.Call (.Name x p2) [a] [] p:=by
 unfold za2 at h
 cases q:za1 e with
 |none=>rw[q] at h;cases h
 | some z =>
   obtain⟨y,bs⟩:=z
   rw[q] at h
   dsimp only[Option.bind_some] at h
   cases q2:one bs with
   |none=>rw[q2] at h;cases h
   | some b =>
     rw[q2] at h
     cases h
     rw[zbl q2] at q
     exact zaO q
noncomputable def zcG (e:Expr):Option (Expr × Str × Pos × Expr × Pos):=(zbV e).bind fun q=>if q.2.2.1.isEmpty then (zbW q.1).bind fun a=>(one q.2.1).map fun y=>(a.1,a.2.1,a.2.2,y,q.2.2.2) else none
theorem zdu {e o a:Expr}{x:Str}{ap cp:Pos}(h:zcG e=some (o,x,ap,a,cp)):e=.Call (.Attribute o x ap) [a] [] cp:=by
 unfold zcG at h
 cases q:zbV e with
 |none=>rw[q] at h;cases h
 | some z =>
   obtain⟨f,bs,ks,p⟩:=z
   rw[q] at h
   dsimp only[Option.bind_some] at h
   split at h
   · rename_i c
     cases q2:zbW f with
     |none=>rw[q2] at h;cases h
     | some y =>
       obtain⟨o',x',ap'⟩:=y
       rw[q2] at h
       dsimp only[Option.bind_some] at h
       cases q3:one bs with
       |none=>rw[q3] at h;cases h
       | some b =>
         rw[q3] at h
         cases h
         cases ks with
         |cons _ _=>cases c
         |nil=>rw[zck q,zbO q2,zbl q3]
   · cases h
noncomputable def zbA (e:Expr):Option (Expr × Str × Pos × List Expr × Pos):=(zbV e).bind fun q=>if q.2.2.1.isEmpty then (zbW q.1).map fun a=>(a.1,a.2.1,a.2.2,q.2.1,q.2.2.2) else none
theorem zb4 {e o:Expr}{as:List Expr}{x:Str}{ap cp:Pos}(h:zbA e=some (o,x,ap,as,cp)):e=.Call (.Attribute o x ap) as [] cp:=by
 unfold zbA at h
 cases q:zbV e with
 |none=>rw[q] at h;cases h
 | some z =>
   obtain⟨f,bs,ks,p⟩:=z
   rw[q] at h
   dsimp only[Option.bind_some] at h
   split at h
   · rename_i c
     cases q2:zbW f with
     |none=>rw[q2] at h;cases h
     | some y =>
       obtain⟨o',x',ap'⟩:=y
       rw[q2] at h
       cases h
       cases ks with
       |cons _ _=>cases c
       |nil=>rw[zck q,zbO q2]
   · cases h
noncomputable def fnB (T:Tab)(f j:Nat)(x:Str):Bool:=match T.fns[f]? with|some (y,_,nd)=>(y == x)&&decide (j<=nd)|none=>false
noncomputable def conG (T:Tab)(d:D)(x:Str):Bool:=match T.cons.lookup x with|some d'=>eqC d' d|none=>false
noncomputable def zhM:CE->Bool|.con _=>true|_=>false
noncomputable def zlb:CL->Bool|.comp ..=>true|_=>false
noncomputable def zhJ:CE->Bool|.tst (.con (.bl true))=>true|_=>false
noncomputable def zkV:CEs->Bool|.cons _ .nil=>true|_=>false
noncomputable def zkX:CEs->Bool|.nil=>true|_=>false
noncomputable def mtN:Mt->Str->Bool
 |.append,x=>x == ("append":Str)
 |.popAt,x=>x == ("pop":Str)
 |.count,x=>x == ("count":Str)
noncomputable def zoo:Bi->Option String|.isin t=>some t|_=>none
noncomputable def tgB (sc:Scope)(N:List Str)(g:List Nat)(tg:Expr):Bool:=match zbq tg with
 |some x=>(match one g with|some i=>(N[i]? == some x)&&zeL sc x|none=>false)
 |none=>(zgn tg).any fun es=>decide (2<=g.length)&&zcs sc N g es
mutual
noncomputable def chkE (T:Tab):CE->List Str->Scope->Expr->Bool
 |.loc i,N,sc,e=>(zbq e).any fun x=>(N[i]? == some x)&&zjj sc x&&nmB x
 |.con d,_,sc,e=>(zcH e).any (fun c=>conB d c) || (zbq e).any fun x=>isGl sc x&&conG T d x&&nmB x
 |.tst _,_,_,_=>false
 |.bin op a b,N,sc,e=>(zhi e).any fun q=>decide (q.2.1=op)&&chkE T a N sc q.1&&chkE T b N sc q.2.2
 |.neg a,N,sc,e=>(rdUn e).any fun q=>decide (q.1=.USub)&&chkE T a N sc q.2
 |.nt a,N,sc,e=>(rdUn e).any fun q=>decide (q.1=.Not)&&chkE T a N sc q.2
 |.cmp op a b,N,sc,e=>(zgp e).any fun q=>decide (q.2.1=[op])&&(one q.2.2).any fun r=>zbX r&&chkE T a N sc q.1&&chkE T b N sc r
 |.and a b,N,sc,e=>(zcr e).any fun q=>decide (q.1=.And)&&(match q.2.1 with
  |x::y::rest=>chkE T a N sc x&&(if rest.isEmpty then chkE T b N sc y else chkE T b N sc (.BoolOp .And (y::rest) q.2.2))
  |_=>false)
 |.or a b,N,sc,e=>(zcr e).any fun q=>decide (q.1=.Or)&&(match q.2.1 with
  |x::y::rest=>chkE T a N sc x&&(if rest.isEmpty then chkE T b N sc y else chkE T b N sc (.BoolOp .Or (y::rest) q.2.2))
  |_=>false)
 |.ite c a b,N,sc,e=>(rdIf e).any fun q=>chkT T c N sc q.1&&chkE T a N sc q.2.1&&chkE T b N sc q.2.2
 |.tup es,N,sc,e=>(zgn e).any fun xs=>zbs T es N sc xs
 |.lst es,N,sc,e=>(zeu e).any fun xs=>zbs T es N sc xs
 |.dnew,_,_,e=>zb6 e
 |.dnewT,_,_,e=>zb6 e
 |.dnew3,_,_,e=>zb6 e
 |.d3keys a,N,sc,e=>(za2 e).any fun q=>(q.1 == ("list":Str))&&bltB T sc q.1&&zaj q.2&&chkE T a N sc q.2
 |.d3srt a,N,sc,e=>(za2 e).any fun q=>(q.1 == ("sorted":Str))&&bltB T sc q.1&&zaj q.2&&chkE T a N sc q.2
 |.srt3 a,N,sc,e=>(za2 e).any fun q=>(q.1 == ("sorted":Str))&&bltB T sc q.1&&zaj q.2&&chkE T a N sc q.2
 |.ix a b,N,sc,e=>(zfe e).any fun q=>zdT q.2&&chkE T a N sc q.1&&chkE T b N sc q.2
 |.fld a f,N,sc,e=>(zbW e).any fun q=>decide (q.2.1=f)&&zbr q.1&&T.flds.contains f&&chkE T a N sc q.1
 |.mk c f x j es,N,sc,e=>(za1 e).any fun q=>decide (q.1=x)&&isGl sc x&&nmB x&&decide (T.cls[c]?=some x)&&T.inits.contains (c,f,j)&&(!q.2.isEmpty || zkX es)&&zbs T es N sc q.2
 |.meth m tb o es,N,sc,e=>(zbA e).any fun q=>decide (q.2.1=m)&&mtB T m tb&&zbr q.1&&(q.2.2.1.endLine == q.2.2.2.2.line)&&decide (q.2.2.2.1.length<29)&&(!q.2.2.2.1.isEmpty || zkX es)&&chkE T o N sc q.1&&zbs T es N sc q.2.2.2.1
 |.isc cs x a,N,sc,e=>(za1 e).any fun q=>(two q.2).any fun z=>(zbq z.2).any fun y=>(q.1 == ("isinstance":Str))&&bltB T sc q.1&&decide (y=x)&&isGl sc x&&nmB x&&T.isas.contains (x,cs)&&zaj z.1&&chkE T a N sc z.1
 |.callC f x m es,N,sc,e=>(zbA e).any fun q=>(zbq q.1).any fun y=>decide (y=x)&&decide (q.2.1=m)&&isGl sc x&&nmB x&&T.cms.contains (x,m,f)&&(q.2.2.1.endLine == q.2.2.2.2.line)&&decide (q.2.2.2.1.length<29)&&!q.2.2.2.1.isEmpty&&zbs T es N sc q.2.2.2.1
 |.clr a,N,sc,e=>(zbA e).any fun q=>(q.2.1 == ("clear":Str))&&zbr q.1&&(q.2.2.1.endLine == q.2.2.2.2.line)&&q.2.2.2.1.isEmpty&&chkE T a N sc q.1
 |.sl a ml mh lo hi,N,sc,e=>(zfe e).any fun q=>(rdSl q.2).any fun s=>chkE T a N sc q.1
  && (match s.1 with|none=>!ml&&zhM lo|some e=>ml&&chkE T lo N sc e)
  && (match s.2 with|none=>!mh&&zhM hi|some e=>mh&&chkE T hi N sc e)
 |.call f j es,N,sc,e=>(za1 e).any fun q=>isGl sc q.1&&nmB q.1&&fnB T f j q.1&&(!q.2.isEmpty || zkX es)&&zbs T es N sc q.2
 |.callW f j es,N,sc,e=>(za1 e).any fun q=>isGl sc q.1&&nmB q.1&&fnB T f j q.1&&!q.2.isEmpty&&zbs T es N sc q.2
 |.bi b es,N,sc,e=>(za1 e).any fun q=>bltB T sc q.1&&nmB q.1&&(match zoo b with
  |some t=>(two q.2).any fun z=>(zbq z.2).any fun y=>(q.1 == ("isinstance":Str))&&tyB t y&&bltB T sc y&&nmB y&&zkV es&&zbs T es N sc [z.1]
  |none=>biB b q.1 q.2.length&&!q.2.isEmpty&&zbs T es N sc q.2)
 |.mt m o es,N,sc,e=>(zcG e).any fun q=>mtN m q.2.1&&zbr q.1&&(q.2.2.1.endLine == q.2.2.2.2.line)&&zkV es&&chkE T o N sc q.1&&zbs T es N sc [q.2.2.2.1]
 |.mkL l,N,sc,e=>if zlb l then (if (rdLC e).isSome then chkL T l N sc e else (za2 e).any fun q=>(q.1 == ("list":Str))&&bltB T sc q.1&&zaj q.2&&chkL T l N sc q.2)
  else (za2 e).any fun q=>(q.1 == ("list":Str))&&bltB T sc q.1&&zaj q.2&&(!(zhK l) || isR1 l)&&chkL T l N sc q.2
 |.mkT l,N,sc,e=>(za2 e).any fun q=>(q.1 == ("tuple":Str))&&bltB T sc q.1&&zaj q.2&&(!(zhK l) || isR1 l)&&chkL T l N sc q.2
 |.all l,N,sc,e=>(za2 e).any fun q=>(q.1 == ("all":Str))&&bltB T sc q.1&&zaj q.2&&!(zhK l)&&chkL T l N sc q.2
 |.ext a l,N,sc,e=>(zcG e).any fun q=>(q.2.1 == ("extend":Str))&&zaj q.2.2.2.1&&zbr q.1&&(q.2.2.1.endLine == q.2.2.2.2.line)&&zk9 l&&chkE T a N sc q.1&&chkL T l N sc q.2.2.2.1
noncomputable def zbs (T:Tab):CEs->List Str->Scope->List Expr->Bool
 |.nil,_,_,es=>es.isEmpty
 |.cons a r,N,sc,es=>(match es with | []=>false|e::es=>zaj e&&chkE T a N sc e&&zbs T r N sc es)
noncomputable def chkT (T:Tab):CE->List Str->Scope->Expr->Bool
 |.cmp op a b,N,sc,e=>(zgp e).any fun q=>decide (q.2.1=[op])&&(one q.2.2).any fun r=>zbX r&&chkE T a N sc q.1&&chkE T b N sc r
 |.nt a,N,sc,e=>(rdUn e).any fun q=>decide (q.1=.Not)&&chkT T a N sc q.2
 |.and a b,N,sc,e=>(zcr e).any fun q=>decide (q.1=.And)&&(match q.2.1 with
  |x::y::rest=>chkT T a N sc x&&(if rest.isEmpty then chkT T b N sc y else chkT T b N sc (.BoolOp .And (y::rest) q.2.2))
  |_=>false)
 |.or a b,N,sc,e=>(zcr e).any fun q=>decide (q.1=.Or)&&(match q.2.1 with
  |x::y::rest=>chkT T a N sc x&&(if rest.isEmpty then chkT T b N sc y else chkT T b N sc (.BoolOp .Or (y::rest) q.2.2))
  |_=>false)
 |.tst a,N,sc,e=>zfQ e&&chkE T a N sc e
 |_,_,_,_=>false
noncomputable def chkL (T:Tab):CL->List Str->Scope->Expr->Bool
 |.val a,N,sc,e=>zbX e&&chkE T a N sc e
 |.callL f j es,N,sc,e=>(za1 e).any fun q=>isGl sc q.1&&nmB q.1&&fnB T f j q.1&&!q.2.isEmpty&&zbs T es N sc q.2
 |.rng1 a,N,sc,e=>(za2 e).any fun q=>(q.1 == ("range":Str))&&bltB T sc q.1&&zaj q.2&&chkE T a N sc q.2
 |.rng2 a b,N,sc,e=>(za1 e).any fun q=>(two q.2).any fun z=>(q.1 == ("range":Str))&&bltB T sc q.1&&zaj z.1&&zaj z.2&&chkE T a N sc z.1&&chkE T b N sc z.2
 |.enum a,N,sc,e=>(za2 e).any fun q=>(q.1 == ("enumerate":Str))&&bltB T sc q.1&&zaj q.2&&chkE T a N sc q.2
 |.comp nt js g it c e,N,sc,ex=>(rdLC ex).any fun q=>(one q.2.1).any fun z=>decide (z.is_async=0)&&zlp sc q.2.2.1 N js&&(zbX z.iter&&(zhI z.target || !(zhH it)))&&chkL T it N sc z.iter&&decide ((zbR z.target).length=nt)&&decide ((capN N (zbR z.target) js).Nodup)
  && tgB q.2.2.1 (capN N (zbR z.target) js) g z.target
  && (if z.ifs.isEmpty then zhJ c else (one z.ifs).any fun t=>chkT T c (capN N (zbR z.target) js) q.2.2.1 t)
  && chkE T e (capN N (zbR z.target) js) q.2.2.1 q.1
end
noncomputable def zhj:Stmt->Option (Expr × Expr × Pos)|.Assign tgs v p=>(one tgs).map fun t=>(t,v,p)|_=>none
noncomputable def zmm:Stmt->Option (Expr × List Stmt × List Stmt)|.If e a b _=>some (e,a,b)|_=>none
noncomputable def zkx:Stmt->Option (Expr × Expr × List Stmt)|.For tg it b els _=>if els.isEmpty then some (tg,it,b) else none|_=>none
noncomputable def zkw:Stmt->Option Expr|.Return v _=>v|_=>none
noncomputable def zmn:Stmt->Option Expr|.Expr v _=>some v|_=>none
section
variable {s:Stmt} {e v tg it:Expr} {a b:List Stmt} {p:Pos}
theorem zcI (h:zhj s=some (tg,v,p)):s=.Assign [tg] v p:=by
 cases s with
 | Assign tgs v p =>
   simp only[zhj] at h
   cases q:one tgs with
   |none=>rw[q] at h;cases h
   |some t=>rw[q] at h;cases h;rw[zbl q]
 |_=>cases h
theorem zhe (h:zmm s=some (e,a,b)):∃p,s=.If e a b p:=by cases s<;>first|(cases h;exact⟨_,rfl⟩)|cases h
theorem zhf (h:zkx s=some (tg,it,b)):∃p,s=.For tg it b [] p:=by
 cases s with
 | For tg it b els p =>
   simp only[zkx] at h
   cases els with
   |nil=>cases h;exact⟨_,rfl⟩
   |cons _ _=>cases h
 |_=>cases h
theorem zhd (h:zkw s=some e):∃p,s=.Return (some e) p:=by
 cases s with
 |Return v p=>simp only[zkw] at h;subst h;exact⟨_,rfl⟩
 |_=>cases h
theorem zhg (h:zmn s=some e):∃p,s=.Expr e p:=by cases s<;>first|(cases h;exact⟨_,rfl⟩)|cases h
end
noncomputable def chkS (T:Tab):CS->List Str->Scope->List Stmt->Bool
 |.nil,_,_,st=>st.isEmpty
 |.stop,_,_,_=>true
 |.asg i e r,N,sc,st=>(match st with | []=>false|s::rest=>(zhj s).any fun q=>(zbq q.1).any fun x=>(N[i]? == some x)&&zeL sc x&&chkE T e N sc q.2.1&&chkS T r N sc rest)
 |.setF a f e r,N,sc,st=>(match st with | []=>false|s::rest=>(zhj s).any fun q=>(zbW q.1).any fun z=>decide (z.2.1=f)&&T.flds.contains f&&zbm q.2.1&&chkE T a N sc z.1&&chkE T e N sc q.2.1&&chkS T r N sc rest)
 |.setIx a b e r,N,sc,st=>(match st with | []=>false|s::rest=>(zhj s).any fun q=>(zfe q.1).any fun z=>zbm q.2.1&&chkE T a N sc z.1&&chkE T b N sc z.2&&chkE T e N sc q.2.1&&chkS T r N sc rest)
 |.ifS c t u r,N,sc,st=>(match st with | []=>false|s::rest=>(zmm s).any fun q=>chkT T c N sc q.1&&chkS T t N sc q.2.1&&chkS T u N sc q.2.2&&chkS T r N sc rest)
 |.forS g l b r,N,sc,st=>(match st with | []=>false|s::rest=>(zkx s).any fun q=>zbX q.2.1&&chkL T l N sc q.2.1&&chkS T b N sc q.2.2&&chkS T r N sc rest&&(tgB sc N g q.1&&(zhI q.1 || !(zhH l))))
 |.ret e r,N,sc,st=>(match st with | []=>false|s::rest=>(zkw s).any fun v=>chkE T e N sc v&&chkS T r N sc rest)
 |.expr e r,N,sc,st=>(match st with | []=>false|s::rest=>(zmn s).any fun v=>zbm v&&chkE T e N sc v&&chkS T r N sc rest)
end R
end
section
set_option maxHeartbeats 8000000
namespace R
open PySem PySem.Spec PyProof.Rows L2
variable [Mks]
section
variable {T:Tab} {cf:CF} {k:Nat} {N:List Str} {sc:Scope} {X:Cx}
theorem zbE (env:Env)(x:Str):∀{names:List (Str × NameKind)} {k0:NameKind},names.lookup x=some k0->k0≠.free->(names.map (zbS env)).lookup x=some k0
 | [],_,h,_=>by simp at h
 | y :: r, k0, h, hk => by
   rw[List.map_cons]
   have f1:=zcE env y
   have f2:=zcD env y
   obtain⟨n,k1⟩:=y
   generalize hz:zbS env (n,k1)=z at *
   obtain⟨zn,zk⟩:=z
   simp only at f1 f2
   subst f1
   rw[List.lookup_cons] at h⊢
   cases hx:x == zn with
   | true =>
     rw[hx] at h
     have e:k1=k0:=Option.some.inj h
     subst e
     rcases f2 with f2|⟨q,_⟩
     · show some zk=_;rw[f2]
     · exact absurd q hk
   | false =>
     rw[hx] at h
     exact zbE env x h hk
theorem zf8 (G:Gd T cf k N sc X){scope:Scope}{js:List Nat}(h:zlp sc scope N js=true):CompOk X.env.scope scope X.N js:=by
 unfold zlp at h
 simp only[Bool.and_eq_true,List.all_eq_true,decide_eq_true_eq,Bool.or_eq_true] at h
 obtain⟨⟨⟨⟨h1,h2⟩,h3⟩,h4⟩,h5⟩:=h
 refine⟨h1,h2,fun y hy e=>?_,fun y hy e=>?_,fun j hj=>?_⟩
 · rcases h3 y hy with z|z
   · exact absurd e z
   · exact z
 · rcases h4 y hy with (z|z)|z
   · exact absurd e z
   · exact .inl (G.cell _ z)
   · exact (G.free _ z).symm
 · rw[G.nm];exact h5 j hj
theorem zhX (G:Gd T cf k N sc X){scope:Scope}{tgs:List Str}{js:List Nat}(ok:CompOk X.env.scope scope X.N js)(hn:(capN N tgs js).Nodup)(cl:List (Str × Addr))(C:Addr)(fp:List Addr)(s:Shared)(H:Hp)(pn:List (Addr × Obj)) :
  Gd T cf k (capN N tgs js) scope (zaI X (capN X.N tgs js) scope cl C fp s H pn):=by
 have names:(zaI X (capN X.N tgs js) scope cl C fp s H pn).env.scope.names=scope.names.map (zbS X.env):=zbt scope X.env
 have noc:∀x,scope.names.lookup x≠some .cell:=fun x e=>ok.nocell _ (PySem.mem_of_lookup e) rfl
 refine⟨by rw[<-G.nm],hn,fun x e=>?_,fun x e=>absurd e (noc x),fun x e=>?_,fun x e=>?_,.inr noc,G.calm,rfl,G.room',G.tab⟩
 · rw[names];exact zbE _ _ e (by decide)
 · rw[names];exact zbu _ _ _ e
 · rw[names];exact zbE _ _ e (by decide)
theorem zbY {x:Str}(h:nmB x=true):(x == ("__debug__":Str))=false/\(x == ("__classdict__":Str))=false/\x≠("__name__":Str):=by
 unfold nmB at h
 simp only[Bool.and_eq_true,Bool.not_eq_true'] at h
 exact⟨h.1.1,h.1.2,fun e=>by rw[e] at h;simp at h⟩
theorem zlI {t:String}{y:Str}(h:tyB t y=true):t∈["bool","int","str","list","tuple","dict"]/\bootBuiltins y=some (.type t):=by
 unfold tyB at h
 simp only[Bool.or_eq_true,Bool.and_eq_true,beq_iff_eq] at h
 rcases h with ((((⟨rfl,rfl⟩|⟨rfl,rfl⟩)|⟨rfl,rfl⟩)|⟨rfl,rfl⟩)|⟨rfl,rfl⟩)|⟨rfl,rfl⟩
 · exact⟨by simp,zlt⟩
 · exact⟨by simp,znB⟩
 · exact⟨by simp,znx⟩
 · exact⟨by simp,zec⟩
 · exact⟨by simp,zeb⟩
 · exact⟨by simp,zls⟩
theorem zhZ {f j:Nat}{x:Str}(h:fnB T f j x=true):∃ps nd,T.fns[f]?=some (x,ps,nd)/\j<=nd:=by
 unfold fnB at h
 cases e:T.fns[f]? with
 |none=>rw[e] at h;cases h
 | some q =>
   obtain⟨y,ps,nd⟩:=q
   rw[e] at h
   simp only[Bool.and_eq_true,beq_iff_eq,decide_eq_true_eq] at h
   obtain⟨rfl,h2⟩:=h
   exact⟨ps,nd,rfl,h2⟩
theorem zaL:∀{ces:CEs} {N:List Str} {sc:Scope} {es:List Expr},zbs T ces N sc es=true->es.all zaj=true
 | .nil, N, sc, es, h => by
   simp only[zbs,List.isEmpty_iff] at h
   subst h;rfl
 | .cons a r, N, sc, es, h => by
   cases es with
   |nil=>simp[zbs] at h
   | cons e es =>
     simp only[zbs,Bool.and_eq_true] at h
     simp[h.1.1,zaL h.2]
theorem zf9 {es:CEs}(h:zkV es=true):∃a,es=.cons a .nil:=by
 cases es with
 |nil=>cases h
 | cons a r =>
   cases r with
   |nil=>exact⟨a,rfl⟩
   |cons _ _=>cases h
theorem zgK (G:Gd T cf k N sc X){b:Bi}{x:Str}{n:Nat}(h:biB b x n=true):∃id,zbb X (.builtin id) (rB X.K fun S ds=>R.bi S b ds)/\bootBuiltins x=some (.builtin id):=by
 cases b with
 |len=>simp only[biB,Bool.and_eq_true,beq_iff_eq] at h;rw[h.1];exact⟨_,zm3,znA⟩
 |abs=>simp only[biB,Bool.and_eq_true,beq_iff_eq] at h;rw[h.1];exact⟨_,znF,znD⟩
 |max2=>simp only[biB,Bool.and_eq_true,beq_iff_eq] at h;rw[h.1];exact⟨_,zm1 G.calm,znz⟩
 |min2=>simp only[biB,Bool.and_eq_true,beq_iff_eq] at h;rw[h.1];exact⟨_,zmZ G.calm,zny⟩
 |isin t=>simp[biB] at h
noncomputable def LOk (T:Tab)(cf:CF)(k:Nat)(cl:CL)(X:Cx)(e:Expr):Prop:=(zhK cl=false->PE X e (tL X.K cf cl))/\(zk9 cl=true->PE X e (tLt X.K cf cl))/\(∀tg,(zhI tg || !(zhH cl))=true->PI X tg e (tI X.K cf cl))/\
 ∀a,cl=.rng1 a->∃a' p2 p,e=.Call (.Name "range" p2) [a'] [] p/\(Gl X "range"/\X.mg "range"=none)/\PE X a' (tE X.K cf a)/\zaj a'=true
noncomputable def EsOk (cf:CF)(ces:CEs)(X:Cx)(es:List Expr):Prop:=PA X es (tAs X.K cf ces)/\∀a r e es',ces=.cons a r->es=e::es'->PE X e (tE X.K cf a)
theorem zj3 {sc:Scope}{N:List Str}{X:Cx}{g:List Nat}{tg:Expr}(G:Gd T cf k N sc X)(h:tgB sc N g tg=true):PG X tg (tG X.K g):=by
 unfold tgB at h
 split at h
 · rename_i x q
   obtain⟨p,rfl⟩:=zaX q
   split at h
   · rename_i i q2
     rw[zbl q2]
     simp only[Bool.and_eq_true,beq_iff_eq] at h
     exact zkh G h.1 h.2
   · cases h
 · replace h:=zae h
   obtain⟨es,q,h⟩:=h
   obtain⟨j,p,rfl⟩:=zet q
   simp only[Bool.and_eq_true,decide_eq_true_eq] at h
   exact zl1 G h.2 h.1
theorem zfG {c:CE}{X:Cx}(h:zhJ c=true):PTs X [] (tT X.K cf c):=by
 have hc:c=.tst (.con (.bl true)):=by
  cases c with
  | tst a =>
    cases a with
    | con d =>
      cases d with
      | bl b =>
        cases b with
        |true=>rfl
        |false=>cases h
      |_=>cases h
    |_=>cases h
  |_=>cases h
 subst hc
 intro pins s' σ H' Qv I q
 refine zkE pins s' σ H' Qv I ?_
 obtain⟨δ,ι,S,Q,hs,hh,w,q⟩:=q
 simp only[evT,evE,zaM,tru,zbF,W_ok] at w
 exact q _ _ ⟨ι,S,Ext.refl _ _,hh,w⟩
theorem zhs {m:Bool}{ce:CE}{o:Option Expr}{X:Cx}(h1:o=none->m=false/\zhM ce=true)(h2:∀e,o=some e->m=true/\PE X e (tE X.K cf ce)):PartOk X cf m ce o:=by
 cases o with
 | none =>
   obtain⟨rfl,h⟩:=h1 rfl
   cases ce with
   |con d=>exact .no ⟨d,rfl⟩
   |_=>cases h
 | some e =>
   obtain⟨rfl,h⟩:=h2 e rfl
   exact .yes h
theorem za9 {x y:Str}(h:(x == y)=true):x=y:=by simpa using h
mutual
theorem zaf:∀(ce:CE) {N:List Str} {sc:Scope} {e:Expr} {X:Cx},Gd T cf k N sc X->chkE T ce N sc e=true->PE X e (tE X.K cf ce)
 | .loc i, N, sc, e, X, G, h => by
   simp only[chkE] at h
   replace h:=zae h
   obtain⟨x,q,h⟩:=h
   obtain⟨p,rfl⟩:=zaX q
   simp only[Bool.and_eq_true,beq_iff_eq] at h
   obtain⟨h1,h2,_⟩:=zbY h.2
   exact zl8 G h.1.1 h.1.2 h1 h2
 | .con d, N, sc, e, X, G, h => by
   simp only[chkE] at h
   rw[Bool.or_eq_true] at h
   rcases h with h|h
   · replace h:=zae h
     obtain⟨c,q,h⟩:=h
     obtain⟨j,p,rfl⟩:=zfg q
     exact zmd h
   · replace h:=zae h
     obtain⟨x,q,h⟩:=h
     obtain⟨p,rfl⟩:=zaX q
     simp only[Bool.and_eq_true] at h
     obtain⟨h1,h2,_⟩:=zbY h.2
     have h3:=h.1.2
     unfold conG at h3
     split at h3
     · rename_i d' e'
       exact zko G h.1.1 e' h3 h1
     · cases h3
 |.tst a,N,sc,e,X,G,h=>by simp only[chkE] at h;cases h
 | .bin op a b, N, sc, e, X, G, h => by
   simp only[chkE] at h
   replace h:=zae h
   obtain⟨⟨l,o,r⟩,q,h⟩:=h
   obtain⟨p,rfl⟩:=zhh q
   simp only[Bool.and_eq_true,decide_eq_true_eq] at h
   obtain⟨⟨rfl,h1⟩,h2⟩:=h
   exact zmg (zaf a G h1) (zaf b G h2)
 | .neg a, N, sc, e, X, G, h => by
   simp only[chkE] at h
   replace h:=zae h
   obtain⟨⟨o,x⟩,q,h⟩:=h
   obtain⟨p,rfl⟩:=zdQ q
   simp only[Bool.and_eq_true,decide_eq_true_eq] at h
   obtain⟨rfl,h1⟩:=h
   exact zl4 (zaf a G h1)
 | .nt a, N, sc, e, X, G, h => by
   simp only[chkE] at h
   replace h:=zae h
   obtain⟨⟨o,x⟩,q,h⟩:=h
   obtain⟨p,rfl⟩:=zdQ q
   simp only[Bool.and_eq_true,decide_eq_true_eq] at h
   obtain⟨rfl,h1⟩:=h
   exact znZ (zaf a G h1)
 | .cmp op a b, N, sc, e, X, G, h => by
   simp only[chkE] at h
   replace h:=zae h
   obtain⟨⟨l,os,rs⟩,q,h⟩:=h
   obtain⟨p,rfl⟩:=zev q
   rw[Bool.and_eq_true,decide_eq_true_eq] at h
   obtain⟨e1,h⟩:=h
   replace h:=zae h
   obtain⟨r,q2,h⟩:=h
   cases zbl q2
   cases e1
   simp only[Bool.and_eq_true] at h
   exact zme G (zaf a G h.1.2) (zaf b G h.2) h.1.1
 | .and a b, N, sc, e, X, G, h => by
   simp only[chkE] at h
   replace h:=zae h
   obtain⟨⟨o,vs,p⟩,q,h⟩:=h
   cases zbN q
   rw[Bool.and_eq_true,decide_eq_true_eq] at h
   obtain⟨e1,h⟩:=h
   cases e1
   dsimp only at h
   split at h
   · rename_i x y rest
     rw[Bool.and_eq_true] at h
     obtain⟨h1,h2⟩:=h
     split at h2
     · rename_i c
       cases List.isEmpty_iff.mp c
       exact zjM (zaf a G h1) (zjQ (zaf b G h2))
     · exact zjM (zaf a G h1) (zaf b G h2)
   · cases h
 | .or a b, N, sc, e, X, G, h => by
   simp only[chkE] at h
   replace h:=zae h
   obtain⟨⟨o,vs,p⟩,q,h⟩:=h
   cases zbN q
   rw[Bool.and_eq_true,decide_eq_true_eq] at h
   obtain⟨e1,h⟩:=h
   cases e1
   dsimp only at h
   split at h
   · rename_i x y rest
     rw[Bool.and_eq_true] at h
     obtain⟨h1,h2⟩:=h
     split at h2
     · rename_i c
       cases List.isEmpty_iff.mp c
       exact zl3 (zaf a G h1) (zjQ (zaf b G h2))
     · exact zl3 (zaf a G h1) (zaf b G h2)
   · cases h
 | .ite c a b, N, sc, e, X, G, h => by
   simp only[chkE] at h
   replace h:=zae h
   obtain⟨⟨t,x,y⟩,q,h⟩:=h
   obtain⟨p,rfl⟩:=ziM q
   simp only[Bool.and_eq_true] at h
   exact zl9 (za8 c G h.1.1).1 (zaf a G h.1.2) (zaf b G h.2)
 | .tup es, N, sc, e, X, G, h => by
   simp only[chkE] at h
   replace h:=zae h
   obtain⟨xs,q,h⟩:=h
   obtain⟨j,p,rfl⟩:=zet q
   exact zl2 (zaU es G h).1
 | .lst es, N, sc, e, X, G, h => by
   simp only[chkE] at h
   replace h:=zae h
   obtain⟨xs,q,h⟩:=h
   obtain⟨p,rfl⟩:=zgo q
   exact zl7 (zaU es G h).1
 | .dnew, N, sc, e, X, G, h => by
   simp only[chkE] at h
   obtain⟨p,rfl⟩:=zb5 h
   exact zkp
 | .dnewT, N, sc, e, X, G, h => by
   simp only[chkE] at h
   obtain⟨p,rfl⟩:=zb5 h
   exact ziC
 | .ix a b, N, sc, e, X, G, h => by
   simp only[chkE] at h
   replace h:=zae h
   obtain⟨⟨x,i⟩,q,h⟩:=h
   obtain⟨p,rfl⟩:=zcF q
   simp only[Bool.and_eq_true] at h
   exact zn1 (zaf a G h.1.2) (zaf b G h.2) h.1.1
 | .fld a f, N, sc, e, X, G, h => by
   simp only[chkE] at h
   replace h:=zae h
   obtain⟨⟨o,f',p⟩,q,h⟩:=h
   cases zbO q
   simp only[Bool.and_eq_true,decide_eq_true_eq] at h
   obtain⟨⟨⟨rfl,h2⟩,h3⟩,h4⟩:=h
   exact zmb G (zaf a G h4) h2 h3
 | .mk c f x j es, N, sc, e, X, G, h => by
   simp only[chkE] at h
   replace h:=zae h
   obtain⟨⟨x',args⟩,q,h⟩:=h
   obtain⟨p2,p,rfl⟩:=zaO q
   simp only[Bool.and_eq_true,Bool.or_eq_true,decide_eq_true_eq] at h
   obtain⟨⟨⟨⟨⟨⟨rfl,h1⟩,h2⟩,h3⟩,h4⟩,h5⟩,h6⟩:=h
   obtain⟨n1,n2,n3⟩:=zbY h2
   have ha:=(zaU es G h6).1
   cases args with
   | nil =>
     have:es=.nil:=by
      cases es with
      |nil=>rfl
      |cons _ _=>rcases h5 with z|z<;>cases z
     rw[this]
     exact zl6 G h4 h3 h1 n1
   |cons a as=>exact zn0 G h4 h3 h1 n1 ha (zaL h6)
 | .meth m tb o es, N, sc, e, X, G, h => by
   simp only[chkE] at h
   replace h:=zae h
   obtain⟨⟨oe,m',ap,args,cp⟩,q,h⟩:=h
   cases zb4 q
   simp only[Bool.and_eq_true,Bool.or_eq_true,decide_eq_true_eq] at h
   obtain⟨⟨⟨⟨⟨⟨⟨rfl,h1⟩,h2⟩,h3⟩,h4⟩,h5⟩,h6⟩,h7⟩:=h
   have ho:=zaf o G h6
   have ha:=(zaU es G h7).1
   cases args with
   | nil =>
     have:es=.nil:=by
      cases es with
      |nil=>rfl
      |cons _ _=>rcases h5 with z|z<;>cases z
     rw[this]
     exact ziB G h1 ho h2 h3
   |cons a as=>exact zkm G h1 ho ha (zaL h7) h2 h3 h4
 | .isc cs x a, N, sc, e, X, G, h => by
   simp only[chkE] at h
   replace h:=zae h
   obtain⟨⟨x',args⟩,q,h⟩:=h
   obtain⟨p2,p,rfl⟩:=zaO q
   replace h:=zae h
   obtain⟨⟨e1,e2⟩,q2,h⟩:=h
   cases two_inv q2
   replace h:=zae h
   obtain⟨y,q3,h⟩:=h
   obtain⟨p3,rfl⟩:=zaX q3
   simp only[Bool.and_eq_true,decide_eq_true_eq] at h
   obtain⟨⟨⟨⟨⟨⟨⟨h0,h1⟩,rfl⟩,h2⟩,h3⟩,h4⟩,h5⟩,h6⟩:=h
   cases za9 h0
   exact zma G (zba G h1) h2 (zbY h3).1 h4 (zaf a G h6) h5
 | .callC f x m es, N, sc, e, X, G, h => by
   simp only[chkE] at h
   replace h:=zae h
   obtain⟨⟨oe,m',ap,args,cp⟩,q,h⟩:=h
   cases zb4 q
   replace h:=zae h
   obtain⟨y,q3,h⟩:=h
   obtain⟨p3,rfl⟩:=zaX q3
   simp only[Bool.and_eq_true,decide_eq_true_eq] at h
   obtain⟨⟨⟨⟨⟨⟨⟨⟨rfl,rfl⟩,h1⟩,h2⟩,h3⟩,h4⟩,h5⟩,h6⟩,h7⟩:=h
   cases args with
   |nil=>cases h6
   |cons a as=>exact ziG G h3 h1 (zbY h2).1 rfl (zaU es G h7).1 (zaL h7) h5 h4
 | .clr a, N, sc, e, X, G, h => by
   simp only[chkE] at h
   replace h:=zae h
   obtain⟨⟨oe,m',ap,args,cp⟩,q,h⟩:=h
   cases zb4 q
   simp only[Bool.and_eq_true,List.isEmpty_iff] at h
   obtain⟨⟨⟨⟨h0,h1⟩,h2⟩,rfl⟩,h4⟩:=h
   cases za9 h0
   exact zmf (zaf a G h4) h1 h2
 | .sl a ml mh lo hi, N, sc, e, X, G, h => by
   simp only[chkE] at h
   replace h:=zae h
   obtain⟨⟨x,i⟩,q,h⟩:=h
   obtain⟨p,rfl⟩:=zcF q
   replace h:=zae h
   obtain⟨⟨l,u⟩,q2,h⟩:=h
   obtain⟨p2,rfl⟩:=ziL q2
   simp only[Bool.and_eq_true] at h
   obtain⟨⟨h1,h2⟩,h3⟩:=h
   refine znY (zaf a G h1) (zhs (fun z=>?_) fun e z=>?_) (zhs (fun z=>?_) fun e z=>?_)
   · subst z;simpa using h2
   · subst z
     simp only[Bool.and_eq_true] at h2
     exact⟨h2.1,zaf lo G h2.2⟩
   · subst z;simpa using h3
   · subst z
     simp only[Bool.and_eq_true] at h3
     exact⟨h3.1,zaf hi G h3.2⟩
 | .call f j es, N, sc, e, X, G, h => by
   simp only[chkE] at h
   replace h:=zae h
   obtain⟨⟨x,args⟩,q,h⟩:=h
   obtain⟨p2,p,rfl⟩:=zaO q
   simp only[Bool.and_eq_true,Bool.or_eq_true] at h
   obtain⟨⟨⟨⟨h1,h2⟩,h3⟩,h4⟩,h5⟩:=h
   obtain⟨n1,n2,n3⟩:=zbY h2
   obtain⟨ps,nd,hf,hj⟩:=zhZ h3
   have ha:=(zaU es G h5).1
   cases args with
   | nil =>
     have:es=.nil:=by
      cases es with
      |nil=>rfl
      |cons _ _=>rcases h4 with z|z<;>cases z
     rw[this]
     exact ziH G hf hj h1 n1
   |cons a as=>exact zkq G hf hj h1 n1 ha (zaL h5)
 | .callW f j es, N, sc, e, X, G, h => by
   simp only[chkE] at h
   replace h:=zae h
   obtain⟨⟨x,args⟩,q,h⟩:=h
   obtain⟨p2,p,rfl⟩:=zaO q
   simp only[Bool.and_eq_true] at h
   obtain⟨⟨⟨⟨h1,h2⟩,h3⟩,h4⟩,h5⟩:=h
   obtain⟨n1,n2,n3⟩:=zbY h2
   obtain⟨ps,nd,hf,hj⟩:=zhZ h3
   have ha:=(zaU es G h5).1
   cases args with
   |nil=>cases h4
   |cons a as=>exact ziF G hf hj h1 n1 ha (zaL h5)
 | .bi b es, N, sc, e, X, G, h => by
   simp only[chkE] at h
   replace h:=zae h
   obtain⟨⟨x,args⟩,q,h⟩:=h
   obtain⟨p2,p,rfl⟩:=zaO q
   rw[Bool.and_eq_true,Bool.and_eq_true] at h
   obtain⟨⟨h1,h2⟩,h3⟩:=h
   obtain⟨n1,n2,n3⟩:=zbY h2
   split at h3
   · rename_i t qt
     replace h3:=zae h3
     obtain⟨⟨e1,e2⟩,q2,h3⟩:=h3
     cases two_inv q2
     replace h3:=zae h3
     obtain⟨y,q3,h3⟩:=h3
     obtain⟨p3,rfl⟩:=zaX q3
     simp only[Bool.and_eq_true] at h3
     obtain⟨⟨⟨⟨⟨hx,h4⟩,h5⟩,h6⟩,h7⟩,h8⟩:=h3
     cases za9 hx
     obtain⟨m1,m2,m3⟩:=zbY h6
     obtain⟨t1,t2⟩:=zlI h4
     obtain⟨a,ea⟩:=zf9 h7
     have he:=(zaU es G h8).2 a .nil e1 [] ea rfl
     have hst:=zaL h8
     have eb:b=.isin t:=by
      cases b with
      |isin _=>cases qt;rfl
      |_=>cases qt
     rw[ea,eb]
     exact zkn G (zba G h1) (zba G h5) t2 t1 m3 m1 he (by simpa using hst)
   · rw[Bool.and_eq_true,Bool.and_eq_true] at h3
     cases args with
     |nil=>cases h3.1.2
     | cons a as =>
       obtain⟨id,hc,hv⟩:=zgK G h3.1.1
       exact zn2 hc (zba G h1) hv (zaU es G h3.2).1 (zaL h3.2) n3 n1
 | .mt m o es, N, sc, e, X, G, h => by
   simp only[chkE] at h
   replace h:=zae h
   obtain⟨⟨oe,x,ap,e1,cp⟩,q,h⟩:=h
   cases zdu q
   simp only[Bool.and_eq_true] at h
   obtain⟨⟨⟨⟨⟨h1,h2⟩,h3⟩,h4⟩,h5⟩,h6⟩:=h
   obtain⟨a,ea⟩:=zf9 h4
   have he:=(zaU es G h6).2 a .nil e1 [] ea rfl
   have hst:zaj e1=true:=by simpa using zaL h6
   rw[ea]
   cases m with
   | append =>
     cases za9 h1
     exact zkk PySem.F.slot_list_append PySem.F.type_list_append zim (zaf o G h5) he hst h2 h3
   | popAt =>
     cases za9 h1
     exact zkk PySem.F.slot_list_pop PySem.F.type_list_pop ziT (zaf o G h5) he hst h2 h3
   | count =>
     cases za9 h1
     exact zkk PySem.F.slot_list_count PySem.F.type_list_count zjC (zaf o G h5) he hst h2 h3
 | .mkL l, N, sc, e, X, G, h => by
   simp only[chkE] at h
   split at h
   · rename_i c
     split at h
     · have ht:zk9 l=true:=by
        cases l with
        |comp=>rfl
        |_=>cases c
       exact PE.imp ((zbv l G h).2.1 ht) fun σ H Qv q=>zhv q
     · replace h:=zae h
       obtain⟨⟨x,e1⟩,q,h⟩:=h
       obtain⟨p2,p,rfl⟩:=zaG q
       simp only[Bool.and_eq_true] at h
       obtain⟨⟨⟨hx,h1⟩,h2⟩,h4⟩:=h
       cases za9 hx
       have hr:zhK l=false:=by
        cases l with
        |comp=>rfl
        |_=>cases c
       exact zjL G (zba G h1) ((zbv l G h4).1 hr) h2
   · replace h:=zae h
     obtain⟨⟨x,e1⟩,q,h⟩:=h
     obtain⟨p2,p,rfl⟩:=zaG q
     simp only[Bool.and_eq_true,Bool.or_eq_true,Bool.not_eq_true'] at h
     obtain⟨⟨⟨⟨hx,h1⟩,h2⟩,h3⟩,h4⟩:=h
     cases za9 hx
     have hl:=zbv l G h4
     rcases h3 with h3|h3
     · exact zjL G (zba G h1) (hl.1 h3) h2
     · have:∃a,l=.rng1 a:=by
        cases l with
        |rng1 a=>exact⟨a,rfl⟩
        |_=>cases h3
       obtain⟨a,ea⟩:=this
       obtain⟨a',p3,p4,rfl,hr,ha,hs⟩:=hl.2.2.2 a ea
       rw[ea]
       exact zkl G (zba G h1) hr ha hs
 | .mkT l, N, sc, e, X, G, h => by
   simp only[chkE] at h
   replace h:=zae h
   obtain⟨⟨x,e1⟩,q,h⟩:=h
   obtain⟨p2,p,rfl⟩:=zaG q
   simp only[Bool.and_eq_true,Bool.or_eq_true,Bool.not_eq_true'] at h
   obtain⟨⟨⟨⟨hx,h1⟩,h2⟩,h3⟩,h4⟩:=h
   cases za9 hx
   have hl:=zbv l G h4
   rcases h3 with h3|h3
   · exact zl5 G (zba G h1) (hl.1 h3) h2
   · have:∃a,l=.rng1 a:=by
      cases l with
      |rng1 a=>exact⟨a,rfl⟩
      |_=>cases h3
     obtain⟨a,ea⟩:=this
     obtain⟨a',p3,p4,rfl,hr,ha,hs⟩:=hl.2.2.2 a ea
     rw[ea]
     exact ziA G (zba G h1) hr ha hs
 | .all l, N, sc, e, X, G, h => by
   simp only[chkE] at h
   replace h:=zae h
   obtain⟨⟨x,e1⟩,q,h⟩:=h
   obtain⟨p2,p,rfl⟩:=zaG q
   simp only[Bool.and_eq_true,Bool.not_eq_true'] at h
   obtain⟨⟨⟨⟨hx,h1⟩,h2⟩,h3⟩,h4⟩:=h
   cases za9 hx
   exact zmh G (zba G h1) ((zbv l G h4).1 h3) h2
 | .ext a l, N, sc, e, X, G, h => by
   simp only[chkE] at h
   replace h:=zae h
   obtain⟨⟨oe,x,ap,e1,cp⟩,q,h⟩:=h
   cases zdu q
   simp only[Bool.and_eq_true] at h
   obtain⟨⟨⟨⟨⟨⟨hx,h1⟩,h2⟩,h3⟩,h4⟩,h5⟩,h6⟩:=h
   cases za9 hx
   exact zmc (zaf a G h5) ((zbv l G h6).2.1 h4) h1 h2 h3
 | .d3srt a, N, sc, e, X, G, h => by
   simp only[chkE] at h
   replace h:=zae h
   obtain⟨⟨x,e1⟩,q,h⟩:=h
   obtain⟨p2,p,rfl⟩:=zaG q
   simp only[Bool.and_eq_true] at h
   obtain⟨⟨⟨hx,h1⟩,h3⟩,h5⟩:=h
   cases za9 hx
   exact ziE G (zba G h1) (zaf a G h5) h3
 | .srt3 a, N, sc, e, X, G, h => by
   simp only[chkE] at h
   replace h:=zae h
   obtain⟨⟨x,e1⟩,q,h⟩:=h
   obtain⟨p2,p,rfl⟩:=zaG q
   simp only[Bool.and_eq_true] at h
   obtain⟨⟨⟨hx,h1⟩,h3⟩,h5⟩:=h
   cases za9 hx
   exact zkj G (zba G h1) (zaf a G h5) h3
 | .d3keys a, N, sc, e, X, G, h => by
   simp only[chkE] at h
   replace h:=zae h
   obtain⟨⟨x,e1⟩,q,h⟩:=h
   obtain⟨p2,p,rfl⟩:=zaG q
   simp only[Bool.and_eq_true] at h
   obtain⟨⟨⟨hx,h1⟩,h3⟩,h5⟩:=h
   cases za9 hx
   exact zg6 G (zba G h1) (zaf a G h5) h3
 | .dnew3, N, sc, e, X, G, h => by
   simp only[chkE] at h
   obtain⟨p,rfl⟩:=zb5 h
   exact ziD
theorem zaU:∀(ces:CEs) {N:List Str} {sc:Scope} {es:List Expr} {X:Cx},Gd T cf k N sc X->zbs T ces N sc es=true->EsOk cf ces X es
 | .nil, N, sc, es, X, G, h => by
   simp only[zbs,List.isEmpty_iff] at h
   subst h
   exact⟨zjO,fun a r e es' z=>nomatch z⟩
 | .cons a r, N, sc, es, X, G, h => by
   cases es with
   |nil=>simp[zbs] at h
   | cons e es =>
     simp only[zbs,Bool.and_eq_true] at h
     have he:=zaf a G h.1.2
     exact⟨zg8 he (zaU r G h.2).1 h.1.1,fun a' r' e' es' z1 z2=>by cases z1;cases z2;exact he⟩
theorem za8:∀(ce:CE) {N:List Str} {sc:Scope} {e:Expr} {X:Cx},Gd T cf k N sc X->chkT T ce N sc e=true->PT X e (tT X.K cf ce)/\((∃op v r p,e=.BoolOp op (v::r) p)->PW X e (tT X.K cf ce))
 | .cmp op a b, N, sc, e, X, G, h => by
   simp only[chkT] at h
   replace h:=zae h
   obtain⟨⟨l,os,rs⟩,q,h⟩:=h
   obtain⟨p,rfl⟩:=zev q
   rw[Bool.and_eq_true,decide_eq_true_eq] at h
   obtain⟨e1,h⟩:=h
   replace h:=zae h
   obtain⟨r,q2,h⟩:=h
   cases zbl q2
   cases e1
   simp only[Bool.and_eq_true] at h
   exact⟨zlU G (zaf a G h.1.2) (zaf b G h.2) h.1.1,fun⟨_,_,_,_,z⟩=>nomatch z⟩
 | .nt a, N, sc, e, X, G, h => by
   simp only[chkT] at h
   replace h:=zae h
   obtain⟨⟨o,x⟩,q,h⟩:=h
   obtain⟨p,rfl⟩:=zdQ q
   simp only[Bool.and_eq_true,decide_eq_true_eq] at h
   obtain⟨rfl,h1⟩:=h
   exact⟨znW (za8 a G h1).1,fun⟨_,_,_,_,z⟩=>nomatch z⟩
 | .and a b, N, sc, e, X, G, h => by
   simp only[chkT] at h
   replace h:=zae h
   obtain⟨⟨o,vs,p⟩,q,h⟩:=h
   cases zbN q
   rw[Bool.and_eq_true,decide_eq_true_eq] at h
   obtain⟨e1,h⟩:=h
   cases e1
   dsimp only at h
   split at h
   · rename_i x y rest
     rw[Bool.and_eq_true] at h
     obtain⟨h1,h2⟩:=h
     split at h2
     · rename_i c
       cases List.isEmpty_iff.mp c
       have w:=zjJ (pos:=p) (za8 a G h1).1 (zkB (za8 b G h2).1)
       exact⟨w.pt,fun _=>w⟩
     · have w:=zjJ (za8 a G h1).1 ((za8 b G h2).2 ⟨_,_,_,_,rfl⟩)
       exact⟨w.pt,fun _=>w⟩
   · cases h
 | .or a b, N, sc, e, X, G, h => by
   simp only[chkT] at h
   replace h:=zae h
   obtain⟨⟨o,vs,p⟩,q,h⟩:=h
   cases zbN q
   rw[Bool.and_eq_true,decide_eq_true_eq] at h
   obtain⟨e1,h⟩:=h
   cases e1
   dsimp only at h
   split at h
   · rename_i x y rest
     rw[Bool.and_eq_true] at h
     obtain⟨h1,h2⟩:=h
     split at h2
     · rename_i c
       cases List.isEmpty_iff.mp c
       have w:=zlT (pos:=p) (za8 a G h1).1 (zmr (za8 b G h2).1)
       exact⟨w.pt,fun _=>w⟩
     · have w:=zlT (za8 a G h1).1 ((za8 b G h2).2 ⟨_,_,_,_,rfl⟩)
       exact⟨w.pt,fun _=>w⟩
   · cases h
 | .tst a, N, sc, e, X, G, h => by
   simp only[chkT,Bool.and_eq_true] at h
   exact⟨zlS (zaf a G h.2) h.1,fun⟨_,_,_,_,z⟩=>by rw[z] at h;simp[zfQ] at h⟩
 |.loc i,N,sc,e,X,G,h=>absurd h Bool.false_ne_true
 |.con d,N,sc,e,X,G,h=>absurd h Bool.false_ne_true
 |.bin op a b,N,sc,e,X,G,h=>absurd h Bool.false_ne_true
 |.neg a,N,sc,e,X,G,h=>absurd h Bool.false_ne_true
 |.ite c a b,N,sc,e,X,G,h=>absurd h Bool.false_ne_true
 |.tup es,N,sc,e,X,G,h=>absurd h Bool.false_ne_true
 |.lst es,N,sc,e,X,G,h=>absurd h Bool.false_ne_true
 |.dnew,N,sc,e,X,G,h=>absurd h Bool.false_ne_true
 |.dnewT,N,sc,e,X,G,h=>absurd h Bool.false_ne_true
 |.ix a b,N,sc,e,X,G,h=>absurd h Bool.false_ne_true
 |.fld a f,N,sc,e,X,G,h=>absurd h Bool.false_ne_true
 |.mk c f x j es,N,sc,e,X,G,h=>absurd h Bool.false_ne_true
 |.meth m tb o es,N,sc,e,X,G,h=>absurd h Bool.false_ne_true
 |.isc cs x a,N,sc,e,X,G,h=>absurd h Bool.false_ne_true
 |.callC f x m es,N,sc,e,X,G,h=>absurd h Bool.false_ne_true
 |.clr a,N,sc,e,X,G,h=>absurd h Bool.false_ne_true
 |.sl a ml mh lo hi,N,sc,e,X,G,h=>absurd h Bool.false_ne_true
 |.call f j es,N,sc,e,X,G,h=>absurd h Bool.false_ne_true
 |.callW f j es,N,sc,e,X,G,h=>absurd h Bool.false_ne_true
 |.bi b es,N,sc,e,X,G,h=>absurd h Bool.false_ne_true
 |.mt m o es,N,sc,e,X,G,h=>absurd h Bool.false_ne_true
 |.mkL l,N,sc,e,X,G,h=>absurd h Bool.false_ne_true
 |.mkT l,N,sc,e,X,G,h=>absurd h Bool.false_ne_true
 |.all l,N,sc,e,X,G,h=>absurd h Bool.false_ne_true
 |.ext a l,N,sc,e,X,G,h=>absurd h Bool.false_ne_true
 |.dnew3,N,sc,e,X,G,h=>absurd h Bool.false_ne_true
 |.d3keys a,N,sc,e,X,G,h=>absurd h Bool.false_ne_true
 |.d3srt a,N,sc,e,X,G,h=>absurd h Bool.false_ne_true
 |.srt3 a,N,sc,e,X,G,h=>absurd h Bool.false_ne_true
theorem zbv:∀(cl:CL) {N:List Str} {sc:Scope} {e:Expr} {X:Cx},Gd T cf k N sc X->chkL T cl N sc e=true->LOk T cf k cl X e
 | .val a, N, sc, e, X, G, h => by
   simp only[chkL,Bool.and_eq_true] at h
   have hp:=zlZ (zaf a G h.2)
   exact⟨fun _=>hp,fun z=>(by cases z),fun tg _=>zg5 hp zm2,fun a z=>nomatch z⟩
 | .callL f j es, N, sc, e, X, G, h => by
   simp only[chkL] at h
   replace h:=zae h
   obtain⟨⟨x,args⟩,q,h⟩:=h
   obtain⟨p2,p,rfl⟩:=zaO q
   simp only[Bool.and_eq_true] at h
   obtain⟨⟨⟨⟨h1,h2⟩,h3⟩,h4⟩,h5⟩:=h
   obtain⟨n1,n2,n3⟩:=zbY h2
   obtain⟨ps,nd,hf,hj⟩:=zhZ h3
   have ha:=(zaU es G h5).1
   cases args with
   |nil=>cases h4
   | cons a as =>
     have hp:=zkd G (p:=p2) (pos:=p) hf hj h1 n1 ha (zaL h5)
     exact⟨fun _=>(PE.ofT hp),fun _=>hp,fun tg _=>zg5 (PE.ofT hp) zje,fun a z=>nomatch z⟩
 | .rng1 a, N, sc, e, X, G, h => by
   simp only[chkL] at h
   replace h:=zae h
   obtain⟨⟨x,e1⟩,q,h⟩:=h
   obtain⟨p2,p,rfl⟩:=zaG q
   simp only[Bool.and_eq_true] at h
   obtain⟨⟨⟨hx,h1⟩,h2⟩,h3⟩:=h
   cases za9 hx
   have he:=zaf a G h3
   exact⟨fun z=>(by cases z),fun z=>(by cases z),fun tg _=>zkf (zba G h1) he h2,fun a z=>by cases z;exact⟨e1,p2,p,rfl,zba G h1,he,h2⟩⟩
 | .rng2 a b, N, sc, e, X, G, h => by
   simp only[chkL] at h
   replace h:=zae h
   obtain⟨⟨x,args⟩,q,h⟩:=h
   obtain⟨p2,p,rfl⟩:=zaO q
   replace h:=zae h
   obtain⟨⟨e1,e2⟩,q2,h⟩:=h
   cases two_inv q2
   simp only[Bool.and_eq_true] at h
   obtain⟨⟨⟨⟨⟨hx,h1⟩,h2⟩,h3⟩,h4⟩,h5⟩:=h
   cases za9 hx
   exact⟨fun z=>(by cases z),fun z=>(by cases z),fun tg _=>zke (zba G h1) (zaf a G h4) (zaf b G h5) h2 h3,fun a z=>nomatch z⟩
 | .enum a, N, sc, e, X, G, h => by
   simp only[chkL] at h
   replace h:=zae h
   obtain⟨⟨x,e1⟩,q,h⟩:=h
   obtain⟨p2,p,rfl⟩:=zaG q
   simp only[Bool.and_eq_true] at h
   obtain⟨⟨⟨hx,h1⟩,h2⟩,h3⟩:=h
   cases za9 hx
   refine⟨fun z=>(by cases z),fun z=>(by cases z),fun tg ht=>?_,fun a z=>nomatch z⟩
   cases tg with
   |Tuple es j pt=>exact zkg (zba G h1) (zaf a G h3) h2
   |_=>cases ht
 | .comp nt js g it c e, N, sc, ex, X, G, h => by
   simp only[chkL] at h
   replace h:=zae h
   obtain⟨⟨elt,gs,scope,p⟩,q,h⟩:=h
   cases zfN q
   replace h:=zae h
   obtain⟨⟨tg,iter,ifs,asy⟩,q2,h⟩:=h
   cases zbl q2
   rw[Bool.and_eq_true,Bool.and_eq_true,Bool.and_eq_true,Bool.and_eq_true,Bool.and_eq_true,Bool.and_eq_true,Bool.and_eq_true,Bool.and_eq_true,decide_eq_true_eq,decide_eq_true_eq,decide_eq_true_eq] at h
   obtain⟨⟨⟨⟨⟨⟨⟨⟨h1,h2⟩,h3⟩,h4⟩,h5⟩,h6⟩,h7⟩,h8⟩,h9⟩:=h
   dsimp only at h1 h2 h3 h4 h5 h6 h7 h8 h9
   rw[Bool.and_eq_true] at h3
   subst h1 h5
   have ok:=zf8 G h2
   have G':=zhX G (tgs:=zbR tg) ok h6
   have ht:∀cl C fp s H pn,PTs (zaI X (capN X.N (zbR tg) js) scope cl C fp s H pn) ifs (tT X.K cf c):=fun cl C fp s H pn=>by
    split at h8
    · rename_i ce
      cases List.isEmpty_iff.mp ce
      exact zfG (X:=zaI X (capN X.N (zbR tg) js) scope cl C fp s H pn) h8
    · replace h8:=zae h8
      obtain⟨t,q3,h8⟩:=h8
      cases zbl q3
      exact zhk (za8 c (G' cl C fp s H pn) h8).1
   have hp:PE X (.ListComp elt [⟨tg,iter,ifs,0⟩] scope p) (tLt X.K cf (.comp (zbR tg).length js g it c e)):=
    PE.imp (zi0 X.env.scope (zbR tg) js G.calm rfl ok ((zbv it G h4).2.2.1 tg h3.2) (fun cl C fp s H pn=>zj3 (G' cl C fp s H pn) h7) ht (fun cl C fp s H pn=>zaf e (G' cl C fp s H pn) h9) (zfr h3.1 X.env)) fun σ H Qv q=>zf7 G.tab.frm q
   exact⟨fun _=>(PE.ofT hp),fun _=>hp,fun tg _=>zg5 (PE.ofT hp) zk1,fun a z=>nomatch z⟩
end
end
end R
end
section
set_option maxHeartbeats 4000000
namespace R
open PySem PySem.Spec PyProof.Rows L2
variable [Mks]
section
variable {T:Tab} {cf:CF} {k:Nat}
theorem zj9 {N:List Str}{sc:Scope}{X:Cx}{rest:List Stmt}{p pos p2:Pos}(G:Gd T cf k N sc X){i:Nat}{x:Str}{l:CL}{elt:Expr}{gs:List Comprehension}{scope:Scope}{r:CS}(hi:N[i]?=some x)(hl:zeL sc x=true)(h:chkE T (.mkL l) N sc (.ListComp elt gs scope p2)=true)(hr:PSs X rest (tS X.K cf r)) :
  PSs X (.Assign [.Name x p] (.ListComp elt gs scope p2) pos::rest) (tS X.K cf (.asg i (.mkL l) r)):=by
 have hw:∃b,swapsWith (.ListComp elt gs scope p2) (some (.Name x p)) pos.line X.env=pure b:=⟨_,rfl⟩
 obtain⟨b,hw⟩:=hw
 cases b with
 | false =>
   refine PSs.imp (zbc (zjP (i:=i) (by rw[G.nm];exact G.nd) (by rw[G.nm];exact hi) (G.lc hl).1 (zaf (.mkL l) G h) hw (G.lc hl).2) hr) fun E σ H ⟨δ,ι,S,Q,hs,hh,w,lf⟩=>?_
   simp only[exS,zaa] at w
   refine tE.run hs hh w fun d v ι1 H1 S1 x1 hs1 hh1 r1 w1=>?_
   exact⟨δ.set i (some d),ι1,S1,Q,hs1.set r1 i,hh1,w1,lf.up x1⟩
 | true =>
   simp only[chkE] at h
   split at h
   · rename_i c0
     split at h
     · cases l with
       | comp nt js g it c e =>
         simp only[chkL] at h
         replace h:=zae h
         obtain⟨⟨elt',gs',scope',p'⟩,q,h⟩:=h
         cases zfN q
         replace h:=zae h
         obtain⟨⟨tg,iter,ifs,asy⟩,q2,h⟩:=h
         cases zbl q2
         rw[Bool.and_eq_true,Bool.and_eq_true,Bool.and_eq_true,Bool.and_eq_true,Bool.and_eq_true,Bool.and_eq_true,Bool.and_eq_true,Bool.and_eq_true,decide_eq_true_eq,decide_eq_true_eq,decide_eq_true_eq] at h
         obtain⟨⟨⟨⟨⟨⟨⟨⟨h1,h2⟩,h3⟩,h4⟩,h5⟩,h6⟩,h7⟩,h8⟩,h9⟩:=h
         dsimp only at h1 h2 h3 h4 h5 h6 h7 h8 h9
         rw[Bool.and_eq_true] at h3
         subst h1 h5
         have ok:=zf8 G h2
         have G':=zhX G (tgs:=zbR tg) ok h6
         have ht:∀cl C fp s H pn,PTs (zaI X (capN X.N (zbR tg) js) scope cl C fp s H pn) ifs (tT X.K cf c):=fun cl C fp s H pn=>by
          split at h8
          · rename_i ce
            cases List.isEmpty_iff.mp ce
            exact zfG (X:=zaI X (capN X.N (zbR tg) js) scope cl C fp s H pn) h8
          · replace h8:=zae h8
            obtain⟨t,q3,h8⟩:=h8
            cases zbl q3
            exact zhk (za8 c (G' cl C fp s H pn) h8).1
         have he:∀cl C fp s H pn,PE (zaI X (capN X.N (zbR tg) js) scope cl C fp s H pn) elt (tE X.K cf e):=fun cl C fp s H pn=>zaf e (G' cl C fp s H pn) h9
         have hg:∀cl C fp s H pn,PG (zaI X (capN X.N (zbR tg) js) scope cl C fp s H pn) tg (tG X.K g):=fun cl C fp s H pn=>zj3 (G' cl C fp s H pn) h7
         have hps:=zkH (spos:=pos) (py:=p) (pos:=p2) X.env.scope (zbR tg) js (i:=i) (y:=x) (by rw[G.nm];exact G.nd) (by rw[G.nm];exact hi) (G.lc hl).1 G.calm rfl ok ((zbv it G h4).2.2.1 tg h3.2) hg ht he hw (zfr h3.1 X.env) (G.lc hl).2
         exact zka G hi ⟨_,hps,fun σ H Qv q=>zf7 G.tab.frm (zhv q)⟩ hr
       |_=>cases c0
     · cases h
   · cases h
theorem zlo {v:Expr}(h:zbm v=false){e:CE}{N:List Str}{sc:Scope}(hc:chkE T e N sc v=true):∃l elt gs scope p,v=.ListComp elt gs scope p/\e=.mkL l:=by
 cases v with
 | ListComp elt gs scope p =>
   cases e with
   |mkL l=>exact⟨l,elt,gs,scope,p,rfl,rfl⟩
   |_=>simp[chkE,zbq,zcH,zhi,rdUn,zgp,zcr,rdIf,zgn,zeu,zb6,zff,zfe,za1,za2,zbV,zcG,zbA,zbW] at hc
 |SetComp=>cases e<;>simp[chkE,zbq,zcH,zhi,rdUn,zgp,zcr,rdIf,zgn,zeu,zb6,zff,zfe,za1,za2,zbV,zcG,zbA,zbW,rdLC,chkL] at hc
 |DictComp=>cases e<;>simp[chkE,zbq,zcH,zhi,rdUn,zgp,zcr,rdIf,zgn,zeu,zb6,zff,zfe,za1,za2,zbV,zcG,zbA,zbW,rdLC,chkL] at hc
 |_=>cases h
theorem zbk:∀(cs:CS) {N:List Str} {sc:Scope} {st:List Stmt} {X:Cx},Gd T cf k N sc X->chkS T cs N sc st=true->PSs X st (tS X.K cf cs)
 | .nil, N, sc, st, X, G, h => by
   simp only[chkS,List.isEmpty_iff] at h
   subst h
   exact zlW
 |.stop,N,sc,st,X,G,h=>fun pins s σ H E I ⟨δ,ι,S,Q,hs,hh,w,l⟩=>(by simp only[exS] at w;exact w.elim)
 | .asg i e r, N, sc, st, X, G, h => by
   cases st with
   |nil=>simp[chkS] at h
   | cons s rest =>
     simp only[chkS] at h
     replace h:=zae h
     obtain⟨⟨tg,v,pos⟩,q,h⟩:=h
     cases zcI q
     replace h:=zae h
     obtain⟨x,q2,h⟩:=h
     obtain⟨p,hx⟩:=zaX q2
     dsimp only at hx
     subst hx
     simp only[Bool.and_eq_true,beq_iff_eq] at h
     obtain⟨⟨⟨h1,h2⟩,h3⟩,h4⟩:=h
     have hr:=zbk r G h4
     cases hn:zbm v with
     |true=>exact zlY G h1 h2 (zaf e G h3) hn hr
     | false =>
       obtain⟨l,elt,gs,scope,p2,rfl,rfl⟩:=zlo hn h3
       exact zj9 G h1 h2 h3 hr
 | .setF a f e r, N, sc, st, X, G, h => by
   cases st with
   |nil=>simp[chkS] at h
   | cons s rest =>
     simp only[chkS] at h
     replace h:=zae h
     obtain⟨⟨tg,v,pos⟩,q,h⟩:=h
     cases zcI q
     replace h:=zae h
     obtain⟨⟨o,f',p⟩,q2,h⟩:=h
     have hx:=zbO q2
     dsimp only at hx
     subst hx
     simp only[Bool.and_eq_true,decide_eq_true_eq] at h
     obtain⟨⟨⟨⟨⟨h1,h2⟩,h3⟩,h4⟩,h5⟩,h6⟩:=h
     subst h1
     exact zj7 G h2 (zaf a G h4) (zaf e G h5) h3 (zbk r G h6)
 | .setIx a b e r, N, sc, st, X, G, h => by
   cases st with
   |nil=>simp[chkS] at h
   | cons s rest =>
     simp only[chkS] at h
     replace h:=zae h
     obtain⟨⟨tg,v,pos⟩,q,h⟩:=h
     cases zcI q
     replace h:=zae h
     obtain⟨⟨o,i⟩,q2,h⟩:=h
     obtain⟨p,hx⟩:=zcF q2
     dsimp only at hx
     subst hx
     simp only[Bool.and_eq_true] at h
     obtain⟨⟨⟨⟨h1,h2⟩,h3⟩,h4⟩,h5⟩:=h
     exact zix G (zaf a G h2) (zaf b G h3) (zaf e G h4) h1 (zbk r G h5)
 | .ifS c t u r, N, sc, st, X, G, h => by
   cases st with
   |nil=>simp[chkS] at h
   | cons s rest =>
     simp only[chkS] at h
     replace h:=zae h
     obtain⟨⟨e,a,b⟩,q,h⟩:=h
     obtain⟨p,rfl⟩:=zhe q
     simp only[Bool.and_eq_true] at h
     exact znX (za8 c G h.1.1.1).1 (zbk t G h.1.1.2) (zbk u G h.1.2) (zbk r G h.2)
 | .forS g l b r, N, sc, st, X, G, h => by
   cases st with
   |nil=>simp[chkS] at h
   | cons s rest =>
     simp only[chkS] at h
     replace h:=zae h
     obtain⟨⟨tg,it,body⟩,q,h⟩:=h
     obtain⟨p,rfl⟩:=zhf q
     simp only[Bool.and_eq_true] at h
     obtain⟨⟨⟨⟨h1,h2⟩,h3⟩,h4⟩,h5⟩:=h
     exact zlX G ((zbv l G h2).2.2.1 tg h5.2) (zj3 G h5.1) (zbk b G h3) h1 (zbk r G h4)
 | .ret e r, N, sc, st, X, G, h => by
   cases st with
   |nil=>simp[chkS] at h
   | cons s rest =>
     simp only[chkS] at h
     replace h:=zae h
     obtain⟨v,q,h⟩:=h
     obtain⟨p,rfl⟩:=zhd q
     simp only[Bool.and_eq_true] at h
     exact zlV (zaf e G h.1) (zbk r G h.2)
 | .expr e r, N, sc, st, X, G, h => by
   cases st with
   |nil=>simp[chkS] at h
   | cons s rest =>
     simp only[chkS] at h
     replace h:=zae h
     obtain⟨v,q,h⟩:=h
     obtain⟨p,rfl⟩:=zhg q
     simp only[Bool.and_eq_true] at h
     exact zj8 (zaf e G h.1.2) h.1.1 (zbk r G h.2)
theorem RS.start {K:PySem.W.Frag}{ι:List Addr}{H:Hp}{F:Fn}{N:List Str}{ds:List D}{vs:List V}(r:RVs K ι H ds vs)(hl:ds.length=F.np)(hn:F.nn=N.length):RS K ι H (zaW F ds) (L2.start N vs):=by
 have hlen:=r.length
 refine⟨by simp[zaW,L2.start,hlen,hl,hn],fun i d e=>?_⟩
 unfold zaW at e
 unfold L2.start
 by_cases hi:i<ds.length
 · rw[List.getElem?_append_left (by simpa using hi),List.getElem?_map] at e
   rw[List.getElem?_append_left (by simpa[hlen] using hi),List.getElem?_map]
   cases z:ds[i]? with
   |none=>rw[z] at e;cases e
   | some d' =>
     rw[z] at e
     simp only[Option.map_some,Option.some.injEq] at e
     subst e
     obtain⟨v,ev,rv⟩:=r.get z
     exact⟨v,by rw[ev];rfl,rv⟩
 · rw[List.getElem?_append_right (by simpa using hi),List.getElem?_replicate] at e
   split at e<;>cases e
structure DefOk (K:PySem.W.Frag) (mg:Str->Option Value) (T:Tab) (Pg:List Fn) (fi:Nat) (x:Str) (ps:List Str) (nd:Nat):Prop where
 ex:∃(F:Fn) (qual:Str) (st:Stmt) (dV:Value) (f:Addr) (fd:FuncData) (N:List Str),Pg[fi]?=some F/\F.prim=none/\FunV K x qual st dV f fd/\FnScope N ps (zad st)/\chkS T F.body N (zad st) (zai st)=true/\F.np=ps.length/\F.nn=N.length/\
  mg x=some (.ref f)/\∀j,j<=nd->Binds K fd ps (List.replicate j Value.none)
theorem zkJ {S:R.St}{p:Prim}{ds:List D}{d:D}{T':R.St}(h:prm S p ds=.ok d T'):Frm S T':=by
 unfold prm at h
 split at h
 · split at h
   · split at h
     · split at h
       · injection h with _ h2;rw[<-h2];exact Frm.push _ _
       · cases h
     · cases h
   · cases h
 · cases h
theorem zc5 (Pg:List Fn):∀n:Nat,CFok (callF Pg n)
 |0,f,ds,S,d,T',h=>by cases h
 | n + 1, f, ds, S, d, T', h => by
   simp only[callF] at h
   cases e:Pg[f]? with
   |none=>rw[e] at h;cases h
   | some F =>
     rw[e] at h
     dsimp only at h
     split at h
     · cases ep:F.prim with
       | some p =>
         rw[ep] at h
         dsimp only at h
         split at h
         · exact zkJ h
         · cases h
       |none=>
       rw[ep] at h
       dsimp only at h
       cases ex:exS (callF Pg n) F.body (zaW F ds) S with
       | ok r T2 =>
         rw[ex] at h
         have hf:=zc7 (cf:=callF Pg n) (zc5 Pg n) F.body (zaW F ds) S (fun r' T3=>r'=r/\T3=T2) (by rw[ex];exact⟨rfl,rfl⟩)
         rw[ex] at hf
         cases r with
         |nx δ=>injection h with _ h2;rw[<-h2];exact hf.2
         |rt z=>injection h with _ h2;rw[<-h2];exact hf.2
       |err z T2=>rw[ex] at h;cases h
       |bad=>rw[ex] at h;cases h
     · cases h
variable {P:Program} {w:World} {K:PySem.W.Frag} {mg:Str->Option Value} {base:Heap} {Pg:List Fn}
theorem zcB {n fi:Nat}{F:Fn}{ps:List Str}(hP:Pg[fi]?=some F)(hp:F.np=ps.length){vs:List V}{H:Hp}{Q:VK}{E:XK}(h:spF K (callF Pg n) fi vs H Q E):vs.length=ps.length:=by
 obtain⟨ι,S,ds,r,hh,w⟩:=h
 rw[r.length]
 cases n with
 |zero=>exact w.elim
 | succ n =>
   simp only[callF,hP] at w
   split at w
   · rename_i c;rw[c,hp]
   · exact w.elim
theorem zh8 {n m fi:Nat}{x qual:Str}{st:Stmt}{dV:Value}{f:Addr}{fd:FuncData}{N ps:List Str}{F:Fn}(tab:TabOk T (callF Pg n) m P w K mg base)(FV:FunV K x qual st dV f fd)(hP:Pg[fi]?=some F)(S:FnScope N ps (zad st))(ck:chkS T F.body N (zad st) (zai st)=true)(hp:F.np=ps.length)(hn:F.nn=N.length)(hq:F.prim=none:=by rfl) :
  FnOk P w K mg base CX0 (m+2) f fd ps (spF K (callF Pg (n+1)) fi):=by
 refine FV.ok S (fun vs H Q E h=>zcB hP hp h) fun cdv A outer s H vs Q E hr h=>?_
 obtain⟨ι,S0,ds,r,hh,hw⟩:=h
 have G:Gd T (callF Pg n) m N (zad st) (cxOf CX0 P w K mg base N qual (zad st) f cdv A outer s H E).nox:=
  ⟨rfl,S.nd,fun x e=>e,fun x e=>e,fun x e=>.inl e,fun x e=>e,.inl fun _=>rfl,rfl,rfl,hr,tab⟩
 refine⟨_,zbk F.body G ck,?_⟩
 simp only[callF,hP,hq] at hw
 split at hw
 · rename_i c
   rw[zaa] at hw
   refine⟨zaW F ds,ι,S0,_,RS.start r c hn,hh,hw,?_⟩
   intro fl ι' H' S' x' hh' q
   cases fl with
   |nx δ'=>exact fun σ' hs'=>q .non H' ι' x' rfl hh'
   |rt d=>exact fun v rv=>q v H' ι' x' rv hh'
 · exact hw.elim
structure MOk (K:PySem.W.Frag) (T:Tab) (Pg:List Fn) (fi j:Nat) (Ex:Addr->Prop):Prop where
 ex:∃(F:Fn) (x qual:Str) (st:Stmt) (dV:Value) (f:Addr) (fd:FuncData) (N ps:List Str),Pg[fi]?=some F/\F.prim=none/\FunV K x qual st dV f fd/\FnScope N ps (zad st)/\chkS T F.body N (zad st) (zai st)=true/\F.np=ps.length/\F.nn=N.length/\
  Binds K fd ps (List.replicate j Value.none)/\Ex f
theorem zdU {fi j:Nat}{Ex:Addr->Prop}(z:MOk K T Pg fi j Ex):∃f fd ps,Ex f/\PySem.W.keepIn K (.ref f)=true/\Binds K fd ps (List.replicate j Value.none)/\FnOk P w K mg base CX0 0 f fd ps (spF K (callF Pg 0) fi):=by
 obtain⟨F,x,qual,st,dV,f,fd,N,ps,hP,hq,FV,S,ck,hp,hn,hb,e⟩:=z.ex
 refine⟨f,fd,ps,e,FV.kp,hb,⟨fun vs H Q E h=>zcB hP hp h,fun A outer s H args us vs Q E hr e0 b v h=>?_⟩⟩
 obtain⟨ι,S,ds,r,hh,w⟩:=h
 exact w.elim
theorem zdV {n m fi j:Nat}{Ex:Addr->Prop}(tab:TabOk T (callF Pg n) m P w K mg base)(z:MOk K T Pg fi j Ex):∃f fd ps,Ex f/\PySem.W.keepIn K (.ref f)=true/\Binds K fd ps (List.replicate j Value.none)/\FnOk P w K mg base CX0 (m+2) f fd ps (spF K (callF Pg (n+1)) fi):=by
 obtain⟨F,x,qual,st,dV,f,fd,N,ps,hP,hq,FV,S,ck,hp,hn,hb,e⟩:=z.ex
 exact⟨f,fd,ps,e,FV.kp,hb,zh8 tab FV hP S ck hp hn hq⟩
noncomputable def ExM (K:PySem.W.Frag)(c:Nat)(m:Str)(f:Addr):Prop:=∃C,Mks.cl[c]?=some C/\Cls K C/\Meth K C m f
noncomputable def ExI (K:PySem.W.Frag)(c:Nat)(f:Addr):Prop:=∃C,Mks.cl[c]?=some C/\Mk K C f
noncomputable def ExC (K:PySem.W.Frag)(mg:Str->Option Value)(x m:Str)(f:Addr):Prop:=∃(C:Addr) (mc:Value),mg x=some (.ref C)/\PySem.W.specialIn K (.ref C) "__getattribute__"=some (some (.builtin "type.__getattribute__"))/\PySem.W.readsIn K C mc=true/\PySem.W.findCls K (.ref C) mc m=some (.val (.ref f))
structure ClsOk (T:Tab) (K:PySem.W.Frag) (mg:Str->Option Value) (Pg:List Fn):Prop where
 cls:∀(c:Nat) (x:Str),T.cls[c]?=some x->∃C,Mks.cl[c]?=some C/\Cls K C/\mg x=some (.ref C)/\∀f,T.flds.contains f=true->NoAttr K C f
 mth:∀(c:Nat) (m:Str) (fi:Nat),T.mts.contains (c,m,fi)=true->MOk K T Pg fi 0 (ExM K c m)
 ini:∀(c fi j:Nat),T.inits.contains (c,fi,j)=true->MOk K T Pg fi j (ExI K c)
 cmd:∀(x m:Str) (fi:Nat),T.cms.contains (x,m,fi)=true->MOk K T Pg fi 0 (ExC K mg x m)
 cln:Mks.cl.length<=T.cls.length
 isa:∀(x:Str) (cs:List Nat),T.isas.contains (x,cs)=true->∃D,mg x=some (.ref D)/\∀c C,Mks.cl[c]?=some C->IsaOk K C/\PySem.W.kitOne K (.ref C) (.ref D)=some (cs.contains c)
theorem zhT {k c fi:Nat}{m:Str}(h:∃f fd ps,ExM K c m f/\PySem.W.keepIn K (.ref f)=true/\Binds K fd ps []/\FnOk P w K mg base CX0 k f fd ps (spF K cf fi)):HasM P w K mg base k c m (spF K cf fi):=by
 obtain⟨f,fd,ps,⟨C,h1,h2,h3⟩,_,h4,h5⟩:=h
 exact⟨C,f,fd,ps,h1,h2,h3,h5,h4⟩
theorem zhU {k c fi j:Nat}(h:∃f fd ps,ExI K c f/\PySem.W.keepIn K (.ref f)=true/\Binds K fd ps (List.replicate j Value.none)/\FnOk P w K mg base CX0 k f fd ps (spF K cf fi)):HasI P w K mg base k c j (spF K cf fi):=by
 obtain⟨f,fd,ps,⟨C,h1,h2⟩,_,h4,h5⟩:=h
 exact⟨C,f,fd,ps,h1,h2,h5,h4⟩
theorem zhV {k fi:Nat}{x m:Str}(h:∃f fd ps,ExC K mg x m f/\PySem.W.keepIn K (.ref f)=true/\Binds K fd ps []/\FnOk P w K mg base CX0 k f fd ps (spF K cf fi)):HasC P w K mg base k x m (spF K cf fi):=by
 obtain⟨f,fd,ps,⟨C,mc,h1,h2,h3,h6⟩,h7,h4,h5⟩:=h
 exact⟨C,f,fd,ps,mc,h1,h2,h3,h6,h7,h5,h4⟩
structure PrimOk (P:Program) (w:World) (K:PySem.W.Frag) (mg:Str->Option Value) (base:Heap) (Pg:List Fn) (fi:Nat) (x:Str) (ps:List Str) (nd:Nat):Prop where
 ex:∃(F:Fn) (p:Prim) (f:Addr) (fd:FuncData),Pg[fi]?=some F/\F.prim=some p/\F.np=ps.length/\mg x=some (.ref f)/\PySem.W.keepIn K (.ref f)=true/\(∀j,j<=nd->Binds K fd ps (List.replicate j Value.none))/\
  ∀n,3<=n->FnOk P w K mg base CX0 (n+2) f fd ps (spF K (callF Pg (n+1)) fi)
theorem zlO (hb:∀x,T.blt.contains x=true->mg x=none)(hc:∀x d,T.cons.lookup x=some d->ziI d=true/\∃u,mg x=some u/\RelV (sV d) u)(hd:∀fi x ps nd,T.fns[fi]?=some (x,ps,nd)->DefOk K mg T Pg fi x ps nd\/PrimOk P w K mg base Pg fi x ps nd)(hk:ClsOk T K mg Pg) :
  ∀n,TabOk T (callF Pg n) (2 * n) P w K mg base:=by
 intro n
 induction n with
 | zero =>
   refine⟨hb,hc,fun fi x ps nd hf j hj=>?_,zc5 Pg 0,hk.cls,fun c m fi h=>zhT (zdU (hk.mth c m fi h)),fun c fi j h=>zhU (zdU (hk.ini c fi j h)),fun x m fi h=>zhV (zdU (hk.cmd x m fi h)),fun _=>hk.cln,hk.isa⟩
   rcases hd fi x ps nd hf with z|z
   · obtain⟨F,qual,st,dV,f,fd,N,hP,hq,FV,S,ck,hp,hn,hm,hbd⟩:=z.ex
     refine⟨f,fd,_,⟨fun vs H Q E h=>zcB hP hp h,fun A outer s H args us vs Q E hr e0 b v h=>?_⟩,hm,FV.kp,hbd j hj,Vals.nons j⟩
     obtain⟨ι,S,ds,r,hh,w⟩:=h
     exact w.elim
   · obtain⟨F,p,f,fd,hP,hq,hp,hm,kp,hbd,ok⟩:=z.ex
     refine⟨f,fd,_,⟨fun vs H Q E h=>zcB hP hp h,fun A outer s H args us vs Q E hr e0 b v h=>?_⟩,hm,kp,hbd j hj,Vals.nons j⟩
     obtain⟨ι,S,ds,r,hh,w⟩:=h
     exact w.elim
 | succ n ih =>
   refine⟨hb,hc,fun fi x ps nd hf j hj=>?_,zc5 Pg (n+1),hk.cls,fun c m fi h=>zhT (zdV ih (hk.mth c m fi h)),fun c fi j h=>zhU (zdV ih (hk.ini c fi j h)),fun x m fi h=>zhV (zdV ih (hk.cmd x m fi h)),fun _=>hk.cln,hk.isa⟩
   rcases hd fi x ps nd hf with z|z
   · obtain⟨F,qual,st,dV,f,fd,N,hP,hq,FV,S,ck,hp,hn,hm,hbd⟩:=z.ex
     refine⟨f,fd,_,?_,hm,FV.kp,hbd j hj,Vals.nons j⟩
     exact zh8 ih FV hP S ck hp hn hq
   · obtain⟨F,p,f,fd,hP,hq,hp,hm,kp,hbd,ok⟩:=z.ex
     refine⟨f,fd,_,?_,hm,kp,hbd j hj,Vals.nons j⟩
     by_cases c:3<=n
     · exact (ok n c).mono (by omega)
     · refine⟨fun vs H Q E h=>zcB hP hp h,fun A outer s H args us vs Q E hr e0 b v h=>?_⟩
       obtain⟨ι,S,ds,r,hh,w⟩:=h
       simp only[callF,hP,hq,c,if_false] at w
       split at w<;>exact w.elim
noncomputable def zir {α:Type}(P:Nat->α->Prop):Nat->List α->Prop
 |_,[]=>True
 |k,a::r=>P k a/\zir P (k+1) r
theorem zjY {α:Type}{P:Nat->α->Prop}:∀{l:List α} {k:Nat},zir P k l->∀(i:Nat) (a:α),l[i]?=some a->P (k+i) a
 | [],_,_,i,a,h=>by simp at h
 |b::r,k,q,0,a,h=>by cases h;exact q.1
 | b :: r, k, q, i + 1, a, h => by
   have:=zjY q.2 i a (by simpa using h)
   rwa [Nat.add_right_comm] at this
theorem AllAt.get {α:Type}{P:Nat->α->Prop}{l:List α}(q:zir P 0 l)(i:Nat)(a:α)(h:l[i]?=some a):P i a:=Nat.zero_add i▸zjY q i a h
noncomputable def zjZ {α:Type}(P:α->Prop):List α->Prop
 | []=>True
 |a::r=>P a/\zjZ P r
theorem AllIn.get {α:Type}[BEq α][LawfulBEq α]{P:α->Prop}:∀{l:List α},zjZ P l->∀a,l.contains a=true->P a
 | [],_,a,h=>by simp at h
 | b :: r, q, a, h => by
   rw[List.contains_cons,Bool.or_eq_true] at h
   rcases h with h|h
   · rw[eq_of_beq h];exact q.1
   · exact AllIn.get q.2 a h
theorem zk5 {k fi:Nat}{K:PySem.W.Frag}{H:Hp}{a:Addr}{ns:List Int}(hx:FixL K H a (ns.map V.int))(tb:TB H)
  (law:W (callF Pg k fi [.fix (ns.map .int)] ⟨[],[],[]⟩) fun d _=>d=.bl true):spF K (callF Pg k) fi [.ref a] H (fun v _=>v=.bl true) fun _ _ _=>False:=by
 refine⟨[],⟨[],[],[]⟩,[.fix (ns.map .int)],⟨.ref a,[],rfl,⟨a,_,rfl,hx,RVs.ints ns⟩,rfl⟩,⟨rfl,List.nodup_nil,fun l o e=>(by simp[St.get] at e),tb⟩,?_⟩
 obtain⟨d,T',e,q⟩:=zee law
 rw[e]
 intro v H' ι' x r hT
 subst q
 exact r
theorem law_sp {k fi:Nat}{K:PySem.W.Frag}{H:Hp}{a:Addr}{ns:List Int}(h0:Mks.ts=[])(hO:Only H)(hS:SqL K H a (ns.map V.int))
  (law:W (callF Pg k fi [.fix (ns.map .int)] ⟨[],[],[]⟩) fun d _=>d=.bl true):spF K (callF Pg k) fi [.ref a] H (fun v _=>v=.bl true) fun _ _ _=>False:=by
 refine zk5 ?_ (fun p hp=>by rw[h0] at hp;cases hp) law
 rcases hS with (h|⟨o,h⟩)|h
 · rcases hO a with z|⟨o,xs,z⟩
   · rw[z] at h;cases h
   · rw[z] at h;cases h
 · exact .inl ⟨o,h⟩
 · exact .inr h
end
end R
end
section
namespace R
open PySem (PyData)
theorem zdX {α β:Type}{f:α->Option β}:∀{xs:List α} {ys:List β},xs.mapM f=some ys->∀y∈ys,∃x∈xs,f x=some y
 | [],ys,h,y,hy=>by simp at h;subst h;cases hy
 | x :: xs, ys, h, y, hy => by
   rw[List.mapM_cons] at h
   cases e:f x with
   |none=>rw[e] at h;cases h
   | some z =>
     rw[e] at h
     cases e2:xs.mapM f with
     |none=>rw[e2] at h;cases h
     | some zs =>
       rw[e2] at h
       injection h with h
       subst h
       rcases List.mem_cons.mp hy with rfl|hy
       · exact⟨x,by simp,e⟩
       · obtain⟨u,hu,eu⟩:=zdX e2 y hy
         exact⟨u,by simp[hu],eu⟩
theorem zca:∀{xs:List PyData},(∀x∈xs,PyData.eqv x x=true)->PyData.eqvAll xs xs=true
 | [],_=>by simp[PyData.eqvAll]
 |x::xs,h=>by simp[PyData.eqvAll,h x (by simp),zca (xs:=xs) fun y hy=>h y (by simp[hy])]
theorem zkS {S:St}:∀{n:Nat} {d:D} {a:PyData},pd S n d=some a->PyData.eqv a a=true:=by
 intro n
 induction n with
 | zero =>
   intro d a h
   cases d<;>simp only[pd] at h
   · cases h;simp[PyData.eqv]
   · cases h;simp[PyData.eqv]
   · cases h;simp[PyData.eqv]
   · split at h
     · cases h;simp[PyData.eqv]
     · cases h
   · cases h
   · cases h
   · cases h
 | succ n ih =>
   intro d a h
   cases d<;>simp only[pd] at h
   · cases h;simp[PyData.eqv]
   · cases h;simp[PyData.eqv]
   · cases h;simp[PyData.eqv]
   · split at h
     · cases h;simp[PyData.eqv]
     · cases h
   · rename_i ds
     cases e:ds.mapM (pd S n) with
     |none=>rw[e] at h;cases h
     | some xs =>
       rw[e] at h
       cases h
       rw[PyData.eqv]
       exact zca fun x hx=>let ⟨d,_,hd⟩:=zdX e x hx;ih hd
   · split at h
     · rename_i ds _
       cases e:ds.mapM (pd S n) with
       |none=>rw[e] at h;cases h
       | some xs =>
         rw[e] at h
         cases h
         rw[PyData.eqv]
         exact zca fun x hx=>let ⟨d,_,hd⟩:=zdX e x hx;ih hd
     · cases h
   · cases h
theorem zh1 {S:St}{x y:D}{a:PyData}(h1:pd S 60 x=some a)(h2:pd S 60 y=some a):eqD S x y=some true:=by
 unfold eqD
 rw[h1,h2]
 exact congrArg some (zkS h1)
theorem zbC {S:St}{l n:Nat}{ds:List D}{xs:List PyData}(h:S.get l=some (.lst ds))(e:ds.mapM (pd S n)=some xs):pd S (n+1) (.ref l)=some (.list xs):=by
 simp only[pd,h,e];rfl
theorem zjy {S:St}{a:Nat}{ds:List D}(h:S.get a=some (.lst ds)):dKvs S (.ref a)=none:=by unfold dKvs;dsimp only;rw[h]
theorem zc8 {S:St}{a:Nat}{y:D}{ds:List D}(h:S.get a=some (.lst ds)):zeS S (.ref a) y=eqD S (.ref a) y:=by unfold zeS;rw[zjy h]
theorem zfw {S:St}{a b:Nat}{ds:List D}{xs:List PyData}(h1:S.get a=some (.lst ds))(h2:S.get b=some (.lst ds))(e:ds.mapM (pd S 59)=some xs):cmpO S .Eq (.ref a) (.ref b)=some true:=(zc8 h1).trans (zh1 (zbC h1 e) (zbC h2 e))
theorem zfv {S:St}{a b:Nat}{ds:List D}{xs:List PyData}(h1:S.get a=some (.lst ds))(h2:S.get b=some (.lst ds))(e:ds.mapM (pd S 59)=some xs):cmpO S .NotEq (.ref a) (.ref b)=some false:=by
 show (zeS S (.ref a) (.ref b)).map (!·)=_
 rw[zc8 h1,zh1 (zbC h1 e) (zbC h2 e)];rfl
theorem zaN (S:St)(o:MO):(S.push o).get S.len=some o:=by
 have h:¬S.len<S.frz.length:=by unfold St.len;omega
 unfold St.get St.push
 simp only[h,if_false]
 unfold St.len
 simp
theorem zag {S:St}{l:Nat}{o u:MO}(e:S.get l=some u):(S.push o).get l=some u:=by
 have h:=zaZ e
 unfold St.len at h
 unfold St.get at e⊢
 unfold St.push
 simp only
 split
 · rename_i c;rw[if_pos c] at e;exact e
 · rename_i c;rw[if_neg c] at e;rw[List.getElem?_append_left (by omega)];exact e
theorem za7 {α β:Type}(f:α->β)(xs:List α)(lo hi:Option Int):cut (xs.map f) lo hi=(cut xs lo hi).map f:=by
 unfold cut
 rw[List.length_map,List.map_take,List.map_drop]
theorem zns {α:Type}(xs:List α)(lo hi:Option Int):(cut xs lo hi).length<=xs.length:=by
 unfold cut
 rw[List.length_take,List.length_drop]
 omega
theorem ziO {S:St}{l:Nat}(o:MO)(h1:S.frz.length<=l)(h2:S.lk.contains l=false):∃S',S.put l o=some S'/\S'.frz=S.frz/\S'.lk=S.lk/\S'.len=S.len/\(∀m,m≠l->S'.get m=S.get m)/\(l<S.len->S'.get l=some o):=by
 refine⟨{S with new:=S.new.set (l - S.frz.length) o},?_,rfl,rfl,by simp[St.len],fun m hm=>?_,fun hl=>?_⟩
 · unfold St.put
   rw[if_neg (by omega),h2];rfl
 · unfold St.get
   simp only
   split
   · rfl
   · rw[List.getElem?_set_ne (by omega)]
 · unfold St.len at hl
   unfold St.get
   simp only[show ¬l<S.frz.length by omega,if_false]
   rw[List.getElem?_set_self (by omega)]
theorem zdd {α:Type}{xs:List α}{k:Nat}{x:α}(h:xs[k]?=some x):R.atI xs (k:Int)=some x:=by
 have hl:=(List.getElem?_eq_some_iff.mp h).1
 have e:R.ixN xs.length (k:Int)=some k:=by simp[R.ixN,hl]
 unfold R.atI
 rw[e];exact h
theorem zds {α:Type}{x:α}{xs:List α}:R.atI (x::xs) 0=some x:=by
 have:R.ixN (x::xs).length 0=some 0:=by simp[R.ixN]
 unfold R.atI;rw[this];rfl
theorem zed {α:Type}{x y:α}{xs:List α}:R.atI (x::y::xs) 1=some y:=by
 have:R.ixN (x::y::xs).length 1=some 1:=by simp[R.ixN];omega
 unfold R.atI;rw[this];rfl
noncomputable def cellZ (ns:List Int)(k:Nat):Int:=match ns[k]? with|some v=>v % 10 ^ 64|none=>0
theorem zc0:∀ks:List Int,zbG (ks.map D.int)=some ks
 | []=>rfl
 | k :: ks => by
   unfold zbG
   rw[List.map_cons,List.mapM_cons,show (ks.map D.int).mapM zd2=some ks from zc0 ks];rfl
end R
end
section
namespace R
noncomputable def hnds (n:Nat):List Int:=(List.range n).map fun (k:Nat)=>(k:Int)
theorem hnds_mem {n:Nat}{x:Int}:x∈hnds n↔0<=x/\x<n:=by
 unfold hnds
 constructor
 · intro h
   obtain⟨k,hk,rfl⟩:=List.mem_map.mp h
   rw[List.mem_range] at hk
   omega
 · intro h
   exact List.mem_map.mpr ⟨x.toNat,List.mem_range.mpr (by omega),by omega⟩
end R
end
section
namespace K41
noncomputable instance mks:R.Mks:=⟨[],[57]⟩
section
open PySem R L2
noncomputable def c_law_cell_at:Fn:=⟨2,2,(.ifS (.cmp .Lt (.loc 1) (.bi .len (.cons (.loc 0) .nil))) (.ret (.bin .Mod (.ix (.loc 0) (.loc 1)) (.bin .Pow (.con (D.int 10)) (.con (D.int 64)))) .nil) .nil (.ret (.con (D.int 0)) .nil)),none⟩
noncomputable def c_law_big:Fn:=⟨1,1,(.ret (.bin .Sub (.bin .Mod (.loc 0) (.bin .Sub (.bin .Mult (.con (D.int 2)) (.bin .Pow (.con (D.int 10)) (.con (D.int 60)))) (.con (D.int 1)))) (.bin .Sub (.bin .Pow (.con (D.int 10)) (.con (D.int 60))) (.con (D.int 1)))) .nil),none⟩
noncomputable def c_law_order:Fn:=⟨1,5,(.asg 1 (.mkL (.rng1 (.con (D.int 7)))) (.asg 2 (.lst .nil) (.forS [3] (.rng1 (.con (D.int 7))) (.asg 4 (.bin .Mod (.loc 0) (.bi .len (.cons (.loc 1) .nil))) (.asg 0 (.bin .FloorDiv (.loc 0) (.con (D.int 7))) (.expr (.mt .append (.loc 2) (.cons (.ix (.loc 1) (.loc 4)) .nil)) (.asg 1 (.bin .Add (.sl (.loc 1) false true (.con .non) (.loc 4)) (.sl (.loc 1) true false (.bin .Add (.loc 4) (.con (D.int 1))) (.con .non))) .nil)))) (.ret (.mkT (.val (.loc 2))) .nil)))),none⟩
noncomputable def c_law_places:Fn:=⟨3,3,(.ifS (.cmp .Eq (.loc 0) (.con (D.int 0))) (.ret (.lst (.cons (.bin .Sub (.loc 1) (.con (D.int 1))) .nil)) .nil) .nil (.ifS (.cmp .Eq (.loc 0) (.con (D.int 1))) (.ret (.mkL (.rng1 (.loc 1))) .nil) .nil (.ifS (.cmp .Eq (.loc 0) (.con (D.int 2))) (.ret (.mkL (.comp 1 [2,1] [0] (.rng1 (.loc 1)) (.cmp .NotEq (.loc 0) (.bin .Mod (.loc 1) (.loc 2))) (.loc 0))) .nil) .nil (.ret (.lst .nil) .nil)))),none⟩
noncomputable def c_law_truth:Fn:=⟨2,2,(.ret (.and (.bi (.isin "bool") (.cons (.loc 0) .nil)) (.cmp .Eq (.loc 0) (.loc 1))) .nil),none⟩
noncomputable def c_law_there:Fn:=⟨5,6,(.ifS (.cmp .Gt (.loc 3) (.con (D.int 0))) (.asg 5 (.tup (.cons (.ix (.loc 2) (.bin .Sub (.loc 3) (.con (D.int 1)))) (.cons (.sl (.loc 2) false true (.con .non) (.bin .Sub (.loc 3) (.con (D.int 1)))) (.cons (.loc 4) .nil)))) (.ifS (.nt (.tst (.call 4 0 (.cons (.meth "has" [(0,12)] (.loc 0) (.cons (.ix (.loc 5) (.con (D.int 0))) (.cons (.ix (.loc 5) (.con (D.int 1))) (.cons (.loc 4) .nil)))) (.cons (.cmp .In (.loc 5) (.loc 1)) .nil))))) (.ret (.con (D.bl false)) .nil) .nil .nil)) .nil (.ifS (.cmp .Lt (.loc 3) (.con (D.int 7))) (.ret (.call 4 0 (.cons (.meth "has" [(0,12)] (.loc 0) (.cons (.ix (.loc 2) (.loc 3)) (.cons (.sl (.loc 2) false true (.con .non) (.loc 3)) (.cons (.loc 4) .nil)))) (.cons (.cmp .In (.tup (.cons (.ix (.loc 2) (.loc 3)) (.cons (.sl (.loc 2) false true (.con .non) (.loc 3)) (.cons (.loc 4) .nil)))) (.loc 1)) .nil))) .nil) .nil (.ret (.con (D.bl true)) .nil))),none⟩
noncomputable def c_law_genuine:Fn:=⟨5,6,(.asg 5 (.all (.comp 1 [1,4,2] [0] (.rng1 (.loc 3)) (.tst (.con (D.bl true))) (.cmp .In (.tup (.cons (.ix (.loc 3) (.loc 0)) (.cons (.sl (.loc 3) false true (.con .non) (.loc 0)) (.cons (.loc 2) .nil)))) (.loc 1)))) (.ret (.call 4 0 (.cons (.meth "genuine" [(0,11)] (.loc 0) (.cons (.sl (.loc 2) false true (.con .non) (.loc 3)) (.cons (.loc 4) .nil))) (.cons (.loc 5) .nil))) .nil)),none⟩
noncomputable def c_law_asked:Fn:=⟨6,6,(.ifS (.tst (.loc 5)) (.ret (.and (.call 6 0 (.cons (.loc 0) (.cons (.loc 1) (.cons (.loc 2) (.cons (.loc 3) (.cons (.loc 4) .nil)))))) (.call 5 0 (.cons (.loc 0) (.cons (.loc 1) (.cons (.loc 2) (.cons (.loc 3) (.cons (.loc 4) .nil))))))) .nil) .nil (.ret (.and (.call 5 0 (.cons (.loc 0) (.cons (.loc 1) (.cons (.loc 2) (.cons (.loc 3) (.cons (.loc 4) .nil)))))) (.call 6 0 (.cons (.loc 0) (.cons (.loc 1) (.cons (.loc 2) (.cons (.loc 3) (.cons (.loc 4) .nil))))))) .nil)),none⟩
noncomputable def c_law_listed:Fn:=⟨3,4,(.asg 3 (.meth "stamps" [(0,14)] (.loc 0) .nil) (.ifS (.or (.nt (.tst (.bi (.isin "list") (.cons (.loc 3) .nil)))) (.cmp .NotEq (.loc 3) (.srt3 (.d3keys (.loc 1))))) (.ret (.con (D.bl false)) .nil) .nil (.expr (.mt .append (.loc 3) (.cons (.con (D.int 0)) .nil)) (.expr (.mt .append (.loc 2) (.cons (.tup (.cons (.meth "stamps" [(0,14)] (.loc 0) .nil) (.cons (.srt3 (.d3keys (.loc 1))) .nil))) .nil)) (.ret (.con (D.bl true)) .nil))))),none⟩
noncomputable def c_law:Fn:=⟨1,15,(.asg 1 (.mkL (.comp 1 [0] [0] (.rng1 (.con (D.int 3))) (.tst (.con (D.bl true))) (.call 2 0 (.cons (.call 0 0 (.cons (.loc 1) (.cons (.loc 0) .nil))) .nil)))) (.asg 2 (.lst (.cons (.call 1 0 (.cons (.call 0 0 (.cons (.loc 0) (.cons (.con (D.int 3)) .nil))) .nil)) (.cons (.call 1 0 (.cons (.call 0 0 (.cons (.loc 0) (.cons (.con (D.int 4)) .nil))) .nil)) (.cons (.con (D.int 0)) .nil)))) (.asg 3 (.lst (.cons (.mk 0 10 "Book" 0 .nil) (.cons (.mk 0 10 "Book" 0 .nil) .nil))) (.asg 4 (.lst (.cons .dnew3 (.cons .dnew3 .nil))) (.asg 5 (.lst (.cons (.tup (.cons (.meth "stamps" [(0,14)] (.ix (.loc 3) (.con (D.int 0))) .nil) (.cons (.lst .nil) .nil))) .nil)) (.forS [6] (.val (.sl (.loc 0) true true (.con (D.int 5)) (.con (D.int 62)))) (.asg 7 (.bin .Mod (.loc 6) (.bin .Pow (.con (D.int 10)) (.con (D.int 64)))) (.asg 8 (.bin .Mod (.loc 7) (.con (D.int 2))) (.asg 9 (.ix (.loc 1) (.bin .Mod (.bin .FloorDiv (.loc 7) (.con (D.int 2))) (.con (D.int 3)))) (.asg 10 (.bin .Mod (.bin .FloorDiv (.loc 7) (.con (D.int 6))) (.con (D.int 8))) (.asg 11 (.ix (.loc 2) (.bin .Mod (.bin .FloorDiv (.loc 7) (.con (D.int 48))) (.con (D.int 3)))) (.ifS (.cmp .Gt (.loc 10) (.con (D.int 0))) (.forS [12] (.callL 3 0 (.cons (.bin .Mod (.bin .FloorDiv (.loc 7) (.con (D.int 144))) (.con (D.int 4))) (.cons (.loc 10) (.cons (.bin .Mod (.bin .FloorDiv (.loc 7) (.con (D.int 576))) (.con (D.int 7))) .nil)))) (.ifS (.cmp .IsNot (.meth "stamp" [(0,13)] (.ix (.loc 3) (.loc 8)) (.cons (.ix (.loc 9) (.loc 12)) (.cons (.sl (.loc 9) false true (.con .non) (.loc 12)) (.cons (.loc 11) .nil)))) (.con D.non)) (.ret (.con (D.bl false)) .nil) .nil (.setIx (.ix (.loc 4) (.loc 8)) (.tup (.cons (.ix (.loc 9) (.loc 12)) (.cons (.sl (.loc 9) false true (.con .non) (.loc 12)) (.cons (.loc 11) .nil)))) (.con (D.bl true)) .nil)) .nil) .nil (.forS [13] (.rng1 (.con (D.int 2))) (.ifS (.nt (.tst (.call 7 0 (.cons (.ix (.loc 3) (.loc 13)) (.cons (.ix (.loc 4) (.loc 13)) (.cons (.loc 9) (.cons (.loc 10) (.cons (.loc 11) (.cons (.cmp .Eq (.bin .Mod (.bin .FloorDiv (.loc 7) (.con (D.int 4032))) (.con (D.int 2))) (.con (D.int 0))) .nil))))))))) (.ret (.con (D.bl false)) .nil) .nil .nil) (.ifS (.and (.cmp .Eq (.bin .Mod (.bin .FloorDiv (.loc 7) (.con (D.int 8064))) (.con (D.int 5))) (.con (D.int 0))) (.nt (.tst (.callW 8 0 (.cons (.ix (.loc 3) (.loc 8)) (.cons (.ix (.loc 4) (.loc 8)) (.cons (.loc 5) .nil))))))) (.ret (.con (D.bl false)) .nil) .nil .nil)))))))) (.asg 14 (.lst (.cons (.meth "stamps" [(0,14)] (.ix (.loc 3) (.con (D.int 0))) .nil) (.cons (.meth "stamps" [(0,14)] (.ix (.loc 3) (.con (D.int 1))) .nil) .nil))) (.ifS (.nt (.tst (.all (.comp 2 [] [0,1] (.val (.loc 5)) (.tst (.con (D.bl true))) (.cmp .Eq (.loc 0) (.loc 1)))))) (.ret (.con (D.bl false)) .nil) .nil (.ret (.cmp .Eq (.loc 14) (.lst (.cons (.srt3 (.d3keys (.ix (.loc 4) (.con (D.int 0))))) (.cons (.srt3 (.d3keys (.ix (.loc 4) (.con (D.int 1))))) .nil)))) .nil))))))))),none⟩
noncomputable def c_Book_init:Fn:=⟨1,1,(.setF (.loc 0) "made" .dnew3 .nil),none⟩
noncomputable def c_Book_genuine:Fn:=⟨3,3,(.ret (.all (.comp 2 [2,0,1] [0,1] (.enum (.loc 1)) (.tst (.con (D.bl true))) (.meth "has" [(0,12)] (.loc 3) (.cons (.loc 1) (.cons (.sl (.loc 4) false true (.con .non) (.loc 0)) (.cons (.loc 2) .nil)))))) .nil),none⟩
noncomputable def c_Book_has:Fn:=⟨4,4,(.ret (.cmp .In (.tup (.cons (.loc 1) (.cons (.loc 2) (.cons (.loc 3) .nil)))) (.fld (.loc 0) "made")) .nil),none⟩
noncomputable def c_Book_stamp:Fn:=⟨4,4,(.setIx (.fld (.loc 0) "made") (.tup (.cons (.loc 1) (.cons (.loc 2) (.cons (.loc 3) .nil)))) (.con (D.bl true)) .nil),none⟩
noncomputable def c_Book_stamps:Fn:=⟨1,1,(.ret (.d3srt (.fld (.loc 0) "made")) .nil),none⟩
noncomputable def prog:List Fn:=[c_law_cell_at,c_law_big,c_law_order,c_law_places,c_law_truth,c_law_there,c_law_genuine,c_law_asked,c_law_listed,c_law,c_Book_init,c_Book_genuine,c_Book_has,c_Book_stamp,c_Book_stamps]
noncomputable def top (i:Nat):Stmt:=PySem.Challenge.pw_traitorround_k41_a_book.main.body.getD i (.Pass ⟨0,0,0,0⟩)
noncomputable abbrev zat:Stmt:=top 3
noncomputable abbrev zaY:Stmt:=top 4
noncomputable abbrev zaD:Stmt:=top 5
noncomputable abbrev zaw:Stmt:=top 6
noncomputable abbrev zaB:Stmt:=top 7
noncomputable abbrev zaC:Stmt:=top 8
noncomputable abbrev zas:Stmt:=top 9
noncomputable abbrev zaE:Stmt:=top 10
noncomputable abbrev zax:Stmt:=top 11
noncomputable abbrev zbB:Stmt:=top 12
noncomputable def zhO (s:Stmt)(j:Nat):Stmt:=match s with|.ClassDef _ _ _ b _ _ _ _ _ _ _=>b.getD j (.Pass ⟨0,0,0,0⟩)|s=>s
noncomputable abbrev zaF:Stmt:=zhO (top 1) 0
noncomputable abbrev zao:Stmt:=zhO (top 1) 3
noncomputable abbrev zaP:Stmt:=zhO (top 1) 2
noncomputable abbrev zay:Stmt:=zhO (top 1) 1
noncomputable abbrev zau:Stmt:=zhO (top 1) 4
noncomputable def tab:Tab:=⟨["all","bool","enumerate","isinstance","len","list","range","sorted","tuple"],[],[("_law_cell_at",["_law_script","_law_k"],0),("_law_big",["_law_cell"],0),("_law_order",["_law_cell"],0),("_law_places",["_law_kind","_law_size","_law_gap"],0),("_law_truth",["_law_found","_law_due"],0),("_law_there",["_law_book","_law_made","_law_order_here","_law_size","_law_word"],0),("_law_genuine",["_law_book","_law_made","_law_order_here","_law_size","_law_word"],0),("_law_asked",["_law_book","_law_made","_law_order_here","_law_size","_law_word","_law_turned"],0),("_law_listed",["_law_book","_law_made","_law_held"],0),("law",["_law_script"],0)],["Book"],["made"],[(0,"genuine",11),(0,"has",12),(0,"stamp",13),(0,"stamps",14)],[(0,10,0)],[],[]⟩
theorem zer:FnScope ["self"] ["self"] (zad zaF):=⟨rfl,rfl,rfl,by decide +kernel,rfl,by decide +kernel,by decide +kernel⟩
theorem zeZ:chkS tab c_Book_init.body ["self"] (zad zaF) (zai zaF)=true:=by decide +kernel
theorem zcC:FnScope ["self","path","word"] ["self","path","word"] (zad zao):=⟨rfl,rfl,rfl,by decide +kernel,rfl,by decide +kernel,by decide +kernel⟩
theorem zdc:chkS tab c_Book_genuine.body ["self","path","word"] (zad zao) (zai zao)=true:=by decide +kernel
theorem zfc:FnScope ["self","hand","path","word"] ["self","hand","path","word"] (zad zaP):=⟨rfl,rfl,rfl,by decide +kernel,rfl,by decide +kernel,by decide +kernel⟩
theorem zfy:chkS tab c_Book_has.body ["self","hand","path","word"] (zad zaP) (zai zaP)=true:=by decide +kernel
theorem zdP:FnScope ["self","hand","path","word"] ["self","hand","path","word"] (zad zay):=⟨rfl,rfl,rfl,by decide +kernel,rfl,by decide +kernel,by decide +kernel⟩
theorem zd9:chkS tab c_Book_stamp.body ["self","hand","path","word"] (zad zay) (zai zay)=true:=by decide +kernel
theorem zdl:FnScope ["self"] ["self"] (zad zau):=⟨rfl,rfl,rfl,by decide +kernel,rfl,by decide +kernel,by decide +kernel⟩
theorem zdr:chkS tab c_Book_stamps.body ["self"] (zad zau) (zai zau)=true:=by decide +kernel
theorem zdk:FnScope ["_law_script","_law_k"] ["_law_script","_law_k"] (zad zat):=⟨rfl,rfl,rfl,by decide +kernel,rfl,by decide +kernel,by decide +kernel⟩
theorem zdq:chkS tab c_law_cell_at.body ["_law_script","_law_k"] (zad zat) (zai zat)=true:=by decide +kernel
theorem zgl:FnScope ["_law_cell"] ["_law_cell"] (zad zaY):=⟨rfl,rfl,rfl,by decide +kernel,rfl,by decide +kernel,by decide +kernel⟩
theorem zgI:chkS tab c_law_big.body ["_law_cell"] (zad zaY) (zai zaY)=true:=by decide +kernel
theorem zep:FnScope ["_law_cell","_law_left","_law_found","_law_k","_law_at"] ["_law_cell"] (zad zaD):=⟨rfl,rfl,rfl,by decide +kernel,rfl,by decide +kernel,by decide +kernel⟩
theorem zeX:chkS tab c_law_order.body ["_law_cell","_law_left","_law_found","_law_k","_law_at"] (zad zaD) (zai zaD)=true:=by decide +kernel
theorem zdN:FnScope ["_law_kind","_law_size","_law_gap"] ["_law_kind","_law_size","_law_gap"] (zad zaw):=⟨rfl,rfl,rfl,by decide +kernel,rfl,by decide +kernel,by decide +kernel⟩
theorem zd7:chkS tab c_law_places.body ["_law_kind","_law_size","_law_gap"] (zad zaw) (zai zaw)=true:=by decide +kernel
theorem zen:FnScope ["_law_found","_law_due"] ["_law_found","_law_due"] (zad zaB):=⟨rfl,rfl,rfl,by decide +kernel,rfl,by decide +kernel,by decide +kernel⟩
theorem zeV:chkS tab c_law_truth.body ["_law_found","_law_due"] (zad zaB) (zai zaB)=true:=by decide +kernel
theorem zeo:FnScope ["_law_book","_law_made","_law_order_here","_law_size","_law_word","_law_one"] ["_law_book","_law_made","_law_order_here","_law_size","_law_word"] (zad zaC):=⟨rfl,rfl,rfl,by decide +kernel,rfl,by decide +kernel,by decide +kernel⟩
theorem zeW:chkS tab c_law_there.body ["_law_book","_law_made","_law_order_here","_law_size","_law_word","_law_one"] (zad zaC) (zai zaC)=true:=by decide +kernel
theorem zdj:FnScope ["_law_book","_law_made","_law_order_here","_law_size","_law_word","_law_due"] ["_law_book","_law_made","_law_order_here","_law_size","_law_word"] (zad zas):=⟨rfl,rfl,rfl,by decide +kernel,rfl,by decide +kernel,by decide +kernel⟩
theorem zdp:chkS tab c_law_genuine.body ["_law_book","_law_made","_law_order_here","_law_size","_law_word","_law_due"] (zad zas) (zai zas)=true:=by decide +kernel
theorem zeq:FnScope ["_law_book","_law_made","_law_order_here","_law_size","_law_word","_law_turned"] ["_law_book","_law_made","_law_order_here","_law_size","_law_word","_law_turned"] (zad zaE):=⟨rfl,rfl,rfl,by decide +kernel,rfl,by decide +kernel,by decide +kernel⟩
theorem zeY:chkS tab c_law_asked.body ["_law_book","_law_made","_law_order_here","_law_size","_law_word","_law_turned"] (zad zaE) (zai zaE)=true:=by decide +kernel
theorem zdO:FnScope ["_law_book","_law_made","_law_held","_law_found"] ["_law_book","_law_made","_law_held"] (zad zax):=⟨rfl,rfl,rfl,by decide +kernel,rfl,by decide +kernel,by decide +kernel⟩
theorem zd8:chkS tab c_law_listed.body ["_law_book","_law_made","_law_held","_law_found"] (zad zax) (zai zax)=true:=by decide +kernel
theorem zjN:FnScope ["_law_script","_law_orders","_law_words","_law_books","_law_made","_law_held","_law_cell","_law_number","_law_which","_law_order_here","_law_size","_law_word","_law_place","_law_k","_law_last"] ["_law_script"] (zad zbB):=⟨rfl,rfl,rfl,by decide +kernel,rfl,by decide +kernel,by decide +kernel⟩
theorem zjV:chkS tab c_law.body ["_law_script","_law_orders","_law_words","_law_books","_law_made","_law_held","_law_cell","_law_number","_law_which","_law_order_here","_law_size","_law_word","_law_place","_law_k","_law_last"] (zad zbB) (zai zbB)=true:=by decide +kernel
end
section
open R
theorem zin {P:List Fn}{F:Fn}{f n:Nat}{ds:List D}{S:R.St}{Q:D->R.St->Prop}(h:P[f]?=some F)(hl:ds.length=F.np)(w:W (exS (callF P n) F.body (zaW F ds) S) fun r T=>match r with|.nx _=>Q .non T|.rt d=>Q d T)(hp:F.prim=none:=by rfl):W (appW (callF P (n+1)) f ds S) Q:=by
 unfold appW
 simp only[callF,h,hl,hp,if_true,zaa]
 refine w.mono fun r T q=>?_
 cases r<;>exact q
theorem zdf {P:List Fn}{F:Fn}{f n:Nat}{ds:List D}{S S':R.St}{d:D}(h:P[f]?=some F)(hl:ds.length=F.np)(w:wS (callF P n) F.body (zaW F ds) S fun r T=>match r with|.nx _=>D.non=d/\T=S'|.rt z=>z=d/\T=S')(hp:F.prim=none:=by rfl):appW (callF P (n+1)) f ds S=.ok d S':=by
 refine W.eq (zin h hl ((wS_W _ w).mono fun r T q=>?_) hp)
 cases r<;>exact q
theorem zaT {S:R.St}{a c:Nat}{fs:List (PySem.Str × D)}(e:S.get a=some (.ins c fs)):zbT S (.ref a)=some (c,fs):=by
 unfold zbT;dsimp only;rw[e]
theorem zni {S:R.St}{a c:Nat}{fs:List (PySem.Str × D)}{f:PySem.Str}{v:D}(e:S.get a=some (.ins c fs))(g:fs.lookup f=some v):((zbT S (.ref a)).bind fun p=>p.2.lookup f)=some v:=by
 rw[zaT e];exact g
theorem plen (S:R.St)(o:MO):(S.push o).len=S.len+1:=by simp[St.push,St.len];omega
structure Mv (A:List Nat) (S T:R.St):Prop where
 frz:T.frz=S.frz
 lk:T.lk=S.lk
 len:S.len<=T.len
 old:∀m o,m∉A->S.get m=some o->T.get m=some o
theorem Mv.trans {A:List Nat}{S T U:R.St}(a:Mv A S T)(b:Mv A T U):Mv A S U:=⟨b.frz.trans a.frz,b.lk.trans a.lk,Nat.le_trans a.len b.len,fun m o h e=>b.old m o h (a.old m o h e)⟩
theorem Mv.push (A:List Nat)(S:R.St)(o:MO):Mv A S (S.push o):=⟨rfl,rfl,by rw[plen];omega,fun _ _ _ e=>zag e⟩
theorem Mv.up {A B:List Nat}{S T:R.St}(h:Mv A S T)(s:∀m,m∈A->m∈B):Mv B S T:=⟨h.frz,h.lk,h.len,fun m o hm e=>h.old m o (fun z=>hm (s m z)) e⟩
structure Fr (S:R.St) (a:Nat):Prop where
 f:S.frz.length<=a
 k:S.lk.contains a=false
theorem Fr.mv {A:List Nat}{S T:R.St}{a:Nat}(h:Fr S a)(v:Mv A S T):Fr T a:=⟨by rw[v.frz];exact h.f,by rw[v.lk];exact h.k⟩
theorem za5 {cf:CF}{i:Nat}{e:CE}{r:CS}{δ:Ev}{S S':R.St}{d:D}{Q:Fl->R.St->Prop}(h:evE cf e δ S=.ok d S')(w:W (exS cf r (δ.set i (some d)) S') Q):W (exS cf (.asg i e r) δ S) Q:=by rw[exS,h,zaM];exact w
theorem zik {cf:CF}{i:Nat}{e:CE}{r:CS}{δ:Ev}{S:R.St}{Q:Fl->R.St->Prop}(h:W (evE cf e δ S) fun d S'=>W (exS cf r (δ.set i (some d)) S') Q):W (exS cf (.asg i e r) δ S) Q:=by rw[exS,zaa];exact h
theorem zeR {cf:CF}{e:CE}{r:CS}{δ:Ev}{S:R.St}{Q:Fl->R.St->Prop}(h:W (evE cf e δ S) fun d S'=>W (exS cf r δ S') Q):W (exS cf (.expr e r) δ S) Q:=by rw[exS,zaa];exact h
theorem zcw {cf:CF}{c:CE}{u r:CS}{δ:Ev}{S:R.St}{Q:Fl->R.St->Prop}(w:W (evT cf c δ S) fun k S1=>k=false/\W (exS cf r δ S1) Q):W (exS cf (.ifS c u .nil r) δ S) Q:=by
 rw[exS,zaa]
 refine w.mono fun k S1 hk=>?_
 obtain⟨rfl,w1⟩:=hk
 simp only[exS,Bool.false_eq_true,if_false,zaM]
 exact w1
theorem zcc {cf:CF}{e:CE}{r:CS}{δ:Ev}{S:R.St}{Q:Fl->R.St->Prop}(h:W (evE cf e δ S) fun d S'=>Q (.rt d) S'):W (exS cf (.ret e r) δ S) Q:=by rw[exS,zaa];exact h.mono fun d S' q=>q
theorem znu {P:List Fn}{F:Fn}{f n:Nat}{ds:List D}{S:R.St}{Q:D->R.St->Prop}(h:P[f]?=some F)(hl:ds.length=F.np)(hp:F.prim=none)(w:W (exS (callF P n) F.body (zaW F ds) S) fun r T=>match r with|.nx _=>Q .non T|.rt d=>Q d T):W (callF P (n+1) f ds S) Q:=by
 simp only[callF,h,hl,hp,if_true,zaa]
 refine w.mono fun r T q=>?_
 cases r<;>exact q
theorem zaH (S:R.St)(o:MO):(S.push o).get S.len=some o:=zaN S o
theorem zmY {A:List Nat}{T U:R.St}{o:MO}(u:Mv (T.len::A) (T.push o) U):Mv A T U:=
 ⟨u.frz,u.lk,by have:=u.len;rw[plen] at this;omega,fun m x hm e=>u.old m x (by
  intro z
  rcases List.mem_cons.mp z with z|z
  · have:=zaZ e;omega
  · exact hm z) (zag e)⟩
theorem zfP {T:R.St}{l:Nat}{o u:MO}(hf:Fr T l)(e:T.get l=some o):∃U,T.put l u=some U/\Mv [l] T U/\U.get l=some u:=by
 obtain⟨U,h1,h2,h3,h4,h5,h6⟩:=ziO (S:=T) (l:=l) u hf.f hf.k
 exact⟨U,h1,⟨h2,h3,by omega,fun m x hm e=>by rw[h5 m (by simpa using hm)];exact e⟩,h6 (zaZ e)⟩
theorem zd4 {cf:CF}{g:List Nat}{l:CL}{b r:CS}{δ:Ev}{S S1:R.St}{xs:List D}{ls:List Nat}{Q:Fl->R.St->Prop}(h:evL cf l δ S=.ok (xs,ls) S1)
  (w:W (zbo g (exS cf b) xs δ {S1 with lk:=ls++S1.lk}) fun f T=>match f with|.nx δ'=>W (exS cf r δ' {T with lk:=S1.lk}) Q|.rt d=>Q (.rt d) {T with lk:=S1.lk}):W (exS cf (.forS g l b r) δ S) Q:=by
 rw[exS,h,zaM]
 unfold zbh
 dsimp only
 rw[zaa,zaa]
 refine w.mono fun f T hf=>?_
 rw[W_ok]
 cases f with
 |nx δ'=>exact hf
 |rt d=>exact hf
theorem zha {n:Nat}{S:R.St}{ns:List Int}{k:Nat}:app (callF prog (n+1)) 0 [.fix (ns.map .int),.int k] S=.ok (.int (cellZ ns k)) S:=by
 refine zgc (F:=c_law_cell_at) rfl rfl ?_
 conv=>whnf
 refine zgT (fun c=>?_) (fun c=>?_)
 · have c:k<ns.length:=by simpa using c
   conv=>whnf
   refine zac (zdd (x:=D.int ns[k]) (by simp[c])) ?_
   conv=>whnf
   refine zab (by decide) ?_
   conv=>whnf
   refine zab (by decide) ?_
   conv=>whnf
   refine za0 rfl ⟨?_,rfl⟩
   unfold cellZ
   rw[List.getElem?_eq_getElem c]
   rfl
 · have c:¬k<ns.length:=by simpa using c
   conv=>whnf
   refine za0 rfl ⟨?_,rfl⟩
   unfold cellZ
   rw[List.getElem?_eq_none (by omega)]
theorem zkt {n:Nat}{S:R.St}{ns:List Int}{k:Int}(hk:0<=k):app (callF prog (n+1)) 0 [.fix (ns.map .int),.int k] S=.ok (.int (cellZ ns k.toNat)) S:=by
 have:=zha (n:=n) (S:=S) (ns:=ns) (k:=k.toNat)
 rw[show ((k.toNat:Nat):Int)=k by omega] at this
 exact this
theorem W_ex {α:Type}{o:Out α}{Q:α->R.St->Prop}(h:W o Q):∃a T,o=.ok a T/\Q a T:=W.iff.mp h
noncomputable abbrev pD (p:List Int):D:=.tup (p.map .int)
theorem zfU:∀{K ws:List K3},K.Nodup->(∀x∈K,x∈ws)->K.length<=ws.length
 | [],ws,_,_=>Nat.zero_le _
 | x :: K, ws, hn, hs => by
   have hn':=List.nodup_cons.mp hn
   have hx:=hs x List.mem_cons_self
   have:=zfU (ws:=ws.erase x) hn'.2 fun y hy=>(List.mem_erase_of_ne (fun e:y=x=>hn'.1 (e▸hy))).mpr (hs y (List.mem_cons_of_mem _ hy))
   rw[List.length_erase_of_mem hx] at this
   have h2:=List.length_pos_of_mem hx
   rw[List.length_cons];omega
theorem za4 {α:Type}(xs:List α)(k:Nat):cut xs none (some (k:Int))=xs.take k:=by
 unfold cut
 have h1:sIx xs.length xs.length (some (k:Int))=min k xs.length:=by
  unfold sIx
  dsimp only
  rw[if_neg (by omega)]
  simp
 have h0:sIx xs.length 0 none=0:=rfl
 rw[h1,h0,List.drop_zero,Nat.sub_zero]
 by_cases c:k<=xs.length
 · rw[Nat.min_eq_left c]
 · rw[Nat.min_eq_right (by omega),List.take_of_length_le (Nat.le_refl _),List.take_of_length_le (by omega)]
theorem zhr (S:R.St)(n:Nat):∀p:List Int,(p.map D.int).mapM (pd S n)=some (p.map PySem.PyData.int)
 | []=>rfl
 | a :: p => by
   rw[List.map_cons,List.mapM_cons,zhr S n p]
   cases n<;>rfl
theorem zod (S:R.St)(n:Nat)(p:List Int):pd S (n+1) (pD p)=some (.tuple (p.map .int)):=by
 unfold pd
 rw[zhr];rfl
theorem zfW {cf:CF}{δ:Ev}{S:R.St}{Q:Fl->R.St->Prop}(h:Q (.nx δ) S):W (exS cf .nil δ S) Q:=by rw[exS];exact h
theorem zhA {T:R.St}{l:List Nat}(h:T.lk=l):({T with lk:=l}:R.St)=T:=by subst h;rfl
noncomputable def bD (m:Nat):MO:=.ins 0 [("made",.ref m)]
noncomputable def kv3 (K:List K3):List (K3 × D):=K.map fun k=>(k,.bl true)
noncomputable def ad3 (K:List K3)(k:K3):List K3:=if k∈K then K else K++[k]
theorem zdZ (K:List K3):(kv3 K).map (·.1)=K:=by simp[kv3,List.map_map,Function.comp_def]
theorem zkD (K:List K3)(k:K3):zfi (kv3 K) k (.bl true)=kv3 (ad3 K k):=by
 unfold zfi ad3
 rw[zdZ]
 split
 · unfold kv3
   rw[List.map_map]
   refine List.map_congr_left fun x _=>?_
   show (if x=k then (x,D.bl true) else (x,.bl true))=(x,.bl true)
   split<;>rfl
 · simp[kv3]
structure Sb3 (U K:List K3):Prop where
 nd:K.Nodup
 sub:∀x∈K,x∈U
theorem Sb3.len {U K:List K3}(h:Sb3 U K):K.length<=U.length:=zfU h.nd h.sub
theorem Sb3.ad {U K:List K3}{k:K3}(h:Sb3 U K)(hk:k∈U):Sb3 U (ad3 K k):=by
 unfold ad3
 split
 · exact h
 · rename_i n
   refine⟨List.nodup_append.mpr ⟨h.nd,by simp,fun a ha b hb e=>?_⟩,fun x hx=>?_⟩
   · simp only[List.mem_singleton] at hb
     subst hb;subst e;exact n ha
   · rcases List.mem_append.mp hx with z|z
     · exact h.sub x z
     · simp only[List.mem_singleton] at z;subst z;exact hk
theorem zc9 {S:R.St}{l:Nat}{kvs:List (K3 × D)}(h:S.get l=some (.d3 kvs)):d3K S (.ref l)=some kvs:=by
 unfold d3K;dsimp only;rw[h]
theorem zd1 (h:Int)(p:List Int)(w:Int):key3 (.tup [.int h,pD p,.int w])=some (h,p,w):=by
 unfold key3
 dsimp only
 rw[zc0];rfl
theorem zjl {S:R.St}{l:Nat}{K:List K3}(g:S.get l=some (.d3 (kv3 K)))(h:Int)(p:List Int)(w:Int):cmpO S .In (.tup [.int h,pD p,.int w]) (.ref l)=some (decide ((h,p,w)∈K)):=by
 show zfq S _ (.ref l)=_
 unfold zfq
 have h1:dKvs S (.ref l)=none:=by unfold dKvs;dsimp only;rw[g]
 rw[h1]
 dsimp only
 rw[zc9 g]
 dsimp only
 rw[zd1,Option.map_some,zdZ]
theorem zlm {S:R.St}{l:Nat}{K:List K3}{h:Int}{p:List Int}{w:Int}(g:S.get l=some (.d3 (kv3 K)))(hf:Fr S l)(hl:K.length<=1000):∃T,dPut S (.ref l) (.tup [.int h,pD p,.int w]) (.bl true)=some T/\Mv [l] S T/\T.get l=some (.d3 (kv3 (ad3 K (h,p,w)))):=by
 obtain⟨T,h1,v,gT⟩:=zfP (u:=.d3 (kv3 (ad3 K (h,p,w)))) hf g
 refine⟨T,?_,v,gT⟩
 unfold dPut
 dsimp only
 rw[g]
 dsimp only
 rw[zd1,Option.bind_some,if_pos (by simp[kv3];omega),zkD,h1]
section
variable {S:R.St} {a m n:Nat} {K:List K3} {h w:Int} {p:List Int}
theorem zh0 (e:S.get a=some (bD m)):((zbT S (.ref a)).bind fun p=>p.2.lookup ("made":PySem.Str))=some (.ref m):=zni e rfl
theorem zk0 (e:S.get a=some (bD m))(g:S.get m=some (.d3 (kv3 K))):appW (callF prog (n+1)) 12 [.ref a,.int h,pD p,.int w] S=.ok (.bl (decide ((h,p,w)∈K))) S:=by
 refine zdf (F:=c_Book_has) rfl rfl ?_
 conv=>whnf
 refine zab (by first|decide|omega|(simp;done)|(simp;omega)) ?_
 conv=>whnf
 refine zac (zh0 e) ?_
 conv=>whnf
 refine zac (zjl g h p w) ?_
 conv=>whnf
 exact⟨rfl,rfl⟩
theorem zhx (e:S.get a=some (bD m))(g:S.get m=some (.d3 (kv3 K)))(hf:Fr S m)(hl:K.length<=1000):W (appW (callF prog (n+1)) 13 [.ref a,.int h,pD p,.int w] S) fun d T=>d=.non/\Mv [m] S T/\T.get m=some (.d3 (kv3 (ad3 K (h,p,w)))):=by
 refine zin (F:=c_Book_stamp) rfl rfl (wS_W _ ?_)
 conv=>whnf
 refine zac (zh0 e) ?_
 conv=>whnf
 refine zab (by first|decide|omega|(simp;done)|(simp;omega)) ?_
 conv=>whnf
 obtain⟨T,h1,v,gT⟩:=zlm (h:=h) (p:=p) (w:=w) g hf hl
 refine zac (h1) ?_
 conv=>whnf
 exact⟨rfl,v,gT⟩
theorem zbf (l:List K3):(zal l).length=l.length:=(zbp l).length_eq
theorem zcd (e:S.get a=some (bD m))(g:S.get m=some (.d3 (kv3 K)))(hl:K.length<64):appW (callF prog (n+1)) 14 [.ref a] S=.ok (.ref S.len) (S.push (.lst ((zal K).map zah))):=by
 refine zdf (F:=c_Book_stamps) rfl rfl ?_
 conv=>whnf
 refine zac (zh0 e) ?_
 conv=>whnf
 refine zac (zc9 g) ?_
 conv=>whnf
 refine zab (by simp[kv3];exact hl) ?_
 conv=>whnf
 rw[zdZ]
 refine zab (by rw[List.length_map,zbf];omega) ?_
 conv=>whnf
 exact⟨rfl,rfl⟩
theorem zdg (bs:List Bool):allD (bs.map D.bl)=some (bs.all id):=by
 unfold allD
 have:(bs.map D.bl).mapM ze1=some bs:=by
  induction bs with
  |nil=>rfl
  |cons b bs ih=>rw[List.map_cons,List.mapM_cons,ih];rfl
 rw[this];rfl
theorem zci {cf:CF}{e:CE}{rest:Ev}{S:R.St}{α:Type}(x y:α->D)(f:α->D):∀(xs:List α) (o u:Option D),(∀z∈xs,evE cf e (some (x z)::some (y z)::rest) S=.ok (f z) S)->
  za6 [0,1] (evT cf (.tst (.con (.bl true)))) (evE cf e) (xs.map fun z=>zcl (x z) (y z)) (o::u::rest) S=.ok (xs.map f) S
 | [],_,_,_=>rfl
 | z :: xs, o, u, h => by
   have ih:=zci (cf:=cf) (e:=e) (rest:=rest) (S:=S) x y f xs (some (x z)) (some (y z)) fun z hz=>h z (List.mem_cons_of_mem _ hz)
   rw[List.map_cons,List.map_cons]
   unfold za6
   show Out.bind (.ok true S) _=_
   rw[zaM,if_pos rfl]
   show Out.bind (evE cf e (some (x z)::some (y z)::rest) S) _=_
   rw[h z List.mem_cons_self,zaM]
   show Out.bind (za6 [0,1] _ _ (xs.map fun z=>zcl (x z) (y z)) (some (x z)::some (y z)::rest) S) _=_
   rw[ih];rfl
noncomputable def genZ (K:List K3)(p:List Int)(w:Int):Bool:=((List.range p.length).map fun i=>decide ((p.getD i 0,p.take i,w)∈K)).all id
theorem zgD (p:List Int):((p.map D.int).mapIdx fun i d=>zcl (.int i) d)=(List.range p.length).map fun (i:Nat)=>zcl (.int i) (.int (p.getD i 0)):=by
 apply List.ext_getElem
 · simp
 · intro i g1 g2
   simp at g1
   simp[g1]
theorem zhy (e:S.get a=some (bD m))(g:S.get m=some (.d3 (kv3 K)))(hp:p.length<=7):appW (callF prog (n+2)) 11 [.ref a,pD p,.int w] S=.ok (.bl (genZ K p w)) S:=by
 refine zdf (F:=c_Book_genuine) rfl rfl ?_
 conv=>whnf
 refine zac ((show zdD S (pD p)=some (((p.map D.int).mapIdx fun i d=>zcl (.int i) d),[]) from rfl)) ?_
 conv=>whnf
 refine zbM ?_
 rw[zgD]
 refine W.of (zci (fun (i:Nat)=>.int i) (fun (i:Nat)=>.int (p.getD i 0)) (fun (i:Nat)=>.bl (decide ((p.getD i 0,p.take i,w)∈K))) (List.range p.length) none none (fun z hz=>?_)) ?_
 · refine W.eq (wE_W _ ?_)
   conv=>whnf
   refine zac (zaT e) ?_
   conv=>whnf
   refine zac (rfl) ?_
   conv=>whnf
   refine zab rfl ?_
   conv=>whnf
   rw[za7,za4]
   refine zar (zk0 (n:=n) e g) ?_
   conv=>whnf
   exact⟨rfl,rfl⟩
 · refine zab (by simp;omega) ?_
   conv=>whnf
   have ha:allD ((List.range p.length).map fun (i:Nat)=>D.bl (decide ((p.getD i 0,p.take i,w)∈K)))=some (genZ K p w):=by
    have:=zdg ((List.range p.length).map fun i=>decide ((p.getD i 0,p.take i,w)∈K))
    rw[List.map_map] at this
    exact this
   refine zac (ha) ?_
   conv=>whnf
   exact⟨rfl,rfl⟩
end
theorem zov (S:R.St)(x y:Bool):cmpO S .Eq (.bl x) (.bl y)=some (x == y):=by
 show eqD S (.bl x) (.bl y)=_
 unfold eqD
 cases x<;>cases y<;>simp[pd,PySem.PyData.eqv]
theorem zfd {n:Nat}{S:R.St}{x:Bool}:app (callF prog (n+1)) 4 [.bl x,.bl x] S=.ok (.bl true) S:=by
 refine zgc (F:=c_law_truth) rfl rfl ?_
 conv=>whnf
 refine zac ((show tyOf S.enter (.bl x)=some "bool" from rfl)) ?_
 conv=>whnf
 refine zac (zov _ _ _) ?_
 conv=>whnf
 exact za0 rfl ⟨by simp,rfl⟩
theorem zmi {n:Nat}{S:R.St}{c:Int}:∃v:Int,app (callF prog (n+1)) 1 [.int c] S=.ok (.int v) S:=by
 have key:W (app (callF prog (n+1)) 1 [.int c] S) fun d T=>T=S/\∃v:Int,d=.int v:=by
  refine zlw (F:=c_law_big) rfl rfl ?_
  conv=>whnf
  refine zab (by first|decide|omega|(simp;done)|(simp;omega)) ?_
  conv=>whnf
  refine zab (by simp[zja]) ?_
  conv=>whnf
  refine zab (by first|decide|omega|(simp;done)|(simp;omega)) ?_
  conv=>whnf
  refine zab (by first|decide|omega|(simp;done)|(simp;omega)) ?_
  conv=>whnf
  exact za0 rfl ⟨rfl,_,rfl⟩
 obtain⟨d,T,e,rfl,o,rfl⟩:=W_ex key
 exact⟨o,e⟩
section
variable {S:R.St} {a m q n:Nat} {K:List K3} {w:Int} {o:List Int} {size:Nat}
theorem at_o (ho:o.length=7){k:Nat}(hk:k<7):atI (o.map D.int) (k:Int)=some (.int (o.getD k 0)):=zdd (by simp[ho,hk])
theorem zkr (e:S.get a=some (bD m))(g:S.get m=some (.d3 (kv3 K)))(gq:S.get q=some (.d3 (kv3 K)))(ho:o.length=7)(hs:size<=7):app (callF prog (n+2)) 5 [.ref a,.ref q,pD o,.int size,.int w] S=.ok (.bl true) S:=by
 refine zgc (F:=c_law_there) rfl rfl ?_
 rw[<-zbH] at e g gq
 generalize S.enter=T at *
 have rest:∀d5:Option D,wS (callF prog (n+1)) (.ifS (.cmp .Lt (.loc 3) (.con (D.int 7))) (.ret (.call 4 0 (.cons (.meth "has" [(0,12)] (.loc 0) (.cons (.ix (.loc 2) (.loc 3)) (.cons (.sl (.loc 2) false true (.con .non) (.loc 3)) (.cons (.loc 4) .nil)))) (.cons (.cmp .In (.tup (.cons (.ix (.loc 2) (.loc 3)) (.cons (.sl (.loc 2) false true (.con .non) (.loc 3)) (.cons (.loc 4) .nil)))) (.loc 1)) .nil))) .nil) .nil (.ret (.con (D.bl true)) .nil)) [some (.ref a),some (.ref q),some (pD o),some (.int size),some (.int w),d5] T fun r T=>wFin S r T fun a T'=>a=.bl true/\T'=S:=by
  intro d5
  conv=>whnf
  refine zgT (fun c=>?_) (fun c=>?_)
  · have c:size<7:=by omega
    conv=>whnf
    refine zac (zaT e) ?_
    conv=>whnf
    refine zac (rfl) ?_
    conv=>whnf
    refine zab rfl ?_
    conv=>whnf
    refine zac (at_o ho c) ?_
    conv=>whnf
    rw[za7,za4]
    refine zar (zk0 (n:=n) e g) ?_
    conv=>whnf
    refine zac (at_o ho c) ?_
    conv=>whnf
    rw[za7,za4]
    refine zab (by first|decide|omega|(simp;done)|(simp;omega)) ?_
    conv=>whnf
    refine zac (zjl gq _ _ _) ?_
    conv=>whnf
    refine zar (zfd (n:=n)) ?_
    conv=>whnf
    exact za0 rfl ⟨rfl,rfl⟩
  · conv=>whnf
    exact za0 rfl ⟨rfl,rfl⟩
 conv=>whnf
 refine zgT (fun c=>?_) (fun c=>?_)
 · obtain⟨k,rfl⟩:∃k,size=k+1:=⟨size - 1,by omega⟩
   conv=>whnf
   have hz:((k+1:Nat):Int) - 1=(k:Int):=by omega
   rw[hz]
   refine zac (at_o ho (by omega)) ?_
   conv=>whnf
   rw[za7,hz,za4]
   refine zab (by first|decide|omega|(simp;done)|(simp;omega)) ?_
   conv=>whnf
   refine zac (zaT e) ?_
   conv=>whnf
   refine zac (rfl) ?_
   conv=>whnf
   refine zab rfl ?_
   conv=>whnf
   refine zac (zds) ?_
   conv=>whnf
   refine zac (zed) ?_
   conv=>whnf
   refine zar (zk0 (n:=n) e g) ?_
   conv=>whnf
   refine zac (zjl gq _ _ _) ?_
   conv=>whnf
   refine zar (zfd (n:=n)) ?_
   conv=>whnf
   exact rest _
 · exact rest _
theorem zg1 {o:List Int}{size i:Nat}(hi:i<size):(o.take size).getD i 0=o.getD i 0:=by
 simp only[List.getD_eq_getElem?_getD]
 rw[List.getElem?_take_of_lt hi]
theorem zg9 (e:S.get a=some (bD m))(g:S.get m=some (.d3 (kv3 K)))(gq:S.get q=some (.d3 (kv3 K)))(ho:o.length=7)(hs:size<=7):app (callF prog (n+3)) 6 [.ref a,.ref q,pD o,.int size,.int w] S=.ok (.bl true) S:=by
 refine zgc (F:=c_law_genuine) rfl rfl ?_
 rw[<-zbH] at e g gq
 generalize S.enter=T at *
 conv=>whnf
 refine zab (by omega) ?_
 conv=>whnf
 refine zbM ?_
 refine W.of (zgg (fun d=>match d with|.int i=>.bl (decide ((o.getD i.toNat 0,o.take i.toNat,w)∈K))|d=>d) _ none (fun z hz=>rfl) (fun z hz=>?_)) ?_
 · obtain⟨k,hk,rfl⟩:=List.mem_map.mp hz
   have hk:k<size:=by simpa using hk
   have g':({T with lk:=[]++T.lk}:R.St).get q=_:=gq
   refine W.eq (wE_W _ ?_)
   conv=>whnf
   refine zac (at_o ho (by omega)) ?_
   conv=>whnf
   rw[za7,za4]
   refine zab (by first|decide|omega|(simp;done)|(simp;omega)) ?_
   conv=>whnf
   refine zac (zjl g' _ _ _) ?_
   conv=>whnf
   exact⟨by simp,rfl⟩
 have hl:(o.take size).length=size:=by rw[List.length_take];omega
 have ha:allD (((List.range (size:Int).toNat).map fun (k:Nat)=>D.int k).map fun d=>match d with|.int i=>.bl (decide ((o.getD i.toNat 0,o.take i.toNat,w)∈K))|d=>d)=some (genZ K (o.take size) w):=by
  have:=zdg ((List.range size).map fun i=>decide ((o.getD i 0,o.take i,w)∈K))
  rw[List.map_map] at this
  rw[List.map_map,Int.toNat_natCast]
  refine Eq.trans (congrArg allD (List.map_congr_left fun i hi=>?_)) (this.trans ?_)
  · rfl
  · unfold genZ
    rw[hl]
    congr 2
    refine List.map_congr_left fun i hi=>?_
    have hi:i<size:=List.mem_range.mp hi
    rw[zg1 hi,List.take_take,Nat.min_eq_left (by omega)]
 refine zab (by simp;omega) ?_
 conv=>whnf
 refine zac (ha) ?_
 conv=>whnf
 refine zac (zaT e) ?_
 conv=>whnf
 refine zac (rfl) ?_
 conv=>whnf
 refine zab rfl ?_
 conv=>whnf
 rw[za7,za4]
 refine zar (zhy (n:=n) e g (by rw[hl];exact hs)) ?_
 conv=>whnf
 refine zar (zfd (n:=n+1)) ?_
 conv=>whnf
 exact za0 rfl ⟨rfl,rfl⟩
end
theorem zoB {P:List Fn}{F:Fn}{f n:Nat}{ds:List D}{S S':R.St}{d:D}(h:P[f]?=some F)(hl:ds.length=F.np)(w:W (exS (callF P n) F.body (zaW F ds) S.enter) fun r T=>wFin S r T fun a T'=>a=d/\T'=S')(hp:F.prim=none:=by rfl) :
  app (callF P (n+1)) f ds S=.ok d S':=by
 refine W.eq ?_
 rw[zjX h hl hp,zaa]
 refine w.mono fun r T q=>?_
 unfold wFin at q;exact q
theorem zjS {cf:CF}{c:CE}{u v r:CS}{δ:Ev}{S:R.St}{Q:Fl->R.St->Prop}(e:evT cf c δ S=.ok true S)(w:W (exS cf u δ S) fun f S2=>match f with|.nx δ'=>W (exS cf r δ' S2) Q|.rt d=>Q (.rt d) S2):W (exS cf (.ifS c u v r) δ S) Q:=by
 rw[exS,e,zaM,if_pos rfl,zaa]
 refine w.mono fun f S2 q=>?_
 cases f<;>exact q
theorem zgd {cf:CF}{a b:CE}{δ:Ev}{S S':R.St}{d:D}(ha:evE cf a δ S=.ok (.bl true) S)(hb:evE cf b δ S=.ok d S'):evE cf (.and a b) δ S=.ok d S':=by
 rw[evE,ha,zaM]
 exact hb
section
variable {S:R.St} {a m q n:Nat} {K:List K3} {w:Int} {o:List Int} {size:Nat}
theorem c6 {T:R.St}(e:T.get a=some (bD m))(g:T.get m=some (.d3 (kv3 K)))(gq:T.get q=some (.d3 (kv3 K)))(ho:o.length=7)(hs:size<=7)(d:Option D):evE (callF prog (n+3)) (.call 6 0 (.cons (.loc 0) (.cons (.loc 1) (.cons (.loc 2) (.cons (.loc 3) (.cons (.loc 4) .nil)))))) [some (.ref a),some (.ref q),some (pD o),some (.int size),some (.int w),d] T=.ok (.bl true) T:=by
 refine W.eq (wE_W _ ?_)
 conv=>whnf
 refine zar (zg9 (n:=n) e g gq ho hs) ?_
 conv=>whnf
 exact⟨rfl,rfl⟩
theorem c5 {T:R.St}(e:T.get a=some (bD m))(g:T.get m=some (.d3 (kv3 K)))(gq:T.get q=some (.d3 (kv3 K)))(ho:o.length=7)(hs:size<=7)(d:Option D):evE (callF prog (n+3)) (.call 5 0 (.cons (.loc 0) (.cons (.loc 1) (.cons (.loc 2) (.cons (.loc 3) (.cons (.loc 4) .nil)))))) [some (.ref a),some (.ref q),some (pD o),some (.int size),some (.int w),d] T=.ok (.bl true) T:=by
 refine W.eq (wE_W _ ?_)
 conv=>whnf
 refine zar (zkr (n:=n+1) e g gq ho hs) ?_
 conv=>whnf
 exact⟨rfl,rfl⟩
theorem zhb {b:Bool}(e:S.get a=some (bD m))(g:S.get m=some (.d3 (kv3 K)))(gq:S.get q=some (.d3 (kv3 K)))(ho:o.length=7)(hs:size<=7):app (callF prog (n+4)) 7 [.ref a,.ref q,pD o,.int size,.int w,.bl b] S=.ok (.bl true) S:=by
 refine zoB (F:=c_law_asked) rfl rfl ?_
 rw[<-zbH] at e g gq
 generalize S.enter=T at *
 have fin:wFin S (.rt (.bl true)) T fun a T'=>a=.bl true/\T'=S:=za0 rfl ⟨rfl,rfl⟩
 show W (exS (callF prog (n+3)) (.ifS (.tst (.loc 5)) (.ret (.and _ _) .nil) .nil (.ret (.and _ _) .nil)) [some (.ref a),some (.ref q),some (pD o),some (.int size),some (.int w),some (.bl b)] T) _
 cases b with
 | true =>
   refine zjS rfl ?_
   exact zcc (W.of (zgd (c6 e g gq ho hs _) (c5 e g gq ho hs _)) fin)
 | false =>
   refine zcw (W.of (d:=false) (S:=T) rfl ⟨rfl,?_⟩)
   exact zcc (W.of (zgd (c5 e g gq ho hs _) (c6 e g gq ho hs _)) fin)
end
theorem zlH {S:R.St}{l:Nat}{ds:List D}(h:S.get l=some (.lst ds)):tyOf S (.ref l)=some "list":=by unfold tyOf;dsimp only;rw[h]
theorem zcM {α:Type}{S:R.St}{n:Nat}{f:α->D}{g:α->PySem.PyData}(h:∀x,pd S n (f x)=some (g x)):∀xs:List α,(xs.map f).mapM (pd S n)=some (xs.map g)
 | []=>rfl
 |x::xs=>by rw[List.map_cons,List.mapM_cons,zcM h xs,h x];rfl
noncomputable def kP (k:K3):PySem.PyData:=.tuple [.int k.1,.tuple (k.2.1.map .int),.int k.2.2]
theorem zfR (S:R.St)(n:Nat)(k:K3):pd S (n+2) (zah k)=some (kP k):=by
 have h1:=zod S n k.2.1
 unfold zah
 unfold pd
 rw[List.mapM_cons,List.mapM_cons,List.mapM_cons,List.mapM_nil,h1]
 rfl
theorem zm9 (k:K3):key3 (zah k)=some k:=zd1 k.1 k.2.1 k.2.2
theorem zcP {S:R.St}{l:Nat}{K:List K3}(h:S.get l=some (.lst (K.map zah))):lst3 S (.ref l)=some K:=by
 unfold lst3
 dsimp only
 rw[h]
 dsimp only
 induction K with
 |nil=>rfl
 | cons k K ih =>
   have:∀L:List K3,(L.map zah).mapM key3=some L:=by
    intro L
    induction L with
    |nil=>rfl
    |cons x L ih=>rw[List.map_cons,List.mapM_cons,ih,zm9];rfl
   exact this (k::K)
section
variable {S:R.St} {a m q n lh:Nat} {K:List K3}
noncomputable def sS (S:R.St)(K:List K3):R.St:=(S.push (.lst (K.map zah))).push (.lst ((zal K).map zah))
theorem zju {cf:CF}{c:CE}{δ:Ev}(h:evE cf c δ S=.ok (.ref q) S)(gq:S.get q=some (.d3 (kv3 K)))(nd:K.Nodup)(hl:K.length<64):evE cf (.srt3 (.d3keys c)) δ S=.ok (.ref (S.push (.lst (K.map zah))).len) (sS S K):=by
 have ek:((kv3 K).map fun kv=>zah kv.1)=K.map zah:=by unfold kv3;rw[List.map_map];rfl
 simp only[evE,h,zaM]
 rw[zc9 gq,zbF,zaM,ek]
 unfold lay
 rw[if_pos (by rw[List.length_map];omega),zaM,zcP (zaH _ _),zbF,zaM,if_pos ⟨hl,nd⟩,if_pos (by rw[List.length_map,zbf];omega)]
 rfl
noncomputable def zgm (x:Nat × Nat):D:=.tup [.ref x.1,.ref x.2]
theorem zfJ {rows:List (Nat × Nat)}(e:S.get a=some (bD m))(g:S.get m=some (.d3 (kv3 K)))(gq:S.get q=some (.d3 (kv3 K)))(gh:S.get lh=some (.lst (rows.map zgm)))(nd:K.Nodup)(hl:K.length<64)(hr:rows.length<=1000)(hf:Fr S lh)(hk:∀x,S.len<=x->Fr S x) :
  W (appW (callF prog (n+2)) 8 [.ref a,.ref q,.ref lh] S) fun d T=>d=.bl true/\Mv [lh] S T/\∃x y,S.len<=x/\S.len<=y/\T.get x=some (.lst ((zal K).map zah))/\T.get y=some (.lst ((zal K).map zah))/\T.get lh=some (.lst ((rows++[(x,y)]).map zgm)):=by
 have hlh:=zaZ gh
 refine zin (F:=c_law_listed) rfl rfl ?_
 refine za5 (d:=.ref S.len) (S':=S.push (.lst ((zal K).map zah))) (W.eq (wE_W _ ?_)) ?_
 · conv=>whnf
   refine zac (zaT e) ?_
   conv=>whnf
   refine zac (rfl) ?_
   conv=>whnf
   refine zab rfl ?_
   conv=>whnf
   refine zar (zcd (n:=n) e g hl) ?_
   conv=>whnf
   exact⟨rfl,rfl⟩
 have e1:=zag (o:=.lst ((zal K).map zah)) e
 have g1:=zag (o:=.lst ((zal K).map zah)) g
 have gq1:=zag (o:=.lst ((zal K).map zah)) gq
 have gh1:=zag (o:=.lst ((zal K).map zah)) gh
 have n1:=zaH S (.lst ((zal K).map zah))
 have v1:=Mv.push [lh] S (.lst ((zal K).map zah))
 have s1:=plen S (.lst ((zal K).map zah))
 have f1:Fr (S.push (.lst ((zal K).map zah))) S.len:=(hk S.len (Nat.le_refl _)).mv v1
 have vn:∀{A:List Nat} {U:R.St},Mv (S.len::A) (S.push (.lst ((zal K).map zah))) U->Mv A S U:=fun u=>zmY u
 generalize S.push (.lst ((zal K).map zah))=T1 at *
 have es:=zju (cf:=callF prog (n+1)) (c:=.loc 1) (δ:=[some (.ref a),some (.ref q),some (.ref lh),some (.ref S.len)]) (S:=T1) rfl gq1 nd hl
 refine zcw (W.of (d:=false) (S:=sS T1 K) (W.eq (wT_W _ ?_)) ⟨rfl,?_⟩)
 · have ek:((kv3 K).map fun kv=>zah kv.1)=K.map zah:=by unfold kv3;rw[List.map_map];rfl
   conv=>whnf
   refine zac (zlH n1) ?_
   conv=>whnf
   refine zac (zc9 gq1) ?_
   conv=>whnf
   rw[ek]
   refine zab (by rw[List.length_map];omega) ?_
   conv=>whnf
   refine zac (zcP (zaH _ _)) ?_
   conv=>whnf
   refine zab ⟨hl,nd⟩ ?_
   conv=>whnf
   refine zab (by rw[List.length_map,zbf];omega) ?_
   conv=>whnf
   refine zac (zfv (zag (zag n1)) (zaN _ _) (zcM (fun k=>zfR _ 57 k) (zal K))) ?_
   conv=>whnf
   exact⟨rfl,rfl⟩
 have e2:(sS T1 K).get a=_:=zag (zag e1)
 have g2:(sS T1 K).get m=_:=zag (zag g1)
 have gq2:(sS T1 K).get q=_:=zag (zag gq1)
 have gh2:(sS T1 K).get lh=_:=zag (zag gh1)
 have n2:(sS T1 K).get S.len=_:=zag (zag n1)
 have v2:∀A,Mv A T1 (sS T1 K):=fun A=>(Mv.push A T1 _).trans (Mv.push A _ _)
 have f2:=f1.mv (v2 [])
 have fh2:=(hf.mv v1).mv (v2 [])
 generalize sS T1 K=T2 at *
 obtain⟨T3,u1,u2,u3⟩:=zfP (u:=.lst ((zal K).map zah++[.int 0])) f2 n2
 refine zeR (W.of (S:=T3) (d:=.non) (W.eq (wE_W _ ?_)) ?_)
 · conv=>whnf
   refine zac (n2) ?_
   conv=>whnf
   refine zac (n2) ?_
   conv=>whnf
   refine zab (by simp[zbf];omega) ?_
   conv=>whnf
   refine zac (u1) ?_
   conv=>whnf
   exact⟨rfl,rfl⟩
 have el:=zaZ e
 have ml:=zaZ g
 have ql:=zaZ gq
 have ne:∀{x:Nat},x<S.len->x∉[S.len]:=fun h=>by simp;omega
 have e3:=u2.old _ _ (ne el) e2
 have g3:=u2.old _ _ (ne ml) g2
 have gq3:=u2.old _ _ (ne ql) gq2
 have gh3:=u2.old _ _ (ne hlh) gh2
 have fh3:=fh2.mv u2
 have v3:Mv (S.len::[lh]) T1 T3:=(v2 _).trans (u2.up (by simp))
 have le3:S.len<=T3.len:=by have:=v3.len;omega
 clear u1 u2 u3 e2 g2 gq2 gh2 n2 v2 f2 fh2 e1 g1 gq1 gh1 n1 es
 have key:W (evE (callF prog (n+1)) (.mt .append (.loc 2) (.cons (.tup (.cons (.meth "stamps" [(0,14)] (.loc 0) .nil) (.cons (.srt3 (.d3keys (.loc 1))) .nil))) .nil)) [some (.ref a),some (.ref q),some (.ref lh),some (.ref S.len)] T3) fun d U=>Mv [lh] T3 U/\∃x y,T3.len<=x/\T3.len<=y/\U.get x=some (.lst ((zal K).map zah))/\U.get y=some (.lst ((zal K).map zah))/\U.get lh=some (.lst ((rows++[(x,y)]).map zgm)):=by
  have ek:((kv3 K).map fun kv=>zah kv.1)=K.map zah:=by unfold kv3;rw[List.map_map];rfl
  have hl3:=zaZ gh3
  refine wE_W _ ?_
  conv=>whnf
  refine zac (gh3) ?_
  conv=>whnf
  refine zac (zaT e3) ?_
  conv=>whnf
  refine zac (rfl) ?_
  conv=>whnf
  refine zab rfl ?_
  conv=>whnf
  refine zar (zcd (n:=n) e3 g3 hl) ?_
  conv=>whnf
  have gq4:=zag (o:=.lst ((zal K).map zah)) gq3
  have gh4:=zag (o:=.lst ((zal K).map zah)) gh3
  have n4:=zaH T3 (.lst ((zal K).map zah))
  have v4:=Mv.push [lh] T3 (.lst ((zal K).map zah))
  have fh4:=fh3.mv v4
  have s4:=plen T3 (.lst ((zal K).map zah))
  generalize T3.push (.lst ((zal K).map zah))=T4 at *
  refine zac (zc9 gq4) ?_
  conv=>whnf
  rw[ek]
  refine zab (by rw[List.length_map];omega) ?_
  conv=>whnf
  refine zac (zcP (zaH _ _)) ?_
  conv=>whnf
  refine zab ⟨hl,nd⟩ ?_
  conv=>whnf
  refine zab (by rw[List.length_map,zbf];omega) ?_
  conv=>whnf
  have gh6:=zag (o:=.lst ((zal K).map zah)) (zag (o:=.lst (K.map zah)) gh4)
  have n46:=zag (o:=.lst ((zal K).map zah)) (zag (o:=.lst (K.map zah)) n4)
  have n6:=zaH (T4.push (.lst (K.map zah))) (.lst ((zal K).map zah))
  have v6:=(v4.trans (Mv.push [lh] T4 (.lst (K.map zah)))).trans (Mv.push [lh] _ (.lst ((zal K).map zah)))
  have fh6:=(fh4.mv (Mv.push [lh] T4 (.lst (K.map zah)))).mv (Mv.push [lh] _ (.lst ((zal K).map zah)))
  have s5:=plen T4 (.lst (K.map zah))
  generalize T4.push (.lst (K.map zah))=T5 at *
  generalize T5.push (.lst ((zal K).map zah))=T6 at *
  refine zab (by first|decide|omega|(simp;done)|(simp;omega)) ?_
  conv=>whnf
  refine zac (gh6) ?_
  conv=>whnf
  refine zab (by simp only[List.length_append,List.length_map,List.length_cons,List.length_nil];omega) ?_
  conv=>whnf
  obtain⟨U,w1,w2,w3⟩:=zfP (u:=.lst (rows.map zgm++[.tup [.ref T3.len,.ref T5.len]])) fh6 gh6
  refine zac (w1) ?_
  conv=>whnf
  refine⟨v6.trans w2,T3.len,T5.len,Nat.le_refl _,by omega,w2.old _ _ (by simp;omega) n46,w2.old _ _ (by simp;omega) n6,?_⟩
  rw[w3,List.map_append];rfl
 refine zeR (key.mono ?_)
 rintro d U ⟨w1,x,y,x1,y1,gx,gy,gl⟩
 refine zcc (W.of (S:=U) (d:=.bl true) (W.eq (wE_W _ ?_)) ?_)
 · conv=>whnf
   exact⟨rfl,rfl⟩
 · exact⟨rfl,vn (v3.trans (w1.up (by simp))),x,y,by omega,by omega,gx,gy,gl⟩
end
theorem zjA {α:Type}(xs:List α)(k:Nat):cut xs (some (k:Int)) none=xs.drop k:=by
 unfold cut sIx
 dsimp only
 rw[if_neg (by omega),Int.toNat_natCast]
 rcases Nat.le_total k xs.length with h|h
 · rw[Nat.min_eq_left h,List.take_of_length_le (by rw[List.length_drop];omega)]
 · rw[Nat.min_eq_right h,List.drop_of_length_le (Nat.le_refl _),List.drop_of_length_le h];simp
noncomputable def zok:CS:=(.asg 4 (.bin .Mod (.loc 0) (.bi .len (.cons (.loc 1) .nil))) (.asg 0 (.bin .FloorDiv (.loc 0) (.con (D.int 7))) (.expr (.mt .append (.loc 2) (.cons (.ix (.loc 1) (.loc 4)) .nil)) (.asg 1 (.bin .Add (.sl (.loc 1) false true (.con .non) (.loc 4)) (.sl (.loc 1) true false (.bin .Add (.loc 4) (.con (D.int 1))) (.con .non))) .nil))))
structure OI (S:R.St) (j:Nat) (l1 l2:Nat) (c:Int) (T:R.St) (fs:List Int):Prop where
 fr:Fr T l2
 g2:T.get l2=some (.lst (fs.map .int))
 g1:∃ls:List Int,T.get l1=some (.lst (ls.map .int))/\ls.length=7 - j
 hl:fs.length=j
 ne:l1≠l2
 lk:T.lk=[]
theorem zmX {n j l1 l2:Nat}{S T:R.St}{c:Int}{fs:List Int}{d3 d4:Option D}(hj:j<7)(h:OI S j l1 l2 c T fs) :
  W (exS (callF prog (n+1)) zok [some (.int c),some (.ref l1),some (.ref l2),d3,d4] T) fun f U=>match f with
   |.nx δ=>∃c' l1' fs' d4',δ=[some (.int c'),some (.ref l1'),some (.ref l2),d3,d4']/\OI S (j+1) l1' l2 c' U fs'
   |.rt _=>False:=by
 obtain⟨hfr,g2,⟨ls,g1,hls⟩,hl,ne,lk⟩:=h
 have hpos:0<ls.length:=by omega
 refine wS_W _ ?_
 conv=>whnf
 refine zac (g1) ?_
 conv=>whnf
 refine zab (by simp;omega) ?_
 conv=>whnf
 have ha0:=Int.emod_nonneg c (b:=((ls.map D.int).length:Int)) (by rw[List.length_map];omega)
 have ha1:=Int.emod_lt_of_pos c (b:=((ls.map D.int).length:Int)) (by rw[List.length_map];omega)
 obtain⟨k,hk⟩:∃k:Nat,c % ((ls.map D.int).length:Int)=k:=⟨_,(Int.toNat_of_nonneg ha0).symm⟩
 rw[hk] at ha1⊢
 have hkl:k<ls.length:=by simpa using ha1
 refine zab (by first|decide|omega|(simp;done)|(simp;omega)) ?_
 conv=>whnf
 refine zac (g2) ?_
 conv=>whnf
 refine zac (g1) ?_
 conv=>whnf
 refine zac ((zdd (show (ls.map D.int)[k]?=some (.int ls[k]) by simp[hkl]))) ?_
 conv=>whnf
 refine zac (g2) ?_
 conv=>whnf
 refine zab (by simp only[List.length_append,List.length_map,List.length_cons,List.length_nil];omega) ?_
 conv=>whnf
 obtain⟨U,u1,u2,u3⟩:=zfP (u:=.lst (fs.map D.int++[.int ls[k]])) hfr g2
 refine zac (u1) ?_
 conv=>whnf
 have g1':=u2.old _ _ (by simpa using ne) g1
 refine zac (g1') ?_
 conv=>whnf
 rw[za7,za4]
 refine zab (by simp;omega) ?_
 conv=>whnf
 refine zac (zag g1') ?_
 conv=>whnf
 have hz:(k:Int)+1=((k+1:Nat):Int):=by omega
 rw[za7,hz,zjA]
 refine zab (by simp;omega) ?_
 conv=>whnf
 refine zac (zag (zaN _ _)) ?_
 conv=>whnf
 refine zac (zaN _ _) ?_
 conv=>whnf
 refine zab (by simp;omega) ?_
 conv=>whnf
 have l2lt:=zaZ u3
 refine⟨_,_,fs++[ls[k]],_,rfl,⟨(((hfr.mv u2).mv (Mv.push [] U _)).mv (Mv.push [] _ _)).mv (Mv.push [] _ _),?_,⟨ls.take k++ls.drop (k+1),?_,?_⟩,by simp[hl],?_,?_⟩⟩
 · rw[List.map_append];exact zag (zag (zag u3))
 · rw[List.map_append];exact zaN _ _
 · simp;omega
 · rw[plen,plen];omega
 · show U.lk=[];rw[u2.lk];exact lk
theorem zks {n:Nat}{S:R.St}{c:Int}:∃o:List Int,app (callF prog (n+2)) 2 [.int c] S=.ok (pD o) S/\o.length=7:=by
 have key:W (app (callF prog (n+2)) 2 [.int c] S) fun d T=>T=S/\∃o:List Int,d=pD o/\o.length=7:=by
  refine zlw (F:=c_law_order) rfl rfl ?_
  have hfz:S.enter.frz.length=S.enter.len:=by simp[St.enter,St.len]
  have hlk:S.enter.lk=[]:=rfl
  generalize S.enter=T at *
  conv=>whnf
  refine zab (by first|decide|omega|(simp;done)|(simp;omega)) ?_
  conv=>whnf
  refine zab (by first|decide|omega|(simp;done)|(simp;omega)) ?_
  conv=>whnf
  refine zab (by first|decide|omega|(simp;done)|(simp;omega)) ?_
  conv=>whnf
  refine zab (by first|decide|omega|(simp;done)|(simp;omega)) ?_
  conv=>whnf
  refine zbM ?_
  refine W.mono (zbn (fun j δ U=>∃c' l1 l2 fs d3 d4,δ=[some (.int c'),some (.ref l1),some (.ref l2),d3,d4]/\OI S j l1 l2 c' U fs) (fun _ _=>False) _ 0 _ _ ⟨c,T.len,(T.push (.lst ((List.range (7:Int).toNat).map fun (k:Nat)=>D.int k))).len,[],none,none,rfl,⟨⟨?_,?_⟩,zaN _ _,⟨(List.range 7).map fun (k:Nat)=>(k:Int),?_,by simp⟩,rfl,?_,?_⟩⟩ ?_) ?_
  · show T.frz.length<=_;rw[plen];omega
  · show T.lk.contains _=false;rw[hlk];rfl
  · rw[List.map_map];exact zag (zaN _ _)
  · rw[plen];omega
  · exact hlk
  · rintro j z δ U hz ⟨c',l1,l2,fs,d3,d4,rfl,h⟩
    rw[Nat.zero_add] at h⊢
    have hj:j<7:=by have:=(List.getElem?_eq_some_iff.mp hz).1;simpa using this
    refine⟨[some (.int c'),some (.ref l1),some (.ref l2),some z,d4],rfl,?_⟩
    refine (zmX (n:=n) hj h).mono fun f V hV=>?_
    cases f with
    |rt d=>exact hV.elim
    | nx δ' =>
      obtain⟨c'',l1',fs',d4',rfl,h'⟩:=hV
      exact⟨c'',l1',l2,fs',_,d4',rfl,h'⟩
  · intro f U hU
    cases f with
    |rt d=>exact hU.elim
    | nx δ =>
      obtain⟨c',l1,l2,fs,d3,d4,rfl,h⟩:=hU
      have hl:fs.length=7:=by have:=h.hl;simpa using this
      have g2:({U with lk:=_}:R.St).get l2=some (.lst (fs.map .int)):=h.g2
      conv=>whnf
      refine zac (g2) ?_
      conv=>whnf
      refine zab (by show (fs.map D.int).length<=_;rw[List.length_map];omega) ?_
      conv=>whnf
      refine za0 ?_ ⟨rfl,fs,rfl,hl⟩
      rw[zjs,zcg]
      intro d hd
      obtain⟨x,_,rfl⟩:=List.mem_map.mp hd
      rfl
 obtain⟨d,T,e,rfl,o,rfl,ho⟩:=W_ex key
 exact⟨o,e,ho⟩
theorem zlx {P:List Fn}{F:Fn}{f n:Nat}{ds rs:List D}{S:R.St}(h:P[f]?=some F)(hl:ds.length=F.np)(w:W (exS (callF P n) F.body (zaW F ds) S.enter) fun r T=>∃l,r=.rt (.ref l)/\S.len<=l/\T.get l=some (.lst rs)/\flats S.len rs=true)(hp:F.prim=none:=by rfl) :
  appL (callF P (n+1)) f ds S=.ok rs S:=by
 refine W.eq ?_
 rw[zly h hl hp,zaa]
 refine w.mono fun r T q=>?_
 obtain⟨l,rfl,h1,h2,h3⟩:=q
 rw[zlj]
 unfold zcT
 dsimp only
 rw[if_neg (by omega),h2]
 dsimp only
 rw[if_pos h3]
 exact⟨rfl,rfl⟩
theorem ziJ {n:Nat}{S:R.St}{kind gap:Int}{size:Nat}(h1:1<=size)(h7:size<=7):∃ps:List Nat,appL (callF prog (n+1)) 3 [.int kind,.int size,.int gap] S=.ok (ps.map fun (p:Nat)=>.int p) S/\∀p∈ps,p<size:=by
 have key:∃ps:List Nat,W (exS (callF prog n) c_law_places.body (zaW c_law_places [.int kind,.int size,.int gap]) S.enter) (fun r T=>∃l,r=.rt (.ref l)/\S.len<=l/\T.get l=some (.lst (ps.map fun (p:Nat)=>.int p))/\flats S.len (ps.map fun (p:Nat)=>.int p)=true)/\∀p∈ps,p<size:=by
  have hln:S.enter.len=S.len:=by simp[St.enter,St.len]
  have fl:∀ps:List Nat,flats S.len (ps.map fun (p:Nat)=>D.int p)=true:=fun ps=>by
   rw[zcg];intro d hd;obtain⟨x,_,rfl⟩:=List.mem_map.mp hd;rfl
  generalize S.enter=T at *
  by_cases k0:kind=0
  · refine⟨[size - 1],wS_W _ ?_,fun p hp=>by simp at hp;omega⟩
    conv=>whnf
    refine ziv (by simp[k0]) ?_
    conv=>whnf
    refine zab (by first|decide|omega|(simp;done)|(simp;omega)) ?_
    conv=>whnf
    refine⟨_,rfl,by omega,?_,fl _⟩
    rw[show (size:Int) - 1=((size - 1:Nat):Int) by omega]
    exact zaN _ _
  by_cases k1:kind=1
  · refine⟨List.range size,wS_W _ ?_,fun p hp=>List.mem_range.mp hp⟩
    conv=>whnf
    refine zfa (by simp[k0]) ?_
    conv=>whnf
    refine ziv (by simp[k1]) ?_
    conv=>whnf
    refine zab (by omega) ?_
    conv=>whnf
    refine zab (by simp;omega) ?_
    conv=>whnf
    refine⟨_,rfl,by omega,?_,fl _⟩
    exact zaN _ _
  by_cases k2:kind=2
  · refine⟨(List.range size).filter fun (p:Nat)=>!decide ((p:Int)=gap % size),wS_W _ ?_,fun p hp=>List.mem_range.mp (List.mem_filter.mp hp).1⟩
    conv=>whnf
    refine zfa (by simp[k0]) ?_
    conv=>whnf
    refine zfa (by simp[k1]) ?_
    conv=>whnf
    refine ziv (by simp[k2]) ?_
    conv=>whnf
    refine zab (by omega) ?_
    conv=>whnf
    refine zbM ?_
    refine W.of (zb2 (fun d=>match d with|.int p=>!decide (p=gap % size)|_=>false) (fun d=>d) _ none (fun z hz=>?_) (fun z hz _=>rfl)) ?_
    · obtain⟨p,_,rfl⟩:=List.mem_map.mp hz
      refine W.eq (wT_W _ ?_)
      conv=>whnf
      refine zab (by omega) ?_
      conv=>whnf
      exact⟨rfl,rfl⟩
    have ef:((((List.range (size:Int).toNat).map fun (k:Nat)=>D.int k).filter fun d=>match d with|.int p=>!decide (p=gap % size)|_=>false).map fun d=>d)=((List.range size).filter fun (p:Nat)=>!decide ((p:Int)=gap % size)).map fun (p:Nat)=>D.int p:=by
     rw[List.map_id',Int.toNat_natCast,List.filter_map];rfl
    rw[ef]
    have hl:=List.length_filter_le (fun (p:Nat)=>!decide ((p:Int)=gap % size)) (List.range size)
    rw[List.length_range] at hl
    refine zab (by rw[List.length_map];omega) ?_
    conv=>whnf
    refine zab (by rw[List.length_map];omega) ?_
    conv=>whnf
    refine⟨_,rfl,?_,zaN _ _,fl _⟩
    show S.len<=T.len
    omega
  · refine⟨[],wS_W _ ?_,fun p hp=>by cases hp⟩
    conv=>whnf
    refine zfa (by simp[k0]) ?_
    conv=>whnf
    refine zfa (by simp[k1]) ?_
    conv=>whnf
    refine zfa (by simp[k2]) ?_
    conv=>whnf
    refine zab (by first|decide|omega|(simp;done)|(simp;omega)) ?_
    conv=>whnf
    exact⟨_,rfl,by omega,zaN _ _,fl _⟩
 obtain⟨ps,hw,hp⟩:=key
 exact⟨ps,zlx (F:=c_law_places) rfl rfl hw,hp⟩
theorem zcL {T:R.St}{x y:Nat}{o o':MO}(hx:T.get x=some o)(hy:T.get y=some o')(h:o≠o'):x≠y:=fun z=>h (by rw[z,hy] at hx;exact (Option.some.inj hx).symm)
structure Ad where
 a0:Nat
 a1:Nat
 m0:Nat
 m1:Nat
 n0:Nat
 n1:Nat
 lo:Nat
 lw:Nat
 lb:Nat
 lm:Nat
 lh:Nat
noncomputable def Ad.A (d:Ad):List Nat:=[d.m0,d.m1,d.n0,d.n1,d.lh]
structure Cn (d:Ad) (L:List Nat):Prop where
 nd:[d.m0,d.m1,d.n0,d.n1].Nodup
 lh:d.lh∉[d.lo,d.lw,d.lb,d.lm]
 lk:∀x∈d.A,L.contains x=false
noncomputable def Uk (os:List (List Int))(ws:List Int):List K3:=os.flatMap fun o=>(List.range 7).flatMap fun p=>ws.map fun w=>(o.getD p 0,o.take p,w)
noncomputable def RwO (A:List Nat)(T:R.St)(x:Nat × Nat):Prop:=∃ks:List K3,T.get x.1=some (.lst (ks.map zah))/\T.get x.2=some (.lst (ks.map zah))/\x.1∉A/\x.2∉A
structure Bx (d:Ad) (os:List (List Int)) (ws:List Int) (L:List Nat) (T:R.St) (K0 K1:List K3) (rows:List (Nat × Nat)):Prop where
 fz:T.frz=[]
 lk:T.lk=L
 hL:∀x∈L,x<T.len
 gO:T.get d.lo=some (.lst (os.map pD))
 gW:T.get d.lw=some (.lst (ws.map .int))
 gB:T.get d.lb=some (.lst [.ref d.a0,.ref d.a1])
 gM:T.get d.lm=some (.lst [.ref d.n0,.ref d.n1])
 ga0:T.get d.a0=some (bD d.m0)
 ga1:T.get d.a1=some (bD d.m1)
 g0:T.get d.m0=some (.d3 (kv3 K0))
 h0:T.get d.n0=some (.d3 (kv3 K0))
 g1:T.get d.m1=some (.d3 (kv3 K1))
 h1:T.get d.n1=some (.d3 (kv3 K1))
 gh:T.get d.lh=some (.lst (rows.map zgm))
 ok:∀x∈rows,RwO d.A T x
 s0:Sb3 (Uk os ws) K0
 s1:Sb3 (Uk os ws) K1
section
variable {d:Ad} {os:List (List Int)} {ws:List Int} {L:List Nat} {T U:R.St} {K0 K1:List K3} {rows:List (Nat × Nat)} {k:K3}
theorem Bx.fr (B:Bx d os ws L T K0 K1 rows){x:Nat}(h:L.contains x=false):Fr T x:=⟨by rw[B.fz];exact Nat.zero_le _,by rw[B.lk];exact h⟩
theorem Bx.new (B:Bx d os ws L T K0 K1 rows){x:Nat}(h:T.len<=x):Fr T x:=B.fr (by
 cases e:L.contains x with
 |false=>rfl
 |true=>have:=B.hL x (by simpa using e);omega)
theorem RwO.mv {A B:List Nat}{x:Nat × Nat}(h:RwO A T x)(v:Mv B T U)(hs:∀y∈B,y∈A):RwO A U x:=by
 obtain⟨ks,h1,h2,h3,h4⟩:=h
 exact⟨ks,v.old _ _ (fun z=>h3 (hs _ z)) h1,v.old _ _ (fun z=>h4 (hs _ z)) h2,h3,h4⟩
theorem Bx.mv (B:Bx d os ws L T K0 K1 rows)(v:Mv [] T U):Bx d os ws L U K0 K1 rows:=
 have o:∀{x o},T.get x=some o->U.get x=some o:=fun h=>v.old _ _ (by simp) h
 ⟨v.frz.trans B.fz,v.lk.trans B.lk,fun x hx=>Nat.lt_of_lt_of_le (B.hL x hx) v.len,o B.gO,o B.gW,o B.gB,o B.gM,o B.ga0,o B.ga1,o B.g0,o B.h0,o B.g1,o B.h1,o B.gh,fun x hx=>(B.ok x hx).mv v (by simp),B.s0,B.s1⟩
theorem Bx.step0 (C:Cn d L)(B:Bx d os ws L T K0 K1 rows)(v:Mv [d.m0,d.n0] T U)(g:U.get d.m0=some (.d3 (kv3 (ad3 K0 k))))(h:U.get d.n0=some (.d3 (kv3 (ad3 K0 k))))(hk:k∈Uk os ws):Bx d os ws L U (ad3 K0 k) K1 rows:=by
 have nd:=C.nd
 have o:∀{x o},T.get x=some o->(∀kvs,o≠.d3 kvs)->U.get x=some o:=fun {x o} hx ho=>v.old _ _ (by
  have:=zcL hx B.g0 (ho _)
  have:=zcL hx B.h0 (ho _)
  simp;omega) hx
 refine⟨v.frz.trans B.fz,v.lk.trans B.lk,fun x hx=>Nat.lt_of_lt_of_le (B.hL x hx) v.len,o B.gO (by nofun),o B.gW (by nofun),o B.gB (by nofun),o B.gM (by nofun),o B.ga0 (by nofun),o B.ga1 (by nofun),g,h,v.old _ _ (by simp at nd⊢;omega) B.g1,v.old _ _ (by simp at nd⊢;omega) B.h1,o B.gh (by nofun),fun x hx=>(B.ok x hx).mv v (by simp[Ad.A]),B.s0.ad hk,B.s1⟩
theorem Bx.step1 (C:Cn d L)(B:Bx d os ws L T K0 K1 rows)(v:Mv [d.m1,d.n1] T U)(g:U.get d.m1=some (.d3 (kv3 (ad3 K1 k))))(h:U.get d.n1=some (.d3 (kv3 (ad3 K1 k))))(hk:k∈Uk os ws):Bx d os ws L U K0 (ad3 K1 k) rows:=by
 have nd:=C.nd
 have o:∀{x o},T.get x=some o->(∀kvs,o≠.d3 kvs)->U.get x=some o:=fun {x o} hx ho=>v.old _ _ (by
  have:=zcL hx B.g1 (ho _)
  have:=zcL hx B.h1 (ho _)
  simp;omega) hx
 refine⟨v.frz.trans B.fz,v.lk.trans B.lk,fun x hx=>Nat.lt_of_lt_of_le (B.hL x hx) v.len,o B.gO (by nofun),o B.gW (by nofun),o B.gB (by nofun),o B.gM (by nofun),o B.ga0 (by nofun),o B.ga1 (by nofun),v.old _ _ (by simp at nd⊢;omega) B.g0,v.old _ _ (by simp at nd⊢;omega) B.h0,g,h,o B.gh (by nofun),fun x hx=>(B.ok x hx).mv v (by simp[Ad.A]),B.s0,B.s1.ad hk⟩
theorem Bx.row (C:Cn d L)(B:Bx d os ws L T K0 K1 rows){ks:List K3}{x y:Nat}(v:Mv [d.lh] T U)(hx:T.len<=x)(hy:T.len<=y)(gx:U.get x=some (.lst (ks.map zah)))(gy:U.get y=some (.lst (ks.map zah)))(g:U.get d.lh=some (.lst ((rows++[(x,y)]).map zgm))):Bx d os ws L U K0 K1 (rows++[(x,y)]):=by
 have lh:=C.lh
 have nA:∀{z:Nat},T.len<=z->z∉d.A:=fun {z} hz=>by
  have l0:=zaZ B.g0;have l1:=zaZ B.g1;have l2:=zaZ B.h0;have l3:=zaZ B.h1;have l4:=zaZ B.gh
  unfold Ad.A;simp;omega
 have o:∀{x o},T.get x=some o->(∀ds,o≠.lst ds)->U.get x=some o:=fun {x o} hx ho=>v.old _ _ (by
  have:=zcL hx B.gh (ho _)
  simp;omega) hx
 refine⟨v.frz.trans B.fz,v.lk.trans B.lk,fun x hx=>Nat.lt_of_lt_of_le (B.hL x hx) v.len,v.old _ _ (by simp at lh⊢;omega) B.gO,v.old _ _ (by simp at lh⊢;omega) B.gW,v.old _ _ (by simp at lh⊢;omega) B.gB,v.old _ _ (by simp at lh⊢;omega) B.gM,o B.ga0 (by nofun),o B.ga1 (by nofun),o B.g0 (by nofun),o B.h0 (by nofun),o B.g1 (by nofun),o B.h1 (by nofun),g,fun z hz=>?_,B.s0,B.s1⟩
 rcases List.mem_append.mp hz with q|q
 · exact (B.ok z q).mv v (by simp[Ad.A])
 · simp only[List.mem_singleton] at q
   subst q
   exact⟨ks,gx,gy,nA hx,nA hy⟩
end
@[irreducible] noncomputable def E (ns:List Int)(d:Ad)(v6 v7 v8 v9 v10 v11 v12 v13 v14:Option D):Ev:=[some (.fix (ns.map .int)),some (.ref d.lo),some (.ref d.lw),some (.ref d.lb),some (.ref d.lm),some (.ref d.lh),v6,v7,v8,v9,v10,v11,v12,v13,v14]
noncomputable def IV (d:Ad)(os:List (List Int))(ws:List Int)(L:List Nat)(r:Nat)(T:R.St):Prop:=∃K0 K1 rows,Bx d os ws L T K0 K1 rows/\rows.length<=r
theorem zm0 {os:List (List Int)}{ws:List Int}{o:List Int}{p:Nat}{w:Int}(ho:o∈os)(hp:p<7)(hw:w∈ws):(o.getD p 0,o.take p,w)∈Uk os ws:=by
 unfold Uk
 exact List.mem_flatMap.mpr ⟨o,ho,List.mem_flatMap.mpr ⟨p,List.mem_range.mpr hp,List.mem_map.mpr ⟨w,hw,rfl⟩⟩⟩
noncomputable def wh (b:Bool):D:=.int (if b then 1 else 0)
section
variable {ns:List Int} {d:Ad} {os:List (List Int)} {ws:List Int} {L:List Nat} {T:R.St} {r:Nat} {o:List Int} {w:Int} {p:Nat} {b:Bool} {v6 v7 v8 v9 v10 v11 v12 v13 v14:Option D}
noncomputable def c_p:CS:=(.ifS (.cmp .IsNot (.meth "stamp" [(0,13)] (.ix (.loc 3) (.loc 8)) (.cons (.ix (.loc 9) (.loc 12)) (.cons (.sl (.loc 9) false true (.con .non) (.loc 12)) (.cons (.loc 11) .nil)))) (.con D.non)) (.ret (.con (D.bl false)) .nil) .nil (.setIx (.ix (.loc 4) (.loc 8)) (.tup (.cons (.ix (.loc 9) (.loc 12)) (.cons (.sl (.loc 9) false true (.con .non) (.loc 12)) (.cons (.loc 11) .nil)))) (.con (D.bl true)) .nil))
theorem zmL (C:Cn d L)(hU:(Uk os ws).length<64)(ho:o∈os)(h7:o.length=7)(hw:w∈ws)(hp:p<7)(h:IV d os ws L r T) :
  W (exS (callF prog 6) c_p (E ns d v6 v7 (some (wh b)) (some (pD o)) v10 (some (.int w)) (some (.int p)) v13 v14) T) fun f U=>match f with|.nx δ=>δ=E ns d v6 v7 (some (wh b)) (some (pD o)) v10 (some (.int w)) (some (.int p)) v13 v14/\IV d os ws L r U|.rt _=>False:=by
 obtain⟨K0,K1,rows,B,hr⟩:=h
 have l0:=B.s0.len
 have l1:=B.s1.len
 have nd:=C.nd
 have hk:=zm0 (os:=os) ho hp hw
 refine wS_W _ ?_
 cases b with
 | false =>
   unfold E
   conv=>whnf
   refine zac (B.gB) ?_
   conv=>whnf
   refine zac (zds) ?_
   conv=>whnf
   refine zac (zaT B.ga0) ?_
   conv=>whnf
   refine zac (rfl) ?_
   conv=>whnf
   refine zab rfl ?_
   conv=>whnf
   refine zac (at_o h7 hp) ?_
   conv=>whnf
   rw[za7,za4]
   refine zfD ((zhx (n:=5) B.ga0 B.g0 (B.fr (C.lk _ (by simp[Ad.A]))) (by omega)).mono ?_)
   rintro dd U ⟨rfl,v,g⟩
   conv=>whnf
   have nM:∀{x o},T.get x=some o->(∀kvs,o≠.d3 kvs)->U.get x=some o:=fun {x o} hx ho=>v.old _ _ (by
    have:=zcL hx B.g0 (ho _)
    simp;omega) hx
   have gM:=nM B.gM (by nofun)
   have hn:U.get d.n0=_:=v.old _ _ (by simp at nd⊢;omega) B.h0
   refine zac (gM) ?_
   conv=>whnf
   refine zac (zds) ?_
   conv=>whnf
   refine zac (at_o h7 hp) ?_
   conv=>whnf
   rw[za7,za4]
   refine zab (by first|decide|omega|(simp;done)|(simp;omega)) ?_
   conv=>whnf
   obtain⟨V,u1,u2,u3⟩:=zlm (h:=o.getD p 0) (p:=o.take p) (w:=w) hn ((B.fr (C.lk d.n0 (by simp[Ad.A]))).mv v) (by omega)
   refine zac (u1) ?_
   conv=>whnf
   exact⟨rfl,_,K1,rows,B.step0 C ((v.up (by simp)).trans (u2.up (by simp))) (u2.old _ _ (by simp at nd⊢;omega) g) u3 hk,hr⟩
 | true =>
   unfold E
   conv=>whnf
   refine zac (B.gB) ?_
   conv=>whnf
   refine zac (zed) ?_
   conv=>whnf
   refine zac (zaT B.ga1) ?_
   conv=>whnf
   refine zac (rfl) ?_
   conv=>whnf
   refine zab rfl ?_
   conv=>whnf
   refine zac (at_o h7 hp) ?_
   conv=>whnf
   rw[za7,za4]
   refine zfD ((zhx (n:=5) B.ga1 B.g1 (B.fr (C.lk _ (by simp[Ad.A]))) (by omega)).mono ?_)
   rintro dd U ⟨rfl,v,g⟩
   conv=>whnf
   have nM:∀{x o},T.get x=some o->(∀kvs,o≠.d3 kvs)->U.get x=some o:=fun {x o} hx ho=>v.old _ _ (by
    have:=zcL hx B.g1 (ho _)
    simp;omega) hx
   have gM:=nM B.gM (by nofun)
   have hn:U.get d.n1=_:=v.old _ _ (by simp at nd⊢;omega) B.h1
   refine zac (gM) ?_
   conv=>whnf
   refine zac (zed) ?_
   conv=>whnf
   refine zac (at_o h7 hp) ?_
   conv=>whnf
   rw[za7,za4]
   refine zab (by first|decide|omega|(simp;done)|(simp;omega)) ?_
   conv=>whnf
   obtain⟨V,u1,u2,u3⟩:=zlm (h:=o.getD p 0) (p:=o.take p) (w:=w) hn ((B.fr (C.lk d.n1 (by simp[Ad.A]))).mv v) (by omega)
   refine zac (u1) ?_
   conv=>whnf
   exact⟨rfl,K0,_,rows,B.step1 C ((v.up (by simp)).trans (u2.up (by simp))) (u2.old _ _ (by simp at nd⊢;omega) g) u3 hk,hr⟩
noncomputable def c_k:CS:=(.ifS (.nt (.tst (.call 7 0 (.cons (.ix (.loc 3) (.loc 13)) (.cons (.ix (.loc 4) (.loc 13)) (.cons (.loc 9) (.cons (.loc 10) (.cons (.loc 11) (.cons (.cmp .Eq (.bin .Mod (.bin .FloorDiv (.loc 7) (.con (D.int 4032))) (.con (D.int 2))) (.con (D.int 0))) .nil))))))))) (.ret (.con (D.bl false)) .nil) .nil .nil)
theorem zna {c:Int}{size:Nat}(h7:o.length=7)(hs:size<=7)(h:IV d os ws L r T) :
  W (exS (callF prog 6) c_k (E ns d v6 (some (.int c)) v8 (some (pD o)) (some (.int size)) (some (.int w)) v12 (some (wh b)) v14) T) fun f U=>match f with|.nx δ=>δ=E ns d v6 (some (.int c)) v8 (some (pD o)) (some (.int size)) (some (.int w)) v12 (some (wh b)) v14/\IV d os ws L r U|.rt _=>False:=by
 obtain⟨K0,K1,rows,B,hr⟩:=h
 refine wS_W _ ?_
 cases b with
 | false =>
   unfold E
   conv=>whnf
   refine zac (B.gB) ?_
   conv=>whnf
   refine zac (zds) ?_
   conv=>whnf
   refine zac (B.gM) ?_
   conv=>whnf
   refine zac (zds) ?_
   conv=>whnf
   refine zab (by first|decide|omega|(simp;done)|(simp;omega)) ?_
   conv=>whnf
   refine zab (by first|decide|omega|(simp;done)|(simp;omega)) ?_
   conv=>whnf
   refine zar (zhb (n:=2) B.ga0 B.g0 B.h0 h7 hs) ?_
   conv=>whnf
   exact⟨rfl,K0,K1,rows,B,hr⟩
 | true =>
   unfold E
   conv=>whnf
   refine zac (B.gB) ?_
   conv=>whnf
   refine zac (zed) ?_
   conv=>whnf
   refine zac (B.gM) ?_
   conv=>whnf
   refine zac (zed) ?_
   conv=>whnf
   refine zab (by first|decide|omega|(simp;done)|(simp;omega)) ?_
   conv=>whnf
   refine zab (by first|decide|omega|(simp;done)|(simp;omega)) ?_
   conv=>whnf
   refine zar (zhb (n:=2) B.ga1 B.g1 B.h1 h7 hs) ?_
   conv=>whnf
   exact⟨rfl,K0,K1,rows,B,hr⟩
end
theorem zeN {cf:CF}{c:CE}{u r:CS}{δ:Ev}{S:R.St}{Q:Fl->R.St->Prop}(e:evT cf c δ S=.ok false S)(w:W (exS cf r δ S) Q):W (exS cf (.ifS c u .nil r) δ S) Q:=zcw (W.of e ⟨rfl,w⟩)
section
variable {ns:List Int} {d:Ad} {os:List (List Int)} {ws:List Int} {L:List Nat} {T:R.St} {r:Nat} {o:List Int} {w:Int} {b:Bool} {v6 v7 v8 v9 v10 v11 v12 v13 v14:Option D} {c:Int} {size:Nat}
noncomputable def e_l:CE:=(.and (.cmp .Eq (.bin .Mod (.bin .FloorDiv (.loc 7) (.con (D.int 8064))) (.con (D.int 5))) (.con (D.int 0))) (.nt (.tst (.callW 8 0 (.cons (.ix (.loc 3) (.loc 8)) (.cons (.ix (.loc 4) (.loc 8)) (.cons (.loc 5) .nil)))))))
noncomputable def c_l:CS:=(.ifS e_l (.ret (.con (D.bl false)) .nil) .nil .nil)
noncomputable def TP (ns:List Int)(d:Ad)(os:List (List Int))(ws:List Int)(L:List Nat)(r:Nat)(f:Fl)(U:R.St):Prop:=match f with|.nx δ=>(∃v6 v7 v8 v9 v10 v11 v12 v13 v14,δ=E ns d v6 v7 v8 v9 v10 v11 v12 v13 v14)/\IV d os ws L r U|.rt _=>False
theorem t_l (C:Cn d L)(hU:(Uk os ws).length<64)(hr:r<=900)(h:IV d os ws L r T):W (exS (callF prog 6) c_l (E ns d v6 (some (.int c)) (some (wh b)) v9 v10 v11 v12 v13 v14) T) (TP ns d os ws L (r+1)):=by
 obtain⟨K0,K1,rows,B,hrr⟩:=h
 have l0:=B.s0.len
 have l1:=B.s1.len
 have key:W (evT (callF prog 6) e_l (E ns d v6 (some (.int c)) (some (wh b)) v9 v10 v11 v12 v13 v14) T) fun k U=>k=false/\IV d os ws L (r+1) U:=by
  refine wT_W _ ?_
  cases b with
  | false =>
    unfold E
    conv=>whnf
    refine zab (by first|decide|omega|(simp;done)|(simp;omega)) ?_
    conv=>whnf
    refine zab (by first|decide|omega|(simp;done)|(simp;omega)) ?_
    conv=>whnf
    refine zgT (fun c1=>?_) (fun c1=>?_)
    · conv=>whnf
      refine zac (B.gB) ?_
      conv=>whnf
      refine zac (zds) ?_
      conv=>whnf
      refine zac (B.gM) ?_
      conv=>whnf
      refine zac (zds) ?_
      conv=>whnf
      refine zfD ((zfJ (n:=4) B.ga0 B.g0 B.h0 B.gh B.s0.nd (by omega) (by omega) (B.fr (C.lk _ (by simp[Ad.A]))) (fun x hx=>B.new hx)).mono ?_)
      rintro dd U ⟨rfl,v,x,y,hx,hy,gx,gy,g⟩
      conv=>whnf
      exact⟨rfl,K0,K1,_,B.row C v hx hy gx gy g,by simp;omega⟩
    · exact⟨rfl,K0,K1,rows,B,by omega⟩
  | true =>
    unfold E
    conv=>whnf
    refine zab (by first|decide|omega|(simp;done)|(simp;omega)) ?_
    conv=>whnf
    refine zab (by first|decide|omega|(simp;done)|(simp;omega)) ?_
    conv=>whnf
    refine zgT (fun c1=>?_) (fun c1=>?_)
    · conv=>whnf
      refine zac (B.gB) ?_
      conv=>whnf
      refine zac (zed) ?_
      conv=>whnf
      refine zac (B.gM) ?_
      conv=>whnf
      refine zac (zed) ?_
      conv=>whnf
      refine zfD ((zfJ (n:=4) B.ga1 B.g1 B.h1 B.gh B.s1.nd (by omega) (by omega) (B.fr (C.lk _ (by simp[Ad.A]))) (fun x hx=>B.new hx)).mono ?_)
      rintro dd U ⟨rfl,v,x,y,hx,hy,gx,gy,g⟩
      conv=>whnf
      exact⟨rfl,K0,K1,_,B.row C v hx hy gx gy g,by simp;omega⟩
    · exact⟨rfl,K0,K1,rows,B,by omega⟩
 refine zcw (key.mono ?_)
 rintro k U ⟨rfl,h⟩
 exact⟨rfl,zfW ⟨⟨_,_,_,_,_,_,_,_,_,rfl⟩,h⟩⟩
noncomputable def c_kk:CS:=(.forS [13] (.rng1 (.con (D.int 2))) c_k c_l)
theorem t_k (C:Cn d L)(hU:(Uk os ws).length<64)(hr:r<=900)(h7:o.length=7)(hs:size<=7)(h:IV d os ws L r T):W (exS (callF prog 6) c_kk (E ns d v6 (some (.int c)) (some (wh b)) (some (pD o)) (some (.int size)) (some (.int w)) v12 v13 v14) T) (TP ns d os ws L (r+1)):=by
 refine zd4 (xs:=(List.range (2:Int).toNat).map fun (k:Nat)=>D.int k) (ls:=[]) (S1:=T) (W.eq (wL_W _ ?_)) ?_
 · unfold E
   conv=>whnf
   refine zab (by first|decide|omega|(simp;done)|(simp;omega)) ?_
   conv=>whnf
   exact⟨rfl,rfl⟩
 refine W.mono (zbn (fun _ δ U=>∃v13,δ=E ns d v6 (some (.int c)) (some (wh b)) (some (pD o)) (some (.int size)) (some (.int w)) v12 v13 v14/\IV d os ws L r U) (fun _ _=>False) _ 0 _ _ ⟨v13,rfl,h⟩ ?_) ?_
 · rintro j z δ U hz ⟨u13,rfl,hI⟩
   have hj:j<2:=by have:=(List.getElem?_eq_some_iff.mp hz).1;simpa using this
   have hz':z=.int (j:Int):=by
    have:=(List.getElem?_eq_some_iff.mp hz).2
    rw[<-this];simp
   obtain⟨b',hb⟩:∃b':Bool,z=wh b':=by
    subst hz'
    have:j=0\/j=1:=by omega
    rcases this with rfl|rfl
    · exact⟨false,rfl⟩
    · exact⟨true,rfl⟩
   subst hb
   refine⟨E ns d v6 (some (.int c)) (some (wh b)) (some (pD o)) (some (.int size)) (some (.int w)) v12 (some (wh b')) v14,by unfold E;rfl,?_⟩
   refine (zna h7 hs hI).mono fun f V hV=>?_
   cases f with
   |rt _=>exact hV.elim
   |nx δ'=>exact⟨_,hV.1,hV.2⟩
 · rintro f U hU'
   cases f with
   |rt _=>exact hU'.elim
   | nx δ =>
     obtain⟨u13,rfl,hI⟩:=hU'
     have hk:U.lk=T.lk:=by
      obtain⟨_,_,_,B,_⟩:=hI
      obtain⟨_,_,_,B',_⟩:=h
      rw[B.lk,B'.lk]
     dsimp only
     rw[zhA hk]
     exact t_l C hU hr hI
noncomputable def c_pp:CS:=(.ifS (.cmp .Gt (.loc 10) (.con (D.int 0))) (.forS [12] (.callL 3 0 (.cons (.bin .Mod (.bin .FloorDiv (.loc 7) (.con (D.int 144))) (.con (D.int 4))) (.cons (.loc 10) (.cons (.bin .Mod (.bin .FloorDiv (.loc 7) (.con (D.int 576))) (.con (D.int 7))) .nil))))
 c_p .nil) .nil c_kk)
theorem t_p (C:Cn d L)(hU:(Uk os ws).length<64)(hr:r<=900)(ho:o∈os)(h7:o.length=7)(hw:w∈ws)(hs:size<=7)(h:IV d os ws L r T):W (exS (callF prog 6) c_pp (E ns d v6 (some (.int c)) (some (wh b)) (some (pD o)) (some (.int size)) (some (.int w)) v12 v13 v14) T) (TP ns d os ws L (r+1)):=by
 by_cases hz:0<size
 · refine zjS (W.eq (wT_W _ ?_)) ?_
   · unfold E
     conv=>whnf
     exact⟨by simp;omega,rfl⟩
   obtain⟨ps,hps,hlt⟩:=ziJ (n:=5) (S:=T) (kind:=c / 144 % 4) (gap:=c / 576 % 7) (size:=size) (by omega) hs
   refine zd4 (xs:=ps.map fun (p:Nat)=>D.int p) (ls:=[]) (S1:=T) (W.eq (wL_W _ ?_)) ?_
   · unfold E
     conv=>whnf
     refine zab (by first|decide|omega|(simp;done)|(simp;omega)) ?_
     conv=>whnf
     refine zab (by first|decide|omega|(simp;done)|(simp;omega)) ?_
     conv=>whnf
     refine zab (by first|decide|omega|(simp;done)|(simp;omega)) ?_
     conv=>whnf
     refine zab (by first|decide|omega|(simp;done)|(simp;omega)) ?_
     conv=>whnf
     refine zar (hps) ?_
     conv=>whnf
     exact⟨rfl,rfl⟩
   refine W.mono (zbn (fun _ δ U=>∃v12,δ=E ns d v6 (some (.int c)) (some (wh b)) (some (pD o)) (some (.int size)) (some (.int w)) v12 v13 v14/\IV d os ws L r U) (fun _ _=>False) _ 0 _ _ ⟨v12,rfl,h⟩ ?_) ?_
   · rintro j z δ U hz ⟨u12,rfl,hI⟩
     rw[List.getElem?_map] at hz
     cases ej:ps[j]? with
     |none=>rw[ej] at hz;cases hz
     | some p =>
       rw[ej] at hz;cases hz
       have hp:=hlt p (List.mem_of_getElem? ej)
       refine⟨E ns d v6 (some (.int c)) (some (wh b)) (some (pD o)) (some (.int size)) (some (.int w)) (some (.int p)) v13 v14,by unfold E;rfl,?_⟩
       refine (zmL C hU ho h7 hw (by omega) hI).mono fun f V hV=>?_
       cases f with
       |rt _=>exact hV.elim
       |nx δ'=>exact⟨_,hV.1,hV.2⟩
   · rintro f U hU'
     cases f with
     |rt _=>exact hU'.elim
     | nx δ =>
       obtain⟨u12,rfl,hI⟩:=hU'
       have hk:U.lk=T.lk:=by
        obtain⟨_,_,_,B,_⟩:=hI
        obtain⟨_,_,_,B',_⟩:=h
        rw[B.lk,B'.lk]
       dsimp only
       rw[zhA hk]
       exact zfW (t_k C hU hr h7 hs hI)
 · refine zeN (W.eq (wT_W _ ?_)) (t_k C hU hr h7 hs h)
   unfold E
   conv=>whnf
   exact⟨by simp;omega,rfl⟩
noncomputable def c_t:CS:=(.asg 7 (.bin .Mod (.loc 6) (.bin .Pow (.con (D.int 10)) (.con (D.int 64)))) (.asg 8 (.bin .Mod (.loc 7) (.con (D.int 2))) (.asg 9 (.ix (.loc 1) (.bin .Mod (.bin .FloorDiv (.loc 7) (.con (D.int 2))) (.con (D.int 3)))) (.asg 10 (.bin .Mod (.bin .FloorDiv (.loc 7) (.con (D.int 6))) (.con (D.int 8))) (.asg 11 (.ix (.loc 2) (.bin .Mod (.bin .FloorDiv (.loc 7) (.con (D.int 48))) (.con (D.int 3)))) c_pp)))))
theorem t_t {x:Int}(C:Cn d L)(hU:(Uk os ws).length<64)(hr:r<=900)(h3:os.length=3)(w3:ws.length=3)(h7:∀o∈os,o.length=7)(h:IV d os ws L r T):W (exS (callF prog 6) c_t (E ns d (some (.int x)) v7 v8 v9 v10 v11 v12 v13 v14) T) (TP ns d os ws L (r+1)):=by
 have h':=h
 obtain⟨K0,K1,rows,B,hrr⟩:=h
 generalize hc:x % 10 ^ 64=c
 refine za5 (d:=.int c) (S':=T) (W.eq (wE_W _ ?_)) ?_
 · unfold E
   conv=>whnf
   refine zab (by first|decide|omega|(simp;done)|(simp;omega)) ?_
   conv=>whnf
   refine zab (by first|decide|omega|(simp;done)|(simp;omega)) ?_
   conv=>whnf
   exact⟨by rw[<-hc];rfl,rfl⟩
 rw[show (E ns d (some (.int x)) v7 v8 v9 v10 v11 v12 v13 v14).set 7 (some (.int c))=E ns d (some (.int x)) (some (.int c)) v8 v9 v10 v11 v12 v13 v14 by unfold E;rfl]
 obtain⟨b,hb⟩:∃b:Bool,D.int (c % 2)=wh b:=by
  rcases Int.emod_two_eq c with e|e
  · exact⟨false,by rw[e];rfl⟩
  · exact⟨true,by rw[e];rfl⟩
 refine za5 (d:=wh b) (S':=T) (W.eq (wE_W _ ?_)) ?_
 · unfold E
   conv=>whnf
   refine zab (by first|decide|omega|(simp;done)|(simp;omega)) ?_
   conv=>whnf
   exact⟨hb,rfl⟩
 rw[show (E ns d (some (.int x)) (some (.int c)) v8 v9 v10 v11 v12 v13 v14).set 8 (some (wh b))=E ns d (some (.int x)) (some (.int c)) (some (wh b)) v9 v10 v11 v12 v13 v14 by unfold E;rfl]
 have q0:=Int.emod_nonneg (c / 2) (by decide:(3:Int)≠0)
 have q1:=Int.emod_lt_of_pos (c / 2) (by decide:(0:Int)<3)
 obtain⟨i,hi⟩:∃i:Nat,c / 2 % 3=i:=⟨_,(Int.toNat_of_nonneg q0).symm⟩
 have hi3:i<os.length:=by omega
 refine za5 (d:=pD os[i]) (S':=T) (W.eq (wE_W _ ?_)) ?_
 · unfold E
   conv=>whnf
   refine zab (by first|decide|omega|(simp;done)|(simp;omega)) ?_
   conv=>whnf
   refine zab (by first|decide|omega|(simp;done)|(simp;omega)) ?_
   conv=>whnf
   refine zac (B.gO) ?_
   conv=>whnf
   rw[hi]
   refine zac ((zdd (show (os.map pD)[i]?=some (pD os[i]) by simp[hi3]))) ?_
   conv=>whnf
   exact⟨rfl,rfl⟩
 rw[show (E ns d (some (.int x)) (some (.int c)) (some (wh b)) v9 v10 v11 v12 v13 v14).set 9 (some (pD os[i]))=E ns d (some (.int x)) (some (.int c)) (some (wh b)) (some (pD os[i])) v10 v11 v12 v13 v14 by unfold E;rfl]
 have z0:=Int.emod_nonneg (c / 6) (by decide:(8:Int)≠0)
 have z1:=Int.emod_lt_of_pos (c / 6) (by decide:(0:Int)<8)
 obtain⟨size,hs⟩:∃s:Nat,c / 6 % 8=s:=⟨_,(Int.toNat_of_nonneg z0).symm⟩
 refine za5 (d:=.int size) (S':=T) (W.eq (wE_W _ ?_)) ?_
 · unfold E
   conv=>whnf
   refine zab (by first|decide|omega|(simp;done)|(simp;omega)) ?_
   conv=>whnf
   refine zab (by first|decide|omega|(simp;done)|(simp;omega)) ?_
   conv=>whnf
   exact⟨by rw[hs],rfl⟩
 rw[show (E ns d (some (.int x)) (some (.int c)) (some (wh b)) (some (pD os[i])) v10 v11 v12 v13 v14).set 10 (some (.int size))=E ns d (some (.int x)) (some (.int c)) (some (wh b)) (some (pD os[i])) (some (.int size)) v11 v12 v13 v14 by unfold E;rfl]
 have y0:=Int.emod_nonneg (c / 48) (by decide:(3:Int)≠0)
 have y1:=Int.emod_lt_of_pos (c / 48) (by decide:(0:Int)<3)
 obtain⟨j,hj⟩:∃j:Nat,c / 48 % 3=j:=⟨_,(Int.toNat_of_nonneg y0).symm⟩
 have hj3:j<ws.length:=by omega
 refine za5 (d:=.int ws[j]) (S':=T) (W.eq (wE_W _ ?_)) ?_
 · unfold E
   conv=>whnf
   refine zab (by first|decide|omega|(simp;done)|(simp;omega)) ?_
   conv=>whnf
   refine zab (by first|decide|omega|(simp;done)|(simp;omega)) ?_
   conv=>whnf
   refine zac (B.gW) ?_
   conv=>whnf
   rw[hj]
   refine zac ((zdd (show (ws.map D.int)[j]?=some (.int ws[j]) by simp[hj3]))) ?_
   conv=>whnf
   exact⟨rfl,rfl⟩
 rw[show (E ns d (some (.int x)) (some (.int c)) (some (wh b)) (some (pD os[i])) (some (.int size)) v11 v12 v13 v14).set 11 (some (.int ws[j]))=E ns d (some (.int x)) (some (.int c)) (some (wh b)) (some (pD os[i])) (some (.int size)) (some (.int ws[j])) v12 v13 v14 by unfold E;rfl]
 exact t_p C hU hr (List.getElem_mem hi3) (h7 _ (List.getElem_mem hi3)) (List.getElem_mem hj3) (by omega) h'
end
theorem two_pd {S:R.St}{x y:Nat}{ds es:List D}{A B:List PySem.PyData}(h1:S.get x=some (.lst ds))(h2:S.get y=some (.lst es))(e1:ds.mapM (pd S 58)=some A)(e2:es.mapM (pd S 58)=some B):[D.ref x,D.ref y].mapM (pd S 59)=some [.list A,.list B]:=by
 rw[List.mapM_cons,List.mapM_cons,List.mapM_nil,zbC h1 e1,zbC h2 e2]
 rfl
theorem zei {cf:CF}{e:CE}{rest:Ev}{S:R.St}{α:Type}(f:α->D)(P:α->Prop):∀(xs:List Int) (o:Option D),(∀y∈xs,∃x,evE cf e (some (.int y)::rest) S=.ok (f x) S/\P x)->
  ∃ys:List α,za6 [0] (evT cf (.tst (.con (.bl true)))) (evE cf e) (xs.map D.int) (o::rest) S=.ok (ys.map f) S/\ys.length=xs.length/\∀x∈ys,P x
 | [],o,_=>⟨[],rfl,rfl,fun x h=>by cases h⟩
 | y :: xs, o, h => by
   obtain⟨x,e1,pd⟩:=h y List.mem_cons_self
   obtain⟨ys,e2,l2,p2⟩:=zei (cf:=cf) (e:=e) (rest:=rest) (S:=S) f P xs (some (.int y)) fun z hz=>h z (List.mem_cons_of_mem _ hz)
   refine⟨x::ys,?_,by simp[l2],fun z hz=>?_⟩
   · simp only[List.map_cons,za6,asgG,zde,List.set_cons_zero]
     show Out.bind (.ok true S) _=_
     rw[zaM,if_pos rfl,e1,zaM,e2,zaM]
   · rcases List.mem_cons.mp hz with e|e
     · rw[e];exact pd
     · exact p2 z e
theorem znm {S:R.St}{l l' x y x' y':Nat}{ds es:List D}{A B:List PySem.PyData}(hl:S.get l=some (.lst [.ref x,.ref y]))(hl':S.get l'=some (.lst [.ref x',.ref y']))(h1:S.get x=some (.lst ds))(h1':S.get x'=some (.lst ds))(h2:S.get y=some (.lst es))(h2':S.get y'=some (.lst es))(e1:ds.mapM (pd S 58)=some A)(e2:es.mapM (pd S 58)=some B):cmpO S .Eq (.ref l) (.ref l')=some true:=
 (zc8 hl).trans (zh1 (zbC hl (two_pd h1 h2 e1 e2)) (zbC hl' (two_pd h1' h2' e1 e2)))
noncomputable def TQ (r:Fl)(_:R.St):Prop:=match r with|.nx _=>False|.rt d=>d=.bl true
section
variable {ns:List Int} {d:Ad} {os:List (List Int)} {ws:List Int} {L:List Nat} {T:R.St} {r:Nat} {v6 v7 v8 v9 v10 v11 v12 v13 v14:Option D} {K0 K1:List K3} {rows:List (Nat × Nat)}
noncomputable def e_14:CE:=(.lst (.cons (.meth "stamps" [(0,14)] (.ix (.loc 3) (.con (D.int 0))) .nil) (.cons (.meth "stamps" [(0,14)] (.ix (.loc 3) (.con (D.int 1))) .nil) .nil)))
noncomputable def e_h:CE:=(.nt (.tst (.all (.comp 2 [] [0,1] (.val (.loc 5)) (.tst (.con (D.bl true))) (.cmp .Eq (.loc 0) (.loc 1))))))
noncomputable def e_r:CE:=(.cmp .Eq (.loc 14) (.lst (.cons (.srt3 (.d3keys (.ix (.loc 4) (.con (D.int 0))))) (.cons (.srt3 (.d3keys (.ix (.loc 4) (.con (D.int 1))))) .nil))))
noncomputable def c_e:CS:=(.asg 14 e_14 (.ifS e_h (.ret (.con (D.bl false)) .nil) .nil (.ret e_r .nil)))
theorem v_14 (hU:(Uk os ws).length<64)(B:Bx d os ws L T K0 K1 rows):W (evE (callF prog 6) e_14 (E ns d v6 v7 v8 v9 v10 v11 v12 v13 v14) T) fun e U=>Mv [] T U/\∃l x y,e=.ref l/\U.get l=some (.lst [.ref x,.ref y])/\U.get x=some (.lst ((zal K0).map zah))/\U.get y=some (.lst ((zal K1).map zah)):=by
 have l0:=B.s0.len
 have l1:=B.s1.len
 refine wE_W _ ?_
 unfold E
 conv=>whnf
 refine zac (B.gB) ?_
 conv=>whnf
 refine zac (zds) ?_
 conv=>whnf
 refine zac (zaT B.ga0) ?_
 conv=>whnf
 refine zac (rfl) ?_
 conv=>whnf
 refine zab rfl ?_
 conv=>whnf
 refine zar (zcd (n:=5) B.ga0 B.g0 (by omega)) ?_
 conv=>whnf
 have v1:=Mv.push [] T (.lst ((zal K0).map zah))
 have B1:=B.mv v1
 have n1:=zaH T (.lst ((zal K0).map zah))
 generalize T.push (.lst ((zal K0).map zah))=T1 at *
 refine zac (B1.gB) ?_
 conv=>whnf
 refine zac (zed) ?_
 conv=>whnf
 refine zac (zaT B1.ga1) ?_
 conv=>whnf
 refine zac (rfl) ?_
 conv=>whnf
 refine zab rfl ?_
 conv=>whnf
 refine zar (zcd (n:=5) B1.ga1 B1.g1 (by omega)) ?_
 conv=>whnf
 have v2:=v1.trans (Mv.push [] T1 (.lst ((zal K1).map zah)))
 have n12:=zag (o:=.lst ((zal K1).map zah)) n1
 have n2:=zaH T1 (.lst ((zal K1).map zah))
 generalize T1.push (.lst ((zal K1).map zah))=T2 at *
 refine zab (by first|decide|omega|(simp;done)|(simp;omega)) ?_
 conv=>whnf
 exact⟨v2.trans (Mv.push _ _ _),_,_,_,rfl,zaN _ _,zag n12,zag n2⟩
theorem v_h (hr:rows.length<=1000)(B:Bx d os ws L T K0 K1 rows):evT (callF prog 6) e_h (E ns d v6 v7 v8 v9 v10 v11 v12 v13 v14) T=.ok false T:=by
 refine W.eq (wT_W _ ?_)
 unfold E
 conv=>whnf
 refine zac (B.gh) ?_
 conv=>whnf
 refine zbM ?_
 refine W.of (zci (fun (x:Nat × Nat)=>.ref x.1) (fun (x:Nat × Nat)=>.ref x.2) (fun _=>.bl true) rows none none (fun z hz=>?_)) ?_
 · obtain⟨ks,a1,a2,_⟩:=B.ok z hz
   have g1:({T with lk:=[d.lh]++T.lk}:R.St).get z.1=_:=a1
   have g2:({T with lk:=[d.lh]++T.lk}:R.St).get z.2=_:=a2
   refine W.eq (wE_W _ ?_)
   conv=>whnf
   refine zac (zfw g1 g2 (zcM (fun k=>zfR _ 57 k) ks)) ?_
   conv=>whnf
   exact⟨rfl,rfl⟩
 have ha:allD (rows.map fun _=>D.bl true)=some true:=by
  have:=zdg (rows.map fun _=>true)
  rw[List.map_map] at this
  refine this.trans ?_
  simp
 refine zab (by rw[List.length_map];omega) ?_
 conv=>whnf
 refine zac (ha) ?_
 conv=>whnf
 exact⟨rfl,rfl⟩
theorem v_r {l x y:Nat}(hU:(Uk os ws).length<64)(B:Bx d os ws L T K0 K1 rows)(gl:T.get l=some (.lst [.ref x,.ref y]))(gx:T.get x=some (.lst ((zal K0).map zah)))(gy:T.get y=some (.lst ((zal K1).map zah))):W (evE (callF prog 6) e_r (E ns d v6 v7 v8 v9 v10 v11 v12 v13 (some (.ref l))) T) fun e _=>e=.bl true:=by
 have l0:=B.s0.len
 have l1:=B.s1.len
 have ek:∀K:List K3,((kv3 K).map fun kv=>zah kv.1)=K.map zah:=fun K=>by unfold kv3;rw[List.map_map];rfl
 refine wE_W _ ?_
 unfold E
 conv=>whnf
 refine zac (B.gM) ?_
 conv=>whnf
 refine zac (zds) ?_
 conv=>whnf
 refine zac (zc9 B.h0) ?_
 conv=>whnf
 rw[ek]
 refine zab (by rw[List.length_map];omega) ?_
 conv=>whnf
 refine zac (zcP (zaH _ _)) ?_
 conv=>whnf
 refine zab ⟨by omega,B.s0.nd⟩ ?_
 conv=>whnf
 refine zab (by rw[List.length_map,zbf];omega) ?_
 conv=>whnf
 have v1:=(Mv.push [] T (.lst (K0.map zah))).trans (Mv.push [] _ (.lst ((zal K0).map zah)))
 have B1:=B.mv v1
 have n1:=zaH (T.push (.lst (K0.map zah))) (.lst ((zal K0).map zah))
 generalize T.push (.lst (K0.map zah))=T0 at *
 generalize T0.push (.lst ((zal K0).map zah))=T1 at *
 refine zac (B1.gM) ?_
 conv=>whnf
 refine zac (zed) ?_
 conv=>whnf
 refine zac (zc9 B1.h1) ?_
 conv=>whnf
 rw[ek]
 refine zab (by rw[List.length_map];omega) ?_
 conv=>whnf
 refine zac (zcP (zaH _ _)) ?_
 conv=>whnf
 refine zab ⟨by omega,B.s1.nd⟩ ?_
 conv=>whnf
 refine zab (by rw[List.length_map,zbf];omega) ?_
 conv=>whnf
 have v2:=v1.trans ((Mv.push [] T1 (.lst (K1.map zah))).trans (Mv.push [] _ (.lst ((zal K1).map zah))))
 have n12:=zag (o:=.lst ((zal K1).map zah)) (zag (o:=.lst (K1.map zah)) n1)
 have n2:=zaH (T1.push (.lst (K1.map zah))) (.lst ((zal K1).map zah))
 generalize T1.push (.lst (K1.map zah))=T2 at *
 generalize T2.push (.lst ((zal K1).map zah))=T3 at *
 refine zab (by first|decide|omega|(simp;done)|(simp;omega)) ?_
 conv=>whnf
 have o3:∀{z o},T.get z=some o->(T3.push (.lst [.ref T0.len,.ref T2.len])).get z=some o:=fun h=>zag (v2.old _ _ (by simp) h)
 refine zac (znm (o3 gl) (zaN _ _) (o3 gx) (zag n12) (o3 gy) (zag n2) (zcM (fun k=>zfR _ 56 k) _) (zcM (fun k=>zfR _ 56 k) _)) ?_
 conv=>whnf
theorem t_e (hU:(Uk os ws).length<64)(hr:r<=1000)(h:IV d os ws L r T):W (exS (callF prog 6) c_e (E ns d v6 v7 v8 v9 v10 v11 v12 v13 v14) T) TQ:=by
 obtain⟨K0,K1,rows,B,hrr⟩:=h
 refine zik ((v_14 hU B).mono ?_)
 rintro e U ⟨v,l,x,y,rfl,gl,gx,gy⟩
 rw[show (E ns d v6 v7 v8 v9 v10 v11 v12 v13 v14).set 14 (some (.ref l))=E ns d v6 v7 v8 v9 v10 v11 v12 v13 (some (.ref l)) by unfold E;rfl]
 refine zeN (v_h (by omega) (B.mv v)) ?_
 exact zcc ((v_r hU (B.mv v) gl gx gy).mono fun e V he=>he)
end
@[irreducible] noncomputable def E0 (ns:List Int)(v1 v2 v3 v4 v5:Option D):Ev:=[some (.fix (ns.map .int)),v1,v2,v3,v4,v5,none,none,none,none,none,none,none,none,none]
theorem E0_1 {ns:List Int}{v1 v2 v3 v4 v5:Option D}{d:D}:(E0 ns v1 v2 v3 v4 v5).set 1 (some d)=E0 ns (some d) v2 v3 v4 v5:=by unfold E0;rfl
theorem E0_2 {ns:List Int}{v1 v2 v3 v4 v5:Option D}{d:D}:(E0 ns v1 v2 v3 v4 v5).set 2 (some d)=E0 ns v1 (some d) v3 v4 v5:=by unfold E0;rfl
theorem E0_3 {ns:List Int}{v1 v2 v3 v4 v5:Option D}{d:D}:(E0 ns v1 v2 v3 v4 v5).set 3 (some d)=E0 ns v1 v2 (some d) v4 v5:=by unfold E0;rfl
theorem E0_4 {ns:List Int}{v1 v2 v3 v4 v5:Option D}{d:D}:(E0 ns v1 v2 v3 v4 v5).set 4 (some d)=E0 ns v1 v2 v3 (some d) v5:=by unfold E0;rfl
theorem E0_5 {ns:List Int}{v1 v2 v3 v4 v5:Option D}{d:D}:(E0 ns v1 v2 v3 v4 v5).set 5 (some d)=E0 ns v1 v2 v3 v4 (some d):=by unfold E0;rfl
noncomputable def dd:Ad:=⟨2,4,3,5,7,8,0,1,6,9,12⟩
theorem zkZ {n:Nat}{o0 o1:MO}:appW (callF prog (n+1)) 10 [.ref 2] ⟨[],[o0,o1,.ins 0 []],[]⟩=.ok .non ⟨[],[o0,o1,bD 3,.d3 []],[]⟩:=by
 refine zdf (F:=c_Book_init) rfl rfl ?_
 conv=>whnf
 refine zac ((show zbU ⟨[],[o0,o1,.ins 0 [],.d3 []],[]⟩ (.ref 2) "made" (.ref 3)=some ⟨[],[o0,o1,bD 3,.d3 []],[]⟩ from rfl)) ?_
 conv=>whnf
 exact⟨rfl,rfl⟩
theorem zkY {n:Nat}{o0 o1 o2 o3:MO}:appW (callF prog (n+1)) 10 [.ref 4] ⟨[],[o0,o1,o2,o3,.ins 0 []],[]⟩=.ok .non ⟨[],[o0,o1,o2,o3,bD 5,.d3 []],[]⟩:=by
 refine zdf (F:=c_Book_init) rfl rfl ?_
 conv=>whnf
 refine zac ((show zbU ⟨[],[o0,o1,o2,o3,.ins 0 [],.d3 []],[]⟩ (.ref 4) "made" (.ref 5)=some ⟨[],[o0,o1,o2,o3,bD 5,.d3 []],[]⟩ from rfl)) ?_
 conv=>whnf
 exact⟨rfl,rfl⟩
noncomputable def e_1:CE:=(.mkL (.comp 1 [0] [0] (.rng1 (.con (D.int 3))) (.tst (.con (D.bl true))) (.call 2 0 (.cons (.call 0 0 (.cons (.loc 1) (.cons (.loc 0) .nil))) .nil))))
noncomputable def e_2:CE:=(.lst (.cons (.call 1 0 (.cons (.call 0 0 (.cons (.loc 0) (.cons (.con (D.int 3)) .nil))) .nil)) (.cons (.call 1 0 (.cons (.call 0 0 (.cons (.loc 0) (.cons (.con (D.int 4)) .nil))) .nil)) (.cons (.con (D.int 0)) .nil))))
noncomputable def e_3:CE:=(.lst (.cons (.mk 0 10 "Book" 0 .nil) (.cons (.mk 0 10 "Book" 0 .nil) .nil)))
noncomputable def e_4:CE:=(.lst (.cons .dnew3 (.cons .dnew3 .nil)))
noncomputable def e_5:CE:=(.lst (.cons (.tup (.cons (.meth "stamps" [(0,14)] (.ix (.loc 3) (.con (D.int 0))) .nil) (.cons (.lst .nil) .nil))) .nil))
noncomputable def c_w:CS:=(.forS [6] (.val (.sl (.loc 0) true true (.con (D.int 5)) (.con (D.int 62)))) c_t c_e)
noncomputable def c_1:CS:=(.asg 1 e_1 (.asg 2 e_2 (.asg 3 e_3 (.asg 4 e_4 (.asg 5 e_5 c_w)))))
theorem zjh:c_law.body=c_1:=rfl
theorem v_1 {ns:List Int}:∃os:List (List Int),evE (callF prog 6) e_1 (E0 ns none none none none none) ⟨[],[],[]⟩=.ok (.ref 0) ⟨[],[.lst (os.map pD)],[]⟩/\os.length=3/\∀o∈os,o.length=7:=by
 obtain⟨ys,e,hl,hy⟩:=zei (cf:=callF prog 6) (e:=.call 2 0 (.cons (.call 0 0 (.cons (.loc 1) (.cons (.loc 0) .nil))) .nil)) (rest:=[some (.fix (ns.map .int))]) (S:=⟨[],[],[]⟩) pD (fun o:List Int=>o.length=7) (hnds 3) none (fun y hy=>by
  obtain⟨o,ho,h7⟩:=zks (n:=4) (S:=⟨[],[],[]⟩) (c:=cellZ ns y.toNat)
  refine⟨o,W.eq (wE_W _ ?_),h7⟩
  have:=hnds_mem.mp hy
  conv=>whnf
  refine zar (zkt (n:=5) (k:=y) (by omega)) ?_
  conv=>whnf
  refine zar (ho) ?_
  conv=>whnf
  exact⟨rfl,rfl⟩)
 have hl:ys.length=3:=by simpa[hnds] using hl
 refine⟨ys,W.eq (wE_W _ ?_),hl,hy⟩
 unfold E0
 conv=>whnf
 refine zab (by first|decide|omega|(simp;done)|(simp;omega)) ?_
 conv=>whnf
 refine zbM ?_
 refine W.of e ?_
 refine zab (by rw[List.length_map];omega) ?_
 conv=>whnf
 refine zab (by rw[List.length_map];omega) ?_
 conv=>whnf
 exact⟨rfl,rfl⟩
theorem law_true (ns:List Int)(h:ns.length<=63):W (callF prog 7 9 [.fix (ns.map .int)] ⟨[],[],[]⟩) fun d _=>d=.bl true:=by
 refine znu (F:=c_law) rfl rfl rfl ?_
 rw[zjh,show zaW c_law [.fix (ns.map .int)]=E0 ns none none none none none by unfold E0;rfl]
 have w0:∀{S:R.St} {δ:Ev} {r:CS},W (exS (callF prog 6) r δ S) TQ->W (exS (callF prog 6) r δ S) (fun r T=>match r with|.nx _=>D.non=.bl true|.rt d=>d=.bl true):=fun w=>w.mono fun r T q=>by cases r with|nx _=>exact q.elim|rt d=>exact q
 refine w0 ?_
 obtain⟨os,e1,h3,h7⟩:=v_1 (ns:=ns)
 refine za5 e1 ?_
 rw[E0_1]
 obtain⟨w1,hw1⟩:=zmi (n:=5) (S:=⟨[],[.lst (os.map pD)],[]⟩) (c:=cellZ ns 3)
 obtain⟨w2,hw2⟩:=zmi (n:=5) (S:=⟨[],[.lst (os.map pD)],[]⟩) (c:=cellZ ns 4)
 refine za5 (d:=.ref 1) (S':=⟨[],[.lst (os.map pD),.lst [.int w1,.int w2,.int 0]],[]⟩) (W.eq (wE_W _ ?_)) ?_
 · unfold E0
   conv=>whnf
   refine zar (zha (n:=5) (k:=3)) ?_
   conv=>whnf
   refine zar (hw1) ?_
   conv=>whnf
   refine zar (zha (n:=5) (k:=4)) ?_
   conv=>whnf
   refine zar (hw2) ?_
   conv=>whnf
   refine zab (by first|decide|omega|(simp;done)|(simp;omega)) ?_
   conv=>whnf
   exact⟨rfl,rfl⟩
 rw[E0_2]
 refine za5 (d:=.ref 6) (S':=⟨[],[.lst (os.map pD),.lst [.int w1,.int w2,.int 0],bD 3,.d3 [],bD 5,.d3 [],.lst [.ref 2,.ref 4]],[]⟩) (W.eq (wE_W _ ?_)) ?_
 · unfold E0
   conv=>whnf
   refine zar (zkZ (n:=5)) ?_
   conv=>whnf
   refine zab rfl ?_
   conv=>whnf
   refine zar (zkY (n:=5)) ?_
   conv=>whnf
   refine zab rfl ?_
   conv=>whnf
   refine zab (by first|decide|omega|(simp;done)|(simp;omega)) ?_
   conv=>whnf
   exact⟨rfl,rfl⟩
 rw[E0_3]
 refine za5 (d:=.ref 9) (S':=⟨[],[.lst (os.map pD),.lst [.int w1,.int w2,.int 0],bD 3,.d3 [],bD 5,.d3 [],.lst [.ref 2,.ref 4],.d3 [],.d3 [],.lst [.ref 7,.ref 8]],[]⟩) (W.eq (wE_W _ ?_)) ?_
 · unfold E0
   conv=>whnf
   refine zab (by first|decide|omega|(simp;done)|(simp;omega)) ?_
   conv=>whnf
   exact⟨rfl,rfl⟩
 rw[E0_4]
 refine za5 (d:=.ref 12) (S':=⟨[],[.lst (os.map pD),.lst [.int w1,.int w2,.int 0],bD 3,.d3 [],bD 5,.d3 [],.lst [.ref 2,.ref 4],.d3 [],.d3 [],.lst [.ref 7,.ref 8],.lst [],.lst [],.lst [.tup [.ref 10,.ref 11]]],[]⟩) (W.eq (wE_W _ ?_)) ?_
 · have g6:(R.St.mk [] [.lst (os.map pD),.lst [.int w1,.int w2,.int 0],bD 3,.d3 [],bD 5,.d3 [],.lst [.ref 2,.ref 4],.d3 [],.d3 [],.lst [.ref 7,.ref 8]] []).get 6=some (.lst [.ref 2,.ref 4]):=rfl
   have g2:(R.St.mk [] [.lst (os.map pD),.lst [.int w1,.int w2,.int 0],bD 3,.d3 [],bD 5,.d3 [],.lst [.ref 2,.ref 4],.d3 [],.d3 [],.lst [.ref 7,.ref 8]] []).get 2=some (bD 3):=rfl
   have g3:(R.St.mk [] [.lst (os.map pD),.lst [.int w1,.int w2,.int 0],bD 3,.d3 [],bD 5,.d3 [],.lst [.ref 2,.ref 4],.d3 [],.d3 [],.lst [.ref 7,.ref 8]] []).get 3=some (.d3 (kv3 [])):=rfl
   unfold E0
   conv=>whnf
   refine zac (g6) ?_
   conv=>whnf
   refine zac (zds) ?_
   conv=>whnf
   refine zac (zaT g2) ?_
   conv=>whnf
   refine zac (rfl) ?_
   conv=>whnf
   refine zab rfl ?_
   conv=>whnf
   refine zar (zcd (n:=5) g2 g3 (by simp)) ?_
   conv=>whnf
   refine zab (by first|decide|omega|(simp;done)|(simp;omega)) ?_
   conv=>whnf
   refine zab (by first|decide|omega|(simp;done)|(simp;omega)) ?_
   conv=>whnf
   refine zab (by first|decide|omega|(simp;done)|(simp;omega)) ?_
   conv=>whnf
   exact⟨rfl,rfl⟩
 rw[E0_5,show E0 ns (some (.ref 0)) (some (.ref 1)) (some (.ref 6)) (some (.ref 9)) (some (.ref 12))=E ns dd none none none none none none none none none by unfold E0 E;rfl]
 have hc:=zns ns (some 5) (some 62)
 obtain⟨o1,o2,o3,rfl⟩:∃o1 o2 o3,os=[o1,o2,o3]:=by
  match os,h3 with
  | [a,b,c],_=>exact⟨a,b,c,rfl⟩
 have hU:(Uk [o1,o2,o3] [w1,w2,0]).length<64:=by
  simp[Uk]
  decide
 generalize hcs:cut ns (some 5) (some 62)=cs at hc
 refine zd4 (xs:=cs.map .int) (ls:=[13]) (S1:=⟨[],[.lst ([o1,o2,o3].map pD),.lst [.int w1,.int w2,.int 0],bD 3,.d3 [],bD 5,.d3 [],.lst [.ref 2,.ref 4],.d3 [],.d3 [],.lst [.ref 7,.ref 8],.lst [],.lst [],.lst [.tup [.ref 10,.ref 11]],.lst (cs.map .int)],[]⟩) (W.eq (wL_W _ ?_)) ?_
 · unfold E
   conv=>whnf
   rw[za7,hcs]
   refine zab (by rw[List.length_map];omega) ?_
   conv=>whnf
   refine zac (zaN _ _) ?_
   conv=>whnf
   exact⟨rfl,rfl⟩
 have C:Cn dd [13]:=⟨by decide,by decide,by decide⟩
 have B0:IV dd [o1,o2,o3] [w1,w2,0] [13] 1 ⟨[],[.lst ([o1,o2,o3].map pD),.lst [.int w1,.int w2,.int 0],bD 3,.d3 [],bD 5,.d3 [],.lst [.ref 2,.ref 4],.d3 [],.d3 [],.lst [.ref 7,.ref 8],.lst [],.lst [],.lst [.tup [.ref 10,.ref 11]],.lst (cs.map .int)],[13]⟩:=by
  refine⟨[],[],[(10,11)],⟨rfl,rfl,?_,rfl,rfl,rfl,rfl,rfl,rfl,rfl,rfl,rfl,rfl,rfl,?_,⟨List.nodup_nil,by simp⟩,⟨List.nodup_nil,by simp⟩⟩,Nat.le_refl _⟩
  · intro x hx;simp at hx;subst hx;simp[St.len]
  · intro x hx
    simp only[List.mem_singleton] at hx
    subst hx
    exact⟨[],rfl,rfl,by decide,by decide⟩
 refine W.mono (zbn (fun j δ U=>(∃v6 v7 v8 v9 v10 v11 v12 v13 v14,δ=E ns dd v6 v7 v8 v9 v10 v11 v12 v13 v14)/\IV dd [o1,o2,o3] [w1,w2,0] [13] (1+j) U) (fun _ _=>False) _ 0 _ _ ⟨⟨_,_,_,_,_,_,_,_,_,rfl⟩,B0⟩ ?_) ?_
 · rintro j z δ U hz ⟨⟨v6,v7,v8,v9,v10,v11,v12,v13,v14,rfl⟩,hI⟩
   rw[Nat.zero_add] at hI⊢
   have hjl:j<cs.length:=by have:=(List.getElem?_eq_some_iff.mp hz).1;simpa using this
   rw[List.getElem?_map] at hz
   cases ej:cs[j]? with
   |none=>rw[ej] at hz;cases hz
   | some x =>
     rw[ej] at hz;cases hz
     refine⟨E ns dd (some (.int x)) v7 v8 v9 v10 v11 v12 v13 v14,by unfold E;rfl,?_⟩
     refine (t_t C hU (by omega) rfl rfl h7 hI).mono fun f V hV=>?_
     cases f with
     |rt _=>exact hV.elim
     |nx δ'=>exact hV
 · rintro f U hU'
   cases f with
   |rt _=>exact hU'.elim
   | nx δ =>
     obtain⟨⟨v6,v7,v8,v9,v10,v11,v12,v13,v14,rfl⟩,K0,K1,rows,B,hr⟩:=hU'
     have hr:rows.length<=1+(0+cs.length):=by simpa using hr
     refine t_e (L:=[]) (r:=1000) hU (Nat.le_refl _) ⟨K0,K1,rows,?_,by omega⟩
     exact⟨B.fz,rfl,(by intro x hx;cases hx),B.gO,B.gW,B.gB,B.gM,B.ga0,B.ga1,B.g0,B.h0,B.g1,B.h1,B.gh,B.ok,B.s0,B.s1⟩
end
section
open PySem R L2
set_option maxHeartbeats 0 in
theorem all_mk {l:PySem.W.OpenLaw}{w:World}{K:PySem.W.Frag}{h:Heap}{mg:Str->Option Value}{fa f1 f2 f3 f4 f5 f6 f7 f8 f9 f10 fm11 fm12 fm13 fm14 fm15:Addr}(X:K.In h)(G:h.Ns mainGlobals mg)(hfa:mg "law"=some (.ref fa))
  {odm11 anm11 odm12 anm12 odm13 anm13 odm14 anm14 odm15 anm15:Option Addr} {slm11 slm12 slm13 slm14 slm15:Array (Option Value)} {ocm11 kVm11 dcm11 pmm11 cdm11 ctm11 ocm12 kVm12 dcm12 pmm12 cdm12 ctm12 ocm13 kVm13 dcm13 pmm13 cdm13 ctm13 ocm14 kVm14 dcm14 pmm14 cdm14 ctm14 ocm15 kVm15 dcm15 pmm15 cdm15 ctm15:Value}
  {od1 an1 od2 an2 od3 an3 od4 an4 od5 an5 od6 an6 od7 an7 od8 an8 od9 an9 od10 an10:Option Addr} {sl1 sl2 sl3 sl4 sl5 sl6 sl7 sl8 sl9 sl10:Array (Option Value)} {oc1 kV1 dc1 pm1 cd1 ct1 oc2 kV2 dc2 pm2 cd2 ct2 oc3 kV3 dc3 pm3 cd3 ct3 oc4 kV4 dc4 pm4 cd4 ct4 oc5 kV5 dc5 pm5 cd5 ct5 oc6 kV6 dc6 pm6 cd6 ct6 oc7 kV7 dc7 pm7 cd7 ct7 oc8 kV8 dc8 pm8 cd8 ct8 oc9 kV9 dc9 pm9 cd9 ct9 oc10 kV10 dc10 pm10 cd10 ct10:Value}
  (a1:PySem.W.nsIn K mainGlobals "_law_cell_at"=some (some (.ref f1))) (l1:K.lookup f1=some ⟨oc1,od1,.func (PySem.W.fnOf "_law_cell_at" "_law_cell_at" (zaA zat) (zai zat) (zad zat) .none kV1 dc1 pm1 an1 cd1 ct1),sl1⟩) (c1:PySem.W.codeIn K cd1 "_law_cell_at"=true) (k1:PySem.W.keepIn K (.ref f1)=true)
  (a2:PySem.W.nsIn K mainGlobals "_law_big"=some (some (.ref f2))) (l2:K.lookup f2=some ⟨oc2,od2,.func (PySem.W.fnOf "_law_big" "_law_big" (zaA zaY) (zai zaY) (zad zaY) .none kV2 dc2 pm2 an2 cd2 ct2),sl2⟩) (c2:PySem.W.codeIn K cd2 "_law_big"=true) (k2:PySem.W.keepIn K (.ref f2)=true)
  (a3:PySem.W.nsIn K mainGlobals "_law_order"=some (some (.ref f3))) (l3:K.lookup f3=some ⟨oc3,od3,.func (PySem.W.fnOf "_law_order" "_law_order" (zaA zaD) (zai zaD) (zad zaD) .none kV3 dc3 pm3 an3 cd3 ct3),sl3⟩) (c3:PySem.W.codeIn K cd3 "_law_order"=true) (k3:PySem.W.keepIn K (.ref f3)=true)
  (a4:PySem.W.nsIn K mainGlobals "_law_places"=some (some (.ref f4))) (l4:K.lookup f4=some ⟨oc4,od4,.func (PySem.W.fnOf "_law_places" "_law_places" (zaA zaw) (zai zaw) (zad zaw) .none kV4 dc4 pm4 an4 cd4 ct4),sl4⟩) (c4:PySem.W.codeIn K cd4 "_law_places"=true) (k4:PySem.W.keepIn K (.ref f4)=true)
  (a5:PySem.W.nsIn K mainGlobals "_law_truth"=some (some (.ref f5))) (l5:K.lookup f5=some ⟨oc5,od5,.func (PySem.W.fnOf "_law_truth" "_law_truth" (zaA zaB) (zai zaB) (zad zaB) .none kV5 dc5 pm5 an5 cd5 ct5),sl5⟩) (c5:PySem.W.codeIn K cd5 "_law_truth"=true) (k5:PySem.W.keepIn K (.ref f5)=true)
  (a6:PySem.W.nsIn K mainGlobals "_law_there"=some (some (.ref f6))) (l6:K.lookup f6=some ⟨oc6,od6,.func (PySem.W.fnOf "_law_there" "_law_there" (zaA zaC) (zai zaC) (zad zaC) .none kV6 dc6 pm6 an6 cd6 ct6),sl6⟩) (c6:PySem.W.codeIn K cd6 "_law_there"=true) (k6:PySem.W.keepIn K (.ref f6)=true)
  (a7:PySem.W.nsIn K mainGlobals "_law_genuine"=some (some (.ref f7))) (l7:K.lookup f7=some ⟨oc7,od7,.func (PySem.W.fnOf "_law_genuine" "_law_genuine" (zaA zas) (zai zas) (zad zas) .none kV7 dc7 pm7 an7 cd7 ct7),sl7⟩) (c7:PySem.W.codeIn K cd7 "_law_genuine"=true) (k7:PySem.W.keepIn K (.ref f7)=true)
  (a8:PySem.W.nsIn K mainGlobals "_law_asked"=some (some (.ref f8))) (l8:K.lookup f8=some ⟨oc8,od8,.func (PySem.W.fnOf "_law_asked" "_law_asked" (zaA zaE) (zai zaE) (zad zaE) .none kV8 dc8 pm8 an8 cd8 ct8),sl8⟩) (c8:PySem.W.codeIn K cd8 "_law_asked"=true) (k8:PySem.W.keepIn K (.ref f8)=true)
  (a9:PySem.W.nsIn K mainGlobals "_law_listed"=some (some (.ref f9))) (l9:K.lookup f9=some ⟨oc9,od9,.func (PySem.W.fnOf "_law_listed" "_law_listed" (zaA zax) (zai zax) (zad zax) .none kV9 dc9 pm9 an9 cd9 ct9),sl9⟩) (c9:PySem.W.codeIn K cd9 "_law_listed"=true) (k9:PySem.W.keepIn K (.ref f9)=true)
  (a10:PySem.W.nsIn K mainGlobals "law"=some (some (.ref f10))) (l10:K.lookup f10=some ⟨oc10,od10,.func (PySem.W.fnOf "law" "law" (zaA zbB) (zai zbB) (zad zbB) .none kV10 dc10 pm10 an10 cd10 ct10),sl10⟩) (c10:PySem.W.codeIn K cd10 "law"=true) (k10:PySem.W.keepIn K (.ref f10)=true)
  (aC0:PySem.W.nsIn K mainGlobals "Book"=some (some (.ref 57)))
  (pg0:PySem.W.plainGet K 57 Str.empty=true)
  (hd0:PySem.W.hasDictIn K 57=true)
  (po0:PySem.W.plainOver K 57=true)
  (sa0:PySem.W.findIn K (.ref 57) "__setattr__"=some (some (.builtin "object.__setattr__")))
  (mkc0:PySem.W.makesIn K 57=true)
  (kc0:PySem.W.keepIn K (.ref 57)=true)
  (n0_made:PySem.W.findIn K (.ref 57) "made"=some none)
  (x0_init:PySem.W.findIn K (.ref 57) "__init__"=some (some (.ref fm11)))
  (x0_genuine:PySem.W.findIn K (.ref 57) "genuine"=some (some (.ref fm12)))
  (x0_has:PySem.W.findIn K (.ref 57) "has"=some (some (.ref fm13)))
  (x0_stamp:PySem.W.findIn K (.ref 57) "stamp"=some (some (.ref fm14)))
  (x0_stamps:PySem.W.findIn K (.ref 57) "stamps"=some (some (.ref fm15)))
  (lm11:K.lookup fm11=some ⟨ocm11,odm11,.func (PySem.W.fnOf "__init__" "Book.__init__" (zaA zaF) (zai zaF) (zad zaF) .none kVm11 dcm11 pmm11 anm11 cdm11 ctm11),slm11⟩) (cm11:PySem.W.codeIn K cdm11 "Book.__init__"=true) (km11:PySem.W.keepIn K (.ref fm11)=true) (im11:PySem.W.isFn K (.ref fm11)=true)
  (lm12:K.lookup fm12=some ⟨ocm12,odm12,.func (PySem.W.fnOf "genuine" "Book.genuine" (zaA zao) (zai zao) (zad zao) .none kVm12 dcm12 pmm12 anm12 cdm12 ctm12),slm12⟩) (cm12:PySem.W.codeIn K cdm12 "Book.genuine"=true) (km12:PySem.W.keepIn K (.ref fm12)=true) (im12:PySem.W.isFn K (.ref fm12)=true)
  (lm13:K.lookup fm13=some ⟨ocm13,odm13,.func (PySem.W.fnOf "has" "Book.has" (zaA zaP) (zai zaP) (zad zaP) .none kVm13 dcm13 pmm13 anm13 cdm13 ctm13),slm13⟩) (cm13:PySem.W.codeIn K cdm13 "Book.has"=true) (km13:PySem.W.keepIn K (.ref fm13)=true) (im13:PySem.W.isFn K (.ref fm13)=true)
  (lm14:K.lookup fm14=some ⟨ocm14,odm14,.func (PySem.W.fnOf "stamp" "Book.stamp" (zaA zay) (zai zay) (zad zay) .none kVm14 dcm14 pmm14 anm14 cdm14 ctm14),slm14⟩) (cm14:PySem.W.codeIn K cdm14 "Book.stamp"=true) (km14:PySem.W.keepIn K (.ref fm14)=true) (im14:PySem.W.isFn K (.ref fm14)=true)
  (lm15:K.lookup fm15=some ⟨ocm15,odm15,.func (PySem.W.fnOf "stamps" "Book.stamps" (zaA zau) (zai zau) (zad zau) .none kVm15 dcm15 pmm15 anm15 cdm15 ctm15),slm15⟩) (cm15:PySem.W.codeIn K cdm15 "Book.stamps"=true) (km15:PySem.W.keepIn K (.ref fm15)=true) (im15:PySem.W.isFn K (.ref fm15)=true)
  (z_all:PySem.W.nsIn K mainGlobals "all"=some none)
  (z_bool:PySem.W.nsIn K mainGlobals "bool"=some none)
  (z_enumerate:PySem.W.nsIn K mainGlobals "enumerate"=some none)
  (z_isinstance:PySem.W.nsIn K mainGlobals "isinstance"=some none)
  (z_len:PySem.W.nsIn K mainGlobals "len"=some none)
  (z_list:PySem.W.nsIn K mainGlobals "list"=some none)
  (z_range:PySem.W.nsIn K mainGlobals "range"=some none)
  (z_sorted:PySem.W.nsIn K mainGlobals "sorted"=some none)
  (z_tuple:PySem.W.nsIn K mainGlobals "tuple"=some none)
  : ∃fd:FuncData,(∀(s:Shared) (v:Value),BindsTo s fd ⟨[v],[]⟩ [("_law_script",v)])/\∀base:Heap,K.In base->base.Ns mainGlobals mg->FnOk l.prog w K mg base CX0 14 fa fd ["_law_script"] (spF K (callF prog 7) 9):=by
 have e:=hfa.symm.trans (PySem.W.mg_of X G a10)
 cases e
 have F1:=zaV (st:=zat) l1 c1 k1
 have m1:=PySem.W.mg_of X G a1
 have b1_0:=F1.binds (ps:=["_law_script","_law_k"]) fun _ _ _ _ _ _ us hl=>match us,hl with | [_,_],_=>rfl
 have F2:=zaV (st:=zaY) l2 c2 k2
 have m2:=PySem.W.mg_of X G a2
 have b2_0:=F2.binds (ps:=["_law_cell"]) fun _ _ _ _ _ _ us hl=>match us,hl with | [_],_=>rfl
 have F3:=zaV (st:=zaD) l3 c3 k3
 have m3:=PySem.W.mg_of X G a3
 have b3_0:=F3.binds (ps:=["_law_cell"]) fun _ _ _ _ _ _ us hl=>match us,hl with | [_],_=>rfl
 have F4:=zaV (st:=zaw) l4 c4 k4
 have m4:=PySem.W.mg_of X G a4
 have b4_0:=F4.binds (ps:=["_law_kind","_law_size","_law_gap"]) fun _ _ _ _ _ _ us hl=>match us,hl with | [_,_,_],_=>rfl
 have F5:=zaV (st:=zaB) l5 c5 k5
 have m5:=PySem.W.mg_of X G a5
 have b5_0:=F5.binds (ps:=["_law_found","_law_due"]) fun _ _ _ _ _ _ us hl=>match us,hl with | [_,_],_=>rfl
 have F6:=zaV (st:=zaC) l6 c6 k6
 have m6:=PySem.W.mg_of X G a6
 have b6_0:=F6.binds (ps:=["_law_book","_law_made","_law_order_here","_law_size","_law_word"]) fun _ _ _ _ _ _ us hl=>match us,hl with | [_,_,_,_,_],_=>rfl
 have F7:=zaV (st:=zas) l7 c7 k7
 have m7:=PySem.W.mg_of X G a7
 have b7_0:=F7.binds (ps:=["_law_book","_law_made","_law_order_here","_law_size","_law_word"]) fun _ _ _ _ _ _ us hl=>match us,hl with | [_,_,_,_,_],_=>rfl
 have F8:=zaV (st:=zaE) l8 c8 k8
 have m8:=PySem.W.mg_of X G a8
 have b8_0:=F8.binds (ps:=["_law_book","_law_made","_law_order_here","_law_size","_law_word","_law_turned"]) fun _ _ _ _ _ _ us hl=>match us,hl with | [_,_,_,_,_,_],_=>rfl
 have F9:=zaV (st:=zax) l9 c9 k9
 have m9:=PySem.W.mg_of X G a9
 have b9_0:=F9.binds (ps:=["_law_book","_law_made","_law_held"]) fun _ _ _ _ _ _ us hl=>match us,hl with | [_,_,_],_=>rfl
 have F10:=zaV (st:=zbB) l10 c10 k10
 have m10:=PySem.W.mg_of X G a10
 have b10_0:=F10.binds (ps:=["_law_script"]) fun _ _ _ _ _ _ us hl=>match us,hl with | [_],_=>rfl
 have hb:∀x,tab.blt.contains x=true->mg x=none:=AllIn.get (l:=tab.blt) (And.intro (PySem.W.mg_none_of X G z_all) (And.intro (PySem.W.mg_none_of X G z_bool) (And.intro (PySem.W.mg_none_of X G z_enumerate) (And.intro (PySem.W.mg_none_of X G z_isinstance) (And.intro (PySem.W.mg_none_of X G z_len) (And.intro (PySem.W.mg_none_of X G z_list) (And.intro (PySem.W.mg_none_of X G z_range) (And.intro (PySem.W.mg_none_of X G z_sorted) (And.intro (PySem.W.mg_none_of X G z_tuple) trivial)))))))))
 have hc:∀x d,tab.cons.lookup x=some d->ziI d=true/\∃u,mg x=some u/\RelV (sV d) u:=by
  intro x d hx
  cases hx
 have hd:∀base:Heap,∀fi x ps nd,tab.fns[fi]?=some (x,ps,nd)->DefOk K mg tab prog fi x ps nd\/PrimOk l.prog w K mg base prog fi x ps nd:=fun base fi x ps nd hf=>AllAt.get (P:=fun fi q=>DefOk K mg tab prog fi q.1 q.2.1 q.2.2\/PrimOk l.prog w K mg base prog fi q.1 q.2.1 q.2.2) (l:=tab.fns)
  (And.intro (.inl ⟨⟨c_law_cell_at,_,zat,_,_,_,_,rfl,rfl,F1,zdk,zdq,rfl,rfl,m1,(fun j hj=>(Nat.le_zero.mp hj).symm▸b1_0)⟩⟩) (And.intro (.inl ⟨⟨c_law_big,_,zaY,_,_,_,_,rfl,rfl,F2,zgl,zgI,rfl,rfl,m2,(fun j hj=>(Nat.le_zero.mp hj).symm▸b2_0)⟩⟩) (And.intro (.inl ⟨⟨c_law_order,_,zaD,_,_,_,_,rfl,rfl,F3,zep,zeX,rfl,rfl,m3,(fun j hj=>(Nat.le_zero.mp hj).symm▸b3_0)⟩⟩) (And.intro (.inl ⟨⟨c_law_places,_,zaw,_,_,_,_,rfl,rfl,F4,zdN,zd7,rfl,rfl,m4,(fun j hj=>(Nat.le_zero.mp hj).symm▸b4_0)⟩⟩) (And.intro (.inl ⟨⟨c_law_truth,_,zaB,_,_,_,_,rfl,rfl,F5,zen,zeV,rfl,rfl,m5,(fun j hj=>(Nat.le_zero.mp hj).symm▸b5_0)⟩⟩) (And.intro (.inl ⟨⟨c_law_there,_,zaC,_,_,_,_,rfl,rfl,F6,zeo,zeW,rfl,rfl,m6,(fun j hj=>(Nat.le_zero.mp hj).symm▸b6_0)⟩⟩) (And.intro (.inl ⟨⟨c_law_genuine,_,zas,_,_,_,_,rfl,rfl,F7,zdj,zdp,rfl,rfl,m7,(fun j hj=>(Nat.le_zero.mp hj).symm▸b7_0)⟩⟩) (And.intro (.inl ⟨⟨c_law_asked,_,zaE,_,_,_,_,rfl,rfl,F8,zeq,zeY,rfl,rfl,m8,(fun j hj=>(Nat.le_zero.mp hj).symm▸b8_0)⟩⟩) (And.intro (.inl ⟨⟨c_law_listed,_,zax,_,_,_,_,rfl,rfl,F9,zdO,zd8,rfl,rfl,m9,(fun j hj=>(Nat.le_zero.mp hj).symm▸b9_0)⟩⟩) (And.intro (.inl ⟨⟨c_law,_,zbB,_,_,_,_,rfl,rfl,F10,zjN,zjV,rfl,rfl,m10,(fun j hj=>(Nat.le_zero.mp hj).symm▸b10_0)⟩⟩) trivial)))))))))) fi _ hf
 refine⟨PySem.W.fnOf "law" "law" (zaA zbB) (zai zbB) (zad zbB) .none kV10 dc10 pm10 an10 cd10 ct10,fun s v=>.of_eq rfl,fun base _ _=>?_⟩
 have Fm11:=zaV (st:=zaF) lm11 cm11 km11
 have bm11_0:=Fm11.binds (ps:=["self"]) fun _ _ _ _ _ _ us hl=>match us,hl with | [_],_=>rfl
 have Fm12:=zaV (st:=zao) lm12 cm12 km12
 have bm12_0:=Fm12.binds (ps:=["self","path","word"]) fun _ _ _ _ _ _ us hl=>match us,hl with | [_,_,_],_=>rfl
 have Fm13:=zaV (st:=zaP) lm13 cm13 km13
 have bm13_0:=Fm13.binds (ps:=["self","hand","path","word"]) fun _ _ _ _ _ _ us hl=>match us,hl with | [_,_,_,_],_=>rfl
 have Fm14:=zaV (st:=zay) lm14 cm14 km14
 have bm14_0:=Fm14.binds (ps:=["self","hand","path","word"]) fun _ _ _ _ _ _ us hl=>match us,hl with | [_,_,_,_],_=>rfl
 have Fm15:=zaV (st:=zau) lm15 cm15 km15
 have bm15_0:=Fm15.binds (ps:=["self"]) fun _ _ _ _ _ _ us hl=>match us,hl with | [_],_=>rfl
 have hk:ClsOk tab K mg prog:=by
  refine⟨?_,?_,?_,?_,Nat.le_refl _,?_⟩
  · intro c x hx
    match c,hx with
    | 0, hx =>
      cases hx
      refine⟨_,rfl,⟨pg0,hd0,po0,sa0⟩,PySem.W.mg_of X G aC0,AllIn.get (l:=tab.flds) (And.intro n0_made trivial)⟩
    |n+1,hx=>simp[tab] at hx
  · exact fun c m fi hx=>AllIn.get (P:=fun q=>MOk K tab prog q.2.2 0 (ExM K q.1 q.2.1)) (l:=tab.mts)
     (And.intro (⟨⟨c_Book_genuine,_,_,zao,_,_,_,_,_,rfl,rfl,Fm12,zcC,zdc,rfl,rfl,bm12_0,_,rfl,⟨pg0,hd0,po0,sa0⟩,⟨x0_genuine,im12,km12⟩⟩⟩) (And.intro (⟨⟨c_Book_has,_,_,zaP,_,_,_,_,_,rfl,rfl,Fm13,zfc,zfy,rfl,rfl,bm13_0,_,rfl,⟨pg0,hd0,po0,sa0⟩,⟨x0_has,im13,km13⟩⟩⟩) (And.intro (⟨⟨c_Book_stamp,_,_,zay,_,_,_,_,_,rfl,rfl,Fm14,zdP,zd9,rfl,rfl,bm14_0,_,rfl,⟨pg0,hd0,po0,sa0⟩,⟨x0_stamp,im14,km14⟩⟩⟩) (And.intro (⟨⟨c_Book_stamps,_,_,zau,_,_,_,_,_,rfl,rfl,Fm15,zdl,zdr,rfl,rfl,bm15_0,_,rfl,⟨pg0,hd0,po0,sa0⟩,⟨x0_stamps,im15,km15⟩⟩⟩) trivial)))) (c,m,fi) hx
  · intro c fi j hx
    simp only[tab,List.contains_iff_mem,List.mem_cons,List.not_mem_nil,or_false,Prod.mk.injEq] at hx
    rcases hx with ⟨rfl,rfl,rfl⟩
    · exact⟨⟨c_Book_init,_,_,zaF,_,_,_,_,_,rfl,rfl,Fm11,zer,zeZ,rfl,rfl,bm11_0,_,rfl,⟨mkc0,x0_init,im11,kc0⟩⟩⟩
  · intro x m fi hx
    simp only[tab,List.contains_iff_mem,List.mem_cons,List.not_mem_nil,or_false,Prod.mk.injEq] at hx
  · intro x cs hx
    simp only[tab,List.contains_iff_mem,List.mem_cons,List.not_mem_nil,or_false,Prod.mk.injEq] at hx
 exact zh8 (zlO hb hc (hd base) hk 6) F10 rfl zjN zjV rfl rfl
end
end K41
open PySem PySem.W PyProof.Rows
set_option maxRecDepth 100000 in
set_option maxHeartbeats 0 in
theorem PySem.Challenge.cw_traitorround_k41_a_book_holds : PySem.Challenge.rw_traitorround_k41_a_book.Holds := by
 w_on;o_law;k_head;(case hw=>w_witness2)
 k_fill
 refine L2.walk_of (l:=PySem.Challenge.rw_traitorround_k41_a_book) (n:=63) (k:=14) (x:="_law_script") (CX:=fun _=>L2.CX0) (sp:=fun w=>R.spF _ (R.callF K41.prog 7) 9) rfl (by decide) rfl ⟨rfl,by decide,by decide⟩ (fun w h Y=>PySem.W.kIn_of Y) ?F (fun _ _ a ns hl hO hS=>R.law_sp rfl hO hS (K41.law_true ns hl)) fun _ _ _ _ _ z=>z
 case F=>
  intro w mg fa h KX G hmg
  refine' K41.all_mk KX G hmg ?a1 ?l1 ?c1 ?k1 ?a2 ?l2 ?c2 ?k2 ?a3 ?l3 ?c3 ?k3 ?a4 ?l4 ?c4 ?k4 ?a5 ?l5 ?c5 ?k5 ?a6 ?l6 ?c6 ?k6 ?a7 ?l7 ?c7 ?k7 ?a8 ?l8 ?c8 ?k8 ?a9 ?l9 ?c9 ?k9 ?a10 ?l10 ?c10 ?k10 ?aC0 ?pg0 ?hd0 ?po0 ?sa0 ?mkc0 ?kc0 ?n0_made ?x0_init ?x0_genuine ?x0_has ?x0_stamp ?x0_stamps ?lm11 ?cm11 ?km11 ?im11 ?lm12 ?cm12 ?km12 ?im12 ?lm13 ?cm13 ?km13 ?im13 ?lm14 ?cm14 ?km14 ?im14 ?lm15 ?cm15 ?km15 ?im15 ?z_all ?z_bool ?z_enumerate ?z_isinstance ?z_len ?z_list ?z_range ?z_sorted ?z_tuple
  (case a1=>k_is)
  (case l1=>k_is)
  (case c1=>k_is)
  (case k1=>k_is)
  (case a2=>k_is)
  (case l2=>k_is)
  (case c2=>k_is)
  (case k2=>k_is)
  (case a3=>k_is)
  (case l3=>k_is)
  (case c3=>k_is)
  (case k3=>k_is)
  (case a4=>k_is)
  (case l4=>k_is)
  (case c4=>k_is)
  (case k4=>k_is)
  (case a5=>k_is)
  (case l5=>k_is)
  (case c5=>k_is)
  (case k5=>k_is)
  (case a6=>k_is)
  (case l6=>k_is)
  (case c6=>k_is)
  (case k6=>k_is)
  (case a7=>k_is)
  (case l7=>k_is)
  (case c7=>k_is)
  (case k7=>k_is)
  (case a8=>k_is)
  (case l8=>k_is)
  (case c8=>k_is)
  (case k8=>k_is)
  (case a9=>k_is)
  (case l9=>k_is)
  (case c9=>k_is)
  (case k9=>k_is)
  (case a10=>k_is)
  (case l10=>k_is)
  (case c10=>k_is)
  (case k10=>k_is)
  (case aC0=>k_is)
  (case pg0=>k_is)
  (case hd0=>k_is)
  (case po0=>k_is)
  (case sa0=>k_is)
  (case mkc0=>k_is)
  (case kc0=>k_is)
  (case n0_made=>k_is)
  (case x0_init=>k_is)
  (case x0_genuine=>k_is)
  (case x0_has=>k_is)
  (case x0_stamp=>k_is)
  (case x0_stamps=>k_is)
  (case lm11=>k_is)
  (case cm11=>k_is)
  (case km11=>k_is)
  (case im11=>k_is)
  (case lm12=>k_is)
  (case cm12=>k_is)
  (case km12=>k_is)
  (case im12=>k_is)
  (case lm13=>k_is)
  (case cm13=>k_is)
  (case km13=>k_is)
  (case im13=>k_is)
  (case lm14=>k_is)
  (case cm14=>k_is)
  (case km14=>k_is)
  (case im14=>k_is)
  (case lm15=>k_is)
  (case cm15=>k_is)
  (case km15=>k_is)
  (case im15=>k_is)
  (case z_all=>k_is)
  (case z_bool=>k_is)
  (case z_enumerate=>k_is)
  (case z_isinstance=>k_is)
  (case z_len=>k_is)
  (case z_list=>k_is)
  (case z_range=>k_is)
  (case z_sorted=>k_is)
  (case z_tuple=>k_is)
end
