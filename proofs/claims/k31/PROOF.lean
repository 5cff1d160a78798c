import PyProof.Rows.All
import Wide.All
import OpenK.AllK
import Wide.FinOn
import Lean
import PyProof.EqAt
import PyProof.EqKinds
import PyProof.TupleCall
import PyProof.P3Statements
import PyProof.Dict
import PySem.Syntax
import PySem.Challenge.RW_traitorround_k31_an_oral_hand
set_option Elab.async false
set_option linter.all false
set_option maxRecDepth 100000
set_option bootstrap.genMatcherCode false
namespace PySem.W.Fast
end PySem.W.Fast
namespace PySem.W.Fast
def tw15929406746439122461:=0
def tw14753633831350457880:=0
def tw2140513411295666899:=0
def tw8381256897768934205:=0
def tw5910542092339812970:=0
def tw6696319379323437383:=0
def tw14150721490969922813:=0
def tw15574754887481669780:=0
def tw5414105466465290414:=0
def tw17845676452193556790:=0
def tw12495360888283486421:=0
def tw4150612853290072175:=0
def tw1757498933316868793:=0
def tw2449885777970389553:=0
def tw9745598044453416875:=0
def tw5664731943332115867:=0
def tw10136330618702826544:=0
def tw12542006817035482769:=0
def tw7346321480349192160:=0
def tw3481117588804578307:=0
def tw10860543334812308181:=0
def tw13860129647284978031:=0
def tw16532420625415503632:=0
def tw12272791538399827359:=0
def tw13423226707673453835:=0
def tw6926753096068017030:=0
def tw5389334132742460205:=0
def tw899517967307842537:=0
def tw5663499040741212861:=0
def tw16099967978136782114:=0
def tw8159576255325331222:=0
def tw10828285105495934471:=0
def tw17244891372348347226:=0
def tw15894694787399844238:=0
def tw14830462534907097986:=0
def tw734336203125630169:=0
def tw12773745943691694200:=0
def tw9727026234668141961:=0
def tw9880773150709938048:=0
def tw7933621901890449227:=0
def tw5330120229450382040:=0
def tw15822855858145306079:=0
def tw9935853351019219839:=0
def tw11465011125921309414:=0
def tw967711933896339659:=0
def tw10735136527983240678:=0
def tw9813378177438381147:=0
def tw12246633284929262610:=0
def tw614238638403139452:=0
def tw5845349890861094764:=0
def tw11785057939553629757:=0
def tw12324444481564856874:=0
def tw12551570694780804704:=0
def tw7299792291861264560:=0
def tw8982518305748424105:=0
def tw6847320833339098872:=0
def tw4757116079935059788:=0
def tw13936188783237515442:=0
def tw4852049261155140108:=0
def tw6860706023356146725:=0
def tw7420433748439446548:=0
def tw9765376809166727576:=0
def tw16446417214367812732:=0
def tw12943366854461690989:=0
def tw11651442759822367483:=0
def tw11385081653849523158:=0
def tw9065717152450254883:=0
def tw7085412686727258855:=0
def tw17619972885159239575:=0
def tw12789909989940917192:=0
def tw11502699569393491853:=0
def tw8796932795069881767:=0
def tw8817521390077179238:=0
def tw5988923336940731152:=0
def tw2589724527683715775:=0
def tw6764235683266499245:=0
def tw7765614206564702354:=0
def tw15782644050310184404:=0
def tw7951641487436070709:=0
def tw17024572707933156088:=0
def tw14225664271399756490:=0
def tw6755042423597098146:=0
def tw11961936280874520302:=0
def tw8844093446711630839:=0
def tw5287346993568296698:=0
def tw4334720097725115288:=0
def tw12051131855880981981:=0
def tw7459643507793321096:=0
def tw9055756631351207538:=0
def tw12282760218280115466:=0
def tw11158674673482252652:=0
def tw9339566487813768410:=0
def tw10742223511157302534:=0
def tw4292679716391882982:=0
def tw12260681854690748793:=0
def tw1618655537552872128:=0
def tw9757573750227292063:=0
def tw18108470929860896107:=0
def tw3370839455218492413:=0
def tw14575152966850075699:=0
def tw4501198240934756517:=0
def tw8788200719661989195:=0
def tw11375790605720587409:=0
def tw11441906278681243:=0
def tw5532102948071089036:=0
def tw12719763318719939333:=0
def tw15363785934115430289:=0
def tw16280581640207497255:=0
def tw14874525468508966233:=0
def tw549384468437156829:=0
def tw3932070609434695961:=0
def tw11168829757692503245:=0
def tw13803094683312941726:=0
def tw4693915407159861390:=0
def tw1510343635311296781:=0
def tw17254799061222749817:=0
def tw9757005494225502865:=0
def tw923751881993138753:=0
def tw2479891318159814362:=0
def tw15116900690113623474:=0
def tw6864205450727178362:=0
def tw14146515156089086497:=0
def tw1217070813815663461:=0
def tw2323024208361666084:=0
def tw2886012128046648725:=0
def tw13912285707195616384:=0
def tw9286278285326368368:=0
def tw16171901875547258333:=0
def tw15504522029648484998:=0
def tw14607481447185208214:=0
def tw11746079690895328084:=0
def tw12368124184785189057:=0
def tw18167026749987397355:=0
def tw17933858779675987595:=0
def tw18321860982576338776:=0
def tw17397500064542097552:=0
def tw13073992038977787873:=0
def tw7648980372073342303:=0
def tw4383236287898216526:=0
def tw4181846243507637691:=0
def tw7817673147352590758:=0
def tw7974263213147605880:=0
def tw4974002070817490785:=0
def tw14394422529923925366:=0
def tw2695536463626395733:=0
def tw6056805604567898106:=0
def tw14060370008031214853:=0
def tw713231637038964390:=0
def tw6791768108600454947:=0
def tw11758727599513951179:=0
def tw17683256145352634967:=0
def tw1362998405456998115:=0
def tw16552606597167802665:=0
def tw15013199315551591385:=0
def tw2263396674462317686:=0
def tw10352630712677430081:=0
def tw12181985493058561600:=0
def tw8556411060893329763:=0
def tw10902798651689638319:=0
def tw108024182067887922:=0
def tw1186738460618170591:=0
def tw18091209859798879506:=0
def tw8728095103140005802:=0
def tw6527544989733258923:=0
def tw2020493172382088295:=0
def tw4733171144162573868:=0
def tw8629494995845202192:=0
def tw12158658302125211499:=0
def tw971284863390618262:=0
def tw4942081339490551243:=0
def tw13353861577283039483:=0
def tw1787656463709945807:=0
def tw4016963659699215960:=0
def tw6744335673152619448:=0
def tw7957540333739843191:=0
def tw16185293658033320113:=0
def tw6472009475386700225:=0
def tw16203518745878609258:=0
def tw12330855121996075913:=0
def tw12573709499432849376:=0
def tw6769040009311441642:=0
def tw560453155888149118:=0
def tw14745404635472535054:=0
def tw748741783138488055:=0
def tw14923676369770852573:=0
def tw12529949955289964880:=0
def tw11759142924085158993:=0
def tw13865775533758115884:=0
def tw1408022159155647262:=0
def tw15206465385498697354:=0
def tw8355641403518603056:=0
def tw13649777363861278220:=0
def tw5956543603411526789:=0
def tw12930144411209543333:=0
def tw5777130529849728716:=0
def tw14896270620545206310:=0
def tw530144126614670995:=0
def tw5995889151860704142:=0
def tw16387758541847519893:=0
def tw12118165784057810539:=0
def tw11028336532595197010:=0
def tw5908420571483887462:=0
def tw2053119057418481538:=0
def tw14313512169377482979:=0
def tw13639626682215504032:=0
def tw4104855636184933133:=0
def tw17656596394770519197:=0
def tw11170581830151146403:=0
def tw11020739136193532052:=0
def tw8173033810411293149:=0
def tw17098082151009011571:=0
def tw1183236453079437965:=0
def tw2999624762522305929:=0
def tw8357062486077670753:=0
def tw6020657881671980893:=0
def tw10249937899344228566:=0
def tw4934230636030827911:=0
def tw10718323011880675385:=0
def tw14868148137916059902:=0
def tw1071191084031766409:=0
def tw3928964360770077663:=0
def tw5614014766891595288:=0
def tw13577582719534999672:=0
def tw17857826523326458136:=0
def tw6934101728455464732:=0
def tw2519039242845638926:=0
def tw11795430603907559767:=0
def tw10880626786219946051:=0
def tw11103664884490811267:=0
def tw7947658501576549249:=0
def tw4708180491182326790:=0
def tw10561209695665577234:=0
def tw2793324205570838218:=0
def tw15861969990690876777:=0
def tw7788243189231952761:=0
def tw13479749867842702308:=0
def tw10022852464861991692:=0
def tw7838646415824147207:=0
def tw6811995020392073404:=0
def tw392610477414041975:=0
def tw9148263214339207980:=0
end PySem.W.Fast
section
namespace L2
open PySem PySem.Spec PyProof.Rows
noncomputable abbrev Key:=Sum Int Str
noncomputable def zge:Key->Value->Bool
 |.inl k,v=>Value.isInt k v
 |.inr x,v=>Value.isStrOf x v
noncomputable def keyH (w:World):Key->Int
 |.inl k=>hashInt k
 |.inr x=>hashStr w x
theorem zaK:∀{k:Key} {v:Value},zge k v=true->(∃i t,k=Sum.inl i/\v=Value.int i t)\/(∃x t,k=Sum.inr x/\v=Value.str x t)
 | .inl i, v, h => by
   obtain⟨t,e⟩:=Value.isInt_shape (k:=i) (v:=v) h
   exact .inl ⟨i,t,rfl,e⟩
 | .inr x, v, h => by
   obtain⟨t,e⟩:=Value.isStrOf_shape (x:=x) (v:=v) h
   exact .inr ⟨x,t,rfl,e⟩
theorem zi3 (i:Int)(t:Tok):zge (.inl i) (.int i t)=true:=by simp[zge,Value.isInt]
theorem zi2 (x:Str)(t:Tok):zge (.inr x) (.str x t)=true:=by simp[zge,Value.isStrOf]
theorem zpi (a b:Int):decide ((Sum.inl a:Key)=Sum.inl b)=(a == b):=by
 by_cases e:a=b
 · subst e;simp
 · have h:¬(Sum.inl a:Key)=Sum.inl b:=fun q=>e (Sum.inl.inj q)
   rw[decide_eq_false h]
   exact (beq_eq_false_iff_ne.mpr e).symm
theorem zpe (a b:Str):decide ((Sum.inr a:Key)=Sum.inr b)=decide (a=b):=by
 by_cases e:a=b
 · subst e;simp
 · have h:¬(Sum.inr a:Key)=Sum.inr b:=fun q=>e (Sum.inr.inj q)
   rw[decide_eq_false h,decide_eq_false e]
theorem zph (a:Int)(b:Str):decide ((Sum.inl a:Key)=Sum.inr b)=false:=decide_eq_false (fun q=>nomatch q)
theorem zpf (a:Str)(b:Int):decide ((Sum.inr a:Key)=Sum.inl b)=false:=decide_eq_false (fun q=>nomatch q)
noncomputable def zaH (prog:Program)(w:World):PySem.KeyKind prog w Key where
 is:=zge
 hash:=keyH w
 inj:=fun v a b ha hb=>by
  rcases zaK ha with ⟨i,t,rfl,rfl⟩|⟨x,t,rfl,rfl⟩
  · rcases zaK hb with ⟨j,u,rfl,e⟩|⟨y,u,rfl,e⟩
    · injection e with e1 _;rw[e1]
    · exact nomatch e
  · rcases zaK hb with ⟨j,u,rfl,e⟩|⟨y,u,rfl,e⟩
    · exact nomatch e
    · injection e with e1 _;rw[e1]
 byValue:=fun k v h=>by
  rcases zaK h with ⟨i,t,rfl,rfl⟩|⟨x,t,rfl,rfl⟩<;>rfl
 pyHash:=fun hv h=>by
  rcases zaK hv with ⟨i,t,rfl,rfl⟩|⟨x,t,rfl,rfl⟩
  · exact wpAny_pyHash_int h
  · exact wpAny_pyHash_str h
 eqBool:=fun hu hv h=>by
  rcases zaK hu with ⟨i,t,rfl,rfl⟩|⟨x,t,rfl,rfl⟩
  · rcases zaK hv with ⟨j,u,rfl,rfl⟩|⟨y,u,rfl,rfl⟩
    · rw[zpi] at h;exact wpAny_eqBool_int h
    · rw[zph] at h;exact SeqAt.EqAt.int_str i t y u _ _ _ _ h
  · rcases zaK hv with ⟨j,u,rfl,rfl⟩|⟨y,u,rfl,rfl⟩
    · rw[zpf] at h;exact SeqAt.EqAt.str_int x t j u _ _ _ _ h
    · rw[zpe] at h;exact wpAny_eqBool_str h
 «strs»:=fun k x t v h=>by
  rcases zaK h with ⟨i,u,rfl,e⟩|⟨y,u,rfl,e⟩
  · exact nomatch e
  · injection e with e1 _
    subst e1
    cases v<;>rfl
theorem zhF (prog:Program)(w:World)(k:Key)(v:Value):(zaH prog w).is k v=zge k v:=rfl
theorem zgc (prog:Program)(w:World)(i:Int)(t:Tok):(zaH prog w).is (.inl i) (.int i t)=true:=zi3 i t
theorem zgb (prog:Program)(w:World)(x:Str)(t:Tok):(zaH prog w).is (.inr x) (.str x t)=true:=zi2 x t
end L2
namespace L2
open PySem PySem.Spec PyProof.Rows
inductive V where
 |non|bl (b:Bool)|int (i:Int)|str (x:Str)|byt (b:Array UInt8)|flt (b:UInt64)|ref (a:Addr)|ty (n:String)
 deriving DecidableEq
noncomputable def RelV:V->Value->Prop
 |.non,u=>u=Value.none
 |.bl b,u=>u=Value.bool b
 |.int i,u=>∃t,u=Value.int i t
 |.str x,u=>∃t,u=Value.str x t
 |.byt b,u=>∃t,u=Value.bytes b t
 |.flt b,u=>∃t,u=Value.float b t
 |.ref a,u=>u=Value.ref a
 |.ty n,u=>u=Value.type n
noncomputable abbrev Vals:List V->List Value->Prop:=Paired RelV
theorem Vals.length {xs:List V}{us:List Value}(r:Vals xs us):xs.length=us.length:=Paired.length r
theorem Vals.get:∀{xs:List V} {us:List Value} {i:Nat} {x:V},Vals xs us->xs[i]?=some x->∃u,us[i]?=some u/\RelV x u
 |_,_,_,_,.nil,e=>by simp at e
 |_,_,0,_,.cons r _,e=>by simp at e;subst e;exact⟨_,rfl,r⟩
 | _, _, i + 1, x, .cons _ t, e => by
   obtain⟨u,h1,h2⟩:=Vals.get (i:=i) (x:=x) t (by simpa using e)
   exact⟨u,by simpa using h1,h2⟩
theorem Vals.append:∀{xs ys:List V} {us ws:List Value},Vals xs us->Vals ys ws->Vals (xs++ys) (us++ws)
 |_,_,_,_,.nil,s=>s
 |_,_,_,_,.cons r t,s=>.cons r (Vals.append t s)
theorem Vals.take:∀{xs:List V} {us:List Value} (n:Nat),Vals xs us->Vals (xs.take n) (us.take n)
 |_,_,0,_=>.nil
 |_,_,_+1,.nil=>.nil
 |_,_,n+1,.cons r t=>.cons r (Vals.take n t)
theorem Vals.drop:∀{xs:List V} {us:List Value} (n:Nat),Vals xs us->Vals (xs.drop n) (us.drop n)
 |_,_,0,r=>r
 |_,_,_+1,.nil=>.nil
 |_,_,n+1,.cons _ t=>Vals.drop n t
noncomputable def RelO:Option V->Option Value->Prop
 |some v,some u=>RelV v u
 |none,none=>True
 |_,_=>False
noncomputable def KV {κ:Type}:List (κ × V)->List (κ × Value)->Prop:=Paired fun (p:κ × V) (q:κ × Value)=>p.1=q.1/\RelV p.2 q.2
noncomputable def kV:Key->V
 |.inl i=>.int i
 |.inr x=>.str x
inductive HO where
 |lst (xs:List V)
 |tup (xs:List V)
 |dK (kvs:List (Key × V))|dT (kvs:List (List Key × V))
 |set (S:Int->Bool) (n:Nat)
 |ins (C dx:Addr) (fs:List (Str × V))
 |own (x:Addr)
 |xd (fs:List (Str × V))
 |met (f x:Addr)
 |rng (lo hi:Int)
 |frz (o:Obj) (u:HO)
 |tbl (ps:Array Value)
 |ext (φ:Heap->Prop)
noncomputable abbrev Hp:=Addr->Option HO
noncomputable def upd (H:Hp)(a:Addr)(o:HO):Hp:=fun b=>if b=a then some o else H b
theorem zap {H:Hp}{a:Addr}{o:HO}:upd H a o a=some o:=by unfold upd;rw[if_pos rfl]
theorem zai {H:Hp}{a b:Addr}{o:HO}(h:b≠a):upd H a o b=H b:=by unfold upd;rw[if_neg h]
theorem zlN {H:Hp}{a:Addr}{o u:HO}:upd (upd H a o) a u=upd H a u:=by
 funext b;unfold upd;split<;>rfl
theorem ne_of {H:Hp}{a b:Addr}{o u:HO}(h:H a=some o)(h':H b=some u)(d:o≠u):a≠b:=by
 intro e;subst e;rw[h] at h';exact d (Option.some.inj h')
theorem zal {H:Hp}{a b:Addr}{o:HO}(h:H a=some o)(h':H b=none):a≠b:=by
 intro e;subst e;rw[h] at h';cases h'
section
variable (P:Program) (w:World)
noncomputable def ObjOk (H:Hp)(h:Heap)(a:Addr):HO->Prop
 |.lst xs=>xs.length<=sizeLine/\∃(its:List Value) (n:Nat),Vals xs its/\h.get? a=some {cls:=.type "list",data:=.seq its.toArray n}
 |.tup xs=>xs.length<=sizeLine/\∃its:List Value,Vals xs its/\IsTup h a its.toArray
 |.dK kvs=>kvs.length<=sizeLine/\(a == sysModules)=false/\∃vs,KV kvs vs/\h.DictOf (zaH P w) a vs
 |.dT kvs=>kvs.length<=sizeLine/\(a == sysModules)=false/\∃xs:List (List Key × Addr × Value),
  Paired (fun (p:List Key × V) (q:List Key × Addr × Value)=>p.1=q.1/\H q.2.1=some (.tup (p.1.map kV))/\RelV p.2 q.2.2) kvs xs/\
  ∃o es ep,h.get? a=some o/\o.ExactDict/\o.data=.dict es ep/\es.toList=xs.map (entryOfKey (tupleKind (zaH P w)))/\(xs.map (·.1)).Nodup
 |.set S n=>h.SetOf (intKind P w) a S n
 |.ins C dx fs=>H dx=some (.own a)/\fs.length<=1000/\dx≠a/\h.get? a=some (PySem.W.instObj C dx)/\
  ∃mA,h.Ns1 dx mA/\(∀f,RelO (fs.lookup f) (mA f))/\PySem.Within mA (fs.map (·.1))
 |.own _=>∃o,h.get? a=some o
 |.xd fs=>∃mA,h.Ns1 a mA/\∀f,RelO (fs.lookup f) (mA f)
 |.rng lo hi=>∃t u v,h.get? a=some {cls:=.type "range",data:=.fields #[.int lo t,.int hi u,.int 1 v]}
 |.frz o u=>h.get? a=some o/\ObjOk H h a u
 |.tbl ps=>h.get? a=some {cls:=.none,data:=.fields ps}
 |.met f x=>h.get? a=some (PySem.W.methodObj (.ref f) (.ref x))
 |.ext φ=>φ h/\(∃o,h.get? a=some o)/\∀h1 h2:Heap,φ h1->(∀o,h1.get? a=some o->h2.get? a=some o)->φ h2
noncomputable def HOk (H:Hp)(h:Heap):Prop:=∀a o,H a=some o->ObjOk P w H h a o
end
section
variable {P:Program} {w:World} {H H':Hp} {h h':Heap} {a:Addr} {o:HO}
theorem ObjOk.lt (x:ObjOk P w H h a o):a<h.objs.size:=by
 cases o with
 |lst xs=>obtain⟨_,_,_,_,e⟩:=x;exact Heap.lt_size e
 |tup xs=>obtain⟨_,_,_,p⟩:=x;exact p.lt
 |dK kvs=>obtain⟨_,_,_,_,o,_,_,e,_⟩:=x;exact Heap.lt_size e
 |dT kvs=>obtain⟨_,_,_,_,o,_,_,e,_⟩:=x;exact Heap.lt_size e
 |set S n=>obtain⟨o,_,_,_,e,_⟩:=x;exact Heap.lt_size e
 |ins C dx fs=>obtain⟨_,_,_,e,_⟩:=x;exact Heap.lt_size e
 |own y=>obtain⟨_,e⟩:=x;exact Heap.lt_size e
 |xd fs=>obtain⟨_,⟨_,_,_,e,_⟩,_⟩:=x;exact Heap.lt_size e
 |rng lo hi=>obtain⟨_,_,_,e⟩:=x;exact Heap.lt_size e
 |frz ob u=>obtain⟨e,_⟩:=x;exact Heap.lt_size e
 |tbl ps=>exact Heap.lt_size (show h.get? a=some _ from x)
 |met f y=>exact Heap.lt_size (show h.get? a=some _ from x)
 |ext φ=>obtain⟨_,⟨_,e⟩,_⟩:=x;exact Heap.lt_size e
theorem Paired.mapP {α β:Type}{F G:α->β->Prop}:∀{l₁:List α} {l₂:List β},Paired F l₁ l₂->(∀a b,F a b->G a b)->Paired G l₁ l₂
 |_,_,.nil,_=>.nil
 |_,_,.cons r t,f=>.cons (f _ _ r) (Paired.mapP t f)
theorem ObjOk.stay (x:ObjOk P w H h a o)(k:∀b u,(b=a\/H b=some (.own a))->h.get? b=some u->h'.get? b=some u)
  (ho:∀b,H b=some (.own a)->H' b=some (.own a)) (ht:∀b xs,H b=some (.tup xs)->H' b=some (.tup xs)):ObjOk P w H' h' a o:=by
 induction o with
 |lst xs=>obtain⟨z,its,n,r,e⟩:=x;exact⟨z,its,n,r,k _ _ (.inl rfl) e⟩
 |tup xs=>obtain⟨z,its,r,ob,e,c⟩:=x;exact⟨z,its,r,ob,k _ _ (.inl rfl) e,c⟩
 |dK kvs=>obtain⟨z,y,vs,r,ob,es,ep,e,c⟩:=x;exact⟨z,y,vs,r,ob,es,ep,k _ _ (.inl rfl) e,c⟩
 | dT kvs =>
   obtain⟨z,y,xs,r,ob,es,ep,e,c⟩:=x
   exact⟨z,y,xs,Paired.mapP r fun p q z=>⟨z.1,ht _ _ z.2.1,z.2.2⟩,ob,es,ep,k _ _ (.inl rfl) e,c⟩
 |set S n=>obtain⟨ob,es,ep,t,e,c⟩:=x;exact⟨ob,es,ep,t,k _ _ (.inl rfl) e,c⟩
 | ins C dx fs =>
   obtain⟨d,z,ne,e,mA,⟨od,es,ep,e2,c⟩,r⟩:=x
   exact⟨ho _ d,z,ne,k _ _ (.inl rfl) e,mA,⟨od,es,ep,k _ _ (.inr d) e2,c⟩,r⟩
 |own y=>obtain⟨ob,e⟩:=x;exact⟨ob,k _ _ (.inl rfl) e⟩
 |xd fs=>obtain⟨mA,⟨od,es,ep,e,c⟩,r⟩:=x;exact⟨mA,⟨od,es,ep,k _ _ (.inl rfl) e,c⟩,r⟩
 |rng lo hi=>obtain⟨t,u,v,e⟩:=x;exact⟨t,u,v,k _ _ (.inl rfl) e⟩
 |frz ob u ih=>obtain⟨e,q⟩:=x;exact⟨k _ _ (.inl rfl) e,ih q⟩
 | tbl ps =>
   have e:h.get? a=some {cls:=.none,data:=.fields ps}:=x
   show h'.get? a=some {cls:=.none,data:=.fields ps}
   exact k a _ (.inl rfl) e
 | met f y =>
   have e:h.get? a=some (PySem.W.methodObj (.ref f) (.ref y)):=x
   show h'.get? a=some (PySem.W.methodObj (.ref f) (.ref y))
   exact k a _ (.inl rfl) e
 |ext φ=>obtain⟨p,⟨o,e⟩,st⟩:=x;exact⟨st _ _ p fun o q=>k _ _ (.inl rfl) q,⟨o,k _ _ (.inl rfl) e⟩,st⟩
theorem HOk.lt (x:HOk P w H h)(e:H a=some o):a<h.objs.size:=(x a o e).lt
theorem HOk.fresh (x:HOk P w H h)(e:h.objs.size<=a):H a=none:=by
 cases q:H a with
 |none=>rfl
 |some u=>exact absurd (Nat.lt_of_lt_of_le (x.lt q) e) (Nat.lt_irrefl _)
theorem HOk.kept (x:HOk P w H h)(k:∀b u,h.get? b=some u->h'.get? b=some u):HOk P w H h':=fun a o e=>
 (x a o e).stay (fun b u _ q=>k b u q) (fun _ q=>q) fun _ _ q=>q
theorem HOk.laid (x:HOk P w H h)(k:∀b u,h.get? b=some u->h'.get? b=some u)(hp:h.objs.size<=a)(new:ObjOk P w (upd H a o) h' a o):HOk P w (upd H a o) h':=fun b u e=>by
 have hn:=x.fresh hp
 by_cases hb:b=a
 · subst hb;rw[zap] at e;cases e;exact new
 · rw[zai hb] at e
   exact (x b u e).stay (fun c v _ q=>k c v q) (fun c q=>by rw[zai (zal q hn)];exact q) fun c xs q=>by rw[zai (zal q hn)];exact q
end
noncomputable def Rd (H:Hp)(a:Addr)(u:HO):Prop:=H a=some u\/∃o,H a=some (.frz o u)
theorem Rd.ok {P:Program}{w:World}{H:Hp}{h:Heap}{a:Addr}{u:HO}(r:Rd H a u)(x:HOk P w H h):ObjOk P w H h a u:=by
 rcases r with r|⟨o,r⟩
 · exact x a u r
 · obtain⟨_,q⟩:=x a _ r
   exact q
noncomputable def Mut:Option HO->Prop
 |some (.lst _)=>True
 |some (.dK _)=>True
 |some (.dT _)=>True
 |some (.set _ _)=>True
 |some (.ins _ _ _)=>True
 |some (.ext _)=>True
 |_=>False
section
variable {P:Program} {w:World} {H:Hp} {h h':Heap} {x e:Addr} {o':HO}
theorem HOk.write (ok:HOk P w H h)(mu:Mut (H x))(he:e=x\/H e=some (.own x))(k:∀b u,b≠e->h.get? b=some u->h'.get? b=some u)(heo:∃u,h'.get? e=some u)
  (new:ObjOk P w (upd H x o') h' x o'):HOk P w (upd H x o') h':=fun b u q=>by
 have nown:∀c y,H c=some (.own y)->c≠x:=fun c y r z=>by subst z;rw[r] at mu;exact mu
 have ntup:∀c xs,H c=some (.tup xs)->c≠x:=fun c xs r z=>by subst z;rw[r] at mu;exact mu
 by_cases hb:b=x
 · subst hb;rw[zap] at q;cases q;exact new
 · rw[zai hb] at q
   by_cases hbe:b=e
   · have q':H b=some (.own x):=by
      rcases he with z|z
      · exact absurd (hbe.trans z) hb
      · rw[hbe];exact z
     rw[q] at q';cases q'
     obtain⟨v,hv⟩:=heo
     exact⟨v,by rw[hbe];exact hv⟩
   · refine (ok b u q).stay (fun c v hc r=>k c v ?_ r) (fun c r=>by rw[zai (nown c b r)];exact r) fun c xs r=>by rw[zai (ntup c xs r)];exact r
     rcases hc with rfl|hc
     · exact hbe
     · rintro rfl
       rcases he with z|z
       · exact nown c b hc z
       · rw[hc] at z;cases z;exact hb rfl
end
structure Un (fs ex:List Addr) (H H':Hp) (h h':Heap):Prop where
 keep:∀b o,h.get? b=some o->H b=none->b∉fs->b∉ex->h'.get? b=some o
 slot:∀b o,h.get? b=some o->H b=none->b∈fs->b∉ex->∃sl,h'.get? b=some {o with slots:=sl}
 free:∀b o,h.get? b=some o->H b=none->b∉ex->H' b=none
 there:∀b o,h.get? b=some o->b∉ex->∃o',h'.get? b=some o'
 tups:∀b xs,H b=some (.tup xs)->H' b=some (.tup xs)
 frzs:∀b o u,H b=some (.frz o u)->H' b=some (.frz o u)
 tbls:∀b ps,H b=some (.tbl ps)->∃more,H' b=some (.tbl (ps++more))
section
variable {fs fs' ex ex':List Addr} {H H1 H2:Hp} {h h1 h2 h':Heap} {a x e:Addr} {o:HO}
theorem Un.any (u:Un fs ex H H1 h h1){b:Addr}{ob:Obj}(q:h.get? b=some ob)(n:H b=none)(hx:b∉ex):∃sl,h1.get? b=some {ob with slots:=sl}:=by
 by_cases hb:b∈fs
 · exact u.slot b ob q n hb hx
 · exact⟨ob.slots,u.keep b ob q n hb hx⟩
theorem Un.kept (k:∀b u,h.get? b=some u->h'.get? b=some u):Un fs ex H H h h':=
 ⟨fun b ob q _ _ _=>k b ob q,fun b ob q _ _ _=>⟨ob.slots,k b ob q⟩,fun _ _ _ n _=>n,fun b ob q _=>⟨ob,k b ob q⟩,fun _ _ q=>q,fun _ _ _ q=>q,fun _ ps q=>⟨#[],by rw[q];simp⟩⟩
theorem Un.refl:Un fs ex H H h h:=Un.kept fun _ _ q=>q
theorem Un.laid (k:∀b u,h.get? b=some u->h'.get? b=some u)(hp:h.objs.size<=a)(hn:H a=none):Un fs ex H (upd H a o) h h' where
 keep:=fun b u q _ _ _=>k b u q
 slot:=fun b u q _ _ _=>⟨u.slots,k b u q⟩
 free:=fun b u q n _=>by rw[zai (Nat.ne_of_lt (Nat.lt_of_lt_of_le (Heap.lt_size q) hp))];exact n
 there:=fun b u q _=>⟨u,k b u q⟩
 tups:=fun b xs q=>by rw[zai (zal q hn)];exact q
 frzs:=fun b u xs q=>by rw[zai (zal q hn)];exact q
 tbls:=fun b ps q=>⟨#[],by rw[zai (zal q hn),q];simp⟩
theorem Un.write (mu:Mut (H x))(he:e=x\/H e=some (.own x))(k:∀b u,b≠e->h.get? b=some u->h'.get? b=some u)(heo:∃u,h'.get? e=some u):Un fs ex H (upd H x o) h h':=by
 have hx:∀b,H b=none->b≠x:=fun b n z=>by subst z;rw[n] at mu;exact mu
 have hb:∀b,H b=none->b≠e:=fun b n z=>by
  subst z
  rcases he with r|r
  · exact hx b n r
  · rw[n] at r;cases r
 have hm:∀b u,H b=some u->¬Mut (some u)->b≠x:=fun b u q nm z=>by subst z;rw[q] at mu;exact nm mu
 refine⟨fun b u q n _ _=>k b u (hb b n) q,fun b u q n _ _=>⟨u.slots,k b u (hb b n) q⟩,fun b u q n _=>by rw[zai (hx b n)];exact n,fun b u q _=>?_,
  fun b xs q=>by rw[zai (hm b _ q fun z=>z)];exact q,fun b u xs q=>by rw[zai (hm b _ q fun z=>z)];exact q,fun b ps q=>⟨#[],by rw[zai (hm b _ q fun z=>z),q];simp⟩⟩
 by_cases hbe:b=e
 · subst hbe;exact heo
 · exact⟨u,k b u hbe q⟩
end
noncomputable def trk (h:Heap)(H:Hp):List Addr:=(List.range h.objs.size).filter fun a=>(H a).isSome
noncomputable def hidT (h:Heap)(H:Hp):Heap:=PySem.W.hideAll h (trk h H)
theorem zje (h:Heap)(H:Hp):(hidT h H).objs.size=h.objs.size:=PySem.W.hideAll_size _ _
theorem zkR {h:Heap}{H:Hp}{b:Addr}{o:Obj}(e:h.get? b=some o)(n:H b=none):(hidT h H).get? b=some o:=
 PySem.W.hideAll_get _ e fun hm=>by
  have q:(H b).isSome=true:=(List.mem_filter.mp hm).2
  rw[n] at q;simp at q
theorem zmU {h:Heap}{H:Hp}{b:Addr}{o:Obj}(e:(hidT h H).get? b=some o):h.get? b=some o/\H b=none:=by
 have e':h.get? b=some o:=PySem.W.of_hideAll (trk h H) e
 refine⟨e',?_⟩
 cases q:H b with
 |none=>rfl
 | some x =>
   have hm:b∈trk h H:=List.mem_filter.mpr ⟨List.mem_range.mpr (Heap.lt_size e'),by simp[q]⟩
   have z:(hidT h H).get? b=none:=PySem.W.hideAll_none (trk h H) hm
   rw[z] at e;cases e
end L2
namespace L2
open PySem PySem.Spec PyProof.Rows
structure Mod (K:PySem.W.Frag) (mg:Str->Option Value) (base:Heap):Prop where
 kin:K.In base
 glob:base.Ns mainGlobals mg
 blt:∃mb,base.Ns builtinsNs mb/\∀x:Str,x≠"__name__"->mb x=bootBuiltins x
 nolimit:base.NoLimit
structure Cx where
 prog:Program
 w:World
 K:PySem.W.Frag
 mg:Str->Option Value
 base:Heap
 A:Around
 N:List Str
 s₀:Shared
 H₀:Hp
 env:Env
 outer:List Env
 stack:List Env
 ex:List Addr
 fn:Str->Bool
 calm:Bool
 pn:List (Addr × Obj)
 xe:Value->Shared->Prop
noncomputable def frs (l:List Env):List Addr:=l.filterMap (·.frame)
noncomputable abbrev Cx.fs (X:Cx):List Addr:=frs X.outer
noncomputable def Vis (sc:Scope)(x:Str):Prop:=sc.names.lookup x=some .local\/sc.names.lookup x=some .cell\/sc.names.lookup x=some .free
noncomputable def Loc (sc:Scope)(x:Str):Prop:=sc.names.lookup x=some .local\/sc.names.lookup x=some .cell
noncomputable def Look (env:Env)(h:Heap)(m:Str->Option Value)(x:Str)(u:Value):Prop:=
 (env.kindOf x=some .local/\m x=some u)\/((env.kindOf x=some .cell\/env.kindOf x=some .free)/\∃c,env.cells.lookup x=some c/\h.IsCell c (some u))
structure Cx.Ok (X:Cx):Prop where
 mod:Mod X.K X.mg X.base
 kind:X.env.scope.kind=.function
 glob:X.env.globals=mainGlobals
 blt:X.env.builtins=builtinsNs
 above:X.s₀.heap.objs.size<=X.env.locals
 inj:∀x y c,X.env.cells.lookup x=some c->X.env.cells.lookup y=some c->x=y
 has:∀x,(X.env.kindOf x=some .cell\/X.env.kindOf x=some .free)->∃c,X.env.cells.lookup x=some c
 cab:∀x c,X.fn x=true->X.env.cells.lookup x=some c->X.s₀.heap.objs.size<=c
 hd:X.calm=true->X.A.handled=none
 frames:X.A.frames=some X.stack
 stk:X.stack=X.outer\/(X.stack=X.env::X.outer/\X.env.frame=some X.env.locals)
 exf:∀b∈X.ex,b≠X.env.locals/\∀x c,X.env.cells.lookup x=some c->c≠b
 bs:∀b o,X.base.get? b=some o->X.s₀.heap.get? b=some o/\X.H₀ b=none
 bsz:X.base.objs.size<=X.s₀.heap.objs.size
 noex:∀b o,X.base.get? b=some o->b∉X.ex
 exfs:∀b∈X.ex,b∉X.fs
 funs:X.s₀.heap.FunFrames X.base X.outer
 frf:∀b∈X.fs,X.H₀ b=none
structure Inv (X:Cx) (pins:List (Addr × Obj)) (σ:List (Option V)) (H:Hp) (s:Shared):Prop where
 ok:X.Ok
 os:s.os=X.s₀.os
 bare:AllBare s.gens
 base:Un X.fs X.ex X.H₀ H X.s₀.heap s.heap
 loc:∃m,s.heap.Ns X.env.locals m/\∀(i:Nat) (x:Str) (v:V),X.N[i]?=some x->σ[i]?=some (some v)->Vis X.env.scope x->∃u,RelV v u/\Look X.env s.heap m x u
 cell:∀x c,X.env.cells.lookup x=some c->∃v,s.heap.IsCell c v
 free:H X.env.locals=none
 freeC:∀x c,X.env.cells.lookup x=some c->H c=none
 pin:∀p∈X.pn++pins,s.heap.get? p.1=some p.2/\H p.1=none/\p.1≠X.env.locals/\p.1∉X.fs/\∀v,p.2.data≠.cell v
 hok:HOk X.prog X.w H s.heap
 len:σ.length=X.N.length
section
variable {X:Cx} {pins:List (Addr × Obj)} {σ:List (Option V)} {H H':Hp} {s:Shared} {h':Heap}
theorem Cx.Ok.nofr (ok:X.Ok){b:Addr}{o:Obj}(e:X.base.get? b=some o):b∉X.fs:=fun hb=>by
 have:=(ok.funs.mem hb).1
 rw[e] at this;cases this
theorem Inv.bs (I:Inv X pins σ H s):∀b o,X.base.get? b=some o->s.heap.get? b=some o/\H b=none:=fun b o e=>
 ⟨I.base.keep b o (I.ok.bs b o e).1 (I.ok.bs b o e).2 (I.ok.nofr e) (I.ok.noex b o e),I.base.free b o (I.ok.bs b o e).1 (I.ok.bs b o e).2 (I.ok.noex b o e)⟩
theorem Inv.bk (I:Inv X pins σ H s):∀b o,X.base.get? b=some o->s.heap.get? b=some o:=fun b o e=>(I.bs b o e).1
theorem Inv.mod (I:Inv X pins σ H s):Mod X.K X.mg X.base:=I.ok.mod
theorem Inv.kIn (I:Inv X pins σ H s):X.K.In s.heap:=I.ok.mod.kin.keeps I.bk
theorem Inv.lt (I:Inv X pins σ H s):X.env.locals<s.heap.objs.size:=let ⟨_,hn,_⟩:=I.loc;hn.lt
theorem Inv.sz (I:Inv X pins σ H s):X.s₀.heap.objs.size<=s.heap.objs.size:=Nat.le_trans I.ok.above (Nat.le_of_lt I.lt)
theorem Inv.nofs (I:Inv X pins σ H s){a:Addr}(h:s.heap.objs.size<=a):a∉X.fs:=fun hb=>by
 obtain⟨_,o,ho,_⟩:=I.ok.funs.mem hb
 exact absurd (Nat.lt_of_lt_of_le (Heap.lt_size ho) (Nat.le_trans I.sz h)) (Nat.lt_irrefl _)
theorem Inv.cne (I:Inv X pins σ H s):∀x c,X.env.cells.lookup x=some c->c≠X.env.locals:=fun x c e z=>by
 obtain⟨v,o,ho,hd⟩:=I.cell x c e
 obtain⟨m,⟨o',es,ep,ho',hd',_⟩,_⟩:=I.loc
 rw[z,ho'] at ho;cases ho;rw[hd'] at hd;cases hd
theorem Inv.funs (I:Inv X pins σ H s):s.heap.FunFrames X.base X.outer:=by
 have all:∀(l:List Env),(∀b∈frs l,b∈X.fs)->X.s₀.heap.FunFrames X.base l->s.heap.FunFrames X.base l:=by
  intro l
  induction l with
  |nil=>intro _ _;trivial
  | cons env r ih =>
    intro hs hl
    obtain⟨hk,⟨L,o,hf,hn,ho,hd⟩,hr⟩:=hl
    have hL:L∈X.fs:=hs L (by unfold frs;rw[List.filterMap_cons,hf];exact List.mem_cons_self)
    obtain⟨sl,e⟩:=I.base.slot L o ho (I.ok.frf L hL) hL fun z=>I.ok.exfs L z hL
    exact⟨hk,⟨L,_,hf,hn,e,hd⟩,ih (fun b hb=>hs b (by unfold frs;rw[List.filterMap_cons,hf];exact List.mem_cons_of_mem _ hb)) hr⟩
 exact all X.outer (fun _ hb=>hb) I.ok.funs
theorem Inv.stack (I:Inv X pins σ H s):s.heap.FunFrames X.base X.stack:=by
 rcases I.ok.stk with e|⟨e,hf⟩
 · rw[e];exact I.funs
 · rw[e]
   obtain⟨m,hn,_⟩:=I.loc
   refine .cons (by rw[I.ok.kind];decide) hf hn ?_ I.funs
   exact Heap.get?_none_of_le (Nat.le_trans I.ok.bsz I.ok.above)
theorem Inv.stkSub (I:Inv X pins σ H s):∀b∈frs X.stack,b∈X.env.locals::X.fs:=fun b hb=>by
 rcases I.ok.stk with e|⟨e,hf⟩
 · rw[e] at hb;exact List.mem_cons_of_mem _ hb
 · rw[e] at hb
   unfold frs at hb
   rw[List.filterMap_cons,hf] at hb
   exact hb
theorem Inv.stkFree (I:Inv X pins σ H s):∀b∈frs X.stack,H b=none:=fun b hb=>by
 rcases List.mem_cons.mp (I.stkSub b hb) with e|hb
 · rw[e];exact I.free
 · obtain⟨_,o,ho,_⟩:=I.ok.funs.mem hb
   exact I.base.free b o ho (I.ok.frf b hb) fun z=>I.ok.exfs b z hb
theorem Inv.step {g':Array GenState}{t':Nat}{d':Drawn}{ch:List Addr}(I:Inv X pins σ H s)
  (hch:∀b∈ch,(b∈X.ex\/X.s₀.heap.objs.size<=b)/\b≠X.env.locals/\(∀x c,X.env.cells.lookup x=some c->c≠b)/\∀p∈X.pn++pins,p.1≠b)
  (keep:∀b o,b≠X.env.locals->b∉X.fs->b∉ch->s.heap.get? b=some o->H b=none->h'.get? b=some o)
  (slot:∀b o,b≠X.env.locals->b∈X.fs->b∉ch->s.heap.get? b=some o->H b=none->∃sl,h'.get? b=some {o with slots:=sl}) (free:∀b o,b∉ch->s.heap.get? b=some o->H b=none->H' b=none)
  (there:∀b o,b∉ch->s.heap.get? b=some o->∃o',h'.get? b=some o')
  (tups:∀b xs,H b=some (.tup xs)->H' b=some (.tup xs)) (frzs:∀b o u,H b=some (.frz o u)->H' b=some (.frz o u)) (tbls:∀b ps,H b=some (.tbl ps)->∃more,H' b=some (.tbl (ps++more)))
  (ns:∀m,s.heap.Ns X.env.locals m->h'.Ns X.env.locals m) (hok:HOk X.prog X.w H' h') (hg:AllBare g') :
  Inv X pins σ H' {s with heap:=h',gens:=g',drawn:=d',toks:=t'}:=by
 have neL:∀b o,X.s₀.heap.get? b=some o->b≠X.env.locals:=fun b o e=>Nat.ne_of_lt (Nat.lt_of_lt_of_le (Heap.lt_size e) I.ok.above)
 have neC:∀b o,X.s₀.heap.get? b=some o->b∉X.ex->b∉ch:=fun b o e hx hb=>by
  rcases (hch b hb).1 with z|z
  · exact hx z
  · exact absurd (Nat.lt_of_lt_of_le (Heap.lt_size e) z) (Nat.lt_irrefl _)
 have cellK:∀x c,X.env.cells.lookup x=some c->∀v,s.heap.IsCell c v->h'.IsCell c v:=fun x c e v ⟨o,ho,hd⟩=>by
  have nch:c∉ch:=fun z=>(hch c z).2.2.1 x c e rfl
  by_cases hc:c∈X.fs
  · obtain⟨sl,q⟩:=slot c o (I.cne x c e) hc nch ho (I.freeC x c e)
    exact⟨_,q,hd⟩
  · exact⟨o,keep c o (I.cne x c e) hc nch ho (I.freeC x c e),hd⟩
 refine⟨I.ok,I.os,hg,⟨fun b o e n hb hx=>?_,fun b o e n hb hx=>?_,fun b o e n hx=>?_,fun b o e hx=>?_,fun b xs e=>tups b xs (I.base.tups b xs e),fun b o xs e=>frzs b o xs (I.base.frzs b o xs e),fun b ps e=>?_⟩,?_,fun x c e=>?_,?_,fun x c e=>?_,fun p hp=>?_,hok,I.len⟩
 · exact keep b o (neL b o e) hb (neC b o e hx) (I.base.keep b o e n hb hx) (I.base.free b o e n hx)
 · obtain⟨sl,e1⟩:=I.base.slot b o e n hb hx
   obtain⟨sl',e2⟩:=slot b _ (neL b o e) hb (neC b o e hx) e1 (I.base.free b o e n hx)
   exact⟨sl',e2⟩
 · obtain⟨o',e1⟩:=I.base.there b o e hx
   exact free b o' (neC b o e hx) e1 (I.base.free b o e n hx)
 · obtain⟨o',e1⟩:=I.base.there b o e hx
   exact there b o' (neC b o e hx) e1
 · obtain⟨m1,e1⟩:=I.base.tbls b ps e
   obtain⟨m2,e2⟩:=tbls b _ e1
   exact⟨m1++m2,by rw[e2,Array.append_assoc]⟩
 · obtain⟨m,hn,hl⟩:=I.loc
   refine⟨m,ns m hn,fun i x v e1 e2 e3=>?_⟩
   obtain⟨u,r,l⟩:=hl i x v e1 e2 e3
   refine⟨u,r,?_⟩
   rcases l with l|⟨k,c,e,z⟩
   · exact .inl l
   · exact .inr ⟨k,c,e,cellK x c e _ z⟩
 · obtain⟨v,z⟩:=I.cell x c e
   exact⟨v,cellK x c e v z⟩
 · obtain⟨m,⟨o,_,_,ho,_⟩,_⟩:=I.loc
   exact free _ o (fun z=>(hch _ z).2.1 rfl) ho I.free
 · obtain⟨v,o,ho,hd⟩:=I.cell x c e
   exact free c o (fun z=>(hch c z).2.2.1 x c e rfl) ho (I.freeC x c e)
 · obtain⟨e,n,ne,nf,d⟩:=I.pin p hp
   have nch:p.1∉ch:=fun z=>(hch p.1 z).2.2.2 p hp rfl
   exact⟨keep p.1 p.2 ne nf nch e n,free p.1 p.2 nch e n,ne,nf,d⟩
theorem Inv.un {t':Nat}(I:Inv X pins σ H s)(u:Un X.fs [] H H' s.heap h')(hok:HOk X.prog X.w H' h'):Inv X pins σ H' {s with heap:=h',toks:=t'}:=by
 obtain⟨m,⟨o,es,ep,ho,r⟩,_⟩:=id I.loc
 obtain⟨sl,hL⟩:=u.any ho I.free (by simp)
 exact I.step (g':=s.gens) (d':=s.drawn) (ch:=[]) (fun _ z=>nomatch z) (fun b o _ hb _ e n=>u.keep b o e n hb (by simp)) (fun b o _ hb _ e n=>u.slot b o e n hb (by simp)) (fun b o _ e n=>u.free b o e n (by simp)) (fun b o _ e=>u.there b o e (by simp)) u.tups u.frzs u.tbls (fun m' hm=>by
  obtain⟨o',es',ep',ho',r'⟩:=hm
  rw[ho] at ho';cases ho'
  exact⟨_,es',ep',hL,r'⟩) hok I.bare
theorem Inv.call {g':Array GenState}{t':Nat}{d':Drawn}{ch:List Addr}(I:Inv X pins σ H s)(u:Un (frs X.stack) ch H H' s.heap h')(hok:HOk X.prog X.w H' h')(hg:AllBare g')
  (hch:∀b∈ch,(b∈X.ex\/X.s₀.heap.objs.size<=b)/\b≠X.env.locals/\(∀x c,X.env.cells.lookup x=some c->c≠b)/\∀p∈X.pn++pins,p.1≠b) :
  Inv X pins σ H' {s with heap:=h',gens:=g',drawn:=d',toks:=t'}:=by
 obtain⟨m,⟨o,es,ep,ho,r⟩,_⟩:=id I.loc
 obtain⟨sl,hL⟩:=u.any ho I.free fun z=>(hch _ z).2.1 rfl
 exact I.step (ch:=ch) hch (fun b o hL hb hc e n=>u.keep b o e n (fun z=>(List.mem_cons.mp (I.stkSub b z)).elim hL hb) hc) (fun b o _ _ hc e n=>u.any e n hc) (fun b o hc e n=>u.free b o e n hc) (fun b o hc e=>u.there b o e hc) u.tups u.frzs u.tbls (fun m' hm=>by
  obtain⟨o',es',ep',ho',r'⟩:=hm
  rw[ho] at ho';cases ho'
  exact⟨_,es',ep',hL,r'⟩) hok hg
theorem Inv.turned {t':Nat}{it:Addr}(I:Inv X pins σ H s)(k:∀b o,b≠it->s.heap.get? b=some o->h'.get? b=some o)(hn:H it=none)(hL:it≠X.env.locals)
  (h1:it∈X.ex\/X.s₀.heap.objs.size<=it) (h2:∀x c,X.env.cells.lookup x=some c->c≠it) (h3:∀p∈X.pn++pins,p.1≠it):Inv X pins σ H {s with heap:=h',toks:=t'}:=by
 have nit:∀b u,H b=some u->b≠it:=fun b u e z=>by rw[z,hn] at e;cases e
 refine I.step (g':=s.gens) (d':=s.drawn) (ch:=[it]) (fun b hb=>?_) (fun b o _ _ hc e _=>k b o (fun z=>hc (by simp[z])) e) (fun b o _ _ hc e _=>⟨o.slots,k b o (fun z=>hc (by simp[z])) e⟩) (fun _ _ _ _ n=>n)
  (fun b o hc e=>⟨o,k b o (fun z=>hc (by simp[z])) e⟩) (fun _ _ e=>e) (fun _ _ _ e=>e) (fun b ps e=>⟨#[],by rw[e];simp⟩) (fun m hm=>?_) (fun b u e=>?_) I.bare
 · have e:b=it:=by simpa using hb
   subst e
   exact⟨h1,hL,h2,h3⟩
 · obtain⟨o,es,ep,ho,r⟩:=hm
   exact⟨o,es,ep,k _ o (Ne.symm hL) ho,r⟩
 · refine (I.hok b u e).stay (fun c v hc q=>k c v ?_ q) (fun _ q=>q) fun _ _ q=>q
   rcases hc with z|z
   · rw[z];exact nit b u e
   · exact nit c _ z
theorem Inv.tok (I:Inv X pins σ H s)(t:Nat):Inv X pins σ H {s with toks:=t}:=I.un (h':=s.heap) (t':=t) Un.refl I.hok
theorem Inv.kept {t':Nat}(I:Inv X pins σ H s)(k:∀b u,s.heap.get? b=some u->h'.get? b=some u):Inv X pins σ H {s with heap:=h',toks:=t'}:=I.un (Un.kept k) (I.hok.kept k)
theorem Inv.laid {a:Addr}{o:HO}{t':Nat}(I:Inv X pins σ H s)(k:∀b u,s.heap.get? b=some u->h'.get? b=some u)(hp:s.heap.objs.size<=a)(new:ObjOk X.prog X.w (upd H a o) h' a o) :
 Inv X pins σ (upd H a o) {s with heap:=h',toks:=t'}:=I.un (Un.laid k hp (I.hok.fresh hp)) (I.hok.laid k hp new)
theorem Inv.write {x e:Addr}{o:HO}{t':Nat}(I:Inv X pins σ H s)(mu:Mut (H x))(he:e=x\/H e=some (.own x))(k:∀b u,b≠e->s.heap.get? b=some u->h'.get? b=some u)(heo:∃u,h'.get? e=some u)
 (new:ObjOk X.prog X.w (upd H x o) h' x o):Inv X pins σ (upd H x o) {s with heap:=h',toks:=t'}:=I.un (Un.write mu he k heo) (I.hok.write mu he k heo new)
theorem Inv.pins_of {pins':List (Addr × Obj)}(I:Inv X pins σ H s)(h:∀p∈pins',s.heap.get? p.1=some p.2/\H p.1=none/\p.1≠X.env.locals/\p.1∉X.fs/\∀v,p.2.data≠.cell v):Inv X pins' σ H s:=
 ⟨I.ok,I.os,I.bare,I.base,I.loc,I.cell,I.free,I.freeC,fun p hp=>(List.mem_append.mp hp).elim (fun z=>I.pin p (List.mem_append_left _ z)) (h p),I.hok,I.len⟩
theorem zgU {N:List Str}(hN:N.Nodup){i j:Nat}{x:Str}(a:N[i]?=some x)(b:N[j]?=some x):i=j:=by
 obtain⟨h1,e1⟩:=List.getElem?_eq_some_iff.mp a
 obtain⟨h2,e2⟩:=List.getElem?_eq_some_iff.mp b
 exact (List.getElem_inj hN).mp (e1.trans e2.symm)
theorem ze1 {M:Model}{A:Around}{E:Value->Shared->Prop}{i:Nat}{x:Str}{v:V}{u:Value}{Q:Unit->Shared->Prop}(I:Inv X pins σ H s)(hN:X.N.Nodup)(hi:X.N[i]?=some x)(hx:Loc X.env.scope x)(r:RelV v u)
  (h:∀s',Inv X pins (σ.set i (some v)) H s'->(∃a,Heap.SameBut a s.heap s'.heap/\(a=X.env.locals\/X.env.cells.lookup x=some a))->Q () s') (hf:X.fn x=true\/X.env.scope.names.lookup x=some .local:=by first|exact .inl rfl|exact .inr rfl|assumption):wpAny M A (storeName X.env x u) Q E s:=by
 obtain⟨m,hn,hl⟩:=id I.loc
 have hcls:(X.env.scope.kind == .class || (X.env.scope.kind == .module&&X.env.locals != X.env.globals))=false:=by rw[I.ok.kind];rfl
 have hiσ:i<σ.length:=by rw[I.len];exact (List.getElem?_eq_some_iff.mp hi).1
 have cne:=I.cne
 have tracked:∀{a:Addr} {h':Heap},(∃o,s.heap.get? a=some o/\H a=none)->Heap.SameBut a s.heap h'->HOk X.prog X.w H h':=fun {a h'} ha hs b ob e=>by
  obtain⟨_,_,hfree⟩:=ha
  refine (I.hok b ob e).stay (fun c w' hc q=>(hs.2 c ?_).trans q) (fun _ q=>q) fun _ _ q=>q
  rintro rfl
  rcases hc with rfl|hc
  · rw[hfree] at e;cases e
  · rw[hfree] at hc;cases hc
 rcases hx with hk|hk
 · refine wpAny_storeName_local hk hn (fun h' hn' hs=>?_) hcls
   obtain⟨oL,_,_,hoL,_⟩:=id hn
   refine h _ ⟨I.ok,I.os,I.bare,⟨fun b o e n hb hx=>?_,fun b o e n hb hx=>?_,I.base.free,fun b o e hx=>?_,I.base.tups,I.base.frzs,I.base.tbls⟩,⟨_,hn',fun j y v' e1 e2 e3=>?_⟩,fun y c e=>?_,I.free,I.freeC,fun p hp=>?_,tracked ⟨oL,hoL,I.free⟩ hs,by simpa using I.len⟩ ⟨_,hs,.inl rfl⟩
   · exact (hs.2 b (Nat.ne_of_lt (Nat.lt_of_lt_of_le (Heap.lt_size e) I.ok.above))).trans (I.base.keep b o e n hb hx)
   · obtain⟨sl,e1⟩:=I.base.slot b o e n hb hx
     exact⟨sl,(hs.2 b (Nat.ne_of_lt (Nat.lt_of_lt_of_le (Heap.lt_size e) I.ok.above))).trans e1⟩
   · obtain⟨o',e1⟩:=I.base.there b o e hx
     exact⟨o',(hs.2 b (Nat.ne_of_lt (Nat.lt_of_lt_of_le (Heap.lt_size e) I.ok.above))).trans e1⟩
   · by_cases hj:j=i
     · subst hj
       rw[hi] at e1;cases e1
       rw[List.getElem?_set_self hiσ] at e2
       cases e2
       exact⟨u,r,.inl ⟨hk,by simp⟩⟩
     · rw[List.getElem?_set_ne (Ne.symm hj)] at e2
       obtain⟨u',r',q⟩:=hl j y v' e1 e2 e3
       refine⟨u',r',?_⟩
       rcases q with ⟨k,e⟩|⟨k,c,e,z⟩
       · refine .inl ⟨k,?_⟩
         have:y≠x:=fun e=>hj (zgU hN e1 (e▸hi))
         simp[this,e]
       · exact .inr ⟨k,c,e,z.sameBut hs (cne y c e)⟩
   · obtain⟨w',z⟩:=I.cell y c e
     exact⟨w',z.sameBut hs (cne y c e)⟩
   · obtain⟨e,n,ne,nf,d⟩:=I.pin p hp
     exact⟨(hs.2 p.1 ne).trans e,n,ne,nf,d⟩
 · have hfn:X.fn x=true:=by
    rcases hf with z|z
    · exact z
    · rw[z] at hk;cases hk
   obtain⟨c,hc⟩:=I.ok.has x (.inl hk)
   obtain⟨w',z⟩:=I.cell x c hc
   refine wpAny_storeName_cell I.ok.kind hk hc z (fun h' hc' hs=>?_)
   obtain⟨oc,hoc,hocd⟩:=id z
   refine h {s with heap:=h'} ⟨I.ok,I.os,I.bare,⟨fun b o e n hb hx=>?_,fun b o e n hb hx=>?_,I.base.free,fun b o e hx=>?_,I.base.tups,I.base.frzs,I.base.tbls⟩,⟨m,hn.sameBut hs (Ne.symm (cne x c hc)),fun j y v' e1 e2 e3=>?_⟩,fun y c' e=>?_,I.free,I.freeC,fun p hp=>?_,tracked ⟨oc,hoc,I.freeC x c hc⟩ hs,by simpa using I.len⟩ ⟨c,hs,.inr hc⟩
   · exact (hs.2 b (Nat.ne_of_lt (Nat.lt_of_lt_of_le (Heap.lt_size e) (I.ok.cab x c hfn hc)))).trans (I.base.keep b o e n hb hx)
   · obtain⟨sl,e1⟩:=I.base.slot b o e n hb hx
     exact⟨sl,(hs.2 b (Nat.ne_of_lt (Nat.lt_of_lt_of_le (Heap.lt_size e) (I.ok.cab x c hfn hc)))).trans e1⟩
   · obtain⟨o',e1⟩:=I.base.there b o e hx
     exact⟨o',(hs.2 b (Nat.ne_of_lt (Nat.lt_of_lt_of_le (Heap.lt_size e) (I.ok.cab x c hfn hc)))).trans e1⟩
   · by_cases hj:j=i
     · subst hj
       rw[hi] at e1;cases e1
       rw[List.getElem?_set_self hiσ] at e2
       cases e2
       exact⟨u,r,.inr ⟨.inl hk,c,hc,hc'⟩⟩
     · rw[List.getElem?_set_ne (Ne.symm hj)] at e2
       obtain⟨u',r',q⟩:=hl j y v' e1 e2 e3
       refine⟨u',r',?_⟩
       rcases q with q|⟨k,c',e,z'⟩
       · exact .inl q
       · refine .inr ⟨k,c',e,z'.sameBut hs ?_⟩
         rintro rfl
         exact hj (zgU hN e1 (I.ok.inj _ _ _ e hc▸hi))
   · by_cases hcc:c'=c
     · subst hcc;exact⟨_,hc'⟩
     · obtain⟨w2,z2⟩:=I.cell y c' e
       exact⟨w2,z2.sameBut hs hcc⟩
   · obtain⟨e,n,ne,nf,d⟩:=I.pin p hp
     refine⟨(hs.2 p.1 ?_).trans e,n,ne,nf,d⟩
     intro q
     rw[q,hoc] at e
     have q':oc=p.2:=Option.some.inj e
     exact d w' (by rw[<-q'];exact hocd)
theorem zgF {M:Model}{A:Around}{E:Value->Shared->Prop}{i:Nat}{x:Str}{v:V}{u:Value}{Q:Unit->Shared->Prop}(I:Inv X pins σ H s)(hN:X.N.Nodup)(hi:X.N[i]?=some x)(hx:Loc X.env.scope x)(r:RelV v u)
  (h:∀s',Inv X pins (σ.set i (some v)) H s'->Q () s') (hf:X.fn x=true\/X.env.scope.names.lookup x=some .local:=by first|exact .inl rfl|exact .inr rfl|assumption):wpAny M A (storeName X.env x u) Q E s:=
 ze1 I hN hi hx r (fun s' I' _=>h s' I') hf
theorem Inv.call' {s':Shared}{ch:List Addr}(I:Inv X pins σ H s)(ho:s'.os=s.os)(u:Un (frs X.stack) ch H H' s.heap s'.heap)(hok:HOk X.prog X.w H' s'.heap)(hg:AllBare s'.gens)
  (hch:∀b∈ch,(b∈X.ex\/X.s₀.heap.objs.size<=b)/\b≠X.env.locals/\(∀x c,X.env.cells.lookup x=some c->c≠b)/\∀p∈X.pn++pins,p.1≠b):Inv X pins σ H' s':=by
 obtain⟨h',g',d',t',o'⟩:=s'
 have e:o'=s.os:=ho
 subst e
 exact I.call (g':=g') (t':=t') (d':=d') u hok hg hch
end
noncomputable abbrev XK:=Value->Option Addr->Hp->Prop
noncomputable abbrev St:=List (Option V)
noncomputable abbrev VK:=V->Hp->Prop
noncomputable abbrev TE:=St->Hp->VK->Prop
noncomputable abbrev TT:=St->Hp->(Bool->Hp->Prop)->Prop
noncomputable abbrev TA:=St->Hp->(List V->Hp->Prop)->Prop
structure Ends where
 nx:St->Hp->Prop
 rt:VK
 bk:St->Hp->Prop:=fun _ _=>False
 ct:St->Hp->Prop:=fun _ _=>False
noncomputable abbrev TS:=Ends->St->Hp->Prop
noncomputable def EP (X:Cx)(pins:List (Addr × Obj))(σ:St)(Q:VK)(u:Value)(s':Shared):Prop:=∃v H',Inv X pins σ H' s'/\RelV v u/\Q v H'
noncomputable def TP (X:Cx)(pins:List (Addr × Obj))(σ:St)(Q:Bool->Hp->Prop)(b:Bool)(s':Shared):Prop:=∃H',Inv X pins σ H' s'/\Q b H'
noncomputable def AP (X:Cx)(pins:List (Addr × Obj))(σ:St)(Q:List V->Hp->Prop)(us:List Value)(s':Shared):Prop:=∃vs H',Inv X pins σ H' s'/\Vals vs us/\Q vs H'
noncomputable def SP (X:Cx)(pins:List (Addr × Obj))(D:Ends)(f:Flow)(s':Shared):Prop:=
 match f with
 |.next=>∃σ' H',Inv X pins σ' H' s'/\D.nx σ' H'
 |.brk=>∃σ' H',Inv X pins σ' H' s'/\D.bk σ' H'
 |.cont=>∃σ' H',Inv X pins σ' H' s'/\D.ct σ' H'
 |.ret u=>∃v σ' H',Inv X pins σ' H' s'/\RelV v u/\D.rt v H'
noncomputable def PE (X:Cx)(e:Expr)(t:TE):Prop:=
 ∀(pins:List (Addr × Obj)) (s:Shared) (σ:St) (H:Hp) (Q:VK),Inv X pins σ H s->t σ H Q->wpAny (model X.prog X.w) X.A (eval e X.env) (EP X pins σ Q) X.xe s
noncomputable def PT (X:Cx)(e:Expr)(t:TT):Prop:=
 ∀(pins:List (Addr × Obj)) (s:Shared) (σ:St) (H:Hp) (Q:Bool->Hp->Prop),Inv X pins σ H s->t σ H Q->wpAny (model X.prog X.w) X.A (isTrue e X.env (eval e X.env)) (TP X pins σ Q) X.xe s
noncomputable def PW (X:Cx)(e:Expr)(t:TT):Prop:=
 ∀(whole:Sem Value) (pins:List (Addr × Obj)) (s:Shared) (σ:St) (H:Hp) (Q:Bool->Hp->Prop),Inv X pins σ H s->t σ H Q->wpAny (model X.prog X.w) X.A (isTrue e X.env whole) (TP X pins σ Q) X.xe s
theorem PW.pt {X:Cx}{e:Expr}{t:TT}(h:PW X e t):PT X e t:=h _
noncomputable def PA (X:Cx)(es:List Expr)(t:TA):Prop:=
 ∀(pos:Pos) (pins:List (Addr × Obj)) (s:Shared) (σ:St) (H:Hp) (Q:List V->Hp->Prop),Inv X pins σ H s->t σ H Q->wpAny (model X.prog X.w) X.A (spliced (backTo pos (starEach es X.env))) (AP X pins σ Q) X.xe s
noncomputable def PS (X:Cx)(st:Stmt)(t:TS):Prop:=
 ∀(pins:List (Addr × Obj)) (s:Shared) (σ:St) (H:Hp) (D:Ends),Inv X pins σ H s->t D σ H->wpAny (model X.prog X.w) X.A (exec st X.env) (SP X pins D) X.xe s
noncomputable def PSs (X:Cx)(st:List Stmt)(t:TS):Prop:=
 ∀(pins:List (Addr × Obj)) (s:Shared) (σ:St) (H:Hp) (D:Ends),Inv X pins σ H s->t D σ H->wpAny (model X.prog X.w) X.A (execs st X.env) (SP X pins D) X.xe s
theorem thn {α:Type}{t:Sem α}{Q Q':α->Shared->Prop}{M:Model}{A:Around}{E:Value->Shared->Prop}{s:Shared}(h:wpAny M A t Q E s)(hQ:∀a s,Q a s->Q' a s):wpAny M A t Q' E s:=wpAny_mono h hQ fun _ _ x=>x
end L2
namespace L2
open PySem PySem.Spec PyProof.Rows
section
variable {X:Cx}
theorem bin {a b:Expr}{ta tb:TE}(ha:PE X a ta)(hb:PE X b tb){pins:List (Addr × Obj)}{s:Shared}{σ:St}{H:Hp}{R:V->V->Hp->Prop}(I:Inv X pins σ H s)(h:ta σ H fun x H1=>tb σ H1 fun y H2=>R x y H2)
  {α:Type} {Q:α->Shared->Prop} {f:Value->Value->Sem α}
  (hf:∀v u s2 x y H2,Inv X pins σ H2 s2->RelV x v->RelV y u->R x y H2->wpAny (model X.prog X.w) X.A (f v u) Q X.xe s2) :
  wpAny (model X.prog X.w) X.A (eval a X.env) (fun v s₁=>wpAny (model X.prog X.w) X.A (eval b X.env) (fun u s₂=>wpAny (model X.prog X.w) X.A (f v u) Q X.xe s₂) X.xe s₁) X.xe s:=by
 refine thn (ha pins s σ H _ I h) fun v s1 ⟨x,H1,I1,r1,q1⟩=>?_
 refine thn (hb pins s1 σ H1 _ I1 q1) fun u s2 ⟨y,H2,I2,r2,q2⟩=>?_
 exact hf v u s2 x y H2 I2 r1 r2 q2
noncomputable def tVar (i:Nat):TE:=fun σ H Q=>∃v,σ[i]?=some (some v)/\Q v H
noncomputable def tC (v:V):TE:=fun _ H Q=>Q v H
theorem zfk {i:Nat}{x:Str}{pos:Pos}(hN:X.N[i]?=some x)(hv:Vis X.env.scope x)(hd:(x == ("__debug__":Str))=false:=by decide)(hcd:(x == ("__classdict__":Str))=false:=by decide):PE X (.Name x pos) (tVar i):=by
 intro pins s σ H Q I h
 obtain⟨v,e,h⟩:=h
 obtain⟨m,hn,hl⟩:=I.loc
 obtain⟨u,r,l⟩:=hl i x v hN e hv
 have fin:EP X pins σ Q u s:=⟨v,H,I,r,h⟩
 rcases l with ⟨hk,hm⟩|⟨hk,c,hc,hcell⟩
 · exact wpAny_Name (wpAny_loadName_local I.ok.kind hk hn hm fin) hd
 · rcases hk with hk|hk
   · exact wpAny_Name (wpAny_loadName_cell I.ok.kind hk hc hcell fin) hd
   · exact wpAny_Name (wpAny_loadName_free I.ok.kind hk hc hcell fin hcd) hd
theorem ziQ {i j pos}:PE X (.Constant (.int i) j pos) (tC (.int i)):=fun _ _ _ H _ I h=>wpAny_Constant_int ⟨.int i,H,I.tok _,⟨_,rfl⟩,h⟩
theorem zqe {b j pos}:PE X (.Constant (.bool b) j pos) (tC (.bl b)):=fun _ _ _ H _ I h=>Constant_bool ⟨.bl b,H,I,rfl,h⟩
theorem zlr {j pos}:PE X (.Constant .none j pos) (tC .non):=fun _ _ _ H _ I h=>Constant_none ⟨.non,H,I,rfl,h⟩
theorem zoL {x j pos}:PE X (.Constant (.str x) j pos) (tC (.str x)):=fun _ _ _ H _ I h=>Calls.Constant_str ⟨.str x,H,I.tok _,⟨_,rfl⟩,h⟩
noncomputable def Gl (X:Cx)(x:Str):Prop:=X.env.kindOf x=some .globalImplicit
theorem zdD {E:Value->Shared->Prop}{pins:List (Addr × Obj)}{s:Shared}{σ:St}{H:Hp}{x:Str}{u:Value}{pos:Pos}{Q:Value->Shared->Prop}(I:Inv X pins σ H s)(hg:Gl X x)(hm:X.mg x=some u)(h:Q u s)
  (hd:(x == ("__debug__":Str))=false:=by decide):wpAny (model X.prog X.w) X.A (eval (.Name x pos) X.env) Q E s:=
 Calls.Name_function_global I.ok.kind hg (Calls.loadGlobal_global (by rw[I.ok.glob];exact I.mod.glob.keeps I.bk) hm h) hd
theorem zdE {E:Value->Shared->Prop}{pins:List (Addr × Obj)}{s:Shared}{σ:St}{H:Hp}{x:Str}{u:Value}{pos:Pos}{Q:Value->Shared->Prop}(I:Inv X pins σ H s)(hg:Gl X x)(hm:X.mg x=none)(hv:bootBuiltins x=some u)(h:Q u s)
  (hn:x≠"__name__":=by decide) (hd:(x == ("__debug__":Str))=false:=by decide):wpAny (model X.prog X.w) X.A (eval (.Name x pos) X.env) Q E s:=by
 obtain⟨mb,h1,h2⟩:=I.mod.blt
 exact Calls.Name_function_global I.ok.kind hg (Calls.loadGlobal_builtin (by rw[I.ok.glob];exact I.mod.glob.keeps I.bk) hm (by rw[I.ok.blt];exact h1.keeps I.bk) ((h2 x hn).trans hv) h) hd
theorem zf8 {x:Str}{v:V}{u:Value}{pos:Pos}(hg:Gl X x)(hm:X.mg x=some u)(r:RelV v u)(hd:(x == ("__debug__":Str))=false:=by decide):PE X (.Name x pos) (tC v):=
 fun _ _ _ H _ I h=>zdD I hg hm ⟨v,H,I,r,h⟩ hd
theorem zmO {x:Str}{v:V}{u:Value}{pos:Pos}(hg:Gl X x)(hm:X.mg x=none)(hv:bootBuiltins x=some u)(r:RelV v u)(hn:x≠"__name__":=by decide)(hd:(x == ("__debug__":Str))=false:=by decide):PE X (.Name x pos) (tC v):=
 fun _ _ _ H _ I h=>zdE I hg hm hv ⟨v,H,I,r,h⟩ hn hd
variable {a b:Expr} {ta tb:TE} {pos:Pos}
theorem RelV.none_iff {x:V}{v:Value}(r:RelV x v):(v == Value.none)=decide (x=.non):=by
 cases x with
 |non=>cases r;rfl
 |bl _=>cases r;rfl
 |int _=>obtain⟨t,rfl⟩:=r;rfl
 |str _=>obtain⟨t,rfl⟩:=r;rfl
 |byt _=>obtain⟨t,rfl⟩:=r;rfl
 |flt _=>obtain⟨t,rfl⟩:=r;rfl
 |ref _=>cases r;rfl
 |ty _=>cases r;rfl
variable {tA tB':TT} {rest:List Expr}
noncomputable def tAnd (t u:TT):TT:=fun σ H Q=>t σ H fun c H1=>if c=true then u σ H1 Q else Q false H1
noncomputable def tOr (t u:TT):TT:=fun σ H Q=>t σ H fun c H1=>if c=true then Q true H1 else u σ H1 Q
noncomputable def tNot (t:TT):TT:=fun σ H Q=>t σ H fun c H1=>Q (!c) H1
theorem zmx (ha:PT X a tA):PW X (.BoolOp .And [a] pos) tA:=by
 intro wh pins s σ H Q I h
 refine isTrue_and (thn (ha pins s σ H Q I h) fun c s1 e=>?_)
 cases c with
 |true=>exact isTrue_and_nil e
 |false=>exact e
theorem zoA (ha:PT X a tA):PW X (.BoolOp .Or [a] pos) tA:=by
 intro wh pins s σ H Q I h
 refine isTrue_or (thn (ha pins s σ H Q I h) fun c s1 e=>?_)
 cases c with
 |false=>exact isTrue_or_nil e
 |true=>exact e
theorem zoB (ha:PT X a tA)(hb:PW X (.BoolOp .And (b::rest) pos) tB'):PW X (.BoolOp .And (a::b::rest) pos) (tAnd tA tB'):=by
 intro wh pins s σ H Q I h
 refine isTrue_and (thn (ha pins s σ H _ I h) fun c s1 ⟨H1,I1,q1⟩=>?_)
 cases c with
 |true=>exact hb wh pins s1 σ H1 Q I1 q1
 |false=>exact⟨H1,I1,q1⟩
theorem zqa (ha:PT X a tA)(hb:PW X (.BoolOp .Or (b::rest) pos) tB'):PW X (.BoolOp .Or (a::b::rest) pos) (tOr tA tB'):=by
 intro wh pins s σ H Q I h
 refine isTrue_or (thn (ha pins s σ H _ I h) fun c s1 ⟨H1,I1,q1⟩=>?_)
 cases c with
 |true=>exact⟨H1,I1,q1⟩
 |false=>exact hb wh pins s1 σ H1 Q I1 q1
theorem zoC (ha:PT X a tA):PT X (.UnaryOp .Not a pos) (tNot tA):=by
 intro pins s σ H Q I h
 exact isTrue_not (ha pins s σ H (fun c H1=>Q (!c) H1) I h)
noncomputable def zpZ (ta tb:TE):TE:=fun σ H Q=>ta σ H fun x H1=>∃c,x=.bl c/\if c=true then tb σ H1 Q else Q (.bl false) H1
noncomputable def tOrV (ta tb:TE):TE:=fun σ H Q=>ta σ H fun x H1=>∃c,x=.bl c/\if c=true then Q (.bl true) H1 else tb σ H1 Q
noncomputable def zpX (ta:TE):TE:=fun σ H Q=>ta σ H fun x H1=>∃c,x=.bl c/\Q (.bl (!c)) H1
theorem zlq {op}{t:TE}(h:PE X a t):PE X (.BoolOp op [a] pos) t:=fun pins s σ H Q I hw=>BoolOp_one (h pins s σ H Q I hw)
theorem zoU (ha:PE X a ta)(hb:PE X (.BoolOp .And (b::rest) pos) tb):PE X (.BoolOp .And (a::b::rest) pos) (zpZ ta tb):=by
 intro pins s σ H Q I h
 refine BoolOp_and (thn (ha pins s σ H _ I h) fun v s1 ⟨x,H1,I1,r1,q1⟩=>?_)
 obtain⟨c,rfl,q1⟩:=q1
 cases r1
 refine wpAny_truthy_bool ?_
 cases c with
 |true=>exact hb pins s1 σ H1 Q I1 q1
 |false=>exact⟨.bl false,H1,I1,rfl,q1⟩
theorem zqc (ha:PE X a ta)(hb:PE X (.BoolOp .Or (b::rest) pos) tb):PE X (.BoolOp .Or (a::b::rest) pos) (tOrV ta tb):=by
 intro pins s σ H Q I h
 refine BoolOp_or (thn (ha pins s σ H _ I h) fun v s1 ⟨x,H1,I1,r1,q1⟩=>?_)
 obtain⟨c,rfl,q1⟩:=q1
 cases r1
 refine wpAny_truthy_bool ?_
 cases c with
 |false=>exact hb pins s1 σ H1 Q I1 q1
 |true=>exact⟨.bl true,H1,I1,rfl,q1⟩
theorem zoN (ha:PE X a ta):PE X (.UnaryOp .Not a pos) (zpX ta):=by
 intro pins s σ H Q I h
 refine UnaryOp_ (thn (ha pins s σ H _ I h) fun v s1 ⟨x,H1,I1,r1,q1⟩=>?_)
 obtain⟨c,rfl,q1⟩:=q1
 cases r1
 exact not_of (wpAny_truthy_bool ⟨.bl (!c),H1,I1,rfl,q1⟩)
noncomputable def tIf (t:TT)(ta tb:TE):TE:=fun σ H Q=>t σ H fun c H1=>if c=true then ta σ H1 Q else tb σ H1 Q
theorem zks {c:Expr}(hc:PT X c tA)(ha:PE X a ta)(hb:PE X b tb):PE X (.IfExp c a b pos) (tIf tA ta tb):=by
 intro pins s σ H Q I h
 refine wpAny_IfExp (thn (hc pins s σ H _ I h) fun d s1 ⟨H1,I1,q1⟩=>?_)
 cases d with
 |true=>exact ha pins s1 σ H1 Q I1 q1
 |false=>exact hb pins s1 σ H1 Q I1 q1
end
end L2
namespace L2
open PySem PySem.Spec PyProof.Rows
noncomputable def SqL (K:PySem.W.Frag)(H:Hp)(a:Addr)(xs:List V):Prop:=
 Rd H a (.lst xs)\/
  ∃(o:Obj) (its:Array Value) (n:Nat),K.lookup a=some o/\o.cls=.type "list"/\o.dict=none/\o.data=.seq its n/\its.size<=sizeLine/\Vals xs its.toList
noncomputable def SqT (K:PySem.W.Frag)(H:Hp)(a:Addr)(xs:List V):Prop:=
 Rd H a (.tup xs)\/
  ∃(o:Obj) (its:Array Value) (n:Nat),K.lookup a=some o/\o.cls=.type "tuple"/\o.data=.seq its n/\its.size<=sizeLine/\Vals xs its.toList
noncomputable def absV:Value->Option V
 |.none=>some .non
 |.bool b=>some (.bl b)
 |.int i _=>some (.int i)
 |.str x _=>some (.str x)
 |.bytes b _=>some (.byt b)
 |.float b _=>some (.flt b)
 |.ref a=>some (.ref a)
 |.type n=>some (.ty n)
 |_=>none
theorem RelV.abs {x:V}{u:Value}(r:RelV x u):absV u=some x:=by
 cases x with
 |non=>cases r;rfl
 |bl _=>cases r;rfl
 |int _=>obtain⟨t,rfl⟩:=r;rfl
 |str _=>obtain⟨t,rfl⟩:=r;rfl
 |byt _=>obtain⟨t,rfl⟩:=r;rfl
 |flt _=>obtain⟨t,rfl⟩:=r;rfl
 |ref _=>cases r;rfl
 |ty _=>cases r;rfl
theorem RelV.inj {x y:V}{u:Value}(r:RelV x u)(q:RelV y u):x=y:=Option.some.inj (r.abs.symm.trans q.abs)
theorem Vals.inj:∀{xs ys:List V} {us:List Value},Vals xs us->Vals ys us->xs=ys
 |_,_,_,.nil,.nil=>rfl
 |_,_,_,.cons r t,.cons r' t'=>by rw[r.inj r',Vals.inj t t']
section
variable {X:Cx} {pins:List (Addr × Obj)} {σ:St} {H:Hp} {s:Shared} {a:Addr} {xs ys:List V}
theorem SqL.of {K:PySem.W.Frag}(h:H a=some (.lst xs)):SqL K H a xs:=.inl (.inl h)
theorem SqT.of {K:PySem.W.Frag}(h:H a=some (.tup xs)):SqT K H a xs:=.inl (.inl h)
theorem Inv.list (I:Inv X pins σ H s)(h:SqL X.K H a xs):∃its:List Value,Vals xs its/\PlainL s.heap a its.toArray/\xs.length<=sizeLine:=by
 rcases h with h|⟨o,its,n,hk,hc,hd,hs,hz,r⟩
 · obtain⟨z,its,n,r,e⟩:=h.ok I.hok
   exact⟨its,r,⟨_,n,e,rfl,rfl,rfl⟩,z⟩
 · refine⟨its.toList,r,⟨o,n,I.kIn a o hk,hc,hd,by simpa using hs⟩,?_⟩
   have e:=r.length
   simp only[Array.length_toList] at e
   omega
theorem Inv.tuple (I:Inv X pins σ H s)(h:SqT X.K H a xs):∃its:List Value,Vals xs its/\IsTup s.heap a its.toArray/\xs.length<=sizeLine:=by
 rcases h with h|⟨o,its,n,hk,hc,hs,hz,r⟩
 · obtain⟨z,its,r,p⟩:=h.ok I.hok
   exact⟨its,r,p,z⟩
 · refine⟨its.toList,r,⟨o,I.kIn a o hk,hc,n,by simpa using hs⟩,?_⟩
   have e:=r.length
   simp only[Array.length_toList] at e
   omega
theorem Inv.list_inj (I:Inv X pins σ H s)(h:SqL X.K H a xs)(h':SqL X.K H a ys):xs=ys:=by
 obtain⟨its,r,⟨o,n,e,_,_,d⟩,_⟩:=I.list h
 obtain⟨its',r',⟨o',n',e',_,_,d'⟩,_⟩:=I.list h'
 rw[e] at e';cases e'
 rw[d] at d'
 injection d' with d1 _
 have:its=its':=by simpa using congrArg Array.toList d1
 subst this
 exact r.inj r'
theorem Inv.tuple_inj (I:Inv X pins σ H s)(h:SqT X.K H a xs)(h':SqT X.K H a ys):xs=ys:=by
 obtain⟨its,r,⟨o,e,_,n,d⟩,_⟩:=I.tuple h
 obtain⟨its',r',⟨o',e',_,n',d'⟩,_⟩:=I.tuple h'
 rw[e] at e';cases e'
 rw[d] at d'
 injection d' with d1 _
 have:its=its':=by simpa using congrArg Array.toList d1
 subst this
 exact r.inj r'
end
noncomputable abbrev Cx.wish (X:Cx)(E:Value->Shared->Prop):Cx:={X with xe:=E}
noncomputable abbrev Cx.nox (X:Cx):Cx:=X.wish fun _ _=>False
theorem Cx.Ok.wish {X:Cx}(ok:X.Ok)(E:Value->Shared->Prop):(X.wish E).Ok:=
 ⟨ok.mod,ok.kind,ok.glob,ok.blt,ok.above,ok.inj,ok.has,ok.cab,ok.hd,ok.frames,ok.stk,ok.exf,ok.bs,ok.bsz,ok.noex,ok.exfs,ok.funs,ok.frf⟩
theorem Cx.Ok.unwish {X:Cx}{E:Value->Shared->Prop}(ok:(X.wish E).Ok):X.Ok:=
 ⟨ok.mod,ok.kind,ok.glob,ok.blt,ok.above,ok.inj,ok.has,ok.cab,ok.hd,ok.frames,ok.stk,ok.exf,ok.bs,ok.bsz,ok.noex,ok.exfs,ok.funs,ok.frf⟩
section
variable {X:Cx} {pins:List (Addr × Obj)} {σ:St} {H:Hp} {s:Shared} {E:Value->Shared->Prop}
theorem Inv.wish (I:Inv X pins σ H s)(E:Value->Shared->Prop):Inv (X.wish E) pins σ H s:=⟨I.ok.wish E,I.os,I.bare,I.base,I.loc,I.cell,I.free,I.freeC,I.pin,I.hok,I.len⟩
theorem Inv.unwish (I:Inv (X.wish E) pins σ H s):Inv X pins σ H s:=⟨I.ok.unwish,I.os,I.bare,I.base,I.loc,I.cell,I.free,I.freeC,I.pin,I.hok,I.len⟩
theorem SP.unwish {D:Ends}{f:Flow}{s':Shared}(h:SP (X.wish E) pins D f s'):SP X pins D f s':=by
 cases f with
 |next=>obtain⟨σ',H',I,q⟩:=h;exact⟨σ',H',I.unwish,q⟩
 |brk=>obtain⟨σ',H',I,q⟩:=h;exact⟨σ',H',I.unwish,q⟩
 |cont=>obtain⟨σ',H',I,q⟩:=h;exact⟨σ',H',I.unwish,q⟩
 |ret u=>obtain⟨v,σ',H',I,r,q⟩:=h;exact⟨v,σ',H',I.unwish,r,q⟩
theorem PE.nox {e:Expr}{t:TE}(h:PE X.nox e t):PE X e t:=fun pins s σ H Q I hw=>
 wpAny_mono (h pins s σ H Q (I.wish _) hw) (fun _ _ ⟨v,H',I',r,q⟩=>⟨v,H',I'.unwish,r,q⟩) fun _ _ z=>False.elim z
theorem PSs.nox {st:List Stmt}{t:TS}(h:PSs X.nox st t):PSs X st t:=fun pins s σ H D I hw=>
 wpAny_mono (h pins s σ H D (I.wish _) hw) (fun _ _ q=>q.unwish) fun _ _ z=>False.elim z
end
section
variable {X:Cx} {st:Stmt} {rest:List Stmt} {t u:TS} {e:Expr} {te:TE} {pos:Pos}
noncomputable def znT:TS:=fun D σ H=>D.nx σ H
noncomputable def tSeq (t u:TS):TS:=fun D σ H=>t {D with nx:=u D} σ H
theorem ziI:PSs X [] znT:=fun _ _ σ H _ I h=>wpAny_execs_nil ⟨σ,H,I,h⟩
theorem zbl (h1:PS X st t)(h2:PSs X rest u):PSs X (st::rest) (tSeq t u):=by
 intro pins s σ H D I h
 refine wpAny_execs_cons (thn (h1 pins s σ H {D with nx:=u D} I h) fun f s1 q=>?_)
 cases f with
 | next =>
   obtain⟨σ',H',I',q⟩:=q
   exact h2 pins s1 σ' H' D I' q
 |ret v=>exact q
 |brk=>exact q
 |cont=>exact q
theorem zf6 (h1:PS X st t):PSs X [st] t:=by
 intro pins s σ H D I h
 refine wpAny_execs_cons (thn (h1 pins s σ H D I h) fun f s1 q=>?_)
 cases f with
 |next=>exact wpAny_execs_nil q
 |ret v=>exact q
 |brk=>exact q
 |cont=>exact q
theorem Inv.quiet {pins:List (Addr × Obj)}{σ:St}{H:Hp}{s:Shared}(I:Inv X pins σ H s):interactive X.env=false:=by simp[interactive,I.ok.kind]
noncomputable def zpY (te:TE):TS:=fun D σ H=>te σ H fun _ H1=>D.nx σ H1
theorem zmC (he:PE X e te)(hs:swapsWith e none pos.line X.env=pure false:=by rfl):PS X (.Expr e pos) (zpY te):=by
 intro pins s σ H D I h
 exact wpAny_Expr_any (thn (he pins s σ H _ I h) fun v s1 ⟨x,H1,I1,r1,q1⟩=>⟨σ,H1,I1,q1⟩) I.quiet hs
noncomputable def tRet (te:TE):TS:=fun D σ H=>te σ H D.rt
theorem zlo (he:PE X e te):PS X (.Return (some e) pos) (tRet te):=by
 intro pins s σ H D I h
 exact wpAny_Return_some (thn (he pins s σ H _ I h) fun v s1 ⟨x,H1,I1,r1,q1⟩=>⟨x,σ,H1,I1,r1,q1⟩)
noncomputable def tIfS (c:TT)(t u:TS):TS:=fun D σ H=>c σ H fun b H1=>if b=true then t D σ H1 else u D σ H1
theorem zoD {c:Expr}{a b:List Stmt}{tc:TT}(hc:PT X c tc)(ha:PSs X a t)(hb:PSs X b u):PS X (.If c a b pos) (tIfS tc t u):=by
 intro pins s σ H D I h
 refine wpAny_If (thn (hc pins s σ H _ I h) fun d s1 ⟨H1,I1,q1⟩=>?_)
 cases d with
 |true=>exact ha pins s1 σ H1 D I1 q1
 |false=>exact hb pins s1 σ H1 D I1 q1
end
noncomputable abbrev TG:=V->St->Hp->(St->Hp->Prop)->Prop
noncomputable abbrev TGs:=List V->St->Hp->(St->Hp->Prop)->Prop
noncomputable def PG (X:Cx)(target:Expr)(t:TG):Prop:=
 ∀(pins:List (Addr × Obj)) (s:Shared) (σ:St) (H:Hp) (v:V) (u:Value) (Q:St->Hp->Prop),Inv X pins σ H s->RelV v u->t v σ H Q->
  wpAny (model X.prog X.w) X.A (assign target X.env u) (fun _ s'=>∃σ' H',Inv X pins σ' H' s'/\Q σ' H') X.xe s
noncomputable def PGs (X:Cx)(ts:List Expr)(t:TGs):Prop:=
 ∀(pins:List (Addr × Obj)) (s:Shared) (σ:St) (H:Hp) (vs:List V) (us:List Value) (Q:St->Hp->Prop),Inv X pins σ H s->Vals vs us->t vs σ H Q->
  wpAny (model X.prog X.w) X.A (assignInOrder ((assignEach ts X.env).map (·.2)) us) (fun _ s'=>∃σ' H',Inv X pins σ' H' s'/\Q σ' H') X.xe s
section
variable {X:Cx} {pos:Pos}
noncomputable def zeO (i:Nat):TG:=fun v σ H Q=>Q (σ.set i (some v)) H
theorem zf7 {i:Nat}{x:Str}(hN:X.N.Nodup)(hi:X.N[i]?=some x)(hx:Loc X.env.scope x)(hf:X.fn x=true\/X.env.scope.names.lookup x=some .local:=by first|exact .inl rfl|exact .inr rfl|assumption):PG X (.Name x pos) (zeO i):=by
 intro pins s σ H v u Q I r h
 exact wpAny_assign_Name (zgF I hN hi hx r (fun s' I'=>⟨_,H,I',h⟩) hf)
noncomputable def gNil:TGs:=fun vs σ H Q=>vs=[]/\Q σ H
noncomputable def zqu (t:TG)(u:TGs):TGs:=fun vs σ H Q=>∃v r,vs=v::r/\t v σ H fun σ' H'=>u r σ' H' Q
theorem zmJ:PGs X [] gNil:=by
 intro pins s σ H vs us Q I r h
 obtain⟨e,h⟩:=h
 subst e
 cases r
 exact assignInOrder_nil ⟨σ,H,I,h⟩
theorem zkl {e:Expr}{es:List Expr}{t:TG}{u:TGs}(h1:PG X e t)(h2:PGs X es u)
  (hs:(assignEach (e::es) X.env).map (·.2)=assign e X.env::(assignEach es X.env).map (·.2):=by rfl):PGs X (e::es) (zqu t u):=by
 intro pins s σ H vs us Q I r h
 obtain⟨v,vr,e1,h⟩:=h
 subst e1
 cases r with
 | cons r rr =>
   rw[hs]
   refine assignInOrder_cons (thn (h1 pins s σ H _ _ _ I r h) fun _ s1 ⟨σ1,H1,I1,q1⟩=>?_)
   exact h2 pins s1 σ1 H1 _ _ Q I1 rr q1
noncomputable def gTup (K:PySem.W.Frag)(n:Nat)(t:TGs):TG:=fun v σ H Q=>∃a xs,v=.ref a/\SqT K H a xs/\xs.length=n/\t xs σ H Q
theorem zoJ {es:List Expr}{k:Nat}{t:TGs}{n:Nat}(hc:X.calm=true)(h:PGs X es t)
  (hn:(assignEach es X.env).length=n:=by rfl) (hst:(assignEach es X.env).findIdx? (·.1)=none:=by rfl):PG X (.Tuple es k pos) (gTup X.K n t):=by
 intro pins s σ H v u Q I r hw
 obtain⟨a,xs,e1,hq,hl,hw⟩:=hw
 subst e1
 cases r
 obtain⟨its,rv,ht,hz⟩:=I.tuple hq
 refine assign_Tuple_tuple (I.ok.hd hc) ht (by simp[hn,<-hl,rv.length]) hst fun h' hx=>?_
 have I1:Inv X pins σ H {s with heap:=h'}:=I.kept (t':=s.toks) fun b o e=>hx b o (Nat.ne_of_lt (Heap.lt_size e)) e
 exact h pins _ σ H xs _ Q I1 (by simpa using rv) hw
noncomputable def tAsg (te:TE)(g:TG):TS:=fun D σ H=>te σ H fun x H1=>g x σ H1 D.nx
theorem zoF {tg e:Expr}{te:TE}{g:TG}(he:PE X e te)(hg:PG X tg g)(hs:swapsWithSole [tg] e pos.line X.env=pure false:=by rfl)(hw:swappedStores [tg] e X.env=pure none:=by rfl)
  (h1:(assignEach [tg] X.env).map (·.2)=[assign tg X.env]:=by rfl):PS X (.Assign [tg] e pos) (tAsg te g):=by
 intro pins s σ H D I h
 refine wpAny_Assign_stores (thn (he pins s σ H _ I h) fun v s1 ⟨x,H1,I1,r1,q1⟩=>?_) hs hw
 rw[h1]
 exact thn (hg pins s1 σ H1 x v _ I1 r1 q1) fun _ s2 q=>q
theorem ziJ {i:Nat}{x:Str}{e:Expr}{te:TE}{pos':Pos}(hN:X.N.Nodup)(hi:X.N[i]?=some x)(hx:Loc X.env.scope x)(he:PE X e te)(hs:swapsWith e (some (.Name x pos')) pos.line X.env=pure false:=by rfl)(hf:X.fn x=true\/X.env.scope.names.lookup x=some .local:=by first|exact .inl rfl|exact .inr rfl|assumption) :
  PS X (.Assign [.Name x pos'] e pos) (tAsg te (zeO i)):=by
 intro pins s σ H D I h
 refine wpAny_Assign_Name (thn (he pins s σ H _ I h) fun v s1 ⟨y,H1,I1,r1,q1⟩=>?_) hs
 exact zgF I1 hN hi hx r1 (fun s2 I2=>⟨_,H1,I2,q1⟩) hf
end
section
variable {X:Cx} {pos:Pos}
end
structure It where
 go:Nat->Hp->Prop
 yld:Nat->Hp->V->Hp->Prop
 stop:Nat->Hp->Prop
noncomputable def FpOk (X:Cx)(pins:List (Addr × Obj))(H:Hp)(b:Addr):Prop:=
 H b=none/\b≠X.env.locals/\b∉X.fs/\(b∈X.ex\/X.s₀.heap.objs.size<=b)/\(∀x c,X.env.cells.lookup x=some c->c≠b)/\∀p∈X.pn++pins,p.1≠b
theorem Inv.fpOk {X:Cx}{pins:List (Addr × Obj)}{σ:St}{H H':Hp}{s:Shared}{b:Addr}(I:Inv X pins σ H s)(hb:s.heap.objs.size<=b)(hn:H' b=none):FpOk X pins H' b:=by
 refine⟨hn,Nat.ne_of_gt (Nat.lt_of_lt_of_le I.lt hb),I.nofs hb,.inr (Nat.le_trans I.sz hb),fun x c e z=>?_,fun p hp z=>?_⟩
 · obtain⟨v,q⟩:=I.cell x c e
   exact absurd (Nat.lt_of_lt_of_le q.lt (by rw[z];exact hb)) (Nat.lt_irrefl _)
 · exact absurd (Nat.lt_of_lt_of_le (Heap.lt_size (I.pin p hp).1) (by rw[z];exact hb)) (Nat.lt_irrefl _)
structure Turn (P:Program) (w:World) (K:PySem.W.Frag) (tg:Expr) (J:It) (fp:List Addr) (it:Addr) (tn:Nat->Heap->Prop):Prop where
 mem:it∈fp
 obj:∀i h,tn i h->∀b∈fp,∃o,h.get? b=some o/\∀v,o.data≠.cell v
 keep:∀i h h',tn i h->(∀b∈fp,∀o,h.get? b=some o->h'.get? b=some o)->tn i h'
 item:∀(X:Cx),X.prog=P->X.w=w->X.K=K->X.calm=true->∀(i:Nat) (pins:List (Addr × Obj)) (s:Shared) (σ:St) (H:Hp) (E:Value->Shared->Prop),Inv X pins σ H s->(∀b∈fp,FpOk X pins H b)->tn i s.heap->J.go i H->
  wpAny (model P w) X.A (pyNext (.ref it)) (fun r s1=>∃u,r=some u/\
   wpAny (model P w) X.A (letOwnedTupleGo tg (.ref it) u) (fun _ s2=>∃x H',Inv X pins σ H' s2/\RelV x u/\J.yld i H x H'/\tn (i+1) s2.heap/\∀b∈fp,H' b=none) E s1) E s
 done:∀(X:Cx),X.prog=P->X.w=w->X.K=K->X.calm=true->∀(i:Nat) (pins:List (Addr × Obj)) (s:Shared) (σ:St) (H:Hp) (E:Value->Shared->Prop),Inv X pins σ H s->(∀b∈fp,FpOk X pins H b)->tn i s.heap->J.stop i H->
  wpAny (model P w) X.A (pyNext (.ref it)) (fun r s1=>r=none/\Inv X pins σ H s1) E s
 self:∀(A:Around) (i:Nat) (s:Shared) (Q:Value->Shared->Prop) (E:Value->Shared->Prop),tn i s.heap->Q (.ref it) s->wpAny (model P w) A (pyIter (.ref it)) Q E s
noncomputable abbrev TI:=St->Hp->(It->Hp->Prop)->Prop
noncomputable def PIE (X:Cx)(pins:List (Addr × Obj))(σ:St)(tg:Expr)(R:It->Hp->Prop)(itv:Value)(s2:Shared):Prop:=
 ∃(it:Addr) (fp:List Addr) (tn:Nat->Heap->Prop) (J:It) (H':Hp),itv=.ref it/\Inv X pins σ H' s2/\Turn X.prog X.w X.K tg J fp it tn/\tn 0 s2.heap/\(∀b∈fp,FpOk X pins H' b)/\R J H'
noncomputable def PI (X:Cx)(tg iter:Expr)(wi:TI):Prop:=
 ∀(pins:List (Addr × Obj)) (s:Shared) (σ:St) (H:Hp) (R:It->Hp->Prop),Inv X pins σ H s->wi σ H R->
  wpAny (model X.prog X.w) X.A (eval iter X.env) (fun v s1=>wpAny (model X.prog X.w) X.A (pyIter v) (PIE X pins σ tg R) X.xe s1) X.xe s
theorem zng {M:Model}{A:Around}{E:Value->Shared->Prop}{s:Shared}{tg:Expr}{it:Addr}{u:Value}{o:Obj}{n:String}{vs:Array Value}{Q:Unit->Shared->Prop}(ho:s.heap.get? it=some o)(hc:o.cls=.type n)(hd:o.data=.fields vs)
  (hn:["enumerate","zip","dict_itemiterator","dict_reverseitemiterator","odict_iterator","itertools.zip_longest","itertools.pairwise"].contains n=false) (hQ:Q () s):wpAny M A (letOwnedTupleGo tg (.ref it) u) Q E s:=by
 unfold letOwnedTupleGo
 cases tg<;>first
  |exact wpAny_pure hQ
  |(cases u<;>first
   |exact wpAny_pure hQ
   | (refine wpAny_bind (wpAny_load ho ?_)
      rw[hc,hd]
      show wpAny M A (if (["enumerate","zip","dict_itemiterator","dict_reverseitemiterator","odict_iterator","itertools.zip_longest","itertools.pairwise"].contains n&&vs[0]? == some (rawInt _))=true then _ else _) Q E s
      rw[if_neg (by intro h;rw[hn,Bool.false_and] at h;cases h)]
      exact wpAny_pure hQ))
noncomputable def Itl (K:PySem.W.Frag)(a:Addr):It:=
 ⟨fun i H=>∃xs x,SqL K H a xs/\xs[i]?=some x,fun i H x H'=>H'=H/\∀xs,SqL K H a xs->xs[i]?=some x,fun i H=>∃xs,SqL K H a xs/\xs.length<=i⟩
noncomputable def Itt (K:PySem.W.Frag)(a:Addr):It:=
 ⟨fun i H=>∃xs x,SqT K H a xs/\xs[i]?=some x,fun i H x H'=>H'=H/\∀xs,SqT K H a xs->xs[i]?=some x,fun i H=>∃xs,SqT K H a xs/\xs.length<=i⟩
noncomputable def Itr (lo:Int)(n:Nat):It:=⟨fun i _=>i<n,fun i H x H'=>H'=H/\x=.int (lo+i),fun i _=>n<=i⟩
theorem ze0 {P:Program}{w:World}{K:PySem.W.Frag}{tg:Expr}(a it:Addr):Turn P w K tg (Itl K a) [it] it (fun i h=>h.IsListIter it a i) where
 mem:=by simp
 obj:=fun i h st b hb=>by
  have e:b=it:=by simpa using hb
  subst e
  obtain⟨o,e,c,d⟩:=st
  exact⟨o,e,fun v z=>by rw[d] at z;cases z⟩
 keep:=fun i h h' st k=>st.at fun o e=>k it (by simp) o e
 item:=by
  intro X hP hw hK hc i pins s σ H E I hf st hg
  subst hP hw hK
  obtain⟨xs,x,hq,hx⟩:=hg
  obtain⟨its,rv,p,hz⟩:=I.list hq
  obtain⟨u,hu,ru⟩:=rv.get hx
  obtain⟨f0,f1,f2,f3,f4,f5⟩:=hf it (by simp)
  refine wpAny_pyNext_list_item st p.isList (x:=u) (by simpa using hu) fun h' st' sb=>?_
  have I1:Inv X pins σ H {s with heap:=h'}:=I.turned (t':=s.toks) (fun b o hb e=>(sb.2 b hb).trans e) f0 f1 f3 f4 f5
  obtain⟨o,e,c,d⟩:=id st'
  exact⟨u,rfl,zng (s:={s with heap:=h'}) e c d (by decide) ⟨x,H,I1,ru,⟨rfl,fun ys hy=>by rw[I.list_inj hy hq];exact hx⟩,st',fun b hb=>(hf b hb).1⟩⟩
 done:=by
  intro X hP hw hK hc i pins s σ H E I hf st hg
  subst hP hw hK
  obtain⟨xs,hq,hx⟩:=hg
  obtain⟨its,rv,p,hz⟩:=I.list hq
  obtain⟨f0,f1,f2,f3,f4,f5⟩:=hf it (by simp)
  have hl:=rv.length
  exact wpAny_pyNext_list_end (I.ok.hd hc) st p.isList (by simp;omega) fun h' eb=>⟨rfl,I.turned (t':=s.toks) (fun b o hb e=>eb b o hb e) f0 f1 f3 f4 f5⟩
 self:=fun _ _ _ _ _ st h=>wpAny_pyIter_listiter st h
theorem zht {P:Program}{w:World}{K:PySem.W.Frag}{tg:Expr}(a it:Addr):Turn P w K tg (Itt K a) [it] it (fun i h=>h.IsTupleIter it a i) where
 mem:=by simp
 obj:=fun i h st b hb=>by
  have e:b=it:=by simpa using hb
  subst e
  obtain⟨o,e,c,d⟩:=st
  exact⟨o,e,fun v z=>by rw[d] at z;cases z⟩
 keep:=fun i h h' st k=>st.at fun o e=>k it (by simp) o e
 item:=by
  intro X hP hw hK hc i pins s σ H E I hf st hg
  subst hP hw hK
  obtain⟨xs,x,hq,hx⟩:=hg
  obtain⟨its,rv,p,hz⟩:=I.tuple hq
  obtain⟨u,hu,ru⟩:=rv.get hx
  obtain⟨f0,f1,f2,f3,f4,f5⟩:=hf it (by simp)
  refine wpAny_pyNext_tuple_item st (show s.heap.IsTuple a its.toArray from p) (x:=u) (by simpa using hu) fun h' st' sb=>?_
  have I1:Inv X pins σ H {s with heap:=h'}:=I.turned (t':=s.toks) (fun b o hb e=>(sb.2 b hb).trans e) f0 f1 f3 f4 f5
  obtain⟨o,e,c,d⟩:=id st'
  exact⟨u,rfl,zng (s:={s with heap:=h'}) e c d (by decide) ⟨x,H,I1,ru,⟨rfl,fun ys hy=>by rw[I.tuple_inj hy hq];exact hx⟩,st',fun b hb=>(hf b hb).1⟩⟩
 done:=by
  intro X hP hw hK hc i pins s σ H E I hf st hg
  subst hP hw hK
  obtain⟨xs,hq,hx⟩:=hg
  obtain⟨its,rv,p,hz⟩:=I.tuple hq
  obtain⟨f0,f1,f2,f3,f4,f5⟩:=hf it (by simp)
  have hl:=rv.length
  exact wpAny_pyNext_tuple_end (I.ok.hd hc) st (show s.heap.IsTuple a its.toArray from p) (by simp;omega) fun h' eb=>⟨rfl,I.turned (t':=s.toks) (fun b o hb e=>eb b o hb e) f0 f1 f3 f4 f5⟩
 self:=fun _ _ _ _ _ st h=>wpAny_pyIter_tupleiter st h
theorem zhu {P:Program}{w:World}{K:PySem.W.Frag}{tg:Expr}(it:Addr)(lo:Int)(n:Nat):Turn P w K tg (Itr lo n) [it] it (fun i h=>IsRangeIter h it (lo+(i:Nat) * 1) ((n:Int) - (i:Nat)) 1) where
 mem:=by simp
 obj:=fun i h st b hb=>by
  have e:b=it:=by simpa using hb
  subst e
  exact⟨_,st,fun v z=>by
   have z':Data.fields _=Data.cell v:=z
   cases z'⟩
 keep:=fun i h h' st k=>k it (by simp) _ st
 item:=by
  intro X hP hw hK hc i pins s σ H E I hf st hg
  subst hP hw hK
  obtain⟨f0,f1,f2,f3,f4,f5⟩:=hf it (by simp)
  have W:=Walks.range (prog:=X.prog) (w:=X.w) (I.ok.hd hc) it lo 1 n
  refine W.item i s _ _ hg st fun v h' tk hv st' kk=>?_
  obtain⟨t,rfl⟩:=hv
  have I1:Inv X pins σ H {s with heap:=h',toks:=tk}:=I.turned (fun b o hb e=>kk b o (by simpa using hb) e) f0 f1 f3 f4 f5
  refine⟨_,rfl,zng (s:={s with heap:=h',toks:=tk}) (n:="range_iterator") st' rfl rfl (by decide) ⟨.int (lo+i),H,I1,⟨t,?_⟩,⟨rfl,rfl⟩,st',fun b hb=>(hf b hb).1⟩⟩
  rw[Int.mul_one]
 done:=by
  intro X hP hw hK hc i pins s σ H E I hf st hg
  subst hP hw hK
  obtain⟨f0,f1,f2,f3,f4,f5⟩:=hf it (by simp)
  exact wpAny_pyNext_range_end (I.ok.hd hc) st (by have:n<=i:=hg;omega) fun h' eb=>⟨rfl,I.turned (t':=s.toks) (fun b o hb e=>eb b o hb e) f0 f1 f3 f4 f5⟩
 self:=fun _ _ _ _ _ st h=>wpAny_pyIter_rangeiter st h
end L2
namespace L2
open PySem PySem.Spec PyProof.Rows
section
variable {X:Cx} {tg:Expr}
noncomputable def zna (K:PySem.W.Frag)(tl:TE):TI:=fun σ H R=>tl σ H fun x H1=>∃a,x=.ref a/\(∃xs,SqL K H1 a xs)/\R (Itl K a) H1
theorem zmI {l:Expr}{tl:TE}(hl:PE X l tl):PI X tg l (zna X.K tl):=by
 intro pins s σ H R I h
 refine thn (hl pins s σ H _ I h) fun v s1 ⟨x,H1,I1,r1,q1⟩=>?_
 obtain⟨a,e,⟨xs,hq⟩,q⟩:=q1
 subst e
 cases r1
 obtain⟨its,rv,p,hz⟩:=I1.list hq
 refine wpAny_pyIter_list p.isList ?_
 refine⟨s1.heap.objs.size,[s1.heap.objs.size],_,_,H1,rfl,I1.kept (t':=s1.toks) fun b o e=>Heap.get?_push_of_some _ e,ze0 a _,⟨_,Heap.get?_push_size _ rfl,rfl,rfl⟩,fun b hb=>?_,q⟩
 have e:b=s1.heap.objs.size:=by simpa using hb
 subst e
 exact I1.fpOk (Nat.le_refl _) (I1.hok.fresh (Nat.le_refl _))
theorem zgN {pins:List (Addr × Obj)}{σ:St}{H:Hp}{s:Shared}{R:It->Hp->Prop}{E:Value->Shared->Prop}{lo hi:Int}{t u v:Tok}{tk:Nat}(I:Inv X pins σ H s)(h1:-(2 ^ 62)<=lo)(h2:lo<2 ^ 62)(h3:-(2 ^ 62)<=hi)(h4:hi<2 ^ 62)
  (q:R (Itr lo (hi - lo).toNat) H):wpAny (model X.prog X.w) X.A (pyIter (.ref s.heap.objs.size)) (PIE X pins σ tg R) E {s with heap:=s.heap.push {cls:=.type "range",data:=.fields #[.int lo t,.int hi u,.int 1 v]},toks:=tk}:=by
 refine wpAny_pyIter_range (IsRange.new ..) (small_one h1 h2 h3 h4) ?_
 have I1:Inv X pins σ H {s with heap:=s.heap.push {cls:=.type "range",data:=.fields #[.int lo t,.int hi u,.int 1 v]},toks:=tk}:=I.kept fun b o e=>Heap.get?_push_of_some _ e
 refine⟨(s.heap.push {cls:=.type "range",data:=.fields #[.int lo t,.int hi u,.int 1 v]}).objs.size,[(s.heap.push {cls:=.type "range",data:=.fields #[.int lo t,.int hi u,.int 1 v]}).objs.size],_,_,H,rfl,
  I1.kept (t':=tk) fun b o e=>Heap.get?_push_of_some _ e,zhu _ lo (hi - lo).toNat,?_,fun b hb=>?_,q⟩
 · have e1:lo+((0:Nat):Int) * 1=lo:=by simp
   have e2:(((hi - lo).toNat:Nat):Int) - ((0:Nat):Int)=Builtin.Range.rangeSize lo hi 1:=by rw[rangeSize_one];split<;>omega
   show IsRangeIter _ _ (lo+((0:Nat):Int) * 1) ((((hi - lo).toNat:Nat):Int) - ((0:Nat):Int)) 1
   rw[e1,e2]
   exact Heap.get?_push_size _ rfl
 · have e:b=(s.heap.push {cls:=.type "range",data:=.fields #[.int lo t,.int hi u,.int 1 v]}).objs.size:=by simpa using hb
   subst e
   exact I1.fpOk (Nat.le_refl _) (I1.hok.fresh (Nat.le_refl _))
noncomputable def zqs (ta:TA):TI:=fun σ H R=>ta σ H fun vs H1=>∃j:Int,vs=[.int j]/\-(2 ^ 62)<=j/\j<2 ^ 62/\R (Itr 0 j.toNat) H1
noncomputable def zqr (ta:TA):TI:=fun σ H R=>ta σ H fun vs H1=>∃i j:Int,vs=[.int i,.int j]/\(-(2 ^ 62)<=i/\i<2 ^ 62/\-(2 ^ 62)<=j/\j<2 ^ 62)/\R (Itr i (j - i).toNat) H1
theorem ziO {a:Expr}{ta:TA}{p pos:Pos}(hg:Gl X "range")(hm:X.mg "range"=none)(ha:PA X [a] ta)(hs:starEach [a] X.env=[(false,eval a X.env)]:=by rfl):PI X tg (.Call (.Name "range" p) [a] [] pos) (zqs ta):=by
 intro pins s σ H R I h
 refine Call_ (zdE I hg hm boot_range (PyProof.Rows.callWith_type1 (thn (ha pos pins s σ H _ I h) fun us s1 ⟨vs,H1,I1,r1,q1⟩=>?_) hs rfl))
 obtain⟨j,e,q1,q2,q⟩:=q1
 subst e
 cases r1 with
 | cons r rr =>
   cases rr
   obtain⟨t,rfl⟩:=r
   exact call_range_1 (zgN I1 (by omega) (by omega) q1 q2 (by simpa using q))
theorem ziN {a b:Expr}{ta:TA}{p pos:Pos}(hg:Gl X "range")(hm:X.mg "range"=none)(ha:PA X [a,b] ta)(hs:starEach [a,b] X.env=[(false,eval a X.env),(false,eval b X.env)]:=by rfl)(hs2:starEach [b] X.env=[(false,eval b X.env)]:=by rfl) :
  PI X tg (.Call (.Name "range" p) [a,b] [] pos) (zqr ta):=by
 intro pins s σ H R I h
 refine Call_ (zdE I hg hm boot_range (PyProof.Rows.callWith_type1 (thn (ha pos pins s σ H _ I h) fun us s1 ⟨vs,H1,I1,r1,q1⟩=>?_) (by rw[hs,hs2]) (by rw[hs2];rfl)))
 obtain⟨i,j,e,⟨q1,q2,q3,q4⟩,q⟩:=q1
 subst e
 cases r1 with
 | cons r rr =>
   cases rr with
   | cons r' rr =>
     cases rr
     obtain⟨t,rfl⟩:=r
     obtain⟨t',rfl⟩:=r'
     exact call_range_2 (zgN I1 q1 q2 q3 q4 q)
noncomputable def tFor (wi:TI)(g:TG)(tb:TS):TS:=fun D σ H=>wi σ H fun J H1=>∃W:Nat->Nat->St->Hp->Prop,(∃m,W 0 m σ H1)/\∀i m σ H,W i m σ H->
 (J.stop i H/\D.nx σ H)\/(J.go i H/\∃N:St->Hp->Prop,(∀σ' H',N σ' H'->∃m',m'<m/\W (i+1) m' σ' H')/\∀x H',J.yld i H x H'->g x σ H' fun σ2 H2=>tb {D with nx:=N,ct:=N,bk:=D.nx} σ2 H2)
noncomputable def zfj (fp:List Addr)(h:Heap):List (Addr × Obj):=fp.filterMap fun b=>(h.get? b).map fun o=>(b,o)
theorem zcl {fp:List Addr}{h:Heap}{b:Addr}{o:Obj}(hb:b∈fp)(e:h.get? b=some o):(b,o)∈zfj fp h:=List.mem_filterMap.mpr ⟨b,hb,by rw[e];rfl⟩
theorem ziU {fp:List Addr}{h:Heap}{p:Addr × Obj}(hp:p∈zfj fp h):p.1∈fp/\h.get? p.1=some p.2:=by
 obtain⟨b,hb,e⟩:=List.mem_filterMap.mp hp
 cases q:h.get? b with
 |none=>rw[q] at e;cases e
 | some o =>
   rw[q] at e
   have e':(b,o)=p:=Option.some.inj e
   subst e'
   exact⟨hb,q⟩
theorem Inv.pinned {pins:List (Addr × Obj)}{σ:St}{H:Hp}{s:Shared}{fp:List Addr}(I:Inv X pins σ H s)(hf:∀b∈fp,FpOk X pins H b)(ho:∀b∈fp,∃o,s.heap.get? b=some o/\∀v,o.data≠.cell v):Inv X (pins++zfj fp s.heap) σ H s:=
 I.pins_of fun p hp=>(List.mem_append.mp hp).elim (fun z=>I.pin p (List.mem_append_right _ z)) fun z=>by
  obtain⟨hb,e⟩:=ziU z
  obtain⟨f0,f1,f2,_⟩:=hf p.1 hb
  obtain⟨o,e',d⟩:=ho p.1 hb
  rw[e] at e';cases e'
  exact⟨e,f0,f1,f2,d⟩
theorem Inv.unpinned {pins pl:List (Addr × Obj)}{σ:St}{H:Hp}{s:Shared}(I:Inv X (pins++pl) σ H s):Inv X pins σ H s:=I.pins_of fun p hp=>I.pin p (List.mem_append_right _ (List.mem_append_left _ hp))
theorem zlp {iter:Expr}{body:List Stmt}{wi:TI}{g:TG}{tb:TS}{pos:Pos}(hp:PassesOwn (model X.prog X.w) X.A X.env X.xe)(hc:X.calm=true)(hi:PI X tg iter wi)(hg:PG X tg g)(hb:PSs X body tb)
  (hs:∀x,foldedSetIterable iter X.env x=pure x:=by intro _;rfl):PS X (.For tg iter body [] pos) (tFor wi g tb):=by
 intro pins s σ H D I h
 refine wpAny_For (thn (hi pins s σ H _ I h) fun v s1 h1=>thn h1 fun itv s2 h2=>?_) hs
 obtain⟨it,fp,tn,J,H2,e,I2,T,st2,f2,W,⟨m0,w0⟩,turn⟩:=h2
 subst e
 -- what stays true of the iterator's objects through the loop
 have stat:∀{H':Hp},(∀b∈fp,H' b=none)->∀b∈fp,FpOk X pins H' b:=fun hn b hb=>⟨hn b hb,(f2 b hb).2⟩
 refine codeAny_forLoop_any (fun n s'=>∃i σ' H',Inv X pins σ' H' s'/\tn i s'.heap/\(∀b∈fp,H' b=none)/\W i n σ' H') ?_ m0 ⟨0,σ,H2,I2,st2,fun b hb=>(f2 b hb).1,w0⟩
 rintro n s3 ⟨i,σ3,H3,I3,st3,fr3,w3⟩
 rcases turn i n σ3 H3 w3 with ⟨stop,qn⟩|⟨go,N,hN,step⟩
 · refine wpAny_passesOwn hp (thn (T.done X rfl rfl rfl hc i pins s3 σ3 H3 X.xe I3 (stat fr3) st3 stop) fun r s4 ⟨hr,I4⟩=>?_)
   subst hr
   exact wpAny_execs_nil ⟨σ3,H3,I4,qn⟩
 · refine wpAny_passesOwn hp (thn (T.item X rfl rfl rfl hc i pins s3 σ3 H3 X.xe I3 (stat fr3) st3 go) fun r s4 ⟨u,hr,h4⟩=>?_)
   subst hr
   refine wpAny_passesOwn hp (thn h4 fun _ s5 ⟨x,H5,I5,r5,y5,st5,fr5⟩=>?_)
   have I5':=I5.pinned (stat fr5) (T.obj _ _ st5)
   refine wpAny_passesOwn hp (thn (hg _ s5 σ3 H5 x u _ I5' r5 (step x H5 y5)) fun _ s6 ⟨σ6,H6,I6,q6⟩=>?_)
   refine wpAny_passesOwn hp (thn (hb _ s6 σ6 H6 _ I6 q6) fun f s7 q7=>?_)
   have again:∀{σ7:St} {H7:Hp},Inv X (pins++zfj fp s5.heap) σ7 H7 s7->N σ7 H7->∃m,m<n/\∃i σ' H',Inv X pins σ' H' s7/\tn i s7.heap/\(∀b∈fp,H' b=none)/\W i m σ' H':=fun {σ7 H7} I7 n7=>by
    obtain⟨m',hm,w7⟩:=hN σ7 H7 n7
    refine⟨m',hm,i+1,σ7,H7,I7.unpinned,T.keep _ _ _ st5 fun b hb o e=>(I7.pin (b,o) (List.mem_append_right _ (List.mem_append_right _ (zcl hb e)))).1,fun b hb=>?_,w7⟩
    obtain⟨o,e,d⟩:=T.obj _ _ st5 b hb
    exact (I7.pin (b,o) (List.mem_append_right _ (List.mem_append_right _ (zcl hb e)))).2.1
   cases f with
   |next=>obtain⟨σ7,H7,I7,n7⟩:=q7;exact again I7 n7
   |cont=>obtain⟨σ7,H7,I7,n7⟩:=q7;exact again I7 n7
   |brk=>obtain⟨σ7,H7,I7,q7⟩:=q7;exact⟨σ7,H7,I7.unpinned,q7⟩
   |ret v=>obtain⟨x7,σ7,H7,I7,r7,q7⟩:=q7;exact⟨x7,σ7,H7,I7.unpinned,r7,q7⟩
end
theorem zkV {K:PySem.W.Frag}{a:Addr}{xs:List V}{g:TG}{tb:TS}{D:Ends}{σ:St}{H:Hp}(Pv:Nat->St->Hp->Prop)(h0:Pv 0 σ H)(hl:∀i σ H,i<=xs.length->Pv i σ H->SqL K H a xs)
  (hs:∀i x σ H,xs[i]?=some x->Pv i σ H->g x σ H fun σ2 H2=>tb {D with nx:=Pv (i+1),ct:=Pv (i+1),bk:=D.nx} σ2 H2) (hd:∀σ H,Pv xs.length σ H->D.nx σ H) :
  ∃W:Nat->Nat->St->Hp->Prop,(∃m,W 0 m σ H)/\∀i m σ H,W i m σ H->
   ((Itl K a).stop i H/\D.nx σ H)\/((Itl K a).go i H/\∃N:St->Hp->Prop,(∀σ' H',N σ' H'->∃m',m'<m/\W (i+1) m' σ' H')/\∀x H',(Itl K a).yld i H x H'->g x σ H' fun σ2 H2=>tb {D with nx:=N,ct:=N,bk:=D.nx} σ2 H2):=by
 refine⟨fun i m σ H=>m=xs.length - i/\i<=xs.length/\Pv i σ H,⟨xs.length,by simp,Nat.zero_le _,h0⟩,?_⟩
 rintro i m σ H ⟨rfl,hi,p⟩
 have q:=hl i σ H hi p
 by_cases hlt:i<xs.length
 · refine .inr ⟨⟨xs,xs[i],q,by simp[hlt]⟩,Pv (i+1),fun σ' H' p'=>⟨xs.length - (i+1),by omega,rfl,hlt,p'⟩,fun x H' y=>?_⟩
   obtain⟨e,y⟩:=y
   subst e
   exact hs i x σ _ (y xs q) p
 · have e:i=xs.length:=by omega
   subst e
   exact .inl ⟨⟨xs,q,Nat.le_refl _⟩,hd σ H p⟩
end L2
namespace L2
open PySem PySem.Spec PyProof.Rows
noncomputable abbrev R2:=V->V->Hp->VK->Prop
noncomputable def OpR (X:Cx)(f:Value->Value->Sem Value)(r:R2):Prop:=
 ∀(pins:List (Addr × Obj)) (s:Shared) (σ:St) (H:Hp) (x y:V) (v u:Value) (Q:VK),Inv X pins σ H s->RelV x v->RelV y u->r x y H Q->
  wpAny (model X.prog X.w) X.A (f v u) (EP X pins σ Q) X.xe s
noncomputable def UnR (X:Cx)(f:Value->Sem Value)(r:V->Hp->VK->Prop):Prop:=
 ∀(pins:List (Addr × Obj)) (s:Shared) (σ:St) (H:Hp) (x:V) (v:Value) (Q:VK),Inv X pins σ H s->RelV x v->r x H Q->
  wpAny (model X.prog X.w) X.A (f v) (EP X pins σ Q) X.xe s
noncomputable def zbB (X:Cx)(f:Value)(r:List V->Hp->VK->Prop):Prop:=
 ∀(pins:List (Addr × Obj)) (s:Shared) (σ:St) (H:Hp) (xs:List V) (us:List Value) (Q:VK),Inv X pins σ H s->Vals xs us->r xs H Q->
  wpAny (model X.prog X.w) X.A (call f us) (EP X pins σ Q) X.xe s
noncomputable def TruR (X:Cx)(r:V->Hp->(Bool->Hp->Prop)->Prop):Prop:=
 ∀(pins:List (Addr × Obj)) (s:Shared) (σ:St) (H:Hp) (x:V) (v:Value) (Q:Bool->Hp->Prop),Inv X pins σ H s->RelV x v->r x H Q->
  wpAny (model X.prog X.w) X.A (truthy v) (TP X pins σ Q) X.xe s
noncomputable def tOp (r:R2)(ta tb:TE):TE:=fun σ H Q=>ta σ H fun x H1=>tb σ H1 fun y H2=>r x y H2 Q
noncomputable def tUn (r:V->Hp->VK->Prop)(ta:TE):TE:=fun σ H Q=>ta σ H fun x H1=>r x H1 Q
noncomputable def rI (C:Int->Int->Prop)(g:Int->Int->V):R2:=fun x y H Q=>∃i j,x=.int i/\y=.int j/\C i j/\Q (g i j) H
noncomputable def rI0 (g:Int->Int->V):R2:=fun x y H Q=>∃i j,x=.int i/\y=.int j/\Q (g i j) H
noncomputable def rU (g:Int->V):V->Hp->VK->Prop:=fun x H Q=>∃i,x=.int i/\Q (g i) H
section
variable {X:Cx} {a b c:Expr} {ta tb tc:TE} {pos:Pos}
theorem binT (ha:PE X a ta)(hb:PE X b tb){pins:List (Addr × Obj)}{s:Shared}{σ:St}{H:Hp}{R:V->V->Hp->Prop}(I:Inv X pins σ H s)
  (h:ta σ H fun x H1=>tb σ H1 fun y H2=>R x y H2) {Q:Value->Shared->Prop} {f:Value->Value->Sem Value}
  (hf:∀v u s2 x y H2,Inv X pins σ H2 s2->RelV x v->RelV y u->R x y H2->wpAny (model X.prog X.w) X.A (f v u) Q X.xe s2) :
  wpAny (model X.prog X.w) X.A (eval a X.env) (fun v s₁=>wpAny (model X.prog X.w) X.A (eval b X.env) (fun u s₂=>wpAny (model X.prog X.w) X.A (f v u) Q X.xe s₂) X.xe s₁) X.xe s:=by
 refine thn (ha pins s σ H _ I h) fun v s1 ⟨x,H1,I1,r1,q1⟩=>?_
 refine thn (hb pins s1 σ H1 _ I1 q1) fun u s2 ⟨y,H2,I2,r2,q2⟩=>?_
 exact hf v u s2 x y H2 I2 r1 r2 q2
theorem zoM {op:Operator}{r:R2}(ho:OpR X (binaryOp op) r)(ha:PE X a ta)(hb:PE X b tb):PE X (.BinOp a op b pos) (tOp r ta tb):=by
 intro pins s σ H Q I h
 exact wpAny_BinOp (binT ha hb I h fun v u s2 x y H2 I2 rx ry q=>ho pins s2 σ H2 x y v u Q I2 rx ry q)
theorem zqb {op:UnaryOp}{r:V->Hp->VK->Prop}(ho:UnR X (unaryOp op) r)(ha:PE X a ta):PE X (.UnaryOp op a pos) (tUn r ta):=by
 intro pins s σ H Q I h
 exact UnaryOp_ (thn (ha pins s σ H _ I h) fun v s1 ⟨x,H1,I1,r1,q1⟩=>ho pins s1 σ H1 x v Q I1 r1 q1)
theorem opI {f:Value->Value->Sem Value}{C:Int->Int->Prop}{g:Int->Int->Int}
  (rule:∀(i j:Int) (t u:Tok) (s:Shared) (Q:Value->Shared->Prop) (E:Value->Shared->Prop),C i j->Q (.int (g i j) s.toks) {s with toks:=s.toks+1}->wpAny (model X.prog X.w) X.A (f (.int i t) (.int j u)) Q E s) :
  OpR X f (rI C fun i j=>.int (g i j)):=by
 intro pins s σ H x y v u Q I rx ry h
 obtain⟨i,j,rfl,rfl,hc,q⟩:=h
 obtain⟨t,rfl⟩:=rx
 obtain⟨t',rfl⟩:=ry
 exact rule i j t t' s _ _ hc ⟨.int (g i j),H,I.tok _,⟨_,rfl⟩,q⟩
theorem opI0 {f:Value->Value->Sem Value}{g:Int->Int->Int}
  (rule:∀(i j:Int) (t u:Tok) (s:Shared) (Q:Value->Shared->Prop) (E:Value->Shared->Prop),Q (.int (g i j) s.toks) {s with toks:=s.toks+1}->wpAny (model X.prog X.w) X.A (f (.int i t) (.int j u)) Q E s) :
  OpR X f (rI0 fun i j=>.int (g i j)):=by
 intro pins s σ H x y v u Q I rx ry h
 obtain⟨i,j,rfl,rfl,q⟩:=h
 obtain⟨t,rfl⟩:=rx
 obtain⟨t',rfl⟩:=ry
 exact rule i j t t' s _ _ ⟨.int (g i j),H,I.tok _,⟨_,rfl⟩,q⟩
theorem opB0 {f:Value->Value->Sem Value}{g:Int->Int->Bool}
  (rule:∀(i j:Int) (t u:Tok) (s:Shared) (Q:Value->Shared->Prop) (E:Value->Shared->Prop),Q (.bool (g i j)) s->wpAny (model X.prog X.w) X.A (f (.int i t) (.int j u)) Q E s) :
  OpR X f (rI0 fun i j=>.bl (g i j)):=by
 intro pins s σ H x y v u Q I rx ry h
 obtain⟨i,j,rfl,rfl,q⟩:=h
 obtain⟨t,rfl⟩:=rx
 obtain⟨t',rfl⟩:=ry
 exact rule i j t t' s _ _ ⟨.bl (g i j),H,I,rfl,q⟩
noncomputable def CDiv (i j:Int):Prop:=0<j/\j<1073741824
noncomputable def CPow (i j:Int):Prop:=0<=j/\j<=1000000/\i.natAbs<2 ^ 64
noncomputable def CMul (i j:Int):Prop:=(-(2 ^ 64)<i/\i<2 ^ 64)\/(-(2 ^ 64)<j/\j<2 ^ 64)
theorem CMul.ok {i j:Int}(h:CMul i j):IntMulOk i j:=by
 rcases h with ⟨h1,h2⟩|⟨h1,h2⟩
 · exact .of_left (intBits_le_64 h1 h2)
 · exact .of_right (intBits_le_64 h1 h2)
theorem zlt:OpR X (binaryOp .Add) (rI0 fun i j=>.int (i+j)):=opI0 fun _ _ _ _ _ _ _ q=>add_int q
theorem zoW:OpR X (binaryOp .Sub) (rI0 fun i j=>.int (i - j)):=opI0 fun _ _ _ _ _ _ _ q=>sub_int q
theorem zoZ:OpR X (binaryOp .Mult) (rI CMul fun i j=>.int (i * j)):=opI fun _ _ _ _ _ _ _ hc q=>mul_int q hc.ok
theorem zmR:OpR X (binaryOp .FloorDiv) (rI CDiv fun i j=>.int (i / j)):=opI fun i j _ _ _ _ _ hc q=>by
 have h1:(0:Int)<j:=hc.1
 have h2:j<1073741824:=hc.2
 exact floordiv_int (by omega) (by rw[Int.fdiv_eq_ediv_of_nonneg i (by omega)];exact q) (.inl (PyProof.noPylong_small (by omega)))
theorem zo0:OpR X (binaryOp .Mod) (rI (fun _ j=>0<j) fun i j=>.int (i % j)):=opI fun i j _ _ _ _ _ hc q=>by
 have h1:(0:Int)<j:=hc
 exact mod_int' (by omega) (by rw[Int.fmod_eq_emod_of_nonneg i (by omega)];exact q)
theorem zoX:OpR X (binaryOp .Pow) (rI CPow fun i j=>.int (i ^ j.toNat)):=opI fun _ _ _ _ _ _ _ hc q=>pow_int_small hc.1 hc.2.1 hc.2.2 q
theorem unI {f:Value->Sem Value}{g:Int->Int}
  (rule:∀(i:Int) (t:Tok) (s:Shared) (Q:Value->Shared->Prop) (E:Value->Shared->Prop),Q (.int (g i) s.toks) {s with toks:=s.toks+1}->wpAny (model X.prog X.w) X.A (f (.int i t)) Q E s) :
  UnR X f (rU fun i=>.int (g i)):=by
 intro pins s σ H x v Q I rx h
 obtain⟨i,rfl,q⟩:=h
 obtain⟨t,rfl⟩:=rx
 exact rule i t s _ _ ⟨.int (g i),H,I.tok _,⟨_,rfl⟩,q⟩
theorem znL:UnR X (unaryOp .USub) (rU fun i=>.int (-i)):=unI fun _ _ _ _ _ q=>neg_int q
end
noncomputable def scal:V->V->Bool
 |.non,.non=>true|.non,.int _=>true|.int _,.non=>true|.non,.bl _=>true|.bl _,.non=>true|.non,.str _=>true|.str _,.non=>true
 |.int _,.int _=>true|.bl _,.bl _=>true|.str _,.str _=>true|.byt _,.byt _=>true
 |.int _,.str _=>true|.str _,.int _=>true|.bl _,.str _=>true|.str _,.bl _=>true
 |_,_=>false
noncomputable def rEq:R2:=fun x y H Q=>scal x y=true/\Q (.bl (decide (x=y))) H
noncomputable def rNe:R2:=fun x y H Q=>scal x y=true/\Q (.bl (!decide (x=y))) H
theorem zju {i j:Int}:decide (V.int i=V.int j)=(i == j):=by
 rw[Bool.eq_iff_iff]
 simp
theorem zlD {i j:Bool}:decide (V.bl i=V.bl j)=(i == j):=by
 rw[Bool.eq_iff_iff]
 simp
theorem zjt {i j:Str}:decide (V.str i=V.str j)=(i == j):=by
 rw[Bool.eq_iff_iff]
 simp
theorem zjv {i j:Array UInt8}:decide (V.byt i=V.byt j)=(i.toList == j.toList):=by
 rw[Bool.eq_iff_iff]
 cases i
 cases j
 simp
section
variable {X:Cx} {a b c:Expr} {ta tb tc:TE} {pos:Pos}
theorem zay {pins:List (Addr × Obj)}{σ:St}{H:Hp}{s:Shared}{Q:VK}{k k':Bool}(I:Inv X pins σ H s)(q:Q (.bl k) H)(e:k=k'):EP X pins σ Q (.bool k') s:=by
 subst e
 exact⟨.bl k,H,I,rfl,q⟩
theorem zqk:OpR X (compareOp .Eq) rEq:=by
 intro pins s σ H x y v u Q I rx ry h
 obtain⟨hs,q⟩:=h
 cases x with
 | non =>
   cases rx
   cases y with
   |non=>cases ry;exact PySem.EqNone.eq_none_none (zay I q (by simp))
   |bl j=>cases ry;exact PySem.EqNone.eq_none_bool (zay I q (by simp))
   |int j=>obtain⟨t',rfl⟩:=ry;exact PySem.EqNone.eq_none_int (zay I q (by simp))
   |str j=>obtain⟨t',rfl⟩:=ry;exact PySem.EqNone.eq_none_str (zay I q (by simp))
   |_=>exact absurd (show false=true from hs) Bool.false_ne_true
 | bl i =>
   cases rx
   cases y with
   |non=>cases ry;exact PySem.EqNone.eq_bool_none (zay I q (by simp))
   |bl j=>cases ry;exact eq_bool (zay I q zlD)
   |str j=>obtain⟨t',rfl⟩:=ry;exact PySem.EqMixed.eq_bool_str (zay I q (by simp))
   |_=>exact absurd (show false=true from hs) Bool.false_ne_true
 | int i =>
   obtain⟨t,rfl⟩:=rx
   cases y with
   |non=>cases ry;exact PySem.EqNone.eq_int_none (zay I q (by simp))
   |int j=>obtain⟨t',rfl⟩:=ry;exact eq_int (zay I q zju)
   |str j=>obtain⟨t',rfl⟩:=ry;exact PySem.EqMixed.eq_int_str (zay I q (by simp))
   |_=>exact absurd (show false=true from hs) Bool.false_ne_true
 | str i =>
   obtain⟨t,rfl⟩:=rx
   cases y with
   |non=>cases ry;exact PySem.EqNone.eq_str_none (zay I q (by simp))
   |bl j=>cases ry;exact PySem.EqMixed.eq_str_bool (zay I q (by simp))
   |int j=>obtain⟨t',rfl⟩:=ry;exact PySem.EqMixed.eq_str_int (zay I q (by simp))
   |str j=>obtain⟨t',rfl⟩:=ry;exact eq_str (zay I q zjt)
   |_=>exact absurd (show false=true from hs) Bool.false_ne_true
 | byt i =>
   obtain⟨t,rfl⟩:=rx
   cases y with
   |byt j=>obtain⟨t',rfl⟩:=ry;exact PySem.W.eq_bytes (zay I q zjv)
   |_=>exact absurd (show false=true from hs) Bool.false_ne_true
 |_=>cases y<;>exact absurd (show false=true from hs) Bool.false_ne_true
theorem zqf:OpR X (compareOp .NotEq) rNe:=by
 intro pins s σ H x y v u Q I rx ry h
 obtain⟨hs,q⟩:=h
 cases x with
 | non =>
   cases rx
   cases y with
   |non=>cases ry;exact PySem.EqNone.ne_none_none (zay I q (by simp))
   |bl j=>cases ry;exact PySem.EqNone.ne_none_bool (zay I q (by simp))
   |int j=>obtain⟨t',rfl⟩:=ry;exact PySem.EqNone.ne_none_int (zay I q (by simp))
   |str j=>obtain⟨t',rfl⟩:=ry;exact PySem.EqNone.ne_none_str (zay I q (by simp))
   |_=>exact absurd (show false=true from hs) Bool.false_ne_true
 | bl i =>
   cases rx
   cases y with
   |non=>cases ry;exact PySem.EqNone.ne_bool_none (zay I q (by simp))
   |bl j=>cases ry;exact ne_bool (zay I q (congrArg not zlD))
   |str j=>obtain⟨t',rfl⟩:=ry;exact PySem.EqMixed.ne_bool_str (zay I q (by simp))
   |_=>exact absurd (show false=true from hs) Bool.false_ne_true
 | int i =>
   obtain⟨t,rfl⟩:=rx
   cases y with
   |non=>cases ry;exact PySem.EqNone.ne_int_none (zay I q (by simp))
   |int j=>obtain⟨t',rfl⟩:=ry;exact ne_int (zay I q (congrArg not zju))
   |str j=>obtain⟨t',rfl⟩:=ry;exact PySem.EqMixed.ne_int_str (zay I q (by simp))
   |_=>exact absurd (show false=true from hs) Bool.false_ne_true
 | str i =>
   obtain⟨t,rfl⟩:=rx
   cases y with
   |non=>cases ry;exact PySem.EqNone.ne_str_none (zay I q (by simp))
   |bl j=>cases ry;exact PySem.EqMixed.ne_str_bool (zay I q (by simp))
   |int j=>obtain⟨t',rfl⟩:=ry;exact PySem.EqMixed.ne_str_int (zay I q (by simp))
   |str j=>obtain⟨t',rfl⟩:=ry;exact ne_str (zay I q (congrArg not zjt))
   |_=>exact absurd (show false=true from hs) Bool.false_ne_true
 | byt i =>
   obtain⟨t,rfl⟩:=rx
   cases y with
   |byt j=>obtain⟨t',rfl⟩:=ry;exact PySem.W.ne_bytes (zay I q (congrArg not zjv))
   |_=>exact absurd (show false=true from hs) Bool.false_ne_true
 |_=>cases y<;>exact absurd (show false=true from hs) Bool.false_ne_true
theorem zqg:OpR X (compareOp .Lt) (rI0 fun i j=>.bl (decide (i<j))):=opB0 fun _ _ _ _ _ _ _ q=>lt_int q
theorem zqh:OpR X (compareOp .LtE) (rI0 fun i j=>.bl (decide (i<=j))):=opB0 fun _ _ _ _ _ _ _ q=>le_int q
theorem zqi:OpR X (compareOp .Gt) (rI0 fun i j=>.bl (decide (j<i))):=opB0 fun _ _ _ _ _ _ _ q=>gt_int q
theorem zqj:OpR X (compareOp .GtE) (rI0 fun i j=>.bl (decide (j<=i))):=opB0 fun _ _ _ _ _ _ _ q=>ge_int q
theorem zmQ:OpR X (compareOp .IsNot) (fun x y H Q=>y=.non/\Q (.bl (!decide (x=.non))) H):=by
 intro pins s σ H x y v u Q I rx ry h
 obtain⟨rfl,q⟩:=h
 cases ry
 refine isnot_none_gen (zay I q ?_)
 cases x<;>first
  |(cases rx;rfl)
  |(obtain⟨t,rfl⟩:=rx;rfl)
theorem zlu (b:Expr){op:CmpOp}(h:op≠.In:=by decide)(h2:op≠.NotIn:=by decide):behindInMarks op b=false:=by
 have e1:(op == CmpOp.In)=false:=by cases op<;>first|rfl|exact absurd rfl h
 have e2:(op == CmpOp.NotIn)=false:=by cases op<;>first|rfl|exact absurd rfl h2
 cases b<;>simp[behindInMarks,e1,e2]
theorem zmL {op:CmpOp}{r:R2}(ho:OpR X (compareOp op) r)(ha:PE X a ta)(hb:PE X b tb)(hm:behindInMarks op b=false):PE X (.Compare a [op] [b] pos) (tOp r ta tb):=by
 intro pins s σ H Q I h
 exact wpAny_Compare1 (binT ha hb I h fun v u s2 x y H2 I2 rx ry q=>ho pins s2 σ H2 x y v u Q I2 rx ry q) hm
noncomputable def zlS (t:TE):TT:=fun σ H Q=>t σ H fun x H'=>∃k,x=.bl k/\Q k H'
theorem ziH {op:CmpOp}{r:R2}(ho:OpR X (compareOp op) r)(ha:PE X a ta)(hb:PE X b tb)(hm:behindInMarks op b=false):PT X (.Compare a [op] [b] pos) (zlS (tOp r ta tb)):=by
 intro pins s σ H Q I h
 refine wpAny_isTrue_Compare1 (thn (ha pins s σ H _ I h) fun v s1 ⟨x,H1,I1,r1,q1⟩=>thn (hb pins s1 σ H1 _ I1 q1) fun u s2 ⟨y,H2,I2,r2,q2⟩=>
  thn (ho pins s2 σ H2 x y v u _ I2 r1 r2 q2) fun c s3 ⟨z,H3,I3,r3,k,e,q3⟩=>?_) hm
 subst e
 cases r3
 exact wpAny_truthy_bool ⟨H3,I3,q3⟩
noncomputable def zlg (r r':R2)(ta tb tc:TE):TE:=fun σ H Q=>ta σ H fun x H1=>tb σ H1 fun y H2=>r x y H2 fun z H3=>∃k,z=.bl k/\
 (if k=true then tc σ H3 fun w' H4=>r' y w' H4 Q else Q (.bl false) H3)
theorem zkw {op op':CmpOp}{r r':R2}(ho:OpR X (compareOp op) r)(ho':OpR X (compareOp op') r')(ha:PE X a ta)(hb:PE X b tb)(hc:PE X c tc)
  (hm:lastMarks [op,op'] [b,c]=false:=by with_unfolding_all rfl):PE X (.Compare a [op,op'] [b,c] pos) (zlg r r' ta tb tc):=by
 intro pins s σ H Q I h
 refine Compare_chain (thn (ha pins s σ H _ I h) fun v s1 ⟨x,H1,I1,r1,q1⟩=>chain_link (thn (hb pins s1 σ H1 _ I1 q1) fun u s2 ⟨y,H2,I2,r2,q2⟩=>
  thn (ho pins s2 σ H2 x y v u _ I2 r1 r2 q2) fun d s3 ⟨z,H3,I3,r3,k,e,q3⟩=>?_)) hm
 subst e
 cases r3
 refine wpAny_truthy_bool ?_
 cases k with
 |false=>exact ite_ff ⟨.bl false,H3,I3,rfl,q3⟩
 |true=>exact ite_tt (chain_last (thn (hc pins s3 σ H3 _ I3 q3) fun w' s4 ⟨z',H4,I4,r4,q4⟩=>ho' pins s4 σ H4 y z' u w' Q I4 r2 r4 q4))
theorem zkh {op op':CmpOp}{r r':R2}(ho:OpR X (compareOp op) r)(ho':OpR X (compareOp op') r')(ha:PE X a ta)(hb:PE X b tb)(hc:PE X c tc)
  (hm:lastMarks [op,op'] [b,c]=false:=by with_unfolding_all rfl):PT X (.Compare a [op,op'] [b,c] pos) (zlS (zlg r r' ta tb tc)):=by
 intro pins s σ H Q I h
 refine isTrue_chain (thn (ha pins s σ H _ I h) fun v s1 ⟨x,H1,I1,r1,q1⟩=>test_link (thn (hb pins s1 σ H1 _ I1 q1) fun u s2 ⟨y,H2,I2,r2,q2⟩=>
  thn (ho pins s2 σ H2 x y v u _ I2 r1 r2 q2) fun d s3 ⟨z,H3,I3,r3,k,e,q3⟩=>?_)) hm
 subst e
 cases r3
 refine wpAny_truthy_bool ?_
 cases k with
 | false =>
   obtain⟨k',e',q'⟩:=q3
   cases e'
   exact ite_ff ⟨H3,I3,q'⟩
 | true =>
   refine ite_tt (test_last (thn (hc pins s3 σ H3 _ I3 q3) fun w' s4 ⟨z',H4,I4,r4,q4⟩=>thn (ho' pins s4 σ H4 y z' u w' _ I4 r2 r4 q4) fun d' s5 ⟨z2,H5,I5,r5,k2,e2,q5⟩=>?_))
   subst e2
   cases r5
   exact wpAny_truthy_bool ⟨H5,I5,q5⟩
noncomputable def TruV (K:PySem.W.Frag)(x:V)(H:Hp)(k:Bool):Prop:=
 match x with
 |.non=>k=false
 |.bl b=>k=b
 |.int i=>k=(i != 0)
 |.str y=>y.length<=sizeLine/\k=((y.length:Int) != 0)
 |.byt y=>y.size<=sizeLine/\k=((y.size:Int) != 0)
 |.ref p=>(∃xs,SqL K H p xs/\k = !xs.isEmpty)\/(∃xs,SqT K H p xs/\k = !xs.isEmpty)\/∃kvs,H p=some (.dK kvs)/\k = !kvs.isEmpty
 |_=>False
theorem zhN {κ:Type}{kvs:List (κ × V)}{vs:List (κ × Value)}(r:KV kvs vs):(!vs.isEmpty) = !kvs.isEmpty:=by
 cases r<;>rfl
theorem zee {xs:List V}{its:List Value}(r:Vals xs its):(!its.toArray.isEmpty) = !xs.isEmpty:=by
 cases r<;>simp
theorem zfo:(sizeLine:Nat)<2 ^ 63:=by rw[sizeLine_eq];decide
theorem znO:TruR X (fun x H Q=>∃k,TruV X.K x H k/\Q k H):=by
 intro pins s σ H x v Q I rx h
 obtain⟨k,e,q⟩:=h
 have hl:=zfo
 have hs:sizeLine=16777216:=sizeLine_eq
 cases x with
 | non =>
   cases rx
   have e':k=false:=e
   subst e'
   exact truthy_none ⟨H,I,q⟩
 | bl b =>
   cases rx
   have e':k=b:=e
   subst e'
   exact wpAny_truthy_bool ⟨H,I,q⟩
 | int i =>
   obtain⟨t,rfl⟩:=rx
   have e':k=(i != 0):=e
   subst e'
   exact PySem.P.truthy_int ⟨H,I,q⟩
 | str y =>
   obtain⟨t,rfl⟩:=rx
   obtain⟨hy,e'⟩:y.length<=sizeLine/\k=((y.length:Int) != 0):=e
   subst e'
   exact PySem.P.truthy_str (by omega) ⟨H,I.tok _,q⟩
 | byt y =>
   obtain⟨t,rfl⟩:=rx
   obtain⟨hy,e'⟩:y.size<=sizeLine/\k=((y.size:Int) != 0):=e
   subst e'
   exact PySem.W.truthy_bytes (by omega) ⟨H,I.tok _,q⟩
 | ref p =>
   cases rx
   have e':(∃xs,SqL X.K H p xs/\k = !xs.isEmpty)\/(∃xs,SqT X.K H p xs/\k = !xs.isEmpty)\/∃kvs,H p=some (.dK kvs)/\k = !kvs.isEmpty:=e
   rcases e' with ⟨xs,hx,e'⟩|⟨xs,hx,e'⟩|⟨kvs,hx,e'⟩
   · subst e'
     obtain⟨its,r,pl,hz⟩:=I.list hx
     have hlen:=r.length
     exact wpAny_truthy_list pl.isList (by simp only[List.size_toArray];omega) ⟨H,I.tok _,by rw[zee r];exact q⟩
   · subst e'
     obtain⟨its,r,pl,hz⟩:=I.tuple hx
     have hlen:=r.length
     exact truthy_tuple pl (by simp only[List.size_toArray];omega) ⟨H,I.tok _,by rw[zee r];exact q⟩
   · subst e'
     obtain⟨hz,hS,vs,r,m⟩:kvs.length<=sizeLine/\(p == sysModules)=false/\∃vs,KV kvs vs/\s.heap.DictOf (zaH X.prog X.w) p vs:=I.hok p _ hx
     have hlen:kvs.length=vs.length:=Paired.length r
     exact wpAny_truthy_dict hS m (by omega) ⟨H,I.tok _,by rw[zhN r];exact q⟩
 |_=>exact (show False from e).elim
theorem zkg (ha:PE X a ta)(he:∀whole,isTrue a X.env whole=(do let v <-whole;standAt a.pos;holding [v] (truthy v))) :
  PT X a (fun σ H Q=>ta σ H fun x H'=>∃k,TruV X.K x H' k/\Q k H'):=by
 intro pins s σ H Q I h
 exact isTrue_plain (thn (ha pins s σ H _ I h) fun v s1 ⟨x,H1,I1,r1,q1⟩=>znO pins s1 σ H1 x v Q I1 r1 q1) (he _)
theorem zib {x:V}{us:List Value}(r:Vals [x] us):∃u,us=[u]/\RelV x u:=by
 cases r with
 |cons r1 r2=>cases r2;exact⟨_,rfl,r1⟩
theorem zjN {x y:V}{us:List Value}(r:Vals [x,y] us):∃u w',us=[u,w']/\RelV x u/\RelV y w':=by
 cases r with
 | cons r1 r2 =>
   cases r2 with
   |cons r3 r4=>cases r4;exact⟨_,_,rfl,r1,r3⟩
theorem zk6:zbB X (.builtin "abs") (fun xs H Q=>∃i,xs=[.int i]/\Q (.int (if i<0 then -i else i)) H):=by
 intro pins s σ H xs us Q I r h
 obtain⟨i,rfl,q⟩:=h
 obtain⟨u,rfl,t,rfl⟩:=zib r
 exact call_abs_int fun u tk=>⟨.int (if i<0 then -i else i),H,I.tok _,⟨_,rfl⟩,q⟩
theorem zjB (hc:X.calm=true):zbB X (.builtin "max") (fun xs H Q=>∃i j,xs=[.int i,.int j]/\Q (.int (if j > i then j else i)) H):=by
 intro pins s σ H xs us Q I r h
 obtain⟨i,j,rfl,q⟩:=h
 obtain⟨u,w',rfl,⟨t,rfl⟩,⟨t',rfl⟩⟩:=zjN r
 refine max_two_ints (I.ok.hd hc) fun h' tk k=>⟨_,H,I.kept k,?_,q⟩
 by_cases hj:j > i
 · rw[if_pos hj,if_pos hj];exact⟨_,rfl⟩
 · rw[if_neg hj,if_neg hj];exact⟨_,rfl⟩
theorem zjA (hc:X.calm=true):zbB X (.builtin "min") (fun xs H Q=>∃i j,xs=[.int i,.int j]/\Q (.int (if j<i then j else i)) H):=by
 intro pins s σ H xs us Q I r h
 obtain⟨i,j,rfl,q⟩:=h
 obtain⟨u,w',rfl,⟨t,rfl⟩,⟨t',rfl⟩⟩:=zjN r
 refine min_two_ints (I.ok.hd hc) fun h' tk k=>⟨_,H,I.kept k,?_,q⟩
 by_cases hj:j<i
 · rw[if_pos hj,if_pos hj];exact⟨_,rfl⟩
 · rw[if_neg hj,if_neg hj];exact⟨_,rfl⟩
end
end L2
namespace L2
open PySem PySem.Spec PyProof.Rows
structure ObjM (h:Heap) (x dx C:Addr) (mA:Str->Option Value):Prop where
 obj:h.get? x=some (PySem.W.instObj C dx)
 ns:h.Ns1 dx mA
 ne:dx≠x
theorem ziY {h:Heap}{dx:Addr}{mA:Str->Option Value}(n:h.Ns1 dx mA):∃od,h.get? dx=some od/\∀name,PySem.W.lookIn name od=some (mA name):=by
 obtain⟨o,es,ep,ho,hd,hk,_,hm⟩:=n
 refine⟨o,ho,fun name=>?_⟩
 have e:=hm name
 unfold nsFind findBy at e
 rw[<-Array.find?_toList] at e
 unfold PySem.W.lookIn
 rw[hd]
 dsimp only
 split
 · rename_i y q
   rw[q] at e
   exact congrArg some e
 · rename_i q
   rw[q] at e
   have a:es.toList.any (·.refKey)=false:=by
    rw[List.any_eq_false]
    intro y hy
    obtain⟨z,t,hkey⟩:=hk y (Array.mem_toList_iff.mp hy)
    simp[DictEntry.refKey,hkey]
   have a':¬es.toList.any (·.refKey)=true:=by rw[a];exact Bool.false_ne_true
   rw[if_neg a']
   exact congrArg some e
theorem ObjM.look {h:Heap}{x dx C:Addr}{mA:Str->Option Value}(I:ObjM h x dx C mA):∃od,PySem.W.InstAt h x (PySem.W.instObj C dx) C (some od)/\∀name,PySem.W.lookIn name od=some (mA name):=
 let ⟨od,ho,hl⟩:=ziY I.ns
 ⟨od,⟨I.obj,rfl,rfl,ho⟩,hl⟩
section
variable {prog:Program} {w:World} {A:Around} {E:Value->Shared->Prop} {s:Shared} {K:PySem.W.Frag} {x dx C f:Addr} {mA:Str->Option Value} {name:Str} {v:Value}
theorem znh {expr:Bool}{Q:Value->Shared->Prop}(X:K.In s.heap)(I:ObjM s.heap x dx C mA)(hg:PySem.W.plainGet K C name=true)(hh:PySem.W.hasDictIn K C=true)
  (ha:PySem.W.findIn K (.ref C) name=some none) (hv:mA name=some v) (hv':PySem.W.handedIn v=true) (h:Q v {s with toks:=s.toks+1}) :
  wpAny (model prog w) A (getAttr (.ref x) name expr) Q E s:=by
 obtain⟨od,J,hl⟩:=I.look
 exact PySem.W.get_value X J (PySem.W.plainGet_of hg).1 (PySem.W.findObj_own hh ha rfl (by rw[hl,hv])) hv' h
theorem zkU {pl:Sem Bool}{Q:Value × List Value->Shared->Prop}(X:K.In s.heap)(I:ObjM s.heap x dx C mA)(hg:PySem.W.plainGet K C name=true)
  (hf:PySem.W.findIn K (.ref C) name=some (some (.ref f))) (ht:PySem.W.isFn K (.ref f)=true) (hv:mA name=none) (h:Q (.ref f,[.ref x]) s) :
  wpAny (model prog w) A (getMethod (.ref x) name pl) Q E s:=by
 obtain⟨od,J,hl⟩:=I.look
 exact PySem.W.method_fn X J (PySem.W.plainGet_of hg).1 (PySem.W.plainGet_of hg).2 hf (beq_iff_eq.mp ht) (by show (PySem.W.lookIn name od).map (·.isSome)=some false;rw[hl,hv];rfl) h
theorem zl9 {ns:List Str}{Q:Unit->Shared->Prop}(X:K.In s.heap)(I:ObjM s.heap x dx C mA)
  (hs:PySem.W.findIn K (.ref C) "__setattr__"=some (some (.builtin "object.__setattr__"))) (hp:PySem.W.plainOver K C=true) (ht:PySem.W.takerIn K C name=some none) (hh:PySem.W.hasDictIn K C=true)
  (hw:PySem.Within mA ns) (hsz:ns.length<=sizeLine)
  (h:∀h',ObjM h' x dx C (fun y=>if y=name then some v else mA y)->Heap.SameBut dx s.heap h'->Q () {s with heap:=h',toks:=s.toks+2}) :
  wpAny (model prog w) A (setAttr (.ref x) name v) Q E s:=by
 obtain⟨od,J,hl⟩:=I.look
 refine PySem.W.set_plain X J hs (PySem.W.osa_open (s:={s with toks:=s.toks+1}) (r:=none) X J hp ht fun b=>?_)
 obtain⟨cd,hc,hd'⟩:=PySem.W.any_some hh
 have hx:s.heap.get? x=some ⟨.ref C,some dx,.plain,#[]⟩:=I.obj
 refine wpAny_bind (wpAny_pure (wpAny_bind (wpAny_bind (wpAny_loadPart hx (wpAny_bind (PySem.W.Looks.here (s:={s with toks:=s.toks+1}) (PySem.W.looks_clsIn X hc) ?_))))))
 rw[hd']
 refine wpAny_pure (a:=some dx) (wpAny_bind (wpAny_pure (wpAny_bind ?_)))
 refine wpAny_nsSet1 (s:={s with toks:=s.toks+1}) I.ns fun h' hn2 hs2=>?_
 obtain⟨oD,esD,epD,hoD,hdD,hcD⟩:=hn2.count (PySem.Within.cons name v hw)
 refine wpAny_bind (wpAny_lookBehind hoD (by rw[hdD];exact pastItsLine_dict (Nat.le_trans hcD (by rw[List.length_cons];omega))) ?_)
 exact wpAny_pure (h _ ⟨(hs2.2 _ (Ne.symm I.ne)).trans I.obj,hn2,I.ne⟩ hs2)
theorem zkF {R:Result->Shared->Prop}{vs:List Value}{kw:List (Str × Value)}(X:K.In s.heap)(hm:PySem.W.makesIn K C=true)
  (hi:PySem.W.findIn K (.ref C) "__init__"=some (some (.ref f))) (hf:PySem.W.typeIn K (.ref f)=some (.type "function"))
  (h:codeAny (model prog w) (A.under (.builtin "type.__call__" ⟨.ref C::vs,kw⟩)) (.call (.ref f) ⟨.ref (s.heap.objs.size+1)::vs,kw⟩) (PySem.W.InitBack (s.heap.objs.size+1) R)
   {s with heap:=(s.heap.push PySem.W.emptyDict).push (PySem.W.instObj C s.heap.objs.size)}) :
  codeAny (model prog w) A (.call (.ref C) ⟨vs,kw⟩) R s:=by
 obtain⟨hh,g,d,t,os⟩:=s
 exact PySem.W.make_core (PySem.W.makes_of X hm) (PySem.W.looks_findIn X hi) (fun self=>PySem.W.bind_fn X self hf) (.inl rfl) h
end
noncomputable def putF (f:Str)(v:V):List (Str × V)->List (Str × V)
 | []=>[(f,v)]
 |(g,x)::r=>if g=f then (g,v)::r else (g,x)::putF f v r
theorem zdy (f g:Str)(v:V):∀fs:List (Str × V),(putF f v fs).lookup g=if g=f then some v else fs.lookup g
 | [] => by
   show List.lookup g [(f,v)]=_
   by_cases h:g=f
   · have hb:(g == f)=true:=beq_iff_eq.mpr h
     simp only[List.lookup,hb,if_pos h]
   · have hb:(g == f)=false:=beq_eq_false_iff_ne.mpr h
     simp only[List.lookup,hb,if_neg h]
 | (k, x) :: r => by
   have ih:=zdy f g v r
   rw[show putF f v ((k,x)::r)=(if k=f then (k,v)::r else (k,x)::putF f v r) from rfl]
   by_cases hk:k=f
   · rw[if_pos hk]
     by_cases h:g=k
     · have hb:(g == k)=true:=beq_iff_eq.mpr h
       simp only[List.lookup,hb,if_pos (h.trans hk)]
     · have hb:(g == k)=false:=beq_eq_false_iff_ne.mpr h
       simp only[List.lookup,hb,if_neg (fun e:g=f=>h (e.trans hk.symm))]
   · rw[if_neg hk]
     by_cases h:g=k
     · have hb:(g == k)=true:=beq_iff_eq.mpr h
       simp only[List.lookup,hb,if_neg (fun e:g=f=>hk (h.symm.trans e))]
     · have hb:(g == k)=false:=beq_eq_false_iff_ne.mpr h
       simp only[List.lookup,hb]
       exact ih
theorem zdG (f:Str)(v:V):∀fs:List (Str × V),f∈(putF f v fs).map (·.1)/\∀g,g∈fs.map (·.1)->g∈(putF f v fs).map (·.1)
 | []=>⟨by simp[putF],fun g h=>by simp at h⟩
 | (k, x) :: r => by
   obtain⟨i1,i2⟩:=zdG f v r
   rw[show putF f v ((k,x)::r)=(if k=f then (k,v)::r else (k,x)::putF f v r) from rfl]
   by_cases hk:k=f
   · rw[if_pos hk]
     subst hk
     exact⟨by simp,fun g h=>by simpa using h⟩
   · rw[if_neg hk]
     refine⟨?_,fun g h=>?_⟩
     · rw[List.map_cons]
       exact List.mem_cons_of_mem _ i1
     · rw[List.map_cons] at h⊢
       rcases List.mem_cons.mp h with e|e
       · exact List.mem_cons.mpr (.inl e)
       · exact List.mem_cons_of_mem _ (i2 g e)
theorem zdA (f:Str)(v:V):∀fs:List (Str × V),(putF f v fs).length<=fs.length+1
 | []=>by simp[putF]
 | (k, x) :: r => by
   have ih:=zdA f v r
   rw[show putF f v ((k,x)::r)=(if k=f then (k,v)::r else (k,x)::putF f v r) from rfl]
   by_cases hk:k=f
   · rw[if_pos hk,List.length_cons,List.length_cons];omega
   · rw[if_neg hk,List.length_cons,List.length_cons];omega
theorem RelO.some_of {v:V}{o:Option Value}(r:RelO (some v) o):∃u,o=some u/\RelV v u:=by
 cases o with
 |none=>exact (show False from r).elim
 |some u=>exact⟨u,rfl,r⟩
theorem RelO.none_of {o:Option Value}(r:RelO none o):o=none:=by
 cases o with
 |none=>rfl
 |some u=>exact (show False from r).elim
theorem zji {v:V}{u:Value}(r:RelV v u):PySem.W.handedIn u=true:=by
 cases v with
 |non=>cases (show u=Value.none from r);rfl
 |bl b=>cases (show u=Value.bool b from r);rfl
 |int i=>obtain⟨t,e⟩:=(show ∃t,u=Value.int i t from r);cases e;rfl
 |str x=>obtain⟨t,e⟩:=(show ∃t,u=Value.str x t from r);cases e;rfl
 |byt b=>obtain⟨t,e⟩:=(show ∃t,u=Value.bytes b t from r);cases e;rfl
 |flt b=>obtain⟨t,e⟩:=(show ∃t,u=Value.float b t from r);cases e;rfl
 |ref a=>cases (show u=Value.ref a from r);rfl
 |ty n=>cases (show u=Value.type n from r);rfl
section
variable {P:Program} {w:World} {H H':Hp} {h h':Heap} {a C dx:Addr} {fs fs':List (Str × V)}
theorem zeM (hok:HOk P w H h)(e:H a=some (.ins C dx fs)):∃mA,ObjM h a dx C mA/\(∀f,RelO (fs.lookup f) (mA f))/\PySem.Within mA (fs.map (·.1))/\fs.length<=1000/\H dx=some (.own a):=by
 obtain⟨d,z,ne,ob,mA,n,r,q⟩:=(show ObjOk P w H h a (.ins C dx fs) from hok a _ e)
 exact⟨mA,⟨ob,n,ne⟩,r,q,z,d⟩
end
structure Cls (K:PySem.W.Frag) (C:Addr):Prop where
 pg:PySem.W.plainGet K C Str.empty=true
 hd:PySem.W.hasDictIn K C=true
 po:PySem.W.plainOver K C=true
 sa:PySem.W.findIn K (.ref C) "__setattr__"=some (some (.builtin "object.__setattr__"))
theorem Cls.get {K:PySem.W.Frag}{C:Addr}(c:Cls K C)(f:Str):PySem.W.plainGet K C f=true:=c.pg
noncomputable def NoAttr (K:PySem.W.Frag)(C:Addr)(f:Str):Prop:=PySem.W.findIn K (.ref C) f=some none
theorem NoAttr.taker {K:PySem.W.Frag}{C:Addr}{f:Str}(n:NoAttr K C f):PySem.W.takerIn K C f=some none:=by
 unfold PySem.W.takerIn
 rw[show PySem.W.findIn K (.ref C) f=some none from n]
 rfl
structure Con (K:PySem.W.Frag) (C:Addr) (f:Str) (v:V) (u:Value):Prop where
 at_:PySem.W.findIn K (.ref C) f=some (some u)
 rel:RelV v u
 get:PySem.W.specialIn K u "__get__"=some none
 cp:PySem.W.copiedNames.contains f=false
structure Meth (K:PySem.W.Frag) (C:Addr) (m:Str) (f:Addr):Prop where
 at_:PySem.W.findIn K (.ref C) m=some (some (.ref f))
 fn:PySem.W.isFn K (.ref f)=true
 kp:PySem.W.keepIn K (.ref f)=true
section
variable {X:Cx} {pins:List (Addr × Obj)} {σ:St} {H:Hp} {s:Shared} {a C dx:Addr} {fs:List (Str × V)} {f:Str} {v:V} {A:Around} {E:Value->Shared->Prop}
theorem zhO {b:Bool}{Q:Value->Shared->Prop}(I:Inv X pins σ H s)(e:H a=some (.ins C dx fs))(c:Cls X.K C)(n:NoAttr X.K C f)(l:fs.lookup f=some v)
  (h:∀u s',Inv X pins σ H s'->RelV v u->Q u s'):wpAny (model X.prog X.w) A (getAttr (.ref a) f b) Q E s:=by
 obtain⟨mA,O,r,_,_,_⟩:=zeM I.hok e
 obtain⟨u,hu,ru⟩:=RelO.some_of (v:=v) (o:=mA f) (by rw[<-l];exact r f)
 exact znh I.kIn O (c.get f) c.hd n hu (zji ru) (h u _ (I.tok _) ru)
theorem zeg {m:Str}{g:Addr}{pl:Sem Bool}{Q:Value × List Value->Shared->Prop}(I:Inv X pins σ H s)(e:H a=some (.ins C dx fs))(c:Cls X.K C)(k:Meth X.K C m g)(l:fs.lookup m=none)
  (h:Q (.ref g,[.ref a]) s):wpAny (model X.prog X.w) A (getMethod (.ref a) m pl) Q E s:=by
 obtain⟨mA,O,r,_,_,_⟩:=zeM I.hok e
 have hn:mA m=none:=RelO.none_of (by rw[<-l];exact r m)
 exact zkU I.kIn O (c.get m) k.at_ k.fn hn h
theorem zhx {y:V}{u:Value}{Q:Unit->Shared->Prop}(I:Inv X pins σ H s)(e:H a=some (.ins C dx fs))(c:Cls X.K C)(n:NoAttr X.K C f)(hl:fs.length<1000)(ry:RelV y u)
  (h:∀s',Inv X pins σ (upd H a (.ins C dx (putF f y fs))) s'->Q () s'):wpAny (model X.prog X.w) A (setAttr (.ref a) f u) Q E s:=by
 obtain⟨mA,O,r,wi,_,ho⟩:=zeM I.hok e
 have hz:(fs.map (·.1)).length<=sizeLine:=by rw[List.length_map,sizeLine_eq];omega
 refine zl9 I.kIn O c.sa c.po n.taker c.hd wi hz fun h' O' sb=>h _ ?_
 have hd:∃o,h'.get? dx=some o:=let ⟨o,_,_,e',_⟩:=O'.ns;⟨o,e'⟩
 refine I.write (x:=a) (e:=dx) (by rw[e];exact True.intro) (.inr ho) (fun b q hb z=>(sb.2 b hb).trans z) hd ?_
 refine⟨by rw[zai O.ne];exact ho,?_,O.ne,O'.obj,_,O'.ns,fun g=>?_,fun g hg=>?_⟩
 · have:=zdA f y fs;omega
 · show RelO ((putF f y fs).lookup g) (if g=f then some u else mA g)
   rw[zdy]
   by_cases q:g=f
   · rw[if_pos q,if_pos q];exact ry
   · rw[if_neg q,if_neg q];exact r g
 · by_cases q:g=f
   · rw[q];exact (zdG f y fs).1
   · refine (zdG f y fs).2 g (wi g fun z=>hg ?_)
     show (if g=f then some u else mA g)=none
     rw[if_neg q];exact z
theorem Inv.made (I:Inv X pins σ H s):Inv X pins σ (upd (upd H s.heap.objs.size (.own (s.heap.objs.size+1))) (s.heap.objs.size+1) (.ins C s.heap.objs.size []))
  {s with heap:=(s.heap.push PySem.W.emptyDict).push (PySem.W.instObj C s.heap.objs.size)}:=by
 have e1:(s.heap.push PySem.W.emptyDict).get? s.heap.objs.size=some PySem.W.emptyDict:=Heap.get?_push_size s.heap rfl
 have e2:((s.heap.push PySem.W.emptyDict).push (PySem.W.instObj C s.heap.objs.size)).get? (s.heap.objs.size+1)=some (PySem.W.instObj C s.heap.objs.size):=by
  have:=Heap.get?_push_size (s.heap.push PySem.W.emptyDict) (o:=PySem.W.instObj C s.heap.objs.size) rfl
  rwa [Heap.size_push] at this
 have e3:(s.heap.push PySem.W.emptyDict).Ns s.heap.objs.size (fun _=>none):=⟨PySem.W.emptyDict,#[],_,e1,rfl,(fun e he=>absurd he (by simp)),fun _=>rfl⟩
 have I1:=I.laid (a:=s.heap.objs.size) (o:=.own (s.heap.objs.size+1)) (h':=s.heap.push PySem.W.emptyDict) (t':=s.toks) (fun b u q=>Heap.get?_push_of_some _ q) (Nat.le_refl _) ⟨_,e1⟩
 refine I1.laid (a:=s.heap.objs.size+1) (o:=.ins C s.heap.objs.size []) (t':=s.toks) (fun b u q=>Heap.get?_push_of_some _ q) (Nat.le_of_eq (Heap.size_push _ _)) ?_
 have ne:s.heap.objs.size≠s.heap.objs.size+1:=Nat.ne_of_lt (Nat.lt_succ_self _)
 refine⟨by rw[zai ne,zap],Nat.zero_le _,ne,e2,fun _=>none,(Heap.Ns1.of_empty e3).at fun o q=>Heap.get?_push_of_some _ q,fun _=>True.intro,fun y hy=>absurd rfl hy⟩
theorem znz {prog:Program}{w:World}{env:Env}{e:Expr}{f:Str}{pos:Pos}{s:Shared}{Q:Value->Shared->Prop}(hb:attributeBase e f env (eval e env)=eval e env)
  (h:wpAny (model prog w) A (eval e env) (fun o s₁=>wpAny (model prog w) A (getAttr o f true) Q E s₁) E s):wpAny (model prog w) A (eval (.Attribute e f pos) env) Q E s:=
 Attribute_any_ h (by rw[arm_eval_Attribute,hb])
end
noncomputable def tFld (K:PySem.W.Frag)(ta:TE)(f:Str):TE:=fun σ H Q=>ta σ H fun x H1=>∃a C dx fs v,x=.ref a/\H1 a=some (.ins C dx fs)/\Cls K C/\NoAttr K C f/\fs.lookup f=some v/\Q v H1
noncomputable def sFld (K:PySem.W.Frag)(ta tv:TE)(f:Str):TS:=fun D σ H=>tv σ H fun y H1=>ta σ H1 fun x H2=>∃a C dx fs,x=.ref a/\H2 a=some (.ins C dx fs)/\Cls K C/\NoAttr K C f/\fs.length<1000/\
 D.nx σ (upd H2 a (.ins C dx (putF f y fs)))
section
variable {X:Cx} {o e value:Expr} {f:Str} {pos pos' tpos:Pos} {ta tv:TE}
theorem zoS (he:PE X e ta)(hb:attributeBase e f X.env (eval e X.env)=eval e X.env):PE X (.Attribute e f pos) (tFld X.K ta f):=by
 intro pins s σ H Q I h
 refine znz hb (thn (he pins s σ H _ I h) fun u s1 ⟨x,H1,I1,rx,a,C,dx,fs,v,ex,ea,c,n,l,q⟩=>?_)
 subst ex
 obtain rfl:u=Value.ref a:=rx
 exact zhO I1 ea c n l fun u' s2 I2 ru=>⟨v,H1,I2,ru,q⟩
theorem zoE (ha:PE X o ta)(hv:PE X value tv)(hs:swapsWith value (some (.Attribute o f pos')) pos.line X.env=pure false):PS X (.Assign [.Attribute o f pos'] value pos) (sFld X.K ta tv f):=by
 intro pins s σ H D I h
 refine plainObj_wpAny_Assign_Attribute (thn (hv pins s σ H _ I h) fun u s1 ⟨y,H1,I1,ry,q⟩=>thn (ha pins s1 σ H1 _ I1 q) fun ov s2 ⟨x,H2,I2,rx,a,C,dx,fs,ex,ea,c,n,l,q2⟩=>?_) hs
 subst ex
 obtain rfl:ov=Value.ref a:=rx
 exact zhx I2 ea c n l ry fun s3 I3=>⟨σ,_,I3,q2⟩
end
section
variable {X:Cx} {pins:List (Addr × Obj)} {σ:St} {H:Hp} {s:Shared} {A:Around} {E:Value->Shared->Prop} {Q:Value->Shared->Prop} {c:Value} {b:Bool}
inductive TyOf (K:PySem.W.Frag) (H:Hp):V->Value->Prop where
 |non:TyOf K H .non (.type "NoneType")
 |bl (x:Bool):TyOf K H (.bl x) (.type "bool")
 |int (i:Int):TyOf K H (.int i) (.type "int")
 |str (x:Str):TyOf K H (.str x) (.type "str")
 |flt (x:UInt64):TyOf K H (.flt x) (.type "float")
 |lst {a:Addr} {xs:List V} (e:H a=some (.lst xs)):TyOf K H (.ref a) (.type "list")
 |frz {a:Addr} {o:Obj} {xs:List V} (e:H a=some (.frz o (.lst xs))):TyOf K H (.ref a) (.type "list")
 |tup {a:Addr} {xs:List V} (e:H a=some (.tup xs)):TyOf K H (.ref a) (.type "tuple")
 |dK {a:Addr} {kvs:List (Key × V)} (e:H a=some (.dK kvs)):TyOf K H (.ref a) (.type "dict")
 |dT {a:Addr} {kvs:List (List Key × V)} (e:H a=some (.dT kvs)):TyOf K H (.ref a) (.type "dict")
 |ins {a C dx:Addr} {fs:List (Str × V)} (e:H a=some (.ins C dx fs)) (cl:Cls K C) (ha:PySem.W.findIn K (.ref C) "__class__"=some (some (.builtin "object.__class__")))
  (hn:PySem.W.specialIn K (.builtin "object.__class__") "__get__"=some (some (.builtin "getset_descriptor.__get__"))) (htk:PySem.W.takesIn K (.builtin "object.__class__")=some true)
  (hm:PySem.W.mroIn K C (.type "object")=some true):TyOf K H (.ref a) (.ref C)
theorem zfr {x:V}{u t:Value}(I:Inv X pins σ H s)(rx:RelV x u)(ty:TyOf X.K H x t)(e:PySem.W.kitOne X.K t c=some b)(h:∀tk,Q (.bool b) {s with toks:=tk}) :
  wpAny (model X.prog X.w) A (call (.builtin "isinstance") [u,c]) Q E s:=by
 cases ty with
 |non=>cases (show u=Value.none from rx);exact PySem.W.kia_one PySem.W.kitx_none I.kIn True.intro e (fun z=>nomatch z) h
 |bl y=>cases (show u=Value.bool y from rx);exact PySem.W.kia_one PySem.W.kitx_bool I.kIn True.intro e (fun z=>nomatch z) h
 |int i=>obtain⟨t,q⟩:=(show ∃t,u=Value.int i t from rx);cases q;exact PySem.W.kia_one PySem.W.kitx_int I.kIn True.intro e (fun z=>nomatch z) h
 |str y=>obtain⟨t,q⟩:=(show ∃t,u=Value.str y t from rx);cases q;exact PySem.W.kia_one PySem.W.kitx_str I.kIn True.intro e (fun z=>nomatch z) h
 |flt y=>obtain⟨t,q⟩:=(show ∃t,u=Value.float y t from rx);cases q;exact PySem.W.kia_one PySem.W.kitx_float I.kIn True.intro e (fun z=>nomatch z) h
 | @lst a xs ea =>
   cases (show u=Value.ref a from rx)
   obtain⟨_,_,n,_,h1⟩:=(show ObjOk X.prog X.w H s.heap a (.lst xs) from I.hok a _ ea)
   exact PySem.W.kia_one PySem.W.kitx_list I.kIn ⟨_,h1,rfl⟩ e (fun z=>nomatch z) h
 | @frz a ob xs ea =>
   cases (show u=Value.ref a from rx)
   obtain⟨_,_,_,n,_,h1⟩:=(show ObjOk X.prog X.w H s.heap a (.frz ob (.lst xs)) from I.hok a _ ea)
   exact PySem.W.kia_one PySem.W.kitx_list I.kIn ⟨_,h1,rfl⟩ e (fun z=>nomatch z) h
 | @tup a xs ea =>
   cases (show u=Value.ref a from rx)
   obtain⟨_,_,_,p⟩:=(show ObjOk X.prog X.w H s.heap a (.tup xs) from I.hok a _ ea)
   obtain⟨o,h1,h2,_⟩:=p
   exact PySem.W.kia_one PySem.W.kitx_tuple I.kIn ⟨o,h1,h2⟩ e (fun z=>nomatch z) h
 | @dK a kvs ea =>
   cases (show u=Value.ref a from rx)
   obtain⟨_,_,vs,_,p⟩:=(show ObjOk X.prog X.w H s.heap a (.dK kvs) from I.hok a _ ea)
   obtain⟨o,es,ep,h1,h2,_⟩:=p
   exact PySem.W.kia_one PySem.W.kitx_dict I.kIn ⟨o,h1,h2.1⟩ e (fun z=>nomatch z) h
 | @dT a kvs ea =>
   cases (show u=Value.ref a from rx)
   obtain⟨_,_,xs,_,o,es,ep,h1,h2,_⟩:=(show ObjOk X.prog X.w H s.heap a (.dT kvs) from I.hok a _ ea)
   exact PySem.W.kia_one PySem.W.kitx_dict I.kIn ⟨o,h1,h2.1⟩ e (fun z=>nomatch z) h
 | @ins a C dx fs ea cl ha hn htk hm =>
   cases (show u=Value.ref a from rx)
   obtain⟨mA,O,_⟩:=zeM I.hok ea
   obtain⟨od,J,_⟩:=O.look
   exact PySem.W.kia_one (PySem.W.kitx_own (cl.get _) cl.hd ha hn htk hm) I.kIn J e (fun z=>nomatch z) h
end
end L2
namespace L2
open PySem PySem.Spec PyProof.Rows
structure Room (k:Nat) (A:Around):Prop where
 hd:A.handled=none
 dp:A.depth+3 * k+5<recursionLimit
 un:A.units+16 * k+200<cLine
theorem Room.mono {j k:Nat}{A:Around}(r:Room k A)(h:j<=k):Room j A:=⟨r.hd,by have:=r.dp;omega,by have:=r.un;omega⟩
theorem Room.deeper {k:Nat}{A:Around}(r:Room (k+1) A)(env:Env):Room k (A.deeper env):=
 ⟨r.hd,by have:=r.dp;show A.depth+1+3 * k+5<_;omega,by have:=r.un;show A.units+3+16 * k+200<_;omega⟩
theorem Room.in1 {k:Nat}{A:Around}(r:Room (k+1) A):Room k A.in1:=
 ⟨r.hd,by have:=r.dp;show A.depth+3 * k+5<_;omega,by have:=r.un;show A.units+1+16 * k+200<_;omega⟩
theorem zhH {A:Around}{C:Addr}{us:List Value}{kw:List (Str × Value)}:(A.under (.builtin "type.__call__" ⟨.ref C::us,kw⟩)).depth=A.depth+1:=by
 first|rfl|simp[Around.under,Code.weight,Code.isCreation,Code.isGuard,Code.isCaller,Code.frames,Code.isFrame,guardIds]
theorem zhG {A:Around}{C:Addr}{us:List Value}{kw:List (Str × Value)}:(A.under (.builtin "type.__call__" ⟨.ref C::us,kw⟩)).units=A.units+1:=by
 first|rfl|simp[Around.under,Code.cUnits,Code.frames,Code.isFrame]
theorem Room.make {k:Nat}{A:Around}(r:Room (k+1) A)(C:Addr)(us:List Value)(kw:List (Str × Value)):Room k (A.under (.builtin "type.__call__" ⟨.ref C::us,kw⟩)):=
 ⟨r.hd,by have:=r.dp;rw[zhH];omega,by have:=r.un;rw[zhG];omega⟩
theorem Room.depth {k:Nat}{A:Around}(r:Room k A):A.depth<recursionLimit:=by have:=r.dp;omega
noncomputable def tNil:TA:=fun _ H Q=>Q [] H
noncomputable def zij (ta:TE)(tr:TA):TA:=fun σ H Q=>ta σ H fun x H1=>tr σ H1 fun xs H2=>Q (x::xs) H2
section
variable {X:Cx} {e:Expr} {es:List Expr} {te:TE} {t:TA} {pos:Pos}
theorem zfl:PA X [] tNil:=fun _ _ _ _ H Q I h=>Calls.spliced_nil ⟨[],H,I,.nil,h⟩
theorem zbZ (ha:PE X e te)(hr:PA X es t)(hs:starEach (e::es) X.env=(false,eval e X.env)::starEach es X.env:=by rfl):PA X (e::es) (zij te t):=by
 intro pos pins s σ H Q I h
 rw[hs]
 show wpAny _ _ (spliced ((false,eval e X.env)::backTo pos (starEach es X.env))) _ _ s
 refine Calls.spliced_cons (thn (ha pins s σ H _ I h) fun u s1 ⟨x,H1,I1,r1,q1⟩=>?_)
 exact thn (hr pos pins s1 σ H1 _ I1 q1) fun us s2 ⟨xs,H2,I2,r2,q2⟩=>⟨x::xs,H2,I2,.cons r1 r2,q2⟩
noncomputable def tTup (t:TA):TE:=fun σ H Q=>t σ H fun xs H1=>xs.length<=sizeLine/\∀p,H1 p=none->Q (.ref p) (upd H1 p (.tup xs))
noncomputable def tLst (t:TA):TE:=fun σ H Q=>t σ H fun xs H1=>xs.length<=sizeLine/\∀p,H1 p=none->Q (.ref p) (upd H1 p (.lst xs))
theorem zoK {x1}(h:PA X es t):PE X (.Tuple es x1 pos) (tTup t):=by
 intro pins s σ H Q I hq
 refine wpAny_Tuple_spliced (thn (h pos pins s σ H _ I hq) fun us s1 ⟨xs,H1,I1,r,z,q⟩=>⟨by rw[<-r.length];exact z,?_⟩)
 have hf:H1 s1.heap.objs.size=none:=I1.hok.fresh (Nat.le_refl _)
 refine⟨.ref s1.heap.objs.size,upd H1 s1.heap.objs.size (.tup xs),I1.laid (t':=s1.toks) (fun b u e=>Heap.get?_push_of_some _ e) (Nat.le_refl _) ?_,rfl,q _ hf⟩
 exact⟨z,us,r,⟨_,Heap.get?_push_size _ rfl,rfl,_,rfl⟩⟩
theorem zoO (h:PA X es t):PE X (.List es pos) (tLst t):=by
 intro pins s σ H Q I hq
 refine wpAny_List_spliced (thn (h pos pins s σ H _ I hq) fun us s1 ⟨xs,H1,I1,r,z,q⟩=>⟨by rw[<-r.length];exact z,?_⟩)
 have hf:H1 s1.heap.objs.size=none:=I1.hok.fresh (Nat.le_refl _)
 refine⟨.ref s1.heap.objs.size,upd H1 s1.heap.objs.size (.lst xs),I1.laid (t':=s1.toks) (fun b u e=>Heap.get?_push_of_some _ e) (Nat.le_refl _) ?_,rfl,q _ hf⟩
 exact⟨z,us,0,r,Heap.get?_push_size _ rfl⟩
end
noncomputable abbrev Sp:=List V->Hp->VK->XK->Prop
noncomputable abbrev CXT:=List Env->Hp->Shared->XK->Value->Shared->Prop
structure Env0 (P:Program) (w:World) (K:PySem.W.Frag) (mg:Str->Option Value) (base:Heap) (A:Around) (outer:List Env) (s:Shared) (H:Hp):Prop where
 frames:A.frames=some outer
 mod:Mod K mg base
 bs:∀b o,base.get? b=some o->s.heap.get? b=some o/\H b=none
 bsz:base.objs.size<=s.heap.objs.size
 funs:s.heap.FunFrames base outer
 frf:∀b∈frs outer,H b=none
 hok:HOk P w H s.heap
 bare:AllBare s.gens
noncomputable def CE (outer:List Env)(P:Program)(w:World)(H:Hp)(s:Shared)(Q:VK)(u:Value)(s':Shared):Prop:=
 ∃v H',s'.os=s.os/\AllBare s'.gens/\Un (frs outer) [] H H' s.heap s'.heap/\HOk P w H' s'.heap/\RelV v u/\Q v H'
noncomputable def CR (CX:CXT)(outer:List Env)(P:Program)(w:World)(H:Hp)(s:Shared)(Q:VK)(E:XK)(r:Result)(s':Shared):Prop:=
 match r with
 |.ok (.ret u)=>CE outer P w H s Q u s'
 |.ok _=>False
 |.error e=>CX outer H s E e s'
structure FnOk (P:Program) (w:World) (K:PySem.W.Frag) (mg:Str->Option Value) (base:Heap) (CX:CXT) (k:Nat) (f:Addr) (fd:FuncData) (ps:List Str) (sp:Sp):Prop where
 len:∀vs H Q E,sp vs H Q E->vs.length=ps.length
 run:∀(A:Around) (outer:List Env) (s:Shared) (H:Hp) (args:Args) (us:List Value) (vs:List V) (Q:VK) (E:XK),Room k A->Env0 P w K mg base A outer s H->BindsTo s fd args (ps.zip us)->Vals vs us->sp vs H Q E->
  codeAny (model P w) A (.call (.ref f) args) (CR CX outer P w H s Q E) s
theorem FnOk.mono {P:Program}{w:World}{K:PySem.W.Frag}{mg:Str->Option Value}{base:Heap}{CX:CXT}{j k:Nat}{f:Addr}{fd:FuncData}{ps:List Str}{sp:Sp}(F:FnOk P w K mg base CX j f fd ps sp)(h:j<=k) :
 FnOk P w K mg base CX k f fd ps sp:=⟨F.len,fun A outer s H args us vs Q E hr=>F.run A outer s H args us vs Q E (hr.mono h)⟩
theorem Env0.make {P:Program}{w:World}{K:PySem.W.Frag}{mg:Str->Option Value}{base:Heap}{A:Around}{outer:List Env}{s:Shared}{H:Hp}(e:Env0 P w K mg base A outer s H)(C:Addr)(us:List Value)(kw:List (Str × Value)) :
 Env0 P w K mg base (A.under (.builtin "type.__call__" ⟨.ref C::us,kw⟩)) outer s H:=⟨by first|exact e.frames|(simpa[Around.under,Code.envs,Code.isFrame,pushEnvs] using e.frames),e.mod,e.bs,e.bsz,e.funs,e.frf,e.hok,e.bare⟩
theorem Env0.in1 {P:Program}{w:World}{K:PySem.W.Frag}{mg:Str->Option Value}{base:Heap}{A:Around}{outer:List Env}{s:Shared}{H:Hp}(e:Env0 P w K mg base A outer s H) :
 Env0 P w K mg base A.in1 outer s H:=⟨e.frames,e.mod,e.bs,e.bsz,e.funs,e.frf,e.hok,e.bare⟩
section
variable {X:Cx} {pins:List (Addr × Obj)} {σ:St} {H:Hp} {s s':Shared}
theorem Inv.env0 (I:Inv X pins σ H s):Env0 X.prog X.w X.K X.mg X.base X.A X.stack s H:=
 ⟨I.ok.frames,I.ok.mod,I.bs,Nat.le_trans I.ok.bsz I.sz,I.stack,I.stkFree,I.hok,I.bare⟩
theorem Inv.after {Q:VK}{u:Value}(I:Inv X pins σ H s)(h:CE X.stack X.prog X.w H s Q u s'):EP X pins σ Q u s':=by
 obtain⟨v,H',os,bare,un,hok,r,q⟩:=h
 obtain⟨hh,g,d,t,os'⟩:=s'
 obtain rfl:os'=s.os:=os
 exact⟨v,H',I.call (h':=hh) (g':=g) (d':=d) (t':=t) (ch:=[]) un hok bare (fun b z=>absurd z (by simp)),r,q⟩
end
noncomputable def zeu (sp:Sp)(dvs:List V)(E:XK)(t:TA):TE:=fun σ H Q=>t σ H fun vs H1=>sp (vs++dvs) H1 Q E
noncomputable def zlV (C:Addr)(sp:Sp)(dvs:List V)(E:XK)(t:TA):TE:=fun σ H Q=>t σ H fun vs H1=>∀x dx,H1 x=none->H1 dx=none->dx≠x->
 sp (.ref x::(vs++dvs)) (upd (upd H1 dx (.own x)) x (.ins C dx [])) (fun v H2=>v=.non/\Q (.ref x) H2) E
noncomputable def Binds (K:PySem.W.Frag)(fd:FuncData)(ps:List Str)(ds:List Value):Prop:=
 ∀(s:Shared) (us:List Value),K.In s.heap->(us++ds).length=ps.length->BindsTo s fd ⟨us,[]⟩ (ps.zip (us++ds))
theorem Binds.all {K:PySem.W.Frag}{fd:FuncData}{ps:List Str}(h:∀us:List Value,us.length=ps.length->bindArgs fd ⟨us,[]⟩=pure (ps.zip us)):Binds K fd ps []:=fun s us _ hl=>by
 rw[List.append_nil] at hl⊢
 exact .of_eq (h us hl)
noncomputable def zdU (CX:CXT)(X:Cx)(E:XK):Prop:=∀(pins:List (Addr × Obj)) (σ:St) (H:Hp) (s:Shared) (e:Value) (s':Shared),Inv X pins σ H s->CX X.stack H s E e s'->X.xe e s'
section
variable {X:Cx} {CX:CXT} {k:Nat} {f C:Addr} {fd:FuncData} {ps:List Str} {sp:Sp} {dvs:List V} {ds:List Value} {E:XK} {x m:Str} {p pos apos:Pos} {e o:Expr} {es:List Expr} {ta:TE} {t:TA}
theorem zfe {pins:List (Addr × Obj)}{σ:St}{H:Hp}{s:Shared}{Q:VK}{us:List Value}{vs:List V}(F:FnOk X.prog X.w X.K X.mg X.base CX k f fd ps sp)(hr:Room k X.A)(hb:Binds X.K fd ps ds)(hd:Vals dvs ds)(hx:zdU CX X E)
  (I:Inv X pins σ H s) (r:Vals vs us) (h:sp (vs++dvs) H Q E):wpAny (model X.prog X.w) X.A (call (.ref f) us) (EP X pins σ Q) X.xe s:=by
 have r2:Vals (vs++dvs) (us++ds):=r.append hd
 have hl:(us++ds).length=ps.length:=by rw[<-r2.length];exact F.len _ _ _ _ h
 refine wpAny_call (codeAny_mono (F.run X.A X.stack s H ⟨us,[]⟩ (us++ds) (vs++dvs) Q E hr I.env0 (hb s us I.kIn hl) r2 h) fun r s' hq=>?_)
 cases r with
 |error e=>exact hx pins σ H s e s' I hq
 | ok fl =>
   cases fl with
   |ret u=>exact I.after hq
   |next=>exact False.elim hq
   |brk=>exact False.elim hq
   |cont=>exact False.elim hq
theorem zmM (F:FnOk X.prog X.w X.K X.mg X.base CX k f fd ps sp)(hr:Room k X.A)(hg:Gl X x)(hm:X.mg x=some (.ref f))(hk:PySem.W.keepIn X.K (.ref f)=true)(hb:Binds X.K fd ps ds)(hd:Vals dvs ds)(hx:zdU CX X E)
  (ha:PA X (e::es) t) (hdb:(x == ("__debug__":Str))=false:=by decide) (he:starEach (e::es) X.env=(false,eval e X.env)::starEach es X.env:=by rfl) (hpl:(backTo pos (starEach es X.env)).any (·.1)=false:=by rfl) :
  PE X (.Call (.Name x p) (e::es) [] pos) (zeu sp dvs E t):=by
 intro pins s σ H Q I h
 refine wpAny_Call_Name_kw (zdD I hg hm ?_ hdb)
 refine PySem.W.callWith_K (h₀:=X.base) I.ok.mod.kin hk (thn (ha pos pins s σ H _ I h) fun us s1 ⟨vs,H1,I1,r,q⟩=>⟨I1.kIn,?_⟩) he hpl
 exact zfe F hr hb hd hx I1 r q
theorem zky (F:FnOk X.prog X.w X.K X.mg X.base CX k f fd ps sp)(hr:Room k X.A)(hg:Gl X x)(hm:X.mg x=some (.ref f))(hk:PySem.W.keepIn X.K (.ref f)=true)(hb:Binds X.K fd ps ds)(hd:Vals dvs ds)(hx:zdU CX X E)
  (hdb:(x == ("__debug__":Str))=false:=by decide):PE X (.Call (.Name x p) [] [] pos) (zeu sp dvs E tNil):=by
 intro pins s σ H Q I h
 refine wpAny_Call_Name_kw (zdD I hg hm ?_ hdb)
 exact PySem.W.callWith_K0 I.kIn hk (zfe (us:=[]) F hr hb hd hx I .nil h)
structure Mk (K:PySem.W.Frag) (C f:Addr):Prop where
 makes:PySem.W.makesIn K C=true
 init:PySem.W.findIn K (.ref C) "__init__"=some (some (.ref f))
 fn:PySem.W.isFn K (.ref f)=true
 kp:PySem.W.keepIn K (.ref C)=true
theorem zgK {pins:List (Addr × Obj)}{σ:St}{H:Hp}{s:Shared}{Q:VK}{us:List Value}{vs:List V}(M:Mk X.K C f)(F:FnOk X.prog X.w X.K X.mg X.base CX k f fd ps sp)(hr:Room (k+1) X.A)(hb:Binds X.K fd ps ds)(hd:Vals dvs ds)
  (hx:zdU CX X E) (I:Inv X pins σ H s) (r:Vals vs us)
  (h:∀x dx,H x=none->H dx=none->dx≠x->sp (.ref x::(vs++dvs)) (upd (upd H dx (.own x)) x (.ins C dx [])) (fun v H2=>v=.non/\Q (.ref x) H2) E) :
  wpAny (model X.prog X.w) X.A (call (.ref C) us) (EP X pins σ Q) X.xe s:=by
 have hq:=h (s.heap.objs.size+1) s.heap.objs.size (I.hok.fresh (Nat.le_succ _)) (I.hok.fresh (Nat.le_refl _)) (Nat.ne_of_lt (Nat.lt_succ_self _))
 have I2:=Inv.made (C:=C) I
 have r2:Vals (V.ref (s.heap.objs.size+1)::(vs++dvs)) (Value.ref (s.heap.objs.size+1)::(us++ds)):=.cons rfl (r.append hd)
 have hl:(Value.ref (s.heap.objs.size+1)::us++ds).length=ps.length:=by
  have e:=r2.length
  rw[F.len _ _ _ _ hq] at e
  exact e.symm
 refine wpAny_call (zkF (f:=f) I.kIn M.makes M.init (beq_iff_eq.mp M.fn) (codeAny_mono (F.run _ X.stack _ _ ⟨Value.ref (s.heap.objs.size+1)::us,[]⟩ (Value.ref (s.heap.objs.size+1)::(us++ds)) _ _ E (hr.make C us [])
  (I2.env0.make C us []) (hb _ (Value.ref (s.heap.objs.size+1)::us) I2.kIn hl) r2 hq) fun r s' hq'=>?_))
 cases r with
 |error e=>exact hx pins σ _ _ e s' I2 hq'
 | ok fl =>
   cases fl with
   | ret u =>
     obtain⟨v,H',I3,rv,ev,q3⟩:=I2.after hq'
     subst ev
     exact⟨rv,⟨V.ref (s.heap.objs.size+1),H',I3,rfl,q3⟩⟩
   |next=>exact False.elim hq'
   |brk=>exact False.elim hq'
   |cont=>exact False.elim hq'
theorem zmK (M:Mk X.K C f)(F:FnOk X.prog X.w X.K X.mg X.base CX k f fd ps sp)(hr:Room (k+1) X.A)(hg:Gl X x)(hm:X.mg x=some (.ref C))(hb:Binds X.K fd ps ds)(hd:Vals dvs ds)(hx:zdU CX X E)
  (ha:PA X (e::es) t) (hdb:(x == ("__debug__":Str))=false:=by decide) (he:starEach (e::es) X.env=(false,eval e X.env)::starEach es X.env:=by rfl) (hpl:(backTo pos (starEach es X.env)).any (·.1)=false:=by rfl) :
  PE X (.Call (.Name x p) (e::es) [] pos) (zlV C sp dvs E t):=by
 intro pins s σ H Q I h
 refine wpAny_Call_Name_kw (zdD I hg hm ?_ hdb)
 refine PySem.W.callWith_K (h₀:=X.base) I.ok.mod.kin M.kp (thn (ha pos pins s σ H _ I h) fun us s1 ⟨vs,H1,I1,r,q⟩=>⟨I1.kIn,?_⟩) he hpl
 exact zgK M F hr hb hd hx I1 r q
theorem zkp (M:Mk X.K C f)(F:FnOk X.prog X.w X.K X.mg X.base CX k f fd ps sp)(hr:Room (k+1) X.A)(hg:Gl X x)(hm:X.mg x=some (.ref C))(hb:Binds X.K fd ps ds)(hd:Vals dvs ds)(hx:zdU CX X E)
  (hdb:(x == ("__debug__":Str))=false:=by decide):PE X (.Call (.Name x p) [] [] pos) (zlV C sp dvs E tNil):=by
 intro pins s σ H Q I h
 refine wpAny_Call_Name_kw (zdD I hg hm ?_ hdb)
 exact PySem.W.callWith_K0 I.kIn M.kp (zgK (us:=[]) M F hr hb hd hx I .nil h)
end
noncomputable def PK (X:Cx)(kws:List Keyword)(t:TA):Prop:=
 ∀(pos:Pos) (pins:List (Addr × Obj)) (s:Shared) (σ:St) (H:Hp) (Q:List V->Hp->Prop),Inv X pins σ H s->t σ H Q->wpAny (model X.prog X.w) X.A (evalAll ((backToKw pos (keywordEach kws X.env)).map (·.2))) (AP X pins σ Q) X.xe s
section
variable {X:Cx} {CX:CXT} {k:Nat} {f C:Addr} {fd:FuncData} {ps ks:List Str} {sp:Sp} {E:XK} {x m:Str} {p pos apos kpos:Pos} {e o:Expr} {es:List Expr} {kws:List Keyword} {te ta:TE} {t tk:TA} {nm:Option Str}
theorem zoG:PK X [] tNil:=fun _ _ _ _ H Q I h=>wpAny_evalAll_nil ⟨[],H,I,.nil,h⟩
theorem zmH (ha:PE X e te)(hr:PK X kws t):PK X (⟨nm,e,kpos⟩::kws) (zij te t):=by
 intro pos pins s σ H Q I h
 show wpAny _ _ (evalAll ((do let v <-eval e X.env;standAt pos;pure v)::(backToKw pos (keywordEach kws X.env)).map (·.2))) _ _ s
 refine wpAny_evalAll_cons (wpAny_bind (thn (ha pins s σ H _ I h) fun u s1 ⟨x,H1,I1,r1,q1⟩=>wpAny_bind (wpAny_standAt (wpAny_pure ?_))))
 exact thn (hr pos pins s1 σ H1 _ I1 q1) fun us s2 ⟨xs,H2,I2,r2,q2⟩=>⟨x::xs,H2,I2,.cons r1 r2,q2⟩
structure KBinds (K:PySem.W.Frag) (fd:FuncData) (ps ks:List Str) (g:List Value->List Value->List Value) (gV:List V->List V->List V):Prop where
 to:∀(s:Shared) (us ws:List Value),K.In s.heap->(g us ws).length=ps.length->BindsTo s fd ⟨us,ks.zip ws⟩ (ps.zip (g us ws))
 rel:∀{vs:List V} {us:List Value} {zs:List V} {ws:List Value},Vals vs us->Vals zs ws->Vals (gV vs zs) (g us ws)
variable {g:List Value->List Value->List Value} {gV:List V->List V->List V}
end
structure FnScope (N P:List Str) (sc:Scope):Prop where
 kind:sc.kind=.function
 co:sc.isCoroutine=false
 gen:sc.isGenerator=false
 nd:N.Nodup
 pre:N.take P.length=P
 par:∀x∈P,sc.names.lookup x=some .local\/sc.names.lookup x=some .cell
 nofree:∀y∈sc.names,y.2≠.free
theorem zfM {kindOf:Str->Option NameKind}{x:Str}:∀{binds:List (Str × Value)} {m:Str->Option Value},(∀v,(x,v)∉binds)->bindL kindOf binds m x=m x
 | [],_,_=>rfl
 | (n, v) :: r, m, h => by
   unfold bindL
   rw[zfM fun w hw=>h w (List.mem_cons_of_mem _ hw)]
   split
   · have:x≠n:=by rintro rfl;exact h v List.mem_cons_self
     simp[this]
   · rfl
theorem zfO {kindOf:Str->Option NameKind}{x:Str}:∀{binds:List (Str × Value)} {m:Str->Option Value},(∀v,(x,v)∉binds)->bindC kindOf binds m x=m x
 | [],_,_=>rfl
 | (n, v) :: r, m, h => by
   unfold bindC
   rw[zfO fun w hw=>h w (List.mem_cons_of_mem _ hw)]
   split
   · rfl
   · have:x≠n:=by rintro rfl;exact h v List.mem_cons_self
     simp[this]
theorem zfN {kindOf:Str->Option NameKind}{x:Str}{v:Value}:∀{P:List Str} {vs:List Value} {i:Nat} {m:Str->Option Value},P.Nodup->P[i]?=some x->vs[i]?=some v->kindOf x=some .local->
  bindL kindOf (P.zip vs) m x=some v
 | [],_,_,_,_,h,_,_=>by simp at h
 |_::_,[],_,_,_,_,h,_=>by simp at h
 | p :: P, w :: vs, 0, m, nd, h1, h2, hk => by
   simp at h1 h2;subst h1;subst h2
   show bindL kindOf ((p,w)::P.zip vs) m p=_
   unfold bindL
   rw[zfM fun v hv=>(List.nodup_cons.mp nd).1 (List.of_mem_zip hv).1,if_pos hk]
   simp
 | p :: P, w :: vs, i + 1, m, nd, h1, h2, hk => by
   show bindL kindOf ((p,w)::P.zip vs) m x=_
   unfold bindL
   exact zfN (i:=i) (List.nodup_cons.mp nd).2 (by simpa using h1) (by simpa using h2) hk
theorem zfP {kindOf:Str->Option NameKind}{x:Str}{v:Value}:∀{P:List Str} {vs:List Value} {i:Nat} {m:Str->Option Value},P.Nodup->P[i]?=some x->vs[i]?=some v->kindOf x≠some .local->
  bindC kindOf (P.zip vs) m x=some v
 | [],_,_,_,_,h,_,_=>by simp at h
 |_::_,[],_,_,_,_,h,_=>by simp at h
 | p :: P, w :: vs, 0, m, nd, h1, h2, hk => by
   simp at h1 h2;subst h1;subst h2
   show bindC kindOf ((p,w)::P.zip vs) m p=_
   unfold bindC
   rw[zfO fun v hv=>(List.nodup_cons.mp nd).1 (List.of_mem_zip hv).1,if_neg hk]
   simp
 | p :: P, w :: vs, i + 1, m, nd, h1, h2, hk => by
   show bindC kindOf ((p,w)::P.zip vs) m x=_
   unfold bindC
   exact zfP (i:=i) (List.nodup_cons.mp nd).2 (by simpa using h1) (by simpa using h2) hk
noncomputable def start (N:List Str)(vs:List V):St:=vs.map some++List.replicate (N.length - vs.length) none
noncomputable def cxOf (CX:CXT)(P:Program)(w:World)(K:PySem.W.Frag)(mg:Str->Option Value)(base:Heap)(N:List Str)(qual:Str)(scope:Scope)(f:Addr)(cd:Value)(A:Around)(outer:List Env)(s:Shared)(H:Hp)(E:XK):Cx where
 prog:=P
 w:=w
 K:=K
 mg:=mg
 base:=base
 A:=A.deeper (envOfC qual scope s.heap.objs.size f cd)
 N:=N
 s₀:=s
 H₀:=H
 env:=envOfC qual scope s.heap.objs.size f cd
 outer:=outer
 stack:=envOfC qual scope s.heap.objs.size f cd::outer
 ex:=[]
 calm:=true
 fn:=fun _=>true
 pn:=[]
 xe:=fun e s'=>wpAny (model P w) (A.deeper (envOfC qual scope s.heap.objs.size f cd)) (leaving (envOfC qual scope s.heap.objs.size f cd) e) (fun _ s''=>CX outer H s E e s'') (fun e' s''=>CX outer H s E e' s'') s'
theorem zhn {sc:Scope}{n:Nat}{x:Str}(h:sc.names.lookup x=some .cell):∃c,(cellsFrom n sc.names []).lookup x=some c:=by
 have q:=PySem.W.cellsFrom_some sc.names n [] (.inl h)
 exact Option.isSome_iff_exists.mp q
theorem zft {CX:CXT}{P:Program}{w:World}{K:PySem.W.Frag}{mg:Str->Option Value}{base:Heap}{N ps:List Str}{qual:Str}{scope:Scope}{f:Addr}{cd:Value}{A:Around}{outer:List Env}{s s1:Shared}{H:Hp}{E:XK}{us:List Value}{vs:List V}
  (S:FnScope N ps scope) (hd:A.handled=none) (e0:Env0 P w K mg base A outer s H) (hl:vs.length=ps.length) (r:Vals vs us)
  (x:InCallC s s.heap.objs.size (bindL (envOfC qual scope s.heap.objs.size f cd).kindOf (ps.zip us) fun _=>none) (cellsFrom (s.heap.objs.size+1) scope.names []) (bindC (envOfC qual scope s.heap.objs.size f cd).kindOf (ps.zip us) fun _=>none) s1) :
  Inv (cxOf CX P w K mg base N qual scope f cd A outer s H E) [] (start N vs) H s1:=by
 have hpl:ps.length<=N.length:=by have:=congrArg List.length S.pre;rw[List.length_take] at this;omega
 obtain⟨h1,tk,rfl,hk⟩:=x.done
 have noA:∀b:Addr,b∉(cxOf CX P w K mg base N qual scope f cd A outer s H E).ex:=fun b z=>absurd (show b∈([]:List Addr) from z) (by simp)
 refine⟨⟨e0.mod,S.kind,rfl,rfl,Nat.le_refl _,fun y z c h1 h2=>?_,fun y hy=>?_,fun y c _ h=>?_,fun _=>hd,Around.frames_deeper e0.frames,.inr ⟨rfl,rfl⟩,fun b z=>absurd z (noA b),e0.bs,e0.bsz,fun b _ _=>noA b,fun b z=>absurd z (noA b),e0.funs,e0.frf⟩,
  rfl,e0.bare,Un.kept hk,⟨_,x.toInCall.ns,fun i y v h1 h2 h3=>?_⟩,fun y c h=>⟨_,x.cell y c h⟩,e0.hok.fresh (Nat.le_refl _),fun y c h=>?_,fun p hp=>absurd (show p∈([]:List (Addr × Obj)) from hp) (by simp),e0.hok.kept hk,?_⟩
 · exact name_of_addr x.apart (PySem.mem_of_lookup h1) (PySem.mem_of_lookup h2)
 · have hy:scope.names.lookup y=some .cell\/scope.names.lookup y=some .free:=hy
   rcases hy with hy|hy
   · exact zhn hy
   · exact absurd rfl (S.nofree _ (PySem.mem_of_lookup hy))
 · exact Nat.le_of_lt (x.above y c (PySem.mem_of_lookup h))
 · have hi:i<vs.length:=by
    unfold start at h2
    by_cases hi:i<vs.length
    · exact hi
    · rw[List.getElem?_append_right (by simpa using hi)] at h2
      rw[List.getElem?_replicate] at h2
      split at h2<;>cases h2
   have ha:vs[i]?=some v:=by
    unfold start at h2
    rw[List.getElem?_append_left (by simpa using hi),List.getElem?_map] at h2
    cases e:vs[i]? with
    |none=>rw[e] at h2;cases h2
    |some a=>rw[e] at h2;cases h2;rfl
   obtain⟨u,hu,rv⟩:=r.get ha
   have hp:ps[i]?=some y:=by
    rw[<-S.pre,List.getElem?_take_of_lt (by omega)];exact h1
   have ndP:ps.Nodup:=by rw[<-S.pre];exact S.nd.sublist (List.take_sublist _ _)
   refine⟨u,rv,?_⟩
   rcases S.par y (List.mem_of_getElem? hp) with k|k
   · exact .inl ⟨k,zfN ndP hp hu k⟩
   · obtain⟨c,e⟩:=zhn (n:=s.heap.objs.size+1) k
     refine .inr ⟨.inl k,c,e,?_⟩
     have q:=x.cell y c e
     rw[zfP ndP hp hu (by show scope.names.lookup y≠_;rw[k];decide)] at q
     exact q
 · exact e0.hok.fresh (Nat.le_of_lt (x.above y c (PySem.mem_of_lookup h)))
 · unfold start
   show _=N.length
   rw[List.length_append,List.length_map,List.length_replicate]
   omega
theorem zpp {CX:CXT}{P:Program}{w:World}{K:PySem.W.Frag}{mg:Str->Option Value}{base:Heap}{k:Nat}{f:Addr}{name qual:Str}{params:Arguments}{body:List Stmt}{scope:Scope}{dV kV doc pm cdv ct oc:Value}{an od:Option Addr}
  {osl:Array (Option Value)} {N ps:List Str} {sp:Sp} (lk:K.lookup f=some ⟨oc,od,.func (PySem.W.fnOf name qual params body scope dV kV doc pm an cdv ct),osl⟩) (hcd:PySem.W.codeIn K cdv qual=true) (S:FnScope N ps scope)
  (len:∀vs H Q E,sp vs H Q E->vs.length=ps.length)
  (hbody:∀(A:Around) (outer:List Env) (s:Shared) (H:Hp) (vs:List V) (Q:VK) (E:XK),Room k (A.deeper (envOfC qual scope s.heap.objs.size f cdv))->sp vs H Q E->
   ∃t,PSs (cxOf CX P w K mg base N qual scope f cdv A outer s H E) body t/\t {nx:=fun _ H'=>Q .non H',rt:=Q} (start N vs) H) :
  FnOk P w K mg base CX (k+1) f (PySem.W.fnOf name qual params body scope dV kV doc pm an cdv ct) ps sp:=by
 refine⟨len,fun A outer s H args us vs Q E hr e0 hb r hsp=>?_⟩
 have hl:=len _ _ _ _ hsp
 have KX:K.In s.heap:=e0.mod.kin.keeps fun b o e=>(e0.bs b o e).1
 have lim:s.heap.NoLimit:=e0.mod.nolimit.keeps fun b o e=>(e0.bs b o e).1
 have hkind:∀y∈ps.zip us,scope.names.lookup y.1=some .local\/(scope.names.lookup y.1=some .cell/\((cellsFrom (s.heap.objs.size+1) scope.names []).lookup y.1).isSome=true):=fun⟨n,v⟩ hy=>by
  rcases S.par n (List.of_mem_zip hy).1 with q|q
  · exact .inl q
  · exact .inr ⟨q,PySem.W.cellsFrom_some _ _ _ (.inl q)⟩
 refine codeAny_call_function hr.depth (KX _ _ lk) rfl S.co S.gen rfl (PySem.W.codeRec_of KX hcd) (hb _ _ _ _ ?_)
 refine wpAny_newFunctionEnv_cells S.kind hkind fun env he s1 x=>?_
 subst he
 refine⟨lim.keeps x.toInCall.keep,codeAny_func ?_⟩
 obtain⟨t,ht,hq⟩:=hbody A outer s H vs Q E (hr.deeper _) hsp
 have I:Inv (cxOf CX P w K mg base N qual scope f cdv A outer s H E) [] (start N vs) H s1:=zft S hr.hd e0 hl r x
 refine wpAny_mono (ht [] s1 (start N vs) H _ I hq) (fun fl s' hs=>?_) fun e s' hs=>hs
 have fin:∀{σ':St} {H':Hp} {v:V} {u:Value},Inv (cxOf CX P w K mg base N qual scope f cdv A outer s H E) [] σ' H' s'->RelV v u->Q v H'->CE outer P w H s Q u s':=
  fun {σ' H' v u} J rv q=>⟨v,H',J.os,J.bare,J.base,J.hok,rv,q⟩
 cases fl with
 | ret u =>
   obtain⟨v,σ',H',J,rv,q⟩:=hs
   exact fin J rv q
 | next =>
   obtain⟨σ',H',J,q⟩:=hs
   exact fin (v:=V.non) (u:=Value.none) J rfl q
 | brk =>
   obtain⟨_,_,_,q⟩:=hs
   exact False.elim q
 | cont =>
   obtain⟨_,_,_,q⟩:=hs
   exact False.elim q
end L2
namespace L2
open PySem PySem.Spec PyProof.Rows
section
variable {X:Cx} {x:Str} {p pos:Pos} {e:Expr} {es:List Expr} {t:TA} {id T:String} {r:List V->Hp->VK->Prop}
noncomputable def tCB (r:List V->Hp->VK->Prop)(t:TA):TE:=fun σ H Q=>t σ H fun vs H1=>r vs H1 Q
theorem zde (hc:zbB X (.builtin id) r)(hg:Gl X x)(hm:X.mg x=none)(hv:bootBuiltins x=some (.builtin id))(ha:PA X (e::es) t)(hn:x≠"__name__":=by decide)(hdb:(x == ("__debug__":Str))=false:=by decide)
  (he:starEach (e::es) X.env=(false,eval e X.env)::starEach es X.env:=by rfl) (hpl:(backTo pos (starEach es X.env)).any (·.1)=false:=by rfl):PE X (.Call (.Name x p) (e::es) [] pos) (tCB r t):=by
 intro pins s σ H Q I h
 refine wpAny_Call_Name_kw (zdE I hg hm hv ?_ hn hdb)
 exact PyProof.Rows.callWith_builtin1 (thn (ha pos pins s σ H _ I h) fun us s1 ⟨vs,H1,I1,r1,q1⟩=>hc pins s1 σ H1 vs us Q I1 r1 q1) he hpl
theorem zbT (hc:zbB X (.type T) r)(hg:Gl X x)(hm:X.mg x=none)(hv:bootBuiltins x=some (.type T))(ha:PA X (e::es) t)(hn:x≠"__name__":=by decide)(hdb:(x == ("__debug__":Str))=false:=by decide)
  (he:starEach (e::es) X.env=(false,eval e X.env)::starEach es X.env:=by rfl) (hpl:(backTo pos (starEach es X.env)).any (·.1)=false:=by rfl):PE X (.Call (.Name x p) (e::es) [] pos) (tCB r t):=by
 intro pins s σ H Q I h
 refine wpAny_Call_Name_kw (zdE I hg hm hv ?_ hn hdb)
 exact PyProof.Rows.callWith_type1 (thn (ha pos pins s σ H _ I h) fun us s1 ⟨vs,H1,I1,r1,q1⟩=>hc pins s1 σ H1 vs us Q I1 r1 q1) he hpl
end
end L2
namespace L2
open PySem PySem.Spec PyProof.Rows
section
variable {κ:Type} [DecidableEq κ]
noncomputable def valV (kvs:List (κ × V))(k:κ):Option V:=(kvs.find? fun kv=>decide (kv.1=k)).map (·.2)
noncomputable def putK (kvs:List (κ × V))(k:κ)(v:V):List (κ × V):=
 if (kvs.any fun kv=>decide (kv.1=k))=true then kvs.map (fun kv=>if kv.1=k then (kv.1,v) else kv) else kvs++[(k,v)]
theorem zep {p:κ × V}{r:List (κ × V)}{k:κ}(e:p.1=k):valV (p::r) k=some p.2:=by simp[valV,List.find?_cons,e]
theorem zeq {p:κ × V}{r:List (κ × V)}{k:κ}(e:¬p.1=k):valV (p::r) k=valV r k:=by simp[valV,List.find?_cons,e]
theorem zgA (k:κ):∀kvs:List (κ × V),(kvs.any fun kv=>decide (kv.1=k))=(valV kvs k).isSome
 | []=>rfl
 | p :: r => by
   rw[List.any_cons]
   by_cases e:p.1=k
   · simp only[zep e,decide_eq_true e,Bool.true_or,Option.isSome_some]
   · rw[zeq e,decide_eq_false e,Bool.false_or];exact zgA k r
theorem zcu (kvs:List (κ × V))(k:κ)(v:V):(putK kvs k v).length<=kvs.length+1:=by
 unfold putK
 split
 · rw[List.length_map];omega
 · rw[List.length_append,List.length_cons,List.length_nil];omega
theorem RelO.isSome_eq {o:Option V}{u:Option Value}(r:RelO o u):o.isSome=u.isSome:=by
 cases o with
 | none => cases u with
   |none=>rfl
   |some _=>exact (show False from r).elim
 | some _ => cases u with
   |none=>exact (show False from r).elim
   |some _=>rfl
theorem RelO.getD {o:Option V}{u:Option Value}{d:V}{d':Value}(r:RelO o u)(rd:RelV d d'):RelV (o.getD d) (u.getD d'):=by
 cases o with
 | none => cases u with
   |none=>exact rd
   |some _=>exact (show False from r).elim
 | some _ => cases u with
   |none=>exact (show False from r).elim
   |some _=>exact r
theorem KV.val {kvs:List (κ × V)}{vs:List (κ × Value)}(r:KV kvs vs)(k:κ):RelO (valV kvs k) (valueAt vs k):=by
 unfold KV at r
 induction r with
 |nil=>exact True.intro
 | @cons p q ps qs h t ih =>
   obtain⟨h1,h2⟩:=h
   by_cases e:p.1=k
   · have e':q.1=k:=h1.symm.trans e
     have b:valueAt (q::qs) k=some q.2:=by simp[valueAt,List.find?_cons,e']
     rw[zep e,b];exact h2
   · have e':¬q.1=k:=fun z=>e (h1.trans z)
     have b:valueAt (q::qs) k=valueAt qs k:=by simp[valueAt,List.find?_cons,e']
     rw[zeq e,b];exact ih
theorem KV.any {kvs:List (κ × V)}{vs:List (κ × Value)}(r:KV kvs vs)(k:κ):(kvs.any fun kv=>decide (kv.1=k))=vs.any fun kv=>decide (kv.1=k):=by
 unfold KV at r
 induction r with
 |nil=>rfl
 |cons h t ih=>rw[List.any_cons,List.any_cons,ih,h.1]
theorem KV.repl {kvs:List (κ × V)}{vs:List (κ × Value)}(r:KV kvs vs)(k:κ){y:V}{u:Value}(ry:RelV y u) :
  KV (kvs.map fun kv=>if kv.1=k then (kv.1,y) else kv) (vs.map fun kv=>if kv.1=k then (kv.1,u) else kv):=by
 unfold KV at r⊢
 induction r with
 |nil=>exact .nil
 | @cons p q ps qs h t ih =>
   rw[List.map_cons,List.map_cons]
   refine .cons ?_ ih
   obtain⟨h1,h2⟩:=h
   by_cases e:p.1=k
   · rw[if_pos e,if_pos (h1.symm.trans e)];exact⟨h1,ry⟩
   · rw[if_neg e,if_neg (fun z=>e (h1.trans z))];exact⟨h1,h2⟩
theorem KV.put {kvs:List (κ × V)}{vs:List (κ × Value)}(r:KV kvs vs)(k:κ){y:V}{u:Value}(ry:RelV y u):KV (putK kvs k y) (stored vs k u):=by
 unfold putK stored
 rw[r.any k]
 by_cases e:(vs.any fun kv=>decide (kv.1=k))=true
 · rw[if_pos e,if_pos e];exact r.repl k ry
 · rw[if_neg e,if_neg e];exact Paired.snoc r ⟨rfl,ry⟩
theorem KV.length {kvs:List (κ × V)}{vs:List (κ × Value)}(r:KV kvs vs):kvs.length=vs.length:=Paired.length r
end
theorem zhM {P:Program}{w:World}{k:Key}{u:Value}(r:RelV (kV k) u):(zaH P w).is k u=true:=by
 cases k with
 |inl i=>obtain⟨t,e⟩:=(show ∃t,u=Value.int i t from r);subst e;exact zgc P w i t
 |inr x=>obtain⟨t,e⟩:=(show ∃t,u=Value.str x t from r);subst e;exact zgb P w x t
theorem zfq {P:Program}{w:World}:∀{ks:List Key} {us:List Value},Vals (ks.map kV) us->ItemsAre (zaH P w) ks us
 | [],_,r=>by rw[List.map_nil] at r;cases r;exact .nil
 | k :: ks, _, r => by
   rw[List.map_cons] at r
   cases r with
   |cons h t=>exact .cons (zhM h) (zfq t)
noncomputable abbrev KT (H:Hp):List (List Key × V)->List (List Key × Addr × Value)->Prop:=Paired fun p q=>p.1=q.1/\H q.2.1=some (.tup (p.1.map kV))/\RelV p.2 q.2.2
theorem KT.val {H:Hp}{kvs:List (List Key × V)}{xs:List (List Key × Addr × Value)}(r:KT H kvs xs)(k:List Key):RelO (valV kvs k) ((atKey xs k).map (·.2)):=by
 induction r with
 |nil=>exact True.intro
 | @cons p q ps qs h t ih =>
   obtain⟨h1,_,h2⟩:=h
   by_cases e:p.1=k
   · have e':q.1=k:=h1.symm.trans e
     have b:atKey (q::qs) k=some q.2:=by simp[atKey,List.find?_cons,e']
     rw[zep e,b];exact h2
   · have e':¬q.1=k:=fun z=>e (h1.trans z)
     have b:atKey (q::qs) k=atKey qs k:=by simp[atKey,List.find?_cons,e']
     rw[zeq e,b];exact ih
theorem KT.repl {H:Hp}{kvs:List (List Key × V)}{xs:List (List Key × Addr × Value)}(r:KT H kvs xs)(k:List Key){y:V}{u:Value}(ry:RelV y u) :
  KT H (kvs.map fun kv=>if kv.1=k then (kv.1,y) else kv) (xs.map (putAt k u)):=by
 induction r with
 |nil=>exact .nil
 | @cons p q ps qs h t ih =>
   rw[List.map_cons,List.map_cons]
   refine .cons ?_ ih
   obtain⟨h1,h2,h3⟩:=h
   unfold putAt
   by_cases e:p.1=k
   · rw[if_pos e,if_pos (h1.symm.trans e)];exact⟨h1,h2,ry⟩
   · rw[if_neg e,if_neg (fun z=>e (h1.trans z))];exact⟨h1,h2,h3⟩
theorem KT.put {H:Hp}{kvs:List (List Key × V)}{xs:List (List Key × Addr × Value)}(r:KT H kvs xs)(k:List Key){b:Addr}{y:V}{u:Value}(hb:H b=some (.tup (k.map kV)))(ry:RelV y u) :
  KT H (putK kvs k y) (storedH xs k b u):=by
 have e:(kvs.any fun kv=>decide (kv.1=k))=(atKey xs k).isSome:=by
  rw[zgA,(r.val k).isSome_eq,Option.isSome_map]
 unfold putK storedH
 rw[e]
 by_cases q:(atKey xs k).isSome=true
 · rw[if_pos q,if_pos q];exact r.repl k ry
 · rw[if_neg q,if_neg q];exact Paired.snoc r ⟨rfl,hb,ry⟩
theorem KT.keeps {H H':Hp}{kvs:List (List Key × V)}{xs:List (List Key × Addr × Value)}(r:KT H kvs xs)(ht:∀b ys,H b=some (.tup ys)->H' b=some (.tup ys)):KT H' kvs xs:=
 Paired.mapP r fun _ _ z=>⟨z.1,ht _ _ z.2.1,z.2.2⟩
section
variable {P:Program} {w:World} {H:Hp} {h:Heap} {a:Addr}
theorem zov {u:HO}(ok:HOk P w H h)(e:Rd H a u):ObjOk P w H h a u:=e.ok ok
theorem zgj {kvs:List (Key × V)}(ok:HOk P w H h)(e:Rd H a (.dK kvs)):kvs.length<=sizeLine/\(a == sysModules)=false/\∃vs,KV kvs vs/\h.DictOf (zaH P w) a vs:=
 show ObjOk P w H h a (.dK kvs) from zov ok e
theorem zqw {kvs:List (Key × V)}(ok:HOk P w H h)(e:H a=some (.dK kvs)):kvs.length<=sizeLine/\(a == sysModules)=false/\∃vs,KV kvs vs/\h.DictOf (zaH P w) a vs:=zgj ok (.inl e)
theorem zdH {ks:List Key}(ok:HOk P w H h)(e:H a=some (.tup (ks.map kV))):(tupleKind (zaH P w)).is h ks a:=by
 obtain⟨_,its,r,o,h1,h2,n,h3⟩:=(show ObjOk P w H h a (.tup (ks.map kV)) from ok a _ e)
 exact⟨o,its.toArray,n,h1,h2,h3,by simpa using zfq r⟩
theorem zhR {kvs:List (List Key × V)}(ok:HOk P w H h)(e:Rd H a (.dT kvs)):kvs.length<=sizeLine/\(a == sysModules)=false/\
  ∃xs,KT H kvs xs/\h.DictOfH (tupleKind (zaH P w)) a xs:=by
 obtain⟨z,y,xs,r,o,es,ep,h1,h2,h3,h4,h5⟩:=(show ObjOk P w H h a (.dT kvs) from zov ok e)
 refine⟨z,y,xs,r,o,es,ep,h1,h2,h3,h4,fun x hx=>?_,h5⟩
 have all:∀{l:List (List Key × V)} {m:List (List Key × Addr × Value)},KT H l m->∀x∈m,(tupleKind (zaH P w)).is h x.1 x.2.1:=by
  intro l m q
  induction q with
  |nil=>intro x hx;exact nomatch hx
  | @cons p q ps qs hq t ih =>
    intro x hx
    rcases List.mem_cons.mp hx with e|hx
    · subst e
      exact zdH ok (by rw[<-hq.1];exact hq.2.1)
    · exact ih x hx
 exact all r x hx
theorem zfz {kvs:List (List Key × V)}(ok:HOk P w H h)(e:H a=some (.dT kvs)):kvs.length<=sizeLine/\(a == sysModules)=false/\
 ∃xs,KT H kvs xs/\h.DictOfH (tupleKind (zaH P w)) a xs:=zhR ok (.inl e)
end
noncomputable def DGet (H:Hp)(a:Addr)(y:V)(r:Option V):Prop:=
 (∃kvs k,Rd H a (.dK kvs)/\y=kV k/\r=valV kvs k)\/∃kvs k b,Rd H a (.dT kvs)/\y=.ref b/\H b=some (.tup (k.map kV))/\r=valV kvs k
noncomputable def DPut (H:Hp)(a:Addr)(y v:V)(H':Hp):Prop:=
 (∃kvs k,H a=some (.dK kvs)/\y=kV k/\kvs.length<sizeLine/\H'=upd H a (.dK (putK kvs k v)))\/
 ∃kvs k b,H a=some (.dT kvs)/\y=.ref b/\H b=some (.tup (k.map kV))/\kvs.length<sizeLine/\H'=upd H a (.dT (putK kvs k v))
theorem DGet.k {H:Hp}{a:Addr}{kvs:List (Key × V)}{k:Key}(e:H a=some (.dK kvs)):DGet H a (kV k) (valV kvs k):=.inl ⟨kvs,k,.inl e,rfl,rfl⟩
theorem DGet.t {H:Hp}{a b:Addr}{kvs:List (List Key × V)}{k:List Key}(e:H a=some (.dT kvs))(eb:H b=some (.tup (k.map kV))):DGet H a (.ref b) (valV kvs k):=.inr ⟨kvs,k,b,.inl e,rfl,eb,rfl⟩
theorem DPut.k {H:Hp}{a:Addr}{kvs:List (Key × V)}{k:Key}{v:V}(e:H a=some (.dK kvs))(hl:kvs.length<sizeLine):DPut H a (kV k) v (upd H a (.dK (putK kvs k v))):=.inl ⟨kvs,k,e,rfl,hl,rfl⟩
section
variable {X:Cx} {pins:List (Addr × Obj)} {σ:St} {H:Hp} {s:Shared} {a:Addr} {y v:V} {u r:Value} {o:Option V} {A:Around} {E:Value->Shared->Prop}
theorem Inv.big (I:Inv X pins σ H s):sysModules<s.heap.objs.size:=by
 have h:mainGlobals<s.heap.objs.size:=(I.mod.glob.keeps I.bk).lt
 exact Nat.lt_trans (by decide) h
theorem d_in {Q:Value->Shared->Prop}(hu:A.units+1<cLine)(I:Inv X pins σ H s)(g:DGet H a y o)(ry:RelV y u)(h:∀s',Inv X pins σ H s'->Q (.bool o.isSome) s') :
  wpAny (model X.prog X.w) A (compareOp .In u (.ref a)) Q E s:=by
 rcases g with ⟨kvs,k,e,ey,l⟩|⟨kvs,k,b,e,ey,eb,l⟩
 · subst ey
   obtain⟨z,hd,vs,rel,dd⟩:=zgj I.hok e
   refine wpAny_in_of (zhM ry) hd dd.mapOf ?_
   rw[<-(rel.val k).isSome_eq,<-l]
   exact h _ (I.tok _)
 · subst ey
   cases (show u=Value.ref b from ry)
   obtain⟨z,hd,xs,rel,dd⟩:=zhR I.hok e
   refine wpAny_in_heap (tupleKind_room_in1 hu) (zdH I.hok eb) hd dd ?_
   have q:=(rel.val k).isSome_eq
   rw[Option.isSome_map] at q
   rw[<-q,<-l]
   exact h _ (I.tok _)
theorem znm {Q:Value->Shared->Prop}(hu:A.units+1<cLine)(I:Inv X pins σ H s)(g:DGet H a y o)(ry:RelV y u)(h:∀s',Inv X pins σ H s'->Q (.bool (!o.isSome)) s') :
  wpAny (model X.prog X.w) A (compareOp .NotIn u (.ref a)) Q E s:=by
 rcases g with ⟨kvs,k,e,ey,l⟩|⟨kvs,k,b,e,ey,eb,l⟩
 · subst ey
   obtain⟨z,hd,vs,rel,dd⟩:=zgj I.hok e
   refine wpAny_notIn_of (zhM ry) hd dd.mapOf ?_
   rw[<-(rel.val k).isSome_eq,<-l]
   exact h _ (I.tok _)
 · subst ey
   cases (show u=Value.ref b from ry)
   obtain⟨z,hd,xs,rel,dd⟩:=zhR I.hok e
   refine wpAny_notIn_heap (tupleKind_room_in1 hu) (zdH I.hok eb) hd dd ?_
   have q:=(rel.val k).isSome_eq
   rw[Option.isSome_map] at q
   rw[<-q,<-l]
   exact h _ (I.tok _)
theorem zgk {h':Heap}{t':Nat}{ob:HO}(I:Inv X pins σ H s)(mu:Mut (H a))(hs:Heap.SameBut a s.heap h')(he:∃q,h'.get? a=some q)(new:ObjOk X.prog X.w (upd H a ob) h' a ob) :
  Inv X pins σ (upd H a ob) {s with heap:=h',toks:=t'}:=
 I.write (x:=a) (e:=a) mu (.inl rfl) (fun b q hb z=>(hs.2 b hb).trans z) he new
theorem zpv {P:Program}{w:World}{H':Hp}{h':Heap}{kvs:List (Key × V)}{vs:List (Key × Value)}(z:kvs.length<=sizeLine)(hd:(a == sysModules)=false)(rel:KV kvs vs)(dd:h'.DictOf (zaH P w) a vs) :
 ObjOk P w H' h' a (.dK kvs):=⟨z,hd,vs,rel,dd⟩
theorem zjw {H':Hp}{Q:Unit->Shared->Prop}(hu:A.units+1<cLine)(I:Inv X pins σ H s)(g:DPut H a y v H')(ry:RelV y u)(rv:RelV v r)(h:∀s',Inv X pins σ H' s'->Q () s') :
  wpAny (model X.prog X.w) A (setItem (.ref a) u r) Q E s:=by
 rcases g with ⟨kvs,k,e,ey,l,eH⟩|⟨kvs,k,b,e,ey,eb,l,eH⟩
 · subst ey eH
   obtain⟨z,hd,vs,rel,dd⟩:=zqw I.hok e
   have hz:vs.length<=sizeLine:=by rw[<-rel.length];exact z
   have hl:(putK kvs k v).length<=sizeLine:=by have:=zcu kvs k v;omega
   refine wpAny_setItem_pairs (hsz:=hz) (zhM ry) dd fun h' dd' hs=>h _ ?_
   have he:∃q,h'.get? a=some q:=let ⟨q,_,_,hq,_⟩:=dd';⟨q,hq⟩
   exact zgk I (by rw[e];exact True.intro) hs he (zpv hl hd (rel.put k rv) dd')
 · subst ey eH
   cases (show u=Value.ref b from ry)
   obtain⟨z,hd,xs,rel,dd⟩:=zfz I.hok e
   have hz:xs.length<=sizeLine:=by rw[<-Paired.length rel];exact z
   have hl:(putK kvs k v).length<=sizeLine:=by have:=zcu kvs k v;omega
   refine wpAny_setItem_heap (hsz:=hz) (tupleKind_room_in1 hu) (zdH I.hok eb) dd fun h' dd' hs=>h _ ?_
   obtain⟨q,es,ep,hq,h2,h3,h4,_,h5⟩:=dd'
   refine zgk I (by rw[e];exact True.intro) hs ⟨q,hq⟩ ⟨hl,hd,_,(rel.put k eb rv).keeps fun c ys ec=>?_,q,es,ep,hq,h2,h3,h4,h5⟩
   rw[zai (ne_of ec e (fun z=>nomatch z))]
   exact ec
end
section
variable {X:Cx} {pins:List (Addr × Obj)} {σ:St} {H:Hp} {s:Shared} {a:Addr} {kvs:List (Key × V)} {k:Key} {u:Value} {A:Around} {E:Value->Shared->Prop}
theorem zqx {Q:Value->Shared->Prop}(I:Inv X pins σ H s)(e:Rd H a (.dK kvs))(h:∀t s',Inv X pins σ H s'->Q (.int kvs.length t) s'):wpAny (model X.prog X.w) A (call (.builtin "len") [.ref a]) Q E s:=by
 obtain⟨z,hd,vs,rel,dd⟩:=zgj I.hok e
 refine call_len_dict hd dd (by rw[<-rel.length];rw[sizeLine_eq] at z;omega) ?_
 rw[<-rel.length]
 exact h _ _ (I.tok _)
end
noncomputable def zos (td ty tv:TE):TS:=fun D σ H=>tv σ H fun v H1=>td σ H1 fun x H2=>ty σ H2 fun y H3=>∃a H4,x=.ref a/\DPut H3 a y v H4/\D.nx σ H4
section
variable {X:Cx} {o i e value:Expr} {pos pos' tpos:Pos} {td ty tv:TE}
theorem zmD (hu:X.A.units+1<cLine)(ho:PE X o td)(hi:PE X i ty)(hv:PE X value tv)(hs:swapsWith value (some (.Subscript o i pos')) pos.line X.env=pure false) :
  PS X (.Assign [.Subscript o i pos'] value pos) (zos td ty tv):=by
 intro pins s σ H D I h
 refine wpAny_Assign_Subscript (thn (hv pins s σ H _ I h) fun r s1 ⟨v,H1,I1,rv,q1⟩=>thn (ho pins s1 σ H1 _ I1 q1) fun u s2 ⟨x,H2,I2,rx,q2⟩=>thn (hi pins s2 σ H2 _ I2 q2) fun iv s3 ⟨y,H3,I3,ry,a,H4,ex,g,q3⟩=>?_) hs
 subst ex
 obtain rfl:u=Value.ref a:=rx
 exact zjw hu I3 g ry rv fun s4 I4=>⟨σ,H4,I4,q3⟩
end
theorem zkY {P:Program}{w:World}{H:Hp}(h:Heap)(hb:sysModules<h.objs.size):ObjOk P w H (h.push {cls:=.type "dict",data:=.dict #[]}) h.objs.size (.dK []):=
 ⟨Nat.zero_le _,beq_eq_false_iff_ne.mpr (Ne.symm (Nat.ne_of_lt hb)),[],.nil,Heap.DictOf.new h⟩
theorem zkX {P:Program}{w:World}{H:Hp}(h:Heap)(hb:sysModules<h.objs.size):ObjOk P w H (h.push {cls:=.type "dict",data:=.dict #[]}) h.objs.size (.dT []):=
 ⟨Nat.zero_le _,beq_eq_false_iff_ne.mpr (Ne.symm (Nat.ne_of_lt hb)),[],.nil,_,#[],0,Heap.get?_push_size _ rfl,⟨rfl,rfl,rfl⟩,rfl,rfl,List.nodup_nil⟩
noncomputable def zii:TE:=fun _ H Q=>∀p,H p=none->Q (.ref p) (upd H p (.dK []))
noncomputable def znV:TE:=fun _ H Q=>∀p,H p=none->Q (.ref p) (upd H p (.dT []))
section
variable {X:Cx} {pos:Pos}
theorem zgR:PE X (.Dict [] [] pos) zii:=fun pins s σ H Q I h=>
 wpAny_Dict_empty ⟨.ref s.heap.objs.size,_,I.laid (a:=s.heap.objs.size) (o:=.dK []) (t':=s.toks) (fun _ _ q=>Heap.get?_push_of_some _ q) (Nat.le_refl _) (zkY s.heap I.big),rfl,h _ (I.hok.fresh (Nat.le_refl _))⟩
theorem zku:PE X (.Dict [] [] pos) znV:=fun pins s σ H Q I h=>
 wpAny_Dict_empty ⟨.ref s.heap.objs.size,_,I.laid (a:=s.heap.objs.size) (o:=.dT []) (t':=s.toks) (fun _ _ q=>Heap.get?_push_of_some _ q) (Nat.le_refl _) (zkX s.heap I.big),rfl,h _ (I.hok.fresh (Nat.le_refl _))⟩
end
structure M1 (X:Cx) (o:Expr) (m:Str) (apos:Pos) (e:Expr) (cpos:Pos):Prop where
 base:attributeBase o m X.env (eval o X.env)=eval o X.env
 few:((backTo cpos (starEach [e] X.env)).all (fun x=>!x.1)&&(backToKw cpos (keywordEach [] X.env)).all (fun x=>x.1.isSome)
  && decide (([e]:List Expr).length+([]:List Keyword).length+(if ([]:List Keyword).isEmpty then 0 else 1)<30))=true
 line:(apos.endLine == cpos.line)=true
 trees:backTo cpos (starEach [e] X.env)=[(false,eval e X.env)]
structure M2 (X:Cx) (o:Expr) (m:Str) (apos:Pos) (e f:Expr) (cpos:Pos):Prop where
 base:attributeBase o m X.env (eval o X.env)=eval o X.env
 few:((backTo cpos (starEach [e,f] X.env)).all (fun x=>!x.1)&&(backToKw cpos (keywordEach [] X.env)).all (fun x=>x.1.isSome)
  && decide (([e,f]:List Expr).length+([]:List Keyword).length+(if ([]:List Keyword).isEmpty then 0 else 1)<30))=true
 line:(apos.endLine == cpos.line)=true
 trees:backTo cpos (starEach [e,f] X.env)=[(false,eval e X.env),(false,eval f X.env)]
noncomputable def IsD (H:Hp)(a:Addr):Prop:=(∃kvs,Rd H a (.dK kvs))\/∃kvs,Rd H a (.dT kvs)
theorem zg5 {X:Cx}{pins:List (Addr × Obj)}{σ:St}{H:Hp}{s:Shared}{a:Addr}(I:Inv X pins σ H s)(d:IsD H a) :
  s.TypeIs (.ref a) "dict"/\(∀b,Value.ref a=.ref b->∃ob,s.heap.get? b=some ob/\ob.dict=none)/\(a == sysModules)=false:=by
 rcases d with ⟨kvs,e⟩|⟨kvs,e⟩
 · obtain⟨_,hd,vs,_,dd⟩:=zgj I.hok e
   refine⟨dd.typeIs,fun b q=>?_,hd⟩
   cases q
   obtain⟨ob,_,_,h1,h2,_⟩:=dd
   exact⟨ob,h1,h2.2.1⟩
 · obtain⟨_,hd,xs,_,dd⟩:=zhR I.hok e
   refine⟨dd.typeIs,fun b q=>?_,hd⟩
   cases q
   obtain⟨ob,_,_,h1,h2,_⟩:=dd
   exact⟨ob,h1,h2.2.1⟩
section
variable {X:Cx} {pins:List (Addr × Obj)} {σ:St} {H:Hp} {s:Shared} {a:Addr} {y d:V} {u r:Value} {o:Option V} {A:Around} {E:Value->Shared->Prop}
theorem zpx {Q:Value->Shared->Prop}(hu:A.units+1<cLine)(I:Inv X pins σ H s)(g:DGet H a y o)(ry:RelV y u)(h:∀w' s',Inv X pins σ H s'->RelV (o.getD .non) w'->Q w' s') :
  wpAny (model X.prog X.w) A (call (.builtin "dict.get") [.ref a,u]) Q E s:=by
 rcases g with ⟨kvs,k,e,ey,l⟩|⟨kvs,k,b,e,ey,eb,l⟩
 · subst ey
   obtain⟨z,hd,vs,rel,dd⟩:=zgj I.hok e
   refine call_meetsIn PySem.F.slot_dict_get dd.typeIs PySem.F.entry_dict_get (PySem.F.args_dict_get_2 _ _) (meets_dict_get (zaH X.prog X.w) a (zhM ry) hd) ⟨_,dd.mapOf,h _ _ (I.tok _) ?_⟩
   rw[l]
   exact (rel.val k).getD rfl
 · subst ey
   cases (show u=Value.ref b from ry)
   obtain⟨z,hd,xs,rel,dd⟩:=zhR I.hok e
   refine call_meetsIn PySem.F.slot_dict_get dd.typeIs PySem.F.entry_dict_get (PySem.F.args_dict_get_2 _ _) (meetsH_dict_get (tupleKind (zaH X.prog X.w)) a b hd) ⟨tupleKind_room_in1 hu,k,xs,zdH I.hok eb,dd,h _ _ (I.tok _) ?_⟩
   rw[l]
   exact (rel.val k).getD rfl
theorem zpw {Q:Value->Shared->Prop}(hu:A.units+1<cLine)(I:Inv X pins σ H s)(g:DGet H a y o)(ry:RelV y u)(rd:RelV d r)(h:∀w' s',Inv X pins σ H s'->RelV (o.getD d) w'->Q w' s') :
  wpAny (model X.prog X.w) A (call (.builtin "dict.get") [.ref a,u,r]) Q E s:=by
 rcases g with ⟨kvs,k,e,ey,l⟩|⟨kvs,k,b,e,ey,eb,l⟩
 · subst ey
   obtain⟨z,hd,vs,rel,dd⟩:=zgj I.hok e
   refine call_meetsIn PySem.F.slot_dict_get dd.typeIs PySem.F.entry_dict_get (PySem.F.args_dict_get_3 _ _ _) (meets_dict_get_default (zaH X.prog X.w) a (zhM ry) hd r) ⟨_,dd.mapOf,h _ _ (I.tok _) ?_⟩
   rw[l]
   exact (rel.val k).getD rd
 · subst ey
   cases (show u=Value.ref b from ry)
   obtain⟨z,hd,xs,rel,dd⟩:=zhR I.hok e
   refine call_meetsIn PySem.F.slot_dict_get dd.typeIs PySem.F.entry_dict_get (PySem.F.args_dict_get_3 _ _ _) (meetsH_dict_get_default (tupleKind (zaH X.prog X.w)) a b hd r) ⟨tupleKind_room_in1 hu,k,xs,zdH I.hok eb,dd,h _ _ (I.tok _) ?_⟩
   rw[l]
   exact (rel.val k).getD rd
end
noncomputable def znW (td ty:TE):TE:=fun σ H Q=>td σ H fun x H1=>∃a,x=.ref a/\IsD H1 a/\ty σ H1 fun y H2=>∃o,DGet H2 a y o/\Q (o.getD .non) H2
noncomputable def zlf (td ty tx:TE):TE:=fun σ H Q=>td σ H fun x H1=>∃a,x=.ref a/\IsD H1 a/\ty σ H1 fun y H2=>tx σ H2 fun z H3=>∃o,DGet H3 a y o/\Q (o.getD z) H3
section
variable {X:Cx} {o e f:Expr} {apos cpos:Pos} {td ty tx:TE}
theorem zkv (hu:X.A.units+1<cLine)(ho:PE X o td)(he:PE X e ty)(m:M1 X o "get" apos e cpos):PE X (.Call (.Attribute o "get" apos) [e] [] cpos) (znW td ty):=by
 intro pins s σ H Q I h
 refine wpAny_Call_method m.base m.few m.line PySem.F.plainAttrs_dict PySem.F.slot_dict_get PySem.F.type_dict_get (thn (ho pins s σ H _ I h) fun u s1 ⟨x,H1,I1,rx,a,ex,d,q1⟩=>?_)
 subst ex
 obtain rfl:u=Value.ref a:=rx
 obtain⟨t1,t2,_⟩:=zg5 I1 d
 refine⟨t1,t2,?_⟩
 rw[m.trees]
 refine Calls.callWith_builtin rfl (Calls.evalArgs_plain (Calls.spliced_cons (thn (he pins s1 σ H1 _ I1 q1) fun iv s2 ⟨y,H2,I2,ry,ov,g,q2⟩=>Calls.spliced_nil ?_)))
 exact zpx hu I2 g ry fun w' s3 I3 rw'=>⟨_,H2,I3,rw',q2⟩
theorem zgS (hu:X.A.units+1<cLine)(ho:PE X o td)(he:PE X e ty)(hf:PE X f tx)(m:M2 X o "get" apos e f cpos):PE X (.Call (.Attribute o "get" apos) [e,f] [] cpos) (zlf td ty tx):=by
 intro pins s σ H Q I h
 refine wpAny_Call_method m.base m.few m.line PySem.F.plainAttrs_dict PySem.F.slot_dict_get PySem.F.type_dict_get (thn (ho pins s σ H _ I h) fun u s1 ⟨x,H1,I1,rx,a,ex,d,q1⟩=>?_)
 subst ex
 obtain rfl:u=Value.ref a:=rx
 obtain⟨t1,t2,_⟩:=zg5 I1 d
 refine⟨t1,t2,?_⟩
 rw[m.trees]
 refine Calls.callWith_builtin rfl (Calls.evalArgs_plain (Calls.spliced_cons (thn (he pins s1 σ H1 _ I1 q1) fun iv s2 ⟨y,H2,I2,ry,q2⟩=>
  Calls.spliced_cons (thn (hf pins s2 σ H2 _ I2 q2) fun fv s3 ⟨z,H3,I3,rz,ov,g,q3⟩=>Calls.spliced_nil ?_))))
 exact zpw hu I3 g ry rz fun w' s4 I4 rw'=>⟨_,H3,I4,rw',q3⟩
end
section
variable {X:Cx} {pins:List (Addr × Obj)} {σ:St} {H:Hp} {s:Shared} {a:Addr} {kvs:List (Key × V)} {A:Around} {E:Value->Shared->Prop}
end
section
variable {X:Cx} {pins:List (Addr × Obj)} {σ:St} {H:Hp} {s:Shared} {a:Addr} {y:V} {u:Value} {A:Around} {E:Value->Shared->Prop}
end
end L2
namespace HT
open PySem PyProof.Rows
noncomputable def lexLt:List Int->List Int->Bool
 | [],[]=>false
 | [],_::_=>true
 |_::_,[]=>false
 |x::xs,y::ys=>if x=y then lexLt xs ys else decide (x<y)
theorem zhJ (x y:Int)(xs ys:List Int):lexLt (x::xs) (y::ys)=if x=y then lexLt xs ys else decide (x<y):=rfl
theorem zeK:lexLt [] []=false:=rfl
theorem zdZ (y:Int)(ys:List Int):lexLt [] (y::ys)=true:=rfl
theorem zd0 (x:Int)(xs:List Int):lexLt (x::xs) []=false:=rfl
theorem zkW (A:Around)(s:Shared)(a:Int)(t:Tok)(c:Int)(u:Tok):∃e,SeqAt.EqAt A s (.int a t) (.int c u) e/\(e=true↔a=c):=
 ⟨(a == c),SeqAt.EqAt.int_int a t c u,by simp⟩
theorem zkd (A:Around)(s:Shared)(a:Int)(t:Tok)(c:Int)(u:Tok)(prog:Program)(w:World)(E:Value->Shared->Prop)(Q:Value->Shared->Prop)(h:Q (.bool (decide (a<c))) s) :
  wpAny (model prog w) A (richCompare .Lt (.int a t) (.int c u)) Q E s:=
 (PyProof.Rows.lt_int h:wpAny (model prog w) A (compareOp .Lt (.int a t) (.int c u)) Q E s)
section
open PySem.SeqAt
open PySem.AutoSeq1 (wpAny_loadPart')
open PySem.MeetsSeq PySem.MeetsSeq2 PySem.MeetsSeq3
theorem zes (l b:Addr)(items items2:Array Value)(n n2:Nat)(dd dd2:Option Addr)(sl sl2:Array (Option Value))(ns ms:List Int)(hi:IntsAre items.toList ns)(hj:IntsAre items2.toList ms) :
  Meets (Builtin.«tuple.__lt__» ⟨[.ref l,.ref b],[]⟩)
   (fun _ R s=>s.heap.get? l=some {cls:=.type "tuple",dict:=dd,data:=.seq items n,slots:=sl}/\s.heap.get? b=some {cls:=.type "tuple",dict:=dd2,data:=.seq items2 n2,slots:=sl2}/\
    R (.ok (.ret (.bool (lexLt ns ms)))) s):=
 .of_wp fun prog w A R s h=>by
  obtain⟨hp,g,d,tk,os⟩:=s;obtain⟨hl,hb,h⟩:=h
  have f2:=AutoSeq1.sub_tuple_tuple
  have z1:items.size=ns.length:=by rw[<-hi.length];simp
  have z2:items2.size=ms.length:=by rw[<-hj.length];simp
  wp_walk using wpAny_loadPart' hl,wpAny_loadPart' hb,wpAny_forIn_list _ (fun rest b s'=>b.1=none/\s'=⟨hp,g,d,tk,os⟩/\∃(vs ws:List Value) (ns' ms':List Int),rest=vs.zip ws/\
   IntsAre vs ns'/\IntsAre ws ms'/\ns'.length+items2.size=ms'.length+items.size/\R (.ok (.ret (.bool (lexLt ns' ms')))) ⟨hp,g,d,tk,os⟩) _
  case turn=>
   rintro⟨y,x⟩ rest b s' ⟨hb',rfl,vs,ws,ns',ms',hz,hvi,hwi,hlen,hR⟩
   cases hvi with
   |nil=>rw[List.zip_nil_left] at hz;cases hz
   | cons a t hvi' =>
     cases hwi with
     |nil=>rw[List.zip_nil_right] at hz;cases hz
     | cons c u hwi' =>
       rw[List.zip_cons_cons] at hz
       injection hz with hyx hrest
       injection hyx with hy hx
       subst hy hx
       rw[zhJ] at hR
       simp only[List.length_cons] at hlen
       obtain⟨e,he,hiff⟩:=zkW A.in1 ⟨hp,g,d,tk,os⟩ a t c u
       refine wpAny_bind (he prog w _ _ ?_)
       cases e with
       | true =>
         rw[if_pos (hiff.mp rfl)] at hR
         wp_walk
         exact⟨rfl,rfl,_,_,_,_,hrest,hvi',hwi',by omega,hR⟩
       | false =>
         rw[if_neg (fun q=>absurd (hiff.mpr q) Bool.false_ne_true)] at hR
         have hri:=zkd A.in1 ⟨hp,g,d,tk,os⟩ a t c u prog w
         wp_walk using hri
         exact⟨_,rfl,by simpa using hR⟩
  case fin=>
   rintro⟨b1,b2⟩ s' ⟨hb',rfl,vs,ws,ns',ms',hz,hvi,hwi,hlen,hR⟩
   simp only at hb'
   subst hb'
   have hv:lexLt ns' ms'=decide (items.size<items2.size):=by
    cases hvi with
    | nil =>
      cases hwi with
      | nil =>
        simp only[List.length_nil] at hlen
        rw[zeK]
        exact (decide_eq_false (by omega)).symm
      | cons c u hw =>
        simp only[List.length_nil,List.length_cons] at hlen
        rw[zdZ]
        exact (decide_eq_true (by omega)).symm
    | cons a t hv =>
      cases hwi with
      | nil =>
        simp only[List.length_nil,List.length_cons] at hlen
        rw[zd0]
        exact (decide_eq_false (by omega)).symm
      | cons c u hw =>
        rw[List.zip_cons_cons] at hz
        cases hz
   rw[hv] at hR
   wp_walk
   exact⟨_,rfl,by simpa[Builtin.Tuple.tupleCompareSizes] using hR⟩
  case h=>
   exact⟨rfl,rfl,items.toList,items2.toList,ns,ms,rfl,hi,hj,by omega,h⟩
end
section
variable {prog:Program} {w:World} {A:Around} {E:Value->Shared->Prop} {s:Shared}
theorem lt_tupInts {l b:Addr}{items items2:Array Value}{ns ms:List Int}{Q:Value->Shared->Prop}(hl:IsTup s.heap l items)(hb:IsTup s.heap b items2)(hi:IntsAre items.toList ns)(hj:IntsAre items2.toList ms)
  (hu:A.units<cLine) (h:Q (.bool (lexLt ns ms)) s):wpAny (model prog w) A (compareOp .Lt (.ref l) (.ref b)) Q E s:=by
 obtain⟨⟨cls,dd,data,sl⟩,ho,hc,n,hd⟩:=id hl
 obtain⟨⟨cls2,dd2,data2,sl2⟩,ho2,hc2,n2,hd2⟩:=id hb
 simp only at hc hd hc2 hd2
 subst hc hd hc2 hd2
 exact richCompare_meets_room (op:=.Lt) ⟨_,ho,rfl⟩ ⟨_,ho2,rfl⟩ PySem.F.slot_tuple_lt PySem.F.entry_tuple_lt (PySem.F.args_tuple_lt_2 _ _) (zes l b items items2 n n2 dd dd2 sl sl2 ns ms hi hj)
  ⟨ho,ho2,show Value.bool (lexLt ns ms)≠Value.notImplemented/\Q (.bool (lexLt ns ms)) s from⟨(fun x=>nomatch x),h⟩⟩ hu
theorem cat_tup {t b:Addr}{vs ws:List Value}{Q:Value->Shared->Prop}(ht:IsTup s.heap t vs.toArray)(hb:IsTup s.heap b ws.toArray)(hv:vs≠[])
  (h1:ws=[]->Q (.ref t) s) (h2:ws≠[]->Q (.ref s.heap.objs.size) {s with heap:=s.heap.push {cls:=.type "tuple",data:=.seq (vs++ws).toArray}})
  (hsz:vs.length+ws.length<=sizeLine):wpAny (model prog w) A (binaryOp .Add (.ref t) (.ref b)) Q E s:=by
 obtain⟨⟨cls,dd,data,sl⟩,ho,hc,n,hd⟩:=id ht
 obtain⟨⟨cls2,dd2,data2,sl2⟩,ho2,hc2,n2,hd2⟩:=id hb
 simp only at hc hd hc2 hd2
 subst hc hd hc2 hd2
 have e:vs.toArray++ws.toArray=(vs++ws).toArray:=by simp
 by_cases hw:ws=[]
 · exact concat_meets ⟨_,ho,rfl⟩ ⟨_,ho2,rfl⟩ noFill_tuple_add seq_tuple_add PySem.F.slot_tuple_add PySem.F.entry_tuple_add (PySem.F.args_tuple_add_2 _ _)
    (tuple_addW1 t b vs.toArray ws.toArray n n2 dd dd2 sl sl2 (by simpa using hv) (by simp[hw])) ⟨ho,ho2,h1 hw⟩
 · refine concat_meets ⟨_,ho,rfl⟩ ⟨_,ho2,rfl⟩ noFill_tuple_add seq_tuple_add PySem.F.slot_tuple_add PySem.F.entry_tuple_add (PySem.F.args_tuple_add_2 _ _)
    (tuple_addW2 t b vs.toArray ws.toArray n n2 dd dd2 sl sl2 (by simpa using hv) (by simpa using hw) (by rw[List.size_toArray,List.size_toArray];exact hsz)) ⟨ho,ho2,?_⟩
   rw[e]
   exact h2 hw
noncomputable def sIx (n d:Nat):Option Int->Nat
 |none=>d
 |some v=>if v<0 then (v+(n:Int)).toNat else min v.toNat n
theorem zor (n d:Nat)(hd:d<=n)(o:Option Int):sIx n d o<=n:=by
 cases o with
 |none=>exact hd
 | some v =>
   show (if v<0 then (v+(n:Int)).toNat else min v.toNat n)<=n
   by_cases hv:v<0
   · rw[if_pos hv];omega
   · rw[if_neg hv];exact Nat.min_le_right _ _
theorem zjz (v:Int)(n d:Nat):(if v<0 then max (v+(n:Int)) 0 else min v (n:Int))=((sIx n d (some v):Nat):Int):=by
 show (if v<0 then max (v+(n:Int)) 0 else min v (n:Int))=(((if v<0 then (v+(n:Int)).toNat else min v.toNat n):Nat):Int)
 by_cases hv:v<0
 · simp only[if_pos hv];omega
 · simp only[if_neg hv];omega
theorem zh2 (lo hi:Option Int)(n:Nat):Builtin.Slice.sliceAdjust lo hi 1 (n:Int)=(((sIx n 0 lo:Nat):Int),((sIx n n hi:Nat):Int)):=by
 have h1:¬((1:Int)<0):=by omega
 unfold Builtin.Slice.sliceAdjust
 simp only[h1,if_false]
 refine Prod.ext ?_ ?_
 · cases lo with
   |none=>rfl
   |some v=>exact zjz v n 0
 · cases hi with
   |none=>rfl
   |some v=>exact zjz v n n
theorem zhD (i j:Nat):Builtin.Slice.slicePlaces (i:Int) (j:Int) 1=j - i:=by
 unfold Builtin.Slice.slicePlaces
 have h1:(1:Int) > 0:=by omega
 simp only[h1,if_true,Int.ediv_one]
 split<;>omega
theorem zd7 {v:Value}{o:Option Int}{Q:Option Int->Shared->Prop}(p:IsPart v o)(h:Q o s):wpAny (model prog w) A (Builtin.Slice.slicePartIndex v) Q E s:=by
 cases p with
 |none=>exact slicePart_none h
 |int i t=>exact slicePart_int h
theorem sliceApplied_gen {sl:Addr}{vl vu:Value}{lo hi:Option Int}{n:Nat}{Q:Int × Int × Nat->Shared->Prop}(hs:s.heap.IsSliceOf sl vl vu .none)(pl:IsPart vl lo)(pu:IsPart vu hi)
  (h:Q (((sIx n 0 lo:Nat):Int),1,sIx n n hi - sIx n 0 lo) s):wpAny (model prog w) A (Builtin.Slice.sliceApplied (.ref sl) (pure (n:Int))) Q E s:=by
 obtain⟨os,hos,hcs,hds⟩:=id hs
 unfold Builtin.Slice.sliceApplied Builtin.Slice.sliceFields
 refine wpAny_bind (wpAny_bind (wpAny_field hos hds (x:=vl) rfl (wpAny_bind (wpAny_field hos hds (x:=vu) rfl (wpAny_bind (wpAny_field hos hds (x:=.none) rfl (wpAny_pure ?_)))))))
 refine wpAny_bind (slicePart_none ?_)
 show wpAny _ _ (if ((1:Int) == 0)=true then _ else _) _ _ s
 rw[if_neg (by decide)]
 refine wpAny_bind (zd7 pl (wpAny_bind (zd7 pu (wpAny_bind (wpAny_pure ?_)))))
 show wpAny _ _ (match Builtin.Slice.sliceAdjust lo hi 1 (n:Int) with|(lo,hi)=>pure (lo,(1:Int),Builtin.Slice.slicePlaces lo hi 1)) _ _ s
 rw[zh2 lo hi n]
 show wpAny _ _ (pure (((sIx n 0 lo:Nat):Int),(1:Int),Builtin.Slice.slicePlaces ((sIx n 0 lo:Nat):Int) ((sIx n n hi:Nat):Int) 1)) _ _ s
 rw[zhD]
 exact wpAny_pure h
theorem zkk (xs:Array Value)(i k:Nat):((List.range k).filterMap fun (m:Nat)=>xs[((i:Int)+(m:Int) * 1).toNat]?).toArray=((xs.toList.drop i).take k).toArray:=by
 have e:(fun (m:Nat)=>xs[((i:Int)+(m:Int) * 1).toNat]?)=fun m=>xs[i+m]?:=by
  funext m
  have:((i:Int)+(m:Int) * 1).toNat=i+m:=by omega
  rw[this]
 rw[e]
 have:=pick_run xs i k
 rw[List.filterMap_map] at this
 have e2:((fun x=>xs[x]?)∘fun x=>i+x)=fun m=>xs[i+m]?:=rfl
 rw[e2] at this
 rw[this]
theorem getItem_tuple_cut {t sl:Addr}{items:Array Value}{vl vu:Value}{lo hi:Option Int}{Q:Value->Shared->Prop}(ht:IsTup s.heap t items)(hs:s.heap.IsSliceOf sl vl vu .none)(pl:IsPart vl lo)(pu:IsPart vu hi)
  (hw:¬(sIx items.size 0 lo=0/\sIx items.size items.size hi=items.size))
  (h:Q (.ref s.heap.objs.size) {s with heap:=s.heap.push {cls:=.type "tuple",data:=.seq ((items.toList.drop (sIx items.size 0 lo)).take (sIx items.size items.size hi - sIx items.size 0 lo)).toArray}})
  (hsz:items.size<=sizeLine):wpAny (model prog w) A (getItem (.ref t) (.ref sl)) Q E s:=by
 have htake:sizeOk (.seq ((items.toList.drop (sIx items.size 0 lo)).take (sIx items.size items.size hi - sIx items.size 0 lo)).toArray):=by
  show ((items.toList.drop (sIx items.size 0 lo)).take (sIx items.size items.size hi - sIx items.size 0 lo)).toArray.size<=sizeLine
  rw[List.size_toArray,List.length_take,List.length_drop,Array.length_toList]
  omega
 have hj:sIx items.size items.size hi<=items.size:=zor _ _ (Nat.le_refl _) hi
 obtain⟨os,hos,hcs,hds⟩:=id hs
 have hTs:s.TypeIs (.ref sl) "slice":=⟨os,hos,hcs⟩
 unfold getItem
 try with_reducible refine wpAny_holding ?_
 first|refine wpAny_bind (wpAny_pure ?_)|skip
 refine wpAny_bind (wpAny_sequenceKey ht.typeIs (by decide) ?_)
 refine wpAny_bind (wpAny_callSpecial?_slot (name:=Str.ofString "__getitem__") ht.typeIs PyProof.Rows.slot_tuple_getitem
  (wpAny_call_entry PyProof.Rows.slot_tuple_getitem ht.typeIs entry_tuple_getitem ?_ (args_tuple_getitem _ _)))
 show wpAny _ _ (Builtin.Tuple.tupleItemsOf (.ref t) >>= _) _ _ s
 refine wpAny_bind (tupleItemsOf_ ht ?_)
 refine wpAny_bind (wpAny_typeOf hTs ?_)
 rw[if_pos (by decide)]
 refine wpAny_bind (sliceApplied_gen hs pl pu ?_)
 have hno:¬((((sIx items.size 0 lo:Nat):Int) == 0&&(1:Int) == 1&&(sIx items.size items.size hi - sIx items.size 0 lo) == items.size)=true):=by
  intro q
  rw[Bool.and_eq_true,Bool.and_eq_true] at q
  have q1:((sIx items.size 0 lo:Nat):Int)=0:=eq_of_beq q.1.1
  have q2:sIx items.size items.size hi - sIx items.size 0 lo=items.size:=eq_of_beq q.2
  exact hw ⟨by omega,by omega⟩
 show wpAny _ _ (if (((sIx items.size 0 lo:Nat):Int) == 0&&(1:Int) == 1&&(sIx items.size items.size hi - sIx items.size 0 lo) == items.size)=true then _ else _) _ _ s
 rw[if_neg hno,zkk]
 first
  |exact wpAny_bind (m:=Builtin.Tuple.tupleExact _) (wpAny_newObj_type (wpAny_pure ⟨_,rfl,wpAny_pure h⟩) htake)
  |exact wpAny_bind (m:=Builtin.Tuple.tupleExact _) (wpAny_newObj_type (wpAny_bind (wpAny_pure (wpAny_pure ⟨_,rfl,wpAny_pure h⟩))) htake)
  |exact wpAny_bind (wpAny_bind (m:=Builtin.Tuple.tupleExact _) (wpAny_newObj_type (wpAny_pure (wpAny_pure ⟨_,rfl,wpAny_pure h⟩)) htake))
  |exact wpAny_bind (wpAny_bind (m:=Builtin.Tuple.tupleExact _) (wpAny_newObj_type (wpAny_pure ⟨_,rfl,wpAny_pure h⟩) htake))
end
end HT
namespace L2
open PySem PySem.Spec PyProof.Rows
noncomputable abbrev TO:=St->Hp->(Option Int->Hp->Prop)->Prop
noncomputable def PO (X:Cx)(e:Option Expr)(t:TO):Prop:=
 ∀(pins:List (Addr × Obj)) (s:Shared) (σ:St) (H:Hp) (Q:Option Int->Hp->Prop),Inv X pins σ H s->t σ H Q->
  wpAny (model X.prog X.w) X.A (evalPart e X.env) (fun u s'=>∃o H',Inv X pins σ H' s'/\IsPart u o/\Q o H') X.xe s
noncomputable def zlU:TO:=fun _ H Q=>Q none H
noncomputable def zpW (t:TE):TO:=fun σ H Q=>t σ H fun x H1=>∃i,x=.int i/\Q (some i) H1
theorem zef {ns:List Int}:∀{us:List Value},Vals (ns.map V.int) us->IntsAre us ns:=by
 induction ns with
 |nil=>intro us r;rw[List.map_nil] at r;cases r;exact .nil
 | cons n ns ih =>
   intro us r
   rw[List.map_cons] at r
   cases r with
   | cons r1 r2 =>
     obtain⟨t,e⟩:=r1
     subst e
     exact .cons n t (ih r2)
section
variable {X:Cx} {e:Expr} {te:TE} {lo hi:Option Expr} {tl th:TO} {pos p2:Pos}
theorem zmG:PO X none zlU:=by
 intro pins s σ H Q I h
 rw[evalPart_none]
 exact wpAny_pure ⟨none,H,I,.none,h⟩
theorem zmF (h:PE X e te):PO X (some e) (zpW te):=by
 intro pins s σ H Q I hw
 rw[evalPart_some]
 refine thn (h pins s σ H _ I hw) fun u s1 ⟨x,H1,I1,r1,q1⟩=>?_
 obtain⟨i,rfl,q⟩:=q1
 obtain⟨t,rfl⟩:=r1
 exact⟨some i,H1,I1,.int i t,q⟩
noncomputable def SlR (X:Cx)(r:V->Option Int->Option Int->Hp->VK->Prop):Prop:=
 ∀(pins:List (Addr × Obj)) (s:Shared) (σ:St) (H:Hp) (x:V) (v vl vu:Value) (lo hi:Option Int) (sl:Addr) (Q:VK),Inv X pins σ H s->RelV x v->s.heap.IsSliceOf sl vl vu .none->IsPart vl lo->IsPart vu hi->r x lo hi H Q->
  ∃T id,typeLookup (.type T) "__getitem__"=pure (some (.builtin id))/\s.TypeIs v T/\wpAny (model X.prog X.w) X.A (getItem v (.ref sl)) (EP X pins σ Q) X.xe s
theorem SlR.or {r r':V->Option Int->Option Int->Hp->VK->Prop}(h:SlR X r)(h':SlR X r'):SlR X (fun x lo hi H Q=>r x lo hi H Q\/r' x lo hi H Q):=by
 intro pins s σ H x v vl vu lo hi sl Q I rx hs pl pu q
 rcases q with q|q
 · exact h pins s σ H x v vl vu lo hi sl Q I rx hs pl pu q
 · exact h' pins s σ H x v vl vu lo hi sl Q I rx hs pl pu q
noncomputable def tSl (r:V->Option Int->Option Int->Hp->VK->Prop)(te:TE)(tl th:TO):TE:=fun σ H Q=>te σ H fun x H1=>tl σ H1 fun l H2=>th σ H2 fun u H3=>r x l u H3 Q
theorem zkn {r:V->Option Int->Option Int->Hp->VK->Prop}(hr:SlR X r)(he:PE X e te)(hl:PO X lo tl)(hu:PO X hi th):PE X (.Subscript e (.Slice lo hi none p2) pos) (tSl r te tl th):=by
 intro pins s σ H Q I h
 refine Subscript_ (thn (he pins s σ H _ I h) fun v s1 ⟨x,H1,I1,r1,q1⟩=>?_)
 refine wpAny_Slice (thn (hl pins s1 σ H1 _ I1 q1) fun vl s2 ⟨l,H2,I2,pl,q2⟩=>thn (hu pins s2 σ H2 _ I2 q2) fun vu s3 ⟨u,H3,I3,pu,q3⟩=>?_)
 rw[evalPart_none]
 refine wpAny_pure ?_
 have I4:Inv X pins σ H3 {s3 with heap:=s3.heap.push {cls:=.type "slice",data:=.fields #[vl,vu,.none]}}:=I3.kept (t':=s3.toks) fun b ob q=>Heap.get?_push_of_some _ q
 obtain⟨T,id,hT,ht,hg⟩:=hr pins {s3 with heap:=s3.heap.push {cls:=.type "slice",data:=.fields #[vl,vu,.none]}} σ H3 x v vl vu l u s3.heap.objs.size Q I4 r1 (Heap.IsSliceOf.new ..) pl pu q3
 show wpAny (model X.prog X.w) X.A (subscriptTail e (.Slice lo hi none p2) v (.ref s3.heap.objs.size)) (EP X pins σ Q) X.xe {s3 with heap:=s3.heap.push {cls:=.type "slice",data:=.fields #[vl,vu,.none]}}
 exact tail_any (ops:=[.ref s3.heap.objs.size,v]) ht hT hg (by with_unfolding_all rfl)
noncomputable def cutV (xs:List V)(lo hi:Option Int):List V:=(xs.drop (HT.sIx xs.length 0 lo)).take (HT.sIx xs.length xs.length hi - HT.sIx xs.length 0 lo)
theorem zdP (xs:List V)(lo hi:Option Int):(cutV xs lo hi).length<=xs.length:=by
 unfold cutV
 rw[List.length_take,List.length_drop]
 omega
noncomputable def rSlT (K:PySem.W.Frag):V->Option Int->Option Int->Hp->VK->Prop:=fun x lo hi H Q=>∃a xs,x=.ref a/\SqT K H a xs/\
 ¬(HT.sIx xs.length 0 lo=0/\HT.sIx xs.length xs.length hi=xs.length)/\∀p,H p=none->Q (.ref p) (upd H p (.tup (cutV xs lo hi)))
theorem zn5:SlR X (rSlT X.K):=by
 intro pins s σ H x v vl vu lo hi sl Q I rx hs pl pu h
 obtain⟨a,xs,rfl,hx,hw,q⟩:=h
 cases rx
 obtain⟨its,r,ht,hz⟩:=I.tuple hx
 have hlen:its.toArray.size=xs.length:=by rw[List.size_toArray];exact r.length.symm
 refine⟨"tuple",_,PyProof.Rows.slot_tuple_getitem.lookup,ht.typeIs,?_⟩
 refine HT.getItem_tuple_cut ht hs pl pu (by rw[hlen];exact hw) ?_ (by rw[hlen];exact hz)
 rw[hlen]
 refine⟨.ref s.heap.objs.size,_,I.laid (t':=s.toks) (o:=.tup (cutV xs lo hi)) (fun b ob q=>Heap.get?_push_of_some _ q) (Nat.le_refl _) ?_,rfl,q _ (I.hok.fresh (Nat.le_refl _))⟩
 exact⟨Nat.le_trans (zdP xs lo hi) hz,_,(r.drop (HT.sIx xs.length 0 lo)).take (HT.sIx xs.length xs.length hi - HT.sIx xs.length 0 lo),IsTup.new _ _⟩
noncomputable def rLtT (K:PySem.W.Frag):R2:=fun x y H Q=>∃a b ns ms,x=.ref a/\y=.ref b/\SqT K H a (ns.map V.int)/\SqT K H b (ms.map V.int)/\Q (.bl (HT.lexLt ns ms)) H
theorem zo1 (hu:X.A.units<cLine):OpR X (compareOp .Lt) (rLtT X.K):=by
 intro pins s σ H x y v u Q I rx ry h
 obtain⟨a,b,ns,ms,rfl,rfl,ha,hb,q⟩:=h
 cases rx
 cases ry
 obtain⟨its,r1,p1,_⟩:=I.tuple ha
 obtain⟨its2,r2,p2,_⟩:=I.tuple hb
 have i1:IntsAre its.toArray.toList ns:=zef r1
 have i2:IntsAre its2.toArray.toList ms:=zef r2
 exact HT.lt_tupInts p1 p2 i1 i2 hu ⟨.bl (HT.lexLt ns ms),H,I,rfl,q⟩
noncomputable def zp9 (K:PySem.W.Frag):R2:=fun x y H Q=>∃a b xs ys,x=.ref a/\y=.ref b/\SqT K H a xs/\SqT K H b ys/\xs≠[]/\xs.length+ys.length<=sizeLine/\
 (ys=[]->Q (.ref a) H)/\(ys≠[]->∀p,H p=none->Q (.ref p) (upd H p (.tup (xs++ys))))
theorem Vals.nil_iff {xs:List V}{us:List Value}(r:Vals xs us):us=[]↔xs=[]:=by
 cases r with
 |nil=>simp
 |cons _ _=>simp
theorem zmS:OpR X (binaryOp .Add) (zp9 X.K):=by
 intro pins s σ H x y v u Q I rx ry h
 obtain⟨a,b,xs,ys,rfl,rfl,ha,hb,hx,hz,q1,q2⟩:=h
 cases rx
 cases ry
 obtain⟨its,r1,p1,_⟩:=I.tuple ha
 obtain⟨its2,r2,p2,_⟩:=I.tuple hb
 refine HT.cat_tup p1 p2 (fun z=>hx (r1.nil_iff.mp z)) (fun z=>⟨.ref a,H,I,rfl,q1 (r2.nil_iff.mp z)⟩) (fun z=>?_) (by rw[<-r1.length,<-r2.length];exact hz)
 refine⟨.ref s.heap.objs.size,_,I.laid (t':=s.toks) (o:=.tup (xs++ys)) (fun b ob q=>Heap.get?_push_of_some _ q) (Nat.le_refl _) ?_,rfl,q2 (fun w=>z (r2.nil_iff.mpr w)) _ (I.hok.fresh (Nat.le_refl _))⟩
 exact⟨by rw[List.length_append];exact hz,_,r1.append r2,IsTup.new _ _⟩
end
end L2
namespace L2
open PySem PySem.Spec PyProof.Rows
noncomputable def ixN (n:Nat)(i:Int):Option Nat:=if 0<=i then (if i<n then some i.toNat else none) else if -(n:Int)<=i then some (i+n).toNat else none
noncomputable def atI {α:Type}(xs:List α)(i:Int):Option α:=(ixN xs.length i).bind fun j=>xs[j]?
theorem zm5 {n:Nat}{i:Int}{j:Nat}(h:ixN n i=some j):seqIndex? i n=some j/\j<n/\-(n:Int)<=i/\i<n:=by
 unfold ixN at h
 by_cases h0:0<=i
 · rw[if_pos h0] at h
   by_cases h1:i<n
   · rw[if_pos h1] at h
     have e:i.toNat=j:=Option.some.inj h
     exact⟨by rw[seqIndex_of h0 h1,e],by omega,by omega,h1⟩
   · rw[if_neg h1] at h;cases h
 · rw[if_neg h0] at h
   by_cases h1:-(n:Int)<=i
   · rw[if_pos h1] at h
     have e:(i+n).toNat=j:=Option.some.inj h
     exact⟨by rw[seqIndex_neg (by omega) h1,e],by omega,h1,by omega⟩
   · rw[if_neg h1] at h;cases h
theorem zgv {α:Type}{xs:List α}{i:Int}{v:α}(h:atI xs i=some v):∃j,seqIndex? i xs.length=some j/\xs[j]?=some v/\j<xs.length/\-(xs.length:Int)<=i/\i<xs.length:=by
 unfold atI at h
 cases e:ixN xs.length i with
 |none=>rw[e] at h;cases h
 | some j =>
   rw[e] at h
   obtain⟨h1,h2,h3,h4⟩:=zm5 e
   exact⟨j,h1,h,h2,h3,h4⟩
noncomputable def zjL (b:Expr):Prop:=∀o i,subscripted b false o i=operate [o,i] (getItem o i)
noncomputable def IxR (X:Cx)(r:R2):Prop:=
 ∀(value slice:Expr) (pins:List (Addr × Obj)) (s:Shared) (σ:St) (H:Hp) (x y:V) (v u:Value) (Q:VK),Inv X pins σ H s->RelV x v->RelV y u->r x y H Q->
  subscripted slice false v u=operate [v,u] (getItem v u)->wpAny (model X.prog X.w) X.A (subscriptTail value slice v u) (EP X pins σ Q) X.xe s
noncomputable def MtR (X:Cx)(id:String)(r:V->List V->Hp->VK->Prop):Prop:=
 ∀(pins:List (Addr × Obj)) (s:Shared) (σ:St) (H:Hp) (x:V) (xs:List V) (v:Value) (us:List Value) (Q:VK),Inv X pins σ H s->RelV x v->Vals xs us->r x xs H Q->
  wpAny (model X.prog X.w) X.A (call (.builtin id) (v::us)) (EP X pins σ Q) X.xe s
section
variable {X:Cx} {a b:Expr} {ta tb:TE} {pos:Pos}
theorem IxR.or {r r':R2}(h:IxR X r)(h':IxR X r'):IxR X (fun x y H Q=>r x y H Q\/r' x y H Q):=by
 intro value slice pins s σ H x y v u Q I rx ry q hs
 rcases q with q|q
 · exact h value slice pins s σ H x y v u Q I rx ry q hs
 · exact h' value slice pins s σ H x y v u Q I rx ry q hs
theorem zqd {r:R2}(hr:IxR X r)(ha:PE X a ta)(hb:PE X b tb)(hs:zjL b):PE X (.Subscript a b pos) (tOp r ta tb):=by
 intro pins s σ H Q I h
 exact Subscript_ (binT ha hb I h fun v u s2 x y H2 I2 rx ry q=>hr a b pins s2 σ H2 x y v u Q I2 rx ry q (hs _ _))
noncomputable def rIxL (K:PySem.W.Frag):R2:=fun x y H Q=>∃p xs i v,x=.ref p/\y=.int i/\SqL K H p xs/\atI xs i=some v/\Q v H
noncomputable def rIxT (K:PySem.W.Frag):R2:=fun x y H Q=>∃p xs i v,x=.ref p/\y=.int i/\SqT K H p xs/\atI xs i=some v/\Q v H
noncomputable def rIxS:R2:=fun x y H Q=>∃z i c,x=.str z/\y=.int i/\z.length<=sizeLine/\atI z.cps.toList i=some c/\Q (.str ⟨#[c]⟩) H
theorem ix_list:IxR X (rIxL X.K):=by
 intro value slice pins s σ H x y v u Q I rx ry h hs
 obtain⟨p,xs,i,z,rfl,rfl,hq,he,q⟩:=h
 cases rx
 obtain⟨t,rfl⟩:=ry
 obtain⟨its,r,pl,hz⟩:=I.list hq
 obtain⟨j,h1,h2,h3,h4,h5⟩:=zgv he
 obtain⟨w,ew,rw'⟩:=r.get h2
 have hl:=r.length
 have hn:=zfo
 have fin:EP X pins σ Q w s:=⟨z,H,I,rw',q⟩
 by_cases h0:0<=i
 · have hj:i.toNat=j:=by
    rw[seqIndex_of h0 h5] at h1
    exact Option.some.inj h1
   exact item_listR pl.isList h0 (by omega) (by rw[hj];simpa using ew) fin hs
 · have hj:(i+(its.toArray.size:Int)).toNat=j:=by
    rw[seqIndex_neg (by omega) h4] at h1
    rw[List.size_toArray,<-hl]
    exact Option.some.inj h1
   exact subscriptTail_builtinR (x:=w) pl.isList.typeIs slot_list_getitem.lookup
    (wpAny_getItem_list_neg (Q:=fun r s'=>r=w/\EP X pins σ Q r s') pl.isList (by omega) (by rw[List.size_toArray]<;>omega) (by omega) (by rw[hj];simpa using ew) ⟨rfl,fin⟩) hs
theorem ix_tup:IxR X (rIxT X.K):=by
 intro value slice pins s σ H x y v u Q I rx ry h hs
 obtain⟨p,xs,i,z,rfl,rfl,hq,he,q⟩:=h
 cases rx
 obtain⟨t,rfl⟩:=ry
 obtain⟨its,r,pl,hz⟩:=I.tuple hq
 obtain⟨j,h1,h2,h3,h4,h5⟩:=zgv he
 obtain⟨w,ew,rw'⟩:=r.get h2
 have hl:=r.length
 have hn:=zfo
 have fin:EP X pins σ Q w s:=⟨z,H,I,rw',q⟩
 exact subscriptTail_builtinR (x:=w) pl.typeIs slot_tuple_getitem.lookup
  (getItem_tuple (j:=j) (Q:=fun r s'=>r=w/\EP X pins σ Q r s') pl (by omega) (by omega) (by rw[List.size_toArray,<-hl];exact h1) (by simpa using ew) ⟨rfl,fin⟩) hs
theorem zpj:IxR X rIxS:=by
 intro value slice pins s σ H x y v u Q I rx ry h hs
 obtain⟨z,i,c,rfl,rfl,hz,he,q⟩:=h
 obtain⟨t,rfl⟩:=rx
 obtain⟨t',rfl⟩:=ry
 obtain⟨j,h1,h2,h3,h4,h5⟩:=zgv he
 have hl:z.cps.toList.length=z.length:=by simp[Str.length]
 rw[hl] at h1 h4 h5
 have hn:=zfo
 exact tail_any (typeIs_str s z t) slot_str_getitem.lookup (getItem_str (c:=c) (by
  have e1:decide (i < -(2 ^ 63:Int))=false:=decide_eq_false (by omega)
  have e2:decide (i≥2 ^ 63)=false:=decide_eq_false (by omega)
  rw[e1,e2,Bool.or_false]) (by rw[h1];simpa using h2) ⟨.str ⟨#[c]⟩,H,I.tok _,⟨_,rfl⟩,q⟩) hs
noncomputable def rIx (K:PySem.W.Frag):R2:=fun x y H Q=>rIxL K x y H Q\/rIxT K x y H Q\/rIxS x y H Q
theorem zpk:IxR X (rIx X.K):=ix_list.or (ix_tup.or zpj)
theorem Inv.lst {pins:List (Addr × Obj)}{σ:St}{H:Hp}{s:Shared}{p:Addr}{xs:List V}(I:Inv X pins σ H s)(h:H p=some (.lst xs)) :
  ∃(its:List Value) (n:Nat),Vals xs its/\s.heap.get? p=some {cls:=.type "list",data:=.seq its.toArray n}/\xs.length<=sizeLine:=by
 obtain⟨z,its,n,r,e⟩:=I.hok p _ h
 exact⟨its,n,r,e,z⟩
theorem ze2 (lo hi:Option Int)(n:Nat):(sliceBounds lo hi none n).1=((HT.sIx n 0 lo:Nat):Int)/\(sliceBounds lo hi none n).2.1=((HT.sIx n n hi:Nat):Int)/\(sliceBounds lo hi none n).2.2=1:=by
 refine⟨?_,?_,rfl⟩
 · cases lo with
   |none=>simp[sliceBounds,HT.sIx]
   | some i =>
     simp only[sliceBounds,HT.sIx,Option.getD_none,show (1:Int) > 0 by decide,if_true]
     by_cases h:i<0
     · simp only[h,if_true]<;>omega
     · simp only[h,if_false]<;>omega
 · cases hi with
   |none=>simp[sliceBounds,HT.sIx]
   | some i =>
     simp only[sliceBounds,HT.sIx,Option.getD_none,show (1:Int) > 0 by decide,if_true]
     by_cases h:i<0
     · simp only[h,if_true]<;>omega
     · simp only[h,if_false]<;>omega
theorem zev (its:List Value)(lo hi:Option Int):slicePick its.toArray lo hi none=((its.drop (HT.sIx its.length 0 lo)).take (HT.sIx its.length its.length hi - HT.sIx its.length 0 lo)).toArray:=by
 obtain⟨h1,h2,h3⟩:=ze2 lo hi its.toArray.size
 unfold slicePick
 rw[h1,h2,h3]
 simp only[sliceRange_one,pick_run,List.size_toArray]<;>rfl
noncomputable def rSlL (K:PySem.W.Frag):V->Option Int->Option Int->Hp->VK->Prop:=fun x lo hi H Q=>∃a xs,x=.ref a/\SqL K H a xs/\∀p,H p=none->Q (.ref p) (upd H p (.lst (cutV xs lo hi)))
theorem zl4:SlR X (rSlL X.K):=by
 intro pins s σ H x v vl vu lo hi sl Q I rx hs pl pu h
 obtain⟨a,xs,rfl,hx,q⟩:=h
 cases rx
 obtain⟨its,r,ht,hz⟩:=I.list hx
 have hlen:=r.length
 refine⟨"list",_,slot_list_getitem.lookup,ht.isList.typeIs,?_⟩
 refine wpAny_getItem_list_slice ht.isList hs pl pu .none (by simp) ?_ (by rw[List.size_toArray]<;>omega)
 rw[zev,<-hlen]
 refine⟨.ref s.heap.objs.size,_,I.laid (t':=s.toks) (o:=.lst (cutV xs lo hi)) (fun b ob q=>Heap.get?_push_of_some _ q) (Nat.le_refl _) ?_,rfl,q _ (I.hok.fresh (Nat.le_refl _))⟩
 exact⟨Nat.le_trans (zdP xs lo hi) hz,_,0,(r.drop (HT.sIx xs.length 0 lo)).take (HT.sIx xs.length xs.length hi - HT.sIx xs.length 0 lo),Heap.get?_push_size _ rfl⟩
theorem zce:zbB X (.builtin "len") (fun xs H Q=>∃p ys,xs=[.ref p]/\(SqL X.K H p ys\/SqT X.K H p ys)/\Q (.int ys.length) H):=by
 intro pins s σ H xs us Q I r h
 obtain⟨p,ys,rfl,hq,q⟩:=h
 obtain⟨u,rfl,rx⟩:=zib r
 cases rx
 have hn:=zfo
 rcases hq with hq|hq
 · obtain⟨its,r',pl,hz⟩:=I.list hq
   have hlen:=r'.length
   exact Calls.call_len_list pl.isList (by simp only[List.size_toArray]<;>omega) ⟨.int ys.length,H,I.tok _,⟨s.toks+1,by rw[List.size_toArray,hlen]⟩,q⟩
 · obtain⟨its,r',pl,hz⟩:=I.tuple hq
   have hlen:=r'.length
   exact len_tuple pl (by simp only[List.size_toArray]<;>omega) ⟨.int ys.length,H,I.tok _,⟨s.toks+1,by rw[List.size_toArray,hlen]⟩,q⟩
theorem zfK:zbB X (.type "list") (fun xs H Q=>∃p ys,xs=[.ref p]/\(SqL X.K H p ys\/SqT X.K H p ys)/\∀l,H l=none->Q (.ref l) (upd H l (.lst ys))):=by
 intro pins s σ H xs us Q I r h
 obtain⟨p,ys,rfl,hq,q⟩:=h
 obtain⟨u,rfl,rx⟩:=zib r
 cases rx
 have fin:∀(its:List Value),Vals ys its->ys.length<=sizeLine->∀(h':Heap) (c':Nat),(∀b o',s.heap.get? b=some o'->h'.get? b=some o')->
   h'.get? s.heap.objs.size=some {cls:=.type "list",dict:=none,data:=.seq its.toArray c',slots:=#[]}->EP X pins σ Q (.ref s.heap.objs.size) {s with heap:=h'}:=fun its r' hz h' c' kp e=>
  ⟨.ref s.heap.objs.size,_,I.laid (t':=s.toks) kp (Nat.le_refl _) (show ObjOk X.prog X.w _ h' _ (.lst ys) from⟨hz,its,c',r',e⟩),rfl,q _ (I.hok.fresh (Nat.le_refl _))⟩
 rcases hq with hq|hq
 · obtain⟨its,r',pl,hz⟩:=I.list hq
   have hlen:=r'.length
   obtain⟨o,ho,hc,n,hd⟩:=pl.isList
   exact call_list_seq p (.inl rfl) ho hc hd (fun h' c' kp e=>fin its r' hz h' c' kp e) (by simp only[List.size_toArray]<;>omega)
 · obtain⟨its,r',pl,hz⟩:=I.tuple hq
   have hlen:=r'.length
   obtain⟨o,ho,hc,n,hd⟩:=pl
   exact call_list_seq p (.inr rfl) ho hc hd (fun h' c' kp e=>fin its r' hz h' c' kp e) (by simp only[List.size_toArray]<;>omega)
theorem zeV:zbB X (.type "tuple") (fun xs H Q=>∃p ys,xs=[.ref p]/\((SqL X.K H p ys/\∀l,H l=none->Q (.ref l) (upd H l (.tup ys)))\/(SqT X.K H p ys/\Q (.ref p) H))):=by
 intro pins s σ H xs us Q I r h
 obtain⟨p,ys,rfl,h⟩:=h
 obtain⟨u,rfl,rx⟩:=zib r
 cases rx
 rcases h with ⟨hq,q⟩|⟨hq,q⟩
 · obtain⟨its,r',pl,hz⟩:=I.list hq
   have hlen:=r'.length
   refine call_tuple_list pl.isList (fun h' kp=>?_) (by simp only[List.size_toArray]<;>omega)
   have I1:Inv X pins σ H {s with heap:=h'}:=I.kept (t':=s.toks) kp
   have I2:Inv X pins σ (upd H h'.objs.size (.tup ys)) {s with heap:=h'.push {cls:=.type "tuple",data:=.seq its.toArray}}:=
    I1.laid (t':=s.toks) (fun b o e=>Heap.get?_push_of_some _ e) (Nat.le_refl _) (show ObjOk X.prog X.w _ _ _ (.tup ys) from⟨hz,its,r',IsTup.new _ _⟩)
   exact⟨.ref h'.objs.size,_,I2,rfl,q _ (I1.hok.fresh (Nat.le_refl _))⟩
 · obtain⟨its,r',pl,hz⟩:=I.tuple hq
   exact call_tuple_same pl ⟨.ref p,H,I,rfl,q⟩
noncomputable def tyV (K:PySem.W.Frag)(T:String)(x:V)(H:Hp):Prop:=match x with
 |.str _=>T="str"
 |.int _=>T="int"
 |.ref p=>(T="list"/\∃xs,SqL K H p xs)\/(T="tuple"/\∃o,K.lookup p=some o/\o.cls=.type "tuple"/\o.dict=none)\/
  (T="dict"/\((∃kvs,H p=some (.dK kvs))\/∃kvs,H p=some (.dT kvs)))\/(T="set"/\∃S n,H p=some (.set S n))
 |_=>False
theorem zld {pins:List (Addr × Obj)}{σ:St}{H:Hp}{s:Shared}{T:String}{x:V}{v:Value}(I:Inv X pins σ H s)(r:RelV x v)(ty:tyV X.K T x H) :
  s.TypeIs v T/\∀a,v=.ref a->∃ob,s.heap.get? a=some ob/\ob.dict=none:=by
 cases x with
 | str z =>
   obtain⟨t,rfl⟩:=r
   cases (show T="str" from ty)
   exact⟨typeIs_str s z t,fun _ e=>nomatch e⟩
 | int i =>
   obtain⟨t,rfl⟩:=r
   cases (show T="int" from ty)
   exact⟨typeIs_int s i t,fun _ e=>nomatch e⟩
 | ref p =>
   cases r
   rcases ty with ⟨rfl,xs,hq⟩|⟨rfl,o,hk,hc,hd⟩|⟨rfl,hk⟩|⟨rfl,S,n,hk⟩
   · obtain⟨its,_,pl,_⟩:=I.list hq
     refine⟨pl.isList.typeIs,fun a e=>?_⟩
     cases e
     obtain⟨o,n,e,c,hd,_⟩:=pl
     exact⟨o,e,hd⟩
   · refine⟨⟨o,I.kIn p o hk,hc⟩,fun a e=>?_⟩
     cases e
     exact⟨o,I.kIn _ o hk,hd⟩
   · have z:∃o,s.heap.get? p=some o/\o.ExactDict:=by
      rcases hk with ⟨kvs,hk⟩|⟨kvs,hk⟩
      · obtain⟨_,_,_,_,o,_,_,e,ex,_⟩:=I.hok p _ hk
        exact⟨o,e,ex⟩
      · obtain⟨_,_,_,_,o,_,_,e,ex,_⟩:=I.hok p _ hk
        exact⟨o,e,ex⟩
     obtain⟨o,e,ex⟩:=z
     refine⟨⟨o,e,ex.1⟩,fun a e2=>?_⟩
     cases e2
     exact⟨o,e,ex.2.1⟩
   · obtain⟨o,_,_,_,e,ex,_⟩:=I.hok p _ hk
     refine⟨⟨o,e,ex.1⟩,fun a e2=>?_⟩
     cases e2
     exact⟨o,e,ex.2.1⟩
 |_=>exact False.elim ty
noncomputable def tBM0 (K:PySem.W.Frag)(T:String)(r:V->List V->Hp->VK->Prop)(to:TE):TE:=fun σ H Q=>to σ H fun x H1=>tyV K T x H1/\r x [] H1 Q
noncomputable def tBM (K:PySem.W.Frag)(T:String)(r:V->List V->Hp->VK->Prop)(to:TE)(t:TA):TE:=fun σ H Q=>to σ H fun x H1=>tyV K T x H1/\t σ H1 fun xs H2=>r x xs H2 Q
variable {o e:Expr} {es:List Expr} {to:TE} {t:TA} {name:Str} {apos cpos:Pos} {T id:String} {r:V->List V->Hp->VK->Prop}
theorem zoT (pa:PlainAttrs T)(slot:Slot T name id)(hty:typeOf (.builtin id)=pure (.type "method_descriptor"))(hm:MtR X id r)(ho:PE X o to)
  (hbase:attributeBase o name X.env (eval o X.env)=eval o X.env:=by rfl) (hline:(apos.endLine == cpos.line)=true:=by rfl):PE X (.Call (.Attribute o name apos) [] [] cpos) (tBM0 X.K T r to):=by
 intro pins s σ H Q I h
 refine wpAny_Call_method0_late hbase hline (thn (ho pins s σ H _ I h) fun v s1 ⟨x,H1,I1,r1,ty,q1⟩=>?_)
 obtain⟨h1,h2⟩:=zld I1 r1 ty
 exact⟨T,id,pa,slot,hty,h1,h2,Calls.callWith_builtin rfl (PySem.evalArgs_none (hm pins s1 σ H1 x [] v [] Q I1 r1 .nil q1))⟩
theorem zmN (pa:PlainAttrs T)(slot:Slot T name id)(hty:typeOf (.builtin id)=pure (.type "method_descriptor"))(hm:MtR X id r)(ho:PE X o to)(ha:PA X (e::es) t)
  (hbase:attributeBase o name X.env (eval o X.env)=eval o X.env:=by rfl)
  (hfew:((backTo cpos (starEach (e::es) X.env)).all (fun x=>!x.1)&&(backToKw cpos (keywordEach [] X.env)).all (fun x=>x.1.isSome)
   && decide ((e::es).length+([]:List Keyword).length+(if ([]:List Keyword).isEmpty then 0 else 1)<30))=true:=by rfl)
  (hline:(apos.endLine == cpos.line)=true:=by rfl) (hs:starEach (e::es) X.env=(false,eval e X.env)::starEach es X.env:=by rfl) (hplain:(backTo cpos (starEach es X.env)).any (·.1)=false:=by rfl) :
  PE X (.Call (.Attribute o name apos) (e::es) [] cpos) (tBM X.K T r to t):=by
 intro pins s σ H Q I h
 refine wpAny_Call_method_late hbase hfew hline rfl (thn (ho pins s σ H _ I h) fun v s1 ⟨x,H1,I1,r1,ty,q1⟩=>?_)
 obtain⟨h1,h2⟩:=zld I1 r1 ty
 refine⟨T,id,pa,slot,hty,h1,h2,?_⟩
 have hA:=ha cpos pins s1 σ H1 _ I1 q1
 rw[hs] at hA⊢
 refine Calls.callWith_builtin (by show (false || (backTo cpos (starEach es X.env)).any (·.1))=false;rw[hplain]<;>rfl) (Calls.evalArgs_plain ?_)
 exact thn hA fun us s2 ⟨vs,H2,I2,r2,q2⟩=>hm pins s2 σ H2 x vs v us Q I2 r1 r2 q2
/- xs.append(e),list.index on a module's tuple .. are MtR facts of 06m -/
end
end L2
namespace L2
open PySem PySem.Spec PyProof.Rows
noncomputable def MtM (X:Cx)(id:String)(r:V->List V->Hp->VK->Prop):Prop:=
 ∀(pins:List (Addr × Obj)) (s:Shared) (σ:St) (H:Hp) (x:V) (xs:List V) (v:Value) (us:List Value) (Q:VK),Inv X pins σ H s->RelV x v->Vals xs us->r x xs H Q->
  wpAny (model X.prog X.w) X.A (call (.builtin id) (v::us)) (EP X pins σ Q) X.xe s
theorem Vals.one:∀{x:V} {us:List Value},Vals [x] us->∃u,us=[u]/\RelV x u
 |_,_,.cons r .nil=>⟨_,rfl,r⟩
theorem Vals.zero:∀{us:List Value},Vals [] us->us=[]
 |_,.nil=>rfl
theorem Vals.eraseIdx:∀{xs:List V} {us:List Value} (i:Nat),Vals xs us->Vals (xs.eraseIdx i) (us.eraseIdx i)
 |_,_,_,.nil=>.nil
 |_,_,0,.cons _ t=>t
 |_,_,i+1,.cons r t=>.cons r (Vals.eraseIdx i t)
theorem zfp {α:Type}:∀(l:List α) (i:Nat),(l.eraseIdx i).length<=l.length
 | [],_=>Nat.le_refl _
 |_::_,0=>Nat.le_succ _
 |_::r,i+1=>Nat.succ_le_succ (zfp r i)
section
variable {X:Cx} {pins:List (Addr × Obj)} {σ:St} {H:Hp} {s:Shared} {l b:Addr} {xs ys zs:List V}
theorem Inv.lset {its its':List Value}{n:Nat}{f:Array Value->Array Value}{t':Nat}(I:Inv X pins σ H s)(hH:H l=some (.lst xs))
  (e:s.heap.get? l=some {cls:=.type "list",data:=.seq its.toArray n}) (hf:f its.toArray=its'.toArray) (hv:Vals ys its') (hz:ys.length<=sizeLine) :
  Inv X pins σ (upd H l (.lst ys)) {s with heap:=s.heap.update l (Obj.mapSeq f),toks:=t'}:=by
 have q:=PySem.IsL.update e f
 rw[hf] at q
 refine I.write (x:=l) (e:=l) (by rw[hH];exact trivial) (.inl rfl) (fun b' u hb hu=>(Heap.get?_update_other s.heap (Obj.mapSeq f) (Ne.symm hb)).trans hu) ⟨_,q⟩ ?_
 exact⟨hz,its',_,hv,q⟩
theorem Inv.lnew {its:List Value}{t':Nat}(I:Inv X pins σ H s)(hv:Vals ys its)(hz:ys.length<=sizeLine) :
  Inv X pins σ (upd H s.heap.objs.size (.lst ys)) {s with heap:=s.heap.push {cls:=.type "list",data:=.seq its.toArray},toks:=t'}:=
 I.laid (fun _ _ q=>Heap.get?_push_of_some _ q) (Nat.le_refl _) ⟨hz,its,0,hv,Heap.get?_push_size _ rfl⟩
theorem Inv.fresh (I:Inv X pins σ H s):H s.heap.objs.size=none:=I.hok.fresh (Nat.le_refl _)
theorem Inv.lstM (I:Inv X pins σ H s)(hH:H l=some (.lst xs)):xs.length<=sizeLine/\∃(its:List Value) (n:Nat),Vals xs its/\xs.length=its.length/\s.heap.get? l=some {cls:=.type "list",data:=.seq its.toArray n}:=by
 obtain⟨z,its,n,r,e⟩:=I.hok l _ hH
 exact⟨z,its,n,r,r.length,e⟩
theorem zkA {n:Nat}(h:n<=sizeLine):Builtin.List.listTooLong n=false:=by
 unfold Builtin.List.listTooLong
 exact decide_eq_false (by omega)
end
section
variable {X:Cx}
noncomputable def zmw:V->List V->Hp->VK->Prop:=fun x vs H Q=>∃l xs y,x=.ref l/\vs=[y]/\H l=some (.lst xs)/\xs.length<sizeLine/\Q .non (upd H l (.lst (xs++[y])))
theorem zfn:MtM X "list.append" zmw:=by
 intro pins s σ H x vs v us Q I rx rv h
 obtain⟨l,xs,y,rfl,rfl,hH,hz,q⟩:=h
 cases rx
 obtain⟨u,rfl,ru⟩:=rv.one
 obtain⟨z,its,n,r,hl,e⟩:=I.lstM hH
 refine call_meets F.slot_list_append ⟨_,e,rfl⟩ F.entry_list_append (F.args_list_append_2 _ _) (PySem.list_append l its.toArray n u (by rw[List.size_toArray];omega)) ⟨e,?_⟩
 refine⟨.non,_,I.lset (its':=its++[u]) hH e (by simp) (r.append (.cons ru .nil)) ?_,rfl,q⟩
 rw[List.length_append,List.length_singleton]
 omega
noncomputable def zmv:V->List V->Hp->VK->Prop:=fun x vs H Q=>∃l b xs zs,x=.ref l/\vs=[.ref b]/\H l=some (.lst xs)/\H b=some (.lst zs)/\xs.length+zs.length<=sizeLine/\Q .non (upd H l (.lst (xs++zs)))
theorem zfm:MtM X "list.extend" zmv:=by
 intro pins s σ H x vs v us Q I rx rv h
 obtain⟨l,b,xs,zs,rfl,rfl,hH,hB,hz,q⟩:=h
 cases rx
 obtain⟨u,rfl,ru⟩:=rv.one
 cases ru
 obtain⟨z,its,n,r,hl,e⟩:=I.lstM hH
 obtain⟨z2,its2,n2,r2,hl2,e2⟩:=I.lstM hB
 have hsz:its.toArray.size+its2.toArray.size<=sizeLine:=by rw[List.size_toArray,List.size_toArray];omega
 have hlong:¬(!its.toArray.isEmpty&&Builtin.List.listTooLong (its.toArray.size+its2.toArray.size))=true:=by
  rw[zkA hsz,Bool.and_false]
  exact Bool.false_ne_true
 refine call_meets F.slot_list_extend ⟨_,e,rfl⟩ F.entry_list_extend (F.args_list_extend_2 _ _)
  (AutoSeq1.list_extend_list_list_0 l its.toArray n b its2.toArray n2 hlong (by rw[List.size_toArray];omega) (by omega)) ⟨e,e2,?_⟩
 refine⟨.non,_,I.lset (its':=its++its2) hH e (by simp) (r.append r2) ?_,rfl,q⟩
 rw[List.length_append]
 omega
noncomputable def zoy:V->List V->Hp->VK->Prop:=fun x vs H Q=>∃l xs i k y,x=.ref l/\vs=[.int i]/\H l=some (.lst xs)/\-(2 ^ 63)<=i/\i<2 ^ 63/\seqIndex? i xs.length=some k/\xs[k]?=some y/\Q y (upd H l (.lst (xs.eraseIdx k)))
theorem zkD:MtM X "list.pop" zoy:=by
 intro pins s σ H x vs v us Q I rx rv h
 obtain⟨l,xs,i,k,y,rfl,rfl,hH,h1,h2,hk,hy,q⟩:=h
 cases rx
 obtain⟨u,rfl,ru⟩:=rv.one
 obtain⟨t,rfl⟩:=ru
 obtain⟨z,its,n,r,hl,e⟩:=I.lstM hH
 obtain⟨w,hw,rw'⟩:=r.get hy
 refine call_meets F.slot_list_pop ⟨_,e,rfl⟩ F.entry_list_pop (F.args_list_pop_2 _ _)
  (MeetsSeq.list_pop_at l its.toArray n i t k w (fitsIndex_both h1 h2) (by rw[List.size_toArray,<-hl];exact hk) (by rw[<-Array.getElem?_toList];exact hw) (by rw[List.size_toArray];omega)) ⟨e,?_⟩
 refine⟨y,_,I.lset (its':=its.eraseIdx k) hH e ?_ (r.eraseIdx k) ?_,rw',q⟩
 · show its.toArray.eraseIdxIfInBounds k=(its.eraseIdx k).toArray
   rw[List.eraseIdxIfInBounds_toArray]
 · have:=zfp xs k
   omega
noncomputable def zoz:V->List V->Hp->VK->Prop:=fun x vs H Q=>∃l xs,x=.ref l/\vs=[]/\H l=some (.lst xs)/\Q .non (upd H l (.lst []))
theorem zkE:MtM X "list.clear" zoz:=by
 intro pins s σ H x vs v us Q I rx rv h
 obtain⟨l,xs,rfl,rfl,hH,q⟩:=h
 cases rx
 have hus:=rv.zero
 subst hus
 obtain⟨z,its,n,r,hl,e⟩:=I.lstM hH
 refine call_meets F.slot_list_clear ⟨_,e,rfl⟩ F.entry_list_clear (F.args_list_clear_1 _) (AutoSeq1.list_clear_list_0 l its.toArray n (by rw[List.size_toArray];omega)) ⟨e,?_⟩
 exact⟨.non,_,I.lset (its':=[]) (ys:=[]) hH e rfl .nil (Nat.zero_le _),rfl,q⟩
noncomputable def rCat:R2:=fun x y H Q=>∃l b xs zs,x=.ref l/\y=.ref b/\H l=some (.lst xs)/\H b=some (.lst zs)/\xs.length+zs.length<=sizeLine/\∀p,H p=none->Q (.ref p) (upd H p (.lst (xs++zs)))
theorem zo4:OpR X (binaryOp .Add) rCat:=by
 intro pins s σ H x y v u Q I rx ry h
 obtain⟨l,b,xs,zs,rfl,rfl,hH,hB,hz,q⟩:=h
 cases rx
 cases ry
 obtain⟨z,its,n,r,hl,e⟩:=I.lstM hH
 obtain⟨z2,its2,n2,r2,hl2,e2⟩:=I.lstM hB
 refine PySem.P.add_list e e2 ?_ (by rw[List.size_toArray,List.size_toArray];omega)
 have ea:its.toArray++its2.toArray=(its++its2).toArray:=by simp
 rw[ea]
 exact⟨.ref _,_,I.lnew (t':=s.toks) (r.append r2) (by rw[List.length_append];omega),rfl,q _ I.fresh⟩
end
section
variable {prog:Program} {w:World} {A:Around} {E:Value->Shared->Prop} {s:Shared}
end
section
variable {X:Cx}
end
end L2
namespace Att
open PySem PySem.W PySem.Calls PyProof.Rows
theorem zdI {P:Params}{h:Heap}:∀(ns:List Int) (vs:List Value),WellAll P h vs (ns.map WData.int)->IntsAre vs ns:=by
 intro ns
 induction ns with
 | nil =>
   intro vs w
   rw[List.map_nil] at w
   cases w
   exact .nil
 | cons n ns ih =>
   intro vs w
   rw[List.map_cons] at w
   cases w with
   | cons a b =>
     cases a
     exact .cons _ _ (ih _ b)
theorem zim {l:OpenLaw}{n:Nat}(hn:l.most=some n){P:Params}{h:Heap}{args:List WData}{vals:List Value}
  (hpre:l.row.toRowW.claim.pre args=true) (hwl:WellAll P h vals args) :
  ∃a vs ns,vals=[Value.ref a]/\args=[WData.list (ns.map WData.int)]/\h.get? a=some {cls:=.type "list",data:=.seq vs.toArray}/\IntsAre vs ns/\ns.length<=n:=by
 have hsh:WShape.hasAll [] args [.list .int]=true:=(pre_splitW hpre).1
 have hc:l.pre.holds [] {args:=args}=true:=(pre_splitW hpre).2
 obtain⟨d,r,rfl,h1,h2⟩:=hasAllW_cons hsh
 obtain rfl:=hasAllW_nil h2
 obtain⟨xs,rfl,h3⟩:=hasW_list h1
 obtain⟨ns,rfl⟩:=items_int h3
 have hlen:ns.length<=n:=by
  unfold OpenLaw.pre at hc
  have h4:(WTm.not (.lt (.lit (.int (n:Int))) (.len (.arg 0)))).holds [] {args:=[.list (ns.map .int)]}=true:=by
   have h4:=(holds_andW hc).1
   rw[hn] at h4
   exact h4
  have h5:=condW_of h4 (w_not (w_lt w_lit (w_len_list (w_arg rfl))))
  rw[List.length_map] at h5
  refine Nat.le_of_not_lt fun q=>?_
  have q':(n:Int)<((ns.length:Nat):Int):=by omega
  first
   |(rw[decide_eq_true q'] at h5;exact absurd h5 (by decide))
   |(simp at h5;omega)
 cases hwl with
 | cons w1 w2 =>
   cases w2
   cases w1 with
   |list ho hall=>exact⟨_,_,ns,rfl,rfl,ho,zdI ns _ hall,hlen⟩
theorem ziM (l:OpenLaw)(args:List WData):l.row.toRowW.claim.post args (.bool true) args=true:=
 postW_of (r:=l.row.toRowW) (X:=(true == true))
  (show WShape.has [] (.bool true) .bool=true by first|rfl|decide|simp[WShape.has,WShape.arms,WShape.armsAll])
  (show (WTm.eq .res (.lit (.bool true))).value [] {args:=args,res:=some (.bool true),after:=args}=some (.bool (true == true)) from w_eq_bool (w_res rfl) w_lit) rfl
theorem attach_call {l:OpenLaw}{n:Nat}{q:Program}{loose:List Str}{XP:(Str->Option Value)->Heap->Prop}{YP:World->Heap->Prop}{d:DefRec}
  (hn:l.most=some n) (hdf:d.params.defaults=[])
  (call:∀(w:World) (s₀ s₁:Shared) (mg mb:Str->Option Value) (fa:Addr) (o:Obj) (pm cd doc:Value) (a:Addr) (vs:List Value) (ns:List Int),
   Ground q loose [] XP w s₀ mg mb s₁.heap->YP w s₁.heap->
   s₁.heap.get? fa=some o->o.data=.func (docDef d.name d.params d.body d.scope pm cd doc)->s₁.heap.CodeRec cd d.name->mg d.name=some (.ref fa)->
   s₁.heap.get? a=some {cls:=.type "list",data:=.seq vs.toArray}->IntsAre vs ns->ns.length<=n->s₁.gens = #[]->
   codeAny (model l.prog w) callerA (.call (.ref fa) ⟨[.ref a],[]⟩) (fun r s'=>r=.ok (.ret (.bool true))/\OldK s₁.heap s'.heap/\s'.os=s₁.os/\AllBare s'.gens) s₁) :
  WalkO q loose XP YP l.row.toRowW d [] (fun f vs=>PySem.call f vs):=by
 intro w s₀ s₁ mg mb G Y fa o pm cd doc dV kV ho hd hcd hD hmg hg args vals as hpre hlay hrd hwl hlo
 obtain rfl:dV=.none:=Dflts.none hD hdf
 obtain rfl:kV=.none:=Dflts.noKw hD
 obtain⟨a,vs,ns,rfl,rfl,hobj,hints,hlen⟩:=zim hn hpre hwl
 refine enter_call (codeAny_mono (call w s₀ s₁ mg mb fa o pm cd doc a vs ns G Y ho (fd_plain hd) hcd hmg hobj hints hlen hg) fun r s' hq=>?_)
 obtain⟨rfl,h2,h3,h4⟩:=hq
 exact⟨.inl ⟨.bool true,.bool true,[],rfl,fun _=>rfl,.bool true,ziM l _,fun _=>⟨List.Pairwise.nil,fun _ hm=>(nomatch hm)⟩⟩,h2,h3,h4⟩
section
variable {prog:Program} {w:World} {A:Around} {E:Value->Shared->Prop} {s:Shared} {K:Frag}
end
end Att
namespace L2
open PySem PySem.Spec PyProof.Rows
theorem zeZ:∀{vs:List Value} {ns:List Int},IntsAre vs ns->Vals (ns.map V.int) vs
 |_,_,.nil=>.nil
 |_,_,.cons n t h=>.cons ⟨t,rfl⟩ (zeZ h)
end L2
namespace L2
open PySem PySem.Spec PyProof.Rows
end L2
/- THE LAST THEOREM (shape;LID,My.* are yours):
 My.Adr: a structure of the addresses that your layer names (classes,functions);My.Txt K t: a structure (Prop) of the equations over K;
 My.txt_mk:{K} {implicit addresses ..} (e1:nsIn K mainGlobals "law"=some (some (.ref f))) (e2:K.lookup f=some ⟨oc,od,.func (fnOf "law" "law" params body scope dV kV doc pm an cdv ct),sl⟩) (e3:codeIn K cdv "law"=true) ..:∃t,My.Txt K t
set_option maxRecDepth 100000 in
set_option maxHeartbeats 0 in
theorem PySem.Challenge.cw_LID_holds : PySem.Challenge.rw_LID.Holds := by
 w_on;o_law;k_head;(case hw=>w_witness2)
 k_fill
 refine L2.walk_of (l:=PySem.Challenge.rw_LID) (n:=63) (k:=40) (x:="script") (CX:=fun w=>..) (sp:=fun _=>My.sp_law) rfl (by decide) rfl ⟨rfl,by decide,by decide⟩ (fun w h Y=>PySem.W.kIn_of Y) ?F ?S ?C
 case F=>
  intro w mg fa h KX G hmg
  have T:∃t,My.Txt (L2.KOf KX) t:=by
   dsimp only[L2.KOf] -- K must stand as «<heap const> w.params» for k_is
   refine' My.txt_mk ?e1 ?e2 ?e3 ..
   (case e1=>PySem.W.k_is) -- in the order: a name -> its address -> its object -> its parts
   (case e2=>PySem.W.k_is)
   ..
  obtain⟨t,T⟩:=T
  have e0:=hmg.symm.trans (PySem.W.mg_of KX G T.law)
  cases e0 -- fa is the law's own address
  exact⟨_,fun s u=>.of_eq rfl,fun base kb nb=>My.law_fn T kb nb⟩ -- if «.of_eq rfl» comes too early: refine'⟨_,?b,fun base kb nb=>My.law_fn T kb nb⟩;exact fun s u=>.of_eq rfl
 case S=>exact fun w H a ns hl hO hS=>..
 case C=>exact ..
(the tactic k_is has no namespace: write k_is) -/
namespace L2
open PySem PySem.Spec PyProof.Rows
noncomputable def zqq (s:Stmt)(j:Nat):Stmt:=match s with
 |.ClassDef _ _ _ body _ _ _ _ _ _ _=>body.getD j (.Pass ⟨0,0,0,0⟩)
 |_=>.Pass ⟨0,0,0,0⟩
noncomputable def zaq (s:Stmt):Arguments:=match s with
 |.FunctionDef _ a _ _ _ _ _ _ _ _=>a
 |_=>{posonlyargs:=[],args:=[],vararg:=none,kwonlyargs:=[],kw_defaults:=[],kwarg:=none,defaults:=[]}
noncomputable def zae (s:Stmt):List Stmt:=match s with
 |.FunctionDef _ _ b _ _ _ _ _ _ _=>b
 |_=>[]
noncomputable def zac (s:Stmt):Scope:=match s with
 |.FunctionDef _ _ _ _ _ _ sc _ _ _=>sc
 |_=>{kind:=.function,names:=[],isGenerator:=false,isCoroutine:=false}
noncomputable abbrev CX0:CXT:=fun _ _ _ _ _ _=>False
noncomputable abbrev E0:XK:=fun _ _ _=>False
theorem zf9 {X:Cx}:zdU CX0 X E0:=fun _ _ _ _ _ _ _ h=>h.elim
structure Fun (K:PySem.W.Frag) (x qual:Str) (st:Stmt) (f:Addr) (fd:FuncData):Prop where
 ex:∃(oc:Value) (od:Option Addr) (kV doc pm:Value) (an:Option Addr) (cdv ct:Value) (osl:Array (Option Value)),
  fd=PySem.W.fnOf x qual (zaq st) (zae st) (zac st) .none kV doc pm an cdv ct/\K.lookup f=some ⟨oc,od,.func fd,osl⟩/\PySem.W.codeIn K cdv qual=true
 kp:PySem.W.keepIn K (.ref f)=true
section
variable {P:Program} {w:World} {K:PySem.W.Frag} {mg:Str->Option Value} {base:Heap}
end
section
variable {X:Cx}
end
noncomputable def Same (H H':Hp):Prop:=∀b o,H b=some o->H' b=some o
end L2
namespace L2
open PySem PySem.Spec PyProof.Rows
section
variable {X:Cx}
theorem zjC:zbB X (.builtin "len") (fun xs H Q=>∃a kvs,xs=[V.ref a]/\H a=some (.dK kvs)/\Q (.int kvs.length) H):=by
 intro pins s σ H xs us Q I r h
 obtain⟨a,kvs,rfl,ha,q⟩:=h
 obtain⟨u,rfl,ru⟩:=zib r
 cases ru
 exact zqx I (.inl ha) fun t s' I'=>⟨.int kvs.length,H,I',⟨t,rfl⟩,q⟩
end
section
variable {κ:Type} [DecidableEq κ]
end
end L2
end
section
namespace L2
open PySem PySem.Spec PyProof.Rows
noncomputable def zbA (cells:List (Str × Addr))(y:Str × NameKind)(acc:List (Str × Addr)):List (Str × Addr):=
 if (y.2 == NameKind.free)=true then (match cells.lookup y.1 with|some c=>(y.1,c)::acc|none=>acc) else acc
noncomputable def zgn (cells:List (Str × Addr))(names:List (Str × NameKind))(acc:List (Str × Addr)):List (Str × Addr):=names.foldl (fun a y=>zbA cells y a) acc
theorem zdM {α β:Type}(f:α->β->Sem (ForInStep β))(g:α->β->β):∀(l:List α) (b:β),(∀x∈l,∀b,f x b=pure (.yield (g x b)))->forIn l b f=(pure (l.foldl (fun b x=>g x b) b):Sem β)
 | [],b,_=>rfl
 | x :: l, b, h => by
   rw[List.forIn_cons,h x List.mem_cons_self,pure_bind]
   exact zdM f g l _ fun y hy=>h y (List.mem_cons_of_mem _ hy)
theorem zb5 {scope:Scope}{env:Env}(h:∀y∈scope.names,y.2=.free->∃c,env.cells.lookup y.1=some c) :
  closureFor scope env=pure (zgn env.cells scope.names []):=by
 unfold closureFor zgn
 dsimp only
 rw[zdM _ (fun y a=>zbA env.cells y a)]
 · simp
 · intro y hy a
   obtain⟨n,k⟩:=y
   by_cases hk:k=.free
   · obtain⟨c,hc⟩:=h _ hy hk
     subst hk
     simp at hc
     simp[cellOf,hc,zbA]
   · have:(k == NameKind.free)=false:=by simpa using hk
     simp[this,zbA]
theorem zfB {cells:List (Str × Addr)}:∀(names:List (Str × NameKind)) (acc:List (Str × Addr)),(∀x c,acc.lookup x=some c->cells.lookup x=some c)->
  ∀x c,(zgn cells names acc).lookup x=some c->cells.lookup x=some c
 | [],acc,h=>h
 | y :: r, acc, h => by
   refine zfB r (zbA cells y acc) ?_
   intro x c e
   unfold zbA at e
   split at e
   · split at e
     · rename_i c' hc'
       rw[List.lookup_cons] at e
       cases hx:x == y.1 with
       | true =>
         rw[hx] at e
         have q:x=y.1:=beq_iff_eq.mp hx
         have e':c'=c:=Option.some.inj e
         rw[q,<-e']
         exact hc'
       |false=>rw[hx] at e;exact h x c e
     · exact h x c e
   · exact h x c e
theorem zdQ {cells:List (Str × Addr)}:∀(names:List (Str × NameKind)) (acc:List (Str × Addr)) (x:Str),(∀y∈names,y.2=.free->∃c,cells.lookup y.1=some c)->
  ((∃c,acc.lookup x=some c)\/(x,NameKind.free)∈names)->∃c,(zgn cells names acc).lookup x=some c
 | [], acc, x, _, h => by
   rcases h with h|h
   · exact h
   · cases h
 | y :: r, acc, x, hf, h => by
   refine zdQ r (zbA cells y acc) x (fun z hz=>hf z (List.mem_cons_of_mem _ hz)) ?_
   rcases h with ⟨c,h⟩|h
   · left
     unfold zbA
     split
     · split
       · rename_i c' hc'
         rw[List.lookup_cons]
         cases hx:x == y.1 with
         |true=>exact⟨c',rfl⟩
         |false=>exact⟨c,h⟩
       · exact⟨c,h⟩
     · exact⟨c,h⟩
   · rcases List.mem_cons.mp h with h|h
     · left
       subst h
       obtain⟨c,hc⟩:=hf _ List.mem_cons_self rfl
       refine⟨c,?_⟩
       simp at hc
       simp[zbA,hc]
     · exact .inr h
noncomputable def zcp (env:Env)(y:Str × NameKind):Str × NameKind:=if (y.2 == .free&&env.scope.kind == .function&&env.kindOf y.1 == some .cell)=true then (y.1,.cell) else y
theorem zbW (scope:Scope)(env:Env):(relabel scope env).names=scope.names.map (zcp env):=by
 unfold relabel
 show scope.names.map _=_
 refine List.map_congr_left fun y _=>?_
 obtain⟨n,k⟩:=y
 rfl
theorem zdq (env:Env)(y:Str × NameKind):(zcp env y).1=y.1:=by unfold zcp;split<;>rfl
theorem zdp (env:Env)(y:Str × NameKind):(zcp env y).2=y.2\/(y.2=.free/\(zcp env y).2=.cell):=by
 unfold zcp
 split
 · rename_i h
   simp only[Bool.and_eq_true,beq_iff_eq] at h
   exact .inr ⟨h.1.1,rfl⟩
 · exact .inl rfl
theorem zb7 (env:Env)(x:Str):∀names:List (Str × NameKind),∀k,(names.map (zcp env)).lookup x=some k->∃k0,(x,k0)∈names/\names.lookup x=some k0/\(k=k0\/(k0=.free/\k=.cell))
 | [],k,h=>by simp at h
 | y :: r, k, h => by
   rw[List.map_cons] at h
   have f1:=zdq env y
   have f2:=zdp env y
   obtain⟨n,k1⟩:=y
   generalize hz:zcp env (n,k1)=z at *
   obtain⟨zn,zk⟩:=z
   simp only at f1 f2
   subst f1
   rw[List.lookup_cons] at h
   rw[List.lookup_cons]
   cases hx:x == zn with
   | true =>
     rw[hx] at h
     have q:x=zn:=beq_iff_eq.mp hx
     subst q
     have e:zk=k:=Option.some.inj h
     subst e
     exact⟨k1,List.mem_cons_self,rfl,f2⟩
   | false =>
     rw[hx] at h
     obtain⟨k0,m,l,q⟩:=zb7 env x r k h
     exact⟨k0,List.mem_cons_of_mem _ m,l,q⟩
theorem zbX (env:Env)(x:Str):∀names:List (Str × NameKind),names.lookup x=some .free->(names.map (zcp env)).lookup x=some .free\/(names.map (zcp env)).lookup x=some .cell
 | [],h=>by simp at h
 | y :: r, h => by
   rw[List.map_cons]
   have f1:=zdq env y
   have f2:=zdp env y
   obtain⟨n,k1⟩:=y
   generalize hz:zcp env (n,k1)=z at *
   obtain⟨zn,zk⟩:=z
   simp only at f1 f2
   subst f1
   rw[List.lookup_cons] at h
   rw[List.lookup_cons]
   cases hx:x == zn with
   | true =>
     rw[hx] at h
     have e:k1=.free:=Option.some.inj h
     subst e
     rcases f2 with f2|⟨_,f2⟩
     · left;show some zk=_;rw[f2]
     · right;show some zk=_;rw[f2]
   | false =>
     rw[hx] at h
     exact zbX env x r h
structure CompOk (sc scope:Scope) (N0:List Str) (js:List Nat):Prop where
 kind:scope.kind=.function
 nocell:∀y∈scope.names,y.2≠.cell
 locs:∀y∈scope.names,y.2=.local->scope.names.lookup y.1=some .local
 frees:∀y∈scope.names,y.2=.free->sc.names.lookup y.1=some .cell\/sc.names.lookup y.1=some .free
 caps:∀j∈js,scope.names.lookup (N0.getD j "")=some .free/\j<N0.length
noncomputable abbrev zaX (X:Cx)(N':List Str)(scope:Scope)(cl:List (Str × Addr))(C:Addr)(fp:List Addr)(s:Shared)(H:Hp)(pn:List (Addr × Obj)):Cx:=
 {X with N:=N',s₀:=s,H₀:=H,env:=compEnvC scope cl C X.env,outer:=X.stack,stack:=X.stack,ex:=fp,fn:=fun _=>false,pn:=pn,xe:=fun _ _=>False}
noncomputable def csl (nt:Nat)(js:List Nat)(σ:St):St:=List.replicate nt none++js.map fun j=>(σ[j]?).join
noncomputable abbrev capN (N0:List Str)(tgs:List Str)(js:List Nat):List Str:=tgs++js.map fun j=>N0.getD j ""
noncomputable def PTs (X:Cx)(ifs:List Expr)(t:TT):Prop:=
 ∀(pins:List (Addr × Obj)) (s:Shared) (σ:St) (H:Hp) (Q:Bool->Hp->Prop),Inv X pins σ H s->t σ H Q->
  wpAny (model X.prog X.w) X.A (forIn ifs true fun c r=>if r=true then do let ok <-isTrue c X.env (eval c X.env);pure (ForInStep.yield ok) else pure (ForInStep.yield r)) (TP X pins σ Q) X.xe s
noncomputable def tYes:TT:=fun _ H Q=>Q true H
theorem zmA {X:Cx}:PTs X [] tYes:=fun pins s σ H Q I h=>wpAny_tests_nil ⟨H,I,h⟩
theorem ziG {X:Cx}{c:Expr}{t:TT}(h:PT X c t):PTs X [c] t:=fun pins s σ H Q I q=>wpAny_tests_one (h pins s σ H Q I q)
noncomputable def zlW (nt:Nat)(js:List Nat)(wi:TI)(g:TG)(tt:TT)(te:TE):TE:=fun σ H Q=>wi σ H fun J H1=>∀p,H1 p=none->
 ∃W:Nat->Nat->St->Hp->Prop,(∃m,W 0 m (csl nt js σ) (upd H1 p (.lst [])))/\∀i m σ' H',W i m σ' H'->
  (J.stop i H'/\Q (.ref p) H')\/(J.go i H'/\∃N:St->Hp->Prop,(∀σ2 H2,N σ2 H2->∃m',m'<m/\W (i+1) m' σ2 H2)/\
   ∀x H2,J.yld i H' x H2->g x σ' H2 fun σ2 H3=>tt σ2 H3 fun b H4=>if b=true then te σ2 H4 fun v H5=>∃acc,H5 p=some (.lst acc)/\acc.length<sizeLine/\N σ2 (upd H5 p (.lst (acc++[v]))) else N σ2 H4)
section
variable {prog:Program} {w:World} {A:Around} {R:Result->Shared->Prop} {s:Shared}
theorem zhT {elt tg iter:Expr}{ifs:List Expr}{scope:Scope}{pos:Pos}{it acc:Value}{env:Env}(J:Nat->Shared->Prop)
  (turn:∀n s,J n s->wpAny (model prog w) A (pyNext it) (fun r s₁=>(r=none/\R (.ok .next) s₁)\/∃v,r=some v/\
   wpAny (model prog w) A (letOwnedTupleGo tg it v) (fun _ s₀=>wpAny (model prog w) A (assign tg env v) (fun _ s₂=>
    wpAny (model prog w) A (forIn ifs true fun c r=>if r=true then do let ok <-isTrue c env (eval c env);pure (ForInStep.yield ok) else pure (ForInStep.yield r)) (fun ok s₃=>
     if ok=true then wpAny (model prog w) A (eval elt env) (fun x s₄=>wpAny (model prog w) A (call (.builtin "list.append") [acc,x]) (fun _ s₅=>∃m,m<n/\J m s₅) (fun _ _=>False) s₄) (fun _ _=>False) s₃
     else ∃m,m<n/\J m s₃) (fun _ _=>False) s₂) (fun _ _=>False) s₀) (fun _ _=>False) s₁) (fun _ _=>False) s)
  (n:Nat) (h:J n s):codeAny (model prog w) A (.compLoop (.ListComp elt [⟨tg,iter,ifs,0⟩] scope pos) 0 it acc env) R s:=by
 refine codeAny_loop rfl J (fun n s hI=>?_) n h
 show wpAny _ A ((compTurn (.ListComp elt [⟨tg,iter,ifs,0⟩] scope pos) 0 it acc env).onRaise (fun x=>do noteFrame x env;theTreesLotGoes x)) _ _ s
 refine wpAny_noted ?_
 rw[compTurn_list]
 refine wpAny_bind (wpAny_standAt (wpAny_bind (wpAny_mono (turn n s hI) (fun r s₁ h₁=>?_) fun _ _ f=>f.elim)))
 rcases h₁ with ⟨rfl,h₁⟩|⟨v,rfl,h₁⟩
 · exact wpAny_pure h₁
 · refine wpAny_bind (wpAny_mono h₁ (fun _ s₀ h₀=>?_) fun _ _ f=>f.elim)
   refine wpAny_bind (wpAny_mono h₀ (fun _ s₂ h₂=>?_) fun _ _ f=>f.elim)
   refine wpAny_bind (wpAny_mono h₂ (fun ok s₃ h₃=>?_) fun _ _ f=>f.elim)
   cases ok with
   |false=>exact wpAny_pure ⟨rfl,h₃⟩
   | true =>
     refine wpAny_bind (wpAny_bind (wpAny_mono h₃ (fun x s₄ h₄=>?_) fun _ _ f=>f.elim))
     exact wpAny_bind (wpAny_mono h₄ (fun _ s₅ h₅=>wpAny_pure (wpAny_pure ⟨rfl,h₅⟩)) fun _ _ f=>f.elim)
end
section
variable {X:Cx} {sc scope:Scope} {tgs:List Str} {js:List Nat} {elt tg iter:Expr} {ifs:List Expr} {pos:Pos} {wi:TI} {g:TG} {tt:TT} {te:TE}
theorem zeb (hc:X.calm=true)(hsc:X.env.scope=sc)(ok:CompOk sc scope X.N js)
  (hg:∀cl C fp s H pn,PG (zaX X (capN X.N tgs js) scope cl C fp s H pn) tg g)
  (ht:∀cl C fp s H pn,PTs (zaX X (capN X.N tgs js) scope cl C fp s H pn) ifs tt)
  (he:∀cl C fp s H pn,PE (zaX X (capN X.N tgs js) scope cl C fp s H pn) elt te)
  {pins:List (Addr × Obj)} {σ:St} {H2:Hp} {s2:Shared} {it:Addr} {fp:List Addr} {tn:Nat->Heap->Prop} {J:It} {E:Value->Shared->Prop} {RR:Value->Addr->Result->Shared->Prop} {Q:VK}
  (I2:Inv X pins σ H2 s2) (T:Turn X.prog X.w X.K tg J fp it tn) (st2:tn 0 s2.heap) (f2:∀b∈fp,FpOk X pins H2 b)
  (rd:∀p,H2 p=none->∃W:Nat->Nat->St->Hp->Prop,(∃m,W 0 m (csl tgs.length js σ) (upd H2 p (.lst [])))/\∀i m σ' H',W i m σ' H'->
   (J.stop i H'/\Q (.ref p) H')\/(J.go i H'/\∃N:St->Hp->Prop,(∀σ2 H2,N σ2 H2->∃m',m'<m/\W (i+1) m' σ2 H2)/\
    ∀x H2,J.yld i H' x H2->g x σ' H2 fun σ2 H3=>tt σ2 H3 fun b H4=>if b=true then te σ2 H4 fun v H5=>∃acc,H5 p=some (.lst acc)/\acc.length<sizeLine/\N σ2 (upd H5 p (.lst (acc++[v]))) else N σ2 H4))
  (fin:∀p C H' s',Inv X pins σ H' s'->(∃m,s'.heap.Ns C m)->s2.heap.objs.size<C->H' C=none->Q (.ref p) H'->RR (.ref p) C (.ok .next) s') :
  wpAny (model X.prog X.w) X.A (newList []) (fun acc s₃=>wpAny (model X.prog X.w) X.A (newFunctionEnv scope X.env.globals (zgn X.env.cells scope.names []) [] X.env.qual none .none (some X.env)) (fun cenv s₄=>
   codeAny (model X.prog X.w) X.A (.compStart (.ListComp elt [⟨tg,iter,ifs,0⟩] scope pos) 0 (.ref it) acc {cenv with scope:=relabel scope X.env}) (RR acc cenv.locals) s₄) E s₃) E s2:=by
 subst hsc
 refine wpAny_newObj_type (wpAny_newFunctionEnv ok.nocell (by intro y hy;simp at hy) (fun h₁ hns₁ hsb₁=>?_) ok.kind)
 have I3:Inv X pins σ (upd H2 s2.heap.objs.size (.lst [])) {s2 with heap:=s2.heap.push {cls:=.type "list",data:=.seq ([]:List Value).toArray}}:=
  I2.lnew (its:=[]) (ys:=[]) (t':=s2.toks) .nil (Nat.zero_le _)
 obtain⟨W,⟨m0,w0⟩,turn⟩:=rd _ I2.fresh
 generalize hp:s2.heap.objs.size=p at *
 generalize hs3:({s2 with heap:=s2.heap.push {cls:=.type "list",data:=.seq ([]:List Value).toArray}}:Shared)=s3 at I3
 have e3:s3.heap=s2.heap.push {cls:=.type "list",data:=.seq ([]:List Value).toArray}:=by rw[<-hs3]
 have sz3:s3.heap.objs.size=p+1:=by rw[e3,Heap.size_push,hp]
 generalize hH3:upd H2 p (.lst [])=H3 at *
 -- the block's frame
 have hns:h₁.Ns s3.heap.objs.size (fun x=>([]:List (Str × Value)).reverse.lookup x):=by rw[e3];exact hns₁
 have hsb:Heap.SameBut s3.heap.objs.size (s3.heap.push {cls:=.type "dict",data:=.dict #[]}) h₁:=by rw[e3];exact hsb₁
 have old:∀b o,s3.heap.get? b=some o->h₁.get? b=some o:=fun b o e=>
  (hsb.2 b (Nat.ne_of_lt (Heap.lt_size e))).trans (Heap.get?_push_of_some _ e)
 have frees:∀y∈scope.names,y.2=.free->∃c,X.env.cells.lookup y.1=some c:=fun y hy hk=>I2.ok.has y.1 (ok.frees y hy hk)
 have cellX:∀x c,(zgn X.env.cells scope.names []).lookup x=some c->X.env.cells.lookup x=some c:=zfB scope.names [] (fun x c e=>by simp at e)
 generalize hcl:zgn X.env.cells scope.names []=cl at *
 have okX:(zaX X (capN X.N tgs js) scope cl s3.heap.objs.size fp s3 H3 (X.pn++pins)).Ok:=
  { mod := I3.ok.mod, kind := ok.kind, glob := I3.ok.glob, blt := I3.ok.blt, above := Nat.le_refl _,
    inj:=fun x y c e1 e2=>I3.ok.inj x y c (cellX x c e1) (cellX y c e2),
    has:=fun x hk=>by
     have hk':(scope.names.map (zcp X.env)).lookup x=some .cell\/(scope.names.map (zcp X.env)).lookup x=some .free:=by
      rw[<-zbW];exact hk
     rw[<-hcl]
     refine zdQ scope.names [] x frees (.inr ?_)
     rcases hk' with q|q
     · obtain⟨k0,m,_,e⟩:=zb7 X.env x _ _ q
       rcases e with e|⟨e,_⟩
       · subst e;exact absurd rfl (ok.nocell _ m)
       · subst e;exact m
     · obtain⟨k0,m,_,e⟩:=zb7 X.env x _ _ q
       rcases e with e|⟨e,z⟩
       · subst e;exact m
       · exact absurd z (fun h=>(nomatch h)),
    cab:=fun x c e=>absurd e Bool.false_ne_true,hd:=I3.ok.hd,frames:=I3.ok.frames,stk:=.inl rfl,
    exf:=fun b hb=>⟨Nat.ne_of_lt (by
     obtain⟨o,ho,_⟩:=T.obj 0 _ st2 b hb
     show b<s3.heap.objs.size
     rw[sz3,<-hp]
     exact Nat.lt_succ_of_lt (Heap.lt_size ho)),fun x c e=>(f2 b hb).2.2.2.2.1 x c (cellX x c e)⟩,
    bs:=I3.bs,bsz:=Nat.le_trans I3.ok.bsz I3.sz,
    noex:=fun b o e hb=>by
     rcases (f2 b hb).2.2.2.1 with z|z
     · exact I3.ok.noex b o e z
     · exact absurd (Nat.lt_of_lt_of_le (Heap.lt_size e) (Nat.le_trans I3.ok.bsz z)) (Nat.lt_irrefl _),
    exfs:=fun b hb hx=>by
     rcases List.mem_cons.mp (I3.stkSub b hx) with z|z
     · exact (f2 b hb).2.1 z
     · exact (f2 b hb).2.2.1 z,
    funs:=I3.stack,frf:=I3.stkFree}
 have I4:Inv (zaX X (capN X.N tgs js) scope cl s3.heap.objs.size fp s3 H3 (X.pn++pins)) [] (csl tgs.length js σ) H3 {s3 with heap:=h₁}:=
  { ok := okX, os := rfl, bare := I3.bare, base := Un.kept old,
    loc:=⟨_,hns,fun i x v e1 e2 e3=>by
     have e1:(tgs++js.map fun j=>X.N.getD j "")[i]?=some x:=e1
     have e2:(List.replicate tgs.length none++js.map fun j=>(σ[j]?).join)[i]?=some (some v):=e2
     by_cases hi:i<tgs.length
     · rw[List.getElem?_append_left (by rw[List.length_replicate];exact hi),List.getElem?_replicate,if_pos hi] at e2
       cases e2
     · rw[List.getElem?_append_right (by omega),List.getElem?_map] at e1
       rw[List.getElem?_append_right (by rw[List.length_replicate];omega),List.length_replicate,List.getElem?_map] at e2
       cases hj:js[i - tgs.length]? with
       |none=>rw[hj] at e1;cases e1
       | some j =>
         rw[hj] at e1 e2
         have e1:X.N.getD j ""=x:=Option.some.inj e1
         have e2:(σ[j]?).join=some v:=Option.some.inj e2
         have hjm:j∈js:=List.mem_of_getElem? hj
         obtain⟨hfr,hjl⟩:=ok.caps j hjm
         rw[e1] at hfr
         have hNj:X.N[j]?=some x:=by
          rw[List.getElem?_eq_getElem hjl]
          rw[List.getD_eq_getElem?_getD,List.getElem?_eq_getElem hjl] at e1
          exact congrArg some e1
         have hσ:σ[j]?=some (some v):=by
          cases q:σ[j]? with
          |none=>rw[q] at e2;cases e2
          | some o =>
            rw[q] at e2
            have e2:o=some v:=e2
            rw[e2]
         have hmem:(x,NameKind.free)∈scope.names:=by
          obtain⟨l1,l2,h3,_⟩:=List.lookup_eq_some_iff.mp hfr
          rw[h3];simp
         have hkX:=ok.frees _ hmem rfl
         have hvis:Vis X.env.scope x:=hkX.elim (fun z=>.inr (.inl z)) fun z=>.inr (.inr z)
         obtain⟨m,hn,hl⟩:=I3.loc
         obtain⟨u,r,lk⟩:=hl j x v hNj hσ hvis
         refine⟨u,r,.inr ⟨?_,?_⟩⟩
         · have q:=zbX X.env x scope.names hfr
           rw[<-zbW] at q
           exact q.symm
         · rcases lk with ⟨k,_⟩|⟨_,c,ec,z⟩
           · exfalso
             have k:X.env.scope.names.lookup x=some .local:=k
             rcases hkX with q|q<;>(rw[k] at q;cases q)
           · obtain⟨c',hc'⟩:∃c',cl.lookup x=some c':=by
              rw[<-hcl]
              exact zdQ scope.names [] x frees (.inr hmem)
             have q:=cellX x c' hc'
             rw[ec] at q
             cases q
             obtain⟨o,ho,hd⟩:=z
             exact⟨c,hc',o,old _ _ ho,hd⟩⟩,
    cell:=fun x c e=>by
     obtain⟨v,o,ho,hd⟩:=I3.cell x c (cellX x c e)
     exact⟨v,o,old _ _ ho,hd⟩,
    free:=I3.fresh,
    freeC:=fun x c e=>I3.freeC x c (cellX x c e),
    pin:=fun q hq=>by
     have hq:q∈X.pn++pins:=by simpa using hq
     obtain⟨e,n,ne,nf,d⟩:=I3.pin q hq
     refine⟨old _ _ e,n,Nat.ne_of_lt (Heap.lt_size e),fun z=>?_,d⟩
     rcases List.mem_cons.mp (I3.stkSub _ z) with z|z
     · exact ne z
     · exact nf z,
    hok:=I3.hok.kept old,
    len:=by
     show (List.replicate tgs.length none++js.map fun j=>(σ[j]?).join).length=(tgs++js.map fun j=>X.N.getD j "").length
     simp}
 have stat:∀{H':Hp},(∀b∈fp,H' b=none)->∀b∈fp,FpOk (zaX X (capN X.N tgs js) scope cl s3.heap.objs.size fp s3 H3 (X.pn++pins)) [] H' b:=fun hn b hb=>
  ⟨hn b hb,(okX.exf b hb).1,okX.exfs b hb,.inl hb,(okX.exf b hb).2,fun q hq=>by
   have hq:q∈X.pn++pins:=by simpa using hq
   exact (f2 b hb).2.2.2.2.2 q hq⟩
 have fr3:∀b∈fp,H3 b=none:=fun b hb=>by
  obtain⟨o,ho,_⟩:=T.obj 0 _ st2 b hb
  rw[<-hH3,zai (Nat.ne_of_lt (hp▸Heap.lt_size ho))]
  exact (f2 b hb).1
 have st4:tn 0 h₁:=T.keep 0 _ _ st2 fun b hb o e=>old b o (by rw[e3];exact Heap.get?_push_of_some _ e)
 have loop:codeAny (model X.prog X.w) X.A (.compLoop (.ListComp elt [⟨tg,iter,ifs,0⟩] scope pos) 0 (.ref it) (.ref p) (compEnvC scope cl s3.heap.objs.size X.env)) (RR (.ref p) s3.heap.objs.size) {s3 with heap:=h₁}:=by
  refine zhT (fun n s'=>∃i σ' H',Inv (zaX X (capN X.N tgs js) scope cl s3.heap.objs.size fp s3 H3 (X.pn++pins)) [] σ' H' s'/\tn i s'.heap/\(∀b∈fp,H' b=none)/\W i n σ' H') ?_ m0 ⟨0,_,H3,I4,st4,fr3,w0⟩
  rintro n s4 ⟨i,σ4,H4,J4,st4,fr4,w4⟩
  rcases turn i n σ4 H4 w4 with ⟨stop,qn⟩|⟨go,N,hN,step⟩
  · refine thn (T.done (zaX X (capN X.N tgs js) scope cl s3.heap.objs.size fp s3 H3 (X.pn++pins)) rfl rfl rfl hc i [] s4 σ4 H4 _ J4 (stat fr4) st4 stop) fun r s5 ⟨hr,J5⟩=>.inl ⟨hr,?_⟩
    have hX:Inv X pins σ H4 s5:=I3.call' J5.os J5.base J5.hok J5.bare fun b hb=>⟨(f2 b hb).2.2.2.1,(f2 b hb).2.1,(f2 b hb).2.2.2.2.1,(f2 b hb).2.2.2.2.2⟩
    obtain⟨m,hm,_⟩:=J5.loc
    exact fin p _ H4 s5 hX ⟨m,hm⟩ (by rw[sz3];exact Nat.lt_succ_self _) J5.free qn
  · refine thn (T.item (zaX X (capN X.N tgs js) scope cl s3.heap.objs.size fp s3 H3 (X.pn++pins)) rfl rfl rfl hc i [] s4 σ4 H4 _ J4 (stat fr4) st4 go) fun r s5 ⟨u,hr,h5⟩=>.inr ⟨u,hr,?_⟩
    refine thn h5 fun _ s6 ⟨x,H6,J6,r6,y6,st6,fr6⟩=>?_
    have J6':=J6.pinned (stat fr6) (T.obj _ _ st6)
    refine thn (hg _ _ _ _ _ _ _ s6 σ4 H6 x u _ J6' r6 (step x H6 y6)) fun _ s7 ⟨σ7,H7,J7,q7⟩=>?_
    refine thn (ht _ _ _ _ _ _ _ s7 σ7 H7 _ J7 q7) fun ok8 s8 ⟨H8,J8,q8⟩=>?_
    have again:∀{s9:Shared} {H9:Hp},Inv (zaX X (capN X.N tgs js) scope cl s3.heap.objs.size fp s3 H3 (X.pn++pins)) ([]++zfj fp s6.heap) σ7 H9 s9->N σ7 H9->
      ∃m,m<n/\∃i σ' H',Inv (zaX X (capN X.N tgs js) scope cl s3.heap.objs.size fp s3 H3 (X.pn++pins)) [] σ' H' s9/\tn i s9.heap/\(∀b∈fp,H' b=none)/\W i m σ' H':=fun {s9 H9} J9 n9=>by
     obtain⟨m',hm,w9⟩:=hN σ7 H9 n9
     refine⟨m',hm,i+1,σ7,H9,J9.unpinned,T.keep _ _ _ st6 fun b hb o e=>(J9.pin (b,o) (List.mem_append_right _ (List.mem_append_right _ (zcl hb e)))).1,fun b hb=>?_,w9⟩
     obtain⟨o,e,d⟩:=T.obj _ _ st6 b hb
     exact (J9.pin (b,o) (List.mem_append_right _ (List.mem_append_right _ (zcl hb e)))).2.1
    cases ok8 with
    |false=>exact again J8 q8
    | true =>
      refine thn (he _ _ _ _ _ _ _ s8 σ7 H8 _ J8 q8) fun y s9 ⟨v,H9,J9,r9,acc,ha,hl,q9⟩=>?_
      refine thn (zfn _ s9 σ7 H9 (.ref p) [v] (.ref p) [y] (fun _ H=>N σ7 H) J9 rfl (.cons r9 .nil) ⟨p,acc,v,rfl,rfl,ha,hl,q9⟩) fun _ s10 ⟨_,H10,J10,_,q10⟩=>?_
      exact again J10 q10
 exact codeAny_compStart_list loop (T.self _ 0 _ _ _ st4 loop)
theorem zkq (sc:Scope)(tgs:List Str)(js:List Nat)(hc:X.calm=true)(hsc:X.env.scope=sc)(ok:CompOk sc scope X.N js)(hi:PI X tg iter wi)
  (hg:∀cl C fp s H pn,PG (zaX X (capN X.N tgs js) scope cl C fp s H pn) tg g)
  (ht:∀cl C fp s H pn,PTs (zaX X (capN X.N tgs js) scope cl C fp s H pn) ifs tt)
  (he:∀cl C fp s H pn,PE (zaX X (capN X.N tgs js) scope cl C fp s H pn) elt te)
  (hs:∀x,foldedSetIterable iter X.env x=pure x:=by intro _;rfl) :
  PE X (.ListComp elt [⟨tg,iter,ifs,0⟩] scope pos) (zlW tgs.length js wi g tt te):=by
 intro pins s σ H Q I h
 rw[eval_ListComp]
 have frees:∀y∈scope.names,y.2=.free->∃c,X.env.cells.lookup y.1=some c:=fun y hy hk=>I.ok.has y.1 (by
  have q:=ok.frees y hy hk
  rw[<-hsc] at q
  exact q)
 refine wpAny_comprehension_free (use:=none) rfl hs (zb5 frees) ok.kind ok.locs (thn (hi pins s σ H _ I h) fun v s1 h1=>thn h1 fun itv s2 h2=>?_)
 obtain⟨it,fp,tn,J,H2,e,I2,T,st2,f2,rd⟩:=h2
 subst e
 refine zeb hc hsc ok hg ht he I2 T st2 f2 rd (Q:=Q) fun p C H' s' I' hm hC hn q=>?_
 obtain⟨m,hm⟩:=hm
 refine⟨m,hm,fun h' hs'=>⟨.ref p,H',?_,rfl,q⟩⟩
 exact I'.turned (t':=s'.toks) (it:=C) (fun b o hb e=>(hs'.2 b hb).trans e) hn (Nat.ne_of_gt (Nat.lt_trans I2.lt hC)) (.inr (Nat.le_trans I2.sz (Nat.le_of_lt hC))) (fun x c e=>by
  obtain⟨v,o,ho,_⟩:=I2.cell x c e
  exact Nat.ne_of_lt (Nat.lt_trans (Heap.lt_size ho) hC)) fun q hq=>Nat.ne_of_lt (Nat.lt_trans (Heap.lt_size (I2.pin q hq).1) hC)
theorem zmB (sc:Scope)(tgs:List Str)(js:List Nat){i:Nat}{y:Str}{py spos:Pos}(hN:X.N.Nodup)(hi':X.N[i]?=some y)(hy:Loc X.env.scope y)(hc:X.calm=true)(hsc:X.env.scope=sc)(ok:CompOk sc scope X.N js)(hi:PI X tg iter wi)
  (hg:∀cl C fp s H pn,PG (zaX X (capN X.N tgs js) scope cl C fp s H pn) tg g)
  (ht:∀cl C fp s H pn,PTs (zaX X (capN X.N tgs js) scope cl C fp s H pn) ifs tt)
  (he:∀cl C fp s H pn,PE (zaX X (capN X.N tgs js) scope cl C fp s H pn) elt te)
  (hsw:swapsWith (.ListComp elt [⟨tg,iter,ifs,0⟩] scope pos) (some (.Name y py)) spos.line X.env=pure true:=by rfl)
  (hs:∀x,foldedSetIterable iter X.env x=pure x:=by intro _;rfl)
  (hf:X.fn y=true\/X.env.scope.names.lookup y=some .local:=by first|exact .inl rfl|exact .inr rfl|assumption) :
  PS X (.Assign [.Name y py] (.ListComp elt [⟨tg,iter,ifs,0⟩] scope pos) spos) (tAsg (zlW tgs.length js wi g tt te) (zeO i)):=by
 intro pins s σ H D I h
 have frees:∀y∈scope.names,y.2=.free->∃c,X.env.cells.lookup y.1=some c:=fun y hy hk=>I.ok.has y.1 (by
  have q:=ok.frees y hy hk
  rw[<-hsc] at q
  exact q)
 rw[exec_Assign_Name_used _ _ _ _ hsw]
 refine wpAny_bind (wpAny_standAt (wpAny_bind ?_))
 show wpAny _ X.A (do let _ <-comprehension (.ListComp elt [⟨tg,iter,ifs,0⟩] scope pos) scope X.env _ (newList []) false (eval iter X.env) (some (assign (.Name y py) X.env))) _ _ s
 refine wpAny_bind (wpAny_mono (wpAny_comprehension_free (use:=some (assign (.Name y py) X.env)) (Q:=fun _ s'=>SP X pins D .next s') rfl hs (zb5 frees) ok.kind ok.locs
  (thn (hi pins s σ H _ I h) fun v s1 h1=>thn h1 fun itv s2 h2=>?_)) (fun _ s' hq=>wpAny_pure (wpAny_pure hq)) fun _ _ e=>e)
 obtain⟨it,fp,tn,J,H2,e,I2,T,st2,f2,rd⟩:=h2
 subst e
 refine zeb hc hsc ok hg ht he I2 T st2 f2 rd (Q:=fun x H1=>zeO i x σ H1 D.nx) fun p C H' s' I' hm hC hn q=>?_
 obtain⟨m,hm⟩:=hm
 have hL:C≠X.env.locals:=Nat.ne_of_gt (Nat.lt_trans I2.lt hC)
 have hCc:∀x c,X.env.cells.lookup x=some c->c≠C:=fun x c e=>by
  obtain⟨v,o,ho,_⟩:=I2.cell x c e
  exact Nat.ne_of_lt (Nat.lt_trans (Heap.lt_size ho) hC)
 show wpAny _ X.A (assign (.Name y py) X.env (.ref p)) _ _ _
 refine wpAny_assign_Name (ze1 I' hN hi' hy (v:=.ref p) rfl (fun s'' I'' hch=>?_) hf)
 obtain⟨a,hsb,ha⟩:=hch
 have hCa:C≠a:=by
  rcases ha with z|z
  · rw[z];exact hL
  · exact fun e=>hCc y a z e.symm
 refine⟨m,hm.sameBut hsb hCa,fun h' hs'=>⟨σ.set i (some (.ref p)),H',?_,q⟩⟩
 exact I''.turned (t':=s''.toks) (it:=C) (fun b o hb e=>(hs'.2 b hb).trans e) hn hL (.inr (Nat.le_trans I2.sz (Nat.le_of_lt hC))) hCc fun q hq=>Nat.ne_of_lt (Nat.lt_trans (Heap.lt_size (I2.pin q hq).1) hC)
end
end L2
end
section
namespace L2
open PySem PySem.Spec PyProof.Rows
structure FunV (K:PySem.W.Frag) (x qual:Str) (st:Stmt) (dV:Value) (f:Addr) (fd:FuncData):Prop where
 ex:∃(oc:Value) (od:Option Addr) (kV doc pm:Value) (an:Option Addr) (cdv ct:Value) (osl:Array (Option Value)),
  fd=PySem.W.fnOf x qual (zaq st) (zae st) (zac st) dV kV doc pm an cdv ct/\K.lookup f=some ⟨oc,od,.func fd,osl⟩/\PySem.W.codeIn K cdv qual=true
 kp:PySem.W.keepIn K (.ref f)=true
theorem zat {K:PySem.W.Frag}{x qual:Str}{st:Stmt}{f:Addr}{oc:Value}{od an:Option Addr}{osl:Array (Option Value)}{dV kV doc pm cdv ct:Value}(l:K.lookup f=some ⟨oc,od,.func (PySem.W.fnOf x qual (zaq st) (zae st) (zac st) dV kV doc pm an cdv ct),osl⟩)
 (c:PySem.W.codeIn K cdv qual=true) (k:PySem.W.keepIn K (.ref f)=true):FunV K x qual st dV f (PySem.W.fnOf x qual (zaq st) (zae st) (zac st) dV kV doc pm an cdv ct):=⟨⟨oc,od,kV,doc,pm,an,cdv,ct,osl,rfl,l,c⟩,k⟩
section
variable {P:Program} {w:World} {K:PySem.W.Frag} {mg:Str->Option Value} {base:Heap}
theorem FunV.ok {x qual:Str}{st:Stmt}{dV:Value}{f:Addr}{fd:FuncData}{N ps:List Str}{k:Nat}{sp:Sp}(F:FunV K x qual st dV f fd)(S:FnScope N ps (zac st))(len:∀vs H Q E,sp vs H Q E->vs.length=ps.length)
  (hbody:∀(cdv:Value) (A:Around) (outer:List Env) (s:Shared) (H:Hp) (vs:List V) (Q:VK) (E:XK),Room k (A.deeper (envOfC qual (zac st) s.heap.objs.size f cdv))->sp vs H Q E->
   ∃t,PSs (cxOf CX0 P w K mg base N qual (zac st) f cdv A outer s H E).nox (zae st) t/\t {nx:=fun _ H'=>Q .non H',rt:=Q} (start N vs) H):FnOk P w K mg base CX0 (k+1) f fd ps sp:=by
 obtain⟨oc,od,kV,doc,pm,an,cdv,ct,osl,rfl,lk,hcd⟩:=F.ex
 refine zpp lk hcd S len fun A outer s H vs Q E hr hsp=>?_
 obtain⟨t,h,q⟩:=hbody cdv A outer s H vs Q E hr hsp
 exact⟨t,h.nox,q⟩
theorem FunV.binds {x qual:Str}{st:Stmt}{dV:Value}{f:Addr}{fd:FuncData}{ps:List Str}(F:FunV K x qual st dV f fd)
  (h:∀(kV doc pm:Value) (an:Option Addr) (cdv ct:Value) (us:List Value),us.length=ps.length->bindArgs (PySem.W.fnOf x qual (zaq st) (zae st) (zac st) dV kV doc pm an cdv ct) ⟨us,[]⟩=pure (ps.zip us)):Binds K fd ps []:=by
 obtain⟨oc,od,kV,doc,pm,an,cdv,ct,osl,rfl,lk,hcd⟩:=F.ex
 exact .all (h kV doc pm an cdv ct)
structure Has (P:Program) (w:World) (K:PySem.W.Frag) (mg:Str->Option Value) (base:Heap) (k:Nat) (x:Str) (ps:List Str) (dvs:List V) (sp:Sp):Prop where
 ex:∃(f:Addr) (fd:FuncData) (ds:List Value),FnOk P w K mg base CX0 k f fd ps sp/\mg x=some (.ref f)/\PySem.W.keepIn K (.ref f)=true/\Binds K fd ps ds/\Vals dvs ds
end
theorem zoR {X:Cx}{k:Nat}{x:Str}{ps:List Str}{dvs:List V}{sp:Sp}{p pos:Pos}{e:Expr}{es:List Expr}{t:TA}(G:Has X.prog X.w X.K X.mg X.base k x ps dvs sp)(hr:Room k X.A)(ha:PA X (e::es) t)(hg:Gl X x:=by rfl)
  (hdb:(x == ("__debug__":Str))=false:=by decide) (he:starEach (e::es) X.env=(false,eval e X.env)::starEach es X.env:=by rfl) (hpl:(backTo pos (starEach es X.env)).any (·.1)=false:=by rfl) :
  PE X (.Call (.Name x p) (e::es) [] pos) (zeu sp dvs E0 t):=by
 obtain⟨f,fd,ds,F,hm,hk,hb,hd⟩:=G.ex
 exact zmM F hr hg hm hk hb hd zf9 ha hdb he hpl
theorem zoQ {X:Cx}{k:Nat}{x:Str}{ps:List Str}{dvs:List V}{sp:Sp}{p pos:Pos}(G:Has X.prog X.w X.K X.mg X.base k x ps dvs sp)(hr:Room k X.A)(hg:Gl X x:=by rfl)
  (hdb:(x == ("__debug__":Str))=false:=by decide):PE X (.Call (.Name x p) [] [] pos) (zeu sp dvs E0 tNil):=by
 obtain⟨f,fd,ds,F,hm,hk,hb,hd⟩:=G.ex
 exact zky F hr hg hm hk hb hd zf9 hdb
mutual
noncomputable def Rep (H:Hp):PyData->V->Prop
 |.none,v=>v=.non
 |.bool b,v=>v=.bl b
 |.int i,v=>v=.int i
 |.str x,v=>v=.str x
 |.list ds,v=>∃a vs,v=.ref a/\H a=some (.lst vs)/\RepAll H ds vs
 |.tuple ds,v=>∃a vs,v=.ref a/\H a=some (.tup vs)/\RepAll H ds vs
 |.dict _,_=>False
noncomputable def RepAll (H:Hp):List PyData->List V->Prop
 | [],vs=>vs=[]
 |d::ds,vs=>∃v r,vs=v::r/\Rep H d v/\RepAll H ds r
end
mutual
noncomputable def imm:PyData->Bool
 |.none=>true
 |.bool _=>true
 |.int _=>true
 |.str _=>true
 |.list _=>false
 |.tuple ds=>zfu ds
 |.dict _=>false
noncomputable def zfu:List PyData->Bool
 | []=>true
 |d::ds=>imm d&&zfu ds
end
noncomputable def Tups (H H':Hp):Prop:=∀b xs,H b=some (.tup xs)->H' b=some (.tup xs)
theorem Tups.refl (H:Hp):Tups H H:=fun _ _ h=>h
theorem Tups.trans {H H1 H2:Hp}(a:Tups H H1)(b:Tups H1 H2):Tups H H2:=fun c xs h=>b c xs (a c xs h)
theorem Tups.upd {H:Hp}{p:Addr}{o:HO}(h:∀xs,H p≠some (.tup xs)):Tups H (upd H p o):=fun b xs e=>by
 have hb:b≠p:=fun z=>by subst z;exact h xs e
 rw[zai hb];exact e
theorem Tups.upd_lst {H:Hp}{p:Addr}{o:HO}{xs:List V}(h:H p=some (.lst xs)):Tups H (L2.upd H p o):=Tups.upd fun ys e=>by rw[h] at e;cases e
theorem Tups.upd_new {H:Hp}{p:Addr}{o:HO}(h:H p=none):Tups H (L2.upd H p o):=Tups.upd fun ys e=>by rw[h] at e;cases e
mutual
theorem Rep.same {H H':Hp}(hs:Same H H'):∀{d:PyData} {v:V},Rep H d v->Rep H' d v
 |.none,_,h=>h
 |.bool _,_,h=>h
 |.int _,_,h=>h
 |.str _,_,h=>h
 | .list ds, v, h => by
   obtain⟨a,vs,e,ha,r⟩:=h
   exact⟨a,vs,e,hs _ _ ha,RepAll.same hs r⟩
 | .tuple ds, v, h => by
   obtain⟨a,vs,e,ha,r⟩:=h
   exact⟨a,vs,e,hs _ _ ha,RepAll.same hs r⟩
 |.dict _,_,h=>h
theorem RepAll.same {H H':Hp}(hs:Same H H'):∀{ds:List PyData} {vs:List V},RepAll H ds vs->RepAll H' ds vs
 | [],_,h=>h
 | d :: ds, vs, h => by
   obtain⟨v,r,e,h1,h2⟩:=h
   exact⟨v,r,e,Rep.same hs h1,RepAll.same hs h2⟩
end
mutual
theorem Rep.tups {H H':Hp}(hs:Tups H H'):∀{d:PyData} {v:V},imm d=true->Rep H d v->Rep H' d v
 |.none,_,_,h=>h
 |.bool _,_,_,h=>h
 |.int _,_,_,h=>h
 |.str _,_,_,h=>h
 |.list ds,v,i,h=>by simp[imm] at i
 | .tuple ds, v, i, h => by
   obtain⟨a,vs,e,ha,r⟩:=h
   exact⟨a,vs,e,hs _ _ ha,RepAll.tups hs (by simpa[imm] using i) r⟩
 |.dict _,_,_,h=>h
theorem RepAll.tups {H H':Hp}(hs:Tups H H'):∀{ds:List PyData} {vs:List V},zfu ds=true->RepAll H ds vs->RepAll H' ds vs
 | [],_,_,h=>h
 | d :: ds, vs, i, h => by
   obtain⟨v,r,e,h1,h2⟩:=h
   have i':imm d=true/\zfu ds=true:=by simpa[zfu] using i
   exact⟨v,r,e,Rep.tups hs i'.1 h1,RepAll.tups hs i'.2 h2⟩
end
theorem RepAll.ints (H:Hp):∀ns:List Int,RepAll H (ns.map PyData.int) (ns.map V.int)
 | []=>rfl
 |n::ns=>⟨_,_,rfl,rfl,RepAll.ints H ns⟩
mutual
theorem Rep.reads {X:Cx}{pins:List (Addr × Obj)}{σ:St}{H:Hp}{s:Shared}(I:Inv X pins σ H s):∀(d:PyData) (v:V) (u:Value),Rep H d v->RelV v u->∃as,Reads s.heap u d as
 | .none, v, u, h, r => by
   cases (show v=.non from h)
   cases (show u=Value.none from r)
   exact⟨_,.none⟩
 | .bool b, v, u, h, r => by
   cases (show v=.bl b from h)
   cases (show u=Value.bool b from r)
   exact⟨_,.bool b⟩
 | .int i, v, u, h, r => by
   cases (show v=.int i from h)
   obtain⟨t,rfl⟩:=(show ∃t,u=Value.int i t from r)
   exact⟨_,.int i t⟩
 | .str x, v, u, h, r => by
   cases (show v=.str x from h)
   obtain⟨t,rfl⟩:=(show ∃t,u=Value.str x t from r)
   exact⟨_,.str x t⟩
 | .list ds, v, u, h, r => by
   obtain⟨a,vs,rfl,ha,hr⟩:=h
   cases (show u=Value.ref a from r)
   obtain⟨its,n,rv,e,_⟩:=I.lst ha
   obtain⟨as,q⟩:=RepAll.reads I ds vs its hr rv
   exact⟨_,.list e rfl rfl q⟩
 | .tuple ds, v, u, h, r => by
   obtain⟨a,vs,rfl,ha,hr⟩:=h
   cases (show u=Value.ref a from r)
   obtain⟨its,rv,⟨o,e1,e2,n,e3⟩,_⟩:=I.tuple (SqT.of (K:=X.K) ha)
   obtain⟨as,q⟩:=RepAll.reads I ds vs its hr rv
   exact⟨_,.tuple e1 e2 e3 q⟩
 |.dict _,_,_,h,_=>False.elim h
theorem RepAll.reads {X:Cx}{pins:List (Addr × Obj)}{σ:St}{H:Hp}{s:Shared}(I:Inv X pins σ H s):∀(ds:List PyData) (vs:List V) (us:List Value),RepAll H ds vs->Vals vs us->∃as,ReadsAll s.heap us ds as
 | [], vs, us, h, r => by
   cases (show vs=[] from h)
   cases r
   exact⟨_,.nil⟩
 | d :: ds, vs, us, h, r => by
   obtain⟨v,vr,rfl,h1,h2⟩:=h
   cases r with
   | cons r1 r2 =>
     obtain⟨as,q1⟩:=Rep.reads I d v _ h1 r1
     obtain⟨bs,q2⟩:=RepAll.reads I ds vr _ h2 r2
     exact⟨_,.cons q1 q2⟩
end
theorem eqv_int (i j:Int):PyData.eqv (.int i) (.int j)=(i == j):=by simp[PyData.eqv]
section
variable {X:Cx}
noncomputable def rEqD (g:Bool->Bool):R2:=fun x y H Q=>∃da db,Rep H da x/\Rep H db y/\da.canLay0=true/\db.canLay0=true/\min da.depth db.depth<=60/\Q (.bl (g (PyData.eqv da db))) H
theorem zo3 (hu:X.A.units+64<cLine):OpR X (compareOp .Eq) (rEqD id):=by
 intro pins s σ H x y v u Q I rx ry h
 obtain⟨da,db,h1,h2,l1,l2,hd,q⟩:=h
 obtain⟨as,r1⟩:=Rep.reads I da x v h1 rx
 obtain⟨bs,r2⟩:=Rep.reads I db y u h2 ry
 exact SeqAt.compareEq_reads r1 r2 l1 l2 (by omega) (zay I q rfl)
theorem zoY (hu:X.A.units+64<cLine):OpR X (compareOp .NotEq) (rEqD not):=by
 intro pins s σ H x y v u Q I rx ry h
 obtain⟨da,db,h1,h2,l1,l2,hd,q⟩:=h
 obtain⟨as,r1⟩:=Rep.reads I da x v h1 rx
 obtain⟨bs,r2⟩:=Rep.reads I db y u h2 ry
 exact SeqAt.compareNe_reads r1 r2 l1 l2 (by omega) (zay I q rfl)
theorem zo2:OpR X (compareOp .Is) (fun x y H Q=>∃a b,x=.bl a/\y=.bl b/\Q (.bl (a == b)) H):=by
 intro pins s σ H x y v u Q I rx ry h
 obtain⟨a,b,rfl,rfl,q⟩:=h
 cases rx
 cases ry
 refine wpAny_is_plain (by cases a<;>cases b<;>rfl) (zay I q ?_)
 cases a<;>cases b<;>rfl
noncomputable def zc2 (H:Hp):V->Option String
 |.non=>some "NoneType"
 |.bl _=>some "bool"
 |.int _=>some "int"
 |.str _=>some "str"
 | .ref a => match H a with
   |some (.lst _)=>some "list"
   |some (.frz _ (.lst _))=>some "list"
   |some (.tup _)=>some "tuple"
   |some (.dK _)=>some "dict"
   |some (.dT _)=>some "dict"
   |_=>none
 |_=>none
theorem zic {K:PySem.W.Frag}{H:Hp}{x:V}{a:String}(h:zc2 H x=some a):TyOf K H x (.type a):=by
 cases x with
 |non=>cases h;exact .non
 |bl b=>cases h;exact .bl b
 |int i=>cases h;exact .int i
 |str y=>cases h;exact .str y
 |byt _=>cases h
 |flt _=>cases h
 |ty _=>cases h
 | ref p =>
   unfold zc2 at h
   cases e:H p with
   |none=>simp[e] at h
   | some o =>
     cases o with
     |lst xs=>simp[e] at h;subst h;exact .lst e
     |tup xs=>simp[e] at h;subst h;exact .tup e
     |dK kvs=>simp[e] at h;subst h;exact .dK e
     |dT kvs=>simp[e] at h;subst h;exact .dT e
     | frz ob q =>
       cases q with
       |lst xs=>simp[e] at h;subst h;exact .frz e
       |_=>simp[e] at h
     |_=>simp[e] at h
noncomputable def subT (a b:String):Bool:=a == b || (a == "bool"&&b == "int")
theorem zm3 (K:PySem.W.Frag){a b:String}(ha:a∈["NoneType","bool","int","str","list","tuple","dict"])(hb:b∈["bool","int","str","list","tuple","dict"]):PySem.W.kitOne K (.type a) (.type b)=some (subT a b):=by
 simp only[List.mem_cons,List.not_mem_nil,or_false] at ha hb
 rcases ha with rfl|rfl|rfl|rfl|rfl|rfl|rfl<;>rcases hb with rfl|rfl|rfl|rfl|rfl|rfl<;>rfl
theorem zhs {H:Hp}{x:V}{a:String}(h:zc2 H x=some a):a∈["NoneType","bool","int","str","list","tuple","dict"]:=by
 cases x with
 |non=>cases h;simp
 |bl b=>cases h;simp
 |int i=>cases h;simp
 |str y=>cases h;simp
 |byt _=>cases h
 |flt _=>cases h
 |ty _=>cases h
 | ref p =>
   unfold zc2 at h
   simp only at h
   split at h<;>first|(cases h;simp)|cases h
theorem zgt:zbB X (.builtin "isinstance") (fun xs H Q=>∃x c a,xs=[x,.ty c]/\zc2 H x=some a/\c∈["bool","int","str","list","tuple","dict"]/\Q (.bl (subT a c)) H):=by
 intro pins s σ H xs us Q I r h
 obtain⟨x,c,a,rfl,hx,hc,q⟩:=h
 obtain⟨u,w',rfl,rx,rc⟩:=zjN r
 cases (show w'=Value.type c from rc)
 exact zfr I rx (zic hx) (zm3 X.K (zhs hx) hc) fun tk=>⟨.bl (subT a c),H,I.tok tk,rfl,q⟩
end
end L2
namespace L2
open PySem PySem.Spec PyProof.Rows
section
variable {X:Cx} {scope:Scope} {elt tg iter:Expr} {ifs:List Expr} {pos:Pos} {wi:TI} {g:TG} {tt:TT} {te:TE}
end
end L2
namespace L2
open PySem PySem.Spec PyProof.Rows
section
variable {X:Cx} (K:PySem.W.Frag) (hK:X.K=K)
include hK
end
end L2
end
section
namespace TM
structure Good (m:Nat) (wo:Option Int) (s:Int) (n:Nat) (p:List Int):Prop where
 len:p.length=n
 head:p.head?=some s
 nd:p.Nodup
 rng:∀h∈p,0<=h/\h<m/\wo≠some h
end TM
end
section
namespace L2
open PySem PySem.Spec PyProof.Rows
theorem zpG:bootBuiltins "len"=some (.builtin "len"):=by decide +kernel
theorem zpI:bootBuiltins "abs"=some (.builtin "abs"):=by decide +kernel
theorem zpF:bootBuiltins "max"=some (.builtin "max"):=by decide +kernel
theorem zpE:bootBuiltins "min"=some (.builtin "min"):=by decide +kernel
theorem zpH:bootBuiltins "all"=some (.builtin "all"):=by decide +kernel
theorem zcN:bootBuiltins "isinstance"=some (.builtin "isinstance"):=by decide +kernel
theorem zlI:bootBuiltins "int"=some (.type "int"):=by decide +kernel
theorem zny:bootBuiltins "bool"=some (.type "bool"):=by decide +kernel
theorem zpD:bootBuiltins "str"=some (.type "str"):=by decide +kernel
theorem zeW:bootBuiltins "list"=some (.type "list"):=by decide +kernel
theorem zho:bootBuiltins "tuple"=some (.type "tuple"):=by decide +kernel
theorem znx:bootBuiltins "dict"=some (.type "dict"):=by decide +kernel
noncomputable def cellZ (ns:List Int)(k:Nat):Int:=match ns[k]? with|some v=>v % 10 ^ 64|none=>0
theorem zlG {K:PySem.W.Frag}{x qual:Str}{st:Stmt}{f d:Addr}{fd:FuncData}{ps:List Str}{ds:List Value}{xc:Value}{xd:Option Addr}{items:Array Value}{xn:Nat}{xs:Array (Option Value)}(n:Nat)(hn:ps.length=n+ds.length)(F:FunV K x qual st (.ref d) f fd)
  (e:K.lookup d=some ⟨xc,xd,.seq items xn,xs⟩)
  (h:∀(kV doc pm:Value) (an:Option Addr) (cdv ct:Value) (us:List Value),us.length=n->∃k,bindArgs (PySem.W.fnOf x qual (zaq st) (zae st) (zac st) (.ref d) kV doc pm an cdv ct) ⟨us,[]⟩=seqItems? (.ref d) >>= k/\k (some items)=pure (ps.zip (us++ds))) :
  Binds K fd ps ds:=by
 obtain⟨oc,od,kV,doc,pm,an,cdv,ct,osl,rfl,lk,hcd⟩:=F.ex
 intro s us KX hl
 obtain⟨k,h1,h2⟩:=h kV doc pm an cdv ct us (by rw[List.length_append] at hl;omega)
 exact BindsTo.of_defaults (T:=d) rfl (KX _ _ e) rfl h1 h2
end L2
end
section
namespace R
noncomputable def zcT (a b:Int × Int):Bool:=decide (b.2<a.2\/(a.2=b.2/\a.1<=b.1))
noncomputable def zbx (rows:List (Int × Int)):List (Int × Int):=rows.mergeSort zcT
noncomputable def bump:List (Int × Int)->Int->List (Int × Int)
 | [],w=>[(w,1)]
 |(k,c)::r,w=>if k=w then (k,c+1)::r else (k,c)::bump r w
noncomputable def zah (kvs:List (Int × Int))(ws:List (Option Int)):List (Int × Int):=ws.foldl (fun a w=>match w with|some x=>bump a x|none=>a) kvs
theorem zcM:∀(kvs:List (Int × Int)) (w:Int),(bump kvs w).map (·.1)=if w∈kvs.map (·.1) then kvs.map (·.1) else kvs.map (·.1)++[w]
 | [],w=>by simp[bump]
 | (k, c) :: r, w => by
   unfold bump
   by_cases e:k=w
   · subst e;simp
   · have ih:=zcM r w
     rw[if_neg e]
     simp only[List.map_cons,List.mem_cons,ih]
     by_cases h:w∈r.map (·.1)
     · rw[if_pos h,if_pos (.inr h)]
     · rw[if_neg h,if_neg (by rintro (z|z);exact e z.symm;exact h z)];rfl
theorem zhZ {kvs:List (Int × Int)}{w:Int}(h:(kvs.map (·.1)).Nodup):((bump kvs w).map (·.1)).Nodup:=by
 rw[zcM]
 split
 · exact h
 · rename_i n
   rw[List.nodup_append]
   refine⟨h,by simp,?_⟩
   intro a ha b hb
   rw[List.mem_singleton] at hb
   subst hb
   intro z
   subst z
   exact n ha
noncomputable def at0 (kvs:List (Int × Int))(x:Int):Int:=match kvs.find? (fun r=>r.1 == x) with|some r=>r.2|none=>0
theorem zhp:∀(kvs:List (Int × Int)) (w x:Int),at0 (bump kvs w) x=at0 kvs x+if x=w then 1 else 0
 | [], w, x => by
   unfold bump at0
   by_cases e:w=x
   · subst e;simp
   · have:¬x=w:=fun z=>e z.symm
     simp[e,this]
 | (k, c) :: r, w, x => by
   unfold bump
   have ih:=zhp r w x
   by_cases e:k=w
   · subst e
     rw[if_pos rfl]
     by_cases z:k=x
     · subst z;simp[at0]
     · have z':¬x=k:=fun y=>z y.symm
       simp[at0,z,z']
   · rw[if_neg e]
     by_cases z:k=x
     · subst z;simp[at0,e]
     · have h1:at0 ((k,c)::bump r w) x=at0 (bump r w) x:=by simp[at0,z]
       have h2:at0 ((k,c)::r) x=at0 r x:=by simp[at0,z]
       rw[h1,h2,ih]
theorem zjE {kvs:List (Int × Int)}(nd:(kvs.map (·.1)).Nodup){x c:Int}(h:(x,c)∈kvs):at0 kvs x=c:=by
 induction kvs with
 |nil=>cases h
 | cons a r ih =>
   obtain⟨k,d⟩:=a
   simp only[List.map_cons,List.nodup_cons] at nd
   rcases List.mem_cons.mp h with e|e
   · cases e;simp[at0]
   · have:¬k=x:=fun z=>nd.1 (by rw[z];exact List.mem_map.mpr ⟨_,e,rfl⟩)
     have h2:at0 ((k,d)::r) x=at0 r x:=by simp[at0,this]
     rw[h2];exact ih nd.2 e
theorem zbc:∀(ws:List (Option Int)) {kvs:List (Int × Int)},(kvs.map (·.1)).Nodup->((zah kvs ws).map (·.1)).Nodup
 | [],_,h=>h
 |some w::ws,kvs,h=>zbc ws (zhZ (w:=w) h)
 |none::ws,kvs,h=>zbc ws h
theorem zb0:∀(ws:List (Option Int)) (kvs:List (Int × Int)) (x:Int),at0 (zah kvs ws) x=at0 kvs x+(ws.count (some x):Nat)
 | [],kvs,x=>by simp[zah]
 | some w :: ws, kvs, x => by
   show at0 (zah (bump kvs w) ws) x=_
   rw[zb0 ws (bump kvs w) x,zhp,List.count_cons]
   by_cases e:x=w
   · subst e;simp;omega
   · have:¬(w=x):=fun z=>e z.symm
     simp[e,this]
 | none :: ws, kvs, x => by
   show at0 (zah kvs ws) x=_
   rw[zb0 ws kvs x,List.count_cons]
   simp
theorem zbo:∀(ws:List (Option Int)) (kvs:List (Int × Int)) (x:Int),x∈(zah kvs ws).map (·.1)↔x∈kvs.map (·.1)\/some x∈ws
 | [],kvs,x=>by simp[zah]
 | some w :: ws, kvs, x => by
   show x∈(zah (bump kvs w) ws).map (·.1)↔_
   rw[zbo ws (bump kvs w) x,zcM]
   by_cases h:w∈kvs.map (·.1)
   · rw[if_pos h]
     constructor
     · rintro (z|z)
       · exact .inl z
       · exact .inr (List.mem_cons_of_mem _ z)
     · rintro (z|z)
       · exact .inl z
       · rcases List.mem_cons.mp z with y|y
         · cases y;exact .inl h
         · exact .inr y
   · rw[if_neg h]
     constructor
     · rintro (z|z)
       · rcases List.mem_append.mp z with y|y
         · exact .inl y
         · rw[List.mem_singleton] at y;subst y;exact .inr List.mem_cons_self
       · exact .inr (List.mem_cons_of_mem _ z)
     · rintro (z|z)
       · exact .inl (List.mem_append_left _ z)
       · rcases List.mem_cons.mp z with y|y
         · cases y;exact .inl (List.mem_append_right _ (List.mem_singleton.mpr rfl))
         · exact .inr y
 | none :: ws, kvs, x => by
   show x∈(zah kvs ws).map (·.1)↔_
   rw[zbo ws kvs x]
   simp
theorem counts_row {ws:List (Option Int)}{x c:Int}:(x,c)∈zah [] ws↔some x∈ws/\c=(ws.count (some x):Nat):=by
 have nd:((zah [] ws).map (·.1)).Nodup:=zbc ws (by simp)
 have at_:=zb0 ws [] x
 have k0:at0 [] x=0:=rfl
 rw[k0,Int.zero_add] at at_
 constructor
 · intro h
   have:=(zbo ws [] x).mp (List.mem_map.mpr ⟨_,h,rfl⟩)
   refine⟨this.resolve_left (by simp),?_⟩
   rw[<-at_,zjE nd h]
 · rintro⟨h,rfl⟩
   have:=(zbo ws [] x).mpr (.inr h)
   obtain⟨⟨y,c⟩,hm,rfl⟩:=List.mem_map.mp this
   have e:=zjE nd hm
   have:c=(ws.count (some y):Nat):=by rw[<-at_];exact e.symm
   rw[<-this];exact hm
theorem zek (ws:List (Option Int)):(zah [] ws).length<=ws.length:=by
 have:∀(ws:List (Option Int)) (kvs:List (Int × Int)),(zah kvs ws).length<=kvs.length+ws.length:=by
  intro ws
  induction ws with
  |nil=>intro kvs;simp[zah]
  | cons w ws ih =>
    intro kvs
    cases w with
    |none=>have:=ih kvs;show (zah kvs ws).length<=_;simp;omega
    | some x =>
      have:=ih (bump kvs x)
      have hb:(bump kvs x).length<=kvs.length+1:=by
       have:=congrArg List.length (zcM kvs x)
       simp only[List.length_map] at this
       rw[this];split<;>simp
      show (zah (bump kvs x) ws).length<=_
      simp;omega
 simpa using this ws []
end R
end
section
namespace R
open PySem (Str PyData Operator CmpOp)
inductive D where
 |non|bl (b:Bool)|int (i:Int)|str (x:Str)|tup (ds:List D)|ref (l:Nat)
 |fix (ds:List D)
inductive MO where
 |lst (ds:List D)|dic (kvs:List (D × D))|ins (c:Nat) (fs:List (Str × D))
 |dtp (kvs:List (List Int × D))
structure St where
 frz:List MO
 new:List MO
 lk:List Nat
inductive Out (α:Type) where
 |ok (a:α) (S:St)
 |err (d:D) (S:St)
 |bad
noncomputable def Out.bind {α β:Type}(o:Out α)(f:α->St->Out β):Out β:=match o with
 |.ok a S=>f a S
 |.err d S=>.err d S
 |.bad=>.bad
noncomputable def lift {α:Type}(S:St):Option α->Out α
 |some a=>.ok a S
 |none=>.bad
namespace St
noncomputable def get (S:St)(l:Nat):Option MO:=if l<S.frz.length then S.frz[l]? else S.new[l - S.frz.length]?
noncomputable def len (S:St):Nat:=S.frz.length+S.new.length
noncomputable def push (S:St)(o:MO):St:={S with new:=S.new++[o]}
noncomputable def put (S:St)(l:Nat)(o:MO):Option St:=if l<S.frz.length then none else if S.lk.contains l then none else some {S with new:=S.new.set (l - S.frz.length) o}
noncomputable def enter (S:St):St:=⟨S.frz++S.new,[],[]⟩
end St
noncomputable def lay (S:St)(ds:List D):Out D:=if ds.length<=16777216 then .ok (.ref S.len) (S.push (.lst ds)) else .bad
noncomputable def wr (S:St)(l:Nat)(ds:List D)(d:D):Out D:=if ds.length<=16777216 then (match S.put l (.lst ds) with|some S'=>.ok d S'|none=>.bad) else .bad
noncomputable def pd (S:St):Nat->D->Option PyData
 |_,.non=>some .none
 |_,.bl b=>some (.bool b)
 |_,.int i=>some (.int i)
 |_,.str x=>if PySem.PyData.strOk x then some (.str x) else none
 |n+1,.tup ds=>(ds.mapM (pd S n)).map PyData.tuple
 | n + 1, .ref l => match S.get l with
   |some (.lst ds)=>(ds.mapM (pd S n)).map PyData.list
   |_=>none
 |_,.fix _=>none
 |0,_=>none
mutual
noncomputable def flat (n:Nat):D->Bool
 |.tup ds=>flats n ds
 |.ref l=>decide (l<n)
 |.fix ds=>flats n ds
 |_=>true
noncomputable def flats (n:Nat):List D->Bool
 | []=>true
 |d::ds=>flat n d&&flats n ds
end
noncomputable def zcz (S:St):D->Option (List D)
 |.tup ds=>some ds
 |.fix ds=>some ds
 | .ref l => match S.get l with
   |some (.lst ds)=>some ds
   |_=>none
 |_=>none
noncomputable def lkOf (S:St):D->List Nat
 |.ref l=>[l]
 |_=>[]
noncomputable def tru (S:St):D->Option Bool
 |.non=>some false
 |.bl b=>some b
 |.int i=>some (i != 0)
 |.tup ds=>some (!ds.isEmpty)
 | .ref l => match S.get l with
   |some (.lst ds)=>some (!ds.isEmpty)
   |_=>none
 |_=>none
noncomputable def tyOf (S:St):D->Option String
 |.non=>some "NoneType"
 |.bl _=>some "bool"
 |.int _=>some "int"
 |.str _=>some "str"
 |.tup _=>some "tuple"
 | .ref l => match S.get l with
   |some (.lst _)=>some "list"
   |some (.dic _)=>some "dict"
   |some (.dtp _)=>some "dict"
   |_=>none
 |.fix _=>none
noncomputable def ixN (n:Nat)(i:Int):Option Nat:=if 0<=i then (if i<n then some i.toNat else none) else if -(n:Int)<=i then some (i+n).toNat else none
noncomputable def atI {α:Type}(xs:List α)(i:Int):Option α:=(ixN xs.length i).bind fun j=>xs[j]?
noncomputable def sIx (n d:Nat):Option Int->Nat
 |none=>d
 |some i=>if i<0 then (i+n).toNat else min i.toNat n
noncomputable def cut {α:Type}(xs:List α)(lo hi:Option Int):List α:=(xs.drop (sIx xs.length 0 lo)).take (sIx xs.length xs.length hi - sIx xs.length 0 lo)
noncomputable def zjc:D->Option Int
 |.int i=>some i
 |_=>none
noncomputable def zca (m:Bool)(d:D):Option (Option Int):=if m then (match d with|.int i=>some (some i)|_=>none) else some none
noncomputable def zga (i j:Int):Bool:=decide (-(2 ^ 64)<i/\i<2 ^ 64) || decide (-(2 ^ 64)<j/\j<2 ^ 64)
noncomputable def binI (S:St)(op:Operator)(i j:Int):Out D:=match op with
 |.Add=>.ok (.int (i+j)) S
 |.Sub=>.ok (.int (i - j)) S
 |.Mult=>if zga i j then .ok (.int (i * j)) S else .bad
 |.FloorDiv=>if 0<j/\j<1073741824 then .ok (.int (i / j)) S else .bad
 |.Mod=>if 0<j then .ok (.int (i % j)) S else .bad
 |.Pow=>if 0<=j/\j<=1000000/\-18446744073709551616<i/\i<18446744073709551616 then .ok (.int (i ^ j.toNat)) S else .bad
 |_=>.bad
noncomputable def binD (S:St)(op:Operator)(x y:D):Out D:=match x,y with
 |.int i,.int j=>binI S op i j
 |.tup xs,.tup ys=>(match op with|.Add=>if xs.length+ys.length<=16777216 then .ok (.tup (xs++ys)) S else .bad|_=>.bad)
 |.ref a,.ref b=>(match op,S.get a,S.get b with|.Add,some (.lst xs),some (.lst ys)=>lay S (xs++ys)|_,_,_=>.bad)
 |_,_=>.bad
noncomputable def eqD (S:St)(x y:D):Option Bool:=(pd S 60 x).bind fun a=>(pd S 60 y).map fun b=>PyData.eqv a b
noncomputable def inD (S:St)(x:D)(ys:List D):Option Bool:=(ys.mapM fun z=>eqD S z x).map fun bs=>bs.any id
noncomputable def lexLt:List Int->List Int->Bool
 | [],[]=>false
 | [],_::_=>true
 |_::_,[]=>false
 |a::as,b::bs=>if a=b then lexLt as bs else decide (a<b)
noncomputable def zcI (ds:List D):Option (List Int):=ds.mapM zjc
noncomputable def cmpI (op:CmpOp)(i j:Int):Option Bool:=match op with
 |.Eq=>some (decide (i=j))
 |.NotEq=>some (!decide (i=j))
 |.Lt=>some (decide (i<j))
 |.LtE=>some (decide (i<=j))
 |.Gt=>some (decide (j<i))
 |.GtE=>some (decide (j<=i))
 |_=>none
noncomputable def zm7:D->Bool|.non=>true|_=>false
noncomputable def zd4:D->Option (Option Int)
 |.non=>some none
 |.int i=>some (some i)
 |_=>none
noncomputable def dKvs (S:St):D->Option (List (List Int × D))
 |.ref l=>(match S.get l with|some (.dtp kvs)=>some kvs|_=>none)
 |_=>none
noncomputable def zc0 (kvs:List (List Int × D)):Option (List (List Int × Option Int)):=kvs.mapM fun kv=>(zd4 kv.2).map fun w=>(kv.1,w)
noncomputable def eqK (a b:List (List Int × D)):Option Bool:=(zc0 a).bind fun x=>(zc0 b).bind fun y=>if x=y then some true else none
noncomputable def zda (S:St)(x y:D):Option Bool:=match dKvs S x,dKvs S y with
 |some a,some b=>eqK a b
 |_,_=>eqD S x y
noncomputable def zcY:D->Option (List Int)
 |.tup ds=>zcI ds
 |_=>none
noncomputable def valP (kvs:List (List Int × D))(k:List Int):Option D:=(kvs.find? fun kv=>decide (kv.1=k)).map (·.2)
noncomputable def zjd (S:St)(x y:D):Option Bool:=match dKvs S y with
 |some kvs=>(zcY x).map fun k=>(valP kvs k).isSome
 |none=>(zcz S y).bind fun ys=>inD S x ys
noncomputable def cmpO (S:St)(op:CmpOp)(x y:D):Option Bool:=match op with
 |.Eq=>zda S x y
 |.NotEq=>(zda S x y).map (!·)
 |.Is=>(match y with|.non=>some (zm7 x)|.bl b=>(match x with|.bl a=>some (a == b)|_=>none)|_=>none)
 |.IsNot=>(match y with|.non=>some (!zm7 x)|_=>none)
 |.In=>zjd S x y
 |.NotIn=>(zjd S x y).map (!·)
 |.Lt=>(match x,y with|.tup xs,.tup ys=>(zcI xs).bind fun a=>(zcI ys).map fun b=>lexLt a b|_,_=>none)
 |_=>none
noncomputable def cmpD (S:St)(op:CmpOp)(x y:D):Option Bool:=match x,y with
 |.int i,.int j=>cmpI op i j
 |_,_=>cmpO S op x y
inductive Bi where
 |len|abs|max2|min2|isin (t:String)
noncomputable def zbL (ds:List D):Option (List (Option Int)):=ds.mapM zd4
inductive Mt where
 |append|popAt|count
noncomputable def bi (S:St):Bi->List D->Out D
 | .len, [x] => (match x with
   |.tup ds=>.ok (.int ds.length) S
   |.fix ds=>.ok (.int ds.length) S
   |.ref l=>(match S.get l with|some (.lst ds)=>.ok (.int ds.length) S|some (.dic kvs)=>.ok (.int kvs.length) S|some (.dtp kvs)=>.ok (.int kvs.length) S|_=>.bad)
   |_=>.bad)
 |.abs,[.int i]=>.ok (.int (if i<0 then -i else i)) S
 |.max2,[.int i,.int j]=>.ok (.int (if j > i then j else i)) S
 |.min2,[.int i,.int j]=>.ok (.int (if j<i then j else i)) S
 |.isin t,[x]=>(match tyOf S x with|some a=>.ok (.bl (a == t || (a == "bool"&&t == "int"))) S|none=>.bad)
 |_,_=>.bad
noncomputable def isL (S:St):D->Bool
 |.ref l=>(match S.get l with|some (.lst _)=>true|_=>false)
 |_=>false
noncomputable def mt (S:St):Mt->D->List D->Out D
 |.append,.ref l,[y]=>(match S.get l with|some (.lst ds)=>wr S l (ds++[y]) .non|_=>.bad)
 | .popAt, .ref l, [.int i] => (match S.get l with
   |some (.lst ds)=>if 0<=i then (match ds[i.toNat]? with|some y=>wr S l (ds.eraseIdx i.toNat) y|none=>.bad) else .bad
   |_=>.bad)
 | .count, .ref l, [.int i] => (match S.get l with
   |some (.lst ds)=>(match zbL ds with|some os=>.ok (.int (os.count (some i):Nat)) S|none=>.bad)
   |_=>.bad)
 |_,_,_=>.bad
noncomputable def putP:List (List Int × D)->List Int->D->List (List Int × D)
 | [],k,v=>[(k,v)]
 |(j,d)::r,k,v=>if j=k then (j,v)::r else (j,d)::putP r k v
noncomputable def isDt (S:St):D->Bool
 |.ref l=>(match S.get l with|some (.dtp _)=>true|_=>false)
 |_=>false
noncomputable def dGet (S:St)(x y:D):Option (Option D):=match x with
 |.ref l=>(match S.get l with|some (.dtp kvs)=>(zcY y).map fun k=>valP kvs k|_=>none)
 |_=>none
noncomputable def dPut (S:St)(x y v:D):Option St:=match x with
 | .ref l => (match S.get l with
   |some (.dtp kvs)=>(zcY y).bind fun k=>if kvs.length<16777216 then S.put l (.dtp (putP kvs k v)) else none
   |_=>none)
 |_=>none
noncomputable def lsts (S:St)(x y:D):Option (Nat × List D × List D):=match x,y with
 |.ref p,.ref r=>(match S.get p,S.get r with|some (.lst ds),some (.lst es)=>some (p,ds,es)|_,_=>none)
 |_,_=>none
noncomputable def zeS (S:St)(x y v:D):Option (D × St):=match dGet S x y with
 |some (some u)=>some (u,S)
 |some none=>(dPut S x y v).map fun T=>(v,T)
 |none=>none
noncomputable def keyD (kv:List Int × D):D:=.tup (kv.1.map .int)
noncomputable def zbO (S:St):D->Option (Nat × List (Str × D))
 |.ref l=>(match S.get l with|some (.ins c fs)=>some (c,fs)|_=>none)
 |_=>none
noncomputable def zkf (f:Str)(v:D):List (Str × D)->List (Str × D)
 | []=>[(f,v)]
 |(g,x)::r=>if g=f then (g,v)::r else (g,x)::zkf f v r
noncomputable def zc3 (S:St)(x:D)(f:Str)(v:D):Option St:=match x with
 |.ref l=>(match S.get l with|some (.ins c fs)=>if fs.length<1000 then S.put l (.ins c (zkf f v fs)) else none|_=>none)
 |_=>none
noncomputable def zly:D->Bool|.non=>true|_=>false
mutual
inductive CE where
 |loc (i:Nat)|con (d:D)
 |tst (a:CE)
 |bin (op:Operator) (a b:CE)|neg (a:CE)|nt (a:CE)
 |cmp (op:CmpOp) (a b:CE)|cmp2 (op op':CmpOp) (a b c:CE)
 |and (a b:CE)|or (a b:CE)|ite (c a b:CE)
 |tup (es:CEs)|lst (es:CEs)|dnew|dnewT|dget1 (a b:CE)|dget2 (a b c:CE)|dsetd (a b c:CE)|dkeys (a:CE)|intb (a:CE)|extv (a b:CE)
 |ix (a b:CE)
 |fld (a:CE) (f:Str)|mk (c f:Nat) (x:Str) (es:CEs)|meth (m:Str) (tb:List (Nat × Nat)) (o:CE) (es:CEs)|isc (cs:List Nat) (x:Str) (a:CE)|callC (f:Nat) (x m:Str) (es:CEs)|clr (a:CE)
 |sl (a:CE) (ml mh:Bool) (lo hi:CE)
 |call (f j:Nat) (es:CEs)|bi (b:Bi) (es:CEs)|mt (m:Mt) (o:CE) (es:CEs)
 |mkL (l:CL)|mkT (l:CL)|all (l:CL)|ext (a:CE) (l:CL)
inductive CEs where
 |nil|cons (e:CE) (r:CEs)
inductive CL where
 |val (e:CE)|callL (f j:Nat) (es:CEs)|rng1 (a:CE)|rng2 (a b:CE)|zip (a b:CE)
 |comp (nt:Nat) (js:List Nat) (g:List Nat) (it:CL) (c:CE) (e:CE)
end
inductive CS where
 |nil|asg (i:Nat) (e:CE) (r:CS)|asgT (g:List Nat) (e:CE) (r:CS)|setF (a:CE) (f:Str) (e:CE) (r:CS)
 |ifS (c:CE) (t u:CS) (r:CS)|forS (g:List Nat) (l:CL) (b:CS) (r:CS)|ret (e:CE) (r:CS)|expr (e:CE) (r:CS)
noncomputable abbrev Ev:=List (Option D)
noncomputable def zcO:List Nat->List D->Ev->Ev
 |i::is,d::ds,δ=>zcO is ds (δ.set i (some d))
 |_,_,δ=>δ
noncomputable def asgG (g:List Nat)(x:D)(δ:Ev):Option Ev:=match g with
 | [i]=>some (δ.set i (some x))
 |is=>(match x with|.tup ds=>if ds.length=is.length then some (zcO is ds δ) else none|_=>none)
noncomputable def ziT (x y:D):D:=.tup [x,y]
noncomputable def zfT (S:St)(x y:D):Option (List D × List Nat):=match x,y with
 | .ref l, .ref m => (match S.get l, S.get m with
   |some (.lst xs),some (.lst ys)=>some (List.zipWith ziT xs ys,[l,m])
   |_,_=>none)
 |_,_=>none
noncomputable abbrev CF:=Nat->List D->St->Out D
noncomputable def zcX (S:St)(d:D)(T:St):Out D:=
 if flat S.len d then .ok d S else
 let keep:Out D:=.ok d ⟨S.frz,S.new++T.new,S.lk⟩
 match d with
  | .ref l => (match T.get l with
    |some (.lst ds)=>if flats S.len ds then .ok (.ref S.len) (S.push (.lst ds)) else keep
    |some (.dic kvs)=>if flats S.len (kvs.map (·.1))&&flats S.len (kvs.map (·.2)) then .ok (.ref S.len) (S.push (.dic kvs)) else keep
    |some (.dtp kvs)=>if flats S.len (kvs.map (·.2)) then .ok (.ref S.len) (S.push (.dtp kvs)) else keep
    |_=>keep)
  |_=>keep
noncomputable def zdC (S:St)(d:D)(T:St):Out (List D):=match d with
 |.ref l=>if l<S.len then .bad else (match T.get l with|some (.lst ds)=>if flats S.len ds then .ok ds S else .bad|_=>.bad)
 |_=>.bad
@[irreducible] noncomputable def app (cf:CF)(f:Nat)(ds:List D)(S:St):Out D:=(cf f ds S.enter).bind fun d T=>zcX S d T
@[irreducible] noncomputable def appL (cf:CF)(f:Nat)(ds:List D)(S:St):Out (List D):=(cf f ds S.enter).bind fun d T=>zdC S d T
@[irreducible] noncomputable def appW (cf:CF)(f:Nat)(ds:List D)(S:St):Out D:=cf f ds S
noncomputable def csl (nt:Nat)(js:List Nat)(δ:Ev):Ev:=List.replicate nt none++js.map fun j=>(δ[j]?).join
noncomputable def zbw (g:List Nat)(c:Ev->St->Out Bool)(e:Ev->St->Out D):List D->Ev->St->Out (List D)
 | [],_,S=>.ok [] S
 | x :: xs, δ, S => match asgG g x δ with
   |none=>.bad
   |some δ'=>(c δ' S).bind fun b S1=>if b then (e δ' S1).bind fun d S2=>(zbw g c e xs δ' S2).bind fun ds S3=>.ok (d::ds) S3 else zbw g c e xs δ' S1
noncomputable def zbK {α:Type}(ls:List Nat)(S:St)(f:St->Out α):Out α:=
 (f {S with lk:=ls++S.lk}).bind fun a S'=>.ok a {S' with lk:=S.lk}
noncomputable def zfL:D->Option Bool
 |.bl b=>some b
 |_=>none
noncomputable def allD (ds:List D):Option Bool:=(ds.mapM zfL).map fun bs=>bs.all id
section
variable (cf:CF)
mutual
noncomputable def evE:CE->Ev->St->Out D
 |.loc i,δ,S=>lift S (δ[i]?).join
 |.con d,_,S=>.ok d S
 |.tst _,_,_=>.bad
 |.bin op a b,δ,S=>(evE a δ S).bind fun x S1=>(evE b δ S1).bind fun y S2=>binD S2 op x y
 |.neg a,δ,S=>(evE a δ S).bind fun x S1=>match x with|.int i=>.ok (.int (-i)) S1|_=>.bad
 |.nt a,δ,S=>(evE a δ S).bind fun x S1=>match x with|.bl b=>.ok (.bl (!b)) S1|_=>.bad
 |.cmp op a b,δ,S=>(evE a δ S).bind fun x S1=>(evE b δ S1).bind fun y S2=>(lift S2 (cmpD S2 op x y)).bind fun k S3=>.ok (.bl k) S3
 |.cmp2 op op' a b c,δ,S=>(evE a δ S).bind fun x S1=>(evE b δ S1).bind fun y S2=>(lift S2 (cmpD S2 op x y)).bind fun k S3=>
  if k then (evE c δ S3).bind fun z S4=>(lift S4 (cmpD S4 op' y z)).bind fun k' S5=>.ok (.bl k') S5 else .ok (.bl false) S3
 |.and a b,δ,S=>(evE a δ S).bind fun x S1=>match x with|.bl k=>if k then evE b δ S1 else .ok (.bl false) S1|_=>.bad
 |.or a b,δ,S=>(evE a δ S).bind fun x S1=>match x with|.bl k=>if k then .ok (.bl true) S1 else evE b δ S1|_=>.bad
 |.ite c a b,δ,S=>(evT c δ S).bind fun k S1=>if k then evE a δ S1 else evE b δ S1
 |.tup es,δ,S=>(evEs es δ S).bind fun ds S1=>if ds.length<=16777216 then .ok (.tup ds) S1 else .bad
 |.lst es,δ,S=>(evEs es δ S).bind fun ds S1=>lay S1 ds
 |.dnew,_,S=>.ok (.ref S.len) (S.push (.dic []))
 |.dnewT,_,S=>.ok (.ref S.len) (S.push (.dtp []))
 |.dget1 a b,δ,S=>(evE a δ S).bind fun x S1=>if isDt S1 x then (evE b δ S1).bind fun y S2=>(lift S2 (dGet S2 x y)).bind fun o S3=>.ok (o.getD .non) S3 else .bad
 |.dget2 a b c,δ,S=>(evE a δ S).bind fun x S1=>if isDt S1 x then (evE b δ S1).bind fun y S2=>(evE c δ S2).bind fun z S3=>(lift S3 (dGet S3 x y)).bind fun o S4=>.ok (o.getD z) S4 else .bad
 |.dsetd a b c,δ,S=>(evE a δ S).bind fun x S1=>if isDt S1 x then (evE b δ S1).bind fun y S2=>(evE c δ S2).bind fun z S3=>(lift S3 (zeS S3 x y z)).bind fun o _=>.ok o.1 o.2 else .bad
 |.dkeys a,δ,S=>(evE a δ S).bind fun x S1=>(lift S1 (dKvs S1 x)).bind fun kvs S2=>lay S2 (kvs.map keyD)
 |.intb a,δ,S=>(evE a δ S).bind fun x S1=>match x with|.bl b=>.ok (.int (if b then 1 else 0)) S1|_=>.bad
 |.extv a b,δ,S=>(evE a δ S).bind fun x S1=>if isL S1 x then (evE b δ S1).bind fun y S2=>(lift S2 (lsts S2 x y)).bind fun o S3=>wr S3 o.1 (o.2.1++o.2.2) .non else .bad
 |.fld a f,δ,S=>(evE a δ S).bind fun x S1=>lift S1 ((zbO S1 x).bind fun p=>p.2.lookup f)
 |.mk c f _ es,δ,S=>(evEs es δ S).bind fun ds S1=>(appW cf f (.ref S1.len::ds) (S1.push (.ins c []))).bind fun d S2=>if zly d then .ok (.ref S1.len) S2 else .bad
 |.meth m tb o es,δ,S=>(evE o δ S).bind fun x S1=>(lift S1 (zbO S1 x)).bind fun p S1=>(lift S1 (tb.lookup p.1)).bind fun f S1=>if (p.2.lookup m).isNone then (evEs es δ S1).bind fun ds S2=>appW cf f (x::ds) S2 else .bad
 |.isc cs _ a,δ,S=>(evE a δ S).bind fun x S1=>(lift S1 (zbO S1 x)).bind fun p S1=>.ok (.bl (cs.contains p.1)) S1
 |.callC f _ _ es,δ,S=>(evEs es δ S).bind fun ds S1=>appW cf f ds S1
 |.clr a,δ,S=>(evE a δ S).bind fun x S1=>if isL S1 x then (match x with|.ref l=>wr S1 l [] .non|_=>.bad) else .bad
 |.ix a b,δ,S=>(evE a δ S).bind fun x S1=>(evE b δ S1).bind fun y S2=>match zcz S2 x,y with|some ds,.int i=>lift S2 (atI ds i)|_,_=>.bad
 |.sl a ml mh lo hi,δ,S=>(evE a δ S).bind fun x S1=>(evE lo δ S1).bind fun y S2=>(evE hi δ S2).bind fun z S3=>match zca ml y,zca mh z with
  | some l, some h => (match x with
    |.tup ds=>.ok (.tup (cut ds l h)) S3
    |.fix ds=>lay S3 (cut ds l h)
    |.ref p=>(match S3.get p with|some (.lst ds)=>lay S3 (cut ds l h)|_=>.bad)
    |_=>.bad)
  |_,_=>.bad
 |.call f j es,δ,S=>(evEs es δ S).bind fun ds S1=>app cf f (ds++List.replicate j .non) S1
 |.bi b es,δ,S=>(evEs es δ S).bind fun ds S1=>R.bi S1 b ds
 |.mt m o es,δ,S=>(evE o δ S).bind fun x S1=>if isL S1 x then (evEs es δ S1).bind fun ds S2=>R.mt S2 m x ds else .bad
 |.mkL l,δ,S=>(evL l δ S).bind fun r S1=>lay S1 r.1
 |.mkT l,δ,S=>(evL l δ S).bind fun r S1=>if r.1.length<=16777216 then .ok (.tup r.1) S1 else .bad
 |.all l,δ,S=>(evL l δ S).bind fun r S1=>(lift S1 (allD r.1)).bind fun b S2=>.ok (.bl b) S2
 |.ext a l,δ,S=>(evE a δ S).bind fun x S1=>if isL S1 x then (evL l δ S1).bind fun r S2=>(match x with
  |.ref p=>(match S2.get p with|some (.lst ds)=>wr S2 p (ds++r.1) .non|_=>.bad)
  |_=>.bad) else .bad
noncomputable def evEs:CEs->Ev->St->Out (List D)
 |.nil,_,S=>.ok [] S
 |.cons e r,δ,S=>(evE e δ S).bind fun d S1=>(evEs r δ S1).bind fun ds S2=>.ok (d::ds) S2
noncomputable def evT:CE->Ev->St->Out Bool
 |.cmp op a b,δ,S=>(evE a δ S).bind fun x S1=>(evE b δ S1).bind fun y S2=>lift S2 (cmpD S2 op x y)
 |.cmp2 op op' a b c,δ,S=>(evE a δ S).bind fun x S1=>(evE b δ S1).bind fun y S2=>(lift S2 (cmpD S2 op x y)).bind fun k S3=>
  if k then (evE c δ S3).bind fun z S4=>lift S4 (cmpD S4 op' y z) else .ok false S3
 |.nt a,δ,S=>(evT a δ S).bind fun k S1=>.ok (!k) S1
 |.and a b,δ,S=>(evT a δ S).bind fun k S1=>if k then evT b δ S1 else .ok false S1
 |.or a b,δ,S=>(evT a δ S).bind fun k S1=>if k then .ok true S1 else evT b δ S1
 |.tst e,δ,S=>(evE e δ S).bind fun x S1=>lift S1 (tru S1 x)
 |_,_,_=>.bad
noncomputable def evL:CL->Ev->St->Out (List D × List Nat)
 |.val e,δ,S=>(evE e δ S).bind fun x S1=>(lift S1 (zcz S1 x)).bind fun ds S2=>.ok (ds,lkOf S2 x) S2
 |.callL f j es,δ,S=>(evEs es δ S).bind fun ds S1=>(appL cf f (ds++List.replicate j .non) S1).bind fun r S2=>.ok (r,[]) S2
 |.rng1 a,δ,S=>(evE a δ S).bind fun x S1=>match x with|.int j=>if -(2 ^ 62)<=j/\j<2 ^ 62 then .ok ((List.range j.toNat).map fun (k:Nat)=>.int k,[]) S1 else .bad|_=>.bad
 |.rng2 a b,δ,S=>(evE a δ S).bind fun x S1=>(evE b δ S1).bind fun y S2=>match x,y with
  |.int i,.int j=>if -(2 ^ 62)<=i/\i<2 ^ 62/\-(2 ^ 62)<=j/\j<2 ^ 62 then .ok ((List.range (j - i).toNat).map fun (k:Nat)=>.int (i+k),[]) S2 else .bad
  |_,_=>.bad
 |.zip a b,δ,S=>(evE a δ S).bind fun x S1=>(evE b δ S1).bind fun y S2=>lift S2 (zfT S2 x y)
 |.comp n js g it c e,δ,S=>(evL it δ S).bind fun r S1=>(zbK r.2 S1 fun S2=>zbw g (evT c) (evE e) r.1 (csl n js δ) S2).bind fun ds S3=>if ds.length<=16777216 then .ok (ds,[]) S3 else .bad
end
inductive Fl where
 |nx (δ:Ev)|rt (d:D)
noncomputable def zb3 (g:List Nat)(b:Ev->St->Out Fl):List D->Ev->St->Out Fl
 | [],δ,S=>.ok (.nx δ) S
 | x :: xs, δ, S => match asgG g x δ with
   |none=>.bad
   | some δ' => (b δ' S).bind fun f S1 => match f with
     |.nx δ2=>zb3 g b xs δ2 S1
     |.rt d=>.ok (.rt d) S1
noncomputable def exS:CS->Ev->St->Out Fl
 |.nil,δ,S=>.ok (.nx δ) S
 |.asg i e r,δ,S=>(evE cf e δ S).bind fun x S1=>exS r (δ.set i (some x)) S1
 |.asgT g e r,δ,S=>(evE cf e δ S).bind fun x S1=>(lift S1 (asgG g x δ)).bind fun δ' S2=>exS r δ' S2
 |.setF a f e r,δ,S=>(evE cf e δ S).bind fun v S1=>(evE cf a δ S1).bind fun x S2=>match zc3 S2 x f v with|some S3=>exS r δ S3|none=>.bad
 |.ifS c t u r,δ,S=>(evT cf c δ S).bind fun k S1=>(if k then exS t δ S1 else exS u δ S1).bind fun f S2=>match f with
  |.nx δ'=>exS r δ' S2
  |.rt d=>.ok (.rt d) S2
 |.forS g l b r,δ,S=>(evL cf l δ S).bind fun q S1=>(zbK q.2 S1 fun S2=>zb3 g (exS b) q.1 δ S2).bind fun f S3=>match f with
  |.nx δ'=>exS r δ' S3
  |.rt d=>.ok (.rt d) S3
 |.ret e _,δ,S=>(evE cf e δ S).bind fun x S1=>.ok (.rt x) S1
 |.expr e r,δ,S=>(evE cf e δ S).bind fun _ S1=>exS r δ S1
end
inductive Prim where
 |tally
noncomputable def rowD (r:Int × Int):D:=.tup [.int r.1,.int r.2]
noncomputable def talD (os:List (Option Int)):List D:=(zbx (zah [] os)).map rowD
noncomputable def prm (S:St):Prim->List D->Out D
 | .tally, [.ref l] => (match S.get l with
   | some (.lst ws) => (match zbL ws with
     |some os=>if (zah [] os).length<64/\os.length<=16777216 then .ok (.ref S.len) (S.push (.lst (talD os))) else .bad
     |none=>.bad)
   |_=>.bad)
 |_,_=>.bad
structure Fn where
 np:Nat
 nn:Nat
 body:CS
 prim:Option Prim
noncomputable def zbi (F:Fn)(ds:List D):Ev:=ds.map some++List.replicate (F.nn - F.np) none
noncomputable def callF (P:List Fn):Nat->CF
 |0,_,_,_=>.bad
 | n + 1, f, ds, S => match P[f]? with
   | some F => if ds.length = F.np then (match F.prim with
      |some p=>if 3<=n then prm S p ds else .bad
      | none => (exS (callF P n) F.body (zbi F ds) S).bind fun r T => match r with
        |.nx _=>.ok .non T
        |.rt d=>.ok d T)
     else .bad
   |none=>.bad
end R
end
section
namespace R
open PySem (Str PyData Operator CmpOp)
@[simp] theorem zbR {α β:Type}(a:α)(S:St)(f:α->St->Out β):(Out.ok a S).bind f=f a S:=rfl
@[simp] theorem zpR {α β:Type}(f:α->St->Out β):(Out.bad:Out α).bind f=.bad:=rfl
@[simp] theorem zpQ {α β:Type}(d:D)(S:St)(f:α->St->Out β):(Out.err d S:Out α).bind f=.err d S:=rfl
@[simp] theorem zdz {α:Type}(S:St)(a:α):lift S (some a)=.ok a S:=rfl
theorem zaL (S:St):S.enter.get=S.get:=by
 funext l
 simp only[St.get,St.enter,List.length_append,List.getElem?_append]
 by_cases h:l<S.frz.length
 · simp[h,Nat.lt_of_lt_of_le h (Nat.le_add_right _ _)]
 · simp only[h,if_false]
   split
   · rfl
   · simp only[List.getElem?_nil]
     exact (List.getElem?_eq_none (by omega)).symm
@[simp] theorem zjq (S:St):S.enter.frz=S.frz++S.new:=rfl
@[simp] theorem zpt (S:St):S.enter.new=[]:=rfl
@[simp] theorem zpP (S:St):S.enter.lk=[]:=rfl
@[simp] theorem enter_len (S:St):S.enter.len=S.len:=by simp[St.len]
theorem zdB (S:St):(S.frz++S.new).length=S.len:=by simp[St.len]
theorem zbn {S:St}{l:Nat}{o:MO}(h:S.get l=some o):l<S.len:=by
 unfold St.get at h
 unfold St.len
 split at h
 · omega
 · have:=(List.getElem?_eq_some_iff.mp h).1
   omega
theorem zdK {S:St}{l:Nat}{o:MO}(h:S.get l=some o)(nw:List MO)(lk:List Nat):(St.mk (S.frz++S.new) nw lk).get l=some o:=by
 have hl:=zbn h
 rw[<-zaL] at h
 unfold St.get at h⊢
 have e:l<(S.frz++S.new).length:=by rw[zdB];exact hl
 simp only[zjq,e,if_true] at h⊢
 exact h
theorem zbP (F nw:List MO)(lk:List Nat)(i:Nat):(St.mk F nw lk).get (F.length+i)=nw[i]?:=by
 have:¬F.length+i<F.length:=by omega
 simp[St.get,this]
theorem zkT (F nw:List MO)(lk:List Nat):(St.mk F nw lk).get F.length=nw[0]?:=zbP F nw lk 0
@[simp] theorem zpN (n:Nat):flat n .non=true:=by simp[flat]
@[simp] theorem zqv (n:Nat)(b:Bool):flat n (.bl b)=true:=by simp[flat]
@[simp] theorem zg9 (n:Nat)(i:Int):flat n (.int i)=true:=by simp[flat]
@[simp] theorem zpM (n:Nat)(x:Str):flat n (.str x)=true:=by simp[flat]
@[simp] theorem zeP (n:Nat)(ds:List D):flat n (.tup ds)=flats n ds:=by simp[flat]
@[simp] theorem zpO (n:Nat)(ds:List D):flat n (.fix ds)=flats n ds:=by simp[flat]
@[simp] theorem zfw (n:Nat):flats n []=true:=by simp[flats]
@[simp] theorem zcm (n:Nat)(d:D)(ds:List D):flats n (d::ds)=(flat n d&&flats n ds):=by simp[flats]
@[simp] theorem zfy (n : Nat) : ∀ ds es : List D, flats n (ds ++ es) = (flats n ds && flats n es)
  | [],es=>by simp
  |d::ds,es=>by simp[zfy n ds es,Bool.and_assoc]
theorem zaW (n:Nat):∀ds:List D,flats n ds=true↔∀d∈ds,flat n d=true
 | []=>by simp
 |d::ds=>by simp[zaW n ds]
@[simp] theorem zej (n:Nat)(ns:List Int):flats n (ns.map D.int)=true:=by rw[zaW];simp
@[simp] theorem zhK (S:St)(d:D)(T:St)(h:flat S.len d=true):zcX S d T=.ok d S:=by simp[zcX,h]
noncomputable def W {α:Type}(o:Out α)(Q:α->St->Prop):Prop:=match o with
 |.ok a S=>Q a S
 |_=>False
@[simp] theorem W_ok {α:Type}(a:α)(S:St)(Q:α->St->Prop):W (.ok a S) Q=Q a S:=rfl
@[simp] theorem zqE {α:Type}(Q:α->St->Prop):W (.bad:Out α) Q=False:=rfl
@[simp] theorem zqD {α:Type}(d:D)(S:St)(Q:α->St->Prop):W (.err d S:Out α) Q=False:=rfl
@[simp] theorem zaa {α β : Type} (o : Out α) (f : α → St → Out β) (Q : β → St → Prop) : W (o.bind f) Q = W o fun a S => W (f a S) Q := by
  cases o<;>rfl
theorem W.mono {α:Type}{o:Out α}{Q Q':α->St->Prop}(h:W o Q)(hq:∀a S,Q a S->Q' a S):W o Q':=by
 cases o with
 |ok a S=>exact hq a S h
 |err d S=>exact h
 |bad=>exact h
theorem W.eq {α:Type}{o:Out α}{d:α}{S:St}(h:W o fun a T=>a=d/\T=S):o=.ok d S:=by
 cases o with
 |ok a T=>obtain⟨rfl,rfl⟩:=h;rfl
 |err d S=>exact False.elim h
 |bad=>exact False.elim h
theorem W.of {α:Type}{o:Out α}{d:α}{S:St}{Q:α->St->Prop}(h:o=.ok d S)(q:Q d S):W o Q:=by rw[h];exact q
theorem W.iff {α:Type}{o:Out α}{Q:α->St->Prop}:W o Q↔∃a S,o=.ok a S/\Q a S:=by
 cases o with
 |ok a S=>exact⟨fun h=>⟨a,S,rfl,h⟩,fun⟨_,_,e,h⟩=>by cases e;exact h⟩
 |err d S=>exact⟨fun h=>h.elim,fun⟨_,_,e,_⟩=>nomatch e⟩
 |bad=>exact⟨fun h=>h.elim,fun⟨_,_,e,_⟩=>nomatch e⟩
noncomputable def fin (S:St)(r:Fl)(T:St):Out D:=match r with
 |.nx _=>zcX S .non T
 |.rt d=>zcX S d T
@[simp] theorem zlB (S T:St)(d:D):fin S (.rt d) T=zcX S d T:=rfl
@[simp] theorem zqC (S T:St)(δ:Ev):fin S (.nx δ) T=.ok .non S:=by simp[fin]
theorem zlJ {P:List Fn}{F:Fn}{f n:Nat}{ds:List D}{S:St}(h:P[f]?=some F)(hl:ds.length=F.np)(hp:F.prim=none:=by rfl) :
  app (callF P (n+1)) f ds S=(exS (callF P n) F.body (zbi F ds) S.enter).bind fun r T=>fin S r T:=by
 simp only[app,callF,h,hl,hp,if_true]
 generalize exS (callF P n) F.body (zbi F ds) S.enter=o
 cases o with
 |ok r T=>cases r<;>rfl
 |err d S=>rfl
 |bad=>rfl
noncomputable def finL (S:St)(r:Fl)(T:St):Out (List D):=match r with
 |.nx _=>.bad
 |.rt d=>zdC S d T
@[simp] theorem znj (S T:St)(d:D):finL S (.rt d) T=zdC S d T:=rfl
theorem znB {P:List Fn}{F:Fn}{f n:Nat}{ds:List D}{S:St}(h:P[f]?=some F)(hl:ds.length=F.np)(hp:F.prim=none:=by rfl) :
  appL (callF P (n+1)) f ds S=(exS (callF P n) F.body (zbi F ds) S.enter).bind fun r T=>finL S r T:=by
 simp only[appL,callF,h,hl,hp,if_true]
 generalize exS (callF P n) F.body (zbi F ds) S.enter=o
 cases o with
 |ok r T=>cases r<;>rfl
 |err d S=>rfl
 |bad=>rfl
theorem zaA {g:List Nat}{b:Ev->St->Out Fl}(I:Nat->Ev->St->Prop)(Rt:D->St->Prop):∀(xs:List D) (k:Nat) (δ:Ev) (S:St),I k δ S->
  (∀i x δ S,xs[i]?=some x->I (k+i) δ S->∃δ',asgG g x δ=some δ'/\W (b δ' S) fun f S'=>match f with|.nx δ2=>I (k+i+1) δ2 S'|.rt d=>Rt d S')->
  W (zb3 g b xs δ S) fun f S'=>match f with|.nx δ'=>I (k+xs.length) δ' S'|.rt d=>Rt d S'
 | [],k,δ,S,h,_=>by simpa[zb3] using h
 | x :: xs, k, δ, S, h, step => by
   obtain⟨δ',e,w⟩:=step 0 x δ S rfl h
   simp only[zb3,e,zaa]
   refine w.mono fun f S1 hf=>?_
   cases f with
   |rt d=>exact hf
   | nx δ2 =>
     have ih:=zaA I Rt xs (k+1) δ2 S1 hf (fun i y δ S hy hi=>by
      have:=step (i+1) y δ S (by simpa using hy) (by rw[show k+(i+1)=k+1+i by omega];exact hi)
      rw[show k+(i+1)+1=k+1+i+1 by omega] at this
      exact this)
     rw[show k+1+xs.length=k+(x::xs).length by simp;omega] at ih
     exact ih
theorem za0 {c:Ev->St->Out Bool}{e:Ev->St->Out D}{S:St}{rest:Ev}(p:D->Bool)(f:D->D):∀(xs:List D) (o:Option D),
  (∀x∈xs,c (some x::rest) S=.ok (p x) S)->(∀x∈xs,p x=true->e (some x::rest) S=.ok (f x) S)->zbw [0] c e xs (o::rest) S=.ok ((xs.filter p).map f) S
 | [],o,_,_=>rfl
 | x :: xs, o, hc, he => by
   have ih:=za0 p f xs (some x) (fun y hy=>hc y (List.mem_cons_of_mem _ hy)) (fun y hy=>he y (List.mem_cons_of_mem _ hy))
   simp only[zbw,asgG,List.set_cons_zero,hc x List.mem_cons_self,zbR]
   cases hp:p x with
   |false=>simp[ih,hp]
   |true=>simp[ih,hp,he x List.mem_cons_self hp]
theorem zcP {c:Ev->St->Out Bool}{e:Ev->St->Out D}{S:St}{rest:Ev}(f:D->D)(xs:List D)(o:Option D)
  (hc:∀x∈xs,c (some x::rest) S=.ok true S) (he:∀x∈xs,e (some x::rest) S=.ok (f x) S):zbw [0] c e xs (o::rest) S=.ok (xs.map f) S:=by
 have:=za0 (c:=c) (e:=e) (S:=S) (rest:=rest) (fun _=>true) f xs o hc (fun x hx _=>he x hx)
 rw[List.filter_eq_self.mpr (fun _ _=>rfl)] at this
 exact this
@[simp] theorem znE {α:Type}(S:St)(f:St->Out α):zbK [] S f=(f S).bind fun a S'=>.ok a {S' with lk:=S.lk}:=rfl
end R
end
section
namespace R
open PySem (Str PyData Operator CmpOp)
noncomputable def wIf (c:Bool)(P Q:Prop):Prop:=match c with|true=>P|false=>Q
@[irreducible] noncomputable def wOpt {α:Type}(o:Option α)(k:α->Prop):Prop:=match o with|some a=>k a|none=>False
@[irreducible] noncomputable def zaZ (p k:Prop):Prop:=p/\k
@[irreducible] noncomputable def wOut {α:Type}(o:Out α)(Q:α->St->Prop):Prop:=W o Q
theorem zh9 {c:Bool}{P Q:Prop}(h:c=true)(k:P):wIf c P Q:=by subst h;exact k
theorem zdj {c:Bool}{P Q:Prop}(h:c=false)(k:Q):wIf c P Q:=by subst h;exact k
theorem zhr {c:Bool}{P Q:Prop}(h1:c=true->P)(h2:c=false->Q):wIf c P Q:=by
 cases c with
 |true=>exact zh9 rfl (h1 rfl)
 |false=>exact zdj rfl (h2 rfl)
theorem zbG {p:Prop}[Decidable p]{P Q:Prop}(h1:p->P)(h2:¬p->Q):wIf (decide p) P Q:=zhr (fun h=>h1 (of_decide_eq_true h)) (fun h=>h2 (of_decide_eq_false h))
theorem zad {α:Type}{o:Option α}{k:α->Prop}{a:α}(h:o=some a)(q:k a):wOpt o k:=by unfold wOpt;rw[h];exact q
theorem zab {p k:Prop}(h:p)(q:k):zaZ p k:=by unfold zaZ;exact⟨h,q⟩
theorem zaj {α:Type}{o:Out α}{Q:α->St->Prop}{a:α}{S:St}(h:o=.ok a S)(q:Q a S):wOut o Q:=by unfold wOut;rw[h];exact q
theorem zh7 {α:Type}{o:Out α}{Q:α->St->Prop}(h:W o Q):wOut o Q:=by unfold wOut;exact h
noncomputable abbrev wGet (S:St)(l:Nat)(k:MO->Prop):Prop:=wOpt (S.get l) k
noncomputable abbrev wPut (S:St)(l:Nat)(o:MO)(k:St->Prop):Prop:=wOpt (S.put l o) k
theorem zaI {S:St}{l:Nat}{o:MO}{nw:List MO}{lk:List Nat}{k:MO->Prop}(h:S.get l=some o)(q:k o):wGet (St.mk (S.frz++S.new) nw lk) l k:=zad (zdK h nw lk) q
theorem zaz {F nw:List MO}{lk:List Nat}{i:Nat}{o:MO}{k:MO->Prop}(h:nw[i]?=some o)(q:k o):wGet (St.mk F nw lk) (F.length+i) k:=zad ((zbP F nw lk i).trans h) q
theorem ziE {F nw:List MO}{lk:List Nat}{i:Nat}{o:MO}(h:lk.contains (F.length+i)=false):(St.mk F nw lk).put (F.length+i) o=some ⟨F,nw.set i o,lk⟩:=by
 have h1:¬F.length+i<F.length:=by omega
 simp only[St.put,h1,if_false,h,Bool.false_eq_true,Nat.add_sub_cancel_left]
theorem zaU {F nw:List MO}{lk:List Nat}{i:Nat}{o:MO}{k:St->Prop}(h:lk.contains (F.length+i)=false)(q:k ⟨F,nw.set i o,lk⟩):wPut (St.mk F nw lk) (F.length+i) o k:=zad (ziE h) q
noncomputable def wLay (S:St)(ds:List D)(Q:D->St->Prop):Prop:=zaZ (ds.length<=16777216) (Q (.ref S.len) (S.push (.lst ds)))
theorem zd5 {S:St}{ds:List D}{Q:D->St->Prop}(h:wLay S ds Q):W (lay S ds) Q:=by
 unfold wLay zaZ at h
 unfold lay
 rw[if_pos h.1];exact h.2
noncomputable def wWr (S:St)(l:Nat)(ds:List D)(d:D)(Q:D->St->Prop):Prop:=zaZ (ds.length<=16777216) (wPut S l (.lst ds) fun S'=>Q d S')
theorem zh5 {S:St}{l:Nat}{ds:List D}{d:D}{Q:D->St->Prop}(h:wWr S l ds d Q):W (wr S l ds d) Q:=by
 unfold wWr zaZ wPut wOpt at h
 unfold wr
 rw[if_pos h.1]
 have h2:=h.2
 cases e:S.put l (.lst ds) with
 |none=>rw[e] at h2;exact h2.elim
 |some S'=>rw[e] at h2;exact h2
noncomputable def znK (S:St)(op:Operator)(i j:Int)(Q:D->St->Prop):Prop:=match op with
 |.Add=>Q (.int (i+j)) S
 |.Sub=>Q (.int (i - j)) S
 |.Mult=>zaZ (zga i j=true) (Q (.int (i * j)) S)
 |.FloorDiv=>zaZ (0<j/\j<1073741824) (Q (.int (i / j)) S)
 |.Mod=>zaZ (0<j) (Q (.int (i % j)) S)
 |.Pow=>zaZ (0<=j/\j<=1000000/\-18446744073709551616<i/\i<18446744073709551616) (Q (.int (i ^ j.toNat)) S)
 |_=>False
noncomputable def wBin (S:St)(op:Operator)(x y:D)(Q:D->St->Prop):Prop:=match x,y with
 |.int i,.int j=>znK S op i j Q
 |.tup xs,.tup ys=>(match op with|.Add=>zaZ (xs.length+ys.length<=16777216) (Q (.tup (xs++ys)) S)|_=>False)
 |.ref a,.ref b=>(match op with|.Add=>wGet S a fun o=>wGet S b fun u=>(match o,u with|.lst xs,.lst ys=>wLay S (xs++ys) Q|_,_=>False)|_=>False)
 |_,_=>False
theorem znJ {S:St}{op:Operator}{x y:D}{Q:D->St->Prop}(h:wBin S op x y Q):W (binD S op x y) Q:=by
 unfold wBin at h
 unfold binD
 split at h
 · unfold znK zaZ at h
   unfold binI
   split at h<;>(try dsimp only)<;>first|exact h|(rw[if_pos h.1];exact h.2)|exact False.elim h
 · split at h
   · unfold zaZ at h
     (try simp only)
     rw[if_pos h.1];exact h.2
   · exact h.elim
 · split at h
   · unfold wGet wOpt at h
     (try simp only)
     cases ea:S.get _ with
     |none=>simp only[ea] at h
     | some o =>
       simp only[ea] at h
       cases eb:S.get _ with
       |none=>simp only[eb] at h
       | some u =>
         simp only[eb] at h
         cases o<;>cases u<;>first|exact zd5 h|exact h.elim
   · exact h.elim
 · exact h.elim
noncomputable def wCmp (S:St)(op:CmpOp)(x y:D)(Q:Bool->Prop):Prop:=match x,y with
 |.int i,.int j=>(match cmpI op i j with|some k=>Q k|none=>False)
 | _, _ => (match op with
   |.Is=>(match cmpO S .Is x y with|some k=>Q k|none=>False)
   |.IsNot=>(match cmpO S .IsNot x y with|some k=>Q k|none=>False)
   |_=>wOpt (cmpO S op x y) Q)
theorem zns {S:St}{op:CmpOp}{x y:D}(h:∀i j,x=.int i->y=.int j->False):cmpD S op x y=cmpO S op x y:=by
 unfold cmpD
 split
 · rename_i i j;exact (h i j rfl rfl).elim
 · rfl
theorem zfV {S:St}{op:CmpOp}{x y:D}{Q:Bool->Prop}(h:wCmp S op x y Q):∃k,cmpD S op x y=some k/\Q k:=by
 have fin:∀o:Option Bool,(match o with|some k=>Q k|none=>False)->∃k,o=some k/\Q k:=fun o q=>by
  cases o with
  |none=>exact q.elim
  |some k=>exact⟨k,rfl,q⟩
 unfold wCmp at h
 split at h
 · exact fin _ h
 · rename_i hn
   rw[zns hn]
   split at h
   · exact fin _ h
   · exact fin _ h
   · unfold wOpt at h
     cases e:cmpO S op x y with
     |none=>rw[e] at h;exact h.elim
     |some k=>rw[e] at h;exact⟨k,rfl,h⟩
theorem zgz {S:St}{op:CmpOp}{x y:D}{Q:Bool->St->Prop}(h:wCmp S op x y fun k=>Q k S):W (lift S (cmpD S op x y)) Q:=by
 obtain⟨k,e,q⟩:=zfV h
 rw[e];exact q
noncomputable def wBi (S:St)(b:Bi)(ds:List D)(Q:D->St->Prop):Prop:=match b,ds with
 | .len, [x] => (match x with
   |.tup ds=>Q (.int ds.length) S
   |.fix ds=>Q (.int ds.length) S
   |.ref l=>wGet S l fun o=>(match o with|.lst ds=>Q (.int ds.length) S|.dic kvs=>Q (.int kvs.length) S|.dtp kvs=>Q (.int kvs.length) S|_=>False)
   |_=>False)
 |.abs,[.int i]=>Q (.int (if i<0 then -i else i)) S
 |.max2,[.int i,.int j]=>Q (.int (if j > i then j else i)) S
 |.min2,[.int i,.int j]=>Q (.int (if j<i then j else i)) S
 |.isin t,[x]=>wOpt (tyOf S x) fun a=>Q (.bl (a == t || (a == "bool"&&t == "int"))) S
 |_,_=>False
theorem zpV {S:St}{b:Bi}{ds:List D}{Q:D->St->Prop}(h:wBi S b ds Q):W (bi S b ds) Q:=by
 unfold wBi at h
 split at h
 · split at h
   · exact h
   · exact h
   · rename_i l
     unfold wGet wOpt at h
     simp only[bi]
     cases e:S.get l with
     |none=>rw[e] at h;exact h.elim
     |some o=>rw[e] at h;cases o<;>first|exact h|exact h.elim
   · exact h.elim
 · exact h
 · exact h
 · exact h
 · rename_i t x
   unfold wOpt at h
   simp only[bi]
   cases e:tyOf S x with
   |none=>rw[e] at h;exact h.elim
   |some a=>rw[e] at h;exact h
 · exact h.elim
noncomputable def wIsL (S:St)(x:D)(P:Prop):Prop:=match x with
 |.ref l=>wGet S l fun o=>(match o with|.lst _=>P|_=>False)
 |_=>False
theorem zeo {S:St}{x:D}{P:Prop}(h:wIsL S x P):isL S x=true/\P:=by
 unfold wIsL at h
 split at h
 · rename_i l
   unfold wGet wOpt at h
   unfold isL
   cases e:S.get l with
   |none=>rw[e] at h;exact h.elim
   | some o =>
     rw[e] at h
     cases o with
     |lst ds=>exact⟨by simp[e],h⟩
     |_=>exact False.elim h
 · exact h.elim
noncomputable def wMt (S:St)(m:Mt)(x:D)(ds:List D)(Q:D->St->Prop):Prop:=match m,x,ds with
 |.append,.ref l,[y]=>wGet S l fun o=>(match o with|.lst ds=>wWr S l (ds++[y]) .non Q|_=>False)
 | .popAt, .ref l, [.int i] => wGet S l fun o => (match o with
   |.lst ds=>zaZ (0<=i) (wOpt ds[i.toNat]? fun y=>wWr S l (ds.eraseIdx i.toNat) y Q)
   |_=>False)
 | .count, .ref l, [.int i] => wGet S l fun o => (match o with
   |.lst ds=>wOpt (zbL ds) fun os=>Q (.int (os.count (some i):Nat)) S
   |_=>False)
 |_,_,_=>False
theorem zpU {S:St}{m:Mt}{x:D}{ds:List D}{Q:D->St->Prop}(h:wMt S m x ds Q):W (mt S m x ds) Q:=by
 unfold wMt at h
 split at h
 · rename_i l y
   unfold wGet wOpt at h
   simp only[mt]
   cases e:S.get l with
   |none=>rw[e] at h;exact h.elim
   |some o=>rw[e] at h;cases o<;>first|exact zh5 h|exact h.elim
 · rename_i l i
   unfold wGet wOpt zaZ at h
   simp only[mt]
   cases e:S.get l with
   |none=>rw[e] at h;exact h.elim
   | some o =>
     rw[e] at h
     cases o with
     | lst ds =>
       simp only at h⊢
       rw[if_pos h.1]
       have h2:=h.2
       cases e2:ds[i.toNat]? with
       |none=>rw[e2] at h2;exact h2.elim
       |some y=>rw[e2] at h2;exact zh5 h2
     |_=>exact h.elim
 · rename_i l i
   unfold wGet wOpt at h
   simp only[mt]
   cases e:S.get l with
   |none=>rw[e] at h;exact h.elim
   | some o =>
     rw[e] at h
     cases o with
     | lst ds =>
       simp only at h⊢
       cases e2:zbL ds with
       |none=>rw[e2] at h;exact h.elim
       |some y=>rw[e2] at h;exact h
     |_=>exact h.elim
 · exact h.elim
noncomputable def wSeq (S:St)(x:D)(k:List D->Prop):Prop:=match x with
 |.tup ds=>k ds
 |.fix ds=>k ds
 |.ref l=>wGet S l fun o=>(match o with|.lst ds=>k ds|_=>False)
 |_=>False
theorem zh6 {S:St}{x:D}{k:List D->Prop}(h:wSeq S x k):∃ds,zcz S x=some ds/\k ds:=by
 unfold wSeq at h
 unfold zcz
 split at h
 · exact⟨_,rfl,h⟩
 · exact⟨_,rfl,h⟩
 · rename_i l
   unfold wGet wOpt at h
   cases e:S.get l with
   |none=>rw[e] at h;exact h.elim
   | some o =>
     rw[e] at h
     cases o with
     |lst ds=>exact⟨ds,by simp[e],h⟩
     |dic _=>exact False.elim h
     |ins _ _=>exact False.elim h
     |dtp _=>exact False.elim h
 · exact h.elim
noncomputable def wTru (S:St)(x:D)(Q:Bool->Prop):Prop:=match x with
 |.bl b=>Q b
 |.non=>Q false
 |.int i=>Q (i != 0)
 |.tup ds=>Q (!ds.isEmpty)
 |.ref l=>wGet S l fun o=>(match o with|.lst ds=>Q (!ds.isEmpty)|_=>False)
 |_=>False
theorem znI {S:St}{x:D}{Q:Bool->St->Prop}(h:wTru S x fun k=>Q k S):W (lift S (tru S x)) Q:=by
 unfold wTru at h
 unfold tru
 split at h
 · exact h
 · exact h
 · exact h
 · exact h
 · rename_i l
   unfold wGet wOpt at h
   simp only
   cases e:S.get l with
   |none=>rw[e] at h;exact h.elim
   |some o=>rw[e] at h;cases o<;>first|exact h|exact h.elim
 · exact h.elim
@[irreducible] noncomputable def zhq {α:Type}(ls:List Nat)(S:St)(f:St->Out α)(Q:α->St->Prop):Prop:=W (zbK ls S f) Q
theorem zh8 {α:Type}{ls:List Nat}{S:St}{f:St->Out α}{Q:α->St->Prop}(h:zhq ls S f Q):W (zbK ls S f) Q:=by unfold zhq at h;exact h
theorem zas {α:Type}{ls:List Nat}{S:St}{f:St->Out α}{Q:α->St->Prop}(h:W (f {S with lk:=ls++S.lk}) fun a T=>Q a {T with lk:=S.lk}):zhq ls S f Q:=by
 unfold zhq zbK
 rw[zaa];exact h
section
variable (cf:CF)
mutual
noncomputable def wE:CE->Ev->St->(D->St->Prop)->Prop
 |.loc i,δ,S,Q=>(match (δ[i]?).join with|some d=>Q d S|none=>False)
 |.con d,_,S,Q=>Q d S
 |.tst _,_,_,_=>False
 |.bin op a b,δ,S,Q=>wE a δ S fun x S1=>wE b δ S1 fun y S2=>wBin S2 op x y Q
 |.neg a,δ,S,Q=>wE a δ S fun x S1=>(match x with|.int i=>Q (.int (-i)) S1|_=>False)
 |.nt a,δ,S,Q=>wE a δ S fun x S1=>(match x with|.bl b=>Q (.bl (!b)) S1|_=>False)
 |.cmp op a b,δ,S,Q=>wE a δ S fun x S1=>wE b δ S1 fun y S2=>wCmp S2 op x y fun k=>Q (.bl k) S2
 |.cmp2 op op' a b c,δ,S,Q=>wE a δ S fun x S1=>wE b δ S1 fun y S2=>wCmp S2 op x y fun k=>wIf k (wE c δ S2 fun z S4=>wCmp S4 op' y z fun k'=>Q (.bl k') S4) (Q (.bl false) S2)
 |.and a b,δ,S,Q=>wE a δ S fun x S1=>(match x with|.bl k=>wIf k (wE b δ S1 Q) (Q (.bl false) S1)|_=>False)
 |.or a b,δ,S,Q=>wE a δ S fun x S1=>(match x with|.bl k=>wIf k (Q (.bl true) S1) (wE b δ S1 Q)|_=>False)
 |.ite c a b,δ,S,Q=>wT c δ S fun k S1=>wIf k (wE a δ S1 Q) (wE b δ S1 Q)
 |.tup es,δ,S,Q=>wEs es δ S fun ds S1=>zaZ (ds.length<=16777216) (Q (.tup ds) S1)
 |.lst es,δ,S,Q=>wEs es δ S fun ds S1=>wLay S1 ds Q
 |.dnew,_,S,Q=>Q (.ref S.len) (S.push (.dic []))
 |.dnewT,_,S,Q=>Q (.ref S.len) (S.push (.dtp []))
 |.dget1 a b,δ,S,Q=>wE a δ S fun x S1=>zaZ (isDt S1 x=true) (wE b δ S1 fun y S2=>wOpt (dGet S2 x y) fun o=>Q (o.getD .non) S2)
 |.dget2 a b c,δ,S,Q=>wE a δ S fun x S1=>zaZ (isDt S1 x=true) (wE b δ S1 fun y S2=>wE c δ S2 fun z S3=>wOpt (dGet S3 x y) fun o=>Q (o.getD z) S3)
 |.dsetd a b c,δ,S,Q=>wE a δ S fun x S1=>zaZ (isDt S1 x=true) (wE b δ S1 fun y S2=>wE c δ S2 fun z S3=>wOpt (zeS S3 x y z) fun o=>Q o.1 o.2)
 |.dkeys a,δ,S,Q=>wE a δ S fun x S1=>wOpt (dKvs S1 x) fun kvs=>wLay S1 (kvs.map keyD) Q
 |.intb a,δ,S,Q=>wE a δ S fun x S1=>(match x with|.bl b=>Q (.int (if b then 1 else 0)) S1|_=>False)
 |.extv a b,δ,S,Q=>wE a δ S fun x S1=>wIsL S1 x (wE b δ S1 fun y S2=>wOpt (lsts S2 x y) fun o=>wWr S2 o.1 (o.2.1++o.2.2) .non Q)
 |.fld a f,δ,S,Q=>wE a δ S fun x S1=>wOpt ((zbO S1 x).bind fun p=>p.2.lookup f) fun v=>Q v S1
 |.mk c f _ es,δ,S,Q=>wEs es δ S fun ds S1=>wOut (appW cf f (.ref S1.len::ds) (S1.push (.ins c []))) fun d S2=>zaZ (zly d=true) (Q (.ref S1.len) S2)
 |.meth m tb o es,δ,S,Q=>wE o δ S fun x S1=>wOpt (zbO S1 x) fun p=>wOpt (tb.lookup p.1) fun f=>zaZ ((p.2.lookup m).isNone=true) (wEs es δ S1 fun ds S2=>wOut (appW cf f (x::ds) S2) Q)
 |.isc cs _ a,δ,S,Q=>wE a δ S fun x S1=>wOpt (zbO S1 x) fun p=>Q (.bl (cs.contains p.1)) S1
 |.callC f _ _ es,δ,S,Q=>wEs es δ S fun ds S1=>wOut (appW cf f ds S1) Q
 |.clr a,δ,S,Q=>wE a δ S fun x S1=>wIsL S1 x (match x with|.ref l=>wWr S1 l [] .non Q|_=>False)
 |.ix a b,δ,S,Q=>wE a δ S fun x S1=>wE b δ S1 fun y S2=>wSeq S2 x fun ds=>(match y with|.int i=>wOpt (atI ds i) fun d=>Q d S2|_=>False)
 |.sl a ml mh lo hi,δ,S,Q=>wE a δ S fun x S1=>wE lo δ S1 fun y S2=>wE hi δ S2 fun z S3=>(match zca ml y,zca mh z with
  | some l, some h => (match x with
    |.tup ds=>Q (.tup (cut ds l h)) S3
    |.fix ds=>wLay S3 (cut ds l h) Q
    |.ref p=>wGet S3 p fun o=>(match o with|.lst ds=>wLay S3 (cut ds l h) Q|_=>False)
    |_=>False)
  |_,_=>False)
 |.call f j es,δ,S,Q=>wEs es δ S fun ds S1=>wOut (app cf f (ds++List.replicate j .non) S1) Q
 |.bi b es,δ,S,Q=>wEs es δ S fun ds S1=>wBi S1 b ds Q
 |.mt m o es,δ,S,Q=>wE o δ S fun x S1=>wIsL S1 x (wEs es δ S1 fun ds S2=>wMt S2 m x ds Q)
 |.mkL l,δ,S,Q=>wL l δ S fun r S1=>wLay S1 r.1 Q
 |.mkT l,δ,S,Q=>wL l δ S fun r S1=>zaZ (r.1.length<=16777216) (Q (.tup r.1) S1)
 |.all l,δ,S,Q=>wL l δ S fun r S1=>wOpt (allD r.1) fun b=>Q (.bl b) S1
 |.ext a l,δ,S,Q=>wE a δ S fun x S1=>wIsL S1 x (wL l δ S1 fun r S2=>(match x with
  |.ref p=>wGet S2 p fun o=>(match o with|.lst ds=>wWr S2 p (ds++r.1) .non Q|_=>False)
  |_=>False))
noncomputable def wEs:CEs->Ev->St->(List D->St->Prop)->Prop
 |.nil,_,S,Q=>Q [] S
 |.cons e r,δ,S,Q=>wE e δ S fun d S1=>wEs r δ S1 fun ds S2=>Q (d::ds) S2
noncomputable def wT:CE->Ev->St->(Bool->St->Prop)->Prop
 |.cmp op a b,δ,S,Q=>wE a δ S fun x S1=>wE b δ S1 fun y S2=>wCmp S2 op x y fun k=>Q k S2
 |.cmp2 op op' a b c,δ,S,Q=>wE a δ S fun x S1=>wE b δ S1 fun y S2=>wCmp S2 op x y fun k=>wIf k (wE c δ S2 fun z S4=>wCmp S4 op' y z fun k'=>Q k' S4) (Q false S2)
 |.nt a,δ,S,Q=>wT a δ S fun k S1=>Q (!k) S1
 |.and a b,δ,S,Q=>wT a δ S fun k S1=>wIf k (wT b δ S1 Q) (Q false S1)
 |.or a b,δ,S,Q=>wT a δ S fun k S1=>wIf k (Q true S1) (wT b δ S1 Q)
 |.tst e,δ,S,Q=>wE e δ S fun x S1=>wTru S1 x fun k=>Q k S1
 |_,_,_,_=>False
noncomputable def wL:CL->Ev->St->(List D × List Nat->St->Prop)->Prop
 |.val e,δ,S,Q=>wE e δ S fun x S1=>wSeq S1 x fun ds=>Q (ds,lkOf S1 x) S1
 |.callL f j es,δ,S,Q=>wEs es δ S fun ds S1=>wOut (appL cf f (ds++List.replicate j .non) S1) fun r S2=>Q (r,[]) S2
 |.rng1 a,δ,S,Q=>wE a δ S fun x S1=>(match x with|.int j=>zaZ (-(2 ^ 62)<=j/\j<2 ^ 62) (Q ((List.range j.toNat).map fun (k:Nat)=>.int k,[]) S1)|_=>False)
 |.rng2 a b,δ,S,Q=>wE a δ S fun x S1=>wE b δ S1 fun y S2=>(match x,y with
  |.int i,.int j=>zaZ (-(2 ^ 62)<=i/\i<2 ^ 62/\-(2 ^ 62)<=j/\j<2 ^ 62) (Q ((List.range (j - i).toNat).map fun (k:Nat)=>.int (i+k),[]) S2)
  |_,_=>False)
 |.zip a b,δ,S,Q=>wE a δ S fun x S1=>wE b δ S1 fun y S2=>wOpt (zfT S2 x y) fun r=>Q r S2
 |.comp n js g it c e,δ,S,Q=>wL it δ S fun r S1=>zhq r.2 S1 (fun S2=>zbw g (evT cf c) (evE cf e) r.1 (csl n js δ) S2) fun ds S3=>zaZ (ds.length<=16777216) (Q (ds,[]) S3)
end
noncomputable def wS:CS->Ev->St->(Fl->St->Prop)->Prop
 |.nil,δ,S,Q=>Q (.nx δ) S
 |.asg i e r,δ,S,Q=>wE cf e δ S fun x S1=>wS r (δ.set i (some x)) S1 Q
 |.asgT g e r,δ,S,Q=>wE cf e δ S fun x S1=>wOpt (asgG g x δ) fun δ'=>wS r δ' S1 Q
 |.setF a f e r,δ,S,Q=>wE cf e δ S fun v S1=>wE cf a δ S1 fun x S2=>wOpt (zc3 S2 x f v) fun S3=>wS r δ S3 Q
 |.ifS c t u r,δ,S,Q=>wT cf c δ S fun k S1=>wIf k (wS t δ S1 fun f S2=>(match f with|.nx δ'=>wS r δ' S2 Q|.rt d=>Q (.rt d) S2)) (wS u δ S1 fun f S2=>(match f with|.nx δ'=>wS r δ' S2 Q|.rt d=>Q (.rt d) S2))
 |.forS g l b r,δ,S,Q=>wL cf l δ S fun q S1=>zhq q.2 S1 (fun S2=>zb3 g (exS cf b) q.1 δ S2) fun f S3=>(match f with|.nx δ'=>wS r δ' S3 Q|.rt d=>Q (.rt d) S3)
 |.ret e _,δ,S,Q=>wE cf e δ S fun x S1=>Q (.rt x) S1
 |.expr e r,δ,S,Q=>wE cf e δ S fun _ S1=>wS r δ S1 Q
end
section
variable {cf:CF}
mutual
theorem wE_W:∀(e:CE) {δ:Ev} {S:St} {Q:D->St->Prop},wE cf e δ S Q->W (evE cf e δ S) Q
 | .loc i, δ, S, Q, h => by
   simp only[wE] at h
   simp only[evE]
   cases e:(δ[i]?).join with
   |none=>rw[e] at h;exact h.elim
   |some d=>rw[e] at h;exact h
 |.con d,δ,S,Q,h=>by simp only[wE] at h;simp only[evE];exact h
 |.tst _,δ,S,Q,h=>by simp only[wE] at h
 | .bin op a b, δ, S, Q, h => by
   simp only[wE] at h
   simp only[evE,zaa]
   exact (wE_W a h).mono fun x S1 h1=>(wE_W b h1).mono fun y S2 h2=>znJ h2
 | .neg a, δ, S, Q, h => by
   simp only[wE] at h
   simp only[evE,zaa]
   refine (wE_W a h).mono fun x S1 h1=>?_
   cases x<;>first|exact h1|exact h1.elim
 | .nt a, δ, S, Q, h => by
   simp only[wE] at h
   simp only[evE,zaa]
   refine (wE_W a h).mono fun x S1 h1=>?_
   cases x<;>first|exact h1|exact h1.elim
 | .cmp op a b, δ, S, Q, h => by
   simp only[wE] at h
   simp only[evE,zaa,W_ok]
   exact (wE_W a h).mono fun x S1 h1=>(wE_W b h1).mono fun y S2 h2=>zgz (Q:=fun k S=>Q (.bl k) S) h2
 | .cmp2 op op' a b c, δ, S, Q, h => by
   simp only[wE] at h
   simp only[evE,zaa]
   refine (wE_W a h).mono fun x S1 h1=>(wE_W b h1).mono fun y S2 h2=>?_
   obtain⟨k,e,hk⟩:=zfV h2
   rw[e]
   unfold wIf at hk
   cases k with
   |false=>exact hk
   | true =>
     simp only[if_true,lift,W_ok,zaa] at hk⊢
     exact (wE_W c hk).mono fun z S4 h4=>zgz (Q:=fun k S=>Q (.bl k) S) h4
 | .and a b, δ, S, Q, h => by
   simp only[wE] at h
   simp only[evE,zaa]
   refine (wE_W a h).mono fun x S1 h1=>?_
   cases x with
   | bl k =>
     unfold wIf at h1
     cases k with
     |false=>exact h1
     |true=>exact wE_W b h1
   |_=>exact h1.elim
 | .or a b, δ, S, Q, h => by
   simp only[wE] at h
   simp only[evE,zaa]
   refine (wE_W a h).mono fun x S1 h1=>?_
   cases x with
   | bl k =>
     unfold wIf at h1
     cases k with
     |true=>exact h1
     |false=>exact wE_W b h1
   |_=>exact h1.elim
 | .ite c a b, δ, S, Q, h => by
   simp only[wE] at h
   simp only[evE,zaa]
   refine (wT_W c h).mono fun k S1 h1=>?_
   unfold wIf at h1
   cases k with
   |true=>exact wE_W a h1
   |false=>exact wE_W b h1
 | .tup es, δ, S, Q, h => by
   simp only[wE] at h
   simp only[evE,zaa]
   refine (zdV es h).mono fun ds S1 h1=>?_
   unfold zaZ at h1
   rw[if_pos h1.1];exact h1.2
 | .lst es, δ, S, Q, h => by
   simp only[wE] at h
   simp only[evE,zaa]
   exact (zdV es h).mono fun ds S1 h1=>zd5 h1
 |.dnew,δ,S,Q,h=>by simp only[wE] at h;simp only[evE];exact h
 |.dnewT,δ,S,Q,h=>by simp only[wE] at h;simp only[evE];exact h
 | .dget1 a b, δ, S, Q, h => by
   simp only[wE] at h
   simp only[evE,zaa]
   refine (wE_W a h).mono fun x S1 h1=>?_
   unfold zaZ at h1
   rw[if_pos h1.1,zaa]
   refine (wE_W b h1.2).mono fun y S2 h2=>?_
   unfold wOpt at h2
   cases e:dGet S2 x y with
   |none=>rw[e] at h2;exact h2.elim
   |some o=>rw[e] at h2;exact h2
 | .dget2 a b c, δ, S, Q, h => by
   simp only[wE] at h
   simp only[evE,zaa]
   refine (wE_W a h).mono fun x S1 h1=>?_
   unfold zaZ at h1
   rw[if_pos h1.1,zaa]
   refine (wE_W b h1.2).mono fun y S2 h2=>?_
   rw[zaa]
   refine (wE_W c h2).mono fun z S3 h3=>?_
   unfold wOpt at h3
   cases e:dGet S3 x y with
   |none=>rw[e] at h3;exact h3.elim
   |some o=>rw[e] at h3;exact h3
 | .dsetd a b c, δ, S, Q, h => by
   simp only[wE] at h
   simp only[evE,zaa]
   refine (wE_W a h).mono fun x S1 h1=>?_
   unfold zaZ at h1
   rw[if_pos h1.1,zaa]
   refine (wE_W b h1.2).mono fun y S2 h2=>?_
   rw[zaa]
   refine (wE_W c h2).mono fun z S3 h3=>?_
   unfold wOpt at h3
   cases e:zeS S3 x y z with
   |none=>rw[e] at h3;exact h3.elim
   |some o=>rw[e] at h3;exact h3
 | .dkeys a, δ, S, Q, h => by
   simp only[wE] at h
   simp only[evE,zaa]
   refine (wE_W a h).mono fun x S1 h1=>?_
   unfold wOpt at h1
   cases e:dKvs S1 x with
   |none=>rw[e] at h1;exact h1.elim
   |some kvs=>rw[e] at h1;exact zd5 h1
 | .intb a, δ, S, Q, h => by
   simp only[wE] at h
   simp only[evE,zaa]
   refine (wE_W a h).mono fun x S1 h1=>?_
   cases x<;>first|exact h1|exact h1.elim
 | .extv a b, δ, S, Q, h => by
   simp only[wE] at h
   simp only[evE,zaa]
   refine (wE_W a h).mono fun x S1 h1=>?_
   obtain⟨c,h1⟩:=zeo h1
   rw[if_pos c,zaa]
   refine (wE_W b h1).mono fun y S2 h2=>?_
   unfold wOpt at h2
   cases e:lsts S2 x y with
   |none=>rw[e] at h2;exact h2.elim
   |some o=>rw[e] at h2;exact zh5 h2
 | .fld a f, δ, S, Q, h => by
   simp only[wE] at h
   simp only[evE,zaa]
   refine (wE_W a h).mono fun x S1 h1=>?_
   unfold wOpt at h1
   cases e:(zbO S1 x).bind fun p=>p.2.lookup f with
   |none=>rw[e] at h1;exact h1.elim
   |some o=>rw[e] at h1;exact h1
 | .mk c f _ es, δ, S, Q, h => by
   simp only[wE] at h
   simp only[evE,zaa]
   refine (zdV es h).mono fun ds S1 h1=>?_
   unfold wOut at h1
   refine h1.mono fun d S2 h2=>?_
   unfold zaZ at h2
   rw[if_pos h2.1];exact h2.2
 | .meth m tb o es, δ, S, Q, h => by
   simp only[wE] at h
   simp only[evE,zaa]
   refine (wE_W o h).mono fun x S1 h1=>?_
   unfold wOpt at h1
   cases e:zbO S1 x with
   |none=>rw[e] at h1;exact h1.elim
   | some p =>
     rw[e] at h1
     dsimp only at h1
     cases e2:tb.lookup p.1 with
     |none=>rw[e2] at h1;exact h1.elim
     | some f =>
       rw[e2] at h1
       unfold zaZ at h1
       simp only[zdz,W_ok]
       rw[e2,zdz,W_ok,if_pos h1.1,zaa]
       refine (zdV es h1.2).mono fun ds S2 h2=>?_
       unfold wOut at h2;exact h2
 | .isc cs _ a, δ, S, Q, h => by
   simp only[wE] at h
   simp only[evE,zaa]
   refine (wE_W a h).mono fun x S1 h1=>?_
   unfold wOpt at h1
   cases e:zbO S1 x with
   |none=>rw[e] at h1;exact h1.elim
   |some p=>rw[e] at h1;exact h1
 | .callC f _ _ es, δ, S, Q, h => by
   simp only[wE] at h
   simp only[evE,zaa]
   refine (zdV es h).mono fun ds S1 h1=>?_
   unfold wOut at h1;exact h1
 | .clr a, δ, S, Q, h => by
   simp only[wE] at h
   simp only[evE,zaa]
   refine (wE_W a h).mono fun x S1 h1=>?_
   obtain⟨h2,h3⟩:=zeo h1
   rw[if_pos h2]
   cases x with
   |ref l=>exact zh5 h3
   |_=>exact h3.elim
 | .ix a b, δ, S, Q, h => by
   simp only[wE] at h
   simp only[evE,zaa]
   refine (wE_W a h).mono fun x S1 h1=>(wE_W b h1).mono fun y S2 h2=>?_
   obtain⟨ds,e,h3⟩:=zh6 h2
   rw[e]
   cases y with
   | int i =>
     unfold wOpt at h3
     simp only at h3⊢
     cases e2:atI ds i with
     |none=>rw[e2] at h3;exact h3.elim
     |some d=>rw[e2] at h3;exact h3
   |_=>exact h3.elim
 | .sl a ml mh lo hi, δ, S, Q, h => by
   simp only[wE] at h
   simp only[evE,zaa]
   refine (wE_W a h).mono fun x S1 h1=>(wE_W lo h1).mono fun y S2 h2=>(wE_W hi h2).mono fun z S3 h3=>?_
   cases ey:zca ml y with
   |none=>rw[ey] at h3;exact h3.elim
   | some l =>
     cases ez:zca mh z with
     |none=>rw[ey,ez] at h3;exact h3.elim
     | some u =>
       rw[ey,ez] at h3
       cases x with
       |tup ds=>exact h3
       |fix ds=>exact zd5 h3
       | ref p =>
         unfold wGet wOpt at h3
         simp only at h3⊢
         cases e:S3.get p with
         |none=>rw[e] at h3;exact h3.elim
         |some o=>rw[e] at h3;cases o<;>first|exact zd5 h3|exact h3.elim
       |_=>exact h3.elim
 | .call f j es, δ, S, Q, h => by
   simp only[wE] at h
   simp only[evE,zaa]
   refine (zdV es h).mono fun ds S1 h1=>?_
   unfold wOut at h1;exact h1
 | .bi b es, δ, S, Q, h => by
   simp only[wE] at h
   simp only[evE,zaa]
   exact (zdV es h).mono fun ds S1 h1=>zpV h1
 | .mt m o es, δ, S, Q, h => by
   simp only[wE] at h
   simp only[evE,zaa]
   refine (wE_W o h).mono fun x S1 h1=>?_
   obtain⟨c,h2⟩:=zeo h1
   rw[if_pos c,zaa]
   exact (zdV es h2).mono fun ds S2 h3=>zpU h3
 | .mkL l, δ, S, Q, h => by
   simp only[wE] at h
   simp only[evE,zaa]
   exact (wL_W l h).mono fun ds S1 h1=>zd5 h1
 | .mkT l, δ, S, Q, h => by
   simp only[wE] at h
   simp only[evE,zaa]
   refine (wL_W l h).mono fun r S1 h1=>?_
   unfold zaZ at h1
   rw[if_pos h1.1];exact h1.2
 | .all l, δ, S, Q, h => by
   simp only[wE] at h
   simp only[evE,zaa]
   refine (wL_W l h).mono fun r S1 h1=>?_
   unfold wOpt at h1
   cases e:allD r.1 with
   |none=>rw[e] at h1;exact h1.elim
   |some d=>rw[e] at h1;exact h1
 | .ext a l, δ, S, Q, h => by
   simp only[wE] at h
   simp only[evE,zaa]
   refine (wE_W a h).mono fun x S1 h1=>?_
   obtain⟨c,h1⟩:=zeo h1
   rw[if_pos c,zaa]
   refine (wL_W l h1).mono fun r S2 h2=>?_
   cases x with
   | ref p =>
     unfold wGet wOpt at h2
     simp only at h2⊢
     cases e:S2.get p with
     |none=>rw[e] at h2;exact h2.elim
     |some o=>rw[e] at h2;cases o<;>first|exact zh5 h2|exact h2.elim
   |_=>exact h2.elim
theorem zdV:∀(es:CEs) {δ:Ev} {S:St} {Q:List D->St->Prop},wEs cf es δ S Q->W (evEs cf es δ S) Q
 |.nil,δ,S,Q,h=>by simp only[wEs] at h;simp only[evEs];exact h
 | .cons e r, δ, S, Q, h => by
   simp only[wEs] at h
   simp only[evEs,zaa]
   exact (wE_W e h).mono fun d S1 h1=>(zdV r h1).mono fun ds S2 h2=>h2
theorem wT_W:∀(e:CE) {δ:Ev} {S:St} {Q:Bool->St->Prop},wT cf e δ S Q->W (evT cf e δ S) Q
 | .cmp op a b, δ, S, Q, h => by
   simp only[wT] at h
   simp only[evT,zaa]
   exact (wE_W a h).mono fun x S1 h1=>(wE_W b h1).mono fun y S2 h2=>zgz h2
 | .cmp2 op op' a b c, δ, S, Q, h => by
   simp only[wT] at h
   simp only[evT,zaa]
   refine (wE_W a h).mono fun x S1 h1=>(wE_W b h1).mono fun y S2 h2=>?_
   obtain⟨k,e,hk⟩:=zfV h2
   rw[e]
   unfold wIf at hk
   cases k with
   |false=>exact hk
   | true =>
     simp only[if_true,lift,W_ok,zaa] at hk⊢
     exact (wE_W c hk).mono fun z S4 h4=>zgz h4
 | .nt a, δ, S, Q, h => by
   simp only[wT] at h
   simp only[evT,zaa]
   exact (wT_W a h).mono fun k S1 h1=>h1
 | .and a b, δ, S, Q, h => by
   simp only[wT] at h
   simp only[evT,zaa]
   refine (wT_W a h).mono fun k S1 h1=>?_
   unfold wIf at h1
   cases k with
   |false=>exact h1
   |true=>exact wT_W b h1
 | .or a b, δ, S, Q, h => by
   simp only[wT] at h
   simp only[evT,zaa]
   refine (wT_W a h).mono fun k S1 h1=>?_
   unfold wIf at h1
   cases k with
   |true=>exact h1
   |false=>exact wT_W b h1
 | .tst e, δ, S, Q, h => by
   simp only[wT] at h
   simp only[evT,zaa]
   exact (wE_W e h).mono fun x S1 h1=>znI h1
 |.loc i,δ,S,Q,h=>by simp only[wT] at h
 |.con d,δ,S,Q,h=>by simp only[wT] at h
 |.bin op a b,δ,S,Q,h=>by simp only[wT] at h
 |.neg a,δ,S,Q,h=>by simp only[wT] at h
 |.ite c a b,δ,S,Q,h=>by simp only[wT] at h
 |.tup es,δ,S,Q,h=>by simp only[wT] at h
 |.lst es,δ,S,Q,h=>by simp only[wT] at h
 |.dnew,δ,S,Q,h=>by simp only[wT] at h
 |.dnewT,δ,S,Q,h=>by simp only[wT] at h
 |.dget1 a b,δ,S,Q,h=>by simp only[wT] at h
 |.dget2 a b c,δ,S,Q,h=>by simp only[wT] at h
 |.dsetd a b c,δ,S,Q,h=>by simp only[wT] at h
 |.dkeys a,δ,S,Q,h=>by simp only[wT] at h
 |.intb a,δ,S,Q,h=>by simp only[wT] at h
 |.extv a b,δ,S,Q,h=>by simp only[wT] at h
 |.fld a f,δ,S,Q,h=>by simp only[wT] at h
 |.mk c f x es,δ,S,Q,h=>by simp only[wT] at h
 |.meth m tb o es,δ,S,Q,h=>by simp only[wT] at h
 |.isc cs x a,δ,S,Q,h=>by simp only[wT] at h
 |.callC f x m es,δ,S,Q,h=>by simp only[wT] at h
 |.clr a,δ,S,Q,h=>by simp only[wT] at h
 |.ix a b,δ,S,Q,h=>by simp only[wT] at h
 |.sl a ml mh lo hi,δ,S,Q,h=>by simp only[wT] at h
 |.call f j es,δ,S,Q,h=>by simp only[wT] at h
 |.bi b es,δ,S,Q,h=>by simp only[wT] at h
 |.mt m o es,δ,S,Q,h=>by simp only[wT] at h
 |.mkL l,δ,S,Q,h=>by simp only[wT] at h
 |.mkT l,δ,S,Q,h=>by simp only[wT] at h
 |.all l,δ,S,Q,h=>by simp only[wT] at h
 |.ext a l,δ,S,Q,h=>by simp only[wT] at h
theorem wL_W:∀(l:CL) {δ:Ev} {S:St} {Q:List D × List Nat->St->Prop},wL cf l δ S Q->W (evL cf l δ S) Q
 | .val e, δ, S, Q, h => by
   simp only[wL] at h
   simp only[evL,zaa]
   refine (wE_W e h).mono fun x S1 h1=>?_
   obtain⟨ds,e,h2⟩:=zh6 h1
   rw[e];exact h2
 | .callL f j es, δ, S, Q, h => by
   simp only[wL] at h
   simp only[evL,zaa]
   refine (zdV es h).mono fun ds S1 h1=>?_
   unfold wOut at h1;exact h1
 | .rng1 a, δ, S, Q, h => by
   simp only[wL] at h
   simp only[evL,zaa]
   refine (wE_W a h).mono fun x S1 h1=>?_
   cases x with
   | int j =>
     unfold zaZ at h1
     simp only
     rw[if_pos h1.1];exact h1.2
   |_=>exact h1.elim
 | .rng2 a b, δ, S, Q, h => by
   simp only[wL] at h
   simp only[evL,zaa]
   refine (wE_W a h).mono fun x S1 h1=>(wE_W b h1).mono fun y S2 h2=>?_
   cases x with
   | int i =>
     cases y with
     | int j =>
       unfold zaZ at h2
       simp only
       rw[if_pos h2.1];exact h2.2
     |_=>exact h2.elim
   |_=>exact h2.elim
 | .zip a b, δ, S, Q, h => by
   simp only[wL] at h
   simp only[evL,zaa]
   refine (wE_W a h).mono fun x S1 h1=>(wE_W b h1).mono fun y S2 h2=>?_
   unfold wOpt at h2
   cases e:zfT S2 x y with
   |none=>rw[e] at h2;exact h2.elim
   |some r=>rw[e] at h2;exact h2
 | .comp n js g it c e, δ, S, Q, h => by
   simp only[wL] at h
   simp only[evL,zaa]
   refine (wL_W it h).mono fun r S1 h1=>(zh8 h1).mono fun ds S3 h3=>?_
   unfold zaZ at h3
   rw[if_pos h3.1];exact h3.2
end
theorem wS_W:∀(s:CS) {δ:Ev} {S:St} {Q:Fl->St->Prop},wS cf s δ S Q->W (exS cf s δ S) Q
 |.nil,δ,S,Q,h=>by simp only[wS] at h;simp only[exS];exact h
 | .asg i e r, δ, S, Q, h => by
   simp only[wS] at h
   simp only[exS,zaa]
   exact (wE_W e h).mono fun x S1 h1=>wS_W r h1
 | .asgT g e r, δ, S, Q, h => by
   simp only[wS] at h
   simp only[exS,zaa]
   refine (wE_W e h).mono fun x S1 h1=>?_
   unfold wOpt at h1
   cases e:asgG g x δ with
   |none=>rw[e] at h1;exact h1.elim
   |some d=>rw[e] at h1;exact wS_W r h1
 | .setF a f e r, δ, S, Q, h => by
   simp only[wS] at h
   simp only[exS,zaa]
   refine (wE_W e h).mono fun v S1 h1=>(wE_W a h1).mono fun x S2 h2=>?_
   unfold wOpt at h2
   cases e:zc3 S2 x f v with
   |none=>rw[e] at h2;exact h2.elim
   |some S3=>rw[e] at h2;exact wS_W r h2
 | .ifS c t u r, δ, S, Q, h => by
   simp only[wS] at h
   simp only[exS,zaa]
   refine (wT_W c h).mono fun k S1 h1=>?_
   unfold wIf at h1
   have nx:∀(f:Fl) (S2:St),(match f with|.nx δ'=>wS cf r δ' S2 Q|.rt d=>Q (.rt d) S2)->W (match f with|.nx δ'=>exS cf r δ' S2|.rt d=>.ok (.rt d) S2) Q:=fun f S2 q=>by
    cases f with
    |nx δ'=>exact wS_W r q
    |rt d=>exact q
   cases k with
   |true=>exact (wS_W t h1).mono nx
   |false=>exact (wS_W u h1).mono nx
 | .forS g l b r, δ, S, Q, h => by
   simp only[wS] at h
   simp only[exS,zaa]
   refine (wL_W l h).mono fun q S1 h1=>(zh8 h1).mono fun f S2 q=>?_
   cases f with
   |nx δ'=>exact wS_W r q
   |rt d=>exact q
 | .ret e r, δ, S, Q, h => by
   simp only[wS] at h
   simp only[exS,zaa]
   exact (wE_W e h).mono fun x S1 h1=>h1
 | .expr e r, δ, S, Q, h => by
   simp only[wS] at h
   simp only[exS,zaa]
   exact (wE_W e h).mono fun x S1 h1=>wS_W r h1
@[irreducible] noncomputable def wFin (S:St)(r:Fl)(T:St)(Q:D->St->Prop):Prop:=W (fin S r T) Q
theorem zh1 {P:List Fn}{F:Fn}{f n:Nat}{ds:List D}{S:St}{Q:D->St->Prop}(h:P[f]?=some F)(hl:ds.length=F.np)(w:wS (callF P n) F.body (zbi F ds) S.enter fun r T=>wFin S r T Q)(hp:F.prim=none:=by rfl) :
  W (app (callF P (n+1)) f ds S) Q:=by
 rw[zlJ h hl hp,zaa]
 refine (wS_W _ w).mono fun r T q=>?_
 unfold wFin at q;exact q
theorem zby {P:List Fn}{F:Fn}{f n:Nat}{ds:List D}{S S':St}{d:D}(h:P[f]?=some F)(hl:ds.length=F.np)(w:wS (callF P n) F.body (zbi F ds) S.enter fun r T=>wFin S r T fun a T'=>a=d/\T'=S')(hp:F.prim=none:=by rfl) :
 app (callF P (n+1)) f ds S=.ok d S':=W.eq (zh1 h hl w hp)
theorem zao {S T:St}{d:D}{Q:D->St->Prop}(h:flat S.len d=true)(q:Q d S):wFin S (.rt d) T Q:=by
 unfold wFin;rw[zlB,zhK S d T h];exact q
theorem zeY {S T:St}{l:Nat}{ds:List D}{Q:D->St->Prop}(hl:S.len<=l)(hg:T.get l=some (.lst ds))(h:flats S.len ds=true)(q:Q (.ref S.len) (S.push (.lst ds))):wFin S (.rt (.ref l)) T Q:=by
 have h0:flat S.len (.ref l)=false:=by simp[flat];omega
 unfold wFin
 rw[zlB]
 unfold zcX
 simp only[h0,hg,h,if_true,Bool.false_eq_true,if_false]
 exact q
theorem zbz {S:St}{nw:List MO}{lk:List Nat}{i:Nat}{ds:List D}{Q:D->St->Prop}(hg:nw[i]?=some (.lst ds))(h:flats S.len ds=true)(q:Q (.ref S.len) (S.push (.lst ds))) :
  wFin S (.rt (.ref ((S.frz++S.new).length+i))) (St.mk (S.frz++S.new) nw lk) Q:=
 zeY (by rw[zdB];omega) ((zbP _ nw lk i).trans hg) h q
end
end R
end
section
namespace R
open PySem (Str PyData Operator CmpOp)
structure Frm (S S':St):Prop where
 frz:S'.frz=S.frz
 lk:S'.lk=S.lk
 len:S.new.length<=S'.new.length
 same:∀l∈S.lk,l<S.len->S'.get l=S.get l
theorem Frm.refl (S:St):Frm S S:=⟨rfl,rfl,Nat.le_refl _,fun _ _ _=>rfl⟩
theorem Frm.lens {S S':St}(h:Frm S S'):S.len<=S'.len:=by unfold St.len;rw[h.frz];have:=h.len;omega
theorem Frm.trans {S S1 S2:St}(a:Frm S S1)(b:Frm S1 S2):Frm S S2:=
 ⟨b.frz.trans a.frz,b.lk.trans a.lk,Nat.le_trans a.len b.len,fun l hl h=>(b.same l (by rw[a.lk];exact hl) (Nat.lt_of_lt_of_le h a.lens)).trans (a.same l hl h)⟩
theorem Frm.push (S:St)(o:MO):Frm S (S.push o):=by
 refine⟨rfl,rfl,by simp[St.push],fun l _ h=>?_⟩
 unfold St.len at h
 unfold St.get St.push
 simp only
 split
 · rfl
 · rw[List.getElem?_append_left (by omega)]
theorem Frm.put {S S':St}{l:Nat}{o:MO}(h:S.put l o=some S'):Frm S S':=by
 unfold St.put at h
 split at h
 · cases h
 · split at h
   · cases h
   · rename_i h1 h2
     injection h with h
     subst h
     refine⟨rfl,rfl,by simp,fun m hm hl=>?_⟩
     have hne:m≠l:=fun e=>by subst e;exact h2 (by simpa using hm)
     unfold St.get
     simp only
     split
     · rfl
     · rw[List.getElem?_set_ne (by omega)]
noncomputable abbrev WF {α:Type}(S:St)(o:Out α)(Q:α->St->Prop):Prop:=W o fun a S'=>Q a S'/\Frm S S'
theorem WF.bind {α β:Type}{S:St}{o:Out α}{f:α->St->Out β}{Q:β->St->Prop}(h:WF S o fun a S1=>W (f a S1) Q)(hf:∀a S1,W (f a S1) Q->WF S1 (f a S1) Q):WF S (o.bind f) Q:=by
 rw[WF,zaa]
 exact h.mono fun a S1 ⟨q,f1⟩=>(hf a S1 q).mono fun b S2 ⟨q2,f2⟩=>⟨q2,f1.trans f2⟩
theorem zhL {S:St}{ds:List D}{Q:D->St->Prop}(h:W (lay S ds) Q):WF S (lay S ds) Q:=by
 unfold lay at h⊢
 split
 · rename_i c;rw[if_pos c] at h;exact⟨h,Frm.push _ _⟩
 · rename_i c;rw[if_neg c] at h;exact h.elim
theorem wr_F {S:St}{l:Nat}{ds:List D}{d:D}{Q:D->St->Prop}(h:W (wr S l ds d) Q):WF S (wr S l ds d) Q:=by
 unfold wr at h⊢
 split
 · rename_i c
   rw[if_pos c] at h
   cases e:S.put l (.lst ds) with
   |none=>rw[e] at h;exact h.elim
   |some S'=>rw[e] at h;exact⟨h,Frm.put e⟩
 · rename_i c;rw[if_neg c] at h;exact h.elim
theorem zbb {α:Type}{S:St}{o:Option α}{Q:α->St->Prop}(h:W (lift S o) Q):WF S (lift S o) Q:=by
 cases o with
 |none=>exact h.elim
 |some a=>exact⟨h,Frm.refl S⟩
theorem zpC {S:St}{op:Operator}{x y:D}{Q:D->St->Prop}(h:W (binD S op x y) Q):WF S (binD S op x y) Q:=by
 unfold binD at h⊢
 split
 · unfold binI at h⊢
   dsimp only at h
   cases op<;>dsimp only at h⊢<;> first
    |exact⟨h,Frm.refl S⟩
    |exact h.elim
    | (split at h
       · rename_i c;rw[if_pos c];exact⟨h,Frm.refl S⟩
       · exact h.elim)
 · dsimp only at h
   cases op<;>dsimp only at h⊢<;> first
    |exact False.elim h
    | (split at h
       · rename_i c;rw[if_pos c];exact⟨h,Frm.refl S⟩
       · exact False.elim h)
 · dsimp only at h
   split at h
   · exact zhL h
   · exact False.elim h
 · rename_i h1 h2 h3
   split at h
   · exact (h1 _ _ rfl rfl).elim
   · exact (h2 _ _ rfl rfl).elim
   · exact (h3 _ _ rfl rfl).elim
   · exact False.elim h
theorem bi_F {S:St}{b:Bi}{ds:List D}{Q:D->St->Prop}(h:W (bi S b ds) Q):WF S (bi S b ds) Q:=by
 unfold bi at h⊢
 split
 · rename_i x
   dsimp only at h
   cases x with
   |tup ds=>exact⟨h,Frm.refl S⟩
   |fix ds=>exact⟨h,Frm.refl S⟩
   | ref l =>
     dsimp only at h⊢
     cases e:S.get l with
     |none=>rw[e] at h;exact False.elim h
     |some o=>rw[e] at h;cases o<;>first|exact⟨h,Frm.refl S⟩|exact False.elim h
   |_=>exact False.elim h
 · exact⟨h,Frm.refl S⟩
 · exact⟨h,Frm.refl S⟩
 · exact⟨h,Frm.refl S⟩
 · dsimp only at h
   split at h
   · exact⟨h,Frm.refl S⟩
   · exact False.elim h
 · exact False.elim (by simpa using h)
theorem mt_F {S:St}{m:Mt}{x:D}{ds:List D}{Q:D->St->Prop}(h:W (mt S m x ds) Q):WF S (mt S m x ds) Q:=by
 unfold mt at h⊢
 split
 · dsimp only at h
   split at h
   · exact wr_F h
   · exact False.elim h
 · dsimp only at h
   split at h
   · split at h
     · rename_i c
       rw[if_pos c]
       split at h
       · exact wr_F h
       · exact False.elim h
     · exact False.elim h
   · exact False.elim h
 · dsimp only at h
   split at h
   · split at h
     · exact⟨h,Frm.refl _⟩
     · exact False.elim h
   · exact False.elim h
 · exact False.elim (by simpa using h)
theorem Frm.keep (S T:St):Frm S ⟨S.frz,S.new++T.new,S.lk⟩:=by
 refine⟨rfl,rfl,by simp,fun l _ h=>?_⟩
 unfold St.len at h
 unfold St.get
 simp only
 split
 · rfl
 · rw[List.getElem?_append_left (by omega)]
theorem znD {α β:Type}{S:St}{o:Option α}{f:α->St->Out β}{Q:β->St->Prop}(h:W (lift S o) fun a T=>W (f a T) Q):∃a,o=some a/\W (f a S) Q:=by
 cases o with
 |none=>exact h.elim
 |some a=>exact⟨a,rfl,h⟩
theorem zjV {S S':St}{x:D}{f:Str}{v:D}(h:zc3 S x f v=some S'):Frm S S':=by
 unfold zc3 at h
 split at h
 · split at h
   · split at h
     · exact Frm.put h
     · cases h
   · cases h
 · cases h
theorem zpy {S S':St}{x y v:D}(h:dPut S x y v=some S'):Frm S S':=by
 unfold dPut at h
 split at h
 · split at h
   · cases e:zcY y with
     |none=>rw[e] at h;cases h
     | some k =>
       rw[e] at h
       dsimp only[Option.bind_some] at h
       split at h
       · exact Frm.put h
       · cases h
   · cases h
 · cases h
theorem znn {S:St}{x y v:D}{o:D × St}(h:zeS S x y v=some o):Frm S o.2:=by
 unfold zeS at h
 split at h
 · cases h;exact Frm.refl _
 · cases e:dPut S x y v with
   |none=>rw[e] at h;cases h
   |some T=>rw[e] at h;cases h;exact zpy e
 · cases h
theorem zm0 {S T:St}{d:D}{Q:D->St->Prop}(h:W (zcX S d T) Q):WF S (zcX S d T) Q:=by
 unfold zcX at h⊢
 split
 · rename_i c;rw[if_pos c] at h;exact⟨h,Frm.refl S⟩
 · rename_i c
   rw[if_neg c] at h
   dsimp only at h⊢
   split at h
   · split at h
     · split at h
       · rename_i c;rw[if_pos c];exact⟨h,Frm.push _ _⟩
       · rename_i c;rw[if_neg c];exact⟨h,Frm.keep _ _⟩
     · split at h
       · rename_i c;rw[if_pos c];exact⟨h,Frm.push _ _⟩
       · rename_i c;rw[if_neg c];exact⟨h,Frm.keep _ _⟩
     · split at h
       · rename_i c;rw[if_pos c];exact⟨h,Frm.push _ _⟩
       · rename_i c;rw[if_neg c];exact⟨h,Frm.keep _ _⟩
     · exact⟨h,Frm.keep _ _⟩
   · exact⟨h,Frm.keep _ _⟩
theorem zqA {cf:CF}{f:Nat}{ds:List D}{S:St}{Q:D->St->Prop}(h:W (app cf f ds S) Q):WF S (app cf f ds S) Q:=by
 unfold app at h⊢
 cases e:cf f ds S.enter with
 |ok d T=>rw[e] at h;exact zm0 h
 |err d T=>rw[e] at h;exact h.elim
 |bad=>rw[e] at h;exact h.elim
theorem zpK {cf:CF}{f:Nat}{ds:List D}{S:St}{Q:List D->St->Prop}(h:W (appL cf f ds S) Q):WF S (appL cf f ds S) Q:=by
 unfold appL at h⊢
 cases e:cf f ds S.enter with
 | ok d T =>
   rw[e] at h
   simp only[zbR] at h⊢
   unfold zdC at h⊢
   cases d with
   | ref l =>
     dsimp only at h⊢
     split at h
     · exact False.elim h
     · rename_i c
       rw[if_neg c]
       cases e:T.get l with
       |none=>rw[e] at h;exact False.elim h
       | some o =>
         rw[e] at h
         cases o with
         | lst ds =>
           dsimp only at h⊢
           split at h
           · rename_i c;rw[if_pos c];exact⟨h,Frm.refl S⟩
           · exact False.elim h
         |_=>exact False.elim h
   |_=>exact False.elim h
 |err d T=>rw[e] at h;exact h.elim
 |bad=>rw[e] at h;exact h.elim
theorem Frm.unlock {S T:St}{ls:List Nat}(h:Frm {S with lk:=ls++S.lk} T):Frm S {T with lk:=S.lk}:=
 ⟨h.frz,rfl,h.len,fun l hl hn=>h.same l (List.mem_append_right _ hl) hn⟩
theorem zg0 {α:Type}{ls:List Nat}{S:St}{f:St->Out α}{Q:α->St->Prop}(h:W (zbK ls S f) Q)(hf:∀Q',W (f {S with lk:=ls++S.lk}) Q'->WF {S with lk:=ls++S.lk} (f {S with lk:=ls++S.lk}) Q'):WF S (zbK ls S f) Q:=by
 unfold zbK at h⊢
 rw[zaa] at h
 rw[WF,zaa]
 exact (hf _ h).mono fun a T ⟨q,fr⟩=>⟨q,fr.unlock⟩
theorem zer {g:List Nat}{c:Ev->St->Out Bool}{e:Ev->St->Out D}(hc:∀δ S Q,W (c δ S) Q->WF S (c δ S) Q)(he:∀δ S Q,W (e δ S) Q->WF S (e δ S) Q) :
  ∀(xs:List D) (δ:Ev) (S:St) (Q:List D->St->Prop),W (zbw g c e xs δ S) Q->WF S (zbw g c e xs δ S) Q
 | [],δ,S,Q,h=>⟨h,Frm.refl S⟩
 | x :: xs, δ, S, Q, h => by
   simp only[zbw] at h⊢
   cases ea:asgG g x δ with
   |none=>rw[ea] at h;exact h.elim
   | some δ' =>
     rw[ea] at h
     dsimp only at h⊢
     rw[zaa] at h
     refine WF.bind (hc _ _ _ h) fun b S1 h1=>?_
     cases b with
     | false =>
       simp only[Bool.false_eq_true,if_false] at h1⊢
       exact zer hc he xs δ' S1 Q h1
     | true =>
       simp only[if_true] at h1⊢
       rw[zaa] at h1
       refine WF.bind (he _ _ _ h1) fun d S2 h2=>?_
       rw[zaa] at h2
       exact WF.bind (zer hc he xs δ' S2 _ h2) fun ds S3 h3=>⟨h3,Frm.refl _⟩
theorem zgB {g:List Nat}{b:Ev->St->Out Fl}(hb:∀δ S Q,W (b δ S) Q->WF S (b δ S) Q) :
  ∀(xs:List D) (δ:Ev) (S:St) (Q:Fl->St->Prop),W (zb3 g b xs δ S) Q->WF S (zb3 g b xs δ S) Q
 | [],δ,S,Q,h=>⟨h,Frm.refl S⟩
 | x :: xs, δ, S, Q, h => by
   simp only[zb3] at h⊢
   cases ea:asgG g x δ with
   |none=>rw[ea] at h;exact h.elim
   | some δ' =>
     rw[ea] at h
     dsimp only at h⊢
     rw[zaa] at h
     refine WF.bind (hb _ _ _ h) fun f S1 h1=>?_
     cases f with
     |nx δ2=>exact zgB hb xs δ2 S1 Q h1
     |rt d=>exact⟨h1,Frm.refl _⟩
noncomputable def CFok (cf:CF):Prop:=∀f ds S d T,cf f ds S=.ok d T->Frm S T
theorem appW_F {cf:CF}(hcf:CFok cf){f:Nat}{ds:List D}{S:St}{Q:D->St->Prop}(h:W (appW cf f ds S) Q):WF S (appW cf f ds S) Q:=by
 unfold appW at h⊢
 cases e:cf f ds S with
 |ok d T=>rw[e] at h;exact⟨h,hcf f ds S d T e⟩
 |err d T=>rw[e] at h;exact h.elim
 |bad=>rw[e] at h;exact h.elim
section
variable {cf:CF} (hcf:CFok cf)
include hcf
mutual
theorem zau:∀(e:CE) (δ:Ev) (S:St) (Q:D->St->Prop),W (evE cf e δ S) Q->WF S (evE cf e δ S) Q
 |.loc i,δ,S,Q,h=>by simp only[evE] at h⊢;exact zbb h
 |.con d,δ,S,Q,h=>by simp only[evE] at h⊢;exact⟨h,Frm.refl S⟩
 |.tst _,δ,S,Q,h=>by simp only[evE] at h;exact h.elim
 | .bin op a b, δ, S, Q, h => by
   simp only[evE] at h⊢
   rw[zaa] at h
   refine WF.bind (zau a δ S _ h) fun x S1 h1=>?_
   rw[zaa] at h1
   exact WF.bind (zau b δ S1 _ h1) fun y S2 h2=>zpC h2
 | .neg a, δ, S, Q, h => by
   simp only[evE] at h⊢
   rw[zaa] at h
   refine WF.bind (zau a δ S _ h) fun x S1 h1=>?_
   cases x<;>first|exact⟨h1,Frm.refl _⟩|exact h1.elim
 | .nt a, δ, S, Q, h => by
   simp only[evE] at h⊢
   rw[zaa] at h
   refine WF.bind (zau a δ S _ h) fun x S1 h1=>?_
   cases x<;>first|exact⟨h1,Frm.refl _⟩|exact h1.elim
 | .cmp op a b, δ, S, Q, h => by
   simp only[evE] at h⊢
   rw[zaa] at h
   refine WF.bind (zau a δ S _ h) fun x S1 h1=>?_
   rw[zaa] at h1
   refine WF.bind (zau b δ S1 _ h1) fun y S2 h2=>?_
   rw[zaa] at h2
   exact WF.bind (zbb h2) fun k S3 h3=>⟨h3,Frm.refl _⟩
 | .cmp2 op op' a b c, δ, S, Q, h => by
   simp only[evE] at h⊢
   rw[zaa] at h
   refine WF.bind (zau a δ S _ h) fun x S1 h1=>?_
   rw[zaa] at h1
   refine WF.bind (zau b δ S1 _ h1) fun y S2 h2=>?_
   rw[zaa] at h2
   refine WF.bind (zbb h2) fun k S3 h3=>?_
   cases k with
   |false=>exact⟨h3,Frm.refl _⟩
   | true =>
     simp only[if_true] at h3⊢
     rw[zaa] at h3
     refine WF.bind (zau c δ S3 _ h3) fun z S4 h4=>?_
     rw[zaa] at h4
     exact WF.bind (zbb h4) fun k S3 h3=>⟨h3,Frm.refl _⟩
 | .and a b, δ, S, Q, h => by
   simp only[evE] at h⊢
   rw[zaa] at h
   refine WF.bind (zau a δ S _ h) fun x S1 h1=>?_
   cases x with
   | bl k =>
     cases k with
     |false=>exact⟨h1,Frm.refl _⟩
     |true=>exact zau b δ S1 Q h1
   |_=>exact h1.elim
 | .or a b, δ, S, Q, h => by
   simp only[evE] at h⊢
   rw[zaa] at h
   refine WF.bind (zau a δ S _ h) fun x S1 h1=>?_
   cases x with
   | bl k =>
     cases k with
     |true=>exact⟨h1,Frm.refl _⟩
     |false=>exact zau b δ S1 Q h1
   |_=>exact h1.elim
 | .ite c a b, δ, S, Q, h => by
   simp only[evE] at h⊢
   rw[zaa] at h
   refine WF.bind (zeR c δ S _ h) fun k S1 h1=>?_
   cases k with
   |true=>exact zau a δ S1 Q h1
   |false=>exact zau b δ S1 Q h1
 | .tup es, δ, S, Q, h => by
   simp only[evE] at h⊢
   rw[zaa] at h
   refine WF.bind (zct es δ S _ h) fun ds S1 h1=>?_
   split at h1
   · rename_i c;rw[if_pos c];exact⟨h1,Frm.refl _⟩
   · exact h1.elim
 | .lst es, δ, S, Q, h => by
   simp only[evE] at h⊢
   rw[zaa] at h
   exact WF.bind (zct es δ S _ h) fun ds S1 h1=>zhL h1
 |.dnew,δ,S,Q,h=>by simp only[evE] at h⊢;exact⟨h,Frm.push _ _⟩
 |.dnewT,δ,S,Q,h=>by simp only[evE] at h⊢;exact⟨h,Frm.push _ _⟩
 | .dget1 a b, δ, S, Q, h => by
   simp only[evE] at h⊢
   rw[zaa] at h
   refine WF.bind (zau a δ S _ h) fun x S1 h1=>?_
   split at h1
   · rename_i c
     rw[if_pos c]
     rw[zaa] at h1
     refine WF.bind (zau b δ S1 _ h1) fun y S2 h2=>?_
     rw[zaa] at h2
     exact WF.bind (zbb h2) fun k S3 h3=>⟨h3,Frm.refl _⟩
   · exact h1.elim
 | .dget2 a b c, δ, S, Q, h => by
   simp only[evE] at h⊢
   rw[zaa] at h
   refine WF.bind (zau a δ S _ h) fun x S1 h1=>?_
   split at h1
   · rename_i c
     rw[if_pos c]
     rw[zaa] at h1
     refine WF.bind (zau b δ S1 _ h1) fun y S2 h2=>?_
     rw[zaa] at h2
     refine WF.bind (zau _ δ S2 _ h2) fun z S3 h3=>?_
     rw[zaa] at h3
     exact WF.bind (zbb h3) fun k S3 h3=>⟨h3,Frm.refl _⟩
   · exact h1.elim
 | .dsetd a b c, δ, S, Q, h => by
   simp only[evE] at h⊢
   rw[zaa] at h
   refine WF.bind (zau a δ S _ h) fun x S1 h1=>?_
   split at h1
   · rename_i c
     rw[if_pos c]
     rw[zaa] at h1
     refine WF.bind (zau b δ S1 _ h1) fun y S2 h2=>?_
     rw[zaa] at h2
     refine WF.bind (zau _ δ S2 _ h2) fun z S3 h3=>?_
     rw[zaa] at h3
     obtain⟨o,e,h4⟩:=znD h3
     rw[e]
     exact⟨h4,znn e⟩
   · exact h1.elim
 | .dkeys a, δ, S, Q, h => by
   simp only[evE] at h⊢
   rw[zaa] at h
   refine WF.bind (zau a δ S _ h) fun x S1 h1=>?_
   rw[zaa] at h1
   exact WF.bind (zbb h1) fun k S2 h2=>zhL h2
 | .intb a, δ, S, Q, h => by
   simp only[evE] at h⊢
   rw[zaa] at h
   refine WF.bind (zau a δ S _ h) fun x S1 h1=>?_
   cases x<;>first|exact⟨h1,Frm.refl _⟩|exact h1.elim
 | .extv a b, δ, S, Q, h => by
   simp only[evE] at h⊢
   rw[zaa] at h
   refine WF.bind (zau a δ S _ h) fun x S1 h1=>?_
   split at h1
   · rename_i c
     rw[if_pos c]
     rw[zaa] at h1
     refine WF.bind (zau b δ S1 _ h1) fun y S2 h2=>?_
     rw[zaa] at h2
     exact WF.bind (zbb h2) fun o S3 h3=>wr_F h3
   · exact h1.elim
 | .fld a f, δ, S, Q, h => by
   simp only[evE] at h⊢
   rw[zaa] at h
   exact WF.bind (zau a δ S _ h) fun x S1 h1=>zbb h1
 | .mk c f _ es, δ, S, Q, h => by
   simp only[evE] at h⊢
   rw[zaa] at h
   refine WF.bind (zct es δ S _ h) fun ds S1 h1=>?_
   rw[zaa] at h1
   have h2:=(appW_F hcf h1:WF (S1.push (.ins c [])) _ _)
   refine WF.bind (h2.mono fun d T q=>⟨q.1,(Frm.push S1 _).trans q.2⟩) fun d S2 h3=>?_
   split at h3
   · rename_i c;rw[if_pos c];exact⟨h3,Frm.refl _⟩
   · exact h3.elim
 | .meth m tb o es, δ, S, Q, h => by
   simp only[evE] at h⊢
   rw[zaa] at h
   refine WF.bind (zau o δ S _ h) fun x S1 h1=>?_
   rw[zaa] at h1
   refine WF.bind (zbb h1) fun p S2 h2=>?_
   rw[zaa] at h2
   refine WF.bind (zbb h2) fun f S3 h3=>?_
   split at h3
   · rename_i c
     rw[if_pos c]
     rw[zaa] at h3
     exact WF.bind (zct es δ S3 _ h3) fun ds S4 h4=>appW_F hcf h4
   · exact h3.elim
 | .isc cs _ a, δ, S, Q, h => by
   simp only[evE] at h⊢
   rw[zaa] at h
   refine WF.bind (zau a δ S _ h) fun x S1 h1=>?_
   rw[zaa] at h1
   exact WF.bind (zbb h1) fun p S2 h2=>⟨h2,Frm.refl _⟩
 | .callC f _ _ es, δ, S, Q, h => by
   simp only[evE] at h⊢
   rw[zaa] at h
   exact WF.bind (zct es δ S _ h) fun ds S1 h1=>appW_F hcf h1
 | .clr a, δ, S, Q, h => by
   simp only[evE] at h⊢
   rw[zaa] at h
   refine WF.bind (zau a δ S _ h) fun x S1 h1=>?_
   split at h1
   · rename_i c
     rw[if_pos c]
     cases x with
     |ref l=>exact wr_F h1
     |_=>exact h1.elim
   · exact h1.elim
 | .ix a b, δ, S, Q, h => by
   simp only[evE] at h⊢
   rw[zaa] at h
   refine WF.bind (zau a δ S _ h) fun x S1 h1=>?_
   rw[zaa] at h1
   refine WF.bind (zau b δ S1 _ h1) fun y S2 h2=>?_
   split at h2
   · exact zbb h2
   · exact h2.elim
 | .sl a ml mh lo hi, δ, S, Q, h => by
   simp only[evE] at h⊢
   rw[zaa] at h
   refine WF.bind (zau a δ S _ h) fun x S1 h1=>?_
   rw[zaa] at h1
   refine WF.bind (zau lo δ S1 _ h1) fun y S2 h2=>?_
   rw[zaa] at h2
   refine WF.bind (zau hi δ S2 _ h2) fun z S3 h3=>?_
   split at h3
   · split at h3
     · exact⟨h3,Frm.refl _⟩
     · exact zhL h3
     · split at h3
       · exact zhL h3
       · exact h3.elim
     · exact h3.elim
   · exact h3.elim
 | .call f j es, δ, S, Q, h => by
   simp only[evE] at h⊢
   rw[zaa] at h
   exact WF.bind (zct es δ S _ h) fun ds S1 h1=>zqA h1
 | .bi b es, δ, S, Q, h => by
   simp only[evE] at h⊢
   rw[zaa] at h
   exact WF.bind (zct es δ S _ h) fun ds S1 h1=>bi_F h1
 | .mt m o es, δ, S, Q, h => by
   simp only[evE] at h⊢
   rw[zaa] at h
   refine WF.bind (zau o δ S _ h) fun x S1 h1=>?_
   split at h1
   · rename_i c
     rw[if_pos c]
     rw[zaa] at h1
     exact WF.bind (zct es δ S1 _ h1) fun ds S2 h2=>mt_F h2
   · exact h1.elim
 | .mkL l, δ, S, Q, h => by
   simp only[evE] at h⊢
   rw[zaa] at h
   exact WF.bind (zhQ l δ S _ h) fun r S1 h1=>zhL h1
 | .mkT l, δ, S, Q, h => by
   simp only[evE] at h⊢
   rw[zaa] at h
   refine WF.bind (zhQ l δ S _ h) fun r S1 h1=>?_
   split at h1
   · rename_i c;rw[if_pos c];exact⟨h1,Frm.refl _⟩
   · exact h1.elim
 | .all l, δ, S, Q, h => by
   simp only[evE] at h⊢
   rw[zaa] at h
   refine WF.bind (zhQ l δ S _ h) fun r S1 h1=>?_
   rw[zaa] at h1
   exact WF.bind (zbb h1) fun k S3 h3=>⟨h3,Frm.refl _⟩
 | .ext a l, δ, S, Q, h => by
   simp only[evE] at h⊢
   rw[zaa] at h
   refine WF.bind (zau a δ S _ h) fun x S1 h1=>?_
   split at h1
   · rename_i c
     rw[if_pos c]
     rw[zaa] at h1
     refine WF.bind (zhQ l δ S1 _ h1) fun r S2 h2=>?_
     split at h2
     · split at h2
       · exact wr_F h2
       · exact h2.elim
     · exact h2.elim
   · exact h1.elim
theorem zct:∀(es:CEs) (δ:Ev) (S:St) (Q:List D->St->Prop),W (evEs cf es δ S) Q->WF S (evEs cf es δ S) Q
 |.nil,δ,S,Q,h=>by simp only[evEs] at h⊢;exact⟨h,Frm.refl S⟩
 | .cons e r, δ, S, Q, h => by
   simp only[evEs] at h⊢
   rw[zaa] at h
   refine WF.bind (zau e δ S _ h) fun x S1 h1=>?_
   rw[zaa] at h1
   exact WF.bind (zct r δ S1 _ h1) fun k S3 h3=>⟨h3,Frm.refl _⟩
theorem zeR:∀(e:CE) (δ:Ev) (S:St) (Q:Bool->St->Prop),W (evT cf e δ S) Q->WF S (evT cf e δ S) Q
 | .cmp op a b, δ, S, Q, h => by
   simp only[evT] at h⊢
   rw[zaa] at h
   refine WF.bind (zau a δ S _ h) fun x S1 h1=>?_
   rw[zaa] at h1
   exact WF.bind (zau b δ S1 _ h1) fun y S2 h2=>zbb h2
 | .cmp2 op op' a b c, δ, S, Q, h => by
   simp only[evT] at h⊢
   rw[zaa] at h
   refine WF.bind (zau a δ S _ h) fun x S1 h1=>?_
   rw[zaa] at h1
   refine WF.bind (zau b δ S1 _ h1) fun y S2 h2=>?_
   rw[zaa] at h2
   refine WF.bind (zbb h2) fun k S3 h3=>?_
   cases k with
   |false=>exact⟨h3,Frm.refl _⟩
   | true =>
     simp only[if_true] at h3⊢
     rw[zaa] at h3
     exact WF.bind (zau c δ S3 _ h3) fun z S4 h4=>zbb h4
 | .nt a, δ, S, Q, h => by
   simp only[evT] at h⊢
   rw[zaa] at h
   exact WF.bind (zeR a δ S _ h) fun k S3 h3=>⟨h3,Frm.refl _⟩
 | .and a b, δ, S, Q, h => by
   simp only[evT] at h⊢
   rw[zaa] at h
   refine WF.bind (zeR a δ S _ h) fun k S1 h1=>?_
   cases k with
   |false=>exact⟨h1,Frm.refl _⟩
   |true=>exact zeR b δ S1 Q h1
 | .or a b, δ, S, Q, h => by
   simp only[evT] at h⊢
   rw[zaa] at h
   refine WF.bind (zeR a δ S _ h) fun k S1 h1=>?_
   cases k with
   |true=>exact⟨h1,Frm.refl _⟩
   |false=>exact zeR b δ S1 Q h1
 | .tst e, δ, S, Q, h => by
   simp only[evT] at h⊢
   rw[zaa] at h
   exact WF.bind (zau e δ S _ h) fun k S3 h3=>zbb h3
 |.loc i,δ,S,Q,h=>by simp only[evT] at h;exact h.elim
 |.con d,δ,S,Q,h=>by simp only[evT] at h;exact h.elim
 |.bin op a b,δ,S,Q,h=>by simp only[evT] at h;exact h.elim
 |.neg a,δ,S,Q,h=>by simp only[evT] at h;exact h.elim
 |.ite c a b,δ,S,Q,h=>by simp only[evT] at h;exact h.elim
 |.tup es,δ,S,Q,h=>by simp only[evT] at h;exact h.elim
 |.lst es,δ,S,Q,h=>by simp only[evT] at h;exact h.elim
 |.dnew,δ,S,Q,h=>by simp only[evT] at h;exact h.elim
 |.dnewT,δ,S,Q,h=>by simp only[evT] at h;exact h.elim
 |.dget1 a b,δ,S,Q,h=>by simp only[evT] at h;exact h.elim
 |.dget2 a b c,δ,S,Q,h=>by simp only[evT] at h;exact h.elim
 |.dsetd a b c,δ,S,Q,h=>by simp only[evT] at h;exact h.elim
 |.dkeys a,δ,S,Q,h=>by simp only[evT] at h;exact h.elim
 |.intb a,δ,S,Q,h=>by simp only[evT] at h;exact h.elim
 |.extv a b,δ,S,Q,h=>by simp only[evT] at h;exact h.elim
 |.fld a f,δ,S,Q,h=>by simp only[evT] at h;exact h.elim
 |.mk c f x es,δ,S,Q,h=>by simp only[evT] at h;exact h.elim
 |.meth m tb o es,δ,S,Q,h=>by simp only[evT] at h;exact h.elim
 |.isc cs x a,δ,S,Q,h=>by simp only[evT] at h;exact h.elim
 |.callC f x m es,δ,S,Q,h=>by simp only[evT] at h;exact h.elim
 |.clr a,δ,S,Q,h=>by simp only[evT] at h;exact h.elim
 |.ix a b,δ,S,Q,h=>by simp only[evT] at h;exact h.elim
 |.sl a ml mh lo hi,δ,S,Q,h=>by simp only[evT] at h;exact h.elim
 |.call f j es,δ,S,Q,h=>by simp only[evT] at h;exact h.elim
 |.bi b es,δ,S,Q,h=>by simp only[evT] at h;exact h.elim
 |.mt m o es,δ,S,Q,h=>by simp only[evT] at h;exact h.elim
 |.mkL l,δ,S,Q,h=>by simp only[evT] at h;exact h.elim
 |.mkT l,δ,S,Q,h=>by simp only[evT] at h;exact h.elim
 |.all l,δ,S,Q,h=>by simp only[evT] at h;exact h.elim
 |.ext a l,δ,S,Q,h=>by simp only[evT] at h;exact h.elim
theorem zhQ:∀(l:CL) (δ:Ev) (S:St) (Q:List D × List Nat->St->Prop),W (evL cf l δ S) Q->WF S (evL cf l δ S) Q
 | .val e, δ, S, Q, h => by
   simp only[evL] at h⊢
   rw[zaa] at h
   refine WF.bind (zau e δ S _ h) fun x S1 h1=>?_
   rw[zaa] at h1
   exact WF.bind (zbb h1) fun k S3 h3=>⟨h3,Frm.refl _⟩
 | .callL f j es, δ, S, Q, h => by
   simp only[evL] at h⊢
   rw[zaa] at h
   refine WF.bind (zct es δ S _ h) fun ds S1 h1=>?_
   rw[zaa] at h1
   exact WF.bind (zpK h1) fun k S3 h3=>⟨h3,Frm.refl _⟩
 | .rng1 a, δ, S, Q, h => by
   simp only[evL] at h⊢
   rw[zaa] at h
   refine WF.bind (zau a δ S _ h) fun x S1 h1=>?_
   cases x with
   | int j =>
     dsimp only at h1⊢
     split at h1
     · rename_i c;rw[if_pos c];exact⟨h1,Frm.refl _⟩
     · exact h1.elim
   |_=>exact h1.elim
 | .rng2 a b, δ, S, Q, h => by
   simp only[evL] at h⊢
   rw[zaa] at h
   refine WF.bind (zau a δ S _ h) fun x S1 h1=>?_
   rw[zaa] at h1
   refine WF.bind (zau b δ S1 _ h1) fun y S2 h2=>?_
   split at h2
   · split at h2
     · rename_i c;rw[if_pos c];exact⟨h2,Frm.refl _⟩
     · exact h2.elim
   · exact h2.elim
 | .zip a b, δ, S, Q, h => by
   simp only[evL] at h⊢
   rw[zaa] at h
   refine WF.bind (zau a δ S _ h) fun x S1 h1=>?_
   rw[zaa] at h1
   exact WF.bind (zau b δ S1 _ h1) fun y S2 h2=>zbb h2
 | .comp n js g it c e, δ, S, Q, h => by
   simp only[evL] at h⊢
   rw[zaa] at h
   refine WF.bind (zhQ it δ S _ h) fun r S1 h1=>?_
   rw[zaa] at h1
   exact WF.bind (zg0 h1 fun Q' h2=>zer (fun δ S Q=>zeR c δ S Q) (fun δ S Q=>zau e δ S Q) _ _ _ _ h2) fun k S3 h3=>by
    split at h3
    · rename_i c;rw[if_pos c];exact⟨h3,Frm.refl _⟩
    · exact h3.elim
end
theorem zdN:∀(s:CS) (δ:Ev) (S:St) (Q:Fl->St->Prop),W (exS cf s δ S) Q->WF S (exS cf s δ S) Q
 |.nil,δ,S,Q,h=>by simp only[exS] at h⊢;exact⟨h,Frm.refl S⟩
 | .asg i e r, δ, S, Q, h => by
   simp only[exS] at h⊢
   rw[zaa] at h
   exact WF.bind (zau hcf e δ S _ h) fun x S1 h1=>zdN r _ S1 Q h1
 | .asgT g e r, δ, S, Q, h => by
   simp only[exS] at h⊢
   rw[zaa] at h
   refine WF.bind (zau hcf e δ S _ h) fun x S1 h1=>?_
   rw[zaa] at h1
   exact WF.bind (zbb h1) fun δ' S2 h2=>zdN r _ S2 Q h2
 | .setF a f e r, δ, S, Q, h => by
   simp only[exS] at h⊢
   rw[zaa] at h
   refine WF.bind (zau hcf e δ S _ h) fun v S1 h1=>?_
   rw[zaa] at h1
   refine WF.bind (zau hcf a δ S1 _ h1) fun x S2 h2=>?_
   cases ed:zc3 S2 x f v with
   |none=>rw[ed] at h2;exact h2.elim
   | some S3 =>
     rw[ed] at h2
     exact (zdN r δ S3 Q h2).mono fun a S' q=>⟨q.1,(zjV ed).trans q.2⟩
 | .ifS c t u r, δ, S, Q, h => by
   simp only[exS] at h⊢
   rw[zaa] at h
   refine WF.bind (zeR hcf c δ S _ h) fun k S1 h1=>?_
   rw[zaa] at h1
   refine WF.bind (Q:=Q) (S:=S1) ?_ fun f S2 h2=>?_
   · cases k with
     |true=>exact zdN t δ S1 _ h1
     |false=>exact zdN u δ S1 _ h1
   · cases f with
     |nx δ'=>exact zdN r _ S2 Q h2
     |rt d=>exact⟨h2,Frm.refl _⟩
 | .forS g l b r, δ, S, Q, h => by
   simp only[exS] at h⊢
   rw[zaa] at h
   refine WF.bind (zhQ hcf l δ S _ h) fun q S1 h1=>?_
   rw[zaa] at h1
   refine WF.bind (zg0 h1 fun Q' h2=>zgB (fun δ S Q=>zdN b δ S Q) _ _ _ _ h2) fun f S3 h3=>?_
   cases f with
   |nx δ'=>exact zdN r _ S3 Q h3
   |rt d=>exact⟨h3,Frm.refl _⟩
 | .ret e r, δ, S, Q, h => by
   simp only[exS] at h⊢
   rw[zaa] at h
   exact WF.bind (zau hcf e δ S _ h) fun x S1 h1=>⟨h1,Frm.refl _⟩
 | .expr e r, δ, S, Q, h => by
   simp only[exS] at h⊢
   rw[zaa] at h
   exact WF.bind (zau hcf e δ S _ h) fun x S1 h1=>zdN r _ S1 Q h1
end
end R
end
section
namespace R
open PySem L2
noncomputable def KL (K:PySem.W.Frag)(a:Addr)(xs:List V):Prop:=∃(o:Obj) (its:Array Value) (n:Nat),K.lookup a=some o/\o.cls=.type "list"/\o.dict=none/\o.data=.seq its n/\its.size<=sizeLine/\Vals xs its.toList
noncomputable def FixL (K:PySem.W.Frag)(H:Hp)(a:Addr)(xs:List V):Prop:=(∃o,H a=some (.frz o (.lst xs)))\/KL K a xs
theorem FixL.sq {K:PySem.W.Frag}{H:Hp}{a:Addr}{xs:List V}(h:FixL K H a xs):SqL K H a xs:=h.elim (fun⟨o,e⟩=>.inl (.inr ⟨o,e⟩)) .inr
class Mks where
 ts:List (Addr × Str)
 cl:List Addr
variable [Mks]
noncomputable def TabIn (H:Hp)(P:Addr)(q:Str):Prop:=∃ps:Array Value,H P=some (.tbl ps)/\TriplesOk ps.toList/\
 ∀(pos:Pos) (v:Value),codeAmong pos ps.toList=some v->∃(c:Addr) (oc:Obj) (vs:Array Value) (t:Tok),v=.ref c/\H c=some (.frz oc (.own 0))/\oc.data=.fields vs/\vs[1]?=some (.str q t)
theorem TabIn.up {H H':Hp}{P:Addr}{q:Str}(t:TabIn H P q)(e:H' P=H P)(f:∀b o u,H b=some (.frz o u)->H' b=some (.frz o u)):TabIn H' P q:=by
 obtain⟨ps,h1,h2,h3⟩:=t
 refine⟨ps,by rw[e];exact h1,h2,fun pos v hv=>?_⟩
 obtain⟨c,oc,vs,t,a1,a2,a3⟩:=h3 pos v hv
 exact⟨c,oc,vs,t,a1,f _ _ _ a2,a3⟩
noncomputable def TB (H:Hp):Prop:=∀p∈Mks.ts,TabIn H p.1 p.2
structure Kp (H H':Hp):Prop where
 tups:Tups H H'
 frzs:∀b o u,H b=some (.frz o u)->H' b=some (.frz o u)
 tab:TB H->TB H'
theorem Kp.refl (H:Hp):Kp H H:=⟨Tups.refl H,fun _ _ _ h=>h,fun h=>h⟩
theorem Kp.trans {H H1 H2:Hp}(a:Kp H H1)(b:Kp H1 H2):Kp H H2:=⟨a.tups.trans b.tups,fun c o u h=>b.frzs c o u (a.frzs c o u h),fun h=>b.tab (a.tab h)⟩
theorem Kp.same {H H':Hp}(a:Tups H H')(b:∀b o u,H b=some (.frz o u)->H' b=some (.frz o u))(c:∀P ps,H P=some (.tbl ps)->H' P=some (.tbl ps)):Kp H H':=
 ⟨a,b,fun h p hp=>by
  obtain⟨ps,h1,_⟩:=id (h p hp)
  exact (h p hp).up ((c _ _ h1).trans h1.symm) b⟩
theorem FixL.kp {K:PySem.W.Frag}{H H':Hp}{a:Addr}{xs:List V}(h:FixL K H a xs)(k:Kp H H'):FixL K H' a xs:=h.elim (fun⟨o,e⟩=>.inl ⟨o,k.frzs _ _ _ e⟩) .inr
mutual
noncomputable def RV (K:PySem.W.Frag)(ι:List Addr)(H:Hp):D->V->Prop
 |.non,v=>v=.non
 |.bl b,v=>v=.bl b
 |.int i,v=>v=.int i
 |.str x,v=>v=.str x
 |.tup ds,v=>∃a xs,v=.ref a/\H a=some (.tup xs)/\RVs K ι H ds xs
 |.ref l,v=>∃a,ι[l]?=some a/\v=.ref a
 |.fix ds,v=>∃a xs,v=.ref a/\FixL K H a xs/\RVs K ι H ds xs
noncomputable def RVs (K:PySem.W.Frag)(ι:List Addr)(H:Hp):List D->List V->Prop
 | [],vs=>vs=[]
 |d::ds,vs=>∃v r,vs=v::r/\RV K ι H d v/\RVs K ι H ds r
end
noncomputable def kI (k:List Int):List Key:=k.map Sum.inl
noncomputable def RKs (K:PySem.W.Frag)(ι:List Addr)(H:Hp):List (List Int × D)->List (List Key × V)->Prop
 | [],ws=>ws=[]
 |(k,d)::r,ws=>∃v w,ws=(kI k,v)::w/\RV K ι H d v/\RKs K ι H r w
noncomputable def RFs (K:PySem.W.Frag)(ι:List Addr)(H:Hp):List (Str × D)->List (Str × V)->Prop
 | [],ws=>ws=[]
 |(f,d)::r,ws=>∃v w,ws=(f,v)::w/\RV K ι H d v/\RFs K ι H r w
noncomputable def RO (K:PySem.W.Frag)(ι:List Addr)(H:Hp)(a:Addr):MO->Prop
 |.lst ds=>∃xs,H a=some (.lst xs)/\RVs K ι H ds xs
 |.dic kvs=>kvs=[]/\H a=some (.dK [])
 |.ins c fs=>∃C dx ws,Mks.cl[c]?=some C/\H a=some (.ins C dx ws)/\RFs K ι H fs ws
 |.dtp kvs=>(kvs.map (·.1)).Nodup/\∃ws,H a=some (.dT ws)/\RKs K ι H kvs ws
structure RH (K:PySem.W.Frag) (ι:List Addr) (H:Hp) (S:St):Prop where
 len:ι.length=S.len
 nd:ι.Nodup
 obj:∀l o,S.get l=some o->∃a,ι[l]?=some a/\RO K ι H a o
 tab:TB H
structure Ext (ι:List Addr) (H:Hp) (ι':List Addr) (H':Hp):Prop where
 pre:ι <+: ι'
 kp:Kp H H'
 rest:∀a o,a∉ι->H a=some o->(H' a=some o\/((∃ps,o=.tbl ps)/\∃ps,H' a=some (.tbl ps)))/\a∉ι'
theorem Ext.refl (ι:List Addr)(H:Hp):Ext ι H ι H:=⟨List.prefix_refl _,Kp.refl H,fun a o h e=>⟨.inl e,h⟩⟩
theorem Ext.trans {ι ι1 ι2:List Addr}{H H1 H2:Hp}(a:Ext ι H ι1 H1)(b:Ext ι1 H1 ι2 H2):Ext ι H ι2 H2:=
 ⟨a.pre.trans b.pre,a.kp.trans b.kp,fun x o h e=>by
  obtain⟨e1,h1⟩:=a.rest x o h e
  rcases e1 with e1|⟨t,ps,e1⟩
  · exact b.rest x o h1 e1
  · obtain⟨e2,h2⟩:=b.rest x _ h1 e1
    refine⟨.inr ⟨t,?_⟩,h2⟩
    rcases e2 with e2|⟨_,e2⟩
    · exact⟨ps,e2⟩
    · exact e2⟩
theorem Ext.keep {ι ι1:List Addr}{H H1:Hp}(x:Ext ι H ι1 H1){a:Addr}{o:HO}(h:a∉ι)(e:H a=some o)(n:∀ps,o≠.tbl ps):H1 a=some o:=
 (x.rest a o h e).1.elim id fun⟨⟨ps,z⟩,_⟩=>absurd z (n ps)
theorem zbY {ι ι':List Addr}(h:ι <+: ι'){l:Nat}{a:Addr}(e:ι[l]?=some a):ι'[l]?=some a:=by
 obtain⟨t,rfl⟩:=h
 rw[List.getElem?_append_left (List.getElem?_eq_some_iff.mp e).1]
 exact e
mutual
theorem RV.up {K:PySem.W.Frag}{ι ι':List Addr}{H H':Hp}(hp:ι <+: ι')(hk:Kp H H'):∀{d:D} {v:V},RV K ι H d v->RV K ι' H' d v
 |.non,_,r=>r
 |.bl _,_,r=>r
 |.int _,_,r=>r
 |.str _,_,r=>r
 | .tup ds, _, r => by
   obtain⟨a,xs,e,ha,q⟩:=r
   exact⟨a,xs,e,hk.tups _ _ ha,RVs.up hp hk q⟩
 | .ref l, _, r => by
   obtain⟨a,e,q⟩:=r
   exact⟨a,zbY hp e,q⟩
 | .fix ds, _, r => by
   obtain⟨a,xs,e,ha,q⟩:=r
   exact⟨a,xs,e,ha.kp hk,RVs.up hp hk q⟩
theorem RVs.up {K:PySem.W.Frag}{ι ι':List Addr}{H H':Hp}(hp:ι <+: ι')(hk:Kp H H'):∀{ds:List D} {vs:List V},RVs K ι H ds vs->RVs K ι' H' ds vs
 | [],_,r=>r
 | d :: ds, vs, r => by
   obtain⟨v,w,e,r1,r2⟩:=r
   exact⟨v,w,e,RV.up hp hk r1,RVs.up hp hk r2⟩
end
theorem RKs.up {K:PySem.W.Frag}{ι ι':List Addr}{H H':Hp}(hp:ι <+: ι')(hk:Kp H H'):∀{kvs:List (List Int × D)} {ws:List (List Key × V)},RKs K ι H kvs ws->RKs K ι' H' kvs ws
 | [],_,r=>r
 | (k, d) :: kvs, ws, r => by
   obtain⟨v,w,e,r1,r2⟩:=r
   exact⟨v,w,e,RV.up hp hk r1,RKs.up hp hk r2⟩
theorem RFs.up {K:PySem.W.Frag}{ι ι':List Addr}{H H':Hp}(hp:ι <+: ι')(hk:Kp H H'):∀{fs:List (Str × D)} {ws:List (Str × V)},RFs K ι H fs ws->RFs K ι' H' fs ws
 | [],_,h=>h
 | (f, d) :: r, _, h => by
   obtain⟨v,w,e,r1,r2⟩:=h
   exact⟨v,w,e,RV.up hp hk r1,RFs.up hp hk r2⟩
theorem RFs.length {K:PySem.W.Frag}{ι:List Addr}{H:Hp}:∀{fs:List (Str × D)} {ws:List (Str × V)},RFs K ι H fs ws->ws.length=fs.length
 | [],_,h=>by cases (show _=[] from h);rfl
 | (f, d) :: r, _, h => by
   obtain⟨v,w,rfl,r1,r2⟩:=h
   simp[RFs.length r2]
theorem RFs.look {K:PySem.W.Frag}{ι:List Addr}{H:Hp}(f:Str):∀{fs:List (Str × D)} {ws:List (Str × V)},RFs K ι H fs ws->(fs.lookup f=none/\ws.lookup f=none)\/∃d v,fs.lookup f=some d/\ws.lookup f=some v/\RV K ι H d v
 | [],_,h=>by cases (show _=[] from h);exact .inl ⟨rfl,rfl⟩
 | (g, d) :: r, _, h => by
   obtain⟨v,w,rfl,r1,r2⟩:=h
   by_cases c:(f == g)=true
   · exact .inr ⟨d,v,by simp only[List.lookup,c],by simp only[List.lookup,c],r1⟩
   · have c:(f == g)=false:=by simpa using c
     simp only[List.lookup,c]
     exact RFs.look f r2
theorem RFs.put {K:PySem.W.Frag}{ι:List Addr}{H:Hp}(f:Str){d:D}{v:V}(q:RV K ι H d v):∀{fs:List (Str × D)} {ws:List (Str × V)},RFs K ι H fs ws->RFs K ι H (zkf f d fs) (putF f v ws)
 | [],_,h=>by cases (show _=[] from h);exact⟨v,[],rfl,q,rfl⟩
 | (g, x) :: r, _, h => by
   obtain⟨u,w,rfl,r1,r2⟩:=h
   unfold zkf putF
   by_cases c:g=f
   · rw[if_pos c,if_pos c];exact⟨v,w,rfl,q,r2⟩
   · rw[if_neg c,if_neg c];exact⟨u,_,rfl,r1,RFs.put f q r2⟩
theorem zi4 {j k:List Int}(h:kI j=kI k):j=k:=by
 unfold kI at h
 exact (List.map_inj_right (fun a b e=>Sum.inl.inj e)).mp h
theorem RKs.length {K:PySem.W.Frag}{ι:List Addr}{H:Hp}:∀{kvs:List (List Int × D)} {ws:List (List Key × V)},RKs K ι H kvs ws->ws.length=kvs.length
 | [],_,r=>by rw[show _=[] from r];rfl
 | (k, d) :: kvs, ws, r => by
   obtain⟨v,w,rfl,_,r2⟩:=r
   simp[RKs.length r2]
theorem RKs.val {K:PySem.W.Frag}{ι:List Addr}{H:Hp}(k:List Int):∀{kvs:List (List Int × D)} {ws:List (List Key × V)},RKs K ι H kvs ws->(valP kvs k=none/\valV ws (kI k)=none)\/∃d v,valP kvs k=some d/\valV ws (kI k)=some v/\RV K ι H d v
 | [],_,r=>by rw[show _=[] from r];exact .inl ⟨rfl,rfl⟩
 | (j, d) :: kvs, ws, r => by
   obtain⟨v,w,rfl,r1,r2⟩:=r
   by_cases e:j=k
   · subst e
     exact .inr ⟨d,v,by simp[valP],by simp[valV],r1⟩
   · have e':¬kI j=kI k:=fun z=>e (zi4 z)
     have h1:valP ((j,d)::kvs) k=valP kvs k:=by simp[valP,e]
     have h2:valV ((kI j,v)::w) (kI k)=valV w (kI k):=by simp[valV,e']
     rw[h1,h2]
     exact RKs.val k r2
theorem ziF {κ:Type}[DecidableEq κ]{x:κ × V}{r:List (κ × V)}{k:κ}{v:V}(h:x.1≠k):putK (x::r) k v=x::putK r k v:=by
 unfold putK
 have:decide (x.1=k)=false:=decide_eq_false h
 simp only[List.any_cons,this,Bool.false_or]
 split
 · rw[List.map_cons,if_neg h]
 · rfl
theorem RKs.keys {K:PySem.W.Frag}{ι:List Addr}{H:Hp}:∀{kvs:List (List Int × D)} {ws:List (List Key × V)},RKs K ι H kvs ws->ws.map (·.1)=kvs.map (fun p=>kI p.1)
 | [],_,r=>by rw[show _=[] from r];rfl
 | (k, d) :: kvs, ws, r => by
   obtain⟨v,w,rfl,_,r2⟩:=r
   simp[RKs.keys r2]
theorem RKs.put {K:PySem.W.Frag}{ι:List Addr}{H:Hp}(k:List Int){d:D}{v:V}(q:RV K ι H d v):∀{kvs:List (List Int × D)} {ws:List (List Key × V)},(kvs.map (·.1)).Nodup->RKs K ι H kvs ws->RKs K ι H (putP kvs k d) (putK ws (kI k) v)
 | [],_,_,r=>by rw[show _=[] from r];exact⟨v,[],rfl,q,rfl⟩
 | (j, e) :: kvs, ws, nd, r => by
   obtain⟨u,w,rfl,r1,r2⟩:=r
   simp only[List.map_cons,List.nodup_cons] at nd
   by_cases z:j=k
   · subst z
     have h1:putP ((j,e)::kvs) j d=(j,d)::kvs:=by simp[putP]
     have h2:putK ((kI j,u)::w) (kI j) v=(kI j,v)::w:=by
      unfold putK
      have:(((kI j,u)::w).any fun kv=>decide (kv.1=kI j))=true:=by simp
      rw[if_pos this,List.map_cons,if_pos rfl,List.map_congr_left (g:=id),List.map_id]
      intro kv hkv
      have hm:kv.1∈w.map (·.1):=List.mem_map.mpr ⟨kv,hkv,rfl⟩
      rw[r2.keys] at hm
      obtain⟨p,hp,ep⟩:=List.mem_map.mp hm
      have:kv.1≠kI j:=fun y=>nd.1 (by
       rw[<-ep] at y
       rw[<-zi4 y]
       exact List.mem_map.mpr ⟨p,hp,rfl⟩)
      simp[this]
     rw[h1,h2]
     exact⟨v,w,rfl,q,r2⟩
   · have h1:putP ((j,e)::kvs) k d=(j,e)::putP kvs k d:=by simp[putP,z]
     have h2:putK ((kI j,u)::w) (kI k) v=(kI j,u)::putK w (kI k) v:=ziF fun y=>z (zi4 y)
     rw[h1,h2]
     exact⟨u,_,rfl,r1,RKs.put k q nd.2 r2⟩
theorem zfi (k:List Int)(d:D):∀kvs:List (List Int × D),(putP kvs k d).map (·.1)=if k∈kvs.map (·.1) then kvs.map (·.1) else kvs.map (·.1)++[k]
 | []=>by simp[putP]
 | (j, e) :: r => by
   unfold putP
   by_cases z:j=k
   · subst z;simp
   · have ih:=zfi k d r
     rw[if_neg z]
     simp only[List.map_cons,List.mem_cons,ih]
     by_cases h:k∈r.map (·.1)
     · rw[if_pos h,if_pos (.inr h)]
     · rw[if_neg h,if_neg (by rintro (y|y);exact z y.symm;exact h y)];rfl
theorem zhC {k:List Int}{d:D}{kvs:List (List Int × D)}(h:(kvs.map (·.1)).Nodup):((putP kvs k d).map (·.1)).Nodup:=by
 rw[zfi]
 split
 · exact h
 · rename_i n
   rw[List.nodup_append]
   refine⟨h,by simp,fun a ha b hb=>?_⟩
   rw[List.mem_singleton] at hb
   subst hb
   exact fun z=>n (z▸ha)
theorem RV.ext {K:PySem.W.Frag}{ι ι':List Addr}{H H':Hp}(h:Ext ι H ι' H'){d:D}{v:V}(r:RV K ι H d v):RV K ι' H' d v:=r.up h.pre h.kp
theorem RVs.ext {K:PySem.W.Frag}{ι ι':List Addr}{H H':Hp}(h:Ext ι H ι' H'){ds:List D}{vs:List V}(r:RVs K ι H ds vs):RVs K ι' H' ds vs:=r.up h.pre h.kp
theorem RVs.length {K:PySem.W.Frag}{ι:List Addr}{H:Hp}:∀{ds:List D} {vs:List V},RVs K ι H ds vs->vs.length=ds.length
 | [],_,r=>by rw[show _=[] from r];rfl
 | d :: ds, vs, r => by
   obtain⟨v,w,rfl,_,r2⟩:=r
   simp[RVs.length r2]
theorem RVs.get {K:PySem.W.Frag}{ι:List Addr}{H:Hp}:∀{ds:List D} {vs:List V} {i:Nat} {d:D},RVs K ι H ds vs->ds[i]?=some d->∃v,vs[i]?=some v/\RV K ι H d v
 | [],_,_,_,_,e=>by simp at e
 | d :: ds, vs, 0, d', r, e => by
   obtain⟨v,w,rfl,r1,_⟩:=r
   simp at e;subst e
   exact⟨v,rfl,r1⟩
 | d :: ds, vs, i + 1, d', r, e => by
   obtain⟨v,w,rfl,_,r2⟩:=r
   obtain⟨u,e1,e2⟩:=RVs.get (i:=i) (d:=d') r2 (by simpa using e)
   exact⟨u,by simpa using e1,e2⟩
theorem RVs.get' {ι:List Addr}{H:Hp}{ds:List D}{vs:List V}{i:Nat}{v:V}(r:RVs K ι H ds vs)(e:vs[i]?=some v):∃d,ds[i]?=some d/\RV K ι H d v:=by
 have hi:i<ds.length:=by rw[<-r.length];exact (List.getElem?_eq_some_iff.mp e).1
 obtain⟨u,e1,e2⟩:=r.get (List.getElem?_eq_getElem hi)
 rw[e] at e1;cases e1
 exact⟨_,List.getElem?_eq_getElem hi,e2⟩
theorem RVs.append {K:PySem.W.Frag}{ι:List Addr}{H:Hp}:∀{ds es:List D} {vs us:List V},RVs K ι H ds vs->RVs K ι H es us->RVs K ι H (ds++es) (vs++us)
 | [],_,_,_,r,q=>by rw[show _=[] from r];exact q
 | d :: ds, es, vs, us, r, q => by
   obtain⟨v,w,rfl,r1,r2⟩:=r
   exact⟨v,w++us,rfl,r1,RVs.append r2 q⟩
theorem RVs.take {K:PySem.W.Frag}{ι:List Addr}{H:Hp}:∀{ds:List D} {vs:List V} (n:Nat),RVs K ι H ds vs->RVs K ι H (ds.take n) (vs.take n)
 |_,_,0,_=>rfl
 | [],_,n+1,r=>by rw[show _=[] from r];rfl
 | d :: ds, vs, n + 1, r => by
   obtain⟨v,w,rfl,r1,r2⟩:=r
   exact⟨v,w.take n,rfl,r1,RVs.take n r2⟩
theorem RVs.drop {K:PySem.W.Frag}{ι:List Addr}{H:Hp}:∀{ds:List D} {vs:List V} (n:Nat),RVs K ι H ds vs->RVs K ι H (ds.drop n) (vs.drop n)
 |_,_,0,r=>r
 | [],_,n+1,r=>by rw[show _=[] from r];rfl
 | d :: ds, vs, n + 1, r => by
   obtain⟨v,w,rfl,r1,r2⟩:=r
   exact RVs.drop n r2
theorem RVs.erase {K:PySem.W.Frag}{ι:List Addr}{H:Hp}{ds:List D}{vs:List V}(n:Nat)(r:RVs K ι H ds vs):RVs K ι H (ds.eraseIdx n) (vs.eraseIdx n):=by
 rw[List.eraseIdx_eq_take_drop_succ,List.eraseIdx_eq_take_drop_succ]
 exact (r.take n).append (r.drop (n+1))
theorem RVs.ints {K:PySem.W.Frag}{ι:List Addr}{H:Hp}:∀ns:List Int,RVs K ι H (ns.map D.int) (ns.map V.int)
 | []=>rfl
 |n::ns=>⟨_,_,rfl,rfl,RVs.ints ns⟩
theorem RVs.ints_eq {K:PySem.W.Frag}{ι:List Addr}{H:Hp}:∀{ns:List Int} {vs:List V},RVs K ι H (ns.map D.int) vs->vs=ns.map V.int
 | [],_,h=>h
 | n :: ns, vs, h => by
   obtain⟨v,r,rfl,h1,h2⟩:=h
   rw[RVs.ints_eq h2,show v=.int n from h1];rfl
theorem zdg:∀{ds:List D} {ns:List Int},zcI ds=some ns->ds=ns.map D.int:=by
 intro ds
 unfold zcI
 induction ds with
 |nil=>intro ns h;simp at h;subst h;rfl
 | cons d ds ih =>
   intro ns h
   rw[List.mapM_cons] at h
   cases d with
   | int i =>
     cases e:List.mapM zjc ds with
     |none=>rw[e] at h;simp[zjc] at h
     |some ms=>rw[e] at h;simp[zjc] at h;subst h;simp[ih e]
   |_=>simp[zjc] at h
mutual
theorem RV.flat {K:PySem.W.Frag}{ι:List Addr}{H:Hp}:∀{d:D} {v:V},RV K ι H d v->R.flat ι.length d=true
 |.non,_,_=>by simp[R.flat]
 |.bl _,_,_=>by simp[R.flat]
 |.int _,_,_=>by simp[R.flat]
 |.str _,_,_=>by simp[R.flat]
 | .tup ds, _, r => by
   obtain⟨a,xs,e,ha,q⟩:=r
   simp only[R.flat]
   exact RVs.flats q
 | .ref l, _, r => by
   obtain⟨a,e,q⟩:=r
   simp only[R.flat,decide_eq_true_eq]
   exact (List.getElem?_eq_some_iff.mp e).1
 | .fix ds, _, r => by
   obtain⟨a,xs,e,ha,q⟩:=r
   simp only[R.flat]
   exact RVs.flats q
theorem RVs.flats {K:PySem.W.Frag}{ι:List Addr}{H:Hp}:∀{ds:List D} {vs:List V},RVs K ι H ds vs->R.flats ι.length ds=true
 | [],_,_=>by simp[R.flats]
 | d :: ds, vs, r => by
   obtain⟨v,w,e,r1,r2⟩:=r
   simp only[R.flats,Bool.and_eq_true]
   exact⟨RV.flat r1,RVs.flats r2⟩
end
mutual
theorem RV.restrict {K:PySem.W.Frag}{ι ι':List Addr}{H:Hp}(hp:ι <+: ι'):∀{d:D} {v:V},R.flat ι.length d=true->RV K ι' H d v->RV K ι H d v
 |.non,_,_,r=>r
 |.bl _,_,_,r=>r
 |.int _,_,_,r=>r
 |.str _,_,_,r=>r
 | .tup ds, _, f, r => by
   obtain⟨a,xs,e,ha,q⟩:=r
   simp only[R.flat] at f
   exact⟨a,xs,e,ha,RVs.restrict hp f q⟩
 | .ref l, _, f, r => by
   obtain⟨a,e,q⟩:=r
   simp only[R.flat,decide_eq_true_eq] at f
   refine⟨a,?_,q⟩
   obtain⟨t,rfl⟩:=hp
   rw[List.getElem?_append_left f] at e
   exact e
 | .fix ds, _, f, r => by
   obtain⟨a,xs,e,ha,q⟩:=r
   simp only[R.flat] at f
   exact⟨a,xs,e,ha,RVs.restrict hp f q⟩
theorem RVs.restrict {K:PySem.W.Frag}{ι ι':List Addr}{H:Hp}(hp:ι <+: ι'):∀{ds:List D} {vs:List V},R.flats ι.length ds=true->RVs K ι' H ds vs->RVs K ι H ds vs
 | [],_,_,r=>r
 | d :: ds, vs, f, r => by
   obtain⟨v,w,e,r1,r2⟩:=r
   simp only[R.flats,Bool.and_eq_true] at f
   exact⟨v,w,e,RV.restrict hp f.1 r1,RVs.restrict hp f.2 r2⟩
end
theorem RKs.flats {K:PySem.W.Frag}{ι:List Addr}{H:Hp}:∀{kvs:List (List Int × D)} {ws:List (List Key × V)},RKs K ι H kvs ws->R.flats ι.length (kvs.map (·.2))=true
 | [],_,_=>by simp[R.flats]
 | (k, d) :: kvs, ws, r => by
   obtain⟨v,w,e,r1,r2⟩:=r
   simp only[List.map_cons,R.flats,Bool.and_eq_true]
   exact⟨RV.flat r1,RKs.flats r2⟩
theorem RKs.restrict {K:PySem.W.Frag}{ι ι':List Addr}{H:Hp}(hp:ι <+: ι'):∀{kvs:List (List Int × D)} {ws:List (List Key × V)},R.flats ι.length (kvs.map (·.2))=true->RKs K ι' H kvs ws->RKs K ι H kvs ws
 | [],_,_,r=>r
 | (k, d) :: kvs, ws, f, r => by
   obtain⟨v,w,e,r1,r2⟩:=r
   simp only[List.map_cons,R.flats,Bool.and_eq_true] at f
   exact⟨v,w,e,RV.restrict hp f.1 r1,RKs.restrict hp f.2 r2⟩
theorem RFs.flats {K:PySem.W.Frag}{ι:List Addr}{H:Hp}:∀{fs:List (Str × D)} {ws:List (Str × V)},RFs K ι H fs ws->R.flats ι.length (fs.map (·.2))=true
 | [],_,_=>by simp
 | (f, d) :: r, _, h => by
   obtain⟨v,w,_,r1,r2⟩:=h
   simp only[List.map_cons,zcm,Bool.and_eq_true]
   exact⟨RV.flat r1,RFs.flats r2⟩
theorem RFs.restrict {K:PySem.W.Frag}{ι ι':List Addr}{H:Hp}(hp:ι <+: ι'):∀{fs:List (Str × D)} {ws:List (Str × V)},R.flats ι.length (fs.map (·.2))=true->RFs K ι' H fs ws->RFs K ι H fs ws
 | [],_,_,h=>h
 | (f, d) :: r, _, f0, h => by
   obtain⟨v,w,e,r1,r2⟩:=h
   simp only[List.map_cons,zcm,Bool.and_eq_true] at f0
   exact⟨v,w,e,RV.restrict hp f0.1 r1,RFs.restrict hp f0.2 r2⟩
theorem RO.up {K:PySem.W.Frag}{ι ι':List Addr}{H H':Hp}{a:Addr}{o:MO}(h:RO K ι H a o)(hp:ι <+: ι')(hk:Kp H H')(e:H' a=H a):RO K ι' H' a o:=by
 cases o with
 |lst ds=>obtain⟨xs,h1,h2⟩:=h;exact⟨xs,e.trans h1,h2.up hp hk⟩
 |dic kvs=>obtain⟨h1,h2⟩:=h;exact⟨h1,e.trans h2⟩
 |ins c fs=>obtain⟨C,dx,ws,h0,h1,h2⟩:=h;exact⟨C,dx,ws,h0,e.trans h1,h2.up hp hk⟩
 |dtp kvs=>obtain⟨h0,ws,h1,h2⟩:=h;exact⟨h0,ws,e.trans h1,h2.up hp hk⟩
theorem RO.stay {K:PySem.W.Frag}{ι ι':List Addr}{H H':Hp}{a:Addr}{o:MO}(h:RO K ι H a o)(x:Ext ι H ι' H')(e:H' a=H a):RO K ι' H' a o:=h.up x.pre x.kp e
section
variable {K:PySem.W.Frag} {ι ι':List Addr} {H H':Hp} {S S' T:St} {l:Nat} {a p:Addr}
theorem RH.mem (h:RH K ι H S){o:MO}(e:S.get l=some o):∃a,ι[l]?=some a/\RO K ι H a o/\a∈ι:=by
 obtain⟨a,h1,h2⟩:=h.obj l o e
 exact⟨a,h1,h2,List.mem_of_getElem? h1⟩
theorem zkS (h:l<S.len):∃o,S.get l=some o:=by
 unfold St.len at h
 unfold St.get
 split
 · rename_i c;exact⟨_,List.getElem?_eq_getElem c⟩
 · exact⟨_,List.getElem?_eq_getElem (by omega)⟩
theorem RH.off (h:RH K ι H S)(x:Ext ι H ι H')(e:∀a∈ι,H' a=H a):RH K ι H' S:=
 ⟨h.len,h.nd,fun l o q=>let ⟨a,h1,h2,hm⟩:=h.mem q;⟨a,h1,h2.stay x (e a hm)⟩,x.kp.tab h.tab⟩
theorem RH.live (h:RH K ι H S)(ha:a∈ι):∃o,H a=some o/\(∀xs,o≠.tup xs)/\(∀z u,o≠.frz z u)/\∀ps,o≠.tbl ps:=by
 obtain⟨l,hl⟩:=List.mem_iff_getElem?.mp ha
 have hlt:l<S.len:=by rw[<-h.len];exact (List.getElem?_eq_some_iff.mp hl).1
 obtain⟨o,e⟩:=zkS hlt
 obtain⟨b,h1,h2⟩:=h.obj l o e
 rw[hl] at h1;cases h1
 cases o with
 |lst ds=>obtain⟨xs,q,_⟩:=h2;exact⟨_,q,⟨fun _ z=>(by cases z),fun _ _ z=>(by cases z),fun _ z=>(by cases z)⟩⟩
 |dic kvs=>exact⟨_,h2.2,⟨fun _ z=>(by cases z),fun _ _ z=>(by cases z),fun _ z=>(by cases z)⟩⟩
 |ins c fs=>obtain⟨C,dx,ws,_,q,_⟩:=h2;exact⟨_,q,⟨fun _ z=>(by cases z),fun _ _ z=>(by cases z),fun _ z=>(by cases z)⟩⟩
 |dtp kvs=>obtain⟨_,ws,q,_⟩:=h2;exact⟨_,q,⟨fun _ z=>(by cases z),fun _ _ z=>(by cases z),fun _ z=>(by cases z)⟩⟩
theorem RH.fresh (h:RH K ι H S)(hp:H p=Option.none):p∉ι:=fun hm=>by
 obtain⟨o,e,_⟩:=h.live hm
 rw[hp] at e;cases e
theorem RH.notup (h:RH K ι H S){xs:List V}(hp:H p=some (.tup xs)):p∉ι:=fun hm=>by
 obtain⟨o,e,q,_⟩:=h.live hm
 rw[hp] at e;cases e;exact q _ rfl
theorem Kp.new (hp:H p=Option.none)(o:HO):Kp H (upd H p o):=
 .same (Tups.upd_new hp) (fun b z u e=>by rw[zai (zal e hp)];exact e) fun b ps e=>by rw[zai (zal e hp)];exact e
theorem Ext.new (hp:H p=Option.none)(o:HO):Ext ι H ι (upd H p o):=
 ⟨List.prefix_refl _,Kp.new hp o,fun a u h e=>⟨.inl (by rw[zai (zal e hp)];exact e),h⟩⟩
theorem RH.new (h:RH K ι H S)(hp:H p=Option.none)(o:HO):RH K ι (upd H p o) S:=
 h.off (Ext.new hp o) fun a ha=>zai fun e=>h.fresh hp (e▸ha)
theorem zeN (S:St)(o:MO):(S.push o).get S.len=some o:=by
 have h:¬S.len<S.frz.length:=by unfold St.len;omega
 unfold St.get St.push
 simp only[h,if_false]
 unfold St.len
 simp
theorem zcv {o:MO}(h:l<S.len):(S.push o).get l=S.get l:=by
 unfold St.len at h
 unfold St.get St.push
 simp only
 split
 · rfl
 · rw[List.getElem?_append_left (by omega)]
theorem zck (S:St)(o:MO):(S.push o).len=S.len+1:=by simp[St.push,St.len];omega
theorem Ext.obj (h:RH K ι H S)(hp:H p=Option.none)(u:HO):Ext ι H (ι++[p]) (upd H p u):=
 ⟨List.prefix_append _ _,Kp.new hp u,fun a o ha e=>⟨.inl (by rw[zai (zal e hp)];exact e),by
  intro z
  rcases List.mem_append.mp z with z|z
  · exact ha z
  · simp at z;exact zal e hp z⟩⟩
theorem RH.obj' (h:RH K ι H S)(hp:H p=Option.none)(u:HO)(o:MO)(ho:RO K (ι++[p]) (upd H p u) p o):RH K (ι++[p]) (upd H p u) (S.push o):=by
 refine⟨by rw[List.length_append,h.len,zck];rfl,?_,fun l o' e=>?_,(Kp.new hp u).tab h.tab⟩
 · rw[List.nodup_append]
   refine⟨h.nd,by simp,fun a ha b hb=>?_⟩
   simp at hb;subst hb
   exact fun z=>h.fresh hp (z▸ha)
 · by_cases hl:l<S.len
   · rw[zcv hl] at e
     obtain⟨a,h1,h2,hm⟩:=h.mem e
     exact⟨a,zbY (List.prefix_append _ _) h1,h2.stay (Ext.obj h hp u) (zai fun z=>h.fresh hp (z▸hm))⟩
   · have hl2:=zbn e
     rw[zck] at hl2
     have:l=S.len:=by omega
     subst this
     rw[zeN] at e;cases e
     exact⟨p,by rw[<-h.len];simp,ho⟩
theorem RH.lay (h:RH K ι H S)(hp:H p=Option.none){ds:List D}{xs:List V}(r:RVs K ι H ds xs):RH K (ι++[p]) (upd H p (.lst xs)) (S.push (.lst ds)):=
 h.obj' hp _ _ ⟨xs,zap,r.ext (Ext.obj h hp _)⟩
theorem RH.last (h:RH K ι H S)(p:Addr):(ι++[p])[S.len]?=some p:=by rw[<-h.len];simp
theorem Ext.wr (h:RH K ι H S){o:MO}(e:S.get l=some o)(hl:ι[l]?=some a)(u:HO):Ext ι H ι (upd H a u):=by
 have hm:=List.mem_of_getElem? hl
 refine⟨List.prefix_refl _,.same (fun b xs hb=>?_) (fun b z v hb=>?_) fun b ps hb=>?_,fun b o hb e=>⟨.inl ((zai fun (z:b=a)=>hb (by rw[z];exact hm)).trans e),hb⟩⟩
 · rw[zai];exact hb
   rintro rfl
   exact h.notup hb hm
 · rw[zai];exact hb
   rintro rfl
   obtain⟨o,e,_,q,_⟩:=h.live hm
   rw[hb] at e;cases e;exact q _ _ rfl
 · rw[zai];exact hb
   rintro rfl
   obtain⟨o,e,_,_,q⟩:=h.live hm
   rw[hb] at e;cases e;exact q _ rfl
theorem zmy {o:MO}(e:S.put l o=some S'):S'.len=S.len/\(l<S.len->S'.get l=some o)/\(∀m,m≠l->S'.get m=S.get m)/\S.frz.length<=l:=by
 unfold St.put at e
 split at e
 · cases e
 · split at e
   · cases e
   · injection e with e
     subst e
     rename_i c1 c2
     refine⟨by simp[St.len],fun hl=>?_,fun m hm=>?_,by omega⟩
     · unfold St.len at hl
       unfold St.get
       simp only[c1,if_false]
       rw[List.getElem?_set_self (by omega)]
     · unfold St.get
       simp only
       split
       · rfl
       · rw[List.getElem?_set_ne (by omega)]
theorem RH.wr (h:RH K ι H S){o o':MO}{u:HO}(e:S.get l=some o)(hl:ι[l]?=some a)(w:S.put l o'=some S')(ho:RO K ι (upd H a u) a o'):RH K ι (upd H a u) S':=by
 obtain⟨h1,h2,h3,_⟩:=zmy w
 refine⟨h.len.trans h1.symm,h.nd,fun m o2 e2=>?_,(Ext.wr h e hl u).kp.tab h.tab⟩
 by_cases hm:m=l
 · subst hm
   rw[h2 (zbn e)] at e2;cases e2
   exact⟨a,hl,ho⟩
 · rw[h3 m hm] at e2
   obtain⟨b,q1,q2,_⟩:=h.mem e2
   refine⟨b,q1,q2.stay (Ext.wr h e hl u) (zai ?_)⟩
   rintro rfl
   obtain⟨i1,e1⟩:=List.getElem?_eq_some_iff.mp hl
   obtain⟨i2,e2⟩:=List.getElem?_eq_some_iff.mp q1
   exact hm ((List.getElem_inj h.nd).mp (e2.trans e1.symm))
end
end R
end
section
namespace R
open PySem PySem.Spec PyProof.Rows L2
section
variable {prog:Program} {w:World} {K:Type} [DecidableEq K] {knd:HeapKind prog w K} {A:Around} {E:Value->Shared->Prop} {s:Shared} {xs ys:List (K × Addr × Value)} {a b d:Addr}
theorem zkB {ks:List K}(nd:ks.Nodup){i j:Nat}{k:K}(hi:ks[i]?=some k)(hj:ks[j]?=some k):i=j:=by
 obtain⟨h1,e1⟩:=List.getElem?_eq_some_iff.mp hi
 obtain⟨h2,e2⟩:=List.getElem?_eq_some_iff.mp hj
 exact (List.getElem_inj nd).mp (e1.trans e2.symm)
theorem zea {nm:String}{Q:Bool->Shared->Prop}(hu:knd.room A)(ha:(a == sysModules)=false)(hb:(b == sysModules)=false)(da:s.heap.DictOfH knd a xs)(db:s.heap.DictOfH knd b ys)(hk:xs.map (·.1)=ys.map (·.1))
  (he:∀(i:Nat) x y,xs[i]?=some x->ys[i]?=some y->SeqAt.EqAt A s x.2.2 y.2.2 true) (h:Q true s):wpAny (model prog w) A (Builtin.Dict.samePairs nm a b) Q E s:=by
 obtain⟨oa,es,ep,hoa,_,hda,hea,hia,hna⟩:=da
 obtain⟨ob,es',ep',hob,_,hdb,heb,hib,hnb⟩:=db
 have hla:es.size=xs.length:=size_of_entries hea
 have hlb:es'.size=ys.length:=size_of_entries heb
 have hl:xs.length=ys.length:=by have:=congrArg List.length hk;simpa using this
 unfold Builtin.Dict.samePairs Builtin.Dict.showsAll
 rw[if_neg (show ¬(a == sysModules)=true by rw[ha];exact Bool.false_ne_true),if_neg (show ¬(b == sysModules)=true by rw[hb];exact Bool.false_ne_true)]
 refine wpAny_bind (wpAny_pure (wpAny_bind (wpAny_pure ?_)))
 refine wpAny_bind (wpAny_dictEntries hoa hda ?_)
 dsimp only
 refine wpAny_bind (wpAny_dictEntries hob hdb ?_)
 rw[if_neg (by rw[hla,hlb,hl];simp)]
 refine wpAny_bind (wpAny_dictEpoch hoa hda ?_)
 refine wpAny_bind ?_
 rw[Std.Legacy.Range.forIn_eq_forIn_range']
 simp only[Std.Legacy.Range.size,Nat.sub_zero,Nat.add_sub_cancel,Nat.div_one]
 refine wpAny_forIn_list _ (fun rest q s'=>s'=s/\q=(none,())/\∃i,rest=List.range' i (es.size - i)/\i<=es.size) _ ?_ ?_ _ _ ⟨rfl,rfl,0,by simp,Nat.zero_le _⟩
 · rintro x rest q s' ⟨rfl,rfl,i,hr,hi⟩
   have hlt:i<es.size:=by
    rcases Nat.lt_or_ge i es.size with h|h
    · exact h
    · rw[Nat.sub_eq_zero_of_le h] at hr;simp at hr
   obtain⟨rfl,hrest⟩:x=i/\rest=List.range' (i+1) (es.size - (i+1)):=by
    have e:es.size - i=(es.size - (i+1))+1:=by omega
    rw[e,List.range'_succ] at hr
    injection hr with h1 h2
    exact⟨h1,h2⟩
   obtain⟨⟨k,c,v⟩,hx⟩:∃y,xs[x]?=some y:=⟨xs[x]'(by omega),List.getElem?_eq_getElem _⟩
   obtain⟨⟨k',c',v'⟩,hy⟩:∃y,ys[x]?=some y:=⟨ys[x]'(by omega),List.getElem?_eq_getElem _⟩
   have ekk:k'=k:=by
    have e:=congrArg (fun l=>l[x]?) hk
    simp only[List.getElem?_map,hx,hy,Option.map_some] at e
    exact (Option.some.inj e).symm
   subst ekk
   refine wpAny_bind (wpAny_dictEntries hoa hda ?_)
   rw[entry_at hea x,hx]
   show wpAny _ _ (holding [Value.ref c,v] _ >>= _) _ _ _
   refine wpAny_bind (wpAny_holding (wpAny_bind (wpAny_dictFind_heap (k:=k') hu (hia _ (List.mem_of_getElem? hx)) hob hdb heb hib hnb (fun hno=>absurd hy (hno x _)) fun j p hj=>?_)))
   have ej:j=x:=zkB hnb (k:=k') (by rw[List.getElem?_map,hj];rfl) (by rw[List.getElem?_map,hy];rfl)
   subst ej
   rw[hy] at hj
   cases hj
   refine wpAny_bind (wpAny_dictEntries hob hdb ?_)
   rw[entry_at heb j,hy]
   refine wpAny_holding (he j _ _ hx hy prog w _ _ ?_)
   show wpAny _ _ (if (!true)=true then _ else _) _ _ _
   rw[if_neg (by decide)]
   refine wpAny_bind (wpAny_dictEpoch hoa hda ?_)
   rw[if_neg (by simp)]
   exact wpAny_pure ⟨rfl,rfl,j+1,hrest,hlt⟩
 · rintro q s' ⟨rfl,rfl,i,hr,hi⟩
   exact wpAny_pure h
theorem zpo {Q:Value->Shared->Prop}(hr:knd.room A.in1)(hu:A.units<cLine)(ha:(a == sysModules)=false)(hb:(b == sysModules)=false)(da:s.heap.DictOfH knd a xs)(db:s.heap.DictOfH knd b ys)(hk:xs.map (·.1)=ys.map (·.1))
  (he:∀(i:Nat) x y,xs[i]?=some x->ys[i]?=some y->SeqAt.EqAt A.in1 s x.2.2 y.2.2 true) (h:Q (.bool true) s):wpAny (model prog w) A (compareOp .Eq (.ref a) (.ref b)) Q E s:=by
 refine wpAny_richCompare_same_room (op:=.Eq) da.typeIs db.typeIs PySem.F.slot_dict_eq (wpAny_call_entry PySem.F.slot_dict_eq da.typeIs PySem.F.entry_dict_eq ?_ (PySem.F.args_dict_eq_2 _ _)) hu
 show wpAny _ _ (Builtin.Dict.dictSlotArgs "__eq__" ⟨[.ref a,.ref b],[]⟩ >>= _) _ _ s
 refine wpAny_bind ?_
 unfold Builtin.Dict.dictSlotArgs
 refine wpAny_bind (wpAny_notOrdered_dict da.typeIs ?_)
 show wpAny _ _ (pure (Value.ref a,Value.ref b)) _ _ s
 refine wpAny_pure ?_
 refine wpAny_bind (wpAny_isInstance (T:="dict") db.typeIs PySem.F.sub_dict_dict ?_)
 simp only[Bool.not_true,Bool.false_eq_true,if_false]
 refine wpAny_bind (wpAny_pure (wpAny_bind (wpAny_pure ?_)))
 refine wpAny_bind (zea hr ha hb da db hk he ?_)
 refine wpAny_pure ⟨_,rfl,?_,?_⟩
 · exact fun x=>nomatch x
 · simpa using h
theorem zpn {Q:Value->Shared->Prop}(hr:knd.room A.in1)(hu:A.units<cLine)(ha:(a == sysModules)=false)(hb:(b == sysModules)=false)(da:s.heap.DictOfH knd a xs)(db:s.heap.DictOfH knd b ys)(hk:xs.map (·.1)=ys.map (·.1))
  (he:∀(i:Nat) x y,xs[i]?=some x->ys[i]?=some y->SeqAt.EqAt A.in1 s x.2.2 y.2.2 true) (h:Q (.bool false) s):wpAny (model prog w) A (compareOp .NotEq (.ref a) (.ref b)) Q E s:=by
 refine wpAny_richCompare_same_room (op:=.NotEq) da.typeIs db.typeIs PySem.F.slot_dict_ne (wpAny_call_entry PySem.F.slot_dict_ne da.typeIs PySem.F.entry_dict_ne ?_ (PySem.F.args_dict_ne_2 _ _)) hu
 show wpAny _ _ (Builtin.Dict.dictSlotArgs "__ne__" ⟨[.ref a,.ref b],[]⟩ >>= _) _ _ s
 refine wpAny_bind ?_
 unfold Builtin.Dict.dictSlotArgs
 refine wpAny_bind (wpAny_notOrdered_dict da.typeIs ?_)
 show wpAny _ _ (pure (Value.ref a,Value.ref b)) _ _ s
 refine wpAny_pure ?_
 refine wpAny_bind (wpAny_isInstance (T:="dict") db.typeIs PySem.F.sub_dict_dict ?_)
 simp only[Bool.not_true,Bool.false_eq_true,if_false]
 refine wpAny_bind (wpAny_pure (wpAny_bind (wpAny_pure ?_)))
 refine wpAny_bind (zea hr ha hb da db hk he ?_)
 refine wpAny_pure ⟨_,rfl,?_,?_⟩
 · exact fun x=>nomatch x
 · simpa using h
end
end R
end
section
namespace R
open PySem PySem.Spec PyProof.Rows L2
variable [Mks]
noncomputable def wVK:Option Int->V|none=>.non|some i=>.int i
theorem zdw {α β:Type}{Rl:α->β->Prop}:∀{ks:List α} {xs:List β},Paired Rl ks xs->∀{i:Nat} {x:β},xs[i]?=some x->∃p,ks[i]?=some p/\Rl p x
 |_,_,.nil,i,x,h=>by simp at h
 |_,_,.cons r t,0,x,h=>by simp at h;subst h;exact⟨_,rfl,r⟩
 | _, _, .cons r t, i + 1, x, h => by
   simp at h
   obtain⟨p,h1,h2⟩:=zdw t h
   exact⟨p,by simpa using h1,h2⟩
theorem zdF {H:Hp}:∀{ks:List (List Key × V)} {xs:List (List Key × Addr × Value)},KT H ks xs->xs.map (·.1)=ks.map (·.1)
 |_,_,.nil=>rfl
 |_,_,.cons r t=>by rw[List.map_cons,List.map_cons,zdF t,r.1]
theorem RKs.words {K:PySem.W.Frag}{ι:List Addr}{H:Hp}:∀{kvs:List (List Int × D)} {ws:List (List Key × V)} {u:List (List Int × Option Int)},RKs K ι H kvs ws->zc0 kvs=some u->ws=u.map fun p=>(kI p.1,wVK p.2)
 | [], ws, u, r, h => by
   have h:u=[]:=by simpa[zc0] using h.symm
   subst h;exact r
 | (k, d) :: kr, ws, u, r, h => by
   obtain⟨v,w,rfl,r1,r2⟩:=r
   unfold zc0 at h
   rw[List.mapM_cons] at h
   cases e:zd4 d with
   |none=>simp[e] at h
   | some o =>
     cases e2:kr.mapM fun kv=>(zd4 kv.2).map fun w=>(kv.1,w) with
     |none=>simp[e,e2] at h
     | some t =>
       simp[e,e2] at h
       subst h
       rw[RKs.words r2 (show zc0 kr=some t from e2),List.map_cons]
       congr 2
       cases d with
       |non=>cases e;exact r1
       |int i=>cases e;exact r1
       |_=>cases e
section
variable {X:Cx} {pins:List (Addr × Obj)} {σ:L2.St} {H:Hp} {s:Shared} {a b:Addr} {A:Around} {E:Value->Shared->Prop}
theorem zjx {u:List (List Int × Option Int)}{xs ys:List (List Key × Addr × Value)}(r1:KT H (u.map fun p=>(kI p.1,wVK p.2)) xs)(r2:KT H (u.map fun p=>(kI p.1,wVK p.2)) ys):∀(i:Nat) x y,xs[i]?=some x->ys[i]?=some y->SeqAt.EqAt A s x.2.2 y.2.2 true:=fun i x y hx hy=>by
 obtain⟨p,h1,_,_,h2⟩:=zdw r1 hx
 obtain⟨q,g1,_,_,g2⟩:=zdw r2 hy
 rw[h1] at g1
 cases g1
 rw[List.getElem?_map] at h1
 cases e:u[i]? with
 |none=>rw[e] at h1;cases h1
 | some w =>
   rw[e] at h1
   cases h1
   obtain⟨k,o⟩:=w
   cases o with
   | none =>
     have e1:x.2.2=Value.none:=h2
     have e2:y.2.2=Value.none:=g2
     rw[e1,e2]
     exact SeqAt.EqAt.same _
   | some z =>
     obtain⟨t,e1⟩:=(show ∃t,x.2.2=Value.int z t from h2)
     obtain⟨t',e2⟩:=(show ∃t,y.2.2=Value.int z t from g2)
     rw[e1,e2]
     have:=SeqAt.EqAt.int_int (A:=A) (s:=s) z t z t'
     simpa using this
theorem zqz {u:List (List Int × Option Int)}{Q:Value->Shared->Prop}(hu:A.units+1<cLine)(I:Inv X pins σ H s)(h1:H a=some (.dT (u.map fun p=>(kI p.1,wVK p.2))))(h2:H b=some (.dT (u.map fun p=>(kI p.1,wVK p.2))))(h:Q (.bool true) s):wpAny (model X.prog X.w) A (compareOp .Eq (.ref a) (.ref b)) Q E s:=by
 obtain⟨_,s1,xs,r1,d1⟩:=zfz I.hok h1
 obtain⟨_,s2,ys,r2,d2⟩:=zfz I.hok h2
 exact zpo (tupleKind_room_in1 hu) (by omega) s1 s2 d1 d2 ((zdF r1).trans (zdF r2).symm) (zjx r1 r2) h
theorem zqy {u:List (List Int × Option Int)}{Q:Value->Shared->Prop}(hu:A.units+1<cLine)(I:Inv X pins σ H s)(h1:H a=some (.dT (u.map fun p=>(kI p.1,wVK p.2))))(h2:H b=some (.dT (u.map fun p=>(kI p.1,wVK p.2))))(h:Q (.bool false) s):wpAny (model X.prog X.w) A (compareOp .NotEq (.ref a) (.ref b)) Q E s:=by
 obtain⟨_,s1,xs,r1,d1⟩:=zfz I.hok h1
 obtain⟨_,s2,ys,r2,d2⟩:=zfz I.hok h2
 exact zpn (tupleKind_room_in1 hu) (by omega) s1 s2 d1 d2 ((zdF r1).trans (zdF r2).symm) (zjx r1 r2) h
end
theorem zdi {S:R.St}{d:D}{kvs:List (List Int × D)}(h:dKvs S d=some kvs):∃l,d=.ref l/\S.get l=some (.dtp kvs):=by
 cases d with
 | ref l =>
   refine⟨l,rfl,?_⟩
   unfold dKvs at h
   dsimp only at h
   cases e:S.get l with
   |none=>rw[e] at h;cases h
   | some o =>
     rw[e] at h
     cases o with
     |dtp k=>cases h;rfl
     |_=>cases h
 |_=>cases h
theorem zm4 {K:PySem.W.Frag}{ι:List Addr}{H:Hp}{y:D}{v:V}{k:List Int}(r:RV K ι H y v)(h:zcY y=some k):∃b,v=.ref b/\H b=some (.tup ((kI k).map kV)):=by
 cases y with
 | tup ds =>
   obtain⟨b,xs,rfl,hb,rr⟩:=r
   simp only[zcY] at h
   rw[zdg h] at rr
   rw[rr.ints_eq] at hb
   refine⟨b,rfl,?_⟩
   rw[hb]
   unfold kI
   rw[List.map_map];rfl
 |_=>cases h
theorem zhf {K:PySem.W.Frag}{ι:List Addr}{H:Hp}{S:R.St}{d e:D}{x y:V}{k:Bool}(hH:RH K ι H S)(hd:RV K ι H d x)(he:RV K ι H e y)(h:zda S d e=some k) :
  (∃(u:List (List Int × Option Int)) (a b:Addr),x=.ref a/\y=.ref b/\H a=some (.dT (u.map fun p=>(kI p.1,wVK p.2)))/\H b=some (.dT (u.map fun p=>(kI p.1,wVK p.2)))/\k=true)\/eqD S d e=some k:=by
 unfold zda at h
 split at h
 · rename_i ka kb e1 e2
   left
   obtain⟨l,rfl,g1⟩:=zdi e1
   obtain⟨m,rfl,g2⟩:=zdi e2
   obtain⟨a,i1,rfl⟩:=hd
   obtain⟨b,i2,rfl⟩:=he
   obtain⟨a',j1,_,ws,ha,rk⟩:=hH.obj l _ g1
   rw[i1] at j1;cases j1
   obtain⟨b',j2,_,us,hb,rl⟩:=hH.obj m _ g2
   rw[i2] at j2;cases j2
   unfold eqK at h
   cases w1:zc0 ka with
   |none=>rw[w1] at h;cases h
   | some u =>
     cases w2:zc0 kb with
     |none=>rw[w1,w2] at h;cases h
     | some v =>
       rw[w1,w2] at h
       dsimp only[Option.bind_some] at h
       split at h
       · rename_i c
         subst c
         cases h
         rw[rk.words w1] at ha
         rw[rl.words w2] at hb
         exact⟨u,a,b,rfl,rfl,ha,hb,rfl⟩
       · cases h
 · exact .inr h
theorem zg6 {K:PySem.W.Frag}{ι:List Addr}{H:Hp}{S:R.St}{d e:D}{x y:V}{k:Bool}(hH:RH K ι H S)(hd:RV K ι H d x)(he:RV K ι H e y)(h:zjd S d e=some k) :
  (∃a o,y=.ref a/\DGet H a x o/\k=o.isSome)\/((zcz S e).bind fun ys=>inD S d ys)=some k:=by
 unfold zjd at h
 split at h
 · rename_i kvs e1
   left
   obtain⟨l,rfl,g1⟩:=zdi e1
   obtain⟨a,i1,rfl⟩:=he
   obtain⟨a',j1,_,ws,ha,rk⟩:=hH.obj l _ g1
   rw[i1] at j1;cases j1
   cases ek:zcY d with
   |none=>rw[ek] at h;cases h
   | some kk =>
     rw[ek] at h
     cases h
     obtain⟨b,rfl,hb⟩:=zm4 hd ek
     refine⟨a,_,rfl,DGet.t ha hb,?_⟩
     rcases rk.val kk with ⟨e1,e2⟩|⟨d,v,e1,e2,_⟩
     · dsimp only;rw[e1,e2];rfl
     · dsimp only;rw[e1,e2];rfl
 · exact .inr h
end R
end
section
namespace R
open PySem PySem.Spec PyProof.Rows L2
section
variable {prog:Program} {w:World} {K:Type} [DecidableEq K] {knd:HeapKind prog w K} {A:Around} {E:Value->Shared->Prop} {s:Shared} {xs:List (K × Addr × Value)} {d:Addr}
theorem zqt {k:K}{c:Addr}{v:Value}{Q:Value->Shared->Prop}(hu:knd.room A.in1)(hkey:knd.is s.heap k c)(hS:(d == sysModules)=false)(hm:s.heap.DictOfH knd d xs)(hsz:xs.length<=sizeLine)
  (h1:∀p t,atKey xs k=some p->Q p.2 {s with toks:=t}) (h2:∀h' t,atKey xs k=none->h'.DictOfH knd d (storedH xs k c v)->Heap.SameBut d s.heap h'->Q v {s with heap:=h',toks:=t}) :
  wpAny (model prog w) A (call (.builtin "dict.setdefault") [.ref d,.ref c,v]) Q E s:=by
 have hT:=hm.typeIs
 refine wpAny_call_entry PySem.F.slot_dict_setdefault hT PySem.F.entry_dict_setdefault ?_ (PySem.F.args_dict_setdefault_3 _ _ _)
 obtain⟨o,es,ep,ho,hc,hd,he,hi,hn⟩:=id hm
 unfold Builtin.«dict.setdefault»
 refine wpAny_bind ?_
 unfold Builtin.Dict.keyAndDefault
 refine wpAny_bind (wpAny_notOrdered_dict hT ?_)
 show wpAny _ _ (pure (d,Value.ref c,some v)) _ _ s
 refine wpAny_pure ?_
 dsimp only
 rw[hS]
 simp only[Bool.false_eq_true,if_false]
 refine wpAny_bind ?_
 unfold dictSetDefault
 try with_reducible refine wpAny_holding ?_
 refine wpAny_bind (knd.pyHash hu hkey ?_)
 refine wpAny_bind (wpAny_dictFind_heap (s:={s with toks:=s.toks+knd.draws k}) hu hkey ho hd he hi hn (fun hno=>?_) fun j p hj=>?_)
 · have hnot:k∉xs.map (·.1):=not_mem_keys_of_get hno
   have hnk:=atKey_none_of_get hno
   refine wpAny_bind (wpAny_rule (wpAny_bind (wpAny_updateDictKeys (hz:=by have e:=size_of_entries he;omega) (s:={s with toks:=s.toks+knd.draws k}) ho hd (wpAny_pure (wpAny_pure ⟨v,rfl,h2 _ _ hnk ⟨_,_,ep+1,Heap.get?_update_self _ ho (Obj.isFreed_of_dict (Obj.data_mapDictKeys hd _)),hc.mapDictKeys _,Obj.data_mapDictKeys hd _,?_,?_,?_⟩ (Heap.SameBut.update ..)⟩)))))
   · rw[storedH_new hnk];simp[he,entryOfKey]
   · rw[storedH_new hnk]
     intro x hx
     rcases List.mem_append.mp hx with hx|hx
     · exact knd.keeps (hi x hx) ho hd (Heap.SameBut.update ..)
     · cases List.mem_singleton.mp hx
       exact knd.keeps hkey ho hd (Heap.SameBut.update ..)
   · rw[storedH_new hnk,List.map_append,List.nodup_append]
     refine⟨hn,by simp,fun x hx y hy=>?_⟩
     simp at hy
     subst hy
     exact fun e=>hnot (e▸hx)
 · refine wpAny_bind (wpAny_dictEntries (s:={s with toks:=s.toks+knd.draws k}) ho hd ?_)
   rw[entry_at he j,hj]
   exact wpAny_bind (wpAny_rule (wpAny_pure (wpAny_pure ⟨_,rfl,h1 p _ (atKey_of_get hn hj)⟩)))
end
section
variable {X:Cx} {o e f:Expr} {apos cpos:Pos} {td ty tv:TE}
noncomputable def znU (td ty tv:TE):TE:=fun σ H Q=>td σ H fun x H1=>∃a,x=.ref a/\IsD H1 a/\ty σ H1 fun y H2=>tv σ H2 fun v H3=>∃ws k b,H3 a=some (.dT ws)/\y=.ref b/\H3 b=some (.tup (k.map kV))/\(∀u,valV ws k=some u->Q u H3)/\(valV ws k=none->ws.length<sizeLine/\Q v (upd H3 a (.dT (putK ws k v))))
theorem zkt (hu:X.A.units+1<cLine)(ho:PE X o td)(he:PE X e ty)(hf:PE X f tv)(m:M2 X o "setdefault" apos e f cpos):PE X (.Call (.Attribute o "setdefault" apos) [e,f] [] cpos) (znU td ty tv):=by
 intro pins s σ H Q I h
 refine wpAny_Call_method m.base m.few m.line PySem.F.plainAttrs_dict PySem.F.slot_dict_setdefault PySem.F.type_dict_setdefault (thn (ho pins s σ H _ I h) fun u s1 ⟨x,H1,I1,rx,a,ex,d,q1⟩=>?_)
 subst ex
 obtain rfl:u=Value.ref a:=rx
 obtain⟨t1,t2,_⟩:=zg5 I1 d
 refine⟨t1,t2,?_⟩
 rw[m.trees]
 refine Calls.callWith_builtin rfl (Calls.evalArgs_plain (Calls.spliced_cons (thn (he pins s1 σ H1 _ I1 q1) fun iv s2 ⟨y,H2,I2,ry,q2⟩=>
  Calls.spliced_cons (thn (hf pins s2 σ H2 _ I2 q2) fun fv s3 ⟨v,H3,I3,rv,ws,k,b,ea,ey,eb,q3,q4⟩=>Calls.spliced_nil ?_))))
 subst ey
 cases (show iv=Value.ref b from ry)
 obtain⟨z,hd,xs,rel,dd⟩:=zfz I3.hok ea
 have hz:xs.length<=sizeLine:=by rw[<-Paired.length rel];exact z
 refine zqt (tupleKind_room_in1 hu) (zdH I3.hok eb) hd dd hz (fun p t hp=>?_) fun h' t hp dd' hs=>?_
 · have r:=rel.val k
   rw[hp] at r
   cases l:valV ws k with
   |none=>rw[l] at r;exact r.elim
   |some u=>rw[l] at r;exact⟨u,H3,I3.tok _,r,q3 u l⟩
 · have r:=rel.val k
   rw[hp] at r
   cases l:valV ws k with
   |some u=>rw[l] at r;exact r.elim
   | none =>
     obtain⟨hl,q5⟩:=q4 l
     have hl2:(putK ws k v).length<=sizeLine:=by have:=zcu ws k v;omega
     obtain⟨q',es,ep,hq,h2,h3,h4,_,h5⟩:=dd'
     refine⟨v,upd H3 a (.dT (putK ws k v)),zgk (ob:=.dT (putK ws k v)) (t':=t) I3 (by rw[ea];exact True.intro) hs ⟨q',hq⟩ ⟨hl2,hd,_,(rel.put k eb rv).keeps fun c ys ec=>?_,q',es,ep,hq,h2,h3,h4,h5⟩,rv,q5⟩
     rw[zai (ne_of ec ea (fun z=>nomatch z))]
     exact ec
end
end R
end
section
namespace R
open PySem PySem.Spec PyProof.Rows L2
section
variable {prog:Program} {w:World} {K:Type} [DecidableEq K] {knd:HeapKind prog w K} {A:Around} {E:Value->Shared->Prop} {s:Shared} {xs:List (K × Addr × Value)} {d j:Addr} {i ep:Nat}
noncomputable def HAt (knd:HeapKind prog w K)(h:Heap)(d:Addr)(xs:List (K × Addr × Value))(ep:Nat):Prop:=∃o es,h.get? d=some o/\o.ExactDict/\o.data=.dict es ep/\es.toList=xs.map (entryOfKey knd)
theorem HAt.at {h h':Heap}(x:HAt knd h d xs ep)(e:∀o,h.get? d=some o->h'.get? d=some o):HAt knd h' d xs ep:=let ⟨o,es,ho,r⟩:=x;⟨o,es,e _ ho,r⟩
theorem HAt.ty (x:HAt knd s.heap d xs ep):s.TypeIs (.ref d) "dict":=let ⟨o,_,ho,hc,_⟩:=x;⟨o,ho,hc.1⟩
theorem znd {Q:Value->Shared->Prop}(hS:(d == sysModules)=false)(hm:HAt knd s.heap d xs ep)
  (q:Q (.ref s.heap.objs.size) {s with heap:=s.heap.push {cls:=.type "dict_keyiterator",data:=.fields #[.ref d,.int 0 0,.int xs.length 0,.int ep 0]}}):wpAny (model prog w) A (pyIter (.ref d)) Q E s:=by
 have ty:=hm.ty
 obtain⟨ob,en,g1,_,g2,g3⟩:=hm
 have hl:en.size=xs.length:=size_of_entries g3
 refine wpAny_pyIter_slot ty F.slot_dict_iter (wpAny_call_entry F.slot_dict_iter ty F.entry_dict_iter ?_ (F.args_dict_iter_1 _))
 unfold Builtin.«dict.__iter__» Builtin.Dict.dictSlotNone
 refine wpAny_bind (wpAny_bind (wpAny_notOrdered_dict ty ?_))
 show wpAny _ _ (pure (Value.ref d)) _ _ s
 refine wpAny_pure ?_
 show wpAny _ _ (Builtin.Dict.showsAll d >>= _) _ _ s
 unfold Builtin.Dict.showsAll
 simp only[hS,Bool.false_eq_true,if_false]
 refine wpAny_bind (wpAny_pure (wpAny_bind (wpAny_dictEntries g1 g2 (wpAny_bind (wpAny_dictEpoch g1 g2 ?_)))))
 refine wpAny_bind (wpAny_newObj_type (wpAny_pure ⟨_,rfl,"dict_keyiterator",_,⟨_,Heap.get?_push_size _ rfl,rfl⟩,F.slot_dict_keyiterator_next.lookup,?_⟩))
 simpa[rawInt,hl] using q
theorem zne {x:K × Addr × Value}{Q:Option Value->Shared->Prop}(ht:s.heap.IsKeyIter j d i xs.length ep)(hm:HAt knd s.heap d xs ep)(hx:xs[i]?=some x)
  (q:∀h',h'.IsKeyIter j d (i+1) xs.length ep->Heap.SameBut j s.heap h'->Q (some (.ref x.2.1)) {s with heap:=h'}):wpAny (model prog w) A (pyNext (.ref j)) Q E s:=by
 have ty:=ht.typeIs
 obtain⟨oj,k1,k2,k3⟩:=id ht
 obtain⟨ob,en,g1,_,g2,g3⟩:=id hm
 have hl:en.size=xs.length:=size_of_entries g3
 have hi:i<en.size:=by rw[hl];exact (List.getElem?_eq_some_iff.mp hx).1
 have hkey:en[i].key=.ref x.2.1:=by
  have:=entry_at g3 i
  rw[hx,Array.getElem?_eq_getElem hi] at this
  rw[Option.some.inj this];rfl
 unfold pyNext
 refine wpAny_bind (wpAny_attempt (wpAny_callSpecial?_slot (name:=Str.ofString "__next__") ty F.slot_dict_keyiterator_next (wpAny_call_entry F.slot_dict_keyiterator_next ty F.entry_dict_keyiterator_next ?_ (F.args_dict_keyiterator_next_1 _))))
 refine wpAny_bind (wpAny_pure (wpAny_bind (wpAny_bind ?_)))
 first|refine wpAny_bind (wpAny_typeNameOfWhole_keyiter ty (wpAny_pure ?_))|refine wpAny_bind (wpAny_typeNameOf_keyiter ty (wpAny_pure ?_))
 refine wpAny_bind (wpAny_fieldsOf k1 k3 ?_)
 simp only[show Builtin.Dict_items.ownsTuple "dict_keyiterator"=false by decide,Bool.false_eq_true,if_false]
 show wpAny _ _ (if (Value.ref d == Value.none)=true then _ else _) _ _ s
 rw[if_neg (show ¬((Value.ref d == Value.none)=true) from Bool.false_ne_true)]
 refine wpAny_bind (wpAny_pure (wpAny_bind (wpAny_dictEntries g1 g2 ?_)))
 rw[if_neg (by rw[hl];simp)]
 refine wpAny_bind (wpAny_pure (wpAny_bind (wpAny_dictEpoch g1 g2 ?_)))
 rw[if_neg (by simp)]
 refine wpAny_pure ?_
 simp only[show ¬((i:Int)<0) from by omega,if_false,Int.toNat_natCast,Array.getElem?_eq_getElem hi]
 refine wpAny_bind ?_
 first|refine wpAny_bind (wpAny_typeNameOfWhole_keyiter ty (wpAny_pure ?_))|refine wpAny_bind (wpAny_typeNameOf_keyiter ty (wpAny_pure ?_))
 refine wpAny_bind (wpAny_isOneOf_keyiter ty ?_)
 show wpAny _ _ (setField (.ref j) 1 (rawInt ((i:Int)+1)) >>= _) _ _ s
 refine wpAny_bind (wpAny_setField k1 k3 (by simp) ?_)
 have ht':(s.heap.update j (Obj.mapFields (·.setIfInBounds 1 (rawInt ((i:Int)+1))))).IsKeyIter j d (i+1) xs.length ep:=
  ⟨_,Heap.get?_update_self _ k1 (Obj.isFreed_of_fields (Obj.data_mapFields k3 _)),(Obj.cls_mapFields ..).trans k2,by rw[Obj.data_mapFields k3];simp[rawInt]⟩
 refine wpAny_bind (wpAny_holding (wpAny_bind (wpAny_isOneOf_keyiter (s:={s with heap:=s.heap.update j (Obj.mapFields (·.setIfInBounds 1 (rawInt ((i:Int)+1))))}) ht'.typeIs ?_)))
 show wpAny _ _ (pure en[i].key) _ _ _
 rw[hkey]
 exact wpAny_pure (wpAny_pure ⟨_,rfl,wpAny_pure (q _ ht' (Heap.SameBut.update ..))⟩)
theorem zpm {Q:Option Value->Shared->Prop}(hh:A.handled=none)(ht:s.heap.IsKeyIter j d i xs.length ep)(hm:HAt knd s.heap d xs ep)(hi:xs.length<=i)
  (q:∀h',Heap.ExtBut j s.heap h'->Q none {s with heap:=h'}):wpAny (model prog w) A (pyNext (.ref j)) Q E s:=by
 have ty:=ht.typeIs
 obtain⟨oj,k1,k2,k3⟩:=id ht
 obtain⟨ob,en,g1,_,g2,g3⟩:=id hm
 have hl:en.size=xs.length:=size_of_entries g3
 unfold pyNext
 refine wpAny_bind (wpAny_attempt (wpAny_callSpecial?_slot (name:=Str.ofString "__next__") ty F.slot_dict_keyiterator_next (wpAny_call_entry F.slot_dict_keyiterator_next ty F.entry_dict_keyiterator_next ?_ (F.args_dict_keyiterator_next_1 _))))
 refine wpAny_bind (wpAny_pure (wpAny_bind (wpAny_bind ?_)))
 first|refine wpAny_bind (wpAny_typeNameOfWhole_keyiter ty (wpAny_pure ?_))|refine wpAny_bind (wpAny_typeNameOf_keyiter ty (wpAny_pure ?_))
 refine wpAny_bind (wpAny_fieldsOf k1 k3 ?_)
 simp only[show Builtin.Dict_items.ownsTuple "dict_keyiterator"=false by decide,Bool.false_eq_true,if_false]
 show wpAny _ _ (if (Value.ref d == Value.none)=true then _ else _) _ _ s
 rw[if_neg (show ¬((Value.ref d == Value.none)=true) from Bool.false_ne_true)]
 refine wpAny_bind (wpAny_pure (wpAny_bind (wpAny_dictEntries g1 g2 ?_)))
 rw[if_neg (by rw[hl];simp)]
 refine wpAny_bind (wpAny_pure (wpAny_bind (wpAny_dictEpoch g1 g2 ?_)))
 rw[if_neg (by simp)]
 refine wpAny_pure ?_
 simp only[show ¬((i:Int)<0) from by omega,if_false,Int.toNat_natCast,Array.getElem?_eq_none (show en.size<=i by omega)]
 refine wpAny_bind ?_
 first|refine wpAny_bind (wpAny_typeNameOfWhole_keyiter ty (wpAny_pure ?_))|refine wpAny_bind (wpAny_typeNameOf_keyiter ty (wpAny_pure ?_))
 show wpAny _ _ (setField (.ref j) 0 .none >>= _) _ _ s
 refine wpAny_bind (wpAny_setField k1 k3 (by simp) ?_)
 show wpAny _ _ (newExc (.type "StopIteration") [] >>= _) _ _ _
 refine wpAny_bind ?_
 simp only[newExc,newTuple]
 refine wpAny_bind (wpAny_newObj_type ?_ (by size_fits))
 refine wpAny_bind (m:=firstArgMember _ _) (wpAny_of_eq (a:=Value.none) (by first|rfl|(simp only[firstArgMember];rfl)) (wpAny_newObj_type ?_ (by size_fits)))
 simp only[raiseNew]
 refine wpAny_bind (wpAny_handled ?_)
 rw[show A.in1.handled=none from hh]
 refine wpAny_bind (wpAny_pure (wpAny_throw ?_))
 refine wpAny_bind (wpAny_isInstance (b:=true) (T:="StopIteration") ⟨_,Heap.get?_push_size _ rfl,rfl⟩ isSubtype_stop ?_)
 exact wpAny_pure (q _ (((Heap.SameBut.update ..).extBut.push _).push _))
theorem znb (hh:A.handled=none)(hne:d≠j)(xs:List (K × Addr × Value))(ep:Nat) :
  Walks prog w A j [j,d] [j] xs.length (fun i v=>∃x,xs[i]?=some x/\v=.ref x.2.1) (fun i h=>h.IsKeyIter j d i xs.length ep/\HAt knd h d xs ep) where
 sub:=fun b hb=>by simp at hb;simp[hb]
 frame:=fun _ _ _ st hk=>⟨st.1.at fun o e=>hk j (by simp) o e,st.2.at fun o e=>hk d (by simp) o e⟩
 item:=fun i s Q E hi st hQ=>by
  refine zne st.1 st.2 (List.getElem?_eq_getElem hi) fun h' t' hs=>?_
  exact hQ _ h' s.toks ⟨_,List.getElem?_eq_getElem hi,rfl⟩ ⟨t',st.2.at fun o e=>hs.extBut d o hne e⟩ fun b o hb e=>hs.extBut b o (fun h=>hb (by simp[h])) e
 done:=fun s Q E st hQ=>zpm hh st.1 st.2 (Nat.le_refl _) fun h' he'=>hQ h' s.toks fun b o hb e=>he' b o (fun h=>hb (by simp[h])) e
 self:=fun _ _ _ _ st hQ=>wpAny_pyIter_keyiter st.1 hQ
theorem znf {Q:Bool->Shared->Prop}(ty:s.TypeIs (.ref d) "dict")(h:Q false s):wpAny (model prog w) A (Builtin.List.listLengthHint (.ref d)) Q E s:=by
 unfold Builtin.List.listLengthHint
 refine wpAny_bind (wpAny_specialOf ty F.slot_dict_len.lookup ?_)
 generalize hid:("dict.__len__":String)=id0
 wp_delta
 rw[show splitId id0=some ("dict","__len__") from by subst hid;decide +kernel]
 subst hid
 refine wpAny_bind (wpAny_isInstance (T:="dict") (b:=true) ty isSubtype_dict_dict ?_)
 refine wpAny_ite_split (fun hab=>absurd hab (by decide)) (fun _=>?_)
 refine wpAny_ite_split (fun _=>?_) (fun hab=>absurd (by decide +kernel) hab)
 refine wpAny_bind (wpAny_typeOf ty ?_)
 exact wpAny_pure h
theorem znc {Q:Value->Shared->Prop}(hh:A.handled=none)(hS:(d == sysModules)=false)(hm:s.heap.DictOfH knd d xs)(hz:xs.length<=sizeLine)
  (q:∀(h':Heap) (t c:Nat),(∀b o,s.heap.get? b=some o->h'.get? b=some o)->h'.get? s.heap.objs.size=some {cls:=.type "list",dict:=none,data:=.seq (xs.map fun x=>Value.ref x.2.1).toArray c,slots:=#[]}->Q (.ref s.heap.objs.size) {s with heap:=h',toks:=t}) :
  wpAny (model prog w) A (call (.type "list") [.ref d]) Q E s:=by
 obtain⟨ep,hm⟩:∃ep,HAt knd s.heap d xs ep:=by
  obtain⟨o,es,ep,h1,h2,h3,h4,_⟩:=hm
  exact⟨ep,o,es,h1,h2,h3,h4⟩
 have dlt:d<s.heap.objs.size:=by obtain⟨o,_,h1,_⟩:=hm;exact Heap.lt_size h1
 have dne:d≠s.heap.objs.size:=Nat.ne_of_lt dlt
 refine callType_codes (Q₁:=fun ob z=>ob=.ref s.heap.objs.size/\z={s with heap:=s.heap.push {cls:=.type "list",data:=.seq #[]}}) F.called_list (F.typeCall_list_1 _) F.entry_list_init (code_list_new _ ⟨rfl,rfl⟩) ?_
 rintro _ _ ⟨rfl,rfl⟩
 have g0:(s.heap.push {cls:=.type "list",data:=.seq #[]}).get? s.heap.objs.size=some {cls:=.type "list",data:=.seq #[]}:=Heap.get?_push_size _ rfl
 refine⟨⟨_,g0,rfl⟩,F.args_list_init_2 _ _,?_⟩
 show wpAny _ A.in1.in1 (do let old <-Builtin.List.listItems (.ref s.heap.objs.size);Builtin.List.listUpdate (.ref s.heap.objs.size) (fun _=>#[]);letGo old.toList.reverse;Builtin.List.listExtendWith (.ref s.heap.objs.size) (.ref d) .none) _ _ _
 refine wpAny_bind ?_
 unfold Builtin.List.listItems
 refine wpAny_bind (wpAny_seqItems g0 rfl (wpAny_pure ?_))
 show wpAny _ _ (updateSeq s.heap.objs.size (fun _=>#[]) >>= fun _=>letGo (#[]:Array Value).toList.reverse >>= fun _=>Builtin.List.listExtendWith (.ref s.heap.objs.size) (.ref d) .none) _ _ _
 refine wpAny_bind (wpAny_updateSeq g0 rfl (wpAny_bind (wpAny_letGo ?_)))
 have g1:=Heap.get?_update_self (Obj.mapSeq (fun _=>(#[]:Array Value))) g0 rfl
 have k1:∀b o,s.heap.get? b=some o->((s.heap.push {cls:=.type "list",data:=.seq #[]}).update s.heap.objs.size (Obj.mapSeq fun _=>(#[]:Array Value))).get? b=some o:=fun b o e=>
  (Heap.get?_update_other _ _ (Ne.symm (Nat.ne_of_lt (Heap.lt_size e)))).trans (Heap.get?_push_of_some _ e)
 have z1:((s.heap.push {cls:=.type "list",data:=.seq #[]}).update s.heap.objs.size (Obj.mapSeq fun _=>(#[]:Array Value))).objs.size=s.heap.objs.size+1:=by rw[Heap.size_update,Heap.size_push]
 generalize hg:(s.heap.push {cls:=.type "list",data:=.seq #[]}).update s.heap.objs.size (Obj.mapSeq fun _=>(#[]:Array Value))=h1 at *
 have m1:HAt knd h1 d xs ep:=hm.at fun o e=>k1 d o e
 unfold Builtin.List.listExtendWith
 refine wpAny_bind (wpAny_typeOf (s:={s with heap:=h1}) (HAt.ty (s:={s with heap:=h1}) m1) ?_)
 rw[if_neg (by simp[Builtin.List.listSameRef,Ne.symm dne])]
 refine wpAny_bind (znd (s:={s with heap:=h1}) hS m1 ?_)
 refine wpAny_bind (wpAny_holding (znf ?_ ?_))
 · exact HAt.ty (s:={s with heap:=h1.push _}) (m1.at fun o e=>Heap.get?_push_of_some _ e)
 rw[if_pos (by decide +kernel)]
 refine wpAny_bind (wpAny_rule (wpAny_bind ?_))
 have it0:∀{g:Heap},(h1.push {cls:=.type "dict_keyiterator",data:=.fields #[.ref d,.int 0 0,.int xs.length 0,.int ep 0]}).get? h1.objs.size=g.get? h1.objs.size->g.IsKeyIter h1.objs.size d 0 xs.length ep:=fun {g} e=>⟨_,e.symm.trans (Heap.get?_push_size _ rfl),rfl,rfl⟩
 have sne:s.heap.objs.size≠h1.objs.size:=by rw[z1];omega
 have g2:(h1.push {cls:=.type "dict_keyiterator",data:=.fields #[.ref d,.int 0 0,.int xs.length 0,.int ep 0]}).get? s.heap.objs.size=_:=Heap.get?_push_of_some _ g1
 show wpAny _ _ (updateSeq s.heap.objs.size (·.push .none) >>= fun _=>updateSeq s.heap.objs.size (·.pop)) _ _ _
 refine wpAny_bind (wpAny_updateSeq g2 rfl ?_)
 have g3:=Heap.get?_update_self (Obj.mapSeq (·.push Value.none)) g2 rfl
 refine wpAny_updateSeq (hz:=by seq_fits) g3 rfl ?_
 have g4:=Heap.get?_update_self (Obj.mapSeq (·.pop)) g3 rfl
 have k4:∀b o,b≠s.heap.objs.size->(h1.push {cls:=.type "dict_keyiterator",data:=.fields #[.ref d,.int 0 0,.int xs.length 0,.int ep 0]}).get? b=some o->(((h1.push {cls:=.type "dict_keyiterator",data:=.fields #[.ref d,.int 0 0,.int xs.length 0,.int ep 0]}).update s.heap.objs.size (Obj.mapSeq (·.push Value.none))).update s.heap.objs.size (Obj.mapSeq (·.pop))).get? b=some o:=fun b o hb e=>
  (Heap.get?_update_other _ _ (Ne.symm hb)).trans ((Heap.get?_update_other _ _ (Ne.symm hb)).trans e)
 refine wpAny_pure ⟨plainId_quiet F.plain_extend_loop _,codeAny_extend_loopS (znb (prog:=prog) (w:=w) (knd:=knd) (A:=A.in1.in1) (j:=h1.objs.size) (d:=d) hh (by rw[z1];exact Nat.ne_of_lt (Nat.lt_succ_of_lt dlt)) xs ep).toS hz _ (by simp only[List.mem_cons,List.not_mem_nil,or_false,not_or];exact⟨sne,Ne.symm dne⟩) _ xs.length 0 _ _ _ rfl (Nat.zero_le _) ⟨?_,?_⟩ g4 (ItemsOf.nil _) fun s' acc c hv hs' hacc=>?_⟩
 · exact it0 (k4 _ _ (Ne.symm sne) (Heap.get?_push_size _ rfl)▸Heap.get?_push_size _ rfl)
 · exact m1.at fun o e=>k4 d o dne (Heap.get?_push_of_some _ e)
 · rw[Moved.eq_with hv]
   refine⟨rfl,q s'.heap s'.toks c (fun b o e=>hv.heap b o (fun hm=>?_) (k4 b o (Nat.ne_of_lt (Heap.lt_size e)) (Heap.get?_push_of_some _ (k1 b o e)))) ?_⟩
   · have hb:=Heap.lt_size e
     simp only[List.mem_cons,List.not_mem_nil,or_false] at hm
     rcases hm with e2|e2
     · exact Nat.ne_of_lt hb e2
     · rw[z1] at e2;exact Nat.ne_of_lt (Nat.lt_succ_of_lt hb) e2
   · rw[hs']
     have:acc=(xs.map fun x=>Value.ref x.2.1).toArray:=by
      obtain⟨a1,a2⟩:=hacc
      apply Array.ext
      · simpa using a1
      · intro n h1 h2
        obtain⟨x,hx,e⟩:=a2 n acc[n] (Array.getElem?_eq_getElem h1)
        rw[e]
        have:=(List.getElem?_eq_some_iff.mp hx).2
        simp[this]
     rw[this]
end
section
variable {X:Cx}
theorem zpd (hc:X.calm=true):zbB X (.type "list") (fun vs H Q=>∃a ws,vs=[.ref a]/\H a=some (.dT ws)/\∀p (bs:List Addr),H p=none->Paired (fun (kv:List Key × V) b=>H b=some (.tup (kv.1.map kV))) ws bs->Q (.ref p) (upd H p (.lst (bs.map V.ref)))):=by
 intro pins s σ H xs us Q I r h
 obtain⟨a,ws,rfl,e,q⟩:=h
 obtain⟨u,rfl,ru⟩:=r.one
 cases (show u=Value.ref a from ru)
 obtain⟨z,hd,ys,rel,dd⟩:=zfz I.hok e
 have hn:H s.heap.objs.size=none:=I.hok.fresh (Nat.le_refl _)
 have hl:ys.length<=sizeLine:=by rw[<-Paired.length rel];exact z
 have pr:∀{ws:List (List Key × V)} {ys:List (List Key × Addr × Value)},KT H ws ys->Paired (fun (kv:List Key × V) b=>H b=some (.tup (kv.1.map kV))) ws (ys.map (·.2.1)):=by
  intro ws ys r
  induction r with
  |nil=>exact .nil
  |cons h t ih=>exact .cons h.2.1 ih
 have vs:∀(l:List Addr),Vals (l.map V.ref) (l.map Value.ref):=by
  intro l
  induction l with
  |nil=>exact .nil
  |cons x l ih=>exact .cons rfl ih
 refine znc (I.ok.hd hc) hd dd hl fun h' t c kp hg=>?_
 refine⟨.ref s.heap.objs.size,upd H s.heap.objs.size (.lst ((ys.map (·.2.1)).map V.ref)),I.laid (t':=t) kp (Nat.le_refl _) (show ObjOk X.prog X.w _ h' _ (.lst _) from⟨by simp only[List.length_map];exact hl,(ys.map (·.2.1)).map Value.ref,c,vs _,?_⟩),rfl,q _ _ hn (pr rel)⟩
 rw[hg,List.map_map];rfl
theorem zql:zbB X (.builtin "len") (fun vs H Q=>∃a ws,vs=[.ref a]/\H a=some (.dT ws)/\Q (.int ws.length) H):=by
 intro pins s σ H xs us Q I r h
 obtain⟨a,ws,rfl,e,q⟩:=h
 obtain⟨u,rfl,ru⟩:=r.one
 cases (show u=Value.ref a from ru)
 obtain⟨z,hd,ys,rel,dd⟩:=zfz I.hok e
 have hl:=Paired.length rel
 obtain⟨o,es,ep,h1,h2,h3,h4,_⟩:=id dd
 have hs:es.size=ws.length:=by rw[size_of_entries h4];exact hl.symm
 refine PyProof.Rows.call_len_slot (n:=ws.length) dd.typeIs F.slot_dict_len (fun Q' hq=>?_) (by omega) (by rw[sizeLine_eq] at z;omega) ⟨.int ws.length,H,I.tok _,⟨_,rfl⟩,q⟩
 refine wpAny_call_entry F.slot_dict_len dd.typeIs F.entry_dict_len ?_ (F.args_dict_len_1 _)
 show wpAny _ _ (dictSize a >>= _) _ _ s
 unfold dictSize
 refine wpAny_bind (wpAny_bind (wpAny_dictEntries h1 h3 (wpAny_pure ?_)))
 show wpAny _ _ (Builtin.Dict.pendingCount a >>= _) _ _ s
 refine wpAny_bind (wpAny_pendingCount_other hd ?_)
 rw[show ((es.size:Int)+((0:Nat):Int))=(ws.length:Nat) by rw[hs];simp]
 exact wpAny_bind (wpAny_mkInt (wpAny_pure ⟨_,rfl,hq⟩))
theorem zqp:zbB X (.type "int") (fun vs H Q=>∃b,vs=[.bl b]/\Q (.int (if b then 1 else 0)) H):=by
 intro pins s σ H xs us Q I r h
 obtain⟨b,rfl,q⟩:=h
 obtain⟨u,rfl,ru⟩:=r.one
 cases (show u=Value.bool b from ru)
 exact call_int_bool ⟨.int _,H,I.tok _,⟨_,rfl⟩,q⟩
end
end R
end
section
namespace R
open PySem PySem.Spec PyProof.Rows L2
variable [Mks]
noncomputable def Lf (K:PySem.W.Frag)(ι:List Addr)(H:Hp)(Q:D->R.St->Prop):VK:=fun v H'=>∃d ι' S',Ext ι H ι' H'/\RV K ι' H' d v/\RH K ι' H' S'/\Q d S'
section
variable {K:PySem.W.Frag} {ι ι':List Addr} {H H':Hp} {S S':R.St} {Q:D->R.St->Prop} {d:D} {v:V} {p:Addr}
theorem Lf.of (h:RH K ι H S)(r:RV K ι H d v)(q:Q d S):Lf K ι H Q v H:=⟨d,ι,S,Ext.refl ι H,r,h,q⟩
theorem Lf.up (x:Ext ι H ι' H')(h:Lf K ι' H' Q v p'):Lf K ι H Q v p':=by
 obtain⟨d,ι2,S2,x2,r⟩:=h
 exact⟨d,ι2,S2,x.trans x2,r⟩
theorem Lf.tup (h:RH K ι H S)(hp:H p=Option.none){ds:List D}{xs:List V}(r:RVs K ι H ds xs)(q:Q (.tup ds) S):Lf K ι H Q (.ref p) (upd H p (.tup xs)):=
 ⟨.tup ds,ι,S,Ext.new hp _,⟨p,xs,rfl,zap,r.ext (Ext.new hp _)⟩,h.new hp _,q⟩
theorem Lf.lst (h:RH K ι H S)(hp:H p=Option.none){ds:List D}{xs:List V}(r:RVs K ι H ds xs)(q:Q (.ref S.len) (S.push (.lst ds))):Lf K ι H Q (.ref p) (upd H p (.lst xs)):=
 ⟨.ref S.len,ι++[p],S.push (.lst ds),Ext.obj h hp _,⟨p,h.last p,rfl⟩,h.lay hp r,q⟩
theorem Lf.wr (h:RH K ι H S){l:Nat}{a:Addr}{o:MO}{ds:List D}{xs:List V}(e:S.get l=some o)(hl:ι[l]?=some a)(w:S.put l (.lst ds)=some S')(r:RVs K ι H ds xs)(rv:RV K ι H d v)(q:Q d S'):Lf K ι H Q v (upd H a (.lst xs)):=
 ⟨d,ι,S',Ext.wr h e hl _,rv.ext (Ext.wr h e hl _),h.wr e hl w ⟨xs,zap,r.ext (Ext.wr h e hl _)⟩,q⟩
end
theorem zc5 {S:R.St}{ds:List D}{Q:D->R.St->Prop}(h:W (lay S ds) Q):ds.length<=sizeLine/\Q (.ref S.len) (S.push (.lst ds)):=by
 unfold lay at h
 split at h
 · rename_i c;exact⟨by rw[sizeLine_eq];exact c,h⟩
 · exact h.elim
theorem zh4 {S:R.St}{l:Nat}{ds:List D}{d:D}{Q:D->R.St->Prop}(h:W (wr S l ds d) Q):ds.length<=sizeLine/\∃S',S.put l (.lst ds)=some S'/\Q d S':=by
 unfold wr at h
 split at h
 · rename_i c
   refine⟨by rw[sizeLine_eq];exact c,?_⟩
   cases e:S.put l (.lst ds) with
   |none=>rw[e] at h;exact h.elim
   |some S'=>rw[e] at h;exact⟨S',rfl,h⟩
 · exact h.elim
noncomputable def rD2 (K:PySem.W.Frag)(f:R.St->D->D->Out D):R2:=fun x y H Qv=>∃ι S d e Qd,RV K ι H d x/\RV K ι H e y/\RH K ι H S/\W (f S d e) Qd/\∀v H',Lf K ι H Qd v H'->Qv v H'
section
variable {X:Cx}
theorem zk4 {prog:Program}{w:World}{A:Around}{E:Value->Shared->Prop}{s:Shared}{t b:Addr}{vs ws:List Value}{Q:Value->Shared->Prop}(ht:IsTup s.heap t vs.toArray)(hb:IsTup s.heap b ws.toArray)(hv:vs=[])
  (h1:Q (.ref b) s):wpAny (model prog w) A (binaryOp .Add (.ref t) (.ref b)) Q E s:=by
 obtain⟨⟨cls,dd,data,sl⟩,ho,hc,n,hd⟩:=id ht
 obtain⟨⟨cls2,dd2,data2,sl2⟩,ho2,hc2,n2,hd2⟩:=id hb
 simp only at hc hd hc2 hd2
 subst hc hd hc2 hd2
 exact concat_meets ⟨_,ho,rfl⟩ ⟨_,ho2,rfl⟩ noFill_tuple_add seq_tuple_add PySem.F.slot_tuple_add PySem.F.entry_tuple_add (PySem.F.args_tuple_add_2 _ _)
  (tuple_addW0 t b vs.toArray ws.toArray n n2 dd dd2 sl sl2 (by simp[hv])) ⟨ho,ho2,h1⟩
theorem zkz:OpR X (binaryOp .Add) (fun x y H Q=>∃a b ys,x=.ref a/\y=.ref b/\SqT X.K H a []/\SqT X.K H b ys/\Q (.ref b) H):=by
 intro pins s σ H x y v u Q I rx ry h
 obtain⟨a,b,ys,rfl,rfl,ha,hb,q⟩:=h
 cases rx
 cases ry
 obtain⟨its,r1,p1,_⟩:=I.tuple ha
 obtain⟨its2,r2,p2,_⟩:=I.tuple hb
 exact zk4 p1 p2 (r1.nil_iff.mpr rfl) ⟨.ref b,H,I,rfl,q⟩
theorem zpB (op:Operator):OpR X (binaryOp op) (rD2 X.K fun S d e=>binD S op d e):=by
 intro pins s σ H x y v u Qv I rx ry ⟨ι,S,d,e,Qd,hd,he,hH,hw,q⟩
 dsimp only at hw
 unfold binD at hw
 split at hw
 · rename_i i j
   obtain rfl:x=.int i:=hd
   obtain rfl:y=.int j:=he
   have fin:∀k:Int,Qd (.int k) S->Qv (.int k) H:=fun k hk=>q _ _ (Lf.of (d:=.int k) hH rfl hk)
   unfold binI at hw
   split at hw
   · exact zlt pins s σ H _ _ v u Qv I rx ry ⟨i,j,rfl,rfl,fin _ hw⟩
   · exact zoW pins s σ H _ _ v u Qv I rx ry ⟨i,j,rfl,rfl,fin _ hw⟩
   · split at hw
     · rename_i c
       refine zoZ pins s σ H _ _ v u Qv I rx ry ⟨i,j,rfl,rfl,?_,fin _ hw⟩
       unfold zga at c
       rw[Bool.or_eq_true,decide_eq_true_eq,decide_eq_true_eq] at c
       exact c
     · exact hw.elim
   · split at hw
     · rename_i c
       exact zmR pins s σ H _ _ v u Qv I rx ry ⟨i,j,rfl,rfl,c,fin _ hw⟩
     · exact hw.elim
   · split at hw
     · rename_i c
       exact zo0 pins s σ H _ _ v u Qv I rx ry ⟨i,j,rfl,rfl,c,fin _ hw⟩
     · exact hw.elim
   · split at hw
     · rename_i c
       exact zoX pins s σ H _ _ v u Qv I rx ry ⟨i,j,rfl,rfl,⟨c.1,c.2.1,by omega⟩,fin _ hw⟩
     · exact hw.elim
   · exact hw.elim
 · rename_i xs ys
   split at hw
   · split at hw
     · rename_i c
       obtain⟨a,us,rfl,ha,r1⟩:=hd
       obtain⟨b,ws,rfl,hb,r2⟩:=he
       by_cases hn:us=[]
       · subst hn
         have hx:xs=[]:=by
          have:=r1.length
          simpa using this.symm
         subst hx
         refine zkz pins s σ H _ _ v u Qv I rx ry ⟨a,b,ws,rfl,rfl,SqT.of ha,SqT.of hb,?_⟩
         exact q _ _ (Lf.of (d:=.tup ys) hH ⟨b,ws,rfl,hb,r2⟩ (by simpa using hw))
       · refine zmS pins s σ H _ _ v u Qv I rx ry ⟨a,b,us,ws,rfl,rfl,SqT.of ha,SqT.of hb,hn,?_,fun hy=>?_,fun hy p hp=>?_⟩
         · rw[r1.length,r2.length,sizeLine_eq];exact c
         · subst hy
           have hx:ys=[]:=by
            have:=r2.length
            simpa using this.symm
           subst hx
           exact q _ _ (Lf.of (d:=.tup xs) hH ⟨a,us,rfl,ha,r1⟩ (by simpa using hw))
         · exact q _ _ (Lf.tup hH hp (r1.append r2) hw)
     · exact hw.elim
   · exact hw.elim
 · rename_i a b
   split at hw
   · rename_i xs ys e1 e2
     obtain⟨a1,h1,rfl⟩:=hd
     obtain⟨b1,h2,rfl⟩:=he
     obtain⟨a2,h3,us,ha,r1⟩:=hH.obj _ _ e1
     obtain⟨b2,h4,ws,hb,r2⟩:=hH.obj _ _ e2
     rw[h1] at h3;cases h3
     rw[h2] at h4;cases h4
     obtain⟨z,hq⟩:=zc5 hw
     refine zo4 pins s σ H _ _ v u Qv I rx ry ⟨a1,b1,us,ws,rfl,rfl,ha,hb,?_,fun p hp=>?_⟩
     · rw[r1.length,r2.length];rw[List.length_append] at z;exact z
     · exact q _ _ (Lf.lst hH hp (r1.append r2) hq)
   · exact hw.elim
 · exact hw.elim
theorem zba {α β:Type}{f:α->Option β}{x:α}{xs:List α}{ys:List β}(h:(x::xs).mapM f=some ys):∃y r,f x=some y/\xs.mapM f=some r/\ys=y::r:=by
 rw[List.mapM_cons] at h
 cases e:f x with
 |none=>rw[e] at h;cases h
 | some y =>
   rw[e] at h
   cases e2:xs.mapM f with
   |none=>rw[e2] at h;cases h
   |some r=>rw[e2] at h;injection h with h;exact⟨y,r,rfl,rfl,h.symm⟩
theorem zhE {ι:List Addr}{H:Hp}{S:R.St}(hH:RH X.K ι H S):∀(n:Nat) (d:D) (pdd:PyData) (v:V),pd S n d=some pdd->RV X.K ι H d v->Rep H pdd v/\pdd.canLay0=true/\pdd.depth<=n:=by
 intro n
 induction n with
 | zero =>
   intro d p v h r
   cases d<;>simp only[pd] at h
   · cases h;exact⟨r,rfl,Nat.le_refl _⟩
   · cases h;exact⟨r,rfl,Nat.le_refl _⟩
   · cases h;exact⟨r,rfl,Nat.le_refl _⟩
   · split at h
     · rename_i c;cases h;exact⟨r,c,Nat.le_refl _⟩
     · cases h
   all_goals cases h
 | succ n ih =>
   have all:∀(ds:List D) (ps:List PyData) (vs:List V),ds.mapM (pd S n)=some ps->RVs X.K ι H ds vs->RepAll H ps vs/\PyData.canLayAll0 ps=true/\PyData.depthAll ps<=n:=by
    intro ds
    induction ds with
    | nil =>
      intro ps vs h r
      have h:ps=[]:=by simpa using h.symm
      subst h
      exact⟨r,rfl,Nat.zero_le _⟩
    | cons d ds ihd =>
      intro ps vs h r
      obtain⟨y,rr,h1,h2,rfl⟩:=zba h
      obtain⟨v,w,rfl,r1,r2⟩:=r
      obtain⟨a1,a2,a3⟩:=ih d y v h1 r1
      obtain⟨b1,b2,b3⟩:=ihd rr w h2 r2
      refine⟨⟨v,w,rfl,a1,b1⟩,by simp[PyData.canLayAll0,a2,b2],?_⟩
      simp only[PyData.depthAll]
      omega
   intro d p v h r
   cases d with
   |non=>simp only[pd] at h;cases h;exact⟨r,rfl,Nat.zero_le _⟩
   |bl b=>simp only[pd] at h;cases h;exact⟨r,rfl,Nat.zero_le _⟩
   |int i=>simp only[pd] at h;cases h;exact⟨r,rfl,Nat.zero_le _⟩
   | str x =>
     simp only[pd] at h
     split at h
     · rename_i c;cases h;exact⟨r,c,Nat.zero_le _⟩
     · cases h
   | tup ds =>
     simp only[pd] at h
     cases e:ds.mapM (pd S n) with
     |none=>rw[e] at h;cases h
     | some ps =>
       rw[e] at h
       have h:PyData.tuple ps=p:=by simpa using h
       subst h
       obtain⟨a,xs,rfl,ha,rr⟩:=r
       obtain⟨b1,b2,b3⟩:=all ds ps xs e rr
       refine⟨⟨a,xs,rfl,ha,b1⟩,by simp[PyData.canLay0,b2],?_⟩
       simp only[PyData.depth]
       omega
   | ref l =>
     simp only[pd] at h
     split at h
     · rename_i ds eg
       cases e:ds.mapM (pd S n) with
       |none=>rw[e] at h;cases h
       | some ps =>
         rw[e] at h
         have h:PyData.list ps=p:=by simpa using h
         subst h
         obtain⟨a,h1,rfl⟩:=r
         obtain⟨a2,h2,xs,ha,rr⟩:=hH.obj _ _ eg
         rw[h1] at h2;cases h2
         obtain⟨b1,b2,b3⟩:=all ds ps xs e rr
         refine⟨⟨a,xs,rfl,ha,b1⟩,by simp[PyData.canLay0,b2],?_⟩
         simp only[PyData.depth]
         omega
     · cases h
   |fix ds=>simp only[pd] at h;cases h
noncomputable def rC2 (K:PySem.W.Frag)(op:CmpOp):R2:=fun x y H Qv=>∃ι S d e k,RV K ι H d x/\RV K ι H e y/\RH K ι H S/\cmpD S op d e=some k/\Qv (.bl k) H
theorem zhe {S:R.St}{d e:D}{k:Bool}(h:eqD S d e=some k):∃a b,pd S 60 d=some a/\pd S 60 e=some b/\k=PyData.eqv a b:=by
 unfold eqD at h
 cases e1:pd S 60 d with
 |none=>rw[e1] at h;cases h
 | some a =>
   rw[e1] at h
   cases e2:pd S 60 e with
   |none=>rw[e2] at h;cases h
   |some b=>rw[e2] at h;injection h with h;exact⟨a,b,rfl,rfl,h.symm⟩
open Classical in
noncomputable def eqRd (h:Heap)(p:PyData)(u:Value):Bool:=if c:∃q as,Reads h u q as/\q.canLay0=true then PyData.eqv c.choose p else false
theorem znk {h:Heap}{p q:PyData}{u:Value}{as:List Addr}(r:Reads h u q as)(c:q.canLay0=true):eqRd h p u=PyData.eqv q p:=by
 have ex:∃q as,Reads h u q as/\q.canLay0=true:=⟨q,as,r,c⟩
 unfold eqRd
 rw[dif_pos ex]
 obtain⟨as',r',c'⟩:=ex.choose_spec
 rw[SeqAt.Reads.unique _ _ _ _ _ c r r']
theorem zkO {ι:List Addr}{H:Hp}{S:R.St}{pins:List (Addr × Obj)}{σ:L2.St}{s:Shared}{A:Around}(I:Inv X pins σ H s)(hA:A.units+62<cLine)(hH:RH X.K ι H S){x:D}{px:PyData}{vx:V}{ux:Value}(hx:pd S 60 x=some px)(rx:RV X.K ι H x vx)(qx:RelV vx ux) :
  ∀{ds:List D} {vs:List V} {us:List Value} {bs:List Bool},RVs X.K ι H ds vs->Vals vs us->ds.mapM (fun z=>eqD S z x)=some bs->us.any (eqRd s.heap px)=bs.any id/\∀u∈us,SeqAt.EqAt A s u ux (eqRd s.heap px u):=by
 obtain⟨x1,x2,x3⟩:=zhE hH 60 x px vx hx rx
 obtain⟨asx,rdx⟩:=Rep.reads I px vx ux x1 qx
 intro ds
 induction ds with
 | nil =>
   intro vs us bs r rv h
   cases (show vs=[] from r)
   cases rv
   have h:bs=[]:=by simpa using h.symm
   subst h
   exact⟨rfl,fun u hu=>nomatch hu⟩
 | cons d ds ih =>
   intro vs us bs r rv h
   obtain⟨v,w,rfl,r1,r2⟩:=r
   obtain⟨b,rr,e,h2,rfl⟩:=zba h
   cases rv with
   | cons q1 q2 =>
     rename_i u us'
     obtain⟨a,b',e1,e2,rfl⟩:=zhe e
     rw[hx] at e2;cases e2
     obtain⟨p1,p2,p3⟩:=zhE hH 60 d a v e1 r1
     obtain⟨as,rd⟩:=Rep.reads I a v u p1 q1
     have hq:=znk (p:=px) rd p2
     obtain⟨i1,i2⟩:=ih r2 q2 h2
     refine⟨by simp[hq,i1],fun z hz=>?_⟩
     rcases List.mem_cons.mp hz with rfl|hz
     · rw[hq]
       exact SeqAt.eqAt_reads a px A s z ux as asx rd rdx p2 x2 (by omega)
     · exact i2 z hz
theorem zlj {ι:List Addr}{H:Hp}{S:R.St}(hH:RH X.K ι H S){d:D}{v:V}{ds:List D}(h:zcz S d=some ds)(r:RV X.K ι H d v):∃a xs,v=.ref a/\(SqL X.K H a xs\/SqT X.K H a xs)/\RVs X.K ι H ds xs:=by
 cases d with
 | tup es =>
   cases h
   obtain⟨a,xs,rfl,ha,rr⟩:=r
   exact⟨a,xs,rfl,.inr (SqT.of ha),rr⟩
 | fix es =>
   cases h
   obtain⟨a,xs,rfl,ha,rr⟩:=r
   exact⟨a,xs,rfl,.inl ha.sq,rr⟩
 | ref l =>
   simp only[zcz] at h
   split at h
   · rename_i ds' e
     cases h
     obtain⟨a,h1,rfl⟩:=r
     obtain⟨a2,h2,xs,ha,rr⟩:=hH.obj _ _ e
     rw[h1] at h2;cases h2
     exact⟨a,xs,rfl,.inl (SqL.of ha),rr⟩
   · cases h
 |_=>cases h
theorem zpl {S:R.St}{x:D}{ys:List D}{k:Bool}(h:inD S x ys=some k):∃bs,ys.mapM (fun z=>eqD S z x)=some bs/\k=bs.any id:=by
 unfold inD at h
 cases e:ys.mapM (fun z=>eqD S z x) with
 |none=>rw[e] at h;cases h
 |some bs=>rw[e] at h;injection h with h;exact⟨bs,rfl,h.symm⟩
theorem zg1:∀(as bs:List Int),R.lexLt as bs=HT.lexLt as bs
 | [],[]=>by simp[R.lexLt,HT.lexLt]
 | [],_::_=>by simp[R.lexLt,HT.lexLt]
 |_::_,[]=>by simp[R.lexLt,HT.lexLt]
 |a::as,b::bs=>by simp[R.lexLt,HT.lexLt,zg1 as bs]
theorem nonV {K:PySem.W.Frag}{ι:List Addr}{H:Hp}{d:D}{x:V}(hd:RV K ι H d x):decide (x=V.non)=zm7 d:=by
 cases d with
 |non=>rw[show x=.non from hd];rfl
 |bl b=>rw[show x=.bl b from hd];rfl
 |int b=>rw[show x=.int b from hd];rfl
 |str b=>rw[show x=.str b from hd];rfl
 |tup b=>obtain⟨_,_,rfl,_⟩:=hd;rfl
 |ref b=>obtain⟨_,_,rfl⟩:=hd;rfl
 |fix b=>obtain⟨_,_,rfl,_⟩:=hd;rfl
theorem zem (hu:X.A.units+128<cLine)(op:CmpOp):OpR X (compareOp op) (rC2 X.K op):=by
 intro pins s σ H x y v u Qv I rx ry ⟨ι,S,d,e,k,hd,he,hH,hc,q⟩
 unfold cmpD at hc
 split at hc
 · rename_i i j
   obtain rfl:x=.int i:=hd
   obtain rfl:y=.int j:=he
   unfold cmpI at hc
   split at hc
   · cases hc;exact zqk pins s σ H _ _ v u Qv I rx ry ⟨rfl,by simpa using q⟩
   · cases hc;exact zqf pins s σ H _ _ v u Qv I rx ry ⟨rfl,by simpa using q⟩
   · cases hc;exact zqg pins s σ H _ _ v u Qv I rx ry ⟨i,j,rfl,rfl,q⟩
   · cases hc;exact zqh pins s σ H _ _ v u Qv I rx ry ⟨i,j,rfl,rfl,q⟩
   · cases hc;exact zqi pins s σ H _ _ v u Qv I rx ry ⟨i,j,rfl,rfl,q⟩
   · cases hc;exact zqj pins s σ H _ _ v u Qv I rx ry ⟨i,j,rfl,rfl,q⟩
   · cases hc
 · unfold cmpO at hc
   have isin:∀(k:Bool),((zcz S e).bind fun ys=>inD S d ys)=some k->∃a xs,y=.ref a/\(SqL X.K H a xs\/SqT X.K H a xs)/\∃(px:PyData),∀us,Vals xs us->us.any (eqRd s.heap px)=k/\∀z∈us,SeqAt.EqAt X.A.in1 s z v (eqRd s.heap px z):=by
    intro k h
    cases es:zcz S e with
    |none=>rw[es] at h;cases h
    | some ys =>
      rw[es] at h
      obtain⟨bs,hb,rfl⟩:=zpl (show inD S d ys=some k from h)
      obtain⟨a,xs,rfl,hq,rr⟩:=zlj hH es he
      refine⟨a,xs,rfl,hq,?_⟩
      cases hp:pd S 60 d with
      |some px=>exact⟨px,fun us hus=>zkO I (show X.A.units+1+62<cLine by omega) hH hp hd rx rr hus hb⟩
      | none =>
        cases ys with
        | nil =>
          refine⟨.none,fun us hus=>?_⟩
          cases (show xs=[] from rr)
          cases hus
          have hb:bs=[]:=by simpa using hb.symm
          subst hb
          exact⟨rfl,fun z hz=>nomatch hz⟩
        | cons z zs =>
          obtain⟨b,r,h1,_⟩:=zba hb
          obtain⟨_,_,_,h3,_⟩:=zhe h1
          rw[hp] at h3;cases h3
   split at hc
   · rcases zhf hH hd he hc with ⟨us,a,b,rfl,rfl,ha,hb,rfl⟩|hc
     · cases (show v=Value.ref a from rx)
       cases (show u=Value.ref b from ry)
       exact zqz (by omega) I ha hb ⟨.bl true,H,I,rfl,q⟩
     obtain⟨a,b,h1,h2,rfl⟩:=zhe hc
     obtain⟨p1,p2,p3⟩:=zhE hH 60 d a x h1 hd
     obtain⟨q1,q2,q3⟩:=zhE hH 60 e b y h2 he
     exact zo3 (by omega) pins s σ H x y v u Qv I rx ry ⟨a,b,p1,q1,p2,q2,by omega,q⟩
   · cases hk:zda S d e with
     |none=>rw[hk] at hc;cases hc
     | some k' =>
       rw[hk] at hc
       rcases zhf hH hd he hk with ⟨us,a,b,rfl,rfl,ha,hb,rfl⟩|hk
       · cases (show v=Value.ref a from rx)
         cases (show u=Value.ref b from ry)
         have hc:k=false:=by simpa using hc.symm
         subst hc
         exact zqy (by omega) I ha hb ⟨.bl false,H,I,rfl,q⟩
       obtain⟨a,b,h1,h2,rfl⟩:=zhe hk
       obtain⟨p1,p2,p3⟩:=zhE hH 60 d a x h1 hd
       obtain⟨q1,q2,q3⟩:=zhE hH 60 e b y h2 he
       have hc:k = !PyData.eqv a b:=by simpa using hc.symm
       subst hc
       exact zoY (by omega) pins s σ H x y v u Qv I rx ry ⟨a,b,p1,q1,p2,q2,by omega,q⟩
   · split at hc
     · obtain rfl:y=.non:=he
       cases hc
       obtain rfl:u=Value.none:=ry
       refine is_none_gen ⟨.bl _,H,I,rfl,?_⟩
       rw[rx.none_iff,nonV hd];exact q
     · rename_i b _
       split at hc
       · rename_i a _
         cases hc
         exact zo2 pins s σ H _ _ v u Qv I rx ry ⟨a,b,hd,he,q⟩
       · cases hc
     · cases hc
   · split at hc
     · obtain rfl:y=.non:=he
       cases hc
       obtain rfl:u=Value.none:=ry
       refine isnot_none_gen ⟨.bl _,H,I,rfl,?_⟩
       rw[rx.none_iff,nonV hd];exact q
     · cases hc
   · rcases zg6 hH hd he hc with ⟨a,o,rfl,g,rfl⟩|hc
     · cases (show u=Value.ref a from ry)
       exact d_in (by omega) I g rx fun s3 I3=>⟨.bl o.isSome,H,I3,rfl,q⟩
     obtain⟨a,xs,rfl,hq,px,hp⟩:=isin _ hc
     cases (show u=Value.ref a from ry)
     rcases hq with hq|hq
     · obtain⟨its,r,pl,hz⟩:=I.list hq
       obtain⟨h1,h2⟩:=hp its r
       exact SeqAt.in_listAt (eqRd s.heap px) pl.isList (fun w hw=>h2 w (by simpa using hw)) (zay I q (by simpa using h1.symm))
     · obtain⟨its,r,pl,hz⟩:=I.tuple hq
       obtain⟨h1,h2⟩:=hp its r
       exact SeqAt.in_tupleAt (eqRd s.heap px) pl (fun w hw=>h2 w (by simpa using hw)) (zay I q (by simpa using h1.symm))
   · cases hk:zjd S d e with
     |none=>rw[hk] at hc;cases hc
     | some k' =>
       rw[hk] at hc
       have hc:k = !k':=by simpa using hc.symm
       subst hc
       rcases zg6 hH hd he hk with ⟨a,o,rfl,g,rfl⟩|hk
       · cases (show u=Value.ref a from ry)
         exact znm (by omega) I g rx fun s3 I3=>⟨.bl (!o.isSome),H,I3,rfl,q⟩
       obtain⟨a,xs,rfl,hq,px,hp⟩:=isin k' hk
       cases (show u=Value.ref a from ry)
       rcases hq with hq|hq
       · obtain⟨its,r,pl,hz⟩:=I.list hq
         obtain⟨h1,h2⟩:=hp its r
         exact SeqAt.notIn_listAt (eqRd s.heap px) pl.isList (fun w hw=>h2 w (by simpa using hw)) (zay I q (by simpa using congrArg (!·) h1.symm))
       · obtain⟨its,r,pl,hz⟩:=I.tuple hq
         obtain⟨h1,h2⟩:=hp its r
         exact SeqAt.notIn_tupleAt (eqRd s.heap px) pl (fun w hw=>h2 w (by simpa using hw)) (zay I q (by simpa using congrArg (!·) h1.symm))
   · split at hc
     · rename_i xs ys _
       cases e1:zcI xs with
       |none=>rw[e1] at hc;cases hc
       | some ns =>
         cases e2:zcI ys with
         |none=>rw[e1,e2] at hc;cases hc
         | some ms =>
           rw[e1,e2] at hc
           have hc:k=lexLt ns ms:=by simpa using hc.symm
           subst hc
           obtain⟨a,us,rfl,ha,r1⟩:=hd
           obtain⟨b,ws,rfl,hb,r2⟩:=he
           rw[zdg e1] at r1
           rw[zdg e2] at r2
           rw[r1.ints_eq] at ha
           rw[r2.ints_eq] at hb
           exact zo1 (by omega) pins s σ H _ _ v u Qv I rx ry ⟨a,b,ns,ms,rfl,rfl,SqT.of ha,SqT.of hb,by rw[<-zg1];exact q⟩
     · cases hc
   · cases hc
end
end R
end
section
namespace R
open PySem PySem.Spec PyProof.Rows L2
variable [Mks]
noncomputable def zan:Expr->Bool|.Starred _ _=>false|_=>true
noncomputable def zcb:Expr->Bool|.ListComp ..=>false|.SetComp ..=>false|.DictComp ..=>false|_=>true
noncomputable def zeE:Expr->Bool|.Slice ..=>false|_=>true
noncomputable def zbq:Expr->Bool|.Set ..=>false|_=>true
noncomputable def za9:Expr->Bool|.Call (.Name _ _) [] [] _=>false|_=>true
noncomputable def zgP:Expr->Bool|.UnaryOp .Not _ _=>false|.BoolOp ..=>false|.IfExp ..=>false|.Compare ..=>false|_=>true
noncomputable def zqB:Expr->Bool|.Tuple ..=>false|_=>true
theorem zam {e:Expr}(h:zan e=true)(es:List Expr)(env:Env):starEach (e::es) env=(false,eval e env)::starEach es env:=by
 cases e<;>first|rfl|cases h
theorem zfX {e:Expr}(h:zcb e=true)(t:Option Expr)(l:Nat)(env:Env):swapsWith e t l env=pure false:=by
 cases e<;>first|rfl|cases h
theorem zqn {e:Expr}(h:zeE e=true):zjL e:=by
 intro o i
 cases e<;>first|rfl|cases h
theorem zeI {e:Expr}(h:zbq e=true)(op:CmpOp):behindInMarks op e=false:=by
 cases e<;>first|rfl|cases h
theorem zb6 {e:Expr}(h:za9 e=true)(x:Str)(env:Env)(w:Sem Value):attributeBase e x env w=w:=by
 unfold attributeBase
 split
 · cases h
 · rfl
theorem znP {e:Expr}(h:zgP e=true)(env:Env)(w:Sem Value):isTrue e env w=(do let v <-w;standAt e.pos;holding [v] (truthy v)):=by
 cases e with
 |UnaryOp op x p=>cases op<;>first|rfl|cases h
 |_=>first|rfl|cases h
theorem zgh {e:Expr}(h:zbq e=true)(env:Env)(x:Value):foldedSetIterable e env x=pure x:=by
 cases e<;>first|rfl|cases h
theorem zbj {pos:Pos}{env:Env}:∀{es:List Expr},es.all zan=true->(backTo pos (starEach es env)).any (·.1)=false
 | [],_=>rfl
 | e :: es, h => by
   rw[List.all_cons,Bool.and_eq_true] at h
   rw[zam h.1]
   exact zbj (es:=es) h.2
structure Tab where
 blt:List Str
 cons:List (Str × D)
 fns:List (Str × List Str × Nat)
 cls:List Str:=[]
 flds:List Str:=[]
 mts:List (Nat × Str × Nat):=[]
 inits:List (Nat × Nat):=[]
 cms:List (Str × Str × Nat):=[]
 isas:List (Str × List Nat):=[]
noncomputable def zkN (sc:Scope)(x:Str):Bool:=match sc.names.lookup x with|some .local=>true|some .cell=>true|some .free=>true|_=>false
noncomputable def zfs (sc:Scope)(x:Str):Bool:=match sc.names.lookup x with|some .local=>true|some .cell=>true|_=>false
noncomputable def isGl (sc:Scope)(x:Str):Bool:=match sc.names.lookup x with|some .globalImplicit=>true|_=>false
noncomputable def eqC:D->D->Bool
 |.non,.non=>true|.bl a,.bl b=>a == b|.int a,.int b=>a == b|.str a,.str b=>a == b|_,_=>false
theorem zps:∀{d e:D},eqC d e=true->d=e:=by
 intro d e h
 cases d<;>cases e<;>first|rfl|(simp only[eqC,beq_iff_eq] at h;subst h;rfl)|cases h
noncomputable def sV:D->V
 |.non=>.non|.bl b=>.bl b|.int i=>.int i|.str x=>.str x|_=>.non
noncomputable def zj4:D->Bool
 |.non=>true|.bl _=>true|.int _=>true|.str _=>true|_=>false
theorem zp8 {K:PySem.W.Frag}{ι:List Addr}{H:Hp}{d:D}(h:zj4 d=true):RV K ι H d (sV d):=by
 cases d<;>first|rfl|cases h
noncomputable def conB:D->Const->Bool
 |.non,.none=>true|.bl a,.bool b=>a == b|.int a,.int b=>a == b|.str a,.str b=>a == b|_,_=>false
noncomputable def bltB (T:Tab)(sc:Scope)(x:Str):Bool:=isGl sc x&&T.blt.contains x
noncomputable def spF (K:PySem.W.Frag)(cf:CF)(f:Nat):Sp:=fun vs H Qv _=>∃ι S ds,RVs K ι H ds vs/\RH K ι H S/\W (cf f ds S) (fun d T=>∀v H' ι',Ext ι H ι' H'->RV K ι' H' d v->RH K ι' H' T->Qv v H')
structure HasM (P:Program) (w:World) (K:PySem.W.Frag) (mg:Str->Option Value) (base:Heap) (k c:Nat) (m:Str) (sp:Sp):Prop where
 ex:∃(C fa:Addr) (fd:FuncData) (ps:List Str),Mks.cl[c]?=some C/\Cls K C/\Meth K C m fa/\FnOk P w K mg base CX0 k fa fd ps sp/\Binds K fd ps []
structure HasI (P:Program) (w:World) (K:PySem.W.Frag) (mg:Str->Option Value) (base:Heap) (k c:Nat) (sp:Sp):Prop where
 ex:∃(C fa:Addr) (fd:FuncData) (ps:List Str),Mks.cl[c]?=some C/\Mk K C fa/\FnOk P w K mg base CX0 k fa fd ps sp/\Binds K fd ps []
structure HasC (P:Program) (w:World) (K:PySem.W.Frag) (mg:Str->Option Value) (base:Heap) (k:Nat) (x m:Str) (sp:Sp):Prop where
 ex:∃(C fa:Addr) (fd:FuncData) (ps:List Str) (mc:Value),mg x=some (.ref C)/\PySem.W.specialIn K (.ref C) "__getattribute__"=some (some (.builtin "type.__getattribute__"))/\PySem.W.readsIn K C mc=true/\PySem.W.findCls K (.ref C) mc m=some (.val (.ref fa))/\
  PySem.W.keepIn K (.ref fa)=true/\FnOk P w K mg base CX0 k fa fd ps sp/\Binds K fd ps []
structure IsaOk (K:PySem.W.Frag) (C:Addr):Prop where
 ha:PySem.W.findIn K (.ref C) "__class__"=some (some (.builtin "object.__class__"))
 hn:PySem.W.specialIn K (.builtin "object.__class__") "__get__"=some (some (.builtin "getset_descriptor.__get__"))
 ht:PySem.W.takesIn K (.builtin "object.__class__")=some true
 hm:PySem.W.mroIn K C (.type "object")=some true
structure TabOk (T:Tab) (cf:CF) (k:Nat) (P:Program) (w:World) (K:PySem.W.Frag) (mg:Str->Option Value) (base:Heap):Prop where
 blt:∀x,T.blt.contains x=true->mg x=none
 con:∀x d,T.cons.lookup x=some d->zj4 d=true/\∃u,mg x=some u/\RelV (sV d) u
 fns:∀f x ps nd,T.fns[f]?=some (x,ps,nd)->∀j,j<=nd->Has P w K mg base k x ps (List.replicate j .non) (spF K cf f)
 frm:CFok cf
 cls:∀(c:Nat) (x:Str),T.cls[c]?=some x->∃C,Mks.cl[c]?=some C/\Cls K C/\mg x=some (.ref C)/\∀f,T.flds.contains f=true->NoAttr K C f
 mth:∀(c:Nat) (m:Str) (fi:Nat),T.mts.contains (c,m,fi)=true->HasM P w K mg base k c m (spF K cf fi)
 ini:∀(c fi:Nat),T.inits.contains (c,fi)=true->HasI P w K mg base k c (spF K cf fi)
 cmd:∀(x m:Str) (fi:Nat),T.cms.contains (x,m,fi)=true->HasC P w K mg base k x m (spF K cf fi)
 cln:(T.flds≠[]\/T.inits≠[]\/T.isas≠[])->Mks.cl.length<=T.cls.length
 isa:∀(x:Str) (cs:List Nat),T.isas.contains (x,cs)=true->∃D,mg x=some (.ref D)/\∀c C,Mks.cl[c]?=some C->IsaOk K C/\PySem.W.kitOne K (.ref C) (.ref D)=some (cs.contains c)
structure Gd (T:Tab) (cf:CF) (k:Nat) (N:List Str) (sc:Scope) (X:Cx):Prop where
 nm:X.N=N
 nd:N.Nodup
 loc:∀x,sc.names.lookup x=some .local->X.env.scope.names.lookup x=some .local
 cell:∀x,sc.names.lookup x=some .cell->X.env.scope.names.lookup x=some .cell
 free:∀x,sc.names.lookup x=some .free->X.env.scope.names.lookup x=some .free\/X.env.scope.names.lookup x=some .cell
 glob:∀x,sc.names.lookup x=some .globalImplicit->X.env.scope.names.lookup x=some .globalImplicit
 fn:(∀x,X.fn x=true)\/∀x,sc.names.lookup x≠some .cell
 calm:X.calm=true
 xe:X.xe=fun _ _=>False
 room':Room (k+1) X.A
 tab:TabOk T cf k X.prog X.w X.K X.mg X.base
section
variable {T:Tab} {cf:CF} {k:Nat} {N:List Str} {sc:Scope} {X:Cx}
theorem Gd.room (G:Gd T cf k N sc X):Room k X.A:=G.room'.mono (Nat.le_succ k)
theorem Gd.hu (G:Gd T cf k N sc X):X.A.units+128<cLine:=by have:=G.room.un;omega
theorem Gd.vis (G:Gd T cf k N sc X){x:Str}(h:zkN sc x=true):Vis X.env.scope x:=by
 unfold zkN at h
 split at h
 · rename_i e;exact .inl (G.loc x e)
 · rename_i e;exact .inr (.inl (G.cell x e))
 · rename_i e
   rcases G.free x e with q|q
   · exact .inr (.inr q)
   · exact .inr (.inl q)
 · cases h
theorem Gd.lc (G:Gd T cf k N sc X){x:Str}(h:zfs sc x=true):Loc X.env.scope x/\(X.fn x=true\/X.env.scope.names.lookup x=some .local):=by
 unfold zfs at h
 split at h
 · rename_i e;exact⟨.inl (G.loc x e),.inr (G.loc x e)⟩
 · rename_i e
   refine⟨.inr (G.cell x e),?_⟩
   rcases G.fn with q|q
   · exact .inl (q x)
   · exact absurd e (q x)
 · cases h
theorem Gd.gl (G:Gd T cf k N sc X){x:Str}(h:isGl sc x=true):Gl X x:=by
 unfold isGl at h
 split at h
 · rename_i e;exact G.glob x e
 · cases h
end
noncomputable def RS (K:PySem.W.Frag)(ι:List Addr)(H:Hp)(δ:Ev)(σ:L2.St):Prop:=δ.length=σ.length/\∀(i:Nat) (d:D),δ[i]?=some (some d)->∃v,σ[i]?=some (some v)/\RV K ι H d v
theorem RS.ext {K:PySem.W.Frag}{ι ι':List Addr}{H H':Hp}{δ:Ev}{σ:L2.St}(h:RS K ι H δ σ)(x:Ext ι H ι' H'):RS K ι' H' δ σ:=
 ⟨h.1,fun i d e=>let ⟨v,e1,r⟩:=h.2 i d e;⟨v,e1,r.ext x⟩⟩
theorem RS.set {K:PySem.W.Frag}{ι:List Addr}{H:Hp}{δ:Ev}{σ:L2.St}(h:RS K ι H δ σ){d:D}{v:V}(r:RV K ι H d v)(i:Nat):RS K ι H (δ.set i (some d)) (σ.set i (some v)):=by
 refine⟨by simp[h.1],fun j e hj=>?_⟩
 by_cases hij:i=j
 · subst hij
   have hl:i<δ.length:=by
    have:=(List.getElem?_eq_some_iff.mp hj).1
    simpa using this
   rw[List.getElem?_set_self hl] at hj
   cases hj
   exact⟨v,List.getElem?_set_self (by rw[<-h.1];exact hl),r⟩
 · rw[List.getElem?_set_ne hij] at hj
   obtain⟨v',e1,r'⟩:=h.2 j e hj
   exact⟨v',by rw[List.getElem?_set_ne hij];exact e1,r'⟩
noncomputable def tE (K:PySem.W.Frag)(cf:CF)(ce:CE):TE:=fun σ H Qv=>∃δ ι S Q,RS K ι H δ σ/\RH K ι H S/\W (evE cf ce δ S) Q/\∀v H',Lf K ι H Q v H'->Qv v H'
noncomputable def LfB (K:PySem.W.Frag)(ι:List Addr)(H:Hp)(Q:Bool->R.St->Prop):Bool->Hp->Prop:=fun b H'=>∃ι' S',Ext ι H ι' H'/\RH K ι' H' S'/\Q b S'
noncomputable def tT (K:PySem.W.Frag)(cf:CF)(ce:CE):TT:=fun σ H Qv=>∃δ ι S Q,RS K ι H δ σ/\RH K ι H S/\W (evT cf ce δ S) Q/\∀b H',LfB K ι H Q b H'->Qv b H'
noncomputable def LfA (K:PySem.W.Frag)(ι:List Addr)(H:Hp)(Q:List D->R.St->Prop):List V->Hp->Prop:=fun vs H'=>∃ds ι' S',Ext ι H ι' H'/\RVs K ι' H' ds vs/\RH K ι' H' S'/\Q ds S'
noncomputable def tAs (K:PySem.W.Frag)(cf:CF)(ces:CEs):TA:=fun σ H Qv=>∃δ ι S Q,RS K ι H δ σ/\RH K ι H S/\W (evEs cf ces δ S) Q/\∀vs H',LfA K ι H Q vs H'->Qv vs H'
inductive SqK (K:PySem.W.Frag) (ι:List Addr) (H:Hp) (S:R.St) (a:Addr) (xs:List V) (ds:List D) (lks:List Nat):Prop where
 |tmp (h:a∉ι) (e:H a=some (.lst xs)):SqK K ι H S a xs ds lks
 |tup (e:H a=some (.tup xs)):SqK K ι H S a xs ds lks
 |fix (e:FixL K H a xs):SqK K ι H S a xs ds lks
 |own (l:Nat) (hl:l∈lks) (hi:ι[l]?=some a) (hs:S.get l=some (.lst ds)) (e:H a=some (.lst xs)):SqK K ι H S a xs ds lks
noncomputable def Sq (K:PySem.W.Frag)(ι:List Addr)(H:Hp)(S:R.St)(v:V)(ds:List D)(lks:List Nat):Prop:=∃a xs,v=.ref a/\RVs K ι H ds xs/\SqK K ι H S a xs ds lks
noncomputable def LfL (K:PySem.W.Frag)(ι:List Addr)(H:Hp)(Q:List D × List Nat->R.St->Prop):VK:=fun v H'=>∃ds lks ι' S',Ext ι H ι' H'/\Sq K ι' H' S' v ds lks/\RH K ι' H' S'/\Q (ds,lks) S'
noncomputable def tL (K:PySem.W.Frag)(cf:CF)(cl:CL):TE:=fun σ H Qv=>∃δ ι S Q,RS K ι H δ σ/\RH K ι H S/\W (evL cf cl δ S) Q/\∀v H',LfL K ι H Q v H'->Qv v H'
noncomputable def LfT (K:PySem.W.Frag)(ι:List Addr)(H:Hp)(Q:List D × List Nat->R.St->Prop):VK:=fun v H'=>∃ds ι' S' a xs,Ext ι H ι' H'/\v=.ref a/\RVs K ι' H' ds xs/\a∉ι'/\H' a=some (.lst xs)/\RH K ι' H' S'/\H a=none/\Q (ds,[]) S'
noncomputable def tLt (K:PySem.W.Frag)(cf:CF)(cl:CL):TE:=fun σ H Qv=>∃δ ι S Q,RS K ι H δ σ/\RH K ι H S/\W (evL cf cl δ S) Q/\∀v H',LfT K ι H Q v H'->Qv v H'
theorem LfT.l {K:PySem.W.Frag}{ι:List Addr}{H:Hp}{Q:List D × List Nat->R.St->Prop}{v:V}{H':Hp}(h:LfT K ι H Q v H'):LfL K ι H Q v H':=by
 obtain⟨ds,ι',S',a,xs,x,rfl,r,ha,e,hh,_,q⟩:=h
 exact⟨ds,[],ι',S',x,⟨a,xs,rfl,r,.tmp ha e⟩,hh,q⟩
theorem PE.imp {X:Cx}{e:Expr}{t t':TE}(h:PE X e t)(i:∀σ H Q,t' σ H Q->t σ H Q):PE X e t':=fun pins s σ H Q I q=>h pins s σ H Q I (i σ H Q q)
theorem PT.imp {X:Cx}{e:Expr}{t t':TT}(h:PT X e t)(i:∀σ H Q,t' σ H Q->t σ H Q):PT X e t':=fun pins s σ H Q I q=>h pins s σ H Q I (i σ H Q q)
theorem PW.imp {X:Cx}{e:Expr}{t t':TT}(h:PW X e t)(i:∀σ H Q,t' σ H Q->t σ H Q):PW X e t':=fun wh pins s σ H Q I q=>h wh pins s σ H Q I (i σ H Q q)
theorem PA.imp {X:Cx}{es:List Expr}{t t':TA}(h:PA X es t)(i:∀σ H Q,t' σ H Q->t σ H Q):PA X es t':=fun pos pins s σ H Q I q=>h pos pins s σ H Q I (i σ H Q q)
theorem tE.run {K:PySem.W.Frag}{cf:CF}{a:CE}{δ:Ev}{σ:L2.St}{ι:List Addr}{H:Hp}{S:R.St}{Q:D->R.St->Prop}{Qv:VK}(hs:RS K ι H δ σ)(hh:RH K ι H S)(w:W (evE cf a δ S) Q)
  (h:∀d v ι' H' S',Ext ι H ι' H'->RS K ι' H' δ σ->RH K ι' H' S'->RV K ι' H' d v->Q d S'->Qv v H'):tE K cf a σ H Qv:=
 ⟨δ,ι,S,Q,hs,hh,w,fun v H' ⟨d,ι',S',x,r,hh',q⟩=>h d v ι' H' S' x (hs.ext x) hh' r q⟩
theorem tT.run {K:PySem.W.Frag}{cf:CF}{a:CE}{δ:Ev}{σ:L2.St}{ι:List Addr}{H:Hp}{S:R.St}{Q:Bool->R.St->Prop}{Qv:Bool->Hp->Prop}(hs:RS K ι H δ σ)(hh:RH K ι H S)(w:W (evT cf a δ S) Q)
  (h:∀b ι' H' S',Ext ι H ι' H'->RS K ι' H' δ σ->RH K ι' H' S'->Q b S'->Qv b H'):tT K cf a σ H Qv:=
 ⟨δ,ι,S,Q,hs,hh,w,fun b H' ⟨ι',S',x,hh',q⟩=>h b ι' H' S' x (hs.ext x) hh' q⟩
theorem tAs.run {K:PySem.W.Frag}{cf:CF}{a:CEs}{δ:Ev}{σ:L2.St}{ι:List Addr}{H:Hp}{S:R.St}{Q:List D->R.St->Prop}{Qv:List V->Hp->Prop}(hs:RS K ι H δ σ)(hh:RH K ι H S)(w:W (evEs cf a δ S) Q)
  (h:∀ds vs ι' H' S',Ext ι H ι' H'->RS K ι' H' δ σ->RH K ι' H' S'->RVs K ι' H' ds vs->Q ds S'->Qv vs H'):tAs K cf a σ H Qv:=
 ⟨δ,ι,S,Q,hs,hh,w,fun v H' ⟨d,ι',S',x,r,hh',q⟩=>h d v ι' H' S' x (hs.ext x) hh' r q⟩
theorem PE.ofT {X:Cx}{e:Expr}{cf:CF}{cl:CL}(h:PE X e (tLt X.K cf cl)):PE X e (tL X.K cf cl):=
 PE.imp h fun σ H Qv ⟨δ,ι,S,Q,hs,hh,w,q⟩=>⟨δ,ι,S,Q,hs,hh,w,fun v H' l=>q v H' l.l⟩
theorem tLt.run {K:PySem.W.Frag}{cf:CF}{a:CL}{δ:Ev}{σ:L2.St}{ι:List Addr}{H:Hp}{S:R.St}{Q:List D × List Nat->R.St->Prop}{Qv:VK}(hs:RS K ι H δ σ)(hh:RH K ι H S)(w:W (evL cf a δ S) Q)
  (h:∀ds p xs ι' H' S',Ext ι H ι' H'->RS K ι' H' δ σ->RH K ι' H' S'->RVs K ι' H' ds xs->p∉ι'->H' p=some (.lst xs)->H p=none->Q (ds,[]) S'->Qv (.ref p) H'):tLt K cf a σ H Qv:=
 ⟨δ,ι,S,Q,hs,hh,w,fun v H' ⟨ds,ι',S',p,xs,x,e,r,hp,hx,hh',hn,q⟩=>e▸h ds p xs ι' H' S' x (hs.ext x) hh' r hp hx hn q⟩
theorem tL.run {K:PySem.W.Frag}{cf:CF}{a:CL}{δ:Ev}{σ:L2.St}{ι:List Addr}{H:Hp}{S:R.St}{Q:List D × List Nat->R.St->Prop}{Qv:VK}(hs:RS K ι H δ σ)(hh:RH K ι H S)(w:W (evL cf a δ S) Q)
  (h:∀ds lks v ι' H' S',Ext ι H ι' H'->RS K ι' H' δ σ->RH K ι' H' S'->Sq K ι' H' S' v ds lks->Q (ds,lks) S'->Qv v H'):tL K cf a σ H Qv:=
 ⟨δ,ι,S,Q,hs,hh,w,fun v H' ⟨ds,lks,ι',S',x,r,hh',q⟩=>h ds lks v ι' H' S' x (hs.ext x) hh' r q⟩
end R
end
section
namespace R
open PySem PySem.Spec PyProof.Rows L2
variable [Mks]
section
variable {T:Tab} {cf:CF} {k:Nat} {N:List Str} {sc:Scope} {X:Cx} {pos:Pos}
theorem zfR {α:Type}{o:Out α}{Q:α->R.St->Prop}(h:W o Q):∃a S,o=.ok a S/\Q a S:=W.iff.mp h
theorem zaG {α:Type}{S:R.St}{o:Option α}{Q:α->R.St->Prop}(h:W (lift S o) Q):∃a,o=some a/\Q a S:=by
 cases o with
 |none=>exact h.elim
 |some a=>exact⟨a,rfl,h⟩
theorem zod (G:Gd T cf k N sc X){i:Nat}{x:Str}(h1:N[i]?=some x)(h2:zkN sc x=true)(h3:(x == ("__debug__":Str))=false)(h4:(x == ("__classdict__":Str))=false):PE X (.Name x pos) (tE X.K cf (.loc i)):=by
 refine PE.imp (zfk (i:=i) (by rw[G.nm];exact h1) (G.vis h2) h3 h4) fun σ H Qv ⟨δ,ι,S,Q,hs,hh,w,q⟩=>?_
 simp only[evE] at w
 obtain⟨d,e,hq⟩:=zaG w
 have e':δ[i]?=some (some d):=by
  cases z:δ[i]? with
  |none=>rw[z] at e;cases e
  |some o=>rw[z] at e;simp at e;rw[e]
 obtain⟨v,ev,r⟩:=hs.2 i d e'
 exact⟨v,ev,q v H (Lf.of hh r hq)⟩
theorem zoi {d:D}{c:Const}{j:Nat}(h:conB d c=true):PE X (.Constant c j pos) (tE X.K cf (.con d)):=by
 have key:∀{v:V},PE X (.Constant c j pos) (tC v)->(∀K ι H,RV K ι H d v)->PE X (.Constant c j pos) (tE X.K cf (.con d)):=fun {v} hp hr=>
  PE.imp hp fun σ H Qv ⟨δ,ι,S,Q,hs,hh,w,q⟩=>q v H (Lf.of hh (hr _ _ _) (by simpa[evE] using w))
 cases d<;>cases c<;>first
  |exact key zlr fun _ _ _=>rfl
  |cases h
  |(simp only[conB,beq_iff_eq] at h;subst h;exact key ziQ fun _ _ _=>rfl)
  |(simp only[conB,beq_iff_eq] at h;subst h;exact key zqe fun _ _ _=>rfl)
  |(simp only[conB,beq_iff_eq] at h;subst h;exact key zoL fun _ _ _=>rfl)
theorem zmf (G:Gd T cf k N sc X){d d':D}{x:Str}(h1:isGl sc x=true)(h2:T.cons.lookup x=some d')(h3:eqC d' d=true)(h4:(x == ("__debug__":Str))=false):PE X (.Name x pos) (tE X.K cf (.con d)):=by
 have e:=zps h3
 subst e
 obtain⟨hsc,u,hu,r⟩:=G.tab.con x d' h2
 exact PE.imp (zf8 (G.gl h1) hu r h4) fun σ H Qv ⟨δ,ι,S,Q,hs,hh,w,q⟩=>q (sV d') H (Lf.of hh (zp8 hsc) (by simpa[evE] using w))
theorem zol {ca cb:CE}{a b:Expr}{op:Operator}(ha:PE X a (tE X.K cf ca))(hb:PE X b (tE X.K cf cb)):PE X (.BinOp a op b pos) (tE X.K cf (.bin op ca cb)):=by
 refine PE.imp (zoM (zpB op) ha hb) fun σ H Qv ⟨δ,ι,S,Q,hs,hh,w,q⟩=>?_
 simp only[evE,zaa] at w
 refine tE.run hs hh w fun d v ι1 H1 S1 x1 hs1 hh1 r1 w1=>tE.run hs1 hh1 w1 fun e u ι2 H2 S2 x2 hs2 hh2 r2 w2=>?_
 exact⟨ι2,S2,d,e,Q,r1.ext x2,r2,hh2,w2,fun z H3 l=>q z H3 (Lf.up (x1.trans x2) l)⟩
theorem zn9 {ca:CE}{a:Expr}(ha:PE X a (tE X.K cf ca)):PE X (.UnaryOp .USub a pos) (tE X.K cf (.neg ca)):=by
 refine PE.imp (zqb znL ha) fun σ H Qv ⟨δ,ι,S,Q,hs,hh,w,q⟩=>?_
 simp only[evE,zaa] at w
 refine tE.run hs hh w fun d v ι1 H1 S1 x1 hs1 hh1 r1 w1=>?_
 cases d with
 | int i =>
   obtain rfl:v=.int i:=r1
   exact⟨i,rfl,q _ _ (Lf.up x1 (Lf.of (d:=.int (-i)) hh1 rfl w1))⟩
 |_=>exact w1.elim
theorem zp3 {ca:CE}{a:Expr}(ha:PE X a (tE X.K cf ca)):PE X (.UnaryOp .Not a pos) (tE X.K cf (.nt ca)):=by
 refine PE.imp (zoN ha) fun σ H Qv ⟨δ,ι,S,Q,hs,hh,w,q⟩=>?_
 simp only[evE,zaa] at w
 refine tE.run hs hh w fun d v ι1 H1 S1 x1 hs1 hh1 r1 w1=>?_
 cases d with
 | bl i =>
   obtain rfl:v=.bl i:=r1
   exact⟨i,rfl,q _ _ (Lf.up x1 (Lf.of (d:=.bl (!i)) hh1 rfl w1))⟩
 |_=>exact w1.elim
theorem zoj (G:Gd T cf k N sc X){ca cb:CE}{a b:Expr}{op:CmpOp}(ha:PE X a (tE X.K cf ca))(hb:PE X b (tE X.K cf cb))(hm:zbq b=true):PE X (.Compare a [op] [b] pos) (tE X.K cf (.cmp op ca cb)):=by
 refine PE.imp (zmL (zem G.hu op) ha hb (zeI hm op)) fun σ H Qv ⟨δ,ι,S,Q,hs,hh,w,q⟩=>?_
 simp only[evE,zaa] at w
 refine tE.run hs hh w fun d v ι1 H1 S1 x1 hs1 hh1 r1 w1=>tE.run hs1 hh1 w1 fun e u ι2 H2 S2 x2 hs2 hh2 r2 w2=>?_
 obtain⟨b,hb,w3⟩:=zaG w2
 exact⟨ι2,S2,d,e,b,r1.ext x2,r2,hh2,hb,q _ _ (Lf.up (x1.trans x2) (Lf.of (d:=.bl b) hh2 rfl w3))⟩
theorem znZ (G:Gd T cf k N sc X){ca cb:CE}{a b:Expr}{op:CmpOp}(ha:PE X a (tE X.K cf ca))(hb:PE X b (tE X.K cf cb))(hm:zbq b=true):PT X (.Compare a [op] [b] pos) (tT X.K cf (.cmp op ca cb)):=by
 refine PT.imp (ziH (zem G.hu op) ha hb (zeI hm op)) fun σ H Qv ⟨δ,ι,S,Q,hs,hh,w,q⟩=>?_
 simp only[evT,zaa] at w
 refine tE.run hs hh w fun d v ι1 H1 S1 x1 hs1 hh1 r1 w1=>tE.run hs1 hh1 w1 fun e u ι2 H2 S2 x2 hs2 hh2 r2 w2=>?_
 obtain⟨b,hb,w3⟩:=zaG w2
 exact⟨ι2,S2,d,e,b,r1.ext x2,r2,hh2,hb,b,rfl,q _ _ ⟨ι2,S2,x1.trans x2,hh2,w3⟩⟩
theorem zmi (G:Gd T cf k N sc X){ca cb cc:CE}{a b c:Expr}{op op':CmpOp}(ha:PE X a (tE X.K cf ca))(hb:PE X b (tE X.K cf cb))(hc:PE X c (tE X.K cf cc))(hm:zbq b=true)(hm':zbq c=true) :
  PE X (.Compare a [op,op'] [b,c] pos) (tE X.K cf (.cmp2 op op' ca cb cc)):=by
 refine PE.imp (zkw (zem G.hu op) (zem G.hu op') ha hb hc (by simp[lastMarks,zeI hm'])) fun σ H Qv ⟨δ,ι,S,Q,hs,hh,w,q⟩=>?_
 simp only[evE,zaa] at w
 refine tE.run hs hh w fun d v ι1 H1 S1 x1 hs1 hh1 r1 w1=>tE.run hs1 hh1 w1 fun e u ι2 H2 S2 x2 hs2 hh2 r2 w2=>?_
 obtain⟨b,hb,w3⟩:=zaG w2
 refine⟨ι2,S2,d,e,b,r1.ext x2,r2,hh2,hb,b,rfl,?_⟩
 cases b with
 |false=>exact q _ _ (Lf.up (x1.trans x2) (Lf.of (d:=.bl false) hh2 rfl w3))
 | true =>
   simp only[if_true,zaa] at w3⊢
   refine tE.run hs2 hh2 w3 fun e' u' ι3 H3 S3 x3 hs3 hh3 r3 w4=>?_
   obtain⟨b,hb,w5⟩:=zaG w4
   exact⟨ι3,S3,e,e',b,r2.ext x3,r3,hh3,hb,q _ _ (Lf.up ((x1.trans x2).trans x3) (Lf.of (d:=.bl b) hh3 rfl w5))⟩
theorem zlX (G:Gd T cf k N sc X){ca cb cc:CE}{a b c:Expr}{op op':CmpOp}(ha:PE X a (tE X.K cf ca))(hb:PE X b (tE X.K cf cb))(hc:PE X c (tE X.K cf cc))(hm:zbq b=true)(hm':zbq c=true) :
  PT X (.Compare a [op,op'] [b,c] pos) (tT X.K cf (.cmp2 op op' ca cb cc)):=by
 refine PT.imp (zkh (zem G.hu op) (zem G.hu op') ha hb hc (by simp[lastMarks,zeI hm'])) fun σ H Qv ⟨δ,ι,S,Q,hs,hh,w,q⟩=>?_
 simp only[evT,zaa] at w
 refine tE.run hs hh w fun d v ι1 H1 S1 x1 hs1 hh1 r1 w1=>tE.run hs1 hh1 w1 fun e u ι2 H2 S2 x2 hs2 hh2 r2 w2=>?_
 obtain⟨b,hb,w3⟩:=zaG w2
 refine⟨ι2,S2,d,e,b,r1.ext x2,r2,hh2,hb,b,rfl,?_⟩
 cases b with
 |false=>exact⟨false,rfl,q _ _ ⟨ι2,S2,x1.trans x2,hh2,w3⟩⟩
 | true =>
   simp only[if_true,zaa] at w3⊢
   refine tE.run hs2 hh2 w3 fun e' u' ι3 H3 S3 x3 hs3 hh3 r3 w4=>?_
   obtain⟨b,hb,w5⟩:=zaG w4
   exact⟨ι3,S3,e,e',b,r2.ext x3,r3,hh3,hb,b,rfl,q _ _ ⟨ι3,S3,(x1.trans x2).trans x3,hh3,w5⟩⟩
theorem zll {ca cb:CE}{a b:Expr}{rest:List Expr}(ha:PE X a (tE X.K cf ca))(hb:PE X (.BoolOp .And (b::rest) pos) (tE X.K cf cb)):PE X (.BoolOp .And (a::b::rest) pos) (tE X.K cf (.and ca cb)):=by
 refine PE.imp (zoU ha hb) fun σ H Qv ⟨δ,ι,S,Q,hs,hh,w,q⟩=>?_
 simp only[evE,zaa] at w
 refine tE.run hs hh w fun d v ι1 H1 S1 x1 hs1 hh1 r1 w1=>?_
 cases d with
 | bl c =>
   obtain rfl:v=.bl c:=r1
   refine⟨c,rfl,?_⟩
   cases c with
   |false=>exact q _ _ (Lf.up x1 (Lf.of (d:=.bl false) hh1 rfl w1))
   |true=>exact⟨δ,ι1,S1,Q,hs1,hh1,w1,fun z H3 l=>q z H3 (Lf.up x1 l)⟩
 |_=>exact w1.elim
theorem zn8 {ca cb:CE}{a b:Expr}{rest:List Expr}(ha:PE X a (tE X.K cf ca))(hb:PE X (.BoolOp .Or (b::rest) pos) (tE X.K cf cb)):PE X (.BoolOp .Or (a::b::rest) pos) (tE X.K cf (.or ca cb)):=by
 refine PE.imp (zqc ha hb) fun σ H Qv ⟨δ,ι,S,Q,hs,hh,w,q⟩=>?_
 simp only[evE,zaa] at w
 refine tE.run hs hh w fun d v ι1 H1 S1 x1 hs1 hh1 r1 w1=>?_
 cases d with
 | bl c =>
   obtain rfl:v=.bl c:=r1
   refine⟨c,rfl,?_⟩
   cases c with
   |true=>exact q _ _ (Lf.up x1 (Lf.of (d:=.bl true) hh1 rfl w1))
   |false=>exact⟨δ,ι1,S1,Q,hs1,hh1,w1,fun z H3 l=>q z H3 (Lf.up x1 l)⟩
 |_=>exact w1.elim
theorem LfB.up {K:PySem.W.Frag}{ι ι':List Addr}{H H':Hp}{Q:Bool->R.St->Prop}{b:Bool}{H2:Hp}(x:Ext ι H ι' H')(h:LfB K ι' H' Q b H2):LfB K ι H Q b H2:=by
 obtain⟨ι2,S2,x2,r⟩:=h
 exact⟨ι2,S2,x.trans x2,r⟩
theorem zlh {ca cb:CE}{a b:Expr}{rest:List Expr}(ha:PT X a (tT X.K cf ca))(hb:PW X (.BoolOp .And (b::rest) pos) (tT X.K cf cb)):PW X (.BoolOp .And (a::b::rest) pos) (tT X.K cf (.and ca cb)):=by
 refine PW.imp (zoB ha hb) fun σ H Qv ⟨δ,ι,S,Q,hs,hh,w,q⟩=>?_
 simp only[evT,zaa] at w
 refine tT.run hs hh w fun c ι1 H1 S1 x1 hs1 hh1 w1=>?_
 cases c with
 |false=>exact q _ _ ⟨ι1,S1,x1,hh1,w1⟩
 |true=>exact⟨δ,ι1,S1,Q,hs1,hh1,w1,fun z H3 l=>q z H3 (LfB.up x1 l)⟩
theorem znY {ca cb:CE}{a b:Expr}{rest:List Expr}(ha:PT X a (tT X.K cf ca))(hb:PW X (.BoolOp .Or (b::rest) pos) (tT X.K cf cb)):PW X (.BoolOp .Or (a::b::rest) pos) (tT X.K cf (.or ca cb)):=by
 refine PW.imp (zqa ha hb) fun σ H Qv ⟨δ,ι,S,Q,hs,hh,w,q⟩=>?_
 simp only[evT,zaa] at w
 refine tT.run hs hh w fun c ι1 H1 S1 x1 hs1 hh1 w1=>?_
 cases c with
 |true=>exact q _ _ ⟨ι1,S1,x1,hh1,w1⟩
 |false=>exact⟨δ,ι1,S1,Q,hs1,hh1,w1,fun z H3 l=>q z H3 (LfB.up x1 l)⟩
theorem zp0 {ca:CE}{a:Expr}(ha:PT X a (tT X.K cf ca)):PT X (.UnaryOp .Not a pos) (tT X.K cf (.nt ca)):=by
 refine PT.imp (zoC ha) fun σ H Qv ⟨δ,ι,S,Q,hs,hh,w,q⟩=>?_
 simp only[evT,zaa] at w
 exact tT.run hs hh w fun c ι1 H1 S1 x1 hs1 hh1 w1=>q _ _ ⟨ι1,S1,x1,hh1,w1⟩
theorem znQ {ι:List Addr}{H:Hp}{S:R.St}{d:D}{v:V}{b:Bool}(hh:RH X.K ι H S)(r:RV X.K ι H d v)(h:tru S d=some b):TruV X.K v H b:=by
 cases d with
 |non=>obtain rfl:v=.non:=r;cases h;rfl
 |bl c=>obtain rfl:v=.bl c:=r;cases h;rfl
 |int i=>obtain rfl:v=.int i:=r;cases h;rfl
 | tup ds =>
   obtain⟨a,xs,rfl,ha,rr⟩:=r
   cases h
   refine .inr (.inl ⟨xs,SqT.of ha,?_⟩)
   have:=rr.length
   cases ds<;>cases xs<;>first|rfl|simp at this
 | ref l =>
   simp only[tru] at h
   split at h
   · rename_i ds e
     cases h
     obtain⟨a,h1,rfl⟩:=r
     obtain⟨a2,h2,xs,ha,rr⟩:=hh.obj _ _ e
     rw[h1] at h2;cases h2
     refine .inl ⟨xs,SqL.of ha,?_⟩
     have:=rr.length
     cases ds<;>cases xs<;>first|rfl|simp at this
   · cases h
 |_=>cases h
theorem znX {ca:CE}{a:Expr}(ha:PE X a (tE X.K cf ca))(hp:zgP a=true):PT X a (tT X.K cf (.tst ca)):=by
 refine PT.imp (zkg ha (znP hp X.env)) fun σ H Qv ⟨δ,ι,S,Q,hs,hh,w,q⟩=>?_
 simp only[evT,zaa] at w
 refine tE.run hs hh w fun d v ι1 H1 S1 x1 hs1 hh1 r1 w1=>?_
 obtain⟨b,hb,w2⟩:=zaG w1
 exact⟨b,znQ hh1 r1 hb,q _ _ ⟨ι1,S1,x1,hh1,w2⟩⟩
theorem zoe {cc ca cb:CE}{c a b:Expr}(hc:PT X c (tT X.K cf cc))(ha:PE X a (tE X.K cf ca))(hb:PE X b (tE X.K cf cb)):PE X (.IfExp c a b pos) (tE X.K cf (.ite cc ca cb)):=by
 refine PE.imp (zks hc ha hb) fun σ H Qv ⟨δ,ι,S,Q,hs,hh,w,q⟩=>?_
 simp only[evE,zaa] at w
 refine tT.run hs hh w fun c ι1 H1 S1 x1 hs1 hh1 w1=>?_
 cases c with
 |true=>exact⟨δ,ι1,S1,Q,hs1,hh1,w1,fun z H3 l=>q z H3 (Lf.up x1 l)⟩
 |false=>exact⟨δ,ι1,S1,Q,hs1,hh1,w1,fun z H3 l=>q z H3 (Lf.up x1 l)⟩
theorem zln:PA X [] (tAs X.K cf .nil):=PA.imp zfl fun σ H Qv ⟨δ,ι,S,Q,hs,hh,w,q⟩=>q [] H ⟨[],ι,S,Ext.refl _ _,rfl,hh,by simpa[evEs] using w⟩
theorem zin {ce:CE}{ces:CEs}{e:Expr}{es:List Expr}(he:PE X e (tE X.K cf ce))(hes:PA X es (tAs X.K cf ces))(hn:zan e=true):PA X (e::es) (tAs X.K cf (.cons ce ces)):=by
 refine PA.imp (zbZ he hes (zam hn es X.env)) fun σ H Qv ⟨δ,ι,S,Q,hs,hh,w,q⟩=>?_
 simp only[evEs,zaa] at w
 refine tE.run hs hh w fun d v ι1 H1 S1 x1 hs1 hh1 r1 w1=>tAs.run hs1 hh1 w1 fun ds vs ι2 H2 S2 x2 hs2 hh2 r2 w2=>?_
 exact q _ _ ⟨d::ds,ι2,S2,x1.trans x2,⟨v,vs,rfl,r1.ext x2,r2⟩,hh2,w2⟩
theorem zn7 {ces:CEs}{es:List Expr}{j:Nat}(h:PA X es (tAs X.K cf ces)):PE X (.Tuple es j pos) (tE X.K cf (.tup ces)):=by
 refine PE.imp (zoK h) fun σ H Qv ⟨δ,ι,S,Q,hs,hh,w,q⟩=>?_
 simp only[evE,zaa] at w
 refine tAs.run hs hh w fun ds vs ι1 H1 S1 x1 hs1 hh1 r1 w1=>?_
 split at w1
 · rename_i c
   exact⟨by rw[r1.length,sizeLine_eq];exact c,fun p hp=>q _ _ (Lf.up x1 (Lf.tup hh1 hp r1 w1))⟩
 · exact w1.elim
theorem zoc {ces:CEs}{es:List Expr}(h:PA X es (tAs X.K cf ces)):PE X (.List es pos) (tE X.K cf (.lst ces)):=by
 refine PE.imp (zoO h) fun σ H Qv ⟨δ,ι,S,Q,hs,hh,w,q⟩=>?_
 simp only[evE,zaa] at w
 refine tAs.run hs hh w fun ds vs ι1 H1 S1 x1 hs1 hh1 r1 w1=>?_
 obtain⟨c,w2⟩:=zc5 w1
 exact⟨by rw[r1.length];exact c,fun p hp=>q _ _ (Lf.up x1 (Lf.lst hh1 hp r1 w2))⟩
theorem zmh:PE X (.Dict [] [] pos) (tE X.K cf .dnew):=by
 refine PE.imp zgR fun σ H Qv ⟨δ,ι,S,Q,hs,hh,w,q⟩=>?_
 simp only[evE] at w
 intro p hp
 exact q _ _ ⟨.ref S.len,ι++[p],S.push (.dic []),Ext.obj hh hp _,⟨p,hh.last p,rfl⟩,hh.obj' hp _ _ ⟨rfl,zap⟩,w⟩
theorem zqm {ι:List Addr}{H:Hp}{S:R.St}{d:D}{v:V}{ds:List D}{i:Int}{e:D}(hh:RH X.K ι H S)(r:RV X.K ι H d v)(hq:zcz S d=some ds)(ha:R.atI ds i=some e):∃u,rIx X.K v (.int i) H (fun z H'=>z=u/\H'=H)/\RV X.K ι H e u:=by
 obtain⟨a,xs,rfl,hx,rr⟩:=zlj hh hq r
 have hl:=rr.length
 have key:∃u,L2.atI xs i=some u/\RV X.K ι H e u:=by
  unfold R.atI at ha
  cases e1:R.ixN ds.length i with
  |none=>rw[e1] at ha;cases ha
  | some j =>
    rw[e1] at ha
    obtain⟨u,h1,h2⟩:=rr.get (show ds[j]?=some e from ha)
    refine⟨u,?_,h2⟩
    unfold L2.atI
    have:L2.ixN xs.length i=some j:=by rw[hl];exact e1
    rw[this];exact h1
 obtain⟨u,h1,h2⟩:=key
 refine⟨u,?_,h2⟩
 rcases hx with hx|hx
 · exact .inl ⟨a,xs,i,u,rfl,rfl,hx,h1,rfl,rfl⟩
 · exact .inr (.inl ⟨a,xs,i,u,rfl,rfl,hx,h1,rfl,rfl⟩)
theorem zmu {K:PySem.W.Frag}{x y u:V}{H:Hp}{Q:VK}(h:rIx K x y H (fun z H'=>z=u/\H'=H))(q:Q u H):rIx K x y H Q:=by
 rcases h with ⟨p,xs,i,v,h1,h2,h3,h4,rfl,_⟩|⟨p,xs,i,v,h1,h2,h3,h4,rfl,_⟩|⟨z,i,c,h1,h2,h3,h4,h5,_⟩
 · exact .inl ⟨p,xs,i,v,h1,h2,h3,h4,q⟩
 · exact .inr (.inl ⟨p,xs,i,v,h1,h2,h3,h4,q⟩)
 · exact .inr (.inr ⟨z,i,c,h1,h2,h3,h4,by rw[h5];exact q⟩)
theorem zp5 {ca cb:CE}{a b:Expr}(ha:PE X a (tE X.K cf ca))(hb:PE X b (tE X.K cf cb))(hp:zeE b=true):PE X (.Subscript a b pos) (tE X.K cf (.ix ca cb)):=by
 refine PE.imp (zqd zpk ha hb (zqn hp)) fun σ H Qv ⟨δ,ι,S,Q,hs,hh,w,q⟩=>?_
 simp only[evE,zaa] at w
 refine tE.run hs hh w fun d v ι1 H1 S1 x1 hs1 hh1 r1 w1=>tE.run hs1 hh1 w1 fun e u ι2 H2 S2 x2 hs2 hh2 r2 w2=>?_
 split at w2
 · rename_i ds i eq
   obtain⟨z,hz,w3⟩:=zaG w2
   obtain rfl:u=.int i:=r2
   obtain⟨u,h1,h2⟩:=zqm hh2 (r1.ext x2) eq hz
   exact zmu h1 (q _ _ (Lf.up (x1.trans x2) (Lf.of hh2 h2 w3)))
 · exact w2.elim
end
end R
end
section
namespace R
open PySem PySem.Spec PyProof.Rows L2
variable [Mks]
section
variable {K:PySem.W.Frag} {ι ι':List Addr} {H H':Hp} {S T:R.St} {d:D} {v:V}
theorem zni {l:Nat}{o:MO}(hf:T.frz=S.frz++S.new)(h:S.get l=some o):T.get l=some o:=by
 obtain⟨f,n,k⟩:=T
 have hf:f=S.frz++S.new:=hf
 subst hf
 exact zdK h n k
theorem RH.cut (hh:RH K ι H S)(x:Ext ι H ι' H')(hT:RH K ι' H' T)(hf:T.frz=S.frz++S.new):RH K ι H' S:=by
 refine⟨hh.len,hh.nd,fun l o e=>?_,hT.tab⟩
 obtain⟨a,h1,h2⟩:=hh.obj l o e
 obtain⟨b,h3,h4⟩:=hT.obj l o (zni hf e)
 rw[zbY x.pre h1] at h3;cases h3
 refine⟨a,h1,?_⟩
 cases o with
 | lst ds =>
   obtain⟨xs,_,r1⟩:=h2
   obtain⟨ys,e2,r2⟩:=h4
   exact⟨ys,e2,r2.restrict x.pre r1.flats⟩
 |dic kvs=>exact h4
 | ins c fs =>
   obtain⟨_,_,ws,_,_,r1⟩:=h2
   obtain⟨C,dx,ys,e0,e2,r2⟩:=h4
   exact⟨C,dx,ys,e0,e2,r2.restrict x.pre r1.flats⟩
 | dtp kvs =>
   obtain⟨_,ws,_,r1⟩:=h2
   obtain⟨nd,ys,e2,r2⟩:=h4
   exact⟨nd,ys,e2,r2.restrict x.pre r1.flats⟩
theorem Ext.cut (x:Ext ι H ι' H'):Ext ι H ι H':=⟨List.prefix_refl _,x.kp,fun a o h e=>⟨(x.rest a o h e).1,h⟩⟩
theorem ziK {l:Nat}{a:Addr}(hp:ι <+: ι')(nd:ι'.Nodup)(hl:ι'[l]?=some a)(h:ι.length<=l):a∉ι:=fun hm=>by
 obtain⟨t,rfl⟩:=hp
 rw[List.getElem?_append_right h] at hl
 have h2:=List.mem_of_getElem? hl
 exact (List.nodup_append.mp nd).2.2 a hm a h2 rfl
theorem zgi {l:Nat}{a:Addr}(x:Ext ι H ι' H')(nd:ι'.Nodup)(hl:ι'[l]?=some a)(h:ι.length<=l):Ext ι H (ι++[a]) H':=by
 refine⟨List.prefix_append _ _,x.kp,fun b o hb e=>⟨(x.rest b o hb e).1,fun z=>?_⟩⟩
 rcases List.mem_append.mp z with z|z
 · exact hb z
 · simp at z
   subst z
   exact (x.rest b o hb e).2 (List.mem_of_getElem? hl)
theorem RH.one {l:Nat}{a:Addr}{o:MO}(hh:RH K ι H' S)(nd:a∉ι)(ho:RO K (ι++[a]) H' a o):RH K (ι++[a]) H' (S.push o):=by
 refine⟨by rw[List.length_append,hh.len,zck];rfl,?_,fun l o' e=>?_,hh.tab⟩
 · rw[List.nodup_append]
   refine⟨hh.nd,by simp,fun b hb c hc=>?_⟩
   simp at hc;subst hc
   exact fun z=>nd (z▸hb)
 · by_cases hl:l<S.len
   · rw[zcv hl] at e
     obtain⟨b,h1,h2⟩:=hh.obj l o' e
     exact⟨b,zbY (List.prefix_append _ _) h1,h2.up (List.prefix_append _ _) (Kp.refl _) rfl⟩
   · have hl2:=zbn e
     rw[zck] at hl2
     have:l=S.len:=by omega
     subst this
     rw[zeN] at e;cases e
     exact⟨a,by rw[<-hh.len];simp,ho⟩
theorem RH.keep (hT:RH K ι' H' T)(hf:T.frz=S.frz++S.new):RH K ι' H' ⟨S.frz,S.new++T.new,S.lk⟩:=by
 have hg:∀l,(R.St.mk S.frz (S.new++T.new) S.lk).get l=T.get l:=fun l=>by
  unfold St.get
  rw[hf]
  simp only[List.length_append]
  by_cases h1:l<S.frz.length
  · rw[if_pos h1,if_pos (by omega),List.getElem?_append_left h1]
  · by_cases h2:l<S.frz.length+S.new.length
    · rw[if_neg h1,if_pos h2,List.getElem?_append_left (by omega),List.getElem?_append_right (by omega)]
    · rw[if_neg h1,if_neg h2,List.getElem?_append_right (by omega)]
      congr 1;omega
 refine⟨?_,hT.nd,fun l o e=>hT.obj l o (by rw[<-hg];exact e),hT.tab⟩
 rw[hT.len]
 unfold St.len
 rw[hf]
 simp only[List.length_append]
 omega
theorem zg2 {Q:D->R.St->Prop}(hh:RH K ι H S)(x:Ext ι H ι' H')(r:RV K ι' H' d v)(hT:RH K ι' H' T)(hf:T.frz=S.frz++S.new)(w:W (zcX S d T) Q):Lf K ι H Q v H':=by
 have hc:=hh.cut x hT hf
 unfold zcX at w
 split at w
 · rename_i c
   rw[<-hh.len] at c
   exact⟨d,ι,S,x.cut,r.restrict x.pre c,hc,w⟩
 · rename_i c
   dsimp only at w
   split at w
   · rename_i l
     obtain⟨a,h1,rfl⟩:=id r
     have hl:ι.length<=l:=by
      simp only[R.flat,decide_eq_true_eq] at c
      rw[hh.len];omega
     have ha:=ziK x.pre hT.nd h1 hl
     split at w
     · rename_i ds e
       obtain⟨b,h2,h3⟩:=hT.obj l _ e
       rw[h1] at h2;cases h2
       split at w
       · rename_i c2
         rw[<-hh.len] at c2
         obtain⟨ys,e2,r2⟩:=h3
         refine⟨.ref S.len,ι++[a],S.push (.lst ds),zgi x hT.nd h1 hl,⟨a,by rw[<-hh.len];simp,rfl⟩,hc.one (l:=l) ha ⟨ys,e2,(r2.restrict x.pre c2).up (List.prefix_append _ _) (Kp.refl _)⟩,w⟩
       · exact⟨_,ι',_,x,r,hT.keep hf,w⟩
     · rename_i kvs e
       obtain⟨b,h2,h3⟩:=hT.obj l _ e
       rw[h1] at h2;cases h2
       split at w
       · exact⟨.ref S.len,ι++[a],S.push (.dic kvs),zgi x hT.nd h1 hl,⟨a,by rw[<-hh.len];simp,rfl⟩,hc.one (l:=l) ha h3,w⟩
       · exact⟨_,ι',_,x,r,hT.keep hf,w⟩
     · rename_i kvs e
       obtain⟨b,h2,h3⟩:=hT.obj l _ e
       rw[h1] at h2;cases h2
       split at w
       · rename_i c2
         rw[<-hh.len] at c2
         obtain⟨nd,ys,e2,r2⟩:=h3
         refine⟨.ref S.len,ι++[a],S.push (.dtp kvs),zgi x hT.nd h1 hl,⟨a,by rw[<-hh.len];simp,rfl⟩,hc.one (l:=l) ha ⟨nd,ys,e2,(r2.restrict x.pre c2).up (List.prefix_append _ _) (Kp.refl _)⟩,w⟩
       · exact⟨_,ι',_,x,r,hT.keep hf,w⟩
     · exact⟨_,ι',_,x,r,hT.keep hf,w⟩
   · exact⟨_,ι',_,x,r,hT.keep hf,w⟩
theorem ziZ {Q:List D->R.St->Prop}(hh:RH K ι H S)(x:Ext ι H ι' H')(r:RV K ι' H' d v)(hT:RH K ι' H' T)(hf:T.frz=S.frz++S.new)(w:W (zdC S d T) Q):∃ds a xs,Ext ι H ι H'/\RH K ι H' S/\v=.ref a/\RVs K ι H' ds xs/\a∉ι/\H' a=some (.lst xs)/\H a=none/\Q ds S:=by
 have hc:=hh.cut x hT hf
 unfold zdC at w
 cases d with
 | ref l =>
   dsimp only at w
   split at w
   · exact w.elim
   · rename_i c
     obtain⟨a,h1,rfl⟩:=r
     have hl:ι.length<=l:=by rw[hh.len];omega
     have ha:=ziK x.pre hT.nd h1 hl
     cases e:T.get l with
     |none=>rw[e] at w;exact w.elim
     | some o =>
       rw[e] at w
       obtain⟨b,h2,h3⟩:=hT.obj l o e
       rw[h1] at h2;cases h2
       cases o with
       | lst ds =>
         dsimp only at w
         split at w
         · rename_i c2
           rw[<-hh.len] at c2
           obtain⟨ys,e2,r2⟩:=h3
           refine⟨ds,a,ys,x.cut,hc,rfl,r2.restrict x.pre c2,ha,e2,?_,w⟩
           cases eh:H a with
           |none=>rfl
           |some o=>exact absurd (List.mem_of_getElem? h1) (x.rest a o ha eh).2
         · exact w.elim
       |_=>exact w.elim
 |_=>exact w.elim
end
section
variable {T:Tab} {cf:CF} {k:Nat} {N:List Str} {sc:Scope} {X:Cx} {pos p:Pos}
theorem RVs.nons {K:PySem.W.Frag}{ι:List Addr}{H:Hp}:∀j:Nat,RVs K ι H (List.replicate j .non) (List.replicate j .non)
 |0=>rfl
 |j+1=>⟨.non,List.replicate j .non,rfl,rfl,RVs.nons j⟩
theorem RH.enter {K:PySem.W.Frag}{ι:List Addr}{H:Hp}{S:R.St}(h:RH K ι H S):RH K ι H S.enter:=⟨by rw[enter_len];exact h.len,h.nd,fun l o e=>h.obj l o (by rw[zaL] at e;exact e),h.tab⟩
theorem zjD {f j:Nat}{ces:CEs}{σ:L2.St}{H:Hp}{Qv:VK}(hfr:CFok cf)(h:tE X.K cf (.call f j ces) σ H Qv) :
  zeu (spF X.K cf f) (List.replicate j .non) E0 (tAs X.K cf ces) σ H Qv:=by
 obtain⟨δ,ι,S,Q,hs,hh,w,q⟩:=h
 simp only[evE,zaa] at w
 refine tAs.run hs hh w fun ds vs ι1 H1 S1 x1 hs1 hh1 r1 w1=>?_
 unfold app at w1
 rw[zaa] at w1
 refine⟨ι1,S1.enter,ds++List.replicate j .non,r1.append (RVs.nons j),hh1.enter,?_⟩
 obtain⟨d,T',e,w2⟩:=zfR w1
 rw[e]
 exact fun v H' ι' x r hT=>q v H' (Lf.up x1 (zg2 hh1 x r hT (hfr _ _ _ _ _ e).frz w2))
theorem zfQ {K:PySem.W.Frag}{ι ι1:List Addr}{H H1:Hp}{S1:R.St}{a:Addr}(hh:RH K ι1 H1 S1)(x:Ext ι H ι1 H1)(hn:H1 a=none):H a=none:=by
 cases e:H a with
 |none=>rfl
 | some o =>
   by_cases hm:a∈ι
   · have h2:a∈ι1:=by obtain⟨t,rfl⟩:=x.pre;exact List.mem_append_left _ hm
     exact absurd h2 (hh.fresh hn)
   · have:=(x.rest a o hm e).1
     rw[hn] at this
     rcases this with z|⟨_,_,z⟩<;>cases z
theorem zhX {f j:Nat}{ces:CEs}{σ:L2.St}{H:Hp}{Qv:VK}(hfr:CFok cf)(h:tLt X.K cf (.callL f j ces) σ H Qv) :
  zeu (spF X.K cf f) (List.replicate j .non) E0 (tAs X.K cf ces) σ H Qv:=by
 obtain⟨δ,ι,S,Q,hs,hh,w,q⟩:=h
 simp only[evL,zaa] at w
 refine tAs.run hs hh w fun ds vs ι1 H1 S1 x1 hs1 hh1 r1 w1=>?_
 unfold appL at w1
 rw[zaa] at w1
 refine⟨ι1,S1.enter,ds++List.replicate j .non,r1.append (RVs.nons j),hh1.enter,?_⟩
 obtain⟨d,T',e,w2⟩:=zfR w1
 rw[e]
 intro v H' ι' x r hT
 obtain⟨ds,a,xs,x2,hh2,e1,r2,ha,e2,hn,w3⟩:=ziZ hh1 x r hT (hfr _ _ _ _ _ e).frz w2
 exact q v H' ⟨ds,ι1,S1,a,xs,x1.trans x2,e1,r2,ha,e2,hh2,zfQ hh1 x1 hn,w3⟩
theorem zmj (G:Gd T cf k N sc X){f j:Nat}{x:Str}{ps:List Str}{nd:Nat}{ces:CEs}{e:Expr}{es:List Expr}(hf:T.fns[f]?=some (x,ps,nd))(hj:j<=nd)(hg:isGl sc x=true)(hd:(x == ("__debug__":Str))=false)(ha:PA X (e::es) (tAs X.K cf ces))(hst:(e::es).all zan=true) :
  PE X (.Call (.Name x p) (e::es) [] pos) (tE X.K cf (.call f j ces)):=by
 have Hs:=G.tab.fns f x ps nd hf j hj
 rw[List.all_cons,Bool.and_eq_true] at hst
 exact PE.imp (zoR Hs G.room ha (G.gl hg) hd (zam hst.1 es X.env) (zbj hst.2)) fun σ H Qv h=>zjD G.tab.frm h
theorem zj3 (G:Gd T cf k N sc X){f j:Nat}{x:Str}{ps:List Str}{nd:Nat}(hf:T.fns[f]?=some (x,ps,nd))(hj:j<=nd)(hg:isGl sc x=true)(hd:(x == ("__debug__":Str))=false) :
  PE X (.Call (.Name x p) [] [] pos) (tE X.K cf (.call f j .nil)):=by
 have Hs:=G.tab.fns f x ps nd hf j hj
 refine PE.imp (zoQ Hs G.room (G.gl hg) hd) fun σ H Qv ⟨δ,ι,S,Q,hs,hh,w,q⟩=>?_
 simp only[evE,evEs,zbR] at w
 unfold app at w
 rw[zaa] at w
 obtain⟨d,T',e,w2⟩:=zfR w
 refine⟨ι,S.enter,[]++List.replicate j .non,RVs.append rfl (RVs.nons j),hh.enter,?_⟩
 rw[e]
 exact fun v H' ι' x r hT=>q v H' (zg2 hh x r hT (G.tab.frm _ _ _ _ _ e).frz w2)
theorem zl5 (G:Gd T cf k N sc X){f j:Nat}{x:Str}{ps:List Str}{nd:Nat}{ces:CEs}{e:Expr}{es:List Expr}(hf:T.fns[f]?=some (x,ps,nd))(hj:j<=nd)(hg:isGl sc x=true)(hd:(x == ("__debug__":Str))=false)(ha:PA X (e::es) (tAs X.K cf ces))(hst:(e::es).all zan=true) :
  PE X (.Call (.Name x p) (e::es) [] pos) (tLt X.K cf (.callL f j ces)):=by
 have Hs:=G.tab.fns f x ps nd hf j hj
 rw[List.all_cons,Bool.and_eq_true] at hst
 exact PE.imp (zoR Hs G.room ha (G.gl hg) hd (zam hst.1 es X.env) (zbj hst.2)) fun σ H Qv h=>zhX G.tab.frm h
end
end R
end
section
namespace R
open PySem PySem.Spec PyProof.Rows L2
variable [Mks]
section
variable {T:Tab} {cf:CF} {k:Nat} {N:List Str} {sc:Scope} {X:Cx} {pos p:Pos}
theorem zdJ {S:R.St}{d:D}{c:Nat}{fs:List (Str × D)}(h:zbO S d=some (c,fs)):∃l,d=.ref l/\S.get l=some (.ins c fs):=by
 cases d with
 | ref l =>
   refine⟨l,rfl,?_⟩
   unfold zbO at h
   dsimp only at h
   cases e:S.get l with
   |none=>rw[e] at h;cases h
   | some o =>
     rw[e] at h
     cases o with
     |ins c' fs'=>cases h;rfl
     |_=>cases h
 |_=>cases h
theorem ne_of {α:Type}[BEq α]{xs:List α}{a:α}(h:xs.contains a=true):xs≠[]:=fun e=>by rw[e] at h;simp at h
theorem Gd.clsAt (G:Gd T cf k N sc X)(h0:T.flds≠[]\/T.inits≠[]\/T.isas≠[]){c:Nat}{C:Addr}(h:Mks.cl[c]?=some C):∃x,T.cls[c]?=some x/\Cls X.K C/\X.mg x=some (.ref C)/\∀f,T.flds.contains f=true->NoAttr X.K C f:=by
 have hl:c<T.cls.length:=Nat.lt_of_lt_of_le (List.getElem?_eq_some_iff.mp h).1 (G.tab.cln h0)
 obtain⟨C',h1,h2,h3,h4⟩:=G.tab.cls c T.cls[c] (List.getElem?_eq_getElem hl)
 rw[h] at h1;cases h1
 exact⟨_,List.getElem?_eq_getElem hl,h2,h3,h4⟩
theorem zog (G:Gd T cf k N sc X){ca:CE}{a:Expr}{f:Str}(ha:PE X a (tE X.K cf ca))(hsup:za9 a=true)(hf:T.flds.contains f=true):PE X (.Attribute a f pos) (tE X.K cf (.fld ca f)):=by
 refine PE.imp (zoS ha (zb6 hsup f X.env _)) fun σ H Qv ⟨δ,ι,S,Q,hs,hh,w,q⟩=>?_
 simp only[evE,zaa] at w
 refine tE.run hs hh w fun d v ι1 H1 S1 x1 hs1 hh1 r1 w1=>?_
 obtain⟨u,eu,w2⟩:=zaG w1
 cases ei:zbO S1 d with
 |none=>rw[ei] at eu;cases eu
 | some pr =>
   obtain⟨c,fs⟩:=pr
   rw[ei] at eu
   have eu:fs.lookup f=some u:=eu
   obtain⟨l,rfl,hl⟩:=zdJ ei
   obtain⟨b,i1,rfl⟩:=r1
   obtain⟨b',i2,C,dx,ws,hC,hb,rf⟩:=hh1.obj l _ hl
   rw[i1] at i2;cases i2
   obtain⟨_,_,cl,_,na⟩:=G.clsAt (.inl (ne_of hf)) hC
   rcases rf.look f with ⟨e1,_⟩|⟨d',v',e1,e2,rv⟩
   · rw[eu] at e1;cases e1
   · rw[eu] at e1;cases e1
     exact⟨b,C,dx,ws,v',rfl,hb,cl,na f hf,e2,q _ _ (Lf.up x1 (Lf.of hh1 rv w2))⟩
theorem zeH {prog:Program}{w:World}{A:Around}{E:Value->Shared->Prop}{s:Shared}{env:Env}{o:Expr}{name:Str}{apos pos:Pos}{args:List Expr}{Q:Value->Shared->Prop}
  (hbase:attributeBase o name env (eval o env)=eval o env)
  (hfew:((backTo pos (starEach args env)).all (fun x=>!x.1)&&(backToKw pos (keywordEach [] env)).all (fun x=>x.1.isSome)
   && decide (args.length+([]:List Keyword).length+(if ([]:List Keyword).isEmpty then 0 else 1)<30))=true)
  (hline:(apos.endLine == pos.line)=true)
  (h:wpAny (model prog w) A (eval o env) (fun ov s₁=>∀pl,wpAny (model prog w) A (getMethod ov name pl) (fun fx s₂=>wpAny (model prog w) A (callWith pos fx.1 fx.2 (backTo pos (starEach args env)) (backToKw pos (keywordEach [] env))) Q E s₂) E s₁) E s) :
  wpAny (model prog w) A (eval (.Call (.Attribute o name apos) args [] pos) env) Q E s:=by
 rw[arm_eval_Call,hbase]
 refine wpAny_bind (wpAny_mono h (fun ov s₁ h₁=>?_) fun _ _ e=>e)
 refine wpAny_bind (wpAny_standAt ?_)
 have hform:methodCallForm (args.length+([]:List Keyword).length) (backTo pos (starEach args env)) (backToKw pos (keywordEach [] env))=true:=hfew
 have hpos:methodCallPos true o env apos pos=pure pos:=by unfold methodCallPos;simp[hline]
 unfold methodCall
 rw[hform]
 refine wpAny_bind (wpAny_holding (wpAny_mono (h₁ _) (fun fx s₂ h₂=>?_) fun _ _ e=>e))
 obtain⟨f,first⟩:=fx
 exact wpAny_bind (wpAny_of_eq hpos h₂)
noncomputable def zig (X:Cx)(k:Nat)(m:Str)(ta:TE)(t:TA):TE:=fun σ H Q=>ta σ H fun x H1=>∃(a C dx:Addr) (fs:List (Str × V)) (fa:Addr) (fd:FuncData) (ps:List Str) (sp:Sp),x=.ref a/\H1 a=some (.ins C dx fs)/\Cls X.K C/\Meth X.K C m fa/\
 FnOk X.prog X.w X.K X.mg X.base CX0 k fa fd ps sp/\Binds X.K fd ps []/\fs.lookup m=none/\t σ H1 fun vs H2=>sp (x::vs) H2 Q E0
theorem zko {o e:Expr}{es:List Expr}{m:Str}{ta:TE}{t:TA}{apos:Pos}(he:PE X o ta)(hr:Room k X.A)(ha:PA X (e::es) t)
  (hbase:attributeBase o m X.env (eval o X.env)=eval o X.env)
  (hfew:((backTo pos (starEach (e::es) X.env)).all (fun x=>!x.1)&&(backToKw pos (keywordEach [] X.env)).all (fun x=>x.1.isSome)
   && decide ((e::es).length+([]:List Keyword).length+(if ([]:List Keyword).isEmpty then 0 else 1)<30))=true)
  (hline:(apos.endLine == pos.line)=true) (hst:starEach (e::es) X.env=(false,eval e X.env)::starEach es X.env) (hpl:(backTo pos (starEach es X.env)).any (·.1)=false) :
  PE X (.Call (.Attribute o m apos) (e::es) [] pos) (zig X k m ta t):=by
 intro pins s σ H Q I h
 refine zeH hbase hfew hline (thn (he pins s σ H _ I h) fun u s1 ⟨x,H1,I1,rx,a,C,dx,fs,fa,fd,ps,sp,ex,ea,c,hm,F,hb,l,q⟩ pl=>?_)
 subst ex
 obtain rfl:u=Value.ref a:=rx
 refine zeg I1 ea c hm l ?_
 refine PySem.W.callWith_K (first:=[.ref a]) (h₀:=X.base) I.ok.mod.kin hm.kp (thn (ha pos pins s1 σ H1 _ I1 q) fun us s2 ⟨vs,H2,I2,r,q2⟩=>⟨I2.kIn,?_⟩) hst hpl
 exact zfe (us:=.ref a::us) (vs:=.ref a::vs) F hr hb .nil zf9 I2 (.cons rfl r) (by rw[List.append_nil];exact q2)
theorem ziP {o:Expr}{m:Str}{ta:TE}{apos:Pos}(he:PE X o ta)(hr:Room k X.A)(hbase:attributeBase o m X.env (eval o X.env)=eval o X.env)(hline:(apos.endLine == pos.line)=true) :
  PE X (.Call (.Attribute o m apos) [] [] pos) (zig X k m ta tNil):=by
 intro pins s σ H Q I h
 refine zeH hbase rfl hline (thn (he pins s σ H _ I h) fun u s1 ⟨x,H1,I1,rx,a,C,dx,fs,fa,fd,ps,sp,ex,ea,c,hm,F,hb,l,q⟩ pl=>?_)
 subst ex
 obtain rfl:u=Value.ref a:=rx
 refine zeg I1 ea c hm l ?_
 exact PySem.W.callWith_K0 (first:=[.ref a]) I1.kIn hm.kp (zfe (us:=[.ref a]) (vs:=[.ref a]) F hr hb .nil zf9 I1 (.cons rfl .nil) (by rw[List.append_nil];exact q))
noncomputable def mtB (T:Tab)(m:Str)(tb:List (Nat × Nat)):Bool:=tb.all fun p=>T.mts.contains (p.1,m,p.2)
theorem zhI {tb:List (Nat × Nat)}{c f:Nat}(h:tb.lookup c=some f):(c,f)∈tb:=by
 induction tb with
 |nil=>cases h
 | cons p r ih =>
   obtain⟨c',f'⟩:=p
   simp only[List.lookup] at h
   split at h
   · rename_i e
     cases h
     have:=eq_of_beq e
     subst this
     simp
   · exact List.mem_cons_of_mem _ (ih h)
theorem zgW (G:Gd T cf k N sc X){m:Str}{tb:List (Nat × Nat)}{co:CE}{ces:CEs}{σ:L2.St}{H:Hp}{Qv:VK}{t:TA}(hm:mtB T m tb=true)(ht:∀{σ:L2.St} {H:Hp} {Qa:List V->Hp->Prop},tAs X.K cf ces σ H Qa->t σ H Qa)(h:tE X.K cf (.meth m tb co ces) σ H Qv):zig X k m (tE X.K cf co) t σ H Qv:=by
 obtain⟨δ,ι,S,Q,hs,hh,w,q⟩:=h
 simp only[evE,zaa] at w
 refine tE.run hs hh w fun d v ι1 H1 S1 x1 hs1 hh1 r1 w1=>?_
 obtain⟨pr,ei,w2⟩:=zaG w1
 obtain⟨c,fs⟩:=pr
 obtain⟨f,ef,w3⟩:=zaG w2
 split at w3
 · rename_i hn
   rw[zaa] at w3
   obtain⟨l,rfl,hl⟩:=zdJ ei
   have r1':=r1
   obtain⟨b,i1,rfl⟩:=r1
   obtain⟨b',i2,C,dx,ws,hC,hb,rf⟩:=hh1.obj l _ hl
   rw[i1] at i2;cases i2
   have hmt:=List.all_eq_true.mp hm (c,f) (zhI ef)
   obtain⟨C',fa,fd,ps,hC',cl,me,F,bi⟩:=(G.tab.mth c m f hmt).ex
   rw[hC] at hC';cases hC'
   have hlk:ws.lookup m=none:=by
    rcases rf.look m with ⟨_,e2⟩|⟨d',v',e1,_,_⟩
    · exact e2
    · dsimp only at hn;rw[e1] at hn;cases hn
   refine⟨b,C,dx,ws,fa,fd,ps,_,rfl,hb,cl,me,F,bi,hlk,ht ?_⟩
   refine tAs.run hs1 hh1 w3 fun ds vs ι2 H2 S2 x2 hs2 hh2 r2 w4=>?_
   unfold appW at w4
   refine⟨ι2,S2,.ref l::ds,⟨.ref b,vs,rfl,r1'.ext x2,r2⟩,hh2,?_⟩
   obtain⟨d,T',e,w5⟩:=zfR w4
   rw[e]
   exact fun v H' ι' x r hT=>q v H' (Lf.up (x1.trans x2) ⟨d,ι',T',x,r,hT,w5⟩)
 · exact w3.elim
theorem zmc (G:Gd T cf k N sc X){m:Str}{tb:List (Nat × Nat)}{co:CE}{ces:CEs}{o e:Expr}{es:List Expr}{apos:Pos}(hm:mtB T m tb=true)(ho:PE X o (tE X.K cf co))(ha:PA X (e::es) (tAs X.K cf ces))(hst:(e::es).all zan=true)(hsup:za9 o=true)(hl:(apos.endLine == pos.line)=true)(hn:(e::es).length<29) :
  PE X (.Call (.Attribute o m apos) (e::es) [] pos) (tE X.K cf (.meth m tb co ces)):=by
 have hs:=hst
 rw[List.all_cons,Bool.and_eq_true] at hst
 refine PE.imp (zko ho G.room ha (zb6 hsup m X.env _) ?_ hl (zam hst.1 es X.env) (zbj hst.2)) fun σ H Qv h=>zgW G hm (fun z=>z) h
 have h0:=zbj (pos:=pos) (env:=X.env) hs
 have h1:(backTo pos (starEach (e::es) X.env)).all (fun x=>!x.1)=true:=by
  rw[List.all_eq_true]
  intro x hx
  have:=List.any_eq_false.mp h0 x hx
  simpa using this
 have h2:decide ((e::es).length+([]:List Keyword).length+(if ([]:List Keyword).isEmpty then 0 else 1)<30)=true:=by
  rw[decide_eq_true_eq]
  show (e::es).length+0+0<30
  omega
 rw[h1,h2]
 rfl
theorem zgV {ces:CEs}{σ:L2.St}{H:Hp}{Qa:List V->Hp->Prop}(hc:ces=.nil)(h:tAs X.K cf ces σ H Qa):tNil σ H Qa:=by
 subst hc
 obtain⟨δ,ι,S,Q,hs,hh,w,q⟩:=h
 exact q [] H ⟨[],ι,S,Ext.refl _ _,rfl,hh,by simpa[evEs] using w⟩
theorem zjW (G:Gd T cf k N sc X){m:Str}{tb:List (Nat × Nat)}{co:CE}{o:Expr}{apos:Pos}(hm:mtB T m tb=true)(ho:PE X o (tE X.K cf co))(hsup:za9 o=true)(hl:(apos.endLine == pos.line)=true) :
  PE X (.Call (.Attribute o m apos) [] [] pos) (tE X.K cf (.meth m tb co .nil)):=
 PE.imp (ziP ho G.room (zb6 hsup m X.env _) hl) fun σ H Qv h=>zgW G hm (fun z=>zgV rfl z) h
theorem zgX (G:Gd T cf k N sc X){c f:Nat}{C:Addr}{x:Str}{ces:CEs}{σ:L2.St}{H:Hp}{Qv:VK}{t:TA}(hC:Mks.cl[c]?=some C)(ht:∀{σ:L2.St} {H:Hp} {Qa:List V->Hp->Prop},tAs X.K cf ces σ H Qa->t σ H Qa)(h:tE X.K cf (.mk c f x ces) σ H Qv):zlV C (spF X.K cf f) [] E0 t σ H Qv:=by
 obtain⟨δ,ι,S,Q,hs,hh,w,q⟩:=h
 simp only[evE,zaa] at w
 refine ht (tAs.run hs hh w fun ds vs ι1 H1 S1 x1 hs1 hh1 r1 w1=>?_)
 intro y dy hy hdy hne
 have hh2:=hh1.new hdy (.own y)
 have x2:Ext ι1 H1 ι1 (upd H1 dy (.own y)):=Ext.new hdy _
 have hy2:(upd H1 dy (.own y)) y=none:=by rw[zai (Ne.symm hne)];exact hy
 have hh3:=hh2.obj' hy2 (.ins C dy []) (.ins c []) ⟨C,dy,[],hC,zap,rfl⟩
 have x3:Ext ι1 (upd H1 dy (.own y)) (ι1++[y]) (upd (upd H1 dy (.own y)) y (.ins C dy [])):=Ext.obj hh2 hy2 _
 unfold appW at w1
 obtain⟨d,T',e,w2⟩:=zfR w1
 rw[List.append_nil]
 refine⟨ι1++[y],S1.push (.ins c []),.ref S1.len::ds,⟨.ref y,vs,rfl,⟨y,hh2.last y,rfl⟩,(r1.ext x2).ext x3⟩,hh3,?_⟩
 rw[e]
 intro v H' ι' x' r hT
 split at w2
 · rename_i hn
   cases d with
   | non =>
     refine⟨r,q _ _ ⟨.ref S1.len,ι',T',((x1.trans x2).trans x3).trans x',⟨y,zbY x'.pre (hh2.last y),rfl⟩,hT,w2⟩⟩
   |_=>cases hn
 · exact w2.elim
theorem zp4 (G:Gd T cf k N sc X){c f:Nat}{x:Str}{ces:CEs}{e:Expr}{es:List Expr}(hi:T.inits.contains (c,f)=true)(hx:T.cls[c]?=some x)(hg:isGl sc x=true)(hd:(x == ("__debug__":Str))=false)(ha:PA X (e::es) (tAs X.K cf ces))(hst:(e::es).all zan=true) :
  PE X (.Call (.Name x p) (e::es) [] pos) (tE X.K cf (.mk c f x ces)):=by
 obtain⟨C,fa,fd,ps,hC,M,F,hb⟩:=(G.tab.ini c f hi).ex
 obtain⟨x',e1,_,hm,_⟩:=G.clsAt (.inr (.inl (ne_of hi))) hC
 rw[hx] at e1;cases e1
 rw[List.all_cons,Bool.and_eq_true] at hst
 exact PE.imp (zmK M F G.room' (G.gl hg) hm hb .nil zf9 ha hd (zam hst.1 es X.env) (zbj hst.2)) fun σ H Qv h=>zgX G hC (fun z=>z) h
theorem zob (G:Gd T cf k N sc X){c f:Nat}{x:Str}(hi:T.inits.contains (c,f)=true)(hx:T.cls[c]?=some x)(hg:isGl sc x=true)(hd:(x == ("__debug__":Str))=false) :
  PE X (.Call (.Name x p) [] [] pos) (tE X.K cf (.mk c f x .nil)):=by
 obtain⟨C,fa,fd,ps,hC,M,F,hb⟩:=(G.tab.ini c f hi).ex
 obtain⟨x',e1,_,hm,_⟩:=G.clsAt (.inr (.inl (ne_of hi))) hC
 rw[hx] at e1;cases e1
 exact PE.imp (zkp M F G.room' (G.gl hg) hm hb .nil zf9 hd) fun σ H Qv h=>zgX G hC (fun z=>zgV rfl z) h
theorem zpq {e:Expr}{es:List Expr}{env:Env}(hs:(e::es).all zan=true)(hn:(e::es).length<29):((backTo pos (starEach (e::es) env)).all (fun x=>!x.1)&&(backToKw pos (keywordEach [] env)).all (fun x=>x.1.isSome)
  && decide ((e::es).length+([]:List Keyword).length+(if ([]:List Keyword).isEmpty then 0 else 1)<30))=true:=by
 have h0:=zbj (pos:=pos) (env:=env) hs
 have h1:(backTo pos (starEach (e::es) env)).all (fun x=>!x.1)=true:=by
  rw[List.all_eq_true]
  intro x hx
  have:=List.any_eq_false.mp h0 x hx
  simpa using this
 have h2:decide ((e::es).length+([]:List Keyword).length+(if ([]:List Keyword).isEmpty then 0 else 1)<30)=true:=by
  rw[decide_eq_true_eq]
  show (e::es).length+0+0<30
  omega
 rw[h1,h2]
 rfl
theorem zkx {x m:Str}{sp:Sp}{e:Expr}{es:List Expr}{t:TA}{apos:Pos}(Hs:HasC X.prog X.w X.K X.mg X.base k x m sp)(hr:Room k X.A)(ha:PA X (e::es) t)(hg:Gl X x)(hdb:(x == ("__debug__":Str))=false)
  (hbase:attributeBase (.Name x p) m X.env (eval (.Name x p) X.env)=eval (.Name x p) X.env) (hst:(e::es).all zan=true) (hn:(e::es).length<29) (hline:(apos.endLine == pos.line)=true) :
  PE X (.Call (.Attribute (.Name x p) m apos) (e::es) [] pos) (zeu sp [] E0 t):=by
 obtain⟨C,fa,fd,ps,mc,hm,h1,h2,h3,h4,F,hb⟩:=Hs.ex
 have hst2:=hst
 rw[List.all_cons,Bool.and_eq_true] at hst2
 intro pins s σ H Q I h
 refine zeH hbase (zpq hst hn) hline (thn (zf8 (v:=.ref C) hg hm rfl hdb pins s σ H (fun v H1=>v=.ref C/\zeu sp [] E0 t σ H1 Q) I ⟨rfl,h⟩) fun u s1 ⟨xv,H1,I1,rx,ex,q⟩ pl=>?_)
 subst ex
 obtain rfl:u=Value.ref C:=rx
 refine PySem.W.method_cls I1.kIn h1 (PySem.W.cls_value I1.kIn h2 h3 rfl ?_)
 refine PySem.W.callWith_K (first:=[]) (h₀:=X.base) I.ok.mod.kin h4 (thn (ha pos pins _ σ H1 _ (I1.tok _) q) fun us s2 ⟨vs,H2,I2,r,q2⟩=>⟨I2.kIn,?_⟩) (zam hst2.1 es X.env) (zbj hst2.2)
 exact zfe (us:=us) (vs:=vs) F hr hb .nil zf9 I2 r q2
theorem zhY {f:Nat}{x m:Str}{ces:CEs}{σ:L2.St}{H:Hp}{Qv:VK}(h:tE X.K cf (.callC f x m ces) σ H Qv):zeu (spF X.K cf f) [] E0 (tAs X.K cf ces) σ H Qv:=by
 obtain⟨δ,ι,S,Q,hs,hh,w,q⟩:=h
 simp only[evE,zaa] at w
 refine tAs.run hs hh w fun ds vs ι1 H1 S1 x1 hs1 hh1 r1 w1=>?_
 unfold appW at w1
 rw[List.append_nil]
 refine⟨ι1,S1,ds,r1,hh1,?_⟩
 obtain⟨d,T',e,w2⟩:=zfR w1
 rw[e]
 exact fun v H' ι' x r hT=>q v H' (Lf.up x1 ⟨d,ι',T',x,r,hT,w2⟩)
theorem zj2 (G:Gd T cf k N sc X){f:Nat}{x m:Str}{ces:CEs}{e:Expr}{es:List Expr}{apos:Pos}(hc:T.cms.contains (x,m,f)=true)(hg:isGl sc x=true)(hd:(x == ("__debug__":Str))=false)(hsup:za9 (.Name x p)=true)(ha:PA X (e::es) (tAs X.K cf ces))(hst:(e::es).all zan=true)(hn:(e::es).length<29)(hl:(apos.endLine == pos.line)=true) :
  PE X (.Call (.Attribute (.Name x p) m apos) (e::es) [] pos) (tE X.K cf (.callC f x m ces)):=
 PE.imp (zkx (G.tab.cmd x m f hc) G.room ha (G.gl hg) hd (zb6 hsup m X.env _) hst hn hl) fun σ H Qv h=>zhY h
end
end R
end
section
namespace R
open PySem PySem.Spec PyProof.Rows L2
variable [Mks]
section
variable {prog:Program} {w:World} {A:Around} {E:Value->Shared->Prop} {s:Shared}
theorem zcw {t sl:Addr}{items:Array Value}{vl vu:Value}{lo hi:Option Int}{Q:Value->Shared->Prop}(ht:IsTup s.heap t items)(hs:s.heap.IsSliceOf sl vl vu .none)(pl:IsPart vl lo)(pu:IsPart vu hi)
  (hw:HT.sIx items.size 0 lo=0/\HT.sIx items.size items.size hi=items.size)
  (h:Q (.ref t) s):wpAny (model prog w) A (getItem (.ref t) (.ref sl)) Q E s:=by
 obtain⟨os,hos,hcs,hds⟩:=id hs
 have hTs:s.TypeIs (.ref sl) "slice":=⟨os,hos,hcs⟩
 unfold getItem
 try with_reducible refine wpAny_holding ?_
 first|refine wpAny_bind (wpAny_pure ?_)|skip
 refine wpAny_bind (wpAny_sequenceKey ht.typeIs (by decide) ?_)
 refine wpAny_bind (wpAny_callSpecial?_slot (name:=Str.ofString "__getitem__") ht.typeIs PyProof.Rows.slot_tuple_getitem
  (wpAny_call_entry PyProof.Rows.slot_tuple_getitem ht.typeIs entry_tuple_getitem ?_ (args_tuple_getitem _ _)))
 show wpAny _ _ (Builtin.Tuple.tupleItemsOf (.ref t) >>= _) _ _ s
 refine wpAny_bind (tupleItemsOf_ ht ?_)
 refine wpAny_bind (wpAny_typeOf hTs ?_)
 rw[if_pos (by decide)]
 refine wpAny_bind (HT.sliceApplied_gen hs pl pu ?_)
 have hyes:(((HT.sIx items.size 0 lo:Nat):Int) == 0&&(1:Int) == 1&&(HT.sIx items.size items.size hi - HT.sIx items.size 0 lo) == items.size)=true:=by
  rw[hw.1,hw.2]
  simp
 show wpAny _ _ (if (((HT.sIx items.size 0 lo:Nat):Int) == 0&&(1:Int) == 1&&(HT.sIx items.size items.size hi - HT.sIx items.size 0 lo) == items.size)=true then _ else _) _ _ s
 rw[if_pos hyes]
 unfold Builtin.Tuple.tupleIsExact
 refine wpAny_bind (wpAny_bind (wpAny_typeOf ht.typeIs (wpAny_pure ?_)))
 rw[if_pos (by decide)]
 exact wpAny_bind (wpAny_rule (wpAny_pure ⟨_,rfl,wpAny_pure h⟩))
end
section
variable {T:Tab} {cf:CF} {k:Nat} {N:List Str} {sc:Scope} {X:Cx} {pos p:Pos}
noncomputable def rSlW (K:PySem.W.Frag):V->Option Int->Option Int->Hp->VK->Prop:=fun x lo hi H Q=>∃a xs,x=.ref a/\SqT K H a xs/\
 (HT.sIx xs.length 0 lo=0/\HT.sIx xs.length xs.length hi=xs.length)/\Q (.ref a) H
theorem zjT:SlR X (rSlW X.K):=by
 intro pins s σ H x v vl vu lo hi sl Q I rx hs pl pu h
 obtain⟨a,xs,rfl,hx,hw,q⟩:=h
 cases rx
 obtain⟨its,r,ht,hz⟩:=I.tuple hx
 have hlen:its.toArray.size=xs.length:=by rw[List.size_toArray];exact r.length.symm
 exact⟨"tuple",_,PyProof.Rows.slot_tuple_getitem.lookup,ht.typeIs,zcw ht hs pl pu (by rw[hlen];exact hw) ⟨.ref a,H,I,rfl,q⟩⟩
theorem zgJ (n d:Nat)(o:Option Int):R.sIx n d o=HT.sIx n d o:=by
 cases o<;>rfl
theorem zjy {α:Type}{xs:List α}{lo hi:Option Int}(h:HT.sIx xs.length 0 lo=0/\HT.sIx xs.length xs.length hi=xs.length):cut xs lo hi=xs:=by
 unfold cut
 rw[zgJ,zgJ,h.1,h.2]
 simp
theorem RVs.cut {K:PySem.W.Frag}{ι:List Addr}{H:Hp}{ds:List D}{xs:List V}(r:RVs K ι H ds xs)(lo hi:Option Int):RVs K ι H (R.cut ds lo hi) (cutV xs lo hi):=by
 have hl:=r.length
 unfold R.cut cutV
 rw[zgJ,zgJ,hl]
 exact (r.drop _).take _
inductive PartOk (X:Cx) (cf:CF):Bool->CE->Option Expr->Prop where
 |no {c:CE} (h:∃d,c=.con d):PartOk X cf false c none
 |yes {c:CE} {e:Expr} (h:PE X e (tE X.K cf c)):PartOk X cf true c (some e)
theorem zp2 {ca clo chi:CE}{ml mh:Bool}{a:Expr}{lo hi:Option Expr}{p2:Pos}(ha:PE X a (tE X.K cf ca))(hlo:PartOk X cf ml clo lo)(hhi:PartOk X cf mh chi hi):PE X (.Subscript a (.Slice lo hi none p2) pos) (tE X.K cf (.sl ca ml mh clo chi)):=by
 have fin:∀{σ:L2.St} {δ:Ev} {ι ι1:List Addr} {H H1:Hp} {S1:R.St} {Q:D->R.St->Prop} {Qv:VK} {d:D} {v:V} {y z:Option Int},Ext ι H ι1 H1->RH X.K ι1 H1 S1->RV X.K ι1 H1 d v->(∀v H',Lf X.K ι H Q v H'->Qv v H')->
   W (match d with|.tup ds=>.ok (.tup (R.cut ds y z)) S1|.fix ds=>lay S1 (R.cut ds y z)|.ref p=>(match S1.get p with|some (.lst ds)=>lay S1 (R.cut ds y z)|_=>.bad)|_=>.bad) Q->
   (rSlL X.K v y z H1 Qv\/rSlT X.K v y z H1 Qv)\/rSlW X.K v y z H1 Qv:=by
  intro σ δ ι ι1 H H1 S1 Q Qv d v y z x hh r q w
  cases d with
  | tup ds =>
    obtain⟨a,xs,rfl,ha,rr⟩:=r
    by_cases hw:HT.sIx xs.length 0 y=0/\HT.sIx xs.length xs.length z=xs.length
    · refine .inr ⟨a,xs,rfl,SqT.of ha,hw,q _ _ (Lf.up x (Lf.of (d:=.tup ds) hh ⟨a,xs,rfl,ha,rr⟩ ?_))⟩
      have e:R.cut ds y z=ds:=zjy (by rw[<-rr.length];exact hw)
      dsimp only at w
      rw[e] at w
      exact w
    · exact .inl (.inr ⟨a,xs,rfl,SqT.of ha,hw,fun p hp=>q _ _ (Lf.up x (Lf.tup hh hp (rr.cut y z) w))⟩)
  | fix ds =>
    obtain⟨a,xs,rfl,ha,rr⟩:=r
    obtain⟨_,w2⟩:=zc5 w
    exact .inl (.inl ⟨a,xs,rfl,ha.sq,fun p hp=>q _ _ (Lf.up x (Lf.lst hh hp (rr.cut y z) w2))⟩)
  | ref l =>
    dsimp only at w
    cases e:S1.get l with
    |none=>rw[e] at w;exact w.elim
    | some o =>
      rw[e] at w
      cases o with
      | lst ds =>
        obtain⟨a,h1,rfl⟩:=r
        obtain⟨b,h2,xs,ha,rr⟩:=hh.obj _ _ e
        rw[h1] at h2;cases h2
        obtain⟨_,w2⟩:=zc5 w
        exact .inl (.inl ⟨a,xs,rfl,SqL.of ha,fun p hp=>q _ _ (Lf.up x (Lf.lst hh hp (rr.cut y z) w2))⟩)
      |_=>exact w.elim
  |_=>exact w.elim
 have part:∀{m:Bool} {c:CE} {o:Option Expr},PartOk X cf m c o->∃t,PO X o t/\∀{δ:Ev} {σ:L2.St} {ι:List Addr} {H:Hp} {S:R.St} {Q:D->R.St->Prop} {Qv:Option Int->Hp->Prop},RS X.K ι H δ σ->RH X.K ι H S->W (evE cf c δ S) Q->
   (∀d S',Q d S'->∃z,zca m d=some z)->
   (∀d ι' H' S' z,Ext ι H ι' H'->RS X.K ι' H' δ σ->RH X.K ι' H' S'->Q d S'->zca m d=some z->Qv z H')->t σ H Qv:=by
  intro m c o h
  cases h with
  | no h =>
    obtain⟨d,rfl⟩:=h
    refine⟨_,zmG,fun {δ σ ι H S Q Qv} hs hh w hp h=>?_⟩
    simp only[evE] at w
    exact h d ι H S none (Ext.refl _ _) hs hh w rfl
  | yes h =>
    refine⟨_,zmF h,fun {δ σ ι H S Q Qv} hs hh w hp h=>?_⟩
    refine tE.run hs hh w fun d v ι1 H1 S1 x1 hs1 hh1 r1 w1=>?_
    obtain⟨z,hz⟩:=hp d S1 w1
    cases d with
    | int i =>
      obtain rfl:v=.int i:=r1
      exact⟨i,rfl,h _ _ _ _ _ x1 hs1 hh1 w1 rfl⟩
    |_=>cases hz
 obtain⟨tl,pl,rl⟩:=part hlo
 obtain⟨th,ph,rh⟩:=part hhi
 refine PE.imp (zkn (SlR.or (SlR.or zl4 zn5) zjT) ha pl ph) fun σ H Qv ⟨δ,ι,S,Q,hs,hh,w,q⟩=>?_
 simp only[evE,zaa] at w
 refine tE.run hs hh w fun d v ι1 H1 S1 x1 hs1 hh1 r1 w1=>?_
 have hz:∀(b:Bool) (y:D),zca b y=none\/∃z,zca b y=some z:=fun b y=>by cases zca b y<;>simp
 refine rl hs1 hh1 w1 (fun y S2 w2=>?_) fun y ι2 H2 S2 zl x2 hs2 hh2 w2 hzl=>?_
 · rcases hz ml y with e|e
   · rw[W.iff] at w2
     obtain⟨u,S3,_,w3⟩:=w2
     rw[e] at w3;exact w3.elim
   · exact e
 · refine rh hs2 hh2 w2 (fun u S3 w3=>?_) fun u ι3 H3 S3 zh x3 hs3 hh3 w3 hzh=>?_
   · rcases hz mh u with e|e
     · rw[hzl,e] at w3;exact w3.elim
     · exact e
   · rw[hzl,hzh] at w3
     exact fin (σ:=σ) (δ:=δ) ((x1.trans x2).trans x3) hh3 (r1.ext (x2.trans x3)) q w3
end
end R
end
section
namespace R
open PySem PySem.Spec PyProof.Rows L2
variable [Mks]
noncomputable def rB (K:PySem.W.Frag)(f:R.St->List D->Out D):List V->Hp->VK->Prop:=fun xs H Qv=>∃ι S ds Qd,RVs K ι H ds xs/\RH K ι H S/\W (f S ds) Qd/\∀v H',Lf K ι H Qd v H'->Qv v H'
section
variable {T:Tab} {cf:CF} {k:Nat} {N:List Str} {sc:Scope} {X:Cx} {pos p:Pos}
theorem RVs.one {K:PySem.W.Frag}{ι:List Addr}{H:Hp}{d:D}{xs:List V}(r:RVs K ι H [d] xs):∃v,xs=[v]/\RV K ι H d v:=by
 obtain⟨v,w,rfl,r1,r2⟩:=r
 cases (show w=[] from r2)
 exact⟨v,rfl,r1⟩
theorem RVs.two {K:PySem.W.Frag}{ι:List Addr}{H:Hp}{d e:D}{xs:List V}(r:RVs K ι H [d,e] xs):∃v u,xs=[v,u]/\RV K ι H d v/\RV K ι H e u:=by
 obtain⟨v,w,rfl,r1,r2⟩:=r
 obtain⟨u,rfl,r3⟩:=RVs.one r2
 exact⟨v,u,rfl,r1,r3⟩
theorem zpc:zbB X (.builtin "len") (rB X.K fun S ds=>R.bi S .len ds):=by
 intro pins s σ H xs us Qv I rv ⟨ι,S,ds,Qd,r,hh,w,q⟩
 dsimp only at w
 unfold bi at w
 split at w
 case h_1 x=>
  obtain⟨v,rfl,rr⟩:=r.one
  split at w
  · obtain⟨a,xs,rfl,ha,r2⟩:=rr
    refine zce pins s σ H _ us Qv I rv ⟨a,xs,rfl,.inr (SqT.of ha),?_⟩
    rw[r2.length]
    exact q _ _ (Lf.of (d:=.int _) hh rfl w)
  · obtain⟨a,xs,rfl,ha,r2⟩:=rr
    refine zce pins s σ H _ us Qv I rv ⟨a,xs,rfl,.inl ha.sq,?_⟩
    rw[r2.length]
    exact q _ _ (Lf.of (d:=.int _) hh rfl w)
  · rename_i l
    obtain⟨a,h1,rfl⟩:=rr
    cases e:S.get l with
    |none=>rw[e] at w;exact w.elim
    | some o =>
      rw[e] at w
      obtain⟨b,h2,h3⟩:=hh.obj _ _ e
      rw[h1] at h2;cases h2
      cases o with
      | lst ds =>
        obtain⟨xs,ha,r2⟩:=h3
        refine zce pins s σ H _ us Qv I rv ⟨a,xs,rfl,.inl (SqL.of ha),?_⟩
        rw[r2.length]
        exact q _ _ (Lf.of (d:=.int _) hh rfl w)
      | dic kvs =>
        obtain⟨rfl,ha⟩:=h3
        exact zjC pins s σ H _ us Qv I rv ⟨a,[],rfl,ha,q _ _ (Lf.of (d:=.int _) hh rfl w)⟩
      |ins _ _=>exact w.elim
      | dtp kvs =>
        obtain⟨_,ws,ha,rk⟩:=h3
        refine zql pins s σ H _ us Qv I rv ⟨a,ws,rfl,ha,?_⟩
        rw[rk.length]
        exact q _ _ (Lf.of (d:=.int _) hh rfl w)
  · exact w.elim
 all_goals first|exact w.elim|(rename_i h;cases h)
theorem zpL:zbB X (.builtin "abs") (rB X.K fun S ds=>R.bi S .abs ds):=by
 intro pins s σ H xs us Qv I rv ⟨ι,S,ds,Qd,r,hh,w,q⟩
 dsimp only at w
 unfold bi at w
 split at w
 case h_2 i _=>
  obtain⟨v,rfl,rr⟩:=r.one
  obtain rfl:v=.int i:=rr
  exact zk6 pins s σ H _ us Qv I rv ⟨i,rfl,q _ _ (Lf.of (d:=.int _) hh rfl w)⟩
 all_goals first|exact w.elim|(rename_i h;cases h)
theorem zo7 (hc:X.calm=true):zbB X (.builtin "max") (rB X.K fun S ds=>R.bi S .max2 ds):=by
 intro pins s σ H xs us Qv I rv ⟨ι,S,ds,Qd,r,hh,w,q⟩
 dsimp only at w
 unfold bi at w
 split at w
 case h_3 i j _=>
  obtain⟨v,u,rfl,r1,r2⟩:=r.two
  obtain rfl:v=.int i:=r1
  obtain rfl:u=.int j:=r2
  exact zjB hc pins s σ H _ us Qv I rv ⟨i,j,rfl,q _ _ (Lf.of (d:=.int _) hh rfl w)⟩
 all_goals first|exact w.elim|(rename_i h;cases h)
theorem zo6 (hc:X.calm=true):zbB X (.builtin "min") (rB X.K fun S ds=>R.bi S .min2 ds):=by
 intro pins s σ H xs us Qv I rv ⟨ι,S,ds,Qd,r,hh,w,q⟩
 dsimp only at w
 unfold bi at w
 split at w
 case h_4 i j _=>
  obtain⟨v,u,rfl,r1,r2⟩:=r.two
  obtain rfl:v=.int i:=r1
  obtain rfl:u=.int j:=r2
  exact zjA hc pins s σ H _ us Qv I rv ⟨i,j,rfl,q _ _ (Lf.of (d:=.int _) hh rfl w)⟩
 all_goals first|exact w.elim|(rename_i h;cases h)
theorem zbF (G:Gd T cf k N sc X){x:Str}(h:bltB T sc x=true):Gl X x/\X.mg x=none:=by
 unfold bltB at h
 rw[Bool.and_eq_true] at h
 exact⟨G.gl h.1,G.tab.blt x h.2⟩
theorem zp6 {b:Bi}{id:String}{x:Str}{ces:CEs}{e:Expr}{es:List Expr}(hc:zbB X (.builtin id) (rB X.K fun S ds=>R.bi S b ds))(hg:Gl X x/\X.mg x=none)(hv:bootBuiltins x=some (.builtin id))(ha:PA X (e::es) (tAs X.K cf ces))(hst:(e::es).all zan=true)(hn:x≠"__name__")(hdb:(x == ("__debug__":Str))=false) :
  PE X (.Call (.Name x p) (e::es) [] pos) (tE X.K cf (.bi b ces)):=by
 rw[List.all_cons,Bool.and_eq_true] at hst
 refine PE.imp (zde hc hg.1 hg.2 hv ha hn hdb (zam hst.1 es X.env) (zbj hst.2)) fun σ H Qv ⟨δ,ι,S,Q,hs,hh,w,q⟩=>?_
 simp only[evE,zaa] at w
 refine tAs.run hs hh w fun ds vs ι1 H1 S1 x1 hs1 hh1 r1 w1=>?_
 exact⟨ι1,S1,ds,Q,r1,hh1,w1,fun v H' l=>q v H' (Lf.up x1 l)⟩
theorem zlO {ι:List Addr}{H:Hp}{S:R.St}{d:D}{v:V}{a:String}(hh:RH X.K ι H S)(r:RV X.K ι H d v)(h:tyOf S d=some a):zc2 H v=some a:=by
 cases d with
 |non=>obtain rfl:v=.non:=r;exact h
 |bl b=>obtain rfl:v=.bl b:=r;exact h
 |int b=>obtain rfl:v=.int b:=r;exact h
 |str b=>obtain rfl:v=.str b:=r;exact h
 | tup ds =>
   obtain⟨p,xs,rfl,ha,_⟩:=r
   simp only[tyOf] at h
   simp only[zc2,ha]
   exact h
 | ref l =>
   obtain⟨p,h1,rfl⟩:=r
   simp only[tyOf] at h
   simp only[zc2]
   cases e:S.get l with
   |none=>rw[e] at h;cases h
   | some o =>
     rw[e] at h
     obtain⟨b,h2,h3⟩:=hh.obj _ _ e
     rw[h1] at h2;cases h2
     cases o with
     |lst ds=>obtain⟨xs,ha,_⟩:=h3;rw[ha];exact h
     |dic kvs=>rw[h3.2];exact h
     |ins _ _=>cases h
     |dtp kvs=>obtain⟨_,ws,ha,_⟩:=h3;rw[ha];exact h
 |fix ds=>cases h
theorem zmd (G:Gd T cf k N sc X){t:String}{y:Str}{p2:Pos}{ce:CE}{e:Expr}(hg:Gl X "isinstance"/\X.mg "isinstance"=none)(hy:Gl X y/\X.mg y=none)(hb:bootBuiltins y=some (.type t))(ht:t∈["bool","int","str","list","tuple","dict"])(hyn:y≠"__name__")(hyd:(y == ("__debug__":Str))=false)
  (he:PE X e (tE X.K cf ce)) (hst:zan e=true):PE X (.Call (.Name "isinstance" p) [e,.Name y p2] [] pos) (tE X.K cf (.bi (.isin t) (.cons ce .nil))):=by
 refine PE.imp (zde zgt hg.1 hg.2 zcN (zbZ he (zbZ (zmO (v:=.ty t) hy.1 hy.2 hb rfl hyn hyd) zfl) (zam hst _ X.env)) (by decide) (by decide) (zam hst _ X.env)) fun σ H Qv ⟨δ,ι,S,Q,hs,hh,w,q⟩=>?_
 simp only[evE,evEs,zaa,W_ok] at w
 refine tE.run hs hh w fun d v ι1 H1 S1 x1 hs1 hh1 r1 w1=>?_
 simp only[bi] at w1
 cases e:tyOf S1 d with
 |none=>rw[e] at w1;exact w1.elim
 | some a =>
   rw[e] at w1
   exact⟨v,t,a,rfl,zlO hh1 r1 e,ht,q _ _ (Lf.up x1 (Lf.of (d:=.bl _) hh1 rfl w1))⟩
theorem zg4 {ι:List Addr}{H:Hp}{S:R.St}{d:D}{v:V}(hh:RH X.K ι H S)(r:RV X.K ι H d v)(h:isL S d=true):tyV X.K "list" v H:=by
 cases d with
 | ref l =>
   obtain⟨p,h1,rfl⟩:=r
   simp only[isL] at h
   cases e:S.get l with
   |none=>rw[e] at h;cases h
   | some o =>
     rw[e] at h
     obtain⟨b,h2,h3⟩:=hh.obj _ _ e
     rw[h1] at h2;cases h2
     cases o with
     |lst ds=>obtain⟨xs,ha,_⟩:=h3;exact .inl ⟨rfl,xs,SqL.of ha⟩
     |_=>cases h
 |_=>cases h
noncomputable def rM (K:PySem.W.Frag)(m:Mt):V->List V->Hp->VK->Prop:=fun x xs H Qv=>∃ι S d ds Qd,RV K ι H d x/\RVs K ι H ds xs/\RH K ι H S/\W (R.mt S m d ds) Qd/\∀v H',Lf K ι H Qd v H'->Qv v H'
theorem zjG:MtR X "list.append" (rM X.K .append):=by
 intro pins s σ H x xs v us Qv I rx rv ⟨ι,S,d,ds,Qd,r,rs,hh,w,q⟩
 unfold R.mt at w
 split at w
 case h_1 l y _=>
  obtain⟨a,h1,rfl⟩:=r
  obtain⟨u,rfl,ru⟩:=rs.one
  cases e:S.get l with
  |none=>rw[e] at w;exact w.elim
  | some o =>
    rw[e] at w
    obtain⟨b,h2,h3⟩:=hh.obj _ _ e
    rw[h1] at h2;cases h2
    cases o with
    | lst ds =>
      obtain⟨zs,ha,r2⟩:=h3
      obtain⟨c,S',hp,w2⟩:=zh4 w
      refine zfn pins s σ H _ _ v us Qv I rx rv ⟨a,zs,u,rfl,rfl,ha,?_,?_⟩
      · rw[r2.length]
        rw[List.length_append,List.length_singleton] at c
        omega
      · exact q _ _ (Lf.wr (d:=.non) hh e h1 hp (r2.append ⟨u,[],rfl,ru,rfl⟩) rfl w2)
    |_=>exact w.elim
 all_goals first|exact w.elim|(rename_i h;cases h)
theorem zkj:MtR X "list.pop" (rM X.K .popAt):=by
 intro pins s σ H x xs v us Qv I rx rv ⟨ι,S,d,ds,Qd,r,rs,hh,w,q⟩
 unfold R.mt at w
 split at w
 case h_2 l i _=>
  obtain⟨a,h1,rfl⟩:=r
  obtain⟨u,rfl,ru⟩:=rs.one
  obtain rfl:u=.int i:=ru
  cases e:S.get l with
  |none=>rw[e] at w;exact w.elim
  | some o =>
    rw[e] at w
    obtain⟨b,h2,h3⟩:=hh.obj _ _ e
    rw[h1] at h2;cases h2
    cases o with
    | lst ds =>
      obtain⟨zs,ha,r2⟩:=h3
      dsimp only at w
      split at w
      · rename_i c0
        cases ey:ds[i.toNat]? with
        |none=>rw[ey] at w;exact w.elim
        | some y =>
          rw[ey] at w
          obtain⟨c,S',hp,w2⟩:=zh4 w
          obtain⟨u,eu,ru⟩:=r2.get ey
          have hlt:i.toNat<zs.length:=(List.getElem?_eq_some_iff.mp eu).1
          have hz:zs.length<=sizeLine:=(I.lstM ha).1
          rw[sizeLine_eq] at hz
          refine zkD pins s σ H _ _ v us Qv I rx rv ⟨a,zs,i,i.toNat,u,rfl,rfl,ha,by omega,by omega,?_,eu,?_⟩
          · exact PySem.StrLaws.seqIndex_nonneg c0 (by omega)
          · exact q _ _ (Lf.wr (d:=y) hh e h1 hp (r2.erase _) ru w2)
      · exact w.elim
    |_=>exact w.elim
 all_goals first|exact w.elim|(rename_i h;cases h)
theorem zeX:∀{ds:List D} {os:List (Option Int)},zbL ds=some os->ds=os.map fun o=>match o with|some i=>D.int i|none=>D.non:=by
 intro ds
 unfold zbL
 induction ds with
 |nil=>intro os h;simp at h;subst h;rfl
 | cons d ds ih =>
   intro os h
   obtain⟨y,r,h1,h2,rfl⟩:=zba h
   rw[ih h2]
   cases d<;>simp[zd4] at h1<;>subst h1<;>rfl
noncomputable def wV:Option Int->V
 |some i=>.int i
 |none=>.non
theorem zen {K:PySem.W.Frag}{ι:List Addr}{H:Hp}:∀{os:List (Option Int)} {vs:List V},RVs K ι H (os.map fun o=>match o with|some i=>D.int i|none=>D.non) vs->vs=os.map wV
 | [],_,h=>h
 | o :: os, vs, h => by
   obtain⟨v,r,rfl,h1,h2⟩:=h
   rw[zen h2]
   cases o<;>rw[show v=_ from h1]<;>rfl
noncomputable def isI (i:Int):Value->Bool
 |.int j _=>j == i
 |_=>false
theorem zel (i:Int):∀{os:List (Option Int)} {us:List Value},Vals (os.map wV) us->(∀y∈us,y=Value.none\/∃a u,y=Value.int a u)/\us.countP (isI i)=os.count (some i)
 | [],us,r=>by cases r;exact⟨fun y hy=>by simp at hy,rfl⟩
 | o :: os, us, r => by
   cases r with
   | @cons _ u _ us r1 r2 =>
     obtain⟨h1,h2⟩:=zel i r2
     cases o with
     | none =>
       obtain rfl:u=Value.none:=r1
       refine⟨fun y hy=>?_,?_⟩
       · rcases List.mem_cons.mp hy with rfl|hy
         · exact .inl rfl
         · exact h1 y hy
       · rw[List.countP_cons,List.count_cons,h2];simp[isI]
     | some j =>
       obtain⟨t,rfl⟩:∃t,u=Value.int j t:=r1
       refine⟨fun y hy=>?_,?_⟩
       · rcases List.mem_cons.mp hy with rfl|hy
         · exact .inr ⟨_,_,rfl⟩
         · exact h1 y hy
       · rw[List.countP_cons,List.count_cons,h2];simp[isI]
theorem zk1:MtR X "list.count" (rM X.K .count):=by
 intro pins s σ H x xs v us Qv I rx rv ⟨ι,S,d,ds,Qd,r,rs,hh,w,q⟩
 unfold R.mt at w
 split at w
 case h_3 l i _=>
  obtain⟨a,h1,rfl⟩:=r
  obtain⟨u,rfl,ru⟩:=rs.one
  obtain rfl:u=.int i:=ru
  cases e:S.get l with
  |none=>rw[e] at w;exact w.elim
  | some o =>
    rw[e] at w
    obtain⟨b,h2,h3⟩:=hh.obj _ _ e
    rw[h1] at h2;cases h2
    cases o with
    | lst ds =>
      obtain⟨zs,ha,r2⟩:=h3
      dsimp only at w
      cases e2:zbL ds with
      |none=>rw[e2] at w;exact w.elim
      | some os =>
        rw[e2] at w
        rw[zeX e2] at r2
        cases zen r2
        obtain⟨its,rz,pl,_⟩:=I.list (SqL.of ha)
        obtain⟨u1,rfl,ru1⟩:=Vals.one rv
        obtain⟨t,rfl⟩:=ru1
        cases rx
        obtain⟨c1,c2⟩:=zel i rz
        have hl:=pl.isList
        obtain⟨⟨cls,dd,data,sl⟩,ho,hc,n,hd⟩:=id hl
        simp only at hc hd
        subst hc hd
        refine call_meets PySem.F.slot_list_count ⟨_,ho,rfl⟩ PySem.F.entry_list_count (PySem.F.args_list_count_2 _ _) (PySem.SeqAt.list_countAt a its.toArray n dd sl (.int i t) (isI i)) ⟨ho,fun y hy=>?_,?_⟩
        · rcases c1 y (by simpa using hy) with rfl|⟨j,u,rfl⟩
          · exact PySem.SeqAt.EqAt.none_int i t
          · exact PySem.SeqAt.EqAt.int_int j u i t
        · rw[show its.toArray.toList=its from rfl,c2]
          exact⟨.int _,H,I.tok _,⟨_,rfl⟩,q _ _ (Lf.of (d:=.int _) hh rfl w)⟩
    |_=>exact w.elim
 all_goals first|exact w.elim|(rename_i h;cases h)
theorem zma {m:Mt}{id:String}{name:Str}{co ce:CE}{o e:Expr}{apos cpos:Pos}(slot:Slot "list" name id)(hty:typeOf (.builtin id)=pure (.type "method_descriptor"))(hm:MtR X id (rM X.K m))(ho:PE X o (tE X.K cf co))(he:PE X e (tE X.K cf ce))(hst:zan e=true)(hsup:za9 o=true)(hl:(apos.endLine == cpos.line)=true) :
  PE X (.Call (.Attribute o name apos) [e] [] cpos) (tE X.K cf (.mt m co (.cons ce .nil))):=by
 refine PE.imp (zmN PySem.F.plainAttrs_list slot hty hm ho (zin he zln hst) (zb6 hsup name X.env _) (by rw[zam hst];rfl) hl (zam hst [] X.env)) fun σ H Qv ⟨δ,ι,S,Q,hs,hh,w,q⟩=>?_
 simp only[evE,zaa] at w
 refine tE.run hs hh w fun d v ι1 H1 S1 x1 hs1 hh1 r1 w1=>?_
 split at w1
 · rename_i c
   refine⟨zg4 hh1 r1 c,?_⟩
   rw[zaa] at w1
   refine tAs.run hs1 hh1 w1 fun ds vs ι2 H2 S2 x2 hs2 hh2 r2 w2=>?_
   exact⟨ι2,S2,d,ds,Q,r1.ext x2,r2,hh2,w2,fun z H3 l=>q z H3 (Lf.up (x1.trans x2) l)⟩
 · exact w1.elim
end
end R
end
section
namespace R
open PySem PySem.Spec PyProof.Rows L2
variable [Mks]
section
variable {T:Tab} {cf:CF} {k:Nat} {N:List Str} {sc:Scope} {X:Cx} {pos p:Pos}
theorem SqK.seq {K:PySem.W.Frag}{ι:List Addr}{H:Hp}{S:R.St}{a:Addr}{xs:List V}{ds:List D}{lks:List Nat}(h:SqK K ι H S a xs ds lks):SqL K H a xs\/SqT K H a xs:=by
 cases h with
 |tmp h e=>exact .inl (SqL.of e)
 |tup e=>exact .inr (SqT.of e)
 |fix e=>exact .inl e.sq
 |own l hl hi hs e=>exact .inl (SqL.of e)
theorem zn4 {ce:CE}{e:Expr}(he:PE X e (tE X.K cf ce)):PE X e (tL X.K cf (.val ce)):=by
 refine PE.imp he fun σ H Qv ⟨δ,ι,S,Q,hs,hh,w,q⟩=>?_
 simp only[evL,zaa] at w
 refine tE.run hs hh w fun d v ι1 H1 S1 x1 hs1 hh1 r1 w1=>?_
 obtain⟨ds,eq,w2⟩:=zaG w1
 refine q v H1 ⟨ds,lkOf S1 d,ι1,S1,x1,?_,hh1,w2⟩
 cases d with
 | tup es =>
   cases eq
   obtain⟨a,xs,rfl,ha,rr⟩:=r1
   exact⟨a,xs,rfl,rr,.tup ha⟩
 | fix es =>
   cases eq
   obtain⟨a,xs,rfl,ha,rr⟩:=r1
   exact⟨a,xs,rfl,rr,.fix ha⟩
 | ref l =>
   simp only[zcz] at eq
   split at eq
   · rename_i ds' e
     cases eq
     obtain⟨a,h1,rfl⟩:=r1
     obtain⟨a2,h2,xs,ha,rr⟩:=hh1.obj _ _ e
     rw[h1] at h2;cases h2
     exact⟨a,xs,rfl,rr,.own l (by simp[lkOf]) h1 e ha⟩
   · cases eq
 |_=>cases eq
theorem zbv {e:Expr}{te:TE}(he:PE X e te)(hst:zan e=true):PA X [e] (zij te tNil):=zbZ he zfl (zam hst [] X.env)
theorem zoa (G:Gd T cf k N sc X){cl:CL}{e:Expr}(hg:Gl X "tuple"/\X.mg "tuple"=none)(he:PE X e (tL X.K cf cl))(hst:zan e=true):PE X (.Call (.Name "tuple" p) [e] [] pos) (tE X.K cf (.mkT cl)):=by
 refine PE.imp (zbT zeV hg.1 hg.2 zho (zbv he hst) (by decide) (by decide) (zam hst [] X.env)) fun σ H Qv ⟨δ,ι,S,Q,hs,hh,w,q⟩=>?_
 simp only[evE,zaa] at w
 refine tL.run hs hh w fun ds lks v ι1 H1 S1 x1 hs1 hh1 sq w1=>?_
 split at w1
 · rename_i c
   obtain⟨a,xs,rfl,rr,kd⟩:=sq
   have fresh:SqL X.K H1 a xs->∃p ys,[V.ref a]=[V.ref p]/\((SqL X.K H1 p ys/\∀l,H1 l=none->Qv (.ref l) (upd H1 l (.tup ys)))\/(SqT X.K H1 p ys/\Qv (.ref p) H1)):=fun h=>
    ⟨a,xs,rfl,.inl ⟨h,fun l hl=>q _ _ (Lf.up x1 (Lf.tup hh1 hl rr w1))⟩⟩
   cases kd with
   |tmp h e=>exact fresh (SqL.of e)
   |fix e=>exact fresh e.sq
   |own l hl hi hs e=>exact fresh (SqL.of e)
   |tup e=>exact⟨a,xs,rfl,.inr ⟨SqT.of e,q _ _ (Lf.up x1 (Lf.of (d:=.tup ds) hh1 ⟨a,xs,rfl,e,rr⟩ w1))⟩⟩
 · exact w1.elim
theorem zlk (G:Gd T cf k N sc X){cl:CL}{e:Expr}(hg:Gl X "list"/\X.mg "list"=none)(he:PE X e (tL X.K cf cl))(hst:zan e=true):PE X (.Call (.Name "list" p) [e] [] pos) (tE X.K cf (.mkL cl)):=by
 refine PE.imp (zbT zfK hg.1 hg.2 zeW (zbv he hst) (by decide) (by decide) (zam hst [] X.env)) fun σ H Qv ⟨δ,ι,S,Q,hs,hh,w,q⟩=>?_
 simp only[evE,zaa] at w
 refine tL.run hs hh w fun ds lks v ι1 H1 S1 x1 hs1 hh1 sq w1=>?_
 obtain⟨c,w2⟩:=zc5 w1
 obtain⟨a,xs,rfl,rr,kd⟩:=sq
 exact⟨a,xs,rfl,kd.seq,fun l hl=>q _ _ (Lf.up x1 (Lf.lst hh1 hl rr w2))⟩
theorem ziX {cl:CL}{σ:L2.St}{H:Hp}{Qv:VK}(h:tE X.K cf (.mkL cl) σ H Qv):tLt X.K cf cl σ H Qv:=by
 obtain⟨δ,ι,S,Q,hs,hh,w,q⟩:=h
 simp only[evE,zaa] at w
 refine tLt.run hs hh w fun ds p xs ι1 H1 S1 x1 hs1 hh1 r1 hp e hn w1=>?_
 obtain⟨c,w2⟩:=zc5 w1
 refine q _ _ ⟨.ref S1.len,ι1++[p],S1.push (.lst ds),?_,⟨p,hh1.last p,rfl⟩,hh1.one (l:=0) hp ⟨xs,e,r1.up (List.prefix_append _ _) (Kp.refl _)⟩,w2⟩
 refine⟨x1.pre.trans (List.prefix_append _ _),x1.kp,fun b o hb eb=>⟨(x1.rest b o hb eb).1,fun z=>?_⟩⟩
 rcases List.mem_append.mp z with z|z
 · exact (x1.rest b o hb eb).2 z
 · simp at z
   subst z
   rw[hn] at eb;cases eb
theorem zoh {ca:CE}{cl:CL}{o e:Expr}{apos cpos:Pos}(ho:PE X o (tE X.K cf ca))(he:PE X e (tLt X.K cf cl))(hst:zan e=true)(hsup:za9 o=true)(hl:(apos.endLine == cpos.line)=true) :
  PE X (.Call (.Attribute o "extend" apos) [e] [] cpos) (tE X.K cf (.ext ca cl)):=by
 refine PE.imp (zmN PySem.F.plainAttrs_list PySem.F.slot_list_extend PySem.F.type_list_extend zfm ho (zbv he hst) (zb6 hsup "extend" X.env _) (by rw[zam hst];rfl) hl (zam hst [] X.env)) fun σ H Qv ⟨δ,ι,S,Q,hs,hh,w,q⟩=>?_
 simp only[evE,zaa] at w
 refine tE.run hs hh w fun d v ι1 H1 S1 x1 hs1 hh1 r1 w1=>?_
 split at w1
 · rename_i c
   refine⟨zg4 hh1 r1 c,?_⟩
   rw[zaa] at w1
   refine tLt.run hs1 hh1 w1 fun ds b xs ι2 H2 S2 x2 hs2 hh2 rr _ hb _ w2=>?_
   cases d with
   | ref l =>
     obtain⟨a,h1,rfl⟩:=r1.ext x2
     dsimp only at w2
     cases e:S2.get l with
     |none=>rw[e] at w2;exact w2.elim
     | some o =>
       rw[e] at w2
       cases o with
       | lst es =>
         obtain⟨b',h2,zs,ha,rz⟩:=hh2.obj _ _ e
         rw[h1] at h2;cases h2
         obtain⟨c2,S',hp,w3⟩:=zh4 w2
         refine⟨a,b,zs,xs,rfl,rfl,ha,hb,?_,q _ _ (Lf.up (x1.trans x2) (Lf.wr (d:=.non) hh2 e h1 hp (rz.append rr) rfl w3))⟩
         rw[rz.length,rr.length,<-List.length_append];exact c2
       |_=>exact w2.elim
   |_=>exact w2.elim
 · exact w1.elim
end
end R
end
section
set_option maxHeartbeats 4000000
namespace R
open PySem PySem.Spec PyProof.Rows L2
variable [Mks]
section
variable {T:Tab} {cf:CF} {k:Nat} {N:List Str} {sc:Scope} {X:Cx} {pos p:Pos}
theorem zk7:bootBuiltins "range"=some (.type "range"):=by decide +kernel
theorem ziC:zbB X (.type "range") (fun xs H Q=>∃j,xs=[.int j]/\∀p,H p=none->Q (.ref p) (upd H p (.rng 0 j))):=by
 intro pins s σ H xs us Q I r h
 obtain⟨j,rfl,q⟩:=h
 obtain⟨u,rfl,ru⟩:=r.one
 obtain⟨t,rfl⟩:=ru
 refine call_range_1 ⟨.ref s.heap.objs.size,_,I.laid (o:=.rng 0 j) (fun b ob e=>Heap.get?_push_of_some _ e) (Nat.le_refl _) ?_,rfl,q _ (I.hok.fresh (Nat.le_refl _))⟩
 exact⟨_,_,_,Heap.get?_push_size _ rfl⟩
theorem zkJ (hc:X.calm=true):zbB X (.type "list") (fun xs H Q=>∃p hi,xs=[.ref p]/\H p=some (.rng 0 hi)/\-(2 ^ 62)<=hi/\hi<2 ^ 62/\hi.toNat<=16777216/\∀l,H l=none->Q (.ref l) (upd H l (.lst ((List.range hi.toNat).map fun (j:Nat)=>.int j)))):=by
 intro pins s σ H xs us Q I r h
 obtain⟨p,hi,rfl,hp,h1,h2,h3,q⟩:=h
 obtain⟨u,rfl,ru⟩:=r.one
 cases (show u=Value.ref p from ru)
 obtain⟨t,t2,t3,e⟩:=(show ObjOk X.prog X.w H s.heap p (.rng 0 hi) from I.hok p _ hp)
 have hn:Builtin.Range.rangeSize 0 hi 1=(hi.toNat:Nat):=by rw[rangeSize_one];split<;>omega
 refine call_list_range (I.ok.hd hc) e (small_one (by decide) (by decide) h1 h2) hn h3 fun h' tk acc c kp hg it=>?_
 refine⟨.ref s.heap.objs.size,_,I.laid (o:=.lst _) kp (Nat.le_refl _) ⟨?_,acc.toList,c,?_,?_⟩,rfl,q _ (I.hok.fresh (Nat.le_refl _))⟩
 · rw[List.length_map,List.length_range,sizeLine_eq];exact h3
 · have key:∀(n:Nat) (us:List Value),us.length=n->(∀(j:Nat) (v:Value),us[j]?=some v->∃t,v=Value.int (0+(j:Int) * 1) t)->Vals ((List.range n).map fun (j:Nat)=>V.int j) us:=by
    intro n
    induction n with
    | zero => intro us hl _; cases us with
      |nil=>exact .nil
      |cons _ _=>simp at hl
    | succ n ih =>
      intro us hl hv
      have hne:us≠[]:=by intro z;subst z;simp at hl
      have hd:us=us.dropLast++[us.getLast hne]:=(List.dropLast_concat_getLast hne).symm
      rw[List.range_succ,List.map_append,hd]
      have hdl:us.dropLast.length=n:=by simp[hl]
      refine Vals.append (ih _ hdl fun j v e=>hv j v ?_) (.cons ?_ .nil)
      · have hj:j<us.dropLast.length:=(List.getElem?_eq_some_iff.mp e).1
        rw[hd,List.getElem?_append_left hj];exact e
      · obtain⟨t,e⟩:=hv n (us.getLast hne) (by
         conv=>lhs;rw[hd]
         rw[List.getElem?_append_right (by omega)]
         simp[hdl])
        exact⟨t,by simpa using e⟩
   exact key _ _ (by simpa using it.1) fun j v e=>it.2 j v (by simpa using e)
 · simpa using hg
theorem zmb (G:Gd T cf k N sc X){ca:CE}{a:Expr}{p2:Pos}(hg:Gl X "list"/\X.mg "list"=none)(hr:Gl X "range"/\X.mg "range"=none)(ha:PE X a (tE X.K cf ca))(hst:zan a=true) :
  PE X (.Call (.Name "list" p) [.Call (.Name "range" p2) [a] [] pos'] [] pos) (tE X.K cf (.mkL (.rng1 ca))):=by
 have hin:=zbT (p:=p2) (pos:=pos') ziC hr.1 hr.2 zk7 (zbv ha hst) (by decide) (by decide) (zam hst [] X.env)
 refine PE.imp (zbT (zkJ G.calm) hg.1 hg.2 zeW (zbv hin rfl) (by decide) (by decide) rfl) fun σ H Qv ⟨δ,ι,S,Q,hs,hh,w,q⟩=>?_
 simp only[evE,evL,zaa] at w
 refine tE.run hs hh w fun d v ι1 H1 S1 x1 hs1 hh1 r1 w1=>?_
 cases d with
 | int j =>
   obtain rfl:v=.int j:=r1
   dsimp only at w1
   split at w1
   · rename_i c
     obtain⟨c2,w2⟩:=zc5 w1
     refine⟨j,rfl,fun pr hpr=>⟨pr,j,rfl,zap,c.1,c.2,by simpa[sizeLine_eq] using c2,fun l hl=>?_⟩⟩
     have hh2:=hh1.new hpr (.rng 0 j)
     refine q _ _ (Lf.up (x1.trans (Ext.new hpr _)) (Lf.lst hh2 hl ?_ w2))
     have:=RVs.ints (K:=X.K) (ι:=ι1) (H:=upd H1 pr (.rng 0 j)) ((List.range j.toNat).map fun (m:Nat)=>(m:Int))
     rw[List.map_map,List.map_map] at this
     exact this
   · exact w1.elim
 |_=>exact w1.elim
theorem znv {ds:List D}{bs:List Bool}(h:ds.mapM zfL=some bs):ds=bs.map D.bl:=by
 induction ds generalizing bs with
 | nil =>
   have h:bs=[]:=by simpa using h.symm
   subst h;rfl
 | cons d ds ih =>
   obtain⟨y,r,h1,h2,rfl⟩:=zba h
   cases d<;>simp[zfL] at h1
   subst h1
   rw[ih h2];rfl
theorem RVs.bls_eq {K:PySem.W.Frag}{ι:List Addr}{H:Hp}:∀{bs:List Bool} {vs:List V},RVs K ι H (bs.map D.bl) vs->vs=bs.map V.bl
 | [],_,h=>h
 | b :: bs, vs, h => by
   obtain⟨v,r,rfl,h1,h2⟩:=h
   rw[RVs.bls_eq h2,show v=.bl b from h1];rfl
theorem zia {bs:List Bool}{us:List Value}(r:Vals (bs.map V.bl) us):us=bs.map Value.bool:=by
 induction bs generalizing us with
 |nil=>cases r;rfl
 | cons b bs ih =>
   cases r with
   |cons r1 r2=>rw[ih r2,show _=Value.bool b from r1];rfl
theorem zjK (bs:List Bool):(List.range bs.length).all (fun i=>bs.getD i false)=bs.all id:=by
 rw[Bool.eq_iff_iff,List.all_eq_true,List.all_eq_true]
 constructor
 · intro h b hb
   obtain⟨i,hi,e⟩:=List.getElem_of_mem hb
   have:=h i (by simpa using hi)
   rw[List.getD_eq_getElem?_getD,List.getElem?_eq_getElem hi,e] at this
   exact this
 · intro h i hi
   have hi:i<bs.length:=by simpa using hi
   rw[List.getD_eq_getElem?_getD,List.getElem?_eq_getElem hi]
   exact h _ (List.getElem_mem hi)
theorem znC (hc:X.calm=true):zbB X (.builtin "all") (fun xs H Q=>∃(a:Addr) (bs:List Bool),xs=[.ref a]/\(SqL X.K H a (bs.map V.bl)\/SqT X.K H a (bs.map V.bl))/\Q (.bl (bs.all id)) H):=by
 intro pins s σ H xs us Q I r h
 obtain⟨a,bs,rfl,hq,q⟩:=h
 obtain⟨u,rfl,ru⟩:=r.one
 cases (show u=Value.ref a from ru)
 have hA:X.A.in1.in1.handled=none:=I.ok.hd hc
 have hA1:X.A.in1.handled=none:=I.ok.hd hc
 have tr:∀(items:Array Value),items.toList=bs.map Value.bool->TruthOf X.prog X.w X.A.in1 (fun i v=>items[i]?=some v) (fun i=>bs.getD i false):=by
  intro items e i v s' Q' E' hv hQ
  have hv':items.toList[i]?=some v:=by rw[Array.getElem?_toList];exact hv
  rw[e,List.getElem?_map] at hv'
  cases z:bs[i]? with
  |none=>rw[z] at hv';cases hv'
  | some b =>
    rw[z] at hv'
    simp only[Option.map_some,Option.some.injEq] at hv'
    subst hv'
    dsimp only at hQ
    rw[List.getD_eq_getElem?_getD,z] at hQ
    exact wpAny_truthy_bool hQ
 have fin:∀(h':Heap) (tk n:Nat) (s2:Shared) (it:Addr),n=bs.length->s.heap.objs.size=it->Inv X pins σ H s2->s2.os=s.os->(∀b o,b∉[it]->s2.heap.get? b=some o->h'.get? b=some o)->
   EP X pins σ Q (.bool ((List.range n).all fun i=>bs.getD i false)) {s2 with heap:=h',toks:=tk}:=by
  intro h' tk n s2 it hn hit I2 ho kp
  subst hn
  rw[zjK]
  have fp:=I.fpOk (b:=it) (H':=H) (by omega) (I.hok.fresh (by omega))
  obtain⟨f0,f1,f2,f3,f4,f5⟩:=fp
  exact⟨.bl _,H,I2.turned (it:=it) (fun b o hb e=>kp b o (by simpa using hb) e) f0 f1 f3 f4 f5,rfl,q⟩
 rcases hq with hq|hq
 · obtain⟨its,rv,pl,hz⟩:=I.list hq
   have hits:=zia rv
   have hlen:=rv.length
   refine call_all_walk (wpAny_pyIter_list pl.isList ?_)
   have hne:a≠s.heap.objs.size:=by
    obtain⟨o,n,e,_⟩:=pl
    exact Nat.ne_of_lt (Heap.lt_size e)
   refine⟨s.heap.objs.size,_,_,_,_,_,_,rfl,Walks.list hA1 _ a hne its.toArray,⟨⟨_,Heap.get?_push_size _ rfl,rfl,rfl⟩,pl.isList.push _⟩,tr its.toArray (by simpa using hits),fun h' tk kp=>?_⟩
   exact fin h' tk _ _ _ (by simpa using hlen.symm) rfl (I.kept (t':=s.toks) fun b o e=>Heap.get?_push_of_some _ e) rfl kp
 · obtain⟨its,rv,pl,hz⟩:=I.tuple hq
   have hits:=zia rv
   have hlen:=rv.length
   refine call_all_walk (wpAny_pyIter_tuple (show s.heap.IsTuple a its.toArray from pl) ?_)
   have hne:a≠s.heap.objs.size:=by
    obtain⟨o,e,_⟩:=pl
    exact Nat.ne_of_lt (Heap.lt_size e)
   refine⟨s.heap.objs.size,_,_,_,_,_,_,rfl,Walks.tuple hA1 _ a hne its.toArray,⟨⟨_,Heap.get?_push_size _ rfl,rfl,rfl⟩,?_⟩,tr its.toArray (by simpa using hits),fun h' tk kp=>?_⟩
   · obtain⟨o,e,c⟩:=pl
     exact⟨o,Heap.get?_push_of_some _ e,c⟩
   · exact fin h' tk _ _ _ (by simpa using hlen.symm) rfl (I.kept (t':=s.toks) fun b o e=>Heap.get?_push_of_some _ e) rfl kp
theorem zom (G:Gd T cf k N sc X){cl:CL}{e:Expr}(hg:Gl X "all"/\X.mg "all"=none)(he:PE X e (tL X.K cf cl))(hst:zan e=true):PE X (.Call (.Name "all" p) [e] [] pos) (tE X.K cf (.all cl)):=by
 refine PE.imp (zde (znC G.calm) hg.1 hg.2 zpH (zbv he hst) (by decide) (by decide) (zam hst [] X.env)) fun σ H Qv ⟨δ,ι,S,Q,hs,hh,w,q⟩=>?_
 simp only[evE,zaa] at w
 refine tL.run hs hh w fun ds lks v ι1 H1 S1 x1 hs1 hh1 sq w1=>?_
 obtain⟨b,hb,w2⟩:=zaG w1
 unfold allD at hb
 cases e:ds.mapM zfL with
 |none=>rw[e] at hb;cases hb
 | some bs =>
   rw[e] at hb
   have hb:b=bs.all id:=by simpa using hb.symm
   subst hb
   obtain⟨a,xs,rfl,rr,kd⟩:=sq
   rw[znv e] at rr
   have:=rr.bls_eq
   subst this
   exact⟨a,bs,rfl,kd.seq,q _ _ (Lf.up x1 (Lf.of (d:=.bl _) hh1 rfl w2))⟩
theorem zgf {ι:List Addr}{H:Hp}{S:R.St}{d:D}{v:V}(hh:RH X.K ι H S)(r:RV X.K ι H d v)(h:isDt S d=true):∃a,v=.ref a/\IsD H a:=by
 cases d with
 | ref l =>
   obtain⟨p,h1,rfl⟩:=r
   simp only[isDt] at h
   cases e:S.get l with
   |none=>rw[e] at h;cases h
   | some o =>
     rw[e] at h
     obtain⟨b,h2,h3⟩:=hh.obj _ _ e
     rw[h1] at h2;cases h2
     cases o with
     |dtp kvs=>obtain⟨_,ws,ha,_⟩:=h3;exact⟨p,rfl,.inr ⟨ws,.inl ha⟩⟩
     |_=>cases h
 |_=>cases h
theorem zlx {ι:List Addr}{H:Hp}{y:D}{v:V}{k:List Int}(r:RV X.K ι H y v)(h:zcY y=some k):∃b,v=.ref b/\H b=some (.tup ((kI k).map kV)):=by
 cases y with
 | tup ds =>
   obtain⟨b,xs,rfl,hb,rr⟩:=r
   simp only[zcY] at h
   rw[zdg h] at rr
   rw[rr.ints_eq] at hb
   refine⟨b,rfl,?_⟩
   rw[hb]
   unfold kI
   rw[List.map_map];rfl
 |_=>cases h
theorem znp {ι:List Addr}{H:Hp}{S:R.St}{x y:D}{vx vy:V}{o:Option D}(hh:RH X.K ι H S)(rx:RV X.K ι H x vx)(ry:RV X.K ι H y vy)(h:dGet S x y=some o):∃a ov,vx=.ref a/\DGet H a vy ov/\RV X.K ι H (o.getD .non) (ov.getD .non):=by
 unfold dGet at h
 cases x with
 | ref l =>
   obtain⟨p,h1,rfl⟩:=rx
   dsimp only at h
   cases e:S.get l with
   |none=>rw[e] at h;cases h
   | some ob =>
     rw[e] at h
     obtain⟨b,h2,h3⟩:=hh.obj _ _ e
     rw[h1] at h2;cases h2
     cases ob with
     | dtp kvs =>
       obtain⟨_,ws,ha,rk⟩:=h3
       dsimp only at h
       cases ek:zcY y with
       |none=>rw[ek] at h;cases h
       | some k =>
         rw[ek] at h
         cases h
         obtain⟨b,rfl,hb⟩:=zlx ry ek
         refine⟨p,_,rfl,DGet.t ha hb,?_⟩
         rcases rk.val k with ⟨e1,e2⟩|⟨d,v,e1,e2,rv⟩
         · dsimp only;rw[e1,e2];rfl
         · dsimp only;rw[e1,e2];exact rv
     |_=>cases h
 |_=>cases h
theorem zjY:PE X (.Dict [] [] pos) (tE X.K cf .dnewT):=by
 refine PE.imp zku fun σ H Qv ⟨δ,ι,S,Q,hs,hh,w,q⟩=>?_
 simp only[evE] at w
 intro p hp
 exact q _ _ ⟨.ref S.len,ι++[p],S.push (.dtp []),Ext.obj hh hp _,⟨p,hh.last p,rfl⟩,hh.obj' hp _ _ ⟨List.nodup_nil,[],zap,rfl⟩,w⟩
theorem zj1 (G:Gd T cf k N sc X){co ce:CE}{o e:Expr}{apos cpos:Pos}(ho:PE X o (tE X.K cf co))(he:PE X e (tE X.K cf ce))(hst:zan e=true)(hsup:za9 o=true)(hl:(apos.endLine == cpos.line)=true) :
  PE X (.Call (.Attribute o "get" apos) [e] [] cpos) (tE X.K cf (.dget1 co ce)):=by
 refine PE.imp (zkv (by have:=G.hu;omega) ho he ⟨zb6 hsup "get" X.env _,by rw[zam hst];rfl,hl,by rw[zam hst];rfl⟩) fun σ H Qv ⟨δ,ι,S,Q,hs,hh,w,q⟩=>?_
 simp only[evE,zaa] at w
 refine tE.run hs hh w fun d v ι1 H1 S1 x1 hs1 hh1 r1 w1=>?_
 split at w1
 · rename_i c
   obtain⟨a,rfl,hD⟩:=zgf hh1 r1 c
   refine⟨a,rfl,hD,?_⟩
   rw[zaa] at w1
   refine tE.run hs1 hh1 w1 fun y vy ι2 H2 S2 x2 hs2 hh2 r2 w2=>?_
   rw[zaa] at w2
   obtain⟨o,eo,w3⟩:=zaG w2
   obtain⟨a',ov,ea,g,rv⟩:=znp hh2 (r1.ext x2) r2 eo
   cases ea
   exact⟨ov,g,q _ _ (Lf.up (x1.trans x2) (Lf.of hh2 rv w3))⟩
 · exact w1.elim
end
end R
end
section
set_option maxHeartbeats 4000000
namespace R
open PySem PySem.Spec PyProof.Rows L2
variable [Mks]
section
variable {prog:Program} {w:World} {A:Around} {E:Value->Shared->Prop} {s:Shared}
end
section
variable {T:Tab} {cf:CF} {k:Nat} {N:List Str} {sc:Scope} {X:Cx} {pos p p2 pos':Pos}
end
end R
end
section
namespace R
open PySem PySem.Spec PyProof.Rows L2
variable [Mks]
section
variable {T:Tab} {cf:CF} {k:Nat} {N:List Str} {sc:Scope} {X:Cx} {pos p p2 pos':Pos}
theorem zhh {ι:List Addr}{H:Hp}{S:R.St}{x y:D}{vx vy:V}{o:Option D}(hh:RH X.K ι H S)(rx:RV X.K ι H x vx)(ry:RV X.K ι H y vy)(h:dGet S x y=some o) :
  ∃l a b kvs ws kk,x=.ref l/\ι[l]?=some a/\S.get l=some (.dtp kvs)/\vx=.ref a/\zcY y=some kk/\(kvs.map (·.1)).Nodup/\H a=some (.dT ws)/\RKs X.K ι H kvs ws/\vy=.ref b/\H b=some (.tup ((kI kk).map kV))/\o=valP kvs kk:=by
 unfold dGet at h
 cases x with
 | ref l =>
   obtain⟨p,h1,rfl⟩:=rx
   dsimp only at h
   cases e:S.get l with
   |none=>rw[e] at h;cases h
   | some ob =>
     rw[e] at h
     obtain⟨b,h2,h3⟩:=hh.obj _ _ e
     rw[h1] at h2;cases h2
     cases ob with
     | dtp kvs =>
       obtain⟨nd,ws,ha,rk⟩:=h3
       dsimp only at h
       cases ek:zcY y with
       |none=>rw[ek] at h;cases h
       | some kk =>
         rw[ek] at h
         cases h
         obtain⟨b,rfl,hb⟩:=zlx ry ek
         exact⟨l,p,b,kvs,ws,kk,rfl,h1,e,rfl,rfl,nd,ha,rk,rfl,hb,rfl⟩
     |_=>cases h
 |_=>cases h
theorem zj0 (G:Gd T cf k N sc X){co ce cx:CE}{o e x:Expr}{apos cpos:Pos}(ho:PE X o (tE X.K cf co))(he:PE X e (tE X.K cf ce))(hx:PE X x (tE X.K cf cx))(hst:zan e=true)(hst2:zan x=true)(hsup:za9 o=true)(hl:(apos.endLine == cpos.line)=true) :
  PE X (.Call (.Attribute o "get" apos) [e,x] [] cpos) (tE X.K cf (.dget2 co ce cx)):=by
 refine PE.imp (zgS (by have:=G.hu;omega) ho he hx ⟨zb6 hsup "get" X.env _,by rw[zam hst,zam hst2];rfl,hl,by rw[zam hst,zam hst2];rfl⟩) fun σ H Qv ⟨δ,ι,S,Q,hs,hh,w,q⟩=>?_
 simp only[evE,zaa] at w
 refine tE.run hs hh w fun d v ι1 H1 S1 x1 hs1 hh1 r1 w1=>?_
 split at w1
 · rename_i c
   obtain⟨a,rfl,hD⟩:=zgf hh1 r1 c
   refine⟨a,rfl,hD,?_⟩
   rw[zaa] at w1
   refine tE.run hs1 hh1 w1 fun y vy ι2 H2 S2 x2 hs2 hh2 r2 w2=>?_
   rw[zaa] at w2
   refine tE.run hs2 hh2 w2 fun z vz ι3 H3 S3 x3 hs3 hh3 r3 w3=>?_
   rw[zaa] at w3
   obtain⟨o,eo,w4⟩:=zaG w3
   obtain⟨l,a',b,kvs,ws,kk,_,_,_,ea,_,nd,ha,rk,rfl,hb,rfl⟩:=zhh hh3 (r1.ext (x2.trans x3)) (r2.ext x3) eo
   cases ea
   refine⟨_,DGet.t ha hb,?_⟩
   have up:=(x1.trans x2).trans x3
   rcases rk.val kk with ⟨e1,e2⟩|⟨d',v',e1,e2,rv⟩
   · rw[e1] at w4
     rw[e2]
     exact q _ _ (Lf.up up (Lf.of hh3 r3 w4))
   · rw[e1] at w4
     rw[e2]
     exact q _ _ (Lf.up up (Lf.of hh3 rv w4))
 · exact w1.elim
theorem zjX (G:Gd T cf k N sc X){co ce cx:CE}{o e x:Expr}{apos cpos:Pos}(ho:PE X o (tE X.K cf co))(he:PE X e (tE X.K cf ce))(hx:PE X x (tE X.K cf cx))(hst:zan e=true)(hst2:zan x=true)(hsup:za9 o=true)(hl:(apos.endLine == cpos.line)=true) :
  PE X (.Call (.Attribute o "setdefault" apos) [e,x] [] cpos) (tE X.K cf (.dsetd co ce cx)):=by
 refine PE.imp (zkt (by have:=G.hu;omega) ho he hx ⟨zb6 hsup "setdefault" X.env _,by rw[zam hst,zam hst2];rfl,hl,by rw[zam hst,zam hst2];rfl⟩) fun σ H Qv ⟨δ,ι,S,Q,hs,hh,w,q⟩=>?_
 simp only[evE,zaa] at w
 refine tE.run hs hh w fun d v ι1 H1 S1 x1 hs1 hh1 r1 w1=>?_
 split at w1
 · rename_i c
   obtain⟨a,rfl,hD⟩:=zgf hh1 r1 c
   refine⟨a,rfl,hD,?_⟩
   rw[zaa] at w1
   refine tE.run hs1 hh1 w1 fun y vy ι2 H2 S2 x2 hs2 hh2 r2 w2=>?_
   rw[zaa] at w2
   refine tE.run hs2 hh2 w2 fun z vz ι3 H3 S3 x3 hs3 hh3 r3 w3=>?_
   rw[zaa] at w3
   obtain⟨r,er,w4⟩:=zaG w3
   have up:=(x1.trans x2).trans x3
   unfold zeS at er
   cases eg:dGet S3 d y with
   |none=>rw[eg] at er;cases er
   | some og =>
     obtain⟨l,a',b,kvs,ws,kk,rfl,hi,hg,ea,ek,nd,ha,rk,rfl,hb,rfl⟩:=zhh hh3 (r1.ext (x2.trans x3)) (r2.ext x3) eg
     cases ea
     rw[eg] at er
     have hlen:∀T,dPut S3 (.ref l) y z=some T->kvs.length<16777216/\S3.put l (.dtp (putP kvs kk z))=some T:=fun T eT=>by
      unfold dPut at eT
      dsimp only at eT
      rw[hg] at eT
      dsimp only at eT
      rw[ek] at eT
      dsimp only[Option.bind_some] at eT
      split at eT
      · rename_i c;exact⟨c,eT⟩
      · cases eT
     rcases rk.val kk with ⟨e1,e2⟩|⟨d',v',e1,e2,rv⟩
     · rw[e1] at er
       dsimp only at er
       cases ep:dPut S3 (.ref l) y z with
       |none=>rw[ep] at er;cases er
       | some T' =>
         rw[ep] at er
         cases er
         obtain⟨c,es⟩:=hlen _ ep
         have xw:=Ext.wr hh3 hg hi (.dT (putK ws (kI kk) vz))
         have hz:ws.length<sizeLine:=by rw[rk.length,sizeLine_eq];exact c
         refine⟨ws,kI kk,b,ha,rfl,hb,fun u hu=>absurd (e2.symm.trans hu) (fun z=>nomatch z),fun _=>⟨hz,?_⟩⟩
         exact q _ _ ⟨z,ι3,T',up.trans xw,r3.ext xw,hh3.wr hg hi es ⟨zhC nd,_,zap,(rk.put kk r3 nd).up xw.pre xw.kp⟩,w4⟩
     · rw[e1] at er
       cases er
       refine⟨ws,kI kk,b,ha,rfl,hb,fun u hu=>?_,fun hn=>absurd (e2.symm.trans hn) (fun z=>nomatch z)⟩
       rw[e2] at hu;cases hu
       exact q _ _ (Lf.up up (Lf.of hh3 rv w4))
 · exact w1.elim
theorem zmg {ca cb:CE}{o e:Expr}{apos cpos:Pos}(ho:PE X o (tE X.K cf ca))(he:PE X e (tE X.K cf cb))(hst:zan e=true)(hsup:za9 o=true)(hl:(apos.endLine == cpos.line)=true) :
  PE X (.Call (.Attribute o "extend" apos) [e] [] cpos) (tE X.K cf (.extv ca cb)):=by
 refine PE.imp (zmN PySem.F.plainAttrs_list PySem.F.slot_list_extend PySem.F.type_list_extend zfm ho (zbv he hst) (zb6 hsup "extend" X.env _) (by rw[zam hst];rfl) hl (zam hst [] X.env)) fun σ H Qv ⟨δ,ι,S,Q,hs,hh,w,q⟩=>?_
 simp only[evE,zaa] at w
 refine tE.run hs hh w fun d v ι1 H1 S1 x1 hs1 hh1 r1 w1=>?_
 split at w1
 · rename_i c
   refine⟨zg4 hh1 r1 c,?_⟩
   rw[zaa] at w1
   refine tE.run hs1 hh1 w1 fun y vy ι2 H2 S2 x2 hs2 hh2 r2 w2=>?_
   rw[zaa] at w2
   obtain⟨o,eo,w3⟩:=zaG w2
   unfold lsts at eo
   cases d with
   | ref l =>
     cases y with
     | ref m =>
       obtain⟨a,h1,rfl⟩:=r1.ext x2
       obtain⟨b,h2,rfl⟩:=r2
       dsimp only at eo
       cases e1:S2.get l with
       |none=>rw[e1] at eo;cases eo
       | some ob =>
         cases e2:S2.get m with
         |none=>rw[e1,e2] at eo;cases ob<;>cases eo
         | some ob2 =>
           rw[e1,e2] at eo
           cases ob with
           | lst xs =>
             cases ob2 with
             | lst ys =>
               cases eo
               obtain⟨a',g1,zs,ha,rz⟩:=hh2.obj _ _ e1
               rw[h1] at g1;cases g1
               obtain⟨b',g2,us,hb,ru⟩:=hh2.obj _ _ e2
               rw[h2] at g2;cases g2
               obtain⟨c2,S',hp,w4⟩:=zh4 w3
               refine⟨a,b,zs,us,rfl,rfl,ha,hb,?_,q _ _ (Lf.up (x1.trans x2) (Lf.wr (d:=.non) hh2 e1 h1 hp (rz.append ru) rfl w4))⟩
               rw[rz.length,ru.length,<-List.length_append];exact c2
             |_=>cases eo
           |_=>cases eo
     |_=>cases eo
   |_=>cases eo
 · exact w1.elim
theorem zjZ (G:Gd T cf k N sc X){ca:CE}{a:Expr}(hg:Gl X "list"/\X.mg "list"=none)(ha:PE X a (tE X.K cf ca))(hst:zan a=true):PE X (.Call (.Name "list" p) [a] [] pos) (tE X.K cf (.dkeys ca)):=by
 refine PE.imp (zbT (zpd G.calm) hg.1 hg.2 zeW (zbv ha hst) (by decide) (by decide) (zam hst [] X.env)) fun σ H Qv ⟨δ,ι,S,Q,hs,hh,w,q⟩=>?_
 simp only[evE,zaa] at w
 refine tE.run hs hh w fun d v ι1 H1 S1 x1 hs1 hh1 r1 w1=>?_
 obtain⟨kvs,ed,w2⟩:=zaG w1
 obtain⟨l,rfl,g1⟩:=zdi ed
 obtain⟨a',i1,rfl⟩:=r1
 obtain⟨a2,j1,nd,ws,ha2,rk⟩:=hh1.obj l _ g1
 rw[i1] at j1;cases j1
 refine⟨a',ws,rfl,ha2,fun pn bs hp pr=>?_⟩
 have rs:∀{kvs:List (List Int × D)} {ws:List (List Key × V)} {bs:List Addr},RKs X.K ι1 H1 kvs ws->Paired (fun (kv:List Key × V) b=>H1 b=some (.tup (kv.1.map kV))) ws bs->RVs X.K ι1 H1 (kvs.map keyD) (bs.map V.ref):=by
  intro kvs
  induction kvs with
  | nil =>
    intro ws bs r pr
    cases (show ws=[] from r)
    cases pr
    exact rfl
  | cons kv kvs ih =>
    intro ws bs r pr
    obtain⟨k0,d0⟩:=kv
    obtain⟨v,w',rfl,r1,r2⟩:=r
    cases pr with
    | cons h t =>
      refine⟨_,_,rfl,⟨_,_,rfl,h,?_⟩,ih r2 t⟩
      have ek:(kI k0).map kV=k0.map V.int:=by unfold kI;rw[List.map_map];rfl
      show RVs X.K ι1 H1 (k0.map .int) ((kI k0).map kV)
      rw[ek]
      exact RVs.ints k0
 obtain⟨c,w3⟩:=zc5 w2
 exact q _ _ (Lf.up x1 (Lf.lst hh1 hp (rs rk pr) w3))
theorem zme {ca:CE}{a:Expr}(hg:Gl X "int"/\X.mg "int"=none)(ha:PE X a (tE X.K cf ca))(hst:zan a=true):PE X (.Call (.Name "int" p) [a] [] pos) (tE X.K cf (.intb ca)):=by
 refine PE.imp (zbT zqp hg.1 hg.2 zlI (zbv ha hst) (by decide) (by decide) (zam hst [] X.env)) fun σ H Qv ⟨δ,ι,S,Q,hs,hh,w,q⟩=>?_
 simp only[evE,zaa] at w
 refine tE.run hs hh w fun d v ι1 H1 S1 x1 hs1 hh1 r1 w1=>?_
 cases d with
 | bl b =>
   cases (show v=V.bl b from r1)
   exact⟨b,rfl,q _ _ (Lf.up x1 (Lf.of (d:=.int _) hh1 rfl w1))⟩
 |_=>exact w1.elim
end
end R
end
section
namespace R
open PySem PySem.Spec PyProof.Rows L2
variable [Mks]
structure Ltr (K:PySem.W.Frag) (ι:List Addr) (H:Hp) (S:R.St) (lks:List Nat) (ι2:List Addr) (H2:Hp) (S2:R.St):Prop where
 ext:Ext ι H ι2 H2
 rh:RH K ι2 H2 S2
 lck:∀l∈lks,S2.get l=S.get l
structure Wk (K:PySem.W.Frag) (J:It) (ds:List D) (lks:List Nat) (ι:List Addr) (H:Hp) (S:R.St):Prop where
 go:∀(i:Nat) (ι2:List Addr) (H2:Hp) (S2:R.St),Ltr K ι H S lks ι2 H2 S2->i<ds.length->J.go i H2
 yld:∀(i:Nat) (ι2:List Addr) (H2:Hp) (S2:R.St) (x:V) (H':Hp),Ltr K ι H S lks ι2 H2 S2->i<ds.length->J.yld i H2 x H'->Ext ι2 H2 ι2 H'/\RH K ι2 H' S2/\∃d,ds[i]?=some d/\RV K ι2 H' d x
 stop:∀(i:Nat) (ι2:List Addr) (H2:Hp) (S2:R.St),Ltr K ι H S lks ι2 H2 S2->ds.length<=i->J.stop i H2
 lks:∀l∈lks,l<S.len
noncomputable def LfI (K:PySem.W.Frag)(ι:List Addr)(H:Hp)(Q:List D × List Nat->R.St->Prop)(J:It)(H':Hp):Prop:=∃ds lks ι' S',Ext ι H ι' H'/\RH K ι' H' S'/\Q (ds,lks) S'/\Wk K J ds lks ι' H' S'
noncomputable def tI (K:PySem.W.Frag)(cf:CF)(cl:CL):TI:=fun σ H R=>∃δ ι S Q,RS K ι H δ σ/\RH K ι H S/\W (evL cf cl δ S) Q/\∀J H',LfI K ι H Q J H'->R J H'
theorem PI.imp {X:Cx}{tg e:Expr}{t t':TI}(h:PI X tg e t)(i:∀σ H Q,t' σ H Q->t σ H Q):PI X tg e t':=fun pins s σ H Q I q=>h pins s σ H Q I (i σ H Q q)
noncomputable def iSeq (K:PySem.W.Frag)(tl:TE):TI:=fun σ H R=>tl σ H fun x H1=>∃a,x=.ref a/\(((∃xs,SqL K H1 a xs)/\R (Itl K a) H1)\/((∃xs,SqT K H1 a xs)/\R (Itt K a) H1))
section
variable {T:Tab} {cf:CF} {k:Nat} {N:List Str} {sc:Scope} {X:Cx} {pos p:Pos} {tg:Expr}
theorem zoI {l:Expr}{tl:TE}(hl:PE X l tl):PI X tg l (iSeq X.K tl):=by
 intro pins s σ H R I h
 refine thn (hl pins s σ H _ I h) fun v s1 ⟨x,H1,I1,r1,q1⟩=>?_
 obtain⟨a,rfl,q1⟩:=q1
 cases r1
 rcases q1 with ⟨⟨xs,hq⟩,q⟩|⟨⟨xs,hq⟩,q⟩
 · obtain⟨its,rv,pl,hz⟩:=I1.list hq
   refine wpAny_pyIter_list pl.isList ?_
   refine⟨s1.heap.objs.size,[s1.heap.objs.size],_,_,H1,rfl,I1.kept (t':=s1.toks) fun b o e=>Heap.get?_push_of_some _ e,ze0 a _,⟨_,Heap.get?_push_size _ rfl,rfl,rfl⟩,fun b hb=>?_,q⟩
   have e:b=s1.heap.objs.size:=by simpa using hb
   subst e
   exact I1.fpOk (Nat.le_refl _) (I1.hok.fresh (Nat.le_refl _))
 · obtain⟨its,rv,pl,hz⟩:=I1.tuple hq
   refine wpAny_pyIter_tuple (show s1.heap.IsTuple a its.toArray from pl) ?_
   refine⟨s1.heap.objs.size,[s1.heap.objs.size],_,_,H1,rfl,I1.kept (t':=s1.toks) fun b o e=>Heap.get?_push_of_some _ e,zht a _,⟨_,Heap.get?_push_size _ rfl,rfl,rfl⟩,fun b hb=>?_,q⟩
   have e:b=s1.heap.objs.size:=by simpa using hb
   subst e
   exact I1.fpOk (Nat.le_refl _) (I1.hok.fresh (Nat.le_refl _))
theorem zfU {K:PySem.W.Frag}{ι:List Addr}{H:Hp}{S:R.St}{a:Addr}{ds:List D}{lks:List Nat}(hl:∀l∈lks,l<S.len)
  (h:∀ι2 H2 S2,Ltr K ι H S lks ι2 H2 S2->∃xs,SqL K H2 a xs/\RVs K ι2 H2 ds xs/\∀ys,SqL K H2 a ys->True):Wk K (Itl K a) ds lks ι H S where
 go:=fun i ι2 H2 S2 lt hi=>by
  obtain⟨xs,hq,rr,_⟩:=h ι2 H2 S2 lt
  exact⟨xs,xs[i]'(by rw[rr.length];exact hi),hq,List.getElem?_eq_getElem _⟩
 yld:=fun i ι2 H2 S2 x H' lt hi y=>by
  obtain⟨xs,hq,rr,_⟩:=h ι2 H2 S2 lt
  obtain⟨rfl,y⟩:=y
  obtain⟨d,e,r⟩:=rr.get' (y xs hq)
  exact⟨Ext.refl _ _,lt.rh,d,e,r⟩
 stop:=fun i ι2 H2 S2 lt hi=>by
  obtain⟨xs,hq,rr,_⟩:=h ι2 H2 S2 lt
  exact⟨xs,hq,by rw[rr.length];exact hi⟩
 lks:=hl
theorem znH {K:PySem.W.Frag}{ι:List Addr}{H:Hp}{S:R.St}{a:Addr}{ds:List D}{lks:List Nat}{xs:List V}(hl:∀l∈lks,l<S.len)(e:H a=some (.tup xs))(rr:RVs K ι H ds xs):Wk K (Itt K a) ds lks ι H S where
 go:=fun i ι2 H2 S2 lt hi=>⟨xs,xs[i]'(by rw[rr.length];exact hi),SqT.of (lt.ext.kp.tups _ _ e),List.getElem?_eq_getElem _⟩
 yld:=fun i ι2 H2 S2 x H' lt hi y=>by
  obtain⟨rfl,y⟩:=y
  obtain⟨d,e,r⟩:=(rr.ext lt.ext).get' (y xs (SqT.of (lt.ext.kp.tups _ _ e)))
  exact⟨Ext.refl _ _,lt.rh,d,e,r⟩
 stop:=fun i ι2 H2 S2 lt hi=>⟨xs,SqT.of (lt.ext.kp.tups _ _ e),by rw[rr.length];exact hi⟩
 lks:=hl
theorem zil {cl:CL}{e:Expr}(he:PE X e (tL X.K cf cl))(hlk:∀{δ:Ev} {S:R.St} {Q:List D × List Nat->R.St->Prop},W (evL cf cl δ S) Q->W (evL cf cl δ S) fun r S'=>(∀l∈r.2,l<S'.len)/\Q r S'):PI X tg e (tI X.K cf cl):=by
 refine PI.imp (zoI he) fun σ H R ⟨δ,ι,S,Q,hs,hh,w,q⟩=>?_
 refine tL.run hs hh (hlk w) fun ds lks v ι1 H1 S1 x1 hs1 hh1 sq w1=>?_
 obtain⟨hl,w1⟩:=w1
 obtain⟨a,xs,rfl,rr,kd⟩:=sq
 refine⟨a,rfl,?_⟩
 cases kd with
 |tmp h e=>exact .inl ⟨⟨xs,SqL.of e⟩,q _ _ ⟨ds,lks,ι1,S1,x1,hh1,w1,zfU hl fun ι2 H2 S2 lt=>⟨xs,SqL.of (lt.ext.keep h e (by simp)),rr.ext lt.ext,fun _ _=>trivial⟩⟩⟩
 |fix e=>exact .inl ⟨⟨xs,e.sq⟩,q _ _ ⟨ds,lks,ι1,S1,x1,hh1,w1,zfU hl fun ι2 H2 S2 lt=>⟨xs,(e.kp lt.ext.kp).sq,rr.ext lt.ext,fun _ _=>trivial⟩⟩⟩
 |tup e=>exact .inr ⟨⟨xs,SqT.of e⟩,q _ _ ⟨ds,lks,ι1,S1,x1,hh1,w1,znH hl e rr⟩⟩
 | own l hm hi hg e =>
   refine .inl ⟨⟨xs,SqL.of e⟩,q _ _ ⟨ds,lks,ι1,S1,x1,hh1,w1,zfU hl fun ι2 H2 S2 lt=>?_⟩⟩
   obtain⟨b,h2,zs,hz,rz⟩:=lt.rh.obj l (.lst ds) ((lt.lck l hm).trans hg)
   rw[zbY lt.ext.pre hi] at h2;cases h2
   exact⟨zs,SqL.of hz,rz,fun _ _=>trivial⟩
theorem zpb {ce:CE}{δ:Ev}{S:R.St}{Q:List D × List Nat->R.St->Prop}(h:W (evL cf (.val ce) δ S) Q):W (evL cf (.val ce) δ S) fun r S'=>(∀l∈r.2,l<S'.len)/\Q r S':=by
 simp only[evL,zaa] at h⊢
 refine h.mono fun x S1 h1=>?_
 obtain⟨ds,e,h2⟩:=zaG h1
 rw[e]
 refine⟨fun l hl=>?_,h2⟩
 cases x with
 | ref l' =>
   simp[lkOf] at hl
   subst hl
   simp only[zcz] at e
   split at e
   · rename_i e2;exact zbn e2
   · cases e
 |_=>simp[lkOf] at hl
theorem zkI {f j:Nat}{ces:CEs}{δ:Ev}{S:R.St}{Q:List D × List Nat->R.St->Prop}(h:W (evL cf (.callL f j ces) δ S) Q):W (evL cf (.callL f j ces) δ S) fun r S'=>(∀l∈r.2,l<S'.len)/\Q r S':=by
 simp only[evL,zaa] at h⊢
 exact h.mono fun ds S1 h1=>h1.mono fun r S2 h2=>⟨fun l hl=>by simp at hl,h2⟩
theorem zmZ {n:Nat}{js g:List Nat}{it:CL}{c e:CE}{δ:Ev}{S:R.St}{Q:List D × List Nat->R.St->Prop}(h:W (evL cf (.comp n js g it c e) δ S) Q):W (evL cf (.comp n js g it c e) δ S) fun r S'=>(∀l∈r.2,l<S'.len)/\Q r S':=by
 simp only[evL,zaa] at h⊢
 refine h.mono fun ds S1 h1=>h1.mono fun r S2 h2=>?_
 split at h2
 · rename_i c;rw[if_pos c];exact⟨fun l hl=>by simp at hl,h2⟩
 · exact h2.elim
theorem zgy {K:PySem.W.Frag}{ι:List Addr}{H:Hp}{S:R.St}(lo:Int)(n:Nat):Wk K (Itr lo n) ((List.range n).map fun (j:Nat)=>D.int (lo+j)) [] ι H S where
 go:=fun i ι2 H2 S2 lt hi=>by show i<n;simpa using hi
 yld:=fun i ι2 H2 S2 x H' lt hi y=>by
  obtain⟨rfl,rfl⟩:=y
  have hi:i<n:=by simpa using hi
  exact⟨Ext.refl _ _,lt.rh,.int (lo+i),by simp[hi],rfl⟩
 stop:=fun i ι2 H2 S2 lt hi=>by show n<=i;simpa using hi
 lks:=fun l hl=>by simp at hl
theorem zl7 {ca:CE}{a:Expr}(hg:Gl X "range"/\X.mg "range"=none)(ha:PE X a (tE X.K cf ca))(hst:zan a=true):PI X tg (.Call (.Name "range" p) [a] [] pos) (tI X.K cf (.rng1 ca)):=by
 refine PI.imp (ziO hg.1 hg.2 (zbv ha hst) (zam hst [] X.env)) fun σ H R ⟨δ,ι,S,Q,hs,hh,w,q⟩=>?_
 simp only[evL,zaa] at w
 refine tE.run hs hh w fun d v ι1 H1 S1 x1 hs1 hh1 r1 w1=>?_
 cases d with
 | int j =>
   obtain rfl:v=.int j:=r1
   dsimp only at w1
   split at w1
   · rename_i c
     have e:((List.range j.toNat).map fun (k:Nat)=>D.int k)=(List.range j.toNat).map fun (k:Nat)=>D.int (0+k):=by simp
     rw[e] at w1
     exact⟨j,rfl,c.1,c.2,q _ _ ⟨_,[],ι1,S1,x1,hh1,w1,zgy 0 j.toNat⟩⟩
   · exact w1.elim
 |_=>exact w1.elim
theorem zl6 {ca cb:CE}{a b:Expr}(hg:Gl X "range"/\X.mg "range"=none)(ha:PE X a (tE X.K cf ca))(hb:PE X b (tE X.K cf cb))(hst:zan a=true)(hst2:zan b=true):PI X tg (.Call (.Name "range" p) [a,b] [] pos) (tI X.K cf (.rng2 ca cb)):=by
 refine PI.imp (ziN hg.1 hg.2 (zbZ ha (zbv hb hst2) (zam hst [b] X.env)) (by rw[zam hst,zam hst2];rfl) (zam hst2 [] X.env)) fun σ H R ⟨δ,ι,S,Q,hs,hh,w,q⟩=>?_
 simp only[evL,zaa] at w
 refine tE.run hs hh w fun d v ι1 H1 S1 x1 hs1 hh1 r1 w1=>tE.run hs1 hh1 w1 fun e u ι2 H2 S2 x2 hs2 hh2 r2 w2=>?_
 split at w2
 · rename_i i j
   obtain rfl:v=.int i:=r1
   obtain rfl:u=.int j:=r2
   split at w2
   · rename_i c
     exact⟨i,j,rfl,c,q _ _ ⟨_,[],ι2,S2,x1.trans x2,hh2,w2,zgy i (j - i).toNat⟩⟩
   · exact w2.elim
 · exact w2.elim
theorem zcQ {X:Cx}{pins:List (Addr × Obj)}{σ:L2.St}{H:Hp}{s:Shared}{h':Heap}{t':Nat}{fp:List Addr}(I:Inv X pins σ H s)(k:∀b o,b∉fp->s.heap.get? b=some o->h'.get? b=some o)(hf:∀b∈fp,FpOk X pins H b):Inv X pins σ H {s with heap:=h',toks:=t'}:=by
 have nit:∀b u,H b=some u->b∉fp:=fun b u e z=>by rw[(hf b z).1] at e;cases e
 refine I.step (g':=s.gens) (d':=s.drawn) (ch:=fp) (fun b hb=>?_) (fun b o _ _ hc e _=>k b o hc e) (fun b o _ _ hc e _=>⟨o.slots,k b o hc e⟩) (fun _ _ _ _ n=>n)
  (fun b o hc e=>⟨o,k b o hc e⟩) (fun _ _ e=>e) (fun _ _ _ e=>e) (fun b ps e=>⟨#[],by rw[e];simp⟩) (fun m hm=>?_) (fun b u e=>?_) I.bare
 · obtain⟨f0,f1,f2,f3,f4,f5⟩:=hf b hb
   exact⟨f3,f1,f4,f5⟩
 · obtain⟨o,es,ep,ho,r⟩:=hm
   exact⟨o,es,ep,k _ o (fun z=>(hf _ z).2.1 rfl) ho,r⟩
 · refine (I.hok b u e).stay (fun c v hc q=>k c v ?_ q) (fun _ q=>q) fun _ _ q=>q
   rcases hc with z|z
   · rw[z];exact nit b u e
   · exact nit c _ z
noncomputable def Itz (K:PySem.W.Frag)(a b:Addr):It:=
 ⟨fun i H => ∃ xs ys x y, SqL K H a xs ∧ SqL K H b ys ∧ xs[i]? = some x ∧ ys[i]? = some y,
  fun i H v H'=>∃T x y,H T=none/\v=.ref T/\H'=upd H T (.tup [x,y])/\(∀xs,SqL K H a xs->xs[i]?=some x)/\∀ys,SqL K H b ys->ys[i]?=some y,
  fun i H=>∃xs ys,SqL K H a xs/\SqL K H b ys/\(xs.length<=i\/ys.length<=i)⟩
theorem mem4 {z TI TO i1 i2 b:Addr}(h:¬b∈[z,TI,TO,i1,i2]):b≠z/\b≠TO/\b≠i1/\b≠i2:=by
 simp only[List.mem_cons,List.not_mem_nil,or_false,not_or] at h
 exact⟨h.1,h.2.2.1,h.2.2.2.1,h.2.2.2.2⟩
theorem zjP {P:Program}{w:World}{K:PySem.W.Frag}{es:List Expr}{j:Nat}{pt:Pos}{z TI TO i1 i2 a b:Addr}(D:ZipApart z TI TO i1 i2 a b):Turn P w K (.Tuple es j pt) (Itz K a b) [z,TI,TO,i1,i2] z
  (fun i h=>IsZip h z TI TO .none/\IsPair h TI (.ref i1) (.ref i2)/\(∃u v,IsPair h TO u v)/\h.IsListIter i1 a i/\h.IsListIter i2 b i) where
 mem:=by simp
 obj:=fun i h st c hc=>by
  obtain⟨h1,h2,⟨u,v,h3⟩,⟨o4,h4,_,d4⟩,⟨o5,h5,_,d5⟩⟩:=st
  simp only[List.mem_cons,List.not_mem_nil,or_false] at hc
  rcases hc with rfl|rfl|rfl|rfl|rfl
  · exact⟨_,h1,fun v z=>by cases z⟩
  · exact⟨_,h2,fun v z=>by cases z⟩
  · exact⟨_,h3,fun v z=>by cases z⟩
  · exact⟨_,h4,fun v z=>by rw[d4] at z;cases z⟩
  · exact⟨_,h5,fun v z=>by rw[d5] at z;cases z⟩
 keep:=fun i h h' st k=>by
  obtain⟨h1,h2,⟨u,v,h3⟩,h4,h5⟩:=st
  exact⟨k z (by simp) _ h1,k TI (by simp) _ h2,⟨u,v,k TO (by simp) _ h3⟩,h4.at fun o e=>k i1 (by simp) o e,h5.at fun o e=>k i2 (by simp) o e⟩
 item:=by
  intro X hP hw hK hc i pins s σ H E I hf st hg
  subst hP hw hK
  obtain⟨xs,ys,x,y,hq,hr,hx,hy⟩:=hg
  obtain⟨xv,rx,px,_⟩:=I.list hq
  obtain⟨yv,ry,py,_⟩:=I.list hr
  obtain⟨u,hu,ru⟩:=rx.get hx
  obtain⟨v,hv,rv⟩:=ry.get hy
  obtain⟨hz,hTI,⟨p,q,hTO⟩,h1,h2⟩:=st
  refine wpAny_pyNext_zip_item D hz hTI hTO h1 h2 px.isList py.isList (x:=u) (y:=v) (by simpa using hu) (by simpa using hv) fun h' a1 a2 a3 a4 a5 a6 hk=>?_
  have hn:H s.heap.objs.size=none:=I.hok.fresh (Nat.le_refl _)
  have I1:Inv X pins σ (upd H s.heap.objs.size (.tup [x,y])) {s with heap:=s.heap.push {cls:=.type "tuple",data:=.seq #[u,v]},toks:=s.toks}:=
   I.laid (t':=s.toks) (fun b u e=>Heap.get?_push_of_some _ e) (Nat.le_refl _) ⟨by rw[sizeLine_eq];simp,[u,v],.cons ru (.cons rv .nil),⟨_,Heap.get?_push_size _ rfl,rfl,_,rfl⟩⟩
  have lt:∀{c o},s.heap.get? c=some o->c≠s.heap.objs.size:=fun e=>Nat.ne_of_lt (Heap.lt_size e)
  have nf:∀c∈[z,TI,TO,i1,i2],c≠s.heap.objs.size:=by
   intro c hc
   simp only[List.mem_cons,List.not_mem_nil,or_false] at hc
   rcases hc with rfl|rfl|rfl|rfl|rfl
   · exact lt hz
   · exact lt hTI
   · exact lt hTO
   · obtain⟨o,e,_⟩:=h1;exact lt e
   · obtain⟨o,e,_⟩:=h2;exact lt e
  have hf1:∀c∈[z,TI,TO,i1,i2],FpOk X pins (upd H s.heap.objs.size (.tup [x,y])) c:=fun c hc=>by
   obtain⟨f0,f⟩:=hf c hc
   exact⟨by rw[zai (nf c hc)];exact f0,f⟩
  have k2:∀c o,¬c∈[z,TI,TO,i1,i2]->(s.heap.push {cls:=.type "tuple",data:=.seq #[u,v]}).get? c=some o->h'.get? c=some o:=fun c o hc e=>by
   obtain⟨c1,c2,c3,c4⟩:=mem4 hc
   by_cases hs:c=s.heap.objs.size
   · subst hs
     have e2:(s.heap.push {cls:=.type "tuple",data:=.seq #[u,v]}).get? s.heap.objs.size=_:=Heap.get?_push_size _ rfl
     rw[e2] at e
     cases e
     exact a5
   · exact hk c o c1 c2 c3 c4 ((Heap.get?_push_ne _ _ _ hs).symm.trans e)
  have I2:Inv X pins σ (upd H s.heap.objs.size (.tup [x,y])) {s with heap:=h'}:=zcQ (s:={s with heap:=s.heap.push {cls:=.type "tuple",data:=.seq #[u,v]},toks:=s.toks}) (h':=h') (t':=s.toks) I1 k2 hf1
  refine⟨_,rfl,?_⟩
  refine wpAny_letOwnedTupleGo_zip a1 fun h2' hz' hs'=>?_
  refine⟨.ref s.heap.objs.size,upd H s.heap.objs.size (.tup [x,y]),zcQ (t':=s.toks) I2 (fun c o hc e=>hs'.extBut _ _ (mem4 hc).1 e) hf1,rfl,⟨_,x,y,hn,rfl,rfl,fun xs' hx'=>by rw[I.list_inj hx' hq];exact hx,fun ys' hy'=>by rw[I.list_inj hy' hr];exact hy⟩,
   ⟨hz',hs'.extBut _ _ D.TIz (hk _ _ D.TIz D.TITO D.TIi1 D.TIi2 hTI),⟨_,_,hs'.extBut _ _ D.TOz a2⟩,a3.extBut hs'.extBut D.i1z,a4.extBut hs'.extBut D.i2z⟩,fun c hc=>(hf1 c hc).1⟩
 done:=by
  intro X hP hw hK hc i pins s σ H E I hf st hg
  subst hP hw hK
  obtain⟨xs,ys,hq,hr,he⟩:=hg
  obtain⟨xv,rx,px,_⟩:=I.list hq
  obtain⟨yv,ry,py,_⟩:=I.list hr
  obtain⟨hz,hTI,⟨p,q,hTO⟩,h1,h2⟩:=st
  refine wpAny_pyNext_zip_end (I.ok.hd hc) D hz hTI hTO h1 h2 px.isList py.isList ?_ fun h' hk=>⟨rfl,zcQ (t':=s.toks) I (fun c o hc e=>(fun⟨c1,c2,c3,c4⟩=>hk c o c1 c2 c3 c4 e) (mem4 hc)) hf⟩
  have l1:=rx.length
  have l2:=ry.length
  rcases he with he|he
  · left;simp;omega
  · right;simp;omega
 self:=fun _ _ _ _ _ st h=>wpAny_pyIter_zip st.1 h
noncomputable def iZip (K:PySem.W.Frag)(t:TA):TI:=fun σ H R=>t σ H fun vs H1=>∃a b xs ys,vs=[.ref a,.ref b]/\SqL K H1 a xs/\SqL K H1 b ys/\R (Itz K a b) H1
theorem zoH {a b:Expr}{ta:TA}{p pos pt:Pos}{es:List Expr}{j:Nat}(hg:Gl X "zip")(hm:X.mg "zip"=none)(ha:PA X [a,b] ta)(hs:starEach [a,b] X.env=[(false,eval a X.env),(false,eval b X.env)])(hs2:starEach [b] X.env=[(false,eval b X.env)]) :
  PI X (.Tuple es j pt) (.Call (.Name "zip" p) [a,b] [] pos) (iZip X.K ta):=by
 intro pins s σ H R I h
 refine Call_ (zdE I hg hm boot_zip (PyProof.Rows.callWith_type1 (thn (ha pos pins s σ H _ I h) fun us s1 ⟨vs,H1,I1,r1,q1⟩=>?_) (by rw[hs,hs2]) (by rw[hs2];rfl)))
 obtain⟨l,m,xs,ys,e,q1,q2,q⟩:=q1
 subst e
 cases r1 with
 | cons r rr =>
   cases rr with
   | cons r' rr =>
     cases rr
     cases r
     cases r'
     obtain⟨xv,rx,px,_⟩:=I1.list q1
     obtain⟨yv,ry,py,_⟩:=I1.list q2
     refine call_zip_2 px.isList py.isList fun h' hz hTI hTO hi1 hi2 hsz hk=>?_
     refine wpAny_pyIter_zip hz ?_
     have l1:l<s1.heap.objs.size:=by obtain⟨_,e,_⟩:=px.isList;exact Heap.lt_size e
     have l2:m<s1.heap.objs.size:=by obtain⟨_,e,_⟩:=py.isList;exact Heap.lt_size e
     refine⟨_,_,_,_,H1,rfl,I1.kept (t':=s1.toks) hk,zjP (zipApart_new l1 l2),⟨hz,hTI,⟨_,_,hTO⟩,hi1,hi2⟩,fun c hc=>?_,q⟩
     simp only[List.mem_cons,List.not_mem_nil,or_false] at hc
     have:s1.heap.objs.size<=c:=by rcases hc with rfl|rfl|rfl|rfl|rfl<;>omega
     exact I1.fpOk this (I1.hok.fresh this)
theorem znG {K:PySem.W.Frag}{ι:List Addr}{H:Hp}{S:R.St}{a b:Addr}{l m:Nat}{ds es:List D}(hl:S.get l=some (.lst ds))(hm:S.get m=some (.lst es))(ha:ι[l]?=some a)(hb:ι[m]?=some b):Wk K (Itz K a b) (List.zipWith ziT ds es) [l,m] ι H S:=by
 have get:∀{ι2 H2 S2},Ltr K ι H S [l,m] ι2 H2 S2->∃xs ys,SqL K H2 a xs/\RVs K ι2 H2 ds xs/\SqL K H2 b ys/\RVs K ι2 H2 es ys:=fun {ι2 H2 S2} lt=>by
  obtain⟨a',h2,xs,hx,rx⟩:=lt.rh.obj l (.lst ds) ((lt.lck l (by simp)).trans hl)
  rw[zbY lt.ext.pre ha] at h2;cases h2
  obtain⟨b',h3,ys,hy,ry⟩:=lt.rh.obj m (.lst es) ((lt.lck m (by simp)).trans hm)
  rw[zbY lt.ext.pre hb] at h3;cases h3
  exact⟨xs,ys,SqL.of hx,rx,SqL.of hy,ry⟩
 refine⟨fun i ι2 H2 S2 lt hi=>?_,fun i ι2 H2 S2 x H' lt hi y=>?_,fun i ι2 H2 S2 lt hi=>?_,fun k hk=>?_⟩
 · obtain⟨xs,ys,hx,rx,hy,ry⟩:=get lt
   simp only[List.length_zipWith] at hi
   have h1:=rx.length
   have h2:=ry.length
   exact⟨xs,ys,xs[i]'(by omega),ys[i]'(by omega),hx,hy,List.getElem?_eq_getElem _,List.getElem?_eq_getElem _⟩
 · obtain⟨xs,ys,hx,rx,hy,ry⟩:=get lt
   obtain⟨T,u,v,hT,rfl,rfl,y1,y2⟩:=y
   obtain⟨d,ed,rd⟩:=rx.get' (y1 xs hx)
   obtain⟨e,ee,re⟩:=ry.get' (y2 ys hy)
   have x2:Ext ι2 H2 ι2 (upd H2 T (.tup [u,v])):=Ext.new hT _
   refine⟨x2,lt.rh.new hT _,ziT d e,by rw[List.getElem?_zipWith,ed,ee],?_⟩
   exact⟨T,[u,v],rfl,zap,u,[v],rfl,rd.ext x2,v,[],rfl,re.ext x2,rfl⟩
 · obtain⟨xs,ys,hx,rx,hy,ry⟩:=get lt
   simp only[List.length_zipWith] at hi
   have h1:=rx.length
   have h2:=ry.length
   exact⟨xs,ys,hx,hy,by omega⟩
 · simp only[List.mem_cons,List.not_mem_nil,or_false] at hk
   rcases hk with rfl|rfl
   · exact zbn hl
   · exact zbn hm
theorem zh3 {S:R.St}{x y:D}{r:List D × List Nat}(h:zfT S x y=some r):∃l m ds es,x=.ref l/\y=.ref m/\S.get l=some (.lst ds)/\S.get m=some (.lst es)/\r=(List.zipWith ziT ds es,[l,m]):=by
 unfold zfT at h
 split at h
 · split at h
   · rename_i h1 h2;cases h;exact⟨_,_,_,_,rfl,rfl,h1,h2,rfl⟩
   · cases h
 · cases h
theorem zn6 {ca cb:CE}{a b:Expr}{es:List Expr}{j:Nat}{pt:Pos}(hg:Gl X "zip"/\X.mg "zip"=none)(ha:PE X a (tE X.K cf ca))(hb:PE X b (tE X.K cf cb))(hst:zan a=true)(hst2:zan b=true):PI X (.Tuple es j pt) (.Call (.Name "zip" p) [a,b] [] pos) (tI X.K cf (.zip ca cb)):=by
 refine PI.imp (zoH hg.1 hg.2 (zbZ ha (zbv hb hst2) (zam hst [b] X.env)) (by rw[zam hst,zam hst2];rfl) (zam hst2 [] X.env)) fun σ H R ⟨δ,ι,S,Q,hs,hh,w,q⟩=>?_
 simp only[evL,zaa] at w
 refine tE.run hs hh w fun d v ι1 H1 S1 x1 hs1 hh1 r1 w1=>tE.run hs1 hh1 w1 fun e u ι2 H2 S2 x2 hs2 hh2 r2 w2=>?_
 obtain⟨r,ez,w3⟩:=zaG w2
 obtain⟨l,m,ds,es,rfl,rfl,hl,hm,rfl⟩:=zh3 ez
 obtain⟨a,ea,rfl⟩:=r1.ext x2
 obtain⟨b,eb,rfl⟩:=r2
 obtain⟨a',h2,xs,hx,rx⟩:=hh2.obj l _ hl
 rw[ea] at h2;cases h2
 obtain⟨b',h3,ys,hy,ry⟩:=hh2.obj m _ hm
 rw[eb] at h3;cases h3
 exact⟨a,b,xs,ys,rfl,SqL.of hx,SqL.of hy,q _ _ ⟨_,_,ι2,S2,x1.trans x2,hh2,w3,znG hl hm ea eb⟩⟩
noncomputable def tG (K:PySem.W.Frag)(is:List Nat):TG:=fun v σ H Qv=>∃δ ι d δ',RS K ι H δ σ/\RV K ι H d v/\asgG is d δ=some δ'/\∀σ',RS K ι H δ' σ'->Qv σ' H
noncomputable def tGs (K:PySem.W.Frag)(is:List Nat):TGs:=fun vs σ H Qv=>∃δ ι ds,RS K ι H δ σ/\RVs K ι H ds vs/\ds.length=is.length/\∀σ',RS K ι H (zcO is ds δ) σ'->Qv σ' H
theorem PG.imp {t t':TG}(h:PG X tg t)(i:∀v σ H Q,t' v σ H Q->t v σ H Q):PG X tg t':=fun pins s σ H v u Q I r q=>h pins s σ H v u Q I r (i v σ H Q q)
theorem PGs.imp {es:List Expr}{t t':TGs}(h:PGs X es t)(i:∀v σ H Q,t' v σ H Q->t v σ H Q):PGs X es t':=fun pins s σ H v u Q I r q=>h pins s σ H v u Q I r (i v σ H Q q)
theorem zl8 (G:Gd T cf k N sc X){i:Nat}{x:Str}(hi:N[i]?=some x)(hl:zfs sc x=true):PG X (.Name x pos) (tG X.K [i]):=by
 refine PG.imp (zf7 (i:=i) (by rw[G.nm];exact G.nd) (by rw[G.nm];exact hi) (G.lc hl).1 (G.lc hl).2) fun v σ H Qv ⟨δ,ι,d,δ',hs,r,e,q⟩=>?_
 simp only[asgG] at e
 cases e
 exact q _ (hs.set r i)
noncomputable def zcs (sc:Scope)(N:List Str):List Nat->List Expr->Bool
 | [],[]=>true
 |i::is,.Name x _::es=>(N[i]? == some x)&&zfs sc x&&zcs sc N is es
 |_,_=>false
theorem ze3 (G:Gd T cf k N sc X):∀{is:List Nat} {es:List Expr},zcs sc N is es=true->PGs X es (tGs X.K is)/\(assignEach es X.env).length=is.length/\(assignEach es X.env).findIdx? (·.1)=none
 | [],[],_=>⟨PGs.imp zmJ fun v σ H Qv ⟨δ,ι,ds,hs,r,hl,q⟩=>by
  have:ds=[]:=by simpa using hl
  subst this
  exact⟨r,q σ (by simpa[zcO] using hs)⟩,rfl,rfl⟩
 | [],_::_,h=>by simp[zcs] at h
 |_::_,[],h=>by simp[zcs] at h
 | i :: is, e :: es, h => by
   cases e with
   | Name x pos =>
     simp only[zcs,Bool.and_eq_true,beq_iff_eq] at h
     obtain⟨h1,h2,h3⟩:=ze3 G (is:=is) (es:=es) h.2
     refine⟨PGs.imp (zkl (zf7 (i:=i) (by rw[G.nm];exact G.nd) (by rw[G.nm];exact h.1.1) (G.lc h.1.2).1 (G.lc h.1.2).2) h1) fun v σ H Qv ⟨δ,ι,ds,hs,r,hl,q⟩=>?_,?_,?_⟩
     · cases ds with
       |nil=>simp at hl
       | cons d ds =>
         obtain⟨v1,vr,rfl,r1,r2⟩:=r
         refine⟨v1,vr,rfl,?_⟩
         exact⟨δ.set i (some d),ι,ds,hs.set r1 i,r2,by simpa using hl,fun σ' hs'=>q σ' (by simpa[zcO] using hs')⟩
     · show ((false,_)::assignEach es X.env).length=_
       simp[h2]
     · show ((false,_)::assignEach es X.env).findIdx? _=_
       simp[List.findIdx?_cons,h3]
   |_=>simp[zcs] at h
theorem zk8 {is:List Nat}{d:D}{δ δ':Ev}(h2:2<=is.length)(e:asgG is d δ=some δ'):∃ds,d=.tup ds/\ds.length=is.length/\δ'=zcO is ds δ:=by
 match is,h2 with
 | a :: b :: t, _ =>
   cases d with
   | tup ds =>
     simp only[asgG] at e
     split at e
     · rename_i c;cases e;exact⟨ds,rfl,c,rfl⟩
     · cases e
   |_=>cases e
theorem zli (G:Gd T cf k N sc X){is:List Nat}{es:List Expr}{j:Nat}(h:zcs sc N is es=true)(h2:2<=is.length):PG X (.Tuple es j pos) (tG X.K is):=by
 obtain⟨h1,hn,hst⟩:=ze3 G h
 refine PG.imp (zoJ G.calm h1 hn hst) fun v σ H Qv ⟨δ,ι,d,δ',hs,r,e,q⟩=>?_
 obtain⟨ds,rfl,c,rfl⟩:=zk8 h2 e
 obtain⟨a,xs,rfl,ha,rr⟩:=r
 exact⟨a,xs,rfl,SqT.of ha,by rw[rr.length];exact c,δ,ι,ds,hs,rr,c,q⟩
theorem Ext.tmp {ι ι':List Addr}{H H':Hp}{p:Addr}{vs us:List V}(x:Ext ι H ι' H')(hn:H p=none)(e:H' p=some (.lst vs)):Ext ι H ι' (upd H' p (.lst us)):=by
 refine⟨x.pre,x.kp.trans (.same (Tups.upd_lst e) (fun b o u h=>?_) fun b ps h=>?_),fun b o hb eb=>?_⟩
 · rw[zai];exact h
   rintro rfl
   rw[e] at h;cases h
 · rw[zai];exact h
   rintro rfl
   rw[e] at h;cases h
 · obtain⟨h1,h2⟩:=x.rest b o hb eb
   refine⟨?_,h2⟩
   rw[zai];exact h1
   rintro rfl
   rw[hn] at eb;cases eb
theorem Kp.tmp {H:Hp}{p:Addr}{vs us:List V}(e:H p=some (.lst vs)):Kp H (upd H p (.lst us)):=.same (Tups.upd_lst e) (fun b o u h=>by
 rw[zai];exact h
 rintro rfl
 rw[e] at h;cases h) fun b ps h=>by
 rw[zai];exact h
 rintro rfl
 rw[e] at h;cases h
theorem RH.tmp {K:PySem.W.Frag}{ι:List Addr}{H:Hp}{S:R.St}{p:Addr}{vs us:List V}(hh:RH K ι H S)(hp:p∉ι)(e:H p=some (.lst vs)):RH K ι (upd H p (.lst us)) S:=
 ⟨hh.len,hh.nd,fun l o q=>by
  obtain⟨a,h1,h2,hm⟩:=hh.mem q
  exact⟨a,h1,h2.up (List.prefix_refl _) (Kp.tmp e) (zai fun z=>hp (z▸hm))⟩,(Kp.tmp e).tab hh.tab⟩
theorem RS.up {K:PySem.W.Frag}{ι ι':List Addr}{H H':Hp}{δ:Ev}{σ:L2.St}(h:RS K ι H δ σ)(hp:ι <+: ι')(hk:Kp H H'):RS K ι' H' δ σ:=
 ⟨h.1,fun i d e=>let ⟨v,e1,r⟩:=h.2 i d e;⟨v,e1,r.up hp hk⟩⟩
theorem RH.lk {K:PySem.W.Frag}{ι:List Addr}{H:Hp}{S:R.St}(hh:RH K ι H S)(ks:List Nat):RH K ι H {S with lk:=ks}:=⟨hh.len,hh.nd,fun l o e=>hh.obj l o e,hh.tab⟩
theorem RS.csl {K:PySem.W.Frag}{ι:List Addr}{H:Hp}{δ:Ev}{σ:L2.St}(h:RS K ι H δ σ)(nt:Nat)(js:List Nat):RS K ι H (R.csl nt js δ) (L2.csl nt js σ):=by
 refine⟨by simp[R.csl,L2.csl],fun i d e=>?_⟩
 unfold R.csl at e
 unfold L2.csl
 by_cases hi:i<nt
 · rw[List.getElem?_append_left (by simpa using hi),List.getElem?_replicate] at e
   rw[if_pos hi] at e
   cases e
 · rw[List.getElem?_append_right (by simpa using hi)] at e⊢
   simp only[List.length_replicate,List.getElem?_map] at e⊢
   cases ej:js[i - nt]? with
   |none=>rw[ej] at e;cases e
   | some j =>
     rw[ej] at e
     simp only[Option.map_some,Option.some.injEq] at e⊢
     have e2:δ[j]?=some (some d):=by
      cases z:δ[j]? with
      |none=>rw[z] at e;cases e
      |some o=>rw[z] at e;simp at e;rw[e]
     obtain⟨v,ev,r⟩:=h.2 j d e2
     exact⟨v,by rw[ev];rfl,r⟩
theorem zfA {α:Type}{xs:List α}{i:Nat}{x:α}(h:xs[i]?=some x):xs.drop i=x::xs.drop (i+1):=by
 obtain⟨h1,h2⟩:=List.getElem?_eq_some_iff.mp h
 rw[List.drop_eq_getElem_cons h1,h2]
noncomputable def CInv (K:PySem.W.Frag)(cf:CF)(g:List Nat)(c e:CE)(Q:List D × List Nat->R.St->Prop)(ds:List D)(lks:List Nat)(ι1:List Addr)(H1:Hp)(S1:R.St)(p:Addr)(i:Nat)(σ':L2.St)(H':Hp):Prop:=
 i<=ds.length/\∃δ' ι' S' acc vs,RS K ι' H' δ' σ'/\Ltr K ι1 H1 S1 lks ι' H' S'/\S'.lk=lks++S1.lk/\S1.len<=S'.len/\p∉ι'/\H' p=some (.lst vs)/\RVs K ι' H' acc vs/\
  W (zbw g (evT cf c) (evE cf e) (ds.drop i) δ' S') fun rest S2=>(acc++rest).length<=16777216/\Q (acc++rest,[]) {S2 with lk:=S1.lk}
theorem zhi {nt:Nat}{js is:List Nat}{it:CL}{c e:CE}{σ:L2.St}{H:Hp}{Qv:VK}(hcf:CFok cf)(h:tLt X.K cf (.comp nt js is it c e) σ H Qv):zlW nt js (tI X.K cf it) (tG X.K is) (tT X.K cf c) (tE X.K cf e) σ H Qv:=by
 obtain⟨δ,ι,S,Q,hs,hh,w,q⟩:=h
 simp only[evL,zaa] at w
 refine⟨δ,ι,S,_,hs,hh,w,fun J H1 ⟨ds,lks,ι1,S1,x1,hh1,w1,wk⟩=>?_⟩
 dsimp only at w1
 unfold zbK at w1
 rw[zaa] at w1
 intro p hp
 have hpi:=hh1.fresh hp
 refine⟨fun i m σ' H'=>m=ds.length - i/\CInv X.K cf is c e Q ds lks ι1 H1 S1 p i σ' H',⟨_,rfl,Nat.zero_le _,R.csl nt js δ,ι1,{S1 with lk:=lks++S1.lk},[],[],((hs.ext x1).csl _ _).up (List.prefix_refl _) (Kp.new hp _),⟨Ext.new hp _,(hh1.lk _).new hp _,fun l _=>rfl⟩,rfl,Nat.le_refl _,hpi,zap,rfl,?_⟩,?_⟩
 · refine w1.mono fun rest S2 w2=>?_
   simp only[W_ok] at w2
   split at w2
   · rename_i c;exact⟨by simpa using c,by simpa using w2⟩
   · exact w2.elim
 rintro i m σ' H' ⟨rfl,hle,δ',ι',S',acc,vs,hs',lt,hlk,hln,hpn,hpv,ra,wt⟩
 rcases Nat.lt_or_eq_of_le hle with hlt|rfl
 · refine .inr ⟨wk.go i ι' H' S' lt hlt,CInv X.K cf is c e Q ds lks ι1 H1 S1 p (i+1),fun σ2 H2 h=>⟨_,by omega,rfl,h⟩,fun x H2 hy=>?_⟩
   obtain⟨x2,hh2,d,hd,rd⟩:=wk.yld i ι' H' S' x H2 lt hlt hy
   have hs2:=hs'.ext x2
   have hp2:=x2.keep hpn hpv (by simp)
   rw[zfA hd] at wt
   simp only[zbw] at wt
   cases ea:asgG is d δ' with
   |none=>rw[ea] at wt;exact wt.elim
   | some δ2 =>
     rw[ea] at wt
     dsimp only at wt
     rw[zaa] at wt
     refine⟨δ',ι',d,δ2,hs2,rd,ea,fun σ2 hs3=>?_⟩
     refine tT.run hs3 hh2 (zeR hcf c δ2 S' _ wt) fun b ι3 H3 S3 x3 hs4 hh3 w3=>?_
     obtain⟨w3,f3⟩:=w3
     have hp3:=x3.keep hpn hp2 (by simp)
     have hpn3:=(x3.rest p _ hpn hp2).2
     have keep:∀{S4:R.St},Frm S' S4->S4.lk=lks++S1.lk/\S1.len<=S4.len/\∀l∈lks,S4.get l=S1.get l:=fun f=>⟨f.lk.trans hlk,Nat.le_trans hln f.lens,fun l hl=>
      (f.same l (by rw[hlk];exact List.mem_append_left _ hl) (Nat.lt_of_lt_of_le (wk.lks l hl) hln)).trans (lt.lck l hl)⟩
     cases b with
     | false =>
       simp only[Bool.false_eq_true,if_false] at w3⊢
       obtain⟨k1,k2,k3⟩:=keep f3
       exact⟨hlt,δ2,ι3,S3,acc,vs,hs4,⟨(lt.ext.trans x2).trans x3,hh3,k3⟩,k1,k2,hpn3,hp3,(ra.ext x2).ext x3,w3⟩
     | true =>
       simp only[if_true] at w3⊢
       rw[zaa] at w3
       refine tE.run hs4 hh3 (zau hcf e δ2 S3 _ w3) fun z v ι4 H4 S4 x4 hs5 hh4 rz w4=>?_
       obtain⟨w4,f4⟩:=w4
       obtain⟨k1,k2,k3⟩:=keep (f3.trans f4)
       have hp4:=x4.keep hpn3 hp3 (by simp)
       have hpn4:=(x4.rest p _ hpn3 hp3).2
       rw[zaa] at w4
       have ra4:=((ra.ext x2).ext x3).ext x4
       have hlen:acc.length<16777216:=by
        obtain⟨rest,S5,_,w5⟩:=zfR w4
        have:=w5.1
        simp at this
        omega
       refine⟨vs,hp4,by rw[ra4.length,sizeLine_eq];exact hlen,hlt,δ2,ι4,S4,acc++[z],vs++[v],hs5.up (List.prefix_refl _) (Kp.tmp hp4),⟨(((lt.ext.trans x2).trans x3).trans x4).tmp hp hp4,hh4.tmp hpn4 hp4,k3⟩,k1,k2,hpn4,zap,?_,?_⟩
       · exact (RVs.append (es:=[z]) (us:=[v]) ra4 ⟨v,[],rfl,rz,rfl⟩).up (List.prefix_refl _) (Kp.tmp hp4)
       · refine w4.mono fun rest S5 w5=>?_
         simp only[W_ok] at w5
         simpa using w5
 · refine .inl ⟨wk.stop _ ι' H' S' lt (Nat.le_refl _),?_⟩
   rw[List.drop_length] at wt
   simp only[zbw,W_ok,List.append_nil] at wt
   exact q _ _ ⟨acc,ι',{S' with lk:=S1.lk},p,vs,x1.trans lt.ext,rfl,ra,hpn,hpv,lt.rh.lk _,zfQ hh1 x1 hp,wt.2⟩
end
end R
end
section
namespace R
open PySem PySem.Spec PyProof.Rows L2
variable [Mks]
section
variable {T:Tab} {cf:CF} {k:Nat} {N:List Str} {sc:Scope} {X:Cx} {pos p:Pos}
theorem zk5 (D:Addr):zbB X (.builtin "isinstance") (fun xs H Q=>∃a C dx fs b,xs=[.ref a,.ref D]/\H a=some (.ins C dx fs)/\Cls X.K C/\IsaOk X.K C/\PySem.W.kitOne X.K (.ref C) (.ref D)=some b/\Q (.bl b) H):=by
 intro pins s σ H xs us Q I r h
 obtain⟨a,C,dx,fs,b,rfl,ha,hc,ok,hk,q⟩:=h
 obtain⟨u,w',rfl,rx,rc⟩:=zjN r
 cases (show w'=Value.ref D from rc)
 exact zfr I rx (.ins ha hc ok.ha ok.hn ok.ht ok.hm) hk fun tk=>⟨.bl b,H,I.tok tk,rfl,q⟩
theorem zof (G:Gd T cf k N sc X){cs:List Nat}{x:Str}{p2:Pos}{ce:CE}{e:Expr}(hg:Gl X "isinstance"/\X.mg "isinstance"=none)(hx:isGl sc x=true)(hd:(x == ("__debug__":Str))=false)(hi:T.isas.contains (x,cs)=true)
  (he:PE X e (tE X.K cf ce)) (hst:zan e=true):PE X (.Call (.Name "isinstance" p) [e,.Name x p2] [] pos) (tE X.K cf (.isc cs x ce)):=by
 obtain⟨D,hm,hD⟩:=G.tab.isa x cs hi
 refine PE.imp (zde (zk5 D) hg.1 hg.2 zcN (zbZ he (zbZ (zf8 (v:=.ref D) (G.gl hx) hm rfl hd) zfl) (zam hst _ X.env)) (by decide) (by decide) (zam hst _ X.env)) fun σ H Qv ⟨δ,ι,S,Q,hs,hh,w,q⟩=>?_
 simp only[evE,zaa] at w
 refine tE.run hs hh w fun d v ι1 H1 S1 x1 hs1 hh1 r1 w1=>?_
 obtain⟨pr,ei,w2⟩:=zaG w1
 obtain⟨c,fs⟩:=pr
 obtain⟨l,rfl,hl⟩:=zdJ ei
 obtain⟨b,i1,rfl⟩:=r1
 obtain⟨b',i2,C,dx,ws,hC,hb,rf⟩:=hh1.obj l _ hl
 rw[i1] at i2;cases i2
 obtain⟨_,_,cl,_,_⟩:=G.clsAt (.inr (.inr (ne_of hi))) hC
 obtain⟨ok,kit⟩:=hD c C hC
 exact⟨b,C,dx,ws,_,rfl,hb,cl,ok,kit,q _ _ (Lf.up x1 (Lf.of (d:=.bl _) hh1 rfl w2))⟩
theorem zok {ca:CE}{o:Expr}{apos cpos:Pos}(ho:PE X o (tE X.K cf ca))(hsup:za9 o=true)(hl:(apos.endLine == cpos.line)=true) :
  PE X (.Call (.Attribute o "clear" apos) [] [] cpos) (tE X.K cf (.clr ca)):=by
 refine PE.imp (zoT PySem.F.plainAttrs_list PySem.F.slot_list_clear PySem.F.type_list_clear zkE ho (zb6 hsup "clear" X.env _) hl) fun σ H Qv ⟨δ,ι,S,Q,hs,hh,w,q⟩=>?_
 simp only[evE,zaa] at w
 refine tE.run hs hh w fun d v ι1 H1 S1 x1 hs1 hh1 r1 w1=>?_
 split at w1
 · rename_i c
   refine⟨zg4 hh1 r1 c,?_⟩
   cases d with
   | ref l =>
     obtain⟨a,h1,rfl⟩:=r1
     dsimp only at w1
     cases e:S1.get l with
     |none=>simp[isL,e] at c
     | some o =>
       cases o with
       | lst es =>
         obtain⟨b',h2,zs,ha,rz⟩:=hh1.obj _ _ e
         rw[h1] at h2;cases h2
         obtain⟨c2,S',hp,w3⟩:=zh4 w1
         exact⟨a,zs,rfl,rfl,ha,q _ _ (Lf.up x1 (Lf.wr (d:=.non) (xs:=[]) hh1 e h1 hp rfl rfl w3))⟩
       |_=>simp[isL,e] at c
   |_=>exact w1.elim
 · exact w1.elim
end
end R
end
section
namespace R
open PySem PySem.Spec PyProof.Rows L2
variable [Mks]
noncomputable def LfS (K:PySem.W.Frag)(ι:List Addr)(H:Hp)(Q:Fl->R.St->Prop)(E:Ends):Prop:=∀f ι' H' S',Ext ι H ι' H'->RH K ι' H' S'->Q f S'->(match f with
 |.nx δ'=>∀σ',RS K ι' H' δ' σ'->E.nx σ' H'
 |.rt d=>∀v,RV K ι' H' d v->E.rt v H')
noncomputable def tS (K:PySem.W.Frag)(cf:CF)(cs:CS):TS:=fun E σ H=>∃δ ι S Q,RS K ι H δ σ/\RH K ι H S/\W (exS cf cs δ S) Q/\LfS K ι H Q E
theorem LfS.up {K:PySem.W.Frag}{ι ι1:List Addr}{H H1:Hp}{Q:Fl->R.St->Prop}{E:Ends}(h:LfS K ι H Q E)(x:Ext ι H ι1 H1):LfS K ι1 H1 Q E:=fun f ι' H' S' x' hh q=>h f ι' H' S' (x.trans x') hh q
theorem PSs.imp {X:Cx}{st:List Stmt}{t t':TS}(h:PSs X st t)(i:∀E σ H,t' E σ H->t E σ H):PSs X st t':=fun pins s σ H E I q=>h pins s σ H E I (i E σ H q)
section
variable {T:Tab} {cf:CF} {k:Nat} {N:List Str} {sc:Scope} {X:Cx} {pos p:Pos} {rest:List Stmt}
theorem zn1:PSs X [] (tS X.K cf .nil):=PSs.imp ziI fun E σ H ⟨δ,ι,S,Q,hs,hh,w,l⟩=>by
 simp only[exS,W_ok] at w
 exact l _ ι H S (Ext.refl _ _) hh w σ hs
theorem zn3 (G:Gd T cf k N sc X){i:Nat}{x:Str}{ce:CE}{e:Expr}{r:CS}(hi:N[i]?=some x)(hl:zfs sc x=true)(he:PE X e (tE X.K cf ce))(hc:zcb e=true)(hr:PSs X rest (tS X.K cf r)) :
  PSs X (.Assign [.Name x p] e pos::rest) (tS X.K cf (.asg i ce r)):=by
 refine PSs.imp (zbl (ziJ (i:=i) (by rw[G.nm];exact G.nd) (by rw[G.nm];exact hi) (G.lc hl).1 he (zfX hc _ _ _) (G.lc hl).2) hr) fun E σ H ⟨δ,ι,S,Q,hs,hh,w,l⟩=>?_
 simp only[exS,zaa] at w
 refine tE.run hs hh w fun d v ι1 H1 S1 x1 hs1 hh1 r1 w1=>?_
 exact⟨δ.set i (some d),ι1,S1,Q,hs1.set r1 i,hh1,w1,l.up x1⟩
theorem zl2 (G:Gd T cf k N sc X){i:Nat}{x:Str}{ce:CE}{e:Expr}{r:CS}(hi:N[i]?=some x)(hps:∃t,PS X (.Assign [.Name x p] e pos) (tAsg t (zeO i))/\∀σ H Qv,tE X.K cf ce σ H Qv->t σ H Qv)(hr:PSs X rest (tS X.K cf r)) :
  PSs X (.Assign [.Name x p] e pos::rest) (tS X.K cf (.asg i ce r)):=by
 obtain⟨t,hp,ht⟩:=hps
 refine PSs.imp (zbl hp hr) fun E σ H ⟨δ,ι,S,Q,hs,hh,w,l⟩=>?_
 simp only[exS,zaa] at w
 refine ht _ _ _ (tE.run hs hh w fun d v ι1 H1 S1 x1 hs1 hh1 r1 w1=>?_)
 exact⟨δ.set i (some d),ι1,S1,Q,hs1.set r1 i,hh1,w1,l.up x1⟩
theorem zlZ {ce:CE}{e:Expr}{r:CS}(he:PE X e (tE X.K cf ce))(hc:zcb e=true)(hr:PSs X rest (tS X.K cf r)):PSs X (.Expr e pos::rest) (tS X.K cf (.expr ce r)):=by
 refine PSs.imp (zbl (zmC he (zfX hc _ _ _)) hr) fun E σ H ⟨δ,ι,S,Q,hs,hh,w,l⟩=>?_
 simp only[exS,zaa] at w
 refine tE.run hs hh w fun d v ι1 H1 S1 x1 hs1 hh1 r1 w1=>?_
 exact⟨δ,ι1,S1,Q,hs1,hh1,w1,l.up x1⟩
theorem zn0 {ce:CE}{e:Expr}{r:CS}(he:PE X e (tE X.K cf ce))(hr:PSs X rest (tS X.K cf r)):PSs X (.Return (some e) pos::rest) (tS X.K cf (.ret ce r)):=by
 refine PSs.imp (zbl (zlo he) hr) fun E σ H ⟨δ,ι,S,Q,hs,hh,w,l⟩=>?_
 simp only[exS,zaa,W_ok] at w
 refine tE.run hs hh w fun d v ι1 H1 S1 x1 hs1 hh1 r1 w1=>?_
 exact l _ _ _ _ x1 hh1 w1 v r1
theorem zp1 {cc:CE}{c:Expr}{a b:List Stmt}{ca cb r:CS}(hc:PT X c (tT X.K cf cc))(ha:PSs X a (tS X.K cf ca))(hb:PSs X b (tS X.K cf cb))(hr:PSs X rest (tS X.K cf r)):PSs X (.If c a b pos::rest) (tS X.K cf (.ifS cc ca cb r)):=by
 refine PSs.imp (zbl (zoD hc ha hb) hr) fun E σ H ⟨δ,ι,S,Q,hs,hh,w,l⟩=>?_
 simp only[exS,zaa] at w
 refine tT.run hs hh w fun z ι1 H1 S1 x1 hs1 hh1 w1=>?_
 have fin:LfS X.K ι1 H1 (fun f S2=>W (match f with|.nx δ'=>exS cf r δ' S2|.rt d=>.ok (.rt d) S2) Q) {E with nx:=tS X.K cf r E}:=by
  intro f ι2 H2 S2 x2 hh2 q
  cases f with
  |nx δ'=>exact fun σ' hs'=>⟨δ',ι2,S2,Q,hs',hh2,q,(l.up x1).up x2⟩
  |rt d=>exact fun v rv=>(l.up x1) _ _ _ _ x2 hh2 q v rv
 cases z with
 |true=>exact⟨δ,ι1,S1,_,hs1,hh1,w1,fin⟩
 |false=>exact⟨δ,ι1,S1,_,hs1,hh1,w1,fin⟩
noncomputable def FInv (K:PySem.W.Frag)(cf:CF)(g:List Nat)(b:CS)(Qf:Fl->R.St->Prop)(ds:List D)(lks:List Nat)(ι1:List Addr)(H1:Hp)(S1:R.St)(i:Nat)(σ':L2.St)(H':Hp):Prop:=
 i<=ds.length/\∃δ' ι' S',RS K ι' H' δ' σ'/\Ltr K ι1 H1 S1 lks ι' H' S'/\S'.lk=lks++S1.lk/\S1.len<=S'.len/\W (zb3 g (exS cf b) (ds.drop i) δ' S') fun f S2=>Qf f {S2 with lk:=S1.lk}
theorem zn2 (G:Gd T cf k N sc X){is:List Nat}{it:CL}{cb r:CS}{tg iter:Expr}{body:List Stmt}(hi:PI X tg iter (tI X.K cf it))(hg:PG X tg (tG X.K is))(hb:PSs X body (tS X.K cf cb))(hset:zbq iter=true)(hr:PSs X rest (tS X.K cf r)) :
  PSs X (.For tg iter body [] pos::rest) (tS X.K cf (.forS is it cb r)):=by
 have hp:PassesOwn (model X.prog X.w) X.A X.env X.xe:=by rw[G.xe];exact PassesOwn.never
 refine PSs.imp (zbl (zlp hp G.calm hi hg hb (zgh hset X.env)) hr) fun E σ H ⟨δ,ι,S,Q,hs,hh,w,l⟩=>?_
 simp only[exS,zaa] at w
 refine⟨δ,ι,S,_,hs,hh,w,fun J H1 ⟨ds,lks,ι1,S1,x1,hh1,w1,wk⟩=>?_⟩
 dsimp only at w1
 unfold zbK at w1
 rw[zaa] at w1
 simp only[W_ok] at w1
 refine⟨fun i m σ' H'=>m=ds.length - i/\FInv X.K cf is cb (fun f S2=>W (match f with|.nx δ'=>exS cf r δ' S2|.rt d=>.ok (.rt d) S2) Q) ds lks ι1 H1 S1 i σ' H',⟨_,rfl,Nat.zero_le _,δ,ι1,{S1 with lk:=lks++S1.lk},hs.ext x1,⟨Ext.refl _ _,hh1.lk _,fun l _=>rfl⟩,rfl,Nat.le_refl _,w1⟩,?_⟩
 rintro i m σ' H' ⟨rfl,hle,δ',ι',S',hs',lt,hlk,hln,wt⟩
 have l1:=l.up (x1.trans lt.ext)
 rcases Nat.lt_or_eq_of_le hle with hlt|rfl
 · refine .inr ⟨wk.go i ι' H' S' lt hlt,FInv X.K cf is cb _ ds lks ι1 H1 S1 (i+1),fun σ2 H2 h=>⟨_,by omega,rfl,h⟩,fun x H2 hy=>?_⟩
   obtain⟨x2,hh2,d,hd,rd⟩:=wk.yld i ι' H' S' x H2 lt hlt hy
   rw[zfA hd] at wt
   simp only[zb3] at wt
   cases ea:asgG is d δ' with
   |none=>rw[ea] at wt;exact wt.elim
   | some δ2 =>
     rw[ea] at wt
     dsimp only at wt
     rw[zaa] at wt
     refine⟨δ',ι',d,δ2,hs'.ext x2,rd,ea,fun σ2 hs3=>⟨δ2,ι',S',_,hs3,hh2,zdN G.tab.frm cb δ2 S' _ wt,?_⟩⟩
     rintro f ι3 H3 S3 x3 hh3 ⟨w3,f3⟩
     have k1:S3.lk=lks++S1.lk:=f3.lk.trans hlk
     have k3:∀l∈lks,S3.get l=S1.get l:=fun l hl=>(f3.same l (by rw[hlk];exact List.mem_append_left _ hl) (Nat.lt_of_lt_of_le (wk.lks l hl) hln)).trans (lt.lck l hl)
     cases f with
     |nx δ3=>exact fun σ3 hs4=>⟨hlt,δ3,ι3,S3,hs4,⟨(lt.ext.trans x2).trans x3,hh3,k3⟩,k1,Nat.le_trans hln f3.lens,w3⟩
     |rt z=>exact fun v rv=>l1 _ _ _ _ (x2.trans x3) (hh3.lk _) w3 v rv
 · refine .inl ⟨wk.stop _ ι' H' S' lt (Nat.le_refl _),?_⟩
   rw[List.drop_length] at wt
   simp only[zb3,W_ok] at wt
   exact⟨δ',ι',{S' with lk:=S1.lk},Q,hs',lt.rh.lk _,wt,l1⟩
theorem zlY (G:Gd T cf k N sc X){ca ce:CE}{a e:Expr}{f:Str}{r:CS}(hf:T.flds.contains f=true)(ha:PE X a (tE X.K cf ca))(he:PE X e (tE X.K cf ce))(hc:zcb e=true)(hr:PSs X rest (tS X.K cf r)) :
  PSs X (.Assign [.Attribute a f p] e pos::rest) (tS X.K cf (.setF ca f ce r)):=by
 refine PSs.imp (zbl (zoE ha he (zfX hc _ _ _)) hr) fun E σ H ⟨δ,ι,S,Q,hs,hh,w,l⟩=>?_
 simp only[exS,zaa] at w
 refine tE.run hs hh w fun d v ι1 H1 S1 x1 hs1 hh1 r1 w1=>?_
 refine tE.run hs1 hh1 w1 fun x vx ι2 H2 S2 x2 hs2 hh2 r2 w2=>?_
 cases ed:zc3 S2 x f d with
 |none=>rw[ed] at w2;exact w2.elim
 | some S3 =>
   rw[ed] at w2
   unfold zc3 at ed
   cases x with
   | ref i =>
     obtain⟨b,h1,rfl⟩:=r2
     dsimp only at ed
     cases eo:S2.get i with
     |none=>rw[eo] at ed;cases ed
     | some ob =>
       rw[eo] at ed
       cases ob with
       | ins c fs =>
         obtain⟨b',h2,C,dx,ws,hC,hb,rf⟩:=hh2.obj _ _ eo
         rw[h1] at h2;cases h2
         dsimp only at ed
         split at ed
         · rename_i c2
           obtain⟨_,_,cl,_,na⟩:=G.clsAt (.inl (ne_of hf)) hC
           have rv:=r1.ext x2
           have xw:=Ext.wr hh2 eo h1 (.ins C dx (putF f v ws))
           refine⟨b,C,dx,ws,rfl,hb,cl,na f hf,by rw[rf.length];exact c2,δ,ι2,S3,Q,hs2.ext xw,hh2.wr eo h1 ed ⟨C,dx,_,hC,zap,(rf.put f rv).up xw.pre xw.kp⟩,w2,l.up ((x1.trans x2).trans xw)⟩
         · cases ed
       |_=>cases ed
   |_=>cases ed
theorem zl1 (G:Gd T cf k N sc X){is:List Nat}{ce:CE}{e:Expr}{es:List Expr}{j:Nat}{r:CS}(hn:zcs sc N is es=true)(h2:2<=is.length)(he:PE X e (tE X.K cf ce))(hx:∃x q,e=.Name x q)(hr:PSs X rest (tS X.K cf r)) :
  PSs X (.Assign [.Tuple es j p] e pos::rest) (tS X.K cf (.asgT is ce r)):=by
 obtain⟨x,q,rfl⟩:=hx
 refine PSs.imp (zbl (zoF he (zli G hn h2)) hr) fun E σ H ⟨δ,ι,S,Q,hs,hh,w,l⟩=>?_
 simp only[exS,zaa] at w
 refine tE.run hs hh w fun d v ι1 H1 S1 x1 hs1 hh1 r1 w1=>?_
 obtain⟨δ2,ea,w2⟩:=zaG w1
 exact⟨δ,ι1,d,δ2,hs1,r1,ea,fun σ' hs'=>⟨δ2,ι1,S1,Q,hs',hh1,w2,l.up x1⟩⟩
end
end R
end
section
namespace R
open PySem PySem.Spec PyProof.Rows L2
variable [Mks]
noncomputable def zm6:CL->Bool|.comp ..=>true|.callL ..=>true|_=>false
noncomputable def isR1:CL->Bool|.rng1 _=>true|_=>false
noncomputable def zja:CL->Bool|.rng1 _=>true|.rng2 _ _=>true|.zip _ _=>true|_=>false
noncomputable def zi6:CL->Bool|.zip _ _=>true|_=>false
noncomputable def zi7:Expr->Bool|.Tuple _ _ _=>true|_=>false
noncomputable def zco:Expr->List Str
 |.Name x _=>[x]
 |.Tuple es _ _=>es.filterMap fun|.Name x _=>some x|_=>none
 |_=>[]
noncomputable def znr (sc scope:Scope)(N:List Str)(js:List Nat):Bool:=
 decide (scope.kind=.function)&&scope.names.all (fun y=>decide (y.2≠.cell))&&scope.names.all (fun y=>decide (y.2≠.local) || decide (scope.names.lookup y.1=some .local))
  && scope.names.all (fun y=>decide (y.2≠.free) || decide (sc.names.lookup y.1=some .cell) || decide (sc.names.lookup y.1=some .free))&&js.all (fun j=>decide (scope.names.lookup (N.getD j "")=some .free)&&decide (j<N.length))
noncomputable def nmB (x:Str):Bool:=!(x == ("__debug__":Str))&&!(x == ("__classdict__":Str))&&!(x == ("__name__":Str))
noncomputable def tyB (t:String)(y:Str):Bool:=(t == "bool"&&y == ("bool":Str)) || (t == "int"&&y == ("int":Str)) || (t == "str"&&y == ("str":Str)) || (t == "list"&&y == ("list":Str)) || (t == "tuple"&&y == ("tuple":Str)) || (t == "dict"&&y == ("dict":Str))
noncomputable def biB:Bi->Str->Nat->Bool
 |.len,x,n=>x == ("len":Str)&&n == 1
 |.abs,x,n=>x == ("abs":Str)&&n == 1
 |.max2,x,n=>x == ("max":Str)&&n == 2
 |.min2,x,n=>x == ("min":Str)&&n == 2
 |.isin _,_,_=>false
noncomputable def zbH:Expr->Option Str|.Name x _=>some x|_=>none
noncomputable def zdt:Expr->Option Const|.Constant c _ _=>some c|_=>none
noncomputable def ziA:Expr->Option (Expr × Operator × Expr)|.BinOp l o r _=>some (l,o,r)|_=>none
noncomputable def rdUn:Expr->Option (UnaryOp × Expr)|.UnaryOp o x _=>some (o,x)|_=>none
noncomputable def zfh:Expr->Option (Expr × List CmpOp × List Expr)|.Compare l os rs _=>some (l,os,rs)|_=>none
noncomputable def zc4:Expr->Option (BoolOp × List Expr × Pos)|.BoolOp o vs p=>some (o,vs,p)|_=>none
noncomputable def rdIf:Expr->Option (Expr × Expr × Expr)|.IfExp t x y _=>some (t,x,y)|_=>none
noncomputable def zf4:Expr->Option (List Expr)|.Tuple xs _ _=>some xs|_=>none
noncomputable def zfg:Expr->Option (List Expr)|.List xs _=>some xs|_=>none
noncomputable def zcU:Expr->Bool|.Dict ks vs _=>ks.isEmpty&&vs.isEmpty|_=>false
noncomputable def zhA:Expr->Option (Expr × Expr)|.Subscript x i _=>some (x,i)|_=>none
noncomputable def rdSl:Expr->Option (Option Expr × Option Expr)|.Slice l u st _=>(match st with|none=>some (l,u)|some _=>none)|_=>none
noncomputable def zcq:Expr->Option (Expr × List Expr × List Keyword × Pos)|.Call f as ks p=>some (f,as,ks,p)|_=>none
noncomputable def zcr:Expr->Option (Expr × Str × Pos)|.Attribute o x p=>some (o,x,p)|_=>none
noncomputable def rdLC:Expr->Option (Expr × List Comprehension × Scope × Pos)|.ListComp e gs sc p=>some (e,gs,sc,p)|_=>none
section
variable {e l r x y i f:Expr} {xs rs as:List Expr} {ks:List Keyword} {p:Pos}
theorem za7 {n:Str}(h:zbH e=some n):∃p,e=.Name n p:=by cases e<;>first|(cases h;exact⟨_,rfl⟩)|cases h
theorem zf5 {c:Const}(h:zdt e=some c):∃j p,e=.Constant c j p:=by cases e<;>first|(cases h;exact⟨_,_,rfl⟩)|cases h
theorem ziz {o:Operator}(h:ziA e=some (l,o,r)):∃p,e=.BinOp l o r p:=by cases e<;>first|(cases h;exact⟨_,rfl⟩)|cases h
theorem zez {o:UnaryOp}(h:rdUn e=some (o,x)):∃p,e=.UnaryOp o x p:=by cases e<;>first|(cases h;exact⟨_,rfl⟩)|cases h
theorem zcD {os:List CmpOp}(h:zfh e=some (l,os,rs)):∃p,e=.Compare l os rs p:=by cases e<;>first|(cases h;exact⟨_,rfl⟩)|cases h
theorem zch {o:BoolOp}(h:zc4 e=some (o,xs,p)):e=.BoolOp o xs p:=by cases e<;>first|(cases h;rfl)|cases h
theorem zkc (h:rdIf e=some (l,x,y)):∃p,e=.IfExp l x y p:=by cases e<;>first|(cases h;exact⟨_,rfl⟩)|cases h
theorem zdr (h:zf4 e=some xs):∃j p,e=.Tuple xs j p:=by cases e<;>first|(cases h;exact⟨_,_,rfl⟩)|cases h
theorem zhB (h:zfg e=some xs):∃p,e=.List xs p:=by cases e<;>first|(cases h;exact⟨_,rfl⟩)|cases h
theorem zds (h:zcU e=true):∃p,e=.Dict [] [] p:=by
 cases e with
 | Dict ks vs p =>
   cases ks with
   |cons _ _=>cases h
   | nil =>
     cases vs with
     |cons _ _=>cases h
     |nil=>exact⟨_,rfl⟩
 |_=>cases h
theorem zff (h:zhA e=some (x,i)):∃p,e=.Subscript x i p:=by cases e<;>first|(cases h;exact⟨_,rfl⟩)|cases h
theorem zkb {a b:Option Expr}(h:rdSl e=some (a,b)):∃p,e=.Slice a b none p:=by
 cases e with
 | Slice l u st p =>
   cases st with
   |none=>cases h;exact⟨_,rfl⟩
   |some _=>cases h
 |_=>cases h
theorem zcV (h:zcq e=some (f,as,ks,p)):e=.Call f as ks p:=by cases e<;>first|(cases h;rfl)|cases h
theorem zci {n:Str}(h:zcr e=some (x,n,p)):e=.Attribute x n p:=by cases e<;>first|(cases h;rfl)|cases h
theorem zgM {gs:List Comprehension}{sc:Scope}(h:rdLC e=some (x,gs,sc,p)):e=.ListComp x gs sc p:=by cases e<;>first|(cases h;rfl)|cases h
end
theorem zaf {α:Type}{o:Option α}{f:α->Bool}(h:o.any f=true):∃x,o=some x/\f x=true:=by
 cases o with
 |none=>cases h
 |some x=>exact⟨x,rfl,h⟩
noncomputable def one {α:Type}:List α->Option α | [x]=>some x|_=>none
theorem zbN {α:Type}{xs:List α}{x:α}(h:one xs=some x):xs=[x]:=by
 match xs,h with
 | [y],h=>cases h;rfl
noncomputable def two {α:Type}:List α->Option (α × α) | [x,y]=>some (x,y)|_=>none
theorem two_inv {α:Type}{xs:List α}{x y:α}(h:two xs=some (x,y)):xs=[x,y]:=by
 match xs,h with
 | [a,b],h=>cases h;rfl
noncomputable def zbk (e:Expr):Option (Str × List Expr):=(zcq e).bind fun q=>if q.2.2.1.isEmpty then (zbH q.1).map fun x=>(x,q.2.1) else none
theorem za1 {e:Expr}{x:Str}{as:List Expr}(h:zbk e=some (x,as)):∃p2 p,e=.Call (.Name x p2) as [] p:=by
 unfold zbk at h
 cases q:zcq e with
 |none=>rw[q] at h;cases h
 | some z =>
   obtain⟨f,bs,ks,p⟩:=z
   rw[q] at h
   dsimp only[Option.bind_some] at h
   split at h
   · rename_i c
     cases q2:zbH f with
     |none=>rw[q2] at h;cases h
     | some y =>
       rw[q2] at h
       obtain⟨p2,rfl⟩:=za7 q2
       cases ks with
       |cons _ _=>cases c
       |nil=>cases h;exact⟨p2,p,zcV q⟩
   · cases h
noncomputable def zbu (e:Expr):Option (Str × Expr):=(zbk e).bind fun q=>(one q.2).map fun a=>(q.1,a)
theorem zbd {e a:Expr}{x:Str}(h:zbu e=some (x,a)):∃p2 p,e=.Call (.Name x p2) [a] [] p:=by
 unfold zbu at h
 cases q:zbk e with
 |none=>rw[q] at h;cases h
 | some z =>
   obtain⟨y,bs⟩:=z
   rw[q] at h
   dsimp only[Option.bind_some] at h
   cases q2:one bs with
   |none=>rw[q2] at h;cases h
   | some b =>
     rw[q2] at h
     cases h
     rw[zbN q2] at q
     exact za1 q
noncomputable def zcC (e:Expr):Option (Expr × Str × Pos × Expr × Pos):=(zcq e).bind fun q=>if q.2.2.1.isEmpty then (zcr q.1).bind fun a=>(one q.2.1).map fun y=>(a.1,a.2.1,a.2.2,y,q.2.2.2) else none
theorem zcg {e o a:Expr}{x:Str}{ap cp:Pos}(h:zcC e=some (o,x,ap,a,cp)):e=.Call (.Attribute o x ap) [a] [] cp:=by
 unfold zcC at h
 cases q:zcq e with
 |none=>rw[q] at h;cases h
 | some z =>
   obtain⟨f,bs,ks,p⟩:=z
   rw[q] at h
   dsimp only[Option.bind_some] at h
   split at h
   · rename_i c
     cases q2:zcr f with
     |none=>rw[q2] at h;cases h
     | some y =>
       obtain⟨o',x',ap'⟩:=y
       rw[q2] at h
       dsimp only[Option.bind_some] at h
       cases q3:one bs with
       |none=>rw[q3] at h;cases h
       | some b =>
         rw[q3] at h
         cases h
         cases ks with
         |cons _ _=>cases c
         |nil=>rw[zcV q,zci q2,zbN q3]
   · cases h
noncomputable def zbM (e:Expr):Option (Expr × Str × Pos × List Expr × Pos):=(zcq e).bind fun q=>if q.2.2.1.isEmpty then (zcr q.1).map fun a=>(a.1,a.2.1,a.2.2,q.2.1,q.2.2.2) else none
theorem zbC {e o:Expr}{as:List Expr}{x:Str}{ap cp:Pos}(h:zbM e=some (o,x,ap,as,cp)):e=.Call (.Attribute o x ap) as [] cp:=by
 unfold zbM at h
 cases q:zcq e with
 |none=>rw[q] at h;cases h
 | some z =>
   obtain⟨f,bs,ks,p⟩:=z
   rw[q] at h
   dsimp only[Option.bind_some] at h
   split at h
   · rename_i c
     cases q2:zcr f with
     |none=>rw[q2] at h;cases h
     | some y =>
       obtain⟨o',x',ap'⟩:=y
       rw[q2] at h
       cases h
       cases ks with
       |cons _ _=>cases c
       |nil=>rw[zcV q,zci q2]
   · cases h
noncomputable def fnB (T:Tab)(f j:Nat)(x:Str):Bool:=match T.fns[f]? with|some (y,_,nd)=>(y == x)&&decide (j<=nd)|none=>false
noncomputable def conG (T:Tab)(d:D)(x:Str):Bool:=match T.cons.lookup x with|some d'=>eqC d' d|none=>false
noncomputable def zjb:CE->Bool|.con _=>true|_=>false
noncomputable def zm8:CL->Bool|.comp ..=>true|_=>false
noncomputable def zi8:CE->Bool|.tst (.con (.bl true))=>true|_=>false
noncomputable def zmT:CEs->Bool|.cons _ .nil=>true|_=>false
noncomputable def zmV:CEs->Bool|.nil=>true|_=>false
noncomputable def mtN:Mt->Str->Bool
 |.append,x=>x == ("append":Str)
 |.popAt,x=>x == ("pop":Str)
 |.count,x=>x == ("count":Str)
noncomputable def zqo:Bi->Option String|.isin t=>some t|_=>none
noncomputable def tgB (sc:Scope)(N:List Str)(g:List Nat)(tg:Expr):Bool:=match zbH tg with
 |some x=>(match one g with|some i=>(N[i]? == some x)&&zfs sc x|none=>false)
 |none=>(zf4 tg).any fun es=>decide (2<=g.length)&&zcs sc N g es
mutual
noncomputable def chkE (T:Tab):CE->List Str->Scope->Expr->Bool
 |.loc i,N,sc,e=>(zbH e).any fun x=>(N[i]? == some x)&&zkN sc x&&nmB x
 |.con d,_,sc,e=>(zdt e).any (fun c=>conB d c) || (zbH e).any fun x=>isGl sc x&&conG T d x&&nmB x
 |.tst _,_,_,_=>false
 |.bin op a b,N,sc,e=>(ziA e).any fun q=>decide (q.2.1=op)&&chkE T a N sc q.1&&chkE T b N sc q.2.2
 |.neg a,N,sc,e=>(rdUn e).any fun q=>decide (q.1=.USub)&&chkE T a N sc q.2
 |.nt a,N,sc,e=>(rdUn e).any fun q=>decide (q.1=.Not)&&chkE T a N sc q.2
 |.cmp op a b,N,sc,e=>(zfh e).any fun q=>decide (q.2.1=[op])&&(one q.2.2).any fun r=>zbq r&&chkE T a N sc q.1&&chkE T b N sc r
 |.cmp2 op op' a b c,N,sc,e=>(zfh e).any fun q=>decide (q.2.1=[op,op'])&&(two q.2.2).any fun r=>zbq r.1&&zbq r.2&&chkE T a N sc q.1&&chkE T b N sc r.1&&chkE T c N sc r.2
 |.and a b,N,sc,e=>(zc4 e).any fun q=>decide (q.1=.And)&&(match q.2.1 with
  |x::y::rest=>chkE T a N sc x&&(if rest.isEmpty then chkE T b N sc y else chkE T b N sc (.BoolOp .And (y::rest) q.2.2))
  |_=>false)
 |.or a b,N,sc,e=>(zc4 e).any fun q=>decide (q.1=.Or)&&(match q.2.1 with
  |x::y::rest=>chkE T a N sc x&&(if rest.isEmpty then chkE T b N sc y else chkE T b N sc (.BoolOp .Or (y::rest) q.2.2))
  |_=>false)
 |.ite c a b,N,sc,e=>(rdIf e).any fun q=>chkT T c N sc q.1&&chkE T a N sc q.2.1&&chkE T b N sc q.2.2
 |.tup es,N,sc,e=>(zf4 e).any fun xs=>zb2 T es N sc xs
 |.lst es,N,sc,e=>(zfg e).any fun xs=>zb2 T es N sc xs
 |.dnew,_,_,e=>zcU e
 |.dnewT,_,_,e=>zcU e
 |.dget1 a b,N,sc,e=>(zcC e).any fun q=>(q.2.1 == ("get":Str))&&zan q.2.2.2.1&&za9 q.1&&(q.2.2.1.endLine == q.2.2.2.2.line)&&chkE T a N sc q.1&&chkE T b N sc q.2.2.2.1
 |.dget2 a b c,N,sc,e=>(zbM e).any fun q=>(two q.2.2.2.1).any fun z=>(q.2.1 == ("get":Str))&&zan z.1&&zan z.2&&za9 q.1&&(q.2.2.1.endLine == q.2.2.2.2.line)&&chkE T a N sc q.1&&chkE T b N sc z.1&&chkE T c N sc z.2
 |.dsetd a b c,N,sc,e=>(zbM e).any fun q=>(two q.2.2.2.1).any fun z=>(q.2.1 == ("setdefault":Str))&&zan z.1&&zan z.2&&za9 q.1&&(q.2.2.1.endLine == q.2.2.2.2.line)&&chkE T a N sc q.1&&chkE T b N sc z.1&&chkE T c N sc z.2
 |.dkeys a,N,sc,e=>(zbu e).any fun q=>(q.1 == ("list":Str))&&bltB T sc q.1&&zan q.2&&chkE T a N sc q.2
 |.extv a b,N,sc,e=>(zcC e).any fun q=>(q.2.1 == ("extend":Str))&&zan q.2.2.2.1&&za9 q.1&&(q.2.2.1.endLine == q.2.2.2.2.line)&&chkE T a N sc q.1&&chkE T b N sc q.2.2.2.1
 |.intb a,N,sc,e=>(zbu e).any fun q=>(q.1 == ("int":Str))&&bltB T sc q.1&&zan q.2&&chkE T a N sc q.2
 |.ix a b,N,sc,e=>(zhA e).any fun q=>zeE q.2&&chkE T a N sc q.1&&chkE T b N sc q.2
 |.fld a f,N,sc,e=>(zcr e).any fun q=>decide (q.2.1=f)&&za9 q.1&&T.flds.contains f&&chkE T a N sc q.1
 |.mk c f x es,N,sc,e=>(zbk e).any fun q=>decide (q.1=x)&&isGl sc x&&nmB x&&decide (T.cls[c]?=some x)&&T.inits.contains (c,f)&&(!q.2.isEmpty || zmV es)&&zb2 T es N sc q.2
 |.meth m tb o es,N,sc,e=>(zbM e).any fun q=>decide (q.2.1=m)&&mtB T m tb&&za9 q.1&&(q.2.2.1.endLine == q.2.2.2.2.line)&&decide (q.2.2.2.1.length<29)&&(!q.2.2.2.1.isEmpty || zmV es)&&chkE T o N sc q.1&&zb2 T es N sc q.2.2.2.1
 |.isc cs x a,N,sc,e=>(zbk e).any fun q=>(two q.2).any fun z=>(zbH z.2).any fun y=>(q.1 == ("isinstance":Str))&&bltB T sc q.1&&decide (y=x)&&isGl sc x&&nmB x&&T.isas.contains (x,cs)&&zan z.1&&chkE T a N sc z.1
 |.callC f x m es,N,sc,e=>(zbM e).any fun q=>(zbH q.1).any fun y=>decide (y=x)&&decide (q.2.1=m)&&isGl sc x&&nmB x&&T.cms.contains (x,m,f)&&(q.2.2.1.endLine == q.2.2.2.2.line)&&decide (q.2.2.2.1.length<29)&&!q.2.2.2.1.isEmpty&&zb2 T es N sc q.2.2.2.1
 |.clr a,N,sc,e=>(zbM e).any fun q=>(q.2.1 == ("clear":Str))&&za9 q.1&&(q.2.2.1.endLine == q.2.2.2.2.line)&&q.2.2.2.1.isEmpty&&chkE T a N sc q.1
 |.sl a ml mh lo hi,N,sc,e=>(zhA e).any fun q=>(rdSl q.2).any fun s=>chkE T a N sc q.1
  && (match s.1 with|none=>!ml&&zjb lo|some e=>ml&&chkE T lo N sc e)
  && (match s.2 with|none=>!mh&&zjb hi|some e=>mh&&chkE T hi N sc e)
 |.call f j es,N,sc,e=>(zbk e).any fun q=>isGl sc q.1&&nmB q.1&&fnB T f j q.1&&(!q.2.isEmpty || zmV es)&&zb2 T es N sc q.2
 |.bi b es,N,sc,e=>(zbk e).any fun q=>bltB T sc q.1&&nmB q.1&&(match zqo b with
  |some t=>(two q.2).any fun z=>(zbH z.2).any fun y=>(q.1 == ("isinstance":Str))&&tyB t y&&bltB T sc y&&nmB y&&zmT es&&zb2 T es N sc [z.1]
  |none=>biB b q.1 q.2.length&&!q.2.isEmpty&&zb2 T es N sc q.2)
 |.mt m o es,N,sc,e=>(zcC e).any fun q=>mtN m q.2.1&&za9 q.1&&(q.2.2.1.endLine == q.2.2.2.2.line)&&zmT es&&chkE T o N sc q.1&&zb2 T es N sc [q.2.2.2.1]
 |.mkL l,N,sc,e=>if zm8 l then (if (rdLC e).isSome then chkL T l N sc e else (zbu e).any fun q=>(q.1 == ("list":Str))&&bltB T sc q.1&&zan q.2&&chkL T l N sc q.2)
  else (zbu e).any fun q=>(q.1 == ("list":Str))&&bltB T sc q.1&&zan q.2&&(!(zja l) || isR1 l)&&chkL T l N sc q.2
 |.mkT l,N,sc,e=>(zbu e).any fun q=>(q.1 == ("tuple":Str))&&bltB T sc q.1&&zan q.2&&!(zja l)&&chkL T l N sc q.2
 |.all l,N,sc,e=>(zbu e).any fun q=>(q.1 == ("all":Str))&&bltB T sc q.1&&zan q.2&&!(zja l)&&chkL T l N sc q.2
 |.ext a l,N,sc,e=>(zcC e).any fun q=>(q.2.1 == ("extend":Str))&&zan q.2.2.2.1&&za9 q.1&&(q.2.2.1.endLine == q.2.2.2.2.line)&&zm6 l&&chkE T a N sc q.1&&chkL T l N sc q.2.2.2.1
noncomputable def zb2 (T:Tab):CEs->List Str->Scope->List Expr->Bool
 |.nil,_,_,es=>es.isEmpty
 |.cons a r,N,sc,es=>(match es with | []=>false|e::es=>zan e&&chkE T a N sc e&&zb2 T r N sc es)
noncomputable def chkT (T:Tab):CE->List Str->Scope->Expr->Bool
 |.cmp op a b,N,sc,e=>(zfh e).any fun q=>decide (q.2.1=[op])&&(one q.2.2).any fun r=>zbq r&&chkE T a N sc q.1&&chkE T b N sc r
 |.cmp2 op op' a b c,N,sc,e=>(zfh e).any fun q=>decide (q.2.1=[op,op'])&&(two q.2.2).any fun r=>zbq r.1&&zbq r.2&&chkE T a N sc q.1&&chkE T b N sc r.1&&chkE T c N sc r.2
 |.nt a,N,sc,e=>(rdUn e).any fun q=>decide (q.1=.Not)&&chkT T a N sc q.2
 |.and a b,N,sc,e=>(zc4 e).any fun q=>decide (q.1=.And)&&(match q.2.1 with
  |x::y::rest=>chkT T a N sc x&&(if rest.isEmpty then chkT T b N sc y else chkT T b N sc (.BoolOp .And (y::rest) q.2.2))
  |_=>false)
 |.or a b,N,sc,e=>(zc4 e).any fun q=>decide (q.1=.Or)&&(match q.2.1 with
  |x::y::rest=>chkT T a N sc x&&(if rest.isEmpty then chkT T b N sc y else chkT T b N sc (.BoolOp .Or (y::rest) q.2.2))
  |_=>false)
 |.tst a,N,sc,e=>zgP e&&chkE T a N sc e
 |_,_,_,_=>false
noncomputable def chkL (T:Tab):CL->List Str->Scope->Expr->Bool
 |.val a,N,sc,e=>zbq e&&chkE T a N sc e
 |.callL f j es,N,sc,e=>(zbk e).any fun q=>isGl sc q.1&&nmB q.1&&fnB T f j q.1&&!q.2.isEmpty&&zb2 T es N sc q.2
 |.rng1 a,N,sc,e=>(zbu e).any fun q=>(q.1 == ("range":Str))&&bltB T sc q.1&&zan q.2&&chkE T a N sc q.2
 |.rng2 a b,N,sc,e=>(zbk e).any fun q=>(two q.2).any fun z=>(q.1 == ("range":Str))&&bltB T sc q.1&&zan z.1&&zan z.2&&chkE T a N sc z.1&&chkE T b N sc z.2
 |.zip a b,N,sc,e=>(zbk e).any fun q=>(two q.2).any fun z=>(q.1 == ("zip":Str))&&bltB T sc q.1&&zan z.1&&zan z.2&&chkE T a N sc z.1&&chkE T b N sc z.2
 |.comp nt js g it c e,N,sc,ex=>(rdLC ex).any fun q=>(one q.2.1).any fun z=>decide (z.is_async=0)&&znr sc q.2.2.1 N js&&(zbq z.iter&&(zi7 z.target || !(zi6 it)))&&chkL T it N sc z.iter&&decide ((zco z.target).length=nt)&&decide ((capN N (zco z.target) js).Nodup)
  && tgB q.2.2.1 (capN N (zco z.target) js) g z.target
  && (if z.ifs.isEmpty then zi8 c else (one z.ifs).any fun t=>chkT T c (capN N (zco z.target) js) q.2.2.1 t)
  && chkE T e (capN N (zco z.target) js) q.2.2.1 q.1
end
noncomputable def ziB:Stmt->Option (Expr × Expr × Pos)|.Assign tgs v p=>(one tgs).map fun t=>(t,v,p)|_=>none
noncomputable def zow:Stmt->Option (Expr × List Stmt × List Stmt)|.If e a b _=>some (e,a,b)|_=>none
noncomputable def zmt:Stmt->Option (Expr × Expr × List Stmt)|.For tg it b els _=>if els.isEmpty then some (tg,it,b) else none|_=>none
noncomputable def zms:Stmt->Option Expr|.Return v _=>v|_=>none
noncomputable def zox:Stmt->Option Expr|.Expr v _=>some v|_=>none
section
variable {s:Stmt} {e v tg it:Expr} {a b:List Stmt} {p:Pos}
theorem zdu (h:ziB s=some (tg,v,p)):s=.Assign [tg] v p:=by
 cases s with
 | Assign tgs v p =>
   simp only[ziB] at h
   cases q:one tgs with
   |none=>rw[q] at h;cases h
   |some t=>rw[q] at h;cases h;rw[zbN q]
 |_=>cases h
theorem ziw (h:zow s=some (e,a,b)):∃p,s=.If e a b p:=by cases s<;>first|(cases h;exact⟨_,rfl⟩)|cases h
theorem zix (h:zmt s=some (tg,it,b)):∃p,s=.For tg it b [] p:=by
 cases s with
 | For tg it b els p =>
   simp only[zmt] at h
   cases els with
   |nil=>cases h;exact⟨_,rfl⟩
   |cons _ _=>cases h
 |_=>cases h
theorem ziv (h:zms s=some e):∃p,s=.Return (some e) p:=by
 cases s with
 |Return v p=>simp only[zms] at h;subst h;exact⟨_,rfl⟩
 |_=>cases h
theorem ziy (h:zox s=some e):∃p,s=.Expr e p:=by cases s<;>first|(cases h;exact⟨_,rfl⟩)|cases h
end
noncomputable def chkS (T:Tab):CS->List Str->Scope->List Stmt->Bool
 |.nil,_,_,st=>st.isEmpty
 |.asg i e r,N,sc,st=>(match st with | []=>false|s::rest=>(ziB s).any fun q=>(zbH q.1).any fun x=>(N[i]? == some x)&&zfs sc x&&chkE T e N sc q.2.1&&chkS T r N sc rest)
 |.asgT g e r,N,sc,st=>(match st with | []=>false|s::rest=>(ziB s).any fun q=>(zf4 q.1).any fun es=>(zbH q.2.1).isSome&&decide (2<=g.length)&&zcs sc N g es&&chkE T e N sc q.2.1&&chkS T r N sc rest)
 |.setF a f e r,N,sc,st=>(match st with | []=>false|s::rest=>(ziB s).any fun q=>(zcr q.1).any fun z=>decide (z.2.1=f)&&T.flds.contains f&&zcb q.2.1&&chkE T a N sc z.1&&chkE T e N sc q.2.1&&chkS T r N sc rest)
 |.ifS c t u r,N,sc,st=>(match st with | []=>false|s::rest=>(zow s).any fun q=>chkT T c N sc q.1&&chkS T t N sc q.2.1&&chkS T u N sc q.2.2&&chkS T r N sc rest)
 |.forS g l b r,N,sc,st=>(match st with | []=>false|s::rest=>(zmt s).any fun q=>zbq q.2.1&&chkL T l N sc q.2.1&&chkS T b N sc q.2.2&&chkS T r N sc rest&&(tgB sc N g q.1&&(zi7 q.1 || !(zi6 l))))
 |.ret e r,N,sc,st=>(match st with | []=>false|s::rest=>(zms s).any fun v=>chkE T e N sc v&&chkS T r N sc rest)
 |.expr e r,N,sc,st=>(match st with | []=>false|s::rest=>(zox s).any fun v=>zcb v&&chkE T e N sc v&&chkS T r N sc rest)
end R
end
section
set_option maxHeartbeats 8000000
namespace R
open PySem PySem.Spec PyProof.Rows L2
variable [Mks]
section
variable {T:Tab} {cf:CF} {k:Nat} {N:List Str} {sc:Scope} {X:Cx}
theorem zcd (env:Env)(x:Str):∀{names:List (Str × NameKind)} {k0:NameKind},names.lookup x=some k0->k0≠.free->(names.map (zcp env)).lookup x=some k0
 | [],_,h,_=>by simp at h
 | y :: r, k0, h, hk => by
   rw[List.map_cons]
   have f1:=zdq env y
   have f2:=zdp env y
   obtain⟨n,k1⟩:=y
   generalize hz:zcp env (n,k1)=z at *
   obtain⟨zn,zk⟩:=z
   simp only at f1 f2
   subst f1
   rw[List.lookup_cons] at h⊢
   cases hx:x == zn with
   | true =>
     rw[hx] at h
     have e:k1=k0:=Option.some.inj h
     subst e
     rcases f2 with f2|⟨q,_⟩
     · show some zk=_;rw[f2]
     · exact absurd q hk
   | false =>
     rw[hx] at h
     exact zcd env x h hk
theorem zhj (G:Gd T cf k N sc X){scope:Scope}{js:List Nat}(h:znr sc scope N js=true):CompOk X.env.scope scope X.N js:=by
 unfold znr at h
 simp only[Bool.and_eq_true,List.all_eq_true,decide_eq_true_eq,Bool.or_eq_true] at h
 obtain⟨⟨⟨⟨h1,h2⟩,h3⟩,h4⟩,h5⟩:=h
 refine⟨h1,h2,fun y hy e=>?_,fun y hy e=>?_,fun j hj=>?_⟩
 · rcases h3 y hy with z|z
   · exact absurd e z
   · exact z
 · rcases h4 y hy with (z|z)|z
   · exact absurd e z
   · exact .inl (G.cell _ z)
   · exact (G.free _ z).symm
 · rw[G.nm];exact h5 j hj
theorem zjk (G:Gd T cf k N sc X){scope:Scope}{tgs:List Str}{js:List Nat}(ok:CompOk X.env.scope scope X.N js)(hn:(capN N tgs js).Nodup)(cl:List (Str × Addr))(C:Addr)(fp:List Addr)(s:Shared)(H:Hp)(pn:List (Addr × Obj)) :
  Gd T cf k (capN N tgs js) scope (zaX X (capN X.N tgs js) scope cl C fp s H pn):=by
 have names:(zaX X (capN X.N tgs js) scope cl C fp s H pn).env.scope.names=scope.names.map (zcp X.env):=zbW scope X.env
 have noc:∀x,scope.names.lookup x≠some .cell:=fun x e=>ok.nocell _ (PySem.mem_of_lookup e) rfl
 refine⟨by rw[<-G.nm],hn,fun x e=>?_,fun x e=>absurd e (noc x),fun x e=>?_,fun x e=>?_,.inr noc,G.calm,rfl,G.room',G.tab⟩
 · rw[names];exact zcd _ _ e (by decide)
 · rw[names];exact zbX _ _ _ e
 · rw[names];exact zcd _ _ e (by decide)
theorem zcG {x:Str}(h:nmB x=true):(x == ("__debug__":Str))=false/\(x == ("__classdict__":Str))=false/\x≠("__name__":Str):=by
 unfold nmB at h
 simp only[Bool.and_eq_true,Bool.not_eq_true'] at h
 exact⟨h.1.1,h.1.2,fun e=>by rw[e] at h;simp at h⟩
theorem znN {t:String}{y:Str}(h:tyB t y=true):t∈["bool","int","str","list","tuple","dict"]/\bootBuiltins y=some (.type t):=by
 unfold tyB at h
 simp only[Bool.or_eq_true,Bool.and_eq_true,beq_iff_eq] at h
 rcases h with ((((⟨rfl,rfl⟩|⟨rfl,rfl⟩)|⟨rfl,rfl⟩)|⟨rfl,rfl⟩)|⟨rfl,rfl⟩)|⟨rfl,rfl⟩
 · exact⟨by simp,zny⟩
 · exact⟨by simp,zlI⟩
 · exact⟨by simp,zpD⟩
 · exact⟨by simp,zeW⟩
 · exact⟨by simp,zho⟩
 · exact⟨by simp,znx⟩
theorem zlA {f j:Nat}{x:Str}(h:fnB T f j x=true):∃ps nd,T.fns[f]?=some (x,ps,nd)/\j<=nd:=by
 unfold fnB at h
 cases e:T.fns[f]? with
 |none=>rw[e] at h;cases h
 | some q =>
   obtain⟨y,ps,nd⟩:=q
   rw[e] at h
   simp only[Bool.and_eq_true,beq_iff_eq,decide_eq_true_eq] at h
   obtain⟨rfl,h2⟩:=h
   exact⟨ps,nd,rfl,h2⟩
theorem za8:∀{ces:CEs} {N:List Str} {sc:Scope} {es:List Expr},zb2 T ces N sc es=true->es.all zan=true
 | .nil, N, sc, es, h => by
   simp only[zb2,List.isEmpty_iff] at h
   subst h;rfl
 | .cons a r, N, sc, es, h => by
   cases es with
   |nil=>simp[zb2] at h
   | cons e es =>
     simp only[zb2,Bool.and_eq_true] at h
     simp[h.1.1,za8 h.2]
theorem zhm {es:CEs}(h:zmT es=true):∃a,es=.cons a .nil:=by
 cases es with
 |nil=>cases h
 | cons a r =>
   cases r with
   |nil=>exact⟨a,rfl⟩
   |cons _ _=>cases h
theorem zhW (G:Gd T cf k N sc X){b:Bi}{x:Str}{n:Nat}(h:biB b x n=true):∃id,zbB X (.builtin id) (rB X.K fun S ds=>R.bi S b ds)/\bootBuiltins x=some (.builtin id):=by
 cases b with
 |len=>simp only[biB,Bool.and_eq_true,beq_iff_eq] at h;rw[h.1];exact⟨_,zpc,zpG⟩
 |abs=>simp only[biB,Bool.and_eq_true,beq_iff_eq] at h;rw[h.1];exact⟨_,zpL,zpI⟩
 |max2=>simp only[biB,Bool.and_eq_true,beq_iff_eq] at h;rw[h.1];exact⟨_,zo7 G.calm,zpF⟩
 |min2=>simp only[biB,Bool.and_eq_true,beq_iff_eq] at h;rw[h.1];exact⟨_,zo6 G.calm,zpE⟩
 |isin t=>simp[biB] at h
noncomputable def LOk (T:Tab)(cf:CF)(k:Nat)(cl:CL)(X:Cx)(e:Expr):Prop:=(zja cl=false->PE X e (tL X.K cf cl))/\(zm6 cl=true->PE X e (tLt X.K cf cl))/\(∀tg,(zi7 tg || !(zi6 cl))=true->PI X tg e (tI X.K cf cl))/\
 ∀a,cl=.rng1 a->∃a' p2 p,e=.Call (.Name "range" p2) [a'] [] p/\(Gl X "range"/\X.mg "range"=none)/\PE X a' (tE X.K cf a)/\zan a'=true
noncomputable def EsOk (cf:CF)(ces:CEs)(X:Cx)(es:List Expr):Prop:=PA X es (tAs X.K cf ces)/\∀a r e es',ces=.cons a r->es=e::es'->PE X e (tE X.K cf a)
theorem zlR {sc:Scope}{N:List Str}{X:Cx}{g:List Nat}{tg:Expr}(G:Gd T cf k N sc X)(h:tgB sc N g tg=true):PG X tg (tG X.K g):=by
 unfold tgB at h
 split at h
 · rename_i x q
   obtain⟨p,rfl⟩:=za7 q
   split at h
   · rename_i i q2
     rw[zbN q2]
     simp only[Bool.and_eq_true,beq_iff_eq] at h
     exact zl8 G h.1 h.2
   · cases h
 · replace h:=zaf h
   obtain⟨es,q,h⟩:=h
   obtain⟨j,p,rfl⟩:=zdr q
   simp only[Bool.and_eq_true,decide_eq_true_eq] at h
   exact zli G h.2 h.1
theorem zgC {c:CE}{X:Cx}(h:zi8 c=true):PTs X [] (tT X.K cf c):=by
 have hc:c=.tst (.con (.bl true)):=by
  cases c with
  | tst a =>
    cases a with
    | con d =>
      cases d with
      | bl b =>
        cases b with
        |true=>rfl
        |false=>cases h
      |_=>cases h
    |_=>cases h
  |_=>cases h
 subst hc
 intro pins s' σ H' Qv I q
 refine zmA pins s' σ H' Qv I ?_
 obtain⟨δ,ι,S,Q,hs,hh,w,q⟩:=q
 simp only[evT,evE,zbR,tru,zdz,W_ok] at w
 exact q _ _ ⟨ι,S,Ext.refl _ _,hh,w⟩
theorem ziS {m:Bool}{ce:CE}{o:Option Expr}{X:Cx}(h1:o=none->m=false/\zjb ce=true)(h2:∀e,o=some e->m=true/\PE X e (tE X.K cf ce)):PartOk X cf m ce o:=by
 cases o with
 | none =>
   obtain⟨rfl,h⟩:=h1 rfl
   cases ce with
   |con d=>exact .no ⟨d,rfl⟩
   |_=>cases h
 | some e =>
   obtain⟨rfl,h⟩:=h2 e rfl
   exact .yes h
theorem zbe {x y:Str}(h:(x == y)=true):x=y:=by simpa using h
mutual
theorem zag:∀(ce:CE) {N:List Str} {sc:Scope} {e:Expr} {X:Cx},Gd T cf k N sc X->chkE T ce N sc e=true->PE X e (tE X.K cf ce)
 | .loc i, N, sc, e, X, G, h => by
   simp only[chkE] at h
   replace h:=zaf h
   obtain⟨x,q,h⟩:=h
   obtain⟨p,rfl⟩:=za7 q
   simp only[Bool.and_eq_true,beq_iff_eq] at h
   obtain⟨h1,h2,_⟩:=zcG h.2
   exact zod G h.1.1 h.1.2 h1 h2
 | .con d, N, sc, e, X, G, h => by
   simp only[chkE] at h
   rw[Bool.or_eq_true] at h
   rcases h with h|h
   · replace h:=zaf h
     obtain⟨c,q,h⟩:=h
     obtain⟨j,p,rfl⟩:=zf5 q
     exact zoi h
   · replace h:=zaf h
     obtain⟨x,q,h⟩:=h
     obtain⟨p,rfl⟩:=za7 q
     simp only[Bool.and_eq_true] at h
     obtain⟨h1,h2,_⟩:=zcG h.2
     have h3:=h.1.2
     unfold conG at h3
     split at h3
     · rename_i d' e'
       exact zmf G h.1.1 e' h3 h1
     · cases h3
 |.tst a,N,sc,e,X,G,h=>by simp only[chkE] at h;cases h
 | .bin op a b, N, sc, e, X, G, h => by
   simp only[chkE] at h
   replace h:=zaf h
   obtain⟨⟨l,o,r⟩,q,h⟩:=h
   obtain⟨p,rfl⟩:=ziz q
   simp only[Bool.and_eq_true,decide_eq_true_eq] at h
   obtain⟨⟨rfl,h1⟩,h2⟩:=h
   exact zol (zag a G h1) (zag b G h2)
 | .neg a, N, sc, e, X, G, h => by
   simp only[chkE] at h
   replace h:=zaf h
   obtain⟨⟨o,x⟩,q,h⟩:=h
   obtain⟨p,rfl⟩:=zez q
   simp only[Bool.and_eq_true,decide_eq_true_eq] at h
   obtain⟨rfl,h1⟩:=h
   exact zn9 (zag a G h1)
 | .nt a, N, sc, e, X, G, h => by
   simp only[chkE] at h
   replace h:=zaf h
   obtain⟨⟨o,x⟩,q,h⟩:=h
   obtain⟨p,rfl⟩:=zez q
   simp only[Bool.and_eq_true,decide_eq_true_eq] at h
   obtain⟨rfl,h1⟩:=h
   exact zp3 (zag a G h1)
 | .cmp op a b, N, sc, e, X, G, h => by
   simp only[chkE] at h
   replace h:=zaf h
   obtain⟨⟨l,os,rs⟩,q,h⟩:=h
   obtain⟨p,rfl⟩:=zcD q
   rw[Bool.and_eq_true,decide_eq_true_eq] at h
   obtain⟨e1,h⟩:=h
   replace h:=zaf h
   obtain⟨r,q2,h⟩:=h
   cases zbN q2
   cases e1
   simp only[Bool.and_eq_true] at h
   exact zoj G (zag a G h.1.2) (zag b G h.2) h.1.1
 | .cmp2 op op' a b c, N, sc, e, X, G, h => by
   simp only[chkE] at h
   replace h:=zaf h
   obtain⟨⟨l,os,rs⟩,q,h⟩:=h
   obtain⟨p,rfl⟩:=zcD q
   rw[Bool.and_eq_true,decide_eq_true_eq] at h
   obtain⟨e1,h⟩:=h
   replace h:=zaf h
   obtain⟨⟨r,r'⟩,q2,h⟩:=h
   cases two_inv q2
   cases e1
   simp only[Bool.and_eq_true] at h
   obtain⟨⟨⟨⟨h1,h2⟩,h3⟩,h4⟩,h5⟩:=h
   exact zmi G (zag a G h3) (zag b G h4) (zag c G h5) h1 h2
 | .and a b, N, sc, e, X, G, h => by
   simp only[chkE] at h
   replace h:=zaf h
   obtain⟨⟨o,vs,p⟩,q,h⟩:=h
   cases zch q
   rw[Bool.and_eq_true,decide_eq_true_eq] at h
   obtain⟨e1,h⟩:=h
   cases e1
   dsimp only at h
   split at h
   · rename_i x y rest
     rw[Bool.and_eq_true] at h
     obtain⟨h1,h2⟩:=h
     split at h2
     · rename_i c
       cases List.isEmpty_iff.mp c
       exact zll (zag a G h1) (zlq (zag b G h2))
     · exact zll (zag a G h1) (zag b G h2)
   · cases h
 | .or a b, N, sc, e, X, G, h => by
   simp only[chkE] at h
   replace h:=zaf h
   obtain⟨⟨o,vs,p⟩,q,h⟩:=h
   cases zch q
   rw[Bool.and_eq_true,decide_eq_true_eq] at h
   obtain⟨e1,h⟩:=h
   cases e1
   dsimp only at h
   split at h
   · rename_i x y rest
     rw[Bool.and_eq_true] at h
     obtain⟨h1,h2⟩:=h
     split at h2
     · rename_i c
       cases List.isEmpty_iff.mp c
       exact zn8 (zag a G h1) (zlq (zag b G h2))
     · exact zn8 (zag a G h1) (zag b G h2)
   · cases h
 | .ite c a b, N, sc, e, X, G, h => by
   simp only[chkE] at h
   replace h:=zaf h
   obtain⟨⟨t,x,y⟩,q,h⟩:=h
   obtain⟨p,rfl⟩:=zkc q
   simp only[Bool.and_eq_true] at h
   exact zoe (zbr c G h.1.1).1 (zag a G h.1.2) (zag b G h.2)
 | .tup es, N, sc, e, X, G, h => by
   simp only[chkE] at h
   replace h:=zaf h
   obtain⟨xs,q,h⟩:=h
   obtain⟨j,p,rfl⟩:=zdr q
   exact zn7 (zbp es G h).1
 | .lst es, N, sc, e, X, G, h => by
   simp only[chkE] at h
   replace h:=zaf h
   obtain⟨xs,q,h⟩:=h
   obtain⟨p,rfl⟩:=zhB q
   exact zoc (zbp es G h).1
 | .dnew, N, sc, e, X, G, h => by
   simp only[chkE] at h
   obtain⟨p,rfl⟩:=zds h
   exact zmh
 | .dnewT, N, sc, e, X, G, h => by
   simp only[chkE] at h
   obtain⟨p,rfl⟩:=zds h
   exact zjY
 | .dget1 a b, N, sc, e, X, G, h => by
   simp only[chkE] at h
   replace h:=zaf h
   obtain⟨⟨oe,x,ap,e1,cp⟩,q,h⟩:=h
   cases zcg q
   simp only[Bool.and_eq_true] at h
   obtain⟨⟨⟨⟨⟨hx,h1⟩,h2⟩,h3⟩,h4⟩,h5⟩:=h
   cases zbe hx
   exact zj1 G (zag a G h4) (zag b G h5) h1 h2 h3
 | .dget2 a b c, N, sc, e, X, G, h => by
   simp only[chkE] at h
   replace h:=zaf h
   obtain⟨⟨oe,x,ap,as,cp⟩,q,h⟩:=h
   cases zbC q
   replace h:=zaf h
   obtain⟨⟨e1,e2⟩,q2,h⟩:=h
   cases two_inv q2
   simp only[Bool.and_eq_true] at h
   obtain⟨⟨⟨⟨⟨⟨⟨hx,h1⟩,h2⟩,h3⟩,h4⟩,h5⟩,h6⟩,h7⟩:=h
   cases zbe hx
   exact zj0 G (zag a G h5) (zag b G h6) (zag c G h7) h1 h2 h3 h4
 | .dsetd a b c, N, sc, e, X, G, h => by
   simp only[chkE] at h
   replace h:=zaf h
   obtain⟨⟨oe,x,ap,as,cp⟩,q,h⟩:=h
   cases zbC q
   replace h:=zaf h
   obtain⟨⟨e1,e2⟩,q2,h⟩:=h
   cases two_inv q2
   simp only[Bool.and_eq_true] at h
   obtain⟨⟨⟨⟨⟨⟨⟨hx,h1⟩,h2⟩,h3⟩,h4⟩,h5⟩,h6⟩,h7⟩:=h
   cases zbe hx
   exact zjX G (zag a G h5) (zag b G h6) (zag c G h7) h1 h2 h3 h4
 | .dkeys a, N, sc, e, X, G, h => by
   simp only[chkE] at h
   replace h:=zaf h
   obtain⟨⟨x,e1⟩,q,h⟩:=h
   obtain⟨p2,p,rfl⟩:=zbd q
   simp only[Bool.and_eq_true] at h
   obtain⟨⟨⟨hx,h1⟩,h2⟩,h3⟩:=h
   cases zbe hx
   exact zjZ G (zbF G h1) (zag a G h3) h2
 | .intb a, N, sc, e, X, G, h => by
   simp only[chkE] at h
   replace h:=zaf h
   obtain⟨⟨x,e1⟩,q,h⟩:=h
   obtain⟨p2,p,rfl⟩:=zbd q
   simp only[Bool.and_eq_true] at h
   obtain⟨⟨⟨hx,h1⟩,h2⟩,h3⟩:=h
   cases zbe hx
   exact zme (zbF G h1) (zag a G h3) h2
 | .extv a b, N, sc, e, X, G, h => by
   simp only[chkE] at h
   replace h:=zaf h
   obtain⟨⟨oe,x,ap,e1,cp⟩,q,h⟩:=h
   cases zcg q
   simp only[Bool.and_eq_true] at h
   obtain⟨⟨⟨⟨⟨hx,h1⟩,h2⟩,h3⟩,h4⟩,h5⟩:=h
   cases zbe hx
   exact zmg (zag a G h4) (zag b G h5) h1 h2 h3
 | .ix a b, N, sc, e, X, G, h => by
   simp only[chkE] at h
   replace h:=zaf h
   obtain⟨⟨x,i⟩,q,h⟩:=h
   obtain⟨p,rfl⟩:=zff q
   simp only[Bool.and_eq_true] at h
   exact zp5 (zag a G h.1.2) (zag b G h.2) h.1.1
 | .fld a f, N, sc, e, X, G, h => by
   simp only[chkE] at h
   replace h:=zaf h
   obtain⟨⟨o,f',p⟩,q,h⟩:=h
   cases zci q
   simp only[Bool.and_eq_true,decide_eq_true_eq] at h
   obtain⟨⟨⟨rfl,h2⟩,h3⟩,h4⟩:=h
   exact zog G (zag a G h4) h2 h3
 | .mk c f x es, N, sc, e, X, G, h => by
   simp only[chkE] at h
   replace h:=zaf h
   obtain⟨⟨x',args⟩,q,h⟩:=h
   obtain⟨p2,p,rfl⟩:=za1 q
   simp only[Bool.and_eq_true,Bool.or_eq_true,decide_eq_true_eq] at h
   obtain⟨⟨⟨⟨⟨⟨rfl,h1⟩,h2⟩,h3⟩,h4⟩,h5⟩,h6⟩:=h
   obtain⟨n1,n2,n3⟩:=zcG h2
   have ha:=(zbp es G h6).1
   cases args with
   | nil =>
     have:es=.nil:=by
      cases es with
      |nil=>rfl
      |cons _ _=>rcases h5 with z|z<;>cases z
     rw[this]
     exact zob G h4 h3 h1 n1
   |cons a as=>exact zp4 G h4 h3 h1 n1 ha (za8 h6)
 | .meth m tb o es, N, sc, e, X, G, h => by
   simp only[chkE] at h
   replace h:=zaf h
   obtain⟨⟨oe,m',ap,args,cp⟩,q,h⟩:=h
   cases zbC q
   simp only[Bool.and_eq_true,Bool.or_eq_true,decide_eq_true_eq] at h
   obtain⟨⟨⟨⟨⟨⟨⟨rfl,h1⟩,h2⟩,h3⟩,h4⟩,h5⟩,h6⟩,h7⟩:=h
   have ho:=zag o G h6
   have ha:=(zbp es G h7).1
   cases args with
   | nil =>
     have:es=.nil:=by
      cases es with
      |nil=>rfl
      |cons _ _=>rcases h5 with z|z<;>cases z
     rw[this]
     exact zjW G h1 ho h2 h3
   |cons a as=>exact zmc G h1 ho ha (za8 h7) h2 h3 h4
 | .isc cs x a, N, sc, e, X, G, h => by
   simp only[chkE] at h
   replace h:=zaf h
   obtain⟨⟨x',args⟩,q,h⟩:=h
   obtain⟨p2,p,rfl⟩:=za1 q
   replace h:=zaf h
   obtain⟨⟨e1,e2⟩,q2,h⟩:=h
   cases two_inv q2
   replace h:=zaf h
   obtain⟨y,q3,h⟩:=h
   obtain⟨p3,rfl⟩:=za7 q3
   simp only[Bool.and_eq_true,decide_eq_true_eq] at h
   obtain⟨⟨⟨⟨⟨⟨⟨h0,h1⟩,rfl⟩,h2⟩,h3⟩,h4⟩,h5⟩,h6⟩:=h
   cases zbe h0
   exact zof G (zbF G h1) h2 (zcG h3).1 h4 (zag a G h6) h5
 | .callC f x m es, N, sc, e, X, G, h => by
   simp only[chkE] at h
   replace h:=zaf h
   obtain⟨⟨oe,m',ap,args,cp⟩,q,h⟩:=h
   cases zbC q
   replace h:=zaf h
   obtain⟨y,q3,h⟩:=h
   obtain⟨p3,rfl⟩:=za7 q3
   simp only[Bool.and_eq_true,decide_eq_true_eq] at h
   obtain⟨⟨⟨⟨⟨⟨⟨⟨rfl,rfl⟩,h1⟩,h2⟩,h3⟩,h4⟩,h5⟩,h6⟩,h7⟩:=h
   cases args with
   |nil=>cases h6
   |cons a as=>exact zj2 G h3 h1 (zcG h2).1 rfl (zbp es G h7).1 (za8 h7) h5 h4
 | .clr a, N, sc, e, X, G, h => by
   simp only[chkE] at h
   replace h:=zaf h
   obtain⟨⟨oe,m',ap,args,cp⟩,q,h⟩:=h
   cases zbC q
   simp only[Bool.and_eq_true,List.isEmpty_iff] at h
   obtain⟨⟨⟨⟨h0,h1⟩,h2⟩,rfl⟩,h4⟩:=h
   cases zbe h0
   exact zok (zag a G h4) h1 h2
 | .sl a ml mh lo hi, N, sc, e, X, G, h => by
   simp only[chkE] at h
   replace h:=zaf h
   obtain⟨⟨x,i⟩,q,h⟩:=h
   obtain⟨p,rfl⟩:=zff q
   replace h:=zaf h
   obtain⟨⟨l,u⟩,q2,h⟩:=h
   obtain⟨p2,rfl⟩:=zkb q2
   simp only[Bool.and_eq_true] at h
   obtain⟨⟨h1,h2⟩,h3⟩:=h
   refine zp2 (zag a G h1) (ziS (fun z=>?_) fun e z=>?_) (ziS (fun z=>?_) fun e z=>?_)
   · subst z;simpa using h2
   · subst z
     simp only[Bool.and_eq_true] at h2
     exact⟨h2.1,zag lo G h2.2⟩
   · subst z;simpa using h3
   · subst z
     simp only[Bool.and_eq_true] at h3
     exact⟨h3.1,zag hi G h3.2⟩
 | .call f j es, N, sc, e, X, G, h => by
   simp only[chkE] at h
   replace h:=zaf h
   obtain⟨⟨x,args⟩,q,h⟩:=h
   obtain⟨p2,p,rfl⟩:=za1 q
   simp only[Bool.and_eq_true,Bool.or_eq_true] at h
   obtain⟨⟨⟨⟨h1,h2⟩,h3⟩,h4⟩,h5⟩:=h
   obtain⟨n1,n2,n3⟩:=zcG h2
   obtain⟨ps,nd,hf,hj⟩:=zlA h3
   have ha:=(zbp es G h5).1
   cases args with
   | nil =>
     have:es=.nil:=by
      cases es with
      |nil=>rfl
      |cons _ _=>rcases h4 with z|z<;>cases z
     rw[this]
     exact zj3 G hf hj h1 n1
   |cons a as=>exact zmj G hf hj h1 n1 ha (za8 h5)
 | .bi b es, N, sc, e, X, G, h => by
   simp only[chkE] at h
   replace h:=zaf h
   obtain⟨⟨x,args⟩,q,h⟩:=h
   obtain⟨p2,p,rfl⟩:=za1 q
   rw[Bool.and_eq_true,Bool.and_eq_true] at h
   obtain⟨⟨h1,h2⟩,h3⟩:=h
   obtain⟨n1,n2,n3⟩:=zcG h2
   split at h3
   · rename_i t qt
     replace h3:=zaf h3
     obtain⟨⟨e1,e2⟩,q2,h3⟩:=h3
     cases two_inv q2
     replace h3:=zaf h3
     obtain⟨y,q3,h3⟩:=h3
     obtain⟨p3,rfl⟩:=za7 q3
     simp only[Bool.and_eq_true] at h3
     obtain⟨⟨⟨⟨⟨hx,h4⟩,h5⟩,h6⟩,h7⟩,h8⟩:=h3
     cases zbe hx
     obtain⟨m1,m2,m3⟩:=zcG h6
     obtain⟨t1,t2⟩:=znN h4
     obtain⟨a,ea⟩:=zhm h7
     have he:=(zbp es G h8).2 a .nil e1 [] ea rfl
     have hst:=za8 h8
     have eb:b=.isin t:=by
      cases b with
      |isin _=>cases qt;rfl
      |_=>cases qt
     rw[ea,eb]
     exact zmd G (zbF G h1) (zbF G h5) t2 t1 m3 m1 he (by simpa using hst)
   · rw[Bool.and_eq_true,Bool.and_eq_true] at h3
     cases args with
     |nil=>cases h3.1.2
     | cons a as =>
       obtain⟨id,hc,hv⟩:=zhW G h3.1.1
       exact zp6 hc (zbF G h1) hv (zbp es G h3.2).1 (za8 h3.2) n3 n1
 | .mt m o es, N, sc, e, X, G, h => by
   simp only[chkE] at h
   replace h:=zaf h
   obtain⟨⟨oe,x,ap,e1,cp⟩,q,h⟩:=h
   cases zcg q
   simp only[Bool.and_eq_true] at h
   obtain⟨⟨⟨⟨⟨h1,h2⟩,h3⟩,h4⟩,h5⟩,h6⟩:=h
   obtain⟨a,ea⟩:=zhm h4
   have he:=(zbp es G h6).2 a .nil e1 [] ea rfl
   have hst:zan e1=true:=by simpa using za8 h6
   rw[ea]
   cases m with
   | append =>
     cases zbe h1
     exact zma PySem.F.slot_list_append PySem.F.type_list_append zjG (zag o G h5) he hst h2 h3
   | popAt =>
     cases zbe h1
     exact zma PySem.F.slot_list_pop PySem.F.type_list_pop zkj (zag o G h5) he hst h2 h3
   | count =>
     cases zbe h1
     exact zma PySem.F.slot_list_count PySem.F.type_list_count zk1 (zag o G h5) he hst h2 h3
 | .mkL l, N, sc, e, X, G, h => by
   simp only[chkE] at h
   split at h
   · rename_i c
     split at h
     · have ht:zm6 l=true:=by
        cases l with
        |comp=>rfl
        |_=>cases c
       exact PE.imp ((zb1 l G h).2.1 ht) fun σ H Qv q=>ziX q
     · replace h:=zaf h
       obtain⟨⟨x,e1⟩,q,h⟩:=h
       obtain⟨p2,p,rfl⟩:=zbd q
       simp only[Bool.and_eq_true] at h
       obtain⟨⟨⟨hx,h1⟩,h2⟩,h4⟩:=h
       cases zbe hx
       have hr:zja l=false:=by
        cases l with
        |comp=>rfl
        |_=>cases c
       exact zlk G (zbF G h1) ((zb1 l G h4).1 hr) h2
   · replace h:=zaf h
     obtain⟨⟨x,e1⟩,q,h⟩:=h
     obtain⟨p2,p,rfl⟩:=zbd q
     simp only[Bool.and_eq_true,Bool.or_eq_true,Bool.not_eq_true'] at h
     obtain⟨⟨⟨⟨hx,h1⟩,h2⟩,h3⟩,h4⟩:=h
     cases zbe hx
     have hl:=zb1 l G h4
     rcases h3 with h3|h3
     · exact zlk G (zbF G h1) (hl.1 h3) h2
     · have:∃a,l=.rng1 a:=by
        cases l with
        |rng1 a=>exact⟨a,rfl⟩
        |_=>cases h3
       obtain⟨a,ea⟩:=this
       obtain⟨a',p3,p4,rfl,hr,ha,hs⟩:=hl.2.2.2 a ea
       rw[ea]
       exact zmb G (zbF G h1) hr ha hs
 | .mkT l, N, sc, e, X, G, h => by
   simp only[chkE] at h
   replace h:=zaf h
   obtain⟨⟨x,e1⟩,q,h⟩:=h
   obtain⟨p2,p,rfl⟩:=zbd q
   simp only[Bool.and_eq_true,Bool.not_eq_true'] at h
   obtain⟨⟨⟨⟨hx,h1⟩,h2⟩,h3⟩,h4⟩:=h
   cases zbe hx
   exact zoa G (zbF G h1) ((zb1 l G h4).1 h3) h2
 | .all l, N, sc, e, X, G, h => by
   simp only[chkE] at h
   replace h:=zaf h
   obtain⟨⟨x,e1⟩,q,h⟩:=h
   obtain⟨p2,p,rfl⟩:=zbd q
   simp only[Bool.and_eq_true,Bool.not_eq_true'] at h
   obtain⟨⟨⟨⟨hx,h1⟩,h2⟩,h3⟩,h4⟩:=h
   cases zbe hx
   exact zom G (zbF G h1) ((zb1 l G h4).1 h3) h2
 | .ext a l, N, sc, e, X, G, h => by
   simp only[chkE] at h
   replace h:=zaf h
   obtain⟨⟨oe,x,ap,e1,cp⟩,q,h⟩:=h
   cases zcg q
   simp only[Bool.and_eq_true] at h
   obtain⟨⟨⟨⟨⟨⟨hx,h1⟩,h2⟩,h3⟩,h4⟩,h5⟩,h6⟩:=h
   cases zbe hx
   exact zoh (zag a G h5) ((zb1 l G h6).2.1 h4) h1 h2 h3
theorem zbp:∀(ces:CEs) {N:List Str} {sc:Scope} {es:List Expr} {X:Cx},Gd T cf k N sc X->zb2 T ces N sc es=true->EsOk cf ces X es
 | .nil, N, sc, es, X, G, h => by
   simp only[zb2,List.isEmpty_iff] at h
   subst h
   exact⟨zln,fun a r e es' z=>nomatch z⟩
 | .cons a r, N, sc, es, X, G, h => by
   cases es with
   |nil=>simp[zb2] at h
   | cons e es =>
     simp only[zb2,Bool.and_eq_true] at h
     have he:=zag a G h.1.2
     exact⟨zin he (zbp r G h.2).1 h.1.1,fun a' r' e' es' z1 z2=>by cases z1;cases z2;exact he⟩
theorem zbr:∀(ce:CE) {N:List Str} {sc:Scope} {e:Expr} {X:Cx},Gd T cf k N sc X->chkT T ce N sc e=true->PT X e (tT X.K cf ce)/\((∃op v r p,e=.BoolOp op (v::r) p)->PW X e (tT X.K cf ce))
 | .cmp op a b, N, sc, e, X, G, h => by
   simp only[chkT] at h
   replace h:=zaf h
   obtain⟨⟨l,os,rs⟩,q,h⟩:=h
   obtain⟨p,rfl⟩:=zcD q
   rw[Bool.and_eq_true,decide_eq_true_eq] at h
   obtain⟨e1,h⟩:=h
   replace h:=zaf h
   obtain⟨r,q2,h⟩:=h
   cases zbN q2
   cases e1
   simp only[Bool.and_eq_true] at h
   exact⟨znZ G (zag a G h.1.2) (zag b G h.2) h.1.1,fun⟨_,_,_,_,z⟩=>nomatch z⟩
 | .cmp2 op op' a b c, N, sc, e, X, G, h => by
   simp only[chkT] at h
   replace h:=zaf h
   obtain⟨⟨l,os,rs⟩,q,h⟩:=h
   obtain⟨p,rfl⟩:=zcD q
   rw[Bool.and_eq_true,decide_eq_true_eq] at h
   obtain⟨e1,h⟩:=h
   replace h:=zaf h
   obtain⟨⟨r,r'⟩,q2,h⟩:=h
   cases two_inv q2
   cases e1
   simp only[Bool.and_eq_true] at h
   obtain⟨⟨⟨⟨h1,h2⟩,h3⟩,h4⟩,h5⟩:=h
   exact⟨zlX G (zag a G h3) (zag b G h4) (zag c G h5) h1 h2,fun⟨_,_,_,_,z⟩=>nomatch z⟩
 | .nt a, N, sc, e, X, G, h => by
   simp only[chkT] at h
   replace h:=zaf h
   obtain⟨⟨o,x⟩,q,h⟩:=h
   obtain⟨p,rfl⟩:=zez q
   simp only[Bool.and_eq_true,decide_eq_true_eq] at h
   obtain⟨rfl,h1⟩:=h
   exact⟨zp0 (zbr a G h1).1,fun⟨_,_,_,_,z⟩=>nomatch z⟩
 | .and a b, N, sc, e, X, G, h => by
   simp only[chkT] at h
   replace h:=zaf h
   obtain⟨⟨o,vs,p⟩,q,h⟩:=h
   cases zch q
   rw[Bool.and_eq_true,decide_eq_true_eq] at h
   obtain⟨e1,h⟩:=h
   cases e1
   dsimp only at h
   split at h
   · rename_i x y rest
     rw[Bool.and_eq_true] at h
     obtain⟨h1,h2⟩:=h
     split at h2
     · rename_i c
       cases List.isEmpty_iff.mp c
       have w:=zlh (pos:=p) (zbr a G h1).1 (zmx (zbr b G h2).1)
       exact⟨w.pt,fun _=>w⟩
     · have w:=zlh (zbr a G h1).1 ((zbr b G h2).2 ⟨_,_,_,_,rfl⟩)
       exact⟨w.pt,fun _=>w⟩
   · cases h
 | .or a b, N, sc, e, X, G, h => by
   simp only[chkT] at h
   replace h:=zaf h
   obtain⟨⟨o,vs,p⟩,q,h⟩:=h
   cases zch q
   rw[Bool.and_eq_true,decide_eq_true_eq] at h
   obtain⟨e1,h⟩:=h
   cases e1
   dsimp only at h
   split at h
   · rename_i x y rest
     rw[Bool.and_eq_true] at h
     obtain⟨h1,h2⟩:=h
     split at h2
     · rename_i c
       cases List.isEmpty_iff.mp c
       have w:=znY (pos:=p) (zbr a G h1).1 (zoA (zbr b G h2).1)
       exact⟨w.pt,fun _=>w⟩
     · have w:=znY (zbr a G h1).1 ((zbr b G h2).2 ⟨_,_,_,_,rfl⟩)
       exact⟨w.pt,fun _=>w⟩
   · cases h
 | .tst a, N, sc, e, X, G, h => by
   simp only[chkT,Bool.and_eq_true] at h
   exact⟨znX (zag a G h.2) h.1,fun⟨_,_,_,_,z⟩=>by rw[z] at h;simp[zgP] at h⟩
 |.loc i,N,sc,e,X,G,h=>absurd h Bool.false_ne_true
 |.con d,N,sc,e,X,G,h=>absurd h Bool.false_ne_true
 |.bin op a b,N,sc,e,X,G,h=>absurd h Bool.false_ne_true
 |.neg a,N,sc,e,X,G,h=>absurd h Bool.false_ne_true
 |.ite c a b,N,sc,e,X,G,h=>absurd h Bool.false_ne_true
 |.tup es,N,sc,e,X,G,h=>absurd h Bool.false_ne_true
 |.lst es,N,sc,e,X,G,h=>absurd h Bool.false_ne_true
 |.dnew,N,sc,e,X,G,h=>absurd h Bool.false_ne_true
 |.dnewT,N,sc,e,X,G,h=>absurd h Bool.false_ne_true
 |.dget1 a b,N,sc,e,X,G,h=>absurd h Bool.false_ne_true
 |.dget2 a b c,N,sc,e,X,G,h=>absurd h Bool.false_ne_true
 |.dsetd a b c,N,sc,e,X,G,h=>absurd h Bool.false_ne_true
 |.dkeys a,N,sc,e,X,G,h=>absurd h Bool.false_ne_true
 |.intb a,N,sc,e,X,G,h=>absurd h Bool.false_ne_true
 |.extv a b,N,sc,e,X,G,h=>absurd h Bool.false_ne_true
 |.ix a b,N,sc,e,X,G,h=>absurd h Bool.false_ne_true
 |.fld a f,N,sc,e,X,G,h=>absurd h Bool.false_ne_true
 |.mk c f x es,N,sc,e,X,G,h=>absurd h Bool.false_ne_true
 |.meth m tb o es,N,sc,e,X,G,h=>absurd h Bool.false_ne_true
 |.isc cs x a,N,sc,e,X,G,h=>absurd h Bool.false_ne_true
 |.callC f x m es,N,sc,e,X,G,h=>absurd h Bool.false_ne_true
 |.clr a,N,sc,e,X,G,h=>absurd h Bool.false_ne_true
 |.sl a ml mh lo hi,N,sc,e,X,G,h=>absurd h Bool.false_ne_true
 |.call f j es,N,sc,e,X,G,h=>absurd h Bool.false_ne_true
 |.bi b es,N,sc,e,X,G,h=>absurd h Bool.false_ne_true
 |.mt m o es,N,sc,e,X,G,h=>absurd h Bool.false_ne_true
 |.mkL l,N,sc,e,X,G,h=>absurd h Bool.false_ne_true
 |.mkT l,N,sc,e,X,G,h=>absurd h Bool.false_ne_true
 |.all l,N,sc,e,X,G,h=>absurd h Bool.false_ne_true
 |.ext a l,N,sc,e,X,G,h=>absurd h Bool.false_ne_true
theorem zb1:∀(cl:CL) {N:List Str} {sc:Scope} {e:Expr} {X:Cx},Gd T cf k N sc X->chkL T cl N sc e=true->LOk T cf k cl X e
 | .val a, N, sc, e, X, G, h => by
   simp only[chkL,Bool.and_eq_true] at h
   have hp:=zn4 (zag a G h.2)
   exact⟨fun _=>hp,fun z=>(by cases z),fun tg _=>zil hp zpb,fun a z=>nomatch z⟩
 | .callL f j es, N, sc, e, X, G, h => by
   simp only[chkL] at h
   replace h:=zaf h
   obtain⟨⟨x,args⟩,q,h⟩:=h
   obtain⟨p2,p,rfl⟩:=za1 q
   simp only[Bool.and_eq_true] at h
   obtain⟨⟨⟨⟨h1,h2⟩,h3⟩,h4⟩,h5⟩:=h
   obtain⟨n1,n2,n3⟩:=zcG h2
   obtain⟨ps,nd,hf,hj⟩:=zlA h3
   have ha:=(zbp es G h5).1
   cases args with
   |nil=>cases h4
   | cons a as =>
     have hp:=zl5 G (p:=p2) (pos:=p) hf hj h1 n1 ha (za8 h5)
     exact⟨fun _=>(PE.ofT hp),fun _=>hp,fun tg _=>zil (PE.ofT hp) zkI,fun a z=>nomatch z⟩
 | .rng1 a, N, sc, e, X, G, h => by
   simp only[chkL] at h
   replace h:=zaf h
   obtain⟨⟨x,e1⟩,q,h⟩:=h
   obtain⟨p2,p,rfl⟩:=zbd q
   simp only[Bool.and_eq_true] at h
   obtain⟨⟨⟨hx,h1⟩,h2⟩,h3⟩:=h
   cases zbe hx
   have he:=zag a G h3
   exact⟨fun z=>(by cases z),fun z=>(by cases z),fun tg _=>zl7 (zbF G h1) he h2,fun a z=>by cases z;exact⟨e1,p2,p,rfl,zbF G h1,he,h2⟩⟩
 | .rng2 a b, N, sc, e, X, G, h => by
   simp only[chkL] at h
   replace h:=zaf h
   obtain⟨⟨x,args⟩,q,h⟩:=h
   obtain⟨p2,p,rfl⟩:=za1 q
   replace h:=zaf h
   obtain⟨⟨e1,e2⟩,q2,h⟩:=h
   cases two_inv q2
   simp only[Bool.and_eq_true] at h
   obtain⟨⟨⟨⟨⟨hx,h1⟩,h2⟩,h3⟩,h4⟩,h5⟩:=h
   cases zbe hx
   exact⟨fun z=>(by cases z),fun z=>(by cases z),fun tg _=>zl6 (zbF G h1) (zag a G h4) (zag b G h5) h2 h3,fun a z=>nomatch z⟩
 | .zip a b, N, sc, e, X, G, h => by
   simp only[chkL] at h
   replace h:=zaf h
   obtain⟨⟨x,args⟩,q,h⟩:=h
   obtain⟨p2,p,rfl⟩:=za1 q
   replace h:=zaf h
   obtain⟨⟨e1,e2⟩,q2,h⟩:=h
   cases two_inv q2
   simp only[Bool.and_eq_true] at h
   obtain⟨⟨⟨⟨⟨hx,h1⟩,h2⟩,h3⟩,h4⟩,h5⟩:=h
   cases zbe hx
   refine⟨fun z=>(by cases z),fun z=>(by cases z),fun tg ht=>?_,fun a z=>nomatch z⟩
   cases tg with
   |Tuple es j pt=>exact zn6 (zbF G h1) (zag a G h4) (zag b G h5) h2 h3
   |_=>cases ht
 | .comp nt js g it c e, N, sc, ex, X, G, h => by
   simp only[chkL] at h
   replace h:=zaf h
   obtain⟨⟨elt,gs,scope,p⟩,q,h⟩:=h
   cases zgM q
   replace h:=zaf h
   obtain⟨⟨tg,iter,ifs,asy⟩,q2,h⟩:=h
   cases zbN q2
   rw[Bool.and_eq_true,Bool.and_eq_true,Bool.and_eq_true,Bool.and_eq_true,Bool.and_eq_true,Bool.and_eq_true,Bool.and_eq_true,Bool.and_eq_true,decide_eq_true_eq,decide_eq_true_eq,decide_eq_true_eq] at h
   obtain⟨⟨⟨⟨⟨⟨⟨⟨h1,h2⟩,h3⟩,h4⟩,h5⟩,h6⟩,h7⟩,h8⟩,h9⟩:=h
   dsimp only at h1 h2 h3 h4 h5 h6 h7 h8 h9
   rw[Bool.and_eq_true] at h3
   subst h1 h5
   have ok:=zhj G h2
   have G':=zjk G (tgs:=zco tg) ok h6
   have ht:∀cl C fp s H pn,PTs (zaX X (capN X.N (zco tg) js) scope cl C fp s H pn) ifs (tT X.K cf c):=fun cl C fp s H pn=>by
    split at h8
    · rename_i ce
      cases List.isEmpty_iff.mp ce
      exact zgC (X:=zaX X (capN X.N (zco tg) js) scope cl C fp s H pn) h8
    · replace h8:=zaf h8
      obtain⟨t,q3,h8⟩:=h8
      cases zbN q3
      exact ziG (zbr c (G' cl C fp s H pn) h8).1
   have hp:PE X (.ListComp elt [⟨tg,iter,ifs,0⟩] scope p) (tLt X.K cf (.comp (zco tg).length js g it c e)):=
    PE.imp (zkq X.env.scope (zco tg) js G.calm rfl ok ((zb1 it G h4).2.2.1 tg h3.2) (fun cl C fp s H pn=>zlR (G' cl C fp s H pn) h7) ht (fun cl C fp s H pn=>zag e (G' cl C fp s H pn) h9) (zgh h3.1 X.env)) fun σ H Qv q=>zhi G.tab.frm q
   exact⟨fun _=>(PE.ofT hp),fun _=>hp,fun tg _=>zil (PE.ofT hp) zmZ,fun a z=>nomatch z⟩
end
end
end R
end
section
set_option maxHeartbeats 4000000
namespace R
open PySem PySem.Spec PyProof.Rows L2
variable [Mks]
section
variable {T:Tab} {cf:CF} {k:Nat}
theorem zl0 {N:List Str}{sc:Scope}{X:Cx}{rest:List Stmt}{p pos p2:Pos}(G:Gd T cf k N sc X){i:Nat}{x:Str}{l:CL}{elt:Expr}{gs:List Comprehension}{scope:Scope}{r:CS}(hi:N[i]?=some x)(hl:zfs sc x=true)(h:chkE T (.mkL l) N sc (.ListComp elt gs scope p2)=true)(hr:PSs X rest (tS X.K cf r)) :
  PSs X (.Assign [.Name x p] (.ListComp elt gs scope p2) pos::rest) (tS X.K cf (.asg i (.mkL l) r)):=by
 have hw:∃b,swapsWith (.ListComp elt gs scope p2) (some (.Name x p)) pos.line X.env=pure b:=⟨_,rfl⟩
 obtain⟨b,hw⟩:=hw
 cases b with
 | false =>
   refine PSs.imp (zbl (ziJ (i:=i) (by rw[G.nm];exact G.nd) (by rw[G.nm];exact hi) (G.lc hl).1 (zag (.mkL l) G h) hw (G.lc hl).2) hr) fun E σ H ⟨δ,ι,S,Q,hs,hh,w,lf⟩=>?_
   simp only[exS,zaa] at w
   refine tE.run hs hh w fun d v ι1 H1 S1 x1 hs1 hh1 r1 w1=>?_
   exact⟨δ.set i (some d),ι1,S1,Q,hs1.set r1 i,hh1,w1,lf.up x1⟩
 | true =>
   simp only[chkE] at h
   split at h
   · rename_i c0
     split at h
     · cases l with
       | comp nt js g it c e =>
         simp only[chkL] at h
         replace h:=zaf h
         obtain⟨⟨elt',gs',scope',p'⟩,q,h⟩:=h
         cases zgM q
         replace h:=zaf h
         obtain⟨⟨tg,iter,ifs,asy⟩,q2,h⟩:=h
         cases zbN q2
         rw[Bool.and_eq_true,Bool.and_eq_true,Bool.and_eq_true,Bool.and_eq_true,Bool.and_eq_true,Bool.and_eq_true,Bool.and_eq_true,Bool.and_eq_true,decide_eq_true_eq,decide_eq_true_eq,decide_eq_true_eq] at h
         obtain⟨⟨⟨⟨⟨⟨⟨⟨h1,h2⟩,h3⟩,h4⟩,h5⟩,h6⟩,h7⟩,h8⟩,h9⟩:=h
         dsimp only at h1 h2 h3 h4 h5 h6 h7 h8 h9
         rw[Bool.and_eq_true] at h3
         subst h1 h5
         have ok:=zhj G h2
         have G':=zjk G (tgs:=zco tg) ok h6
         have ht:∀cl C fp s H pn,PTs (zaX X (capN X.N (zco tg) js) scope cl C fp s H pn) ifs (tT X.K cf c):=fun cl C fp s H pn=>by
          split at h8
          · rename_i ce
            cases List.isEmpty_iff.mp ce
            exact zgC (X:=zaX X (capN X.N (zco tg) js) scope cl C fp s H pn) h8
          · replace h8:=zaf h8
            obtain⟨t,q3,h8⟩:=h8
            cases zbN q3
            exact ziG (zbr c (G' cl C fp s H pn) h8).1
         have he:∀cl C fp s H pn,PE (zaX X (capN X.N (zco tg) js) scope cl C fp s H pn) elt (tE X.K cf e):=fun cl C fp s H pn=>zag e (G' cl C fp s H pn) h9
         have hg:∀cl C fp s H pn,PG (zaX X (capN X.N (zco tg) js) scope cl C fp s H pn) tg (tG X.K g):=fun cl C fp s H pn=>zlR (G' cl C fp s H pn) h7
         have hps:=zmB (spos:=pos) (py:=p) (pos:=p2) X.env.scope (zco tg) js (i:=i) (y:=x) (by rw[G.nm];exact G.nd) (by rw[G.nm];exact hi) (G.lc hl).1 G.calm rfl ok ((zb1 it G h4).2.2.1 tg h3.2) hg ht he hw (zgh h3.1 X.env) (G.lc hl).2
         exact zl2 G hi ⟨_,hps,fun σ H Qv q=>zhi G.tab.frm (ziX q)⟩ hr
       |_=>cases c0
     · cases h
   · cases h
theorem znq {v:Expr}(h:zcb v=false){e:CE}{N:List Str}{sc:Scope}(hc:chkE T e N sc v=true):∃l elt gs scope p,v=.ListComp elt gs scope p/\e=.mkL l:=by
 cases v with
 | ListComp elt gs scope p =>
   cases e with
   |mkL l=>exact⟨l,elt,gs,scope,p,rfl,rfl⟩
   |_=>simp[chkE,zbH,zdt,ziA,rdUn,zfh,zc4,rdIf,zf4,zfg,zcU,zhA,zbk,zbu,zcq,zcC,zbM,zcr] at hc
 |SetComp=>cases e<;>simp[chkE,zbH,zdt,ziA,rdUn,zfh,zc4,rdIf,zf4,zfg,zcU,zhA,zbk,zbu,zcq,zcC,zbM,zcr,rdLC,chkL] at hc
 |DictComp=>cases e<;>simp[chkE,zbH,zdt,ziA,rdUn,zfh,zc4,rdIf,zf4,zfg,zcU,zhA,zbk,zbu,zcq,zcC,zbM,zcr,rdLC,chkL] at hc
 |_=>cases h
theorem zbE:∀(cs:CS) {N:List Str} {sc:Scope} {st:List Stmt} {X:Cx},Gd T cf k N sc X->chkS T cs N sc st=true->PSs X st (tS X.K cf cs)
 | .nil, N, sc, st, X, G, h => by
   simp only[chkS,List.isEmpty_iff] at h
   subst h
   exact zn1
 | .asg i e r, N, sc, st, X, G, h => by
   cases st with
   |nil=>simp[chkS] at h
   | cons s rest =>
     simp only[chkS] at h
     replace h:=zaf h
     obtain⟨⟨tg,v,pos⟩,q,h⟩:=h
     cases zdu q
     replace h:=zaf h
     obtain⟨x,q2,h⟩:=h
     obtain⟨p,hx⟩:=za7 q2
     dsimp only at hx
     subst hx
     simp only[Bool.and_eq_true,beq_iff_eq] at h
     obtain⟨⟨⟨h1,h2⟩,h3⟩,h4⟩:=h
     have hr:=zbE r G h4
     cases hn:zcb v with
     |true=>exact zn3 G h1 h2 (zag e G h3) hn hr
     | false =>
       obtain⟨l,elt,gs,scope,p2,rfl,rfl⟩:=znq hn h3
       exact zl0 G h1 h2 h3 hr
 | .asgT g e r, N, sc, st, X, G, h => by
   cases st with
   |nil=>simp[chkS] at h
   | cons s rest =>
     simp only[chkS] at h
     replace h:=zaf h
     obtain⟨⟨tg,v,pos⟩,q,h⟩:=h
     cases zdu q
     replace h:=zaf h
     obtain⟨es,q2,h⟩:=h
     obtain⟨j,p,hx⟩:=zdr q2
     dsimp only at hx
     subst hx
     simp only[Bool.and_eq_true,decide_eq_true_eq] at h
     obtain⟨⟨⟨⟨h1,h2⟩,h3⟩,h4⟩,h5⟩:=h
     obtain⟨x,hx⟩:=Option.isSome_iff_exists.mp h1
     obtain⟨p2,hv⟩:=za7 hx
     exact zl1 G h3 h2 (zag e G h4) ⟨x,p2,hv⟩ (zbE r G h5)
 | .setF a f e r, N, sc, st, X, G, h => by
   cases st with
   |nil=>simp[chkS] at h
   | cons s rest =>
     simp only[chkS] at h
     replace h:=zaf h
     obtain⟨⟨tg,v,pos⟩,q,h⟩:=h
     cases zdu q
     replace h:=zaf h
     obtain⟨⟨o,f',p⟩,q2,h⟩:=h
     have hx:=zci q2
     dsimp only at hx
     subst hx
     simp only[Bool.and_eq_true,decide_eq_true_eq] at h
     obtain⟨⟨⟨⟨⟨h1,h2⟩,h3⟩,h4⟩,h5⟩,h6⟩:=h
     subst h1
     exact zlY G h2 (zag a G h4) (zag e G h5) h3 (zbE r G h6)
 | .ifS c t u r, N, sc, st, X, G, h => by
   cases st with
   |nil=>simp[chkS] at h
   | cons s rest =>
     simp only[chkS] at h
     replace h:=zaf h
     obtain⟨⟨e,a,b⟩,q,h⟩:=h
     obtain⟨p,rfl⟩:=ziw q
     simp only[Bool.and_eq_true] at h
     exact zp1 (zbr c G h.1.1.1).1 (zbE t G h.1.1.2) (zbE u G h.1.2) (zbE r G h.2)
 | .forS g l b r, N, sc, st, X, G, h => by
   cases st with
   |nil=>simp[chkS] at h
   | cons s rest =>
     simp only[chkS] at h
     replace h:=zaf h
     obtain⟨⟨tg,it,body⟩,q,h⟩:=h
     obtain⟨p,rfl⟩:=zix q
     simp only[Bool.and_eq_true] at h
     obtain⟨⟨⟨⟨h1,h2⟩,h3⟩,h4⟩,h5⟩:=h
     exact zn2 G ((zb1 l G h2).2.2.1 tg h5.2) (zlR G h5.1) (zbE b G h3) h1 (zbE r G h4)
 | .ret e r, N, sc, st, X, G, h => by
   cases st with
   |nil=>simp[chkS] at h
   | cons s rest =>
     simp only[chkS] at h
     replace h:=zaf h
     obtain⟨v,q,h⟩:=h
     obtain⟨p,rfl⟩:=ziv q
     simp only[Bool.and_eq_true] at h
     exact zn0 (zag e G h.1) (zbE r G h.2)
 | .expr e r, N, sc, st, X, G, h => by
   cases st with
   |nil=>simp[chkS] at h
   | cons s rest =>
     simp only[chkS] at h
     replace h:=zaf h
     obtain⟨v,q,h⟩:=h
     obtain⟨p,rfl⟩:=ziy q
     simp only[Bool.and_eq_true] at h
     exact zlZ (zag e G h.1.2) h.1.1 (zbE r G h.2)
theorem RS.start {K:PySem.W.Frag}{ι:List Addr}{H:Hp}{F:Fn}{N:List Str}{ds:List D}{vs:List V}(r:RVs K ι H ds vs)(hl:ds.length=F.np)(hn:F.nn=N.length):RS K ι H (zbi F ds) (L2.start N vs):=by
 have hlen:=r.length
 refine⟨by simp[zbi,L2.start,hlen,hl,hn],fun i d e=>?_⟩
 unfold zbi at e
 unfold L2.start
 by_cases hi:i<ds.length
 · rw[List.getElem?_append_left (by simpa using hi),List.getElem?_map] at e
   rw[List.getElem?_append_left (by simpa[hlen] using hi),List.getElem?_map]
   cases z:ds[i]? with
   |none=>rw[z] at e;cases e
   | some d' =>
     rw[z] at e
     simp only[Option.map_some,Option.some.injEq] at e
     subst e
     obtain⟨v,ev,rv⟩:=r.get z
     exact⟨v,by rw[ev];rfl,rv⟩
 · rw[List.getElem?_append_right (by simpa using hi),List.getElem?_replicate] at e
   split at e<;>cases e
structure DefOk (K:PySem.W.Frag) (mg:Str->Option Value) (T:Tab) (Pg:List Fn) (fi:Nat) (x:Str) (ps:List Str) (nd:Nat):Prop where
 ex:∃(F:Fn) (qual:Str) (st:Stmt) (dV:Value) (f:Addr) (fd:FuncData) (N:List Str),Pg[fi]?=some F/\F.prim=none/\FunV K x qual st dV f fd/\FnScope N ps (zac st)/\chkS T F.body N (zac st) (zae st)=true/\F.np=ps.length/\F.nn=N.length/\
  mg x=some (.ref f)/\∀j,j<=nd->Binds K fd ps (List.replicate j Value.none)
theorem zmE {S:R.St}{p:Prim}{ds:List D}{d:D}{T':R.St}(h:prm S p ds=.ok d T'):Frm S T':=by
 unfold prm at h
 split at h
 · split at h
   · split at h
     · split at h
       · injection h with _ h2;rw[<-h2];exact Frm.push _ _
       · cases h
     · cases h
   · cases h
 · cases h
theorem zdL (Pg:List Fn):∀n:Nat,CFok (callF Pg n)
 |0,f,ds,S,d,T',h=>by cases h
 | n + 1, f, ds, S, d, T', h => by
   simp only[callF] at h
   cases e:Pg[f]? with
   |none=>rw[e] at h;cases h
   | some F =>
     rw[e] at h
     dsimp only at h
     split at h
     · cases ep:F.prim with
       | some p =>
         rw[ep] at h
         dsimp only at h
         split at h
         · exact zmE h
         · cases h
       |none=>
       rw[ep] at h
       dsimp only at h
       cases ex:exS (callF Pg n) F.body (zbi F ds) S with
       | ok r T2 =>
         rw[ex] at h
         have hf:=zdN (cf:=callF Pg n) (zdL Pg n) F.body (zbi F ds) S (fun r' T3=>r'=r/\T3=T2) (by rw[ex];exact⟨rfl,rfl⟩)
         rw[ex] at hf
         cases r with
         |nx δ=>injection h with _ h2;rw[<-h2];exact hf.2
         |rt z=>injection h with _ h2;rw[<-h2];exact hf.2
       |err z T2=>rw[ex] at h;cases h
       |bad=>rw[ex] at h;cases h
     · cases h
variable {P:Program} {w:World} {K:PySem.W.Frag} {mg:Str->Option Value} {base:Heap} {Pg:List Fn}
theorem Vals.nons:∀j:Nat,Vals (List.replicate j .non) (List.replicate j Value.none)
 |0=>.nil
 |j+1=>.cons rfl (Vals.nons j)
theorem zcS {n fi:Nat}{F:Fn}{ps:List Str}(hP:Pg[fi]?=some F)(hp:F.np=ps.length){vs:List V}{H:Hp}{Q:VK}{E:XK}(h:spF K (callF Pg n) fi vs H Q E):vs.length=ps.length:=by
 obtain⟨ι,S,ds,r,hh,w⟩:=h
 rw[r.length]
 cases n with
 |zero=>exact w.elim
 | succ n =>
   simp only[callF,hP] at w
   split at w
   · rename_i c;rw[c,hp]
   · exact w.elim
theorem zjs {n m fi:Nat}{x qual:Str}{st:Stmt}{dV:Value}{f:Addr}{fd:FuncData}{N ps:List Str}{F:Fn}(tab:TabOk T (callF Pg n) m P w K mg base)(FV:FunV K x qual st dV f fd)(hP:Pg[fi]?=some F)(S:FnScope N ps (zac st))(ck:chkS T F.body N (zac st) (zae st)=true)(hp:F.np=ps.length)(hn:F.nn=N.length)(hq:F.prim=none:=by rfl) :
  FnOk P w K mg base CX0 (m+2) f fd ps (spF K (callF Pg (n+1)) fi):=by
 refine FV.ok S (fun vs H Q E h=>zcS hP hp h) fun cdv A outer s H vs Q E hr h=>?_
 obtain⟨ι,S0,ds,r,hh,hw⟩:=h
 have G:Gd T (callF Pg n) m N (zac st) (cxOf CX0 P w K mg base N qual (zac st) f cdv A outer s H E).nox:=
  ⟨rfl,S.nd,fun x e=>e,fun x e=>e,fun x e=>.inl e,fun x e=>e,.inl fun _=>rfl,rfl,rfl,hr,tab⟩
 refine⟨_,zbE F.body G ck,?_⟩
 simp only[callF,hP,hq] at hw
 split at hw
 · rename_i c
   rw[zaa] at hw
   refine⟨zbi F ds,ι,S0,_,RS.start r c hn,hh,hw,?_⟩
   intro fl ι' H' S' x' hh' q
   cases fl with
   |nx δ'=>exact fun σ' hs'=>q .non H' ι' x' rfl hh'
   |rt d=>exact fun v rv=>q v H' ι' x' rv hh'
 · exact hw.elim
structure MOk (K:PySem.W.Frag) (T:Tab) (Pg:List Fn) (fi:Nat) (Ex:Addr->Prop):Prop where
 ex:∃(F:Fn) (x qual:Str) (st:Stmt) (dV:Value) (f:Addr) (fd:FuncData) (N ps:List Str),Pg[fi]?=some F/\F.prim=none/\FunV K x qual st dV f fd/\FnScope N ps (zac st)/\chkS T F.body N (zac st) (zae st)=true/\F.np=ps.length/\F.nn=N.length/\
  Binds K fd ps []/\Ex f
theorem zeF {fi:Nat}{Ex:Addr->Prop}(z:MOk K T Pg fi Ex):∃f fd ps,Ex f/\PySem.W.keepIn K (.ref f)=true/\Binds K fd ps []/\FnOk P w K mg base CX0 0 f fd ps (spF K (callF Pg 0) fi):=by
 obtain⟨F,x,qual,st,dV,f,fd,N,ps,hP,hq,FV,S,ck,hp,hn,hb,e⟩:=z.ex
 refine⟨f,fd,ps,e,FV.kp,hb,⟨fun vs H Q E h=>zcS hP hp h,fun A outer s H args us vs Q E hr e0 b v h=>?_⟩⟩
 obtain⟨ι,S,ds,r,hh,w⟩:=h
 exact w.elim
theorem zeG {n m fi:Nat}{Ex:Addr->Prop}(tab:TabOk T (callF Pg n) m P w K mg base)(z:MOk K T Pg fi Ex):∃f fd ps,Ex f/\PySem.W.keepIn K (.ref f)=true/\Binds K fd ps []/\FnOk P w K mg base CX0 (m+2) f fd ps (spF K (callF Pg (n+1)) fi):=by
 obtain⟨F,x,qual,st,dV,f,fd,N,ps,hP,hq,FV,S,ck,hp,hn,hb,e⟩:=z.ex
 exact⟨f,fd,ps,e,FV.kp,hb,zjs tab FV hP S ck hp hn hq⟩
noncomputable def ExM (K:PySem.W.Frag)(c:Nat)(m:Str)(f:Addr):Prop:=∃C,Mks.cl[c]?=some C/\Cls K C/\Meth K C m f
noncomputable def ExI (K:PySem.W.Frag)(c:Nat)(f:Addr):Prop:=∃C,Mks.cl[c]?=some C/\Mk K C f
noncomputable def ExC (K:PySem.W.Frag)(mg:Str->Option Value)(x m:Str)(f:Addr):Prop:=∃(C:Addr) (mc:Value),mg x=some (.ref C)/\PySem.W.specialIn K (.ref C) "__getattribute__"=some (some (.builtin "type.__getattribute__"))/\PySem.W.readsIn K C mc=true/\PySem.W.findCls K (.ref C) mc m=some (.val (.ref f))
structure ClsOk (T:Tab) (K:PySem.W.Frag) (mg:Str->Option Value) (Pg:List Fn):Prop where
 cls:∀(c:Nat) (x:Str),T.cls[c]?=some x->∃C,Mks.cl[c]?=some C/\Cls K C/\mg x=some (.ref C)/\∀f,T.flds.contains f=true->NoAttr K C f
 mth:∀(c:Nat) (m:Str) (fi:Nat),T.mts.contains (c,m,fi)=true->MOk K T Pg fi (ExM K c m)
 ini:∀(c fi:Nat),T.inits.contains (c,fi)=true->MOk K T Pg fi (ExI K c)
 cmd:∀(x m:Str) (fi:Nat),T.cms.contains (x,m,fi)=true->MOk K T Pg fi (ExC K mg x m)
 cln:Mks.cl.length<=T.cls.length
 isa:∀(x:Str) (cs:List Nat),T.isas.contains (x,cs)=true->∃D,mg x=some (.ref D)/\∀c C,Mks.cl[c]?=some C->IsaOk K C/\PySem.W.kitOne K (.ref C) (.ref D)=some (cs.contains c)
theorem zjf {k c fi:Nat}{m:Str}(h:∃f fd ps,ExM K c m f/\PySem.W.keepIn K (.ref f)=true/\Binds K fd ps []/\FnOk P w K mg base CX0 k f fd ps (spF K cf fi)):HasM P w K mg base k c m (spF K cf fi):=by
 obtain⟨f,fd,ps,⟨C,h1,h2,h3⟩,_,h4,h5⟩:=h
 exact⟨C,f,fd,ps,h1,h2,h3,h5,h4⟩
theorem zjg {k c fi:Nat}(h:∃f fd ps,ExI K c f/\PySem.W.keepIn K (.ref f)=true/\Binds K fd ps []/\FnOk P w K mg base CX0 k f fd ps (spF K cf fi)):HasI P w K mg base k c (spF K cf fi):=by
 obtain⟨f,fd,ps,⟨C,h1,h2⟩,_,h4,h5⟩:=h
 exact⟨C,f,fd,ps,h1,h2,h5,h4⟩
theorem zjh {k fi:Nat}{x m:Str}(h:∃f fd ps,ExC K mg x m f/\PySem.W.keepIn K (.ref f)=true/\Binds K fd ps []/\FnOk P w K mg base CX0 k f fd ps (spF K cf fi)):HasC P w K mg base k x m (spF K cf fi):=by
 obtain⟨f,fd,ps,⟨C,mc,h1,h2,h3,h6⟩,h7,h4,h5⟩:=h
 exact⟨C,f,fd,ps,mc,h1,h2,h3,h6,h7,h5,h4⟩
structure PrimOk (P:Program) (w:World) (K:PySem.W.Frag) (mg:Str->Option Value) (base:Heap) (Pg:List Fn) (fi:Nat) (x:Str) (ps:List Str) (nd:Nat):Prop where
 ex:∃(F:Fn) (p:Prim) (f:Addr) (fd:FuncData),Pg[fi]?=some F/\F.prim=some p/\F.np=ps.length/\mg x=some (.ref f)/\PySem.W.keepIn K (.ref f)=true/\(∀j,j<=nd->Binds K fd ps (List.replicate j Value.none))/\
  ∀n,3<=n->FnOk P w K mg base CX0 (n+2) f fd ps (spF K (callF Pg (n+1)) fi)
theorem znR (hb:∀x,T.blt.contains x=true->mg x=none)(hc:∀x d,T.cons.lookup x=some d->zj4 d=true/\∃u,mg x=some u/\RelV (sV d) u)(hd:∀fi x ps nd,T.fns[fi]?=some (x,ps,nd)->DefOk K mg T Pg fi x ps nd\/PrimOk P w K mg base Pg fi x ps nd)(hk:ClsOk T K mg Pg) :
  ∀n,TabOk T (callF Pg n) (2 * n) P w K mg base:=by
 intro n
 induction n with
 | zero =>
   refine⟨hb,hc,fun fi x ps nd hf j hj=>?_,zdL Pg 0,hk.cls,fun c m fi h=>zjf (zeF (hk.mth c m fi h)),fun c fi h=>zjg (zeF (hk.ini c fi h)),fun x m fi h=>zjh (zeF (hk.cmd x m fi h)),fun _=>hk.cln,hk.isa⟩
   rcases hd fi x ps nd hf with z|z
   · obtain⟨F,qual,st,dV,f,fd,N,hP,hq,FV,S,ck,hp,hn,hm,hbd⟩:=z.ex
     refine⟨f,fd,_,⟨fun vs H Q E h=>zcS hP hp h,fun A outer s H args us vs Q E hr e0 b v h=>?_⟩,hm,FV.kp,hbd j hj,Vals.nons j⟩
     obtain⟨ι,S,ds,r,hh,w⟩:=h
     exact w.elim
   · obtain⟨F,p,f,fd,hP,hq,hp,hm,kp,hbd,ok⟩:=z.ex
     refine⟨f,fd,_,⟨fun vs H Q E h=>zcS hP hp h,fun A outer s H args us vs Q E hr e0 b v h=>?_⟩,hm,kp,hbd j hj,Vals.nons j⟩
     obtain⟨ι,S,ds,r,hh,w⟩:=h
     exact w.elim
 | succ n ih =>
   refine⟨hb,hc,fun fi x ps nd hf j hj=>?_,zdL Pg (n+1),hk.cls,fun c m fi h=>zjf (zeG ih (hk.mth c m fi h)),fun c fi h=>zjg (zeG ih (hk.ini c fi h)),fun x m fi h=>zjh (zeG ih (hk.cmd x m fi h)),fun _=>hk.cln,hk.isa⟩
   rcases hd fi x ps nd hf with z|z
   · obtain⟨F,qual,st,dV,f,fd,N,hP,hq,FV,S,ck,hp,hn,hm,hbd⟩:=z.ex
     refine⟨f,fd,_,?_,hm,FV.kp,hbd j hj,Vals.nons j⟩
     exact zjs ih FV hP S ck hp hn hq
   · obtain⟨F,p,f,fd,hP,hq,hp,hm,kp,hbd,ok⟩:=z.ex
     refine⟨f,fd,_,?_,hm,kp,hbd j hj,Vals.nons j⟩
     by_cases c:3<=n
     · exact (ok n c).mono (by omega)
     · refine⟨fun vs H Q E h=>zcS hP hp h,fun A outer s H args us vs Q E hr e0 b v h=>?_⟩
       obtain⟨ι,S,ds,r,hh,w⟩:=h
       simp only[callF,hP,hq,c,if_false] at w
       split at w<;>exact w.elim
noncomputable def zjM {α:Type}(P:Nat->α->Prop):Nat->List α->Prop
 |_,[]=>True
 |k,a::r=>P k a/\zjM P (k+1) r
theorem zlK {α:Type}{P:Nat->α->Prop}:∀{l:List α} {k:Nat},zjM P k l->∀(i:Nat) (a:α),l[i]?=some a->P (k+i) a
 | [],_,_,i,a,h=>by simp at h
 |b::r,k,q,0,a,h=>by cases h;exact q.1
 | b :: r, k, q, i + 1, a, h => by
   have:=zlK q.2 i a (by simpa using h)
   rwa [Nat.add_right_comm] at this
theorem AllAt.get {α:Type}{P:Nat->α->Prop}{l:List α}(q:zjM P 0 l)(i:Nat)(a:α)(h:l[i]?=some a):P i a:=Nat.zero_add i▸zlK q i a h
noncomputable def zlM {α:Type}(P:α->Prop):List α->Prop
 | []=>True
 |a::r=>P a/\zlM P r
theorem AllIn.get {α:Type}[BEq α][LawfulBEq α]{P:α->Prop}:∀{l:List α},zlM P l->∀a,l.contains a=true->P a
 | [],_,a,h=>by simp at h
 | b :: r, q, a, h => by
   rw[List.contains_cons,Bool.or_eq_true] at h
   rcases h with h|h
   · rw[eq_of_beq h];exact q.1
   · exact AllIn.get q.2 a h
theorem law_spT {k fi:Nat}{K:PySem.W.Frag}{H:Hp}{a:Addr}{ns:List Int}(hx:FixL K H a (ns.map V.int))(tb:TB H)
  (law:W (callF Pg k fi [.fix (ns.map .int)] ⟨[],[],[]⟩) fun d _=>d=.bl true):spF K (callF Pg k) fi [.ref a] H (fun v _=>v=.bl true) fun _ _ _=>False:=by
 refine⟨[],⟨[],[],[]⟩,[.fix (ns.map .int)],⟨.ref a,[],rfl,⟨a,_,rfl,hx,RVs.ints ns⟩,rfl⟩,⟨rfl,List.nodup_nil,fun l o e=>(by simp[St.get] at e),tb⟩,?_⟩
 obtain⟨d,T',e,q⟩:=zfR law
 rw[e]
 intro v H' ι' x r hT
 subst q
 exact r
end
end R
end
section
namespace R
open PySem PySem.W PyProof.Rows
section
variable {n:Nat} {r:Nat->Int} {cmp:Nat->Nat->(Bool->Shared->Prop)->Shared->Prop} {s:Shared}
noncomputable abbrev GP (n:Nat)(p:Array Nat):Prop:=p.Perm (List.range n).toArray
noncomputable def kAt (r:Nat->Int)(p:Array Nat)(i:Nat):Int:=r (p.getD i 0)
noncomputable def AscTo (r:Nat->Int)(p:Array Nat)(k:Nat):Prop:=∀i j,i<j->j<k->kAt r p i<kAt r p j
noncomputable def DescTo (r:Nat->Int)(p:Array Nat)(k:Nat):Prop:=∀i j,i<j->j<k->kAt r p j<kAt r p i
theorem GP.size {p:Array Nat}(h:GP n p):p.size=n:=by
 have:=h.size_eq
 simpa using this
theorem GP.list {p:Array Nat}(h:GP n p):p.toList.Perm (List.range n):=by
 have:=Array.perm_iff_toList_perm.mp h
 simpa using this
theorem zbD (p:Array Nat){i:Nat}(hi:i<p.size):p.getD i 0=p.toList[i]'(by simpa using hi):=by
 simp[Array.getD,hi]
theorem GP.lt {p:Array Nat}(h:GP n p){i:Nat}(hi:i<n):p.getD i 0<n:=by
 have hs:=h.size
 rw[zbD p (by omega)]
 exact List.mem_range.mp (h.list.mem_iff.mp (List.getElem_mem _))
theorem GP.inj {p:Array Nat}(h:GP n p)(hr:∀i j,i<n->j<n->r i=r j->i=j){i j:Nat}(hi:i<n)(hj:j<n)(e:kAt r p i=kAt r p j):i=j:=by
 have e':=hr _ _ (h.lt hi) (h.lt hj) e
 have hs:=h.size
 rw[zbD p (by omega),zbD p (by omega)] at e'
 have nd:p.toList.Nodup:=h.list.nodup_iff.mpr List.nodup_range
 have pw:=List.pairwise_iff_getElem.mp nd
 rcases Nat.lt_trichotomy i j with z|z|z
 · exact absurd e' (pw i j _ _ z)
 · exact z
 · exact absurd e'.symm (pw j i _ _ z)
theorem GP.tri {p:Array Nat}(h:GP n p)(hr:∀i j,i<n->j<n->r i=r j->i=j){i j:Nat}(hi:i<n)(hj:j<n)(ne:i≠j)(c:¬kAt r p i<kAt r p j):kAt r p j<kAt r p i:=by
 have:kAt r p i≠kAt r p j:=fun e=>ne (h.inj hr hi hj e)
 omega
theorem AscTo.snoc {p:Array Nat}{k:Nat}(h:AscTo r p k)(h1:1<=k)(c:kAt r p (k - 1)<kAt r p k):AscTo r p (k+1):=by
 intro i j hij hj
 by_cases e:j<k
 · exact h i j hij e
 · have:j=k:=by omega
   subst this
   by_cases e':i=j - 1
   · subst e';exact c
   · have:=h i (j - 1) (by omega) (by omega)
     omega
theorem DescTo.snoc {p:Array Nat}{k:Nat}(h:DescTo r p k)(h1:1<=k)(c:kAt r p k<kAt r p (k - 1)):DescTo r p (k+1):=by
 intro i j hij hj
 by_cases e:j<k
 · exact h i j hij e
 · have:j=k:=by omega
   subst this
   by_cases e':i=j - 1
   · subst e';exact c
   · have:=h i (j - 1) (by omega) (by omega)
     omega
variable (hr:∀i j,i<n->j<n->r i=r j->i=j) (hc:∀i j (C:Bool->Shared->Prop),i<n->j<n->C (decide (r i<r j)) s->cmp i j C s)
include hr hc
theorem zjF {p:Array Nat}(g:GP n p){Q:Nat->Shared->Prop}:∀(f a:Nat),1<=a->a+f<=n->AscTo r p a->
  (∀m,a<=m->m<=a+f->AscTo r p m->(m=a+f\/kAt r p m<kAt r p (m - 1))->Q m s)->(kas_asc p f a).kasWp cmp Q s
 |0,a,_,_,h,q=>q a (Nat.le_refl _) (Nat.le_refl _) h (.inl rfl)
 | f + 1, a, h1, h2, h, q => by
   refine hc _ _ _ (g.lt (by omega)) (g.lt (by omega)) ?_
   by_cases c:kAt r p a<kAt r p (a - 1)
   · have e:decide (r (p.getD a 0)<r (p.getD (a - 1) 0))=true:=decide_eq_true c
     show (if decide (r (p.getD a 0)<r (p.getD (a - 1) 0))=true then KasT.ret a else kas_asc p f (a+1)).kasWp cmp Q s
     rw[if_pos e]
     exact q a (Nat.le_refl _) (by omega) h (.inr c)
   · have e:¬decide (r (p.getD a 0)<r (p.getD (a - 1) 0))=true:=fun z=>c (of_decide_eq_true z)
     show (if decide (r (p.getD a 0)<r (p.getD (a - 1) 0))=true then KasT.ret a else kas_asc p f (a+1)).kasWp cmp Q s
     rw[if_neg e]
     refine zjF g f (a+1) (by omega) (by omega) (h.snoc h1 (g.tri hr (by omega) (by omega) (by omega) c)) fun m m1 m2 m3 m4=>q m (by omega) (by omega) m3 ?_
     rcases m4 with z|z
     · exact .inl (by omega)
     · exact .inr z
theorem zjr {p:Array Nat}(g:GP n p){Q:Array Nat × Nat × Nat->Shared->Prop}:∀(f a:Nat),1<=a->a+f<=n->DescTo r p a->
  (∀m,a<=m->m<=a+f->DescTo r p m->Q (p,m,0) s)->(kas_desc f p a 0).kasWp cmp Q s
 |0,a,_,_,h,q=>q a (Nat.le_refl _) (Nat.le_refl _) h
 | f + 1, a, h1, h2, h, q => by
   refine hc _ _ _ (g.lt (by omega)) (g.lt (by omega)) ?_
   by_cases c:kAt r p a<kAt r p (a - 1)
   · have e:decide (r (p.getD a 0)<r (p.getD (a - 1) 0))=true:=decide_eq_true c
     rw[e]
     show (kas_desc f p (a+1) 0).kasWp cmp Q s
     exact zjr g f (a+1) (by omega) (by omega) (h.snoc h1 c) fun m m1 m2 m3=>q m (by omega) (by omega) m3
   · have e:decide (r (p.getD a 0)<r (p.getD (a - 1) 0))=false:=decide_eq_false c
     rw[e]
     refine hc _ _ _ (g.lt (by omega)) (g.lt (by omega)) ?_
     have c':=g.tri hr (by omega) (by omega) (by omega) c
     have e':decide (r (p.getD (a - 1) 0)<r (p.getD a 0))=true:=decide_eq_true c'
     rw[e']
     exact q a (Nat.le_refl _) (by omega) h
omit hr hc in
theorem GP.rev {p:Array Nat}(g:GP n p)(i j:Nat):GP n (kas_rev p i j):=(mirror_perm _ _ _ _).trans g
omit hr hc in
theorem zi5 {p:Array Nat}(g:GP n p){m i:Nat}(hm:m<=n)(hi:i<m):kAt r (kas_rev p 0 m) i=kAt r p (m - 1 - i):=by
 have hs:=g.size
 have e:=getElem?_mirror_all (xs:=p) (i:=0) (j:=m) (by omega) i
 unfold kAt kas_rev
 congr 1
 have a1:(mirror p 0 m ((m - 0) / 2)).getD i 0=((mirror p 0 m ((m - 0) / 2))[i]?).getD 0:=by simp[Array.getD_eq_getD_getElem?]
 have a2:p.getD (m - 1 - i) 0=(p[m - 1 - i]?).getD 0:=by simp[Array.getD_eq_getD_getElem?]
 rw[a1,a2]
 congr 1
 rw[e]
 have h1:0<=i/\i<m:=⟨Nat.zero_le _,hi⟩
 simp[h1,hi]
 try (congr 1;omega)
omit hr hc in
theorem DescTo.rev {p:Array Nat}{m:Nat}(g:GP n p)(hm:m<=n)(h:DescTo r p m):AscTo r (kas_rev p 0 m) m:=by
 intro i j hij hj
 rw[zi5 g hm (by omega),zi5 g hm hj]
 exact h _ _ (by omega) (by omega)
theorem zk0 {p:Array Nat}(g:GP n p)(h1:1<=n){Q:Nat × Array Nat->Shared->Prop}(q:∀m p',1<=m->m<=n->GP n p'->AscTo r p' m->Q (m,p') s):(kas_count n p).kasWp cmp Q s:=by
 unfold kas_count
 rw[KasT.kasWp_bind]
 refine zjF hr hc g (n - 1) 1 (Nat.le_refl _) (by omega) (fun i j _ _=>by omega) fun m m1 m2 m3 m4=>?_
 by_cases e:m=n
 · subst e
   simp only[beq_self_eq_true,if_true]
   exact q m p m1 (Nat.le_refl _) g m3
 · rw[if_neg (by simpa using e)]
   have c:=m4.resolve_left (by omega)
   by_cases e1:m > 1
   · have:=m3 (m - 1 - 1) (m - 1) (by omega) (by omega)
     rw[if_pos e1]
     refine hc _ _ _ (g.lt (by omega)) (g.lt (by omega)) ?_
     have c1:kAt r p 0<kAt r p (m - 1):=m3 0 (m - 1) (by omega) (by omega)
     have e2:decide (r (p.getD 0 0)<r (p.getD (m - 1) 0))=true:=decide_eq_true c1
     rw[e2]
     exact q m p m1 (by omega) g m3
   · rw[if_neg e1]
     have e2:m=1:=by omega
     subst e2
     unfold kas_descPart
     rw[KasT.kasWp_bind]
     have d2:DescTo r p (1+1):=by
      intro i j hij hj
      have:i=0/\j=1:=by omega
      obtain⟨rfl,rfl⟩:=this
      exact c
     refine zjr hr hc g (n - (1+1)) (1+1) (by omega) (by omega) d2 fun k k1 k2 k3=>?_
     show (kas_tail3 k n p).kasWp cmp Q s
     unfold kas_tail3
     rw[KasT.kasWp_bind]
     refine zjF hr hc (g.rev 0 k) (n - k) k (by omega) (by omega) (k3.rev g (by omega)) fun j j1 j2 j3 _=>?_
     exact q j _ (by omega) (by omega) (g.rev 0 k) j3
theorem zeC {p:Array Nat}(g:GP n p){k:Nat}(hk:k<n)(ha:AscTo r p k){Q:Nat->Shared->Prop}:∀(f l t:Nat),l<=t->t<=k->t - l<=f->(∀i,i<l->kAt r p i<kAt r p k)->(∀i,t<=i->i<k->kAt r p k<kAt r p i)->
  (∀l,l<=k->(∀i,i<l->kAt r p i<kAt r p k)->(∀i,l<=i->i<k->kAt r p k<kAt r p i)->Q l s)->(kas_place p k f l t).kasWp cmp Q s
 |0,l,t,h1,h2,h3,a,b,q=>q l (by omega) a fun i hi hik=>b i (by omega) hik
 | f + 1, l, t, h1, h2, h3, a, b, q => by
   unfold kas_place
   by_cases e:l≥t
   · rw[if_pos e]
     exact q l (by omega) a fun i hi hik=>b i (by omega) hik
   · rw[if_neg e]
     refine hc _ _ _ (g.lt hk) (g.lt (by omega)) ?_
     by_cases c:kAt r p k<kAt r p ((l+t) / 2)
     · have e':decide (r (p.getD k 0)<r (p.getD ((l+t) / 2) 0))=true:=decide_eq_true c
       rw[e']
       refine zeC g hk ha f l ((l+t) / 2) (by omega) (by omega) (by omega) a (fun i hi hik=>?_) q
       by_cases z:i=(l+t) / 2
       · rw[z];exact c
       · have:=ha ((l+t) / 2) i (by omega) hik
         omega
     · have e':decide (r (p.getD k 0)<r (p.getD ((l+t) / 2) 0))=false:=decide_eq_false c
       rw[e']
       have c':=g.tri hr hk (by omega) (by omega) c
       refine zeC g hk ha f ((l+t) / 2+1) t (by omega) h2 (by omega) (fun i hi=>?_) b q
       by_cases z:i=(l+t) / 2
       · rw[z];exact c'
       · have:=ha i ((l+t) / 2) (by omega) (by omega)
         omega
omit hr hc in
theorem zed {p:Array Nat}(g:GP n p){k l:Nat}(hk:k<n)(hl:l<=k)(i:Nat):kAt r (bubble p k (k - l)) i=if i=l then kAt r p k else if l<i/\i<=k then kAt r p (i - 1) else kAt r p i:=by
 have hs:=g.size
 have e:=getElem?_bubble (xs:=p) (src:=k) (by omega) (k - l) (by omega) i
 have a0:∀(q:Array Nat) (j:Nat),q.getD j 0=(q[j]?).getD 0:=fun q j=>by simp[Array.getD_eq_getD_getElem?]
 unfold kAt
 rw[a0,e]
 have hl':k - (k - l)=l:=by omega
 rw[hl']
 split
 · rw[a0]
 · split
   · rw[a0]
   · rw[a0]
omit hr hc in
theorem zh0 {p:Array Nat}(g:GP n p){k l:Nat}(hk:k<n)(hl:l<=k)(ha:AscTo r p k)(a:∀i,i<l->kAt r p i<kAt r p k)(b:∀i,l<=i->i<k->kAt r p k<kAt r p i):AscTo r (bubble p k (k - l)) (k+1):=by
 intro i j hij hj
 rw[zed g hk hl,zed g hk hl]
 by_cases i1:i=l
 · rw[if_pos i1,if_neg (by omega),if_pos (by omega)]
   exact b _ (by omega) (by omega)
 · rw[if_neg i1]
   by_cases i2:l<i/\i<=k
   · rw[if_pos i2,if_neg (by omega),if_pos (by omega)]
     exact ha _ _ (by omega) (by omega)
   · rw[if_neg i2]
     by_cases j1:j=l
     · rw[if_pos j1];exact a _ (by omega)
     · rw[if_neg j1]
       by_cases j2:l<j/\j<=k
       · rw[if_pos j2]
         by_cases z:i=j - 1
         · omega
         · exact ha _ _ (by omega) (by omega)
       · rw[if_neg j2];exact ha _ _ hij (by omega)
theorem zlH {Q:Array Nat->Shared->Prop}:∀(f k:Nat) (p:Array Nat),k+f=n->1<=k->GP n p->AscTo r p k->(∀p',GP n p'->AscTo r p' n->Q p' s)->(kas_bin f p k).kasWp cmp Q s
 |0,k,p,e,_,g,a,q=>q p g (by rw[show n=k by omega];exact a)
 | f + 1, k, p, e, h1, g, a, q => by
   unfold kas_bin
   rw[KasT.kasWp_bind]
   refine zeC hr hc g (by omega) a k 0 k (by omega) (Nat.le_refl _) (by omega) (fun i hi=>by omega) (fun i hi hik=>by omega) fun l l1 l2 l3=>?_
   exact zlH f (k+1) _ (by omega) (by omega) ((bubble_perm _ _ _).trans g) (zh0 g (by omega) l1 a l2 l3) q
theorem zl3 (h1:1<=n){Q:Array Nat->Shared->Prop}(q:∀p,GP n p->AscTo r p n->Q p s):(kas_sort n).kasWp cmp Q s:=by
 unfold kas_sort
 rw[KasT.kasWp_bind]
 refine zk0 hr hc (Array.Perm.refl _) h1 fun m p' m1 m2 g a=>?_
 show (if m<n then kas_bin (n - max m 1) p' (max m 1) else KasT.ret p').kasWp cmp Q s
 have em:max m 1=m:=by omega
 rw[em]
 by_cases e:m<n
 · rw[if_pos e]
   exact zlH hr hc (n - m) m p' (by omega) m1 g a q
 · rw[if_neg e]
   exact q p' g (by rw[show n=m by omega];exact a)
end
end R
end
section
namespace R
open PySem PySem.Spec PyProof.Rows L2
variable [Mks]
theorem zm1 {CX:CXT}{P:Program}{w:World}{K:PySem.W.Frag}{mg:Str->Option Value}{base:Heap}{k:Nat}{f c':Addr}{name qual:Str}{params:Arguments}{body:Expr}{scope:Scope}{pm ct:Value}{N ps:List Str}
  {A:Around} {outer:List Env} {s:Shared} {H:Hp} {args:Args} {us:List Value} {vs:List V} {Q:VK} {E:XK} {t:TE} (S:FnScope N ps scope) (hr:Room (k+1) A) (e0:Env0 P w K mg base A outer s H)
  (ho:s.heap.get? f=some (PySem.W.kla_obj name qual params body scope [] pm c' ct)) (hcd:s.heap.CodeRec (.ref c') qual)
  (hb:BindsTo s (PySem.W.kla_fn name qual params body scope [] pm (.ref c') ct) args (ps.zip us)) (r:Vals vs us) (hl:vs.length=ps.length)
  (ht:Room k (A.deeper (envOfC qual scope s.heap.objs.size f (.ref c')))->PE (cxOf CX P w K mg base N qual scope f (.ref c') A outer s H E) body t) (hq:t (start N vs) H Q) :
  codeAny (model P w) A (.call (.ref f) args) (CR CX outer P w H s Q E) s:=by
 have lim:s.heap.NoLimit:=e0.mod.nolimit.keeps fun b o e=>(e0.bs b o e).1
 have kinds:∀y∈ps.zip us,scope.names.lookup y.1=some .local\/(scope.names.lookup y.1=some .cell/\((cellsFrom (s.heap.objs.size+1) scope.names []).lookup y.1).isSome=true):=fun⟨x,v⟩ hy=>
  (S.par x (List.of_mem_zip hy).1).elim .inl fun q=>.inr ⟨q,PySem.W.cellsFrom_some _ _ _ (.inl q)⟩
 refine PySem.W.kla_callFunE hr.depth ho rfl S.co S.gen rfl hcd (hb _ _ _ _ ?_)
 refine wpAny_newFunctionEnv_cells S.kind kinds fun env he s1 x=>?_
 subst he
 refine⟨lim.keeps x.toInCall.keep,PySem.W.kla_codeExpr ?_⟩
 have I:Inv (cxOf CX P w K mg base N qual scope f (.ref c') A outer s H E) [] (start N vs) H s1:=zft S hr.hd e0 hl r x
 exact wpAny_mono (ht (hr.deeper _) [] s1 (start N vs) H _ I hq) (fun u s' ⟨v,H',J,rv,q⟩=>⟨v,H',J.os,J.bare,J.base,J.hok,rv,q⟩) fun e s' hs=>hs
end R
end
section
namespace R
open PySem PySem.Spec PyProof.Rows L2
variable [Mks]
noncomputable def zc9:CE:=.tup (.cons (.neg (.ix (.loc 0) (.con (.int 1)))) (.cons (.ix (.loc 0) (.con (.int 0))) .nil))
noncomputable def zcc:Tab:={blt:=[],cons:=[],fns:=[]}
noncomputable def noCF:CF:=fun _ _ _=>.bad
theorem zkC {k:Nat}{P:Program}{w:World}{K:PySem.W.Frag}{mg:Str->Option Value}{base:Heap}:TabOk zcc noCF k P w K mg base:=
 ⟨fun x h=>(by cases h),fun x d h=>(by cases h),fun f x ps nd h=>(by simp[zcc] at h),fun f ds S d T' h=>(by cases h),fun c x h=>(by simp[zcc] at h),fun c m f h=>(by simp[zcc] at h),fun c f h=>(by simp[zcc] at h),fun x m f h=>(by simp[zcc] at h),fun h=>(by simp[zcc] at h),fun x cs h=>(by simp[zcc] at h)⟩
theorem zpr (S:R.St)(k v:Int):evE noCF zc9 [some (.tup [.int k,.int v])] S=.ok (.tup [.int (-v),.int k]) S:=by
 simp[zc9,evE,evEs,lift,Out.bind,zcz,atI,ixN]
structure LamAt (H:Hp) (f:Addr) (name qual:Str) (params:Arguments) (body:Expr) (scope:Scope):Prop where
 ex:∃(pm ct:Value) (c':Addr) (oc:Obj) (vs:Array Value) (t:Tok),H f=some (.frz (PySem.W.kla_obj name qual params body scope [] pm c' ct) (.own 0))/\H c'=some (.frz oc (.own 0))/\oc.data=.fields vs/\vs[1]?=some (.str qual t)
theorem LamAt.up {H H':Hp}{f:Addr}{name qual:Str}{params:Arguments}{body:Expr}{scope:Scope}(L:LamAt H f name qual params body scope)(k:Kp H H'):LamAt H' f name qual params body scope:=by
 obtain⟨pm,ct,c',oc,vs,t,h1,h2,h3⟩:=L.ex
 exact⟨pm,ct,c',oc,vs,t,k.frzs _ _ _ h1,k.frzs _ _ _ h2,h3⟩
theorem zou {K:PySem.W.Frag}{H:Hp}(tb:TB H):RH K [] H ⟨[],[],[]⟩:=⟨rfl,List.nodup_nil,fun l o h=>(by simp[St.get] at h),tb⟩
theorem zkM {X:Cx}{pins:List (Addr × Obj)}{σ:L2.St}{H:Hp}{s:Shared}{A':Around}{f a:Addr}{name qual:Str}{params:Arguments}{body:Expr}{scope:Scope}{k v:Int}{u:Value}(I:Inv X pins σ H s)(hr:Room 2 A')
  (e0:Env0 X.prog X.w X.K X.mg X.base A' X.stack s H) (L:LamAt H f name qual params body scope) (hs:FnScope ["row"] ["row"] scope)
  (hb:∀(pm cd ct:Value),bindArgs (PySem.W.kla_fn name qual params body scope [] pm cd ct) ⟨[u],[]⟩=pure [(("row":Str),u)]) (ck:chkE zcc zc9 ["row"] scope body=true)
  (tb:TB H) (ha:H a=some (.tup [.int k,.int v])) (hu:L2.RelV (.ref a) u) :
  wpAny (model X.prog X.w) A' (call (.ref f) [u]) (fun y s'=>∃b H',y=.ref b/\Inv X pins σ H' s'/\H' b=some (.tup [.int (-v),.int k])/\Ext [] H [] H'/\Un (frs X.stack) [] H H' s.heap s'.heap) (fun _ _=>False) s:=by
 obtain⟨pm,ct,c',oc,vs,t,h1,h2,h3,h4⟩:=L.ex
 have of:=(I.hok f _ h1).1
 have oo:=(I.hok c' _ h2).1
 refine wpAny_call (codeAny_mono (zm1 (CX:=CX0) (E:=fun _ _ _=>False) (Q:=fun w H'=>∃b,w=V.ref b/\H' b=some (.tup [.int (-v),.int k])/\Ext [] H [] H') (vs:=[V.ref a]) (us:=[u]) (t:=tE X.K noCF zc9) hs hr e0 of ⟨c',oc,vs,t,rfl,oo,h3,h4⟩
  (.of_eq (hb pm _ ct)) (.cons hu .nil) rfl (fun hr'=>PE.nox (zag zc9 (T:=zcc) (k:=0) ⟨rfl,hs.nd,fun x e=>e,fun x e=>e,fun x e=>.inl e,fun x e=>e,.inl fun _=>rfl,rfl,rfl,hr',zkC⟩ ck)) ?_) fun r s' q=>?_)
 · refine⟨[some (.tup [.int k,.int v])],[],⟨[],[],[]⟩,fun d S=>d=.tup [.int (-v),.int k],⟨rfl,fun i d hi=>?_⟩,zou tb,by rw[zpr];exact rfl,?_⟩
   · match i,hi with
     |0,hi=>cases hi;exact⟨.ref a,rfl,a,_,rfl,ha,_,_,rfl,rfl,_,_,rfl,rfl,rfl⟩
     |j+1,hi=>simp at hi
   · rintro w H' ⟨d,ι',S',x,rv,hh,rfl⟩
     obtain⟨b,xs,rfl,hx,p1,p2,rfl,q1,p3,p4,rfl,q3,q4⟩:=rv
     cases q1;cases q3;cases q4
     exact⟨b,rfl,hx,x.cut⟩
 · cases r with
   |error e=>exact q.elim
   | ok fl =>
     cases fl with
     | ret y =>
       obtain⟨w,H',os,bare,un,hok,rv,b,rfl,hb',x⟩:=q
       cases y with
       | ref z =>
         have:z=b:=by simpa[L2.RelV] using rv
         exact⟨b,H',by rw[this],I.call' os un hok bare (fun b z=>absurd z (by simp)),hb',x,un⟩
       |_=>simp[L2.RelV] at rv
     |_=>exact q.elim
end R
end
section
namespace R
open PySem PySem.Spec PyProof.Rows L2
variable [Mks]
section
variable {X:Cx} {pins:List (Addr × Obj)} {σ:L2.St} {H H':Hp} {s:Shared}
structure Own (X:Cx) (pins:List (Addr × Obj)) (b:Addr):Prop where
 new:X.s₀.heap.objs.size<=b
 loc:b≠X.env.locals
 cel:∀x c,X.env.cells.lookup x=some c->c≠b
 pin:∀p∈X.pn++pins,p.1≠b
theorem Own.fresh (I:Inv X pins σ H s){b:Addr}(h:s.heap.objs.size<=b):Own X pins b:=by
 refine⟨Nat.le_trans I.sz h,fun e=>?_,fun x c e z=>?_,fun p hp z=>?_⟩
 · exact absurd (Nat.lt_of_lt_of_le I.lt h) (by rw[e];exact Nat.lt_irrefl _)
 · obtain⟨v,o,ho,_⟩:=I.cell x c e
   exact absurd (Nat.lt_of_lt_of_le (Heap.lt_size ho) h) (by rw[z];exact Nat.lt_irrefl _)
 · exact absurd (Nat.lt_of_lt_of_le (Heap.lt_size (I.pin p hp).1) h) (by rw[z];exact Nat.lt_irrefl _)
theorem Own.stk (o:Own X pins b)(I:Inv X pins σ H s):b∉frs X.stack:=fun hb=>by
 rcases List.mem_cons.mp (I.stkSub b hb) with e|e
 · exact o.loc e
 · obtain⟨_,ob,ho,_⟩:=I.ok.funs.mem e
   exact absurd (Nat.lt_of_lt_of_le (Heap.lt_size ho) o.new) (Nat.lt_irrefl _)
theorem zbm {h':Heap}{g':Array GenState}{t':Nat}{d':Drawn}{ch:List Addr}(I:Inv X pins σ H s)(ow:∀b∈ch,Own X pins b)(hn:∀b∈ch,H b=none)(k:∀b o,b∉ch->s.heap.get? b=some o->h'.get? b=some o)(hg:AllBare g') :
  Inv X pins σ H {s with heap:=h',gens:=g',drawn:=d',toks:=t'}:=by
 refine I.call (ch:=ch) ⟨fun b o e n _ hx=>k b o hx e,fun b o e n _ hx=>⟨o.slots,k b o hx e⟩,fun b o _ n _=>n,fun b o e hx=>⟨o,k b o hx e⟩,fun _ _ e=>e,fun _ _ _ e=>e,fun b ps e=>⟨#[],by rw[e];simp⟩⟩ ?_ hg fun b hb=>⟨.inr (ow b hb).new,(ow b hb).loc,(ow b hb).cel,(ow b hb).pin⟩
 intro a o e
 refine (I.hok a o e).stay (fun b u hb q=>k b u (fun z=>?_) q) (fun _ q=>q) fun _ _ q=>q
 have:=hn b z
 rcases hb with rfl|hb
 · rw[e] at this;cases this
 · rw[hb] at this;cases this
end
noncomputable abbrev zfS (s:Shared)(a:Addr)(vs:List Value)(e:Nat):Prop:=s.heap.get? a=some (seqObj "list" vs.toArray e)
theorem zeA {s:Shared}{a:Addr}{vs us:List Value}{e:Nat}(h:zfS s a vs e)(g:Array Value->Array Value)(hg:g vs.toArray=us.toArray):∃e',zfS {s with heap:=s.heap.update a (Obj.mapSeq g)} a us e':=
 ⟨_,by have:=get?_update_seq h g;rw[hg] at this;exact this⟩
theorem zcj {s:Shared}{a b:Addr}{o:Obj}{g:Obj->Obj}(n:b≠a)(h:s.heap.get? b=some o):(s.heap.update a g).get? b=some o:=by
 rw[Heap.get?_update_ne _ _ _ _ n];exact h
structure KeyL (rows:List (Int × Int)) (H:Hp) (ks:List Value) (i:Nat):Prop where
 len:ks.length=i
 at_:∀(j:Nat) (k:Value),ks[j]?=some k->∃(b:Addr) (r:Int × Int),rows[j]?=some r/\k=Value.ref b/\H b=some (.tup [.int (-r.2),.int r.1])
theorem KeyL.snoc {rows:List (Int × Int)}{H H':Hp}{ks:List Value}{i:Nat}{b:Addr}{r:Int × Int}(K:KeyL rows H ks i)(x:Ext [] H [] H')(hr:rows[i]?=some r)(hb:H' b=some (.tup [.int (-r.2),.int r.1])):KeyL rows H' (ks++[.ref b]) (i+1):=by
 refine⟨by simp[K.len],fun j k hj=>?_⟩
 by_cases h:j<ks.length
 · rw[List.getElem?_append_left h] at hj
   obtain⟨c,q,h1,h2,h3⟩:=K.at_ j k hj
   exact⟨c,q,h1,h2,x.kp.tups _ _ h3⟩
 · rw[List.getElem?_append_right (by omega)] at hj
   have:j=ks.length:=by
    have:=(List.getElem?_eq_some_iff.mp hj).1
    simp at this;omega
   subst this
   simp at hj
   exact⟨b,r,by rw[K.len];exact hr,hj.symm,hb⟩
section
variable {X:Cx} {pins:List (Addr × Obj)} {σ:L2.St} {H:Hp} {s:Shared} {A':Around} {f D kS:Addr} {name qual:Str} {params:Arguments} {body:Expr} {scope:Scope} {rows:List (Int × Int)}
structure KJ (X:Cx) (pins:List (Addr × Obj)) (σ:L2.St) (H:Hp) (D kS:Addr) (e1:Nat) (rows:List (Int × Int)) (i:Nat) (s':Shared):Prop where
 ex:∃H' ks e,Inv X pins σ H' s'/\Ext [] H [] H'/\H' D=none/\H' kS=none/\zfS s' D [] e1/\zfS s' kS ks e/\KeyL rows H' ks i
theorem zm2 {e1 i:Nat}{a:Addr}{r:Int × Int}(hr:Room 2 A')(e0:∀H s,Inv X pins σ H s->Env0 X.prog X.w X.K X.mg X.base A' X.stack s H)(L:LamAt H f name qual params body scope)(hs:FnScope ["row"] ["row"] scope)
  (hb:∀(pm cd ct u:Value),bindArgs (PySem.W.kla_fn name qual params body scope [] pm cd ct) ⟨[u],[]⟩=pure [(("row":Str),u)]) (ck:chkE zcc zc9 ["row"] scope body=true) (tb:TB H)
  (oD:Own X pins D) (oK:Own X pins kS) (ne:D≠kS) (ha:H a=some (.tup [.int r.1,.int r.2])) (hri:rows[i]?=some r) (hi:i<64) {s':Shared} (J:KJ X pins σ H D kS e1 rows i s') {items:Array Value} :
  wpAny (model X.prog X.w) A' (do
   match <-(call (.ref f) [.ref a]).attempt with
   |.ok k=>Builtin.List.listUpdate (.ref kS) (·.push k);pure (ForInStep.yield PUnit.unit)
   | .error e =>
     rule "list.sort.key-raised"
     let made <-Builtin.List.listItems (.ref kS)
     Builtin.List.listUpdate (.ref kS) fun _=>#[]
     letGo made.toList.reverse [e]
     Builtin.List.listUpdate (.ref D) fun _=>items;throw e) (fun q s''=>q=.yield ⟨⟩/\KJ X pins σ H D kS e1 rows (i+1) s'') (fun _ _=>False) s':=by
 obtain⟨H1,ks,e,I,x,d1,k1,lD,lK,kl⟩:=J.ex
 refine wpAny_bind (wpAny_attempt (wpAny_mono (zkM I hr (e0 _ _ I) (L.up x.kp) hs (fun pm cd ct=>hb pm cd ct _) ck (x.kp.tab tb) (x.kp.tups _ _ ha) (show L2.RelV (.ref a) (.ref a) from rfl)) ?_ fun _ _ z=>z.elim))
 rintro y s2 ⟨b,H2,rfl,I2,hb2,x2,un⟩
 have D2:=un.keep D _ lD d1 (oD.stk I) (by simp)
 have K2:=un.keep kS _ lK k1 (oK.stk I) (by simp)
 have hz:ks.length=i:=kl.len
 show wpAny _ _ (Builtin.List.listUpdate (.ref kS) (·.push (.ref b)) >>= fun _=>pure (ForInStep.yield PUnit.unit)) _ _ s2
 refine wpAny_bind (listUpdate_at K2 rfl (wpAny_pure ⟨rfl,?_⟩) (by rw[List.size_toArray,sizeLine_eq];omega) (by rw[Array.size_push,List.size_toArray,sizeLine_eq];omega))
 obtain⟨e',l'⟩:=zeA (us:=ks++[.ref b]) K2 (·.push (.ref b)) (by simp)
 refine⟨H2,ks++[.ref b],e',?_,x.trans x2,un.free D _ lD d1 (by simp),un.free kS _ lK k1 (by simp),zcj ne D2,l',kl.snoc x2 hri hb2⟩
 exact zbm I2 (ch:=[kS]) (fun b hb=>by rw[List.mem_singleton.mp hb];exact oK) (fun b hb=>by rw[List.mem_singleton.mp hb];exact un.free kS _ lK k1 (by simp)) (fun b o hb q=>zcj (by simpa using hb) q) I2.bare
end
end R
end
section
namespace R
open PySem PySem.Spec PyProof.Rows L2
variable [Mks]
noncomputable def rkOf (M:Int)(a:Int × Int):Int:=-a.2 * (2 * M+1)+a.1
theorem zka {M:Int}{a b:Int × Int}(ha:-M<=a.1/\a.1<=M)(hb:-M<=b.1/\b.1<=M):rkOf M a<rkOf M b↔(-a.2 < -b.2\/(a.2=b.2/\a.1<b.1)):=by
 unfold rkOf
 constructor
 · intro h
   by_cases e:a.2=b.2
   · rw[e] at h;exact .inr ⟨e,by omega⟩
   · by_cases c:-a.2 < -b.2
     · exact .inl c
     · have c':-b.2+1<=-a.2:=by omega
       have:=Int.mul_le_mul_of_nonneg_right c' (show (0:Int)<=2 * M+1 by omega)
       rw[Int.add_mul] at this
       omega
 · rintro (c|⟨e,c⟩)
   · have c':-a.2+1<=-b.2:=by omega
     have:=Int.mul_le_mul_of_nonneg_right c' (show (0:Int)<=2 * M+1 by omega)
     rw[Int.add_mul] at this
     omega
   · rw[e];omega
theorem zgL:∀rows:List (Int × Int),∃M:Int,∀r∈rows,-M<=r.1/\r.1<=M
 | []=>⟨0,fun r h=>by cases h⟩
 | a :: rows => by
   obtain⟨M,h⟩:=zgL rows
   refine⟨max M (max a.1 (-a.1)),fun r hr=>?_⟩
   rcases List.mem_cons.mp hr with rfl|hr
   · omega
   · have:=h r hr
     omega
theorem zgE {rows out:List (Int × Int)}(hp:out.Perm rows)(ho:out.Pairwise fun a b=>zcT a b=true):out=zbx rows:=by
 refine List.Perm.eq_of_pairwise (le:=fun a b=>zcT a b=true) (fun a b _ _ h1 h2=>?_) ho (List.pairwise_mergeSort (fun a b c h1 h2=>?_) (fun a b=>?_) rows) (hp.trans (List.mergeSort_perm rows zcT).symm)
 · obtain⟨a1,a2⟩:=a;obtain⟨b1,b2⟩:=b
   simp only[zcT,decide_eq_true_eq] at h1 h2
   have e1:a1=b1:=by omega
   have e2:a2=b2:=by omega
   rw[e1,e2]
 · simp only[zcT,decide_eq_true_eq] at h1 h2⊢;omega
 · simp only[zcT,Bool.or_eq_true,decide_eq_true_eq];omega
theorem zgQ {α:Type}{xs:List α}{p:List Nat}(d:α)(hp:p.Perm (List.range xs.length)):(p.map fun i=>xs.getD i d).Perm xs:=by
 have h:=hp.map fun i=>xs.getD i d
 refine h.trans (List.Perm.of_eq ?_)
 apply List.ext_getElem
 · simp
 · intro i h1 h2
   simp[h2]
theorem zk9 {rows:List (Int × Int)}{M:Int}(hM:∀r∈rows,-M<=r.1/\r.1<=M){p:Array Nat}(g:GP rows.length p)(a:AscTo (fun i=>rkOf M (rows.getD i (0,0))) p rows.length) :
  (p.toList.map fun i=>rows.getD i (0,0))=zbx rows:=by
 refine zgE (zgQ _ g.list) ?_
 rw[List.pairwise_map,List.pairwise_iff_getElem]
 intro i j hi hj hij
 have hs:=g.size
 have hi':i<p.size:=by simpa using hi
 have hj':j<p.size:=by simpa using hj
 have h:=a i j hij (by omega)
 unfold kAt at h
 rw[zbD p hi',zbD p hj'] at h
 have mem:∀k,k<rows.length->rows.getD k (0,0)∈rows:=fun k hk=>by
  rw[List.getD_eq_getElem?_getD,List.getElem?_eq_getElem hk];exact List.getElem_mem hk
 have li:p.toList[i]<rows.length:=by rw[<-zbD p hi'];exact g.lt (by omega)
 have lj:p.toList[j]<rows.length:=by rw[<-zbD p hj'];exact g.lt (by omega)
 have:=(zka (hM _ (mem _ li)) (hM _ (mem _ lj))).mp h
 simp only[zcT,decide_eq_true_eq]
 omega
end R
end
section
namespace R
open PySem PySem.Spec PyProof.Rows L2
variable [Mks]
section
variable {X:Cx} {pins:List (Addr × Obj)} {σ:L2.St} {H:Hp} {s:Shared} {A':Around} {D kS:Addr} {rows:List (Int × Int)}
theorem zgd {h:Heap}{b:Addr}{x y:Int}{P:Program}{w:World}(ok:HOk P w H h)(e:H b=some (.tup [.int x,.int y])):∃(o:Obj) (t u:Tok) (n:Nat),h.get? b=some o/\o.cls=.type "tuple"/\o.data=.seq #[.int x t,.int y u] n:=by
 obtain⟨_,its,r,o,h1,h2,n,h3⟩:=ok b _ e
 cases r with
 | cons r1 r =>
   cases r with
   | cons r2 r =>
     cases r with
     | nil =>
       obtain⟨t,rfl⟩:=r1
       obtain⟨u,rfl⟩:=r2
       exact⟨o,t,u,n,h1,h2,h3⟩
theorem zpg {b c:Addr}{x y x' y':Int}(ok:HOk X.prog X.w H s.heap)(e:H b=some (.tup [.int x,.int y]))(e':H c=some (.tup [.int x',.int y'])){Q:Bool->Shared->Prop}{E:Value->Shared->Prop}
  (q:Q (decide (x<x'\/(x=x'/\y<y'))) s):wpAny (model X.prog X.w) A' (keyLt' (tuples' true) (.ref b) (.ref c)) Q E s:=by
 obtain⟨o,t,u,n,h1,_,h3⟩:=zgd ok e
 obtain⟨o',t',u',n',h1',_,h3'⟩:=zgd ok e'
 refine PySem.W.kat_lt h1 h3 h1' h3' (PySem.W.kat_cons (wpAny_eqBool_int ?_))
 by_cases d:x=x'
 · have ed:(x == x')=true:=by simpa using d
   rw[ed]
   refine PySem.W.kat_yes (PySem.W.kat_cons (wpAny_eqBool_int ?_))
   by_cases d2:y=y'
   · have ed2:(y == y')=true:=by simpa using d2
     rw[ed2]
     refine PySem.W.kat_yes (PySem.W.kat_nil ?_)
     have:decide (x<x'\/(x=x'/\y<y'))=decide ((#[Value.int x t,Value.int y u]:Array Value).size<(#[Value.int x' t',Value.int y' u']:Array Value).size):=by
      rw[decide_eq_false (by omega)];rfl
     rw[this] at q
     exact q
   · have ed2:(y == y')=false:=by simpa using d2
     rw[ed2]
     refine PySem.W.kat_no (PySem.W.kat_one _ _ (wpAny_lt_int ?_))
     have:decide (x<x'\/(x=x'/\y<y'))=decide (y<y'):=by
      by_cases z:y<y'
      · rw[decide_eq_true z,decide_eq_true (.inr ⟨d,z⟩)]
      · rw[decide_eq_false z,decide_eq_false (by omega)]
     rw[this] at q
     exact q
 · have ed:(x == x')=false:=by simpa using d
   rw[ed]
   refine PySem.W.kat_no (oneLt_int ?_)
   have:decide (x<x'\/(x=x'/\y<y'))=decide (x<x'):=by
    by_cases z:x<x'
    · rw[decide_eq_true z,decide_eq_true (.inl z)]
    · rw[decide_eq_false z,decide_eq_false (by omega)]
   rw[this] at q
   exact q
theorem zg3 {h:Heap}{P:Program}{w:World}(ok:HOk P w H h):∀(ks:List Value),(∀k∈ks,∃b x y,k=Value.ref b/\H b=some (.tup [.int x,.int y]))->∃fs:List Value,PySem.W.KatTups h ks fs/\fs.length=ks.length/\∀v∈fs,∃n t,v=Value.int n t
 | [],_=>⟨[],PySem.W.KatTups.nil,rfl,fun v h=>by cases h⟩
 | k :: ks, hk => by
   obtain⟨fs,h1,h2,h3⟩:=zg3 ok ks fun k h=>hk k (List.mem_cons_of_mem _ h)
   obtain⟨b,x,y,rfl,e⟩:=hk k List.mem_cons_self
   obtain⟨o,t,u,n,g1,g2,g3⟩:=zgd ok e
   refine⟨.int x t::fs,PySem.W.KatTups.cons g1 g2 g3 rfl h1,by simp[h2],fun v hv=>?_⟩
   rcases List.mem_cons.mp hv with rfl|hv
   · exact⟨x,t,rfl⟩
   · exact h3 v hv
theorem zkL {ks:List Value}(ok:HOk X.prog X.w H s.heap)(hk:∀k∈ks,∃b x y,k=Value.ref b/\H b=some (.tup [.int x,.int y]))(h1:1<=ks.length){Q:SortKind->Shared->Prop}{E:Value->Shared->Prop}(q:Q (tuples' true) s) :
  wpAny (model X.prog X.w) A' (keyKind' ks.toArray) Q E s:=by
 obtain⟨fs,t1,t2,t3⟩:=zg3 ok ks hk
 refine PySem.W.kat_kind (T:=.type "int") t1 (by omega) (fun v hv=>?_) rfl q
 obtain⟨n,t,rfl⟩:=t3 v hv
 exact .now
structure KEnd (X:Cx) (pins:List (Addr × Obj)) (σ:L2.St) (H:Hp) (D:Addr) (out:List Value) (s':Shared):Prop where
 ex:∃H' e,Inv X pins σ H' s'/\Ext [] H [] H'/\H' D=none/\zfS s' D out e
theorem zif {st:SortSt}{out:List Value}{e1 i:Nat}{P:PySem.Fin->Shared->Prop}{E:Value->Shared->Prop}(hout:(arrOf st).map (·.2)=out.toArray)(hz:out.length<64)(hi:i<64)(hf:failedOf st=none)(oD:Own X pins D)(oK:Own X pins kS)(ne:D≠kS)
  (J:KJ X pins σ H D kS e1 rows i s) (h:∀s',KEnd X pins σ H D out s'->P (.done (.ret .none)) s'):wpAny (model X.prog X.w) A' (ksk_tail D false e1 (.ref kS) st) P E s:=by
 obtain⟨H1,ks,e,I,x,d1,k1,lD,lK,kl⟩:=J.ex
 have hk:ks.length<64:=by rw[kl.len];exact hi
 have I1:=zbm (h':=s.heap.update kS (Obj.mapSeq fun _=>#[])) (g':=s.gens) (t':=s.toks) (d':=s.drawn) (ch:=[kS]) I (fun b hb=>by rw[List.mem_singleton.mp hb];exact oK) (fun b hb=>by rw[List.mem_singleton.mp hb];exact k1) (fun b o hb q=>zcj (by simpa using hb) q) I.bare
 have lD1:zfS {s with heap:=s.heap.update kS (Obj.mapSeq fun _=>#[])} D [] e1:=zcj ne lD
 obtain⟨e',lD2⟩:=zeA (us:=out) lD1 (fun _=>out.toArray) rfl
 have I2:=zbm (h':=(s.heap.update kS (Obj.mapSeq fun _=>#[])).update D (Obj.mapSeq fun _=>out.toArray)) (g':=s.gens) (t':=s.toks) (d':=s.drawn) (ch:=[D]) I1 (fun b hb=>by rw[List.mem_singleton.mp hb];exact oD) (fun b hb=>by rw[List.mem_singleton.mp hb];exact d1) (fun b o hb q=>zcj (by simpa using hb) q) I.bare
 unfold ksk_tail
 rw[hout,hf]
 refine wpAny_bind (listUpdate_at lK rfl (wpAny_bind (wpAny_letGo (wpAny_bind (seqEpoch_at lD1 rfl (wpAny_bind (listUpdate_at lD1 rfl ?_ (by simp) (by simp only[Bool.false_eq_true,if_false,List.size_toArray,sizeLine_eq];omega))))))) (by rw[List.size_toArray,sizeLine_eq];omega) (by simp))
 simp only[bne_self_eq_false,Bool.false_eq_true,if_false]
 exact wpAny_pure (h _ ⟨H1,e',I2,x,d1,lD2⟩)
end
end R
end
section
namespace R
open PySem PySem.Spec PyProof.Rows L2
variable [Mks]
theorem zcJ {α:Type}{xs:List α}{i:Nat}(d:α)(h:i<xs.length):xs[i]?=some (xs.getD i d):=by
 rw[List.getD_eq_getElem?_getD,List.getElem?_eq_getElem h];rfl
theorem zot {rows:List (Int × Int)}{M:Int}(hM:∀r∈rows,-M<=r.1/\r.1<=M)(nd:(rows.map (·.1)).Nodup){i j:Nat}(hi:i<rows.length)(hj:j<rows.length)(e:rkOf M (rows.getD i (0,0))=rkOf M (rows.getD j (0,0))):i=j:=by
 have mi:=List.mem_of_getElem? (zcJ (0,0) hi)
 have mj:=List.mem_of_getElem? (zcJ (0,0) hj)
 have n1:¬rkOf M (rows.getD i (0,0))<rkOf M (rows.getD j (0,0)):=by omega
 have n2:¬rkOf M (rows.getD j (0,0))<rkOf M (rows.getD i (0,0)):=by omega
 rw[zka (hM _ mi) (hM _ mj)] at n1
 rw[zka (hM _ mj) (hM _ mi)] at n2
 have e1:(rows.getD i (0,0)).1=(rows.getD j (0,0)).1:=by omega
 have hi':i<(rows.map (·.1)).length:=by simpa using hi
 have hj':j<(rows.map (·.1)).length:=by simpa using hj
 have a1:(rows.map (·.1))[i]=(rows.map (·.1))[j]:=by
  have q1:rows.getD i (0,0)=rows[i]:=by simp[hi]
  have q2:rows.getD j (0,0)=rows[j]:=by simp[hj]
  rw[q1,q2] at e1
  simpa using e1
 have pw:=List.pairwise_iff_getElem.mp nd
 rcases Nat.lt_trichotomy i j with z|z|z
 · exact absurd a1 (pw i j _ _ z)
 · exact z
 · exact absurd a1.symm (pw j i _ _ z)
section
variable {X:Cx} {pins:List (Addr × Obj)} {σ:L2.St} {H:Hp} {s:Shared} {A':Around} {D kS f:Addr} {rows:List (Int × Int)} {name qual:Str} {params:Arguments} {body:Expr} {scope:Scope}
structure Plc (rows:List (Int × Int)) (p:List Nat):Prop where
 lt:∀i∈p,i<rows.length
 eq:(p.map fun i=>rows.getD i (0,0))=zbx rows
 perm:p.Perm (List.range rows.length)
theorem zpu {vs:List Value}{e1:Nat}{P:PySem.Fin->Shared->Prop}{E:Value->Shared->Prop}(hl:vs.length=rows.length)(h64:rows.length<64)(nd:(rows.map (·.1)).Nodup)(oD:Own X pins D)(oK:Own X pins kS)(ne:D≠kS)
  (J:KJ X pins σ H D kS e1 rows rows.length s) (h:∀p s',Plc rows p->KEnd X pins σ H D (p.map fun i=>vs.getD i Value.none) s'->P (.done (.ret .none)) s') :
  wpAny (model X.prog X.w) A' (Builtin.List.listItems (.ref kS) >>= fun keys=>ksk_end D false vs.toArray e1 (.ref kS) keys) P E s:=by
 obtain⟨H1,ks,e,I,x,d1,k1,lD,lK,kl⟩:=id J.ex
 refine wpAny_bind (listItems_at lK rfl ?_)
 unfold ksk_end
 simp only[Bool.false_eq_true,if_false]
 have klen:ks.length=vs.length:=by rw[kl.len,hl]
 by_cases h2:vs.toArray.size<2
 · rw[if_pos h2,if_pos h2]
   have h2':rows.length<2:=by rw[<-hl];simpa using h2
   refine wpAny_bind (wpAny_pure (wpAny_bind ?_))
   rw[StateT.run_pure]
   have eo:(arrOf (SortSt.mk' general' (ks.toArray.zip vs.toArray) #[] 7 none)).map (·.2)=vs.toArray:=by
    show ((ks.toArray.zip vs.toArray).map (·.2))=vs.toArray
    apply Array.toList_inj.mp
    rw[Array.toList_map,ksk_zip]
    show (ks.zip vs).map Prod.snd=vs
    exact List.map_snd_zip (by omega)
   have er:((List.range rows.length).map fun i=>vs.getD i Value.none)=vs:=by
    apply List.ext_getElem
    · simp[hl]
    · intro i g1 g2;simp[g2]
   refine wpAny_pure (zif (i:=rows.length) eo (by omega) h64 rfl oD oK ne J fun s' K=>h (List.range rows.length) s' ⟨fun i hi=>List.mem_range.mp hi,?_,List.Perm.refl _⟩ (by rw[er];exact K))
   refine zgE (zgQ _ (List.Perm.refl _)) ?_
   rw[List.pairwise_map,List.pairwise_iff_getElem]
   intro i j hi hj hij
   simp at hi hj
   omega
 · have h2':2<=vs.length:=by simpa using h2
   rw[if_neg h2,if_neg h2]
   have hk:∀k∈ks,∃b x y,k=Value.ref b/\H1 b=some (.tup [.int x,.int y]):=fun k hm=>by
    obtain⟨j,hj⟩:=List.mem_iff_getElem?.mp hm
    obtain⟨b,r,_,q1,q2⟩:=kl.at_ j k hj
    exact⟨b,_,_,q1,q2⟩
   refine wpAny_bind (zkL I.hok hk (by omega) ?_)
   obtain⟨M,hM⟩:=zgL rows
   refine wpAny_bind (wpAny_mono (PySem.W.kat_run (Q:=fun st' s'=>∃p:Array Nat,GP rows.length p/\AscTo (fun i=>rkOf M (rows.getD i (0,0))) p rows.length/\s'=s/\arrOf st'=p.map (PySem.W.kas_item (ks.toArray.zip vs.toArray))/\failedOf st'=none)
    (G:=fun p s'=>GP rows.length p/\AscTo (fun i=>rkOf M (rows.getD i (0,0))) p rows.length/\s'=s) klen h2' (by omega) (fun p st' s' _ a2 a3 a4=>⟨p,a4.1,a4.2.1,a4.2.2,a2,a3⟩) ?_) ?_ fun _ _ z=>z)
   · rw[hl]
     refine zl3 (r:=fun i=>rkOf M (rows.getD i (0,0))) (fun i j hi hj e=>zot hM nd hi hj e) (fun i j C hi hj hC=>?_) (by omega) fun p g a=>⟨g,a,rfl⟩
     obtain⟨b,r,b1,b2,b3⟩:=kl.at_ i _ (zcJ Value.none (by omega))
     obtain⟨c,r',c1,c2,c3⟩:=kl.at_ j _ (zcJ Value.none (by omega))
     have er:rows.getD i (0,0)=r:=by rw[List.getD_eq_getElem?_getD,b1];rfl
     have er':rows.getD j (0,0)=r':=by rw[List.getD_eq_getElem?_getD,c1];rfl
     show wpAny (model X.prog X.w) A' (keyLt' (tuples' true) (ks.getD i Value.none) (ks.getD j Value.none)) C (fun _ _=>False) s
     rw[b2,c2]
     refine zpg I.hok b3 c3 ?_
     have:decide (-r.2 < -r'.2\/(-r.2 = -r'.2/\r.1<r'.1))=decide (rkOf M r<rkOf M r'):=by
      have q:=zka (hM r (List.mem_of_getElem? b1)) (hM r' (List.mem_of_getElem? c1))
      by_cases z:rkOf M r<rkOf M r'
      · rw[decide_eq_true z];exact decide_eq_true (by have:=q.mp z;omega)
      · rw[decide_eq_false z];exact decide_eq_false fun w=>z (q.mpr (by omega))
     rw[this]
     (try dsimp only at hC)
     rw[er,er'] at hC
     exact hC
   · rintro⟨⟨⟩,st'⟩ s' ⟨p,g,a,rfl,ar,fl⟩
     refine zif (i:=rows.length) (PySem.W.kat_snds klen ar) ?_ h64 fl oD oK ne J fun s' K=>h p.toList s' ⟨fun i hi=>List.mem_range.mp (g.list.mem_iff.mp hi),zk9 hM g a,g.list⟩ K
     rw[List.length_map,Array.length_toList,g.size];exact h64
theorem zmr {as:List Addr}{e1:Nat}{P:PySem.Fin->Shared->Prop}{E:Value->Shared->Prop}(hr:Room 2 A')(e0:∀H s,Inv X pins σ H s->Env0 X.prog X.w X.K X.mg X.base A' X.stack s H)(L:LamAt H f name qual params body scope)(hs:FnScope ["row"] ["row"] scope)
  (hb:∀(pm cd ct u:Value),bindArgs (PySem.W.kla_fn name qual params body scope [] pm cd ct) ⟨[u],[]⟩=pure [(("row":Str),u)]) (ck:chkE zcc zc9 ["row"] scope body=true) (tb:TB H)
  (hl:as.length=rows.length) (h64:rows.length<64) (nd:(rows.map (·.1)).Nodup) (oD:Own X pins D) (oK:Own X pins kS) (ne:D≠kS) (ha:∀(j:Nat) (a:Addr),as[j]?=some a->∃r:Int × Int,rows[j]?=some r/\H a=some (.tup [.int r.1,.int r.2]))
  (J:KJ X pins σ H D kS e1 rows 0 s) (h:∀p s',Plc rows p->KEnd X pins σ H D (p.map fun i=>(as.map Value.ref).getD i Value.none) s'->P (.done (.ret .none)) s') :
  wpAny (model X.prog X.w) A' (ksk_rest D (.ref f) false (as.map Value.ref).toArray e1 (.ref kS)) P E s:=by
 unfold ksk_rest
 refine wpAny_bind (wpAny_rule ?_)
 rw[List.forIn_toArray]
 refine wpAny_bind (ksk_fold (fun i s'=>KJ X pins σ H D kS e1 rows i s') (as.map Value.ref) 0 s J (fun j v s' hj J'=>?_) fun s' J'=>?_)
 · rw[List.getElem?_map] at hj
   cases ej:as[j]? with
   |none=>rw[ej] at hj;cases hj
   | some a =>
     rw[ej] at hj;cases hj
     obtain⟨r,hr1,hr2⟩:=ha j a ej
     have hlt:=(List.getElem?_eq_some_iff.mp hr1).1
     rw[Nat.zero_add] at J'⊢
     exact wpAny_mono (zm2 hr e0 L hs hb ck tb oD oK ne hr2 hr1 (by omega) J' (items:=(as.map Value.ref).toArray)) (fun _ _ z=>z) fun _ _ z=>z.elim
 · rw[Nat.zero_add,List.length_map,hl] at J'
   exact zpu (vs:=as.map Value.ref) (by simpa using hl) h64 nd oD oK ne J' h
theorem zlP {as:List Addr}{n0:Nat}{P:PySem.Fin->Shared->Prop}{E:Value->Shared->Prop}(I:Inv X pins σ H s)(hr:Room 2 A')(e0:∀H s,Inv X pins σ H s->Env0 X.prog X.w X.K X.mg X.base A' X.stack s H)(L:LamAt H f name qual params body scope)(hs:FnScope ["row"] ["row"] scope)
  (hb:∀(pm cd ct u:Value),bindArgs (PySem.W.kla_fn name qual params body scope [] pm cd ct) ⟨[u],[]⟩=pure [(("row":Str),u)]) (ck:chkE zcc zc9 ["row"] scope body=true) (tb:TB H)
  (hl:as.length=rows.length) (h64:rows.length<64) (nd:(rows.map (·.1)).Nodup) (oD:Own X pins D) (d0:H D=none) (lD:zfS s D (as.map Value.ref) n0) (ha:∀(j:Nat) (a:Addr),as[j]?=some a->∃r:Int × Int,rows[j]?=some r/\H a=some (.tup [.int r.1,.int r.2]))
  (h:∀p s',Plc rows p->KEnd X pins σ H D (p.map fun i=>(as.map Value.ref).getD i Value.none) s'->P (.done (.ret .none)) s'):wpAny (model X.prog X.w) A' (ksk_tree D (.ref f) false) P E s:=by
 obtain⟨e1,l1⟩:=zeA (us:=[]) lD (fun _=>#[]) rfl
 have hD:D<s.heap.objs.size:=Heap.lt_size lD
 have I1:=zbm (h':=s.heap.update D (Obj.mapSeq fun _=>#[])) (g':=s.gens) (t':=s.toks) (d':=s.drawn) (ch:=[D]) I (fun b hb=>by rw[List.mem_singleton.mp hb];exact oD) (fun b hb=>by rw[List.mem_singleton.mp hb];exact d0) (fun b o hb q=>zcj (by simpa using hb) q) I.bare
 have kp:∀(o1 o2:Obj) b o,(s.heap.update D (Obj.mapSeq fun _=>#[])).get? b=some o->(((s.heap.update D (Obj.mapSeq fun _=>#[])).push o1).push o2).get? b=some o:=fun o1 o2 b o q=>Heap.get?_push_of_some _ (Heap.get?_push_of_some _ q)
 have sz:∀o1:Obj,((s.heap.update D (Obj.mapSeq fun _=>#[])).push o1).objs.size=s.heap.objs.size+1:=fun o1=>by rw[size_push',Heap.size_update]
 have hlen:(as.map Value.ref).length<64:=by rw[List.length_map,hl];exact h64
 unfold ksk_tree
 refine wpAny_bind (listItems_at lD rfl (wpAny_bind (listUpdate_at lD rfl (wpAny_bind (seqEpoch_at l1 rfl (wpAny_bind (wpAny_newTuple (wpAny_bind (wpAny_newList (wpAny_holding ?_) (Nat.zero_le _))) (by rw[sizeLine_eq];show (as.map Value.ref).length<=_;omega))))) (by rw[List.size_toArray,sizeLine_eq];omega) (Nat.zero_le _))))
 have I2:=zbm (h':=((s.heap.update D (Obj.mapSeq fun _=>#[])).push (seqObj "tuple" (as.map Value.ref).toArray 0)).push (seqObj "list" #[] 0)) (g':=s.gens) (t':=s.toks) (d':=s.drawn) (ch:=[]) I1 (fun b hb=>by cases hb) (fun b hb=>by cases hb) (fun b o _ q=>kp _ _ b o q) I.bare
 have oK:Own X pins ((s.heap.update D (Obj.mapSeq fun _=>#[])).push (seqObj "tuple" (as.map Value.ref).toArray 0)).objs.size:=by
  rw[sz]
  exact Own.fresh I (Nat.le_succ _)
 refine zmr (kS:=((s.heap.update D (Obj.mapSeq fun _=>#[])).push (seqObj "tuple" (as.map Value.ref).toArray 0)).objs.size) hr e0 L hs hb ck tb hl h64 nd oD oK (by rw[sz];exact Nat.ne_of_lt (Nat.lt_succ_of_lt hD)) ha ?_ h
 exact⟨H,[],0,I2,Ext.refl _ _,d0,I.hok.fresh (by rw[sz];exact Nat.le_succ _),kp _ _ _ _ l1,Heap.get?_push_size _ rfl,rfl,fun j k hj=>by simp at hj⟩
end
end R
end
section
namespace R
open PySem PySem.Spec PyProof.Rows L2
variable [Mks]
section
variable {X:Cx} {pins:List (Addr × Obj)} {σ:L2.St} {H H':Hp} {s:Shared} {b:Addr} {o:HO}
theorem zcH (I:Inv X pins σ H s)(ow:Own X pins b)(hn:H b=none)(ok:ObjOk X.prog X.w (upd H b o) s.heap b o):Inv X pins σ (upd H b o) s:=by
 have un:Un (frs X.stack) [b] H (upd H b o) s.heap s.heap:=⟨fun c q e _ _ _=>e,fun c q e _ _ _=>⟨q.slots,e⟩,fun c q e n hx=>by rw[zai (by simpa using hx)];exact n,fun c q e _=>⟨q,e⟩,
  fun c xs q=>by rw[zai (zal q hn)];exact q,fun c q u e=>by rw[zai (zal e hn)];exact e,fun c ps q=>⟨#[],by rw[zai (zal q hn),q];simp⟩⟩
 refine I.call' rfl un ?_ I.bare fun c hc=>?_
 · intro a u e
   by_cases z:a=b
   · subst z;rw[zap] at e;cases e;exact ok
   · rw[zai z] at e
     exact (I.hok a u e).stay (fun _ _ _ q=>q) (fun c q=>by rw[zai (zal q hn)];exact q) fun c xs q=>by rw[zai (zal q hn)];exact q
 · rw[List.mem_singleton.mp hc]
   exact⟨.inr ow.new,ow.loc,ow.cel,ow.pin⟩
theorem zjo (hn:H b=none):Ext [] H [] (upd H b o):=
 ⟨List.prefix_refl _,Kp.new hn o,fun a u _ e=>⟨.inl (by rw[zai (zal e hn)];exact e),by simp⟩⟩
theorem zd6:∀(as:List Addr) (rows:List (Int × Int)) {H:Hp},Inv X pins σ H s->as.length=rows.length->as.Pairwise (· < ·)->(∀a∈as,Own X pins a/\H a=none)->
  (∀(j:Nat) (a:Addr),as[j]?=some a->∃(r:Int × Int) (t u:Tok),rows[j]?=some r/\s.heap.get? a=some {cls:=.type "tuple",data:=.seq #[.int r.1 t,.int r.2 u]})->
  ∃H',Inv X pins σ H' s/\Ext [] H [] H'/\(∀c,c∉as->H' c=H c)/\∀(j:Nat) (a:Addr),as[j]?=some a->∃r:Int × Int,rows[j]?=some r/\H' a=some (.tup [.int r.1,.int r.2])
 | [],rows,H,I,hl,_,_,_=>⟨H,I,Ext.refl _ _,fun c _=>rfl,fun j a e=>by simp at e⟩
 |a::as,[],H,I,hl,_,_,_=>by simp at hl
 | a :: as, r :: rows, H, I, hl, hp, ho, hq => by
   obtain⟨oa,na⟩:=ho a List.mem_cons_self
   obtain⟨r',t,u,e1,e2⟩:=hq 0 a rfl
   cases e1
   have hp':=List.pairwise_cons.mp hp
   have I1:Inv X pins σ (upd H a (.tup [.int r.1,.int r.2])) s:=zcH I oa na ⟨by simp[sizeLine_eq],[.int r.1 t,.int r.2 u],.cons ⟨t,rfl⟩ (.cons ⟨u,rfl⟩ .nil),_,e2,rfl,_,rfl⟩
   obtain⟨H',J,x,k,q⟩:=zd6 as rows I1 (by simpa using hl) hp'.2 (fun c hc=>⟨(ho c (List.mem_cons_of_mem _ hc)).1,by
    rw[zai (Nat.ne_of_gt (hp'.1 c hc))];exact (ho c (List.mem_cons_of_mem _ hc)).2⟩) fun j c e=>hq (j+1) c (by simpa using e)
   refine⟨H',J,(zjo na).trans x,fun c hc=>?_,fun j c e=>?_⟩
   · rw[k c (fun z=>hc (List.mem_cons_of_mem _ z)),zai (fun z=>hc (by rw[z];exact List.mem_cons_self))]
   · cases j with
     |zero=>cases e;exact⟨r,rfl,x.kp.tups _ _ zap⟩
     |succ j=>exact q j c (by simpa using e)
end
noncomputable def zbQ (rows:List (Int × Int)):List (Key × V):=rows.map fun r=>(.inl r.1,.int r.2)
theorem zi1:∀{rows:List (Int × Int)} {vs:List (Key × Value)},KV (zbQ rows) vs->vs.length=rows.length/\∀(j:Nat) k v,vs[j]?=some (k,v)->∃(r:Int × Int) (t:Tok),rows[j]?=some r/\k=.inl r.1/\v=.int r.2 t
 | [], vs, h => by
   cases h
   exact⟨rfl,fun j k v e=>by simp at e⟩
 | r :: rows, vs, h => by
   cases h with
   | cons h1 h2 =>
     rename_i q vs
     obtain⟨a,c⟩:=zi1 h2
     refine⟨by simp[a],fun j k v e=>?_⟩
     cases j with
     | zero =>
       cases e
       obtain⟨e1,t,e2⟩:=h1
       exact⟨r,t,rfl,e1.symm,e2⟩
     |succ j=>exact c j k v (by simpa using e)
section
variable {X:Cx} {pins:List (Addr × Obj)} {σ:L2.St} {H:Hp} {s:Shared} {d r f:Addr} {rows:List (Int × Int)} {name qual:Str} {params:Arguments} {body:Expr} {scope:Scope}
structure Tld (X:Cx) (pins:List (Addr × Obj)) (σ:L2.St) (H:Hp) (rows:List (Int × Int)) (D:Addr) (s':Shared):Prop where
 ex:∃(H':Hp) (ts:List Addr),Inv X pins σ H' s'/\Ext [] H [] H'/\H D=none/\H' D=some (.lst (ts.map V.ref))/\ts.length=rows.length/\∀(j:Nat) (t:Addr),ts[j]?=some t->∃q:Int × Int,(zbx rows)[j]?=some q/\H' t=some (.tup [.int q.1,.int q.2])
theorem zik {Q:Value->Shared->Prop}{E:Value->Shared->Prop}(I:Inv X pins σ H s)(hh:X.A.handled=none)(hr:Room 2 X.A.in1.in1)(L:LamAt H f name qual params body scope)(hs:FnScope ["row"] ["row"] scope)
  (hb:∀(pm cd ct u:Value),bindArgs (PySem.W.kla_fn name qual params body scope [] pm cd ct) ⟨[u],[]⟩=pure [(("row":Str),u)]) (ck:chkE zcc zc9 ["row"] scope body=true) (tb:TB H)
  (hd:H d=some (.dK (zbQ rows))) (hv:s.heap.IsItemsView r d) (h64:rows.length<64) (q:∀D s',Tld X pins σ H rows D s'->Q (.ref D) s') :
  wpAny (model X.prog X.w) X.A (call (.builtin "sorted") [.ref r] [(Str.ofString "key",.ref f)]) Q E s:=by
 obtain⟨_,hsys,vs,kv,od,es,ep,ho,hex,hda,hko,hpr,hnd⟩:=I.hok d _ hd
 obtain⟨vlen,vat⟩:=zi1 kv
 have hm:s.heap.DictAt (zaH X.prog X.w) d vs ep:=⟨od,es,ho,hex,hda,hko,hpr,hnd⟩
 refine call_function_entry_kw kind_sorted plain_sorted entry_sorted (ksk_s1 _ _) ?_
 unfold Builtin.«sorted»
 refine wpAny_bind (m:=checkCount "sorted" 1 1 _) (wpAny_pure (wpAny_bind ?_))
 refine PySem.W.kdx_collect (A:=X.A.in1) (knd:=zaH X.prog X.w) (kvs:=vs) (ep:=ep) hh hv hm (by rw[vlen,sizeLine_eq];omega) fun h1 tk as keep alen kg=>?_
 have I1:Inv X pins σ H {s with heap:=h1,toks:=tk}:=zbm (g':=s.gens) (t':=tk) (d':=s.drawn) (ch:=[]) I (fun b hb=>by cases hb) (fun b hb=>by cases hb) (fun b o _ e=>keep b o e) I.bare
 have pairs:∀(j:Nat) (a:Addr),as[j]?=some a->∃(p:Int × Int) (t u:Tok),rows[j]?=some p/\h1.get? a=some {cls:=.type "tuple",data:=.seq #[.int p.1 t,.int p.2 u]}:=fun j a ha=>by
  obtain⟨key,k,x,e1,e2,e3⟩:=kg.pairs j a ha
  obtain⟨p,t,p1,p2,p3⟩:=vat j k x e1
  subst p2 p3
  rw[zhF] at e2
  rcases zaK e2 with ⟨i,u,z1,z2⟩|⟨x',u,z1,z2⟩
  · cases z1
    subst z2
    exact⟨p,u,t,p1,e3⟩
  · cases z1
 obtain⟨H1,I2,x1,out1,rowsAt⟩:=zd6 (s:={s with heap:=h1,toks:=tk}) as rows I1 (by rw[alen,vlen]) kg.rise (fun a ha=>⟨Own.fresh I (Nat.le_of_lt (kg.above a ha)),I.hok.fresh (Nat.le_of_lt (kg.above a ha))⟩) pairs
 have alen':as.length=rows.length:=by rw[alen,vlen]
 refine wpAny_bind (wpAny_newList ?_ (by rw[List.length_map,alen',sizeLine_eq];omega))
 have I3:Inv X pins σ H1 {s with heap:=h1.push (seqObj "list" (as.map Value.ref).toArray 0),toks:=tk}:=zbm (s:={s with heap:=h1,toks:=tk}) (g':=s.gens) (t':=tk) (d':=s.drawn) (ch:=[]) I2 (fun b hb=>by cases hb) (fun b hb=>by cases hb) (fun b o _ e=>Heap.get?_push_of_some _ e) I.bare
 have lD:zfS {s with heap:=h1.push (seqObj "list" (as.map Value.ref).toArray 0),toks:=tk} h1.objs.size (as.map Value.ref) 0:=Heap.get?_push_size _ rfl
 have oD:Own X pins h1.objs.size:=Own.fresh I2 (Nat.le_refl _)
 have dN:H1 h1.objs.size=none:=I2.hok.fresh (Nat.le_refl _)
 have dN0:H h1.objs.size=none:=I1.hok.fresh (Nat.le_refl _)
 refine wpAny_bind (wpAny_holding (wpAny_call_entry_kw slot_list_sort ⟨_,lD,rfl⟩ entry_list_sort ?_ (ksk_l1 _ _)))
 refine zlP (D:=h1.objs.size) (as:=as) (rows:=rows) I3 hr (fun H s J=>J.env0.in1.in1) (L.up x1.kp) hs hb ck (x1.kp.tab tb) alen' h64 ?_ oD dN lD rowsAt fun p s' pl ke=>⟨_,rfl,?_⟩
 · have hn:(vs.map (·.1)).Nodup:=hnd
   have e:(vs.map (·.1))=(rows.map (·.1)).map Sum.inl:=by
    apply List.ext_getElem
    · simp[vlen]
    · intro i g1 g2
      have gi:i<vs.length:=by simpa using g1
      obtain⟨p,t,p1,p2,p3⟩:=vat i vs[i].1 vs[i].2 (by rw[List.getElem?_eq_getElem gi])
      have gr:i<rows.length:=by omega
      rw[List.getElem?_eq_getElem gr] at p1
      cases p1
      simpa using p2
   rw[e] at hn
   rw[List.nodup_iff_pairwise_ne,List.pairwise_map] at hn
   exact hn.imp fun h z=>h (by rw[z])
 · refine wpAny_pure ⟨_,rfl,q _ s' ?_⟩
   obtain⟨H2,e,J,x2,dN2,lst⟩:=ke.ex
   have eo:(p.map fun i=>(as.map Value.ref).getD i Value.none)=(p.map fun i=>as.getD i 0).map Value.ref:=by
    rw[List.map_map]
    refine List.map_congr_left fun i hi=>?_
    have:=pl.lt i hi
    have gi:i<as.length:=by omega
    simp[gi]
   rw[eo] at lst
   have plen:p.length=rows.length:=by rw[pl.perm.length_eq];simp
   have tup2:∀(j:Nat) (t:Addr),(p.map fun i=>as.getD i 0)[j]?=some t->∃q:Int × Int,(zbx rows)[j]?=some q/\H2 t=some (.tup [.int q.1,.int q.2]):=fun j t hj=>by
    rw[List.getElem?_map] at hj
    cases ej:p[j]? with
    |none=>rw[ej] at hj;cases hj
    | some i =>
      rw[ej] at hj
      cases hj
      have hi:=pl.lt i (List.mem_of_getElem? ej)
      obtain⟨w,w1,w2⟩:=rowsAt i (as.getD i 0) (zcJ 0 (by omega))
      refine⟨w,?_,x2.kp.tups _ _ w2⟩
      rw[<-pl.eq,List.getElem?_map,ej]
      show some (rows.getD i (0,0))=some w
      rw[List.getD_eq_getElem?_getD,w1]
      rfl
   have dne:∀t o,H2 t=some o->t≠h1.objs.size:=fun t o h=>zal h dN2
   refine⟨upd H2 h1.objs.size (.lst ((p.map fun i=>as.getD i 0).map V.ref)),p.map fun i=>as.getD i 0,zcH J oD dN2 ⟨by simp[plen,sizeLine_eq];omega,_,e,?_,lst⟩,(x1.trans x2).trans (zjo dN2),dN0,zap,by simp[plen],fun j t hj=>?_⟩
   · generalize (p.map fun i=>as.getD i 0)=ts
     induction ts with
     |nil=>exact .nil
     |cons t ts ih=>exact .cons rfl ih
   · obtain⟨w,w1,w2⟩:=tup2 j t hj
     exact⟨w,w1,by rw[zai (dne t _ w2)];exact w2⟩
end
end R
end
section
namespace R
open PySem PySem.Spec PyProof.Rows L2
variable [Mks]
noncomputable def BM (mg:Str->Option Value)(base:Heap):Prop:=∃(bm:Addr) (o:Obj),mg "__builtins__"=some (.ref bm)/\bm≠builtinsNs/\bm≠mainGlobals/\base.get? bm=some o/\o.cls=.type "module"/\o.dict=some builtinsNs/\o.data=.plain
structure StepT (P:Addr) (H H':Hp):Prop where
 rest:∀a o,a≠P->H a=some o->H' a=some o
 tab:∀ps,H P=some (.tbl ps)->∃more,H' P=some (.tbl (ps++more))
theorem zeT {pos:Pos}{l:List Value}{v a b c:Value}(h:TriplesOk l)(e:codeAmong pos (l++[a,b,c])=some v):codeAmong pos l=some v\/v=c:=by
 induction l using codeAmong.induct (pos:=pos) with
 | case1 line _ col _ c' rest cond =>
   simp only[List.cons_append,codeAmong,cond,if_true] at e⊢
   exact .inl e
 | case2 line _ col _ c' rest cond ih =>
   simp only[List.cons_append,codeAmong,cond,if_false] at e⊢
   exact ih (by simpa[TriplesOk] using h) e
 | case3 l hno =>
   cases l with
   | nil =>
     right
     unfold codeAmong at e
     split at e
     · rename_i h;simp at h;obtain⟨_,_,rfl,rfl⟩:=h
       split at e
       · cases e;rfl
       · simp[codeAmong] at e
     · cases e
   | cons x l =>
     exfalso
     unfold TriplesOk at h
     split at h
     · rename_i h0;cases h0
     · rename_i h0;cases h0;exact hno _ _ _ _ _ _ rfl
     · exact h
section
variable {X:Cx} {pins:List (Addr × Obj)} {σ:L2.St} {H:Hp} {s:Shared} {c P:Addr} {params:Arguments} {body:Expr} {scope:Scope} {lpos:Pos}
theorem BM.at_ (b:BM X.mg X.base)(I:Inv X pins σ H s){P:Addr}{o:HO}(hP:H P=some o):s.heap.BuiltinsAt X.mg P:=by
 obtain⟨bm,ob,h1,h2,h3,h4,h5⟩:=b
 obtain⟨k1,k2⟩:=I.bs bm ob h4
 exact⟨bm,ob,h1,h2,h3,fun z=>(by rw[z,hP] at k2;cases k2),k1,h5⟩
theorem zkK {Q:Value->Shared->Prop}{E:Value->Shared->Prop}(I:Inv X pins σ H s)(bm:BM X.mg X.base)(hcode:X.env.code=.ref c)(hC:PySem.W.codeHdIn X.K c P=true)(tb:TabIn H P (X.env.qual ++ "<lambda>"))
  (hdef:defaultsOf params X.env=([],[])) (hcl:closureFor scope X.env=pure [])
  (q:∀f H' s',Inv X pins σ H' s'->LamAt H' f "<lambda>" (X.env.qual ++ "<lambda>") params body scope->TabIn H' P (X.env.qual ++ "<lambda>")->StepT P H H'->Q (.ref f) s') :
  wpAny (model X.prog X.w) X.A (eval (.Lambda params body scope lpos) X.env) Q E s:=by
 obtain⟨ps,h1,h2,h3⟩:=tb
 have C:=PySem.W.codeHd_of_K I.kIn hC
 have hP:s.heap.get? P=some (PySem.W.tabObj ps):=I.hok P _ h1
 have hb:=bm.at_ I h1
 have hg:s.heap.Ns mainGlobals X.mg:=I.mod.glob.keeps I.bk
 have hPl:P<s.heap.objs.size:=Heap.lt_size hP
 refine PySem.W.kla_eval hdef ?_
 cases hf:codeAmong lpos ps.toList with
 | some cv =>
   obtain⟨c',oc,vs,t,rfl,a2,a3,a4⟩:=h3 lpos cv hf
   refine PySem.W.kla_makeFunctionHit hcl I.ok.glob hg hcode C hP h2 hf hb fun ctv h' tk hk hsz=>?_
   have hn:H h'.objs.size=none:=I.hok.fresh hsz
   have ow:Own X pins h'.objs.size:=Own.fresh I hsz
   have I1:Inv X pins σ H {s with heap:=h'.push (PySem.W.kla_obj "<lambda>" (X.env.qual ++ "<lambda>") params body scope [] ((X.mg "__name__").getD .none) c' ctv),toks:=tk}:=
    zbm (g':=s.gens) (t':=tk) (d':=s.drawn) (ch:=[]) I (fun b hb=>by cases hb) (fun b hb=>by cases hb) (fun b o _ e=>Heap.get?_push_of_some _ (hk b o e)) I.bare
   have I2:=zcH (o:=.frz (PySem.W.kla_obj "<lambda>" (X.env.qual ++ "<lambda>") params body scope [] ((X.mg "__name__").getD .none) c' ctv) (.own 0)) I1 ow hn ⟨Heap.get?_push_size _ rfl,_,Heap.get?_push_size _ rfl⟩
   have st:∀a o,H a=some o->upd H h'.objs.size (.frz (PySem.W.kla_obj "<lambda>" (X.env.qual ++ "<lambda>") params body scope [] ((X.mg "__name__").getD .none) c' ctv) (.own 0)) a=some o:=fun a o e=>by rw[zai (zal e hn)];exact e
   refine q _ _ _ I2 ⟨_,ctv,c',oc,vs,t,zap,st _ _ a2,a3,a4⟩ ?_ ⟨fun a o _ e=>st a o e,fun ps' e=>⟨#[],by rw[st _ _ e];simp⟩⟩
   exact TabIn.up ⟨ps,h1,h2,h3⟩ (by rw[st _ _ h1,h1]) fun b o u e=>st _ _ e
 | none =>
   have hgP:mainGlobals≠P:=fun z=>by
    obtain⟨o,es,ep,e,hd,_⟩:=hg
    rw[z,hP] at e;cases e;cases hd
   refine PySem.W.kla_makeFunction hcl I.ok.glob hg hcode C hP h2 hf hgP hb fun c' ctv h' tk hx hge hlt hrec htb=>?_
   obtain⟨c2,oc,vs,t,e2,hoc,hd,hv⟩:=hrec
   cases e2
   generalize hfo:PySem.W.kla_obj "<lambda>" (X.env.qual ++ "<lambda>") params body scope [] ((X.mg "__name__").getD .none) c' ctv=fo
   have hfr:(h'.push fo).get? h'.objs.size=some fo:=by rw[<-hfo];exact Heap.get?_push_size _ rfl
   have hfn:H h'.objs.size=none:=I.hok.fresh (Nat.le_trans hge (Nat.le_of_lt hlt))
   have hcn:H c'=none:=I.hok.fresh hge
   have nPc:P≠c':=Nat.ne_of_lt (Nat.lt_of_lt_of_le hPl hge)
   have nPf:P≠h'.objs.size:=Nat.ne_of_lt (Nat.lt_trans (Nat.lt_of_lt_of_le hPl hge) hlt)
   have ncf:c'≠h'.objs.size:=Nat.ne_of_lt hlt
   have st:∀a o,a≠P->H a=some o->upd (upd (upd H P (.tbl (ps ++ #[rawInt lpos.line,rawInt lpos.col,.ref c']))) c' (.frz oc (.own 0))) h'.objs.size (.frz fo (.own 0)) a=some o:=fun a o n e=>by
    rw[zai (zal e hfn),zai (zal e hcn),zai n];exact e
   have atP:upd (upd (upd H P (.tbl (ps ++ #[rawInt lpos.line,rawInt lpos.col,.ref c']))) c' (.frz oc (.own 0))) h'.objs.size (.frz fo (.own 0)) P=some (.tbl (ps ++ #[rawInt lpos.line,rawInt lpos.col,.ref c'])):=by
    rw[zai nPf,zai nPc,zap]
   have atC:upd (upd (upd H P (.tbl (ps ++ #[rawInt lpos.line,rawInt lpos.col,.ref c']))) c' (.frz oc (.own 0))) h'.objs.size (.frz fo (.own 0)) c'=some (.frz oc (.own 0)):=by
    rw[zai ncf,zap]
   have hno:∀a,H a=none->a≠P:=fun a e z=>by rw[z,h1] at e;cases e
   have keep:∀b o,b≠P->s.heap.get? b=some o->(h'.push fo).get? b=some o:=fun b o n e=>Heap.get?_push_of_some _ (hx b o n e)
   have inv:Inv X pins σ (upd (upd (upd H P (.tbl (ps ++ #[rawInt lpos.line,rawInt lpos.col,.ref c']))) c' (.frz oc (.own 0))) h'.objs.size (.frz fo (.own 0))) {s with heap:=h'.push fo,toks:=tk}:=by
    refine I.call (g':=s.gens) (t':=tk) (d':=s.drawn) (ch:=[]) ⟨fun b o e n _ _=>keep b o (hno b n) e,fun b o e n _ _=>⟨o.slots,keep b o (hno b n) e⟩,fun b o e n _=>?_,fun b o e _=>?_,fun b xs e=>?_,fun b o u e=>?_,fun b ps' e=>?_⟩ ?_ I.bare (fun b hb=>by cases hb)
    · have hb:=Heap.lt_size e
      rw[zai (Nat.ne_of_lt (Nat.lt_trans (Nat.lt_of_lt_of_le hb hge) hlt)),zai (Nat.ne_of_lt (Nat.lt_of_lt_of_le hb hge)),zai (hno b n)];exact n
    · by_cases z:b=P
      · subst z;exact⟨_,Heap.get?_push_of_some _ htb⟩
      · exact⟨o,keep b o z e⟩
    · exact st b _ (fun z=>by rw[z,h1] at e;cases e) e
    · exact st b _ (fun z=>by rw[z,h1] at e;cases e) e
    · by_cases z:b=P
      · subst z;rw[h1] at e;cases e;exact⟨_,atP⟩
      · exact⟨#[],by rw[st b _ z e];simp⟩
    · intro a u e
      by_cases zf:a=h'.objs.size
      · subst zf;rw[zap] at e;cases e;exact⟨hfr,_,hfr⟩
      · rw[zai zf] at e
        by_cases zc:a=c'
        · subst zc;rw[zap] at e;cases e;exact⟨Heap.get?_push_of_some _ hoc,_,Heap.get?_push_of_some _ hoc⟩
        · rw[zai zc] at e
          by_cases zp:a=P
          · subst zp;rw[zap] at e;cases e;exact Heap.get?_push_of_some _ htb
          · rw[zai zp] at e
            refine (I.hok a u e).stay (fun b o hb e'=>keep b o ?_ e') (fun b e'=>st b _ (fun z=>by rw[z,h1] at e';cases e') e') fun b xs e'=>st b _ (fun z=>by rw[z,h1] at e';cases e') e'
            rcases hb with rfl|hb
            · exact zp
            · intro z;rw[z,h1] at hb;cases hb
   refine q _ _ _ inv ⟨_,ctv,c',oc,vs,t,by rw[zap,<-hfo],atC,hd,hv⟩ ?_ ⟨fun a o n e=>st a o n e,fun ps' e=>by rw[h1] at e;cases e;exact⟨_,atP⟩⟩
   refine⟨_,atP,?_,fun pos v e=>?_⟩
   · have:=TriplesOk_snoc lpos.line lpos.col (.ref c') ps.toList h2
     simpa using this
   · have e':codeAmong pos (ps.toList++[rawInt lpos.line,rawInt lpos.col,.ref c'])=some v:=by simpa using e
     rcases zeT h2 e' with z|z
     · obtain⟨d,od,ws,u,a1,a2,a3⟩:=h3 pos v z
       exact⟨d,od,ws,u,a1,st _ _ (fun y=>by rw[y,h1] at a2;cases a2) a2,a3⟩
     · exact⟨c',oc,vs,t,z,atC,hd,hv⟩
end
end R
end
section
namespace R
open PySem PySem.Spec PyProof.Rows L2
variable [Mks]
structure M0 (X:Cx) (o:Expr) (m:Str) (apos cpos:Pos):Prop where
 base:attributeBase o m X.env (eval o X.env)=eval o X.env
 few:((backTo cpos (starEach [] X.env)).all (fun x=>!x.1)&&(backToKw cpos (keywordEach [] X.env)).all (fun x=>x.1.isSome)&&decide (([]:List Expr).length+([]:List Keyword).length+(if ([]:List Keyword).isEmpty then 0 else 1)<30))=true
 line:(apos.endLine == cpos.line)=true
noncomputable abbrev zdk (d:Addr):Obj:={cls:=.type "dict_items",data:=.fields #[.ref d]}
noncomputable def zih (td:TE):TE:=fun σ H Q=>td σ H fun x H1=>∃d rows,x=.ref d/\H1 d=some (.dK (zbQ rows))/\∀v,H1 v=none->Q (.ref v) (upd H1 v (.frz (zdk d) (.own 0)))
theorem zkr {X:Cx}{o:Expr}{apos cpos:Pos}{td:TE}(ho:PE X o td)(m:M0 X o "items" apos cpos):PE X (.Call (.Attribute o "items" apos) [] [] cpos) (zih td):=by
 intro pins s σ H Q I h
 refine wpAny_Call_method m.base m.few m.line PySem.F.plainAttrs_dict PySem.F.slot_dict_items PySem.F.type_dict_items (thn (ho pins s σ H _ I h) fun u s1 ⟨x,H1,I1,rx,d,rows,ex,hd,q1⟩=>?_)
 subst ex
 obtain rfl:u=Value.ref d:=rx
 obtain⟨t1,t2,t3⟩:=zg5 I1 (.inl ⟨_,.inl hd⟩)
 obtain⟨_,_,vs,_,hD⟩:=I1.hok d _ hd
 refine⟨t1,t2,?_⟩
 refine Calls.callWith_builtin rfl (PyProof.Rows.evalArgs_none ?_)
 refine PySem.call_meetsIn PySem.F.slot_dict_items hD.typeIs PySem.F.entry_dict_items (PySem.F.args_dict_items_1 _) (meets_dict_items (zaH X.prog X.w) d t3) ⟨⟨vs,hD⟩,?_⟩
 have hn:H1 s1.heap.objs.size=none:=I1.hok.fresh (Nat.le_refl _)
 have I2:Inv X pins σ H1 {s1 with heap:=s1.heap.push (zdk d)}:=zbm (g':=s1.gens) (t':=s1.toks) (d':=s1.drawn) (ch:=[]) I1 (fun b hb=>by cases hb) (fun b hb=>by cases hb) (fun b o _ e=>Heap.get?_push_of_some _ e) I1.bare
 have I3:=zcH (o:=.frz (zdk d) (.own 0)) I2 (Own.fresh I1 (Nat.le_refl _)) hn ⟨Heap.get?_push_size _ rfl,_,Heap.get?_push_size _ rfl⟩
 exact⟨.ref s1.heap.objs.size,_,I3,rfl,q1 _ hn⟩
noncomputable def zlL (Q:VK)(w:V)(H1:Hp):Prop:=∃v d rows,w=.ref v/\H1 v=some (.frz (zdk d) (.own 0))/\H1 d=some (.dK (zbQ rows))/\rows.length<64/\TB H1/\
 ∀(D:Addr) (H2:Hp) (ts:List Addr),Ext [] H1 [] H2->H1 D=none->H2 D=some (.lst (ts.map V.ref))->ts.length=rows.length->
  (∀(j:Nat) (t:Addr),ts[j]?=some t->∃r:Int × Int,(zbx rows)[j]?=some r/\H2 t=some (.tup [.int r.1,.int r.2]))->Q (.ref D) H2
noncomputable def znS (td:TE):TE:=fun σ H Q=>zih td σ H (zlL Q)
noncomputable def oneK (k:VK)(vs:List V)(H:Hp):Prop:=match vs with | [w]=>k w H|_=>False
theorem zgT {k:VK}{vs:List V}{H:Hp}(h:oneK k vs H):∃w,vs=[w]/\k w H:=by
 unfold oneK at h
 split at h
 · exact⟨_,rfl,h⟩
 · exact h.elim
theorem StepT.ext {P:Addr}{H H':Hp}{ps:Array Value}(st:StepT P H H')(hP:H P=some (.tbl ps))(tb:TB H'):Ext [] H [] H':=by
 have nP:∀a o,H a=some o->(∀ps,o≠.tbl ps)->a≠P:=fun a o e n z=>by rw[z,hP] at e;cases e;exact n _ rfl
 refine⟨List.prefix_refl _,⟨fun a xs e=>st.rest a _ (nP a _ e (by simp)) e,fun a o u e=>st.rest a _ (nP a _ e (by simp)) e,fun _=>tb⟩,fun a o _ e=>⟨?_,by simp⟩⟩
 by_cases z:a=P
 · subst z
   obtain⟨more,e'⟩:=st.tab ps hP
   rw[hP] at e;cases e
   exact .inr ⟨⟨_,rfl⟩,_,e'⟩
 · exact .inl (st.rest a o z e)
theorem zie {X:Cx}{pins:List (Addr × Obj)}{σ:L2.St}{H1 H2:Hp}{s2:Shared}{f v d:Addr}{q:Str}{params:Arguments}{body:Expr}{scope:Scope}{rows:List (Int × Int)}{Q:VK}(I2:Inv X pins σ H2 s2)(hu:Room 2 X.A.in1.in1)(hs:FnScope ["row"] ["row"] scope)
  (hb:∀(pm cd ct u:Value),bindArgs (PySem.W.kla_fn "<lambda>" q params body scope [] pm cd ct) ⟨[u],[]⟩=pure [(("row":Str),u)]) (ck:chkE zcc zc9 ["row"] scope body=true) (L:LamAt H2 f "<lambda>" q params body scope) (tb:TB H1) (x2:Ext [] H1 [] H2)
  (hv:H1 v=some (.frz (zdk d) (.own 0))) (hd:H1 d=some (.dK (zbQ rows))) (h64:rows.length<64)
  (q1:∀(D:Addr) (H2:Hp) (ts:List Addr),Ext [] H1 [] H2->H1 D=none->H2 D=some (.lst (ts.map V.ref))->ts.length=rows.length->(∀(j:Nat) (t:Addr),ts[j]?=some t->∃r:Int × Int,(zbx rows)[j]?=some r/\H2 t=some (.tup [.int r.1,.int r.2]))->Q (.ref D) H2) :
  wpAny (model X.prog X.w) X.A (call (.builtin "sorted") [.ref v] [(Str.ofString "key",.ref f)]) (EP X pins σ Q) X.xe s2:=by
 have hv2:=x2.keep (by simp) hv (by simp)
 have hd2:=x2.keep (by simp) hd (by simp)
 have vw:s2.heap.IsItemsView v d:=⟨_,(I2.hok v _ hv2).1,rfl,rfl⟩
 refine zik I2 hu.hd hu L hs hb ck (x2.kp.tab tb) hd2 vw h64 fun D s3 tl=>?_
 obtain⟨H3,ts,I3,x3,dn,dl,tl,tt⟩:=tl.ex
 refine⟨.ref D,H3,I3,rfl,q1 D H3 ts (x2.trans x3) ?_ dl tl tt⟩
 cases e:H1 D with
 |none=>rfl
 | some o =>
   exfalso
   have:=(x2.rest D o (by simp) e).1
   rw[dn] at this
   rcases this with z|⟨_,_,z⟩<;>cases z
noncomputable def tLam (q:Str)(params:Arguments)(body:Expr)(scope:Scope):TE:=fun σ H Q=>TB H/\∀f H',LamAt H' f "<lambda>" q params body scope->Ext [] H [] H'->Q (.ref f) H'
section
variable {X:Cx} {o:Expr} {p apos cpos kpos lpos pos:Pos} {td:TE} {c P:Addr} {params:Arguments} {body:Expr} {scope:Scope}
structure Maker (X:Cx) (c P:Addr):Prop where
 bm:BM X.mg X.base
 code:X.env.code=.ref c
 hd:PySem.W.codeHdIn X.K c P=true
 mem:(P,X.env.qual ++ "<lambda>")∈Mks.ts
 one:∀p∈Mks.ts,p.1=P->p.2=X.env.qual ++ "<lambda>"
theorem zoP (mk:Maker X c P)(hdef:defaultsOf params X.env=([],[]))(hcl:closureFor scope X.env=pure []):PE X (.Lambda params body scope lpos) (tLam (X.env.qual ++ "<lambda>") params body scope):=by
 intro pins s σ H Q I h
 obtain⟨ps,hP,_⟩:=id (h.1 _ mk.mem)
 refine zkK I mk.bm mk.code mk.hd (h.1 _ mk.mem) hdef hcl fun f H' s' J L T S=>⟨.ref f,H',J,rfl,h.2 f H' L (S.ext hP fun p hp=>?_)⟩
 by_cases z:p.1=P
 · rw[mk.one p hp z,z];exact T
 · obtain⟨qs,hq,_⟩:=id (h.1 p hp)
   exact (h.1 p hp).up ((S.rest _ _ z hq).trans hq.symm) fun b o u e=>S.rest b _ (fun y=>by rw[y] at e;rw[hP] at e;cases e) e
theorem zkm (ho:PE X o td)(m:M0 X o "items" apos cpos)(hg:Gl X "sorted")(hm:X.mg "sorted"=none)(hu:Room 2 X.A.in1.in1)(mk:Maker X c P)(hdef:defaultsOf params X.env=([],[]))(hcl:closureFor scope X.env=pure [])(hs:FnScope ["row"] ["row"] scope)
  (hb:∀(pm cd ct u:Value),bindArgs (PySem.W.kla_fn "<lambda>" (X.env.qual ++ "<lambda>") params body scope [] pm cd ct) ⟨[u],[]⟩=pure [(("row":Str),u)]) (ck:chkE zcc zc9 ["row"] scope body=true) :
  PE X (.Call (.Name "sorted" p) [.Call (.Attribute o "items" apos) [] [] cpos] [⟨some "key",.Lambda params body scope lpos,kpos⟩] pos) (znS td):=by
 intro pins s σ H Q I h
 refine wpAny_Call_Name_kw (zdE I hg hm (by rfl:bootBuiltins "sorted"=some (.builtin "sorted")) ?_ (by decide) (by decide))
 have ha:PA X [.Call (.Attribute o "items" apos) [] [] cpos] (zij (zih td) tNil):=zbZ (zkr ho m) zfl
 have hk:PK X [⟨some "key",.Lambda params body scope lpos,kpos⟩] (zij (tLam (X.env.qual ++ "<lambda>") params body scope) tNil):=zmH (zoP mk hdef hcl) zoG
 refine PyProof.Rows.callWith_builtin_kwB rfl rfl (PyProof.Rows.evalArgs_kw2 rfl (thn (ha pos pins s σ H (oneK (zlL Q)) I h) fun us s1 ⟨vs,H1,I1,r1,k1⟩=>?_))
 obtain⟨w,rfl,v,d,rows,ew,hv,hd,h64,tb,q1⟩:=zgT k1
 subst ew
 obtain⟨u,rfl,ru⟩:=Vals.one r1
 obtain rfl:u=Value.ref v:=ru
 refine thn (hk pos pins s1 σ H1 (oneK fun w2 H2=>∃f,w2=.ref f/\LamAt H2 f "<lambda>" (X.env.qual ++ "<lambda>") params body scope/\Ext [] H1 [] H2) I1 ⟨tb,fun f H2 L S=>⟨f,rfl,L,S⟩⟩) fun ws s2 ⟨zs,H2,I2,r2,k2⟩=>?_
 obtain⟨w2,rfl,f,ef,L,st⟩:=zgT k2
 subst ef
 obtain⟨u2,rfl,ru2⟩:=Vals.one r2
 obtain rfl:u2=Value.ref f:=ru2
 exact zie I2 hu hs hb ck L tb st hv hd h64 q1
end
end R
end
section
namespace R
open PySem PySem.Spec PyProof.Rows L2
variable [Mks]
noncomputable def H0 (K:PySem.W.Frag)(a:Addr)(o:Obj)(xs:List V):Hp:=fun b=>if b∈Mks.ts.map (·.1) then some (.tbl #[]) else if b=a then (match K.lookup a with|some _=>none|none=>some (.frz o (.lst xs))) else none
theorem zi0 {P:Program}{w:World}{K:PySem.W.Frag}{mg mb:Str->Option Value}{k:Nat}{fa a:Addr}{fd:FuncData}{x:Str}{sp:Sp}{s₁:Shared}{vs:List Value}{ns:List Int}
  (KX:K.In s₁.heap) (hns:s₁.heap.Ns mainGlobals mg) (hb:s₁.heap.Ns builtinsNs mb) (hbb:∀x:Str,x≠"__name__"->mb x=bootBuiltins x) (hlim:s₁.heap.NoLimit) (hg:s₁.gens = #[]) (bm:BM mg s₁.heap)
  (ha:s₁.heap.get? a=some {cls:=.type "list",data:=.seq vs.toArray}) (hi:IntsAre vs ns) (hl:ns.length<=sizeLine) (hr:Room k callerA)
  (tabs:∀p∈Mks.ts,s₁.heap.get? p.1=some (PySem.W.tabObj #[])/\K.lookup p.1=none/\isCodeTable s₁.heap p.1)
  (F:∀base:Heap,K.In base->base.Ns mainGlobals mg->BM mg base->FnOk P w K mg base CX0 k fa fd [x] sp) (hbind:∀(s:Shared) (u:Value),BindsTo s fd ⟨[u],[]⟩ [(x,u)])
  (hsp:∀H:Hp,FixL K H a (ns.map V.int)->TB H->sp [.ref a] H (fun v _=>v=.bl true) fun _ _ _=>False) :
  codeAny (model P w) callerA (.call (.ref fa) ⟨[.ref a],[]⟩) (fun r s'=>r=.ok (.ret (.bool true))/\OldK s₁.heap s'.heap/\s'.os=s₁.os/\AllBare s'.gens) s₁:=by
 have rv:=zeZ hi
 have lenV:=hi.length
 generalize hH:H0 K a {cls:=.type "list",data:=.seq vs.toArray} (ns.map V.int)=H
 have cs:∀b,H b=none\/((∃p∈Mks.ts,p.1=b)/\H b=some (.tbl #[]))\/(b=a/\K.lookup a=none/\H b=some (.frz {cls:=.type "list",data:=.seq vs.toArray} (.lst (ns.map V.int)))):=fun b=>by
  rw[<-hH]
  unfold H0
  by_cases h1:b∈Mks.ts.map (·.1)
  · obtain⟨p,hp,e⟩:=List.mem_map.mp h1
    exact .inr (.inl ⟨⟨p,hp,e⟩,if_pos h1⟩)
  · rw[if_neg h1]
    by_cases h2:b=a
    · rw[if_pos h2]
      cases e:K.lookup a with
      |some o=>exact .inl rfl
      |none=>exact .inr (.inr ⟨h2,rfl,rfl⟩)
    · rw[if_neg h2];exact .inl rfl
 have tb:TB H:=fun p hp=>⟨#[],by rw[<-hH];unfold H0;exact if_pos (List.mem_map.mpr ⟨p,hp,rfl⟩),trivial,fun pos v e=>by simp[codeAmong] at e⟩
 have na:a∉Mks.ts.map (·.1):=fun z=>by
  obtain⟨p,hp,e⟩:=List.mem_map.mp z
  have:=(tabs p hp).1
  rw[e,ha] at this;cases this
 have hx:FixL K H a (ns.map V.int):=by
  cases e:K.lookup a with
  | some o =>
    have e':=KX a o e
    rw[ha] at e';cases e'
    exact .inr ⟨_,vs.toArray,_,e,rfl,rfl,rfl,by rw[List.size_toArray,lenV];exact hl,by simpa using rv⟩
  | none =>
    refine .inl ⟨{cls:=.type "list",data:=.seq vs.toArray},?_⟩
    rw[<-hH];unfold H0
    rw[if_neg na,if_pos rfl,e]
 have hok:HOk P w H s₁.heap:=fun b u e=>by
  rcases cs b with z|⟨⟨p,hp,rfl⟩,z⟩|⟨rfl,_,z⟩
  · rw[z] at e;cases e
  · rw[z] at e;cases e;exact (tabs p hp).1
  · rw[z] at e;cases e;exact⟨ha,by rw[List.length_map];exact hl,vs,_,rv,ha⟩
 have noD:∀{b:Addr} {o:Obj},s₁.heap.get? b=some o->(∀xs n,o.data≠.seq xs n)->(∀fs,o.data≠.fields fs)->H b=none:=fun {b o} e n1 n2=>by
  rcases cs b with z|⟨⟨p,hp,rfl⟩,_⟩|⟨rfl,_,_⟩
  · exact z
  · rw[(tabs p hp).1] at e;cases e;exact absurd rfl (n2 _)
  · rw[ha] at e;cases e;exact absurd rfl (n1 _ _)
 have base_of:∀{b:Addr} {o:Obj},s₁.heap.get? b=some o->H b=none->(hidT s₁.heap H).get? b=some o:=fun e n=>zkR e n
 have nsK:∀{b:Addr} {m:Str->Option Value},s₁.heap.Ns b m->(hidT s₁.heap H).Ns b m:=fun {b m} ⟨o,es,ep,e,d,r⟩=>⟨o,es,ep,base_of e (noD e (fun _ _ z=>by rw[d] at z;cases z) fun _ z=>by rw[d] at z;cases z),d,r⟩
 have hKb:K.In (hidT s₁.heap H):=fun b o e=>base_of (KX b o e) (by
  rcases cs b with z|⟨⟨p,hp,rfl⟩,_⟩|⟨rfl,z,_⟩
  · exact z
  · rw[(tabs p hp).2.1] at e;cases e
  · rw[z] at e;cases e)
 have hbm:BM mg (hidT s₁.heap H):=by
  obtain⟨m,o,h1,h2,h3,h4,h5,h6,h7⟩:=bm
  exact⟨m,o,h1,h2,h3,base_of h4 (noD h4 (fun _ _ z=>by rw[h7] at z;cases z) fun _ z=>by rw[h7] at z;cases z),h5,h6,h7⟩
 have hM:Mod K mg (hidT s₁.heap H):=⟨hKb,nsK hns,⟨mb,nsK hb,hbb⟩,let ⟨mc,h1,h2⟩:=hlim;⟨mc,nsK h1,h2⟩⟩
 have e0:Env0 P w K mg (hidT s₁.heap H) callerA [] s₁ H:=⟨rfl,hM,fun b o e=>zmU e,Nat.le_of_eq (zje _ _),trivial,fun b hb=>absurd (show b∈([]:List Addr) from hb) (by simp),hok,.of_eq hg⟩
 refine codeAny_mono ((F _ hKb (nsK hns) hbm).run callerA [] s₁ H ⟨[.ref a],[]⟩ [.ref a] [.ref a] _ _ hr e0 (hbind s₁ (.ref a)) (.cons rfl .nil) (hsp H hx tb)) fun r s' h=>?_
 cases r with
 |error e=>exact False.elim h
 | ok fl =>
   cases fl with
   | ret u =>
     obtain⟨v,H',os,bare,un,hok',r',q⟩:=h
     have q':v=.bl true:=q
     subst q'
     obtain rfl:u=Value.bool true:=r'
     have old:∀b o,s₁.heap.get? b=some o->asItWas s₁.heap s'.heap b o/\∃o',s'.heap.get? b=some o':=fun b o e=>by
      rcases cs b with z|⟨⟨p,hp,rfl⟩,z⟩|⟨rfl,_,z⟩
      · have k:=un.keep b o e z (by intro y;exact absurd (show b∈([]:List Addr) from y) (by simp)) (by simp)
        exact⟨.inl k,_,k⟩
      · obtain⟨more,z2⟩:=un.tbls _ _ z
        have k:s'.heap.get? p.1=some (PySem.W.tabObj (#[]++more)):=hok' _ _ z2
        have e':=(tabs p hp).1
        rw[e'] at e;cases e
        exact⟨.inr (.inl ⟨(tabs p hp).2.2,rfl,#[],more,rfl,k⟩),_,k⟩
      · have z2:=un.frzs _ _ _ z
        have k:=(hok' _ _ z2).1
        rw[ha] at e;cases e
        exact⟨.inl k,_,k⟩
     exact⟨rfl,⟨fun b o e=>(old b o e).1,fun b o e=>(old b o e).2⟩,os,bare⟩
   |_=>exact False.elim h
end R
end
section
namespace R
open PySem PySem.Spec PyProof.Rows L2
variable [Mks]
theorem walk_ofT {l:PySem.W.OpenLaw}{n k:Nat}{q:Program}{loose:List Str}{XP:(Str->Option Value)->Heap->Prop}{YP:World->Heap->Prop}{d:DefRec}{K:Params->PySem.W.Frag}{sp:World->Sp}{x:Str}
  (hn:l.most=some n) (hn2:n<=sizeLine) (hdf:d.params.defaults=[]) (hr:Room k callerA)
  (hY:∀(w:World) (h:Heap),YP w h->(K w.params).In h) (hT:∀(w:World) (h:Heap),YP w h->∀p∈Mks.ts,h.get? p.1=some (PySem.W.tabObj #[]))
  (hK:∀(w:World),∀p∈Mks.ts,(K w.params).lookup p.1=none/\∃c,PySem.W.codeHdIn (K w.params) c p.1=true)
  (F:∀(w:World) (mg:Str->Option Value) (fa:Addr) (h:Heap),(K w.params).In h->h.Ns mainGlobals mg->mg d.name=some (.ref fa)->
   ∃fd:FuncData,(∀(s:Shared) (u:Value),BindsTo s fd ⟨[u],[]⟩ [(x,u)])/\
    ∀base:Heap,(K w.params).In base->base.Ns mainGlobals mg->BM mg base->FnOk l.prog w (K w.params) mg base CX0 k fa fd [x] (sp w))
  (hsp:∀(w:World) (H:Hp) (a:Addr) (ns:List Int),ns.length<=n->FixL (K w.params) H a (ns.map V.int)->TB H->sp w [.ref a] H (fun v _=>v=.bl true) fun _ _ _=>False) :
  PySem.W.WalkO q loose XP YP l.row.toRowW d [] (fun f vs=>PySem.call f vs):=by
 refine Att.attach_call hn hdf fun w s₀ s₁ mg mb fa o pm cd doc a vs ns G Y ho hd hcd hmg hobj hints hlen hg=>?_
 have KX:=hY w _ Y
 obtain⟨fd,hb,hF⟩:=F w mg fa _ KX G.T.g hmg
 obtain⟨bm,ob,b1,b2,b3,b4,b5,b6⟩:=G.T.bmain
 have hbG:bm≠mainGlobals:=fun z=>by
  obtain⟨o,es,ep,e,hd,_⟩:=G.T.g
  rw[z,e] at b3;cases b3;rw[hd] at b6;cases b6
 refine zi0 KX G.T.g G.T.b G.T.builtins G.T.nolimit hg ⟨bm,ob,b1,b2,hbG,b3,b4,b5,b6⟩ hobj hints (Nat.le_trans hlen hn2) hr (fun p hp=>?_) hF hb fun H hx tb=>hsp w H a ns hlen hx tb
 obtain⟨k1,c,k2⟩:=hK w p hp
 have e:=hT w _ Y p hp
 exact⟨e,k1,((PySem.W.codeHd_of_K KX k2).tab e).isCodeTable⟩
end R
end
section
namespace R
open PySem PySem.Spec PyProof.Rows L2
variable [Mks]
theorem zmz {κ:Type}[DecidableEq κ]{x:κ × V}{r:List (κ × V)}{k:κ}{v:V}(h:x.1≠k):putK (x::r) k v=x::putK r k v:=by
 unfold putK
 have:decide (x.1=k)=false:=decide_eq_false h
 simp only[List.any_cons,this,Bool.false_or]
 split
 · rw[List.map_cons,if_neg h]
 · rfl
theorem zgO:∀(rows:List (Int × Int)) (w:Int),(rows.map (·.1)).Nodup->∃c:Int,(valV (zbQ rows) (.inl w)).getD (.int 0)=.int c/\putK (zbQ rows) (.inl w) (.int (c+1))=zbQ (bump rows w)
 | [],w,_=>⟨0,rfl,rfl⟩
 | (k, c) :: r, w, nd => by
   simp only[List.map_cons,List.nodup_cons] at nd
   by_cases e:k=w
   · subst e
     refine⟨c,by simp[zbQ,valV],?_⟩
     have hm:(zbQ r).map (fun kv=>if kv.1=(Sum.inl k:Key) then (kv.1,V.int (c+1)) else kv)=zbQ r:=by
      rw[List.map_congr_left (g:=id),List.map_id]
      intro kv hkv
      unfold zbQ at hkv
      obtain⟨q,hq,rfl⟩:=List.mem_map.mp hkv
      have:q.1≠k:=fun z=>nd.1 (z▸List.mem_map.mpr ⟨q,hq,rfl⟩)
      simp[this]
     have hd:zbQ ((k,c)::r)=(.inl k,.int c)::zbQ r:=rfl
     unfold bump
     rw[if_pos rfl,hd]
     unfold putK
     have:(((Sum.inl k:Key),V.int c)::zbQ r).any (fun kv=>decide (kv.1=Sum.inl k))=true:=by simp
     rw[if_pos this,List.map_cons,hm,if_pos rfl]
     rfl
   · obtain⟨d,h1,h2⟩:=zgO r w nd.2
     have hne:(Sum.inl k:Key)≠Sum.inl w:=fun z=>e (Sum.inl.inj z)
     have hd:zbQ ((k,c)::r)=(.inl k,.int c)::zbQ r:=rfl
     refine⟨d,?_,?_⟩
     · rw[hd,<-h1]
       unfold valV
       rw[List.find?_cons_of_neg (by simpa using e)]
     · rw[hd,zmz hne,h2]
       have hb:bump ((k,c)::r) w=(k,c)::bump r w:=by rw[bump,if_neg e]
       rw[hb];rfl
theorem RVs.ofGet {K:PySem.W.Frag}{ι:List Addr}{H:Hp}:∀{ds:List D} {vs:List V},ds.length=vs.length->(∀(i:Nat) d v,ds[i]?=some d->vs[i]?=some v->RV K ι H d v)->RVs K ι H ds vs
 | [],[],_,_=>rfl
 | [],_::_,h,_=>by simp at h
 |_::_,[],h,_=>by simp at h
 |d::ds,v::vs,h,f=>⟨v,vs,rfl,f 0 d v rfl rfl,RVs.ofGet (by simpa using h) fun i a b h1 h2=>f (i+1) a b (by simpa using h1) (by simpa using h2)⟩
theorem RH.add {K:PySem.W.Frag}{ι:List Addr}{H H':Hp}{S:R.St}{p:Addr}{o:MO}(h:RH K ι H S)(x:Ext ι H (ι++[p]) H')(e:∀a∈ι,H' a=H a)(hp:p∉ι)(ho:RO K (ι++[p]) H' p o):RH K (ι++[p]) H' (S.push o):=by
 refine⟨by rw[List.length_append,h.len,zck];rfl,?_,fun l o' q=>?_,x.kp.tab h.tab⟩
 · rw[List.nodup_append]
   refine⟨h.nd,by simp,fun a ha b hb=>?_⟩
   simp at hb;subst hb
   exact fun z=>hp (z▸ha)
 · by_cases hl:l<S.len
   · rw[zcv hl] at q
     obtain⟨a,h1,h2,hm⟩:=h.mem q
     exact⟨a,zbY (List.prefix_append _ _) h1,h2.stay x (e a hm)⟩
   · have hl2:=zbn q
     rw[zck] at hl2
     have:l=S.len:=by omega
     subst this
     rw[zeN] at q;cases q
     exact⟨p,by rw[<-h.len];simp,ho⟩
section
variable {X:Cx} {p1 p2 p3 p4 p5 p6 p7 p8 p9 p10 p11 p12 p13 p14 p15 p16 p17 p18 p19 p20 p21 p22 p23 p24 p25 p26 p27 p28 p29:Pos} {k7 k15 k17:Nat} {params:Arguments} {body:Expr} {scope:Scope}
noncomputable def zle (p1 p2 p3 p4 p5 p6 p7 p8 p9 p10 p11 p12 p13 p14 p15 p16 p17 p18 p19 p20 p21 p22 p23 p24 p25 p26 p27 p28 p29:Pos)(params:Arguments)(body:Expr)(scope:Scope):List Stmt:=
 [.Assign [.Name "counts" p1] (.Dict [] [] p2) p3,
  .For (.Name "word" p4) (.Name "words" p5) [.If (.Compare (.Name "word" p6) [.IsNot] [.Constant .none 0 p7] p8)
   [.Assign [.Subscript (.Name "counts" p9) (.Name "word" p10) p11] (.BinOp (.Call (.Attribute (.Name "counts" p12) "get" p13) [.Name "word" p14,.Constant (.int 0) 0 p15] [] p16) .Add (.Constant (.int 1) 0 p17) p18) p19] [] p20] [] p21,
  .Return (some (.Call (.Name "sorted" p22) [.Call (.Attribute (.Name "counts" p23) "items" p24) [] [] p25] [⟨some "key",.Lambda params body scope p26,p27⟩] p28)) p29]
noncomputable def zlT (K:PySem.W.Frag):TS:=tIfS (zlS (tOp (fun x y H Q=>y=.non/\Q (.bl (!decide (x=.non))) H) (tVar 2) (tC .non))) (zos (tVar 1) (tVar 2) (tOp (rI0 fun i j=>.int (i+j)) (zlf (tVar 1) (tVar 2) (tC (.int 0))) (tC (.int 1)))) znT
theorem zki (hN:X.N=[("words":Str),"counts","word"])(h0:X.env.scope.names.lookup ("words":Str)=some .local)(h1:X.env.scope.names.lookup ("counts":Str)=some .local)(h2:X.env.scope.names.lookup ("word":Str)=some .local)(hc:X.calm=true)(hx:X.xe=fun _ _=>False)(hu:X.A.units+1<cLine)
  (m2:M2 X (.Name "counts" p12) "get" p13 (.Name "word" p14) (.Constant (.int 0) 0 p15) p16) (hs:swapsWith (.BinOp (.Call (.Attribute (.Name "counts" p12) "get" p13) [.Name "word" p14,.Constant (.int 0) 0 p15] [] p16) .Add (.Constant (.int 1) 0 p17) p18) (some (.Subscript (.Name "counts" p9) (.Name "word" p10) p11)) p19.line X.env=pure false)
  (hw:swapsWith (.Dict [] [] p2) (some (.Name "counts" p1)) p3.line X.env=pure false) {tr:TE} (hr:PE X (.Call (.Name "sorted" p22) [.Call (.Attribute (.Name "counts" p23) "items" p24) [] [] p25] [⟨some "key",.Lambda params body scope p26,p27⟩] p28) tr) :
  PSs X (zle p1 p2 p3 p4 p5 p6 p7 p8 p9 p10 p11 p12 p13 p14 p15 p16 p17 p18 p19 p20 p21 p22 p23 p24 p25 p26 p27 p28 p29 params body scope)
   (tSeq (tAsg zii (zeO 1)) (tSeq (tFor (zna X.K (tVar 0)) (zeO 2) (zlT X.K)) (tRet tr))):=by
 have n0:X.N[0]?=some ("words":Str):=by rw[hN];rfl
 have n1:X.N[1]?=some ("counts":Str):=by rw[hN];rfl
 have n2:X.N[2]?=some ("word":Str):=by rw[hN];rfl
 have nd:X.N.Nodup:=by rw[hN];decide
 have v0:∀{p:Pos},PE X (.Name "words" p) (tVar 0):=zfk n0 (.inl h0)
 have v1:∀{p:Pos},PE X (.Name "counts" p) (tVar 1):=zfk n1 (.inl h1)
 have v2:∀{p:Pos},PE X (.Name "word" p) (tVar 2):=zfk n2 (.inl h2)
 have hp:PassesOwn (model X.prog X.w) X.A X.env X.xe:=by rw[hx];exact PassesOwn.never
 refine zbl (ziJ nd n1 (.inl h1) zgR hw (.inr h1)) (zbl (zlp hp hc (zmI v0) (zf7 nd n2 (.inl h2) (.inr h2)) (zf6 (zoD (ziH zmQ v2 zlr (zlu _)) (zf6 (zmD hu v1 v2 (zoM zlt (zgS hu v1 v2 ziQ m2) ziQ) hs)) ziI))) (zf6 (zlo hr)))
theorem zet {os:List (Option Int)}{i:Nat}{o:Option Int}(h:os[i]?=some o):os.take (i+1)=os.take i++[o]:=by
 rw[List.take_add_one,h];rfl
theorem zgl (kvs:List (Int × Int))(os:List (Option Int))(o:Option Int):zah kvs (os++[o])=match o with|some x=>bump (zah kvs os) x|none=>zah kvs os:=by
 unfold zah
 rw[List.foldl_append]
 cases o<;>rfl
theorem ziu {K:PySem.W.Frag}{H:Hp}{a:Addr}{os:List (Option Int)}{Q:VK}{D0:Ends}{tr:TE}(hD:D0.rt=Q)(ha:H a=some (.lst (os.map wV)))(hl:os.length<=sizeLine)
  (fin:∀(p:Addr) (σ:L2.St),H p=none->σ[1]?=some (some (.ref p))->tr σ (upd H p (.dK (zbQ (zah [] os)))) Q) :
  (tSeq (tAsg zii (zeO 1)) (tSeq (tFor (zna K (tVar 0)) (zeO 2) (zlT K)) (tRet tr))) D0 (start ["words","counts","word"] [.ref a]) H:=by
 intro p hp
 have nap:a≠p:=zal ha hp
 refine⟨.ref a,rfl,a,rfl,⟨_,SqL.of ((zai nap).trans ha)⟩,?_⟩
 refine zkV (xs:=os.map wV) (fun i σ H'=>(∃z,σ=[some (.ref a),some (.ref p),z])/\H'=upd H p (.dK (zbQ (zah [] (os.take i))))) ⟨⟨none,rfl⟩,rfl⟩ (fun i σ H' _ h=>?_) (fun i x σ H' hx h=>?_) fun σ H' h=>?_
 · rw[h.2];exact SqL.of ((zai nap).trans ha)
 · obtain⟨⟨z,rfl⟩,rfl⟩:=h
   rw[List.getElem?_map] at hx
   cases e:os[i]? with
   |none=>rw[e] at hx;cases hx
   | some o =>
     rw[e] at hx
     cases hx
     have hi:i<os.length:=(List.getElem?_eq_some_iff.mp e).1
     show zlT K _ [some (.ref a),some (.ref p),some (wV o)] _
     refine⟨wV o,rfl,rfl,_,rfl,?_⟩
     rw[zet e,zgl]
     cases o with
     |none=>exact⟨⟨_,rfl⟩,rfl⟩
     | some w =>
       obtain⟨c,c1,c2⟩:=zgO (zah [] (os.take i)) w (zbc _ List.nodup_nil)
       have hlen:(zbQ (zah [] (os.take i))).length<sizeLine:=by
        have:=zek (os.take i)
        rw[List.length_take] at this
        unfold zbQ
        rw[List.length_map]
        omega
       refine⟨.ref p,rfl,p,rfl,.inl ⟨_,.inl zap⟩,.int w,rfl,_,DGet.k (k:=.inl w) zap,c,1,c1,rfl,.ref p,rfl,.int w,rfl,p,_,rfl,DPut.k (k:=.inl w) zap hlen,⟨⟨_,rfl⟩,?_⟩⟩
       rw[zlN,c2]
 · obtain⟨⟨z,rfl⟩,rfl⟩:=h
   rw[List.length_map,List.take_length]
   show tr _ _ D0.rt
   rw[hD]
   exact fin p _ hp rfl
theorem zhv {K:PySem.W.Frag}{ι:List Addr}{H H2:Hp}{S:R.St}{p v D0:Addr}{o1 o2:HO}{os:List (Option Int)}{ts:List Addr}(hh:RH K ι H S)(hp:H p=none)(hv:upd H p o1 v=none)(x:Ext [] (upd (upd H p o1) v o2) [] H2)(hD:upd (upd H p o1) v o2 D0=none)
  (h2:H2 D0=some (.lst (ts.map V.ref))) (hl:ts.length=(zah [] os).length) (ht:∀(j:Nat) (t:Addr),ts[j]?=some t->∃r:Int × Int,(zbx (zah [] os))[j]?=some r/\H2 t=some (.tup [.int r.1,.int r.2])) :
  Ext ι H (ι++[D0]) H2/\RH K (ι++[D0]) H2 (S.push (.lst (talD os))):=by
 have k1:Kp H (upd (upd H p o1) v o2):=(Kp.new hp o1).trans (Kp.new hv o2)
 have up:∀a o,H a=some o->upd (upd H p o1) v o2 a=some o:=fun a o e=>by
  have e1:upd H p o1 a=some o:=(zai (zal e hp)).trans e
  exact (zai (zal e1 hv)).trans e1
 have hDn:H D0=none:=by
  cases e:H D0 with
  |none=>rfl
  |some o=>rw[up _ _ e] at hD;cases hD
 have hDi:D0∉ι:=hh.fresh hDn
 have ex:Ext ι H (ι++[D0]) H2:=⟨List.prefix_append _ _,k1.trans x.kp,fun a o h e=>⟨(x.rest a o (by simp) (up a o e)).1,fun z=>by
  rcases List.mem_append.mp z with z|z
  · exact h z
  · simp at z;exact zal e hDn z⟩⟩
 refine⟨ex,hh.add ex (fun a hm=>?_) hDi ⟨_,h2,RVs.ofGet ?_ fun i d w e1 e2=>?_⟩⟩
 · obtain⟨o,e,_,_,nt⟩:=hh.live hm
   rw[e]
   exact x.keep (by simp) (up a o e) nt
 · unfold talD
   rw[List.length_map,List.length_map,hl]
   unfold zbx
   rw[List.length_mergeSort]
 · rw[List.getElem?_map] at e2
   unfold talD at e1
   rw[List.getElem?_map] at e1
   cases z:ts[i]? with
   |none=>rw[z] at e2;cases e2
   | some t =>
     rw[z] at e2;cases e2
     obtain⟨r,r1,r2⟩:=ht i t z
     rw[r1] at e1;cases e1
     exact⟨t,_,rfl,r2,_,_,rfl,rfl,_,_,rfl,rfl,rfl⟩
end
end R
end
section
namespace R
open PySem PySem.Spec PyProof.Rows L2
variable [Mks]
theorem zeB {S:R.St}{ds:List D}{Q:D->R.St->Prop}(h:W (prm S .tally ds) Q):∃l ws os,ds=[.ref l]/\S.get l=some (.lst ws)/\zbL ws=some os/\(zah [] os).length<64/\os.length<=16777216/\Q (.ref S.len) (S.push (.lst (talD os))):=by
 unfold prm at h
 split at h
 · rename_i l _
   split at h
   · rename_i ws e
     split at h
     · rename_i os e2
       split at h
       · rename_i c
         exact⟨l,ws,os,rfl,e,e2,c.1,c.2,h⟩
       · exact h.elim
     · exact h.elim
   · exact h.elim
 · exact h.elim
structure TallySt (st:Stmt):Prop where
 ex:∃(p1 p2 p3 p4 p5 p6 p7 p8 p9 p10 p11 p12 p13 p14 p15 p16 p17 p18 p19 p20 p21 p22 p23 p24 p25 p26 p27 p28 p29:Pos) (params:Arguments) (body:Expr) (scope:Scope),zae st=zle p1 p2 p3 p4 p5 p6 p7 p8 p9 p10 p11 p12 p13 p14 p15 p16 p17 p18 p19 p20 p21 p22 p23 p24 p25 p26 p27 p28 p29 params body scope/\
  (p13.endLine == p16.line)=true/\(p24.endLine == p25.line)=true/\(∀env,defaultsOf params env=([],[]))/\(∀env,closureFor scope env=pure [])/\FnScope ["row"] ["row"] scope/\chkE zcc zc9 ["row"] scope body=true/\
  ∀(q:Str) (pm cd ct u:Value),bindArgs (PySem.W.kla_fn "<lambda>" q params body scope [] pm cd ct) ⟨[u],[]⟩=pure [(("row":Str),u)]
 sc:FnScope ["words","counts","word"] ["words"] (zac st)
 h0:(zac st).names.lookup ("words":Str)=some .local
 h1:(zac st).names.lookup ("counts":Str)=some .local
 h2:(zac st).names.lookup ("word":Str)=some .local
 hg:(zac st).names.lookup ("sorted":Str)=some .globalImplicit
theorem zjR {P:Program}{w:World}{K:PySem.W.Frag}{mg:Str->Option Value}{base:Heap}{Pg:List Fn}{n fi:Nat}{x qual:Str}{st:Stmt}{f c Tb:Addr}{oc:Value}{od an:Option Addr}{osl:Array (Option Value)}{dV kV doc pm ct:Value}{F:Fn}
  (lk:K.lookup f=some ⟨oc,od,.func (PySem.W.fnOf x qual (zaq st) (zae st) (zac st) dV kV doc pm an (.ref c) ct),osl⟩) (hcd:PySem.W.codeIn K (.ref c) qual=true) (hC:PySem.W.codeHdIn K c Tb=true) (T:TallySt st) (bm:BM mg base)
  (mem:(Tb,qual ++ ".<locals>." ++ "<lambda>")∈Mks.ts) (one:∀p∈Mks.ts,p.1=Tb->p.2=qual ++ ".<locals>." ++ "<lambda>") (hm:mg "sorted"=none) (hP:Pg[fi]?=some F) (hq:F.prim=some .tally) (hp:F.np=1) (hn:3<=n) :
  FnOk P w K mg base CX0 (n+2) f (PySem.W.fnOf x qual (zaq st) (zae st) (zac st) dV kV doc pm an (.ref c) ct) ["words"] (spF K (callF Pg (n+1)) fi):=by
 obtain⟨p1,p2,p3,p4,p5,p6,p7,p8,p9,p10,p11,p12,p13,p14,p15,p16,p17,p18,p19,p20,p21,p22,p23,p24,p25,p26,p27,p28,p29,params,body,scope,eb,l1,l2,hdef,hcl,hs,ck,hb⟩:=T.ex
 refine zpp lk hcd T.sc (fun vs H Q E h=>zcS (ps:=["words"]) hP hp h) fun A outer s H vs Q E hr h=>?_
 obtain⟨ι,S0,ds,r,hh,hw⟩:=h
 simp only[callF,hP,hq,hn,if_true] at hw
 split at hw
 · obtain⟨l,ws,os,rfl,hg,ho,c64,cl,q⟩:=zeB hw
   have room:Room 2 ((cxOf CX0 P w K mg base ["words","counts","word"] qual (zac st) f (.ref c) A outer s H E).nox).A.in1.in1:=((hr.mono (Nat.succ_le_succ hn)).in1).in1
   have hu:((cxOf CX0 P w K mg base ["words","counts","word"] qual (zac st) f (.ref c) A outer s H E).nox).A.units+1<cLine:=by have:=hr.un;show (A.deeper _).units+1<_;omega
   have mk:Maker ((cxOf CX0 P w K mg base ["words","counts","word"] qual (zac st) f (.ref c) A outer s H E).nox) c Tb:=⟨bm,rfl,hC,mem,one⟩
   have hpe:=zkm (X:=(cxOf CX0 P w K mg base ["words","counts","word"] qual (zac st) f (.ref c) A outer s H E).nox) (p:=p22) (lpos:=p26) (kpos:=p27) (pos:=p28) (zfk (pos:=p23) (i:=1) (x:="counts") rfl (.inl T.h1)) (apos:=p24) (cpos:=p25) ⟨rfl,rfl,l2⟩ T.hg hm room mk (hdef _) (hcl _) hs (hb _) ck
   have ht:=zki (X:=(cxOf CX0 P w K mg base ["words","counts","word"] qual (zac st) f (.ref c) A outer s H E).nox) (p1:=p1) (p2:=p2) (p3:=p3) (p4:=p4) (p5:=p5) (p6:=p6) (p7:=p7) (p8:=p8) (p9:=p9) (p10:=p10) (p11:=p11) (p12:=p12) (p13:=p13) (p14:=p14) (p15:=p15) (p16:=p16) (p17:=p17) (p18:=p18) (p19:=p19) (p20:=p20) (p21:=p21) (p29:=p29)
    rfl T.h0 T.h1 T.h2 rfl rfl hu ⟨rfl,rfl,l1,rfl⟩ rfl rfl hpe
   refine⟨_,by rw[eb];exact ht.nox,?_⟩
   obtain⟨v,r0,rfl,rv,rn⟩:=r
   cases (show r0=[] from rn)
   obtain⟨a,ia,rfl⟩:=rv
   obtain⟨b,ib,xs,hb2,rr⟩:=hh.obj l _ hg
   rw[ia] at ib;cases ib
   rw[zeX ho] at rr
   cases zen rr
   refine ziu rfl hb2 (by rw[sizeLine_eq];exact cl) fun p σ hp1 hσ=>?_
   refine⟨.ref p,hσ,p,_,rfl,zap,fun v hv=>⟨v,p,_,rfl,zap,?_,c64,?_,fun D0 H2 ts x hD h2 hl ht=>?_⟩⟩
   · rw[zai (zal zap hv)];exact zap
   · exact (Kp.new hv _).tab ((Kp.new hp1 _).tab hh.tab)
   · obtain⟨ex,rh⟩:=zhv hh hp1 hv x hD h2 hl ht
     exact q _ _ (ι++[D0]) ex ⟨D0,hh.last D0,rfl⟩ rh
 · exact hw.elim
end R
end
section
namespace R
noncomputable def oD:Option Int->D|some i=>.int i|none=>.non
theorem zgw:∀os:List (Option Int),zbL (os.map oD)=some os
 | []=>rfl
 | o :: os => by
   unfold zbL
   rw[List.map_cons,List.mapM_cons,show (os.map oD).mapM zd4=some os from zgw os]
   cases o<;>rfl
theorem zjl (n:Nat)(os:List (Option Int)):flats n (talD os)=true:=by
 rw[zaW]
 intro d hd
 obtain⟨r,_,rfl⟩:=List.mem_map.mp hd
 simp[rowD]
theorem zjH {P:List Fn}{F:Fn}{f n l:Nat}{S:R.St}{os:List (Option Int)}(hP:P[f]?=some F)(hq:F.prim=some .tally)(hn:F.np=1)(h:S.get l=some (.lst (os.map oD)))(hc:(zah [] os).length<64)(hl:os.length<=16777216):app (callF P (n+4)) f [.ref l] S=.ok (.ref S.len) (S.push (.lst (talD os))):=by
 have e:callF P (n+4) f [.ref l] S.enter=.ok (.ref S.len) (S.enter.push (.lst (talD os))):=by
  have h3:3<=n+3:=by omega
  simp only[callF,hP,hq,hn,List.length_cons,List.length_nil,Nat.zero_add,if_true,h3]
  unfold prm
  dsimp only
  rw[zaL,h]
  dsimp only
  rw[zgw]
  dsimp only
  rw[if_pos ⟨hc,hl⟩,enter_len]
 unfold app
 rw[e,zbR]
 unfold zcX
 have hg:(S.enter.push (.lst (talD os))).get S.len=some (.lst (talD os)):=by
  have:=zkT (S.frz++S.new) [.lst (talD os)] []
  rw[zdB] at this
  exact this
 rw[if_neg (by simp[flat])]
 dsimp only
 rw[hg]
 dsimp only
 rw[if_pos (zjl _ _)]
theorem zjS (rows:List (Int × Int)):(zbx rows).Perm rows:=List.mergeSort_perm rows zcT
theorem tal_mem {rows:List (Int × Int)}{r:Int × Int}:r∈zbx rows↔r∈rows:=(zjS rows).mem_iff
theorem zhw (rows:List (Int × Int)):(zbx rows).Pairwise fun a b=>zcT a b=true:=by
 refine List.pairwise_mergeSort (fun a b c h1 h2=>?_) (fun a b=>?_) rows
 · simp only[zcT,decide_eq_true_eq] at h1 h2⊢;omega
 · simp only[zcT,Bool.or_eq_true,decide_eq_true_eq];omega
open PySem (PyData)
theorem zeJ {α β:Type}{f:α->Option β}:∀{xs:List α} {ys:List β},xs.mapM f=some ys->∀y∈ys,∃x∈xs,f x=some y
 | [],ys,h,y,hy=>by simp at h;subst h;cases hy
 | x :: xs, ys, h, y, hy => by
   rw[List.mapM_cons] at h
   cases e:f x with
   |none=>rw[e] at h;cases h
   | some z =>
     rw[e] at h
     cases e2:xs.mapM f with
     |none=>rw[e2] at h;cases h
     | some zs =>
       rw[e2] at h
       injection h with h
       subst h
       rcases List.mem_cons.mp hy with rfl|hy
       · exact⟨x,by simp,e⟩
       · obtain⟨u,hu,eu⟩:=zeJ e2 y hy
         exact⟨u,by simp[hu],eu⟩
theorem zcx:∀{xs:List PyData},(∀x∈xs,PyData.eqv x x=true)->PyData.eqvAll xs xs=true
 | [],_=>by simp[PyData.eqvAll]
 |x::xs,h=>by simp[PyData.eqvAll,h x (by simp),zcx (xs:=xs) fun y hy=>h y (by simp[hy])]
theorem zmP {S:St}:∀{n:Nat} {d:D} {a:PyData},pd S n d=some a->PyData.eqv a a=true:=by
 intro n
 induction n with
 | zero =>
   intro d a h
   cases d<;>simp only[pd] at h
   · cases h;simp[PyData.eqv]
   · cases h;simp[PyData.eqv]
   · cases h;simp[PyData.eqv]
   · split at h
     · cases h;simp[PyData.eqv]
     · cases h
   · cases h
   · cases h
   · cases h
 | succ n ih =>
   intro d a h
   cases d<;>simp only[pd] at h
   · cases h;simp[PyData.eqv]
   · cases h;simp[PyData.eqv]
   · cases h;simp[PyData.eqv]
   · split at h
     · cases h;simp[PyData.eqv]
     · cases h
   · rename_i ds
     cases e:ds.mapM (pd S n) with
     |none=>rw[e] at h;cases h
     | some xs =>
       rw[e] at h
       cases h
       rw[PyData.eqv]
       exact zcx fun x hx=>let ⟨d,_,hd⟩:=zeJ e x hx;ih hd
   · split at h
     · rename_i ds _
       cases e:ds.mapM (pd S n) with
       |none=>rw[e] at h;cases h
       | some xs =>
         rw[e] at h
         cases h
         rw[PyData.eqv]
         exact zcx fun x hx=>let ⟨d,_,hd⟩:=zeJ e x hx;ih hd
     · cases h
   · cases h
theorem zlC {S:St}{x y:D}{a:PyData}(h1:pd S 60 x=some a)(h2:pd S 60 y=some a):eqD S x y=some true:=by
 unfold eqD
 rw[h1,h2]
 exact congrArg some (zmP h1)
theorem ziR {S:St}{l n:Nat}{ds:List D}{xs:List PyData}(h:S.get l=some (.lst ds))(e:ds.mapM (pd S n)=some xs):pd S (n+1) (.ref l)=some (.list xs):=by
 simp only[pd,h,e];rfl
theorem zkZ {S:St}{a:Nat}{ds:List D}(h:S.get a=some (.lst ds)):dKvs S (.ref a)=none:=by unfold dKvs;dsimp only;rw[h]
theorem zjp {S:St}{a:Nat}{y:D}{ds:List D}(h:S.get a=some (.lst ds)):zda S (.ref a) y=eqD S (.ref a) y:=by unfold zda;rw[zkZ h]
theorem zgm {S:St}{a b:Nat}{ds:List D}{xs:List PyData}(h1:S.get a=some (.lst ds))(h2:S.get b=some (.lst ds))(e:ds.mapM (pd S 59)=some xs):cmpO S .NotEq (.ref a) (.ref b)=some false:=by
 show (zda S (.ref a) (.ref b)).map (!·)=_
 rw[zjp h1,zlC (ziR h1 e) (ziR h2 e)];rfl
theorem zaY (S:St)(o:MO):(S.push o).get S.len=some o:=by
 have h:¬S.len<S.frz.length:=by unfold St.len;omega
 unfold St.get St.push
 simp only[h,if_false]
 unfold St.len
 simp
theorem zaV {S:St}{l:Nat}{o u:MO}(e:S.get l=some u):(S.push o).get l=some u:=by
 have h:=zbn e
 unfold St.len at h
 unfold St.get at e⊢
 unfold St.push
 simp only
 split
 · rename_i c;rw[if_pos c] at e;exact e
 · rename_i c;rw[if_neg c] at e;rw[List.getElem?_append_left (by omega)];exact e
theorem zke {S:St}{l:Nat}(o:MO)(h1:S.frz.length<=l)(h2:S.lk.contains l=false):∃S',S.put l o=some S'/\S'.frz=S.frz/\S'.lk=S.lk/\S'.len=S.len/\(∀m,m≠l->S'.get m=S.get m)/\(l<S.len->S'.get l=some o):=by
 refine⟨{S with new:=S.new.set (l - S.frz.length) o},?_,rfl,rfl,by simp[St.len],fun m hm=>?_,fun hl=>?_⟩
 · unfold St.put
   rw[if_neg (by omega),h2];rfl
 · unfold St.get
   simp only
   split
   · rfl
   · rw[List.getElem?_set_ne (by omega)]
 · unfold St.len at hl
   unfold St.get
   simp only[show ¬l<S.frz.length by omega,if_false]
   rw[List.getElem?_set_self (by omega)]
theorem zec (p:List Int):zcY (.tup (p.map .int))=some p:=by
 show zcI (p.map .int)=some p
 unfold zcI
 induction p with
 |nil=>rfl
 |cons k ks ih=>rw[List.map_cons,List.mapM_cons,ih];rfl
theorem zdO {S:St}{l:Nat}{kvs:List (List Int × D)}(h:S.get l=some (.dtp kvs))(p:List Int):dGet S (.ref l) (.tup (p.map .int))=some (valP kvs p):=by
 unfold dGet
 dsimp only
 rw[h]
 dsimp only
 rw[zec];rfl
theorem znl (S:St)(i j:Int):eqD S (.int i) (.int j)=some (i == j):=by
 unfold eqD
 have e:∀k,pd S 60 (.int k)=some (.int k):=fun k=>rfl
 rw[e,e]
 show some (PyData.eqv (.int i) (.int j))=_
 rw[L2.eqv_int]
theorem zkP (S:St)(x:Int):∀ks:List Int,inD S (.int x) (ks.map .int)=some (decide (x∈ks)):=by
 intro ks
 have e:(ks.map D.int).mapM (fun z=>eqD S z (.int x))=some (ks.map fun k=>k == x):=by
  induction ks with
  |nil=>rfl
  |cons k ks ih=>rw[List.map_cons,List.mapM_cons,znl,ih];rfl
 have f:∀ks:List Int,((ks.map fun k=>k == x).any id)=decide (x∈ks):=by
  intro ks
  induction ks with
  |nil=>rfl
  | cons k ks ih =>
    rw[List.map_cons,List.any_cons,ih]
    by_cases c:k=x
    · subst c;simp
    · have c':¬x=k:=fun z=>c z.symm
      have b:(k == x)=false:=beq_eq_false_iff_ne.mpr c
      simp only[b,id,Bool.false_or,List.mem_cons,c',false_or]
 unfold inD
 rw[e]
 exact congrArg some (f ks)
theorem zcF (S:St)(x:Int)(ks:List Int):cmpO S .NotIn (.int x) (.tup (ks.map .int))=some (!decide (x∈ks)):=by
 show ((some (ks.map D.int)).bind fun ys=>inD S (.int x) ys).map (!·)=_
 rw[Option.bind_some,zkP];rfl
noncomputable def cntZ (os:List (Option Int)):Option Int->Int
 |some w=>(os.count (some w):Nat)
 |none=>0
theorem zbh {α:Type}{os:List α}{i:Nat}{o:α}(h:os[i]?=some o):os.take (i+1)=os.take i++[o]:=by
 rw[List.take_add_one,h];rfl
theorem zcZ {α:Type}{xs:List α}{k:Nat}{x:α}(h:xs[k]?=some x):R.atI xs (k:Int)=some x:=by
 have hl:=(List.getElem?_eq_some_iff.mp h).1
 have e:R.ixN xs.length (k:Int)=some k:=by simp[R.ixN,hl]
 unfold R.atI
 rw[e];exact h
theorem zpJ {α:Type}{x:α}{xs:List α}:R.atI (x::xs) 0=some x:=by
 have:R.ixN (x::xs).length 0=some 0:=by simp[R.ixN]
 unfold R.atI;rw[this];rfl
noncomputable def cellZ (ns:List Int)(k:Nat):Int:=match ns[k]? with|some v=>v % 10 ^ 64|none=>0
end R
end
section
namespace R
noncomputable def topR (os:List (Option Int)):Int × Int:=match zbx (zah [] os) with|r::_=>r | []=>(0,0)
noncomputable def zcy (ws:List Int):Int:=(topR (ws.map some)).1
noncomputable def hnds (n:Nat):List Int:=(List.range n).map fun (k:Nat)=>(k:Int)
noncomputable def oth (n:Nat)(h:Int)(p:List Int):List Int:=(hnds n).filter fun o=>!decide (o=h)&&!decide (o∈p)
noncomputable def tkn (L:List Int->Option Int)(n:Nat)(h:Int):Nat->List Int->Int
 |0,p=>zcy [(L p).getD 0]
 |k+1,p=>zcy ((L p).getD 0::(oth n h p).map fun o=>tkn L n h k (p++[o]))
end R
end
section
namespace R
noncomputable def zlb (os:List (Option Int))(b:Int × Int):Prop:=((∀x,some x∉os)/\b=(0,0))\/(some b.1∈os/\b.2=cntZ os (some b.1)/\∀x,some x∈os->cntZ os (some x)<b.2\/(cntZ os (some x)=b.2/\b.1<=x))
theorem zi9 {os:List (Option Int)}{b d:Int × Int}(h:zlb os b)(k:zlb os d):b=d:=by
 obtain⟨b1,b2⟩:=b
 obtain⟨d1,d2⟩:=d
 rcases h with ⟨h1,h2⟩|⟨h1,h2,h3⟩
 · rcases k with ⟨k1,k2⟩|⟨k1,_⟩
   · rw[h2,k2]
   · exact absurd k1 (h1 _)
 · rcases k with ⟨k1,k2⟩|⟨k1,k2,k3⟩
   · exact absurd h1 (k1 _)
   · have p:=h3 _ k1
     have q:=k3 _ h1
     dsimp only at *
     have e:b1=d1:=by omega
     subst e
     rw[h2,k2]
theorem zlQ (os:List (Option Int)):zlb os (topR os):=by
 unfold topR
 cases e:zbx (zah [] os) with
 | nil =>
   refine .inl ⟨fun x hx=>?_,rfl⟩
   have:=(tal_mem (r:=(x,((os.count (some x):Nat):Int)))).mpr (counts_row.mpr ⟨hx,rfl⟩)
   rw[e] at this
   cases this
 | cons r rows =>
   have hr:r∈zah [] os:=tal_mem.mp (by rw[e];simp)
   obtain⟨r1,r2⟩:=r
   obtain⟨h1,h2⟩:=counts_row.mp hr
   refine .inr ⟨h1,h2,fun x hx=>?_⟩
   have:=(tal_mem (r:=(x,((os.count (some x):Nat):Int)))).mpr (counts_row.mpr ⟨hx,rfl⟩)
   have so:=zhw (zah [] os)
   rw[e] at this so
   rcases List.mem_cons.mp this with z|z
   · cases z;exact .inr ⟨rfl,Int.le_refl _⟩
   · have:=(List.pairwise_cons.mp so).1 _ z
     simp only[zcT,decide_eq_true_eq] at this
     show ((os.count (some x):Nat):Int)<r2\/_
     dsimp only at *
     show ((os.count (some x):Nat):Int)<r2\/(((os.count (some x):Nat):Int)=r2/\r1<=x)
     omega
theorem zhk:∀(ws:List Int) (y:Int),(ws.map some).count (some y)=ws.count y
 | [],_=>rfl
 |w::ws,y=>by simp[List.count_cons,zhk ws y]
structure Vp (n:Nat) (s:Int) (p:List Int):Prop where
 hd:p.head?=some s
 nd:p.Nodup
 rg:∀x∈p,0<=x/\x<n
section
variable {n t:Nat} {s word:Int} {liars:List Int} {L:Int->List Int->Option Int}
end
end R
end
section
namespace K31
noncomputable instance mks:R.Mks:=⟨[(30,"tally.<locals>.<lambda>")],[164]⟩
section
open PySem R L2
noncomputable def c_is_whole:Fn:=⟨1,1,(.ret (.and (.bi (.isin "int") (.cons (.loc 0) .nil)) (.nt (.bi (.isin "bool") (.cons (.loc 0) .nil)))) .nil),none⟩
noncomputable def c_is_hand:Fn:=⟨2,2,(.ret (.and (.call 0 0 (.cons (.loc 0) .nil)) (.cmp2 .LtE .Lt (.con (D.int 0)) (.loc 0) (.loc 1))) .nil),none⟩
noncomputable def zgu:Fn:=⟨1,3,.nil,some .tally⟩
noncomputable def c_most:Fn:=⟨1,2,(.asg 1 (.call 2 0 (.cons (.loc 0) .nil)) (.ret (.ite (.tst (.loc 1)) (.ix (.ix (.loc 1) (.con (D.int 0))) (.con (D.int 0))) (.con (D.int 0))) .nil)),none⟩
noncomputable def c_paths:Fn:=⟨4,6,(.ifS (.or (.nt (.cmp2 .LtE .LtE (.con (D.int 1)) (.loc 2) (.con (D.int 7)))) (.or (.nt (.tst (.call 1 0 (.cons (.loc 1) (.cons (.loc 0) .nil))))) (.cmp .Eq (.loc 1) (.loc 3)))) (.ret (.lst .nil) .nil) .nil (.asg 4 (.lst (.cons (.tup (.cons (.loc 1) .nil)) .nil)) (.forS [5] (.rng2 (.con (D.int 1)) (.loc 2)) (.asg 4 (.call 5 0 (.cons (.loc 4) (.cons (.loc 0) (.cons (.loc 3) .nil)))) .nil) (.ret (.loc 4) .nil)))),none⟩
noncomputable def c_lengthened:Fn:=⟨3,5,(.asg 3 (.lst .nil) (.forS [4] (.val (.loc 0)) (.expr (.ext (.loc 3) (.comp 1 [4,2] [0] (.rng1 (.loc 1)) (.and (.cmp .NotEq (.loc 0) (.loc 2)) (.cmp .NotIn (.loc 0) (.loc 1))) (.bin .Add (.loc 1) (.tup (.cons (.loc 0) .nil))))) .nil) (.ret (.loc 3) .nil))),none⟩
noncomputable def c_grown:Fn:=⟨5,8,(.asg 5 (.call 7 0 (.cons (.loc 3) (.cons (.loc 4) .nil))) (.asg 6 (.call 8 0 (.cons (.loc 0) (.cons (.loc 1) (.cons (.loc 2) (.cons (.loc 3) (.cons (.loc 4) .nil)))))) (.asg 7 (.call 3 0 (.cons (.bin .Add (.lst (.cons (.loc 5) .nil)) (.mkL (.comp 1 [] [0] (.val (.loc 6)) (.tst (.con (D.bl true))) (.ix (.loc 0) (.con (D.int 2)))))) .nil)) (.ret (.tup (.cons (.loc 3) (.cons (.loc 5) (.cons (.loc 7) (.cons (.loc 6) .nil))))) .nil)))),none⟩
noncomputable def c_held_for:Fn:=⟨2,3,(.asg 2 (.dget1 (.loc 1) (.loc 0)) (.ret (.ite (.cmp .Is (.loc 2) (.con D.non)) (.con (D.int 0)) (.loc 2)) .nil)),none⟩
noncomputable def c_grown_below:Fn:=⟨5,6,(.ifS (.cmp .GtE (.bi .len (.cons (.loc 3) .nil)) (.loc 1)) (.ret (.tup .nil) .nil) .nil (.asg 5 (.mkL (.comp 1 [2,3] [0] (.rng1 (.loc 0)) (.and (.cmp .NotEq (.loc 0) (.loc 1)) (.cmp .NotIn (.loc 0) (.loc 2))) (.loc 0))) (.ret (.mkT (.comp 1 [0,1,2,4,3] [0] (.val (.loc 5)) (.tst (.con (D.bl true))) (.call 6 0 (.cons (.loc 1) (.cons (.loc 2) (.cons (.loc 3) (.cons (.bin .Add (.loc 5) (.tup (.cons (.loc 0) .nil))) (.cons (.loc 4) .nil)))))))) .nil))),none⟩
noncomputable def c_law_cell_at:Fn:=⟨2,2,(.ifS (.cmp .Lt (.loc 1) (.bi .len (.cons (.loc 0) .nil))) (.ret (.bin .Mod (.ix (.loc 0) (.loc 1)) (.bin .Pow (.con (D.int 10)) (.con (D.int 64)))) .nil) .nil (.ret (.con (D.int 0)) .nil)),none⟩
noncomputable def c_law_word:Fn:=⟨2,3,(.asg 2 (.bin .FloorDiv (.loc 0) (.con (D.int 5))) (.ifS (.cmp .Eq (.bin .Mod (.loc 0) (.con (D.int 5))) (.con (D.int 0))) (.ret (.con D.non) .nil) .nil (.ifS (.cmp .Eq (.bin .Mod (.loc 0) (.con (D.int 5))) (.con (D.int 1))) (.ret (.bin .Mod (.loc 2) (.con (D.int 3))) .nil) .nil (.ifS (.cmp .Eq (.bin .Mod (.loc 0) (.con (D.int 5))) (.con (D.int 2))) (.ret (.loc 1) .nil) .nil (.ifS (.cmp .Eq (.bin .Mod (.loc 0) (.con (D.int 5))) (.con (D.int 3))) (.ret (.bin .Sub (.bin .Mod (.loc 2) (.bin .Sub (.bin .Mult (.con (D.int 2)) (.bin .Pow (.con (D.int 10)) (.con (D.int 60)))) (.con (D.int 1)))) (.bin .Sub (.bin .Pow (.con (D.int 10)) (.con (D.int 60))) (.con (D.int 1)))) .nil) .nil (.ret (.bin .Sub (.bin .Mod (.loc 2) (.con (D.int 5))) (.con (D.int 2))) .nil)))))),none⟩
noncomputable def c_law_whole:Fn:=⟨1,1,(.ret (.and (.bi (.isin "int") (.cons (.loc 0) .nil)) (.nt (.bi (.isin "bool") (.cons (.loc 0) .nil)))) .nil),none⟩
noncomputable def c_law_is_tuple:Fn:=⟨2,2,(.ifS (.or (.nt (.tst (.bi (.isin "tuple") (.cons (.loc 0) .nil)))) (.cmp .NotEq (.bi .len (.cons (.loc 0) .nil)) (.bi .len (.cons (.loc 1) .nil)))) (.ret (.con (D.bl false)) .nil) .nil (.ret (.and (.all (.comp 1 [] [0] (.val (.loc 0)) (.tst (.con (D.bl true))) (.call 11 0 (.cons (.loc 0) .nil)))) (.cmp .Eq (.loc 0) (.loc 1))) .nil)),none⟩
noncomputable def c_law_most:Fn:=⟨1,5,(.asg 1 (.ix (.loc 0) (.con (D.int 0))) (.asg 2 (.con (D.int 0)) (.forS [3] (.val (.loc 0)) (.asg 4 (.bi .len (.cons (.mkL (.comp 1 [3] [0] (.val (.loc 0)) (.cmp .Eq (.loc 0) (.loc 1)) (.loc 0))) .nil)) (.ifS (.or (.cmp .Gt (.loc 4) (.loc 2)) (.and (.cmp .Eq (.loc 4) (.loc 2)) (.cmp .Lt (.loc 3) (.loc 1)))) (.asg 1 (.loc 3) (.asg 2 (.loc 4) .nil)) .nil .nil)) (.ret (.loc 1) .nil)))),none⟩
noncomputable def c_law_holds:Fn:=⟨6,10,(.ifS (.or (.nt (.tst (.bi (.isin "tuple") (.cons (.loc 0) .nil)))) (.or (.cmp .NotEq (.bi .len (.cons (.loc 0) .nil)) (.con (D.int 4))) (.nt (.tst (.call 12 0 (.cons (.ix (.loc 0) (.con (D.int 0))) (.cons (.loc 4) .nil))))))) (.ret (.con (D.bl false)) .nil) .nil (.asg 6 (.dget1 (.loc 5) (.loc 4)) (.ifS (.cmp .Is (.loc 6) (.con D.non)) (.asg 6 (.con (D.int 0)) .nil) .nil (.ifS (.or (.nt (.tst (.call 11 0 (.cons (.ix (.loc 0) (.con (D.int 1))) .nil)))) (.or (.cmp .NotEq (.ix (.loc 0) (.con (D.int 1))) (.loc 6)) (.or (.nt (.tst (.call 11 0 (.cons (.ix (.loc 0) (.con (D.int 2))) .nil)))) (.nt (.tst (.bi (.isin "tuple") (.cons (.ix (.loc 0) (.con (D.int 3))) .nil))))))) (.ret (.con (D.bl false)) .nil) .nil (.asg 7 (.lst .nil) (.ifS (.cmp .Lt (.bi .len (.cons (.loc 4) .nil)) (.loc 2)) (.asg 7 (.mkL (.comp 1 [3,4] [0] (.rng1 (.loc 1)) (.and (.cmp .NotEq (.loc 0) (.loc 1)) (.cmp .NotIn (.loc 0) (.loc 2))) (.loc 0))) .nil) .nil (.ifS (.cmp .NotEq (.bi .len (.cons (.ix (.loc 0) (.con (D.int 3))) .nil)) (.bi .len (.cons (.loc 7) .nil))) (.ret (.con (D.bl false)) .nil) .nil (.asg 8 (.lst (.cons (.ix (.loc 0) (.con (D.int 1))) .nil)) (.forS [9] (.rng1 (.bi .len (.cons (.loc 7) .nil))) (.ifS (.nt (.tst (.call 14 0 (.cons (.ix (.ix (.loc 0) (.con (D.int 3))) (.loc 9)) (.cons (.loc 1) (.cons (.loc 2) (.cons (.loc 3) (.cons (.bin .Add (.loc 4) (.tup (.cons (.ix (.loc 7) (.loc 9)) .nil))) (.cons (.loc 5) .nil))))))))) (.ret (.con (D.bl false)) .nil) .nil (.expr (.mt .append (.loc 8) (.cons (.ix (.ix (.ix (.loc 0) (.con (D.int 3))) (.loc 9)) (.con (D.int 2))) .nil)) .nil)) (.ret (.cmp .Eq (.ix (.loc 0) (.con (D.int 2))) (.call 13 0 (.cons (.loc 8) .nil))) .nil)))))))))),none⟩
noncomputable def c_law_paths:Fn:=⟨4,8,(.asg 4 (.lst (.cons (.tup (.cons (.loc 1) .nil)) .nil)) (.ifS (.cmp .Eq (.loc 1) (.loc 3)) (.asg 4 (.lst .nil) .nil) .nil (.forS [5] (.rng1 (.bin .Sub (.loc 2) (.con (D.int 1)))) (.asg 6 (.lst .nil) (.forS [7] (.val (.loc 4)) (.expr (.ext (.loc 6) (.comp 1 [7,3] [0] (.rng1 (.loc 0)) (.and (.cmp .NotEq (.loc 0) (.loc 2)) (.cmp .NotIn (.loc 0) (.loc 1))) (.bin .Add (.loc 1) (.tup (.cons (.loc 0) .nil))))) .nil) (.asg 4 (.loc 6) .nil))) (.ret (.loc 4) .nil)))),none⟩
noncomputable def c_law_due:Fn:=⟨4,11,(.asgT [4,5,6] (.loc 0) (.asg 7 (.lst .nil) (.ifS (.and (.cmp .Eq (.loc 4) (.loc 6)) (.cmp .Eq (.loc 2) (.con (D.int 1)))) (.ret (.mkL (.comp 1 [1,6] [0] (.rng1 (.loc 5)) (.cmp .NotEq (.loc 0) (.loc 2)) (.tup (.cons (.tup (.cons (.loc 2) .nil)) (.cons (.loc 0) (.cons (.loc 1) .nil)))))) .nil) .nil (.ifS (.or (.cmp .Eq (.loc 4) (.loc 6)) (.cmp .Eq (.loc 2) (.con (D.int 1)))) (.ret (.lst .nil) .nil) .nil (.forS [8] (.callL 15 0 (.cons (.loc 5) (.cons (.loc 6) (.cons (.bin .Sub (.loc 2) (.con (D.int 1))) (.cons (.loc 4) .nil))))) (.asg 9 (.dget1 (.loc 3) (.loc 8)) (.ifS (.cmp .Is (.loc 9) (.con D.non)) (.asg 9 (.con (D.int 0)) .nil) .nil (.asg 10 (.bin .Add (.loc 8) (.tup (.cons (.loc 4) .nil))) (.expr (.ext (.loc 7) (.comp 1 [10,9] [0] (.rng1 (.loc 5)) (.cmp .NotIn (.loc 0) (.loc 1)) (.tup (.cons (.loc 1) (.cons (.loc 0) (.cons (.loc 2) .nil)))))) .nil)))) (.ret (.loc 7) .nil)))))),none⟩
noncomputable def c_law_alike:Fn:=⟨2,4,(.ifS (.or (.nt (.tst (.bi (.isin "list") (.cons (.loc 0) .nil)))) (.cmp .NotEq (.bi .len (.cons (.loc 0) .nil)) (.bi .len (.cons (.loc 1) .nil)))) (.ret (.con (D.bl false)) .nil) .nil (.forS [2,3] (.zip (.loc 0) (.loc 1)) (.ifS (.or (.nt (.tst (.bi (.isin "tuple") (.cons (.loc 2) .nil)))) (.or (.cmp .NotEq (.bi .len (.cons (.loc 2) .nil)) (.con (D.int 3))) (.nt (.tst (.call 12 0 (.cons (.ix (.loc 2) (.con (D.int 0))) (.cons (.ix (.loc 3) (.con (D.int 0))) .nil))))))) (.ret (.con (D.bl false)) .nil) .nil (.ifS (.or (.nt (.tst (.call 11 0 (.cons (.ix (.loc 2) (.con (D.int 1))) .nil)))) (.or (.nt (.tst (.call 11 0 (.cons (.ix (.loc 2) (.con (D.int 2))) .nil)))) (.cmp .NotEq (.loc 2) (.loc 3)))) (.ret (.con (D.bl false)) .nil) .nil .nil)) (.ret (.con (D.bl true)) .nil))),none⟩
noncomputable def c_law_digit:Fn:=⟨3,5,(.asg 3 (.call 9 0 (.cons (.loc 0) (.cons (.bin .Add (.loc 1) (.bin .FloorDiv (.loc 2) (.con (D.int 50)))) .nil))) (.forS [4] (.rng1 (.bin .Mod (.loc 2) (.con (D.int 50)))) (.asg 3 (.bin .FloorDiv (.loc 3) (.con (D.int 12))) .nil) (.ret (.bin .Mod (.loc 3) (.con (D.int 12))) .nil))),none⟩
noncomputable def c_law_small:Fn:=⟨2,2,(.ifS (.cmp .Eq (.loc 0) (.con (D.int 1))) (.ret (.con D.non) .nil) .nil (.ifS (.cmp .Eq (.loc 0) (.con (D.int 2))) (.ret (.loc 1) .nil) .nil (.ret (.bin .Sub (.loc 0) (.con (D.int 6))) .nil))),none⟩
noncomputable def c_law_letters:Fn:=⟨4,9,(.asg 4 (.lst .nil) (.asg 5 (.bin .Add (.con (D.int 7)) (.bin .Mod (.bin .Add (.call 9 0 (.cons (.loc 0) (.cons (.con (D.int 5)) .nil))) (.bin .Mult (.con (D.int 613)) (.loc 1))) (.con (D.int 1046527)))) (.forS [6] (.rng1 (.bi .len (.cons (.loc 2) .nil))) (.asg 5 (.bin .Mod (.bin .Add (.bin .Add (.bin .Mult (.loc 5) (.con (D.int 1861))) (.bin .Mult (.con (D.int 4001)) (.loc 6))) (.con (D.int 77))) (.con (D.int 6700417))) (.asg 7 (.bin .FloorDiv (.loc 5) (.con (D.int 4))) (.ifS (.cmp .Lt (.bin .Add (.loc 1) (.loc 6)) (.bi .len (.cons (.loc 0) .nil))) (.asg 7 (.call 9 0 (.cons (.loc 0) (.cons (.bin .Add (.loc 1) (.loc 6)) .nil))) .nil) .nil (.asg 8 (.call 18 0 (.cons (.loc 0) (.cons (.con (D.int 6)) (.cons (.bin .Add (.bin .Sub (.loc 1) (.con (D.int 6))) (.loc 6)) .nil)))) (.ifS (.cmp .Eq (.bin .Mod (.call 9 0 (.cons (.loc 0) (.cons (.con (D.int 5)) .nil))) (.con (D.int 2))) (.con (D.int 1))) (.ifS (.cmp .Gt (.loc 8) (.con (D.int 0))) (.expr (.mt .append (.loc 4) (.cons (.tup (.cons (.ix (.loc 2) (.loc 6)) (.cons (.call 19 0 (.cons (.loc 8) (.cons (.loc 3) .nil))) .nil))) .nil)) .nil) .nil .nil) (.ifS (.cmp .NotEq (.bin .Mod (.loc 7) (.con (D.int 6))) (.con (D.int 5))) (.expr (.mt .append (.loc 4) (.cons (.tup (.cons (.ix (.loc 2) (.loc 6)) (.cons (.call 10 0 (.cons (.bin .FloorDiv (.loc 7) (.con (D.int 6))) (.cons (.loc 3) .nil))) .nil))) .nil)) .nil) .nil .nil) .nil))))) (.ret (.loc 4) .nil)))),none⟩
noncomputable def c_law_says:Fn:=⟨3,4,(.asg 3 (.meth "say" [(0,28)] (.loc 0) (.cons (.loc 1) .nil)) (.ifS (.nt (.tst (.call 17 0 (.cons (.loc 3) (.cons (.loc 2) .nil))))) (.ret (.con (D.bl false)) .nil) .nil (.expr (.clr (.loc 3)) (.ret (.call 17 0 (.cons (.meth "say" [(0,28)] (.loc 0) (.cons (.loc 1) .nil)) (.cons (.loc 2) .nil))) .nil)))),none⟩
noncomputable def c_law_again:Fn:=⟨2,2,(.ifS (.or (.cmp .Eq (.bi .len (.cons (.loc 0) .nil)) (.con (D.int 0))) (.cmp .NotEq (.bin .Mod (.loc 1) (.con (D.int 3))) (.con (D.int 1)))) (.ret (.lst .nil) .nil) .nil (.ret (.lst (.cons (.tup (.cons (.ix (.dkeys (.loc 0)) (.bin .Mod (.bin .FloorDiv (.loc 1) (.con (D.int 3))) (.bi .len (.cons (.loc 0) .nil)))) (.cons (.bin .Mod (.bin .FloorDiv (.loc 1) (.con (D.int 300))) (.con (D.int 1000))) .nil))) .nil)) .nil)),none⟩
noncomputable def c_law:Fn:=⟨1,19,(.asg 1 (.bin .Add (.con (D.int 1)) (.bin .Mod (.call 9 0 (.cons (.loc 0) (.cons (.con (D.int 0)) .nil))) (.con (D.int 7)))) (.asg 2 (.bin .Add (.con (D.int 1)) (.bin .Mod (.call 9 0 (.cons (.loc 0) (.cons (.con (D.int 1)) .nil))) (.bin .Add (.con (D.int 3)) (.bin .Mult (.con (D.int 5)) (.intb (.cmp .Lt (.loc 1) (.con (D.int 6)))))))) (.asg 3 (.bin .Mod (.call 9 0 (.cons (.loc 0) (.cons (.con (D.int 2)) .nil))) (.loc 1)) (.asg 4 (.bin .Mod (.call 9 0 (.cons (.loc 0) (.cons (.con (D.int 3)) .nil))) (.loc 1)) (.asg 5 (.bin .Sub (.bin .Mod (.call 9 0 (.cons (.loc 0) (.cons (.con (D.int 4)) .nil))) (.bin .Sub (.bin .Mult (.con (D.int 2)) (.bin .Pow (.con (D.int 10)) (.con (D.int 60)))) (.con (D.int 1)))) (.bin .Sub (.bin .Pow (.con (D.int 10)) (.con (D.int 60))) (.con (D.int 1)))) (.asg 6 (.con D.non) (.ifS (.cmp .Eq (.loc 3) (.loc 4)) (.asg 6 (.loc 5) .nil) .nil (.asg 7 (.mk 0 24 "OralHand" (.cons (.loc 3) (.cons (.loc 1) (.cons (.loc 2) (.cons (.loc 4) (.cons (.loc 6) .nil)))))) (.asg 8 .dnewT (.asg 9 (.con (D.int 6)) (.asg 10 (.bin .FloorDiv (.call 9 0 (.cons (.loc 0) (.cons (.con (D.int 5)) .nil))) (.con (D.int 2))) (.forS [11] (.rng2 (.con (D.int 1)) (.bin .Add (.loc 2) (.con (D.int 1)))) (.asg 12 (.call 16 0 (.cons (.tup (.cons (.loc 3) (.cons (.loc 1) (.cons (.loc 4) .nil)))) (.cons (.loc 6) (.cons (.loc 11) (.cons (.loc 8) .nil))))) (.ifS (.nt (.tst (.call 21 0 (.cons (.loc 7) (.cons (.loc 11) (.cons (.loc 12) .nil)))))) (.ret (.con (D.bl false)) .nil) .nil (.asg 13 (.call 15 0 (.cons (.loc 1) (.cons (.loc 4) (.cons (.loc 11) (.cons (.loc 3) .nil))))) (.asg 14 (.bin .Add (.call 20 0 (.cons (.loc 0) (.cons (.loc 9) (.cons (.loc 13) (.cons (.loc 5) .nil))))) (.call 22 0 (.cons (.loc 8) (.cons (.loc 10) .nil)))) (.asg 9 (.bin .Add (.loc 9) (.bi .len (.cons (.loc 13) .nil))) (.asg 10 (.bin .FloorDiv (.loc 10) (.con (D.int 300000))) (.asg 15 (.mkL (.val (.loc 14))) (.ifS (.or (.cmp .IsNot (.meth "hear" [(0,26)] (.loc 7) (.cons (.loc 11) (.cons (.loc 15) .nil))) (.con D.non)) (.cmp .NotEq (.loc 15) (.loc 14))) (.ret (.con (D.bl false)) .nil) .nil (.expr (.clr (.loc 15)) (.forS [16,17] (.val (.loc 14)) (.expr (.dsetd (.loc 8) (.loc 16) (.loc 17)) .nil) .nil)))))))))) (.asg 18 (.meth "tree" [(0,29)] (.loc 7) .nil) (.ifS (.or (.nt (.tst (.isc [0] "Hand" (.loc 7)))) (.cmp .NotEq (.meth "ending" [(0,25)] (.loc 7) .nil) (.ix (.loc 18) (.con (D.int 2))))) (.ret (.con (D.bl false)) .nil) .nil (.ifS (.cmp .NotEq (.tup (.cons (.fld (.loc 7) "number") (.cons (.fld (.loc 7) "many") (.cons (.fld (.loc 7) "rounds") .nil)))) (.tup (.cons (.loc 3) (.cons (.loc 1) (.cons (.loc 2) .nil))))) (.ret (.con (D.bl false)) .nil) .nil (.ifS (.cmp .Eq (.loc 3) (.loc 4)) (.ret (.and (.cmp .Eq (.bi .len (.cons (.loc 18) .nil)) (.con (D.int 4))) (.and (.call 12 0 (.cons (.bin .Add (.ix (.loc 18) (.con (D.int 0))) (.sl (.loc 18) true true (.con (D.int 1)) (.con (D.int 3)))) (.cons (.tup (.cons (.loc 4) (.cons (.loc 5) (.cons (.loc 5) .nil)))) .nil))) (.cmp .Eq (.ix (.loc 18) (.con (D.int 3))) (.tup .nil)))) .nil) .nil (.ret (.call 14 0 (.cons (.loc 18) (.cons (.loc 1) (.cons (.loc 2) (.cons (.loc 3) (.cons (.tup (.cons (.loc 4) .nil)) (.cons (.loc 8) .nil))))))) .nil))))))))))))))))),none⟩
noncomputable def c_OralHand_init:Fn:=⟨6,6,(.expr (.callC 30 "Hand" "__init__" (.cons (.loc 0) (.cons (.loc 1) (.cons (.loc 2) (.cons (.loc 3) .nil))))) (.setF (.loc 0) "sender" (.loc 4) (.setF (.loc 0) "word" (.loc 5) (.setF (.loc 0) "notes" .dnewT .nil)))),none⟩
noncomputable def c_OralHand_ending:Fn:=⟨1,1,(.ret (.ix (.meth "tree" [(0,29)] (.loc 0) .nil) (.con (D.int 2))) .nil),none⟩
noncomputable def c_OralHand_hear:Fn:=⟨3,5,(.forS [3,4] (.val (.loc 2)) (.expr (.dsetd (.fld (.loc 0) "notes") (.loc 3) (.ite (.cmp .Is (.loc 4) (.con D.non)) (.con (D.int 0)) (.loc 4))) .nil) .nil),none⟩
noncomputable def c_OralHand_letters_with:Fn:=⟨3,4,(.asg 3 (.bin .Add (.loc 1) (.tup (.cons (.fld (.loc 0) "number") .nil))) (.ret (.mkL (.comp 1 [3,2] [0] (.rng1 (.fld (.loc 0) "many")) (.cmp .NotIn (.loc 0) (.loc 1)) (.tup (.cons (.loc 1) (.cons (.loc 0) (.cons (.loc 2) .nil)))))) .nil)),none⟩
noncomputable def c_OralHand_say:Fn:=⟨2,4,(.ifS (.cmp .Eq (.loc 1) (.con (D.int 1))) (.ret (.ite (.cmp .Eq (.fld (.loc 0) "number") (.fld (.loc 0) "sender")) (.meth "letters_with" [(0,27)] (.loc 0) (.cons (.tup .nil) (.cons (.fld (.loc 0) "word") .nil))) (.lst .nil)) .nil) .nil (.asg 2 (.lst .nil) (.forS [3] (.callL 4 0 (.cons (.fld (.loc 0) "many") (.cons (.fld (.loc 0) "sender") (.cons (.bin .Sub (.loc 1) (.con (D.int 1))) (.cons (.fld (.loc 0) "number") .nil))))) (.expr (.extv (.loc 2) (.meth "letters_with" [(0,27)] (.loc 0) (.cons (.loc 3) (.cons (.dget2 (.fld (.loc 0) "notes") (.loc 3) (.con (D.int 0))) .nil)))) .nil) (.ret (.loc 2) .nil)))),none⟩
noncomputable def c_OralHand_tree:Fn:=⟨1,1,(.ifS (.cmp .Eq (.fld (.loc 0) "number") (.fld (.loc 0) "sender")) (.ret (.tup (.cons (.tup (.cons (.fld (.loc 0) "sender") .nil)) (.cons (.fld (.loc 0) "word") (.cons (.fld (.loc 0) "word") (.cons (.tup .nil) .nil))))) .nil) .nil (.ret (.call 6 0 (.cons (.fld (.loc 0) "many") (.cons (.fld (.loc 0) "rounds") (.cons (.fld (.loc 0) "number") (.cons (.tup (.cons (.fld (.loc 0) "sender") .nil)) (.cons (.fld (.loc 0) "notes") .nil)))))) .nil)),none⟩
noncomputable def c_Hand_init:Fn:=⟨4,4,(.setF (.loc 0) "number" (.loc 1) (.setF (.loc 0) "many" (.loc 2) (.setF (.loc 0) "rounds" (.loc 3) .nil))),none⟩
noncomputable def prog:List Fn:=[c_is_whole,c_is_hand,zgu,c_most,c_paths,c_lengthened,c_grown,c_held_for,c_grown_below,c_law_cell_at,c_law_word,c_law_whole,c_law_is_tuple,c_law_most,c_law_holds,c_law_paths,c_law_due,c_law_alike,c_law_digit,c_law_small,c_law_letters,c_law_says,c_law_again,c_law,c_OralHand_init,c_OralHand_ending,c_OralHand_hear,c_OralHand_letters_with,c_OralHand_say,c_OralHand_tree,c_Hand_init]
noncomputable def top (i:Nat):Stmt:=PySem.Challenge.pw_traitorround_k31_an_oral_hand.main.body.getD i (.Pass ⟨0,0,0,0⟩)
noncomputable abbrev za5:Stmt:=top 2
noncomputable abbrev zbg:Stmt:=top 3
noncomputable abbrev zcE:Stmt:=top 4
noncomputable abbrev zb8:Stmt:=top 5
noncomputable abbrev zbI:Stmt:=top 10
noncomputable abbrev zaJ:Stmt:=top 11
noncomputable abbrev zbJ:Stmt:=top 13
noncomputable abbrev za6:Stmt:=top 14
noncomputable abbrev zaF:Stmt:=top 15
noncomputable abbrev zaE:Stmt:=top 19
noncomputable abbrev za2:Stmt:=top 20
noncomputable abbrev zaM:Stmt:=top 21
noncomputable abbrev zaB:Stmt:=top 22
noncomputable abbrev za4:Stmt:=top 23
noncomputable abbrev zaP:Stmt:=top 24
noncomputable abbrev zaO:Stmt:=top 25
noncomputable abbrev zbf:Stmt:=top 26
noncomputable abbrev zaR:Stmt:=top 27
noncomputable abbrev zaQ:Stmt:=top 28
noncomputable abbrev zaN:Stmt:=top 29
noncomputable abbrev zaD:Stmt:=top 30
noncomputable abbrev za3:Stmt:=top 31
noncomputable abbrev zaS:Stmt:=top 32
noncomputable abbrev zb9:Stmt:=top 33
noncomputable def zgg (s:Stmt)(j:Nat):Stmt:=match s with|.ClassDef _ _ _ b _ _ _ _ _ _ _=>b.getD j (.Pass ⟨0,0,0,0⟩)|s=>s
noncomputable abbrev zaw:Stmt:=zgg (top 17) 0
noncomputable abbrev zar:Stmt:=zgg (top 17) 5
noncomputable abbrev zax:Stmt:=zgg (top 17) 3
noncomputable abbrev zak:Stmt:=zgg (top 17) 2
noncomputable abbrev zaC:Stmt:=zgg (top 17) 1
noncomputable abbrev zav:Stmt:=zgg (top 17) 4
noncomputable abbrev zaT:Stmt:=zgg (top 7) 0
noncomputable def tab:Tab:=⟨["all","bool","int","isinstance","len","list","range","sorted","tuple","zip"],[("STILL",(D.int 0)),("LONGEST",(D.int 7))],[("is_whole",["thing"],0),("is_hand",["thing","many"],0),("tally",["words"],0),("most",["words"],0),("paths",["many","sender","length","without"],1),("lengthened",["shorter","many","without"],0),("grown",["many","rounds","hand","path","notes"],0),("held_for",["path","notes"],0),("grown_below",["many","rounds","hand","path","notes"],0),("_law_cell_at",["_law_script","_law_k"],0),("_law_word",["_law_cell","_law_word_here"],0),("_law_whole",["_law_found"],0),("_law_is_tuple",["_law_found","_law_due_here"],0),("_law_most",["_law_words"],0),("_law_holds",["_law_tree","_law_many","_law_turns","_law_hand","_law_path","_law_notes"],0),("_law_paths",["_law_many","_law_sender","_law_size","_law_but"],0),("_law_due",["_law_hand","_law_own","_law_turn","_law_notes"],0),("_law_alike",["_law_found","_law_due_here"],0),("_law_digit",["_law_script","_law_at","_law_k"],0),("_law_small",["_law_digit_here","_law_word_here"],0),("_law_letters",["_law_script","_law_at","_law_some","_law_word_here"],0),("_law_says",["_law_hand","_law_turn","_law_due_here"],0),("_law_again",["_law_notes","_law_extra"],0),("law",["_law_script"],0)],["OralHand"],["number","many","rounds","sender","word","notes"],[(0,"ending",25),(0,"hear",26),(0,"letters_with",27),(0,"say",28),(0,"tree",29)],[(0,24)],[("Hand","__init__",30)],[("Hand",[0])]⟩
theorem zc7:FnScope ["self","number","many","rounds","sender","word"] ["self","number","many","rounds","sender","word"] (zac zaw):=⟨rfl,rfl,rfl,by decide +kernel,rfl,by decide +kernel,by decide +kernel⟩
theorem zdc:chkS tab c_OralHand_init.body ["self","number","many","rounds","sender","word"] (zac zaw) (zae zaw)=true:=by decide +kernel
theorem zcA:FnScope ["self"] ["self"] (zac zar):=⟨rfl,rfl,rfl,by decide +kernel,rfl,by decide +kernel,by decide +kernel⟩
theorem zcL:chkS tab c_OralHand_ending.body ["self"] (zac zar) (zae zar)=true:=by decide +kernel
theorem zc8:FnScope ["self","turn","letters","path","word"] ["self","turn","letters"] (zac zax):=⟨rfl,rfl,rfl,by decide +kernel,rfl,by decide +kernel,by decide +kernel⟩
theorem zdd:chkS tab c_OralHand_hear.body ["self","turn","letters","path","word"] (zac zax) (zae zax)=true:=by decide +kernel
theorem zbS:FnScope ["self","path","word","longer"] ["self","path","word"] (zac zak):=⟨rfl,rfl,rfl,by decide +kernel,rfl,by decide +kernel,by decide +kernel⟩
theorem zbU:chkS tab c_OralHand_letters_with.body ["self","path","word","longer"] (zac zak) (zae zak)=true:=by decide +kernel
theorem zdn:FnScope ["self","turn","letters","path"] ["self","turn"] (zac zaC):=⟨rfl,rfl,rfl,by decide +kernel,rfl,by decide +kernel,by decide +kernel⟩
theorem zdS:chkS tab c_OralHand_say.body ["self","turn","letters","path"] (zac zaC) (zae zaC)=true:=by decide +kernel
theorem zc6:FnScope ["self"] ["self"] (zac zav):=⟨rfl,rfl,rfl,by decide +kernel,rfl,by decide +kernel,by decide +kernel⟩
theorem zdb:chkS tab c_OralHand_tree.body ["self"] (zac zav) (zae zav)=true:=by decide +kernel
theorem zfb:FnScope ["self","number","many","rounds"] ["self","number","many","rounds"] (zac zaT):=⟨rfl,rfl,rfl,by decide +kernel,rfl,by decide +kernel,by decide +kernel⟩
theorem zfJ:chkS tab c_Hand_init.body ["self","number","many","rounds"] (zac zaT) (zae zaT)=true:=by decide +kernel
theorem zf1:FnScope ["thing"] ["thing"] (zac za5):=⟨rfl,rfl,rfl,by decide +kernel,rfl,by decide +kernel,by decide +kernel⟩
theorem zgr:chkS tab c_is_whole.body ["thing"] (zac za5) (zae za5)=true:=by decide +kernel
theorem zhz:FnScope ["thing","many"] ["thing","many"] (zac zbg):=⟨rfl,rfl,rfl,by decide +kernel,rfl,by decide +kernel,by decide +kernel⟩
theorem zhV:chkS tab c_is_hand.body ["thing","many"] (zac zbg) (zae zbg)=true:=by decide +kernel
theorem zjQ:TallySt zcE:=⟨⟨_,_,_,_,_,_,_,_,_,_,_,_,_,_,_,_,_,_,_,_,_,_,_,_,_,_,_,_,_,_,_,_,rfl,rfl,rfl,fun _=>rfl,fun _=>rfl,⟨rfl,rfl,rfl,by decide +kernel,rfl,by decide +kernel,by decide +kernel⟩,by decide +kernel,fun _ _ _ _ _=>rfl⟩,⟨rfl,rfl,rfl,by decide +kernel,rfl,by decide +kernel,by decide +kernel⟩,rfl,rfl,rfl,rfl⟩
theorem zmk:FnScope ["words","rows"] ["words"] (zac zb8):=⟨rfl,rfl,rfl,by decide +kernel,rfl,by decide +kernel,by decide +kernel⟩
theorem znt:chkS tab c_most.body ["words","rows"] (zac zb8) (zae zb8)=true:=by decide +kernel
theorem zj5:FnScope ["many","sender","length","without","found","step"] ["many","sender","length","without"] (zac zbI):=⟨rfl,rfl,rfl,by decide +kernel,rfl,by decide +kernel,by decide +kernel⟩
theorem zk2:chkS tab c_paths.body ["many","sender","length","without","found","step"] (zac zbI) (zae zbI)=true:=by decide +kernel
theorem zew:FnScope ["shorter","many","without","longer","path"] ["shorter","many","without"] (zac zaJ):=⟨rfl,rfl,rfl,by decide +kernel,rfl,by decide +kernel,by decide +kernel⟩
theorem zeU:chkS tab c_lengthened.body ["shorter","many","without","longer","path"] (zac zaJ) (zae zaJ)=true:=by decide +kernel
theorem zj6:FnScope ["many","rounds","hand","path","notes","held","below","taken"] ["many","rounds","hand","path","notes"] (zac zbJ):=⟨rfl,rfl,rfl,by decide +kernel,rfl,by decide +kernel,by decide +kernel⟩
theorem zk3:chkS tab c_grown.body ["many","rounds","hand","path","notes","held","below","taken"] (zac zbJ) (zae zbJ)=true:=by decide +kernel
theorem zf2:FnScope ["path","notes","word"] ["path","notes"] (zac za6):=⟨rfl,rfl,rfl,by decide +kernel,rfl,by decide +kernel,by decide +kernel⟩
theorem zgs:chkS tab c_held_for.body ["path","notes","word"] (zac za6) (zae za6)=true:=by decide +kernel
theorem zdY:FnScope ["many","rounds","hand","path","notes","others"] ["many","rounds","hand","path","notes"] (zac zaF):=⟨rfl,rfl,rfl,by decide +kernel,rfl,by decide +kernel,by decide +kernel⟩
theorem zd3:chkS tab c_grown_below.body ["many","rounds","hand","path","notes","others"] (zac zaF) (zae zaF)=true:=by decide +kernel
theorem zdX:FnScope ["_law_script","_law_k"] ["_law_script","_law_k"] (zac zaE):=⟨rfl,rfl,rfl,by decide +kernel,rfl,by decide +kernel,by decide +kernel⟩
theorem zd2:chkS tab c_law_cell_at.body ["_law_script","_law_k"] (zac zaE) (zae zaE)=true:=by decide +kernel
theorem zfY:FnScope ["_law_cell","_law_word_here","_law_rest"] ["_law_cell","_law_word_here"] (zac za2):=⟨rfl,rfl,rfl,by decide +kernel,rfl,by decide +kernel,by decide +kernel⟩
theorem zgo:chkS tab c_law_word.body ["_law_cell","_law_word_here","_law_rest"] (zac za2) (zae za2)=true:=by decide +kernel
theorem ze4:FnScope ["_law_found"] ["_law_found"] (zac zaM):=⟨rfl,rfl,rfl,by decide +kernel,rfl,by decide +kernel,by decide +kernel⟩
theorem zfC:chkS tab c_law_whole.body ["_law_found"] (zac zaM) (zae zaM)=true:=by decide +kernel
theorem zdm:FnScope ["_law_found","_law_due_here"] ["_law_found","_law_due_here"] (zac zaB):=⟨rfl,rfl,rfl,by decide +kernel,rfl,by decide +kernel,by decide +kernel⟩
theorem zdR:chkS tab c_law_is_tuple.body ["_law_found","_law_due_here"] (zac zaB) (zae zaB)=true:=by decide +kernel
theorem zf0:FnScope ["_law_words","_law_best","_law_often","_law_word_here","_law_many"] ["_law_words"] (zac za4):=⟨rfl,rfl,rfl,by decide +kernel,rfl,by decide +kernel,by decide +kernel⟩
theorem zgq:chkS tab c_law_most.body ["_law_words","_law_best","_law_often","_law_word_here","_law_many"] (zac za4) (zae za4)=true:=by decide +kernel
theorem ze7:FnScope ["_law_tree","_law_many","_law_turns","_law_hand","_law_path","_law_notes","_law_due_here","_law_more","_law_words","_law_k"] ["_law_tree","_law_many","_law_turns","_law_hand","_law_path","_law_notes"] (zac zaP):=⟨rfl,rfl,rfl,by decide +kernel,rfl,by decide +kernel,by decide +kernel⟩
theorem zfF:chkS tab c_law_holds.body ["_law_tree","_law_many","_law_turns","_law_hand","_law_path","_law_notes","_law_due_here","_law_more","_law_words","_law_k"] (zac zaP) (zae zaP)=true:=by decide +kernel
theorem ze6:FnScope ["_law_many","_law_sender","_law_size","_law_but","_law_some","_law_k","_law_more","_law_path"] ["_law_many","_law_sender","_law_size","_law_but"] (zac zaO):=⟨rfl,rfl,rfl,by decide +kernel,rfl,by decide +kernel,by decide +kernel⟩
theorem zfE:chkS tab c_law_paths.body ["_law_many","_law_sender","_law_size","_law_but","_law_some","_law_k","_law_more","_law_path"] (zac zaO) (zae zaO)=true:=by decide +kernel
theorem zhy:FnScope ["_law_hand","_law_own","_law_turn","_law_notes","_law_number","_law_many","_law_sender","_law_found","_law_path","_law_word_here","_law_whole_here"] ["_law_hand","_law_own","_law_turn","_law_notes"] (zac zbf):=⟨rfl,rfl,rfl,by decide +kernel,rfl,by decide +kernel,by decide +kernel⟩
theorem zhU:chkS tab c_law_due.body ["_law_hand","_law_own","_law_turn","_law_notes","_law_number","_law_many","_law_sender","_law_found","_law_path","_law_word_here","_law_whole_here"] (zac zbf) (zae zbf)=true:=by decide +kernel
theorem ze9:FnScope ["_law_found","_law_due_here","_law_row","_law_right"] ["_law_found","_law_due_here"] (zac zaR):=⟨rfl,rfl,rfl,by decide +kernel,rfl,by decide +kernel,by decide +kernel⟩
theorem zfH:chkS tab c_law_alike.body ["_law_found","_law_due_here","_law_row","_law_right"] (zac zaR) (zae zaR)=true:=by decide +kernel
theorem ze8:FnScope ["_law_script","_law_at","_law_k","_law_cell","_law_j"] ["_law_script","_law_at","_law_k"] (zac zaQ):=⟨rfl,rfl,rfl,by decide +kernel,rfl,by decide +kernel,by decide +kernel⟩
theorem zfG:chkS tab c_law_digit.body ["_law_script","_law_at","_law_k","_law_cell","_law_j"] (zac zaQ) (zae zaQ)=true:=by decide +kernel
theorem ze5:FnScope ["_law_digit_here","_law_word_here"] ["_law_digit_here","_law_word_here"] (zac zaN):=⟨rfl,rfl,rfl,by decide +kernel,rfl,by decide +kernel,by decide +kernel⟩
theorem zfD:chkS tab c_law_small.body ["_law_digit_here","_law_word_here"] (zac zaN) (zae zaN)=true:=by decide +kernel
theorem zdW:FnScope ["_law_script","_law_at","_law_some","_law_word_here","_law_letters_here","_law_seed","_law_k","_law_cell","_law_digit_here"] ["_law_script","_law_at","_law_some","_law_word_here"] (zac zaD):=⟨rfl,rfl,rfl,by decide +kernel,rfl,by decide +kernel,by decide +kernel⟩
theorem zd1:chkS tab c_law_letters.body ["_law_script","_law_at","_law_some","_law_word_here","_law_letters_here","_law_seed","_law_k","_law_cell","_law_digit_here"] (zac zaD) (zae zaD)=true:=by decide +kernel
theorem zfZ:FnScope ["_law_hand","_law_turn","_law_due_here","_law_found"] ["_law_hand","_law_turn","_law_due_here"] (zac za3):=⟨rfl,rfl,rfl,by decide +kernel,rfl,by decide +kernel,by decide +kernel⟩
theorem zgp:chkS tab c_law_says.body ["_law_hand","_law_turn","_law_due_here","_law_found"] (zac za3) (zae za3)=true:=by decide +kernel
theorem zfa:FnScope ["_law_notes","_law_extra"] ["_law_notes","_law_extra"] (zac zaS):=⟨rfl,rfl,rfl,by decide +kernel,rfl,by decide +kernel,by decide +kernel⟩
theorem zfI:chkS tab c_law_again.body ["_law_notes","_law_extra"] (zac zaS) (zae zaS)=true:=by decide +kernel
theorem zlm:FnScope ["_law_script","_law_many","_law_turns","_law_number","_law_sender","_law_word_here","_law_own","_law_hand","_law_notes","_law_at","_law_extra","_law_turn","_law_due_here","_law_some","_law_letters_here","_law_handed","_law_path","_law_told","_law_tree"] ["_law_script"] (zac zb9):=⟨rfl,rfl,rfl,by decide +kernel,rfl,by decide +kernel,by decide +kernel⟩
theorem zlE:chkS tab c_law.body ["_law_script","_law_many","_law_turns","_law_number","_law_sender","_law_word_here","_law_own","_law_hand","_law_notes","_law_at","_law_extra","_law_turn","_law_due_here","_law_some","_law_letters_here","_law_handed","_law_path","_law_told","_law_tree"] (zac zb9) (zae zb9)=true:=by decide +kernel
end
section
open R
theorem zcB {n:Nat}{S:R.St}{ns:List Int}{k:Nat}:app (callF prog (n+1)) 9 [.fix (ns.map .int),.int k] S=.ok (.int (cellZ ns k)) S:=by
 refine zby (F:=c_law_cell_at) rfl rfl ?_
 conv=>whnf
 refine zbG (fun c=>?_) (fun c=>?_)
 · have c:k<ns.length:=by simpa using c
   conv=>whnf
   refine zad (zcZ (x:=D.int ns[k]) (by simp[c])) ?_
   conv=>whnf
   refine zab (by decide) ?_
   conv=>whnf
   refine zab (by decide) ?_
   conv=>whnf
   refine zao rfl ⟨?_,rfl⟩
   unfold cellZ
   rw[List.getElem?_eq_getElem c]
   rfl
 · have c:¬k<ns.length:=by simpa using c
   conv=>whnf
   refine zao rfl ⟨?_,rfl⟩
   unfold cellZ
   rw[List.getElem?_eq_none (by omega)]
noncomputable def Wd (d:D):Prop:=∃o,d=oD o
theorem zoo {n l:Nat}{S:R.St}{ws:List Int}(h:S.get l=some (.lst (ws.map .int)))(hl:ws.length<=60):app (callF prog (n+5)) 3 [.ref l] S=.ok (.int (zcy ws)) S:=by
 have hm:ws.map D.int=(ws.map some).map oD:=by rw[List.map_map];rfl
 rw[hm] at h
 have hc:(zah [] (ws.map some)).length<64:=by have:=zek (ws.map some);rw[List.length_map] at this;omega
 refine zby (F:=c_most) rfl rfl ?_
 conv=>whnf
 refine zaj (zjH (n:=n) (f:=2) (F:=zgu) (S:=S.enter) rfl rfl rfl (by rw[zaL];exact h) hc (by rw[List.length_map];omega)) ?_
 conv=>whnf
 unfold talD zcy topR
 generalize zbx (zah [] (ws.map some))=rows
 cases rows with
 | nil =>
   conv=>whnf
   repeat (first|(refine zab (by first|decide|omega|(simp;done)|(simp;omega)) ?_;conv=>whnf)|(refine zaz rfl ?_;conv=>whnf)|(refine zaU rfl ?_;conv=>whnf)|(refine zaI (by assumption) ?_;conv=>whnf))
   exact zao rfl ⟨rfl,rfl⟩
 | cons r rows =>
   conv=>whnf
   repeat (first|(refine zab (by first|decide|omega|(simp;done)|(simp;omega)) ?_;conv=>whnf)|(refine zaz rfl ?_;conv=>whnf)|(refine zaU rfl ?_;conv=>whnf)|(refine zaI (by assumption) ?_;conv=>whnf))
   refine zad (zpJ (x:=rowD r)) ?_
   conv=>whnf
   refine zad (zpJ) ?_
   conv=>whnf
   exact zao rfl ⟨rfl,rfl⟩
noncomputable def look (kvs:List (List Int × D))(p:List Int):Option Int:=match valP kvs p with|some (.int i)=>some i|_=>none
noncomputable def Wds (kvs:List (List Int × D)):Prop:=∀p d,valP kvs p=some d->Wd d
theorem zop {n l:Nat}{S:R.St}{kvs:List (List Int × D)}{p:List Int}(h:S.get l=some (.dtp kvs))(hv:Wds kvs):app (callF prog (n+1)) 7 [.tup (p.map .int),.ref l] S=.ok (.int ((look kvs p).getD 0)) S:=by
 have h':S.enter.get l=some (.dtp kvs):=by rw[zaL];exact h
 refine zby (F:=c_held_for) rfl rfl ?_
 conv=>whnf
 refine zab (by simp only[isDt,h']) ?_
 conv=>whnf
 refine zad (zdO h' p) ?_
 conv=>whnf
 unfold look
 cases e:valP kvs p with
 | none =>
   conv=>whnf
   exact zao rfl ⟨rfl,rfl⟩
 | some d =>
   obtain⟨o,rfl⟩:=hv p d e
   cases o with
   | none =>
     conv=>whnf
     exact zao rfl ⟨rfl,rfl⟩
   | some i =>
     conv=>whnf
     exact zao rfl ⟨rfl,rfl⟩
noncomputable def zbV (kvs:List (List Int × D))(n:Nat)(h:Int):Nat->List Int->D
 |0,p=>.tup [.tup (p.map .int),.int ((look kvs p).getD 0),.int (tkn (look kvs) n h 0 p),.tup []]
 |k+1,p=>.tup [.tup (p.map .int),.int ((look kvs p).getD 0),.int (tkn (look kvs) n h (k+1) p),.tup ((oth n h p).map fun o=>zbV kvs n h k (p++[o]))]
theorem zcR (kvs:List (List Int × D))(n:Nat)(h:Int)(b:Nat):∀(k:Nat) (p:List Int),flat b (zbV kvs n h k p)=true
 |0,p=>by simp[zbV]
 | k + 1, p => by
   simp only[zbV,zeP,zcm,zfw,zg9,zej,Bool.and_true,Bool.true_and]
   rw[zaW]
   intro d hd
   obtain⟨o,_,rfl⟩:=List.mem_map.mp hd
   exact zcR kvs n h b k (p++[o])
theorem zid (kvs:List (List Int × D))(n:Nat)(h:Int)(k:Nat)(p:List Int):∃x y z,zbV kvs n h k p=.tup [x,y,.int (tkn (look kvs) n h k p),z]:=by
 cases k<;>exact⟨_,_,_,rfl⟩
theorem znw {m k l:Nat}{S:R.St}{n:Nat}{h:Int}{kvs:List (List Int × D)}{p:List Int}(hg:S.get l=some (.dtp kvs))(hn:n<=7)(hp:p.length<=100)(hk:k<=100)
  (ih:∀(S':R.St) (o:Int),S'.get l=some (.dtp kvs)->app (callF prog (2 * k+m+6)) 6 [.int n,.int ((p.length+(k+1):Nat):Int),.int h,.tup ((p++[o]).map .int),.ref l] S'=.ok (zbV kvs n h k (p++[o])) S') :
  app (callF prog (2 * (k+1)+m+5)) 8 [.int n,.int ((p.length+(k+1):Nat):Int),.int h,.tup (p.map .int),.ref l] S=.ok (.tup ((oth n h p).map fun o=>zbV kvs n h k (p++[o]))) S:=by
 rw[show 2 * (k+1)+m+5=(2 * k+m+6)+1 by omega]
 refine zby (F:=c_grown_below) rfl rfl ?_
 conv=>whnf
 refine zdj (by simp;omega) ?_
 conv=>whnf
 refine zab (by omega) ?_
 conv=>whnf
 refine zas ?_
 refine W.of (za0 (fun d=>match d with|.int o=>!decide (o=h)&&!decide (o∈p)|_=>false) (fun d=>d) _ none (fun z hz=>?_) (fun z hz _=>rfl)) ?_
 · obtain⟨o,_,rfl⟩:=List.mem_map.mp hz
   refine W.eq (wT_W _ ?_)
   conv=>whnf
   refine zhr (fun c=>?_) (fun c=>?_)
   · conv=>whnf
     refine zad (zcF _ _ _) ?_
     conv=>whnf
     exact⟨by simp at c;simp[c],rfl⟩
   · exact⟨by simp at c;simp[c],rfl⟩
 · have e:(List.map (fun d=>d) (List.filter (fun d=>match d with|D.int o=>!decide (o=h)&&!decide (o∈p)|x=>false) (List.map (fun (k:Nat)=>D.int k) (List.range (n:Int).toNat))))=(oth n h p).map D.int:=by
    rw[List.map_id',Int.toNat_natCast]
    unfold oth hnds
    rw[show (List.range n).map (fun (k:Nat)=>D.int k)=((List.range n).map fun (k:Nat)=>(k:Int)).map D.int by rw[List.map_map];rfl]
    rw[List.filter_map]
    rfl
   rw[e]
   have ol:(oth n h p).length<=7:=by
    have:=List.length_filter_le (fun o=>!decide (o=h)&&!decide (o∈p)) (hnds n)
    unfold oth
    have l:(hnds n).length=n:=by simp[hnds]
    omega
   refine zab (by simp;omega) ?_
   conv=>whnf
   refine zab (by simp;omega) ?_
   conv=>whnf
   refine zaz rfl ?_
   conv=>whnf
   refine zas ?_
   refine W.of (zcP (fun d=>match d with|.int o=>zbV kvs n h k (p++[o])|d=>d) ((oth n h p).map D.int) none (fun z hz=>rfl) (fun z hz=>?_)) ?_
   · obtain⟨o,_,rfl⟩:=List.mem_map.mp hz
     refine W.eq (wE_W _ ?_)
     conv=>whnf
     refine zab (by first|decide|omega|(simp;done)|(simp;omega)) ?_
     conv=>whnf
     refine zab (by simp;omega) ?_
     conv=>whnf
     rw[show p.map D.int++[D.int o]=(p++[o]).map D.int by simp]
     refine zaj (ih _ o (zdK hg _ _)) ?_
     conv=>whnf
     exact⟨rfl,rfl⟩
   · rw[List.map_map]
     conv=>whnf
     refine zab (by simp;omega) ?_
     conv=>whnf
     refine zab (by simp;omega) ?_
     conv=>whnf
     refine zao ?_ ⟨rfl,rfl⟩
     rw[zeP,zaW]
     intro d hd
     obtain⟨o,_,rfl⟩:=List.mem_map.mp hd
     exact zcR kvs n h _ k (p++[o])
theorem zjj {f l:Nat}{S:R.St}{n r h:Int}{kvs:List (List Int × D)}{p A:List Int}{g:Int->D}{v:Int->Int}(hg:S.get l=some (.dtp kvs))(hv:Wds kvs)
  (hb:∀S':R.St,S'.get l=some (.dtp kvs)->app (callF prog (f+5)) 8 [.int n,.int r,.int h,.tup (p.map .int),.ref l] S'=.ok (.tup (A.map g)) S') (hA:A.length<=20) (h2:∀o,∃x y z,g o=.tup [x,y,.int (v o),z]) (hf:∀b o,flat b (g o)=true) :
  app (callF prog (f+6)) 6 [.int n,.int r,.int h,.tup (p.map .int),.ref l] S=.ok (.tup [.tup (p.map .int),.int ((look kvs p).getD 0),.int (zcy ((look kvs p).getD 0::A.map v)),.tup (A.map g)]) S:=by
 have h':S.enter.get l=some (.dtp kvs):=by rw[zaL];exact hg
 refine zby (F:=c_grown) rfl rfl ?_
 conv=>whnf
 refine zaj (zop (n:=f+4) (p:=p) h' hv) ?_
 conv=>whnf
 refine zaj (hb _ h') ?_
 conv=>whnf
 refine zab (by first|decide|omega|(simp;done)|(simp;omega)) ?_
 conv=>whnf
 refine zas ?_
 refine W.of (zcP (fun d=>match d with|.tup [_,_,t,_]=>t|d=>d) (A.map g) none (fun z hz=>rfl) (fun z hz=>?_)) ?_
 · obtain⟨o,_,rfl⟩:=List.mem_map.mp hz
   obtain⟨x,y,z,e⟩:=h2 o
   rw[e]
   refine W.eq (wE_W _ ?_)
   conv=>whnf
   refine zad ((show atI [x,y,D.int (v o),z] 2=some (D.int (v o)) from rfl)) ?_
   conv=>whnf
   exact⟨rfl,rfl⟩
 · have e:(A.map g).map (fun d=>match d with|.tup [_,_,t,_]=>t|d=>d)=(A.map v).map D.int:=by
    rw[List.map_map,List.map_map]
    refine List.map_congr_left fun o _=>?_
    obtain⟨x,y,z,e⟩:=h2 o
    simp only[Function.comp,e]
   rw[e]
   conv=>whnf
   refine zab (by simp;omega) ?_
   conv=>whnf
   refine zab (by simp;omega) ?_
   conv=>whnf
   refine zaz rfl ?_
   conv=>whnf
   refine zaz rfl ?_
   conv=>whnf
   refine zab (by simp;omega) ?_
   conv=>whnf
   rw[show [D.int ((look kvs p).getD 0)]++(A.map v).map D.int=((look kvs p).getD 0::A.map v).map D.int from rfl]
   refine zaj (zoo (n:=f) (zbP _ _ _ 2) (by simp;omega)) ?_
   conv=>whnf
   refine zab (by first|decide|omega|(simp;done)|(simp;omega)) ?_
   conv=>whnf
   refine zao ?_ ⟨rfl,rfl⟩
   simp only[zeP,zcm,zfw,zg9,zej,Bool.and_true,Bool.true_and]
   rw[zaW]
   intro d hd
   obtain⟨o,_,rfl⟩:=List.mem_map.mp hd
   exact hf _ o
theorem zis {l n:Nat}{h:Int}{kvs:List (List Int × D)}(hn:n<=7)(hv:Wds kvs):∀(k m:Nat) (S:R.St) (p:List Int),S.get l=some (.dtp kvs)->p.length+k<=50->
  app (callF prog (2 * k+m+6)) 6 [.int n,.int ((p.length+k:Nat):Int),.int h,.tup (p.map .int),.ref l] S=.ok (zbV kvs n h k p) S
 | 0, m, S, p, hg, hp => by
   rw[show 2 * 0+m+6=m+6 by omega]
   refine zjj (A:=[]) (g:=fun _=>.tup [.non,.non,.int 0,.non]) (v:=fun _=>0) hg hv (fun S' hg'=>?_) (by simp) (fun o=>⟨_,_,_,rfl⟩) (fun b o=>rfl)
   refine zby (F:=c_grown_below) rfl rfl ?_
   conv=>whnf
   refine zh9 (by simp) ?_
   conv=>whnf
   refine zab (by first|decide|omega|(simp;done)|(simp;omega)) ?_
   conv=>whnf
   exact zao rfl ⟨rfl,rfl⟩
 | k + 1, m, S, p, hg, hp => by
   rw[show 2 * (k+1)+m+6=(2 * k+m+2)+6 by omega]
   have ol:(oth n h p).length<=7:=by
    have:=List.length_filter_le (fun o=>!decide (o=h)&&!decide (o∈p)) (hnds n)
    unfold oth
    have l:(hnds n).length=n:=by simp[hnds]
    omega
   refine zjj (A:=oth n h p) (g:=fun o=>zbV kvs n h k (p++[o])) (v:=fun o=>tkn (look kvs) n h k (p++[o])) hg hv (fun S' hg'=>?_) (by omega) (fun o=>zid kvs n h k (p++[o])) (fun b o=>zcR kvs n h b k (p++[o]))
   rw[show 2 * k+m+2+5=2 * (k+1)+m+5 by omega]
   refine znw hg' hn (by omega) (by omega) fun S2 o hg2=>?_
   have:=zis (h:=h) hn hv k m S2 (p++[o]) hg2 (by simp;omega)
   rw[show (p++[o]).length+k=p.length+(k+1) by simp;omega] at this
   exact this
noncomputable abbrev pD (p:List Int):D:=.tup (p.map .int)
theorem zey (n:Nat):((List.range (n:Int).toNat).map fun (k:Nat)=>D.int k)=(hnds n).map D.int:=by
 rw[Int.toNat_natCast]
 unfold hnds
 rw[List.map_map];rfl
theorem zg7 (n:Nat):(hnds n).length=n:=by simp[hnds]
structure Sm (mo:Nat) (T T':R.St):Prop where
 frz:T'.frz=T.frz
 lk:T'.lk=T.lk
 len:T'.len=T.len
 oth:∀m,m≠mo->T'.get m=T.get m
theorem zls (n:Nat)(h:Int)(p:List Int):(oth n h p).length<=n:=by
 have:=List.length_filter_le (fun o=>!decide (o=h)&&!decide (o∈p)) (hnds n)
 unfold oth
 rw[zg7] at this
 exact this
theorem zhc:∀p q:List Int,PySem.PyData.eqvAll (p.map PySem.PyData.int) (q.map PySem.PyData.int)=decide (p=q)
 | [],[]=>by simp[PySem.PyData.eqvAll]
 | [],_::_=>by simp[PySem.PyData.eqvAll]
 |_::_,[]=>by simp[PySem.PyData.eqvAll]
 | a :: p, b :: q => by
   rw[List.map_cons,List.map_cons,PySem.PyData.eqvAll,L2.eqv_int,zhc p q]
   by_cases c:a=b
   · subst c;simp
   · have:(a == b)=false:=beq_eq_false_iff_ne.mpr c
     simp[this,c]
theorem zdv (S:R.St)(n:Nat):∀p:List Int,(p.map D.int).mapM (pd S n)=some (p.map PySem.PyData.int)
 | []=>rfl
 | x :: p => by
   rw[List.map_cons,List.mapM_cons,zdv S n p]
   cases n<;>rfl
theorem zhd (S:R.St)(p q:List Int):eqD S (pD p) (pD q)=some (decide (p=q)):=by
 have e:∀p:List Int,pd S 60 (pD p)=some (.tuple (p.map PySem.PyData.int)):=fun p=>by
  simp only[pD,pd,zdv];rfl
 unfold eqD
 rw[e,e]
 show some (PySem.PyData.eqv (.tuple _) (.tuple _))=_
 rw[PySem.PyData.eqv,zhc]
theorem zhl (S:R.St)(p q:List Int):cmpO S .Eq (.tup (p.map .int)) (.tup (q.map .int))=some (decide (p=q)):=zhd S p q
noncomputable def Wv (kvs:List (List Int × D)):Prop:=∀kv∈kvs,Wd kv.2
theorem Wv.ds {kvs:List (List Int × D)}(h:Wv kvs):Wds kvs:=fun p d e=>by
 unfold valP at e
 cases c:kvs.find? (fun kv=>decide (kv.1=p)) with
 |none=>rw[c] at e;cases e
 |some kv=>rw[c] at e;cases e;exact h kv (List.mem_of_find?_eq_some c)
theorem Wv.flat {kvs:List (List Int × D)}(h:Wv kvs)(b:Nat):flats b (kvs.map (·.2))=true:=by
 rw[zaW]
 intro d hd
 obtain⟨kv,hk,rfl⟩:=List.mem_map.mp hd
 obtain⟨o,e⟩:=h kv hk
 rw[e]
 cases o<;>rfl
theorem zml {n:Nat}{S:R.St}{c w:Int}:∃o,app (callF prog (n+1)) 19 [.int c,.int w] S=.ok (oD o) S:=by
 have key:W (app (callF prog (n+1)) 19 [.int c,.int w] S) fun d T=>T=S/\∃o,d=oD o:=by
  refine zh1 (F:=c_law_small) rfl rfl ?_
  conv=>whnf
  refine zbG (fun c1=>?_) (fun c1=>?_)
  · conv=>whnf
    exact zao rfl ⟨rfl,none,rfl⟩
  · conv=>whnf
    refine zbG (fun c2=>?_) (fun c2=>?_)
    · conv=>whnf
      exact zao rfl ⟨rfl,some _,rfl⟩
    · conv=>whnf
      exact zao rfl ⟨rfl,some _,rfl⟩
 obtain⟨d,T,e,rfl,o,rfl⟩:=W.iff.mp key
 exact⟨o,e⟩
theorem zmp {m:Nat}{S:R.St}{ns:List Int}{k:Nat}:∃z:Int,app (callF prog (m+2)) 18 [.fix (ns.map .int),.int 6,.int k] S=.ok (.int z) S:=by
 have key:W (app (callF prog (m+2)) 18 [.fix (ns.map .int),.int 6,.int k] S) fun d T=>T=S/\∃z:Int,d=.int z:=by
  refine zh1 (F:=c_law_digit) rfl rfl ?_
  conv=>whnf
  refine zab (by first|decide|omega|(simp;done)|(simp;omega)) ?_
  conv=>whnf
  have ej:(6:Int)+(k:Int) / 50=((6+k / 50:Nat):Int):=by omega
  rw[ej]
  refine zaj (zcB (n:=m) (k:=6+k / 50)) ?_
  conv=>whnf
  refine zab (by first|decide|omega|(simp;done)|(simp;omega)) ?_
  conv=>whnf
  have k0:=Int.emod_nonneg (k:Int) (b:=50) (by decide)
  have k1:=Int.emod_lt_of_pos (k:Int) (b:=50) (by decide)
  refine zab (by omega) ?_
  conv=>whnf
  refine zas ?_
  refine W.mono (zaA (fun i δ T=>(∃(z:Int) (v:Option D),δ=[some (.fix (ns.map .int)),some (.int 6),some (.int k),some (.int z),v])/\T=S.enter) (fun _ _=>False) _ 0 _ _ ⟨⟨_,none,rfl⟩,rfl⟩ ?_) ?_
  · rintro i z δ T hz ⟨⟨z0,v,rfl⟩,rfl⟩
    refine⟨_,rfl,?_⟩
    generalize hδ:List.set _ 4 _=δ1
    refine wS_W _ ?_
    subst hδ
    conv=>whnf
    refine zab (by first|decide|omega|(simp;done)|(simp;omega)) ?_
    conv=>whnf
    exact⟨⟨_,_,rfl⟩,rfl⟩
  · rintro f T h
    cases f with
    |rt d=>exact h.elim
    | nx δ =>
      obtain⟨⟨z0,v,rfl⟩,rfl⟩:=h
      conv=>whnf
      refine zab (by first|decide|omega|(simp;done)|(simp;omega)) ?_
      conv=>whnf
      exact zao rfl ⟨rfl,_,rfl⟩
 obtain⟨d,T,e,rfl,z,rfl⟩:=W.iff.mp key
 exact⟨z,e⟩
theorem zdo {n:Nat}{S:R.St}{i:Int}:app (callF prog (n+1)) 11 [.int i] S=.ok (.bl true) S:=by
 refine zby (F:=c_law_whole) rfl rfl ?_
 conv=>whnf
 refine zad ((show tyOf S.enter (.int i)=some "int" from rfl)) ?_
 conv=>whnf
 refine zad ((show tyOf S.enter (.int i)=some "int" from rfl)) ?_
 conv=>whnf
 exact zao rfl ⟨rfl,rfl⟩
theorem zla (is:List Int)(f:D->D)(hf:∀i,f (.int i)=.bl true):allD ((is.map D.int).map f)=some true:=by
 unfold allD
 have:((is.map D.int).map f).mapM zfL=some (is.map fun _=>true):=by
  induction is with
  |nil=>rfl
  | cons q qs ih =>
    rw[List.map_cons,List.map_cons,List.mapM_cons,hf q,ih]
    rfl
 rw[this]
 simp
theorem zf3 {n:Nat}{S:R.St}{p:List Int}(hl:p.length<=1000):app (callF prog (n+2)) 12 [pD p,pD p] S=.ok (.bl true) S:=by
 refine zby (F:=c_law_is_tuple) rfl rfl ?_
 conv=>whnf
 refine zad ((show tyOf S.enter (pD p)=some "tuple" from rfl)) ?_
 conv=>whnf
 refine zdj (by simp) ?_
 conv=>whnf
 refine zas ?_
 refine W.of (zcP (fun d=>.bl true) (p.map D.int) none (fun z hz=>rfl) (fun z hz=>?_)) ?_
 · obtain⟨q,hq,rfl⟩:=List.mem_map.mp hz
   refine W.eq (wE_W _ ?_)
   conv=>whnf
   refine zaj (zdo (n:=n)) ?_
   conv=>whnf
   exact⟨rfl,rfl⟩
 · conv=>whnf
   refine zab (by simp;omega) ?_
   conv=>whnf
   refine zad (zla p _ (fun _=>rfl)) ?_
   conv=>whnf
   refine zad (zhl _ _ _) ?_
   conv=>whnf
   refine zao rfl ⟨by simp,rfl⟩
noncomputable def TopTo (ws:List Int)(i:Nat)(b o:Int):Prop:=(i=0/\o=0/\ws[0]?=some b)\/(b∈ws.take i/\o=(ws.count b:Nat)/\∀y∈ws.take i,(ws.count y:Int)<o\/((ws.count y:Int)=o/\b<=y))
theorem TopTo.end {ws:List Int}{b o:Int}(h:TopTo ws ws.length b o):b=zcy ws:=by
 rcases h with ⟨h0,_,h2⟩|⟨h1,h2,h3⟩
 · have:ws=[]:=List.length_eq_zero_iff.mp h0
   rw[this] at h2;cases h2
 · rw[List.take_length] at h1 h3
   have c:∀y,cntZ (ws.map some) (some y)=(ws.count y:Nat):=fun y=>by show ((List.count _ _:Nat):Int)=_;rw[zhk]
   have t:zlb (ws.map some) (b,o):=by
    refine .inr ⟨List.mem_map.mpr ⟨b,h1,rfl⟩,by rw[c];exact h2,fun y hy=>?_⟩
    obtain⟨z,hz,e⟩:=List.mem_map.mp hy
    cases e
    rw[c]
    exact h3 y hz
   have:=zi9 t (zlQ (ws.map some))
   unfold zcy
   rw[<-this]
theorem TopTo.new {ws:List Int}{i:Nat}{b o w:Int}(h:TopTo ws i b o)(e:ws[i]?=some w)(c:o<(ws.count w:Nat)\/(((ws.count w:Nat):Int)=o/\w<b)):TopTo ws (i+1) w (ws.count w:Nat):=by
 have hp:0<ws.count w:=List.count_pos_iff.mpr (List.mem_of_getElem? e)
 right
 rw[zbh e]
 refine⟨by simp,rfl,fun y hy=>?_⟩
 rcases List.mem_append.mp hy with z|z
 · rcases h with ⟨h0,h1,_⟩|⟨_,_,h3⟩
   · rw[h0] at z;simp at z
   · have:=h3 y z
     omega
 · rw[List.mem_singleton] at z;subst z;exact .inr ⟨rfl,Int.le_refl _⟩
theorem TopTo.old {ws:List Int}{i:Nat}{b o w:Int}(h:TopTo ws i b o)(e:ws[i]?=some w)(c1:¬o<(ws.count w:Nat))(c2:¬(((ws.count w:Nat):Int)=o/\w<b)):TopTo ws (i+1) b o:=by
 have hp:0<ws.count w:=List.count_pos_iff.mpr (List.mem_of_getElem? e)
 rcases h with ⟨h0,h1,_⟩|⟨h1,h2,h3⟩
 · omega
 · right
   rw[zbh e]
   refine⟨List.mem_append_left _ h1,h2,fun y hy=>?_⟩
   rcases List.mem_append.mp hy with z|z
   · exact h3 y z
   · rw[List.mem_singleton] at z;subst z;omega
theorem zjm (ws:List Int)(w:Int):((ws.map D.int).filter fun d=>match d with|.int o=>decide (o=w)|_=>false)=(ws.filter fun o=>decide (o=w)).map D.int:=by
 rw[List.filter_map];rfl
theorem zhS (ws:List Int)(w:Int):(ws.filter fun o=>decide (o=w)).length=ws.count w:=by
 rw[List.count_eq_length_filter]
 congr 1
theorem zmo {n l:Nat}{S:R.St}{ws:List Int}(hg:S.get l=some (.lst (ws.map .int)))(hne:ws≠[])(hl:ws.length<=1000):app (callF prog (n+1)) 13 [.ref l] S=.ok (.int (zcy ws)) S:=by
 have h0:ws[0]?=some (ws.head hne):=by cases ws with
  |nil=>exact absurd rfl hne
  |cons a r=>rfl
 refine zby (F:=c_law_most) rfl rfl ?_
 conv=>whnf
 refine zaI hg ?_
 conv=>whnf
 refine zad (zcZ (k:=0) (x:=D.int (ws.head hne)) (by rw[List.getElem?_map,h0];rfl)) ?_
 conv=>whnf
 refine zaI hg ?_
 conv=>whnf
 refine zas ?_
 refine W.mono (zaA (fun i δ T=>∃(b o:Int) (v3 v4:Option D) (nw:List MO),δ=[some (.ref l),some (.int b),some (.int o),v3,v4]/\T=⟨S.frz++S.new,nw,[l]⟩/\TopTo ws i b o) (fun _ _=>False) _ 0 _ _ ⟨ws.head hne,0,none,none,[],rfl,rfl,.inl ⟨rfl,rfl,h0⟩⟩ ?_) ?_
 · rintro i z δ T hz ⟨b,o,v3,v4,nw,rfl,rfl,tt⟩
   rw[Nat.zero_add] at tt⊢
   rw[List.getElem?_map] at hz
   cases e:ws[i]? with
   |none=>rw[e] at hz;cases hz
   | some w =>
     rw[e] at hz;cases hz
     refine⟨_,rfl,?_⟩
     generalize hδ:List.set _ 3 _=δ1
     refine wS_W _ ?_
     subst hδ
     conv=>whnf
     refine zaI hg ?_
     conv=>whnf
     refine zas ?_
     refine W.of (za0 (fun d=>match d with|.int o=>decide (o=w)|_=>false) (fun d=>d) _ none (fun z hz=>?_) (fun z hz _=>rfl)) ?_
     · obtain⟨y,_,rfl⟩:=List.mem_map.mp hz
       rfl
     · rw[List.map_id',zjm]
       have cl:(ws.filter fun o=>decide (o=w)).length=ws.count w:=zhS ws w
       have cle:ws.count w<=1000:=Nat.le_trans (List.count_le_length) hl
       conv=>whnf
       refine zab (by simp only[List.length_map];omega) ?_
       conv=>whnf
       refine zab (by simp only[List.length_map];omega) ?_
       conv=>whnf
       refine zad (zaY _ _) ?_
       conv=>whnf
       have el:(((List.map D.int (List.filter (fun o=>decide (o=w)) ws)).length:Nat):Int)=(ws.count w:Nat):=by rw[List.length_map,cl]
       refine zbG (fun c1=>?_) (fun c1=>?_)
       · refine⟨w,_,_,_,_,rfl,rfl,?_⟩
         have c1:o<((List.map D.int (List.filter (fun o=>decide (o=w)) ws)).length:Nat):=c1
         show TopTo ws (i+1) w (((List.map D.int (List.filter (fun o=>decide (o=w)) ws)).length:Nat):Int)
         rw[el] at c1⊢
         exact tt.new e (.inl c1)
       · have c1:¬o<((List.map D.int (List.filter (fun o=>decide (o=w)) ws)).length:Nat):=c1
         rw[el] at c1
         conv=>whnf
         refine zbG (fun c2=>?_) (fun c2=>?_)
         · have c2:(((List.map D.int (List.filter (fun o=>decide (o=w)) ws)).length:Nat):Int)=o:=c2
           conv=>whnf
           refine zbG (fun c3=>?_) (fun c3=>?_)
           · refine⟨w,_,_,_,_,rfl,rfl,?_⟩
             show TopTo ws (i+1) w (((List.map D.int (List.filter (fun o=>decide (o=w)) ws)).length:Nat):Int)
             rw[el] at c2⊢
             exact tt.new e (.inr ⟨c2,c3⟩)
           · exact⟨b,o,_,_,_,rfl,rfl,tt.old e c1 fun z=>c3 z.2⟩
         · have c2:¬(((List.map D.int (List.filter (fun o=>decide (o=w)) ws)).length:Nat):Int)=o:=c2
           rw[el] at c2
           exact⟨b,o,_,_,_,rfl,rfl,tt.old e c1 fun z=>c2 z.1⟩
 · rintro f T h
   cases f with
   |rt d=>exact h.elim
   | nx δ =>
     obtain⟨b,o,v3,v4,nw,rfl,rfl,tt⟩:=h
     rw[Nat.zero_add,List.length_map] at tt
     conv=>whnf
     exact zao rfl ⟨by rw[tt.end],rfl⟩
noncomputable def hL:CS:=(.ifS (.nt (.tst (.call 14 0 (.cons (.ix (.ix (.loc 0) (.con (D.int 3))) (.loc 9)) (.cons (.loc 1) (.cons (.loc 2) (.cons (.loc 3) (.cons (.bin .Add (.loc 4) (.tup (.cons (.ix (.loc 7) (.loc 9)) .nil))) (.cons (.loc 5) .nil))))))))) (.ret (.con (D.bl false)) .nil) .nil (.expr (.mt .append (.loc 8) (.cons (.ix (.ix (.ix (.loc 0) (.con (D.int 3))) (.loc 9)) (.con (D.int 2))) .nil)) .nil))
noncomputable def hR:CS:=(.ifS (.cmp .NotEq (.bi .len (.cons (.ix (.loc 0) (.con (D.int 3))) .nil)) (.bi .len (.cons (.loc 7) .nil))) (.ret (.con (D.bl false)) .nil) .nil (.asg 8 (.lst (.cons (.ix (.loc 0) (.con (D.int 1))) .nil)) (.forS [9] (.rng1 (.bi .len (.cons (.loc 7) .nil)))
 hL (.ret (.cmp .Eq (.ix (.loc 0) (.con (D.int 2))) (.call 13 0 (.cons (.loc 8) .nil))) .nil))))
noncomputable abbrev EH (T0:D)(n:Nat)(t h:Int)(p:List Int)(l:Nat)(v6 v7 v8 v9:Option D):Ev:=[some T0,some (.int n),some (.int t),some (.int h),some (pD p),some (.ref l),v6,v7,v8,v9]
theorem zgG {nw:List MO}(o u:MO):(nw++[o]).set nw.length u=nw++[u]:=by
 rw[List.set_append_right _ _ (Nat.le_refl _),Nat.sub_self];rfl
theorem zfv {f l n j:Nat}{S:R.St}{t h:Int}{p A:List Int}{a:Int}{g:Int->D}{v:Int->Int}{v6:Option D}{nw:List MO}(hj:nw[j]?=some (.lst (A.map .int)))(h2:∀o,∃x y z,g o=.tup [x,y,.int (v o),z])(hA:A.length<=20)(hp:p.length<=100)
  (ih:∀(S':R.St) (o:Int),o∈A->(∃nw lk,S'=⟨S.frz++S.new,nw,lk⟩)->app (callF prog (f+1)) 14 [g o,.int n,.int t,.int h,pD (p++[o]),.ref l] S'=.ok (.bl true) S') :
  wS (callF prog (f+1)) hR (EH (.tup [pD p,.int a,.int (zcy (a::A.map v)),.tup (A.map g)]) n t h p l v6 (some (.ref ((S.frz++S.new).length+j))) none none) ⟨S.frz++S.new,nw,[]⟩ fun r T=>wFin S r T fun d T'=>d=.bl true/\T'=S:=by
 have hjl:j<nw.length:=(List.getElem?_eq_some_iff.mp hj).1
 have g7:∀ws lk,(St.mk (S.frz++S.new) (nw++[ws]) lk).get ((S.frz++S.new).length+j)=some (.lst (A.map .int)):=fun ws lk=>by
  rw[zbP,List.getElem?_append_left hjl];exact hj
 have g8:∀ws lk,(St.mk (S.frz++S.new) (nw++[ws]) lk).get ((S.frz++S.new).length+nw.length)=some ws:=fun ws lk=>by
  rw[zbP,List.getElem?_append_right (Nat.le_refl _),Nat.sub_self];rfl
 generalize hT0:D.tup [pD p,.int a,.int (zcy (a::A.map v)),.tup (A.map g)]=T0
 have t1:∃ds,T0=.tup ds/\atI ds 1=some (.int a)/\atI ds 2=some (.int (zcy (a::A.map v)))/\atI ds 3=some (.tup (A.map g)):=⟨_,hT0.symm,rfl,rfl,rfl⟩
 clear hT0
 obtain⟨ds,rfl,t1,t2,t3⟩:=t1
 conv=>whnf
 refine zad (t3) ?_
 conv=>whnf
 refine zad (((zbP _ _ _ _).trans hj)) ?_
 conv=>whnf
 refine zdj (by simp) ?_
 conv=>whnf
 refine zad (t1) ?_
 conv=>whnf
 refine zab (by first|decide|omega|(simp;done)|(simp;omega)) ?_
 conv=>whnf
 refine zad (g7 _ _) ?_
 conv=>whnf
 refine zab (by simp;omega) ?_
 conv=>whnf
 refine zas ?_
 refine W.mono (zaA (fun i δ T=>(∃v9,δ=EH (.tup ds) n t h p l v6 (some (.ref ((S.frz++S.new).length+j))) (some (.ref ((S.frz++S.new).length+nw.length))) v9)/\T=⟨S.frz++S.new,nw++[.lst ((a::(A.take i).map v).map .int)],[]⟩) (fun _ _=>False) _ 0 _ _ ⟨⟨none,rfl⟩,rfl⟩ ?_) ?_
 · rintro i z δ T hz ⟨⟨v9,rfl⟩,rfl⟩
   rw[Nat.zero_add]
   have hi:i<A.length:=by
    have:=(List.getElem?_eq_some_iff.mp hz).1
    simpa using this
   have hz:z=.int i:=by
    rw[List.getElem?_map] at hz
    simp[hi] at hz
    exact hz.symm
   subst hz
   obtain⟨o,e⟩:∃o,A[i]?=some o:=⟨A[i],List.getElem?_eq_getElem hi⟩
   obtain⟨x,y,z,eg⟩:=h2 o
   have a3:atI (A.map g) (i:Int)=some (g o):=zcZ (by rw[List.getElem?_map,e];rfl)
   have a7:atI (A.map D.int) (i:Int)=some (.int o):=zcZ (by rw[List.getElem?_map,e];rfl)
   refine⟨_,rfl,?_⟩
   generalize hδ:List.set _ 9 _=δ1
   refine wS_W hL ?_
   subst hδ
   conv=>whnf
   refine zad (t3) ?_
   conv=>whnf
   refine zad (a3) ?_
   conv=>whnf
   refine zad (g7 _ _) ?_
   conv=>whnf
   refine zad (a7) ?_
   conv=>whnf
   refine zab (by first|decide|omega|(simp;done)|(simp;omega)) ?_
   conv=>whnf
   refine zab (by simp only[List.length_map,List.length_cons,List.length_nil];omega) ?_
   conv=>whnf
   rw[show p.map D.int++[D.int o]=(p++[o]).map D.int by simp]
   refine zaj (ih _ o (List.mem_of_getElem? e) ⟨_,_,rfl⟩) ?_
   conv=>whnf
   refine zad (g8 _ _) ?_
   conv=>whnf
   refine zad (t3) ?_
   conv=>whnf
   refine zad (a3) ?_
   conv=>whnf
   rw[eg]
   conv=>whnf
   refine zad ((show atI [x,y,D.int (v o),z] 2=some (D.int (v o)) from rfl)) ?_
   conv=>whnf
   refine zad (g8 _ _) ?_
   conv=>whnf
   refine zab (by simp only[List.length_append,List.length_map,List.length_cons,List.length_nil,List.length_take];omega) ?_
   conv=>whnf
   refine zad (ziE rfl) ?_
   conv=>whnf
   refine⟨⟨_,rfl⟩,?_⟩
   show R.St.mk (S.frz++S.new) ((nw++[_]).set nw.length _) []=_
   rw[zgG,zbh e]
   simp
 · rintro r T hr
   cases r with
   |rt d=>exact hr.elim
   | nx δ =>
     obtain⟨⟨v9,rfl⟩,rfl⟩:=hr
     have el:∀(k:Nat),A.take (0+((List.range ((((A.map D.int).length:Nat):Int).toNat)).map fun (k:Nat)=>D.int k).length)=A:=fun _=>by simp
     rw[el 0]
     conv=>whnf
     refine zad (t2) ?_
     conv=>whnf
     refine zaj (zmo (n:=f) (ws:=a::A.map v) (g8 _ _) (by simp) (by simp;omega)) ?_
     conv=>whnf
     refine zao rfl ⟨?_,rfl⟩
     simp
theorem zkH {kvs:List (List Int × D)}(hv:Wds kvs)(p:List Int):(valP kvs p).getD .non=oD (look kvs p):=by
 unfold look
 cases e:valP kvs p with
 |none=>rfl
 | some d =>
   obtain⟨o,rfl⟩:=hv p d e
   cases o<;>rfl
theorem zlz {f l n:Nat}{S:R.St}{t h:Int}{p A:List Int}{g:Int->D}{v:Int->Int}{kvs:List (List Int × D)}(hn:n<=7)(hg:S.get l=some (.dtp kvs))(hv:Wds kvs)(hA:A=if (p.length:Int)<t then oth n h p else [])(h2:∀o,∃x y z,g o=.tup [x,y,.int (v o),z])(hp:p.length<=100)
  (ih:∀(S':R.St) (o:Int),o∈A->S'.get l=some (.dtp kvs)->app (callF prog (f+2)) 14 [g o,.int n,.int t,.int h,pD (p++[o]),.ref l] S'=.ok (.bl true) S') :
  app (callF prog (f+3)) 14 [.tup [pD p,.int ((look kvs p).getD 0),.int (zcy ((look kvs p).getD 0::A.map v)),.tup (A.map g)],.int n,.int t,.int h,pD p,.ref l] S=.ok (.bl true) S:=by
 have hg':S.enter.get l=some (.dtp kvs):=by rw[zaL];exact hg
 have hAl:A.length<=20:=by
  rw[hA]
  split
  · have:=zls n h p;omega
  · simp
 have ih':∀(S':R.St) (o:Int),o∈A->(∃nw lk,S'=⟨S.frz++S.new,nw,lk⟩)->app (callF prog (f+2)) 14 [g o,.int n,.int t,.int h,pD (p++[o]),.ref l] S'=.ok (.bl true) S':=fun S' o ho ⟨nw,lk,e⟩=>ih S' o ho (by rw[e];exact zdK hg nw lk)
 refine zby (F:=c_law_holds) rfl rfl ?_
 generalize hT0:D.tup [pD p,.int ((look kvs p).getD 0),.int (zcy ((look kvs p).getD 0::A.map v)),.tup (A.map g)]=T0
 have t1:∃ds,T0=.tup ds/\ds.length=4/\atI ds 0=some (pD p)/\atI ds 1=some (.int ((look kvs p).getD 0))/\atI ds 2=some (.int (zcy ((look kvs p).getD 0::A.map v)))/\atI ds 3=some (.tup (A.map g)):=⟨_,hT0.symm,rfl,rfl,rfl,rfl,rfl⟩
 obtain⟨ds,rfl,t4,t0,t1,t2,t3⟩:=t1
 conv=>whnf
 refine zad ((show tyOf S.enter (.tup ds)=some "tuple" from rfl)) ?_
 conv=>whnf
 refine zdj (by simp[t4]) ?_
 conv=>whnf
 refine zad (t0) ?_
 conv=>whnf
 refine zaj (zf3 (n:=f) (by omega)) ?_
 conv=>whnf
 refine zab (by simp only[isDt,hg']) ?_
 conv=>whnf
 refine zad (zdO hg' p) ?_
 conv=>whnf
 rw[zkH hv]
 have rest:∀(v6:Option D),v6=some (.int ((look kvs p).getD 0))->wS (callF prog (f+2)) (.ifS (.or (.nt (.tst (.call 11 0 (.cons (.ix (.loc 0) (.con (D.int 1))) .nil)))) (.or (.cmp .NotEq (.ix (.loc 0) (.con (D.int 1))) (.loc 6)) (.or (.nt (.tst (.call 11 0 (.cons (.ix (.loc 0) (.con (D.int 2))) .nil)))) (.nt (.tst (.bi (.isin "tuple") (.cons (.ix (.loc 0) (.con (D.int 3))) .nil))))))) (.ret (.con (D.bl false)) .nil) .nil (.asg 7 (.lst .nil) (.ifS (.cmp .Lt (.bi .len (.cons (.loc 4) .nil)) (.loc 2)) (.asg 7 (.mkL (.comp 1 [3,4] [0] (.rng1 (.loc 1)) (.and (.cmp .NotEq (.loc 0) (.loc 1)) (.cmp .NotIn (.loc 0) (.loc 2))) (.loc 0))) .nil) .nil
  hR))) (EH (.tup ds) n t h p l v6 none none none) S.enter fun r T=>wFin S r T fun d T'=>d=.bl true/\T'=S:=by
   intro v6 e6
   subst e6
   conv=>whnf
   refine zad (t1) ?_
   conv=>whnf
   refine zaj (zdo (n:=f+1)) ?_
   conv=>whnf
   refine zad (t1) ?_
   conv=>whnf
   refine zdj (by simp) ?_
   conv=>whnf
   refine zad (t2) ?_
   conv=>whnf
   refine zaj (zdo (n:=f+1)) ?_
   conv=>whnf
   refine zad (t3) ?_
   conv=>whnf
   refine zad ((show tyOf S.enter (.tup (A.map g))=some "tuple" from rfl)) ?_
   conv=>whnf
   refine zab (by first|decide|omega|(simp;done)|(simp;omega)) ?_
   conv=>whnf
   refine zbG (fun c=>?_) (fun c=>?_)
   · have c:(p.length:Int)<t:=by rw[List.length_map] at c;exact c
     rw[if_pos c] at hA
     conv=>whnf
     refine zab (by omega) ?_
     conv=>whnf
     refine zas ?_
     refine W.of (za0 (fun d=>match d with|.int o=>!decide (o=h)&&!decide (o∈p)|_=>false) (fun d=>d) _ none (fun z hz=>?_) (fun z hz _=>rfl)) ?_
     · obtain⟨o,_,rfl⟩:=List.mem_map.mp hz
       refine W.eq (wT_W _ ?_)
       conv=>whnf
       refine zhr (fun c=>?_) (fun c=>?_)
       · conv=>whnf
         refine zad (zcF _ _ _) ?_
         conv=>whnf
         exact⟨by simp at c;simp[c],rfl⟩
       · exact⟨by simp at c;simp[c],rfl⟩
     · have e:(List.map (fun d=>d) (List.filter (fun d=>match d with|D.int o=>!decide (o=h)&&!decide (o∈p)|x=>false) (List.map (fun (k:Nat)=>D.int k) (List.range (n:Int).toNat))))=A.map D.int:=by
        rw[List.map_id',Int.toNat_natCast,hA]
        unfold oth hnds
        rw[show (List.range n).map (fun (k:Nat)=>D.int k)=((List.range n).map fun (k:Nat)=>(k:Int)).map D.int by rw[List.map_map];rfl]
        rw[List.filter_map]
        rfl
       rw[e]
       conv=>whnf
       refine zab (by simp only[List.length_map];omega) ?_
       conv=>whnf
       refine zab (by simp only[List.length_map];omega) ?_
       rw[<-hT0]
       exact zfv (f:=f+1) (j:=1) (nw:=[.lst [],.lst (A.map .int)]) rfl h2 hAl hp ih'
   · have c:¬(p.length:Int)<t:=by rw[List.length_map] at c;exact c
     rw[if_neg c] at hA
     rw[<-hT0]
     exact zfv (f:=f+1) (j:=0) (nw:=[.lst []]) (by rw[hA];rfl) h2 hAl hp ih'
 cases e:look kvs p with
 |none=>exact rest _ (by rw[e];rfl)
 |some i=>exact rest _ (by rw[e];rfl)
theorem zir {l n:Nat}{h t:Int}{kvs:List (List Int × D)}(hn:n<=7)(hv:Wds kvs):∀(k m:Nat) (S:R.St) (p:List Int),S.get l=some (.dtp kvs)->p.length+k<=50->(((p.length+k:Nat):Int)=t\/(k=0/\t<=p.length))->
  app (callF prog (k+m+3)) 14 [zbV kvs n h k p,.int n,.int t,.int h,pD p,.ref l] S=.ok (.bl true) S
 | 0, m, S, p, hg, hp, ht => by
   rw[show 0+m+3=m+3 by omega]
   exact zlz (A:=[]) (g:=fun _=>.tup [.non,.non,.int 0,.non]) (v:=fun _=>0) hn hg hv (by rw[if_neg (by omega)]) (fun o=>⟨_,_,_,rfl⟩) (by omega) (fun _ _ z=>by cases z)
 | k + 1, m, S, p, hg, hp, ht => by
   have ht:((p.length+(k+1):Nat):Int)=t:=by omega
   rw[show k+1+m+3=(k+m+1)+3 by omega]
   refine zlz (A:=oth n h p) (g:=fun o=>zbV kvs n h k (p++[o])) (v:=fun o=>tkn (look kvs) n h k (p++[o])) hn hg hv (by rw[if_pos (by omega)]) (fun o=>zid kvs n h k (p++[o])) (by omega) (fun S' o _ hg'=>?_)
   have:=zir (l:=l) (h:=h) (t:=t) hn hv k m S' (p++[o]) hg' (by simp;omega) (.inl (by simp only[List.length_append,List.length_cons,List.length_nil];omega))
   rw[show k+m+1+2=k+m+3 by omega]
   exact this
noncomputable def kids (n:Nat)(b:Int)(p:List Int):List (List Int):=(oth n b p).map fun o=>p++[o]
noncomputable def nxt (n:Nat)(b:Int)(ps:List (List Int)):List (List Int):=ps.flatMap (kids n b)
noncomputable def pz (n:Nat)(s b:Int):Nat->List (List Int)
 |0=>if s=b then [] else [[s]]
 |k+1=>nxt n b (pz n s b k)
theorem zeL {n:Nat}(hn:n<=7)(b:Int)(p:List Int):(kids n b p).length<=7:=by
 unfold kids
 rw[List.length_map]
 exact Nat.le_trans (zls n b p) hn
theorem zeD {n:Nat}(hn:n<=7)(b:Int):∀ps:List (List Int),(nxt n b ps).length<=7 * ps.length
 | []=>by simp[nxt]
 | p :: ps => by
   have:=zeD hn b ps
   have h:=zeL hn b p
   unfold nxt at *
   rw[List.flatMap_cons,List.length_append,List.length_cons]
   omega
theorem ziW (n:Nat)(b:Int)(ps qs:List (List Int)):nxt n b (ps++qs)=nxt n b ps++nxt n b qs:=by simp[nxt]
theorem ziV (n:Nat)(b:Int)(p:List Int):nxt n b [p]=kids n b p:=by simp[nxt]
theorem zd8 {n:Nat}(hn:n<=7)(s b:Int):∀k,(pz n s b k).length<=7 ^ k
 |0=>by unfold pz;split<;>simp
 | k + 1 => by
   have:=zd8 hn s b k
   have h:=zeD hn b (pz n s b k)
   rw[pz,Nat.pow_succ]
   omega
theorem ziL {k:Nat}(h:k<=7):7 ^ k<=823543:=Nat.le_trans (Nat.pow_le_pow_right (by decide) h) (by decide)
theorem zcW {n:Nat}{s b:Int}:∀{k:Nat},∀p∈pz n s b k,p.length=k+1
 | 0, p, h => by
   unfold pz at h
   split at h
   · cases h
   · simp at h;subst h;rfl
 | k + 1, p, h => by
   rw[pz,nxt,List.mem_flatMap] at h
   obtain⟨q,hq,hp⟩:=h
   obtain⟨o,_,rfl⟩:=List.mem_map.mp hp
   rw[List.length_append,zcW q hq];rfl
theorem zlF {cf:CF}{T:R.St}{n:Nat}{b:Int}{p:List Int}(hp:p.length<=1000)(v:Option D):zbw [0] (evT cf (.and (.cmp .NotEq (.loc 0) (.loc 2)) (.cmp .NotIn (.loc 0) (.loc 1)))) (evE cf (.bin .Add (.loc 1) (.tup (.cons (.loc 0) .nil)))) ((List.range (n:Int).toNat).map fun (k:Nat)=>D.int k) [v,some (pD p),some (.int b)] T=.ok ((kids n b p).map pD) T:=by
 rw[za0 (fun d=>match d with|.int o=>!decide (o=b)&&!decide (o∈p)|_=>false) (fun d=>match d with|.int o=>pD (p++[o])|d=>d) _ v (fun z hz=>?_) (fun z hz _=>?_)]
 · congr 1
   rw[zey,List.filter_map,List.map_map]
   unfold kids oth
   rw[List.map_map]
   rfl
 · obtain⟨o,_,rfl⟩:=List.mem_map.mp hz
   refine W.eq (wT_W _ ?_)
   conv=>whnf
   refine zhr (fun c=>?_) (fun c=>?_)
   · conv=>whnf
     refine zad (zcF _ _ _) ?_
     conv=>whnf
     exact⟨by simp at c;simp[c],rfl⟩
   · exact⟨by simp at c;simp[c],rfl⟩
 · obtain⟨o,_,rfl⟩:=List.mem_map.mp hz
   refine W.eq (wE_W _ ?_)
   conv=>whnf
   refine zab (by first|decide|omega|(simp;done)|(simp;omega)) ?_
   conv=>whnf
   refine zab (by simp only[List.length_map,List.length_cons,List.length_nil];omega) ?_
   conv=>whnf
   exact⟨by simp,rfl⟩
theorem zdh (N:Nat)(ps:List (List Int)):flats N (ps.map pD)=true:=by
 rw[zaW]
 intro d hd
 obtain⟨p,_,rfl⟩:=List.mem_map.mp hd
 simp
theorem zfd {f l n:Nat}{S:R.St}{b:Int}{ps:List (List Int)}(hg:S.get l=some (.lst (ps.map pD)))(hn:n<=7)(hp:∀p∈ps,p.length<=100)(hl:ps.length<=823543) :
  app (callF prog (f+1)) 5 [.ref l,.int n,.int b] S=.ok (.ref S.len) (S.push (.lst ((nxt n b ps).map pD))):=by
 have ll:=zbn hg
 have hlk:([l]:List Nat).contains ((S.frz++S.new).length+0)=false:=by
  rw[zdB];simp;omega
 refine zby (F:=c_lengthened) rfl rfl ?_
 conv=>whnf
 refine zab (by first|decide|omega|(simp;done)|(simp;omega)) ?_
 conv=>whnf
 refine zaI hg ?_
 conv=>whnf
 refine zas ?_
 refine W.mono (zaA (fun i δ T=>(∃v4,δ=[some (.ref l),some (.int n),some (.int b),some (.ref ((S.frz++S.new).length+0)),v4])/\T=⟨S.frz++S.new,[.lst ((nxt n b (ps.take i)).map pD)],[l]⟩) (fun _ _=>False) _ 0 _ _ ⟨⟨none,rfl⟩,rfl⟩ ?_) ?_
 · rintro i z δ T hz ⟨⟨v4,rfl⟩,rfl⟩
   rw[Nat.zero_add]
   rw[List.getElem?_map] at hz
   cases e:ps[i]? with
   |none=>rw[e] at hz;cases hz
   | some p =>
     rw[e] at hz;cases hz
     have hpl:=hp p (List.mem_of_getElem? e)
     have hk:=zeL hn b p
     have ht:=zeD hn b (ps.take i)
     have htl:(ps.take i).length<=ps.length:=by rw[List.length_take];omega
     refine⟨_,rfl,?_⟩
     generalize hδ:List.set _ 4 _=δ1
     refine wS_W _ ?_
     subst hδ
     conv=>whnf
     refine zaz rfl ?_
     conv=>whnf
     refine zab (by omega) ?_
     conv=>whnf
     refine zas ?_
     refine W.of (zlF (by omega) _) ?_
     refine zab (by simp only[List.length_map];omega) ?_
     conv=>whnf
     refine zaz rfl ?_
     conv=>whnf
     refine zab (by simp only[List.length_append,List.length_map];omega) ?_
     conv=>whnf
     refine zaU hlk ?_
     refine⟨⟨_,rfl⟩,?_⟩
     rw[zbh e,ziW,ziV,List.map_append]
     rfl
 · intro r T hr
   cases r with
   |rt d=>exact hr.elim
   | nx δ =>
     obtain⟨⟨v4,rfl⟩,rfl⟩:=hr
     rw[Nat.zero_add,List.length_map,List.take_length]
     conv=>whnf
     exact zbz (i:=0) rfl (zdh _ _) ⟨rfl,rfl⟩
theorem zj8 {n:Nat}{S:R.St}{i:Int}:app (callF prog (n+1)) 0 [.int i] S=.ok (.bl true) S:=by
 refine zby (F:=c_is_whole) rfl rfl ?_
 conv=>whnf
 refine zad ((show tyOf S.enter (.int i)=some "int" from rfl)) ?_
 conv=>whnf
 refine zad ((show tyOf S.enter (.int i)=some "int" from rfl)) ?_
 conv=>whnf
 exact zao rfl ⟨rfl,rfl⟩
theorem zoq {n:Nat}{S:R.St}{i m:Int}(h0:0<=i)(h1:i<m):app (callF prog (n+2)) 1 [.int i,.int m] S=.ok (.bl true) S:=by
 refine zby (F:=c_is_hand) rfl rfl ?_
 conv=>whnf
 refine zaj (zj8 (n:=n)) ?_
 conv=>whnf
 refine zh9 (by simpa using h0) ?_
 conv=>whnf
 exact zao rfl ⟨by simpa using h1,rfl⟩
theorem plen (S:R.St)(o:MO):(S.push o).len=S.len+1:=by simp[St.push,St.len];omega
theorem zjJ {P:List Fn}{F:Fn}{f n:Nat}{ds rs:List D}{S:R.St}(h:P[f]?=some F)(hl:ds.length=F.np)(w:W (exS (callF P n) F.body (zbi F ds) S.enter) fun r T=>∃l,r=.rt (.ref l)/\S.len<=l/\T.get l=some (.lst rs)/\flats S.len rs=true)(hp:F.prim=none:=by rfl) :
  appL (callF P (n+1)) f ds S=.ok rs S:=by
 refine W.eq ?_
 rw[znB h hl hp,zaa]
 refine w.mono fun r T q=>?_
 obtain⟨l,rfl,h1,h2,h3⟩:=q
 rw[znj]
 unfold zdC
 dsimp only
 rw[if_neg (by omega),h2]
 dsimp only
 rw[if_pos h3]
 exact⟨rfl,rfl⟩
theorem znA {P:List Fn}{F:Fn}{f n:Nat}{ds rs:List D}{S:R.St}(h:P[f]?=some F)(hl:ds.length=F.np)(w:W (exS (callF P n) F.body (zbi F ds) S.enter) fun r T=>∃l,r=.rt (.ref l)/\S.len<=l/\T.get l=some (.lst rs)/\flats S.len rs=true)(hp:F.prim=none:=by rfl) :
  app (callF P (n+1)) f ds S=.ok (.ref S.len) (S.push (.lst rs)):=by
 refine W.eq ?_
 rw[zlJ h hl hp,zaa]
 refine w.mono fun r T q=>?_
 obtain⟨l,rfl,h1,h2,h3⟩:=q
 have:=zeY (Q:=fun a T'=>a=.ref S.len/\T'=S.push (.lst rs)) h1 h2 h3 ⟨rfl,rfl⟩
 unfold wFin at this
 exact this
theorem ziD {n:Nat}{s:Int}:∀k,pz n s s k=[]
 |0=>by simp[pz]
 |k+1=>by rw[pz,ziD k];rfl
theorem enter_len (S:R.St):S.enter.len=S.len:=by simp[St.enter,St.len]
theorem zmm {f k n:Nat}{S:R.St}{s b:Int}(hn:n<=7)(hs:0<=s/\s<n)(hk:k<=6):appL (callF prog (f+3)) 4 [.int n,.int s,.int ((k+1:Nat):Int),.int b] S=.ok ((pz n s b k).map pD) S:=by
 refine zjJ (F:=c_paths) rfl rfl (wS_W _ ?_)
 conv=>whnf
 refine zh9 (by simp;omega) ?_
 conv=>whnf
 refine zdj (by simp;omega) ?_
 conv=>whnf
 refine zaj (zoq (n:=f) hs.1 hs.2) ?_
 conv=>whnf
 refine zbG (fun c=>?_) (fun c=>?_)
 · subst c
   conv=>whnf
   refine zab (by first|decide|omega|(simp;done)|(simp;omega)) ?_
   conv=>whnf
   exact⟨_,rfl,by rw[enter_len];exact Nat.le_refl _,(zaY _ _).trans (by rw[ziD];rfl),zdh _ _⟩
 · conv=>whnf
   refine zab (by first|decide|omega|(simp;done)|(simp;omega)) ?_
   conv=>whnf
   refine zab (by first|decide|omega|(simp;done)|(simp;omega)) ?_
   conv=>whnf
   refine zab (by omega) ?_
   conv=>whnf
   refine zas ?_
   refine W.mono (zaA (fun i δ T=>∃l v5,δ=[some (.int n),some (.int s),some (.int ((k+1:Nat):Int)),some (.int b),some (.ref l),v5]/\S.len<=l/\S.len<=T.len/\T.get l=some (.lst ((pz n s b i).map pD))) (fun _ _=>False) _ 0 _ _ ?_ ?_) ?_
   · exact⟨_,none,rfl,by rw[enter_len];exact Nat.le_refl _,by show S.len<=(S.enter.push (.lst [D.tup [D.int s]])).len;rw[plen,enter_len];omega,(zaY _ _).trans (by simp[pz,c])⟩
   · rintro i z δ T hz ⟨l,v5,rfl,h1,h2,h3⟩
     rw[Nat.zero_add] at h3
     rw[Nat.zero_add]
     have hi:i<k:=by
      have:=(List.getElem?_eq_some_iff.mp hz).1
      simpa using this
     have pl:=zd8 hn s b i
     have p7:=ziL (show i<=7 by omega)
     refine⟨_,rfl,?_⟩
     generalize hδ:List.set _ 5 _=δ1
     refine wS_W _ ?_
     subst hδ
     conv=>whnf
     refine zaj (zfd (f:=f+1) h3 hn (fun p hp=>by have:=zcW p hp;omega) (by omega)) ?_
     conv=>whnf
     refine⟨_,_,rfl,h2,?_,zaY _ _⟩
     rw[plen];omega
   · intro r T hr
     cases r with
     |rt d=>exact hr.elim
     | nx δ =>
       obtain⟨l,v5,rfl,h1,h2,h3⟩:=hr
       have e:0+((List.range (((k+1:Nat):Int) - 1).toNat).map fun (k:Nat)=>D.int (1+(k:Int))).length=k:=by simp
       rw[e] at h3
       conv=>whnf
       exact⟨l,rfl,h1,h3,zdh _ _⟩
theorem zgZ {f k n:Nat}{S:R.St}{s b:Int}(hn:n<=7)(hk:k<=7):W (exS (callF prog f) c_law_paths.body (zbi c_law_paths [.int n,.int s,.int ((k+1:Nat):Int),.int b]) S.enter) fun r T=>∃l,r=.rt (.ref l)/\S.len<=l/\T.get l=some (.lst ((pz n s b k).map pD))/\flats S.len ((pz n s b k).map pD)=true:=by
 refine wS_W _ ?_
 have go:∀(j:Nat) (nw:List MO),nw[j]?=some (.lst ((pz n s b 0).map pD))->wS (callF prog f) (.forS [5] (.rng1 (.bin .Sub (.loc 2) (.con (D.int 1)))) (.asg 6 (.lst .nil) (.forS [7] (.val (.loc 4)) (.expr (.ext (.loc 6) (.comp 1 [7,3] [0] (.rng1 (.loc 0)) (.and (.cmp .NotEq (.loc 0) (.loc 2)) (.cmp .NotIn (.loc 0) (.loc 1))) (.bin .Add (.loc 1) (.tup (.cons (.loc 0) .nil))))) .nil) (.asg 4 (.loc 6) .nil))) (.ret (.loc 4) .nil)) [some (.int n),some (.int s),some (.int ((k+1:Nat):Int)),some (.int b),some (.ref ((S.frz++S.new).length+j)),none,none,none] ⟨S.frz++S.new,nw,[]⟩ fun r T=>∃l,r=.rt (.ref l)/\S.len<=l/\T.get l=some (.lst ((pz n s b k).map pD))/\flats S.len ((pz n s b k).map pD)=true:=by
  intro j0 nw0 hj0
  conv=>whnf
  refine zab (by omega) ?_
  conv=>whnf
  refine zas ?_
  refine W.mono (zaA (fun i δ T=>∃j nw v5 v6 v7,δ=[some (.int n),some (.int s),some (.int ((k+1:Nat):Int)),some (.int b),some (.ref ((S.frz++S.new).length+j)),v5,v6,v7]/\T=⟨S.frz++S.new,nw,[]⟩/\nw[j]?=some (.lst ((pz n s b i).map pD))) (fun _ _=>False) _ 0 _ _ ⟨j0,nw0,none,none,none,rfl,rfl,hj0⟩ ?_) ?_
  · rintro i z δ T hz ⟨j,nw,v5,v6,v7,rfl,rfl,hj⟩
    rw[Nat.zero_add] at hj
    rw[Nat.zero_add]
    have hi:i<k:=by
     have:=(List.getElem?_eq_some_iff.mp hz).1
     simpa using this
    have hjl:j<nw.length:=(List.getElem?_eq_some_iff.mp hj).1
    have pl:=zd8 hn s b i
    have p7:=ziL (show i<=7 by omega)
    have hlk:([(S.frz++S.new).length+j]:List Nat).contains ((S.frz++S.new).length+nw.length)=false:=by simp;omega
    have gj:∀o lk,(St.mk (S.frz++S.new) (nw++[o]) lk).get ((S.frz++S.new).length+j)=some (.lst ((pz n s b i).map pD)):=fun o lk=>by
     rw[zbP,List.getElem?_append_left hjl];exact hj
    have g8:∀o lk,(St.mk (S.frz++S.new) (nw++[o]) lk).get ((S.frz++S.new).length+nw.length)=some o:=fun o lk=>by
     rw[zbP,List.getElem?_append_right (Nat.le_refl _),Nat.sub_self];rfl
    refine⟨_,rfl,?_⟩
    generalize hδ:List.set _ 5 _=δ1
    refine wS_W _ ?_
    subst hδ
    conv=>whnf
    refine zab (by first|decide|omega|(simp;done)|(simp;omega)) ?_
    conv=>whnf
    refine zad (gj _ _) ?_
    conv=>whnf
    refine zas ?_
    refine W.mono (zaA (fun m δ T=>∃v7,δ=[some (.int n),some (.int s),some (.int ((k+1:Nat):Int)),some (.int b),some (.ref ((S.frz++S.new).length+j)),some z,some (.ref ((S.frz++S.new).length+nw.length)),v7]/\T=⟨S.frz++S.new,nw++[.lst ((nxt n b ((pz n s b i).take m)).map pD)],[(S.frz++S.new).length+j]⟩) (fun _ _=>False) _ 0 _ _ ⟨v7,rfl,rfl⟩ ?_) ?_
    · rintro m z2 δ T hz2 ⟨v7,rfl,rfl⟩
      rw[Nat.zero_add]
      rw[List.getElem?_map] at hz2
      cases e:(pz n s b i)[m]? with
      |none=>rw[e] at hz2;cases hz2
      | some p =>
        rw[e] at hz2;cases hz2
        have hpl:=zcW p (List.mem_of_getElem? e)
        have hkl:=zeL hn b p
        have ht:=zeD hn b ((pz n s b i).take m)
        have htl:((pz n s b i).take m).length<=(pz n s b i).length:=by rw[List.length_take];omega
        refine⟨_,rfl,?_⟩
        generalize hδ:List.set _ 7 _=δ1
        refine wS_W _ ?_
        subst hδ
        conv=>whnf
        refine zad (g8 _ _) ?_
        conv=>whnf
        refine zab (by omega) ?_
        conv=>whnf
        refine zas ?_
        refine W.of (zlF (by omega) _) ?_
        refine zab (by simp only[List.length_map];omega) ?_
        conv=>whnf
        refine zad (g8 _ _) ?_
        conv=>whnf
        refine zab (by simp only[List.length_append,List.length_map];omega) ?_
        conv=>whnf
        refine zaU hlk ?_
        refine⟨_,rfl,?_⟩
        rw[zbh e,ziW,ziV,List.map_append,zgG]
    · intro r T hr
      cases r with
      |rt d=>exact hr.elim
      | nx δ =>
        obtain⟨v7,rfl,rfl⟩:=hr
        rw[Nat.zero_add,List.length_map,List.take_length]
        conv=>whnf
        refine⟨nw.length,_,_,_,_,rfl,rfl,?_⟩
        rw[List.getElem?_append_right (Nat.le_refl _),Nat.sub_self]
        rfl
  · intro r T hr
    cases r with
    |rt d=>exact hr.elim
    | nx δ =>
      obtain⟨j,nw,v5,v6,v7,rfl,rfl,hj⟩:=hr
      have e:0+((List.range (((k+1:Nat):Int) - 1).toNat).map fun (k:Nat)=>D.int (k:Int)).length=k:=by simp
      rw[e] at hj
      conv=>whnf
      exact⟨_,rfl,by rw[zdB];omega,(zbP _ _ _ _).trans hj,zdh _ _⟩
 conv=>whnf
 refine zab (by first|decide|omega|(simp;done)|(simp;omega)) ?_
 conv=>whnf
 refine zab (by first|decide|omega|(simp;done)|(simp;omega)) ?_
 conv=>whnf
 refine zbG (fun c=>?_) (fun c=>?_)
 · conv=>whnf
   refine zab (by first|decide|omega|(simp;done)|(simp;omega)) ?_
   conv=>whnf
   exact go 1 [.lst [pD [s]],.lst []] (by simp[pz,c])
 · exact go 0 [.lst [pD [s]]] (by simp[pz,c])
theorem zio {f k n:Nat}{S:R.St}{s b:Int}(hn:n<=7)(hk:k<=7):appL (callF prog (f+1)) 15 [.int n,.int s,.int ((k+1:Nat):Int),.int b] S=.ok ((pz n s b k).map pD) S:=zjJ (F:=c_law_paths) rfl rfl (zgZ hn hk)
theorem zj9 {f k n:Nat}{S:R.St}{s b:Int}(hn:n<=7)(hk:k<=7):app (callF prog (f+1)) 15 [.int n,.int s,.int ((k+1:Nat):Int),.int b] S=.ok (.ref S.len) (S.push (.lst ((pz n s b k).map pD))):=znA (F:=c_law_paths) rfl rfl (zgZ hn hk)
noncomputable def hD (i:Int)(n t:Nat)(s:Int)(w:Option Int)(l:Nat):MO:=.ins 0 [("number",.int i),("many",.int n),("rounds",.int t),("sender",.int s),("word",oD w),("notes",.ref l)]
section
variable {S:R.St} {a l n t:Nat} {i s:Int} {w:Option Int}
theorem zbs {c:Nat}{fs:List (PySem.Str × D)}(e:S.get a=some (.ins c fs)):zbO S (.ref a)=some (c,fs):=by
 unfold zbO;dsimp only;rw[e]
theorem zei {c:Nat}{fs:List (PySem.Str × D)}{f:PySem.Str}{v:D}(e:S.get a=some (.ins c fs))(g:fs.lookup f=some v):((zbO S (.ref a)).bind fun p=>p.2.lookup f)=some v:=by
 rw[zbs e];exact g
theorem zcn (e:S.get a=some (hD i n t s w l)):((zbO S (.ref a)).bind fun p=>p.2.lookup ("number":PySem.Str))=some (.int i):=zei e rfl
theorem zhb (e:S.get a=some (hD i n t s w l)):((zbO S (.ref a)).bind fun p=>p.2.lookup ("many":PySem.Str))=some (.int n):=zei e rfl
theorem zha (e:S.get a=some (hD i n t s w l)):((zbO S (.ref a)).bind fun p=>p.2.lookup ("rounds":PySem.Str))=some (.int t):=zei e rfl
theorem zcK (e:S.get a=some (hD i n t s w l)):((zbO S (.ref a)).bind fun p=>p.2.lookup ("sender":PySem.Str))=some (.int s):=zei e rfl
theorem zjn (e:S.get a=some (hD i n t s w l)):((zbO S (.ref a)).bind fun p=>p.2.lookup ("word":PySem.Str))=some (oD w):=zei e rfl
theorem zeQ (e:S.get a=some (hD i n t s w l)):((zbO S (.ref a)).bind fun p=>p.2.lookup ("notes":PySem.Str))=some (.ref l):=zei e rfl
end
theorem zjI {P:List Fn}{F:Fn}{f n:Nat}{ds:List D}{S:R.St}{Q:D->R.St->Prop}(h:P[f]?=some F)(hl:ds.length=F.np)(w:W (exS (callF P n) F.body (zbi F ds) S) fun r T=>match r with|.nx _=>Q .non T|.rt d=>Q d T)(hp:F.prim=none:=by rfl):W (appW (callF P (n+1)) f ds S) Q:=by
 unfold appW
 simp only[callF,h,hl,hp,if_true,zaa]
 refine w.mono fun r T q=>?_
 cases r<;>exact q
theorem zdT {P:List Fn}{F:Fn}{f n:Nat}{ds:List D}{S S':R.St}{d:D}(h:P[f]?=some F)(hl:ds.length=F.np)(w:wS (callF P n) F.body (zbi F ds) S fun r T=>match r with|.nx _=>D.non=d/\T=S'|.rt z=>z=d/\T=S')(hp:F.prim=none:=by rfl):appW (callF P (n+1)) f ds S=.ok d S':=by
 refine W.eq (zjI h hl ((wS_W _ w).mono fun r T q=>?_) hp)
 cases r<;>exact q
structure Mv (A:List Nat) (S T:R.St):Prop where
 frz:T.frz=S.frz
 lk:T.lk=S.lk
 len:S.len<=T.len
 old:∀m o,m∉A->S.get m=some o->T.get m=some o
theorem Mv.refl (A:List Nat)(S:R.St):Mv A S S:=⟨rfl,rfl,Nat.le_refl _,fun _ _ _ h=>h⟩
theorem Mv.trans {A:List Nat}{S T U:R.St}(a:Mv A S T)(b:Mv A T U):Mv A S U:=⟨b.frz.trans a.frz,b.lk.trans a.lk,Nat.le_trans a.len b.len,fun m o h e=>b.old m o h (a.old m o h e)⟩
theorem Mv.push (A:List Nat)(S:R.St)(o:MO):Mv A S (S.push o):=⟨rfl,rfl,by rw[plen];omega,fun _ _ _ e=>zaV e⟩
theorem Mv.put {S:R.St}{l:Nat}{o u:MO}(e:S.get l=some o)(h1:S.frz.length<=l)(h2:S.lk.contains l=false):∃T,S.put l u=some T/\Mv [l] S T/\T.get l=some u:=by
 obtain⟨T,g1,g2,g3,g4,g5,g6⟩:=zke (S:=S) (l:=l) u h1 h2
 exact⟨T,g1,⟨g2,g3,by omega,fun m o hm e=>by rw[g5 m (by simpa using hm)];exact e⟩,g6 (zbn e)⟩
noncomputable def ltw (n:Nat)(i:Int)(p:List Int)(d:D):List D:=((hnds n).filter fun o=>!decide (o∈p++[i])).map fun o=>.tup [pD (p++[i]),.int o,d]
theorem zdx {n:Nat}(hn:n<=7)(i:Int)(p:List Int)(d:D):(ltw n i p d).length<=7:=by
 unfold ltw
 rw[List.length_map]
 refine Nat.le_trans (List.length_filter_le _ _) ?_
 rw[zg7];exact hn
theorem zpA {cf:CF}{T:R.St}{n:Nat}{i:Int}{p:List Int}{d:D}(v:Option D):zbw [0] (evT cf (.cmp .NotIn (.loc 0) (.loc 1))) (evE cf (.tup (.cons (.loc 1) (.cons (.loc 0) (.cons (.loc 2) .nil))))) ((List.range (n:Int).toNat).map fun (k:Nat)=>D.int k) [v,some (pD (p++[i])),some d] T=.ok (ltw n i p d) T:=by
 rw[za0 (fun x=>match x with|.int o=>!decide (o∈p++[i])|_=>false) (fun x=>match x with|.int o=>.tup [pD (p++[i]),.int o,d]|x=>x) _ v (fun z hz=>?_) (fun z hz _=>?_)]
 · congr 1
   rw[zey,List.filter_map,List.map_map]
   rfl
 · obtain⟨o,_,rfl⟩:=List.mem_map.mp hz
   refine W.eq (wT_W _ ?_)
   conv=>whnf
   refine zad (zcF _ _ _) ?_
   conv=>whnf
   exact⟨rfl,rfl⟩
 · obtain⟨o,_,rfl⟩:=List.mem_map.mp hz
   refine W.eq (wE_W _ ?_)
   conv=>whnf
   refine zab (by first|decide|omega|(simp;done)|(simp;omega)) ?_
   conv=>whnf
   exact⟨rfl,rfl⟩
section
variable {S:R.St} {a l n t:Nat} {i s:Int} {w:Option Int}
theorem m_lw {f:Nat}{p:List Int}{d:D}(e:S.get a=some (hD i n t s w l))(hn:n<=7)(hp:p.length<=100):appW (callF prog (f+1)) 27 [.ref a,pD p,d] S=.ok (.ref S.len) (S.push (.lst (ltw n i p d))):=by
 have hl:=zdx hn i p d
 refine zdT (F:=c_OralHand_letters_with) rfl rfl ?_
 conv=>whnf
 refine zad (zcn e) ?_
 conv=>whnf
 refine zab (by first|decide|omega|(simp;done)|(simp;omega)) ?_
 conv=>whnf
 refine zab (by simp only[List.length_map,List.length_cons,List.length_nil];omega) ?_
 conv=>whnf
 rw[show p.map D.int++[D.int i]=(p++[i]).map D.int by simp]
 refine zad (zhb e) ?_
 conv=>whnf
 refine zab (by omega) ?_
 conv=>whnf
 refine zas ?_
 refine W.of (zpA none) ?_
 refine zab (Nat.le_trans hl (by decide)) ?_
 conv=>whnf
 refine zab (Nat.le_trans hl (by decide)) ?_
 conv=>whnf
 exact⟨rfl,rfl⟩
noncomputable def wd (kvs:List (List Int × D))(p:List Int):D:=(valP kvs p).getD (.int 0)
noncomputable def sayK (n:Nat)(i:Int)(kvs:List (List Int × D))(ps:List (List Int)):List D:=ps.flatMap fun p=>ltw n i p (wd kvs p)
noncomputable def sayL (n:Nat)(i s:Int)(w:Option Int)(kvs:List (List Int × D)):Nat->List D
 |0=>[]
 |1=>if i=s then ltw n i [] (oD w) else []
 |k+2=>sayK n i kvs (pz n s i k)
theorem zex {n:Nat}(hn:n<=7)(i:Int)(kvs:List (List Int × D)):∀ps:List (List Int),(sayK n i kvs ps).length<=7 * ps.length
 | []=>by simp[sayK]
 | p :: ps => by
   have:=zex hn i kvs ps
   have h:=zdx hn i p (wd kvs p)
   unfold sayK at *
   rw[List.flatMap_cons,List.length_append,List.length_cons]
   omega
theorem zgI (n:Nat)(i:Int)(kvs:List (List Int × D))(ps qs:List (List Int)):sayK n i kvs (ps++qs)=sayK n i kvs ps++sayK n i kvs qs:=by simp[sayK]
theorem zgH (n:Nat)(i:Int)(kvs:List (List Int × D))(p:List Int):sayK n i kvs [p]=ltw n i p (wd kvs p):=by simp[sayK]
theorem zmY {x y:Nat}{xs ys:List D}(h1:S.get x=some (.lst xs))(h2:S.get y=some (.lst ys)):lsts S (.ref x) (.ref y)=some (x,xs,ys):=by
 unfold lsts;dsimp only;rw[h1,h2]
theorem zo8 {f k:Nat}{kvs:List (List Int × D)}(e:S.get a=some (hD i n t s w l))(g:S.get l=some (.dtp kvs))(hn:n<=7)(hs:0<=s/\s<n)(hk:k<=7)(hlk:S.lk=[]) :
  W (appW (callF prog (f+4)) 28 [.ref a,.int ((k+1:Nat):Int)] S) fun d T=>∃m,d=.ref m/\Mv [] S T/\S.len<=m/\T.get m=some (.lst (sayL n i s w kvs (k+1))):=by
 refine zjI (F:=c_OralHand_say) rfl rfl (wS_W _ ?_)
 cases k with
 | zero =>
   conv=>whnf
   refine zad (zcn e) ?_
   conv=>whnf
   refine zad (zcK e) ?_
   conv=>whnf
   refine zbG (fun c=>?_) (fun c=>?_)
   · conv=>whnf
     refine zad (zbs e) ?_
     conv=>whnf
     refine zad (rfl) ?_
     conv=>whnf
     refine zab rfl ?_
     conv=>whnf
     refine zab (by first|decide|omega|(simp;done)|(simp;omega)) ?_
     conv=>whnf
     refine zad (zjn e) ?_
     conv=>whnf
     refine zaj (m_lw (p:=[]) (f:=f+2) (d:=oD w) e hn (by simp)) ?_
     conv=>whnf
     exact⟨_,rfl,Mv.push _ _ _,Nat.le_refl _,by rw[zaY];simp[sayL,c]⟩
   · conv=>whnf
     refine zab (by first|decide|omega|(simp;done)|(simp;omega)) ?_
     conv=>whnf
     exact⟨_,rfl,Mv.push _ _ _,Nat.le_refl _,by rw[zaY];simp[sayL,c]⟩
 | succ k =>
   have pl:=zd8 hn s i k
   have p7:=ziL (show k<=7 by omega)
   have frl:S.frz.length<=S.len:=by simp[St.len]
   conv=>whnf
   refine zab (by first|decide|omega|(simp;done)|(simp;omega)) ?_
   conv=>whnf
   have e1:(S.push (.lst [])).get a=some (hD i n t s w l):=zaV e
   refine zad (zhb e1) ?_
   conv=>whnf
   refine zad (zcK e1) ?_
   conv=>whnf
   refine zad (zcn e1) ?_
   conv=>whnf
   rw[show (((k+1+1:Nat):Int) - 1)=((k+1:Nat):Int) by omega]
   refine zaj (zmm (f:=f) hn hs (show k<=6 by omega)) ?_
   conv=>whnf
   refine zas ?_
   refine W.mono (zaA (fun m δ T=>(∃v3,δ=[some (.ref a),some (.int ((k+1+1:Nat):Int)),some (.ref S.len),v3])/\Mv [S.len] (S.push (.lst [])) T/\T.get S.len=some (.lst (sayK n i kvs ((pz n s i k).take m)))) (fun _ _=>False) _ 0 _ _ ⟨⟨none,rfl⟩,Mv.refl _ _,zaY _ _⟩ ?_) ?_
   · rintro m z δ T hz ⟨⟨v3,rfl⟩,mv,gT⟩
     rw[Nat.zero_add] at gT
     rw[Nat.zero_add]
     rw[List.getElem?_map] at hz
     cases ep:(pz n s i k)[m]? with
     |none=>rw[ep] at hz;cases hz
     | some p =>
       rw[ep] at hz;cases hz
       have hpl:=zcW p (List.mem_of_getElem? ep)
       have la:=zbn e
       have ll:=zbn g
       have eT:=mv.old a _ (by simp;omega) e1
       have gl:=mv.old l _ (by simp;omega) (zaV g)
       have hlt:=zdx hn i p (wd kvs p)
       have ht:=zex hn i kvs ((pz n s i k).take m)
       have htl:((pz n s i k).take m).length<=(pz n s i k).length:=by rw[List.length_take];omega
       obtain⟨U,u1,u2,u3⟩:=Mv.put (S:=T.push (.lst (ltw n i p (wd kvs p)))) (l:=S.len) (u:=.lst (sayK n i kvs ((pz n s i k).take m)++ltw n i p (wd kvs p))) (zaV gT) (by show T.frz.length<=_;rw[mv.frz];exact frl) (by show T.lk.contains _=false;rw[mv.lk];show S.lk.contains _=false;rw[hlk];rfl)
       refine⟨_,rfl,?_⟩
       generalize hδ:List.set _ 3 _=δ1
       refine wS_W _ ?_
       subst hδ
       conv=>whnf
       refine zad (gT) ?_
       conv=>whnf
       refine zad (zbs eT) ?_
       conv=>whnf
       refine zad (rfl) ?_
       conv=>whnf
       refine zab rfl ?_
       conv=>whnf
       refine zad (zeQ eT) ?_
       conv=>whnf
       refine zab (by simp only[isDt,gl]) ?_
       conv=>whnf
       refine zad (zdO gl p) ?_
       conv=>whnf
       refine zaj (m_lw (f:=f+2) (d:=wd kvs p) eT hn (by omega)) ?_
       conv=>whnf
       refine zad (zmY (zaV gT) (zaY _ _)) ?_
       conv=>whnf
       refine zab (by simp only[List.length_append];omega) ?_
       conv=>whnf
       refine zad (u1) ?_
       conv=>whnf
       refine⟨⟨_,rfl⟩,(mv.trans (Mv.push _ _ _)).trans u2,?_⟩
       rw[u3,zbh ep,zgI,zgH]
   · intro r T hr
     cases r with
     |rt d=>exact hr.elim
     | nx δ =>
       obtain⟨⟨v3,rfl⟩,mv,gT⟩:=hr
       rw[Nat.zero_add,List.length_map,List.take_length] at gT
       conv=>whnf
       refine⟨_,rfl,⟨mv.frz,rfl,?_,fun m o _ eo=>mv.old m o (by have:=zbn eo;simp;omega) (zaV eo)⟩,Nat.le_refl _,gT⟩
       have:=mv.len
       rw[plen] at this
       show S.len<=T.len
       omega
end
noncomputable abbrev Kn:=List (List Int × Option Int)
noncomputable def gK (g:Option Int->D)(K:Kn):List (List Int × D):=K.map fun x=>(x.1,g x.2)
noncomputable def hv (o:Option Int):D:=.int (o.getD 0)
noncomputable def setK (K:Kn)(p:List Int)(o:Option Int):Kn:=if p∈K.map (·.1) then K else K++[(p,o)]
noncomputable def zb4 (K Ls:Kn):Kn:=Ls.foldl (fun K x=>setK K x.1 x.2) K
theorem zjU (K:Kn)(p:List Int)(o:Option Int):(setK K p o).length<=K.length+1:=by unfold setK;split<;>simp
theorem zcf:∀(Ls K:Kn),(zb4 K Ls).length<=K.length+Ls.length
 | [],K=>by simp[zb4]
 | x :: Ls, K => by
   have:=zcf Ls (setK K x.1 x.2)
   have h:=zjU K x.1 x.2
   simp only[zb4,List.foldl_cons,List.length_cons] at *
   omega
theorem zdl (K Ls:Kn)(x:List Int × Option Int):zb4 K (Ls++[x])=setK (zb4 K Ls) x.1 x.2:=by simp[zb4,List.foldl_append]
theorem zc1 (g:Option Int->D)(p:List Int):∀K:Kn,valP (gK g K) p=(K.find? fun x=>decide (x.1=p)).map fun x=>g x.2
 | []=>rfl
 | x :: K => by
   have ih:=zc1 g p K
   unfold valP gK at *
   rw[List.map_cons,List.find?_cons,List.find?_cons]
   by_cases c:x.1=p
   · simp[c]
   · simp only[c,decide_false];exact ih
theorem zjO (g:Option Int->D)(p:List Int)(K:Kn):(valP (gK g K) p).isSome=decide (p∈K.map (·.1)):=by
 rw[zc1]
 induction K with
 |nil=>rfl
 | cons x K ih =>
   rw[List.find?_cons]
   by_cases c:x.1=p
   · simp[c]
   · simp only[c,decide_false,List.map_cons,List.mem_cons]
     rw[ih]
     have:p≠x.1:=fun z=>c z.symm
     simp[this]
theorem zd9 (g:Option Int->D)(p:List Int)(o:Option Int):∀K:Kn,p∉K.map (·.1)->putP (gK g K) p (g o)=gK g (K++[(p,o)])
 | [],_=>rfl
 | x :: K, h => by
   rw[List.map_cons,List.mem_cons,not_or] at h
   have ih:=zd9 g p o K h.2
   have c:¬x.1=p:=fun z=>h.1 z.symm
   show putP ((x.1,g x.2)::gK g K) p (g o)=_
   rw[putP,if_neg c,ih]
   rfl
theorem zeh (g:Option Int->D)(K:Kn):(gK g K).length=K.length:=by simp[gK]
theorem zhg {S:R.St}{l:Nat}{K:Kn}(g:Option Int->D)(e:S.get l=some (.dtp (gK g K)))(h1:S.frz.length<=l)(h2:S.lk.contains l=false)(h3:K.length<16777216)(p:List Int)(o:Option Int) :
  ∃d T,zeS S (.ref l) (pD p) (g o)=some (d,T)/\Mv [l] S T/\T.get l=some (.dtp (gK g (setK K p o))):=by
 have hv:=zjO g p K
 have hg:=zdO e p
 unfold setK
 cases c:valP (gK g K) p with
 | some u =>
   rw[c] at hv hg
   have:p∈K.map (·.1):=by simpa using hv.symm
   rw[if_pos this]
   exact⟨u,S,by unfold zeS;rw[hg],Mv.refl _ _,e⟩
 | none =>
   rw[c] at hv hg
   have:p∉K.map (·.1):=by simpa using hv.symm
   rw[if_neg this]
   obtain⟨T,t1,t2,t3⟩:=Mv.put (u:=.dtp (putP (gK g K) p (g o))) e h1 h2
   refine⟨g o,T,?_,t2,by rw[t3,zd9 g p o K this]⟩
   unfold zeS
   rw[hg]
   dsimp only
   unfold dPut
   dsimp only
   rw[e]
   dsimp only
   rw[zec]
   dsimp only[Option.bind_some]
   rw[if_pos (by rw[zeh];exact h3),t1]
   rfl
noncomputable def lD (x:List Int × Option Int):D:=.tup [pD x.1,oD x.2]
section
variable {S:R.St} {a l n t:Nat} {i s:Int} {w:Option Int} {K:Kn}
theorem zpa {f q:Nat}{j:Int}{Ls:Kn}(e:S.get a=some (hD i n t s w l))(g:S.get l=some (.dtp (gK hv K)))(gq:S.get q=some (.lst (Ls.map lD)))(hf:S.frz.length<=l)(hlk:S.lk=[])(hl:K.length+Ls.length<16777216) :
  W (appW (callF prog (f+1)) 26 [.ref a,.int j,.ref q] S) fun d T=>d=.non/\Mv [l] S T/\T.get l=some (.dtp (gK hv (zb4 K Ls))):=by
 have hql:q≠l:=fun z=>by rw[z,g] at gq;cases gq
 have hal:a≠l:=fun z=>by rw[z,g] at e;cases e
 refine zjI (F:=c_OralHand_hear) rfl rfl (wS_W _ ?_)
 conv=>whnf
 refine zad (gq) ?_
 conv=>whnf
 refine zas ?_
 refine W.mono (zaA (fun m δ T=>(∃v3 v4,δ=[some (.ref a),some (.int j),some (.ref q),v3,v4])/\Mv [l] {S with lk:=[q]} T/\T.get l=some (.dtp (gK hv (zb4 K (Ls.take m))))) (fun _ _=>False) _ 0 _ _ ⟨⟨none,none,rfl⟩,by rw[hlk];exact Mv.refl _ _,g⟩ ?_) ?_
 · rintro m z δ T hz ⟨⟨v3,v4,rfl⟩,mv,gT⟩
   rw[Nat.zero_add] at gT
   rw[Nat.zero_add]
   rw[List.getElem?_map] at hz
   cases ex:Ls[m]? with
   |none=>rw[ex] at hz;cases hz
   | some x =>
     rw[ex] at hz;cases hz
     obtain⟨p,o⟩:=x
     have eT:=mv.old a _ (by simpa using hal) (show St.get {S with lk:=[q]} a=_ from e)
     have hlen:=zcf (Ls.take m) K
     have htl:(Ls.take m).length<=Ls.length:=by rw[List.length_take];omega
     obtain⟨d,U,u1,u2,u3⟩:=zhg hv gT (by rw[mv.frz];exact hf) (by rw[mv.lk];simp;exact fun z=>hql z.symm) (by omega) p o
     refine⟨_,rfl,?_⟩
     generalize hδ:zcO _ _ _=δ1
     refine wS_W _ ?_
     subst hδ
     have fin:∀b:Ev,b=[some (.ref a),some (.int j),some (.ref q),some (pD p),some (oD o)]->(∃v3 v4,b=[some (.ref a),some (.int j),some (.ref q),v3,v4])/\Mv [l] {S with lk:=[q]} U/\U.get l=some (.dtp (gK hv (zb4 K (Ls.take (m+1))))):=fun b hb=>⟨⟨_,_,hb⟩,mv.trans u2,by rw[u3,zbh ex,zdl]⟩
     cases o with
     | none =>
       conv=>whnf
       refine zad (zeQ eT) ?_
       conv=>whnf
       refine zab (by simp only[isDt,gT]) ?_
       conv=>whnf
       refine zad (u1) ?_
       conv=>whnf
       exact fin _ rfl
     | some v =>
       conv=>whnf
       refine zad (zeQ eT) ?_
       conv=>whnf
       refine zab (by simp only[isDt,gT]) ?_
       conv=>whnf
       refine zad (u1) ?_
       conv=>whnf
       exact fin _ rfl
 · intro r T hr
   cases r with
   |rt d=>exact hr.elim
   | nx δ =>
     obtain⟨⟨v3,v4,rfl⟩,mv,gT⟩:=hr
     rw[Nat.zero_add,List.length_map,List.take_length] at gT
     conv=>whnf
     exact⟨rfl,⟨mv.frz,rfl,mv.len,fun m o hm eo=>mv.old m o hm eo⟩,gT⟩
theorem zpT:Wds (gK hv K):=fun p d h=>by
 rw[zc1] at h
 cases c:K.find? fun x=>decide (x.1=p) with
 |none=>rw[c] at h;cases h
 |some x=>rw[c] at h;cases h;exact⟨some _,rfl⟩
noncomputable def trD (K:Kn)(n:Nat)(i s:Int)(w:Option Int)(k:Nat):D:=if i=s then .tup [pD [s],oD w,oD w,.tup []] else zbV (gK hv K) n i k [s]
noncomputable def trT (K:Kn)(n:Nat)(i s:Int)(w:Option Int)(k:Nat):D:=if i=s then oD w else .int (tkn (look (gK hv K)) n i k [s])
theorem zlv {k m:Nat}(e:S.get a=some (hD i n (k+1) s w l))(g:S.get l=some (.dtp (gK hv K)))(hn:n<=7)(hk:k<=40):appW (callF prog (2 * k+m+6+1)) 29 [.ref a] S=.ok (trD K n i s w k) S:=by
 refine zdT (F:=c_OralHand_tree) rfl rfl ?_
 unfold trD
 conv=>whnf
 refine zad (zcn e) ?_
 conv=>whnf
 refine zad (zcK e) ?_
 conv=>whnf
 refine zbG (fun c=>?_) (fun c=>?_)
 · rw[if_pos c]
   conv=>whnf
   refine zad (zcK e) ?_
   conv=>whnf
   refine zab (by first|decide|omega|(simp;done)|(simp;omega)) ?_
   conv=>whnf
   refine zad (zjn e) ?_
   conv=>whnf
   refine zad (zjn e) ?_
   conv=>whnf
   refine zab (by first|decide|omega|(simp;done)|(simp;omega)) ?_
   conv=>whnf
   refine zab (by first|decide|omega|(simp;done)|(simp;omega)) ?_
   conv=>whnf
   exact⟨rfl,rfl⟩
 · rw[if_neg c]
   conv=>whnf
   refine zad (zhb e) ?_
   conv=>whnf
   refine zad (zha e) ?_
   conv=>whnf
   refine zad (zcn e) ?_
   conv=>whnf
   refine zad (zcK e) ?_
   conv=>whnf
   refine zab (by first|decide|omega|(simp;done)|(simp;omega)) ?_
   conv=>whnf
   refine zad (zeQ e) ?_
   conv=>whnf
   have:=zis (l:=l) (n:=n) (h:=i) hn (zpT (K:=K)) k m S [s] g (by simp;omega)
   rw[show ([s]:List Int).length+k=k+1 by simp;omega] at this
   refine zaj (this) ?_
   conv=>whnf
   exact⟨rfl,rfl⟩
theorem tr_2 (K:Kn)(n:Nat)(i s:Int)(w:Option Int)(k:Nat):∃x y z,trD K n i s w k=.tup [x,y,trT K n i s w k,z]:=by
 unfold trD trT
 split
 · exact⟨_,_,_,rfl⟩
 · exact zid _ _ _ _ _
theorem zkG {k m:Nat}(e:S.get a=some (hD i n (k+1) s w l))(g:S.get l=some (.dtp (gK hv K)))(hn:n<=7)(hk:k<=40):appW (callF prog (2 * k+m+6+1+1)) 25 [.ref a] S=.ok (trT K n i s w k) S:=by
 refine zdT (F:=c_OralHand_ending) rfl rfl ?_
 obtain⟨x,y,z,et⟩:=tr_2 K n i s w k
 conv=>whnf
 refine zad (zbs e) ?_
 conv=>whnf
 refine zad (rfl) ?_
 conv=>whnf
 refine zab rfl ?_
 conv=>whnf
 refine zaj ((zlv (m:=m) e g hn hk).trans (by rw[et])) ?_
 conv=>whnf
 refine zad ((show atI [x,y,trT K n i s w k,z] 2=some (trT K n i s w k) from rfl)) ?_
 conv=>whnf
 exact⟨rfl,rfl⟩
end
theorem zmX {f:Nat}{i m r:Int}:appW (callF prog (f+1)) 30 [.ref 0,.int i,.int m,.int r] ⟨[],[.ins 0 []],[]⟩=.ok .non ⟨[],[.ins 0 [("number",.int i),("many",.int m),("rounds",.int r)]],[]⟩:=by
 refine zdT (F:=c_Hand_init) rfl rfl ?_
 conv=>whnf
 refine zad (rfl) ?_
 conv=>whnf
 refine zad (rfl) ?_
 conv=>whnf
 refine zad (rfl) ?_
 conv=>whnf
 exact⟨rfl,rfl⟩
theorem zo9 {f n t:Nat}{i s:Int}{w:Option Int}:appW (callF prog (f+2)) 24 [.ref 0,.int i,.int n,.int t,.int s,oD w] ⟨[],[.ins 0 []],[]⟩=.ok .non ⟨[],[hD i n t s w 1,.dtp []],[]⟩:=by
 refine zdT (F:=c_OralHand_init) rfl rfl ?_
 conv=>whnf
 refine zaj (zmX (f:=f)) ?_
 conv=>whnf
 refine zad (rfl) ?_
 conv=>whnf
 refine zad (rfl) ?_
 conv=>whnf
 refine zad (rfl) ?_
 conv=>whnf
 exact⟨rfl,rfl⟩
theorem zgx (K:Kn)(p:List Int):∃o:Option Int,(valP (gK oD K) p).getD .non=oD o/\wd (gK hv K) p=.int (o.getD 0):=by
 unfold wd
 rw[zc1,zc1]
 cases K.find? fun x=>decide (x.1=p) with
 |none=>exact⟨none,rfl,rfl⟩
 |some x=>exact⟨x.2,rfl,rfl⟩
theorem zfx (N n:Nat)(i:Int)(p:List Int)(o:Option Int):flats N (ltw n i p (oD o))=true:=by
 rw[zaW]
 intro d hd
 obtain⟨x,_,rfl⟩:=List.mem_map.mp hd
 cases o<;>simp[oD]
theorem zlc (K:Kn)(p:List Int):∃v:Int,wd (gK hv K) p=.int v:=by
 obtain⟨o,_,h⟩:=zgx K p
 exact⟨_,h⟩
theorem zhP (N n:Nat)(i:Int)(K:Kn)(ps:List (List Int)):flats N (sayK n i (gK hv K) ps)=true:=by
 rw[zaW]
 intro d hd
 obtain⟨p,_,hp⟩:=List.mem_flatMap.mp hd
 obtain⟨v,e⟩:=zlc K p
 rw[e] at hp
 exact (zaW ..).mp (zfx N n i p (some v)) d hp
theorem znu {cf:CF}{T:R.St}{n:Nat}{i:Int}{d:D}(v:Option D):zbw [0] (evT cf (.cmp .NotEq (.loc 0) (.loc 2))) (evE cf (.tup (.cons (.tup (.cons (.loc 2) .nil)) (.cons (.loc 0) (.cons (.loc 1) .nil))))) ((List.range (n:Int).toNat).map fun (k:Nat)=>D.int k) [v,some d,some (.int i)] T=.ok (ltw n i [] d) T:=by
 rw[za0 (fun x=>match x with|.int o=>!decide (o=i)|_=>false) (fun x=>match x with|.int o=>.tup [pD [i],.int o,d]|x=>x) _ v (fun z hz=>?_) (fun z hz _=>?_)]
 · congr 1
   rw[zey,List.filter_map,List.map_map]
   unfold ltw
   have e:(fun o:Int=>!decide (o∈[]++[i]))=fun o=>!decide (o=i):=by funext o;simp
   rw[e]
   rfl
 · obtain⟨o,_,rfl⟩:=List.mem_map.mp hz
   rfl
 · obtain⟨o,_,rfl⟩:=List.mem_map.mp hz
   refine W.eq (wE_W _ ?_)
   conv=>whnf
   refine zab (by first|decide|omega|(simp;done)|(simp;omega)) ?_
   conv=>whnf
   refine zab (by first|decide|omega|(simp;done)|(simp;omega)) ?_
   conv=>whnf
   exact⟨rfl,rfl⟩
theorem zp7 {f k l n:Nat}{S:R.St}{i s:Int}{w:Option Int}{K:Kn}(g:S.get l=some (.dtp (gK oD K)))(hn:n<=7)(hk:k<=7) :
  app (callF prog (f+2)) 16 [.tup [.int i,.int n,.int s],oD w,.int ((k+1:Nat):Int),.ref l] S=.ok (.ref S.len) (S.push (.lst (sayL n i s w (gK hv K) (k+1)))):=by
 refine zby (F:=c_law_due) rfl rfl ?_
 have g':∀nw lk,(St.mk (S.frz++S.new) nw lk).get l=some (.dtp (gK oD K)):=fun nw lk=>zdK g nw lk
 cases k with
 | zero =>
   conv=>whnf
   refine zad (rfl) ?_
   conv=>whnf
   refine zab (by first|decide|omega|(simp;done)|(simp;omega)) ?_
   conv=>whnf
   refine zbG (fun c=>?_) (fun c=>?_)
   · subst c
     have hl:=zdx hn i [] (oD w)
     conv=>whnf
     refine zab (by omega) ?_
     conv=>whnf
     refine zas ?_
     refine W.of (znu none) ?_
     refine zab (Nat.le_trans hl (by decide)) ?_
     conv=>whnf
     refine zab (Nat.le_trans hl (by decide)) ?_
     conv=>whnf
     refine zbz (i:=1) rfl (zfx _ _ _ _ _) ⟨rfl,?_⟩
     simp[sayL]
   · conv=>whnf
     refine zdj (by simpa using c) ?_
     conv=>whnf
     refine zab (by first|decide|omega|(simp;done)|(simp;omega)) ?_
     conv=>whnf
     refine zbz (i:=1) rfl rfl ⟨rfl,?_⟩
     simp[sayL,c]
 | succ k =>
   conv=>whnf
   refine zad (rfl) ?_
   conv=>whnf
   refine zab (by first|decide|omega|(simp;done)|(simp;omega)) ?_
   conv=>whnf
   refine zbG (fun c=>?_) (fun c=>?_)
   · subst c
     conv=>whnf
     refine zh9 (by simp) ?_
     conv=>whnf
     refine zab (by first|decide|omega|(simp;done)|(simp;omega)) ?_
     conv=>whnf
     refine zbz (i:=1) rfl rfl ⟨rfl,?_⟩
     simp[sayL,ziD,sayK]
   · conv=>whnf
     refine zdj (by simpa using c) ?_
     conv=>whnf
     rw[show (((k+1+1:Nat):Int) - 1)=((k+1:Nat):Int) by omega]
     refine zaj (zio (f:=f) hn (show k<=7 by omega)) ?_
     conv=>whnf
     have pl:=zd8 hn s i k
     have p7:=ziL (show k<=7 by omega)
     refine zas ?_
     refine W.mono (zaA (fun m δ T=>(∃v8 v9 v10,δ=[some (.tup [.int i,.int n,.int s]),some (oD w),some (.int ((k+1+1:Nat):Int)),some (.ref l),some (.int i),some (.int n),some (.int s),some (.ref ((S.frz++S.new).length+0)),v8,v9,v10])/\T=⟨S.frz++S.new,[.lst (sayK n i (gK hv K) ((pz n s i k).take m))],[]⟩) (fun _ _=>False) _ 0 _ _ ⟨⟨none,none,none,rfl⟩,rfl⟩ ?_) ?_
     · rintro m z δ T hz ⟨⟨v8,v9,v10,rfl⟩,rfl⟩
       rw[Nat.zero_add]
       rw[List.getElem?_map] at hz
       cases ep:(pz n s i k)[m]? with
       |none=>rw[ep] at hz;cases hz
       | some p =>
         rw[ep] at hz;cases hz
         have hpl:=zcW p (List.mem_of_getElem? ep)
         have hlt:=zdx hn i p (wd (gK hv K) p)
         have ht:=zex hn i (gK hv K) ((pz n s i k).take m)
         have htl:((pz n s i k).take m).length<=(pz n s i k).length:=by rw[List.length_take];omega
         obtain⟨o,o1,o2⟩:=zgx K p
         refine⟨_,rfl,?_⟩
         generalize hδ:List.set _ 8 _=δ1
         refine wS_W _ ?_
         subst hδ
         conv=>whnf
         refine zab (by simp only[isDt,g']) ?_
         conv=>whnf
         refine zad (zdO (g' _ _) p) ?_
         conv=>whnf
         rw[o1]
         have rest:∀(v9:Option D),v9=some (wd (gK hv K) p)->wS (callF prog (f+1)) (.asg 10 (.bin .Add (.loc 8) (.tup (.cons (.loc 4) .nil))) (.expr (.ext (.loc 7) (.comp 1 [10,9] [0] (.rng1 (.loc 5)) (.cmp .NotIn (.loc 0) (.loc 1)) (.tup (.cons (.loc 1) (.cons (.loc 0) (.cons (.loc 2) .nil)))))) .nil)) [some (.tup [.int i,.int n,.int s]),some (oD w),some (.int ((k+1+1:Nat):Int)),some (.ref l),some (.int i),some (.int n),some (.int s),some (.ref ((S.frz++S.new).length+0)),some (pD p),v9,v10] ⟨S.frz++S.new,[.lst (sayK n i (gK hv K) ((pz n s i k).take m))],[]⟩ fun r T=>match r with|.nx δ2=>(∃v8 v9 v10,δ2=[some (.tup [.int i,.int n,.int s]),some (oD w),some (.int ((k+1+1:Nat):Int)),some (.ref l),some (.int i),some (.int n),some (.int s),some (.ref ((S.frz++S.new).length+0)),v8,v9,v10])/\T=⟨S.frz++S.new,[.lst (sayK n i (gK hv K) ((pz n s i k).take (m+1)))],[]⟩|.rt d=>False:=by
          intro v9 e9
          subst e9
          conv=>whnf
          refine zab (by first|decide|omega|(simp;done)|(simp;omega)) ?_
          conv=>whnf
          refine zab (by simp only[List.length_map,List.length_cons,List.length_nil];omega) ?_
          conv=>whnf
          rw[show p.map D.int++[D.int i]=(p++[i]).map D.int by simp]
          refine zaz rfl ?_
          conv=>whnf
          refine zab (by omega) ?_
          conv=>whnf
          refine zas ?_
          refine W.of (zpA none) ?_
          refine zab (Nat.le_trans hlt (by decide)) ?_
          conv=>whnf
          refine zaz rfl ?_
          conv=>whnf
          refine zab (by simp only[List.length_append];omega) ?_
          conv=>whnf
          refine zaU rfl ?_
          refine⟨⟨_,_,_,rfl⟩,?_⟩
          rw[zbh ep,zgI,zgH]
          rfl
         cases o with
         |none=>exact rest _ (by rw[o2];rfl)
         |some v=>exact rest _ (by rw[o2];rfl)
     · intro r T hr
       cases r with
       |rt d=>exact hr.elim
       | nx δ =>
         obtain⟨⟨v8,v9,v10,rfl⟩,rfl⟩:=hr
         rw[Nat.zero_add,List.length_map,List.take_length]
         conv=>whnf
         exact zbz (i:=0) rfl (zhP _ _ _ _ _) ⟨rfl,rfl⟩
noncomputable def rD (r:List Int × Int × Int):D:=.tup [pD r.1,.int r.2.1,.int r.2.2]
theorem zgY (n:Nat)(i:Int)(p:List Int)(v:Int):∃rs:List (List Int × Int × Int),ltw n i p (.int v)=rs.map rD/\∀r∈rs,r.1.length=p.length+1:=by
 refine⟨((hnds n).filter fun o=>!decide (o∈p++[i])).map fun o=>(p++[i],o,v),?_,fun r hr=>?_⟩
 · unfold ltw
   rw[List.map_map]
   rfl
 · obtain⟨o,_,rfl⟩:=List.mem_map.mp hr
   simp
theorem zfc (n:Nat)(i:Int)(K:Kn):∀ps:List (List Int),(∀p∈ps,p.length<=100)->∃rs:List (List Int × Int × Int),sayK n i (gK hv K) ps=rs.map rD/\∀r∈rs,r.1.length<=101
 | [],_=>⟨[],rfl,fun r hr=>by cases hr⟩
 | p :: ps, h => by
   obtain⟨rs,e,hr⟩:=zfc n i K ps fun q hq=>h q (by simp[hq])
   obtain⟨v,ev⟩:=zlc K p
   obtain⟨r1,e1,h1⟩:=zgY n i p v
   refine⟨r1++rs,?_,fun r hm=>?_⟩
   · have:sayK n i (gK hv K) (p::ps)=ltw n i p (wd (gK hv K) p)++sayK n i (gK hv K) ps:=by simp[sayK]
     rw[this,ev,e1,e,List.map_append]
   · rcases List.mem_append.mp hm with z|z
     · have:=h1 r z
       have:=h p (by simp)
       omega
     · exact hr r z
theorem zj7 {n k:Nat}{i s:Int}{w:Option Int}(K:Kn)(hk:k<=7)(hw:i=s->∃v,w=some v):∃rs:List (List Int × Int × Int),sayL n i s w (gK hv K) (k+1)=rs.map rD/\∀r∈rs,r.1.length<=101:=by
 cases k with
 | zero =>
   by_cases c:i=s
   · obtain⟨v,rfl⟩:=hw c
     obtain⟨r1,e1,h1⟩:=zgY n i [] v
     refine⟨r1,?_,fun r hr=>by have:=h1 r hr;simp at this;omega⟩
     show (if i=s then ltw n i [] (oD (some v)) else [])=_
     rw[if_pos c]
     exact e1
   · exact⟨[],by simp[sayL,c],fun r hr=>by cases hr⟩
 |succ k=>exact zfc n i K _ fun p hp=>by have:=zcW p hp;omega
theorem znM {S:R.St}{l:Nat}{ds:List D}(h:S.get l=some (.lst ds)):tyOf S (.ref l)=some "list":=by unfold tyOf;dsimp only;rw[h]
theorem znF {S:R.St}{x y:Nat}{ds es:List D}(h1:S.get x=some (.lst ds))(h2:S.get y=some (.lst es)):zfT S (.ref x) (.ref y)=some (List.zipWith ziT ds es,[x,y]):=by
 unfold zfT;dsimp only;rw[h1,h2]
theorem zo5 (S:R.St)(r:List Int × Int × Int):cmpO S .NotEq (rD r) (rD r)=some false:=by
 have e:∃a,pd S 60 (rD r)=some a:=⟨.tuple [.tuple (r.1.map .int),.int r.2.1,.int r.2.2],by
  simp only[rD,pd,List.mapM_cons,List.mapM_nil,zdv]
  rfl⟩
 obtain⟨a,e⟩:=e
 show (zda S (rD r) (rD r)).map (!·)=some false
 have:zda S (rD r) (rD r)=eqD S (rD r) (rD r):=rfl
 rw[this,zlC e e]
 rfl
theorem zit {f x y:Nat}{S:R.St}{rs:List (List Int × Int × Int)}(h1:S.get x=some (.lst (rs.map rD)))(h2:S.get y=some (.lst (rs.map rD)))(hr:∀r∈rs,r.1.length<=101):app (callF prog (f+3)) 17 [.ref x,.ref y] S=.ok (.bl true) S:=by
 have g1:S.enter.get x=some (.lst (rs.map rD)):=by rw[zaL];exact h1
 have g2:S.enter.get y=some (.lst (rs.map rD)):=by rw[zaL];exact h2
 refine zby (F:=c_law_alike) rfl rfl ?_
 conv=>whnf
 refine zad (znM g1) ?_
 conv=>whnf
 refine zad (g1) ?_
 conv=>whnf
 refine zad (g2) ?_
 conv=>whnf
 refine zdj (by simp) ?_
 conv=>whnf
 refine zad (znF g1 g2) ?_
 conv=>whnf
 refine zas ?_
 refine W.mono (zaA (fun m δ T=>(∃v2 v3,δ=[some (.ref x),some (.ref y),v2,v3])/\T=⟨S.frz++S.new,[],[x,y]⟩) (fun _ _=>False) _ 0 _ _ ⟨⟨none,none,rfl⟩,rfl⟩ ?_) ?_
 · rintro m z δ T hz ⟨⟨v2,v3,rfl⟩,rfl⟩
   rw[List.getElem?_zipWith,List.getElem?_map] at hz
   cases e:rs[m]? with
   |none=>rw[e] at hz;cases hz
   | some r =>
     rw[e] at hz;cases hz
     have hl:=hr r (List.mem_of_getElem? e)
     obtain⟨p,o,v⟩:=r
     have nr:=fun T=>zo5 T (p,o,v)
     refine⟨_,rfl,?_⟩
     generalize hδ:zcO _ _ _=δ1
     refine wS_W _ ?_
     subst hδ
     conv=>whnf
     refine zad ((show tyOf _ (.tup [pD p,.int o,.int v])=some "tuple" from rfl)) ?_
     conv=>whnf
     refine zad ((show atI [pD p,D.int o,D.int v] 0=some (pD p) from rfl)) ?_
     conv=>whnf
     refine zad ((show atI [pD p,D.int o,D.int v] 0=some (pD p) from rfl)) ?_
     conv=>whnf
     refine zaj (zf3 (n:=f) (by dsimp only at hl;omega)) ?_
     conv=>whnf
     refine zad ((show atI [pD p,D.int o,D.int v] 1=some (.int o) from rfl)) ?_
     conv=>whnf
     refine zaj (zdo (n:=f+1)) ?_
     conv=>whnf
     refine zad ((show atI [pD p,D.int o,D.int v] 2=some (.int v) from rfl)) ?_
     conv=>whnf
     refine zaj (zdo (n:=f+1)) ?_
     conv=>whnf
     refine zad (nr _) ?_
     conv=>whnf
     exact⟨⟨_,_,rfl⟩,rfl⟩
 · intro r T hr
   cases r with
   |rt d=>exact hr.elim
   | nx δ =>
     obtain⟨⟨v2,v3,rfl⟩,rfl⟩:=hr
     conv=>whnf
     exact zao rfl ⟨rfl,rfl⟩
theorem zon {f k a l q n t:Nat}{S:R.St}{i s:Int}{w:Option Int}{K:Kn}(e:S.get a=some (hD i n t s w l))(g:S.get l=some (.dtp (gK hv K)))(gq:S.get q=some (.lst (sayL n i s w (gK hv K) (k+1))))(hn:n<=7)(hs:0<=s/\s<n)(hk:k<=7)(hw:i=s->∃v,w=some v) :
  app (callF prog (f+5)) 21 [.ref a,.int ((k+1:Nat):Int),.ref q] S=.ok (.bl true) S:=by
 obtain⟨rs,er,hr⟩:=zj7 (n:=n) K hk hw
 have e1:S.enter.get a=some (hD i n t s w l):=by rw[zaL];exact e
 have g1:S.enter.get l=some (.dtp (gK hv K)):=by rw[zaL];exact g
 have q1:S.enter.get q=some (.lst (rs.map rD)):=by rw[zaL,gq,er]
 refine zby (F:=c_law_says) rfl rfl ?_
 conv=>whnf
 refine zad (zbs e1) ?_
 conv=>whnf
 refine zad (rfl) ?_
 conv=>whnf
 refine zab rfl ?_
 conv=>whnf
 refine zh7 ((zo8 (f:=f) (k:=k) e1 g1 hn hs hk rfl).mono fun d T hT=>?_)
 obtain⟨m,rfl,mv,hm,gm⟩:=hT
 rw[er] at gm
 have e2:=mv.old a _ (by simp) e1
 have g2:=mv.old l _ (by simp) g1
 have q2:=mv.old q _ (by simp) q1
 have la:=zbn e1
 have ll:=zbn g1
 have lq:=zbn q1
 obtain⟨U,u1,u2,u3⟩:=Mv.put (u:=.lst []) gm (by rw[mv.frz];refine Nat.le_trans ?_ hm;simp[St.len]) (by rw[mv.lk];rfl)
 have e3:=u2.old a _ (by simp;omega) e2
 have g3:=u2.old l _ (by simp;omega) g2
 have q3:=u2.old q _ (by simp;omega) q2
 conv=>whnf
 refine zaj (zit (f:=f+1) gm q2 hr) ?_
 conv=>whnf
 refine zad (gm) ?_
 conv=>whnf
 refine zab (by first|decide|omega|(simp;done)|(simp;omega)) ?_
 conv=>whnf
 refine zad (u1) ?_
 conv=>whnf
 refine zad (zbs e3) ?_
 conv=>whnf
 refine zad (rfl) ?_
 conv=>whnf
 refine zab rfl ?_
 conv=>whnf
 refine zh7 ((zo8 (f:=f) (k:=k) e3 g3 hn hs hk (by rw[u2.lk,mv.lk];rfl)).mono fun d T2 hT=>?_)
 obtain⟨m2,rfl,mv2,hm2,gm2⟩:=hT
 rw[er] at gm2
 conv=>whnf
 refine zaj (zit (f:=f+1) gm2 (mv2.old q _ (by simp) q3) hr) ?_
 conv=>whnf
 exact zao rfl ⟨rfl,rfl⟩
theorem zno {S:R.St}{l:Nat}{kvs:List (List Int × D)}(h:S.get l=some (.dtp kvs)):dKvs S (.ref l)=some kvs:=by unfold dKvs;dsimp only;rw[h]
theorem zmn {n:Nat}{S:R.St}{c w:Int}:∃o,app (callF prog (n+1)) 10 [.int c,.int w] S=.ok (oD o) S:=by
 have key:W (app (callF prog (n+1)) 10 [.int c,.int w] S) fun d T=>T=S/\∃o,d=oD o:=by
  refine zh1 (F:=c_law_word) rfl rfl ?_
  conv=>whnf
  repeat (first|(refine zab (by first|decide|omega|(simp;done)|(simp;omega)) ?_;conv=>whnf)|(refine zaz rfl ?_;conv=>whnf)|(refine zaU rfl ?_;conv=>whnf)|(refine zaI (by assumption) ?_;conv=>whnf))
  refine zbG (fun c1=>?_) (fun c1=>?_)
  · conv=>whnf
    exact zao rfl ⟨rfl,none,rfl⟩
  · conv=>whnf
    repeat (first|(refine zab (by first|decide|omega|(simp;done)|(simp;omega)) ?_;conv=>whnf)|(refine zaz rfl ?_;conv=>whnf)|(refine zaU rfl ?_;conv=>whnf)|(refine zaI (by assumption) ?_;conv=>whnf))
    refine zbG (fun c2=>?_) (fun c2=>?_)
    · conv=>whnf
      repeat (first|(refine zab (by first|decide|omega|(simp;done)|(simp;omega)) ?_;conv=>whnf)|(refine zaz rfl ?_;conv=>whnf)|(refine zaU rfl ?_;conv=>whnf)|(refine zaI (by assumption) ?_;conv=>whnf))
      exact zao rfl ⟨rfl,some _,rfl⟩
    · conv=>whnf
      repeat (first|(refine zab (by first|decide|omega|(simp;done)|(simp;omega)) ?_;conv=>whnf)|(refine zaz rfl ?_;conv=>whnf)|(refine zaU rfl ?_;conv=>whnf)|(refine zaI (by assumption) ?_;conv=>whnf))
      refine zbG (fun c3=>?_) (fun c3=>?_)
      · conv=>whnf
        exact zao rfl ⟨rfl,some _,rfl⟩
      · conv=>whnf
        repeat (first|(refine zab (by first|decide|omega|(simp;done)|(simp;omega)) ?_;conv=>whnf)|(refine zaz rfl ?_;conv=>whnf)|(refine zaU rfl ?_;conv=>whnf)|(refine zaI (by assumption) ?_;conv=>whnf))
        refine zbG (fun c4=>?_) (fun c4=>?_)
        · conv=>whnf
          repeat (first|(refine zab (by first|decide|omega|(simp;done)|(simp;omega)) ?_;conv=>whnf)|(refine zaz rfl ?_;conv=>whnf)|(refine zaU rfl ?_;conv=>whnf)|(refine zaI (by assumption) ?_;conv=>whnf))
          exact zao rfl ⟨rfl,some _,rfl⟩
        · conv=>whnf
          repeat (first|(refine zab (by first|decide|omega|(simp;done)|(simp;omega)) ?_;conv=>whnf)|(refine zaz rfl ?_;conv=>whnf)|(refine zaU rfl ?_;conv=>whnf)|(refine zaI (by assumption) ?_;conv=>whnf))
          exact zao rfl ⟨rfl,some _,rfl⟩
 obtain⟨d,T,e,rfl,o,rfl⟩:=W.iff.mp key
 exact⟨o,e⟩
noncomputable def lT:CS:=(.asg 8 (.call 18 0 (.cons (.loc 0) (.cons (.con (D.int 6)) (.cons (.bin .Add (.bin .Sub (.loc 1) (.con (D.int 6))) (.loc 6)) .nil)))) (.ifS (.cmp .Eq (.bin .Mod (.call 9 0 (.cons (.loc 0) (.cons (.con (D.int 5)) .nil))) (.con (D.int 2))) (.con (D.int 1))) (.ifS (.cmp .Gt (.loc 8) (.con (D.int 0))) (.expr (.mt .append (.loc 4) (.cons (.tup (.cons (.ix (.loc 2) (.loc 6)) (.cons (.call 19 0 (.cons (.loc 8) (.cons (.loc 3) .nil))) .nil))) .nil)) .nil) .nil .nil) (.ifS (.cmp .NotEq (.bin .Mod (.loc 7) (.con (D.int 6))) (.con (D.int 5))) (.expr (.mt .append (.loc 4) (.cons (.tup (.cons (.ix (.loc 2) (.loc 6)) (.cons (.call 10 0 (.cons (.bin .FloorDiv (.loc 7) (.con (D.int 6))) (.cons (.loc 3) .nil))) .nil))) .nil)) .nil) .nil .nil) .nil))
noncomputable abbrev EL (ns:List Int)(A q:Nat)(w:Int)(F:List MO)(v5 v6 v7 v8:Option D):Ev:=[some (.fix (ns.map .int)),some (.int A),some (.ref q),some (.int w),some (.ref (F.length+0)),v5,v6,v7,v8]
noncomputable def LI (ns:List Int)(A q:Nat)(w:Int)(F:List MO)(m:Nat)(δ:Ev)(T:R.St):Prop:=∃(z:Int) (v6 v7 v8:Option D) (Ls:Kn),δ=EL ns A q w F (some (.int z)) v6 v7 v8/\T=⟨F,[.lst (Ls.map lD)],[]⟩/\Ls.length<=m
theorem zlw {f A q m:Nat}{S:R.St}{ns:List Int}{w z c:Int}{v8:Option D}{ps:List (List Int)}{Ls:Kn}{p:List Int}(hg:S.get q=some (.lst (ps.map pD)))(hA:6<=A)(hm:ps[m]?=some p)(hl:Ls.length<=m)(hp:ps.length<=823543) :
  wS (callF prog (f+2)) lT (EL ns A q w (S.frz++S.new) (some (.int z)) (some (.int m)) (some (.int c)) v8) ⟨S.frz++S.new,[.lst (Ls.map lD)],[]⟩ fun r T=>match r with|.nx δ=>LI ns A q w (S.frz++S.new) (m+1) δ T|.rt _=>False:=by
 have hml:=(List.getElem?_eq_some_iff.mp hm).1
 have ga:atI (ps.map pD) (m:Int)=some (pD p):=zcZ (by rw[List.getElem?_map,hm];rfl)
 have add:∀(d:D) (o:Option Int) (v8:Option D),d=oD o->LI ns A q w (S.frz++S.new) (m+1) (EL ns A q w (S.frz++S.new) (some (.int z)) (some (.int m)) (some (.int c)) v8) ⟨S.frz++S.new,[.lst (Ls.map lD++[.tup [pD p,d]])],[]⟩:=fun d o v8 hd=>⟨z,_,_,_,Ls++[(p,o)],rfl,by rw[hd,List.map_append];rfl,by simp;omega⟩
 have stay:∀(v8:Option D),LI ns A q w (S.frz++S.new) (m+1) (EL ns A q w (S.frz++S.new) (some (.int z)) (some (.int m)) (some (.int c)) v8) ⟨S.frz++S.new,[.lst (Ls.map lD)],[]⟩:=fun v8=>⟨z,_,_,_,Ls,rfl,rfl,by omega⟩
 obtain⟨d8,h8⟩:=zmp (m:=f) (S:=⟨S.frz++S.new,[.lst (Ls.map lD)],[]⟩) (ns:=ns) (k:=A - 6+m)
 have h8:=h8
 rw[show ((A - 6+m:Nat):Int)=(A:Int) - 6+m by omega] at h8
 obtain⟨o9,h9⟩:=zml (n:=f+1) (S:=⟨S.frz++S.new,[.lst (Ls.map lD)],[]⟩) (c:=d8) (w:=w)
 obtain⟨o10,h10⟩:=zmn (n:=f+1) (S:=⟨S.frz++S.new,[.lst (Ls.map lD)],[]⟩) (c:=c / 6) (w:=w)
 conv=>whnf
 refine zaj (h8) ?_
 conv=>whnf
 refine zaj (zcB (n:=f+1) (k:=5)) ?_
 conv=>whnf
 refine zab (by first|decide|omega|(simp;done)|(simp;omega)) ?_
 conv=>whnf
 refine zbG (fun c1=>?_) (fun c1=>?_)
 · conv=>whnf
   refine zbG (fun c2=>?_) (fun c2=>?_)
   · conv=>whnf
     refine zaz rfl ?_
     conv=>whnf
     refine zaI hg ?_
     conv=>whnf
     refine zad (ga) ?_
     conv=>whnf
     refine zaj (h9) ?_
     conv=>whnf
     refine zab (by first|decide|omega|(simp;done)|(simp;omega)) ?_
     conv=>whnf
     refine zaz rfl ?_
     conv=>whnf
     refine zab (by simp only[List.length_append,List.length_map,List.length_cons,List.length_nil];omega) ?_
     conv=>whnf
     refine zaU rfl ?_
     exact add _ o9 _ rfl
   · conv=>whnf
     exact stay _
 · conv=>whnf
   refine zab (by first|decide|omega|(simp;done)|(simp;omega)) ?_
   conv=>whnf
   refine zhr (fun c2=>?_) (fun c2=>?_)
   · conv=>whnf
     refine zaz rfl ?_
     conv=>whnf
     refine zaI hg ?_
     conv=>whnf
     refine zad (ga) ?_
     conv=>whnf
     refine zab (by first|decide|omega|(simp;done)|(simp;omega)) ?_
     conv=>whnf
     refine zaj (h10) ?_
     conv=>whnf
     refine zab (by first|decide|omega|(simp;done)|(simp;omega)) ?_
     conv=>whnf
     refine zaz rfl ?_
     conv=>whnf
     refine zab (by simp only[List.length_append,List.length_map,List.length_cons,List.length_nil];omega) ?_
     conv=>whnf
     refine zaU rfl ?_
     exact add _ o10 _ rfl
   · conv=>whnf
     exact stay _
theorem zg8 (N:Nat)(Ls:Kn):flats N (Ls.map lD)=true:=by
 rw[zaW]
 intro d hd
 obtain⟨x,_,rfl⟩:=List.mem_map.mp hd
 obtain⟨p,o⟩:=x
 cases o<;>simp[lD,oD]
theorem ziq {f A q:Nat}{S:R.St}{ns:List Int}{w:Int}{ps:List (List Int)}(hg:S.get q=some (.lst (ps.map pD)))(hA:6<=A)(hp:ps.length<=823543):∃Ls:Kn,app (callF prog (f+3)) 20 [.fix (ns.map .int),.int A,.ref q,.int w] S=.ok (.ref S.len) (S.push (.lst (Ls.map lD)))/\Ls.length<=823543:=by
 have key:W (app (callF prog (f+3)) 20 [.fix (ns.map .int),.int A,.ref q,.int w] S) fun d T=>∃Ls:Kn,d=.ref S.len/\T=S.push (.lst (Ls.map lD))/\Ls.length<=823543:=by
  refine zh1 (F:=c_law_letters) rfl rfl ?_
  conv=>whnf
  refine zab (by first|decide|omega|(simp;done)|(simp;omega)) ?_
  conv=>whnf
  refine zaj (zcB (n:=f+1) (k:=5)) ?_
  conv=>whnf
  refine zab (by unfold zga;simp) ?_
  conv=>whnf
  refine zab (by first|decide|omega|(simp;done)|(simp;omega)) ?_
  conv=>whnf
  refine zaI hg ?_
  conv=>whnf
  refine zab (by simp only[List.length_map];omega) ?_
  conv=>whnf
  refine zas ?_
  refine W.mono (zaA (LI ns A q w (S.frz++S.new)) (fun _ _=>False) _ 0 _ _ ⟨_,none,none,none,[],rfl,rfl,Nat.le_refl _⟩ ?_) ?_
  · rintro m zz δ T hz ⟨z,v6,v7,v8,Ls,rfl,rfl,hl⟩
    rw[Nat.zero_add] at hl⊢
    have hml:m<ps.length:=by
     have:=(List.getElem?_eq_some_iff.mp hz).1
     simpa using this
    have hzz:zz=.int m:=by
     rw[List.getElem?_map] at hz
     simp[hml] at hz
     exact hz.symm
    subst hzz
    have ep:ps[m]?=some ps[m]:=List.getElem?_eq_getElem hml
    refine⟨_,rfl,?_⟩
    generalize hδ:List.set _ 6 _=δ1
    refine wS_W _ ?_
    subst hδ
    conv=>whnf
    refine zab (by unfold zga;simp) ?_
    conv=>whnf
    refine zab (by unfold zga;simp) ?_
    conv=>whnf
    refine zab (by first|decide|omega|(simp;done)|(simp;omega)) ?_
    conv=>whnf
    refine zab (by first|decide|omega|(simp;done)|(simp;omega)) ?_
    conv=>whnf
    refine zbG (fun c=>?_) (fun c=>?_)
    · conv=>whnf
      rw[show ((A:Int)+(m:Int))=((A+m:Nat):Int) by omega]
      refine zaj (zcB (n:=f+1) (k:=A+m)) ?_
      conv=>whnf
      exact zlw hg hA ep hl hp
    · exact zlw hg hA ep hl hp
  · intro r T hr
    cases r with
    |rt d=>exact hr.elim
    | nx δ =>
      obtain⟨z,v6,v7,v8,Ls,rfl,rfl,hl⟩:=hr
      have hl2:Ls.length<=ps.length:=by simpa using hl
      conv=>whnf
      exact zbz (i:=0) rfl (zg8 _ _) ⟨Ls,rfl,rfl,by omega⟩
 obtain⟨d,T,e,Ls,rfl,rfl,h⟩:=W.iff.mp key
 exact⟨Ls,e,h⟩
theorem zmq {f l:Nat}{S:R.St}{K:Kn}{x:Int}(hg:S.get l=some (.dtp (gK oD K)))(hK:K.length<=10000000):∃Ls:Kn,app (callF prog (f+1)) 22 [.ref l,.int x] S=.ok (.ref S.len) (S.push (.lst (Ls.map lD)))/\Ls.length<=1:=by
 have g1:S.enter.get l=some (.dtp (gK oD K)):=by rw[zaL];exact hg
 have key:W (app (callF prog (f+1)) 22 [.ref l,.int x] S) fun d T=>∃Ls:Kn,d=.ref S.len/\T=S.push (.lst (Ls.map lD))/\Ls.length<=1:=by
  refine zh1 (F:=c_law_again) rfl rfl ?_
  conv=>whnf
  refine zad (g1) ?_
  conv=>whnf
  refine zbG (fun c1=>?_) (fun c1=>?_)
  · conv=>whnf
    refine zab (by first|decide|omega|(simp;done)|(simp;omega)) ?_
    conv=>whnf
    exact zbz (i:=0) rfl rfl ⟨[],rfl,rfl,Nat.zero_le _⟩
  · have c1:¬(((gK oD K).length:Nat):Int)=0:=c1
    rw[zeh] at c1
    conv=>whnf
    refine zab (by first|decide|omega|(simp;done)|(simp;omega)) ?_
    conv=>whnf
    refine zhr (fun c2=>?_) (fun c2=>?_)
    · conv=>whnf
      refine zab (by first|decide|omega|(simp;done)|(simp;omega)) ?_
      conv=>whnf
      exact zbz (i:=0) rfl rfl ⟨[],rfl,rfl,Nat.zero_le _⟩
    · have k0:(0:Int)<((gK oD K).length:Nat):=by rw[zeh];omega
      have h0:=Int.emod_nonneg (x / 3) (b:=((gK oD K).length:Nat)) (by omega)
      have h1:=Int.emod_lt_of_pos (x / 3) k0
      rw[zeh] at h1
      obtain⟨j,hj⟩:∃j:Nat,x / 3 % ((gK oD K).length:Nat)=(j:Int):=⟨(x / 3 % ((gK oD K).length:Nat)).toNat,by omega⟩
      have hjl:j<K.length:=by have hj2:=hj;rw[zeh] at hj2;omega
      have ga:atI ((gK oD K).map keyD) (x / 3 % ((gK oD K).length:Nat))=some (pD K[j].1):=by
       rw[hj]
       refine zcZ ?_
       rw[List.getElem?_map]
       unfold gK
       rw[List.getElem?_map,List.getElem?_eq_getElem hjl]
       rfl
      conv=>whnf
      refine zad (zno g1) ?_
      conv=>whnf
      refine zab (by rw[List.length_map,zeh];omega) ?_
      conv=>whnf
      refine zab (by first|decide|omega|(simp;done)|(simp;omega)) ?_
      conv=>whnf
      refine zad (zaV g1) ?_
      conv=>whnf
      refine zab k0 ?_
      conv=>whnf
      refine zaz rfl ?_
      conv=>whnf
      refine zad (ga) ?_
      conv=>whnf
      refine zab (by first|decide|omega|(simp;done)|(simp;omega)) ?_
      conv=>whnf
      refine zab (by first|decide|omega|(simp;done)|(simp;omega)) ?_
      conv=>whnf
      refine zab (by first|decide|omega|(simp;done)|(simp;omega)) ?_
      conv=>whnf
      refine zab (by first|decide|omega|(simp;done)|(simp;omega)) ?_
      conv=>whnf
      exact zbz (i:=1) rfl (zg8 _ [(K[j].1,some _)]) ⟨[(K[j].1,some _)],rfl,rfl,Nat.le_refl _⟩
 obtain⟨d,T,e,Ls,rfl,rfl,h⟩:=W.iff.mp key
 exact⟨Ls,e,h⟩
structure Iv (n t:Nat) (i s:Int) (w:Option Int) (K:Kn) (T:R.St):Prop where
 fz:T.frz=[]
 lk:T.lk=[]
 h0:T.get 0=some (hD i n t s w 1)
 h1:T.get 1=some (.dtp (gK hv K))
 h2:T.get 2=some (.dtp (gK oD K))
theorem Iv.push {n t:Nat}{i s:Int}{w:Option Int}{K:Kn}{T:R.St}(h:Iv n t i s w K T)(o:MO):Iv n t i s w K (T.push o):=⟨h.fz,h.lk,zaV h.h0,zaV h.h1,zaV h.h2⟩
noncomputable def bC:CS:=(.expr (.clr (.loc 15)) (.forS [16,17] (.val (.loc 14)) (.expr (.dsetd (.loc 8) (.loc 16) (.loc 17)) .nil) .nil))
noncomputable def bB:CS:=(.asg 9 (.bin .Add (.loc 9) (.bi .len (.cons (.loc 13) .nil))) (.asg 10 (.bin .FloorDiv (.loc 10) (.con (D.int 300000))) (.asg 15 (.mkL (.val (.loc 14))) (.ifS (.or (.cmp .IsNot (.meth "hear" [(0,26)] (.loc 7) (.cons (.loc 11) (.cons (.loc 15) .nil))) (.con D.non)) (.cmp .NotEq (.loc 15) (.loc 14))) (.ret (.con (D.bl false)) .nil) .nil bC))))
noncomputable def bA:CS:=(.asg 12 (.call 16 0 (.cons (.tup (.cons (.loc 3) (.cons (.loc 1) (.cons (.loc 4) .nil)))) (.cons (.loc 6) (.cons (.loc 11) (.cons (.loc 8) .nil))))) (.ifS (.nt (.tst (.call 21 0 (.cons (.loc 7) (.cons (.loc 11) (.cons (.loc 12) .nil)))))) (.ret (.con (D.bl false)) .nil) .nil (.asg 13 (.call 15 0 (.cons (.loc 1) (.cons (.loc 4) (.cons (.loc 11) (.cons (.loc 3) .nil))))) (.asg 14 (.bin .Add (.call 20 0 (.cons (.loc 0) (.cons (.loc 9) (.cons (.loc 13) (.cons (.loc 5) .nil))))) (.call 22 0 (.cons (.loc 8) (.cons (.loc 10) .nil)))) bB))))
noncomputable abbrev E9 (ns:List Int)(n t:Nat)(i s w0:Int)(w:Option Int)(A:Nat)(x:Int)(v11 v12 v13 v14 v15 v16 v17 v18:Option D):Ev:=[some (.fix (ns.map .int)),some (.int n),some (.int t),some (.int i),some (.int s),some (.int w0),some (oD w),some (.ref 0),some (.ref 2),some (.int A),some (.int x),v11,v12,v13,v14,v15,v16,v17,v18]
noncomputable def Qb (ns:List Int)(n t:Nat)(i s w0:Int)(w:Option Int)(m:Nat)(δ:Ev)(T:R.St):Prop:=∃(K:Kn) (A:Nat) (x:Int) (v11 v12 v13 v14 v15 v16 v17:Option D),δ=E9 ns n t i s w0 w A x v11 v12 v13 v14 v15 v16 v17 none/\Iv n t i s w K T/\K.length<=m * 823545/\6<=A
section
variable {ns:List Int} {n t:Nat} {i s w0:Int} {w:Option Int} {f:Nat}
theorem l_C {A m p14 p15:Nat}{x:Int}{v11 v12 v13 v16 v17:Option D}{K Ls:Kn}{T:R.St}{ds:List D}(fz:T.frz=[])(lk:T.lk=[])(h0:T.get 0=some (hD i n t s w 1))(h1:T.get 1=some (.dtp (gK hv (zb4 K Ls))))(h2:T.get 2=some (.dtp (gK oD K)))
  (g14:T.get p14=some (.lst (Ls.map lD))) (g15:T.get p15=some (.lst ds)) (hne:p14≠p15) (hA:6<=A) (hK:K.length<=m * 823545) (hL:Ls.length<=823545) (hm:m<=8) :
  wS (callF prog f) bC (E9 ns n t i s w0 w A x v11 v12 v13 (some (.ref p14)) (some (.ref p15)) v16 v17 none) T fun r T'=>match r with|.nx δ=>Qb ns n t i s w0 w (m+1) δ T'|.rt _=>False:=by
 obtain⟨U,u1,u2,u3⟩:=Mv.put (u:=.lst []) g15 (by rw[fz];exact Nat.zero_le _) (by rw[lk];rfl)
 have n0:(0:Nat)≠p15:=fun z=>by rw[<-z,h0] at g15;cases g15
 have n1:(1:Nat)≠p15:=fun z=>by rw[<-z,h1] at g15;cases g15
 have n2:(2:Nat)≠p15:=fun z=>by rw[<-z,h2] at g15;cases g15
 have m2:(2:Nat)≠p14:=fun z=>by rw[<-z,h2] at g14;cases g14
 have k0:=u2.old 0 _ (by simpa using n0) h0
 have k1:=u2.old 1 _ (by simpa using n1) h1
 have k2:=u2.old 2 _ (by simpa using n2) h2
 have k14:=u2.old p14 _ (by simpa using hne) g14
 have hml:m * 823545<=8 * 823545:=Nat.mul_le_mul_right _ hm
 unfold bC
 conv=>whnf
 refine zad (g15) ?_
 conv=>whnf
 refine zab (by first|decide|omega|(simp;done)|(simp;omega)) ?_
 conv=>whnf
 refine zad (u1) ?_
 conv=>whnf
 refine zad (k14) ?_
 conv=>whnf
 refine zas ?_
 refine W.mono (zaA (fun j δ T'=>(∃v16 v17,δ=E9 ns n t i s w0 w A x v11 v12 v13 (some (.ref p14)) (some (.ref p15)) v16 v17 none)/\Mv [2] {U with lk:=[p14]} T'/\T'.get 2=some (.dtp (gK oD (zb4 K (Ls.take j))))) (fun _ _=>False) _ 0 _ _ ⟨⟨v16,v17,rfl⟩,by rw[u2.lk,lk];exact Mv.refl _ _,k2⟩ ?_) ?_
 · rintro j z δ T' hz ⟨⟨v16,v17,rfl⟩,mv,gT⟩
   rw[Nat.zero_add] at gT
   rw[Nat.zero_add]
   rw[List.getElem?_map] at hz
   cases ex:Ls[j]? with
   |none=>rw[ex] at hz;cases hz
   | some y =>
     rw[ex] at hz;cases hz
     obtain⟨p,o⟩:=y
     have hlen:=zcf (Ls.take j) K
     have htl:(Ls.take j).length<=Ls.length:=by rw[List.length_take];omega
     obtain⟨d,V,v1,v2,v3⟩:=zhg oD gT (by rw[mv.frz];show U.frz.length<=2;rw[u2.frz,fz];exact Nat.zero_le _) (by rw[mv.lk];simpa using m2) (by omega) p o
     refine⟨_,rfl,?_⟩
     generalize hδ:zcO _ _ _=δ1
     refine wS_W _ ?_
     subst hδ
     conv=>whnf
     refine zab (by simp only[isDt,gT]) ?_
     conv=>whnf
     refine zad (v1) ?_
     conv=>whnf
     exact⟨⟨_,_,rfl⟩,mv.trans v2,by rw[v3,zbh ex,zdl]⟩
 · intro r T' hr
   cases r with
   |rt d=>exact hr.elim
   | nx δ =>
     obtain⟨⟨v16,v17,rfl⟩,mv,gT⟩:=hr
     rw[Nat.zero_add,List.length_map,List.take_length] at gT
     have hlen:=zcf Ls K
     conv=>whnf
     refine⟨zb4 K Ls,A,x,_,_,_,_,_,_,_,rfl,⟨?_,?_,mv.old 0 _ (by simp) k0,mv.old 1 _ (by simp) k1,gT⟩,?_,hA⟩
     · show T'.frz=[]
       rw[mv.frz]
       show U.frz=[]
       rw[u2.frz,fz]
     · show U.lk=[]
       rw[u2.lk,lk]
     · rw[Nat.succ_mul];omega
theorem zoV (S:R.St)(N:Nat):∀Ls:Kn,∃xs,(Ls.map lD).mapM (pd S (N+2))=some xs
 | []=>⟨[],rfl⟩
 | y :: Ls => by
   obtain⟨xs,e⟩:=zoV S N Ls
   obtain⟨p,o⟩:=y
   have h:∃a,pd S (N+2) (lD (p,o))=some a:=by
    cases o with
    |none=>exact⟨.tuple [.tuple (p.map .int),.none],by simp only[lD,oD,pd,List.mapM_cons,List.mapM_nil,zdv];rfl⟩
    |some v=>exact⟨.tuple [.tuple (p.map .int),.int v],by simp only[lD,oD,pd,List.mapM_cons,List.mapM_nil,zdv];rfl⟩
   obtain⟨a,h⟩:=h
   exact⟨a::xs,by rw[List.map_cons,List.mapM_cons,h,e];rfl⟩
theorem l_B {A m p13 p14:Nat}{x:Int}{j:Int}{v12 v15 v16 v17:Option D}{K Ls:Kn}{T:R.St}{ps:List (List Int)}(I:Iv n t i s w K T)(g13:T.get p13=some (.lst (ps.map pD)))(g14:T.get p14=some (.lst (Ls.map lD)))(hA:6<=A)(hK:K.length<=m * 823545)(hL:Ls.length<=823545)(hm:m<=8) :
  wS (callF prog (f+1)) bB (E9 ns n t i s w0 w A x (some (.int j)) v12 (some (.ref p13)) (some (.ref p14)) v15 v16 v17 none) T fun r T'=>match r with|.nx δ=>Qb ns n t i s w0 w (m+1) δ T'|.rt _=>False:=by
 have hml:m * 823545<=8 * 823545:=Nat.mul_le_mul_right _ hm
 have l14:=zbn g14
 have I1:=I.push (.lst (Ls.map lD))
 have hq:(T.push (.lst (Ls.map lD))).get T.len=some (.lst (Ls.map lD)):=zaY _ _
 have n14:(1:Nat)≠p14:=fun z=>by rw[<-z,I.h1] at g14;cases g14
 have nT:(1:Nat)≠T.len:=fun z=>by have:=zbn I.h1;omega
 unfold bB
 conv=>whnf
 refine zad (g13) ?_
 conv=>whnf
 refine zab (by first|decide|omega|(simp;done)|(simp;omega)) ?_
 conv=>whnf
 refine zad (g14) ?_
 conv=>whnf
 refine zab (by simp only[List.length_map];omega) ?_
 conv=>whnf
 refine zad (zbs I1.h0) ?_
 conv=>whnf
 refine zad (rfl) ?_
 conv=>whnf
 refine zab rfl ?_
 conv=>whnf
 refine zh7 ((zpa (f:=f) (j:=j) I1.h0 I1.h1 hq (by rw[I1.fz];exact Nat.zero_le _) I1.lk (by omega)).mono fun d U hU=>?_)
 obtain⟨rfl,mv,gU⟩:=hU
 have u14:=mv.old p14 _ (by simpa using n14.symm) (zaV g14)
 have uT:=mv.old T.len _ (by simpa using nT.symm) hq
 obtain⟨xs,hx⟩:=zoV U 57 Ls
 conv=>whnf
 refine zad (zgm uT u14 hx) ?_
 conv=>whnf
 rw[show (A:Int)+((List.map pD ps).length:Nat)=((A+ps.length:Nat):Int) by rw[List.length_map];omega]
 exact l_C (by rw[mv.frz,I1.fz]) (by rw[mv.lk,I1.lk]) (mv.old 0 _ (by simp) I1.h0) gU (mv.old 2 _ (by simp) I1.h2) u14 uT (by omega) (by omega) hK hL hm
theorem l_A {A m:Nat}{x:Int}{v12 v13 v14 v15 v16 v17:Option D}{K:Kn}{T:R.St}(I:Iv n t i s w K T)(hA:6<=A)(hK:K.length<=m * 823545)(hm:m<=7)(hn:n<=7)(hs:0<=s/\s<n)(hw:i=s->∃v,w=some v) :
  wS (callF prog (f+5)) bA (E9 ns n t i s w0 w A x (some (.int ((m+1:Nat):Int))) v12 v13 v14 v15 v16 v17 none) T fun r T'=>match r with|.nx δ=>Qb ns n t i s w0 w (m+1) δ T'|.rt _=>False:=by
 have hml:m * 823545<=7 * 823545:=Nat.mul_le_mul_right _ hm
 have I1:=I.push (.lst (sayL n i s w (gK hv K) (m+1)))
 have I2:=I1.push (.lst ((pz n s i m).map pD))
 have pl:=zd8 hn s i m
 have p7:=ziL (show m<=7 by omega)
 have g13:((T.push (.lst (sayL n i s w (gK hv K) (m+1)))).push (.lst ((pz n s i m).map pD))).get (T.push (.lst (sayL n i s w (gK hv K) (m+1)))).len=some (.lst ((pz n s i m).map pD)):=zaY _ _
 obtain⟨L1,h1,b1⟩:=ziq (f:=f+2) (ns:=ns) (w:=w0) g13 hA (by omega)
 have I3:=I2.push (.lst (L1.map lD))
 obtain⟨L2,h2,b2⟩:=zmq (f:=f+4) (x:=x) I3.h2 (by omega)
 have I4:=I3.push (.lst (L2.map lD))
 unfold bA
 conv=>whnf
 refine zab (by first|decide|omega|(simp;done)|(simp;omega)) ?_
 conv=>whnf
 refine zaj (zp7 (f:=f+3) (w:=w) (i:=i) (s:=s) I.h2 hn hm) ?_
 conv=>whnf
 refine zaj (zon (f:=f) I1.h0 I1.h1 (zaY _ _) hn hs hm hw) ?_
 conv=>whnf
 refine zaj (zj9 (f:=f+4) (s:=s) (b:=i) hn hm) ?_
 conv=>whnf
 refine zaj (h1) ?_
 conv=>whnf
 refine zaj (h2) ?_
 conv=>whnf
 refine zad (zaV (zaY _ _)) ?_
 conv=>whnf
 refine zad (zaY _ _) ?_
 conv=>whnf
 refine zab (by simp only[List.length_append,List.length_map];omega) ?_
 conv=>whnf
 rw[<-List.map_append]
 refine l_B (m:=m) (I4.push _) (zaV (zaV (zaV g13))) (zaY _ _) hA hK ?_ (by omega)
 rw[List.length_append];omega
end
theorem zmW (S:R.St)(p:List Int):cmpO S .NotEq (.tup (p.map .int)) (.tup (p.map .int))=some false:=by
 show (zda S (pD p) (pD p)).map (!·)=some false
 have:zda S (pD p) (pD p)=eqD S (pD p) (pD p):=rfl
 rw[this,zhd]
 simp
theorem zdf (K:Kn)(p:List Int):(look (gK hv K) p).getD 0=(look (gK oD K) p).getD 0:=by
 unfold look
 rw[zc1,zc1]
 cases K.find? fun x=>decide (x.1=p) with
 |none=>rfl
 | some x =>
   obtain⟨q,o⟩:=x
   cases o<;>rfl
theorem zfW (K:Kn)(n:Nat)(h:Int):∀(k:Nat) (p:List Int),tkn (look (gK hv K)) n h k p=tkn (look (gK oD K)) n h k p
 |0,p=>by rw[tkn,tkn,zdf]
 | k + 1, p => by
   rw[tkn,tkn,zdf]
   congr 2
   exact List.map_congr_left fun o _=>zfW K n h k (p++[o])
theorem zgD (K:Kn)(n:Nat)(h:Int):∀(k:Nat) (p:List Int),zbV (gK hv K) n h k p=zbV (gK oD K) n h k p
 |0,p=>by rw[zbV,zbV,zdf,zfW]
 | k + 1, p => by
   rw[zbV,zbV,zdf,zfW]
   congr 5
   exact congrArg D.tup (List.map_congr_left fun o _=>zgD K n h k (p++[o]))
theorem zpS {K:Kn}:Wds (gK oD K):=fun p d h=>by
 rw[zc1] at h
 cases c:K.find? fun x=>decide (x.1=p) with
 |none=>rw[c] at h;cases h
 |some x=>rw[c] at h;cases h;exact⟨_,rfl⟩
noncomputable def rE:CS:=(.asg 18 (.meth "tree" [(0,29)] (.loc 7) .nil) (.ifS (.or (.nt (.tst (.isc [0] "Hand" (.loc 7)))) (.cmp .NotEq (.meth "ending" [(0,25)] (.loc 7) .nil) (.ix (.loc 18) (.con (D.int 2))))) (.ret (.con (D.bl false)) .nil) .nil (.ifS (.cmp .NotEq (.tup (.cons (.fld (.loc 7) "number") (.cons (.fld (.loc 7) "many") (.cons (.fld (.loc 7) "rounds") .nil)))) (.tup (.cons (.loc 3) (.cons (.loc 1) (.cons (.loc 2) .nil))))) (.ret (.con (D.bl false)) .nil) .nil (.ifS (.cmp .Eq (.loc 3) (.loc 4)) (.ret (.and (.cmp .Eq (.bi .len (.cons (.loc 18) .nil)) (.con (D.int 4))) (.and (.call 12 0 (.cons (.bin .Add (.ix (.loc 18) (.con (D.int 0))) (.sl (.loc 18) true true (.con (D.int 1)) (.con (D.int 3)))) (.cons (.tup (.cons (.loc 4) (.cons (.loc 5) (.cons (.loc 5) .nil)))) .nil))) (.cmp .Eq (.ix (.loc 18) (.con (D.int 3))) (.tup .nil)))) .nil) .nil (.ret (.call 14 0 (.cons (.loc 18) (.cons (.loc 1) (.cons (.loc 2) (.cons (.loc 3) (.cons (.tup (.cons (.loc 4) .nil)) (.cons (.loc 8) .nil))))))) .nil)))))
noncomputable abbrev Qt (r:Fl)(_:R.St):Prop:=match r with|.nx _=>(D.non=.bl true)|.rt d=>d=.bl true
section
variable {ns:List Int} {n k:Nat} {i s w0:Int} {w:Option Int}
theorem l_E {A:Nat}{x:Int}{v11 v12 v13 v14 v15 v16 v17:Option D}{K:Kn}{T:R.St}(I:Iv n (k+1) i s w K T)(hn:n<=7)(hk:k<=7)(hw:i=s->w=some w0) :
  wS (callF prog 23) rE (E9 ns n (k+1) i s w0 w A x v11 v12 v13 v14 v15 v16 v17 none) T Qt:=by
 have ht:appW (callF prog 23) 29 [.ref 0] T=.ok (trD K n i s w k) T:=by
  have:=zlv (m:=16 - 2 * k) I.h0 I.h1 hn (by omega)
  rw[show 2 * k+(16 - 2 * k)+6+1=23 by omega] at this
  exact this
 have he:appW (callF prog 23) 25 [.ref 0] T=.ok (trT K n i s w k) T:=by
  have:=zkG (m:=15 - 2 * k) I.h0 I.h1 hn (by omega)
  rw[show 2 * k+(15 - 2 * k)+6+1+1=23 by omega] at this
  exact this
 obtain⟨v,hv1⟩:∃v,trT K n i s w k=.int v:=by
  unfold trT
  split
  · rename_i c;rw[hw c];exact⟨_,rfl⟩
  · exact⟨_,rfl⟩
 obtain⟨y0,y1,y3,et⟩:=tr_2 K n i s w k
 rw[hv1] at et he
 have hh:i≠s->app (callF prog 23) 14 [trD K n i s w k,.int n,.int ((k+1:Nat):Int),.int i,pD [s],.ref 2] T=.ok (.bl true) T:=fun c=>by
  have:=zir (l:=2) (n:=n) (h:=i) (t:=((k+1:Nat):Int)) hn (zpS (K:=K)) k (20 - k) T [s] I.h2 (by simp;omega) (.inl (by simp;omega))
  rw[show k+(20 - k)+3=23 by omega] at this
  unfold trD
  rw[if_neg c,zgD]
  exact this
 have hs':i=s->trD K n i s w k=.tup [pD [s],.int w0,.int w0,.tup []]:=fun c=>by
  unfold trD
  rw[if_pos c,hw c]
  rfl
 generalize hD0:trD K n i s w k=t0 at *
 unfold rE
 conv=>whnf
 refine zad (zbs I.h0) ?_
 conv=>whnf
 refine zad (rfl) ?_
 conv=>whnf
 refine zab rfl ?_
 conv=>whnf
 refine zaj (ht) ?_
 conv=>whnf
 refine zad (zbs I.h0) ?_
 conv=>whnf
 refine zad (zbs I.h0) ?_
 conv=>whnf
 refine zad (rfl) ?_
 conv=>whnf
 refine zab rfl ?_
 conv=>whnf
 refine zaj (he) ?_
 conv=>whnf
 rw[et]
 conv=>whnf
 refine zad ((show atI [y0,y1,D.int v,y3] 2=some (D.int v) from rfl)) ?_
 conv=>whnf
 refine zdj (by simp) ?_
 conv=>whnf
 refine zad (zcn I.h0) ?_
 conv=>whnf
 refine zad (zhb I.h0) ?_
 conv=>whnf
 refine zad (zha I.h0) ?_
 conv=>whnf
 refine zab (by first|decide|omega|(simp;done)|(simp;omega)) ?_
 conv=>whnf
 refine zab (by first|decide|omega|(simp;done)|(simp;omega)) ?_
 conv=>whnf
 refine zad (zmW _ [i,(n:Int),((k+1:Nat):Int)]) ?_
 conv=>whnf
 refine zbG (fun c=>?_) (fun c=>?_)
 · rw[<-et,hs' c]
   conv=>whnf
   refine zad ((show atI [pD [s],D.int w0,D.int w0,D.tup []] 0=some (pD [s]) from rfl)) ?_
   conv=>whnf
   refine zab (Nat.le_of_ble_eq_true rfl) ?_
   conv=>whnf
   refine zab (by first|decide|omega|(simp;done)|(simp;omega)) ?_
   conv=>whnf
   refine zaj (zf3 (n:=21) (p:=[s,w0,w0]) (by simp)) ?_
   conv=>whnf
   refine zad ((show atI [pD [s],D.int w0,D.int w0,D.tup []] 3=some (D.tup []) from rfl)) ?_
   conv=>whnf
   refine zab (by first|decide|omega|(simp;done)|(simp;omega)) ?_
   conv=>whnf
   refine zad (zhl _ [] []) ?_
   conv=>whnf
   simp
 · rw[<-et]
   conv=>whnf
   refine zab (by first|decide|omega|(simp;done)|(simp;omega)) ?_
   conv=>whnf
   refine zaj (hh c) ?_
   conv=>whnf
end
theorem zbt {cf:CF}{i:Nat}{e:CE}{r:CS}{δ:Ev}{S S':R.St}{d:D}{Q:Fl->R.St->Prop}(h:evE cf e δ S=.ok d S')(w:W (exS cf r (δ.set i (some d)) S') Q):W (exS cf (.asg i e r) δ S) Q:=by rw[exS,h,zbR];exact w
theorem zm9 {cf:CF}{c:CE}{u r:CS}{δ:Ev}{S:R.St}{Q:Fl->R.St->Prop}(e:evT cf c δ S=.ok false S)(w:W (exS cf r δ S) Q):W (exS cf (.ifS c u .nil r) δ S) Q:=by
 rw[exS,e,zbR,if_neg (by simp),exS,zbR]
 exact w
theorem zkQ {cf:CF}{c:CE}{u v r:CS}{δ δ':Ev}{S:R.St}{Q:Fl->R.St->Prop}(e:evT cf c δ S=.ok true S)(h:exS cf u δ S=.ok (.nx δ') S)(w:W (exS cf r δ' S) Q):W (exS cf (.ifS c u v r) δ S) Q:=by
 rw[exS,e,zbR,if_pos rfl,h,zbR]
 exact w
theorem zpz {P:List Fn}{F:Fn}{f n:Nat}{ds:List D}{S:R.St}{Q:D->R.St->Prop}(h:P[f]?=some F)(hl:ds.length=F.np)(hp:F.prim=none)(w:W (exS (callF P n) F.body (zbi F ds) S) fun r T=>match r with|.nx _=>Q .non T|.rt d=>Q d T):W (callF P (n+1) f ds S) Q:=by
 simp only[callF,h,hl,hp,if_true,zaa]
 refine w.mono fun r T q=>?_
 cases r<;>exact q
noncomputable def rL:CS:=(.forS [11] (.rng2 (.con (D.int 1)) (.bin .Add (.loc 2) (.con (D.int 1)))) bA rE)
theorem l_L {ns:List Int}{n k:Nat}{i s w0 x:Int}{w:Option Int}{T:R.St}(I:Iv n (k+1) i s w [] T)(hn:n<=7)(hk:k<=7)(hs:0<=s/\s<n)(hw:i=s->w=some w0):wS (callF prog 23) rL (E9 ns n (k+1) i s w0 w 6 x none none none none none none none none) T Qt:=by
 unfold rL
 conv=>whnf
 refine zab (by omega) ?_
 conv=>whnf
 refine zas ?_
 refine W.mono (zaA (Qb ns n (k+1) i s w0 w) (fun _ _=>False) _ 0 _ _ ⟨[],6,x,none,none,none,none,none,none,none,rfl,⟨I.fz,I.lk,I.h0,I.h1,I.h2⟩,Nat.zero_le _,Nat.le_refl _⟩ ?_) ?_
 · rintro m z δ T' hz ⟨K,A,x',v11,v12,v13,v14,v15,v16,v17,rfl,I',hK,hA⟩
   rw[Nat.zero_add] at hK⊢
   have hm:m<k+1:=by
    have:=(List.getElem?_eq_some_iff.mp hz).1
    simp at this
    omega
   have hzz:z=.int ((m+1:Nat):Int):=by
    rw[List.getElem?_map] at hz
    rw[List.getElem?_range (by simp;omega)] at hz
    simp at hz
    rw[<-hz]
    congr 1
    omega
   subst hzz
   refine⟨_,rfl,?_⟩
   have:=l_A (f:=18) (ns:=ns) (w0:=w0) (x:=x') (v12:=v12) (v13:=v13) (v14:=v14) (v15:=v15) (v16:=v16) (v17:=v17) I' hA hK (by omega) hn hs (fun c=>⟨w0,hw c⟩)
   refine (wS_W _ this).mono fun r T2 q=>?_
   cases r<;>exact q
 · intro r T' hr
   cases r with
   |rt d=>exact hr.elim
   | nx δ =>
     obtain⟨K,A,x',v11,v12,v13,v14,v15,v16,v17,rfl,I',hK,hA⟩:=hr
     exact l_E ⟨I'.fz,I.lk,I'.h0,I'.h1,I'.h2⟩ hn hk hw
noncomputable def x1:CE:=(.bin .Add (.con (D.int 1)) (.bin .Mod (.call 9 0 (.cons (.loc 0) (.cons (.con (D.int 0)) .nil))) (.con (D.int 7))))
noncomputable def x2:CE:=(.bin .Add (.con (D.int 1)) (.bin .Mod (.call 9 0 (.cons (.loc 0) (.cons (.con (D.int 1)) .nil))) (.bin .Add (.con (D.int 3)) (.bin .Mult (.con (D.int 5)) (.intb (.cmp .Lt (.loc 1) (.con (D.int 6))))))))
noncomputable def x3 (j:Int):CE:=(.bin .Mod (.call 9 0 (.cons (.loc 0) (.cons (.con (D.int j)) .nil))) (.loc 1))
noncomputable def x5:CE:=(.bin .Sub (.bin .Mod (.call 9 0 (.cons (.loc 0) (.cons (.con (D.int 4)) .nil))) (.bin .Sub (.bin .Mult (.con (D.int 2)) (.bin .Pow (.con (D.int 10)) (.con (D.int 60)))) (.con (D.int 1)))) (.bin .Sub (.bin .Pow (.con (D.int 10)) (.con (D.int 60))) (.con (D.int 1))))
noncomputable def x7:CE:=(.mk 0 24 "OralHand" (.cons (.loc 3) (.cons (.loc 1) (.cons (.loc 2) (.cons (.loc 4) (.cons (.loc 6) .nil))))))
noncomputable def x10:CE:=(.bin .FloorDiv (.call 9 0 (.cons (.loc 0) (.cons (.con (D.int 5)) .nil))) (.con (D.int 2)))
noncomputable abbrev E0 (ns:List Int)(v1 v2 v3 v4 v5 v6 v7 v8 v9 v10:Option D):Ev:=[some (.fix (ns.map .int)),v1,v2,v3,v4,v5,v6,v7,v8,v9,v10,none,none,none,none,none,none,none,none]
section
variable {ns:List Int} {n k:Nat} {i s w0:Int} {w:Option Int} {v1 v2 v3 v4 v5 v6 v7 v8 v9 v10:Option D} {S:R.St}
theorem la1 (en:1+cellZ ns 0 % 7=(n:Int)):evE (callF prog 23) x1 (E0 ns v1 v2 v3 v4 v5 v6 v7 v8 v9 v10) S=.ok (.int n) S:=by
 refine W.eq (wE_W _ ?_)
 unfold x1
 conv=>whnf
 refine zaj (zcB (n:=22) (k:=0)) ?_
 conv=>whnf
 refine zab (by first|decide|omega|(simp;done)|(simp;omega)) ?_
 conv=>whnf
 exact⟨by rw[<-en],rfl⟩
theorem la2:∃k:Nat,k<=7/\evE (callF prog 23) x2 (E0 ns (some (.int n)) v2 v3 v4 v5 v6 v7 v8 v9 v10) S=.ok (.int ((k+1:Nat):Int)) S:=by
 have key:W (evE (callF prog 23) x2 (E0 ns (some (.int n)) v2 v3 v4 v5 v6 v7 v8 v9 v10) S) fun d T=>T=S/\∃k:Nat,k<=7/\d=.int ((k+1:Nat):Int):=by
  refine wE_W _ ?_
  unfold x2
  conv=>whnf
  refine zaj (zcB (n:=22) (k:=1)) ?_
  conv=>whnf
  refine zab (by unfold zga;simp) ?_
  conv=>whnf
  have b1:(0:Int)<3+5 * (if decide ((n:Int)<6)=true then 1 else 0):=by split<;>omega
  have b2:(3+5 * (if decide ((n:Int)<6)=true then 1 else 0):Int)<=8:=by split<;>omega
  refine zab b1 ?_
  conv=>whnf
  have h0:=Int.emod_nonneg (cellZ ns 1) (b:=3+5 * (if decide ((n:Int)<6)=true then 1 else 0)) (by omega)
  have h1:=Int.emod_lt_of_pos (cellZ ns 1) b1
  refine⟨rfl,(cellZ ns 1 % (3+5 * (if decide ((n:Int)<6)=true then 1 else 0))).toNat,by omega,?_⟩
  congr 1
  show 1+cellZ ns 1 % (3+5 * (if decide ((n:Int)<6)=true then 1 else 0))=_
  omega
 obtain⟨d,T,e,rfl,k,hk,rfl⟩:=W.iff.mp key
 exact⟨k,hk,e⟩
theorem la3 {j:Nat}(hn:(0:Int)<n):evE (callF prog 23) (x3 j) (E0 ns (some (.int n)) v2 v3 v4 v5 v6 v7 v8 v9 v10) S=.ok (.int (cellZ ns j % n)) S:=by
 refine W.eq (wE_W _ ?_)
 unfold x3
 conv=>whnf
 refine zaj (zcB (n:=22) (k:=j)) ?_
 conv=>whnf
 refine zab hn ?_
 conv=>whnf
 exact⟨rfl,rfl⟩
theorem la5:∃w0:Int,evE (callF prog 23) x5 (E0 ns v1 v2 v3 v4 v5 v6 v7 v8 v9 v10) S=.ok (.int w0) S:=by
 have key:W (evE (callF prog 23) x5 (E0 ns v1 v2 v3 v4 v5 v6 v7 v8 v9 v10) S) fun d T=>T=S/\∃w0:Int,d=.int w0:=by
  refine wE_W _ ?_
  unfold x5
  conv=>whnf
  refine zaj (zcB (n:=22) (k:=4)) ?_
  conv=>whnf
  repeat (first|(refine zab (by first|decide|omega|(simp;done)|(simp;omega)) ?_;conv=>whnf)|(refine zaz rfl ?_;conv=>whnf)|(refine zaU rfl ?_;conv=>whnf)|(refine zaI (by assumption) ?_;conv=>whnf))
  exact⟨rfl,_,rfl⟩
 obtain⟨d,T,e,rfl,k,rfl⟩:=W.iff.mp key
 exact⟨k,e⟩
theorem la7 {t:Nat}:evE (callF prog 23) x7 (E0 ns (some (.int n)) (some (.int t)) (some (.int i)) (some (.int s)) v5 (some (oD w)) v7 v8 v9 v10) ⟨[],[],[]⟩=.ok (.ref 0) ⟨[],[hD i n t s w 1,.dtp []],[]⟩:=by
 refine W.eq (wE_W _ ?_)
 unfold x7
 conv=>whnf
 refine zaj (zo9 (f:=21) (n:=n) (t:=t) (i:=i) (s:=s) (w:=w)) ?_
 conv=>whnf
 refine zab rfl ?_
 conv=>whnf
 exact⟨rfl,rfl⟩
theorem la10:∃x:Int,evE (callF prog 23) x10 (E0 ns v1 v2 v3 v4 v5 v6 v7 v8 v9 v10) S=.ok (.int x) S:=by
 have key:W (evE (callF prog 23) x10 (E0 ns v1 v2 v3 v4 v5 v6 v7 v8 v9 v10) S) fun d T=>T=S/\∃w0:Int,d=.int w0:=by
  refine wE_W _ ?_
  unfold x10
  conv=>whnf
  refine zaj (zcB (n:=22) (k:=5)) ?_
  conv=>whnf
  refine zab (by first|decide|omega|(simp;done)|(simp;omega)) ?_
  conv=>whnf
  exact⟨rfl,_,rfl⟩
 obtain⟨d,T,e,rfl,k,rfl⟩:=W.iff.mp key
 exact⟨k,e⟩
end
noncomputable def rB:CS:=(.asg 7 x7 (.asg 8 .dnewT (.asg 9 (.con (D.int 6)) (.asg 10 x10 rL))))
theorem l_B2 {ns:List Int}{n k:Nat}{i s w0:Int}{w:Option Int}(hn:n<=7)(hk:k<=7)(hs:0<=s/\s<n)(hw:i=s->w=some w0):W (exS (callF prog 23) rB (E0 ns (some (.int n)) (some (.int ((k+1:Nat):Int))) (some (.int i)) (some (.int s)) (some (.int w0)) (some (oD w)) none none none none) ⟨[],[],[]⟩) Qt:=by
 unfold rB
 refine zbt la7 ?_
 show W (exS (callF prog 23) (.asg 8 .dnewT (.asg 9 (.con (D.int 6)) (.asg 10 x10 rL))) (E0 ns (some (.int n)) (some (.int ((k+1:Nat):Int))) (some (.int i)) (some (.int s)) (some (.int w0)) (some (oD w)) (some (.ref 0)) none none none) _) _
 refine zbt (d:=.ref 2) (S':=⟨[],[hD i n (k+1) s w 1,.dtp [],.dtp []],[]⟩) rfl ?_
 show W (exS (callF prog 23) (.asg 9 (.con (D.int 6)) (.asg 10 x10 rL)) (E0 ns (some (.int n)) (some (.int ((k+1:Nat):Int))) (some (.int i)) (some (.int s)) (some (.int w0)) (some (oD w)) (some (.ref 0)) (some (.ref 2)) none none) _) _
 refine zbt (d:=.int 6) (S':=⟨[],[hD i n (k+1) s w 1,.dtp [],.dtp []],[]⟩) rfl ?_
 show W (exS (callF prog 23) (.asg 10 x10 rL) (E0 ns (some (.int n)) (some (.int ((k+1:Nat):Int))) (some (.int i)) (some (.int s)) (some (.int w0)) (some (oD w)) (some (.ref 0)) (some (.ref 2)) (some (.int 6)) none) _) _
 obtain⟨x,hx⟩:=la10 (ns:=ns) (v1:=some (.int n)) (v2:=some (.int ((k+1:Nat):Int))) (v3:=some (.int i)) (v4:=some (.int s)) (v5:=some (.int w0)) (v6:=some (oD w)) (v7:=some (.ref 0)) (v8:=some (.ref 2)) (v9:=some (.int 6)) (v10:=none) (S:=⟨[],[hD i n (k+1) s w 1,.dtp [],.dtp []],[]⟩)
 generalize hδ:E0 ns (some (.int n)) (some (.int ((k+1:Nat):Int))) (some (.int i)) (some (.int s)) (some (.int w0)) (some (oD w)) (some (.ref 0)) (some (.ref 2)) (some (.int 6)) none=δ at hx⊢
 refine zbt hx ?_
 subst hδ
 have hL:=l_L (ns:=ns) (x:=x) (T:=⟨[],[hD i n (k+1) s w 1,.dtp [],.dtp []],[]⟩) ⟨rfl,rfl,rfl,rfl,rfl⟩ hn hk hs hw
 show W (exS (callF prog 23) rL (E9 ns n (k+1) i s w0 w 6 x none none none none none none none none) _) Qt
 generalize E9 ns n (k+1) i s w0 w 6 x none none none none none none none none=δ2 at hL⊢
 exact wS_W rL hL
theorem law_true (ns:List Int)(h:ns.length<=63):W (callF prog 24 23 [.fix (ns.map .int)] ⟨[],[],[]⟩) fun d _=>d=.bl true:=by
 refine zpz (F:=c_law) rfl rfl rfl ?_
 have m0:=Int.emod_nonneg (cellZ ns 0) (b:=7) (by decide)
 have m1:=Int.emod_lt_of_pos (cellZ ns 0) (b:=7) (by decide)
 obtain⟨n,en⟩:∃n:Nat,1+cellZ ns 0 % 7=(n:Int):=⟨(1+cellZ ns 0 % 7).toNat,by omega⟩
 have hn:n<=7:=by omega
 have npos:(0:Int)<n:=by omega
 have s0:=Int.emod_nonneg (cellZ ns 3) (b:=n) (by omega)
 have s1:=Int.emod_lt_of_pos (cellZ ns 3) npos
 show W (exS (callF prog 23) (.asg 1 x1 (.asg 2 x2 (.asg 3 (x3 2) (.asg 4 (x3 3) (.asg 5 x5 (.asg 6 (.con D.non) (.ifS (.cmp .Eq (.loc 3) (.loc 4)) (.asg 6 (.loc 5) .nil) .nil rB))))))) (E0 ns none none none none none none none none none none) ⟨[],[],[]⟩) Qt
 refine zbt (la1 en) ?_
 show W (exS (callF prog 23) (.asg 2 x2 (.asg 3 (x3 2) (.asg 4 (x3 3) (.asg 5 x5 (.asg 6 (.con D.non) (.ifS (.cmp .Eq (.loc 3) (.loc 4)) (.asg 6 (.loc 5) .nil) .nil rB)))))) (E0 ns (some (.int n)) none none none none none none none none none) ⟨[],[],[]⟩) Qt
 obtain⟨k,hk,h2⟩:=la2 (ns:=ns) (n:=n) (v2:=none) (v3:=none) (v4:=none) (v5:=none) (v6:=none) (v7:=none) (v8:=none) (v9:=none) (v10:=none) (S:=⟨[],[],[]⟩)
 refine zbt h2 ?_
 show W (exS (callF prog 23) (.asg 3 (x3 2) (.asg 4 (x3 3) (.asg 5 x5 (.asg 6 (.con D.non) (.ifS (.cmp .Eq (.loc 3) (.loc 4)) (.asg 6 (.loc 5) .nil) .nil rB))))) (E0 ns (some (.int n)) (some (.int ((k+1:Nat):Int))) none none none none none none none none) ⟨[],[],[]⟩) Qt
 refine zbt (la3 (j:=2) npos) ?_
 show W (exS (callF prog 23) (.asg 4 (x3 3) (.asg 5 x5 (.asg 6 (.con D.non) (.ifS (.cmp .Eq (.loc 3) (.loc 4)) (.asg 6 (.loc 5) .nil) .nil rB)))) (E0 ns (some (.int n)) (some (.int ((k+1:Nat):Int))) (some (.int (cellZ ns 2 % n))) none none none none none none none) ⟨[],[],[]⟩) Qt
 refine zbt (la3 (j:=3) npos) ?_
 generalize cellZ ns 3 % n=s at s0 s1
 generalize cellZ ns 2 % n=i
 show W (exS (callF prog 23) (.asg 5 x5 (.asg 6 (.con D.non) (.ifS (.cmp .Eq (.loc 3) (.loc 4)) (.asg 6 (.loc 5) .nil) .nil rB))) (E0 ns (some (.int n)) (some (.int ((k+1:Nat):Int))) (some (.int i)) (some (.int s)) none none none none none none) ⟨[],[],[]⟩) Qt
 obtain⟨w0,h5⟩:=la5 (ns:=ns) (v1:=some (.int n)) (v2:=some (.int ((k+1:Nat):Int))) (v3:=some (.int i)) (v4:=some (.int s)) (v5:=none) (v6:=none) (v7:=none) (v8:=none) (v9:=none) (v10:=none) (S:=⟨[],[],[]⟩)
 refine zbt h5 ?_
 show W (exS (callF prog 23) (.asg 6 (.con D.non) (.ifS (.cmp .Eq (.loc 3) (.loc 4)) (.asg 6 (.loc 5) .nil) .nil rB)) (E0 ns (some (.int n)) (some (.int ((k+1:Nat):Int))) (some (.int i)) (some (.int s)) (some (.int w0)) none none none none none) ⟨[],[],[]⟩) Qt
 refine zbt (d:=.non) (S':=⟨[],[],[]⟩) rfl ?_
 show W (exS (callF prog 23) (.ifS (.cmp .Eq (.loc 3) (.loc 4)) (.asg 6 (.loc 5) .nil) .nil rB) (E0 ns (some (.int n)) (some (.int ((k+1:Nat):Int))) (some (.int i)) (some (.int s)) (some (.int w0)) (some .non) none none none none) ⟨[],[],[]⟩) Qt
 have ev:evT (callF prog 23) (.cmp .Eq (.loc 3) (.loc 4)) (E0 ns (some (.int n)) (some (.int ((k+1:Nat):Int))) (some (.int i)) (some (.int s)) (some (.int w0)) (some .non) none none none none) ⟨[],[],[]⟩=.ok (decide (i=s)) ⟨[],[],[]⟩:=rfl
 by_cases c:i=s
 · refine zkQ (δ':=E0 ns (some (.int n)) (some (.int ((k+1:Nat):Int))) (some (.int i)) (some (.int s)) (some (.int w0)) (some (.int w0)) none none none none) (by rw[ev,decide_eq_true c]) rfl ?_
   exact l_B2 (w:=some w0) hn hk ⟨s0,s1⟩ fun _=>rfl
 · refine zm9 (by rw[ev,decide_eq_false c]) ?_
   exact l_B2 (w:=none) hn hk ⟨s0,s1⟩ fun z=>absurd z c
end
section
open PySem R L2
set_option maxHeartbeats 0 in
theorem all_mk {l:PySem.W.OpenLaw}{w:World}{K:PySem.W.Frag}{h:Heap}{mg:Str->Option Value}{fa f1 f2 f3 f4 f5 f6 f7 f8 f9 f10 f11 f12 f13 f14 f15 f16 f17 f18 f19 f20 f21 f22 f23 f24 fm25 fm26 fm27 fm28 fm29 fm30 fm31 hC_Hand iC_Hand dd5:Addr}(X:K.In h)(G:h.Ns mainGlobals mg)(hfa:mg "law"=some (.ref fa))
  {odm25 anm25 odm26 anm26 odm27 anm27 odm28 anm28 odm29 anm29 odm30 anm30 odm31 anm31:Option Addr} {slm25 slm26 slm27 slm28 slm29 slm30 slm31:Array (Option Value)} {ocm25 kVm25 dcm25 pmm25 cdm25 ctm25 ocm26 kVm26 dcm26 pmm26 cdm26 ctm26 ocm27 kVm27 dcm27 pmm27 cdm27 ctm27 ocm28 kVm28 dcm28 pmm28 cdm28 ctm28 ocm29 kVm29 dcm29 pmm29 cdm29 ctm29 ocm30 kVm30 dcm30 pmm30 cdm30 ctm30 ocm31 kVm31 dcm31 pmm31 cdm31 ctm31:Value}
  {od1 an1 od2 an2 od3 an3 od4 an4 od5 an5 od6 an6 od7 an7 od8 an8 od9 an9 od10 an10 od11 an11 od12 an12 od13 an13 od14 an14 od15 an15 od16 an16 od17 an17 od18 an18 od19 an19 od20 an20 od21 an21 od22 an22 od23 an23 od24 an24:Option Addr} {sl1 sl2 sl3 sl4 sl5 sl6 sl7 sl8 sl9 sl10 sl11 sl12 sl13 sl14 sl15 sl16 sl17 sl18 sl19 sl20 sl21 sl22 sl23 sl24:Array (Option Value)} {oc1 kV1 dc1 pm1 cd1 ct1 oc2 kV2 dc2 pm2 cd2 ct2 oc3 kV3 dc3 pm3 ct3 oc4 kV4 dc4 pm4 cd4 ct4 oc5 kV5 dc5 pm5 cd5 ct5 oc6 kV6 dc6 pm6 cd6 ct6 oc7 kV7 dc7 pm7 cd7 ct7 oc8 kV8 dc8 pm8 cd8 ct8 oc9 kV9 dc9 pm9 cd9 ct9 oc10 kV10 dc10 pm10 cd10 ct10 oc11 kV11 dc11 pm11 cd11 ct11 oc12 kV12 dc12 pm12 cd12 ct12 oc13 kV13 dc13 pm13 cd13 ct13 oc14 kV14 dc14 pm14 cd14 ct14 oc15 kV15 dc15 pm15 cd15 ct15 oc16 kV16 dc16 pm16 cd16 ct16 oc17 kV17 dc17 pm17 cd17 ct17 oc18 kV18 dc18 pm18 cd18 ct18 oc19 kV19 dc19 pm19 cd19 ct19 oc20 kV20 dc20 pm20 cd20 ct20 oc21 kV21 dc21 pm21 cd21 ct21 oc22 kV22 dc22 pm22 cd22 ct22 oc23 kV23 dc23 pm23 cd23 ct23 oc24 kV24 dc24 pm24 cd24 ct24:Value}
  {xc5:Value} {xd5:Option Addr} {xn5:Nat} {xs5:Array (Option Value)}
  (a1:PySem.W.nsIn K mainGlobals "is_whole"=some (some (.ref f1))) (l1:K.lookup f1=some ⟨oc1,od1,.func (PySem.W.fnOf "is_whole" "is_whole" (zaq za5) (zae za5) (zac za5) .none kV1 dc1 pm1 an1 cd1 ct1),sl1⟩) (c1:PySem.W.codeIn K cd1 "is_whole"=true) (k1:PySem.W.keepIn K (.ref f1)=true)
  (a2:PySem.W.nsIn K mainGlobals "is_hand"=some (some (.ref f2))) (l2:K.lookup f2=some ⟨oc2,od2,.func (PySem.W.fnOf "is_hand" "is_hand" (zaq zbg) (zae zbg) (zac zbg) .none kV2 dc2 pm2 an2 cd2 ct2),sl2⟩) (c2:PySem.W.codeIn K cd2 "is_hand"=true) (k2:PySem.W.keepIn K (.ref f2)=true)
  {cc3:Addr} (a3:PySem.W.nsIn K mainGlobals "tally"=some (some (.ref f3))) (l3:K.lookup f3=some ⟨oc3,od3,.func (PySem.W.fnOf "tally" "tally" (zaq zcE) (zae zcE) (zac zcE) .none kV3 dc3 pm3 an3 (.ref cc3) ct3),sl3⟩) (c3:PySem.W.codeIn K (.ref cc3) "tally"=true) (k3:PySem.W.keepIn K (.ref f3)=true) (h3:PySem.W.codeHdIn K cc3 30=true)
  (a4:PySem.W.nsIn K mainGlobals "most"=some (some (.ref f4))) (l4:K.lookup f4=some ⟨oc4,od4,.func (PySem.W.fnOf "most" "most" (zaq zb8) (zae zb8) (zac zb8) .none kV4 dc4 pm4 an4 cd4 ct4),sl4⟩) (c4:PySem.W.codeIn K cd4 "most"=true) (k4:PySem.W.keepIn K (.ref f4)=true)
  (a5:PySem.W.nsIn K mainGlobals "paths"=some (some (.ref f5))) (l5:K.lookup f5=some ⟨oc5,od5,.func (PySem.W.fnOf "paths" "paths" (zaq zbI) (zae zbI) (zac zbI) (.ref dd5) kV5 dc5 pm5 an5 cd5 ct5),sl5⟩) (c5:PySem.W.codeIn K cd5 "paths"=true) (k5:PySem.W.keepIn K (.ref f5)=true)
  (e5:K.lookup dd5=some ⟨xc5,xd5,.seq #[.none] xn5,xs5⟩)
  (a6:PySem.W.nsIn K mainGlobals "lengthened"=some (some (.ref f6))) (l6:K.lookup f6=some ⟨oc6,od6,.func (PySem.W.fnOf "lengthened" "lengthened" (zaq zaJ) (zae zaJ) (zac zaJ) .none kV6 dc6 pm6 an6 cd6 ct6),sl6⟩) (c6:PySem.W.codeIn K cd6 "lengthened"=true) (k6:PySem.W.keepIn K (.ref f6)=true)
  (a7:PySem.W.nsIn K mainGlobals "grown"=some (some (.ref f7))) (l7:K.lookup f7=some ⟨oc7,od7,.func (PySem.W.fnOf "grown" "grown" (zaq zbJ) (zae zbJ) (zac zbJ) .none kV7 dc7 pm7 an7 cd7 ct7),sl7⟩) (c7:PySem.W.codeIn K cd7 "grown"=true) (k7:PySem.W.keepIn K (.ref f7)=true)
  (a8:PySem.W.nsIn K mainGlobals "held_for"=some (some (.ref f8))) (l8:K.lookup f8=some ⟨oc8,od8,.func (PySem.W.fnOf "held_for" "held_for" (zaq za6) (zae za6) (zac za6) .none kV8 dc8 pm8 an8 cd8 ct8),sl8⟩) (c8:PySem.W.codeIn K cd8 "held_for"=true) (k8:PySem.W.keepIn K (.ref f8)=true)
  (a9:PySem.W.nsIn K mainGlobals "grown_below"=some (some (.ref f9))) (l9:K.lookup f9=some ⟨oc9,od9,.func (PySem.W.fnOf "grown_below" "grown_below" (zaq zaF) (zae zaF) (zac zaF) .none kV9 dc9 pm9 an9 cd9 ct9),sl9⟩) (c9:PySem.W.codeIn K cd9 "grown_below"=true) (k9:PySem.W.keepIn K (.ref f9)=true)
  (a10:PySem.W.nsIn K mainGlobals "_law_cell_at"=some (some (.ref f10))) (l10:K.lookup f10=some ⟨oc10,od10,.func (PySem.W.fnOf "_law_cell_at" "_law_cell_at" (zaq zaE) (zae zaE) (zac zaE) .none kV10 dc10 pm10 an10 cd10 ct10),sl10⟩) (c10:PySem.W.codeIn K cd10 "_law_cell_at"=true) (k10:PySem.W.keepIn K (.ref f10)=true)
  (a11:PySem.W.nsIn K mainGlobals "_law_word"=some (some (.ref f11))) (l11:K.lookup f11=some ⟨oc11,od11,.func (PySem.W.fnOf "_law_word" "_law_word" (zaq za2) (zae za2) (zac za2) .none kV11 dc11 pm11 an11 cd11 ct11),sl11⟩) (c11:PySem.W.codeIn K cd11 "_law_word"=true) (k11:PySem.W.keepIn K (.ref f11)=true)
  (a12:PySem.W.nsIn K mainGlobals "_law_whole"=some (some (.ref f12))) (l12:K.lookup f12=some ⟨oc12,od12,.func (PySem.W.fnOf "_law_whole" "_law_whole" (zaq zaM) (zae zaM) (zac zaM) .none kV12 dc12 pm12 an12 cd12 ct12),sl12⟩) (c12:PySem.W.codeIn K cd12 "_law_whole"=true) (k12:PySem.W.keepIn K (.ref f12)=true)
  (a13:PySem.W.nsIn K mainGlobals "_law_is_tuple"=some (some (.ref f13))) (l13:K.lookup f13=some ⟨oc13,od13,.func (PySem.W.fnOf "_law_is_tuple" "_law_is_tuple" (zaq zaB) (zae zaB) (zac zaB) .none kV13 dc13 pm13 an13 cd13 ct13),sl13⟩) (c13:PySem.W.codeIn K cd13 "_law_is_tuple"=true) (k13:PySem.W.keepIn K (.ref f13)=true)
  (a14:PySem.W.nsIn K mainGlobals "_law_most"=some (some (.ref f14))) (l14:K.lookup f14=some ⟨oc14,od14,.func (PySem.W.fnOf "_law_most" "_law_most" (zaq za4) (zae za4) (zac za4) .none kV14 dc14 pm14 an14 cd14 ct14),sl14⟩) (c14:PySem.W.codeIn K cd14 "_law_most"=true) (k14:PySem.W.keepIn K (.ref f14)=true)
  (a15:PySem.W.nsIn K mainGlobals "_law_holds"=some (some (.ref f15))) (l15:K.lookup f15=some ⟨oc15,od15,.func (PySem.W.fnOf "_law_holds" "_law_holds" (zaq zaP) (zae zaP) (zac zaP) .none kV15 dc15 pm15 an15 cd15 ct15),sl15⟩) (c15:PySem.W.codeIn K cd15 "_law_holds"=true) (k15:PySem.W.keepIn K (.ref f15)=true)
  (a16:PySem.W.nsIn K mainGlobals "_law_paths"=some (some (.ref f16))) (l16:K.lookup f16=some ⟨oc16,od16,.func (PySem.W.fnOf "_law_paths" "_law_paths" (zaq zaO) (zae zaO) (zac zaO) .none kV16 dc16 pm16 an16 cd16 ct16),sl16⟩) (c16:PySem.W.codeIn K cd16 "_law_paths"=true) (k16:PySem.W.keepIn K (.ref f16)=true)
  (a17:PySem.W.nsIn K mainGlobals "_law_due"=some (some (.ref f17))) (l17:K.lookup f17=some ⟨oc17,od17,.func (PySem.W.fnOf "_law_due" "_law_due" (zaq zbf) (zae zbf) (zac zbf) .none kV17 dc17 pm17 an17 cd17 ct17),sl17⟩) (c17:PySem.W.codeIn K cd17 "_law_due"=true) (k17:PySem.W.keepIn K (.ref f17)=true)
  (a18:PySem.W.nsIn K mainGlobals "_law_alike"=some (some (.ref f18))) (l18:K.lookup f18=some ⟨oc18,od18,.func (PySem.W.fnOf "_law_alike" "_law_alike" (zaq zaR) (zae zaR) (zac zaR) .none kV18 dc18 pm18 an18 cd18 ct18),sl18⟩) (c18:PySem.W.codeIn K cd18 "_law_alike"=true) (k18:PySem.W.keepIn K (.ref f18)=true)
  (a19:PySem.W.nsIn K mainGlobals "_law_digit"=some (some (.ref f19))) (l19:K.lookup f19=some ⟨oc19,od19,.func (PySem.W.fnOf "_law_digit" "_law_digit" (zaq zaQ) (zae zaQ) (zac zaQ) .none kV19 dc19 pm19 an19 cd19 ct19),sl19⟩) (c19:PySem.W.codeIn K cd19 "_law_digit"=true) (k19:PySem.W.keepIn K (.ref f19)=true)
  (a20:PySem.W.nsIn K mainGlobals "_law_small"=some (some (.ref f20))) (l20:K.lookup f20=some ⟨oc20,od20,.func (PySem.W.fnOf "_law_small" "_law_small" (zaq zaN) (zae zaN) (zac zaN) .none kV20 dc20 pm20 an20 cd20 ct20),sl20⟩) (c20:PySem.W.codeIn K cd20 "_law_small"=true) (k20:PySem.W.keepIn K (.ref f20)=true)
  (a21:PySem.W.nsIn K mainGlobals "_law_letters"=some (some (.ref f21))) (l21:K.lookup f21=some ⟨oc21,od21,.func (PySem.W.fnOf "_law_letters" "_law_letters" (zaq zaD) (zae zaD) (zac zaD) .none kV21 dc21 pm21 an21 cd21 ct21),sl21⟩) (c21:PySem.W.codeIn K cd21 "_law_letters"=true) (k21:PySem.W.keepIn K (.ref f21)=true)
  (a22:PySem.W.nsIn K mainGlobals "_law_says"=some (some (.ref f22))) (l22:K.lookup f22=some ⟨oc22,od22,.func (PySem.W.fnOf "_law_says" "_law_says" (zaq za3) (zae za3) (zac za3) .none kV22 dc22 pm22 an22 cd22 ct22),sl22⟩) (c22:PySem.W.codeIn K cd22 "_law_says"=true) (k22:PySem.W.keepIn K (.ref f22)=true)
  (a23:PySem.W.nsIn K mainGlobals "_law_again"=some (some (.ref f23))) (l23:K.lookup f23=some ⟨oc23,od23,.func (PySem.W.fnOf "_law_again" "_law_again" (zaq zaS) (zae zaS) (zac zaS) .none kV23 dc23 pm23 an23 cd23 ct23),sl23⟩) (c23:PySem.W.codeIn K cd23 "_law_again"=true) (k23:PySem.W.keepIn K (.ref f23)=true)
  (a24:PySem.W.nsIn K mainGlobals "law"=some (some (.ref f24))) (l24:K.lookup f24=some ⟨oc24,od24,.func (PySem.W.fnOf "law" "law" (zaq zb9) (zae zb9) (zac zb9) .none kV24 dc24 pm24 an24 cd24 ct24),sl24⟩) (c24:PySem.W.codeIn K cd24 "law"=true) (k24:PySem.W.keepIn K (.ref f24)=true)
  (aC0:PySem.W.nsIn K mainGlobals "OralHand"=some (some (.ref 164)))
  (pg0:PySem.W.plainGet K 164 Str.empty=true)
  (hd0:PySem.W.hasDictIn K 164=true)
  (po0:PySem.W.plainOver K 164=true)
  (sa0:PySem.W.findIn K (.ref 164) "__setattr__"=some (some (.builtin "object.__setattr__")))
  (mkc0:PySem.W.makesIn K 164=true)
  (kc0:PySem.W.keepIn K (.ref 164)=true)
  (n0_number:PySem.W.findIn K (.ref 164) "number"=some none)
  (n0_many:PySem.W.findIn K (.ref 164) "many"=some none)
  (n0_rounds:PySem.W.findIn K (.ref 164) "rounds"=some none)
  (n0_sender:PySem.W.findIn K (.ref 164) "sender"=some none)
  (n0_word:PySem.W.findIn K (.ref 164) "word"=some none)
  (n0_notes:PySem.W.findIn K (.ref 164) "notes"=some none)
  (ja0:PySem.W.findIn K (.ref 164) "__class__"=some (some (.builtin "object.__class__")))
  (jm0:PySem.W.mroIn K 164 (.type "object")=some true)
  (x0_init:PySem.W.findIn K (.ref 164) "__init__"=some (some (.ref fm25)))
  (x0_ending:PySem.W.findIn K (.ref 164) "ending"=some (some (.ref fm26)))
  (x0_hear:PySem.W.findIn K (.ref 164) "hear"=some (some (.ref fm27)))
  (x0_letters_with:PySem.W.findIn K (.ref 164) "letters_with"=some (some (.ref fm28)))
  (x0_say:PySem.W.findIn K (.ref 164) "say"=some (some (.ref fm29)))
  (x0_tree:PySem.W.findIn K (.ref 164) "tree"=some (some (.ref fm30)))
  (jn:PySem.W.specialIn K (.builtin "object.__class__") "__get__"=some (some (.builtin "getset_descriptor.__get__"))) (jt:PySem.W.takesIn K (.builtin "object.__class__")=some true)
  (aI_Hand:PySem.W.nsIn K mainGlobals "Hand"=some (some (.ref iC_Hand)))
  (kit0_Hand:PySem.W.kitOne K (.ref 164) (.ref iC_Hand)=some true)
  (ac_Hand:PySem.W.nsIn K mainGlobals "Hand"=some (some (.ref hC_Hand)))
  (gc_Hand:PySem.W.specialIn K (.ref hC_Hand) "__getattribute__"=some (some (.builtin "type.__getattribute__")))
  (rc_Hand:PySem.W.readsIn K hC_Hand (.type "type")=true)
  (fc_Hand:PySem.W.findCls K (.ref hC_Hand) (.type "type") "__init__"=some (.val (.ref fm31)))
  (lm25:K.lookup fm25=some ⟨ocm25,odm25,.func (PySem.W.fnOf "__init__" "OralHand.__init__" (zaq zaw) (zae zaw) (zac zaw) .none kVm25 dcm25 pmm25 anm25 cdm25 ctm25),slm25⟩) (cm25:PySem.W.codeIn K cdm25 "OralHand.__init__"=true) (km25:PySem.W.keepIn K (.ref fm25)=true) (im25:PySem.W.isFn K (.ref fm25)=true)
  (lm26:K.lookup fm26=some ⟨ocm26,odm26,.func (PySem.W.fnOf "ending" "OralHand.ending" (zaq zar) (zae zar) (zac zar) .none kVm26 dcm26 pmm26 anm26 cdm26 ctm26),slm26⟩) (cm26:PySem.W.codeIn K cdm26 "OralHand.ending"=true) (km26:PySem.W.keepIn K (.ref fm26)=true) (im26:PySem.W.isFn K (.ref fm26)=true)
  (lm27:K.lookup fm27=some ⟨ocm27,odm27,.func (PySem.W.fnOf "hear" "OralHand.hear" (zaq zax) (zae zax) (zac zax) .none kVm27 dcm27 pmm27 anm27 cdm27 ctm27),slm27⟩) (cm27:PySem.W.codeIn K cdm27 "OralHand.hear"=true) (km27:PySem.W.keepIn K (.ref fm27)=true) (im27:PySem.W.isFn K (.ref fm27)=true)
  (lm28:K.lookup fm28=some ⟨ocm28,odm28,.func (PySem.W.fnOf "letters_with" "OralHand.letters_with" (zaq zak) (zae zak) (zac zak) .none kVm28 dcm28 pmm28 anm28 cdm28 ctm28),slm28⟩) (cm28:PySem.W.codeIn K cdm28 "OralHand.letters_with"=true) (km28:PySem.W.keepIn K (.ref fm28)=true) (im28:PySem.W.isFn K (.ref fm28)=true)
  (lm29:K.lookup fm29=some ⟨ocm29,odm29,.func (PySem.W.fnOf "say" "OralHand.say" (zaq zaC) (zae zaC) (zac zaC) .none kVm29 dcm29 pmm29 anm29 cdm29 ctm29),slm29⟩) (cm29:PySem.W.codeIn K cdm29 "OralHand.say"=true) (km29:PySem.W.keepIn K (.ref fm29)=true) (im29:PySem.W.isFn K (.ref fm29)=true)
  (lm30:K.lookup fm30=some ⟨ocm30,odm30,.func (PySem.W.fnOf "tree" "OralHand.tree" (zaq zav) (zae zav) (zac zav) .none kVm30 dcm30 pmm30 anm30 cdm30 ctm30),slm30⟩) (cm30:PySem.W.codeIn K cdm30 "OralHand.tree"=true) (km30:PySem.W.keepIn K (.ref fm30)=true) (im30:PySem.W.isFn K (.ref fm30)=true)
  (lm31:K.lookup fm31=some ⟨ocm31,odm31,.func (PySem.W.fnOf "__init__" "Hand.__init__" (zaq zaT) (zae zaT) (zac zaT) .none kVm31 dcm31 pmm31 anm31 cdm31 ctm31),slm31⟩) (cm31:PySem.W.codeIn K cdm31 "Hand.__init__"=true) (km31:PySem.W.keepIn K (.ref fm31)=true) (im31:PySem.W.isFn K (.ref fm31)=true)
  (z_all:PySem.W.nsIn K mainGlobals "all"=some none)
  (z_bool:PySem.W.nsIn K mainGlobals "bool"=some none)
  (z_int:PySem.W.nsIn K mainGlobals "int"=some none)
  (z_isinstance:PySem.W.nsIn K mainGlobals "isinstance"=some none)
  (z_len:PySem.W.nsIn K mainGlobals "len"=some none)
  (z_list:PySem.W.nsIn K mainGlobals "list"=some none)
  (z_range:PySem.W.nsIn K mainGlobals "range"=some none)
  (z_sorted:PySem.W.nsIn K mainGlobals "sorted"=some none)
  (z_tuple:PySem.W.nsIn K mainGlobals "tuple"=some none)
  (z_zip:PySem.W.nsIn K mainGlobals "zip"=some none)
  {t_STILL:Tok} (q_STILL:PySem.W.nsIn K mainGlobals "STILL"=some (some (.int 0 t_STILL)))
  {t_LONGEST:Tok} (q_LONGEST:PySem.W.nsIn K mainGlobals "LONGEST"=some (some (.int 7 t_LONGEST)))
  : ∃fd:FuncData,(∀(s:Shared) (v:Value),BindsTo s fd ⟨[v],[]⟩ [("_law_script",v)])/\∀base:Heap,K.In base->base.Ns mainGlobals mg->BM mg base->FnOk l.prog w K mg base CX0 48 fa fd ["_law_script"] (spF K (callF prog 24) 23):=by
 have e:=hfa.symm.trans (PySem.W.mg_of X G a24)
 cases e
 have F1:=zat (st:=za5) l1 c1 k1
 have m1:=PySem.W.mg_of X G a1
 have b1_0:=F1.binds (ps:=["thing"]) fun _ _ _ _ _ _ us hl=>match us,hl with | [_],_=>rfl
 have F2:=zat (st:=zbg) l2 c2 k2
 have m2:=PySem.W.mg_of X G a2
 have b2_0:=F2.binds (ps:=["thing","many"]) fun _ _ _ _ _ _ us hl=>match us,hl with | [_,_],_=>rfl
 have F3:=zat (st:=zcE) l3 c3 k3
 have m3:=PySem.W.mg_of X G a3
 have b3_0:=F3.binds (ps:=["words"]) fun _ _ _ _ _ _ us hl=>match us,hl with | [_],_=>rfl
 have F4:=zat (st:=zb8) l4 c4 k4
 have m4:=PySem.W.mg_of X G a4
 have b4_0:=F4.binds (ps:=["words"]) fun _ _ _ _ _ _ us hl=>match us,hl with | [_],_=>rfl
 have F5:=zat (st:=zbI) l5 c5 k5
 have m5:=PySem.W.mg_of X G a5
 have b5_0:=zlG (ps:=["many","sender","length","without"]) (ds:=[]) 4 rfl F5 e5 fun _ _ _ _ _ _ us hl=>match us,hl with | [_,_,_,_],_=>⟨_,rfl,rfl⟩
 have b5_1:=zlG (ps:=["many","sender","length","without"]) (ds:=[.none]) 3 rfl F5 e5 fun _ _ _ _ _ _ us hl=>match us,hl with | [_,_,_],_=>⟨_,rfl,rfl⟩
 have F6:=zat (st:=zaJ) l6 c6 k6
 have m6:=PySem.W.mg_of X G a6
 have b6_0:=F6.binds (ps:=["shorter","many","without"]) fun _ _ _ _ _ _ us hl=>match us,hl with | [_,_,_],_=>rfl
 have F7:=zat (st:=zbJ) l7 c7 k7
 have m7:=PySem.W.mg_of X G a7
 have b7_0:=F7.binds (ps:=["many","rounds","hand","path","notes"]) fun _ _ _ _ _ _ us hl=>match us,hl with | [_,_,_,_,_],_=>rfl
 have F8:=zat (st:=za6) l8 c8 k8
 have m8:=PySem.W.mg_of X G a8
 have b8_0:=F8.binds (ps:=["path","notes"]) fun _ _ _ _ _ _ us hl=>match us,hl with | [_,_],_=>rfl
 have F9:=zat (st:=zaF) l9 c9 k9
 have m9:=PySem.W.mg_of X G a9
 have b9_0:=F9.binds (ps:=["many","rounds","hand","path","notes"]) fun _ _ _ _ _ _ us hl=>match us,hl with | [_,_,_,_,_],_=>rfl
 have F10:=zat (st:=zaE) l10 c10 k10
 have m10:=PySem.W.mg_of X G a10
 have b10_0:=F10.binds (ps:=["_law_script","_law_k"]) fun _ _ _ _ _ _ us hl=>match us,hl with | [_,_],_=>rfl
 have F11:=zat (st:=za2) l11 c11 k11
 have m11:=PySem.W.mg_of X G a11
 have b11_0:=F11.binds (ps:=["_law_cell","_law_word_here"]) fun _ _ _ _ _ _ us hl=>match us,hl with | [_,_],_=>rfl
 have F12:=zat (st:=zaM) l12 c12 k12
 have m12:=PySem.W.mg_of X G a12
 have b12_0:=F12.binds (ps:=["_law_found"]) fun _ _ _ _ _ _ us hl=>match us,hl with | [_],_=>rfl
 have F13:=zat (st:=zaB) l13 c13 k13
 have m13:=PySem.W.mg_of X G a13
 have b13_0:=F13.binds (ps:=["_law_found","_law_due_here"]) fun _ _ _ _ _ _ us hl=>match us,hl with | [_,_],_=>rfl
 have F14:=zat (st:=za4) l14 c14 k14
 have m14:=PySem.W.mg_of X G a14
 have b14_0:=F14.binds (ps:=["_law_words"]) fun _ _ _ _ _ _ us hl=>match us,hl with | [_],_=>rfl
 have F15:=zat (st:=zaP) l15 c15 k15
 have m15:=PySem.W.mg_of X G a15
 have b15_0:=F15.binds (ps:=["_law_tree","_law_many","_law_turns","_law_hand","_law_path","_law_notes"]) fun _ _ _ _ _ _ us hl=>match us,hl with | [_,_,_,_,_,_],_=>rfl
 have F16:=zat (st:=zaO) l16 c16 k16
 have m16:=PySem.W.mg_of X G a16
 have b16_0:=F16.binds (ps:=["_law_many","_law_sender","_law_size","_law_but"]) fun _ _ _ _ _ _ us hl=>match us,hl with | [_,_,_,_],_=>rfl
 have F17:=zat (st:=zbf) l17 c17 k17
 have m17:=PySem.W.mg_of X G a17
 have b17_0:=F17.binds (ps:=["_law_hand","_law_own","_law_turn","_law_notes"]) fun _ _ _ _ _ _ us hl=>match us,hl with | [_,_,_,_],_=>rfl
 have F18:=zat (st:=zaR) l18 c18 k18
 have m18:=PySem.W.mg_of X G a18
 have b18_0:=F18.binds (ps:=["_law_found","_law_due_here"]) fun _ _ _ _ _ _ us hl=>match us,hl with | [_,_],_=>rfl
 have F19:=zat (st:=zaQ) l19 c19 k19
 have m19:=PySem.W.mg_of X G a19
 have b19_0:=F19.binds (ps:=["_law_script","_law_at","_law_k"]) fun _ _ _ _ _ _ us hl=>match us,hl with | [_,_,_],_=>rfl
 have F20:=zat (st:=zaN) l20 c20 k20
 have m20:=PySem.W.mg_of X G a20
 have b20_0:=F20.binds (ps:=["_law_digit_here","_law_word_here"]) fun _ _ _ _ _ _ us hl=>match us,hl with | [_,_],_=>rfl
 have F21:=zat (st:=zaD) l21 c21 k21
 have m21:=PySem.W.mg_of X G a21
 have b21_0:=F21.binds (ps:=["_law_script","_law_at","_law_some","_law_word_here"]) fun _ _ _ _ _ _ us hl=>match us,hl with | [_,_,_,_],_=>rfl
 have F22:=zat (st:=za3) l22 c22 k22
 have m22:=PySem.W.mg_of X G a22
 have b22_0:=F22.binds (ps:=["_law_hand","_law_turn","_law_due_here"]) fun _ _ _ _ _ _ us hl=>match us,hl with | [_,_,_],_=>rfl
 have F23:=zat (st:=zaS) l23 c23 k23
 have m23:=PySem.W.mg_of X G a23
 have b23_0:=F23.binds (ps:=["_law_notes","_law_extra"]) fun _ _ _ _ _ _ us hl=>match us,hl with | [_,_],_=>rfl
 have F24:=zat (st:=zb9) l24 c24 k24
 have m24:=PySem.W.mg_of X G a24
 have b24_0:=F24.binds (ps:=["_law_script"]) fun _ _ _ _ _ _ us hl=>match us,hl with | [_],_=>rfl
 have hb:∀x,tab.blt.contains x=true->mg x=none:=AllIn.get (l:=tab.blt) (And.intro (PySem.W.mg_none_of X G z_all) (And.intro (PySem.W.mg_none_of X G z_bool) (And.intro (PySem.W.mg_none_of X G z_int) (And.intro (PySem.W.mg_none_of X G z_isinstance) (And.intro (PySem.W.mg_none_of X G z_len) (And.intro (PySem.W.mg_none_of X G z_list) (And.intro (PySem.W.mg_none_of X G z_range) (And.intro (PySem.W.mg_none_of X G z_sorted) (And.intro (PySem.W.mg_none_of X G z_tuple) (And.intro (PySem.W.mg_none_of X G z_zip) trivial))))))))))
 have hc:∀x d,tab.cons.lookup x=some d->zj4 d=true/\∃u,mg x=some u/\RelV (sV d) u:=by
  intro x d hx
  have hm:=PySem.mem_of_lookup hx
  simp only[tab,List.mem_cons,List.not_mem_nil,or_false,Prod.mk.injEq] at hm
  rcases hm with ⟨rfl,rfl⟩|⟨rfl,rfl⟩
  · exact⟨rfl,_,PySem.W.mg_of X G q_STILL,⟨_,rfl⟩⟩
  · exact⟨rfl,_,PySem.W.mg_of X G q_LONGEST,⟨_,rfl⟩⟩
 have hd:∀base:Heap,BM mg base->∀fi x ps nd,tab.fns[fi]?=some (x,ps,nd)->DefOk K mg tab prog fi x ps nd\/PrimOk l.prog w K mg base prog fi x ps nd:=fun base bm fi x ps nd hf=>AllAt.get (P:=fun fi q=>DefOk K mg tab prog fi q.1 q.2.1 q.2.2\/PrimOk l.prog w K mg base prog fi q.1 q.2.1 q.2.2) (l:=tab.fns)
  (And.intro (.inl ⟨⟨c_is_whole,_,za5,_,_,_,_,rfl,rfl,F1,zf1,zgr,rfl,rfl,m1,(fun j hj=>(Nat.le_zero.mp hj).symm▸b1_0)⟩⟩) (And.intro (.inl ⟨⟨c_is_hand,_,zbg,_,_,_,_,rfl,rfl,F2,zhz,zhV,rfl,rfl,m2,(fun j hj=>(Nat.le_zero.mp hj).symm▸b2_0)⟩⟩) (And.intro (.inr ⟨⟨zgu,.tally,_,_,rfl,rfl,rfl,m3,k3,(fun j hj=>(Nat.le_zero.mp hj).symm▸b3_0),fun n hn=>zjR l3 c3 h3 zjQ bm (by decide +kernel) (fun p hp _=>by simp only[Mks.ts,mks,List.mem_cons,List.not_mem_nil,or_false] at hp;subst hp;decide +kernel) (PySem.W.mg_none_of X G z_sorted) rfl rfl rfl hn⟩⟩) (And.intro (.inl ⟨⟨c_most,_,zb8,_,_,_,_,rfl,rfl,F4,zmk,znt,rfl,rfl,m4,(fun j hj=>(Nat.le_zero.mp hj).symm▸b4_0)⟩⟩) (And.intro (.inl ⟨⟨c_paths,_,zbI,_,_,_,_,rfl,rfl,F5,zj5,zk2,rfl,rfl,m5,(fun j hj=>by
   replace hj:j<=1:=hj
   have:j=0\/j=1:=by omega
   rcases this with rfl|rfl
   · exact b5_0
   · exact b5_1)⟩⟩) (And.intro (.inl ⟨⟨c_lengthened,_,zaJ,_,_,_,_,rfl,rfl,F6,zew,zeU,rfl,rfl,m6,(fun j hj=>(Nat.le_zero.mp hj).symm▸b6_0)⟩⟩) (And.intro (.inl ⟨⟨c_grown,_,zbJ,_,_,_,_,rfl,rfl,F7,zj6,zk3,rfl,rfl,m7,(fun j hj=>(Nat.le_zero.mp hj).symm▸b7_0)⟩⟩) (And.intro (.inl ⟨⟨c_held_for,_,za6,_,_,_,_,rfl,rfl,F8,zf2,zgs,rfl,rfl,m8,(fun j hj=>(Nat.le_zero.mp hj).symm▸b8_0)⟩⟩) (And.intro (.inl ⟨⟨c_grown_below,_,zaF,_,_,_,_,rfl,rfl,F9,zdY,zd3,rfl,rfl,m9,(fun j hj=>(Nat.le_zero.mp hj).symm▸b9_0)⟩⟩) (And.intro (.inl ⟨⟨c_law_cell_at,_,zaE,_,_,_,_,rfl,rfl,F10,zdX,zd2,rfl,rfl,m10,(fun j hj=>(Nat.le_zero.mp hj).symm▸b10_0)⟩⟩) (And.intro (.inl ⟨⟨c_law_word,_,za2,_,_,_,_,rfl,rfl,F11,zfY,zgo,rfl,rfl,m11,(fun j hj=>(Nat.le_zero.mp hj).symm▸b11_0)⟩⟩) (And.intro (.inl ⟨⟨c_law_whole,_,zaM,_,_,_,_,rfl,rfl,F12,ze4,zfC,rfl,rfl,m12,(fun j hj=>(Nat.le_zero.mp hj).symm▸b12_0)⟩⟩) (And.intro (.inl ⟨⟨c_law_is_tuple,_,zaB,_,_,_,_,rfl,rfl,F13,zdm,zdR,rfl,rfl,m13,(fun j hj=>(Nat.le_zero.mp hj).symm▸b13_0)⟩⟩) (And.intro (.inl ⟨⟨c_law_most,_,za4,_,_,_,_,rfl,rfl,F14,zf0,zgq,rfl,rfl,m14,(fun j hj=>(Nat.le_zero.mp hj).symm▸b14_0)⟩⟩) (And.intro (.inl ⟨⟨c_law_holds,_,zaP,_,_,_,_,rfl,rfl,F15,ze7,zfF,rfl,rfl,m15,(fun j hj=>(Nat.le_zero.mp hj).symm▸b15_0)⟩⟩) (And.intro (.inl ⟨⟨c_law_paths,_,zaO,_,_,_,_,rfl,rfl,F16,ze6,zfE,rfl,rfl,m16,(fun j hj=>(Nat.le_zero.mp hj).symm▸b16_0)⟩⟩) (And.intro (.inl ⟨⟨c_law_due,_,zbf,_,_,_,_,rfl,rfl,F17,zhy,zhU,rfl,rfl,m17,(fun j hj=>(Nat.le_zero.mp hj).symm▸b17_0)⟩⟩) (And.intro (.inl ⟨⟨c_law_alike,_,zaR,_,_,_,_,rfl,rfl,F18,ze9,zfH,rfl,rfl,m18,(fun j hj=>(Nat.le_zero.mp hj).symm▸b18_0)⟩⟩) (And.intro (.inl ⟨⟨c_law_digit,_,zaQ,_,_,_,_,rfl,rfl,F19,ze8,zfG,rfl,rfl,m19,(fun j hj=>(Nat.le_zero.mp hj).symm▸b19_0)⟩⟩) (And.intro (.inl ⟨⟨c_law_small,_,zaN,_,_,_,_,rfl,rfl,F20,ze5,zfD,rfl,rfl,m20,(fun j hj=>(Nat.le_zero.mp hj).symm▸b20_0)⟩⟩) (And.intro (.inl ⟨⟨c_law_letters,_,zaD,_,_,_,_,rfl,rfl,F21,zdW,zd1,rfl,rfl,m21,(fun j hj=>(Nat.le_zero.mp hj).symm▸b21_0)⟩⟩) (And.intro (.inl ⟨⟨c_law_says,_,za3,_,_,_,_,rfl,rfl,F22,zfZ,zgp,rfl,rfl,m22,(fun j hj=>(Nat.le_zero.mp hj).symm▸b22_0)⟩⟩) (And.intro (.inl ⟨⟨c_law_again,_,zaS,_,_,_,_,rfl,rfl,F23,zfa,zfI,rfl,rfl,m23,(fun j hj=>(Nat.le_zero.mp hj).symm▸b23_0)⟩⟩) (And.intro (.inl ⟨⟨c_law,_,zb9,_,_,_,_,rfl,rfl,F24,zlm,zlE,rfl,rfl,m24,(fun j hj=>(Nat.le_zero.mp hj).symm▸b24_0)⟩⟩) trivial)))))))))))))))))))))))) fi _ hf
 refine⟨PySem.W.fnOf "law" "law" (zaq zb9) (zae zb9) (zac zb9) .none kV24 dc24 pm24 an24 cd24 ct24,fun s v=>.of_eq rfl,fun base _ _ bm=>?_⟩
 have Fm25:=zat (st:=zaw) lm25 cm25 km25
 have bm25:=Fm25.binds (ps:=["self","number","many","rounds","sender","word"]) fun _ _ _ _ _ _ us hl=>match us,hl with | [_,_,_,_,_,_],_=>rfl
 have Fm26:=zat (st:=zar) lm26 cm26 km26
 have bm26:=Fm26.binds (ps:=["self"]) fun _ _ _ _ _ _ us hl=>match us,hl with | [_],_=>rfl
 have Fm27:=zat (st:=zax) lm27 cm27 km27
 have bm27:=Fm27.binds (ps:=["self","turn","letters"]) fun _ _ _ _ _ _ us hl=>match us,hl with | [_,_,_],_=>rfl
 have Fm28:=zat (st:=zak) lm28 cm28 km28
 have bm28:=Fm28.binds (ps:=["self","path","word"]) fun _ _ _ _ _ _ us hl=>match us,hl with | [_,_,_],_=>rfl
 have Fm29:=zat (st:=zaC) lm29 cm29 km29
 have bm29:=Fm29.binds (ps:=["self","turn"]) fun _ _ _ _ _ _ us hl=>match us,hl with | [_,_],_=>rfl
 have Fm30:=zat (st:=zav) lm30 cm30 km30
 have bm30:=Fm30.binds (ps:=["self"]) fun _ _ _ _ _ _ us hl=>match us,hl with | [_],_=>rfl
 have Fm31:=zat (st:=zaT) lm31 cm31 km31
 have bm31:=Fm31.binds (ps:=["self","number","many","rounds"]) fun _ _ _ _ _ _ us hl=>match us,hl with | [_,_,_,_],_=>rfl
 have hk:ClsOk tab K mg prog:=by
  refine⟨?_,?_,?_,?_,Nat.le_refl _,?_⟩
  · intro c x hx
    match c,hx with
    | 0, hx =>
      cases hx
      refine⟨_,rfl,⟨pg0,hd0,po0,sa0⟩,PySem.W.mg_of X G aC0,AllIn.get (l:=tab.flds) (And.intro n0_number (And.intro n0_many (And.intro n0_rounds (And.intro n0_sender (And.intro n0_word (And.intro n0_notes trivial))))))⟩
    |n+1,hx=>simp[tab] at hx
  · exact fun c m fi hx=>AllIn.get (P:=fun q=>MOk K tab prog q.2.2 (ExM K q.1 q.2.1)) (l:=tab.mts)
     (And.intro (⟨⟨c_OralHand_ending,_,_,zar,_,_,_,_,_,rfl,rfl,Fm26,zcA,zcL,rfl,rfl,bm26,_,rfl,⟨pg0,hd0,po0,sa0⟩,⟨x0_ending,im26,km26⟩⟩⟩) (And.intro (⟨⟨c_OralHand_hear,_,_,zax,_,_,_,_,_,rfl,rfl,Fm27,zc8,zdd,rfl,rfl,bm27,_,rfl,⟨pg0,hd0,po0,sa0⟩,⟨x0_hear,im27,km27⟩⟩⟩) (And.intro (⟨⟨c_OralHand_letters_with,_,_,zak,_,_,_,_,_,rfl,rfl,Fm28,zbS,zbU,rfl,rfl,bm28,_,rfl,⟨pg0,hd0,po0,sa0⟩,⟨x0_letters_with,im28,km28⟩⟩⟩) (And.intro (⟨⟨c_OralHand_say,_,_,zaC,_,_,_,_,_,rfl,rfl,Fm29,zdn,zdS,rfl,rfl,bm29,_,rfl,⟨pg0,hd0,po0,sa0⟩,⟨x0_say,im29,km29⟩⟩⟩) (And.intro (⟨⟨c_OralHand_tree,_,_,zav,_,_,_,_,_,rfl,rfl,Fm30,zc6,zdb,rfl,rfl,bm30,_,rfl,⟨pg0,hd0,po0,sa0⟩,⟨x0_tree,im30,km30⟩⟩⟩) trivial))))) (c,m,fi) hx
  · intro c fi hx
    simp only[tab,List.contains_iff_mem,List.mem_cons,List.not_mem_nil,or_false,Prod.mk.injEq] at hx
    rcases hx with ⟨rfl,rfl⟩
    · exact⟨⟨c_OralHand_init,_,_,zaw,_,_,_,_,_,rfl,rfl,Fm25,zc7,zdc,rfl,rfl,bm25,_,rfl,⟨mkc0,x0_init,im25,kc0⟩⟩⟩
  · intro x m fi hx
    simp only[tab,List.contains_iff_mem,List.mem_cons,List.not_mem_nil,or_false,Prod.mk.injEq] at hx
    rcases hx with ⟨rfl,rfl,rfl⟩
    · exact⟨⟨c_Hand_init,_,_,zaT,_,_,_,_,_,rfl,rfl,Fm31,zfb,zfJ,rfl,rfl,bm31,_,_,PySem.W.mg_of X G ac_Hand,gc_Hand,rc_Hand,fc_Hand⟩⟩
  · intro x cs hx
    simp only[tab,List.contains_iff_mem,List.mem_cons,List.not_mem_nil,or_false,Prod.mk.injEq] at hx
    rcases hx with ⟨rfl,rfl⟩
    · refine⟨_,PySem.W.mg_of X G aI_Hand,fun c C hC=>?_⟩
      match c,hC with
      |0,hC=>cases hC;exact⟨⟨ja0,jn,jt,jm0⟩,kit0_Hand⟩
      |n+1,hC=>simp[Mks.cl,mks] at hC
 exact zjs (znR hb hc (hd base bm) hk 23) F24 rfl zlm zlE rfl rfl
end
end K31
open PySem PySem.W PyProof.Rows
set_option maxRecDepth 100000 in
set_option maxHeartbeats 0 in
theorem PySem.Challenge.cw_traitorround_k31_an_oral_hand_holds : PySem.Challenge.rw_traitorround_k31_an_oral_hand.Holds := by
 w_on;o_law;k_head;(case hw=>w_witness2)
 k_fill
 refine R.walk_ofT (l:=PySem.Challenge.rw_traitorround_k31_an_oral_hand) (n:=63) (k:=48) (x:="_law_script") (sp:=fun w=>R.spF _ (R.callF K31.prog 24) 23) rfl (by decide) rfl ⟨rfl,by decide,by decide⟩ (fun w h Y=>PySem.W.km_in_of Y) ?hT ?hK ?F (fun _ _ a ns hl hx tb=>R.law_spT hx tb (K31.law_true ns hl))
 case hT=>
  intro w h Y p hp
  simp only[R.Mks.ts,K31.mks,List.mem_cons,List.not_mem_nil,or_false] at hp
  subst hp
  exact PySem.W.km_tabs_of Y 30 (by simp)
 case hK=>
  intro w p hp
  simp only[R.Mks.ts,K31.mks,List.mem_cons,List.not_mem_nil,or_false] at hp
  subst hp
  exact⟨by with_unfolding_all rfl,34,by with_unfolding_all rfl⟩
 case F=>
  intro w mg fa h KX G hmg
  refine' K31.all_mk KX G hmg ?a1 ?l1 ?c1 ?k1 ?a2 ?l2 ?c2 ?k2 ?a3 ?l3 ?c3 ?k3 ?h3 ?a4 ?l4 ?c4 ?k4 ?a5 ?l5 ?c5 ?k5 ?e5 ?a6 ?l6 ?c6 ?k6 ?a7 ?l7 ?c7 ?k7 ?a8 ?l8 ?c8 ?k8 ?a9 ?l9 ?c9 ?k9 ?a10 ?l10 ?c10 ?k10 ?a11 ?l11 ?c11 ?k11 ?a12 ?l12 ?c12 ?k12 ?a13 ?l13 ?c13 ?k13 ?a14 ?l14 ?c14 ?k14 ?a15 ?l15 ?c15 ?k15 ?a16 ?l16 ?c16 ?k16 ?a17 ?l17 ?c17 ?k17 ?a18 ?l18 ?c18 ?k18 ?a19 ?l19 ?c19 ?k19 ?a20 ?l20 ?c20 ?k20 ?a21 ?l21 ?c21 ?k21 ?a22 ?l22 ?c22 ?k22 ?a23 ?l23 ?c23 ?k23 ?a24 ?l24 ?c24 ?k24 ?aC0 ?pg0 ?hd0 ?po0 ?sa0 ?mkc0 ?kc0 ?n0_number ?n0_many ?n0_rounds ?n0_sender ?n0_word ?n0_notes ?ja0 ?jm0 ?x0_init ?x0_ending ?x0_hear ?x0_letters_with ?x0_say ?x0_tree ?jn ?jt ?aI_Hand ?kit0_Hand ?ac_Hand ?gc_Hand ?rc_Hand ?fc_Hand ?lm25 ?cm25 ?km25 ?im25 ?lm26 ?cm26 ?km26 ?im26 ?lm27 ?cm27 ?km27 ?im27 ?lm28 ?cm28 ?km28 ?im28 ?lm29 ?cm29 ?km29 ?im29 ?lm30 ?cm30 ?km30 ?im30 ?lm31 ?cm31 ?km31 ?im31 ?z_all ?z_bool ?z_int ?z_isinstance ?z_len ?z_list ?z_range ?z_sorted ?z_tuple ?z_zip ?q_STILL ?q_LONGEST
  (case a1=>k_is)
  (case l1=>k_is)
  (case c1=>k_is)
  (case k1=>k_is)
  (case a2=>k_is)
  (case l2=>k_is)
  (case c2=>k_is)
  (case k2=>k_is)
  (case a3=>k_is)
  (case l3=>k_is)
  (case c3=>k_is)
  (case k3=>k_is)
  (case h3=>with_unfolding_all rfl)
  (case a4=>k_is)
  (case l4=>k_is)
  (case c4=>k_is)
  (case k4=>k_is)
  (case a5=>k_is)
  (case l5=>k_is)
  (case c5=>k_is)
  (case k5=>k_is)
  (case e5=>k_is)
  (case a6=>k_is)
  (case l6=>k_is)
  (case c6=>k_is)
  (case k6=>k_is)
  (case a7=>k_is)
  (case l7=>k_is)
  (case c7=>k_is)
  (case k7=>k_is)
  (case a8=>k_is)
  (case l8=>k_is)
  (case c8=>k_is)
  (case k8=>k_is)
  (case a9=>k_is)
  (case l9=>k_is)
  (case c9=>k_is)
  (case k9=>k_is)
  (case a10=>k_is)
  (case l10=>k_is)
  (case c10=>k_is)
  (case k10=>k_is)
  (case a11=>k_is)
  (case l11=>k_is)
  (case c11=>k_is)
  (case k11=>k_is)
  (case a12=>k_is)
  (case l12=>k_is)
  (case c12=>k_is)
  (case k12=>k_is)
  (case a13=>k_is)
  (case l13=>k_is)
  (case c13=>k_is)
  (case k13=>k_is)
  (case a14=>k_is)
  (case l14=>k_is)
  (case c14=>k_is)
  (case k14=>k_is)
  (case a15=>k_is)
  (case l15=>k_is)
  (case c15=>k_is)
  (case k15=>k_is)
  (case a16=>k_is)
  (case l16=>k_is)
  (case c16=>k_is)
  (case k16=>k_is)
  (case a17=>k_is)
  (case l17=>k_is)
  (case c17=>k_is)
  (case k17=>k_is)
  (case a18=>k_is)
  (case l18=>k_is)
  (case c18=>k_is)
  (case k18=>k_is)
  (case a19=>k_is)
  (case l19=>k_is)
  (case c19=>k_is)
  (case k19=>k_is)
  (case a20=>k_is)
  (case l20=>k_is)
  (case c20=>k_is)
  (case k20=>k_is)
  (case a21=>k_is)
  (case l21=>k_is)
  (case c21=>k_is)
  (case k21=>k_is)
  (case a22=>k_is)
  (case l22=>k_is)
  (case c22=>k_is)
  (case k22=>k_is)
  (case a23=>k_is)
  (case l23=>k_is)
  (case c23=>k_is)
  (case k23=>k_is)
  (case a24=>k_is)
  (case l24=>k_is)
  (case c24=>k_is)
  (case k24=>k_is)
  (case aC0=>k_is)
  (case pg0=>k_is)
  (case hd0=>k_is)
  (case po0=>k_is)
  (case sa0=>k_is)
  (case mkc0=>k_is)
  (case kc0=>k_is)
  (case n0_number=>k_is)
  (case n0_many=>k_is)
  (case n0_rounds=>k_is)
  (case n0_sender=>k_is)
  (case n0_word=>k_is)
  (case n0_notes=>k_is)
  (case ja0=>k_is)
  (case jm0=>k_is)
  (case x0_init=>k_is)
  (case x0_ending=>k_is)
  (case x0_hear=>k_is)
  (case x0_letters_with=>k_is)
  (case x0_say=>k_is)
  (case x0_tree=>k_is)
  (case jn=>k_is)
  (case jt=>k_is)
  (case aI_Hand=>k_is)
  (case kit0_Hand=>with_unfolding_all rfl)
  (case ac_Hand=>k_is)
  (case gc_Hand=>k_is)
  (case rc_Hand=>k_is)
  (case fc_Hand=>k_is)
  (case lm25=>k_is)
  (case cm25=>k_is)
  (case km25=>k_is)
  (case im25=>k_is)
  (case lm26=>k_is)
  (case cm26=>k_is)
  (case km26=>k_is)
  (case im26=>k_is)
  (case lm27=>k_is)
  (case cm27=>k_is)
  (case km27=>k_is)
  (case im27=>k_is)
  (case lm28=>k_is)
  (case cm28=>k_is)
  (case km28=>k_is)
  (case im28=>k_is)
  (case lm29=>k_is)
  (case cm29=>k_is)
  (case km29=>k_is)
  (case im29=>k_is)
  (case lm30=>k_is)
  (case cm30=>k_is)
  (case km30=>k_is)
  (case im30=>k_is)
  (case lm31=>k_is)
  (case cm31=>k_is)
  (case km31=>k_is)
  (case im31=>k_is)
  (case z_all=>k_is)
  (case z_bool=>k_is)
  (case z_int=>k_is)
  (case z_isinstance=>k_is)
  (case z_len=>k_is)
  (case z_list=>k_is)
  (case z_range=>k_is)
  (case z_sorted=>k_is)
  (case z_tuple=>k_is)
  (case z_zip=>k_is)
  (case q_STILL=>k_is)
  (case q_LONGEST=>k_is)
end
