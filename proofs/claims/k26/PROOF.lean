import PyProof.Rows.All
import Wide.All
import OpenK.AllK
import Wide.FinOn
import Lean
import PyProof.EqAt
import PyProof.EqKinds
import PyProof.TupleCall
import PyProof.P3Statements
import PyProof.Dict
import PySem.Syntax
import PySem.Challenge.RW_traitorround_k26_a_town_played
set_option Elab.async false
set_option linter.all false
set_option maxHeartbeats 4000000
set_option maxRecDepth 100000
set_option bootstrap.genMatcherCode false
open PySem.W (Frag KatTups Looks callWith_K callWith_K0 cellsFrom_some codeHdIn codeIn emptyDict findCls findIn fnOf handedIn hasDictIn instObj isFn kat_cons kat_no kat_one keepIn kia_one kitOne kitx_dict kitx_list kla_fn kla_obj lookIn makesIn methodObj mg_of mroIn nsIn plainGet plainGet_of plainOver readsIn specialIn tabObj takerIn takesIn)
open Bool (and_eq_true not_eq_true' or_eq_true)
open Nat (le_of_lt le_refl le_succ le_trans lt_irrefl lt_of_lt_of_le lt_trans ne_of_gt ne_of_lt zero_add zero_le)
open List (Pairwise all_cons all_eq_true any_cons append_assoc append_nil flatten_cons getElem?_append_left getElem?_append_right getElem?_eq_getElem getElem?_map getElem?_set_ne getElem?_set_self isEmpty_iff length_append length_cons length_filter_le length_map length_mapIdx length_nil length_replicate length_take lookup_cons mapM_cons map_append map_cons map_map map_nil mem_append mem_append_left mem_append_right mem_cons mem_cons_of_mem mem_cons_self mem_filter mem_iff_getElem? mem_map mem_of_getElem? mem_range mem_singleton nodup_append nodup_cons not_mem_nil of_mem_zip pairwise_cons pairwise_map prefix_append prefix_refl size_toArray)
open Option (bind_some)
open Int (emod_nonneg)
open Array (length_toList)
namespace PySem.W.Fast
def tw9892177351067426468:=0
def tw9945175662528325018:=0
def tw3195995944613098394:=0
def tw2420732544822009680:=0
def tw5578941604378442212:=0
def tw6016851065746656556:=0
def tw6248167796437006759:=0
def tw15649380360655008342:=0
def tw16544018172725411901:=0
def tw6216142137782544847:=0
def tw12439460432224767476:=0
def tw12795968008222111062:=0
def tw12987141116004661250:=0
def tw10939138894666729728:=0
def tw48896598227581847:=0
def tw5358907050442287507:=0
def tw15121781334730775309:=0
def tw8138141496036806670:=0
def tw9848381914095251504:=0
def tw10944571537249093705:=0
def tw16221366360972870170:=0
def tw17542432774236421833:=0
def tw15556829831078958316:=0
def tw17410525117206727089:=0
def tw13023776065191066260:=0
def tw18152191758817011767:=0
def tw669523930787377215:=0
def tw16371725339172383210:=0
def tw5244109835542119511:=0
def tw9386276313586691135:=0
def tw7650801998838889123:=0
def tw8824240447484511791:=0
def tw9506359167568157768:=0
def tw11724610708412816946:=0
def tw10863591679868102254:=0
def tw4546919476727485967:=0
def tw17576373635346031866:=0
def tw10884917500271665080:=0
def tw8754491246651834511:=0
def tw10895344017070358457:=0
def tw8174981903169491458:=0
def tw16489091476690570317:=0
def tw10870338138274757533:=0
def tw11363835015347479676:=0
def tw18173452644001701689:=0
def tw9356369446187723586:=0
def tw16561739283669328262:=0
def tw2862541669891119924:=0
def tw8149593771848443076:=0
def tw4839779867030643464:=0
def tw4030706178148870293:=0
def tw4975684635765240361:=0
def tw17223204397966290180:=0
def tw288303672370885002:=0
def tw15279620166198002569:=0
def tw3969323244296560680:=0
def tw16835514133364151296:=0
def tw5765443523189087367:=0
def tw12501826849099370417:=0
def tw13123465061384268865:=0
def tw17783195811638508436:=0
def tw14950314584309913817:=0
def tw4856054051580675975:=0
def tw17197313204417165897:=0
def tw8454960556189019688:=0
def tw1231631172314558390:=0
def tw1533269991102703567:=0
def tw563565980981362818:=0
def tw15843394002674809255:=0
def tw16756825129766186070:=0
def tw15093847578451775258:=0
def tw7386927148850294921:=0
def tw12913181599993341618:=0
def tw1004132681784910251:=0
def tw249409910826966265:=0
def tw15404058161437680908:=0
def tw10694965998491762351:=0
def tw2525676098317209205:=0
def tw15671028470252882574:=0
def tw2324594348685207970:=0
def tw18406695680533879289:=0
def tw10884389647411831082:=0
def tw257616828753551877:=0
def tw13298768170450969307:=0
def tw2049769524235538455:=0
def tw2139553473554995624:=0
def tw10659513956028690020:=0
def tw18043499371618133198:=0
def tw17306200109601499460:=0
def tw5095904302016038659:=0
def tw7212455499174600168:=0
def tw4278285072264523550:=0
def tw2196810850125768888:=0
def tw2643346637889204222:=0
def tw8933285249328337887:=0
def tw7122992741940434982:=0
def tw3546349637278737223:=0
def tw4484088781831919879:=0
def tw14102837969330566050:=0
def tw10924849891893779242:=0
def tw8070618004140301733:=0
def tw17421422831105939658:=0
def tw17536211728526585943:=0
def tw4399304001531525260:=0
def tw18342252770550775114:=0
def tw6281101027699555267:=0
def tw13617857227696954485:=0
def tw10459213670620653854:=0
def tw1430555222741614517:=0
def tw14390353643455602616:=0
def tw5101118253654358108:=0
def tw15520374881952800428:=0
def tw7228583144712415332:=0
def tw7483057634831992423:=0
def tw255031628408444932:=0
def tw7794592795540492771:=0
def tw2430879260164046656:=0
def tw16505613715210718109:=0
def tw15396226865879745955:=0
def tw823843882353932407:=0
def tw7839269457971089706:=0
def tw11651808880654171197:=0
def tw12682963445635189904:=0
def tw11176150348950712521:=0
def tw9663753884448375128:=0
def tw2373306482441824347:=0
def tw4079742995991615693:=0
def tw8984064262929001642:=0
def tw12077239784605678770:=0
def tw16706517891303499286:=0
def tw3696852668099021719:=0
def tw2882452448198532064:=0
def tw3007668540619246273:=0
def tw9587064583679621876:=0
def tw5149132296311095597:=0
def tw15675948142740050938:=0
def tw428470078714309749:=0
def tw17310570285347781879:=0
def tw7262206328378388419:=0
def tw10178327130050026907:=0
def tw11713870234884732870:=0
def tw185815892703140750:=0
def tw5538017620509738412:=0
def tw9547473259712321699:=0
def tw6241896186229922099:=0
def tw14712681311402491389:=0
def tw17192768682811646322:=0
def tw16751121618107436049:=0
def tw2838805975018827336:=0
def tw2301858885924381965:=0
def tw4958721129138259052:=0
def tw414613491215969262:=0
def tw39998731507099111:=0
def tw6908098442224455713:=0
def tw7629196556107042964:=0
def tw12880920904850703889:=0
def tw10351642507774241740:=0
def tw17753478630678861190:=0
def tw2182247483248241409:=0
def tw2745422695585284738:=0
def tw11891301982037205465:=0
def tw4435986640917742591:=0
def tw8617885526850991654:=0
def tw13563912896367610476:=0
def tw5092800935002907833:=0
def tw7407441855397631107:=0
def tw6417066484537317764:=0
def tw7538596929673262720:=0
def tw17051866562730228679:=0
def tw14211702017792007727:=0
def tw18192340079904312641:=0
def tw3488392069217460437:=0
def tw11802260280426691805:=0
def tw13032185356862554950:=0
def tw12000205280951565363:=0
def tw16395242584296879433:=0
def tw15038203103336561010:=0
def tw1136568202786916186:=0
def tw7464301040988263208:=0
def tw18007530351226199985:=0
def tw13256294159498575570:=0
def tw2788275131876664822:=0
def tw3127056026676148132:=0
def tw7727784256468745583:=0
def tw11536765327717220537:=0
def tw6703372880867507490:=0
def tw1124267404167114584:=0
def tw14148055866821288917:=0
def tw8769872130361502975:=0
end PySem.W.Fast
namespace L2
theorem ex5{α β:Type}{A B C:α->β->Prop}{P:Prop}(f:∀a b,A a b->B a b->C a b->P):(∃a b,A a b/\B a b/\C a b)->P:=fun⟨a,b,h1,h2,h3⟩=>f a b h1 h2 h3
open PySem PySem.Spec PyProof.Rows
abbrev Key:=Sum Int Str
noncomputable def zfu:Key->Value->Bool
 |.inl k,v=>Value.isInt k v|.inr x,v=>Value.isStrOf x v
noncomputable def keyH(w:World):Key->Int
 |.inl k=>hashInt k|.inr x=>hashStr w x
theorem zat:∀{k:Key}{v:Value},zfu k v=true->(∃i t,k=Sum.inl i/\v=Value.int i t)\/(∃x t,k=Sum.inr x/\v=Value.str x t)
 |.inl i,v,h=>by obtain⟨t,e⟩:=Value.isInt_shape (k:=i) (v:=v) h;exact .inl ⟨i,t,rfl,e⟩| .inr x,v,h=>by obtain⟨t,e⟩:=Value.isStrOf_shape (x:=x) (v:=v) h;exact .inr ⟨x,t,rfl,e⟩
theorem zhZ(i:Int)(t:Tok):zfu (.inl i) (.int i t)=true:=by simp[zfu,Value.isInt]
theorem zhY(x:Str)(t:Tok):zfu (.inr x) (.str x t)=true:=by simp[zfu,Value.isStrOf]
theorem zon(a b:Int):decide ((Sum.inl a:Key)=Sum.inl b)=(a==b):=by by_cases e:a=b;subst e;simp;have h:¬(Sum.inl a:Key)=Sum.inl b:=fun q=>e (Sum.inl.inj q);rw[decide_eq_false h];exact(beq_eq_false_iff_ne.mpr e).symm
theorem zok(a b:Str):decide ((Sum.inr a:Key)=Sum.inr b)=decide (a=b):=by by_cases e:a=b;subst e;simp;have h:¬(Sum.inr a:Key)=Sum.inr b:=fun q=>e (Sum.inr.inj q);rw[decide_eq_false h,decide_eq_false e]
theorem zom(a:Int)(b:Str):decide ((Sum.inl a:Key)=Sum.inr b)=false:=decide_eq_false (fun q=>nomatch q)
theorem zol(a:Str)(b:Int):decide ((Sum.inr a:Key)=Sum.inl b)=false:=decide_eq_false (fun q=>nomatch q)
noncomputable def zao(prog:Program)(w:World):PySem.KeyKind prog w Key where
 is:=zfu
 hash:=keyH w
 inj:=fun v a b ha hb=>by rcases zat ha with⟨i,t,rfl,rfl⟩|⟨x,t,rfl,rfl⟩;rcases zat hb with⟨j,u,rfl,e⟩|⟨y,u,rfl,e⟩;injection e with e1 _;rw[e1];exact nomatch e;rcases zat hb with⟨j,u,rfl,e⟩|⟨y,u,rfl,e⟩;exact nomatch e;injection e with e1 _;rw[e1]
 byValue:=fun k v h=>by rcases zat h with⟨i,t,rfl,rfl⟩|⟨x,t,rfl,rfl⟩<;>rfl
 pyHash:=fun hv h=>by rcases zat hv with⟨i,t,rfl,rfl⟩|⟨x,t,rfl,rfl⟩;exact wpAny_pyHash_int h;exact wpAny_pyHash_str h
 eqBool:=fun hu hv h=>by rcases zat hu with⟨i,t,rfl,rfl⟩|⟨x,t,rfl,rfl⟩;rcases zat hv with⟨j,u,rfl,rfl⟩|⟨y,u,rfl,rfl⟩;rw[zon]at h;exact wpAny_eqBool_int h;rw[zom]at h;exact SeqAt.EqAt.int_str i t y u _ _ _ _ h;rcases zat hv with⟨j,u,rfl,rfl⟩|⟨y,u,rfl,rfl⟩;rw[zol]at h;exact SeqAt.EqAt.str_int x t j u _ _ _ _ h;rw[zok]at h;exact wpAny_eqBool_str h
 «strs»:=fun k x t v h=>by
  rcases zat h with⟨i,u,rfl,e⟩|⟨y,u,rfl,e⟩;exact nomatch e
  . injection e with e1 _;subst e1;cases v<;>rfl
theorem zfs(prog:Program)(w:World)(i:Int)(t:Tok):(zao prog w).is (.inl i) (.int i t)=true:=zhZ i t
theorem zfr(prog:Program)(w:World)(x:Str)(t:Tok):(zao prog w).is (.inr x) (.str x t)=true:=zhY x t
inductive V where
 |non|bl (b:Bool)|int (i:Int)|str (x:Str)|byt (b:Array UInt8)|flt (b:UInt64)|ref (a:Addr)|ty (n:String)
 deriving DecidableEq
def RelV:V->Value->Prop
 |.non,u=>u=Value.none|.bl b,u=>u=Value.bool b|.int i,u=>∃t,u=Value.int i t|.str x,u=>∃t,u=Value.str x t|.byt b,u=>∃t,u=Value.bytes b t|.flt b,u=>∃t,u=Value.float b t|.ref a,u=>u=Value.ref a|.ty n,u=>u=Value.type n
abbrev Vals:List V->List Value->Prop:=Paired RelV
theorem Vals.length{xs:List V}{us:List Value}(r:Vals xs us):xs.length=us.length:=Paired.length r
theorem Vals.get:∀{xs:List V}{us:List Value}{i:Nat}{x:V},Vals xs us->xs[i]?=some x->∃u,us[i]?=some u/\RelV x u
 |_,_,_,_,.nil,e=>by simp at e|_,_,0,_,.cons r _,e=>by simp at e;subst e;exact⟨_,rfl,r⟩| _,_,i+1,x,.cons _ t,e=>by obtain⟨u,h1,h2⟩:=Vals.get (i:=i) (x:=x) t (by simpa using e);exact⟨u,by simpa using h1,h2⟩
theorem Vals.set{x:V}{u:Value}(r:RelV x u):∀{xs:List V}{us:List Value}(i:Nat),Vals xs us->Vals (xs.set i x) (us.set i u)
 |_,_,_,.nil=>.nil|_,_,0,.cons _ t=>.cons r t|_,_,i+1,.cons q t=>.cons q (Vals.set r i t)
theorem Vals.append:∀{xs ys:List V}{us ws:List Value},Vals xs us->Vals ys ws->Vals (xs++ys) (us++ws)
 |_,_,_,_,.nil,s=>s|_,_,_,_,.cons r t,s=>.cons r (Vals.append t s)
theorem Vals.take:∀{xs:List V}{us:List Value}(n:Nat),Vals xs us->Vals (xs.take n) (us.take n)
 |_,_,0,_=>.nil|_,_,_+1,.nil=>.nil|_,_,n+1,.cons r t=>.cons r (Vals.take n t)
theorem Vals.drop:∀{xs:List V}{us:List Value}(n:Nat),Vals xs us->Vals (xs.drop n) (us.drop n)
 |_,_,0,r=>r|_,_,_+1,.nil=>.nil|_,_,n+1,.cons _ t=>Vals.drop n t
def RelO:Option V->Option Value->Prop
 |some v,some u=>RelV v u|none,none=>True|_,_=>False
def KV{κ:Type}:List (κ×V)->List (κ×Value)->Prop:=Paired fun(p:κ×V) (q:κ×Value)=>p.1=q.1/\RelV p.2 q.2
noncomputable def kV:Key->V
 |.inl i=>.int i|.inr x=>.str x
inductive HO where
 |lst (xs:List V)
 |tup (xs:List V)
 |dK (kvs:List (Key×V))|dT (kvs:List (List Key×V))
 |set (S:Int->Bool) (n:Nat)
 |ins (C dx:Addr) (fs:List (Str×V))
 |own (x:Addr)
 |xd (fs:List (Str×V))
 |met (f x:Addr)
 |rng (lo hi:Int)
 |frz (o:Obj) (u:HO)
 |tbl (ps:Array Value)
 |ext (φ:Heap->Prop)
abbrev Hp:=Addr->Option HO
noncomputable def upd(H:Hp)(a:Addr)(o:HO):Hp:=fun b=>if b=a then some o else H b
theorem zag{H:Hp}{a:Addr}{o:HO}:upd H a o a=some o:=by unfold upd;rw[if_pos rfl]
theorem zaf{H:Hp}{a b:Addr}{o:HO}(h:b≠a):upd H a o b=H b:=by unfold upd;rw[if_neg h]
theorem ne_of{H:Hp}{a b:Addr}{o u:HO}(h:H a=some o)(h':H b=some u)(d:o≠u):a≠b:=by intro e;subst e;rw[h]at h';exact d (Option.some.inj h')
theorem zaj{H:Hp}{a b:Addr}{o:HO}(h:H a=some o)(h':H b=none):a≠b:=by intro e;subst e;rw[h]at h';cases h'
section
variable(P:Program)(w:World)
def ObjOk(H:Hp)(h:Heap)(a:Addr):HO->Prop
 |.lst xs=>xs.length<=sizeLine/\∃(its:List Value) (n:Nat),Vals xs its/\h.get? a=some {cls:=.type "list",data:=.seq its.toArray n}|.tup xs=>xs.length<=sizeLine/\∃its:List Value,Vals xs its/\IsTup h a its.toArray|.dK kvs=>kvs.length<=sizeLine/\(a==sysModules)=false/\∃vs,KV kvs vs/\h.DictOf (zao P w) a vs
 |.dT kvs=>kvs.length<=sizeLine/\(a==sysModules)=false/\∃xs:List (List Key×Addr×Value),
  Paired (fun(p:List Key×V) (q:List Key×Addr×Value)=>p.1=q.1/\H q.2.1=some (.tup (p.1.map kV))/\RelV p.2 q.2.2) kvs xs/\
  ∃o es ep,h.get? a=some o/\o.ExactDict/\o.data=.dict es ep/\es.toList=xs.map (entryOfKey (tupleKind (zao P w)))/\(xs.map (·.1)).Nodup
 |.set S n=>h.SetOf (intKind P w) a S n
 |.ins C dx fs=>H dx=some (.own a)/\fs.length<=1000/\dx≠a/\h.get? a=some (instObj C dx)/\
  ∃mA,h.Ns1 dx mA/\(∀f,RelO (fs.lookup f) (mA f))/\PySem.Within mA (fs.map (·.1))
 |.own _=>∃o,h.get? a=some o|.xd fs=>∃mA,h.Ns1 a mA/\∀f,RelO (fs.lookup f) (mA f)|.rng lo hi=>∃t u v,h.get? a=some {cls:=.type "range",data:=.fields #[.int lo t,.int hi u,.int 1 v]}|.frz o u=>h.get? a=some o/\ObjOk H h a u|.tbl ps=>h.get? a=some {cls:=.none,data:=.fields ps}|.met f x=>h.get? a=some (methodObj (.ref f) (.ref x))|.ext φ=>φ h/\(∃o,h.get? a=some o)/\∀h1 h2:Heap,φ h1->(∀o,h1.get? a=some o->h2.get? a=some o)->φ h2
def HOk(H:Hp)(h:Heap):Prop:=∀a o,H a=some o->ObjOk P w H h a o
end
section
variable{P:Program}{w:World}{H H':Hp}{h h':Heap}{a:Addr}{o:HO}
theorem ObjOk.lt(x:ObjOk P w H h a o):a<h.objs.size:=by cases o with|lst xs=>obtain⟨_,_,_,_,e⟩:=x;exact Heap.lt_size e|tup xs=>obtain⟨_,_,_,p⟩:=x;exact p.lt|dK kvs=>obtain⟨_,_,_,_,o,_,_,e,_⟩:=x;exact Heap.lt_size e|dT kvs=>obtain⟨_,_,_,_,o,_,_,e,_⟩:=x;exact Heap.lt_size e|set S n=>obtain⟨o,_,_,_,e,_⟩:=x;exact Heap.lt_size e|ins C dx fs=>obtain⟨_,_,_,e,_⟩:=x;exact Heap.lt_size e|own y=>obtain⟨_,e⟩:=x;exact Heap.lt_size e|xd fs=>obtain⟨_,⟨_,_,_,e,_⟩,_⟩:=x;exact Heap.lt_size e|rng lo hi=>obtain⟨_,_,_,e⟩:=x;exact Heap.lt_size e|frz ob u=>obtain⟨e,_⟩:=x;exact Heap.lt_size e|tbl ps=>exact Heap.lt_size (show h.get? a=some _ from x)|met f y=>exact Heap.lt_size (show h.get? a=some _ from x)|ext φ=>obtain⟨_,⟨_,e⟩,_⟩:=x;exact Heap.lt_size e
theorem Paired.mapP{α β:Type}{F G:α->β->Prop}:∀{l₁:List α}{l₂:List β},Paired F l₁ l₂->(∀a b,F a b->G a b)->Paired G l₁ l₂
 |_,_,.nil,_=>.nil|_,_,.cons r t,f=>.cons (f _ _ r) (Paired.mapP t f)
theorem ObjOk.stay(x:ObjOk P w H h a o)(k:∀b u,(b=a\/H b=some (.own a))->h.get? b=some u->h'.get? b=some u)
  (ho:∀b,H b=some (.own a)->H' b=some (.own a)) (ht:∀b xs,H b=some (.tup xs)->H' b=some (.tup xs)):ObjOk P w H' h' a o:=by
 induction o with|lst xs=>obtain⟨z,its,n,r,e⟩:=x;exact⟨z,its,n,r,k _ _ (.inl rfl) e⟩|tup xs=>obtain⟨z,its,r,ob,e,c⟩:=x;exact⟨z,its,r,ob,k _ _ (.inl rfl) e,c⟩|dK kvs=>obtain⟨z,y,vs,r,ob,es,ep,e,c⟩:=x;exact⟨z,y,vs,r,ob,es,ep,k _ _ (.inl rfl) e,c⟩| dT kvs=>obtain⟨z,y,xs,r,ob,es,ep,e,c⟩:=x;exact⟨z,y,xs,Paired.mapP r fun p q z=>⟨z.1,ht _ _ z.2.1,z.2.2⟩,ob,es,ep,k _ _ (.inl rfl) e,c⟩|set S n=>obtain⟨ob,es,ep,t,e,c⟩:=x;exact⟨ob,es,ep,t,k _ _ (.inl rfl) e,c⟩| ins C dx fs=>obtain⟨d,z,ne,e,mA,⟨od,es,ep,e2,c⟩,r⟩:=x;exact⟨ho _ d,z,ne,k _ _ (.inl rfl) e,mA,⟨od,es,ep,k _ _ (.inr d) e2,c⟩,r⟩|own y=>obtain⟨ob,e⟩:=x;exact⟨ob,k _ _ (.inl rfl) e⟩|xd fs=>obtain⟨mA,⟨od,es,ep,e,c⟩,r⟩:=x;exact⟨mA,⟨od,es,ep,k _ _ (.inl rfl) e,c⟩,r⟩|rng lo hi=>obtain⟨t,u,v,e⟩:=x;exact⟨t,u,v,k _ _ (.inl rfl) e⟩|frz ob u ih=>obtain⟨e,q⟩:=x;exact⟨k _ _ (.inl rfl) e,ih q⟩| tbl ps=>have e:h.get? a=some {cls:=.none,data:=.fields ps}:=x;show h'.get? a=some {cls:=.none,data:=.fields ps};exact k a _ (.inl rfl) e| met f y=>have e:h.get? a=some (methodObj (.ref f) (.ref y)):=x;show h'.get? a=some (methodObj (.ref f) (.ref y));exact k a _ (.inl rfl) e|ext φ=>obtain⟨p,⟨o,e⟩,st⟩:=x;exact⟨st _ _ p fun o q=>k _ _ (.inl rfl) q,⟨o,k _ _ (.inl rfl) e⟩,st⟩
theorem HOk.lt(x:HOk P w H h)(e:H a=some o):a<h.objs.size:=(x a o e).lt
theorem HOk.fresh(x:HOk P w H h)(e:h.objs.size<=a):H a=none:=by cases q:H a with|none=>rfl|some u=>exact absurd (lt_of_lt_of_le (x.lt q) e) (lt_irrefl _)
theorem HOk.kept(x:HOk P w H h)(k:∀b u,h.get? b=some u->h'.get? b=some u):HOk P w H h':=fun a o e=>(x a o e).stay (fun b u _ q=>k b u q) (fun _ q=>q) fun _ _ q=>q
theorem HOk.laid(x:HOk P w H h)(k:∀b u,h.get? b=some u->h'.get? b=some u)(hp:h.objs.size<=a)(new:ObjOk P w (upd H a o) h' a o):HOk P w (upd H a o) h':=fun b u e=>by have hn:=x.fresh hp;by_cases hb:b=a;subst hb;rw[zag]at e;cases e;exact new;rw[zaf hb]at e;exact(x b u e).stay (fun c v _ q=>k c v q) (fun c q=>by rw[zaf (zaj q hn)];exact q) fun c xs q=>by rw[zaf (zaj q hn)];exact q
end
def Rd(H:Hp)(a:Addr)(u:HO):Prop:=H a=some u\/∃o,H a=some (.frz o u)
theorem Rd.of{H:Hp}{a:Addr}{u:HO}(h:H a=some u):Rd H a u:=.inl h
theorem Rd.ok{P:Program}{w:World}{H:Hp}{h:Heap}{a:Addr}{u:HO}(r:Rd H a u)(x:HOk P w H h):ObjOk P w H h a u:=by rcases r with r|⟨o,r⟩;exact x a u r;obtain⟨_,q⟩:=x a _ r;exact q
def Mut:Option HO->Prop
 |some (.lst _)=>True|some (.dK _)=>True|some (.dT _)=>True|some (.set _ _)=>True|some (.ins _ _ _)=>True|some (.ext _)=>True|_=>False
section
variable{P:Program}{w:World}{H:Hp}{h h':Heap}{x e:Addr}{o':HO}
theorem HOk.write(ok:HOk P w H h)(mu:Mut (H x))(he:e=x\/H e=some (.own x))(k:∀b u,b≠e->h.get? b=some u->h'.get? b=some u)(heo:∃u,h'.get? e=some u)
  (new:ObjOk P w (upd H x o') h' x o'):HOk P w (upd H x o') h':=fun b u q=>by
 have nown:∀c y,H c=some (.own y)->c≠x:=fun c y r z=>by subst z;rw[r]at mu;exact mu
 have ntup:∀c xs,H c=some (.tup xs)->c≠x:=fun c xs r z=>by subst z;rw[r]at mu;exact mu
 by_cases hb:b=x;subst hb;rw[zag]at q;cases q;exact new;rw[zaf hb]at q;by_cases hbe:b=e;have q':H b=some (.own x):=by rcases he with z|z;exact absurd (hbe.trans z) hb;rw[hbe];exact z
 rw[q]at q';cases q';obtain⟨v,hv⟩:=heo;exact⟨v,by rw[hbe];exact hv⟩;refine(ok b u q).stay (fun c v hc r=>k c v ?_ r) (fun c r=>by rw[zaf (nown c b r)];exact r) fun c xs r=>by rw[zaf (ntup c xs r)];exact r
 rcases hc with rfl|hc;exact hbe;rintro rfl;rcases he with z|z;exact nown c b hc z;rw[hc]at z;cases z;exact hb rfl
end
structure Un(fs ex:List Addr)(H H':Hp)(h h':Heap):Prop where
 keep:∀b o,h.get? b=some o->H b=none->b∉fs->b∉ex->h'.get? b=some o
 slot:∀b o,h.get? b=some o->H b=none->b∈fs->b∉ex->∃sl,h'.get? b=some {o with slots:=sl}
 free:∀b o,h.get? b=some o->H b=none->b∉ex->H' b=none
 there:∀b o,h.get? b=some o->b∉ex->∃o',h'.get? b=some o'
 tups:∀b xs,H b=some (.tup xs)->H' b=some (.tup xs)
 frzs:∀b o u,H b=some (.frz o u)->H' b=some (.frz o u)
 tbls:∀b ps,H b=some (.tbl ps)->∃more,H' b=some (.tbl (ps++more))
section
variable{fs fs' ex ex':List Addr}{H H1 H2:Hp}{h h1 h2 h':Heap}{a x e:Addr}{o:HO}
theorem Un.any(u:Un fs ex H H1 h h1){b:Addr}{ob:Obj}(q:h.get? b=some ob)(n:H b=none)(hx:b∉ex):∃sl,h1.get? b=some {ob with slots:=sl}:=by by_cases hb:b∈fs;exact u.slot b ob q n hb hx;exact⟨ob.slots,u.keep b ob q n hb hx⟩
theorem Un.kept(k:∀b u,h.get? b=some u->h'.get? b=some u):Un fs ex H H h h':=⟨fun b ob q _ _ _=>k b ob q,fun b ob q _ _ _=>⟨ob.slots,k b ob q⟩,fun _ _ _ n _=>n,fun b ob q _=>⟨ob,k b ob q⟩,fun _ _ q=>q,fun _ _ _ q=>q,fun _ ps q=>⟨#[],by rw[q];simp⟩⟩
theorem Un.refl:Un fs ex H H h h:=Un.kept fun _ _ q=>q
theorem Un.laid(k:∀b u,h.get? b=some u->h'.get? b=some u)(hp:h.objs.size<=a)(hn:H a=none):Un fs ex H (upd H a o) h h' where
 keep:=fun b u q _ _ _=>k b u q
 slot:=fun b u q _ _ _=>⟨u.slots,k b u q⟩
 free:=fun b u q n _=>by rw[zaf (ne_of_lt (lt_of_lt_of_le (Heap.lt_size q) hp))];exact n
 there:=fun b u q _=>⟨u,k b u q⟩
 tups:=fun b xs q=>by rw[zaf (zaj q hn)];exact q
 frzs:=fun b u xs q=>by rw[zaf (zaj q hn)];exact q
 tbls:=fun b ps q=>⟨#[],by rw[zaf (zaj q hn),q];simp⟩
theorem Un.write(mu:Mut (H x))(he:e=x\/H e=some (.own x))(k:∀b u,b≠e->h.get? b=some u->h'.get? b=some u)(heo:∃u,h'.get? e=some u):Un fs ex H (upd H x o) h h':=by
 have hx:∀b,H b=none->b≠x:=fun b n z=>by subst z;rw[n]at mu;exact mu
 have hb:∀b,H b=none->b≠e:=fun b n z=>by subst z;rcases he with r|r;exact hx b n r;rw[n]at r;cases r
 have hm:∀b u,H b=some u->¬Mut (some u)->b≠x:=fun b u q nm z=>by subst z;rw[q]at mu;exact nm mu
 refine⟨fun b u q n _ _=>k b u (hb b n) q,fun b u q n _ _=>⟨u.slots,k b u (hb b n) q⟩,fun b u q n _=>by rw[zaf (hx b n)];exact n,fun b u q _=>?_,
  fun b xs q=>by rw[zaf (hm b _ q fun z=>z)];exact q,fun b u xs q=>by rw[zaf (hm b _ q fun z=>z)];exact q,fun b ps q=>⟨#[],by rw[zaf (hm b _ q fun z=>z),q];simp⟩⟩
 by_cases hbe:b=e;subst hbe;exact heo;exact⟨u,k b u hbe q⟩
end
noncomputable def trk(h:Heap)(H:Hp):List Addr:=(List.range h.objs.size).filter fun a=>(H a).isSome
noncomputable def hidT(h:Heap)(H:Hp):Heap:=PySem.W.hideAll h (trk h H)
theorem zig(h:Heap)(H:Hp):(hidT h H).objs.size=h.objs.size:=PySem.W.hideAll_size _ _
theorem zj4{h:Heap}{H:Hp}{b:Addr}{o:Obj}(e:h.get? b=some o)(n:H b=none):(hidT h H).get? b=some o:=PySem.W.hideAll_get _ e fun hm=>by have q:(H b).isSome=true:=(mem_filter.mp hm).2;rw[n]at q;simp at q
theorem zl4{h:Heap}{H:Hp}{b:Addr}{o:Obj}(e:(hidT h H).get? b=some o):h.get? b=some o/\H b=none:=by have e':h.get? b=some o:=PySem.W.of_hideAll (trk h H) e;refine⟨e',?_⟩;cases q:H b with|none=>rfl| some x=>have hm:b∈trk h H:=mem_filter.mpr ⟨mem_range.mpr (Heap.lt_size e'),by simp[q]⟩;have z:(hidT h H).get? b=none:=PySem.W.hideAll_none (trk h H) hm;rw[z]at e;cases e
structure Mod(K:Frag)(mg:Str->Option Value)(base:Heap):Prop where
 kin:K.In base
 glob:base.Ns mainGlobals mg
 blt:∃mb,base.Ns builtinsNs mb/\∀x:Str,x≠"__name__"->mb x=bootBuiltins x
 nolimit:base.NoLimit
structure Cx where
 prog:Program
 w:World
 K:Frag
 mg:Str->Option Value
 base:Heap
 A:Around
 N:List Str
 s₀:Shared
 H₀:Hp
 env:Env
 outer:List Env
 stack:List Env
 ex:List Addr
 fn:Str->Bool
 calm:Bool
 pn:List (Addr×Obj)
 xe:Value->Shared->Prop
noncomputable def frs(l:List Env):List Addr:=l.filterMap (·.frame)
noncomputable abbrev Cx.fs(X:Cx):List Addr:=frs X.outer
def Vis(sc:Scope)(x:Str):Prop:=sc.names.lookup x=some .local\/sc.names.lookup x=some .cell\/sc.names.lookup x=some .free
def Loc(sc:Scope)(x:Str):Prop:=sc.names.lookup x=some .local\/sc.names.lookup x=some .cell
def Look(env:Env)(h:Heap)(m:Str->Option Value)(x:Str)(u:Value):Prop:=(env.kindOf x=some .local/\m x=some u)\/((env.kindOf x=some .cell\/env.kindOf x=some .free)/\∃c,env.cells.lookup x=some c/\h.IsCell c (some u))
structure Cx.Ok(X:Cx):Prop where
 mod:Mod X.K X.mg X.base
 kind:X.env.scope.kind=.function
 glob:X.env.globals=mainGlobals
 blt:X.env.builtins=builtinsNs
 above:X.s₀.heap.objs.size<=X.env.locals
 inj:∀x y c,X.env.cells.lookup x=some c->X.env.cells.lookup y=some c->x=y
 has:∀x,(X.env.kindOf x=some .cell\/X.env.kindOf x=some .free)->∃c,X.env.cells.lookup x=some c
 cab:∀x c,X.fn x=true->X.env.cells.lookup x=some c->X.s₀.heap.objs.size<=c
 hd:X.calm=true->X.A.handled=none
 frames:X.A.frames=some X.stack
 stk:X.stack=X.outer\/(X.stack=X.env::X.outer/\X.env.frame=some X.env.locals)
 exf:∀b∈X.ex,b≠X.env.locals/\∀x c,X.env.cells.lookup x=some c->c≠b
 bs:∀b o,X.base.get? b=some o->X.s₀.heap.get? b=some o/\X.H₀ b=none
 bsz:X.base.objs.size<=X.s₀.heap.objs.size
 noex:∀b o,X.base.get? b=some o->b∉X.ex
 exfs:∀b∈X.ex,b∉X.fs
 funs:X.s₀.heap.FunFrames X.base X.outer
 frf:∀b∈X.fs,X.H₀ b=none
structure Inv(X:Cx)(pins:List (Addr×Obj))(σ:List (Option V))(H:Hp)(s:Shared):Prop where
 ok:X.Ok
 os:s.os=X.s₀.os
 bare:AllBare s.gens
 base:Un X.fs X.ex X.H₀ H X.s₀.heap s.heap
 loc:∃m,s.heap.Ns X.env.locals m/\∀(i:Nat)(x:Str)(v:V),X.N[i]?=some x->σ[i]?=some (some v)->Vis X.env.scope x->∃u,RelV v u/\Look X.env s.heap m x u
 cell:∀x c,X.env.cells.lookup x=some c->∃v,s.heap.IsCell c v
 free:H X.env.locals=none
 freeC:∀x c,X.env.cells.lookup x=some c->H c=none
 pin:∀p∈X.pn++pins,s.heap.get? p.1=some p.2/\H p.1=none/\p.1≠X.env.locals/\p.1∉X.fs/\∀v,p.2.data≠.cell v
 hok:HOk X.prog X.w H s.heap
 len:σ.length=X.N.length
section
variable{X:Cx}{pins:List (Addr×Obj)}{σ:List (Option V)}{H H':Hp}{s:Shared}{h':Heap}
theorem Cx.Ok.nofr(ok:X.Ok){b:Addr}{o:Obj}(e:X.base.get? b=some o):b∉X.fs:=fun hb=>by have:=(ok.funs.mem hb).1;rw[e]at this;cases this
theorem Inv.bs(I:Inv X pins σ H s):∀b o,X.base.get? b=some o->s.heap.get? b=some o/\H b=none:=fun b o e=>⟨I.base.keep b o (I.ok.bs b o e).1 (I.ok.bs b o e).2 (I.ok.nofr e) (I.ok.noex b o e),I.base.free b o (I.ok.bs b o e).1 (I.ok.bs b o e).2 (I.ok.noex b o e)⟩
theorem Inv.bk(I:Inv X pins σ H s):∀b o,X.base.get? b=some o->s.heap.get? b=some o:=fun b o e=>(I.bs b o e).1
theorem Inv.mod(I:Inv X pins σ H s):Mod X.K X.mg X.base:=I.ok.mod
theorem Inv.kIn(I:Inv X pins σ H s):X.K.In s.heap:=I.ok.mod.kin.keeps I.bk
theorem Inv.lt(I:Inv X pins σ H s):X.env.locals<s.heap.objs.size:=let ⟨_,hn,_⟩:=I.loc;hn.lt
theorem Inv.sz(I:Inv X pins σ H s):X.s₀.heap.objs.size<=s.heap.objs.size:=le_trans I.ok.above (le_of_lt I.lt)
theorem Inv.nofs(I:Inv X pins σ H s){a:Addr}(h:s.heap.objs.size<=a):a∉X.fs:=fun hb=>by obtain⟨_,o,ho,_⟩:=I.ok.funs.mem hb;exact absurd (lt_of_lt_of_le (Heap.lt_size ho) (le_trans I.sz h)) (lt_irrefl _)
theorem Inv.cne(I:Inv X pins σ H s):∀x c,X.env.cells.lookup x=some c->c≠X.env.locals:=fun x c e z=>by obtain⟨v,o,ho,hd⟩:=I.cell x c e;obtain⟨m,⟨o',es,ep,ho',hd',_⟩,_⟩:=I.loc;rw[z,ho']at ho;cases ho;rw[hd']at hd;cases hd
theorem Inv.funs(I:Inv X pins σ H s):s.heap.FunFrames X.base X.outer:=by
 have all:∀(l:List Env),(∀b∈frs l,b∈X.fs)->X.s₀.heap.FunFrames X.base l->s.heap.FunFrames X.base l:=by intro l;induction l with|nil=>intro _ _;trivial| cons env r ih=>intro hs hl;obtain⟨hk,⟨L,o,hf,hn,ho,hd⟩,hr⟩:=hl;have hL:L∈X.fs:=hs L (by unfold frs;rw[List.filterMap_cons,hf];exact mem_cons_self);obtain⟨sl,e⟩:=I.base.slot L o ho (I.ok.frf L hL) hL fun z=>I.ok.exfs L z hL;exact⟨hk,⟨L,_,hf,hn,e,hd⟩,ih (fun b hb=>hs b (by unfold frs;rw[List.filterMap_cons,hf];exact mem_cons_of_mem _ hb)) hr⟩
 exact all X.outer (fun _ hb=>hb) I.ok.funs
theorem Inv.stack(I:Inv X pins σ H s):s.heap.FunFrames X.base X.stack:=by rcases I.ok.stk with e|⟨e,hf⟩;rw[e];exact I.funs;rw[e];obtain⟨m,hn,_⟩:=I.loc;refine .cons (by rw[I.ok.kind];decide) hf hn ?_ I.funs;exact Heap.get?_none_of_le (le_trans I.ok.bsz I.ok.above)
theorem Inv.stkSub(I:Inv X pins σ H s):∀b∈frs X.stack,b∈X.env.locals::X.fs:=fun b hb=>by rcases I.ok.stk with e|⟨e,hf⟩;rw[e]at hb;exact mem_cons_of_mem _ hb;rw[e]at hb;unfold frs at hb;rw[List.filterMap_cons,hf]at hb;exact hb
theorem Inv.stkFree(I:Inv X pins σ H s):∀b∈frs X.stack,H b=none:=fun b hb=>by rcases mem_cons.mp (I.stkSub b hb) with e|hb;rw[e];exact I.free;obtain⟨_,o,ho,_⟩:=I.ok.funs.mem hb;exact I.base.free b o ho (I.ok.frf b hb) fun z=>I.ok.exfs b z hb
theorem Inv.step{g':Array GenState}{t':Nat}{d':Drawn}{ch:List Addr}(I:Inv X pins σ H s)
  (hch:∀b∈ch,(b∈X.ex\/X.s₀.heap.objs.size<=b)/\b≠X.env.locals/\(∀x c,X.env.cells.lookup x=some c->c≠b)/\∀p∈X.pn++pins,p.1≠b)
  (keep:∀b o,b≠X.env.locals->b∉X.fs->b∉ch->s.heap.get? b=some o->H b=none->h'.get? b=some o)
  (slot:∀b o,b≠X.env.locals->b∈X.fs->b∉ch->s.heap.get? b=some o->H b=none->∃sl,h'.get? b=some {o with slots:=sl}) (free:∀b o,b∉ch->s.heap.get? b=some o->H b=none->H' b=none)
  (there:∀b o,b∉ch->s.heap.get? b=some o->∃o',h'.get? b=some o')
  (tups:∀b xs,H b=some (.tup xs)->H' b=some (.tup xs)) (frzs:∀b o u,H b=some (.frz o u)->H' b=some (.frz o u)) (tbls:∀b ps,H b=some (.tbl ps)->∃more,H' b=some (.tbl (ps++more)))
  (ns:∀m,s.heap.Ns X.env.locals m->h'.Ns X.env.locals m) (hok:HOk X.prog X.w H' h') (hg:AllBare g') :
  Inv X pins σ H' {s with heap:=h',gens:=g',drawn:=d',toks:=t'}:=by
 have neL:∀b o,X.s₀.heap.get? b=some o->b≠X.env.locals:=fun b o e=>ne_of_lt (lt_of_lt_of_le (Heap.lt_size e) I.ok.above);have neC:∀b o,X.s₀.heap.get? b=some o->b∉X.ex->b∉ch:=fun b o e hx hb=>by rcases(hch b hb).1 with z|z;exact hx z;exact absurd (lt_of_lt_of_le (Heap.lt_size e) z) (lt_irrefl _)
 have cellK:∀x c,X.env.cells.lookup x=some c->∀v,s.heap.IsCell c v->h'.IsCell c v:=fun x c e v ⟨o,ho,hd⟩=>by have nch:c∉ch:=fun z=>(hch c z).2.2.1 x c e rfl;by_cases hc:c∈X.fs;obtain⟨sl,q⟩:=slot c o (I.cne x c e) hc nch ho (I.freeC x c e);exact⟨_,q,hd⟩;exact⟨o,keep c o (I.cne x c e) hc nch ho (I.freeC x c e),hd⟩
 refine⟨I.ok,I.os,hg,⟨fun b o e n hb hx=>?_,fun b o e n hb hx=>?_,fun b o e n hx=>?_,fun b o e hx=>?_,fun b xs e=>tups b xs (I.base.tups b xs e),fun b o xs e=>frzs b o xs (I.base.frzs b o xs e),fun b ps e=>?_⟩,?_,fun x c e=>?_,?_,fun x c e=>?_,fun p hp=>?_,hok,I.len⟩;exact keep b o (neL b o e) hb (neC b o e hx) (I.base.keep b o e n hb hx) (I.base.free b o e n hx);obtain⟨sl,e1⟩:=I.base.slot b o e n hb hx;obtain⟨sl',e2⟩:=slot b _ (neL b o e) hb (neC b o e hx) e1 (I.base.free b o e n hx);exact⟨sl',e2⟩;obtain⟨o',e1⟩:=I.base.there b o e hx;exact free b o' (neC b o e hx) e1 (I.base.free b o e n hx);obtain⟨o',e1⟩:=I.base.there b o e hx;exact there b o' (neC b o e hx) e1;obtain⟨m1,e1⟩:=I.base.tbls b ps e;obtain⟨m2,e2⟩:=tbls b _ e1;exact⟨m1++m2,by rw[e2,Array.append_assoc]⟩;obtain⟨m,hn,hl⟩:=I.loc;refine⟨m,ns m hn,fun i x v e1 e2 e3=>?_⟩;obtain⟨u,r,l⟩:=hl i x v e1 e2 e3;refine⟨u,r,?_⟩;rcases l with l|⟨k,c,e,z⟩;exact .inl l;exact .inr ⟨k,c,e,cellK x c e _ z⟩;obtain⟨v,z⟩:=I.cell x c e;exact⟨v,cellK x c e v z⟩;obtain⟨m,⟨o,_,_,ho,_⟩,_⟩:=I.loc;exact free _ o (fun z=>(hch _ z).2.1 rfl) ho I.free;obtain⟨v,o,ho,hd⟩:=I.cell x c e;exact free c o (fun z=>(hch c z).2.2.1 x c e rfl) ho (I.freeC x c e);obtain⟨e,n,ne,nf,d⟩:=I.pin p hp;have nch:p.1∉ch:=fun z=>(hch p.1 z).2.2.2 p hp rfl;exact⟨keep p.1 p.2 ne nf nch e n,free p.1 p.2 nch e n,ne,nf,d⟩
theorem Inv.un{t':Nat}(I:Inv X pins σ H s)(u:Un X.fs [] H H' s.heap h')(hok:HOk X.prog X.w H' h'):Inv X pins σ H' {s with heap:=h',toks:=t'}:=by obtain⟨m,⟨o,es,ep,ho,r⟩,_⟩:=id I.loc;obtain⟨sl,hL⟩:=u.any ho I.free (by simp);exact I.step (g':=s.gens) (d':=s.drawn) (ch:=[]) (fun _ z=>nomatch z) (fun b o _ hb _ e n=>u.keep b o e n hb (by simp)) (fun b o _ hb _ e n=>u.slot b o e n hb (by simp)) (fun b o _ e n=>u.free b o e n (by simp)) (fun b o _ e=>u.there b o e (by simp)) u.tups u.frzs u.tbls (fun m' hm=>by obtain⟨o',es',ep',ho',r'⟩:=hm;rw[ho]at ho';cases ho';exact⟨_,es',ep',hL,r'⟩) hok I.bare
theorem Inv.call{g':Array GenState}{t':Nat}{d':Drawn}{ch:List Addr}(I:Inv X pins σ H s)(u:Un (frs X.stack) ch H H' s.heap h')(hok:HOk X.prog X.w H' h')(hg:AllBare g')
  (hch:∀b∈ch,(b∈X.ex\/X.s₀.heap.objs.size<=b)/\b≠X.env.locals/\(∀x c,X.env.cells.lookup x=some c->c≠b)/\∀p∈X.pn++pins,p.1≠b) :
  Inv X pins σ H' {s with heap:=h',gens:=g',drawn:=d',toks:=t'}:=by
 obtain⟨m,⟨o,es,ep,ho,r⟩,_⟩:=id I.loc;obtain⟨sl,hL⟩:=u.any ho I.free fun z=>(hch _ z).2.1 rfl;exact I.step (ch:=ch) hch (fun b o hL hb hc e n=>u.keep b o e n (fun z=>(mem_cons.mp (I.stkSub b z)).elim hL hb) hc) (fun b o _ _ hc e n=>u.any e n hc) (fun b o hc e n=>u.free b o e n hc) (fun b o hc e=>u.there b o e hc) u.tups u.frzs u.tbls (fun m' hm=>by obtain⟨o',es',ep',ho',r'⟩:=hm;rw[ho]at ho';cases ho';exact⟨_,es',ep',hL,r'⟩) hok hg
theorem Inv.turned{t':Nat}{it:Addr}(I:Inv X pins σ H s)(k:∀b o,b≠it->s.heap.get? b=some o->h'.get? b=some o)(hn:H it=none)(hL:it≠X.env.locals)
  (h1:it∈X.ex\/X.s₀.heap.objs.size<=it) (h2:∀x c,X.env.cells.lookup x=some c->c≠it) (h3:∀p∈X.pn++pins,p.1≠it):Inv X pins σ H {s with heap:=h',toks:=t'}:=by
 have nit:∀b u,H b=some u->b≠it:=fun b u e z=>by rw[z,hn]at e;cases e
 refine I.step (g':=s.gens) (d':=s.drawn) (ch:=[it]) (fun b hb=>?_) (fun b o _ _ hc e _=>k b o (fun z=>hc (by simp[z])) e) (fun b o _ _ hc e _=>⟨o.slots,k b o (fun z=>hc (by simp[z])) e⟩) (fun _ _ _ _ n=>n)
  (fun b o hc e=>⟨o,k b o (fun z=>hc (by simp[z])) e⟩) (fun _ _ e=>e) (fun _ _ _ e=>e) (fun b ps e=>⟨#[],by rw[e];simp⟩) (fun m hm=>?_) (fun b u e=>?_) I.bare
 have e:b=it:=by simpa using hb
 subst e;exact⟨h1,hL,h2,h3⟩;obtain⟨o,es,ep,ho,r⟩:=hm;exact⟨o,es,ep,k _ o (Ne.symm hL) ho,r⟩;refine(I.hok b u e).stay (fun c v hc q=>k c v ?_ q) (fun _ q=>q) fun _ _ q=>q;rcases hc with z|z;rw[z];exact nit b u e;exact nit c _ z
theorem Inv.tok(I:Inv X pins σ H s)(t:Nat):Inv X pins σ H {s with toks:=t}:=I.un (h':=s.heap) (t':=t) Un.refl I.hok
theorem Inv.kept{t':Nat}(I:Inv X pins σ H s)(k:∀b u,s.heap.get? b=some u->h'.get? b=some u):Inv X pins σ H {s with heap:=h',toks:=t'}:=I.un (Un.kept k) (I.hok.kept k)
theorem Inv.laid{a:Addr}{o:HO}{t':Nat}(I:Inv X pins σ H s)(k:∀b u,s.heap.get? b=some u->h'.get? b=some u)(hp:s.heap.objs.size<=a)(new:ObjOk X.prog X.w (upd H a o) h' a o) :
 Inv X pins σ (upd H a o) {s with heap:=h',toks:=t'}:=I.un (Un.laid k hp (I.hok.fresh hp)) (I.hok.laid k hp new)
theorem Inv.write{x e:Addr}{o:HO}{t':Nat}(I:Inv X pins σ H s)(mu:Mut (H x))(he:e=x\/H e=some (.own x))(k:∀b u,b≠e->s.heap.get? b=some u->h'.get? b=some u)(heo:∃u,h'.get? e=some u)
 (new:ObjOk X.prog X.w (upd H x o) h' x o):Inv X pins σ (upd H x o) {s with heap:=h',toks:=t'}:=I.un (Un.write mu he k heo) (I.hok.write mu he k heo new)
theorem Inv.pins_of{pins':List (Addr×Obj)}(I:Inv X pins σ H s)(h:∀p∈pins',s.heap.get? p.1=some p.2/\H p.1=none/\p.1≠X.env.locals/\p.1∉X.fs/\∀v,p.2.data≠.cell v):Inv X pins' σ H s:=⟨I.ok,I.os,I.bare,I.base,I.loc,I.cell,I.free,I.freeC,fun p hp=>(mem_append.mp hp).elim (fun z=>I.pin p (mem_append_left _ z)) (h p),I.hok,I.len⟩
theorem zf0{N:List Str}(hN:N.Nodup){i j:Nat}{x:Str}(a:N[i]?=some x)(b:N[j]?=some x):i=j:=by obtain⟨h1,e1⟩:=List.getElem?_eq_some_iff.mp a;obtain⟨h2,e2⟩:=List.getElem?_eq_some_iff.mp b;exact(List.getElem_inj hN).mp (e1.trans e2.symm)
theorem zem{M:Model}{A:Around}{E:Value->Shared->Prop}{i:Nat}{x:Str}{v:V}{u:Value}{Q:Unit->Shared->Prop}(I:Inv X pins σ H s)(hN:X.N.Nodup)(hi:X.N[i]?=some x)(hx:Loc X.env.scope x)(r:RelV v u)
  (h:∀s',Inv X pins (σ.set i (some v)) H s'->(∃a,Heap.SameBut a s.heap s'.heap/\(a=X.env.locals\/X.env.cells.lookup x=some a))->Q () s') (hf:X.fn x=true\/X.env.scope.names.lookup x=some .local:=by first|exact .inl rfl|exact .inr rfl|assumption):wpAny M A (storeName X.env x u) Q E s:=by
 obtain⟨m,hn,hl⟩:=id I.loc;have hcls:(X.env.scope.kind==.class||(X.env.scope.kind==.module&&X.env.locals != X.env.globals))=false:=by rw[I.ok.kind];rfl
 have hiσ:i<σ.length:=by rw[I.len];exact(List.getElem?_eq_some_iff.mp hi).1
 have cne:=I.cne;have tracked:∀{a:Addr}{h':Heap},(∃o,s.heap.get? a=some o/\H a=none)->Heap.SameBut a s.heap h'->HOk X.prog X.w H h':=fun {a h'} ha hs b ob e=>by obtain⟨_,_,hfree⟩:=ha;refine(I.hok b ob e).stay (fun c w' hc q=>(hs.2 c ?_).trans q) (fun _ q=>q) fun _ _ q=>q;rintro rfl;rcases hc with rfl|hc;rw[hfree]at e;cases e;rw[hfree]at hc;cases hc
 rcases hx with hk|hk;refine wpAny_storeName_local hk hn (fun h' hn' hs=>?_) hcls;obtain⟨oL,_,_,hoL,_⟩:=id hn;refine h _ ⟨I.ok,I.os,I.bare,⟨fun b o e n hb hx=>?_,fun b o e n hb hx=>?_,I.base.free,fun b o e hx=>?_,I.base.tups,I.base.frzs,I.base.tbls⟩,⟨_,hn',fun j y v' e1 e2 e3=>?_⟩,fun y c e=>?_,I.free,I.freeC,fun p hp=>?_,tracked ⟨oL,hoL,I.free⟩ hs,by simpa using I.len⟩ ⟨_,hs,.inl rfl⟩;exact(hs.2 b (ne_of_lt (lt_of_lt_of_le (Heap.lt_size e) I.ok.above))).trans (I.base.keep b o e n hb hx);obtain⟨sl,e1⟩:=I.base.slot b o e n hb hx;exact⟨sl,(hs.2 b (ne_of_lt (lt_of_lt_of_le (Heap.lt_size e) I.ok.above))).trans e1⟩;obtain⟨o',e1⟩:=I.base.there b o e hx;exact⟨o',(hs.2 b (ne_of_lt (lt_of_lt_of_le (Heap.lt_size e) I.ok.above))).trans e1⟩;by_cases hj:j=i;subst hj;rw[hi]at e1;cases e1;rw[getElem?_set_self hiσ]at e2;cases e2;exact⟨u,r,.inl ⟨hk,by simp⟩⟩;rw[getElem?_set_ne (Ne.symm hj)]at e2;obtain⟨u',r',q⟩:=hl j y v' e1 e2 e3;refine⟨u',r',?_⟩;rcases q with⟨k,e⟩|⟨k,c,e,z⟩;refine .inl ⟨k,?_⟩;have:y≠x:=fun e=>hj (zf0 hN e1 (e▸hi));simp[this,e];exact .inr ⟨k,c,e,z.sameBut hs (cne y c e)⟩;obtain⟨w',z⟩:=I.cell y c e;exact⟨w',z.sameBut hs (cne y c e)⟩;obtain⟨e,n,ne,nf,d⟩:=I.pin p hp;exact⟨(hs.2 p.1 ne).trans e,n,ne,nf,d⟩;have hfn:X.fn x=true:=by rcases hf with z|z;exact z;rw[z]at hk;cases hk
 obtain⟨c,hc⟩:=I.ok.has x (.inl hk);obtain⟨w',z⟩:=I.cell x c hc;refine wpAny_storeName_cell I.ok.kind hk hc z (fun h' hc' hs=>?_);obtain⟨oc,hoc,hocd⟩:=id z;refine h {s with heap:=h'} ⟨I.ok,I.os,I.bare,⟨fun b o e n hb hx=>?_,fun b o e n hb hx=>?_,I.base.free,fun b o e hx=>?_,I.base.tups,I.base.frzs,I.base.tbls⟩,⟨m,hn.sameBut hs (Ne.symm (cne x c hc)),fun j y v' e1 e2 e3=>?_⟩,fun y c' e=>?_,I.free,I.freeC,fun p hp=>?_,tracked ⟨oc,hoc,I.freeC x c hc⟩ hs,by simpa using I.len⟩ ⟨c,hs,.inr hc⟩;exact(hs.2 b (ne_of_lt (lt_of_lt_of_le (Heap.lt_size e) (I.ok.cab x c hfn hc)))).trans (I.base.keep b o e n hb hx);obtain⟨sl,e1⟩:=I.base.slot b o e n hb hx;exact⟨sl,(hs.2 b (ne_of_lt (lt_of_lt_of_le (Heap.lt_size e) (I.ok.cab x c hfn hc)))).trans e1⟩;obtain⟨o',e1⟩:=I.base.there b o e hx;exact⟨o',(hs.2 b (ne_of_lt (lt_of_lt_of_le (Heap.lt_size e) (I.ok.cab x c hfn hc)))).trans e1⟩;by_cases hj:j=i;subst hj;rw[hi]at e1;cases e1;rw[getElem?_set_self hiσ]at e2;cases e2;exact⟨u,r,.inr ⟨.inl hk,c,hc,hc'⟩⟩;rw[getElem?_set_ne (Ne.symm hj)]at e2;obtain⟨u',r',q⟩:=hl j y v' e1 e2 e3;refine⟨u',r',?_⟩;rcases q with q|⟨k,c',e,z'⟩;exact .inl q;refine .inr ⟨k,c',e,z'.sameBut hs ?_⟩;rintro rfl;exact hj (zf0 hN e1 (I.ok.inj _ _ _ e hc▸hi));by_cases hcc:c'=c;subst hcc;exact⟨_,hc'⟩;obtain⟨w2,z2⟩:=I.cell y c' e;exact⟨w2,z2.sameBut hs hcc⟩;obtain⟨e,n,ne,nf,d⟩:=I.pin p hp;refine⟨(hs.2 p.1 ?_).trans e,n,ne,nf,d⟩;intro q;rw[q,hoc]at e;have q':oc=p.2:=Option.some.inj e;exact d w' (by rw[<-q'];exact hocd)
theorem zfJ{M:Model}{A:Around}{E:Value->Shared->Prop}{i:Nat}{x:Str}{v:V}{u:Value}{Q:Unit->Shared->Prop}(I:Inv X pins σ H s)(hN:X.N.Nodup)(hi:X.N[i]?=some x)(hx:Loc X.env.scope x)(r:RelV v u)
  (h:∀s',Inv X pins (σ.set i (some v)) H s'->Q () s') (hf:X.fn x=true\/X.env.scope.names.lookup x=some .local:=by first|exact .inl rfl|exact .inr rfl|assumption):wpAny M A (storeName X.env x u) Q E s:=
 zem I hN hi hx r (fun s' I' _=>h s' I') hf
theorem Inv.call'{s':Shared}{ch:List Addr}(I:Inv X pins σ H s)(ho:s'.os=s.os)(u:Un (frs X.stack) ch H H' s.heap s'.heap)(hok:HOk X.prog X.w H' s'.heap)(hg:AllBare s'.gens)
  (hch:∀b∈ch,(b∈X.ex\/X.s₀.heap.objs.size<=b)/\b≠X.env.locals/\(∀x c,X.env.cells.lookup x=some c->c≠b)/\∀p∈X.pn++pins,p.1≠b):Inv X pins σ H' s':=by
 obtain⟨h',g',d',t',o'⟩:=s';have e:o'=s.os:=ho;subst e;exact I.call (g':=g') (t':=t') (d':=d') u hok hg hch
end
abbrev XK:=Value->Option Addr->Hp->Prop
abbrev St:=List (Option V)
abbrev VK:=V->Hp->Prop
abbrev TE:=St->Hp->VK->Prop
abbrev TT:=St->Hp->(Bool->Hp->Prop)->Prop
abbrev TA:=St->Hp->(List V->Hp->Prop)->Prop
structure Ends where
 nx:St->Hp->Prop
 rt:VK
 bk:St->Hp->Prop:=fun _ _=>False
 ct:St->Hp->Prop:=fun _ _=>False
abbrev TS:=Ends->St->Hp->Prop
def EP(X:Cx)(pins:List (Addr×Obj))(σ:St)(Q:VK)(u:Value)(s':Shared):Prop:=∃v H',Inv X pins σ H' s'/\RelV v u/\Q v H'
def TP(X:Cx)(pins:List (Addr×Obj))(σ:St)(Q:Bool->Hp->Prop)(b:Bool)(s':Shared):Prop:=∃H',Inv X pins σ H' s'/\Q b H'
def AP(X:Cx)(pins:List (Addr×Obj))(σ:St)(Q:List V->Hp->Prop)(us:List Value)(s':Shared):Prop:=∃vs H',Inv X pins σ H' s'/\Vals vs us/\Q vs H'
def SP(X:Cx)(pins:List (Addr×Obj))(D:Ends)(f:Flow)(s':Shared):Prop:=match f with|.next=>∃σ' H',Inv X pins σ' H' s'/\D.nx σ' H'|.brk=>∃σ' H',Inv X pins σ' H' s'/\D.bk σ' H'|.cont=>∃σ' H',Inv X pins σ' H' s'/\D.ct σ' H'|.ret u=>∃v σ' H',Inv X pins σ' H' s'/\RelV v u/\D.rt v H'
def PE(X:Cx)(e:Expr)(t:TE):Prop:=∀(pins:List (Addr×Obj))(s:Shared)(σ:St)(H:Hp)(Q:VK),Inv X pins σ H s->t σ H Q->wpAny (model X.prog X.w) X.A (eval e X.env) (EP X pins σ Q) X.xe s
def PT(X:Cx)(e:Expr)(t:TT):Prop:=∀(pins:List (Addr×Obj))(s:Shared)(σ:St)(H:Hp)(Q:Bool->Hp->Prop),Inv X pins σ H s->t σ H Q->wpAny (model X.prog X.w) X.A (isTrue e X.env (eval e X.env)) (TP X pins σ Q) X.xe s
def PW(X:Cx)(e:Expr)(t:TT):Prop:=∀(whole:Sem Value)(pins:List (Addr×Obj))(s:Shared)(σ:St)(H:Hp)(Q:Bool->Hp->Prop),Inv X pins σ H s->t σ H Q->wpAny (model X.prog X.w) X.A (isTrue e X.env whole) (TP X pins σ Q) X.xe s
theorem PW.pt{X:Cx}{e:Expr}{t:TT}(h:PW X e t):PT X e t:=h _
def PA(X:Cx)(es:List Expr)(t:TA):Prop:=∀(pos:Pos)(pins:List (Addr×Obj))(s:Shared)(σ:St)(H:Hp)(Q:List V->Hp->Prop),Inv X pins σ H s->t σ H Q->wpAny (model X.prog X.w) X.A (spliced (backTo pos (starEach es X.env))) (AP X pins σ Q) X.xe s
def PS(X:Cx)(st:Stmt)(t:TS):Prop:=∀(pins:List (Addr×Obj))(s:Shared)(σ:St)(H:Hp)(D:Ends),Inv X pins σ H s->t D σ H->wpAny (model X.prog X.w) X.A (exec st X.env) (SP X pins D) X.xe s
def PSs(X:Cx)(st:List Stmt)(t:TS):Prop:=∀(pins:List (Addr×Obj))(s:Shared)(σ:St)(H:Hp)(D:Ends),Inv X pins σ H s->t D σ H->wpAny (model X.prog X.w) X.A (execs st X.env) (SP X pins D) X.xe s
theorem thn{α:Type}{t:Sem α}{Q Q':α->Shared->Prop}{M:Model}{A:Around}{E:Value->Shared->Prop}{s:Shared}(h:wpAny M A t Q E s)(hQ:∀a s,Q a s->Q' a s):wpAny M A t Q' E s:=wpAny_mono h hQ fun _ _ x=>x
section
variable{X:Cx}
theorem bin{a b:Expr}{ta tb:TE}(ha:PE X a ta)(hb:PE X b tb){pins:List (Addr×Obj)}{s:Shared}{σ:St}{H:Hp}{R:V->V->Hp->Prop}(I:Inv X pins σ H s)(h:ta σ H fun x H1=>tb σ H1 fun y H2=>R x y H2)
  {α:Type} {Q:α->Shared->Prop} {f:Value->Value->Sem α}
  (hf:∀v u s2 x y H2,Inv X pins σ H2 s2->RelV x v->RelV y u->R x y H2->wpAny (model X.prog X.w) X.A (f v u) Q X.xe s2) :
  wpAny (model X.prog X.w) X.A (eval a X.env) (fun v s₁=>wpAny (model X.prog X.w) X.A (eval b X.env) (fun u s₂=>wpAny (model X.prog X.w) X.A (f v u) Q X.xe s₂) X.xe s₁) X.xe s:=by
 refine thn (ha pins s σ H _ I h) fun v s1 ⟨x,H1,I1,r1,q1⟩=>?_;refine thn (hb pins s1 σ H1 _ I1 q1) fun u s2 ⟨y,H2,I2,r2,q2⟩=>?_;exact hf v u s2 x y H2 I2 r1 r2 q2
def tVar(i:Nat):TE:=fun σ H Q=>∃v,σ[i]?=some (some v)/\Q v H
def tC(v:V):TE:=fun _ H Q=>Q v H
theorem zkx{i:Nat}{x:Str}{pos:Pos}(hN:X.N[i]?=some x)(hv:Vis X.env.scope x)(hd:(x==("__debug__":Str))=false:=by decide)(hcd:(x==("__classdict__":Str))=false:=by decide):PE X (.Name x pos) (tVar i):=by intro pins s σ H Q I h;obtain⟨v,e,h⟩:=h;obtain⟨m,hn,hl⟩:=I.loc;obtain⟨u,r,l⟩:=hl i x v hN e hv;have fin:EP X pins σ Q u s:=⟨v,H,I,r,h⟩;rcases l with⟨hk,hm⟩|⟨hk,c,hc,hcell⟩;exact wpAny_Name (wpAny_loadName_local I.ok.kind hk hn hm fin) hd;rcases hk with hk|hk;exact wpAny_Name (wpAny_loadName_cell I.ok.kind hk hc hcell fin) hd;exact wpAny_Name (wpAny_loadName_free I.ok.kind hk hc hcell fin hcd) hd
theorem zhG{i j pos}:PE X (.Constant (.int i) j pos) (tC (.int i)):=fun _ _ _ H _ I h=>wpAny_Constant_int ⟨.int i,H,I.tok _,⟨_,rfl⟩,h⟩
theorem zpC{b j pos}:PE X (.Constant (.bool b) j pos) (tC (.bl b)):=fun _ _ _ H _ I h=>Constant_bool ⟨.bl b,H,I,rfl,h⟩
theorem znR{j pos}:PE X (.Constant .none j pos) (tC .non):=fun _ _ _ H _ I h=>Constant_none ⟨.non,H,I,rfl,h⟩
theorem znP{x j pos}:PE X (.Constant (.str x) j pos) (tC (.str x)):=fun _ _ _ H _ I h=>Calls.Constant_str ⟨.str x,H,I.tok _,⟨_,rfl⟩,h⟩
def Gl(X:Cx)(x:Str):Prop:=X.env.kindOf x=some .globalImplicit
theorem zcJ{E:Value->Shared->Prop}{pins:List (Addr×Obj)}{s:Shared}{σ:St}{H:Hp}{x:Str}{u:Value}{pos:Pos}{Q:Value->Shared->Prop}(I:Inv X pins σ H s)(hg:Gl X x)(hm:X.mg x=some u)(h:Q u s)
  (hd:(x==("__debug__":Str))=false:=by decide):wpAny (model X.prog X.w) X.A (eval (.Name x pos) X.env) Q E s:=
 Calls.Name_function_global I.ok.kind hg (Calls.loadGlobal_global (by rw[I.ok.glob];exact I.mod.glob.keeps I.bk) hm h) hd
theorem zcK{E:Value->Shared->Prop}{pins:List (Addr×Obj)}{s:Shared}{σ:St}{H:Hp}{x:Str}{u:Value}{pos:Pos}{Q:Value->Shared->Prop}(I:Inv X pins σ H s)(hg:Gl X x)(hm:X.mg x=none)(hv:bootBuiltins x=some u)(h:Q u s)
  (hn:x≠"__name__":=by decide) (hd:(x==("__debug__":Str))=false:=by decide):wpAny (model X.prog X.w) X.A (eval (.Name x pos) X.env) Q E s:=by
 obtain⟨mb,h1,h2⟩:=I.mod.blt;exact Calls.Name_function_global I.ok.kind hg (Calls.loadGlobal_builtin (by rw[I.ok.glob];exact I.mod.glob.keeps I.bk) hm (by rw[I.ok.blt];exact h1.keeps I.bk) ((h2 x hn).trans hv) h) hd
theorem zhH{x:Str}{v:V}{u:Value}{pos:Pos}(hg:Gl X x)(hm:X.mg x=some u)(r:RelV v u)(hd:(x==("__debug__":Str))=false:=by decide):PE X (.Name x pos) (tC v):=fun _ _ _ H _ I h=>zcJ I hg hm ⟨v,H,I,r,h⟩ hd
theorem zlZ{x:Str}{v:V}{u:Value}{pos:Pos}(hg:Gl X x)(hm:X.mg x=none)(hv:bootBuiltins x=some u)(r:RelV v u)(hn:x≠"__name__":=by decide)(hd:(x==("__debug__":Str))=false:=by decide):PE X (.Name x pos) (tC v):=fun _ _ _ H _ I h=>zcK I hg hm hv ⟨v,H,I,r,h⟩ hn hd
variable{a b:Expr}{ta tb:TE}{pos:Pos}
theorem RelV.none_iff{x:V}{v:Value}(r:RelV x v):(v==Value.none)=decide (x=.non):=by cases x with|non=>cases r;rfl|bl _=>cases r;rfl|int _=>obtain⟨t,rfl⟩:=r;rfl|str _=>obtain⟨t,rfl⟩:=r;rfl|byt _=>obtain⟨t,rfl⟩:=r;rfl|flt _=>obtain⟨t,rfl⟩:=r;rfl|ref _=>cases r;rfl|ty _=>cases r;rfl
variable{tA tB':TT}{rest:List Expr}
def tAnd(t u:TT):TT:=fun σ H Q=>t σ H fun c H1=>if c=true then u σ H1 Q else Q false H1
def tOr(t u:TT):TT:=fun σ H Q=>t σ H fun c H1=>if c=true then Q true H1 else u σ H1 Q
def tNot(t:TT):TT:=fun σ H Q=>t σ H fun c H1=>Q (!c) H1
theorem zlF(ha:PT X a tA):PW X (.BoolOp .And [a] pos) tA:=by intro wh pins s σ H Q I h;refine isTrue_and (thn (ha pins s σ H Q I h) fun c s1 e=>?_);cases c with|true=>exact isTrue_and_nil e|false=>exact e
theorem znE(ha:PT X a tA):PW X (.BoolOp .Or [a] pos) tA:=by intro wh pins s σ H Q I h;refine isTrue_or (thn (ha pins s σ H Q I h) fun c s1 e=>?_);cases c with|false=>exact isTrue_or_nil e|true=>exact e
theorem znF(ha:PT X a tA)(hb:PW X (.BoolOp .And (b::rest) pos) tB'):PW X (.BoolOp .And (a::b::rest) pos) (tAnd tA tB'):=by intro wh pins s σ H Q I h;refine isTrue_and (thn (ha pins s σ H _ I h) fun c s1 ⟨H1,I1,q1⟩=>?_);cases c with|true=>exact hb wh pins s1 σ H1 Q I1 q1|false=>exact⟨H1,I1,q1⟩
theorem zpv(ha:PT X a tA)(hb:PW X (.BoolOp .Or (b::rest) pos) tB'):PW X (.BoolOp .Or (a::b::rest) pos) (tOr tA tB'):=by intro wh pins s σ H Q I h;refine isTrue_or (thn (ha pins s σ H _ I h) fun c s1 ⟨H1,I1,q1⟩=>?_);cases c with|true=>exact⟨H1,I1,q1⟩|false=>exact hb wh pins s1 σ H1 Q I1 q1
theorem znG(ha:PT X a tA):PT X (.UnaryOp .Not a pos) (tNot tA):=by intro pins s σ H Q I h;exact isTrue_not (ha pins s σ H (fun c H1=>Q (!c) H1) I h)
def zpe(ta tb:TE):TE:=fun σ H Q=>ta σ H fun x H1=>∃c,x=.bl c/\if c=true then tb σ H1 Q else Q (.bl false) H1
def tOrV(ta tb:TE):TE:=fun σ H Q=>ta σ H fun x H1=>∃c,x=.bl c/\if c=true then Q (.bl true) H1 else tb σ H1 Q
def zpb(ta:TE):TE:=fun σ H Q=>ta σ H fun x H1=>∃c,x=.bl c/\Q (.bl (!c)) H1
theorem zky{op}{t:TE}(h:PE X a t):PE X (.BoolOp op [a] pos) t:=fun pins s σ H Q I hw=>BoolOp_one (h pins s σ H Q I hw)
theorem znX(ha:PE X a ta)(hb:PE X (.BoolOp .And (b::rest) pos) tb):PE X (.BoolOp .And (a::b::rest) pos) (zpe ta tb):=by intro pins s σ H Q I h;refine BoolOp_and (thn (ha pins s σ H _ I h) fun v s1 ⟨x,H1,I1,r1,q1⟩=>?_);obtain⟨c,rfl,q1⟩:=q1;cases r1;refine wpAny_truthy_bool ?_;cases c with|true=>exact hb pins s1 σ H1 Q I1 q1|false=>exact⟨.bl false,H1,I1,rfl,q1⟩
theorem zpz(ha:PE X a ta)(hb:PE X (.BoolOp .Or (b::rest) pos) tb):PE X (.BoolOp .Or (a::b::rest) pos) (tOrV ta tb):=by intro pins s σ H Q I h;refine BoolOp_or (thn (ha pins s σ H _ I h) fun v s1 ⟨x,H1,I1,r1,q1⟩=>?_);obtain⟨c,rfl,q1⟩:=q1;cases r1;refine wpAny_truthy_bool ?_;cases c with|false=>exact hb pins s1 σ H1 Q I1 q1|true=>exact⟨.bl true,H1,I1,rfl,q1⟩
theorem znQ(ha:PE X a ta):PE X (.UnaryOp .Not a pos) (zpb ta):=by intro pins s σ H Q I h;refine UnaryOp_ (thn (ha pins s σ H _ I h) fun v s1 ⟨x,H1,I1,r1,q1⟩=>?_);obtain⟨c,rfl,q1⟩:=q1;cases r1;exact not_of (wpAny_truthy_bool ⟨.bl (!c),H1,I1,rfl,q1⟩)
def tIf(t:TT)(ta tb:TE):TE:=fun σ H Q=>t σ H fun c H1=>if c=true then ta σ H1 Q else tb σ H1 Q
theorem zjD{c:Expr}(hc:PT X c tA)(ha:PE X a ta)(hb:PE X b tb):PE X (.IfExp c a b pos) (tIf tA ta tb):=by intro pins s σ H Q I h;refine wpAny_IfExp (thn (hc pins s σ H _ I h) fun d s1 ⟨H1,I1,q1⟩=>?_);cases d with|true=>exact ha pins s1 σ H1 Q I1 q1|false=>exact hb pins s1 σ H1 Q I1 q1
end
def SqL(K:Frag)(H:Hp)(a:Addr)(xs:List V):Prop:=
 Rd H a (.lst xs)\/
  ∃(o:Obj) (its:Array Value) (n:Nat),K.lookup a=some o/\o.cls=.type "list"/\o.dict=none/\o.data=.seq its n/\its.size<=sizeLine/\Vals xs its.toList
def SqT(K:Frag)(H:Hp)(a:Addr)(xs:List V):Prop:=
 Rd H a (.tup xs)\/
  ∃(o:Obj) (its:Array Value) (n:Nat),K.lookup a=some o/\o.cls=.type "tuple"/\o.data=.seq its n/\its.size<=sizeLine/\Vals xs its.toList
noncomputable def absV:Value->Option V
 |.none=>some .non|.bool b=>some (.bl b)|.int i _=>some (.int i)|.str x _=>some (.str x)|.bytes b _=>some (.byt b)|.float b _=>some (.flt b)|.ref a=>some (.ref a)|.type n=>some (.ty n)|_=>none
theorem RelV.abs{x:V}{u:Value}(r:RelV x u):absV u=some x:=by cases x with|non=>cases r;rfl|bl _=>cases r;rfl|int _=>obtain⟨t,rfl⟩:=r;rfl|str _=>obtain⟨t,rfl⟩:=r;rfl|byt _=>obtain⟨t,rfl⟩:=r;rfl|flt _=>obtain⟨t,rfl⟩:=r;rfl|ref _=>cases r;rfl|ty _=>cases r;rfl
theorem RelV.inj{x y:V}{u:Value}(r:RelV x u)(q:RelV y u):x=y:=Option.some.inj (r.abs.symm.trans q.abs)
theorem Vals.inj:∀{xs ys:List V}{us:List Value},Vals xs us->Vals ys us->xs=ys
 |_,_,_,.nil,.nil=>rfl|_,_,_,.cons r t,.cons r' t'=>by rw[r.inj r',Vals.inj t t']
section
variable{X:Cx}{pins:List (Addr×Obj)}{σ:St}{H:Hp}{s:Shared}{a:Addr}{xs ys:List V}
theorem SqL.of{K:Frag}(h:H a=some (.lst xs)):SqL K H a xs:=.inl (.inl h)
theorem SqT.of{K:Frag}(h:H a=some (.tup xs)):SqT K H a xs:=.inl (.inl h)
theorem Inv.list(I:Inv X pins σ H s)(h:SqL X.K H a xs):∃its:List Value,Vals xs its/\PlainL s.heap a its.toArray/\xs.length<=sizeLine:=by rcases h with h|⟨o,its,n,hk,hc,hd,hs,hz,r⟩;obtain⟨z,its,n,r,e⟩:=h.ok I.hok;exact⟨its,r,⟨_,n,e,rfl,rfl,rfl⟩,z⟩;refine⟨its.toList,r,⟨o,n,I.kIn a o hk,hc,hd,by simpa using hs⟩,?_⟩;have e:=r.length;simp only[length_toList]at e;omega
theorem Inv.tuple(I:Inv X pins σ H s)(h:SqT X.K H a xs):∃its:List Value,Vals xs its/\IsTup s.heap a its.toArray/\xs.length<=sizeLine:=by rcases h with h|⟨o,its,n,hk,hc,hs,hz,r⟩;obtain⟨z,its,r,p⟩:=h.ok I.hok;exact⟨its,r,p,z⟩;refine⟨its.toList,r,⟨o,I.kIn a o hk,hc,n,by simpa using hs⟩,?_⟩;have e:=r.length;simp only[length_toList]at e;omega
theorem Inv.list_inj(I:Inv X pins σ H s)(h:SqL X.K H a xs)(h':SqL X.K H a ys):xs=ys:=by
 obtain⟨its,r,⟨o,n,e,_,_,d⟩,_⟩:=I.list h;obtain⟨its',r',⟨o',n',e',_,_,d'⟩,_⟩:=I.list h';rw[e]at e';cases e';rw[d]at d';injection d' with d1 _;have:its=its':=by simpa using congrArg Array.toList d1
 subst this;exact r.inj r'
theorem Inv.tuple_inj(I:Inv X pins σ H s)(h:SqT X.K H a xs)(h':SqT X.K H a ys):xs=ys:=by
 obtain⟨its,r,⟨o,e,_,n,d⟩,_⟩:=I.tuple h;obtain⟨its',r',⟨o',e',_,n',d'⟩,_⟩:=I.tuple h';rw[e]at e';cases e';rw[d]at d';injection d' with d1 _;have:its=its':=by simpa using congrArg Array.toList d1
 subst this;exact r.inj r'
end
noncomputable abbrev Cx.wish(X:Cx)(E:Value->Shared->Prop):Cx:={X with xe:=E}
noncomputable abbrev Cx.nox(X:Cx):Cx:=X.wish fun _ _=>False
theorem Cx.Ok.wish{X:Cx}(ok:X.Ok)(E:Value->Shared->Prop):(X.wish E).Ok:=⟨ok.mod,ok.kind,ok.glob,ok.blt,ok.above,ok.inj,ok.has,ok.cab,ok.hd,ok.frames,ok.stk,ok.exf,ok.bs,ok.bsz,ok.noex,ok.exfs,ok.funs,ok.frf⟩
theorem Cx.Ok.unwish{X:Cx}{E:Value->Shared->Prop}(ok:(X.wish E).Ok):X.Ok:=⟨ok.mod,ok.kind,ok.glob,ok.blt,ok.above,ok.inj,ok.has,ok.cab,ok.hd,ok.frames,ok.stk,ok.exf,ok.bs,ok.bsz,ok.noex,ok.exfs,ok.funs,ok.frf⟩
section
variable{X:Cx}{pins:List (Addr×Obj)}{σ:St}{H:Hp}{s:Shared}{E:Value->Shared->Prop}
theorem Inv.wish(I:Inv X pins σ H s)(E:Value->Shared->Prop):Inv (X.wish E) pins σ H s:=⟨I.ok.wish E,I.os,I.bare,I.base,I.loc,I.cell,I.free,I.freeC,I.pin,I.hok,I.len⟩
theorem Inv.unwish(I:Inv (X.wish E) pins σ H s):Inv X pins σ H s:=⟨I.ok.unwish,I.os,I.bare,I.base,I.loc,I.cell,I.free,I.freeC,I.pin,I.hok,I.len⟩
theorem SP.unwish{D:Ends}{f:Flow}{s':Shared}(h:SP (X.wish E) pins D f s'):SP X pins D f s':=by cases f with|next=>obtain⟨σ',H',I,q⟩:=h;exact⟨σ',H',I.unwish,q⟩|brk=>obtain⟨σ',H',I,q⟩:=h;exact⟨σ',H',I.unwish,q⟩|cont=>obtain⟨σ',H',I,q⟩:=h;exact⟨σ',H',I.unwish,q⟩|ret u=>obtain⟨v,σ',H',I,r,q⟩:=h;exact⟨v,σ',H',I.unwish,r,q⟩
theorem PSs.nox{st:List Stmt}{t:TS}(h:PSs X.nox st t):PSs X st t:=fun pins s σ H D I hw=>wpAny_mono (h pins s σ H D (I.wish _) hw) (fun _ _ q=>q.unwish) fun _ _ z=>False.elim z
end
section
variable{X:Cx}{st:Stmt}{rest:List Stmt}{t u:TS}{e:Expr}{te:TE}{pos:Pos}
def zpc:TS:=fun D σ H=>D.nx σ H
def tSeq(t u:TS):TS:=fun D σ H=>t {D with nx:=u D} σ H
theorem zlK:PSs X [] zpc:=fun _ _ σ H _ I h=>wpAny_execs_nil ⟨σ,H,I,h⟩
theorem zaO(h1:PS X st t)(h2:PSs X rest u):PSs X (st::rest) (tSeq t u):=by intro pins s σ H D I h;refine wpAny_execs_cons (thn (h1 pins s σ H {D with nx:=u D} I h) fun f s1 q=>?_);cases f with| next=>obtain⟨σ',H',I',q⟩:=q;exact h2 pins s1 σ' H' D I' q|ret v=>exact q|brk=>exact q|cont=>exact q
theorem Inv.quiet{pins:List (Addr×Obj)}{σ:St}{H:Hp}{s:Shared}(I:Inv X pins σ H s):interactive X.env=false:=by simp[interactive,I.ok.kind]
def zpd(te:TE):TS:=fun D σ H=>te σ H fun _ H1=>D.nx σ H1
theorem zlM(he:PE X e te)(hs:swapsWith e none pos.line X.env=pure false:=by rfl):PS X (.Expr e pos) (zpd te):=by intro pins s σ H D I h;exact wpAny_Expr_any (thn (he pins s σ H _ I h) fun v s1 ⟨x,H1,I1,r1,q1⟩=>⟨σ,H1,I1,q1⟩) I.quiet hs
def tRet(te:TE):TS:=fun D σ H=>te σ H D.rt
theorem znH(he:PE X e te):PS X (.Return (some e) pos) (tRet te):=by intro pins s σ H D I h;exact wpAny_Return_some (thn (he pins s σ H _ I h) fun v s1 ⟨x,H1,I1,r1,q1⟩=>⟨x,σ,H1,I1,r1,q1⟩)
def tIfS(c:TT)(t u:TS):TS:=fun D σ H=>c σ H fun b H1=>if b=true then t D σ H1 else u D σ H1
theorem zpw{c:Expr}{a b:List Stmt}{tc:TT}(hc:PT X c tc)(ha:PSs X a t)(hb:PSs X b u):PS X (.If c a b pos) (tIfS tc t u):=by intro pins s σ H D I h;refine wpAny_If (thn (hc pins s σ H _ I h) fun d s1 ⟨H1,I1,q1⟩=>?_);cases d with|true=>exact ha pins s1 σ H1 D I1 q1|false=>exact hb pins s1 σ H1 D I1 q1
end
abbrev TG:=V->St->Hp->(St->Hp->Prop)->Prop
abbrev TGs:=List V->St->Hp->(St->Hp->Prop)->Prop
def PG(X:Cx)(target:Expr)(t:TG):Prop:=
 ∀(pins:List (Addr×Obj))(s:Shared)(σ:St)(H:Hp)(v:V)(u:Value)(Q:St->Hp->Prop),Inv X pins σ H s->RelV v u->t v σ H Q->
  wpAny (model X.prog X.w) X.A (assign target X.env u) (fun _ s'=>∃σ' H',Inv X pins σ' H' s'/\Q σ' H') X.xe s
def PGs(X:Cx)(ts:List Expr)(t:TGs):Prop:=
 ∀(pins:List (Addr×Obj))(s:Shared)(σ:St)(H:Hp)(vs:List V)(us:List Value)(Q:St->Hp->Prop),Inv X pins σ H s->Vals vs us->t vs σ H Q->
  wpAny (model X.prog X.w) X.A (assignInOrder ((assignEach ts X.env).map (·.2)) us) (fun _ s'=>∃σ' H',Inv X pins σ' H' s'/\Q σ' H') X.xe s
abbrev TSet:=V->V->V->Hp->(Hp->Prop)->Prop
def PSet(X:Cx)(t:TSet):Prop:=
 ∀(pins:List (Addr×Obj))(s:Shared)(σ:St)(H:Hp)(o i v:V)(ov iv u:Value)(Q:Hp->Prop),Inv X pins σ H s->RelV o ov->RelV i iv->RelV v u->t o i v H Q->
  wpAny (model X.prog X.w) X.A (setItem ov iv u) (fun _ s'=>∃H',Inv X pins σ H' s'/\Q H') X.xe s
section
variable{X:Cx}{pos:Pos}
def zim(i:Nat):TG:=fun v σ H Q=>Q (σ.set i (some v)) H
theorem zhD{i:Nat}{x:Str}(hN:X.N.Nodup)(hi:X.N[i]?=some x)(hx:Loc X.env.scope x)(hf:X.fn x=true\/X.env.scope.names.lookup x=some .local:=by first|exact .inl rfl|exact .inr rfl|assumption):PG X (.Name x pos) (zim i):=by intro pins s σ H v u Q I r h;exact wpAny_assign_Name (zfJ I hN hi hx r (fun s' I'=>⟨_,H,I',h⟩) hf)
def gNil:TGs:=fun vs σ H Q=>vs=[]/\Q σ H
def zpU(t:TG)(u:TGs):TGs:=fun vs σ H Q=>∃v r,vs=v::r/\t v σ H fun σ' H'=>u r σ' H' Q
theorem zlT:PGs X [] gNil:=by intro pins s σ H vs us Q I r h;obtain⟨e,h⟩:=h;subst e;cases r;exact assignInOrder_nil ⟨σ,H,I,h⟩
theorem zjz{e:Expr}{es:List Expr}{t:TG}{u:TGs}(h1:PG X e t)(h2:PGs X es u)
  (hs:(assignEach (e::es) X.env).map (·.2)=assign e X.env::(assignEach es X.env).map (·.2):=by rfl):PGs X (e::es) (zpU t u):=by
 intro pins s σ H vs us Q I r h;obtain⟨v,vr,e1,h⟩:=h;subst e1;cases r with| cons r rr=>rw[hs];refine assignInOrder_cons (thn (h1 pins s σ H _ _ _ I r h) fun _ s1 ⟨σ1,H1,I1,q1⟩=>?_);exact h2 pins s1 σ1 H1 _ _ Q I1 rr q1
def gTup(K:Frag)(n:Nat)(t:TGs):TG:=fun v σ H Q=>∃a xs,v=.ref a/\SqT K H a xs/\xs.length=n/\t xs σ H Q
theorem znN{es:List Expr}{k:Nat}{t:TGs}{n:Nat}(hc:X.calm=true)(h:PGs X es t)
  (hn:(assignEach es X.env).length=n:=by rfl) (hst:(assignEach es X.env).findIdx? (·.1)=none:=by rfl):PG X (.Tuple es k pos) (gTup X.K n t):=by
 intro pins s σ H v u Q I r hw;obtain⟨a,xs,e1,hq,hl,hw⟩:=hw;subst e1;cases r;obtain⟨its,rv,ht,hz⟩:=I.tuple hq;refine assign_Tuple_tuple (I.ok.hd hc) ht (by simp[hn,<-hl,rv.length]) hst fun h' hx=>?_;have I1:Inv X pins σ H {s with heap:=h'}:=I.kept (t':=s.toks) fun b o e=>hx b o (ne_of_lt (Heap.lt_size e)) e;exact h pins _ σ H xs _ Q I1 (by simpa using rv) hw
def tAsg(te:TE)(g:TG):TS:=fun D σ H=>te σ H fun x H1=>g x σ H1 D.nx
theorem znK{tg e:Expr}{te:TE}{g:TG}(he:PE X e te)(hg:PG X tg g)(hs:swapsWithSole [tg] e pos.line X.env=pure false:=by rfl)(hw:swappedStores [tg] e X.env=pure none:=by rfl)
  (h1:(assignEach [tg] X.env).map (·.2)=[assign tg X.env]:=by rfl):PS X (.Assign [tg] e pos) (tAsg te g):=by
 intro pins s σ H D I h;refine wpAny_Assign_stores (thn (he pins s σ H _ I h) fun v s1 ⟨x,H1,I1,r1,q1⟩=>?_) hs hw;rw[h1];exact thn (hg pins s1 σ H1 x v _ I1 r1 q1) fun _ s2 q=>q
theorem zkw{i:Nat}{x:Str}{e:Expr}{te:TE}{pos':Pos}(hN:X.N.Nodup)(hi:X.N[i]?=some x)(hx:Loc X.env.scope x)(he:PE X e te)(hs:swapsWith e (some (.Name x pos')) pos.line X.env=pure false:=by rfl)(hf:X.fn x=true\/X.env.scope.names.lookup x=some .local:=by first|exact .inl rfl|exact .inr rfl|assumption) :
  PS X (.Assign [.Name x pos'] e pos) (tAsg te (zim i)):=by
 intro pins s σ H D I h;refine wpAny_Assign_Name (thn (he pins s σ H _ I h) fun v s1 ⟨y,H1,I1,r1,q1⟩=>?_) hs;exact zfJ I1 hN hi hx r1 (fun s2 I2=>⟨_,H1,I2,q1⟩) hf
end
structure It where
 go:Nat->Hp->Prop
 yld:Nat->Hp->V->Hp->Prop
 stop:Nat->Hp->Prop
def FpOk(X:Cx)(pins:List (Addr×Obj))(H:Hp)(b:Addr):Prop:=H b=none/\b≠X.env.locals/\b∉X.fs/\(b∈X.ex\/X.s₀.heap.objs.size<=b)/\(∀x c,X.env.cells.lookup x=some c->c≠b)/\∀p∈X.pn++pins,p.1≠b
theorem Inv.fpOk{X:Cx}{pins:List (Addr×Obj)}{σ:St}{H H':Hp}{s:Shared}{b:Addr}(I:Inv X pins σ H s)(hb:s.heap.objs.size<=b)(hn:H' b=none):FpOk X pins H' b:=by refine⟨hn,ne_of_gt (lt_of_lt_of_le I.lt hb),I.nofs hb,.inr (le_trans I.sz hb),fun x c e z=>?_,fun p hp z=>?_⟩;obtain⟨v,q⟩:=I.cell x c e;exact absurd (lt_of_lt_of_le q.lt (by rw[z];exact hb)) (lt_irrefl _);exact absurd (lt_of_lt_of_le (Heap.lt_size (I.pin p hp).1) (by rw[z];exact hb)) (lt_irrefl _)
structure Turn(P:Program)(w:World)(K:Frag)(tg:Expr)(J:It)(fp:List Addr)(it:Addr)(tn:Nat->Heap->Prop):Prop where
 mem:it∈fp
 obj:∀i h,tn i h->∀b∈fp,∃o,h.get? b=some o/\∀v,o.data≠.cell v
 keep:∀i h h',tn i h->(∀b∈fp,∀o,h.get? b=some o->h'.get? b=some o)->tn i h'
 item:∀(X:Cx),X.prog=P->X.w=w->X.K=K->X.calm=true->∀(i:Nat)(pins:List (Addr×Obj))(s:Shared)(σ:St)(H:Hp)(E:Value->Shared->Prop),Inv X pins σ H s->(∀b∈fp,FpOk X pins H b)->tn i s.heap->J.go i H->
  wpAny (model P w) X.A (pyNext (.ref it)) (fun r s1=>∃u,r=some u/\
   wpAny (model P w) X.A (letOwnedTupleGo tg (.ref it) u) (fun _ s2=>∃x H',Inv X pins σ H' s2/\RelV x u/\J.yld i H x H'/\tn (i+1) s2.heap/\∀b∈fp,H' b=none) E s1) E s
 done:∀(X:Cx),X.prog=P->X.w=w->X.K=K->X.calm=true->∀(i:Nat)(pins:List (Addr×Obj))(s:Shared)(σ:St)(H:Hp)(E:Value->Shared->Prop),Inv X pins σ H s->(∀b∈fp,FpOk X pins H b)->tn i s.heap->J.stop i H->
  wpAny (model P w) X.A (pyNext (.ref it)) (fun r s1=>r=none/\Inv X pins σ H s1) E s
 self:∀(A:Around)(i:Nat)(s:Shared)(Q:Value->Shared->Prop)(E:Value->Shared->Prop),tn i s.heap->Q (.ref it) s->wpAny (model P w) A (pyIter (.ref it)) Q E s
abbrev TI:=St->Hp->(It->Hp->Prop)->Prop
def PIE(X:Cx)(pins:List (Addr×Obj))(σ:St)(tg:Expr)(R:It->Hp->Prop)(itv:Value)(s2:Shared):Prop:=∃(it:Addr) (fp:List Addr) (tn:Nat->Heap->Prop) (J:It) (H':Hp),itv=.ref it/\Inv X pins σ H' s2/\Turn X.prog X.w X.K tg J fp it tn/\tn 0 s2.heap/\(∀b∈fp,FpOk X pins H' b)/\R J H'
def PI(X:Cx)(tg iter:Expr)(wi:TI):Prop:=
 ∀(pins:List (Addr×Obj))(s:Shared)(σ:St)(H:Hp)(R:It->Hp->Prop),Inv X pins σ H s->wi σ H R->
  wpAny (model X.prog X.w) X.A (eval iter X.env) (fun v s1=>wpAny (model X.prog X.w) X.A (pyIter v) (PIE X pins σ tg R) X.xe s1) X.xe s
theorem zml{M:Model}{A:Around}{E:Value->Shared->Prop}{s:Shared}{tg:Expr}{it:Addr}{u:Value}{o:Obj}{n:String}{vs:Array Value}{Q:Unit->Shared->Prop}(ho:s.heap.get? it=some o)(hc:o.cls=.type n)(hd:o.data=.fields vs)
  (hn:["enumerate","zip","dict_itemiterator","dict_reverseitemiterator","odict_iterator","itertools.zip_longest","itertools.pairwise"].contains n=false) (hQ:Q () s):wpAny M A (letOwnedTupleGo tg (.ref it) u) Q E s:=by
 unfold letOwnedTupleGo;cases tg<;>first
  |exact wpAny_pure hQ
  |(cases u<;>first
   |exact wpAny_pure hQ
   | (refine wpAny_bind (wpAny_load ho ?_)
      rw[hc,hd];show wpAny M A (if(["enumerate","zip","dict_itemiterator","dict_reverseitemiterator","odict_iterator","itertools.zip_longest","itertools.pairwise"].contains n&&vs[0]?==some (rawInt _))=true then _ else _) Q E s;rw[if_neg (by intro h;rw[hn,Bool.false_and]at h;cases h)];exact wpAny_pure hQ))
noncomputable def Itl(K:Frag)(a:Addr):It:=⟨fun i H=>∃xs x,SqL K H a xs/\xs[i]?=some x,fun i H x H'=>H'=H/\∀xs,SqL K H a xs->xs[i]?=some x,fun i H=>∃xs,SqL K H a xs/\xs.length<=i⟩
noncomputable def Itt(K:Frag)(a:Addr):It:=⟨fun i H=>∃xs x,SqT K H a xs/\xs[i]?=some x,fun i H x H'=>H'=H/\∀xs,SqT K H a xs->xs[i]?=some x,fun i H=>∃xs,SqT K H a xs/\xs.length<=i⟩
noncomputable def Itr(lo:Int)(n:Nat):It:=⟨fun i _=>i<n,fun i H x H'=>H'=H/\x=.int (lo+i),fun i _=>n<=i⟩
theorem zhd{P:Program}{w:World}{K:Frag}{tg:Expr}(a it:Addr):Turn P w K tg (Itl K a) [it] it (fun i h=>h.IsListIter it a i) where
 mem:=by simp
 obj:=fun i h st b hb=>by
  have e:b=it:=by simpa using hb
  subst e;obtain⟨o,e,c,d⟩:=st;exact⟨o,e,fun v z=>by rw[d]at z;cases z⟩
 keep:=fun i h h' st k=>st.at fun o e=>k it (by simp) o e
 item:=by intro X hP hw hK hc i pins s σ H E I hf st hg;subst hP hw hK;obtain⟨xs,x,hq,hx⟩:=hg;obtain⟨its,rv,p,hz⟩:=I.list hq;obtain⟨u,hu,ru⟩:=rv.get hx;obtain⟨f0,f1,f2,f3,f4,f5⟩:=hf it (by simp);refine wpAny_pyNext_list_item st p.isList (x:=u) (by simpa using hu) fun h' st' sb=>?_;have I1:Inv X pins σ H {s with heap:=h'}:=I.turned (t':=s.toks) (fun b o hb e=>(sb.2 b hb).trans e) f0 f1 f3 f4 f5;obtain⟨o,e,c,d⟩:=id st';exact⟨u,rfl,zml (s:={s with heap:=h'}) e c d (by decide) ⟨x,H,I1,ru,⟨rfl,fun ys hy=>by rw[I.list_inj hy hq];exact hx⟩,st',fun b hb=>(hf b hb).1⟩⟩
 done:=by intro X hP hw hK hc i pins s σ H E I hf st hg;subst hP hw hK;obtain⟨xs,hq,hx⟩:=hg;obtain⟨its,rv,p,hz⟩:=I.list hq;obtain⟨f0,f1,f2,f3,f4,f5⟩:=hf it (by simp);have hl:=rv.length;exact wpAny_pyNext_list_end (I.ok.hd hc) st p.isList (by simp;omega) fun h' eb=>⟨rfl,I.turned (t':=s.toks) (fun b o hb e=>eb b o hb e) f0 f1 f3 f4 f5⟩
 self:=fun _ _ _ _ _ st h=>wpAny_pyIter_listiter st h
theorem zgy{P:Program}{w:World}{K:Frag}{tg:Expr}(a it:Addr):Turn P w K tg (Itt K a) [it] it (fun i h=>h.IsTupleIter it a i) where
 mem:=by simp
 obj:=fun i h st b hb=>by
  have e:b=it:=by simpa using hb
  subst e;obtain⟨o,e,c,d⟩:=st;exact⟨o,e,fun v z=>by rw[d]at z;cases z⟩
 keep:=fun i h h' st k=>st.at fun o e=>k it (by simp) o e
 item:=by intro X hP hw hK hc i pins s σ H E I hf st hg;subst hP hw hK;obtain⟨xs,x,hq,hx⟩:=hg;obtain⟨its,rv,p,hz⟩:=I.tuple hq;obtain⟨u,hu,ru⟩:=rv.get hx;obtain⟨f0,f1,f2,f3,f4,f5⟩:=hf it (by simp);refine wpAny_pyNext_tuple_item st (show s.heap.IsTuple a its.toArray from p) (x:=u) (by simpa using hu) fun h' st' sb=>?_;have I1:Inv X pins σ H {s with heap:=h'}:=I.turned (t':=s.toks) (fun b o hb e=>(sb.2 b hb).trans e) f0 f1 f3 f4 f5;obtain⟨o,e,c,d⟩:=id st';exact⟨u,rfl,zml (s:={s with heap:=h'}) e c d (by decide) ⟨x,H,I1,ru,⟨rfl,fun ys hy=>by rw[I.tuple_inj hy hq];exact hx⟩,st',fun b hb=>(hf b hb).1⟩⟩
 done:=by intro X hP hw hK hc i pins s σ H E I hf st hg;subst hP hw hK;obtain⟨xs,hq,hx⟩:=hg;obtain⟨its,rv,p,hz⟩:=I.tuple hq;obtain⟨f0,f1,f2,f3,f4,f5⟩:=hf it (by simp);have hl:=rv.length;exact wpAny_pyNext_tuple_end (I.ok.hd hc) st (show s.heap.IsTuple a its.toArray from p) (by simp;omega) fun h' eb=>⟨rfl,I.turned (t':=s.toks) (fun b o hb e=>eb b o hb e) f0 f1 f3 f4 f5⟩
 self:=fun _ _ _ _ _ st h=>wpAny_pyIter_tupleiter st h
theorem zgz{P:Program}{w:World}{K:Frag}{tg:Expr}(it:Addr)(lo:Int)(n:Nat):Turn P w K tg (Itr lo n) [it] it (fun i h=>IsRangeIter h it (lo+(i:Nat)*1) ((n:Int)-(i:Nat)) 1) where
 mem:=by simp
 obj:=fun i h st b hb=>by
  have e:b=it:=by simpa using hb
  subst e;exact⟨_,st,fun v z=>by have z':Data.fields _=Data.cell v:=z;cases z'⟩
 keep:=fun i h h' st k=>k it (by simp) _ st
 item:=by intro X hP hw hK hc i pins s σ H E I hf st hg;subst hP hw hK;obtain⟨f0,f1,f2,f3,f4,f5⟩:=hf it (by simp);have W:=Walks.range (prog:=X.prog) (w:=X.w) (I.ok.hd hc) it lo 1 n;refine W.item i s _ _ hg st fun v h' tk hv st' kk=>?_;obtain⟨t,rfl⟩:=hv;have I1:Inv X pins σ H {s with heap:=h',toks:=tk}:=I.turned (fun b o hb e=>kk b o (by simpa using hb) e) f0 f1 f3 f4 f5;refine⟨_,rfl,zml (s:={s with heap:=h',toks:=tk}) (n:="range_iterator") st' rfl rfl (by decide) ⟨.int (lo+i),H,I1,⟨t,?_⟩,⟨rfl,rfl⟩,st',fun b hb=>(hf b hb).1⟩⟩;rw[Int.mul_one]
 done:=by intro X hP hw hK hc i pins s σ H E I hf st hg;subst hP hw hK;obtain⟨f0,f1,f2,f3,f4,f5⟩:=hf it (by simp);exact wpAny_pyNext_range_end (I.ok.hd hc) st (by have:n<=i:=hg;omega) fun h' eb=>⟨rfl,I.turned (t':=s.toks) (fun b o hb e=>eb b o hb e) f0 f1 f3 f4 f5⟩
 self:=fun _ _ _ _ _ st h=>wpAny_pyIter_rangeiter st h
section
variable{X:Cx}{tg:Expr}
theorem zfS{pins:List (Addr×Obj)}{σ:St}{H:Hp}{s:Shared}{R:It->Hp->Prop}{E:Value->Shared->Prop}{lo hi:Int}{t u v:Tok}{tk:Nat}(I:Inv X pins σ H s)(h1:-(2^62)<=lo)(h2:lo<2^62)(h3:-(2^62)<=hi)(h4:hi<2^62)
  (q:R (Itr lo (hi-lo).toNat) H):wpAny (model X.prog X.w) X.A (pyIter (.ref s.heap.objs.size)) (PIE X pins σ tg R) E {s with heap:=s.heap.push {cls:=.type "range",data:=.fields #[.int lo t,.int hi u,.int 1 v]},toks:=tk}:=by
 refine wpAny_pyIter_range (IsRange.new ..) (small_one h1 h2 h3 h4) ?_;have I1:Inv X pins σ H {s with heap:=s.heap.push {cls:=.type "range",data:=.fields #[.int lo t,.int hi u,.int 1 v]},toks:=tk}:=I.kept fun b o e=>Heap.get?_push_of_some _ e;refine⟨(s.heap.push {cls:=.type "range",data:=.fields #[.int lo t,.int hi u,.int 1 v]}).objs.size,[(s.heap.push {cls:=.type "range",data:=.fields #[.int lo t,.int hi u,.int 1 v]}).objs.size],_,_,H,rfl,
  I1.kept (t':=tk) fun b o e=>Heap.get?_push_of_some _ e,zgz _ lo (hi-lo).toNat,?_,fun b hb=>?_,q⟩
 have e1:lo+((0:Nat):Int)*1=lo:=by simp
 have e2:(((hi-lo).toNat:Nat):Int)-((0:Nat):Int)=Builtin.Range.rangeSize lo hi 1:=by rw[rangeSize_one];split<;>omega
 show IsRangeIter _ _ (lo+((0:Nat):Int)*1) ((((hi-lo).toNat:Nat):Int)-((0:Nat):Int)) 1;rw[e1,e2];exact Heap.get?_push_size _ rfl;have e:b=(s.heap.push {cls:=.type "range",data:=.fields #[.int lo t,.int hi u,.int 1 v]}).objs.size:=by simpa using hb
 subst e;exact I1.fpOk (le_refl _) (I1.hok.fresh (le_refl _))
def zpT(ta:TA):TI:=fun σ H R=>ta σ H fun vs H1=>∃j:Int,vs=[.int j]/\-(2^62)<=j/\j<2^62/\R (Itr 0 j.toNat) H1
def zpS(ta:TA):TI:=fun σ H R=>ta σ H fun vs H1=>∃i j:Int,vs=[.int i,.int j]/\(-(2^62)<=i/\i<2^62/\-(2^62)<=j/\j<2^62)/\R (Itr i (j-i).toNat) H1
theorem zhC{a:Expr}{ta:TA}{p pos:Pos}(hg:Gl X "range")(hm:X.mg "range"=none)(ha:PA X [a] ta)(hs:starEach [a] X.env=[(false,eval a X.env)]:=by rfl):PI X tg (.Call (.Name "range" p) [a] [] pos) (zpT ta):=by intro pins s σ H R I h;refine Call_ (zcK I hg hm boot_range (PyProof.Rows.callWith_type1 (thn (ha pos pins s σ H _ I h) fun us s1 ⟨vs,H1,I1,r1,q1⟩=>?_) hs rfl));obtain⟨j,e,q1,q2,q⟩:=q1;subst e;cases r1 with| cons r rr=>cases rr;obtain⟨t,rfl⟩:=r;exact call_range_1 (zfS I1 (by omega) (by omega) q1 q2 (by simpa using q))
theorem zhB{a b:Expr}{ta:TA}{p pos:Pos}(hg:Gl X "range")(hm:X.mg "range"=none)(ha:PA X [a,b] ta)(hs:starEach [a,b] X.env=[(false,eval a X.env),(false,eval b X.env)]:=by rfl)(hs2:starEach [b] X.env=[(false,eval b X.env)]:=by rfl) :
  PI X tg (.Call (.Name "range" p) [a,b] [] pos) (zpS ta):=by
 intro pins s σ H R I h;refine Call_ (zcK I hg hm boot_range (PyProof.Rows.callWith_type1 (thn (ha pos pins s σ H _ I h) fun us s1 ⟨vs,H1,I1,r1,q1⟩=>?_) (by rw[hs,hs2]) (by rw[hs2];rfl)));obtain⟨i,j,e,⟨q1,q2,q3,q4⟩,q⟩:=q1;subst e;cases r1 with| cons r rr=>cases rr with| cons r' rr=>cases rr;obtain⟨t,rfl⟩:=r;obtain⟨t',rfl⟩:=r';exact call_range_2 (zfS I1 q1 q2 q3 q4 q)
def tFor(wi:TI)(g:TG)(tb:TS):TS:=fun D σ H=>wi σ H fun J H1=>∃W:Nat->Nat->St->Hp->Prop,(∃m,W 0 m σ H1)/\∀i m σ H,W i m σ H->
 (J.stop i H/\D.nx σ H)\/(J.go i H/\∃N:St->Hp->Prop,(∀σ' H',N σ' H'->∃m',m'<m/\W (i+1) m' σ' H')/\∀x H',J.yld i H x H'->g x σ H' fun σ2 H2=>tb {D with nx:=N,ct:=N,bk:=D.nx} σ2 H2)
noncomputable def zeC(fp:List Addr)(h:Heap):List (Addr×Obj):=fp.filterMap fun b=>(h.get? b).map fun o=>(b,o)
theorem zbD{fp:List Addr}{h:Heap}{b:Addr}{o:Obj}(hb:b∈fp)(e:h.get? b=some o):(b,o)∈zeC fp h:=List.mem_filterMap.mpr ⟨b,hb,by rw[e];rfl⟩
theorem zhL{fp:List Addr}{h:Heap}{p:Addr×Obj}(hp:p∈zeC fp h):p.1∈fp/\h.get? p.1=some p.2:=by
 obtain⟨b,hb,e⟩:=List.mem_filterMap.mp hp;cases q:h.get? b with
 |none=>rw[q]at e;cases e
 |some o=>rw[q]at e;have e':(b,o)=p:=Option.some.inj e;subst e';exact⟨hb,q⟩
theorem Inv.pinned{pins:List (Addr×Obj)}{σ:St}{H:Hp}{s:Shared}{fp:List Addr}(I:Inv X pins σ H s)(hf:∀b∈fp,FpOk X pins H b)(ho:∀b∈fp,∃o,s.heap.get? b=some o/\∀v,o.data≠.cell v):Inv X (pins++zeC fp s.heap) σ H s:=I.pins_of fun p hp=>(mem_append.mp hp).elim (fun z=>I.pin p (mem_append_right _ z)) fun z=>by obtain⟨hb,e⟩:=zhL z;obtain⟨f0,f1,f2,_⟩:=hf p.1 hb;obtain⟨o,e',d⟩:=ho p.1 hb;rw[e]at e';cases e';exact⟨e,f0,f1,f2,d⟩
theorem Inv.unpinned{pins pl:List (Addr×Obj)}{σ:St}{H:Hp}{s:Shared}(I:Inv X (pins++pl) σ H s):Inv X pins σ H s:=I.pins_of fun p hp=>I.pin p (mem_append_right _ (mem_append_left _ hp))
theorem znI{iter:Expr}{body:List Stmt}{wi:TI}{g:TG}{tb:TS}{pos:Pos}(hp:PassesOwn (model X.prog X.w) X.A X.env X.xe)(hc:X.calm=true)(hi:PI X tg iter wi)(hg:PG X tg g)(hb:PSs X body tb)
  (hs:∀x,foldedSetIterable iter X.env x=pure x:=by intro _;rfl):PS X (.For tg iter body [] pos) (tFor wi g tb):=by
 intro pins s σ H D I h;refine wpAny_For (thn (hi pins s σ H _ I h) fun v s1 h1=>thn h1 fun itv s2 h2=>?_) hs;obtain⟨it,fp,tn,J,H2,e,I2,T,st2,f2,W,⟨m0,w0⟩,turn⟩:=h2;subst e
 -- what stays true of the iterator's objects through the loop
 have stat:∀{H':Hp},(∀b∈fp,H' b=none)->∀b∈fp,FpOk X pins H' b:=fun hn b hb=>⟨hn b hb,(f2 b hb).2⟩;refine codeAny_forLoop_any (fun n s'=>∃i σ' H',Inv X pins σ' H' s'/\tn i s'.heap/\(∀b∈fp,H' b=none)/\W i n σ' H') ?_ m0 ⟨0,σ,H2,I2,st2,fun b hb=>(f2 b hb).1,w0⟩;rintro n s3 ⟨i,σ3,H3,I3,st3,fr3,w3⟩;rcases turn i n σ3 H3 w3 with⟨stop,qn⟩|⟨go,N,hN,step⟩;refine wpAny_passesOwn hp (thn (T.done X rfl rfl rfl hc i pins s3 σ3 H3 X.xe I3 (stat fr3) st3 stop) fun r s4 ⟨hr,I4⟩=>?_);subst hr;exact wpAny_execs_nil ⟨σ3,H3,I4,qn⟩;refine wpAny_passesOwn hp (thn (T.item X rfl rfl rfl hc i pins s3 σ3 H3 X.xe I3 (stat fr3) st3 go) fun r s4 ⟨u,hr,h4⟩=>?_);subst hr;refine wpAny_passesOwn hp (thn h4 fun _ s5 ⟨x,H5,I5,r5,y5,st5,fr5⟩=>?_);have I5':=I5.pinned (stat fr5) (T.obj _ _ st5);refine wpAny_passesOwn hp (thn (hg _ s5 σ3 H5 x u _ I5' r5 (step x H5 y5)) fun _ s6 ⟨σ6,H6,I6,q6⟩=>?_);refine wpAny_passesOwn hp (thn (hb _ s6 σ6 H6 _ I6 q6) fun f s7 q7=>?_);have again:∀{σ7:St}{H7:Hp},Inv X (pins++zeC fp s5.heap) σ7 H7 s7->N σ7 H7->∃m,m<n/\∃i σ' H',Inv X pins σ' H' s7/\tn i s7.heap/\(∀b∈fp,H' b=none)/\W i m σ' H':=fun {σ7 H7} I7 n7=>by obtain⟨m',hm,w7⟩:=hN σ7 H7 n7;refine⟨m',hm,i+1,σ7,H7,I7.unpinned,T.keep _ _ _ st5 fun b hb o e=>(I7.pin (b,o) (mem_append_right _ (mem_append_right _ (zbD hb e)))).1,fun b hb=>?_,w7⟩;obtain⟨o,e,d⟩:=T.obj _ _ st5 b hb;exact(I7.pin (b,o) (mem_append_right _ (mem_append_right _ (zbD hb e)))).2.1
 cases f with|next=>obtain⟨σ7,H7,I7,n7⟩:=q7;exact again I7 n7|cont=>obtain⟨σ7,H7,I7,n7⟩:=q7;exact again I7 n7|brk=>obtain⟨σ7,H7,I7,q7⟩:=q7;exact⟨σ7,H7,I7.unpinned,q7⟩|ret v=>obtain⟨x7,σ7,H7,I7,r7,q7⟩:=q7;exact⟨x7,σ7,H7,I7.unpinned,r7,q7⟩
end
abbrev R2:=V->V->Hp->VK->Prop
def OpR(X:Cx)(f:Value->Value->Sem Value)(r:R2):Prop:=
 ∀(pins:List (Addr×Obj))(s:Shared)(σ:St)(H:Hp)(x y:V)(v u:Value)(Q:VK),Inv X pins σ H s->RelV x v->RelV y u->r x y H Q->
  wpAny (model X.prog X.w) X.A (f v u) (EP X pins σ Q) X.xe s
def UnR(X:Cx)(f:Value->Sem Value)(r:V->Hp->VK->Prop):Prop:=
 ∀(pins:List (Addr×Obj))(s:Shared)(σ:St)(H:Hp)(x:V)(v:Value)(Q:VK),Inv X pins σ H s->RelV x v->r x H Q->
  wpAny (model X.prog X.w) X.A (f v) (EP X pins σ Q) X.xe s
def zbb(X:Cx)(f:Value)(r:List V->Hp->VK->Prop):Prop:=
 ∀(pins:List (Addr×Obj))(s:Shared)(σ:St)(H:Hp)(xs:List V)(us:List Value)(Q:VK),Inv X pins σ H s->Vals xs us->r xs H Q->
  wpAny (model X.prog X.w) X.A (call f us) (EP X pins σ Q) X.xe s
def TruR(X:Cx)(r:V->Hp->(Bool->Hp->Prop)->Prop):Prop:=
 ∀(pins:List (Addr×Obj))(s:Shared)(σ:St)(H:Hp)(x:V)(v:Value)(Q:Bool->Hp->Prop),Inv X pins σ H s->RelV x v->r x H Q->
  wpAny (model X.prog X.w) X.A (truthy v) (TP X pins σ Q) X.xe s
def tOp(r:R2)(ta tb:TE):TE:=fun σ H Q=>ta σ H fun x H1=>tb σ H1 fun y H2=>r x y H2 Q
def tUn(r:V->Hp->VK->Prop)(ta:TE):TE:=fun σ H Q=>ta σ H fun x H1=>r x H1 Q
def rI(C:Int->Int->Prop)(g:Int->Int->V):R2:=fun x y H Q=>∃i j,x=.int i/\y=.int j/\C i j/\Q (g i j) H
def rI0(g:Int->Int->V):R2:=fun x y H Q=>∃i j,x=.int i/\y=.int j/\Q (g i j) H
def rU(g:Int->V):V->Hp->VK->Prop:=fun x H Q=>∃i,x=.int i/\Q (g i) H
section
variable{X:Cx}{a b c:Expr}{ta tb tc:TE}{pos:Pos}
theorem binT(ha:PE X a ta)(hb:PE X b tb){pins:List (Addr×Obj)}{s:Shared}{σ:St}{H:Hp}{R:V->V->Hp->Prop}(I:Inv X pins σ H s)
  (h:ta σ H fun x H1=>tb σ H1 fun y H2=>R x y H2) {Q:Value->Shared->Prop} {f:Value->Value->Sem Value}
  (hf:∀v u s2 x y H2,Inv X pins σ H2 s2->RelV x v->RelV y u->R x y H2->wpAny (model X.prog X.w) X.A (f v u) Q X.xe s2) :
  wpAny (model X.prog X.w) X.A (eval a X.env) (fun v s₁=>wpAny (model X.prog X.w) X.A (eval b X.env) (fun u s₂=>wpAny (model X.prog X.w) X.A (f v u) Q X.xe s₂) X.xe s₁) X.xe s:=by
 refine thn (ha pins s σ H _ I h) fun v s1 ⟨x,H1,I1,r1,q1⟩=>?_;refine thn (hb pins s1 σ H1 _ I1 q1) fun u s2 ⟨y,H2,I2,r2,q2⟩=>?_;exact hf v u s2 x y H2 I2 r1 r2 q2
theorem zpA{op:Operator}{r:R2}(ho:OpR X (binaryOp op) r)(ha:PE X a ta)(hb:PE X b tb):PE X (.BinOp a op b pos) (tOp r ta tb):=by intro pins s σ H Q I h;exact wpAny_BinOp (binT ha hb I h fun v u s2 x y H2 I2 rx ry q=>ho pins s2 σ H2 x y v u Q I2 rx ry q)
theorem zpy{op:UnaryOp}{r:V->Hp->VK->Prop}(ho:UnR X (unaryOp op) r)(ha:PE X a ta):PE X (.UnaryOp op a pos) (tUn r ta):=by intro pins s σ H Q I h;exact UnaryOp_ (thn (ha pins s σ H _ I h) fun v s1 ⟨x,H1,I1,r1,q1⟩=>ho pins s1 σ H1 x v Q I1 r1 q1)
theorem opI{f:Value->Value->Sem Value}{C:Int->Int->Prop}{g:Int->Int->Int}
  (rule:∀(i j:Int)(t u:Tok)(s:Shared)(Q:Value->Shared->Prop)(E:Value->Shared->Prop),C i j->Q (.int (g i j) s.toks) {s with toks:=s.toks+1}->wpAny (model X.prog X.w) X.A (f (.int i t) (.int j u)) Q E s) :
  OpR X f (rI C fun i j=>.int (g i j)):=by
 intro pins s σ H x y v u Q I rx ry h;obtain⟨i,j,rfl,rfl,hc,q⟩:=h;obtain⟨t,rfl⟩:=rx;obtain⟨t',rfl⟩:=ry;exact rule i j t t' s _ _ hc ⟨.int (g i j),H,I.tok _,⟨_,rfl⟩,q⟩
theorem opI0{f:Value->Value->Sem Value}{g:Int->Int->Int}
  (rule:∀(i j:Int)(t u:Tok)(s:Shared)(Q:Value->Shared->Prop)(E:Value->Shared->Prop),Q (.int (g i j) s.toks) {s with toks:=s.toks+1}->wpAny (model X.prog X.w) X.A (f (.int i t) (.int j u)) Q E s) :
  OpR X f (rI0 fun i j=>.int (g i j)):=by
 intro pins s σ H x y v u Q I rx ry h;obtain⟨i,j,rfl,rfl,q⟩:=h;obtain⟨t,rfl⟩:=rx;obtain⟨t',rfl⟩:=ry;exact rule i j t t' s _ _ ⟨.int (g i j),H,I.tok _,⟨_,rfl⟩,q⟩
theorem opB0{f:Value->Value->Sem Value}{g:Int->Int->Bool}
  (rule:∀(i j:Int)(t u:Tok)(s:Shared)(Q:Value->Shared->Prop)(E:Value->Shared->Prop),Q (.bool (g i j)) s->wpAny (model X.prog X.w) X.A (f (.int i t) (.int j u)) Q E s) :
  OpR X f (rI0 fun i j=>.bl (g i j)):=by
 intro pins s σ H x y v u Q I rx ry h;obtain⟨i,j,rfl,rfl,q⟩:=h;obtain⟨t,rfl⟩:=rx;obtain⟨t',rfl⟩:=ry;exact rule i j t t' s _ _ ⟨.bl (g i j),H,I,rfl,q⟩
def CDiv(i j:Int):Prop:=0<j/\j<1073741824
def CPow(i j:Int):Prop:=0<=j/\j<=1000000/\i.natAbs<2^64
def CMul(i j:Int):Prop:=(-(2^64)<i/\i<2^64)\/(-(2^64)<j/\j<2^64)
theorem CMul.ok{i j:Int}(h:CMul i j):IntMulOk i j:=by rcases h with⟨h1,h2⟩|⟨h1,h2⟩;exact .of_left (intBits_le_64 h1 h2);exact .of_right (intBits_le_64 h1 h2)
theorem zn7:OpR X (binaryOp .Add) (rI0 fun i j=>.int (i+j)):=opI0 fun _ _ _ _ _ _ _ q=>add_int q
theorem zn0:OpR X (binaryOp .Sub) (rI0 fun i j=>.int (i-j)):=opI0 fun _ _ _ _ _ _ _ q=>sub_int q
theorem zn3:OpR X (binaryOp .Mult) (rI CMul fun i j=>.int (i*j)):=opI fun _ _ _ _ _ _ _ hc q=>mul_int q hc.ok
theorem zl1:OpR X (binaryOp .FloorDiv) (rI CDiv fun i j=>.int (i/j)):=opI fun i j _ _ _ _ _ hc q=>by have h1:(0:Int)<j:=hc.1;have h2:j<1073741824:=hc.2;exact floordiv_int (by omega) (by rw[Int.fdiv_eq_ediv_of_nonneg i (by omega)];exact q) (.inl (PyProof.noPylong_small (by omega)))
theorem zn4:OpR X (binaryOp .Mod) (rI (fun _ j=>0<j) fun i j=>.int (i%j)):=opI fun i j _ _ _ _ _ hc q=>by have h1:(0:Int)<j:=hc;exact mod_int' (by omega) (by rw[Int.fmod_eq_emod_of_nonneg i (by omega)];exact q)
theorem zn1:OpR X (binaryOp .Pow) (rI CPow fun i j=>.int (i^j.toNat)):=opI fun _ _ _ _ _ _ _ hc q=>pow_int_small hc.1 hc.2.1 hc.2.2 q
theorem unI{f:Value->Sem Value}{g:Int->Int}
  (rule:∀(i:Int)(t:Tok)(s:Shared)(Q:Value->Shared->Prop)(E:Value->Shared->Prop),Q (.int (g i) s.toks) {s with toks:=s.toks+1}->wpAny (model X.prog X.w) X.A (f (.int i t)) Q E s) :
  UnR X f (rU fun i=>.int (g i)):=by
 intro pins s σ H x v Q I rx h;obtain⟨i,rfl,q⟩:=h;obtain⟨t,rfl⟩:=rx;exact rule i t s _ _ ⟨.int (g i),H,I.tok _,⟨_,rfl⟩,q⟩
theorem zmS:UnR X (unaryOp .USub) (rU fun i=>.int (-i)):=unI fun _ _ _ _ _ q=>neg_int q
end
noncomputable def scal:V->V->Bool
 |.non,.non=>true|.non,.int _=>true|.int _,.non=>true|.non,.bl _=>true|.bl _,.non=>true|.non,.str _=>true|.str _,.non=>true
 |.int _,.int _=>true|.bl _,.bl _=>true|.str _,.str _=>true|.byt _,.byt _=>true
 |.int _,.str _=>true|.str _,.int _=>true|.bl _,.str _=>true|.str _,.bl _=>true
 |_,_=>false
def rEq:R2:=fun x y H Q=>scal x y=true/\Q (.bl (decide (x=y))) H
def rNe:R2:=fun x y H Q=>scal x y=true/\Q (.bl (!decide (x=y))) H
theorem ziG{i j:Int}:decide (V.int i=V.int j)=(i==j):=by rw[Bool.eq_iff_iff];simp
theorem zkL{i j:Bool}:decide (V.bl i=V.bl j)=(i==j):=by rw[Bool.eq_iff_iff];simp
theorem ziF{i j:Str}:decide (V.str i=V.str j)=(i==j):=by rw[Bool.eq_iff_iff];simp
theorem ziH{i j:Array UInt8}:decide (V.byt i=V.byt j)=(i.toList==j.toList):=by rw[Bool.eq_iff_iff];cases i;cases j;simp
section
variable{X:Cx}{a b c:Expr}{ta tb tc:TE}{pos:Pos}
theorem zap{pins:List (Addr×Obj)}{σ:St}{H:Hp}{s:Shared}{Q:VK}{k k':Bool}(I:Inv X pins σ H s)(q:Q (.bl k) H)(e:k=k'):EP X pins σ Q (.bool k') s:=by subst e;exact⟨.bl k,H,I,rfl,q⟩
theorem zpM:OpR X (compareOp .Eq) rEq:=by
 intro pins s σ H x y v u Q I rx ry h;obtain⟨hs,q⟩:=h;cases x with
 |non=>cases rx;cases y with|non=>cases ry;exact PySem.EqNone.eq_none_none (zap I q (by simp))|bl j=>cases ry;exact PySem.EqNone.eq_none_bool (zap I q (by simp))|int j=>obtain⟨t',rfl⟩:=ry;exact PySem.EqNone.eq_none_int (zap I q (by simp))|str j=>obtain⟨t',rfl⟩:=ry;exact PySem.EqNone.eq_none_str (zap I q (by simp))|_=>exact absurd (show false=true from hs) Bool.false_ne_true
 |bl i=>cases rx;cases y with|non=>cases ry;exact PySem.EqNone.eq_bool_none (zap I q (by simp))|bl j=>cases ry;exact eq_bool (zap I q zkL)|str j=>obtain⟨t',rfl⟩:=ry;exact PySem.EqMixed.eq_bool_str (zap I q (by simp))|_=>exact absurd (show false=true from hs) Bool.false_ne_true
 |int i=>obtain⟨t,rfl⟩:=rx;cases y with|non=>cases ry;exact PySem.EqNone.eq_int_none (zap I q (by simp))|int j=>obtain⟨t',rfl⟩:=ry;exact eq_int (zap I q ziG)|str j=>obtain⟨t',rfl⟩:=ry;exact PySem.EqMixed.eq_int_str (zap I q (by simp))|_=>exact absurd (show false=true from hs) Bool.false_ne_true
 |str i=>obtain⟨t,rfl⟩:=rx;cases y with|non=>cases ry;exact PySem.EqNone.eq_str_none (zap I q (by simp))|bl j=>cases ry;exact PySem.EqMixed.eq_str_bool (zap I q (by simp))|int j=>obtain⟨t',rfl⟩:=ry;exact PySem.EqMixed.eq_str_int (zap I q (by simp))|str j=>obtain⟨t',rfl⟩:=ry;exact eq_str (zap I q ziF)|_=>exact absurd (show false=true from hs) Bool.false_ne_true
 |byt i=>obtain⟨t,rfl⟩:=rx;cases y with|byt j=>obtain⟨t',rfl⟩:=ry;exact PySem.W.eq_bytes (zap I q ziH)|_=>exact absurd (show false=true from hs) Bool.false_ne_true
 |_=>cases y<;>exact absurd (show false=true from hs) Bool.false_ne_true
theorem zpH:OpR X (compareOp .NotEq) rNe:=by
 intro pins s σ H x y v u Q I rx ry h;obtain⟨hs,q⟩:=h;cases x with
 |non=>cases rx;cases y with|non=>cases ry;exact PySem.EqNone.ne_none_none (zap I q (by simp))|bl j=>cases ry;exact PySem.EqNone.ne_none_bool (zap I q (by simp))|int j=>obtain⟨t',rfl⟩:=ry;exact PySem.EqNone.ne_none_int (zap I q (by simp))|str j=>obtain⟨t',rfl⟩:=ry;exact PySem.EqNone.ne_none_str (zap I q (by simp))|_=>exact absurd (show false=true from hs) Bool.false_ne_true
 |bl i=>cases rx;cases y with|non=>cases ry;exact PySem.EqNone.ne_bool_none (zap I q (by simp))|bl j=>cases ry;exact ne_bool (zap I q (congrArg not zkL))|str j=>obtain⟨t',rfl⟩:=ry;exact PySem.EqMixed.ne_bool_str (zap I q (by simp))|_=>exact absurd (show false=true from hs) Bool.false_ne_true
 |int i=>obtain⟨t,rfl⟩:=rx;cases y with|non=>cases ry;exact PySem.EqNone.ne_int_none (zap I q (by simp))|int j=>obtain⟨t',rfl⟩:=ry;exact ne_int (zap I q (congrArg not ziG))|str j=>obtain⟨t',rfl⟩:=ry;exact PySem.EqMixed.ne_int_str (zap I q (by simp))|_=>exact absurd (show false=true from hs) Bool.false_ne_true
 |str i=>obtain⟨t,rfl⟩:=rx;cases y with|non=>cases ry;exact PySem.EqNone.ne_str_none (zap I q (by simp))|bl j=>cases ry;exact PySem.EqMixed.ne_str_bool (zap I q (by simp))|int j=>obtain⟨t',rfl⟩:=ry;exact PySem.EqMixed.ne_str_int (zap I q (by simp))|str j=>obtain⟨t',rfl⟩:=ry;exact ne_str (zap I q (congrArg not ziF))|_=>exact absurd (show false=true from hs) Bool.false_ne_true
 |byt i=>obtain⟨t,rfl⟩:=rx;cases y with|byt j=>obtain⟨t',rfl⟩:=ry;exact PySem.W.ne_bytes (zap I q (congrArg not ziH))|_=>exact absurd (show false=true from hs) Bool.false_ne_true
 |_=>cases y<;>exact absurd (show false=true from hs) Bool.false_ne_true
theorem zpI:OpR X (compareOp .Lt) (rI0 fun i j=>.bl (decide (i<j))):=opB0 fun _ _ _ _ _ _ _ q=>lt_int q
theorem zpJ:OpR X (compareOp .LtE) (rI0 fun i j=>.bl (decide (i<=j))):=opB0 fun _ _ _ _ _ _ _ q=>le_int q
theorem zpK:OpR X (compareOp .Gt) (rI0 fun i j=>.bl (decide (j<i))):=opB0 fun _ _ _ _ _ _ _ q=>gt_int q
theorem zpL:OpR X (compareOp .GtE) (rI0 fun i j=>.bl (decide (j<=i))):=opB0 fun _ _ _ _ _ _ _ q=>ge_int q
theorem zlW{op:CmpOp}{r:R2}(ho:OpR X (compareOp op) r)(ha:PE X a ta)(hb:PE X b tb)(hm:behindInMarks op b=false):PE X (.Compare a [op] [b] pos) (tOp r ta tb):=by intro pins s σ H Q I h;exact wpAny_Compare1 (binT ha hb I h fun v u s2 x y H2 I2 rx ry q=>ho pins s2 σ H2 x y v u Q I2 rx ry q) hm
def zo9(t:TE):TT:=fun σ H Q=>t σ H fun x H'=>∃k,x=.bl k/\Q k H'
theorem zlJ{op:CmpOp}{r:R2}(ho:OpR X (compareOp op) r)(ha:PE X a ta)(hb:PE X b tb)(hm:behindInMarks op b=false):PT X (.Compare a [op] [b] pos) (zo9 (tOp r ta tb)):=by intro pins s σ H Q I h;refine wpAny_isTrue_Compare1 (thn (ha pins s σ H _ I h) fun v s1 ⟨x,H1,I1,r1,q1⟩=>thn (hb pins s1 σ H1 _ I1 q1) fun u s2 ⟨y,H2,I2,r2,q2⟩=>thn (ho pins s2 σ H2 x y v u _ I2 r1 r2 q2) fun c s3 ⟨z,H3,I3,r3,k,e,q3⟩=>?_) hm;subst e;cases r3;exact wpAny_truthy_bool ⟨H3,I3,q3⟩
def TruV(K:Frag)(x:V)(H:Hp)(k:Bool):Prop:=match x with|.non=>k=false|.bl b=>k=b|.int i=>k=(i != 0)|.str y=>y.length<=sizeLine/\k=((y.length:Int) != 0)|.byt y=>y.size<=sizeLine/\k=((y.size:Int) != 0)|.ref p=>(∃xs,SqL K H p xs/\k = !xs.isEmpty)\/(∃xs,SqT K H p xs/\k = !xs.isEmpty)\/∃kvs,H p=some (.dK kvs)/\k = !kvs.isEmpty|_=>False
theorem zgS{κ:Type}{kvs:List (κ×V)}{vs:List (κ×Value)}(r:KV kvs vs):(!vs.isEmpty) = !kvs.isEmpty:=by cases r<;>rfl
theorem zdn{xs:List V}{its:List Value}(r:Vals xs its):(!its.toArray.isEmpty) = !xs.isEmpty:=by cases r<;>simp
theorem zdi:(sizeLine:Nat)<2^63:=by rw[sizeLine_eq];decide
theorem zmV:TruR X (fun x H Q=>∃k,TruV X.K x H k/\Q k H):=by
 intro pins s σ H x v Q I rx h;obtain⟨k,e,q⟩:=h;have hl:=zdi;have hs:sizeLine=16777216:=sizeLine_eq;cases x with
 |non=>cases rx;have e':k=false:=e;subst e';exact truthy_none ⟨H,I,q⟩| bl b=>cases rx;have e':k=b:=e;subst e';exact wpAny_truthy_bool ⟨H,I,q⟩| int i=>obtain⟨t,rfl⟩:=rx;have e':k=(i != 0):=e;subst e';exact PySem.P.truthy_int ⟨H,I,q⟩| str y=>obtain⟨t,rfl⟩:=rx;obtain⟨hy,e'⟩:y.length<=sizeLine/\k=((y.length:Int) != 0):=e;subst e';exact PySem.P.truthy_str (by omega) ⟨H,I.tok _,q⟩| byt y=>obtain⟨t,rfl⟩:=rx;obtain⟨hy,e'⟩:y.size<=sizeLine/\k=((y.size:Int) != 0):=e;subst e';exact PySem.W.truthy_bytes (by omega) ⟨H,I.tok _,q⟩| ref p=>cases rx;have e':(∃xs,SqL X.K H p xs/\k = !xs.isEmpty)\/(∃xs,SqT X.K H p xs/\k = !xs.isEmpty)\/∃kvs,H p=some (.dK kvs)/\k = !kvs.isEmpty:=e;rcases e' with⟨xs,hx,e'⟩|⟨xs,hx,e'⟩|⟨kvs,hx,e'⟩;subst e';obtain⟨its,r,pl,hz⟩:=I.list hx;have hlen:=r.length;exact wpAny_truthy_list pl.isList (by simp only[size_toArray];omega) ⟨H,I.tok _,by rw[zdn r];exact q⟩;subst e';obtain⟨its,r,pl,hz⟩:=I.tuple hx;have hlen:=r.length;exact truthy_tuple pl (by simp only[size_toArray];omega) ⟨H,I.tok _,by rw[zdn r];exact q⟩;subst e';obtain⟨hz,hS,vs,r,m⟩:kvs.length<=sizeLine/\(p==sysModules)=false/\∃vs,KV kvs vs/\s.heap.DictOf (zao X.prog X.w) p vs:=I.hok p _ hx;have hlen:kvs.length=vs.length:=Paired.length r;exact wpAny_truthy_dict hS m (by omega) ⟨H,I.tok _,by rw[zgS r];exact q⟩
 |_=>exact(show False from e).elim
theorem zjv(ha:PE X a ta)(he:∀whole,isTrue a X.env whole=(do let v <-whole;standAt a.pos;holding [v] (truthy v))) :
  PT X a (fun σ H Q=>ta σ H fun x H'=>∃k,TruV X.K x H' k/\Q k H'):=by
 intro pins s σ H Q I h;exact isTrue_plain (thn (ha pins s σ H _ I h) fun v s1 ⟨x,H1,I1,r1,q1⟩=>zmV pins s1 σ H1 x v Q I1 r1 q1) (he _)
theorem zi1{x:V}{us:List Value}(r:Vals [x] us):∃u,us=[u]/\RelV x u:=by cases r with|cons r1 r2=>cases r2;exact⟨_,rfl,r1⟩
theorem zkX{x y:V}{us:List Value}(r:Vals [x,y] us):∃u w',us=[u,w']/\RelV x u/\RelV y w':=by cases r with| cons r1 r2=>cases r2 with|cons r3 r4=>cases r4;exact⟨_,_,rfl,r1,r3⟩
theorem zkg:zbb X (.builtin "abs") (fun xs H Q=>∃i,xs=[.int i]/\Q (.int (if i<0 then -i else i)) H):=by intro pins s σ H xs us Q I r h;obtain⟨i,rfl,q⟩:=h;obtain⟨u,rfl,t,rfl⟩:=zi1 r;exact call_abs_int fun u tk=>⟨.int (if i<0 then -i else i),H,I.tok _,⟨_,rfl⟩,q⟩
theorem ziO(hc:X.calm=true):zbb X (.builtin "max") (fun xs H Q=>∃i j,xs=[.int i,.int j]/\Q (.int (if j>i then j else i)) H):=by intro pins s σ H xs us Q I r h;obtain⟨i,j,rfl,q⟩:=h;obtain⟨u,w',rfl,⟨t,rfl⟩,⟨t',rfl⟩⟩:=zkX r;refine max_two_ints (I.ok.hd hc) fun h' tk k=>⟨_,H,I.kept k,?_,q⟩;by_cases hj:j>i;rw[if_pos hj,if_pos hj];exact⟨_,rfl⟩;rw[if_neg hj,if_neg hj];exact⟨_,rfl⟩
theorem ziN(hc:X.calm=true):zbb X (.builtin "min") (fun xs H Q=>∃i j,xs=[.int i,.int j]/\Q (.int (if j<i then j else i)) H):=by intro pins s σ H xs us Q I r h;obtain⟨i,j,rfl,q⟩:=h;obtain⟨u,w',rfl,⟨t,rfl⟩,⟨t',rfl⟩⟩:=zkX r;refine min_two_ints (I.ok.hd hc) fun h' tk k=>⟨_,H,I.kept k,?_,q⟩;by_cases hj:j<i;rw[if_pos hj,if_pos hj];exact⟨_,rfl⟩;rw[if_neg hj,if_neg hj];exact⟨_,rfl⟩
end
structure ObjM(h:Heap)(x dx C:Addr)(mA:Str->Option Value):Prop where
 obj:h.get? x=some (instObj C dx)
 ns:h.Ns1 dx mA
 ne:dx≠x
theorem zhQ{h:Heap}{dx:Addr}{mA:Str->Option Value}(n:h.Ns1 dx mA):∃od,h.get? dx=some od/\∀name,lookIn name od=some (mA name):=by
 obtain⟨o,es,ep,ho,hd,hk,_,hm⟩:=n;refine⟨o,ho,fun name=>?_⟩;have e:=hm name;unfold nsFind findBy at e;rw[<-Array.find?_toList]at e;unfold lookIn;rw[hd];dsimp only;split;rename_i y q;rw[q]at e;exact congrArg some e;rename_i q;rw[q]at e;have a:es.toList.any (·.refKey)=false:=by rw[List.any_eq_false];intro y hy;obtain⟨z,t,hkey⟩:=hk y (Array.mem_toList_iff.mp hy);simp[DictEntry.refKey,hkey]
 have a':¬es.toList.any (·.refKey)=true:=by rw[a];exact Bool.false_ne_true
 rw[if_neg a'];exact congrArg some e
theorem ObjM.look{h:Heap}{x dx C:Addr}{mA:Str->Option Value}(I:ObjM h x dx C mA):∃od,PySem.W.InstAt h x (instObj C dx) C (some od)/\∀name,lookIn name od=some (mA name):=
 let ⟨od,ho,hl⟩:=zhQ I.ns
 ⟨od,⟨I.obj,rfl,rfl,ho⟩,hl⟩
section
variable{prog:Program}{w:World}{A:Around}{E:Value->Shared->Prop}{s:Shared}{K:Frag}{x dx C f:Addr}{mA:Str->Option Value}{name:Str}{v:Value}
theorem zmn{expr:Bool}{Q:Value->Shared->Prop}(X:K.In s.heap)(I:ObjM s.heap x dx C mA)(hg:plainGet K C name=true)(hh:hasDictIn K C=true)
  (ha:findIn K (.ref C) name=some none) (hv:mA name=some v) (hv':handedIn v=true) (h:Q v {s with toks:=s.toks+1}) :
  wpAny (model prog w) A (getAttr (.ref x) name expr) Q E s:=by
 obtain⟨od,J,hl⟩:=I.look;exact PySem.W.get_value X J (plainGet_of hg).1 (PySem.W.findObj_own hh ha rfl (by rw[hl,hv])) hv' h
theorem zj8{pl:Sem Bool}{Q:Value×List Value->Shared->Prop}(X:K.In s.heap)(I:ObjM s.heap x dx C mA)(hg:plainGet K C name=true)
  (hf:findIn K (.ref C) name=some (some (.ref f))) (ht:isFn K (.ref f)=true) (hv:mA name=none) (h:Q (.ref f,[.ref x]) s) :
  wpAny (model prog w) A (getMethod (.ref x) name pl) Q E s:=by
 obtain⟨od,J,hl⟩:=I.look;exact PySem.W.method_fn X J (plainGet_of hg).1 (plainGet_of hg).2 hf (beq_iff_eq.mp ht) (by show(lookIn name od).map (·.isSome)=some false;rw[hl,hv];rfl) h
theorem zlh{ns:List Str}{Q:Unit->Shared->Prop}(X:K.In s.heap)(I:ObjM s.heap x dx C mA)
  (hs:findIn K (.ref C) "__setattr__"=some (some (.builtin "object.__setattr__"))) (hp:plainOver K C=true) (ht:takerIn K C name=some none) (hh:hasDictIn K C=true)
  (hw:PySem.Within mA ns) (hsz:ns.length<=sizeLine)
  (h:∀h',ObjM h' x dx C (fun y=>if y=name then some v else mA y)->Heap.SameBut dx s.heap h'->Q () {s with heap:=h',toks:=s.toks+2}) :
  wpAny (model prog w) A (setAttr (.ref x) name v) Q E s:=by
 obtain⟨od,J,hl⟩:=I.look;refine PySem.W.set_plain X J hs (PySem.W.osa_open (s:={s with toks:=s.toks+1}) (r:=none) X J hp ht fun b=>?_);obtain⟨cd,hc,hd'⟩:=PySem.W.any_some hh;have hx:s.heap.get? x=some ⟨.ref C,some dx,.plain,#[]⟩:=I.obj;refine wpAny_bind (wpAny_pure (wpAny_bind (wpAny_bind (wpAny_loadPart hx (wpAny_bind (Looks.here (s:={s with toks:=s.toks+1}) (PySem.W.looks_clsIn X hc) ?_))))));rw[hd'];refine wpAny_pure (a:=some dx) (wpAny_bind (wpAny_pure (wpAny_bind ?_)));refine wpAny_nsSet1 (s:={s with toks:=s.toks+1}) I.ns fun h' hn2 hs2=>?_;obtain⟨oD,esD,epD,hoD,hdD,hcD⟩:=hn2.count (PySem.Within.cons name v hw);refine wpAny_bind (wpAny_lookBehind hoD (by rw[hdD];exact pastItsLine_dict (le_trans hcD (by rw[length_cons];omega))) ?_);exact wpAny_pure (h _ ⟨(hs2.2 _ (Ne.symm I.ne)).trans I.obj,hn2,I.ne⟩ hs2)
theorem zjN{R:Result->Shared->Prop}{vs:List Value}{kw:List (Str×Value)}(X:K.In s.heap)(hm:makesIn K C=true)
  (hi:findIn K (.ref C) "__init__"=some (some (.ref f))) (hf:PySem.W.typeIn K (.ref f)=some (.type "function"))
  (h:codeAny (model prog w) (A.under (.builtin "type.__call__" ⟨.ref C::vs,kw⟩)) (.call (.ref f) ⟨.ref (s.heap.objs.size+1)::vs,kw⟩) (PySem.W.InitBack (s.heap.objs.size+1) R)
   {s with heap:=(s.heap.push emptyDict).push (instObj C s.heap.objs.size)}) :
  codeAny (model prog w) A (.call (.ref C) ⟨vs,kw⟩) R s:=by
 obtain⟨hh,g,d,t,os⟩:=s;exact PySem.W.make_core (PySem.W.makes_of X hm) (PySem.W.looks_findIn X hi) (fun self=>PySem.W.bind_fn X self hf) (.inl rfl) h
end
noncomputable def putF(f:Str)(v:V):List (Str×V)->List (Str×V)
 | []=>[(f,v)]|(g,x)::r=>if g=f then(g,v)::r else(g,x)::putF f v r
theorem zcH(f g:Str)(v:V):∀fs:List (Str×V),(putF f v fs).lookup g=if g=f then some v else fs.lookup g
 | []=>by show List.lookup g [(f,v)]=_;by_cases h:g=f;have hb:(g==f)=true:=beq_iff_eq.mpr h;simp only[List.lookup,hb,if_pos h];have hb:(g==f)=false:=beq_eq_false_iff_ne.mpr h;simp only[List.lookup,hb,if_neg h]| (k,x)::r=>by have ih:=zcH f g v r;rw[show putF f v ((k,x)::r)=(if k=f then(k,v)::r else(k,x)::putF f v r) from rfl];by_cases hk:k=f;rw[if_pos hk];by_cases h:g=k;have hb:(g==k)=true:=beq_iff_eq.mpr h;simp only[List.lookup,hb,if_pos (h.trans hk)];have hb:(g==k)=false:=beq_eq_false_iff_ne.mpr h;simp only[List.lookup,hb,if_neg (fun e:g=f=>h (e.trans hk.symm))];rw[if_neg hk];by_cases h:g=k;have hb:(g==k)=true:=beq_iff_eq.mpr h;simp only[List.lookup,hb,if_neg (fun e:g=f=>hk (h.symm.trans e))];have hb:(g==k)=false:=beq_eq_false_iff_ne.mpr h;simp only[List.lookup,hb];exact ih
theorem zcM(f:Str)(v:V):∀fs:List (Str×V),f∈(putF f v fs).map (·.1)/\∀g,g∈fs.map (·.1)->g∈(putF f v fs).map (·.1)
 | []=>⟨by simp[putF],fun g h=>by simp at h⟩| (k,x)::r=>by obtain⟨i1,i2⟩:=zcM f v r;rw[show putF f v ((k,x)::r)=(if k=f then(k,v)::r else(k,x)::putF f v r) from rfl];by_cases hk:k=f;rw[if_pos hk];subst hk;exact⟨by simp,fun g h=>by simpa using h⟩;rw[if_neg hk];refine⟨?_,fun g h=>?_⟩;rw[map_cons];exact mem_cons_of_mem _ i1;rw[map_cons]at h⊢;rcases mem_cons.mp h with e|e;exact mem_cons.mpr (.inl e);exact mem_cons_of_mem _ (i2 g e)
theorem zcI(f:Str)(v:V):∀fs:List (Str×V),(putF f v fs).length<=fs.length+1
 | []=>by simp[putF]| (k,x)::r=>by have ih:=zcI f v r;rw[show putF f v ((k,x)::r)=(if k=f then(k,v)::r else(k,x)::putF f v r) from rfl];by_cases hk:k=f;rw[if_pos hk,length_cons,length_cons];omega;rw[if_neg hk,length_cons,length_cons];omega
theorem RelO.some_of{v:V}{o:Option Value}(r:RelO (some v) o):∃u,o=some u/\RelV v u:=by cases o with|none=>exact(show False from r).elim|some u=>exact⟨u,rfl,r⟩
theorem RelO.none_of{o:Option Value}(r:RelO none o):o=none:=by cases o with|none=>rfl|some u=>exact(show False from r).elim
theorem zik{v:V}{u:Value}(r:RelV v u):handedIn u=true:=by cases v with|non=>cases(show u=Value.none from r);rfl|bl b=>cases(show u=Value.bool b from r);rfl|int i=>obtain⟨t,e⟩:=(show ∃t,u=Value.int i t from r);cases e;rfl|str x=>obtain⟨t,e⟩:=(show ∃t,u=Value.str x t from r);cases e;rfl|byt b=>obtain⟨t,e⟩:=(show ∃t,u=Value.bytes b t from r);cases e;rfl|flt b=>obtain⟨t,e⟩:=(show ∃t,u=Value.float b t from r);cases e;rfl|ref a=>cases(show u=Value.ref a from r);rfl|ty n=>cases(show u=Value.type n from r);rfl
section
variable{P:Program}{w:World}{H H':Hp}{h h':Heap}{a C dx:Addr}{fs fs':List (Str×V)}
theorem zd3(hok:HOk P w H h)(e:H a=some (.ins C dx fs)):∃mA,ObjM h a dx C mA/\(∀f,RelO (fs.lookup f) (mA f))/\PySem.Within mA (fs.map (·.1))/\fs.length<=1000/\H dx=some (.own a):=by obtain⟨d,z,ne,ob,mA,n,r,q⟩:=(show ObjOk P w H h a (.ins C dx fs) from hok a _ e);exact⟨mA,⟨ob,n,ne⟩,r,q,z,d⟩
end
structure Cls(K:Frag)(C:Addr):Prop where
 pg:plainGet K C Str.empty=true
 hd:hasDictIn K C=true
 po:plainOver K C=true
 sa:findIn K (.ref C) "__setattr__"=some (some (.builtin "object.__setattr__"))
theorem Cls.get{K:Frag}{C:Addr}(c:Cls K C)(f:Str):plainGet K C f=true:=c.pg
def NoAttr(K:Frag)(C:Addr)(f:Str):Prop:=findIn K (.ref C) f=some none
theorem NoAttr.taker{K:Frag}{C:Addr}{f:Str}(n:NoAttr K C f):takerIn K C f=some none:=by unfold takerIn;rw[show findIn K (.ref C) f=some none from n];rfl
structure Con(K:Frag)(C:Addr)(f:Str)(v:V)(u:Value):Prop where
 at_:findIn K (.ref C) f=some (some u)
 rel:RelV v u
 get:specialIn K u "__get__"=some none
 cp:PySem.W.copiedNames.contains f=false
structure Meth(K:Frag)(C:Addr)(m:Str)(f:Addr):Prop where
 at_:findIn K (.ref C) m=some (some (.ref f))
 fn:isFn K (.ref f)=true
 kp:keepIn K (.ref f)=true
section
variable{X:Cx}{pins:List (Addr×Obj)}{σ:St}{H:Hp}{s:Shared}{a C dx:Addr}{fs:List (Str×V)}{f:Str}{v:V}{A:Around}{E:Value->Shared->Prop}
theorem zgT{b:Bool}{Q:Value->Shared->Prop}(I:Inv X pins σ H s)(e:H a=some (.ins C dx fs))(c:Cls X.K C)(n:NoAttr X.K C f)(l:fs.lookup f=some v)
  (h:∀u s',Inv X pins σ H s'->RelV v u->Q u s'):wpAny (model X.prog X.w) A (getAttr (.ref a) f b) Q E s:=by
 obtain⟨mA,O,r,_,_,_⟩:=zd3 I.hok e;obtain⟨u,hu,ru⟩:=RelO.some_of (v:=v) (o:=mA f) (by rw[<-l];exact r f);exact zmn I.kIn O (c.get f) c.hd n hu (zik ru) (h u _ (I.tok _) ru)
theorem zdp{m:Str}{g:Addr}{pl:Sem Bool}{Q:Value×List Value->Shared->Prop}(I:Inv X pins σ H s)(e:H a=some (.ins C dx fs))(c:Cls X.K C)(k:Meth X.K C m g)(l:fs.lookup m=none)
  (h:Q (.ref g,[.ref a]) s):wpAny (model X.prog X.w) A (getMethod (.ref a) m pl) Q E s:=by
 obtain⟨mA,O,r,_,_,_⟩:=zd3 I.hok e;have hn:mA m=none:=RelO.none_of (by rw[<-l];exact r m);exact zj8 I.kIn O (c.get m) k.at_ k.fn hn h
theorem zgC{y:V}{u:Value}{Q:Unit->Shared->Prop}(I:Inv X pins σ H s)(e:H a=some (.ins C dx fs))(c:Cls X.K C)(n:NoAttr X.K C f)(hl:fs.length<1000)(ry:RelV y u)
  (h:∀s',Inv X pins σ (upd H a (.ins C dx (putF f y fs))) s'->Q () s'):wpAny (model X.prog X.w) A (setAttr (.ref a) f u) Q E s:=by
 obtain⟨mA,O,r,wi,_,ho⟩:=zd3 I.hok e;have hz:(fs.map (·.1)).length<=sizeLine:=by rw[length_map,sizeLine_eq];omega
 refine zlh I.kIn O c.sa c.po n.taker c.hd wi hz fun h' O' sb=>h _ ?_;have hd:∃o,h'.get? dx=some o:=let ⟨o,_,_,e',_⟩:=O'.ns;⟨o,e'⟩;refine I.write (x:=a) (e:=dx) (by rw[e];exact True.intro) (.inr ho) (fun b q hb z=>(sb.2 b hb).trans z) hd ?_;refine⟨by rw[zaf O.ne];exact ho,?_,O.ne,O'.obj,_,O'.ns,fun g=>?_,fun g hg=>?_⟩
 have:=zcI f y fs;omega;show RelO ((putF f y fs).lookup g) (if g=f then some u else mA g);rw[zcH];by_cases q:g=f;rw[if_pos q,if_pos q];exact ry;rw[if_neg q,if_neg q];exact r g;by_cases q:g=f;rw[q];exact(zcM f y fs).1;refine(zcM f y fs).2 g (wi g fun z=>hg ?_);show(if g=f then some u else mA g)=none;rw[if_neg q];exact z
theorem Inv.made(I:Inv X pins σ H s):Inv X pins σ (upd (upd H s.heap.objs.size (.own (s.heap.objs.size+1))) (s.heap.objs.size+1) (.ins C s.heap.objs.size []))
  {s with heap:=(s.heap.push emptyDict).push (instObj C s.heap.objs.size)}:=by
 have e1:(s.heap.push emptyDict).get? s.heap.objs.size=some emptyDict:=Heap.get?_push_size s.heap rfl;have e2:((s.heap.push emptyDict).push (instObj C s.heap.objs.size)).get? (s.heap.objs.size+1)=some (instObj C s.heap.objs.size):=by
  have:=Heap.get?_push_size (s.heap.push emptyDict) (o:=instObj C s.heap.objs.size) rfl
  rwa [Heap.size_push]at this
 have e3:(s.heap.push emptyDict).Ns s.heap.objs.size (fun _=>none):=⟨emptyDict,#[],_,e1,rfl,(fun e he=>absurd he (by simp)),fun _=>rfl⟩;have I1:=I.laid (a:=s.heap.objs.size) (o:=.own (s.heap.objs.size+1)) (h':=s.heap.push emptyDict) (t':=s.toks) (fun b u q=>Heap.get?_push_of_some _ q) (le_refl _) ⟨_,e1⟩;refine I1.laid (a:=s.heap.objs.size+1) (o:=.ins C s.heap.objs.size []) (t':=s.toks) (fun b u q=>Heap.get?_push_of_some _ q) (Nat.le_of_eq (Heap.size_push _ _)) ?_;have ne:s.heap.objs.size≠s.heap.objs.size+1:=ne_of_lt (Nat.lt_succ_self _);refine⟨by rw[zaf ne,zag],zero_le _,ne,e2,fun _=>none,(Heap.Ns1.of_empty e3).at fun o q=>Heap.get?_push_of_some _ q,fun _=>True.intro,fun y hy=>absurd rfl hy⟩
theorem zmG{prog:Program}{w:World}{env:Env}{e:Expr}{f:Str}{pos:Pos}{s:Shared}{Q:Value->Shared->Prop}(hb:attributeBase e f env (eval e env)=eval e env)
  (h:wpAny (model prog w) A (eval e env) (fun o s₁=>wpAny (model prog w) A (getAttr o f true) Q E s₁) E s):wpAny (model prog w) A (eval (.Attribute e f pos) env) Q E s:=
 Attribute_any_ h (by rw[arm_eval_Attribute,hb])
end
def tFld(K:Frag)(ta:TE)(f:Str):TE:=fun σ H Q=>ta σ H fun x H1=>∃a C dx fs v,x=.ref a/\H1 a=some (.ins C dx fs)/\Cls K C/\NoAttr K C f/\fs.lookup f=some v/\Q v H1
def sFld(K:Frag)(ta tv:TE)(f:Str):TS:=fun D σ H=>tv σ H fun y H1=>ta σ H1 fun x H2=>∃a C dx fs,x=.ref a/\H2 a=some (.ins C dx fs)/\Cls K C/\NoAttr K C f/\fs.length<1000/\
 D.nx σ (upd H2 a (.ins C dx (putF f y fs)))
section
variable{X:Cx}{o e value:Expr}{f:Str}{pos pos' tpos:Pos}{ta tv:TE}
theorem znW(he:PE X e ta)(hb:attributeBase e f X.env (eval e X.env)=eval e X.env):PE X (.Attribute e f pos) (tFld X.K ta f):=by intro pins s σ H Q I h;refine zmG hb (thn (he pins s σ H _ I h) fun u s1 ⟨x,H1,I1,rx,a,C,dx,fs,v,ex,ea,c,n,l,q⟩=>?_);subst ex;obtain rfl:u=Value.ref a:=rx;exact zgT I1 ea c n l fun u' s2 I2 ru=>⟨v,H1,I2,ru,q⟩
theorem znJ(ha:PE X o ta)(hv:PE X value tv)(hs:swapsWith value (some (.Attribute o f pos')) pos.line X.env=pure false):PS X (.Assign [.Attribute o f pos'] value pos) (sFld X.K ta tv f):=by intro pins s σ H D I h;refine plainObj_wpAny_Assign_Attribute (thn (hv pins s σ H _ I h) fun u s1 ⟨y,H1,I1,ry,q⟩=>thn (ha pins s1 σ H1 _ I1 q) fun ov s2 ⟨x,H2,I2,rx,a,C,dx,fs,ex,ea,c,n,l,q2⟩=>?_) hs;subst ex;obtain rfl:ov=Value.ref a:=rx;exact zgC I2 ea c n l ry fun s3 I3=>⟨σ,_,I3,q2⟩
end
section
variable{X:Cx}{pins:List (Addr×Obj)}{σ:St}{H:Hp}{s:Shared}{A:Around}{E:Value->Shared->Prop}{Q:Value->Shared->Prop}{c:Value}{b:Bool}
inductive TyOf(K:Frag)(H:Hp):V->Value->Prop where
 |non:TyOf K H .non (.type "NoneType")
 |bl (x:Bool):TyOf K H (.bl x) (.type "bool")
 |int (i:Int):TyOf K H (.int i) (.type "int")
 |str (x:Str):TyOf K H (.str x) (.type "str")
 |flt (x:UInt64):TyOf K H (.flt x) (.type "float")
 |lst {a:Addr} {xs:List V} (e:H a=some (.lst xs)):TyOf K H (.ref a) (.type "list")
 |frz {a:Addr} {o:Obj} {xs:List V} (e:H a=some (.frz o (.lst xs))):TyOf K H (.ref a) (.type "list")
 |tup {a:Addr} {xs:List V} (e:H a=some (.tup xs)):TyOf K H (.ref a) (.type "tuple")
 |dK {a:Addr} {kvs:List (Key×V)} (e:H a=some (.dK kvs)):TyOf K H (.ref a) (.type "dict")
 |dT {a:Addr} {kvs:List (List Key×V)} (e:H a=some (.dT kvs)):TyOf K H (.ref a) (.type "dict")
 |ins {a C dx:Addr} {fs:List (Str×V)} (e:H a=some (.ins C dx fs)) (cl:Cls K C) (ha:findIn K (.ref C) "__class__"=some (some (.builtin "object.__class__")))
  (hn:specialIn K (.builtin "object.__class__") "__get__"=some (some (.builtin "getset_descriptor.__get__"))) (htk:takesIn K (.builtin "object.__class__")=some true)
  (hm:mroIn K C (.type "object")=some true):TyOf K H (.ref a) (.ref C)
theorem zh6{x:V}{u t:Value}(I:Inv X pins σ H s)(rx:RelV x u)(ty:TyOf X.K H x t)(e:kitOne X.K t c=some b)(h:∀tk,Q (.bool b) {s with toks:=tk}) :
  wpAny (model X.prog X.w) A (call (.builtin "isinstance") [u,c]) Q E s:=by
 cases ty with|non=>cases(show u=Value.none from rx);exact kia_one PySem.W.kitx_none I.kIn True.intro e (fun z=>nomatch z) h|bl y=>cases(show u=Value.bool y from rx);exact kia_one PySem.W.kitx_bool I.kIn True.intro e (fun z=>nomatch z) h|int i=>obtain⟨t,q⟩:=(show ∃t,u=Value.int i t from rx);cases q;exact kia_one PySem.W.kitx_int I.kIn True.intro e (fun z=>nomatch z) h|str y=>obtain⟨t,q⟩:=(show ∃t,u=Value.str y t from rx);cases q;exact kia_one PySem.W.kitx_str I.kIn True.intro e (fun z=>nomatch z) h|flt y=>obtain⟨t,q⟩:=(show ∃t,u=Value.float y t from rx);cases q;exact kia_one PySem.W.kitx_float I.kIn True.intro e (fun z=>nomatch z) h| @lst a xs ea=>cases(show u=Value.ref a from rx);obtain⟨_,_,n,_,h1⟩:=(show ObjOk X.prog X.w H s.heap a (.lst xs) from I.hok a _ ea);exact kia_one kitx_list I.kIn ⟨_,h1,rfl⟩ e (fun z=>nomatch z) h| @frz a ob xs ea=>cases(show u=Value.ref a from rx);obtain⟨_,_,_,n,_,h1⟩:=(show ObjOk X.prog X.w H s.heap a (.frz ob (.lst xs)) from I.hok a _ ea);exact kia_one kitx_list I.kIn ⟨_,h1,rfl⟩ e (fun z=>nomatch z) h| @tup a xs ea=>cases(show u=Value.ref a from rx);obtain⟨_,_,_,p⟩:=(show ObjOk X.prog X.w H s.heap a (.tup xs) from I.hok a _ ea);obtain⟨o,h1,h2,_⟩:=p;exact kia_one PySem.W.kitx_tuple I.kIn ⟨o,h1,h2⟩ e (fun z=>nomatch z) h| @dK a kvs ea=>cases(show u=Value.ref a from rx);obtain⟨_,_,vs,_,p⟩:=(show ObjOk X.prog X.w H s.heap a (.dK kvs) from I.hok a _ ea);obtain⟨o,es,ep,h1,h2,_⟩:=p;exact kia_one kitx_dict I.kIn ⟨o,h1,h2.1⟩ e (fun z=>nomatch z) h| @dT a kvs ea=>cases(show u=Value.ref a from rx);obtain⟨_,_,xs,_,o,es,ep,h1,h2,_⟩:=(show ObjOk X.prog X.w H s.heap a (.dT kvs) from I.hok a _ ea);exact kia_one kitx_dict I.kIn ⟨o,h1,h2.1⟩ e (fun z=>nomatch z) h| @ins a C dx fs ea cl ha hn htk hm=>cases(show u=Value.ref a from rx);obtain⟨mA,O,_⟩:=zd3 I.hok ea;obtain⟨od,J,_⟩:=O.look;exact kia_one (PySem.W.kitx_own (cl.get _) cl.hd ha hn htk hm) I.kIn J e (fun z=>nomatch z) h
end
structure Room(k:Nat)(A:Around):Prop where
 hd:A.handled=none
 dp:A.depth+3*k+5<recursionLimit
 un:A.units+16*k+200<cLine
theorem Room.mono{j k:Nat}{A:Around}(r:Room k A)(h:j<=k):Room j A:=⟨r.hd,by have:=r.dp;omega,by have:=r.un;omega⟩
theorem Room.deeper{k:Nat}{A:Around}(r:Room (k+1) A)(env:Env):Room k (A.deeper env):=⟨r.hd,by have:=r.dp;show A.depth+1+3*k+5<_;omega,by have:=r.un;show A.units+3+16*k+200<_;omega⟩
theorem Room.in1{k:Nat}{A:Around}(r:Room (k+1) A):Room k A.in1:=⟨r.hd,by have:=r.dp;show A.depth+3*k+5<_;omega,by have:=r.un;show A.units+1+16*k+200<_;omega⟩
theorem zgN{A:Around}{C:Addr}{us:List Value}{kw:List (Str×Value)}:(A.under (.builtin "type.__call__" ⟨.ref C::us,kw⟩)).depth=A.depth+1:=by first|rfl|simp[Around.under,Code.weight,Code.isCreation,Code.isGuard,Code.isCaller,Code.frames,Code.isFrame,guardIds]
theorem zgM{A:Around}{C:Addr}{us:List Value}{kw:List (Str×Value)}:(A.under (.builtin "type.__call__" ⟨.ref C::us,kw⟩)).units=A.units+1:=by first|rfl|simp[Around.under,Code.cUnits,Code.frames,Code.isFrame]
theorem Room.make{k:Nat}{A:Around}(r:Room (k+1) A)(C:Addr)(us:List Value)(kw:List (Str×Value)):Room k (A.under (.builtin "type.__call__" ⟨.ref C::us,kw⟩)):=⟨r.hd,by have:=r.dp;rw[zgN];omega,by have:=r.un;rw[zgM];omega⟩
theorem Room.depth{k:Nat}{A:Around}(r:Room k A):A.depth<recursionLimit:=by have:=r.dp;omega
def tNil:TA:=fun _ H Q=>Q [] H
def zhh(ta:TE)(tr:TA):TA:=fun σ H Q=>ta σ H fun x H1=>tr σ H1 fun xs H2=>Q (x::xs) H2
section
variable{X:Cx}{e:Expr}{es:List Expr}{te:TE}{t:TA}{pos:Pos}
theorem zfY:PA X [] tNil:=fun _ _ _ _ H Q I h=>Calls.spliced_nil ⟨[],H,I,.nil,h⟩
theorem zcj(ha:PE X e te)(hr:PA X es t)(hs:starEach (e::es) X.env=(false,eval e X.env)::starEach es X.env:=by rfl):PA X (e::es) (zhh te t):=by intro pos pins s σ H Q I h;rw[hs];show wpAny _ _ (spliced ((false,eval e X.env)::backTo pos (starEach es X.env))) _ _ s;refine Calls.spliced_cons (thn (ha pins s σ H _ I h) fun u s1 ⟨x,H1,I1,r1,q1⟩=>?_);exact thn (hr pos pins s1 σ H1 _ I1 q1) fun us s2 ⟨xs,H2,I2,r2,q2⟩=>⟨x::xs,H2,I2,.cons r1 r2,q2⟩
def tTup(t:TA):TE:=fun σ H Q=>t σ H fun xs H1=>xs.length<=sizeLine/\∀p,H1 p=none->Q (.ref p) (upd H1 p (.tup xs))
def tLst(t:TA):TE:=fun σ H Q=>t σ H fun xs H1=>xs.length<=sizeLine/\∀p,H1 p=none->Q (.ref p) (upd H1 p (.lst xs))
theorem znO{x1}(h:PA X es t):PE X (.Tuple es x1 pos) (tTup t):=by intro pins s σ H Q I hq;refine wpAny_Tuple_spliced (thn (h pos pins s σ H _ I hq) fun us s1 ⟨xs,H1,I1,r,z,q⟩=>⟨by rw[<-r.length];exact z,?_⟩);have hf:H1 s1.heap.objs.size=none:=I1.hok.fresh (le_refl _);refine⟨.ref s1.heap.objs.size,upd H1 s1.heap.objs.size (.tup xs),I1.laid (t':=s1.toks) (fun b u e=>Heap.get?_push_of_some _ e) (le_refl _) ?_,rfl,q _ hf⟩;exact⟨z,us,r,⟨_,Heap.get?_push_size _ rfl,rfl,_,rfl⟩⟩
theorem znS(h:PA X es t):PE X (.List es pos) (tLst t):=by intro pins s σ H Q I hq;refine wpAny_List_spliced (thn (h pos pins s σ H _ I hq) fun us s1 ⟨xs,H1,I1,r,z,q⟩=>⟨by rw[<-r.length];exact z,?_⟩);have hf:H1 s1.heap.objs.size=none:=I1.hok.fresh (le_refl _);refine⟨.ref s1.heap.objs.size,upd H1 s1.heap.objs.size (.lst xs),I1.laid (t':=s1.toks) (fun b u e=>Heap.get?_push_of_some _ e) (le_refl _) ?_,rfl,q _ hf⟩;exact⟨z,us,0,r,Heap.get?_push_size _ rfl⟩
end
abbrev Sp:=List V->Hp->VK->XK->Prop
abbrev CXT:=List Env->Hp->Shared->XK->Value->Shared->Prop
structure Env0(P:Program)(w:World)(K:Frag)(mg:Str->Option Value)(base:Heap)(A:Around)(outer:List Env)(s:Shared)(H:Hp):Prop where
 frames:A.frames=some outer
 mod:Mod K mg base
 bs:∀b o,base.get? b=some o->s.heap.get? b=some o/\H b=none
 bsz:base.objs.size<=s.heap.objs.size
 funs:s.heap.FunFrames base outer
 frf:∀b∈frs outer,H b=none
 hok:HOk P w H s.heap
 bare:AllBare s.gens
def CE(outer:List Env)(P:Program)(w:World)(H:Hp)(s:Shared)(Q:VK)(u:Value)(s':Shared):Prop:=∃v H',s'.os=s.os/\AllBare s'.gens/\Un (frs outer) [] H H' s.heap s'.heap/\HOk P w H' s'.heap/\RelV v u/\Q v H'
def CR(CX:CXT)(outer:List Env)(P:Program)(w:World)(H:Hp)(s:Shared)(Q:VK)(E:XK)(r:Result)(s':Shared):Prop:=match r with|.ok (.ret u)=>CE outer P w H s Q u s'|.ok _=>False|.error e=>CX outer H s E e s'
structure FnOk(P:Program)(w:World)(K:Frag)(mg:Str->Option Value)(base:Heap)(CX:CXT)(k:Nat)(f:Addr)(fd:FuncData)(ps:List Str)(sp:Sp):Prop where
 len:∀vs H Q E,sp vs H Q E->vs.length=ps.length
 run:∀(A:Around)(outer:List Env)(s:Shared)(H:Hp)(args:Args)(us:List Value)(vs:List V)(Q:VK)(E:XK),Room k A->Env0 P w K mg base A outer s H->BindsTo s fd args (ps.zip us)->Vals vs us->sp vs H Q E->
  codeAny (model P w) A (.call (.ref f) args) (CR CX outer P w H s Q E) s
theorem FnOk.mono{P:Program}{w:World}{K:Frag}{mg:Str->Option Value}{base:Heap}{CX:CXT}{j k:Nat}{f:Addr}{fd:FuncData}{ps:List Str}{sp:Sp}(F:FnOk P w K mg base CX j f fd ps sp)(h:j<=k) :
 FnOk P w K mg base CX k f fd ps sp:=⟨F.len,fun A outer s H args us vs Q E hr=>F.run A outer s H args us vs Q E (hr.mono h)⟩
theorem Env0.make{P:Program}{w:World}{K:Frag}{mg:Str->Option Value}{base:Heap}{A:Around}{outer:List Env}{s:Shared}{H:Hp}(e:Env0 P w K mg base A outer s H)(C:Addr)(us:List Value)(kw:List (Str×Value)) :
 Env0 P w K mg base (A.under (.builtin "type.__call__" ⟨.ref C::us,kw⟩)) outer s H:=⟨by first|exact e.frames|(simpa[Around.under,Code.envs,Code.isFrame,pushEnvs]using e.frames),e.mod,e.bs,e.bsz,e.funs,e.frf,e.hok,e.bare⟩
theorem Env0.in1{P:Program}{w:World}{K:Frag}{mg:Str->Option Value}{base:Heap}{A:Around}{outer:List Env}{s:Shared}{H:Hp}(e:Env0 P w K mg base A outer s H) :
 Env0 P w K mg base A.in1 outer s H:=⟨e.frames,e.mod,e.bs,e.bsz,e.funs,e.frf,e.hok,e.bare⟩
section
variable{X:Cx}{pins:List (Addr×Obj)}{σ:St}{H:Hp}{s s':Shared}
theorem Inv.env0(I:Inv X pins σ H s):Env0 X.prog X.w X.K X.mg X.base X.A X.stack s H:=⟨I.ok.frames,I.ok.mod,I.bs,le_trans I.ok.bsz I.sz,I.stack,I.stkFree,I.hok,I.bare⟩
theorem Inv.after{Q:VK}{u:Value}(I:Inv X pins σ H s)(h:CE X.stack X.prog X.w H s Q u s'):EP X pins σ Q u s':=by obtain⟨v,H',os,bare,un,hok,r,q⟩:=h;obtain⟨hh,g,d,t,os'⟩:=s';obtain rfl:os'=s.os:=os;exact⟨v,H',I.call (h':=hh) (g':=g) (d':=d) (t':=t) (ch:=[]) un hok bare (fun b z=>absurd z (by simp)),r,q⟩
end
def zdE(sp:Sp)(dvs:List V)(E:XK)(t:TA):TE:=fun σ H Q=>t σ H fun vs H1=>sp (vs++dvs) H1 Q E
def zk3(C:Addr)(sp:Sp)(dvs:List V)(E:XK)(t:TA):TE:=fun σ H Q=>t σ H fun vs H1=>∀x dx,H1 x=none->H1 dx=none->dx≠x->
 sp (.ref x::(vs++dvs)) (upd (upd H1 dx (.own x)) x (.ins C dx [])) (fun v H2=>v=.non/\Q (.ref x) H2) E
def Binds(K:Frag)(fd:FuncData)(ps:List Str)(ds:List Value):Prop:=∀(s:Shared)(us:List Value),K.In s.heap->(us++ds).length=ps.length->BindsTo s fd ⟨us,[]⟩ (ps.zip (us++ds))
theorem Binds.all{K:Frag}{fd:FuncData}{ps:List Str}(h:∀us:List Value,us.length=ps.length->bindArgs fd ⟨us,[]⟩=pure (ps.zip us)):Binds K fd ps []:=fun s us _ hl=>by rw[append_nil]at hl⊢;exact .of_eq (h us hl)
def zcY(CX:CXT)(X:Cx)(E:XK):Prop:=∀(pins:List (Addr×Obj))(σ:St)(H:Hp)(s:Shared)(e:Value)(s':Shared),Inv X pins σ H s->CX X.stack H s E e s'->X.xe e s'
section
variable{X:Cx}{CX:CXT}{k:Nat}{f C:Addr}{fd:FuncData}{ps:List Str}{sp:Sp}{dvs:List V}{ds:List Value}{E:XK}{x m:Str}{p pos apos:Pos}{e o:Expr}{es:List Expr}{ta:TE}{t:TA}
theorem zes{pins:List (Addr×Obj)}{σ:St}{H:Hp}{s:Shared}{Q:VK}{us:List Value}{vs:List V}(F:FnOk X.prog X.w X.K X.mg X.base CX k f fd ps sp)(hr:Room k X.A)(hb:Binds X.K fd ps ds)(hd:Vals dvs ds)(hx:zcY CX X E)
  (I:Inv X pins σ H s) (r:Vals vs us) (h:sp (vs++dvs) H Q E):wpAny (model X.prog X.w) X.A (call (.ref f) us) (EP X pins σ Q) X.xe s:=by
 have r2:Vals (vs++dvs) (us++ds):=r.append hd;have hl:(us++ds).length=ps.length:=by rw[<-r2.length];exact F.len _ _ _ _ h
 refine wpAny_call (codeAny_mono (F.run X.A X.stack s H ⟨us,[]⟩ (us++ds) (vs++dvs) Q E hr I.env0 (hb s us I.kIn hl) r2 h) fun r s' hq=>?_);cases r with|error e=>exact hx pins σ H s e s' I hq| ok fl=>cases fl with|ret u=>exact I.after hq|next=>exact False.elim hq|brk=>exact False.elim hq|cont=>exact False.elim hq
theorem zlX(F:FnOk X.prog X.w X.K X.mg X.base CX k f fd ps sp)(hr:Room k X.A)(hg:Gl X x)(hm:X.mg x=some (.ref f))(hk:keepIn X.K (.ref f)=true)(hb:Binds X.K fd ps ds)(hd:Vals dvs ds)(hx:zcY CX X E)
  (ha:PA X (e::es) t) (hdb:(x==("__debug__":Str))=false:=by decide) (he:starEach (e::es) X.env=(false,eval e X.env)::starEach es X.env:=by rfl) (hpl:(backTo pos (starEach es X.env)).any (·.1)=false:=by rfl) :
  PE X (.Call (.Name x p) (e::es) [] pos) (zdE sp dvs E t):=by
 intro pins s σ H Q I h;refine wpAny_Call_Name_kw (zcJ I hg hm ?_ hdb);refine callWith_K (h₀:=X.base) I.ok.mod.kin hk (thn (ha pos pins s σ H _ I h) fun us s1 ⟨vs,H1,I1,r,q⟩=>⟨I1.kIn,?_⟩) he hpl;exact zes F hr hb hd hx I1 r q
theorem zjJ(F:FnOk X.prog X.w X.K X.mg X.base CX k f fd ps sp)(hr:Room k X.A)(hg:Gl X x)(hm:X.mg x=some (.ref f))(hk:keepIn X.K (.ref f)=true)(hb:Binds X.K fd ps ds)(hd:Vals dvs ds)(hx:zcY CX X E)
  (hdb:(x==("__debug__":Str))=false:=by decide):PE X (.Call (.Name x p) [] [] pos) (zdE sp dvs E tNil):=by
 intro pins s σ H Q I h;refine wpAny_Call_Name_kw (zcJ I hg hm ?_ hdb);exact callWith_K0 I.kIn hk (zes (us:=[]) F hr hb hd hx I .nil h)
structure Mk(K:Frag)(C f:Addr):Prop where
 makes:makesIn K C=true
 init:findIn K (.ref C) "__init__"=some (some (.ref f))
 fn:isFn K (.ref f)=true
 kp:keepIn K (.ref C)=true
theorem zfM{pins:List (Addr×Obj)}{σ:St}{H:Hp}{s:Shared}{Q:VK}{us:List Value}{vs:List V}(M:Mk X.K C f)(F:FnOk X.prog X.w X.K X.mg X.base CX k f fd ps sp)(hr:Room (k+1) X.A)(hb:Binds X.K fd ps ds)(hd:Vals dvs ds)
  (hx:zcY CX X E) (I:Inv X pins σ H s) (r:Vals vs us)
  (h:∀x dx,H x=none->H dx=none->dx≠x->sp (.ref x::(vs++dvs)) (upd (upd H dx (.own x)) x (.ins C dx [])) (fun v H2=>v=.non/\Q (.ref x) H2) E) :
  wpAny (model X.prog X.w) X.A (call (.ref C) us) (EP X pins σ Q) X.xe s:=by
 have hq:=h (s.heap.objs.size+1) s.heap.objs.size (I.hok.fresh (le_succ _)) (I.hok.fresh (le_refl _)) (ne_of_lt (Nat.lt_succ_self _));have I2:=Inv.made (C:=C) I;have r2:Vals (V.ref (s.heap.objs.size+1)::(vs++dvs)) (Value.ref (s.heap.objs.size+1)::(us++ds)):=.cons rfl (r.append hd);have hl:(Value.ref (s.heap.objs.size+1)::us++ds).length=ps.length:=by have e:=r2.length;rw[F.len _ _ _ _ hq]at e;exact e.symm
 refine wpAny_call (zjN (f:=f) I.kIn M.makes M.init (beq_iff_eq.mp M.fn) (codeAny_mono (F.run _ X.stack _ _ ⟨Value.ref (s.heap.objs.size+1)::us,[]⟩ (Value.ref (s.heap.objs.size+1)::(us++ds)) _ _ E (hr.make C us [])
  (I2.env0.make C us []) (hb _ (Value.ref (s.heap.objs.size+1)::us) I2.kIn hl) r2 hq) fun r s' hq'=>?_))
 cases r with|error e=>exact hx pins σ _ _ e s' I2 hq'| ok fl=>cases fl with| ret u=>obtain⟨v,H',I3,rv,ev,q3⟩:=I2.after hq';subst ev;exact⟨rv,⟨V.ref (s.heap.objs.size+1),H',I3,rfl,q3⟩⟩|next=>exact False.elim hq'|brk=>exact False.elim hq'|cont=>exact False.elim hq'
theorem zlV(M:Mk X.K C f)(F:FnOk X.prog X.w X.K X.mg X.base CX k f fd ps sp)(hr:Room (k+1) X.A)(hg:Gl X x)(hm:X.mg x=some (.ref C))(hb:Binds X.K fd ps ds)(hd:Vals dvs ds)(hx:zcY CX X E)
  (ha:PA X (e::es) t) (hdb:(x==("__debug__":Str))=false:=by decide) (he:starEach (e::es) X.env=(false,eval e X.env)::starEach es X.env:=by rfl) (hpl:(backTo pos (starEach es X.env)).any (·.1)=false:=by rfl) :
  PE X (.Call (.Name x p) (e::es) [] pos) (zk3 C sp dvs E t):=by
 intro pins s σ H Q I h;refine wpAny_Call_Name_kw (zcJ I hg hm ?_ hdb);refine callWith_K (h₀:=X.base) I.ok.mod.kin M.kp (thn (ha pos pins s σ H _ I h) fun us s1 ⟨vs,H1,I1,r,q⟩=>⟨I1.kIn,?_⟩) he hpl;exact zfM M F hr hb hd hx I1 r q
theorem zjB(M:Mk X.K C f)(F:FnOk X.prog X.w X.K X.mg X.base CX k f fd ps sp)(hr:Room (k+1) X.A)(hg:Gl X x)(hm:X.mg x=some (.ref C))(hb:Binds X.K fd ps ds)(hd:Vals dvs ds)(hx:zcY CX X E)
  (hdb:(x==("__debug__":Str))=false:=by decide):PE X (.Call (.Name x p) [] [] pos) (zk3 C sp dvs E tNil):=by
 intro pins s σ H Q I h;refine wpAny_Call_Name_kw (zcJ I hg hm ?_ hdb);exact callWith_K0 I.kIn M.kp (zfM (us:=[]) M F hr hb hd hx I .nil h)
end
def PK(X:Cx)(kws:List Keyword)(t:TA):Prop:=∀(pos:Pos)(pins:List (Addr×Obj))(s:Shared)(σ:St)(H:Hp)(Q:List V->Hp->Prop),Inv X pins σ H s->t σ H Q->wpAny (model X.prog X.w) X.A (evalAll ((backToKw pos (keywordEach kws X.env)).map (·.2))) (AP X pins σ Q) X.xe s
section
variable{X:Cx}{CX:CXT}{k:Nat}{f C:Addr}{fd:FuncData}{ps ks:List Str}{sp:Sp}{E:XK}{x m:Str}{p pos apos kpos:Pos}{e o:Expr}{es:List Expr}{kws:List Keyword}{te ta:TE}{t tk:TA}{nm:Option Str}
theorem znL:PK X [] tNil:=fun _ _ _ _ H Q I h=>wpAny_evalAll_nil ⟨[],H,I,.nil,h⟩
theorem zlS(ha:PE X e te)(hr:PK X kws t):PK X (⟨nm,e,kpos⟩::kws) (zhh te t):=by intro pos pins s σ H Q I h;show wpAny _ _ (evalAll ((do let v <-eval e X.env;standAt pos;pure v)::(backToKw pos (keywordEach kws X.env)).map (·.2))) _ _ s;refine wpAny_evalAll_cons (wpAny_bind (thn (ha pins s σ H _ I h) fun u s1 ⟨x,H1,I1,r1,q1⟩=>wpAny_bind (wpAny_standAt (wpAny_pure ?_))));exact thn (hr pos pins s1 σ H1 _ I1 q1) fun us s2 ⟨xs,H2,I2,r2,q2⟩=>⟨x::xs,H2,I2,.cons r1 r2,q2⟩
structure KBinds(K:Frag)(fd:FuncData)(ps ks:List Str)(g:List Value->List Value->List Value)(gV:List V->List V->List V):Prop where
 to:∀(s:Shared)(us ws:List Value),K.In s.heap->(g us ws).length=ps.length->BindsTo s fd ⟨us,ks.zip ws⟩ (ps.zip (g us ws))
 rel:∀{vs:List V}{us:List Value}{zs:List V}{ws:List Value},Vals vs us->Vals zs ws->Vals (gV vs zs) (g us ws)
end
structure FnScope(N P:List Str)(sc:Scope):Prop where
 kind:sc.kind=.function
 co:sc.isCoroutine=false
 gen:sc.isGenerator=false
 nd:N.Nodup
 pre:N.take P.length=P
 par:∀x∈P,sc.names.lookup x=some .local\/sc.names.lookup x=some .cell
 nofree:∀y∈sc.names,y.2≠.free
theorem ze3{kindOf:Str->Option NameKind}{x:Str}:∀{binds:List (Str×Value)}{m:Str->Option Value},(∀v,(x,v)∉binds)->bindL kindOf binds m x=m x
 | [],_,_=>rfl| (n,v)::r,m,h=>by
  unfold bindL;rw[ze3 fun w hw=>h w (mem_cons_of_mem _ hw)];split;have:x≠n:=by rintro rfl;exact h v mem_cons_self
  simp[this];rfl
theorem ze5{kindOf:Str->Option NameKind}{x:Str}:∀{binds:List (Str×Value)}{m:Str->Option Value},(∀v,(x,v)∉binds)->bindC kindOf binds m x=m x
 | [],_,_=>rfl| (n,v)::r,m,h=>by
  unfold bindC;rw[ze5 fun w hw=>h w (mem_cons_of_mem _ hw)];split;rfl;have:x≠n:=by rintro rfl;exact h v mem_cons_self
  simp[this]
theorem ze4{kindOf:Str->Option NameKind}{x:Str}{v:Value}:∀{P:List Str}{vs:List Value}{i:Nat}{m:Str->Option Value},P.Nodup->P[i]?=some x->vs[i]?=some v->kindOf x=some .local->
  bindL kindOf (P.zip vs) m x=some v
 | [],_,_,_,_,h,_,_=>by simp at h|_::_,[],_,_,_,_,h,_=>by simp at h| p::P,w::vs,0,m,nd,h1,h2,hk=>by simp at h1 h2;subst h1;subst h2;show bindL kindOf ((p,w)::P.zip vs) m p=_;unfold bindL;rw[ze3 fun v hv=>(nodup_cons.mp nd).1 (of_mem_zip hv).1,if_pos hk];simp| p::P,w::vs,i+1,m,nd,h1,h2,hk=>by show bindL kindOf ((p,w)::P.zip vs) m x=_;unfold bindL;exact ze4 (i:=i) (nodup_cons.mp nd).2 (by simpa using h1) (by simpa using h2) hk
theorem ze6{kindOf:Str->Option NameKind}{x:Str}{v:Value}:∀{P:List Str}{vs:List Value}{i:Nat}{m:Str->Option Value},P.Nodup->P[i]?=some x->vs[i]?=some v->kindOf x≠some .local->
  bindC kindOf (P.zip vs) m x=some v
 | [],_,_,_,_,h,_,_=>by simp at h|_::_,[],_,_,_,_,h,_=>by simp at h| p::P,w::vs,0,m,nd,h1,h2,hk=>by simp at h1 h2;subst h1;subst h2;show bindC kindOf ((p,w)::P.zip vs) m p=_;unfold bindC;rw[ze5 fun v hv=>(nodup_cons.mp nd).1 (of_mem_zip hv).1,if_neg hk];simp| p::P,w::vs,i+1,m,nd,h1,h2,hk=>by show bindC kindOf ((p,w)::P.zip vs) m x=_;unfold bindC;exact ze6 (i:=i) (nodup_cons.mp nd).2 (by simpa using h1) (by simpa using h2) hk
noncomputable def start(N:List Str)(vs:List V):St:=vs.map some++List.replicate (N.length-vs.length) none
noncomputable def cxOf(CX:CXT)(P:Program)(w:World)(K:Frag)(mg:Str->Option Value)(base:Heap)(N:List Str)(qual:Str)(scope:Scope)(f:Addr)(cd:Value)(A:Around)(outer:List Env)(s:Shared)(H:Hp)(E:XK):Cx where
 prog:=P
 w:=w
 K:=K
 mg:=mg
 base:=base
 A:=A.deeper (envOfC qual scope s.heap.objs.size f cd)
 N:=N
 s₀:=s
 H₀:=H
 env:=envOfC qual scope s.heap.objs.size f cd
 outer:=outer
 stack:=envOfC qual scope s.heap.objs.size f cd::outer
 ex:=[]
 calm:=true
 fn:=fun _=>true
 pn:=[]
 xe:=fun e s'=>wpAny (model P w) (A.deeper (envOfC qual scope s.heap.objs.size f cd)) (leaving (envOfC qual scope s.heap.objs.size f cd) e) (fun _ s''=>CX outer H s E e s'') (fun e' s''=>CX outer H s E e' s'') s'
theorem zgn{sc:Scope}{n:Nat}{x:Str}(h:sc.names.lookup x=some .cell):∃c,(cellsFrom n sc.names []).lookup x=some c:=by have q:=cellsFrom_some sc.names n [] (.inl h);exact Option.isSome_iff_exists.mp q
theorem zeP{CX:CXT}{P:Program}{w:World}{K:Frag}{mg:Str->Option Value}{base:Heap}{N ps:List Str}{qual:Str}{scope:Scope}{f:Addr}{cd:Value}{A:Around}{outer:List Env}{s s1:Shared}{H:Hp}{E:XK}{us:List Value}{vs:List V}
  (S:FnScope N ps scope) (hd:A.handled=none) (e0:Env0 P w K mg base A outer s H) (hl:vs.length=ps.length) (r:Vals vs us)
  (x:InCallC s s.heap.objs.size (bindL (envOfC qual scope s.heap.objs.size f cd).kindOf (ps.zip us) fun _=>none) (cellsFrom (s.heap.objs.size+1) scope.names []) (bindC (envOfC qual scope s.heap.objs.size f cd).kindOf (ps.zip us) fun _=>none) s1) :
  Inv (cxOf CX P w K mg base N qual scope f cd A outer s H E) [] (start N vs) H s1:=by
 have hpl:ps.length<=N.length:=by have:=congrArg List.length S.pre;rw[length_take]at this;omega
 obtain⟨h1,tk,rfl,hk⟩:=x.done;have noA:∀b:Addr,b∉(cxOf CX P w K mg base N qual scope f cd A outer s H E).ex:=fun b z=>absurd (show b∈([]:List Addr) from z) (by simp);refine⟨⟨e0.mod,S.kind,rfl,rfl,le_refl _,fun y z c h1 h2=>?_,fun y hy=>?_,fun y c _ h=>?_,fun _=>hd,Around.frames_deeper e0.frames,.inr ⟨rfl,rfl⟩,fun b z=>absurd z (noA b),e0.bs,e0.bsz,fun b _ _=>noA b,fun b z=>absurd z (noA b),e0.funs,e0.frf⟩,
  rfl,e0.bare,Un.kept hk,⟨_,x.toInCall.ns,fun i y v h1 h2 h3=>?_⟩,fun y c h=>⟨_,x.cell y c h⟩,e0.hok.fresh (le_refl _),fun y c h=>?_,fun p hp=>absurd (show p∈([]:List (Addr×Obj)) from hp) (by simp),e0.hok.kept hk,?_⟩
 exact name_of_addr x.apart (PySem.mem_of_lookup h1) (PySem.mem_of_lookup h2);have hy:scope.names.lookup y=some .cell\/scope.names.lookup y=some .free:=hy;rcases hy with hy|hy;exact zgn hy;exact absurd rfl (S.nofree _ (PySem.mem_of_lookup hy));exact le_of_lt (x.above y c (PySem.mem_of_lookup h));have hi:i<vs.length:=by
  unfold start at h2;by_cases hi:i<vs.length;exact hi
  . rw[getElem?_append_right (by simpa using hi)]at h2;rw[List.getElem?_replicate]at h2;split at h2<;>cases h2
 have ha:vs[i]?=some v:=by
  unfold start at h2;rw[getElem?_append_left (by simpa using hi),getElem?_map]at h2;cases e:vs[i]? with
  |none=>rw[e]at h2;cases h2
  |some a=>rw[e]at h2;cases h2;rfl
 obtain⟨u,hu,rv⟩:=r.get ha;have hp:ps[i]?=some y:=by rw[<-S.pre,List.getElem?_take_of_lt (by omega)];exact h1
 have ndP:ps.Nodup:=by rw[<-S.pre];exact S.nd.sublist (List.take_sublist _ _)
 refine⟨u,rv,?_⟩;rcases S.par y (mem_of_getElem? hp) with k|k;exact .inl ⟨k,ze4 ndP hp hu k⟩;obtain⟨c,e⟩:=zgn (n:=s.heap.objs.size+1) k;refine .inr ⟨.inl k,c,e,?_⟩;have q:=x.cell y c e;rw[ze6 ndP hp hu (by show scope.names.lookup y≠_;rw[k];decide)]at q;exact q;exact e0.hok.fresh (le_of_lt (x.above y c (PySem.mem_of_lookup h)));unfold start;show _=N.length;rw[length_append,length_map,length_replicate];omega
theorem zov{CX:CXT}{P:Program}{w:World}{K:Frag}{mg:Str->Option Value}{base:Heap}{k:Nat}{f:Addr}{name qual:Str}{params:Arguments}{body:List Stmt}{scope:Scope}{dV kV doc pm cdv ct oc:Value}{an od:Option Addr}
  {osl:Array (Option Value)} {N ps:List Str} {sp:Sp} (lk:K.lookup f=some ⟨oc,od,.func (fnOf name qual params body scope dV kV doc pm an cdv ct),osl⟩) (hcd:codeIn K cdv qual=true) (S:FnScope N ps scope)
  (len:∀vs H Q E,sp vs H Q E->vs.length=ps.length)
  (hbody:∀(A:Around)(outer:List Env)(s:Shared)(H:Hp)(vs:List V)(Q:VK)(E:XK),Room k (A.deeper (envOfC qual scope s.heap.objs.size f cdv))->sp vs H Q E->
   ∃t,PSs (cxOf CX P w K mg base N qual scope f cdv A outer s H E) body t/\t {nx:=fun _ H'=>Q .non H',rt:=Q} (start N vs) H) :
  FnOk P w K mg base CX (k+1) f (fnOf name qual params body scope dV kV doc pm an cdv ct) ps sp:=by
 refine⟨len,fun A outer s H args us vs Q E hr e0 hb r hsp=>?_⟩;have hl:=len _ _ _ _ hsp;have KX:K.In s.heap:=e0.mod.kin.keeps fun b o e=>(e0.bs b o e).1;have lim:s.heap.NoLimit:=e0.mod.nolimit.keeps fun b o e=>(e0.bs b o e).1;have hkind:∀y∈ps.zip us,scope.names.lookup y.1=some .local\/(scope.names.lookup y.1=some .cell/\((cellsFrom (s.heap.objs.size+1) scope.names []).lookup y.1).isSome=true):=fun⟨n,v⟩ hy=>by rcases S.par n (of_mem_zip hy).1 with q|q;exact .inl q;exact .inr ⟨q,cellsFrom_some _ _ _ (.inl q)⟩
 refine codeAny_call_function hr.depth (KX _ _ lk) rfl S.co S.gen rfl (PySem.W.codeRec_of KX hcd) (hb _ _ _ _ ?_);refine wpAny_newFunctionEnv_cells S.kind hkind fun env he s1 x=>?_;subst he;refine⟨lim.keeps x.toInCall.keep,codeAny_func ?_⟩;obtain⟨t,ht,hq⟩:=hbody A outer s H vs Q E (hr.deeper _) hsp;have I:Inv (cxOf CX P w K mg base N qual scope f cdv A outer s H E) [] (start N vs) H s1:=zeP S hr.hd e0 hl r x;refine wpAny_mono (ht [] s1 (start N vs) H _ I hq) (fun fl s' hs=>?_) fun e s' hs=>hs;have fin:∀{σ':St}{H':Hp}{v:V}{u:Value},Inv (cxOf CX P w K mg base N qual scope f cdv A outer s H E) [] σ' H' s'->RelV v u->Q v H'->CE outer P w H s Q u s':=fun {σ' H' v u} J rv q=>⟨v,H',J.os,J.bare,J.base,J.hok,rv,q⟩;cases fl with| ret u=>obtain⟨v,σ',H',J,rv,q⟩:=hs;exact fin J rv q| next=>obtain⟨σ',H',J,q⟩:=hs;exact fin (v:=V.non) (u:=Value.none) J rfl q| brk=>obtain⟨_,_,_,q⟩:=hs;exact False.elim q| cont=>obtain⟨_,_,_,q⟩:=hs;exact False.elim q
section
variable{X:Cx}{x:Str}{p pos:Pos}{e:Expr}{es:List Expr}{t:TA}{id T:String}{r:List V->Hp->VK->Prop}
def tCB(r:List V->Hp->VK->Prop)(t:TA):TE:=fun σ H Q=>t σ H fun vs H1=>r vs H1 Q
theorem zfX(hc:zbb X (.builtin id) r)(hg:Gl X x)(hm:X.mg x=none)(hv:bootBuiltins x=some (.builtin id))(ha:PA X (e::es) t)(hn:x≠"__name__":=by decide)(hdb:(x==("__debug__":Str))=false:=by decide)
  (he:starEach (e::es) X.env=(false,eval e X.env)::starEach es X.env:=by rfl) (hpl:(backTo pos (starEach es X.env)).any (·.1)=false:=by rfl):PE X (.Call (.Name x p) (e::es) [] pos) (tCB r t):=by
 intro pins s σ H Q I h;refine wpAny_Call_Name_kw (zcK I hg hm hv ?_ hn hdb);exact PyProof.Rows.callWith_builtin1 (thn (ha pos pins s σ H _ I h) fun us s1 ⟨vs,H1,I1,r1,q1⟩=>hc pins s1 σ H1 vs us Q I1 r1 q1) he hpl
theorem za8(hc:zbb X (.type T) r)(hg:Gl X x)(hm:X.mg x=none)(hv:bootBuiltins x=some (.type T))(ha:PA X (e::es) t)(hn:x≠"__name__":=by decide)(hdb:(x==("__debug__":Str))=false:=by decide)
  (he:starEach (e::es) X.env=(false,eval e X.env)::starEach es X.env:=by rfl) (hpl:(backTo pos (starEach es X.env)).any (·.1)=false:=by rfl):PE X (.Call (.Name x p) (e::es) [] pos) (tCB r t):=by
 intro pins s σ H Q I h;refine wpAny_Call_Name_kw (zcK I hg hm hv ?_ hn hdb);exact PyProof.Rows.callWith_type1 (thn (ha pos pins s σ H _ I h) fun us s1 ⟨vs,H1,I1,r1,q1⟩=>hc pins s1 σ H1 vs us Q I1 r1 q1) he hpl
end
section
variable{κ:Type}[DecidableEq κ]
noncomputable def valV(kvs:List (κ×V))(k:κ):Option V:=(kvs.find? fun kv=>decide (kv.1=k)).map (·.2)
noncomputable def putK(kvs:List (κ×V))(k:κ)(v:V):List (κ×V):=if(kvs.any fun kv=>decide (kv.1=k))=true then kvs.map (fun kv=>if kv.1=k then(kv.1,v) else kv) else kvs++[(k,v)]
theorem zdx{p:κ×V}{r:List (κ×V)}{k:κ}(e:p.1=k):valV (p::r) k=some p.2:=by simp[valV,List.find?_cons,e]
theorem zdy{p:κ×V}{r:List (κ×V)}{k:κ}(e:¬p.1=k):valV (p::r) k=valV r k:=by simp[valV,List.find?_cons,e]
theorem zfG(k:κ):∀kvs:List (κ×V),(kvs.any fun kv=>decide (kv.1=k))=(valV kvs k).isSome
 | []=>rfl| p::r=>by rw[any_cons];by_cases e:p.1=k;simp only[zdx e,decide_eq_true e,Bool.true_or,Option.isSome_some];rw[zdy e,decide_eq_false e,Bool.false_or];exact zfG k r
theorem zbU(kvs:List (κ×V))(k:κ)(v:V):(putK kvs k v).length<=kvs.length+1:=by unfold putK;split;rw[length_map];omega;rw[length_append,length_cons,length_nil];omega
theorem RelO.isSome_eq{o:Option V}{u:Option Value}(r:RelO o u):o.isSome=u.isSome:=by
 cases o with
 |none=>cases u with
  |none=>rfl|some _=>exact(show False from r).elim
 |some _=>cases u with|none=>exact(show False from r).elim|some _=>rfl
theorem RelO.getD{o:Option V}{u:Option Value}{d:V}{d':Value}(r:RelO o u)(rd:RelV d d'):RelV (o.getD d) (u.getD d'):=by
 cases o with
 |none=>cases u with
  |none=>exact rd|some _=>exact(show False from r).elim
 |some _=>cases u with|none=>exact(show False from r).elim|some _=>exact r
theorem KV.val{kvs:List (κ×V)}{vs:List (κ×Value)}(r:KV kvs vs)(k:κ):RelO (valV kvs k) (valueAt vs k):=by
 unfold KV at r;induction r with
 |nil=>exact True.intro| @cons p q ps qs h t ih=>
  obtain⟨h1,h2⟩:=h;by_cases e:p.1=k;have e':q.1=k:=h1.symm.trans e;have b:valueAt (q::qs) k=some q.2:=by simp[valueAt,List.find?_cons,e']
  rw[zdx e,b];exact h2;have e':¬q.1=k:=fun z=>e (h1.trans z);have b:valueAt (q::qs) k=valueAt qs k:=by simp[valueAt,List.find?_cons,e']
  rw[zdy e,b];exact ih
theorem KV.any{kvs:List (κ×V)}{vs:List (κ×Value)}(r:KV kvs vs)(k:κ):(kvs.any fun kv=>decide (kv.1=k))=vs.any fun kv=>decide (kv.1=k):=by unfold KV at r;induction r with|nil=>rfl|cons h t ih=>rw[any_cons,any_cons,ih,h.1]
theorem KV.repl{kvs:List (κ×V)}{vs:List (κ×Value)}(r:KV kvs vs)(k:κ){y:V}{u:Value}(ry:RelV y u) :
  KV (kvs.map fun kv=>if kv.1=k then(kv.1,y) else kv) (vs.map fun kv=>if kv.1=k then(kv.1,u) else kv):=by
 unfold KV at r⊢;induction r with|nil=>exact .nil| @cons p q ps qs h t ih=>rw[map_cons,map_cons];refine .cons ?_ ih;obtain⟨h1,h2⟩:=h;by_cases e:p.1=k;rw[if_pos e,if_pos (h1.symm.trans e)];exact⟨h1,ry⟩;rw[if_neg e,if_neg (fun z=>e (h1.trans z))];exact⟨h1,h2⟩
theorem KV.put{kvs:List (κ×V)}{vs:List (κ×Value)}(r:KV kvs vs)(k:κ){y:V}{u:Value}(ry:RelV y u):KV (putK kvs k y) (stored vs k u):=by unfold putK stored;rw[r.any k];by_cases e:(vs.any fun kv=>decide (kv.1=k))=true;rw[if_pos e,if_pos e];exact r.repl k ry;rw[if_neg e,if_neg e];exact Paired.snoc r ⟨rfl,ry⟩
theorem KV.length{kvs:List (κ×V)}{vs:List (κ×Value)}(r:KV kvs vs):kvs.length=vs.length:=Paired.length r
end
theorem zjY{P:Program}{w:World}{k:Key}{u:Value}(r:RelV (kV k) u):(zao P w).is k u=true:=by cases k with|inl i=>obtain⟨t,e⟩:=(show ∃t,u=Value.int i t from r);subst e;exact zfs P w i t|inr x=>obtain⟨t,e⟩:=(show ∃t,u=Value.str x t from r);subst e;exact zfr P w x t
theorem zeM{P:Program}{w:World}:∀{ks:List Key}{us:List Value},Vals (ks.map kV) us->ItemsAre (zao P w) ks us
 | [],_,r=>by rw[map_nil]at r;cases r;exact .nil| k::ks,_,r=>by rw[map_cons]at r;cases r with|cons h t=>exact .cons (zjY h) (zeM t)
abbrev KT(H:Hp):List (List Key×V)->List (List Key×Addr×Value)->Prop:=Paired fun p q=>p.1=q.1/\H q.2.1=some (.tup (p.1.map kV))/\RelV p.2 q.2.2
theorem KT.val{H:Hp}{kvs:List (List Key×V)}{xs:List (List Key×Addr×Value)}(r:KT H kvs xs)(k:List Key):RelO (valV kvs k) ((atKey xs k).map (·.2)):=by
 induction r with
 |nil=>exact True.intro| @cons p q ps qs h t ih=>
  obtain⟨h1,_,h2⟩:=h;by_cases e:p.1=k;have e':q.1=k:=h1.symm.trans e;have b:atKey (q::qs) k=some q.2:=by simp[atKey,List.find?_cons,e']
  rw[zdx e,b];exact h2;have e':¬q.1=k:=fun z=>e (h1.trans z);have b:atKey (q::qs) k=atKey qs k:=by simp[atKey,List.find?_cons,e']
  rw[zdy e,b];exact ih
theorem KT.repl{H:Hp}{kvs:List (List Key×V)}{xs:List (List Key×Addr×Value)}(r:KT H kvs xs)(k:List Key){y:V}{u:Value}(ry:RelV y u) :
  KT H (kvs.map fun kv=>if kv.1=k then(kv.1,y) else kv) (xs.map (putAt k u)):=by
 induction r with|nil=>exact .nil| @cons p q ps qs h t ih=>rw[map_cons,map_cons];refine .cons ?_ ih;obtain⟨h1,h2,h3⟩:=h;unfold putAt;by_cases e:p.1=k;rw[if_pos e,if_pos (h1.symm.trans e)];exact⟨h1,h2,ry⟩;rw[if_neg e,if_neg (fun z=>e (h1.trans z))];exact⟨h1,h2,h3⟩
theorem KT.put{H:Hp}{kvs:List (List Key×V)}{xs:List (List Key×Addr×Value)}(r:KT H kvs xs)(k:List Key){b:Addr}{y:V}{u:Value}(hb:H b=some (.tup (k.map kV)))(ry:RelV y u) :
  KT H (putK kvs k y) (storedH xs k b u):=by
 have e:(kvs.any fun kv=>decide (kv.1=k))=(atKey xs k).isSome:=by rw[zfG,(r.val k).isSome_eq,Option.isSome_map]
 unfold putK storedH;rw[e];by_cases q:(atKey xs k).isSome=true;rw[if_pos q,if_pos q];exact r.repl k ry;rw[if_neg q,if_neg q];exact Paired.snoc r ⟨rfl,hb,ry⟩
theorem KT.keeps{H H':Hp}{kvs:List (List Key×V)}{xs:List (List Key×Addr×Value)}(r:KT H kvs xs)(ht:∀b ys,H b=some (.tup ys)->H' b=some (.tup ys)):KT H' kvs xs:=Paired.mapP r fun _ _ z=>⟨z.1,ht _ _ z.2.1,z.2.2⟩
section
variable{P:Program}{w:World}{H:Hp}{h:Heap}{a:Addr}
theorem znw{u:HO}(ok:HOk P w H h)(e:Rd H a u):ObjOk P w H h a u:=e.ok ok
theorem zmx{kvs:List (Key×V)}(ok:HOk P w H h)(e:Rd H a (.dK kvs)):kvs.length<=sizeLine/\(a==sysModules)=false/\∃vs,KV kvs vs/\h.DictOf (zao P w) a vs:=show ObjOk P w H h a (.dK kvs) from znw ok e
theorem zoD{kvs:List (Key×V)}(ok:HOk P w H h)(e:H a=some (.dK kvs)):kvs.length<=sizeLine/\(a==sysModules)=false/\∃vs,KV kvs vs/\h.DictOf (zao P w) a vs:=zmx ok (.inl e)
theorem zeL{ks:List Key}(ok:HOk P w H h)(e:H a=some (.tup (ks.map kV))):(tupleKind (zao P w)).is h ks a:=by obtain⟨_,its,r,o,h1,h2,n,h3⟩:=(show ObjOk P w H h a (.tup (ks.map kV)) from ok a _ e);exact⟨o,its.toArray,n,h1,h2,h3,by simpa using zeM r⟩
theorem zmw{kvs:List (List Key×V)}(ok:HOk P w H h)(e:Rd H a (.dT kvs)):kvs.length<=sizeLine/\(a==sysModules)=false/\
  ∃xs,KT H kvs xs/\h.DictOfH (tupleKind (zao P w)) a xs:=by
 obtain⟨z,y,xs,r,o,es,ep,h1,h2,h3,h4,h5⟩:=(show ObjOk P w H h a (.dT kvs) from znw ok e);refine⟨z,y,xs,r,o,es,ep,h1,h2,h3,h4,fun x hx=>?_,h5⟩;have all:∀{l:List (List Key×V)}{m:List (List Key×Addr×Value)},KT H l m->∀x∈m,(tupleKind (zao P w)).is h x.1 x.2.1:=by
  intro l m q;induction q with
  |nil=>intro x hx;exact nomatch hx
  | @cons p q ps qs hq t ih=>intro x hx;rcases mem_cons.mp hx with e|hx;subst e;exact zeL ok (by rw[<-hq.1];exact hq.2.1);exact ih x hx
 exact all r x hx
theorem zpX{kvs:List (List Key×V)}(ok:HOk P w H h)(e:H a=some (.dT kvs)):kvs.length<=sizeLine/\(a==sysModules)=false/\
 ∃xs,KT H kvs xs/\h.DictOfH (tupleKind (zao P w)) a xs:=zmw ok (.inl e)
end
def DGet(H:Hp)(a:Addr)(y:V)(r:Option V):Prop:=(∃kvs k,Rd H a (.dK kvs)/\y=kV k/\r=valV kvs k)\/∃kvs k b,Rd H a (.dT kvs)/\y=.ref b/\H b=some (.tup (k.map kV))/\r=valV kvs k
def DPut(H:Hp)(a:Addr)(y v:V)(H':Hp):Prop:=
 (∃kvs k,H a=some (.dK kvs)/\y=kV k/\kvs.length<sizeLine/\H'=upd H a (.dK (putK kvs k v)))\/
 ∃kvs k b,H a=some (.dT kvs)/\y=.ref b/\H b=some (.tup (k.map kV))/\kvs.length<sizeLine/\H'=upd H a (.dT (putK kvs k v))
theorem DGet.k{H:Hp}{a:Addr}{kvs:List (Key×V)}{k:Key}(e:H a=some (.dK kvs)):DGet H a (kV k) (valV kvs k):=.inl ⟨kvs,k,.inl e,rfl,rfl⟩
theorem DPut.k{H:Hp}{a:Addr}{kvs:List (Key×V)}{k:Key}{v:V}(e:H a=some (.dK kvs))(hl:kvs.length<sizeLine):DPut H a (kV k) v (upd H a (.dK (putK kvs k v))):=.inl ⟨kvs,k,e,rfl,hl,rfl⟩
section
variable{X:Cx}{pins:List (Addr×Obj)}{σ:St}{H:Hp}{s:Shared}{a:Addr}{y v:V}{u r:Value}{o:Option V}{A:Around}{E:Value->Shared->Prop}
theorem Inv.big(I:Inv X pins σ H s):sysModules<s.heap.objs.size:=by have h:mainGlobals<s.heap.objs.size:=(I.mod.glob.keeps I.bk).lt;exact lt_trans (by decide) h
theorem zd9{h':Heap}{t':Nat}{ob:HO}(I:Inv X pins σ H s)(mu:Mut (H a))(hs:Heap.SameBut a s.heap h')(he:∃q,h'.get? a=some q)(new:ObjOk X.prog X.w (upd H a ob) h' a ob) :
  Inv X pins σ (upd H a ob) {s with heap:=h',toks:=t'}:=
 I.write (x:=a) (e:=a) mu (.inl rfl) (fun b q hb z=>(hs.2 b hb).trans z) he new
theorem zkK{P:Program}{w:World}{H':Hp}{h':Heap}{kvs:List (Key×V)}{vs:List (Key×Value)}(z:kvs.length<=sizeLine)(hd:(a==sysModules)=false)(rel:KV kvs vs)(dd:h'.DictOf (zao P w) a vs) :
 ObjOk P w H' h' a (.dK kvs):=⟨z,hd,vs,rel,dd⟩
theorem ziI{H':Hp}{Q:Unit->Shared->Prop}(hu:A.units+1<cLine)(I:Inv X pins σ H s)(g:DPut H a y v H')(ry:RelV y u)(rv:RelV v r)(h:∀s',Inv X pins σ H' s'->Q () s') :
  wpAny (model X.prog X.w) A (setItem (.ref a) u r) Q E s:=by
 rcases g with⟨kvs,k,e,ey,l,eH⟩|⟨kvs,k,b,e,ey,eb,l,eH⟩
 . subst ey eH;obtain⟨z,hd,vs,rel,dd⟩:=zoD I.hok e;have hz:vs.length<=sizeLine:=by rw[<-rel.length];exact z
   have hl:(putK kvs k v).length<=sizeLine:=by have:=zbU kvs k v;omega
   refine wpAny_setItem_pairs (hsz:=hz) (zjY ry) dd fun h' dd' hs=>h _ ?_;have he:∃q,h'.get? a=some q:=let ⟨q,_,_,hq,_⟩:=dd';⟨q,hq⟩;exact zd9 I (by rw[e];exact True.intro) hs he (zkK hl hd (rel.put k rv) dd')
 subst ey eH;cases(show u=Value.ref b from ry);obtain⟨z,hd,xs,rel,dd⟩:=zpX I.hok e;have hz:xs.length<=sizeLine:=by rw[<-Paired.length rel];exact z
 have hl:(putK kvs k v).length<=sizeLine:=by have:=zbU kvs k v;omega
 refine wpAny_setItem_heap (hsz:=hz) (tupleKind_room_in1 hu) (zeL I.hok eb) dd fun h' dd' hs=>h _ ?_;obtain⟨q,es,ep,hq,h2,h3,h4,_,h5⟩:=dd';refine zd9 I (by rw[e];exact True.intro) hs ⟨q,hq⟩ ⟨hl,hd,_,(rel.put k eb rv).keeps fun c ys ec=>?_,q,es,ep,hq,h2,h3,h4,h5⟩;rw[zaf (ne_of ec e (fun z=>nomatch z))];exact ec
end
theorem zkc{P:Program}{w:World}{H:Hp}(h:Heap)(hb:sysModules<h.objs.size):ObjOk P w H (h.push {cls:=.type "dict",data:=.dict #[]}) h.objs.size (.dK []):=⟨zero_le _,beq_eq_false_iff_ne.mpr (Ne.symm (ne_of_lt hb)),[],.nil,Heap.DictOf.new h⟩
def zm2:TE:=fun _ H Q=>∀p,H p=none->Q (.ref p) (upd H p (.dK []))
section
variable{X:Cx}{pos:Pos}
theorem zjF:PE X (.Dict [] [] pos) zm2:=fun pins s σ H Q I h=>wpAny_Dict_empty ⟨.ref s.heap.objs.size,_,I.laid (a:=s.heap.objs.size) (o:=.dK []) (t':=s.toks) (fun _ _ q=>Heap.get?_push_of_some _ q) (le_refl _) (zkc s.heap I.big),rfl,h _ (I.hok.fresh (le_refl _))⟩
end
structure M1(X:Cx)(o:Expr)(m:Str)(apos:Pos)(e:Expr)(cpos:Pos):Prop where
 base:attributeBase o m X.env (eval o X.env)=eval o X.env
 few:((backTo cpos (starEach [e] X.env)).all (fun x=>!x.1)&&(backToKw cpos (keywordEach [] X.env)).all (fun x=>x.1.isSome)
  && decide (([e]:List Expr).length+([]:List Keyword).length+(if([]:List Keyword).isEmpty then 0 else 1)<30))=true
 line:(apos.endLine==cpos.line)=true
 trees:backTo cpos (starEach [e] X.env)=[(false,eval e X.env)]
structure M2(X:Cx)(o:Expr)(m:Str)(apos:Pos)(e f:Expr)(cpos:Pos):Prop where
 base:attributeBase o m X.env (eval o X.env)=eval o X.env
 few:((backTo cpos (starEach [e,f] X.env)).all (fun x=>!x.1)&&(backToKw cpos (keywordEach [] X.env)).all (fun x=>x.1.isSome)
  && decide (([e,f]:List Expr).length+([]:List Keyword).length+(if([]:List Keyword).isEmpty then 0 else 1)<30))=true
 line:(apos.endLine==cpos.line)=true
 trees:backTo cpos (starEach [e,f] X.env)=[(false,eval e X.env),(false,eval f X.env)]
def IsD(H:Hp)(a:Addr):Prop:=(∃kvs,Rd H a (.dK kvs))\/∃kvs,Rd H a (.dT kvs)
theorem zkE{X:Cx}{pins:List (Addr×Obj)}{σ:St}{H:Hp}{s:Shared}{a:Addr}(I:Inv X pins σ H s)(d:IsD H a) :
  s.TypeIs (.ref a) "dict"/\(∀b,Value.ref a=.ref b->∃ob,s.heap.get? b=some ob/\ob.dict=none)/\(a==sysModules)=false:=by
 rcases d with⟨kvs,e⟩|⟨kvs,e⟩;obtain⟨_,hd,vs,_,dd⟩:=zmx I.hok e;refine⟨dd.typeIs,fun b q=>?_,hd⟩;cases q;obtain⟨ob,_,_,h1,h2,_⟩:=dd;exact⟨ob,h1,h2.2.1⟩;obtain⟨_,hd,xs,_,dd⟩:=zmw I.hok e;refine⟨dd.typeIs,fun b q=>?_,hd⟩;cases q;obtain⟨ob,_,_,h1,h2,_⟩:=dd;exact⟨ob,h1,h2.2.1⟩
section
variable{X:Cx}{pins:List (Addr×Obj)}{σ:St}{H:Hp}{s:Shared}{a:Addr}{y d:V}{u r:Value}{o:Option V}{A:Around}{E:Value->Shared->Prop}
theorem zoE{Q:Value->Shared->Prop}(hu:A.units+1<cLine)(I:Inv X pins σ H s)(g:DGet H a y o)(ry:RelV y u)(rd:RelV d r)(h:∀w' s',Inv X pins σ H s'->RelV (o.getD d) w'->Q w' s') :
  wpAny (model X.prog X.w) A (call (.builtin "dict.get") [.ref a,u,r]) Q E s:=by
 rcases g with⟨kvs,k,e,ey,l⟩|⟨kvs,k,b,e,ey,eb,l⟩;subst ey;obtain⟨z,hd,vs,rel,dd⟩:=zmx I.hok e;refine call_meetsIn PySem.F.slot_dict_get dd.typeIs PySem.F.entry_dict_get (PySem.F.args_dict_get_3 _ _ _) (meets_dict_get_default (zao X.prog X.w) a (zjY ry) hd r) ⟨_,dd.mapOf,h _ _ (I.tok _) ?_⟩;rw[l];exact(rel.val k).getD rd;subst ey;cases(show u=Value.ref b from ry);obtain⟨z,hd,xs,rel,dd⟩:=zmw I.hok e;refine call_meetsIn PySem.F.slot_dict_get dd.typeIs PySem.F.entry_dict_get (PySem.F.args_dict_get_3 _ _ _) (meetsH_dict_get_default (tupleKind (zao X.prog X.w)) a b hd r) ⟨tupleKind_room_in1 hu,k,xs,zeL I.hok eb,dd,h _ _ (I.tok _) ?_⟩;rw[l];exact(rel.val k).getD rd
end
def zm3(td ty tx:TE):TE:=fun σ H Q=>td σ H fun x H1=>∃a,x=.ref a/\IsD H1 a/\ty σ H1 fun y H2=>tx σ H2 fun z H3=>∃o,DGet H3 a y o/\Q (o.getD z) H3
section
variable{X:Cx}{o e f:Expr}{apos cpos:Pos}{td ty tx:TE}
theorem zjH(hu:X.A.units+1<cLine)(ho:PE X o td)(he:PE X e ty)(hf:PE X f tx)(m:M2 X o "get" apos e f cpos):PE X (.Call (.Attribute o "get" apos) [e,f] [] cpos) (zm3 td ty tx):=by intro pins s σ H Q I h;refine wpAny_Call_method m.base m.few m.line PySem.F.plainAttrs_dict PySem.F.slot_dict_get PySem.F.type_dict_get (thn (ho pins s σ H _ I h) fun u s1 ⟨x,H1,I1,rx,a,ex,d,q1⟩=>?_);subst ex;obtain rfl:u=Value.ref a:=rx;obtain⟨t1,t2,_⟩:=zkE I1 d;refine⟨t1,t2,?_⟩;rw[m.trees];refine Calls.callWith_builtin rfl (Calls.evalArgs_plain (Calls.spliced_cons (thn (he pins s1 σ H1 _ I1 q1) fun iv s2 ⟨y,H2,I2,ry,q2⟩=>Calls.spliced_cons (thn (hf pins s2 σ H2 _ I2 q2) fun fv s3 ⟨z,H3,I3,rz,ov,g,q3⟩=>Calls.spliced_nil ?_))));exact zoE hu I3 g ry rz fun w' s4 I4 rw'=>⟨_,H3,I4,rw',q3⟩
end
end L2
namespace HT
open PySem PyProof.Rows
noncomputable def lexLt:List Int->List Int->Bool
 | [],[]=>false| [],_::_=>true|_::_,[]=>false|x::xs,y::ys=>if x=y then lexLt xs ys else decide (x<y)
theorem zck(x y:Int)(xs ys:List Int):lexLt (x::xs) (y::ys)=if x=y then lexLt xs ys else decide (x<y):=rfl
theorem zbf:lexLt [] []=false:=rfl
theorem za4(y:Int)(ys:List Int):lexLt [] (y::ys)=true:=rfl
theorem za5(x:Int)(xs:List Int):lexLt (x::xs) []=false:=rfl
theorem zd8(A:Around)(s:Shared)(a:Int)(t:Tok)(c:Int)(u:Tok):∃e,SeqAt.EqAt A s (.int a t) (.int c u) e/\(e=true↔a=c):=⟨(a==c),SeqAt.EqAt.int_int a t c u,by simp⟩
theorem zjp(A:Around)(s:Shared)(a:Int)(t:Tok)(c:Int)(u:Tok)(prog:Program)(w:World)(E:Value->Shared->Prop)(Q:Value->Shared->Prop)(h:Q (.bool (decide (a<c))) s) :
  wpAny (model prog w) A (richCompare .Lt (.int a t) (.int c u)) Q E s:=
 (PyProof.Rows.lt_int h:wpAny (model prog w) A (compareOp .Lt (.int a t) (.int c u)) Q E s)
section
open PySem.SeqAt
open PySem.AutoSeq1 (wpAny_loadPart')
open PySem.MeetsSeq PySem.MeetsSeq2 PySem.MeetsSeq3
theorem zdB(l b:Addr)(items items2:Array Value)(n n2:Nat)(dd dd2:Option Addr)(sl sl2:Array (Option Value))(ns ms:List Int)(hi:IntsAre items.toList ns)(hj:IntsAre items2.toList ms) :
  Meets (Builtin.«tuple.__lt__» ⟨[.ref l,.ref b],[]⟩)
   (fun _ R s=>s.heap.get? l=some {cls:=.type "tuple",dict:=dd,data:=.seq items n,slots:=sl}/\s.heap.get? b=some {cls:=.type "tuple",dict:=dd2,data:=.seq items2 n2,slots:=sl2}/\
    R (.ok (.ret (.bool (lexLt ns ms)))) s):=
 .of_wp fun prog w A R s h=>by
  obtain⟨hp,g,d,tk,os⟩:=s;obtain⟨hl,hb,h⟩:=h;have f2:=AutoSeq1.sub_tuple_tuple;have z1:items.size=ns.length:=by rw[<-hi.length];simp
  have z2:items2.size=ms.length:=by rw[<-hj.length];simp
  wp_walk using wpAny_loadPart' hl,wpAny_loadPart' hb,wpAny_forIn_list _ (fun rest b s'=>b.1=none/\s'=⟨hp,g,d,tk,os⟩/\∃(vs ws:List Value) (ns' ms':List Int),rest=vs.zip ws/\
   IntsAre vs ns'/\IntsAre ws ms'/\ns'.length+items2.size=ms'.length+items.size/\R (.ok (.ret (.bool (lexLt ns' ms')))) ⟨hp,g,d,tk,os⟩) _
  case turn=>
   rintro⟨y,x⟩ rest b s' ⟨hb',rfl,vs,ws,ns',ms',hz,hvi,hwi,hlen,hR⟩;cases hvi with
   |nil=>rw[List.zip_nil_left]at hz;cases hz
   |cons a t hvi'=>
    cases hwi with
    |nil=>rw[List.zip_nil_right]at hz;cases hz
    |cons c u hwi'=>
     rw[List.zip_cons_cons]at hz;injection hz with hyx hrest;injection hyx with hy hx;subst hy hx;rw[zck]at hR;simp only[length_cons]at hlen;obtain⟨e,he,hiff⟩:=zd8 A.in1 ⟨hp,g,d,tk,os⟩ a t c u;refine wpAny_bind (he prog w _ _ ?_);cases e with
     |true=>
      rw[if_pos (hiff.mp rfl)]at hR
      wp_walk
      exact⟨rfl,rfl,_,_,_,_,hrest,hvi',hwi',by omega,hR⟩
     |false=>
      rw[if_neg (fun q=>absurd (hiff.mpr q) Bool.false_ne_true)]at hR;have hri:=zjp A.in1 ⟨hp,g,d,tk,os⟩ a t c u prog w
      wp_walk using hri
      exact⟨_,rfl,by simpa using hR⟩
  case fin=>
   rintro⟨b1,b2⟩ s' ⟨hb',rfl,vs,ws,ns',ms',hz,hvi,hwi,hlen,hR⟩;simp only at hb';subst hb';have hv:lexLt ns' ms'=decide (items.size<items2.size):=by
    cases hvi with
    |nil=>cases hwi with| nil=>simp only[length_nil]at hlen;rw[zbf];exact(decide_eq_false (by omega)).symm| cons c u hw=>simp only[length_nil,length_cons]at hlen;rw[za4];exact(decide_eq_true (by omega)).symm
    |cons a t hv=>cases hwi with| nil=>simp only[length_nil,length_cons]at hlen;rw[za5];exact(decide_eq_false (by omega)).symm| cons c u hw=>rw[List.zip_cons_cons]at hz;cases hz
   rw[hv]at hR
   wp_walk
   exact⟨_,rfl,by simpa[Builtin.Tuple.tupleCompareSizes]using hR⟩
  case h=>exact⟨rfl,rfl,items.toList,items2.toList,ns,ms,rfl,hi,hj,by omega,h⟩
end
section
variable{prog:Program}{w:World}{A:Around}{E:Value->Shared->Prop}{s:Shared}
theorem lt_tupInts{l b:Addr}{items items2:Array Value}{ns ms:List Int}{Q:Value->Shared->Prop}(hl:IsTup s.heap l items)(hb:IsTup s.heap b items2)(hi:IntsAre items.toList ns)(hj:IntsAre items2.toList ms)
  (hu:A.units<cLine) (h:Q (.bool (lexLt ns ms)) s):wpAny (model prog w) A (compareOp .Lt (.ref l) (.ref b)) Q E s:=by
 obtain⟨⟨cls,dd,data,sl⟩,ho,hc,n,hd⟩:=id hl;obtain⟨⟨cls2,dd2,data2,sl2⟩,ho2,hc2,n2,hd2⟩:=id hb;simp only at hc hd hc2 hd2;subst hc hd hc2 hd2;exact richCompare_meets_room (op:=.Lt) ⟨_,ho,rfl⟩ ⟨_,ho2,rfl⟩ PySem.F.slot_tuple_lt PySem.F.entry_tuple_lt (PySem.F.args_tuple_lt_2 _ _) (zdB l b items items2 n n2 dd dd2 sl sl2 ns ms hi hj)
  ⟨ho,ho2,show Value.bool (lexLt ns ms)≠Value.notImplemented/\Q (.bool (lexLt ns ms)) s from⟨(fun x=>nomatch x),h⟩⟩ hu
theorem cat_tup{t b:Addr}{vs ws:List Value}{Q:Value->Shared->Prop}(ht:IsTup s.heap t vs.toArray)(hb:IsTup s.heap b ws.toArray)(hv:vs≠[])
  (h1:ws=[]->Q (.ref t) s) (h2:ws≠[]->Q (.ref s.heap.objs.size) {s with heap:=s.heap.push {cls:=.type "tuple",data:=.seq (vs++ws).toArray}})
  (hsz:vs.length+ws.length<=sizeLine):wpAny (model prog w) A (binaryOp .Add (.ref t) (.ref b)) Q E s:=by
 obtain⟨⟨cls,dd,data,sl⟩,ho,hc,n,hd⟩:=id ht;obtain⟨⟨cls2,dd2,data2,sl2⟩,ho2,hc2,n2,hd2⟩:=id hb;simp only at hc hd hc2 hd2;subst hc hd hc2 hd2;have e:vs.toArray++ws.toArray=(vs++ws).toArray:=by simp
 by_cases hw:ws=[]
 exact concat_meets ⟨_,ho,rfl⟩ ⟨_,ho2,rfl⟩ noFill_tuple_add seq_tuple_add PySem.F.slot_tuple_add PySem.F.entry_tuple_add (PySem.F.args_tuple_add_2 _ _)
  (tuple_addW1 t b vs.toArray ws.toArray n n2 dd dd2 sl sl2 (by simpa using hv) (by simp[hw])) ⟨ho,ho2,h1 hw⟩
 refine concat_meets ⟨_,ho,rfl⟩ ⟨_,ho2,rfl⟩ noFill_tuple_add seq_tuple_add PySem.F.slot_tuple_add PySem.F.entry_tuple_add (PySem.F.args_tuple_add_2 _ _)
  (tuple_addW2 t b vs.toArray ws.toArray n n2 dd dd2 sl sl2 (by simpa using hv) (by simpa using hw) (by rw[size_toArray,size_toArray];exact hsz)) ⟨ho,ho2,?_⟩
 rw[e];exact h2 hw
noncomputable def sIx(n d:Nat):Option Int->Nat
 |none=>d|some v=>if v<0 then(v+(n:Int)).toNat else min v.toNat n
theorem znu(n d:Nat)(hd:d<=n)(o:Option Int):sIx n d o<=n:=by cases o with|none=>exact hd| some v=>show(if v<0 then(v+(n:Int)).toNat else min v.toNat n)<=n;by_cases hv:v<0;rw[if_pos hv];omega;rw[if_neg hv];exact Nat.min_le_right _ _
theorem ziM(v:Int)(n d:Nat):(if v<0 then max (v+(n:Int)) 0 else min v (n:Int))=((sIx n d (some v):Nat):Int):=by show(if v<0 then max (v+(n:Int)) 0 else min v (n:Int))=(((if v<0 then(v+(n:Int)).toNat else min v.toNat n):Nat):Int);by_cases hv:v<0;simp only[if_pos hv];omega;simp only[if_neg hv];omega
theorem zg8(lo hi:Option Int)(n:Nat):Builtin.Slice.sliceAdjust lo hi 1 (n:Int)=(((sIx n 0 lo:Nat):Int),((sIx n n hi:Nat):Int)):=by
 have h1:¬((1:Int)<0):=by omega
 unfold Builtin.Slice.sliceAdjust;simp only[h1,if_false];refine Prod.ext ?_ ?_;cases lo with|none=>rfl|some v=>exact ziM v n 0
 cases hi with|none=>rfl|some v=>exact ziM v n n
theorem zgI(i j:Nat):Builtin.Slice.slicePlaces (i:Int) (j:Int) 1=j-i:=by
 unfold Builtin.Slice.slicePlaces;have h1:(1:Int)>0:=by omega
 simp only[h1,if_true,Int.ediv_one];split<;>omega
theorem zde{v:Value}{o:Option Int}{Q:Option Int->Shared->Prop}(p:IsPart v o)(h:Q o s):wpAny (model prog w) A (Builtin.Slice.slicePartIndex v) Q E s:=by cases p with|none=>exact slicePart_none h|int i t=>exact slicePart_int h
theorem sliceApplied_gen{sl:Addr}{vl vu:Value}{lo hi:Option Int}{n:Nat}{Q:Int×Int×Nat->Shared->Prop}(hs:s.heap.IsSliceOf sl vl vu .none)(pl:IsPart vl lo)(pu:IsPart vu hi)
  (h:Q (((sIx n 0 lo:Nat):Int),1,sIx n n hi-sIx n 0 lo) s):wpAny (model prog w) A (Builtin.Slice.sliceApplied (.ref sl) (pure (n:Int))) Q E s:=by
 obtain⟨os,hos,hcs,hds⟩:=id hs;unfold Builtin.Slice.sliceApplied Builtin.Slice.sliceFields;refine wpAny_bind (wpAny_bind (wpAny_field hos hds (x:=vl) rfl (wpAny_bind (wpAny_field hos hds (x:=vu) rfl (wpAny_bind (wpAny_field hos hds (x:=.none) rfl (wpAny_pure ?_)))))));refine wpAny_bind (slicePart_none ?_);show wpAny _ _ (if((1:Int)==0)=true then _ else _) _ _ s;rw[if_neg (by decide)];refine wpAny_bind (zde pl (wpAny_bind (zde pu (wpAny_bind (wpAny_pure ?_)))));show wpAny _ _ (match Builtin.Slice.sliceAdjust lo hi 1 (n:Int) with|(lo,hi)=>pure (lo,(1:Int),Builtin.Slice.slicePlaces lo hi 1)) _ _ s;rw[zg8 lo hi n];show wpAny _ _ (pure (((sIx n 0 lo:Nat):Int),(1:Int),Builtin.Slice.slicePlaces ((sIx n 0 lo:Nat):Int) ((sIx n n hi:Nat):Int) 1)) _ _ s;rw[zgI];exact wpAny_pure h
theorem zjx(xs:Array Value)(i k:Nat):((List.range k).filterMap fun(m:Nat)=>xs[((i:Int)+(m:Int)*1).toNat]?).toArray=((xs.toList.drop i).take k).toArray:=by
 have e:(fun(m:Nat)=>xs[((i:Int)+(m:Int)*1).toNat]?)=fun m=>xs[i+m]?:=by
  funext m;have:((i:Int)+(m:Int)*1).toNat=i+m:=by omega
  rw[this]
 rw[e];have:=pick_run xs i k;rw[List.filterMap_map]at this;have e2:((fun x=>xs[x]?)∘fun x=>i+x)=fun m=>xs[i+m]?:=rfl;rw[e2]at this;rw[this]
theorem getItem_tuple_cut{t sl:Addr}{items:Array Value}{vl vu:Value}{lo hi:Option Int}{Q:Value->Shared->Prop}(ht:IsTup s.heap t items)(hs:s.heap.IsSliceOf sl vl vu .none)(pl:IsPart vl lo)(pu:IsPart vu hi)
  (hw:¬(sIx items.size 0 lo=0/\sIx items.size items.size hi=items.size))
  (h:Q (.ref s.heap.objs.size) {s with heap:=s.heap.push {cls:=.type "tuple",data:=.seq ((items.toList.drop (sIx items.size 0 lo)).take (sIx items.size items.size hi-sIx items.size 0 lo)).toArray}})
  (hsz:items.size<=sizeLine):wpAny (model prog w) A (getItem (.ref t) (.ref sl)) Q E s:=by
 have htake:sizeOk (.seq ((items.toList.drop (sIx items.size 0 lo)).take (sIx items.size items.size hi-sIx items.size 0 lo)).toArray):=by show((items.toList.drop (sIx items.size 0 lo)).take (sIx items.size items.size hi-sIx items.size 0 lo)).toArray.size<=sizeLine;rw[size_toArray,length_take,List.length_drop,length_toList];omega
 have hj:sIx items.size items.size hi<=items.size:=znu _ _ (le_refl _) hi;obtain⟨os,hos,hcs,hds⟩:=id hs;have hTs:s.TypeIs (.ref sl) "slice":=⟨os,hos,hcs⟩;unfold getItem
 try with_reducible refine wpAny_holding ?_
 first|refine wpAny_bind (wpAny_pure ?_)|skip
 refine wpAny_bind (wpAny_sequenceKey ht.typeIs (by decide) ?_);refine wpAny_bind (wpAny_callSpecial?_slot (name:=Str.ofString "__getitem__") ht.typeIs PyProof.Rows.slot_tuple_getitem
  (wpAny_call_entry PyProof.Rows.slot_tuple_getitem ht.typeIs entry_tuple_getitem ?_ (args_tuple_getitem _ _)))
 show wpAny _ _ (Builtin.Tuple.tupleItemsOf (.ref t)>>=_) _ _ s;refine wpAny_bind (tupleItemsOf_ ht ?_);refine wpAny_bind (wpAny_typeOf hTs ?_);rw[if_pos (by decide)];refine wpAny_bind (sliceApplied_gen hs pl pu ?_);have hno:¬((((sIx items.size 0 lo:Nat):Int)==0&&(1:Int)==1&&(sIx items.size items.size hi-sIx items.size 0 lo)==items.size)=true):=by intro q;rw[and_eq_true,and_eq_true]at q;have q1:((sIx items.size 0 lo:Nat):Int)=0:=eq_of_beq q.1.1;have q2:sIx items.size items.size hi-sIx items.size 0 lo=items.size:=eq_of_beq q.2;exact hw ⟨by omega,by omega⟩
 show wpAny _ _ (if(((sIx items.size 0 lo:Nat):Int)==0&&(1:Int)==1&&(sIx items.size items.size hi-sIx items.size 0 lo)==items.size)=true then _ else _) _ _ s;rw[if_neg hno,zjx]
 first
  |exact wpAny_bind (m:=Builtin.Tuple.tupleExact _) (wpAny_newObj_type (wpAny_pure ⟨_,rfl,wpAny_pure h⟩) htake)
  |exact wpAny_bind (m:=Builtin.Tuple.tupleExact _) (wpAny_newObj_type (wpAny_bind (wpAny_pure (wpAny_pure ⟨_,rfl,wpAny_pure h⟩))) htake)
  |exact wpAny_bind (wpAny_bind (m:=Builtin.Tuple.tupleExact _) (wpAny_newObj_type (wpAny_pure (wpAny_pure ⟨_,rfl,wpAny_pure h⟩)) htake))
  |exact wpAny_bind (wpAny_bind (m:=Builtin.Tuple.tupleExact _) (wpAny_newObj_type (wpAny_pure ⟨_,rfl,wpAny_pure h⟩) htake))
end
end HT
namespace L2
open PySem PySem.Spec PyProof.Rows
abbrev TO:=St->Hp->(Option Int->Hp->Prop)->Prop
def PO(X:Cx)(e:Option Expr)(t:TO):Prop:=
 ∀(pins:List (Addr×Obj))(s:Shared)(σ:St)(H:Hp)(Q:Option Int->Hp->Prop),Inv X pins σ H s->t σ H Q->
  wpAny (model X.prog X.w) X.A (evalPart e X.env) (fun u s'=>∃o H',Inv X pins σ H' s'/\IsPart u o/\Q o H') X.xe s
def zk2:TO:=fun _ H Q=>Q none H
def zpa(t:TE):TO:=fun σ H Q=>t σ H fun x H1=>∃i,x=.int i/\Q (some i) H1
section
variable{X:Cx}{e:Expr}{te:TE}{lo hi:Option Expr}{tl th:TO}{pos p2:Pos}
theorem zlP:PO X none zk2:=by intro pins s σ H Q I h;rw[evalPart_none];exact wpAny_pure ⟨none,H,I,.none,h⟩
theorem zfn(h:PE X e te):PO X (some e) (zpa te):=by intro pins s σ H Q I hw;rw[evalPart_some];refine thn (h pins s σ H _ I hw) fun u s1 ⟨x,H1,I1,r1,q1⟩=>?_;obtain⟨i,rfl,q⟩:=q1;obtain⟨t,rfl⟩:=r1;exact⟨some i,H1,I1,.int i t,q⟩
def SlR(X:Cx)(r:V->Option Int->Option Int->Hp->VK->Prop):Prop:=
 ∀(pins:List (Addr×Obj))(s:Shared)(σ:St)(H:Hp)(x:V)(v vl vu:Value)(lo hi:Option Int)(sl:Addr)(Q:VK),Inv X pins σ H s->RelV x v->s.heap.IsSliceOf sl vl vu .none->IsPart vl lo->IsPart vu hi->r x lo hi H Q->
  ∃T id,typeLookup (.type T) "__getitem__"=pure (some (.builtin id))/\s.TypeIs v T/\wpAny (model X.prog X.w) X.A (getItem v (.ref sl)) (EP X pins σ Q) X.xe s
theorem SlR.or{r r':V->Option Int->Option Int->Hp->VK->Prop}(h:SlR X r)(h':SlR X r'):SlR X (fun x lo hi H Q=>r x lo hi H Q\/r' x lo hi H Q):=by intro pins s σ H x v vl vu lo hi sl Q I rx hs pl pu q;rcases q with q|q;exact h pins s σ H x v vl vu lo hi sl Q I rx hs pl pu q;exact h' pins s σ H x v vl vu lo hi sl Q I rx hs pl pu q
def tSl(r:V->Option Int->Option Int->Hp->VK->Prop)(te:TE)(tl th:TO):TE:=fun σ H Q=>te σ H fun x H1=>tl σ H1 fun l H2=>th σ H2 fun u H3=>r x l u H3 Q
theorem zfV{r:V->Option Int->Option Int->Hp->VK->Prop}(hr:SlR X r)(he:PE X e te)(hl:PO X lo tl)(hu:PO X hi th):PE X (.Subscript e (.Slice lo hi none p2) pos) (tSl r te tl th):=by intro pins s σ H Q I h;refine Subscript_ (thn (he pins s σ H _ I h) fun v s1 ⟨x,H1,I1,r1,q1⟩=>?_);refine wpAny_Slice (thn (hl pins s1 σ H1 _ I1 q1) fun vl s2 ⟨l,H2,I2,pl,q2⟩=>thn (hu pins s2 σ H2 _ I2 q2) fun vu s3 ⟨u,H3,I3,pu,q3⟩=>?_);rw[evalPart_none];refine wpAny_pure ?_;have I4:Inv X pins σ H3 {s3 with heap:=s3.heap.push {cls:=.type "slice",data:=.fields #[vl,vu,.none]}}:=I3.kept (t':=s3.toks) fun b ob q=>Heap.get?_push_of_some _ q;obtain⟨T,id,hT,ht,hg⟩:=hr pins {s3 with heap:=s3.heap.push {cls:=.type "slice",data:=.fields #[vl,vu,.none]}} σ H3 x v vl vu l u s3.heap.objs.size Q I4 r1 (Heap.IsSliceOf.new ..) pl pu q3;show wpAny (model X.prog X.w) X.A (subscriptTail e (.Slice lo hi none p2) v (.ref s3.heap.objs.size)) (EP X pins σ Q) X.xe {s3 with heap:=s3.heap.push {cls:=.type "slice",data:=.fields #[vl,vu,.none]}};exact tail_any (ops:=[.ref s3.heap.objs.size,v]) ht hT hg (by with_unfolding_all rfl)
noncomputable def cutV(xs:List V)(lo hi:Option Int):List V:=(xs.drop (HT.sIx xs.length 0 lo)).take (HT.sIx xs.length xs.length hi-HT.sIx xs.length 0 lo)
theorem zcS(xs:List V)(lo hi:Option Int):(cutV xs lo hi).length<=xs.length:=by unfold cutV;rw[length_take,List.length_drop];omega
def rSlT(K:Frag):V->Option Int->Option Int->Hp->VK->Prop:=fun x lo hi H Q=>∃a xs,x=.ref a/\SqT K H a xs/\
 ¬(HT.sIx xs.length 0 lo=0/\HT.sIx xs.length xs.length hi=xs.length)/\∀p,H p=none->Q (.ref p) (upd H p (.tup (cutV xs lo hi)))
theorem zkm:SlR X (rSlT X.K):=by
 intro pins s σ H x v vl vu lo hi sl Q I rx hs pl pu h;obtain⟨a,xs,rfl,hx,hw,q⟩:=h;cases rx;obtain⟨its,r,ht,hz⟩:=I.tuple hx;have hlen:its.toArray.size=xs.length:=by rw[size_toArray];exact r.length.symm
 refine⟨"tuple",_,PyProof.Rows.slot_tuple_getitem.lookup,ht.typeIs,?_⟩;refine HT.getItem_tuple_cut ht hs pl pu (by rw[hlen];exact hw) ?_ (by rw[hlen];exact hz);rw[hlen];refine⟨.ref s.heap.objs.size,_,I.laid (t':=s.toks) (o:=.tup (cutV xs lo hi)) (fun b ob q=>Heap.get?_push_of_some _ q) (le_refl _) ?_,rfl,q _ (I.hok.fresh (le_refl _))⟩;exact⟨le_trans (zcS xs lo hi) hz,_,(r.drop (HT.sIx xs.length 0 lo)).take (HT.sIx xs.length xs.length hi-HT.sIx xs.length 0 lo),IsTup.new _ _⟩
def zpu(K:Frag):R2:=fun x y H Q=>∃a b xs ys,x=.ref a/\y=.ref b/\SqT K H a xs/\SqT K H b ys/\xs≠[]/\xs.length+ys.length<=sizeLine/\
 (ys=[]->Q (.ref a) H)/\(ys≠[]->∀p,H p=none->Q (.ref p) (upd H p (.tup (xs++ys))))
theorem Vals.nil_iff{xs:List V}{us:List Value}(r:Vals xs us):us=[]↔xs=[]:=by cases r with|nil=>simp|cons _ _=>simp
theorem zl2:OpR X (binaryOp .Add) (zpu X.K):=by intro pins s σ H x y v u Q I rx ry h;obtain⟨a,b,xs,ys,rfl,rfl,ha,hb,hx,hz,q1,q2⟩:=h;cases rx;cases ry;obtain⟨its,r1,p1,_⟩:=I.tuple ha;obtain⟨its2,r2,p2,_⟩:=I.tuple hb;refine HT.cat_tup p1 p2 (fun z=>hx (r1.nil_iff.mp z)) (fun z=>⟨.ref a,H,I,rfl,q1 (r2.nil_iff.mp z)⟩) (fun z=>?_) (by rw[<-r1.length,<-r2.length];exact hz);refine⟨.ref s.heap.objs.size,_,I.laid (t':=s.toks) (o:=.tup (xs++ys)) (fun b ob q=>Heap.get?_push_of_some _ q) (le_refl _) ?_,rfl,q2 (fun w=>z (r2.nil_iff.mpr w)) _ (I.hok.fresh (le_refl _))⟩;exact⟨by rw[length_append];exact hz,_,r1.append r2,IsTup.new _ _⟩
end
noncomputable def ixN(n:Nat)(i:Int):Option Nat:=if 0<=i then(if i<n then some i.toNat else none) else if -(n:Int)<=i then some (i+n).toNat else none
noncomputable def atI{α:Type}(xs:List α)(i:Int):Option α:=(ixN xs.length i).bind fun j=>xs[j]?
theorem zh5{n:Nat}{i:Int}{j:Nat}(h:ixN n i=some j):seqIndex? i n=some j/\j<n/\-(n:Int)<=i/\i<n:=by unfold ixN at h;by_cases h0:0<=i;rw[if_pos h0]at h;by_cases h1:i<n;rw[if_pos h1]at h;have e:i.toNat=j:=Option.some.inj h;exact⟨by rw[seqIndex_of h0 h1,e],by omega,by omega,h1⟩;rw[if_neg h1]at h;cases h;rw[if_neg h0]at h;by_cases h1:-(n:Int)<=i;rw[if_pos h1]at h;have e:(i+n).toNat=j:=Option.some.inj h;exact⟨by rw[seqIndex_neg (by omega) h1,e],by omega,h1,by omega⟩;rw[if_neg h1]at h;cases h
theorem zfC{α:Type}{xs:List α}{i:Int}{v:α}(h:atI xs i=some v):∃j,seqIndex? i xs.length=some j/\xs[j]?=some v/\j<xs.length/\-(xs.length:Int)<=i/\i<xs.length:=by
 unfold atI at h;cases e:ixN xs.length i with
 |none=>rw[e]at h;cases h
 |some j=>rw[e]at h;obtain⟨h1,h2,h3,h4⟩:=zh5 e;exact⟨j,h1,h,h2,h3,h4⟩
def zei(b:Expr):Prop:=∀o i,subscripted b false o i=operate [o,i] (getItem o i)
def IxR(X:Cx)(r:R2):Prop:=
 ∀(value slice:Expr)(pins:List (Addr×Obj))(s:Shared)(σ:St)(H:Hp)(x y:V)(v u:Value)(Q:VK),Inv X pins σ H s->RelV x v->RelV y u->r x y H Q->
  subscripted slice false v u=operate [v,u] (getItem v u)->wpAny (model X.prog X.w) X.A (subscriptTail value slice v u) (EP X pins σ Q) X.xe s
def MtR(X:Cx)(id:String)(r:V->List V->Hp->VK->Prop):Prop:=
 ∀(pins:List (Addr×Obj))(s:Shared)(σ:St)(H:Hp)(x:V)(xs:List V)(v:Value)(us:List Value)(Q:VK),Inv X pins σ H s->RelV x v->Vals xs us->r x xs H Q->
  wpAny (model X.prog X.w) X.A (call (.builtin id) (v::us)) (EP X pins σ Q) X.xe s
section
variable{X:Cx}{a b:Expr}{ta tb:TE}{pos:Pos}
theorem IxR.or{r r':R2}(h:IxR X r)(h':IxR X r'):IxR X (fun x y H Q=>r x y H Q\/r' x y H Q):=by intro value slice pins s σ H x y v u Q I rx ry q hs;rcases q with q|q;exact h value slice pins s σ H x y v u Q I rx ry q hs;exact h' value slice pins s σ H x y v u Q I rx ry q hs
theorem zpB{r:R2}(hr:IxR X r)(ha:PE X a ta)(hb:PE X b tb)(hs:zei b):PE X (.Subscript a b pos) (tOp r ta tb):=by intro pins s σ H Q I h;exact Subscript_ (binT ha hb I h fun v u s2 x y H2 I2 rx ry q=>hr a b pins s2 σ H2 x y v u Q I2 rx ry q (hs _ _))
def rIxL(K:Frag):R2:=fun x y H Q=>∃p xs i v,x=.ref p/\y=.int i/\SqL K H p xs/\atI xs i=some v/\Q v H
def rIxT(K:Frag):R2:=fun x y H Q=>∃p xs i v,x=.ref p/\y=.int i/\SqT K H p xs/\atI xs i=some v/\Q v H
def rIxS:R2:=fun x y H Q=>∃z i c,x=.str z/\y=.int i/\z.length<=sizeLine/\atI z.cps.toList i=some c/\Q (.str ⟨#[c]⟩) H
theorem ix_list:IxR X (rIxL X.K):=by
 intro value slice pins s σ H x y v u Q I rx ry h hs;obtain⟨p,xs,i,z,rfl,rfl,hq,he,q⟩:=h;cases rx;obtain⟨t,rfl⟩:=ry;obtain⟨its,r,pl,hz⟩:=I.list hq;obtain⟨j,h1,h2,h3,h4,h5⟩:=zfC he;obtain⟨w,ew,rw'⟩:=r.get h2;have hl:=r.length;have hn:=zdi;have fin:EP X pins σ Q w s:=⟨z,H,I,rw',q⟩;by_cases h0:0<=i;have hj:i.toNat=j:=by rw[seqIndex_of h0 h5]at h1;exact Option.some.inj h1
 exact item_listR pl.isList h0 (by omega) (by rw[hj];simpa using ew) fin hs;have hj:(i+(its.toArray.size:Int)).toNat=j:=by rw[seqIndex_neg (by omega) h4]at h1;rw[size_toArray,<-hl];exact Option.some.inj h1
 exact subscriptTail_builtinR (x:=w) pl.isList.typeIs slot_list_getitem.lookup
  (wpAny_getItem_list_neg (Q:=fun r s'=>r=w/\EP X pins σ Q r s') pl.isList (by omega) (by rw[size_toArray]<;>omega) (by omega) (by rw[hj];simpa using ew) ⟨rfl,fin⟩) hs
theorem ix_tup:IxR X (rIxT X.K):=by
 intro value slice pins s σ H x y v u Q I rx ry h hs;obtain⟨p,xs,i,z,rfl,rfl,hq,he,q⟩:=h;cases rx;obtain⟨t,rfl⟩:=ry;obtain⟨its,r,pl,hz⟩:=I.tuple hq;obtain⟨j,h1,h2,h3,h4,h5⟩:=zfC he;obtain⟨w,ew,rw'⟩:=r.get h2;have hl:=r.length;have hn:=zdi;have fin:EP X pins σ Q w s:=⟨z,H,I,rw',q⟩;exact subscriptTail_builtinR (x:=w) pl.typeIs slot_tuple_getitem.lookup
  (getItem_tuple (j:=j) (Q:=fun r s'=>r=w/\EP X pins σ Q r s') pl (by omega) (by omega) (by rw[size_toArray,<-hl];exact h1) (by simpa using ew) ⟨rfl,fin⟩) hs
theorem zoo:IxR X rIxS:=by
 intro value slice pins s σ H x y v u Q I rx ry h hs;obtain⟨z,i,c,rfl,rfl,hz,he,q⟩:=h;obtain⟨t,rfl⟩:=rx;obtain⟨t',rfl⟩:=ry;obtain⟨j,h1,h2,h3,h4,h5⟩:=zfC he;have hl:z.cps.toList.length=z.length:=by simp[Str.length]
 rw[hl]at h1 h4 h5;have hn:=zdi;exact tail_any (typeIs_str s z t) slot_str_getitem.lookup (getItem_str (c:=c) (by
  have e1:decide (i < -(2^63:Int))=false:=decide_eq_false (by omega);have e2:decide (i≥2^63)=false:=decide_eq_false (by omega);rw[e1,e2,Bool.or_false]) (by rw[h1];simpa using h2) ⟨.str ⟨#[c]⟩,H,I.tok _,⟨_,rfl⟩,q⟩) hs
def rIx(K:Frag):R2:=fun x y H Q=>rIxL K x y H Q\/rIxT K x y H Q\/rIxS x y H Q
theorem zop:IxR X (rIx X.K):=ix_list.or (ix_tup.or zoo)
theorem zgL(its:List Value)(n j:Nat)(u:Value):Obj.mapSeq (·.setIfInBounds j u) {cls:=.type "list",data:=.seq its.toArray n}={cls:=.type "list",data:=.seq (its.set j u).toArray n}:=by simp[Obj.mapSeq]
theorem Inv.lst{pins:List (Addr×Obj)}{σ:St}{H:Hp}{s:Shared}{p:Addr}{xs:List V}(I:Inv X pins σ H s)(h:H p=some (.lst xs)) :
  ∃(its:List Value) (n:Nat),Vals xs its/\s.heap.get? p=some {cls:=.type "list",data:=.seq its.toArray n}/\xs.length<=sizeLine:=by
 obtain⟨z,its,n,r,e⟩:=I.hok p _ h;exact⟨its,n,r,e,z⟩
theorem Inv.lstUpd{pins:List (Addr×Obj)}{σ:St}{H:Hp}{s:Shared}{p:Addr}{xs ys:List V}{its its':List Value}{n n':Nat}{f:Obj->Obj}(I:Inv X pins σ H s)(h:H p=some (.lst xs))
  (ho:s.heap.get? p=some {cls:=.type "list",data:=.seq its.toArray n}) (hf:f {cls:=.type "list",data:=.seq its.toArray n}={cls:=.type "list",data:=.seq its'.toArray n'}) (r:Vals ys its') (hz:ys.length<=sizeLine) (t:Nat) :
  Inv X pins σ (upd H p (.lst ys)) {s with heap:=s.heap.update p f,toks:=t}:=by
 have e:(s.heap.update p f).get? p=some {cls:=.type "list",data:=.seq its'.toArray n'}:=by rw[Heap.get?_update_self f ho (by rw[hf]<;>rfl),hf]
 refine I.write (x:=p) (e:=p) (by rw[h];trivial) (.inl rfl) (fun b u hb q=>(Heap.get?_update_other _ _ (Ne.symm hb)).trans q) ⟨_,e⟩ ?_;exact⟨hz,its',n',r,e⟩
def zpt:V->V->V->Hp->(Hp->Prop)->Prop:=fun o i v H Q=>∃p xs k j,o=.ref p/\i=.int k/\H p=some (.lst xs)/\ixN xs.length k=some j/\Q (upd H p (.lst (xs.set j v)))
theorem zi6:PSet X zpt:=by
 intro pins s σ H o i v ov iv u Q I ro ri rv h;obtain⟨p,xs,k,j,rfl,rfl,hp,hj,q⟩:=h;cases ro;obtain⟨t,rfl⟩:=ri;obtain⟨its,n,r,ho,hz⟩:=I.lst hp;obtain⟨h1,h2,h3,h4⟩:=zh5 hj;have hl:=r.length;have hn:=zdi;have I':Inv X pins σ (upd H p (.lst (xs.set j v))) {s with heap:=s.heap.update p (Obj.mapSeq (·.setIfInBounds j u))}:=I.lstUpd hp ho (zgL its n j u) (r.set rv j) (by rw[List.length_set];exact hz) s.toks;by_cases h0:0<=k;have hk:k.toNat=j:=by rw[seqIndex_of h0 h4]at h1;exact Option.some.inj h1
 exact PySem.W.ki_setAt ho h0 (by omega) (by rw[size_toArray,<-hl];exact h4) (by rw[hk];exact⟨_,I',q⟩);have hk:(k+(its.toArray.size:Int)).toNat=j:=by rw[seqIndex_neg (by omega) h3]at h1;rw[size_toArray,<-hl];exact Option.some.inj h1
 exact PySem.W.ki_setBack ho (by omega) (by rw[size_toArray,<-hl];exact h3) (by omega) (by rw[hk];exact⟨_,I',q⟩)
theorem zen(lo hi:Option Int)(n:Nat):(sliceBounds lo hi none n).1=((HT.sIx n 0 lo:Nat):Int)/\(sliceBounds lo hi none n).2.1=((HT.sIx n n hi:Nat):Int)/\(sliceBounds lo hi none n).2.2=1:=by
 refine⟨?_,?_,rfl⟩;cases lo with
 |none=>simp[sliceBounds,HT.sIx]| some i=>
  simp only[sliceBounds,HT.sIx,Option.getD_none,show(1:Int)>0 by decide,if_true];by_cases h:i<0
  . simp only[h,if_true]<;>omega
  . simp only[h,if_false]<;>omega
 cases hi with
 |none=>simp[sliceBounds,HT.sIx]| some i=>
  simp only[sliceBounds,HT.sIx,Option.getD_none,show(1:Int)>0 by decide,if_true];by_cases h:i<0
  . simp only[h,if_true]<;>omega
  . simp only[h,if_false]<;>omega
theorem zdG(its:List Value)(lo hi:Option Int):slicePick its.toArray lo hi none=((its.drop (HT.sIx its.length 0 lo)).take (HT.sIx its.length its.length hi-HT.sIx its.length 0 lo)).toArray:=by obtain⟨h1,h2,h3⟩:=zen lo hi its.toArray.size;unfold slicePick;rw[h1,h2,h3];simp only[sliceRange_one,pick_run,size_toArray]<;>rfl
def rSlL(K:Frag):V->Option Int->Option Int->Hp->VK->Prop:=fun x lo hi H Q=>∃a xs,x=.ref a/\SqL K H a xs/\∀p,H p=none->Q (.ref p) (upd H p (.lst (cutV xs lo hi)))
theorem zlc:SlR X (rSlL X.K):=by intro pins s σ H x v vl vu lo hi sl Q I rx hs pl pu h;obtain⟨a,xs,rfl,hx,q⟩:=h;cases rx;obtain⟨its,r,ht,hz⟩:=I.list hx;have hlen:=r.length;refine⟨"list",_,slot_list_getitem.lookup,ht.isList.typeIs,?_⟩;refine wpAny_getItem_list_slice ht.isList hs pl pu .none (by simp) ?_ (by rw[size_toArray]<;>omega);rw[zdG,<-hlen];refine⟨.ref s.heap.objs.size,_,I.laid (t':=s.toks) (o:=.lst (cutV xs lo hi)) (fun b ob q=>Heap.get?_push_of_some _ q) (le_refl _) ?_,rfl,q _ (I.hok.fresh (le_refl _))⟩;exact⟨le_trans (zcS xs lo hi) hz,_,0,(r.drop (HT.sIx xs.length 0 lo)).take (HT.sIx xs.length xs.length hi-HT.sIx xs.length 0 lo),Heap.get?_push_size _ rfl⟩
theorem zbw:zbb X (.builtin "len") (fun xs H Q=>∃p ys,xs=[.ref p]/\(SqL X.K H p ys\/SqT X.K H p ys)/\Q (.int ys.length) H):=by intro pins s σ H xs us Q I r h;obtain⟨p,ys,rfl,hq,q⟩:=h;obtain⟨u,rfl,rx⟩:=zi1 r;cases rx;have hn:=zdi;rcases hq with hq|hq;obtain⟨its,r',pl,hz⟩:=I.list hq;have hlen:=r'.length;exact Calls.call_len_list pl.isList (by simp only[size_toArray]<;>omega) ⟨.int ys.length,H,I.tok _,⟨s.toks+1,by rw[size_toArray,hlen]⟩,q⟩;obtain⟨its,r',pl,hz⟩:=I.tuple hq;have hlen:=r'.length;exact len_tuple pl (by simp only[size_toArray]<;>omega) ⟨.int ys.length,H,I.tok _,⟨s.toks+1,by rw[size_toArray,hlen]⟩,q⟩
theorem ze2:zbb X (.type "list") (fun xs H Q=>∃p ys,xs=[.ref p]/\(SqL X.K H p ys\/SqT X.K H p ys)/\∀l,H l=none->Q (.ref l) (upd H l (.lst ys))):=by
 intro pins s σ H xs us Q I r h;obtain⟨p,ys,rfl,hq,q⟩:=h;obtain⟨u,rfl,rx⟩:=zi1 r;cases rx;have fin:∀(its:List Value),Vals ys its->ys.length<=sizeLine->∀(h':Heap)(c':Nat),(∀b o',s.heap.get? b=some o'->h'.get? b=some o')->
   h'.get? s.heap.objs.size=some {cls:=.type "list",dict:=none,data:=.seq its.toArray c',slots:=#[]}->EP X pins σ Q (.ref s.heap.objs.size) {s with heap:=h'}:=fun its r' hz h' c' kp e=>
  ⟨.ref s.heap.objs.size,_,I.laid (t':=s.toks) kp (le_refl _) (show ObjOk X.prog X.w _ h' _ (.lst ys) from⟨hz,its,c',r',e⟩),rfl,q _ (I.hok.fresh (le_refl _))⟩
 rcases hq with hq|hq;obtain⟨its,r',pl,hz⟩:=I.list hq;have hlen:=r'.length;obtain⟨o,ho,hc,n,hd⟩:=pl.isList;exact call_list_seq p (.inl rfl) ho hc hd (fun h' c' kp e=>fin its r' hz h' c' kp e) (by simp only[size_toArray]<;>omega);obtain⟨its,r',pl,hz⟩:=I.tuple hq;have hlen:=r'.length;obtain⟨o,ho,hc,n,hd⟩:=pl;exact call_list_seq p (.inr rfl) ho hc hd (fun h' c' kp e=>fin its r' hz h' c' kp e) (by simp only[size_toArray]<;>omega)
theorem zed:zbb X (.type "tuple") (fun xs H Q=>∃p ys,xs=[.ref p]/\((SqL X.K H p ys/\∀l,H l=none->Q (.ref l) (upd H l (.tup ys)))\/(SqT X.K H p ys/\Q (.ref p) H))):=by intro pins s σ H xs us Q I r h;obtain⟨p,ys,rfl,h⟩:=h;obtain⟨u,rfl,rx⟩:=zi1 r;cases rx;rcases h with⟨hq,q⟩|⟨hq,q⟩;obtain⟨its,r',pl,hz⟩:=I.list hq;have hlen:=r'.length;refine call_tuple_list pl.isList (fun h' kp=>?_) (by simp only[size_toArray]<;>omega);have I1:Inv X pins σ H {s with heap:=h'}:=I.kept (t':=s.toks) kp;have I2:Inv X pins σ (upd H h'.objs.size (.tup ys)) {s with heap:=h'.push {cls:=.type "tuple",data:=.seq its.toArray}}:=I1.laid (t':=s.toks) (fun b o e=>Heap.get?_push_of_some _ e) (le_refl _) (show ObjOk X.prog X.w _ _ _ (.tup ys) from⟨hz,its,r',IsTup.new _ _⟩);exact⟨.ref h'.objs.size,_,I2,rfl,q _ (I1.hok.fresh (le_refl _))⟩;obtain⟨its,r',pl,hz⟩:=I.tuple hq;exact call_tuple_same pl ⟨.ref p,H,I,rfl,q⟩
def tyV(K:Frag)(T:String)(x:V)(H:Hp):Prop:=match x with
 |.str _=>T="str"|.int _=>T="int"
 |.ref p=>(T="list"/\∃xs,SqL K H p xs)\/(T="tuple"/\∃o,K.lookup p=some o/\o.cls=.type "tuple"/\o.dict=none)\/
  (T="dict"/\((∃kvs,H p=some (.dK kvs))\/∃kvs,H p=some (.dT kvs)))\/(T="set"/\∃S n,H p=some (.set S n))
 |_=>False
theorem zmT{pins:List (Addr×Obj)}{σ:St}{H:Hp}{s:Shared}{T:String}{x:V}{v:Value}(I:Inv X pins σ H s)(r:RelV x v)(ty:tyV X.K T x H) :
  s.TypeIs v T/\∀a,v=.ref a->∃ob,s.heap.get? a=some ob/\ob.dict=none:=by
 cases x with
 |str z=>obtain⟨t,rfl⟩:=r;cases(show T="str" from ty);exact⟨typeIs_str s z t,fun _ e=>nomatch e⟩| int i=>obtain⟨t,rfl⟩:=r;cases(show T="int" from ty);exact⟨typeIs_int s i t,fun _ e=>nomatch e⟩| ref p=>
  cases r;rcases ty with⟨rfl,xs,hq⟩|⟨rfl,o,hk,hc,hd⟩|⟨rfl,hk⟩|⟨rfl,S,n,hk⟩;obtain⟨its,_,pl,_⟩:=I.list hq;refine⟨pl.isList.typeIs,fun a e=>?_⟩;cases e;obtain⟨o,n,e,c,hd,_⟩:=pl;exact⟨o,e,hd⟩;refine⟨⟨o,I.kIn p o hk,hc⟩,fun a e=>?_⟩;cases e;exact⟨o,I.kIn _ o hk,hd⟩;have z:∃o,s.heap.get? p=some o/\o.ExactDict:=by rcases hk with⟨kvs,hk⟩|⟨kvs,hk⟩;obtain⟨_,_,_,_,o,_,_,e,ex,_⟩:=I.hok p _ hk;exact⟨o,e,ex⟩;obtain⟨_,_,_,_,o,_,_,e,ex,_⟩:=I.hok p _ hk;exact⟨o,e,ex⟩
  obtain⟨o,e,ex⟩:=z;refine⟨⟨o,e,ex.1⟩,fun a e2=>?_⟩;cases e2;exact⟨o,e,ex.2.1⟩;obtain⟨o,_,_,_,e,ex,_⟩:=I.hok p _ hk;refine⟨⟨o,e,ex.1⟩,fun a e2=>?_⟩;cases e2;exact⟨o,e,ex.2.1⟩
 |_=>exact False.elim ty
def tBM(K:Frag)(T:String)(r:V->List V->Hp->VK->Prop)(to:TE)(t:TA):TE:=fun σ H Q=>to σ H fun x H1=>tyV K T x H1/\t σ H1 fun xs H2=>r x xs H2 Q
variable{o e:Expr}{es:List Expr}{to:TE}{t:TA}{name:Str}{apos cpos:Pos}{T id:String}{r:V->List V->Hp->VK->Prop}
theorem zlY(pa:PlainAttrs T)(slot:Slot T name id)(hty:typeOf (.builtin id)=pure (.type "method_descriptor"))(hm:MtR X id r)(ho:PE X o to)(ha:PA X (e::es) t)
  (hbase:attributeBase o name X.env (eval o X.env)=eval o X.env:=by rfl)
  (hfew:((backTo cpos (starEach (e::es) X.env)).all (fun x=>!x.1)&&(backToKw cpos (keywordEach [] X.env)).all (fun x=>x.1.isSome)
   && decide ((e::es).length+([]:List Keyword).length+(if([]:List Keyword).isEmpty then 0 else 1)<30))=true:=by rfl)
  (hline:(apos.endLine==cpos.line)=true:=by rfl) (hs:starEach (e::es) X.env=(false,eval e X.env)::starEach es X.env:=by rfl) (hplain:(backTo cpos (starEach es X.env)).any (·.1)=false:=by rfl) :
  PE X (.Call (.Attribute o name apos) (e::es) [] cpos) (tBM X.K T r to t):=by
 intro pins s σ H Q I h;refine wpAny_Call_method_late hbase hfew hline rfl (thn (ho pins s σ H _ I h) fun v s1 ⟨x,H1,I1,r1,ty,q1⟩=>?_);obtain⟨h1,h2⟩:=zmT I1 r1 ty;refine⟨T,id,pa,slot,hty,h1,h2,?_⟩;have hA:=ha cpos pins s1 σ H1 _ I1 q1;rw[hs]at hA⊢;refine Calls.callWith_builtin (by show(false||(backTo cpos (starEach es X.env)).any (·.1))=false;rw[hplain]<;>rfl) (Calls.evalArgs_plain ?_);exact thn hA fun us s2 ⟨vs,H2,I2,r2,q2⟩=>hm pins s2 σ H2 x vs v us Q I2 r1 r2 q2
end
def MtM(X:Cx)(id:String)(r:V->List V->Hp->VK->Prop):Prop:=
 ∀(pins:List (Addr×Obj))(s:Shared)(σ:St)(H:Hp)(x:V)(xs:List V)(v:Value)(us:List Value)(Q:VK),Inv X pins σ H s->RelV x v->Vals xs us->r x xs H Q->
  wpAny (model X.prog X.w) X.A (call (.builtin id) (v::us)) (EP X pins σ Q) X.xe s
theorem Vals.one:∀{x:V}{us:List Value},Vals [x] us->∃u,us=[u]/\RelV x u
 |_,_,.cons r .nil=>⟨_,rfl,r⟩
section
variable{X:Cx}{pins:List (Addr×Obj)}{σ:St}{H:Hp}{s:Shared}{l b:Addr}{xs ys zs:List V}
theorem Inv.lset{its its':List Value}{n:Nat}{f:Array Value->Array Value}{t':Nat}(I:Inv X pins σ H s)(hH:H l=some (.lst xs))
  (e:s.heap.get? l=some {cls:=.type "list",data:=.seq its.toArray n}) (hf:f its.toArray=its'.toArray) (hv:Vals ys its') (hz:ys.length<=sizeLine) :
  Inv X pins σ (upd H l (.lst ys)) {s with heap:=s.heap.update l (Obj.mapSeq f),toks:=t'}:=by
 have q:=PySem.IsL.update e f;rw[hf]at q;refine I.write (x:=l) (e:=l) (by rw[hH];exact trivial) (.inl rfl) (fun b' u hb hu=>(Heap.get?_update_other s.heap (Obj.mapSeq f) (Ne.symm hb)).trans hu) ⟨_,q⟩ ?_;exact⟨hz,its',_,hv,q⟩
theorem Inv.lnew{its:List Value}{t':Nat}(I:Inv X pins σ H s)(hv:Vals ys its)(hz:ys.length<=sizeLine) :
  Inv X pins σ (upd H s.heap.objs.size (.lst ys)) {s with heap:=s.heap.push {cls:=.type "list",data:=.seq its.toArray},toks:=t'}:=
 I.laid (fun _ _ q=>Heap.get?_push_of_some _ q) (le_refl _) ⟨hz,its,0,hv,Heap.get?_push_size _ rfl⟩
theorem Inv.fresh(I:Inv X pins σ H s):H s.heap.objs.size=none:=I.hok.fresh (le_refl _)
theorem Inv.lstM(I:Inv X pins σ H s)(hH:H l=some (.lst xs)):xs.length<=sizeLine/\∃(its:List Value) (n:Nat),Vals xs its/\xs.length=its.length/\s.heap.get? l=some {cls:=.type "list",data:=.seq its.toArray n}:=by obtain⟨z,its,n,r,e⟩:=I.hok l _ hH;exact⟨z,its,n,r,r.length,e⟩
theorem zjL{n:Nat}(h:n<=sizeLine):Builtin.List.listTooLong n=false:=by unfold Builtin.List.listTooLong;exact decide_eq_false (by omega)
end
section
variable{X:Cx}
def zlD:V->List V->Hp->VK->Prop:=fun x vs H Q=>∃l xs y,x=.ref l/\vs=[y]/\H l=some (.lst xs)/\xs.length<sizeLine/\Q .non (upd H l (.lst (xs++[y])))
theorem zeG:MtM X "list.append" zlD:=by intro pins s σ H x vs v us Q I rx rv h;obtain⟨l,xs,y,rfl,rfl,hH,hz,q⟩:=h;cases rx;obtain⟨u,rfl,ru⟩:=rv.one;obtain⟨z,its,n,r,hl,e⟩:=I.lstM hH;refine call_meets F.slot_list_append ⟨_,e,rfl⟩ F.entry_list_append (F.args_list_append_2 _ _) (PySem.list_append l its.toArray n u (by rw[size_toArray];omega)) ⟨e,?_⟩;refine⟨.non,_,I.lset (its':=its++[u]) hH e (by simp) (r.append (.cons ru .nil)) ?_,rfl,q⟩;rw[length_append,List.length_singleton];omega
def zlC:V->List V->Hp->VK->Prop:=fun x vs H Q=>∃l b xs zs,x=.ref l/\vs=[.ref b]/\H l=some (.lst xs)/\H b=some (.lst zs)/\xs.length+zs.length<=sizeLine/\Q .non (upd H l (.lst (xs++zs)))
theorem zeF:MtM X "list.extend" zlC:=by
 intro pins s σ H x vs v us Q I rx rv h;obtain⟨l,b,xs,zs,rfl,rfl,hH,hB,hz,q⟩:=h;cases rx;obtain⟨u,rfl,ru⟩:=rv.one;cases ru;obtain⟨z,its,n,r,hl,e⟩:=I.lstM hH;obtain⟨z2,its2,n2,r2,hl2,e2⟩:=I.lstM hB;have hsz:its.toArray.size+its2.toArray.size<=sizeLine:=by rw[size_toArray,size_toArray];omega
 have hlong:¬(!its.toArray.isEmpty&&Builtin.List.listTooLong (its.toArray.size+its2.toArray.size))=true:=by rw[zjL hsz,Bool.and_false];exact Bool.false_ne_true
 refine call_meets F.slot_list_extend ⟨_,e,rfl⟩ F.entry_list_extend (F.args_list_extend_2 _ _)
  (AutoSeq1.list_extend_list_list_0 l its.toArray n b its2.toArray n2 hlong (by rw[size_toArray];omega) (by omega)) ⟨e,e2,?_⟩
 refine⟨.non,_,I.lset (its':=its++its2) hH e (by simp) (r.append r2) ?_,rfl,q⟩;rw[length_append];omega
def rCat:R2:=fun x y H Q=>∃l b xs zs,x=.ref l/\y=.ref b/\H l=some (.lst xs)/\H b=some (.lst zs)/\xs.length+zs.length<=sizeLine/\∀p,H p=none->Q (.ref p) (upd H p (.lst (xs++zs)))
theorem zn6:OpR X (binaryOp .Add) rCat:=by
 intro pins s σ H x y v u Q I rx ry h;obtain⟨l,b,xs,zs,rfl,rfl,hH,hB,hz,q⟩:=h;cases rx;cases ry;obtain⟨z,its,n,r,hl,e⟩:=I.lstM hH;obtain⟨z2,its2,n2,r2,hl2,e2⟩:=I.lstM hB;refine PySem.P.add_list e e2 ?_ (by rw[size_toArray,size_toArray];omega);have ea:its.toArray++its2.toArray=(its++its2).toArray:=by simp
 rw[ea];exact⟨.ref _,_,I.lnew (t':=s.toks) (r.append r2) (by rw[length_append];omega),rfl,q _ I.fresh⟩
end
end L2
namespace Att
open PySem PySem.W PySem.Calls PyProof.Rows
theorem zcN{P:Params}{h:Heap}:∀(ns:List Int)(vs:List Value),WellAll P h vs (ns.map WData.int)->IntsAre vs ns:=by intro ns;induction ns with| nil=>intro vs w;rw[map_nil]at w;cases w;exact .nil| cons n ns ih=>intro vs w;rw[map_cons]at w;cases w with| cons a b=>cases a;exact .cons _ _ (ih _ b)
theorem zhi{l:OpenLaw}{n:Nat}(hn:l.most=some n){P:Params}{h:Heap}{args:List WData}{vals:List Value}
  (hpre:l.row.toRowW.claim.pre args=true) (hwl:WellAll P h vals args) :
  ∃a vs ns,vals=[Value.ref a]/\args=[WData.list (ns.map WData.int)]/\h.get? a=some {cls:=.type "list",data:=.seq vs.toArray}/\IntsAre vs ns/\ns.length<=n:=by
 have hsh:WShape.hasAll [] args [.list .int]=true:=(pre_splitW hpre).1;have hc:l.pre.holds [] {args:=args}=true:=(pre_splitW hpre).2;obtain⟨d,r,rfl,h1,h2⟩:=hasAllW_cons hsh;obtain rfl:=hasAllW_nil h2;obtain⟨xs,rfl,h3⟩:=hasW_list h1;obtain⟨ns,rfl⟩:=items_int h3;have hlen:ns.length<=n:=by
  unfold OpenLaw.pre at hc;have h4:(WTm.not (.lt (.lit (.int (n:Int))) (.len (.arg 0)))).holds [] {args:=[.list (ns.map .int)]}=true:=by have h4:=(holds_andW hc).1;rw[hn]at h4;exact h4
  have h5:=condW_of h4 (w_not (w_lt w_lit (w_len_list (w_arg rfl))));rw[length_map]at h5;refine Nat.le_of_not_lt fun q=>?_;have q':(n:Int)<((ns.length:Nat):Int):=by omega
  first
   |(rw[decide_eq_true q']at h5;exact absurd h5 (by decide))
   |(simp at h5;omega)
 cases hwl with| cons w1 w2=>cases w2;cases w1 with|list ho hall=>exact⟨_,_,ns,rfl,rfl,ho,zcN ns _ hall,hlen⟩
theorem zhA(l:OpenLaw)(args:List WData):l.row.toRowW.claim.post args (.bool true) args=true:=
 postW_of (r:=l.row.toRowW) (X:=(true==true))
  (show WShape.has [] (.bool true) .bool=true by first|rfl|decide|simp[WShape.has,WShape.arms,WShape.armsAll])
  (show(WTm.eq .res (.lit (.bool true))).value [] {args:=args,res:=some (.bool true),after:=args}=some (.bool (true==true)) from w_eq_bool (w_res rfl) w_lit) rfl
theorem attach_call{l:OpenLaw}{n:Nat}{q:Program}{loose:List Str}{XP:(Str->Option Value)->Heap->Prop}{YP:World->Heap->Prop}{d:DefRec}
  (hn:l.most=some n) (hdf:d.params.defaults=[])
  (call:∀(w:World)(s₀ s₁:Shared)(mg mb:Str->Option Value)(fa:Addr)(o:Obj)(pm cd doc:Value)(a:Addr)(vs:List Value)(ns:List Int),
   Ground q loose [] XP w s₀ mg mb s₁.heap->YP w s₁.heap->
   s₁.heap.get? fa=some o->o.data=.func (docDef d.name d.params d.body d.scope pm cd doc)->s₁.heap.CodeRec cd d.name->mg d.name=some (.ref fa)->
   s₁.heap.get? a=some {cls:=.type "list",data:=.seq vs.toArray}->IntsAre vs ns->ns.length<=n->s₁.gens = #[]->
   codeAny (model l.prog w) callerA (.call (.ref fa) ⟨[.ref a],[]⟩) (fun r s'=>r=.ok (.ret (.bool true))/\OldK s₁.heap s'.heap/\s'.os=s₁.os/\AllBare s'.gens) s₁) :
  WalkO q loose XP YP l.row.toRowW d [] (fun f vs=>PySem.call f vs):=by
 intro w s₀ s₁ mg mb G Y fa o pm cd doc dV kV ho hd hcd hD hmg hg args vals as hpre hlay hrd hwl hlo;obtain rfl:dV=.none:=Dflts.none hD hdf;obtain rfl:kV=.none:=Dflts.noKw hD;obtain⟨a,vs,ns,rfl,rfl,hobj,hints,hlen⟩:=zhi hn hpre hwl;refine enter_call (codeAny_mono (call w s₀ s₁ mg mb fa o pm cd doc a vs ns G Y ho (fd_plain hd) hcd hmg hobj hints hlen hg) fun r s' hq=>?_);obtain⟨rfl,h2,h3,h4⟩:=hq;exact⟨.inl ⟨.bool true,.bool true,[],rfl,fun _=>rfl,.bool true,zhA l _,fun _=>⟨Pairwise.nil,fun _ hm=>(nomatch hm)⟩⟩,h2,h3,h4⟩
end Att
namespace L2
open PySem PySem.Spec PyProof.Rows
theorem zek:∀{vs:List Value}{ns:List Int},IntsAre vs ns->Vals (ns.map V.int) vs
 |_,_,.nil=>.nil|_,_,.cons n t h=>.cons ⟨t,rfl⟩ (zek h)
noncomputable def zas(s:Stmt):Arguments:=match s with|.FunctionDef _ a _ _ _ _ _ _ _ _=>a|_=>{posonlyargs:=[],args:=[],vararg:=none,kwonlyargs:=[],kw_defaults:=[],kwarg:=none,defaults:=[]}
noncomputable def zan(s:Stmt):List Stmt:=match s with|.FunctionDef _ _ b _ _ _ _ _ _ _=>b|_=>[]
noncomputable def zab(s:Stmt):Scope:=match s with|.FunctionDef _ _ _ _ _ _ sc _ _ _=>sc|_=>{kind:=.function,names:=[],isGenerator:=false,isCoroutine:=false}
abbrev CX0:CXT:=fun _ _ _ _ _ _=>False
abbrev E0:XK:=fun _ _ _=>False
theorem zfq{X:Cx}:zcY CX0 X E0:=fun _ _ _ _ _ _ _ h=>h.elim
structure Fun(K:Frag)(x qual:Str)(st:Stmt)(f:Addr)(fd:FuncData):Prop where
 ex:∃(oc:Value) (od:Option Addr) (kV doc pm:Value) (an:Option Addr) (cdv ct:Value) (osl:Array (Option Value)),
  fd=fnOf x qual (zas st) (zan st) (zab st) .none kV doc pm an cdv ct/\K.lookup f=some ⟨oc,od,.func fd,osl⟩/\codeIn K cdv qual=true
 kp:keepIn K (.ref f)=true
def Same(H H':Hp):Prop:=∀b o,H b=some o->H' b=some o
noncomputable def zaR(cells:List (Str×Addr))(y:Str×NameKind)(acc:List (Str×Addr)):List (Str×Addr):=if(y.2==NameKind.free)=true then(match cells.lookup y.1 with|some c=>(y.1,c)::acc|none=>acc) else acc
noncomputable def zfy(cells:List (Str×Addr))(names:List (Str×NameKind))(acc:List (Str×Addr)):List (Str×Addr):=names.foldl (fun a y=>zaR cells y a) acc
theorem zcR{α β:Type}(f:α->β->Sem (ForInStep β))(g:α->β->β):∀(l:List α)(b:β),(∀x∈l,∀b,f x b=pure (.yield (g x b)))->forIn l b f=(pure (l.foldl (fun b x=>g x b) b):Sem β)
 | [],b,_=>rfl| x::l,b,h=>by rw[List.forIn_cons,h x mem_cons_self,pure_bind];exact zcR f g l _ fun y hy=>h y (mem_cons_of_mem _ hy)
theorem zbn(h:∀y∈scope.names,y.2=.free->∃c,env.cells.lookup y.1=some c) :
  closureFor scope env=pure (zfy env.cells scope.names []):=by
 unfold closureFor zfy;dsimp only;rw[zcR _ (fun y a=>zaR env.cells y a)];simp;intro y hy a;obtain⟨n,k⟩:=y;by_cases hk:k=.free;obtain⟨c,hc⟩:=h _ hy hk;subst hk;simp[cellOf,hc,zaR];have:(k==NameKind.free)=false:=by simpa using hk
 simp[this,zaR]
theorem ze1:∀(names:List (Str×NameKind))(acc:List (Str×Addr)),(∀x c,acc.lookup x=some c->cells.lookup x=some c)->
  ∀x c,(zfy cells names acc).lookup x=some c->cells.lookup x=some c
 | [],acc,h=>h| y::r,acc,h=>by
  apply ze1 r (zaR cells y acc);intro x c e;unfold zaR at e;split at e;split at e;rename_i c' hc';rw[lookup_cons]at e;cases hx:x==y.1 with| true=>rw[hx]at e;have q:x=y.1:=beq_iff_eq.mp hx;have e':c'=c:=Option.some.inj e;rw[q,<-e'];exact hc'|false=>rw[hx]at e;exact h x c e
  exact h x c e;exact h x c e
theorem zcV:∀(names:List (Str×NameKind))(acc:List (Str×Addr))(x:Str),(∀y∈names,y.2=.free->∃c,cells.lookup y.1=some c)->
  ((∃c,acc.lookup x=some c)\/(x,NameKind.free)∈names)->∃c,(zfy cells names acc).lookup x=some c
 | [],acc,x,_,h=>by rcases h with h|h;exact h;cases h
 |y::r,acc,x,hf,h=>by
  apply zcV r (zaR cells y acc) x (fun z hz=>hf z (mem_cons_of_mem _ hz));rcases h with⟨c,h⟩|h;left;unfold zaR;split;split;rename_i c' hc';rw[lookup_cons];cases hx:x==y.1 with|true=>exact⟨c',rfl⟩|false=>exact⟨c,h⟩
  exact⟨c,h⟩;exact⟨c,h⟩;rcases mem_cons.mp h with h|h;left;subst h;obtain⟨c,hc⟩:=hf _ mem_cons_self rfl;simp[zaR,hc];exact .inr h
noncomputable def zbJ(env:Env)(y:Str×NameKind):Str×NameKind:=if(y.2==.free&&env.scope.kind==.function&&env.kindOf y.1==some .cell)=true then(y.1,.cell) else y
theorem zbZ(scope:Scope)(env:Env):(relabel scope env).names=scope.names.map (zbJ env):=rfl
theorem zcC(env:Env)(y:Str×NameKind):(zbJ env y).1=y.1:=by unfold zbJ;split<;>rfl
theorem zcB(env:Env)(y:Str×NameKind):(zbJ env y).2=y.2\/(y.2=.free/\(zbJ env y).2=.cell):=by unfold zbJ;split;rename_i h;simp at h;exact .inr ⟨h.1.1,rfl⟩;exact .inl rfl
theorem zbq(env:Env)(x:Str):∀names:List (Str×NameKind),∀k,(names.map (zbJ env)).lookup x=some k->∃k0,(x,k0)∈names/\names.lookup x=some k0/\(k=k0\/(k0=.free/\k=.cell))
 | [],k,h=>by simp at h| y::r,k,h=>by rw[map_cons]at h;have f1:=zcC env y;have f2:=zcB env y;obtain⟨n,k1⟩:=y;generalize hz:zbJ env (n,k1)=z at *;obtain⟨zn,zk⟩:=z;subst f1;rw[lookup_cons]at h;rw[lookup_cons];cases hx:x==zn with| true=>rw[hx]at h;have q:x=zn:=beq_iff_eq.mp hx;subst q;have e:zk=k:=Option.some.inj h;subst e;exact⟨k1,mem_cons_self,rfl,f2⟩| false=>rw[hx]at h;obtain⟨k0,m,l,q⟩:=zbq env x r k h;exact⟨k0,mem_cons_of_mem _ m,l,q⟩
theorem zbd(env:Env)(x:Str):∀names:List (Str×NameKind),names.lookup x=some .free->(names.map (zbJ env)).lookup x=some .free\/(names.map (zbJ env)).lookup x=some .cell
 | [],h=>by simp at h| y::r,h=>by
  rw[map_cons];have f1:=zcC env y;have f2:=zcB env y;obtain⟨n,k1⟩:=y;generalize hz:zbJ env (n,k1)=z at *;obtain⟨zn,zk⟩:=z;simp only at f1 f2;subst f1;rw[lookup_cons]at h;rw[lookup_cons];cases hx:x==zn with
  |true=>rw[hx]at h;have e:k1=.free:=Option.some.inj h;subst e;rcases f2 with f2|⟨_,f2⟩;left;show some zk=_;rw[f2];right;show some zk=_;rw[f2]
  |false=>rw[hx]at h;exact zbd env x r h
structure CompOk(sc scope:Scope)(N0:List Str)(js:List Nat):Prop where
 kind:scope.kind=.function
 nocell:∀y∈scope.names,y.2≠.cell
 locs:∀y∈scope.names,y.2=.local->scope.names.lookup y.1=some .local
 frees:∀y∈scope.names,y.2=.free->sc.names.lookup y.1=some .cell\/sc.names.lookup y.1=some .free
 caps:∀j∈js,scope.names.lookup (N0.getD j "")=some .free/\j<N0.length
noncomputable abbrev zav(X:Cx)(N':List Str)(scope:Scope)(cl:List (Str×Addr))(C:Addr)(fp:List Addr)(s:Shared)(H:Hp)(pn:List (Addr×Obj)):Cx:={X with N:=N',s₀:=s,H₀:=H,env:=compEnvC scope cl C X.env,outer:=X.stack,stack:=X.stack,ex:=fp,fn:=fun _=>false,pn:=pn,xe:=fun _ _=>False}
noncomputable def csl(nt:Nat)(js:List Nat)(σ:St):St:=List.replicate nt none++js.map fun j=>(σ[j]?).join
noncomputable abbrev capN(N0:List Str)(tgs:List Str)(js:List Nat):List Str:=tgs++js.map fun j=>N0.getD j ""
def PTs(X:Cx)(ifs:List Expr)(t:TT):Prop:=
 ∀(pins:List (Addr×Obj))(s:Shared)(σ:St)(H:Hp)(Q:Bool->Hp->Prop),Inv X pins σ H s->t σ H Q->
  wpAny (model X.prog X.w) X.A (forIn ifs true fun c r=>if r=true then do let ok <-isTrue c X.env (eval c X.env);pure (ForInStep.yield ok) else pure (ForInStep.yield r)) (TP X pins σ Q) X.xe s
def tYes:TT:=fun _ H Q=>Q true H
theorem zlI:PTs X [] tYes:=fun pins s σ H Q I h=>wpAny_tests_nil ⟨H,I,h⟩
theorem zhy(h:PT X c t):PTs X [c] t:=fun pins s σ H Q I q=>wpAny_tests_one (h pins s σ H Q I q)
def zk4(nt:Nat)(js:List Nat)(wi:TI)(g:TG)(tt:TT)(te:TE):TE:=fun σ H Q=>wi σ H fun J H1=>∀p,H1 p=none->
 ∃W:Nat->Nat->St->Hp->Prop,(∃m,W 0 m (csl nt js σ) (upd H1 p (.lst [])))/\∀i m σ' H',W i m σ' H'->
  (J.stop i H'/\Q (.ref p) H')\/(J.go i H'/\∃N:St->Hp->Prop,(∀σ2 H2,N σ2 H2->∃m',m'<m/\W (i+1) m' σ2 H2)/\
   ∀x H2,J.yld i H' x H2->g x σ' H2 fun σ2 H3=>tt σ2 H3 fun b H4=>if b=true then te σ2 H4 fun v H5=>∃acc,H5 p=some (.lst acc)/\acc.length<sizeLine/\N σ2 (upd H5 p (.lst (acc++[v]))) else N σ2 H4)
section
variable{prog:Program}{w:World}{A:Around}{R:Result->Shared->Prop}{s:Shared}
theorem zg0(J:Nat->Shared->Prop)
  (turn:∀n s,J n s->wpAny (model prog w) A (pyNext it) (fun r s₁=>(r=none/\R (.ok .next) s₁)\/∃v,r=some v/\
   wpAny (model prog w) A (letOwnedTupleGo tg it v) (fun _ s₀=>wpAny (model prog w) A (assign tg env v) (fun _ s₂=>
    wpAny (model prog w) A (forIn ifs true fun c r=>if r=true then do let ok <-isTrue c env (eval c env);pure (ForInStep.yield ok) else pure (ForInStep.yield r)) (fun ok s₃=>
     if ok=true then wpAny (model prog w) A (eval elt env) (fun x s₄=>wpAny (model prog w) A (call (.builtin "list.append") [acc,x]) (fun _ s₅=>∃m,m<n/\J m s₅) (fun _ _=>False) s₄) (fun _ _=>False) s₃
     else ∃m,m<n/\J m s₃) (fun _ _=>False) s₂) (fun _ _=>False) s₀) (fun _ _=>False) s₁) (fun _ _=>False) s)
  (n:Nat) (h:J n s):codeAny (model prog w) A (.compLoop (.ListComp elt [⟨tg,iter,ifs,0⟩] scope pos) 0 it acc env) R s:=by
 refine codeAny_loop rfl J (fun n s hI=>?_) n h;apply wpAny_noted;refine wpAny_bind (wpAny_standAt (wpAny_bind (wpAny_mono (turn n s hI) (fun r s₁ h₁=>?_) fun _ _ f=>f.elim)));rcases h₁ with⟨rfl,h₁⟩|⟨v,rfl,h₁⟩;exact wpAny_pure h₁;refine wpAny_bind (wpAny_mono h₁ (fun _ s₀ h₀=>?_) fun _ _ f=>f.elim);refine wpAny_bind (wpAny_mono h₀ (fun _ s₂ h₂=>?_) fun _ _ f=>f.elim);refine wpAny_bind (wpAny_mono h₂ (fun ok s₃ h₃=>?_) fun _ _ f=>f.elim);cases ok with|false=>exact wpAny_pure ⟨rfl,h₃⟩| true=>refine wpAny_bind (wpAny_bind (wpAny_mono h₃ (fun x s₄ h₄=>?_) fun _ _ f=>f.elim));exact wpAny_bind (wpAny_mono h₄ (fun _ s₅ h₅=>wpAny_pure (wpAny_pure ⟨rfl,h₅⟩)) fun _ _ f=>f.elim)
end
section
variable{X:Cx}{sc scope:Scope}{tgs:List Str}{js:List Nat}{elt tg iter:Expr}{ifs:List Expr}{pos:Pos}{wi:TI}{g:TG}{tt:TT}{te:TE}
theorem zdl(hc:X.calm=true)(hsc:X.env.scope=sc)(ok:CompOk sc scope X.N js)
  (hg:∀cl C fp s H pn,PG (zav X (capN X.N tgs js) scope cl C fp s H pn) tg g)
  (ht:∀cl C fp s H pn,PTs (zav X (capN X.N tgs js) scope cl C fp s H pn) ifs tt)
  (he:∀cl C fp s H pn,PE (zav X (capN X.N tgs js) scope cl C fp s H pn) elt te)
 {σ:St} {RR:Value->Addr->Result->Shared->Prop} {Q:VK}
   (I2:Inv X pins σ H2 s2) (T:Turn X.prog X.w X.K tg J fp it tn) (st2:tn 0 s2.heap) (f2:∀b∈fp,FpOk X pins H2 b)
   (rd:∀p,H2 p=none->∃W:Nat->Nat->St->Hp->Prop,(∃m,W 0 m (csl tgs.length js σ) (upd H2 p (.lst [])))/\∀i m σ' H',W i m σ' H'->
    (J.stop i H'/\Q (.ref p) H')\/(J.go i H'/\∃N:St->Hp->Prop,(∀σ2 H2,N σ2 H2->∃m',m'<m/\W (i+1) m' σ2 H2)/\
     ∀x H2,J.yld i H' x H2->g x σ' H2 fun σ2 H3=>tt σ2 H3 fun b H4=>if b=true then te σ2 H4 fun v H5=>∃acc,H5 p=some (.lst acc)/\acc.length<sizeLine/\N σ2 (upd H5 p (.lst (acc++[v]))) else N σ2 H4))
   (fin:∀p C H' s',Inv X pins σ H' s'->(∃m,s'.heap.Ns C m)->s2.heap.objs.size<C->H' C=none->Q (.ref p) H'->RR (.ref p) C (.ok .next) s') :
   wpAny (model X.prog X.w) X.A (newList []) (fun acc s₃=>wpAny (model X.prog X.w) X.A (newFunctionEnv scope X.env.globals (zfy X.env.cells scope.names []) [] X.env.qual none .none (some X.env)) (fun cenv s₄=>codeAny (model X.prog X.w) X.A (.compStart (.ListComp elt [⟨tg,iter,ifs,0⟩] scope pos) 0 (.ref it) acc {cenv with scope:=relabel scope X.env}) (RR acc cenv.locals) s₄) E s₃) E s2:=by
  subst hsc;refine wpAny_newObj_type (wpAny_newFunctionEnv ok.nocell (by intro y hy;simp at hy) (fun h₁ hns₁ hsb₁=>?_) ok.kind);have I3:Inv X pins σ (upd H2 s2.heap.objs.size (.lst [])) {s2 with heap:=s2.heap.push {cls:=.type "list",data:=.seq ([]:List Value).toArray}}:=I2.lnew (t':=s2.toks) .nil (zero_le _);obtain⟨W,⟨m0,w0⟩,turn⟩:=rd _ I2.fresh;generalize hp:s2.heap.objs.size=p at *;generalize hs3:({s2 with heap:=s2.heap.push {cls:=.type "list",data:=.seq ([]:List Value).toArray}}:Shared)=s3 at I3;have e3:s3.heap=s2.heap.push {cls:=.type "list",data:=.seq ([]:List Value).toArray}:=by rw[<-hs3]
  have sz3:s3.heap.objs.size=p+1:=by rw[e3,Heap.size_push,hp]
  generalize hH3:upd H2 p (.lst [])=H3 at *;have hns:h₁.Ns s3.heap.objs.size (fun x=>([]:List (Str×Value)).reverse.lookup x):=by rw[e3];exact hns₁
  have hsb:Heap.SameBut s3.heap.objs.size (s3.heap.push {cls:=.type "dict",data:=.dict #[]}) h₁:=by rw[e3];exact hsb₁
  have old:∀b o,s3.heap.get? b=some o->h₁.get? b=some o:=fun b o e=>(hsb.2 b (ne_of_lt (Heap.lt_size e))).trans (Heap.get?_push_of_some _ e);have frees:∀y∈scope.names,y.2=.free->∃c,X.env.cells.lookup y.1=some c:=fun y hy hk=>I2.ok.has y.1 (ok.frees y hy hk);have cellX:∀x c,(zfy X.env.cells scope.names []).lookup x=some c->X.env.cells.lookup x=some c:=ze1 scope.names [] (fun x c e=>by simp at e);generalize hcl:zfy X.env.cells scope.names []=cl at *;have okX:(zav X (capN X.N tgs js) scope cl s3.heap.objs.size fp s3 H3 (X.pn++pins)).Ok:=
   {mod:=I3.ok.mod,kind:=ok.kind,glob:=I3.ok.glob,blt:=I3.ok.blt,above:=le_refl _,
    inj:=fun x y c e1 e2=>I3.ok.inj x y c (cellX x c e1) (cellX y c e2),
    has:=fun x hk=>by
     have hk':(scope.names.map (zbJ X.env)).lookup x=some .cell\/(scope.names.map (zbJ X.env)).lookup x=some .free:=by rw[<-zbZ];exact hk
     rw[<-hcl];refine zcV scope.names [] x frees (.inr ?_);rcases hk' with q|q;obtain⟨k0,m,_,e⟩:=zbq X.env x _ _ q;rcases e with e|⟨e,_⟩;subst e;exact absurd rfl (ok.nocell _ m);subst e;exact m;obtain⟨k0,m,_,e⟩:=zbq X.env x _ _ q;rcases e with e|⟨e,z⟩;subst e;exact m;exact absurd z (fun h=>(nomatch h)),
    cab:=fun x c e=>absurd e Bool.false_ne_true,hd:=I3.ok.hd,frames:=I3.ok.frames,stk:=.inl rfl,
    exf:=fun b hb=>⟨ne_of_lt (by
     obtain⟨o,ho,_⟩:=T.obj 0 _ st2 b hb;rw[sz3,<-hp];exact Nat.lt_succ_of_lt (Heap.lt_size ho)),fun x c e=>(f2 b hb).2.2.2.2.1 x c (cellX x c e)⟩,
    bs:=I3.bs,bsz:=le_trans I3.ok.bsz I3.sz,
    noex:=fun b o e hb=>by rcases(f2 b hb).2.2.2.1 with z|z;exact I3.ok.noex b o e z;exact absurd (lt_of_lt_of_le (Heap.lt_size e) (le_trans I3.ok.bsz z)) (lt_irrefl _),
    exfs:=fun b hb hx=>by rcases mem_cons.mp (I3.stkSub b hx) with z|z;exact(f2 b hb).2.1 z;exact(f2 b hb).2.2.1 z,
    funs:=I3.stack,frf:=I3.stkFree}
  have I4:Inv (zav X (capN X.N tgs js) scope cl s3.heap.objs.size fp s3 H3 (X.pn++pins)) [] (csl tgs.length js σ) H3 {s3 with heap:=h₁}:=
   {ok:=okX,os:=rfl,bare:=I3.bare,base:=Un.kept old,
    loc:=⟨_,hns,fun i x v e1 e2 e3=>by
     have e2:(List.replicate tgs.length none++js.map fun j=>(σ[j]?).join)[i]?=some (some v):=e2;by_cases hi:i<tgs.length;rw[getElem?_append_left (by rw[length_replicate];exact hi),List.getElem?_replicate,if_pos hi]at e2;cases e2;rw[getElem?_append_right (by omega),getElem?_map]at e1;rw[getElem?_append_right (by rw[length_replicate];omega),length_replicate,getElem?_map]at e2;cases hj:js[i-tgs.length]? with
     |none=>rw[hj]at e1;cases e1
     |some j=>
      rw[hj]at e1 e2;have e1:X.N.getD j ""=x:=Option.some.inj e1;have e2:(σ[j]?).join=some v:=Option.some.inj e2;have hjm:j∈js:=mem_of_getElem? hj;obtain⟨hfr,hjl⟩:=ok.caps j hjm;rw[e1]at hfr;have hNj:X.N[j]?=some x:=by rw[getElem?_eq_getElem hjl];rw[List.getD_eq_getElem?_getD,getElem?_eq_getElem hjl]at e1;exact congrArg some e1
      have hσ:σ[j]?=some (some v):=by
       cases q:σ[j]? with
       |none=>rw[q]at e2;cases e2
       |some o=>rw[q]at e2;have e2:o=some v:=e2;rw[e2]
      have hmem:(x,NameKind.free)∈scope.names:=by obtain⟨l1,l2,h3,_⟩:=List.lookup_eq_some_iff.mp hfr;rw[h3];simp
      have hkX:=ok.frees _ hmem rfl;have hvis:Vis X.env.scope x:=hkX.elim (fun z=>.inr (.inl z)) fun z=>.inr (.inr z);obtain⟨m,hn,hl⟩:=I3.loc;obtain⟨u,r,lk⟩:=hl j x v hNj hσ hvis;refine⟨u,r,.inr ⟨?_,?_⟩⟩;have q:=zbd X.env x scope.names hfr;exact q.symm;rcases lk with⟨k,_⟩|⟨_,c,ec,z⟩
      . exfalso;have k:X.env.scope.names.lookup x=some .local:=k;rcases hkX with q|q<;>(rw[k]at q;cases q)
      let ⟨c',hc'⟩:∃c',cl.lookup x=some c':=by rw[<-hcl];exact zcV scope.names [] x frees (.inr hmem)
      have q:=cellX x c' hc';rw[ec]at q;cases q;obtain⟨o,ho,hd⟩:=z;exact⟨c,hc',o,old _ _ ho,hd⟩⟩,
    cell:=fun x c e=>by obtain⟨v,o,ho,hd⟩:=I3.cell x c (cellX x c e);exact⟨v,o,old _ _ ho,hd⟩,
    free:=I3.fresh,
    freeC:=fun x c e=>I3.freeC x c (cellX x c e),
    pin:=fun q hq=>by
     have hq:q∈X.pn++pins:=by simpa using hq
     obtain⟨e,n,ne,nf,d⟩:=I3.pin q hq;refine⟨old _ _ e,n,ne_of_lt (Heap.lt_size e),fun z=>?_,d⟩;rcases mem_cons.mp (I3.stkSub _ z) with z|z;exact ne z;exact nf z,
    hok:=I3.hok.kept old,
    len:=by show(List.replicate tgs.length none++js.map fun j=>(σ[j]?).join).length=(tgs++js.map fun j=>X.N.getD j "").length;simp}
  have stat:∀{H':Hp},(∀b∈fp,H' b=none)->∀b∈fp,FpOk (zav X (capN X.N tgs js) scope cl s3.heap.objs.size fp s3 H3 (X.pn++pins)) [] H' b:=fun hn b hb=>
   ⟨hn b hb,(okX.exf b hb).1,okX.exfs b hb,.inl hb,(okX.exf b hb).2,fun q hq=>by
    have hq:q∈X.pn++pins:=by simpa using hq
    exact(f2 b hb).2.2.2.2.2 q hq⟩
  have fr3:∀b∈fp,H3 b=none:=fun b hb=>by obtain⟨o,ho,_⟩:=T.obj 0 _ st2 b hb;rw[<-hH3,zaf (ne_of_lt (hp▸Heap.lt_size ho))];exact(f2 b hb).1
  have st4:tn 0 h₁:=T.keep 0 _ _ st2 fun b hb o e=>old b o (by rw[e3];exact Heap.get?_push_of_some _ e);have loop:codeAny (model X.prog X.w) X.A (.compLoop (.ListComp elt [⟨tg,iter,ifs,0⟩] scope pos) 0 (.ref it) (.ref p) (compEnvC scope cl s3.heap.objs.size X.env)) (RR (.ref p) s3.heap.objs.size) {s3 with heap:=h₁}:=by
   refine zg0 (fun n s'=>∃i σ' H',Inv (zav X (capN X.N tgs js) scope cl s3.heap.objs.size fp s3 H3 (X.pn++pins)) [] σ' H' s'/\tn i s'.heap/\(∀b∈fp,H' b=none)/\W i n σ' H') ?_ m0 ⟨0,_,H3,I4,st4,fr3,w0⟩;rintro n s4 ⟨i,σ4,H4,J4,st4,fr4,w4⟩;rcases turn i n σ4 H4 w4 with⟨stop,qn⟩|⟨go,N,hN,step⟩;refine thn (T.done (zav X (capN X.N tgs js) scope cl s3.heap.objs.size fp s3 H3 (X.pn++pins)) rfl rfl rfl hc i [] s4 σ4 H4 _ J4 (stat fr4) st4 stop) fun r s5 ⟨hr,J5⟩=>.inl ⟨hr,?_⟩;have hX:Inv X pins σ H4 s5:=I3.call' J5.os J5.base J5.hok J5.bare fun b hb=>⟨(f2 b hb).2.2.2.1,(f2 b hb).2.1,(f2 b hb).2.2.2.2.1,(f2 b hb).2.2.2.2.2⟩;obtain⟨m,hm,_⟩:=J5.loc;exact fin p _ H4 s5 hX ⟨m,hm⟩ (by rw[sz3];exact Nat.lt_succ_self _) J5.free qn
   refine thn (T.item (zav X (capN X.N tgs js) scope cl s3.heap.objs.size fp s3 H3 (X.pn++pins)) rfl rfl rfl hc i [] s4 σ4 H4 _ J4 (stat fr4) st4 go) fun r s5 ⟨u,hr,h5⟩=>.inr ⟨u,hr,?_⟩;refine thn h5 fun _ s6=>ex5 fun x H6 J6 r6 ⟨y6,st6,fr6⟩=>?_;have J6':=J6.pinned (stat fr6) (T.obj _ _ st6);refine thn (hg _ _ _ _ _ _ _ s6 σ4 H6 x u _ J6' r6 (step x H6 y6)) fun _ s7 ⟨σ7,H7,J7,q7⟩=>?_;refine thn (ht _ _ _ _ _ _ _ s7 σ7 H7 _ J7 q7) fun ok8 s8 ⟨H8,J8,q8⟩=>?_;have again:∀{s9:Shared}{H9:Hp},Inv (zav X (capN X.N tgs js) scope cl s3.heap.objs.size fp s3 H3 (X.pn++pins)) ([]++zeC fp s6.heap) σ7 H9 s9->N σ7 H9->
     ∃m,m<n/\∃i σ' H',Inv (zav X (capN X.N tgs js) scope cl s3.heap.objs.size fp s3 H3 (X.pn++pins)) [] σ' H' s9/\tn i s9.heap/\(∀b∈fp,H' b=none)/\W i m σ' H':=fun {s9 H9} J9 n9=>by
    obtain⟨m',hm,w9⟩:=hN σ7 H9 n9;refine⟨m',hm,i+1,σ7,H9,J9.unpinned,T.keep _ _ _ st6 fun b hb o e=>(J9.pin (b,o) (mem_append_right _ (mem_append_right _ (zbD hb e)))).1,fun b hb=>?_,w9⟩;obtain⟨o,e,d⟩:=T.obj _ _ st6 b hb;exact(J9.pin (b,o) (mem_append_right _ (mem_append_right _ (zbD hb e)))).2.1
   cases ok8 with|false=>exact again J8 q8| true=>refine thn (he _ _ _ _ _ _ _ s8 σ7 H8 _ J8 q8) fun y s9=>ex5 fun v H9 J9 r9 ⟨acc,ha,hl,q9⟩=>?_;refine thn (zeG _ s9 σ7 H9 (.ref p) [v] (.ref p) [y] (fun _ H=>N σ7 H) J9 rfl (.cons r9 .nil) ⟨p,acc,v,rfl,rfl,ha,hl,q9⟩) fun _ s10=>ex5 fun _ H10 J10 _ q10=>?_;exact again J10 q10
  exact codeAny_compStart_list loop (T.self _ 0 _ _ _ st4 loop)
theorem zjC(sc:Scope)(tgs:List Str)(js:List Nat)(hc:X.calm=true)(hsc:X.env.scope=sc)(ok:CompOk sc scope X.N js)(hi:PI X tg iter wi)
  (hg:∀cl C fp s H pn,PG (zav X (capN X.N tgs js) scope cl C fp s H pn) tg g)
  (ht:∀cl C fp s H pn,PTs (zav X (capN X.N tgs js) scope cl C fp s H pn) ifs tt)
  (he:∀cl C fp s H pn,PE (zav X (capN X.N tgs js) scope cl C fp s H pn) elt te)
  (hs:∀x,foldedSetIterable iter X.env x=pure x:=by intro _;rfl) :
  PE X (.ListComp elt [⟨tg,iter,ifs,0⟩] scope pos) (zk4 tgs.length js wi g tt te):=by
 intro pins s σ H Q I h;have frees:∀y∈scope.names,y.2=.free->∃c,X.env.cells.lookup y.1=some c:=fun y hy hk=>I.ok.has y.1 (by
  have q:=ok.frees y hy hk;rw[<-hsc]at q;exact q)
 refine wpAny_comprehension_free rfl hs (zbn frees) ok.kind ok.locs (thn (hi pins s σ H _ I h) fun v s1 h1=>thn h1 fun itv s2 h2=>?_);obtain⟨it,fp,tn,J,H2,e,I2,T,st2,f2,rd⟩:=h2;subst e;refine zdl hc hsc ok hg ht he I2 T st2 f2 rd fun p C H' s' I' hm hC hn q=>?_;obtain⟨m,hm⟩:=hm;refine⟨m,hm,fun h' hs'=>⟨.ref p,H',?_,rfl,q⟩⟩;exact I'.turned (t':=s'.toks) (fun b o hb e=>(hs'.2 b hb).trans e) hn (ne_of_gt (lt_trans I2.lt hC)) (.inr (le_trans I2.sz (le_of_lt hC))) (fun x c e=>by obtain⟨v,o,ho,_⟩:=I2.cell x c e;exact ne_of_lt (lt_trans (Heap.lt_size ho) hC)) fun q hq=>ne_of_lt (lt_trans (Heap.lt_size (I2.pin q hq).1) hC)
theorem zlL(sc:Scope)(tgs:List Str)(js:List Nat){py spos:Pos}(hN:X.N.Nodup)(hi':X.N[i]?=some y)(hy:Loc X.env.scope y)(hc:X.calm=true)(hsc:X.env.scope=sc)(ok:CompOk sc scope X.N js)(hi:PI X tg iter wi)
  (hg:∀cl C fp s H pn,PG (zav X (capN X.N tgs js) scope cl C fp s H pn) tg g)
  (ht:∀cl C fp s H pn,PTs (zav X (capN X.N tgs js) scope cl C fp s H pn) ifs tt)
  (he:∀cl C fp s H pn,PE (zav X (capN X.N tgs js) scope cl C fp s H pn) elt te)
  (hsw:swapsWith (.ListComp elt [⟨tg,iter,ifs,0⟩] scope pos) (some (.Name y py)) spos.line X.env=pure true:=by rfl)
  (hs:∀x,foldedSetIterable iter X.env x=pure x:=by intro _;rfl)
  (hf:X.fn y=true\/X.env.scope.names.lookup y=some .local:=by first|exact .inl rfl|exact .inr rfl|assumption) :
  PS X (.Assign [.Name y py] (.ListComp elt [⟨tg,iter,ifs,0⟩] scope pos) spos) (tAsg (zk4 tgs.length js wi g tt te) (zim i)):=by
 intro pins s σ H D I h;have frees:∀y∈scope.names,y.2=.free->∃c,X.env.cells.lookup y.1=some c:=fun y hy hk=>I.ok.has y.1 (by
  have q:=ok.frees y hy hk;rw[<-hsc]at q;exact q)
 rw[exec_Assign_Name_used _ _ _ _ hsw];refine wpAny_bind (wpAny_standAt (wpAny_bind ?_));refine wpAny_bind (wpAny_mono (wpAny_comprehension_free rfl hs (zbn frees) ok.kind ok.locs
  (thn (hi pins s σ H _ I h) fun v s1 h1=>thn h1 fun itv s2 h2=>?_)) (fun _ s' hq=>wpAny_pure (wpAny_pure hq)) fun _ _ e=>e)
 obtain⟨it,fp,tn,J,H2,e,I2,T,st2,f2,rd⟩:=h2;subst e;refine zdl hc hsc ok hg ht he I2 T st2 f2 rd (Q:=fun x H1=>zim i x σ H1 D.nx) fun p C H' s' I' hm hC hn q=>?_;obtain⟨m,hm⟩:=hm;have hL:C≠X.env.locals:=ne_of_gt (lt_trans I2.lt hC);have hCc:∀x c,X.env.cells.lookup x=some c->c≠C:=fun x c e=>by obtain⟨v,o,ho,_⟩:=I2.cell x c e;exact ne_of_lt (lt_trans (Heap.lt_size ho) hC)
 refine wpAny_assign_Name (zem I' hN hi' hy (v:=.ref p) rfl (fun s'' I'' hch=>?_) hf);obtain⟨a,hsb,ha⟩:=hch;have hCa:C≠a:=by rcases ha with z|z;rw[z];exact hL;exact fun e=>hCc y a z e.symm
 refine⟨m,hm.sameBut hsb hCa,fun h' hs'=>⟨σ.set i (some (.ref p)),H',?_,q⟩⟩;exact I''.turned (t':=s''.toks) (fun b o hb e=>(hs'.2 b hb).trans e) hn hL (.inr (le_trans I2.sz (le_of_lt hC))) hCc fun q hq=>ne_of_lt (lt_trans (Heap.lt_size (I2.pin q hq).1) hC)
end
structure FunV(K:Frag)(x qual:Str)(st:Stmt)(dV:Value)(f:Addr)(fd:FuncData):Prop where
 ex:∃(oc:Value) (od:Option Addr) (kV doc pm:Value) (an:Option Addr) (cdv ct:Value) (osl:Array (Option Value)),
  fd=fnOf x qual (zas st) (zan st) (zab st) dV kV doc pm an cdv ct/\K.lookup f=some ⟨oc,od,.func fd,osl⟩/\codeIn K cdv qual=true
 kp:keepIn K (.ref f)=true
theorem zd6{K:Frag}{st:Stmt}{dV kV doc pm cdv ct:Value}(l:K.lookup f=some ⟨oc,od,.func (fnOf x qual (zas st) (zan st) (zab st) dV kV doc pm an cdv ct),osl⟩)
 (c:codeIn K cdv qual=true) (k:keepIn K (.ref f)=true):FunV K x qual st dV f (fnOf x qual (zas st) (zan st) (zab st) dV kV doc pm an cdv ct):=⟨⟨oc,od,kV,doc,pm,an,cdv,ct,osl,rfl,l,c⟩,k⟩
section
variable{P:Program}{w:World}{K:Frag}{mg:Str->Option Value}{base:Heap}
theorem FunV.ok{st:Stmt}(F:FunV K x qual st dV f fd)(S:FnScope N ps (zab st))(len:∀vs H Q E,sp vs H Q E->vs.length=ps.length)
  (hbody:∀(cdv:Value)(A:Around)(outer:List Env)(s:Shared)(H:Hp)(vs:List V)(Q:VK)(E:XK),Room k (A.deeper (envOfC qual (zab st) s.heap.objs.size f cdv))->sp vs H Q E->
   ∃t,PSs (cxOf CX0 P w K mg base N qual (zab st) f cdv A outer s H E).nox (zan st) t/\t {nx:=fun _ H'=>Q .non H',rt:=Q} (start N vs) H):FnOk P w K mg base CX0 (k+1) f fd ps sp:=by
 obtain⟨oc,od,kV,doc,pm,an,cdv,ct,osl,rfl,lk,hcd⟩:=F.ex;refine zov lk hcd S len fun A outer s H vs Q E hr hsp=>?_;obtain⟨t,h,q⟩:=hbody cdv A outer s H vs Q E hr hsp;exact⟨t,h.nox,q⟩
theorem FunV.binds{st:Stmt}(F:FunV K x qual st dV f fd)
  (h:∀(kV doc pm:Value)(an:Option Addr)(cdv ct:Value)(us:List Value),us.length=ps.length->bindArgs (fnOf x qual (zas st) (zan st) (zab st) dV kV doc pm an cdv ct) ⟨us,[]⟩=pure (ps.zip us)):Binds K fd ps []:=by
 obtain⟨oc,od,kV,doc,pm,an,cdv,ct,osl,rfl,lk,hcd⟩:=F.ex;exact .all (h kV doc pm an cdv ct)
structure Has(P:Program)(w:World)(K:Frag)(mg:Str->Option Value)(base:Heap)(k:Nat)(x:Str)(ps:List Str)(dvs:List V)(sp:Sp):Prop where
 ex:∃(f:Addr) (fd:FuncData) (ds:List Value),FnOk P w K mg base CX0 k f fd ps sp/\mg x=some (.ref f)/\keepIn K (.ref f)=true/\Binds K fd ps ds/\Vals dvs ds
end
theorem znV{p pos:Pos}(G:Has X.prog X.w X.K X.mg X.base k x ps dvs sp)(hr:Room k X.A)(ha:PA X (e::es) t)(hg:Gl X x:=by rfl)
  (hdb:(x==("__debug__":Str))=false:=by decide) (he:starEach (e::es) X.env=(false,eval e X.env)::starEach es X.env:=by rfl) (hpl:(backTo pos (starEach es X.env)).any (·.1)=false:=by rfl) :
  PE X (.Call (.Name x p) (e::es) [] pos) (zdE sp dvs E0 t):=by
 obtain⟨f,fd,ds,F,hm,hk,hb,hd⟩:=G.ex;exact zlX F hr hg hm hk hb hd zfq ha hdb he hpl
theorem znU{p pos:Pos}(G:Has X.prog X.w X.K X.mg X.base k x ps dvs sp)(hr:Room k X.A)(hg:Gl X x:=by rfl)
  (hdb:(x==("__debug__":Str))=false:=by decide):PE X (.Call (.Name x p) [] [] pos) (zdE sp dvs E0 tNil):=by
 obtain⟨f,fd,ds,F,hm,hk,hb,hd⟩:=G.ex;exact zjJ F hr hg hm hk hb hd zfq hdb
mutual
def Rep(H:Hp):PyData->V->Prop
 |.none,v=>v=.non|.bool b,v=>v=.bl b|.int i,v=>v=.int i|.str x,v=>v=.str x|.list ds,v=>∃a vs,v=.ref a/\H a=some (.lst vs)/\RepAll H ds vs|.tuple ds,v=>∃a vs,v=.ref a/\H a=some (.tup vs)/\RepAll H ds vs|.dict _,_=>False
def RepAll(H:Hp):List PyData->List V->Prop
 | [],vs=>vs=[]|d::ds,vs=>∃v r,vs=v::r/\Rep H d v/\RepAll H ds r
end
mutual
noncomputable def imm:PyData->Bool
 |.none=>true|.bool _=>true|.int _=>true|.str _=>true|.list _=>false|.tuple ds=>zeS ds|.dict _=>false
noncomputable def zeS:List PyData->Bool
 | []=>true|d::ds=>imm d&&zeS ds
end
def Tups(H H':Hp):Prop:=∀b xs,H b=some (.tup xs)->H' b=some (.tup xs)
theorem Tups.refl(H:Hp):Tups H H:=fun _ _ h=>h
theorem Tups.trans(a:Tups H H1)(b:Tups H1 H2):Tups H H2:=fun c xs h=>b c xs (a c xs h)
theorem Tups.upd(h:∀xs,H p≠some (.tup xs)):Tups H (upd H p o):=fun b xs e=>by
 have hb:b≠p:=fun z=>by subst z;exact h xs e
 rw[zaf hb];exact e
theorem Tups.upd_lst(h:H p=some (.lst xs)):Tups H (L2.upd H p o):=Tups.upd fun ys e=>by rw[h]at e;cases e
theorem Tups.upd_new(h:H p=none):Tups H (L2.upd H p o):=Tups.upd fun ys e=>by rw[h]at e;cases e
mutual
theorem Rep.same{H H':Hp}(hs:Same H H'):∀{d:PyData}{v:V},Rep H d v->Rep H' d v
 |.none,_,h=>h|.bool _,_,h=>h|.int _,_,h=>h|.str _,_,h=>h| .list ds,v,h=>by obtain⟨a,vs,e,ha,r⟩:=h;exact⟨a,vs,e,hs _ _ ha,RepAll.same hs r⟩| .tuple ds,v,h=>by obtain⟨a,vs,e,ha,r⟩:=h;exact⟨a,vs,e,hs _ _ ha,RepAll.same hs r⟩|.dict _,_,h=>h
theorem RepAll.same{H H':Hp}(hs:Same H H'):∀{ds:List PyData}{vs:List V},RepAll H ds vs->RepAll H' ds vs
 | [],_,h=>h| d::ds,vs,h=>by obtain⟨v,r,e,h1,h2⟩:=h;exact⟨v,r,e,Rep.same hs h1,RepAll.same hs h2⟩
end
mutual
theorem Rep.tups{H H':Hp}(hs:Tups H H'):∀{d:PyData}{v:V},imm d=true->Rep H d v->Rep H' d v
 |.none,_,_,h=>h|.bool _,_,_,h=>h|.int _,_,_,h=>h|.str _,_,_,h=>h|.list ds,v,i,h=>by simp[imm]at i| .tuple ds,v,i,h=>by obtain⟨a,vs,e,ha,r⟩:=h;exact⟨a,vs,e,hs _ _ ha,RepAll.tups hs (by simpa[imm]using i) r⟩|.dict _,_,_,h=>h
theorem RepAll.tups{H H':Hp}(hs:Tups H H'):∀{ds:List PyData}{vs:List V},zeS ds=true->RepAll H ds vs->RepAll H' ds vs
 | [],_,_,h=>h| d::ds,vs,i,h=>by
  obtain⟨v,r,e,h1,h2⟩:=h;have i':imm d=true/\zeS ds=true:=by simpa[zeS]using i
  exact⟨v,r,e,Rep.tups hs i'.1 h1,RepAll.tups hs i'.2 h2⟩
end
mutual
theorem Rep.reads{X:Cx}{pins:List (Addr×Obj)}{σ:St}{H:Hp}{s:Shared}(I:Inv X pins σ H s):∀(d:PyData)(v:V)(u:Value),Rep H d v->RelV v u->∃as,Reads s.heap u d as
 |.none,v,u,h,r=>by cases(show v=.non from h);cases(show u=Value.none from r);exact⟨_,.none⟩| .bool b,v,u,h,r=>by cases(show v=.bl b from h);cases(show u=Value.bool b from r);exact⟨_,.bool b⟩| .int i,v,u,h,r=>by cases(show v=.int i from h);obtain⟨t,rfl⟩:=(show ∃t,u=Value.int i t from r);exact⟨_,.int i t⟩| .str x,v,u,h,r=>by cases(show v=.str x from h);obtain⟨t,rfl⟩:=(show ∃t,u=Value.str x t from r);exact⟨_,.str x t⟩| .list ds,v,u,h,r=>by obtain⟨a,vs,rfl,ha,hr⟩:=h;cases(show u=Value.ref a from r);obtain⟨its,n,rv,e,_⟩:=I.lst ha;obtain⟨as,q⟩:=RepAll.reads I ds vs its hr rv;exact⟨_,.list e rfl rfl q⟩| .tuple ds,v,u,h,r=>by obtain⟨a,vs,rfl,ha,hr⟩:=h;cases(show u=Value.ref a from r);obtain⟨its,rv,⟨o,e1,e2,n,e3⟩,_⟩:=I.tuple (SqT.of (K:=X.K) ha);obtain⟨as,q⟩:=RepAll.reads I ds vs its hr rv;exact⟨_,.tuple e1 e2 e3 q⟩|.dict _,_,_,h,_=>False.elim h
theorem RepAll.reads{X:Cx}{pins:List (Addr×Obj)}{σ:St}{H:Hp}{s:Shared}(I:Inv X pins σ H s):∀(ds:List PyData)(vs:List V)(us:List Value),RepAll H ds vs->Vals vs us->∃as,ReadsAll s.heap us ds as
 | [],vs,us,h,r=>by cases(show vs=[] from h);cases r;exact⟨_,.nil⟩| d::ds,vs,us,h,r=>by obtain⟨v,vr,rfl,h1,h2⟩:=h;cases r with| cons r1 r2=>obtain⟨as,q1⟩:=Rep.reads I d v _ h1 r1;obtain⟨bs,q2⟩:=RepAll.reads I ds vr _ h2 r2;exact⟨_,.cons q1 q2⟩
end
section
variable{X:Cx}
def rEqD(g:Bool->Bool):R2:=fun x y H Q=>∃da db,Rep H da x/\Rep H db y/\da.canLay0=true/\db.canLay0=true/\min da.depth db.depth<=60/\Q (.bl (g (PyData.eqv da db))) H
theorem zn5(hu:X.A.units+64<cLine):OpR X (compareOp .Eq) (rEqD id):=by intro pins s σ H x y v u Q I rx ry h;obtain⟨da,db,h1,h2,l1,l2,hd,q⟩:=h;obtain⟨as,r1⟩:=Rep.reads I da x v h1 rx;obtain⟨bs,r2⟩:=Rep.reads I db y u h2 ry;exact SeqAt.compareEq_reads r1 r2 l1 l2 (by omega) (zap I q rfl)
theorem zn2(hu:X.A.units+64<cLine):OpR X (compareOp .NotEq) (rEqD not):=by intro pins s σ H x y v u Q I rx ry h;obtain⟨da,db,h1,h2,l1,l2,hd,q⟩:=h;obtain⟨as,r1⟩:=Rep.reads I da x v h1 rx;obtain⟨bs,r2⟩:=Rep.reads I db y u h2 ry;exact SeqAt.compareNe_reads r1 r2 l1 l2 (by omega) (zap I q rfl)
noncomputable def zcq(H:Hp):V->Option String
 |.non=>some "NoneType"|.bl _=>some "bool"|.int _=>some "int"|.str _=>some "str"
 |.ref a=>match H a with
  |some (.lst _)=>some "list"|some (.frz _ (.lst _))=>some "list"|some (.tup _)=>some "tuple"|some (.dK _)=>some "dict"|some (.dT _)=>some "dict"|_=>none
 |_=>none
theorem zhc{K:Frag}(h:zcq H x=some a):TyOf K H x (.type a):=by
 cases x with
 |non=>cases h;exact .non|bl b=>cases h;exact .bl b|int i=>cases h;exact .int i|str y=>cases h;exact .str y|byt _=>cases h
 |flt _=>cases h
 |ty _=>cases h
 |ref p=>
  unfold zcq at h;cases e:H p with
  |none=>simp[e]at h| some o=>
   cases o with
   |lst xs=>simp[e]at h;subst h;exact .lst e|tup xs=>simp[e]at h;subst h;exact .tup e|dK kvs=>simp[e]at h;subst h;exact .dK e|dT kvs=>simp[e]at h;subst h;exact .dT e| frz ob q=>cases q with|lst xs=>simp[e]at h;subst h;exact .frz e|_=>simp[e]at h
   |_=>simp[e]at h
noncomputable def subT(a b:String):Bool:=a==b||(a=="bool"&&b=="int")
theorem zmi(K:Frag)(ha:a∈["NoneType","bool","int","str","list","tuple","dict"])(hb:b∈["bool","int","str","list","tuple","dict"]):kitOne K (.type a) (.type b)=some (subT a b):=by simp at ha hb;rcases ha with rfl|rfl|rfl|rfl|rfl|rfl|rfl<;>rcases hb with rfl|rfl|rfl|rfl|rfl|rfl<;>rfl
theorem zgx(h:zcq H x=some a):a∈["NoneType","bool","int","str","list","tuple","dict"]:=by
 cases x with
 |non=>cases h;simp|bl b=>cases h;simp|int i=>cases h;simp|str y=>cases h;simp|byt _=>cases h
 |flt _=>cases h
 |ty _=>cases h
 |ref p=>unfold zcq at h;simp only at h;split at h<;>first|(cases h;simp)|cases h
theorem zfz:zbb X (.builtin "isinstance") (fun xs H Q=>∃x c a,xs=[x,.ty c]/\zcq H x=some a/\c∈["bool","int","str","list","tuple","dict"]/\Q (.bl (subT a c)) H):=by intro pins s σ H xs us Q I r h;obtain⟨x,c,a,rfl,hx,hc,q⟩:=h;obtain⟨u,w',rfl,rx,rc⟩:=zkX r;cases rc;exact zh6 I rx (zhc hx) (zmi X.K (zgx hx) hc) fun tk=>⟨.bl (subT a c),H,I.tok tk,rfl,q⟩
end
section
variable{X:Cx}(K:Frag)(hK:X.K=K)
include hK
end
end L2
namespace TM
structure Good(m:Nat)(wo:Option Int)(s:Int)(n:Nat)(p:List Int):Prop where
 len:p.length=n
 head:p.head?=some s
 nd:p.Nodup
 rng:∀h∈p,0<=h/\h<m/\wo≠some h
end TM
namespace L2
open PySem PySem.Spec PyProof.Rows
theorem zoS:bootBuiltins "len"=some (.builtin "len"):=by decide +kernel
theorem zoU:bootBuiltins "abs"=some (.builtin "abs"):=by decide +kernel
theorem zoR:bootBuiltins "max"=some (.builtin "max"):=by decide +kernel
theorem zeg:bootBuiltins "isinstance"=some (.builtin "isinstance"):=by decide +kernel
theorem zoT:bootBuiltins "int"=some (.type "int"):=by decide +kernel
theorem zmF:bootBuiltins "bool"=some (.type "bool"):=by decide +kernel
theorem zoP:bootBuiltins "str"=some (.type "str"):=by decide +kernel
theorem zfB:bootBuiltins "list"=some (.type "list"):=by decide +kernel
theorem zef:bootBuiltins "tuple"=some (.type "tuple"):=by decide +kernel
theorem zmE:bootBuiltins "dict"=some (.type "dict"):=by decide +kernel
theorem zoM{K:Frag}{st:Stmt}(n:Nat)(hn:ps.length=n+ds.length)(F:FunV K x qual st (.ref d) f fd)
  (e:K.lookup d=some ⟨xc,xd,.seq items xn,xs⟩)
  (h:∀(kV doc pm:Value)(an:Option Addr)(cdv ct:Value)(us:List Value),us.length=n->∃k,bindArgs (fnOf x qual (zas st) (zan st) (zab st) (.ref d) kV doc pm an cdv ct) ⟨us,[]⟩=seqItems? (.ref d)>>=k/\k (some items)=pure (ps.zip (us++ds))) :
  Binds K fd ps ds:=by
 obtain⟨oc,od,kV,doc,pm,an,cdv,ct,osl,rfl,lk,hcd⟩:=F.ex;intro s us KX hl;obtain⟨k,h1,h2⟩:=h kV doc pm an cdv ct us (by rw[length_append]at hl;omega);exact BindsTo.of_defaults rfl (KX _ _ e) rfl h1 h2
end L2
namespace R
abbrev K3:=Int×List Int×Int
noncomputable def lexZ:List Int->List Int->Bool
 | [],[]=>false| [],_::_=>true|_::_,[]=>false|x::xs,y::ys=>if x=y then lexZ xs ys else decide (x<y)
theorem zb3(x y:Int)(xs ys:List Int):lexZ (x::xs) (y::ys)=if x=y then lexZ xs ys else decide (x<y):=rfl
theorem zbF:∀l:List Int,lexZ l l=false
 | []=>rfl|x::l=>by rw[zb3,if_pos rfl];exact zbF l
theorem zeI:∀{a b c:List Int},lexZ a b=true->lexZ b c=true->lexZ a c=true
 | [],[],c,h,k=>by cases h| [],y::b,[],h,k=>by cases k| [],y::b,z::c,h,k=>rfl|x::a,[],c,h,k=>by cases h|x::a,y::b,[],h,k=>by cases k| x::a,y::b,z::c,h,k=>by rw[zb3]at h k⊢;split at h;rename_i e1;split at k;rename_i e2;rw[if_pos (e1.trans e2)];exact zeI h k;rename_i e2;have k:=of_decide_eq_true k;rw[if_neg (by omega)];exact decide_eq_true (by omega);rename_i e1;have h:=of_decide_eq_true h;split at k;rename_i e2;rw[if_neg (by omega)];exact decide_eq_true (by omega);rename_i e2;have k:=of_decide_eq_true k;rw[if_neg (by omega)];exact decide_eq_true (by omega)
theorem zeJ:∀{a b:List Int},a≠b->lexZ a b=true\/lexZ b a=true
 | [],[],h=>absurd rfl h| [],y::b,_=>.inl rfl|x::a,[],_=>.inr rfl| x::a,y::b,h=>by rw[zb3,zb3];by_cases e:x=y;subst e;rw[if_pos rfl,if_pos rfl];exact zeJ fun z=>h (by rw[z]);rw[if_neg e,if_neg (Ne.symm e)];rcases Int.lt_or_gt_of_ne e with z|z;exact .inl (decide_eq_true z);exact .inr (decide_eq_true z)
def Lt3(a b:K3):Prop:=a.1<b.1\/(a.1=b.1/\(lexZ a.2.1 b.2.1=true\/(a.2.1=b.2.1/\a.2.2<b.2.2)))
noncomputable instance(a b:K3):Decidable (Lt3 a b):=by unfold Lt3;infer_instance
theorem zbE(a:K3):¬Lt3 a a:=by unfold Lt3;rw[zbF];simp
theorem zcG{a b c:K3}(h:Lt3 a b)(k:Lt3 b c):Lt3 a c:=by unfold Lt3 at *;rcases h with h|⟨h1,h2⟩;rcases k with k|⟨k1,k2⟩;exact .inl (by omega);exact .inl (by omega);rcases k with k|⟨k1,k2⟩;exact .inl (by omega);refine .inr ⟨h1.trans k1,?_⟩;rcases h2 with h2|⟨h2,h3⟩;rcases k2 with k2|⟨k2,k3⟩;exact .inl (zeI h2 k2);exact .inl (k2▸h2);rcases k2 with k2|⟨k2,k3⟩;exact .inl (h2▸k2);exact .inr ⟨h2.trans k2,by omega⟩
theorem zeH{a b:K3}(h:a≠b):Lt3 a b\/Lt3 b a:=by unfold Lt3;obtain⟨a1,a2,a3⟩:=a;obtain⟨b1,b2,b3⟩:=b;dsimp only;by_cases e1:a1=b1;by_cases e2:a2=b2;have e3:a3≠b3:=fun z=>h (by rw[e1,e2,z]);rcases Int.lt_or_gt_of_ne e3 with z|z;exact .inl (.inr ⟨e1,.inr ⟨e2,z⟩⟩);exact .inr (.inr ⟨e1.symm,.inr ⟨e2.symm,z⟩⟩);rcases zeJ e2 with z|z;exact .inl (.inr ⟨e1,.inl z⟩);exact .inr (.inr ⟨e1.symm,.inl z⟩);rcases Int.lt_or_gt_of_ne e1 with z|z;exact .inl (.inl z);exact .inr (.inl z)
noncomputable def ins3(x:K3):List K3->List K3
 | []=>[x]|y::l=>if Lt3 x y then x::y::l else y::ins3 x l
noncomputable def zfg:List K3->List K3
 | []=>[]|x::l=>ins3 x (zfg l)
theorem zcP(x:K3):∀l:List K3,(ins3 x l).Perm (x::l)
 | []=>List.Perm.refl _| y::l=>by unfold ins3;split;exact List.Perm.refl _;exact((zcP x l).cons y).trans (List.Perm.swap ..)
theorem zaT:∀l:List K3,(zfg l).Perm l
 | []=>List.Perm.refl _|x::l=>(zcP x _).trans ((zaT l).cons x)
theorem zcO(x:K3):∀{l:List K3},x∉l->l.Pairwise Lt3->(ins3 x l).Pairwise Lt3
 | [],_,_=>by simp[ins3]| y::l,hx,h=>by have h':=pairwise_cons.mp h;unfold ins3;split;rename_i c;exact pairwise_cons.mpr ⟨fun z hz=>by rcases mem_cons.mp hz with e|e;rw[e];exact c;exact zcG c (h'.1 z e),h⟩;rename_i c;refine pairwise_cons.mpr ⟨fun z hz=>?_,zcO x (fun m=>hx (mem_cons_of_mem _ m)) h'.2⟩;rcases mem_cons.mp ((zcP x l).mem_iff.mp hz) with e|e;rw[e];rcases zeH (a:=y) (b:=x) (fun z=>hx (by rw[z];exact mem_cons_self)) with q|q;exact q;exact absurd q c;exact h'.1 z e
theorem zbp:∀{l:List K3},l.Nodup->(zfg l).Pairwise Lt3
 | [],_=>Pairwise.nil| x::l,h=>by have h':=nodup_cons.mp h;exact zcO x (fun m=>h'.1 ((zaT l).mem_iff.mp m)) (zbp h'.2)
theorem zcA:∀{a b:List K3},a.Perm b->a.Pairwise Lt3->b.Pairwise Lt3->a=b
 | [],b,p,_,_=>(List.nil_perm.mp p).symm|x::a,[],p,_,_=>absurd (List.perm_nil.mp p) (by simp)| x::a,y::b,p,ha,hb=>by
  have ha':=pairwise_cons.mp ha;have hb':=pairwise_cons.mp hb;have e:x=y:=by rcases mem_cons.mp (p.mem_iff.mp mem_cons_self) with e1|e1;exact e1;rcases mem_cons.mp (p.mem_iff.mpr mem_cons_self) with e2|e2;exact e2.symm;exact absurd (zcG (hb'.1 x e1) (ha'.1 y e2)) (zbE y)
  subst e;rw[zcA (List.Perm.cons_inv p) ha'.2 hb'.2]
theorem zeW{α:Type}{p q:α->Bool}:∀{l:List α},(∀x∈l,p x=true->q x=true)->(l.filter p).length<=(l.filter q).length
 | [],_=>le_refl _| x::l,h=>by have ih:=zeW (l:=l) fun y hy=>h y (mem_cons_of_mem _ hy);rw[List.filter_cons,List.filter_cons];cases e:p x with|true=>rw[h x mem_cons_self e];simp;exact ih| false=>cases q x with|true=>simp;omega|false=>simpa using ih
theorem zeV{α:Type}{p q:α->Bool}:∀{l:List α}{a:α},(∀x∈l,p x=true->q x=true)->a∈l->p a=false->q a=true->(l.filter p).length<(l.filter q).length
 | [],_,_,h,_,_=>by cases h| x::l,a,h,ha,hp,hq=>by rw[List.filter_cons,List.filter_cons];rcases mem_cons.mp ha with e|e;subst e;have:=zeW (l:=l) fun y hy=>h y (mem_cons_of_mem _ hy);rw[hp,hq];simp;omega;have ih:=zeV (l:=l) (fun y hy=>h y (mem_cons_of_mem _ hy)) e hp hq;cases e':p x with|true=>rw[h x mem_cons_self e'];simp;exact ih| false=>cases q x with|true=>simp;omega|false=>simpa using ih
end R
namespace R
open PySem PySem.Spec PyProof.Rows L2
section
variable{prog:Program}{w:World}{A:Around}{E:Value->Shared->Prop}{s:Shared}
def IsTri(prog:Program)(w:World)(h:Heap)(k:K3)(a:Addr):Prop:=∃o t u b n,h.get? a=some o/\o.cls=.type "tuple"/\o.data=.seq #[.int k.1 t,.ref b,.int k.2.2 u] n/\IsTupleKey (zao prog w) h (k.2.1.map Sum.inl) b
theorem zd4{x y:List Int}(h:(x.map Sum.inl:List Key)=y.map Sum.inl):x=y:=(List.map_inj_right (fun a b e=>Sum.inl.inj e)).mp h
theorem IsTri.typeIs(x:IsTri prog w s.heap k a):s.TypeIs (.ref a) "tuple":=let ⟨o,_,_,_,_,ho,hc,_⟩:=x;⟨o,ho,hc⟩
theorem IsTri.inj(hx:IsTri prog w h x a)(hy:IsTri prog w h y a):x=y:=by obtain⟨o,t,u,b,n,ho,_,hd,hi⟩:=hx;obtain⟨o',t',u',b',n',ho',_,hd',hi'⟩:=hy;obtain rfl:o=o':=Option.some.inj (ho.symm.trans ho');rw[hd]at hd';injection hd' with h1 _;simp at h1;obtain⟨⟨e1,_⟩,rfl,e3,_⟩:=h1;have e2:=zd4 (hi.inj hi');obtain⟨x1,x2,x3⟩:=x;simp_all
theorem IsTri.keeps{es ep}(x:IsTri prog w h k a)(ho:h.get? d=some o)(hd:o.data=.dict es ep)(hs:Heap.SameBut d h h'):IsTri prog w h' k a:=by
 obtain⟨o',t,u,b,n,ho',hc,hd',hi⟩:=x;have hne:a≠d:=by rintro rfl;obtain rfl:o'=o:=Option.some.inj (ho'.symm.trans ho);rw[hd]at hd';exact nomatch hd'
 exact⟨o',t,u,b,n,(hs.2 a hne).trans ho',hc,hd',hi.keeps ho hd hs⟩
noncomputable def zaU(prog:Program)(w:World)(k:K3):Int:=reduceHash (Builtin.Tuple.tupleHashOf [hashInt k.1,tupleKeyHash (zao prog w) (k.2.1.map Sum.inl),hashInt k.2.2])
theorem zbj(hu:A.units+4<cLine)(hk:IsTri prog w s.heap k a)(h:Q (zaU prog w k) {s with toks:=s.toks+(k.2.1.length+4)}) :
  wpAny (model prog w) A (pyHash (.ref a)) Q E s:=by
 have hT:=hk.typeIs;obtain⟨o,t,u,b,n,ho,_,hd,hi⟩:=hk
 first|refine wpAny_bind (wpAny_cRoomFor_or (.inr (by omega)) ?_)|skip
 refine wpAny_bind (wpAny_specialOf hT F.slot_tuple_hash.lookup ?_);refine wpAny_bind (wpAny_specialOf hT F.slot_tuple_hash.lookup ?_);refine wpAny_bind (wpAny_callSpecialIfBoundUnlessNone?_slot hT F.slot_tuple_hash (wpAny_call_entry F.slot_tuple_hash hT F.entry_tuple_hash ?_ (F.args_tuple_hash_1 _)));show wpAny _ _ (Builtin.Tuple.tupleItemsOf (.ref a)>>=_) _ _ s;refine wpAny_bind (wpAny_tupleItemsOf ho hd ?_);apply wpAny_bind;rw[<-Array.forIn_toList];refine wpAny_forIn_list _
  (fun rest (g:Array Int) s'=>(rest=[.int k.1 t,.ref b,.int k.2.2 u]/\g.toList=[]/\s'=s)\/(rest=[.ref b,.int k.2.2 u]/\g.toList=[hashInt k.1]/\s'={s with toks:=s.toks+1})
   \/(rest=[.int k.2.2 u]/\g.toList=[hashInt k.1,tupleKeyHash (zao prog w) (k.2.1.map Sum.inl)]/\s'={s with toks:=s.toks+(k.2.1.length+2)})
   \/(rest=[]/\g.toList=[hashInt k.1,tupleKeyHash (zao prog w) (k.2.1.map Sum.inl),hashInt k.2.2]/\s'={s with toks:=s.toks+(k.2.1.length+3)}))
  _ ?_ ?_ _ _ (.inl ⟨rfl,rfl,rfl⟩)
 rintro x rest g s' (⟨e,hg,rfl⟩|⟨e,hg,rfl⟩|⟨e,hg,rfl⟩|⟨e,hg,rfl⟩);cases e;refine wpAny_bind (wpAny_pyHash_int ?_);exact wpAny_pure (.inr (.inl ⟨rfl,by simp[hg],rfl⟩));cases e;refine wpAny_bind (wpAny_pyHash_tuple ?_ hi ?_);show A.units+1<cLine;omega;exact wpAny_pure (.inr (.inr (.inl ⟨rfl,by simp[hg],by simp only[length_map];congr 1;omega⟩)));cases e;refine wpAny_bind (wpAny_pyHash_int ?_);exact wpAny_pure (.inr (.inr (.inr ⟨rfl,by simp[hg],by simp[Nat.add_assoc]⟩)));cases e;rintro g s' (⟨e,hg,rfl⟩|⟨e,hg,rfl⟩|⟨e,hg,rfl⟩|⟨e,hg,rfl⟩);cases e;cases e;cases e;show wpAny _ _ (retInt (Builtin.Tuple.tupleHashOf g.toList)) _ _ _;rw[hg];apply wpAny_ret_mkInt;show wpAny _ _ (if(decide (-(2:Int)^63<=Builtin.Tuple.tupleHashOf [hashInt k.1,tupleKeyHash (zao prog w) (k.2.1.map Sum.inl),hashInt k.2.2])&&decide (Builtin.Tuple.tupleHashOf [hashInt k.1,tupleKeyHash (zao prog w) (k.2.1.map Sum.inl),hashInt k.2.2]<2^63))=true then _ else _) Q E _;unfold zaU reduceHash at h;by_cases hr:(decide (-(2:Int)^63<=Builtin.Tuple.tupleHashOf [hashInt k.1,tupleKeyHash (zao prog w) (k.2.1.map Sum.inl),hashInt k.2.2])&&decide (Builtin.Tuple.tupleHashOf [hashInt k.1,tupleKeyHash (zao prog w) (k.2.1.map Sum.inl),hashInt k.2.2]<2^63))=true;rw[if_pos hr];rw[if_pos hr]at h;exact wpAny_pure (by simpa[Nat.add_assoc]using h);rw[if_neg hr];rw[if_neg hr]at h;exact wpAny_bind (wpAny_rule (wpAny_pure (by simpa[Nat.add_assoc]using h)))
theorem zfe(hu:A.units<cLine)(hx:IsTri prog w s.heap x a)(hy:IsTri prog w s.heap y b)(h:P (.done (.ret (.bool (decide (x=y))))) s) :
  wpAny (model prog w) A (Builtin.«tuple.__eq__» ⟨[.ref a,.ref b],[]⟩) P E s:=by
 have hTb:=hy.typeIs;obtain⟨oa,t1,u1,b1,na,hoa,_,hda,hia⟩:=hx;obtain⟨ob,t2,u2,b2,nb,hob,_,hdb,hib⟩:=hy;obtain⟨x1,x2,x3⟩:=x;obtain⟨y1,y2,y3⟩:=y;show wpAny _ _ (isInstance (.ref b) (.type "tuple")>>=_) _ _ s;refine wpAny_bind (wpAny_isInstance hTb isSubtype_tuple_tuple ?_);refine wpAny_bind (wpAny_tupleItemsOf hoa hda ?_);refine wpAny_bind (wpAny_tupleItemsOf hob hdb ?_);apply wpAny_bind;refine wpAny_forIn_list _
  (fun rest r s'=>r.1=none/\s'=s/\(rest=[(.int x1 t1,.int y1 t2),(.ref b1,.ref b2),(.int x3 u1,.int y3 u2)]\/(rest=[(.ref b1,.ref b2),(.int x3 u1,.int y3 u2)]/\x1=y1)\/(rest=[(.int x3 u1,.int y3 u2)]/\x1=y1/\x2=y2)\/(rest=[]/\x1=y1/\x2=y2/\x3=y3)))
  _ ?_ ?_ _ _ ⟨rfl,rfl,.inl rfl⟩
 rintro⟨p,q⟩ rest r s' ⟨hr,rfl,(e|⟨e,z1⟩|⟨e,z1,z2⟩|⟨e,z1,z2,z3⟩)⟩;cases e;refine wpAny_bind (wpAny_eqBool_int ?_);by_cases hk:x1=y1;rw[show(x1==y1)=true by simp[hk]];simp only;exact wpAny_pure ⟨rfl,rfl,.inr (.inl ⟨trivial,hk⟩)⟩;rw[show(x1==y1)=false by simp[hk]];rw[decide_eq_false (by simp[hk])]at h;exact wpAny_bind (wpAny_pure (wpAny_pure (wpAny_pure h)));cases e;refine wpAny_bind (wpAny_eqBool_tuple hu hia hib ?_);by_cases hk:x2=y2;rw[decide_eq_true (by rw[hk])];simp only;exact wpAny_pure ⟨rfl,rfl,.inr (.inr (.inl ⟨trivial,z1,hk⟩))⟩;rw[decide_eq_false (fun z=>hk (zd4 z))];rw[decide_eq_false (by simp[hk])]at h;exact wpAny_bind (wpAny_pure (wpAny_pure (wpAny_pure h)));cases e;refine wpAny_bind (wpAny_eqBool_int ?_);by_cases hk:x3=y3;rw[show(x3==y3)=true by simp[hk]];simp only;exact wpAny_pure ⟨rfl,rfl,.inr (.inr (.inr ⟨trivial,z1,z2,hk⟩))⟩;rw[show(x3==y3)=false by simp[hk]];rw[decide_eq_false (by simp[hk])]at h;exact wpAny_bind (wpAny_pure (wpAny_pure (wpAny_pure h)));cases e;rintro⟨r1,r2⟩ s' ⟨hr,rfl,(e|⟨e,z1⟩|⟨e,z1,z2⟩|⟨e,z1,z2,z3⟩)⟩;cases e;cases e;cases e;subst hr;apply wpAny_pure;rw[decide_eq_true (by rw[z1,z2,z3])]at h;exact h
theorem zbk(hu:A.units+4<cLine)(hx:IsTri prog w s.heap x a)(hy:IsTri prog w s.heap y b)(h:Q (decide (x=y)) s) :
  wpAny (model prog w) A (eqBool (.ref a) (.ref b)) Q E s:=by
 unfold eqBool
 try with_reducible apply wpAny_holding
 by_cases hab:(Value.ref a==Value.ref b)=true;rw[if_pos hab];have e:a=b:=by have:=eq_of_beq hab;injection this
 subst e;obtain rfl:=hx.inj hy;exact wpAny_bind (wpAny_rule (wpAny_pure (by simpa using h)))
 rw[if_neg hab];exact wpAny_bind (wpAny_richCompare_same_room hx.typeIs hy.typeIs F.slot_tuple_eq
  (wpAny_call_entry F.slot_tuple_eq hx.typeIs F.entry_tuple_eq (zfe (by show A.units+1<cLine;omega) hx hy ⟨_,rfl,(fun e=>nomatch e),wpAny_truthy_bool h⟩) (F.args_tuple_eq_2 _ _)) (by omega))
theorem znB(hk:IsTupleKey (zao prog w) s.heap ks a)(h:Q true s):wpAny (model prog w) A (eqIsQuiet 7 (.ref a)) Q E s:=by have hT:=hk.typeIs;obtain⟨o,items,n,ho,_,hd,hi⟩:=hk;unfold eqIsQuiet;refine wpAny_bind (wpAny_specialOf hT F.slot_tuple_eq.lookup ?_);refine wpAny_bind (wpAny_isInstance hT isSubtype_tuple_tuple ?_);refine wpAny_bind (wpAny_seqItems ho hd ?_);apply wpAny_bind;rw[<-Array.forIn_toList];refine wpAny_forIn_list _ (fun rest r s'=>r.1=none/\s'=s/\∀v∈rest,carriedByValue v=true) _ ?_ ?_ _ _ ⟨rfl,rfl,hi.byValue⟩;rintro v rest r s' ⟨hr,rfl,hall⟩;rw[eqIsQuiet_byValue _ (hall v mem_cons_self)];exact wpAny_pure ⟨rfl,rfl,fun u hu'=>hall u (mem_cons_of_mem _ hu')⟩;rintro⟨r1,r2⟩ s' ⟨hr,rfl,_⟩;subst hr;exact wpAny_pure h
theorem zbP(hk:IsTri prog w s.heap k a)(h:Q true s):wpAny (model prog w) A (eqIsQuiet 8 (.ref a)) Q E s:=by have hT:=hk.typeIs;obtain⟨o,t,u,b,n,ho,_,hd,hi⟩:=hk;unfold eqIsQuiet;refine wpAny_bind (wpAny_specialOf hT F.slot_tuple_eq.lookup ?_);refine wpAny_bind (wpAny_isInstance hT isSubtype_tuple_tuple ?_);refine wpAny_bind (wpAny_seqItems ho hd ?_);apply wpAny_bind;rw[<-Array.forIn_toList];refine wpAny_forIn_list _ (fun rest r s'=>r.1=none/\s'=s/\∀v∈rest,carriedByValue v=true\/v=.ref b) _ ?_ ?_ _ _ ⟨rfl,rfl,fun v hv=>by simp at hv;rcases hv with rfl|rfl|rfl;exact .inl rfl;exact .inr rfl;exact .inl rfl⟩;rintro v rest r s' ⟨hr,rfl,hall⟩;rcases hall v mem_cons_self with hv|rfl;rw[eqIsQuiet_byValue _ hv];exact wpAny_pure ⟨rfl,rfl,fun u hu'=>hall u (mem_cons_of_mem _ hu')⟩;refine wpAny_bind (znB hi ?_);exact wpAny_pure ⟨rfl,rfl,fun u hu'=>hall u (mem_cons_of_mem _ hu')⟩;rintro⟨r1,r2⟩ s' ⟨hr,rfl,_⟩;subst hr;exact wpAny_pure h
end
noncomputable def zk0(prog:Program)(w:World):HeapKind prog w K3 where
 is:=IsTri prog w
 hash:=zaU prog w
 draws:=fun k=>k.2.1.length+4
 room:=fun A=>A.units+4<cLine
 inj:=fun hx hy=>hx.inj hy
 keeps:=fun x ho hd hs=>x.keeps ho hd hs
 pyHash:=fun hu hk h=>zbj hu hk h
 eqBool:=fun hu hx hy h=>zbk hu hx hy h
 quiet:=fun hk h=>zbP hk h
noncomputable abbrev K4:=Int×K3
section
variable{prog:Program}{w:World}{A:Around}{E:Value->Shared->Prop}{s:Shared}
noncomputable def IsQuad(prog:Program)(w:World)(h:Heap)(k:K4)(a:Addr):Prop:=∃o t b n,h.get? a=some o/\o.cls=.type "tuple"/\o.data=.seq #[.int k.1 t,.ref b] n/\IsTri prog w h k.2 b
theorem IsQuad.typeIs{k:K4}{a:Addr}(x:IsQuad prog w s.heap k a):s.TypeIs (.ref a) "tuple":=let ⟨o,_,_,_,ho,hc,_⟩:=x;⟨o,ho,hc⟩
theorem IsQuad.inj{h:Heap}{x y:K4}{a:Addr}(hx:IsQuad prog w h x a)(hy:IsQuad prog w h y a):x=y:=by obtain⟨o,t,b,n,ho,_,hd,hi⟩:=hx;obtain⟨o',t',b',n',ho',_,hd',hi'⟩:=hy;obtain rfl:o=o':=Option.some.inj (ho.symm.trans ho');rw[hd]at hd';injection hd' with h1 _;simp at h1;obtain⟨⟨e1,_⟩,rfl⟩:=h1;exact Prod.ext e1 (hi.inj hi')
theorem IsQuad.keeps{h h':Heap}{k:K4}{a d:Addr}{o:Obj}{es ep}(x:IsQuad prog w h k a)(ho:h.get? d=some o)(hd:o.data=.dict es ep)(hs:Heap.SameBut d h h'):IsQuad prog w h' k a:=by
 obtain⟨o',t,b,n,ho',hc,hd',hi⟩:=x;have hne:a≠d:=by rintro rfl;obtain rfl:o'=o:=Option.some.inj (ho'.symm.trans ho);rw[hd]at hd';exact nomatch hd'
 exact⟨o',t,b,n,(hs.2 a hne).trans ho',hc,hd',hi.keeps ho hd hs⟩
noncomputable def zb2(prog:Program)(w:World)(k:K4):Int:=reduceHash (Builtin.Tuple.tupleHashOf [hashInt k.1,zaU prog w k.2])
theorem zcb{k:K4}{a:Addr}{Q:Int->Shared->Prop}(hu:A.units+6<cLine)(hk:IsQuad prog w s.heap k a)(h:Q (zb2 prog w k) {s with toks:=s.toks+(k.2.2.1.length+6)}) :
  wpAny (model prog w) A (pyHash (.ref a)) Q E s:=by
 have hT:=hk.typeIs;obtain⟨o,t,b,n,ho,_,hd,hi⟩:=hk
 first|refine wpAny_bind (wpAny_cRoomFor_or (.inr (by omega)) ?_)|skip
 refine wpAny_bind (wpAny_specialOf hT F.slot_tuple_hash.lookup ?_);refine wpAny_bind (wpAny_specialOf hT F.slot_tuple_hash.lookup ?_);refine wpAny_bind (wpAny_callSpecialIfBoundUnlessNone?_slot hT F.slot_tuple_hash (wpAny_call_entry F.slot_tuple_hash hT F.entry_tuple_hash ?_ (F.args_tuple_hash_1 _)));show wpAny _ _ (Builtin.Tuple.tupleItemsOf (.ref a)>>=_) _ _ s;refine wpAny_bind (wpAny_tupleItemsOf ho hd ?_);apply wpAny_bind;rw[<-Array.forIn_toList];refine wpAny_forIn_list _
  (fun rest (g:Array Int) s'=>(rest=[.int k.1 t,.ref b]/\g.toList=[]/\s'=s)\/(rest=[.ref b]/\g.toList=[hashInt k.1]/\s'={s with toks:=s.toks+1})
   \/(rest=[]/\g.toList=[hashInt k.1,zaU prog w k.2]/\s'={s with toks:=s.toks+(k.2.2.1.length+5)}))
  _ ?_ ?_ _ _ (.inl ⟨rfl,rfl,rfl⟩)
 rintro x rest g s' (⟨e,hg,rfl⟩|⟨e,hg,rfl⟩|⟨e,hg,rfl⟩);cases e;refine wpAny_bind (wpAny_pyHash_int ?_);exact wpAny_pure (.inr (.inl ⟨rfl,by simp[hg],rfl⟩));cases e;refine wpAny_bind (zbj ?_ hi ?_);show A.units+1+4<cLine;omega;exact wpAny_pure (.inr (.inr ⟨rfl,by simp[hg],by simp[Nat.add_assoc];omega⟩));cases e;rintro g s' (⟨e,hg,rfl⟩|⟨e,hg,rfl⟩|⟨e,hg,rfl⟩);cases e;cases e;show wpAny _ _ (retInt (Builtin.Tuple.tupleHashOf g.toList)) _ _ _;rw[hg];apply wpAny_ret_mkInt;show wpAny _ _ (if(decide (-(2:Int)^63<=Builtin.Tuple.tupleHashOf [hashInt k.1,zaU prog w k.2])&&decide (Builtin.Tuple.tupleHashOf [hashInt k.1,zaU prog w k.2]<2^63))=true then _ else _) Q E _;unfold zb2 reduceHash at h;by_cases hr:(decide (-(2:Int)^63<=Builtin.Tuple.tupleHashOf [hashInt k.1,zaU prog w k.2])&&decide (Builtin.Tuple.tupleHashOf [hashInt k.1,zaU prog w k.2]<2^63))=true;rw[if_pos hr];rw[if_pos hr]at h;exact wpAny_pure (by simpa[Nat.add_assoc]using h);rw[if_neg hr];rw[if_neg hr]at h;exact wpAny_bind (wpAny_rule (wpAny_pure (by simpa[Nat.add_assoc]using h)))
theorem zex{x y:K4}{a b:Addr}{P:Fin->Shared->Prop}(hu:A.units+4<cLine)(hx:IsQuad prog w s.heap x a)(hy:IsQuad prog w s.heap y b)(h:P (.done (.ret (.bool (decide (x=y))))) s) :
  wpAny (model prog w) A (Builtin.«tuple.__eq__» ⟨[.ref a,.ref b],[]⟩) P E s:=by
 have hTb:=hy.typeIs;obtain⟨oa,t1,b1,na,hoa,_,hda,hia⟩:=hx;obtain⟨ob,t2,b2,nb,hob,_,hdb,hib⟩:=hy;obtain⟨x1,x2⟩:=x;obtain⟨y1,y2⟩:=y;show wpAny _ _ (isInstance (.ref b) (.type "tuple")>>=_) _ _ s;refine wpAny_bind (wpAny_isInstance hTb isSubtype_tuple_tuple ?_);refine wpAny_bind (wpAny_tupleItemsOf hoa hda ?_);refine wpAny_bind (wpAny_tupleItemsOf hob hdb ?_);apply wpAny_bind;refine wpAny_forIn_list _
  (fun rest r s'=>r.1=none/\s'=s/\(rest=[(.int x1 t1,.int y1 t2),(.ref b1,.ref b2)]\/(rest=[(.ref b1,.ref b2)]/\x1=y1)\/(rest=[]/\x1=y1/\x2=y2)))
  _ ?_ ?_ _ _ ⟨rfl,rfl,.inl rfl⟩
 rintro⟨p,q⟩ rest r s' ⟨hr,rfl,(e|⟨e,z1⟩|⟨e,z1,z2⟩)⟩;cases e;refine wpAny_bind (wpAny_eqBool_int ?_);by_cases hk:x1=y1;rw[show(x1==y1)=true by simp[hk]];simp only;exact wpAny_pure ⟨rfl,rfl,.inr (.inl ⟨trivial,hk⟩)⟩;rw[show(x1==y1)=false by simp[hk]];rw[decide_eq_false (by simp[hk])]at h;exact wpAny_bind (wpAny_pure (wpAny_pure (wpAny_pure h)));cases e;refine wpAny_bind (zbk hu hia hib ?_);by_cases hk:x2=y2;rw[decide_eq_true hk];simp only;exact wpAny_pure ⟨rfl,rfl,.inr (.inr ⟨trivial,z1,hk⟩)⟩;rw[decide_eq_false hk];rw[decide_eq_false (by simp[hk])]at h;exact wpAny_bind (wpAny_pure (wpAny_pure (wpAny_pure h)));cases e;rintro⟨r1,r2⟩ s' ⟨hr,rfl,(e|⟨e,z1⟩|⟨e,z1,z2⟩)⟩;cases e;cases e;simp only at hr;subst hr;refine wpAny_pure ?_;rw[decide_eq_true (by rw[z1,z2])]at h;exact h
theorem zcc{x y:K4}{a b:Addr}{Q:Bool->Shared->Prop}(hu:A.units+6<cLine)(hx:IsQuad prog w s.heap x a)(hy:IsQuad prog w s.heap y b)(h:Q (decide (x=y)) s) :
  wpAny (model prog w) A (eqBool (.ref a) (.ref b)) Q E s:=by
 unfold eqBool
 try with_reducible refine wpAny_holding ?_
 show wpAny _ _ (if(Value.ref a==Value.ref b)=true then _ else _) Q E s;by_cases hab:(Value.ref a==Value.ref b)=true;rw[if_pos hab];have e:a=b:=by have:=eq_of_beq hab;injection this
 subst e;obtain rfl:=hx.inj hy;exact wpAny_bind (wpAny_rule (wpAny_pure (by simpa using h)))
 rw[if_neg hab];exact wpAny_bind (wpAny_richCompare_same_room (op:=.Eq) hx.typeIs hy.typeIs F.slot_tuple_eq
  (wpAny_call_entry F.slot_tuple_eq hx.typeIs F.entry_tuple_eq (zex (by show A.units+1+4<cLine;omega) hx hy ⟨_,rfl,(fun e=>nomatch e),wpAny_truthy_bool h⟩) (F.args_tuple_eq_2 _ _)) (by omega))
theorem znC{ks:List Key}{a:Addr}{Q:Bool->Shared->Prop}(hk:IsTupleKey (zao prog w) s.heap ks a)(h:Q true s):wpAny (model prog w) A (eqIsQuiet 6 (.ref a)) Q E s:=by have hT:=hk.typeIs;obtain⟨o,items,n,ho,_,hd,hi⟩:=hk;unfold eqIsQuiet;refine wpAny_bind (wpAny_specialOf hT F.slot_tuple_eq.lookup ?_);show wpAny _ _ (isInstance (.ref a) (.type "tuple")>>=_) _ _ s;refine wpAny_bind (wpAny_isInstance hT isSubtype_tuple_tuple ?_);simp only[Bool.not_true,Bool.false_eq_true,if_false];refine wpAny_bind (wpAny_seqItems ho hd ?_);refine wpAny_bind ?_;show wpAny _ _ (forIn items _ _) _ _ s;rw[<-Array.forIn_toList];refine wpAny_forIn_list _ (fun rest r s'=>r.1=none/\s'=s/\∀v∈rest,carriedByValue v=true) _ ?_ ?_ _ _ ⟨rfl,rfl,hi.byValue⟩;rintro v rest r s' ⟨hr,rfl,hall⟩;rw[eqIsQuiet_byValue _ (hall v mem_cons_self)];refine wpAny_bind (wpAny_pure ?_);simp only[Bool.not_true,Bool.false_eq_true,if_false];exact wpAny_pure ⟨rfl,rfl,fun u hu'=>hall u (mem_cons_of_mem _ hu')⟩;rintro⟨r1,r2⟩ s' ⟨hr,rfl,_⟩;simp only at hr;subst hr;exact wpAny_pure h
theorem zgF{k:K3}{a:Addr}{Q:Bool->Shared->Prop}(hk:IsTri prog w s.heap k a)(h:Q true s):wpAny (model prog w) A (eqIsQuiet 7 (.ref a)) Q E s:=by have hT:=hk.typeIs;obtain⟨o,t,u,b,n,ho,_,hd,hi⟩:=hk;unfold eqIsQuiet;refine wpAny_bind (wpAny_specialOf hT F.slot_tuple_eq.lookup ?_);show wpAny _ _ (isInstance (.ref a) (.type "tuple")>>=_) _ _ s;refine wpAny_bind (wpAny_isInstance hT isSubtype_tuple_tuple ?_);simp only[Bool.not_true,Bool.false_eq_true,if_false];refine wpAny_bind (wpAny_seqItems ho hd ?_);refine wpAny_bind ?_;show wpAny _ _ (forIn #[Value.int k.1 t,.ref b,.int k.2.2 u] _ _) _ _ s;rw[<-Array.forIn_toList];refine wpAny_forIn_list _ (fun rest r s'=>r.1=none/\s'=s/\∀v∈rest,carriedByValue v=true\/v=.ref b) _ ?_ ?_ _ _ ⟨rfl,rfl,fun v hv=>by simp at hv;rcases hv with rfl|rfl|rfl;exact .inl rfl;exact .inr rfl;exact .inl rfl⟩;rintro v rest r s' ⟨hr,rfl,hall⟩;rcases hall v mem_cons_self with hv|rfl;rw[eqIsQuiet_byValue _ hv];exact wpAny_pure ⟨rfl,rfl,fun u hu'=>hall u (mem_cons_of_mem _ hu')⟩;refine wpAny_bind (znC hi ?_);exact wpAny_pure ⟨rfl,rfl,fun u hu'=>hall u (mem_cons_of_mem _ hu')⟩;rintro⟨r1,r2⟩ s' ⟨hr,rfl,_⟩;subst hr;exact wpAny_pure h
theorem zbH{k:K4}{a:Addr}{Q:Bool->Shared->Prop}(hk:IsQuad prog w s.heap k a)(h:Q true s):wpAny (model prog w) A (eqIsQuiet 8 (.ref a)) Q E s:=by have hT:=hk.typeIs;obtain⟨o,t,b,n,ho,_,hd,hi⟩:=hk;unfold eqIsQuiet;refine wpAny_bind (wpAny_specialOf hT F.slot_tuple_eq.lookup ?_);show wpAny _ _ (isInstance (.ref a) (.type "tuple")>>=_) _ _ s;refine wpAny_bind (wpAny_isInstance hT isSubtype_tuple_tuple ?_);simp only[Bool.not_true,Bool.false_eq_true,if_false];refine wpAny_bind (wpAny_seqItems ho hd ?_);refine wpAny_bind ?_;show wpAny _ _ (forIn #[Value.int k.1 t,.ref b] _ _) _ _ s;rw[<-Array.forIn_toList];refine wpAny_forIn_list _ (fun rest r s'=>r.1=none/\s'=s/\∀v∈rest,carriedByValue v=true\/v=.ref b) _ ?_ ?_ _ _ ⟨rfl,rfl,fun v hv=>by simp at hv;rcases hv with rfl|rfl;exact .inl rfl;exact .inr rfl⟩;rintro v rest r s' ⟨hr,rfl,hall⟩;rcases hall v mem_cons_self with hv|rfl;rw[eqIsQuiet_byValue _ hv];exact wpAny_pure ⟨rfl,rfl,fun u hu'=>hall u (mem_cons_of_mem _ hu')⟩;refine wpAny_bind (zgF hi ?_);exact wpAny_pure ⟨rfl,rfl,fun u hu'=>hall u (mem_cons_of_mem _ hu')⟩;rintro⟨r1,r2⟩ s' ⟨hr,rfl,_⟩;subst hr;exact wpAny_pure h
end
noncomputable def zjq(prog:Program)(w:World):HeapKind prog w K4 where
 is:=IsQuad prog w
 hash:=zb2 prog w
 draws:=fun k=>k.2.2.1.length+6
 room:=fun A=>A.units+6<cLine
 inj:=fun hx hy=>hx.inj hy
 keeps:=fun x ho hd hs=>x.keeps ho hd hs
 pyHash:=fun hu hk h=>zcb hu hk h
 eqBool:=fun hu hx hy h=>zcc hu hx hy h
 quiet:=fun hk h=>zbH hk h
structure DK(κ:Type)[DecidableEq κ] where
 kind:∀(P:Program)(w:World),HeapKind P w κ
 hash:κ->Int
 heq:∀P w k,(kind P w).hash k=hash k
 room:∀{P:Program}{w:World}{A:Around},A.units+7<cLine->(kind P w).room A.in1
 Key:Hp->κ->Addr->Prop
 up:∀{H H':Hp}{k:κ}{c:Addr},Key H k c->(∀b xs,H b=some (.tup xs)->H' b=some (.tup xs))->Key H' k c
 of:∀{P:Program}{w:World}{H:Hp}{h:Heap}{k:κ}{c:Addr},HOk P w H h->Key H k c->(kind P w).is h k c
def Key3(H:Hp)(k:K3)(c:Addr):Prop:=∃b,H c=some (.tup [.int k.1,.ref b,.int k.2.2])/\H b=some (.tup (k.2.1.map V.int))
noncomputable def Key4(H:Hp)(k:K4)(c:Addr):Prop:=∃b,H c=some (.tup [.int k.1,.ref b])/\Key3 H k.2 b
theorem Key3.up{H H':Hp}{k:K3}{c:Addr}(h:Key3 H k c)(ht:∀b xs,H b=some (.tup xs)->H' b=some (.tup xs)):Key3 H' k c:=let ⟨b,h1,h2⟩:=h;⟨b,ht _ _ h1,ht _ _ h2⟩
theorem zd1{P:Program}{w:World}{H:Hp}{h:Heap}{k:K3}{c:Addr}(ok:HOk P w H h)(e:Key3 H k c):IsTri P w h k c:=by obtain⟨b,e1,e2⟩:=e;obtain⟨_,its,rv,o,ho,hc,n,hd⟩:=(ok c _ e1);cases rv with| @cons _ v1 _ r1 q1 rv=>cases rv with| @cons _ v2 _ r2 q2 rv=>cases rv with| @cons _ v3 _ r3 q3 rv=>cases rv;obtain⟨t,rfl⟩:=q1;cases q2;obtain⟨u,rfl⟩:=q3;refine⟨o,t,u,b,n,ho,hc,hd,?_⟩;have:=zeL (ks:=k.2.1.map Sum.inl) ok (by rw[map_map];exact e2);exact this
theorem zjX{P:Program}{w:World}{H:Hp}{h:Heap}{k:K4}{c:Addr}(ok:HOk P w H h)(e:Key4 H k c):IsQuad P w h k c:=by obtain⟨b,e1,e2⟩:=e;obtain⟨_,its,rv,o,ho,hc,n,hd⟩:=(ok c _ e1);cases rv with| @cons _ v1 _ r1 q1 rv=>cases rv with| @cons _ v2 _ r2 q2 rv=>cases rv;obtain⟨t,rfl⟩:=q1;cases q2;exact⟨o,t,b,n,ho,hc,hd,zd1 ok e2⟩
noncomputable def zj6(k:K3):Int:=reduceHash (Builtin.Tuple.tupleHashOf [hashInt k.1,reduceHash (Builtin.Tuple.tupleHashOf (k.2.1.map hashInt)),hashInt k.2.2])
theorem zge(P:Program)(w:World)(k:K3):zaU P w k=zj6 k:=by unfold zaU zj6 tupleKeyHash;rw[map_map];rfl
noncomputable def dk3:DK K3:=⟨zk0,zj6,zge,fun {_ _ A} h=>(show A.units+1+4<cLine by omega),Key3,Key3.up,zd1⟩
noncomputable def dk4:DK K4:=⟨zjq,fun k=>reduceHash (Builtin.Tuple.tupleHashOf [hashInt k.1,zj6 k.2]),fun P w k=>by show zb2 P w k=_;unfold zb2;rw[zge],fun {_ _ A} h=>(show A.units+1+6<cLine by omega),Key4,fun⟨b,h1,h2⟩ ht=>⟨b,ht _ _ h1,h2.up ht⟩,zjX⟩
section
variable{κ:Type}[DecidableEq κ]{d:DK κ}
def P3(p:κ×Addr×V)(q:κ×Addr×Value):Prop:=p.1=q.1/\p.2.1=q.2.1/\RelV p.2.2 q.2.2
noncomputable def ent3(d:DK κ)(x:κ×Addr×Value):DictEntry:=⟨d.hash x.1,.ref x.2.1,x.2.2⟩
theorem ziA(P:Program)(w:World)(x:κ×Addr×Value):entryOfKey (d.kind P w) x=ent3 d x:=by unfold entryOfKey ent3;rw[d.heq]
def TriO(d:DK κ)(a:Addr)(kxs:List (κ×Addr×V))(h:Heap):Prop:=kxs.length<=sizeLine/\(a==sysModules)=false/\∃xs,Paired P3 kxs xs/\∃o es ep,h.get? a=some o/\o.ExactDict/\o.data=.dict es ep/\es.toList=xs.map (ent3 d)/\(xs.map (·.1)).Nodup
def TriK(d:DK κ)(H:Hp)(kxs:List (κ×Addr×V)):Prop:=∀x∈kxs,d.Key H x.1 x.2.1
theorem TriO.stay{a:Addr}{kxs:List (κ×Addr×V)}{h h':Heap}(x:TriO d a kxs h)(k:∀o,h.get? a=some o->h'.get? a=some o):TriO d a kxs h':=by obtain⟨z,y,xs,r,o,es,ep,e,c⟩:=x;exact⟨z,y,xs,r,o,es,ep,k _ e,c⟩
theorem TriO.objOk{P:Program}{w:World}{H:Hp}{h:Heap}{a:Addr}{kxs:List (κ×Addr×V)}(x:TriO d a kxs h):ObjOk P w H h a (.ext (TriO d a kxs)):=by refine⟨x,?_,fun h1 h2 p k=>p.stay k⟩;obtain⟨_,_,_,_,o,_,_,e,_⟩:=x;exact⟨o,e⟩
theorem zhK:∀{kxs:List (κ×Addr×V)}{xs:List (κ×Addr×Value)},Paired P3 kxs xs->xs.length=kxs.length
 |_,_,.nil=>rfl|_,_,.cons _ t=>by simp[zhK t]
theorem zdS:∀{kxs:List (κ×Addr×V)}{xs:List (κ×Addr×Value)},Paired P3 kxs xs->xs.map (·.1)=kxs.map (·.1)
 |_,_,.nil=>rfl|_,_,.cons h t=>by rw[map_cons,map_cons,zdS t,h.1]
section
variable{P:Program}{w:World}{H:Hp}{h:Heap}{a c:Addr}{kxs:List (κ×Addr×V)}
theorem zdd(ok:HOk P w H h)(e:H a=some (.ext (TriO d a kxs)))(tk:TriK d H kxs):kxs.length<=sizeLine/\(a==sysModules)=false/\∃xs,Paired P3 kxs xs/\h.DictOfH (d.kind P w) a xs:=by
 obtain⟨⟨z,y,xs,r,o,es,ep,ho,hx,hd,he,nd⟩,_,_⟩:=(ok a _ e);refine⟨z,y,xs,r,o,es,ep,ho,hx,hd,?_,?_,nd⟩;rw[he];exact List.map_congr_left fun x _=>(ziA P w x).symm;have all:∀{l:List (κ×Addr×V)}{m:List (κ×Addr×Value)},Paired P3 l m->TriK d H l->∀x∈m,(d.kind P w).is h x.1 x.2.1:=by
  intro l m q;induction q with
  |nil=>intro _ x hx;exact nomatch hx
  | @cons p q ps qs hq t ih=>intro tk x hx;rcases mem_cons.mp hx with e|hx;subst e;rw[<-hq.1,<-hq.2.1];exact d.of ok (tk p mem_cons_self);exact ih (fun y hy=>tk y (mem_cons_of_mem _ hy)) x hx
 exact all r tk
end
noncomputable def put3(kxs:List (κ×Addr×V))(k:κ)(c:Addr)(v:V):List (κ×Addr×V):=if k∈kxs.map (·.1) then kxs.map (fun x=>if x.1=k then(x.1,x.2.1,v) else x) else kxs++[(k,c,v)]
theorem zbx{xs:List (κ×Addr×Value)}{k:κ}:(atKey xs k).isSome=decide (k∈xs.map (·.1)):=by unfold atKey;rw[Option.isSome_map];apply Bool.eq_iff_iff.mpr;rw[List.find?_isSome,decide_eq_true_eq,mem_map];constructor;rintro⟨x,hx,e⟩;exact⟨x,hx,by simpa using e⟩;rintro⟨x,hx,e⟩;exact⟨x,hx,by simpa using e⟩
theorem znZ{v:V}{r:Value}{k:κ}{c:Addr}{kxs:List (κ×Addr×V)}{xs:List (κ×Addr×Value)}(rv:RelV v r)(h:Paired P3 kxs xs):Paired P3 (put3 kxs k c v) (storedH xs k c r):=by
 unfold put3 storedH;rw[zbx,zdS h];by_cases hk:k∈kxs.map (·.1);rw[if_pos hk,if_pos (by simpa using hk)];clear hk;induction h with|nil=>exact .nil| @cons p q ps qs hq t ih=>rw[map_cons,map_cons];refine .cons ?_ ih;unfold putAt;by_cases e:p.1=k;rw[if_pos e,if_pos (by rw[<-hq.1];exact e)];exact⟨hq.1,hq.2.1,rv⟩;rw[if_neg e,if_neg (by rw[<-hq.1];exact e)];exact hq
 rw[if_neg hk,if_neg (by simpa using hk)];clear hk;induction h with|nil=>exact .cons ⟨rfl,rfl,rv⟩ .nil|cons hq t ih=>exact .cons hq ih
theorem zju(kxs:List (κ×Addr×V))(k:κ)(c:Addr)(v:V):(put3 kxs k c v).length<=kxs.length+1:=by unfold put3;split;rw[length_map];omega;simp
noncomputable def val3(kxs:List (κ×Addr×V))(k:κ):Option V:=(kxs.find? fun x=>decide (x.1=k)).map (·.2.2)
theorem zkA{k:κ}{v:V}:∀{kxs:List (κ×Addr×V)}{xs:List (κ×Addr×Value)},Paired P3 kxs xs->val3 kxs k=some v->∃p,atKey xs k=some p/\RelV v p.2
 |_,_,.nil,e=>by cases e| _,_,@Paired.cons _ _ _ p q ps qs h t,e=>by unfold val3 at e;unfold atKey;by_cases c:p.1=k;rw[List.find?_cons_of_pos (by simpa using c)]at e;rw[List.find?_cons_of_pos (by rw[<-h.1];simpa using c)];cases e;exact⟨_,rfl,h.2.2⟩;rw[List.find?_cons_of_neg (by simpa using c)]at e;rw[List.find?_cons_of_neg (by rw[<-h.1];simpa using c)];exact zkA t e
section
variable{X:Cx}{pins:List (Addr×Obj)}{σ:L2.St}{H:Hp}{s:Shared}{a c:Addr}{kxs:List (κ×Addr×V)}{k:κ}{v:V}{r:Value}{A:Around}{E:Value->Shared->Prop}
theorem zgX{Q:Unit->Shared->Prop}(hu:A.units+7<cLine)(I:Inv X pins σ H s)(e:H a=some (.ext (TriO d a kxs)))(tk:TriK d H kxs)(ek:d.Key H k c)(hl:kxs.length<sizeLine)(rv:RelV v r)
  (h:∀s',Inv X pins σ (upd H a (.ext (TriO d a (put3 kxs k c v)))) s'->Q () s'):wpAny (model X.prog X.w) A (setItem (.ref a) (.ref c) r) Q E s:=by
 obtain⟨z,hd,xs,rel,dd⟩:=zdd I.hok e tk;have hz:xs.length<=sizeLine:=by rw[zhK rel];exact z
 have hl':=zju kxs k c v;refine wpAny_setItem_heap (hsz:=hz) (d.room hu) (d.of I.hok ek) dd fun h' dd' hs=>h _ ?_;obtain⟨q,es,ep,hq,h2,h3,h4,_,h5⟩:=dd';refine zd9 I (by rw[e];exact True.intro) hs ⟨q,hq⟩ (TriO.objOk ⟨by omega,hd,_,znZ rv rel,q,es,ep,hq,h2,h3,?_,h5⟩);rw[h4];exact List.map_congr_left fun x _=>ziA _ _ x
theorem zpZ{Q:Value->Shared->Prop}(hu:A.units+7<cLine)(I:Inv X pins σ H s)(e:H a=some (.ext (TriO d a kxs)))(tk:TriK d H kxs)(ek:d.Key H k c)(h:∀s',Inv X pins σ H s'->Q (.bool (decide (k∈kxs.map (·.1)))) s') :
  wpAny (model X.prog X.w) A (compareOp .In (.ref c) (.ref a)) Q E s:=by
 obtain⟨z,hd,xs,rel,dd⟩:=zdd I.hok e tk;apply wpAny_in_heap (d.room hu) (d.of I.hok ek) hd dd;rw[zbx,zdS rel];exact h _ (I.kept fun b o e=>e)
theorem zkd{Q:Value->Shared->Prop}(hu:A.units+7<cLine)(I:Inv X pins σ H s)(e:H a=some (.ext (TriO d a kxs)))(tk:TriK d H kxs)(ek:d.Key H k c)(h:∀s',Inv X pins σ H s'->Q (.bool (!decide (k∈kxs.map (·.1)))) s') :
  wpAny (model X.prog X.w) A (compareOp .NotIn (.ref c) (.ref a)) Q E s:=by
 obtain⟨z,hd,xs,rel,dd⟩:=zdd I.hok e tk;apply wpAny_notIn_heap (d.room hu) (d.of I.hok ek) hd dd;rw[zbx,zdS rel];exact h _ (I.kept fun b o e=>e)
theorem zgY{Q:Value->Shared->Prop}(hu:A.units+7<cLine)(I:Inv X pins σ H s)(e:H a=some (.ext (TriO d a kxs)))(tk:TriK d H kxs)(ek:d.Key H k c)(hv:val3 kxs k=some v)(h:∀w' s',Inv X pins σ H s'->RelV v w'->Q w' s') :
  wpAny (model X.prog X.w) A (getItem (.ref a) (.ref c)) Q E s:=by
 obtain⟨z,hd,xs,rel,dd⟩:=zdd I.hok e tk;obtain⟨p,hp,rp⟩:=zkA rel hv;exact wpAny_getItem_heap (d.room hu) (d.of I.hok ek) dd hp (h _ _ (I.tok _) rp)
theorem zfW(d:DK κ){pos:Pos}:PE X (.Dict [] [] pos) (fun _ H Q=>∀p,H p=none->Q (.ref p) (upd H p (.ext (TriO d p [])))):=fun pins s σ H Q I h=>
 wpAny_Dict_empty ⟨.ref s.heap.objs.size,_,I.laid (a:=s.heap.objs.size) (o:=.ext (TriO d s.heap.objs.size [])) (t':=s.toks) (fun _ _ q=>Heap.get?_push_of_some _ q) (le_refl _)
  (TriO.objOk ⟨zero_le _,beq_eq_false_iff_ne.mpr (Ne.symm (ne_of_lt I.big)),[],.nil,_,#[],0,Heap.get?_push_size _ rfl,⟨rfl,rfl,rfl⟩,rfl,rfl,List.nodup_nil⟩),rfl,h _ (I.hok.fresh (le_refl _))⟩
end
end
end R
namespace R
open PySem PySem.W PyProof.Rows
section
variable{n:Nat}{r:Nat->Int}{cmp:Nat->Nat->(Bool->Shared->Prop)->Shared->Prop}{s:Shared}
abbrev GP(n:Nat)(p:Array Nat):Prop:=p.Perm (List.range n).toArray
noncomputable def kAt(r:Nat->Int)(p:Array Nat)(i:Nat):Int:=r (p.getD i 0)
def AscTo(r:Nat->Int)(p:Array Nat)(k:Nat):Prop:=∀i j,i<j->j<k->kAt r p i<kAt r p j
def DescTo(r:Nat->Int)(p:Array Nat)(k:Nat):Prop:=∀i j,i<j->j<k->kAt r p j<kAt r p i
theorem GP.size{p:Array Nat}(h:GP n p):p.size=n:=by have:=h.size_eq;simpa using this
theorem GP.list{p:Array Nat}(h:GP n p):p.toList.Perm (List.range n):=by have:=Array.perm_iff_toList_perm.mp h;simpa using this
theorem zaZ(p:Array Nat){i:Nat}(hi:i<p.size):p.getD i 0=p.toList[i]'(by simpa using hi):=by simp[Array.getD,hi]
theorem GP.lt{p:Array Nat}(h:GP n p){i:Nat}(hi:i<n):p.getD i 0<n:=by have hs:=h.size;rw[zaZ p (by omega)];exact mem_range.mp (h.list.mem_iff.mp (List.getElem_mem _))
theorem GP.inj{p:Array Nat}(h:GP n p)(hr:∀i j,i<n->j<n->r i=r j->i=j){i j:Nat}(hi:i<n)(hj:j<n)(e:kAt r p i=kAt r p j):i=j:=by have e':=hr _ _ (h.lt hi) (h.lt hj) e;have hs:=h.size;rw[zaZ p (by omega),zaZ p (by omega)]at e';have nd:p.toList.Nodup:=h.list.nodup_iff.mpr List.nodup_range;have pw:=List.pairwise_iff_getElem.mp nd;rcases Nat.lt_trichotomy i j with z|z|z;exact absurd e' (pw i j _ _ z);exact z;exact absurd e'.symm (pw j i _ _ z)
theorem GP.tri{p:Array Nat}(h:GP n p)(hr:∀i j,i<n->j<n->r i=r j->i=j){i j:Nat}(hi:i<n)(hj:j<n)(ne:i≠j)(c:¬kAt r p i<kAt r p j):kAt r p j<kAt r p i:=by have:kAt r p i≠kAt r p j:=fun e=>ne (h.inj hr hi hj e);omega
theorem AscTo.snoc{p:Array Nat}{k:Nat}(h:AscTo r p k)(h1:1<=k)(c:kAt r p (k-1)<kAt r p k):AscTo r p (k+1):=by
 intro i j hij hj;by_cases e:j<k;exact h i j hij e;have:j=k:=by omega
 subst this;by_cases e':i=j-1;subst e';exact c;have:=h i (j-1) (by omega) (by omega);omega
theorem DescTo.snoc{p:Array Nat}{k:Nat}(h:DescTo r p k)(h1:1<=k)(c:kAt r p k<kAt r p (k-1)):DescTo r p (k+1):=by
 intro i j hij hj;by_cases e:j<k;exact h i j hij e;have:j=k:=by omega
 subst this;by_cases e':i=j-1;subst e';exact c;have:=h i (j-1) (by omega) (by omega);omega
variable(hr:∀i j,i<n->j<n->r i=r j->i=j)(hc:∀i j (C:Bool->Shared->Prop),i<n->j<n->C (decide (r i<r j)) s->cmp i j C s)
include hr hc
theorem ziS{p:Array Nat}(g:GP n p){Q:Nat->Shared->Prop}:∀(f a:Nat),1<=a->a+f<=n->AscTo r p a->
  (∀m,a<=m->m<=a+f->AscTo r p m->(m=a+f\/kAt r p m<kAt r p (m-1))->Q m s)->(kas_asc p f a).kasWp cmp Q s
 |0,a,_,_,h,q=>q a (le_refl _) (le_refl _) h (.inl rfl)| f+1,a,h1,h2,h,q=>by refine hc _ _ _ (g.lt (by omega)) (g.lt (by omega)) ?_;by_cases c:kAt r p a<kAt r p (a-1);have e:decide (r (p.getD a 0)<r (p.getD (a-1) 0))=true:=decide_eq_true c;show(if decide (r (p.getD a 0)<r (p.getD (a-1) 0))=true then KasT.ret a else kas_asc p f (a+1)).kasWp cmp Q s;rw[if_pos e];exact q a (le_refl _) (by omega) h (.inr c);have e:¬decide (r (p.getD a 0)<r (p.getD (a-1) 0))=true:=fun z=>c (of_decide_eq_true z);show(if decide (r (p.getD a 0)<r (p.getD (a-1) 0))=true then KasT.ret a else kas_asc p f (a+1)).kasWp cmp Q s;rw[if_neg e];refine ziS g f (a+1) (by omega) (by omega) (h.snoc h1 (g.tri hr (by omega) (by omega) (by omega) c)) fun m m1 m2 m3 m4=>q m (by omega) (by omega) m3 ?_;rcases m4 with z|z;exact .inl (by omega);exact .inr z
theorem ziD{p:Array Nat}(g:GP n p){Q:Array Nat×Nat×Nat->Shared->Prop}:∀(f a:Nat),1<=a->a+f<=n->DescTo r p a->
  (∀m,a<=m->m<=a+f->DescTo r p m->Q (p,m,0) s)->(kas_desc f p a 0).kasWp cmp Q s
 |0,a,_,_,h,q=>q a (le_refl _) (le_refl _) h| f+1,a,h1,h2,h,q=>by refine hc _ _ _ (g.lt (by omega)) (g.lt (by omega)) ?_;by_cases c:kAt r p a<kAt r p (a-1);have e:decide (r (p.getD a 0)<r (p.getD (a-1) 0))=true:=decide_eq_true c;rw[e];show(kas_desc f p (a+1) 0).kasWp cmp Q s;exact ziD g f (a+1) (by omega) (by omega) (h.snoc h1 c) fun m m1 m2 m3=>q m (by omega) (by omega) m3;have e:decide (r (p.getD a 0)<r (p.getD (a-1) 0))=false:=decide_eq_false c;rw[e];refine hc _ _ _ (g.lt (by omega)) (g.lt (by omega)) ?_;have c':=g.tri hr (by omega) (by omega) (by omega) c;have e':decide (r (p.getD (a-1) 0)<r (p.getD a 0))=true:=decide_eq_true c';rw[e'];exact q a (le_refl _) (by omega) h
omit hr hc in
theorem GP.rev{p:Array Nat}(g:GP n p)(i j:Nat):GP n (kas_rev p i j):=(mirror_perm _ _ _ _).trans g
omit hr hc in
theorem zh4{p:Array Nat}(g:GP n p){m i:Nat}(hm:m<=n)(hi:i<m):kAt r (kas_rev p 0 m) i=kAt r p (m-1-i):=by
 have hs:=g.size;have e:=getElem?_mirror_all (xs:=p) (i:=0) (j:=m) (by omega) i;unfold kAt kas_rev;congr 1;have a1:(mirror p 0 m ((m-0)/2)).getD i 0=((mirror p 0 m ((m-0)/2))[i]?).getD 0:=by simp[Array.getD_eq_getD_getElem?]
 have a2:p.getD (m-1-i) 0=(p[m-1-i]?).getD 0:=by simp[Array.getD_eq_getD_getElem?]
 rw[a1,a2];congr 1;rw[e];have h1:0<=i/\i<m:=⟨zero_le _,hi⟩;simp[h1,hi]
 try (congr 1;omega)
omit hr hc in
theorem DescTo.rev{p:Array Nat}{m:Nat}(g:GP n p)(hm:m<=n)(h:DescTo r p m):AscTo r (kas_rev p 0 m) m:=by intro i j hij hj;rw[zh4 g hm (by omega),zh4 g hm hj];exact h _ _ (by omega) (by omega)
theorem zke{p:Array Nat}(g:GP n p)(h1:1<=n){Q:Nat×Array Nat->Shared->Prop}(q:∀m p',1<=m->m<=n->GP n p'->AscTo r p' m->Q (m,p') s):(kas_count n p).kasWp cmp Q s:=by
 unfold kas_count;rw[KasT.kasWp_bind];refine ziS hr hc g (n-1) 1 (le_refl _) (by omega) (fun i j _ _=>by omega) fun m m1 m2 m3 m4=>?_;by_cases e:m=n;subst e;simp only[beq_self_eq_true,if_true];exact q m p m1 (le_refl _) g m3;rw[if_neg (by simpa using e)];have c:=m4.resolve_left (by omega);by_cases e1:m>1;have:=m3 (m-1-1) (m-1) (by omega) (by omega);rw[if_pos e1];refine hc _ _ _ (g.lt (by omega)) (g.lt (by omega)) ?_;have c1:kAt r p 0<kAt r p (m-1):=m3 0 (m-1) (by omega) (by omega);have e2:decide (r (p.getD 0 0)<r (p.getD (m-1) 0))=true:=decide_eq_true c1;rw[e2];exact q m p m1 (by omega) g m3;rw[if_neg e1];have e2:m=1:=by omega
 subst e2;unfold kas_descPart;rw[KasT.kasWp_bind];have d2:DescTo r p (1+1):=by
  intro i j hij hj;have:i=0/\j=1:=by omega
  obtain⟨rfl,rfl⟩:=this;exact c
 refine ziD hr hc g (n-(1+1)) (1+1) (by omega) (by omega) d2 fun k k1 k2 k3=>?_;show(kas_tail3 k n p).kasWp cmp Q s;unfold kas_tail3;rw[KasT.kasWp_bind];refine ziS hr hc (g.rev 0 k) (n-k) k (by omega) (by omega) (k3.rev g (by omega)) fun j j1 j2 j3 _=>?_;exact q j _ (by omega) (by omega) (g.rev 0 k) j3
theorem zdR{p:Array Nat}(g:GP n p){k:Nat}(hk:k<n)(ha:AscTo r p k){Q:Nat->Shared->Prop}:∀(f l t:Nat),l<=t->t<=k->t-l<=f->(∀i,i<l->kAt r p i<kAt r p k)->(∀i,t<=i->i<k->kAt r p k<kAt r p i)->
  (∀l,l<=k->(∀i,i<l->kAt r p i<kAt r p k)->(∀i,l<=i->i<k->kAt r p k<kAt r p i)->Q l s)->(kas_place p k f l t).kasWp cmp Q s
 |0,l,t,h1,h2,h3,a,b,q=>q l (by omega) a fun i hi hik=>b i (by omega) hik| f+1,l,t,h1,h2,h3,a,b,q=>by unfold kas_place;by_cases e:l≥t;rw[if_pos e];exact q l (by omega) a fun i hi hik=>b i (by omega) hik;rw[if_neg e];refine hc _ _ _ (g.lt hk) (g.lt (by omega)) ?_;by_cases c:kAt r p k<kAt r p ((l+t)/2);have e':decide (r (p.getD k 0)<r (p.getD ((l+t)/2) 0))=true:=decide_eq_true c;rw[e'];refine zdR g hk ha f l ((l+t)/2) (by omega) (by omega) (by omega) a (fun i hi hik=>?_) q;by_cases z:i=(l+t)/2;rw[z];exact c;have:=ha ((l+t)/2) i (by omega) hik;omega;have e':decide (r (p.getD k 0)<r (p.getD ((l+t)/2) 0))=false:=decide_eq_false c;rw[e'];have c':=g.tri hr hk (by omega) (by omega) c;refine zdR g hk ha f ((l+t)/2+1) t (by omega) h2 (by omega) (fun i hi=>?_) b q;by_cases z:i=(l+t)/2;rw[z];exact c';have:=ha i ((l+t)/2) (by omega) (by omega);omega
omit hr hc in
theorem zdm{p:Array Nat}(g:GP n p){k l:Nat}(hk:k<n)(hl:l<=k)(i:Nat):kAt r (bubble p k (k-l)) i=if i=l then kAt r p k else if l<i/\i<=k then kAt r p (i-1) else kAt r p i:=by
 have hs:=g.size;have e:=getElem?_bubble (xs:=p) (src:=k) (by omega) (k-l) (by omega) i;have a0:∀(q:Array Nat)(j:Nat),q.getD j 0=(q[j]?).getD 0:=fun q j=>by simp[Array.getD_eq_getD_getElem?]
 unfold kAt;rw[a0,e];have hl':k-(k-l)=l:=by omega
 rw[hl'];split;rw[a0];split;rw[a0];rw[a0]
omit hr hc in
theorem zg6{p:Array Nat}(g:GP n p){k l:Nat}(hk:k<n)(hl:l<=k)(ha:AscTo r p k)(a:∀i,i<l->kAt r p i<kAt r p k)(b:∀i,l<=i->i<k->kAt r p k<kAt r p i):AscTo r (bubble p k (k-l)) (k+1):=by intro i j hij hj;rw[zdm g hk hl,zdm g hk hl];by_cases i1:i=l;rw[if_pos i1,if_neg (by omega),if_pos (by omega)];exact b _ (by omega) (by omega);rw[if_neg i1];by_cases i2:l<i/\i<=k;rw[if_pos i2,if_neg (by omega),if_pos (by omega)];exact ha _ _ (by omega) (by omega);rw[if_neg i2];by_cases j1:j=l;rw[if_pos j1];exact a _ (by omega);rw[if_neg j1];by_cases j2:l<j/\j<=k;rw[if_pos j2];by_cases z:i=j-1;omega;exact ha _ _ (by omega) (by omega);rw[if_neg j2];exact ha _ _ hij (by omega)
theorem zkQ{Q:Array Nat->Shared->Prop}:∀(f k:Nat)(p:Array Nat),k+f=n->1<=k->GP n p->AscTo r p k->(∀p',GP n p'->AscTo r p' n->Q p' s)->(kas_bin f p k).kasWp cmp Q s
 |0,k,p,e,_,g,a,q=>q p g (by rw[show n=k by omega];exact a)| f+1,k,p,e,h1,g,a,q=>by unfold kas_bin;rw[KasT.kasWp_bind];refine zdR hr hc g (by omega) a k 0 k (by omega) (le_refl _) (by omega) (fun i hi=>by omega) (fun i hi hik=>by omega) fun l l1 l2 l3=>?_;exact zkQ f (k+1) _ (by omega) (by omega) ((bubble_perm _ _ _).trans g) (zg6 g (by omega) l1 a l2 l3) q
theorem zlb(h1:1<=n){Q:Array Nat->Shared->Prop}(q:∀p,GP n p->AscTo r p n->Q p s):(kas_sort n).kasWp cmp Q s:=by
 unfold kas_sort;rw[KasT.kasWp_bind];refine zke hr hc (Array.Perm.refl _) h1 fun m p' m1 m2 g a=>?_;show(if m<n then kas_bin (n-max m 1) p' (max m 1) else KasT.ret p').kasWp cmp Q s;have em:max m 1=m:=by omega
 rw[em];by_cases e:m<n;rw[if_pos e];exact zkQ hr hc (n-m) m p' (by omega) m1 g a q;rw[if_neg e];exact q p' g (by rw[show n=m by omega];exact a)
end
end R
namespace R
open PySem PySem.Spec PyProof.Rows L2
theorem zft:∀(as bs:List Int),lexZ as bs=HT.lexLt as bs
 | [],[]=>by simp[lexZ,HT.lexLt]| [],_::_=>by simp[lexZ,HT.lexLt]|_::_,[]=>by simp[lexZ,HT.lexLt]|a::as,b::bs=>by simp[lexZ,HT.lexLt,zft as bs]
section
variable{prog:Program}{w:World}{A:Around}{E:Value->Shared->Prop}{s:Shared}
theorem zdD(x:IsTupleKey (zao prog w) h (ks.map Sum.inl) b):∃items,IsTup h b items/\IntsAre items.toList ks:=by
 obtain⟨o,items,n,ho,hc,hd,hi⟩:=x;refine⟨items,⟨o,ho,hc,n,hd⟩,?_⟩;have:∀{l:List Int}{vs:List Value},ItemsAre (zao prog w) (l.map Sum.inl) vs->IntsAre vs l:=by intro l;induction l with|nil=>intro vs h;cases h;exact .nil| cons x l ih=>intro vs h;cases h with| @cons _ v _ vs h1 h2=>rcases zat (show zfu (Sum.inl x) v=true from h1) with⟨i,t,e3,e4⟩|⟨y,t,e3,e4⟩;cases e3;subst e4;exact .cons _ _ (ih h2);cases e3
 exact this hi
theorem zhE{α:Type}{xs:List α}{p:List Nat}(d:α)(hp:p.Perm (List.range xs.length)):(p.map fun i=>xs.getD i d).Perm xs:=by
 have h1:=hp.map fun i=>xs.getD i d;have h2:(List.range xs.length).map (fun i=>xs.getD i d)=xs:=by apply List.ext_getElem;simp;intro i g1 g2;simp[g2]
 rw[h2]at h1;exact h1
end
theorem zdL(A:Around)(s:Shared)(a:Int)(t:Tok)(c:Int)(u:Tok)(prog:Program)(w:World)(E:Value->Shared->Prop)(Q:Value->Shared->Prop)(h:Q (.bool (decide (a<=c))) s) :
  wpAny (model prog w) A (richCompare .LtE (.int a t) (.int c u)) Q E s:=
 (PyProof.Rows.le_int h:wpAny (model prog w) A (compareOp .LtE (.int a t) (.int c u)) Q E s)
section
open PySem.SeqAt
open PySem.AutoSeq1 (wpAny_loadPart')
open PySem.MeetsSeq PySem.MeetsSeq2 PySem.MeetsSeq3
open HT (lexLt zck zbf za4 za5 zd8)
theorem zdC(l b:Addr)(items items2:Array Value)(n n2:Nat)(dd dd2:Option Addr)(sl sl2:Array (Option Value))(ns ms:List Int)(hi:IntsAre items.toList ns)(hj:IntsAre items2.toList ms) :
  Meets (Builtin.«tuple.__le__» ⟨[.ref l,.ref b],[]⟩)
   (fun _ R s=>s.heap.get? l=some {cls:=.type "tuple",dict:=dd,data:=.seq items n,slots:=sl}/\s.heap.get? b=some {cls:=.type "tuple",dict:=dd2,data:=.seq items2 n2,slots:=sl2}/\
    R (.ok (.ret (.bool (!lexLt ms ns)))) s):=
 .of_wp fun prog w A R s h=>by
  obtain⟨hp,g,d,tk,os⟩:=s;obtain⟨hl,hb,h⟩:=h;have f2:=AutoSeq1.sub_tuple_tuple;have z1:items.size=ns.length:=by rw[<-hi.length];simp
  have z2:items2.size=ms.length:=by rw[<-hj.length];simp
  wp_walk using wpAny_loadPart' hl,wpAny_loadPart' hb,wpAny_forIn_list _ (fun rest b s'=>b.1=none/\s'=⟨hp,g,d,tk,os⟩/\∃(vs ws:List Value) (ns' ms':List Int),rest=vs.zip ws/\
   IntsAre vs ns'/\IntsAre ws ms'/\ns'.length+items2.size=ms'.length+items.size/\R (.ok (.ret (.bool (!lexLt ms' ns')))) ⟨hp,g,d,tk,os⟩) _
  case turn=>
   rintro⟨y,x⟩ rest b s' ⟨hb',rfl,vs,ws,ns',ms',hz,hvi,hwi,hlen,hR⟩;cases hvi with
   |nil=>rw[List.zip_nil_left]at hz;cases hz
   |cons a t hvi'=>
    cases hwi with
    |nil=>rw[List.zip_nil_right]at hz;cases hz
    |cons c u hwi'=>
     rw[List.zip_cons_cons]at hz;injection hz with hyx hrest;injection hyx with hy hx;subst hy hx;rw[zck]at hR;simp only[length_cons]at hlen;obtain⟨e,he,hiff⟩:=zd8 A.in1 ⟨hp,g,d,tk,os⟩ a t c u;refine wpAny_bind (he prog w _ _ ?_);cases e with
     |true=>
      rw[if_pos (hiff.mp rfl).symm]at hR
      wp_walk
      exact⟨rfl,rfl,_,_,_,_,hrest,hvi',hwi',by omega,hR⟩
     |false=>
      rw[if_neg (fun q=>absurd (hiff.mpr q.symm) Bool.false_ne_true)]at hR;have hri:=zdL A.in1 ⟨hp,g,d,tk,os⟩ a t c u prog w;have e2:(!decide (c<a))=decide (a<=c):=by rw[<-decide_not];exact decide_eq_decide.mpr (by omega)
      rw[e2]at hR
      wp_walk using hri
      exact⟨_,rfl,by simpa using hR⟩
  case fin=>
   rintro⟨b1,b2⟩ s' ⟨hb',rfl,vs,ws,ns',ms',hz,hvi,hwi,hlen,hR⟩;simp only at hb';subst hb';have hv:(!lexLt ms' ns')=decide (items.size<=items2.size):=by
    cases hvi with
    |nil=>cases hwi with| nil=>simp only[length_nil]at hlen;rw[zbf];exact(decide_eq_true (by omega)).symm| cons c u hw=>simp only[length_nil,length_cons]at hlen;rw[za5];exact(decide_eq_true (by omega)).symm
    |cons a t hv=>cases hwi with| nil=>simp only[length_nil,length_cons]at hlen;rw[za4];exact(decide_eq_false (by omega)).symm| cons c u hw=>rw[List.zip_cons_cons]at hz;cases hz
   rw[hv]at hR
   wp_walk
   exact⟨_,rfl,by simpa[Builtin.Tuple.tupleCompareSizes]using hR⟩
  case h=>exact⟨rfl,rfl,items.toList,items2.toList,ns,ms,rfl,hi,hj,by omega,h⟩
end
section
variable{prog:Program}{w:World}{A:Around}{E:Value->Shared->Prop}{s:Shared}
theorem zgQ{l b:Addr}{items items2:Array Value}{ns ms:List Int}{Q:Value->Shared->Prop}(hl:IsTup s.heap l items)(hb:IsTup s.heap b items2)(hi:IntsAre items.toList ns)(hj:IntsAre items2.toList ms)
  (hu:A.units<cLine) (h:Q (.bool (!HT.lexLt ms ns)) s):wpAny (model prog w) A (compareOp .LtE (.ref l) (.ref b)) Q E s:=by
 obtain⟨⟨cls,dd,data,sl⟩,ho,hc,n,hd⟩:=id hl;obtain⟨⟨cls2,dd2,data2,sl2⟩,ho2,hc2,n2,hd2⟩:=id hb;simp only at hc hd hc2 hd2;subst hc hd hc2 hd2;exact richCompare_meets_room (op:=.LtE) ⟨_,ho,rfl⟩ ⟨_,ho2,rfl⟩ PySem.F.slot_tuple_le PySem.F.entry_tuple_le (PySem.F.args_tuple_le_2 _ _) (zdC l b items items2 n n2 dd dd2 sl sl2 ns ms hi hj)
  ⟨ho,ho2,show Value.bool (!HT.lexLt ms ns)≠Value.notImplemented/\Q (.bool (!HT.lexLt ms ns)) s from⟨(fun x=>nomatch x),h⟩⟩ hu
theorem zfd{x y:K3}{a b:Addr}{P:Fin->Shared->Prop}(hu:A.units+1<cLine)(hx:IsTri prog w s.heap x a)(hy:IsTri prog w s.heap y b)(h:P (.done (.ret (.bool (!decide (Lt3 y x))))) s) :
  wpAny (model prog w) A (Builtin.«tuple.__le__» ⟨[.ref a,.ref b],[]⟩) P E s:=by
 have hTb:=hy.typeIs;obtain⟨oa,t1,u1,b1,na,hoa,_,hda,hia⟩:=hx;obtain⟨ob,t2,u2,b2,nb,hob,_,hdb,hib⟩:=hy;obtain⟨x1,x2,x3⟩:=x;obtain⟨y1,y2,y3⟩:=y;show wpAny _ _ (isInstance (.ref b) (.type "tuple")>>=_) _ _ s;refine wpAny_bind (wpAny_isInstance hTb isSubtype_tuple_tuple ?_);refine wpAny_bind (wpAny_tupleItemsOf hoa hda ?_);refine wpAny_bind (wpAny_tupleItemsOf hob hdb ?_);apply wpAny_bind;refine wpAny_forIn_list _
  (fun rest r s'=>r.1=none/\s'=s/\(rest=[(.int x1 t1,.int y1 t2),(.ref b1,.ref b2),(.int x3 u1,.int y3 u2)]\/(rest=[(.ref b1,.ref b2),(.int x3 u1,.int y3 u2)]/\x1=y1)\/(rest=[(.int x3 u1,.int y3 u2)]/\x1=y1/\x2=y2)\/(rest=[]/\x1=y1/\x2=y2/\x3=y3)))
  _ ?_ ?_ _ _ ⟨rfl,rfl,.inl rfl⟩
 rintro⟨p,q⟩ rest r s' ⟨hr,rfl,(e|⟨e,z1⟩|⟨e,z1,z2⟩|⟨e,z1,z2,z3⟩)⟩;cases e;refine wpAny_bind (wpAny_eqBool_int ?_);by_cases hk:x1=y1;rw[show(x1==y1)=true by simp[hk]];simp only;exact wpAny_pure ⟨rfl,rfl,.inr (.inl ⟨trivial,hk⟩)⟩
 . rw[show(x1==y1)=false by simp[hk]];have e2:(!decide (Lt3 (y1,y2,y3) (x1,x2,x3)))=decide (x1<=y1):=by
    rw[<-decide_not];refine decide_eq_decide.mpr ?_;unfold Lt3;dsimp only;constructor;intro z;omega
    . rintro z (z'|⟨z',_⟩)<;>omega
   rw[e2]at h;have hri:=zdL A s' x1 t1 y1 t2 prog w
   wp_walk using hri
   exact h
 cases e;refine wpAny_bind (wpAny_eqBool_tuple (by omega) hia hib ?_);by_cases hk:x2=y2;rw[decide_eq_true (by rw[hk])];simp only;exact wpAny_pure ⟨rfl,rfl,.inr (.inr (.inl ⟨trivial,z1,hk⟩))⟩
 . rw[decide_eq_false (fun z=>hk (zd4 z))];have e2:(!decide (Lt3 (y1,y2,y3) (x1,x2,x3))) = !HT.lexLt y2 x2:=by
    rw[<-zft];congr 1;apply Bool.eq_iff_iff.mpr;rw[decide_eq_true_eq];subst z1;unfold Lt3;dsimp only;have hk':¬y2=x2:=fun z=>hk z.symm;simp[hk']
   rw[e2]at h;obtain⟨i1,p1,p2⟩:=zdD hia;obtain⟨i2,p3,p4⟩:=zdD hib;have hri:∀(E Q:Value->Shared->Prop),Q (.bool (!HT.lexLt y2 x2)) s'->wpAny (model prog w) A (richCompare .LtE (.ref b1) (.ref b2)) Q E s':=fun E Q q=>(zgQ p1 p3 p2 p4 (by omega) q:wpAny (model prog w) A (compareOp .LtE (.ref b1) (.ref b2)) Q E s')
   wp_walk using hri
   exact h
 cases e;refine wpAny_bind (wpAny_eqBool_int ?_);by_cases hk:x3=y3;rw[show(x3==y3)=true by simp[hk]];simp only;exact wpAny_pure ⟨rfl,rfl,.inr (.inr (.inr ⟨trivial,z1,z2,hk⟩))⟩
 . rw[show(x3==y3)=false by simp[hk]];have e2:(!decide (Lt3 (y1,y2,y3) (x1,x2,x3)))=decide (x3<=y3):=by
    rw[<-decide_not];refine decide_eq_decide.mpr ?_;subst z1 z2;unfold Lt3;dsimp only;rw[zbF];simp
   rw[e2]at h;have hri:=zdL A s' x3 u1 y3 u2 prog w
   wp_walk using hri
   exact h
 cases e;rintro⟨r1,r2⟩ s' ⟨hr,rfl,(e|⟨e,z1⟩|⟨e,z1,z2⟩|⟨e,z1,z2,z3⟩)⟩;cases e;cases e;cases e;simp only at hr;subst hr;subst z1 z2 z3;rw[decide_eq_false (zbE _)]at h;exact wpAny_pure h
theorem zmY{x y:K3}{a b:Addr}{Q:Value->Shared->Prop}(hu:A.units+4<cLine)(hx:IsTri prog w s.heap x a)(hy:IsTri prog w s.heap y b)(h:Q (.bool (!decide (Lt3 y x))) s) :
  wpAny (model prog w) A (compareOp .LtE (.ref a) (.ref b)) Q E s:=
 wpAny_richCompare_same_room (op:=.LtE) hx.typeIs hy.typeIs F.slot_tuple_le
  (wpAny_call_entry F.slot_tuple_le hx.typeIs F.entry_tuple_le (zfd (by show A.units+1+1<cLine;omega) hx hy ⟨_,rfl,(fun e=>nomatch e),h⟩) (F.args_tuple_le_2 _ _)) (by omega)
end
end R
namespace R
open PySem (Str PyData Operator CmpOp)
inductive D where
 |non|bl (b:Bool)|int (i:Int)|str (x:Str)|tup (ds:List D)|ref (l:Nat)
 |fix (ds:List D)
inductive MO where
 |lst (ds:List D)|dic (kvs:List (Int×D))|ins (c:Nat) (fs:List (Str×D))
 |d3 (kvs:List (K3×D))|d4 (kvs:List ((Int×K3)×D))
structure St where
 frz:List MO
 new:List MO
 lk:List Nat
inductive Out(α:Type) where
 |ok (a:α) (S:St)
 |bad
noncomputable def Out.bind(o:Out α)(f:α->St->Out β):Out β:=match o with|.ok a S=>f a S|.bad=>.bad
noncomputable def lift(S:St):Option α->Out α
 |some a=>.ok a S|none=>.bad
namespace St
noncomputable def get(S:St)(l:Nat):Option MO:=if l<S.frz.length then S.frz[l]? else S.new[l-S.frz.length]?
noncomputable def len(S:St):Nat:=S.frz.length+S.new.length
noncomputable def push(S:St)(o:MO):St:={S with new:=S.new++[o]}
noncomputable def put(S:St)(l:Nat)(o:MO):Option St:=if l<S.frz.length then none else if S.lk.contains l then none else some {S with new:=S.new.set (l-S.frz.length) o}
noncomputable def enter(S:St):St:=⟨S.frz++S.new,[],[]⟩
end St
noncomputable def lay(S:St)(ds:List D):Out D:=if ds.length<=16777216 then .ok (.ref S.len) (S.push (.lst ds)) else .bad
noncomputable def wr(S:St)(l:Nat)(ds:List D)(d:D):Out D:=if ds.length<=16777216 then(match S.put l (.lst ds) with|some S'=>.ok d S'|none=>.bad) else .bad
noncomputable def pd(S:St):Nat->D->Option PyData
 |_,.non=>some .none|_,.bl b=>some (.bool b)|_,.int i=>some (.int i)|_,.str x=>if PySem.PyData.strOk x then some (.str x) else none|n+1,.tup ds=>(ds.mapM (pd S n)).map PyData.tuple
 |n+1,.ref l=>match S.get l with
  |some (.lst ds)=>(ds.mapM (pd S n)).map PyData.list|_=>none
 |_,.fix _=>none|0,_=>none
mutual
noncomputable def flat(n:Nat):D->Bool
 |.tup ds=>flats n ds|.ref l=>decide (l<n)|.fix ds=>flats n ds|_=>true
noncomputable def flats(n:Nat):List D->Bool
 | []=>true|d::ds=>flat n d&&flats n ds
end
noncomputable def zbI(S:St):D->Option (List D)
 |.tup ds=>some ds|.fix ds=>some ds
 |.ref l=>match S.get l with
  |some (.lst ds)=>some ds|_=>none
 |_=>none
noncomputable def lkOf(S:St):D->List Nat
 |.ref l=>[l]|_=>[]
noncomputable def tru(S:St):D->Option Bool
 |.non=>some false|.bl b=>some b|.int i=>some (i != 0)|.tup ds=>some (!ds.isEmpty)
 |.ref l=>match S.get l with
  |some (.lst ds)=>some (!ds.isEmpty)|_=>none
 |_=>none
noncomputable def tyOf(S:St):D->Option String
 |.non=>some "NoneType"|.bl _=>some "bool"|.int _=>some "int"|.str _=>some "str"|.tup _=>some "tuple"
 |.ref l=>match S.get l with
  |some (.lst _)=>some "list"|some (.dic _)=>some "dict"|_=>none
 |.fix _=>none
noncomputable def ixN(n:Nat)(i:Int):Option Nat:=if 0<=i then(if i<n then some i.toNat else none) else if -(n:Int)<=i then some (i+n).toNat else none
noncomputable def atI{α:Type}(xs:List α)(i:Int):Option α:=(ixN xs.length i).bind fun j=>xs[j]?
noncomputable def sIx(n d:Nat):Option Int->Nat
 |none=>d|some i=>if i<0 then(i+n).toNat else min i.toNat n
noncomputable def cut{α:Type}(xs:List α)(lo hi:Option Int):List α:=(xs.drop (sIx xs.length 0 lo)).take (sIx xs.length xs.length hi-sIx xs.length 0 lo)
noncomputable def zcn:D->Option Int
 |.int i=>some i|_=>none
noncomputable def zbt(m:Bool)(d:D):Option (Option Int):=if m then(match d with|.int i=>some (some i)|_=>none) else some none
noncomputable def zc7(i j:Int):Bool:=decide (-(2^64)<i/\i<2^64)||decide (-(2^64)<j/\j<2^64)
noncomputable def binI(S:St)(op:Operator)(i j:Int):Out D:=match op with|.Add=>.ok (.int (i+j)) S|.Sub=>.ok (.int (i-j)) S|.Mult=>if zc7 i j then .ok (.int (i*j)) S else .bad|.FloorDiv=>if 0<j/\j<1073741824 then .ok (.int (i/j)) S else .bad|.Mod=>if 0<j then .ok (.int (i%j)) S else .bad|.Pow=>if 0<=j/\j<=1000000/\-18446744073709551616<i/\i<18446744073709551616 then .ok (.int (i^j.toNat)) S else .bad|_=>.bad
noncomputable def binD(S:St)(op:Operator)(x y:D):Out D:=match x,y with|.int i,.int j=>binI S op i j|.tup xs,.tup ys=>(match op with|.Add=>if xs.length+ys.length<=16777216 then .ok (.tup (xs++ys)) S else .bad|_=>.bad)|.ref a,.ref b=>(match op,S.get a,S.get b with|.Add,some (.lst xs),some (.lst ys)=>lay S (xs++ys)|_,_,_=>.bad)|_,_=>.bad
noncomputable def eqD(S:St)(x y:D):Option Bool:=(pd S 60 x).bind fun a=>(pd S 60 y).map fun b=>PyData.eqv a b
noncomputable def inD(S:St)(x:D)(ys:List D):Option Bool:=(ys.mapM fun z=>eqD S z x).map fun bs=>bs.any id
noncomputable def zaL(ds:List D):Option (List Int):=ds.mapM zcn
noncomputable def cmpI(op:CmpOp)(i j:Int):Option Bool:=match op with|.Eq=>some (decide (i=j))|.NotEq=>some (!decide (i=j))|.Lt=>some (decide (i<j))|.LtE=>some (decide (i<=j))|.Gt=>some (decide (j<i))|.GtE=>some (decide (j<=i))|_=>none
noncomputable def zmk:D->Bool|.non=>true|_=>false
noncomputable def key3:D->Option K3
 |.tup [.int a,.tup ds,.int b]=>(zaL ds).map fun p=>(a,p,b)|_=>none
noncomputable def key4:D->Option (Int×K3)
 |.tup [.int a,d]=>(key3 d).map fun k=>(a,k)|_=>none
noncomputable def putQ{κ:Type}[DecidableEq κ](kvs:List (κ×D))(k:κ)(v:D):List (κ×D):=if k∈kvs.map (·.1) then kvs.map (fun x=>if x.1=k then(x.1,v) else x) else kvs++[(k,v)]
noncomputable def valQ{κ:Type}[DecidableEq κ](kvs:List (κ×D))(k:κ):Option D:=(kvs.find? fun kv=>decide (kv.1=k)).map (·.2)
noncomputable def zgZ(S:St)(x y:D):Option D:=match x with|.ref l=>(match S.get l with|some (.d3 kvs)=>(key3 y).bind fun k=>valQ kvs k|_=>none)|_=>none
noncomputable def srtD(ds:List D)(ks:List K3):List D:=(zfg ks).map fun k=>((ks.zip ds).lookup k).getD .non
noncomputable def zcQ(S:St)(x y:D):Option Bool:=match y with
 |.ref l=>(match S.get l with
  |some (.d3 kvs)=>(key3 x).map fun k=>decide (k∈kvs.map (·.1))|some (.d4 kvs)=>(key4 x).map fun k=>decide (k∈kvs.map (·.1))|_=>(zbI S y).bind fun ys=>inD S x ys)
 |_=>(zbI S y).bind fun ys=>inD S x ys
noncomputable def zd0:D->Option K3
 |.tup [_,.tup ds,.int b,_]=>(zaL ds).map fun p=>(0,p,b)|_=>none
noncomputable def zdk(S:St)(x:D):Option (List D×List K3):=match x with|.ref p=>(match S.get p with|some (.lst ds)=>(ds.mapM zd0).map fun ks=>(ds,ks)|_=>none)|_=>none
noncomputable def cmpO(S:St)(op:CmpOp)(x y:D):Option Bool:=match op with|.Eq=>eqD S x y|.NotEq=>(eqD S x y).map (!·)|.Is=>(match y with|.non=>some (zmk x)|_=>none)|.IsNot=>(match y with|.non=>some (!zmk x)|_=>none)|.In=>zcQ S x y|.NotIn=>(zcQ S x y).map (!·)|.LtE=>(key3 x).bind fun a=>(key3 y).map fun b=>!decide (Lt3 b a)|_=>none
noncomputable def cmpD(S:St)(op:CmpOp)(x y:D):Option Bool:=match x,y with|.int i,.int j=>cmpI op i j|_,_=>cmpO S op x y
inductive Bi where
 |len|abs|max2|min2|isin (t:String)
inductive Mt where
 |append
noncomputable def bi(S:St):Bi->List D->Out D
 |.len,[x]=>(match x with
  |.tup ds=>.ok (.int ds.length) S|.fix ds=>.ok (.int ds.length) S|.ref l=>(match S.get l with|some (.lst ds)=>.ok (.int ds.length) S|some (.d3 kvs)=>.ok (.int kvs.length) S|_=>.bad)|_=>.bad)
 |.abs,[.int i]=>.ok (.int (if i<0 then -i else i)) S|.max2,[.int i,.int j]=>.ok (.int (if j>i then j else i)) S|.min2,[.int i,.int j]=>.ok (.int (if j<i then j else i)) S|.isin t,[x]=>(match tyOf S x with|some a=>.ok (.bl (a==t||(a=="bool"&&t=="int"))) S|none=>.bad)|_,_=>.bad
noncomputable def isL(S:St):D->Bool
 |.ref l=>(match S.get l with|some (.lst _)=>true|_=>false)|_=>false
noncomputable def mt(S:St):Mt->D->List D->Out D
 |.append,.ref l,[y]=>(match S.get l with|some (.lst ds)=>wr S l (ds++[y]) .non|_=>.bad)|_,_,_=>.bad
noncomputable def putI:List (Int×D)->Int->D->List (Int×D)
 | [],k,v=>[(k,v)]|(j,d)::r,k,v=>if j=k then(j,v)::r else(j,d)::putI r k v
noncomputable def dicI(S:St)(x:D):Option (List Int):=match x with|.ref p=>(match S.get p with|some (.dic kvs)=>some (kvs.map (·.1))|_=>none)|_=>none
noncomputable def dPut(S:St)(x y v:D):Option St:=match x with
 |.ref l=>(match S.get l with
  |some (.dic kvs)=>(zcn y).bind fun k=>if kvs.length<16777216 then S.put l (.dic (putI kvs k v)) else none|some (.lst ds)=>(zcn y).bind fun i=>(ixN ds.length i).bind fun j=>S.put l (.lst (ds.set j v))|some (.d3 kvs)=>(key3 y).bind fun k=>if kvs.length<16777216 then S.put l (.d3 (putQ kvs k v)) else none|some (.d4 kvs)=>(key4 y).bind fun k=>if kvs.length<16777216 then S.put l (.d4 (putQ kvs k v)) else none|_=>none)
 |_=>none
noncomputable def lsts(S:St)(x y:D):Option (Nat×List D×List D):=match x,y with|.ref p,.ref r=>(match S.get p,S.get r with|some (.lst ds),some (.lst es)=>some (p,ds,es)|_,_=>none)|_,_=>none
noncomputable def valI(kvs:List (Int×D))(k:Int):Option D:=(kvs.find? fun kv=>decide (kv.1=k)).map (·.2)
noncomputable def isDi(S:St):D->Bool
 |.ref l=>(match S.get l with|some (.dic _)=>true|_=>false)|_=>false
noncomputable def zeb(S:St)(x y:D):Option (Option D):=match x with|.ref l=>(match S.get l with|some (.dic kvs)=>(zcn y).map fun k=>valI kvs k|_=>none)|_=>none
noncomputable def zc8(S:St)(x y v:D):Option (D×St):=match zeb S x y with|some (some u)=>some (u,S)|some none=>(dPut S x y v).map fun T=>(v,T)|none=>none
noncomputable def zcu(S:St):D->Option (Nat×List (Str×D))
 |.ref l=>(match S.get l with|some (.ins c fs)=>some (c,fs)|_=>none)|_=>none
noncomputable def zhx(f:Str)(v:D):List (Str×D)->List (Str×D)
 | []=>[(f,v)]|(g,x)::r=>if g=f then(g,v)::r else(g,x)::zhx f v r
noncomputable def zbK(S:St)(x:D)(f:Str)(v:D):Option St:=match x with|.ref l=>(match S.get l with|some (.ins c fs)=>if fs.length<1000 then S.put l (.ins c (zhx f v fs)) else none|_=>none)|_=>none
noncomputable def zkD:D->Bool|.non=>true|_=>false
mutual
inductive CE where
 |loc (i:Nat)|con (d:D)
 |tst (a:CE)
 |bin (op:Operator) (a b:CE)|neg (a:CE)|nt (a:CE)
 |cmp (op:CmpOp) (a b:CE)
 |and (a b:CE)|or (a b:CE)|ite (c a b:CE)
 |tup (es:CEs)|lst (es:CEs)|dnew|dnew3|dnew4|dix3 (a b:CE)|ext (a:CE) (l:CL)|srtK (a:CE)|dgetI (a b c:CE)|dsetI (a b c:CE)|extv (a b:CE)
 |ix (a b:CE)
 |fld (a:CE) (f:Str)|mk (c f:Nat) (x:Str) (j:Nat) (es:CEs)|meth (m:Str) (tb:List (Nat×Nat)) (o:CE) (es:CEs)|callC (f:Nat) (x m:Str) (es:CEs)
 |sl (a:CE) (ml mh:Bool) (lo hi:CE)
 |call (f j:Nat) (es:CEs)|callW (f j:Nat) (es:CEs)|bi (b:Bi) (es:CEs)|mt (m:Mt) (o:CE) (es:CEs)
 |mkL (l:CL)|mkT (l:CL)
inductive CEs where
 |nil|cons (e:CE) (r:CEs)
inductive CL where
 |val (e:CE)|rng1 (a:CE)|rng2 (a b:CE)|enum (a:CE)
 |comp (nt:Nat) (js:List Nat) (g:List Nat) (it:CL) (c:CE) (e:CE)
end
inductive CS where
 |nil|stop|asg (i:Nat) (e:CE) (r:CS)|asgT (g:List Nat) (e:CE) (r:CS)|setIx (a b e:CE) (r:CS)|setF (a:CE) (f:Str) (e:CE) (r:CS)
 |ifS (c:CE) (t u:CS) (r:CS)|forS (g:List Nat) (l:CL) (b:CS) (r:CS)|ret (e:CE) (r:CS)|expr (e:CE) (r:CS)
abbrev Ev:=List (Option D)
noncomputable def zdw:List Nat->List D->Ev->Ev
 |i::is,d::ds,δ=>zdw is ds (δ.set i (some d))|_,_,δ=>δ
noncomputable def asgG(g:List Nat)(x:D)(δ:Ev):Option Ev:=match g with| [i]=>some (δ.set i (some x))|is=>(match x with|.tup ds=>if ds.length=is.length then some (zdw is ds δ) else none|_=>none)
noncomputable def zc6(x y:D):D:=.tup [x,y]
noncomputable def zdq(S:St):D->Option (List D×List Nat)
 |.ref l=>(match S.get l with|some (.lst xs)=>some (xs.mapIdx fun i d=>zc6 (.int i) d,[l])|_=>none)|.tup xs=>some (xs.mapIdx fun i d=>zc6 (.int i) d,[])|_=>none
abbrev CF:=Nat->List D->St->Out D
noncomputable def zb4(S:St)(d:D)(T:St):Out D:=
 if flat S.len d then .ok d S else
 let keep:Out D:=.ok d ⟨S.frz,S.new++T.new,S.lk⟩
 match d with
  |.ref l=>(match T.get l with
   |some (.lst ds)=>if flats S.len ds then .ok (.ref S.len) (S.push (.lst ds)) else keep|some (.dic kvs)=>if flats S.len (kvs.map (·.2)) then .ok (.ref S.len) (S.push (.dic kvs)) else keep|_=>keep)
  |_=>keep
noncomputable def zhW(S:St)(d:D)(T:St):Out (List D):=match d with|.ref l=>if l<S.len then .bad else(match T.get l with|some (.lst ds)=>if flats S.len ds then .ok ds S else .bad|_=>.bad)|_=>.bad
@[irreducible]noncomputable def app(cf:CF)(f:Nat)(ds:List D)(S:St):Out D:=(cf f ds S.enter).bind fun d T=>zb4 S d T
@[irreducible]noncomputable def appL(cf:CF)(f:Nat)(ds:List D)(S:St):Out (List D):=(cf f ds S.enter).bind fun d T=>zhW S d T
@[irreducible]noncomputable def appW(cf:CF)(f:Nat)(ds:List D)(S:St):Out D:=cf f ds S
noncomputable def csl(nt:Nat)(js:List Nat)(δ:Ev):Ev:=List.replicate nt none++js.map fun j=>(δ[j]?).join
noncomputable def zax(g:List Nat)(c:Ev->St->Out Bool)(e:Ev->St->Out D):List D->Ev->St->Out (List D)
 | [],_,S=>.ok [] S| x::xs,δ,S=>match asgG g x δ with|none=>.bad|some δ'=>(c δ' S).bind fun b S1=>if b then(e δ' S1).bind fun d S2=>(zax g c e xs δ' S2).bind fun ds S3=>.ok (d::ds) S3 else zax g c e xs δ' S1
noncomputable def zbm(ls:List Nat)(S:St)(f:St->Out α):Out α:=(f {S with lk:=ls++S.lk}).bind fun a S'=>.ok a {S' with lk:=S.lk}
noncomputable def zp5:D->Option Bool
 |.bl b=>some b|_=>none
section
variable(cf:CF)
mutual
noncomputable def evE(e₀:CE)(δ:Ev)(S:St):Out D:=match e₀ with
 |.loc i=>lift S (δ[i]?).join|.con d=>.ok d S|.tst _=>.bad|.bin op a b=>(evE a δ S).bind fun x S1=>(evE b δ S1).bind fun y S2=>binD S2 op x y|.neg a=>(evE a δ S).bind fun x S1=>match x with|.int i=>.ok (.int (-i)) S1|_=>.bad
 |.nt a=>(evE a δ S).bind fun x S1=>match x with|.bl b=>.ok (.bl (!b)) S1|_=>.bad
 |.cmp op a b=>(evE a δ S).bind fun x S1=>(evE b δ S1).bind fun y S2=>(lift S2 (cmpD S2 op x y)).bind fun k S3=>.ok (.bl k) S3|.and a b=>(evE a δ S).bind fun x S1=>match x with|.bl k=>if k then evE b δ S1 else .ok (.bl false) S1|_=>.bad
 |.or a b=>(evE a δ S).bind fun x S1=>match x with|.bl k=>if k then .ok (.bl true) S1 else evE b δ S1|_=>.bad
 |.ite c a b=>(evT c δ S).bind fun k S1=>if k then evE a δ S1 else evE b δ S1|.tup es=>(evEs es δ S).bind fun ds S1=>if ds.length<=16777216 then .ok (.tup ds) S1 else .bad|.lst es=>(evEs es δ S).bind fun ds S1=>lay S1 ds|.dnew=>.ok (.ref S.len) (S.push (.dic []))|.dnew3=>.ok (.ref S.len) (S.push (.d3 []))|.dnew4=>.ok (.ref S.len) (S.push (.d4 []))|.dix3 a b=>(evE a δ S).bind fun x S1=>(evE b δ S1).bind fun y S2=>lift S2 (zgZ S2 x y)
 |.ext a l=>(evE a δ S).bind fun x S1=>if isL S1 x then(evL l δ S1).bind fun r S2=>(match x with
  |.ref p=>(match S2.get p with|some (.lst ds)=>wr S2 p (ds++r.1) .non|_=>.bad)|_=>.bad) else .bad
 |.srtK a=>(evE a δ S).bind fun x S1=>(lift S1 (zdk S1 x)).bind fun q S2=>if q.2.length<64/\q.2.Nodup then lay S2 (srtD q.1 q.2) else .bad|.dgetI a b c=>(evE a δ S).bind fun x S1=>if isDi S1 x then(evE b δ S1).bind fun y S2=>(evE c δ S2).bind fun z S3=>(lift S3 (zeb S3 x y)).bind fun o S4=>.ok (o.getD z) S4 else .bad|.dsetI a b c=>(evE a δ S).bind fun x S1=>if isDi S1 x then(evE b δ S1).bind fun y S2=>(evE c δ S2).bind fun z S3=>(lift S3 (zc8 S3 x y z)).bind fun o _=>.ok o.1 o.2 else .bad|.extv a b=>(evE a δ S).bind fun x S1=>if isL S1 x then(evE b δ S1).bind fun y S2=>(lift S2 (lsts S2 x y)).bind fun o S3=>wr S3 o.1 (o.2.1++o.2.2) .non else .bad|.fld a f=>(evE a δ S).bind fun x S1=>lift S1 ((zcu S1 x).bind fun p=>p.2.lookup f)|.mk c f _ j es=>(evEs es δ S).bind fun ds S1=>(appW cf f (.ref S1.len::(ds++List.replicate j .non)) (S1.push (.ins c []))).bind fun d S2=>if zkD d then .ok (.ref S1.len) S2 else .bad|.meth m tb o es=>(evE o δ S).bind fun x S1=>(lift S1 (zcu S1 x)).bind fun p S1=>(lift S1 (tb.lookup p.1)).bind fun f S1=>if(p.2.lookup m).isNone then(evEs es δ S1).bind fun ds S2=>appW cf f (x::ds) S2 else .bad|.callC f _ _ es=>(evEs es δ S).bind fun ds S1=>appW cf f ds S1|.ix a b=>(evE a δ S).bind fun x S1=>(evE b δ S1).bind fun y S2=>match zbI S2 x,y with|some ds,.int i=>lift S2 (atI ds i)|_,_=>.bad
 |.sl a ml mh lo hi=>(evE a δ S).bind fun x S1=>(evE lo δ S1).bind fun y S2=>(evE hi δ S2).bind fun z S3=>match zbt ml y,zbt mh z with
  |some l,some h=>(match x with
   |.tup ds=>.ok (.tup (cut ds l h)) S3|.fix ds=>lay S3 (cut ds l h)|.ref p=>(match S3.get p with|some (.lst ds)=>lay S3 (cut ds l h)|_=>.bad)|_=>.bad)
  |_,_=>.bad
 |.call f j es=>(evEs es δ S).bind fun ds S1=>app cf f (ds++List.replicate j .non) S1|.callW f j es=>(evEs es δ S).bind fun ds S1=>appW cf f (ds++List.replicate j .non) S1|.bi b es=>(evEs es δ S).bind fun ds S1=>R.bi S1 b ds|.mt m o es=>(evE o δ S).bind fun x S1=>if isL S1 x then(evEs es δ S1).bind fun ds S2=>R.mt S2 m x ds else .bad|.mkL l=>(evL l δ S).bind fun r S1=>lay S1 r.1|.mkT l=>(evL l δ S).bind fun r S1=>if r.1.length<=16777216 then .ok (.tup r.1) S1 else .bad
noncomputable def evEs(e₀:CEs)(δ:Ev)(S:St):Out (List D):=match e₀ with|.nil=>.ok [] S|.cons e r=>(evE e δ S).bind fun d S1=>(evEs r δ S1).bind fun ds S2=>.ok (d::ds) S2
noncomputable def evT(e₀:CE)(δ:Ev)(S:St):Out Bool:=match e₀ with|.cmp op a b=>(evE a δ S).bind fun x S1=>(evE b δ S1).bind fun y S2=>lift S2 (cmpD S2 op x y)|.nt a=>(evT a δ S).bind fun k S1=>.ok (!k) S1|.and a b=>(evT a δ S).bind fun k S1=>if k then evT b δ S1 else .ok false S1|.or a b=>(evT a δ S).bind fun k S1=>if k then .ok true S1 else evT b δ S1|.tst e=>(evE e δ S).bind fun x S1=>lift S1 (tru S1 x)|_=>.bad
noncomputable def evL(e₀:CL)(δ:Ev)(S:St):Out (List D×List Nat):=match e₀ with
 |.val e=>(evE e δ S).bind fun x S1=>(lift S1 (zbI S1 x)).bind fun ds S2=>.ok (ds,lkOf S2 x) S2|.rng1 a=>(evE a δ S).bind fun x S1=>match x with|.int j=>if -(2^62)<=j/\j<2^62 then .ok ((List.range j.toNat).map fun(k:Nat)=>.int k,[]) S1 else .bad|_=>.bad
 |.rng2 a b=>(evE a δ S).bind fun x S1=>(evE b δ S1).bind fun y S2=>match x,y with
  |.int i,.int j=>if -(2^62)<=i/\i<2^62/\-(2^62)<=j/\j<2^62 then .ok ((List.range (j-i).toNat).map fun(k:Nat)=>.int (i+k),[]) S2 else .bad|_,_=>.bad
 |.enum a=>(evE a δ S).bind fun x S1=>lift S1 (zdq S1 x)|.comp n js g it c e=>(evL it δ S).bind fun r S1=>(zbm r.2 S1 fun S2=>zax g (evT c) (evE e) r.1 (csl n js δ) S2).bind fun ds S3=>if ds.length<=16777216 then .ok (ds,[]) S3 else .bad
end
inductive Fl where
 |nx (δ:Ev)|rt (d:D)
noncomputable def zaw(g:List Nat)(b:Ev->St->Out Fl):List D->Ev->St->Out Fl
 | [],δ,S=>.ok (.nx δ) S| x::xs,δ,S=>match asgG g x δ with|none=>.bad| some δ'=>(b δ' S).bind fun f S1=>match f with|.nx δ2=>zaw g b xs δ2 S1|.rt d=>.ok (.rt d) S1
noncomputable def exS(e₀:CS)(δ:Ev)(S:St):Out Fl:=match e₀ with
 |.nil=>.ok (.nx δ) S|.stop=>.bad|.asg i e r=>(evE cf e δ S).bind fun x S1=>exS r (δ.set i (some x)) S1|.asgT g e r=>(evE cf e δ S).bind fun x S1=>(lift S1 (asgG g x δ)).bind fun δ' S2=>exS r δ' S2|.setIx a b e r=>(evE cf e δ S).bind fun v S1=>(evE cf a δ S1).bind fun x S2=>(evE cf b δ S2).bind fun y S3=>match dPut S3 x y v with|some S4=>exS r δ S4|none=>.bad
 |.setF a f e r=>(evE cf e δ S).bind fun v S1=>(evE cf a δ S1).bind fun x S2=>match zbK S2 x f v with|some S3=>exS r δ S3|none=>.bad
 |.ifS c t u r=>(evT cf c δ S).bind fun k S1=>(if k then exS t δ S1 else exS u δ S1).bind fun f S2=>match f with
  |.nx δ'=>exS r δ' S2|.rt d=>.ok (.rt d) S2
 |.forS g l b r=>(evL cf l δ S).bind fun q S1=>(zbm q.2 S1 fun S2=>zaw g (exS b) q.1 δ S2).bind fun f S3=>match f with
  |.nx δ'=>exS r δ' S3|.rt d=>.ok (.rt d) S3
 |.ret e _=>(evE cf e δ S).bind fun x S1=>.ok (.rt x) S1|.expr e r=>(evE cf e δ S).bind fun _ S1=>exS r δ S1
end
inductive Prim where
 |lam
structure Fn where
 np:Nat
 nn:Nat
 body:CS
 prim:Option Prim
noncomputable def zau(F:Fn)(ds:List D):Ev:=ds.map some++List.replicate (F.nn-F.np) none
noncomputable def callF(P:List Fn):Nat->CF
 |0,_,_,_=>.bad
 |n+1,f,ds,S=>match P[f]? with
  | some F=>if ds.length=F.np then(match F.prim with
     |some .lam=>if 3<=n then(exS (callF P n) F.body (zau F ds) S).bind fun r T=>(match r with
      |.nx _=>.ok .non T|.rt d=>.ok d T) else .bad
     |none=>(exS (callF P n) F.body (zau F ds) S).bind fun r T=>match r with|.nx _=>.ok .non T|.rt d=>.ok d T)
    else .bad
  |none=>.bad
@[simp]theorem zal(a:α)(S:St)(f:α->St->Out β):(Out.ok a S).bind f=f a S:=rfl
@[simp]theorem zo2(f:α->St->Out β):(Out.bad:Out α).bind f=.bad:=rfl
@[simp]theorem zaI(S:St)(a:α):lift S (some a)=.ok a S:=rfl
theorem zaC(S:St):S.enter.get=S.get:=by funext l;simp only[St.get,St.enter,length_append,List.getElem?_append];by_cases h:l<S.frz.length;simp[lt_of_lt_of_le h (Nat.le_add_right _ _)];simp only[h];split;rfl;simp only[List.getElem?_nil];exact(List.getElem?_eq_none (by omega)).symm
@[simp]theorem ziz(S:St):S.enter.frz=S.frz++S.new:=rfl
@[simp]theorem zoA(S:St):S.enter.new=[]:=rfl
@[simp]theorem zo1(S:St):S.enter.lk=[]:=rfl
@[simp]theorem enter_len(S:St):S.enter.len=S.len:=by simp[St.len]
theorem zmd(S:St):(S.frz++S.new).length=S.len:=by simp[St.len]
theorem zam{S:St}(h:S.get l=some o):l<S.len:=by unfold St.get at h;unfold St.len;split at h;omega;have:=(List.getElem?_eq_some_iff.mp h).1;omega
theorem zmm{S:St}(h:S.get l=some o)(nw:List MO)(lk:List Nat):(St.mk (S.frz++S.new) nw lk).get l=some o:=by
 have hl:=zam h;rw[<-zaC]at h;unfold St.get at h⊢;have e:l<(S.frz++S.new).length:=by rw[zmd];exact hl
 simp only[ziz,e]at h⊢;exact h
@[simp]theorem zoY(n:Nat):flat n .non=true:=by simp[flat]
@[simp]theorem zpV(n:Nat)(b:Bool):flat n (.bl b)=true:=by simp[flat]
@[simp]theorem zoZ(n:Nat)(i:Int):flat n (.int i)=true:=by simp[flat]
@[simp]theorem zoX(n:Nat)(x:Str):flat n (.str x)=true:=by simp[flat]
@[simp]theorem zgg(n:Nat)(ds:List D):flat n (.tup ds)=flats n ds:=by simp[flat]
@[simp]theorem zo0(n:Nat)(ds:List D):flat n (.fix ds)=flats n ds:=by simp[flat]
@[simp]theorem zow(n:Nat):flats n []=true:=by simp[flats]
@[simp]theorem zmK(n:Nat)(d:D)(ds:List D):flats n (d::ds)=(flat n d&&flats n ds):=by simp[flats]
@[simp]theorem zeU(n:Nat):∀ds es:List D,flats n (ds++es)=(flats n ds&&flats n es)
  | [],es=>by simp|d::ds,es=>by simp[zeU n ds es,Bool.and_assoc]
theorem zaD(n:Nat):∀ds:List D,flats n ds=true↔∀d∈ds,flat n d=true
 | []=>by simp|d::ds=>by simp[zaD n ds]
@[simp]theorem zmJ(n:Nat)(ns:List Int):flats n (ns.map D.int)=true:=by rw[zaD];simp
@[simp]theorem zgP(S:St)(d:D)(T:St)(h:flat S.len d=true):zb4 S d T=.ok d S:=by simp[zb4,h]
def W(o:Out α)(Q:α->St->Prop):Prop:=match o with|.ok a S=>Q a S|_=>False
@[simp]theorem W_ok(a:α)(S:St)(Q:α->St->Prop):W (.ok a S) Q=Q a S:=rfl
@[simp]theorem zp7(Q:α->St->Prop):W (.bad:Out α) Q=False:=rfl
@[simp]theorem zaa(o:Out α)(f:α->St->Out β)(Q:β->St->Prop):W (o.bind f) Q=W o fun a S=>W (f a S) Q:=by cases o<;>rfl
theorem W.mono(h:W o Q)(hq:∀a S,Q a S->Q' a S):W o Q':=by cases o with|ok a S=>exact hq a S h|bad=>exact h
theorem W.eq(h:W o fun a T=>a=d/\T=S):o=.ok d S:=by cases o with|ok a T=>obtain⟨rfl,rfl⟩:=h;rfl|bad=>exact False.elim h
theorem W.of(h:o=.ok d S)(q:Q d S):W o Q:=by rw[h];exact q
theorem W.iff:W o Q↔∃a S,o=.ok a S/\Q a S:=by cases o with|ok a S=>exact⟨fun h=>⟨a,S,rfl,h⟩,fun⟨_,_,e,h⟩=>by cases e;exact h⟩|bad=>exact⟨fun h=>h.elim,fun⟨_,_,e,_⟩=>nomatch e⟩
noncomputable def fin(S:St)(r:Fl)(T:St):Out D:=match r with|.nx _=>zb4 S .non T|.rt d=>zb4 S d T
@[simp]theorem zkI(S T:St)(d:D):fin S (.rt d) T=zb4 S d T:=rfl
@[simp]theorem zp4(S T:St)(δ:Ev):fin S (.nx δ) T=.ok .non S:=by simp[fin]
theorem ze7(h:P[f]?=some F)(hl:ds.length=F.np)(hp:F.prim=none:=by rfl) :
  app (callF P (n+1)) f ds S=(exS (callF P n) F.body (zau F ds) S.enter).bind fun r T=>fin S r T:=by
 simp[app,callF,h,hl,hp];generalize exS (callF P n) F.body (zau F ds) S.enter=o;cases o with|ok r T=>cases r<;>rfl|bad=>rfl
noncomputable def finL(S:St)(r:Fl)(T:St):Out (List D):=match r with|.nx _=>.bad|.rt d=>zhW S d T
@[simp]theorem zpW(S T:St)(d:D):finL S (.rt d) T=zhW S d T:=rfl
theorem zby(I:Nat->Ev->St->Prop)(Rt:D->St->Prop):∀(xs:List D)(k:Nat)(δ:Ev)(S:St),I k δ S->
  (∀i x δ S,xs[i]?=some x->I (k+i) δ S->∃δ',asgG g x δ=some δ'/\W (b δ' S) fun f S'=>match f with|.nx δ2=>I (k+i+1) δ2 S'|.rt d=>Rt d S')->
  W (zaw g b xs δ S) fun f S'=>match f with|.nx δ'=>I (k+xs.length) δ' S'|.rt d=>Rt d S'
 | [],k,δ,S,h,_=>by simpa[zaw]using h| x::xs,k,δ,S,h,step=>by obtain⟨δ',e,w⟩:=step 0 x δ S rfl h;simp[zaw,e,zaa];refine w.mono fun f S1 hf=>?_;cases f with|rt d=>exact hf| nx δ2=>have ih:=zby I Rt xs (k+1) δ2 S1 hf (fun i y δ S hy hi=>by have:=step (i+1) y δ S (by simpa using hy) (by rw[show k+(i+1)=k+1+i by omega];exact hi);rw[show k+(i+1)+1=k+1+i+1 by omega]at this;exact this);rw[show k+1+xs.length=k+(x::xs).length by simp;omega]at ih;exact ih
theorem zbc{rest:Ev}(p:D->Bool)(f:D->D):∀(xs:List D)(o:Option D),
  (∀x∈xs,c (some x::rest) S=.ok (p x) S)->(∀x∈xs,p x=true->e (some x::rest) S=.ok (f x) S)->zax [0] c e xs (o::rest) S=.ok ((xs.filter p).map f) S
 | [],o,_,_=>rfl| x::xs,o,hc,he=>by have ih:=zbc p f xs (some x) (fun y hy=>hc y (mem_cons_of_mem _ hy)) (fun y hy=>he y (mem_cons_of_mem _ hy));simp[zax,asgG,List.set_cons_zero,hc x mem_cons_self];cases hp:p x with|false=>simp[ih,hp]|true=>simp[ih,hp,he x mem_cons_self hp]
@[simp]theorem zmI(S:St)(f:St->Out α):zbm [] S f=(f S).bind fun a S'=>.ok a {S' with lk:=S.lk}:=rfl
def wIf(c:Bool)(P Q:Prop):Prop:=match c with|true=>P|false=>Q
@[irreducible]def wOpt{α:Type}(o:Option α)(k:α->Prop):Prop:=match o with|some a=>k a|none=>False
@[irreducible]def zaz(p k:Prop):Prop:=p/\k
@[irreducible]def wOut(o:Out α)(Q:α->St->Prop):Prop:=W o Q
theorem zo5(h:c=true)(k:P):wIf c P Q:=by subst h;exact k
theorem zo6(h:c=false)(k:Q):wIf c P Q:=by subst h;exact k
theorem zkV(h1:c=true->P)(h2:c=false->Q):wIf c P Q:=by cases c with|true=>exact zo5 rfl (h1 rfl)|false=>exact zo6 rfl (h2 rfl)
theorem zgw[Decidable p](h1:p->P)(h2:¬p->Q):wIf (decide p) P Q:=zkV (fun h=>h1 (of_decide_eq_true h)) (fun h=>h2 (of_decide_eq_false h))
theorem wOpt_of(h:o=some a)(q:k a):wOpt o k:=by unfold wOpt;rw[h];exact q
theorem wNeed_of(h:p)(q:k):zaz p k:=by unfold zaz;exact⟨h,q⟩
theorem wOut_of(h:o=.ok a S)(q:Q a S):wOut o Q:=by unfold wOut;rw[h];exact q
theorem zda(h:W o Q):wOut o Q:=by unfold wOut;exact h
abbrev wGet(S:St)(l:Nat)(k:MO->Prop):Prop:=wOpt (S.get l) k
abbrev wPut(S:St)(l:Nat)(o:MO)(k:St->Prop):Prop:=wOpt (S.put l o) k
def wLay(S:St)(ds:List D)(Q:D->St->Prop):Prop:=zaz (ds.length<=16777216) (Q (.ref S.len) (S.push (.lst ds)))
theorem zdb(h:wLay S ds Q):W (lay S ds) Q:=by unfold wLay zaz at h;unfold lay;rw[if_pos h.1];exact h.2
def wWr(S:St)(l:Nat)(ds:List D)(d:D)(Q:D->St->Prop):Prop:=zaz (ds.length<=16777216) (wPut S l (.lst ds) fun S'=>Q d S')
theorem zkU(h:wWr S l ds d Q):W (wr S l ds d) Q:=by unfold wWr zaz wPut wOpt at h;unfold wr;rw[if_pos h.1];have h2:=h.2;cases e:S.put l (.lst ds) with|none=>rw[e]at h2;exact h2.elim|some S'=>rw[e]at h2;exact h2
def zmQ(S:St)(op:Operator)(i j:Int)(Q:D->St->Prop):Prop:=match op with|.Add=>Q (.int (i+j)) S|.Sub=>Q (.int (i-j)) S|.Mult=>zaz (zc7 i j=true) (Q (.int (i*j)) S)|.FloorDiv=>zaz (0<j/\j<1073741824) (Q (.int (i/j)) S)|.Mod=>zaz (0<j) (Q (.int (i%j)) S)|.Pow=>zaz (0<=j/\j<=1000000/\-18446744073709551616<i/\i<18446744073709551616) (Q (.int (i^j.toNat)) S)|_=>False
def wBin(S:St)(op:Operator)(x y:D)(Q:D->St->Prop):Prop:=match x,y with|.int i,.int j=>zmQ S op i j Q|.tup xs,.tup ys=>(match op with|.Add=>zaz (xs.length+ys.length<=16777216) (Q (.tup (xs++ys)) S)|_=>False)|.ref a,.ref b=>(match op with|.Add=>wGet S a fun o=>wGet S b fun u=>(match o,u with|.lst xs,.lst ys=>wLay S (xs++ys) Q|_,_=>False)|_=>False)|_,_=>False
theorem zmP(h:wBin S op x y Q):W (binD S op x y) Q:=by
 unfold wBin at h;unfold binD;split at h
 . unfold zmQ zaz at h;unfold binI;split at h<;>(try dsimp only)<;>first|exact h|(rw[if_pos h.1];exact h.2)|exact False.elim h
 split at h
 . unfold zaz at h
   (try simp only)
   rw[if_pos h.1];exact h.2
 exact h.elim;split at h
 . unfold wGet wOpt at h
   (try simp only)
   cases ea:S.get _ with|none=>simp[ea]at h| some o=>simp[ea]at h;cases eb:S.get _ with|none=>simp[eb]at h| some u=>simp[eb]at h;cases o<;>cases u<;>first|exact zdb h|exact h.elim
 exact h.elim;exact h.elim
def wCmp(S:St)(op:CmpOp)(x y:D)(Q:Bool->Prop):Prop:=match x,y with|.int i,.int j=>(match cmpI op i j with|some k=>Q k|none=>False)| _,_=>(match op with|.Is=>(match cmpO S .Is x y with|some k=>Q k|none=>False)|.IsNot=>(match cmpO S .IsNot x y with|some k=>Q k|none=>False)|_=>wOpt (cmpO S op x y) Q)
theorem zmB(h:∀i j,x=.int i->y=.int j->False):cmpD S op x y=cmpO S op x y:=by unfold cmpD;split;rename_i i j;exact(h i j rfl rfl).elim;rfl
theorem zkW(h:wCmp S op x y Q):∃k,cmpD S op x y=some k/\Q k:=by
 have fin:∀o:Option Bool,(match o with|some k=>Q k|none=>False)->∃k,o=some k/\Q k:=fun o q=>by cases o with|none=>exact q.elim|some k=>exact⟨k,rfl,q⟩
 unfold wCmp at h;split at h;exact fin _ h;rename_i hn;rw[zmB hn];split at h;exact fin _ h;exact fin _ h;unfold wOpt at h;cases e:cmpO S op x y with|none=>rw[e]at h;exact h.elim|some k=>rw[e]at h;exact⟨k,rfl,h⟩
theorem zkk(h:wCmp S op x y fun k=>Q k S):W (lift S (cmpD S op x y)) Q:=by obtain⟨k,e,q⟩:=zkW h;rw[e];exact q
def wBi(S:St)(b:Bi)(ds:List D)(Q:D->St->Prop):Prop:=match b,ds with
 |.len,[x]=>(match x with
  |.tup ds=>Q (.int ds.length) S|.fix ds=>Q (.int ds.length) S|.ref l=>wGet S l fun o=>(match o with|.lst ds=>Q (.int ds.length) S|.d3 kvs=>Q (.int kvs.length) S|_=>False)|_=>False)
 |.abs,[.int i]=>Q (.int (if i<0 then -i else i)) S|.max2,[.int i,.int j]=>Q (.int (if j>i then j else i)) S|.min2,[.int i,.int j]=>Q (.int (if j<i then j else i)) S|.isin t,[x]=>wOpt (tyOf S x) fun a=>Q (.bl (a==t||(a=="bool"&&t=="int"))) S|_,_=>False
theorem zo7(h:wBi S b ds Q):W (bi S b ds) Q:=by
 unfold wBi at h;split at h;split at h;exact h;exact h;rename_i l;unfold wGet wOpt at h;simp[bi];cases e:S.get l with|none=>rw[e]at h;exact h.elim|some o=>rw[e]at h;cases o<;>first|exact h|exact h.elim
 exact h.elim;exact h;exact h;exact h;rename_i t x;unfold wOpt at h;simp[bi];cases e:tyOf S x with|none=>rw[e]at h;exact h.elim|some a=>rw[e]at h;exact h
 exact h.elim
def wIsL(S:St)(x:D)(P:Prop):Prop:=match x with|.ref l=>wGet S l fun o=>(match o with|.lst _=>P|_=>False)|_=>False
theorem zfc(h:wIsL S x P):isL S x=true/\P:=by
 unfold wIsL at h;split at h;rename_i l;unfold wGet wOpt at h;unfold isL;cases e:S.get l with|none=>rw[e]at h;exact h.elim| some o=>rw[e]at h;cases o with|lst ds=>exact⟨by simp[e],h⟩|_=>exact False.elim h
 exact h.elim
def wMt(S:St)(m:Mt)(x:D)(ds:List D)(Q:D->St->Prop):Prop:=match m,x,ds with|.append,.ref l,[y]=>wGet S l fun o=>(match o with|.lst ds=>wWr S l (ds++[y]) .non Q|_=>False)|_,_,_=>False
theorem zo4(h:wMt S m x ds Q):W (mt S m x ds) Q:=by
 unfold wMt at h;split at h;rename_i l y;unfold wGet wOpt at h;simp[mt];cases e:S.get l with|none=>rw[e]at h;exact h.elim|some o=>rw[e]at h;cases o<;>first|exact zkU h|exact h.elim
 exact h.elim
def wSeq(S:St)(x:D)(k:List D->Prop):Prop:=match x with|.tup ds=>k ds|.fix ds=>k ds|.ref l=>wGet S l fun o=>(match o with|.lst ds=>k ds|_=>False)|_=>False
theorem zha(h:wSeq S x k):∃ds,zbI S x=some ds/\k ds:=by
 unfold wSeq at h;unfold zbI;split at h;exact⟨_,rfl,h⟩;exact⟨_,rfl,h⟩;rename_i l;unfold wGet wOpt at h;cases e:S.get l with|none=>rw[e]at h;exact h.elim| some o=>rw[e]at h;cases o with|lst ds=>exact⟨ds,by simp[e],h⟩|_=>exact False.elim h
 exact h.elim
def wTru(S:St)(x:D)(Q:Bool->Prop):Prop:=match x with|.bl b=>Q b|.non=>Q false|.int i=>Q (i != 0)|.tup ds=>Q (!ds.isEmpty)|.ref l=>wGet S l fun o=>(match o with|.lst ds=>Q (!ds.isEmpty)|_=>False)|_=>False
theorem zmN(h:wTru S x fun k=>Q k S):W (lift S (tru S x)) Q:=by
 unfold wTru at h;unfold tru;split at h;exact h;exact h;exact h;exact h;rename_i l;unfold wGet wOpt at h;simp only;cases e:S.get l with|none=>rw[e]at h;exact h.elim|some o=>rw[e]at h;cases o<;>first|exact h|exact h.elim
 exact h.elim
@[irreducible]def zgv(ls:List Nat)(S:St)(f:St->Out α)(Q:α->St->Prop):Prop:=W (zbm ls S f) Q
theorem zhb(h:zgv ls S f Q):W (zbm ls S f) Q:=by unfold zgv at h;exact h
theorem zaG(h:W (f {S with lk:=ls++S.lk}) fun a T=>Q a {T with lk:=S.lk}):zgv ls S f Q:=by unfold zgv zbm;rw[zaa];exact h
section
variable(cf:CF)
mutual
def wE(e₀:CE)(δ:Ev)(S:St)(Q:(D->St->Prop)):Prop:=match e₀ with
 |.loc i=>(match (δ[i]?).join with|some d=>Q d S|none=>False)|.con d=>Q d S|.tst _=>False|.bin op a b=>wE a δ S fun x S1=>wE b δ S1 fun y S2=>wBin S2 op x y Q|.neg a=>wE a δ S fun x S1=>(match x with|.int i=>Q (.int (-i)) S1|_=>False)|.nt a=>wE a δ S fun x S1=>(match x with|.bl b=>Q (.bl (!b)) S1|_=>False)|.cmp op a b=>wE a δ S fun x S1=>wE b δ S1 fun y S2=>wCmp S2 op x y fun k=>Q (.bl k) S2|.and a b=>wE a δ S fun x S1=>(match x with|.bl k=>wIf k (wE b δ S1 Q) (Q (.bl false) S1)|_=>False)|.or a b=>wE a δ S fun x S1=>(match x with|.bl k=>wIf k (Q (.bl true) S1) (wE b δ S1 Q)|_=>False)|.ite c a b=>wT c δ S fun k S1=>wIf k (wE a δ S1 Q) (wE b δ S1 Q)|.tup es=>wEs es δ S fun ds S1=>zaz (ds.length<=16777216) (Q (.tup ds) S1)|.lst es=>wEs es δ S fun ds S1=>wLay S1 ds Q|.dnew=>Q (.ref S.len) (S.push (.dic []))|.dnew3=>Q (.ref S.len) (S.push (.d3 []))|.dnew4=>Q (.ref S.len) (S.push (.d4 []))|.dix3 a b=>wE a δ S fun x S1=>wE b δ S1 fun y S2=>wOpt (zgZ S2 x y) fun d=>Q d S2
 |.ext a l=>wE a δ S fun x S1=>wIsL S1 x (wL l δ S1 fun r S2=>(match x with
  |.ref p=>wGet S2 p fun o=>(match o with|.lst ds=>wWr S2 p (ds++r.1) .non Q|_=>False)|_=>False))
 |.srtK a=>wE a δ S fun r S1=>wOpt (zdk S1 r) fun q=>zaz (q.2.length<64/\q.2.Nodup) (wLay S1 (srtD q.1 q.2) Q)|.dgetI a b c=>wE a δ S fun x S1=>zaz (isDi S1 x=true) (wE b δ S1 fun y S2=>wE c δ S2 fun z S3=>wOpt (zeb S3 x y) fun o=>Q (o.getD z) S3)|.dsetI a b c=>wE a δ S fun x S1=>zaz (isDi S1 x=true) (wE b δ S1 fun y S2=>wE c δ S2 fun z S3=>wOpt (zc8 S3 x y z) fun o=>Q o.1 o.2)|.extv a b=>wE a δ S fun x S1=>wIsL S1 x (wE b δ S1 fun y S2=>wOpt (lsts S2 x y) fun o=>wWr S2 o.1 (o.2.1++o.2.2) .non Q)|.fld a f=>wE a δ S fun x S1=>wOpt ((zcu S1 x).bind fun p=>p.2.lookup f) fun v=>Q v S1|.mk c f _ j es=>wEs es δ S fun ds S1=>wOut (appW cf f (.ref S1.len::(ds++List.replicate j .non)) (S1.push (.ins c []))) fun d S2=>zaz (zkD d=true) (Q (.ref S1.len) S2)|.meth m tb o es=>wE o δ S fun x S1=>wOpt (zcu S1 x) fun p=>wOpt (tb.lookup p.1) fun f=>zaz ((p.2.lookup m).isNone=true) (wEs es δ S1 fun ds S2=>wOut (appW cf f (x::ds) S2) Q)|.callC f _ _ es=>wEs es δ S fun ds S1=>wOut (appW cf f ds S1) Q|.ix a b=>wE a δ S fun x S1=>wE b δ S1 fun y S2=>wSeq S2 x fun ds=>(match y with|.int i=>wOpt (atI ds i) fun d=>Q d S2|_=>False)
 |.sl a ml mh lo hi=>wE a δ S fun x S1=>wE lo δ S1 fun y S2=>wE hi δ S2 fun z S3=>(match zbt ml y,zbt mh z with
  |some l,some h=>(match x with
   |.tup ds=>Q (.tup (cut ds l h)) S3|.fix ds=>wLay S3 (cut ds l h) Q|.ref p=>wGet S3 p fun o=>(match o with|.lst ds=>wLay S3 (cut ds l h) Q|_=>False)|_=>False)
  |_,_=>False)
 |.call f j es=>wEs es δ S fun ds S1=>wOut (app cf f (ds++List.replicate j .non) S1) Q|.callW f j es=>wEs es δ S fun ds S1=>wOut (appW cf f (ds++List.replicate j .non) S1) Q|.bi b es=>wEs es δ S fun ds S1=>wBi S1 b ds Q|.mt m o es=>wE o δ S fun x S1=>wIsL S1 x (wEs es δ S1 fun ds S2=>wMt S2 m x ds Q)|.mkL l=>wL l δ S fun r S1=>wLay S1 r.1 Q|.mkT l=>wL l δ S fun r S1=>zaz (r.1.length<=16777216) (Q (.tup r.1) S1)
def wEs(e₀:CEs)(δ:Ev)(S:St)(Q:(List D->St->Prop)):Prop:=match e₀ with|.nil=>Q [] S|.cons e r=>wE e δ S fun d S1=>wEs r δ S1 fun ds S2=>Q (d::ds) S2
def wT(e₀:CE)(δ:Ev)(S:St)(Q:(Bool->St->Prop)):Prop:=match e₀ with|.cmp op a b=>wE a δ S fun x S1=>wE b δ S1 fun y S2=>wCmp S2 op x y fun k=>Q k S2|.nt a=>wT a δ S fun k S1=>Q (!k) S1|.and a b=>wT a δ S fun k S1=>wIf k (wT b δ S1 Q) (Q false S1)|.or a b=>wT a δ S fun k S1=>wIf k (Q true S1) (wT b δ S1 Q)|.tst e=>wE e δ S fun x S1=>wTru S1 x fun k=>Q k S1|_=>False
def wL(e₀:CL)(δ:Ev)(S:St)(Q:(List D×List Nat->St->Prop)):Prop:=match e₀ with
 |.val e=>wE e δ S fun x S1=>wSeq S1 x fun ds=>Q (ds,lkOf S1 x) S1|.rng1 a=>wE a δ S fun x S1=>(match x with|.int j=>zaz (-(2^62)<=j/\j<2^62) (Q ((List.range j.toNat).map fun(k:Nat)=>.int k,[]) S1)|_=>False)
 |.rng2 a b=>wE a δ S fun x S1=>wE b δ S1 fun y S2=>(match x,y with
  |.int i,.int j=>zaz (-(2^62)<=i/\i<2^62/\-(2^62)<=j/\j<2^62) (Q ((List.range (j-i).toNat).map fun(k:Nat)=>.int (i+k),[]) S2)|_,_=>False)
 |.enum a=>wE a δ S fun x S1=>wOpt (zdq S1 x) fun r=>Q r S1|.comp n js g it c e=>wL it δ S fun r S1=>zgv r.2 S1 (fun S2=>zax g (evT cf c) (evE cf e) r.1 (csl n js δ) S2) fun ds S3=>zaz (ds.length<=16777216) (Q (ds,[]) S3)
end
def wS(e₀:CS)(δ:Ev)(S:St)(Q:(Fl->St->Prop)):Prop:=match e₀ with|.nil=>Q (.nx δ) S|.stop=>False|.asg i e r=>wE cf e δ S fun x S1=>wS r (δ.set i (some x)) S1 Q|.asgT g e r=>wE cf e δ S fun x S1=>wOpt (asgG g x δ) fun δ'=>wS r δ' S1 Q|.setIx a b e r=>wE cf e δ S fun v S1=>wE cf a δ S1 fun x S2=>wE cf b δ S2 fun y S3=>wOpt (dPut S3 x y v) fun S4=>wS r δ S4 Q|.setF a f e r=>wE cf e δ S fun v S1=>wE cf a δ S1 fun x S2=>wOpt (zbK S2 x f v) fun S3=>wS r δ S3 Q|.ifS c t u r=>wT cf c δ S fun k S1=>wIf k (wS t δ S1 fun f S2=>(match f with|.nx δ'=>wS r δ' S2 Q|.rt d=>Q (.rt d) S2)) (wS u δ S1 fun f S2=>(match f with|.nx δ'=>wS r δ' S2 Q|.rt d=>Q (.rt d) S2))|.forS g l b r=>wL cf l δ S fun q S1=>zgv q.2 S1 (fun S2=>zaw g (exS cf b) q.1 δ S2) fun f S3=>(match f with|.nx δ'=>wS r δ' S3 Q|.rt d=>Q (.rt d) S3)|.ret e _=>wE cf e δ S fun x S1=>Q (.rt x) S1|.expr e r=>wE cf e δ S fun _ S1=>wS r δ S1 Q
end
section
variable{cf:CF}
mutual
theorem wE_W:∀(e:CE){δ:Ev}{S:St}{Q:D->St->Prop},wE cf e δ S Q->W (evE cf e δ S) Q
 |.loc i,δ,S,Q,h=>by simp only[evE];change(match (δ[i]?).join with|some d=>Q d S|none=>False) at h;cases e:(δ[i]?).join with|none=>rw[e]at h;exact h.elim|some d=>rw[e]at h;exact h
 |.con d,δ,S,Q,h=>by simp only[evE];exact h|.tst _,δ,S,Q,h=>False.elim h| .bin op a b,δ,S,Q,h=>by simp only[evE,zaa];exact(wE_W a h).mono fun x S1 h1=>(wE_W b h1).mono fun y S2 h2=>zmP h2| .neg a,δ,S,Q,h=>by simp only[evE,zaa];refine(wE_W a h).mono fun x S1 h1=>?_;cases x<;>first|exact h1|exact h1.elim
 |.nt a,δ,S,Q,h=>by simp only[evE,zaa];refine(wE_W a h).mono fun x S1 h1=>?_;cases x<;>first|exact h1|exact h1.elim
 |.cmp op a b,δ,S,Q,h=>by simp only[evE,zaa,W_ok];exact(wE_W a h).mono fun x S1 h1=>(wE_W b h1).mono fun y S2 h2=>zkk (Q:=fun k S=>Q (.bl k) S) h2| .and a b,δ,S,Q,h=>by
  simp only[evE,zaa];refine(wE_W a h).mono fun x S1 h1=>?_;cases x with
  |bl k=>unfold wIf at h1;cases k with|false=>exact h1|true=>exact wE_W b h1
  |_=>exact h1.elim
 |.or a b,δ,S,Q,h=>by
  simp only[evE,zaa];refine(wE_W a h).mono fun x S1 h1=>?_;cases x with
  |bl k=>unfold wIf at h1;cases k with|true=>exact h1|false=>exact wE_W b h1
  |_=>exact h1.elim
 |.ite c a b,δ,S,Q,h=>by simp only[evE,zaa];refine(wT_W c h).mono fun k S1 h1=>?_;unfold wIf at h1;cases k with|true=>exact wE_W a h1|false=>exact wE_W b h1
 |.tup es,δ,S,Q,h=>by simp only[evE,zaa];refine(zcZ es h).mono fun ds S1 h1=>?_;unfold zaz at h1;rw[if_pos h1.1];exact h1.2| .lst es,δ,S,Q,h=>by simp only[evE,zaa];exact(zcZ es h).mono fun ds S1 h1=>zdb h1|.dnew,δ,S,Q,h=>by simp only[evE];exact h| .dgetI a b c,δ,S,Q,h=>by simp only[evE,zaa];refine(wE_W a h).mono fun x S1 h1=>?_;unfold zaz at h1;rw[if_pos h1.1,zaa];refine(wE_W b h1.2).mono fun y S2 h2=>?_;rw[zaa];refine(wE_W c h2).mono fun z S3 h3=>?_;unfold wOpt at h3;cases e:zeb S3 x y with|none=>rw[e]at h3;exact h3.elim|some o=>rw[e]at h3;exact h3
 |.dsetI a b c,δ,S,Q,h=>by simp only[evE,zaa];refine(wE_W a h).mono fun x S1 h1=>?_;unfold zaz at h1;rw[if_pos h1.1,zaa];refine(wE_W b h1.2).mono fun y S2 h2=>?_;rw[zaa];refine(wE_W c h2).mono fun z S3 h3=>?_;unfold wOpt at h3;cases e:zc8 S3 x y z with|none=>rw[e]at h3;exact h3.elim|some o=>rw[e]at h3;exact h3
 |.extv a b,δ,S,Q,h=>by simp only[evE,zaa];refine(wE_W a h).mono fun x S1 h1=>?_;obtain⟨c,h1⟩:=zfc h1;rw[if_pos c,zaa];refine(wE_W b h1).mono fun y S2 h2=>?_;unfold wOpt at h2;cases e:lsts S2 x y with|none=>rw[e]at h2;exact h2.elim|some o=>rw[e]at h2;exact zkU h2
 |.fld a f,δ,S,Q,h=>by simp only[evE,zaa];refine(wE_W a h).mono fun x S1 h1=>?_;unfold wOpt at h1;cases e:(zcu S1 x).bind fun p=>p.2.lookup f with|none=>rw[e]at h1;exact h1.elim|some o=>rw[e]at h1;exact h1
 |.mk c f _ j es,δ,S,Q,h=>by simp only[evE,zaa];refine(zcZ es h).mono fun ds S1 h1=>?_;unfold wOut at h1;refine h1.mono fun d S2 h2=>?_;unfold zaz at h2;rw[if_pos h2.1];exact h2.2| .meth m tb o es,δ,S,Q,h=>by simp only[evE,zaa];refine(wE_W o h).mono fun x S1 h1=>?_;unfold wOpt at h1;cases e:zcu S1 x with|none=>rw[e]at h1;exact h1.elim| some p=>rw[e]at h1;dsimp only at h1;cases e2:tb.lookup p.1 with|none=>rw[e2]at h1;exact h1.elim| some f=>rw[e2]at h1;unfold zaz at h1;simp only[zaI,W_ok];rw[e2,zaI,W_ok,if_pos h1.1,zaa];refine(zcZ es h1.2).mono fun ds S2 h2=>?_;unfold wOut at h2;exact h2
 |.callC f _ _ es,δ,S,Q,h=>by simp only[evE,zaa];refine(zcZ es h).mono fun ds S1 h1=>?_;unfold wOut at h1;exact h1| .ix a b,δ,S,Q,h=>by
  simp only[evE,zaa];refine(wE_W a h).mono fun x S1 h1=>(wE_W b h1).mono fun y S2 h2=>?_;obtain⟨ds,e,h3⟩:=zha h2;rw[e];cases y with
  |int i=>unfold wOpt at h3;simp only at h3⊢;cases e2:atI ds i with|none=>rw[e2]at h3;exact h3.elim|some d=>rw[e2]at h3;exact h3
  |_=>exact h3.elim
 |.sl a ml mh lo hi,δ,S,Q,h=>by
  simp only[evE,zaa];refine(wE_W a h).mono fun x S1 h1=>(wE_W lo h1).mono fun y S2 h2=>(wE_W hi h2).mono fun z S3 h3=>?_;cases ey:zbt ml y with
  |none=>rw[ey]at h3;exact h3.elim| some l=>
   cases ez:zbt mh z with
   |none=>rw[ey,ez]at h3;exact h3.elim| some u=>
    rw[ey,ez]at h3;cases x with
    |tup ds=>exact h3|fix ds=>exact zdb h3| ref p=>unfold wGet wOpt at h3;simp only at h3⊢;cases e:S3.get p with|none=>rw[e]at h3;exact h3.elim|some o=>rw[e]at h3;cases o<;>first|exact zdb h3|exact h3.elim
    |_=>exact h3.elim
 |.call f j es,δ,S,Q,h=>by simp only[evE,zaa];refine(zcZ es h).mono fun ds S1 h1=>?_;unfold wOut at h1;exact h1| .callW f j es,δ,S,Q,h=>by simp only[evE,zaa];refine(zcZ es h).mono fun ds S1 h1=>?_;unfold wOut at h1;exact h1| .bi b es,δ,S,Q,h=>by simp only[evE,zaa];exact(zcZ es h).mono fun ds S1 h1=>zo7 h1| .mt m o es,δ,S,Q,h=>by simp only[evE,zaa];refine(wE_W o h).mono fun x S1 h1=>?_;obtain⟨c,h2⟩:=zfc h1;rw[if_pos c,zaa];exact(zcZ es h2).mono fun ds S2 h3=>zo4 h3| .mkL l,δ,S,Q,h=>by simp only[evE,zaa];exact(wL_W l h).mono fun ds S1 h1=>zdb h1| .mkT l,δ,S,Q,h=>by simp only[evE,zaa];refine(wL_W l h).mono fun r S1 h1=>?_;unfold zaz at h1;rw[if_pos h1.1];exact h1.2|.dnew3,δ,S,Q,h=>by simp only[evE];exact h|.dnew4,δ,S,Q,h=>by simp only[evE];exact h| .dix3 a b,δ,S,Q,h=>by simp only[evE,zaa];refine(wE_W a h).mono fun x S1 h1=>(wE_W b h1).mono fun y S2 h2=>?_;unfold wOpt at h2;cases e:zgZ S2 x y with|none=>rw[e]at h2;exact h2.elim|some d=>rw[e]at h2;exact h2
 |.ext a l,δ,S,Q,h=>by
  simp only[evE,zaa];refine(wE_W a h).mono fun x S1 h1=>?_;obtain⟨c,h1⟩:=zfc h1;rw[if_pos c,zaa];refine(wL_W l h1).mono fun r S2 h2=>?_;cases x with
  |ref p=>unfold wGet wOpt at h2;simp only at h2⊢;cases e:S2.get p with|none=>rw[e]at h2;exact h2.elim|some o=>rw[e]at h2;cases o<;>first|exact zkU h2|exact h2.elim
  |_=>exact h2.elim
 |.srtK a,δ,S,Q,h=>by simp only[evE,zaa];refine(wE_W a h).mono fun r S1 h1=>?_;unfold wOpt at h1;cases e:zdk S1 r with|none=>rw[e]at h1;exact h1.elim| some d=>rw[e]at h1;unfold zaz at h1;simp only[lift,W_ok];rw[if_pos h1.1];exact zdb h1.2
theorem zcZ:∀(es:CEs){δ:Ev}{S:St}{Q:List D->St->Prop},wEs cf es δ S Q->W (evEs cf es δ S) Q
 |.nil,δ,S,Q,h=>by simp only[evEs];exact h| .cons e r,δ,S,Q,h=>by simp only[evEs,zaa];exact(wE_W e h).mono fun d S1 h1=>(zcZ r h1).mono fun ds S2 h2=>h2
theorem wT_W:∀(e:CE){δ:Ev}{S:St}{Q:Bool->St->Prop},wT cf e δ S Q->W (evT cf e δ S) Q
 |.cmp op a b,δ,S,Q,h=>by simp only[evT,zaa];exact(wE_W a h).mono fun x S1 h1=>(wE_W b h1).mono fun y S2 h2=>zkk h2| .nt a,δ,S,Q,h=>by simp only[evT,zaa];exact(wT_W a h).mono fun k S1 h1=>h1| .and a b,δ,S,Q,h=>by simp only[evT,zaa];refine(wT_W a h).mono fun k S1 h1=>?_;unfold wIf at h1;cases k with|false=>exact h1|true=>exact wT_W b h1
 |.or a b,δ,S,Q,h=>by simp only[evT,zaa];refine(wT_W a h).mono fun k S1 h1=>?_;unfold wIf at h1;cases k with|true=>exact h1|false=>exact wT_W b h1
 |.tst e,δ,S,Q,h=>by simp only[evT,zaa];exact(wE_W e h).mono fun x S1 h1=>zmN h1|.loc i,δ,S,Q,h=>False.elim h|.con d,δ,S,Q,h=>False.elim h|.bin op a b,δ,S,Q,h=>False.elim h|.neg a,δ,S,Q,h=>False.elim h|.ite c a b,δ,S,Q,h=>False.elim h|.tup es,δ,S,Q,h=>False.elim h|.lst es,δ,S,Q,h=>False.elim h|.dnew,δ,S,Q,h=>False.elim h|.dgetI a b c,δ,S,Q,h=>False.elim h|.dsetI a b c,δ,S,Q,h=>False.elim h|.extv a b,δ,S,Q,h=>False.elim h|.fld a f,δ,S,Q,h=>False.elim h|.mk c f x j es,δ,S,Q,h=>False.elim h|.meth m tb o es,δ,S,Q,h=>False.elim h|.callC f x m es,δ,S,Q,h=>False.elim h|.ix a b,δ,S,Q,h=>False.elim h|.sl a ml mh lo hi,δ,S,Q,h=>False.elim h|.call f j es,δ,S,Q,h=>False.elim h|.callW f j es,δ,S,Q,h=>False.elim h|.bi b es,δ,S,Q,h=>False.elim h|.mt m o es,δ,S,Q,h=>False.elim h|.mkL l,δ,S,Q,h=>False.elim h|.mkT l,δ,S,Q,h=>False.elim h|.dnew3,δ,S,Q,h=>False.elim h|.dnew4,δ,S,Q,h=>False.elim h|.dix3 a b,δ,S,Q,h=>False.elim h|.ext a l,δ,S,Q,h=>False.elim h|.srtK a,δ,S,Q,h=>False.elim h
theorem wL_W:∀(l:CL){δ:Ev}{S:St}{Q:List D×List Nat->St->Prop},wL cf l δ S Q->W (evL cf l δ S) Q
 |.val e,δ,S,Q,h=>by simp only[evL,zaa];refine(wE_W e h).mono fun x S1 h1=>?_;obtain⟨ds,e,h2⟩:=zha h1;rw[e];exact h2| .rng1 a,δ,S,Q,h=>by simp only[evL,zaa];refine(wE_W a h).mono fun x S1 h1=>?_;cases x with| int j=>unfold zaz at h1;simp only;rw[if_pos h1.1];exact h1.2|_=>exact h1.elim
 |.rng2 a b,δ,S,Q,h=>by
  simp only[evL,zaa];refine(wE_W a h).mono fun x S1 h1=>(wE_W b h1).mono fun y S2 h2=>?_;cases x with
  |int i=>cases y with| int j=>unfold zaz at h2;simp only;rw[if_pos h2.1];exact h2.2|_=>exact h2.elim
  |_=>exact h2.elim
 |.enum a,δ,S,Q,h=>by simp only[evL,zaa];refine(wE_W a h).mono fun x S1 h1=>?_;unfold wOpt at h1;cases e:zdq S1 x with|none=>rw[e]at h1;exact h1.elim|some r=>rw[e]at h1;exact h1
 |.comp n js g it c e,δ,S,Q,h=>by simp only[evL,zaa];refine(wL_W it h).mono fun r S1 h1=>(zhb h1).mono fun ds S3 h3=>?_;unfold zaz at h3;rw[if_pos h3.1];exact h3.2
end
theorem wS_W:∀(s:CS){δ:Ev}{S:St}{Q:Fl->St->Prop},wS cf s δ S Q->W (exS cf s δ S) Q
 |.nil,δ,S,Q,h=>by simp[exS];exact h|.stop,δ,S,Q,h=>False.elim h| .asg i e r,δ,S,Q,h=>by simp[exS,zaa];exact(wE_W e h).mono fun x S1 h1=>wS_W r h1| .asgT g e r,δ,S,Q,h=>by simp[exS,zaa];refine(wE_W e h).mono fun x S1 h1=>?_;unfold wOpt at h1;cases e:asgG g x δ with|none=>rw[e]at h1;exact h1.elim|some d=>rw[e]at h1;exact wS_W r h1
 |.setIx a b e r,δ,S,Q,h=>by simp[exS,zaa];refine(wE_W e h).mono fun v S1 h1=>(wE_W a h1).mono fun x S2 h2=>(wE_W b h2).mono fun y S3 h3=>?_;unfold wOpt at h3;cases e:dPut S3 x y v with|none=>rw[e]at h3;exact h3.elim|some S4=>rw[e]at h3;exact wS_W r h3
 |.setF a f e r,δ,S,Q,h=>by simp[exS,zaa];refine(wE_W e h).mono fun v S1 h1=>(wE_W a h1).mono fun x S2 h2=>?_;unfold wOpt at h2;cases e:zbK S2 x f v with|none=>rw[e]at h2;exact h2.elim|some S3=>rw[e]at h2;exact wS_W r h2
 |.ifS c t u r,δ,S,Q,h=>by
  simp[exS,zaa];refine(wT_W c h).mono fun k S1 h1=>?_;have nx:∀(f:Fl)(S2:St),(match f with|.nx δ'=>wS cf r δ' S2 Q|.rt d=>Q (.rt d) S2)->W (match f with|.nx δ'=>exS cf r δ' S2|.rt d=>.ok (.rt d) S2) Q:=fun f S2 q=>by cases f with|nx δ'=>exact wS_W r q|rt d=>exact q
  cases k with|true=>exact(wS_W t h1).mono nx|false=>exact(wS_W u h1).mono nx
 |.forS g l b r,δ,S,Q,h=>by simp[exS,zaa];refine(wL_W l h).mono fun q S1 h1=>(zhb h1).mono fun f S2 q=>?_;cases f with|nx δ'=>exact wS_W r q|rt d=>exact q
 |.ret e r,δ,S,Q,h=>by simp[exS,zaa];exact(wE_W e h).mono fun x S1 h1=>h1| .expr e r,δ,S,Q,h=>by simp[exS,zaa];exact(wE_W e h).mono fun x S1 h1=>wS_W r h1
@[irreducible]def wFin(S:St)(r:Fl)(T:St)(Q:D->St->Prop):Prop:=W (fin S r T) Q
theorem zg7(h:P[f]?=some F)(hl:ds.length=F.np)(w:wS (callF P n) F.body (zau F ds) S.enter fun r T=>wFin S r T Q)(hp:F.prim=none:=by rfl) :
  W (app (callF P (n+1)) f ds S) Q:=by
 rw[ze7 h hl hp,zaa];refine(wS_W _ w).mono fun r T q=>?_;unfold wFin at q;exact q
theorem zgr(h:P[f]?=some F)(hl:ds.length=F.np)(w:wS (callF P n) F.body (zau F ds) S.enter fun r T=>wFin S r T fun a T'=>a=d/\T'=S')(hp:F.prim=none:=by rfl) :
 app (callF P (n+1)) f ds S=.ok d S':=W.eq (zg7 h hl w hp)
theorem zar(h:flat S.len d=true)(q:Q d S):wFin S (.rt d) T Q:=by unfold wFin;rw[zkI,zgP S d T h];exact q
theorem zej(hl:S.len<=l)(hg:T.get l=some (.lst ds))(h:flats S.len ds=true)(q:Q (.ref S.len) (S.push (.lst ds))):wFin S (.rt (.ref l)) T Q:=by
 have h0:flat S.len (.ref l)=false:=by simp[flat];omega
 unfold wFin;rw[zkI];unfold zb4;simp[h0,hg,h];exact q
end
structure Frm(S S':St):Prop where
 frz:S'.frz=S.frz
 lk:S'.lk=S.lk
 len:S.new.length<=S'.new.length
 same:∀l∈S.lk,l<S.len->S'.get l=S.get l
theorem Frm.refl(S:St):Frm S S:=⟨rfl,rfl,le_refl _,fun _ _ _=>rfl⟩
theorem Frm.lens(h:Frm S S'):S.len<=S'.len:=by unfold St.len;rw[h.frz];have:=h.len;omega
theorem Frm.trans(a:Frm S S1)(b:Frm S1 S2):Frm S S2:=⟨b.frz.trans a.frz,b.lk.trans a.lk,le_trans a.len b.len,fun l hl h=>(b.same l (by rw[a.lk];exact hl) (lt_of_lt_of_le h a.lens)).trans (a.same l hl h)⟩
theorem Frm.push(S:St)(o:MO):Frm S (S.push o):=by refine⟨rfl,rfl,by simp[St.push],fun l _ h=>?_⟩;unfold St.len at h;unfold St.get St.push;simp only;split;rfl;rw[getElem?_append_left (by omega)]
theorem Frm.put(h:S.put l o=some S'):Frm S S':=by
 unfold St.put at h;split at h;cases h;split at h;cases h;rename_i h1 h2;injection h with h;subst h;refine⟨rfl,rfl,by simp,fun m hm hl=>?_⟩;have hne:m≠l:=fun e=>by subst e;exact h2 (by simpa using hm)
 unfold St.get;simp only;split;rfl;rw[getElem?_set_ne (by omega)]
abbrev WF(S:St)(o:Out α)(Q:α->St->Prop):Prop:=W o fun a S'=>Q a S'/\Frm S S'
theorem WF.bind{f:α->St->Out β}(h:WF S o fun a S1=>W (f a S1) Q)(hf:∀a S1,W (f a S1) Q->WF S1 (f a S1) Q):WF S (o.bind f) Q:=by rw[WF,zaa];exact h.mono fun a S1 ⟨q,f1⟩=>(hf a S1 q).mono fun b S2 ⟨q2,f2⟩=>⟨q2,f1.trans f2⟩
theorem zgR(h:W (lay S ds) Q):WF S (lay S ds) Q:=by unfold lay at h⊢;split;rename_i c;rw[if_pos c]at h;exact⟨h,Frm.push _ _⟩;rename_i c;rw[if_neg c]at h;exact h.elim
theorem wr_F(h:W (wr S l ds d) Q):WF S (wr S l ds d) Q:=by
 unfold wr at h⊢;split;rename_i c;rw[if_pos c]at h;cases e:S.put l (.lst ds) with|none=>rw[e]at h;exact h.elim|some S'=>rw[e]at h;exact⟨h,Frm.put e⟩
 rename_i c;rw[if_neg c]at h;exact h.elim
theorem zaX(h:W (lift S o) Q):WF S (lift S o) Q:=by cases o with|none=>exact h.elim|some a=>exact⟨h,Frm.refl S⟩
theorem zoO(h:W (binD S op x y) Q):WF S (binD S op x y) Q:=by
 unfold binD at h⊢;split
 . unfold binI at h⊢;cases op<;>dsimp only at h⊢<;> first
    |exact⟨h,Frm.refl S⟩
    |exact h.elim
    | (split at h
       rename_i c;rw[if_pos c];exact⟨h,Frm.refl S⟩;exact h.elim)
 . dsimp only at h;cases op<;>dsimp only at h⊢<;> first
    |exact False.elim h
    | (split at h
       rename_i c;rw[if_pos c];exact⟨h,Frm.refl S⟩;exact False.elim h)
 dsimp only at h;split at h;exact zgR h;exact False.elim h;rename_i h1 h2 h3;split at h;exact(h1 _ _ rfl rfl).elim;exact(h2 _ _ rfl rfl).elim;exact(h3 _ _ rfl rfl).elim;exact False.elim h
theorem bi_F(h:W (bi S b ds) Q):WF S (bi S b ds) Q:=by
 unfold bi at h⊢;split;rename_i x;cases x with
 |tup ds=>exact⟨h,Frm.refl S⟩|fix ds=>exact⟨h,Frm.refl S⟩| ref l=>dsimp only at h⊢;cases e:S.get l with|none=>rw[e]at h;exact False.elim h|some o=>rw[e]at h;cases o<;>first|exact⟨h,Frm.refl S⟩|exact False.elim h
 |_=>exact False.elim h
 exact⟨h,Frm.refl S⟩;exact⟨h,Frm.refl S⟩;exact⟨h,Frm.refl S⟩;dsimp only at h;split at h;exact⟨h,Frm.refl S⟩;exact False.elim h;exact False.elim (by simpa using h)
theorem mt_F(h:W (mt S m x ds) Q):WF S (mt S m x ds) Q:=by unfold mt at h⊢;split;dsimp only at h;split at h;exact wr_F h;exact False.elim h;exact False.elim (by simpa using h)
theorem Frm.keep(S T:St):Frm S ⟨S.frz,S.new++T.new,S.lk⟩:=by refine⟨rfl,rfl,by simp,fun l _ h=>?_⟩;unfold St.len at h;unfold St.get;simp only;split;rfl;rw[getElem?_append_left (by omega)]
theorem zmH{f:α->St->Out β}(h:W (lift S o) fun a T=>W (f a T) Q):∃a,o=some a/\W (f a S) Q:=by cases o with|none=>exact h.elim|some a=>exact⟨a,rfl,h⟩
theorem zi7(h:zbK S x f v=some S'):Frm S S':=by unfold zbK at h;split at h;split at h;split at h;exact Frm.put h;cases h;cases h;cases h
theorem zkM(h:dPut S x y v=some S'):Frm S S':=by
 unfold dPut at h;split at h;split at h;cases e:zcn y with
 |none=>rw[e]at h;cases h
 |some k=>rw[e]at h;split at h;exact Frm.put h;cases h
 cases e:zcn y with
 |none=>rw[e]at h;cases h
 |some k=>
  rw[e,bind_some]at h;rename_i ds _;cases e2:ixN ds.length k with
  |none=>rw[e2]at h;cases h
  |some j=>rw[e2,bind_some]at h;exact Frm.put h
 cases e:key3 y with
 |none=>rw[e]at h;cases h
 |some k=>rw[e]at h;split at h;exact Frm.put h;cases h
 cases e:key4 y with
 |none=>rw[e]at h;cases h
 |some k=>rw[e]at h;split at h;exact Frm.put h;cases h
 cases h;cases h
theorem zmy(h:zc8 S x y v=some o):Frm S o.2:=by
 unfold zc8 at h;split at h;cases h;exact Frm.refl _;cases e:dPut S x y v with
 |none=>rw[e]at h;cases h
 |some T=>rw[e]at h;cases h;exact zkM e
 cases h
theorem zme(h:W (zb4 S d T) Q):WF S (zb4 S d T) Q:=by unfold zb4 at h⊢;split;rename_i c;rw[if_pos c]at h;exact⟨h,Frm.refl S⟩;rename_i c;rw[if_neg c]at h;split at h;split at h;split at h;rename_i c;rw[if_pos c];exact⟨h,Frm.push _ _⟩;rename_i c;rw[if_neg c];exact⟨h,Frm.keep _ _⟩;split at h;rename_i c;rw[if_pos c];exact⟨h,Frm.push _ _⟩;rename_i c;rw[if_neg c];exact⟨h,Frm.keep _ _⟩;exact⟨h,Frm.keep _ _⟩;exact⟨h,Frm.keep _ _⟩
theorem zp2(h:W (app cf f ds S) Q):WF S (app cf f ds S) Q:=by unfold app at h⊢;cases e:cf f ds S.enter with|ok d T=>rw[e]at h;exact zme h|bad=>rw[e]at h;exact h.elim
theorem Frm.unlock(h:Frm {S with lk:=ls++S.lk} T):Frm S {T with lk:=S.lk}:=⟨h.frz,rfl,h.len,fun l hl hn=>h.same l (mem_append_right _ hl) hn⟩
theorem zf7(h:W (zbm ls S f) Q)(hf:∀Q',W (f {S with lk:=ls++S.lk}) Q'->WF {S with lk:=ls++S.lk} (f {S with lk:=ls++S.lk}) Q'):WF S (zbm ls S f) Q:=by unfold zbm at h⊢;rw[zaa]at h;rw[WF,zaa];exact(hf _ h).mono fun a T ⟨q,fr⟩=>⟨q,fr.unlock⟩
theorem zdA(hc:∀δ S Q,W (c δ S) Q->WF S (c δ S) Q)(he:∀δ S Q,W (e δ S) Q->WF S (e δ S) Q) :
  ∀(xs:List D)(δ:Ev)(S:St)(Q:List D->St->Prop),W (zax g c e xs δ S) Q->WF S (zax g c e xs δ S) Q
 | [],δ,S,Q,h=>⟨h,Frm.refl S⟩| x::xs,δ,S,Q,h=>by simp[zax]at h⊢;cases ea:asgG g x δ with|none=>rw[ea]at h;exact h.elim| some δ'=>rw[ea]at h;rw[zaa]at h;refine WF.bind (hc _ _ _ h) fun b S1 h1=>?_;cases b with| false=>exact zdA hc he xs δ' S1 Q h1| true=>simp only[if_true]at h1⊢;rw[zaa]at h1;refine WF.bind (he _ _ _ h1) fun d S2 h2=>?_;rw[zaa]at h2;exact WF.bind (zdA hc he xs δ' S2 _ h2) fun ds S3 h3=>⟨h3,Frm.refl _⟩
theorem zfH(hb:∀δ S Q,W (b δ S) Q->WF S (b δ S) Q) :
  ∀(xs:List D)(δ:Ev)(S:St)(Q:Fl->St->Prop),W (zaw g b xs δ S) Q->WF S (zaw g b xs δ S) Q
 | [],δ,S,Q,h=>⟨h,Frm.refl S⟩| x::xs,δ,S,Q,h=>by simp[zaw]at h⊢;cases ea:asgG g x δ with|none=>rw[ea]at h;exact h.elim| some δ'=>rw[ea]at h;rw[zaa]at h;refine WF.bind (hb _ _ _ h) fun f S1 h1=>?_;cases f with|nx δ2=>exact zfH hb xs δ2 S1 Q h1|rt d=>exact⟨h1,Frm.refl _⟩
def CFok(cf:CF):Prop:=∀f ds S d T,cf f ds S=.ok d T->Frm S T
theorem appW_F(hcf:CFok cf)(h:W (appW cf f ds S) Q):WF S (appW cf f ds S) Q:=by unfold appW at h⊢;cases e:cf f ds S with|ok d T=>rw[e]at h;exact⟨h,hcf f ds S d T e⟩|bad=>rw[e]at h;exact h.elim
section
variable{cf:CF}(hcf:CFok cf)
include hcf
mutual
theorem zaq:∀(e:CE)(δ:Ev)(S:St)(Q:D->St->Prop),W (evE cf e δ S) Q->WF S (evE cf e δ S) Q
 |.loc i,δ,S,Q,h=>by simp only[evE]at h⊢;exact zaX h|.con d,δ,S,Q,h=>by simp only[evE]at h⊢;exact⟨h,Frm.refl S⟩|.tst _,δ,S,Q,h=>by simp only[evE]at h;exact h.elim| .bin op a b,δ,S,Q,h=>by simp only[evE]at h⊢;rw[zaa]at h;refine WF.bind (zaq a δ S _ h) fun x S1 h1=>?_;rw[zaa]at h1;exact WF.bind (zaq b δ S1 _ h1) fun y S2 h2=>zoO h2| .neg a,δ,S,Q,h=>by simp only[evE]at h⊢;rw[zaa]at h;refine WF.bind (zaq a δ S _ h) fun x S1 h1=>?_;cases x<;>first|exact⟨h1,Frm.refl _⟩|exact h1.elim
 |.nt a,δ,S,Q,h=>by simp only[evE]at h⊢;rw[zaa]at h;refine WF.bind (zaq a δ S _ h) fun x S1 h1=>?_;cases x<;>first|exact⟨h1,Frm.refl _⟩|exact h1.elim
 |.cmp op a b,δ,S,Q,h=>by simp only[evE]at h⊢;rw[zaa]at h;refine WF.bind (zaq a δ S _ h) fun x S1 h1=>?_;rw[zaa]at h1;refine WF.bind (zaq b δ S1 _ h1) fun y S2 h2=>?_;rw[zaa]at h2;exact WF.bind (zaX h2) fun k S3 h3=>⟨h3,Frm.refl _⟩| .and a b,δ,S,Q,h=>by
  simp only[evE]at h⊢;rw[zaa]at h;refine WF.bind (zaq a δ S _ h) fun x S1 h1=>?_;cases x with
  |bl k=>cases k with|false=>exact⟨h1,Frm.refl _⟩|true=>exact zaq b δ S1 Q h1
  |_=>exact h1.elim
 |.or a b,δ,S,Q,h=>by
  simp only[evE]at h⊢;rw[zaa]at h;refine WF.bind (zaq a δ S _ h) fun x S1 h1=>?_;cases x with
  |bl k=>cases k with|true=>exact⟨h1,Frm.refl _⟩|false=>exact zaq b δ S1 Q h1
  |_=>exact h1.elim
 |.ite c a b,δ,S,Q,h=>by simp only[evE]at h⊢;rw[zaa]at h;refine WF.bind (zd7 c δ S _ h) fun k S1 h1=>?_;cases k with|true=>exact zaq a δ S1 Q h1|false=>exact zaq b δ S1 Q h1
 |.tup es,δ,S,Q,h=>by simp only[evE]at h⊢;rw[zaa]at h;refine WF.bind (zbO es δ S _ h) fun ds S1 h1=>?_;split at h1;rename_i c;rw[if_pos c];exact⟨h1,Frm.refl _⟩;exact h1.elim| .lst es,δ,S,Q,h=>by simp only[evE]at h⊢;rw[zaa]at h;exact WF.bind (zbO es δ S _ h) fun ds S1 h1=>zgR h1|.dnew,δ,S,Q,h=>by simp only[evE]at h⊢;exact⟨h,Frm.push _ _⟩| .dgetI a b c,δ,S,Q,h=>by simp only[evE]at h⊢;rw[zaa]at h;refine WF.bind (zaq a δ S _ h) fun x S1 h1=>?_;split at h1;rename_i c;rw[if_pos c];rw[zaa]at h1;refine WF.bind (zaq b δ S1 _ h1) fun y S2 h2=>?_;rw[zaa]at h2;refine WF.bind (zaq _ δ S2 _ h2) fun z S3 h3=>?_;rw[zaa]at h3;exact WF.bind (zaX h3) fun k S3 h3=>⟨h3,Frm.refl _⟩;exact h1.elim| .dsetI a b c,δ,S,Q,h=>by simp only[evE]at h⊢;rw[zaa]at h;refine WF.bind (zaq a δ S _ h) fun x S1 h1=>?_;split at h1;rename_i c;rw[if_pos c];rw[zaa]at h1;refine WF.bind (zaq b δ S1 _ h1) fun y S2 h2=>?_;rw[zaa]at h2;refine WF.bind (zaq _ δ S2 _ h2) fun z S3 h3=>?_;rw[zaa]at h3;obtain⟨o,e,h4⟩:=zmH h3;rw[e];exact⟨h4,zmy e⟩;exact h1.elim| .extv a b,δ,S,Q,h=>by simp only[evE]at h⊢;rw[zaa]at h;refine WF.bind (zaq a δ S _ h) fun x S1 h1=>?_;split at h1;rename_i c;rw[if_pos c];rw[zaa]at h1;refine WF.bind (zaq b δ S1 _ h1) fun y S2 h2=>?_;rw[zaa]at h2;exact WF.bind (zaX h2) fun o S3 h3=>wr_F h3;exact h1.elim| .fld a f,δ,S,Q,h=>by simp only[evE]at h⊢;rw[zaa]at h;exact WF.bind (zaq a δ S _ h) fun x S1 h1=>zaX h1| .mk c f _ j es,δ,S,Q,h=>by simp only[evE]at h⊢;rw[zaa]at h;refine WF.bind (zbO es δ S _ h) fun ds S1 h1=>?_;rw[zaa]at h1;have h2:=(appW_F hcf h1:WF (S1.push (.ins c [])) _ _);refine WF.bind (h2.mono fun d T q=>⟨q.1,(Frm.push S1 _).trans q.2⟩) fun d S2 h3=>?_;split at h3;rename_i c;rw[if_pos c];exact⟨h3,Frm.refl _⟩;exact h3.elim| .meth m tb o es,δ,S,Q,h=>by simp only[evE]at h⊢;rw[zaa]at h;refine WF.bind (zaq o δ S _ h) fun x S1 h1=>?_;rw[zaa]at h1;refine WF.bind (zaX h1) fun p S2 h2=>?_;rw[zaa]at h2;refine WF.bind (zaX h2) fun f S3 h3=>?_;split at h3;rename_i c;rw[if_pos c];rw[zaa]at h3;exact WF.bind (zbO es δ S3 _ h3) fun ds S4 h4=>appW_F hcf h4;exact h3.elim| .callC f _ _ es,δ,S,Q,h=>by simp only[evE]at h⊢;rw[zaa]at h;exact WF.bind (zbO es δ S _ h) fun ds S1 h1=>appW_F hcf h1| .ix a b,δ,S,Q,h=>by simp only[evE]at h⊢;rw[zaa]at h;refine WF.bind (zaq a δ S _ h) fun x S1 h1=>?_;rw[zaa]at h1;refine WF.bind (zaq b δ S1 _ h1) fun y S2 h2=>?_;split at h2;exact zaX h2;exact h2.elim| .sl a ml mh lo hi,δ,S,Q,h=>by simp only[evE]at h⊢;rw[zaa]at h;refine WF.bind (zaq a δ S _ h) fun x S1 h1=>?_;rw[zaa]at h1;refine WF.bind (zaq lo δ S1 _ h1) fun y S2 h2=>?_;rw[zaa]at h2;refine WF.bind (zaq hi δ S2 _ h2) fun z S3 h3=>?_;split at h3;split at h3;exact⟨h3,Frm.refl _⟩;exact zgR h3;split at h3;exact zgR h3;exact h3.elim;exact h3.elim;exact h3.elim| .call f j es,δ,S,Q,h=>by simp only[evE]at h⊢;rw[zaa]at h;exact WF.bind (zbO es δ S _ h) fun ds S1 h1=>zp2 h1| .callW f j es,δ,S,Q,h=>by simp only[evE]at h⊢;rw[zaa]at h;exact WF.bind (zbO es δ S _ h) fun ds S1 h1=>appW_F hcf h1| .bi b es,δ,S,Q,h=>by simp only[evE]at h⊢;rw[zaa]at h;exact WF.bind (zbO es δ S _ h) fun ds S1 h1=>bi_F h1| .mt m o es,δ,S,Q,h=>by simp only[evE]at h⊢;rw[zaa]at h;refine WF.bind (zaq o δ S _ h) fun x S1 h1=>?_;split at h1;rename_i c;rw[if_pos c];rw[zaa]at h1;exact WF.bind (zbO es δ S1 _ h1) fun ds S2 h2=>mt_F h2;exact h1.elim| .mkL l,δ,S,Q,h=>by simp only[evE]at h⊢;rw[zaa]at h;exact WF.bind (ziv l δ S _ h) fun r S1 h1=>zgR h1| .mkT l,δ,S,Q,h=>by simp only[evE]at h⊢;rw[zaa]at h;refine WF.bind (ziv l δ S _ h) fun r S1 h1=>?_;split at h1;rename_i c;rw[if_pos c];exact⟨h1,Frm.refl _⟩;exact h1.elim|.dnew3,δ,S,Q,h=>by simp only[evE]at h⊢;exact⟨h,Frm.push _ _⟩|.dnew4,δ,S,Q,h=>by simp only[evE]at h⊢;exact⟨h,Frm.push _ _⟩| .dix3 a b,δ,S,Q,h=>by simp only[evE]at h⊢;rw[zaa]at h;refine WF.bind (zaq a δ S _ h) fun x S1 h1=>?_;rw[zaa]at h1;exact WF.bind (zaq b δ S1 _ h1) fun y S2 h2=>zaX h2| .ext a l,δ,S,Q,h=>by simp only[evE]at h⊢;rw[zaa]at h;refine WF.bind (zaq a δ S _ h) fun x S1 h1=>?_;split at h1;rename_i c;rw[if_pos c];rw[zaa]at h1;refine WF.bind (ziv l δ S1 _ h1) fun r S2 h2=>?_;split at h2;split at h2;exact wr_F h2;exact h2.elim;exact h2.elim;exact h1.elim| .srtK a,δ,S,Q,h=>by simp only[evE]at h⊢;rw[zaa]at h;refine WF.bind (zaq a δ S _ h) fun r S1 h1=>?_;rw[zaa]at h1;refine WF.bind (zaX h1) fun k S3 h3=>?_;split at h3;rename_i c;rw[if_pos c];exact zgR h3;exact h3.elim
theorem zbO:∀(es:CEs)(δ:Ev)(S:St)(Q:List D->St->Prop),W (evEs cf es δ S) Q->WF S (evEs cf es δ S) Q
 |.nil,δ,S,Q,h=>by simp only[evEs]at h⊢;exact⟨h,Frm.refl S⟩| .cons e r,δ,S,Q,h=>by simp only[evEs]at h⊢;rw[zaa]at h;refine WF.bind (zaq e δ S _ h) fun x S1 h1=>?_;rw[zaa]at h1;exact WF.bind (zbO r δ S1 _ h1) fun k S3 h3=>⟨h3,Frm.refl _⟩
theorem zd7:∀(e:CE)(δ:Ev)(S:St)(Q:Bool->St->Prop),W (evT cf e δ S) Q->WF S (evT cf e δ S) Q
 |.cmp op a b,δ,S,Q,h=>by simp only[evT]at h⊢;rw[zaa]at h;refine WF.bind (zaq a δ S _ h) fun x S1 h1=>?_;rw[zaa]at h1;exact WF.bind (zaq b δ S1 _ h1) fun y S2 h2=>zaX h2| .nt a,δ,S,Q,h=>by simp only[evT]at h⊢;rw[zaa]at h;exact WF.bind (zd7 a δ S _ h) fun k S3 h3=>⟨h3,Frm.refl _⟩| .and a b,δ,S,Q,h=>by simp only[evT]at h⊢;rw[zaa]at h;refine WF.bind (zd7 a δ S _ h) fun k S1 h1=>?_;cases k with|false=>exact⟨h1,Frm.refl _⟩|true=>exact zd7 b δ S1 Q h1
 |.or a b,δ,S,Q,h=>by simp only[evT]at h⊢;rw[zaa]at h;refine WF.bind (zd7 a δ S _ h) fun k S1 h1=>?_;cases k with|true=>exact⟨h1,Frm.refl _⟩|false=>exact zd7 b δ S1 Q h1
 |.tst e,δ,S,Q,h=>by simp only[evT]at h⊢;rw[zaa]at h;exact WF.bind (zaq e δ S _ h) fun k S3 h3=>zaX h3|.loc i,δ,S,Q,h=>by simp only[evT]at h;exact h.elim|.con d,δ,S,Q,h=>by simp only[evT]at h;exact h.elim|.bin op a b,δ,S,Q,h=>by simp only[evT]at h;exact h.elim|.neg a,δ,S,Q,h=>by simp only[evT]at h;exact h.elim|.ite c a b,δ,S,Q,h=>by simp only[evT]at h;exact h.elim|.tup es,δ,S,Q,h=>by simp only[evT]at h;exact h.elim|.lst es,δ,S,Q,h=>by simp only[evT]at h;exact h.elim|.dnew,δ,S,Q,h=>by simp only[evT]at h;exact h.elim|.dgetI a b c,δ,S,Q,h=>by simp only[evT]at h;exact h.elim|.dsetI a b c,δ,S,Q,h=>by simp only[evT]at h;exact h.elim|.extv a b,δ,S,Q,h=>by simp only[evT]at h;exact h.elim|.fld a f,δ,S,Q,h=>by simp only[evT]at h;exact h.elim|.mk c f x j es,δ,S,Q,h=>by simp only[evT]at h;exact h.elim|.meth m tb o es,δ,S,Q,h=>by simp only[evT]at h;exact h.elim|.callC f x m es,δ,S,Q,h=>by simp only[evT]at h;exact h.elim|.ix a b,δ,S,Q,h=>by simp only[evT]at h;exact h.elim|.sl a ml mh lo hi,δ,S,Q,h=>by simp only[evT]at h;exact h.elim|.call f j es,δ,S,Q,h=>by simp only[evT]at h;exact h.elim|.callW f j es,δ,S,Q,h=>by simp only[evT]at h;exact h.elim|.bi b es,δ,S,Q,h=>by simp only[evT]at h;exact h.elim|.mt m o es,δ,S,Q,h=>by simp only[evT]at h;exact h.elim|.mkL l,δ,S,Q,h=>by simp only[evT]at h;exact h.elim|.mkT l,δ,S,Q,h=>by simp only[evT]at h;exact h.elim|.dnew3,δ,S,Q,h=>by simp only[evT]at h;exact h.elim|.dnew4,δ,S,Q,h=>by simp only[evT]at h;exact h.elim|.dix3 a b,δ,S,Q,h=>by simp only[evT]at h;exact h.elim|.ext a l,δ,S,Q,h=>by simp only[evT]at h;exact h.elim|.srtK a,δ,S,Q,h=>by simp only[evT]at h;exact h.elim
theorem ziv:∀(l:CL)(δ:Ev)(S:St)(Q:List D×List Nat->St->Prop),W (evL cf l δ S) Q->WF S (evL cf l δ S) Q
 |.val e,δ,S,Q,h=>by simp only[evL]at h⊢;rw[zaa]at h;refine WF.bind (zaq e δ S _ h) fun x S1 h1=>?_;rw[zaa]at h1;exact WF.bind (zaX h1) fun k S3 h3=>⟨h3,Frm.refl _⟩| .rng1 a,δ,S,Q,h=>by simp only[evL]at h⊢;rw[zaa]at h;refine WF.bind (zaq a δ S _ h) fun x S1 h1=>?_;cases x with| int j=>dsimp only at h1⊢;split at h1;rename_i c;rw[if_pos c];exact⟨h1,Frm.refl _⟩;exact h1.elim|_=>exact h1.elim
 |.rng2 a b,δ,S,Q,h=>by simp only[evL]at h⊢;rw[zaa]at h;refine WF.bind (zaq a δ S _ h) fun x S1 h1=>?_;rw[zaa]at h1;refine WF.bind (zaq b δ S1 _ h1) fun y S2 h2=>?_;split at h2;split at h2;rename_i c;rw[if_pos c];exact⟨h2,Frm.refl _⟩;exact h2.elim;exact h2.elim| .enum a,δ,S,Q,h=>by simp only[evL]at h⊢;rw[zaa]at h;exact WF.bind (zaq a δ S _ h) fun x S1 h1=>zaX h1| .comp n js g it c e,δ,S,Q,h=>by simp only[evL]at h⊢;rw[zaa]at h;refine WF.bind (ziv it δ S _ h) fun r S1 h1=>?_;rw[zaa]at h1;exact WF.bind (zf7 h1 fun Q' h2=>zdA (fun δ S Q=>zd7 c δ S Q) (fun δ S Q=>zaq e δ S Q) _ _ _ _ h2) fun k S3 h3=>by split at h3;rename_i c;rw[if_pos c];exact⟨h3,Frm.refl _⟩;exact h3.elim
end
theorem zco:∀(s:CS)(δ:Ev)(S:St)(Q:Fl->St->Prop),W (exS cf s δ S) Q->WF S (exS cf s δ S) Q
 |.nil,δ,S,Q,h=>by simp[exS]at h⊢;exact⟨h,Frm.refl S⟩|.stop,δ,S,Q,h=>by simp only[exS]at h;exact h.elim| .asg i e r,δ,S,Q,h=>by simp only[exS]at h⊢;rw[zaa]at h;exact WF.bind (zaq hcf e δ S _ h) fun x S1 h1=>zco r _ S1 Q h1| .asgT g e r,δ,S,Q,h=>by simp only[exS]at h⊢;rw[zaa]at h;refine WF.bind (zaq hcf e δ S _ h) fun x S1 h1=>?_;rw[zaa]at h1;exact WF.bind (zaX h1) fun δ' S2 h2=>zco r _ S2 Q h2| .setIx a b e r,δ,S,Q,h=>by simp only[exS]at h⊢;rw[zaa]at h;refine WF.bind (zaq hcf e δ S _ h) fun v S1 h1=>?_;rw[zaa]at h1;refine WF.bind (zaq hcf a δ S1 _ h1) fun x S2 h2=>?_;rw[zaa]at h2;refine WF.bind (zaq hcf b δ S2 _ h2) fun y S3 h3=>?_;cases ed:dPut S3 x y v with|none=>rw[ed]at h3;exact h3.elim| some S4=>rw[ed]at h3;have f1:=zkM ed;have f2:=zco r δ S4 Q h3;exact f2.mono fun a T ⟨q,f⟩=>⟨q,f1.trans f⟩
 |.setF a f e r,δ,S,Q,h=>by simp only[exS]at h⊢;rw[zaa]at h;refine WF.bind (zaq hcf e δ S _ h) fun v S1 h1=>?_;rw[zaa]at h1;refine WF.bind (zaq hcf a δ S1 _ h1) fun x S2 h2=>?_;cases ed:zbK S2 x f v with|none=>rw[ed]at h2;exact h2.elim| some S3=>rw[ed]at h2;exact(zco r δ S3 Q h2).mono fun a S' q=>⟨q.1,(zi7 ed).trans q.2⟩
 |.ifS c t u r,δ,S,Q,h=>by
  simp only[exS]at h⊢;rw[zaa]at h;refine WF.bind (zd7 hcf c δ S _ h) fun k S1 h1=>?_;rw[zaa]at h1;refine WF.bind ?_ fun f S2 h2=>?_;cases k with|true=>exact zco t δ S1 _ h1|false=>exact zco u δ S1 _ h1
  cases f with|nx δ'=>exact zco r _ S2 Q h2|rt d=>exact⟨h2,Frm.refl _⟩
 |.forS g l b r,δ,S,Q,h=>by simp only[exS]at h⊢;rw[zaa]at h;refine WF.bind (ziv hcf l δ S _ h) fun q S1 h1=>?_;rw[zaa]at h1;refine WF.bind (zf7 h1 fun Q' h2=>zfH (fun δ S Q=>zco b δ S Q) _ _ _ _ h2) fun f S3 h3=>?_;cases f with|nx δ'=>exact zco r _ S3 Q h3|rt d=>exact⟨h3,Frm.refl _⟩
 |.ret e r,δ,S,Q,h=>by simp only[exS]at h⊢;rw[zaa]at h;exact WF.bind (zaq hcf e δ S _ h) fun x S1 h1=>⟨h1,Frm.refl _⟩| .expr e r,δ,S,Q,h=>by simp only[exS]at h⊢;rw[zaa]at h;exact WF.bind (zaq hcf e δ S _ h) fun x S1 h1=>zco r _ S1 Q h1
end
end R
namespace R
open PySem L2
def KL(K:Frag)(a:Addr)(xs:List V):Prop:=∃(o:Obj) (its:Array Value) (n:Nat),K.lookup a=some o/\o.cls=.type "list"/\o.dict=none/\o.data=.seq its n/\its.size<=sizeLine/\Vals xs its.toList
def FixL(K:Frag)(H:Hp)(a:Addr)(xs:List V):Prop:=(∃o,H a=some (.frz o (.lst xs)))\/KL K a xs
theorem FixL.sq(h:FixL K H a xs):SqL K H a xs:=h.elim (fun⟨o,e⟩=>.inl (.inr ⟨o,e⟩)) .inr
class Mks where
 ts:List (Addr×Str)
 cl:List Addr
variable[Mks]
def TabIn(H:Hp)(P:Addr)(q:Str):Prop:=∃ps:Array Value,H P=some (.tbl ps)/\TriplesOk ps.toList/\
 ∀(pos:Pos)(v:Value),codeAmong pos ps.toList=some v->∃(c:Addr) (oc:Obj) (vs:Array Value) (t:Tok),v=.ref c/\H c=some (.frz oc (.own 0))/\oc.data=.fields vs/\vs[1]?=some (.str q t)
theorem TabIn.up(t:TabIn H P q)(e:H' P=H P)(f:∀b o u,H b=some (.frz o u)->H' b=some (.frz o u)):TabIn H' P q:=by obtain⟨ps,h1,h2,h3⟩:=t;refine⟨ps,by rw[e];exact h1,h2,fun pos v hv=>?_⟩;obtain⟨c,oc,vs,t,a1,a2,a3⟩:=h3 pos v hv;exact⟨c,oc,vs,t,a1,f _ _ _ a2,a3⟩
def TB(H:Hp):Prop:=∀p∈Mks.ts,TabIn H p.1 p.2
structure Kp(H H':Hp):Prop where
 tups:Tups H H'
 frzs:∀b o u,H b=some (.frz o u)->H' b=some (.frz o u)
 tab:TB H->TB H'
theorem Kp.refl(H:Hp):Kp H H:=⟨Tups.refl H,fun _ _ _ h=>h,fun h=>h⟩
theorem Kp.trans(a:Kp H H1)(b:Kp H1 H2):Kp H H2:=⟨a.tups.trans b.tups,fun c o u h=>b.frzs c o u (a.frzs c o u h),fun h=>b.tab (a.tab h)⟩
theorem Kp.same(a:Tups H H')(b:∀b o u,H b=some (.frz o u)->H' b=some (.frz o u))(c:∀P ps,H P=some (.tbl ps)->H' P=some (.tbl ps)):Kp H H':=⟨a,b,fun h p hp=>by obtain⟨ps,h1,_⟩:=id (h p hp);exact(h p hp).up ((c _ _ h1).trans h1.symm) b⟩
theorem FixL.kp(h:FixL K H a xs)(k:Kp H H'):FixL K H' a xs:=h.elim (fun⟨o,e⟩=>.inl ⟨o,k.frzs _ _ _ e⟩) .inr
mutual
def RV(K:Frag)(ι:List Addr)(H:Hp):D->V->Prop
 |.non,v=>v=.non|.bl b,v=>v=.bl b|.int i,v=>v=.int i|.str x,v=>v=.str x|.tup ds,v=>∃a xs,v=.ref a/\H a=some (.tup xs)/\RVs K ι H ds xs|.ref l,v=>∃a,ι[l]?=some a/\v=.ref a|.fix ds,v=>∃a xs,v=.ref a/\FixL K H a xs/\RVs K ι H ds xs
def RVs(K:Frag)(ι:List Addr)(H:Hp):List D->List V->Prop
 | [],vs=>vs=[]|d::ds,vs=>∃v r,vs=v::r/\RV K ι H d v/\RVs K ι H ds r
end
def RIs(K:Frag)(ι:List Addr)(H:Hp):List (Int×D)->List (Key×V)->Prop
 | [],ws=>ws=[]|(k,d)::r,ws=>∃v w,ws=((Sum.inl k:Key),v)::w/\RV K ι H d v/\RIs K ι H r w
def RFs(K:Frag)(ι:List Addr)(H:Hp):List (Str×D)->List (Str×V)->Prop
 | [],ws=>ws=[]|(f,d)::r,ws=>∃v w,ws=(f,v)::w/\RV K ι H d v/\RFs K ι H r w
def R3s{κ:Type}[DecidableEq κ](dk:DK κ)(K:Frag)(ι:List Addr)(H:Hp):List (κ×D)->List (κ×Addr×V)->Prop
 | [],ws=>ws=[]|(k,d)::r,ws=>∃c v w,ws=(k,c,v)::w/\dk.Key H k c/\RV K ι H d v/\R3s dk K ι H r w
def RO(K:Frag)(ι:List Addr)(H:Hp)(a:Addr):MO->Prop
 |.lst ds=>∃xs,H a=some (.lst xs)/\RVs K ι H ds xs|.dic kvs=>(kvs.map (·.1)).Nodup/\∃ws,H a=some (.dK ws)/\RIs K ι H kvs ws|.ins c fs=>∃C dx ws,Mks.cl[c]?=some C/\H a=some (.ins C dx ws)/\RFs K ι H fs ws|.d3 kvs=>(kvs.map (·.1)).Nodup/\∃ws,H a=some (.ext (TriO dk3 a ws))/\R3s dk3 K ι H kvs ws|.d4 kvs=>(kvs.map (·.1)).Nodup/\∃ws,H a=some (.ext (TriO dk4 a ws))/\R3s dk4 K ι H kvs ws
structure RH(K:Frag)(ι:List Addr)(H:Hp)(S:St):Prop where
 len:ι.length=S.len
 nd:ι.Nodup
 obj:∀l o,S.get l=some o->∃a,ι[l]?=some a/\RO K ι H a o
 tab:TB H
structure Ext(ι:List Addr)(H:Hp)(ι':List Addr)(H':Hp):Prop where
 pre:ι <+: ι'
 kp:Kp H H'
 rest:∀a o,a∉ι->H a=some o->(H' a=some o\/((∃ps,o=.tbl ps)/\∃ps,H' a=some (.tbl ps)))/\a∉ι'
theorem Ext.refl(ι:List Addr)(H:Hp):Ext ι H ι H:=⟨prefix_refl _,Kp.refl H,fun a o h e=>⟨.inl e,h⟩⟩
theorem Ext.trans(a:Ext ι H ι1 H1)(b:Ext ι1 H1 ι2 H2):Ext ι H ι2 H2:=⟨a.pre.trans b.pre,a.kp.trans b.kp,fun x o h e=>by obtain⟨e1,h1⟩:=a.rest x o h e;rcases e1 with e1|⟨t,ps,e1⟩;exact b.rest x o h1 e1;obtain⟨e2,h2⟩:=b.rest x _ h1 e1;refine⟨.inr ⟨t,?_⟩,h2⟩;rcases e2 with e2|⟨_,e2⟩;exact⟨ps,e2⟩;exact e2⟩
theorem Ext.keep(x:Ext ι H ι1 H1)(h:a∉ι)(e:H a=some o)(n:∀ps,o≠.tbl ps):H1 a=some o:=(x.rest a o h e).1.elim id fun⟨⟨ps,z⟩,_⟩=>absurd z (n ps)
theorem zbs{ι ι':List Addr}(h:ι <+: ι'){l:Nat}(e:ι[l]?=some a):ι'[l]?=some a:=by obtain⟨t,rfl⟩:=h;rw[getElem?_append_left (List.getElem?_eq_some_iff.mp e).1];exact e
mutual
theorem RV.up{K:Frag}{ι ι':List Addr}{H H':Hp}(hp:ι <+: ι')(hk:Kp H H'):∀{d:D}{v:V},RV K ι H d v->RV K ι' H' d v
 |.non,_,r=>r|.bl _,_,r=>r|.int _,_,r=>r|.str _,_,r=>r| .tup ds,_,r=>by obtain⟨a,xs,e,ha,q⟩:=r;exact⟨a,xs,e,hk.tups _ _ ha,RVs.up hp hk q⟩| .ref l,_,r=>by obtain⟨a,e,q⟩:=r;exact⟨a,zbs hp e,q⟩| .fix ds,_,r=>by obtain⟨a,xs,e,ha,q⟩:=r;exact⟨a,xs,e,ha.kp hk,RVs.up hp hk q⟩
theorem RVs.up{K:Frag}{ι ι':List Addr}{H H':Hp}(hp:ι <+: ι')(hk:Kp H H'):∀{ds:List D}{vs:List V},RVs K ι H ds vs->RVs K ι' H' ds vs
 | [],_,r=>r| d::ds,vs,r=>by obtain⟨v,w,e,r1,r2⟩:=r;exact⟨v,w,e,RV.up hp hk r1,RVs.up hp hk r2⟩
end
theorem RIs.up(hp:ι <+: ι')(hk:Kp H H'):∀{kvs:List (Int×D)}{ws:List (Key×V)},RIs K ι H kvs ws->RIs K ι' H' kvs ws
 | [],_,r=>r| (k,d)::kvs,ws,r=>by obtain⟨v,w,e,r1,r2⟩:=r;exact⟨v,w,e,RV.up hp hk r1,RIs.up hp hk r2⟩
theorem RFs.up(hp:ι <+: ι')(hk:Kp H H'):∀{fs:List (Str×D)}{ws:List (Str×V)},RFs K ι H fs ws->RFs K ι' H' fs ws
 | [],_,h=>h| (f,d)::r,_,h=>by obtain⟨v,w,e,r1,r2⟩:=h;exact⟨v,w,e,RV.up hp hk r1,RFs.up hp hk r2⟩
theorem RFs.length:∀{fs:List (Str×D)}{ws:List (Str×V)},RFs K ι H fs ws->ws.length=fs.length
 | [],_,h=>by cases h;rfl| (f,d)::r,_,h=>by obtain⟨v,w,rfl,r1,r2⟩:=h;simp[RFs.length r2]
theorem RFs.look(f:Str):∀{fs:List (Str×D)}{ws:List (Str×V)},RFs K ι H fs ws->(fs.lookup f=none/\ws.lookup f=none)\/∃d v,fs.lookup f=some d/\ws.lookup f=some v/\RV K ι H d v
 | [],_,h=>by cases h;exact .inl ⟨rfl,rfl⟩| (g,d)::r,_,h=>by
  obtain⟨v,w,rfl,r1,r2⟩:=h;by_cases c:(f==g)=true;exact .inr ⟨d,v,by simp[List.lookup,c],by simp[List.lookup,c],r1⟩;have c:(f==g)=false:=by simpa using c
  simp only[List.lookup,c];exact RFs.look f r2
theorem RFs.put(f:Str)(q:RV K ι H d v):∀{fs:List (Str×D)}{ws:List (Str×V)},RFs K ι H fs ws->RFs K ι H (zhx f d fs) (putF f v ws)
 | [],_,h=>by cases h;exact⟨v,[],rfl,q,rfl⟩| (g,x)::r,_,h=>by obtain⟨u,w,rfl,r1,r2⟩:=h;unfold zhx putF;by_cases c:g=f;rw[if_pos c,if_pos c];exact⟨v,w,rfl,q,r2⟩;rw[if_neg c,if_neg c];exact⟨u,_,rfl,r1,RFs.put f q r2⟩
theorem RIs.length:∀{kvs:List (Int×D)}{ws:List (Key×V)},RIs K ι H kvs ws->ws.length=kvs.length
 | [],_,r=>by rw[show _=[] from r];rfl| (k,d)::kvs,ws,r=>by obtain⟨v,w,rfl,_,r2⟩:=r;simp[RIs.length r2]
theorem zhw[DecidableEq κ]{x:κ×V}(h:x.1≠k):putK (x::r) k v=x::putK r k v:=by unfold putK;have:decide (x.1=k)=false:=decide_eq_false h;simp only[any_cons,this,Bool.false_or];split;rw[map_cons,if_neg h];rfl
theorem RIs.keys:∀{kvs:List (Int×D)}{ws:List (Key×V)},RIs K ι H kvs ws->ws.map (·.1)=kvs.map (fun p=>(Sum.inl p.1:Key))
 | [],_,r=>by rw[show _=[] from r];rfl| (k,d)::kvs,ws,r=>by obtain⟨v,w,rfl,_,r2⟩:=r;simp[RIs.keys r2]
theorem RIs.put(k:Int)(q:RV K ι H d v):∀{kvs:List (Int×D)}{ws:List (Key×V)},(kvs.map (·.1)).Nodup->RIs K ι H kvs ws->RIs K ι H (putI kvs k d) (putK ws (Sum.inl k:Key) v)
 | [],_,_,r=>by rw[show _=[] from r];exact⟨v,[],rfl,q,rfl⟩| (j,e)::kvs,ws,nd,r=>by
  obtain⟨u,w,rfl,r1,r2⟩:=r;simp only[map_cons,nodup_cons]at nd;by_cases z:j=k;subst z;have h1:putI ((j,e)::kvs) j d=(j,d)::kvs:=by simp[putI]
  have h2:putK (((Sum.inl j:Key),u)::w) (Sum.inl j:Key) v=((Sum.inl j:Key),v)::w:=by
   unfold putK;have:((((Sum.inl j:Key),u)::w).any fun kv=>decide (kv.1=(Sum.inl j:Key)))=true:=by simp
   rw[if_pos this,map_cons,if_pos rfl,List.map_congr_left,List.map_id];intro kv hkv;have hm:kv.1∈w.map (·.1):=mem_map.mpr ⟨kv,hkv,rfl⟩;rw[r2.keys]at hm;obtain⟨p,hp,ep⟩:=mem_map.mp hm;have:kv.1≠(Sum.inl j:Key):=fun y=>nd.1 (by
    rw[<-ep]at y;rw[<-Sum.inl.inj y];exact mem_map.mpr ⟨p,hp,rfl⟩)
   simp[this]
  rw[h1,h2];exact⟨v,w,rfl,q,r2⟩;have h1:putI ((j,e)::kvs) k d=(j,e)::putI kvs k d:=by simp[putI,z]
  have h2:putK (((Sum.inl j:Key),u)::w) (Sum.inl k:Key) v=((Sum.inl j:Key),u)::putK w (Sum.inl k:Key) v:=zhw fun y=>z (Sum.inl.inj y);rw[h1,h2];exact⟨u,_,rfl,r1,RIs.put k q nd.2 r2⟩
theorem zeB(k:Int)(d:D):∀kvs:List (Int×D),(putI kvs k d).map (·.1)=if k∈kvs.map (·.1) then kvs.map (·.1) else kvs.map (·.1)++[k]
 | []=>by simp[putI]| (j,e)::r=>by unfold putI;by_cases z:j=k;subst z;simp;have ih:=zeB k d r;rw[if_neg z];simp only[map_cons,mem_cons,ih];by_cases h:k∈r.map (·.1);rw[if_pos h,if_pos (.inr h)];rw[if_neg h,if_neg (by rintro(y|y);exact z y.symm;exact h y)];rfl
theorem zdh(h:(kvs.map (·.1)).Nodup):((putI kvs k d).map (·.1)).Nodup:=by rw[zeB];split;exact h;rename_i n;rw[nodup_append];refine⟨h,by simp,fun a ha b hb=>?_⟩;rw[mem_singleton]at hb;subst hb;exact fun z=>n (z▸ha)
theorem RV.ext(h:Ext ι H ι' H')(r:RV K ι H d v):RV K ι' H' d v:=r.up h.pre h.kp
theorem RVs.ext(h:Ext ι H ι' H')(r:RVs K ι H ds vs):RVs K ι' H' ds vs:=r.up h.pre h.kp
theorem RVs.length:∀{ds:List D}{vs:List V},RVs K ι H ds vs->vs.length=ds.length
 | [],_,r=>by rw[show _=[] from r];rfl| d::ds,vs,r=>by obtain⟨v,w,rfl,_,r2⟩:=r;simp[RVs.length r2]
theorem RVs.get:∀{ds:List D}{vs:List V}{i:Nat}{d:D},RVs K ι H ds vs->ds[i]?=some d->∃v,vs[i]?=some v/\RV K ι H d v
 | [],_,_,_,_,e=>by simp at e| d::ds,vs,0,d',r,e=>by obtain⟨v,w,rfl,r1,_⟩:=r;simp at e;subst e;exact⟨v,rfl,r1⟩| d::ds,vs,i+1,d',r,e=>by obtain⟨v,w,rfl,_,r2⟩:=r;obtain⟨u,e1,e2⟩:=RVs.get r2 (by simpa using e);exact⟨u,by simpa using e1,e2⟩
theorem RVs.get'{i:Nat}(r:RVs K ι H ds vs)(e:vs[i]?=some v):∃d,ds[i]?=some d/\RV K ι H d v:=by
 have hi:i<ds.length:=by rw[<-r.length];exact(List.getElem?_eq_some_iff.mp e).1
 obtain⟨u,e1,e2⟩:=r.get (getElem?_eq_getElem hi);rw[e]at e1;cases e1;exact⟨_,getElem?_eq_getElem hi,e2⟩
theorem RVs.append:∀{ds es:List D}{vs us:List V},RVs K ι H ds vs->RVs K ι H es us->RVs K ι H (ds++es) (vs++us)
 | [],_,_,_,r,q=>by rw[show _=[] from r];exact q| d::ds,es,vs,us,r,q=>by obtain⟨v,w,rfl,r1,r2⟩:=r;exact⟨v,w++us,rfl,r1,RVs.append r2 q⟩
theorem RVs.take:∀{ds:List D}{vs:List V}(n:Nat),RVs K ι H ds vs->RVs K ι H (ds.take n) (vs.take n)
 |_,_,0,_=>rfl| [],_,n+1,r=>by rw[show _=[] from r];rfl| d::ds,vs,n+1,r=>by obtain⟨v,w,rfl,r1,r2⟩:=r;exact⟨v,w.take n,rfl,r1,RVs.take n r2⟩
theorem RVs.drop:∀{ds:List D}{vs:List V}(n:Nat),RVs K ι H ds vs->RVs K ι H (ds.drop n) (vs.drop n)
 |_,_,0,r=>r| [],_,n+1,r=>by rw[show _=[] from r];rfl| d::ds,vs,n+1,r=>by obtain⟨v,w,rfl,r1,r2⟩:=r;exact RVs.drop n r2
theorem RVs.set(q:RV K ι H d v):∀{ds:List D}{vs:List V}(n:Nat),RVs K ι H ds vs->RVs K ι H (ds.set n d) (vs.set n v)
 | [],_,n,r=>by rw[show _=[] from r];rfl| _::ds,vs,0,r=>by obtain⟨_,w,rfl,r1,r2⟩:=r;exact⟨v,w,rfl,q,r2⟩| _::ds,vs,n+1,r=>by obtain⟨u,w,rfl,r1,r2⟩:=r;exact⟨u,w.set n v,rfl,r1,RVs.set q n r2⟩
theorem RVs.ints:∀ns:List Int,RVs K ι H (ns.map D.int) (ns.map V.int)
 | []=>rfl|n::ns=>⟨_,_,rfl,rfl,RVs.ints ns⟩
theorem RVs.ints_eq:∀{ns:List Int}{vs:List V},RVs K ι H (ns.map D.int) vs->vs=ns.map V.int
 | [],_,h=>h| n::ns,vs,h=>by obtain⟨v,r,rfl,h1,h2⟩:=h;rw[RVs.ints_eq h2,show v=.int n from h1];rfl
theorem zj1:∀{ds:List D}{ns:List Int},zaL ds=some ns->ds=ns.map D.int:=by
 intro ds;unfold zaL;induction ds with
 |nil=>intro ns h;simp at h;subst h;rfl| cons d ds ih=>
  intro ns h;rw[mapM_cons]at h;cases d with
  |int i=>cases e:List.mapM zcn ds with|none=>rw[e]at h;simp at h|some ms=>rw[e]at h;simp[zcn]at h;subst h;simp[ih e]
  |_=>simp[zcn]at h
mutual
theorem RV.flat{K:Frag}{ι:List Addr}{H:Hp}:∀{d:D}{v:V},RV K ι H d v->R.flat ι.length d=true
 |.non,_,_=>by simp[R.flat]|.bl _,_,_=>by simp[R.flat]|.int _,_,_=>by simp[R.flat]|.str _,_,_=>by simp[R.flat]| .tup ds,_,r=>by obtain⟨a,xs,e,ha,q⟩:=r;simp only[R.flat];exact RVs.flats q| .ref l,_,r=>by obtain⟨a,e,q⟩:=r;simp only[R.flat,decide_eq_true_eq];exact(List.getElem?_eq_some_iff.mp e).1| .fix ds,_,r=>by obtain⟨a,xs,e,ha,q⟩:=r;simp only[R.flat];exact RVs.flats q
theorem RVs.flats{K:Frag}{ι:List Addr}{H:Hp}:∀{ds:List D}{vs:List V},RVs K ι H ds vs->R.flats ι.length ds=true
 | [],_,_=>by simp[R.flats]| d::ds,vs,r=>by obtain⟨v,w,e,r1,r2⟩:=r;simp only[R.flats,and_eq_true];exact⟨RV.flat r1,RVs.flats r2⟩
end
mutual
theorem RV.restrict{K:Frag}{ι ι':List Addr}{H:Hp}(hp:ι <+: ι'):∀{d:D}{v:V},R.flat ι.length d=true->RV K ι' H d v->RV K ι H d v
 |.non,_,_,r=>r|.bl _,_,_,r=>r|.int _,_,_,r=>r|.str _,_,_,r=>r| .tup ds,_,f,r=>by obtain⟨a,xs,e,ha,q⟩:=r;simp only[R.flat]at f;exact⟨a,xs,e,ha,RVs.restrict hp f q⟩| .ref l,_,f,r=>by obtain⟨a,e,q⟩:=r;simp only[R.flat,decide_eq_true_eq]at f;refine⟨a,?_,q⟩;obtain⟨t,rfl⟩:=hp;rw[getElem?_append_left f]at e;exact e| .fix ds,_,f,r=>by obtain⟨a,xs,e,ha,q⟩:=r;simp only[R.flat]at f;exact⟨a,xs,e,ha,RVs.restrict hp f q⟩
theorem RVs.restrict{K:Frag}{ι ι':List Addr}{H:Hp}(hp:ι <+: ι'):∀{ds:List D}{vs:List V},R.flats ι.length ds=true->RVs K ι' H ds vs->RVs K ι H ds vs
 | [],_,_,r=>r| d::ds,vs,f,r=>by obtain⟨v,w,e,r1,r2⟩:=r;simp only[R.flats,and_eq_true]at f;exact⟨v,w,e,RV.restrict hp f.1 r1,RVs.restrict hp f.2 r2⟩
end
theorem RIs.flats:∀{kvs:List (Int×D)}{ws:List (Key×V)},RIs K ι H kvs ws->R.flats ι.length (kvs.map (·.2))=true
 | [],_,_=>by simp| (k,d)::kvs,ws,r=>by obtain⟨v,w,e,r1,r2⟩:=r;simp;exact⟨RV.flat r1,RIs.flats r2⟩
theorem RIs.restrict(hp:ι <+: ι'):∀{kvs:List (Int×D)}{ws:List (Key×V)},R.flats ι.length (kvs.map (·.2))=true->RIs K ι' H kvs ws->RIs K ι H kvs ws
 | [],_,_,r=>r| (k,d)::kvs,ws,f,r=>by obtain⟨v,w,e,r1,r2⟩:=r;simp at f;exact⟨v,w,e,RV.restrict hp f.1 r1,RIs.restrict hp f.2 r2⟩
theorem RFs.flats:∀{fs:List (Str×D)}{ws:List (Str×V)},RFs K ι H fs ws->R.flats ι.length (fs.map (·.2))=true
 | [],_,_=>by simp| (f,d)::r,_,h=>by obtain⟨v,w,_,r1,r2⟩:=h;simp;exact⟨RV.flat r1,RFs.flats r2⟩
theorem RFs.restrict(hp:ι <+: ι'):∀{fs:List (Str×D)}{ws:List (Str×V)},R.flats ι.length (fs.map (·.2))=true->RFs K ι' H fs ws->RFs K ι H fs ws
 | [],_,_,h=>h| (f,d)::r,_,f0,h=>by obtain⟨v,w,e,r1,r2⟩:=h;simp at f0;exact⟨v,w,e,RV.restrict hp f0.1 r1,RFs.restrict hp f0.2 r2⟩
section
variable{κ:Type}[DecidableEq κ]{dk:DK κ}
theorem R3s.up{K:Frag}{ι ι':List Addr}{H H':Hp}(hp:ι <+: ι')(hk:Kp H H'):∀{kvs:List (κ×D)}{ws:List (κ×Addr×V)},R3s dk K ι H kvs ws->R3s dk K ι' H' kvs ws
 | [],_,r=>r| (k,d)::kvs,ws,r=>by obtain⟨c,v,w,e,r0,r1,r2⟩:=r;exact⟨c,v,w,e,dk.up r0 hk.tups,RV.up hp hk r1,R3s.up hp hk r2⟩
theorem R3s.length{K:Frag}{ι:List Addr}{H:Hp}:∀{kvs:List (κ×D)}{ws:List (κ×Addr×V)},R3s dk K ι H kvs ws->ws.length=kvs.length
 | [],_,r=>by rw[show _=[] from r];rfl| (k,d)::kvs,ws,r=>by obtain⟨c,v,w,rfl,_,_,r2⟩:=r;simp[R3s.length r2]
theorem R3s.keys{K:Frag}{ι:List Addr}{H:Hp}:∀{kvs:List (κ×D)}{ws:List (κ×Addr×V)},R3s dk K ι H kvs ws->ws.map (·.1)=kvs.map (·.1)
 | [],_,r=>by rw[show _=[] from r];rfl| (k,d)::kvs,ws,r=>by obtain⟨c,v,w,rfl,_,_,r2⟩:=r;simp[R3s.keys r2]
theorem R3s.triK{K:Frag}{ι:List Addr}{H:Hp}:∀{kvs:List (κ×D)}{ws:List (κ×Addr×V)},R3s dk K ι H kvs ws->TriK dk H ws
 | [],_,r=>by rw[show _=[] from r];intro x hx;cases hx
 |(k,d)::kvs,ws,r=>by obtain⟨c,v,w,rfl,r0,_,r2⟩:=r;intro x hx;rcases mem_cons.mp hx with e|e;subst e;exact r0;exact R3s.triK r2 x e
theorem R3s.val{K:Frag}{ι:List Addr}{H:Hp}{k:κ}{d:D}:∀{kvs:List (κ×D)}{ws:List (κ×Addr×V)},R3s dk K ι H kvs ws->valQ kvs k=some d->∃v,val3 ws k=some v/\RV K ι H d v
 | [],_,_,e=>by cases e| (j,x)::kvs,ws,r,e=>by obtain⟨c,v,w,rfl,r0,r1,r2⟩:=r;unfold valQ at e;unfold val3;by_cases z:j=k;rw[List.find?_cons_of_pos (by simpa using z)]at e;rw[List.find?_cons_of_pos (by simpa using z)];cases e;exact⟨v,rfl,r1⟩;rw[List.find?_cons_of_neg (by simpa using z)]at e;rw[List.find?_cons_of_neg (by simpa using z)];exact R3s.val r2 e
theorem R3s.put{K:Frag}{ι:List Addr}{H:Hp}{k:κ}{c:Addr}{d:D}{v:V}(q:RV K ι H d v)(hc:dk.Key H k c){kvs:List (κ×D)}{ws:List (κ×Addr×V)}(r:R3s dk K ι H kvs ws):R3s dk K ι H (putQ kvs k d) (put3 ws k c v):=by
 unfold putQ put3;rw[r.keys];split;rename_i hm;clear hm;induction kvs generalizing ws with|nil=>rw[show ws=[] from r];rfl| cons x kvs ih=>obtain⟨j,e⟩:=x;obtain⟨c',u,w,rfl,r0,r1,r2⟩:=r;rw[map_cons,map_cons];by_cases z:j=k;rw[if_pos z,if_pos z];exact⟨c',v,_,rfl,r0,q,ih r2⟩;rw[if_neg z,if_neg z];exact⟨c',u,_,rfl,r0,r1,ih r2⟩
 rename_i hm;clear hm;induction kvs generalizing ws with|nil=>rw[show ws=[] from r];exact⟨c,v,[],rfl,hc,q,rfl⟩| cons x kvs ih=>obtain⟨j,e⟩:=x;obtain⟨c',u,w,rfl,r0,r1,r2⟩:=r;exact⟨c',u,_,rfl,r0,r1,ih r2⟩
theorem zdg{k:κ}{d:D}{kvs:List (κ×D)}(h:(kvs.map (·.1)).Nodup):((putQ kvs k d).map (·.1)).Nodup:=by unfold putQ;split;rw[map_map,show((fun x:κ×D=>x.1)∘fun x=>if x.1=k then(x.1,d) else x)=fun x=>x.1 from by funext x;show(if x.1=k then(x.1,d) else x).1=x.1;split<;>rfl];exact h;rename_i n;rw[map_append,nodup_append];exact⟨h,by simp,fun a ha b hb e=>by rw[map_cons,map_nil,mem_singleton]at hb;subst hb;subst e;exact n ha⟩
theorem R3s.flats{K:Frag}{ι:List Addr}{H:Hp}:∀{kvs:List (κ×D)}{ws:List (κ×Addr×V)},R3s dk K ι H kvs ws->R.flats ι.length (kvs.map (·.2))=true
 | [],_,_=>by simp[R.flats]| (k,d)::kvs,ws,r=>by obtain⟨c,v,w,e,_,r1,r2⟩:=r;simp only[map_cons,R.flats,and_eq_true];exact⟨RV.flat r1,R3s.flats r2⟩
theorem R3s.restrict{K:Frag}{ι ι':List Addr}{H:Hp}(hp:ι <+: ι'):∀{kvs:List (κ×D)}{ws:List (κ×Addr×V)},R.flats ι.length (kvs.map (·.2))=true->R3s dk K ι' H kvs ws->R3s dk K ι H kvs ws
 | [],_,_,r=>r| (k,d)::kvs,ws,f,r=>by obtain⟨c,v,w,e,r0,r1,r2⟩:=r;simp only[map_cons,R.flats,and_eq_true]at f;exact⟨c,v,w,e,r0,RV.restrict hp f.1 r1,R3s.restrict hp f.2 r2⟩
end
theorem RO.up(h:RO K ι H a o)(hp:ι <+: ι')(hk:Kp H H')(e:H' a=H a):RO K ι' H' a o:=by cases o with|lst ds=>obtain⟨xs,h1,h2⟩:=h;exact⟨xs,e.trans h1,h2.up hp hk⟩|dic kvs=>obtain⟨h0,ws,h1,h2⟩:=h;exact⟨h0,ws,e.trans h1,h2.up hp hk⟩|ins c fs=>obtain⟨C,dx,ws,h0,h1,h2⟩:=h;exact⟨C,dx,ws,h0,e.trans h1,h2.up hp hk⟩|d3 kvs=>obtain⟨h0,ws,h1,h2⟩:=h;exact⟨h0,ws,e.trans h1,h2.up hp hk⟩|d4 kvs=>obtain⟨h0,ws,h1,h2⟩:=h;exact⟨h0,ws,e.trans h1,h2.up hp hk⟩
theorem RO.stay(h:RO K ι H a o)(x:Ext ι H ι' H')(e:H' a=H a):RO K ι' H' a o:=h.up x.pre x.kp e
section
variable{K:Frag}{ι ι':List Addr}{H H':Hp}{S S' T:St}{l:Nat}{a p:Addr}
theorem RH.mem(h:RH K ι H S)(e:S.get l=some o):∃a,ι[l]?=some a/\RO K ι H a o/\a∈ι:=by obtain⟨a,h1,h2⟩:=h.obj l o e;exact⟨a,h1,h2,mem_of_getElem? h1⟩
theorem zj7(h:l<S.len):∃o,S.get l=some o:=by unfold St.len at h;unfold St.get;split;rename_i c;exact⟨_,getElem?_eq_getElem c⟩;exact⟨_,getElem?_eq_getElem (by omega)⟩
theorem RH.off(h:RH K ι H S)(x:Ext ι H ι H')(e:∀a∈ι,H' a=H a):RH K ι H' S:=⟨h.len,h.nd,fun l o q=>let ⟨a,h1,h2,hm⟩:=h.mem q;⟨a,h1,h2.stay x (e a hm)⟩,x.kp.tab h.tab⟩
theorem RH.live(h:RH K ι H S)(ha:a∈ι):∃o,H a=some o/\(∀xs,o≠.tup xs)/\(∀z u,o≠.frz z u)/\∀ps,o≠.tbl ps:=by
 obtain⟨l,hl⟩:=mem_iff_getElem?.mp ha;have hlt:l<S.len:=by rw[<-h.len];exact(List.getElem?_eq_some_iff.mp hl).1
 obtain⟨o,e⟩:=zj7 hlt;obtain⟨b,h1,h2⟩:=h.obj l o e;rw[hl]at h1;cases h1;cases o with|lst ds=>obtain⟨xs,q,_⟩:=h2;exact⟨_,q,⟨fun _ z=>(by cases z),fun _ _ z=>(by cases z),fun _ z=>(by cases z)⟩⟩|dic kvs=>obtain⟨_,ws,q,_⟩:=h2;exact⟨_,q,⟨fun _ z=>(by cases z),fun _ _ z=>(by cases z),fun _ z=>(by cases z)⟩⟩|ins c fs=>obtain⟨C,dx,ws,_,q,_⟩:=h2;exact⟨_,q,⟨fun _ z=>(by cases z),fun _ _ z=>(by cases z),fun _ z=>(by cases z)⟩⟩|d3 kvs=>obtain⟨_,ws,q,_⟩:=h2;exact⟨_,q,⟨fun _ z=>(by cases z),fun _ _ z=>(by cases z),fun _ z=>(by cases z)⟩⟩|d4 kvs=>obtain⟨_,ws,q,_⟩:=h2;exact⟨_,q,⟨fun _ z=>(by cases z),fun _ _ z=>(by cases z),fun _ z=>(by cases z)⟩⟩
theorem RH.fresh(h:RH K ι H S)(hp:H p=Option.none):p∉ι:=fun hm=>by obtain⟨o,e,_⟩:=h.live hm;rw[hp]at e;cases e
theorem RH.notup(h:RH K ι H S)(hp:H p=some (.tup xs)):p∉ι:=fun hm=>by obtain⟨o,e,q,_⟩:=h.live hm;rw[hp]at e;cases e;exact q _ rfl
theorem Kp.new(hp:H p=Option.none)(o:HO):Kp H (upd H p o):=.same (Tups.upd_new hp) (fun b z u e=>by rw[zaf (zaj e hp)];exact e) fun b ps e=>by rw[zaf (zaj e hp)];exact e
theorem Ext.new(hp:H p=Option.none)(o:HO):Ext ι H ι (upd H p o):=⟨prefix_refl _,Kp.new hp o,fun a u h e=>⟨.inl (by rw[zaf (zaj e hp)];exact e),h⟩⟩
theorem RH.new(h:RH K ι H S)(hp:H p=Option.none)(o:HO):RH K ι (upd H p o) S:=h.off (Ext.new hp o) fun a ha=>zaf fun e=>h.fresh hp (e▸ha)
theorem zd5(S:St)(o:MO):(S.push o).get S.len=some o:=by unfold St.get St.push;unfold St.len;simp
theorem zbV(h:l<S.len):(S.push o).get l=S.get l:=by unfold St.len at h;unfold St.get St.push;simp only;split;rfl;rw[getElem?_append_left (by omega)]
theorem zbC(S:St)(o:MO):(S.push o).len=S.len+1:=by simp[St.push,St.len];omega
theorem Ext.obj(h:RH K ι H S)(hp:H p=Option.none)(u:HO):Ext ι H (ι++[p]) (upd H p u):=
 ⟨prefix_append _ _,Kp.new hp u,fun a o ha e=>⟨.inl (by rw[zaf (zaj e hp)];exact e),by
  intro z;rcases mem_append.mp z with z|z;exact ha z;simp at z;exact zaj e hp z⟩⟩
theorem RH.obj'(h:RH K ι H S)(hp:H p=Option.none)(u:HO)(o:MO)(ho:RO K (ι++[p]) (upd H p u) p o):RH K (ι++[p]) (upd H p u) (S.push o):=by
 refine⟨by rw[length_append,h.len,zbC];rfl,?_,fun l o' e=>?_,(Kp.new hp u).tab h.tab⟩;rw[nodup_append];refine⟨h.nd,by simp,fun a ha b hb=>?_⟩;simp at hb;subst hb;exact fun z=>h.fresh hp (z▸ha);by_cases hl:l<S.len;rw[zbV hl]at e;obtain⟨a,h1,h2,hm⟩:=h.mem e;exact⟨a,zbs (prefix_append _ _) h1,h2.stay (Ext.obj h hp u) (zaf fun z=>h.fresh hp (z▸hm))⟩;have hl2:=zam e;rw[zbC]at hl2;have:l=S.len:=by omega
 subst this;rw[zd5]at e;cases e;exact⟨p,by rw[<-h.len];simp,ho⟩
theorem RH.lay(h:RH K ι H S)(hp:H p=Option.none)(r:RVs K ι H ds xs):RH K (ι++[p]) (upd H p (.lst xs)) (S.push (.lst ds)):=h.obj' hp _ _ ⟨xs,zag,r.ext (Ext.obj h hp _)⟩
theorem RH.last(h:RH K ι H S)(p:Addr):(ι++[p])[S.len]?=some p:=by rw[<-h.len];simp
theorem Ext.wr(h:RH K ι H S)(e:S.get l=some o)(hl:ι[l]?=some a)(u:HO):Ext ι H ι (upd H a u):=by have hm:=mem_of_getElem? hl;refine⟨prefix_refl _,.same (fun b xs hb=>?_) (fun b z v hb=>?_) fun b ps hb=>?_,fun b o hb e=>⟨.inl ((zaf fun(z:b=a)=>hb (by rw[z];exact hm)).trans e),hb⟩⟩;rw[zaf];exact hb;rintro rfl;exact h.notup hb hm;rw[zaf];exact hb;rintro rfl;obtain⟨o,e,_,q,_⟩:=h.live hm;rw[hb]at e;cases e;exact q _ _ rfl;rw[zaf];exact hb;rintro rfl;obtain⟨o,e,_,_,q⟩:=h.live hm;rw[hb]at e;cases e;exact q _ rfl
theorem zlH(e:S.put l o=some S'):S'.len=S.len/\(l<S.len->S'.get l=some o)/\(∀m,m≠l->S'.get m=S.get m)/\S.frz.length<=l:=by unfold St.put at e;split at e;cases e;split at e;cases e;injection e with e;subst e;rename_i c1 c2;refine⟨by simp[St.len],fun hl=>?_,fun m hm=>?_,by omega⟩;unfold St.len at hl;unfold St.get;simp[c1,if_false];rw[getElem?_set_self (by omega)];unfold St.get;simp only;split;rfl;rw[getElem?_set_ne (by omega)]
theorem RH.wr(h:RH K ι H S)(e:S.get l=some o)(hl:ι[l]?=some a)(w:S.put l o'=some S')(ho:RO K ι (upd H a u) a o'):RH K ι (upd H a u) S':=by obtain⟨h1,h2,h3,_⟩:=zlH w;refine⟨h.len.trans h1.symm,h.nd,fun m o2 e2=>?_,(Ext.wr h e hl u).kp.tab h.tab⟩;by_cases hm:m=l;subst hm;rw[h2 (zam e)]at e2;cases e2;exact⟨a,hl,ho⟩;rw[h3 m hm]at e2;obtain⟨b,q1,q2,_⟩:=h.mem e2;refine⟨b,q1,q2.stay (Ext.wr h e hl u) (zaf ?_)⟩;rintro rfl;obtain⟨i1,e1⟩:=List.getElem?_eq_some_iff.mp hl;obtain⟨i2,e2⟩:=List.getElem?_eq_some_iff.mp q1;exact hm ((List.getElem_inj h.nd).mp (e2.trans e1.symm))
end
end R
namespace R
open PySem PySem.Spec PyProof.Rows L2
variable[Mks]
theorem zcl{K:Frag}{ι:List Addr}{H:Hp}{y:D}{v:V}{k:K3}(r:RV K ι H y v)(h:key3 y=some k):∃c,v=.ref c/\Key3 H k c:=by
 unfold key3 at h;split at h;rename_i a ds b;cases e:zaL ds with
 |none=>rw[e]at h;cases h
 |some p=>rw[e]at h;cases h;obtain⟨c,xs,rfl,hc,v1,r1,rfl,q1,v2,r2,rfl,q2,v3,r3,rfl,q3,q4⟩:=r;cases(show r3=[] from q4);obtain rfl:v1=.int a:=q1;obtain⟨b',ys,rfl,hb,rr⟩:=q2;obtain rfl:v3=.int b:=q3;rw[zj1 e]at rr;rw[rr.ints_eq]at hb;exact⟨c,rfl,b',hc,hb⟩
 cases h
theorem zh0{K:Frag}{ι:List Addr}{H:Hp}{y:D}{v:V}{k:K4}(r:RV K ι H y v)(h:key4 y=some k):∃c,v=.ref c/\Key4 H k c:=by
 unfold key4 at h;split at h;rename_i a d;cases e:key3 d with
 |none=>rw[e]at h;cases h
 |some p=>rw[e]at h;cases h;obtain⟨c,xs,rfl,hc,v1,r1,rfl,q1,v2,r2,rfl,q2,q4⟩:=r;cases(show r2=[] from q4);obtain rfl:v1=.int a:=q1;obtain⟨b,rfl,hb⟩:=zcl q2 e;exact⟨c,rfl,b,hc,hb⟩
 cases h
theorem zgd{K:Frag}{ι:List Addr}{H:Hp}{S:R.St}{d e:D}{x y:V}{k:Bool}(hH:RH K ι H S)(hd:RV K ι H d x)(he:RV K ι H e y)(h:zcQ S d e=some k) :
  (∃(κ:Type) (_:DecidableEq κ) (dk:DK κ) (a:Addr) (kxs:List (κ×Addr×V)) (kk:κ) (c:Addr),y=.ref a/\H a=some (.ext (TriO dk a kxs))/\TriK dk H kxs/\x=.ref c/\dk.Key H kk c/\k=decide (kk∈kxs.map (·.1)))\/((zbI S e).bind fun ys=>inD S d ys)=some k:=by
 unfold zcQ at h;split at h;rename_i l;split at h;rename_i kvs e1;cases ek:key3 d with
 |none=>rw[ek]at h;cases h
 |some kk=>rw[ek]at h;cases h;obtain⟨a,h1,rfl⟩:=he;obtain⟨a',g1,nd,ws,ha,rk⟩:=hH.obj _ _ e1;rw[h1]at g1;cases g1;obtain⟨c,rfl,hc⟩:=zcl hd ek;exact .inl ⟨K3,inferInstance,dk3,a,ws,kk,c,rfl,ha,rk.triK,rfl,hc,by rw[rk.keys];exact decide_eq_decide.mpr Iff.rfl⟩
 rename_i kvs e1;cases ek:key4 d with
 |none=>rw[ek]at h;cases h
 |some kk=>rw[ek]at h;cases h;obtain⟨a,h1,rfl⟩:=he;obtain⟨a',g1,nd,ws,ha,rk⟩:=hH.obj _ _ e1;rw[h1]at g1;cases g1;obtain⟨c,rfl,hc⟩:=zh0 hd ek;exact .inl ⟨K4,inferInstance,dk4,a,ws,kk,c,rfl,ha,rk.triK,rfl,hc,by rw[rk.keys];exact decide_eq_decide.mpr Iff.rfl⟩
 exact .inr h;exact .inr h
section
variable{X:Cx}
theorem zpO:zbb X (.builtin "len") (fun vs H Q=>∃a kxs,vs=[.ref a]/\H a=some (.ext (TriO dk3 a kxs))/\TriK dk3 H kxs/\Q (.int kxs.length) H):=by
 intro pins s σ H xs us Q I r h;obtain⟨a,kxs,rfl,e,tk,q⟩:=h;obtain⟨u,rfl,ru⟩:=r.one;cases(show u=Value.ref a from ru);obtain⟨z,hd,ys,rel,dd⟩:=zdd I.hok e tk;have hl:=zhK rel;obtain⟨o,es,ep,h1,h2,h3,h4,_⟩:=id dd;have hs:es.size=kxs.length:=by rw[<-length_toList,h4,length_map];exact hl
 refine PyProof.Rows.call_len_slot (n:=kxs.length) dd.typeIs F.slot_dict_len (fun Q' hq=>?_) (by omega) (by rw[sizeLine_eq]at z;omega) ⟨.int kxs.length,H,I.tok _,⟨_,rfl⟩,q⟩;refine wpAny_call_entry F.slot_dict_len dd.typeIs F.entry_dict_len ?_ (F.args_dict_len_1 _);show wpAny _ _ (dictSize a>>=_) _ _ s;unfold dictSize;refine wpAny_bind (wpAny_bind (wpAny_dictEntries h1 h3 (wpAny_pure ?_)));show wpAny _ _ (Builtin.Dict.pendingCount a>>=_) _ _ s;refine wpAny_bind (wpAny_pendingCount_other hd ?_);rw[show((es.size:Int)+((0:Nat):Int))=(kxs.length:Nat) by rw[hs];simp];exact wpAny_bind (wpAny_mkInt (wpAny_pure ⟨_,rfl,hq⟩))
end
end R
namespace R
open PySem PySem.Spec PyProof.Rows L2
section
variable{prog:Program}{w:World}{K:Type}[DecidableEq K]{knd:HeapKind prog w K}{A:Around}{E:Value->Shared->Prop}{s:Shared}{xs:List (K×Addr×Value)}{d j:Addr}{i ep:Nat}
def HAt(knd:HeapKind prog w K)(h:Heap)(d:Addr)(xs:List (K×Addr×Value))(ep:Nat):Prop:=∃o es,h.get? d=some o/\o.ExactDict/\o.data=.dict es ep/\es.toList=xs.map (entryOfKey knd)
theorem HAt.at(x:HAt knd h d xs ep)(e:∀o,h.get? d=some o->h'.get? d=some o):HAt knd h' d xs ep:=let ⟨o,es,ho,r⟩:=x;⟨o,es,e _ ho,r⟩
theorem HAt.ty(x:HAt knd s.heap d xs ep):s.TypeIs (.ref d) "dict":=let ⟨o,_,ho,hc,_⟩:=x;⟨o,ho,hc.1⟩
end
end R
namespace R
open PySem PySem.Spec PyProof.Rows L2
variable[Mks]
def Lf(K:Frag)(ι:List Addr)(H:Hp)(Q:D->R.St->Prop):VK:=fun v H'=>∃d ι' S',Ext ι H ι' H'/\RV K ι' H' d v/\RH K ι' H' S'/\Q d S'
section
variable{K:Frag}{ι ι':List Addr}{H H':Hp}{S S':R.St}{Q:D->R.St->Prop}{d:D}{v:V}{p:Addr}
theorem Lf.of(h:RH K ι H S)(r:RV K ι H d v)(q:Q d S):Lf K ι H Q v H:=⟨d,ι,S,Ext.refl ι H,r,h,q⟩
theorem Lf.up(x:Ext ι H ι' H')(h:Lf K ι' H' Q v p'):Lf K ι H Q v p':=by obtain⟨d,ι2,S2,x2,r⟩:=h;exact⟨d,ι2,S2,x.trans x2,r⟩
theorem Lf.tup(h:RH K ι H S)(hp:H p=Option.none)(r:RVs K ι H ds xs)(q:Q (.tup ds) S):Lf K ι H Q (.ref p) (upd H p (.tup xs)):=⟨.tup ds,ι,S,Ext.new hp _,⟨p,xs,rfl,zag,r.ext (Ext.new hp _)⟩,h.new hp _,q⟩
theorem Lf.lst(h:RH K ι H S)(hp:H p=Option.none)(r:RVs K ι H ds xs)(q:Q (.ref S.len) (S.push (.lst ds))):Lf K ι H Q (.ref p) (upd H p (.lst xs)):=⟨.ref S.len,ι++[p],S.push (.lst ds),Ext.obj h hp _,⟨p,h.last p,rfl⟩,h.lay hp r,q⟩
theorem Lf.wr(h:RH K ι H S)(e:S.get l=some o)(hl:ι[l]?=some a)(w:S.put l (.lst ds)=some S')(r:RVs K ι H ds xs)(rv:RV K ι H d v)(q:Q d S'):Lf K ι H Q v (upd H a (.lst xs)):=⟨d,ι,S',Ext.wr h e hl _,rv.ext (Ext.wr h e hl _),h.wr e hl w ⟨xs,zag,r.ext (Ext.wr h e hl _)⟩,q⟩
end
theorem zcL(h:W (lay S ds) Q):ds.length<=sizeLine/\Q (.ref S.len) (S.push (.lst ds)):=by unfold lay at h;split at h;rename_i c;exact⟨by rw[sizeLine_eq];exact c,h⟩;exact h.elim
theorem zkS(h:W (wr S l ds d) Q):ds.length<=sizeLine/\∃S',S.put l (.lst ds)=some S'/\Q d S':=by
 unfold wr at h;split at h;rename_i c;refine⟨by rw[sizeLine_eq];exact c,?_⟩;cases e:S.put l (.lst ds) with|none=>rw[e]at h;exact h.elim|some S'=>rw[e]at h;exact⟨S',rfl,h⟩
 exact h.elim
def rD2(K:Frag)(f:R.St->D->D->Out D):R2:=fun x y H Qv=>∃ι S d e Qd,RV K ι H d x/\RV K ι H e y/\RH K ι H S/\W (f S d e) Qd/\∀v H',Lf K ι H Qd v H'->Qv v H'
section
variable{X:Cx}
theorem zkf{vs ws:List Value}(ht:IsTup s.heap t vs.toArray)(hb:IsTup s.heap b ws.toArray)(hv:vs=[])
  (h1:Q (.ref b) s):wpAny (model prog w) A (binaryOp .Add (.ref t) (.ref b)) Q E s:=by
 obtain⟨⟨cls,dd,data,sl⟩,ho,hc,n,hd⟩:=id ht;obtain⟨⟨cls2,dd2,data2,sl2⟩,ho2,hc2,n2,hd2⟩:=id hb;subst hc hd hc2 hd2;exact concat_meets ⟨_,ho,rfl⟩ ⟨_,ho2,rfl⟩ noFill_tuple_add seq_tuple_add PySem.F.slot_tuple_add PySem.F.entry_tuple_add (PySem.F.args_tuple_add_2 _ _)
  (tuple_addW0 t b vs.toArray ws.toArray n n2 dd dd2 sl sl2 (by simp[hv])) ⟨ho,ho2,h1⟩
theorem zjK:OpR X (binaryOp .Add) (fun x y H Q=>∃a b ys,x=.ref a/\y=.ref b/\SqT X.K H a []/\SqT X.K H b ys/\Q (.ref b) H):=by intro pins s σ H x y v u Q I rx ry h;obtain⟨a,b,ys,rfl,rfl,ha,hb,q⟩:=h;cases rx;cases ry;obtain⟨its,r1,p1,_⟩:=I.tuple ha;obtain⟨its2,r2,p2,_⟩:=I.tuple hb;exact zkf p1 p2 (r1.nil_iff.mpr rfl) ⟨.ref b,H,I,rfl,q⟩
theorem zoN(op:Operator):OpR X (binaryOp op) (rD2 X.K fun S d e=>binD S op d e):=by
 intro pins s σ H x y v u Qv I rx ry ⟨ι,S,d,e,Qd,hd,he,hH,hw,q⟩;dsimp only at hw;unfold binD at hw;split at hw;rename_i i j;obtain rfl:x=.int i:=hd;obtain rfl:y=.int j:=he;have fin:∀k:Int,Qd (.int k) S->Qv (.int k) H:=fun k hk=>q _ _ (Lf.of (d:=.int k) hH rfl hk);unfold binI at hw;split at hw;exact zn7 pins s σ H _ _ v u Qv I rx ry ⟨i,j,rfl,rfl,fin _ hw⟩;exact zn0 pins s σ H _ _ v u Qv I rx ry ⟨i,j,rfl,rfl,fin _ hw⟩;split at hw;rename_i c;refine zn3 pins s σ H _ _ v u Qv I rx ry ⟨i,j,rfl,rfl,?_,fin _ hw⟩;unfold zc7 at c;rw[or_eq_true,decide_eq_true_eq,decide_eq_true_eq]at c;exact c;exact hw.elim;split at hw;rename_i c;exact zl1 pins s σ H _ _ v u Qv I rx ry ⟨i,j,rfl,rfl,c,fin _ hw⟩;exact hw.elim;split at hw;rename_i c;exact zn4 pins s σ H _ _ v u Qv I rx ry ⟨i,j,rfl,rfl,c,fin _ hw⟩;exact hw.elim;split at hw;rename_i c;exact zn1 pins s σ H _ _ v u Qv I rx ry ⟨i,j,rfl,rfl,⟨c.1,c.2.1,by omega⟩,fin _ hw⟩;exact hw.elim;exact hw.elim;rename_i xs ys;split at hw;split at hw;rename_i c;obtain⟨a,us,rfl,ha,r1⟩:=hd;obtain⟨b,ws,rfl,hb,r2⟩:=he;by_cases hn:us=[];subst hn;have hx:xs=[]:=by have:=r1.length;simpa using this.symm
 subst hx;refine zjK pins s σ H _ _ v u Qv I rx ry ⟨a,b,ws,rfl,rfl,SqT.of ha,SqT.of hb,?_⟩;exact q _ _ (Lf.of (d:=.tup ys) hH ⟨b,ws,rfl,hb,r2⟩ (by simpa using hw));refine zl2 pins s σ H _ _ v u Qv I rx ry ⟨a,b,us,ws,rfl,rfl,SqT.of ha,SqT.of hb,hn,?_,fun hy=>?_,fun hy p hp=>?_⟩;rw[r1.length,r2.length,sizeLine_eq];exact c;subst hy;have hx:ys=[]:=by have:=r2.length;simpa using this.symm
 subst hx;exact q _ _ (Lf.of (d:=.tup xs) hH ⟨a,us,rfl,ha,r1⟩ (by simpa using hw));exact q _ _ (Lf.tup hH hp (r1.append r2) hw);exact hw.elim;exact hw.elim;rename_i a b;split at hw;rename_i xs ys e1 e2;obtain⟨a1,h1,rfl⟩:=hd;obtain⟨b1,h2,rfl⟩:=he;obtain⟨a2,h3,us,ha,r1⟩:=hH.obj _ _ e1;obtain⟨b2,h4,ws,hb,r2⟩:=hH.obj _ _ e2;rw[h1]at h3;cases h3;rw[h2]at h4;cases h4;obtain⟨z,hq⟩:=zcL hw;refine zn6 pins s σ H _ _ v u Qv I rx ry ⟨a1,b1,us,ws,rfl,rfl,ha,hb,?_,fun p hp=>?_⟩;rw[r1.length,r2.length];rw[length_append]at z;exact z;exact q _ _ (Lf.lst hH hp (r1.append r2) hq);exact hw.elim;exact hw.elim
theorem za3{α β:Type}{f:α->Option β}{x:α}{xs:List α}{ys:List β}(h:(x::xs).mapM f=some ys):∃y r,f x=some y/\xs.mapM f=some r/\ys=y::r:=by
 rw[mapM_cons]at h;cases e:f x with
 |none=>rw[e]at h;cases h
 |some y=>
  rw[e]at h;cases e2:xs.mapM f with
  |none=>rw[e2]at h;cases h
  |some r=>rw[e2]at h;injection h with h;exact⟨y,r,rfl,rfl,h.symm⟩
theorem zgJ(hH:RH X.K ι H S):∀(n:Nat)(d:D)(pdd:PyData)(v:V),pd S n d=some pdd->RV X.K ι H d v->Rep H pdd v/\pdd.canLay0=true/\pdd.depth<=n:=by
 intro n;induction n with
 |zero=>
  intro d p v h r;cases d<;>simp only[pd]at h
  cases h;exact⟨r,rfl,le_refl _⟩;cases h;exact⟨r,rfl,le_refl _⟩;cases h;exact⟨r,rfl,le_refl _⟩;split at h;rename_i c;cases h;exact⟨r,c,le_refl _⟩;cases h
  all_goals cases h
 |succ n ih=>
  have all:∀(ds:List D)(ps:List PyData)(vs:List V),ds.mapM (pd S n)=some ps->RVs X.K ι H ds vs->RepAll H ps vs/\PyData.canLayAll0 ps=true/\PyData.depthAll ps<=n:=by
   intro ds;induction ds with
   |nil=>
    intro ps vs h r;have h:ps=[]:=by simpa using h.symm
    subst h;exact⟨r,rfl,zero_le _⟩
   |cons d ds ihd=>intro ps vs h r;obtain⟨y,rr,h1,h2,rfl⟩:=za3 h;obtain⟨v,w,rfl,r1,r2⟩:=r;obtain⟨a1,a2,a3⟩:=ih d y v h1 r1;obtain⟨b1,b2,b3⟩:=ihd rr w h2 r2;refine⟨⟨v,w,rfl,a1,b1⟩,by simp[PyData.canLayAll0,a2,b2],?_⟩;simp[PyData.depthAll];omega
  intro d p v h r;cases d with
  |non=>simp[pd]at h;cases h;exact⟨r,rfl,zero_le _⟩|bl b=>simp[pd]at h;cases h;exact⟨r,rfl,zero_le _⟩|int i=>simp[pd]at h;cases h;exact⟨r,rfl,zero_le _⟩| str x=>simp only[pd]at h;split at h;rename_i c;cases h;exact⟨r,c,zero_le _⟩;cases h
  |tup ds=>
   simp only[pd]at h;cases e:ds.mapM (pd S n) with
   |none=>rw[e]at h;cases h
   |some ps=>
    rw[e]at h;have h:PyData.tuple ps=p:=by simpa using h
    subst h;obtain⟨a,xs,rfl,ha,rr⟩:=r;obtain⟨b1,b2,b3⟩:=all ds ps xs e rr;refine⟨⟨a,xs,rfl,ha,b1⟩,by simp[PyData.canLay0,b2],?_⟩;simp[PyData.depth];omega
  |ref l=>
   simp[pd]at h;split at h;rename_i ds eg;cases e:ds.mapM (pd S n) with
   |none=>rw[e]at h;cases h
   |some ps=>
    rw[e]at h;have h:PyData.list ps=p:=by simpa using h
    subst h;obtain⟨a,h1,rfl⟩:=r;obtain⟨a2,h2,xs,ha,rr⟩:=hH.obj _ _ eg;rw[h1]at h2;cases h2;obtain⟨b1,b2,b3⟩:=all ds ps xs e rr;refine⟨⟨a,xs,rfl,ha,b1⟩,by simp[PyData.canLay0,b2],?_⟩;simp[PyData.depth];omega
   cases h
  |fix ds=>simp only[pd]at h;cases h
def rC2(K:Frag)(op:CmpOp):R2:=fun x y H Qv=>∃ι S d e k,RV K ι H d x/\RV K ι H e y/\RH K ι H S/\cmpD S op d e=some k/\Qv (.bl k) H
theorem zgi(h:eqD S d e=some k):∃a b,pd S 60 d=some a/\pd S 60 e=some b/\k=PyData.eqv a b:=by
 unfold eqD at h;cases e1:pd S 60 d with
 |none=>rw[e1]at h;cases h
 |some a=>
  rw[e1]at h;cases e2:pd S 60 e with
  |none=>rw[e2]at h;cases h
  |some b=>rw[e2]at h;injection h with h;exact⟨a,b,rfl,rfl,h.symm⟩
open Classical in
noncomputable def eqRd(h:Heap)(p:PyData)(u:Value):Bool:=if c:∃q as,Reads h u q as/\q.canLay0=true then PyData.eqv c.choose p else false
theorem zms(r:Reads h u q as)(c:q.canLay0=true):eqRd h p u=PyData.eqv q p:=by have ex:∃q as,Reads h u q as/\q.canLay0=true:=⟨q,as,r,c⟩;unfold eqRd;rw[dif_pos ex];obtain⟨as',r',c'⟩:=ex.choose_spec;rw[SeqAt.Reads.unique _ _ _ _ _ c r r']
theorem zj2{σ:L2.St}(I:Inv X pins σ H s)(hA:A.units+62<cLine)(hH:RH X.K ι H S)(hx:pd S 60 x=some px)(rx:RV X.K ι H x vx)(qx:RelV vx ux) :
  ∀{ds:List D}{vs:List V}{us:List Value}{bs:List Bool},RVs X.K ι H ds vs->Vals vs us->ds.mapM (fun z=>eqD S z x)=some bs->us.any (eqRd s.heap px)=bs.any id/\∀u∈us,SeqAt.EqAt A s u ux (eqRd s.heap px u):=by
 obtain⟨x1,x2,x3⟩:=zgJ hH 60 x px vx hx rx;obtain⟨asx,rdx⟩:=Rep.reads I px vx ux x1 qx;intro ds;induction ds with
 |nil=>
  intro vs us bs r rv h;cases r;cases rv;have h:bs=[]:=by simpa using h.symm
  subst h;exact⟨rfl,fun u hu=>nomatch hu⟩
 |cons d ds ih=>intro vs us bs r rv h;obtain⟨v,w,rfl,r1,r2⟩:=r;obtain⟨b,rr,e,h2,rfl⟩:=za3 h;cases rv with| cons q1 q2=>rename_i u us';obtain⟨a,b',e1,e2,rfl⟩:=zgi e;rw[hx]at e2;cases e2;obtain⟨p1,p2,p3⟩:=zgJ hH 60 d a v e1 r1;obtain⟨as,rd⟩:=Rep.reads I a v u p1 q1;have hq:=zms (p:=px) rd p2;obtain⟨i1,i2⟩:=ih r2 q2 h2;refine⟨by simp[hq,i1],fun z hz=>?_⟩;rcases mem_cons.mp hz with rfl|hz;rw[hq];exact SeqAt.eqAt_reads a px A s z ux as asx rd rdx p2 x2 (by omega);exact i2 z hz
theorem zkp(hH:RH X.K ι H S)(h:zbI S d=some ds)(r:RV X.K ι H d v):∃a xs,v=.ref a/\(SqL X.K H a xs\/SqT X.K H a xs)/\RVs X.K ι H ds xs:=by
 cases d with
 |tup es=>cases h;obtain⟨a,xs,rfl,ha,rr⟩:=r;exact⟨a,xs,rfl,.inr (SqT.of ha),rr⟩| fix es=>cases h;obtain⟨a,xs,rfl,ha,rr⟩:=r;exact⟨a,xs,rfl,.inl ha.sq,rr⟩| ref l=>simp[zbI]at h;split at h;rename_i ds' e;cases h;obtain⟨a,h1,rfl⟩:=r;obtain⟨a2,h2,xs,ha,rr⟩:=hH.obj _ _ e;rw[h1]at h2;cases h2;exact⟨a,xs,rfl,.inl (SqL.of ha),rr⟩;cases h
 |_=>cases h
theorem zot(h:inD S x ys=some k):∃bs,ys.mapM (fun z=>eqD S z x)=some bs/\k=bs.any id:=by
 unfold inD at h;cases e:ys.mapM (fun z=>eqD S z x) with
 |none=>rw[e]at h;cases h
 |some bs=>rw[e]at h;injection h with h;exact⟨bs,rfl,h.symm⟩
theorem nonV{K:Frag}(hd:RV K ι H d x):decide (x=V.non)=zmk d:=by cases d with|non=>rw[show x=.non from hd];rfl|bl b=>rw[show x=.bl b from hd];rfl|int b=>rw[show x=.int b from hd];rfl|str b=>rw[show x=.str b from hd];rfl|tup b=>obtain⟨_,_,rfl,_⟩:=hd;rfl|ref b=>obtain⟨_,_,rfl⟩:=hd;rfl|fix b=>obtain⟨_,_,rfl,_⟩:=hd;rfl
theorem zkN(hu:X.A.units+128<cLine)(op:CmpOp):OpR X (compareOp op) (rC2 X.K op):=by
 intro pins s σ H x y v u Qv I rx ry ⟨ι,S,d,e,k,hd,he,hH,hc,q⟩;unfold cmpD at hc;split at hc;rename_i i j;obtain rfl:x=.int i:=hd;obtain rfl:y=.int j:=he;unfold cmpI at hc;split at hc;cases hc;exact zpM pins s σ H _ _ v u Qv I rx ry ⟨rfl,by simpa using q⟩;cases hc;exact zpH pins s σ H _ _ v u Qv I rx ry ⟨rfl,by simpa using q⟩;cases hc;exact zpI pins s σ H _ _ v u Qv I rx ry ⟨i,j,rfl,rfl,q⟩;cases hc;exact zpJ pins s σ H _ _ v u Qv I rx ry ⟨i,j,rfl,rfl,q⟩;cases hc;exact zpK pins s σ H _ _ v u Qv I rx ry ⟨i,j,rfl,rfl,q⟩;cases hc;exact zpL pins s σ H _ _ v u Qv I rx ry ⟨i,j,rfl,rfl,q⟩;cases hc;unfold cmpO at hc;have isin:∀(k:Bool),((zbI S e).bind fun ys=>inD S d ys)=some k->∃a xs,y=.ref a/\(SqL X.K H a xs\/SqT X.K H a xs)/\∃(px:PyData),∀us,Vals xs us->us.any (eqRd s.heap px)=k/\∀z∈us,SeqAt.EqAt X.A.in1 s z v (eqRd s.heap px z):=by
  intro k h;cases es:zbI S e with
  |none=>rw[es]at h;cases h
  |some ys=>
   rw[es]at h;obtain⟨bs,hb,rfl⟩:=zot h;obtain⟨a,xs,rfl,hq,rr⟩:=zkp hH es he;refine⟨a,xs,rfl,hq,?_⟩;cases hp:pd S 60 d with
   |some px=>exact⟨px,fun us hus=>zj2 I (show X.A.units+1+62<cLine by omega) hH hp hd rx rr hus hb⟩| none=>
    cases ys with
    |nil=>
     refine⟨.none,fun us hus=>?_⟩;cases rr;cases hus;have hb:bs=[]:=by simpa using hb.symm
     subst hb;exact⟨rfl,fun z hz=>nomatch hz⟩
    |cons z zs=>obtain⟨b,r,h1,_⟩:=za3 hb;obtain⟨_,_,_,h3,_⟩:=zgi h1;rw[hp]at h3;cases h3
 split at hc
 . skip
   obtain⟨a,b,h1,h2,rfl⟩:=zgi hc;obtain⟨p1,p2,p3⟩:=zgJ hH 60 d a x h1 hd;obtain⟨q1,q2,q3⟩:=zgJ hH 60 e b y h2 he;exact zn5 (by omega) pins s σ H x y v u Qv I rx ry ⟨a,b,p1,q1,p2,q2,by omega,q⟩
 cases hk:eqD S d e with
 |none=>rw[hk]at hc;cases hc
 |some k'=>
  rw[hk]at hc;obtain⟨a,b,h1,h2,rfl⟩:=zgi hk;obtain⟨p1,p2,p3⟩:=zgJ hH 60 d a x h1 hd;obtain⟨q1,q2,q3⟩:=zgJ hH 60 e b y h2 he;have hc:k = !PyData.eqv a b:=by simpa using hc.symm
  subst hc;exact zn2 (by omega) pins s σ H x y v u Qv I rx ry ⟨a,b,p1,q1,p2,q2,by omega,q⟩
 split at hc;obtain rfl:y=.non:=he;cases hc;obtain rfl:u=Value.none:=ry;refine is_none_gen ⟨.bl _,H,I,rfl,?_⟩;rw[rx.none_iff,nonV hd];exact q;cases hc;split at hc;obtain rfl:y=.non:=he;cases hc;obtain rfl:u=Value.none:=ry;refine isnot_none_gen ⟨.bl _,H,I,rfl,?_⟩;rw[rx.none_iff,nonV hd];exact q;cases hc;rcases zgd hH hd he hc with⟨κ,_,dk,a,kxs,kk,c,rfl,ha,tk,rfl,hk,rfl⟩|hc;cases(show u=Value.ref a from ry);cases(show v=Value.ref c from rx);exact zpZ (by omega) I ha tk hk fun s3 I3=>⟨.bl _,H,I3,rfl,q⟩;obtain⟨a,xs,rfl,hq,px,hp⟩:=isin _ hc;cases ry;rcases hq with hq|hq;obtain⟨its,r,pl,hz⟩:=I.list hq;obtain⟨h1,h2⟩:=hp its r;exact SeqAt.in_listAt (eqRd s.heap px) pl.isList (fun w hw=>h2 w (by simpa using hw)) (zap I q (by simpa using h1.symm));obtain⟨its,r,pl,hz⟩:=I.tuple hq;obtain⟨h1,h2⟩:=hp its r;exact SeqAt.in_tupleAt (eqRd s.heap px) pl (fun w hw=>h2 w (by simpa using hw)) (zap I q (by simpa using h1.symm));cases hk:zcQ S d e with
 |none=>rw[hk]at hc;cases hc
 |some k'=>
  rw[hk]at hc;have hc:k = !k':=by simpa using hc.symm
  subst hc;rcases zgd hH hd he hk with⟨κ,_,dk,a,kxs,kk,c,rfl,ha,tk,rfl,h3,rfl⟩|hk;cases(show u=Value.ref a from ry);cases(show v=Value.ref c from rx);exact zkd (by omega) I ha tk h3 fun s3 I3=>⟨.bl _,H,I3,rfl,q⟩;obtain⟨a,xs,rfl,hq,px,hp⟩:=isin k' hk;cases ry;rcases hq with hq|hq;obtain⟨its,r,pl,hz⟩:=I.list hq;obtain⟨h1,h2⟩:=hp its r;exact SeqAt.notIn_listAt (eqRd s.heap px) pl.isList (fun w hw=>h2 w (by simpa using hw)) (zap I q (by simpa using congrArg (!·) h1.symm));obtain⟨its,r,pl,hz⟩:=I.tuple hq;obtain⟨h1,h2⟩:=hp its r;exact SeqAt.notIn_tupleAt (eqRd s.heap px) pl (fun w hw=>h2 w (by simpa using hw)) (zap I q (by simpa using congrArg (!·) h1.symm))
 cases e1:key3 d with
 |none=>rw[e1]at hc;cases hc
 |some ka=>
  cases e2:key3 e with
  |none=>rw[e1,e2]at hc;cases hc
  |some kb=>
   rw[e1,e2]at hc;have hc:k = !decide (Lt3 kb ka):=by simpa using hc.symm
   subst hc;obtain⟨a,rfl,ha⟩:=zcl hd e1;obtain⟨b,rfl,hb⟩:=zcl he e2;cases(show v=Value.ref a from rx);cases(show u=Value.ref b from ry);exact zmY (by omega) (zd1 I.hok ha) (zd1 I.hok hb) ⟨.bl _,H,I,rfl,q⟩
 cases hc
end
noncomputable def zak:Expr->Bool|.Starred _ _=>false|_=>true
noncomputable def za2:Expr->Bool|.ListComp ..=>false|.SetComp ..=>false|.DictComp ..=>false|_=>true
noncomputable def zcv:Expr->Bool|.Slice ..=>false|_=>true
noncomputable def zbM:Expr->Bool|.Set ..=>false|_=>true
noncomputable def zaP:Expr->Bool|.Call (.Name _ _) [] [] _=>false|_=>true
noncomputable def zfU:Expr->Bool|.UnaryOp .Not _ _=>false|.BoolOp ..=>false|.IfExp ..=>false|.Compare ..=>false|_=>true
theorem zai(h:zak e=true)(es:List Expr)(env:Env):starEach (e::es) env=(false,eval e env)::starEach es env:=by cases e<;>first|rfl|cases h
theorem zdF(h:za2 e=true)(t:Option Expr)(l:Nat)(env:Env):swapsWith e t l env=pure false:=by cases e<;>first|rfl|cases h
theorem zoq(h:zcv e=true):zei e:=by intro o i;cases e<;>first|rfl|cases h
theorem zhP(h:zbM e=true)(op:CmpOp):behindInMarks op e=false:=by cases e<;>first|rfl|cases h
theorem zbY(h:zaP e=true)(x:Str)(env:Env)(w:Sem Value):attributeBase e x env w=w:=by unfold attributeBase;split;cases h;rfl
theorem zmW(h:zfU e=true)(env:Env)(w:Sem Value):isTrue e env w=(do let v <-w;standAt e.pos;holding [v] (truthy v)):=by
 cases e with
 |UnaryOp op x p=>cases op<;>first|rfl|cases h
 |_=>first|rfl|cases h
theorem zfx(h:zbM e=true)(env:Env)(x:Value):foldedSetIterable e env x=pure x:=by cases e<;>first|rfl|cases h
theorem zaH:∀{es:List Expr},es.all zak=true->(backTo pos (starEach es env)).any (·.1)=false
 | [],_=>rfl| e::es,h=>by rw[all_cons,and_eq_true]at h;rw[zai h.1];exact zaH h.2
def BM(mg:Str->Option Value)(base:Heap):Prop:=∃(bm:Addr) (o:Obj),mg "__builtins__"=some (.ref bm)/\bm≠builtinsNs/\bm≠mainGlobals/\base.get? bm=some o/\o.cls=.type "module"/\o.dict=some builtinsNs/\o.data=.plain
structure Maker(X:Cx)(c P:Addr):Prop where
 bm:BM X.mg X.base
 code:X.env.code=.ref c
 hd:codeHdIn X.K c P=true
 mem:(P,X.env.qual ++ "<lambda>")∈Mks.ts
 one:∀p∈Mks.ts,p.1=P->p.2=X.env.qual ++ "<lambda>"
structure Tab where
 blt:List Str
 cons:List (Str×D)
 fns:List (Str×List Str×Nat)
 cls:List Str:=[]
 flds:List Str:=[]
 mts:List (Nat×Str×Nat):=[]
 inits:List (Nat×Nat×Nat):=[]
 cms:List (Str×Str×Nat):=[]
 isas:List (Str×List Nat):=[]
 lam:List Str:=["lambda"]
 lamP:Nat:=0
noncomputable def zjZ(sc:Scope)(x:Str):Bool:=match sc.names.lookup x with|some .local=>true|some .cell=>true|some .free=>true|_=>false
noncomputable def zeN(sc:Scope)(x:Str):Bool:=match sc.names.lookup x with|some .local=>true|some .cell=>true|_=>false
noncomputable def isGl(sc:Scope)(x:Str):Bool:=match sc.names.lookup x with|some .globalImplicit=>true|_=>false
noncomputable def eqC:D->D->Bool
 |.non,.non=>true|.bl a,.bl b=>a==b|.int a,.int b=>a==b|.str a,.str b=>a==b|_,_=>false
theorem zoz:∀{d e:D},eqC d e=true->d=e:=by intro d e h;cases d<;>cases e<;>first|rfl|(simp[eqC,beq_iff_eq]at h;subst h;rfl)|cases h
noncomputable def sV:D->V
 |.non=>.non|.bl b=>.bl b|.int i=>.int i|.str x=>.str x|_=>.non
noncomputable def zlr:D->Bool
 |.non=>true|.bl _=>true|.int _=>true|.str _=>true|_=>false
theorem zpp{K:Frag}(h:zlr d=true):RV K ι H d (sV d):=by cases d<;>first|rfl|cases h
noncomputable def conB:D->Const->Bool
 |.non,.none=>true|.bl a,.bool b=>a==b|.int a,.int b=>a==b|.str a,.str b=>a==b|_,_=>false
noncomputable def bltB(T:Tab)(sc:Scope)(x:Str):Bool:=isGl sc x&&T.blt.contains x
def spF(K:Frag)(cf:CF)(f:Nat):Sp:=fun vs H Qv _=>∃ι S ds,RVs K ι H ds vs/\RH K ι H S/\W (cf f ds S) (fun d T=>∀v H' ι',Ext ι H ι' H'->RV K ι' H' d v->RH K ι' H' T->Qv v H')
structure HasM(P:Program)(w:World)(K:Frag)(mg:Str->Option Value)(base:Heap)(k c:Nat)(m:Str)(sp:Sp):Prop where
 ex:∃(C fa:Addr) (fd:FuncData) (ps:List Str),Mks.cl[c]?=some C/\Cls K C/\Meth K C m fa/\FnOk P w K mg base CX0 k fa fd ps sp/\Binds K fd ps []
structure HasI(P:Program)(w:World)(K:Frag)(mg:Str->Option Value)(base:Heap)(k c j:Nat)(sp:Sp):Prop where
 ex:∃(C fa:Addr) (fd:FuncData) (ps:List Str),Mks.cl[c]?=some C/\Mk K C fa/\FnOk P w K mg base CX0 k fa fd ps sp/\Binds K fd ps (List.replicate j Value.none)
structure HasC(P:Program)(w:World)(K:Frag)(mg:Str->Option Value)(base:Heap)(k:Nat)(x m:Str)(sp:Sp):Prop where
 ex:∃(C fa:Addr) (fd:FuncData) (ps:List Str) (mc:Value),mg x=some (.ref C)/\specialIn K (.ref C) "__getattribute__"=some (some (.builtin "type.__getattribute__"))/\readsIn K C mc=true/\findCls K (.ref C) mc m=some (.val (.ref fa))/\
  keepIn K (.ref fa)=true/\FnOk P w K mg base CX0 k fa fd ps sp/\Binds K fd ps []
structure IsaOk(K:Frag)(C:Addr):Prop where
 ha:findIn K (.ref C) "__class__"=some (some (.builtin "object.__class__"))
 hn:specialIn K (.builtin "object.__class__") "__get__"=some (some (.builtin "getset_descriptor.__get__"))
 ht:takesIn K (.builtin "object.__class__")=some true
 hm:mroIn K C (.type "object")=some true
structure TabOk(T:Tab)(cf:CF)(k:Nat)(P:Program)(w:World)(K:Frag)(mg:Str->Option Value)(base:Heap):Prop where
 blt:∀x,T.blt.contains x=true->mg x=none
 con:∀x d,T.cons.lookup x=some d->zlr d=true/\∃u,mg x=some u/\RelV (sV d) u
 fns:∀f x ps nd,T.fns[f]?=some (x,ps,nd)->∀j,j<=nd->Has P w K mg base k x ps (List.replicate j .non) (spF K cf f)
 frm:CFok cf
 cls:∀(c:Nat)(x:Str),T.cls[c]?=some x->∃C,Mks.cl[c]?=some C/\Cls K C/\mg x=some (.ref C)/\∀f,T.flds.contains f=true->NoAttr K C f
 mth:∀(c:Nat)(m:Str)(fi:Nat),T.mts.contains (c,m,fi)=true->HasM P w K mg base k c m (spF K cf fi)
 ini:∀(c fi j:Nat),T.inits.contains (c,fi,j)=true->HasI P w K mg base k c j (spF K cf fi)
 cmd:∀(x m:Str)(fi:Nat),T.cms.contains (x,m,fi)=true->HasC P w K mg base k x m (spF K cf fi)
 cln:(T.flds≠[]\/T.inits≠[]\/T.isas≠[])->Mks.cl.length<=T.cls.length
 isa:∀(x:Str)(cs:List Nat),T.isas.contains (x,cs)=true->∃D,mg x=some (.ref D)/\∀c C,Mks.cl[c]?=some C->IsaOk K C/\kitOne K (.ref C) (.ref D)=some (cs.contains c)
structure Gd(T:Tab)(cf:CF)(k:Nat)(N:List Str)(sc:Scope)(X:Cx):Prop where
 nm:X.N=N
 nd:N.Nodup
 loc:∀x,sc.names.lookup x=some .local->X.env.scope.names.lookup x=some .local
 cell:∀x,sc.names.lookup x=some .cell->X.env.scope.names.lookup x=some .cell
 free:∀x,sc.names.lookup x=some .free->X.env.scope.names.lookup x=some .free\/X.env.scope.names.lookup x=some .cell
 glob:∀x,sc.names.lookup x=some .globalImplicit->X.env.scope.names.lookup x=some .globalImplicit
 fn:(∀x,X.fn x=true)\/∀x,sc.names.lookup x≠some .cell
 calm:X.calm=true
 xe:X.xe=fun _ _=>False
 room':Room (k+1) X.A
 tab:TabOk T cf k X.prog X.w X.K X.mg X.base
 lam:N=T.lam->3<=k/\∃c,Maker X c T.lamP
section
variable{T:Tab}{cf:CF}{k:Nat}{N:List Str}{sc:Scope}{X:Cx}
theorem Gd.room(G:Gd T cf k N sc X):Room k X.A:=G.room'.mono (le_succ k)
theorem Gd.hu(G:Gd T cf k N sc X):X.A.units+128<cLine:=by have:=G.room.un;omega
theorem Gd.vis(G:Gd T cf k N sc X)(h:zjZ sc x=true):Vis X.env.scope x:=by unfold zjZ at h;split at h;rename_i e;exact .inl (G.loc x e);rename_i e;exact .inr (.inl (G.cell x e));rename_i e;rcases G.free x e with q|q;exact .inr (.inr q);exact .inr (.inl q);cases h
theorem Gd.lc(G:Gd T cf k N sc X)(h:zeN sc x=true):Loc X.env.scope x/\(X.fn x=true\/X.env.scope.names.lookup x=some .local):=by unfold zeN at h;split at h;rename_i e;exact⟨.inl (G.loc x e),.inr (G.loc x e)⟩;rename_i e;refine⟨.inr (G.cell x e),?_⟩;rcases G.fn with q|q;exact .inl (q x);exact absurd e (q x);cases h
theorem Gd.gl(G:Gd T cf k N sc X)(h:isGl sc x=true):Gl X x:=by unfold isGl at h;split at h;rename_i e;exact G.glob x e;cases h
end
def RS(K:Frag)(ι:List Addr)(H:Hp)(δ:Ev)(σ:L2.St):Prop:=δ.length=σ.length/\∀(i:Nat)(d:D),δ[i]?=some (some d)->∃v,σ[i]?=some (some v)/\RV K ι H d v
theorem RS.ext{K:Frag}(h:RS K ι H δ σ)(x:Ext ι H ι' H'):RS K ι' H' δ σ:=⟨h.1,fun i d e=>let ⟨v,e1,r⟩:=h.2 i d e;⟨v,e1,r.ext x⟩⟩
theorem RS.set{K:Frag}(h:RS K ι H δ σ)(r:RV K ι H d v)(i:Nat):RS K ι H (δ.set i (some d)) (σ.set i (some v)):=by
 refine⟨by simp[h.1],fun j e hj=>?_⟩;by_cases hij:i=j;subst hij;have hl:i<δ.length:=by have:=(List.getElem?_eq_some_iff.mp hj).1;simpa using this
 rw[getElem?_set_self hl]at hj;cases hj;exact⟨v,getElem?_set_self (by rw[<-h.1];exact hl),r⟩;rw[getElem?_set_ne hij]at hj;obtain⟨v',e1,r'⟩:=h.2 j e hj;exact⟨v',by rw[getElem?_set_ne hij];exact e1,r'⟩
theorem ex8{α β γ ε:Type}{A B C E:α->β->γ->ε->Prop}{P:Prop}(f:∀a b c d,A a b c d->B a b c d->C a b c d->E a b c d->P):(∃a b c d,A a b c d/\B a b c d/\C a b c d/\E a b c d)->P:=fun⟨a,b,c,d,h1,h2,h3,h4⟩=>f a b c d h1 h2 h3 h4
def tE(K:Frag)(cf:CF)(ce:CE):TE:=fun σ H Qv=>∃δ ι S Q,RS K ι H δ σ/\RH K ι H S/\W (evE cf ce δ S) Q/\∀v H',Lf K ι H Q v H'->Qv v H'
def LfB(K:Frag)(ι:List Addr)(H:Hp)(Q:Bool->R.St->Prop):Bool->Hp->Prop:=fun b H'=>∃ι' S',Ext ι H ι' H'/\RH K ι' H' S'/\Q b S'
def tT(K:Frag)(cf:CF)(ce:CE):TT:=fun σ H Qv=>∃δ ι S Q,RS K ι H δ σ/\RH K ι H S/\W (evT cf ce δ S) Q/\∀b H',LfB K ι H Q b H'->Qv b H'
def LfA(K:Frag)(ι:List Addr)(H:Hp)(Q:List D->R.St->Prop):List V->Hp->Prop:=fun vs H'=>∃ds ι' S',Ext ι H ι' H'/\RVs K ι' H' ds vs/\RH K ι' H' S'/\Q ds S'
def tAs(K:Frag)(cf:CF)(ces:CEs):TA:=fun σ H Qv=>∃δ ι S Q,RS K ι H δ σ/\RH K ι H S/\W (evEs cf ces δ S) Q/\∀vs H',LfA K ι H Q vs H'->Qv vs H'
inductive SqK(K:Frag)(ι:List Addr)(H:Hp)(S:R.St)(a:Addr)(xs:List V)(ds:List D)(lks:List Nat):Prop where
 |tmp (h:a∉ι) (e:H a=some (.lst xs)):SqK K ι H S a xs ds lks
 |tup (e:H a=some (.tup xs)):SqK K ι H S a xs ds lks
 |fix (e:FixL K H a xs):SqK K ι H S a xs ds lks
 |own (l:Nat) (hl:l∈lks) (hi:ι[l]?=some a) (hs:S.get l=some (.lst ds)) (e:H a=some (.lst xs)):SqK K ι H S a xs ds lks
def Sq(K:Frag)(ι:List Addr)(H:Hp)(S:R.St)(v:V)(ds:List D)(lks:List Nat):Prop:=∃a xs,v=.ref a/\RVs K ι H ds xs/\SqK K ι H S a xs ds lks
def LfL(K:Frag)(ι:List Addr)(H:Hp)(Q:List D×List Nat->R.St->Prop):VK:=fun v H'=>∃ds lks ι' S',Ext ι H ι' H'/\Sq K ι' H' S' v ds lks/\RH K ι' H' S'/\Q (ds,lks) S'
def tL(K:Frag)(cf:CF)(cl:CL):TE:=fun σ H Qv=>∃δ ι S Q,RS K ι H δ σ/\RH K ι H S/\W (evL cf cl δ S) Q/\∀v H',LfL K ι H Q v H'->Qv v H'
def LfT(K:Frag)(ι:List Addr)(H:Hp)(Q:List D×List Nat->R.St->Prop):VK:=fun v H'=>∃ds ι' S' a xs,Ext ι H ι' H'/\v=.ref a/\RVs K ι' H' ds xs/\a∉ι'/\H' a=some (.lst xs)/\RH K ι' H' S'/\H a=none/\Q (ds,[]) S'
def tLt(K:Frag)(cf:CF)(cl:CL):TE:=fun σ H Qv=>∃δ ι S Q,RS K ι H δ σ/\RH K ι H S/\W (evL cf cl δ S) Q/\∀v H',LfT K ι H Q v H'->Qv v H'
theorem LfT.l{K:Frag}(h:LfT K ι H Q v H'):LfL K ι H Q v H':=by obtain⟨ds,ι',S',a,xs,x,rfl,r,ha,e,hh,_,q⟩:=h;exact⟨ds,[],ι',S',x,⟨a,xs,rfl,r,.tmp ha e⟩,hh,q⟩
theorem PE.imp(h:PE X e t)(i:∀σ H Q,t' σ H Q->t σ H Q):PE X e t':=fun pins s σ H Q I q=>h pins s σ H Q I (i σ H Q q)
theorem PT.imp(h:PT X e t)(i:∀σ H Q,t' σ H Q->t σ H Q):PT X e t':=fun pins s σ H Q I q=>h pins s σ H Q I (i σ H Q q)
theorem PW.imp(h:PW X e t)(i:∀σ H Q,t' σ H Q->t σ H Q):PW X e t':=fun wh pins s σ H Q I q=>h wh pins s σ H Q I (i σ H Q q)
theorem PA.imp(h:PA X es t)(i:∀σ H Q,t' σ H Q->t σ H Q):PA X es t':=fun pos pins s σ H Q I q=>h pos pins s σ H Q I (i σ H Q q)
theorem tE.run{K:Frag}(hs:RS K ι H δ σ)(hh:RH K ι H S)(w:W (evE cf a δ S) Q)
  (h:∀d v ι' H' S',Ext ι H ι' H'->RS K ι' H' δ σ->RH K ι' H' S'->RV K ι' H' d v->Q d S'->Qv v H'):tE K cf a σ H Qv:=
 ⟨δ,ι,S,Q,hs,hh,w,fun v H' ⟨d,ι',S',x,r,hh',q⟩=>h d v ι' H' S' x (hs.ext x) hh' r q⟩
theorem tT.run{K:Frag}(hs:RS K ι H δ σ)(hh:RH K ι H S)(w:W (evT cf a δ S) Q)
  (h:∀b ι' H' S',Ext ι H ι' H'->RS K ι' H' δ σ->RH K ι' H' S'->Q b S'->Qv b H'):tT K cf a σ H Qv:=
 ⟨δ,ι,S,Q,hs,hh,w,fun b H' ⟨ι',S',x,hh',q⟩=>h b ι' H' S' x (hs.ext x) hh' q⟩
theorem tAs.run{K:Frag}(hs:RS K ι H δ σ)(hh:RH K ι H S)(w:W (evEs cf a δ S) Q)
  (h:∀ds vs ι' H' S',Ext ι H ι' H'->RS K ι' H' δ σ->RH K ι' H' S'->RVs K ι' H' ds vs->Q ds S'->Qv vs H'):tAs K cf a σ H Qv:=
 ⟨δ,ι,S,Q,hs,hh,w,fun v H' ⟨d,ι',S',x,r,hh',q⟩=>h d v ι' H' S' x (hs.ext x) hh' r q⟩
theorem PE.ofT(h:PE X e (tLt X.K cf cl)):PE X e (tL X.K cf cl):=PE.imp h fun σ H Qv=>ex8 fun δ ι S Q hs hh w q=>⟨δ,ι,S,Q,hs,hh,w,fun v H' l=>q v H' l.l⟩
theorem tLt.run{K:Frag}(hs:RS K ι H δ σ)(hh:RH K ι H S)(w:W (evL cf a δ S) Q)
  (h:∀ds p xs ι' H' S',Ext ι H ι' H'->RS K ι' H' δ σ->RH K ι' H' S'->RVs K ι' H' ds xs->p∉ι'->H' p=some (.lst xs)->H p=none->Q (ds,[]) S'->Qv (.ref p) H'):tLt K cf a σ H Qv:=
 ⟨δ,ι,S,Q,hs,hh,w,fun v H' ⟨ds,ι',S',p,xs,x,e,r,hp,hx,hh',hn,q⟩=>e▸h ds p xs ι' H' S' x (hs.ext x) hh' r hp hx hn q⟩
theorem tL.run{K:Frag}(hs:RS K ι H δ σ)(hh:RH K ι H S)(w:W (evL cf a δ S) Q)
  (h:∀ds lks v ι' H' S',Ext ι H ι' H'->RS K ι' H' δ σ->RH K ι' H' S'->Sq K ι' H' S' v ds lks->Q (ds,lks) S'->Qv v H'):tL K cf a σ H Qv:=
 ⟨δ,ι,S,Q,hs,hh,w,fun v H' ⟨ds,lks,ι',S',x,r,hh',q⟩=>h ds lks v ι' H' S' x (hs.ext x) hh' r q⟩
section
variable{T:Tab}{cf:CF}{k:Nat}{N:List Str}{sc:Scope}{X:Cx}{pos:Pos}
theorem ze9(h:W o Q):∃a S,o=.ok a S/\Q a S:=W.iff.mp h
theorem zay(h:W (lift S o) Q):∃a,o=some a/\Q a S:=by cases o with|none=>exact h.elim|some a=>exact⟨a,rfl,h⟩
theorem znj(G:Gd T cf k N sc X)(h1:N[i]?=some x)(h2:zjZ sc x=true)(h3:(x==("__debug__":Str))=false)(h4:(x==("__classdict__":Str))=false):PE X (.Name x pos) (tE X.K cf (.loc i)):=by
 refine PE.imp (zkx (by rw[G.nm];exact h1) (G.vis h2) h3 h4) fun σ H Qv=>ex8 fun δ ι S Q hs hh w q=>?_;obtain⟨d,e,hq⟩:=zay w;have e':δ[i]?=some (some d):=by
  cases z:δ[i]? with
  |none=>rw[z]at e;cases e
  |some o=>rw[z]at e;simp at e;rw[e]
 obtain⟨v,ev,r⟩:=hs.2 i d e';exact⟨v,ev,q v H (Lf.of hh r hq)⟩
theorem znn(h:conB d c=true):PE X (.Constant c j pos) (tE X.K cf (.con d)):=by
 have key:∀{v:V},PE X (.Constant c j pos) (tC v)->(∀K ι H,RV K ι H d v)->PE X (.Constant c j pos) (tE X.K cf (.con d)):=fun {v} hp hr=>PE.imp hp fun σ H Qv=>ex8 fun δ ι S Q hs hh w q=>q v H (Lf.of hh (hr _ _ _) (by simpa[evE]using w))
 cases d<;>cases c<;>first
  |exact key znR fun _ _ _=>rfl
  |cases h
  |(simp[conB,beq_iff_eq]at h;subst h;exact key zhG fun _ _ _=>rfl)
  |(simp[conB,beq_iff_eq]at h;subst h;exact key zpC fun _ _ _=>rfl)
  |(simp[conB,beq_iff_eq]at h;subst h;exact key znP fun _ _ _=>rfl)
theorem zlm(G:Gd T cf k N sc X)(h1:isGl sc x=true)(h2:T.cons.lookup x=some d')(h3:eqC d' d=true)(h4:(x==("__debug__":Str))=false):PE X (.Name x pos) (tE X.K cf (.con d)):=by have e:=zoz h3;subst e;obtain⟨hsc,u,hu,r⟩:=G.tab.con x d' h2;exact PE.imp (zhH (G.gl h1) hu r h4) fun σ H Qv=>ex8 fun δ ι S Q hs hh w q=>q (sV d') H (Lf.of hh (zpp hsc) (by simpa[evE]using w))
theorem znp(ha:PE X a (tE X.K cf ca))(hb:PE X b (tE X.K cf cb)):PE X (.BinOp a op b pos) (tE X.K cf (.bin op ca cb)):=by refine PE.imp (zpA (zoN op) ha hb) fun σ H Qv=>ex8 fun δ ι S Q hs hh w q=>?_;simp[evE,zaa]at w;refine tE.run hs hh w fun d v ι1 H1 S1 x1 hs1 hh1 r1 w1=>tE.run hs1 hh1 w1 fun e u ι2 H2 S2 x2 hs2 hh2 r2 w2=>?_;exact⟨ι2,S2,d,e,Q,r1.ext x2,r2,hh2,w2,fun z H3 l=>q z H3 (Lf.up (x1.trans x2) l)⟩
theorem znf(ha:PE X a (tE X.K cf ca)):PE X (.UnaryOp .USub a pos) (tE X.K cf (.neg ca)):=by refine PE.imp (zpy zmS ha) fun σ H Qv=>ex8 fun δ ι S Q hs hh w q=>?_;simp[evE,zaa]at w;refine tE.run hs hh w fun d v ι1 H1 S1 x1 hs1 hh1 r1 w1=>?_;cases d with| int i=>obtain rfl:v=.int i:=r1;exact⟨i,rfl,q _ _ (Lf.up x1 (Lf.of (d:=.int (-i)) hh1 rfl w1))⟩|_=>exact w1.elim
theorem zpj(ha:PE X a (tE X.K cf ca)):PE X (.UnaryOp .Not a pos) (tE X.K cf (.nt ca)):=by refine PE.imp (znQ ha) fun σ H Qv=>ex8 fun δ ι S Q hs hh w q=>?_;simp[evE,zaa]at w;refine tE.run hs hh w fun d v ι1 H1 S1 x1 hs1 hh1 r1 w1=>?_;cases d with| bl i=>obtain rfl:v=.bl i:=r1;exact⟨i,rfl,q _ _ (Lf.up x1 (Lf.of (d:=.bl (!i)) hh1 rfl w1))⟩|_=>exact w1.elim
theorem zno(G:Gd T cf k N sc X)(ha:PE X a (tE X.K cf ca))(hb:PE X b (tE X.K cf cb))(hm:zbM b=true):PE X (.Compare a [op] [b] pos) (tE X.K cf (.cmp op ca cb)):=by refine PE.imp (zlW (zkN G.hu op) ha hb (zhP hm op)) fun σ H Qv=>ex8 fun δ ι S Q hs hh w q=>?_;simp[evE,zaa]at w;refine tE.run hs hh w fun d v ι1 H1 S1 x1 hs1 hh1 r1 w1=>tE.run hs1 hh1 w1 fun e u ι2 H2 S2 x2 hs2 hh2 r2 w2=>?_;obtain⟨b,hb,w3⟩:=zay w2;exact⟨ι2,S2,d,e,b,r1.ext x2,r2,hh2,hb,q _ _ (Lf.up (x1.trans x2) (Lf.of (d:=.bl b) hh2 rfl w3))⟩
theorem zm6(G:Gd T cf k N sc X)(ha:PE X a (tE X.K cf ca))(hb:PE X b (tE X.K cf cb))(hm:zbM b=true):PT X (.Compare a [op] [b] pos) (tT X.K cf (.cmp op ca cb)):=by refine PT.imp (zlJ (zkN G.hu op) ha hb (zhP hm op)) fun σ H Qv=>ex8 fun δ ι S Q hs hh w q=>?_;simp[evT,zaa]at w;refine tE.run hs hh w fun d v ι1 H1 S1 x1 hs1 hh1 r1 w1=>tE.run hs1 hh1 w1 fun e u ι2 H2 S2 x2 hs2 hh2 r2 w2=>?_;obtain⟨b,hb,w3⟩:=zay w2;exact⟨ι2,S2,d,e,b,r1.ext x2,r2,hh2,hb,b,rfl,q _ _ ⟨ι2,S2,x1.trans x2,hh2,w3⟩⟩
theorem zkr(ha:PE X a (tE X.K cf ca))(hb:PE X (.BoolOp .And (b::rest) pos) (tE X.K cf cb)):PE X (.BoolOp .And (a::b::rest) pos) (tE X.K cf (.and ca cb)):=by
 refine PE.imp (znX ha hb) fun σ H Qv=>ex8 fun δ ι S Q hs hh w q=>?_;simp[evE,zaa]at w;refine tE.run hs hh w fun d v ι1 H1 S1 x1 hs1 hh1 r1 w1=>?_;cases d with
 |bl c=>obtain rfl:v=.bl c:=r1;refine⟨c,rfl,?_⟩;cases c with|false=>exact q _ _ (Lf.up x1 (Lf.of (d:=.bl false) hh1 rfl w1))|true=>exact⟨δ,ι1,S1,Q,hs1,hh1,w1,fun z H3 l=>q z H3 (Lf.up x1 l)⟩
 |_=>exact w1.elim
theorem zne(ha:PE X a (tE X.K cf ca))(hb:PE X (.BoolOp .Or (b::rest) pos) (tE X.K cf cb)):PE X (.BoolOp .Or (a::b::rest) pos) (tE X.K cf (.or ca cb)):=by
 refine PE.imp (zpz ha hb) fun σ H Qv=>ex8 fun δ ι S Q hs hh w q=>?_;simp[evE,zaa]at w;refine tE.run hs hh w fun d v ι1 H1 S1 x1 hs1 hh1 r1 w1=>?_;cases d with
 |bl c=>obtain rfl:v=.bl c:=r1;refine⟨c,rfl,?_⟩;cases c with|true=>exact q _ _ (Lf.up x1 (Lf.of (d:=.bl true) hh1 rfl w1))|false=>exact⟨δ,ι1,S1,Q,hs1,hh1,w1,fun z H3 l=>q z H3 (Lf.up x1 l)⟩
 |_=>exact w1.elim
theorem LfB.up{K:Frag}(x:Ext ι H ι' H')(h:LfB K ι' H' Q b H2):LfB K ι H Q b H2:=by obtain⟨ι2,S2,x2,r⟩:=h;exact⟨ι2,S2,x.trans x2,r⟩
theorem zkl(ha:PT X a (tT X.K cf ca))(hb:PW X (.BoolOp .And (b::rest) pos) (tT X.K cf cb)):PW X (.BoolOp .And (a::b::rest) pos) (tT X.K cf (.and ca cb)):=by refine PW.imp (znF ha hb) fun σ H Qv=>ex8 fun δ ι S Q hs hh w q=>?_;simp[evT,zaa]at w;refine tT.run hs hh w fun c ι1 H1 S1 x1 hs1 hh1 w1=>?_;cases c with|false=>exact q _ _ ⟨ι1,S1,x1,hh1,w1⟩|true=>exact⟨δ,ι1,S1,Q,hs1,hh1,w1,fun z H3 l=>q z H3 (LfB.up x1 l)⟩
theorem zm5(ha:PT X a (tT X.K cf ca))(hb:PW X (.BoolOp .Or (b::rest) pos) (tT X.K cf cb)):PW X (.BoolOp .Or (a::b::rest) pos) (tT X.K cf (.or ca cb)):=by refine PW.imp (zpv ha hb) fun σ H Qv=>ex8 fun δ ι S Q hs hh w q=>?_;simp[evT,zaa]at w;refine tT.run hs hh w fun c ι1 H1 S1 x1 hs1 hh1 w1=>?_;cases c with|true=>exact q _ _ ⟨ι1,S1,x1,hh1,w1⟩|false=>exact⟨δ,ι1,S1,Q,hs1,hh1,w1,fun z H3 l=>q z H3 (LfB.up x1 l)⟩
theorem zpf(ha:PT X a (tT X.K cf ca)):PT X (.UnaryOp .Not a pos) (tT X.K cf (.nt ca)):=by refine PT.imp (znG ha) fun σ H Qv=>ex8 fun δ ι S Q hs hh w q=>?_;simp[evT,zaa]at w;exact tT.run hs hh w fun c ι1 H1 S1 x1 hs1 hh1 w1=>q _ _ ⟨ι1,S1,x1,hh1,w1⟩
theorem zmX(hh:RH X.K ι H S)(r:RV X.K ι H d v)(h:tru S d=some b):TruV X.K v H b:=by
 cases d with
 |non=>obtain rfl:v=.non:=r;cases h;rfl|bl c=>obtain rfl:v=.bl c:=r;cases h;rfl|int i=>obtain rfl:v=.int i:=r;cases h;rfl| tup ds=>obtain⟨a,xs,rfl,ha,rr⟩:=r;cases h;refine .inr (.inl ⟨xs,SqT.of ha,?_⟩);have:=rr.length;cases ds<;>cases xs<;>first|rfl|simp at this
 |ref l=>
  simp[tru]at h;split at h
  . rename_i ds e;cases h;obtain⟨a,h1,rfl⟩:=r;obtain⟨a2,h2,xs,ha,rr⟩:=hh.obj _ _ e;rw[h1]at h2;cases h2;refine .inl ⟨xs,SqL.of ha,?_⟩;have:=rr.length;cases ds<;>cases xs<;>first|rfl|simp at this
  cases h
 |_=>cases h
theorem zm4(ha:PE X a (tE X.K cf ca))(hp:zfU a=true):PT X a (tT X.K cf (.tst ca)):=by refine PT.imp (zjv ha (zmW hp X.env)) fun σ H Qv=>ex8 fun δ ι S Q hs hh w q=>?_;simp[evT,zaa]at w;refine tE.run hs hh w fun d v ι1 H1 S1 x1 hs1 hh1 r1 w1=>?_;obtain⟨b,hb,w2⟩:=zay w1;exact⟨b,zmX hh1 r1 hb,q _ _ ⟨ι1,S1,x1,hh1,w2⟩⟩
theorem znk(hc:PT X c (tT X.K cf cc))(ha:PE X a (tE X.K cf ca))(hb:PE X b (tE X.K cf cb)):PE X (.IfExp c a b pos) (tE X.K cf (.ite cc ca cb)):=by refine PE.imp (zjD hc ha hb) fun σ H Qv=>ex8 fun δ ι S Q hs hh w q=>?_;simp[evE,zaa]at w;refine tT.run hs hh w fun c ι1 H1 S1 x1 hs1 hh1 w1=>?_;cases c with|true=>exact⟨δ,ι1,S1,Q,hs1,hh1,w1,fun z H3 l=>q z H3 (Lf.up x1 l)⟩|false=>exact⟨δ,ι1,S1,Q,hs1,hh1,w1,fun z H3 l=>q z H3 (Lf.up x1 l)⟩
theorem zks:PA X [] (tAs X.K cf .nil):=PA.imp zfY fun σ H Qv=>ex8 fun δ ι S Q hs hh w q=>q [] H ⟨[],ι,S,Ext.refl _ _,rfl,hh,by simpa[evEs]using w⟩
theorem zhk(he:PE X e (tE X.K cf ce))(hes:PA X es (tAs X.K cf ces))(hn:zak e=true):PA X (e::es) (tAs X.K cf (.cons ce ces)):=by refine PA.imp (zcj he hes (zai hn es X.env)) fun σ H Qv=>ex8 fun δ ι S Q hs hh w q=>?_;simp[evEs,zaa]at w;refine tE.run hs hh w fun d v ι1 H1 S1 x1 hs1 hh1 r1 w1=>tAs.run hs1 hh1 w1 fun ds vs ι2 H2 S2 x2 hs2 hh2 r2 w2=>?_;exact q _ _ ⟨d::ds,ι2,S2,x1.trans x2,⟨v,vs,rfl,r1.ext x2,r2⟩,hh2,w2⟩
theorem znd(h:PA X es (tAs X.K cf ces)):PE X (.Tuple es j pos) (tE X.K cf (.tup ces)):=by refine PE.imp (znO h) fun σ H Qv=>ex8 fun δ ι S Q hs hh w q=>?_;simp[evE,zaa]at w;refine tAs.run hs hh w fun ds vs ι1 H1 S1 x1 hs1 hh1 r1 w1=>?_;split at w1;rename_i c;exact⟨by rw[r1.length,sizeLine_eq];exact c,fun p hp=>q _ _ (Lf.up x1 (Lf.tup hh1 hp r1 w1))⟩;exact w1.elim
theorem zni(h:PA X es (tAs X.K cf ces)):PE X (.List es pos) (tE X.K cf (.lst ces)):=by refine PE.imp (znS h) fun σ H Qv=>ex8 fun δ ι S Q hs hh w q=>?_;simp[evE,zaa]at w;refine tAs.run hs hh w fun ds vs ι1 H1 S1 x1 hs1 hh1 r1 w1=>?_;obtain⟨c,w2⟩:=zcL w1;exact⟨by rw[r1.length];exact c,fun p hp=>q _ _ (Lf.up x1 (Lf.lst hh1 hp r1 w2))⟩
theorem zlo:PE X (.Dict [] [] pos) (tE X.K cf .dnew):=by refine PE.imp zjF fun σ H Qv=>ex8 fun δ ι S Q hs hh w q=>?_;intro p hp;exact q _ _ ⟨.ref S.len,ι++[p],S.push (.dic []),Ext.obj hh hp _,⟨p,hh.last p,rfl⟩,hh.obj' hp _ _ ⟨List.nodup_nil,[],zag,rfl⟩,w⟩
theorem zpQ(hh:RH X.K ι H S)(r:RV X.K ι H d v)(hq:zbI S d=some ds)(ha:R.atI ds i=some e):∃u,rIx X.K v (.int i) H (fun z H'=>z=u/\H'=H)/\RV X.K ι H e u:=by
 obtain⟨a,xs,rfl,hx,rr⟩:=zkp hh hq r;have hl:=rr.length;have key:∃u,L2.atI xs i=some u/\RV X.K ι H e u:=by
  unfold R.atI at ha;cases e1:R.ixN ds.length i with
  |none=>rw[e1]at ha;cases ha
  |some j=>
   rw[e1]at ha;obtain⟨u,h1,h2⟩:=rr.get ha;refine⟨u,?_,h2⟩;unfold L2.atI;have:L2.ixN xs.length i=some j:=by rw[hl];exact e1
   rw[this];exact h1
 obtain⟨u,h1,h2⟩:=key;refine⟨u,?_,h2⟩;rcases hx with hx|hx;exact .inl ⟨a,xs,i,u,rfl,rfl,hx,h1,rfl,rfl⟩;exact .inr (.inl ⟨a,xs,i,u,rfl,rfl,hx,h1,rfl,rfl⟩)
theorem zlB{K:Frag}(h:rIx K x y H (fun z H'=>z=u/\H'=H))(q:Q u H):rIx K x y H Q:=by rcases h with⟨p,xs,i,v,h1,h2,h3,h4,rfl,_⟩|⟨p,xs,i,v,h1,h2,h3,h4,rfl,_⟩|⟨z,i,c,h1,h2,h3,h4,h5,_⟩;exact .inl ⟨p,xs,i,v,h1,h2,h3,h4,q⟩;exact .inr (.inl ⟨p,xs,i,v,h1,h2,h3,h4,q⟩);exact .inr (.inr ⟨z,i,c,h1,h2,h3,h4,by rw[h5];exact q⟩)
theorem zpm(ha:PE X a (tE X.K cf ca))(hb:PE X b (tE X.K cf cb))(hp:zcv b=true):PE X (.Subscript a b pos) (tE X.K cf (.ix ca cb)):=by refine PE.imp (zpB zop ha hb (zoq hp)) fun σ H Qv=>ex8 fun δ ι S Q hs hh w q=>?_;simp[evE,zaa]at w;refine tE.run hs hh w fun d v ι1 H1 S1 x1 hs1 hh1 r1 w1=>tE.run hs1 hh1 w1 fun e u ι2 H2 S2 x2 hs2 hh2 r2 w2=>?_;split at w2;rename_i ds i eq;obtain⟨z,hz,w3⟩:=zay w2;obtain rfl:u=.int i:=r2;obtain⟨u,h1,h2⟩:=zpQ hh2 (r1.ext x2) eq hz;exact zlB h1 (q _ _ (Lf.up (x1.trans x2) (Lf.of hh2 h2 w3)));exact w2.elim
end
section
variable{K:Frag}{ι ι':List Addr}{H H':Hp}{S T:R.St}{d:D}{v:V}
theorem zmo(hf:T.frz=S.frz++S.new)(h:S.get l=some o):T.get l=some o:=by obtain⟨f,n,k⟩:=T;subst hf;exact zmm h n k
theorem RH.cut(hh:RH K ι H S)(x:Ext ι H ι' H')(hT:RH K ι' H' T)(hf:T.frz=S.frz++S.new):RH K ι H' S:=by refine⟨hh.len,hh.nd,fun l o e=>?_,hT.tab⟩;obtain⟨a,h1,h2⟩:=hh.obj l o e;obtain⟨b,h3,h4⟩:=hT.obj l o (zmo hf e);rw[zbs x.pre h1]at h3;cases h3;refine⟨a,h1,?_⟩;cases o with| lst ds=>obtain⟨xs,_,r1⟩:=h2;obtain⟨ys,e2,r2⟩:=h4;exact⟨ys,e2,r2.restrict x.pre r1.flats⟩| dic kvs=>obtain⟨_,ws,_,r1⟩:=h2;obtain⟨nd,ys,e2,r2⟩:=h4;exact⟨nd,ys,e2,r2.restrict x.pre r1.flats⟩| ins c fs=>obtain⟨_,_,ws,_,_,r1⟩:=h2;obtain⟨C,dx,ys,e0,e2,r2⟩:=h4;exact⟨C,dx,ys,e0,e2,r2.restrict x.pre r1.flats⟩| d3 kvs=>obtain⟨_,ws,_,r1⟩:=h2;obtain⟨nd,ys,e2,r2⟩:=h4;exact⟨nd,ys,e2,r2.restrict x.pre r1.flats⟩| d4 kvs=>obtain⟨_,ws,_,r1⟩:=h2;obtain⟨nd,ys,e2,r2⟩:=h4;exact⟨nd,ys,e2,r2.restrict x.pre r1.flats⟩
theorem Ext.cut(x:Ext ι H ι' H'):Ext ι H ι H':=⟨prefix_refl _,x.kp,fun a o h e=>⟨(x.rest a o h e).1,h⟩⟩
theorem zlN(hp:ι <+: ι')(nd:ι'.Nodup)(hl:ι'[l]?=some a)(h:ι.length<=l):a∉ι:=fun hm=>by obtain⟨t,rfl⟩:=hp;rw[getElem?_append_right h]at hl;have h2:=mem_of_getElem? hl;exact(nodup_append.mp nd).2.2 a hm a h2 rfl
theorem zit(x:Ext ι H ι' H')(nd:ι'.Nodup)(hl:ι'[l]?=some a)(h:ι.length<=l):Ext ι H (ι++[a]) H':=by refine⟨prefix_append _ _,x.kp,fun b o hb e=>⟨(x.rest b o hb e).1,fun z=>?_⟩⟩;rcases mem_append.mp z with z|z;exact hb z;simp at z;subst z;exact(x.rest b o hb e).2 (mem_of_getElem? hl)
theorem RH.one{l:Nat}(hh:RH K ι H' S)(nd:a∉ι)(ho:RO K (ι++[a]) H' a o):RH K (ι++[a]) H' (S.push o):=by
 refine⟨by rw[length_append,hh.len,zbC];rfl,?_,fun l o' e=>?_,hh.tab⟩;rw[nodup_append];refine⟨hh.nd,by simp,fun b hb c hc=>?_⟩;simp at hc;subst hc;exact fun z=>nd (z▸hb);by_cases hl:l<S.len;rw[zbV hl]at e;obtain⟨b,h1,h2⟩:=hh.obj l o' e;exact⟨b,zbs (prefix_append _ _) h1,h2.up (prefix_append _ _) (Kp.refl _) rfl⟩;have hl2:=zam e;rw[zbC]at hl2;have:l=S.len:=by omega
 subst this;rw[zd5]at e;cases e;exact⟨a,by rw[<-hh.len];simp,ho⟩
theorem RH.keep(hT:RH K ι' H' T)(hf:T.frz=S.frz++S.new):RH K ι' H' ⟨S.frz,S.new++T.new,S.lk⟩:=by
 have hg:∀l,(R.St.mk S.frz (S.new++T.new) S.lk).get l=T.get l:=fun l=>by unfold St.get;rw[hf];simp;by_cases h1:l<S.frz.length;rw[if_pos h1,if_pos (by omega),getElem?_append_left h1];by_cases h2:l<S.frz.length+S.new.length;rw[if_neg h1,if_pos h2,getElem?_append_left (by omega),getElem?_append_right (by omega)];rw[if_neg h1,if_neg h2,getElem?_append_right (by omega)];congr 1;omega
 refine⟨?_,hT.nd,fun l o e=>hT.obj l o (by rw[<-hg];exact e),hT.tab⟩;rw[hT.len];unfold St.len;rw[hf];simp;omega
theorem zgb(hh:RH K ι H S)(x:Ext ι H ι' H')(r:RV K ι' H' d v)(hT:RH K ι' H' T)(hf:T.frz=S.frz++S.new)(w:W (zb4 S d T) Q):Lf K ι H Q v H':=by
 have hc:=hh.cut x hT hf;unfold zb4 at w;split at w;rename_i c;rw[<-hh.len]at c;exact⟨d,ι,S,x.cut,r.restrict x.pre c,hc,w⟩;rename_i c;split at w;rename_i l;obtain⟨a,h1,rfl⟩:=id r;have hl:ι.length<=l:=by simp[R.flat,decide_eq_true_eq]at c;rw[hh.len];omega
 have ha:=zlN x.pre hT.nd h1 hl;split at w;rename_i ds e;obtain⟨b,h2,h3⟩:=hT.obj l _ e;rw[h1]at h2;cases h2;split at w;rename_i c2;rw[<-hh.len]at c2;obtain⟨ys,e2,r2⟩:=h3;refine⟨.ref S.len,ι++[a],S.push (.lst ds),zit x hT.nd h1 hl,⟨a,by rw[<-hh.len];simp,rfl⟩,hc.one (l:=l) ha ⟨ys,e2,(r2.restrict x.pre c2).up (prefix_append _ _) (Kp.refl _)⟩,w⟩;exact⟨_,ι',_,x,r,hT.keep hf,w⟩;rename_i kvs e;obtain⟨b,h2,h3⟩:=hT.obj l _ e;rw[h1]at h2;cases h2;split at w;rename_i c2;rw[<-hh.len]at c2;obtain⟨nd,ys,e2,r2⟩:=h3;refine⟨.ref S.len,ι++[a],S.push (.dic kvs),zit x hT.nd h1 hl,⟨a,by rw[<-hh.len];simp,rfl⟩,hc.one (l:=l) ha ⟨nd,ys,e2,(r2.restrict x.pre c2).up (prefix_append _ _) (Kp.refl _)⟩,w⟩;exact⟨_,ι',_,x,r,hT.keep hf,w⟩;exact⟨_,ι',_,x,r,hT.keep hf,w⟩;exact⟨_,ι',_,x,r,hT.keep hf,w⟩
end
section
variable{T:Tab}{cf:CF}{k:Nat}{N:List Str}{sc:Scope}{X:Cx}{pos p:Pos}
theorem RVs.nons{K:Frag}:∀j:Nat,RVs K ι H (List.replicate j .non) (List.replicate j .non)
 |0=>rfl|j+1=>⟨.non,List.replicate j .non,rfl,rfl,RVs.nons j⟩
theorem RH.enter{K:Frag}(h:RH K ι H S):RH K ι H S.enter:=⟨by rw[enter_len];exact h.len,h.nd,fun l o e=>h.obj l o (by rw[zaC]at e;exact e),h.tab⟩
theorem ziP(hfr:CFok cf)(h:tE X.K cf (.call f j ces) σ H Qv) :
  zdE (spF X.K cf f) (List.replicate j .non) E0 (tAs X.K cf ces) σ H Qv:=by
 obtain⟨δ,ι,S,Q,hs,hh,w,q⟩:=h;simp[evE,zaa]at w;refine tAs.run hs hh w fun ds vs ι1 H1 S1 x1 hs1 hh1 r1 w1=>?_;unfold app at w1;rw[zaa]at w1;refine⟨ι1,S1.enter,ds++List.replicate j .non,r1.append (RVs.nons j),hh1.enter,?_⟩;obtain⟨d,T',e,w2⟩:=ze9 w1;rw[e];exact fun v H' ι' x r hT=>q v H' (Lf.up x1 (zgb hh1 x r hT (hfr _ _ _ _ _ e).frz w2))
theorem ziR{K:Frag}(hh:RH K ι1 H1 S1)(x:Ext ι H ι1 H1)(hn:H1 a=none):H a=none:=by
 cases e:H a with
 |none=>rfl| some o=>
  by_cases hm:a∈ι;have h2:a∈ι1:=by obtain⟨t,rfl⟩:=x.pre;exact mem_append_left _ hm
  exact absurd h2 (hh.fresh hn)
  . have:=(x.rest a o hm e).1;rw[hn]at this;rcases this with z|⟨_,_,z⟩<;>cases z
theorem zlq(G:Gd T cf k N sc X)(hf:T.fns[f]?=some (x,ps,nd))(hj:j<=nd)(hg:isGl sc x=true)(hd:(x==("__debug__":Str))=false)(ha:PA X (e::es) (tAs X.K cf ces))(hst:(e::es).all zak=true) :
  PE X (.Call (.Name x p) (e::es) [] pos) (tE X.K cf (.call f j ces)):=by
 have Hs:=G.tab.fns f x ps nd hf j hj;rw[all_cons,and_eq_true]at hst;exact PE.imp (znV Hs G.room ha (G.gl hg) hd (zai hst.1 es X.env) (zaH hst.2)) fun σ H Qv h=>ziP G.tab.frm h
theorem zjg(G:Gd T cf k N sc X)(hf:T.fns[f]?=some (x,ps,nd))(hj:j<=nd)(hg:isGl sc x=true)(hd:(x==("__debug__":Str))=false) :
  PE X (.Call (.Name x p) [] [] pos) (tE X.K cf (.call f j .nil)):=by
 have Hs:=G.tab.fns f x ps nd hf j hj;refine PE.imp (znU Hs G.room (G.gl hg) hd) fun σ H Qv=>ex8 fun δ ι S Q hs hh w q=>?_;simp only[evE,evEs,zal]at w;unfold app at w;rw[zaa]at w;obtain⟨d,T',e,w2⟩:=ze9 w;refine⟨ι,S.enter,[]++List.replicate j .non,RVs.append rfl (RVs.nons j),hh.enter,?_⟩;rw[e];exact fun v H' ι' x r hT=>q v H' (zgb hh x r hT (G.tab.frm _ _ _ _ _ e).frz w2)
theorem zg4(h:tE X.K cf (.callW f j ces) σ H Qv) :
  zdE (spF X.K cf f) (List.replicate j .non) E0 (tAs X.K cf ces) σ H Qv:=by
 obtain⟨δ,ι,S,Q,hs,hh,w,q⟩:=h;simp[evE,zaa]at w;refine tAs.run hs hh w fun ds vs ι1 H1 S1 x1 hs1 hh1 r1 w1=>?_;unfold appW at w1;refine⟨ι1,S1,ds++List.replicate j .non,r1.append (RVs.nons j),hh1,?_⟩;obtain⟨d,T',e,w2⟩:=ze9 w1;rw[e];exact fun v H' ι' x r hT=>q v H' (Lf.up x1 ⟨d,ι',T',x,r,hT,w2⟩)
theorem zje(G:Gd T cf k N sc X)(hf:T.fns[f]?=some (x,ps,nd))(hj:j<=nd)(hg:isGl sc x=true)(hd:(x==("__debug__":Str))=false)(ha:PA X (e::es) (tAs X.K cf ces))(hst:(e::es).all zak=true) :
  PE X (.Call (.Name x p) (e::es) [] pos) (tE X.K cf (.callW f j ces)):=by
 have Hs:=G.tab.fns f x ps nd hf j hj;rw[all_cons,and_eq_true]at hst;exact PE.imp (znV Hs G.room ha (G.gl hg) hd (zai hst.1 es X.env) (zaH hst.2)) fun σ H Qv h=>zg4 h
end
section
variable{prog:Program}{w:World}{A:Around}{E:Value->Shared->Prop}{s:Shared}
theorem zbW{lo hi:Option Int}(ht:IsTup s.heap t items)(hs:s.heap.IsSliceOf sl vl vu .none)(pl:IsPart vl lo)(pu:IsPart vu hi)
  (hw:HT.sIx items.size 0 lo=0/\HT.sIx items.size items.size hi=items.size)
  (h:Q (.ref t) s):wpAny (model prog w) A (getItem (.ref t) (.ref sl)) Q E s:=by
 obtain⟨os,hos,hcs,hds⟩:=id hs;have hTs:s.TypeIs (.ref sl) "slice":=⟨os,hos,hcs⟩;unfold getItem
 try with_reducible apply wpAny_holding
 refine wpAny_bind (wpAny_sequenceKey ht.typeIs (by decide) ?_);refine wpAny_bind (wpAny_callSpecial?_slot ht.typeIs PyProof.Rows.slot_tuple_getitem
  (wpAny_call_entry PyProof.Rows.slot_tuple_getitem ht.typeIs entry_tuple_getitem ?_ (args_tuple_getitem _ _)))
 show wpAny _ _ (Builtin.Tuple.tupleItemsOf (.ref t)>>=_) _ _ s;refine wpAny_bind (tupleItemsOf_ ht ?_);refine wpAny_bind (wpAny_typeOf hTs ?_);refine wpAny_bind (HT.sliceApplied_gen hs pl pu ?_);have hyes:(((HT.sIx items.size 0 lo:Nat):Int)==0&&(1:Int)==1&&(HT.sIx items.size items.size hi-HT.sIx items.size 0 lo)==items.size)=true:=by rw[hw.1,hw.2];simp
 show wpAny _ _ (if(((HT.sIx items.size 0 lo:Nat):Int)==0&&(1:Int)==1&&(HT.sIx items.size items.size hi-HT.sIx items.size 0 lo)==items.size)=true then _ else _) _ _ s;rw[if_pos hyes];refine wpAny_bind (wpAny_bind (wpAny_typeOf ht.typeIs (wpAny_pure ?_)));exact wpAny_bind (wpAny_rule (wpAny_pure ⟨_,rfl,wpAny_pure h⟩))
end
section
variable{T:Tab}{cf:CF}{k:Nat}{N:List Str}{sc:Scope}{X:Cx}{pos p:Pos}
def rSlW(K:Frag):V->Option Int->Option Int->Hp->VK->Prop:=fun x lo hi H Q=>∃a xs,x=.ref a/\SqT K H a xs/\
 (HT.sIx xs.length 0 lo=0/\HT.sIx xs.length xs.length hi=xs.length)/\Q (.ref a) H
theorem zi5:SlR X (rSlW X.K):=by
 intro pins s σ H x v vl vu lo hi sl Q I rx hs pl pu h;obtain⟨a,xs,rfl,hx,hw,q⟩:=h;cases rx;obtain⟨its,r,ht,hz⟩:=I.tuple hx;have hlen:its.toArray.size=xs.length:=by rw[size_toArray];exact r.length.symm
 exact⟨"tuple",_,PyProof.Rows.slot_tuple_getitem.lookup,ht.typeIs,zbW ht hs pl pu (by rw[hlen];exact hw) ⟨.ref a,H,I,rfl,q⟩⟩
theorem zfL(n d:Nat)(o:Option Int):R.sIx n d o=HT.sIx n d o:=by cases o<;>rfl
theorem ziJ{lo hi:Option Int}(h:HT.sIx xs.length 0 lo=0/\HT.sIx xs.length xs.length hi=xs.length):cut xs lo hi=xs:=by unfold cut;rw[zfL,zfL,h.1,h.2];simp
theorem RVs.cut{K:Frag}(r:RVs K ι H ds xs)(lo hi:Option Int):RVs K ι H (R.cut ds lo hi) (cutV xs lo hi):=by have hl:=r.length;unfold R.cut cutV;rw[zfL,zfL,hl];exact(r.drop _).take _
inductive PartOk(X:Cx)(cf:CF):Bool->CE->Option Expr->Prop where
 |no {c:CE} (h:∃d,c=.con d):PartOk X cf false c none
 |yes {c:CE} {e:Expr} (h:PE X e (tE X.K cf c)):PartOk X cf true c (some e)
theorem zpi{lo hi:Option Expr}(ha:PE X a (tE X.K cf ca))(hlo:PartOk X cf ml clo lo)(hhi:PartOk X cf mh chi hi):PE X (.Subscript a (.Slice lo hi none p2) pos) (tE X.K cf (.sl ca ml mh clo chi)):=by
 have fin:∀{σ:L2.St}{δ:Ev}{ι ι1:List Addr}{H H1:Hp}{S1:R.St}{Q:D->R.St->Prop}{Qv:VK}{d:D}{v:V}{y z:Option Int},Ext ι H ι1 H1->RH X.K ι1 H1 S1->RV X.K ι1 H1 d v->(∀v H',Lf X.K ι H Q v H'->Qv v H')->
   W (match d with|.tup ds=>.ok (.tup (R.cut ds y z)) S1|.fix ds=>lay S1 (R.cut ds y z)|.ref p=>(match S1.get p with|some (.lst ds)=>lay S1 (R.cut ds y z)|_=>.bad)|_=>.bad) Q->
   (rSlL X.K v y z H1 Qv\/rSlT X.K v y z H1 Qv)\/rSlW X.K v y z H1 Qv:=by
  intro σ δ ι ι1 H H1 S1 Q Qv d v y z x hh r q w;cases d with
  |tup ds=>obtain⟨a,xs,rfl,ha,rr⟩:=r;by_cases hw:HT.sIx xs.length 0 y=0/\HT.sIx xs.length xs.length z=xs.length;refine .inr ⟨a,xs,rfl,SqT.of ha,hw,q _ _ (Lf.up x (Lf.of (d:=.tup ds) hh ⟨a,xs,rfl,ha,rr⟩ ?_))⟩;have e:R.cut ds y z=ds:=ziJ (by rw[<-rr.length];exact hw);dsimp only at w;rw[e]at w;exact w;exact .inl (.inr ⟨a,xs,rfl,SqT.of ha,hw,fun p hp=>q _ _ (Lf.up x (Lf.tup hh hp (rr.cut y z) w))⟩)| fix ds=>obtain⟨a,xs,rfl,ha,rr⟩:=r;obtain⟨_,w2⟩:=zcL w;exact .inl (.inl ⟨a,xs,rfl,ha.sq,fun p hp=>q _ _ (Lf.up x (Lf.lst hh hp (rr.cut y z) w2))⟩)| ref l=>dsimp only at w;cases e:S1.get l with|none=>rw[e]at w;exact w.elim| some o=>rw[e]at w;cases o with| lst ds=>obtain⟨a,h1,rfl⟩:=r;obtain⟨b,h2,xs,ha,rr⟩:=hh.obj _ _ e;rw[h1]at h2;cases h2;obtain⟨_,w2⟩:=zcL w;exact .inl (.inl ⟨a,xs,rfl,SqL.of ha,fun p hp=>q _ _ (Lf.up x (Lf.lst hh hp (rr.cut y z) w2))⟩)|_=>exact w.elim
  |_=>exact w.elim
 have part:∀{m:Bool}{c:CE}{o:Option Expr},PartOk X cf m c o->∃t,PO X o t/\∀{δ:Ev}{σ:L2.St}{ι:List Addr}{H:Hp}{S:R.St}{Q:D->R.St->Prop}{Qv:Option Int->Hp->Prop},RS X.K ι H δ σ->RH X.K ι H S->W (evE cf c δ S) Q->
   (∀d S',Q d S'->∃z,zbt m d=some z)->
   (∀d ι' H' S' z,Ext ι H ι' H'->RS X.K ι' H' δ σ->RH X.K ι' H' S'->Q d S'->zbt m d=some z->Qv z H')->t σ H Qv:=by
  intro m c o h;cases h with| no h=>obtain⟨d,rfl⟩:=h;refine⟨_,zlP,fun {δ σ ι H S Q Qv} hs hh w hp h=>?_⟩;exact h d ι H S none (Ext.refl _ _) hs hh w rfl| yes h=>refine⟨_,zfn h,fun {δ σ ι H S Q Qv} hs hh w hp h=>?_⟩;refine tE.run hs hh w fun d v ι1 H1 S1 x1 hs1 hh1 r1 w1=>?_;obtain⟨z,hz⟩:=hp d S1 w1;cases d with| int i=>obtain rfl:v=.int i:=r1;exact⟨i,rfl,h _ _ _ _ _ x1 hs1 hh1 w1 rfl⟩|_=>cases hz
 obtain⟨tl,pl,rl⟩:=part hlo;obtain⟨th,ph,rh⟩:=part hhi;refine PE.imp (zfV (SlR.or (SlR.or zlc zkm) zi5) ha pl ph) fun σ H Qv=>ex8 fun δ ι S Q hs hh w q=>?_;simp[evE,zaa]at w;refine tE.run hs hh w fun d v ι1 H1 S1 x1 hs1 hh1 r1 w1=>?_;have hz:∀(b:Bool)(y:D),zbt b y=none\/∃z,zbt b y=some z:=fun b y=>by cases zbt b y<;>simp
 refine rl hs1 hh1 w1 (fun y S2 w2=>?_) fun y ι2 H2 S2 zl x2 hs2 hh2 w2 hzl=>?_;rcases hz ml y with e|e;rw[W.iff]at w2;obtain⟨u,S3,_,w3⟩:=w2;rw[e]at w3;exact w3.elim;exact e;refine rh hs2 hh2 w2 (fun u S3 w3=>?_) fun u ι3 H3 S3 zh x3 hs3 hh3 w3 hzh=>?_;rcases hz mh u with e|e;rw[hzl,e]at w3;exact w3.elim;exact e;rw[hzl,hzh]at w3;exact fin (σ:=σ) (δ:=δ) ((x1.trans x2).trans x3) hh3 (r1.ext (x2.trans x3)) q w3
end
def rB(K:Frag)(f:R.St->List D->Out D):List V->Hp->VK->Prop:=fun xs H Qv=>∃ι S ds Qd,RVs K ι H ds xs/\RH K ι H S/\W (f S ds) Qd/\∀v H',Lf K ι H Qd v H'->Qv v H'
section
variable{T:Tab}{cf:CF}{k:Nat}{N:List Str}{sc:Scope}{X:Cx}{pos p:Pos}
theorem RVs.one{K:Frag}(r:RVs K ι H [d] xs):∃v,xs=[v]/\RV K ι H d v:=by obtain⟨v,w,rfl,r1,r2⟩:=r;cases r2;exact⟨v,rfl,r1⟩
theorem RVs.two{K:Frag}(r:RVs K ι H [d,e] xs):∃v u,xs=[v,u]/\RV K ι H d v/\RV K ι H e u:=by obtain⟨v,w,rfl,r1,r2⟩:=r;obtain⟨u,rfl,r3⟩:=RVs.one r2;exact⟨v,u,rfl,r1,r3⟩
theorem zoi:zbb X (.builtin "len") (rB X.K fun S ds=>R.bi S .len ds):=by
 intro pins s σ H xs us Qv I rv ⟨ι,S,ds,Qd,r,hh,w,q⟩;dsimp only at w;unfold bi at w;split at w
 case h_1 x=>
  obtain⟨v,rfl,rr⟩:=r.one;split at w;obtain⟨a,xs,rfl,ha,r2⟩:=rr;refine zbw pins s σ H _ us Qv I rv ⟨a,xs,rfl,.inr (SqT.of ha),?_⟩;rw[r2.length];exact q _ _ (Lf.of (d:=.int _) hh rfl w);obtain⟨a,xs,rfl,ha,r2⟩:=rr;refine zbw pins s σ H _ us Qv I rv ⟨a,xs,rfl,.inl ha.sq,?_⟩;rw[r2.length];exact q _ _ (Lf.of (d:=.int _) hh rfl w);rename_i l;obtain⟨a,h1,rfl⟩:=rr;cases e:S.get l with|none=>rw[e]at w;exact w.elim| some o=>rw[e]at w;obtain⟨b,h2,h3⟩:=hh.obj _ _ e;rw[h1]at h2;cases h2;cases o with| lst ds=>obtain⟨xs,ha,r2⟩:=h3;refine zbw pins s σ H _ us Qv I rv ⟨a,xs,rfl,.inl (SqL.of ha),?_⟩;rw[r2.length];exact q _ _ (Lf.of (d:=.int _) hh rfl w)| d3 kvs=>obtain⟨_,ws,ha,rk⟩:=h3;refine zpO pins s σ H _ us Qv I rv ⟨a,ws,rfl,ha,rk.triK,?_⟩;rw[rk.length];exact q _ _ (Lf.of (d:=.int _) hh rfl w)|_=>exact w.elim
  exact w.elim
 all_goals first|exact w.elim|(rename_i h;cases h)
theorem zoW:zbb X (.builtin "abs") (rB X.K fun S ds=>R.bi S .abs ds):=by
 intro pins s σ H xs us Qv I rv ⟨ι,S,ds,Qd,r,hh,w,q⟩;dsimp only at w;unfold bi at w;split at w
 case h_2 i _=>obtain⟨v,rfl,rr⟩:=r.one;obtain rfl:v=.int i:=rr;exact zkg pins s σ H _ us Qv I rv ⟨i,rfl,q _ _ (Lf.of (d:=.int _) hh rfl w)⟩
 all_goals first|exact w.elim|(rename_i h;cases h)
theorem zod(hc:X.calm=true):zbb X (.builtin "max") (rB X.K fun S ds=>R.bi S .max2 ds):=by
 intro pins s σ H xs us Qv I rv ⟨ι,S,ds,Qd,r,hh,w,q⟩;dsimp only at w;unfold bi at w;split at w
 case h_3 i j _=>obtain⟨v,u,rfl,r1,r2⟩:=r.two;obtain rfl:v=.int i:=r1;obtain rfl:u=.int j:=r2;exact ziO hc pins s σ H _ us Qv I rv ⟨i,j,rfl,q _ _ (Lf.of (d:=.int _) hh rfl w)⟩
 all_goals first|exact w.elim|(rename_i h;cases h)
theorem zoc(hc:X.calm=true):zbb X (.builtin "min") (rB X.K fun S ds=>R.bi S .min2 ds):=by
 intro pins s σ H xs us Qv I rv ⟨ι,S,ds,Qd,r,hh,w,q⟩;dsimp only at w;unfold bi at w;split at w
 case h_4 i j _=>obtain⟨v,u,rfl,r1,r2⟩:=r.two;obtain rfl:v=.int i:=r1;obtain rfl:u=.int j:=r2;exact ziN hc pins s σ H _ us Qv I rv ⟨i,j,rfl,q _ _ (Lf.of (d:=.int _) hh rfl w)⟩
 all_goals first|exact w.elim|(rename_i h;cases h)
theorem zba(G:Gd T cf k N sc X)(h:bltB T sc x=true):Gl X x/\X.mg x=none:=by unfold bltB at h;rw[and_eq_true]at h;exact⟨G.gl h.1,G.tab.blt x h.2⟩
theorem zpn{id:String}(hc:zbb X (.builtin id) (rB X.K fun S ds=>R.bi S b ds))(hg:Gl X x/\X.mg x=none)(hv:bootBuiltins x=some (.builtin id))(ha:PA X (e::es) (tAs X.K cf ces))(hst:(e::es).all zak=true)(hn:x≠"__name__")(hdb:(x==("__debug__":Str))=false) :
  PE X (.Call (.Name x p) (e::es) [] pos) (tE X.K cf (.bi b ces)):=by
 rw[all_cons,and_eq_true]at hst;refine PE.imp (zfX hc hg.1 hg.2 hv ha hn hdb (zai hst.1 es X.env) (zaH hst.2)) fun σ H Qv=>ex8 fun δ ι S Q hs hh w q=>?_;simp[evE,zaa]at w;refine tAs.run hs hh w fun ds vs ι1 H1 S1 x1 hs1 hh1 r1 w1=>?_;exact⟨ι1,S1,ds,Q,r1,hh1,w1,fun v H' l=>q v H' (Lf.up x1 l)⟩
theorem zkZ(hh:RH X.K ι H S)(r:RV X.K ι H d v)(h:tyOf S d=some a):zcq H v=some a:=by
 cases d with
 |non=>obtain rfl:v=.non:=r;exact h|bl b=>obtain rfl:v=.bl b:=r;exact h|int b=>obtain rfl:v=.int b:=r;exact h|str b=>obtain rfl:v=.str b:=r;exact h| tup ds=>obtain⟨p,xs,rfl,ha,_⟩:=r;simp only[zcq,ha];exact h| ref l=>
  obtain⟨p,h1,rfl⟩:=r;simp[tyOf]at h;simp[zcq];cases e:S.get l with
  |none=>rw[e]at h;cases h
  |some o=>rw[e]at h;obtain⟨b,h2,h3⟩:=hh.obj _ _ e;rw[h1]at h2;cases h2;cases o with|lst ds=>obtain⟨xs,ha,_⟩:=h3;rw[ha];exact h|dic kvs=>obtain⟨_,ws,ha,_⟩:=h3;rw[ha];exact h|_=>cases h
 |fix ds=>cases h
theorem zll(G:Gd T cf k N sc X)(hg:Gl X "isinstance"/\X.mg "isinstance"=none)(hy:Gl X y/\X.mg y=none)(hb:bootBuiltins y=some (.type t))(ht:t∈["bool","int","str","list","tuple","dict"])(hyn:y≠"__name__")(hyd:(y==("__debug__":Str))=false)
  (he:PE X e (tE X.K cf ce)) (hst:zak e=true):PE X (.Call (.Name "isinstance" p) [e,.Name y p2] [] pos) (tE X.K cf (.bi (.isin t) (.cons ce .nil))):=by
 refine PE.imp (zfX zfz hg.1 hg.2 zeg (zcj he (zcj (zlZ (v:=.ty t) hy.1 hy.2 hb rfl hyn hyd) zfY) (zai hst _ X.env)) (by decide) (by decide) (zai hst _ X.env)) fun σ H Qv=>ex8 fun δ ι S Q hs hh w q=>?_;simp[evE,evEs,zaa,W_ok]at w;refine tE.run hs hh w fun d v ι1 H1 S1 x1 hs1 hh1 r1 w1=>?_;simp[bi]at w1;cases e:tyOf S1 d with|none=>rw[e]at w1;exact w1.elim| some a=>rw[e]at w1;exact⟨v,t,a,rfl,zkZ hh1 r1 e,ht,q _ _ (Lf.up x1 (Lf.of (d:=.bl _) hh1 rfl w1))⟩
theorem zia(hh:RH X.K ι H S)(r:RV X.K ι H d v)(h:isL S d=true):tyV X.K "list" v H:=by
 cases d with
 |ref l=>
  obtain⟨p,h1,rfl⟩:=r;simp[isL]at h;cases e:S.get l with
  |none=>rw[e]at h;cases h
  |some o=>rw[e]at h;obtain⟨b,h2,h3⟩:=hh.obj _ _ e;rw[h1]at h2;cases h2;cases o with|lst ds=>obtain⟨xs,ha,_⟩:=h3;exact .inl ⟨rfl,xs,SqL.of ha⟩|_=>cases h
 |_=>cases h
def rM(K:Frag)(m:Mt):V->List V->Hp->VK->Prop:=fun x xs H Qv=>∃ι S d ds Qd,RV K ι H d x/\RVs K ι H ds xs/\RH K ι H S/\W (R.mt S m d ds) Qd/\∀v H',Lf K ι H Qd v H'->Qv v H'
theorem ziT:MtR X "list.append" (rM X.K .append):=by
 intro pins s σ H x xs v us Qv I rx rv ⟨ι,S,d,ds,Qd,r,rs,hh,w,q⟩;unfold R.mt at w;split at w
 case h_1 l y _=>obtain⟨a,h1,rfl⟩:=r;obtain⟨u,rfl,ru⟩:=rs.one;cases e:S.get l with|none=>rw[e]at w;exact w.elim| some o=>rw[e]at w;obtain⟨b,h2,h3⟩:=hh.obj _ _ e;rw[h1]at h2;cases h2;cases o with| lst ds=>obtain⟨zs,ha,r2⟩:=h3;obtain⟨c,S',hp,w2⟩:=zkS w;refine zeG pins s σ H _ _ v us Qv I rx rv ⟨a,zs,u,rfl,rfl,ha,?_,?_⟩;rw[r2.length];rw[length_append,List.length_singleton]at c;omega;exact q _ _ (Lf.wr (d:=.non) hh e h1 hp (r2.append ⟨u,[],rfl,ru,rfl⟩) rfl w2)|_=>exact w.elim
 all_goals first|exact w.elim|(rename_i h;cases h)
theorem zpk{id:String}(slot:Slot "list" name id)(hty:typeOf (.builtin id)=pure (.type "method_descriptor"))(hm:MtR X id (rM X.K m))(ho:PE X o (tE X.K cf co))(he:PE X e (tE X.K cf ce))(hst:zak e=true)(hsup:zaP o=true)(hl:(apos.endLine==cpos.line)=true) :
  PE X (.Call (.Attribute o name apos) [e] [] cpos) (tE X.K cf (.mt m co (.cons ce .nil))):=by
 refine PE.imp (zlY PySem.F.plainAttrs_list slot hty hm ho (zhk he zks hst) (zbY hsup name X.env _) (by rw[zai hst];rfl) hl (zai hst [] X.env)) fun σ H Qv=>ex8 fun δ ι S Q hs hh w q=>?_;simp[evE,zaa]at w;refine tE.run hs hh w fun d v ι1 H1 S1 x1 hs1 hh1 r1 w1=>?_;split at w1;rename_i c;refine⟨zia hh1 r1 c,?_⟩;rw[zaa]at w1;refine tAs.run hs1 hh1 w1 fun ds vs ι2 H2 S2 x2 hs2 hh2 r2 w2=>?_;exact⟨ι2,S2,d,ds,Q,r1.ext x2,r2,hh2,w2,fun z H3 l=>q z H3 (Lf.up (x1.trans x2) l)⟩;exact w1.elim
theorem SqK.seq{K:Frag}(h:SqK K ι H S a xs ds lks):SqL K H a xs\/SqT K H a xs:=by cases h with|tmp h e=>exact .inl (SqL.of e)|tup e=>exact .inr (SqT.of e)|fix e=>exact .inl e.sq|own l hl hi hs e=>exact .inl (SqL.of e)
theorem znc(he:PE X e (tE X.K cf ce)):PE X e (tL X.K cf (.val ce)):=by
 refine PE.imp he fun σ H Qv=>ex8 fun δ ι S Q hs hh w q=>?_;simp[evL,zaa]at w;refine tE.run hs hh w fun d v ι1 H1 S1 x1 hs1 hh1 r1 w1=>?_;obtain⟨ds,eq,w2⟩:=zay w1;refine q v H1 ⟨ds,lkOf S1 d,ι1,S1,x1,?_,hh1,w2⟩;cases d with
 |tup es=>cases eq;obtain⟨a,xs,rfl,ha,rr⟩:=r1;exact⟨a,xs,rfl,rr,.tup ha⟩| fix es=>cases eq;obtain⟨a,xs,rfl,ha,rr⟩:=r1;exact⟨a,xs,rfl,rr,.fix ha⟩| ref l=>simp[zbI]at eq;split at eq;rename_i ds' e;cases eq;obtain⟨a,h1,rfl⟩:=r1;obtain⟨a2,h2,xs,ha,rr⟩:=hh1.obj _ _ e;rw[h1]at h2;cases h2;exact⟨a,xs,rfl,rr,.own l (by simp[lkOf]) h1 e ha⟩;cases eq
 |_=>cases eq
theorem zaW(he:PE X e te)(hst:zak e=true):PA X [e] (zhh te tNil):=zcj he zfY (zai hst [] X.env)
theorem zng(G:Gd T cf k N sc X)(hg:Gl X "tuple"/\X.mg "tuple"=none)(he:PE X e (tL X.K cf cl))(hst:zak e=true):PE X (.Call (.Name "tuple" p) [e] [] pos) (tE X.K cf (.mkT cl)):=by
 refine PE.imp (za8 zed hg.1 hg.2 zef (zaW he hst) (by decide) (by decide) (zai hst [] X.env)) fun σ H Qv=>ex8 fun δ ι S Q hs hh w q=>?_;simp[evE,zaa]at w;refine tL.run hs hh w fun ds lks v ι1 H1 S1 x1 hs1 hh1 sq w1=>?_;split at w1;rename_i c;obtain⟨a,xs,rfl,rr,kd⟩:=sq;have fresh:SqL X.K H1 a xs->∃p ys,[V.ref a]=[V.ref p]/\((SqL X.K H1 p ys/\∀l,H1 l=none->Qv (.ref l) (upd H1 l (.tup ys)))\/(SqT X.K H1 p ys/\Qv (.ref p) H1)):=fun h=>⟨a,xs,rfl,.inl ⟨h,fun l hl=>q _ _ (Lf.up x1 (Lf.tup hh1 hl rr w1))⟩⟩;cases kd with|tmp h e=>exact fresh (SqL.of e)|fix e=>exact fresh e.sq|own l hl hi hs e=>exact fresh (SqL.of e)|tup e=>exact⟨a,xs,rfl,.inr ⟨SqT.of e,q _ _ (Lf.up x1 (Lf.of (d:=.tup ds) hh1 ⟨a,xs,rfl,e,rr⟩ w1))⟩⟩
 exact w1.elim
theorem zkq(G:Gd T cf k N sc X)(hg:Gl X "list"/\X.mg "list"=none)(he:PE X e (tL X.K cf cl))(hst:zak e=true):PE X (.Call (.Name "list" p) [e] [] pos) (tE X.K cf (.mkL cl)):=by refine PE.imp (za8 ze2 hg.1 hg.2 zfB (zaW he hst) (by decide) (by decide) (zai hst [] X.env)) fun σ H Qv=>ex8 fun δ ι S Q hs hh w q=>?_;simp[evE,zaa]at w;refine tL.run hs hh w fun ds lks v ι1 H1 S1 x1 hs1 hh1 sq w1=>?_;obtain⟨c,w2⟩:=zcL w1;obtain⟨a,xs,rfl,rr,kd⟩:=sq;exact⟨a,xs,rfl,kd.seq,fun l hl=>q _ _ (Lf.up x1 (Lf.lst hh1 hl rr w2))⟩
theorem zhO(h:tE X.K cf (.mkL cl) σ H Qv):tLt X.K cf cl σ H Qv:=by obtain⟨δ,ι,S,Q,hs,hh,w,q⟩:=h;simp[evE,zaa]at w;refine tLt.run hs hh w fun ds p xs ι1 H1 S1 x1 hs1 hh1 r1 hp e hn w1=>?_;obtain⟨c,w2⟩:=zcL w1;refine q _ _ ⟨.ref S1.len,ι1++[p],S1.push (.lst ds),?_,⟨p,hh1.last p,rfl⟩,hh1.one (l:=0) hp ⟨xs,e,r1.up (prefix_append _ _) (Kp.refl _)⟩,w2⟩;refine⟨x1.pre.trans (prefix_append _ _),x1.kp,fun b o hb eb=>⟨(x1.rest b o hb eb).1,fun z=>?_⟩⟩;rcases mem_append.mp z with z|z;exact(x1.rest b o hb eb).2 z;simp at z;subst z;rw[hn]at eb;cases eb
theorem zgp:bootBuiltins "range"=some (.type "range"):=by decide +kernel
theorem zew:zbb X (.type "range") (fun xs H Q=>∃j,xs=[.int j]/\∀p,H p=none->Q (.ref p) (upd H p (.rng 0 j))):=by intro pins s σ H xs us Q I r h;obtain⟨j,rfl,q⟩:=h;obtain⟨u,rfl,ru⟩:=r.one;obtain⟨t,rfl⟩:=ru;refine call_range_1 ⟨.ref s.heap.objs.size,_,I.laid (fun b ob e=>Heap.get?_push_of_some _ e) (le_refl _) ?_,rfl,q _ (I.hok.fresh (le_refl _))⟩;exact⟨_,_,_,Heap.get?_push_size _ rfl⟩
theorem zjO(hc:X.calm=true):zbb X (.type "list") (fun xs H Q=>∃p hi,xs=[.ref p]/\H p=some (.rng 0 hi)/\-(2^62)<=hi/\hi<2^62/\hi.toNat<=16777216/\∀l,H l=none->Q (.ref l) (upd H l (.lst ((List.range hi.toNat).map fun(j:Nat)=>.int j)))):=by
 intro pins s σ H xs us Q I r h;obtain⟨p,hi,rfl,hp,h1,h2,h3,q⟩:=h;obtain⟨u,rfl,ru⟩:=r.one;cases ru;obtain⟨t,t2,t3,e⟩:=(I.hok p _ hp);have hn:Builtin.Range.rangeSize 0 hi 1=(hi.toNat:Nat):=by rw[rangeSize_one];split<;>omega
 refine call_list_range (I.ok.hd hc) e (small_one (by decide) (by decide) h1 h2) hn h3 fun h' tk acc c kp hg it=>?_;refine⟨.ref s.heap.objs.size,_,I.laid (o:=.lst _) kp (le_refl _) ⟨?_,acc.toList,c,?_,?_⟩,rfl,q _ (I.hok.fresh (le_refl _))⟩;rw[length_map,List.length_range,sizeLine_eq];exact h3;have key:∀(n:Nat)(us:List Value),us.length=n->(∀(j:Nat)(v:Value),us[j]?=some v->∃t,v=Value.int (0+(j:Int)*1) t)->Vals ((List.range n).map fun(j:Nat)=>V.int j) us:=by
  intro n;induction n with
  |zero=>intro us hl _;cases us with
   |nil=>exact .nil|cons _ _=>simp at hl
  |succ n ih=>
   intro us hl hv;have hne:us≠[]:=by intro z;subst z;simp at hl
   have hd:us=us.dropLast++[us.getLast hne]:=(List.dropLast_concat_getLast hne).symm;rw[List.range_succ,map_append,hd];have hdl:us.dropLast.length=n:=by simp[hl]
   refine Vals.append (ih _ hdl fun j v e=>hv j v ?_) (.cons ?_ .nil);have hj:j<us.dropLast.length:=(List.getElem?_eq_some_iff.mp e).1;rw[hd,getElem?_append_left hj];exact e;obtain⟨t,e⟩:=hv n (us.getLast hne) (by
    conv=>lhs;rw[hd]
    simp[hdl])
   exact⟨t,by simpa using e⟩
 exact key _ _ (by simpa using it.1) fun j v e=>it.2 j v (by simpa using e);simpa using hg
theorem zlj(G:Gd T cf k N sc X)(hg:Gl X "list"/\X.mg "list"=none)(hr:Gl X "range"/\X.mg "range"=none)(ha:PE X a (tE X.K cf ca))(hst:zak a=true) :
  PE X (.Call (.Name "list" p) [.Call (.Name "range" p2) [a] [] pos'] [] pos) (tE X.K cf (.mkL (.rng1 ca))):=by
 have hin:=za8 (p:=p2) (pos:=pos') zew hr.1 hr.2 zgp (zaW ha hst) (by decide) (by decide) (zai hst [] X.env);refine PE.imp (za8 (zjO G.calm) hg.1 hg.2 zfB (zaW hin rfl) (by decide) (by decide) rfl) fun σ H Qv=>ex8 fun δ ι S Q hs hh w q=>?_;simp[evE,evL,zaa]at w;refine tE.run hs hh w fun d v ι1 H1 S1 x1 hs1 hh1 r1 w1=>?_;cases d with| int j=>obtain rfl:v=.int j:=r1;dsimp only at w1;split at w1;rename_i c;obtain⟨c2,w2⟩:=zcL w1;refine⟨j,rfl,fun pr hpr=>⟨pr,j,rfl,zag,c.1,c.2,by simpa[sizeLine_eq]using c2,fun l hl=>?_⟩⟩;have hh2:=hh1.new hpr (.rng 0 j);refine q _ _ (Lf.up (x1.trans (Ext.new hpr _)) (Lf.lst hh2 hl ?_ w2));have:=RVs.ints (K:=X.K) (ι:=ι1) (H:=upd H1 pr (.rng 0 j)) ((List.range j.toNat).map fun(m:Nat)=>(m:Int));rw[map_map,map_map]at this;exact this;exact w1.elim|_=>exact w1.elim
end
end R
namespace R
open PySem PySem.Spec PyProof.Rows L2
section
variable[Mks]{X:Cx}
variable{T:Tab}{cf:CF}{k:Nat}{N:List Str}{sc:Scope}{pos p:Pos}
theorem zoQ:bootBuiltins "min"=some (.builtin "min"):=by rfl
end
section
variable{prog:Program}{w:World}{A:Around}{E:Value->Shared->Prop}{s:Shared}{a:Addr}{kvs:List (Key×Value)}{ep:Nat}
theorem zj9{P:List Value->Prop}(hr:a<s.heap.objs.size)
  (key:∀(R:Result->Shared->Prop)(s1:Shared),s1={s with heap:=s.heap.push {cls:=.type "list",data:=.seq #[]}}->
   (∀h' tk acc c,(∀b o,b≠s.heap.objs.size->s1.heap.get? b=some o->h'.get? b=some o)->h'.get? s.heap.objs.size=some {cls:=.type "list",dict:=none,data:=.seq acc c,slots:=#[]}->P acc.toList->R (.ok (.ret (.ref s.heap.objs.size))) {s1 with heap:=h',toks:=tk})->
   wpAny (model prog w) A.in1 (Builtin.List.listExtendWith (.ref s.heap.objs.size) (.ref a) (.ref s.heap.objs.size))
    (fun fin s'=>match fin with|.done f=>R (.ok f) s'|.again c'=>c'.quiet=true/\codeAny (model prog w) A c' R s') (fun e s'=>R (.error e) s') s1)
  (h:∀(h':Heap)(tk:Nat)(vals:List Value),(∀b o,s.heap.get? b=some o->h'.get? b=some o)->s.heap.objs.size<h'.objs.size->P vals->Rr vals {s with heap:=h',toks:=tk}) :
  wpAny (model prog w) A (collect (.ref a)) Rr E s:=by
 refine wpAny_bind (wpAny_runValue (codeAny_builtin PySem.F.entry_proto_collect ?_));refine wpAny_bind (wpAny_newObj_type ?_);refine wpAny_pure ⟨plainId_quiet PySem.F.plain_list_iadd _,codeAny_builtin PySem.F.entry_list_iadd ?_⟩;have key:=key (fun(q:Result) (s':Shared)=>∃(h':Heap) (tk:Nat) (acc':Array Value) (c':Nat),q=.ok (.ret (.ref s.heap.objs.size))/\s'={s with heap:=h',toks:=tk}/\
   (∀b o,s.heap.get? b=some o->h'.get? b=some o)/\h'.get? s.heap.objs.size=some {cls:=.type "list",dict:=none,data:=.seq acc' c',slots:=#[]}/\P acc'.toList) _ rfl
  (fun h' tk acc' c' hk hS' hacc=>⟨h',tk,acc',c',rfl,rfl,fun b o e=>hk b o (ne_of_lt (Heap.lt_size e)) (Heap.get?_push_of_some _ e),hS',hacc⟩)
 refine wpAny_mono key (fun fin s' x=>?_) fun e s' x=>?_;cases fin with| done f=>obtain⟨h',tk,acc',c',e,rfl,hk,hS',hacc⟩:=x;cases e;exact wpAny_bind (wpAny_load hS' (wpAny_pure (h h' tk _ hk (Heap.lt_size hS') hacc)))| again c₁=>refine⟨x.1,codeAny_mono x.2 fun q s₂ y=>?_⟩;obtain⟨h',tk,acc',c',rfl,rfl,hk,hS',hacc⟩:=y;exact wpAny_bind (wpAny_load hS' (wpAny_pure (h h' tk _ hk (Heap.lt_size hS') hacc)))
 obtain⟨_,_,_,_,e',_⟩:=x;cases e'
end
theorem zjl(it:us.length=n/\∀(j:Nat)(v:Value),us[j]?=some v->∃t,v=Value.int (0+(j:Int)*1) t):Vals ((List.range n).map fun(j:Nat)=>V.int j) us:=by
 obtain⟨hl,hv⟩:=it;induction n generalizing us with
 |zero=>cases us with
  |nil=>exact .nil|cons _ _=>simp at hl
 |succ n ih=>
  have hne:us≠[]:=by intro z;subst z;simp at hl
  have hd:us=us.dropLast++[us.getLast hne]:=(List.dropLast_concat_getLast hne).symm;rw[List.range_succ,map_append,hd];have hdl:us.dropLast.length=n:=by simp[hl]
  refine Vals.append (ih hdl fun j v e=>hv j v ?_) (.cons ?_ .nil);have hj:j<us.dropLast.length:=(List.getElem?_eq_some_iff.mp e).1;rw[hd,getElem?_append_left hj];exact e;obtain⟨t,e⟩:=hv n (us.getLast hne) (by
   conv=>lhs;rw[hd]
   simp[hdl])
  exact⟨t,by simpa using e⟩
section
variable{prog:Program}{w:World}{A:Around}{E:Value->Shared->Prop}{s:Shared}
theorem zc9{Q₁:Value->Shared->Prop}{r:Addr}{a b c:Int}{t u v:Tok}{n:Nat}(hh:A.handled=none)(hr:IsRange s.heap r a b c t u v)(hsmall:Builtin.Range.small a b c=true)(hn:Builtin.Range.rangeSize a b c=n)(hlen:n<=16777216)
  (h:∀(h':Heap)(tk:Nat)(vals:List Value),(∀b o,s.heap.get? b=some o->h'.get? b=some o)->(vals.length=n/\∀(i:Nat)(x:Value),vals[i]?=some x->∃t,x=.int (a+i*c) t)->Q₁ (.ref h'.objs.size) {s with heap:=h'.push {cls:=.type "tuple",data:=.seq vals.toArray},toks:=tk}) :
  codeAny (model prog w) A (.call (.builtin "tuple.__new__") ⟨[.type "tuple",.ref r],[]⟩) (wants Q₁ E) s:=by
 refine codeAny_of_tree ?_;show wpAny _ A.in1 (do checkBuiltinCall "tuple.__new__" ⟨[.type "tuple",.ref r],[]⟩;again (.builtin "tuple.__new__" ⟨[.type "tuple",.ref r],[]⟩)) _ _ s;refine wpAny_bind (wpAny_of_eq (F.newCall_tuple_1 _) (wpAny_pure ⟨plainId_quiet F.plain_tuple_new _,codeAny_builtin F.entry_tuple_new ?_⟩));rw[Around.under_plainId F.plain_tuple_new _];have hsub:=sub_tuple_self;have hinit:=init_tuple_lookup;have hmh:=madeHere_tuple;have hTI:s.TypeIs (.ref r) "range":=⟨_,hr,rfl⟩;have col:∀{A':Around}{Rr:List Value->Shared->Prop}{E':Value->Shared->Prop},A'.handled=none->(∀(h':Heap)(tk:Nat)(vals:List Value),(∀b o,s.heap.get? b=some o->h'.get? b=some o)->s.heap.objs.size<h'.objs.size->(vals.length=n/\∀(i:Nat)(x:Value),vals[i]?=some x->∃t,x=.int (a+i*c) t)->Rr vals {s with heap:=h',toks:=tk})->wpAny (model prog w) A' (collect (.ref r)) Rr E' s:=by intro A' Rr E' hA' hR;refine zj9 (Heap.lt_size hr) (fun R s1 e1 hR'=>?_) hR;subst e1;exact wpAny_extend_range hA' (Heap.get?_push_of_some _ hr) hsmall hn hlen _ _ 0 (Heap.get?_push_size _ rfl) fun h' tk acc c' hk hS' hacc=>hR' h' tk acc c' hk hS' ⟨by rw[length_toList];exact hacc.1,fun i x e=>hacc.2 i x (by simpa using e)⟩
 wp_walk using wpAny_typeOf hTI,col (A':=A.in1) hh
 intro h' tk vals kp hlt hv;show wpAny _ _ (Builtin.Tuple.tupleExact vals.toArray>>=fun v=>ret v) _ _ _;unfold Builtin.Tuple.tupleExact;refine wpAny_bind (wpAny_newObj_type ?_ (by show vals.toArray.size<=sizeLine;rw[size_toArray,hv.1,sizeLine_eq];exact hlen));refine wpAny_pure ?_;exact h h' tk vals kp hv
end
section
variable[Mks]{X:Cx}
variable{T:Tab}{cf:CF}{k:Nat}{N:List Str}{sc:Scope}{pos p p2 pos':Pos}
theorem zhf(hc:X.calm=true):zbb X (.type "tuple") (fun xs H Q=>∃p hi,xs=[.ref p]/\H p=some (.rng 0 hi)/\-(2^62)<=hi/\hi<2^62/\hi.toNat<=16777216/\∀l,H l=none->Q (.ref l) (upd H l (.tup ((List.range hi.toNat).map fun(j:Nat)=>.int j)))):=by
 intro pins s σ H xs us Q I r h;obtain⟨p,hi,rfl,hp,h1,h2,h3,q⟩:=h;obtain⟨u,rfl,ru⟩:=r.one;cases ru;obtain⟨t,t2,t3,e⟩:=(I.hok p _ hp);have hA:X.A.handled=none:=I.ok.hd hc;have hn:Builtin.Range.rangeSize 0 hi 1=(hi.toNat:Nat):=by rw[rangeSize_one];split<;>omega
 refine callType_codes (Q₁:=fun obj s₁=>s₁.TypeIs obj "tuple"/\∃v H',Inv X pins σ H' s₁/\RelV v obj/\Q v H') F.called_tuple (F.typeCall_tuple_1 _) F.entry_object_init ?_ fun obj s₁ h₁=>?_;refine zc9 hA e (small_one (by decide) (by decide) h1 h2) hn h3 fun h' tk acc kp it=>⟨⟨_,Heap.get?_push_size _ rfl,rfl⟩,?_⟩;have I1:Inv X pins σ H {s with heap:=h',toks:=tk}:=I.kept kp;refine⟨.ref h'.objs.size,_,I1.laid (o:=.tup ((List.range hi.toNat).map fun(j:Nat)=>.int j)) (t':=tk) (fun b o e=>Heap.get?_push_of_some _ e) (le_refl _) ⟨?_,acc,zjl it,IsTup.new _ _⟩,rfl,q _ (I1.hok.fresh (le_refl _))⟩;rw[length_map,List.length_range,sizeLine_eq];exact h3;exact⟨h₁.1,F.args_object_init_2 obj _,object_init_meets F.called_tuple.init.lookup F.called_tuple.made (by decide) X.prog X.w X.A.in1 _ s₁ ⟨h₁.1,rfl,h₁.2⟩⟩
theorem zi8(G:Gd T cf k N sc X)(hg:Gl X "tuple"/\X.mg "tuple"=none)(hr:Gl X "range"/\X.mg "range"=none)(ha:PE X a (tE X.K cf ca))(hst:zak a=true) :
  PE X (.Call (.Name "tuple" p) [.Call (.Name "range" p2) [a] [] pos'] [] pos) (tE X.K cf (.mkT (.rng1 ca))):=by
 have hin:=za8 (p:=p2) (pos:=pos') zew hr.1 hr.2 zgp (zaW ha hst) (by decide) (by decide) (zai hst [] X.env);refine PE.imp (za8 (zhf G.calm) hg.1 hg.2 zef (zaW hin rfl) (by decide) (by decide) rfl) fun σ H Qv=>ex8 fun δ ι S Q hs hh w q=>?_;simp[evE,evL,zaa]at w;refine tE.run hs hh w fun d v ι1 H1 S1 x1 hs1 hh1 r1 w1=>?_;cases d with| int j=>obtain rfl:v=.int j:=r1;dsimp only at w1;split at w1;rename_i c;rw[W_ok]at w1;split at w1;rename_i c2;refine⟨j,rfl,fun pr hpr=>⟨pr,j,rfl,zag,c.1,c.2,by simpa using c2,fun l hl=>?_⟩⟩;have hh2:=hh1.new hpr (.rng 0 j);refine q _ _ (Lf.up (x1.trans (Ext.new hpr _)) (Lf.tup hh2 hl ?_ w1));have:=RVs.ints (K:=X.K) (ι:=ι1) (H:=upd H1 pr (.rng 0 j)) ((List.range j.toNat).map fun(m:Nat)=>(m:Int));rw[map_map,map_map]at this;exact this;exact w1.elim;exact w1.elim|_=>exact w1.elim
end
section
variable[Mks]{X:Cx}{T:Tab}{cf:CF}{k:Nat}{N:List Str}{sc:Scope}{pos p:Pos}
theorem zjc:PE X (.Dict [] [] pos) (tE X.K cf .dnew3):=by refine PE.imp (zfW dk3) fun σ H Qv=>ex8 fun δ ι S Q hs hh w q=>?_;simp only[evE]at w;intro p hp;exact q _ _ ⟨.ref S.len,ι++[p],S.push (.d3 []),Ext.obj hh hp _,⟨p,hh.last p,rfl⟩,hh.obj' hp _ _ ⟨List.nodup_nil,[],zag,rfl⟩,w⟩
theorem zjb:PE X (.Dict [] [] pos) (tE X.K cf .dnew4):=by refine PE.imp (zfW dk4) fun σ H Qv=>ex8 fun δ ι S Q hs hh w q=>?_;simp only[evE]at w;intro p hp;exact q _ _ ⟨.ref S.len,ι++[p],S.push (.d4 []),Ext.obj hh hp _,⟨p,hh.last p,rfl⟩,hh.obj' hp _ _ ⟨List.nodup_nil,[],zag,rfl⟩,w⟩
noncomputable def tDG3(td ty:TE):TE:=fun σ H Q=>td σ H fun x H1=>ty σ H1 fun y H2=>∃(a:Addr) (kxs:List (K3×Addr×V)) (k:K3) (c:Addr) (v:V),x=.ref a/\H2 a=some (.ext (TriO dk3 a kxs))/\TriK dk3 H2 kxs/\y=.ref c/\Key3 H2 k c/\val3 kxs k=some v/\Q v H2
theorem zjG{o i:Expr}{td ty:TE}(hu:X.A.units+7<cLine)(ho:PE X o td)(hi:PE X i ty)(hs:zei i):PE X (.Subscript o i pos) (tDG3 td ty):=by intro pins s σ H Q I h;refine Subscript_ (thn (ho pins s σ H _ I h) fun u s1 ⟨x,H1,I1,rx,q1⟩=>thn (hi pins s1 σ H1 _ I1 q1) fun iv s2 ⟨y,H2,I2,ry,a,kxs,k,c,v,ex,e,tk,ey,ek,hv,q2⟩=>?_);subst ex ey;obtain rfl:u=Value.ref a:=rx;obtain rfl:iv=Value.ref c:=ry;obtain⟨_,_,xs,_,dd⟩:=zdd I2.hok e tk;exact tail_any dd.typeIs PySem.F.slot_dict_getitem.lookup (zgY (Q:=fun r s'=>EP X pins σ Q r s') hu I2 e tk ek hv fun w' s3 I3 rw'=>⟨v,H2,I3,rw',q2⟩) (hs _ _)
theorem zlp(G:Gd T cf k N sc X){ca cb:CE}{a b:Expr}(ha:PE X a (tE X.K cf ca))(hb:PE X b (tE X.K cf cb))(hs:zei b):PE X (.Subscript a b pos) (tE X.K cf (.dix3 ca cb)):=by
 refine PE.imp (zjG (by have:=G.hu;omega) ha hb hs) fun σ H Qv=>ex8 fun δ ι S Q hs hh w q=>?_;simp only[evE,zaa]at w;refine tE.run hs hh w fun d v ι1 H1 S1 x1 hs1 hh1 r1 w1=>tE.run hs1 hh1 w1 fun y vy ι2 H2 S2 x2 hs2 hh2 r2 w2=>?_;obtain⟨u,eu,w3⟩:=zay w2;unfold zgZ at eu;cases d with
 |ref l=>
  obtain⟨a',h1,rfl⟩:=r1.ext x2;dsimp only at eu;cases e:S2.get l with
  |none=>rw[e]at eu;cases eu
  |some ob=>
   rw[e]at eu;obtain⟨b',h2,h3⟩:=hh2.obj _ _ e;rw[h1]at h2;cases h2;cases ob with
   |d3 kvs=>
    obtain⟨nd,ws,ha',rk⟩:=h3;dsimp only at eu;cases ek:key3 y with
    |none=>rw[ek]at eu;cases eu
    |some kk=>rw[ek,bind_some]at eu;obtain⟨c,rfl,hc⟩:=zcl r2 ek;obtain⟨v',hv,rv⟩:=rk.val eu;exact⟨a',ws,kk,c,v',rfl,ha',rk.triK,rfl,hc,hv,q _ _ (Lf.up (x1.trans x2) (Lf.of hh2 rv w3))⟩
   |_=>cases eu
 |_=>cases eu
theorem znm{ca:CE}{cl:CL}{o e:Expr}{apos cpos:Pos}(ho:PE X o (tE X.K cf ca))(he:PE X e (tLt X.K cf cl))(hst:zak e=true)(hsup:zaP o=true)(hl:(apos.endLine==cpos.line)=true) :
  PE X (.Call (.Attribute o "extend" apos) [e] [] cpos) (tE X.K cf (.ext ca cl)):=by
 refine PE.imp (zlY PySem.F.plainAttrs_list PySem.F.slot_list_extend PySem.F.type_list_extend zeF ho (zaW he hst) (zbY hsup "extend" X.env _) (by rw[zai hst];rfl) hl (zai hst [] X.env)) fun σ H Qv=>ex8 fun δ ι S Q hs hh w q=>?_;simp only[evE,zaa]at w;refine tE.run hs hh w fun d v ι1 H1 S1 x1 hs1 hh1 r1 w1=>?_;split at w1;rename_i c;refine⟨zia hh1 r1 c,?_⟩;rw[zaa]at w1;refine tLt.run hs1 hh1 w1 fun ds b xs ι2 H2 S2 x2 hs2 hh2 rr _ hb _ w2=>?_;cases d with
 |ref l=>obtain⟨a,h1,rfl⟩:=r1.ext x2;dsimp only at w2;cases e:S2.get l with|none=>rw[e]at w2;exact w2.elim| some o=>rw[e]at w2;cases o with| lst es=>obtain⟨b',h2,zs,ha,rz⟩:=hh2.obj _ _ e;rw[h1]at h2;cases h2;obtain⟨c2,S',hp,w3⟩:=zkS w2;refine⟨a,b,zs,xs,rfl,rfl,ha,hb,?_,q _ _ (Lf.up (x1.trans x2) (Lf.wr (d:=.non) hh2 e h1 hp (rz.append rr) rfl w3))⟩;rw[rz.length,rr.length,<-length_append];exact c2|_=>exact w2.elim
 |_=>exact w2.elim
 exact w1.elim
end
end R
namespace R
open PySem PySem.Spec PyProof.Rows L2
variable[Mks]
section
variable{T:Tab}{cf:CF}{k:Nat}{N:List Str}{sc:Scope}{X:Cx}{pos p p2 pos':Pos}
theorem zln(ho:PE X o (tE X.K cf ca))(he:PE X e (tE X.K cf cb))(hst:zak e=true)(hsup:zaP o=true)(hl:(apos.endLine==cpos.line)=true) :
  PE X (.Call (.Attribute o "extend" apos) [e] [] cpos) (tE X.K cf (.extv ca cb)):=by
 refine PE.imp (zlY PySem.F.plainAttrs_list PySem.F.slot_list_extend PySem.F.type_list_extend zeF ho (zaW he hst) (zbY hsup "extend" X.env _) (by rw[zai hst];rfl) hl (zai hst [] X.env)) fun σ H Qv=>ex8 fun δ ι S Q hs hh w q=>?_;simp[evE,zaa]at w;refine tE.run hs hh w fun d v ι1 H1 S1 x1 hs1 hh1 r1 w1=>?_;split at w1;rename_i c;refine⟨zia hh1 r1 c,?_⟩;rw[zaa]at w1;refine tE.run hs1 hh1 w1 fun y vy ι2 H2 S2 x2 hs2 hh2 r2 w2=>?_;rw[zaa]at w2;obtain⟨o,eo,w3⟩:=zay w2;unfold lsts at eo;cases d with
 |ref l=>
  cases y with
  |ref m=>
   obtain⟨a,h1,rfl⟩:=r1.ext x2;obtain⟨b,h2,rfl⟩:=r2;dsimp only at eo;cases e1:S2.get l with
   |none=>rw[e1]at eo;cases eo
   |some ob=>
    cases e2:S2.get m with
    |none=>rw[e1,e2]at eo;cases ob<;>cases eo| some ob2=>
     rw[e1,e2]at eo;cases ob with
     |lst xs=>cases ob2 with| lst ys=>cases eo;obtain⟨a',g1,zs,ha,rz⟩:=hh2.obj _ _ e1;rw[h1]at g1;cases g1;obtain⟨b',g2,us,hb,ru⟩:=hh2.obj _ _ e2;rw[h2]at g2;cases g2;obtain⟨c2,S',hp,w4⟩:=zkS w3;refine⟨a,b,zs,us,rfl,rfl,ha,hb,?_,q _ _ (Lf.up (x1.trans x2) (Lf.wr (d:=.non) hh2 e1 h1 hp (rz.append ru) rfl w4))⟩;rw[rz.length,ru.length,<-length_append];exact c2|_=>cases eo
     |_=>cases eo
  |_=>cases eo
 |_=>cases eo
 exact w1.elim
end
structure Ltr(K:Frag)(ι:List Addr)(H:Hp)(S:R.St)(lks:List Nat)(ι2:List Addr)(H2:Hp)(S2:R.St):Prop where
 ext:Ext ι H ι2 H2
 rh:RH K ι2 H2 S2
 lck:∀l∈lks,S2.get l=S.get l
structure Wk(K:Frag)(J:It)(ds:List D)(lks:List Nat)(ι:List Addr)(H:Hp)(S:R.St):Prop where
 go:∀(i:Nat)(ι2:List Addr)(H2:Hp)(S2:R.St),Ltr K ι H S lks ι2 H2 S2->i<ds.length->J.go i H2
 yld:∀(i:Nat)(ι2:List Addr)(H2:Hp)(S2:R.St)(x:V)(H':Hp),Ltr K ι H S lks ι2 H2 S2->i<ds.length->J.yld i H2 x H'->Ext ι2 H2 ι2 H'/\RH K ι2 H' S2/\∃d,ds[i]?=some d/\RV K ι2 H' d x
 stop:∀(i:Nat)(ι2:List Addr)(H2:Hp)(S2:R.St),Ltr K ι H S lks ι2 H2 S2->ds.length<=i->J.stop i H2
 lks:∀l∈lks,l<S.len
def LfI(K:Frag)(ι:List Addr)(H:Hp)(Q:List D×List Nat->R.St->Prop)(J:It)(H':Hp):Prop:=∃ds lks ι' S',Ext ι H ι' H'/\RH K ι' H' S'/\Q (ds,lks) S'/\Wk K J ds lks ι' H' S'
def tI(K:Frag)(cf:CF)(cl:CL):TI:=fun σ H R=>∃δ ι S Q,RS K ι H δ σ/\RH K ι H S/\W (evL cf cl δ S) Q/\∀J H',LfI K ι H Q J H'->R J H'
theorem PI.imp(h:PI X tg e t)(i:∀σ H Q,t' σ H Q->t σ H Q):PI X tg e t':=fun pins s σ H Q I q=>h pins s σ H Q I (i σ H Q q)
def iSeq(K:Frag)(tl:TE):TI:=fun σ H R=>tl σ H fun x H1=>∃a,x=.ref a/\(((∃xs,SqL K H1 a xs)/\R (Itl K a) H1)\/((∃xs,SqT K H1 a xs)/\R (Itt K a) H1))
section
variable{T:Tab}{cf:CF}{k:Nat}{N:List Str}{sc:Scope}{X:Cx}{pos p:Pos}{tg:Expr}
theorem znM(hl:PE X l tl):PI X tg l (iSeq X.K tl):=by
 intro pins s σ H R I h;refine thn (hl pins s σ H _ I h) fun v s1=>ex5 fun x H1 I1 r1 q1=>?_;obtain⟨a,rfl,q1⟩:=q1;cases r1;rcases q1 with⟨⟨xs,hq⟩,q⟩|⟨⟨xs,hq⟩,q⟩;obtain⟨its,rv,pl,hz⟩:=I1.list hq;apply wpAny_pyIter_list pl.isList;refine⟨s1.heap.objs.size,[s1.heap.objs.size],_,_,H1,rfl,I1.kept (t':=s1.toks) fun b o e=>Heap.get?_push_of_some _ e,zhd a _,⟨_,Heap.get?_push_size _ rfl,rfl,rfl⟩,fun b hb=>?_,q⟩;have e:b=s1.heap.objs.size:=by simpa using hb
 subst e;exact I1.fpOk (le_refl _) (I1.hok.fresh (le_refl _));obtain⟨its,rv,pl,hz⟩:=I1.tuple hq;apply wpAny_pyIter_tuple pl;refine⟨s1.heap.objs.size,[s1.heap.objs.size],_,_,H1,rfl,I1.kept (t':=s1.toks) fun b o e=>Heap.get?_push_of_some _ e,zgy a _,⟨_,Heap.get?_push_size _ rfl,rfl,rfl⟩,fun b hb=>?_,q⟩;have e:b=s1.heap.objs.size:=by simpa using hb
 subst e;exact I1.fpOk (le_refl _) (I1.hok.fresh (le_refl _))
theorem zfb{K:Frag}(hl:∀l∈lks,l<S.len)
  (h:∀ι2 H2 S2,Ltr K ι H S lks ι2 H2 S2->∃xs,SqL K H2 a xs/\RVs K ι2 H2 ds xs/\∀ys,SqL K H2 a ys->True):Wk K (Itl K a) ds lks ι H S where
 go:=fun i ι2 H2 S2 lt hi=>by obtain⟨xs,hq,rr,_⟩:=h ι2 H2 S2 lt;exact⟨xs,xs[i]'(by rw[rr.length];exact hi),hq,getElem?_eq_getElem _⟩
 yld:=fun i ι2 H2 S2 x H' lt hi y=>by obtain⟨xs,hq,rr,_⟩:=h ι2 H2 S2 lt;obtain⟨rfl,y⟩:=y;obtain⟨d,e,r⟩:=rr.get' (y xs hq);exact⟨Ext.refl _ _,lt.rh,d,e,r⟩
 stop:=fun i ι2 H2 S2 lt hi=>by obtain⟨xs,hq,rr,_⟩:=h ι2 H2 S2 lt;exact⟨xs,hq,by rw[rr.length];exact hi⟩
 lks:=hl
theorem zmM{K:Frag}(hl:∀l∈lks,l<S.len)(e:H a=some (.tup xs))(rr:RVs K ι H ds xs):Wk K (Itt K a) ds lks ι H S where
 go:=fun i ι2 H2 S2 lt hi=>⟨xs,xs[i]'(by rw[rr.length];exact hi),SqT.of (lt.ext.kp.tups _ _ e),getElem?_eq_getElem _⟩
 yld:=fun i ι2 H2 S2 x H' lt hi y=>by obtain⟨rfl,y⟩:=y;obtain⟨d,e,r⟩:=(rr.ext lt.ext).get' (y xs (SqT.of (lt.ext.kp.tups _ _ e)));exact⟨Ext.refl _ _,lt.rh,d,e,r⟩
 stop:=fun i ι2 H2 S2 lt hi=>⟨xs,SqT.of (lt.ext.kp.tups _ _ e),by rw[rr.length];exact hi⟩
 lks:=hl
theorem zkn(he:PE X e (tL X.K cf cl))(hlk:∀{δ:Ev}{S:R.St}{Q:List D×List Nat->R.St->Prop},W (evL cf cl δ S) Q->W (evL cf cl δ S) fun r S'=>(∀l∈r.2,l<S'.len)/\Q r S'):PI X tg e (tI X.K cf cl):=by refine PI.imp (znM he) fun σ H R=>ex8 fun δ ι S Q hs hh w q=>?_;refine tL.run hs hh (hlk w) fun ds lks v ι1 H1 S1 x1 hs1 hh1 sq w1=>?_;obtain⟨hl,w1⟩:=w1;obtain⟨a,xs,rfl,rr,kd⟩:=sq;refine⟨a,rfl,?_⟩;cases kd with|tmp h e=>exact .inl ⟨⟨xs,SqL.of e⟩,q _ _ ⟨ds,lks,ι1,S1,x1,hh1,w1,zfb hl fun ι2 H2 S2 lt=>⟨xs,SqL.of (lt.ext.keep h e (by simp)),rr.ext lt.ext,fun _ _=>trivial⟩⟩⟩|fix e=>exact .inl ⟨⟨xs,e.sq⟩,q _ _ ⟨ds,lks,ι1,S1,x1,hh1,w1,zfb hl fun ι2 H2 S2 lt=>⟨xs,(e.kp lt.ext.kp).sq,rr.ext lt.ext,fun _ _=>trivial⟩⟩⟩|tup e=>exact .inr ⟨⟨xs,SqT.of e⟩,q _ _ ⟨ds,lks,ι1,S1,x1,hh1,w1,zmM hl e rr⟩⟩| own l hm hi hg e=>refine .inl ⟨⟨xs,SqL.of e⟩,q _ _ ⟨ds,lks,ι1,S1,x1,hh1,w1,zfb hl fun ι2 H2 S2 lt=>?_⟩⟩;obtain⟨b,h2,zs,hz,rz⟩:=lt.rh.obj l (.lst ds) ((lt.lck l hm).trans hg);rw[zbs lt.ext.pre hi]at h2;cases h2;exact⟨zs,SqL.of hz,rz,fun _ _=>trivial⟩
theorem zog(h:W (evL cf (.val ce) δ S) Q):W (evL cf (.val ce) δ S) fun r S'=>(∀l∈r.2,l<S'.len)/\Q r S':=by
 simp[evL,zaa]at h⊢;refine h.mono fun x S1 h1=>?_;obtain⟨ds,e,h2⟩:=zay h1;rw[e];refine⟨fun l hl=>?_,h2⟩;cases x with
 |ref l'=>simp[lkOf]at hl;subst hl;simp[zbI]at e;split at e;rename_i e2;exact zam e2;cases e
 |_=>simp[lkOf]at hl
theorem zmb(h:W (evL cf (.comp n js g it c e) δ S) Q):W (evL cf (.comp n js g it c e) δ S) fun r S'=>(∀l∈r.2,l<S'.len)/\Q r S':=by simp[evL,zaa]at h⊢;refine h.mono fun ds S1 h1=>h1.mono fun r S2 h2=>?_;split at h2;rename_i c;rw[if_pos c];exact⟨fun l hl=>by simp at hl,h2⟩;exact h2.elim
theorem zfE{K:Frag}(lo:Int)(n:Nat):Wk K (Itr lo n) ((List.range n).map fun(j:Nat)=>D.int (lo+j)) [] ι H S where
 go:=fun i ι2 H2 S2 lt hi=>by show i<n;simpa using hi
 yld:=fun i ι2 H2 S2 x H' lt hi y=>by
  obtain⟨rfl,rfl⟩:=y;have hi:i<n:=by simpa using hi
  exact⟨Ext.refl _ _,lt.rh,.int (lo+i),by simp[hi],rfl⟩
 stop:=fun i ι2 H2 S2 lt hi=>by show n<=i;simpa using hi
 lks:=fun l hl=>by simp at hl
theorem zle(hg:Gl X "range"/\X.mg "range"=none)(ha:PE X a (tE X.K cf ca))(hst:zak a=true):PI X tg (.Call (.Name "range" p) [a] [] pos) (tI X.K cf (.rng1 ca)):=by
 refine PI.imp (zhC hg.1 hg.2 (zaW ha hst) (zai hst [] X.env)) fun σ H R=>ex8 fun δ ι S Q hs hh w q=>?_;simp[evL,zaa]at w;refine tE.run hs hh w fun d v ι1 H1 S1 x1 hs1 hh1 r1 w1=>?_;cases d with
 |int j=>
  obtain rfl:v=.int j:=r1;dsimp only at w1;split at w1;rename_i c;have e:((List.range j.toNat).map fun(k:Nat)=>D.int k)=(List.range j.toNat).map fun(k:Nat)=>D.int (0+k):=by simp
  rw[e]at w1;exact⟨j,rfl,c.1,c.2,q _ _ ⟨_,[],ι1,S1,x1,hh1,w1,zfE 0 j.toNat⟩⟩;exact w1.elim
 |_=>exact w1.elim
theorem zld(hg:Gl X "range"/\X.mg "range"=none)(ha:PE X a (tE X.K cf ca))(hb:PE X b (tE X.K cf cb))(hst:zak a=true)(hst2:zak b=true):PI X tg (.Call (.Name "range" p) [a,b] [] pos) (tI X.K cf (.rng2 ca cb)):=by refine PI.imp (zhB hg.1 hg.2 (zcj ha (zaW hb hst2) (zai hst [b] X.env)) (by rw[zai hst,zai hst2];rfl) (zai hst2 [] X.env)) fun σ H R=>ex8 fun δ ι S Q hs hh w q=>?_;simp[evL,zaa]at w;refine tE.run hs hh w fun d v ι1 H1 S1 x1 hs1 hh1 r1 w1=>tE.run hs1 hh1 w1 fun e u ι2 H2 S2 x2 hs2 hh2 r2 w2=>?_;split at w2;rename_i i j;obtain rfl:v=.int i:=r1;obtain rfl:u=.int j:=r2;split at w2;rename_i c;exact⟨i,j,rfl,c,q _ _ ⟨_,[],ι2,S2,x1.trans x2,hh2,w2,zfE i (j-i).toNat⟩⟩;exact w2.elim;exact w2.elim
theorem zaS{σ:L2.St}{fp:List Addr}(I:Inv X pins σ H s)(k:∀b o,b∉fp->s.heap.get? b=some o->h'.get? b=some o)(hf:∀b∈fp,FpOk X pins H b):Inv X pins σ H {s with heap:=h',toks:=t'}:=by
 have nit:∀b u,H b=some u->b∉fp:=fun b u e z=>by rw[(hf b z).1]at e;cases e
 refine I.step (g':=s.gens) (d':=s.drawn) (fun b hb=>?_) (fun b o _ _ hc e _=>k b o hc e) (fun b o _ _ hc e _=>⟨o.slots,k b o hc e⟩) (fun _ _ _ _ n=>n)
  (fun b o hc e=>⟨o,k b o hc e⟩) (fun _ _ e=>e) (fun _ _ _ e=>e) (fun b ps e=>⟨#[],by rw[e];simp⟩) (fun m hm=>?_) (fun b u e=>?_) I.bare
 obtain⟨f0,f1,f2,f3,f4,f5⟩:=hf b hb;exact⟨f3,f1,f4,f5⟩;obtain⟨o,es,ep,ho,r⟩:=hm;exact⟨o,es,ep,k _ o (fun z=>(hf _ z).2.1 rfl) ho,r⟩;refine(I.hok b u e).stay (fun c v hc q=>k c v ?_ q) (fun _ q=>q) fun _ _ q=>q;rcases hc with z|z;rw[z];exact nit b u e;exact nit c _ z
def tG(K:Frag)(is:List Nat):TG:=fun v σ H Qv=>∃δ ι d δ',RS K ι H δ σ/\RV K ι H d v/\asgG is d δ=some δ'/\∀σ',RS K ι H δ' σ'->Qv σ' H
def tGs(K:Frag)(is:List Nat):TGs:=fun vs σ H Qv=>∃δ ι ds,RS K ι H δ σ/\RVs K ι H ds vs/\ds.length=is.length/\∀σ',RS K ι H (zdw is ds δ) σ'->Qv σ' H
theorem PG.imp(h:PG X tg t)(i:∀v σ H Q,t' v σ H Q->t v σ H Q):PG X tg t':=fun pins s σ H v u Q I r q=>h pins s σ H v u Q I r (i v σ H Q q)
theorem PGs.imp(h:PGs X es t)(i:∀v σ H Q,t' v σ H Q->t v σ H Q):PGs X es t':=fun pins s σ H v u Q I r q=>h pins s σ H v u Q I r (i v σ H Q q)
theorem zlg(G:Gd T cf k N sc X)(hi:N[i]?=some x)(hl:zeN sc x=true):PG X (.Name x pos) (tG X.K [i]):=by refine PG.imp (zhD (by rw[G.nm];exact G.nd) (by rw[G.nm];exact hi) (G.lc hl).1 (G.lc hl).2) fun v σ H Qv ⟨δ,ι,d,δ',hs,r,e,q⟩=>?_;cases e;exact q _ (hs.set r i)
noncomputable def zbN(sc:Scope)(N:List Str):List Nat->List Expr->Bool
 | [],[]=>true|i::is,.Name x _::es=>(N[i]?==some x)&&zeN sc x&&zbN sc N is es|_,_=>false
theorem zeo(G:Gd T cf k N sc X):∀{is:List Nat}{es:List Expr},zbN sc N is es=true->PGs X es (tGs X.K is)/\(assignEach es X.env).length=is.length/\(assignEach es X.env).findIdx? (·.1)=none
 | [],[],_=>⟨PGs.imp zlT fun v σ H Qv ⟨δ,ι,ds,hs,r,hl,q⟩=>by
  have:ds=[]:=by simpa using hl
  subst this;exact⟨r,q σ (by simpa[zdw]using hs)⟩,rfl,rfl⟩
 | [],_::_,h=>by simp[zbN]at h|_::_,[],h=>by simp[zbN]at h| i::is,e::es,h=>by
  cases e with
  |Name x pos=>
   simp[zbN,and_eq_true,beq_iff_eq]at h;obtain⟨h1,h2,h3⟩:=zeo G h.2;refine⟨PGs.imp (zjz (zhD (by rw[G.nm];exact G.nd) (by rw[G.nm];exact h.1.1) (G.lc h.1.2).1 (G.lc h.1.2).2) h1) fun v σ H Qv ⟨δ,ι,ds,hs,r,hl,q⟩=>?_,?_,?_⟩;cases ds with|nil=>simp at hl| cons d ds=>obtain⟨v1,vr,rfl,r1,r2⟩:=r;refine⟨v1,vr,rfl,?_⟩;exact⟨δ.set i (some d),ι,ds,hs.set r1 i,r2,by simpa using hl,fun σ' hs'=>q σ' (by simpa[zdw]using hs')⟩
   show((false,_)::assignEach es X.env).length=_;simp[h2];show((false,_)::assignEach es X.env).findIdx? _=_;simp[List.findIdx?_cons,h3]
  |_=>simp[zbN]at h
theorem zki(h2:2<=is.length)(e:asgG is d δ=some δ'):∃ds,d=.tup ds/\ds.length=is.length/\δ'=zdw is ds δ:=by
 match is,h2 with
 |a::b::t,_=>
  cases d with
  |tup ds=>simp only[asgG]at e;split at e;rename_i c;cases e;exact⟨ds,rfl,c,rfl⟩;cases e
  |_=>cases e
theorem zko(G:Gd T cf k N sc X)(h:zbN sc N is es=true)(h2:2<=is.length):PG X (.Tuple es j pos) (tG X.K is):=by obtain⟨h1,hn,hst⟩:=zeo G h;refine PG.imp (znN G.calm h1 hn hst) fun v σ H Qv ⟨δ,ι,d,δ',hs,r,e,q⟩=>?_;obtain⟨ds,rfl,c,rfl⟩:=zki h2 e;obtain⟨a,xs,rfl,ha,rr⟩:=r;exact⟨a,xs,rfl,SqT.of ha,by rw[rr.length];exact c,δ,ι,ds,hs,rr,c,q⟩
theorem Ext.tmp{p:Addr}(x:Ext ι H ι' H')(hn:H p=none)(e:H' p=some (.lst vs)):Ext ι H ι' (upd H' p (.lst us)):=by refine⟨x.pre,x.kp.trans (.same (Tups.upd_lst e) (fun b o u h=>?_) fun b ps h=>?_),fun b o hb eb=>?_⟩;rw[zaf];exact h;rintro rfl;rw[e]at h;cases h;rw[zaf];exact h;rintro rfl;rw[e]at h;cases h;obtain⟨h1,h2⟩:=x.rest b o hb eb;refine⟨?_,h2⟩;rw[zaf];exact h1;rintro rfl;rw[hn]at eb;cases eb
theorem Kp.tmp{p:Addr}(e:H p=some (.lst vs)):Kp H (upd H p (.lst us)):=.same (Tups.upd_lst e) (fun b o u h=>by
 rw[zaf];exact h;rintro rfl;rw[e]at h;cases h) fun b ps h=>by
 rw[zaf];exact h;rintro rfl;rw[e]at h;cases h
theorem RH.tmp{K:Frag}{p:Addr}(hh:RH K ι H S)(hp:p∉ι)(e:H p=some (.lst vs)):RH K ι (upd H p (.lst us)) S:=⟨hh.len,hh.nd,fun l o q=>by obtain⟨a,h1,h2,hm⟩:=hh.mem q;exact⟨a,h1,h2.up (prefix_refl _) (Kp.tmp e) (zaf fun z=>hp (z▸hm))⟩,(Kp.tmp e).tab hh.tab⟩
theorem RS.up{K:Frag}(h:RS K ι H δ σ)(hp:ι <+: ι')(hk:Kp H H'):RS K ι' H' δ σ:=⟨h.1,fun i d e=>let ⟨v,e1,r⟩:=h.2 i d e;⟨v,e1,r.up hp hk⟩⟩
theorem RH.lk{K:Frag}(hh:RH K ι H S)(ks:List Nat):RH K ι H {S with lk:=ks}:=⟨hh.len,hh.nd,fun l o e=>hh.obj l o e,hh.tab⟩
theorem RS.csl{K:Frag}(h:RS K ι H δ σ)(nt:Nat)(js:List Nat):RS K ι H (R.csl nt js δ) (L2.csl nt js σ):=by
 refine⟨by simp[R.csl,L2.csl],fun i d e=>?_⟩;unfold R.csl at e;unfold L2.csl;by_cases hi:i<nt;rw[getElem?_append_left (by simpa using hi),List.getElem?_replicate]at e;rw[if_pos hi]at e;cases e;rw[getElem?_append_right (by simpa using hi)]at e⊢;simp only[length_replicate,getElem?_map]at e⊢;cases ej:js[i-nt]? with
 |none=>rw[ej]at e;cases e
 |some j=>
  rw[ej]at e;simp at e⊢;have e2:δ[j]?=some (some d):=by
   cases z:δ[j]? with
   |none=>rw[z]at e;cases e
   |some o=>rw[z]at e;simp at e;rw[e]
  obtain⟨v,ev,r⟩:=h.2 j d e2;exact⟨v,by rw[ev];rfl,r⟩
theorem zeX{α:Type}{xs:List α}{x:α}(h:xs[i]?=some x):xs.drop i=x::xs.drop (i+1):=by obtain⟨h1,h2⟩:=List.getElem?_eq_some_iff.mp h;rw[List.drop_eq_getElem_cons h1,h2]
def CInv(K:Frag)(cf:CF)(g:List Nat)(c e:CE)(Q:List D×List Nat->R.St->Prop)(ds:List D)(lks:List Nat)(ι1:List Addr)(H1:Hp)(S1:R.St)(p:Addr)(i:Nat)(σ':L2.St)(H':Hp):Prop:=
 i<=ds.length/\∃δ' ι' S' acc vs,RS K ι' H' δ' σ'/\Ltr K ι1 H1 S1 lks ι' H' S'/\S'.lk=lks++S1.lk/\S1.len<=S'.len/\p∉ι'/\H' p=some (.lst vs)/\RVs K ι' H' acc vs/\
  W (zax g (evT cf c) (evE cf e) (ds.drop i) δ' S') fun rest S2=>(acc++rest).length<=16777216/\Q (acc++rest,[]) {S2 with lk:=S1.lk}
theorem zgk(hcf:CFok cf)(h:tLt X.K cf (.comp nt js is it c e) σ H Qv):zk4 nt js (tI X.K cf it) (tG X.K is) (tT X.K cf c) (tE X.K cf e) σ H Qv:=by
 obtain⟨δ,ι,S,Q,hs,hh,w,q⟩:=h;simp[evL,zaa]at w;refine⟨δ,ι,S,_,hs,hh,w,fun J H1 ⟨ds,lks,ι1,S1,x1,hh1,w1,wk⟩=>?_⟩;dsimp only at w1;unfold zbm at w1;rw[zaa]at w1;intro p hp;have hpi:=hh1.fresh hp;refine⟨fun i m σ' H'=>m=ds.length-i/\CInv X.K cf is c e Q ds lks ι1 H1 S1 p i σ' H',⟨_,rfl,zero_le _,R.csl nt js δ,ι1,{S1 with lk:=lks++S1.lk},[],[],((hs.ext x1).csl _ _).up (prefix_refl _) (Kp.new hp _),⟨Ext.new hp _,(hh1.lk _).new hp _,fun l _=>rfl⟩,rfl,le_refl _,hpi,zag,rfl,?_⟩,?_⟩;refine w1.mono fun rest S2 w2=>?_;simp at w2;split at w2;rename_i c;exact⟨by simpa using c,by simpa using w2⟩;exact w2.elim;rintro i m σ' H' ⟨rfl,hle,δ',ι',S',acc,vs,hs',lt,hlk,hln,hpn,hpv,ra,wt⟩;rcases Nat.lt_or_eq_of_le hle with hlt|rfl;refine .inr ⟨wk.go i ι' H' S' lt hlt,CInv X.K cf is c e Q ds lks ι1 H1 S1 p (i+1),fun σ2 H2 h=>⟨_,by omega,rfl,h⟩,fun x H2 hy=>?_⟩;obtain⟨x2,hh2,d,hd,rd⟩:=wk.yld i ι' H' S' x H2 lt hlt hy;have hs2:=hs'.ext x2;have hp2:=x2.keep hpn hpv (by simp);rw[zeX hd]at wt;simp only[zax]at wt;cases ea:asgG is d δ' with
 |none=>rw[ea]at wt;exact wt.elim| some δ2=>
  rw[ea]at wt;rw[zaa]at wt;refine⟨δ',ι',d,δ2,hs2,rd,ea,fun σ2 hs3=>?_⟩;refine tT.run hs3 hh2 (zd7 hcf c δ2 S' _ wt) fun b ι3 H3 S3 x3 hs4 hh3 w3=>?_;obtain⟨w3,f3⟩:=w3;have hp3:=x3.keep hpn hp2 (by simp);have hpn3:=(x3.rest p _ hpn hp2).2;have keep:∀{S4:R.St},Frm S' S4->S4.lk=lks++S1.lk/\S1.len<=S4.len/\∀l∈lks,S4.get l=S1.get l:=fun f=>⟨f.lk.trans hlk,le_trans hln f.lens,fun l hl=>(f.same l (by rw[hlk];exact mem_append_left _ hl) (lt_of_lt_of_le (wk.lks l hl) hln)).trans (lt.lck l hl)⟩;cases b with
  |false=>obtain⟨k1,k2,k3⟩:=keep f3;exact⟨hlt,δ2,ι3,S3,acc,vs,hs4,⟨(lt.ext.trans x2).trans x3,hh3,k3⟩,k1,k2,hpn3,hp3,(ra.ext x2).ext x3,w3⟩| true=>
   simp only[if_true]at w3⊢;rw[zaa]at w3;refine tE.run hs4 hh3 (zaq hcf e δ2 S3 _ w3) fun z v ι4 H4 S4 x4 hs5 hh4 rz w4=>?_;obtain⟨w4,f4⟩:=w4;obtain⟨k1,k2,k3⟩:=keep (f3.trans f4);have hp4:=x4.keep hpn3 hp3 (by simp);have hpn4:=(x4.rest p _ hpn3 hp3).2;rw[zaa]at w4;have ra4:=((ra.ext x2).ext x3).ext x4;have hlen:acc.length<16777216:=by obtain⟨rest,S5,_,w5⟩:=ze9 w4;have:=w5.1;simp at this;omega
   refine⟨vs,hp4,by rw[ra4.length,sizeLine_eq];exact hlen,hlt,δ2,ι4,S4,acc++[z],vs++[v],hs5.up (prefix_refl _) (Kp.tmp hp4),⟨(((lt.ext.trans x2).trans x3).trans x4).tmp hp hp4,hh4.tmp hpn4 hp4,k3⟩,k1,k2,hpn4,zag,?_,?_⟩;exact(RVs.append (es:=[z]) ra4 ⟨v,[],rfl,rz,rfl⟩).up (prefix_refl _) (Kp.tmp hp4);refine w4.mono fun rest S5 w5=>?_;simpa using w5
 refine .inl ⟨wk.stop _ ι' H' S' lt (le_refl _),?_⟩;rw[List.drop_length]at wt;simp[zax,W_ok,append_nil]at wt;exact q _ _ ⟨acc,ι',{S' with lk:=S1.lk},p,vs,x1.trans lt.ext,rfl,ra,hpn,hpv,lt.rh.lk _,ziR hh1 x1 hp,wt.2⟩
noncomputable def Ite(K:Frag)(a:Addr):It:=
 ⟨fun i H=>∃xs x,SqL K H a xs/\xs[i]?=some x,
  fun i H v H'=>∃T x,H T=none/\v=.ref T/\H'=upd H T (.tup [.int i,x])/\∀xs,SqL K H a xs->xs[i]?=some x,
  fun i H=>∃xs,SqL K H a xs/\xs.length<=i⟩
theorem zhe{K:Frag}(hne:e≠it):Turn P w K (.Tuple es j pt) (Ite K a) [e,it] e
  (fun i h=>(∃old,IsEnum h e it i old)/\h.IsListIter it a i) where
 mem:=by simp
 obj:=fun i h st c hc=>by obtain⟨⟨old,h1⟩,⟨o4,h4,_,d4⟩⟩:=st;simp at hc;rcases hc with rfl|rfl;exact⟨_,h1,fun v z=>by cases z⟩;exact⟨_,h4,fun v z=>by rw[d4]at z;cases z⟩
 keep:=fun i h h' st k=>by obtain⟨⟨old,h1⟩,h4⟩:=st;exact⟨⟨old,k e (by simp) _ h1⟩,h4.at fun o x=>k it (by simp) o x⟩
 item:=by
  intro X hP hw hK hc i pins s σ H E I hf st hg;subst hP hw hK;obtain⟨xs,x,hq,hx⟩:=hg;obtain⟨xv,rx,px,_⟩:=I.list hq;obtain⟨u,hu,ru⟩:=rx.get hx;obtain⟨⟨old,he⟩,h1⟩:=st;refine wpAny_pyNext_enum_item he h1 px.isList (by simpa using hu) hne fun h' a1 a3 a5 a6 hk=>?_;have hn:H s.heap.objs.size=none:=I.hok.fresh (le_refl _);have I1:Inv X pins σ (upd H s.heap.objs.size (.tup [.int i,x])) {s with heap:=s.heap.push {cls:=.type "tuple",data:=.seq #[.int i s.toks,u]},toks:=s.toks+1}:=I.laid (t':=s.toks+1) (fun b u e=>Heap.get?_push_of_some _ e) (le_refl _) ⟨by rw[sizeLine_eq];simp,[.int i s.toks,u],.cons ⟨_,rfl⟩ (.cons ru .nil),⟨_,Heap.get?_push_size _ rfl,rfl,_,rfl⟩⟩;have lt:∀{c o},s.heap.get? c=some o->c≠s.heap.objs.size:=fun e=>ne_of_lt (Heap.lt_size e);have nf:∀c∈[e,it],c≠s.heap.objs.size:=by intro c hc;simp at hc;rcases hc with rfl|rfl;exact lt he;obtain⟨o,z,_⟩:=h1;exact lt z
  have hf1:∀c∈[e,it],FpOk X pins (upd H s.heap.objs.size (.tup [.int i,x])) c:=fun c hc=>by obtain⟨f0,f⟩:=hf c hc;exact⟨by rw[zaf (nf c hc)];exact f0,f⟩
  have two:∀{c:Addr},¬c∈[e,it]->c≠e/\c≠it:=fun {c} hc=>by simp at hc;exact hc
  have k2:∀c o,¬c∈[e,it]->(s.heap.push {cls:=.type "tuple",data:=.seq #[.int i s.toks,u]}).get? c=some o->h'.get? c=some o:=fun c o hc z=>by by_cases hs:c=s.heap.objs.size;subst hs;have e2:(s.heap.push {cls:=.type "tuple",data:=.seq #[.int i s.toks,u]}).get? s.heap.objs.size=_:=Heap.get?_push_size _ rfl;rw[e2]at z;cases z;exact a5;exact hk c o (two hc).1 (two hc).2 ((Heap.get?_push_ne _ _ _ hs).symm.trans z)
  have I2:Inv X pins σ (upd H s.heap.objs.size (.tup [.int i,x])) {s with heap:=h',toks:=s.toks+1}:=zaS (s:={s with heap:=s.heap.push {cls:=.type "tuple",data:=.seq #[.int i s.toks,u]},toks:=s.toks+1}) (h':=h') (t':=s.toks+1) I1 k2 hf1;refine⟨_,rfl,?_⟩;refine wpAny_letOwnedTupleGo_enum a1 fun h2' hz' hs'=>?_;refine⟨.ref s.heap.objs.size,upd H s.heap.objs.size (.tup [.int i,x]),zaS (t':=s.toks+1) I2 (fun c o hc z=>hs'.extBut _ _ (two hc).1 z) hf1,rfl,⟨_,x,hn,rfl,rfl,fun xs' hx'=>by rw[I.list_inj hx' hq];exact hx⟩,
   ⟨⟨_,hz'⟩,a3.extBut hs'.extBut (Ne.symm hne)⟩,fun c hc=>(hf1 c hc).1⟩
 done:=by intro X hP hw hK hc i pins s σ H E I hf st hg;subst hP hw hK;obtain⟨xs,hq,hl⟩:=hg;obtain⟨xv,rx,px,_⟩:=I.list hq;obtain⟨⟨old,he⟩,h1⟩:=st;have l1:=rx.length;refine wpAny_pyNext_enum_end (I.ok.hd hc) he h1 px.isList (by simp;omega) fun h' hk=>⟨rfl,zaS (t':=s.toks) I (fun c o hc z=>hk c o (fun q=>hc (by simp[q])) z) hf⟩
 self:=fun _ _ _ _ _ st h=>wpAny_pyIter_enum st.1.choose_spec h
theorem zkT{K:Frag}(hl:S.get l=some (.lst ds))(ha:ι[l]?=some a):Wk K (Ite K a) (ds.mapIdx fun i d=>zc6 (.int i) d) [l] ι H S:=by
 have get:∀{ι2 H2 S2},Ltr K ι H S [l] ι2 H2 S2->∃xs,SqL K H2 a xs/\RVs K ι2 H2 ds xs:=fun {ι2 H2 S2} lt=>by obtain⟨a',h2,xs,hx,rx⟩:=lt.rh.obj l (.lst ds) ((lt.lck l (by simp)).trans hl);rw[zbs lt.ext.pre ha]at h2;cases h2;exact⟨xs,SqL.of hx,rx⟩
 refine⟨fun i ι2 H2 S2 lt hi=>?_,fun i ι2 H2 S2 x H' lt hi y=>?_,fun i ι2 H2 S2 lt hi=>?_,fun k hk=>?_⟩;obtain⟨xs,hx,rx⟩:=get lt;rw[length_mapIdx]at hi;have h1:=rx.length;exact⟨xs,xs[i]'(by omega),hx,getElem?_eq_getElem _⟩;obtain⟨xs,hx,rx⟩:=get lt;obtain⟨T,u,hT,rfl,rfl,y1⟩:=y;obtain⟨d,ed,rd⟩:=rx.get' (y1 xs hx);have x2:Ext ι2 H2 ι2 (upd H2 T (.tup [.int i,u])):=Ext.new hT _;refine⟨x2,lt.rh.new hT _,zc6 (.int i) d,by rw[List.getElem?_mapIdx,ed];rfl,?_⟩;exact⟨T,[.int i,u],rfl,zag,.int i,[u],rfl,rfl,u,[],rfl,rd.ext x2,rfl⟩;obtain⟨xs,hx,rx⟩:=get lt;rw[length_mapIdx]at hi;have h1:=rx.length;exact⟨xs,hx,by omega⟩;cases mem_singleton.mp hk;exact zam hl
end
end R
namespace R
open PySem PySem.Spec PyProof.Rows L2
open AutoSeq1 (wpAny_loadPart')
section
variable{prog:Program}{w:World}{A:Around}{E:Value->Shared->Prop}{s:Shared}
theorem zgK(hit:s.heap.IsTupleIter it t i)(ht:s.heap.IsTuple t items)(hx:items[i]?=some x)
  (hQ:∀h',h'.IsTupleIter it t (i+1)->Heap.SameBut it s.heap h'->Q x {s with heap:=h'}):wpAny (model prog w) A (Builtin.SmallTypes.nextOf (.ref it)) Q E s:=by
 obtain⟨o,ho,hc,hd⟩:=id hit;obtain⟨ol,hol,_,nl,hdl⟩:=ht;refine wpAny_bind (wpAny_callSpecial?_slot hit.typeIs PySem.F.slot_tuple_iterator_next
  (wpAny_call_entry PySem.F.slot_tuple_iterator_next hit.typeIs PySem.F.entry_tuple_iterator_next ?_ (PySem.F.args_tuple_iterator_next_1 _)))
 show wpAny _ _ (field (.ref it) 0>>=_) _ _ s;refine wpAny_bind (wpAny_field ho hd rfl ?_);refine wpAny_bind (wpAny_field ho hd rfl ?_);refine wpAny_bind (wpAny_seqItems hol hdl ?_);simp[Int.toNat_natCast,hx];refine wpAny_bind (wpAny_setField ho hd (by simp) (wpAny_pure ⟨x,rfl,wpAny_pure (hQ _ ?_ (Heap.SameBut.update ..))⟩));exact⟨_,Heap.get?_update_self _ ho (Obj.isFreed_of_fields (Obj.data_mapFields hd _)),(Obj.cls_mapFields ..).trans hc,by
  rw[Obj.data_mapFields hd];simp[rawInt]⟩
theorem zeE(hh:A.handled=none)(hit:s.heap.IsTupleIter it t i)(ht:s.heap.IsTuple t items)(hx:items[i]?=none)
  (hE:∀h' e,Heap.ExtBut it s.heap h'->(∃o,h'.get? e=some o/\o.cls=.type "StopIteration")->E (.ref e) {s with heap:=h'}):wpAny (model prog w) A (Builtin.SmallTypes.nextOf (.ref it)) Q E s:=by
 obtain⟨o,ho,hc,hd⟩:=id hit;obtain⟨ol,hol,_,nl,hdl⟩:=ht;refine wpAny_bind (wpAny_callSpecial?_slot hit.typeIs PySem.F.slot_tuple_iterator_next
  (wpAny_call_entry PySem.F.slot_tuple_iterator_next hit.typeIs PySem.F.entry_tuple_iterator_next ?_ (PySem.F.args_tuple_iterator_next_1 _)))
 show wpAny _ _ (field (.ref it) 0>>=_) _ _ s;refine wpAny_bind (wpAny_field ho hd rfl ?_);refine wpAny_bind (wpAny_field ho hd rfl ?_);refine wpAny_bind (wpAny_seqItems hol hdl ?_);simp[Int.toNat_natCast,hx]
 first|refine wpAny_bind (wpAny_rule (wpAny_bind (wpAny_setField ho hd (by simp) ?_)))|refine wpAny_bind (wpAny_setField ho hd (by simp) ?_)
 apply wpAny_bind;refine wpAny_bind (m:=firstArgMember _ _) (wpAny_of_eq (by first|rfl|(simp only;rfl)) ?_);refine wpAny_newObj_type ?_ (by size_fits);refine wpAny_bind (wpAny_handled ?_)
 first|rw[show A.in1.handled=none from hh]|rw[hh]
 refine wpAny_bind (wpAny_pure (wpAny_throw ?_));exact hE _ _ (((Heap.SameBut.update ..).extBut.push _).push _) ⟨_,Heap.get?_push_size _ rfl,rfl⟩
end
theorem ziy{i:Nat}(hh:A.handled=none)(he:IsEnum s.heap e it i old)(hit:s.heap.IsTupleIter it t i)(ht:s.heap.IsTuple t items)(hx:items[i]?=none)
  (hQ:∀h',Heap.ExtBut it s.heap h'->Q none {s with heap:=h'}):wpAny (model prog w) A (pyNext (.ref e)) Q E s:=by
 have hT:s.TypeIs (.ref e) "enumerate":=⟨_,he,rfl⟩;refine wpAny_bind (wpAny_attempt (wpAny_callSpecial?_slot hT PySem.F.slot_enumerate_next
  (wpAny_call_entry PySem.F.slot_enumerate_next hT PySem.F.entry_enumerate_next ?_ (PySem.F.args_enumerate_next_1 _))))
 show wpAny _ _ (field (.ref e) 2>>=_) _ _ _;refine wpAny_bind (wpAny_field he rfl rfl ?_);refine wpAny_bind (zeE hh hit ht hx fun h' x he' hx'=>?_);obtain⟨o,ho,hc⟩:=hx';refine wpAny_bind (wpAny_isInstance ⟨o,ho,hc⟩ isSubtype_stop ?_);exact wpAny_pure (hQ _ he')
theorem zoC(hh:A.handled=none)(it l:Addr)(hne:l≠it)(items:Array Value) :
  Draws prog w A it [it,l] items.size (fun i v=>items[i]?=some v) (fun i h=>h.IsTupleIter it l i/\h.IsTuple l items) where
 live:=fun _ _ st=>let ⟨o,ho,_⟩:=st.1;⟨o,ho⟩
 frame:=fun _ _ _ st hk=>⟨let ⟨o,ho,r⟩:=st.1;⟨o,hk it (by simp) o ho,r⟩,let ⟨o,ho,r⟩:=st.2;⟨o,hk l (by simp) o ho,r⟩⟩
 item:=fun i s Q E hi st hQ=>by refine zgK st.1 st.2 (x:=items[i]) (by simp) fun h' hit' hs'=>?_;exact hQ _ h' s.toks (by simp) ⟨hit',st.2.extBut hs'.extBut hne⟩ hs'
 done:=fun s Q E st hE=>zeE hh st.1 st.2 (by simp) hE
theorem zix(l:Addr)(items:Array Value)(n:Nat)(dct:Option Addr)(sl:Array (Option Value)) :
  Meets (Builtin.«enumerate.__new__» ⟨[.type "enumerate",.ref l],[]⟩) (fun _ R s=>s.heap.get? l=some {cls:=.type "tuple",dict:=dct,data:=.seq items n,slots:=sl}/\
   R (.ok (.ret (.ref (s.heap.push {cls:=.type "tuple_iterator",data:=.fields #[.ref l,.int 0 0]}).objs.size)))
    {s with heap:=(s.heap.push {cls:=.type "tuple_iterator",data:=.fields #[.ref l,.int 0 0]}).push {cls:=.type "enumerate",data:=.fields #[.none,.bool false,.ref s.heap.objs.size,rawInt 0,.none,.none]}}):=
 .of_wp fun prog w A R s h=>by
  obtain⟨hp,g,d,tk,os⟩:=s;obtain⟨hl,h⟩:=h;have hsub:=sub_enumerate;have hL:Heap.IsTuple (Shared.heap ⟨hp,g,d,tk,os⟩) l items:=⟨_,hl,rfl,n,rfl⟩
  wp_walk using wpAny_loadPart' hl
  refine wpAny_stack_any fun st=>wpAny_pure ?_;split;rename_i c _ _ _ _ _;cases(c==Value.type "enumerate")
  . wp_walk using wpAny_loadPart' hl,wpAny_pyIter_tuple hL
    exact⟨_,rfl,h⟩
  . wp_walk using wpAny_loadPart' hl,wpAny_pyIter_tuple hL
    exact⟨_,rfl,h⟩
  . wp_walk using wpAny_loadPart' hl,wpAny_pyIter_tuple hL
    exact⟨_,rfl,h⟩
theorem zg2(hL:s.heap.IsTuple l items)
  (h:∀h',IsEnum h' (s.heap.objs.size+1) s.heap.objs.size 0 .none->h'.IsTupleIter s.heap.objs.size l 0->h'.objs.size=s.heap.objs.size+2->
   (∀b o,s.heap.get? b=some o->h'.get? b=some o)->Q (.ref (s.heap.objs.size+1)) {s with heap:=h'}) :
  wpAny (model prog w) A (call (.type "enumerate") [.ref l]) Q E s:=by
 obtain⟨⟨c,dct,dt,sl⟩,hl,hc,n,hd⟩:=hL;subst hc hd;refine callType_new PySem.F.called_enumerate (by decide) (PySem.F.typeCall_enumerate_1 _) (PySem.F.newCall_enumerate_1 _) (fun obj=>PySem.F.args_object_init_2 obj _) PySem.F.entry_enumerate_new
  (zix l items n dct sl) ⟨hl,?_⟩
 have hz:(s.heap.push {cls:=.type "tuple_iterator",data:=.fields #[.ref l,.int 0 0]}).objs.size=s.heap.objs.size+1:=Heap.size_push ..;rw[hz];have he:IsEnum ((s.heap.push {cls:=.type "tuple_iterator",data:=.fields #[.ref l,.int 0 0]}).push
   {cls:=.type "enumerate",data:=.fields #[.none,.bool false,.ref s.heap.objs.size,rawInt 0,.none,.none]}) (s.heap.objs.size+1) s.heap.objs.size 0 .none:=by
  have:=Heap.get?_push_size (s.heap.push {cls:=.type "tuple_iterator",data:=.fields #[.ref l,.int 0 0]})
   (o:={cls:=.type "enumerate",data:=.fields #[.none,.bool false,.ref s.heap.objs.size,rawInt 0,.none,.none]}) rfl
  rw[hz]at this;exact this
 refine⟨⟨_,he,rfl⟩,h _ he ⟨_,Heap.get?_push_of_some _ (Heap.get?_push_size _ rfl),rfl,rfl⟩ (by rw[Heap.size_push,hz]) fun b o x=>Heap.get?_push_of_some _ (Heap.get?_push_of_some _ x)⟩
variable[Mks]
section
variable{T:Tab}{cf:CF}{k:Nat}{N:List Str}{sc:Scope}{X:Cx}{pos p:Pos}{tg:Expr}
noncomputable def IteT(K:Frag)(a:Addr):It:=
 ⟨fun i H=>∃xs x,SqT K H a xs/\xs[i]?=some x,
  fun i H v H'=>∃T x,H T=none/\v=.ref T/\H'=upd H T (.tup [.int i,x])/\∀xs,SqT K H a xs->xs[i]?=some x,
  fun i H=>∃xs,SqT K H a xs/\xs.length<=i⟩
theorem zgA{K:Frag}(hne:e≠it)(hai:a≠it)(hae:a≠e):Turn P w K (.Tuple es j pt) (IteT K a) [e,it] e
  (fun i h=>(∃old,IsEnum h e it i old)/\h.IsTupleIter it a i) where
 mem:=by simp
 obj:=fun i h st c hc=>by obtain⟨⟨old,h1⟩,⟨o4,h4,_,d4⟩⟩:=st;simp at hc;rcases hc with rfl|rfl;exact⟨_,h1,fun v z=>by cases z⟩;exact⟨_,h4,fun v z=>by rw[d4]at z;cases z⟩
 keep:=fun i h h' st k=>by obtain⟨⟨old,h1⟩,⟨o,h4,r⟩⟩:=st;exact⟨⟨old,k e (by simp) _ h1⟩,⟨o,k it (by simp) o h4,r⟩⟩
 item:=by
  intro X hP hw hK hc i pins s σ H E I hf st hg;subst hP hw hK;obtain⟨xs,x,hq,hx⟩:=hg;obtain⟨xv,rx,px,_⟩:=I.tuple hq;obtain⟨u,hu,ru⟩:=rx.get hx;obtain⟨⟨old,he⟩,h1⟩:=st;have hlt:i<xv.length:=(List.getElem?_eq_some_iff.mp hu).1;refine wpAny_pyNext_enum_itemD (zoC (A:=X.A.in1) (I.ok.hd hc) it a hai xv.toArray) he ⟨h1,px⟩ (by simpa using hlt) hne (by simp[hne,Ne.symm hae]) fun x' h' tk0 hx' a1 a3 a5 a6 hk=>?_;have ex:x'=u:=by
   have hu':xv.toArray[i]?=some u:=by simpa using hu
   rw[hu']at hx';exact(Option.some.inj hx').symm
  subst ex;have hn:H s.heap.objs.size=none:=I.hok.fresh (le_refl _);have I1:Inv X pins σ (upd H s.heap.objs.size (.tup [.int i,x])) {s with heap:=s.heap.push {cls:=.type "tuple",data:=.seq #[.int i tk0,x']},toks:=tk0+1}:=I.laid (t':=tk0+1) (fun b u e=>Heap.get?_push_of_some _ e) (le_refl _) ⟨by rw[sizeLine_eq];simp,[.int i tk0,x'],.cons ⟨_,rfl⟩ (.cons ru .nil),⟨_,Heap.get?_push_size _ rfl,rfl,_,rfl⟩⟩;have lt:∀{c o},s.heap.get? c=some o->c≠s.heap.objs.size:=fun e=>ne_of_lt (Heap.lt_size e);have nf:∀c∈[e,it],c≠s.heap.objs.size:=by intro c hc;simp at hc;rcases hc with rfl|rfl;exact lt he;obtain⟨o,z,_⟩:=h1;exact lt z
  have hf1:∀c∈[e,it],FpOk X pins (upd H s.heap.objs.size (.tup [.int i,x])) c:=fun c hc=>by obtain⟨f0,f⟩:=hf c hc;exact⟨by rw[zaf (nf c hc)];exact f0,f⟩
  have two:∀{c:Addr},¬c∈[e,it]->c≠e/\c≠it:=fun {c} hc=>by simp at hc;exact hc
  have k2:∀c o,¬c∈[e,it]->(s.heap.push {cls:=.type "tuple",data:=.seq #[.int i tk0,x']}).get? c=some o->h'.get? c=some o:=fun c o hc z=>by by_cases hs:c=s.heap.objs.size;subst hs;have e2:(s.heap.push {cls:=.type "tuple",data:=.seq #[.int i tk0,x']}).get? s.heap.objs.size=_:=Heap.get?_push_size _ rfl;rw[e2]at z;cases z;exact a5;exact hk c o (two hc).1 (two hc).2 ((Heap.get?_push_ne _ _ _ hs).symm.trans z)
  have I2:Inv X pins σ (upd H s.heap.objs.size (.tup [.int i,x])) {s with heap:=h',toks:=tk0+1}:=zaS (s:={s with heap:=s.heap.push {cls:=.type "tuple",data:=.seq #[.int i tk0,x']},toks:=tk0+1}) (h':=h') (t':=tk0+1) I1 k2 hf1;refine⟨_,rfl,?_⟩;refine wpAny_letOwnedTupleGo_enum a1 fun h2' hz' hs'=>?_;refine⟨.ref s.heap.objs.size,upd H s.heap.objs.size (.tup [.int i,x]),zaS (t':=tk0+1) I2 (fun c o hc z=>hs'.extBut _ _ (two hc).1 z) hf1,rfl,⟨_,x,hn,rfl,rfl,fun xs' hx'=>by rw[I.tuple_inj hx' hq];exact hx⟩,
   ⟨⟨_,hz'⟩,(let ⟨o,ho,r⟩:=a3.1;⟨o,hs'.extBut _ _ (Ne.symm hne) ho,r⟩)⟩,fun c hc=>(hf1 c hc).1⟩
 done:=by intro X hP hw hK hc i pins s σ H E I hf st hg;subst hP hw hK;obtain⟨xs,hq,hl⟩:=hg;obtain⟨xv,rx,px,_⟩:=I.tuple hq;obtain⟨⟨old,he⟩,h1⟩:=st;have l1:=rx.length;refine ziy (I.ok.hd hc) he h1 px (by simp;omega) fun h' hk=>⟨rfl,zaS (t':=s.toks) I (fun c o hc z=>hk c o (fun q=>hc (by simp[q])) z) hf⟩
 self:=fun _ _ _ _ _ st h=>wpAny_pyIter_enum st.1.choose_spec h
def zou(K:Frag)(t:TA):TI:=fun σ H R=>t σ H fun vs H1=>∃a xs,vs=[.ref a]/\((SqL K H1 a xs/\R (Ite K a) H1)\/(SqT K H1 a xs/\R (IteT K a) H1))
theorem zjy(hg:Gl X "enumerate")(hm:X.mg "enumerate"=none)(ha:PA X [a] ta)(hs:starEach [a] X.env=[(false,eval a X.env)]) :
  PI X (.Tuple es j pt) (.Call (.Name "enumerate" p) [a] [] pos) (zou X.K ta):=by
 intro pins s σ H R I h;refine Call_ (zcK I hg hm boot_enumerate (PyProof.Rows.callWith_type1 (thn (ha pos pins s σ H _ I h) fun us s1=>ex5 fun vs H1 I1 r1 q1=>?_) hs rfl));obtain⟨l,xs,e,q1⟩:=q1;subst e;cases r1 with
 |cons r rr=>
  cases rr;cases r;rcases q1 with⟨q1,q⟩|⟨q1,q⟩;obtain⟨xv,rx,px,_⟩:=I1.list q1;refine call_enumerate_list px.isList fun h' he hi hsz hk=>?_;apply wpAny_pyIter_enum he;refine⟨_,_,_,_,H1,rfl,I1.kept (t':=s1.toks) hk,zhe (Nat.succ_ne_self _),⟨⟨_,he⟩,hi⟩,fun c hc=>?_,q⟩;simp at hc;have:s1.heap.objs.size<=c:=by rcases hc with rfl|rfl;exact le_succ _;exact le_refl _
  exact I1.fpOk this (I1.hok.fresh this);obtain⟨xv,rx,px,_⟩:=I1.tuple q1;have hlt:l<s1.heap.objs.size:=px.lt;refine zg2 px fun h' he hi hsz hk=>?_;apply wpAny_pyIter_enum he;refine⟨_,_,_,_,H1,rfl,I1.kept (t':=s1.toks) hk,zgA (Nat.succ_ne_self _) (ne_of_lt hlt) (ne_of_lt (Nat.lt_succ_of_lt hlt)),⟨⟨_,he⟩,hi⟩,fun c hc=>?_,q⟩;simp at hc;have:s1.heap.objs.size<=c:=by rcases hc with rfl|rfl;exact le_succ _;exact le_refl _
  exact I1.fpOk this (I1.hok.fresh this)
theorem ziX{K:Frag}(ha:H a=some (.tup xs))(rx:RVs K ι H ds xs):Wk K (IteT K a) (ds.mapIdx fun i d=>zc6 (.int i) d) [] ι H S:=by have get:∀{ι2 H2 S2},Ltr K ι H S [] ι2 H2 S2->SqT K H2 a xs/\RVs K ι2 H2 ds xs:=fun {ι2 H2 S2} lt=>⟨SqT.of (lt.ext.kp.tups _ _ ha),rx.ext lt.ext⟩;refine⟨fun i ι2 H2 S2 lt hi=>?_,fun i ι2 H2 S2 x H' lt hi y=>?_,fun i ι2 H2 S2 lt hi=>?_,fun k hk=>by cases hk⟩;obtain⟨hx,rx⟩:=get lt;rw[length_mapIdx]at hi;have h1:=rx.length;exact⟨xs,xs[i]'(by omega),hx,getElem?_eq_getElem _⟩;obtain⟨hx,rx⟩:=get lt;obtain⟨T,u,hT,rfl,rfl,y1⟩:=y;obtain⟨d,ed,rd⟩:=rx.get' (y1 xs hx);have x2:Ext ι2 H2 ι2 (upd H2 T (.tup [.int i,u])):=Ext.new hT _;refine⟨x2,lt.rh.new hT _,zc6 (.int i) d,by rw[List.getElem?_mapIdx,ed];rfl,?_⟩;exact⟨T,[.int i,u],rfl,zag,.int i,[u],rfl,rfl,u,[],rfl,rd.ext x2,rfl⟩;obtain⟨hx,rx⟩:=get lt;rw[length_mapIdx]at hi;have h1:=rx.length;exact⟨xs,hx,by omega⟩
theorem zgU(h:zdq S x=some r):(∃l ds,x=.ref l/\S.get l=some (.lst ds)/\r=(ds.mapIdx fun i d=>zc6 (.int i) d,[l]))\/∃ds,x=.tup ds/\r=(ds.mapIdx fun i d=>zc6 (.int i) d,[]):=by
 unfold zdq at h;cases x with
 |ref l=>
  dsimp only at h;cases e:S.get l with
  |none=>rw[e]at h;cases h
  |some o=>rw[e]at h;cases o with|lst ds=>cases h;exact .inl ⟨l,ds,rfl,e,rfl⟩|_=>cases h
 |tup ds=>cases h;exact .inr ⟨ds,rfl,rfl⟩|_=>cases h
theorem zlf(hg:Gl X "enumerate"/\X.mg "enumerate"=none)(ha:PE X a (tE X.K cf ca))(hst:zak a=true):PI X (.Tuple es j pt) (.Call (.Name "enumerate" p) [a] [] pos) (tI X.K cf (.enum ca)):=by refine PI.imp (zjy hg.1 hg.2 (zaW ha hst) (zai hst [] X.env)) fun σ H R=>ex8 fun δ ι S Q hs hh w q=>?_;simp[evL,zaa]at w;refine tE.run hs hh w fun d v ι1 H1 S1 x1 hs1 hh1 r1 w1=>?_;obtain⟨r,ez,w3⟩:=zay w1;rcases zgU ez with⟨l,ds,rfl,hl,rfl⟩|⟨ds,rfl,rfl⟩;obtain⟨a,ea,rfl⟩:=r1;obtain⟨a',h2,xs,hx,rx⟩:=hh1.obj l _ hl;rw[ea]at h2;cases h2;exact⟨a,xs,rfl,.inl ⟨SqL.of hx,q _ _ ⟨_,_,ι1,S1,x1,hh1,w3,zkT hl ea⟩⟩⟩;obtain⟨a,xs,rfl,hx,rx⟩:=r1;exact⟨a,xs,rfl,.inr ⟨SqT.of hx,q _ _ ⟨_,_,ι1,S1,x1,hh1,w3,ziX hx rx⟩⟩⟩
end
end R
namespace R
open PySem PySem.Spec PyProof.Rows L2
variable[Mks]
section
variable{X:Cx}{pins:List (Addr×Obj)}{σ:L2.St}{H H':Hp}{s:Shared}
structure Own(X:Cx)(pins:List (Addr×Obj))(b:Addr):Prop where
 new:X.s₀.heap.objs.size<=b
 loc:b≠X.env.locals
 cel:∀x c,X.env.cells.lookup x=some c->c≠b
 pin:∀p∈X.pn++pins,p.1≠b
theorem Own.fresh(I:Inv X pins σ H s){b:Addr}(h:s.heap.objs.size<=b):Own X pins b:=by refine⟨le_trans I.sz h,fun e=>?_,fun x c e z=>?_,fun p hp z=>?_⟩;exact absurd (lt_of_lt_of_le I.lt h) (by rw[e];exact lt_irrefl _);obtain⟨v,o,ho,_⟩:=I.cell x c e;exact absurd (lt_of_lt_of_le (Heap.lt_size ho) h) (by rw[z];exact lt_irrefl _);exact absurd (lt_of_lt_of_le (Heap.lt_size (I.pin p hp).1) h) (by rw[z];exact lt_irrefl _)
theorem Own.stk(o:Own X pins b)(I:Inv X pins σ H s):b∉frs X.stack:=fun hb=>by rcases mem_cons.mp (I.stkSub b hb) with e|e;exact o.loc e;obtain⟨_,ob,ho,_⟩:=I.ok.funs.mem e;exact absurd (lt_of_lt_of_le (Heap.lt_size ho) o.new) (lt_irrefl _)
theorem zaQ{ch:List Addr}(I:Inv X pins σ H s)(ow:∀b∈ch,Own X pins b)(hn:∀b∈ch,H b=none)(k:∀b o,b∉ch->s.heap.get? b=some o->h'.get? b=some o)(hg:AllBare g') :
  Inv X pins σ H {s with heap:=h',gens:=g',drawn:=d',toks:=t'}:=by
 refine I.call ⟨fun b o e n _ hx=>k b o hx e,fun b o e n _ hx=>⟨o.slots,k b o hx e⟩,fun b o _ n _=>n,fun b o e hx=>⟨o,k b o hx e⟩,fun _ _ e=>e,fun _ _ _ e=>e,fun b ps e=>⟨#[],by rw[e];simp⟩⟩ ?_ hg fun b hb=>⟨.inr (ow b hb).new,(ow b hb).loc,(ow b hb).cel,(ow b hb).pin⟩;intro a o e;refine(I.hok a o e).stay (fun b u hb q=>k b u (fun z=>?_) q) (fun _ q=>q) fun _ _ q=>q;have:=hn b z;rcases hb with rfl|hb;rw[e]at this;cases this;rw[hb]at this;cases this
end
section
variable{X:Cx}{pins:List (Addr×Obj)}{σ:L2.St}{H H':Hp}{s:Shared}{b:Addr}{o:HO}
theorem zeO(I:Inv X pins σ H s)(ow:Own X pins b)(hn:H b=none)(ok:ObjOk X.prog X.w (upd H b o) s.heap b o):Inv X pins σ (upd H b o) s:=by
 have un:Un (frs X.stack) [b] H (upd H b o) s.heap s.heap:=⟨fun c q e _ _ _=>e,fun c q e _ _ _=>⟨q.slots,e⟩,fun c q e n hx=>by rw[zaf (by simpa using hx)];exact n,fun c q e _=>⟨q,e⟩,
  fun c xs q=>by rw[zaf (zaj q hn)];exact q,fun c q u e=>by rw[zaf (zaj e hn)];exact e,fun c ps q=>⟨#[],by rw[zaf (zaj q hn),q];simp⟩⟩
 refine I.call' rfl un ?_ I.bare fun c hc=>?_;intro a u e;by_cases z:a=b;subst z;rw[zag]at e;cases e;exact ok;rw[zaf z]at e;exact(I.hok a u e).stay (fun _ _ _ q=>q) (fun c q=>by rw[zaf (zaj q hn)];exact q) fun c xs q=>by rw[zaf (zaj q hn)];exact q
 rw[mem_singleton.mp hc];exact⟨.inr ow.new,ow.loc,ow.cel,ow.pin⟩
end
structure StepT(P:Addr)(H H':Hp):Prop where
 rest:∀a o,a≠P->H a=some o->H' a=some o
 tab:∀ps,H P=some (.tbl ps)->∃more,H' P=some (.tbl (ps++more))
theorem zec(h:TriplesOk l)(e:codeAmong pos (l++[a,b,c])=some v):codeAmong pos l=some v\/v=c:=by
 induction l using codeAmong.induct (pos:=pos) with
 |case1 line _ col _ c' rest cond=>simp[List.cons_append,codeAmong,cond]at e⊢;exact .inl e| case2 line _ col _ c' rest cond ih=>simp[List.cons_append,codeAmong,cond]at e⊢;exact ih (by simpa[TriplesOk]using h) e| case3 l hno=>
  cases l with
  |nil=>right;unfold codeAmong at e;split at e;rename_i h;simp at h;obtain⟨_,_,rfl,rfl⟩:=h;split at e;cases e;rfl;simp[codeAmong]at e;cases e
  |cons x l=>exfalso;unfold TriplesOk at h;split at h;rename_i h0;cases h0;rename_i h0;cases h0;exact hno _ _ _ _ _ _ rfl;exact h
theorem StepT.ext(st:StepT P H H')(hP:H P=some (.tbl ps))(tb:TB H'):Ext [] H [] H':=by
 have nP:∀a o,H a=some o->(∀ps,o≠.tbl ps)->a≠P:=fun a o e n z=>by rw[z,hP]at e;cases e;exact n _ rfl
 refine⟨prefix_refl _,⟨fun a xs e=>st.rest a _ (nP a _ e (by simp)) e,fun a o u e=>st.rest a _ (nP a _ e (by simp)) e,fun _=>tb⟩,fun a o _ e=>⟨?_,by simp⟩⟩;by_cases z:a=P;subst z;obtain⟨more,e'⟩:=st.tab ps hP;rw[hP]at e;cases e;exact .inr ⟨⟨_,rfl⟩,_,e'⟩;exact .inl (st.rest a o z e)
section
variable{X:Cx}{pins:List (Addr×Obj)}{σ:L2.St}{H:Hp}{s:Shared}{c P:Addr}{params:Arguments}{scope:Scope}{lpos:Pos}
theorem BM.at_(b:BM X.mg X.base)(I:Inv X pins σ H s)(hP:H P=some o):s.heap.BuiltinsAt X.mg P:=by obtain⟨bm,ob,h1,h2,h3,h4,h5⟩:=b;obtain⟨k1,k2⟩:=I.bs bm ob h4;exact⟨bm,ob,h1,h2,h3,fun z=>(by rw[z,hP]at k2;cases k2),k1,h5⟩
end
theorem zmg{K:Frag}
 (S:FnScope N ps scope) (hr:Room (k+1) A) (e0:Env0 P w K mg base A outer s H)
   (ho:s.heap.get? f=some (kla_obj name qual params body scope [] pm c' ct)) (hcd:s.heap.CodeRec (.ref c') qual)
   (hb:BindsTo s (kla_fn name qual params body scope [] pm (.ref c') ct) args (ps.zip us)) (r:Vals vs us) (hl:vs.length=ps.length)
   (ht:Room k (A.deeper (envOfC qual scope s.heap.objs.size f (.ref c')))->PE (cxOf CX P w K mg base N qual scope f (.ref c') A outer s H E) body t) (hq:t (start N vs) H Q) :
   codeAny (model P w) A (.call (.ref f) args) (CR CX outer P w H s Q E) s:=by
  have lim:s.heap.NoLimit:=e0.mod.nolimit.keeps fun b o e=>(e0.bs b o e).1;have kinds:∀y∈ps.zip us,scope.names.lookup y.1=some .local\/(scope.names.lookup y.1=some .cell/\((cellsFrom (s.heap.objs.size+1) scope.names []).lookup y.1).isSome=true):=fun⟨x,v⟩ hy=>(S.par x (of_mem_zip hy).1).elim .inl fun q=>.inr ⟨q,cellsFrom_some _ _ _ (.inl q)⟩;refine PySem.W.kla_callFunE hr.depth ho rfl S.co S.gen rfl hcd (hb _ _ _ _ ?_);refine wpAny_newFunctionEnv_cells S.kind kinds fun env he s1 x=>?_;subst he;refine⟨lim.keeps x.toInCall.keep,PySem.W.kla_codeExpr ?_⟩;have I:Inv (cxOf CX P w K mg base N qual scope f (.ref c') A outer s H E) [] (start N vs) H s1:=zeP S hr.hd e0 hl r x;exact wpAny_mono (ht (hr.deeper _) [] s1 (start N vs) H _ I hq) (fun u s' ⟨v,H',J,rv,q⟩=>⟨v,H',J.os,J.bare,J.base,J.hok,rv,q⟩) fun e s' hs=>hs
structure LamAt(H:Hp)(f:Addr)(name qual:Str)(params:Arguments)(body:Expr)(scope:Scope):Prop where
 ex:∃(pm ct:Value) (c':Addr) (oc:Obj) (vs:Array Value) (t:Tok),H f=some (.frz (kla_obj name qual params body scope [] pm c' ct) (.own 0))/\H c'=some (.frz oc (.own 0))/\oc.data=.fields vs/\vs[1]?=some (.str qual t)
theorem LamAt.up(L:LamAt H f name qual params body scope)(k:Kp H H'):LamAt H' f name qual params body scope:=by obtain⟨pm,ct,c',oc,vs,t,h1,h2,h3⟩:=L.ex;exact⟨pm,ct,c',oc,vs,t,k.frzs _ _ _ h1,k.frzs _ _ _ h2,h3⟩
abbrev zfa(s:Shared)(a:Addr)(vs:List Value)(e:Nat):Prop:=s.heap.get? a=some (seqObj "list" vs.toArray e)
theorem zdP(h:zfa s a vs e)(g:Array Value->Array Value)(hg:g vs.toArray=us.toArray):∃e',zfa {s with heap:=s.heap.update a (Obj.mapSeq g)} a us e':=⟨_,by have:=get?_update_seq h g;rw[hg]at this;exact this⟩
theorem zbB{s:Shared}(n:b≠a)(h:s.heap.get? b=some o):(s.heap.update a g).get? b=some o:=by rw[Heap.get?_update_ne _ _ _ _ n];exact h
structure KEnd(X:Cx)(pins:List (Addr×Obj))(σ:L2.St)(H:Hp)(D:Addr)(out:List Value)(s':Shared):Prop where
 ex:∃H' e,Inv X pins σ H' s'/\Ext [] H [] H'/\H' D=none/\zfa s' D out e
theorem getD_mem{α:Type}{xs:List α}(d:α)(h:i<xs.length):xs[i]?=some (xs.getD i d):=by rw[List.getD_eq_getElem?_getD,getElem?_eq_getElem h];rfl
section
variable{X:Cx}{pins:List (Addr×Obj)}{σ:L2.St}{H H':Hp}{s:Shared}{b:Addr}{o:HO}
theorem ziu(hn:H b=none):Ext [] H [] (upd H b o):=⟨prefix_refl _,Kp.new hn o,fun a u _ e=>⟨.inl (by rw[zaf (zaj e hn)];exact e),by simp⟩⟩
end
section
variable{X:Cx}{pins:List (Addr×Obj)}{σ:L2.St}{H:Hp}{s:Shared}{c P:Addr}{params:Arguments}{body:Expr}{scope:Scope}{lpos:Pos}
theorem zjT(I:Inv X pins σ H s)(bm:BM X.mg X.base)(hcode:X.env.code=.ref c)(hC:codeHdIn X.K c P=true)(tb:TabIn H P (X.env.qual ++ "<lambda>"))
  (hdef:defaultsOf params X.env=([],[])) (hcl:closureFor scope X.env=pure [])
  (q:∀f H' s',Inv X pins σ H' s'->LamAt H' f "<lambda>" (X.env.qual ++ "<lambda>") params body scope->TabIn H' P (X.env.qual ++ "<lambda>")->StepT P H H'->Q (.ref f) s') :
  wpAny (model X.prog X.w) X.A (eval (.Lambda params body scope lpos) X.env) Q E s:=by
 obtain⟨ps,h1,h2,h3⟩:=tb;have C:=PySem.W.codeHd_of_K I.kIn hC;have hP:s.heap.get? P=some (tabObj ps):=I.hok P _ h1;have hb:=bm.at_ I h1;have hg:s.heap.Ns mainGlobals X.mg:=I.mod.glob.keeps I.bk;have hPl:P<s.heap.objs.size:=Heap.lt_size hP;apply PySem.W.kla_eval hdef;cases hf:codeAmong lpos ps.toList with
 |some cv=>
  obtain⟨c',oc,vs,t,rfl,a2,a3,a4⟩:=h3 lpos cv hf;refine PySem.W.kla_makeFunctionHit hcl I.ok.glob hg hcode C hP h2 hf hb fun ctv h' tk hk hsz=>?_;have hn:H h'.objs.size=none:=I.hok.fresh hsz;have ow:Own X pins h'.objs.size:=Own.fresh I hsz;have I1:Inv X pins σ H {s with heap:=h'.push (kla_obj "<lambda>" (X.env.qual ++ "<lambda>") params body scope [] ((X.mg "__name__").getD .none) c' ctv),toks:=tk}:=zaQ (g':=s.gens) (t':=tk) (d':=s.drawn) (ch:=[]) I (fun b hb=>by cases hb) (fun b hb=>by cases hb) (fun b o _ e=>Heap.get?_push_of_some _ (hk b o e)) I.bare;have I2:=zeO (o:=.frz (kla_obj "<lambda>" (X.env.qual ++ "<lambda>") params body scope [] ((X.mg "__name__").getD .none) c' ctv) (.own 0)) I1 ow hn ⟨Heap.get?_push_size _ rfl,_,Heap.get?_push_size _ rfl⟩;have st:∀a o,H a=some o->upd H h'.objs.size (.frz (kla_obj "<lambda>" (X.env.qual ++ "<lambda>") params body scope [] ((X.mg "__name__").getD .none) c' ctv) (.own 0)) a=some o:=fun a o e=>by rw[zaf (zaj e hn)];exact e
  refine q _ _ _ I2 ⟨_,ctv,c',oc,vs,t,zag,st _ _ a2,a3,a4⟩ ?_ ⟨fun a o _ e=>st a o e,fun ps' e=>⟨#[],by rw[st _ _ e];simp⟩⟩;exact TabIn.up ⟨ps,h1,h2,h3⟩ (by rw[st _ _ h1,h1]) fun b o u e=>st _ _ e
 |none=>
  have hgP:mainGlobals≠P:=fun z=>by obtain⟨o,es,ep,e,hd,_⟩:=hg;rw[z,hP]at e;cases e;cases hd
  refine PySem.W.kla_makeFunction hcl I.ok.glob hg hcode C hP h2 hf hgP hb fun c' ctv h' tk hx hge hlt hrec htb=>?_;obtain⟨c2,oc,vs,t,e2,hoc,hd,hv⟩:=hrec;cases e2;generalize hfo:kla_obj "<lambda>" (X.env.qual ++ "<lambda>") params body scope [] ((X.mg "__name__").getD .none) c' ctv=fo;have hfr:(h'.push fo).get? h'.objs.size=some fo:=by rw[<-hfo];exact Heap.get?_push_size _ rfl
  have hfn:H h'.objs.size=none:=I.hok.fresh (le_trans hge (le_of_lt hlt));have hcn:H c'=none:=I.hok.fresh hge;have nPc:P≠c':=ne_of_lt (lt_of_lt_of_le hPl hge);have nPf:P≠h'.objs.size:=ne_of_lt (lt_trans (lt_of_lt_of_le hPl hge) hlt);have ncf:c'≠h'.objs.size:=ne_of_lt hlt;have st:∀a o,a≠P->H a=some o->upd (upd (upd H P (.tbl (ps ++ #[rawInt lpos.line,rawInt lpos.col,.ref c']))) c' (.frz oc (.own 0))) h'.objs.size (.frz fo (.own 0)) a=some o:=fun a o n e=>by rw[zaf (zaj e hfn),zaf (zaj e hcn),zaf n];exact e
  have atP:upd (upd (upd H P (.tbl (ps ++ #[rawInt lpos.line,rawInt lpos.col,.ref c']))) c' (.frz oc (.own 0))) h'.objs.size (.frz fo (.own 0)) P=some (.tbl (ps ++ #[rawInt lpos.line,rawInt lpos.col,.ref c'])):=by rw[zaf nPf,zaf nPc,zag]
  have atC:upd (upd (upd H P (.tbl (ps ++ #[rawInt lpos.line,rawInt lpos.col,.ref c']))) c' (.frz oc (.own 0))) h'.objs.size (.frz fo (.own 0)) c'=some (.frz oc (.own 0)):=by rw[zaf ncf,zag]
  have hno:∀a,H a=none->a≠P:=fun a e z=>by rw[z,h1]at e;cases e
  have keep:∀b o,b≠P->s.heap.get? b=some o->(h'.push fo).get? b=some o:=fun b o n e=>Heap.get?_push_of_some _ (hx b o n e);have inv:Inv X pins σ (upd (upd (upd H P (.tbl (ps ++ #[rawInt lpos.line,rawInt lpos.col,.ref c']))) c' (.frz oc (.own 0))) h'.objs.size (.frz fo (.own 0))) {s with heap:=h'.push fo,toks:=tk}:=by refine I.call (g':=s.gens) (t':=tk) (d':=s.drawn) (ch:=[]) ⟨fun b o e n _ _=>keep b o (hno b n) e,fun b o e n _ _=>⟨o.slots,keep b o (hno b n) e⟩,fun b o e n _=>?_,fun b o e _=>?_,fun b xs e=>?_,fun b o u e=>?_,fun b ps' e=>?_⟩ ?_ I.bare (fun b hb=>by cases hb);have hb:=Heap.lt_size e;rw[zaf (ne_of_lt (lt_trans (lt_of_lt_of_le hb hge) hlt)),zaf (ne_of_lt (lt_of_lt_of_le hb hge)),zaf (hno b n)];exact n;by_cases z:b=P;subst z;exact⟨_,Heap.get?_push_of_some _ htb⟩;exact⟨o,keep b o z e⟩;exact st b _ (fun z=>by rw[z,h1]at e;cases e) e;exact st b _ (fun z=>by rw[z,h1]at e;cases e) e;by_cases z:b=P;subst z;rw[h1]at e;cases e;exact⟨_,atP⟩;exact⟨#[],by rw[st b _ z e];simp⟩;intro a u e;by_cases zf:a=h'.objs.size;subst zf;rw[zag]at e;cases e;exact⟨hfr,_,hfr⟩;rw[zaf zf]at e;by_cases zc:a=c';subst zc;rw[zag]at e;cases e;exact⟨Heap.get?_push_of_some _ hoc,_,Heap.get?_push_of_some _ hoc⟩;rw[zaf zc]at e;by_cases zp:a=P;subst zp;rw[zag]at e;cases e;exact Heap.get?_push_of_some _ htb;rw[zaf zp]at e;refine(I.hok a u e).stay (fun b o hb e'=>keep b o ?_ e') (fun b e'=>st b _ (fun z=>by rw[z,h1]at e';cases e') e') fun b xs e'=>st b _ (fun z=>by rw[z,h1]at e';cases e') e';rcases hb with rfl|hb;exact zp;intro z;rw[z,h1]at hb;cases hb
  refine q _ _ _ inv ⟨_,ctv,c',oc,vs,t,by rw[zag,<-hfo],atC,hd,hv⟩ ?_ ⟨fun a o n e=>st a o n e,fun ps' e=>by rw[h1]at e;cases e;exact⟨_,atP⟩⟩;refine⟨_,atP,?_,fun pos v e=>?_⟩;have:=TriplesOk_snoc lpos.line lpos.col (.ref c') ps.toList h2;simpa using this;have e':codeAmong pos (ps.toList++[rawInt lpos.line,rawInt lpos.col,.ref c'])=some v:=by simpa using e
  rcases zec h2 e' with z|z;obtain⟨d,od,ws,u,a1,a2,a3⟩:=h3 pos v z;exact⟨d,od,ws,u,a1,st _ _ (fun y=>by rw[y,h1]at a2;cases a2) a2,a3⟩;exact⟨c',oc,vs,t,z,atC,hd,hv⟩
end
def oneK(k:VK)(vs:List V)(H:Hp):Prop:=match vs with | [w]=>k w H|_=>False
theorem zfZ(h:oneK k vs H):∃w,vs=[w]/\k w H:=by unfold oneK at h;split at h;exact⟨_,rfl,h⟩;exact h.elim
def tLam(q:Str)(params:Arguments)(body:Expr)(scope:Scope):TE:=fun σ H Q=>TB H/\∀f H',LamAt H' f "<lambda>" q params body scope->Ext [] H [] H'->Q (.ref f) H'
section
variable{X:Cx}{o:Expr}{p apos cpos kpos lpos pos:Pos}{td:TE}{c P:Addr}{params:Arguments}{body:Expr}{scope:Scope}
theorem znT(mk:Maker X c P)(hdef:defaultsOf params X.env=([],[]))(hcl:closureFor scope X.env=pure []):PE X (.Lambda params body scope lpos) (tLam (X.env.qual ++ "<lambda>") params body scope):=by intro pins s σ H Q I h;obtain⟨ps,hP,_⟩:=id (h.1 _ mk.mem);refine zjT I mk.bm mk.code mk.hd (h.1 _ mk.mem) hdef hcl fun f H' s' J L T S=>⟨.ref f,H',J,rfl,h.2 f H' L (S.ext hP fun p hp=>?_)⟩;by_cases z:p.1=P;rw[mk.one p hp z,z];exact T;obtain⟨qs,hq,_⟩:=id (h.1 p hp);exact(h.1 p hp).up ((S.rest _ _ z hq).trans hq.symm) fun b o u e=>S.rest b _ (fun y=>by rw[y]at e;rw[hP]at e;cases e) e
end
end R
namespace R
open PySem PySem.Spec PyProof.Rows L2
section
variable{ρ:Type}{lt:ρ->ρ->Prop}[DecidableRel lt]
noncomputable def rkG(lt:ρ->ρ->Prop)[DecidableRel lt](rows:List ρ)(k:ρ):Int:=((rows.filter fun x=>decide (lt x k)).length:Nat)
structure Ord(lt:ρ->ρ->Prop):Prop where
 irr:∀r,¬lt r r
 tra:∀{a b c},lt a b->lt b c->lt a c
 tot:∀{a b},a≠b->lt a b\/lt b a
theorem zfP(o:Ord lt){rows:List ρ}{a b:ρ}(ha:a∈rows)(h:lt a b):rkG lt rows a<rkG lt rows b:=by unfold rkG;have:=zeV (p:=fun x=>decide (lt x a)) (q:=fun x=>decide (lt x b)) (l:=rows) (a:=a) (fun x _ hx=>decide_eq_true (o.tra (of_decide_eq_true hx) h)) ha (decide_eq_false (o.irr a)) (decide_eq_true h);omega
theorem zhn(o:Ord lt){rows:List ρ}{a b:ρ}(ha:a∈rows)(hb:b∈rows):lt a b↔rkG lt rows a<rkG lt rows b:=by refine⟨zfP o ha,fun h=>?_⟩;by_cases e:a=b;subst e;omega;rcases o.tot e with z|z;exact z;have:=zfP o hb z;omega
theorem zlx(o:Ord lt){rows:List ρ}{a b:ρ}(ha:a∈rows)(hb:b∈rows)(h:rkG lt rows a=rkG lt rows b):a=b:=by by_cases e:a=b;exact e;rcases o.tot e with z|z;have:=zfP o ha z;omega;have:=zfP o hb z;omega
end
variable[Mks]
section
variable{ρ:Type}[Inhabited ρ]{lt:ρ->ρ->Prop}[DecidableRel lt]{RA KA:Hp->Addr->ρ->Prop}{κ:SortKind}
variable{X:Cx}{pins:List (Addr×Obj)}{σ:L2.St}{H:Hp}{s:Shared}{A':Around}{f D kS:Addr}{rows:List ρ}
structure SortK(X:Cx)(pins:List (Addr×Obj))(σ:L2.St)(A':Around)(H:Hp)(f:Addr)(RA KA:Hp->Addr->ρ->Prop)(κ:SortKind)(lt:ρ->ρ->Prop)[DecidableRel lt]:Prop where
 upR:∀{H1 H2 a r},Kp H1 H2->RA H1 a r->RA H2 a r
 upK:∀{H1 H2 b r},Kp H1 H2->KA H1 b r->KA H2 b r
 call:∀{H1 s1 a r},Inv X pins σ H1 s1->Ext [] H [] H1->RA H1 a r->wpAny (model X.prog X.w) A' (call (.ref f) [.ref a]) (fun y s'=>∃b H',y=.ref b/\Inv X pins σ H' s'/\KA H' b r/\Ext [] H1 [] H'/\Un (frs X.stack) [] H1 H' s1.heap s'.heap) (fun _ _=>False) s1
 kind:∀{H1 s1}{ks:List Value}{Q:SortKind->Shared->Prop}{E:Value->Shared->Prop},Inv X pins σ H1 s1->(∀k∈ks,∃b r,k=Value.ref b/\KA H1 b r)->1<=ks.length->Q κ s1->wpAny (model X.prog X.w) A' (keyKind' ks.toArray) Q E s1
 less:∀{H1 s1 b c r r'}{Q:Bool->Shared->Prop}{E:Value->Shared->Prop},Inv X pins σ H1 s1->KA H1 b r->KA H1 c r'->Q (decide (lt r r')) s1->wpAny (model X.prog X.w) A' (keyLt' κ (.ref b) (.ref c)) Q E s1
 ord:Ord lt
structure KeyG(KA:Hp->Addr->ρ->Prop)(rows:List ρ)(H:Hp)(ks:List Value)(i:Nat):Prop where
 len:ks.length=i
 at_:∀(j:Nat)(k:Value),ks[j]?=some k->∃(b:Addr) (r:ρ),rows[j]?=some r/\k=Value.ref b/\KA H b r
theorem KeyG.snoc(Sk:SortK X pins σ A' H f RA KA κ lt){H1 H2:Hp}{ks:List Value}{i:Nat}{b:Addr}{r:ρ}(K:KeyG KA rows H1 ks i)(x:Ext [] H1 [] H2)(hr:rows[i]?=some r)(hb:KA H2 b r):KeyG KA rows H2 (ks++[.ref b]) (i+1):=by
 refine⟨by simp[K.len],fun j k hj=>?_⟩;by_cases h:j<ks.length;rw[getElem?_append_left h]at hj;obtain⟨c,q,h1,h2,h3⟩:=K.at_ j k hj;exact⟨c,q,h1,h2,Sk.upK x.kp h3⟩;rw[getElem?_append_right (by omega)]at hj;have:j=ks.length:=by have:=(List.getElem?_eq_some_iff.mp hj).1;simp at this;omega
 subst this;simp at hj;exact⟨b,r,by rw[K.len];exact hr,hj.symm,hb⟩
structure KJG(KA:Hp->Addr->ρ->Prop)(X:Cx)(pins:List (Addr×Obj))(σ:L2.St)(H:Hp)(D kS:Addr)(e1:Nat)(rows:List ρ)(i:Nat)(s':Shared):Prop where
 ex:∃H' ks e,Inv X pins σ H' s'/\Ext [] H [] H'/\H' D=none/\H' kS=none/\zfa s' D [] e1/\zfa s' kS ks e/\KeyG KA rows H' ks i
theorem zjW(Sk:SortK X pins σ A' H f RA KA κ lt){e1 i:Nat}{a:Addr}{r:ρ}(oD:Own X pins D)(oK:Own X pins kS)(ne:D≠kS)(ha:RA H a r)(hri:rows[i]?=some r)(hi:i<64){s':Shared}(J:KJG KA X pins σ H D kS e1 rows i s'){items:Array Value} :
  wpAny (model X.prog X.w) A' (do
   match <-(call (.ref f) [.ref a]).attempt with
   |.ok k=>Builtin.List.listUpdate (.ref kS) (·.push k);pure (ForInStep.yield PUnit.unit)| .error e=>
    rule "list.sort.key-raised"
    let made <-Builtin.List.listItems (.ref kS)
    Builtin.List.listUpdate (.ref kS) fun _=>#[]
    letGo made.toList.reverse [e]
    Builtin.List.listUpdate (.ref D) fun _=>items;throw e) (fun q s''=>q=.yield ⟨⟩/\KJG KA X pins σ H D kS e1 rows (i+1) s'') (fun _ _=>False) s':=by
 obtain⟨H1,ks,e,I,x,d1,k1,lD,lK,kl⟩:=J.ex;refine wpAny_bind (wpAny_attempt (wpAny_mono (Sk.call I x (Sk.upR x.kp ha)) ?_ fun _ _ z=>z.elim));rintro y s2 ⟨b,H2,rfl,I2,hb2,x2,un⟩;have D2:=un.keep D _ lD d1 (oD.stk I) (by simp);have K2:=un.keep kS _ lK k1 (oK.stk I) (by simp);have hz:ks.length=i:=kl.len;show wpAny _ _ (Builtin.List.listUpdate (.ref kS) (·.push (.ref b))>>=fun _=>pure (ForInStep.yield PUnit.unit)) _ _ s2;refine wpAny_bind (listUpdate_at K2 rfl (wpAny_pure ⟨rfl,?_⟩) (by rw[size_toArray,sizeLine_eq];omega) (by rw[Array.size_push,size_toArray,sizeLine_eq];omega));obtain⟨e',l'⟩:=zdP (us:=ks++[.ref b]) K2 (·.push (.ref b)) (by simp);refine⟨H2,ks++[.ref b],e',?_,x.trans x2,un.free D _ lD d1 (by simp),un.free kS _ lK k1 (by simp),zbB ne D2,l',kl.snoc Sk x2 hri hb2⟩;exact zaQ I2 (ch:=[kS]) (fun b hb=>by rw[mem_singleton.mp hb];exact oK) (fun b hb=>by rw[mem_singleton.mp hb];exact un.free kS _ lK k1 (by simp)) (fun b o hb q=>zbB (by simpa using hb) q) I2.bare
theorem zmZ{st:SortSt}{out:List Value}{e1 i:Nat}{P:PySem.Fin->Shared->Prop}{E:Value->Shared->Prop}(hout:(arrOf st).map (·.2)=out.toArray)(hz:out.length<64)(hi:i<64)(hf:failedOf st=none)(oD:Own X pins D)(oK:Own X pins kS)(ne:D≠kS)
  (J:KJG KA X pins σ H D kS e1 rows i s) (h:∀s',KEnd X pins σ H D out s'->P (.done (.ret .none)) s'):wpAny (model X.prog X.w) A' (ksk_tail D false e1 (.ref kS) st) P E s:=by
 obtain⟨H1,ks,e,I,x,d1,k1,lD,lK,kl⟩:=J.ex;have hk:ks.length<64:=by rw[kl.len];exact hi
 have I1:=zaQ (h':=s.heap.update kS (Obj.mapSeq fun _=>#[])) (g':=s.gens) (t':=s.toks) (d':=s.drawn) (ch:=[kS]) I (fun b hb=>by rw[mem_singleton.mp hb];exact oK) (fun b hb=>by rw[mem_singleton.mp hb];exact k1) (fun b o hb q=>zbB (by simpa using hb) q) I.bare;have lD1:zfa {s with heap:=s.heap.update kS (Obj.mapSeq fun _=>#[])} D [] e1:=zbB ne lD;obtain⟨e',lD2⟩:=zdP (us:=out) lD1 (fun _=>out.toArray) rfl;have I2:=zaQ (h':=(s.heap.update kS (Obj.mapSeq fun _=>#[])).update D (Obj.mapSeq fun _=>out.toArray)) (g':=s.gens) (t':=s.toks) (d':=s.drawn) (ch:=[D]) I1 (fun b hb=>by rw[mem_singleton.mp hb];exact oD) (fun b hb=>by rw[mem_singleton.mp hb];exact d1) (fun b o hb q=>zbB (by simpa using hb) q) I.bare;unfold ksk_tail;rw[hout,hf];refine wpAny_bind (listUpdate_at lK rfl (wpAny_bind (wpAny_letGo (wpAny_bind (seqEpoch_at lD1 rfl (wpAny_bind (listUpdate_at lD1 rfl ?_ (by simp) (by simp only[Bool.false_eq_true,if_false,size_toArray,sizeLine_eq];omega))))))) (by rw[size_toArray,sizeLine_eq];omega) (by simp));simp only[bne_self_eq_false,Bool.false_eq_true,if_false];exact wpAny_pure (h _ ⟨H1,e',I2,x,d1,lD2⟩)
structure PlcG(lt:ρ->ρ->Prop)(rows:List ρ)(p:List Nat):Prop where
 lt':∀i∈p,i<rows.length
 asc:(p.map fun i=>rows.getD i default).Pairwise lt
 perm:p.Perm (List.range rows.length)
theorem endG(Sk:SortK X pins σ A' H f RA KA κ lt){vs:List Value}{e1:Nat}{P:PySem.Fin->Shared->Prop}{E:Value->Shared->Prop}(hl:vs.length=rows.length)(h64:rows.length<64)(nd:rows.Nodup)(oD:Own X pins D)(oK:Own X pins kS)(ne:D≠kS)
  (J:KJG KA X pins σ H D kS e1 rows rows.length s) (h:∀p s',PlcG lt rows p->KEnd X pins σ H D (p.map fun i=>vs.getD i Value.none) s'->P (.done (.ret .none)) s') :
  wpAny (model X.prog X.w) A' (Builtin.List.listItems (.ref kS)>>=fun keys=>ksk_end D false vs.toArray e1 (.ref kS) keys) P E s:=by
 obtain⟨H1,ks,e,I,x,d1,k1,lD,lK,kl⟩:=id J.ex;refine wpAny_bind (listItems_at lK rfl ?_);unfold ksk_end;simp only[Bool.false_eq_true,if_false];have klen:ks.length=vs.length:=by rw[kl.len,hl]
 by_cases h2:vs.toArray.size<2;rw[if_pos h2,if_pos h2];have h2':rows.length<2:=by rw[<-hl];simpa using h2
 refine wpAny_bind (wpAny_pure (wpAny_bind ?_));rw[StateT.run_pure];have eo:(arrOf (SortSt.mk' general' (ks.toArray.zip vs.toArray) #[] 7 none)).map (·.2)=vs.toArray:=by show((ks.toArray.zip vs.toArray).map (·.2))=vs.toArray;apply Array.toList_inj.mp;rw[Array.toList_map,ksk_zip];show(ks.zip vs).map Prod.snd=vs;exact List.map_snd_zip (by omega)
 have er:((List.range rows.length).map fun i=>vs.getD i Value.none)=vs:=by apply List.ext_getElem;simp[hl];intro i g1 g2;simp[g2]
 refine wpAny_pure (zmZ (i:=rows.length) eo (by omega) h64 rfl oD oK ne J fun s' K=>h (List.range rows.length) s' ⟨fun i hi=>mem_range.mp hi,?_,List.Perm.refl _⟩ (by rw[er];exact K));rw[pairwise_map,List.pairwise_iff_getElem];intro i j hi hj hij;simp at hi hj;omega;have h2':2<=vs.length:=by simpa using h2
 rw[if_neg h2,if_neg h2];have hk:∀k∈ks,∃b r,k=Value.ref b/\KA H1 b r:=fun k hm=>by obtain⟨j,hj⟩:=mem_iff_getElem?.mp hm;obtain⟨b,r,_,q1,q2⟩:=kl.at_ j k hj;exact⟨b,_,q1,q2⟩
 refine wpAny_bind (Sk.kind I hk (by omega) ?_);refine wpAny_bind (wpAny_mono (PySem.W.kat_run (Q:=fun st' s'=>∃p:Array Nat,GP rows.length p/\AscTo (fun i=>rkG lt rows (rows.getD i default)) p rows.length/\s'=s/\arrOf st'=p.map (PySem.W.kas_item (ks.toArray.zip vs.toArray))/\failedOf st'=none)
  (G:=fun p s'=>GP rows.length p/\AscTo (fun i=>rkG lt rows (rows.getD i default)) p rows.length/\s'=s) klen h2' (by omega) (fun p st' s' _ a2 a3 a4=>⟨p,a4.1,a4.2.1,a4.2.2,a2,a3⟩) ?_) ?_ fun _ _ z=>z)
 rw[hl];refine zlb (r:=fun i=>rkG lt rows (rows.getD i default)) (fun i j hi hj e=>?_) (fun i j C hi hj hC=>?_) (by omega) fun p g a=>⟨g,a,rfl⟩;have:=zlx Sk.ord (mem_of_getElem? (getD_mem default hi)) (mem_of_getElem? (getD_mem default hj)) e;have q1:=getD_mem (default:ρ) hi;have q2:=getD_mem (default:ρ) hj;rw[this,<-q2]at q1;exact(List.getElem?_inj hi nd).mp q1
 . obtain⟨b,r,b1,b2,b3⟩:=kl.at_ i _ (getD_mem Value.none (by omega));obtain⟨c,r',c1,c2,c3⟩:=kl.at_ j _ (getD_mem Value.none (by omega));have er:rows.getD i default=r:=by rw[List.getD_eq_getElem?_getD,b1];rfl
   have er':rows.getD j default=r':=by rw[List.getD_eq_getElem?_getD,c1];rfl
   show wpAny (model X.prog X.w) A' (keyLt' κ (ks.getD i Value.none) (ks.getD j Value.none)) C (fun _ _=>False) s;rw[b2,c2];refine Sk.less I b3 c3 ?_;have:decide (lt r r')=decide (rkG lt rows r<rkG lt rows r'):=by apply Bool.eq_iff_iff.mpr;rw[decide_eq_true_eq,decide_eq_true_eq];exact zhn Sk.ord (mem_of_getElem? b1) (mem_of_getElem? c1)
   rw[this]
   (try dsimp only at hC)
   rw[er,er']at hC;exact hC
 rintro⟨⟨⟩,st'⟩ s' ⟨p,g,a,rfl,ar,fl⟩;refine zmZ (i:=rows.length) (PySem.W.kat_snds klen ar) ?_ h64 fl oD oK ne J fun s' K=>h p.toList s' ⟨fun i hi=>mem_range.mp (g.list.mem_iff.mp hi),?_,g.list⟩ K;rw[length_map,length_toList,g.size];exact h64;rw[pairwise_map,List.pairwise_iff_getElem];intro i j hi hj hij;rw[length_toList,g.size]at hi hj;have hi':i<p.size:=by rw[g.size];exact hi
 have hj':j<p.size:=by rw[g.size];exact hj
 have m1:rows.getD p.toList[i] default∈rows:=mem_of_getElem? (getD_mem default (by have:=g.lt hi;rw[zaZ p hi']at this;exact this));have m2:rows.getD p.toList[j] default∈rows:=mem_of_getElem? (getD_mem default (by have:=g.lt hj;rw[zaZ p hj']at this;exact this));have:=a i j hij hj;unfold kAt at this;rw[zaZ p hi',zaZ p hj']at this;exact(zhn Sk.ord m1 m2).mpr this
theorem zpr{as:List Addr}{e1:Nat}{P:PySem.Fin->Shared->Prop}{E:Value->Shared->Prop}(Sk:SortK X pins σ A' H f RA KA κ lt)
  (hl:as.length=rows.length) (h64:rows.length<64) (nd:rows.Nodup) (oD:Own X pins D) (oK:Own X pins kS) (ne:D≠kS) (ha:∀(j:Nat)(a:Addr),as[j]?=some a->∃r:ρ,rows[j]?=some r/\RA H a r)
  (J:KJG KA X pins σ H D kS e1 rows 0 s) (h:∀p s',PlcG lt rows p->KEnd X pins σ H D (p.map fun i=>(as.map Value.ref).getD i Value.none) s'->P (.done (.ret .none)) s') :
  wpAny (model X.prog X.w) A' (ksk_rest D (.ref f) false (as.map Value.ref).toArray e1 (.ref kS)) P E s:=by
 unfold ksk_rest;refine wpAny_bind (wpAny_rule ?_);rw[List.forIn_toArray];refine wpAny_bind (ksk_fold (fun i s'=>KJG KA X pins σ H D kS e1 rows i s') (as.map Value.ref) 0 s J (fun j v s' hj J'=>?_) fun s' J'=>?_);rw[getElem?_map]at hj;cases ej:as[j]? with
 |none=>rw[ej]at hj;cases hj
 |some a=>rw[ej]at hj;cases hj;obtain⟨r,hr1,hr2⟩:=ha j a ej;have hlt:=(List.getElem?_eq_some_iff.mp hr1).1;rw[zero_add]at J'⊢;exact wpAny_mono (zjW Sk oD oK ne hr2 hr1 (by omega) J' (items:=(as.map Value.ref).toArray)) (fun _ _ z=>z) fun _ _ z=>z.elim
 rw[zero_add,length_map,hl]at J';exact endG Sk (vs:=as.map Value.ref) (by simpa using hl) h64 nd oD oK ne J' h
theorem zo8{as:List Addr}{n0:Nat}{P:PySem.Fin->Shared->Prop}{E:Value->Shared->Prop}(I:Inv X pins σ H s)(Sk:SortK X pins σ A' H f RA KA κ lt)
  (hl:as.length=rows.length) (h64:rows.length<64) (nd:rows.Nodup) (oD:Own X pins D) (d0:H D=none) (lD:zfa s D (as.map Value.ref) n0) (ha:∀(j:Nat)(a:Addr),as[j]?=some a->∃r:ρ,rows[j]?=some r/\RA H a r)
  (h:∀p s',PlcG lt rows p->KEnd X pins σ H D (p.map fun i=>(as.map Value.ref).getD i Value.none) s'->P (.done (.ret .none)) s'):wpAny (model X.prog X.w) A' (ksk_tree D (.ref f) false) P E s:=by
 obtain⟨e1,l1⟩:=zdP (us:=[]) lD (fun _=>#[]) rfl;have hD:D<s.heap.objs.size:=Heap.lt_size lD;have I1:=zaQ (h':=s.heap.update D (Obj.mapSeq fun _=>#[])) (g':=s.gens) (t':=s.toks) (d':=s.drawn) (ch:=[D]) I (fun b hb=>by rw[mem_singleton.mp hb];exact oD) (fun b hb=>by rw[mem_singleton.mp hb];exact d0) (fun b o hb q=>zbB (by simpa using hb) q) I.bare;have kp:∀(o1 o2:Obj) b o,(s.heap.update D (Obj.mapSeq fun _=>#[])).get? b=some o->(((s.heap.update D (Obj.mapSeq fun _=>#[])).push o1).push o2).get? b=some o:=fun o1 o2 b o q=>Heap.get?_push_of_some _ (Heap.get?_push_of_some _ q);have sz:∀o1:Obj,((s.heap.update D (Obj.mapSeq fun _=>#[])).push o1).objs.size=s.heap.objs.size+1:=fun o1=>by rw[size_push',Heap.size_update]
 have hlen:(as.map Value.ref).length<64:=by rw[length_map,hl];exact h64
 unfold ksk_tree;refine wpAny_bind (listItems_at lD rfl (wpAny_bind (listUpdate_at lD rfl (wpAny_bind (seqEpoch_at l1 rfl (wpAny_bind (wpAny_newTuple (wpAny_bind (wpAny_newList (wpAny_holding ?_) (zero_le _))) (by rw[sizeLine_eq];show(as.map Value.ref).length<=_;omega))))) (by rw[size_toArray,sizeLine_eq];omega) (zero_le _))));have I2:=zaQ (h':=((s.heap.update D (Obj.mapSeq fun _=>#[])).push (seqObj "tuple" (as.map Value.ref).toArray 0)).push (seqObj "list" #[] 0)) (g':=s.gens) (t':=s.toks) (d':=s.drawn) (ch:=[]) I1 (fun b hb=>by cases hb) (fun b hb=>by cases hb) (fun b o _ q=>kp _ _ b o q) I.bare;have oK:Own X pins ((s.heap.update D (Obj.mapSeq fun _=>#[])).push (seqObj "tuple" (as.map Value.ref).toArray 0)).objs.size:=by rw[sz];exact Own.fresh I (le_succ _)
 refine zpr (kS:=((s.heap.update D (Obj.mapSeq fun _=>#[])).push (seqObj "tuple" (as.map Value.ref).toArray 0)).objs.size) Sk hl h64 nd oD oK (by rw[sz];exact ne_of_lt (Nat.lt_succ_of_lt hD)) ha ?_ h;exact⟨H,[],0,I2,Ext.refl _ _,d0,I.hok.fresh (by rw[sz];exact le_succ _),kp _ _ _ _ l1,Heap.get?_push_size _ rfl,rfl,fun j k hj=>by simp at hj⟩
end
end R
namespace R
open PySem PySem.Spec PyProof.Rows L2
section
variable{prog:Program}{w:World}{A:Around}{E:Value->Shared->Prop}{s:Shared}
def IsPr(prog:Program)(w:World)(h:Heap)(k:K3)(a:Addr):Prop:=k.1=0/\∃o u b n,h.get? a=some o/\o.cls=.type "tuple"/\o.data=.seq #[.ref b,.int k.2.2 u] n/\IsTupleKey (zao prog w) h (k.2.1.map Sum.inl) b
theorem zpx{x y:K3}{a b:Addr}{Q:Bool->Shared->Prop}(hu:A.units<cLine)(hx:IsPr prog w s.heap x a)(hy:IsPr prog w s.heap y b)(q:Q (decide (Lt3 x y)) s) :
  wpAny (model prog w) A (keyLt' (tuples' false) (.ref a) (.ref b)) Q E s:=by
 obtain⟨zx,oa,u1,b1,na,hoa,_,hda,hia⟩:=hx;obtain⟨zy,ob,u2,b2,nb,hob,_,hdb,hib⟩:=hy;obtain⟨x1,x2,x3⟩:=x;obtain⟨y1,y2,y3⟩:=y;dsimp only at hda hdb hia hib zx zy;subst zx zy;refine PySem.W.kat_lt hoa hda hob hdb (kat_cons (wpAny_eqBool_tuple hu hia hib ?_));by_cases d2:x2=y2;rw[show decide ((x2.map Sum.inl:List Key)=y2.map Sum.inl)=true from decide_eq_true (by rw[d2])];refine PySem.W.kat_yes (kat_cons (wpAny_eqBool_int ?_));by_cases d3:x3=y3;rw[show(x3==y3)=true by simp[d3]];refine PySem.W.kat_yes (PySem.W.kat_nil ?_);rw[decide_eq_false (by subst d2 d3;exact zbE _)]at q;exact q;rw[show(x3==y3)=false by simp[d3]];refine kat_no (kat_one _ _ (wpAny_lt_int ?_));have:decide (Lt3 (0,x2,x3) (0,y2,y3))=decide (x3<y3):=by apply Bool.eq_iff_iff.mpr;rw[decide_eq_true_eq,decide_eq_true_eq];subst d2;unfold Lt3;dsimp only;rw[zbF];simp
 rw[this]at q;exact q;rw[show decide ((x2.map Sum.inl:List Key)=y2.map Sum.inl)=false from decide_eq_false (fun z=>d2 (zd4 z))];obtain⟨i1,p1,p2⟩:=zdD hia;obtain⟨i2,p3,p4⟩:=zdD hib;refine kat_no (kat_one _ _ (HT.lt_tupInts p1 p3 p2 p4 hu ?_));have:decide (Lt3 (0,x2,x3) (0,y2,y3))=HT.lexLt x2 y2:=by rw[<-zft];apply Bool.eq_iff_iff.mpr;rw[decide_eq_true_eq];unfold Lt3;dsimp only;simp[d2]
 rw[this]at q;exact q
theorem zhz{h:Heap}:∀{vs:List Value},(∀v∈vs,∃c k,v=Value.ref c/\IsPr prog w h k c)->∃fs:List Value,KatTups h vs fs/\fs.length=vs.length/\∀v∈fs,∃(b:Addr) (ks:List Key),v=Value.ref b/\IsTupleKey (zao prog w) h ks b
 | [],_=>⟨[],KatTups.nil,rfl,fun v h=>by cases h⟩| v::vs,hk=>by obtain⟨c,k,rfl,z,o,u,b,n,g1,g2,g3,g4⟩:=hk v (by simp);obtain⟨fs,h1,h2,h3⟩:=zhz (vs:=vs) fun x hx=>hk x (by simp[hx]);refine⟨.ref b::fs,KatTups.cons g1 g2 g3 rfl h1,by simp[h2],fun v hv=>?_⟩;rcases mem_cons.mp hv with rfl|hv;exact⟨b,_,rfl,g4⟩;exact h3 v hv
theorem zlO{vs:List Value}{Q:SortKind->Shared->Prop}(hk:∀v∈vs,∃c k,v=Value.ref c/\IsPr prog w s.heap k c)(h1:1<=vs.length)(q:Q (tuples' false) s):wpAny (model prog w) A (keyKind' vs.toArray) Q E s:=by obtain⟨fs,t1,t2,t3⟩:=zhz hk;refine PySem.W.kat_kind (T:=.type "tuple") t1 (by omega) (fun v hv=>?_) rfl q;obtain⟨b,ks,rfl,o,items,n,ho,hc,hd,hi⟩:=t3 v hv;have:Looks (model prog w) s.heap (typeOf (.ref b)) o.cls:=(Looks.ld ho).andThen .now;rw[hc]at this;exact this
end
def Key2(H:Hp)(c:Addr)(k:K3):Prop:=k.1=0/\∃b,H c=some (.tup [.ref b,.int k.2.2])/\H b=some (.tup (k.2.1.map V.int))
def Let2(H:Hp)(a:Addr)(k:K3):Prop:=k.1=0/\∃t b w,H a=some (.tup [t,.ref b,.int k.2.2,w])/\H b=some (.tup (k.2.1.map V.int))
theorem zfv{P:Program}{w:World}{H:Hp}{h:Heap}{c:Addr}{k:K3}(ok:HOk P w H h)(e:Key2 H c k):IsPr P w h k c:=by obtain⟨z,b,e1,e2⟩:=e;obtain⟨_,its,rv,o,ho,hc,n,hd⟩:=(show ObjOk P w H h c (.tup _) from ok c _ e1);cases rv with| @cons _ v1 _ r1 q1 rv=>cases rv with| @cons _ v2 _ r2 q2 rv=>cases rv;cases(show v1=Value.ref b from q1);obtain⟨u,rfl⟩:=q2;refine⟨z,o,u,b,n,ho,hc,hd,?_⟩;have:=zeL (ks:=k.2.1.map Sum.inl) ok (a:=b) (by rw[map_map];exact e2);exact this
variable[Mks]
structure KeyBody(body:Expr):Prop where
 ex:∃p1 p2 p3 p4 p5 j1 j2,body=.Subscript (.Name "letter" p1) (.Slice (some (.Constant (.int 1) j1 p2)) (some (.Constant (.int 3) j2 p3)) none p4) p5
section
variable{X:Cx}{pins:List (Addr×Obj)}{σ:L2.St}{H:Hp}{s:Shared}{A':Around}{f:Addr}{name qual:Str}{params:Arguments}{body:Expr}{scope:Scope}
theorem zjQ{a:Addr}{k:K3}(I:Inv X pins σ H s)(hr:Room 2 A')(e0:Env0 X.prog X.w X.K X.mg X.base A' X.stack s H)(L:LamAt H f name qual params body scope)(hs:FnScope ["letter"] ["letter"] scope)
  (hb:∀(pm cd ct u:Value),bindArgs (kla_fn name qual params body scope [] pm cd ct) ⟨[u],[]⟩=pure [(("letter":Str),u)]) (kb:KeyBody body) (ha:Let2 H a k) :
  wpAny (model X.prog X.w) A' (call (.ref f) [.ref a]) (fun y s'=>∃b H',y=.ref b/\Inv X pins σ H' s'/\Key2 H' b k/\Ext [] H [] H'/\Un (frs X.stack) [] H H' s.heap s'.heap) (fun _ _=>False) s:=by
 obtain⟨pm,ct,c',oc,vs,t,h1,h2,h3,h4⟩:=L.ex;have of:=(I.hok f _ h1).1;have oo:=(I.hok c' _ h2).1;obtain⟨p1,p2,p3,p4,p5,j1,j2,rfl⟩:=kb.ex;obtain⟨z,tt,b0,ww,e1,e2⟩:=ha;refine wpAny_call (codeAny_mono (zmg (CX:=CX0) (E:=fun _ _ _=>False) (Q:=fun w H'=>∃b,w=V.ref b/\Key2 H' b k/\Ext [] H [] H') (vs:=[V.ref a]) (us:=[.ref a]) hs hr e0 of ⟨c',oc,vs,t,rfl,oo,h3,h4⟩
  (.of_eq (hb pm _ ct _)) (.cons (show L2.RelV (.ref a) (.ref a) from rfl) .nil) rfl (fun hr'=>zfV zkm (zkx (i:=0) (x:="letter") rfl ((hs.par "letter" (by simp)).elim .inl fun q=>.inr (.inl q))) (zfn zhG) (zfn zhG)) ?_) fun r s' q=>?_)
 refine⟨.ref a,rfl,1,rfl,3,rfl,a,[tt,.ref b0,.int k.2.2,ww],rfl,.inl (Rd.of e1),(fun z=>absurd (show(1:Nat)=0 from z.1) (by decide)),fun p hp=>⟨p,rfl,⟨z,b0,zag,?_⟩,ziu hp⟩⟩;rw[zaf (zaj e2 hp)];exact e2;cases r with
 |error e=>exact q.elim| ok fl=>
  cases fl with
  |ret y=>
   obtain⟨w,H',os,bare,un,hok,rv,b,rfl,hb',x⟩:=q;cases y with
   |ref z=>
    have:z=b:=by simpa[L2.RelV]using rv
    exact⟨b,H',by rw[this],I.call' os un hok bare (fun b z=>absurd z (by simp)),hb',x,un⟩
   |_=>simp[L2.RelV]at rv
  |_=>exact q.elim
theorem ord3:Ord Lt3:=⟨zbE,fun h k=>zcG h k,fun h=>zeH h⟩
theorem znb(hr:Room 2 A')(e0:∀H s,Inv X pins σ H s->Env0 X.prog X.w X.K X.mg X.base A' X.stack s H)(L:LamAt H f name qual params body scope)(hs:FnScope ["letter"] ["letter"] scope)
  (hb:∀(pm cd ct u:Value),bindArgs (kla_fn name qual params body scope [] pm cd ct) ⟨[u],[]⟩=pure [(("letter":Str),u)]) (kb:KeyBody body):SortK X pins σ A' H f Let2 Key2 (tuples' false) Lt3 where
 upR:=fun k ⟨z,t,b,w,h1,h2⟩=>⟨z,t,b,w,k.tups _ _ h1,k.tups _ _ h2⟩
 upK:=fun k ⟨z,b,h1,h2⟩=>⟨z,b,k.tups _ _ h1,k.tups _ _ h2⟩
 call:=fun I x ha=>zjQ I hr (e0 _ _ I) (L.up x.kp) hs hb kb ha
 kind:=fun I hk h1 q=>zlO (fun v hv=>let ⟨b,r,e,k⟩:=hk v hv;⟨b,r,e,zfv I.hok k⟩) h1 q
 less:=fun I h1 h2 q=>zpx (by have:=hr.un;omega) (zfv I.hok h1) (zfv I.hok h2) q
 ord:=ord3
end
section
variable{X:Cx}{pins:List (Addr×Obj)}{σ:L2.St}{H:Hp}{s:Shared}{f a:Addr}{as:List Addr}{ks:List K3}{name qual:Str}{params:Arguments}{body:Expr}{scope:Scope}
structure Srd(X:Cx)(pins:List (Addr×Obj))(σ:L2.St)(H:Hp)(as:List Addr)(ks:List K3)(D:Addr)(s':Shared):Prop where
 ex:∃(H':Hp) (p:List Nat),Inv X pins σ H' s'/\Ext [] H [] H'/\H D=none/\PlcG Lt3 ks p/\H' D=some (.lst ((p.map fun i=>as.getD i 0).map V.ref))
theorem zdc:∀{l:List Addr}{m:List Value},Vals (l.map V.ref) m->m=l.map Value.ref
 | [],_,h=>by cases h;rfl| x::l,_,h=>by cases h with|cons h1 h2=>rw[map_cons,<-zdc h2,show _=Value.ref x from h1]
theorem zcp:∀l:List Addr,Vals (l.map V.ref) (l.map Value.ref)
 | []=>.nil|_::l=>.cons rfl (zcp l)
theorem zgB{Q:Value->Shared->Prop}{E:Value->Shared->Prop}(I:Inv X pins σ H s)(hh:X.A.handled=none)(hr:Room 2 X.A.in1.in1)(L:LamAt H f name qual params body scope)(hs:FnScope ["letter"] ["letter"] scope)
  (hb:∀(pm cd ct u:Value),bindArgs (kla_fn name qual params body scope [] pm cd ct) ⟨[u],[]⟩=pure [(("letter":Str),u)]) (kb:KeyBody body)
  (hq:SqL X.K H a (as.map V.ref)) (hl:as.length=ks.length) (h64:ks.length<64) (nd:ks.Nodup) (ha:∀(j:Nat)(b:Addr),as[j]?=some b->∃k,ks[j]?=some k/\Let2 H b k) (q:∀D s',Srd X pins σ H as ks D s'->Q (.ref D) s') :
  wpAny (model X.prog X.w) X.A (call (.builtin "sorted") [.ref a] [(Str.ofString "key",.ref f)]) Q E s:=by
 obtain⟨its,rv,pl,hz⟩:=I.list hq;have ei:=zdc rv;subst ei;refine call_function_entry_kw kind_sorted plain_sorted entry_sorted (ksk_s1 _ _) ?_;unfold Builtin.«sorted»;refine wpAny_bind (m:=checkCount "sorted" 1 1 _) (wpAny_pure (wpAny_bind ?_));refine collect_list pl.isList ?_ (by rw[length_map,sizeLine_eq];omega);have kp:∀b o,s.heap.get? b=some o->((s.heap.push (seqObj "list" #[] 0)).update s.heap.objs.size (Obj.mapSeq (·++(as.map Value.ref).toArray))).get? b=some o:=fun b o e=>(Heap.get?_update_other _ _ (ne_of_gt (Heap.lt_size e))).trans (Heap.get?_push_of_some _ e);have hle:s.heap.objs.size<=((s.heap.push (seqObj "list" #[] 0)).update s.heap.objs.size (Obj.mapSeq (·++(as.map Value.ref).toArray))).objs.size:=by rw[Heap.size_update,Heap.size_push];exact le_succ _
 generalize(s.heap.push (seqObj "list" #[] 0)).update s.heap.objs.size (Obj.mapSeq (·++(as.map Value.ref).toArray))=h1 at *;refine wpAny_bind (wpAny_newList ?_ (by rw[length_map,sizeLine_eq];omega));have I1:Inv X pins σ H {s with heap:=h1}:=zaQ (g':=s.gens) (t':=s.toks) (d':=s.drawn) (ch:=[]) I (fun b hb=>by cases hb) (fun b hb=>by cases hb) (fun b o _ e=>kp b o e) I.bare;have I3:Inv X pins σ H {s with heap:=h1.push (seqObj "list" (as.map Value.ref).toArray 0)}:=zaQ (s:={s with heap:=h1}) (g':=s.gens) (t':=s.toks) (d':=s.drawn) (ch:=[]) I1 (fun b hb=>by cases hb) (fun b hb=>by cases hb) (fun b o _ e=>Heap.get?_push_of_some _ e) I.bare;have lD:zfa {s with heap:=h1.push (seqObj "list" (as.map Value.ref).toArray 0)} h1.objs.size (as.map Value.ref) 0:=Heap.get?_push_size _ rfl;have oD:Own X pins h1.objs.size:=Own.fresh I1 (le_refl _);have dN:H h1.objs.size=none:=I1.hok.fresh (le_refl _);refine wpAny_bind (wpAny_holding (wpAny_call_entry_kw slot_list_sort ⟨_,lD,rfl⟩ entry_list_sort ?_ (ksk_l1 _ _)));refine zo8 (D:=h1.objs.size) (as:=as) (rows:=ks) I3 (znb hr (fun H s J=>J.env0.in1.in1) L hs hb kb) hl h64 nd oD dN lD ha fun p s' pl ke=>⟨_,rfl,?_⟩;refine wpAny_pure ⟨_,rfl,q _ s' ?_⟩;obtain⟨H2,e,J,x2,dN2,lst⟩:=ke.ex;have eo:(p.map fun i=>(as.map Value.ref).getD i Value.none)=(p.map fun i=>as.getD i 0).map Value.ref:=by
  rw[map_map];refine List.map_congr_left fun i hi=>?_;have:=pl.lt' i hi;have gi:i<as.length:=by omega
  simp[gi]
 rw[eo]at lst;have plen:p.length=ks.length:=by rw[pl.perm.length_eq];simp
 exact⟨upd H2 h1.objs.size (.lst ((p.map fun i=>as.getD i 0).map V.ref)),p,zeO J oD dN2 ⟨by simp[plen,sizeLine_eq];omega,_,e,zcp _,lst⟩,x2.trans (ziu dN2),dN,pl,zag⟩
end
def SrtK(K:Frag)(Q:VK)(w:V)(H1:Hp):Prop:=∃(a:Addr) (as:List Addr) (ks:List K3),w=.ref a/\SqL K H1 a (as.map V.ref)/\as.length=ks.length/\ks.length<64/\ks.Nodup/\(∀(j:Nat)(b:Addr),as[j]?=some b->∃k,ks[j]?=some k/\Let2 H1 b k)/\TB H1/\
 ∀(D:Addr)(H2:Hp)(p:List Nat),Ext [] H1 [] H2->H1 D=none->PlcG Lt3 ks p->H2 D=some (.lst ((p.map fun i=>as.getD i 0).map V.ref))->Q (.ref D) H2
section
variable{X:Cx}{o:Expr}{p kpos lpos pos:Pos}{td:TE}{c P:Addr}{params:Arguments}{body:Expr}{scope:Scope}
theorem Let2.up{H H':Hp}{b:Addr}{k:K3}(kp:Kp H H')(h:Let2 H b k):Let2 H' b k:=let ⟨z,t,b,w,h1,h2⟩:=h;⟨z,t,b,w,kp.tups _ _ h1,kp.tups _ _ h2⟩
theorem SqL.up0{K:Frag}{H H':Hp}{a:Addr}{xs:List V}(x:Ext [] H [] H')(h:SqL K H a xs):SqL K H' a xs:=by rcases h with (h|⟨o,h⟩)|h;rcases(x.rest a _ (by simp) h).1 with z|⟨⟨_,z⟩,_⟩;exact .inl (.inl z);cases z;rcases(x.rest a _ (by simp) h).1 with z|⟨⟨_,z⟩,_⟩;exact .inl (.inr ⟨o,z⟩);cases z;exact .inr h
theorem zlU(ho:PE X o td)(hst:zak o=true)(hg:Gl X "sorted")(hm:X.mg "sorted"=none)(hu:Room 2 X.A.in1.in1)(mk:Maker X c P)(hdef:defaultsOf params X.env=([],[]))(hcl:closureFor scope X.env=pure [])(hs:FnScope ["letter"] ["letter"] scope)
  (hb:∀(pm cd ct u:Value),bindArgs (kla_fn "<lambda>" (X.env.qual ++ "<lambda>") params body scope [] pm cd ct) ⟨[u],[]⟩=pure [(("letter":Str),u)]) (kb:KeyBody body) :
  PE X (.Call (.Name "sorted" p) [o] [⟨some "key",.Lambda params body scope lpos,kpos⟩] pos) (fun σ H Q=>td σ H (SrtK X.K Q)):=by
 intro pins s σ H Q I h;refine wpAny_Call_Name_kw (zcK I hg hm (by rfl:bootBuiltins "sorted"=some (.builtin "sorted")) ?_ (by decide) (by decide));have ha:PA X [o] (zhh td tNil):=zcj ho zfY (zai hst _ _);have hk:PK X [⟨some "key",.Lambda params body scope lpos,kpos⟩] (zhh (tLam (X.env.qual ++ "<lambda>") params body scope) tNil):=zlS (znT mk hdef hcl) znL;refine PyProof.Rows.callWith_builtin_kwB (by rw[zai hst];rfl) rfl (PyProof.Rows.evalArgs_kw2 rfl (thn (ha pos pins s σ H (oneK (SrtK X.K Q)) I h) fun us s1 ⟨vs,H1,I1,r1,k1⟩=>?_) (zai hst _ _));obtain⟨w,rfl,a,as,ks,ew,hq,hl,h64,nd,hla,tb,q1⟩:=zfZ k1;subst ew;obtain⟨u,rfl,ru⟩:=Vals.one r1;obtain rfl:u=Value.ref a:=ru;refine thn (hk pos pins s1 σ H1 (oneK fun w2 H2=>∃f,w2=.ref f/\LamAt H2 f "<lambda>" (X.env.qual ++ "<lambda>") params body scope/\Ext [] H1 [] H2) I1 ⟨tb,fun f H2 L S=>⟨f,rfl,L,S⟩⟩) fun ws s2 ⟨zs,H2,I2,r2,k2⟩=>?_;obtain⟨w2,rfl,f,ef,L,st⟩:=zfZ k2;subst ef;obtain⟨u2,rfl,ru2⟩:=Vals.one r2;obtain rfl:u2=Value.ref f:=ru2;refine zgB I2 hu.hd hu L hs hb kb (SqL.up0 st hq) hl h64 nd (fun j b e=>let ⟨k,e1,e2⟩:=hla j b e;⟨k,e1,e2.up st.kp⟩) fun D s3 tl=>?_;obtain⟨H3,p,I3,x3,dn,pl,dl⟩:=tl.ex;refine⟨.ref D,H3,I3,rfl,q1 D H3 p (st.trans x3) ?_ pl dl⟩;cases e:H1 D with|none=>rfl| some o=>exfalso;have:=(st.rest D o (by simp) e).1;rw[dn]at this;rcases this with z|⟨_,_,z⟩<;>cases z
end
noncomputable def lamB:Expr->Bool
 |.Lambda ⟨[],[⟨a,none,_⟩],none,[],[],none,[]⟩ (.Subscript (.Name x _) (.Slice (some (.Constant (.int i) _ _)) (some (.Constant (.int j) _ _)) none _) _) scope _=>decide (a="letter")&&(decide (x="letter")&&(decide (i=1)&&(decide (j=3)&&(decide (scope.names=[(("letter":Str),NameKind.local)])&&(decide (scope.kind=.function)&&(!scope.isCoroutine&&!scope.isGenerator))))))|_=>false
structure LamE(params:Arguments)(body:Expr)(scope:Scope):Prop where
 df:∀env,defaultsOf params env=([],[])
 cl:∀env,closureFor scope env=pure []
 sc:FnScope ["letter"] ["letter"] scope
 bd:∀(q:Str)(pm cd ct u:Value),bindArgs (kla_fn "<lambda>" q params body scope [] pm cd ct) ⟨[u],[]⟩=pure [(("letter":Str),u)]
 kb:KeyBody body
theorem zjU{e:Expr}(h:lamB e=true):∃params body scope lpos,e=.Lambda params body scope lpos/\LamE params body scope:=by unfold lamB at h;split at h;rename_i a p1 x p2 i j1 p3 j j2 p4 p5 p6 scope p7;simp only[and_eq_true,decide_eq_true_eq,not_eq_true']at h;obtain⟨rfl,rfl,rfl,rfl,hn,hk,hc,hg⟩:=h;refine⟨_,_,scope,_,rfl,⟨fun env=>rfl,fun env=>?_,⟨hk,hc,hg,by decide,rfl,fun x hx=>?_,fun y hy=>?_⟩,fun q pm cd ct u=>rfl,⟨_,_,_,_,_,_,_,rfl⟩⟩⟩;unfold closureFor;rw[hn];rfl;rw[mem_singleton.mp hx,hn];exact .inl (by decide);rw[hn]at hy;rw[mem_singleton.mp hy];decide;cases h
section
variable{K:Frag}{ι:List Addr}{H H2:Hp}{S:R.St}
theorem zeQ:∀{ds:List D}{xs:List V}{p:List Int},RVs K ι H ds xs->zaL ds=some p->xs=p.map V.int
 | [],xs,p,r,e=>by cases(show xs=[] from r);simp[zaL]at e;subst e;rfl| d::ds,xs,p,r,e=>by
  obtain⟨v,vs,rfl,r1,r2⟩:=r;unfold zaL at e;rw[mapM_cons]at e;cases d with
  |int i=>
   cases e2:ds.mapM zcn with
   |none=>rw[e2]at e;cases e
   |some q=>rw[e2]at e;cases e;rw[zeQ r2 (show zaL ds=some q from e2),show v=.int i from r1];rfl
  |_=>cases e
theorem zoh{d:D}{v:V}{k:K3}(r:RV K ι H d v)(e:zd0 d=some k):∃a,v=.ref a/\Let2 H a k:=by
 unfold zd0 at e;split at e;rename_i t ds b w;cases e2:zaL ds with
 |none=>rw[e2]at e;cases e
 |some p=>rw[e2]at e;cases e;obtain⟨a,xs,rfl,hx,v1,w1,rfl,r1,v2,w2,rfl,r2,v3,w3,rfl,r3,v4,w4,rfl,r4,rn⟩:=r;cases(show w4=[] from rn);obtain⟨c,ys,rfl,hy,ry⟩:=r2;cases(show v3=.int b from r3);exact⟨a,rfl,rfl,_,c,_,hx,by rw[hy,zeQ ry e2]⟩
 cases e
theorem zhR:∀{ds:List D}{xs:List V}{ks:List K3},RVs K ι H ds xs->ds.mapM zd0=some ks->∃as:List Addr,xs=as.map V.ref/\as.length=ks.length/\ds.length=ks.length/\∀(j:Nat)(b:Addr),as[j]?=some b->∃k,ks[j]?=some k/\Let2 H b k
 | [],xs,ks,r,e=>by cases(show xs=[] from r);simp at e;subst e;exact⟨[],rfl,rfl,rfl,fun j b h=>by simp at h⟩| d::ds,xs,ks,r,e=>by
  obtain⟨v,vs,rfl,r1,r2⟩:=r;rw[mapM_cons]at e;cases e1:zd0 d with
  |none=>rw[e1]at e;cases e
  |some k=>
   cases e2:ds.mapM zd0 with
   |none=>rw[e1,e2]at e;cases e
   |some q=>rw[e1,e2]at e;cases e;obtain⟨as,rfl,h1,h2,h3⟩:=zhR r2 e2;obtain⟨a,rfl,hl⟩:=zoh r1 e1;refine⟨a::as,rfl,by simp[h1],by simp[h2],fun j b hb=>?_⟩;cases j with|zero=>cases hb;exact⟨k,rfl,hl⟩|succ j=>exact h3 j b (by simpa using hb)
theorem zfD:∀{ks:List K3}{ds:List D}{i:Nat}{k:K3}{d:D},ks.Nodup->ks[i]?=some k->ds[i]?=some d->(ks.zip ds).lookup k=some d
 | [],ds,i,k,d,nd,h1,h2=>by simp at h1|a::ks,[],i,k,d,nd,h1,h2=>by simp at h2| a::ks,b::ds,0,k,d,nd,h1,h2=>by cases h1;cases h2;rw[List.zip_cons_cons,lookup_cons,beq_self_eq_true]| a::ks,b::ds,i+1,k,d,nd,h1,h2=>by
  have hk:k∈ks:=mem_of_getElem? (by simpa using h1);rw[nodup_cons]at nd;have:(k==a)=false:=by rw[beq_eq_false_iff_ne];intro z;exact nd.1 (z▸hk)
  rw[List.zip_cons_cons,lookup_cons,this];exact zfD nd.2 (by simpa using h1) (by simpa using h2)
theorem zlQ{ks:List K3}{ds:List D}{p:List Nat}(nd:ks.Nodup)(hl:ds.length=ks.length)(P:PlcG Lt3 ks p):srtD ds ks=p.map fun i=>ds.getD i .non:=by
 have e:(p.map fun i=>ks.getD i default)=zfg ks:=zcA ((zhE default P.perm).trans (zaT ks).symm) P.asc (zbp nd);unfold srtD;rw[<-e,map_map];refine List.map_congr_left fun i hi=>?_;have h:=P.lt' i hi;have h':i<ds.length:=by omega
 show((ks.zip ds).lookup (ks.getD i default)).getD .non=_;rw[zfD nd (getD_mem default h) (getD_mem D.non h')];rfl
theorem RVs.at_:∀{ds:List D}{vs:List V}{i:Nat}{d:D}{v:V},RVs K ι H ds vs->ds[i]?=some d->vs[i]?=some v->RV K ι H d v
 |d::ds,_,0,_,_,⟨v,vs,rfl,r1,r2⟩,h1,h2=>by cases h1;cases h2;exact r1|d::ds,_,i+1,_,_,⟨v,vs,rfl,r1,r2⟩,h1,h2=>RVs.at_ r2 (by simpa using h1) (by simpa using h2)
end
theorem RVs.ofGet{K:Frag}{ι:List Addr}{H:Hp}:∀{ds:List D}{vs:List V},ds.length=vs.length->(∀(i:Nat) d v,ds[i]?=some d->vs[i]?=some v->RV K ι H d v)->RVs K ι H ds vs
 | [],[],_,_=>rfl| [],_::_,h,_=>by simp at h|_::_,[],h,_=>by simp at h|d::ds,v::vs,h,f=>⟨v,vs,rfl,f 0 d v rfl rfl,RVs.ofGet (by simpa using h) fun i a b h1 h2=>f (i+1) a b (by simpa using h1) (by simpa using h2)⟩
theorem RH.add{K:Frag}{ι:List Addr}{H H':Hp}{S:R.St}{p:Addr}{o:MO}(h:RH K ι H S)(x:Ext ι H (ι++[p]) H')(e:∀a∈ι,H' a=H a)(hp:p∉ι)(ho:RO K (ι++[p]) H' p o):RH K (ι++[p]) H' (S.push o):=by
 refine⟨by rw[length_append,h.len,zbC];rfl,?_,fun l o' q=>?_,x.kp.tab h.tab⟩;rw[nodup_append];refine⟨h.nd,by simp,fun a ha b hb=>?_⟩;simp at hb;subst hb;exact fun z=>hp (z▸ha);by_cases hl:l<S.len;rw[zbV hl]at q;obtain⟨a,h1,h2,hm⟩:=h.mem q;exact⟨a,zbs (prefix_append _ _) h1,h2.stay x (e a hm)⟩;have hl2:=zam q;rw[zbC]at hl2;have:l=S.len:=by omega
 subst this;rw[zd5]at q;cases q;exact⟨p,by rw[<-h.len];simp,ho⟩
section
variable{T:Tab}{cf:CF}{k:Nat}{N:List Str}{sc:Scope}{X:Cx}{pos p kpos:Pos}
theorem zli(G:Gd T cf k N sc X){ca:CE}{e le:Expr}(hN:N=T.lam)(hg:Gl X "sorted"/\X.mg "sorted"=none)(he:PE X e (tE X.K cf ca))(hst:zak e=true)(hlam:lamB le=true) :
  PE X (.Call (.Name "sorted" p) [e] [⟨some "key",le,kpos⟩] pos) (tE X.K cf (.srtK ca)):=by
 obtain⟨params,body,scope,lpos,rfl,L⟩:=zjU hlam;obtain⟨hk,c,mk⟩:=G.lam hN;have room:Room 2 X.A.in1.in1:=((G.room'.mono (Nat.succ_le_succ hk)).in1).in1;refine PE.imp (zlU he hst hg.1 hg.2 room mk (L.df _) (L.cl _) L.sc (L.bd _) L.kb) fun σ H Qv ⟨δ,ι,S,Q,hs,hh,w,q⟩=>?_;simp only[evE,zaa]at w;refine tE.run hs hh w fun d v ι1 H1 S1 x1 hs1 hh1 r1 w1=>?_;obtain⟨⟨ds,ks⟩,eq,w2⟩:=zay w1;cases d with
 |ref l=>
  simp only[zdk]at eq;cases eg:S1.get l with
  |none=>rw[eg]at eq;cases eq
  |some o=>
   rw[eg]at eq;cases o with
   |lst ds'=>
    dsimp only at eq;cases em:ds'.mapM zd0 with
    |none=>rw[em]at eq;cases eq
    |some ks'=>
     rw[em]at eq;cases eq;obtain⟨b,i1,rfl⟩:=r1;obtain⟨b',i2,xs,hx,rs⟩:=hh1.obj l _ eg;rw[i1]at i2;cases i2;obtain⟨as,rfl,l1,l2,la⟩:=zhR rs em;dsimp only at w2;split at w2;rename_i c2;unfold lay at w2;split at w2;rename_i hz;refine⟨b,as,ks,rfl,SqL.of hx,l1,c2.1,c2.2,la,hh1.tab,fun D0 H2 p x hD P h2=>?_⟩;have hDi:D0∉ι1:=hh1.fresh hD;have ex:Ext ι1 H1 (ι1++[D0]) H2:=⟨prefix_append _ _,x.kp,fun a o h e=>⟨(x.rest a o (by simp) e).1,fun z=>by rcases mem_append.mp z with z|z;exact h z;simp at z;exact zaj e hD z⟩⟩;refine q _ _ ⟨.ref S1.len,ι1++[D0],S1.push (.lst (srtD ds ks)),x1.trans ex,⟨D0,hh1.last D0,rfl⟩,hh1.add ex (fun a hm=>?_) hDi ⟨_,h2,?_⟩,w2⟩;obtain⟨o,e,_,_,nt⟩:=hh1.live hm;rw[e];exact x.keep (by simp) e nt;rw[zlQ c2.2 l2 P];refine RVs.ofGet (by simp) fun i d w e1 e2=>?_;rw[getElem?_map]at e1;rw[getElem?_map,getElem?_map]at e2;cases ei:p[i]? with
     |none=>rw[ei]at e1;cases e1
     |some j=>rw[ei]at e1 e2;cases e1;cases e2;have hj:=P.lt' j (mem_of_getElem? ei);have:=RVs.at_ rs (getD_mem D.non (show j<ds.length by omega)) (by rw[getElem?_map,getD_mem 0 (show j<as.length by omega)];rfl);exact(this.ext ex)
     exact w2.elim;exact w2.elim
   |_=>cases eq
 |_=>cases eq
end
end R
namespace R
open PySem PySem.Spec PyProof.Rows L2
section
variable{X:Cx}{o e f:Expr}{apos cpos:Pos}{td ty tv:TE}
def zm1(td ty tv:TE):TE:=fun σ H Q=>td σ H fun x H1=>∃a,x=.ref a/\IsD H1 a/\ty σ H1 fun y H2=>tv σ H2 fun v H3=>∃ws k,H3 a=some (.dK ws)/\y=.int k/\(∀u,valV ws (.inl k)=some u->Q u H3)/\(valV ws (.inl k)=none->ws.length<sizeLine/\Q v (upd H3 a (.dK (putK ws (.inl k) v))))
theorem zjE(ho:PE X o td)(he:PE X e ty)(hf:PE X f tv)(m:M2 X o "setdefault" apos e f cpos):PE X (.Call (.Attribute o "setdefault" apos) [e,f] [] cpos) (zm1 td ty tv):=by
 intro pins s σ H Q I h;refine wpAny_Call_method m.base m.few m.line PySem.F.plainAttrs_dict PySem.F.slot_dict_setdefault PySem.F.type_dict_setdefault (thn (ho pins s σ H _ I h) fun u s1=>ex5 fun x H1 I1 rx ⟨a,ex,d,q1⟩=>?_);subst ex;obtain rfl:u=Value.ref a:=rx;obtain⟨t1,t2,_⟩:=zkE I1 d;refine⟨t1,t2,?_⟩;rw[m.trees];refine Calls.callWith_builtin rfl (Calls.evalArgs_plain (Calls.spliced_cons (thn (he pins s1 σ H1 _ I1 q1) fun iv s2=>ex5 fun y H2 I2 ry q2=>Calls.spliced_cons (thn (hf pins s2 σ H2 _ I2 q2) fun fv s3=>ex5 fun v H3 I3 rv ⟨ws,k,ea,ey,q3,q4⟩=>Calls.spliced_nil ?_))));subst ey;obtain⟨z,hd,vs,rel,dd⟩:=zoD I3.hok ea;have hz:vs.length<=sizeLine:=by rw[<-rel.length];exact z
 refine PySem.call_meetsIn PySem.F.slot_dict_setdefault dd.typeIs PySem.F.entry_dict_setdefault (PySem.F.args_dict_setdefault_3 _ _ _) (PySem.kt_meets_setdefault (zao X.prog X.w) a (zjY (k:=.inl k) ry) hd fv) ⟨vs,dd,hz,fun w hw=>?_,fun hn h' dd' hs=>?_⟩;have r:=rel.val (.inl k);rw[hw]at r;cases l:valV ws (.inl k) with|none=>rw[l]at r;exact r.elim|some u=>rw[l]at r;exact⟨u,H3,I3.tok _,r,q3 u l⟩
 have r:=rel.val (.inl k);rw[hn]at r;cases l:valV ws (.inl k) with
 |some u=>rw[l]at r;exact r.elim| none=>
  obtain⟨hl,q5⟩:=q4 l;have hl2:(putK ws (.inl k) v).length<=sizeLine:=by have:=zbU ws (.inl k) v;omega
  have he:∃q,h'.get? a=some q:=let ⟨q,_,_,hq,_⟩:=dd';⟨q,hq⟩;exact⟨v,upd H3 a (.dK (putK ws (.inl k) v)),zd9 (t':=s3.toks+1) I3 (by rw[ea];exact True.intro) hs he (zkK hl2 hd (rel.put (.inl k) rv) dd'),rv,q5⟩
end
variable[Mks]
theorem RIs.val{K:Frag}(k:Int):∀{kvs:List (Int×D)}{ws:List (Key×V)},RIs K ι H kvs ws->(valI kvs k=none/\valV ws (.inl k)=none)\/∃d v,valI kvs k=some d/\valV ws (.inl k)=some v/\RV K ι H d v
 | [],ws,r=>by cases r;exact .inl ⟨rfl,rfl⟩| (j,d)::kvs,ws,r=>by
  obtain⟨v,w,rfl,r1,r2⟩:=r;by_cases e:j=k;subst e;exact .inr ⟨d,v,by simp[valI],by simp[valV],r1⟩;have e1:valI ((j,d)::kvs) k=valI kvs k:=by simp[valI,e]
  have e2:valV (((Sum.inl j:Key),v)::w) (.inl k)=valV w (.inl k):=by simp[valV,e]
  rw[e1,e2];exact RIs.val k r2
section
variable{T:Tab}{cf:CF}{k:Nat}{N:List Str}{sc:Scope}{X:Cx}{pos p p2 pos':Pos}
theorem zib(hh:RH X.K ι H S)(r:RV X.K ι H d v)(h:isDi S d=true):∃a,v=.ref a/\IsD H a:=by
 cases d with
 |ref l=>
  obtain⟨p,h1,rfl⟩:=r;simp[isDi]at h;cases e:S.get l with
  |none=>rw[e]at h;cases h
  |some o=>rw[e]at h;obtain⟨b,h2,h3⟩:=hh.obj _ _ e;rw[h1]at h2;cases h2;cases o with|dic kvs=>obtain⟨_,ws,ha,_⟩:=h3;exact⟨p,rfl,.inl ⟨ws,.inl ha⟩⟩|_=>cases h
 |_=>cases h
theorem zeZ(hh:RH X.K ι H S)(rx:RV X.K ι H x vx)(ry:RV X.K ι H y vy)(h:zeb S x y=some o) :
  ∃l a kvs ws kk,x=.ref l/\ι[l]?=some a/\S.get l=some (.dic kvs)/\vx=.ref a/\y=.int kk/\(kvs.map (·.1)).Nodup/\H a=some (.dK ws)/\RIs X.K ι H kvs ws/\vy=.int kk/\o=valI kvs kk:=by
 unfold zeb at h;cases x with
 |ref l=>
  obtain⟨p,h1,rfl⟩:=rx;dsimp only at h;cases e:S.get l with
  |none=>rw[e]at h;cases h
  |some ob=>
   rw[e]at h;obtain⟨b,h2,h3⟩:=hh.obj _ _ e;rw[h1]at h2;cases h2;cases ob with
   |dic kvs=>obtain⟨nd,ws,ha,rk⟩:=h3;cases y with| int kk=>cases h;obtain rfl:vy=.int kk:=ry;exact⟨l,p,kvs,ws,kk,rfl,h1,e,rfl,rfl,nd,ha,rk,rfl,rfl⟩|_=>cases h
   |_=>cases h
 |_=>cases h
theorem zjd(G:Gd T cf k N sc X)(ho:PE X o (tE X.K cf co))(he:PE X e (tE X.K cf ce))(hx:PE X x (tE X.K cf cx))(hst:zak e=true)(hst2:zak x=true)(hsup:zaP o=true)(hl:(apos.endLine==cpos.line)=true) :
  PE X (.Call (.Attribute o "get" apos) [e,x] [] cpos) (tE X.K cf (.dgetI co ce cx)):=by
 refine PE.imp (zjH (by have:=G.hu;omega) ho he hx ⟨zbY hsup "get" X.env _,by rw[zai hst,zai hst2];rfl,hl,by rw[zai hst,zai hst2];rfl⟩) fun σ H Qv=>ex8 fun δ ι S Q hs hh w q=>?_;simp[evE,zaa]at w;refine tE.run hs hh w fun d v ι1 H1 S1 x1 hs1 hh1 r1 w1=>?_;split at w1;rename_i c;obtain⟨a,rfl,hD⟩:=zib hh1 r1 c;refine⟨a,rfl,hD,?_⟩;rw[zaa]at w1;refine tE.run hs1 hh1 w1 fun y vy ι2 H2 S2 x2 hs2 hh2 r2 w2=>?_;rw[zaa]at w2;refine tE.run hs2 hh2 w2 fun z vz ι3 H3 S3 x3 hs3 hh3 r3 w3=>?_;rw[zaa]at w3;obtain⟨o,eo,w4⟩:=zay w3;obtain⟨l,a',kvs,ws,kk,_,_,_,ea,_,nd,ha,rk,rfl,rfl⟩:=zeZ hh3 (r1.ext (x2.trans x3)) (r2.ext x3) eo;cases ea;refine⟨_,DGet.k (k:=.inl kk) ha,?_⟩;have up:=(x1.trans x2).trans x3;rcases rk.val kk with⟨e1,e2⟩|⟨d',v',e1,e2,rv⟩;rw[e1]at w4;rw[e2];exact q _ _ (Lf.up up (Lf.of hh3 r3 w4));rw[e1]at w4;rw[e2];exact q _ _ (Lf.up up (Lf.of hh3 rv w4));exact w1.elim
theorem zja(G:Gd T cf k N sc X)(ho:PE X o (tE X.K cf co))(he:PE X e (tE X.K cf ce))(hx:PE X x (tE X.K cf cx))(hst:zak e=true)(hst2:zak x=true)(hsup:zaP o=true)(hl:(apos.endLine==cpos.line)=true) :
  PE X (.Call (.Attribute o "setdefault" apos) [e,x] [] cpos) (tE X.K cf (.dsetI co ce cx)):=by
 refine PE.imp (zjE ho he hx ⟨zbY hsup "setdefault" X.env _,by rw[zai hst,zai hst2];rfl,hl,by rw[zai hst,zai hst2];rfl⟩) fun σ H Qv=>ex8 fun δ ι S Q hs hh w q=>?_;simp[evE,zaa]at w;refine tE.run hs hh w fun d v ι1 H1 S1 x1 hs1 hh1 r1 w1=>?_;split at w1;rename_i c;obtain⟨a,rfl,hD⟩:=zib hh1 r1 c;refine⟨a,rfl,hD,?_⟩;rw[zaa]at w1;refine tE.run hs1 hh1 w1 fun y vy ι2 H2 S2 x2 hs2 hh2 r2 w2=>?_;rw[zaa]at w2;refine tE.run hs2 hh2 w2 fun z vz ι3 H3 S3 x3 hs3 hh3 r3 w3=>?_;rw[zaa]at w3;obtain⟨r,er,w4⟩:=zay w3;have up:=(x1.trans x2).trans x3;unfold zc8 at er;cases eg:zeb S3 d y with
 |none=>rw[eg]at er;cases er
 |some og=>
  obtain⟨l,a',kvs,ws,kk,rfl,hi,hg,ea,rfl,nd,ha,rk,rfl,rfl⟩:=zeZ hh3 (r1.ext (x2.trans x3)) (r2.ext x3) eg;cases ea;rw[eg]at er;have hlen:∀T,dPut S3 (.ref l) (.int kk) z=some T->kvs.length<16777216/\S3.put l (.dic (putI kvs kk z))=some T:=fun T eT=>by unfold dPut at eT;dsimp only at eT;rw[hg]at eT;dsimp only at eT;split at eT;rename_i c;exact⟨c,eT⟩;cases eT
  rcases rk.val kk with⟨e1,e2⟩|⟨d',v',e1,e2,rv⟩;rw[e1]at er;cases ep:dPut S3 (.ref l) (.int kk) z with
  |none=>rw[ep]at er;cases er
  |some T'=>
   rw[ep]at er;cases er;obtain⟨c,es⟩:=hlen _ ep;have xw:=Ext.wr hh3 hg hi (.dK (putK ws (.inl kk) vz));have hz:ws.length<sizeLine:=by rw[rk.length,sizeLine_eq];exact c
   refine⟨ws,kk,ha,rfl,fun u hu=>absurd (e2.symm.trans hu) (fun z=>nomatch z),fun _=>⟨hz,?_⟩⟩;exact q _ _ ⟨z,ι3,T',up.trans xw,r3.ext xw,hh3.wr hg hi es ⟨zdh nd,_,zag,(rk.put kk r3 nd).up xw.pre xw.kp⟩,w4⟩
  rw[e1]at er;cases er;refine⟨ws,kk,ha,rfl,fun u hu=>?_,fun hn=>absurd (e2.symm.trans hn) (fun z=>nomatch z)⟩;rw[e2]at hu;cases hu;exact q _ _ (Lf.up up (Lf.of hh3 rv w4))
 exact w1.elim
end
section
variable{T:Tab}{cf:CF}{k:Nat}{N:List Str}{sc:Scope}{X:Cx}{pos p:Pos}
theorem zeR(h:zcu S d=some (c,fs)):∃l,d=.ref l/\S.get l=some (.ins c fs):=by
 cases d with
 |ref l=>
  refine⟨l,rfl,?_⟩;unfold zcu at h;dsimp only at h;cases e:S.get l with
  |none=>rw[e]at h;cases h
  |some o=>rw[e]at h;cases o with|ins c' fs'=>cases h;rfl|_=>cases h
 |_=>cases h
theorem ne_of{α:Type}[BEq α]{xs:List α}{a:α}(h:xs.contains a=true):xs≠[]:=fun e=>by rw[e]at h;simp at h
theorem Gd.clsAt(G:Gd T cf k N sc X)(h0:T.flds≠[]\/T.inits≠[]\/T.isas≠[]){c:Nat}(h:Mks.cl[c]?=some C):∃x,T.cls[c]?=some x/\Cls X.K C/\X.mg x=some (.ref C)/\∀f,T.flds.contains f=true->NoAttr X.K C f:=by have hl:c<T.cls.length:=lt_of_lt_of_le (List.getElem?_eq_some_iff.mp h).1 (G.tab.cln h0);obtain⟨C',h1,h2,h3,h4⟩:=G.tab.cls c T.cls[c] (getElem?_eq_getElem hl);rw[h]at h1;cases h1;exact⟨_,getElem?_eq_getElem hl,h2,h3,h4⟩
theorem znl(G:Gd T cf k N sc X)(ha:PE X a (tE X.K cf ca))(hsup:zaP a=true)(hf:T.flds.contains f=true):PE X (.Attribute a f pos) (tE X.K cf (.fld ca f)):=by
 refine PE.imp (znW ha (zbY hsup f X.env _)) fun σ H Qv=>ex8 fun δ ι S Q hs hh w q=>?_;simp[evE,zaa]at w;refine tE.run hs hh w fun d v ι1 H1 S1 x1 hs1 hh1 r1 w1=>?_;obtain⟨u,eu,w2⟩:=zay w1;cases ei:zcu S1 d with
 |none=>rw[ei]at eu;cases eu
 |some pr=>obtain⟨c,fs⟩:=pr;rw[ei]at eu;have eu:fs.lookup f=some u:=eu;obtain⟨l,rfl,hl⟩:=zeR ei;obtain⟨b,i1,rfl⟩:=r1;obtain⟨b',i2,C,dx,ws,hC,hb,rf⟩:=hh1.obj l _ hl;rw[i1]at i2;cases i2;obtain⟨_,_,cl,_,na⟩:=G.clsAt (.inl (ne_of hf)) hC;rcases rf.look f with⟨e1,_⟩|⟨d',v',e1,e2,rv⟩;rw[eu]at e1;cases e1;rw[eu]at e1;cases e1;exact⟨b,C,dx,ws,v',rfl,hb,cl,na f hf,e2,q _ _ (Lf.up x1 (Lf.of hh1 rv w2))⟩
theorem zdV
  (hbase:attributeBase o name env (eval o env)=eval o env)
  (hfew:((backTo pos (starEach args env)).all (fun x=>!x.1)&&(backToKw pos (keywordEach [] env)).all (fun x=>x.1.isSome)
   && decide (args.length+([]:List Keyword).length+(if([]:List Keyword).isEmpty then 0 else 1)<30))=true)
  (hline:(apos.endLine==pos.line)=true)
  (h:wpAny (model prog w) A (eval o env) (fun ov s₁=>∀pl,wpAny (model prog w) A (getMethod ov name pl) (fun fx s₂=>wpAny (model prog w) A (callWith pos fx.1 fx.2 (backTo pos (starEach args env)) (backToKw pos (keywordEach [] env))) Q E s₂) E s₁) E s) :
  wpAny (model prog w) A (eval (.Call (.Attribute o name apos) args [] pos) env) Q E s:=by
 rw[arm_eval_Call,hbase];refine wpAny_bind (wpAny_mono h (fun ov s₁ h₁=>?_) fun _ _ e=>e);refine wpAny_bind (wpAny_standAt ?_);have hform:methodCallForm (args.length+([]:List Keyword).length) (backTo pos (starEach args env)) (backToKw pos (keywordEach [] env))=true:=hfew;have hpos:methodCallPos true o env apos pos=pure pos:=by unfold methodCallPos;simp[hline]
 unfold methodCall;rw[hform];refine wpAny_bind (wpAny_holding (wpAny_mono (h₁ _) (fun fx s₂ h₂=>?_) fun _ _ e=>e));exact wpAny_bind (wpAny_of_eq hpos h₂)
def zhg(X:Cx)(k:Nat)(m:Str)(ta:TE)(t:TA):TE:=fun σ H Q=>ta σ H fun x H1=>∃(a C dx:Addr) (fs:List (Str×V)) (fa:Addr) (fd:FuncData) (ps:List Str) (sp:Sp),x=.ref a/\H1 a=some (.ins C dx fs)/\Cls X.K C/\Meth X.K C m fa/\
 FnOk X.prog X.w X.K X.mg X.base CX0 k fa fd ps sp/\Binds X.K fd ps []/\fs.lookup m=none/\t σ H1 fun vs H2=>sp (x::vs) H2 Q E0
theorem zjA(he:PE X o ta)(hr:Room k X.A)(ha:PA X (e::es) t)
  (hbase:attributeBase o m X.env (eval o X.env)=eval o X.env)
  (hfew:((backTo pos (starEach (e::es) X.env)).all (fun x=>!x.1)&&(backToKw pos (keywordEach [] X.env)).all (fun x=>x.1.isSome)
   && decide ((e::es).length+([]:List Keyword).length+(if([]:List Keyword).isEmpty then 0 else 1)<30))=true)
  (hline:(apos.endLine==pos.line)=true) (hst:starEach (e::es) X.env=(false,eval e X.env)::starEach es X.env) (hpl:(backTo pos (starEach es X.env)).any (·.1)=false) :
  PE X (.Call (.Attribute o m apos) (e::es) [] pos) (zhg X k m ta t):=by
 intro pins s σ H Q I h;refine zdV hbase hfew hline (thn (he pins s σ H _ I h) fun u s1 hx pl=>?_);obtain⟨x,H1,I1,rx,a,C,dx,fs,fa,fd,ps,sp,ex,ea,c,hm,F,hb,l,q⟩:=hx;subst ex;obtain rfl:u=Value.ref a:=rx;apply zdp I1 ea c hm l;refine callWith_K I.ok.mod.kin hm.kp (thn (ha pos pins s1 σ H1 _ I1 q) fun us s2=>ex5 fun vs H2 I2 r q2=>⟨I2.kIn,?_⟩) hst hpl;exact zes (vs:=.ref a::vs) F hr hb .nil zfq I2 (.cons rfl r) (by rw[append_nil];exact q2)
theorem zhF(he:PE X o ta)(hr:Room k X.A)(hbase:attributeBase o m X.env (eval o X.env)=eval o X.env)(hline:(apos.endLine==pos.line)=true) :
  PE X (.Call (.Attribute o m apos) [] [] pos) (zhg X k m ta tNil):=by
 intro pins s σ H Q I h;refine zdV hbase rfl hline (thn (he pins s σ H _ I h) fun u s1 hx pl=>?_);obtain⟨x,H1,I1,rx,a,C,dx,fs,fa,fd,ps,sp,ex,ea,c,hm,F,hb,l,q⟩:=hx;subst ex;obtain rfl:u=Value.ref a:=rx;apply zdp I1 ea c hm l;exact callWith_K0 I1.kIn hm.kp (zes (vs:=[.ref a]) F hr hb .nil zfq I1 (.cons rfl .nil) (by rw[append_nil];exact q))
noncomputable def mtB(T:Tab)(m:Str)(tb:List (Nat×Nat)):Bool:=tb.all fun p=>T.mts.contains (p.1,m,p.2)
theorem zgO{tb:List (Nat×Nat)}(h:tb.lookup c=some f):(c,f)∈tb:=by
 induction tb with
 |nil=>cases h
 |cons p r ih=>simp[List.lookup]at h;split at h;rename_i e;cases h;have:=eq_of_beq e;subst this;simp;exact mem_cons_of_mem _ (ih h)
theorem zf4(G:Gd T cf k N sc X)(hm:mtB T m tb=true)(ht:∀{σ:L2.St}{H:Hp}{Qa:List V->Hp->Prop},tAs X.K cf ces σ H Qa->t σ H Qa)(h:tE X.K cf (.meth m tb co ces) σ H Qv):zhg X k m (tE X.K cf co) t σ H Qv:=by
 obtain⟨δ,ι,S,Q,hs,hh,w,q⟩:=h;simp[evE,zaa]at w;refine tE.run hs hh w fun d v ι1 H1 S1 x1 hs1 hh1 r1 w1=>?_;obtain⟨pr,ei,w2⟩:=zay w1;obtain⟨c,fs⟩:=pr;obtain⟨f,ef,w3⟩:=zay w2;split at w3;rename_i hn;rw[zaa]at w3;obtain⟨l,rfl,hl⟩:=zeR ei;have r1':=r1;obtain⟨b,i1,rfl⟩:=r1;obtain⟨b',i2,C,dx,ws,hC,hb,rf⟩:=hh1.obj l _ hl;rw[i1]at i2;cases i2;have hmt:=all_eq_true.mp hm (c,f) (zgO ef);obtain⟨C',fa,fd,ps,hC',cl,me,F,bi⟩:=(G.tab.mth c m f hmt).ex;rw[hC]at hC';cases hC';have hlk:ws.lookup m=none:=by rcases rf.look m with⟨_,e2⟩|⟨d',v',e1,_,_⟩;exact e2;dsimp only at hn;rw[e1]at hn;cases hn
 refine⟨b,C,dx,ws,fa,fd,ps,_,rfl,hb,cl,me,F,bi,hlk,ht ?_⟩;refine tAs.run hs1 hh1 w3 fun ds vs ι2 H2 S2 x2 hs2 hh2 r2 w4=>?_;unfold appW at w4;refine⟨ι2,S2,.ref l::ds,⟨.ref b,vs,rfl,r1'.ext x2,r2⟩,hh2,?_⟩;obtain⟨d,T',e,w5⟩:=ze9 w4;rw[e];exact fun v H' ι' x r hT=>q v H' (Lf.up (x1.trans x2) ⟨d,ι',T',x,r,hT,w5⟩);exact w3.elim
theorem zlk(G:Gd T cf k N sc X)(hm:mtB T m tb=true)(ho:PE X o (tE X.K cf co))(ha:PA X (e::es) (tAs X.K cf ces))(hst:(e::es).all zak=true)(hsup:zaP o=true)(hl:(apos.endLine==pos.line)=true)(hn:(e::es).length<29) :
  PE X (.Call (.Attribute o m apos) (e::es) [] pos) (tE X.K cf (.meth m tb co ces)):=by
 have hs:=hst;rw[all_cons,and_eq_true]at hst;refine PE.imp (zjA ho G.room ha (zbY hsup m X.env _) ?_ hl (zai hst.1 es X.env) (zaH hst.2)) fun σ H Qv h=>zf4 G hm (fun z=>z) h;have h0:=zaH (pos:=pos) (env:=X.env) hs;have h1:(backTo pos (starEach (e::es) X.env)).all (fun x=>!x.1)=true:=by rw[all_eq_true];intro x hx;have:=List.any_eq_false.mp h0 x hx;simpa using this
 have h2:decide ((e::es).length+([]:List Keyword).length+(if([]:List Keyword).isEmpty then 0 else 1)<30)=true:=by rw[decide_eq_true_eq];show(e::es).length+0+0<30;omega
 rw[h1,h2];rfl
theorem zf3(hc:ces=.nil)(h:tAs X.K cf ces σ H Qa):tNil σ H Qa:=by subst hc;obtain⟨δ,ι,S,Q,hs,hh,w,q⟩:=h;exact q [] H ⟨[],ι,S,Ext.refl _ _,rfl,hh,by simpa[evEs]using w⟩
theorem zi9(G:Gd T cf k N sc X)(hm:mtB T m tb=true)(ho:PE X o (tE X.K cf co))(hsup:zaP o=true)(hl:(apos.endLine==pos.line)=true) :
  PE X (.Call (.Attribute o m apos) [] [] pos) (tE X.K cf (.meth m tb co .nil)):=
 PE.imp (zhF ho G.room (zbY hsup m X.env _) hl) fun σ H Qv h=>zf4 G hm (fun z=>zf3 rfl z) h
theorem Vals.nons:∀j:Nat,Vals (List.replicate j .non) (List.replicate j Value.none)
 |0=>.nil|j+1=>.cons rfl (Vals.nons j)
theorem zf5(G:Gd T cf k N sc X)(hC:Mks.cl[c]?=some C)(ht:∀{σ:L2.St}{H:Hp}{Qa:List V->Hp->Prop},tAs X.K cf ces σ H Qa->t σ H Qa)(h:tE X.K cf (.mk c f x j ces) σ H Qv):zk3 C (spF X.K cf f) (List.replicate j V.non) E0 t σ H Qv:=by
 obtain⟨δ,ι,S,Q,hs,hh,w,q⟩:=h;simp[evE,zaa]at w;refine ht (tAs.run hs hh w fun ds vs ι1 H1 S1 x1 hs1 hh1 r1 w1=>?_);intro y dy hy hdy hne;have hh2:=hh1.new hdy (.own y);have x2:Ext ι1 H1 ι1 (upd H1 dy (.own y)):=Ext.new hdy _;have hy2:(upd H1 dy (.own y)) y=none:=by rw[zaf (Ne.symm hne)];exact hy
 have hh3:=hh2.obj' hy2 (.ins C dy []) (.ins c []) ⟨C,dy,[],hC,zag,rfl⟩;have x3:Ext ι1 (upd H1 dy (.own y)) (ι1++[y]) (upd (upd H1 dy (.own y)) y (.ins C dy [])):=Ext.obj hh2 hy2 _;unfold appW at w1;obtain⟨d,T',e,w2⟩:=ze9 w1;refine⟨ι1++[y],S1.push (.ins c []),.ref S1.len::(ds++List.replicate j .non),⟨.ref y,_,rfl,⟨y,hh2.last y,rfl⟩,RVs.append ((r1.ext x2).ext x3) (RVs.nons j)⟩,hh3,?_⟩;rw[e];intro v H' ι' x' r hT;split at w2;rename_i hn;cases d with| non=>refine⟨r,q _ _ ⟨.ref S1.len,ι',T',((x1.trans x2).trans x3).trans x',⟨y,zbs x'.pre (hh2.last y),rfl⟩,hT,w2⟩⟩|_=>cases hn
 exact w2.elim
theorem zpl(G:Gd T cf k N sc X)(hi:T.inits.contains (c,f,j)=true)(hx:T.cls[c]?=some x)(hg:isGl sc x=true)(hd:(x==("__debug__":Str))=false)(ha:PA X (e::es) (tAs X.K cf ces))(hst:(e::es).all zak=true) :
  PE X (.Call (.Name x p) (e::es) [] pos) (tE X.K cf (.mk c f x j ces)):=by
 obtain⟨C,fa,fd,ps,hC,M,F,hb⟩:=(G.tab.ini c f j hi).ex;obtain⟨x',e1,_,hm,_⟩:=G.clsAt (.inr (.inl (ne_of hi))) hC;rw[hx]at e1;cases e1;rw[all_cons,and_eq_true]at hst;exact PE.imp (zlV M F G.room' (G.gl hg) hm hb (Vals.nons j) zfq ha hd (zai hst.1 es X.env) (zaH hst.2)) fun σ H Qv h=>zf5 G hC (fun z=>z) h
theorem znh(G:Gd T cf k N sc X)(hi:T.inits.contains (c,f,j)=true)(hx:T.cls[c]?=some x)(hg:isGl sc x=true)(hd:(x==("__debug__":Str))=false) :
  PE X (.Call (.Name x p) [] [] pos) (tE X.K cf (.mk c f x j .nil)):=by
 obtain⟨C,fa,fd,ps,hC,M,F,hb⟩:=(G.tab.ini c f j hi).ex;obtain⟨x',e1,_,hm,_⟩:=G.clsAt (.inr (.inl (ne_of hi))) hC;rw[hx]at e1;cases e1;exact PE.imp (zjB M F G.room' (G.gl hg) hm hb (Vals.nons j) zfq hd) fun σ H Qv h=>zf5 G hC (fun z=>zf3 rfl z) h
theorem zox(hs:(e::es).all zak=true)(hn:(e::es).length<29):((backTo pos (starEach (e::es) env)).all (fun x=>!x.1)&&(backToKw pos (keywordEach [] env)).all (fun x=>x.1.isSome)
  && decide ((e::es).length+([]:List Keyword).length+(if([]:List Keyword).isEmpty then 0 else 1)<30))=true:=by
 have h0:=zaH (pos:=pos) (env:=env) hs;have h1:(backTo pos (starEach (e::es) env)).all (fun x=>!x.1)=true:=by rw[all_eq_true];intro x hx;have:=List.any_eq_false.mp h0 x hx;simpa using this
 have h2:decide ((e::es).length+([]:List Keyword).length+(if([]:List Keyword).isEmpty then 0 else 1)<30)=true:=by rw[decide_eq_true_eq];show(e::es).length+0+0<30;omega
 rw[h1,h2];rfl
theorem zjI(Hs:HasC X.prog X.w X.K X.mg X.base k x m sp)(hr:Room k X.A)(ha:PA X (e::es) t)(hg:Gl X x)(hdb:(x==("__debug__":Str))=false)
  (hbase:attributeBase (.Name x p) m X.env (eval (.Name x p) X.env)=eval (.Name x p) X.env) (hst:(e::es).all zak=true) (hn:(e::es).length<29) (hline:(apos.endLine==pos.line)=true) :
  PE X (.Call (.Attribute (.Name x p) m apos) (e::es) [] pos) (zdE sp [] E0 t):=by
 obtain⟨C,fa,fd,ps,mc,hm,h1,h2,h3,h4,F,hb⟩:=Hs.ex;have hst2:=hst;rw[all_cons,and_eq_true]at hst2;intro pins s σ H Q I h;refine zdV hbase (zox hst hn) hline (thn (zhH (v:=.ref C) hg hm rfl hdb pins s σ H (fun v H1=>v=.ref C/\zdE sp [] E0 t σ H1 Q) I ⟨rfl,h⟩) fun u s1 ⟨xv,H1,I1,rx,ex,q⟩ pl=>?_);subst ex;obtain rfl:u=Value.ref C:=rx;refine PySem.W.method_cls I1.kIn h1 (PySem.W.cls_value I1.kIn h2 h3 rfl ?_);refine callWith_K I.ok.mod.kin h4 (thn (ha pos pins _ σ H1 _ (I1.tok _) q) fun us s2=>ex5 fun vs H2 I2 r q2=>⟨I2.kIn,?_⟩) (zai hst2.1 es X.env) (zaH hst2.2);exact zes F hr hb .nil zfq I2 r q2
theorem zg5(h:tE X.K cf (.callC f x m ces) σ H Qv):zdE (spF X.K cf f) [] E0 (tAs X.K cf ces) σ H Qv:=by obtain⟨δ,ι,S,Q,hs,hh,w,q⟩:=h;simp[evE,zaa]at w;refine tAs.run hs hh w fun ds vs ι1 H1 S1 x1 hs1 hh1 r1 w1=>?_;unfold appW at w1;rw[append_nil];refine⟨ι1,S1,ds,r1,hh1,?_⟩;obtain⟨d,T',e,w2⟩:=ze9 w1;rw[e];exact fun v H' ι' x r hT=>q v H' (Lf.up x1 ⟨d,ι',T',x,r,hT,w2⟩)
theorem zjf(G:Gd T cf k N sc X)(hc:T.cms.contains (x,m,f)=true)(hg:isGl sc x=true)(hd:(x==("__debug__":Str))=false)(hsup:zaP (.Name x p)=true)(ha:PA X (e::es) (tAs X.K cf ces))(hst:(e::es).all zak=true)(hn:(e::es).length<29)(hl:(apos.endLine==pos.line)=true) :
  PE X (.Call (.Attribute (.Name x p) m apos) (e::es) [] pos) (tE X.K cf (.callC f x m ces)):=
 PE.imp (zjI (G.tab.cmd x m f hc) G.room ha (G.gl hg) hd (zbY hsup m X.env _) hst hn hl) fun σ H Qv h=>zg5 h
end
def LfS(K:Frag)(ι:List Addr)(H:Hp)(Q:Fl->R.St->Prop)(E:Ends):Prop:=∀f ι' H' S',Ext ι H ι' H'->RH K ι' H' S'->Q f S'->(match f with|.nx δ'=>∀σ',RS K ι' H' δ' σ'->E.nx σ' H'|.rt d=>∀v,RV K ι' H' d v->E.rt v H')
def tS(K:Frag)(cf:CF)(cs:CS):TS:=fun E σ H=>∃δ ι S Q,RS K ι H δ σ/\RH K ι H S/\W (exS cf cs δ S) Q/\LfS K ι H Q E
theorem LfS.up{K:Frag}(h:LfS K ι H Q E)(x:Ext ι H ι1 H1):LfS K ι1 H1 Q E:=fun f ι' H' S' x' hh q=>h f ι' H' S' (x.trans x') hh q
theorem PSs.imp{st:List Stmt}(h:PSs X st t)(i:∀E σ H,t' E σ H->t E σ H):PSs X st t':=fun pins s σ H E I q=>h pins s σ H E I (i E σ H q)
section
variable{T:Tab}{cf:CF}{k:Nat}{N:List Str}{sc:Scope}{X:Cx}{pos p:Pos}{rest:List Stmt}
theorem zm8:PSs X [] (tS X.K cf .nil):=PSs.imp zlK fun E σ H=>ex8 fun δ ι S Q hs hh w l=>by exact l _ ι H S (Ext.refl _ _) hh w σ hs
theorem zna(G:Gd T cf k N sc X)(hi:N[i]?=some x)(hl:zeN sc x=true)(he:PE X e (tE X.K cf ce))(hc:za2 e=true)(hr:PSs X rest (tS X.K cf r)) :
  PSs X (.Assign [.Name x p] e pos::rest) (tS X.K cf (.asg i ce r)):=by
 refine PSs.imp (zaO (zkw (by rw[G.nm];exact G.nd) (by rw[G.nm];exact hi) (G.lc hl).1 he (zdF hc _ _ _) (G.lc hl).2) hr) fun E σ H=>ex8 fun δ ι S Q hs hh w l=>?_;simp[exS,zaa]at w;refine tE.run hs hh w fun d v ι1 H1 S1 x1 hs1 hh1 r1 w1=>?_;exact⟨δ.set i (some d),ι1,S1,Q,hs1.set r1 i,hh1,w1,l.up x1⟩
theorem zk9(G:Gd T cf k N sc X)(hi:N[i]?=some x)(hps:∃t,PS X (.Assign [.Name x p] e pos) (tAsg t (zim i))/\∀σ H Qv,tE X.K cf ce σ H Qv->t σ H Qv)(hr:PSs X rest (tS X.K cf r)) :
  PSs X (.Assign [.Name x p] e pos::rest) (tS X.K cf (.asg i ce r)):=by
 obtain⟨t,hp,ht⟩:=hps;refine PSs.imp (zaO hp hr) fun E σ H=>ex8 fun δ ι S Q hs hh w l=>?_;simp[exS,zaa]at w;refine ht _ _ _ (tE.run hs hh w fun d v ι1 H1 S1 x1 hs1 hh1 r1 w1=>?_);exact⟨δ.set i (some d),ι1,S1,Q,hs1.set r1 i,hh1,w1,l.up x1⟩
theorem zk6(he:PE X e (tE X.K cf ce))(hc:za2 e=true)(hr:PSs X rest (tS X.K cf r)):PSs X (.Expr e pos::rest) (tS X.K cf (.expr ce r)):=by refine PSs.imp (zaO (zlM he (zdF hc _ _ _)) hr) fun E σ H=>ex8 fun δ ι S Q hs hh w l=>?_;simp[exS,zaa]at w;refine tE.run hs hh w fun d v ι1 H1 S1 x1 hs1 hh1 r1 w1=>?_;exact⟨δ,ι1,S1,Q,hs1,hh1,w1,l.up x1⟩
theorem zm7(he:PE X e (tE X.K cf ce))(hr:PSs X rest (tS X.K cf r)):PSs X (.Return (some e) pos::rest) (tS X.K cf (.ret ce r)):=by refine PSs.imp (zaO (znH he) hr) fun E σ H=>ex8 fun δ ι S Q hs hh w l=>?_;simp[exS,zaa]at w;refine tE.run hs hh w fun d v ι1 H1 S1 x1 hs1 hh1 r1 w1=>?_;exact l _ _ _ _ x1 hh1 w1 v r1
theorem zpg(hc:PT X c (tT X.K cf cc))(ha:PSs X a (tS X.K cf ca))(hb:PSs X b (tS X.K cf cb))(hr:PSs X rest (tS X.K cf r)):PSs X (.If c a b pos::rest) (tS X.K cf (.ifS cc ca cb r)):=by
 refine PSs.imp (zaO (zpw hc ha hb) hr) fun E σ H=>ex8 fun δ ι S Q hs hh w l=>?_;simp[exS,zaa]at w;refine tT.run hs hh w fun z ι1 H1 S1 x1 hs1 hh1 w1=>?_;have fin:LfS X.K ι1 H1 (fun f S2=>W (match f with|.nx δ'=>exS cf r δ' S2|.rt d=>.ok (.rt d) S2) Q) {E with nx:=tS X.K cf r E}:=by intro f ι2 H2 S2 x2 hh2 q;cases f with|nx δ'=>exact fun σ' hs'=>⟨δ',ι2,S2,Q,hs',hh2,q,(l.up x1).up x2⟩|rt d=>exact fun v rv=>(l.up x1) _ _ _ _ x2 hh2 q v rv
 cases z with|true=>exact⟨δ,ι1,S1,_,hs1,hh1,w1,fin⟩|false=>exact⟨δ,ι1,S1,_,hs1,hh1,w1,fin⟩
def FInv(K:Frag)(cf:CF)(g:List Nat)(b:CS)(Qf:Fl->R.St->Prop)(ds:List D)(lks:List Nat)(ι1:List Addr)(H1:Hp)(S1:R.St)(i:Nat)(σ':L2.St)(H':Hp):Prop:=i<=ds.length/\∃δ' ι' S',RS K ι' H' δ' σ'/\Ltr K ι1 H1 S1 lks ι' H' S'/\S'.lk=lks++S1.lk/\S1.len<=S'.len/\W (zaw g (exS cf b) (ds.drop i) δ' S') fun f S2=>Qf f {S2 with lk:=S1.lk}
theorem zm9(G:Gd T cf k N sc X)(hi:PI X tg iter (tI X.K cf it))(hg:PG X tg (tG X.K is))(hb:PSs X body (tS X.K cf cb))(hset:zbM iter=true)(hr:PSs X rest (tS X.K cf r)) :
  PSs X (.For tg iter body [] pos::rest) (tS X.K cf (.forS is it cb r)):=by
 have hp:PassesOwn (model X.prog X.w) X.A X.env X.xe:=by rw[G.xe];exact PassesOwn.never
 refine PSs.imp (zaO (znI hp G.calm hi hg hb (zfx hset X.env)) hr) fun E σ H=>ex8 fun δ ι S Q hs hh w l=>?_;simp[exS,zaa]at w;refine⟨δ,ι,S,_,hs,hh,w,fun J H1 ⟨ds,lks,ι1,S1,x1,hh1,w1,wk⟩=>?_⟩;dsimp only at w1;unfold zbm at w1;rw[zaa]at w1;refine⟨fun i m σ' H'=>m=ds.length-i/\FInv X.K cf is cb (fun f S2=>W (match f with|.nx δ'=>exS cf r δ' S2|.rt d=>.ok (.rt d) S2) Q) ds lks ι1 H1 S1 i σ' H',⟨_,rfl,zero_le _,δ,ι1,{S1 with lk:=lks++S1.lk},hs.ext x1,⟨Ext.refl _ _,hh1.lk _,fun l _=>rfl⟩,rfl,le_refl _,w1⟩,?_⟩;rintro i m σ' H' ⟨rfl,hle,δ',ι',S',hs',lt,hlk,hln,wt⟩;have l1:=l.up (x1.trans lt.ext);rcases Nat.lt_or_eq_of_le hle with hlt|rfl;refine .inr ⟨wk.go i ι' H' S' lt hlt,FInv X.K cf is cb _ ds lks ι1 H1 S1 (i+1),fun σ2 H2 h=>⟨_,by omega,rfl,h⟩,fun x H2 hy=>?_⟩;obtain⟨x2,hh2,d,hd,rd⟩:=wk.yld i ι' H' S' x H2 lt hlt hy;rw[zeX hd]at wt;simp[zaw]at wt;cases ea:asgG is d δ' with|none=>rw[ea]at wt;exact wt.elim| some δ2=>rw[ea]at wt;rw[zaa]at wt;refine⟨δ',ι',d,δ2,hs'.ext x2,rd,ea,fun σ2 hs3=>⟨δ2,ι',S',_,hs3,hh2,zco G.tab.frm cb δ2 S' _ wt,?_⟩⟩;rintro f ι3 H3 S3 x3 hh3 ⟨w3,f3⟩;have k1:S3.lk=lks++S1.lk:=f3.lk.trans hlk;have k3:∀l∈lks,S3.get l=S1.get l:=fun l hl=>(f3.same l (by rw[hlk];exact mem_append_left _ hl) (lt_of_lt_of_le (wk.lks l hl) hln)).trans (lt.lck l hl);cases f with|nx δ3=>exact fun σ3 hs4=>⟨hlt,δ3,ι3,S3,hs4,⟨(lt.ext.trans x2).trans x3,hh3,k3⟩,k1,le_trans hln f3.lens,w3⟩|rt z=>exact fun v rv=>l1 _ _ _ _ (x2.trans x3) (hh3.lk _) w3 v rv
 refine .inl ⟨wk.stop _ ι' H' S' lt (le_refl _),?_⟩;rw[List.drop_length]at wt;exact⟨δ',ι',{S' with lk:=S1.lk},Q,hs',lt.rh.lk _,wt,l1⟩
def zp3(H:Hp)(a:Addr)(y v:V)(H':Hp):Prop:=DPut H a y v H'\/(∃(κ:Type) (_:DecidableEq κ) (dk:DK κ) (kxs:List (κ×Addr×V)) (k:κ) (c:Addr),H a=some (.ext (TriO dk a kxs))/\TriK dk H kxs/\y=.ref c/\dk.Key H k c/\kxs.length<sizeLine/\H'=upd H a (.ext (TriO dk a (put3 kxs k c v))))\/∃xs k j,H a=some (.lst xs)/\y=.int k/\L2.ixN xs.length k=some j/\H'=upd H a (.lst (xs.set j v))
def znv(td ty tv:TE):TS:=fun D σ H=>tv σ H fun v H1=>td σ H1 fun x H2=>ty σ H2 fun y H3=>∃a H4,x=.ref a/\zp3 H3 a y v H4/\D.nx σ H4
theorem zjw(hu:X.A.units+7<cLine)(ho:PE X o td)(hi:PE X i ty)(hv:PE X value tv)(hs:swapsWith value (some (.Subscript o i pos')) pos.line X.env=pure false) :
  PS X (.Assign [.Subscript o i pos'] value pos) (znv td ty tv):=by
 intro pins s σ H D I h;refine wpAny_Assign_Subscript (thn (hv pins s σ H _ I h) fun r s1=>ex5 fun v H1 I1 rv q1=>thn (ho pins s1 σ H1 _ I1 q1) fun u s2=>ex5 fun x H2 I2 rx q2=>thn (hi pins s2 σ H2 _ I2 q2) fun iv s3=>ex5 fun y H3 I3 ry ⟨a,H4,ex,g,q3⟩=>?_) hs;subst ex;obtain rfl:u=Value.ref a:=rx;rcases g with g|⟨κ,_,dk,kxs,k,c,e,tk,rfl,ek,hl,rfl⟩|⟨xs,k,j,e,ey,ej,rfl⟩;exact ziI (by omega) I3 g ry rv fun s4 I4=>⟨σ,H4,I4,q3⟩;obtain rfl:iv=Value.ref c:=ry;exact zgX hu I3 e tk ek hl rv fun s4 I4=>⟨σ,_,I4,q3⟩;exact wpAny_mono (zi6 pins s3 σ H3 (.ref a) y v (.ref a) iv r (fun H'=>D.nx σ H') I3 rfl ry rv ⟨a,xs,k,j,rfl,ey,e,ej,q3⟩) (fun _ s4 ⟨H',I4,q⟩=>⟨σ,H',I4,q⟩) fun _ _ z=>z
theorem zi3(G:Gd T cf k N sc X)(ha:PE X a (tE X.K cf ca))(hb:PE X b (tE X.K cf cb))(he:PE X e (tE X.K cf ce))(hc:za2 e=true)(hr:PSs X rest (tS X.K cf r)) :
  PSs X (.Assign [.Subscript a b p] e pos::rest) (tS X.K cf (.setIx ca cb ce r)):=by
 refine PSs.imp (zaO (zjw (by have:=G.hu;omega) ha hb he (zdF hc _ _ _)) hr) fun E σ H=>ex8 fun δ ι S Q hs hh w l=>?_;simp[exS,zaa]at w;refine tE.run hs hh w fun d v ι1 H1 S1 x1 hs1 hh1 r1 w1=>?_;refine tE.run hs1 hh1 w1 fun x vx ι2 H2 S2 x2 hs2 hh2 r2 w2=>?_;refine tE.run hs2 hh2 w2 fun y vy ι3 H3 S3 x3 hs3 hh3 r3 w3=>?_;cases ed:dPut S3 x y d with
 |none=>rw[ed]at w3;exact w3.elim| some S4=>
  rw[ed]at w3;unfold dPut at ed;cases x with
  |ref i=>
   obtain⟨p,h1,rfl⟩:=r2.ext x3;dsimp only at ed;cases e:S3.get i with
   |none=>rw[e]at ed;cases ed
   |some ob=>
    rw[e]at ed;obtain⟨b,h2,h3⟩:=hh3.obj _ _ e;rw[h1]at h2;cases h2;cases ob with
    |dic kvs=>
     obtain⟨nd,ws,ha,rk⟩:=h3;dsimp only at ed;cases y with
     |int k=>obtain rfl:vy=.int k:=r3;split at ed;rename_i c;have rv:=r1.ext (x2.trans x3);have xw:=Ext.wr hh3 e h1 (.dK (putK ws (.inl k) v));refine⟨p,_,rfl,.inl <| DPut.k (k:=.inl k) ha (by rw[rk.length,sizeLine_eq];exact c),δ,ι3,S4,Q,hs3.ext xw,hh3.wr e h1 ed ⟨zdh nd,_,zag,?_⟩,w3,l.up (((x1.trans x2).trans x3).trans xw)⟩;exact(rk.put k rv nd).up xw.pre xw.kp;cases ed
     |_=>cases ed
    |d3 kvs=>
     obtain⟨nd,ws,ha,rk⟩:=h3;dsimp only at ed;cases ek:key3 y with
     |none=>rw[ek]at ed;cases ed
     |some k=>rw[ek]at ed;dsimp only[bind_some]at ed;split at ed;rename_i c;obtain⟨b,rfl,hb⟩:=zcl r3 ek;have rv:=r1.ext (x2.trans x3);have xw:=Ext.wr hh3 e h1 (.ext (TriO dk3 p (put3 ws k b v)));refine⟨p,_,rfl,.inr <| .inl ⟨_,inferInstance,dk3,ws,k,b,ha,rk.triK,rfl,hb,by rw[rk.length,sizeLine_eq];exact c,rfl⟩,δ,ι3,S4,Q,hs3.ext xw,hh3.wr e h1 ed ⟨zdg nd,_,zag,?_⟩,w3,l.up (((x1.trans x2).trans x3).trans xw)⟩;exact(rk.put rv hb).up xw.pre xw.kp;cases ed
    |d4 kvs=>
     obtain⟨nd,ws,ha,rk⟩:=h3;dsimp only at ed;cases ek:key4 y with
     |none=>rw[ek]at ed;cases ed
     |some k=>rw[ek]at ed;dsimp only[bind_some]at ed;split at ed;rename_i c;obtain⟨b,rfl,hb⟩:=zh0 r3 ek;have rv:=r1.ext (x2.trans x3);have xw:=Ext.wr hh3 e h1 (.ext (TriO dk4 p (put3 ws k b v)));refine⟨p,_,rfl,.inr <| .inl ⟨_,inferInstance,dk4,ws,k,b,ha,rk.triK,rfl,hb,by rw[rk.length,sizeLine_eq];exact c,rfl⟩,δ,ι3,S4,Q,hs3.ext xw,hh3.wr e h1 ed ⟨zdg nd,_,zag,?_⟩,w3,l.up (((x1.trans x2).trans x3).trans xw)⟩;exact(rk.put rv hb).up xw.pre xw.kp;cases ed
    |lst ds=>
     obtain⟨xs,ha,rx⟩:=h3;cases y with
     |int k=>
      obtain rfl:vy=.int k:=r3;dsimp [zcn,bind_some]at ed;cases ej:R.ixN ds.length k with
      |none=>rw[ej]at ed;cases ed
      |some j=>rw[ej,bind_some]at ed;have rv:=r1.ext (x2.trans x3);have xw:=Ext.wr hh3 e h1 (.lst (xs.set j v));refine⟨p,_,rfl,.inr <| .inr ⟨xs,k,j,ha,rfl,by rw[rx.length];exact ej,rfl⟩,δ,ι3,S4,Q,hs3.ext xw,hh3.wr e h1 ed ⟨_,zag,?_⟩,w3,l.up (((x1.trans x2).trans x3).trans xw)⟩;exact(RVs.set rv j rx).up xw.pre xw.kp
     |_=>cases ed
    |_=>cases ed
  |_=>cases ed
theorem zk5(G:Gd T cf k N sc X)(hf:T.flds.contains f=true)(ha:PE X a (tE X.K cf ca))(he:PE X e (tE X.K cf ce))(hc:za2 e=true)(hr:PSs X rest (tS X.K cf r)) :
  PSs X (.Assign [.Attribute a f p] e pos::rest) (tS X.K cf (.setF ca f ce r)):=by
 refine PSs.imp (zaO (znJ ha he (zdF hc _ _ _)) hr) fun E σ H=>ex8 fun δ ι S Q hs hh w l=>?_;simp[exS,zaa]at w;refine tE.run hs hh w fun d v ι1 H1 S1 x1 hs1 hh1 r1 w1=>?_;refine tE.run hs1 hh1 w1 fun x vx ι2 H2 S2 x2 hs2 hh2 r2 w2=>?_;cases ed:zbK S2 x f d with
 |none=>rw[ed]at w2;exact w2.elim| some S3=>
  rw[ed]at w2;unfold zbK at ed;cases x with
  |ref i=>
   obtain⟨b,h1,rfl⟩:=r2;dsimp only at ed;cases eo:S2.get i with
   |none=>rw[eo]at ed;cases ed
   |some ob=>
    rw[eo]at ed;cases ob with
    |ins c fs=>obtain⟨b',h2,C,dx,ws,hC,hb,rf⟩:=hh2.obj _ _ eo;rw[h1]at h2;cases h2;dsimp only at ed;split at ed;rename_i c2;obtain⟨_,_,cl,_,na⟩:=G.clsAt (.inl (ne_of hf)) hC;have rv:=r1.ext x2;have xw:=Ext.wr hh2 eo h1 (.ins C dx (putF f v ws));refine⟨b,C,dx,ws,rfl,hb,cl,na f hf,by rw[rf.length];exact c2,δ,ι2,S3,Q,hs2.ext xw,hh2.wr eo h1 ed ⟨C,dx,_,hC,zag,(rf.put f rv).up xw.pre xw.kp⟩,w2,l.up ((x1.trans x2).trans xw)⟩;cases ed
    |_=>cases ed
  |_=>cases ed
theorem zk8(G:Gd T cf k N sc X)(hn:zbN sc N is es=true)(h2:2<=is.length)(he:PE X e (tE X.K cf ce))(hx:(∃x q,e=.Name x q)\/∃f as ks q,e=.Call f as ks q)(hr:PSs X rest (tS X.K cf r)) :
  PSs X (.Assign [.Tuple es j p] e pos::rest) (tS X.K cf (.asgT is ce r)):=by
 have hs:swapsWithSole [.Tuple es j p] e pos.line X.env=pure false:=by rcases hx with⟨x,q,rfl⟩|⟨f,as,ks,q,rfl⟩<;>rfl
 have hw:swappedStores [.Tuple es j p] e X.env=pure none:=by rcases hx with⟨x,q,rfl⟩|⟨f,as,ks,q,rfl⟩<;>rfl
 refine PSs.imp (zaO (znK he (zko G hn h2) hs hw) hr) fun E σ H=>ex8 fun δ ι S Q hs hh w l=>?_;simp[exS,zaa]at w;refine tE.run hs hh w fun d v ι1 H1 S1 x1 hs1 hh1 r1 w1=>?_;obtain⟨δ2,ea,w2⟩:=zay w1;exact⟨δ,ι1,d,δ2,hs1,r1,ea,fun σ' hs'=>⟨δ2,ι1,S1,Q,hs',hh1,w2,l.up x1⟩⟩
end
noncomputable def zmj:CL->Bool|.comp ..=>true|_=>false
noncomputable def isR1:CL->Bool|.rng1 _=>true|_=>false
noncomputable def zj0:CL->Bool|.rng1 _=>true|.rng2 _ _=>true|.enum _=>true|_=>false
noncomputable def zh7:CL->Bool|.enum _=>true|_=>false
noncomputable def zh8:Expr->Bool|.Tuple _ _ _=>true|_=>false
noncomputable def zbQ:Expr->List Str
 |.Name x _=>[x]|.Tuple es _ _=>es.filterMap fun|.Name x _=>some x|_=>none
 |_=>[]
noncomputable def zmA(sc scope:Scope)(N:List Str)(js:List Nat):Bool:=
 decide (scope.kind=.function)&&scope.names.all (fun y=>decide (y.2≠.cell))&&scope.names.all (fun y=>decide (y.2≠.local)||decide (scope.names.lookup y.1=some .local))
  && scope.names.all (fun y=>decide (y.2≠.free)||decide (sc.names.lookup y.1=some .cell)||decide (sc.names.lookup y.1=some .free))&&js.all (fun j=>decide (scope.names.lookup (N.getD j "")=some .free)&&decide (j<N.length))
noncomputable def nmB(x:Str):Bool:=!(x==("__debug__":Str))&&!(x==("__classdict__":Str))&&!(x==("__name__":Str))
noncomputable def tyB(t:String)(y:Str):Bool:=(t=="bool"&&y==("bool":Str))||(t=="int"&&y==("int":Str))||(t=="str"&&y==("str":Str))||(t=="list"&&y==("list":Str))||(t=="tuple"&&y==("tuple":Str))||(t=="dict"&&y==("dict":Str))
noncomputable def biB:Bi->Str->Nat->Bool
 |.len,x,n=>x==("len":Str)&&n==1|.abs,x,n=>x==("abs":Str)&&n==1|.max2,x,n=>x==("max":Str)&&n==2|.min2,x,n=>x==("min":Str)&&n==2|.isin _,_,_=>false
noncomputable def zbL:Expr->Option Str|.Name x _=>some x|_=>none
noncomputable def zhu:Expr->Option Const|.Constant c _ _=>some c|_=>none
noncomputable def znA:Expr->Option (Expr×Operator×Expr)|.BinOp l o r _=>some (l,o,r)|_=>none
noncomputable def rdUn:Expr->Option (UnaryOp×Expr)|.UnaryOp o x _=>some (o,x)|_=>none
noncomputable def zlA:Expr->Option (Expr×List CmpOp×List Expr)|.Compare l os rs _=>some (l,os,rs)|_=>none
noncomputable def zev:Expr->Option (BoolOp×List Expr×Pos)|.BoolOp o vs p=>some (o,vs,p)|_=>none
noncomputable def rdIf:Expr->Option (Expr×Expr×Expr)|.IfExp t x y _=>some (t,x,y)|_=>none
noncomputable def zjm:Expr->Option (List Expr)|.Tuple xs _ _=>some xs|_=>none
noncomputable def zkv:Expr->Option (List Expr)|.List xs _=>some xs|_=>none
noncomputable def zps:Expr->Option (Expr×Expr)|.Dict [some k] [v] _=>some (k,v)|_=>none
noncomputable def zdK:Expr->Bool|.Dict ks vs _=>ks.isEmpty&&vs.isEmpty|_=>false
noncomputable def zho:Expr->Option (Expr×Expr)|.Subscript x i _=>some (x,i)|_=>none
noncomputable def zp6:Expr->Option Expr|.Slice none none (some s) _=>some s|_=>none
noncomputable def rdSl:Expr->Option (Option Expr×Option Expr)|.Slice l u st _=>(match st with|none=>some (l,u)|some _=>none)|_=>none
noncomputable def zcE:Expr->Option (Expr×List Expr×List Keyword×Pos)|.Call f as ks p=>some (f,as,ks,p)|_=>none
noncomputable def zcF:Expr->Option (Expr×Str×Pos)|.Attribute o x p=>some (o,x,p)|_=>none
noncomputable def rdLC:Expr->Option (Expr×List Comprehension×Scope×Pos)|.ListComp e gs sc p=>some (e,gs,sc,p)|_=>none
section
variable{e l r x y i f:Expr}{xs rs as:List Expr}{ks:List Keyword}{p:Pos}
theorem zaF(h:zbL e=some n):∃p,e=.Name n p:=by cases e<;>first|(cases h;exact⟨_,rfl⟩)|cases h
theorem zfh(h:zhu e=some c):∃j p,e=.Constant c j p:=by cases e<;>first|(cases h;exact⟨_,_,rfl⟩)|cases h
theorem zhv(h:znA e=some (l,o,r)):∃p,e=.BinOp l o r p:=by cases e<;>first|(cases h;exact⟨_,rfl⟩)|cases h
theorem zdJ(h:rdUn e=some (o,x)):∃p,e=.UnaryOp o x p:=by cases e<;>first|(cases h;exact⟨_,rfl⟩)|cases h
theorem zeu{os:List CmpOp}(h:zlA e=some (l,os,rs)):∃p,e=.Compare l os rs p:=by cases e<;>first|(cases h;exact⟨_,rfl⟩)|cases h
theorem zbz(h:zev e=some (o,xs,p)):e=.BoolOp o xs p:=by cases e<;>first|(cases h;rfl)|cases h
theorem zjo(h:rdIf e=some (l,x,y)):∃p,e=.IfExp l x y p:=by cases e<;>first|(cases h;exact⟨_,rfl⟩)|cases h
theorem zcD(h:zjm e=some xs):∃j p,e=.Tuple xs j p:=by cases e<;>first|(cases h;exact⟨_,_,rfl⟩)|cases h
theorem zgD(h:zkv e=some xs):∃p,e=.List xs p:=by cases e<;>first|(cases h;exact⟨_,rfl⟩)|cases h
theorem zbR(h:zdK e=true):∃p,e=.Dict [] [] p:=by
 cases e with
 |Dict ks vs p=>
  cases ks with
  |cons _ _=>cases h
  |nil=>
   cases vs with
   |cons _ _=>cases h
   |nil=>exact⟨_,rfl⟩
 |_=>cases h
theorem zb0(h:zho e=some (x,i)):∃p,e=.Subscript x i p:=by cases e<;>first|(cases h;exact⟨_,rfl⟩)|cases h
theorem zjn(h:rdSl e=some (a,b)):∃p,e=.Slice a b none p:=by
 cases e with
 |Slice l u st p=>cases st with|none=>cases h;exact⟨_,rfl⟩|some _=>cases h
 |_=>cases h
theorem zci(h:zcE e=some (f,as,ks,p)):e=.Call f as ks p:=by cases e<;>first|(cases h;rfl)|cases h
theorem zbA(h:zcF e=some (x,n,p)):e=.Attribute x n p:=by cases e<;>first|(cases h;rfl)|cases h
theorem zfR(h:rdLC e=some (x,gs,sc,p)):e=.ListComp x gs sc p:=by cases e<;>first|(cases h;rfl)|cases h
end
theorem zac{α:Type}{o:Option α}{f:α->Bool}(h:o.any f=true):∃x,o=some x/\f x=true:=by
 cases o with
 |none=>cases h
 |some x=>exact⟨x,rfl,h⟩
noncomputable def one{α:Type}:List α->Option α | [x]=>some x|_=>none
theorem za1(h:one xs=some x):xs=[x]:=by match xs,h with| [y],h=>cases h;rfl
noncomputable def two{α:Type}:List α->Option (α×α) | [x,y]=>some (x,y)|_=>none
theorem two_inv(h:two xs=some (x,y)):xs=[x,y]:=by match xs,h with| [a,b],h=>cases h;rfl
noncomputable def za0(e:Expr):Option (Str×List Expr):=(zcE e).bind fun q=>if q.2.2.1.isEmpty then(zbL q.1).map fun x=>(x,q.2.1) else none
theorem zaE(h:za0 e=some (x,as)):∃p2 p,e=.Call (.Name x p2) as [] p:=by
 unfold za0 at h;cases q:zcE e with
 |none=>rw[q]at h;cases h
 |some z=>
  obtain⟨f,bs,ks,p⟩:=z;rw[q]at h;dsimp at h;split at h;rename_i c;cases q2:zbL f with
  |none=>rw[q2]at h;cases h
  |some y=>
   obtain⟨p2,rfl⟩:=zaF q2;cases ks with
   |cons _ _=>cases c
   |nil=>cases h;exact⟨p2,p,zci q⟩
  cases h
noncomputable def zly:Expr->Option (Expr×Expr)
 |.Call (.Name x _) [o] [⟨some k,l,_⟩] _=>if x="sorted"/\k="key" then some (o,l) else none|_=>none
theorem zhp(h:zly e=some (o,l)):∃p1 p2 p3,e=.Call (.Name "sorted" p1) [o] [⟨some "key",l,p2⟩] p3:=by unfold zly at h;split at h;split at h;rename_i c;obtain⟨rfl,rfl⟩:=c;cases h;exact⟨_,_,_,rfl⟩;cases h;cases h
noncomputable def zbS(e:Expr):Option (Str×Expr):=(za0 e).bind fun q=>(one q.2).map fun a=>(q.1,a)
theorem zaV(h:zbS e=some (x,a)):∃p2 p,e=.Call (.Name x p2) [a] [] p:=by
 unfold zbS at h;cases q:za0 e with
 |none=>rw[q]at h;cases h
 |some z=>
  obtain⟨y,bs⟩:=z;rw[q]at h;dsimp at h;cases q2:one bs with
  |none=>rw[q2]at h;cases h
  |some b=>rw[q2]at h;cases h;rw[za1 q2]at q;exact zaE q
noncomputable def zet(e:Expr):Option (Expr×Str×Pos×Expr×Pos):=(zcE e).bind fun q=>if q.2.2.1.isEmpty then(zcF q.1).bind fun a=>(one q.2.1).map fun y=>(a.1,a.2.1,a.2.2,y,q.2.2.2) else none
theorem zcg(h:zet e=some (o,x,ap,a,cp)):e=.Call (.Attribute o x ap) [a] [] cp:=by
 unfold zet at h;cases q:zcE e with
 |none=>rw[q]at h;cases h
 |some z=>
  obtain⟨f,bs,ks,p⟩:=z;rw[q]at h;dsimp at h;split at h;rename_i c;cases q2:zcF f with
  |none=>rw[q2]at h;cases h
  |some y=>
   rw[q2]at h;cases q3:one bs with
   |none=>rw[q3]at h;cases h
   |some b=>
    rw[q3]at h;cases h;cases ks with
    |cons _ _=>cases c
    |nil=>rw[zci q,zbA q2,za1 q3]
  cases h
noncomputable def zch(e:Expr):Option (Expr×Str×Pos×List Expr×Pos):=(zcE e).bind fun q=>if q.2.2.1.isEmpty then(zcF q.1).map fun a=>(a.1,a.2.1,a.2.2,q.2.1,q.2.2.2) else none
theorem zbe(h:zch e=some (o,x,ap,as,cp)):e=.Call (.Attribute o x ap) as [] cp:=by
 unfold zch at h;cases q:zcE e with
 |none=>rw[q]at h;cases h
 |some z=>
  obtain⟨f,bs,ks,p⟩:=z;rw[q]at h;dsimp at h;split at h;rename_i c;cases q2:zcF f with
  |none=>rw[q2]at h;cases h
  |some y=>
   rw[q2]at h;cases h;cases ks with
   |cons _ _=>cases c
   |nil=>rw[zci q,zbA q2]
  cases h
noncomputable def fnB(T:Tab)(f j:Nat)(x:Str):Bool:=match T.fns[f]? with|some (y,_,nd)=>(y==x)&&decide (j<=nd)|none=>false
noncomputable def conG(T:Tab)(d:D)(x:Str):Bool:=match T.cons.lookup x with|some d'=>eqC d' d|none=>false
noncomputable def zid:CE->Bool|.con _=>true|_=>false
noncomputable def zfw:CL->Bool|.comp ..=>true|_=>false
noncomputable def zh9:CE->Bool|.tst (.con (.bl true))=>true|_=>false
noncomputable def zl3:CEs->Bool|.cons _ .nil=>true|_=>false
noncomputable def zl5:CEs->Bool|.nil=>true|_=>false
noncomputable def mtN:Mt->Str->Bool
 |.append,x=>x==("append":Str)
noncomputable def zpR:Bi->Option String|.isin t=>some t|_=>none
noncomputable def tgB(sc:Scope)(N:List Str)(g:List Nat)(tg:Expr):Bool:=match zbL tg with|some x=>(match one g with|some i=>(N[i]?==some x)&&zeN sc x|none=>false)|none=>(zjm tg).any fun es=>decide (2<=g.length)&&zbN sc N g es
mutual
noncomputable def chkE(T:Tab)(e₀:CE)(N:List Str)(sc:Scope)(e:Expr):Bool:=match e₀ with
 |.loc i=>(zbL e).any fun x=>(N[i]?==some x)&&zjZ sc x&&nmB x|.con d=>(zhu e).any (fun c=>conB d c)||(zbL e).any fun x=>isGl sc x&&conG T d x&&nmB x
 |.tst _=>false|.bin op a b=>(znA e).any fun q=>decide (q.2.1=op)&&chkE T a N sc q.1&&chkE T b N sc q.2.2|.neg a=>(rdUn e).any fun q=>decide (q.1=.USub)&&chkE T a N sc q.2|.nt a=>(rdUn e).any fun q=>decide (q.1=.Not)&&chkE T a N sc q.2|.cmp op a b=>(zlA e).any fun q=>decide (q.2.1=[op])&&(one q.2.2).any fun r=>zbM r&&chkE T a N sc q.1&&chkE T b N sc r
 |.and a b=>(zev e).any fun q=>decide (q.1=.And)&&(match q.2.1 with
  |x::y::rest=>chkE T a N sc x&&(if rest.isEmpty then chkE T b N sc y else chkE T b N sc (.BoolOp .And (y::rest) q.2.2))|_=>false)
 |.or a b=>(zev e).any fun q=>decide (q.1=.Or)&&(match q.2.1 with
  |x::y::rest=>chkE T a N sc x&&(if rest.isEmpty then chkE T b N sc y else chkE T b N sc (.BoolOp .Or (y::rest) q.2.2))|_=>false)
 |.ite c a b=>(rdIf e).any fun q=>chkT T c N sc q.1&&chkE T a N sc q.2.1&&chkE T b N sc q.2.2|.tup es=>(zjm e).any fun xs=>zbh T es N sc xs|.lst es=>(zkv e).any fun xs=>zbh T es N sc xs|.dnew=>zdK e|.dnew3=>zdK e|.dnew4=>zdK e|.dix3 a b=>(zho e).any fun q=>zcv q.2&&chkE T a N sc q.1&&chkE T b N sc q.2|.ext a l=>(zet e).any fun q=>(q.2.1==("extend":Str))&&zak q.2.2.2.1&&zaP q.1&&(q.2.2.1.endLine==q.2.2.2.2.line)&&zmj l&&chkE T a N sc q.1&&chkL T l N sc q.2.2.2.1|.srtK a=>(zly e).any fun q=>(((bltB T sc "sorted"&&zak q.1)&&lamB q.2)&&decide (N=T.lam))&&chkE T a N sc q.1|.dgetI a b c=>(zch e).any fun q=>(two q.2.2.2.1).any fun z=>(q.2.1==("get":Str))&&zak z.1&&zak z.2&&zaP q.1&&(q.2.2.1.endLine==q.2.2.2.2.line)&&chkE T a N sc q.1&&chkE T b N sc z.1&&chkE T c N sc z.2|.dsetI a b c=>(zch e).any fun q=>(two q.2.2.2.1).any fun z=>(q.2.1==("setdefault":Str))&&zak z.1&&zak z.2&&zaP q.1&&(q.2.2.1.endLine==q.2.2.2.2.line)&&chkE T a N sc q.1&&chkE T b N sc z.1&&chkE T c N sc z.2|.extv a b=>(zet e).any fun q=>(q.2.1==("extend":Str))&&zak q.2.2.2.1&&zaP q.1&&(q.2.2.1.endLine==q.2.2.2.2.line)&&chkE T a N sc q.1&&chkE T b N sc q.2.2.2.1|.fld a f=>(zcF e).any fun q=>decide (q.2.1=f)&&zaP q.1&&T.flds.contains f&&chkE T a N sc q.1|.mk c f x j es=>(za0 e).any fun q=>decide (q.1=x)&&isGl sc x&&nmB x&&decide (T.cls[c]?=some x)&&T.inits.contains (c,f,j)&&(!q.2.isEmpty||zl5 es)&&zbh T es N sc q.2|.meth m tb o es=>(zch e).any fun q=>decide (q.2.1=m)&&mtB T m tb&&zaP q.1&&(q.2.2.1.endLine==q.2.2.2.2.line)&&decide (q.2.2.2.1.length<29)&&(!q.2.2.2.1.isEmpty||zl5 es)&&chkE T o N sc q.1&&zbh T es N sc q.2.2.2.1|.callC f x m es=>(zch e).any fun q=>(zbL q.1).any fun y=>decide (y=x)&&decide (q.2.1=m)&&isGl sc x&&nmB x&&T.cms.contains (x,m,f)&&(q.2.2.1.endLine==q.2.2.2.2.line)&&decide (q.2.2.2.1.length<29)&&!q.2.2.2.1.isEmpty&&zbh T es N sc q.2.2.2.1|.ix a b=>(zho e).any fun q=>zcv q.2&&chkE T a N sc q.1&&chkE T b N sc q.2
 |.sl a ml mh lo hi=>(zho e).any fun q=>(rdSl q.2).any fun s=>chkE T a N sc q.1
  && (match s.1 with|none=>!ml&&zid lo|some e=>ml&&chkE T lo N sc e)
  && (match s.2 with|none=>!mh&&zid hi|some e=>mh&&chkE T hi N sc e)
 |.call f j es=>(za0 e).any fun q=>isGl sc q.1&&nmB q.1&&fnB T f j q.1&&(!q.2.isEmpty||zl5 es)&&zbh T es N sc q.2|.callW f j es=>(za0 e).any fun q=>isGl sc q.1&&nmB q.1&&fnB T f j q.1&&!q.2.isEmpty&&zbh T es N sc q.2
 |.bi b es=>(za0 e).any fun q=>bltB T sc q.1&&nmB q.1&&(match zpR b with
  |some t=>(two q.2).any fun z=>(zbL z.2).any fun y=>(q.1==("isinstance":Str))&&tyB t y&&bltB T sc y&&nmB y&&zl3 es&&zbh T es N sc [z.1]|none=>biB b q.1 q.2.length&&!q.2.isEmpty&&zbh T es N sc q.2)
 |.mt m o es=>(zet e).any fun q=>mtN m q.2.1&&zaP q.1&&(q.2.2.1.endLine==q.2.2.2.2.line)&&zl3 es&&chkE T o N sc q.1&&zbh T es N sc [q.2.2.2.1]
 |.mkL l=>if zfw l then(if(rdLC e).isSome then chkL T l N sc e else(zbS e).any fun q=>(q.1==("list":Str))&&bltB T sc q.1&&zak q.2&&chkL T l N sc q.2)
  else(zbS e).any fun q=>(q.1==("list":Str))&&bltB T sc q.1&&zak q.2&&(!(zj0 l)||isR1 l)&&chkL T l N sc q.2
 |.mkT l=>(zbS e).any fun q=>(q.1==("tuple":Str))&&bltB T sc q.1&&zak q.2&&(!(zj0 l)||isR1 l)&&chkL T l N sc q.2
noncomputable def zbh(T:Tab)(e₀:CEs)(N:List Str)(sc:Scope)(es:List Expr):Bool:=match e₀ with|.nil=>es.isEmpty|.cons a r=>(match es with | []=>false|e::es=>zak e&&chkE T a N sc e&&zbh T r N sc es)
noncomputable def chkT(T:Tab)(e₀:CE)(N:List Str)(sc:Scope)(e:Expr):Bool:=match e₀ with
 |.cmp op a b=>(zlA e).any fun q=>decide (q.2.1=[op])&&(one q.2.2).any fun r=>zbM r&&chkE T a N sc q.1&&chkE T b N sc r|.nt a=>(rdUn e).any fun q=>decide (q.1=.Not)&&chkT T a N sc q.2
 |.and a b=>(zev e).any fun q=>decide (q.1=.And)&&(match q.2.1 with
  |x::y::rest=>chkT T a N sc x&&(if rest.isEmpty then chkT T b N sc y else chkT T b N sc (.BoolOp .And (y::rest) q.2.2))|_=>false)
 |.or a b=>(zev e).any fun q=>decide (q.1=.Or)&&(match q.2.1 with
  |x::y::rest=>chkT T a N sc x&&(if rest.isEmpty then chkT T b N sc y else chkT T b N sc (.BoolOp .Or (y::rest) q.2.2))|_=>false)
 |.tst a=>zfU e&&chkE T a N sc e|_=>false
noncomputable def chkL(T:Tab)(e₀:CL)(N:List Str)(sc:Scope)(e:Expr):Bool:=match e₀ with
 |.val a=>zbM e&&chkE T a N sc e|.rng1 a=>(zbS e).any fun q=>(q.1==("range":Str))&&bltB T sc q.1&&zak q.2&&chkE T a N sc q.2|.rng2 a b=>(za0 e).any fun q=>(two q.2).any fun z=>(q.1==("range":Str))&&bltB T sc q.1&&zak z.1&&zak z.2&&chkE T a N sc z.1&&chkE T b N sc z.2|.enum a=>(zbS e).any fun q=>(q.1==("enumerate":Str))&&bltB T sc q.1&&zak q.2&&chkE T a N sc q.2
 |.comp nt js g it c b=>(rdLC e).any fun q=>(one q.2.1).any fun z=>decide (z.is_async=0)&&zmA sc q.2.2.1 N js&&(zbM z.iter&&(zh8 z.target||!(zh7 it)))&&chkL T it N sc z.iter&&decide ((zbQ z.target).length=nt)&&decide ((capN N (zbQ z.target) js).Nodup/\capN N (zbQ z.target) js≠T.lam)
  && tgB q.2.2.1 (capN N (zbQ z.target) js) g z.target
  && (if z.ifs.isEmpty then zh9 c else(one z.ifs).any fun t=>chkT T c (capN N (zbQ z.target) js) q.2.2.1 t)
  && chkE T b (capN N (zbQ z.target) js) q.2.2.1 q.1
end
noncomputable def zgE:Stmt->Option (Expr×Expr×Pos)|.Assign tgs v p=>(one tgs).map fun t=>(t,v,p)|_=>none
noncomputable def znx:Stmt->Option (Expr×List Stmt×List Stmt)|.If e a b _=>some (e,a,b)|_=>none
noncomputable def zny:Stmt->Option (Expr×Expr×List Stmt)|.For tg it b els _=>if els.isEmpty then some (tg,it,b) else none|_=>none
noncomputable def zlz:Stmt->Option Expr|.Return v _=>v|_=>none
noncomputable def znz:Stmt->Option Expr|.Expr v _=>some v|_=>none
section
variable{s:Stmt}{e v tg it:Expr}{a b:List Stmt}{p:Pos}
theorem zb1(h:zgE s=some (tg,v,p)):s=.Assign [tg] v p:=by
 cases s with
 |Assign tgs v p=>
  simp only[zgE]at h;cases q:one tgs with
  |none=>rw[q]at h;cases h
  |some t=>rw[q]at h;cases h;rw[za1 q]
 |_=>cases h
theorem zhr(h:znx s=some (e,a,b)):∃p,s=.If e a b p:=by cases s<;>first|(cases h;exact⟨_,rfl⟩)|cases h
theorem zhs(h:zny s=some (tg,it,b)):∃p,s=.For tg it b [] p:=by
 cases s with
 |For tg it b els p=>cases els with|nil=>cases h;exact⟨_,rfl⟩|cons _ _=>cases h
 |_=>cases h
theorem zhq(h:zlz s=some e):∃p,s=.Return (some e) p:=by cases s with|Return v p=>simp[zlz]at h;subst h;exact⟨_,rfl⟩|_=>cases h
theorem zht(h:znz s=some e):∃p,s=.Expr e p:=by cases s<;>first|(cases h;exact⟨_,rfl⟩)|cases h
end
noncomputable def chkS(T:Tab)(e₀:CS)(N:List Str)(sc:Scope)(st:List Stmt):Bool:=match e₀ with|.nil=>st.isEmpty|.stop=>true|.asg i e r=>(match st with | []=>false|s::rest=>(zgE s).any fun q=>(zbL q.1).any fun x=>(N[i]?==some x)&&zeN sc x&&chkE T e N sc q.2.1&&chkS T r N sc rest)|.asgT g e r=>(match st with | []=>false|s::rest=>(zgE s).any fun q=>(zjm q.1).any fun es=>((zbL q.2.1).isSome||(za0 q.2.1).isSome)&&decide (2<=g.length)&&zbN sc N g es&&chkE T e N sc q.2.1&&chkS T r N sc rest)|.setIx a b e r=>(match st with | []=>false|s::rest=>(zgE s).any fun q=>(zho q.1).any fun z=>za2 q.2.1&&chkE T a N sc z.1&&chkE T b N sc z.2&&chkE T e N sc q.2.1&&chkS T r N sc rest)|.setF a f e r=>(match st with | []=>false|s::rest=>(zgE s).any fun q=>(zcF q.1).any fun z=>decide (z.2.1=f)&&T.flds.contains f&&za2 q.2.1&&chkE T a N sc z.1&&chkE T e N sc q.2.1&&chkS T r N sc rest)|.ifS c t u r=>(match st with | []=>false|s::rest=>(znx s).any fun q=>chkT T c N sc q.1&&chkS T t N sc q.2.1&&chkS T u N sc q.2.2&&chkS T r N sc rest)|.forS g l b r=>(match st with | []=>false|s::rest=>(zny s).any fun q=>zbM q.2.1&&chkL T l N sc q.2.1&&chkS T b N sc q.2.2&&chkS T r N sc rest&&(tgB sc N g q.1&&(zh8 q.1||!(zh7 l))))|.ret e r=>(match st with | []=>false|s::rest=>(zlz s).any fun v=>chkE T e N sc v&&chkS T r N sc rest)|.expr e r=>(match st with | []=>false|s::rest=>(znz s).any fun v=>za2 v&&chkE T e N sc v&&chkS T r N sc rest)
end R
section
set_option maxHeartbeats 8000000
namespace R
open PySem PySem.Spec PyProof.Rows L2
variable[Mks]
section
variable{T:Tab}{cf:CF}{k:Nat}{N:List Str}{sc:Scope}{X:Cx}
theorem zbu(env:Env)(x:Str):∀{names:List (Str×NameKind)}{k0:NameKind},names.lookup x=some k0->k0≠.free->(names.map (zbJ env)).lookup x=some k0
 | [],_,h,_=>by simp at h| y::r,k0,h,hk=>by
  rw[map_cons];have f1:=zcC env y;have f2:=zcB env y;obtain⟨n,k1⟩:=y;generalize hz:zbJ env (n,k1)=z at *;obtain⟨zn,zk⟩:=z;simp only at f1 f2;subst f1;rw[lookup_cons]at h⊢;cases hx:x==zn with
  |true=>rw[hx]at h;have e:k1=k0:=Option.some.inj h;subst e;rcases f2 with f2|⟨q,_⟩;show some zk=_;rw[f2];exact absurd q hk
  |false=>rw[hx]at h;exact zbu env x h hk
theorem zgl(G:Gd T cf k N sc X)(h:zmA sc scope N js=true):CompOk X.env.scope scope X.N js:=by unfold zmA at h;simp only[and_eq_true,all_eq_true,decide_eq_true_eq,or_eq_true]at h;obtain⟨⟨⟨⟨h1,h2⟩,h3⟩,h4⟩,h5⟩:=h;refine⟨h1,h2,fun y hy e=>?_,fun y hy e=>?_,fun j hj=>?_⟩;rcases h3 y hy with z|z;exact absurd e z;exact z;rcases h4 y hy with (z|z)|z;exact absurd e z;exact .inl (G.cell _ z);exact(G.free _ z).symm;rw[G.nm];exact h5 j hj
theorem zil(G:Gd T cf k N sc X)(ok:CompOk X.env.scope scope X.N js)(hn:(capN N tgs js).Nodup/\capN N tgs js≠T.lam)(cl:List (Str×Addr))(C:Addr)(fp:List Addr)(s:Shared)(H:Hp)(pn:List (Addr×Obj)) :
  Gd T cf k (capN N tgs js) scope (zav X (capN X.N tgs js) scope cl C fp s H pn):=by
 have names:(zav X (capN X.N tgs js) scope cl C fp s H pn).env.scope.names=scope.names.map (zbJ X.env):=zbZ scope X.env;have noc:∀x,scope.names.lookup x≠some .cell:=fun x e=>ok.nocell _ (PySem.mem_of_lookup e) rfl;refine⟨by rw[<-G.nm],hn.1,fun x e=>?_,fun x e=>absurd e (noc x),fun x e=>?_,fun x e=>?_,.inr noc,G.calm,rfl,G.room',G.tab,fun z=>absurd z hn.2⟩;rw[names];exact zbu _ _ e (by decide);rw[names];exact zbd _ _ _ e;rw[names];exact zbu _ _ e (by decide)
theorem zcr(h:nmB x=true):(x==("__debug__":Str))=false/\(x==("__classdict__":Str))=false/\x≠("__name__":Str):=by unfold nmB at h;simp only[and_eq_true,not_eq_true']at h;exact⟨h.1.1,h.1.2,fun e=>by rw[e]at h;simp at h⟩
theorem zmU(h:tyB t y=true):t∈["bool","int","str","list","tuple","dict"]/\bootBuiltins y=some (.type t):=by unfold tyB at h;simp at h;rcases h with ((((⟨rfl,rfl⟩|⟨rfl,rfl⟩)|⟨rfl,rfl⟩)|⟨rfl,rfl⟩)|⟨rfl,rfl⟩)|⟨rfl,rfl⟩;exact⟨by simp,zmF⟩;exact⟨by simp,zoT⟩;exact⟨by simp,zoP⟩;exact⟨by simp,zfB⟩;exact⟨by simp,zef⟩;exact⟨by simp,zmE⟩
theorem zkH(h:fnB T f j x=true):∃ps nd,T.fns[f]?=some (x,ps,nd)/\j<=nd:=by
 unfold fnB at h;cases e:T.fns[f]? with
 |none=>rw[e]at h;cases h
 |some q=>obtain⟨y,ps,nd⟩:=q;rw[e]at h;simp at h;obtain⟨rfl,h2⟩:=h;exact⟨ps,nd,rfl,h2⟩
theorem zaA:∀{ces:CEs}{N:List Str}{sc:Scope}{es:List Expr},zbh T ces N sc es=true->es.all zak=true
 |.nil,N,sc,es,h=>by simp[zbh,isEmpty_iff]at h;subst h;rfl| .cons a r,N,sc,es,h=>by cases es with|nil=>simp[zbh]at h| cons e es=>simp[zbh,and_eq_true]at h;simp[h.1.1,zaA h.2]
theorem zgm(h:zl3 es=true):∃a,es=.cons a .nil:=by
 cases es with
 |nil=>cases h
 |cons a r=>cases r with|nil=>exact⟨a,rfl⟩|cons _ _=>cases h
theorem zg3(G:Gd T cf k N sc X)(h:biB b x n=true):∃id,zbb X (.builtin id) (rB X.K fun S ds=>R.bi S b ds)/\bootBuiltins x=some (.builtin id):=by cases b with|len=>simp[biB,and_eq_true,beq_iff_eq]at h;rw[h.1];exact⟨_,zoi,zoS⟩|abs=>simp[biB,and_eq_true,beq_iff_eq]at h;rw[h.1];exact⟨_,zoW,zoU⟩|max2=>simp[biB,and_eq_true,beq_iff_eq]at h;rw[h.1];exact⟨_,zod G.calm,zoR⟩|min2=>simp[biB,and_eq_true,beq_iff_eq]at h;rw[h.1];exact⟨_,zoc G.calm,zoQ⟩|isin t=>simp[biB]at h
def LOk(T:Tab)(cf:CF)(k:Nat)(cl:CL)(X:Cx)(e:Expr):Prop:=(zj0 cl=false->PE X e (tL X.K cf cl))/\(zmj cl=true->PE X e (tLt X.K cf cl))/\(∀tg,(zh8 tg||!(zh7 cl))=true->PI X tg e (tI X.K cf cl))/\
 ∀a,cl=.rng1 a->∃a' p2 p,e=.Call (.Name "range" p2) [a'] [] p/\(Gl X "range"/\X.mg "range"=none)/\PE X a' (tE X.K cf a)/\zak a'=true
def EsOk(cf:CF)(ces:CEs)(X:Cx)(es:List Expr):Prop:=PA X es (tAs X.K cf ces)/\∀a r e es',ces=.cons a r->es=e::es'->PE X e (tE X.K cf a)
theorem zk1(G:Gd T cf k N sc X)(h:tgB sc N g tg=true):PG X tg (tG X.K g):=by unfold tgB at h;split at h;rename_i x q;obtain⟨p,rfl⟩:=zaF q;split at h;rename_i i q2;rw[za1 q2];simp at h;exact zlg G h.1 h.2;cases h;replace h:=zac h;obtain⟨es,q,h⟩:=h;obtain⟨j,p,rfl⟩:=zcD q;simp at h;exact zko G h.2 h.1
theorem zfI(h:zh9 c=true):PTs X [] (tT X.K cf c):=by
 have hc:c=.tst (.con (.bl true)):=by
  cases c with
  |tst a=>
   cases a with
   |con d=>
    cases d with
    |bl b=>cases b with|true=>rfl|false=>cases h
    |_=>cases h
   |_=>cases h
  |_=>cases h
 subst hc;intro pins s' σ H' Qv I q;apply zlI pins s' σ H' Qv I;obtain⟨δ,ι,S,Q,hs,hh,w,q⟩:=q;exact q _ _ ⟨ι,S,Ext.refl _ _,hh,w⟩
theorem zhJ(h1:o=none->m=false/\zid ce=true)(h2:∀e,o=some e->m=true/\PE X e (tE X.K cf ce)):PartOk X cf m ce o:=by
 cases o with
 |none=>obtain⟨rfl,h⟩:=h1 rfl;cases ce with|con d=>exact .no ⟨d,rfl⟩|_=>cases h
 |some e=>obtain⟨rfl,h⟩:=h2 e rfl;exact .yes h
theorem zbl{x y:Str}(h:(x==y)=true):x=y:=by simpa using h
mutual
theorem zae:∀(ce:CE){N:List Str}{sc:Scope}{e:Expr}{X:Cx},Gd T cf k N sc X->chkE T ce N sc e=true->PE X e (tE X.K cf ce)
 |.loc i,N,sc,e,X,G,h=>by replace h:=zac h;obtain⟨x,q,h⟩:=h;obtain⟨p,rfl⟩:=zaF q;simp only[and_eq_true,beq_iff_eq]at h;obtain⟨h1,h2,_⟩:=zcr h.2;exact znj G h.1.1 h.1.2 h1 h2| .con d,N,sc,e,X,G,h=>by replace h:=(Bool.or_eq_true_iff ..).mp h;rcases h with h|h;replace h:=zac h;obtain⟨c,q,h⟩:=h;obtain⟨j,p,rfl⟩:=zfh q;exact znn h;replace h:=zac h;obtain⟨x,q,h⟩:=h;obtain⟨p,rfl⟩:=zaF q;simp only[and_eq_true]at h;obtain⟨h1,h2,_⟩:=zcr h.2;have h3:=h.1.2;unfold conG at h3;split at h3;rename_i d' e';exact zlm G h.1.1 e' h3 h1;cases h3
 |.tst a,N,sc,e,X,G,h=>absurd h Bool.false_ne_true| .bin op a b,N,sc,e,X,G,h=>by replace h:=zac h;obtain⟨⟨l,o,r⟩,q,h⟩:=h;obtain⟨p,rfl⟩:=zhv q;simp only[and_eq_true,decide_eq_true_eq]at h;obtain⟨⟨rfl,h1⟩,h2⟩:=h;exact znp (zae a G h1) (zae b G h2)| .neg a,N,sc,e,X,G,h=>by replace h:=zac h;obtain⟨⟨o,x⟩,q,h⟩:=h;obtain⟨p,rfl⟩:=zdJ q;simp only[and_eq_true,decide_eq_true_eq]at h;obtain⟨rfl,h1⟩:=h;exact znf (zae a G h1)| .nt a,N,sc,e,X,G,h=>by replace h:=zac h;obtain⟨⟨o,x⟩,q,h⟩:=h;obtain⟨p,rfl⟩:=zdJ q;simp only[and_eq_true,decide_eq_true_eq]at h;obtain⟨rfl,h1⟩:=h;exact zpj (zae a G h1)| .cmp op a b,N,sc,e,X,G,h=>by replace h:=zac h;obtain⟨⟨l,os,rs⟩,q,h⟩:=h;obtain⟨p,rfl⟩:=zeu q;rw[and_eq_true,decide_eq_true_eq]at h;obtain⟨e1,h⟩:=h;replace h:=zac h;obtain⟨r,q2,h⟩:=h;cases za1 q2;cases e1;simp only[and_eq_true]at h;exact zno G (zae a G h.1.2) (zae b G h.2) h.1.1| .and a b,N,sc,e,X,G,h=>by replace h:=zac h;obtain⟨⟨o,vs,p⟩,q,h⟩:=h;cases zbz q;rw[and_eq_true,decide_eq_true_eq]at h;obtain⟨e1,h⟩:=h;cases e1;dsimp only at h;split at h;rename_i x y rest;rw[and_eq_true]at h;obtain⟨h1,h2⟩:=h;split at h2;rename_i c;cases isEmpty_iff.mp c;exact zkr (zae a G h1) (zky (zae b G h2));exact zkr (zae a G h1) (zae b G h2);cases h
 |.or a b,N,sc,e,X,G,h=>by replace h:=zac h;obtain⟨⟨o,vs,p⟩,q,h⟩:=h;cases zbz q;rw[and_eq_true,decide_eq_true_eq]at h;obtain⟨e1,h⟩:=h;cases e1;dsimp only at h;split at h;rename_i x y rest;rw[and_eq_true]at h;obtain⟨h1,h2⟩:=h;split at h2;rename_i c;cases isEmpty_iff.mp c;exact zne (zae a G h1) (zky (zae b G h2));exact zne (zae a G h1) (zae b G h2);cases h
 |.ite c a b,N,sc,e,X,G,h=>by replace h:=zac h;obtain⟨⟨t,x,y⟩,q,h⟩:=h;obtain⟨p,rfl⟩:=zjo q;simp only[and_eq_true]at h;exact znk (zaM c G h.1.1).1 (zae a G h.1.2) (zae b G h.2)| .tup es,N,sc,e,X,G,h=>by replace h:=zac h;obtain⟨xs,q,h⟩:=h;obtain⟨j,p,rfl⟩:=zcD q;exact znd (zaK es G h).1| .lst es,N,sc,e,X,G,h=>by replace h:=zac h;obtain⟨xs,q,h⟩:=h;obtain⟨p,rfl⟩:=zgD q;exact zni (zaK es G h).1| .dnew,N,sc,e,X,G,h=>by obtain⟨p,rfl⟩:=zbR h;exact zlo| .dgetI a b c,N,sc,e,X,G,h=>by replace h:=zac h;obtain⟨⟨oe,x,ap,as,cp⟩,q,h⟩:=h;cases zbe q;replace h:=zac h;obtain⟨⟨e1,e2⟩,q2,h⟩:=h;cases two_inv q2;simp only[and_eq_true]at h;obtain⟨⟨⟨⟨⟨⟨⟨hx,h1⟩,h2⟩,h3⟩,h4⟩,h5⟩,h6⟩,h7⟩:=h;cases zbl hx;exact zjd G (zae a G h5) (zae b G h6) (zae c G h7) h1 h2 h3 h4| .dsetI a b c,N,sc,e,X,G,h=>by replace h:=zac h;obtain⟨⟨oe,x,ap,as,cp⟩,q,h⟩:=h;cases zbe q;replace h:=zac h;obtain⟨⟨e1,e2⟩,q2,h⟩:=h;cases two_inv q2;simp only[and_eq_true]at h;obtain⟨⟨⟨⟨⟨⟨⟨hx,h1⟩,h2⟩,h3⟩,h4⟩,h5⟩,h6⟩,h7⟩:=h;cases zbl hx;exact zja G (zae a G h5) (zae b G h6) (zae c G h7) h1 h2 h3 h4| .extv a b,N,sc,e,X,G,h=>by replace h:=zac h;obtain⟨⟨oe,x,ap,e1,cp⟩,q,h⟩:=h;cases zcg q;simp only[and_eq_true]at h;obtain⟨⟨⟨⟨⟨hx,h1⟩,h2⟩,h3⟩,h4⟩,h5⟩:=h;cases zbl hx;exact zln (zae a G h4) (zae b G h5) h1 h2 h3| .ix a b,N,sc,e,X,G,h=>by replace h:=zac h;obtain⟨⟨x,i⟩,q,h⟩:=h;obtain⟨p,rfl⟩:=zb0 q;simp only[and_eq_true]at h;exact zpm (zae a G h.1.2) (zae b G h.2) h.1.1| .fld a f,N,sc,e,X,G,h=>by replace h:=zac h;obtain⟨⟨o,f',p⟩,q,h⟩:=h;cases zbA q;simp only[and_eq_true,decide_eq_true_eq]at h;obtain⟨⟨⟨rfl,h2⟩,h3⟩,h4⟩:=h;exact znl G (zae a G h4) h2 h3| .mk c f x j es,N,sc,e,X,G,h=>by
  replace h:=zac h;obtain⟨⟨x',args⟩,q,h⟩:=h;obtain⟨p2,p,rfl⟩:=zaE q;simp only[and_eq_true,or_eq_true,decide_eq_true_eq]at h;obtain⟨⟨⟨⟨⟨⟨rfl,h1⟩,h2⟩,h3⟩,h4⟩,h5⟩,h6⟩:=h;obtain⟨n1,n2,n3⟩:=zcr h2;have ha:=(zaK es G h6).1;cases args with
  |nil=>
   have:es=.nil:=by cases es with|nil=>rfl|cons _ _=>rcases h5 with z|z<;>cases z
   rw[this];exact znh G h4 h3 h1 n1
  |cons a as=>exact zpl G h4 h3 h1 n1 ha (zaA h6)
 |.meth m tb o es,N,sc,e,X,G,h=>by
  replace h:=zac h;obtain⟨⟨oe,m',ap,args,cp⟩,q,h⟩:=h;cases zbe q;simp only[and_eq_true,or_eq_true,decide_eq_true_eq]at h;obtain⟨⟨⟨⟨⟨⟨⟨rfl,h1⟩,h2⟩,h3⟩,h4⟩,h5⟩,h6⟩,h7⟩:=h;have ho:=zae o G h6;have ha:=(zaK es G h7).1;cases args with
  |nil=>
   have:es=.nil:=by cases es with|nil=>rfl|cons _ _=>rcases h5 with z|z<;>cases z
   rw[this];exact zi9 G h1 ho h2 h3
  |cons a as=>exact zlk G h1 ho ha (zaA h7) h2 h3 h4
 |.callC f x m es,N,sc,e,X,G,h=>by
  replace h:=zac h;obtain⟨⟨oe,m',ap,args,cp⟩,q,h⟩:=h;cases zbe q;replace h:=zac h;obtain⟨y,q3,h⟩:=h;obtain⟨p3,rfl⟩:=zaF q3;simp only[and_eq_true,decide_eq_true_eq]at h;obtain⟨⟨⟨⟨⟨⟨⟨⟨rfl,rfl⟩,h1⟩,h2⟩,h3⟩,h4⟩,h5⟩,h6⟩,h7⟩:=h;cases args with
  |nil=>cases h6
  |cons a as=>exact zjf G h3 h1 (zcr h2).1 rfl (zaK es G h7).1 (zaA h7) h5 h4
 |.sl a ml mh lo hi,N,sc,e,X,G,h=>by replace h:=zac h;obtain⟨⟨x,i⟩,q,h⟩:=h;obtain⟨p,rfl⟩:=zb0 q;replace h:=zac h;obtain⟨⟨l,u⟩,q2,h⟩:=h;obtain⟨p2,rfl⟩:=zjn q2;simp only[and_eq_true]at h;obtain⟨⟨h1,h2⟩,h3⟩:=h;refine zpi (zae a G h1) (zhJ (fun z=>?_) fun e z=>?_) (zhJ (fun z=>?_) fun e z=>?_);subst z;simpa using h2;subst z;simp only[and_eq_true]at h2;exact⟨h2.1,zae lo G h2.2⟩;subst z;simpa using h3;subst z;simp only[and_eq_true]at h3;exact⟨h3.1,zae hi G h3.2⟩| .call f j es,N,sc,e,X,G,h=>by
  replace h:=zac h;obtain⟨⟨x,args⟩,q,h⟩:=h;obtain⟨p2,p,rfl⟩:=zaE q;simp only[and_eq_true,or_eq_true]at h;obtain⟨⟨⟨⟨h1,h2⟩,h3⟩,h4⟩,h5⟩:=h;obtain⟨n1,n2,n3⟩:=zcr h2;obtain⟨ps,nd,hf,hj⟩:=zkH h3;have ha:=(zaK es G h5).1;cases args with
  |nil=>
   have:es=.nil:=by cases es with|nil=>rfl|cons _ _=>rcases h4 with z|z<;>cases z
   rw[this];exact zjg G hf hj h1 n1
  |cons a as=>exact zlq G hf hj h1 n1 ha (zaA h5)
 |.callW f j es,N,sc,e,X,G,h=>by
  replace h:=zac h;obtain⟨⟨x,args⟩,q,h⟩:=h;obtain⟨p2,p,rfl⟩:=zaE q;simp only[and_eq_true]at h;obtain⟨⟨⟨⟨h1,h2⟩,h3⟩,h4⟩,h5⟩:=h;obtain⟨n1,n2,n3⟩:=zcr h2;obtain⟨ps,nd,hf,hj⟩:=zkH h3;have ha:=(zaK es G h5).1;cases args with
  |nil=>cases h4
  |cons a as=>exact zje G hf hj h1 n1 ha (zaA h5)
 |.bi b es,N,sc,e,X,G,h=>by
  replace h:=zac h;obtain⟨⟨x,args⟩,q,h⟩:=h;obtain⟨p2,p,rfl⟩:=zaE q;rw[and_eq_true,and_eq_true]at h;obtain⟨⟨h1,h2⟩,h3⟩:=h;obtain⟨n1,n2,n3⟩:=zcr h2;split at h3;rename_i t qt;replace h3:=zac h3;obtain⟨⟨e1,e2⟩,q2,h3⟩:=h3;cases two_inv q2;replace h3:=zac h3;obtain⟨y,q3,h3⟩:=h3;obtain⟨p3,rfl⟩:=zaF q3;simp only[and_eq_true]at h3;obtain⟨⟨⟨⟨⟨hx,h4⟩,h5⟩,h6⟩,h7⟩,h8⟩:=h3;cases zbl hx;obtain⟨m1,m2,m3⟩:=zcr h6;obtain⟨t1,t2⟩:=zmU h4;obtain⟨a,ea⟩:=zgm h7;have he:=(zaK es G h8).2 a .nil e1 [] ea rfl;have hst:=zaA h8;have eb:b=.isin t:=by cases b with|isin _=>cases qt;rfl|_=>cases qt
  rw[ea,eb];exact zll G (zba G h1) (zba G h5) t2 t1 m3 m1 he (by simpa using hst);rw[and_eq_true,and_eq_true]at h3;cases args with
  |nil=>cases h3.1.2
  |cons a as=>obtain⟨id,hc,hv⟩:=zg3 G h3.1.1;exact zpn hc (zba G h1) hv (zaK es G h3.2).1 (zaA h3.2) n3 n1
 |.mt m o es,N,sc,e,X,G,h=>by
  replace h:=zac h;obtain⟨⟨oe,x,ap,e1,cp⟩,q,h⟩:=h;cases zcg q;simp only[and_eq_true]at h;obtain⟨⟨⟨⟨⟨h1,h2⟩,h3⟩,h4⟩,h5⟩,h6⟩:=h;obtain⟨a,ea⟩:=zgm h4;have he:=(zaK es G h6).2 a .nil e1 [] ea rfl;have hst:zak e1=true:=by simpa using zaA h6
  rw[ea];cases m with| append=>cases zbl h1;exact zpk PySem.F.slot_list_append PySem.F.type_list_append ziT (zae o G h5) he hst h2 h3
 |.mkL l,N,sc,e,X,G,h=>by
  replace h:ite (zfw l=true) _ _=true:=h;split at h;rename_i c;split at h;have ht:zmj l=true:=by cases l with|comp=>rfl|_=>cases c
  exact PE.imp ((zbv l G h).2.1 ht) fun σ H Qv q=>zhO q;replace h:=zac h;obtain⟨⟨x,e1⟩,q,h⟩:=h;obtain⟨p2,p,rfl⟩:=zaV q;simp only[and_eq_true]at h;obtain⟨⟨⟨hx,h1⟩,h2⟩,h4⟩:=h;cases zbl hx;have hr:zj0 l=false:=by cases l with|comp=>rfl|_=>cases c
  exact zkq G (zba G h1) ((zbv l G h4).1 hr) h2;replace h:=zac h;obtain⟨⟨x,e1⟩,q,h⟩:=h;obtain⟨p2,p,rfl⟩:=zaV q;simp only[and_eq_true,or_eq_true,not_eq_true']at h;obtain⟨⟨⟨⟨hx,h1⟩,h2⟩,h3⟩,h4⟩:=h;cases zbl hx;have hl:=zbv l G h4;rcases h3 with h3|h3;exact zkq G (zba G h1) (hl.1 h3) h2;have:∃a,l=.rng1 a:=by cases l with|rng1 a=>exact⟨a,rfl⟩|_=>cases h3
  obtain⟨a,ea⟩:=this;obtain⟨a',p3,p4,rfl,hr,ha,hs⟩:=hl.2.2.2 a ea;rw[ea];exact zlj G (zba G h1) hr ha hs
 |.mkT l,N,sc,e,X,G,h=>by
  replace h:=zac h;obtain⟨⟨x,e1⟩,q,h⟩:=h;obtain⟨p2,p,rfl⟩:=zaV q;simp only[and_eq_true,or_eq_true,not_eq_true']at h;obtain⟨⟨⟨⟨hx,h1⟩,h2⟩,h3⟩,h4⟩:=h;cases zbl hx;have hl:=zbv l G h4;rcases h3 with h3|h3;exact zng G (zba G h1) (hl.1 h3) h2;have:∃a,l=.rng1 a:=by cases l with|rng1 a=>exact⟨a,rfl⟩|_=>cases h3
  obtain⟨a,ea⟩:=this;obtain⟨a',p3,p4,rfl,hr,ha,hs⟩:=hl.2.2.2 a ea;rw[ea];exact zi8 G (zba G h1) hr ha hs
 |.dnew3,N,sc,e,X,G,h=>by obtain⟨p,rfl⟩:=zbR h;exact zjc| .dnew4,N,sc,e,X,G,h=>by obtain⟨p,rfl⟩:=zbR h;exact zjb| .dix3 a b,N,sc,e,X,G,h=>by replace h:=zac h;obtain⟨⟨x,i⟩,q,h⟩:=h;obtain⟨p,rfl⟩:=zb0 q;simp only[and_eq_true]at h;exact zlp G (zae a G h.1.2) (zae b G h.2) (zoq h.1.1)| .ext a l,N,sc,e,X,G,h=>by replace h:=zac h;obtain⟨⟨oe,x,ap,e1,cp⟩,q,h⟩:=h;cases zcg q;simp only[and_eq_true]at h;obtain⟨⟨⟨⟨⟨⟨hx,h1⟩,h2⟩,h3⟩,h4⟩,h5⟩,h6⟩:=h;cases zbl hx;exact znm (zae a G h5) ((zbv l G h6).2.1 h4) h1 h2 h3| .srtK a,N,sc,e,X,G,h=>by replace h:=zac h;obtain⟨⟨o,le⟩,q,h⟩:=h;obtain⟨p1,p2,p3,rfl⟩:=zhp q;simp only[and_eq_true,decide_eq_true_eq]at h;obtain⟨⟨⟨⟨h1,h2⟩,h3⟩,h4⟩,h5⟩:=h;exact zli G h4 (zba G h1) (zae a G h5) h2 h3
theorem zaK:∀(ces:CEs){N:List Str}{sc:Scope}{es:List Expr}{X:Cx},Gd T cf k N sc X->zbh T ces N sc es=true->EsOk cf ces X es
 |.nil,N,sc,es,X,G,h=>by simp only[zbh,isEmpty_iff]at h;subst h;exact⟨zks,fun a r e es' z=>nomatch z⟩| .cons a r,N,sc,es,X,G,h=>by cases es with|nil=>simp[zbh]at h| cons e es=>simp only[zbh,and_eq_true]at h;have he:=zae a G h.1.2;exact⟨zhk he (zaK r G h.2).1 h.1.1,fun a' r' e' es' z1 z2=>by cases z1;cases z2;exact he⟩
theorem zaM:∀(ce:CE){N:List Str}{sc:Scope}{e:Expr}{X:Cx},Gd T cf k N sc X->chkT T ce N sc e=true->PT X e (tT X.K cf ce)/\((∃op v r p,e=.BoolOp op (v::r) p)->PW X e (tT X.K cf ce))
 |.cmp op a b,N,sc,e,X,G,h=>by replace h:=zac h;obtain⟨⟨l,os,rs⟩,q,h⟩:=h;obtain⟨p,rfl⟩:=zeu q;rw[and_eq_true,decide_eq_true_eq]at h;obtain⟨e1,h⟩:=h;replace h:=zac h;obtain⟨r,q2,h⟩:=h;cases za1 q2;cases e1;simp only[and_eq_true]at h;exact⟨zm6 G (zae a G h.1.2) (zae b G h.2) h.1.1,fun⟨_,_,_,_,z⟩=>nomatch z⟩| .nt a,N,sc,e,X,G,h=>by replace h:=zac h;obtain⟨⟨o,x⟩,q,h⟩:=h;obtain⟨p,rfl⟩:=zdJ q;simp only[and_eq_true,decide_eq_true_eq]at h;obtain⟨rfl,h1⟩:=h;exact⟨zpf (zaM a G h1).1,fun⟨_,_,_,_,z⟩=>nomatch z⟩| .and a b,N,sc,e,X,G,h=>by replace h:=zac h;obtain⟨⟨o,vs,p⟩,q,h⟩:=h;cases zbz q;rw[and_eq_true,decide_eq_true_eq]at h;obtain⟨e1,h⟩:=h;cases e1;dsimp only at h;split at h;rename_i x y rest;rw[and_eq_true]at h;obtain⟨h1,h2⟩:=h;split at h2;rename_i c;cases isEmpty_iff.mp c;have w:=zkl (pos:=p) (zaM a G h1).1 (zlF (zaM b G h2).1);exact⟨w.pt,fun _=>w⟩;have w:=zkl (zaM a G h1).1 ((zaM b G h2).2 ⟨_,_,_,_,rfl⟩);exact⟨w.pt,fun _=>w⟩;cases h
 |.or a b,N,sc,e,X,G,h=>by replace h:=zac h;obtain⟨⟨o,vs,p⟩,q,h⟩:=h;cases zbz q;rw[and_eq_true,decide_eq_true_eq]at h;obtain⟨e1,h⟩:=h;cases e1;dsimp only at h;split at h;rename_i x y rest;rw[and_eq_true]at h;obtain⟨h1,h2⟩:=h;split at h2;rename_i c;cases isEmpty_iff.mp c;have w:=zm5 (pos:=p) (zaM a G h1).1 (znE (zaM b G h2).1);exact⟨w.pt,fun _=>w⟩;have w:=zm5 (zaM a G h1).1 ((zaM b G h2).2 ⟨_,_,_,_,rfl⟩);exact⟨w.pt,fun _=>w⟩;cases h
 |.tst a,N,sc,e,X,G,h=>by simp only[chkT,and_eq_true]at h;exact⟨zm4 (zae a G h.2) h.1,fun⟨_,_,_,_,z⟩=>by rw[z]at h;simp[zfU]at h⟩|.loc i,N,sc,e,X,G,h=>absurd h Bool.false_ne_true|.con d,N,sc,e,X,G,h=>absurd h Bool.false_ne_true|.bin op a b,N,sc,e,X,G,h=>absurd h Bool.false_ne_true|.neg a,N,sc,e,X,G,h=>absurd h Bool.false_ne_true|.ite c a b,N,sc,e,X,G,h=>absurd h Bool.false_ne_true|.tup es,N,sc,e,X,G,h=>absurd h Bool.false_ne_true|.lst es,N,sc,e,X,G,h=>absurd h Bool.false_ne_true|.dnew,N,sc,e,X,G,h=>absurd h Bool.false_ne_true|.dgetI a b c,N,sc,e,X,G,h=>absurd h Bool.false_ne_true|.dsetI a b c,N,sc,e,X,G,h=>absurd h Bool.false_ne_true|.extv a b,N,sc,e,X,G,h=>absurd h Bool.false_ne_true|.ix a b,N,sc,e,X,G,h=>absurd h Bool.false_ne_true|.fld a f,N,sc,e,X,G,h=>absurd h Bool.false_ne_true|.mk c f x j es,N,sc,e,X,G,h=>absurd h Bool.false_ne_true|.meth m tb o es,N,sc,e,X,G,h=>absurd h Bool.false_ne_true|.callC f x m es,N,sc,e,X,G,h=>absurd h Bool.false_ne_true|.sl a ml mh lo hi,N,sc,e,X,G,h=>absurd h Bool.false_ne_true|.call f j es,N,sc,e,X,G,h=>absurd h Bool.false_ne_true|.callW f j es,N,sc,e,X,G,h=>absurd h Bool.false_ne_true|.bi b es,N,sc,e,X,G,h=>absurd h Bool.false_ne_true|.mt m o es,N,sc,e,X,G,h=>absurd h Bool.false_ne_true|.mkL l,N,sc,e,X,G,h=>absurd h Bool.false_ne_true|.mkT l,N,sc,e,X,G,h=>absurd h Bool.false_ne_true|.dnew3,N,sc,e,X,G,h=>absurd h Bool.false_ne_true|.dnew4,N,sc,e,X,G,h=>absurd h Bool.false_ne_true|.dix3 a b,N,sc,e,X,G,h=>absurd h Bool.false_ne_true|.ext a l,N,sc,e,X,G,h=>absurd h Bool.false_ne_true|.srtK a,N,sc,e,X,G,h=>absurd h Bool.false_ne_true
theorem zbv:∀(cl:CL){N:List Str}{sc:Scope}{e:Expr}{X:Cx},Gd T cf k N sc X->chkL T cl N sc e=true->LOk T cf k cl X e
 |.val a,N,sc,e,X,G,h=>by simp only[chkL,and_eq_true]at h;have hp:=znc (zae a G h.2);exact⟨fun _=>hp,fun z=>(by cases z),fun tg _=>zkn hp zog,fun a z=>nomatch z⟩| .rng1 a,N,sc,e,X,G,h=>by replace h:=zac h;obtain⟨⟨x,e1⟩,q,h⟩:=h;obtain⟨p2,p,rfl⟩:=zaV q;simp only[and_eq_true]at h;obtain⟨⟨⟨hx,h1⟩,h2⟩,h3⟩:=h;cases zbl hx;have he:=zae a G h3;exact⟨fun z=>(by cases z),fun z=>(by cases z),fun tg _=>zle (zba G h1) he h2,fun a z=>by cases z;exact⟨e1,p2,p,rfl,zba G h1,he,h2⟩⟩| .rng2 a b,N,sc,e,X,G,h=>by replace h:=zac h;obtain⟨⟨x,args⟩,q,h⟩:=h;obtain⟨p2,p,rfl⟩:=zaE q;replace h:=zac h;obtain⟨⟨e1,e2⟩,q2,h⟩:=h;cases two_inv q2;simp only[and_eq_true]at h;obtain⟨⟨⟨⟨⟨hx,h1⟩,h2⟩,h3⟩,h4⟩,h5⟩:=h;cases zbl hx;exact⟨fun z=>(by cases z),fun z=>(by cases z),fun tg _=>zld (zba G h1) (zae a G h4) (zae b G h5) h2 h3,fun a z=>nomatch z⟩| .enum a,N,sc,e,X,G,h=>by replace h:=zac h;obtain⟨⟨x,e1⟩,q,h⟩:=h;obtain⟨p2,p,rfl⟩:=zaV q;simp only[and_eq_true]at h;obtain⟨⟨⟨hx,h1⟩,h2⟩,h3⟩:=h;cases zbl hx;refine⟨fun z=>(by cases z),fun z=>(by cases z),fun tg ht=>?_,fun a z=>nomatch z⟩;cases tg with|Tuple es j pt=>exact zlf (zba G h1) (zae a G h3) h2|_=>cases ht
 |.comp nt js g it c e,N,sc,ex,X,G,h=>by
  replace h:=zac h;obtain⟨⟨elt,gs,scope,p⟩,q,h⟩:=h;cases zfR q;replace h:=zac h;obtain⟨⟨tg,iter,ifs,asy⟩,q2,h⟩:=h;cases za1 q2;rw[and_eq_true,and_eq_true,and_eq_true,and_eq_true,and_eq_true,and_eq_true,and_eq_true,and_eq_true,decide_eq_true_eq,decide_eq_true_eq,decide_eq_true_eq]at h;obtain⟨⟨⟨⟨⟨⟨⟨⟨h1,h2⟩,h3⟩,h4⟩,h5⟩,h6⟩,h7⟩,h8⟩,h9⟩:=h;dsimp only at h1 h2 h3 h4 h5 h6 h7 h8 h9;rw[and_eq_true]at h3;subst h1 h5;have ok:=zgl G h2;have G':=zil G (tgs:=zbQ tg) ok h6;have ht:∀cl C fp s H pn,PTs (zav X (capN X.N (zbQ tg) js) scope cl C fp s H pn) ifs (tT X.K cf c):=fun cl C fp s H pn=>by split at h8;rename_i ce;cases isEmpty_iff.mp ce;exact zfI (X:=zav X (capN X.N (zbQ tg) js) scope cl C fp s H pn) h8;replace h8:=zac h8;obtain⟨t,q3,h8⟩:=h8;cases za1 q3;exact zhy (zaM c (G' cl C fp s H pn) h8).1
  have hp:PE X (.ListComp elt [⟨tg,iter,ifs,0⟩] scope p) (tLt X.K cf (.comp (zbQ tg).length js g it c e)):=PE.imp (zjC X.env.scope (zbQ tg) js G.calm rfl ok ((zbv it G h4).2.2.1 tg h3.2) (fun cl C fp s H pn=>zk1 (G' cl C fp s H pn) h7) ht (fun cl C fp s H pn=>zae e (G' cl C fp s H pn) h9) (zfx h3.1 X.env)) fun σ H Qv q=>zgk G.tab.frm q;exact⟨fun _=>(PE.ofT hp),fun _=>hp,fun tg _=>zkn (PE.ofT hp) zmb,fun a z=>nomatch z⟩
end
end
end R
end
namespace R
open PySem PySem.Spec PyProof.Rows L2
variable[Mks]
section
variable{T:Tab}{cf:CF}{k:Nat}
theorem zk7(G:Gd T cf k N sc X)(hi:N[i]?=some x)(hl:zeN sc x=true)(h:chkE T (.mkL l) N sc (.ListComp elt gs scope p2)=true)(hr:PSs X rest (tS X.K cf r)) :
  PSs X (.Assign [.Name x p] (.ListComp elt gs scope p2) pos::rest) (tS X.K cf (.asg i (.mkL l) r)):=by
 have hw:∃b,swapsWith (.ListComp elt gs scope p2) (some (.Name x p)) pos.line X.env=pure b:=⟨_,rfl⟩;obtain⟨b,hw⟩:=hw;cases b with
 |false=>refine PSs.imp (zaO (zkw (by rw[G.nm];exact G.nd) (by rw[G.nm];exact hi) (G.lc hl).1 (zae (.mkL l) G h) hw (G.lc hl).2) hr) fun E σ H=>ex8 fun δ ι S Q hs hh w lf=>?_;simp[exS,zaa]at w;refine tE.run hs hh w fun d v ι1 H1 S1 x1 hs1 hh1 r1 w1=>?_;exact⟨δ.set i (some d),ι1,S1,Q,hs1.set r1 i,hh1,w1,lf.up x1⟩| true=>
  replace h:ite (zfw l=true) _ _=true:=h;split at h;rename_i c0;split at h;cases l with
  |comp nt js g it c e=>
   replace h:=zac h;obtain⟨⟨elt',gs',scope',p'⟩,q,h⟩:=h;cases zfR q;replace h:=zac h;obtain⟨⟨tg,iter,ifs,asy⟩,q2,h⟩:=h;cases za1 q2;rw[and_eq_true,and_eq_true,and_eq_true,and_eq_true,and_eq_true,and_eq_true,and_eq_true,and_eq_true,decide_eq_true_eq,decide_eq_true_eq,decide_eq_true_eq]at h;obtain⟨⟨⟨⟨⟨⟨⟨⟨h1,h2⟩,h3⟩,h4⟩,h5⟩,h6⟩,h7⟩,h8⟩,h9⟩:=h;rw[and_eq_true]at h3;subst h1 h5;have ok:=zgl G h2;have G':=zil G ok h6;have ht:∀cl C fp s H pn,PTs (zav X (capN X.N (zbQ tg) js) scope cl C fp s H pn) ifs (tT X.K cf c):=fun cl C fp s H pn=>by split at h8;rename_i ce;cases isEmpty_iff.mp ce;exact zfI h8;replace h8:=zac h8;obtain⟨t,q3,h8⟩:=h8;cases za1 q3;exact zhy (zaM c (G' cl C fp s H pn) h8).1
   have he:∀cl C fp s H pn,PE (zav X (capN X.N (zbQ tg) js) scope cl C fp s H pn) elt (tE X.K cf e):=fun cl C fp s H pn=>zae e (G' cl C fp s H pn) h9;have hg:∀cl C fp s H pn,PG (zav X (capN X.N (zbQ tg) js) scope cl C fp s H pn) tg (tG X.K g):=fun cl C fp s H pn=>zk1 (G' cl C fp s H pn) h7;have hps:=zlL X.env.scope (zbQ tg) js (by rw[G.nm];exact G.nd) (by rw[G.nm];exact hi) (G.lc hl).1 G.calm rfl ok ((zbv it G h4).2.2.1 tg h3.2) hg ht he hw (zfx h3.1 X.env) (G.lc hl).2;exact zk9 G hi ⟨_,hps,fun σ H Qv q=>zgk G.tab.frm (zhO q)⟩ hr
  |_=>cases c0
  cases h;cases h
theorem zmz(h:za2 v=false)(hc:chkE T e N sc v=true):∃l elt gs scope p,v=.ListComp elt gs scope p/\e=.mkL l:=by
 cases v with
 |ListComp elt gs scope p=>cases e with|mkL l=>exact⟨l,elt,gs,scope,p,rfl,rfl⟩|_=>exact absurd hc Bool.false_ne_true
 |SetComp=>cases e<;>first|exact absurd hc Bool.false_ne_true|(rename_i l;cases l<;>exact absurd hc Bool.false_ne_true)
 |DictComp=>cases e<;>first|exact absurd hc Bool.false_ne_true|(rename_i l;cases l<;>exact absurd hc Bool.false_ne_true)
 |_=>cases h
theorem zaN:∀(cs:CS){N:List Str}{sc:Scope}{st:List Stmt}{X:Cx},Gd T cf k N sc X->chkS T cs N sc st=true->PSs X st (tS X.K cf cs)
 |.nil,N,sc,st,X,G,h=>by simp[chkS,isEmpty_iff]at h;subst h;exact zm8|.stop,N,sc,st,X,G,h=>fun pins s σ H E I ⟨δ,ι,S,Q,hs,hh,w,l⟩=>(by simp only[exS]at w;exact w.elim)| .asg i e r,N,sc,st,X,G,h=>by cases st with|nil=>simp[chkS]at h| cons s rest=>replace h:=zac h;obtain⟨⟨tg,v,pos⟩,q,h⟩:=h;cases zb1 q;replace h:=zac h;obtain⟨x,q2,h⟩:=h;obtain⟨p,hx⟩:=zaF q2;subst hx;simp at h;obtain⟨⟨⟨h1,h2⟩,h3⟩,h4⟩:=h;have hr:=zaN r G h4;cases hn:za2 v with|true=>exact zna G h1 h2 (zae e G h3) hn hr| false=>obtain⟨l,elt,gs,scope,p2,rfl,rfl⟩:=zmz hn h3;exact zk7 G h1 h2 h3 hr
 |.asgT g e r,N,sc,st,X,G,h=>by cases st with|nil=>simp[chkS]at h| cons s rest=>replace h:=zac h;obtain⟨⟨tg,v,pos⟩,q,h⟩:=h;cases zb1 q;replace h:=zac h;obtain⟨es,q2,h⟩:=h;obtain⟨j,p,hx⟩:=zcD q2;subst hx;simp only[and_eq_true,decide_eq_true_eq]at h;obtain⟨⟨⟨⟨h1,h2⟩,h3⟩,h4⟩,h5⟩:=h;refine zk8 G h3 h2 (zae e G h4) ?_ (zaN r G h5);rw[or_eq_true]at h1;rcases h1 with h1|h1;obtain⟨x,hx⟩:=Option.isSome_iff_exists.mp h1;obtain⟨p2,hv⟩:=zaF hx;exact .inl ⟨x,p2,hv⟩;obtain⟨⟨x,as⟩,hx⟩:=Option.isSome_iff_exists.mp h1;obtain⟨p2,p3,hv⟩:=zaE hx;exact .inr ⟨_,_,_,_,hv⟩
 |.setF a f e r,N,sc,st,X,G,h=>by cases st with|nil=>simp[chkS]at h| cons s rest=>replace h:=zac h;obtain⟨⟨tg,v,pos⟩,q,h⟩:=h;cases zb1 q;replace h:=zac h;obtain⟨⟨o,f',p⟩,q2,h⟩:=h;have hx:=zbA q2;subst hx;simp only[and_eq_true,decide_eq_true_eq]at h;obtain⟨⟨⟨⟨⟨h1,h2⟩,h3⟩,h4⟩,h5⟩,h6⟩:=h;subst h1;exact zk5 G h2 (zae a G h4) (zae e G h5) h3 (zaN r G h6)
 |.setIx a b e r,N,sc,st,X,G,h=>by cases st with|nil=>simp[chkS]at h| cons s rest=>replace h:=zac h;obtain⟨⟨tg,v,pos⟩,q,h⟩:=h;cases zb1 q;replace h:=zac h;obtain⟨⟨o,i⟩,q2,h⟩:=h;obtain⟨p,hx⟩:=zb0 q2;subst hx;simp at h;obtain⟨⟨⟨⟨h1,h2⟩,h3⟩,h4⟩,h5⟩:=h;exact zi3 G (zae a G h2) (zae b G h3) (zae e G h4) h1 (zaN r G h5)
 |.ifS c t u r,N,sc,st,X,G,h=>by cases st with|nil=>simp[chkS]at h| cons s rest=>replace h:=zac h;obtain⟨⟨e,a,b⟩,q,h⟩:=h;obtain⟨p,rfl⟩:=zhr q;simp at h;exact zpg (zaM c G h.1.1.1).1 (zaN t G h.1.1.2) (zaN u G h.1.2) (zaN r G h.2)
 |.forS g l b r,N,sc,st,X,G,h=>by cases st with|nil=>simp[chkS]at h| cons s rest=>replace h:=zac h;obtain⟨⟨tg,it,body⟩,q,h⟩:=h;obtain⟨p,rfl⟩:=zhs q;simp only[and_eq_true]at h;obtain⟨⟨⟨⟨h1,h2⟩,h3⟩,h4⟩,h5⟩:=h;exact zm9 G ((zbv l G h2).2.2.1 tg h5.2) (zk1 G h5.1) (zaN b G h3) h1 (zaN r G h4)
 |.ret e r,N,sc,st,X,G,h=>by cases st with|nil=>simp[chkS]at h| cons s rest=>replace h:=zac h;obtain⟨v,q,h⟩:=h;obtain⟨p,rfl⟩:=zhq q;simp at h;exact zm7 (zae e G h.1) (zaN r G h.2)
 |.expr e r,N,sc,st,X,G,h=>by cases st with|nil=>simp[chkS]at h| cons s rest=>replace h:=zac h;obtain⟨v,q,h⟩:=h;obtain⟨p,rfl⟩:=zht q;simp at h;exact zk6 (zae e G h.1.2) h.1.1 (zaN r G h.2)
theorem RS.start{K:Frag}(r:RVs K ι H ds vs)(hl:ds.length=F.np)(hn:F.nn=N.length):RS K ι H (zau F ds) (L2.start N vs):=by
 have hlen:=r.length;refine⟨by simp[zau,L2.start,hlen,hl,hn],fun i d e=>?_⟩;unfold zau at e;unfold L2.start;by_cases hi:i<ds.length;rw[getElem?_append_left (by simpa using hi),getElem?_map]at e;rw[getElem?_append_left (by simpa[hlen]using hi),getElem?_map];cases z:ds[i]? with
 |none=>rw[z]at e;cases e
 |some d'=>rw[z]at e;simp at e;subst e;obtain⟨v,ev,rv⟩:=r.get z;exact⟨v,by rw[ev];rfl,rv⟩
 . rw[getElem?_append_right (by simpa using hi),List.getElem?_replicate]at e;split at e<;>cases e
def ChkD(T:Tab)(b:CS)(N:List Str)(sc:Scope)(st:List Stmt):Prop:=chkS T b N sc st=true/\N≠T.lam
structure DefOk(K:Frag)(mg:Str->Option Value)(T:Tab)(Pg:List Fn)(fi:Nat)(x:Str)(ps:List Str)(nd:Nat):Prop where
 ex:∃(F:Fn) (qual:Str) (st:Stmt) (dV:Value) (f:Addr) (fd:FuncData) (N:List Str),Pg[fi]?=some F/\F.prim=none/\FunV K x qual st dV f fd/\FnScope N ps (zab st)/\ChkD T F.body N (zab st) (zan st)/\F.np=ps.length/\F.nn=N.length/\
  mg x=some (.ref f)/\∀j,j<=nd->Binds K fd ps (List.replicate j Value.none)
theorem zb5(Pg:List Fn):∀n:Nat,CFok (callF Pg n)
 |0,f,ds,S,d,T',h=>by cases h| n+1,f,ds,S,d,T',h=>by
  simp[callF]at h;cases e:Pg[f]? with
  |none=>rw[e]at h;cases h
  |some F=>
   rw[e]at h;dsimp only at h;split at h
   . cases ep:F.prim with
     |some p=>
      cases p with
      |lam=>
       rw[ep]at h;dsimp only at h;split at h
       . skip
         cases ex:exS (callF Pg n) F.body (zau F ds) S with
         |ok r T2=>
          rw[ex]at h;have hf:=zco (zb5 Pg n) F.body (zau F ds) S (fun r' T3=>r'=r/\T3=T2) (by rw[ex];exact⟨rfl,rfl⟩);rw[ex]at hf;cases r with
          |nx δ=>injection h with _ h2;rw[<-h2];exact hf.2
          |rt z=>injection h with _ h2;rw[<-h2];exact hf.2
         |bad=>rw[ex]at h;cases h
       cases h
     |none=>
     rw[ep]at h;cases ex:exS (callF Pg n) F.body (zau F ds) S with
     |ok r T2=>
      rw[ex]at h;have hf:=zco (zb5 Pg n) F.body (zau F ds) S (fun r' T3=>r'=r/\T3=T2) (by rw[ex];exact⟨rfl,rfl⟩);rw[ex]at hf;cases r with
      |nx δ=>injection h with _ h2;rw[<-h2];exact hf.2
      |rt z=>injection h with _ h2;rw[<-h2];exact hf.2
     |bad=>rw[ex]at h;cases h
   cases h
variable{P:Program}{w:World}{K:Frag}{mg:Str->Option Value}{base:Heap}{Pg:List Fn}
theorem zce{ps:List Str}(hP:Pg[fi]?=some F)(hp:F.np=ps.length)(h:spF K (callF Pg n) fi vs H Q E):vs.length=ps.length:=by obtain⟨ι,S,ds,r,hh,w⟩:=h;rw[r.length];cases n with|zero=>exact w.elim| succ n=>simp[callF,hP]at w;split at w;rename_i c;rw[c,hp];exact w.elim
theorem ziE{st:Stmt}(tab:TabOk T (callF Pg n) m P w K mg base)(FV:FunV K x qual st dV f fd)(hP:Pg[fi]?=some F)(S:FnScope N ps (zab st))(ck:ChkD T F.body N (zab st) (zan st))(hp:F.np=ps.length)(hn:F.nn=N.length)(hq:F.prim=none:=by rfl) :
  FnOk P w K mg base CX0 (m+2) f fd ps (spF K (callF Pg (n+1)) fi):=by
 refine FV.ok S (fun vs H Q E h=>zce hP hp h) fun cdv A outer s H vs Q E hr h=>?_;obtain⟨ι,S0,ds,r,hh,hw⟩:=h;have G:Gd T (callF Pg n) m N (zab st) (cxOf CX0 P w K mg base N qual (zab st) f cdv A outer s H E).nox:=⟨rfl,S.nd,fun x e=>e,fun x e=>e,fun x e=>.inl e,fun x e=>e,.inl fun _=>rfl,rfl,rfl,hr,tab,fun z=>absurd z ck.2⟩;refine⟨_,zaN F.body G ck.1,?_⟩;simp[callF,hP,hq]at hw;split at hw;rename_i c;rw[zaa]at hw;refine⟨zau F ds,ι,S0,_,RS.start r c hn,hh,hw,?_⟩;intro fl ι' H' S' x' hh' q;cases fl with|nx δ'=>exact fun σ' hs'=>q .non H' ι' x' rfl hh'|rt d=>exact fun v rv=>q v H' ι' x' rv hh'
 exact hw.elim
structure MOk(K:Frag)(T:Tab)(Pg:List Fn)(fi j:Nat)(Ex:Addr->Prop):Prop where
 ex:∃(F:Fn) (x qual:Str) (st:Stmt) (dV:Value) (f:Addr) (fd:FuncData) (N ps:List Str),Pg[fi]?=some F/\F.prim=none/\FunV K x qual st dV f fd/\FnScope N ps (zab st)/\ChkD T F.body N (zab st) (zan st)/\F.np=ps.length/\F.nn=N.length/\
  Binds K fd ps (List.replicate j Value.none)/\Ex f
theorem zdT(z:MOk K T Pg fi j Ex):∃f fd ps,Ex f/\keepIn K (.ref f)=true/\Binds K fd ps (List.replicate j Value.none)/\FnOk P w K mg base CX0 0 f fd ps (spF K (callF Pg 0) fi):=by obtain⟨F,x,qual,st,dV,f,fd,N,ps,hP,hq,FV,S,ck,hp,hn,hb,e⟩:=z.ex;refine⟨f,fd,ps,e,FV.kp,hb,⟨fun vs H Q E h=>zce hP hp h,fun A outer s H args us vs Q E hr e0 b v h=>?_⟩⟩;obtain⟨ι,S,ds,r,hh,w⟩:=h;exact w.elim
theorem zdU(tab:TabOk T (callF Pg n) m P w K mg base)(z:MOk K T Pg fi j Ex):∃f fd ps,Ex f/\keepIn K (.ref f)=true/\Binds K fd ps (List.replicate j Value.none)/\FnOk P w K mg base CX0 (m+2) f fd ps (spF K (callF Pg (n+1)) fi):=by obtain⟨F,x,qual,st,dV,f,fd,N,ps,hP,hq,FV,S,ck,hp,hn,hb,e⟩:=z.ex;exact⟨f,fd,ps,e,FV.kp,hb,ziE tab FV hP S ck hp hn hq⟩
def ExM(K:Frag)(c:Nat)(m:Str)(f:Addr):Prop:=∃C,Mks.cl[c]?=some C/\Cls K C/\Meth K C m f
def ExI(K:Frag)(c:Nat)(f:Addr):Prop:=∃C,Mks.cl[c]?=some C/\Mk K C f
def ExC(K:Frag)(mg:Str->Option Value)(x m:Str)(f:Addr):Prop:=∃(C:Addr) (mc:Value),mg x=some (.ref C)/\specialIn K (.ref C) "__getattribute__"=some (some (.builtin "type.__getattribute__"))/\readsIn K C mc=true/\findCls K (.ref C) mc m=some (.val (.ref f))
structure ClsOk(T:Tab)(K:Frag)(mg:Str->Option Value)(Pg:List Fn):Prop where
 cls:∀(c:Nat)(x:Str),T.cls[c]?=some x->∃C,Mks.cl[c]?=some C/\Cls K C/\mg x=some (.ref C)/\∀f,T.flds.contains f=true->NoAttr K C f
 mth:∀(c:Nat)(m:Str)(fi:Nat),T.mts.contains (c,m,fi)=true->MOk K T Pg fi 0 (ExM K c m)
 ini:∀(c fi j:Nat),T.inits.contains (c,fi,j)=true->MOk K T Pg fi j (ExI K c)
 cmd:∀(x m:Str)(fi:Nat),T.cms.contains (x,m,fi)=true->MOk K T Pg fi 0 (ExC K mg x m)
 cln:Mks.cl.length<=T.cls.length
 isa:∀(x:Str)(cs:List Nat),T.isas.contains (x,cs)=true->∃D,mg x=some (.ref D)/\∀c C,Mks.cl[c]?=some C->IsaOk K C/\kitOne K (.ref C) (.ref D)=some (cs.contains c)
theorem zih(h:∃f fd ps,ExM K c m f/\keepIn K (.ref f)=true/\Binds K fd ps []/\FnOk P w K mg base CX0 k f fd ps (spF K cf fi)):HasM P w K mg base k c m (spF K cf fi):=by obtain⟨f,fd,ps,⟨C,h1,h2,h3⟩,_,h4,h5⟩:=h;exact⟨C,f,fd,ps,h1,h2,h3,h5,h4⟩
theorem zii(h:∃f fd ps,ExI K c f/\keepIn K (.ref f)=true/\Binds K fd ps (List.replicate j Value.none)/\FnOk P w K mg base CX0 k f fd ps (spF K cf fi)):HasI P w K mg base k c j (spF K cf fi):=by obtain⟨f,fd,ps,⟨C,h1,h2⟩,_,h4,h5⟩:=h;exact⟨C,f,fd,ps,h1,h2,h5,h4⟩
theorem zij(h:∃f fd ps,ExC K mg x m f/\keepIn K (.ref f)=true/\Binds K fd ps []/\FnOk P w K mg base CX0 k f fd ps (spF K cf fi)):HasC P w K mg base k x m (spF K cf fi):=by obtain⟨f,fd,ps,⟨C,mc,h1,h2,h3,h6⟩,h7,h4,h5⟩:=h;exact⟨C,f,fd,ps,mc,h1,h2,h3,h6,h7,h5,h4⟩
structure PrimOk(P:Program)(w:World)(K:Frag)(mg:Str->Option Value)(base:Heap)(T:Tab)(Pg:List Fn)(fi:Nat)(x:Str)(ps:List Str)(nd:Nat):Prop where
 ex:∃(F:Fn) (p:Prim) (f:Addr) (fd:FuncData),Pg[fi]?=some F/\F.prim=some p/\F.np=ps.length/\mg x=some (.ref f)/\keepIn K (.ref f)=true/\(∀j,j<=nd->Binds K fd ps (List.replicate j Value.none))/\
  ∀n,3<=n->TabOk T (callF Pg n) (2*n) P w K mg base->FnOk P w K mg base CX0 (2*n+2) f fd ps (spF K (callF Pg (n+1)) fi)
theorem zm0(hb:∀x,T.blt.contains x=true->mg x=none)(hc:∀x d,T.cons.lookup x=some d->zlr d=true/\∃u,mg x=some u/\RelV (sV d) u)(hd:∀fi x ps nd,T.fns[fi]?=some (x,ps,nd)->DefOk K mg T Pg fi x ps nd\/PrimOk P w K mg base T Pg fi x ps nd)(hk:ClsOk T K mg Pg) :
  ∀n,TabOk T (callF Pg n) (2*n) P w K mg base:=by
 intro n;induction n with
 |zero=>refine⟨hb,hc,fun fi x ps nd hf j hj=>?_,zb5 Pg 0,hk.cls,fun c m fi h=>zih (zdT (hk.mth c m fi h)),fun c fi j h=>zii (zdT (hk.ini c fi j h)),fun x m fi h=>zij (zdT (hk.cmd x m fi h)),fun _=>hk.cln,hk.isa⟩;rcases hd fi x ps nd hf with z|z;obtain⟨F,qual,st,dV,f,fd,N,hP,hq,FV,S,ck,hp,hn,hm,hbd⟩:=z.ex;refine⟨f,fd,_,⟨fun vs H Q E h=>zce hP hp h,fun A outer s H args us vs Q E hr e0 b v h=>?_⟩,hm,FV.kp,hbd j hj,Vals.nons j⟩;obtain⟨ι,S,ds,r,hh,w⟩:=h;exact w.elim;obtain⟨F,p,f,fd,hP,hq,hp,hm,kp,hbd,ok⟩:=z.ex;refine⟨f,fd,_,⟨fun vs H Q E h=>zce hP hp h,fun A outer s H args us vs Q E hr e0 b v h=>?_⟩,hm,kp,hbd j hj,Vals.nons j⟩;obtain⟨ι,S,ds,r,hh,w⟩:=h;exact w.elim
 |succ n ih=>
  refine⟨hb,hc,fun fi x ps nd hf j hj=>?_,zb5 Pg (n+1),hk.cls,fun c m fi h=>zih (zdU ih (hk.mth c m fi h)),fun c fi j h=>zii (zdU ih (hk.ini c fi j h)),fun x m fi h=>zij (zdU ih (hk.cmd x m fi h)),fun _=>hk.cln,hk.isa⟩;rcases hd fi x ps nd hf with z|z;obtain⟨F,qual,st,dV,f,fd,N,hP,hq,FV,S,ck,hp,hn,hm,hbd⟩:=z.ex;refine⟨f,fd,_,?_,hm,FV.kp,hbd j hj,Vals.nons j⟩;exact ziE ih FV hP S ck hp hn hq;obtain⟨F,p,f,fd,hP,hq,hp,hm,kp,hbd,ok⟩:=z.ex;refine⟨f,fd,_,?_,hm,kp,hbd j hj,Vals.nons j⟩;by_cases c:3<=n;exact(ok n c ih).mono (by omega)
  . refine⟨fun vs H Q E h=>zce hP hp h,fun A outer s H args us vs Q E hr e0 b v h=>?_⟩;obtain⟨ι,S,ds,r,hh,w⟩:=h;cases p<;>(simp[callF,hP,hq]at w;split at w<;>exact w.elim)
def AllAtG{α:Type}(P:Nat->α->Prop):Nat->List α->Prop
 |_,[]=>True|k,a::r=>P k a/\AllAtG P (k+1) r
theorem zkR{P:Nat->α->Prop}:∀{l:List α}{k:Nat},AllAtG P k l->∀(i:Nat)(a:α),l[i]?=some a->P (k+i) a
 | [],_,_,i,a,h=>by simp at h|b::r,k,q,0,a,h=>by cases h;exact q.1| b::r,k,q,i+1,a,h=>by
  have:=zkR q.2 i a (by simpa using h)
  rwa [Nat.add_right_comm]at this
theorem AllAt.get{P:Nat->α->Prop}(q:AllAtG P 0 l)(i:Nat)(a:α)(h:l[i]?=some a):P i a:=zero_add i▸zkR q i a h
def AllInG{α:Type}(P:α->Prop):List α->Prop
 | []=>True|a::r=>P a/\AllInG P r
theorem AllIn.get[BEq α][LawfulBEq α]{P:α->Prop}:∀{l:List α},AllInG P l->∀a,l.contains a=true->P a
 | [],_,a,h=>by simp at h| b::r,q,a,h=>by rw[List.contains_cons,or_eq_true]at h;rcases h with h|h;rw[eq_of_beq h];exact q.1;exact AllIn.get q.2 a h
theorem law_spT{ns:List Int}(hx:FixL K H a (ns.map V.int))(tb:TB H)
  (law:W (callF Pg k fi [.fix (ns.map .int)] ⟨[],[],[]⟩) fun d _=>d=.bl true):spF K (callF Pg k) fi [.ref a] H (fun v _=>v=.bl true) fun _ _ _=>False:=by
 refine⟨[],⟨[],[],[]⟩,[.fix (ns.map .int)],⟨.ref a,[],rfl,⟨a,_,rfl,hx,RVs.ints ns⟩,rfl⟩,⟨rfl,List.nodup_nil,fun l o e=>(by simp[St.get]at e),tb⟩,?_⟩;obtain⟨d,T',e,q⟩:=ze9 law;rw[e];intro v H' ι' x r hT;subst q;exact r
end
noncomputable def okD(T:Tab)(F:Fn)(N ps:List Str)(st:Stmt):Bool:=
 decide ((zab st).kind=.function)&&(!(zab st).isCoroutine&&(!(zab st).isGenerator&&(decide N.Nodup&&(decide (N.take ps.length=ps)&&(ps.all (fun x=>decide ((zab st).names.lookup x=some .local)||decide ((zab st).names.lookup x=some .cell)) &&
  ((zab st).names.all (fun y=>decide (y.2≠.free))&&(chkS T F.body N (zab st) (zan st)&&(decide (F.np=ps.length)&&(decide (F.nn=N.length)&&(F.prim.isNone&&decide (N≠T.lam)))))))))))
structure OkD(T:Tab)(Pg:List Fn)(fi:Nat)(x q:Str)(ps:List Str)(st:Stmt):Prop where
 ex:∃(F:Fn) (N:List Str),Pg[fi]?=some F/\F.prim=none/\FnScope N ps (zab st)/\ChkD T F.body N (zab st) (zan st)/\F.np=ps.length/\F.nn=N.length
 bd:∀(kV doc pm:Value)(an:Option Addr)(cdv ct:Value)(us:List Value),us.length=ps.length->bindArgs (fnOf x q (zas st) (zan st) (zab st) .none kV doc pm an cdv ct) ⟨us,[]⟩=pure (ps.zip us)
theorem zaB{st:Stmt}(N:List Str)(e:Pg[fi]?=some F)(h:okD T F N ps st=true)
  (b:∀(kV doc pm:Value)(an:Option Addr)(cdv ct:Value)(us:List Value),us.length=ps.length->bindArgs (fnOf x q (zas st) (zan st) (zab st) .none kV doc pm an cdv ct) ⟨us,[]⟩=pure (ps.zip us)):OkD T Pg fi x q ps st:=by
 simp only[okD,and_eq_true,not_eq_true',decide_eq_true_eq,all_eq_true,or_eq_true,Option.isNone_iff_eq_none]at h;obtain⟨h1,h2,h3,h4,h5,h6,h7,h8,h9,h10,h11,h12⟩:=h;exact⟨⟨F,N,e,h11,⟨h1,h2,h3,h4,h5,h6,h7⟩,⟨h8,h12⟩,h9,h10⟩,b⟩
theorem AllInG.cons(h:P a)(t:AllInG P r):AllInG P (a::r):=⟨h,t⟩
theorem AllAtG.cons(h:P k a)(t:AllAtG P (k+1) r):AllAtG P k (a::r):=⟨h,t⟩
theorem AllInG.mem:∀{l:List α},AllInG P l->∀a∈l,P a
 |b::r,q,a,h=>by rcases mem_cons.mp h with rfl|h;exact q.1;exact AllInG.mem q.2 a h
section
variable{P:Program}{w:World}{K:Frag}{h base:Heap}{mg:Str->Option Value}{T:Tab}{Pg:List Fn}{fi c:Nat}{x q m:Str}{ps:List Str}{st:Stmt}{f C:Addr}{oc kV dc pm cd ct:Value}{od an:Option Addr}{sl:Array (Option Value)}
theorem dOk(X:K.In h)(G:h.Ns mainGlobals mg)(o:OkD T Pg fi x x ps st)(a:nsIn K mainGlobals x=some (some (.ref f)))(l:K.lookup f=some ⟨oc,od,.func (fnOf x x (zas st) (zan st) (zab st) .none kV dc pm an cd ct),sl⟩)(c:codeIn K cd x=true)
  (k:keepIn K (.ref f)=true):DefOk K mg T Pg fi x ps 0\/PrimOk P w K mg base T Pg fi x ps 0:=by
 obtain⟨F,N,h1,h2,h3,h4,h5,h6⟩:=o.ex;have FV:=zd6 l c k;exact .inl ⟨⟨F,x,st,_,f,_,N,h1,h2,FV,h3,h4,h5,h6,mg_of X G a,fun j hj=>(Nat.le_zero.mp hj).symm▸FV.binds o.bd⟩⟩
def ClAt(K:Frag)(mg:Str->Option Value)(T:Tab)(c:Nat)(x:Str):Prop:=∃C,Mks.cl[c]?=some C/\Cls K C/\mg x=some (.ref C)/\∀f,T.flds.contains f=true->NoAttr K C f
theorem clOk(X:K.In h)(G:h.Ns mainGlobals mg)(e:Mks.cl[c]?=some C)(a:nsIn K mainGlobals x=some (some (.ref C)))(pg:plainGet K C Str.empty=true)(hd:hasDictIn K C=true)(po:plainOver K C=true)
  (sa:findIn K (.ref C) "__setattr__"=some (some (.builtin "object.__setattr__"))) (n:AllInG (fun f=>findIn K (.ref C) f=some none) T.flds):ClAt K mg T c x:=
 ⟨C,e,⟨pg,hd,po,sa⟩,mg_of X G a,AllIn.get n⟩
theorem mOk0(o:OkD T Pg fi m q ps st)(l:K.lookup f=some ⟨oc,od,.func (fnOf m q (zas st) (zan st) (zab st) .none kV dc pm an cd ct),sl⟩)(cc:codeIn K cd q=true)(k:keepIn K (.ref f)=true)(e:Ex f):MOk K T Pg fi 0 Ex:=by obtain⟨F,N,h1,h2,h3,h4,h5,h6⟩:=o.ex;have FV:=zd6 l cc k;exact⟨⟨F,m,q,st,_,f,_,N,ps,h1,h2,FV,h3,h4,h5,h6,FV.binds o.bd,e⟩⟩
theorem mOk(hc:AllAtG (ClAt K mg T) 0 T.cls)(o:OkD T Pg fi m q ps st)(e:Mks.cl[c]?=some C)(ex:T.cls[c]?=some x)(t:findIn K (.ref C) m=some (some (.ref f)))(l:K.lookup f=some ⟨oc,od,.func (fnOf m q (zas st) (zan st) (zab st) .none kV dc pm an cd ct),sl⟩)
  (cc:codeIn K cd q=true) (k:keepIn K (.ref f)=true) (i:isFn K (.ref f)=true):MOk K T Pg fi 0 (ExM K c m):=by
 obtain⟨C',e',h1,_⟩:=AllAt.get hc c x ex;exact mOk0 o l cc k ⟨C',e',h1,by rw[e]at e';cases e';exact⟨t,i,k⟩⟩
theorem iOk(o:OkD T Pg fi "__init__" q ps st)(e:Mks.cl[c]?=some C)(mk:makesIn K C=true)(t:findIn K (.ref C) "__init__"=some (some (.ref f)))(kc:keepIn K (.ref C)=true)(l:K.lookup f=some ⟨oc,od,.func (fnOf "__init__" q (zas st) (zan st) (zab st) .none kV dc pm an cd ct),sl⟩)
 (cc:codeIn K cd q=true) (k:keepIn K (.ref f)=true) (i:isFn K (.ref f)=true):MOk K T Pg fi 0 (ExI K c):=mOk0 o l cc k ⟨C,e,mk,t,i,kc⟩
theorem cOk(X:K.In h)(G:h.Ns mainGlobals mg)(o:OkD T Pg fi m q ps st)(a:nsIn K mainGlobals x=some (some (.ref C)))(g:specialIn K (.ref C) "__getattribute__"=some (some (.builtin "type.__getattribute__")))(r:readsIn K C (.type "type")=true)
  (t:findCls K (.ref C) (.type "type") m=some (.val (.ref f))) (l:K.lookup f=some ⟨oc,od,.func (fnOf m q (zas st) (zan st) (zab st) .none kV dc pm an cd ct),sl⟩) (cc:codeIn K cd q=true) (k:keepIn K (.ref f)=true):MOk K T Pg fi 0 (ExC K mg x m):=
 mOk0 o l cc k ⟨C,_,mg_of X G a,g,r,t⟩
def IsAt(K:Frag)(mg:Str->Option Value)(z:Str×List Nat):Prop:=∃D,mg z.1=some (.ref D)/\∀c C,Mks.cl[c]?=some C->IsaOk K C/\kitOne K (.ref C) (.ref D)=some (z.2.contains c)
def CoAt(K:Frag)(z:Str×D):Prop:=∃i t,z.2=.int i/\nsIn K mainGlobals z.1=some (some (.int i t))
end
noncomputable def okL(T:Tab)(F:Fn)(ps:List Str)(st:Stmt):Bool:=
 decide ((zab st).kind=.function)&&(!(zab st).isCoroutine&&(!(zab st).isGenerator&&(decide T.lam.Nodup&&(decide (T.lam.take ps.length=ps)&&(ps.all (fun x=>decide ((zab st).names.lookup x=some .local)||decide ((zab st).names.lookup x=some .cell)) &&
  ((zab st).names.all (fun y=>decide (y.2≠.free))&&(chkS T F.body T.lam (zab st) (zan st)&&(decide (F.np=ps.length)&&decide (F.nn=T.lam.length)))))))))
structure OkL(T:Tab)(Pg:List Fn)(fi:Nat)(x:Str)(ps:List Str)(nd:Nat)(st:Stmt):Prop where
 ex:∃F:Fn,Pg[fi]?=some F/\F.prim=some .lam/\FnScope T.lam ps (zab st)/\chkS T F.body T.lam (zab st) (zan st)=true/\F.np=ps.length/\F.nn=T.lam.length
theorem zn8{st:Stmt}(e:Pg[fi]?=some F)(hp:F.prim=some .lam)(h:okL T F ps st=true):OkL T Pg fi x ps nd st:=by simp only[okL,and_eq_true,not_eq_true',decide_eq_true_eq,all_eq_true,or_eq_true]at h;obtain⟨h1,h2,h3,h4,h5,h6,h7,h8,h9,h10⟩:=h;exact⟨F,e,hp,⟨h1,h2,h3,h4,h5,h6,h7⟩,h8,h9,h10⟩
theorem zoj{K:Frag}{st:Stmt}{dV kV doc pm ct:Value}
  (lk:K.lookup f=some ⟨oc,od,.func (fnOf x qual (zas st) (zan st) (zab st) dV kV doc pm an (.ref c) ct),osl⟩) (hcd:codeIn K (.ref c) qual=true) (hC:codeHdIn K c T.lamP=true) (bm:BM mg base)
  (mem:(T.lamP,qual ++ ".<locals>." ++ "<lambda>")∈Mks.ts) (one:∀p∈Mks.ts,p.1=T.lamP->p.2=qual ++ ".<locals>." ++ "<lambda>") (S:FnScope T.lam ps (zab st)) (ck:chkS T F.body T.lam (zab st) (zan st)=true) (hP:Pg[fi]?=some F) (hq:F.prim=some .lam) (hp:F.np=ps.length) (hn:F.nn=T.lam.length)
  (h3:3<=n) (hm:3<=m) (tab:TabOk T (callF Pg n) m P w K mg base) :
  FnOk P w K mg base CX0 (m+2) f (fnOf x qual (zas st) (zan st) (zab st) dV kV doc pm an (.ref c) ct) ps (spF K (callF Pg (n+1)) fi):=by
 refine zov lk hcd S (fun vs H Q E h=>zce hP hp h) fun A outer s H vs Q E hr h=>?_;obtain⟨ι,S0,ds,r,hh,hw⟩:=h;have G:Gd T (callF Pg n) m T.lam (zab st) (cxOf CX0 P w K mg base T.lam qual (zab st) f (.ref c) A outer s H E).nox:=⟨rfl,S.nd,fun x e=>e,fun x e=>e,fun x e=>.inl e,fun x e=>e,.inl fun _=>rfl,rfl,rfl,hr,tab,fun _=>⟨hm,c,⟨bm,rfl,hC,mem,one⟩⟩⟩;refine⟨_,(zaN F.body G ck).nox,?_⟩;simp[callF,hP,hq]at hw;split at hw;rename_i c;rw[zaa]at hw;refine⟨zau F ds,ι,S0,_,RS.start r c hn,hh,hw,?_⟩;intro fl ι' H' S' x' hh' q;cases fl with|nx δ'=>exact fun σ' hs'=>q .non H' ι' x' rfl hh'|rt d=>exact fun v rv=>q v H' ι' x' rv hh'
 exact hw.elim
theorem lOk{K:Frag}{st:Stmt}{oc dV kV doc pm ct:Value}(X:K.In h)(G:h.Ns mainGlobals mg)(bm:BM mg base)(o:OkL T Pg fi x ps nd st)
  (mem:(T.lamP,x ++ ".<locals>." ++ "<lambda>")∈Mks.ts) (one:∀p∈Mks.ts,p.1=T.lamP->p.2=x ++ ".<locals>." ++ "<lambda>")
  (bd:∀j,j<=nd->Binds K (fnOf x x (zas st) (zan st) (zab st) dV kV doc pm an (.ref c) ct) ps (List.replicate j Value.none))
  (a:nsIn K mainGlobals x=some (some (.ref f))) (l:K.lookup f=some ⟨oc,od,.func (fnOf x x (zas st) (zan st) (zab st) dV kV doc pm an (.ref c) ct),sl⟩) (cc:codeIn K (.ref c) x=true)
  (k:keepIn K (.ref f)=true) (e:codeHdIn K c T.lamP=true):DefOk K mg T Pg fi x ps nd\/PrimOk P w K mg base T Pg fi x ps nd:=by
 obtain⟨F,h1,h2,h3,h4,h5,h6⟩:=o.ex;exact .inr ⟨⟨F,.lam,f,_,h1,h2,h5,mg_of X G a,k,bd,fun n hn tab=>zoj l cc e bm mem one h3 h4 h1 h2 h5 h6 hn (by omega) tab⟩⟩
structure OkE(T:Tab)(Pg:List Fn)(fi:Nat)(ps:List Str)(st:Stmt):Prop where
 ex:∃(F:Fn) (N:List Str),Pg[fi]?=some F/\F.prim=none/\FnScope N ps (zab st)/\ChkD T F.body N (zab st) (zan st)/\F.np=ps.length/\F.nn=N.length
theorem lOkD{K:Frag}{st:Stmt}{oc kV doc pm ct xc:Value}(X:K.In h)(G:h.Ns mainGlobals mg)(bm:BM mg base)(o:OkL T Pg fi x ps nd st)
  (mem:(T.lamP,x ++ ".<locals>." ++ "<lambda>")∈Mks.ts) (one:∀p∈Mks.ts,p.1=T.lamP->p.2=x ++ ".<locals>." ++ "<lambda>")
  (hb:∀j,j<=nd->∃n,ps.length=n+j/\∀(d:Addr)(kV doc pm:Value)(an:Option Addr)(cdv ct:Value)(us:List Value),us.length=n->∃k,bindArgs (fnOf x x (zas st) (zan st) (zab st) (.ref d) kV doc pm an cdv ct) ⟨us,[]⟩=seqItems? (.ref d)>>=k/\k (some items)=pure (ps.zip (us++List.replicate j Value.none)))
  (a:nsIn K mainGlobals x=some (some (.ref f))) (l:K.lookup f=some ⟨oc,od,.func (fnOf x x (zas st) (zan st) (zab st) (.ref d) kV doc pm an (.ref c) ct),sl⟩) (cc:codeIn K (.ref c) x=true)
  (k:keepIn K (.ref f)=true) (e:codeHdIn K c T.lamP=true) (ed:K.lookup d=some ⟨xc,xd,.seq items xn,xs⟩):DefOk K mg T Pg fi x ps nd\/PrimOk P w K mg base T Pg fi x ps nd:=
 lOk X G bm o mem one (fun j hj=>by obtain⟨n,hn,q⟩:=hb j hj;exact zoM n (by rw[length_replicate];exact hn) (zd6 l cc k) ed (q d)) a l cc k e
theorem all_of{l:PySem.W.OpenLaw}{K:Frag}{st:Stmt}{oc kV dc pm cd ct:Value}(X:K.In h)(G:h.Ns mainGlobals mg)(hfa:mg "law"=some (.ref fa))
  (o:OkD T Pg fi "law" "law" [sn] st) (ln:Mks.cl.length<=T.cls.length) (hcl:AllAtG (ClAt K mg T) 0 T.cls) (hb:AllInG (fun x=>nsIn K mainGlobals x=some none) T.blt) (hc:AllInG (CoAt K) T.cons)
  (hd:∀base:Heap,BM mg base->AllAtG (fun fi q=>DefOk K mg T Pg fi q.1 q.2.1 q.2.2\/PrimOk l.prog w K mg base T Pg fi q.1 q.2.1 q.2.2) 0 T.fns)
  (hm:AllAtG (ClAt K mg T) 0 T.cls->AllInG (fun q=>MOk K T Pg q.2.2 0 (ExM K q.1 q.2.1)) T.mts) (hi:AllInG (fun q=>MOk K T Pg q.2.1 q.2.2 (ExI K q.1)) T.inits) (hx:AllInG (fun q=>MOk K T Pg q.2.2 0 (ExC K mg q.1 q.2.1)) T.cms) (hs:AllInG (IsAt K mg) T.isas)
  (a:nsIn K mainGlobals "law"=some (some (.ref f))) (l0:K.lookup f=some ⟨oc,od,.func (fnOf "law" "law" (zas st) (zan st) (zab st) .none kV dc pm an cd ct),sl⟩) (c:codeIn K cd "law"=true) (k:keepIn K (.ref f)=true) :
  ∃fd:FuncData,(∀(s:Shared)(v:Value),BindsTo s fd ⟨[v],[]⟩ [(sn,v)])/\∀base:Heap,K.In base->base.Ns mainGlobals mg->BM mg base->FnOk l.prog w K mg base CX0 (2*n+2) fa fd [sn] (spF K (callF Pg (n+1)) fi):=by
 have e:=hfa.symm.trans (mg_of X G a);cases e;obtain⟨F,N,h1,h2,h3,h4,h5,h6⟩:=o.ex;refine⟨fnOf "law" "law" (zas st) (zan st) (zab st) .none kV dc pm an cd ct,fun s v=>.of_eq (o.bd _ _ _ _ _ _ [v] rfl),fun base _ _ bm=>?_⟩;refine ziE (zm0 (fun x hx=>PySem.W.mg_none_of X G (AllIn.get hb x hx)) (fun x d hx=>?_) (fun fi x ps nd hf=>AllAt.get (hd base bm) fi _ hf)
  ⟨AllAt.get hcl,fun c m fi hx=>AllIn.get (hm hcl) (c,m,fi) hx,fun c fi j hx=>AllIn.get hi (c,fi,j) hx,fun x m fi h=>AllIn.get hx (x,m,fi) h,ln,fun x cs hx=>AllIn.get hs (x,cs) hx⟩ n) (zd6 l0 c k) h1 h3 h4 h5 h6 h2
 obtain⟨i,t,e,q⟩:=hc.mem (x,d) (PySem.mem_of_lookup hx);cases e;exact⟨rfl,_,mg_of X G q,⟨_,rfl⟩⟩
noncomputable def H0(K:Frag)(a:Addr)(o:Obj)(xs:List V):Hp:=fun b=>if b∈Mks.ts.map (·.1) then some (.tbl #[]) else if b=a then(match K.lookup a with|some _=>none|none=>some (.frz o (.lst xs))) else none
theorem zhX{K:Frag}
  (KX:K.In s₁.heap) (hns:s₁.heap.Ns mainGlobals mg) (hb:s₁.heap.Ns builtinsNs mb) (hbb:∀x:Str,x≠"__name__"->mb x=bootBuiltins x) (hlim:s₁.heap.NoLimit) (hg:s₁.gens = #[]) (bm:BM mg s₁.heap)
  (ha:s₁.heap.get? a=some {cls:=.type "list",data:=.seq vs.toArray}) (hi:IntsAre vs ns) (hl:ns.length<=sizeLine) (hr:Room k callerA)
  (tabs:∀p∈Mks.ts,s₁.heap.get? p.1=some (tabObj #[])/\K.lookup p.1=none/\isCodeTable s₁.heap p.1)
  (F:∀base:Heap,K.In base->base.Ns mainGlobals mg->BM mg base->FnOk P w K mg base CX0 k fa fd [x] sp) (hbind:∀(s:Shared)(u:Value),BindsTo s fd ⟨[u],[]⟩ [(x,u)])
  (hsp:∀H:Hp,FixL K H a (ns.map V.int)->TB H->sp [.ref a] H (fun v _=>v=.bl true) fun _ _ _=>False) :
  codeAny (model P w) callerA (.call (.ref fa) ⟨[.ref a],[]⟩) (fun r s'=>r=.ok (.ret (.bool true))/\OldK s₁.heap s'.heap/\s'.os=s₁.os/\AllBare s'.gens) s₁:=by
 have rv:=zek hi;have lenV:=hi.length;generalize hH:H0 K a {cls:=.type "list",data:=.seq vs.toArray} (ns.map V.int)=H;have cs:∀b,H b=none\/((∃p∈Mks.ts,p.1=b)/\H b=some (.tbl #[]))\/(b=a/\K.lookup a=none/\H b=some (.frz {cls:=.type "list",data:=.seq vs.toArray} (.lst (ns.map V.int)))):=fun b=>by
  rw[<-hH];unfold H0;by_cases h1:b∈Mks.ts.map (·.1);obtain⟨p,hp,e⟩:=mem_map.mp h1;exact .inr (.inl ⟨⟨p,hp,e⟩,if_pos h1⟩);rw[if_neg h1];by_cases h2:b=a;rw[if_pos h2];cases e:K.lookup a with|some o=>exact .inl rfl|none=>exact .inr (.inr ⟨h2,rfl,rfl⟩)
  rw[if_neg h2];exact .inl rfl
 have tb:TB H:=fun p hp=>⟨#[],by rw[<-hH];unfold H0;exact if_pos (mem_map.mpr ⟨p,hp,rfl⟩),trivial,fun pos v e=>by simp[codeAmong]at e⟩;have na:a∉Mks.ts.map (·.1):=fun z=>by obtain⟨p,hp,e⟩:=mem_map.mp z;have:=(tabs p hp).1;rw[e,ha]at this;cases this
 have hx:FixL K H a (ns.map V.int):=by cases e:K.lookup a with| some o=>have e':=KX a o e;rw[ha]at e';cases e';exact .inr ⟨_,vs.toArray,_,e,rfl,rfl,rfl,by rw[size_toArray,lenV];exact hl,by simpa using rv⟩| none=>refine .inl ⟨{cls:=.type "list",data:=.seq vs.toArray},?_⟩;rw[<-hH];unfold H0;rw[if_neg na,if_pos rfl,e]
 have hok:HOk P w H s₁.heap:=fun b u e=>by rcases cs b with z|⟨⟨p,hp,rfl⟩,z⟩|⟨rfl,_,z⟩;rw[z]at e;cases e;rw[z]at e;cases e;exact(tabs p hp).1;rw[z]at e;cases e;exact⟨ha,by rw[length_map];exact hl,vs,_,rv,ha⟩
 have noD:∀{b:Addr}{o:Obj},s₁.heap.get? b=some o->(∀xs n,o.data≠.seq xs n)->(∀fs,o.data≠.fields fs)->H b=none:=fun {b o} e n1 n2=>by rcases cs b with z|⟨⟨p,hp,rfl⟩,_⟩|⟨rfl,_,_⟩;exact z;rw[(tabs p hp).1]at e;cases e;exact absurd rfl (n2 _);rw[ha]at e;cases e;exact absurd rfl (n1 _ _)
 have base_of:∀{b:Addr}{o:Obj},s₁.heap.get? b=some o->H b=none->(hidT s₁.heap H).get? b=some o:=fun e n=>zj4 e n;have nsK:∀{b:Addr}{m:Str->Option Value},s₁.heap.Ns b m->(hidT s₁.heap H).Ns b m:=fun {b m} ⟨o,es,ep,e,d,r⟩=>⟨o,es,ep,base_of e (noD e (fun _ _ z=>by rw[d]at z;cases z) fun _ z=>by rw[d]at z;cases z),d,r⟩;have hKb:K.In (hidT s₁.heap H):=fun b o e=>base_of (KX b o e) (by
  rcases cs b with z|⟨⟨p,hp,rfl⟩,_⟩|⟨rfl,z,_⟩;exact z;rw[(tabs p hp).2.1]at e;cases e;rw[z]at e;cases e)
 have hbm:BM mg (hidT s₁.heap H):=by obtain⟨m,o,h1,h2,h3,h4,h5,h6,h7⟩:=bm;exact⟨m,o,h1,h2,h3,base_of h4 (noD h4 (fun _ _ z=>by rw[h7]at z;cases z) fun _ z=>by rw[h7]at z;cases z),h5,h6,h7⟩
 have hM:Mod K mg (hidT s₁.heap H):=⟨hKb,nsK hns,⟨mb,nsK hb,hbb⟩,let ⟨mc,h1,h2⟩:=hlim;⟨mc,nsK h1,h2⟩⟩;have e0:Env0 P w K mg (hidT s₁.heap H) callerA [] s₁ H:=⟨rfl,hM,fun b o e=>zl4 e,Nat.le_of_eq (zig _ _),trivial,fun b hb=>absurd (show b∈([]:List Addr) from hb) (by simp),hok,.of_eq hg⟩;refine codeAny_mono ((F _ hKb (nsK hns) hbm).run callerA [] s₁ H ⟨[.ref a],[]⟩ [.ref a] [.ref a] _ _ hr e0 (hbind s₁ (.ref a)) (.cons rfl .nil) (hsp H hx tb)) fun r s' h=>?_;cases r with
 |error e=>exact False.elim h| ok fl=>
  cases fl with
  |ret u=>
   obtain⟨v,H',os,bare,un,hok',r',q⟩:=h;have q':v=.bl true:=q;subst q';obtain rfl:u=Value.bool true:=r';have old:∀b o,s₁.heap.get? b=some o->asItWas s₁.heap s'.heap b o/\∃o',s'.heap.get? b=some o':=fun b o e=>by rcases cs b with z|⟨⟨p,hp,rfl⟩,z⟩|⟨rfl,_,z⟩;have k:=un.keep b o e z (by intro y;exact absurd (show b∈([]:List Addr) from y) (by simp)) (by simp);exact⟨.inl k,_,k⟩;obtain⟨more,z2⟩:=un.tbls _ _ z;have k:s'.heap.get? p.1=some (tabObj (#[]++more)):=hok' _ _ z2;have e':=(tabs p hp).1;rw[e']at e;cases e;exact⟨.inr (.inl ⟨(tabs p hp).2.2,rfl,#[],more,rfl,k⟩),_,k⟩;have z2:=un.frzs _ _ _ z;have k:=(hok' _ _ z2).1;rw[ha]at e;cases e;exact⟨.inl k,_,k⟩
   exact⟨rfl,⟨fun b o e=>(old b o e).1,fun b o e=>(old b o e).2⟩,os,bare⟩
  |_=>exact False.elim h
theorem walk_ofT{l:PySem.W.OpenLaw}{YP:World->Heap->Prop}{K:Params->Frag}{sp:World->Sp}
  (hn:l.most=some n) (hn2:n<=sizeLine) (hdf:d.params.defaults=[]) (hr:Room k callerA)
  (hY:∀(w:World)(h:Heap),YP w h->(K w.params).In h) (hT:∀(w:World)(h:Heap),YP w h->∀p∈Mks.ts,h.get? p.1=some (tabObj #[]))
  (hK:∀(w:World),∀p∈Mks.ts,(K w.params).lookup p.1=none/\∃c,codeHdIn (K w.params) c p.1=true)
  (F:∀(w:World)(mg:Str->Option Value)(fa:Addr)(h:Heap),(K w.params).In h->h.Ns mainGlobals mg->mg d.name=some (.ref fa)->
   ∃fd:FuncData,(∀(s:Shared)(u:Value),BindsTo s fd ⟨[u],[]⟩ [(x,u)])/\
    ∀base:Heap,(K w.params).In base->base.Ns mainGlobals mg->BM mg base->FnOk l.prog w (K w.params) mg base CX0 k fa fd [x] (sp w))
  (hsp:∀(w:World)(H:Hp)(a:Addr)(ns:List Int),ns.length<=n->FixL (K w.params) H a (ns.map V.int)->TB H->sp w [.ref a] H (fun v _=>v=.bl true) fun _ _ _=>False) :
  PySem.W.WalkO q loose XP YP l.row.toRowW d [] (fun f vs=>PySem.call f vs):=by
 refine Att.attach_call hn hdf fun w s₀ s₁ mg mb fa o pm cd doc a vs ns G Y ho hd hcd hmg hobj hints hlen hg=>?_;have KX:=hY w _ Y;obtain⟨fd,hb,hF⟩:=F w mg fa _ KX G.T.g hmg;obtain⟨bm,ob,b1,b2,b3,b4,b5,b6⟩:=G.T.bmain;have hbG:bm≠mainGlobals:=fun z=>by obtain⟨o,es,ep,e,hd,_⟩:=G.T.g;rw[z,e]at b3;cases b3;rw[hd]at b6;cases b6
 refine zhX KX G.T.g G.T.b G.T.builtins G.T.nolimit hg ⟨bm,ob,b1,b2,hbG,b3,b4,b5,b6⟩ hobj hints (le_trans hlen hn2) hr (fun p hp=>?_) hF hb fun H hx tb=>hsp w H a ns hlen hx tb;obtain⟨k1,c,k2⟩:=hK w p hp;have e:=hT w _ Y p hp;exact⟨e,k1,((PySem.W.codeHd_of_K KX k2).tab e).isCodeTable⟩
end R
namespace R
open PySem (PyData)
theorem zdW{α β:Type}{f:α->Option β}:∀{xs:List α}{ys:List β},xs.mapM f=some ys->∀y∈ys,∃x∈xs,f x=some y
 | [],ys,h,y,hy=>by simp at h;subst h;cases hy
 |x::xs,ys,h,y,hy=>by
  rw[mapM_cons]at h;cases e:f x with
  |none=>rw[e]at h;cases h
  |some z=>
   rw[e]at h;cases e2:xs.mapM f with
   |none=>rw[e2]at h;cases h
   |some zs=>rw[e2]at h;injection h with h;subst h;rcases mem_cons.mp hy with rfl|hy;exact⟨x,by simp,e⟩;obtain⟨u,hu,eu⟩:=zdW e2 y hy;exact⟨u,by simp[hu],eu⟩
theorem zbX:∀{xs:List PyData},(∀x∈xs,PyData.eqv x x=true)->PyData.eqvAll xs xs=true
 | [],_=>by simp[PyData.eqvAll]|x::xs,h=>by simp[PyData.eqvAll,h x (by simp),zbX (xs:=xs) fun y hy=>h y (by simp[hy])]
theorem zl0:∀{n:Nat}{d:D}{a:PyData},pd S n d=some a->PyData.eqv a a=true:=by
 intro n;induction n with
 |zero=>
  intro d a h;cases d<;>simp only[pd]at h
  cases h;simp[PyData.eqv];cases h;simp[PyData.eqv];cases h;simp[PyData.eqv];split at h;cases h;simp[PyData.eqv];cases h;cases h;cases h;cases h
 |succ n ih=>
  intro d a h;cases d<;>simp only[pd]at h
  cases h;simp[PyData.eqv];cases h;simp[PyData.eqv];cases h;simp[PyData.eqv];split at h;cases h;simp[PyData.eqv];cases h;rename_i ds;cases e:ds.mapM (pd S n) with
  |none=>rw[e]at h;cases h
  |some xs=>rw[e]at h;cases h;exact zbX fun x hx=>let ⟨d,_,hd⟩:=zdW e x hx;ih hd
  split at h;rename_i ds _;cases e:ds.mapM (pd S n) with
  |none=>rw[e]at h;cases h
  |some xs=>rw[e]at h;cases h;exact zbX fun x hx=>let ⟨d,_,hd⟩:=zdW e x hx;ih hd
  cases h;cases h
theorem ziw(h1:pd S 60 x=some a)(h2:pd S 60 y=some a):eqD S x y=some true:=by unfold eqD;rw[h1,h2];exact congrArg some (zl0 h1)
theorem zbT(h:S.get l=some (.lst ds))(e:ds.mapM (pd S n)=some xs):pd S (n+1) (.ref l)=some (.list xs):=by simp only[pd,h,e];rfl
theorem zcU(h1:S.get a=some (.lst ds))(h2:S.get b=some (.lst ds))(e:ds.mapM (pd S 59)=some xs):cmpO S .NotEq (.ref a) (.ref b)=some false:=by show(eqD S (.ref a) (.ref b)).map (!·)=_;rw[ziw (zbT h1 e) (zbT h2 e)];rfl
theorem zah(S:St)(o:MO):(S.push o).get S.len=some o:=by unfold St.get St.push;unfold St.len;simp
theorem zad{S:St}(e:S.get l=some u):(S.push o).get l=some u:=by have h:=zam e;unfold St.len at h;unfold St.get at e⊢;unfold St.push;simp only;split;rename_i c;rw[if_pos c]at e;exact e;rename_i c;rw[if_neg c]at e;rw[getElem?_append_left (by omega)];exact e
theorem ziK(f:α->β)(xs:List α)(lo hi:Option Int):cut (xs.map f) lo hi=(cut xs lo hi).map f:=by unfold cut;rw[length_map,List.map_take,List.map_drop]
theorem zdO{S:St}(o:MO)(h1:S.frz.length<=l)(h2:S.lk.contains l=false):∃S',S.put l o=some S'/\S'.frz=S.frz/\S'.lk=S.lk/\S'.len=S.len/\(∀m,m≠l->S'.get m=S.get m)/\(l<S.len->S'.get l=some o):=by refine⟨{S with new:=S.new.set (l-S.frz.length) o},?_,rfl,rfl,by simp[St.len],fun m hm=>?_,fun hl=>?_⟩;unfold St.put;rw[if_neg (by omega),h2];rfl;unfold St.get;simp only;split;rfl;rw[getElem?_set_ne (by omega)];unfold St.len at hl;unfold St.get;simp[show ¬l<S.frz.length by omega,if_false];rw[getElem?_set_self (by omega)]
theorem zmt(S:St)(i j:Int):eqD S (.int i) (.int j)=some (i==j):=rfl
theorem zj3(S:St)(x:Int):∀ks:List Int,inD S (.int x) (ks.map .int)=some (decide (x∈ks)):=by
 intro ks;have e:(ks.map D.int).mapM (fun z=>eqD S z (.int x))=some (ks.map fun k=>k==x):=by induction ks with|nil=>rfl|cons k ks ih=>rw[map_cons,mapM_cons,zmt,ih];rfl
 have f:∀ks:List Int,((ks.map fun k=>k==x).any id)=decide (x∈ks):=by intro ks;induction ks with|nil=>rfl| cons k ks ih=>rw[map_cons,any_cons,ih];by_cases c:k=x;subst c;simp;have c':¬x=k:=fun z=>c z.symm;have b:(k==x)=false:=beq_eq_false_iff_ne.mpr c;simp[b,id,Bool.false_or,mem_cons,c',false_or]
 unfold inD;rw[e];exact congrArg some (f ks)
theorem zos{ks:List Int}(h:S.get l=some (.lst (ks.map .int)))(x:Int):cmpO S .In (.int x) (.ref l)=some (decide (x∈ks)):=by show zcQ S (.int x) (.ref l)=_;unfold zcQ;simp only[h,zbI,bind_some];exact zj3 S x ks
theorem zhM{ks:List Int}(h:S.get l=some (.lst (ks.map .int)))(x:Int):cmpO S .NotIn (.int x) (.ref l)=some (!decide (x∈ks)):=by show(cmpO S .In (.int x) (.ref l)).map (!·)=_;rw[zos h];rfl
theorem za7{k:Nat}(h:xs[k]?=some x):R.atI xs (k:Int)=some x:=by
 have hl:=(List.getElem?_eq_some_iff.mp h).1;have e:R.ixN xs.length (k:Int)=some k:=by simp[R.ixN,hl]
 unfold R.atI;rw[e];exact h
noncomputable def zbi(ns:List Int)(k:Nat):Int:=match ns[k]? with|some v=>v%10^64|none=>0
theorem zaY:∀ks:List Int,zaL (ks.map D.int)=some ks
 | []=>rfl| k::ks=>by unfold zaL;rw[map_cons,mapM_cons,show(ks.map D.int).mapM zcn=some ks from zaY ks];rfl
end R
namespace R
noncomputable def hnds(n:Nat):List Int:=(List.range n).map fun(k:Nat)=>(k:Int)
theorem zdo(n:Nat):(hnds n).Nodup:=by unfold hnds List.Nodup;rw[pairwise_map];exact Pairwise.imp (fun {a b} h e=>h (by exact_mod_cast e)) List.nodup_range
end R
section
namespace Kz
local macro_rules|`(#[$x])=>`(.cons $x .nil)|`(#[$x,$y,*])=>`(.cons $x #[$y,*])
local macro_rules|`($x:ident)=>let s:=x.getId.toString;let n:=Lean.Syntax.mkNumLit (s.drop 1).toString;if s.length<2||!(s.drop 1).all Char.isDigit then Lean.Macro.throwUnsupported else if s.front=='J' then `(.loc $n) else if s.front=='U' then `(.con (.int $n)) else Lean.Macro.throwUnsupported
local macro_rules | `(tactic| exists $e)=>`(tactic| refine R.wOpt_of $e ?_)
local macro_rules | `(tactic| change $e)=>`(tactic| refine R.wNeed_of $e ?_)
local macro_rules | `(tactic| specialize $e)=>`(tactic| refine R.wOut_of $e ?_)
local macro_rules | `(tactic| left)=>`(tactic| conv=>whnf)
section
open PySem R L2
noncomputable def zoK:Fn:=⟨1,1,
 .stop,none⟩
noncomputable def c_run:Fn:=⟨3,6,(.asg 3 (.lst .nil) (.forS [4] (.rng2 U1 (.bin .Add J1 U1)) (.asg 5 (.srtK (.call 2 0 #[J4,J0,J2])) (.expr (.callW 3 0 #[J4,J0,J5]) (.expr (.extv J3 J5) .nil))) (.ret J3 .nil))),some .lam⟩
noncomputable def c_said_in:Fn:=⟨3,9,(.asg 3 (.lst .nil) (.forS [4,5] (.enum J1) (.forS [6,7,8] (.val (.meth "say" [(0,20)] J5 #[J0])) (.expr (.mt .append J3 #[.tup #[J0,J6,.ite (.cmp .Is J2 (.con D.non)) J7 (.ix (.ix J2 J4) J7),J8]]) .nil) .nil) (.ret J3 .nil))),none⟩
noncomputable def c_deliver:Fn:=⟨3,7,(.asg 3 .dnew (.forS [4] (.val J2) (.expr (.mt .append (.dsetI J3 (.ix J4 U2) (.lst .nil)) #[.tup #[.ix J4 U1,.ix J4 U3]]) .nil) (.forS [5,6] (.enum J1) (.expr (.meth "hear" [(0,19)] J6 #[J0,.dgetI J3 J5 (.lst .nil)]) .nil) .nil))),none⟩
noncomputable def ziQ:Fn:=⟨2,2,(.ret (.mkL (.comp 1 [1] [0] (.val J0) (.cmp .Eq (.ix J0 U2) J1) (.tup #[.ix J0 U0,.ix J0 U1,.ix J0 U3]))) .nil),none⟩
noncomputable def zb7:Fn:=⟨2,2,(.ifS (.cmp .Lt J1 (.bi .len #[J0])) (.ret (.bin .Mod (.ix J0 J1) (.bin .Pow U10 U64)) .nil) .nil (.ret U0 .nil)),none⟩
noncomputable def zds:Fn:=⟨1,1,(.ifS (.cmp .Eq (.bin .Mod J0 U6) U0) (.ret (.con D.non) .nil) .nil (.ifS (.cmp .Eq (.bin .Mod J0 U6) U1) (.ret (.bin .Sub (.bin .Mod (.bin .FloorDiv J0 U6) (.bin .Mult U2 (.bin .Pow U10 U50))) (.bin .Pow U10 U50)) .nil) .nil (.ifS (.cmp .Eq (.bin .Mod J0 U6) U2) (.ret (.bin .Mult (.bin .Sub (.bin .Sub (.bin .Pow U10 U60) U1) (.bin .Mod (.bin .FloorDiv J0 U12) U9)) (.ix (.lst #[U1,.neg U1]) (.bin .Mod (.bin .FloorDiv J0 U6) U2))) .nil) .nil (.ret (.bin .Sub (.bin .Mod (.bin .FloorDiv J0 U6) U7) U3) .nil)))),none⟩
noncomputable def zcs:Fn:=⟨2,3,(.asg 0 (.bin .Mod J0 (.bin .Pow U10 U64)) (.ifS (.tst J1) (.ret J0 .nil) .nil (.asg 2 (.bin .Mod (.bin .Mult J0 U48271) U2147483647) (.ret (.bin .Add (.bin .Mult (.bin .Mult J2 J2) J2) (.bin .Mult U69621 J2)) .nil)))),none⟩
noncomputable def zdv:Fn:=⟨3,7,(.asg 3 (.mkL (.comp 1 [1] [0] (.rng1 J2) (.cmp .NotEq J0 J1) J0)) (.asg 4 (.lst .nil) (.forS [5] (.rng1 (.bin .Sub J2 U1)) (.expr (.mt .append J4 #[.ix J3 (.bin .Mod J0 (.bi .len #[J3]))]) (.asg 0 (.bin .FloorDiv J0 (.bi .len #[J3])) (.asg 3 (.mkL (.comp 1 [4] [0] (.val J3) (.cmp .NotIn J0 J1) J0)) .nil))) (.asg 6 (.bin .Mod J0 (.bin .Sub J2 U1)) (.asg 0 (.bin .FloorDiv J0 (.bin .Sub J2 U1)) (.ret (.tup #[.bin .Add U1 (.bin .Mod J0 U6),.bin .Add (.mkT (.val (.sl J4 false true (.con .non) J6))) (.tup #[J1]),.ix J4 J6,.call 6 0 #[.bin .FloorDiv J0 U6]]) .nil)))))),none⟩
noncomputable def zcW:Fn:=⟨3,10,(.asg 3 (.cmp .Eq (.bin .Mod (.bin .FloorDiv (.call 5 0 #[J0,U0]) U12) U2) U1) (.asg 4 (.mkL (.comp 1 [] [0] (.rng1 J2) (.tst (.con (D.bl true))) (.lst .nil))) (.asg 5 .dnew4 (.asg 6 U0 (.forS [7] (.val (.sl J0 true true U4 U62)) (.asg 8 (.bin .Mod J6 J2) (.asg 6 (.bin .Add J6 U1) (.asg 9 (.call 8 0 #[.call 7 0 #[J7,J3],.bin .Mod J8 J1,J1]) (.ifS (.cmp .NotIn (.tup #[J8,.sl J9 false true (.con .non) U3]) J5) (.setIx J5 (.tup #[J8,.sl J9 false true (.con .non) U3]) (.con (D.bl true)) (.expr (.mt .append (.ix J4 J8) #[J9]) .nil)) .nil .nil)))) (.ret J4 .nil)))))),none⟩
noncomputable def zb6:Fn:=⟨4,6,(.asg 4 (.bi .min2 #[J1,J2]) (.asg 5 (.bi .max2 #[J1,J2]) (.ret (.cmp .Eq (.bin .Mod (.bin .FloorDiv (.bin .FloorDiv J0 (.ix (.lst #[U1,U2,U4,U8,U16,U32,U64]) J4)) (.ix (.lst #[U1,U3,U9,U27,U81,U243,U729]) J5)) U2) U1) .nil))),none⟩
noncomputable def c_law_wires:Fn:=⟨3,8,(.asg 3 (.lst .nil) (.forS [4] (.rng1 J2) (.asg 5 (.lst .nil) (.forS [6] (.rng1 J1) (.asg 7 (.bin .FloorDiv J4 J1) (.ifS (.and (.cmp .Gt J2 J1) (.and (.cmp .NotEq J6 (.bin .Mod J4 J1)) (.tst (.call 10 0 #[J0,.bin .Mod J4 J1,J6,J1])))) (.asg 7 (.bin .Sub U1 J7) .nil) .nil (.expr (.mt .append J5 #[.bin .Add J6 (.bin .Mult J1 J7)]) .nil))) (.expr (.mt .append J3 #[J5]) .nil))) (.ret J3 .nil))),none⟩
noncomputable def zdu:Fn:=⟨2,2,(.ifS (.cmp .Is J1 (.con D.non)) (.ret (.cmp .Is J0 (.con D.non)) .nil) .nil (.ret (.and (.bi (.isin "int") #[J0]) (.and (.nt (.bi (.isin "bool") #[J0])) (.cmp .Eq J0 J1))) .nil)),none⟩
noncomputable def c_law_letters:Fn:=⟨4,12,(.asg 4 .dnew3 (.forS [5] (.rng1 (.bi .len #[J1])) (.forS [6,7,8,9] (.val (.ix J1 J5)) (.ifS (.cmp .LtE J6 J3) (.setIx J4 (.tup #[J6,J7,.ix (.ix J2 J5) J8]) J9 .nil) .nil .nil) .nil) (.ifS (.or (.nt (.tst (.bi (.isin "list") #[J0]))) (.cmp .NotEq (.bi .len #[J0]) (.bi .len #[J4]))) (.ret (.con (D.bl false)) .nil) .nil (.asg 10 (.tup #[U0,.tup .nil,U0]) (.forS [11] (.val J0) (.ifS (.or (.nt (.tst (.bi (.isin "tuple") #[J11]))) (.or (.cmp .NotEq (.bi .len #[J11]) U4) (.nt (.tst (.bi (.isin "tuple") #[.ix J11 U1]))))) (.ret (.con (D.bl false)) .nil) .nil (.ifS (.or (.cmp .NotIn (.sl J11 false true (.con .non) U3) J4) (.or (.nt (.tst (.call 12 0 #[.ix J11 U3,.dix3 J4 (.sl J11 false true (.con .non) U3)]))) (.cmp .LtE (.sl J11 false true (.con .non) U3) J10))) (.ret (.con (D.bl false)) .nil) .nil (.asg 10 (.sl J11 false true (.con .non) U3) .nil))) (.ret (.con (D.bl true)) .nil)))))),none⟩
noncomputable def c_law_kept:Fn:=⟨2,5,(.forS [2] (.rng1 (.bi .len #[J1])) (.asg 3 (.call 4 0 #[J0,J2]) (.asg 4 (.mkL (.comp 1 [2] [0] (.val J0) (.cmp .Eq (.ix J0 U2) J1) (.tup #[.ix J0 U0,.ix J0 U1,.ix J0 U3]))) (.ifS (.or (.nt (.tst (.bi (.isin "list") #[J3]))) (.or (.cmp .NotEq J3 J4) (.cmp .NotEq (.meth "came" [(0,18)] (.ix J1 J2) .nil) J4))) (.ret (.con (D.bl false)) .nil) .nil .nil))) (.ret (.con (D.bl true)) .nil)),none⟩
noncomputable def zdt:Fn:=⟨3,3,(.ret (.mkL (.comp 1 [1,2,0] [0] (.rng1 (.bi .len #[J0])) (.tst (.con (D.bl true))) (.mk 0 17 "Scribe" 0 #[.bin .Mod J0 J1,J1,J2,.mkL (.val (.ix J3 J0))]))) .nil),none⟩
noncomputable def c_law:Fn:=⟨1,11,(.asg 1 (.bin .Add U2 (.bin .Mod (.call 5 0 #[J0,U0]) U6)) (.asg 2 (.bin .Mult J1 (.bin .Add U1 (.bin .Mod (.bin .FloorDiv (.call 5 0 #[J0,U0]) U6) U2))) (.asg 3 (.bin .Mod (.call 5 0 #[J0,U1]) U6) (.asg 4 (.call 9 0 #[J0,J1,J2]) (.asg 5 (.call 11 0 #[.call 5 0 #[J0,U2],J1,J2]) (.asg 6 (.mkL (.comp 1 [] [0] (.val J5) (.tst (.con (D.bl true))) (.mkL (.val J0)))) (.asg 7 (.bin .Add (.bi .max2 #[U1,J3]) (.bin .Mod (.call 5 0 #[J0,U3]) U4)) (.asg 8 (.call 15 0 #[J4,J1,J7]) (.asg 9 (.callW 1 0 #[J8,J3,J6]) (.ifS (.or (.cmp .NotEq J6 J5) (.or (.nt (.tst (.call 13 0 #[J9,J4,J5,J3]))) (.nt (.tst (.call 14 0 #[J9,J8]))))) (.ret (.con (D.bl false)) .nil) .nil (.ifS (.cmp .Eq J2 J1) (.asg 10 (.call 15 0 #[J4,J1,J7]) (.ret (.and (.cmp .Eq (.callW 1 1 #[J10,J3]) J9) (.call 14 0 #[J9,J10])) .nil)) .nil (.ret (.con (D.bl true)) .nil)))))))))))),none⟩
noncomputable def zb8:Fn:=⟨5,5,(.expr (.callC 21 "Hand" "__init__" #[J0,J1,J2,J3]) (.setF J0 "lines" (.mkT (.val J4)) (.setF J0 "arrived" (.lst .nil) .nil))),none⟩
noncomputable def zca:Fn:=⟨1,1,(.ret (.mkL (.val (.fld J0 "arrived"))) .nil),none⟩
noncomputable def zb9:Fn:=⟨3,3,(.expr (.ext (.fld J0 "arrived") (.comp 2 [1] [0,1] (.val J2) (.tst (.con (D.bl true))) (.tup #[J2,J0,J1]))) .nil),none⟩
noncomputable def zct:Fn:=⟨2,2,(.ret (.mkL (.comp 1 [1] [0] (.val (.fld J0 "lines")) (.cmp .Eq (.ix J0 U0) J1) (.sl J0 true false U1 (.con .non)))) .nil),none⟩
noncomputable def zcX:Fn:=⟨4,4,(.setF J0 "number" J1 (.setF J0 "many" J2 (.setF J0 "rounds" J3 .nil))),none⟩
noncomputable def prog:List Fn:=[zoK,c_run,c_said_in,c_deliver,ziQ,zb7,zds,zcs,zdv,zcW,zb6,c_law_wires,zdu,c_law_letters,c_law_kept,zdt,c_law,zb8,zca,zb9,zct,zcX]
noncomputable def top(i:Nat):Stmt:=PySem.Challenge.pw_traitorround_k26_a_town_played.main.body.getD i (.Pass ⟨0,0,0,0⟩)
noncomputable abbrev zlE:Stmt:=top 0
noncomputable abbrev zfT:Stmt:=top 2
noncomputable abbrev zgG:Stmt:=top 3
noncomputable abbrev zgH:Stmt:=top 4
noncomputable abbrev zjr:Stmt:=top 5
noncomputable abbrev zc2:Stmt:=top 10
noncomputable abbrev zfi:Stmt:=top 11
noncomputable abbrev zdM:Stmt:=top 12
noncomputable abbrev zfl:Stmt:=top 13
noncomputable abbrev zez:Stmt:=top 14
noncomputable abbrev zc1:Stmt:=top 15
noncomputable abbrev zey:Stmt:=top 16
noncomputable abbrev zfk:Stmt:=top 17
noncomputable abbrev zc0:Stmt:=top 18
noncomputable abbrev zfm:Stmt:=top 19
noncomputable abbrev zfj:Stmt:=top 20
noncomputable abbrev znD:Stmt:=top 21
noncomputable def zie(s:Stmt)(j:Nat):Stmt:=match s with|.ClassDef _ _ _ b _ _ _ _ _ _ _=>b.getD j (.Pass ⟨0,0,0,0⟩)|s=>s
noncomputable abbrev zc3:Stmt:=zie (top 8) 0
noncomputable abbrev zc5:Stmt:=zie (top 8) 3
noncomputable abbrev zc4:Stmt:=zie (top 8) 2
noncomputable abbrev zdN:Stmt:=zie (top 8) 1
noncomputable abbrev zeA:Stmt:=zie (top 7) 0
noncomputable instance mks:R.Mks:={ts:=[(24,"run.<locals>.<lambda>")],cl:=[131]}
noncomputable def tab:Tab:=⟨["bool","enumerate","int","isinstance","len","list","max","min","range","sorted","tuple"],[],[("_wall",["k"],0),("run",["hands","rounds","wires"],1),("said_in",["turn","hands","wires"],0),("deliver",["turn","hands","said"],0),("heard",["letters","place"],0),("_law_cell_at",["_law_script","_law_k"],0),("_law_word",["_law_cell"],0),("_law_spread",["_law_cell","_law_digits"],0),("_law_line",["_law_cell","_law_number","_law_many"],0),("_law_dealt",["_law_script","_law_many","_law_places"],0),("_law_crossed",["_law_bits","_law_one","_law_other","_law_many"],0),("_law_wires",["_law_bits","_law_many","_law_places"],0),("_law_same",["_law_found","_law_due"],0),("_law_letters",["_law_found","_law_lines","_law_wires_here","_law_rounds"],0),("_law_kept",["_law_found","_law_scribes"],0),("_law_town",["_law_lines","_law_many","_law_own"],0),("law",["_law_script"],0)],["Scribe"],["number","many","rounds","lines","arrived"],[(0,"came",18),(0,"hear",19),(0,"say",20)],[(0,17,0)],[("Hand","__init__",21)],[],["hands","rounds","wires","letters","turn","said"],24⟩
theorem us1{α:Type}{P:List α->Prop}(h:∀a,P [a]):∀us:List α,us.length=1->P us | [a],_=>h a
theorem us2{α:Type}{P:List α->Prop}(h:∀a b,P [a,b]):∀us:List α,us.length=2->P us | [a,b],_=>h a b
theorem us3{α:Type}{P:List α->Prop}(h:∀a b c,P [a,b,c]):∀us:List α,us.length=3->P us | [a,b,c],_=>h a b c
theorem us4{α:Type}{P:List α->Prop}(h:∀a b c d,P [a,b,c,d]):∀us:List α,us.length=4->P us | [a,b,c,d],_=>h a b c d
theorem us5{α:Type}{P:List α->Prop}(h:∀a b c d e,P [a,b,c,d,e]):∀us:List α,us.length=5->P us | [a,b,c,d,e],_=>h a b c d e
theorem O19:OkD tab prog 0 "_wall" "_wall" ["k"] zlE:=zaB ["k"] rfl (by decide +kernel) fun _ _ _ _ _ _=>us1 fun _=>rfl
theorem O21:OkL tab prog 1 "run" ["hands","rounds","wires"] 1 zfT:=zn8 (F:=c_run) rfl rfl (by decide +kernel)
theorem O16:OkD tab prog 2 "said_in" "said_in" ["turn","hands","wires"] zgG:=zaB ["turn","hands","wires","said","place","hand","path","to","word"] rfl (by decide +kernel) fun _ _ _ _ _ _=>us3 fun _ _ _=>rfl
theorem O17:OkD tab prog 3 "deliver" "deliver" ["turn","hands","said"] zgH:=zaB ["turn","hands","said","boxes","letter","place","hand"] rfl (by decide +kernel) fun _ _ _ _ _ _=>us3 fun _ _ _=>rfl
theorem O18:OkD tab prog 4 "heard" "heard" ["letters","place"] zjr:=zaB ["letters","place"] rfl (by decide +kernel) fun _ _ _ _ _ _=>us2 fun _ _=>rfl
theorem O0:OkD tab prog 5 "_law_cell_at" "_law_cell_at" ["_law_script","_law_k"] zc2:=zaB ["_law_script","_law_k"] rfl (by decide +kernel) fun _ _ _ _ _ _=>us2 fun _ _=>rfl
theorem O13:OkD tab prog 6 "_law_word" "_law_word" ["_law_cell"] zfi:=zaB ["_law_cell"] rfl (by decide +kernel) fun _ _ _ _ _ _=>us1 fun _=>rfl
theorem O6:OkD tab prog 7 "_law_spread" "_law_spread" ["_law_cell","_law_digits"] zdM:=zaB ["_law_cell","_law_digits","_law_number"] rfl (by decide +kernel) fun _ _ _ _ _ _=>us2 fun _ _=>rfl
theorem O14:OkD tab prog 8 "_law_line" "_law_line" ["_law_cell","_law_number","_law_many"] zfl:=zaB ["_law_cell","_law_number","_law_many","_law_left","_law_order","_law_k","_law_size"] rfl (by decide +kernel) fun _ _ _ _ _ _=>us3 fun _ _ _=>rfl
theorem O8:OkD tab prog 9 "_law_dealt" "_law_dealt" ["_law_script","_law_many","_law_places"] zez:=zaB ["_law_script","_law_many","_law_places","_law_digits","_law_lines","_law_known","_law_k","_law_cell","_law_at","_law_line_here"] rfl (by decide +kernel) fun _ _ _ _ _ _=>us3 fun _ _ _=>rfl
theorem O4:OkD tab prog 10 "_law_crossed" "_law_crossed" ["_law_bits","_law_one","_law_other","_law_many"] zc1:=zaB ["_law_bits","_law_one","_law_other","_law_many","_law_low","_law_high"] rfl (by decide +kernel) fun _ _ _ _ _ _=>us4 fun _ _ _ _=>rfl
theorem O10:OkD tab prog 11 "_law_wires" "_law_wires" ["_law_bits","_law_many","_law_places"] zey:=zaB ["_law_bits","_law_many","_law_places","_law_wires_here","_law_at","_law_row","_law_hand","_law_copy"] rfl (by decide +kernel) fun _ _ _ _ _ _=>us3 fun _ _ _=>rfl
theorem O15:OkD tab prog 12 "_law_same" "_law_same" ["_law_found","_law_due"] zfk:=zaB ["_law_found","_law_due"] rfl (by decide +kernel) fun _ _ _ _ _ _=>us2 fun _ _=>rfl
theorem O3:OkD tab prog 13 "_law_letters" "_law_letters" ["_law_found","_law_lines","_law_wires_here","_law_rounds"] zc0:=zaB ["_law_found","_law_lines","_law_wires_here","_law_rounds","_law_due","_law_at","_law_turn","_law_path","_law_to","_law_word_here","_law_ahead","_law_letter"] rfl (by decide +kernel) fun _ _ _ _ _ _=>us4 fun _ _ _ _=>rfl
theorem O11:OkD tab prog 14 "_law_kept" "_law_kept" ["_law_found","_law_scribes"] zfm:=zaB ["_law_found","_law_scribes","_law_place","_law_came","_law_due"] rfl (by decide +kernel) fun _ _ _ _ _ _=>us2 fun _ _=>rfl
theorem O12:OkD tab prog 15 "_law_town" "_law_town" ["_law_lines","_law_many","_law_own"] zfj:=zaB ["_law_lines","_law_many","_law_own"] rfl (by decide +kernel) fun _ _ _ _ _ _=>us3 fun _ _ _=>rfl
theorem O20:OkD tab prog 16 "law" "law" ["_law_script"] znD:=zaB ["_law_script","_law_many","_law_places","_law_rounds","_law_lines","_law_wires_here","_law_handed","_law_own","_law_scribes","_law_found","_law_again"] rfl (by decide +kernel) fun _ _ _ _ _ _=>us1 fun _=>rfl
theorem O5:OkD tab prog 17 "__init__" "Scribe.__init__" ["self","number","many","rounds","lines"] zc3:=zaB ["self","number","many","rounds","lines"] rfl (by decide +kernel) fun _ _ _ _ _ _=>us5 fun _ _ _ _ _=>rfl
theorem O1:OkD tab prog 18 "came" "Scribe.came" ["self"] zc5:=zaB ["self"] rfl (by decide +kernel) fun _ _ _ _ _ _=>us1 fun _=>rfl
theorem O2:OkD tab prog 19 "hear" "Scribe.hear" ["self","turn","letters"] zc4:=zaB ["self","turn","letters"] rfl (by decide +kernel) fun _ _ _ _ _ _=>us3 fun _ _ _=>rfl
theorem O7:OkD tab prog 20 "say" "Scribe.say" ["self","turn"] zdN:=zaB ["self","turn"] rfl (by decide +kernel) fun _ _ _ _ _ _=>us2 fun _ _=>rfl
theorem O9:OkD tab prog 21 "__init__" "Hand.__init__" ["self","number","many","rounds"] zeA:=zaB ["self","number","many","rounds"] rfl (by decide +kernel) fun _ _ _ _ _ _=>us4 fun _ _ _ _=>rfl
end
section
open R
theorem ze8(h:P[f]?=some F)(hl:ds.length=F.np)(w:W (exS (callF P n) F.body (zau F ds) S) fun r T=>match r with|.nx _=>Q .non T|.rt d=>Q d T)(hp:F.prim=none:=by rfl):W (appW (callF P (n+1)) f ds S) Q:=by unfold appW;simp[callF,h,hl,hp,if_true,zaa];refine w.mono fun r T q=>?_;cases r<;>exact q
theorem ziU(h:P[f]?=some F)(hl:ds.length=F.np)(w:wS (callF P n) F.body (zau F ds) S fun r T=>match r with|.nx _=>D.non=d/\T=S'|.rt z=>z=d/\T=S')(hp:F.prim=none:=by rfl):appW (callF P (n+1)) f ds S=.ok d S':=by refine W.eq (ze8 h hl ((wS_W _ w).mono fun r T q=>?_) hp);cases r<;>exact q
theorem zcw(e:S.get a=some (.ins c fs)):zcu S (.ref a)=some (c,fs):=by unfold zcu;dsimp only;rw[e]
theorem zin(e:S.get a=some (.ins c fs))(g:fs.lookup f=some v):((zcu S (.ref a)).bind fun p=>p.2.lookup f)=some v:=by rw[zcw e];exact g
theorem plen(S:R.St)(o:MO):(S.push o).len=S.len+1:=by simp[St.push,St.len];omega
structure Mv(A:List Nat)(S T:R.St):Prop where
 frz:T.frz=S.frz
 lk:T.lk=S.lk
 len:S.len<=T.len
 old:∀m o,m∉A->S.get m=some o->T.get m=some o
theorem Mv.refl(A:List Nat)(S:R.St):Mv A S S:=⟨rfl,rfl,le_refl _,fun _ _ _ h=>h⟩
theorem Mv.trans(a:Mv A S T)(b:Mv A T U):Mv A S U:=⟨b.frz.trans a.frz,b.lk.trans a.lk,le_trans a.len b.len,fun m o h e=>b.old m o h (a.old m o h e)⟩
theorem Mv.push(A:List Nat)(S:R.St)(o:MO):Mv A S (S.push o):=⟨rfl,rfl,by rw[plen];omega,fun _ _ _ e=>zad e⟩
theorem Mv.up(h:Mv A S T)(s:∀m,m∈A->m∈B):Mv B S T:=⟨h.frz,h.lk,h.len,fun m o hm e=>h.old m o (fun z=>hm (s m z)) e⟩
structure Fr(S:R.St)(a:Nat):Prop where
 f:S.frz.length<=a
 k:S.lk.contains a=false
theorem Fr.mv(h:Fr S a)(v:Mv A S T):Fr T a:=⟨by rw[v.frz];exact h.f,by rw[v.lk];exact h.k⟩
theorem zep(e:S.get a=some (.ins c fs))(hf:Fr S a)(hl:fs.length<1000)(hg:zhx f v fs=gs):∃T,zbK S (.ref a) f v=some T/\Mv [a] S T/\T.get a=some (.ins c gs):=by obtain⟨T,h1,h2,h3,h4,h5,h6⟩:=zdO (.ins c gs) hf.f hf.k;refine⟨T,?_,⟨h2,h3,by omega,fun m o hm e=>by rw[h5 m (by simpa using hm)];exact e⟩,h6 (zam e)⟩;unfold zbK;dsimp only;rw[e];dsimp only;rw[if_pos hl,hg,h1]
theorem zgq(h:evE cf e δ S=.ok d S')(w:W (exS cf r (δ.set i (some d)) S') Q):W (exS cf (.asg i e r) δ S) Q:=by rw[exS,h,zal];exact w
theorem zcx(w:W (evT cf c δ S) fun k S1=>k=false/\W (exS cf r δ S1) Q):W (exS cf (.ifS c u .nil r) δ S) Q:=by rw[exS,zaa];refine w.mono fun k S1 hk=>?_;obtain⟨rfl,w1⟩:=hk;exact w1
theorem zoH(h:P[f]?=some F)(hl:ds.length=F.np)(hp:F.prim=none)(w:W (exS (callF P n) F.body (zau F ds) S) fun r T=>match r with|.nx _=>Q .non T|.rt d=>Q d T):W (callF P (n+1) f ds S) Q:=by simp[callF,h,hl,hp,if_true,zaa];refine w.mono fun r T q=>?_;cases r<;>exact q
theorem za9(S:R.St)(o:MO):(S.push o).get S.len=some o:=zah S o
theorem zkB(u:Mv (T.len::A) (T.push o) U):Mv A T U:=
 ⟨u.frz,u.lk,by have:=u.len;rw[plen]at this;omega,fun m x hm e=>u.old m x (by
  intro z;rcases mem_cons.mp z with z|z;have:=zam e;omega;exact hm z) (zad e)⟩
theorem zbr(hf:Fr T l)(e:T.get l=some o):∃U,T.put l u=some U/\Mv [l] T U/\U.get l=some u:=by obtain⟨U,h1,h2,h3,h4,h5,h6⟩:=zdO u hf.f hf.k;exact⟨U,h1,⟨h2,h3,by omega,fun m x hm e=>by rw[h5 m (by simpa using hm)];exact e⟩,h6 (zam e)⟩
noncomputable abbrev pD(p:List Int):D:=.tup (p.map .int)
theorem zdX(h:T.lk=l):({T with lk:=l}:R.St)=T:=by subst h;rfl
theorem zfO(n:Nat):((List.range (n:Int).toNat).map fun(k:Nat)=>D.int k)=(hnds n).map D.int:=by unfold hnds;rw[map_map];rfl
theorem zfp(S:R.St)(n:Nat):∀p:List Int,(p.map D.int).mapM (pd S n)=some (p.map PySem.PyData.int)
 | []=>rfl| a::p=>by rw[map_cons,mapM_cons,zfp S n p];cases n<;>rfl
theorem znY(S:R.St)(n:Nat)(p:List Int):pd S (n+1) (pD p)=some (.tuple (p.map .int)):=by unfold pd;rw[zfp];rfl
theorem Mv.lock(h:Mv A {S with lk:=l} T):Mv A S {T with lk:=S.lk}:=⟨h.frz,rfl,h.len,fun m o hm e=>h.old m o hm e⟩
theorem zaJ(h:evL cf l δ S=.ok (xs,ls) S1)
  (w:W (zaw g (exS cf b) xs δ {S1 with lk:=ls++S1.lk}) fun f T=>match f with|.nx δ'=>W (exS cf r δ' {T with lk:=S1.lk}) Q|.rt d=>Q (.rt d) {T with lk:=S1.lk}):W (exS cf (.forS g l b r) δ S) Q:=by
 rw[exS,h,zal];unfold zbm;rw[zaa,zaa];refine w.mono fun f T hf=>?_;cases f with|nx δ'=>exact hf|rt d=>exact hf
noncomputable def oD:Option Int->D|some i=>.int i|none=>.non
theorem hnds_mem{m:Nat}{x:Int}:x∈hnds m↔0<=x/\x<m:=by unfold hnds;rw[mem_map];constructor;rintro⟨k,hk,rfl⟩;have:=mem_range.mp hk;exact⟨by simp,by exact_mod_cast this⟩;rintro⟨h0,h1⟩;exact⟨x.toNat,mem_range.mpr (by omega),by simp;omega⟩
theorem zdf{n:Nat}{S:R.St}{ns:List Int}{k:Nat}:app (callF prog (n+1)) 5 [.fix (ns.map .int),.int k] S=.ok (.int (zbi ns k)) S:=by
 refine zgr (F:=zb7) rfl rfl ?_;left;refine zgw (fun c=>?_) (fun c=>?_);have c:k<ns.length:=by simpa using c
 left;exists za7 (x:=D.int ns[k]) (by simp[c]);left;change by decide
 left;change by decide
 left;refine zar rfl ⟨?_,rfl⟩;unfold zbi;rw[getElem?_eq_getElem c];rfl;have c:¬k<ns.length:=by simpa using c
 left;refine zar rfl ⟨?_,rfl⟩;unfold zbi;rw[List.getElem?_eq_none (by omega)]
noncomputable abbrev Ly:=K3×Option Int
noncomputable def kD(k:K3):D:=.tup [.int k.1,pD k.2.1,.int k.2.2]
noncomputable def lD(l:Ly):D:=.tup [.int l.1.1,pD l.1.2.1,.int l.1.2.2,oD l.2]
theorem ziq(N:Nat)(p:List Int):flat N (pD p)=true:=by simp[zaD]
theorem zir(N:Nat)(o:Option Int):flat N (oD o)=true:=by cases o<;>rfl
theorem zis(N:Nat)(l:Ly):flat N (lD l)=true:=by unfold lD;rw[zgg,zaD];intro d hd;simp only[mem_cons,not_mem_nil,or_false]at hd;rcases hd with rfl|rfl|rfl|rfl;rfl;exact ziq _ _;rfl;exact zir _ _
theorem zgj{α:Type}(xs:List α)(k:Nat):cut xs none (some (k:Int))=xs.take k:=by
 unfold cut;have h1:sIx xs.length xs.length (some (k:Int))=min k xs.length:=by unfold sIx;dsimp only;rw[if_neg (by omega)];simp
 have h0:sIx xs.length 0 none=0:=rfl;rw[h1,h0,List.drop_zero,Nat.sub_zero];by_cases c:k<=xs.length;rw[Nat.min_eq_left c];rw[Nat.min_eq_right (by omega),List.take_of_length_le (le_refl _),List.take_of_length_le (by omega)]
open PySem (PyData) in
noncomputable def zg9(c:Int):Option Int:=if c%6=0 then none else if c%6=1 then some (c/6%(2*10^50)-10^50) else if c%6=2 then some ((10^60-1-c/12%9)*(if c/6%2=0 then 1 else -1)) else some (c/6%7-3)
theorem zlt{n:Nat}{S:R.St}{c:Int}:app (callF prog (n+1)) 6 [.int c] S=.ok (oD (zg9 c)) S:=by
 have key:W (app (callF prog (n+1)) 6 [.int c] S) fun d T=>T=S/\d=oD (zg9 c):=by
  refine zg7 (F:=zds) rfl rfl ?_;unfold zg9;left
  repeat (first|(refine wNeed_of (by first|decide|omega|(simp;done)|(simp;omega)) ?_;conv=>whnf)|(refine wGet_new rfl ?_;conv=>whnf)|(refine wPut_new rfl ?_;conv=>whnf)|(refine wGet_old (by assumption) ?_;conv=>whnf))
  refine zgw (fun c1=>?_) (fun c1=>?_);rw[if_pos c1];left;exact zar rfl ⟨rfl,rfl⟩
  . rw[if_neg c1];left
    repeat (first|(refine wNeed_of (by first|decide|omega|(simp;done)|(simp;omega)) ?_;conv=>whnf)|(refine wGet_new rfl ?_;conv=>whnf)|(refine wPut_new rfl ?_;conv=>whnf)|(refine wGet_old (by assumption) ?_;conv=>whnf))
    refine zgw (fun c2=>?_) (fun c2=>?_)
    . rw[if_pos c2];left
      repeat (first|(refine wNeed_of (by first|decide|omega|(simp;done)|(simp;omega)) ?_;conv=>whnf)|(refine wGet_new rfl ?_;conv=>whnf)|(refine wPut_new rfl ?_;conv=>whnf)|(refine wGet_old (by assumption) ?_;conv=>whnf))
      refine zar rfl ⟨rfl,?_⟩;rw[show Int.toNat 50=50 from rfl];rfl
    . rw[if_neg c2];left
      repeat (first|(refine wNeed_of (by first|decide|omega|(simp;done)|(simp;omega)) ?_;conv=>whnf)|(refine wGet_new rfl ?_;conv=>whnf)|(refine wPut_new rfl ?_;conv=>whnf)|(refine wGet_old (by assumption) ?_;conv=>whnf))
      refine zgw (fun c3=>?_) (fun c3=>?_)
      . rw[if_pos c3];left
        repeat (first|(refine wNeed_of (by first|decide|omega|(simp;done)|(simp;omega)) ?_;conv=>whnf)|(refine wGet_new rfl ?_;conv=>whnf)|(refine wPut_new rfl ?_;conv=>whnf)|(refine wGet_old (by assumption) ?_;conv=>whnf))
        have hx:c/6%2=0\/c/6%2=1:=by omega
        rcases hx with e|e;rw[e];exists zah _ _;left;exists(show atI [D.int 1,D.int (-1)] 0=some (D.int 1) from rfl);left;change by simp[zc7]
        left;refine zar rfl ⟨rfl,?_⟩;rw[show Int.toNat 60=60 from rfl,if_pos rfl];rfl;rw[e];exists zah _ _;left;exists(show atI [D.int 1,D.int (-1)] 1=some (D.int (-1)) from rfl);left;change by simp[zc7]
        left;refine zar rfl ⟨rfl,?_⟩;rw[show Int.toNat 60=60 from rfl,if_neg (by decide)];rfl
      . rw[if_neg c3];left
        repeat (first|(refine wNeed_of (by first|decide|omega|(simp;done)|(simp;omega)) ?_;conv=>whnf)|(refine wGet_new rfl ?_;conv=>whnf)|(refine wPut_new rfl ?_;conv=>whnf)|(refine wGet_old (by assumption) ?_;conv=>whnf))
        exact zar rfl ⟨rfl,rfl⟩
 obtain⟨d,T,e,rfl,rfl⟩:=W.iff.mp key;exact e
noncomputable def vZ(c:Int):Int:=c%10^Int.toNat 64*48271%2147483647
noncomputable def zcd(c:Int)(d:Bool):Int:=if d then c%10^Int.toNat 64 else vZ c*vZ c*vZ c+69621*vZ c
theorem zi4(c:Int)(d:Bool):0<=zcd c d:=by unfold zcd;split;exact emod_nonneg _ (by decide);have v0:0<=vZ c:=emod_nonneg (c%10^Int.toNat 64*48271) (b:=2147483647) (by decide);have h1:=Int.mul_nonneg v0 v0;have h2:=Int.mul_nonneg h1 v0;omega
theorem zji{n:Nat}{S:R.St}{c:Int}{d:Bool}:app (callF prog (n+1)) 7 [.int c,.bl d] S=.ok (.int (zcd c d)) S:=by
 have key:W (app (callF prog (n+1)) 7 [.int c,.bl d] S) fun z T=>T=S/\z=.int (zcd c d):=by
  refine zg7 (F:=zcs) rfl rfl ?_;left
  repeat (first|(refine wNeed_of (by first|decide|omega|(simp;done)|(simp;omega)) ?_;conv=>whnf)|(refine wGet_new rfl ?_;conv=>whnf)|(refine wPut_new rfl ?_;conv=>whnf)|(refine wGet_old (by assumption) ?_;conv=>whnf))
  cases d with
  |true=>left;exact zar rfl ⟨rfl,rfl⟩| false=>
   left;change by simp[zc7]
   left;change by first|decide|omega|(simp;done)|(simp;omega)
   left;have v0:=emod_nonneg (c%10^Int.toNat 64*48271) (b:=2147483647) (by decide);have v1:=Int.emod_lt_of_pos (c%10^Int.toNat 64*48271) (b:=2147483647) (by decide);have ev:vZ c=c%10^Int.toNat 64*48271%2147483647:=rfl;unfold zcd;rw[if_neg (by decide),ev];generalize c%10^Int.toNat 64*48271%2147483647=v at *;have mk:∀u:Int,zc7 u v=true:=fun u=>by unfold zc7;rw[or_eq_true];right;rw[decide_eq_true_eq];omega
   change mk _;left;change mk _;left;change mk _;left;exact zar rfl ⟨rfl,rfl⟩
 obtain⟨d,T,e,rfl,rfl⟩:=W.iff.mp key;exact e
structure GL(m:Nat)(q:Int)(l:Ly):Prop where
 t1:1<=l.1.1
 t6:l.1.1<=6
 p:∃p,l.1.2.1=p++[q]
 o0:0<=l.1.2.2
 o1:l.1.2.2<m
structure Pk(m:Nat)(os ls:List Int):Prop where
 ln:ls.Nodup
 oi:∀y∈os,0<=y/\y<m
 li:∀y∈ls,(0<=y/\y<m)/\y∉os
 sz:os.length+ls.length=m-1
theorem pk_0{m:Nat}{q:Int}(h0:0<=q)(h1:q<m):Pk m [] ((hnds m).filter fun o=>!decide (o=q)):=by
 refine⟨(zdo m).filter _,fun y h=>(by cases h),fun y h=>⟨hnds_mem.mp (mem_filter.mp h).1,by simp⟩,?_⟩;have e:(hnds m).filter (fun o=>!decide (o=q))=(hnds m).erase q:=by rw[(zdo m).erase_eq_filter];exact List.filter_congr fun y _=>by simp[bne];by_cases c:y=q<;>simp[c]
 rw[e,List.length_erase_of_mem (hnds_mem.mpr ⟨h0,h1⟩)];simp[hnds]
theorem zlR{m:Nat}{os ls:List Int}{x:Int}(h:Pk m os ls)(hx:x∈ls):Pk m (os++[x]) (ls.filter fun y=>!decide (y∈os++[x])):=by
 have e:ls.filter (fun y=>!decide (y∈os++[x]))=ls.erase x:=by rw[h.ln.erase_eq_filter];refine List.filter_congr fun y hy=>?_;have:=(h.li y hy).2;by_cases c:y=x;subst c;simp;simp[this,c]
 refine⟨h.ln.filter _,fun y hy=>?_,fun y hy=>?_,?_⟩;rcases mem_append.mp hy with z|z;exact h.oi y z;simp only[mem_singleton]at z;subst z;exact(h.li _ hx).1;have:=mem_filter.mp hy;exact⟨(h.li y this.1).1,by simpa using this.2⟩;have hp:0<ls.length:=List.length_pos_of_mem hx;have:=h.sz;rw[e,List.length_erase_of_mem hx,length_append];simp;omega
theorem zmq(ls os:List Int):((ls.map D.int).filter (fun d=>match d with|.int y=>!decide (y∈os)|_=>false)).map (fun d=>d)=(ls.filter fun y=>!decide (y∈os)).map D.int:=by rw[List.map_id',List.filter_map];rfl
theorem zmp(ls:List Int)(q:Int):((ls.map D.int).filter (fun d=>match d with|.int y=>!decide (y=q)|_=>false)).map (fun d=>d)=(ls.filter fun y=>!decide (y=q)).map D.int:=by rw[List.map_id',List.filter_map];rfl
theorem znt{n:Nat}{S:R.St}{c q:Int}{m:Nat}(m2:2<=m)(m7:m<=7)(c0:0<=c)(q0:0<=q)(q1:q<m):∃l,GL m q l/\app (callF prog (n+2)) 8 [.int c,.int q,.int m] S=.ok (lD l) S:=by
 have key:W (app (callF prog (n+2)) 8 [.int c,.int q,.int m] S) fun d T=>T=S/\∃l,GL m q l/\d=lD l:=by
  refine zg7 (F:=zdv) rfl rfl ?_;left;change by omega
  left;refine zaG ?_;rw[zfO m];refine W.of (zbc (fun d=>match d with|.int y=>!decide (y=q)|_=>false) (fun d=>d) _ none (fun z hz=>?_) (fun z hz _=>rfl)) ?_;obtain⟨y,_,rfl⟩:=mem_map.mp hz;refine W.eq (wT_W _ ?_);left;exact⟨rfl,rfl⟩;rw[zmp];have p0:=pk_0 q0 q1;generalize hL:(hnds m).filter (fun o=>!decide (o=q))=l0 at *;have hl0:l0.length<=7:=by have:=p0.sz;simp at this;omega
  change by rw[length_map];omega
  left;change by rw[length_map];omega
  left;change show 0<=16777216 by decide
  left;change by omega
  left;refine zaG ?_;refine W.mono (zby (fun i δ T=>∃(c':Int) (lf od:Nat) (u:Option D) (os ls:List Int),δ=[some (.int c'),some (.int q),some (.int m),some (.ref lf),some (.ref od),u,none]/\0<=c'/\lf≠od/\T.lk=[]/\T.frz.length<=od/\T.get lf=some (.lst (ls.map .int))/\T.get od=some (.lst (os.map .int))/\Pk m os ls/\os.length=i) (fun _ _=>False) _ 0 _ _ ⟨c,_,_,none,[],l0,rfl,c0,?_,rfl,?_,?_,?_,p0,rfl⟩ ?_) ?_;rw[plen];omega;show S.enter.frz.length<=_;rw[plen];exact le_trans (Nat.le_add_right S.enter.frz.length S.enter.new.length) (le_succ _);exact zad (zah _ _);exact zah _ _;rintro i z δ T hz ⟨c',lf,od,u,os,ls,rfl,hc,hne,hlk,hfr,g1,g2,pk,ho⟩;have hi:os.length<m-1:=by have:=(List.getElem?_eq_some_iff.mp hz).1;simp at this;omega
  have hls:0<ls.length:=by have:=pk.sz;omega
  have hls7:ls.length<=7:=by have:=pk.sz;omega
  refine⟨[some (.int c'),some (.int q),some (.int m),some (.ref lf),some (.ref od),some z,none],rfl,?_⟩;refine wS_W _ ?_;have q0:=emod_nonneg c' (b:=((ls.map D.int).length:Int)) (by rw[length_map];omega);have q1:=Int.emod_lt_of_pos c' (b:=((ls.map D.int).length:Int)) (by rw[length_map];omega);obtain⟨k,hk⟩:∃k:Nat,c'%((ls.map D.int).length:Int)=k:=⟨_,(Int.toNat_of_nonneg q0).symm⟩;have hk':k<ls.length:=by rw[hk]at q1;simpa using q1
  obtain⟨U,u1,u2,u3,u4,u5,u6⟩:=zdO (S:=T) (l:=od) (.lst ((os++[ls[k]]).map .int)) hfr (by rw[hlk];rfl);have ua:os.map D.int++[D.int ls[k]]=(os++[ls[k]]).map .int:=by simp
  have k1:U.get lf=some (.lst (ls.map .int)):=by rw[u5 lf hne];exact g1
  have k2:U.get od=some (.lst ((os++[ls[k]]).map .int)):=u6 (zam g2);have k2':∀lk,({U with lk:=lk}:R.St).get od=some (.lst ((os++[ls[k]]).map .int)):=fun _=>k2;have pk':=zlR pk (List.getElem_mem hk');left;exists g2;left;exists g1;left;change by simp;omega
  left;rw[hk];exists g1;left;exists za7 (x:=D.int ls[k]) (by simp[hk']);left;exists g2;left;change by simp;omega
  left;exists by rw[ua];exact u1
  left;exists k1;left;change by simp;omega
  left;exists k1;left;refine zaG ?_;refine W.of (zbc (fun d=>match d with|.int y=>!decide (y∈os++[ls[k]])|_=>false) (fun d=>d) _ none (fun z hz=>?_) (fun z hz _=>rfl)) ?_;obtain⟨y,_,rfl⟩:=mem_map.mp hz;refine W.eq (wT_W _ ?_);left;exists zhM (k2' _) y;left;exact⟨rfl,rfl⟩;rw[zmq];have hl2:=length_filter_le (fun y=>!decide (y∈os++[ls[k]])) ls;change by rw[length_map];omega
  left;change by rw[length_map];omega
  left;have hd:0<=c'/((ls.map D.int).length:Int):=Int.ediv_nonneg hc (Int.natCast_nonneg _);refine⟨_,_,od,_,_,_,rfl,hd,?_,?_,?_,zah _ _,zad (show St.get _ od=_ from k2),pk',?_⟩;have:=zam k2;intro e;rw[<-e]at this;exact lt_irrefl _ this;show U.lk=[];rw[u3,hlk];show U.frz.length<=od;rw[u2];exact hfr;rw[length_append,ho];rfl;rintro f T h;cases f with
  |rt d=>exact h.elim| nx δ=>
   obtain⟨c',lf,od,u,os,ls,rfl,hc,hne,hlk,hfr,g1,g2,pk,hi⟩:=h;have hi:os.length=m-1:=by rw[hi];simp
   have r0:=emod_nonneg c' (b:=(m:Int)-1) (by omega);have r1:=Int.emod_lt_of_pos c' (b:=(m:Int)-1) (by omega);left;change by omega
   left;change by omega
   left;obtain⟨k,hk⟩:∃k:Nat,c'%((m:Int)-1)=k:=⟨(c'%((m:Int)-1)).toNat,by omega⟩;have km:k<os.length:=by omega
   rw[hk];have d0:0<=c'/((m:Int)-1):=Int.ediv_nonneg hc (by omega);generalize c'/((m:Int)-1)=e at d0⊢;change by first|decide|omega|(simp;done)|(simp;omega)
   left;have g2':∀lk,({T with lk:=lk}:R.St).get od=some (.lst (os.map .int)):=fun _=>g2;exists g2' _;left;rw[ziK,zgj];have tl:(os.take k).length=k:=by rw[length_take];omega
   change by rw[length_map];omega
   left;exists zah _ _;left;change by rw[length_map];omega
   left;change show 1<=16777216 by decide
   left;change by simp;omega
   left;exists zad (g2' _);left;exists za7 (x:=D.int os[k]) (by simp[km]);left;change by first|decide|omega|(simp;done)|(simp;omega)
   left;have em:=emod_nonneg e (b:=6) (by decide);have em1:=Int.emod_lt_of_pos e (b:=6) (by decide);generalize hS:St.push _ _=S1;specialize zlt (n:=n) (S:=S1) (c:=e/6);left;change by first|decide|omega|(simp;done)|(simp;omega)
   left;have ek:=pk.oi _ (List.getElem_mem km);have ep:(os.take k).map D.int++[D.int q]=(os.take k++[q]).map D.int:=by simp
   rw[ep];exact zar (zis _ ((1+e%6,os.take k++[q],os[k]),zg9 (e/6))) ⟨rfl,((1+e%6,os.take k++[q],os[k]),zg9 (e/6)),⟨by show(1:Int)<=1+e%6;omega,by show 1+e%6<=(6:Int);omega,⟨_,rfl⟩,ek.1,ek.2⟩,rfl⟩
 obtain⟨d,T,e,rfl,l,h,rfl⟩:=W.iff.mp key;exact⟨l,h,e⟩
theorem zkb(N l:Nat):flat N (.ref l)=decide (l<N):=by simp[flat]
theorem zbg{S T:R.St}(fz:T.frz=S.enter.frz)(l:Nat):(⟨S.frz,S.new++T.new,S.lk⟩:R.St).get l=T.get l:=by
 unfold St.get;rw[fz];show(if l<S.frz.length then S.frz[l]? else(S.new++T.new)[l-S.frz.length]?)=if l<(S.frz++S.new).length then(S.frz++S.new)[l]? else T.new[l-(S.frz++S.new).length]?
 rw[length_append];by_cases h:l<S.frz.length;rw[if_pos h,if_pos (by omega),getElem?_append_left h];rw[if_neg h];by_cases h2:l<S.frz.length+S.new.length;rw[if_pos h2,getElem?_append_left (by omega),getElem?_append_right (by omega)];rw[if_neg h2,getElem?_append_right (by omega)];congr 1;omega
theorem zd2{S T:R.St}(fz:T.frz=S.enter.frz):(⟨S.frz,S.new++T.new,S.lk⟩:R.St).len=T.len:=by unfold St.len;rw[fz];show S.frz.length+(S.new++T.new).length=(S.frz++S.new).length+_;simp;omega
theorem zcy{S T:R.St}{l:Nat}{ds:List D}{Q:D->R.St->Prop}(hl:S.len<=l)(hg:T.get l=some (.lst ds))(hf:flats S.len ds=false)(q:Q (.ref l) ⟨S.frz,S.new++T.new,S.lk⟩):wFin S (.rt (.ref l)) T Q:=by unfold wFin;show W (zb4 S (.ref l) T) Q;unfold zb4;rw[if_neg (by rw[zkb];simp;omega)];dsimp only;rw[hg];dsimp only;rw[if_neg (by rw[hf];simp)];exact q
noncomputable def nils(n:Nat)(S:R.St):R.St:={S with new:=S.new++List.replicate n (.lst [])}
noncomputable def rfs(b n:Nat):List D:=(List.range n).map fun i=>.ref (b+i)
theorem zhN(S:R.St):nils 0 S=S:=by simp[nils]
theorem zeD(n:Nat)(S:R.St):nils n (S.push (.lst []))=nils (n+1) S:=by unfold nils St.push;simp[List.replicate_succ]
theorem zjM(n:Nat)(S:R.St):(nils n S).len=S.len+n:=by simp[nils,St.len];omega
theorem zf2:∀(n:Nat)(S:R.St)(i:Nat),i<n->(nils n S).get (S.len+i)=some (.lst [])
 |n+1,S,0,_=>by
  rw[<-zeD];have:∀(n:Nat)(S:R.St) l o,S.get l=some o->(nils n S).get l=some o:=by intro n;induction n with|zero=>intro S l o h;rw[zhN];exact h|succ n ih=>intro S l o h;rw[<-zeD];exact ih _ _ _ (zad h)
  exact this _ _ _ _ (zah _ _)
 |n+1,S,i+1,h=>by have:=zf2 n (S.push (.lst [])) i (by omega);rw[zeD,plen]at this;rw[show S.len+(i+1)=S.len+1+i by omega];exact this
theorem zf1:∀(n:Nat)(S:R.St){l:Nat}{o:MO},S.get l=some o->(nils n S).get l=some o
 |0,S,l,o,h=>by rw[zhN];exact h|n+1,S,l,o,h=>by rw[<-zeD];exact zf1 n _ (zad h)
theorem zpq(b n:Nat):D.ref b::rfs (b+1) n=rfs b (n+1):=by unfold rfs;rw[List.range_succ_eq_map,map_cons,map_map];congr 1;exact List.map_congr_left fun i _=>by simp;omega
theorem zkO{cf:CF}{rest:Ev}:∀(xs:List D)(o:Option D)(S:R.St),zax [0] (evT cf (.tst (.con (.bl true)))) (evE cf (.lst .nil)) xs (o::rest) S=.ok (rfs S.len xs.length) (nils xs.length S)
 | [],o,S=>by rw[length_nil,zhN];rfl| x::xs,o,S=>by
  have e1:evT cf (.tst (.con (.bl true))) (some x::rest) S=.ok true S:=by simp only[evT,evE,zal];rfl
  have e2:evE cf (.lst .nil) (some x::rest) S=.ok (.ref S.len) (S.push (.lst [])):=by simp only[evE,evEs,zal];rfl
  have ih:=zkO (cf:=cf) (rest:=rest) xs (some x) (S.push (.lst []));unfold zax;show Out.bind (evT cf (.tst (.con (.bl true))) (some x::rest) S) _=_;rw[e1,zal,if_pos rfl];show Out.bind (evE cf (.lst .nil) (some x::rest) S) _=_;rw[e2,zal];show Out.bind (zax [0] _ _ xs (some x::rest) (S.push (.lst []))) _=_;rw[ih,zal,plen,zeD,zpq];rfl
theorem zfQ{b n k:Nat}(h:k<n):(rfs b n)[k]?=some (.ref (b+k)):=by simp[rfs,h]
theorem zcm(k:K3):key3 (.tup [.int k.1,pD k.2.1,.int k.2.2])=some k:=by show(zaL (k.2.1.map D.int)).map _=_;rw[zaY];rfl
theorem zh1(a:Int)(k:K3):key4 (.tup [.int a,.tup [.int k.1,pD k.2.1,.int k.2.2]])=some (a,k):=by show(key3 _).map _=_;rw[zcm];rfl
theorem cut3(l:Ly):cut [D.int l.1.1,pD l.1.2.1,.int l.1.2.2,oD l.2] none (some 3)=[.int l.1.1,pD l.1.2.1,.int l.1.2.2]:=zgj [D.int l.1.1,pD l.1.2.1,.int l.1.2.2,oD l.2] 3
theorem zn9{S:R.St}{l:Nat}{kvs:List ((Int×K3)×D)}(h:S.get l=some (.d4 kvs))(a:Int)(k:K3):cmpO S .NotIn (.tup [.int a,.tup [.int k.1,pD k.2.1,.int k.2.2]]) (.ref l)=some (!decide ((a,k)∈kvs.map (·.1))):=by show(zcQ S _ (.ref l)).map (!·)=_;unfold zcQ;dsimp only;rw[h];dsimp only;rw[zh1];rfl
theorem put4{S:R.St}{l:Nat}{kvs:List ((Int×K3)×D)}(h:S.get l=some (.d4 kvs))(hf:Fr S l)(hl:kvs.length<=1000)(a:Int)(k:K3)(v:D):∃T,dPut S (.ref l) (.tup [.int a,.tup [.int k.1,pD k.2.1,.int k.2.2]]) v=some T/\Mv [l] S T/\T.get l=some (.d4 (putQ kvs (a,k) v)):=by obtain⟨U,hU,mU,gU⟩:=zbr (u:=.d4 (putQ kvs (a,k) v)) hf h;refine⟨U,?_,mU,gU⟩;unfold dPut;dsimp only;rw[h];dsimp only;rw[zh1,bind_some,if_pos (by omega),hU]
theorem zjs{κ:Type}[DecidableEq κ](kvs:List (κ×D))(k:κ)(v:D):(putQ kvs k v).length<=kvs.length+1:=by unfold putQ;split<;>simp
theorem zdQ{κ:Type}[DecidableEq κ](kvs:List (κ×D))(k j:κ)(v:D):j∈(putQ kvs k v).map (·.1)↔j∈kvs.map (·.1)\/j=k:=by
 unfold putQ;split;rename_i h;have e:(kvs.map fun x=>if x.1=k then(x.1,v) else x).map (·.1)=kvs.map (·.1):=by rw[map_map];refine List.map_congr_left fun x _=>?_;simp only[Function.comp];split<;>rfl
 rw[e];exact⟨.inl,fun z=>z.elim id fun z=>z▸h⟩;simp
structure DI(T:R.St)(b pl m L kd j:Nat)(Ls:List (List Ly))(kvs:List ((Int×K3)×D)):Prop where
 gl:T.get L=some (.lst (rfs b pl))
 gk:T.get kd=some (.d4 kvs)
 fk:Fr T kd
 fb:∀k,k<pl->Fr T (b+k)
 ll:Ls.length=pl
 g:∀(k:Nat)(ls:List Ly),Ls[k]?=some ls->T.get (b+k)=some (.lst (ls.map lD))
 nd:∀(k:Nat)(ls:List Ly),Ls[k]?=some ls->(ls.map (·.1)).Nodup
 gd:∀(k:Nat)(ls:List Ly),Ls[k]?=some ls->∀l∈ls,GL m ((k:Int)%m) l/\((k:Int),l.1)∈kvs.map (·.1)
 sz:Ls.flatten.length<=j
 kz:kvs.length<=j
 ne:∀k,k<pl->b+k≠kd/\b+k≠L
 nk:kd≠L
theorem zgh{α:Type}(x:α):∀(Ls:List (List α))(k:Nat)(ls:List α),Ls[k]?=some ls->(Ls.set k (ls++[x])).flatten.length=Ls.flatten.length+1
 |l::Ls,0,ls,h=>by cases h;rw[List.set_cons_zero,flatten_cons,flatten_cons];simp;omega| l::Ls,k+1,ls,h=>by rw[List.set_cons_succ,flatten_cons,flatten_cons,length_append,length_append,zgh x Ls k ls (by simpa using h)];omega
theorem zhV{α:Type}:∀(Ls:List (List α))(k:Nat)(ls:List α),Ls[k]?=some ls->ls.length<=Ls.flatten.length
 |l::Ls,0,ls,h=>by cases h;simp| l::Ls,k+1,ls,h=>by have:=zhV Ls k ls (by simpa using h);rw[flatten_cons,length_append];omega
noncomputable abbrev Ee(ns:List Int)(m pl:Nat)(dg:Bool)(L kd:Nat)(k:Int)(c a l:Option D):Ev:=[some (.fix (ns.map .int)),some (.int m),some (.int pl),some (.bl dg),some (.ref L),some (.ref kd),some (.int k),c,a,l]
noncomputable def kE:CE:=.tup #[J8,.sl J9 false true (.con .non) U3]
noncomputable def zpY:CS:=.setIx J5 kE (.con (D.bl true)) (.expr (.mt .append (.ix J4 J8) #[J9]) .nil)
noncomputable def dB:CS:=.asg 8 (.bin .Mod J6 J2) (.asg 6 (.bin .Add J6 U1) (.asg 9 (.call 8 0 #[.call 7 0 #[J7,J3],.bin .Mod J8 J1,J1]) (.ifS (.cmp .NotIn kE J5) zpY .nil .nil)))
theorem zgV{n:Nat}{T:R.St}{b pl m L kd j:Nat}{Ls:List (List Ly)}{kvs:List ((Int×K3)×D)}{ns:List Int}{dg:Bool}{x:Int}{u v:Option D}(X:DI T b pl m L kd j Ls kvs)(m2:2<=m)(m7:m<=7)(p1:1<=pl)(p14:pl<=14)(hj:j<=60) :
  W (exS (callF prog (n+3)) dB (Ee ns m pl dg L kd j (some (.int x)) u v) T) fun f U=>(∃u v,f=.nx (Ee ns m pl dg L kd ((j+1:Nat):Int) (some (.int x)) u v))/\(∃Ls' kvs',DI U b pl m L kd (j+1) Ls' kvs')/\Mv (kd::(List.range pl).map (b + ·)) T U:=by
 have a0:=emod_nonneg (j:Int) (b:=(pl:Int)) (by omega);have a1:=Int.emod_lt_of_pos (j:Int) (b:=(pl:Int)) (by omega);obtain⟨at',ha⟩:∃k:Nat,(j:Int)%pl=k:=⟨((j:Int)%pl).toNat,by omega⟩;have hp:at'<pl:=by omega
 have q0:=emod_nonneg (at':Int) (b:=(m:Int)) (by omega);have q1:=Int.emod_lt_of_pos (at':Int) (b:=(m:Int)) (by omega);obtain⟨l,hG,hl⟩:=znt (n:=n+1) (S:=T) (c:=zcd x dg) (q:=(at':Int)%m) m2 m7 (zi4 x dg) q0 q1;obtain⟨ls,hls⟩:∃ls,Ls[at']?=some ls:=⟨_,getElem?_eq_getElem (by rw[X.ll];exact hp)⟩;have lsz:=zhV Ls at' ls hls;refine wS_W _ ?_;left;change by omega
 left;rw[ha];specialize zji (n:=n+2) (S:=T) (c:=x) (d:=dg);left;change by omega
 left;specialize hl;left;unfold lD;left;rw[cut3];change show 2<=16777216 by decide
 left;exists zn9 X.gk _ _;left;refine zkV (fun c=>?_) (fun c=>?_);have c:((at':Int),l.1)∉kvs.map (·.1):=by simpa using c
 have kz:=X.kz;have sz:=X.sz;obtain⟨U,hU,mU,gU⟩:=put4 X.gk X.fk (by omega) at' l.1 (.bl true);have gL:=mU.old _ _ (by simpa using Ne.symm X.nk) X.gl;have gA:=mU.old _ _ (by simpa using(X.ne at' hp).1) (X.g at' ls hls);obtain⟨V,hV,mV,gV⟩:=zbr (u:=.lst ((ls++[l]).map lD)) ((X.fb at' hp).mv mU) gA;have ua:ls.map lD++[lD l]=(ls++[l]).map lD:=by simp
 left;rw[cut3];change show 2<=16777216 by decide
 left;exists hU;left;exists gL;left;exists za7 (zfQ (b:=b) hp);left;exists gA;left;exists gA;left;change by rw[length_append,length_map];simp only[length_cons,length_nil];omega
 left;exists show U.put (b+at') (.lst (ls.map lD++[lD l]))=some V by rw[ua];exact hV
 left;have oV:∀x o,x≠kd->x≠b+at'->T.get x=some o->V.get x=some o:=fun x o h1 h2 e=>mV.old _ _ (by simpa using h2) (mU.old _ _ (by simpa using h1) e);have ne:=X.ne at' hp;have gk:V.get kd=some (.d4 (putQ kvs ((at':Int),l.1) (.bl true))):=mV.old _ _ (by simpa using Ne.symm ne.1) gU;have mx:Mv (kd::(List.range pl).map (b + ·)) T V:=(mU.up (by simp)).trans (mV.up (by
  intro z hz;rw[mem_singleton.mp hz];exact mem_cons_of_mem _ (mem_map.mpr ⟨at',mem_range.mpr hp,rfl⟩)))
 refine⟨⟨_,_,rfl⟩,⟨Ls.set at' (ls++[l]),_,oV _ _ (Ne.symm X.nk) (Ne.symm ne.2) X.gl,gk,X.fk.mv mx,fun k hk=>(X.fb k hk).mv mx,by rw[List.length_set];exact X.ll,fun k ls' e=>?_,fun k ls' e=>?_,fun k ls' e l' hl'=>?_,?_,?_,X.ne,X.nk⟩,mx⟩;rw[List.getElem?_set]at e;split at e;rename_i ee;subst ee;rw[if_pos (by rw[X.ll];exact hp)]at e;cases e;exact gV;rename_i ee;have hk:k<pl:=by rw[<-X.ll];exact(List.getElem?_eq_some_iff.mp e).1
 exact oV _ _ (X.ne k hk).1 (by omega) (X.g k ls' e);rw[List.getElem?_set]at e;split at e;rename_i ee;subst ee;rw[if_pos (by rw[X.ll];exact hp)]at e;cases e;rw[map_append,nodup_append];refine⟨X.nd _ ls hls,by simp,fun y hy z hz=>?_⟩;rw[map_cons,map_nil,mem_singleton]at hz;subst hz;rintro rfl;obtain⟨l2,h2,e2⟩:=mem_map.mp hy;have:=(X.gd _ ls hls l2 h2).2;rw[e2]at this;exact c this;exact X.nd k ls' e;rw[List.getElem?_set]at e;split at e;rename_i ee;subst ee;rw[if_pos (by rw[X.ll];exact hp)]at e;cases e;rcases mem_append.mp hl' with h|h;exact⟨(X.gd _ ls hls l' h).1,(zdQ _ _ _ _).mpr (.inl (X.gd _ ls hls l' h).2)⟩;rw[mem_singleton.mp h];exact⟨hG,(zdQ _ _ _ _).mpr (.inr rfl)⟩;exact⟨(X.gd k ls' e l' hl').1,(zdQ _ _ _ _).mpr (.inl (X.gd k ls' e l' hl').2)⟩;rw[zgh _ _ _ _ hls];omega;have:=zjs kvs ((at':Int),l.1) (.bl true);omega;left;refine⟨⟨_,_,rfl⟩,⟨Ls,kvs,X.gl,X.gk,X.fk,X.fb,X.ll,X.g,X.nd,X.gd,by have:=X.sz;omega,by have:=X.kz;omega,X.ne,X.nk⟩,Mv.refl _ _⟩
theorem zdr{n:Nat}{b pl m L kd:Nat}{ns:List Int}{dg:Bool}(m2:2<=m)(m7:m<=7)(p1:1<=pl)(p14:pl<=14):∀(xs:List Int)(j:Nat)(Ls:List (List Ly))(kvs:List ((Int×K3)×D))(T:R.St)(c u v:Option D),DI T b pl m L kd j Ls kvs->j+xs.length<=60->
  W (zaw [7] (exS (callF prog (n+3)) dB) (xs.map D.int) (Ee ns m pl dg L kd j c u v) T) fun f U=>(∃k c u v,f=.nx (Ee ns m pl dg L kd k c u v))/\(∃Ls' kvs',DI U b pl m L kd (j+xs.length) Ls' kvs')/\Mv (kd::(List.range pl).map (b + ·)) T U
 | [],j,Ls,kvs,T,c,u,v,X,_=>by show W (Out.ok (Fl.nx _) T) _;rw[W_ok];exact⟨⟨_,_,_,_,rfl⟩,⟨Ls,kvs,X⟩,Mv.refl _ _⟩| x::xs,j,Ls,kvs,T,c,u,v,X,h=>by rw[length_cons]at h;show W (Out.bind (exS (callF prog (n+3)) dB (Ee ns m pl dg L kd j (some (.int x)) u v) T) _) _;rw[zaa];refine(zgV (n:=n) X m2 m7 p1 p14 (by omega)).mono fun f U hU=>?_;obtain⟨⟨u',v',rfl⟩,⟨Ls',kvs',Y⟩,v1⟩:=hU;refine(zdr m2 m7 p1 p14 xs (j+1) Ls' kvs' U _ _ _ Y (by omega)).mono fun f V hV=>?_;obtain⟨h1,h2,v2⟩:=hV;rw[show j+1+xs.length=j+(x::xs).length by rw[length_cons];omega]at h2;exact⟨h1,h2,v1.trans v2⟩
structure Dl(U:R.St)(L b pl m:Nat)(Ls:List (List Ly)):Prop where
 gl:U.get L=some (.lst (rfs b pl))
 ll:Ls.length=pl
 g:∀(k:Nat)(ls:List Ly),Ls[k]?=some ls->U.get (b+k)=some (.lst (ls.map lD))
 nd:∀(k:Nat)(ls:List Ly),Ls[k]?=some ls->(ls.map (·.1)).Nodup
 gd:∀(k:Nat)(ls:List Ly),Ls[k]?=some ls->∀l∈ls,GL m ((k:Int)%m) l
 sz:Ls.flatten.length<=58
theorem Dl.mv{U V:R.St}{L b pl m:Nat}{Ls:List (List Ly)}(h:Dl U L b pl m Ls)(v:∀l o,U.get l=some o->V.get l=some o):Dl V L b pl m Ls:=⟨v _ _ h.gl,h.ll,fun k ls e=>v _ _ (h.g k ls e),h.nd,h.gd,h.sz⟩
theorem zoF(ns:List Int):(cut ns (some 4) (some 62)).length<=58:=by unfold cut;rw[length_take];show min (min 62 ns.length-min 4 ns.length) _<=58;omega
theorem zlv{n:Nat}{S:R.St}{ns:List Int}{m pl:Nat}(m2:2<=m)(m7:m<=7)(p1:1<=pl)(p14:pl<=14) :
  W (app (callF prog (n+4)) 9 [.fix (ns.map .int),.int m,.int pl] S) fun d U=>∃L b Ls,d=.ref L/\Dl U L b pl m Ls/\S.len<=b/\S.len<=L/\Mv [] S U:=by
 refine zg7 (F:=zcW) rfl rfl ?_;left;specialize zdf (n:=n+2) (k:=0);left;change by first|decide|omega|(simp;done)|(simp;omega)
 left;change by first|decide|omega|(simp;done)|(simp;omega)
 left;change by omega
 left;refine zaG ?_;refine W.of (zkO _ none _) ?_;have el:((List.range (pl:Int).toNat).map fun(k:Nat)=>D.int k).length=pl:=by simp
 rw[el];have rl:(rfs S.enter.len pl).length=pl:=by simp[rfs]
 show zaz ((rfs S.enter.len pl).length<=16777216) (wLay (nils pl S.enter) (rfs S.enter.len pl) _);change by rw[rl];omega
 left;change by rw[rl];omega
 left;have c5:=zoF ns;rw[ziK];change by rw[length_map];omega
 left;exists zah _ _;left;refine zaG ?_;generalize hb:S.enter.len=b at *;generalize hX:cut ns (some 4) (some 62)=xs at *;have hbS:b=S.len:=by rw[<-hb,R.enter_len]
 have l0:(nils pl S.enter).len=b+pl:=by rw[zjM,hb]
 have n0:∀i,i<pl->(nils pl S.enter).get (b+i)=some (.lst []):=fun i hi=>by rw[<-hb];exact zf2 pl S.enter i hi
 have o0:∀l o,S.get l=some o->(nils pl S.enter).get l=some o:=fun l o e=>zf1 _ _ (by rw[zaC];exact e);have f0:(nils pl S.enter).frz=S.enter.frz:=rfl;have k0:(nils pl S.enter).lk=[]:=rfl;have fl:S.enter.frz.length<=b:=by rw[<-hb];unfold St.len;omega
 generalize nils pl S.enter=T0 at *;have l1:(T0.push (.lst (rfs b pl))).len=b+pl+1:=by rw[plen,l0]
 have l2:((T0.push (.lst (rfs b pl))).push (.d4 [])).len=b+pl+2:=by rw[plen,l1]
 have D0:DI {((T0.push (.lst (rfs b pl))).push (.d4 [])).push (.lst (xs.map D.int)) with lk:=[((T0.push (.lst (rfs b pl))).push (.d4 [])).len]++T0.lk} b pl m T0.len (T0.push (.lst (rfs b pl))).len 0 (List.replicate pl []) []:=by
  have fr:∀x,b<=x->x<b+pl+2->Fr {((T0.push (.lst (rfs b pl))).push (.d4 [])).push (.lst (xs.map D.int)) with lk:=[((T0.push (.lst (rfs b pl))).push (.d4 [])).len]++T0.lk} x:=fun x h1 h2=>⟨by show T0.frz.length<=x;rw[f0];omega,by
   show([_]++T0.lk).contains x=false;rw[k0,l2];simp;omega⟩
  refine⟨zad (zad (zah _ _)),zad (zah _ _),fr _ (by omega) (by omega),fun k hk=>fr _ (by omega) (by omega),by simp,fun k ls e=>?_,fun k ls e=>?_,fun k ls e l hl=>?_,by simp,by simp,fun k hk=>⟨by omega,by omega⟩,by omega⟩;obtain⟨h1,h2⟩:=List.getElem?_eq_some_iff.mp e;rw[List.getElem_replicate]at h2;subst h2;exact zad (zad (zad (n0 k (by simpa using h1))));obtain⟨h1,h2⟩:=List.getElem?_eq_some_iff.mp e;rw[List.getElem_replicate]at h2;subst h2;simp;obtain⟨h1,h2⟩:=List.getElem?_eq_some_iff.mp e;rw[List.getElem_replicate]at h2;subst h2;cases hl
 refine W.mono (zdr (n:=n) (ns:=ns) (dg:=decide (zbi ns 0/12%2=1)) m2 m7 p1 p14 xs 0 (List.replicate pl []) [] _ none none none D0 (by omega)) fun f V hV=>?_;obtain⟨⟨k,c,u,v,rfl⟩,⟨Ls,kvs,Y⟩,v1⟩:=hV;left;have vf:V.frz=S.enter.frz:=v1.frz.trans f0;refine zcy (by omega) Y.gl ?_ ⟨_,b,Ls,rfl,⟨?_,Y.ll,fun k ls e=>?_,Y.nd,fun k ls e l hl=>(Y.gd k ls e l hl).1,by have:=Y.sz;omega⟩,by omega,by omega,rfl,rfl,?_,fun x o _ e=>?_⟩;rw[Bool.eq_false_iff];intro z;have:=(zaD _ _).mp z _ (mem_of_getElem? (zfQ (b:=b) (k:=0) p1));rw[zkb]at this;simp at this;omega;rw[zbg vf];exact Y.gl;rw[zbg vf];exact Y.g k ls e;rw[zd2 vf];have:=v1.len;show S.len<=V.len;have h3:b+pl+3<=V.len:=le_trans (by show _<=(((T0.push (.lst (rfs b pl))).push (.d4 [])).push (.lst (xs.map D.int))).len;rw[plen,l2];omega) this;omega;rw[zbg vf];have lx:=zam e;refine v1.old x o (fun hm=>?_) (zad (zad (zad (o0 x o e))));rcases mem_cons.mp hm with h|h;omega;obtain⟨i,_,h⟩:=mem_map.mp h;omega
noncomputable def p2:List Int:=[1,2,4,8,16,32,64]
noncomputable def p3:List Int:=[1,3,9,27,81,243,729]
noncomputable def loZ(a b:Int):Int:=if b<a then b else a
noncomputable def hiZ(a b:Int):Int:=if b>a then b else a
noncomputable def ze0(x a b:Int):Bool:=decide (x/(p2.getD (loZ a b).toNat 0)/(p3.getD (hiZ a b).toNat 0)%2=1)
theorem zpG{k:Int}(h0:0<=k)(h1:k<7):atI (p2.map D.int) k=some (.int (p2.getD k.toNat 0))/\0<p2.getD k.toNat 0/\p2.getD k.toNat 0<1073741824:=by
 have hk:k=0\/k=1\/k=2\/k=3\/k=4\/k=5\/k=6:=by omega
 rcases hk with rfl|rfl|rfl|rfl|rfl|rfl|rfl<;>exact⟨rfl,by decide,by decide⟩
theorem zpF{k:Int}(h0:0<=k)(h1:k<7):atI (p3.map D.int) k=some (.int (p3.getD k.toNat 0))/\0<p3.getD k.toNat 0/\p3.getD k.toNat 0<1073741824:=by
 have hk:k=0\/k=1\/k=2\/k=3\/k=4\/k=5\/k=6:=by omega
 rcases hk with rfl|rfl|rfl|rfl|rfl|rfl|rfl<;>exact⟨rfl,by decide,by decide⟩
theorem zlw{n:Nat}{S:R.St}{x a b m:Int}(a0:0<=a)(a7:a<7)(b0:0<=b)(b7:b<7):app (callF prog (n+1)) 10 [.int x,.int a,.int b,.int m] S=.ok (.bl (ze0 x a b)) S:=by
 have l0:0<=loZ a b/\loZ a b<7:=by unfold loZ;split<;>omega
 have h0:0<=hiZ a b/\hiZ a b<7:=by unfold hiZ;split<;>omega
 obtain⟨e1,e2,e3⟩:=zpG l0.1 l0.2;obtain⟨f1,f2,f3⟩:=zpF h0.1 h0.2;refine zgr (F:=zb6) rfl rfl ?_;left;change show 7<=16777216 by decide
 left;exists zah _ _;left;exists e1;left;change⟨e2,e3⟩;left;change show 7<=16777216 by decide
 left;exists zah _ _;left;exists f1;left;change⟨f2,f3⟩;left;change by first|decide|omega|(simp;done)|(simp;omega)
 left;exact zar rfl ⟨rfl,rfl⟩
noncomputable def wrZ(x:Int)(m pl k:Nat)(o:Int):Int:=o+m*(if m<pl/\¬o=(k:Int)%m/\ze0 x ((k:Int)%m) o=true then 1-(k:Int)/m else(k:Int)/m)
noncomputable def wC:CE:=.and (.cmp .Gt J2 J1) (.and (.cmp .NotEq J6 (.bin .Mod J4 J1)) (.tst (.call 10 0 #[J0,.bin .Mod J4 J1,J6,J1])))
noncomputable def wIn:CS:=.asg 7 (.bin .FloorDiv J4 J1) (.ifS wC (.asg 7 (.bin .Sub U1 J7) .nil) .nil (.expr (.mt .append J5 #[.bin .Add J6 (.bin .Mult J1 J7)]) .nil))
@[irreducible]noncomputable def wOt:CS:=.asg 5 (.lst .nil) (.forS [6] (.rng1 J1) wIn (.expr (.mt .append J3 #[J5]) .nil))
theorem zgu:c_law_wires.body=.asg 3 (.lst .nil) (.forS [4] (.rng1 J2) wOt (.ret J3 .nil)):=by unfold wOt;rfl
noncomputable abbrev Ew(x:Int)(m pl wl:Nat)(a r h c:Option D):Ev:=[some (.int x),some (.int m),some (.int pl),some (.ref wl),a,r,h,c]
theorem zmO{n:Nat}{T:R.St}{x:Int}{m pl wl k r:Nat}{o:Int}{c:Option D}(m2:2<=m)(m7:m<=7)(o0:0<=o)(o1:o<m):evT (callF prog (n+2)) wC (Ew x m pl wl (some (.int k)) (some (.ref r)) (some (.int o)) c) T=.ok (decide (m<pl/\¬o=(k:Int)%m/\ze0 x ((k:Int)%m) o=true)) T:=by
 have q0:=emod_nonneg (k:Int) (b:=(m:Int)) (by omega);have q1:=Int.emod_lt_of_pos (k:Int) (b:=(m:Int)) (by omega);refine W.eq (wT_W _ ?_);left;refine zgw (fun c1=>?_) (fun c1=>?_);have c1:m<pl:=by omega
 left;change by omega
 left;refine zkV (fun c2=>?_) (fun c2=>?_);have c2:¬o=(k:Int)%m:=by simpa using c2
 left;change by omega
 left;specialize zlw (n:=n+1) (S:=T) (x:=x) (m:=m) q0 (by omega) o0 (by omega);left;refine⟨?_,rfl⟩;simp[c1,c2];have c2:o=(k:Int)%m:=by simpa using c2
 left;refine⟨?_,rfl⟩;simp[c2];have c1:¬m<pl:=by omega
 left;refine⟨?_,rfl⟩;simp[c1]
theorem zi0{n:Nat}{T:R.St}{x:Int}{m pl wl k r:Nat}{o:Int}{c:Option D}{acc:List Int}(m2:2<=m)(m7:m<=7)(hk:k<14)(o0:0<=o)(o1:o<m)(g:T.get r=some (.lst (acc.map .int)))(hf:Fr T r)(ha:acc.length<=100) :
  W (exS (callF prog (n+2)) wIn (Ew x m pl wl (some (.int k)) (some (.ref r)) (some (.int o)) c) T) fun f U=>(∃c,f=.nx (Ew x m pl wl (some (.int k)) (some (.ref r)) (some (.int o)) c))/\U.get r=some (.lst ((acc++[wrZ x m pl k o]).map .int))/\Mv [r] T U:=by
 obtain⟨U,hU,mU,gU⟩:=zbr (u:=.lst ((acc++[wrZ x m pl k o]).map .int)) hf g;have ua:acc.map D.int++[D.int (wrZ x m pl k o)]=(acc++[wrZ x m pl k o]).map .int:=by simp
 have e7:evE (callF prog (n+2)) (.bin .FloorDiv J4 J1) (Ew x m pl wl (some (.int k)) (some (.ref r)) (some (.int o)) c) T=.ok (.int ((k:Int)/m)) T:=by
  refine W.eq (wE_W _ ?_);left;change by omega
  left;exact⟨rfl,rfl⟩
 have fin:∀z:Int,wrZ x m pl k o=o+m*z->W (exS (callF prog (n+2)) (.expr (.mt .append J5 #[.bin .Add J6 (.bin .Mult J1 J7)]) .nil) (Ew x m pl wl (some (.int k)) (some (.ref r)) (some (.int o)) (some (.int z))) T) fun f U=>(∃c,f=.nx (Ew x m pl wl (some (.int k)) (some (.ref r)) (some (.int o)) c))/\U.get r=some (.lst ((acc++[wrZ x m pl k o]).map .int))/\Mv [r] T U:=by
  intro z hz;refine wS_W _ ?_;left;exists g;left;change by unfold zc7;rw[or_eq_true];refine Or.inl ?_;rw[decide_eq_true_eq];omega
  left;exists g;left;rw[<-hz];change by rw[length_append,length_map];simp only[length_cons,length_nil];omega
  left;exists show T.put r (.lst (acc.map D.int++[D.int (wrZ x m pl k o)]))=some U by rw[ua];exact hU
  left;exact⟨⟨_,rfl⟩,gU,mU⟩
 refine zgq e7 ?_;by_cases hc:m<pl/\¬o=(k:Int)%m/\ze0 x ((k:Int)%m) o=true;have hd:=zmO (n:=n) (T:=T) (x:=x) (pl:=pl) (wl:=wl) (k:=k) (r:=r) (c:=some (.int ((k:Int)/m))) m2 m7 o0 o1;rw[decide_eq_true hc]at hd;rw[exS];show W (Out.bind (evT (callF prog (n+2)) wC (Ew x m pl wl (some (.int k)) (some (.ref r)) (some (.int o)) (some (.int ((k:Int)/m)))) T) _) _;rw[hd,zal,if_pos rfl,zaa];have e8:evE (callF prog (n+2)) (.bin .Sub U1 J7) (Ew x m pl wl (some (.int k)) (some (.ref r)) (some (.int o)) (some (.int ((k:Int)/m)))) T=.ok (.int (1-(k:Int)/m)) T:=by refine W.eq (wE_W _ ?_);left;exact⟨rfl,rfl⟩
 refine zgq e8 ?_;rw[exS,W_ok];exact fin _ (by unfold wrZ;rw[if_pos hc]);have hd:=zmO (n:=n) (T:=T) (x:=x) (pl:=pl) (wl:=wl) (k:=k) (r:=r) (c:=some (.int ((k:Int)/m))) m2 m7 o0 o1;rw[decide_eq_false hc]at hd;refine zcx (W.of hd ⟨rfl,?_⟩);exact fin _ (by unfold wrZ;rw[if_neg hc])
theorem zfF{n:Nat}{x:Int}{m pl wl k r:Nat}(m2:2<=m)(m7:m<=7)(hk:k<14):∀(os acc:List Int)(T:R.St)(h c:Option D),(∀o∈os,0<=o/\o<m)->T.get r=some (.lst (acc.map .int))->Fr T r->acc.length+os.length<=100->
  W (zaw [6] (exS (callF prog (n+2)) wIn) (os.map D.int) (Ew x m pl wl (some (.int k)) (some (.ref r)) h c) T) fun f U=>(∃h c,f=.nx (Ew x m pl wl (some (.int k)) (some (.ref r)) h c))/\U.get r=some (.lst ((acc++os.map (wrZ x m pl k)).map .int))/\Mv [r] T U
 | [],acc,T,h,c,_,g,_,_=>by show W (Out.ok (Fl.nx _) T) _;rw[W_ok];exact⟨⟨_,_,rfl⟩,by simpa using g,Mv.refl _ _⟩| o::os,acc,T,h,c,ho,g,hf,hl=>by rw[length_cons]at hl;show W (Out.bind (exS (callF prog (n+2)) wIn (Ew x m pl wl (some (.int k)) (some (.ref r)) (some (.int o)) c) T) _) _;rw[zaa];have h1:=ho o mem_cons_self;refine(zi0 (n:=n) m2 m7 hk h1.1 h1.2 g hf (by omega)).mono fun f U hU=>?_;obtain⟨⟨c',rfl⟩,gU,v1⟩:=hU;refine(zfF m2 m7 hk os (acc++[wrZ x m pl k o]) U _ _ (fun y hy=>ho y (mem_cons_of_mem _ hy)) gU (hf.mv v1) (by simp;omega)).mono fun f V hV=>?_;obtain⟨h2,g2,v2⟩:=hV;exact⟨h2,by rw[g2];simp,v1.trans v2⟩
noncomputable def rowZ(x:Int)(m pl k:Nat):List Int:=(hnds m).map (wrZ x m pl k)
noncomputable def cnt:Nat->Nat->List D
 |_,0=>[]|k,c+1=>.int (k:Nat)::cnt (k+1) c
theorem zcT:∀(c k:Nat),(List.range c).map (fun(i:Nat)=>D.int ((k+i:Nat):Int))=cnt k c
 |0,_=>rfl| c+1,k=>by rw[List.range_succ_eq_map,map_cons,map_map,cnt,<-zcT c (k+1)];congr 1;refine List.map_congr_left fun i _=>?_;simp only[Function.comp];congr 2;omega
theorem zg1(c:Nat):((List.range (c:Int).toNat).map fun(k:Nat)=>D.int k)=cnt 0 c:=by rw[<-zcT c 0,Int.toNat_natCast];exact List.map_congr_left fun i _=>by rw[zero_add]
structure Wi(T:R.St)(b wl:Nat)(x:Int)(m pl:Nat)(as:List Nat):Prop where
 g:T.get wl=some (.lst (as.map .ref))
 fw:Fr T wl
 r:∀(i a:Nat),as[i]?=some a->T.get a=some (.lst ((rowZ x m pl i).map .int))/\b<=a/\a≠wl
 lk:T.lk=[]
 fz:T.frz.length<=T.len
theorem zkG(m:Nat):(hnds m).length=m:=by simp[hnds]
theorem ziY{n:Nat}{T:R.St}{b:Nat}{x:Int}{m pl wl:Nat}{as:List Nat}{k:Nat}{r h c:Option D}(X:Wi T b wl x m pl as)(hl:as.length=k)(m2:2<=m)(m7:m<=7)(hk:k<14)(hb:b<=T.len) :
  W (exS (callF prog (n+2)) wOt (Ew x m pl wl (some (.int k)) r h c) T) fun f U=>(∃r h c,f=.nx (Ew x m pl wl (some (.int k)) r h c))/\(∃a,Wi U b wl x m pl (as++[a]))/\Mv [wl] T U:=by
 have e5:evE (callF prog (n+2)) (.lst .nil) (Ew x m pl wl (some (.int k)) r h c) T=.ok (.ref T.len) (T.push (.lst [])):=by simp only[evE,evEs,zal];rfl
 unfold wOt;rw[exS,e5,zal];show W (exS (callF prog (n+2)) (.forS [6] (.rng1 J1) wIn (.expr (.mt .append J3 #[J5]) .nil)) (Ew x m pl wl (some (.int k)) (some (.ref T.len)) h c) (T.push (.lst []))) _;have el:evL (callF prog (n+2)) (.rng1 J1) (Ew x m pl wl (some (.int k)) (some (.ref T.len)) h c) (T.push (.lst []))=.ok ((hnds m).map D.int,[]) (T.push (.lst [])):=by
  generalize hδ:Ew x m pl wl (some (.int k)) (some (.ref T.len)) h c=δ;refine W.eq (wL_W _ ?_);subst hδ;left;change by omega
  left;exact⟨by rw[zfO],rfl⟩
 generalize hδ:Ew x m pl wl (some (.int k)) (some (.ref T.len)) h c=δ at el⊢;refine zaJ el ?_;subst hδ;have lw:=zam X.g;have fr:Fr (T.push (.lst [])) T.len:=⟨X.fz,by show T.lk.contains _=false;rw[X.lk];rfl⟩;refine W.mono (zfF (n:=n) (x:=x) (pl:=pl) (wl:=wl) (k:=k) (r:=T.len) m2 m7 hk (hnds m) [] (T.push (.lst [])) h c (fun o ho=>hnds_mem.mp ho) (zah _ _) fr (by rw[zkG];simp;omega)) fun f U hU=>?_;obtain⟨⟨h',c',rfl⟩,gU,v1⟩:=hU;dsimp only;have eU:({U with lk:=(T.push (.lst [])).lk}:R.St)=U:=zdX v1.lk;rw[eU];have nw:wl≠T.len:=by omega
 have gW:U.get wl=some (.lst (as.map .ref)):=v1.old _ _ (by simpa using nw) (zad X.g);have fU:Fr U wl:=X.fw.mv (zkB v1);obtain⟨V,hV,mV,gV⟩:=zbr (u:=.lst ((as++[T.len]).map D.ref)) fU gW;have ua:as.map D.ref++[D.ref T.len]=(as++[T.len]).map D.ref:=by simp
 have v0:Mv [] T U:=zkB v1;refine wS_W _ ?_;left;exists gW;left;exists gW;left;change by rw[length_append,length_map];simp only[length_cons,length_nil];omega
 left;exists show U.put wl (.lst (as.map D.ref++[D.ref T.len]))=some V by rw[ua];exact hV
 left;refine⟨⟨_,_,_,rfl⟩,⟨T.len,gV,fU.mv mV,fun i a e=>?_,by rw[mV.lk,v0.lk,X.lk],?_⟩,(v0.up (by simp)).trans mV⟩;rw[List.getElem?_append]at e;split at e;obtain⟨h1,h2,h3⟩:=X.r i a e;exact⟨mV.old _ _ (by simpa using h3) (v0.old _ _ (by simp) h1),h2,h3⟩;rename_i hi;have:i-as.length=0:=by have:=(List.getElem?_eq_some_iff.mp e).1;simp at this;omega
 rw[this]at e;cases e;have hi:i=k:=by omega
 subst hi;refine⟨mV.old _ _ (by simpa using Ne.symm nw) ?_,hb,Ne.symm nw⟩;rw[gU,List.nil_append];rfl;rw[mV.frz,v0.frz];have:=v0.len;have:=mV.len;have:=X.fz;omega
theorem ziZ{n:Nat}{b:Nat}{x:Int}{m pl wl:Nat}{T:R.St}(m2:2<=m)(m7:m<=7)(hp:pl<=14)(X:Wi T b wl x m pl [])(hb:b<=T.len) :
  W (zaw [4] (exS (callF prog (n+2)) wOt) (cnt 0 pl) (Ew x m pl wl none none none none) T) fun f U=>match f with|.nx δ=>(∃a r h c,δ=Ew x m pl wl a r h c)/\(∃as',Wi U b wl x m pl as'/\as'.length=pl)/\Mv [wl] T U|.rt _=>False:=by
 have cl:(cnt 0 pl).length=pl:=by rw[<-zg1];simp
 refine W.mono (zby (fun i δ U=>∃a r h c as,δ=Ew x m pl wl a r h c/\Wi U b wl x m pl as/\as.length=i/\Mv [wl] T U) (fun _ _=>False) _ 0 _ _ ⟨_,_,_,_,_,rfl,X,rfl,Mv.refl _ _⟩ ?_) ?_;rintro i z δ U hz ⟨a,r,h,c,as,rfl,Y,hl,v⟩;have hi:i<pl:=by rw[<-cl];exact(List.getElem?_eq_some_iff.mp hz).1
 have ez:z=.int (i:Nat):=by rw[<-zcT,getElem?_map,List.getElem?_range (by omega)]at hz;simp at hz;exact hz.symm
 subst ez;refine⟨Ew x m pl wl (some (.int (i:Nat))) r h c,rfl,?_⟩;rw[zero_add]at hl;have i14:i<14:=by omega
 have hb2:b<=U.len:=le_trans hb v.len;have key:=@ziY n U b x m pl wl as i r h c Y hl m2 m7 i14 hb2;refine key.mono fun f V hV=>?_;obtain⟨⟨r',h',c',rfl⟩,⟨a',Z⟩,v1⟩:=hV;exact⟨_,_,_,_,_,rfl,Z,by rw[length_append,hl,zero_add];rfl,v.trans v1⟩;rintro f U h;cases f with|rt d=>exact h.elim| nx δ=>obtain⟨a,r,h,c,as,rfl,Y,hl,v⟩:=h;exact⟨⟨_,_,_,_,rfl⟩,⟨as,Y,by rw[hl,cl];omega⟩,v⟩
structure Ws(T:R.St)(b wl:Nat)(x:Int)(m pl:Nat)(as:List Nat):Prop where
 g:T.get wl=some (.lst (as.map .ref))
 r:∀(i a:Nat),as[i]?=some a->T.get a=some (.lst ((rowZ x m pl i).map .int))
 l:as.length=pl
 n:b<=wl/\∀a∈as,b<=a
theorem Ws.mv{T U:R.St}{b wl:Nat}{x:Int}{m pl:Nat}{as:List Nat}(h:Ws T b wl x m pl as)(v:∀l o,b<=l->T.get l=some o->U.get l=some o):Ws U b wl x m pl as:=⟨v _ _ h.n.1 h.g,fun i a e=>v _ _ (h.n.2 a (mem_of_getElem? e)) (h.r i a e),h.l,h.n⟩
theorem zls{n:Nat}{S:R.St}{x:Int}{m pl:Nat}(m2:2<=m)(m7:m<=7)(p1:1<=pl)(p14:pl<=14) :
  W (app (callF prog (n+3)) 11 [.int x,.int m,.int pl] S) fun d U=>∃wl as,d=.ref wl/\Ws U S.len wl x m pl as/\Mv [] S U:=by
 rw[ze7 (F:=c_law_wires) rfl rfl,zaa,zgu];have e3:evE (callF prog (n+2)) (.lst .nil) (zau c_law_wires [.int x,.int m,.int pl]) S.enter=.ok (.ref S.enter.len) (S.enter.push (.lst [])):=by simp only[evE,evEs,zal];rfl
 rw[exS,e3,zal];show W (exS (callF prog (n+2)) (.forS [4] (.rng1 J2) wOt (.ret J3 .nil)) (Ew x m pl S.enter.len none none none none) (S.enter.push (.lst []))) _;have el:evL (callF prog (n+2)) (.rng1 J2) (Ew x m pl S.enter.len none none none none) (S.enter.push (.lst []))=.ok (cnt 0 pl,[]) (S.enter.push (.lst [])):=by
  generalize hδ:Ew x m pl S.enter.len none none none none=δ;refine W.eq (wL_W _ ?_);subst hδ;left;change by omega
  left;exact⟨by rw[zg1],rfl⟩
 generalize hδ:Ew x m pl S.enter.len none none none none=δ at el⊢;refine zaJ el ?_;subst hδ;have lS:S.enter.len=S.len:=R.enter_len S;have X0:Wi (S.enter.push (.lst [])) S.len S.enter.len x m pl []:=⟨zah _ _,⟨by show S.enter.frz.length<=_;unfold St.len;omega,rfl⟩,(fun i a e=>by simp at e),rfl,by rw[plen];show S.enter.frz.length<=_;unfold St.len;omega⟩;refine W.mono (ziZ (n:=n) m2 m7 p14 X0 (by show S.len<=(S.enter.push (.lst [])).len;rw[plen,lS];omega)) fun f U hU=>?_;cases f with|rt d=>exact hU.elim|nx δ=>
 obtain⟨⟨a,r,h,c,rfl⟩,⟨as,Y,hl⟩,v1⟩:=hU;dsimp only;have eU:({U with lk:=(S.enter.push (.lst [])).lk}:R.St)=U:=zdX v1.lk;rw[eU];have vf:U.frz=S.enter.frz:=v1.frz;refine W.mono (wS_W (.ret J3 .nil) (Q:=fun r T=>wFin S r T fun d U=>∃wl as,d=.ref wl/\Ws U S.len wl x m pl as/\Mv [] S U) ?_) fun r T q=>by unfold wFin at q;exact q
 left;refine zcy (by omega) Y.g ?_ ⟨_,as,rfl,⟨?_,fun i a e=>?_,hl,by omega,fun a ha=>?_⟩,rfl,rfl,?_,fun l o _ e=>?_⟩;rw[Bool.eq_false_iff];intro z;obtain⟨a0,ha0⟩:∃a,as[0]?=some a:=⟨_,getElem?_eq_getElem (by omega)⟩;have:=(zaD _ _).mp z _ (List.mem_map_of_mem (mem_of_getElem? ha0));rw[zkb]at this;have h2:=(Y.r 0 a0 ha0).2.1;simp at this;omega;rw[zbg vf];exact Y.g;rw[zbg vf];exact(Y.r i a e).1;obtain⟨i,hi⟩:=mem_iff_getElem?.mp ha;exact(Y.r i a hi).2.1;rw[zd2 vf];have:(S.enter.push (.lst [])).len<=U.len:=v1.len;rw[plen]at this;omega;rw[zbg vf];have:=zam e;exact v1.old _ _ (by simp;omega) (zad (by rw[zaC];exact e))
noncomputable def scD(i n r:Int)(ls:List Ly)(a:Nat):MO:=.ins 0 [("number",.int i),("many",.int n),("rounds",.int r),("lines",.tup (ls.map lD)),("arrived",.ref a)]
noncomputable def hdD(l:Ly):D:=.tup [.int l.1.1,pD l.1.2.1,oD l.2]
noncomputable def pwD(l:Ly):D:=.tup [pD l.1.2.1,oD l.2]
noncomputable def tD(l:Ly):D:=.tup [pD l.1.2.1,.int l.1.2.2,oD l.2]
noncomputable def atT(t:Int)(ls:List Ly):List Ly:=ls.filter fun l=>decide (l.1.1=t)
noncomputable def lie4:D->Option Ly
 |.tup [.int a,.tup ds,.int b,.int w]=>(zaL ds).map fun p=>((a,p,b),some w)|.tup [.int a,.tup ds,.int b,.non]=>(zaL ds).map fun p=>((a,p,b),none)|_=>none
theorem zmc(l:Ly):lie4 (lD l)=some l:=by obtain⟨⟨a,p,b⟩,w⟩:=l;cases w with|none=>show(zaL (p.map D.int)).map _=_;rw[zaY];rfl|some w=>show(zaL (p.map D.int)).map _=_;rw[zaY];rfl
noncomputable def lB(d:D):Ly:=(lie4 d).getD ((0,[],0),none)
theorem zjV(l:Ly):lB (lD l)=l:=by unfold lB;rw[zmc];rfl
theorem zmr(p:Ly->Bool)(g:Ly->D)(ls:List Ly):(((ls.map lD).filter fun d=>p (lB d)).map fun d=>g (lB d))=(ls.filter p).map g:=by
 rw[List.filter_map,map_map];have e1:((fun d=>p (lB d))∘lD)=p:=by funext l;simp[zjV]
 have e2:((fun d=>g (lB d))∘lD)=g:=by funext l;simp[zjV]
 rw[e1,e2]
theorem zeh(t:Int)(ls:List Ly):(atT t ls).length<=ls.length:=length_filter_le _ _
theorem zfA{cf:CF}{c e:CE}{T:R.St}{rest:Ev}(p:Ly->Bool)(g:Ly->D)(ls:List Ly)(v:Option D)(hc:∀l∈ls,evT cf c (some (lD l)::rest) T=.ok (p l) T)(he:∀l∈ls,p l=true->evE cf e (some (lD l)::rest) T=.ok (g l) T) :
  zax [0] (evT cf c) (evE cf e) (ls.map lD) (v::rest) T=.ok ((ls.filter p).map g) T:=by
 have h:=zbc (c:=evT cf c) (e:=evE cf e) (S:=T) (rest:=rest) (fun d=>p (lB d)) (fun d=>g (lB d)) (ls.map lD) v (fun x hx=>?_) (fun x hx hp=>?_);rw[h];exact congrArg (fun z=>Out.ok z T) (zmr p g ls);obtain⟨l,hl,rfl⟩:=mem_map.mp hx;rw[zjV];exact hc l hl;obtain⟨l,hl,rfl⟩:=mem_map.mp hx;rw[zjV]at hp⊢;exact he l hl hp
theorem zkj{cf:CF}{δ:Ev}{i:Nat}{d:D}{S:R.St}{Q:D->R.St->Prop}(e:(δ[i]?).join=some d)(q:Q d S):wE cf (.loc i) δ S Q:=by show(match (δ[i]?).join with|some d=>Q d S|none=>False);rw[e];exact q
theorem t_is{cf:CF}{T:R.St}{l:Ly}{t:Int}{rest:Ev}{j:Nat}(h:rest[j]?=some (some (.int t))):evT cf (.cmp .Eq (.ix J0 U0) (.loc (j+1))) (some (lD l)::rest) T=.ok (decide (l.1.1=t)) T:=by
 refine W.eq (wT_W _ ?_);have e:((some (lD l)::rest)[j+1]?).join=some (.int t):=by rw[List.getElem?_cons_succ,h];rfl
 unfold lD;show wE cf (.ix J0 U0) _ T _;left;exists show atI [D.int l.1.1,pD l.1.2.1,.int l.1.2.2,oD l.2] 0=some (.int l.1.1) from rfl;unfold lD at e;refine zkj e ?_;left;exact⟨rfl,rfl⟩
section
variable{S:R.St}{f s a q:Nat}{i n r t:Int}{ls ms A:List Ly}
theorem zoe(e:S.get s=some (scD i n r ls a))(hl:ls.length<=63):appW (callF prog (f+1)) 20 [.ref s,.int t] S=.ok (.ref S.len) (S.push (.lst ((atT t ls).map tD))):=by
 have h2:=zeh t ls;refine ziU (F:=zct) rfl rfl ?_;left;exists zin e rfl;left;refine zaG ?_;refine W.of (zfA (fun l=>decide (l.1.1=t)) tD ls none (fun l hl=>t_is (j:=0) rfl) (fun l hl _=>?_)) ?_;refine W.eq (wE_W _ ?_);unfold lD;left;exact⟨rfl,rfl⟩;change by rw[length_map];exact le_trans h2 (by omega)
 left;change by rw[length_map];exact le_trans h2 (by omega)
 left;exact⟨rfl,rfl⟩
theorem zoL{cf:CF}{e:CE}{T:R.St}{rest:Ev}(g:Ly->D):∀(ms:List Ly)(u0 u1:Option D),(∀l∈ms,evE cf e (some (pD l.1.2.1)::some (oD l.2)::rest) T=.ok (g l) T)->
  zax [0,1] (evT cf (.tst (.con (.bl true)))) (evE cf e) (ms.map pwD) (u0::u1::rest) T=.ok (ms.map g) T
 | [],_,_,_=>rfl| l::ms,u0,u1,h=>by have ih:=zoL (cf:=cf) (e:=e) (T:=T) (rest:=rest) g ms (some (pD l.1.2.1)) (some (oD l.2)) fun z hz=>h z (mem_cons_of_mem _ hz);rw[map_cons,map_cons];unfold zax;show Out.bind (.ok true T) _=_;rw[zal,if_pos rfl];show Out.bind (evE cf e (some (pD l.1.2.1)::some (oD l.2)::rest) T) _=_;rw[h l mem_cons_self,zal];show Out.bind (zax [0,1] _ _ (ms.map pwD) (some (pD l.1.2.1)::some (oD l.2)::rest) T) _=_;rw[ih];rfl
theorem zl9(e:S.get s=some (scD i n r ls a))(ga:S.get a=some (.lst (A.map hdD)))(fa:Fr S a)(gq:S.get q=some (.lst (ms.map pwD)))(hA:A.length<=4000)(hm:ms.length<=63)(ht:∀l∈ms,l.1.1=t) :
  W (appW (callF prog (f+1)) 19 [.ref s,.int t,.ref q] S) fun d T=>d=.non/\Mv [a] S T/\T.get a=some (.lst ((A++ms).map hdD)):=by
 refine ze8 (F:=zb9) rfl rfl (wS_W _ ?_);obtain⟨U,h1,v1,g1⟩:=zbr (u:=.lst (A.map hdD++ms.map hdD)) fa ga;left;exists zin e rfl;left;exists ga;left;exists gq;left;refine zaG ?_;refine W.of (zoL hdD ms none none (fun l hl=>?_)) ?_;refine W.eq (wE_W _ ?_);left;change by simp
 left;unfold hdD;rw[ht l hl];exact⟨rfl,rfl⟩;left;change by rw[length_map];omega
 left;exists ga;left;change by rw[length_append,length_map,length_map];omega
 left;exists h1;left;refine⟨rfl,v1,?_⟩;rw[map_append];exact g1
theorem zof(e:S.get s=some (scD i n r ls a))(ga:S.get a=some (.lst (A.map hdD)))(hA:A.length<=4000):appW (callF prog (f+1)) 18 [.ref s] S=.ok (.ref S.len) (S.push (.lst (A.map hdD))):=by
 refine ziU (F:=zca) rfl rfl ?_;left;exists zin e rfl;left;exists ga;left;change by rw[length_map];omega
 left;exact⟨rfl,rfl⟩
theorem zma{cl:Nat}(e:S.get a=some (.ins cl []))(hf:Fr S a):W (appW (callF prog (f+1)) 21 [.ref a,.int i,.int n,.int r] S) fun d T=>Mv [a] S T/\T.get a=some (.ins cl [("number",.int i),("many",.int n),("rounds",.int r)]):=by refine ze8 (F:=zcX) rfl rfl (wS_W _ ?_);obtain⟨T1,h1,v1,g1⟩:=zep (f:="number") (v:=.int i) (gs:=[("number",.int i)]) e hf (by simp) rfl;obtain⟨T2,h2,v2,g2⟩:=zep (f:="many") (v:=.int n) (gs:=[("number",.int i),("many",.int n)]) g1 (hf.mv v1) (by simp) rfl;obtain⟨T3,h3,v3,g3⟩:=zep (f:="rounds") (v:=.int r) (gs:=[("number",.int i),("many",.int n),("rounds",.int r)]) g2 ((hf.mv v1).mv v2) (by simp) rfl;left;exists h1;left;exists h2;left;exists h3;left;exact⟨(v1.trans v2).trans v3,g3⟩
theorem zl8(e:S.get a=some (.ins 0 []))(hf:Fr S a)(gq:S.get q=some (.lst (ls.map lD)))(hl:ls.length<=63):W (appW (callF prog (f+2)) 17 [.ref a,.int i,.int n,.int r,.ref q] S) fun d T=>d=.non/\Mv [a] S T/\∃ar,S.len<=ar/\T.get a=some (scD i n r ls ar)/\T.get ar=some (.lst []):=by
 have na:q≠a:=fun z=>by rw[z,e]at gq;cases gq
 have la:=zam e;refine ze8 (F:=zb8) rfl rfl (wS_W _ ?_);left;refine zda ((zma (f:=f) e hf).mono fun d T hT=>?_);obtain⟨v1,g1⟩:=hT;left;exists v1.old _ _ (by simpa using na) gq;left;change by rw[length_map];omega
 left;obtain⟨T2,h2,v2,g2⟩:=zep (f:="lines") (v:=.tup (ls.map lD)) (gs:=[("number",.int i),("many",.int n),("rounds",.int r),("lines",.tup (ls.map lD))]) g1 (hf.mv v1) (by simp) rfl;exists h2;left;change show 0<=16777216 by decide
 left;have m2:=(v1.trans v2).trans (Mv.push [a] T2 (.lst []));have l2:=(v1.trans v2).len;have ga:=zah T2 (.lst []);have g2':=zad (o:=.lst []) g2;obtain⟨T3,h3,v3,g3⟩:=zep (f:="arrived") (v:=.ref T2.len) (gs:=[("number",.int i),("many",.int n),("rounds",.int r),("lines",.tup (ls.map lD)),("arrived",.ref T2.len)]) g2' (hf.mv m2) (by simp) rfl;exists h3;left;exact⟨rfl,m2.trans v3,T2.len,l2,g3,v3.old _ _ (by simp;omega) ga⟩
end
noncomputable def eM:CE:=.mk 0 17 "Scribe" 0 #[.bin .Mod J0 J1,J1,J2,.mkL (.val (.ix J3 J0))]
theorem zi2{n:Nat}{T:R.St}{L b pl m k:Nat}{r:Int}{Ls:List (List Ly)}{ls:List Ly}(X:Dl T L b pl m Ls)(hk:Ls[k]?=some ls)(m2:2<=m)(hlk:∀l∈T.lk,l<T.len) :
  W (evE (callF prog (n+3)) eM [some (.int (k:Nat)),some (.int m),some (.int r),some (.ref L)] T) fun d U=>∃s a,d=.ref s/\U.get s=some (scD ((k:Int)%m) m r ls a)/\U.get a=some (.lst [])/\T.len<=s/\T.len<=a/\Mv [] T U:=by
 have kp:k<pl:=by rw[<-X.ll];exact(List.getElem?_eq_some_iff.mp hk).1
 have lsz:=le_trans (zhV Ls k ls hk) X.sz;have frz:T.frz.length<=T.len:=by unfold St.len;omega
 refine wE_W _ ?_;left;change by omega
 left;exists X.gl;left;exists za7 (zfQ (b:=b) kp);left;exists X.g k ls hk;left;change by rw[length_map];omega
 left;have v1:=(Mv.push [] T (.lst (ls.map lD))).trans (Mv.push [] (T.push (.lst (ls.map lD))) (.ins 0 []));have l1:(T.push (.lst (ls.map lD))).len=T.len+1:=plen _ _;have fr:Fr ((T.push (.lst (ls.map lD))).push (.ins 0 [])) (T.push (.lst (ls.map lD))).len:=⟨by show T.frz.length<=_;omega,by
  show T.lk.contains _=false;rw[Bool.eq_false_iff];intro z;have:=hlk _ (List.contains_iff_mem.mp z);omega⟩
 refine zda ((zl8 (f:=n+1) (i:=(k:Int)%m) (n:=m) (r:=r) (zah _ _) fr (zad (zah _ _)) (by omega)).mono fun d U hU=>?_);obtain⟨rfl,v2,ar,h1,h2,h3⟩:=hU;left;change rfl;left;have l2:=plen (T.push (.lst (ls.map lD))) (.ins 0 []);refine⟨(T.push (.lst (ls.map lD))).len,ar,rfl,h2,h3,by omega,by omega,v2.frz,v2.lk,by have:=v2.len;omega,fun x o _ e=>v2.old x o (by have:=zam e;simp;omega) (zad (zad e))⟩
theorem zel{n:Nat}{L b pl m:Nat}{r:Int}{Ls:List (List Ly)}(m2:2<=m):∀(c k:Nat)(T:R.St)(v:Option D),Dl T L b pl m Ls->k+c=pl->(∀l∈T.lk,l<T.len)->
  W (zax [0] (evT (callF prog (n+3)) (.tst (.con (D.bl true)))) (evE (callF prog (n+3)) eM) (cnt k c) [v,some (.int m),some (.int r),some (.ref L)] T) fun ds U=>∃ps:List (Nat×Nat),ps.length=c/\ds=ps.map (fun p=>.ref p.1)/\
   (∀(i:Nat) p ls,ps[i]?=some p->Ls[k+i]?=some ls->U.get p.1=some (scD (((k+i:Nat):Int)%m) m r ls p.2)/\U.get p.2=some (.lst []))/\(∀p∈ps,T.len<=p.1/\T.len<=p.2)/\(ps.map (·.2)).Nodup/\Mv [] T U
 |0,k,T,v,X,_,_=>by show W (Out.ok [] T) _;rw[W_ok];exact⟨[],rfl,rfl,(fun i p ls e=>by simp at e),(fun p hp=>by cases hp),List.nodup_nil,Mv.refl _ _⟩| c+1,k,T,v,X,hc,hlk=>by
  obtain⟨ls,hls⟩:∃ls,Ls[k]?=some ls:=⟨_,getElem?_eq_getElem (by rw[X.ll];omega)⟩;rw[cnt,zax];show W (Out.bind (evT (callF prog (n+3)) (.tst (.con (D.bl true))) [some (.int (k:Nat)),some (.int m),some (.int r),some (.ref L)] T) _) _;have e1:evT (callF prog (n+3)) (.tst (.con (.bl true))) [some (.int (k:Nat)),some (.int m),some (.int r),some (.ref L)] T=.ok true T:=by simp only[evT,evE,zal];rfl
  rw[e1,zal,if_pos rfl,zaa];refine(zi2 (n:=n) (r:=r) X hls m2 hlk).mono fun d U hU=>?_;obtain⟨s,a,rfl,g1,g2,h1,h2,v1⟩:=hU;rw[zaa];have lk2:∀l∈U.lk,l<U.len:=fun l hl=>by rw[v1.lk]at hl;have:=hlk l hl;have:=v1.len;omega
  refine(zel m2 c (k+1) U (some (.int (k:Nat))) (X.mv fun l o e=>v1.old _ _ (by simp) e) (by omega) lk2).mono fun ds V hV=>?_;obtain⟨ps,hl,rfl,hp,hn,nd,v2⟩:=hV;rw[W_ok];have ls':=zam g1;have la':=zam g2;refine⟨(s,a)::ps,by simp[hl],rfl,fun i p ls' e1 e2=>?_,fun p hp'=>?_,?_,v1.trans v2⟩;cases i with| zero=>cases e1;rw[Nat.add_zero]at e2⊢;rw[hls]at e2;cases e2;exact⟨v2.old _ _ (by simp) g1,v2.old _ _ (by simp) g2⟩| succ i=>have:=hp i p ls' (by simpa using e1) (by rw[show k+1+i=k+(i+1) by omega];exact e2);rw[show k+1+i=k+(i+1) by omega]at this;exact this
  rcases mem_cons.mp hp' with rfl|hp';exact⟨h1,h2⟩;have:=hn p hp';have:=v1.len;omega;rw[map_cons,nodup_cons];refine⟨fun hm=>?_,nd⟩;obtain⟨p,hp',e⟩:=mem_map.mp hm;have:=(hn p hp').2;rw[e]at this;simp only at this;omega
structure Tw(T:R.St)(N th m:Nat)(r:Int)(ps:List (Nat×Nat))(Ls:List (List Ly))(As:Nat->List Ly):Prop where
 l:ps.length=Ls.length
 g:T.get th=some (.lst (ps.map fun p=>.ref p.1))
 s:∀(i:Nat) p ls,ps[i]?=some p->Ls[i]?=some ls->T.get p.1=some (scD ((i:Int)%m) m r ls p.2)/\T.get p.2=some (.lst ((As i).map hdD))
 n:N<=th/\∀p∈ps,N<=p.1/\N<=p.2
 nd:(ps.map (·.2)).Nodup
theorem zkt{n:Nat}{S:R.St}{L b pl m:Nat}{r:Int}{Ls:List (List Ly)}(m2:2<=m)(p1:1<=pl)(p14:pl<=14)(X:Dl S L b pl m Ls) :
  W (app (callF prog (n+4)) 15 [.ref L,.int m,.int r] S) fun d U=>∃th ps,d=.ref th/\Tw U S.len th m r ps Ls (fun _=>[])/\Mv [] S U:=by
 refine zg7 (F:=zdt) rfl rfl ?_;have Xe:Dl S.enter L b pl m Ls:=X.mv fun l o e=>by rw[zaC];exact e
 have rl:(rfs b pl).length=pl:=by simp[rfs]
 left;exists Xe.gl;left;rw[rl];change by omega
 left;refine zaG ?_;rw[zg1];refine W.mono (zel (n:=n) (r:=r) m2 pl 0 S.enter none Xe (by omega) (fun l hl=>by cases hl)) fun ds U hU=>?_;obtain⟨ps,hl,rfl,hp,hn,nd,v⟩:=hU;rw[R.enter_len]at hn;change by rw[length_map];omega
 left;change by rw[length_map];omega
 left;have vf:U.frz=S.enter.frz:=v.frz;have lS:S.len<=U.len:=by have:=v.len;rw[R.enter_len]at this;exact this
 have kg:∀l,(⟨S.frz,S.new++(U.push (.lst (ps.map fun p=>.ref p.1))).new,S.lk⟩:R.St).get l=(U.push (.lst (ps.map fun p=>.ref p.1))).get l:=fun l=>zbg (T:=U.push _) vf l;refine zcy lS (zah _ _) ?_ ⟨U.len,ps,rfl,⟨by rw[hl,X.ll],?_,fun i p ls e1 e2=>?_,⟨lS,hn⟩,nd⟩,rfl,rfl,?_,fun l o _ e=>?_⟩;rw[Bool.eq_false_iff];intro z;obtain⟨p0,hp0⟩:∃p,ps[0]?=some p:=⟨_,getElem?_eq_getElem (by omega)⟩;have h0:=mem_of_getElem? hp0;have:=(zaD _ _).mp z _ (List.mem_map_of_mem h0);rw[zkb]at this;have h2:=(hn p0 h0).1;simp at this;omega;exact(kg _).trans (zah _ _);have:=hp i p ls e1 (by rw[zero_add];exact e2);rw[zero_add]at this;exact⟨(kg _).trans (zad this.1),(kg _).trans (zad this.2)⟩;have e:=zd2 (S:=S) (T:=U.push (.lst (ps.map fun p=>.ref p.1))) vf;rw[plen]at e;show S.len<=(⟨S.frz,S.new++(U.push (.lst (ps.map fun p=>.ref p.1))).new,S.lk⟩:R.St).len;omega;exact(kg _).trans (zad (v.old _ _ (by simp) (by rw[zaC];exact e)))
noncomputable def WOk(T:R.St)(N:Nat)(wv:D)(m pl:Nat)(f:Nat->Int->Int):Prop:=(wv=.non/\∀k o,f k o=o)\/(∃(wl:Nat) (as:List Nat),wv=.ref wl/\T.get wl=some (.lst (as.map .ref))/\wl<N/\as.length=pl/\∀i a,as[i]?=some a->T.get a=some (.lst (((hnds m).map (f i)).map .int))/\a<N)
theorem WOk.mv{T U:R.St}{N m pl:Nat}{wv:D}{f:Nat->Int->Int}(h:WOk T N wv m pl f)(v:∀l o,l<N->T.get l=some o->U.get l=some o):WOk U N wv m pl f:=by rcases h with h|⟨wl,as,h1,h2,h3,h4,h5⟩;exact .inl h;exact .inr ⟨wl,as,h1,v _ _ h3 h2,h3,h4,fun i a e=>⟨v _ _ (h5 i a e).2 (h5 i a e).1,(h5 i a e).2⟩⟩
theorem WOk.up{T:R.St}{N M m pl:Nat}{wv:D}{f:Nat->Int->Int}(h:WOk T N wv m pl f)(v:N<=M):WOk T M wv m pl f:=by rcases h with h|⟨wl,as,h1,h2,h3,h4,h5⟩;exact .inl h;exact .inr ⟨wl,as,h1,h2,by omega,h4,fun i a e=>⟨(h5 i a e).1,by have:=(h5 i a e).2;omega⟩⟩
noncomputable abbrev Es(t:Int)(x w:D)(l:Nat)(c d e f g:Option D):Ev:=[some (.int t),some x,some w,some (.ref l),c,d,e,f,g]
noncomputable def wE':CE:=.ite (.cmp .Is J2 (.con D.non)) J7 (.ix (.ix J2 J4) J7)
noncomputable def sIn:CS:=.expr (.mt .append J3 #[.tup #[J0,J6,wE',J8]]) .nil
theorem zif{m:Nat}{o:Int}(f:Int->Int)(o0:0<=o)(o1:o<m):atI (((hnds m).map f).map D.int) o=some (.int (f o)):=by obtain⟨k,rfl⟩:∃k:Nat,o=k:=⟨o.toNat,by omega⟩;refine za7 ?_;rw[getElem?_map,getElem?_map];unfold hnds;rw[getElem?_map,List.getElem?_range (by omega)];rfl
noncomputable def ltr(t:Int)(f:Nat->Int->Int)(k:Nat)(l:Ly):Ly:=((t,l.1.2.1,f k l.1.2.2),l.2)
section
variable{T S:R.St}{N m pl n k lb s:Nat}{wv x:D}{f:Nat->Int->Int}{t r:Int}{acc ms ls:List Ly}{Ls:List (List Ly)}
theorem zpo{l:Ly}{c d:Option D}(w:WOk T N wv m pl f)(hk:k<pl)(o0:0<=l.1.2.2)(o1:l.1.2.2<m)(g:T.get lb=some (.lst (acc.map lD)))(hf:Fr T lb)(ha:acc.length<=1000) :
  W (exS (callF prog n) sIn (Es t x wv lb (some (.int k)) d (some (pD l.1.2.1)) (some (.int l.1.2.2)) (some (oD l.2))) T) fun fl U=>fl=.nx (Es t x wv lb (some (.int k)) d (some (pD l.1.2.1)) (some (.int l.1.2.2)) (some (oD l.2)))/\U.get lb=some (.lst ((acc++[ltr t f k l]).map lD))/\Mv [lb] T U:=by
 obtain⟨U,hU,mU,gU⟩:=zbr (u:=.lst ((acc++[ltr t f k l]).map lD)) hf g;have ua:acc.map lD++[lD (ltr t f k l)]=(acc++[ltr t f k l]).map lD:=by simp
 have hp:T.put lb (.lst (acc.map lD++[.tup [.int t,pD l.1.2.1,.int (f k l.1.2.2),oD l.2]]))=some U:=by rw[show(D.tup [.int t,pD l.1.2.1,.int (f k l.1.2.2),oD l.2])=lD (ltr t f k l) from rfl,ua];exact hU
 refine wS_W _ ?_;left;exists g;left;rcases w with⟨rfl,hf'⟩|⟨wl,as,rfl,h2,h3,h4,h5⟩;left;change show 4<=16777216 by decide
 left;exists g;left;change by rw[length_append,length_map];simp only[length_cons,length_nil];omega
 left;rw[hf']at hp;exists hp;left;exact⟨rfl,gU,mU⟩;obtain⟨a,ha'⟩:∃a,as[k]?=some a:=⟨_,getElem?_eq_getElem (by omega)⟩;left;exists h2;left;exists za7 (x:=D.ref a) (by rw[getElem?_map,ha'];rfl);left;exists(h5 k a ha').1;left;exists zif (f k) o0 o1;left;change show 4<=16777216 by decide
 left;exists g;left;change by rw[length_append,length_map];simp only[length_cons,length_nil];omega
 left;exists hp;left;exact⟨rfl,gU,mU⟩
end
theorem zkF{N m pl n k lb:Nat}{wv x:D}{f:Nat->Int->Int}{t:Int}{d:Option D}(hk:k<pl):∀(ms acc:List Ly)(T:R.St)(e g h:Option D),WOk T N wv m pl f->N<=lb->(∀l∈ms,0<=l.1.2.2/\l.1.2.2<m)->T.get lb=some (.lst (acc.map lD))->Fr T lb->acc.length+ms.length<=1000->
  W (zaw [6,7,8] (exS (callF prog n) sIn) (ms.map tD) (Es t x wv lb (some (.int k)) d e g h) T) fun fl U=>(∃e g h,fl=.nx (Es t x wv lb (some (.int k)) d e g h))/\U.get lb=some (.lst ((acc++ms.map (ltr t f k)).map lD))/\Mv [lb] T U
 | [],acc,T,e,g,h,_,_,_,gl,_,_=>by show W (Out.ok (Fl.nx _) T) _;rw[W_ok];exact⟨⟨_,_,_,rfl⟩,by simpa using gl,Mv.refl _ _⟩| l::ms,acc,T,e,g,h,w,hN,ho,gl,hf,hl=>by rw[length_cons]at hl;show W (Out.bind (exS (callF prog n) sIn (Es t x wv lb (some (.int k)) d (some (pD l.1.2.1)) (some (.int l.1.2.2)) (some (oD l.2))) T) _) _;rw[zaa];have h1:=ho l mem_cons_self;refine(zpo (n:=n) (c:=none) w hk h1.1 h1.2 gl hf (by omega)).mono fun fl U hU=>?_;obtain⟨rfl,gU,v1⟩:=hU;refine(zkF hk ms (acc++[ltr t f k l]) U _ _ _ (w.mv fun y o hy e=>v1.old _ _ (by simp;omega) e) hN (fun y hy=>ho y (mem_cons_of_mem _ hy)) gU (hf.mv v1) (by simp;omega)).mono fun fl V hV=>?_;obtain⟨h2,g2,v2⟩:=hV;exact⟨h2,by rw[g2];simp,v1.trans v2⟩
noncomputable def sayL:CL:=.val (.meth "say" [(0,20)] J5 #[J0])
@[irreducible]noncomputable def sOut:CS:=.forS [6,7,8] sayL sIn .nil
theorem zhj:c_said_in.body=.asg 3 (.lst .nil) (.forS [4,5] (.enum J1) sOut (.ret J3 .nil)):=by unfold sOut;rfl
theorem zjh{T:R.St}{N m pl n k lb s a:Nat}{wv x:D}{f:Nat->Int->Int}{t r i:Int}{acc ls:List Ly}{e g h:Option D}(w:WOk T N wv m pl f)(hN:N<=lb)(hk:k<pl)(gs:T.get s=some (scD i m r ls a))(hl:ls.length<=63)(ho:∀l∈ls,0<=l.1.2.2/\l.1.2.2<m)(gl:T.get lb=some (.lst (acc.map lD)))(hf:Fr T lb)(ha:acc.length<=500) :
  W (exS (callF prog (n+1)) sOut (Es t x wv lb (some (.int k)) (some (.ref s)) e g h) T) fun fl U=>(∃e g h,fl=.nx (Es t x wv lb (some (.int k)) (some (.ref s)) e g h))/\U.get lb=some (.lst ((acc++(atT t ls).map (ltr t f k)).map lD))/\Mv [lb] T U:=by
 have hL:=zeh t ls;have lb':=zam gl;unfold sOut;have el:evL (callF prog (n+1)) sayL (Es t x wv lb (some (.int k)) (some (.ref s)) e g h) T=.ok ((atT t ls).map tD,[T.len]) (T.push (.lst ((atT t ls).map tD))):=by generalize hδ:Es t x wv lb (some (.int k)) (some (.ref s)) e g h=δ;refine W.eq (wL_W _ ?_);subst hδ;left;exists zcw gs;left;exists rfl;left;change rfl;left;specialize zoe (f:=n) (t:=t) gs hl;left;exists zah _ _;left;exact⟨rfl,rfl⟩
 generalize hδ:Es t x wv lb (some (.int k)) (some (.ref s)) e g h=δ at el⊢;refine zaJ el ?_;subst hδ;have fr:Fr ({T.push (.lst ((atT t ls).map tD)) with lk:=[T.len]++(T.push (.lst ((atT t ls).map tD))).lk}:R.St) lb:=⟨hf.f,by
  show([T.len]++T.lk).contains lb=false;have:=hf.k;rw[List.contains_eq_any_beq]at *;simp at *;exact⟨by omega,this⟩⟩
 refine W.mono (zkF (n:=n+1) (t:=t) (f:=f) hk (atT t ls) acc _ e g h (w.mv fun y o hy e=>zad e) hN (fun l hl'=>ho l (mem_filter.mp hl').1) (zad gl) fr (by omega)) fun fl U hU=>?_;obtain⟨⟨e',g',h',rfl⟩,gU,v⟩:=hU;dsimp only;have v2:=(Mv.push [lb] T (.lst ((atT t ls).map tD))).trans v.lock;rw[exS,W_ok];exact⟨⟨_,_,_,rfl⟩,gU,v2⟩
noncomputable def enP:Nat->List (Nat×Nat)->List D
 |_,[]=>[]|k,p::ps=>zc6 (.int (k:Nat)) (.ref p.1)::enP (k+1) ps
theorem ziB:∀(ps:List (Nat×Nat))(k:Nat),(ps.map fun p=>D.ref p.1).mapIdx (fun i d=>zc6 (.int ((i+k:Nat):Int)) d)=enP k ps
 | [],_=>rfl| p::ps,k=>by rw[map_cons,List.mapIdx_cons,enP,<-ziB ps (k+1),zero_add];congr 2;funext i d;rw[show i+1+k=i+(k+1) by omega]
theorem zoB{cf:CF}{δ:Ev}{T:R.St}{th j:Nat}{ps:List (Nat×Nat)}(hd:(δ[j]?).join=some (.ref th))(g:T.get th=some (.lst (ps.map fun p=>.ref p.1))):evL cf (.enum (.loc j)) δ T=.ok (enP 0 ps,[th]) T:=by simp only[evL,evE];rw[hd,zaI,zal];unfold zdq;dsimp only;rw[g];dsimp only;rw[zaI,<-ziB ps 0];rfl
noncomputable def zbo(t:Int)(f:Nat->Int->Int):Nat->List (List Ly)->List Ly
 |_,[]=>[]|k,ls::Ls=>(atT t ls).map (ltr t f k)++zbo t f (k+1) Ls
theorem zdI(t:Int)(f:Nat->Int->Int):∀(Ls:List (List Ly))(k:Nat),(zbo t f k Ls).length<=Ls.flatten.length
 | [],_=>le_refl _| ls::Ls,k=>by have:=zdI t f Ls (k+1);have:=zeh t ls;rw[zbo,length_append,length_map,flatten_cons,length_append];omega
theorem zer{N m pl n lb:Nat}{wv x:D}{f:Nat->Int->Int}{t r:Int}(hN:N<=lb):∀(ps:List (Nat×Nat))(Ls:List (List Ly))(k:Nat)(acc:List Ly)(T:R.St)(c d e g h:Option D),ps.length=Ls.length->k+ps.length=pl->WOk T N wv m pl f->
  (∀(i:Nat) p ls,ps[i]?=some p->Ls[i]?=some ls->T.get p.1=some (scD (((k+i:Nat):Int)%m) m r ls p.2)/\(∀l∈ls,0<=l.1.2.2/\l.1.2.2<m)/\p.1<N)->T.get lb=some (.lst (acc.map lD))->Fr T lb->acc.length+Ls.flatten.length<=60->
  W (zaw [4,5] (exS (callF prog (n+1)) sOut) (enP k ps) (Es t x wv lb c d e g h) T) fun fl U=>(∃c d e g h,fl=.nx (Es t x wv lb c d e g h))/\U.get lb=some (.lst ((acc++zbo t f k Ls).map lD))/\Mv [lb] T U
 | [],[],k,acc,T,c,d,e,g,h,_,_,_,_,gl,_,_=>by show W (Out.ok (Fl.nx _) T) _;rw[W_ok];exact⟨⟨_,_,_,_,_,rfl⟩,by simpa[zbo]using gl,Mv.refl _ _⟩| p::ps,ls::Ls,k,acc,T,c,d,e,g,h,h0,hp,w,h1,gl,hf,hl=>by rw[length_cons]at hp;rw[length_cons,length_cons]at h0;rw[flatten_cons,length_append]at hl;obtain⟨gs,ho,np⟩:=h1 0 p ls rfl rfl;have hL:=zeh t ls;have key:=zjh (n:=n) (t:=t) (x:=x) (k:=k) (e:=e) (g:=g) (h:=h) w hN (by omega) gs (by omega) ho gl hf (by omega);show W (Out.bind (exS (callF prog (n+1)) sOut (Es t x wv lb (some (.int (k:Nat))) (some (.ref p.1)) e g h) T) _) _;rw[zaa];refine key.mono fun fl U hU=>?_;obtain⟨⟨e',g',h',rfl⟩,gU,v1⟩:=hU;refine(zer (r:=r) hN ps Ls (k+1) (acc++(atT t ls).map (ltr t f k)) U _ _ _ _ _ (by omega) (by omega) (w.mv fun y o hy e=>v1.old _ _ (by simp;omega) e) (fun i q ls' e1 e2=>?_) gU (hf.mv v1) (by rw[length_append,length_map];omega)).mono fun fl V hV=>?_;obtain⟨a1,a2,a3⟩:=h1 (i+1) q ls' (by simpa using e1) (by simpa using e2);rw[show k+1+i=k+(i+1) by omega];exact⟨v1.old _ _ (by simp;omega) a1,a2,a3⟩;obtain⟨h2,g2,v2⟩:=hV;exact⟨h2,by rw[g2,zbo];simp,v1.trans v2⟩
theorem zio(M:Nat)(ls:List Ly):flats M (ls.map lD)=true:=by rw[zaD];intro d hd;obtain⟨l,_,rfl⟩:=mem_map.mp hd;exact zis M l
theorem znr{S:R.St}{N th m n pl:Nat}{r t:Int}{wv:D}{f:Nat->Int->Int}{ps:List (Nat×Nat)}{Ls:List (List Ly)}{As:Nat->List Ly}(X:Tw S N th m r ps Ls As)(hp:Ls.length=pl)(w:WOk S S.len wv m pl f)(ho:∀(i:Nat) ls,Ls[i]?=some ls->∀l∈ls,0<=l.1.2.2/\l.1.2.2<m)(hz:Ls.flatten.length<=58) :
  app (callF prog (n+2)) 2 [.int t,.ref th,wv] S=.ok (.ref S.len) (S.push (.lst ((zbo t f 0 Ls).map lD))):=by
 refine W.eq ?_;rw[ze7 (F:=c_said_in) rfl rfl,zaa,zhj];rw[exS,zaa];have e3:evE (callF prog (n+1)) (.lst .nil) (zau c_said_in [.int t,.ref th,wv]) S.enter=.ok (.ref S.enter.len) (S.enter.push (.lst [])):=by simp only[evE,evEs,zal];rfl
 rw[e3,W_ok];show W (exS (callF prog (n+1)) (.forS [4,5] (.enum J1) sOut (.ret J3 .nil)) (Es t (.ref th) wv S.enter.len none none none none none) (S.enter.push (.lst []))) _;have up:∀l o,S.get l=some o->(S.enter.push (.lst [])).get l=some o:=fun l o e=>zad (by rw[zaC];exact e);have el:=zoB (cf:=callF prog (n+1)) (δ:=Es t (.ref th) wv S.enter.len none none none none none) (T:=S.enter.push (.lst [])) (j:=1) rfl (up _ _ X.g);generalize hδ:Es t (.ref th) wv S.enter.len none none none none none=δ at el⊢;refine zaJ el ?_;subst hδ;have lS:S.enter.len=S.len:=R.enter_len S;have lth:=zam X.g;have f1:Fr ({S.enter.push (.lst []) with lk:=[th]++(S.enter.push (.lst [])).lk}:R.St) S.enter.len:=⟨by show S.enter.frz.length<=_;unfold St.len;omega,by
  show([th]:List Nat).contains _=false;rw[lS];simp;omega⟩
 refine W.mono (zer (n:=n) (N:=S.len) (pl:=pl) (r:=r) (by omega) ps Ls 0 [] _ none none none none none X.l (by rw[X.l,hp];omega) (w.mv fun l o _ e=>up l o e) (fun i p ls e1 e2=>?_) (zah _ _) f1 (by rw[length_nil];omega)) fun fl U hU=>?_;obtain⟨a1,a2⟩:=X.s i p ls e1 e2;rw[zero_add];exact⟨up _ _ a1,ho i ls e2,zam a1⟩;obtain⟨⟨c,d,e,g,h,rfl⟩,g2,v⟩:=hU;dsimp only;refine W.mono (wS_W (.ret J3 .nil) (Q:=fun r T=>wFin S r T fun a T'=>a=.ref S.len/\T'=S.push (.lst ((zbo t f 0 Ls).map lD))) ?_) fun r T q=>by unfold wFin at q;exact q
 left;exact zej (by omega) (show({U with lk:=_}:R.St).get _=_ from g2) (by rw[List.nil_append];exact zio _ _) ⟨rfl,by rw[List.nil_append]⟩
noncomputable def k0(l:Ly):K3:=(0,l.1.2.1,l.1.2.2)
noncomputable def fnd(L:List Ly)(k:K3):Ly:=(L.find? fun l=>decide (k0 l=k)).getD ((0,[],0),none)
noncomputable def srtL(L:List Ly):List Ly:=(zfg (L.map k0)).map (fnd L)
theorem zgf{L:List Ly}{k:K3}(h:k∈L.map k0):fnd L k∈L/\k0 (fnd L k)=k:=by unfold fnd;cases e:L.find? fun l=>decide (k0 l=k) with| none=>obtain⟨l,hl,rfl⟩:=mem_map.mp h;have:=List.find?_eq_none.mp e l hl;simp at this| some l=>exact⟨List.mem_of_find?_eq_some e,by have:=List.find?_some e;simpa using this⟩
theorem zob{L:List Ly}{g:Ly->K3}(nd:(L.map g).Nodup){x y:Ly}(hx:x∈L)(hy:y∈L)(e:g x=g y):x=y:=by
 induction L with
 |nil=>cases hx
 |cons l L ih=>
  rw[map_cons,nodup_cons]at nd;rcases mem_cons.mp hx with h1|h1<;>rcases mem_cons.mp hy with h2|h2
  rw[h1,h2];exact absurd (mem_map.mpr ⟨y,h2,by rw[<-e,h1]⟩) nd.1;exact absurd (mem_map.mpr ⟨x,h1,by rw[e,h2]⟩) nd.1;exact ih nd.2 h1 h2
theorem zl7{L:List Ly}(nd:(L.map k0).Nodup):(L.map k0).map (fnd L)=L:=by rw[map_map];refine Eq.trans (List.map_congr_left fun l hl=>?_) (List.map_id _);have h:=zgf (L:=L) (k:=k0 l) (List.mem_map_of_mem hl);exact zob nd h.1 hl h.2
theorem zfK{L:List Ly}(nd:(L.map k0).Nodup):(srtL L).Perm L:=by have:=(zaT (L.map k0)).map (fnd L);rw[zl7 nd]at this;exact this
theorem zla{L:List Ly}(nd:(L.map k0).Nodup):(srtL L).Pairwise fun x y=>Lt3 (k0 x) (k0 y):=by
 have e:(srtL L).map k0=zfg (L.map k0):=by unfold srtL;rw[map_map];refine Eq.trans (List.map_congr_left fun k hk=>?_) (List.map_id _);exact(zgf ((zaT _).mem_iff.mp hk)).2
 have:=zbp nd;rw[<-e,pairwise_map]at this;exact this
theorem zf6:∀(L:List Ly)(k:K3),k∈L.map k0->(((L.map k0).zip (L.map lD)).lookup k).getD .non=lD (fnd L k)
 | [],k,h=>by cases h| l::L,k,h=>by
  rw[map_cons,map_cons,List.zip_cons_cons,lookup_cons];by_cases c:k=k0 l;subst c;rw[beq_self_eq_true];unfold fnd;rw[List.find?_cons_of_pos (by simp)];rfl;have:(k==k0 l)=false:=by rw[beq_eq_false_iff_ne];exact c
  rw[this];have ih:=zf6 L k (by
   rw[map_cons]at h;exact(mem_cons.mp h).resolve_left c)
  dsimp only;rw[ih];unfold fnd;rw[List.find?_cons_of_neg (by simpa using fun z=>c z.symm)]
theorem zph(L:List Ly):srtD (L.map lD) (L.map k0)=(srtL L).map lD:=by unfold srtD srtL;rw[map_map];exact List.map_congr_left fun k hk=>zf6 L k ((zaT _).mem_iff.mp hk)
theorem zjR(l:Ly):zd0 (lD l)=some (k0 l):=by show(zaL (l.1.2.1.map D.int)).map _=_;rw[zaY];rfl
theorem zhT:∀L:List Ly,(L.map lD).mapM zd0=some (L.map k0)
 | []=>rfl|l::L=>by rw[map_cons,mapM_cons,zjR,zhT L];rfl
theorem zhU{T:R.St}{l:Nat}{L:List Ly}(h:T.get l=some (.lst (L.map lD))):zdk T (.ref l)=some (L.map lD,L.map k0):=by unfold zdk;dsimp only;rw[h];dsimp only;rw[zhT];rfl
structure Kn(N:Nat)(S T:R.St):Prop where
 frz:T.frz=S.frz
 lk:T.lk=S.lk
 len:S.len<=T.len
 old:∀l o,l<N->S.get l=some o->T.get l=some o
theorem Kn.refl(N:Nat)(S:R.St):Kn N S S:=⟨rfl,rfl,le_refl _,fun _ _ _ h=>h⟩
theorem Kn.trans{N:Nat}{S T U:R.St}(a:Kn N S T)(b:Kn N T U):Kn N S U:=⟨b.frz.trans a.frz,b.lk.trans a.lk,le_trans a.len b.len,fun l o h e=>b.old l o h (a.old l o h e)⟩
theorem Kn.of{N:Nat}{A:List Nat}{S T:R.St}(v:Mv A S T)(h:∀a∈A,N<=a):Kn N S T:=⟨v.frz,v.lk,v.len,fun l o hl e=>v.old l o (fun z=>by have:=h l z;omega) e⟩
noncomputable def box(Ls:List Ly)(o:Int):List Ly:=Ls.filter fun x=>decide (x.1.2.2=o)
theorem zbG(Ls:List Ly)(x:Ly)(o:Int):box (Ls++[x]) o=if x.1.2.2=o then box Ls o++[x] else box Ls o:=by unfold box;rw[List.filter_append];by_cases h:x.1.2.2=o<;>simp[h]
structure Bx(N:Nat)(T:R.St)(bx:Nat)(Ls:List Ly)(kvs:List (Int×D)):Prop where
 at_:T.get bx=some (.dic kvs)
 fr:Fr T bx
 nw:N<=bx
 no_:∀o,valI kvs o=none->box Ls o=[]
 so_:∀o d,valI kvs o=some d->∃b,d=.ref b/\N<=b/\Fr T b/\T.get b=some (.lst ((box Ls o).map pwD))
 inj:∀o o' b,valI kvs o=some (.ref b)->valI kvs o'=some (.ref b)->o=o'
 len:kvs.length<=Ls.length
theorem zdz(kvs:List (Int×D))(k j:Int)(v:D):valI (putI kvs k v) j=if j=k then some v else valI kvs j:=by
 induction kvs with
 |nil=>by_cases c:j=k;subst c;simp[putI,valI];have c':¬k=j:=fun z=>c z.symm;simp[putI,valI,c,c']| cons a r ih=>
  obtain⟨i,d⟩:=a;unfold putI;by_cases e:i=k;subst e;rw[if_pos rfl];by_cases c:j=i;subst c;simp[valI];have c':¬i=j:=fun z=>c z.symm;simp[valI,c,c'];rw[if_neg e];by_cases c:i=j;subst c;simp[valI,e];have h1:valI ((i,d)::putI r k v) j=valI (putI r k v) j:=by simp[valI,c]
  have h2:valI ((i,d)::r) j=valI r j:=by simp[valI,c]
  rw[h1,h2,ih]
theorem zjt(kvs:List (Int×D))(k:Int)(v:D):(putI kvs k v).length<=kvs.length+1:=by induction kvs with|nil=>simp[putI]| cons a r ih=>obtain⟨i,d⟩:=a;unfold putI;split;simp;simp;omega
noncomputable abbrev Ed(t:Int)(x y:D)(bx:Nat)(a b c:Option D):Ev:=[some (.int t),some x,some y,some (.ref bx),a,b,c]
noncomputable def dIn:CS:=.expr (.mt .append (.dsetI J3 (.ix J4 U2) (.lst .nil)) #[.tup #[.ix J4 U1,.ix J4 U3]]) .nil
theorem zic{T:R.St}{l:Nat}{kvs:List (Int×D)}(h:T.get l=some (.dic kvs)):isDi T (.ref l)=true:=by unfold isDi;dsimp only;rw[h]
theorem zea{T:R.St}{l:Nat}{kvs:List (Int×D)}{o:Int}(h:T.get l=some (.dic kvs)):zeb T (.ref l) (.int o)=some (valI kvs o):=by unfold zeb;dsimp only;rw[h];rfl
theorem zkh{cf:CF}{N:Nat}{T:R.St}{bx:Nat}{Ls:List Ly}{kvs:List (Int×D)}{x:Ly}{t:Int}{u y:D}{b c:Option D}(B:Bx N T bx Ls kvs)(hN:N<=T.len)(hl:Ls.length<=500)(hlk:T.lk.contains T.len=false) :
  W (exS cf dIn (Ed t u y bx (some (lD x)) b c) T) fun f U=>f=.nx (Ed t u y bx (some (lD x)) b c)/\(∃kvs',Bx N U bx (Ls++[x]) kvs')/\Kn N T U:=by
 obtain⟨⟨tt,j,o⟩,w⟩:=x;unfold lD;refine wS_W _ ?_;left;change zic B.at_;left;exists show R.atI [D.int tt,pD j,.int o,oD w] 2=some (.int o) from rfl;left;change show 0<=16777216 by decide
 left;have lb:=zam B.at_;have hbl:(box Ls o).length<=Ls.length:=by unfold box;exact length_filter_le _ _
 have gB:=zad (o:=.lst []) B.at_;have hlen:=B.len;cases hv:valI kvs o with
 |none=>
  have fT:Fr (T.push (.lst [])) bx:=⟨B.fr.f,B.fr.k⟩;obtain⟨U,hU,mU,gU⟩:=zbr (u:=.dic (putI kvs o (.ref T.len))) fT gB;have es:zc8 (T.push (.lst [])) (.ref bx) (.int o) (.ref T.len)=some (.ref T.len,U):=by unfold zc8;rw[zea gB,hv];dsimp only;unfold dPut;dsimp only;rw[gB];dsimp only[zcn,bind_some];rw[if_pos (by omega),hU];rfl
  exists es;left;have nb:T.len≠bx:=by omega
  have gL:U.get T.len=some (.lst []):=mU.old _ _ (by simpa using nb) (za9 T (.lst []));have fL:Fr U T.len:=⟨by rw[mU.frz];show T.frz.length<=T.len;unfold St.len;omega,by rw[mU.lk];exact hlk⟩;exists gL;left;exists show R.atI [D.int tt,pD j,.int o,oD w] 1=some (pD j) from rfl;left;exists show R.atI [D.int tt,pD j,.int o,oD w] 3=some (oD w) from rfl;left;change show 2<=16777216 by decide
  left;exists gL;left;change show 1<=16777216 by decide
  left;obtain⟨V,hV,mV,gV⟩:=zbr (u:=.lst ([]++[pwD ((tt,j,o),w)])) fL gL;exists hV;left;have mP:=Mv.push [] T (.lst []);refine⟨rfl,⟨putI kvs o (.ref T.len),?_⟩,?_⟩;have oldV:∀l q,l≠bx->l≠T.len->T.get l=some q->V.get l=some q:=fun l q h1 h2 e=>mV.old _ _ (by simpa using h2) (mU.old _ _ (by simpa using h1) (mP.old _ _ (by simp) e));have frV:∀l,Fr T l->Fr V l:=fun l h=>((h.mv mP).mv mU).mv mV;refine⟨mV.old _ _ (by simpa using nb.symm) gU,frV _ B.fr,B.nw,fun o' h'=>?_,fun o' d h'=>?_,fun o1 o2 b h1 h2=>?_,?_⟩;rw[zdz]at h';split at h';cases h';rename_i ne;rw[zbG,if_neg (fun z=>ne z.symm)];exact B.no_ o' h';rw[zdz]at h';split at h';rename_i ee;cases h';subst ee;refine⟨T.len,rfl,hN,fL.mv mV,?_⟩;rw[zbG,if_pos rfl,B.no_ _ hv];exact gV;rename_i ne;obtain⟨b,rfl,h2,h3,h4⟩:=B.so_ o' d h';refine⟨b,rfl,h2,frV _ h3,?_⟩;rw[zbG,if_neg (fun z=>ne z.symm)];refine oldV _ _ (fun z=>?_) (by have:=zam h4;omega) h4;rw[z,B.at_]at h4;cases h4
  . rw[zdz]at h1 h2;split at h1<;>split at h2
    rename_i a1 a2;rw[a1,a2];cases h1;obtain⟨b,e1,_,_,h4⟩:=B.so_ o2 _ h2;cases e1;have:=zam h4;omega;cases h2;obtain⟨b,e1,_,_,h4⟩:=B.so_ o1 _ h1;cases e1;have:=zam h4;omega;exact B.inj o1 o2 b h1 h2
  have:=zjt kvs o (.ref T.len);rw[length_append];simp only[length_cons,length_nil];omega;refine(Kn.of mP (by simp)).trans ((Kn.of mU ?_).trans (Kn.of mV ?_));intro a ha;rw[mem_singleton.mp ha];exact B.nw;intro a ha;rw[mem_singleton.mp ha];exact hN
 |some d=>
  obtain⟨b0,rfl,nb0,fb,gb⟩:=B.so_ o d hv;have mP:=Mv.push [] T (.lst []);have es:zc8 (T.push (.lst [])) (.ref bx) (.int o) (.ref T.len)=some (.ref b0,T.push (.lst [])):=by unfold zc8;rw[zea gB,hv]
  exists es;left;have gL:(T.push (.lst [])).get b0=some (.lst ((box Ls o).map pwD)):=zad gb;exists gL;left;exists show R.atI [D.int tt,pD j,.int o,oD w] 1=some (pD j) from rfl;left;exists show R.atI [D.int tt,pD j,.int o,oD w] 3=some (oD w) from rfl;left;change show 2<=16777216 by decide
  left;exists gL;left;change by rw[length_append,length_map];simp only[length_cons,length_nil];omega
  obtain⟨V,hV,mV,gV⟩:=zbr (u:=.lst ((box Ls o).map pwD++[pwD ((tt,j,o),w)])) (fb.mv mP) gL;exists hV;left;have frV:∀l,Fr T l->Fr V l:=fun l h=>(h.mv mP).mv mV;have nbx:bx≠b0:=fun z=>by rw[<-z,B.at_]at gb;cases gb
  refine⟨rfl,⟨kvs,?_⟩,(Kn.of mP (by simp)).trans (Kn.of mV (by intro a ha;rw[mem_singleton.mp ha];exact nb0))⟩;refine⟨mV.old _ _ (by simpa using nbx) gB,frV _ B.fr,B.nw,fun o' h'=>?_,fun o' d h'=>?_,B.inj,by rw[length_append];omega⟩;rw[zbG,if_neg (fun z=>by rw[<-z]at h';rw[show(((tt,j,o),w):Ly).1.2.2=o from rfl,hv]at h';cases h')];exact B.no_ o' h';by_cases ee:o=o';subst ee;rw[hv]at h';cases h';refine⟨b0,rfl,nb0,frV _ fb,?_⟩;rw[zbG,if_pos rfl,map_append];exact gV;obtain⟨b,rfl,h2,h3,h4⟩:=B.so_ o' d h';refine⟨b,rfl,h2,frV _ h3,?_⟩;rw[zbG,if_neg (fun z=>ee z)];refine mV.old _ _ (fun z=>?_) (mP.old _ _ (by simp) h4);have z:b=b0:=by simpa using z
  subst z;exact ee (B.inj o o' b hv h')
theorem zf8{T:R.St}{N:Nat}(hk:∀l∈T.lk,l<N)(hN:N<=T.len):T.lk.contains T.len=false:=by rw[Bool.eq_false_iff];intro z;have:=hk _ (List.contains_iff_mem.mp z);omega
theorem zgo{cf:CF}{N:Nat}{bx:Nat}{t:Int}{u y:D}{b c:Option D}:∀(rest Ls:List Ly)(kvs:List (Int×D))(T:R.St)(a:Option D),Bx N T bx Ls kvs->N<=T.len->(∀l∈T.lk,l<N)->Ls.length+rest.length<=500->
  W (zaw [4] (exS cf dIn) (rest.map lD) (Ed t u y bx a b c) T) fun f U=>(∃a,f=.nx (Ed t u y bx a b c))/\(∃kvs',Bx N U bx (Ls++rest) kvs')/\Kn N T U
 | [],Ls,kvs,T,a,B,_,_,_=>by show W (Out.ok (Fl.nx _) T) _;rw[W_ok];exact⟨⟨a,rfl⟩,⟨kvs,by rw[append_nil];exact B⟩,Kn.refl _ _⟩| x::rest,Ls,kvs,T,a,B,hN,hk,hl=>by simp only[length_cons]at hl;show W (Out.bind (exS cf dIn (Ed t u y bx (some (lD x)) b c) T) _) _;rw[zaa];refine(zkh B hN (by omega) (zf8 hk hN)).mono fun f U hU=>?_;obtain⟨rfl,⟨kvs',B'⟩,v⟩:=hU;refine(zgo rest (Ls++[x]) kvs' U _ B' (le_trans hN v.len) (by rw[v.lk];exact hk) (by simp;omega)).mono fun f V hV=>?_;obtain⟨h1,⟨kvs2,B2⟩,v2⟩:=hV;exact⟨h1,⟨kvs2,by rw[append_assoc]at B2;exact B2⟩,v.trans v2⟩
theorem zee(Ls:List Ly)(o:Int):(box Ls o).length<=Ls.length:=length_filter_le _ _
noncomputable def zgW:CS:=.expr (.meth "hear" [(0,19)] J6 #[J0,.dgetI J3 J5 (.lst .nil)]) .nil
theorem zj5{S:R.St}{N n bx s a:Nat}{i m r t:Int}{j:Nat}{Ls ls A:List Ly}{kvs:List (Int×D)}{x y:D}{u:Option D}(gs:S.get s=some (scD i m r ls a))(ga:S.get a=some (.lst (A.map hdD)))(fa:Fr S a)(B:Bx N S bx Ls kvs)(hA:A.length<=4000)(hl:Ls.length<=60)(ht:∀l∈Ls,l.1.1=t) :
  W (exS (callF prog (n+1)) zgW (Ed t x y bx u (some (.int j)) (some (.ref s))) S) fun f U=>f=.nx (Ed t x y bx u (some (.int j)) (some (.ref s)))/\Mv [a] S U/\U.get a=some (.lst ((A++box Ls j).map hdD)):=by
 have mP:=Mv.push [] S (.lst []);have hq:∃qq,(valI kvs j).getD (.ref S.len)=.ref qq/\(S.push (.lst [])).get qq=some (.lst ((box Ls j).map pwD)):=by cases hv:valI kvs j with|none=>exact⟨S.len,rfl,by rw[B.no_ _ hv];exact za9 _ _⟩| some d=>obtain⟨b,rfl,_,_,gb⟩:=B.so_ _ _ hv;exact⟨b,rfl,zad gb⟩
 obtain⟨qq,eq,gq⟩:=hq;have gB:=zad (o:=.lst []) B.at_;have bl:=zee Ls j;have key:=zl9 (f:=n) (t:=t) (zad (o:=.lst []) gs) (zad ga) (fa.mv mP) gq hA (by omega) (fun l hl'=>ht l (mem_filter.mp hl').1);refine wS_W _ ?_;left;exists zcw gs;left;exists rfl;left;change rfl;left;change zic B.at_;left;change show 0<=16777216 by decide
 left;exists zea gB;rw[eq];left;refine zda (key.mono fun d T hT=>?_);obtain⟨_,v,g1⟩:=hT;left;exact⟨rfl,(mP.up (by simp)).trans v,g1⟩
theorem Bx.mv{N:Nat}{T U:R.St}{bx:Nat}{Ls:List Ly}{kvs:List (Int×D)}{A:List Nat}(B:Bx N T bx Ls kvs)(v:Mv A T U)(h:∀x∈A,x<N):Bx N U bx Ls kvs:=⟨v.old _ _ (fun z=>by have:=h _ z;have:=B.nw;omega) B.at_,B.fr.mv v,B.nw,B.no_,fun o d e=>let ⟨b,e1,e2,e3,e4⟩:=B.so_ o d e;⟨b,e1,e2,e3.mv v,v.old _ _ (fun z=>by have:=h _ z;omega) e4⟩,B.inj,B.len⟩
theorem zeT{N n bx:Nat}{m r t:Int}{Ls:List Ly}{kvs:List (Int×D)}{x y:D}{u:Option D}{q:Nat->Int}{As:Nat->List Ly}(hl:Ls.length<=60)(ht:∀l∈Ls,l.1.1=t):∀(ps:List (Nat×Nat))(Ks:List (List Ly))(k:Nat)(T:R.St)(b c:Option D),ps.length=Ks.length->Bx N T bx Ls kvs->
  (∀(i:Nat) p ls,ps[i]?=some p->Ks[i]?=some ls->T.get p.1=some (scD (q (k+i)) m r ls p.2)/\T.get p.2=some (.lst ((As (k+i)).map hdD))/\Fr T p.2/\p.2<N/\(As (k+i)).length<=4000)->(ps.map (·.2)).Nodup->
  W (zaw [5,6] (exS (callF prog (n+1)) zgW) (enP k ps) (Ed t x y bx u b c) T) fun f U=>(∃b c,f=.nx (Ed t x y bx u b c))/\Mv (ps.map (·.2)) T U/\∀(i:Nat) p,ps[i]?=some p->U.get p.2=some (.lst ((As (k+i)++box Ls ((k+i:Nat):Int)).map hdD))
 | [],[],k,T,b,c,_,_,_,_=>by show W (Out.ok (Fl.nx _) T) _;rw[W_ok];exact⟨⟨b,c,rfl⟩,Mv.refl _ _,fun i p e=>by simp at e⟩| p::ps,ls::Ks,k,T,b,c,h0,B,h1,nd=>by rw[length_cons,length_cons]at h0;rw[map_cons,nodup_cons]at nd;obtain⟨gs,ga,fa,an,al⟩:=h1 0 p ls rfl rfl;show W (Out.bind (exS (callF prog (n+1)) zgW (Ed t x y bx u (some (.int (k:Nat))) (some (.ref p.1))) T) _) _;rw[zaa];refine(zj5 (n:=n) (t:=t) gs ga fa B al hl ht).mono fun f U hU=>?_;obtain⟨rfl,v,g1⟩:=hU;have nei:∀(i:Nat) p',ps[i]?=some p'->p'.2≠p.2:=fun i p' e z=>nd.1 (mem_map.mpr ⟨p',mem_of_getElem? e,z⟩);refine(zeT (m:=m) (r:=r) (q:=q) (As:=As) hl ht ps Ks (k+1) U _ _ (by omega) (B.mv v (by intro z hz;rw[mem_singleton.mp hz];exact an)) (fun i p' ls' e1 e2=>?_) nd.2).mono fun f V hV=>?_;obtain⟨a1,a2,a3,a4,a5⟩:=h1 (i+1) p' ls' (by simpa using e1) (by simpa using e2);rw[show k+1+i=k+(i+1) by omega];refine⟨v.old _ _ (fun z=>?_) a1,v.old _ _ (by simpa using nei i p' e1) a2,a3.mv v,a4,a5⟩;rw[mem_singleton.mp z,ga]at a1;cases a1;obtain⟨hf,w,hp⟩:=hV;refine⟨hf,(v.up (by simp)).trans (w.up (by intro z hz;exact mem_cons_of_mem _ hz)),fun i p' e=>?_⟩;cases i with| zero=>cases e;exact w.old _ _ nd.1 g1| succ i=>have:=hp i p' (by simpa using e);rw[show k+1+i=k+(i+1) by omega]at this;exact this
theorem zoa{L:List Nat}{N b:Nat}(h:∀l∈L,l<N)(hb:N<=b):L.contains b=false:=by rw[Bool.eq_false_iff];intro z;have:=h _ (List.contains_iff_mem.mp z);omega
theorem Bx.relk{N:Nat}{T:R.St}{bx:Nat}{Ls:List Ly}{kvs:List (Int×D)}{L:List Nat}(B:Bx N T bx Ls kvs)(h:∀l∈L,l<N):Bx N ({T with lk:=L}:R.St) bx Ls kvs:=⟨B.at_,⟨B.fr.f,zoa h B.nw⟩,B.nw,B.no_,fun o d e=>let ⟨b,e1,e2,e3,e4⟩:=B.so_ o d e;⟨b,e1,e2,⟨e3.f,zoa h e2⟩,e4⟩,B.inj,B.len⟩
theorem zeY:c_deliver.body=.asg 3 .dnew (.forS [4] (.val J2) dIn (.forS [5,6] (.enum J1) zgW .nil)):=rfl
theorem zhm{S:R.St}{M n th sd m:Nat}{r t:Int}{ps:List (Nat×Nat)}{Ks:List (List Ly)}{As:Nat->List Ly}{Ls:List Ly}(X:Tw S M th m r ps Ks As)(hsd:S.get sd=some (.lst (Ls.map lD)))(hL:Ls.length<=60)(ht:∀l∈Ls,l.1.1=t)(hk:∀l∈S.lk,l<S.len)(fr:∀p∈ps,Fr S p.2)(hA:∀i,(As i).length<=4000) :
  W (appW (callF prog (n+2)) 3 [.int t,.ref th,.ref sd] S) fun d U=>d=.non/\Mv (ps.map (·.2)) S U/\Tw U M th m r ps Ks (fun i=>As i++box Ls ((i:Nat):Int)):=by
 refine ze8 (F:=c_deliver) rfl rfl ?_;rw[zeY,exS,zaa];have e0:evE (callF prog (n+1)) .dnew (zau c_deliver [.int t,.ref th,.ref sd]) S=.ok (.ref S.len) (S.push (.dic [])):=by simp only[evE]
 rw[e0,W_ok];show W (exS (callF prog (n+1)) (.forS [4] (.val J2) dIn (.forS [5,6] (.enum J1) zgW .nil)) (Ed t (.ref th) (.ref sd) S.len none none none) (S.push (.dic []))) _;have up:∀l o,S.get l=some o->(S.push (.dic [])).get l=some o:=fun l o e=>zad e;have e1:evL (callF prog (n+1)) (.val J2) (Ed t (.ref th) (.ref sd) S.len none none none) (S.push (.dic []))=.ok (Ls.map lD,[sd]) (S.push (.dic [])):=by simp only[evL,evE];show Out.bind (lift (S.push (.dic [])) (some (D.ref sd))) _=_;rw[zaI,zal];unfold zbI;dsimp only;rw[up _ _ hsd];rfl
 generalize hδ:Ed t (.ref th) (.ref sd) S.len none none none=δ at e1⊢;refine zaJ e1 ?_;subst hδ;have lsd:=zam hsd;have lth:=zam X.g;have fr0:S.frz.length<=S.len:=by unfold St.len;omega
 have B0:Bx S.len ({S.push (.dic []) with lk:=[sd]++(S.push (.dic [])).lk}:R.St) S.len [] []:=by refine⟨za9 _ _,⟨fr0,?_⟩,le_refl _,fun o _=>rfl,(fun o d e=>by cases e),(fun o o' b e=>by cases e),le_refl _⟩;show(sd::S.lk).contains S.len=false;rw[List.contains_cons,zf8 hk (le_refl _),Bool.or_false];simp;omega
 refine W.mono (zgo (cf:=callF prog (n+1)) (t:=t) (u:=.ref th) (y:=.ref sd) (b:=none) (c:=none) Ls [] [] _ none B0 (by show S.len<=(S.push (.dic [])).len;rw[plen];omega) (by
  intro l hl;rcases mem_cons.mp (show l∈sd::S.lk from hl) with rfl|hl;exact lsd;exact hk l hl) (by simp;omega)) fun f T hT=>?_
 obtain⟨⟨a,rfl⟩,⟨kvs,B⟩,kn⟩:=hT;rw[List.nil_append]at B;dsimp only;show W (exS (callF prog (n+1)) (.forS [5,6] (.enum J1) zgW .nil) (Ed t (.ref th) (.ref sd) S.len a none none) {T with lk:=S.lk}) _;have old:∀l o,S.get l=some o->({T with lk:=S.lk}:R.St).get l=some o:=fun l o e=>kn.old l o (zam e) (up l o e);have el:=zoB (cf:=callF prog (n+1)) (δ:=Ed t (.ref th) (.ref sd) S.len a none none) (T:={T with lk:=S.lk}) (j:=1) rfl (old _ _ X.g);generalize hδ:Ed t (.ref th) (.ref sd) S.len a none none=δ at el⊢;refine zaJ el ?_;subst hδ;have hk2:∀l∈th::S.lk,l<S.len:=fun l hl=>by rcases mem_cons.mp hl with rfl|hl;exact lth;exact hk l hl
 have ntp:∀p∈ps,p.2≠th:=fun p hp z=>by
  obtain⟨i,hi⟩:=mem_iff_getElem?.mp hp;have hil:i<Ks.length:=by rw[<-X.l];exact(List.getElem?_eq_some_iff.mp hi).1
  have a1:=(X.s i p Ks[i] hi (by simp[hil])).2;rw[z,X.g]at a1;cases h:ps with
  |nil=>rw[h]at hp;cases hp
  |cons p0 r=>
   rw[h]at a1;cases hA':As i with
   |nil=>rw[hA']at a1;cases a1
   |cons l0 r0=>rw[hA']at a1;cases a1
 have kz:S.len<=T.len:=by have:=kn.len;have e:(S.push (.dic [])).len<=T.len:=this;rw[plen]at e;omega
 refine W.mono (zeT (n:=n) (m:=m) (r:=r) (t:=t) (x:=.ref th) (y:=.ref sd) (u:=a) (q:=fun i=>(i:Int)%m) (As:=As) hL ht ps Ks 0 ({T with lk:=th::S.lk}:R.St) none none X.l (B.relk hk2) (fun i p ls e1 e2=>?_) X.nd) fun f U hU=>?_;obtain⟨a1,a2⟩:=X.s i p ls e1 e2;have hp:=mem_of_getElem? e1;have fp:=fr p hp;rw[zero_add];refine⟨old _ _ a1,old _ _ a2,⟨by show T.frz.length<=_;rw[show T.frz=S.frz from kn.frz];exact fp.f,?_⟩,zam a2,hA i⟩;show(th::S.lk).contains p.2=false;rw[List.contains_cons,fp.k,Bool.or_false];simpa using ntp p hp;obtain⟨⟨b,c,rfl⟩,w,hp⟩:=hU;dsimp only;rw[exS,W_ok];have mv:Mv (ps.map (·.2)) S {U with lk:=S.lk}:=⟨by show U.frz=S.frz;rw[w.frz];exact kn.frz,rfl,by have:=w.len;exact le_trans kz this,fun l o hl e=>w.old l o hl (old l o e)⟩;refine⟨rfl,mv,X.l,mv.old _ _ (fun hm=>?_) X.g,fun i p ls e1 e2=>⟨mv.old _ _ (fun hm=>?_) (X.s i p ls e1 e2).1,?_⟩,X.n,X.nd⟩;obtain⟨p,hp',e⟩:=mem_map.mp hm;exact ntp p hp' e;obtain⟨p',hp',e⟩:=mem_map.mp hm;obtain⟨i',hi'⟩:=mem_iff_getElem?.mp hp';have hil:i'<Ks.length:=by rw[<-X.l];exact(List.getElem?_eq_some_iff.mp hi').1
 have a1:=(X.s i' p' Ks[i'] hi' (by simp[hil])).2;rw[e,(X.s i p ls e1 e2).1]at a1;cases a1;have:=hp i p e1;rw[zero_add]at this;exact this
theorem zeq{t:Int}{f:Nat->Int->Int}:∀(Ls:List (List Ly))(k:Nat),∀l∈zbo t f k Ls,l.1.1=t
 | [],_,l,h=>by cases h| ls::Ls,k,l,h=>by rw[zbo]at h;rcases mem_append.mp h with h|h;obtain⟨x,_,rfl⟩:=mem_map.mp h;rfl;exact zeq Ls (k+1) l h
theorem zcz{L:List Ly}{l:Ly}(nd:(L.map k0).Nodup):l∈srtL L↔l∈L:=(zfK nd).mem_iff
theorem zff{L:List Ly}(nd:(L.map k0).Nodup):(srtL L).length=L.length:=(zfK nd).length_eq
@[irreducible]noncomputable def rB:CS:=.asg 5 (.srtK (.call 2 0 #[J4,J0,J2])) (.expr (.callW 3 0 #[J4,J0,J5]) (.expr (.extv J3 J5) .nil))
theorem zjk:c_run.body=.asg 3 (.lst .nil) (.forS [4] (.rng2 U1 (.bin .Add J1 U1)) rB (.ret J3 .nil)):=by unfold rB;rfl
noncomputable abbrev Er(th:Nat)(rr:Int)(wv:D)(lt:Nat)(a b:Option D):Ev:=[some (.ref th),some (.int rr),some wv,some (.ref lt),a,b]
theorem zmD(A B:List Ly)(o:Int):box (A++B) o=box A o++box B o:=by unfold box;rw[List.filter_append]
structure Sd(m pl:Nat)(f:Nat->Int->Int)(Ls:List (List Ly)):Prop where
 l:Ls.length=pl
 o:∀(i:Nat) ls,Ls[i]?=some ls->∀l∈ls,0<=l.1.2.2/\l.1.2.2<m
 z:Ls.flatten.length<=58
 nd:∀t,((zbo t f 0 Ls).map k0).Nodup
structure Rn(T:R.St)(M th m lt pl:Nat)(r:Int)(wv:D)(f:Nat->Int->Int)(ps:List (Nat×Nat))(Ls:List (List Ly))(acc:List Ly):Prop where
 x:Tw T M th m r ps Ls (fun i=>box acc ((i:Nat):Int))
 w:WOk T M wv m pl f
 gl:T.get lt=some (.lst (acc.map lD))
 fl:Fr T lt
 fr:∀p∈ps,Fr T p.2
 hk:∀l∈T.lk,l<T.len
 nl:th<lt/\∀p∈ps,p.1<lt/\p.2<lt
theorem zjj{T:R.St}{M th m lt pl n:Nat}{r rr t:Int}{wv:D}{f:Nat->Int->Int}{ps:List (Nat×Nat)}{Ls:List (List Ly)}{acc:List Ly}{b:Option D}(X:Rn T M th m lt pl r wv f ps Ls acc)(H:Sd m pl f Ls)(ha:acc.length<=1000) :
  W (exS (callF prog (n+2)) rB (Er th rr wv lt (some (.int t)) b) T) fun fl U=>(∃b,fl=.nx (Er th rr wv lt (some (.int t)) b))/\Rn U M th m lt pl r wv f ps Ls (acc++srtL (zbo t f 0 Ls))/\Mv (lt::ps.map (·.2)) T U:=by
 have Mth:=X.x.n.1;have lth:=zam X.x.g;have llt:=zam X.gl;have n1:=X.nl.1;have hsd:=znr (n:=n) (t:=t) (f:=f) X.x H.l (X.w.up (by omega)) H.o H.z;have sl:=le_trans (zdI t f Ls 0) H.z;have nd:=H.nd t;have tl:=zff nd;generalize hL:zbo t f 0 Ls=L at *;have hLt:∀l∈L,l.1.1=t:=by rw[<-hL];exact zeq Ls 0
 unfold rB;refine wS_W _ ?_;left;specialize hsd;left;exists zhU (za9 _ _);left;change⟨by rw[length_map];omega,nd⟩;rw[show srtD (L.map lD,L.map k0).1 (L.map lD,L.map k0).2=(srtL L).map lD from zph L];left;change by rw[length_map];omega
 left;generalize hS2:(T.push (.lst (L.map lD))).push (.lst ((srtL L).map lD))=S2;have m2:Mv [] T S2:=by rw[<-hS2];exact(Mv.push [] _ _).trans (Mv.push [] _ _)
 have gsd:S2.get (T.push (.lst (L.map lD))).len=some (.lst ((srtL L).map lD)):=by rw[<-hS2];exact za9 _ _
 have lsd:(T.push (.lst (L.map lD))).len=T.len+1:=plen _ _;generalize hsdl:(T.push (.lst (L.map lD))).len=sd at *;have o2:∀l o,T.get l=some o->S2.get l=some o:=fun l o e=>m2.old _ _ (by simp) e;have X2:Tw S2 M th m r ps Ls (fun i=>box acc ((i:Nat):Int)):=⟨X.x.l,o2 _ _ X.x.g,fun i p ls e1 e2=>⟨o2 _ _ (X.x.s i p ls e1 e2).1,o2 _ _ (X.x.s i p ls e1 e2).2⟩,X.x.n,X.x.nd⟩;refine zda ((zhm (n:=n) (t:=t) X2 gsd (by omega) (fun l hl=>hLt l ((zcz nd).mp hl)) (by rw[m2.lk];exact fun l hl=>lt_of_lt_of_le (X.hk l hl) m2.len) (fun p hp=>(X.fr p hp).mv m2) (fun i=>le_trans (zee _ _) (by omega))).mono fun d U hU=>?_);obtain⟨rfl,v3,X3⟩:=hU;have nlt:lt∉ps.map (·.2):=fun hm=>by obtain⟨p,hp,e⟩:=mem_map.mp hm;have:=(X.nl.2 p hp).2;omega
 have np:∀p∈ps,p.2<T.len:=fun p hp=>by have:=(X.nl.2 p hp).2;omega
 have gl3:U.get lt=some (.lst (acc.map lD)):=v3.old _ _ nlt (o2 _ _ X.gl);have gs3:U.get sd=some (.lst ((srtL L).map lD)):=v3.old _ _ (fun hm=>by obtain⟨p,hp,e⟩:=mem_map.mp hm;have:=np p hp;omega) gsd;have m3:Mv (ps.map (·.2)) T U:=(m2.up (by simp)).trans v3;left;exists gl3;left;exists show lsts U (.ref lt) (.ref sd)=some (lt,acc.map lD,(srtL L).map lD) by unfold lsts;dsimp only;rw[gl3,gs3]
 left;change show(acc.map lD++(srtL L).map lD).length<=16777216 by rw[length_append,length_map,length_map];omega
 obtain⟨V,hV,mV,gV⟩:=zbr (u:=.lst (acc.map lD++(srtL L).map lD)) (X.fl.mv m3) gl3;exists hV;left;have m4:Mv (lt::ps.map (·.2)) T V:=(m3.up (by intro z hz;exact mem_cons_of_mem _ hz)).trans (mV.up (by simp));have oV:∀l o,l≠lt->U.get l=some o->V.get l=some o:=fun l o h e=>mV.old _ _ (by simpa using h) e;refine⟨⟨_,rfl⟩,⟨⟨X3.l,oV _ _ (by omega) X3.g,fun i p ls e1 e2=>?_,X3.n,X3.nd⟩,X.w.mv fun l o hl e=>m4.old _ _ (fun hm=>?_) e,by rw[gV,map_append],X.fl.mv m4,fun p hp=>(X.fr p hp).mv m4,?_,X.nl⟩,m4⟩;have hp:=X.nl.2 p (mem_of_getElem? e1);rw[zmD];exact⟨oV _ _ (by omega) (X3.s i p ls e1 e2).1,oV _ _ (by omega) (X3.s i p ls e1 e2).2⟩;rcases mem_cons.mp hm with rfl|hm;omega;obtain⟨p,hp,e⟩:=mem_map.mp hm;have:=(X.x.n.2 p hp).2;omega;rw[m4.lk];exact fun l hl=>lt_of_lt_of_le (X.hk l hl) m4.len
noncomputable def za6(f:Nat->Int->Int)(Ls:List (List Ly)):Nat->Nat->List Ly
 |_,0=>[]|t,c+1=>srtL (zbo (t:Nat) f 0 Ls)++za6 f Ls (t+1) c
theorem zfN{M th m lt pl n:Nat}{r rr:Int}{wv:D}{f:Nat->Int->Int}{ps:List (Nat×Nat)}{Ls:List (List Ly)}(H:Sd m pl f Ls):∀(c t:Nat)(acc:List Ly)(T:R.St)(a b:Option D),Rn T M th m lt pl r wv f ps Ls acc->acc.length+58*c<=1000->
  W (zaw [4] (exS (callF prog (n+2)) rB) (cnt t c) (Er th rr wv lt a b) T) fun fl U=>(∃a b,fl=.nx (Er th rr wv lt a b))/\Rn U M th m lt pl r wv f ps Ls (acc++za6 f Ls t c)/\Mv (lt::ps.map (·.2)) T U
 |0,t,acc,T,a,b,X,_=>by show W (Out.ok (Fl.nx _) T) _;rw[W_ok];exact⟨⟨a,b,rfl⟩,by rw[za6,append_nil];exact X,Mv.refl _ _⟩| c+1,t,acc,T,a,b,X,ha=>by show W (Out.bind (exS (callF prog (n+2)) rB (Er th rr wv lt (some (.int (t:Nat))) b) T) _) _;rw[zaa];have sl:=le_trans (zdI (t:Nat) f Ls 0) H.z;have tl:=zff (H.nd (t:Nat));refine(zjj (n:=n) (t:=((t:Nat):Int)) X H (by omega)).mono fun fl U hU=>?_;obtain⟨⟨b',rfl⟩,Y,v1⟩:=hU;refine(zfN H c (t+1) (acc++srtL (zbo (t:Nat) f 0 Ls)) U _ _ Y (by rw[length_append];omega)).mono fun fl V hV=>?_;obtain⟨h1,Z,v2⟩:=hV;refine⟨h1,?_,v1.trans v2⟩;rw[za6,<-append_assoc];exact Z
theorem zoV(h:P[f]?=some F)(hl:ds.length=F.np)(h3:3<=n)(w:W (exS (callF P n) F.body (zau F ds) S) fun r T=>match r with|.nx _=>Q .non T|.rt d=>Q d T)(hp:F.prim=some .lam:=by rfl):W (appW (callF P (n+1)) f ds S) Q:=by unfold appW;simp[callF,h,hl,hp,h3,if_true,zaa];refine w.mono fun r T q=>?_;cases r<;>exact q
theorem zns{S:R.St}{M th m pl n c:Nat}{r z:Int}{wv:D}{f:Nat->Int->Int}{ps:List (Nat×Nat)}{Ls:List (List Ly)}(X:Tw S M th m r ps Ls (fun _=>[]))(w:WOk S M wv m pl f)(H:Sd m pl f Ls)(hc:c<=6)(hz:z=(c:Nat))(lk:S.lk=[])(fz:S.frz.length<=M) :
  W (appW (callF prog (n+4)) 1 [.ref th,.int z,wv] S) fun d U=>d=.ref S.len/\Tw U M th m r ps Ls (fun i=>box (za6 f Ls 1 c) ((i:Nat):Int))/\U.get S.len=some (.lst ((za6 f Ls 1 c).map lD))/\Mv (ps.map (·.2)) S U:=by
 refine zoV (F:=c_run) rfl rfl (by omega) ?_;rw[zjk,exS,zaa];have e0:evE (callF prog (n+3)) (.lst .nil) (zau c_run [.ref th,.int z,wv]) S=.ok (.ref S.len) (S.push (.lst [])):=by simp only[evE,evEs,zal];rfl
 rw[e0,W_ok];show W (exS (callF prog (n+3)) (.forS [4] (.rng2 U1 (.bin .Add J1 U1)) rB (.ret J3 .nil)) (Er th z wv S.len none none) (S.push (.lst []))) _;have mP:=Mv.push [] S (.lst []);have el:evL (callF prog (n+3)) (.rng2 U1 (.bin .Add J1 U1)) (Er th z wv S.len none none) (S.push (.lst []))=.ok (cnt 1 c,[]) (S.push (.lst [])):=by generalize hδ:Er th z wv S.len none none=δ;refine W.eq (wL_W _ ?_);subst hδ;left;change⟨by decide,by decide,Int.le_trans (by decide) (show(0:Int)<=z+1 by omega),Int.lt_of_le_of_lt (show z+1<=9 by omega) (by decide)⟩;refine⟨?_,rfl⟩;rw[<-zcT c 1,show(z+1-1).toNat=c by omega];rfl
 generalize hδ:Er th z wv S.len none none=δ at el⊢;refine zaJ el ?_;subst hδ;have lth:=zam X.g;have lp:∀p∈ps,p.1<S.len/\p.2<S.len:=fun p hp=>by
  obtain⟨i,hi⟩:=mem_iff_getElem?.mp hp;have hil:i<Ls.length:=by rw[<-X.l];exact(List.getElem?_eq_some_iff.mp hi).1
  have a1:=X.s i p Ls[i] hi (by simp[hil]);exact⟨zam a1.1,zam a1.2⟩
 have fr:∀x,M<=x->Fr (S.push (.lst [])) x:=fun x hx=>⟨by show S.frz.length<=x;omega,by show S.lk.contains x=false;rw[lk];rfl⟩;have Y:Rn (S.push (.lst [])) M th m S.len pl r wv f ps Ls []:=⟨⟨X.l,zad X.g,fun i p ls e1 e2=>⟨zad (X.s i p ls e1 e2).1,zad (X.s i p ls e1 e2).2⟩,X.n,X.nd⟩,w.mv fun l o _ e=>zad e,za9 _ _,fr _ (by have:=X.n.1;omega),fun p hp=>fr _ (X.n.2 p hp).2,(by show ∀l∈S.lk,_;rw[lk];intro l hl;cases hl),⟨lth,lp⟩⟩;refine W.mono (zfN (n:=n+1) (rr:=z) H c 1 [] _ none none Y (by simp;omega)) fun fl U hU=>?_;obtain⟨⟨a,b,rfl⟩,Z,v⟩:=hU;dsimp only;rw[List.nil_append]at Z;have eU:({U with lk:=(S.push (.lst [])).lk}:R.St)=U:=zdX v.lk;rw[eU];refine wS_W _ ?_;left;exact⟨rfl,Z.x,Z.gl,v.frz,v.lk,by have:=v.len;have e:(S.push (.lst [])).len<=U.len:=this;rw[plen]at e;omega,fun l o hl e=>v.old _ _ (fun hm=>by rcases mem_cons.mp hm with h|h;have:=zam e;omega;exact hl h) (zad e)⟩
noncomputable def ltA(f:Nat->Int->Int)(k:Nat)(l:Ly):Ly:=((l.1.1,l.1.2.1,f k l.1.2.2),l.2)
noncomputable def AlF(f:Nat->Int->Int):Nat->List (List Ly)->List Ly
 |_,[]=>[]|k,ls::Ls=>ls.map (ltA f k)++AlF f (k+1) Ls
theorem zcf(t:Int)(f:Nat->Int->Int):∀(Ls:List (List Ly))(k:Nat),zbo t f k Ls=(AlF f k Ls).filter fun l=>decide (l.1.1=t)
 | [],_=>rfl| ls::Ls,k=>by rw[zbo,AlF,List.filter_append,zcf t f Ls (k+1),List.filter_map];congr 1;unfold atT;have e:((fun l:Ly=>decide (l.1.1=t))∘ltA f k)=fun l=>decide (l.1.1=t):=rfl;rw[e];refine List.map_congr_left fun l hl=>?_;have:=(mem_filter.mp hl).2;simp at this;unfold ltr ltA;rw[this]
theorem ziV{f:Nat->Int->Int}{x:Ly}:∀{Ls:List (List Ly)}{k:Nat},x∈AlF f k Ls->∃(i:Nat) (ls:List Ly) (l:Ly),Ls[i]?=some ls/\l∈ls/\x=ltA f (k+i) l
 | [],_,h=>by cases h| ls::Ls,k,h=>by rw[AlF]at h;rcases mem_append.mp h with h|h;obtain⟨l,hl,rfl⟩:=mem_map.mp h;exact⟨0,ls,l,rfl,hl,rfl⟩;obtain⟨i,ls',l,h1,h2,h3⟩:=ziV h;exact⟨i+1,ls',l,by simpa using h1,h2,by rw[h3,show k+1+i=k+(i+1) by omega]⟩
noncomputable def Inj(f:Nat->Int->Int)(k:Nat)(Ls:List (List Ly)):Prop:=∀(i j:Nat)(ls ls':List Ly),Ls[i]?=some ls->Ls[j]?=some ls'->∀l∈ls,∀l'∈ls',(ltA f (k+i) l).1=(ltA f (k+j) l').1->i=j/\l.1=l'.1
theorem zgs{f:Nat->Int->Int}:∀{Ls:List (List Ly)}{k:Nat},Inj f k Ls->(∀(i:Nat)(ls:List Ly),Ls[i]?=some ls->(ls.map (·.1)).Nodup)->((AlF f k Ls).map (·.1)).Nodup
 | [],_,_,_=>List.nodup_nil| ls::Ls,k,h,nd=>by
  rw[AlF,map_append,nodup_append];refine⟨?_,zgs (k:=k+1) (fun i j a b e1 e2 l hl l' hl' e=>?_) (fun i a e=>nd (i+1) a (by simpa using e)),fun x hx y hy e=>?_⟩;have n0:=nd 0 ls rfl;rw[map_map];unfold List.Nodup at n0⊢;rw[pairwise_map]at n0⊢;refine Pairwise.imp_of_mem (fun {a b} ha hb q e=>?_) n0;exact q (h 0 0 ls ls rfl rfl a ha b hb e).2;have:=h (i+1) (j+1) a b (by simpa using e1) (by simpa using e2) l hl l' hl' (by
   rw[show k+(i+1)=k+1+i by omega,show k+(j+1)=k+1+j by omega];exact e)
  exact⟨by omega,this.2⟩;obtain⟨x',hx',rfl⟩:=mem_map.mp hx;obtain⟨l,hl,rfl⟩:=mem_map.mp hx';obtain⟨y',hy',rfl⟩:=mem_map.mp hy;obtain⟨i,ls',l',h1,h2,rfl⟩:=ziV hy';have:=(h 0 (i+1) ls ls' rfl (by simpa using h1) l hl l' h2 (by rw[show k+(i+1)=k+1+i by omega];exact e)).1;omega
theorem ziW(f:Nat->Int->Int):∀(Ls:List (List Ly))(k:Nat),(AlF f k Ls).length=Ls.flatten.length
 | [],_=>rfl|ls::Ls,k=>by rw[AlF,length_append,length_map,ziW f Ls (k+1),flatten_cons,length_append]
section
variable{f:Nat->Int->Int}{Ls:List (List Ly)}
theorem zpP{x y:Ly}(ht:x.1.1=y.1.1)(e:k0 x=k0 y):x.1=y.1:=by obtain⟨⟨a,b,c⟩,d⟩:=x;obtain⟨⟨a',b',c'⟩,d'⟩:=y;simp only[k0,Prod.mk.injEq,true_and]at e ht⊢;exact⟨ht,e⟩
theorem zdH(nd:((AlF f 0 Ls).map (·.1)).Nodup)(t:Int):((zbo t f 0 Ls).map k0).Nodup:=by rw[zcf];have h:=Pairwise.filter (fun l:Ly=>decide (l.1.1=t)) (show(AlF f 0 Ls).Pairwise (fun x y=>x.1≠y.1) from by unfold List.Nodup at nd;rw[pairwise_map]at nd;exact nd);unfold List.Nodup;rw[pairwise_map];refine Pairwise.imp_of_mem (fun {a b} ha hb q e=>?_) h;have h1:=(mem_filter.mp ha).2;have h2:=(mem_filter.mp hb).2;simp at h1 h2;exact q (zpP (by rw[h1,h2]) e)
theorem zdY(nd:((AlF f 0 Ls).map (·.1)).Nodup){x:Ly}:∀{c t:Nat},x∈za6 f Ls t c->x∈AlF f 0 Ls/\(t:Int)<=x.1.1/\x.1.1<(t:Int)+c
 |0,_,h=>by cases h| c+1,t,h=>by rw[za6]at h;rcases mem_append.mp h with h|h;have h:=(zcz (zdH nd _)).mp h;rw[zcf]at h;have h2:=mem_filter.mp h;have h3:=h2.2;simp at h3;exact⟨h2.1,by omega,by omega⟩;have:=zdY nd h;exact⟨this.1,by omega,by omega⟩
theorem zpN{x y:Ly}(ht:x.1.1=y.1.1)(h:Lt3 (k0 x) (k0 y)):Lt3 x.1 y.1:=by unfold Lt3 k0 at h;unfold Lt3;simp at h;exact .inr ⟨ht,h⟩
theorem zf9(nd:((AlF f 0 Ls).map (·.1)).Nodup):∀(c t:Nat),(za6 f Ls t c).Pairwise fun x y=>Lt3 x.1 y.1
 |0,_=>Pairwise.nil| c+1,t=>by rw[za6,List.pairwise_append];have nt:=zdH nd ((t:Nat):Int);refine⟨Pairwise.imp_of_mem (fun {a b} ha hb q=>zpN ?_ q) (zla nt),zf9 nd c (t+1),fun x hx y hy=>?_⟩;rw[zeq Ls 0 a ((zcz nt).mp ha),zeq Ls 0 b ((zcz nt).mp hb)];have h1:=zeq Ls 0 x ((zcz nt).mp hx);have h2:=zdY nd hy;exact .inl (by rw[h1];omega)
theorem ziL{L:List Ly}{a b:Int}(h:a<=b):(L.filter fun l=>decide (l.1.1=a)).length+(L.filter fun l=>decide (a+1<=l.1.1/\l.1.1<=b)).length=(L.filter fun l=>decide (a<=l.1.1/\l.1.1<=b)).length:=by induction L with|nil=>rfl| cons x L ih=>simp only[List.filter_cons];by_cases c1:x.1.1=a;rw[if_pos (by simpa using c1),if_neg (by simp;omega),if_pos (by simp;omega),length_cons,length_cons];omega;rw[if_neg (by simpa using c1)];by_cases c2:a+1<=x.1.1/\x.1.1<=b;rw[if_pos (by simpa using c2),if_pos (by simp;omega),length_cons,length_cons];omega;rw[if_neg (by simpa using c2),if_neg (by simp;omega)];exact ih
theorem zdZ(nd:((AlF f 0 Ls).map (·.1)).Nodup):∀(c t:Nat),(za6 f Ls t c).length=((AlF f 0 Ls).filter fun l=>decide ((t:Int)<=l.1.1/\l.1.1<=(t:Int)+c-1)).length
 |0,t=>by rw[za6,length_nil];symm;rw[List.length_eq_zero_iff,List.filter_eq_nil_iff];intro l _;simp;omega| c+1,t=>by rw[za6,length_append,zff (zdH nd _),zdZ nd c (t+1),zcf,<-ziL (a:=(t:Int)) (by omega)];congr 3;funext l;exact decide_eq_decide.mpr ⟨fun h=>⟨by omega,by omega⟩,fun h=>⟨by omega,by omega⟩⟩
end
theorem zmf{p p':List Int}{a b:Int}(h:p++[a]=p'++[b]):a=b:=by have:=congrArg List.getLast? h;simpa using this
noncomputable def cpZ(x:Int)(m pl k:Nat)(o:Int):Int:=if m<pl/\¬o=(k:Int)%m/\ze0 x ((k:Int)%m) o=true then 1-(k:Int)/m else(k:Int)/m
theorem zmL(x:Int)(m pl k:Nat)(o:Int):wrZ x m pl k o=o+m*cpZ x m pl k o:=rfl
theorem kdiv{m k:Nat}(m2:2<=m)(h:k<2*m):((k:Int)/m=0/\(k:Int)%m=k)\/((k:Int)/m=1/\(k:Int)%m=k-m):=by
 have e:=Int.emod_add_mul_ediv (k:Int) m;by_cases c:k<m;refine Or.inl ?_;have:(k:Int)/m=0:=Int.ediv_eq_zero_of_lt (by omega) (by omega);rw[this,Int.mul_zero]at e;exact⟨this,by omega⟩;refine Or.inr ?_;have h1:(k:Int)/m=1:=by
  have:(k:Int)=(k-m:Int)+1*m:=by omega
  rw[this,Int.add_mul_ediv_right _ _ (by omega),Int.ediv_eq_zero_of_lt (by omega) (by omega)];rfl
 rw[h1,Int.mul_one]at e;exact⟨h1,by omega⟩
theorem zoG{x:Int}{m pl k:Nat}{o:Int}(m2:2<=m)(h:k<2*m):cpZ x m pl k o=0\/cpZ x m pl k o=1:=by have:=kdiv m2 h;unfold cpZ;split<;>omega
theorem two_eq{m:Nat}{o o' c c':Int}(h0:0<=o)(h1:o<m)(h2:0<=o')(h3:o'<m)(c1:c=0\/c=1)(c2:c'=0\/c'=1)(e:o+m*c=o'+m*c'):o=o'/\c=c':=by rcases c1 with rfl|rfl<;>rcases c2 with rfl|rfl<;>simp at e<;>constructor<;>omega
theorem zor{x:Int}{m pl:Nat}{Ls:List (List Ly)}(m2:2<=m)(hp:pl<=2*m)(ll:Ls.length=pl)(gd:∀(k:Nat)(ls:List Ly),Ls[k]?=some ls->∀l∈ls,GL m ((k:Int)%m) l):Inj (wrZ x m pl) 0 Ls:=by
 intro i j ls ls' e1 e2 l hl l' hl' e;have hi:i<2*m:=by have:=(List.getElem?_eq_some_iff.mp e1).1;omega
 have hj:j<2*m:=by have:=(List.getElem?_eq_some_iff.mp e2).1;omega
 have g1:=gd i ls e1 l hl;have g2:=gd j ls' e2 l' hl';rw[zero_add,zero_add]at e;obtain⟨⟨t,p,o⟩,w⟩:=l;obtain⟨⟨t',p',o'⟩,w'⟩:=l';simp only[ltA,Prod.mk.injEq]at e;obtain⟨rfl,rfl,e⟩:=e;obtain⟨pa,ha⟩:=g1.p;obtain⟨pb,hb⟩:=g2.p;have eq:=zmf (ha.symm.trans hb);rw[zmL,zmL]at e;obtain⟨rfl,ec⟩:=two_eq g1.o0 g1.o1 g2.o0 g2.o1 (zoG m2 hi) (zoG m2 hj) e;refine⟨?_,rfl⟩;have k1:=kdiv m2 hi;have k2:=kdiv m2 hj;unfold cpZ at ec;rw[eq]at ec;split at ec<;>omega
theorem zgt{f g:Nat->Int->Int}:∀(Ls:List (List Ly))(k:Nat),(∀(i:Nat)(ls:List Ly),Ls[i]?=some ls->∀l∈ls,f (k+i) l.1.2.2=g (k+i) l.1.2.2)->AlF f k Ls=AlF g k Ls
 | [],_,_=>rfl| ls::Ls,k,h=>by
  have ih:=zgt (f:=f) (g:=g) Ls (k+1) fun i a e l hl=>by have:=h (i+1) a (by simpa using e) l hl;rw[show k+1+i=k+(i+1) by omega];exact this
  rw[AlF,AlF,ih];congr 1;refine List.map_congr_left fun l hl=>?_;have:=h 0 ls rfl l hl;unfold ltA;rw[Nat.add_zero]at this;rw[this]
theorem zdj{f g:Nat->Int->Int}{Ls:List (List Ly)}(h:AlF f 0 Ls=AlF g 0 Ls):∀(c t:Nat),za6 f Ls t c=za6 g Ls t c
 |0,_=>rfl|c+1,t=>by rw[za6,za6,zcf,zcf,h,zdj h c (t+1)]
theorem zo3{x:Int}{m k:Nat}{o:Int}(m2:2<=m)(h:k<m):wrZ x m m k o=o:=by unfold wrZ;rw[if_neg (by omega),Int.ediv_eq_zero_of_lt (by omega) (by omega),Int.mul_zero,Int.add_zero]
noncomputable def kvL(acc:List Ly):List (K3×D):=acc.map fun l=>(l.1,oD l.2)
theorem zgc(acc:List Ly):(kvL acc).map (·.1)=acc.map (·.1):=by unfold kvL;rw[map_map];rfl
theorem zlG{acc:List Ly}{l:Ly}(h:l.1∉acc.map (·.1)):putQ (kvL acc) l.1 (oD l.2)=kvL (acc++[l]):=by unfold putQ;rw[zgc,if_neg h];unfold kvL;rw[map_append];rfl
theorem zkY{acc:List Ly}{l:Ly}(nd:(acc.map (·.1)).Nodup)(h:l∈acc):valQ (kvL acc) l.1=some (oD l.2):=by
 induction acc with
 |nil=>cases h
 |cons x acc ih=>rw[map_cons,nodup_cons]at nd;unfold valQ kvL;rw[map_cons];rcases mem_cons.mp h with h|h;subst h;rw[List.find?_cons_of_pos (by simp)];rfl;have ne:¬x.1=l.1:=fun z=>nd.1 (z▸List.mem_map_of_mem h);rw[List.find?_cons_of_neg (by simpa using ne)];exact ih nd.2 h
theorem put3{S:R.St}{l:Nat}{kvs:List (K3×D)}(h:S.get l=some (.d3 kvs))(hf:Fr S l)(hl:kvs.length<=1000)(k:K3)(v:D):∃T,dPut S (.ref l) (.tup [.int k.1,pD k.2.1,.int k.2.2]) v=some T/\Mv [l] S T/\T.get l=some (.d3 (putQ kvs k v)):=by obtain⟨U,hU,mU,gU⟩:=zbr (u:=.d3 (putQ kvs k v)) hf h;refine⟨U,?_,mU,gU⟩;unfold dPut;dsimp only;rw[h];dsimp only;rw[zcm,bind_some,if_pos (by omega),hU]
noncomputable abbrev Eq_(x:D)(L wl:Nat)(rd:Int)(dd:Nat)(a b c d e f g:Option D):Ev:=[some x,some (.ref L),some (.ref wl),some (.int rd),some (.ref dd),a,b,c,d,e,f,g]
noncomputable def dI:CS:=.ifS (.cmp .LtE J6 J3) (.setIx J4 (.tup #[J6,J7,.ix (.ix J2 J5) J8]) J9 .nil) .nil .nil
theorem zmv{T:R.St}{N n m pl k L wl dd:Nat}{x:D}{rd:Int}{f:Nat->Int->Int}{acc:List Ly}{l:Ly}{u v:Option D}(w:WOk T N (.ref wl) m pl f)(hk:k<pl)(o0:0<=l.1.2.2)(o1:l.1.2.2<m)(g:T.get dd=some (.d3 (kvL acc)))(hf:Fr T dd)(ha:acc.length<=1000)(nd:l.1.1<=rd->(ltA f k l).1∉acc.map (·.1)) :
  W (exS (callF prog n) dI (Eq_ x L wl rd dd (some (.int k)) (some (.int l.1.1)) (some (pD l.1.2.1)) (some (.int l.1.2.2)) (some (oD l.2)) u v) T) fun fl U=>fl=.nx (Eq_ x L wl rd dd (some (.int k)) (some (.int l.1.1)) (some (pD l.1.2.1)) (some (.int l.1.2.2)) (some (oD l.2)) u v)/\U.get dd=some (.d3 (kvL (acc++if l.1.1<=rd then [ltA f k l] else [])))/\Mv [dd] T U:=by
 rcases w with⟨h,_⟩|⟨wl',as,h1,h2,h3,h4,h5⟩;cases h;cases h1;obtain⟨a,ha'⟩:∃a,as[k]?=some a:=⟨_,getElem?_eq_getElem (by omega)⟩;refine wS_W _ ?_;left;refine zgw (fun c=>?_) (fun c=>?_);rw[if_pos c];obtain⟨U,hU,mU,gU⟩:=put3 g hf (by unfold kvL;rw[length_map];exact ha) (ltA f k l).1 (oD l.2);rw[show oD l.2=oD (ltA f k l).2 from rfl,zlG (nd c)]at gU;left;exists h2;left;exists za7 (x:=D.ref a) (by rw[getElem?_map,ha'];rfl);left;exists(h5 k a ha').1;left;exists zif (f k) o0 o1;left;change show 3<=16777216 by decide
 left;exists show dPut T (.ref dd) (.tup [.int l.1.1,pD l.1.2.1,.int (f k l.1.2.2)]) (oD l.2)=some U from hU;left;exact⟨rfl,gU,mU⟩;rw[if_neg c,append_nil];left;exact⟨rfl,g,Mv.refl _ _⟩
noncomputable def upT(rd:Int)(ls:List Ly):List Ly:=ls.filter fun l=>decide (l.1.1<=rd)
theorem zkJ{N n m pl k L wl dd:Nat}{x:D}{rd:Int}{f:Nat->Int->Int}{u v:Option D}(hk:k<pl)(hN:N<=dd):∀(ls acc:List Ly)(T:R.St)(b c d e:Option D),WOk T N (.ref wl) m pl f->(∀l∈ls,0<=l.1.2.2/\l.1.2.2<m)->T.get dd=some (.d3 (kvL acc))->Fr T dd->acc.length+ls.length<=1000->((acc++(upT rd ls).map (ltA f k)).map (·.1)).Nodup->
  W (zaw [6,7,8,9] (exS (callF prog n) dI) (ls.map lD) (Eq_ x L wl rd dd (some (.int k)) b c d e u v) T) fun fl U=>(∃b c d e,fl=.nx (Eq_ x L wl rd dd (some (.int k)) b c d e u v))/\U.get dd=some (.d3 (kvL (acc++(upT rd ls).map (ltA f k))))/\Mv [dd] T U
 | [],acc,T,b,c,d,e,_,_,g,_,_,_=>by show W (Out.ok (Fl.nx _) T) _;rw[W_ok];exact⟨⟨_,_,_,_,rfl⟩,by simpa[upT]using g,Mv.refl _ _⟩| l::ls,acc,T,b,c,d,e,w,ho,g,hf,hl,nd=>by
  rw[length_cons]at hl;have hu:(upT rd (l::ls)).map (ltA f k)=(if l.1.1<=rd then [ltA f k l] else [])++(upT rd ls).map (ltA f k):=by unfold upT;rw[List.filter_cons];by_cases c:l.1.1<=rd<;>simp[c]
  rw[hu,<-append_assoc]at nd;show W (Out.bind (exS (callF prog n) dI (Eq_ x L wl rd dd (some (.int k)) (some (.int l.1.1)) (some (pD l.1.2.1)) (some (.int l.1.2.2)) (some (oD l.2)) u v) T) _) _;rw[zaa];have h1:=ho l mem_cons_self;refine(zmv (n:=n) (x:=x) (L:=L) (rd:=rd) (u:=u) (v:=v) w hk h1.1 h1.2 g hf (by omega) (fun c hm=>?_)).mono fun fl U hU=>?_;rw[if_pos c,map_append,map_append]at nd;have n2:=(nodup_append.mp nd).1;exact(nodup_append.mp n2).2.2 _ hm _ (by simp) rfl;obtain⟨rfl,gU,v1⟩:=hU;have sl:(if l.1.1<=rd then [ltA f k l] else []).length<=1:=by split<;>simp
  refine(zkJ hk hN ls (acc++if l.1.1<=rd then [ltA f k l] else []) U _ _ _ _ (w.mv fun y o hy e=>v1.old _ _ (by simp;omega) e) (fun y hy=>ho y (mem_cons_of_mem _ hy)) gU (hf.mv v1) (by rw[length_append];omega) nd).mono fun fl V hV=>?_;obtain⟨h2,g2,v2⟩:=hV;exact⟨h2,by rw[g2,hu,append_assoc],v1.trans v2⟩
theorem zmR(rd:Int)(f:Nat->Int->Int)(ls:List Ly)(Ks:List (List Ly))(k:Nat):upT rd (AlF f k (ls::Ks))=(upT rd ls).map (ltA f k)++upT rd (AlF f (k+1) Ks):=by unfold upT;rw[AlF,List.filter_append,List.filter_map];rfl
@[irreducible]noncomputable def dO:CS:=.forS [6,7,8,9] (.val (.ix J1 J5)) dI .nil
theorem zmu{T:R.St}{N n m pl k L wl dd b:Nat}{x:D}{rd:Int}{f:Nat->Int->Int}{acc ls:List Ly}{p q r s u v:Option D}(w:WOk T N (.ref wl) m pl f)(hN:N<=dd)(hk:k<pl)(gL:T.get L=some (.lst (rfs b pl)))(gk:T.get (b+k)=some (.lst (ls.map lD)))(hb:b+k≠dd)(ho:∀l∈ls,0<=l.1.2.2/\l.1.2.2<m)(g:T.get dd=some (.d3 (kvL acc)))(hf:Fr T dd)(hl:acc.length+ls.length<=1000)(nd:((acc++(upT rd ls).map (ltA f k)).map (·.1)).Nodup) :
  W (exS (callF prog n) dO (Eq_ x L wl rd dd (some (.int k)) p q r s u v) T) fun fl U=>(∃b c d e,fl=.nx (Eq_ x L wl rd dd (some (.int k)) b c d e u v))/\U.get dd=some (.d3 (kvL (acc++(upT rd ls).map (ltA f k))))/\Mv [dd] T U:=by
 unfold dO;have el:evL (callF prog n) (.val (.ix J1 J5)) (Eq_ x L wl rd dd (some (.int k)) p q r s u v) T=.ok (ls.map lD,[b+k]) T:=by generalize hδ:Eq_ x L wl rd dd (some (.int k)) p q r s u v=δ;refine W.eq (wL_W _ ?_);subst hδ;left;exists gL;left;exists za7 (zfQ (b:=b) hk);left;exists gk;left;exact⟨rfl,rfl⟩
 generalize hδ:Eq_ x L wl rd dd (some (.int k)) p q r s u v=δ at el⊢;refine zaJ el ?_;subst hδ;have fr:Fr ({T with lk:=[b+k]++T.lk}:R.St) dd:=⟨hf.f,by
  show([b+k]++T.lk).contains dd=false;have:=hf.k;rw[List.contains_eq_any_beq]at *;simp at *;exact⟨fun z=>hb z.symm,this⟩⟩
 refine W.mono (zkJ (n:=n) (x:=x) (L:=L) (rd:=rd) (f:=f) (u:=u) (v:=v) hk hN ls acc _ p q r s (w.mv fun y o hy e=>e) ho g fr hl nd) fun fl U hU=>?_;obtain⟨⟨b',c',d',e',rfl⟩,gU,v1⟩:=hU;dsimp only;rw[exS,W_ok];exact⟨⟨_,_,_,_,rfl⟩,gU,v1.lock⟩
theorem ziC{N n m pl L wl dd b:Nat}{x:D}{rd:Int}{f:Nat->Int->Int}{u v:Option D}(hN:N<=dd):∀(Ks:List (List Ly))(k:Nat)(acc:List Ly)(T:R.St)(a p q r s:Option D),k+Ks.length=pl->WOk T N (.ref wl) m pl f->T.get L=some (.lst (rfs b pl))->L≠dd->
  (∀(i:Nat)(ls:List Ly),Ks[i]?=some ls->T.get (b+(k+i))=some (.lst (ls.map lD))/\b+(k+i)≠dd/\∀l∈ls,0<=l.1.2.2/\l.1.2.2<m)->T.get dd=some (.d3 (kvL acc))->Fr T dd->acc.length+Ks.flatten.length<=100->((acc++upT rd (AlF f k Ks)).map (·.1)).Nodup->
  W (zaw [5] (exS (callF prog n) dO) (cnt k Ks.length) (Eq_ x L wl rd dd a p q r s u v) T) fun fl U=>(∃a p q r s,fl=.nx (Eq_ x L wl rd dd a p q r s u v))/\U.get dd=some (.d3 (kvL (acc++upT rd (AlF f k Ks))))/\Mv [dd] T U
 | [],k,acc,T,a,p,q,r,s,_,_,_,_,_,g,_,_,_=>by show W (Out.ok (Fl.nx _) T) _;rw[W_ok];exact⟨⟨_,_,_,_,_,rfl⟩,by simpa[upT,AlF]using g,Mv.refl _ _⟩| ls::Ks,k,acc,T,a,p,q,r,s,hp,w,gL,nL,h1,g,hf,hl,nd=>by rw[length_cons]at hp;rw[flatten_cons,length_append]at hl;rw[zmR,<-append_assoc]at nd;obtain⟨gk,hb,ho⟩:=h1 0 ls rfl;rw[Nat.add_zero]at gk hb;have ul:(upT rd ls).length<=ls.length:=length_filter_le _ _;have key:=zmu (n:=n) (x:=x) (rd:=rd) (p:=p) (q:=q) (r:=r) (s:=s) (u:=u) (v:=v) w hN (by omega) gL gk hb ho g hf (by omega) (by rw[map_append]at nd;exact(nodup_append.mp nd).1);rw[length_cons];show W (Out.bind (exS (callF prog n) dO (Eq_ x L wl rd dd (some (.int (k:Nat))) p q r s u v) T) _) _;rw[zaa];refine key.mono fun fl U hU=>?_;obtain⟨⟨p',q',r',s',rfl⟩,gU,v1⟩:=hU;have o1:∀y o,y≠dd->T.get y=some o->U.get y=some o:=fun y o hy e=>v1.old _ _ (by simpa using hy) e;refine(ziC hN Ks (k+1) (acc++(upT rd ls).map (ltA f k)) U _ _ _ _ _ (by omega) (w.mv fun y o hy e=>o1 _ _ (by omega) e) (o1 _ _ nL gL) nL (fun i ls' e=>?_) gU (hf.mv v1) (by rw[length_append,length_map];omega) nd).mono fun fl V hV=>?_;obtain⟨a1,a2,a3⟩:=h1 (i+1) ls' (by simpa using e);rw[show k+1+i=k+(i+1) by omega];exact⟨o1 _ _ a2 a1,a2,a3⟩;obtain⟨h2,g2,v2⟩:=hV;exact⟨h2,by rw[g2,zmR,append_assoc],v1.trans v2⟩
theorem znq{n:Nat}{S:R.St}{o:Option Int}:app (callF prog (n+1)) 12 [oD o,oD o] S=.ok (.bl true) S:=by refine zgr (F:=zdu) rfl rfl ?_;cases o with| none=>left;exact zar rfl ⟨rfl,rfl⟩| some i=>left;exists(show tyOf S.enter (.int i)=some "int" from rfl);left;exists(show tyOf S.enter (.int i)=some "int" from rfl);left;exact zar rfl ⟨by simp,rfl⟩
theorem in3{S:R.St}{l:Nat}{kvs:List (K3×D)}(h:S.get l=some (.d3 kvs))(k:K3)(hk:k∈kvs.map (·.1)):cmpO S .NotIn (.tup [.int k.1,pD k.2.1,.int k.2.2]) (.ref l)=some false:=by show(zcQ S _ (.ref l)).map (!·)=_;unfold zcQ;dsimp only;rw[h];dsimp only;rw[zcm,Option.map_some,decide_eq_true hk];rfl
theorem get3{S:R.St}{l:Nat}{kvs:List (K3×D)}{k:K3}{v:D}(h:S.get l=some (.d3 kvs))(hk:valQ kvs k=some v):zgZ S (.ref l) (.tup [.int k.1,pD k.2.1,.int k.2.2])=some v:=by unfold zgZ;dsimp only;rw[h];dsimp only;rw[zcm,bind_some,hk]
theorem le3{S:R.St}{a k:K3}(h:Lt3 a k):cmpO S .LtE (.tup [.int k.1,pD k.2.1,.int k.2.2]) (.tup [.int a.1,pD a.2.1,.int a.2.2])=some false:=by show(key3 _).bind (fun x=>(key3 _).map fun y=>!decide (Lt3 y x))=_;rw[zcm,zcm,bind_some,Option.map_some,decide_eq_true h];rfl
noncomputable def slE:CE:=.sl J11 false true (.con .non) U3
noncomputable def lC1:CE:=.or (.nt (.tst (.bi (.isin "tuple") #[J11]))) (.or (.cmp .NotEq (.bi .len #[J11]) U4) (.nt (.tst (.bi (.isin "tuple") #[.ix J11 U1]))))
noncomputable def lC2:CE:=.or (.cmp .NotIn slE J4) (.or (.nt (.tst (.call 12 0 #[.ix J11 U3,.dix3 J4 slE]))) (.cmp .LtE slE J10))
@[irreducible]noncomputable def lB2:CS:=.ifS lC1 (.ret (.con (D.bl false)) .nil) .nil (.ifS lC2 (.ret (.con (D.bl false)) .nil) .nil (.asg 10 slE .nil))
theorem zeK:c_law_letters.body=.asg 4 .dnew3 (.forS [5] (.rng1 (.bi .len #[J1])) dO (.ifS (.or (.nt (.tst (.bi (.isin "list") #[J0]))) (.cmp .NotEq (.bi .len #[J0]) (.bi .len #[J4]))) (.ret (.con (D.bl false)) .nil) .nil (.asg 10 (.tup #[U0,.tup .nil,U0]) (.forS [11] (.val J0) lB2 (.ret (.con (D.bl true)) .nil))))):=by unfold dO lB2;rfl
theorem zjP{T:R.St}{n L wl dd:Nat}{x:D}{rd:Int}{acc:List Ly}{l:Ly}{a:K3}{v5 v6 v7 v8 v9:Option D}(g:T.get dd=some (.d3 (kvL acc)))(nd:(acc.map (·.1)).Nodup)(hl:l∈acc)(ha:Lt3 a l.1) :
  W (exS (callF prog (n+1)) lB2 (Eq_ x L wl rd dd v5 v6 v7 v8 v9 (some (kD a)) (some (lD l))) T) fun fl U=>fl=.nx (Eq_ x L wl rd dd v5 v6 v7 v8 v9 (some (kD l.1)) (some (lD l)))/\U=T:=by
 have hm:l.1∈(kvL acc).map (·.1):=by rw[zgc];exact List.mem_map_of_mem hl
 unfold lB2;refine wS_W _ ?_;unfold lD kD;left;exists(show tyOf T (.tup [D.int l.1.1,pD l.1.2.1,.int l.1.2.2,oD l.2])=some "tuple" from rfl);left;exists(show atI [D.int l.1.1,pD l.1.2.1,.int l.1.2.2,oD l.2] 1=some (pD l.1.2.1) from rfl);left;exists(show tyOf T (pD l.1.2.1)=some "tuple" from rfl);left;rw[cut3];exists in3 g l.1 hm;left;exists(show atI [D.int l.1.1,pD l.1.2.1,.int l.1.2.2,oD l.2] 3=some (oD l.2) from rfl);left;rw[cut3];exists get3 g (zkY nd hl);left;specialize znq (n:=n) (S:=T) (o:=l.2);left;rw[cut3];exists le3 ha;left;rw[cut3];left;exact⟨rfl,rfl⟩
theorem zga{n L wl dd:Nat}{x:D}{rd:Int}{acc:List Ly}{v5 v6 v7 v8 v9:Option D}{T:R.St}(g:T.get dd=some (.d3 (kvL acc)))(nd:(acc.map (·.1)).Nodup):∀(F:List Ly)(a:K3)(v:Option D),(∀l∈F,Lt3 a l.1/\l∈acc)->(F.Pairwise fun x y=>Lt3 x.1 y.1)->
  W (zaw [11] (exS (callF prog (n+1)) lB2) (F.map lD) (Eq_ x L wl rd dd v5 v6 v7 v8 v9 (some (kD a)) v) T) fun fl U=>(∃a v,fl=.nx (Eq_ x L wl rd dd v5 v6 v7 v8 v9 (some (kD a)) v))/\U=T
 | [],a,v,_,_=>by show W (Out.ok (Fl.nx _) T) _;rw[W_ok];exact⟨⟨_,_,rfl⟩,rfl⟩| l::F,a,v,h,hp=>by rw[pairwise_cons]at hp;have h1:=h l mem_cons_self;have key:=zjP (n:=n) (x:=x) (L:=L) (wl:=wl) (rd:=rd) (v5:=v5) (v6:=v6) (v7:=v7) (v8:=v8) (v9:=v9) g nd h1.2 h1.1;show W (Out.bind (exS (callF prog (n+1)) lB2 (Eq_ x L wl rd dd v5 v6 v7 v8 v9 (some (kD a)) (some (lD l))) T) _) _;rw[zaa];refine key.mono fun fl U hU=>?_;obtain⟨rfl,rfl⟩:=hU;exact zga g nd F l.1 _ (fun y hy=>⟨hp.1 y hy,(h y (mem_cons_of_mem _ hy)).2⟩) hp.2
theorem zmh(acc:List Ly):(kvL acc).length=acc.length:=by unfold kvL;rw[length_map]
theorem zhl{S:R.St}{n fo L b wl pl m:Nat}{rd:Int}{f:Nat->Int->Int}{Ls:List (List Ly)}{F:List Ly}(gF:S.get fo=some (.lst (F.map lD)))(X:Dl S L b pl m Ls)(w:WOk S S.len (.ref wl) m pl f)(p14:pl<=14)(nd:((AlF f 0 Ls).map (·.1)).Nodup)(hl:F.length=(upT rd (AlF f 0 Ls)).length)(hF:∀l∈F,Lt3 (0,[],0) l.1/\l∈upT rd (AlF f 0 Ls))(ha:F.Pairwise fun x y=>Lt3 x.1 y.1) :
  app (callF prog (n+2)) 13 [.ref fo,.ref L,.ref wl,.int rd] S=.ok (.bl true) S:=by
 have ndR:((upT rd (AlF f 0 Ls)).map (·.1)).Nodup:=by unfold List.Nodup at nd⊢;rw[pairwise_map]at nd⊢;exact nd.filter _
 have alL:=ziW f Ls 0;have ul:(upT rd (AlF f 0 Ls)).length<=(AlF f 0 Ls).length:=length_filter_le _ _;have xz:=X.sz;refine W.eq ?_;rw[ze7 (F:=c_law_letters) rfl rfl,zaa,zeK];rw[exS,zaa];have e4:evE (callF prog (n+1)) .dnew3 (zau c_law_letters [.ref fo,.ref L,.ref wl,.int rd]) S.enter=.ok (.ref S.enter.len) (S.enter.push (.d3 [])):=by simp only[evE]
 rw[e4,W_ok];have lS:S.enter.len=S.len:=R.enter_len S;have up:∀l o,S.get l=some o->(S.enter.push (.d3 [])).get l=some o:=fun l o e=>zad (by rw[zaC];exact e);generalize hdd:S.enter.len=dd at *;show W (exS (callF prog (n+1)) (.forS [5] (.rng1 (.bi .len #[J1])) dO (.ifS (.or (.nt (.tst (.bi (.isin "list") #[J0]))) (.cmp .NotEq (.bi .len #[J0]) (.bi .len #[J4]))) (.ret (.con (D.bl false)) .nil) .nil (.asg 10 (.tup #[U0,.tup .nil,U0]) (.forS [11] (.val J0) lB2 (.ret (.con (D.bl true)) .nil))))) (Eq_ (.ref fo) L wl rd dd none none none none none none none) (S.enter.push (.d3 []))) _;have rl:(rfs b pl).length=pl:=by simp[rfs]
 have el:evL (callF prog (n+1)) (.rng1 (.bi .len #[J1])) (Eq_ (.ref fo) L wl rd dd none none none none none none none) (S.enter.push (.d3 []))=.ok (cnt 0 Ls.length,[]) (S.enter.push (.d3 [])):=by
  generalize hδ:Eq_ (.ref fo) L wl rd dd none none none none none none none=δ;refine W.eq (wL_W _ ?_);subst hδ;left;exists up _ _ X.gl;left;rw[rl];change by omega
  left;exact⟨by rw[zg1,X.ll],rfl⟩
 generalize hδ:Eq_ (.ref fo) L wl rd dd none none none none none none none=δ at el⊢;refine zaJ el ?_;subst hδ;have lL:=zam X.gl;have lF:=zam gF;have fr:Fr (S.enter.push (.d3 [])) dd:=⟨by show S.enter.frz.length<=_;rw[<-hdd];unfold St.len;omega,rfl⟩;have gd:(S.enter.push (.d3 [])).get dd=some (.d3 (kvL [])):=by rw[<-hdd];exact zah _ _
 refine W.mono (ziC (n:=n+1) (N:=S.len) (pl:=pl) (x:=.ref fo) (rd:=rd) (f:=f) (u:=none) (v:=none) (by omega) Ls 0 [] (S.enter.push (.d3 [])) none none none none none (by rw[X.ll];omega) (w.mv fun l o _ e=>up l o e) (up _ _ X.gl) (by omega) (fun i ls e=>?_) gd fr (by rw[length_nil];omega) (by rw[List.nil_append];exact ndR)) fun fl U hU=>?_;rw[zero_add];have hg:=X.g i ls e;have:=zam hg;exact⟨up _ _ hg,by omega,fun l hl'=>⟨(X.gd i ls e l hl').o0,(X.gd i ls e l hl').o1⟩⟩;obtain⟨⟨a,p,q,r,s,rfl⟩,gU,v⟩:=hU;rw[List.nil_append]at gU;dsimp only;have eU:({U with lk:=(S.enter.push (.d3 [])).lk}:R.St)=U:=zdX v.lk;rw[eU];have gF':U.get fo=some (.lst (F.map lD)):=v.old _ _ (by simp;omega) (up _ _ gF);refine zcx (W.of (d:=false) (S:=U) ?_ ⟨rfl,?_⟩);generalize hδ:Eq_ (.ref fo) L wl rd dd a p q r s none none=δ;refine W.eq (wT_W _ ?_);subst hδ;left;exists(show tyOf U (.ref fo)=some "list" by unfold tyOf;dsimp only;rw[gF']);left;exists gF';left;exists gU;left;refine⟨?_,rfl⟩;rw[length_map,zmh,hl];simp;have e10:evE (callF prog (n+1)) (.tup #[U0,.tup .nil,U0]) (Eq_ (.ref fo) L wl rd dd a p q r s none none) U=.ok (kD (0,[],0)) U:=by
  generalize hδ:Eq_ (.ref fo) L wl rd dd a p q r s none none=δ;refine W.eq (wE_W _ ?_);left;change show 0<=16777216 by decide
  left;change show 3<=16777216 by decide
  left;exact⟨rfl,rfl⟩
 rw[exS,e10,zal];show W (exS (callF prog (n+1)) (.forS [11] (.val J0) lB2 (.ret (.con (D.bl true)) .nil)) (Eq_ (.ref fo) L wl rd dd a p q r s (some (kD (0,[],0))) none) U) _;have e2:evL (callF prog (n+1)) (.val J0) (Eq_ (.ref fo) L wl rd dd a p q r s (some (kD (0,[],0))) none) U=.ok (F.map lD,[fo]) U:=by generalize hδ:Eq_ (.ref fo) L wl rd dd a p q r s (some (kD (0,[],0))) none=δ;refine W.eq (wL_W _ ?_);subst hδ;left;exists gF';left;exact⟨rfl,rfl⟩
 generalize hδ:Eq_ (.ref fo) L wl rd dd a p q r s (some (kD (0,[],0))) none=δ at e2⊢;refine zaJ e2 ?_;subst hδ;refine W.mono (zga (n:=n) (T:={U with lk:=[fo]++U.lk}) gU ndR F (0,[],0) none hF ha) fun fl V hV=>?_;obtain⟨⟨a',v',rfl⟩,rfl⟩:=hV;dsimp only;refine W.mono (wS_W (.ret (.con (D.bl true)) .nil) (Q:=fun r T=>wFin S r T fun a T'=>a=.bl true/\T'=S) ?_) fun r T q=>by unfold wFin at q;exact q
 left;exact zar rfl ⟨rfl,rfl⟩
theorem t_to{cf:CF}{T:R.St}{l:Ly}{t:Int}{rest:Ev}{j:Nat}(h:rest[j]?=some (some (.int t))):evT cf (.cmp .Eq (.ix J0 U2) (.loc (j+1))) (some (lD l)::rest) T=.ok (decide (l.1.2.2=t)) T:=by
 refine W.eq (wT_W _ ?_);have e:((some (lD l)::rest)[j+1]?).join=some (.int t):=by rw[List.getElem?_cons_succ,h];rfl
 unfold lD;show wE cf (.ix J0 U2) _ T _;left;exists show atI [D.int l.1.1,pD l.1.2.1,.int l.1.2.2,oD l.2] 2=some (.int l.1.2.2) from rfl;unfold lD at e;refine zkj e ?_;left;exact⟨rfl,rfl⟩
theorem e_hd{cf:CF}{T:R.St}{l:Ly}{rest:Ev}:evE cf (.tup #[.ix J0 U0,.ix J0 U1,.ix J0 U3]) (some (lD l)::rest) T=.ok (hdD l) T:=by
 refine W.eq (wE_W _ ?_);unfold lD;left;exists(show atI [D.int l.1.1,pD l.1.2.1,.int l.1.2.2,oD l.2] 0=some (.int l.1.1) from rfl);left;exists(show atI [D.int l.1.1,pD l.1.2.1,.int l.1.2.2,oD l.2] 1=some (pD l.1.2.1) from rfl);left;exists(show atI [D.int l.1.1,pD l.1.2.1,.int l.1.2.2,oD l.2] 3=some (oD l.2) from rfl);left;change show 3<=16777216 by decide
 left;exact⟨rfl,rfl⟩
theorem zka(M:Nat)(ls:List Ly):flats M (ls.map hdD)=true:=by rw[zaD];intro d hd;obtain⟨l,_,rfl⟩:=mem_map.mp hd;unfold hdD;rw[zgg,zaD];intro d hd;simp only[mem_cons,not_mem_nil,or_false]at hd;rcases hd with rfl|rfl|rfl;rfl;exact ziq _ _;exact zir _ _
theorem zlu{S:R.St}{n fo:Nat}{k:Int}{F:List Ly}(g:S.get fo=some (.lst (F.map lD)))(hl:F.length<=1000):app (callF prog (n+1)) 4 [.ref fo,.int k] S=.ok (.ref S.len) (S.push (.lst ((box F k).map hdD))):=by
 have bl:=zee F k;refine zgr (F:=ziQ) rfl rfl ?_;have ge:S.enter.get fo=some (.lst (F.map lD)):=by rw[zaC];exact g
 left;exists ge;left;refine zaG ?_;refine W.of (zfA (fun l=>decide (l.1.2.2=k)) hdD F none (fun l hl=>t_to (j:=0) rfl) (fun l hl _=>e_hd)) ?_;change by rw[length_map];exact le_trans bl (by omega)
 left;change by rw[length_map];exact le_trans bl (by omega)
 left;exact zej (by rw[R.enter_len];exact le_refl _) (zah _ _) (zka _ _) ⟨rfl,rfl⟩
theorem pd_o(S:R.St)(n:Nat)(o:Option Int):∃a,pd S n (oD o)=some a:=by cases o<;>cases n<;>exact⟨_,rfl⟩
theorem zpE(S:R.St)(n:Nat)(l:Ly):∃a,pd S (n+2) (hdD l)=some a:=by obtain⟨a,ha⟩:=pd_o S (n+1) l.2;unfold hdD;unfold pd;rw[mapM_cons,mapM_cons,mapM_cons,List.mapM_nil,znY,ha];exact⟨_,rfl⟩
theorem zhI(S:R.St)(n:Nat):∀ls:List Ly,∃xs,(ls.map hdD).mapM (pd S (n+2))=some xs
 | []=>⟨[],rfl⟩| l::ls=>by obtain⟨a,ha⟩:=zpE S n l;obtain⟨xs,hx⟩:=zhI S n ls;rw[map_cons,mapM_cons,ha,hx];exact⟨_,rfl⟩
noncomputable def kC:CE:=.or (.nt (.tst (.bi (.isin "list") #[J3]))) (.or (.cmp .NotEq J3 J4) (.cmp .NotEq (.meth "came" [(0,18)] (.ix J1 J2) .nil) J4))
noncomputable def kL:CE:=.mkL (.comp 1 [2] [0] (.val J0) (.cmp .Eq (.ix J0 U2) J1) (.tup #[.ix J0 U0,.ix J0 U1,.ix J0 U3]))
@[irreducible]noncomputable def kB:CS:=.asg 3 (.call 4 0 #[J0,J2]) (.asg 4 kL (.ifS kC (.ret (.con (D.bl false)) .nil) .nil .nil))
theorem zh3:c_law_kept.body=.forS [2] (.rng1 (.bi .len #[J1])) kB (.ret (.con (D.bl true)) .nil):=by unfold kB;rfl
theorem zh2{T:R.St}{n N fo th m k:Nat}{r:Int}{ps:List (Nat×Nat)}{Ls:List (List Ly)}{F:List Ly}{u v:Option D}(X:Tw T N th m r ps Ls (fun i=>box F ((i:Nat):Int)))(g:T.get fo=some (.lst (F.map lD)))(hl:F.length<=1000)(hk:k<ps.length) :
  W (exS (callF prog (n+1)) kB [some (.ref fo),some (.ref th),some (.int (k:Nat)),u,v] T) fun fl U=>(∃u v,fl=.nx [some (.ref fo),some (.ref th),some (.int (k:Nat)),u,v])/\Mv [] T U:=by
 have bl:=zee F ((k:Nat):Int);obtain⟨p,hp⟩:∃p,ps[k]?=some p:=⟨_,getElem?_eq_getElem hk⟩;obtain⟨ls,hls⟩:∃ls,Ls[k]?=some ls:=⟨_,getElem?_eq_getElem (by rw[<-X.l];exact hk)⟩;obtain⟨a1,a2⟩:=X.s k p ls hp hls;unfold kB;refine wS_W _ ?_;left;specialize zlu (n:=n) (k:=((k:Nat):Int)) g hl;left;exists zad g;left;refine zaG ?_;refine W.of (zfA (fun l=>decide (l.1.2.2=((k:Nat):Int))) hdD F none (fun l hl=>t_to (j:=0) rfl) (fun l hl _=>e_hd)) ?_;rw[show F.filter (fun l=>decide (l.1.2.2=((k:Nat):Int)))=box F k from rfl];change by rw[length_map];exact le_trans bl (by omega)
 left;change by rw[length_map];exact le_trans bl (by omega)
 left;have X2:∀l o,T.get l=some o->((T.push (.lst ((box F ((k:Nat):Int)).map hdD))).push (.lst ((box F ((k:Nat):Int)).map hdD))).get l=some o:=fun l o e=>zad (zad e);obtain⟨xs,hx⟩:=zhI ((T.push (.lst ((box F ((k:Nat):Int)).map hdD))).push (.lst ((box F ((k:Nat):Int)).map hdD))) 57 (box F ((k:Nat):Int));obtain⟨ys,hy⟩:=zhI (((T.push (.lst ((box F ((k:Nat):Int)).map hdD))).push (.lst ((box F ((k:Nat):Int)).map hdD))).push (.lst ((box F ((k:Nat):Int)).map hdD))) 57 (box F ((k:Nat):Int));exists(show tyOf ((T.push (.lst ((box F ((k:Nat):Int)).map hdD))).push (.lst ((box F ((k:Nat):Int)).map hdD))) (.ref T.len)=some "list" by unfold tyOf;dsimp only;rw[zad (zah _ _)]);left;exists zcU (S:=(T.push (.lst ((box F ((k:Nat):Int)).map hdD))).push (.lst ((box F ((k:Nat):Int)).map hdD))) (zad (zah _ _)) (zah _ _) hx;left;exists X2 _ _ X.g;left;exists za7 (x:=D.ref p.1) (by rw[getElem?_map,hp];rfl);left;exists zcw (X2 _ _ a1);left;exists rfl;left;change rfl;left;specialize zof (f:=n) (X2 _ _ a1) (X2 _ _ a2) (by omega);left;exists zcU (S:=((T.push (.lst ((box F ((k:Nat):Int)).map hdD))).push (.lst ((box F ((k:Nat):Int)).map hdD))).push (.lst ((box F ((k:Nat):Int)).map hdD))) (zah _ _) (zad (zah _ _)) hy;left;exact⟨⟨_,_,rfl⟩,((Mv.push [] T _).trans (Mv.push [] _ _)).trans (Mv.push [] _ _)⟩
theorem Tw.mv{T U:R.St}{N th m:Nat}{r:Int}{ps:List (Nat×Nat)}{Ls:List (List Ly)}{As:Nat->List Ly}(X:Tw T N th m r ps Ls As)(v:∀l o,T.get l=some o->U.get l=some o):Tw U N th m r ps Ls As:=⟨X.l,v _ _ X.g,fun i p ls e1 e2=>⟨v _ _ (X.s i p ls e1 e2).1,v _ _ (X.s i p ls e1 e2).2⟩,X.n,X.nd⟩
theorem zku{S:R.St}{n N fo th m:Nat}{r:Int}{ps:List (Nat×Nat)}{Ls:List (List Ly)}{F:List Ly}(X:Tw S N th m r ps Ls (fun i=>box F ((i:Nat):Int)))(g:S.get fo=some (.lst (F.map lD)))(hl:F.length<=1000)(p14:ps.length<=14) :
  app (callF prog (n+2)) 14 [.ref fo,.ref th] S=.ok (.bl true) S:=by
 refine W.eq ?_;rw[ze7 (F:=c_law_kept) rfl rfl,zaa,zh3];show W (exS (callF prog (n+1)) (.forS [2] (.rng1 (.bi .len #[J1])) kB (.ret (.con (D.bl true)) .nil)) [some (.ref fo),some (.ref th),none,none,none] S.enter) _;have ue:∀l o,S.get l=some o->S.enter.get l=some o:=fun l o e=>by rw[zaC];exact e
 have el:evL (callF prog (n+1)) (.rng1 (.bi .len #[J1])) [some (.ref fo),some (.ref th),none,none,none] S.enter=.ok (cnt 0 ps.length,[]) S.enter:=by
  refine W.eq (wL_W _ ?_);left;exists ue _ _ X.g;left;rw[length_map];change by omega
  left;exact⟨by rw[zg1],rfl⟩
 refine zaJ el ?_;have cl:(cnt 0 ps.length).length=ps.length:=by rw[<-zg1];simp
 refine W.mono (zby (fun i δ U=>∃a u v,δ=[some (.ref fo),some (.ref th),a,u,v]/\∀l o,S.get l=some o->U.get l=some o) (fun _ _=>False) _ 0 _ _ ⟨_,_,_,rfl,fun l o e=>ue l o e⟩ ?_) ?_;rintro i z δ U hz ⟨a,u,v,rfl,h⟩;have hi:i<ps.length:=by rw[<-cl];exact(List.getElem?_eq_some_iff.mp hz).1
 have ez:z=.int (i:Nat):=by rw[<-zcT,getElem?_map,List.getElem?_range (by omega)]at hz;simp at hz;exact hz.symm
 subst ez;refine⟨[some (.ref fo),some (.ref th),some (.int (i:Nat)),u,v],rfl,?_⟩;refine(zh2 (n:=n) (u:=u) (v:=v) (X.mv h) (h _ _ g) hl hi).mono fun fl V hV=>?_;obtain⟨⟨u',v',rfl⟩,v1⟩:=hV;exact⟨_,_,_,rfl,fun l o e=>v1.old _ _ (by simp) (h l o e)⟩;rintro f U h;cases f with
 |rt d=>exact h.elim| nx δ=>
  obtain⟨a,u,v,rfl,h⟩:=h;dsimp only;refine W.mono (wS_W (.ret (.con (D.bl true)) .nil) (Q:=fun r T=>wFin S r T fun a T'=>a=.bl true/\T'=S) ?_) fun r T q=>by unfold wFin at q;exact q
  left;exact zar rfl ⟨rfl,rfl⟩
theorem zpD(S:R.St)(n:Nat)(l:Ly):∃a,pd S (n+2) (lD l)=some a:=by obtain⟨a,ha⟩:=pd_o S (n+1) l.2;unfold lD;unfold pd;rw[mapM_cons,mapM_cons,mapM_cons,mapM_cons,List.mapM_nil,znY,ha];exact⟨_,rfl⟩
theorem zkz(S:R.St)(n:Nat):∀ls:List Ly,∃xs,(ls.map lD).mapM (pd S (n+2))=some xs
 | []=>⟨[],rfl⟩| l::ls=>by obtain⟨a,ha⟩:=zpD S n l;obtain⟨xs,hx⟩:=zkz S n ls;rw[map_cons,mapM_cons,ha,hx];exact⟨_,rfl⟩
structure Rw(T:R.St)(wl:Nat)(as:List Nat)(rows:Nat->List Int):Prop where
 g:T.get wl=some (.lst (as.map .ref))
 r:∀(i a:Nat),as[i]?=some a->T.get a=some (.lst ((rows i).map .int))
theorem Rw.mv{T U:R.St}{wl:Nat}{as:List Nat}{rows:Nat->List Int}(h:Rw T wl as rows)(v:∀l o,T.get l=some o->U.get l=some o):Rw U wl as rows:=⟨v _ _ h.g,fun i a e=>v _ _ (h.r i a e)⟩
theorem zfo{T:R.St}{n:Nat}{rows:Nat->List Int}:∀(as:List Nat)(k:Nat),(∀(i a:Nat),as[i]?=some a->T.get a=some (.lst ((rows (k+i)).map .int)))->(as.map D.ref).mapM (pd T (n+1))=some ((List.range as.length).map fun i=>PySem.PyData.list ((rows (k+i)).map .int))
 | [],_,_=>rfl| a::as,k,h=>by
  have ih:=zfo (n:=n) as (k+1) fun i b e=>by have:=h (i+1) b (by simpa using e);rw[show k+1+i=k+(i+1) by omega];exact this
  have h0:=zbT (n:=n) (h 0 a rfl) (zfp T n _);rw[map_cons,mapM_cons,h0,ih,length_cons,List.range_succ_eq_map,map_cons,map_map];rw[show((fun i=>PySem.PyData.list ((rows (k+i)).map PySem.PyData.int))∘Nat.succ)=fun i=>PySem.PyData.list ((rows (k+1+i)).map PySem.PyData.int) from by funext i;simp only[Function.comp];rw[show k+i.succ=k+1+i by omega]];rfl
theorem zl6{T:R.St}{x y:Nat}{as bs:List Nat}{rows:Nat->List Int}(h1:Rw T x as rows)(h2:Rw T y bs rows)(hl:as.length=bs.length):cmpO T .NotEq (.ref x) (.ref y)=some false:=by have e1:=zbT (n:=59) h1.g (zfo (n:=58) as 0 fun i a e=>by rw[zero_add];exact h1.r i a e);have e2:=zbT (n:=59) h2.g (zfo (n:=58) bs 0 fun i a e=>by rw[zero_add];exact h2.r i a e);rw[<-hl]at e2;show(eqD T (.ref x) (.ref y)).map (!·)=_;rw[ziw e1 e2];rfl
theorem zoy{T:R.St}{x y:Nat}{F:List Ly}(h1:T.get x=some (.lst (F.map lD)))(h2:T.get y=some (.lst (F.map lD))):cmpO T .Eq (.ref x) (.ref y)=some true:=by obtain⟨xs,hx⟩:=zkz T 57 F;exact ziw (zbT h1 hx) (zbT h2 hx)
theorem zkP{cf:CF}{rows:Nat->List Int}:∀(as:List Nat)(k:Nat)(v:Option D)(T:R.St),(∀(i a:Nat),as[i]?=some a->T.get a=some (.lst ((rows (k+i)).map .int))/\(rows (k+i)).length<=1000)->
  W (zax [0] (evT cf (.tst (.con (.bl true)))) (evE cf (.mkL (.val J0))) (as.map D.ref) [v] T) fun ds U=>∃cs:List Nat,ds=cs.map D.ref/\cs.length=as.length/\(∀(i a:Nat),cs[i]?=some a->U.get a=some (.lst ((rows (k+i)).map .int)))/\Mv [] T U
 | [],k,v,T,_=>by show W (Out.ok [] T) _;rw[W_ok];exact⟨[],rfl,rfl,(fun i a e=>by simp at e),Mv.refl _ _⟩| a::as,k,v,T,h=>by
  obtain⟨h0,l0⟩:=h 0 a rfl;rw[Nat.add_zero]at h0 l0;have e1:evT cf (.tst (.con (.bl true))) [some (.ref a)] T=.ok true T:=by simp only[evT,evE,zal];rfl
  have e2:evE cf (.mkL (.val J0)) [some (.ref a)] T=.ok (.ref T.len) (T.push (.lst ((rows k).map .int))):=by
   refine W.eq (wE_W _ ?_);left;exists h0;left;change by rw[length_map];omega
   left;exact⟨rfl,rfl⟩
  rw[map_cons,zax];show W (Out.bind (evT cf (.tst (.con (.bl true))) [some (.ref a)] T) _) _;rw[e1,zal,if_pos rfl,List.set_cons_zero,e2,zal,zaa];refine(zkP (rows:=rows) as (k+1) (some (.ref a)) (T.push (.lst ((rows k).map .int))) fun i b e=>?_).mono fun ds U hU=>?_;have:=h (i+1) b (by simpa using e);rw[show k+1+i=k+(i+1) by omega];exact⟨zad this.1,this.2⟩;obtain⟨cs,rfl,hl,hg,v2⟩:=hU;rw[W_ok];refine⟨T.len::cs,rfl,by simp[hl],fun i b e=>?_,(Mv.push [] T _).trans v2⟩;cases i with| zero=>cases e;rw[Nat.add_zero];exact v2.old _ _ (by simp) (zah _ _)| succ i=>have:=hg i b (by simpa using e);rw[show k+1+i=k+(i+1) by omega]at this;exact this
noncomputable abbrev E0(ns:List Int)(v1 v2 v3 v4 v5 v6 v7 v8 v9 v10:Option D):Ev:=[some (.fix (ns.map .int)),v1,v2,v3,v4,v5,v6,v7,v8,v9,v10]
noncomputable def hE:CE:=.mkL (.comp 1 [] [0] (.val J5) (.tst (.con (D.bl true))) (.mkL (.val J0)))
noncomputable def qE:CE:=.or (.cmp .NotEq J6 J5) (.or (.nt (.tst (.call 13 0 #[J9,J4,J5,J3]))) (.nt (.tst (.call 14 0 #[J9,J8]))))
@[irreducible]noncomputable def cR:CS:=.asg 10 (.call 15 0 #[J4,J1,J7]) (.ret (.and (.cmp .Eq (.callW 1 1 #[J10,J3]) J9) (.call 14 0 #[J9,J10])) .nil)
@[irreducible]noncomputable def cZ:CS:=.ifS qE (.ret (.con (D.bl false)) .nil) .nil (.ifS (.cmp .Eq J2 J1) cR .nil (.ret (.con (D.bl true)) .nil))
@[irreducible]noncomputable def c8:CS:=.asg 8 (.call 15 0 #[J4,J1,J7]) (.asg 9 (.callW 1 0 #[J8,J3,J6]) cZ)
@[irreducible]noncomputable def c4:CS:=.asg 4 (.call 9 0 #[J0,J1,J2]) (.asg 5 (.call 11 0 #[.call 5 0 #[J0,U2],J1,J2]) (.asg 6 hE (.asg 7 (.bin .Add (.bi .max2 #[U1,J3]) (.bin .Mod (.call 5 0 #[J0,U3]) U4)) c8)))
theorem zjS:c_law.body=.asg 1 (.bin .Add U2 (.bin .Mod (.call 5 0 #[J0,U0]) U6)) (.asg 2 (.bin .Mult J1 (.bin .Add U1 (.bin .Mod (.bin .FloorDiv (.call 5 0 #[J0,U0]) U6) U2))) (.asg 3 (.bin .Mod (.call 5 0 #[J0,U1]) U6) c4)):=by unfold c4 c8 cZ cR;rfl
def TQ(r:Fl)(_:R.St):Prop:=match r with|.nx _=>False|.rt d=>d=.bl true
structure Pd(T:R.St)(L b wl hd th fo pl m c N:Nat)(x r:Int)(as cs:List Nat)(Ls:List (List Ly))(ps:List (Nat×Nat)):Prop where
 dl:Dl T L b pl m Ls
 ws:Rw T wl as (rowZ x m pl)
 wn:as.length=pl
 hs:Rw T hd cs (rowZ x m pl)
 hn:cs.length=pl
 tw:Tw T N th m r ps Ls (fun i=>box (za6 (wrZ x m pl) Ls 1 c) ((i:Nat):Int))
 fo:T.get fo=some (.lst ((za6 (wrZ x m pl) Ls 1 c).map lD))
 lk:T.lk=[]
 fz:T.frz=[]
theorem Rw.wok{T:R.St}{wl m pl:Nat}{as:List Nat}{x:Int}{N:Nat}(h:Rw T wl as (rowZ x m pl))(hl:as.length=pl)(hN:T.len<=N):WOk T N (.ref wl) m pl (wrZ x m pl):=.inr ⟨wl,as,rfl,h.g,by have:=zam h.g;omega,hl,fun i a e=>⟨h.r i a e,by have:=zam (h.r i a e);omega⟩⟩
theorem zhS{f:Nat->Int->Int}{Ls:List (List Ly)}(nd:((AlF f 0 Ls).map (·.1)).Nodup)(c t:Nat):(za6 f Ls t c).length<=Ls.flatten.length:=by rw[zdZ nd,<-ziW f Ls 0];exact length_filter_le _ _
section
variable{T:R.St}{L b wl hd th fo pl m c N n:Nat}{x r:Int}{as cs:List Nat}{Ls:List (List Ly)}{ps:List (Nat×Nat)}{ns:List Int}{v7 v10:Option D}
theorem Dl.knd(X:Dl T L b pl m Ls)(m2:2<=m)(hp:pl<=2*m):((AlF (wrZ x m pl) 0 Ls).map (·.1)).Nodup:=zgs (zor m2 hp X.ll X.gd) X.nd
theorem Dl.al(X:Dl T L b pl m Ls){f:Nat->Int->Int}{y:Ly}(h:y∈AlF f 0 Ls):1<=y.1.1:=by obtain⟨i,ls,l,h1,h2,rfl⟩:=ziV h;exact(X.gd i ls h1 l h2).t1
theorem q_ev(X:Pd T L b wl hd th fo pl m c N x r as cs Ls ps)(m2:2<=m)(hp:pl<=2*m)(p14:pl<=14):evT (callF prog (n+2)) qE (E0 ns (some (.int m)) (some (.int pl)) (some (.int c)) (some (.ref L)) (some (.ref wl)) (some (.ref hd)) v7 (some (.ref th)) (some (.ref fo)) v10) T=.ok false T:=by
 have nd:=X.dl.knd (x:=x) m2 hp;have ll:=zdZ nd c 1;have le:=zhS nd c 1;have xz:=X.dl.sz;have s1:=zhl (n:=n) (f:=wrZ x m pl) (rd:=(c:Int)) X.fo X.dl (X.ws.wok X.wn (le_refl _)) p14 nd (by
  rw[ll];unfold upT;congr 1;refine List.filter_congr fun l hl=>?_;have:=X.dl.al hl;exact decide_eq_decide.mpr ⟨fun h=>by omega,fun h=>⟨by omega,by omega⟩⟩) (fun l hl=>by
  have h:=zdY nd hl;refine⟨.inl (by show(0:Int)<l.1.1;omega),mem_filter.mpr ⟨h.1,by simp;omega⟩⟩) (zf9 nd c 1)
 have s2:=zku (n:=n) X.tw X.fo (by omega) (by rw[X.tw.l,X.dl.ll];exact p14);generalize hδ:E0 ns (some (.int m)) (some (.int pl)) (some (.int c)) (some (.ref L)) (some (.ref wl)) (some (.ref hd)) v7 (some (.ref th)) (some (.ref fo)) v10=δ;refine W.eq (wT_W _ ?_);subst hδ;left;exists zl6 X.hs X.ws (by rw[X.hn,X.wn]);left;specialize s1;left;specialize s2;left;exact⟨rfl,rfl⟩
end
section
variable{T:R.St}{L b wl hd th fo pl m c N n:Nat}{x r:Int}{as cs:List Nat}{Ls:List (List Ly)}{ps:List (Nat×Nat)}{ns:List Int}{v7 v8 v9 v10:Option D}
theorem Dl.sd(X:Dl T L b pl m Ls){f:Nat->Int->Int}(nd:((AlF f 0 Ls).map (·.1)).Nodup):Sd m pl f Ls:=⟨X.ll,fun i ls e l hl=>⟨(X.gd i ls e l hl).o0,(X.gd i ls e l hl).o1⟩,X.sz,fun t=>zdH nd t⟩
theorem again(X:Pd T L b wl hd th fo pl m c N x r as cs Ls ps)(m2:2<=m)(hp:pl=m)(m7:m<=7)(hc:c<=5) :
  W (exS (callF prog (n+4)) cR (E0 ns (some (.int m)) (some (.int pl)) (some (.int c)) (some (.ref L)) (some (.ref wl)) (some (.ref hd)) (some (.int r)) (some (.ref th)) (some (.ref fo)) v10) T) TQ:=by
 have nd:=X.dl.knd (x:=x) m2 (by omega);have le:=zhS nd c 1;have xz:=X.dl.sz;have al:AlF (wrZ x m pl) 0 Ls=AlF (fun _ o=>o) 0 Ls:=zgt Ls 0 fun i ls e l hl=>by have:=(List.getElem?_eq_some_iff.mp e).1;rw[X.dl.ll,hp]at this;rw[hp,zero_add];exact zo3 m2 this
 have el:=zdj al c 1;have sd:Sd m pl (fun _ o=>o) Ls:=X.dl.sd (by rw[<-al];exact nd);unfold cR;refine wS_W _ ?_;left;refine zda ((zkt (n:=n) (r:=r) m2 (by omega) (by omega) X.dl).mono fun d U hU=>?_);obtain⟨th2,ps2,rfl,X2,v2⟩:=hU;left;refine zda ((zns (n:=n) (c:=c) (z:=(c:Int)) (wv:=.non) (pl:=pl) (f:=fun _ o=>o) X2 (.inl ⟨rfl,fun _ _=>rfl⟩) sd (by omega) rfl (by rw[v2.lk,X.lk]) (by rw[v2.frz,X.fz];simp)).mono fun d V hV=>?_);obtain⟨rfl,X3,g3,v3⟩:=hV;rw[<-el]at g3 X3;have lfo:=zam X.fo;have gfo:V.get fo=some (.lst ((za6 (wrZ x m pl) Ls 1 c).map lD)):=v3.old _ _ (fun hm=>by obtain⟨p,hp',e⟩:=mem_map.mp hm;have:=(X2.n.2 p hp').2;omega) (v2.old _ _ (by simp) X.fo);left;exists zoy g3 gfo;left;specialize zku (n:=n+2) X3 gfo (by omega) (by rw[X3.l,X.dl.ll];omega);left
theorem z_ev(X:Pd T L b wl hd th fo pl m c N x r as cs Ls ps)(m2:2<=m)(m7:m<=7)(hp:pl=m\/pl=2*m)(hc:c<=5) :
  W (exS (callF prog (n+4)) cZ (E0 ns (some (.int m)) (some (.int pl)) (some (.int c)) (some (.ref L)) (some (.ref wl)) (some (.ref hd)) (some (.int r)) (some (.ref th)) (some (.ref fo)) v10) T) TQ:=by
 unfold cZ;refine zcx (W.of (q_ev (n:=n+2) X m2 (by omega) (by omega)) ⟨rfl,?_⟩);have e:evT (callF prog (n+4)) (.cmp .Eq J2 J1) (E0 ns (some (.int m)) (some (.int pl)) (some (.int c)) (some (.ref L)) (some (.ref wl)) (some (.ref hd)) (some (.int r)) (some (.ref th)) (some (.ref fo)) v10) T=.ok (decide ((pl:Int)=m)) T:=by generalize hδ:E0 ns (some (.int m)) (some (.int pl)) (some (.int c)) (some (.ref L)) (some (.ref wl)) (some (.ref hd)) (some (.int r)) (some (.ref th)) (some (.ref fo)) v10=δ;refine W.eq (wT_W _ ?_);subst hδ;left;exact⟨rfl,rfl⟩
 by_cases h:pl=m;rw[decide_eq_true (by rw[h])]at e;rw[exS,e,zal,if_pos rfl,zaa];refine(again (n:=n) X m2 h m7 hc).mono fun f U hU=>?_;cases f with|nx δ=>exact hU.elim|rt d=>rw[W_ok];exact hU
 rw[decide_eq_false (by omega)]at e;refine zcx (W.of e ⟨rfl,?_⟩);refine wS_W _ ?_;left
end
theorem zmC{cf:CF}{δ:Ev}{T:R.St}{f b c:Nat}{e:CE}{x y z:D}(h1:evE cf e δ T=.ok x T)(h2:(δ[b]?).join=some y)(h3:(δ[c]?).join=some z):evE cf (.call f 0 #[e,.loc b,.loc c]) δ T=app cf f [x,y,z] T:=by simp only[evE,evEs,h1,h2,h3,zaI,zal];rfl
theorem zoI{cf:CF}{δ:Ev}{T:R.St}{f a b c:Nat}{x y z:D}(h1:(δ[a]?).join=some x)(h2:(δ[b]?).join=some y)(h3:(δ[c]?).join=some z):evE cf (.callW f 0 #[.loc a,.loc b,.loc c]) δ T=appW cf f [x,y,z] T:=by simp only[evE,evEs,h1,h2,h3,zaI,zal];rfl
theorem zkC{cf:CF}{δ:Ev}{T:R.St}{a:Nat}{x:D}(h1:(δ[a]?).join=some x):evE cf (.loc a) δ T=.ok x T:=by simp only[evE,h1,zaI]
theorem zoJ{cf:CF}{δ:Ev}{T:R.St}{f a:Nat}{x:D}{k:Int}(h1:(δ[a]?).join=some x):evE cf (.call f 0 #[.loc a,.con (.int k)]) δ T=app cf f [x,.int k] T:=by simp only[evE,evEs,h1,zaI,zal];rfl
section
variable{T:R.St}{L b wl hd th fo pl m c N n:Nat}{x r:Int}{as cs:List Nat}{Ls:List (List Ly)}{ps:List (Nat×Nat)}{ns:List Int}{v7 v8 v9 v10:Option D}
theorem zp0(X:Dl T L b pl m Ls)(ws:Rw T wl as (rowZ x m pl))(wn:as.length=pl)(hs:Rw T hd cs (rowZ x m pl))(hn:cs.length=pl)(lk:T.lk=[])(fz:T.frz=[])(m2:2<=m)(m7:m<=7)(hp:pl=m\/pl=2*m)(hc:c<=5) :
  W (exS (callF prog (n+4)) c8 (E0 ns (some (.int m)) (some (.int pl)) (some (.int c)) (some (.ref L)) (some (.ref wl)) (some (.ref hd)) (some (.int r)) v8 v9 v10) T) TQ:=by
 have sd:=X.sd (X.knd (x:=x) m2 (by omega));unfold c8;rw[exS,zaa];have e8:evE (callF prog (n+4)) (.call 15 0 #[J4,J1,J7]) (E0 ns (some (.int m)) (some (.int pl)) (some (.int c)) (some (.ref L)) (some (.ref wl)) (some (.ref hd)) (some (.int r)) v8 v9 v10) T=app (callF prog (n+4)) 15 [.ref L,.int m,.int r] T:=zmC (zkC rfl) rfl rfl;rw[e8];refine(zkt (n:=n) (r:=r) m2 (by omega) (by omega) X).mono fun d U hU=>?_;obtain⟨th,ps,rfl,X2,v2⟩:=hU;have o2:∀l o,T.get l=some o->U.get l=some o:=fun l o e=>v2.old _ _ (by simp) e;show W (exS (callF prog (n+4)) (.asg 9 (.callW 1 0 #[J8,J3,J6]) cZ) (E0 ns (some (.int m)) (some (.int pl)) (some (.int c)) (some (.ref L)) (some (.ref wl)) (some (.ref hd)) (some (.int r)) (some (.ref th)) v9 v10) U) _;rw[exS,zaa];have e9:evE (callF prog (n+4)) (.callW 1 0 #[J8,J3,J6]) (E0 ns (some (.int m)) (some (.int pl)) (some (.int c)) (some (.ref L)) (some (.ref wl)) (some (.ref hd)) (some (.int r)) (some (.ref th)) v9 v10) U=appW (callF prog (n+4)) 1 [.ref th,.int c,.ref hd] U:=zoI rfl rfl rfl;rw[e9];have w0:=hs.wok hn (le_refl T.len);refine(zns (n:=n) (c:=c) (z:=(c:Int)) (pl:=pl) (f:=wrZ x m pl) X2 (w0.mv fun l o _ e=>o2 l o e) sd (by omega) rfl (by rw[v2.lk,lk]) (by rw[v2.frz,fz];simp)).mono fun d V hV=>?_;obtain⟨rfl,X3,g3,v3⟩:=hV;have o3:∀l o,T.get l=some o->V.get l=some o:=fun l o e=>v3.old _ _ (fun hm=>by obtain⟨p,hp',e'⟩:=mem_map.mp hm;have:=(X2.n.2 p hp').2;have:=zam e;omega) (o2 l o e);exact z_ev (n:=n) ⟨X.mv o3,ws.mv o3,wn,hs.mv o3,hn,X3,g3,by rw[v3.lk,v2.lk,lk],by rw[v3.frz,v2.frz,fz]⟩ m2 m7 hp hc
theorem h_ev(ws:Rw T wl as (rowZ x m pl))(wn:as.length=pl)(m7:m<=7)(p14:pl<=14){v6:Option D} :
  W (evE (callF prog n) hE (E0 ns (some (.int m)) (some (.int pl)) (some (.int c)) (some (.ref L)) (some (.ref wl)) v6 v7 v8 v9 v10) T) fun d U=>∃hd cs,d=.ref hd/\Rw U hd cs (rowZ x m pl)/\cs.length=pl/\Mv [] T U:=by
 generalize hδ:E0 ns (some (.int m)) (some (.int pl)) (some (.int c)) (some (.ref L)) (some (.ref wl)) v6 v7 v8 v9 v10=δ;refine wE_W _ ?_;subst hδ;left;exists ws.g;left;refine zaG ?_;refine W.mono (zkP (rows:=rowZ x m pl) as 0 none _ fun i a e=>?_) fun ds U hU=>?_;rw[zero_add];exact⟨ws.r i a e,by unfold rowZ;rw[length_map,zkG];omega⟩;obtain⟨cs,rfl,hl,hg,v⟩:=hU;change by rw[length_map];omega
 left;change by rw[length_map];omega
 left;refine⟨_,cs,rfl,⟨zah _ _,fun i a e=>?_⟩,by omega,v.lock.trans (Mv.push [] _ _)⟩;have:=hg i a e;rw[zero_add]at this;exact zad this
theorem zp1(fz:T.frz=[])(lk:T.lk=[])(m2:2<=m)(m7:m<=7)(hp:pl=m\/pl=2*m)(hc:c<=5){v4 v5 v6:Option D} :
  W (exS (callF prog (n+4)) c4 (E0 ns (some (.int m)) (some (.int pl)) (some (.int c)) v4 v5 v6 v7 v8 v9 v10) T) TQ:=by
 unfold c4;rw[exS,zaa];have e4:evE (callF prog (n+4)) (.call 9 0 #[J0,J1,J2]) (E0 ns (some (.int m)) (some (.int pl)) (some (.int c)) v4 v5 v6 v7 v8 v9 v10) T=app (callF prog (n+4)) 9 [.fix (ns.map .int),.int m,.int pl] T:=zmC (zkC rfl) rfl rfl;rw[e4];refine(zlv (n:=n) (ns:=ns) m2 m7 (by omega) (by omega)).mono fun d U hU=>?_;obtain⟨L,b,Ls,rfl,X,_,_,v1⟩:=hU;show W (exS (callF prog (n+4)) (.asg 5 (.call 11 0 #[.call 5 0 #[J0,U2],J1,J2]) (.asg 6 hE (.asg 7 (.bin .Add (.bi .max2 #[U1,J3]) (.bin .Mod (.call 5 0 #[J0,U3]) U4)) c8))) (E0 ns (some (.int m)) (some (.int pl)) (some (.int c)) (some (.ref L)) v5 v6 v7 v8 v9 v10) U) _;rw[exS,zaa];have e5:evE (callF prog (n+4)) (.call 11 0 #[.call 5 0 #[J0,U2],J1,J2]) (E0 ns (some (.int m)) (some (.int pl)) (some (.int c)) (some (.ref L)) v5 v6 v7 v8 v9 v10) U=app (callF prog (n+4)) 11 [.int (zbi ns 2),.int m,.int pl] U:=zmC ((zoJ rfl).trans (zdf (n:=n+3) (k:=2))) rfl rfl;rw[e5];refine(zls (n:=n+1) (x:=zbi ns 2) m2 m7 (by omega) (by omega)).mono fun d V hV=>?_;obtain⟨wl,as,rfl,W2,v2⟩:=hV;show W (exS (callF prog (n+4)) (.asg 6 hE (.asg 7 (.bin .Add (.bi .max2 #[U1,J3]) (.bin .Mod (.call 5 0 #[J0,U3]) U4)) c8)) (E0 ns (some (.int m)) (some (.int pl)) (some (.int c)) (some (.ref L)) (some (.ref wl)) v6 v7 v8 v9 v10) V) _;rw[exS,zaa];have R2:Rw V wl as (rowZ (zbi ns 2) m pl):=⟨W2.g,W2.r⟩;refine(h_ev (n:=n+4) (ns:=ns) (L:=L) (c:=c) R2 W2.l m7 (by omega)).mono fun d Z hZ=>?_;obtain⟨hd,cs,rfl,R3,hn,v3⟩:=hZ;show W (exS (callF prog (n+4)) (.asg 7 (.bin .Add (.bi .max2 #[U1,J3]) (.bin .Mod (.call 5 0 #[J0,U3]) U4)) c8) (E0 ns (some (.int m)) (some (.int pl)) (some (.int c)) (some (.ref L)) (some (.ref wl)) (some (.ref hd)) v7 v8 v9 v10) Z) _;have e7:∃r:Int,evE (callF prog (n+4)) (.bin .Add (.bi .max2 #[U1,J3]) (.bin .Mod (.call 5 0 #[J0,U3]) U4)) (E0 ns (some (.int m)) (some (.int pl)) (some (.int c)) (some (.ref L)) (some (.ref wl)) (some (.ref hd)) v7 v8 v9 v10) Z=.ok (.int r) Z:=by
  refine⟨(if(c:Int)>1 then(c:Int) else 1)+zbi ns 3%4,?_⟩;generalize hδ:E0 ns (some (.int m)) (some (.int pl)) (some (.int c)) (some (.ref L)) (some (.ref wl)) (some (.ref hd)) v7 v8 v9 v10=δ;refine W.eq (wE_W _ ?_);subst hδ;left;specialize zdf (n:=n+3) (k:=3);left;change by first|decide|omega|(simp;done)|(simp;omega)
  left;exact⟨rfl,rfl⟩
 obtain⟨r,e7⟩:=e7;rw[exS,e7,zal];have o2:∀l o,U.get l=some o->Z.get l=some o:=fun l o e=>v3.old _ _ (by simp) (v2.old _ _ (by simp) e);exact zp0 (n:=n) (r:=r) (X.mv o2) (R2.mv fun l o e=>v3.old _ _ (by simp) e) W2.l R3 hn (by rw[v3.lk,v2.lk,v1.lk,lk]) (by rw[v3.frz,v2.frz,v1.frz,fz]) m2 m7 hp hc
end
theorem two_cases{m:Nat}{e:Int}(h:e=0\/e=1):∃pl:Nat,(m:Int)*(1+e)=pl/\(pl=m\/pl=2*m):=by rcases h with rfl|rfl;exact⟨m,by simp,.inl rfl⟩;exact⟨2*m,by simp;omega,.inr rfl⟩
theorem law_true(ns:List Int)(h:ns.length<=63):W (callF prog 6 16 [.fix (ns.map .int)] ⟨[],[],[]⟩) fun d _=>d=.bl true:=by
 refine zoH (F:=c_law) rfl rfl rfl ?_;rw[zjS];have c0:=emod_nonneg (zbi ns 0) (b:=6) (by decide);have c1:=Int.emod_lt_of_pos (zbi ns 0) (b:=6) (by decide);have d0:=emod_nonneg (zbi ns 0/6) (b:=2) (by decide);have d1:=Int.emod_lt_of_pos (zbi ns 0/6) (b:=2) (by decide);have r0:=emod_nonneg (zbi ns 1) (b:=6) (by decide);have r1:=Int.emod_lt_of_pos (zbi ns 1) (b:=6) (by decide);obtain⟨m,hm⟩:∃m:Nat,2+zbi ns 0%6=m:=⟨(2+zbi ns 0%6).toNat,by omega⟩;obtain⟨pl,hpl,hp⟩:=two_cases (m:=m) (e:=zbi ns 0/6%2) (by omega);obtain⟨c,hc⟩:∃c:Nat,zbi ns 1%6=c:=⟨(zbi ns 1%6).toNat,by omega⟩;have e1:evE (callF prog 5) (.bin .Add U2 (.bin .Mod (.call 5 0 #[J0,U0]) U6)) (E0 ns none none none none none none none none none none) ⟨[],[],[]⟩=.ok (.int m) ⟨[],[],[]⟩:=by
  refine W.eq (wE_W _ ?_);left;specialize zdf (n:=4) (k:=0);left;change by first|decide|omega|(simp;done)|(simp;omega)
  left;rw[hm];exact⟨rfl,rfl⟩
 have e2:evE (callF prog 5) (.bin .Mult J1 (.bin .Add U1 (.bin .Mod (.bin .FloorDiv (.call 5 0 #[J0,U0]) U6) U2))) (E0 ns (some (.int m)) none none none none none none none none none) ⟨[],[],[]⟩=.ok (.int pl) ⟨[],[],[]⟩:=by
  refine W.eq (wE_W _ ?_);left;specialize zdf (n:=4) (k:=0);left;change by first|decide|omega|(simp;done)|(simp;omega)
  left;change by first|decide|omega|(simp;done)|(simp;omega)
  left;change by unfold zc7;rw[or_eq_true];refine Or.inl ?_;rw[decide_eq_true_eq];omega
  left;rw[hpl];exact⟨rfl,rfl⟩
 have e3:evE (callF prog 5) (.bin .Mod (.call 5 0 #[J0,U1]) U6) (E0 ns (some (.int m)) (some (.int pl)) none none none none none none none none) ⟨[],[],[]⟩=.ok (.int c) ⟨[],[],[]⟩:=by
  refine W.eq (wE_W _ ?_);left;specialize zdf (n:=4) (k:=1);left;change by first|decide|omega|(simp;done)|(simp;omega)
  left;rw[hc];exact⟨rfl,rfl⟩
 rw[exS,show evE (callF prog 5) _ (zau c_law [.fix (ns.map .int)]) ⟨[],[],[]⟩=_ from e1,zal];show W (exS (callF prog 5) (.asg 2 _ _) (E0 ns (some (.int m)) none none none none none none none none none) ⟨[],[],[]⟩) _;rw[exS,e2,zal];show W (exS (callF prog 5) (.asg 3 _ _) (E0 ns (some (.int m)) (some (.int pl)) none none none none none none none none) ⟨[],[],[]⟩) _;rw[exS,e3,zal];refine W.mono (zp1 (n:=1) (m:=m) (pl:=pl) (c:=c) (ns:=ns) (T:=⟨[],[],[]⟩) (v4:=none) (v5:=none) (v6:=none) (v7:=none) (v8:=none) (v9:=none) (v10:=none) rfl rfl (by omega) (by omega) hp (by omega)) fun f U hU=>?_;cases f with|nx δ=>exact hU.elim|rt d=>exact hU
end
section
open PySem R L2
theorem lam_mem:(tab.lamP,("run":Str) ++ ".<locals>." ++ "<lambda>")∈Mks.ts:=by decide +kernel
theorem lam_one:∀p∈Mks.ts,p.1=tab.lamP->p.2=("run":Str) ++ ".<locals>." ++ "<lambda>":=by intro p hp _;simp only[Mks.ts,mks,mem_cons,not_mem_nil,or_false]at hp;subst hp;decide +kernel
theorem lam_b:∀j,j<=1->∃n,(["hands","rounds","wires"]:List Str).length=n+j/\∀(d:Addr)(kV doc pm:Value)(an:Option Addr)(cdv ct:Value)(us:List Value),us.length=n->∃k,bindArgs (fnOf "run" "run" (zas zfT) (zan zfT) (zab zfT) (.ref d) kV doc pm an cdv ct) ⟨us,[]⟩=seqItems? (.ref d)>>=k/\k (some [Value.none].toArray)=pure ((["hands","rounds","wires"]:List Str).zip (us++List.replicate j Value.none))
 |0,_=>⟨3,rfl,fun _ _ _ _ _ _ _=>us3 fun _ _ _=>⟨_,rfl,rfl⟩⟩|1,_=>⟨2,rfl,fun _ _ _ _ _ _ _=>us2 fun _ _=>⟨_,rfl,rfl⟩⟩
end
end Kz
open PySem PySem.W PyProof.Rows
set_option maxRecDepth 100000 in
set_option maxHeartbeats 0 in
theorem PySem.Challenge.cw_traitorround_k26_a_town_played_holds : PySem.Challenge.rw_traitorround_k26_a_town_played.Holds := by
 w_on;o_law;k_head;(case hw=>w_witness2)
 k_fill
 refine R.walk_ofT (l:=PySem.Challenge.rw_traitorround_k26_a_town_played) (n:=63) (k:=12) (x:="_law_script") (sp:=fun w=>R.spF _ (R.callF Kz.prog 6) 16) rfl (by decide) rfl ⟨rfl,by decide,by decide⟩ (fun w h Y=>PySem.W.km_in_of Y) ?hT ?hK ?F (fun _ _ a ns hl hx tb=>R.law_spT hx tb (Kz.law_true ns hl))
 case hT=>intro w h Y p hp;simp only[R.Mks.ts,Kz.mks,mem_cons,not_mem_nil,or_false]at hp;subst hp;exact PySem.W.km_tabs_of Y 24 (by simp)
 case hK=>intro w p hp;simp only[R.Mks.ts,Kz.mks,mem_cons,not_mem_nil,or_false]at hp;subst hp;exact⟨by with_unfolding_all rfl,28,by with_unfolding_all rfl⟩
 case F=>
  intro w mg fa h KX G hmg;apply R.all_of (n:=5) KX G hmg Kz.O20 (le_refl _)
  . (repeat' (first|exact trivial|apply R.AllAtG.cons|apply R.AllInG.cons))
    . apply R.clOk (c:=0) KX G rfl<;>first|k_is|((repeat' (first|exact trivial|apply R.AllAtG.cons|apply R.AllInG.cons))<;>k_is)
  . (repeat' (first|exact trivial|apply R.AllAtG.cons|apply R.AllInG.cons))<;>k_is
  . (repeat' (first|exact trivial|apply R.AllAtG.cons|apply R.AllInG.cons))<;>(apply R.coOk;k_is)
  . intro base bm
    (repeat' (first|exact trivial|apply R.AllAtG.cons|apply R.AllInG.cons))
    . apply R.dOk KX G Kz.O19<;>k_is
    . apply R.lOkD KX G bm Kz.O21 Kz.lam_mem Kz.lam_one Kz.lam_b<;>first|k_is|with_unfolding_all rfl
    . apply R.dOk KX G Kz.O16<;>k_is
    . apply R.dOk KX G Kz.O17<;>k_is
    . apply R.dOk KX G Kz.O18<;>k_is
    . apply R.dOk KX G Kz.O0<;>k_is
    . apply R.dOk KX G Kz.O13<;>k_is
    . apply R.dOk KX G Kz.O6<;>k_is
    . apply R.dOk KX G Kz.O14<;>k_is
    . apply R.dOk KX G Kz.O8<;>k_is
    . apply R.dOk KX G Kz.O4<;>k_is
    . apply R.dOk KX G Kz.O10<;>k_is
    . apply R.dOk KX G Kz.O15<;>k_is
    . apply R.dOk KX G Kz.O3<;>k_is
    . apply R.dOk KX G Kz.O11<;>k_is
    . apply R.dOk KX G Kz.O12<;>k_is
    . apply R.dOk KX G Kz.O20<;>k_is
  . intro hc
    (repeat' (first|exact trivial|apply R.AllAtG.cons|apply R.AllInG.cons))
    . apply R.mOk (c:=0) hc Kz.O1 rfl rfl<;>k_is
    . apply R.mOk (c:=0) hc Kz.O2 rfl rfl<;>k_is
    . apply R.mOk (c:=0) hc Kz.O7 rfl rfl<;>k_is
  . (repeat' (first|exact trivial|apply R.AllAtG.cons|apply R.AllInG.cons))
    . apply R.iOk (c:=0) Kz.O5 rfl<;>k_is
  . (repeat' (first|exact trivial|apply R.AllAtG.cons|apply R.AllInG.cons))
    . apply R.cOk KX G Kz.O9<;>k_is
  . (repeat' (first|exact trivial|apply R.AllAtG.cons|apply R.AllInG.cons))
  all_goals k_is
end
