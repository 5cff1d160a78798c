import PyProof.Rows.All
import KE.KIntText
import PyProof.StrWalks
import PyProof.StrBlock2
import PyProof.MeetsStr
import PyProof.MeetsStr2
import PyProof.PureStr
import PyProof.SliceStr2
import PyProof.StrBlockI
import Wide.All
import OpenK.AllK
import Wide.FinOn
import Lean
import PyProof.EqAt
import PyProof.EqKinds
import PyProof.TupleCall
import PyProof.P3Statements
import PyProof.Dict
import PySem.Syntax
import PyProof.StationsW
import PyProof.ExcClass3
import PyProof.ExcInit
import PyProof.ExcAttrAll.ValueError
import OpenK.KMake
import OpenK.KWalk
import KE.KIsAll
import OpenK.KOwn
import KE.KTryMore
import PyProof.RulesAs
import PyProof.NsDelKeeps
import PySem.Challenge.RW_traitorround_k81_numbers_and_paths
set_option Elab.async false
set_option linter.all false
set_option maxHeartbeats 4000000
set_option maxRecDepth 100000
set_option bootstrap.genMatcherCode false
open Bool (and_eq_true not_eq_true' or_eq_true)
open Nat (le_of_eq le_of_lt le_refl le_succ le_trans lt_irrefl lt_of_lt_of_le lt_succ_self lt_trans ne_of_gt ne_of_lt zero_add zero_le)
open List (all_cons all_eq_true append_nil getElem?_append_left getElem?_append_right getElem?_eq_getElem getElem?_map getElem?_set_ne getElem?_set_self isEmpty_iff length_append length_cons length_map length_nil length_replicate length_take lookup_cons mapM_cons map_cons map_map mem_append mem_append_left mem_append_right mem_cons mem_cons_of_mem mem_cons_self mem_map mem_of_getElem? mem_singleton nodup_cons not_mem_nil prefix_append prefix_refl size_toArray)
open PySem.W (callWith_K codeIn emptyDict findCls fnOf instObj isFn keepIn kia_one kitOne kitx_dict kitx_list lookIn makesIn methodObj mg_of nsIn plainGet plainOver readsIn specialIn takerIn takesIn)
open Int (emod_nonneg)
open Option (bind_some)
namespace PySem.W.Fast
def tw11946247752646266863:=0
def tw12629432655474747022:=0
def tw10525335686131583687:=0
def tw7170973461608903895:=0
def tw880709470412386123:=0
def tw2873538063014401706:=0
def tw9792650900190869374:=0
def tw15879407942941333628:=0
def tw6990850100977901549:=0
def tw1375689545616099601:=0
def tw2530772824486338713:=0
def tw17644605158238148855:=0
def tw9764847540674028096:=0
def tw5973054277202134167:=0
def tw1434830541281406896:=0
def tw16053878392778043663:=0
def tw2306107442990950745:=0
def tw3551761373426608581:=0
def tw8883557312584299292:=0
def tw2957389248134621765:=0
def tw18295027925427044:=0
def tw836524675869185209:=0
def tw420695162956901175:=0
def tw17949687700139843312:=0
def tw7982894231934336091:=0
def tw17434392530468574850:=0
def tw11006314354719413260:=0
def tw12636047787697054556:=0
def tw4951298580592235138:=0
def tw4009687220559016048:=0
def tw3345149829219178439:=0
def tw18064649367317217386:=0
def tw5661847336448611907:=0
def tw2533986599917221112:=0
def tw12055382942033748646:=0
def tw13310901296933387573:=0
def tw4727889839674757140:=0
def tw6801656725340462982:=0
def tw10247171100501070578:=0
def tw10363431274873372898:=0
def tw12085379283966598819:=0
def tw10319499162797388187:=0
def tw7264641834511410320:=0
def tw7372330629668251840:=0
def tw6215383529149185459:=0
def tw749249262831621181:=0
def tw7948656109476933301:=0
def tw344423509651211123:=0
def tw8373902001580247785:=0
def tw237691869685408860:=0
def tw3132961638377011490:=0
def tw2982437018776201465:=0
def tw4688685832835802446:=0
def tw15056607622292938124:=0
def tw2404654200144586090:=0
def tw8606241309568532842:=0
def tw1587566226918331666:=0
def tw2605713611414333600:=0
def tw12902400138209777627:=0
def tw3882442178942852922:=0
def tw15090083665760134988:=0
def tw5728132951980909381:=0
def tw12873825703302209729:=0
def tw11450736950287541693:=0
def tw8656357279413398770:=0
def tw6442684958658996393:=0
def tw5231742657372359666:=0
def tw11994519561108744466:=0
def tw3564804399413529010:=0
def tw10757714398755045007:=0
def tw2243824520644464972:=0
def tw8312177674291805926:=0
def tw3970842094801360040:=0
def tw1225601357397030221:=0
def tw8499140687332988188:=0
def tw4642484087245587187:=0
def tw4156297107180014794:=0
def tw13081002296728919145:=0
def tw7401792236039680799:=0
def tw3582745256721302185:=0
def tw17359389135981089702:=0
def tw15560545475065323826:=0
def tw8504180074360201543:=0
def tw8447456692098309574:=0
def tw14949352534943849700:=0
def tw1975208434513375399:=0
def tw9286371560122967437:=0
def tw12534884042122652319:=0
def tw16229332813959020551:=0
def tw5998791379846547237:=0
def tw6220447776224502611:=0
def tw12667837092578131543:=0
def tw5812932770780081462:=0
def tw14287035733616391218:=0
def tw7740861106358856718:=0
def tw1259729914247127941:=0
def tw10021818702240143512:=0
def tw270226902536125378:=0
def tw8753146861166617678:=0
def tw6595981182265140298:=0
def tw4108472901295691441:=0
def tw14693641535949412419:=0
def tw18024603147769923676:=0
def tw3021831887790236866:=0
def tw3865241870152686714:=0
def tw17132406591334779495:=0
def tw5365943169681264586:=0
def tw9286354201178255029:=0
def tw13907973784631153605:=0
def tw4052458397692414229:=0
def tw1529438959759024145:=0
def tw17065755394928122258:=0
def tw8248195592517182853:=0
def tw12827443849094529037:=0
def tw6460886523804327699:=0
def tw17231577508953425819:=0
def tw157681322864412311:=0
def tw4527563759071179997:=0
def tw2475049065311341295:=0
def tw6723605324032295207:=0
def tw12044211274001301240:=0
def tw12215565529889031526:=0
def tw17713532994054913104:=0
def tw9061609818241230312:=0
def tw10238164556137222627:=0
def tw16227895826369061068:=0
def tw11600409926350061943:=0
def tw3590709390123983393:=0
def tw10977715767610191539:=0
def tw17868576179300838974:=0
def tw3020541801774916948:=0
def tw10119101381413712228:=0
def tw8292421806338385073:=0
def tw17220700627959449609:=0
def tw3322223903558817133:=0
def tw14519838833547265634:=0
def tw3351842534697789971:=0
def tw15547561284331155164:=0
def tw17403019498094214523:=0
def tw18105424665527398136:=0
def tw3524237654351639692:=0
def tw1338603234277708223:=0
def tw16493133050720108144:=0
def tw12927550646734668791:=0
def tw3001682216143958718:=0
def tw4055701016903897259:=0
def tw4626819147188199412:=0
def tw1817668776755077863:=0
def tw15363421809831218280:=0
def tw6378121718753591837:=0
def tw16618910607585066773:=0
def tw13225003073154144585:=0
def tw15685519171326216855:=0
def tw9315968310274421516:=0
def tw8117446368420104223:=0
def tw18016319155854103063:=0
def tw16983176221021360996:=0
def tw11218378508088167443:=0
def tw2886581462625394746:=0
def tw4370334494470795099:=0
def tw7643152828899435824:=0
def tw167324558965896999:=0
def tw81238318395891999:=0
def tw13214403204396236869:=0
def tw17148783728906030523:=0
def tw9963030368666962066:=0
def tw13455835353429393102:=0
def tw1678948661596277820:=0
def tw2769782008823164529:=0
def tw1497847184816917137:=0
def tw5471831680009121363:=0
def tw5457117362475727145:=0
def tw14025039915959032163:=0
def tw592669958046250467:=0
def tw4186530175813851162:=0
def tw2484692750394780185:=0
def tw3462033907631004011:=0
def tw1316159817646286378:=0
def tw1066878339978653606:=0
def tw6507660662095364434:=0
def tw9462255041004241679:=0
def tw10289526790748349382:=0
def tw14126579958529045720:=0
def tw18158222822297488529:=0
def tw12881249535564600387:=0
def tw13691569204439570998:=0
def tw11134131486122791569:=0
def tw8654482050219458518:=0
def tw17888246799090607825:=0
def tw10820083064793317018:=0
def tw3064013833466728359:=0
def tw8172778427703918115:=0
def tw6483476976119773065:=0
def tw4299159307807934152:=0
def tw8069250618830922440:=0
def tw18240446202433772780:=0
def tw3363996181622541179:=0
def tw12410063097011666028:=0
def tw14849050172405610800:=0
def tw5824044357426474259:=0
def tw10475759810070553952:=0
def tw15395622319104336944:=0
def tw1340423976224627404:=0
def tw15849649554165159636:=0
def tw13029737296282609910:=0
def tw14670515470560652427:=0
def tw13635899739991898107:=0
def tw14695356022468512620:=0
def tw8181039530633887680:=0
def tw6678211834349892479:=0
def tw4881444305155139186:=0
def tw1726284044938233142:=0
def tw6653428732530840964:=0
def tw8527408099254107711:=0
def tw198583492170441094:=0
def tw4203558727468527136:=0
def tw18324261285107824177:=0
def tw13871748384561083197:=0
def tw3136607075172848690:=0
def tw3841948809138796469:=0
def tw12326549288151208305:=0
def tw6557163388335112989:=0
def tw9942234863282585473:=0
def tw11112859019970789124:=0
def tw2613267332112273257:=0
def tw15778624949552124773:=0
def tw14382951967057291905:=0
def tw5429679342574324959:=0
def tw5620393888329782480:=0
def tw2893513314715499224:=0
def tw1315001475925135066:=0
def tw5386198924491631947:=0
def tw6826175261641848401:=0
def tw9104416783230564308:=0
def tw4976451234112529318:=0
end PySem.W.Fast
namespace L2
open PySem PySem.Spec PyProof.Rows
abbrev Key:=Sum Int Str
noncomputable def zms:Key->Value->Bool
 |.inl k,v=>Value.isInt k v|.inr x,v=>Value.isStrOf x v
noncomputable def keyH(w:World):Key->Int
 |.inl k=>hashInt k|.inr x=>hashStr w x
theorem zas:∀{k:Key}{v:Value},zms k v=true->(∃i t,k=Sum.inl i/\v=Value.int i t)\/(∃x t,k=Sum.inr x/\v=Value.str x t)
 |.inl i,v,h=>by obtain⟨t,e⟩:=Value.isInt_shape (k:=i) (v:=v) h;exact .inl ⟨i,t,rfl,e⟩| .inr x,v,h=>by obtain⟨t,e⟩:=Value.isStrOf_shape (x:=x) (v:=v) h;exact .inr ⟨x,t,rfl,e⟩
theorem zmr(a b:Int):decide ((Sum.inl a:Key)=Sum.inl b)=(a==b):=by by_cases e:a=b;subst e;simp;have h:¬(Sum.inl a:Key)=Sum.inl b:=fun q=>e (Sum.inl.inj q);rw[decide_eq_false h];exact(beq_eq_false_iff_ne.mpr e).symm
theorem zmo(a b:Str):decide ((Sum.inr a:Key)=Sum.inr b)=decide (a=b):=by by_cases e:a=b;subst e;simp;have h:¬(Sum.inr a:Key)=Sum.inr b:=fun q=>e (Sum.inr.inj q);rw[decide_eq_false h,decide_eq_false e]
theorem zmq(a:Int)(b:Str):decide ((Sum.inl a:Key)=Sum.inr b)=false:=decide_eq_false (fun q=>nomatch q)
theorem zmp(a:Str)(b:Int):decide ((Sum.inr a:Key)=Sum.inl b)=false:=decide_eq_false (fun q=>nomatch q)
noncomputable def zet(prog:Program)(w:World):PySem.KeyKind prog w Key where
 is:=zms
 hash:=keyH w
 inj:=fun v a b ha hb=>by rcases zas ha with⟨i,t,rfl,rfl⟩|⟨x,t,rfl,rfl⟩;rcases zas hb with⟨j,u,rfl,e⟩|⟨y,u,rfl,e⟩;injection e with e1 _;rw[e1];exact nomatch e;rcases zas hb with⟨j,u,rfl,e⟩|⟨y,u,rfl,e⟩;exact nomatch e;injection e with e1 _;rw[e1]
 byValue:=fun k v h=>by rcases zas h with⟨i,t,rfl,rfl⟩|⟨x,t,rfl,rfl⟩<;>rfl
 pyHash:=fun hv h=>by rcases zas hv with⟨i,t,rfl,rfl⟩|⟨x,t,rfl,rfl⟩;exact wpAny_pyHash_int h;exact wpAny_pyHash_str h
 eqBool:=fun hu hv h=>by rcases zas hu with⟨i,t,rfl,rfl⟩|⟨x,t,rfl,rfl⟩;rcases zas hv with⟨j,u,rfl,rfl⟩|⟨y,u,rfl,rfl⟩;rw[zmr]at h;exact wpAny_eqBool_int h;rw[zmq]at h;exact SeqAt.EqAt.int_str i t y u _ _ _ _ h;rcases zas hv with⟨j,u,rfl,rfl⟩|⟨y,u,rfl,rfl⟩;rw[zmp]at h;exact SeqAt.EqAt.str_int x t j u _ _ _ _ h;rw[zmo]at h;exact wpAny_eqBool_str h
 «strs»:=fun k x t v h=>by
  rcases zas h with⟨i,u,rfl,e⟩|⟨y,u,rfl,e⟩;exact nomatch e
  . injection e with e1 _;subst e1;cases v<;>rfl
inductive V where
 |non|bl (b:Bool)|int (i:Int)|str (x:Str)|byt (b:Array UInt8)|flt (b:UInt64)|ref (a:Addr)|ty (n:String)
 deriving DecidableEq
def RelV:V->Value->Prop
 |.non,u=>u=Value.none|.bl b,u=>u=Value.bool b|.int i,u=>∃t,u=Value.int i t|.str x,u=>∃t,u=Value.str x t|.byt b,u=>∃t,u=Value.bytes b t|.flt b,u=>∃t,u=Value.float b t|.ref a,u=>u=Value.ref a|.ty n,u=>u=Value.type n
abbrev Vals:List V->List Value->Prop:=Paired RelV
theorem Vals.length{xs:List V}{us:List Value}(r:Vals xs us):xs.length=us.length:=Paired.length r
theorem Vals.get:∀{xs:List V}{us:List Value}{i:Nat}{x:V},Vals xs us->xs[i]?=some x->∃u,us[i]?=some u/\RelV x u
 |_,_,_,_,.nil,e=>by simp at e|_,_,0,_,.cons r _,e=>by simp at e;subst e;exact⟨_,rfl,r⟩| _,_,i+1,x,.cons _ t,e=>by obtain⟨u,h1,h2⟩:=Vals.get (i:=i) (x:=x) t (by simpa using e);exact⟨u,by simpa using h1,h2⟩
theorem Vals.set{x:V}{u:Value}(r:RelV x u):∀{xs:List V}{us:List Value}(i:Nat),Vals xs us->Vals (xs.set i x) (us.set i u)
 |_,_,_,.nil=>.nil|_,_,0,.cons _ t=>.cons r t|_,_,i+1,.cons q t=>.cons q (Vals.set r i t)
theorem Vals.append:∀{xs ys:List V}{us ws:List Value},Vals xs us->Vals ys ws->Vals (xs++ys) (us++ws)
 |_,_,_,_,.nil,s=>s|_,_,_,_,.cons r t,s=>.cons r (Vals.append t s)
theorem Vals.take:∀{xs:List V}{us:List Value}(n:Nat),Vals xs us->Vals (xs.take n) (us.take n)
 |_,_,0,_=>.nil|_,_,_+1,.nil=>.nil|_,_,n+1,.cons r t=>.cons r (Vals.take n t)
theorem Vals.drop:∀{xs:List V}{us:List Value}(n:Nat),Vals xs us->Vals (xs.drop n) (us.drop n)
 |_,_,0,r=>r|_,_,_+1,.nil=>.nil|_,_,n+1,.cons _ t=>Vals.drop n t
def RelO:Option V->Option Value->Prop
 |some v,some u=>RelV v u|none,none=>True|_,_=>False
def KV{κ:Type}:List (κ×V)->List (κ×Value)->Prop:=Paired fun(p:κ×V) (q:κ×Value)=>p.1=q.1/\RelV p.2 q.2
noncomputable def kV:Key->V
 |.inl i=>.int i|.inr x=>.str x
inductive HO where
 |lst (xs:List V)
 |tup (xs:List V)
 |dK (kvs:List (Key×V))|dT (kvs:List (List Key×V))
 |set (S:Int->Bool) (n:Nat)
 |ins (C dx:Addr) (fs:List (Str×V))
 |own (x:Addr)
 |xd (fs:List (Str×V))
 |met (f x:Addr)
 |rng (lo hi:Int)
 |frz (o:Obj) (u:HO)
 |tbl (ps:Array Value)
 |ext (φ:Heap->Prop)
abbrev Hp:=Addr->Option HO
noncomputable def upd(H:Hp)(a:Addr)(o:HO):Hp:=fun b=>if b=a then some o else H b
theorem zai{H:Hp}{a:Addr}{o:HO}:upd H a o a=some o:=by unfold upd;rw[if_pos rfl]
theorem zaf{H:Hp}{a b:Addr}{o:HO}(h:b≠a):upd H a o b=H b:=by unfold upd;rw[if_neg h]
theorem zi7{H:Hp}{a:Addr}{o u:HO}:upd (upd H a o) a u=upd H a u:=by funext b;unfold upd;split<;>rfl
theorem zau{H:Hp}{a b:Addr}{o:HO}(h:H a=some o)(h':H b=none):a≠b:=by intro e;subst e;rw[h]at h';cases h'
section
variable(P:Program)(w:World)
def ObjOk(H:Hp)(h:Heap)(a:Addr):HO->Prop
 |.lst xs=>xs.length<=sizeLine/\∃(its:List Value) (n:Nat),Vals xs its/\h.get? a=some {cls:=.type "list",data:=.seq its.toArray n}|.tup xs=>xs.length<=sizeLine/\∃its:List Value,Vals xs its/\IsTup h a its.toArray|.dK kvs=>kvs.length<=sizeLine/\(a==sysModules)=false/\∃vs,KV kvs vs/\h.DictOf (zet P w) a vs
 |.dT kvs=>kvs.length<=sizeLine/\(a==sysModules)=false/\∃xs:List (List Key×Addr×Value),
  Paired (fun(p:List Key×V) (q:List Key×Addr×Value)=>p.1=q.1/\H q.2.1=some (.tup (p.1.map kV))/\RelV p.2 q.2.2) kvs xs/\
  ∃o es ep,h.get? a=some o/\o.ExactDict/\o.data=.dict es ep/\es.toList=xs.map (entryOfKey (tupleKind (zet P w)))/\(xs.map (·.1)).Nodup
 |.set S n=>h.SetOf (intKind P w) a S n
 |.ins C dx fs=>H dx=some (.own a)/\fs.length<=1000/\dx≠a/\h.get? a=some (instObj C dx)/\
  ∃mA,h.Ns1 dx mA/\(∀f,RelO (fs.lookup f) (mA f))/\PySem.Within mA (fs.map (·.1))
 |.own _=>∃o,h.get? a=some o|.xd fs=>∃mA,h.Ns1 a mA/\∀f,RelO (fs.lookup f) (mA f)|.rng lo hi=>∃t u v,h.get? a=some {cls:=.type "range",data:=.fields #[.int lo t,.int hi u,.int 1 v]}|.frz o u=>h.get? a=some o/\ObjOk H h a u|.tbl ps=>h.get? a=some {cls:=.none,data:=.fields ps}|.met f x=>h.get? a=some (methodObj (.ref f) (.ref x))|.ext φ=>φ h/\(∃o,h.get? a=some o)/\∀h1 h2:Heap,φ h1->(∀o,h1.get? a=some o->h2.get? a=some o)->φ h2
def HOk(H:Hp)(h:Heap):Prop:=∀a o,H a=some o->ObjOk P w H h a o
end
section
variable{P:Program}{w:World}{H H':Hp}{h h':Heap}{a:Addr}{o:HO}
theorem ObjOk.lt(x:ObjOk P w H h a o):a<h.objs.size:=by cases o with|lst xs=>obtain⟨_,_,_,_,e⟩:=x;exact Heap.lt_size e|tup xs=>obtain⟨_,_,_,p⟩:=x;exact p.lt|dK kvs=>obtain⟨_,_,_,_,o,_,_,e,_⟩:=x;exact Heap.lt_size e|dT kvs=>obtain⟨_,_,_,_,o,_,_,e,_⟩:=x;exact Heap.lt_size e|set S n=>obtain⟨o,_,_,_,e,_⟩:=x;exact Heap.lt_size e|ins C dx fs=>obtain⟨_,_,_,e,_⟩:=x;exact Heap.lt_size e|own y=>obtain⟨_,e⟩:=x;exact Heap.lt_size e|xd fs=>obtain⟨_,⟨_,_,_,e,_⟩,_⟩:=x;exact Heap.lt_size e|rng lo hi=>obtain⟨_,_,_,e⟩:=x;exact Heap.lt_size e|frz ob u=>obtain⟨e,_⟩:=x;exact Heap.lt_size e|tbl ps=>exact Heap.lt_size (show h.get? a=some _ from x)|met f y=>exact Heap.lt_size (show h.get? a=some _ from x)|ext φ=>obtain⟨_,⟨_,e⟩,_⟩:=x;exact Heap.lt_size e
theorem Paired.mapP{α β:Type}{F G:α->β->Prop}:∀{l₁:List α}{l₂:List β},Paired F l₁ l₂->(∀a b,F a b->G a b)->Paired G l₁ l₂
 |_,_,.nil,_=>.nil|_,_,.cons r t,f=>.cons (f _ _ r) (Paired.mapP t f)
theorem ObjOk.stay(x:ObjOk P w H h a o)(k:∀b u,(b=a\/H b=some (.own a))->h.get? b=some u->h'.get? b=some u)
  (ho:∀b,H b=some (.own a)->H' b=some (.own a)) (ht:∀b xs,H b=some (.tup xs)->H' b=some (.tup xs)):ObjOk P w H' h' a o:=by
 induction o with|lst xs=>obtain⟨z,its,n,r,e⟩:=x;exact⟨z,its,n,r,k _ _ (.inl rfl) e⟩|tup xs=>obtain⟨z,its,r,ob,e,c⟩:=x;exact⟨z,its,r,ob,k _ _ (.inl rfl) e,c⟩|dK kvs=>obtain⟨z,y,vs,r,ob,es,ep,e,c⟩:=x;exact⟨z,y,vs,r,ob,es,ep,k _ _ (.inl rfl) e,c⟩| dT kvs=>obtain⟨z,y,xs,r,ob,es,ep,e,c⟩:=x;exact⟨z,y,xs,Paired.mapP r fun p q z=>⟨z.1,ht _ _ z.2.1,z.2.2⟩,ob,es,ep,k _ _ (.inl rfl) e,c⟩|set S n=>obtain⟨ob,es,ep,t,e,c⟩:=x;exact⟨ob,es,ep,t,k _ _ (.inl rfl) e,c⟩| ins C dx fs=>obtain⟨d,z,ne,e,mA,⟨od,es,ep,e2,c⟩,r⟩:=x;exact⟨ho _ d,z,ne,k _ _ (.inl rfl) e,mA,⟨od,es,ep,k _ _ (.inr d) e2,c⟩,r⟩|own y=>obtain⟨ob,e⟩:=x;exact⟨ob,k _ _ (.inl rfl) e⟩|xd fs=>obtain⟨mA,⟨od,es,ep,e,c⟩,r⟩:=x;exact⟨mA,⟨od,es,ep,k _ _ (.inl rfl) e,c⟩,r⟩|rng lo hi=>obtain⟨t,u,v,e⟩:=x;exact⟨t,u,v,k _ _ (.inl rfl) e⟩|frz ob u ih=>obtain⟨e,q⟩:=x;exact⟨k _ _ (.inl rfl) e,ih q⟩| tbl ps=>have e:h.get? a=some {cls:=.none,data:=.fields ps}:=x;show h'.get? a=some {cls:=.none,data:=.fields ps};exact k a _ (.inl rfl) e| met f y=>have e:h.get? a=some (methodObj (.ref f) (.ref y)):=x;show h'.get? a=some (methodObj (.ref f) (.ref y));exact k a _ (.inl rfl) e|ext φ=>obtain⟨p,⟨o,e⟩,st⟩:=x;exact⟨st _ _ p fun o q=>k _ _ (.inl rfl) q,⟨o,k _ _ (.inl rfl) e⟩,st⟩
theorem HOk.lt(x:HOk P w H h)(e:H a=some o):a<h.objs.size:=(x a o e).lt
theorem HOk.fresh(x:HOk P w H h)(e:h.objs.size<=a):H a=none:=by cases q:H a with|none=>rfl|some u=>exact absurd (lt_of_lt_of_le (x.lt q) e) (lt_irrefl _)
theorem HOk.kept(x:HOk P w H h)(k:∀b u,h.get? b=some u->h'.get? b=some u):HOk P w H h':=fun a o e=>(x a o e).stay (fun b u _ q=>k b u q) (fun _ q=>q) fun _ _ q=>q
theorem HOk.laid(x:HOk P w H h)(k:∀b u,h.get? b=some u->h'.get? b=some u)(hp:h.objs.size<=a)(new:ObjOk P w (upd H a o) h' a o):HOk P w (upd H a o) h':=fun b u e=>by have hn:=x.fresh hp;by_cases hb:b=a;subst hb;rw[zai]at e;cases e;exact new;rw[zaf hb]at e;exact(x b u e).stay (fun c v _ q=>k c v q) (fun c q=>by rw[zaf (zau q hn)];exact q) fun c xs q=>by rw[zaf (zau q hn)];exact q
end
def Rd(H:Hp)(a:Addr)(u:HO):Prop:=H a=some u\/∃o,H a=some (.frz o u)
theorem Rd.ok{P:Program}{w:World}{H:Hp}{h:Heap}{a:Addr}{u:HO}(r:Rd H a u)(x:HOk P w H h):ObjOk P w H h a u:=by rcases r with r|⟨o,r⟩;exact x a u r;obtain⟨_,q⟩:=x a _ r;exact q
def Mut:Option HO->Prop
 |some (.lst _)=>True|some (.dK _)=>True|some (.dT _)=>True|some (.set _ _)=>True|some (.ins _ _ _)=>True|some (.ext _)=>True|_=>False
section
variable{P:Program}{w:World}{H:Hp}{h h':Heap}{x e:Addr}{o':HO}
theorem HOk.write(ok:HOk P w H h)(mu:Mut (H x))(he:e=x\/H e=some (.own x))(k:∀b u,b≠e->h.get? b=some u->h'.get? b=some u)(heo:∃u,h'.get? e=some u)
  (new:ObjOk P w (upd H x o') h' x o'):HOk P w (upd H x o') h':=fun b u q=>by
 have nown:∀c y,H c=some (.own y)->c≠x:=fun c y r z=>by subst z;rw[r]at mu;exact mu
 have ntup:∀c xs,H c=some (.tup xs)->c≠x:=fun c xs r z=>by subst z;rw[r]at mu;exact mu
 by_cases hb:b=x;subst hb;rw[zai]at q;cases q;exact new;rw[zaf hb]at q;by_cases hbe:b=e;have q':H b=some (.own x):=by rcases he with z|z;exact absurd (hbe.trans z) hb;rw[hbe];exact z
 rw[q]at q';cases q';obtain⟨v,hv⟩:=heo;exact⟨v,by rw[hbe];exact hv⟩;refine(ok b u q).stay (fun c v hc r=>k c v ?_ r) (fun c r=>by rw[zaf (nown c b r)];exact r) fun c xs r=>by rw[zaf (ntup c xs r)];exact r
 rcases hc with rfl|hc;exact hbe;rintro rfl;rcases he with z|z;exact nown c b hc z;rw[hc]at z;cases z;exact hb rfl
end
structure Un(fs ex:List Addr)(H H':Hp)(h h':Heap):Prop where
 keep:∀b o,h.get? b=some o->H b=none->b∉fs->b∉ex->h'.get? b=some o
 slot:∀b o,h.get? b=some o->H b=none->b∈fs->b∉ex->∃sl,h'.get? b=some {o with slots:=sl}
 free:∀b o,h.get? b=some o->H b=none->b∉ex->H' b=none
 there:∀b o,h.get? b=some o->b∉ex->∃o',h'.get? b=some o'
 tups:∀b xs,H b=some (.tup xs)->H' b=some (.tup xs)
 frzs:∀b o u,H b=some (.frz o u)->H' b=some (.frz o u)
 tbls:∀b ps,H b=some (.tbl ps)->∃more,H' b=some (.tbl (ps++more))
section
variable{fs fs' ex ex':List Addr}{H H1 H2:Hp}{h h1 h2 h':Heap}{a x e:Addr}{o:HO}
theorem Un.any(u:Un fs ex H H1 h h1){b:Addr}{ob:Obj}(q:h.get? b=some ob)(n:H b=none)(hx:b∉ex):∃sl,h1.get? b=some {ob with slots:=sl}:=by by_cases hb:b∈fs;exact u.slot b ob q n hb hx;exact⟨ob.slots,u.keep b ob q n hb hx⟩
theorem Un.kept(k:∀b u,h.get? b=some u->h'.get? b=some u):Un fs ex H H h h':=⟨fun b ob q _ _ _=>k b ob q,fun b ob q _ _ _=>⟨ob.slots,k b ob q⟩,fun _ _ _ n _=>n,fun b ob q _=>⟨ob,k b ob q⟩,fun _ _ q=>q,fun _ _ _ q=>q,fun _ ps q=>⟨#[],by rw[q];simp⟩⟩
theorem Un.refl:Un fs ex H H h h:=Un.kept fun _ _ q=>q
theorem Un.laid(k:∀b u,h.get? b=some u->h'.get? b=some u)(hp:h.objs.size<=a)(hn:H a=none):Un fs ex H (upd H a o) h h' where
 keep:=fun b u q _ _ _=>k b u q
 slot:=fun b u q _ _ _=>⟨u.slots,k b u q⟩
 free:=fun b u q n _=>by rw[zaf (ne_of_lt (lt_of_lt_of_le (Heap.lt_size q) hp))];exact n
 there:=fun b u q _=>⟨u,k b u q⟩
 tups:=fun b xs q=>by rw[zaf (zau q hn)];exact q
 frzs:=fun b u xs q=>by rw[zaf (zau q hn)];exact q
 tbls:=fun b ps q=>⟨#[],by rw[zaf (zau q hn),q];simp⟩
theorem Un.write(mu:Mut (H x))(he:e=x\/H e=some (.own x))(k:∀b u,b≠e->h.get? b=some u->h'.get? b=some u)(heo:∃u,h'.get? e=some u):Un fs ex H (upd H x o) h h':=by
 have hx:∀b,H b=none->b≠x:=fun b n z=>by subst z;rw[n]at mu;exact mu
 have hb:∀b,H b=none->b≠e:=fun b n z=>by subst z;rcases he with r|r;exact hx b n r;rw[n]at r;cases r
 have hm:∀b u,H b=some u->¬Mut (some u)->b≠x:=fun b u q nm z=>by subst z;rw[q]at mu;exact nm mu
 refine⟨fun b u q n _ _=>k b u (hb b n) q,fun b u q n _ _=>⟨u.slots,k b u (hb b n) q⟩,fun b u q n _=>by rw[zaf (hx b n)];exact n,fun b u q _=>?_,
  fun b xs q=>by rw[zaf (hm b _ q fun z=>z)];exact q,fun b u xs q=>by rw[zaf (hm b _ q fun z=>z)];exact q,fun b ps q=>⟨#[],by rw[zaf (hm b _ q fun z=>z),q];simp⟩⟩
 by_cases hbe:b=e;subst hbe;exact heo;exact⟨u,k b u hbe q⟩
end
noncomputable def trk(h:Heap)(H:Hp):List Addr:=(List.range h.objs.size).filter fun a=>(H a).isSome
noncomputable def hidT(h:Heap)(H:Hp):Heap:=PySem.W.hideAll h (trk h H)
theorem zgQ(h:Heap)(H:Hp):(hidT h H).objs.size=h.objs.size:=PySem.W.hideAll_size _ _
theorem zh9{h:Heap}{H:Hp}{b:Addr}{o:Obj}(e:h.get? b=some o)(n:H b=none):(hidT h H).get? b=some o:=PySem.W.hideAll_get _ e fun hm=>by have q:(H b).isSome=true:=(List.mem_filter.mp hm).2;rw[n]at q;simp at q
theorem zj6{h:Heap}{H:Hp}{b:Addr}{o:Obj}(e:(hidT h H).get? b=some o):h.get? b=some o/\H b=none:=by have e':h.get? b=some o:=PySem.W.of_hideAll (trk h H) e;refine⟨e',?_⟩;cases q:H b with|none=>rfl| some x=>have hm:b∈trk h H:=List.mem_filter.mpr ⟨List.mem_range.mpr (Heap.lt_size e'),by simp[q]⟩;have z:(hidT h H).get? b=none:=PySem.W.hideAll_none (trk h H) hm;rw[z]at e;cases e
structure Mod(K:PySem.W.Frag)(mg:Str->Option Value)(base:Heap):Prop where
 kin:K.In base
 glob:base.Ns mainGlobals mg
 blt:∃mb,base.Ns builtinsNs mb/\∀x:Str,x≠"__name__"->mb x=bootBuiltins x
 nolimit:base.NoLimit
structure Cx where
 prog:Program
 w:World
 K:PySem.W.Frag
 mg:Str->Option Value
 base:Heap
 A:Around
 N:List Str
 s₀:Shared
 H₀:Hp
 env:Env
 outer:List Env
 stack:List Env
 ex:List Addr
 fn:Str->Bool
 calm:Bool
 pn:List (Addr×Obj)
 xe:Value->Shared->Prop
noncomputable def frs(l:List Env):List Addr:=l.filterMap (·.frame)
noncomputable abbrev Cx.fs(X:Cx):List Addr:=frs X.outer
def Vis(sc:Scope)(x:Str):Prop:=sc.names.lookup x=some .local\/sc.names.lookup x=some .cell\/sc.names.lookup x=some .free
def Loc(sc:Scope)(x:Str):Prop:=sc.names.lookup x=some .local\/sc.names.lookup x=some .cell
def Look(env:Env)(h:Heap)(m:Str->Option Value)(x:Str)(u:Value):Prop:=(env.kindOf x=some .local/\m x=some u)\/((env.kindOf x=some .cell\/env.kindOf x=some .free)/\∃c,env.cells.lookup x=some c/\h.IsCell c (some u))
structure Cx.Ok(X:Cx):Prop where
 mod:Mod X.K X.mg X.base
 kind:X.env.scope.kind=.function
 glob:X.env.globals=mainGlobals
 blt:X.env.builtins=builtinsNs
 above:X.s₀.heap.objs.size<=X.env.locals
 inj:∀x y c,X.env.cells.lookup x=some c->X.env.cells.lookup y=some c->x=y
 has:∀x,(X.env.kindOf x=some .cell\/X.env.kindOf x=some .free)->∃c,X.env.cells.lookup x=some c
 cab:∀x c,X.fn x=true->X.env.cells.lookup x=some c->X.s₀.heap.objs.size<=c
 hd:X.calm=true->X.A.handled=none
 frames:X.A.frames=some X.stack
 stk:X.stack=X.outer\/(X.stack=X.env::X.outer/\X.env.frame=some X.env.locals)
 exf:∀b∈X.ex,b≠X.env.locals/\∀x c,X.env.cells.lookup x=some c->c≠b
 bs:∀b o,X.base.get? b=some o->X.s₀.heap.get? b=some o/\X.H₀ b=none
 bsz:X.base.objs.size<=X.s₀.heap.objs.size
 noex:∀b o,X.base.get? b=some o->b∉X.ex
 exfs:∀b∈X.ex,b∉X.fs
 funs:X.s₀.heap.FunFrames X.base X.outer
 frf:∀b∈X.fs,X.H₀ b=none
structure Inv(X:Cx)(pins:List (Addr×Obj))(σ:List (Option V))(H:Hp)(s:Shared):Prop where
 ok:X.Ok
 os:s.os=X.s₀.os
 bare:AllBare s.gens
 base:Un X.fs X.ex X.H₀ H X.s₀.heap s.heap
 loc:∃m,s.heap.Ns X.env.locals m/\∀(i:Nat)(x:Str)(v:V),X.N[i]?=some x->σ[i]?=some (some v)->Vis X.env.scope x->∃u,RelV v u/\Look X.env s.heap m x u
 cell:∀x c,X.env.cells.lookup x=some c->∃v,s.heap.IsCell c v
 free:H X.env.locals=none
 freeC:∀x c,X.env.cells.lookup x=some c->H c=none
 pin:∀p∈X.pn++pins,s.heap.get? p.1=some p.2/\H p.1=none/\p.1≠X.env.locals/\p.1∉X.fs/\∀v,p.2.data≠.cell v
 hok:HOk X.prog X.w H s.heap
 len:σ.length=X.N.length
section
variable{X:Cx}{pins:List (Addr×Obj)}{σ:List (Option V)}{H H':Hp}{s:Shared}{h':Heap}
theorem Cx.Ok.nofr(ok:X.Ok){b:Addr}{o:Obj}(e:X.base.get? b=some o):b∉X.fs:=fun hb=>by have:=(ok.funs.mem hb).1;rw[e]at this;cases this
theorem Inv.bs(I:Inv X pins σ H s):∀b o,X.base.get? b=some o->s.heap.get? b=some o/\H b=none:=fun b o e=>⟨I.base.keep b o (I.ok.bs b o e).1 (I.ok.bs b o e).2 (I.ok.nofr e) (I.ok.noex b o e),I.base.free b o (I.ok.bs b o e).1 (I.ok.bs b o e).2 (I.ok.noex b o e)⟩
theorem Inv.bk(I:Inv X pins σ H s):∀b o,X.base.get? b=some o->s.heap.get? b=some o:=fun b o e=>(I.bs b o e).1
theorem Inv.mod(I:Inv X pins σ H s):Mod X.K X.mg X.base:=I.ok.mod
theorem Inv.kIn(I:Inv X pins σ H s):X.K.In s.heap:=I.ok.mod.kin.keeps I.bk
theorem Inv.lt(I:Inv X pins σ H s):X.env.locals<s.heap.objs.size:=let ⟨_,hn,_⟩:=I.loc;hn.lt
theorem Inv.sz(I:Inv X pins σ H s):X.s₀.heap.objs.size<=s.heap.objs.size:=le_trans I.ok.above (le_of_lt I.lt)
theorem Inv.nofs(I:Inv X pins σ H s){a:Addr}(h:s.heap.objs.size<=a):a∉X.fs:=fun hb=>by obtain⟨_,o,ho,_⟩:=I.ok.funs.mem hb;exact absurd (lt_of_lt_of_le (Heap.lt_size ho) (le_trans I.sz h)) (lt_irrefl _)
theorem Inv.cne(I:Inv X pins σ H s):∀x c,X.env.cells.lookup x=some c->c≠X.env.locals:=fun x c e z=>by obtain⟨v,o,ho,hd⟩:=I.cell x c e;obtain⟨m,⟨o',es,ep,ho',hd',_⟩,_⟩:=I.loc;rw[z,ho']at ho;cases ho;rw[hd']at hd;cases hd
theorem Inv.funs(I:Inv X pins σ H s):s.heap.FunFrames X.base X.outer:=by
 have all:∀(l:List Env),(∀b∈frs l,b∈X.fs)->X.s₀.heap.FunFrames X.base l->s.heap.FunFrames X.base l:=by intro l;induction l with|nil=>intro _ _;trivial| cons env r ih=>intro hs hl;obtain⟨hk,⟨L,o,hf,hn,ho,hd⟩,hr⟩:=hl;have hL:L∈X.fs:=hs L (by unfold frs;rw[List.filterMap_cons,hf];exact mem_cons_self);obtain⟨sl,e⟩:=I.base.slot L o ho (I.ok.frf L hL) hL fun z=>I.ok.exfs L z hL;exact⟨hk,⟨L,_,hf,hn,e,hd⟩,ih (fun b hb=>hs b (by unfold frs;rw[List.filterMap_cons,hf];exact mem_cons_of_mem _ hb)) hr⟩
 exact all X.outer (fun _ hb=>hb) I.ok.funs
theorem Inv.stack(I:Inv X pins σ H s):s.heap.FunFrames X.base X.stack:=by rcases I.ok.stk with e|⟨e,hf⟩;rw[e];exact I.funs;rw[e];obtain⟨m,hn,_⟩:=I.loc;refine .cons (by rw[I.ok.kind];decide) hf hn ?_ I.funs;exact Heap.get?_none_of_le (le_trans I.ok.bsz I.ok.above)
theorem Inv.stkSub(I:Inv X pins σ H s):∀b∈frs X.stack,b∈X.env.locals::X.fs:=fun b hb=>by rcases I.ok.stk with e|⟨e,hf⟩;rw[e]at hb;exact mem_cons_of_mem _ hb;rw[e]at hb;unfold frs at hb;rw[List.filterMap_cons,hf]at hb;exact hb
theorem Inv.stkFree(I:Inv X pins σ H s):∀b∈frs X.stack,H b=none:=fun b hb=>by rcases mem_cons.mp (I.stkSub b hb) with e|hb;rw[e];exact I.free;obtain⟨_,o,ho,_⟩:=I.ok.funs.mem hb;exact I.base.free b o ho (I.ok.frf b hb) fun z=>I.ok.exfs b z hb
theorem Inv.step{g':Array GenState}{t':Nat}{d':Drawn}{ch:List Addr}(I:Inv X pins σ H s)
  (hch:∀b∈ch,(b∈X.ex\/X.s₀.heap.objs.size<=b)/\b≠X.env.locals/\(∀x c,X.env.cells.lookup x=some c->c≠b)/\∀p∈X.pn++pins,p.1≠b)
  (keep:∀b o,b≠X.env.locals->b∉X.fs->b∉ch->s.heap.get? b=some o->H b=none->h'.get? b=some o)
  (slot:∀b o,b≠X.env.locals->b∈X.fs->b∉ch->s.heap.get? b=some o->H b=none->∃sl,h'.get? b=some {o with slots:=sl}) (free:∀b o,b∉ch->s.heap.get? b=some o->H b=none->H' b=none)
  (there:∀b o,b∉ch->s.heap.get? b=some o->∃o',h'.get? b=some o')
  (tups:∀b xs,H b=some (.tup xs)->H' b=some (.tup xs)) (frzs:∀b o u,H b=some (.frz o u)->H' b=some (.frz o u)) (tbls:∀b ps,H b=some (.tbl ps)->∃more,H' b=some (.tbl (ps++more)))
  (ns:∀m,s.heap.Ns X.env.locals m->h'.Ns X.env.locals m) (hok:HOk X.prog X.w H' h') (hg:AllBare g') :
  Inv X pins σ H' {s with heap:=h',gens:=g',drawn:=d',toks:=t'}:=by
 have neL:∀b o,X.s₀.heap.get? b=some o->b≠X.env.locals:=fun b o e=>ne_of_lt (lt_of_lt_of_le (Heap.lt_size e) I.ok.above);have neC:∀b o,X.s₀.heap.get? b=some o->b∉X.ex->b∉ch:=fun b o e hx hb=>by rcases(hch b hb).1 with z|z;exact hx z;exact absurd (lt_of_lt_of_le (Heap.lt_size e) z) (lt_irrefl _)
 have cellK:∀x c,X.env.cells.lookup x=some c->∀v,s.heap.IsCell c v->h'.IsCell c v:=fun x c e v ⟨o,ho,hd⟩=>by have nch:c∉ch:=fun z=>(hch c z).2.2.1 x c e rfl;by_cases hc:c∈X.fs;obtain⟨sl,q⟩:=slot c o (I.cne x c e) hc nch ho (I.freeC x c e);exact⟨_,q,hd⟩;exact⟨o,keep c o (I.cne x c e) hc nch ho (I.freeC x c e),hd⟩
 refine⟨I.ok,I.os,hg,⟨fun b o e n hb hx=>?_,fun b o e n hb hx=>?_,fun b o e n hx=>?_,fun b o e hx=>?_,fun b xs e=>tups b xs (I.base.tups b xs e),fun b o xs e=>frzs b o xs (I.base.frzs b o xs e),fun b ps e=>?_⟩,?_,fun x c e=>?_,?_,fun x c e=>?_,fun p hp=>?_,hok,I.len⟩;exact keep b o (neL b o e) hb (neC b o e hx) (I.base.keep b o e n hb hx) (I.base.free b o e n hx);obtain⟨sl,e1⟩:=I.base.slot b o e n hb hx;obtain⟨sl',e2⟩:=slot b _ (neL b o e) hb (neC b o e hx) e1 (I.base.free b o e n hx);exact⟨sl',e2⟩;obtain⟨o',e1⟩:=I.base.there b o e hx;exact free b o' (neC b o e hx) e1 (I.base.free b o e n hx);obtain⟨o',e1⟩:=I.base.there b o e hx;exact there b o' (neC b o e hx) e1;obtain⟨m1,e1⟩:=I.base.tbls b ps e;obtain⟨m2,e2⟩:=tbls b _ e1;exact⟨m1++m2,by rw[e2,Array.append_assoc]⟩;obtain⟨m,hn,hl⟩:=I.loc;refine⟨m,ns m hn,fun i x v e1 e2 e3=>?_⟩;obtain⟨u,r,l⟩:=hl i x v e1 e2 e3;refine⟨u,r,?_⟩;rcases l with l|⟨k,c,e,z⟩;exact .inl l;exact .inr ⟨k,c,e,cellK x c e _ z⟩;obtain⟨v,z⟩:=I.cell x c e;exact⟨v,cellK x c e v z⟩;obtain⟨m,⟨o,_,_,ho,_⟩,_⟩:=I.loc;exact free _ o (fun z=>(hch _ z).2.1 rfl) ho I.free;obtain⟨v,o,ho,hd⟩:=I.cell x c e;exact free c o (fun z=>(hch c z).2.2.1 x c e rfl) ho (I.freeC x c e);obtain⟨e,n,ne,nf,d⟩:=I.pin p hp;have nch:p.1∉ch:=fun z=>(hch p.1 z).2.2.2 p hp rfl;exact⟨keep p.1 p.2 ne nf nch e n,free p.1 p.2 nch e n,ne,nf,d⟩
theorem Inv.un{t':Nat}(I:Inv X pins σ H s)(u:Un X.fs [] H H' s.heap h')(hok:HOk X.prog X.w H' h'):Inv X pins σ H' {s with heap:=h',toks:=t'}:=by obtain⟨m,⟨o,es,ep,ho,r⟩,_⟩:=id I.loc;obtain⟨sl,hL⟩:=u.any ho I.free (by simp);exact I.step (g':=s.gens) (d':=s.drawn) (ch:=[]) (fun _ z=>nomatch z) (fun b o _ hb _ e n=>u.keep b o e n hb (by simp)) (fun b o _ hb _ e n=>u.slot b o e n hb (by simp)) (fun b o _ e n=>u.free b o e n (by simp)) (fun b o _ e=>u.there b o e (by simp)) u.tups u.frzs u.tbls (fun m' hm=>by obtain⟨o',es',ep',ho',r'⟩:=hm;rw[ho]at ho';cases ho';exact⟨_,es',ep',hL,r'⟩) hok I.bare
theorem Inv.call{g':Array GenState}{t':Nat}{d':Drawn}{ch:List Addr}(I:Inv X pins σ H s)(u:Un (frs X.stack) ch H H' s.heap h')(hok:HOk X.prog X.w H' h')(hg:AllBare g')
  (hch:∀b∈ch,(b∈X.ex\/X.s₀.heap.objs.size<=b)/\b≠X.env.locals/\(∀x c,X.env.cells.lookup x=some c->c≠b)/\∀p∈X.pn++pins,p.1≠b) :
  Inv X pins σ H' {s with heap:=h',gens:=g',drawn:=d',toks:=t'}:=by
 obtain⟨m,⟨o,es,ep,ho,r⟩,_⟩:=id I.loc;obtain⟨sl,hL⟩:=u.any ho I.free fun z=>(hch _ z).2.1 rfl;exact I.step (ch:=ch) hch (fun b o hL hb hc e n=>u.keep b o e n (fun z=>(mem_cons.mp (I.stkSub b z)).elim hL hb) hc) (fun b o _ _ hc e n=>u.any e n hc) (fun b o hc e n=>u.free b o e n hc) (fun b o hc e=>u.there b o e hc) u.tups u.frzs u.tbls (fun m' hm=>by obtain⟨o',es',ep',ho',r'⟩:=hm;rw[ho]at ho';cases ho';exact⟨_,es',ep',hL,r'⟩) hok hg
theorem Inv.turned{t':Nat}{it:Addr}(I:Inv X pins σ H s)(k:∀b o,b≠it->s.heap.get? b=some o->h'.get? b=some o)(hn:H it=none)(hL:it≠X.env.locals)
  (h1:it∈X.ex\/X.s₀.heap.objs.size<=it) (h2:∀x c,X.env.cells.lookup x=some c->c≠it) (h3:∀p∈X.pn++pins,p.1≠it):Inv X pins σ H {s with heap:=h',toks:=t'}:=by
 have nit:∀b u,H b=some u->b≠it:=fun b u e z=>by rw[z,hn]at e;cases e
 refine I.step (g':=s.gens) (d':=s.drawn) (ch:=[it]) (fun b hb=>?_) (fun b o _ _ hc e _=>k b o (fun z=>hc (by simp[z])) e) (fun b o _ _ hc e _=>⟨o.slots,k b o (fun z=>hc (by simp[z])) e⟩) (fun _ _ _ _ n=>n)
  (fun b o hc e=>⟨o,k b o (fun z=>hc (by simp[z])) e⟩) (fun _ _ e=>e) (fun _ _ _ e=>e) (fun b ps e=>⟨#[],by rw[e];simp⟩) (fun m hm=>?_) (fun b u e=>?_) I.bare
 have e:b=it:=by simpa using hb
 subst e;exact⟨h1,hL,h2,h3⟩;obtain⟨o,es,ep,ho,r⟩:=hm;exact⟨o,es,ep,k _ o (Ne.symm hL) ho,r⟩;refine(I.hok b u e).stay (fun c v hc q=>k c v ?_ q) (fun _ q=>q) fun _ _ q=>q;rcases hc with z|z;rw[z];exact nit b u e;exact nit c _ z
theorem Inv.tok(I:Inv X pins σ H s)(t:Nat):Inv X pins σ H {s with toks:=t}:=I.un (h':=s.heap) (t':=t) Un.refl I.hok
theorem Inv.kept{t':Nat}(I:Inv X pins σ H s)(k:∀b u,s.heap.get? b=some u->h'.get? b=some u):Inv X pins σ H {s with heap:=h',toks:=t'}:=I.un (Un.kept k) (I.hok.kept k)
theorem Inv.laid{a:Addr}{o:HO}{t':Nat}(I:Inv X pins σ H s)(k:∀b u,s.heap.get? b=some u->h'.get? b=some u)(hp:s.heap.objs.size<=a)(new:ObjOk X.prog X.w (upd H a o) h' a o) :
 Inv X pins σ (upd H a o) {s with heap:=h',toks:=t'}:=I.un (Un.laid k hp (I.hok.fresh hp)) (I.hok.laid k hp new)
theorem Inv.write{x e:Addr}{o:HO}{t':Nat}(I:Inv X pins σ H s)(mu:Mut (H x))(he:e=x\/H e=some (.own x))(k:∀b u,b≠e->s.heap.get? b=some u->h'.get? b=some u)(heo:∃u,h'.get? e=some u)
 (new:ObjOk X.prog X.w (upd H x o) h' x o):Inv X pins σ (upd H x o) {s with heap:=h',toks:=t'}:=I.un (Un.write mu he k heo) (I.hok.write mu he k heo new)
theorem Inv.pins_of{pins':List (Addr×Obj)}(I:Inv X pins σ H s)(h:∀p∈pins',s.heap.get? p.1=some p.2/\H p.1=none/\p.1≠X.env.locals/\p.1∉X.fs/\∀v,p.2.data≠.cell v):Inv X pins' σ H s:=⟨I.ok,I.os,I.bare,I.base,I.loc,I.cell,I.free,I.freeC,fun p hp=>(mem_append.mp hp).elim (fun z=>I.pin p (mem_append_left _ z)) (h p),I.hok,I.len⟩
theorem zeX{N:List Str}(hN:N.Nodup){i j:Nat}{x:Str}(a:N[i]?=some x)(b:N[j]?=some x):i=j:=by obtain⟨h1,e1⟩:=List.getElem?_eq_some_iff.mp a;obtain⟨h2,e2⟩:=List.getElem?_eq_some_iff.mp b;exact(List.getElem_inj hN).mp (e1.trans e2.symm)
theorem zcg{M:Model}{A:Around}{E:Value->Shared->Prop}{i:Nat}{x:Str}{v:V}{u:Value}{Q:Unit->Shared->Prop}(I:Inv X pins σ H s)(hN:X.N.Nodup)(hi:X.N[i]?=some x)(hx:Loc X.env.scope x)(r:RelV v u)
  (h:∀s',Inv X pins (σ.set i (some v)) H s'->(∃a,Heap.SameBut a s.heap s'.heap/\(a=X.env.locals\/X.env.cells.lookup x=some a))->Q () s') (hf:X.fn x=true\/X.env.scope.names.lookup x=some .local:=by first|exact .inl rfl|exact .inr rfl|assumption):wpAny M A (storeName X.env x u) Q E s:=by
 obtain⟨m,hn,hl⟩:=id I.loc;have hcls:(X.env.scope.kind==.class||(X.env.scope.kind==.module&&X.env.locals != X.env.globals))=false:=by rw[I.ok.kind];rfl
 have hiσ:i<σ.length:=by rw[I.len];exact(List.getElem?_eq_some_iff.mp hi).1
 have cne:=I.cne;have tracked:∀{a:Addr}{h':Heap},(∃o,s.heap.get? a=some o/\H a=none)->Heap.SameBut a s.heap h'->HOk X.prog X.w H h':=fun {a h'} ha hs b ob e=>by obtain⟨_,_,hfree⟩:=ha;refine(I.hok b ob e).stay (fun c w' hc q=>(hs.2 c ?_).trans q) (fun _ q=>q) fun _ _ q=>q;rintro rfl;rcases hc with rfl|hc;rw[hfree]at e;cases e;rw[hfree]at hc;cases hc
 rcases hx with hk|hk;refine wpAny_storeName_local hk hn (fun h' hn' hs=>?_) hcls;obtain⟨oL,_,_,hoL,_⟩:=id hn;refine h _ ⟨I.ok,I.os,I.bare,⟨fun b o e n hb hx=>?_,fun b o e n hb hx=>?_,I.base.free,fun b o e hx=>?_,I.base.tups,I.base.frzs,I.base.tbls⟩,⟨_,hn',fun j y v' e1 e2 e3=>?_⟩,fun y c e=>?_,I.free,I.freeC,fun p hp=>?_,tracked ⟨oL,hoL,I.free⟩ hs,by simpa using I.len⟩ ⟨_,hs,.inl rfl⟩;exact(hs.2 b (ne_of_lt (lt_of_lt_of_le (Heap.lt_size e) I.ok.above))).trans (I.base.keep b o e n hb hx);obtain⟨sl,e1⟩:=I.base.slot b o e n hb hx;exact⟨sl,(hs.2 b (ne_of_lt (lt_of_lt_of_le (Heap.lt_size e) I.ok.above))).trans e1⟩;obtain⟨o',e1⟩:=I.base.there b o e hx;exact⟨o',(hs.2 b (ne_of_lt (lt_of_lt_of_le (Heap.lt_size e) I.ok.above))).trans e1⟩;by_cases hj:j=i;subst hj;rw[hi]at e1;cases e1;rw[getElem?_set_self hiσ]at e2;cases e2;exact⟨u,r,.inl ⟨hk,by simp⟩⟩;rw[getElem?_set_ne (Ne.symm hj)]at e2;obtain⟨u',r',q⟩:=hl j y v' e1 e2 e3;refine⟨u',r',?_⟩;rcases q with⟨k,e⟩|⟨k,c,e,z⟩;refine .inl ⟨k,?_⟩;have:y≠x:=fun e=>hj (zeX hN e1 (e▸hi));simp[this,e];exact .inr ⟨k,c,e,z.sameBut hs (cne y c e)⟩;obtain⟨w',z⟩:=I.cell y c e;exact⟨w',z.sameBut hs (cne y c e)⟩;obtain⟨e,n,ne,nf,d⟩:=I.pin p hp;exact⟨(hs.2 p.1 ne).trans e,n,ne,nf,d⟩;have hfn:X.fn x=true:=by rcases hf with z|z;exact z;rw[z]at hk;cases hk
 obtain⟨c,hc⟩:=I.ok.has x (.inl hk);obtain⟨w',z⟩:=I.cell x c hc;refine wpAny_storeName_cell I.ok.kind hk hc z (fun h' hc' hs=>?_);obtain⟨oc,hoc,hocd⟩:=id z;refine h {s with heap:=h'} ⟨I.ok,I.os,I.bare,⟨fun b o e n hb hx=>?_,fun b o e n hb hx=>?_,I.base.free,fun b o e hx=>?_,I.base.tups,I.base.frzs,I.base.tbls⟩,⟨m,hn.sameBut hs (Ne.symm (cne x c hc)),fun j y v' e1 e2 e3=>?_⟩,fun y c' e=>?_,I.free,I.freeC,fun p hp=>?_,tracked ⟨oc,hoc,I.freeC x c hc⟩ hs,by simpa using I.len⟩ ⟨c,hs,.inr hc⟩;exact(hs.2 b (ne_of_lt (lt_of_lt_of_le (Heap.lt_size e) (I.ok.cab x c hfn hc)))).trans (I.base.keep b o e n hb hx);obtain⟨sl,e1⟩:=I.base.slot b o e n hb hx;exact⟨sl,(hs.2 b (ne_of_lt (lt_of_lt_of_le (Heap.lt_size e) (I.ok.cab x c hfn hc)))).trans e1⟩;obtain⟨o',e1⟩:=I.base.there b o e hx;exact⟨o',(hs.2 b (ne_of_lt (lt_of_lt_of_le (Heap.lt_size e) (I.ok.cab x c hfn hc)))).trans e1⟩;by_cases hj:j=i;subst hj;rw[hi]at e1;cases e1;rw[getElem?_set_self hiσ]at e2;cases e2;exact⟨u,r,.inr ⟨.inl hk,c,hc,hc'⟩⟩;rw[getElem?_set_ne (Ne.symm hj)]at e2;obtain⟨u',r',q⟩:=hl j y v' e1 e2 e3;refine⟨u',r',?_⟩;rcases q with q|⟨k,c',e,z'⟩;exact .inl q;refine .inr ⟨k,c',e,z'.sameBut hs ?_⟩;rintro rfl;exact hj (zeX hN e1 (I.ok.inj _ _ _ e hc▸hi));by_cases hcc:c'=c;subst hcc;exact⟨_,hc'⟩;obtain⟨w2,z2⟩:=I.cell y c' e;exact⟨w2,z2.sameBut hs hcc⟩;obtain⟨e,n,ne,nf,d⟩:=I.pin p hp;refine⟨(hs.2 p.1 ?_).trans e,n,ne,nf,d⟩;intro q;rw[q,hoc]at e;have q':oc=p.2:=Option.some.inj e;exact d w' (by rw[<-q'];exact hocd)
theorem zc0{M:Model}{A:Around}{E:Value->Shared->Prop}{i:Nat}{x:Str}{v:V}{u:Value}{Q:Unit->Shared->Prop}(I:Inv X pins σ H s)(hN:X.N.Nodup)(hi:X.N[i]?=some x)(hx:Loc X.env.scope x)(r:RelV v u)
  (h:∀s',Inv X pins (σ.set i (some v)) H s'->Q () s') (hf:X.fn x=true\/X.env.scope.names.lookup x=some .local:=by first|exact .inl rfl|exact .inr rfl|assumption):wpAny M A (storeName X.env x u) Q E s:=
 zcg I hN hi hx r (fun s' I' _=>h s' I') hf
theorem Inv.call'{s':Shared}{ch:List Addr}(I:Inv X pins σ H s)(ho:s'.os=s.os)(u:Un (frs X.stack) ch H H' s.heap s'.heap)(hok:HOk X.prog X.w H' s'.heap)(hg:AllBare s'.gens)
  (hch:∀b∈ch,(b∈X.ex\/X.s₀.heap.objs.size<=b)/\b≠X.env.locals/\(∀x c,X.env.cells.lookup x=some c->c≠b)/\∀p∈X.pn++pins,p.1≠b):Inv X pins σ H' s':=by
 obtain⟨h',g',d',t',o'⟩:=s';have e:o'=s.os:=ho;subst e;exact I.call (g':=g') (t':=t') (d':=d') u hok hg hch
end
abbrev XK:=Value->Option Addr->Hp->Prop
abbrev St:=List (Option V)
abbrev VK:=V->Hp->Prop
abbrev TE:=St->Hp->VK->Prop
abbrev TT:=St->Hp->(Bool->Hp->Prop)->Prop
abbrev TA:=St->Hp->(List V->Hp->Prop)->Prop
structure Ends where
 nx:St->Hp->Prop
 rt:VK
 bk:St->Hp->Prop:=fun _ _=>False
 ct:St->Hp->Prop:=fun _ _=>False
abbrev TS:=Ends->St->Hp->Prop
def EP(X:Cx)(pins:List (Addr×Obj))(σ:St)(Q:VK)(u:Value)(s':Shared):Prop:=∃v H',Inv X pins σ H' s'/\RelV v u/\Q v H'
def TP(X:Cx)(pins:List (Addr×Obj))(σ:St)(Q:Bool->Hp->Prop)(b:Bool)(s':Shared):Prop:=∃H',Inv X pins σ H' s'/\Q b H'
def AP(X:Cx)(pins:List (Addr×Obj))(σ:St)(Q:List V->Hp->Prop)(us:List Value)(s':Shared):Prop:=∃vs H',Inv X pins σ H' s'/\Vals vs us/\Q vs H'
def SP(X:Cx)(pins:List (Addr×Obj))(D:Ends)(f:Flow)(s':Shared):Prop:=match f with|.next=>∃σ' H',Inv X pins σ' H' s'/\D.nx σ' H'|.brk=>∃σ' H',Inv X pins σ' H' s'/\D.bk σ' H'|.cont=>∃σ' H',Inv X pins σ' H' s'/\D.ct σ' H'|.ret u=>∃v σ' H',Inv X pins σ' H' s'/\RelV v u/\D.rt v H'
def PE(X:Cx)(e:Expr)(t:TE):Prop:=∀(pins:List (Addr×Obj))(s:Shared)(σ:St)(H:Hp)(Q:VK),Inv X pins σ H s->t σ H Q->wpAny (model X.prog X.w) X.A (eval e X.env) (EP X pins σ Q) X.xe s
def PT(X:Cx)(e:Expr)(t:TT):Prop:=∀(pins:List (Addr×Obj))(s:Shared)(σ:St)(H:Hp)(Q:Bool->Hp->Prop),Inv X pins σ H s->t σ H Q->wpAny (model X.prog X.w) X.A (isTrue e X.env (eval e X.env)) (TP X pins σ Q) X.xe s
def PW(X:Cx)(e:Expr)(t:TT):Prop:=∀(whole:Sem Value)(pins:List (Addr×Obj))(s:Shared)(σ:St)(H:Hp)(Q:Bool->Hp->Prop),Inv X pins σ H s->t σ H Q->wpAny (model X.prog X.w) X.A (isTrue e X.env whole) (TP X pins σ Q) X.xe s
theorem PW.pt{X:Cx}{e:Expr}{t:TT}(h:PW X e t):PT X e t:=h _
def PA(X:Cx)(es:List Expr)(t:TA):Prop:=∀(pos:Pos)(pins:List (Addr×Obj))(s:Shared)(σ:St)(H:Hp)(Q:List V->Hp->Prop),Inv X pins σ H s->t σ H Q->wpAny (model X.prog X.w) X.A (spliced (backTo pos (starEach es X.env))) (AP X pins σ Q) X.xe s
def PS(X:Cx)(st:Stmt)(t:TS):Prop:=∀(pins:List (Addr×Obj))(s:Shared)(σ:St)(H:Hp)(D:Ends),Inv X pins σ H s->t D σ H->wpAny (model X.prog X.w) X.A (exec st X.env) (SP X pins D) X.xe s
def PSs(X:Cx)(st:List Stmt)(t:TS):Prop:=∀(pins:List (Addr×Obj))(s:Shared)(σ:St)(H:Hp)(D:Ends),Inv X pins σ H s->t D σ H->wpAny (model X.prog X.w) X.A (execs st X.env) (SP X pins D) X.xe s
theorem thn{α:Type}{t:Sem α}{Q Q':α->Shared->Prop}{M:Model}{A:Around}{E:Value->Shared->Prop}{s:Shared}(h:wpAny M A t Q E s)(hQ:∀a s,Q a s->Q' a s):wpAny M A t Q' E s:=wpAny_mono h hQ fun _ _ x=>x
section
variable{X:Cx}
theorem bin{a b:Expr}{ta tb:TE}(ha:PE X a ta)(hb:PE X b tb){pins:List (Addr×Obj)}{s:Shared}{σ:St}{H:Hp}{R:V->V->Hp->Prop}(I:Inv X pins σ H s)(h:ta σ H fun x H1=>tb σ H1 fun y H2=>R x y H2)
  {α:Type} {Q:α->Shared->Prop} {f:Value->Value->Sem α}
  (hf:∀v u s2 x y H2,Inv X pins σ H2 s2->RelV x v->RelV y u->R x y H2->wpAny (model X.prog X.w) X.A (f v u) Q X.xe s2) :
  wpAny (model X.prog X.w) X.A (eval a X.env) (fun v s₁=>wpAny (model X.prog X.w) X.A (eval b X.env) (fun u s₂=>wpAny (model X.prog X.w) X.A (f v u) Q X.xe s₂) X.xe s₁) X.xe s:=by
 refine thn (ha pins s σ H _ I h) fun v s1 ⟨x,H1,I1,r1,q1⟩=>?_;refine thn (hb pins s1 σ H1 _ I1 q1) fun u s2 ⟨y,H2,I2,r2,q2⟩=>?_;exact hf v u s2 x y H2 I2 r1 r2 q2
def tVar(i:Nat):TE:=fun σ H Q=>∃v,σ[i]?=some (some v)/\Q v H
def tC(v:V):TE:=fun _ H Q=>Q v H
theorem zdP{i:Nat}{x:Str}{pos:Pos}(hN:X.N[i]?=some x)(hv:Vis X.env.scope x)(hd:(x==("__debug__":Str))=false:=by decide)(hcd:(x==("__classdict__":Str))=false:=by decide):PE X (.Name x pos) (tVar i):=by intro pins s σ H Q I h;obtain⟨v,e,h⟩:=h;obtain⟨m,hn,hl⟩:=I.loc;obtain⟨u,r,l⟩:=hl i x v hN e hv;have fin:EP X pins σ Q u s:=⟨v,H,I,r,h⟩;rcases l with⟨hk,hm⟩|⟨hk,c,hc,hcell⟩;exact wpAny_Name (wpAny_loadName_local I.ok.kind hk hn hm fin) hd;rcases hk with hk|hk;exact wpAny_Name (wpAny_loadName_cell I.ok.kind hk hc hcell fin) hd;exact wpAny_Name (wpAny_loadName_free I.ok.kind hk hc hcell fin hcd) hd
theorem zl6{i j pos}:PE X (.Constant (.int i) j pos) (tC (.int i)):=fun _ _ _ H _ I h=>wpAny_Constant_int ⟨.int i,H,I.tok _,⟨_,rfl⟩,h⟩
theorem znM{b j pos}:PE X (.Constant (.bool b) j pos) (tC (.bl b)):=fun _ _ _ H _ I h=>Constant_bool ⟨.bl b,H,I,rfl,h⟩
theorem zl3{j pos}:PE X (.Constant .none j pos) (tC .non):=fun _ _ _ H _ I h=>Constant_none ⟨.non,H,I,rfl,h⟩
theorem zdQ{x j pos}:PE X (.Constant (.str x) j pos) (tC (.str x)):=fun _ _ _ H _ I h=>Calls.Constant_str ⟨.str x,H,I.tok _,⟨_,rfl⟩,h⟩
def Gl(X:Cx)(x:Str):Prop:=X.env.kindOf x=some .globalImplicit
theorem za7{E:Value->Shared->Prop}{pins:List (Addr×Obj)}{s:Shared}{σ:St}{H:Hp}{x:Str}{u:Value}{pos:Pos}{Q:Value->Shared->Prop}(I:Inv X pins σ H s)(hg:Gl X x)(hm:X.mg x=some u)(h:Q u s)
  (hd:(x==("__debug__":Str))=false:=by decide):wpAny (model X.prog X.w) X.A (eval (.Name x pos) X.env) Q E s:=
 Calls.Name_function_global I.ok.kind hg (Calls.loadGlobal_global (by rw[I.ok.glob];exact I.mod.glob.keeps I.bk) hm h) hd
theorem ze3{E:Value->Shared->Prop}{pins:List (Addr×Obj)}{s:Shared}{σ:St}{H:Hp}{x:Str}{u:Value}{pos:Pos}{Q:Value->Shared->Prop}(I:Inv X pins σ H s)(hg:Gl X x)(hm:X.mg x=none)(hv:bootBuiltins x=some u)(h:Q u s)
  (hn:x≠"__name__":=by decide) (hd:(x==("__debug__":Str))=false:=by decide):wpAny (model X.prog X.w) X.A (eval (.Name x pos) X.env) Q E s:=by
 obtain⟨mb,h1,h2⟩:=I.mod.blt;exact Calls.Name_function_global I.ok.kind hg (Calls.loadGlobal_builtin (by rw[I.ok.glob];exact I.mod.glob.keeps I.bk) hm (by rw[I.ok.blt];exact h1.keeps I.bk) ((h2 x hn).trans hv) h) hd
theorem zes{x:Str}{v:V}{u:Value}{pos:Pos}(hg:Gl X x)(hm:X.mg x=some u)(r:RelV v u)(hd:(x==("__debug__":Str))=false:=by decide):PE X (.Name x pos) (tC v):=fun _ _ _ H _ I h=>za7 I hg hm ⟨v,H,I,r,h⟩ hd
theorem zgo{x:Str}{v:V}{u:Value}{pos:Pos}(hg:Gl X x)(hm:X.mg x=none)(hv:bootBuiltins x=some u)(r:RelV v u)(hn:x≠"__name__":=by decide)(hd:(x==("__debug__":Str))=false:=by decide):PE X (.Name x pos) (tC v):=fun _ _ _ H _ I h=>ze3 I hg hm hv ⟨v,H,I,r,h⟩ hn hd
variable{a b:Expr}{ta tb:TE}{pos:Pos}
theorem RelV.none_iff{x:V}{v:Value}(r:RelV x v):(v==Value.none)=decide (x=.non):=by cases x with|non=>cases r;rfl|bl _=>cases r;rfl|int _=>obtain⟨t,rfl⟩:=r;rfl|str _=>obtain⟨t,rfl⟩:=r;rfl|byt _=>obtain⟨t,rfl⟩:=r;rfl|flt _=>obtain⟨t,rfl⟩:=r;rfl|ref _=>cases r;rfl|ty _=>cases r;rfl
variable{tA tB':TT}{rest:List Expr}
def tAnd(t u:TT):TT:=fun σ H Q=>t σ H fun c H1=>if c=true then u σ H1 Q else Q false H1
def tOr(t u:TT):TT:=fun σ H Q=>t σ H fun c H1=>if c=true then Q true H1 else u σ H1 Q
def tNot(t:TT):TT:=fun σ H Q=>t σ H fun c H1=>Q (!c) H1
theorem zjP(ha:PT X a tA):PW X (.BoolOp .And [a] pos) tA:=by intro wh pins s σ H Q I h;refine isTrue_and (thn (ha pins s σ H Q I h) fun c s1 e=>?_);cases c with|true=>exact isTrue_and_nil e|false=>exact e
theorem zlR(ha:PT X a tA):PW X (.BoolOp .Or [a] pos) tA:=by intro wh pins s σ H Q I h;refine isTrue_or (thn (ha pins s σ H Q I h) fun c s1 e=>?_);cases c with|false=>exact isTrue_or_nil e|true=>exact e
theorem zlS(ha:PT X a tA)(hb:PW X (.BoolOp .And (b::rest) pos) tB'):PW X (.BoolOp .And (a::b::rest) pos) (tAnd tA tB'):=by intro wh pins s σ H Q I h;refine isTrue_and (thn (ha pins s σ H _ I h) fun c s1 ⟨H1,I1,q1⟩=>?_);cases c with|true=>exact hb wh pins s1 σ H1 Q I1 q1|false=>exact⟨H1,I1,q1⟩
theorem znH(ha:PT X a tA)(hb:PW X (.BoolOp .Or (b::rest) pos) tB'):PW X (.BoolOp .Or (a::b::rest) pos) (tOr tA tB'):=by intro wh pins s σ H Q I h;refine isTrue_or (thn (ha pins s σ H _ I h) fun c s1 ⟨H1,I1,q1⟩=>?_);cases c with|true=>exact⟨H1,I1,q1⟩|false=>exact hb wh pins s1 σ H1 Q I1 q1
theorem zlT(ha:PT X a tA):PT X (.UnaryOp .Not a pos) (tNot tA):=by intro pins s σ H Q I h;exact isTrue_not (ha pins s σ H (fun c H1=>Q (!c) H1) I h)
def zns(ta tb:TE):TE:=fun σ H Q=>ta σ H fun x H1=>∃c,x=.bl c/\if c=true then tb σ H1 Q else Q (.bl false) H1
def tOrV(ta tb:TE):TE:=fun σ H Q=>ta σ H fun x H1=>∃c,x=.bl c/\if c=true then Q (.bl true) H1 else tb σ H1 Q
def znp(ta:TE):TE:=fun σ H Q=>ta σ H fun x H1=>∃c,x=.bl c/\Q (.bl (!c)) H1
theorem ziI{op}{t:TE}(h:PE X a t):PE X (.BoolOp op [a] pos) t:=fun pins s σ H Q I hw=>BoolOp_one (h pins s σ H Q I hw)
theorem zl8(ha:PE X a ta)(hb:PE X (.BoolOp .And (b::rest) pos) tb):PE X (.BoolOp .And (a::b::rest) pos) (zns ta tb):=by intro pins s σ H Q I h;refine BoolOp_and (thn (ha pins s σ H _ I h) fun v s1 ⟨x,H1,I1,r1,q1⟩=>?_);obtain⟨c,rfl,q1⟩:=q1;cases r1;refine wpAny_truthy_bool ?_;cases c with|true=>exact hb pins s1 σ H1 Q I1 q1|false=>exact⟨.bl false,H1,I1,rfl,q1⟩
theorem znK(ha:PE X a ta)(hb:PE X (.BoolOp .Or (b::rest) pos) tb):PE X (.BoolOp .Or (a::b::rest) pos) (tOrV ta tb):=by intro pins s σ H Q I h;refine BoolOp_or (thn (ha pins s σ H _ I h) fun v s1 ⟨x,H1,I1,r1,q1⟩=>?_);obtain⟨c,rfl,q1⟩:=q1;cases r1;refine wpAny_truthy_bool ?_;cases c with|false=>exact hb pins s1 σ H1 Q I1 q1|true=>exact⟨.bl true,H1,I1,rfl,q1⟩
theorem zl2(ha:PE X a ta):PE X (.UnaryOp .Not a pos) (znp ta):=by intro pins s σ H Q I h;refine UnaryOp_ (thn (ha pins s σ H _ I h) fun v s1 ⟨x,H1,I1,r1,q1⟩=>?_);obtain⟨c,rfl,q1⟩:=q1;cases r1;exact not_of (wpAny_truthy_bool ⟨.bl (!c),H1,I1,rfl,q1⟩)
def tIf(t:TT)(ta tb:TE):TE:=fun σ H Q=>t σ H fun c H1=>if c=true then ta σ H1 Q else tb σ H1 Q
theorem zhS{c:Expr}(hc:PT X c tA)(ha:PE X a ta)(hb:PE X b tb):PE X (.IfExp c a b pos) (tIf tA ta tb):=by intro pins s σ H Q I h;refine wpAny_IfExp (thn (hc pins s σ H _ I h) fun d s1 ⟨H1,I1,q1⟩=>?_);cases d with|true=>exact ha pins s1 σ H1 Q I1 q1|false=>exact hb pins s1 σ H1 Q I1 q1
end
def SqL(K:PySem.W.Frag)(H:Hp)(a:Addr)(xs:List V):Prop:=
 Rd H a (.lst xs)\/
  ∃(o:Obj) (its:Array Value) (n:Nat),K.lookup a=some o/\o.cls=.type "list"/\o.dict=none/\o.data=.seq its n/\its.size<=sizeLine/\Vals xs its.toList
def SqT(K:PySem.W.Frag)(H:Hp)(a:Addr)(xs:List V):Prop:=
 Rd H a (.tup xs)\/
  ∃(o:Obj) (its:Array Value) (n:Nat),K.lookup a=some o/\o.cls=.type "tuple"/\o.data=.seq its n/\its.size<=sizeLine/\Vals xs its.toList
noncomputable def absV:Value->Option V
 |.none=>some .non|.bool b=>some (.bl b)|.int i _=>some (.int i)|.str x _=>some (.str x)|.bytes b _=>some (.byt b)|.float b _=>some (.flt b)|.ref a=>some (.ref a)|.type n=>some (.ty n)|_=>none
theorem RelV.abs{x:V}{u:Value}(r:RelV x u):absV u=some x:=by cases x with|non=>cases r;rfl|bl _=>cases r;rfl|int _=>obtain⟨t,rfl⟩:=r;rfl|str _=>obtain⟨t,rfl⟩:=r;rfl|byt _=>obtain⟨t,rfl⟩:=r;rfl|flt _=>obtain⟨t,rfl⟩:=r;rfl|ref _=>cases r;rfl|ty _=>cases r;rfl
theorem RelV.inj{x y:V}{u:Value}(r:RelV x u)(q:RelV y u):x=y:=Option.some.inj (r.abs.symm.trans q.abs)
theorem Vals.inj:∀{xs ys:List V}{us:List Value},Vals xs us->Vals ys us->xs=ys
 |_,_,_,.nil,.nil=>rfl|_,_,_,.cons r t,.cons r' t'=>by rw[r.inj r',Vals.inj t t']
section
variable{X:Cx}{pins:List (Addr×Obj)}{σ:St}{H:Hp}{s:Shared}{a:Addr}{xs ys:List V}
theorem SqL.of{K:PySem.W.Frag}(h:H a=some (.lst xs)):SqL K H a xs:=.inl (.inl h)
theorem SqT.of{K:PySem.W.Frag}(h:H a=some (.tup xs)):SqT K H a xs:=.inl (.inl h)
theorem Inv.list(I:Inv X pins σ H s)(h:SqL X.K H a xs):∃its:List Value,Vals xs its/\PlainL s.heap a its.toArray/\xs.length<=sizeLine:=by rcases h with h|⟨o,its,n,hk,hc,hd,hs,hz,r⟩;obtain⟨z,its,n,r,e⟩:=h.ok I.hok;exact⟨its,r,⟨_,n,e,rfl,rfl,rfl⟩,z⟩;refine⟨its.toList,r,⟨o,n,I.kIn a o hk,hc,hd,by simpa using hs⟩,?_⟩;have e:=r.length;simp only[Array.length_toList]at e;omega
theorem Inv.tuple(I:Inv X pins σ H s)(h:SqT X.K H a xs):∃its:List Value,Vals xs its/\IsTup s.heap a its.toArray/\xs.length<=sizeLine:=by rcases h with h|⟨o,its,n,hk,hc,hs,hz,r⟩;obtain⟨z,its,r,p⟩:=h.ok I.hok;exact⟨its,r,p,z⟩;refine⟨its.toList,r,⟨o,I.kIn a o hk,hc,n,by simpa using hs⟩,?_⟩;have e:=r.length;simp only[Array.length_toList]at e;omega
theorem Inv.list_inj(I:Inv X pins σ H s)(h:SqL X.K H a xs)(h':SqL X.K H a ys):xs=ys:=by
 obtain⟨its,r,⟨o,n,e,_,_,d⟩,_⟩:=I.list h;obtain⟨its',r',⟨o',n',e',_,_,d'⟩,_⟩:=I.list h';rw[e]at e';cases e';rw[d]at d';injection d' with d1 _;have:its=its':=by simpa using congrArg Array.toList d1
 subst this;exact r.inj r'
theorem Inv.tuple_inj(I:Inv X pins σ H s)(h:SqT X.K H a xs)(h':SqT X.K H a ys):xs=ys:=by
 obtain⟨its,r,⟨o,e,_,n,d⟩,_⟩:=I.tuple h;obtain⟨its',r',⟨o',e',_,n',d'⟩,_⟩:=I.tuple h';rw[e]at e';cases e';rw[d]at d';injection d' with d1 _;have:its=its':=by simpa using congrArg Array.toList d1
 subst this;exact r.inj r'
end
noncomputable abbrev Cx.wish(X:Cx)(E:Value->Shared->Prop):Cx:={X with xe:=E}
noncomputable abbrev Cx.nox(X:Cx):Cx:=X.wish fun _ _=>False
theorem Cx.Ok.wish{X:Cx}(ok:X.Ok)(E:Value->Shared->Prop):(X.wish E).Ok:=⟨ok.mod,ok.kind,ok.glob,ok.blt,ok.above,ok.inj,ok.has,ok.cab,ok.hd,ok.frames,ok.stk,ok.exf,ok.bs,ok.bsz,ok.noex,ok.exfs,ok.funs,ok.frf⟩
theorem Cx.Ok.unwish{X:Cx}{E:Value->Shared->Prop}(ok:(X.wish E).Ok):X.Ok:=⟨ok.mod,ok.kind,ok.glob,ok.blt,ok.above,ok.inj,ok.has,ok.cab,ok.hd,ok.frames,ok.stk,ok.exf,ok.bs,ok.bsz,ok.noex,ok.exfs,ok.funs,ok.frf⟩
section
variable{X:Cx}{pins:List (Addr×Obj)}{σ:St}{H:Hp}{s:Shared}{E:Value->Shared->Prop}
theorem Inv.wish(I:Inv X pins σ H s)(E:Value->Shared->Prop):Inv (X.wish E) pins σ H s:=⟨I.ok.wish E,I.os,I.bare,I.base,I.loc,I.cell,I.free,I.freeC,I.pin,I.hok,I.len⟩
theorem Inv.unwish(I:Inv (X.wish E) pins σ H s):Inv X pins σ H s:=⟨I.ok.unwish,I.os,I.bare,I.base,I.loc,I.cell,I.free,I.freeC,I.pin,I.hok,I.len⟩
theorem SP.unwish{D:Ends}{f:Flow}{s':Shared}(h:SP (X.wish E) pins D f s'):SP X pins D f s':=by cases f with|next=>obtain⟨σ',H',I,q⟩:=h;exact⟨σ',H',I.unwish,q⟩|brk=>obtain⟨σ',H',I,q⟩:=h;exact⟨σ',H',I.unwish,q⟩|cont=>obtain⟨σ',H',I,q⟩:=h;exact⟨σ',H',I.unwish,q⟩|ret u=>obtain⟨v,σ',H',I,r,q⟩:=h;exact⟨v,σ',H',I.unwish,r,q⟩
theorem PSs.nox{st:List Stmt}{t:TS}(h:PSs X.nox st t):PSs X st t:=fun pins s σ H D I hw=>wpAny_mono (h pins s σ H D (I.wish _) hw) (fun _ _ q=>q.unwish) fun _ _ z=>False.elim z
end
section
variable{X:Cx}{st:Stmt}{rest:List Stmt}{t u:TS}{e:Expr}{te:TE}{pos:Pos}
def znq:TS:=fun D σ H=>D.nx σ H
def tSeq(t u:TS):TS:=fun D σ H=>t {D with nx:=u D} σ H
theorem zdc:PSs X [] znq:=fun _ _ σ H _ I h=>wpAny_execs_nil ⟨σ,H,I,h⟩
theorem zan(h1:PS X st t)(h2:PSs X rest u):PSs X (st::rest) (tSeq t u):=by intro pins s σ H D I h;refine wpAny_execs_cons (thn (h1 pins s σ H {D with nx:=u D} I h) fun f s1 q=>?_);cases f with| next=>obtain⟨σ',H',I',q⟩:=q;exact h2 pins s1 σ' H' D I' q|ret v=>exact q|brk=>exact q|cont=>exact q
theorem Inv.quiet{pins:List (Addr×Obj)}{σ:St}{H:Hp}{s:Shared}(I:Inv X pins σ H s):interactive X.env=false:=by simp[interactive,I.ok.kind]
def znr(te:TE):TS:=fun D σ H=>te σ H fun _ H1=>D.nx σ H1
theorem zer(he:PE X e te)(hs:swapsWith e none pos.line X.env=pure false:=by rfl):PS X (.Expr e pos) (znr te):=by intro pins s σ H D I h;exact wpAny_Expr_any (thn (he pins s σ H _ I h) fun v s1 ⟨x,H1,I1,r1,q1⟩=>⟨σ,H1,I1,q1⟩) I.quiet hs
def tRet(te:TE):TS:=fun D σ H=>te σ H D.rt
theorem zlU(he:PE X e te):PS X (.Return (some e) pos) (tRet te):=by intro pins s σ H D I h;exact wpAny_Return_some (thn (he pins s σ H _ I h) fun v s1 ⟨x,H1,I1,r1,q1⟩=>⟨x,σ,H1,I1,r1,q1⟩)
def tIfS(c:TT)(t u:TS):TS:=fun D σ H=>c σ H fun b H1=>if b=true then t D σ H1 else u D σ H1
theorem zlV{c:Expr}{a b:List Stmt}{tc:TT}(hc:PT X c tc)(ha:PSs X a t)(hb:PSs X b u):PS X (.If c a b pos) (tIfS tc t u):=by intro pins s σ H D I h;refine wpAny_If (thn (hc pins s σ H _ I h) fun d s1 ⟨H1,I1,q1⟩=>?_);cases d with|true=>exact ha pins s1 σ H1 D I1 q1|false=>exact hb pins s1 σ H1 D I1 q1
end
abbrev TG:=V->St->Hp->(St->Hp->Prop)->Prop
abbrev TGs:=List V->St->Hp->(St->Hp->Prop)->Prop
def PG(X:Cx)(target:Expr)(t:TG):Prop:=
 ∀(pins:List (Addr×Obj))(s:Shared)(σ:St)(H:Hp)(v:V)(u:Value)(Q:St->Hp->Prop),Inv X pins σ H s->RelV v u->t v σ H Q->
  wpAny (model X.prog X.w) X.A (assign target X.env u) (fun _ s'=>∃σ' H',Inv X pins σ' H' s'/\Q σ' H') X.xe s
def PGs(X:Cx)(ts:List Expr)(t:TGs):Prop:=
 ∀(pins:List (Addr×Obj))(s:Shared)(σ:St)(H:Hp)(vs:List V)(us:List Value)(Q:St->Hp->Prop),Inv X pins σ H s->Vals vs us->t vs σ H Q->
  wpAny (model X.prog X.w) X.A (assignInOrder ((assignEach ts X.env).map (·.2)) us) (fun _ s'=>∃σ' H',Inv X pins σ' H' s'/\Q σ' H') X.xe s
abbrev TSet:=V->V->V->Hp->(Hp->Prop)->Prop
def PSet(X:Cx)(t:TSet):Prop:=
 ∀(pins:List (Addr×Obj))(s:Shared)(σ:St)(H:Hp)(o i v:V)(ov iv u:Value)(Q:Hp->Prop),Inv X pins σ H s->RelV o ov->RelV i iv->RelV v u->t o i v H Q->
  wpAny (model X.prog X.w) X.A (setItem ov iv u) (fun _ s'=>∃H',Inv X pins σ H' s'/\Q H') X.xe s
section
variable{X:Cx}{pos:Pos}
def zdX(i:Nat):TG:=fun v σ H Q=>Q (σ.set i (some v)) H
theorem zgk{i:Nat}{x:Str}(hN:X.N.Nodup)(hi:X.N[i]?=some x)(hx:Loc X.env.scope x)(hf:X.fn x=true\/X.env.scope.names.lookup x=some .local:=by first|exact .inl rfl|exact .inr rfl|assumption):PG X (.Name x pos) (zdX i):=by intro pins s σ H v u Q I r h;exact wpAny_assign_Name (zc0 I hN hi hx r (fun s' I'=>⟨_,H,I',h⟩) hf)
def gNil:TGs:=fun vs σ H Q=>vs=[]/\Q σ H
def zn1(t:TG)(u:TGs):TGs:=fun vs σ H Q=>∃v r,vs=v::r/\t v σ H fun σ' H'=>u r σ' H' Q
theorem zjW:PGs X [] gNil:=by intro pins s σ H vs us Q I r h;obtain⟨e,h⟩:=h;subst e;cases r;exact assignInOrder_nil ⟨σ,H,I,h⟩
theorem zhN{e:Expr}{es:List Expr}{t:TG}{u:TGs}(h1:PG X e t)(h2:PGs X es u)
  (hs:(assignEach (e::es) X.env).map (·.2)=assign e X.env::(assignEach es X.env).map (·.2):=by rfl):PGs X (e::es) (zn1 t u):=by
 intro pins s σ H vs us Q I r h;obtain⟨v,vr,e1,h⟩:=h;subst e1;cases r with| cons r rr=>rw[hs];refine assignInOrder_cons (thn (h1 pins s σ H _ _ _ I r h) fun _ s1 ⟨σ1,H1,I1,q1⟩=>?_);exact h2 pins s1 σ1 H1 _ _ Q I1 rr q1
def gTup(K:PySem.W.Frag)(n:Nat)(t:TGs):TG:=fun v σ H Q=>∃a xs,v=.ref a/\SqT K H a xs/\xs.length=n/\t xs σ H Q
theorem zl0{es:List Expr}{k:Nat}{t:TGs}{n:Nat}(hc:X.calm=true)(h:PGs X es t)
  (hn:(assignEach es X.env).length=n:=by rfl) (hst:(assignEach es X.env).findIdx? (·.1)=none:=by rfl):PG X (.Tuple es k pos) (gTup X.K n t):=by
 intro pins s σ H v u Q I r hw;obtain⟨a,xs,e1,hq,hl,hw⟩:=hw;subst e1;cases r;obtain⟨its,rv,ht,hz⟩:=I.tuple hq;refine assign_Tuple_tuple (I.ok.hd hc) ht (by simp[hn,<-hl,rv.length]) hst fun h' hx=>?_;have I1:Inv X pins σ H {s with heap:=h'}:=I.kept (t':=s.toks) fun b o e=>hx b o (ne_of_lt (Heap.lt_size e)) e;exact h pins _ σ H xs _ Q I1 (by simpa using rv) hw
def tAsg(te:TE)(g:TG):TS:=fun D σ H=>te σ H fun x H1=>g x σ H1 D.nx
theorem zlX{tg e:Expr}{te:TE}{g:TG}(he:PE X e te)(hg:PG X tg g)(hs:swapsWithSole [tg] e pos.line X.env=pure false:=by rfl)(hw:swappedStores [tg] e X.env=pure none:=by rfl)
  (h1:(assignEach [tg] X.env).map (·.2)=[assign tg X.env]:=by rfl):PS X (.Assign [tg] e pos) (tAsg te g):=by
 intro pins s σ H D I h;refine wpAny_Assign_stores (thn (he pins s σ H _ I h) fun v s1 ⟨x,H1,I1,r1,q1⟩=>?_) hs hw;rw[h1];exact thn (hg pins s1 σ H1 x v _ I1 r1 q1) fun _ s2 q=>q
theorem zdN{i:Nat}{x:Str}{e:Expr}{te:TE}{pos':Pos}(hN:X.N.Nodup)(hi:X.N[i]?=some x)(hx:Loc X.env.scope x)(he:PE X e te)(hs:swapsWith e (some (.Name x pos')) pos.line X.env=pure false:=by rfl)(hf:X.fn x=true\/X.env.scope.names.lookup x=some .local:=by first|exact .inl rfl|exact .inr rfl|assumption) :
  PS X (.Assign [.Name x pos'] e pos) (tAsg te (zdX i)):=by
 intro pins s σ H D I h;refine wpAny_Assign_Name (thn (he pins s σ H _ I h) fun v s1 ⟨y,H1,I1,r1,q1⟩=>?_) hs;exact zc0 I1 hN hi hx r1 (fun s2 I2=>⟨_,H1,I2,q1⟩) hf
end
structure It where
 go:Nat->Hp->Prop
 yld:Nat->Hp->V->Hp->Prop
 stop:Nat->Hp->Prop
def FpOk(X:Cx)(pins:List (Addr×Obj))(H:Hp)(b:Addr):Prop:=H b=none/\b≠X.env.locals/\b∉X.fs/\(b∈X.ex\/X.s₀.heap.objs.size<=b)/\(∀x c,X.env.cells.lookup x=some c->c≠b)/\∀p∈X.pn++pins,p.1≠b
theorem Inv.fpOk{X:Cx}{pins:List (Addr×Obj)}{σ:St}{H H':Hp}{s:Shared}{b:Addr}(I:Inv X pins σ H s)(hb:s.heap.objs.size<=b)(hn:H' b=none):FpOk X pins H' b:=by refine⟨hn,ne_of_gt (lt_of_lt_of_le I.lt hb),I.nofs hb,.inr (le_trans I.sz hb),fun x c e z=>?_,fun p hp z=>?_⟩;obtain⟨v,q⟩:=I.cell x c e;exact absurd (lt_of_lt_of_le q.lt (by rw[z];exact hb)) (lt_irrefl _);exact absurd (lt_of_lt_of_le (Heap.lt_size (I.pin p hp).1) (by rw[z];exact hb)) (lt_irrefl _)
structure Turn(P:Program)(w:World)(K:PySem.W.Frag)(tg:Expr)(J:It)(fp:List Addr)(it:Addr)(tn:Nat->Heap->Prop):Prop where
 mem:it∈fp
 obj:∀i h,tn i h->∀b∈fp,∃o,h.get? b=some o/\∀v,o.data≠.cell v
 keep:∀i h h',tn i h->(∀b∈fp,∀o,h.get? b=some o->h'.get? b=some o)->tn i h'
 item:∀(X:Cx),X.prog=P->X.w=w->X.K=K->X.calm=true->∀(i:Nat)(pins:List (Addr×Obj))(s:Shared)(σ:St)(H:Hp)(E:Value->Shared->Prop),Inv X pins σ H s->(∀b∈fp,FpOk X pins H b)->tn i s.heap->J.go i H->
  wpAny (model P w) X.A (pyNext (.ref it)) (fun r s1=>∃u,r=some u/\
   wpAny (model P w) X.A (letOwnedTupleGo tg (.ref it) u) (fun _ s2=>∃x H',Inv X pins σ H' s2/\RelV x u/\J.yld i H x H'/\tn (i+1) s2.heap/\∀b∈fp,H' b=none) E s1) E s
 done:∀(X:Cx),X.prog=P->X.w=w->X.K=K->X.calm=true->∀(i:Nat)(pins:List (Addr×Obj))(s:Shared)(σ:St)(H:Hp)(E:Value->Shared->Prop),Inv X pins σ H s->(∀b∈fp,FpOk X pins H b)->tn i s.heap->J.stop i H->
  wpAny (model P w) X.A (pyNext (.ref it)) (fun r s1=>r=none/\Inv X pins σ H s1) E s
 self:∀(A:Around)(i:Nat)(s:Shared)(Q:Value->Shared->Prop)(E:Value->Shared->Prop),tn i s.heap->Q (.ref it) s->wpAny (model P w) A (pyIter (.ref it)) Q E s
abbrev TI:=St->Hp->(It->Hp->Prop)->Prop
def PIE(X:Cx)(pins:List (Addr×Obj))(σ:St)(tg:Expr)(R:It->Hp->Prop)(itv:Value)(s2:Shared):Prop:=∃(it:Addr) (fp:List Addr) (tn:Nat->Heap->Prop) (J:It) (H':Hp),itv=.ref it/\Inv X pins σ H' s2/\Turn X.prog X.w X.K tg J fp it tn/\tn 0 s2.heap/\(∀b∈fp,FpOk X pins H' b)/\R J H'
def PI(X:Cx)(tg iter:Expr)(wi:TI):Prop:=
 ∀(pins:List (Addr×Obj))(s:Shared)(σ:St)(H:Hp)(R:It->Hp->Prop),Inv X pins σ H s->wi σ H R->
  wpAny (model X.prog X.w) X.A (eval iter X.env) (fun v s1=>wpAny (model X.prog X.w) X.A (pyIter v) (PIE X pins σ tg R) X.xe s1) X.xe s
theorem zia{M:Model}{A:Around}{E:Value->Shared->Prop}{s:Shared}{tg:Expr}{it:Addr}{u:Value}{o:Obj}{n:String}{vs:Array Value}{Q:Unit->Shared->Prop}(ho:s.heap.get? it=some o)(hc:o.cls=.type n)(hd:o.data=.fields vs)
  (hn:["enumerate","zip","dict_itemiterator","dict_reverseitemiterator","odict_iterator","itertools.zip_longest","itertools.pairwise"].contains n=false) (hQ:Q () s):wpAny M A (letOwnedTupleGo tg (.ref it) u) Q E s:=by
 unfold letOwnedTupleGo;cases tg<;>first
  |exact wpAny_pure hQ
  |(cases u<;>first
   |exact wpAny_pure hQ
   | (refine wpAny_bind (wpAny_load ho ?_)
      rw[hc,hd];show wpAny M A (if(["enumerate","zip","dict_itemiterator","dict_reverseitemiterator","odict_iterator","itertools.zip_longest","itertools.pairwise"].contains n&&vs[0]?==some (rawInt _))=true then _ else _) Q E s;rw[if_neg (by intro h;rw[hn,Bool.false_and]at h;cases h)];exact wpAny_pure hQ))
noncomputable def Itl(K:PySem.W.Frag)(a:Addr):It:=⟨fun i H=>∃xs x,SqL K H a xs/\xs[i]?=some x,fun i H x H'=>H'=H/\∀xs,SqL K H a xs->xs[i]?=some x,fun i H=>∃xs,SqL K H a xs/\xs.length<=i⟩
noncomputable def Itt(K:PySem.W.Frag)(a:Addr):It:=⟨fun i H=>∃xs x,SqT K H a xs/\xs[i]?=some x,fun i H x H'=>H'=H/\∀xs,SqT K H a xs->xs[i]?=some x,fun i H=>∃xs,SqT K H a xs/\xs.length<=i⟩
noncomputable def Itr(lo:Int)(n:Nat):It:=⟨fun i _=>i<n,fun i H x H'=>H'=H/\x=.int (lo+i),fun i _=>n<=i⟩
theorem zfW{P:Program}{w:World}{K:PySem.W.Frag}{tg:Expr}(a it:Addr):Turn P w K tg (Itl K a) [it] it (fun i h=>h.IsListIter it a i) where
 mem:=by simp
 obj:=fun i h st b hb=>by
  have e:b=it:=by simpa using hb
  subst e;obtain⟨o,e,c,d⟩:=st;exact⟨o,e,fun v z=>by rw[d]at z;cases z⟩
 keep:=fun i h h' st k=>st.at fun o e=>k it (by simp) o e
 item:=by intro X hP hw hK hc i pins s σ H E I hf st hg;subst hP hw hK;obtain⟨xs,x,hq,hx⟩:=hg;obtain⟨its,rv,p,hz⟩:=I.list hq;obtain⟨u,hu,ru⟩:=rv.get hx;obtain⟨f0,f1,f2,f3,f4,f5⟩:=hf it (by simp);refine wpAny_pyNext_list_item st p.isList (x:=u) (by simpa using hu) fun h' st' sb=>?_;have I1:Inv X pins σ H {s with heap:=h'}:=I.turned (t':=s.toks) (fun b o hb e=>(sb.2 b hb).trans e) f0 f1 f3 f4 f5;obtain⟨o,e,c,d⟩:=id st';exact⟨u,rfl,zia (s:={s with heap:=h'}) e c d (by decide) ⟨x,H,I1,ru,⟨rfl,fun ys hy=>by rw[I.list_inj hy hq];exact hx⟩,st',fun b hb=>(hf b hb).1⟩⟩
 done:=by intro X hP hw hK hc i pins s σ H E I hf st hg;subst hP hw hK;obtain⟨xs,hq,hx⟩:=hg;obtain⟨its,rv,p,hz⟩:=I.list hq;obtain⟨f0,f1,f2,f3,f4,f5⟩:=hf it (by simp);have hl:=rv.length;exact wpAny_pyNext_list_end (I.ok.hd hc) st p.isList (by simp;omega) fun h' eb=>⟨rfl,I.turned (t':=s.toks) (fun b o hb e=>eb b o hb e) f0 f1 f3 f4 f5⟩
 self:=fun _ _ _ _ _ st h=>wpAny_pyIter_listiter st h
theorem zfu{P:Program}{w:World}{K:PySem.W.Frag}{tg:Expr}(a it:Addr):Turn P w K tg (Itt K a) [it] it (fun i h=>h.IsTupleIter it a i) where
 mem:=by simp
 obj:=fun i h st b hb=>by
  have e:b=it:=by simpa using hb
  subst e;obtain⟨o,e,c,d⟩:=st;exact⟨o,e,fun v z=>by rw[d]at z;cases z⟩
 keep:=fun i h h' st k=>st.at fun o e=>k it (by simp) o e
 item:=by intro X hP hw hK hc i pins s σ H E I hf st hg;subst hP hw hK;obtain⟨xs,x,hq,hx⟩:=hg;obtain⟨its,rv,p,hz⟩:=I.tuple hq;obtain⟨u,hu,ru⟩:=rv.get hx;obtain⟨f0,f1,f2,f3,f4,f5⟩:=hf it (by simp);refine wpAny_pyNext_tuple_item st (show s.heap.IsTuple a its.toArray from p) (x:=u) (by simpa using hu) fun h' st' sb=>?_;have I1:Inv X pins σ H {s with heap:=h'}:=I.turned (t':=s.toks) (fun b o hb e=>(sb.2 b hb).trans e) f0 f1 f3 f4 f5;obtain⟨o,e,c,d⟩:=id st';exact⟨u,rfl,zia (s:={s with heap:=h'}) e c d (by decide) ⟨x,H,I1,ru,⟨rfl,fun ys hy=>by rw[I.tuple_inj hy hq];exact hx⟩,st',fun b hb=>(hf b hb).1⟩⟩
 done:=by intro X hP hw hK hc i pins s σ H E I hf st hg;subst hP hw hK;obtain⟨xs,hq,hx⟩:=hg;obtain⟨its,rv,p,hz⟩:=I.tuple hq;obtain⟨f0,f1,f2,f3,f4,f5⟩:=hf it (by simp);have hl:=rv.length;exact wpAny_pyNext_tuple_end (I.ok.hd hc) st (show s.heap.IsTuple a its.toArray from p) (by simp;omega) fun h' eb=>⟨rfl,I.turned (t':=s.toks) (fun b o hb e=>eb b o hb e) f0 f1 f3 f4 f5⟩
 self:=fun _ _ _ _ _ st h=>wpAny_pyIter_tupleiter st h
theorem zfv{P:Program}{w:World}{K:PySem.W.Frag}{tg:Expr}(it:Addr)(lo:Int)(n:Nat):Turn P w K tg (Itr lo n) [it] it (fun i h=>IsRangeIter h it (lo+(i:Nat)*1) ((n:Int)-(i:Nat)) 1) where
 mem:=by simp
 obj:=fun i h st b hb=>by
  have e:b=it:=by simpa using hb
  subst e;exact⟨_,st,fun v z=>by have z':Data.fields _=Data.cell v:=z;cases z'⟩
 keep:=fun i h h' st k=>k it (by simp) _ st
 item:=by intro X hP hw hK hc i pins s σ H E I hf st hg;subst hP hw hK;obtain⟨f0,f1,f2,f3,f4,f5⟩:=hf it (by simp);have W:=Walks.range (prog:=X.prog) (w:=X.w) (I.ok.hd hc) it lo 1 n;refine W.item i s _ _ hg st fun v h' tk hv st' kk=>?_;obtain⟨t,rfl⟩:=hv;have I1:Inv X pins σ H {s with heap:=h',toks:=tk}:=I.turned (fun b o hb e=>kk b o (by simpa using hb) e) f0 f1 f3 f4 f5;refine⟨_,rfl,zia (s:={s with heap:=h',toks:=tk}) (n:="range_iterator") st' rfl rfl (by decide) ⟨.int (lo+i),H,I1,⟨t,?_⟩,⟨rfl,rfl⟩,st',fun b hb=>(hf b hb).1⟩⟩;rw[Int.mul_one]
 done:=by intro X hP hw hK hc i pins s σ H E I hf st hg;subst hP hw hK;obtain⟨f0,f1,f2,f3,f4,f5⟩:=hf it (by simp);exact wpAny_pyNext_range_end (I.ok.hd hc) st (by have:n<=i:=hg;omega) fun h' eb=>⟨rfl,I.turned (t':=s.toks) (fun b o hb e=>eb b o hb e) f0 f1 f3 f4 f5⟩
 self:=fun _ _ _ _ _ st h=>wpAny_pyIter_rangeiter st h
section
variable{X:Cx}{tg:Expr}
theorem zhD{pins:List (Addr×Obj)}{σ:St}{H:Hp}{s:Shared}{R:It->Hp->Prop}{E:Value->Shared->Prop}{lo hi:Int}{t u v:Tok}{tk:Nat}(I:Inv X pins σ H s)(h1:-(2^62)<=lo)(h2:lo<2^62)(h3:-(2^62)<=hi)(h4:hi<2^62)
  (q:R (Itr lo (hi-lo).toNat) H):wpAny (model X.prog X.w) X.A (pyIter (.ref s.heap.objs.size)) (PIE X pins σ tg R) E {s with heap:=s.heap.push {cls:=.type "range",data:=.fields #[.int lo t,.int hi u,.int 1 v]},toks:=tk}:=by
 refine wpAny_pyIter_range (IsRange.new ..) (small_one h1 h2 h3 h4) ?_;have I1:Inv X pins σ H {s with heap:=s.heap.push {cls:=.type "range",data:=.fields #[.int lo t,.int hi u,.int 1 v]},toks:=tk}:=I.kept fun b o e=>Heap.get?_push_of_some _ e;refine⟨(s.heap.push {cls:=.type "range",data:=.fields #[.int lo t,.int hi u,.int 1 v]}).objs.size,[(s.heap.push {cls:=.type "range",data:=.fields #[.int lo t,.int hi u,.int 1 v]}).objs.size],_,_,H,rfl,
  I1.kept (t':=tk) fun b o e=>Heap.get?_push_of_some _ e,zfv _ lo (hi-lo).toNat,?_,fun b hb=>?_,q⟩
 have e1:lo+((0:Nat):Int)*1=lo:=by simp
 have e2:(((hi-lo).toNat:Nat):Int)-((0:Nat):Int)=Builtin.Range.rangeSize lo hi 1:=by rw[rangeSize_one];split<;>omega
 show IsRangeIter _ _ (lo+((0:Nat):Int)*1) ((((hi-lo).toNat:Nat):Int)-((0:Nat):Int)) 1;rw[e1,e2];exact Heap.get?_push_size _ rfl;have e:b=(s.heap.push {cls:=.type "range",data:=.fields #[.int lo t,.int hi u,.int 1 v]}).objs.size:=by simpa using hb
 subst e;exact I1.fpOk (le_refl _) (I1.hok.fresh (le_refl _))
def zn0(ta:TA):TI:=fun σ H R=>ta σ H fun vs H1=>∃j:Int,vs=[.int j]/\-(2^62)<=j/\j<2^62/\R (Itr 0 j.toNat) H1
theorem zgj{a:Expr}{ta:TA}{p pos:Pos}(hg:Gl X "range")(hm:X.mg "range"=none)(ha:PA X [a] ta)(hs:starEach [a] X.env=[(false,eval a X.env)]:=by rfl):PI X tg (.Call (.Name "range" p) [a] [] pos) (zn0 ta):=by intro pins s σ H R I h;refine Call_ (ze3 I hg hm boot_range (PyProof.Rows.callWith_type1 (thn (ha pos pins s σ H _ I h) fun us s1 ⟨vs,H1,I1,r1,q1⟩=>?_) hs rfl));obtain⟨j,e,q1,q2,q⟩:=q1;subst e;cases r1 with| cons r rr=>cases rr;obtain⟨t,rfl⟩:=r;exact call_range_1 (zhD I1 (by omega) (by omega) q1 q2 (by simpa using q))
def tFor(wi:TI)(g:TG)(tb:TS):TS:=fun D σ H=>wi σ H fun J H1=>∃W:Nat->Nat->St->Hp->Prop,(∃m,W 0 m σ H1)/\∀i m σ H,W i m σ H->
 (J.stop i H/\D.nx σ H)\/(J.go i H/\∃N:St->Hp->Prop,(∀σ' H',N σ' H'->∃m',m'<m/\W (i+1) m' σ' H')/\∀x H',J.yld i H x H'->g x σ H' fun σ2 H2=>tb {D with nx:=N,ct:=N,bk:=D.nx} σ2 H2)
noncomputable def zdO(fp:List Addr)(h:Heap):List (Addr×Obj):=fp.filterMap fun b=>(h.get? b).map fun o=>(b,o)
theorem zby{fp:List Addr}{h:Heap}{b:Addr}{o:Obj}(hb:b∈fp)(e:h.get? b=some o):(b,o)∈zdO fp h:=List.mem_filterMap.mpr ⟨b,hb,by rw[e];rfl⟩
theorem zgu{fp:List Addr}{h:Heap}{p:Addr×Obj}(hp:p∈zdO fp h):p.1∈fp/\h.get? p.1=some p.2:=by
 obtain⟨b,hb,e⟩:=List.mem_filterMap.mp hp;cases q:h.get? b with
 |none=>rw[q]at e;cases e
 |some o=>rw[q]at e;have e':(b,o)=p:=Option.some.inj e;subst e';exact⟨hb,q⟩
theorem Inv.pinned{pins:List (Addr×Obj)}{σ:St}{H:Hp}{s:Shared}{fp:List Addr}(I:Inv X pins σ H s)(hf:∀b∈fp,FpOk X pins H b)(ho:∀b∈fp,∃o,s.heap.get? b=some o/\∀v,o.data≠.cell v):Inv X (pins++zdO fp s.heap) σ H s:=I.pins_of fun p hp=>(mem_append.mp hp).elim (fun z=>I.pin p (mem_append_right _ z)) fun z=>by obtain⟨hb,e⟩:=zgu z;obtain⟨f0,f1,f2,_⟩:=hf p.1 hb;obtain⟨o,e',d⟩:=ho p.1 hb;rw[e]at e';cases e';exact⟨e,f0,f1,f2,d⟩
theorem Inv.unpinned{pins pl:List (Addr×Obj)}{σ:St}{H:Hp}{s:Shared}(I:Inv X (pins++pl) σ H s):Inv X pins σ H s:=I.pins_of fun p hp=>I.pin p (mem_append_right _ (mem_append_left _ hp))
theorem zlW{iter:Expr}{body:List Stmt}{wi:TI}{g:TG}{tb:TS}{pos:Pos}(hp:PassesOwn (model X.prog X.w) X.A X.env X.xe)(hc:X.calm=true)(hi:PI X tg iter wi)(hg:PG X tg g)(hb:PSs X body tb)
  (hs:∀x,foldedSetIterable iter X.env x=pure x:=by intro _;rfl):PS X (.For tg iter body [] pos) (tFor wi g tb):=by
 intro pins s σ H D I h;refine wpAny_For (thn (hi pins s σ H _ I h) fun v s1 h1=>thn h1 fun itv s2 h2=>?_) hs;obtain⟨it,fp,tn,J,H2,e,I2,T,st2,f2,W,⟨m0,w0⟩,turn⟩:=h2;subst e
 -- what stays true of the iterator's objects through the loop
 have stat:∀{H':Hp},(∀b∈fp,H' b=none)->∀b∈fp,FpOk X pins H' b:=fun hn b hb=>⟨hn b hb,(f2 b hb).2⟩;refine codeAny_forLoop_any (fun n s'=>∃i σ' H',Inv X pins σ' H' s'/\tn i s'.heap/\(∀b∈fp,H' b=none)/\W i n σ' H') ?_ m0 ⟨0,σ,H2,I2,st2,fun b hb=>(f2 b hb).1,w0⟩;rintro n s3 ⟨i,σ3,H3,I3,st3,fr3,w3⟩;rcases turn i n σ3 H3 w3 with⟨stop,qn⟩|⟨go,N,hN,step⟩;refine wpAny_passesOwn hp (thn (T.done X rfl rfl rfl hc i pins s3 σ3 H3 X.xe I3 (stat fr3) st3 stop) fun r s4 ⟨hr,I4⟩=>?_);subst hr;exact wpAny_execs_nil ⟨σ3,H3,I4,qn⟩;refine wpAny_passesOwn hp (thn (T.item X rfl rfl rfl hc i pins s3 σ3 H3 X.xe I3 (stat fr3) st3 go) fun r s4 ⟨u,hr,h4⟩=>?_);subst hr;refine wpAny_passesOwn hp (thn h4 fun _ s5 ⟨x,H5,I5,r5,y5,st5,fr5⟩=>?_);have I5':=I5.pinned (stat fr5) (T.obj _ _ st5);refine wpAny_passesOwn hp (thn (hg _ s5 σ3 H5 x u _ I5' r5 (step x H5 y5)) fun _ s6 ⟨σ6,H6,I6,q6⟩=>?_);refine wpAny_passesOwn hp (thn (hb _ s6 σ6 H6 _ I6 q6) fun f s7 q7=>?_);have again:∀{σ7:St}{H7:Hp},Inv X (pins++zdO fp s5.heap) σ7 H7 s7->N σ7 H7->∃m,m<n/\∃i σ' H',Inv X pins σ' H' s7/\tn i s7.heap/\(∀b∈fp,H' b=none)/\W i m σ' H':=fun {σ7 H7} I7 n7=>by obtain⟨m',hm,w7⟩:=hN σ7 H7 n7;refine⟨m',hm,i+1,σ7,H7,I7.unpinned,T.keep _ _ _ st5 fun b hb o e=>(I7.pin (b,o) (mem_append_right _ (mem_append_right _ (zby hb e)))).1,fun b hb=>?_,w7⟩;obtain⟨o,e,d⟩:=T.obj _ _ st5 b hb;exact(I7.pin (b,o) (mem_append_right _ (mem_append_right _ (zby hb e)))).2.1
 cases f with|next=>obtain⟨σ7,H7,I7,n7⟩:=q7;exact again I7 n7|cont=>obtain⟨σ7,H7,I7,n7⟩:=q7;exact again I7 n7|brk=>obtain⟨σ7,H7,I7,q7⟩:=q7;exact⟨σ7,H7,I7.unpinned,q7⟩|ret v=>obtain⟨x7,σ7,H7,I7,r7,q7⟩:=q7;exact⟨x7,σ7,H7,I7.unpinned,r7,q7⟩
end
abbrev R2:=V->V->Hp->VK->Prop
def OpR(X:Cx)(f:Value->Value->Sem Value)(r:R2):Prop:=
 ∀(pins:List (Addr×Obj))(s:Shared)(σ:St)(H:Hp)(x y:V)(v u:Value)(Q:VK),Inv X pins σ H s->RelV x v->RelV y u->r x y H Q->
  wpAny (model X.prog X.w) X.A (f v u) (EP X pins σ Q) X.xe s
def UnR(X:Cx)(f:Value->Sem Value)(r:V->Hp->VK->Prop):Prop:=
 ∀(pins:List (Addr×Obj))(s:Shared)(σ:St)(H:Hp)(x:V)(v:Value)(Q:VK),Inv X pins σ H s->RelV x v->r x H Q->
  wpAny (model X.prog X.w) X.A (f v) (EP X pins σ Q) X.xe s
def zba(X:Cx)(f:Value)(r:List V->Hp->VK->Prop):Prop:=
 ∀(pins:List (Addr×Obj))(s:Shared)(σ:St)(H:Hp)(xs:List V)(us:List Value)(Q:VK),Inv X pins σ H s->Vals xs us->r xs H Q->
  wpAny (model X.prog X.w) X.A (call f us) (EP X pins σ Q) X.xe s
def TruR(X:Cx)(r:V->Hp->(Bool->Hp->Prop)->Prop):Prop:=
 ∀(pins:List (Addr×Obj))(s:Shared)(σ:St)(H:Hp)(x:V)(v:Value)(Q:Bool->Hp->Prop),Inv X pins σ H s->RelV x v->r x H Q->
  wpAny (model X.prog X.w) X.A (truthy v) (TP X pins σ Q) X.xe s
def tOp(r:R2)(ta tb:TE):TE:=fun σ H Q=>ta σ H fun x H1=>tb σ H1 fun y H2=>r x y H2 Q
def tUn(r:V->Hp->VK->Prop)(ta:TE):TE:=fun σ H Q=>ta σ H fun x H1=>r x H1 Q
def rI(C:Int->Int->Prop)(g:Int->Int->V):R2:=fun x y H Q=>∃i j,x=.int i/\y=.int j/\C i j/\Q (g i j) H
def rI0(g:Int->Int->V):R2:=fun x y H Q=>∃i j,x=.int i/\y=.int j/\Q (g i j) H
def rU(g:Int->V):V->Hp->VK->Prop:=fun x H Q=>∃i,x=.int i/\Q (g i) H
section
variable{X:Cx}{a b c:Expr}{ta tb tc:TE}{pos:Pos}
theorem binT(ha:PE X a ta)(hb:PE X b tb){pins:List (Addr×Obj)}{s:Shared}{σ:St}{H:Hp}{R:V->V->Hp->Prop}(I:Inv X pins σ H s)
  (h:ta σ H fun x H1=>tb σ H1 fun y H2=>R x y H2) {Q:Value->Shared->Prop} {f:Value->Value->Sem Value}
  (hf:∀v u s2 x y H2,Inv X pins σ H2 s2->RelV x v->RelV y u->R x y H2->wpAny (model X.prog X.w) X.A (f v u) Q X.xe s2) :
  wpAny (model X.prog X.w) X.A (eval a X.env) (fun v s₁=>wpAny (model X.prog X.w) X.A (eval b X.env) (fun u s₂=>wpAny (model X.prog X.w) X.A (f v u) Q X.xe s₂) X.xe s₁) X.xe s:=by
 refine thn (ha pins s σ H _ I h) fun v s1 ⟨x,H1,I1,r1,q1⟩=>?_;refine thn (hb pins s1 σ H1 _ I1 q1) fun u s2 ⟨y,H2,I2,r2,q2⟩=>?_;exact hf v u s2 x y H2 I2 r1 r2 q2
theorem zjX{op:Operator}{r:R2}(ho:OpR X (binaryOp op) r)(ha:PE X a ta)(hb:PE X b tb):PE X (.BinOp a op b pos) (tOp r ta tb):=by intro pins s σ H Q I h;exact wpAny_BinOp (binT ha hb I h fun v u s2 x y H2 I2 rx ry q=>ho pins s2 σ H2 x y v u Q I2 rx ry q)
theorem znJ{op:UnaryOp}{r:V->Hp->VK->Prop}(ho:UnR X (unaryOp op) r)(ha:PE X a ta):PE X (.UnaryOp op a pos) (tUn r ta):=by intro pins s σ H Q I h;exact UnaryOp_ (thn (ha pins s σ H _ I h) fun v s1 ⟨x,H1,I1,r1,q1⟩=>ho pins s1 σ H1 x v Q I1 r1 q1)
theorem opI{f:Value->Value->Sem Value}{C:Int->Int->Prop}{g:Int->Int->Int}
  (rule:∀(i j:Int)(t u:Tok)(s:Shared)(Q:Value->Shared->Prop)(E:Value->Shared->Prop),C i j->Q (.int (g i j) s.toks) {s with toks:=s.toks+1}->wpAny (model X.prog X.w) X.A (f (.int i t) (.int j u)) Q E s) :
  OpR X f (rI C fun i j=>.int (g i j)):=by
 intro pins s σ H x y v u Q I rx ry h;obtain⟨i,j,rfl,rfl,hc,q⟩:=h;obtain⟨t,rfl⟩:=rx;obtain⟨t',rfl⟩:=ry;exact rule i j t t' s _ _ hc ⟨.int (g i j),H,I.tok _,⟨_,rfl⟩,q⟩
theorem opI0{f:Value->Value->Sem Value}{g:Int->Int->Int}
  (rule:∀(i j:Int)(t u:Tok)(s:Shared)(Q:Value->Shared->Prop)(E:Value->Shared->Prop),Q (.int (g i j) s.toks) {s with toks:=s.toks+1}->wpAny (model X.prog X.w) X.A (f (.int i t) (.int j u)) Q E s) :
  OpR X f (rI0 fun i j=>.int (g i j)):=by
 intro pins s σ H x y v u Q I rx ry h;obtain⟨i,j,rfl,rfl,q⟩:=h;obtain⟨t,rfl⟩:=rx;obtain⟨t',rfl⟩:=ry;exact rule i j t t' s _ _ ⟨.int (g i j),H,I.tok _,⟨_,rfl⟩,q⟩
theorem opB0{f:Value->Value->Sem Value}{g:Int->Int->Bool}
  (rule:∀(i j:Int)(t u:Tok)(s:Shared)(Q:Value->Shared->Prop)(E:Value->Shared->Prop),Q (.bool (g i j)) s->wpAny (model X.prog X.w) X.A (f (.int i t) (.int j u)) Q E s) :
  OpR X f (rI0 fun i j=>.bl (g i j)):=by
 intro pins s σ H x y v u Q I rx ry h;obtain⟨i,j,rfl,rfl,q⟩:=h;obtain⟨t,rfl⟩:=rx;obtain⟨t',rfl⟩:=ry;exact rule i j t t' s _ _ ⟨.bl (g i j),H,I,rfl,q⟩
def CDiv(i j:Int):Prop:=0<j/\j<1073741824
def CPow(i j:Int):Prop:=0<=j/\j<=1000000/\i.natAbs<2^64
def CMul(i j:Int):Prop:=(-(2^64)<i/\i<2^64)\/(-(2^64)<j/\j<2^64)
theorem CMul.ok{i j:Int}(h:CMul i j):IntMulOk i j:=by rcases h with⟨h1,h2⟩|⟨h1,h2⟩;exact .of_left (intBits_le_64 h1 h2);exact .of_right (intBits_le_64 h1 h2)
theorem zmg:OpR X (binaryOp .Add) (rI0 fun i j=>.int (i+j)):=opI0 fun _ _ _ _ _ _ _ q=>add_int q
theorem zl9:OpR X (binaryOp .Sub) (rI0 fun i j=>.int (i-j)):=opI0 fun _ _ _ _ _ _ _ q=>sub_int q
theorem zmc:OpR X (binaryOp .Mult) (rI CMul fun i j=>.int (i*j)):=opI fun _ _ _ _ _ _ _ hc q=>mul_int q hc.ok
theorem zj3:OpR X (binaryOp .FloorDiv) (rI CDiv fun i j=>.int (i/j)):=opI fun i j _ _ _ _ _ hc q=>by have h1:(0:Int)<j:=hc.1;have h2:j<1073741824:=hc.2;exact floordiv_int (by omega) (by rw[Int.fdiv_eq_ediv_of_nonneg i (by omega)];exact q) (.inl (PyProof.noPylong_small (by omega)))
theorem zmd:OpR X (binaryOp .Mod) (rI (fun _ j=>0<j) fun i j=>.int (i%j)):=opI fun i j _ _ _ _ _ hc q=>by have h1:(0:Int)<j:=hc;exact mod_int' (by omega) (by rw[Int.fmod_eq_emod_of_nonneg i (by omega)];exact q)
theorem zma:OpR X (binaryOp .Pow) (rI CPow fun i j=>.int (i^j.toNat)):=opI fun _ _ _ _ _ _ _ hc q=>pow_int_small hc.1 hc.2.1 hc.2.2 q
theorem unI{f:Value->Sem Value}{g:Int->Int}
  (rule:∀(i:Int)(t:Tok)(s:Shared)(Q:Value->Shared->Prop)(E:Value->Shared->Prop),Q (.int (g i) s.toks) {s with toks:=s.toks+1}->wpAny (model X.prog X.w) X.A (f (.int i t)) Q E s) :
  UnR X f (rU fun i=>.int (g i)):=by
 intro pins s σ H x v Q I rx h;obtain⟨i,rfl,q⟩:=h;obtain⟨t,rfl⟩:=rx;exact rule i t s _ _ ⟨.int (g i),H,I.tok _,⟨_,rfl⟩,q⟩
theorem zkQ:UnR X (unaryOp .USub) (rU fun i=>.int (-i)):=unI fun _ _ _ _ _ q=>neg_int q
end
noncomputable def scal:V->V->Bool
 |.non,.non=>true|.non,.int _=>true|.int _,.non=>true|.non,.bl _=>true|.bl _,.non=>true|.non,.str _=>true|.str _,.non=>true
 |.int _,.int _=>true|.bl _,.bl _=>true|.str _,.str _=>true|.byt _,.byt _=>true
 |.int _,.str _=>true|.str _,.int _=>true|.bl _,.str _=>true|.str _,.bl _=>true
 |_,_=>false
def rEq:R2:=fun x y H Q=>scal x y=true/\Q (.bl (decide (x=y))) H
def rNe:R2:=fun x y H Q=>scal x y=true/\Q (.bl (!decide (x=y))) H
theorem zg2{i j:Int}:decide (V.int i=V.int j)=(i==j):=by rw[Bool.eq_iff_iff];simp
theorem ziU{i j:Bool}:decide (V.bl i=V.bl j)=(i==j):=by rw[Bool.eq_iff_iff];simp
theorem zg1{i j:Str}:decide (V.str i=V.str j)=(i==j):=by rw[Bool.eq_iff_iff];simp
theorem zg3{i j:Array UInt8}:decide (V.byt i=V.byt j)=(i.toList==j.toList):=by rw[Bool.eq_iff_iff];cases i;cases j;simp
section
variable{X:Cx}{a b c:Expr}{ta tb tc:TE}{pos:Pos}
theorem zaj{pins:List (Addr×Obj)}{σ:St}{H:Hp}{s:Shared}{Q:VK}{k k':Bool}(I:Inv X pins σ H s)(q:Q (.bl k) H)(e:k=k'):EP X pins σ Q (.bool k') s:=by subst e;exact⟨.bl k,H,I,rfl,q⟩
theorem znT:OpR X (compareOp .Eq) rEq:=by
 intro pins s σ H x y v u Q I rx ry h;obtain⟨hs,q⟩:=h;cases x with
 |non=>cases rx;cases y with|non=>cases ry;exact PySem.EqNone.eq_none_none (zaj I q (by simp))|bl j=>cases ry;exact PySem.EqNone.eq_none_bool (zaj I q (by simp))|int j=>obtain⟨t',rfl⟩:=ry;exact PySem.EqNone.eq_none_int (zaj I q (by simp))|str j=>obtain⟨t',rfl⟩:=ry;exact PySem.EqNone.eq_none_str (zaj I q (by simp))|_=>exact absurd (show false=true from hs) Bool.false_ne_true
 |bl i=>cases rx;cases y with|non=>cases ry;exact PySem.EqNone.eq_bool_none (zaj I q (by simp))|bl j=>cases ry;exact eq_bool (zaj I q ziU)|str j=>obtain⟨t',rfl⟩:=ry;exact PySem.EqMixed.eq_bool_str (zaj I q (by simp))|_=>exact absurd (show false=true from hs) Bool.false_ne_true
 |int i=>obtain⟨t,rfl⟩:=rx;cases y with|non=>cases ry;exact PySem.EqNone.eq_int_none (zaj I q (by simp))|int j=>obtain⟨t',rfl⟩:=ry;exact eq_int (zaj I q zg2)|str j=>obtain⟨t',rfl⟩:=ry;exact PySem.EqMixed.eq_int_str (zaj I q (by simp))|_=>exact absurd (show false=true from hs) Bool.false_ne_true
 |str i=>obtain⟨t,rfl⟩:=rx;cases y with|non=>cases ry;exact PySem.EqNone.eq_str_none (zaj I q (by simp))|bl j=>cases ry;exact PySem.EqMixed.eq_str_bool (zaj I q (by simp))|int j=>obtain⟨t',rfl⟩:=ry;exact PySem.EqMixed.eq_str_int (zaj I q (by simp))|str j=>obtain⟨t',rfl⟩:=ry;exact eq_str (zaj I q zg1)|_=>exact absurd (show false=true from hs) Bool.false_ne_true
 |byt i=>obtain⟨t,rfl⟩:=rx;cases y with|byt j=>obtain⟨t',rfl⟩:=ry;exact PySem.W.eq_bytes (zaj I q zg3)|_=>exact absurd (show false=true from hs) Bool.false_ne_true
 |_=>cases y<;>exact absurd (show false=true from hs) Bool.false_ne_true
theorem znO:OpR X (compareOp .NotEq) rNe:=by
 intro pins s σ H x y v u Q I rx ry h;obtain⟨hs,q⟩:=h;cases x with
 |non=>cases rx;cases y with|non=>cases ry;exact PySem.EqNone.ne_none_none (zaj I q (by simp))|bl j=>cases ry;exact PySem.EqNone.ne_none_bool (zaj I q (by simp))|int j=>obtain⟨t',rfl⟩:=ry;exact PySem.EqNone.ne_none_int (zaj I q (by simp))|str j=>obtain⟨t',rfl⟩:=ry;exact PySem.EqNone.ne_none_str (zaj I q (by simp))|_=>exact absurd (show false=true from hs) Bool.false_ne_true
 |bl i=>cases rx;cases y with|non=>cases ry;exact PySem.EqNone.ne_bool_none (zaj I q (by simp))|bl j=>cases ry;exact ne_bool (zaj I q (congrArg not ziU))|str j=>obtain⟨t',rfl⟩:=ry;exact PySem.EqMixed.ne_bool_str (zaj I q (by simp))|_=>exact absurd (show false=true from hs) Bool.false_ne_true
 |int i=>obtain⟨t,rfl⟩:=rx;cases y with|non=>cases ry;exact PySem.EqNone.ne_int_none (zaj I q (by simp))|int j=>obtain⟨t',rfl⟩:=ry;exact ne_int (zaj I q (congrArg not zg2))|str j=>obtain⟨t',rfl⟩:=ry;exact PySem.EqMixed.ne_int_str (zaj I q (by simp))|_=>exact absurd (show false=true from hs) Bool.false_ne_true
 |str i=>obtain⟨t,rfl⟩:=rx;cases y with|non=>cases ry;exact PySem.EqNone.ne_str_none (zaj I q (by simp))|bl j=>cases ry;exact PySem.EqMixed.ne_str_bool (zaj I q (by simp))|int j=>obtain⟨t',rfl⟩:=ry;exact PySem.EqMixed.ne_str_int (zaj I q (by simp))|str j=>obtain⟨t',rfl⟩:=ry;exact ne_str (zaj I q (congrArg not zg1))|_=>exact absurd (show false=true from hs) Bool.false_ne_true
 |byt i=>obtain⟨t,rfl⟩:=rx;cases y with|byt j=>obtain⟨t',rfl⟩:=ry;exact PySem.W.ne_bytes (zaj I q (congrArg not zg3))|_=>exact absurd (show false=true from hs) Bool.false_ne_true
 |_=>cases y<;>exact absurd (show false=true from hs) Bool.false_ne_true
theorem znP:OpR X (compareOp .Lt) (rI0 fun i j=>.bl (decide (i<j))):=opB0 fun _ _ _ _ _ _ _ q=>lt_int q
theorem znQ:OpR X (compareOp .LtE) (rI0 fun i j=>.bl (decide (i<=j))):=opB0 fun _ _ _ _ _ _ _ q=>le_int q
theorem znR:OpR X (compareOp .Gt) (rI0 fun i j=>.bl (decide (j<i))):=opB0 fun _ _ _ _ _ _ _ q=>gt_int q
theorem znS:OpR X (compareOp .GtE) (rI0 fun i j=>.bl (decide (j<=i))):=opB0 fun _ _ _ _ _ _ _ q=>ge_int q
theorem zgs:OpR X (compareOp .In) (fun x y H Q=>∃i j,x=.str i/\y=.str j/\Q (.bl (!(Builtin.Str.occurrences j i 0 j.length 1).isEmpty)) H):=by intro pins s σ H x y v u Q I rx ry h;obtain⟨i,j,rfl,rfl,q⟩:=h;obtain⟨t,rfl⟩:=rx;obtain⟨t',rfl⟩:=ry;exact in_str (zaj I q rfl)
theorem zgm{op:CmpOp}{r:R2}(ho:OpR X (compareOp op) r)(ha:PE X a ta)(hb:PE X b tb)(hm:behindInMarks op b=false):PE X (.Compare a [op] [b] pos) (tOp r ta tb):=by intro pins s σ H Q I h;exact wpAny_Compare1 (binT ha hb I h fun v u s2 x y H2 I2 rx ry q=>ho pins s2 σ H2 x y v u Q I2 rx ry q) hm
def zk7(t:TE):TT:=fun σ H Q=>t σ H fun x H'=>∃k,x=.bl k/\Q k H'
theorem zjS{op:CmpOp}{r:R2}(ho:OpR X (compareOp op) r)(ha:PE X a ta)(hb:PE X b tb)(hm:behindInMarks op b=false):PT X (.Compare a [op] [b] pos) (zk7 (tOp r ta tb)):=by intro pins s σ H Q I h;refine wpAny_isTrue_Compare1 (thn (ha pins s σ H _ I h) fun v s1 ⟨x,H1,I1,r1,q1⟩=>thn (hb pins s1 σ H1 _ I1 q1) fun u s2 ⟨y,H2,I2,r2,q2⟩=>thn (ho pins s2 σ H2 x y v u _ I2 r1 r2 q2) fun c s3 ⟨z,H3,I3,r3,k,e,q3⟩=>?_) hm;subst e;cases r3;exact wpAny_truthy_bool ⟨H3,I3,q3⟩
def zit(r r':R2)(ta tb tc:TE):TE:=fun σ H Q=>ta σ H fun x H1=>tb σ H1 fun y H2=>r x y H2 fun z H3=>∃k,z=.bl k/\
 (if k=true then tc σ H3 fun w' H4=>r' y w' H4 Q else Q (.bl false) H3)
theorem zhT{op op':CmpOp}{r r':R2}(ho:OpR X (compareOp op) r)(ho':OpR X (compareOp op') r')(ha:PE X a ta)(hb:PE X b tb)(hc:PE X c tc)
  (hm:lastMarks [op,op'] [b,c]=false:=by with_unfolding_all rfl):PE X (.Compare a [op,op'] [b,c] pos) (zit r r' ta tb tc):=by
 intro pins s σ H Q I h;refine Compare_chain (thn (ha pins s σ H _ I h) fun v s1 ⟨x,H1,I1,r1,q1⟩=>chain_link (thn (hb pins s1 σ H1 _ I1 q1) fun u s2 ⟨y,H2,I2,r2,q2⟩=>thn (ho pins s2 σ H2 x y v u _ I2 r1 r2 q2) fun d s3 ⟨z,H3,I3,r3,k,e,q3⟩=>?_)) hm;subst e;cases r3;refine wpAny_truthy_bool ?_;cases k with|false=>exact ite_ff ⟨.bl false,H3,I3,rfl,q3⟩|true=>exact ite_tt (chain_last (thn (hc pins s3 σ H3 _ I3 q3) fun w' s4 ⟨z',H4,I4,r4,q4⟩=>ho' pins s4 σ H4 y z' u w' Q I4 r2 r4 q4))
theorem zhH{op op':CmpOp}{r r':R2}(ho:OpR X (compareOp op) r)(ho':OpR X (compareOp op') r')(ha:PE X a ta)(hb:PE X b tb)(hc:PE X c tc)
  (hm:lastMarks [op,op'] [b,c]=false:=by with_unfolding_all rfl):PT X (.Compare a [op,op'] [b,c] pos) (zk7 (zit r r' ta tb tc)):=by
 intro pins s σ H Q I h;refine isTrue_chain (thn (ha pins s σ H _ I h) fun v s1 ⟨x,H1,I1,r1,q1⟩=>test_link (thn (hb pins s1 σ H1 _ I1 q1) fun u s2 ⟨y,H2,I2,r2,q2⟩=>thn (ho pins s2 σ H2 x y v u _ I2 r1 r2 q2) fun d s3 ⟨z,H3,I3,r3,k,e,q3⟩=>?_)) hm;subst e;cases r3;refine wpAny_truthy_bool ?_;cases k with| false=>obtain⟨k',e',q'⟩:=q3;cases e';exact ite_ff ⟨H3,I3,q'⟩| true=>refine ite_tt (test_last (thn (hc pins s3 σ H3 _ I3 q3) fun w' s4 ⟨z',H4,I4,r4,q4⟩=>thn (ho' pins s4 σ H4 y z' u w' _ I4 r2 r4 q4) fun d' s5 ⟨z2,H5,I5,r5,k2,e2,q5⟩=>?_));subst e2;cases r5;exact wpAny_truthy_bool ⟨H5,I5,q5⟩
def TruV(K:PySem.W.Frag)(x:V)(H:Hp)(k:Bool):Prop:=match x with|.non=>k=false|.bl b=>k=b|.int i=>k=(i != 0)|.str y=>y.length<=sizeLine/\k=((y.length:Int) != 0)|.byt y=>y.size<=sizeLine/\k=((y.size:Int) != 0)|.ref p=>(∃xs,SqL K H p xs/\k = !xs.isEmpty)\/(∃xs,SqT K H p xs/\k = !xs.isEmpty)\/∃kvs,H p=some (.dK kvs)/\k = !kvs.isEmpty|_=>False
theorem zfI{κ:Type}{kvs:List (κ×V)}{vs:List (κ×Value)}(r:KV kvs vs):(!vs.isEmpty) = !kvs.isEmpty:=by cases r<;>rfl
theorem zcQ{xs:List V}{its:List Value}(r:Vals xs its):(!its.toArray.isEmpty) = !xs.isEmpty:=by cases r<;>simp
theorem zco:(sizeLine:Nat)<2^63:=by rw[sizeLine_eq];decide
theorem zk2:TruR X (fun x H Q=>∃k,TruV X.K x H k/\Q k H):=by
 intro pins s σ H x v Q I rx h;obtain⟨k,e,q⟩:=h;have hl:=zco;have hs:sizeLine=16777216:=sizeLine_eq;cases x with
 |non=>cases rx;have e':k=false:=e;subst e';exact truthy_none ⟨H,I,q⟩| bl b=>cases rx;have e':k=b:=e;subst e';exact wpAny_truthy_bool ⟨H,I,q⟩| int i=>obtain⟨t,rfl⟩:=rx;have e':k=(i != 0):=e;subst e';exact PySem.P.truthy_int ⟨H,I,q⟩| str y=>obtain⟨t,rfl⟩:=rx;obtain⟨hy,e'⟩:y.length<=sizeLine/\k=((y.length:Int) != 0):=e;subst e';exact PySem.P.truthy_str (by omega) ⟨H,I.tok _,q⟩| byt y=>obtain⟨t,rfl⟩:=rx;obtain⟨hy,e'⟩:y.size<=sizeLine/\k=((y.size:Int) != 0):=e;subst e';exact PySem.W.truthy_bytes (by omega) ⟨H,I.tok _,q⟩| ref p=>cases rx;have e':(∃xs,SqL X.K H p xs/\k = !xs.isEmpty)\/(∃xs,SqT X.K H p xs/\k = !xs.isEmpty)\/∃kvs,H p=some (.dK kvs)/\k = !kvs.isEmpty:=e;rcases e' with⟨xs,hx,e'⟩|⟨xs,hx,e'⟩|⟨kvs,hx,e'⟩;subst e';obtain⟨its,r,pl,hz⟩:=I.list hx;have hlen:=r.length;exact wpAny_truthy_list pl.isList (by simp only[size_toArray];omega) ⟨H,I.tok _,by rw[zcQ r];exact q⟩;subst e';obtain⟨its,r,pl,hz⟩:=I.tuple hx;have hlen:=r.length;exact truthy_tuple pl (by simp only[size_toArray];omega) ⟨H,I.tok _,by rw[zcQ r];exact q⟩;subst e';obtain⟨hz,hS,vs,r,m⟩:kvs.length<=sizeLine/\(p==sysModules)=false/\∃vs,KV kvs vs/\s.heap.DictOf (zet X.prog X.w) p vs:=I.hok p _ hx;have hlen:kvs.length=vs.length:=Paired.length r;exact wpAny_truthy_dict hS m (by omega) ⟨H,I.tok _,by rw[zfI r];exact q⟩
 |_=>exact(show False from e).elim
theorem zhG(ha:PE X a ta)(he:∀whole,isTrue a X.env whole=(do let v <-whole;standAt a.pos;holding [v] (truthy v))) :
  PT X a (fun σ H Q=>ta σ H fun x H'=>∃k,TruV X.K x H' k/\Q k H'):=by
 intro pins s σ H Q I h;exact isTrue_plain (thn (ha pins s σ H _ I h) fun v s1 ⟨x,H1,I1,r1,q1⟩=>zk2 pins s1 σ H1 x v Q I1 r1 q1) (he _)
theorem zfC:OpR X (binaryOp .Add) (fun x y H Q=>∃i j,x=.str i/\y=.str j/\i.length+j.length<=sizeLine/\Q (.str (i++j)) H):=by intro pins s σ H x y v u Q I rx ry h;obtain⟨i,j,rfl,rfl,hz,q⟩:=h;obtain⟨t,rfl⟩:=rx;obtain⟨t',rfl⟩:=ry;exact add_str (fun t' tk=>⟨.str (i++j),H,I.tok _,⟨_,rfl⟩,q⟩) hz
theorem zcH{x:V}{us:List Value}(r:Vals [x] us):∃u,us=[u]/\RelV x u:=by cases r with|cons r1 r2=>cases r2;exact⟨_,rfl,r1⟩
theorem zhs{x y:V}{us:List Value}(r:Vals [x,y] us):∃u w',us=[u,w']/\RelV x u/\RelV y w':=by cases r with| cons r1 r2=>cases r2 with|cons r3 r4=>cases r4;exact⟨_,_,rfl,r1,r3⟩
theorem zik:zba X (.builtin "abs") (fun xs H Q=>∃i,xs=[.int i]/\Q (.int (if i<0 then -i else i)) H):=by intro pins s σ H xs us Q I r h;obtain⟨i,rfl,q⟩:=h;obtain⟨u,rfl,t,rfl⟩:=zcH r;exact call_abs_int fun u tk=>⟨.int (if i<0 then -i else i),H,I.tok _,⟨_,rfl⟩,q⟩
theorem zd4:zba X (.type "str") (fun xs H Q=>∃i,xs=[.int i]/\i.natAbs.log2<1920/\Q (.str (toString i)) H):=by intro pins s σ H xs us Q I r h;obtain⟨i,rfl,hz,q⟩:=h;obtain⟨u,rfl,t,rfl⟩:=zcH r;exact PySem.P.str_of_int hz ⟨.str _,H,I.tok _,⟨_,rfl⟩,q⟩
end
structure ObjM(h:Heap)(x dx C:Addr)(mA:Str->Option Value):Prop where
 obj:h.get? x=some (instObj C dx)
 ns:h.Ns1 dx mA
 ne:dx≠x
theorem zdU{h:Heap}{dx:Addr}{mA:Str->Option Value}(n:h.Ns1 dx mA):∃od,h.get? dx=some od/\∀name,lookIn name od=some (mA name):=by
 obtain⟨o,es,ep,ho,hd,hk,_,hm⟩:=n;refine⟨o,ho,fun name=>?_⟩;have e:=hm name;unfold nsFind findBy at e;rw[<-Array.find?_toList]at e;unfold lookIn;rw[hd];dsimp only;split;rename_i y q;rw[q]at e;exact congrArg some e;rename_i q;rw[q]at e;have a:es.toList.any (·.refKey)=false:=by rw[List.any_eq_false];intro y hy;obtain⟨z,t,hkey⟩:=hk y (Array.mem_toList_iff.mp hy);simp[DictEntry.refKey,hkey]
 have a':¬es.toList.any (·.refKey)=true:=by rw[a];exact Bool.false_ne_true
 rw[if_neg a'];exact congrArg some e
theorem ObjM.look{h:Heap}{x dx C:Addr}{mA:Str->Option Value}(I:ObjM h x dx C mA):∃od,PySem.W.InstAt h x (instObj C dx) C (some od)/\∀name,lookIn name od=some (mA name):=
 let ⟨od,ho,hl⟩:=zdU I.ns
 ⟨od,⟨I.obj,rfl,rfl,ho⟩,hl⟩
section
variable{prog:Program}{w:World}{A:Around}{E:Value->Shared->Prop}{s:Shared}{K:PySem.W.Frag}{x dx C f:Addr}{mA:Str->Option Value}{name:Str}{v:Value}
theorem zjm{ns:List Str}{Q:Unit->Shared->Prop}(X:K.In s.heap)(I:ObjM s.heap x dx C mA)
  (hs:PySem.W.findIn K (.ref C) "__setattr__"=some (some (.builtin "object.__setattr__"))) (hp:plainOver K C=true) (ht:takerIn K C name=some none) (hh:PySem.W.hasDictIn K C=true)
  (hw:PySem.Within mA ns) (hsz:ns.length<=sizeLine)
  (h:∀h',ObjM h' x dx C (fun y=>if y=name then some v else mA y)->Heap.SameBut dx s.heap h'->Q () {s with heap:=h',toks:=s.toks+2}) :
  wpAny (model prog w) A (setAttr (.ref x) name v) Q E s:=by
 obtain⟨od,J,hl⟩:=I.look;refine PySem.W.set_plain X J hs (PySem.W.osa_open (s:={s with toks:=s.toks+1}) (r:=none) X J hp ht fun b=>?_);obtain⟨cd,hc,hd'⟩:=PySem.W.any_some hh;have hx:s.heap.get? x=some ⟨.ref C,some dx,.plain,#[]⟩:=I.obj;refine wpAny_bind (wpAny_pure (wpAny_bind (wpAny_bind (wpAny_loadPart hx (wpAny_bind (PySem.W.Looks.here (s:={s with toks:=s.toks+1}) (PySem.W.looks_clsIn X hc) ?_))))));rw[hd'];refine wpAny_pure (a:=some dx) (wpAny_bind (wpAny_pure (wpAny_bind ?_)));refine wpAny_nsSet1 (s:={s with toks:=s.toks+1}) I.ns fun h' hn2 hs2=>?_;obtain⟨oD,esD,epD,hoD,hdD,hcD⟩:=hn2.count (PySem.Within.cons name v hw);refine wpAny_bind (wpAny_lookBehind hoD (by rw[hdD];exact pastItsLine_dict (le_trans hcD (by rw[length_cons];omega))) ?_);exact wpAny_pure (h _ ⟨(hs2.2 _ (Ne.symm I.ne)).trans I.obj,hn2,I.ne⟩ hs2)
theorem ze0{R:Result->Shared->Prop}{vs:List Value}{kw:List (Str×Value)}(X:K.In s.heap)(hm:makesIn K C=true)
  (hi:PySem.W.findIn K (.ref C) "__init__"=some (some (.ref f))) (hf:PySem.W.typeIn K (.ref f)=some (.type "function"))
  (h:codeAny (model prog w) (A.under (.builtin "type.__call__" ⟨.ref C::vs,kw⟩)) (.call (.ref f) ⟨.ref (s.heap.objs.size+1)::vs,kw⟩) (PySem.W.InitBack (s.heap.objs.size+1) R)
   {s with heap:=(s.heap.push emptyDict).push (instObj C s.heap.objs.size)}) :
  codeAny (model prog w) A (.call (.ref C) ⟨vs,kw⟩) R s:=by
 obtain⟨hh,g,d,t,os⟩:=s;exact PySem.W.make_core (PySem.W.makes_of X hm) (PySem.W.looks_findIn X hi) (fun self=>PySem.W.bind_fn X self hf) (.inl rfl) h
end
noncomputable def putF(f:Str)(v:V):List (Str×V)->List (Str×V)
 | []=>[(f,v)]|(g,x)::r=>if g=f then(g,v)::r else(g,x)::putF f v r
theorem zcn(f g:Str)(v:V):∀fs:List (Str×V),(putF f v fs).lookup g=if g=f then some v else fs.lookup g
 | []=>by show List.lookup g [(f,v)]=_;by_cases h:g=f;have hb:(g==f)=true:=beq_iff_eq.mpr h;simp only[List.lookup,hb,if_pos h];have hb:(g==f)=false:=beq_eq_false_iff_ne.mpr h;simp only[List.lookup,hb,if_neg h]| (k,x)::r=>by have ih:=zcn f g v r;rw[show putF f v ((k,x)::r)=(if k=f then(k,v)::r else(k,x)::putF f v r) from rfl];by_cases hk:k=f;rw[if_pos hk];by_cases h:g=k;have hb:(g==k)=true:=beq_iff_eq.mpr h;simp only[List.lookup,hb,if_pos (h.trans hk)];have hb:(g==k)=false:=beq_eq_false_iff_ne.mpr h;simp only[List.lookup,hb,if_neg (fun e:g=f=>h (e.trans hk.symm))];rw[if_neg hk];by_cases h:g=k;have hb:(g==k)=true:=beq_iff_eq.mpr h;simp only[List.lookup,hb,if_neg (fun e:g=f=>hk (h.symm.trans e))];have hb:(g==k)=false:=beq_eq_false_iff_ne.mpr h;simp only[List.lookup,hb];exact ih
theorem zcq(f:Str)(v:V):∀fs:List (Str×V),f∈(putF f v fs).map (·.1)/\∀g,g∈fs.map (·.1)->g∈(putF f v fs).map (·.1)
 | []=>⟨by simp[putF],fun g h=>by simp at h⟩| (k,x)::r=>by obtain⟨i1,i2⟩:=zcq f v r;rw[show putF f v ((k,x)::r)=(if k=f then(k,v)::r else(k,x)::putF f v r) from rfl];by_cases hk:k=f;rw[if_pos hk];subst hk;exact⟨by simp,fun g h=>by simpa using h⟩;rw[if_neg hk];refine⟨?_,fun g h=>?_⟩;rw[map_cons];exact mem_cons_of_mem _ i1;rw[map_cons]at h⊢;rcases mem_cons.mp h with e|e;exact mem_cons.mpr (.inl e);exact mem_cons_of_mem _ (i2 g e)
theorem zcp(f:Str)(v:V):∀fs:List (Str×V),(putF f v fs).length<=fs.length+1
 | []=>by simp[putF]| (k,x)::r=>by have ih:=zcp f v r;rw[show putF f v ((k,x)::r)=(if k=f then(k,v)::r else(k,x)::putF f v r) from rfl];by_cases hk:k=f;rw[if_pos hk,length_cons,length_cons];omega;rw[if_neg hk,length_cons,length_cons];omega
theorem RelO.some_of{v:V}{o:Option Value}(r:RelO (some v) o):∃u,o=some u/\RelV v u:=by cases o with|none=>exact(show False from r).elim|some u=>exact⟨u,rfl,r⟩
theorem zgU{v:V}{u:Value}(r:RelV v u):PySem.W.handedIn u=true:=by cases v with|non=>cases(show u=Value.none from r);rfl|bl b=>cases(show u=Value.bool b from r);rfl|int i=>obtain⟨t,e⟩:=(show ∃t,u=Value.int i t from r);cases e;rfl|str x=>obtain⟨t,e⟩:=(show ∃t,u=Value.str x t from r);cases e;rfl|byt b=>obtain⟨t,e⟩:=(show ∃t,u=Value.bytes b t from r);cases e;rfl|flt b=>obtain⟨t,e⟩:=(show ∃t,u=Value.float b t from r);cases e;rfl|ref a=>cases(show u=Value.ref a from r);rfl|ty n=>cases(show u=Value.type n from r);rfl
section
variable{P:Program}{w:World}{H H':Hp}{h h':Heap}{a C dx:Addr}{fs fs':List (Str×V)}
theorem zgP(hok:HOk P w H h)(e:H a=some (.ins C dx fs)):∃mA,ObjM h a dx C mA/\(∀f,RelO (fs.lookup f) (mA f))/\PySem.Within mA (fs.map (·.1))/\fs.length<=1000/\H dx=some (.own a):=by obtain⟨d,z,ne,ob,mA,n,r,q⟩:=(show ObjOk P w H h a (.ins C dx fs) from hok a _ e);exact⟨mA,⟨ob,n,ne⟩,r,q,z,d⟩
end
structure Cls(K:PySem.W.Frag)(C:Addr):Prop where
 pg:plainGet K C Str.empty=true
 hd:PySem.W.hasDictIn K C=true
 po:plainOver K C=true
 sa:PySem.W.findIn K (.ref C) "__setattr__"=some (some (.builtin "object.__setattr__"))
theorem Cls.get{K:PySem.W.Frag}{C:Addr}(c:Cls K C)(f:Str):plainGet K C f=true:=c.pg
def NoAttr(K:PySem.W.Frag)(C:Addr)(f:Str):Prop:=PySem.W.findIn K (.ref C) f=some none
theorem NoAttr.taker{K:PySem.W.Frag}{C:Addr}{f:Str}(n:NoAttr K C f):takerIn K C f=some none:=by unfold takerIn;rw[show PySem.W.findIn K (.ref C) f=some none from n];rfl
structure Con(K:PySem.W.Frag)(C:Addr)(f:Str)(v:V)(u:Value):Prop where
 at_:PySem.W.findIn K (.ref C) f=some (some u)
 rel:RelV v u
 get:specialIn K u "__get__"=some none
 cp:PySem.W.copiedNames.contains f=false
structure Meth(K:PySem.W.Frag)(C:Addr)(m:Str)(f:Addr):Prop where
 at_:PySem.W.findIn K (.ref C) m=some (some (.ref f))
 fn:isFn K (.ref f)=true
 kp:keepIn K (.ref f)=true
section
variable{X:Cx}{pins:List (Addr×Obj)}{σ:St}{H:Hp}{s:Shared}{a C dx:Addr}{fs:List (Str×V)}{f:Str}{v:V}{A:Around}{E:Value->Shared->Prop}
theorem zfw{y:V}{u:Value}{Q:Unit->Shared->Prop}(I:Inv X pins σ H s)(e:H a=some (.ins C dx fs))(c:Cls X.K C)(n:NoAttr X.K C f)(hl:fs.length<1000)(ry:RelV y u)
  (h:∀s',Inv X pins σ (upd H a (.ins C dx (putF f y fs))) s'->Q () s'):wpAny (model X.prog X.w) A (setAttr (.ref a) f u) Q E s:=by
 obtain⟨mA,O,r,wi,_,ho⟩:=zgP I.hok e;have hz:(fs.map (·.1)).length<=sizeLine:=by rw[length_map,sizeLine_eq];omega
 refine zjm I.kIn O c.sa c.po n.taker c.hd wi hz fun h' O' sb=>h _ ?_;have hd:∃o,h'.get? dx=some o:=let ⟨o,_,_,e',_⟩:=O'.ns;⟨o,e'⟩;refine I.write (x:=a) (e:=dx) (by rw[e];exact True.intro) (.inr ho) (fun b q hb z=>(sb.2 b hb).trans z) hd ?_;refine⟨by rw[zaf O.ne];exact ho,?_,O.ne,O'.obj,_,O'.ns,fun g=>?_,fun g hg=>?_⟩
 have:=zcp f y fs;omega;show RelO ((putF f y fs).lookup g) (if g=f then some u else mA g);rw[zcn];by_cases q:g=f;rw[if_pos q,if_pos q];exact ry;rw[if_neg q,if_neg q];exact r g;by_cases q:g=f;rw[q];exact(zcq f y fs).1;refine(zcq f y fs).2 g (wi g fun z=>hg ?_);show(if g=f then some u else mA g)=none;rw[if_neg q];exact z
theorem Inv.made(I:Inv X pins σ H s):Inv X pins σ (upd (upd H s.heap.objs.size (.own (s.heap.objs.size+1))) (s.heap.objs.size+1) (.ins C s.heap.objs.size []))
  {s with heap:=(s.heap.push emptyDict).push (instObj C s.heap.objs.size)}:=by
 have e1:(s.heap.push emptyDict).get? s.heap.objs.size=some emptyDict:=Heap.get?_push_size s.heap rfl;have e2:((s.heap.push emptyDict).push (instObj C s.heap.objs.size)).get? (s.heap.objs.size+1)=some (instObj C s.heap.objs.size):=by
  have:=Heap.get?_push_size (s.heap.push emptyDict) (o:=instObj C s.heap.objs.size) rfl
  rwa [Heap.size_push]at this
 have e3:(s.heap.push emptyDict).Ns s.heap.objs.size (fun _=>none):=⟨emptyDict,#[],_,e1,rfl,(fun e he=>absurd he (by simp)),fun _=>rfl⟩;have I1:=I.laid (a:=s.heap.objs.size) (o:=.own (s.heap.objs.size+1)) (h':=s.heap.push emptyDict) (t':=s.toks) (fun b u q=>Heap.get?_push_of_some _ q) (le_refl _) ⟨_,e1⟩;refine I1.laid (a:=s.heap.objs.size+1) (o:=.ins C s.heap.objs.size []) (t':=s.toks) (fun b u q=>Heap.get?_push_of_some _ q) (le_of_eq (Heap.size_push _ _)) ?_;have ne:s.heap.objs.size≠s.heap.objs.size+1:=ne_of_lt (lt_succ_self _);refine⟨by rw[zaf ne,zai],zero_le _,ne,e2,fun _=>none,(Heap.Ns1.of_empty e3).at fun o q=>Heap.get?_push_of_some _ q,fun _=>True.intro,fun y hy=>absurd rfl hy⟩
theorem zkA{prog:Program}{w:World}{env:Env}{e:Expr}{f:Str}{pos:Pos}{s:Shared}{Q:Value->Shared->Prop}(hb:attributeBase e f env (eval e env)=eval e env)
  (h:wpAny (model prog w) A (eval e env) (fun o s₁=>wpAny (model prog w) A (getAttr o f true) Q E s₁) E s):wpAny (model prog w) A (eval (.Attribute e f pos) env) Q E s:=
 Attribute_any_ h (by rw[arm_eval_Attribute,hb])
end
def sFld(K:PySem.W.Frag)(ta tv:TE)(f:Str):TS:=fun D σ H=>tv σ H fun y H1=>ta σ H1 fun x H2=>∃a C dx fs,x=.ref a/\H2 a=some (.ins C dx fs)/\Cls K C/\NoAttr K C f/\fs.length<1000/\
 D.nx σ (upd H2 a (.ins C dx (putF f y fs)))
section
variable{X:Cx}{o e value:Expr}{f:Str}{pos pos' tpos:Pos}{ta tv:TE}
theorem ziH(ha:PE X o ta)(hv:PE X value tv)(hs:swapsWith value (some (.Attribute o f pos')) pos.line X.env=pure false):PS X (.Assign [.Attribute o f pos'] value pos) (sFld X.K ta tv f):=by intro pins s σ H D I h;refine plainObj_wpAny_Assign_Attribute (thn (hv pins s σ H _ I h) fun u s1 ⟨y,H1,I1,ry,q⟩=>thn (ha pins s1 σ H1 _ I1 q) fun ov s2 ⟨x,H2,I2,rx,a,C,dx,fs,ex,ea,c,n,l,q2⟩=>?_) hs;subst ex;obtain rfl:ov=Value.ref a:=rx;exact zfw I2 ea c n l ry fun s3 I3=>⟨σ,_,I3,q2⟩
end
section
variable{X:Cx}{pins:List (Addr×Obj)}{σ:St}{H:Hp}{s:Shared}{A:Around}{E:Value->Shared->Prop}{Q:Value->Shared->Prop}{c:Value}{b:Bool}
inductive TyOf(K:PySem.W.Frag)(H:Hp):V->Value->Prop where
 |non:TyOf K H .non (.type "NoneType")
 |bl (x:Bool):TyOf K H (.bl x) (.type "bool")
 |int (i:Int):TyOf K H (.int i) (.type "int")
 |str (x:Str):TyOf K H (.str x) (.type "str")
 |flt (x:UInt64):TyOf K H (.flt x) (.type "float")
 |lst {a:Addr} {xs:List V} (e:H a=some (.lst xs)):TyOf K H (.ref a) (.type "list")
 |frz {a:Addr} {o:Obj} {xs:List V} (e:H a=some (.frz o (.lst xs))):TyOf K H (.ref a) (.type "list")
 |tup {a:Addr} {xs:List V} (e:H a=some (.tup xs)):TyOf K H (.ref a) (.type "tuple")
 |dK {a:Addr} {kvs:List (Key×V)} (e:H a=some (.dK kvs)):TyOf K H (.ref a) (.type "dict")
 |dT {a:Addr} {kvs:List (List Key×V)} (e:H a=some (.dT kvs)):TyOf K H (.ref a) (.type "dict")
 |ins {a C dx:Addr} {fs:List (Str×V)} (e:H a=some (.ins C dx fs)) (cl:Cls K C) (ha:PySem.W.findIn K (.ref C) "__class__"=some (some (.builtin "object.__class__")))
  (hn:specialIn K (.builtin "object.__class__") "__get__"=some (some (.builtin "getset_descriptor.__get__"))) (htk:takesIn K (.builtin "object.__class__")=some true)
  (hm:PySem.W.mroIn K C (.type "object")=some true):TyOf K H (.ref a) (.ref C)
theorem zgI{x:V}{u t:Value}(I:Inv X pins σ H s)(rx:RelV x u)(ty:TyOf X.K H x t)(e:kitOne X.K t c=some b)(h:∀tk,Q (.bool b) {s with toks:=tk}) :
  wpAny (model X.prog X.w) A (call (.builtin "isinstance") [u,c]) Q E s:=by
 cases ty with|non=>cases(show u=Value.none from rx);exact kia_one PySem.W.kitx_none I.kIn True.intro e (fun z=>nomatch z) h|bl y=>cases(show u=Value.bool y from rx);exact kia_one PySem.W.kitx_bool I.kIn True.intro e (fun z=>nomatch z) h|int i=>obtain⟨t,q⟩:=(show ∃t,u=Value.int i t from rx);cases q;exact kia_one PySem.W.kitx_int I.kIn True.intro e (fun z=>nomatch z) h|str y=>obtain⟨t,q⟩:=(show ∃t,u=Value.str y t from rx);cases q;exact kia_one PySem.W.kitx_str I.kIn True.intro e (fun z=>nomatch z) h|flt y=>obtain⟨t,q⟩:=(show ∃t,u=Value.float y t from rx);cases q;exact kia_one PySem.W.kitx_float I.kIn True.intro e (fun z=>nomatch z) h| @lst a xs ea=>cases(show u=Value.ref a from rx);obtain⟨_,_,n,_,h1⟩:=(show ObjOk X.prog X.w H s.heap a (.lst xs) from I.hok a _ ea);exact kia_one kitx_list I.kIn ⟨_,h1,rfl⟩ e (fun z=>nomatch z) h| @frz a ob xs ea=>cases(show u=Value.ref a from rx);obtain⟨_,_,_,n,_,h1⟩:=(show ObjOk X.prog X.w H s.heap a (.frz ob (.lst xs)) from I.hok a _ ea);exact kia_one kitx_list I.kIn ⟨_,h1,rfl⟩ e (fun z=>nomatch z) h| @tup a xs ea=>cases(show u=Value.ref a from rx);obtain⟨_,_,_,p⟩:=(show ObjOk X.prog X.w H s.heap a (.tup xs) from I.hok a _ ea);obtain⟨o,h1,h2,_⟩:=p;exact kia_one PySem.W.kitx_tuple I.kIn ⟨o,h1,h2⟩ e (fun z=>nomatch z) h| @dK a kvs ea=>cases(show u=Value.ref a from rx);obtain⟨_,_,vs,_,p⟩:=(show ObjOk X.prog X.w H s.heap a (.dK kvs) from I.hok a _ ea);obtain⟨o,es,ep,h1,h2,_⟩:=p;exact kia_one kitx_dict I.kIn ⟨o,h1,h2.1⟩ e (fun z=>nomatch z) h| @dT a kvs ea=>cases(show u=Value.ref a from rx);obtain⟨_,_,xs,_,o,es,ep,h1,h2,_⟩:=(show ObjOk X.prog X.w H s.heap a (.dT kvs) from I.hok a _ ea);exact kia_one kitx_dict I.kIn ⟨o,h1,h2.1⟩ e (fun z=>nomatch z) h| @ins a C dx fs ea cl ha hn htk hm=>cases(show u=Value.ref a from rx);obtain⟨mA,O,_⟩:=zgP I.hok ea;obtain⟨od,J,_⟩:=O.look;exact kia_one (PySem.W.kitx_own (cl.get _) cl.hd ha hn htk hm) I.kIn J e (fun z=>nomatch z) h
end
structure Room(k:Nat)(A:Around):Prop where
 hd:A.handled=none
 dp:A.depth+3*k+5<recursionLimit
 un:A.units+16*k+200<cLine
theorem Room.mono{j k:Nat}{A:Around}(r:Room k A)(h:j<=k):Room j A:=⟨r.hd,by have:=r.dp;omega,by have:=r.un;omega⟩
theorem Room.deeper{k:Nat}{A:Around}(r:Room (k+1) A)(env:Env):Room k (A.deeper env):=⟨r.hd,by have:=r.dp;show A.depth+1+3*k+5<_;omega,by have:=r.un;show A.units+3+16*k+200<_;omega⟩
theorem zfF{A:Around}{C:Addr}{us:List Value}{kw:List (Str×Value)}:(A.under (.builtin "type.__call__" ⟨.ref C::us,kw⟩)).depth=A.depth+1:=by first|rfl|simp[Around.under,Code.weight,Code.isCreation,Code.isGuard,Code.isCaller,Code.frames,Code.isFrame,guardIds]
theorem zfE{A:Around}{C:Addr}{us:List Value}{kw:List (Str×Value)}:(A.under (.builtin "type.__call__" ⟨.ref C::us,kw⟩)).units=A.units+1:=by first|rfl|simp[Around.under,Code.cUnits,Code.frames,Code.isFrame]
theorem Room.make{k:Nat}{A:Around}(r:Room (k+1) A)(C:Addr)(us:List Value)(kw:List (Str×Value)):Room k (A.under (.builtin "type.__call__" ⟨.ref C::us,kw⟩)):=⟨r.hd,by have:=r.dp;rw[zfF];omega,by have:=r.un;rw[zfE];omega⟩
theorem Room.depth{k:Nat}{A:Around}(r:Room k A):A.depth<recursionLimit:=by have:=r.dp;omega
def tNil:TA:=fun _ H Q=>Q [] H
def zhu(ta:TE)(tr:TA):TA:=fun σ H Q=>ta σ H fun x H1=>tr σ H1 fun xs H2=>Q (x::xs) H2
section
variable{X:Cx}{e:Expr}{es:List Expr}{te:TE}{t:TA}{pos:Pos}
theorem zbC:PA X [] tNil:=fun _ _ _ _ H Q I h=>Calls.spliced_nil ⟨[],H,I,.nil,h⟩
theorem zaF(ha:PE X e te)(hr:PA X es t)(hs:starEach (e::es) X.env=(false,eval e X.env)::starEach es X.env:=by rfl):PA X (e::es) (zhu te t):=by intro pos pins s σ H Q I h;rw[hs];show wpAny _ _ (spliced ((false,eval e X.env)::backTo pos (starEach es X.env))) _ _ s;refine Calls.spliced_cons (thn (ha pins s σ H _ I h) fun u s1 ⟨x,H1,I1,r1,q1⟩=>?_);exact thn (hr pos pins s1 σ H1 _ I1 q1) fun us s2 ⟨xs,H2,I2,r2,q2⟩=>⟨x::xs,H2,I2,.cons r1 r2,q2⟩
def tTup(t:TA):TE:=fun σ H Q=>t σ H fun xs H1=>xs.length<=sizeLine/\∀p,H1 p=none->Q (.ref p) (upd H1 p (.tup xs))
def tLst(t:TA):TE:=fun σ H Q=>t σ H fun xs H1=>xs.length<=sizeLine/\∀p,H1 p=none->Q (.ref p) (upd H1 p (.lst xs))
theorem zl1{x1}(h:PA X es t):PE X (.Tuple es x1 pos) (tTup t):=by intro pins s σ H Q I hq;refine wpAny_Tuple_spliced (thn (h pos pins s σ H _ I hq) fun us s1 ⟨xs,H1,I1,r,z,q⟩=>⟨by rw[<-r.length];exact z,?_⟩);have hf:H1 s1.heap.objs.size=none:=I1.hok.fresh (le_refl _);refine⟨.ref s1.heap.objs.size,upd H1 s1.heap.objs.size (.tup xs),I1.laid (t':=s1.toks) (fun b u e=>Heap.get?_push_of_some _ e) (le_refl _) ?_,rfl,q _ hf⟩;exact⟨z,us,r,⟨_,Heap.get?_push_size _ rfl,rfl,_,rfl⟩⟩
theorem zl4(h:PA X es t):PE X (.List es pos) (tLst t):=by intro pins s σ H Q I hq;refine wpAny_List_spliced (thn (h pos pins s σ H _ I hq) fun us s1 ⟨xs,H1,I1,r,z,q⟩=>⟨by rw[<-r.length];exact z,?_⟩);have hf:H1 s1.heap.objs.size=none:=I1.hok.fresh (le_refl _);refine⟨.ref s1.heap.objs.size,upd H1 s1.heap.objs.size (.lst xs),I1.laid (t':=s1.toks) (fun b u e=>Heap.get?_push_of_some _ e) (le_refl _) ?_,rfl,q _ hf⟩;exact⟨z,us,0,r,Heap.get?_push_size _ rfl⟩
end
abbrev Sp:=List V->Hp->VK->XK->Prop
abbrev CXT:=List Env->Hp->Shared->XK->Value->Shared->Prop
structure Env0(P:Program)(w:World)(K:PySem.W.Frag)(mg:Str->Option Value)(base:Heap)(A:Around)(outer:List Env)(s:Shared)(H:Hp):Prop where
 frames:A.frames=some outer
 mod:Mod K mg base
 bs:∀b o,base.get? b=some o->s.heap.get? b=some o/\H b=none
 bsz:base.objs.size<=s.heap.objs.size
 funs:s.heap.FunFrames base outer
 frf:∀b∈frs outer,H b=none
 hok:HOk P w H s.heap
 bare:AllBare s.gens
def CE(outer:List Env)(P:Program)(w:World)(H:Hp)(s:Shared)(Q:VK)(u:Value)(s':Shared):Prop:=∃v H',s'.os=s.os/\AllBare s'.gens/\Un (frs outer) [] H H' s.heap s'.heap/\HOk P w H' s'.heap/\RelV v u/\Q v H'
def CR(CX:CXT)(outer:List Env)(P:Program)(w:World)(H:Hp)(s:Shared)(Q:VK)(E:XK)(r:Result)(s':Shared):Prop:=match r with|.ok (.ret u)=>CE outer P w H s Q u s'|.ok _=>False|.error e=>CX outer H s E e s'
structure FnOk(P:Program)(w:World)(K:PySem.W.Frag)(mg:Str->Option Value)(base:Heap)(CX:CXT)(k:Nat)(f:Addr)(fd:FuncData)(ps:List Str)(sp:Sp):Prop where
 len:∀vs H Q E,sp vs H Q E->vs.length=ps.length
 run:∀(A:Around)(outer:List Env)(s:Shared)(H:Hp)(args:Args)(us:List Value)(vs:List V)(Q:VK)(E:XK),Room k A->Env0 P w K mg base A outer s H->BindsTo s fd args (ps.zip us)->Vals vs us->sp vs H Q E->
  codeAny (model P w) A (.call (.ref f) args) (CR CX outer P w H s Q E) s
theorem FnOk.mono{P:Program}{w:World}{K:PySem.W.Frag}{mg:Str->Option Value}{base:Heap}{CX:CXT}{j k:Nat}{f:Addr}{fd:FuncData}{ps:List Str}{sp:Sp}(F:FnOk P w K mg base CX j f fd ps sp)(h:j<=k) :
 FnOk P w K mg base CX k f fd ps sp:=⟨F.len,fun A outer s H args us vs Q E hr=>F.run A outer s H args us vs Q E (hr.mono h)⟩
theorem Env0.make{P:Program}{w:World}{K:PySem.W.Frag}{mg:Str->Option Value}{base:Heap}{A:Around}{outer:List Env}{s:Shared}{H:Hp}(e:Env0 P w K mg base A outer s H)(C:Addr)(us:List Value)(kw:List (Str×Value)) :
 Env0 P w K mg base (A.under (.builtin "type.__call__" ⟨.ref C::us,kw⟩)) outer s H:=⟨by first|exact e.frames|(simpa[Around.under,Code.envs,Code.isFrame,pushEnvs]using e.frames),e.mod,e.bs,e.bsz,e.funs,e.frf,e.hok,e.bare⟩
section
variable{X:Cx}{pins:List (Addr×Obj)}{σ:St}{H:Hp}{s s':Shared}
theorem Inv.env0(I:Inv X pins σ H s):Env0 X.prog X.w X.K X.mg X.base X.A X.stack s H:=⟨I.ok.frames,I.ok.mod,I.bs,le_trans I.ok.bsz I.sz,I.stack,I.stkFree,I.hok,I.bare⟩
theorem Inv.after{Q:VK}{u:Value}(I:Inv X pins σ H s)(h:CE X.stack X.prog X.w H s Q u s'):EP X pins σ Q u s':=by obtain⟨v,H',os,bare,un,hok,r,q⟩:=h;obtain⟨hh,g,d,t,os'⟩:=s';obtain rfl:os'=s.os:=os;exact⟨v,H',I.call (h':=hh) (g':=g) (d':=d) (t':=t) (ch:=[]) un hok bare (fun b z=>absurd z (by simp)),r,q⟩
end
def zfY(sp:Sp)(dvs:List V)(E:XK)(t:TA):TE:=fun σ H Q=>t σ H fun vs H1=>sp (vs++dvs) H1 Q E
def zjc(C:Addr)(sp:Sp)(dvs:List V)(E:XK)(t:TA):TE:=fun σ H Q=>t σ H fun vs H1=>∀x dx,H1 x=none->H1 dx=none->dx≠x->
 sp (.ref x::(vs++dvs)) (upd (upd H1 dx (.own x)) x (.ins C dx [])) (fun v H2=>v=.non/\Q (.ref x) H2) E
def Binds(K:PySem.W.Frag)(fd:FuncData)(ps:List Str)(ds:List Value):Prop:=∀(s:Shared)(us:List Value),K.In s.heap->(us++ds).length=ps.length->BindsTo s fd ⟨us,[]⟩ (ps.zip (us++ds))
theorem Binds.all{K:PySem.W.Frag}{fd:FuncData}{ps:List Str}(h:∀us:List Value,us.length=ps.length->bindArgs fd ⟨us,[]⟩=pure (ps.zip us)):Binds K fd ps []:=fun s us _ hl=>by rw[append_nil]at hl⊢;exact .of_eq (h us hl)
def zcG(CX:CXT)(X:Cx)(E:XK):Prop:=∀(pins:List (Addr×Obj))(σ:St)(H:Hp)(s:Shared)(e:Value)(s':Shared),Inv X pins σ H s->CX X.stack H s E e s'->X.xe e s'
section
variable{X:Cx}{CX:CXT}{k:Nat}{f C:Addr}{fd:FuncData}{ps:List Str}{sp:Sp}{dvs:List V}{ds:List Value}{E:XK}{x m:Str}{p pos apos:Pos}{e o:Expr}{es:List Expr}{ta:TE}{t:TA}
theorem ziE{pins:List (Addr×Obj)}{σ:St}{H:Hp}{s:Shared}{Q:VK}{us:List Value}{vs:List V}(F:FnOk X.prog X.w X.K X.mg X.base CX k f fd ps sp)(hr:Room k X.A)(hb:Binds X.K fd ps ds)(hd:Vals dvs ds)(hx:zcG CX X E)
  (I:Inv X pins σ H s) (r:Vals vs us) (h:sp (vs++dvs) H Q E):wpAny (model X.prog X.w) X.A (call (.ref f) us) (EP X pins σ Q) X.xe s:=by
 have r2:Vals (vs++dvs) (us++ds):=r.append hd;have hl:(us++ds).length=ps.length:=by rw[<-r2.length];exact F.len _ _ _ _ h
 refine wpAny_call (codeAny_mono (F.run X.A X.stack s H ⟨us,[]⟩ (us++ds) (vs++dvs) Q E hr I.env0 (hb s us I.kIn hl) r2 h) fun r s' hq=>?_);cases r with|error e=>exact hx pins σ H s e s' I hq| ok fl=>cases fl with|ret u=>exact I.after hq|next=>exact False.elim hq|brk=>exact False.elim hq|cont=>exact False.elim hq
theorem zj0(F:FnOk X.prog X.w X.K X.mg X.base CX k f fd ps sp)(hr:Room k X.A)(hg:Gl X x)(hm:X.mg x=some (.ref f))(hk:keepIn X.K (.ref f)=true)(hb:Binds X.K fd ps ds)(hd:Vals dvs ds)(hx:zcG CX X E)
  (ha:PA X (e::es) t) (hdb:(x==("__debug__":Str))=false:=by decide) (he:starEach (e::es) X.env=(false,eval e X.env)::starEach es X.env:=by rfl) (hpl:(backTo pos (starEach es X.env)).any (·.1)=false:=by rfl) :
  PE X (.Call (.Name x p) (e::es) [] pos) (zfY sp dvs E t):=by
 intro pins s σ H Q I h;refine wpAny_Call_Name_kw (za7 I hg hm ?_ hdb);refine callWith_K (h₀:=X.base) I.ok.mod.kin hk (thn (ha pos pins s σ H _ I h) fun us s1 ⟨vs,H1,I1,r,q⟩=>⟨I1.kIn,?_⟩) he hpl;exact ziE F hr hb hd hx I1 r q
theorem zhV(F:FnOk X.prog X.w X.K X.mg X.base CX k f fd ps sp)(hr:Room k X.A)(hg:Gl X x)(hm:X.mg x=some (.ref f))(hk:keepIn X.K (.ref f)=true)(hb:Binds X.K fd ps ds)(hd:Vals dvs ds)(hx:zcG CX X E)
  (hdb:(x==("__debug__":Str))=false:=by decide):PE X (.Call (.Name x p) [] [] pos) (zfY sp dvs E tNil):=by
 intro pins s σ H Q I h;refine wpAny_Call_Name_kw (za7 I hg hm ?_ hdb);exact PySem.W.callWith_K0 I.kIn hk (ziE (us:=[]) F hr hb hd hx I .nil h)
structure Mk(K:PySem.W.Frag)(C f:Addr):Prop where
 makes:makesIn K C=true
 init:PySem.W.findIn K (.ref C) "__init__"=some (some (.ref f))
 fn:isFn K (.ref f)=true
 kp:keepIn K (.ref C)=true
theorem zeO{pins:List (Addr×Obj)}{σ:St}{H:Hp}{s:Shared}{Q:VK}{us:List Value}{vs:List V}(M:Mk X.K C f)(F:FnOk X.prog X.w X.K X.mg X.base CX k f fd ps sp)(hr:Room (k+1) X.A)(hb:Binds X.K fd ps ds)(hd:Vals dvs ds)
  (hx:zcG CX X E) (I:Inv X pins σ H s) (r:Vals vs us)
  (h:∀x dx,H x=none->H dx=none->dx≠x->sp (.ref x::(vs++dvs)) (upd (upd H dx (.own x)) x (.ins C dx [])) (fun v H2=>v=.non/\Q (.ref x) H2) E) :
  wpAny (model X.prog X.w) X.A (call (.ref C) us) (EP X pins σ Q) X.xe s:=by
 have hq:=h (s.heap.objs.size+1) s.heap.objs.size (I.hok.fresh (le_succ _)) (I.hok.fresh (le_refl _)) (ne_of_lt (lt_succ_self _));have I2:=Inv.made (C:=C) I;have r2:Vals (V.ref (s.heap.objs.size+1)::(vs++dvs)) (Value.ref (s.heap.objs.size+1)::(us++ds)):=.cons rfl (r.append hd);have hl:(Value.ref (s.heap.objs.size+1)::us++ds).length=ps.length:=by have e:=r2.length;rw[F.len _ _ _ _ hq]at e;exact e.symm
 refine wpAny_call (ze0 (f:=f) I.kIn M.makes M.init (beq_iff_eq.mp M.fn) (codeAny_mono (F.run _ X.stack _ _ ⟨Value.ref (s.heap.objs.size+1)::us,[]⟩ (Value.ref (s.heap.objs.size+1)::(us++ds)) _ _ E (hr.make C us [])
  (I2.env0.make C us []) (hb _ (Value.ref (s.heap.objs.size+1)::us) I2.kIn hl) r2 hq) fun r s' hq'=>?_))
 cases r with|error e=>exact hx pins σ _ _ e s' I2 hq'| ok fl=>cases fl with| ret u=>obtain⟨v,H',I3,rv,ev,q3⟩:=I2.after hq';subst ev;exact⟨rv,⟨V.ref (s.heap.objs.size+1),H',I3,rfl,q3⟩⟩|next=>exact False.elim hq'|brk=>exact False.elim hq'|cont=>exact False.elim hq'
theorem zjY(M:Mk X.K C f)(F:FnOk X.prog X.w X.K X.mg X.base CX k f fd ps sp)(hr:Room (k+1) X.A)(hg:Gl X x)(hm:X.mg x=some (.ref C))(hb:Binds X.K fd ps ds)(hd:Vals dvs ds)(hx:zcG CX X E)
  (ha:PA X (e::es) t) (hdb:(x==("__debug__":Str))=false:=by decide) (he:starEach (e::es) X.env=(false,eval e X.env)::starEach es X.env:=by rfl) (hpl:(backTo pos (starEach es X.env)).any (·.1)=false:=by rfl) :
  PE X (.Call (.Name x p) (e::es) [] pos) (zjc C sp dvs E t):=by
 intro pins s σ H Q I h;refine wpAny_Call_Name_kw (za7 I hg hm ?_ hdb);refine callWith_K (h₀:=X.base) I.ok.mod.kin M.kp (thn (ha pos pins s σ H _ I h) fun us s1 ⟨vs,H1,I1,r,q⟩=>⟨I1.kIn,?_⟩) he hpl;exact zeO M F hr hb hd hx I1 r q
theorem zhQ(M:Mk X.K C f)(F:FnOk X.prog X.w X.K X.mg X.base CX k f fd ps sp)(hr:Room (k+1) X.A)(hg:Gl X x)(hm:X.mg x=some (.ref C))(hb:Binds X.K fd ps ds)(hd:Vals dvs ds)(hx:zcG CX X E)
  (hdb:(x==("__debug__":Str))=false:=by decide):PE X (.Call (.Name x p) [] [] pos) (zjc C sp dvs E tNil):=by
 intro pins s σ H Q I h;refine wpAny_Call_Name_kw (za7 I hg hm ?_ hdb);exact PySem.W.callWith_K0 I.kIn M.kp (zeO (us:=[]) M F hr hb hd hx I .nil h)
end
section
variable{X:Cx}{CX:CXT}{k:Nat}{f C:Addr}{fd:FuncData}{ps ks:List Str}{sp:Sp}{E:XK}{x m:Str}{p pos apos kpos:Pos}{e o:Expr}{es:List Expr}{kws:List Keyword}{te ta:TE}{t tk:TA}{nm:Option Str}
structure KBinds(K:PySem.W.Frag)(fd:FuncData)(ps ks:List Str)(g:List Value->List Value->List Value)(gV:List V->List V->List V):Prop where
 to:∀(s:Shared)(us ws:List Value),K.In s.heap->(g us ws).length=ps.length->BindsTo s fd ⟨us,ks.zip ws⟩ (ps.zip (g us ws))
 rel:∀{vs:List V}{us:List Value}{zs:List V}{ws:List Value},Vals vs us->Vals zs ws->Vals (gV vs zs) (g us ws)
end
structure FnScope(N P:List Str)(sc:Scope):Prop where
 kind:sc.kind=.function
 co:sc.isCoroutine=false
 gen:sc.isGenerator=false
 nd:N.Nodup
 pre:N.take P.length=P
 par:∀x∈P,sc.names.lookup x=some .local\/sc.names.lookup x=some .cell
 nofree:∀y∈sc.names,y.2≠.free
theorem zd9{kindOf:Str->Option NameKind}{x:Str}:∀{binds:List (Str×Value)}{m:Str->Option Value},(∀v,(x,v)∉binds)->bindL kindOf binds m x=m x
 | [],_,_=>rfl| (n,v)::r,m,h=>by
  unfold bindL;rw[zd9 fun w hw=>h w (mem_cons_of_mem _ hw)];split;have:x≠n:=by rintro rfl;exact h v mem_cons_self
  simp[this];rfl
theorem zeb{kindOf:Str->Option NameKind}{x:Str}:∀{binds:List (Str×Value)}{m:Str->Option Value},(∀v,(x,v)∉binds)->bindC kindOf binds m x=m x
 | [],_,_=>rfl| (n,v)::r,m,h=>by
  unfold bindC;rw[zeb fun w hw=>h w (mem_cons_of_mem _ hw)];split;rfl;have:x≠n:=by rintro rfl;exact h v mem_cons_self
  simp[this]
theorem zea{kindOf:Str->Option NameKind}{x:Str}{v:Value}:∀{P:List Str}{vs:List Value}{i:Nat}{m:Str->Option Value},P.Nodup->P[i]?=some x->vs[i]?=some v->kindOf x=some .local->
  bindL kindOf (P.zip vs) m x=some v
 | [],_,_,_,_,h,_,_=>by simp at h|_::_,[],_,_,_,_,h,_=>by simp at h| p::P,w::vs,0,m,nd,h1,h2,hk=>by simp at h1 h2;subst h1;subst h2;show bindL kindOf ((p,w)::P.zip vs) m p=_;unfold bindL;rw[zd9 fun v hv=>(nodup_cons.mp nd).1 (List.of_mem_zip hv).1,if_pos hk];simp| p::P,w::vs,i+1,m,nd,h1,h2,hk=>by show bindL kindOf ((p,w)::P.zip vs) m x=_;unfold bindL;exact zea (i:=i) (nodup_cons.mp nd).2 (by simpa using h1) (by simpa using h2) hk
theorem zec{kindOf:Str->Option NameKind}{x:Str}{v:Value}:∀{P:List Str}{vs:List Value}{i:Nat}{m:Str->Option Value},P.Nodup->P[i]?=some x->vs[i]?=some v->kindOf x≠some .local->
  bindC kindOf (P.zip vs) m x=some v
 | [],_,_,_,_,h,_,_=>by simp at h|_::_,[],_,_,_,_,h,_=>by simp at h| p::P,w::vs,0,m,nd,h1,h2,hk=>by simp at h1 h2;subst h1;subst h2;show bindC kindOf ((p,w)::P.zip vs) m p=_;unfold bindC;rw[zeb fun v hv=>(nodup_cons.mp nd).1 (List.of_mem_zip hv).1,if_neg hk];simp| p::P,w::vs,i+1,m,nd,h1,h2,hk=>by show bindC kindOf ((p,w)::P.zip vs) m x=_;unfold bindC;exact zec (i:=i) (nodup_cons.mp nd).2 (by simpa using h1) (by simpa using h2) hk
noncomputable def start(N:List Str)(vs:List V):St:=vs.map some++List.replicate (N.length-vs.length) none
noncomputable def cxOf(CX:CXT)(P:Program)(w:World)(K:PySem.W.Frag)(mg:Str->Option Value)(base:Heap)(N:List Str)(qual:Str)(scope:Scope)(f:Addr)(cd:Value)(A:Around)(outer:List Env)(s:Shared)(H:Hp)(E:XK):Cx where
 prog:=P
 w:=w
 K:=K
 mg:=mg
 base:=base
 A:=A.deeper (envOfC qual scope s.heap.objs.size f cd)
 N:=N
 s₀:=s
 H₀:=H
 env:=envOfC qual scope s.heap.objs.size f cd
 outer:=outer
 stack:=envOfC qual scope s.heap.objs.size f cd::outer
 ex:=[]
 calm:=true
 fn:=fun _=>true
 pn:=[]
 xe:=fun e s'=>wpAny (model P w) (A.deeper (envOfC qual scope s.heap.objs.size f cd)) (leaving (envOfC qual scope s.heap.objs.size f cd) e) (fun _ s''=>CX outer H s E e s'') (fun e' s''=>CX outer H s E e' s'') s'
theorem zfo{sc:Scope}{n:Nat}{x:Str}(h:sc.names.lookup x=some .cell):∃c,(cellsFrom n sc.names []).lookup x=some c:=by have q:=PySem.W.cellsFrom_some sc.names n [] (.inl h);exact Option.isSome_iff_exists.mp q
theorem zgN{CX:CXT}{P:Program}{w:World}{K:PySem.W.Frag}{mg:Str->Option Value}{base:Heap}{N ps:List Str}{qual:Str}{scope:Scope}{f:Addr}{cd:Value}{A:Around}{outer:List Env}{s s1:Shared}{H:Hp}{E:XK}{us:List Value}{vs:List V}
  (S:FnScope N ps scope) (hd:A.handled=none) (e0:Env0 P w K mg base A outer s H) (hl:vs.length=ps.length) (r:Vals vs us)
  (x:InCallC s s.heap.objs.size (bindL (envOfC qual scope s.heap.objs.size f cd).kindOf (ps.zip us) fun _=>none) (cellsFrom (s.heap.objs.size+1) scope.names []) (bindC (envOfC qual scope s.heap.objs.size f cd).kindOf (ps.zip us) fun _=>none) s1) :
  Inv (cxOf CX P w K mg base N qual scope f cd A outer s H E) [] (start N vs) H s1:=by
 have hpl:ps.length<=N.length:=by have:=congrArg List.length S.pre;rw[length_take]at this;omega
 obtain⟨h1,tk,rfl,hk⟩:=x.done;have noA:∀b:Addr,b∉(cxOf CX P w K mg base N qual scope f cd A outer s H E).ex:=fun b z=>absurd (show b∈([]:List Addr) from z) (by simp);refine⟨⟨e0.mod,S.kind,rfl,rfl,le_refl _,fun y z c h1 h2=>?_,fun y hy=>?_,fun y c _ h=>?_,fun _=>hd,Around.frames_deeper e0.frames,.inr ⟨rfl,rfl⟩,fun b z=>absurd z (noA b),e0.bs,e0.bsz,fun b _ _=>noA b,fun b z=>absurd z (noA b),e0.funs,e0.frf⟩,
  rfl,e0.bare,Un.kept hk,⟨_,x.toInCall.ns,fun i y v h1 h2 h3=>?_⟩,fun y c h=>⟨_,x.cell y c h⟩,e0.hok.fresh (le_refl _),fun y c h=>?_,fun p hp=>absurd (show p∈([]:List (Addr×Obj)) from hp) (by simp),e0.hok.kept hk,?_⟩
 exact name_of_addr x.apart (PySem.mem_of_lookup h1) (PySem.mem_of_lookup h2);have hy:scope.names.lookup y=some .cell\/scope.names.lookup y=some .free:=hy;rcases hy with hy|hy;exact zfo hy;exact absurd rfl (S.nofree _ (PySem.mem_of_lookup hy));exact le_of_lt (x.above y c (PySem.mem_of_lookup h));have hi:i<vs.length:=by
  unfold start at h2;by_cases hi:i<vs.length;exact hi
  . rw[getElem?_append_right (by simpa using hi)]at h2;rw[List.getElem?_replicate]at h2;split at h2<;>cases h2
 have ha:vs[i]?=some v:=by
  unfold start at h2;rw[getElem?_append_left (by simpa using hi),getElem?_map]at h2;cases e:vs[i]? with
  |none=>rw[e]at h2;cases h2
  |some a=>rw[e]at h2;cases h2;rfl
 obtain⟨u,hu,rv⟩:=r.get ha;have hp:ps[i]?=some y:=by rw[<-S.pre,List.getElem?_take_of_lt (by omega)];exact h1
 have ndP:ps.Nodup:=by rw[<-S.pre];exact S.nd.sublist (List.take_sublist _ _)
 refine⟨u,rv,?_⟩;rcases S.par y (mem_of_getElem? hp) with k|k;exact .inl ⟨k,zea ndP hp hu k⟩;obtain⟨c,e⟩:=zfo (n:=s.heap.objs.size+1) k;refine .inr ⟨.inl k,c,e,?_⟩;have q:=x.cell y c e;rw[zec ndP hp hu (by show scope.names.lookup y≠_;rw[k];decide)]at q;exact q;exact e0.hok.fresh (le_of_lt (x.above y c (PySem.mem_of_lookup h)));unfold start;show _=N.length;rw[length_append,length_map,length_replicate];omega
theorem zmy{CX:CXT}{P:Program}{w:World}{K:PySem.W.Frag}{mg:Str->Option Value}{base:Heap}{k:Nat}{f:Addr}{name qual:Str}{params:Arguments}{body:List Stmt}{scope:Scope}{dV kV doc pm cdv ct oc:Value}{an od:Option Addr}
  {osl:Array (Option Value)} {N ps:List Str} {sp:Sp} (lk:K.lookup f=some ⟨oc,od,.func (fnOf name qual params body scope dV kV doc pm an cdv ct),osl⟩) (hcd:codeIn K cdv qual=true) (S:FnScope N ps scope)
  (len:∀vs H Q E,sp vs H Q E->vs.length=ps.length)
  (hbody:∀(A:Around)(outer:List Env)(s:Shared)(H:Hp)(vs:List V)(Q:VK)(E:XK),Room k (A.deeper (envOfC qual scope s.heap.objs.size f cdv))->sp vs H Q E->
   ∃t,PSs (cxOf CX P w K mg base N qual scope f cdv A outer s H E) body t/\t {nx:=fun _ H'=>Q .non H',rt:=Q} (start N vs) H) :
  FnOk P w K mg base CX (k+1) f (fnOf name qual params body scope dV kV doc pm an cdv ct) ps sp:=by
 refine⟨len,fun A outer s H args us vs Q E hr e0 hb r hsp=>?_⟩;have hl:=len _ _ _ _ hsp;have KX:K.In s.heap:=e0.mod.kin.keeps fun b o e=>(e0.bs b o e).1;have lim:s.heap.NoLimit:=e0.mod.nolimit.keeps fun b o e=>(e0.bs b o e).1;have hkind:∀y∈ps.zip us,scope.names.lookup y.1=some .local\/(scope.names.lookup y.1=some .cell/\((cellsFrom (s.heap.objs.size+1) scope.names []).lookup y.1).isSome=true):=fun⟨n,v⟩ hy=>by rcases S.par n (List.of_mem_zip hy).1 with q|q;exact .inl q;exact .inr ⟨q,PySem.W.cellsFrom_some _ _ _ (.inl q)⟩
 refine codeAny_call_function hr.depth (KX _ _ lk) rfl S.co S.gen rfl (PySem.W.codeRec_of KX hcd) (hb _ _ _ _ ?_);refine wpAny_newFunctionEnv_cells S.kind hkind fun env he s1 x=>?_;subst he;refine⟨lim.keeps x.toInCall.keep,codeAny_func ?_⟩;obtain⟨t,ht,hq⟩:=hbody A outer s H vs Q E (hr.deeper _) hsp;have I:Inv (cxOf CX P w K mg base N qual scope f cdv A outer s H E) [] (start N vs) H s1:=zgN S hr.hd e0 hl r x;refine wpAny_mono (ht [] s1 (start N vs) H _ I hq) (fun fl s' hs=>?_) fun e s' hs=>hs;have fin:∀{σ':St}{H':Hp}{v:V}{u:Value},Inv (cxOf CX P w K mg base N qual scope f cdv A outer s H E) [] σ' H' s'->RelV v u->Q v H'->CE outer P w H s Q u s':=fun {σ' H' v u} J rv q=>⟨v,H',J.os,J.bare,J.base,J.hok,rv,q⟩;cases fl with| ret u=>obtain⟨v,σ',H',J,rv,q⟩:=hs;exact fin J rv q| next=>obtain⟨σ',H',J,q⟩:=hs;exact fin (v:=V.non) (u:=Value.none) J rfl q| brk=>obtain⟨_,_,_,q⟩:=hs;exact False.elim q| cont=>obtain⟨_,_,_,q⟩:=hs;exact False.elim q
section
variable{X:Cx}{x:Str}{p pos:Pos}{e:Expr}{es:List Expr}{t:TA}{id T:String}{r:List V->Hp->VK->Prop}
def tCB(r:List V->Hp->VK->Prop)(t:TA):TE:=fun σ H Q=>t σ H fun vs H1=>r vs H1 Q
theorem zbg(hc:zba X (.builtin id) r)(hg:Gl X x)(hm:X.mg x=none)(hv:bootBuiltins x=some (.builtin id))(ha:PA X (e::es) t)(hn:x≠"__name__":=by decide)(hdb:(x==("__debug__":Str))=false:=by decide)
  (he:starEach (e::es) X.env=(false,eval e X.env)::starEach es X.env:=by rfl) (hpl:(backTo pos (starEach es X.env)).any (·.1)=false:=by rfl):PE X (.Call (.Name x p) (e::es) [] pos) (tCB r t):=by
 intro pins s σ H Q I h;refine wpAny_Call_Name_kw (ze3 I hg hm hv ?_ hn hdb);exact PyProof.Rows.callWith_builtin1 (thn (ha pos pins s σ H _ I h) fun us s1 ⟨vs,H1,I1,r1,q1⟩=>hc pins s1 σ H1 vs us Q I1 r1 q1) he hpl
theorem zaW(hc:zba X (.type T) r)(hg:Gl X x)(hm:X.mg x=none)(hv:bootBuiltins x=some (.type T))(ha:PA X (e::es) t)(hn:x≠"__name__":=by decide)(hdb:(x==("__debug__":Str))=false:=by decide)
  (he:starEach (e::es) X.env=(false,eval e X.env)::starEach es X.env:=by rfl) (hpl:(backTo pos (starEach es X.env)).any (·.1)=false:=by rfl):PE X (.Call (.Name x p) (e::es) [] pos) (tCB r t):=by
 intro pins s σ H Q I h;refine wpAny_Call_Name_kw (ze3 I hg hm hv ?_ hn hdb);exact PyProof.Rows.callWith_type1 (thn (ha pos pins s σ H _ I h) fun us s1 ⟨vs,H1,I1,r1,q1⟩=>hc pins s1 σ H1 vs us Q I1 r1 q1) he hpl
end
section
variable{κ:Type}[DecidableEq κ]
noncomputable def valV(kvs:List (κ×V))(k:κ):Option V:=(kvs.find? fun kv=>decide (kv.1=k)).map (·.2)
noncomputable def putK(kvs:List (κ×V))(k:κ)(v:V):List (κ×V):=if(kvs.any fun kv=>decide (kv.1=k))=true then kvs.map (fun kv=>if kv.1=k then(kv.1,v) else kv) else kvs++[(k,v)]
theorem KV.any{kvs:List (κ×V)}{vs:List (κ×Value)}(r:KV kvs vs)(k:κ):(kvs.any fun kv=>decide (kv.1=k))=vs.any fun kv=>decide (kv.1=k):=by unfold KV at r;induction r with|nil=>rfl|cons h t ih=>rw[List.any_cons,List.any_cons,ih,h.1]
end
def DGet(H:Hp)(a:Addr)(y:V)(r:Option V):Prop:=(∃kvs k,Rd H a (.dK kvs)/\y=kV k/\r=valV kvs k)\/∃kvs k b,Rd H a (.dT kvs)/\y=.ref b/\H b=some (.tup (k.map kV))/\r=valV kvs k
def DPut(H:Hp)(a:Addr)(y v:V)(H':Hp):Prop:=
 (∃kvs k,H a=some (.dK kvs)/\y=kV k/\kvs.length<sizeLine/\H'=upd H a (.dK (putK kvs k v)))\/
 ∃kvs k b,H a=some (.dT kvs)/\y=.ref b/\H b=some (.tup (k.map kV))/\kvs.length<sizeLine/\H'=upd H a (.dT (putK kvs k v))
theorem DGet.k{H:Hp}{a:Addr}{kvs:List (Key×V)}{k:Key}(e:H a=some (.dK kvs)):DGet H a (kV k) (valV kvs k):=.inl ⟨kvs,k,.inl e,rfl,rfl⟩
theorem DPut.k{H:Hp}{a:Addr}{kvs:List (Key×V)}{k:Key}{v:V}(e:H a=some (.dK kvs))(hl:kvs.length<sizeLine):DPut H a (kV k) v (upd H a (.dK (putK kvs k v))):=.inl ⟨kvs,k,e,rfl,hl,rfl⟩
structure M1(X:Cx)(o:Expr)(m:Str)(apos:Pos)(e:Expr)(cpos:Pos):Prop where
 base:attributeBase o m X.env (eval o X.env)=eval o X.env
 few:((backTo cpos (starEach [e] X.env)).all (fun x=>!x.1)&&(backToKw cpos (keywordEach [] X.env)).all (fun x=>x.1.isSome)
  && decide (([e]:List Expr).length+([]:List Keyword).length+(if([]:List Keyword).isEmpty then 0 else 1)<30))=true
 line:(apos.endLine==cpos.line)=true
 trees:backTo cpos (starEach [e] X.env)=[(false,eval e X.env)]
structure M2(X:Cx)(o:Expr)(m:Str)(apos:Pos)(e f:Expr)(cpos:Pos):Prop where
 base:attributeBase o m X.env (eval o X.env)=eval o X.env
 few:((backTo cpos (starEach [e,f] X.env)).all (fun x=>!x.1)&&(backToKw cpos (keywordEach [] X.env)).all (fun x=>x.1.isSome)
  && decide (([e,f]:List Expr).length+([]:List Keyword).length+(if([]:List Keyword).isEmpty then 0 else 1)<30))=true
 line:(apos.endLine==cpos.line)=true
 trees:backTo cpos (starEach [e,f] X.env)=[(false,eval e X.env),(false,eval f X.env)]
end L2
namespace HT
open PySem PyProof.Rows
section
variable{prog:Program}{w:World}{A:Around}{E:Value->Shared->Prop}{s:Shared}
theorem cat_tup{t b:Addr}{vs ws:List Value}{Q:Value->Shared->Prop}(ht:IsTup s.heap t vs.toArray)(hb:IsTup s.heap b ws.toArray)(hv:vs≠[])
  (h1:ws=[]->Q (.ref t) s) (h2:ws≠[]->Q (.ref s.heap.objs.size) {s with heap:=s.heap.push {cls:=.type "tuple",data:=.seq (vs++ws).toArray}})
  (hsz:vs.length+ws.length<=sizeLine):wpAny (model prog w) A (binaryOp .Add (.ref t) (.ref b)) Q E s:=by
 obtain⟨⟨cls,dd,data,sl⟩,ho,hc,n,hd⟩:=id ht;obtain⟨⟨cls2,dd2,data2,sl2⟩,ho2,hc2,n2,hd2⟩:=id hb;simp only at hc hd hc2 hd2;subst hc hd hc2 hd2;have e:vs.toArray++ws.toArray=(vs++ws).toArray:=by simp
 by_cases hw:ws=[]
 exact concat_meets ⟨_,ho,rfl⟩ ⟨_,ho2,rfl⟩ noFill_tuple_add seq_tuple_add PySem.F.slot_tuple_add PySem.F.entry_tuple_add (PySem.F.args_tuple_add_2 _ _)
  (tuple_addW1 t b vs.toArray ws.toArray n n2 dd dd2 sl sl2 (by simpa using hv) (by simp[hw])) ⟨ho,ho2,h1 hw⟩
 refine concat_meets ⟨_,ho,rfl⟩ ⟨_,ho2,rfl⟩ noFill_tuple_add seq_tuple_add PySem.F.slot_tuple_add PySem.F.entry_tuple_add (PySem.F.args_tuple_add_2 _ _)
  (tuple_addW2 t b vs.toArray ws.toArray n n2 dd dd2 sl sl2 (by simpa using hv) (by simpa using hw) (by rw[size_toArray,size_toArray];exact hsz)) ⟨ho,ho2,?_⟩
 rw[e];exact h2 hw
noncomputable def sIx(n d:Nat):Option Int->Nat
 |none=>d|some v=>if v<0 then(v+(n:Int)).toNat else min v.toNat n
theorem zlN(n d:Nat)(hd:d<=n)(o:Option Int):sIx n d o<=n:=by cases o with|none=>exact hd| some v=>show(if v<0 then(v+(n:Int)).toNat else min v.toNat n)<=n;by_cases hv:v<0;rw[if_pos hv];omega;rw[if_neg hv];exact Nat.min_le_right _ _
theorem zg8(v:Int)(n d:Nat):(if v<0 then max (v+(n:Int)) 0 else min v (n:Int))=((sIx n d (some v):Nat):Int):=by show(if v<0 then max (v+(n:Int)) 0 else min v (n:Int))=(((if v<0 then(v+(n:Int)).toNat else min v.toNat n):Nat):Int);by_cases hv:v<0;simp only[if_pos hv];omega;simp only[if_neg hv];omega
theorem zfM(lo hi:Option Int)(n:Nat):Builtin.Slice.sliceAdjust lo hi 1 (n:Int)=(((sIx n 0 lo:Nat):Int),((sIx n n hi:Nat):Int)):=by
 have h1:¬((1:Int)<0):=by omega
 unfold Builtin.Slice.sliceAdjust;simp only[h1,if_false];refine Prod.ext ?_ ?_;cases lo with|none=>rfl|some v=>exact zg8 v n 0
 cases hi with|none=>rfl|some v=>exact zg8 v n n
theorem zfz(i j:Nat):Builtin.Slice.slicePlaces (i:Int) (j:Int) 1=j-i:=by
 unfold Builtin.Slice.slicePlaces;have h1:(1:Int)>0:=by omega
 simp only[h1,if_true,Int.ediv_one];split<;>omega
theorem zcN{v:Value}{o:Option Int}{Q:Option Int->Shared->Prop}(p:IsPart v o)(h:Q o s):wpAny (model prog w) A (Builtin.Slice.slicePartIndex v) Q E s:=by cases p with|none=>exact slicePart_none h|int i t=>exact slicePart_int h
theorem sliceApplied_gen{sl:Addr}{vl vu:Value}{lo hi:Option Int}{n:Nat}{Q:Int×Int×Nat->Shared->Prop}(hs:s.heap.IsSliceOf sl vl vu .none)(pl:IsPart vl lo)(pu:IsPart vu hi)
  (h:Q (((sIx n 0 lo:Nat):Int),1,sIx n n hi-sIx n 0 lo) s):wpAny (model prog w) A (Builtin.Slice.sliceApplied (.ref sl) (pure (n:Int))) Q E s:=by
 obtain⟨os,hos,hcs,hds⟩:=id hs;unfold Builtin.Slice.sliceApplied Builtin.Slice.sliceFields;refine wpAny_bind (wpAny_bind (wpAny_field hos hds (x:=vl) rfl (wpAny_bind (wpAny_field hos hds (x:=vu) rfl (wpAny_bind (wpAny_field hos hds (x:=.none) rfl (wpAny_pure ?_)))))));refine wpAny_bind (slicePart_none ?_);show wpAny _ _ (if((1:Int)==0)=true then _ else _) _ _ s;rw[if_neg (by decide)];refine wpAny_bind (zcN pl (wpAny_bind (zcN pu (wpAny_bind (wpAny_pure ?_)))));show wpAny _ _ (match Builtin.Slice.sliceAdjust lo hi 1 (n:Int) with|(lo,hi)=>pure (lo,(1:Int),Builtin.Slice.slicePlaces lo hi 1)) _ _ s;rw[zfM lo hi n];show wpAny _ _ (pure (((sIx n 0 lo:Nat):Int),(1:Int),Builtin.Slice.slicePlaces ((sIx n 0 lo:Nat):Int) ((sIx n n hi:Nat):Int) 1)) _ _ s;rw[zfz];exact wpAny_pure h
theorem zhM(xs:Array Value)(i k:Nat):((List.range k).filterMap fun(m:Nat)=>xs[((i:Int)+(m:Int)*1).toNat]?).toArray=((xs.toList.drop i).take k).toArray:=by
 have e:(fun(m:Nat)=>xs[((i:Int)+(m:Int)*1).toNat]?)=fun m=>xs[i+m]?:=by
  funext m;have:((i:Int)+(m:Int)*1).toNat=i+m:=by omega
  rw[this]
 rw[e];have:=pick_run xs i k;rw[List.filterMap_map]at this;have e2:((fun x=>xs[x]?)∘fun x=>i+x)=fun m=>xs[i+m]?:=rfl;rw[e2]at this;rw[this]
theorem getItem_tuple_cut{t sl:Addr}{items:Array Value}{vl vu:Value}{lo hi:Option Int}{Q:Value->Shared->Prop}(ht:IsTup s.heap t items)(hs:s.heap.IsSliceOf sl vl vu .none)(pl:IsPart vl lo)(pu:IsPart vu hi)
  (hw:¬(sIx items.size 0 lo=0/\sIx items.size items.size hi=items.size))
  (h:Q (.ref s.heap.objs.size) {s with heap:=s.heap.push {cls:=.type "tuple",data:=.seq ((items.toList.drop (sIx items.size 0 lo)).take (sIx items.size items.size hi-sIx items.size 0 lo)).toArray}})
  (hsz:items.size<=sizeLine):wpAny (model prog w) A (getItem (.ref t) (.ref sl)) Q E s:=by
 have htake:sizeOk (.seq ((items.toList.drop (sIx items.size 0 lo)).take (sIx items.size items.size hi-sIx items.size 0 lo)).toArray):=by show((items.toList.drop (sIx items.size 0 lo)).take (sIx items.size items.size hi-sIx items.size 0 lo)).toArray.size<=sizeLine;rw[size_toArray,length_take,List.length_drop,Array.length_toList];omega
 have hj:sIx items.size items.size hi<=items.size:=zlN _ _ (le_refl _) hi;obtain⟨os,hos,hcs,hds⟩:=id hs;have hTs:s.TypeIs (.ref sl) "slice":=⟨os,hos,hcs⟩;unfold getItem
 try with_reducible refine wpAny_holding ?_
 first|refine wpAny_bind (wpAny_pure ?_)|skip
 refine wpAny_bind (wpAny_sequenceKey ht.typeIs (by decide) ?_);refine wpAny_bind (wpAny_callSpecial?_slot (name:=Str.ofString "__getitem__") ht.typeIs PyProof.Rows.slot_tuple_getitem
  (wpAny_call_entry PyProof.Rows.slot_tuple_getitem ht.typeIs entry_tuple_getitem ?_ (args_tuple_getitem _ _)))
 show wpAny _ _ (Builtin.Tuple.tupleItemsOf (.ref t)>>=_) _ _ s;refine wpAny_bind (tupleItemsOf_ ht ?_);refine wpAny_bind (wpAny_typeOf hTs ?_);rw[if_pos (by decide)];refine wpAny_bind (sliceApplied_gen hs pl pu ?_);have hno:¬((((sIx items.size 0 lo:Nat):Int)==0&&(1:Int)==1&&(sIx items.size items.size hi-sIx items.size 0 lo)==items.size)=true):=by intro q;rw[and_eq_true,and_eq_true]at q;have q1:((sIx items.size 0 lo:Nat):Int)=0:=eq_of_beq q.1.1;have q2:sIx items.size items.size hi-sIx items.size 0 lo=items.size:=eq_of_beq q.2;exact hw ⟨by omega,by omega⟩
 show wpAny _ _ (if(((sIx items.size 0 lo:Nat):Int)==0&&(1:Int)==1&&(sIx items.size items.size hi-sIx items.size 0 lo)==items.size)=true then _ else _) _ _ s;rw[if_neg hno,zhM]
 first
  |exact wpAny_bind (m:=Builtin.Tuple.tupleExact _) (wpAny_newObj_type (wpAny_pure ⟨_,rfl,wpAny_pure h⟩) htake)
  |exact wpAny_bind (m:=Builtin.Tuple.tupleExact _) (wpAny_newObj_type (wpAny_bind (wpAny_pure (wpAny_pure ⟨_,rfl,wpAny_pure h⟩))) htake)
  |exact wpAny_bind (wpAny_bind (m:=Builtin.Tuple.tupleExact _) (wpAny_newObj_type (wpAny_pure (wpAny_pure ⟨_,rfl,wpAny_pure h⟩)) htake))
  |exact wpAny_bind (wpAny_bind (m:=Builtin.Tuple.tupleExact _) (wpAny_newObj_type (wpAny_pure ⟨_,rfl,wpAny_pure h⟩) htake))
end
end HT
namespace L2
open PySem PySem.Spec PyProof.Rows
abbrev TO:=St->Hp->(Option Int->Hp->Prop)->Prop
def PO(X:Cx)(e:Option Expr)(t:TO):Prop:=
 ∀(pins:List (Addr×Obj))(s:Shared)(σ:St)(H:Hp)(Q:Option Int->Hp->Prop),Inv X pins σ H s->t σ H Q->
  wpAny (model X.prog X.w) X.A (evalPart e X.env) (fun u s'=>∃o H',Inv X pins σ H' s'/\IsPart u o/\Q o H') X.xe s
def zjb:TO:=fun _ H Q=>Q none H
def zno(t:TE):TO:=fun σ H Q=>t σ H fun x H1=>∃i,x=.int i/\Q (some i) H1
theorem zcS{ns:List Int}:∀{us:List Value},Vals (ns.map V.int) us->IntsAre us ns:=by induction ns with|nil=>intro us r;rw[List.map_nil]at r;cases r;exact .nil| cons n ns ih=>intro us r;rw[map_cons]at r;cases r with| cons r1 r2=>obtain⟨t,e⟩:=r1;subst e;exact .cons n t (ih r2)
section
variable{X:Cx}{e:Expr}{te:TE}{lo hi:Option Expr}{tl th:TO}{pos p2:Pos}
theorem zgi:PO X none zjb:=by intro pins s σ H Q I h;rw[evalPart_none];exact wpAny_pure ⟨none,H,I,.none,h⟩
theorem zgh(h:PE X e te):PO X (some e) (zno te):=by intro pins s σ H Q I hw;rw[evalPart_some];refine thn (h pins s σ H _ I hw) fun u s1 ⟨x,H1,I1,r1,q1⟩=>?_;obtain⟨i,rfl,q⟩:=q1;obtain⟨t,rfl⟩:=r1;exact⟨some i,H1,I1,.int i t,q⟩
def SlR(X:Cx)(r:V->Option Int->Option Int->Hp->VK->Prop):Prop:=
 ∀(pins:List (Addr×Obj))(s:Shared)(σ:St)(H:Hp)(x:V)(v vl vu:Value)(lo hi:Option Int)(sl:Addr)(Q:VK),Inv X pins σ H s->RelV x v->s.heap.IsSliceOf sl vl vu .none->IsPart vl lo->IsPart vu hi->r x lo hi H Q->
  ∃T id,typeLookup (.type T) "__getitem__"=pure (some (.builtin id))/\s.TypeIs v T/\wpAny (model X.prog X.w) X.A (getItem v (.ref sl)) (EP X pins σ Q) X.xe s
theorem SlR.or{r r':V->Option Int->Option Int->Hp->VK->Prop}(h:SlR X r)(h':SlR X r'):SlR X (fun x lo hi H Q=>r x lo hi H Q\/r' x lo hi H Q):=by intro pins s σ H x v vl vu lo hi sl Q I rx hs pl pu q;rcases q with q|q;exact h pins s σ H x v vl vu lo hi sl Q I rx hs pl pu q;exact h' pins s σ H x v vl vu lo hi sl Q I rx hs pl pu q
def tSl(r:V->Option Int->Option Int->Hp->VK->Prop)(te:TE)(tl th:TO):TE:=fun σ H Q=>te σ H fun x H1=>tl σ H1 fun l H2=>th σ H2 fun u H3=>r x l u H3 Q
theorem zeU{r:V->Option Int->Option Int->Hp->VK->Prop}(hr:SlR X r)(he:PE X e te)(hl:PO X lo tl)(hu:PO X hi th):PE X (.Subscript e (.Slice lo hi none p2) pos) (tSl r te tl th):=by intro pins s σ H Q I h;refine Subscript_ (thn (he pins s σ H _ I h) fun v s1 ⟨x,H1,I1,r1,q1⟩=>?_);refine wpAny_Slice (thn (hl pins s1 σ H1 _ I1 q1) fun vl s2 ⟨l,H2,I2,pl,q2⟩=>thn (hu pins s2 σ H2 _ I2 q2) fun vu s3 ⟨u,H3,I3,pu,q3⟩=>?_);rw[evalPart_none];refine wpAny_pure ?_;have I4:Inv X pins σ H3 {s3 with heap:=s3.heap.push {cls:=.type "slice",data:=.fields #[vl,vu,.none]}}:=I3.kept (t':=s3.toks) fun b ob q=>Heap.get?_push_of_some _ q;obtain⟨T,id,hT,ht,hg⟩:=hr pins {s3 with heap:=s3.heap.push {cls:=.type "slice",data:=.fields #[vl,vu,.none]}} σ H3 x v vl vu l u s3.heap.objs.size Q I4 r1 (Heap.IsSliceOf.new ..) pl pu q3;show wpAny (model X.prog X.w) X.A (subscriptTail e (.Slice lo hi none p2) v (.ref s3.heap.objs.size)) (EP X pins σ Q) X.xe {s3 with heap:=s3.heap.push {cls:=.type "slice",data:=.fields #[vl,vu,.none]}};exact tail_any (ops:=[.ref s3.heap.objs.size,v]) ht hT hg (by with_unfolding_all rfl)
noncomputable def cutV(xs:List V)(lo hi:Option Int):List V:=(xs.drop (HT.sIx xs.length 0 lo)).take (HT.sIx xs.length xs.length hi-HT.sIx xs.length 0 lo)
theorem zcz(xs:List V)(lo hi:Option Int):(cutV xs lo hi).length<=xs.length:=by unfold cutV;rw[length_take,List.length_drop];omega
def rSlT(K:PySem.W.Frag):V->Option Int->Option Int->Hp->VK->Prop:=fun x lo hi H Q=>∃a xs,x=.ref a/\SqT K H a xs/\
 ¬(HT.sIx xs.length 0 lo=0/\HT.sIx xs.length xs.length hi=xs.length)/\∀p,H p=none->Q (.ref p) (upd H p (.tup (cutV xs lo hi)))
theorem zlk:SlR X (rSlT X.K):=by
 intro pins s σ H x v vl vu lo hi sl Q I rx hs pl pu h;obtain⟨a,xs,rfl,hx,hw,q⟩:=h;cases rx;obtain⟨its,r,ht,hz⟩:=I.tuple hx;have hlen:its.toArray.size=xs.length:=by rw[size_toArray];exact r.length.symm
 refine⟨"tuple",_,PyProof.Rows.slot_tuple_getitem.lookup,ht.typeIs,?_⟩;refine HT.getItem_tuple_cut ht hs pl pu (by rw[hlen];exact hw) ?_ (by rw[hlen];exact hz);rw[hlen];refine⟨.ref s.heap.objs.size,_,I.laid (t':=s.toks) (o:=.tup (cutV xs lo hi)) (fun b ob q=>Heap.get?_push_of_some _ q) (le_refl _) ?_,rfl,q _ (I.hok.fresh (le_refl _))⟩;exact⟨le_trans (zcz xs lo hi) hz,_,(r.drop (HT.sIx xs.length 0 lo)).take (HT.sIx xs.length xs.length hi-HT.sIx xs.length 0 lo),IsTup.new _ _⟩
def znG(K:PySem.W.Frag):R2:=fun x y H Q=>∃a b xs ys,x=.ref a/\y=.ref b/\SqT K H a xs/\SqT K H b ys/\xs≠[]/\xs.length+ys.length<=sizeLine/\
 (ys=[]->Q (.ref a) H)/\(ys≠[]->∀p,H p=none->Q (.ref p) (upd H p (.tup (xs++ys))))
theorem Vals.nil_iff{xs:List V}{us:List Value}(r:Vals xs us):us=[]↔xs=[]:=by cases r with|nil=>simp|cons _ _=>simp
theorem zj4:OpR X (binaryOp .Add) (znG X.K):=by intro pins s σ H x y v u Q I rx ry h;obtain⟨a,b,xs,ys,rfl,rfl,ha,hb,hx,hz,q1,q2⟩:=h;cases rx;cases ry;obtain⟨its,r1,p1,_⟩:=I.tuple ha;obtain⟨its2,r2,p2,_⟩:=I.tuple hb;refine HT.cat_tup p1 p2 (fun z=>hx (r1.nil_iff.mp z)) (fun z=>⟨.ref a,H,I,rfl,q1 (r2.nil_iff.mp z)⟩) (fun z=>?_) (by rw[<-r1.length,<-r2.length];exact hz);refine⟨.ref s.heap.objs.size,_,I.laid (t':=s.toks) (o:=.tup (xs++ys)) (fun b ob q=>Heap.get?_push_of_some _ q) (le_refl _) ?_,rfl,q2 (fun w=>z (r2.nil_iff.mpr w)) _ (I.hok.fresh (le_refl _))⟩;exact⟨by rw[length_append];exact hz,_,r1.append r2,IsTup.new _ _⟩
end
noncomputable def ixN(n:Nat)(i:Int):Option Nat:=if 0<=i then(if i<n then some i.toNat else none) else if -(n:Int)<=i then some (i+n).toNat else none
noncomputable def atI{α:Type}(xs:List α)(i:Int):Option α:=(ixN xs.length i).bind fun j=>xs[j]?
theorem zgH{n:Nat}{i:Int}{j:Nat}(h:ixN n i=some j):seqIndex? i n=some j/\j<n/\-(n:Int)<=i/\i<n:=by unfold ixN at h;by_cases h0:0<=i;rw[if_pos h0]at h;by_cases h1:i<n;rw[if_pos h1]at h;have e:i.toNat=j:=Option.some.inj h;exact⟨by rw[seqIndex_of h0 h1,e],by omega,by omega,h1⟩;rw[if_neg h1]at h;cases h;rw[if_neg h0]at h;by_cases h1:-(n:Int)<=i;rw[if_pos h1]at h;have e:(i+n).toNat=j:=Option.some.inj h;exact⟨by rw[seqIndex_neg (by omega) h1,e],by omega,h1,by omega⟩;rw[if_neg h1]at h;cases h
theorem zeE{α:Type}{xs:List α}{i:Int}{v:α}(h:atI xs i=some v):∃j,seqIndex? i xs.length=some j/\xs[j]?=some v/\j<xs.length/\-(xs.length:Int)<=i/\i<xs.length:=by
 unfold atI at h;cases e:ixN xs.length i with
 |none=>rw[e]at h;cases h
 |some j=>rw[e]at h;obtain⟨h1,h2,h3,h4⟩:=zgH e;exact⟨j,h1,h,h2,h3,h4⟩
def zhj(b:Expr):Prop:=∀o i,subscripted b false o i=operate [o,i] (getItem o i)
def IxR(X:Cx)(r:R2):Prop:=
 ∀(value slice:Expr)(pins:List (Addr×Obj))(s:Shared)(σ:St)(H:Hp)(x y:V)(v u:Value)(Q:VK),Inv X pins σ H s->RelV x v->RelV y u->r x y H Q->
  subscripted slice false v u=operate [v,u] (getItem v u)->wpAny (model X.prog X.w) X.A (subscriptTail value slice v u) (EP X pins σ Q) X.xe s
def MtR(X:Cx)(id:String)(r:V->List V->Hp->VK->Prop):Prop:=
 ∀(pins:List (Addr×Obj))(s:Shared)(σ:St)(H:Hp)(x:V)(xs:List V)(v:Value)(us:List Value)(Q:VK),Inv X pins σ H s->RelV x v->Vals xs us->r x xs H Q->
  wpAny (model X.prog X.w) X.A (call (.builtin id) (v::us)) (EP X pins σ Q) X.xe s
section
variable{X:Cx}{a b:Expr}{ta tb:TE}{pos:Pos}
theorem IxR.or{r r':R2}(h:IxR X r)(h':IxR X r'):IxR X (fun x y H Q=>r x y H Q\/r' x y H Q):=by intro value slice pins s σ H x y v u Q I rx ry q hs;rcases q with q|q;exact h value slice pins s σ H x y v u Q I rx ry q hs;exact h' value slice pins s σ H x y v u Q I rx ry q hs
theorem zl5{r:R2}(hr:IxR X r)(ha:PE X a ta)(hb:PE X b tb)(hs:zhj b):PE X (.Subscript a b pos) (tOp r ta tb):=by intro pins s σ H Q I h;exact Subscript_ (binT ha hb I h fun v u s2 x y H2 I2 rx ry q=>hr a b pins s2 σ H2 x y v u Q I2 rx ry q (hs _ _))
def rIxL(K:PySem.W.Frag):R2:=fun x y H Q=>∃p xs i v,x=.ref p/\y=.int i/\SqL K H p xs/\atI xs i=some v/\Q v H
def rIxT(K:PySem.W.Frag):R2:=fun x y H Q=>∃p xs i v,x=.ref p/\y=.int i/\SqT K H p xs/\atI xs i=some v/\Q v H
def rIxS:R2:=fun x y H Q=>∃z i c,x=.str z/\y=.int i/\z.length<=sizeLine/\atI z.cps.toList i=some c/\Q (.str ⟨#[c]⟩) H
theorem ix_list:IxR X (rIxL X.K):=by
 intro value slice pins s σ H x y v u Q I rx ry h hs;obtain⟨p,xs,i,z,rfl,rfl,hq,he,q⟩:=h;cases rx;obtain⟨t,rfl⟩:=ry;obtain⟨its,r,pl,hz⟩:=I.list hq;obtain⟨j,h1,h2,h3,h4,h5⟩:=zeE he;obtain⟨w,ew,rw'⟩:=r.get h2;have hl:=r.length;have hn:=zco;have fin:EP X pins σ Q w s:=⟨z,H,I,rw',q⟩;by_cases h0:0<=i;have hj:i.toNat=j:=by rw[seqIndex_of h0 h5]at h1;exact Option.some.inj h1
 exact item_listR pl.isList h0 (by omega) (by rw[hj];simpa using ew) fin hs;have hj:(i+(its.toArray.size:Int)).toNat=j:=by rw[seqIndex_neg (by omega) h4]at h1;rw[size_toArray,<-hl];exact Option.some.inj h1
 exact subscriptTail_builtinR (x:=w) pl.isList.typeIs slot_list_getitem.lookup
  (wpAny_getItem_list_neg (Q:=fun r s'=>r=w/\EP X pins σ Q r s') pl.isList (by omega) (by rw[size_toArray]<;>omega) (by omega) (by rw[hj];simpa using ew) ⟨rfl,fin⟩) hs
theorem ix_tup:IxR X (rIxT X.K):=by
 intro value slice pins s σ H x y v u Q I rx ry h hs;obtain⟨p,xs,i,z,rfl,rfl,hq,he,q⟩:=h;cases rx;obtain⟨t,rfl⟩:=ry;obtain⟨its,r,pl,hz⟩:=I.tuple hq;obtain⟨j,h1,h2,h3,h4,h5⟩:=zeE he;obtain⟨w,ew,rw'⟩:=r.get h2;have hl:=r.length;have hn:=zco;have fin:EP X pins σ Q w s:=⟨z,H,I,rw',q⟩;exact subscriptTail_builtinR (x:=w) pl.typeIs slot_tuple_getitem.lookup
  (getItem_tuple (j:=j) (Q:=fun r s'=>r=w/\EP X pins σ Q r s') pl (by omega) (by omega) (by rw[size_toArray,<-hl];exact h1) (by simpa using ew) ⟨rfl,fin⟩) hs
theorem zmt:IxR X rIxS:=by
 intro value slice pins s σ H x y v u Q I rx ry h hs;obtain⟨z,i,c,rfl,rfl,hz,he,q⟩:=h;obtain⟨t,rfl⟩:=rx;obtain⟨t',rfl⟩:=ry;obtain⟨j,h1,h2,h3,h4,h5⟩:=zeE he;have hl:z.cps.toList.length=z.length:=by simp[Str.length]
 rw[hl]at h1 h4 h5;have hn:=zco;exact tail_any (typeIs_str s z t) slot_str_getitem.lookup (getItem_str (c:=c) (by
  have e1:decide (i < -(2^63:Int))=false:=decide_eq_false (by omega);have e2:decide (i≥2^63)=false:=decide_eq_false (by omega);rw[e1,e2,Bool.or_false]) (by rw[h1];simpa using h2) ⟨.str ⟨#[c]⟩,H,I.tok _,⟨_,rfl⟩,q⟩) hs
def rIx(K:PySem.W.Frag):R2:=fun x y H Q=>rIxL K x y H Q\/rIxT K x y H Q\/rIxS x y H Q
theorem ziK:IxR X (rIx X.K):=ix_list.or (ix_tup.or zmt)
theorem zfD(its:List Value)(n j:Nat)(u:Value):Obj.mapSeq (·.setIfInBounds j u) {cls:=.type "list",data:=.seq its.toArray n}={cls:=.type "list",data:=.seq (its.set j u).toArray n}:=by simp[Obj.mapSeq]
theorem Inv.lst{pins:List (Addr×Obj)}{σ:St}{H:Hp}{s:Shared}{p:Addr}{xs:List V}(I:Inv X pins σ H s)(h:H p=some (.lst xs)) :
  ∃(its:List Value) (n:Nat),Vals xs its/\s.heap.get? p=some {cls:=.type "list",data:=.seq its.toArray n}/\xs.length<=sizeLine:=by
 obtain⟨z,its,n,r,e⟩:=I.hok p _ h;exact⟨its,n,r,e,z⟩
theorem Inv.lstUpd{pins:List (Addr×Obj)}{σ:St}{H:Hp}{s:Shared}{p:Addr}{xs ys:List V}{its its':List Value}{n n':Nat}{f:Obj->Obj}(I:Inv X pins σ H s)(h:H p=some (.lst xs))
  (ho:s.heap.get? p=some {cls:=.type "list",data:=.seq its.toArray n}) (hf:f {cls:=.type "list",data:=.seq its.toArray n}={cls:=.type "list",data:=.seq its'.toArray n'}) (r:Vals ys its') (hz:ys.length<=sizeLine) (t:Nat) :
  Inv X pins σ (upd H p (.lst ys)) {s with heap:=s.heap.update p f,toks:=t}:=by
 have e:(s.heap.update p f).get? p=some {cls:=.type "list",data:=.seq its'.toArray n'}:=by rw[Heap.get?_update_self f ho (by rw[hf]<;>rfl),hf]
 refine I.write (x:=p) (e:=p) (by rw[h];trivial) (.inl rfl) (fun b u hb q=>(Heap.get?_update_other _ _ (Ne.symm hb)).trans q) ⟨_,e⟩ ?_;exact⟨hz,its',n',r,e⟩
def znF:V->V->V->Hp->(Hp->Prop)->Prop:=fun o i v H Q=>∃p xs k j,o=.ref p/\i=.int k/\H p=some (.lst xs)/\ixN xs.length k=some j/\Q (upd H p (.lst (xs.set j v)))
theorem zhy:PSet X znF:=by
 intro pins s σ H o i v ov iv u Q I ro ri rv h;obtain⟨p,xs,k,j,rfl,rfl,hp,hj,q⟩:=h;cases ro;obtain⟨t,rfl⟩:=ri;obtain⟨its,n,r,ho,hz⟩:=I.lst hp;obtain⟨h1,h2,h3,h4⟩:=zgH hj;have hl:=r.length;have hn:=zco;have I':Inv X pins σ (upd H p (.lst (xs.set j v))) {s with heap:=s.heap.update p (Obj.mapSeq (·.setIfInBounds j u))}:=I.lstUpd hp ho (zfD its n j u) (r.set rv j) (by rw[List.length_set];exact hz) s.toks;by_cases h0:0<=k;have hk:k.toNat=j:=by rw[seqIndex_of h0 h4]at h1;exact Option.some.inj h1
 exact PySem.W.ki_setAt ho h0 (by omega) (by rw[size_toArray,<-hl];exact h4) (by rw[hk];exact⟨_,I',q⟩);have hk:(k+(its.toArray.size:Int)).toNat=j:=by rw[seqIndex_neg (by omega) h3]at h1;rw[size_toArray,<-hl];exact Option.some.inj h1
 exact PySem.W.ki_setBack ho (by omega) (by rw[size_toArray,<-hl];exact h3) (by omega) (by rw[hk];exact⟨_,I',q⟩)
theorem zdz(lo hi:Option Int)(n:Nat):(sliceBounds lo hi none n).1=((HT.sIx n 0 lo:Nat):Int)/\(sliceBounds lo hi none n).2.1=((HT.sIx n n hi:Nat):Int)/\(sliceBounds lo hi none n).2.2=1:=by
 refine⟨?_,?_,rfl⟩;cases lo with
 |none=>simp[sliceBounds,HT.sIx]| some i=>
  simp only[sliceBounds,HT.sIx,Option.getD_none,show(1:Int)>0 by decide,if_true];by_cases h:i<0
  . simp only[h,if_true]<;>omega
  . simp only[h,if_false]<;>omega
 cases hi with
 |none=>simp[sliceBounds,HT.sIx]| some i=>
  simp only[sliceBounds,HT.sIx,Option.getD_none,show(1:Int)>0 by decide,if_true];by_cases h:i<0
  . simp only[h,if_true]<;>omega
  . simp only[h,if_false]<;>omega
theorem zc2(its:List Value)(lo hi:Option Int):slicePick its.toArray lo hi none=((its.drop (HT.sIx its.length 0 lo)).take (HT.sIx its.length its.length hi-HT.sIx its.length 0 lo)).toArray:=by obtain⟨h1,h2,h3⟩:=zdz lo hi its.toArray.size;unfold slicePick;rw[h1,h2,h3];simp only[sliceRange_one,pick_run,size_toArray]<;>rfl
def rSlL(K:PySem.W.Frag):V->Option Int->Option Int->Hp->VK->Prop:=fun x lo hi H Q=>∃a xs,x=.ref a/\SqL K H a xs/\∀p,H p=none->Q (.ref p) (upd H p (.lst (cutV xs lo hi)))
theorem zjj:SlR X (rSlL X.K):=by intro pins s σ H x v vl vu lo hi sl Q I rx hs pl pu h;obtain⟨a,xs,rfl,hx,q⟩:=h;cases rx;obtain⟨its,r,ht,hz⟩:=I.list hx;have hlen:=r.length;refine⟨"list",_,slot_list_getitem.lookup,ht.isList.typeIs,?_⟩;refine wpAny_getItem_list_slice ht.isList hs pl pu .none (by simp) ?_ (by rw[size_toArray]<;>omega);rw[zc2,<-hlen];refine⟨.ref s.heap.objs.size,_,I.laid (t':=s.toks) (o:=.lst (cutV xs lo hi)) (fun b ob q=>Heap.get?_push_of_some _ q) (le_refl _) ?_,rfl,q _ (I.hok.fresh (le_refl _))⟩;exact⟨le_trans (zcz xs lo hi) hz,_,0,(r.drop (HT.sIx xs.length 0 lo)).take (HT.sIx xs.length xs.length hi-HT.sIx xs.length 0 lo),Heap.get?_push_size _ rfl⟩
theorem zbv:zba X (.builtin "len") (fun xs H Q=>∃p ys,xs=[.ref p]/\(SqL X.K H p ys\/SqT X.K H p ys)/\Q (.int ys.length) H):=by intro pins s σ H xs us Q I r h;obtain⟨p,ys,rfl,hq,q⟩:=h;obtain⟨u,rfl,rx⟩:=zcH r;cases rx;have hn:=zco;rcases hq with hq|hq;obtain⟨its,r',pl,hz⟩:=I.list hq;have hlen:=r'.length;exact Calls.call_len_list pl.isList (by simp only[size_toArray]<;>omega) ⟨.int ys.length,H,I.tok _,⟨s.toks+1,by rw[size_toArray,hlen]⟩,q⟩;obtain⟨its,r',pl,hz⟩:=I.tuple hq;have hlen:=r'.length;exact len_tuple pl (by simp only[size_toArray]<;>omega) ⟨.int ys.length,H,I.tok _,⟨s.toks+1,by rw[size_toArray,hlen]⟩,q⟩
theorem zd6:zba X (.builtin "len") (fun xs H Q=>∃z,xs=[.str z]/\z.length<=sizeLine/\Q (.int z.length) H):=by intro pins s σ H xs us Q I r h;obtain⟨z,rfl,hz,q⟩:=h;obtain⟨u,rfl,t,rfl⟩:=zcH r;have hn:=zco;exact len_str (by omega) ⟨.int z.length,H,I.tok _,⟨_,rfl⟩,q⟩
theorem zd5:zba X (.type "list") (fun xs H Q=>∃p ys,xs=[.ref p]/\(SqL X.K H p ys\/SqT X.K H p ys)/\∀l,H l=none->Q (.ref l) (upd H l (.lst ys))):=by
 intro pins s σ H xs us Q I r h;obtain⟨p,ys,rfl,hq,q⟩:=h;obtain⟨u,rfl,rx⟩:=zcH r;cases rx;have fin:∀(its:List Value),Vals ys its->ys.length<=sizeLine->∀(h':Heap)(c':Nat),(∀b o',s.heap.get? b=some o'->h'.get? b=some o')->
   h'.get? s.heap.objs.size=some {cls:=.type "list",dict:=none,data:=.seq its.toArray c',slots:=#[]}->EP X pins σ Q (.ref s.heap.objs.size) {s with heap:=h'}:=fun its r' hz h' c' kp e=>
  ⟨.ref s.heap.objs.size,_,I.laid (t':=s.toks) kp (le_refl _) (show ObjOk X.prog X.w _ h' _ (.lst ys) from⟨hz,its,c',r',e⟩),rfl,q _ (I.hok.fresh (le_refl _))⟩
 rcases hq with hq|hq;obtain⟨its,r',pl,hz⟩:=I.list hq;have hlen:=r'.length;obtain⟨o,ho,hc,n,hd⟩:=pl.isList;exact call_list_seq p (.inl rfl) ho hc hd (fun h' c' kp e=>fin its r' hz h' c' kp e) (by simp only[size_toArray]<;>omega);obtain⟨its,r',pl,hz⟩:=I.tuple hq;have hlen:=r'.length;obtain⟨o,ho,hc,n,hd⟩:=pl;exact call_list_seq p (.inr rfl) ho hc hd (fun h' c' kp e=>fin its r' hz h' c' kp e) (by simp only[size_toArray]<;>omega)
theorem zdp:zba X (.type "tuple") (fun xs H Q=>∃p ys,xs=[.ref p]/\((SqL X.K H p ys/\∀l,H l=none->Q (.ref l) (upd H l (.tup ys)))\/(SqT X.K H p ys/\Q (.ref p) H))):=by intro pins s σ H xs us Q I r h;obtain⟨p,ys,rfl,h⟩:=h;obtain⟨u,rfl,rx⟩:=zcH r;cases rx;rcases h with⟨hq,q⟩|⟨hq,q⟩;obtain⟨its,r',pl,hz⟩:=I.list hq;have hlen:=r'.length;refine call_tuple_list pl.isList (fun h' kp=>?_) (by simp only[size_toArray]<;>omega);have I1:Inv X pins σ H {s with heap:=h'}:=I.kept (t':=s.toks) kp;have I2:Inv X pins σ (upd H h'.objs.size (.tup ys)) {s with heap:=h'.push {cls:=.type "tuple",data:=.seq its.toArray}}:=I1.laid (t':=s.toks) (fun b o e=>Heap.get?_push_of_some _ e) (le_refl _) (show ObjOk X.prog X.w _ _ _ (.tup ys) from⟨hz,its,r',IsTup.new _ _⟩);exact⟨.ref h'.objs.size,_,I2,rfl,q _ (I1.hok.fresh (le_refl _))⟩;obtain⟨its,r',pl,hz⟩:=I.tuple hq;exact call_tuple_same pl ⟨.ref p,H,I,rfl,q⟩
def tyV(K:PySem.W.Frag)(T:String)(x:V)(H:Hp):Prop:=match x with
 |.str _=>T="str"|.int _=>T="int"
 |.ref p=>(T="list"/\∃xs,SqL K H p xs)\/(T="tuple"/\∃o,K.lookup p=some o/\o.cls=.type "tuple"/\o.dict=none)\/
  (T="dict"/\((∃kvs,H p=some (.dK kvs))\/∃kvs,H p=some (.dT kvs)))\/(T="set"/\∃S n,H p=some (.set S n))
 |_=>False
theorem zkR{pins:List (Addr×Obj)}{σ:St}{H:Hp}{s:Shared}{T:String}{x:V}{v:Value}(I:Inv X pins σ H s)(r:RelV x v)(ty:tyV X.K T x H) :
  s.TypeIs v T/\∀a,v=.ref a->∃ob,s.heap.get? a=some ob/\ob.dict=none:=by
 cases x with
 |str z=>obtain⟨t,rfl⟩:=r;cases(show T="str" from ty);exact⟨typeIs_str s z t,fun _ e=>nomatch e⟩| int i=>obtain⟨t,rfl⟩:=r;cases(show T="int" from ty);exact⟨typeIs_int s i t,fun _ e=>nomatch e⟩| ref p=>
  cases r;rcases ty with⟨rfl,xs,hq⟩|⟨rfl,o,hk,hc,hd⟩|⟨rfl,hk⟩|⟨rfl,S,n,hk⟩;obtain⟨its,_,pl,_⟩:=I.list hq;refine⟨pl.isList.typeIs,fun a e=>?_⟩;cases e;obtain⟨o,n,e,c,hd,_⟩:=pl;exact⟨o,e,hd⟩;refine⟨⟨o,I.kIn p o hk,hc⟩,fun a e=>?_⟩;cases e;exact⟨o,I.kIn _ o hk,hd⟩;have z:∃o,s.heap.get? p=some o/\o.ExactDict:=by rcases hk with⟨kvs,hk⟩|⟨kvs,hk⟩;obtain⟨_,_,_,_,o,_,_,e,ex,_⟩:=I.hok p _ hk;exact⟨o,e,ex⟩;obtain⟨_,_,_,_,o,_,_,e,ex,_⟩:=I.hok p _ hk;exact⟨o,e,ex⟩
  obtain⟨o,e,ex⟩:=z;refine⟨⟨o,e,ex.1⟩,fun a e2=>?_⟩;cases e2;exact⟨o,e,ex.2.1⟩;obtain⟨o,_,_,_,e,ex,_⟩:=I.hok p _ hk;refine⟨⟨o,e,ex.1⟩,fun a e2=>?_⟩;cases e2;exact⟨o,e,ex.2.1⟩
 |_=>exact False.elim ty
def tBM(K:PySem.W.Frag)(T:String)(r:V->List V->Hp->VK->Prop)(to:TE)(t:TA):TE:=fun σ H Q=>to σ H fun x H1=>tyV K T x H1/\t σ H1 fun xs H2=>r x xs H2 Q
variable{o e:Expr}{es:List Expr}{to:TE}{t:TA}{name:Str}{apos cpos:Pos}{T id:String}{r:V->List V->Hp->VK->Prop}
theorem zgn(pa:PlainAttrs T)(slot:Slot T name id)(hty:typeOf (.builtin id)=pure (.type "method_descriptor"))(hm:MtR X id r)(ho:PE X o to)(ha:PA X (e::es) t)
  (hbase:attributeBase o name X.env (eval o X.env)=eval o X.env:=by rfl)
  (hfew:((backTo cpos (starEach (e::es) X.env)).all (fun x=>!x.1)&&(backToKw cpos (keywordEach [] X.env)).all (fun x=>x.1.isSome)
   && decide ((e::es).length+([]:List Keyword).length+(if([]:List Keyword).isEmpty then 0 else 1)<30))=true:=by rfl)
  (hline:(apos.endLine==cpos.line)=true:=by rfl) (hs:starEach (e::es) X.env=(false,eval e X.env)::starEach es X.env:=by rfl) (hplain:(backTo cpos (starEach es X.env)).any (·.1)=false:=by rfl) :
  PE X (.Call (.Attribute o name apos) (e::es) [] cpos) (tBM X.K T r to t):=by
 intro pins s σ H Q I h;refine wpAny_Call_method_late hbase hfew hline rfl (thn (ho pins s σ H _ I h) fun v s1 ⟨x,H1,I1,r1,ty,q1⟩=>?_);obtain⟨h1,h2⟩:=zkR I1 r1 ty;refine⟨T,id,pa,slot,hty,h1,h2,?_⟩;have hA:=ha cpos pins s1 σ H1 _ I1 q1;rw[hs]at hA⊢;refine Calls.callWith_builtin (by show(false||(backTo cpos (starEach es X.env)).any (·.1))=false;rw[hplain]<;>rfl) (Calls.evalArgs_plain ?_);exact thn hA fun us s2 ⟨vs,H2,I2,r2,q2⟩=>hm pins s2 σ H2 x vs v us Q I2 r1 r2 q2
end
def MtM(X:Cx)(id:String)(r:V->List V->Hp->VK->Prop):Prop:=
 ∀(pins:List (Addr×Obj))(s:Shared)(σ:St)(H:Hp)(x:V)(xs:List V)(v:Value)(us:List Value)(Q:VK),Inv X pins σ H s->RelV x v->Vals xs us->r x xs H Q->
  wpAny (model X.prog X.w) X.A (call (.builtin id) (v::us)) (EP X pins σ Q) X.xe s
theorem Vals.one:∀{x:V}{us:List Value},Vals [x] us->∃u,us=[u]/\RelV x u
 |_,_,.cons r .nil=>⟨_,rfl,r⟩
section
variable{X:Cx}{pins:List (Addr×Obj)}{σ:St}{H:Hp}{s:Shared}{l b:Addr}{xs ys zs:List V}
theorem Inv.lset{its its':List Value}{n:Nat}{f:Array Value->Array Value}{t':Nat}(I:Inv X pins σ H s)(hH:H l=some (.lst xs))
  (e:s.heap.get? l=some {cls:=.type "list",data:=.seq its.toArray n}) (hf:f its.toArray=its'.toArray) (hv:Vals ys its') (hz:ys.length<=sizeLine) :
  Inv X pins σ (upd H l (.lst ys)) {s with heap:=s.heap.update l (Obj.mapSeq f),toks:=t'}:=by
 have q:=PySem.IsL.update e f;rw[hf]at q;refine I.write (x:=l) (e:=l) (by rw[hH];exact trivial) (.inl rfl) (fun b' u hb hu=>(Heap.get?_update_other s.heap (Obj.mapSeq f) (Ne.symm hb)).trans hu) ⟨_,q⟩ ?_;exact⟨hz,its',_,hv,q⟩
theorem Inv.lnew{its:List Value}{t':Nat}(I:Inv X pins σ H s)(hv:Vals ys its)(hz:ys.length<=sizeLine) :
  Inv X pins σ (upd H s.heap.objs.size (.lst ys)) {s with heap:=s.heap.push {cls:=.type "list",data:=.seq its.toArray},toks:=t'}:=
 I.laid (fun _ _ q=>Heap.get?_push_of_some _ q) (le_refl _) ⟨hz,its,0,hv,Heap.get?_push_size _ rfl⟩
theorem Inv.fresh(I:Inv X pins σ H s):H s.heap.objs.size=none:=I.hok.fresh (le_refl _)
theorem Inv.lstM(I:Inv X pins σ H s)(hH:H l=some (.lst xs)):xs.length<=sizeLine/\∃(its:List Value) (n:Nat),Vals xs its/\xs.length=its.length/\s.heap.get? l=some {cls:=.type "list",data:=.seq its.toArray n}:=by obtain⟨z,its,n,r,e⟩:=I.hok l _ hH;exact⟨z,its,n,r,r.length,e⟩
end
section
variable{X:Cx}
def zjO:V->List V->Hp->VK->Prop:=fun x vs H Q=>∃l xs y,x=.ref l/\vs=[y]/\H l=some (.lst xs)/\xs.length<sizeLine/\Q .non (upd H l (.lst (xs++[y])))
theorem zdR:MtM X "list.append" zjO:=by intro pins s σ H x vs v us Q I rx rv h;obtain⟨l,xs,y,rfl,rfl,hH,hz,q⟩:=h;cases rx;obtain⟨u,rfl,ru⟩:=rv.one;obtain⟨z,its,n,r,hl,e⟩:=I.lstM hH;refine call_meets F.slot_list_append ⟨_,e,rfl⟩ F.entry_list_append (F.args_list_append_2 _ _) (PySem.list_append l its.toArray n u (by rw[size_toArray];omega)) ⟨e,?_⟩;refine⟨.non,_,I.lset (its':=its++[u]) hH e (by simp) (r.append (.cons ru .nil)) ?_,rfl,q⟩;rw[length_append,List.length_singleton];omega
def rCat:R2:=fun x y H Q=>∃l b xs zs,x=.ref l/\y=.ref b/\H l=some (.lst xs)/\H b=some (.lst zs)/\xs.length+zs.length<=sizeLine/\∀p,H p=none->Q (.ref p) (upd H p (.lst (xs++zs)))
theorem zmf:OpR X (binaryOp .Add) rCat:=by
 intro pins s σ H x y v u Q I rx ry h;obtain⟨l,b,xs,zs,rfl,rfl,hH,hB,hz,q⟩:=h;cases rx;cases ry;obtain⟨z,its,n,r,hl,e⟩:=I.lstM hH;obtain⟨z2,its2,n2,r2,hl2,e2⟩:=I.lstM hB;refine PySem.P.add_list e e2 ?_ (by rw[size_toArray,size_toArray];omega);have ea:its.toArray++its2.toArray=(its++its2).toArray:=by simp
 rw[ea];exact⟨.ref _,_,I.lnew (t':=s.toks) (r.append r2) (by rw[length_append];omega),rfl,q _ I.fresh⟩
end
end L2
namespace Att
open PySem PySem.W PySem.Calls PyProof.Rows
theorem zcs{P:Params}{h:Heap}:∀(ns:List Int)(vs:List Value),WellAll P h vs (ns.map WData.int)->IntsAre vs ns:=by intro ns;induction ns with| nil=>intro vs w;rw[List.map_nil]at w;cases w;exact .nil| cons n ns ih=>intro vs w;rw[map_cons]at w;cases w with| cons a b=>cases a;exact .cons _ _ (ih _ b)
theorem zf4{l:OpenLaw}{n:Nat}(hn:l.most=some n){P:Params}{h:Heap}{args:List WData}{vals:List Value}
  (hpre:l.row.toRowW.claim.pre args=true) (hwl:WellAll P h vals args) :
  ∃a vs ns,vals=[Value.ref a]/\args=[WData.list (ns.map WData.int)]/\h.get? a=some {cls:=.type "list",data:=.seq vs.toArray}/\IntsAre vs ns/\ns.length<=n:=by
 have hsh:WShape.hasAll [] args [.list .int]=true:=(pre_splitW hpre).1;have hc:l.pre.holds [] {args:=args}=true:=(pre_splitW hpre).2;obtain⟨d,r,rfl,h1,h2⟩:=hasAllW_cons hsh;obtain rfl:=hasAllW_nil h2;obtain⟨xs,rfl,h3⟩:=hasW_list h1;obtain⟨ns,rfl⟩:=items_int h3;have hlen:ns.length<=n:=by
  unfold OpenLaw.pre at hc;have h4:(WTm.not (.lt (.lit (.int (n:Int))) (.len (.arg 0)))).holds [] {args:=[.list (ns.map .int)]}=true:=by have h4:=(holds_andW hc).1;rw[hn]at h4;exact h4
  have h5:=condW_of h4 (w_not (w_lt w_lit (w_len_list (w_arg rfl))));rw[length_map]at h5;refine Nat.le_of_not_lt fun q=>?_;have q':(n:Int)<((ns.length:Nat):Int):=by omega
  first
   |(rw[decide_eq_true q']at h5;exact absurd h5 (by decide))
   |(simp at h5;omega)
 cases hwl with| cons w1 w2=>cases w2;cases w1 with|list ho hall=>exact⟨_,_,ns,rfl,rfl,ho,zcs ns _ hall,hlen⟩
theorem zgg(l:OpenLaw)(args:List WData):l.row.toRowW.claim.post args (.bool true) args=true:=
 postW_of (r:=l.row.toRowW) (X:=(true==true))
  (show WShape.has [] (.bool true) .bool=true by first|rfl|decide|simp[WShape.has,WShape.arms,WShape.armsAll])
  (show(WTm.eq .res (.lit (.bool true))).value [] {args:=args,res:=some (.bool true),after:=args}=some (.bool (true==true)) from w_eq_bool (w_res rfl) w_lit) rfl
theorem attach_call{l:OpenLaw}{n:Nat}{q:Program}{loose:List Str}{XP:(Str->Option Value)->Heap->Prop}{YP:World->Heap->Prop}{d:DefRec}
  (hn:l.most=some n) (hdf:d.params.defaults=[])
  (call:∀(w:World)(s₀ s₁:Shared)(mg mb:Str->Option Value)(fa:Addr)(o:Obj)(pm cd doc:Value)(a:Addr)(vs:List Value)(ns:List Int),
   Ground q loose [] XP w s₀ mg mb s₁.heap->YP w s₁.heap->
   s₁.heap.get? fa=some o->o.data=.func (docDef d.name d.params d.body d.scope pm cd doc)->s₁.heap.CodeRec cd d.name->mg d.name=some (.ref fa)->
   s₁.heap.get? a=some {cls:=.type "list",data:=.seq vs.toArray}->IntsAre vs ns->ns.length<=n->s₁.gens = #[]->
   codeAny (model l.prog w) callerA (.call (.ref fa) ⟨[.ref a],[]⟩) (fun r s'=>r=.ok (.ret (.bool true))/\OldK s₁.heap s'.heap/\s'.os=s₁.os/\AllBare s'.gens) s₁) :
  WalkO q loose XP YP l.row.toRowW d [] (fun f vs=>PySem.call f vs):=by
 intro w s₀ s₁ mg mb G Y fa o pm cd doc dV kV ho hd hcd hD hmg hg args vals as hpre hlay hrd hwl hlo;obtain rfl:dV=.none:=Dflts.none hD hdf;obtain rfl:kV=.none:=Dflts.noKw hD;obtain⟨a,vs,ns,rfl,rfl,hobj,hints,hlen⟩:=zf4 hn hpre hwl;refine enter_call (codeAny_mono (call w s₀ s₁ mg mb fa o pm cd doc a vs ns G Y ho (fd_plain hd) hcd hmg hobj hints hlen hg) fun r s' hq=>?_);obtain⟨rfl,h2,h3,h4⟩:=hq;exact⟨.inl ⟨.bool true,.bool true,[],rfl,fun _=>rfl,.bool true,zgg l _,fun _=>⟨List.Pairwise.nil,fun _ hm=>(nomatch hm)⟩⟩,h2,h3,h4⟩
end Att
namespace L2
open PySem PySem.Spec PyProof.Rows
theorem zdv:∀{vs:List Value}{ns:List Int},IntsAre vs ns->Vals (ns.map V.int) vs
 |_,_,.nil=>.nil|_,_,.cons n t h=>.cons ⟨t,rfl⟩ (zdv h)
def Only(H:Hp):Prop:=∀b,H b=none\/∃o xs,H b=some (.frz o (.lst xs))
theorem zh3{P:Program}{w:World}{K:PySem.W.Frag}{mg mb:Str->Option Value}{CX:CXT}{k:Nat}{fa a:Addr}{fd:FuncData}{x:Str}{sp:Sp}{s₁:Shared}{vs:List Value}{ns:List Int}
  (KX:K.In s₁.heap) (hns:s₁.heap.Ns mainGlobals mg) (hb:s₁.heap.Ns builtinsNs mb) (hbb:∀x:Str,x≠"__name__"->mb x=bootBuiltins x) (hlim:s₁.heap.NoLimit) (hg:s₁.gens = #[])
  (ha:s₁.heap.get? a=some {cls:=.type "list",data:=.seq vs.toArray}) (hi:IntsAre vs ns) (hl:ns.length<=sizeLine) (hr:Room k callerA)
  (F:∀base:Heap,K.In base->base.Ns mainGlobals mg->FnOk P w K mg base CX k fa fd [x] sp) (hbind:∀(s:Shared)(u:Value),BindsTo s fd ⟨[u],[]⟩ [(x,u)])
  (hsp:∀H:Hp,Only H->SqL K H a (ns.map V.int)->sp [.ref a] H (fun v _=>v=.bl true) fun _ _ _=>False)
  (hCX:∀H e s',CX [] H s₁ (fun _ _ _=>False) e s'->False) :
  codeAny (model P w) callerA (.call (.ref fa) ⟨[.ref a],[]⟩) (fun r s'=>r=.ok (.ret (.bool true))/\OldK s₁.heap s'.heap/\s'.os=s₁.os/\AllBare s'.gens) s₁:=by
 have rv:=zdv hi;have lenV:=hi.length
 -- from an abstract heap in which nothing but the script may be tracked
 have core:∀H:Hp,Only H->SqL K H a (ns.map V.int)->HOk P w H s₁.heap->(∀b,H b≠none->b=a)->(H a≠none->K.lookup a=none)->
   codeAny (model P w) callerA (.call (.ref fa) ⟨[.ref a],[]⟩) (fun r s'=>r=.ok (.ret (.bool true))/\OldK s₁.heap s'.heap/\s'.os=s₁.os/\AllBare s'.gens) s₁:=by
  intro H hO hS hok hA hK;have base_of:∀{b:Addr}{o:Obj},s₁.heap.get? b=some o->H b=none->(hidT s₁.heap H).get? b=some o:=fun e n=>zh9 e n;have noA:∀{b:Addr}{o:Obj}{es:Array DictEntry}{ep:Nat},s₁.heap.get? b=some o->o.data=.dict es ep->H b=none:=fun {b o es ep} e d=>by cases q:H b with|none=>rfl| some u=>have e':b=a:=hA b (by rw[q];simp);subst e';rw[ha]at e;cases e;have d':Data.seq vs.toArray _=Data.dict es ep:=d;cases d'
  have nsK:∀{b:Addr}{m:Str->Option Value},s₁.heap.Ns b m->(hidT s₁.heap H).Ns b m:=fun {b m} ⟨o,es,ep,e,d,r⟩=>⟨o,es,ep,base_of e (noA e d),d,r⟩;have hKb:K.In (hidT s₁.heap H):=fun b o e=>base_of (KX b o e) (by
   cases q:H b with|none=>rfl| some u=>have e':b=a:=hA b (by rw[q];simp);subst e';rw[hK (by rw[q];simp)]at e;cases e)
  have hM:Mod K mg (hidT s₁.heap H):=⟨hKb,nsK hns,⟨mb,nsK hb,hbb⟩,let ⟨mc,h1,h2⟩:=hlim;⟨mc,nsK h1,h2⟩⟩;have e0:Env0 P w K mg (hidT s₁.heap H) callerA [] s₁ H:=⟨rfl,hM,fun b o e=>zj6 e,le_of_eq (zgQ _ _),trivial,fun b hb=>absurd (show b∈([]:List Addr) from hb) (by simp),hok,.of_eq hg⟩;refine codeAny_mono ((F _ hKb (nsK hns)).run callerA [] s₁ H ⟨[.ref a],[]⟩ [.ref a] [.ref a] _ _ hr e0 (hbind s₁ (.ref a)) (.cons rfl .nil) (hsp H hO hS)) fun r s' h=>?_;cases r with|error e=>exact(hCX H e s' h).elim| ok fl=>cases fl with|next=>exact False.elim h|brk=>exact False.elim h|cont=>exact False.elim h| ret u=>obtain⟨v,H',os,bare,un,hok',r',q⟩:=h;have q':v=.bl true:=q;subst q';obtain rfl:u=Value.bool true:=r';refine⟨rfl,OldK.of_keep fun b o e=>?_,os,bare⟩;cases q:H b with|none=>exact un.keep b o e q (by intro z;exact absurd (show b∈([]:List Addr) from z) (by simp)) (by simp)| some u=>rcases hO b with z|⟨ob,xs,z⟩;rw[q]at z;cases z;have z2:=un.frzs b ob _ z;obtain⟨e1,_⟩:=hok b _ z;obtain⟨e2,_⟩:=hok' b _ z2;rw[e]at e1;cases e1;exact e2
 cases hk:K.lookup a with
 |some o=>
  -- the script is one of the module's own objects
  have e:=KX a o hk;rw[ha]at e;cases e;refine core (fun _=>none) (fun _=>.inl rfl) (.inr ⟨_,vs.toArray,_,hk,rfl,rfl,rfl,by rw[size_toArray,lenV];exact hl,by simpa using rv⟩) (fun b u z=>by have z':(none:Option HO)=some u:=z;cases z') (fun b z=>absurd rfl z) fun z=>absurd rfl z
 |none=>refine core (fun b=>if b=a then some (.frz {cls:=.type "list",data:=.seq vs.toArray} (.lst (ns.map V.int))) else none) (fun b=>?_) (.inl (.inr ⟨{cls:=.type "list",data:=.seq vs.toArray},if_pos rfl⟩)) (fun b u z=>?_) (fun b z=>?_) fun _=>hk;by_cases hb:b=a;exact .inr ⟨_,_,if_pos hb⟩;exact .inl (if_neg hb);by_cases hb:b=a;have z':=(if_pos hb).symm.trans z;cases z';subst hb;exact⟨ha,by rw[length_map];exact hl,vs,_,rv,ha⟩;have z':=(if_neg hb).symm.trans z;cases z';by_cases hb:b=a;exact hb;exact absurd (if_neg hb) z
theorem walk_of{l:PySem.W.OpenLaw}{n k:Nat}{q:Program}{loose:List Str}{XP:(Str->Option Value)->Heap->Prop}{YP:World->Heap->Prop}{d:DefRec}{K:Params->PySem.W.Frag}{CX:World->CXT}{sp:World->Sp}{x:Str}
  (hn:l.most=some n) (hn2:n<=sizeLine) (hdf:d.params.defaults=[]) (hr:Room k callerA)
  (hY:∀(w:World)(h:Heap),YP w h->(K w.params).In h)
  (F:∀(w:World)(mg:Str->Option Value)(fa:Addr)(h:Heap),(K w.params).In h->h.Ns mainGlobals mg->mg d.name=some (.ref fa)->
   ∃fd:FuncData,(∀(s:Shared)(u:Value),BindsTo s fd ⟨[u],[]⟩ [(x,u)])/\
    ∀base:Heap,(K w.params).In base->base.Ns mainGlobals mg->FnOk l.prog w (K w.params) mg base (CX w) k fa fd [x] (sp w))
  (hsp:∀(w:World)(H:Hp)(a:Addr)(ns:List Int),ns.length<=n->Only H->SqL (K w.params) H a (ns.map V.int)->sp w [.ref a] H (fun v _=>v=.bl true) fun _ _ _=>False)
  (hCX:∀(w:World)(H:Hp)(s:Shared)(e:Value)(s':Shared),CX w [] H s (fun _ _ _=>False) e s'->False) :
  PySem.W.WalkO q loose XP YP l.row.toRowW d [] (fun f vs=>PySem.call f vs):=by
 refine Att.attach_call hn hdf fun w s₀ s₁ mg mb fa o pm cd doc a vs ns G Y ho hd hcd hmg hobj hints hlen hg=>?_;have KX:=hY w _ Y;obtain⟨fd,hb,hF⟩:=F w mg fa _ KX G.T.g hmg;exact zh3 KX G.T.g G.T.b G.T.builtins G.T.nolimit hg hobj hints (le_trans hlen hn2) hr hF hb (fun H hO hS=>hsp w H a ns hlen hO hS) fun H e s'=>hCX w H s₁ e s'
noncomputable def zaJ(s:Stmt):Arguments:=match s with|.FunctionDef _ a _ _ _ _ _ _ _ _=>a|_=>{posonlyargs:=[],args:=[],vararg:=none,kwonlyargs:=[],kw_defaults:=[],kwarg:=none,defaults:=[]}
noncomputable def zam(s:Stmt):List Stmt:=match s with|.FunctionDef _ _ b _ _ _ _ _ _ _=>b|_=>[]
noncomputable def zae(s:Stmt):Scope:=match s with|.FunctionDef _ _ _ _ _ _ sc _ _ _=>sc|_=>{kind:=.function,names:=[],isGenerator:=false,isCoroutine:=false}
abbrev CX0:CXT:=fun _ _ _ _ _ _=>False
abbrev E0:XK:=fun _ _ _=>False
theorem zhW{X:Cx}:zcG CX0 X E0:=fun _ _ _ _ _ _ _ h=>h.elim
structure Fun(K:PySem.W.Frag)(x qual:Str)(st:Stmt)(f:Addr)(fd:FuncData):Prop where
 ex:∃(oc:Value) (od:Option Addr) (kV doc pm:Value) (an:Option Addr) (cdv ct:Value) (osl:Array (Option Value)),
  fd=fnOf x qual (zaJ st) (zam st) (zae st) .none kV doc pm an cdv ct/\K.lookup f=some ⟨oc,od,.func fd,osl⟩/\codeIn K cdv qual=true
 kp:keepIn K (.ref f)=true
def Same(H H':Hp):Prop:=∀b o,H b=some o->H' b=some o
noncomputable def zaS(cells:List (Str×Addr))(y:Str×NameKind)(acc:List (Str×Addr)):List (Str×Addr):=if(y.2==NameKind.free)=true then(match cells.lookup y.1 with|some c=>(y.1,c)::acc|none=>acc) else acc
noncomputable def zd3(cells:List (Str×Addr))(names:List (Str×NameKind))(acc:List (Str×Addr)):List (Str×Addr):=names.foldl (fun a y=>zaS cells y a) acc
theorem zcv{α β:Type}(f:α->β->Sem (ForInStep β))(g:α->β->β):∀(l:List α)(b:β),(∀x∈l,∀b,f x b=pure (.yield (g x b)))->forIn l b f=(pure (l.foldl (fun b x=>g x b) b):Sem β)
 | [],b,_=>rfl| x::l,b,h=>by rw[List.forIn_cons,h x mem_cons_self,pure_bind];exact zcv f g l _ fun y hy=>h y (mem_cons_of_mem _ hy)
theorem zaB(h:∀y∈scope.names,y.2=.free->∃c,env.cells.lookup y.1=some c) :
  closureFor scope env=pure (zd3 env.cells scope.names []):=by
 unfold closureFor zd3;dsimp only;rw[zcv _ (fun y a=>zaS env.cells y a)];simp;intro y hy a;obtain⟨n,k⟩:=y;by_cases hk:k=.free;obtain⟨c,hc⟩:=h _ hy hk;subst hk;simp[cellOf,hc,zaS];have:(k==NameKind.free)=false:=by simpa using hk
 simp[this,zaS]
theorem zd2:∀(names:List (Str×NameKind))(acc:List (Str×Addr)),(∀x c,acc.lookup x=some c->cells.lookup x=some c)->
  ∀x c,(zd3 cells names acc).lookup x=some c->cells.lookup x=some c
 | [],acc,h=>h| y::r,acc,h=>by
  apply zd2 r (zaS cells y acc);intro x c e;unfold zaS at e;split at e;split at e;rename_i c' hc';rw[lookup_cons]at e;cases hx:x==y.1 with| true=>rw[hx]at e;have q:x=y.1:=beq_iff_eq.mp hx;have e':c'=c:=Option.some.inj e;rw[q,<-e'];exact hc'|false=>rw[hx]at e;exact h x c e
  exact h x c e;exact h x c e
theorem zcA:∀(names:List (Str×NameKind))(acc:List (Str×Addr))(x:Str),(∀y∈names,y.2=.free->∃c,cells.lookup y.1=some c)->
  ((∃c,acc.lookup x=some c)\/(x,NameKind.free)∈names)->∃c,(zd3 cells names acc).lookup x=some c
 | [],acc,x,_,h=>by rcases h with h|h;exact h;cases h
 |y::r,acc,x,hf,h=>by
  apply zcA r (zaS cells y acc) x (fun z hz=>hf z (mem_cons_of_mem _ hz));rcases h with⟨c,h⟩|h;left;unfold zaS;split;split;rename_i c' hc';rw[lookup_cons];cases hx:x==y.1 with|true=>exact⟨c',rfl⟩|false=>exact⟨c,h⟩
  exact⟨c,h⟩;exact⟨c,h⟩;rcases mem_cons.mp h with h|h;left;subst h;obtain⟨c,hc⟩:=hf _ mem_cons_self rfl;simp[zaS,hc];exact .inr h
noncomputable def zbz(env:Env)(y:Str×NameKind):Str×NameKind:=if(y.2==.free&&env.scope.kind==.function&&env.kindOf y.1==some .cell)=true then(y.1,.cell) else y
theorem zbP(scope:Scope)(env:Env):(relabel scope env).names=scope.names.map (zbz env):=rfl
theorem zcj(env:Env)(y:Str×NameKind):(zbz env y).1=y.1:=by unfold zbz;split<;>rfl
theorem zci(env:Env)(y:Str×NameKind):(zbz env y).2=y.2\/(y.2=.free/\(zbz env y).2=.cell):=by unfold zbz;split;rename_i h;simp at h;exact .inr ⟨h.1.1,rfl⟩;exact .inl rfl
theorem zbp(env:Env)(x:Str):∀names:List (Str×NameKind),∀k,(names.map (zbz env)).lookup x=some k->∃k0,(x,k0)∈names/\names.lookup x=some k0/\(k=k0\/(k0=.free/\k=.cell))
 | [],k,h=>by simp at h| y::r,k,h=>by rw[map_cons]at h;have f1:=zcj env y;have f2:=zci env y;obtain⟨n,k1⟩:=y;generalize hz:zbz env (n,k1)=z at *;obtain⟨zn,zk⟩:=z;subst f1;rw[lookup_cons]at h;rw[lookup_cons];cases hx:x==zn with| true=>rw[hx]at h;have q:x=zn:=beq_iff_eq.mp hx;subst q;have e:zk=k:=Option.some.inj h;subst e;exact⟨k1,mem_cons_self,rfl,f2⟩| false=>rw[hx]at h;obtain⟨k0,m,l,q⟩:=zbp env x r k h;exact⟨k0,mem_cons_of_mem _ m,l,q⟩
theorem zbf(env:Env)(x:Str):∀names:List (Str×NameKind),names.lookup x=some .free->(names.map (zbz env)).lookup x=some .free\/(names.map (zbz env)).lookup x=some .cell
 | [],h=>by simp at h| y::r,h=>by
  rw[map_cons];have f1:=zcj env y;have f2:=zci env y;obtain⟨n,k1⟩:=y;generalize hz:zbz env (n,k1)=z at *;obtain⟨zn,zk⟩:=z;simp only at f1 f2;subst f1;rw[lookup_cons]at h;rw[lookup_cons];cases hx:x==zn with
  |true=>rw[hx]at h;have e:k1=.free:=Option.some.inj h;subst e;rcases f2 with f2|⟨_,f2⟩;left;show some zk=_;rw[f2];right;show some zk=_;rw[f2]
  |false=>rw[hx]at h;exact zbf env x r h
structure CompOk(sc scope:Scope)(N0:List Str)(js:List Nat):Prop where
 kind:scope.kind=.function
 nocell:∀y∈scope.names,y.2≠.cell
 locs:∀y∈scope.names,y.2=.local->scope.names.lookup y.1=some .local
 frees:∀y∈scope.names,y.2=.free->sc.names.lookup y.1=some .cell\/sc.names.lookup y.1=some .free
 caps:∀j∈js,scope.names.lookup (N0.getD j "")=some .free/\j<N0.length
noncomputable abbrev zar(X:Cx)(N':List Str)(scope:Scope)(cl:List (Str×Addr))(C:Addr)(fp:List Addr)(s:Shared)(H:Hp)(pn:List (Addr×Obj)):Cx:={X with N:=N',s₀:=s,H₀:=H,env:=compEnvC scope cl C X.env,outer:=X.stack,stack:=X.stack,ex:=fp,fn:=fun _=>false,pn:=pn,xe:=fun _ _=>False}
noncomputable abbrev cxX(XE:Cx->Value->Shared->Prop)(X:Cx)(N':List Str)(scope:Scope)(cl:List (Str×Addr))(C:Addr)(fp:List Addr)(s:Shared)(H:Hp)(pn:List (Addr×Obj)):Cx:={zar X N' scope cl C fp s H pn with xe:=XE (zar X N' scope cl C fp s H pn)}
noncomputable def csl(nt:Nat)(js:List Nat)(σ:St):St:=List.replicate nt none++js.map fun j=>(σ[j]?).join
noncomputable abbrev capN(N0:List Str)(tgs:List Str)(js:List Nat):List Str:=tgs++js.map fun j=>N0.getD j ""
def PTs(X:Cx)(ifs:List Expr)(t:TT):Prop:=
 ∀(pins:List (Addr×Obj))(s:Shared)(σ:St)(H:Hp)(Q:Bool->Hp->Prop),Inv X pins σ H s->t σ H Q->
  wpAny (model X.prog X.w) X.A (forIn ifs true fun c r=>if r=true then do let ok <-isTrue c X.env (eval c X.env);pure (ForInStep.yield ok) else pure (ForInStep.yield r)) (TP X pins σ Q) X.xe s
def tYes:TT:=fun _ H Q=>Q true H
theorem zeq:PTs X [] tYes:=fun pins s σ H Q I h=>wpAny_tests_nil ⟨H,I,h⟩
theorem zgf(h:PT X c t):PTs X [c] t:=fun pins s σ H Q I q=>wpAny_tests_one (h pins s σ H Q I q)
def zeg(nt:Nat)(js:List Nat)(wi:TI)(g:TG)(tt:TT)(te:TE):TE:=fun σ H Q=>wi σ H fun J H1=>∀p,H1 p=none->
 ∃W:Nat->Nat->St->Hp->Prop,(∃m,W 0 m (csl nt js σ) (upd H1 p (.lst [])))/\∀i m σ' H',W i m σ' H'->
  (J.stop i H'/\Q (.ref p) H')\/(J.go i H'/\∃N:St->Hp->Prop,(∀σ2 H2,N σ2 H2->∃m',m'<m/\W (i+1) m' σ2 H2)/\
   ∀x H2,J.yld i H' x H2->g x σ' H2 fun σ2 H3=>tt σ2 H3 fun b H4=>if b=true then te σ2 H4 fun v H5=>∃acc,H5 p=some (.lst acc)/\acc.length<sizeLine/\N σ2 (upd H5 p (.lst (acc++[v]))) else N σ2 H4)
section
variable{prog:Program}{w:World}{A:Around}{R:Result->Shared->Prop}{s:Shared}
theorem zfK(J:Nat->Shared->Prop)(hE:∀e s',E e s'->notedBy (model prog w) A env (fun x s''=>R (.error x) s'') e s')
  (turn:∀n s,J n s->wpAny (model prog w) A (pyNext it) (fun r s₁=>(r=none/\R (.ok .next) s₁)\/∃v,r=some v/\
   wpAny (model prog w) A (letOwnedTupleGo tg it v) (fun _ s₀=>wpAny (model prog w) A (assign tg env v) (fun _ s₂=>
    wpAny (model prog w) A (forIn ifs true fun c r=>if r=true then do let ok <-isTrue c env (eval c env);pure (ForInStep.yield ok) else pure (ForInStep.yield r)) (fun ok s₃=>
     if ok=true then wpAny (model prog w) A (eval elt env) (fun x s₄=>wpAny (model prog w) A (call (.builtin "list.append") [acc,x]) (fun _ s₅=>∃m,m<n/\J m s₅) E s₄) E s₃
     else ∃m,m<n/\J m s₃) E s₂) E s₀) E s₁) E s)
  (n:Nat) (h:J n s):codeAny (model prog w) A (.compLoop (.ListComp elt [⟨tg,iter,ifs,0⟩] scope pos) 0 it acc env) R s:=by
 refine codeAny_loop rfl J (fun n s hI=>?_) n h;apply wpAny_noted;refine wpAny_bind (wpAny_standAt (wpAny_bind (wpAny_mono (turn n s hI) (fun r s₁ h₁=>?_) hE)));rcases h₁ with⟨rfl,h₁⟩|⟨v,rfl,h₁⟩;exact wpAny_pure h₁;refine wpAny_bind (wpAny_mono h₁ (fun _ s₀ h₀=>?_) hE);refine wpAny_bind (wpAny_mono h₀ (fun _ s₂ h₂=>?_) hE);refine wpAny_bind (wpAny_mono h₂ (fun ok s₃ h₃=>?_) hE);cases ok with|false=>exact wpAny_pure ⟨rfl,h₃⟩| true=>refine wpAny_bind (wpAny_bind (wpAny_mono h₃ (fun x s₄ h₄=>?_) hE));exact wpAny_bind (wpAny_mono h₄ (fun _ s₅ h₅=>wpAny_pure (wpAny_pure ⟨rfl,h₅⟩)) hE)
end
section
variable{X:Cx}{sc scope:Scope}{tgs:List Str}{js:List Nat}{elt tg iter:Expr}{ifs:List Expr}{pos:Pos}{wi:TI}{g:TG}{tt:TT}{te:TE}
theorem zbG(XE:Cx->Value->Shared->Prop)(hc:X.calm=true)(hsc:X.env.scope=sc)(ok:CompOk sc scope X.N js)
  (hg:∀cl C fp s H pn,PG (cxX XE X (capN X.N tgs js) scope cl C fp s H pn) tg g)
  (ht:∀cl C fp s H pn,PTs (cxX XE X (capN X.N tgs js) scope cl C fp s H pn) ifs tt)
  (he:∀cl C fp s H pn,PE (cxX XE X (capN X.N tgs js) scope cl C fp s H pn) elt te)
 {σ:St} {RR:Value->Addr->Result->Shared->Prop} {Q:VK}
   (I2:Inv X pins σ H2 s2) (T:Turn X.prog X.w X.K tg J fp it tn) (st2:tn 0 s2.heap) (f2:∀b∈fp,FpOk X pins H2 b)
   (rd:∀p,H2 p=none->∃W:Nat->Nat->St->Hp->Prop,(∃m,W 0 m (csl tgs.length js σ) (upd H2 p (.lst [])))/\∀i m σ' H',W i m σ' H'->
    (J.stop i H'/\Q (.ref p) H')\/(J.go i H'/\∃N:St->Hp->Prop,(∀σ2 H2,N σ2 H2->∃m',m'<m/\W (i+1) m' σ2 H2)/\
     ∀x H2,J.yld i H' x H2->g x σ' H2 fun σ2 H3=>tt σ2 H3 fun b H4=>if b=true then te σ2 H4 fun v H5=>∃acc,H5 p=some (.lst acc)/\acc.length<sizeLine/\N σ2 (upd H5 p (.lst (acc++[v]))) else N σ2 H4))
   (fin:∀p C H' s',Inv X pins σ H' s'->(∃m,s'.heap.Ns C m)->s2.heap.objs.size<C->H' C=none->Q (.ref p) H'->RR (.ref p) C (.ok .next) s')
   (err:∀(Y:Cx)(p C:Addr),Y.env.frame=X.env.frame->X.s₀.heap.objs.size<=Y.s₀.heap.objs.size->(∀pins' σ' H' s',Inv Y pins' σ' H' s'->Inv X pins σ H' s'/\(∃m,s'.heap.Ns C m)/\H' C=none)->s2.heap.objs.size<C->(∀q∈X.pn++pins,q.1<Y.s₀.heap.objs.size)->∀e s',XE Y e s'->notedBy (model X.prog X.w) X.A Y.env (fun x s''=>RR (.ref p) C (.error x) s'') e s') :
   wpAny (model X.prog X.w) X.A (newList []) (fun acc s₃=>wpAny (model X.prog X.w) X.A (newFunctionEnv scope X.env.globals (zd3 X.env.cells scope.names []) [] X.env.qual none .none (some X.env)) (fun cenv s₄=>codeAny (model X.prog X.w) X.A (.compStart (.ListComp elt [⟨tg,iter,ifs,0⟩] scope pos) 0 (.ref it) acc {cenv with scope:=relabel scope X.env}) (RR acc cenv.locals) s₄) E s₃) E s2:=by
  subst hsc;refine wpAny_newObj_type (wpAny_newFunctionEnv ok.nocell (by intro y hy;simp at hy) (fun h₁ hns₁ hsb₁=>?_) ok.kind);have I3:Inv X pins σ (upd H2 s2.heap.objs.size (.lst [])) {s2 with heap:=s2.heap.push {cls:=.type "list",data:=.seq ([]:List Value).toArray}}:=I2.lnew (t':=s2.toks) .nil (zero_le _);obtain⟨W,⟨m0,w0⟩,turn⟩:=rd _ I2.fresh;generalize hp:s2.heap.objs.size=p at *;generalize hs3:({s2 with heap:=s2.heap.push {cls:=.type "list",data:=.seq ([]:List Value).toArray}}:Shared)=s3 at I3;have e3:s3.heap=s2.heap.push {cls:=.type "list",data:=.seq ([]:List Value).toArray}:=by rw[<-hs3]
  have sz3:s3.heap.objs.size=p+1:=by rw[e3,Heap.size_push,hp]
  generalize hH3:upd H2 p (.lst [])=H3 at *;have hns:h₁.Ns s3.heap.objs.size (fun x=>([]:List (Str×Value)).reverse.lookup x):=by rw[e3];exact hns₁
  have hsb:Heap.SameBut s3.heap.objs.size (s3.heap.push {cls:=.type "dict",data:=.dict #[]}) h₁:=by rw[e3];exact hsb₁
  have old:∀b o,s3.heap.get? b=some o->h₁.get? b=some o:=fun b o e=>(hsb.2 b (ne_of_lt (Heap.lt_size e))).trans (Heap.get?_push_of_some _ e);have frees:∀y∈scope.names,y.2=.free->∃c,X.env.cells.lookup y.1=some c:=fun y hy hk=>I2.ok.has y.1 (ok.frees y hy hk);have cellX:∀x c,(zd3 X.env.cells scope.names []).lookup x=some c->X.env.cells.lookup x=some c:=zd2 scope.names [] (fun x c e=>by simp at e);generalize hcl:zd3 X.env.cells scope.names []=cl at *;have okX:(cxX XE X (capN X.N tgs js) scope cl s3.heap.objs.size fp s3 H3 (X.pn++pins)).Ok:=
   {mod:=I3.ok.mod,kind:=ok.kind,glob:=I3.ok.glob,blt:=I3.ok.blt,above:=le_refl _,
    inj:=fun x y c e1 e2=>I3.ok.inj x y c (cellX x c e1) (cellX y c e2),
    has:=fun x hk=>by
     have hk':(scope.names.map (zbz X.env)).lookup x=some .cell\/(scope.names.map (zbz X.env)).lookup x=some .free:=by rw[<-zbP];exact hk
     rw[<-hcl];refine zcA scope.names [] x frees (.inr ?_);rcases hk' with q|q;obtain⟨k0,m,_,e⟩:=zbp X.env x _ _ q;rcases e with e|⟨e,_⟩;subst e;exact absurd rfl (ok.nocell _ m);subst e;exact m;obtain⟨k0,m,_,e⟩:=zbp X.env x _ _ q;rcases e with e|⟨e,z⟩;subst e;exact m;exact absurd z (fun h=>(nomatch h)),
    cab:=fun x c e=>absurd e Bool.false_ne_true,hd:=I3.ok.hd,frames:=I3.ok.frames,stk:=.inl rfl,
    exf:=fun b hb=>⟨ne_of_lt (by
     obtain⟨o,ho,_⟩:=T.obj 0 _ st2 b hb;rw[sz3,<-hp];exact Nat.lt_succ_of_lt (Heap.lt_size ho)),fun x c e=>(f2 b hb).2.2.2.2.1 x c (cellX x c e)⟩,
    bs:=I3.bs,bsz:=le_trans I3.ok.bsz I3.sz,
    noex:=fun b o e hb=>by rcases(f2 b hb).2.2.2.1 with z|z;exact I3.ok.noex b o e z;exact absurd (lt_of_lt_of_le (Heap.lt_size e) (le_trans I3.ok.bsz z)) (lt_irrefl _),
    exfs:=fun b hb hx=>by rcases mem_cons.mp (I3.stkSub b hx) with z|z;exact(f2 b hb).2.1 z;exact(f2 b hb).2.2.1 z,
    funs:=I3.stack,frf:=I3.stkFree}
  have I4:Inv (cxX XE X (capN X.N tgs js) scope cl s3.heap.objs.size fp s3 H3 (X.pn++pins)) [] (csl tgs.length js σ) H3 {s3 with heap:=h₁}:=
   {ok:=okX,os:=rfl,bare:=I3.bare,base:=Un.kept old,
    loc:=⟨_,hns,fun i x v e1 e2 e3=>by
     have e2:(List.replicate tgs.length none++js.map fun j=>(σ[j]?).join)[i]?=some (some v):=e2;by_cases hi:i<tgs.length;rw[getElem?_append_left (by rw[length_replicate];exact hi),List.getElem?_replicate,if_pos hi]at e2;cases e2;rw[getElem?_append_right (by omega),getElem?_map]at e1;rw[getElem?_append_right (by rw[length_replicate];omega),length_replicate,getElem?_map]at e2;cases hj:js[i-tgs.length]? with
     |none=>rw[hj]at e1;cases e1
     |some j=>
      rw[hj]at e1 e2;have e1:X.N.getD j ""=x:=Option.some.inj e1;have e2:(σ[j]?).join=some v:=Option.some.inj e2;have hjm:j∈js:=mem_of_getElem? hj;obtain⟨hfr,hjl⟩:=ok.caps j hjm;rw[e1]at hfr;have hNj:X.N[j]?=some x:=by rw[getElem?_eq_getElem hjl];rw[List.getD_eq_getElem?_getD,getElem?_eq_getElem hjl]at e1;exact congrArg some e1
      have hσ:σ[j]?=some (some v):=by
       cases q:σ[j]? with
       |none=>rw[q]at e2;cases e2
       |some o=>rw[q]at e2;have e2:o=some v:=e2;rw[e2]
      have hmem:(x,NameKind.free)∈scope.names:=by obtain⟨l1,l2,h3,_⟩:=List.lookup_eq_some_iff.mp hfr;rw[h3];simp
      have hkX:=ok.frees _ hmem rfl;have hvis:Vis X.env.scope x:=hkX.elim (fun z=>.inr (.inl z)) fun z=>.inr (.inr z);obtain⟨m,hn,hl⟩:=I3.loc;obtain⟨u,r,lk⟩:=hl j x v hNj hσ hvis;refine⟨u,r,.inr ⟨?_,?_⟩⟩;have q:=zbf X.env x scope.names hfr;exact q.symm;rcases lk with⟨k,_⟩|⟨_,c,ec,z⟩
      . exfalso;have k:X.env.scope.names.lookup x=some .local:=k;rcases hkX with q|q<;>(rw[k]at q;cases q)
      obtain⟨c',hc'⟩:∃c',cl.lookup x=some c':=by rw[<-hcl];exact zcA scope.names [] x frees (.inr hmem)
      have q:=cellX x c' hc';rw[ec]at q;cases q;obtain⟨o,ho,hd⟩:=z;exact⟨c,hc',o,old _ _ ho,hd⟩⟩,
    cell:=fun x c e=>by obtain⟨v,o,ho,hd⟩:=I3.cell x c (cellX x c e);exact⟨v,o,old _ _ ho,hd⟩,
    free:=I3.fresh,
    freeC:=fun x c e=>I3.freeC x c (cellX x c e),
    pin:=fun q hq=>by
     have hq:q∈X.pn++pins:=by simpa using hq
     obtain⟨e,n,ne,nf,d⟩:=I3.pin q hq;refine⟨old _ _ e,n,ne_of_lt (Heap.lt_size e),fun z=>?_,d⟩;rcases mem_cons.mp (I3.stkSub _ z) with z|z;exact ne z;exact nf z,
    hok:=I3.hok.kept old,
    len:=by show(List.replicate tgs.length none++js.map fun j=>(σ[j]?).join).length=(tgs++js.map fun j=>X.N.getD j "").length;simp}
  have stat:∀{H':Hp},(∀b∈fp,H' b=none)->∀b∈fp,FpOk (cxX XE X (capN X.N tgs js) scope cl s3.heap.objs.size fp s3 H3 (X.pn++pins)) [] H' b:=fun hn b hb=>
   ⟨hn b hb,(okX.exf b hb).1,okX.exfs b hb,.inl hb,(okX.exf b hb).2,fun q hq=>by
    have hq:q∈X.pn++pins:=by simpa using hq
    exact(f2 b hb).2.2.2.2.2 q hq⟩
  have fr3:∀b∈fp,H3 b=none:=fun b hb=>by obtain⟨o,ho,_⟩:=T.obj 0 _ st2 b hb;rw[<-hH3,zaf (ne_of_lt (hp▸Heap.lt_size ho))];exact(f2 b hb).1
  have st4:tn 0 h₁:=T.keep 0 _ _ st2 fun b hb o e=>old b o (by rw[e3];exact Heap.get?_push_of_some _ e);have loop:codeAny (model X.prog X.w) X.A (.compLoop (.ListComp elt [⟨tg,iter,ifs,0⟩] scope pos) 0 (.ref it) (.ref p) (compEnvC scope cl s3.heap.objs.size X.env)) (RR (.ref p) s3.heap.objs.size) {s3 with heap:=h₁}:=by
   refine zfK (hE:=fun e s' z=>err (zar X (capN X.N tgs js) scope cl s3.heap.objs.size fp s3 H3 (X.pn++pins)) p s3.heap.objs.size rfl I3.sz (fun pins' σ' H' s' J=>?_) (by rw[sz3];exact lt_succ_self _) (fun q hq=>Heap.lt_size (I3.pin q hq).1) e s' z) (fun n s'=>∃i σ' H',Inv (cxX XE X (capN X.N tgs js) scope cl s3.heap.objs.size fp s3 H3 (X.pn++pins)) [] σ' H' s'/\tn i s'.heap/\(∀b∈fp,H' b=none)/\W i n σ' H') ?_ m0 ⟨0,_,H3,I4,st4,fr3,w0⟩;have hX:Inv X pins σ H' s':=I3.call' J.os J.base J.hok J.bare fun b hb=>⟨(f2 b hb).2.2.2.1,(f2 b hb).2.1,(f2 b hb).2.2.2.2.1,(f2 b hb).2.2.2.2.2⟩;obtain⟨m,hm,_⟩:=J.loc;exact⟨hX,⟨m,hm⟩,J.free⟩;rintro n s4 ⟨i,σ4,H4,J4,st4,fr4,w4⟩;rcases turn i n σ4 H4 w4 with⟨stop,qn⟩|⟨go,N,hN,step⟩;refine thn (T.done (cxX XE X (capN X.N tgs js) scope cl s3.heap.objs.size fp s3 H3 (X.pn++pins)) rfl rfl rfl hc i [] s4 σ4 H4 _ J4 (stat fr4) st4 stop) fun r s5 ⟨hr,J5⟩=>.inl ⟨hr,?_⟩;have hX:Inv X pins σ H4 s5:=I3.call' J5.os J5.base J5.hok J5.bare fun b hb=>⟨(f2 b hb).2.2.2.1,(f2 b hb).2.1,(f2 b hb).2.2.2.2.1,(f2 b hb).2.2.2.2.2⟩;obtain⟨m,hm,_⟩:=J5.loc;exact fin p _ H4 s5 hX ⟨m,hm⟩ (by rw[sz3];exact lt_succ_self _) J5.free qn
   refine thn (T.item (cxX XE X (capN X.N tgs js) scope cl s3.heap.objs.size fp s3 H3 (X.pn++pins)) rfl rfl rfl hc i [] s4 σ4 H4 _ J4 (stat fr4) st4 go) fun r s5 ⟨u,hr,h5⟩=>.inr ⟨u,hr,?_⟩;refine thn h5 fun _ s6 ⟨x,H6,J6,r6,y6,st6,fr6⟩=>?_;have J6':=J6.pinned (stat fr6) (T.obj _ _ st6);refine thn (hg _ _ _ _ _ _ _ s6 σ4 H6 x u _ J6' r6 (step x H6 y6)) fun _ s7 ⟨σ7,H7,J7,q7⟩=>?_;refine thn (ht _ _ _ _ _ _ _ s7 σ7 H7 _ J7 q7) fun ok8 s8 ⟨H8,J8,q8⟩=>?_;have again:∀{s9:Shared}{H9:Hp},Inv (cxX XE X (capN X.N tgs js) scope cl s3.heap.objs.size fp s3 H3 (X.pn++pins)) ([]++zdO fp s6.heap) σ7 H9 s9->N σ7 H9->
     ∃m,m<n/\∃i σ' H',Inv (cxX XE X (capN X.N tgs js) scope cl s3.heap.objs.size fp s3 H3 (X.pn++pins)) [] σ' H' s9/\tn i s9.heap/\(∀b∈fp,H' b=none)/\W i m σ' H':=fun {s9 H9} J9 n9=>by
    obtain⟨m',hm,w9⟩:=hN σ7 H9 n9;refine⟨m',hm,i+1,σ7,H9,J9.unpinned,T.keep _ _ _ st6 fun b hb o e=>(J9.pin (b,o) (mem_append_right _ (mem_append_right _ (zby hb e)))).1,fun b hb=>?_,w9⟩;obtain⟨o,e,d⟩:=T.obj _ _ st6 b hb;exact(J9.pin (b,o) (mem_append_right _ (mem_append_right _ (zby hb e)))).2.1
   cases ok8 with|false=>exact again J8 q8| true=>refine thn (he _ _ _ _ _ _ _ s8 σ7 H8 _ J8 q8) fun y s9 ⟨v,H9,J9,r9,acc,ha,hl,q9⟩=>?_;refine thn (zdR _ s9 σ7 H9 (.ref p) [v] (.ref p) [y] (fun _ H=>N σ7 H) J9 rfl (.cons r9 .nil) ⟨p,acc,v,rfl,rfl,ha,hl,q9⟩) fun _ s10 ⟨_,H10,J10,_,q10⟩=>?_;exact again J10 q10
  exact codeAny_compStart_list loop (T.self _ 0 _ _ _ st4 loop)
theorem zcP(hc:X.calm=true)(hsc:X.env.scope=sc)(ok:CompOk sc scope X.N js)
  (hg:∀cl C fp s H pn,PG (zar X (capN X.N tgs js) scope cl C fp s H pn) tg g)
  (ht:∀cl C fp s H pn,PTs (zar X (capN X.N tgs js) scope cl C fp s H pn) ifs tt)
  (he:∀cl C fp s H pn,PE (zar X (capN X.N tgs js) scope cl C fp s H pn) elt te)
 {σ:St} {RR:Value->Addr->Result->Shared->Prop} {Q:VK}
   (I2:Inv X pins σ H2 s2) (T:Turn X.prog X.w X.K tg J fp it tn) (st2:tn 0 s2.heap) (f2:∀b∈fp,FpOk X pins H2 b)
   (rd:∀p,H2 p=none->∃W:Nat->Nat->St->Hp->Prop,(∃m,W 0 m (csl tgs.length js σ) (upd H2 p (.lst [])))/\∀i m σ' H',W i m σ' H'->
    (J.stop i H'/\Q (.ref p) H')\/(J.go i H'/\∃N:St->Hp->Prop,(∀σ2 H2,N σ2 H2->∃m',m'<m/\W (i+1) m' σ2 H2)/\
     ∀x H2,J.yld i H' x H2->g x σ' H2 fun σ2 H3=>tt σ2 H3 fun b H4=>if b=true then te σ2 H4 fun v H5=>∃acc,H5 p=some (.lst acc)/\acc.length<sizeLine/\N σ2 (upd H5 p (.lst (acc++[v]))) else N σ2 H4))
   (fin:∀p C H' s',Inv X pins σ H' s'->(∃m,s'.heap.Ns C m)->s2.heap.objs.size<C->H' C=none->Q (.ref p) H'->RR (.ref p) C (.ok .next) s') :
   wpAny (model X.prog X.w) X.A (newList []) (fun acc s₃=>wpAny (model X.prog X.w) X.A (newFunctionEnv scope X.env.globals (zd3 X.env.cells scope.names []) [] X.env.qual none .none (some X.env)) (fun cenv s₄=>codeAny (model X.prog X.w) X.A (.compStart (.ListComp elt [⟨tg,iter,ifs,0⟩] scope pos) 0 (.ref it) acc {cenv with scope:=relabel scope X.env}) (RR acc cenv.locals) s₄) E s₃) E s2:=
  zbG (fun _ _ _=>False) hc hsc ok hg ht he I2 T st2 f2 rd fin fun _ _ _ _ _ _ _ _ _ _ z=>z.elim
theorem zhR(sc:Scope)(tgs:List Str)(js:List Nat)(hc:X.calm=true)(hsc:X.env.scope=sc)(ok:CompOk sc scope X.N js)(hi:PI X tg iter wi)
  (hg:∀cl C fp s H pn,PG (zar X (capN X.N tgs js) scope cl C fp s H pn) tg g)
  (ht:∀cl C fp s H pn,PTs (zar X (capN X.N tgs js) scope cl C fp s H pn) ifs tt)
  (he:∀cl C fp s H pn,PE (zar X (capN X.N tgs js) scope cl C fp s H pn) elt te)
  (hs:∀x,foldedSetIterable iter X.env x=pure x:=by intro _;rfl) :
  PE X (.ListComp elt [⟨tg,iter,ifs,0⟩] scope pos) (zeg tgs.length js wi g tt te):=by
 intro pins s σ H Q I h;have frees:∀y∈scope.names,y.2=.free->∃c,X.env.cells.lookup y.1=some c:=fun y hy hk=>I.ok.has y.1 (by
  have q:=ok.frees y hy hk;rw[<-hsc]at q;exact q)
 refine wpAny_comprehension_free rfl hs (zaB frees) ok.kind ok.locs (thn (hi pins s σ H _ I h) fun v s1 h1=>thn h1 fun itv s2 h2=>?_);obtain⟨it,fp,tn,J,H2,e,I2,T,st2,f2,rd⟩:=h2;subst e;refine zcP hc hsc ok hg ht he I2 T st2 f2 rd fun p C H' s' I' hm hC hn q=>?_;obtain⟨m,hm⟩:=hm;refine⟨m,hm,fun h' hs'=>⟨.ref p,H',?_,rfl,q⟩⟩;exact I'.turned (t':=s'.toks) (fun b o hb e=>(hs'.2 b hb).trans e) hn (ne_of_gt (lt_trans I2.lt hC)) (.inr (le_trans I2.sz (le_of_lt hC))) (fun x c e=>by obtain⟨v,o,ho,_⟩:=I2.cell x c e;exact ne_of_lt (lt_trans (Heap.lt_size ho) hC)) fun q hq=>ne_of_lt (lt_trans (Heap.lt_size (I2.pin q hq).1) hC)
theorem zjT(sc:Scope)(tgs:List Str)(js:List Nat){py spos:Pos}(hN:X.N.Nodup)(hi':X.N[i]?=some y)(hy:Loc X.env.scope y)(hc:X.calm=true)(hsc:X.env.scope=sc)(ok:CompOk sc scope X.N js)(hi:PI X tg iter wi)
  (hg:∀cl C fp s H pn,PG (zar X (capN X.N tgs js) scope cl C fp s H pn) tg g)
  (ht:∀cl C fp s H pn,PTs (zar X (capN X.N tgs js) scope cl C fp s H pn) ifs tt)
  (he:∀cl C fp s H pn,PE (zar X (capN X.N tgs js) scope cl C fp s H pn) elt te)
  (hsw:swapsWith (.ListComp elt [⟨tg,iter,ifs,0⟩] scope pos) (some (.Name y py)) spos.line X.env=pure true:=by rfl)
  (hs:∀x,foldedSetIterable iter X.env x=pure x:=by intro _;rfl)
  (hf:X.fn y=true\/X.env.scope.names.lookup y=some .local:=by first|exact .inl rfl|exact .inr rfl|assumption) :
  PS X (.Assign [.Name y py] (.ListComp elt [⟨tg,iter,ifs,0⟩] scope pos) spos) (tAsg (zeg tgs.length js wi g tt te) (zdX i)):=by
 intro pins s σ H D I h;have frees:∀y∈scope.names,y.2=.free->∃c,X.env.cells.lookup y.1=some c:=fun y hy hk=>I.ok.has y.1 (by
  have q:=ok.frees y hy hk;rw[<-hsc]at q;exact q)
 rw[exec_Assign_Name_used _ _ _ _ hsw];refine wpAny_bind (wpAny_standAt (wpAny_bind ?_));refine wpAny_bind (wpAny_mono (wpAny_comprehension_free rfl hs (zaB frees) ok.kind ok.locs
  (thn (hi pins s σ H _ I h) fun v s1 h1=>thn h1 fun itv s2 h2=>?_)) (fun _ s' hq=>wpAny_pure (wpAny_pure hq)) fun _ _ e=>e)
 obtain⟨it,fp,tn,J,H2,e,I2,T,st2,f2,rd⟩:=h2;subst e;refine zcP hc hsc ok hg ht he I2 T st2 f2 rd (Q:=fun x H1=>zdX i x σ H1 D.nx) fun p C H' s' I' hm hC hn q=>?_;obtain⟨m,hm⟩:=hm;have hL:C≠X.env.locals:=ne_of_gt (lt_trans I2.lt hC);have hCc:∀x c,X.env.cells.lookup x=some c->c≠C:=fun x c e=>by obtain⟨v,o,ho,_⟩:=I2.cell x c e;exact ne_of_lt (lt_trans (Heap.lt_size ho) hC)
 refine wpAny_assign_Name (zcg I' hN hi' hy (v:=.ref p) rfl (fun s'' I'' hch=>?_) hf);obtain⟨a,hsb,ha⟩:=hch;have hCa:C≠a:=by rcases ha with z|z;rw[z];exact hL;exact fun e=>hCc y a z e.symm
 refine⟨m,hm.sameBut hsb hCa,fun h' hs'=>⟨σ.set i (some (.ref p)),H',?_,q⟩⟩;exact I''.turned (t':=s''.toks) (fun b o hb e=>(hs'.2 b hb).trans e) hn hL (.inr (le_trans I2.sz (le_of_lt hC))) hCc fun q hq=>ne_of_lt (lt_trans (Heap.lt_size (I2.pin q hq).1) hC)
end
structure FunV(K:PySem.W.Frag)(x qual:Str)(st:Stmt)(dV:Value)(f:Addr)(fd:FuncData):Prop where
 ex:∃(oc:Value) (od:Option Addr) (kV doc pm:Value) (an:Option Addr) (cdv ct:Value) (osl:Array (Option Value)),
  fd=fnOf x qual (zaJ st) (zam st) (zae st) dV kV doc pm an cdv ct/\K.lookup f=some ⟨oc,od,.func fd,osl⟩/\codeIn K cdv qual=true
 kp:keepIn K (.ref f)=true
theorem zex{K:PySem.W.Frag}{st:Stmt}{dV kV doc pm cdv ct:Value}(l:K.lookup f=some ⟨oc,od,.func (fnOf x qual (zaJ st) (zam st) (zae st) dV kV doc pm an cdv ct),osl⟩)
 (c:codeIn K cdv qual=true) (k:keepIn K (.ref f)=true):FunV K x qual st dV f (fnOf x qual (zaJ st) (zam st) (zae st) dV kV doc pm an cdv ct):=⟨⟨oc,od,kV,doc,pm,an,cdv,ct,osl,rfl,l,c⟩,k⟩
section
variable{P:Program}{w:World}{K:PySem.W.Frag}{mg:Str->Option Value}{base:Heap}
theorem FunV.ok{st:Stmt}(F:FunV K x qual st dV f fd)(S:FnScope N ps (zae st))(len:∀vs H Q E,sp vs H Q E->vs.length=ps.length)
  (hbody:∀(cdv:Value)(A:Around)(outer:List Env)(s:Shared)(H:Hp)(vs:List V)(Q:VK)(E:XK),Room k (A.deeper (envOfC qual (zae st) s.heap.objs.size f cdv))->sp vs H Q E->
   ∃t,PSs (cxOf CX0 P w K mg base N qual (zae st) f cdv A outer s H E).nox (zam st) t/\t {nx:=fun _ H'=>Q .non H',rt:=Q} (start N vs) H):FnOk P w K mg base CX0 (k+1) f fd ps sp:=by
 obtain⟨oc,od,kV,doc,pm,an,cdv,ct,osl,rfl,lk,hcd⟩:=F.ex;refine zmy lk hcd S len fun A outer s H vs Q E hr hsp=>?_;obtain⟨t,h,q⟩:=hbody cdv A outer s H vs Q E hr hsp;exact⟨t,h.nox,q⟩
theorem FunV.binds{st:Stmt}(F:FunV K x qual st dV f fd)
  (h:∀(kV doc pm:Value)(an:Option Addr)(cdv ct:Value)(us:List Value),us.length=ps.length->bindArgs (fnOf x qual (zaJ st) (zam st) (zae st) dV kV doc pm an cdv ct) ⟨us,[]⟩=pure (ps.zip us)):Binds K fd ps []:=by
 obtain⟨oc,od,kV,doc,pm,an,cdv,ct,osl,rfl,lk,hcd⟩:=F.ex;exact .all (h kV doc pm an cdv ct)
structure Has(P:Program)(w:World)(K:PySem.W.Frag)(mg:Str->Option Value)(base:Heap)(k:Nat)(x:Str)(ps:List Str)(dvs:List V)(sp:Sp):Prop where
 ex:∃(f:Addr) (fd:FuncData) (ds:List Value),FnOk P w K mg base CX0 k f fd ps sp/\mg x=some (.ref f)/\keepIn K (.ref f)=true/\Binds K fd ps ds/\Vals dvs ds
end
theorem znL{p pos:Pos}(G:Has X.prog X.w X.K X.mg X.base k x ps dvs sp)(hr:Room k X.A)(ha:PA X (e::es) t)(hg:Gl X x:=by rfl)
  (hdb:(x==("__debug__":Str))=false:=by decide) (he:starEach (e::es) X.env=(false,eval e X.env)::starEach es X.env:=by rfl) (hpl:(backTo pos (starEach es X.env)).any (·.1)=false:=by rfl) :
  PE X (.Call (.Name x p) (e::es) [] pos) (zfY sp dvs E0 t):=by
 obtain⟨f,fd,ds,F,hm,hk,hb,hd⟩:=G.ex;exact zj0 F hr hg hm hk hb hd zhW ha hdb he hpl
theorem zl7{p pos:Pos}(G:Has X.prog X.w X.K X.mg X.base k x ps dvs sp)(hr:Room k X.A)(hg:Gl X x:=by rfl)
  (hdb:(x==("__debug__":Str))=false:=by decide):PE X (.Call (.Name x p) [] [] pos) (zfY sp dvs E0 tNil):=by
 obtain⟨f,fd,ds,F,hm,hk,hb,hd⟩:=G.ex;exact zhV F hr hg hm hk hb hd zhW hdb
mutual
def Rep(H:Hp):PyData->V->Prop
 |.none,v=>v=.non|.bool b,v=>v=.bl b|.int i,v=>v=.int i|.str x,v=>v=.str x|.list ds,v=>∃a vs,v=.ref a/\H a=some (.lst vs)/\RepAll H ds vs|.tuple ds,v=>∃a vs,v=.ref a/\H a=some (.tup vs)/\RepAll H ds vs|.dict _,_=>False
def RepAll(H:Hp):List PyData->List V->Prop
 | [],vs=>vs=[]|d::ds,vs=>∃v r,vs=v::r/\Rep H d v/\RepAll H ds r
end
mutual
noncomputable def imm:PyData->Bool
 |.none=>true|.bool _=>true|.int _=>true|.str _=>true|.list _=>false|.tuple ds=>zdW ds|.dict _=>false
noncomputable def zdW:List PyData->Bool
 | []=>true|d::ds=>imm d&&zdW ds
end
def Tups(H H':Hp):Prop:=∀b xs,H b=some (.tup xs)->H' b=some (.tup xs)
theorem Tups.refl(H:Hp):Tups H H:=fun _ _ h=>h
theorem Tups.trans(a:Tups H H1)(b:Tups H1 H2):Tups H H2:=fun c xs h=>b c xs (a c xs h)
theorem Tups.upd(h:∀xs,H p≠some (.tup xs)):Tups H (upd H p o):=fun b xs e=>by
 have hb:b≠p:=fun z=>by subst z;exact h xs e
 rw[zaf hb];exact e
theorem Tups.upd_lst(h:H p=some (.lst xs)):Tups H (L2.upd H p o):=Tups.upd fun ys e=>by rw[h]at e;cases e
theorem Tups.upd_new(h:H p=none):Tups H (L2.upd H p o):=Tups.upd fun ys e=>by rw[h]at e;cases e
mutual
theorem Rep.same{H H':Hp}(hs:Same H H'):∀{d:PyData}{v:V},Rep H d v->Rep H' d v
 |.none,_,h=>h|.bool _,_,h=>h|.int _,_,h=>h|.str _,_,h=>h| .list ds,v,h=>by obtain⟨a,vs,e,ha,r⟩:=h;exact⟨a,vs,e,hs _ _ ha,RepAll.same hs r⟩| .tuple ds,v,h=>by obtain⟨a,vs,e,ha,r⟩:=h;exact⟨a,vs,e,hs _ _ ha,RepAll.same hs r⟩|.dict _,_,h=>h
theorem RepAll.same{H H':Hp}(hs:Same H H'):∀{ds:List PyData}{vs:List V},RepAll H ds vs->RepAll H' ds vs
 | [],_,h=>h| d::ds,vs,h=>by obtain⟨v,r,e,h1,h2⟩:=h;exact⟨v,r,e,Rep.same hs h1,RepAll.same hs h2⟩
end
mutual
theorem Rep.tups{H H':Hp}(hs:Tups H H'):∀{d:PyData}{v:V},imm d=true->Rep H d v->Rep H' d v
 |.none,_,_,h=>h|.bool _,_,_,h=>h|.int _,_,_,h=>h|.str _,_,_,h=>h|.list ds,v,i,h=>by simp[imm]at i| .tuple ds,v,i,h=>by obtain⟨a,vs,e,ha,r⟩:=h;exact⟨a,vs,e,hs _ _ ha,RepAll.tups hs (by simpa[imm]using i) r⟩|.dict _,_,_,h=>h
theorem RepAll.tups{H H':Hp}(hs:Tups H H'):∀{ds:List PyData}{vs:List V},zdW ds=true->RepAll H ds vs->RepAll H' ds vs
 | [],_,_,h=>h| d::ds,vs,i,h=>by
  obtain⟨v,r,e,h1,h2⟩:=h;have i':imm d=true/\zdW ds=true:=by simpa[zdW]using i
  exact⟨v,r,e,Rep.tups hs i'.1 h1,RepAll.tups hs i'.2 h2⟩
end
mutual
theorem Rep.reads{X:Cx}{pins:List (Addr×Obj)}{σ:St}{H:Hp}{s:Shared}(I:Inv X pins σ H s):∀(d:PyData)(v:V)(u:Value),Rep H d v->RelV v u->∃as,Reads s.heap u d as
 |.none,v,u,h,r=>by cases(show v=.non from h);cases(show u=Value.none from r);exact⟨_,.none⟩| .bool b,v,u,h,r=>by cases(show v=.bl b from h);cases(show u=Value.bool b from r);exact⟨_,.bool b⟩| .int i,v,u,h,r=>by cases(show v=.int i from h);obtain⟨t,rfl⟩:=(show ∃t,u=Value.int i t from r);exact⟨_,.int i t⟩| .str x,v,u,h,r=>by cases(show v=.str x from h);obtain⟨t,rfl⟩:=(show ∃t,u=Value.str x t from r);exact⟨_,.str x t⟩| .list ds,v,u,h,r=>by obtain⟨a,vs,rfl,ha,hr⟩:=h;cases(show u=Value.ref a from r);obtain⟨its,n,rv,e,_⟩:=I.lst ha;obtain⟨as,q⟩:=RepAll.reads I ds vs its hr rv;exact⟨_,.list e rfl rfl q⟩| .tuple ds,v,u,h,r=>by obtain⟨a,vs,rfl,ha,hr⟩:=h;cases(show u=Value.ref a from r);obtain⟨its,rv,⟨o,e1,e2,n,e3⟩,_⟩:=I.tuple (SqT.of (K:=X.K) ha);obtain⟨as,q⟩:=RepAll.reads I ds vs its hr rv;exact⟨_,.tuple e1 e2 e3 q⟩|.dict _,_,_,h,_=>False.elim h
theorem RepAll.reads{X:Cx}{pins:List (Addr×Obj)}{σ:St}{H:Hp}{s:Shared}(I:Inv X pins σ H s):∀(ds:List PyData)(vs:List V)(us:List Value),RepAll H ds vs->Vals vs us->∃as,ReadsAll s.heap us ds as
 | [],vs,us,h,r=>by cases(show vs=[] from h);cases r;exact⟨_,.nil⟩| d::ds,vs,us,h,r=>by obtain⟨v,vr,rfl,h1,h2⟩:=h;cases r with| cons r1 r2=>obtain⟨as,q1⟩:=Rep.reads I d v _ h1 r1;obtain⟨bs,q2⟩:=RepAll.reads I ds vr _ h2 r2;exact⟨_,.cons q1 q2⟩
end
section
variable{X:Cx}
def rEqD(g:Bool->Bool):R2:=fun x y H Q=>∃da db,Rep H da x/\Rep H db y/\da.canLay0=true/\db.canLay0=true/\min da.depth db.depth<=60/\Q (.bl (g (PyData.eqv da db))) H
theorem zme(hu:X.A.units+64<cLine):OpR X (compareOp .Eq) (rEqD id):=by intro pins s σ H x y v u Q I rx ry h;obtain⟨da,db,h1,h2,l1,l2,hd,q⟩:=h;obtain⟨as,r1⟩:=Rep.reads I da x v h1 rx;obtain⟨bs,r2⟩:=Rep.reads I db y u h2 ry;exact SeqAt.compareEq_reads r1 r2 l1 l2 (by omega) (zaj I q rfl)
theorem zmb(hu:X.A.units+64<cLine):OpR X (compareOp .NotEq) (rEqD not):=by intro pins s σ H x y v u Q I rx ry h;obtain⟨da,db,h1,h2,l1,l2,hd,q⟩:=h;obtain⟨as,r1⟩:=Rep.reads I da x v h1 rx;obtain⟨bs,r2⟩:=Rep.reads I db y u h2 ry;exact SeqAt.compareNe_reads r1 r2 l1 l2 (by omega) (zaj I q rfl)
noncomputable def zb1(H:Hp):V->Option String
 |.non=>some "NoneType"|.bl _=>some "bool"|.int _=>some "int"|.str _=>some "str"
 |.ref a=>match H a with
  |some (.lst _)=>some "list"|some (.frz _ (.lst _))=>some "list"|some (.tup _)=>some "tuple"|some (.dK _)=>some "dict"|some (.dT _)=>some "dict"|_=>none
 |_=>none
theorem zfT{K:PySem.W.Frag}(h:zb1 H x=some a):TyOf K H x (.type a):=by
 cases x with
 |non=>cases h;exact .non|bl b=>cases h;exact .bl b|int i=>cases h;exact .int i|str y=>cases h;exact .str y|byt _=>cases h
 |flt _=>cases h
 |ty _=>cases h
 |ref p=>
  unfold zb1 at h;cases e:H p with
  |none=>simp[e]at h| some o=>
   cases o with
   |lst xs=>simp[e]at h;subst h;exact .lst e|tup xs=>simp[e]at h;subst h;exact .tup e|dK kvs=>simp[e]at h;subst h;exact .dK e|dT kvs=>simp[e]at h;subst h;exact .dT e| frz ob q=>cases q with|lst xs=>simp[e]at h;subst h;exact .frz e|_=>simp[e]at h
   |_=>simp[e]at h
noncomputable def subT(a b:String):Bool:=a==b||(a=="bool"&&b=="int")
theorem zkf(K:PySem.W.Frag)(ha:a∈["NoneType","bool","int","str","list","tuple","dict"])(hb:b∈["bool","int","str","list","tuple","dict"]):kitOne K (.type a) (.type b)=some (subT a b):=by simp at ha hb;rcases ha with rfl|rfl|rfl|rfl|rfl|rfl|rfl<;>rcases hb with rfl|rfl|rfl|rfl|rfl|rfl<;>rfl
theorem zfs(h:zb1 H x=some a):a∈["NoneType","bool","int","str","list","tuple","dict"]:=by
 cases x with
 |non=>cases h;simp|bl b=>cases h;simp|int i=>cases h;simp|str y=>cases h;simp|byt _=>cases h
 |flt _=>cases h
 |ty _=>cases h
 |ref p=>unfold zb1 at h;simp only at h;split at h<;>first|(cases h;simp)|cases h
theorem zeA:zba X (.builtin "isinstance") (fun xs H Q=>∃x c a,xs=[x,.ty c]/\zb1 H x=some a/\c∈["bool","int","str","list","tuple","dict"]/\Q (.bl (subT a c)) H):=by intro pins s σ H xs us Q I r h;obtain⟨x,c,a,rfl,hx,hc,q⟩:=h;obtain⟨u,w',rfl,rx,rc⟩:=zhs r;cases rc;exact zgI I rx (zfT hx) (zkf X.K (zfs hx) hc) fun tk=>⟨.bl (subT a c),H,I.tok tk,rfl,q⟩
end
section
variable{X:Cx}(K:PySem.W.Frag)(hK:X.K=K)
include hK
end
end L2
namespace TM
structure Good(m:Nat)(wo:Option Int)(s:Int)(n:Nat)(p:List Int):Prop where
 len:p.length=n
 head:p.head?=some s
 nd:p.Nodup
 rng:∀h∈p,0<=h/\h<m/\wo≠some h
end TM
namespace L2
open PySem PySem.Spec PyProof.Rows
theorem zhd:bootBuiltins "len"=some (.builtin "len"):=by decide +kernel
theorem zmY:bootBuiltins "abs"=some (.builtin "abs"):=by decide +kernel
theorem zmX:bootBuiltins "all"=some (.builtin "all"):=by decide +kernel
theorem zbk:bootBuiltins "isinstance"=some (.builtin "isinstance"):=by decide +kernel
theorem zky:bootBuiltins "bool"=some (.type "bool"):=by decide +kernel
theorem zeD:bootBuiltins "list"=some (.type "list"):=by decide +kernel
theorem zfq:bootBuiltins "tuple"=some (.type "tuple"):=by decide +kernel
theorem zkx:bootBuiltins "dict"=some (.type "dict"):=by decide +kernel
theorem zmW:bootBuiltins "set"=some (.type "set"):=by decide +kernel
end L2
namespace R
end R
namespace R
open PySem (Str PyData Operator CmpOp)
inductive D where
 |non|bl (b:Bool)|int (i:Int)|str (x:Str)|tup (ds:List D)|ref (l:Nat)
 |fix (ds:List D)
inductive MO where
 |lst (ds:List D)|ins (c:Nat) (fs:List (Str×D))
 |exc (c:Nat) (fs:List (Str×D))
structure St where
 frz:List MO
 new:List MO
 lk:List Nat
inductive Out(α:Type) where
 |ok (a:α) (S:St)
 |err (d:D) (S:St)
 |bad
noncomputable def Out.bind(o:Out α)(f:α->St->Out β):Out β:=match o with|.ok a S=>f a S|.err d S=>.err d S|.bad=>.bad
noncomputable def Out.ne:Out α->Out α
 |.ok a S=>.ok a S|_=>.bad
noncomputable def lift(S:St):Option α->Out α
 |some a=>.ok a S|none=>.bad
namespace St
noncomputable def get(S:St)(l:Nat):Option MO:=if l<S.frz.length then S.frz[l]? else S.new[l-S.frz.length]?
noncomputable def len(S:St):Nat:=S.frz.length+S.new.length
noncomputable def push(S:St)(o:MO):St:={S with new:=S.new++[o]}
noncomputable def put(S:St)(l:Nat)(o:MO):Option St:=if l<S.frz.length then none else if S.lk.contains l then none else some {S with new:=S.new.set (l-S.frz.length) o}
noncomputable def enter(S:St):St:=⟨S.frz++S.new,[],[]⟩
end St
noncomputable def lay(S:St)(ds:List D):Out D:=if ds.length<=16777216 then .ok (.ref S.len) (S.push (.lst ds)) else .bad
noncomputable def wr(S:St)(l:Nat)(ds:List D)(d:D):Out D:=if ds.length<=16777216 then(match S.put l (.lst ds) with|some S'=>.ok d S'|none=>.bad) else .bad
noncomputable def pd(S:St):Nat->D->Option PyData
 |_,.non=>some .none|_,.bl b=>some (.bool b)|_,.int i=>some (.int i)|_,.str x=>if PySem.PyData.strOk x then some (.str x) else none|n+1,.tup ds=>(ds.mapM (pd S n)).map PyData.tuple
 |n+1,.ref l=>match S.get l with
  |some (.lst ds)=>(ds.mapM (pd S n)).map PyData.list|_=>none
 |_,.fix _=>none|0,_=>none
mutual
noncomputable def flat(n:Nat):D->Bool
 |.tup ds=>flats n ds|.ref l=>decide (l<n)|.fix ds=>flats n ds|_=>true
noncomputable def flats(n:Nat):List D->Bool
 | []=>true|d::ds=>flat n d&&flats n ds
end
noncomputable def zbe(S:St):D->Option (List D)
 |.tup ds=>some ds|.fix ds=>some ds
 |.ref l=>match S.get l with
  |some (.lst ds)=>some ds|_=>none
 |_=>none
noncomputable def lkOf(S:St):D->List Nat
 |.ref l=>[l]|_=>[]
noncomputable def tru(S:St):D->Option Bool
 |.non=>some false|.bl b=>some b|.int i=>some (i != 0)|.tup ds=>some (!ds.isEmpty)
 |.ref l=>match S.get l with
  |some (.lst ds)=>some (!ds.isEmpty)|_=>none
 |_=>none
noncomputable def tyOf(S:St):D->Option String
 |.non=>some "NoneType"|.bl _=>some "bool"|.int _=>some "int"|.str _=>some "str"|.tup _=>some "tuple"
 |.ref l=>match S.get l with
  |some (.lst _)=>some "list"|_=>none
 |.fix _=>none
noncomputable def ixN(n:Nat)(i:Int):Option Nat:=if 0<=i then(if i<n then some i.toNat else none) else if -(n:Int)<=i then some (i+n).toNat else none
noncomputable def atI{α:Type}(xs:List α)(i:Int):Option α:=(ixN xs.length i).bind fun j=>xs[j]?
noncomputable def sIx(n d:Nat):Option Int->Nat
 |none=>d|some i=>if i<0 then(i+n).toNat else min i.toNat n
noncomputable def cut{α:Type}(xs:List α)(lo hi:Option Int):List α:=(xs.drop (sIx xs.length 0 lo)).take (sIx xs.length xs.length hi-sIx xs.length 0 lo)
noncomputable def zeu:D->Option Int
 |.int i=>some i|_=>none
noncomputable def zaE(m:Bool)(d:D):Option (Option Int):=if m then(match d with|.int i=>some (some i)|_=>none) else some none
noncomputable def zgw(i j:Int):Bool:=decide (-(2^64)<i/\i<2^64)||decide (-(2^64)<j/\j<2^64)
noncomputable def binI(S:St)(op:Operator)(i j:Int):Out D:=match op with|.Add=>.ok (.int (i+j)) S|.Sub=>.ok (.int (i-j)) S|.Mult=>if zgw i j then .ok (.int (i*j)) S else .bad|.FloorDiv=>if 0<j/\j<1073741824 then .ok (.int (i/j)) S else .bad|.Mod=>if 0<j then .ok (.int (i%j)) S else .bad|.Pow=>if 0<=j/\j<=1000000/\-18446744073709551616<i/\i<18446744073709551616 then .ok (.int (i^j.toNat)) S else .bad|_=>.bad
noncomputable def binD(S:St)(op:Operator)(x y:D):Out D:=match x,y with|.int i,.int j=>binI S op i j|.tup xs,.tup ys=>(match op with|.Add=>if xs.length+ys.length<=16777216 then .ok (.tup (xs++ys)) S else .bad|_=>.bad)|.ref a,.ref b=>(match op,S.get a,S.get b with|.Add,some (.lst xs),some (.lst ys)=>lay S (xs++ys)|_,_,_=>.bad)|_,_=>.bad
noncomputable def eqD(S:St)(x y:D):Option Bool:=(pd S 60 x).bind fun a=>(pd S 60 y).map fun b=>PyData.eqv a b
noncomputable def inD(S:St)(x:D)(ys:List D):Option Bool:=(ys.mapM fun z=>eqD S z x).map fun bs=>bs.any id
noncomputable def zcR(ds:List D):Option (List Int):=ds.mapM zeu
noncomputable def cmpI(op:CmpOp)(i j:Int):Option Bool:=match op with|.Eq=>some (decide (i=j))|.NotEq=>some (!decide (i=j))|.Lt=>some (decide (i<j))|.LtE=>some (decide (i<=j))|.Gt=>some (decide (j<i))|.GtE=>some (decide (j<=i))|_=>none
noncomputable def zkg:D->Bool|.non=>true|_=>false
noncomputable def cmpO(S:St)(op:CmpOp)(x y:D):Option Bool:=match op with|.Eq=>eqD S x y|.NotEq=>(eqD S x y).map (!·)|.Is=>(match y with|.non=>some (zkg x)|_=>none)|.IsNot=>(match y with|.non=>some (!zkg x)|_=>none)|.In=>(zbe S y).bind fun ys=>inD S x ys|.NotIn=>((zbe S y).bind fun ys=>inD S x ys).map (!·)|_=>none
noncomputable def cmpD(S:St)(op:CmpOp)(x y:D):Option Bool:=match x,y with|.int i,.int j=>cmpI op i j|_,_=>cmpO S op x y
inductive Bi where
 |len|abs|isin (t:String)
inductive Mt where
 |append
noncomputable def bi(S:St):Bi->List D->Out D
 |.len,[x]=>(match x with
  |.tup ds=>.ok (.int ds.length) S|.fix ds=>.ok (.int ds.length) S|.ref l=>(match S.get l with|some (.lst ds)=>.ok (.int ds.length) S|_=>.bad)|_=>.bad)
 |.abs,[.int i]=>.ok (.int (if i<0 then -i else i)) S|.isin t,[x]=>(match tyOf S x with|some a=>.ok (.bl (a==t||(a=="bool"&&t=="int"))) S|none=>.bad)|_,_=>.bad
noncomputable def isL(S:St):D->Bool
 |.ref l=>(match S.get l with|some (.lst _)=>true|_=>false)|_=>false
noncomputable def mt(S:St):Mt->D->List D->Out D
 |.append,.ref l,[y]=>(match S.get l with|some (.lst ds)=>wr S l (ds++[y]) .non|_=>.bad)|_,_,_=>.bad
noncomputable def zdV(S:St)(x y z:D):Out D:=match x,y with
 |.ref l,.int i=>(match S.get l with
  |some (.lst ds)=>if 0<=i/\i<=ds.length then wr S l (ds.take i.toNat++z::ds.drop i.toNat) .non else .bad|_=>.bad)
 |_,_=>.bad
noncomputable def dPut(S:St)(x y v:D):Option St:=match x with
 |.ref l=>(match S.get l with
  |some (.lst ds)=>(zeu y).bind fun i=>(ixN ds.length i).bind fun j=>S.put l (.lst (ds.set j v))|_=>none)
 |_=>none
noncomputable def zoh(S:St):D->Option (Nat×List (Str×D))
 |.ref l=>(match S.get l with|some (.ins c fs)=>some (c,fs)|_=>none)|_=>none
noncomputable def zhF(f:Str)(v:D):List (Str×D)->List (Str×D)
 | []=>[(f,v)]|(g,x)::r=>if g=f then(g,v)::r else(g,x)::zhF f v r
noncomputable def zbm(S:St)(x:D)(f:Str)(v:D):Option St:=match x with|.ref l=>(match S.get l with|some (.ins c fs)=>if fs.length<1000 then S.put l (.ins c (zhF f v fs)) else none|_=>none)|_=>none
noncomputable def zbo(S:St):D->Option (Nat×List (Str×D))
 |.ref l=>(match S.get l with|some (.exc c fs)=>some (c,fs)|_=>none)|_=>none
noncomputable def zgL:D->Bool|.non=>true|_=>false
inductive Tx where
 |sw (c:Nat)|spl|joi|int|str|ix|inn|add|mul|len|sl (ml mh:Bool)
def tS(l:List Nat):D:=.str ⟨l.toArray⟩
noncomputable def splL(c:Nat):List Nat->List (List Nat)
 | []=>[[]]| a::r=>if a=c then []::splL c r else match splL c r with|p::ps=>(a::p)::ps| []=>[[a]]
noncomputable def joiL(c:Nat):List (List Nat)->List Nat
 | []=>[]| [x]=>x|x::r=>x++c::joiL c r
noncomputable def txtL:D->Option (List Nat)
 |.str x=>some x.cps.toList|_=>none
noncomputable def figL(l:List Nat):List Nat:=if l.head?=some 45 then l.tail else l
noncomputable def zbA(c:Nat):Bool:=decide (48<=c/\c<=57)
noncomputable def valN(l:List Nat):Nat:=l.foldl (fun a c=>a*10+(c-48)) 0
noncomputable def valZ(l:List Nat):Int:=if l.head?=some 45 then -(valN l.tail:Int) else valN l
noncomputable def zcb(l:List Nat):Bool:=decide (1<=(figL l).length/\(figL l).length<=60)&&(figL l).all zbA
noncomputable def zbF(i:Int):List Nat:=(if i<0 then [45] else [])++(Nat.toDigits 10 i.natAbs).map Char.toNat
noncomputable def txD(S:St):Tx->List D->Out D
 |.sw c,[.str x]=>.ok (.bl (x.cps.toList.head?==some c)) S|.spl,[.str x]=>if x.cps.size<=1000000 then lay S ((splL 46 x.cps.toList).map tS) else .bad
 |.joi,[.ref l]=>(match S.get l with
  |some (.lst ds)=>(match ds.mapM txtL with
   |some xs=>if(joiL 46 xs).length<=1000000 then .ok (tS (joiL 46 xs)) S else .bad|none=>.bad)
  |_=>.bad)
 |.int,[.str x]=>if zcb x.cps.toList then .ok (.int (valZ x.cps.toList)) S else .bad|.str,[.int i]=>if i.natAbs<10^70 then .ok (tS (zbF i)) S else .bad|.ix,[.str x,.int i]=>if x.cps.size<=1000000 then(match atI x.cps.toList i with|some c=>.ok (tS [c]) S|none=>.bad) else .bad|.inn,[.str x,.str y]=>(match x.cps.toList with | [c]=>.ok (.bl (y.cps.toList.contains c)) S|_=>.bad)|.add,[.str x,.str y]=>if x.cps.size+y.cps.size<=1000000 then .ok (tS (x.cps.toList++y.cps.toList)) S else .bad|.mul,[.str x,.int n]=>if 0<=n/\n<=1000/\x.cps.size=1 then .ok (tS (List.replicate n.toNat x.cps.toList).flatten) S else .bad|.len,[.str x]=>if x.cps.size<=1000000 then .ok (.int x.cps.size) S else .bad
 |.sl ml mh,[.str x,a,b]=>if x.cps.size<=1000000 then(match zaE ml a,zaE mh b with
  |some l,some h=>.ok (tS (cut x.cps.toList l h)) S|_,_=>.bad) else .bad
 |_,_=>.bad
noncomputable def zft:D->Option (List D×List Nat)
 |.str x=>if x.cps.size<=1000000/\x.cps.all (·<128)=true then some (x.cps.toList.map fun c=>tS [c],[]) else none|_=>none
mutual
inductive CE where
 |loc (i:Nat)|con (d:D)
 |tst (a:CE)
 |bin (op:Operator) (a b:CE)|neg (a:CE)|nt (a:CE)
 |cmp (op:CmpOp) (a b:CE)|cmp2 (op op':CmpOp) (a b c:CE)
 |and (a b:CE)|or (a b:CE)|ite (c a b:CE)
 |tup (es:CEs)|lst (es:CEs)
 |ix (a b:CE)
 |mk (c f:Nat) (x:Str) (j:Nat) (es:CEs)
 |mkX (c:Nat) (x f:Str) (a:CE)|fldX (a:CE) (f:Str)|iscX (cs:List Nat) (x:Str) (a:CE)
 |sl (a:CE) (ml mh:Bool) (lo hi:CE)|insL (o a b:CE)
 |call (f j:Nat) (es:CEs)|bi (b:Bi) (es:CEs)|mt (m:Mt) (o:CE) (es:CEs)
 |mkL (l:CL)|mkT (l:CL)|all (l:CL)|lenset (l:CL)|tx (t:Tx) (es:CEs)
inductive CEs where
 |nil|cons (e:CE) (r:CEs)
inductive CL where
 |val (e:CE)|rng1 (a:CE)|txt (a:CE)
 |comp (nt:Nat) (js:List Nat) (g:List Nat) (it:CL) (c:CE) (e:CE)
end
inductive TrB where
 |asg (i f:Nat) (es:CEs)|ite (c:CE) (a b:TrB)
 |setF (a:CE) (f:Str) (g:Nat) (es:CEs)|mk (c f:Nat) (x:Str) (j:Nat) (es:CEs)|comp (i nt:Nat) (js g:List Nat) (it:CL) (f:Nat) (es:CEs)
inductive CS where
 |nil|stop|asg (i:Nat) (e:CE) (r:CS)|asgT (g:List Nat) (e:CE) (r:CS)|setIx (a b e:CE) (r:CS)|setF (a:CE) (f:Str) (e:CE) (r:CS)
 |ifS (c:CE) (t u:CS) (r:CS)|forS (g:List Nat) (l:CL) (b:CS) (r:CS)|ret (e:CE) (r:CS)|expr (e:CE) (r:CS)
 |rais (c:Nat) (x f:Str) (a:CE)|tryS (b:TrB) (x:Str) (ie ix:Nat) (r:CS)
 |blk (b:TrB) (r:CS)
abbrev Ev:=List (Option D)
noncomputable def zcW:List Nat->List D->Ev->Ev
 |i::is,d::ds,δ=>zcW is ds (δ.set i (some d))|_,_,δ=>δ
noncomputable def asgG(g:List Nat)(x:D)(δ:Ev):Option Ev:=match g with| [i]=>some (δ.set i (some x))|is=>(match x with|.tup ds=>if ds.length=is.length then some (zcW is ds δ) else none|_=>none)
abbrev CF:=Nat->List D->St->Out D
noncomputable def za2(S:St)(d:D)(T:St):Out D:=
 if flat S.len d then .ok d S else
 let keep:Out D:=.ok d ⟨S.frz,S.new++T.new,S.lk⟩
 match d with
  |.ref l=>(match T.get l with
   |some (.lst ds)=>if flats S.len ds then .ok (.ref S.len) (S.push (.lst ds)) else keep|_=>keep)
  |_=>keep
noncomputable def zgD(S:St)(d:D)(T:St):Out (List D):=match d with|.ref l=>if l<S.len then .bad else(match T.get l with|some (.lst ds)=>if flats S.len ds then .ok ds S else .bad|_=>.bad)|_=>.bad
@[irreducible]noncomputable def app(cf:CF)(f:Nat)(ds:List D)(S:St):Out D:=(cf f ds S.enter).bind fun d T=>za2 S d T
@[irreducible]noncomputable def appL(cf:CF)(f:Nat)(ds:List D)(S:St):Out (List D):=(cf f ds S.enter).bind fun d T=>zgD S d T
@[irreducible]noncomputable def appW(cf:CF)(f:Nat)(ds:List D)(S:St):Out D:=cf f ds S
noncomputable def csl(nt:Nat)(js:List Nat)(δ:Ev):Ev:=List.replicate nt none++js.map fun j=>(δ[j]?).join
noncomputable def za4(g:List Nat)(c:Ev->St->Out Bool)(e:Ev->St->Out D):List D->Ev->St->Out (List D)
 | [],_,S=>.ok [] S| x::xs,δ,S=>match asgG g x δ with|none=>.bad|some δ'=>(c δ' S).bind fun b S1=>if b then(e δ' S1).bind fun d S2=>(za4 g c e xs δ' S2).bind fun ds S3=>.ok (d::ds) S3 else za4 g c e xs δ' S1
noncomputable def zaY(ls:List Nat)(S:St)(f:St->Out α):Out α:=(f {S with lk:=ls++S.lk}).bind fun a S'=>.ok a {S' with lk:=S.lk}
noncomputable def zcV:D->Option Bool
 |.bl b=>some b|_=>none
noncomputable def allD(ds:List D):Option Bool:=(ds.mapM zcV).map fun bs=>bs.all id
noncomputable def dedup(xs:List Int):List Int:=xs.foldl (fun acc x=>if acc.contains x then acc else acc++[x]) []
section
variable(cf:CF)
mutual
noncomputable def evE:CE->Ev->St->Out D
 |.loc i,δ,S=>lift S (δ[i]?).join|.con d,_,S=>.ok d S|.tst _,_,_=>.bad|.bin op a b,δ,S=>(evE a δ S).bind fun x S1=>(evE b δ S1).bind fun y S2=>binD S2 op x y|.neg a,δ,S=>(evE a δ S).bind fun x S1=>match x with|.int i=>.ok (.int (-i)) S1|_=>.bad
 |.nt a,δ,S=>(evE a δ S).bind fun x S1=>match x with|.bl b=>.ok (.bl (!b)) S1|_=>.bad
 |.cmp op a b,δ,S=>(evE a δ S).bind fun x S1=>(evE b δ S1).bind fun y S2=>(lift S2 (cmpD S2 op x y)).bind fun k S3=>.ok (.bl k) S3|.cmp2 op op' a b c,δ,S=>(evE a δ S).bind fun x S1=>(evE b δ S1).bind fun y S2=>(lift S2 (cmpD S2 op x y)).bind fun k S3=>if k then(evE c δ S3).bind fun z S4=>(lift S4 (cmpD S4 op' y z)).bind fun k' S5=>.ok (.bl k') S5 else .ok (.bl false) S3|.and a b,δ,S=>(evE a δ S).bind fun x S1=>match x with|.bl k=>if k then evE b δ S1 else .ok (.bl false) S1|_=>.bad
 |.or a b,δ,S=>(evE a δ S).bind fun x S1=>match x with|.bl k=>if k then .ok (.bl true) S1 else evE b δ S1|_=>.bad
 |.ite c a b,δ,S=>(evT c δ S).bind fun k S1=>if k then evE a δ S1 else evE b δ S1|.tup es,δ,S=>(evEs es δ S).bind fun ds S1=>if ds.length<=16777216 then .ok (.tup ds) S1 else .bad|.lst es,δ,S=>(evEs es δ S).bind fun ds S1=>lay S1 ds|.mk c f _ j es,δ,S=>(evEs es δ S).bind fun ds S1=>(appW cf f (.ref S1.len::(ds++List.replicate j .non)) (S1.push (.ins c []))).bind fun d S2=>if zgL d then .ok (.ref S1.len) S2 else .bad|.mkX c _ f a,δ,S=>(evE a δ S).bind fun d S1=>.ok (.ref S1.len) (S1.push (.exc c [(f,d)]))|.fldX a f,δ,S=>(evE a δ S).bind fun x S1=>lift S1 ((zbo S1 x).bind fun p=>p.2.lookup f)|.iscX cs _ a,δ,S=>(evE a δ S).bind fun x S1=>(lift S1 (zbo S1 x)).bind fun p S1=>.ok (.bl (cs.contains p.1)) S1|.ix a b,δ,S=>(evE a δ S).bind fun x S1=>(evE b δ S1).bind fun y S2=>match zbe S2 x,y with|some ds,.int i=>lift S2 (atI ds i)|_,_=>.bad
 |.insL o a b,δ,S=>(evE o δ S).bind fun x S1=>if isL S1 x then(evE a δ S1).bind fun y S2=>(evE b δ S2).bind fun z S3=>zdV S3 x y z else .bad
 |.sl a ml mh lo hi,δ,S=>(evE a δ S).bind fun x S1=>(evE lo δ S1).bind fun y S2=>(evE hi δ S2).bind fun z S3=>match zaE ml y,zaE mh z with
  |some l,some h=>(match x with
   |.tup ds=>.ok (.tup (cut ds l h)) S3|.fix ds=>lay S3 (cut ds l h)|.ref p=>(match S3.get p with|some (.lst ds)=>lay S3 (cut ds l h)|_=>.bad)|_=>.bad)
  |_,_=>.bad
 |.call f j es,δ,S=>(evEs es δ S).bind fun ds S1=>app cf f (ds++List.replicate j .non) S1|.bi b es,δ,S=>(evEs es δ S).bind fun ds S1=>R.bi S1 b ds|.mt m o es,δ,S=>(evE o δ S).bind fun x S1=>if isL S1 x then(evEs es δ S1).bind fun ds S2=>R.mt S2 m x ds else .bad|.mkL l,δ,S=>(evL l δ S).bind fun r S1=>lay S1 r.1|.mkT l,δ,S=>(evL l δ S).bind fun r S1=>if r.1.length<=16777216 then .ok (.tup r.1) S1 else .bad|.all l,δ,S=>(evL l δ S).bind fun r S1=>(lift S1 (allD r.1)).bind fun b S2=>.ok (.bl b) S2|.lenset l,δ,S=>(evL l δ S).bind fun r S1=>(lift S1 (zcR r.1)).bind fun is S2=>if is.length<4000 then .ok (.int (dedup is).length) S2 else .bad|.tx t es,δ,S=>(evEs es δ S).bind fun ds S1=>txD S1 t ds
noncomputable def evEs:CEs->Ev->St->Out (List D)
 |.nil,_,S=>.ok [] S|.cons e r,δ,S=>(evE e δ S).bind fun d S1=>(evEs r δ S1).bind fun ds S2=>.ok (d::ds) S2
noncomputable def evT:CE->Ev->St->Out Bool
 |.cmp op a b,δ,S=>(evE a δ S).bind fun x S1=>(evE b δ S1).bind fun y S2=>lift S2 (cmpD S2 op x y)|.cmp2 op op' a b c,δ,S=>(evE a δ S).bind fun x S1=>(evE b δ S1).bind fun y S2=>(lift S2 (cmpD S2 op x y)).bind fun k S3=>if k then(evE c δ S3).bind fun z S4=>lift S4 (cmpD S4 op' y z) else .ok false S3|.nt a,δ,S=>(evT a δ S).bind fun k S1=>.ok (!k) S1|.and a b,δ,S=>(evT a δ S).bind fun k S1=>if k then evT b δ S1 else .ok false S1|.or a b,δ,S=>(evT a δ S).bind fun k S1=>if k then .ok true S1 else evT b δ S1|.tst e,δ,S=>(evE e δ S).bind fun x S1=>lift S1 (tru S1 x)|_,_,_=>.bad
noncomputable def evL:CL->Ev->St->Out (List D×List Nat)
 |.val e,δ,S=>(evE e δ S).bind fun x S1=>(lift S1 (zbe S1 x)).bind fun ds S2=>.ok (ds,lkOf S2 x) S2|.rng1 a,δ,S=>(evE a δ S).bind fun x S1=>match x with|.int j=>if -(2^62)<=j/\j<2^62 then .ok ((List.range j.toNat).map fun(k:Nat)=>.int k,[]) S1 else .bad|_=>.bad
 |.txt a,δ,S=>(evE a δ S).bind fun x S1=>lift S1 (zft x)|.comp n js g it c e,δ,S=>(evL it δ S).bind fun r S1=>(zaY r.2 S1 fun S2=>za4 g (evT c) (evE e) r.1 (csl n js δ) S2).bind fun ds S3=>if ds.length<=16777216 then .ok (ds,[]) S3 else .bad
end
inductive Fl where
 |nx (δ:Ev)|rt (d:D)|ex (d:D)
noncomputable def zaT(g:List Nat)(b:Ev->St->Out Fl):List D->Ev->St->Out Fl
 | [],δ,S=>.ok (.nx δ) S| x::xs,δ,S=>match asgG g x δ with|none=>.bad| some δ'=>(b δ' S).bind fun f S1=>match f with|.nx δ2=>zaT g b xs δ2 S1|.rt d=>.ok (.rt d) S1|.ex d=>.ok (.ex d) S1
@[irreducible]noncomputable def appX(f:Nat)(ds:List D)(S:St):Out D:=match cf f ds S.enter with|.ok d T=>za2 S d T|.err d T=>.err d ⟨S.frz,S.new++T.new,S.lk⟩|.bad=>.bad
noncomputable def za3(g:List Nat)(f:Nat)(es:CEs):List D->Ev->St->Out (List D)
 | [],_,S=>.ok [] S
 |x::xs,δ,S=>match asgG g x δ with
  |none=>.bad
  |some δ'=>match evEs cf es δ' S with
   |.ok ds S1=>(match appX cf f ds S1 with
    |.ok d S2=>(za3 g f es xs δ' S2).bind fun r S3=>.ok (d::r) S3|.err d S2=>.err d S2|.bad=>.bad)
   |_=>.bad
noncomputable def exT:TrB->Ev->St->Out Ev
 |.asg i f es,δ,S=>match evEs cf es δ S with|.ok ds S1=>(appX cf f ds S1).bind fun d S2=>.ok (δ.set i (some d)) S2|_=>.bad
 |.ite c a b,δ,S=>match evT cf c δ S with|.ok k S1=>if k then exT a δ S1 else exT b δ S1|_=>.bad
 |.setF a f g es,δ,S=>match evEs cf es δ S with
  |.ok ds S1=>(match appX cf g ds S1 with
   |.ok v S2=>(match evE cf a δ S2 with
    |.ok x S3=>(match zbm S3 x f v with|some S4=>.ok δ S4|none=>.bad)|_=>.bad)
   |.err d S2=>.err d S2|.bad=>.bad)
  |_=>.bad
 |.mk c f _ j es,δ,S=>match evEs cf es δ S with
  |.ok ds S1=>(match appW cf f (.ref S1.len::(ds++List.replicate j .non)) (S1.push (.ins c [])) with
   |.ok d S2=>if zgL d then .ok δ S2 else .bad|.err d S2=>.err d S2|.bad=>.bad)
  |_=>.bad
 |.comp i nt js g it f es,δ,S=>match evL cf it δ S with
  |.ok r S1=>if r.1.length<=16777216 then(match za3 cf g f es r.1 (csl nt js δ) {S1 with lk:=r.2++S1.lk} with
   |.ok ds S3=>.ok (δ.set i (some (.ref S3.len))) (St.push {S3 with lk:=S1.lk} (.lst ds))|.err d S3=>.err d {S3 with lk:=S1.lk}|.bad=>.bad) else .bad
  |_=>.bad
noncomputable def exS:CS->Ev->St->Out Fl
 |.nil,δ,S=>.ok (.nx δ) S|.stop,_,_=>.bad|.asg i e r,δ,S=>(evE cf e δ S).bind fun x S1=>exS r (δ.set i (some x)) S1|.asgT g e r,δ,S=>(evE cf e δ S).bind fun x S1=>(lift S1 (asgG g x δ)).bind fun δ' S2=>exS r δ' S2|.setIx a b e r,δ,S=>(evE cf e δ S).bind fun v S1=>(evE cf a δ S1).bind fun x S2=>(evE cf b δ S2).bind fun y S3=>match dPut S3 x y v with|some S4=>exS r δ S4|none=>.bad
 |.setF a f e r,δ,S=>(evE cf e δ S).bind fun v S1=>(evE cf a δ S1).bind fun x S2=>match zbm S2 x f v with|some S3=>exS r δ S3|none=>.bad
 |.ifS c t u r,δ,S=>(evT cf c δ S).bind fun k S1=>(if k then exS t δ S1 else exS u δ S1).bind fun f S2=>match f with
  |.nx δ'=>exS r δ' S2|.rt d=>.ok (.rt d) S2|.ex d=>.ok (.ex d) S2
 |.forS g l b r,δ,S=>(evL cf l δ S).bind fun q S1=>(zaY q.2 S1 fun S2=>zaT g (exS b) q.1 δ S2).bind fun f S3=>match f with
  |.nx δ'=>exS r δ' S3|.rt d=>.ok (.rt d) S3|.ex d=>.ok (.ex d) S3
 |.ret e _,δ,S=>(evE cf e δ S).bind fun x S1=>.ok (.rt x) S1|.expr e r,δ,S=>(evE cf e δ S).bind fun _ S1=>exS r δ S1|.rais c _ f a,δ,S=>(evE cf a δ S).bind fun d S1=>.ok (.ex (.ref S1.len)) (S1.push (.exc c [(f,d)]))
 |.blk b r,δ,S=>match exT cf b δ S with
  |.ok δ' S1=>exS r δ' S1|.err d S1=>.ok (.ex d) S1|.bad=>.bad
 |.tryS b _ ie ix r,δ,S=>match exT cf b δ S with|.ok δ' S1=>exS r δ' S1|.err d S1=>if(zbo S1 d).isSome then exS r ((δ.set ie none).set ix (some d)) S1 else .bad|.bad=>.bad
end
inductive Prim where
 |one
structure Fn where
 np:Nat
 nn:Nat
 body:CS
 prim:Option Prim
noncomputable def zaI(F:Fn)(ds:List D):Ev:=ds.map some++List.replicate (F.nn-F.np) none
noncomputable def callF(P:List Fn):Nat->CF
 |0,_,_,_=>.bad
 |n+1,f,ds,S=>match P[f]? with
  | some F=>if ds.length=F.np then(match F.prim with|some _=>.bad| none=>(exS (callF P n) F.body (zaI F ds) S).ne.bind fun r T=>match r with|.nx _=>.ok .non T|.rt d=>.ok d T|.ex d=>.err d T)
    else .bad
  |none=>.bad
@[simp]theorem zab(a:α)(S:St)(f:α->St->Out β):(Out.ok a S).bind f=f a S:=rfl
@[simp]theorem zm9{α β:Type}(f:α->St->Out β):(Out.bad:Out α).bind f=.bad:=rfl
@[simp]theorem zm8{α β:Type}(d:D)(S:St)(f:α->St->Out β):(Out.err d S:Out α).bind f=.err d S:=rfl
@[simp]theorem zbc(S:St)(a:α):lift S (some a)=.ok a S:=rfl
theorem zaZ(S:St):S.enter.get=S.get:=by funext l;simp only[St.get,St.enter,length_append,List.getElem?_append];by_cases h:l<S.frz.length;simp[lt_of_lt_of_le h (Nat.le_add_right _ _)];simp only[h];split;rfl;simp only[List.getElem?_nil];exact(List.getElem?_eq_none (by omega)).symm
@[simp]theorem zgY(S:St):S.enter.frz=S.frz++S.new:=rfl
@[simp]theorem zmK(S:St):S.enter.new=[]:=rfl
@[simp]theorem zm7(S:St):S.enter.lk=[]:=rfl
@[simp]theorem enter_len(S:St):S.enter.len=S.len:=by simp[St.len]
theorem zkd(S:St):(S.frz++S.new).length=S.len:=by simp[St.len]
theorem zb5{S:St}(h:S.get l=some o):l<S.len:=by unfold St.get at h;unfold St.len;split at h;omega;have:=(List.getElem?_eq_some_iff.mp h).1;omega
theorem zkm{S:St}(h:S.get l=some o)(nw:List MO)(lk:List Nat):(St.mk (S.frz++S.new) nw lk).get l=some o:=by
 have hl:=zb5 h;rw[<-zaZ]at h;unfold St.get at h⊢;have e:l<(S.frz++S.new).length:=by rw[zkd];exact hl
 simp only[zgY,e]at h⊢;exact h
theorem zev(F nw:List MO)(lk:List Nat)(i:Nat):(St.mk F nw lk).get (F.length+i)=nw[i]?:=by
 have:¬F.length+i<F.length:=by omega
 simp[St.get,this]
theorem zic(F nw:List MO)(lk:List Nat):(St.mk F nw lk).get F.length=nw[0]?:=zev F nw lk 0
@[simp]theorem zm4(n:Nat):flat n .non=true:=by simp[flat]
@[simp]theorem zn2(n:Nat)(b:Bool):flat n (.bl b)=true:=by simp[flat]
@[simp]theorem zm5(n:Nat)(i:Int):flat n (.int i)=true:=by simp[flat]
@[simp]theorem zm3(n:Nat)(x:Str):flat n (.str x)=true:=by simp[flat]
@[simp]theorem zfe(n:Nat)(ds:List D):flat n (.tup ds)=flats n ds:=by simp[flat]
@[simp]theorem zm6(n:Nat)(ds:List D):flat n (.fix ds)=flats n ds:=by simp[flat]
@[simp]theorem zmz(n:Nat):flats n []=true:=by simp[flats]
@[simp]theorem zkE(n:Nat)(d:D)(ds:List D):flats n (d::ds)=(flat n d&&flats n ds):=by simp[flats]
@[simp]theorem zdY(n:Nat):∀ds es:List D,flats n (ds++es)=(flats n ds&&flats n es)
  | [],es=>by simp|d::ds,es=>by simp[zdY n ds es,Bool.and_assoc]
theorem zbU(n:Nat):∀ds:List D,flats n ds=true↔∀d∈ds,flat n d=true
 | []=>by simp|d::ds=>by simp[zbU n ds]
@[simp]theorem zkD(n:Nat)(ns:List Int):flats n (ns.map D.int)=true:=by rw[zbU];simp
@[simp]theorem zcO(S:St)(d:D)(T:St)(h:flat S.len d=true):za2 S d T=.ok d S:=by simp[za2,h]
def W(o:Out α)(Q:α->St->Prop):Prop:=match o with|.ok a S=>Q a S|_=>False
@[simp]theorem W_ok(a:α)(S:St)(Q:α->St->Prop):W (.ok a S) Q=Q a S:=rfl
@[simp]theorem zoj{α:Type}(Q:α->St->Prop):W (.bad:Out α) Q=False:=rfl
@[simp]theorem zoi{α:Type}(d:D)(S:St)(Q:α->St->Prop):W (.err d S:Out α) Q=False:=rfl
@[simp]theorem zaa(o:Out α)(f:α->St->Out β)(Q:β->St->Prop):W (o.bind f) Q=W o fun a S=>W (f a S) Q:=by cases o<;>rfl
theorem W.mono(h:W o Q)(hq:∀a S,Q a S->Q' a S):W o Q':=by cases o with|ok a S=>exact hq a S h|err d S=>exact h|bad=>exact h
theorem W.eq(h:W o fun a T=>a=d/\T=S):o=.ok d S:=by cases o with|ok a T=>obtain⟨rfl,rfl⟩:=h;rfl|err d S=>exact False.elim h|bad=>exact False.elim h
theorem W.iff:W o Q↔∃a S,o=.ok a S/\Q a S:=by cases o with|ok a S=>exact⟨fun h=>⟨a,S,rfl,h⟩,fun⟨_,_,e,h⟩=>by cases e;exact h⟩|err d S=>exact⟨fun h=>h.elim,fun⟨_,_,e,_⟩=>nomatch e⟩|bad=>exact⟨fun h=>h.elim,fun⟨_,_,e,_⟩=>nomatch e⟩
@[simp]theorem W_ne:W o.ne Q=W o Q:=by cases o<;>rfl
noncomputable def fin(S:St)(r:Fl)(T:St):Out D:=match r with|.nx _=>za2 S .non T|.rt d=>za2 S d T|.ex d=>.err d T
@[simp]theorem ziN(S T:St)(d:D):fin S (.rt d) T=za2 S d T:=rfl
@[simp]theorem zof(S T:St)(δ:Ev):fin S (.nx δ) T=.ok .non S:=by simp[fin]
theorem ziX(h:P[f]?=some F)(hl:ds.length=F.np)(hp:F.prim=none:=by rfl) :
  app (callF P (n+1)) f ds S=(exS (callF P n) F.body (zaI F ds) S.enter).ne.bind fun r T=>fin S r T:=by
 simp[app,callF,h,hl,hp];generalize exS (callF P n) F.body (zaI F ds) S.enter=o;cases o with|ok r T=>cases r<;>rfl|err d S=>rfl|bad=>rfl
noncomputable def finL(S:St)(r:Fl)(T:St):Out (List D):=match r with|.nx _=>.bad|.rt d=>zgD S d T|.ex d=>.err d T
@[simp]theorem zn3(S T:St)(d:D):finL S (.rt d) T=zgD S d T:=rfl
@[simp]theorem zkC{α:Type}(S:St)(f:St->Out α):zaY [] S f=(f S).bind fun a S'=>.ok a {S' with lk:=S.lk}:=rfl
def wIf(c:Bool)(P Q:Prop):Prop:=match c with|true=>P|false=>Q
@[irreducible]def wOpt{α:Type}(o:Option α)(k:α->Prop):Prop:=match o with|some a=>k a|none=>False
@[irreducible]def zaM(p k:Prop):Prop:=p/\k
@[irreducible]def wOut(o:Out α)(Q:α->St->Prop):Prop:=W o Q
theorem zhp(h:c=true)(k:P):wIf c P Q:=by subst h;exact k
theorem zcX(h:c=false)(k:Q):wIf c P Q:=by subst h;exact k
theorem zne(h1:c=true->P)(h2:c=false->Q):wIf c P Q:=by cases c with|true=>exact zhp rfl (h1 rfl)|false=>exact zcX rfl (h2 rfl)
theorem zhq[Decidable p](h1:p->P)(h2:¬p->Q):wIf (decide p) P Q:=zne (fun h=>h1 (of_decide_eq_true h)) (fun h=>h2 (of_decide_eq_false h))
theorem wOpt_of(h:o=some a)(q:k a):wOpt o k:=by unfold wOpt;rw[h];exact q
theorem wNeed_of(h:p)(q:k):zaM p k:=by unfold zaM;exact⟨h,q⟩
theorem wOut_of(h:o=.ok a S)(q:Q a S):wOut o Q:=by unfold wOut;rw[h];exact q
abbrev wGet(S:St)(l:Nat)(k:MO->Prop):Prop:=wOpt (S.get l) k
abbrev wPut(S:St)(l:Nat)(o:MO)(k:St->Prop):Prop:=wOpt (S.put l o) k
theorem zeG(h:nw[i]?=some o)(q:k o):wGet (St.mk F nw lk) (F.length+i) k:=wOpt_of ((zev F nw lk i).trans h) q
theorem zjQ{F nw:List MO}{lk:List Nat}{i:Nat}{o:MO}(h:lk.contains (F.length+i)=false):(St.mk F nw lk).put (F.length+i) o=some ⟨F,nw.set i o,lk⟩:=by
 have h1:¬F.length+i<F.length:=by omega
 simp only[St.put,h1,if_false,h,Bool.false_eq_true,Nat.add_sub_cancel_left]
theorem zhn{F nw:List MO}{lk:List Nat}{i:Nat}{o:MO}{k:St->Prop}(h:lk.contains (F.length+i)=false)(q:k ⟨F,nw.set i o,lk⟩):wPut (St.mk F nw lk) (F.length+i) o k:=wOpt_of (zjQ h) q
def wLay(S:St)(ds:List D)(Q:D->St->Prop):Prop:=zaM (ds.length<=16777216) (Q (.ref S.len) (S.push (.lst ds)))
theorem zds(h:wLay S ds Q):W (lay S ds) Q:=by unfold wLay zaM at h;unfold lay;rw[if_pos h.1];exact h.2
def wWr(S:St)(l:Nat)(ds:List D)(d:D)(Q:D->St->Prop):Prop:=zaM (ds.length<=16777216) (wPut S l (.lst ds) fun S'=>Q d S')
theorem znc(h:wWr S l ds d Q):W (wr S l ds d) Q:=by unfold wWr zaM wPut wOpt at h;unfold wr;rw[if_pos h.1];have h2:=h.2;cases e:S.put l (.lst ds) with|none=>rw[e]at h2;exact h2.elim|some S'=>rw[e]at h2;exact h2
def zkO(S:St)(op:Operator)(i j:Int)(Q:D->St->Prop):Prop:=match op with|.Add=>Q (.int (i+j)) S|.Sub=>Q (.int (i-j)) S|.Mult=>zaM (zgw i j=true) (Q (.int (i*j)) S)|.FloorDiv=>zaM (0<j/\j<1073741824) (Q (.int (i/j)) S)|.Mod=>zaM (0<j) (Q (.int (i%j)) S)|.Pow=>zaM (0<=j/\j<=1000000/\-18446744073709551616<i/\i<18446744073709551616) (Q (.int (i^j.toNat)) S)|_=>False
def wBin(S:St)(op:Operator)(x y:D)(Q:D->St->Prop):Prop:=match x,y with|.int i,.int j=>zkO S op i j Q|.tup xs,.tup ys=>(match op with|.Add=>zaM (xs.length+ys.length<=16777216) (Q (.tup (xs++ys)) S)|_=>False)|.ref a,.ref b=>(match op with|.Add=>wGet S a fun o=>wGet S b fun u=>(match o,u with|.lst xs,.lst ys=>wLay S (xs++ys) Q|_,_=>False)|_=>False)|_,_=>False
theorem zkN(h:wBin S op x y Q):W (binD S op x y) Q:=by
 unfold wBin at h;unfold binD;split at h
 . unfold zkO zaM at h;unfold binI;split at h<;>(try dsimp only)<;>first|exact h|(rw[if_pos h.1];exact h.2)|exact False.elim h
 split at h
 . unfold zaM at h
   (try simp only)
   rw[if_pos h.1];exact h.2
 exact h.elim;split at h
 . unfold wGet wOpt at h
   (try simp only)
   cases ea:S.get _ with|none=>simp[ea]at h| some o=>simp[ea]at h;cases eb:S.get _ with|none=>simp[eb]at h| some u=>simp[eb]at h;cases o<;>cases u<;>first|exact zds h|exact h.elim
 exact h.elim;exact h.elim
def wCmp(S:St)(op:CmpOp)(x y:D)(Q:Bool->Prop):Prop:=match x,y with|.int i,.int j=>(match cmpI op i j with|some k=>Q k|none=>False)| _,_=>(match op with|.Is=>(match cmpO S .Is x y with|some k=>Q k|none=>False)|.IsNot=>(match cmpO S .IsNot x y with|some k=>Q k|none=>False)|_=>wOpt (cmpO S op x y) Q)
theorem zg6(h:∀i j,x=.int i->y=.int j->False):cmpD S op x y=cmpO S op x y:=by unfold cmpD;split;rename_i i j;exact(h i j rfl rfl).elim;rfl
theorem zcY(h:wCmp S op x y Q):∃k,cmpD S op x y=some k/\Q k:=by
 have fin:∀o:Option Bool,(match o with|some k=>Q k|none=>False)->∃k,o=some k/\Q k:=fun o q=>by cases o with|none=>exact q.elim|some k=>exact⟨k,rfl,q⟩
 unfold wCmp at h;split at h;exact fin _ h;rename_i hn;rw[zg6 hn];split at h;exact fin _ h;exact fin _ h;unfold wOpt at h;cases e:cmpO S op x y with|none=>rw[e]at h;exact h.elim|some k=>rw[e]at h;exact⟨k,rfl,h⟩
theorem zeH(h:wCmp S op x y fun k=>Q k S):W (lift S (cmpD S op x y)) Q:=by obtain⟨k,e,q⟩:=zcY h;rw[e];exact q
def wBi(S:St)(b:Bi)(ds:List D)(Q:D->St->Prop):Prop:=match b,ds with
 |.len,[x]=>(match x with
  |.tup ds=>Q (.int ds.length) S|.fix ds=>Q (.int ds.length) S|.ref l=>wGet S l fun o=>(match o with|.lst ds=>Q (.int ds.length) S|_=>False)|_=>False)
 |.abs,[.int i]=>Q (.int (if i<0 then -i else i)) S|.isin t,[x]=>wOpt (tyOf S x) fun a=>Q (.bl (a==t||(a=="bool"&&t=="int"))) S|_,_=>False
theorem znf(h:wBi S b ds Q):W (bi S b ds) Q:=by
 unfold wBi at h;split at h;split at h;exact h;exact h;rename_i l;unfold wGet wOpt at h;simp[bi];cases e:S.get l with|none=>rw[e]at h;exact h.elim|some o=>rw[e]at h;cases o<;>first|exact h|exact h.elim
 exact h.elim;exact h;rename_i t x;unfold wOpt at h;simp[bi];cases e:tyOf S x with|none=>rw[e]at h;exact h.elim|some a=>rw[e]at h;exact h
 exact h.elim
def wIsL(S:St)(x:D)(P:Prop):Prop:=match x with|.ref l=>wGet S l fun o=>(match o with|.lst _=>P|_=>False)|_=>False
theorem zfQ(h:wIsL S x P):isL S x=true/\P:=by
 unfold wIsL at h;split at h;rename_i l;unfold wGet wOpt at h;unfold isL;cases e:S.get l with|none=>rw[e]at h;exact h.elim| some o=>rw[e]at h;cases o with|lst ds=>exact⟨by simp[e],h⟩|_=>exact False.elim h
 exact h.elim
def wMt(S:St)(m:Mt)(x:D)(ds:List D)(Q:D->St->Prop):Prop:=match m,x,ds with|.append,.ref l,[y]=>wGet S l fun o=>(match o with|.lst ds=>wWr S l (ds++[y]) .non Q|_=>False)|_,_,_=>False
theorem znd(h:wMt S m x ds Q):W (mt S m x ds) Q:=by
 unfold wMt at h;split at h;rename_i l y;unfold wGet wOpt at h;simp[mt];cases e:S.get l with|none=>rw[e]at h;exact h.elim|some o=>rw[e]at h;cases o<;>first|exact znc h|exact h.elim
 exact h.elim
def wSeq(S:St)(x:D)(k:List D->Prop):Prop:=match x with|.tup ds=>k ds|.fix ds=>k ds|.ref l=>wGet S l fun o=>(match o with|.lst ds=>k ds|_=>False)|_=>False
theorem zfO(h:wSeq S x k):∃ds,zbe S x=some ds/\k ds:=by
 unfold wSeq at h;unfold zbe;split at h;exact⟨_,rfl,h⟩;exact⟨_,rfl,h⟩;rename_i l;unfold wGet wOpt at h;cases e:S.get l with|none=>rw[e]at h;exact h.elim| some o=>rw[e]at h;cases o with|lst ds=>exact⟨ds,by simp[e],h⟩|ins _ _=>exact False.elim h|exc _ _=>exact False.elim h
 exact h.elim
def wTru(S:St)(x:D)(Q:Bool->Prop):Prop:=match x with|.bl b=>Q b|.non=>Q false|.int i=>Q (i != 0)|.tup ds=>Q (!ds.isEmpty)|.ref l=>wGet S l fun o=>(match o with|.lst ds=>Q (!ds.isEmpty)|_=>False)|_=>False
theorem zkM(h:wTru S x fun k=>Q k S):W (lift S (tru S x)) Q:=by
 unfold wTru at h;unfold tru;split at h;exact h;exact h;exact h;exact h;rename_i l;unfold wGet wOpt at h;simp only;cases e:S.get l with|none=>rw[e]at h;exact h.elim|some o=>rw[e]at h;cases o<;>first|exact h|exact h.elim
 exact h.elim
@[irreducible]def zho(ls:List Nat)(S:St)(f:St->Out α)(Q:α->St->Prop):Prop:=W (zaY ls S f) Q
theorem zfP(h:zho ls S f Q):W (zaY ls S f) Q:=by unfold zho at h;exact h
section
variable(cf:CF)
mutual
def wE:CE->Ev->St->(D->St->Prop)->Prop
 |.loc i,δ,S,Q=>(match (δ[i]?).join with|some d=>Q d S|none=>False)|.con d,_,S,Q=>Q d S|.tst _,_,_,_=>False|.bin op a b,δ,S,Q=>wE a δ S fun x S1=>wE b δ S1 fun y S2=>wBin S2 op x y Q|.neg a,δ,S,Q=>wE a δ S fun x S1=>(match x with|.int i=>Q (.int (-i)) S1|_=>False)|.nt a,δ,S,Q=>wE a δ S fun x S1=>(match x with|.bl b=>Q (.bl (!b)) S1|_=>False)|.cmp op a b,δ,S,Q=>wE a δ S fun x S1=>wE b δ S1 fun y S2=>wCmp S2 op x y fun k=>Q (.bl k) S2|.cmp2 op op' a b c,δ,S,Q=>wE a δ S fun x S1=>wE b δ S1 fun y S2=>wCmp S2 op x y fun k=>wIf k (wE c δ S2 fun z S4=>wCmp S4 op' y z fun k'=>Q (.bl k') S4) (Q (.bl false) S2)|.and a b,δ,S,Q=>wE a δ S fun x S1=>(match x with|.bl k=>wIf k (wE b δ S1 Q) (Q (.bl false) S1)|_=>False)|.or a b,δ,S,Q=>wE a δ S fun x S1=>(match x with|.bl k=>wIf k (Q (.bl true) S1) (wE b δ S1 Q)|_=>False)|.ite c a b,δ,S,Q=>wT c δ S fun k S1=>wIf k (wE a δ S1 Q) (wE b δ S1 Q)|.tup es,δ,S,Q=>wEs es δ S fun ds S1=>zaM (ds.length<=16777216) (Q (.tup ds) S1)|.lst es,δ,S,Q=>wEs es δ S fun ds S1=>wLay S1 ds Q|.mk c f _ j es,δ,S,Q=>wEs es δ S fun ds S1=>wOut (appW cf f (.ref S1.len::(ds++List.replicate j .non)) (S1.push (.ins c []))) fun d S2=>zaM (zgL d=true) (Q (.ref S1.len) S2)|.mkX c _ f a,δ,S,Q=>wE a δ S fun d S1=>Q (.ref S1.len) (S1.push (.exc c [(f,d)]))|.fldX a f,δ,S,Q=>wE a δ S fun x S1=>wOpt (zbo S1 x) fun p=>wOpt (p.2.lookup f) fun d=>Q d S1|.iscX cs _ a,δ,S,Q=>wE a δ S fun x S1=>wOpt (zbo S1 x) fun p=>Q (.bl (cs.contains p.1)) S1|.ix a b,δ,S,Q=>wE a δ S fun x S1=>wE b δ S1 fun y S2=>wSeq S2 x fun ds=>(match y with|.int i=>wOpt (atI ds i) fun d=>Q d S2|_=>False)|.insL o a b,δ,S,Q=>wE o δ S fun x S1=>wIsL S1 x (wE a δ S1 fun y S2=>wE b δ S2 fun z S3=>wOut (zdV S3 x y z) Q)
 |.sl a ml mh lo hi,δ,S,Q=>wE a δ S fun x S1=>wE lo δ S1 fun y S2=>wE hi δ S2 fun z S3=>(match zaE ml y,zaE mh z with
  |some l,some h=>(match x with
   |.tup ds=>Q (.tup (cut ds l h)) S3|.fix ds=>wLay S3 (cut ds l h) Q|.ref p=>wGet S3 p fun o=>(match o with|.lst ds=>wLay S3 (cut ds l h) Q|_=>False)|_=>False)
  |_,_=>False)
 |.call f j es,δ,S,Q=>wEs es δ S fun ds S1=>wOut (app cf f (ds++List.replicate j .non) S1) Q|.bi b es,δ,S,Q=>wEs es δ S fun ds S1=>wBi S1 b ds Q|.mt m o es,δ,S,Q=>wE o δ S fun x S1=>wIsL S1 x (wEs es δ S1 fun ds S2=>wMt S2 m x ds Q)|.mkL l,δ,S,Q=>wL l δ S fun r S1=>wLay S1 r.1 Q|.mkT l,δ,S,Q=>wL l δ S fun r S1=>zaM (r.1.length<=16777216) (Q (.tup r.1) S1)|.all l,δ,S,Q=>wL l δ S fun r S1=>wOpt (allD r.1) fun b=>Q (.bl b) S1|.lenset l,δ,S,Q=>wL l δ S fun r S1=>wOpt (zcR r.1) fun is=>zaM (is.length<4000) (Q (.int (dedup is).length) S1)|.tx t es,δ,S,Q=>wEs es δ S fun ds S1=>wOut (txD S1 t ds) Q
def wEs:CEs->Ev->St->(List D->St->Prop)->Prop
 |.nil,_,S,Q=>Q [] S|.cons e r,δ,S,Q=>wE e δ S fun d S1=>wEs r δ S1 fun ds S2=>Q (d::ds) S2
def wT:CE->Ev->St->(Bool->St->Prop)->Prop
 |.cmp op a b,δ,S,Q=>wE a δ S fun x S1=>wE b δ S1 fun y S2=>wCmp S2 op x y fun k=>Q k S2|.cmp2 op op' a b c,δ,S,Q=>wE a δ S fun x S1=>wE b δ S1 fun y S2=>wCmp S2 op x y fun k=>wIf k (wE c δ S2 fun z S4=>wCmp S4 op' y z fun k'=>Q k' S4) (Q false S2)|.nt a,δ,S,Q=>wT a δ S fun k S1=>Q (!k) S1|.and a b,δ,S,Q=>wT a δ S fun k S1=>wIf k (wT b δ S1 Q) (Q false S1)|.or a b,δ,S,Q=>wT a δ S fun k S1=>wIf k (Q true S1) (wT b δ S1 Q)|.tst e,δ,S,Q=>wE e δ S fun x S1=>wTru S1 x fun k=>Q k S1|_,_,_,_=>False
def wL:CL->Ev->St->(List D×List Nat->St->Prop)->Prop
 |.val e,δ,S,Q=>wE e δ S fun x S1=>wSeq S1 x fun ds=>Q (ds,lkOf S1 x) S1|.rng1 a,δ,S,Q=>wE a δ S fun x S1=>(match x with|.int j=>zaM (-(2^62)<=j/\j<2^62) (Q ((List.range j.toNat).map fun(k:Nat)=>.int k,[]) S1)|_=>False)|.txt a,δ,S,Q=>wE a δ S fun x S1=>wOpt (zft x) fun r=>Q r S1|.comp n js g it c e,δ,S,Q=>wL it δ S fun r S1=>zho r.2 S1 (fun S2=>za4 g (evT cf c) (evE cf e) r.1 (csl n js δ) S2) fun ds S3=>zaM (ds.length<=16777216) (Q (ds,[]) S3)
end
def wS:CS->Ev->St->(Fl->St->Prop)->Prop
 |.nil,δ,S,Q=>Q (.nx δ) S|.stop,_,_,_=>False|.asg i e r,δ,S,Q=>wE cf e δ S fun x S1=>wS r (δ.set i (some x)) S1 Q|.asgT g e r,δ,S,Q=>wE cf e δ S fun x S1=>wOpt (asgG g x δ) fun δ'=>wS r δ' S1 Q|.setIx a b e r,δ,S,Q=>wE cf e δ S fun v S1=>wE cf a δ S1 fun x S2=>wE cf b δ S2 fun y S3=>wOpt (dPut S3 x y v) fun S4=>wS r δ S4 Q|.setF a f e r,δ,S,Q=>wE cf e δ S fun v S1=>wE cf a δ S1 fun x S2=>wOpt (zbm S2 x f v) fun S3=>wS r δ S3 Q|.ifS c t u r,δ,S,Q=>wT cf c δ S fun k S1=>wIf k (wS t δ S1 fun f S2=>(match f with|.nx δ'=>wS r δ' S2 Q|.rt d=>Q (.rt d) S2|.ex d=>Q (.ex d) S2)) (wS u δ S1 fun f S2=>(match f with|.nx δ'=>wS r δ' S2 Q|.rt d=>Q (.rt d) S2|.ex d=>Q (.ex d) S2))|.forS g l b r,δ,S,Q=>wL cf l δ S fun q S1=>zho q.2 S1 (fun S2=>zaT g (exS cf b) q.1 δ S2) fun f S3=>(match f with|.nx δ'=>wS r δ' S3 Q|.rt d=>Q (.rt d) S3|.ex d=>Q (.ex d) S3)|.ret e _,δ,S,Q=>wE cf e δ S fun x S1=>Q (.rt x) S1|.expr e r,δ,S,Q=>wE cf e δ S fun _ S1=>wS r δ S1 Q|.rais c _ f a,δ,S,Q=>wE cf a δ S fun d S1=>Q (.ex (.ref S1.len)) (S1.push (.exc c [(f,d)]))|.tryS b x ie ix r,δ,S,Q=>wOut (exS cf (.tryS b x ie ix r) δ S) Q|.blk b r,δ,S,Q=>wOut (exS cf (.blk b r) δ S) Q
end
section
variable{cf:CF}
mutual
theorem wE_W:∀(e:CE){δ:Ev}{S:St}{Q:D->St->Prop},wE cf e δ S Q->W (evE cf e δ S) Q
 |.loc i,δ,S,Q,h=>by simp only[wE]at h;simp only[evE];cases e:(δ[i]?).join with|none=>rw[e]at h;exact h.elim|some d=>rw[e]at h;exact h
 |.con d,δ,S,Q,h=>by simp only[wE]at h;simp only[evE];exact h|.tst _,δ,S,Q,h=>by simp only[wE]at h| .bin op a b,δ,S,Q,h=>by simp only[wE]at h;simp only[evE,zaa];exact(wE_W a h).mono fun x S1 h1=>(wE_W b h1).mono fun y S2 h2=>zkN h2| .neg a,δ,S,Q,h=>by simp only[wE]at h;simp only[evE,zaa];refine(wE_W a h).mono fun x S1 h1=>?_;cases x<;>first|exact h1|exact h1.elim
 |.nt a,δ,S,Q,h=>by simp only[wE]at h;simp only[evE,zaa];refine(wE_W a h).mono fun x S1 h1=>?_;cases x<;>first|exact h1|exact h1.elim
 |.cmp op a b,δ,S,Q,h=>by simp only[wE]at h;simp only[evE,zaa,W_ok];exact(wE_W a h).mono fun x S1 h1=>(wE_W b h1).mono fun y S2 h2=>zeH (Q:=fun k S=>Q (.bl k) S) h2| .cmp2 op op' a b c,δ,S,Q,h=>by simp only[wE]at h;simp only[evE,zaa];refine(wE_W a h).mono fun x S1 h1=>(wE_W b h1).mono fun y S2 h2=>?_;obtain⟨k,e,hk⟩:=zcY h2;rw[e];unfold wIf at hk;cases k with|false=>exact hk| true=>simp only[if_true,lift,W_ok,zaa]at hk⊢;exact(wE_W c hk).mono fun z S4 h4=>zeH (Q:=fun k S=>Q (.bl k) S) h4
 |.and a b,δ,S,Q,h=>by
  simp only[wE]at h;simp only[evE,zaa];refine(wE_W a h).mono fun x S1 h1=>?_;cases x with
  |bl k=>unfold wIf at h1;cases k with|false=>exact h1|true=>exact wE_W b h1
  |_=>exact h1.elim
 |.or a b,δ,S,Q,h=>by
  simp only[wE]at h;simp only[evE,zaa];refine(wE_W a h).mono fun x S1 h1=>?_;cases x with
  |bl k=>unfold wIf at h1;cases k with|true=>exact h1|false=>exact wE_W b h1
  |_=>exact h1.elim
 |.ite c a b,δ,S,Q,h=>by simp only[wE]at h;simp only[evE,zaa];refine(wT_W c h).mono fun k S1 h1=>?_;unfold wIf at h1;cases k with|true=>exact wE_W a h1|false=>exact wE_W b h1
 |.tup es,δ,S,Q,h=>by simp only[wE]at h;simp only[evE,zaa];refine(zdt es h).mono fun ds S1 h1=>?_;unfold zaM at h1;rw[if_pos h1.1];exact h1.2| .lst es,δ,S,Q,h=>by simp only[wE]at h;simp only[evE,zaa];exact(zdt es h).mono fun ds S1 h1=>zds h1| .mk c f _ j es,δ,S,Q,h=>by simp only[wE]at h;simp only[evE,zaa];refine(zdt es h).mono fun ds S1 h1=>?_;unfold wOut at h1;refine h1.mono fun d S2 h2=>?_;unfold zaM at h2;rw[if_pos h2.1];exact h2.2| .mkX c _ f a,δ,S,Q,h=>by simp only[wE]at h;simp only[evE,zaa];exact(wE_W a h).mono fun d S1 h1=>h1| .fldX a f,δ,S,Q,h=>by simp only[wE]at h;simp only[evE,zaa];refine(wE_W a h).mono fun x S1 h1=>?_;unfold wOpt at h1;cases e:zbo S1 x with|none=>rw[e]at h1;exact h1.elim| some p=>rw[e]at h1;dsimp only at h1;rw[bind_some];cases e2:p.2.lookup f with|none=>rw[e2]at h1;exact h1.elim|some d=>rw[e2]at h1;exact h1
 |.iscX cs _ a,δ,S,Q,h=>by simp only[wE]at h;simp only[evE,zaa];refine(wE_W a h).mono fun x S1 h1=>?_;unfold wOpt at h1;cases e:zbo S1 x with|none=>rw[e]at h1;exact h1.elim|some p=>rw[e]at h1;exact h1
 |.ix a b,δ,S,Q,h=>by
  simp only[wE]at h;simp only[evE,zaa];refine(wE_W a h).mono fun x S1 h1=>(wE_W b h1).mono fun y S2 h2=>?_;obtain⟨ds,e,h3⟩:=zfO h2;rw[e];cases y with
  |int i=>unfold wOpt at h3;simp only at h3⊢;cases e2:atI ds i with|none=>rw[e2]at h3;exact h3.elim|some d=>rw[e2]at h3;exact h3
  |_=>exact h3.elim
 |.insL o a b,δ,S,Q,h=>by simp only[wE]at h;simp only[evE,zaa];refine(wE_W o h).mono fun x S1 h1=>?_;obtain⟨c,h2⟩:=zfQ h1;rw[if_pos c,zaa];refine(wE_W a h2).mono fun y S2 h3=>?_;rw[zaa];refine(wE_W b h3).mono fun z S3 h4=>?_;unfold wOut at h4;exact h4| .sl a ml mh lo hi,δ,S,Q,h=>by
  simp only[wE]at h;simp only[evE,zaa];refine(wE_W a h).mono fun x S1 h1=>(wE_W lo h1).mono fun y S2 h2=>(wE_W hi h2).mono fun z S3 h3=>?_;cases ey:zaE ml y with
  |none=>rw[ey]at h3;exact h3.elim| some l=>
   cases ez:zaE mh z with
   |none=>rw[ey,ez]at h3;exact h3.elim| some u=>
    rw[ey,ez]at h3;cases x with
    |tup ds=>exact h3|fix ds=>exact zds h3| ref p=>unfold wGet wOpt at h3;simp only at h3⊢;cases e:S3.get p with|none=>rw[e]at h3;exact h3.elim|some o=>rw[e]at h3;cases o<;>first|exact zds h3|exact h3.elim
    |_=>exact h3.elim
 |.call f j es,δ,S,Q,h=>by simp only[wE]at h;simp only[evE,zaa];refine(zdt es h).mono fun ds S1 h1=>?_;unfold wOut at h1;exact h1| .bi b es,δ,S,Q,h=>by simp only[wE]at h;simp only[evE,zaa];exact(zdt es h).mono fun ds S1 h1=>znf h1| .mt m o es,δ,S,Q,h=>by simp only[wE]at h;simp only[evE,zaa];refine(wE_W o h).mono fun x S1 h1=>?_;obtain⟨c,h2⟩:=zfQ h1;rw[if_pos c,zaa];exact(zdt es h2).mono fun ds S2 h3=>znd h3| .mkL l,δ,S,Q,h=>by simp only[wE]at h;simp only[evE,zaa];exact(wL_W l h).mono fun ds S1 h1=>zds h1| .mkT l,δ,S,Q,h=>by simp only[wE]at h;simp only[evE,zaa];refine(wL_W l h).mono fun r S1 h1=>?_;unfold zaM at h1;rw[if_pos h1.1];exact h1.2| .all l,δ,S,Q,h=>by simp only[wE]at h;simp only[evE,zaa];refine(wL_W l h).mono fun r S1 h1=>?_;unfold wOpt at h1;cases e:allD r.1 with|none=>rw[e]at h1;exact h1.elim|some d=>rw[e]at h1;exact h1
 |.lenset l,δ,S,Q,h=>by simp only[wE]at h;simp only[evE,zaa];refine(wL_W l h).mono fun r S1 h1=>?_;unfold wOpt at h1;cases e:zcR r.1 with|none=>rw[e]at h1;exact h1.elim| some d=>rw[e]at h1;unfold zaM at h1;simp only[lift,W_ok];rw[if_pos h1.1];exact h1.2
 |.tx t es,δ,S,Q,h=>by simp only[wE]at h;simp only[evE,zaa];refine(zdt es h).mono fun ds S1 h1=>?_;unfold wOut at h1;exact h1
theorem zdt:∀(es:CEs){δ:Ev}{S:St}{Q:List D->St->Prop},wEs cf es δ S Q->W (evEs cf es δ S) Q
 |.nil,δ,S,Q,h=>by simp only[wEs]at h;simp only[evEs];exact h| .cons e r,δ,S,Q,h=>by simp only[wEs]at h;simp only[evEs,zaa];exact(wE_W e h).mono fun d S1 h1=>(zdt r h1).mono fun ds S2 h2=>h2
theorem wT_W:∀(e:CE){δ:Ev}{S:St}{Q:Bool->St->Prop},wT cf e δ S Q->W (evT cf e δ S) Q
 |.cmp op a b,δ,S,Q,h=>by simp only[wT]at h;simp only[evT,zaa];exact(wE_W a h).mono fun x S1 h1=>(wE_W b h1).mono fun y S2 h2=>zeH h2| .cmp2 op op' a b c,δ,S,Q,h=>by simp only[wT]at h;simp only[evT,zaa];refine(wE_W a h).mono fun x S1 h1=>(wE_W b h1).mono fun y S2 h2=>?_;obtain⟨k,e,hk⟩:=zcY h2;rw[e];unfold wIf at hk;cases k with|false=>exact hk| true=>simp only[if_true,lift,W_ok,zaa]at hk⊢;exact(wE_W c hk).mono fun z S4 h4=>zeH h4
 |.nt a,δ,S,Q,h=>by simp only[wT]at h;simp only[evT,zaa];exact(wT_W a h).mono fun k S1 h1=>h1| .and a b,δ,S,Q,h=>by simp only[wT]at h;simp only[evT,zaa];refine(wT_W a h).mono fun k S1 h1=>?_;unfold wIf at h1;cases k with|false=>exact h1|true=>exact wT_W b h1
 |.or a b,δ,S,Q,h=>by simp only[wT]at h;simp only[evT,zaa];refine(wT_W a h).mono fun k S1 h1=>?_;unfold wIf at h1;cases k with|true=>exact h1|false=>exact wT_W b h1
 |.tst e,δ,S,Q,h=>by simp only[wT]at h;simp only[evT,zaa];exact(wE_W e h).mono fun x S1 h1=>zkM h1|.loc i,δ,S,Q,h=>by simp only[wT]at h|.con d,δ,S,Q,h=>by simp only[wT]at h|.bin op a b,δ,S,Q,h=>by simp only[wT]at h|.neg a,δ,S,Q,h=>by simp only[wT]at h|.ite c a b,δ,S,Q,h=>by simp only[wT]at h|.tup es,δ,S,Q,h=>by simp only[wT]at h|.lst es,δ,S,Q,h=>by simp only[wT]at h|.mk c f x j es,δ,S,Q,h=>by simp only[wT]at h|.mkX c x f a,δ,S,Q,h=>by simp only[wT]at h|.fldX a f,δ,S,Q,h=>by simp only[wT]at h|.iscX cs x a,δ,S,Q,h=>by simp only[wT]at h|.ix a b,δ,S,Q,h=>by simp only[wT]at h|.insL o a b,δ,S,Q,h=>by simp only[wT]at h|.sl a ml mh lo hi,δ,S,Q,h=>by simp only[wT]at h|.call f j es,δ,S,Q,h=>by simp only[wT]at h|.bi b es,δ,S,Q,h=>by simp only[wT]at h|.mt m o es,δ,S,Q,h=>by simp only[wT]at h|.mkL l,δ,S,Q,h=>by simp only[wT]at h|.mkT l,δ,S,Q,h=>by simp only[wT]at h|.all l,δ,S,Q,h=>by simp only[wT]at h|.lenset l,δ,S,Q,h=>by simp only[wT]at h|.tx t es,δ,S,Q,h=>by simp only[wT]at h
theorem wL_W:∀(l:CL){δ:Ev}{S:St}{Q:List D×List Nat->St->Prop},wL cf l δ S Q->W (evL cf l δ S) Q
 |.val e,δ,S,Q,h=>by simp only[wL]at h;simp only[evL,zaa];refine(wE_W e h).mono fun x S1 h1=>?_;obtain⟨ds,e,h2⟩:=zfO h1;rw[e];exact h2| .rng1 a,δ,S,Q,h=>by simp only[wL]at h;simp only[evL,zaa];refine(wE_W a h).mono fun x S1 h1=>?_;cases x with| int j=>unfold zaM at h1;simp only;rw[if_pos h1.1];exact h1.2|_=>exact h1.elim
 |.txt a,δ,S,Q,h=>by simp only[wL]at h;simp only[evL,zaa];refine(wE_W a h).mono fun x S1 h1=>?_;unfold wOpt at h1;cases e:zft x with|none=>rw[e]at h1;exact h1.elim|some r=>rw[e]at h1;exact h1
 |.comp n js g it c e,δ,S,Q,h=>by simp only[wL]at h;simp only[evL,zaa];refine(wL_W it h).mono fun r S1 h1=>(zfP h1).mono fun ds S3 h3=>?_;unfold zaM at h3;rw[if_pos h3.1];exact h3.2
end
theorem wS_W:∀(s:CS){δ:Ev}{S:St}{Q:Fl->St->Prop},wS cf s δ S Q->W (exS cf s δ S) Q
 |.nil,δ,S,Q,h=>by simp[wS]at h;simp[exS];exact h|.stop,δ,S,Q,h=>by simp[wS]at h| .asg i e r,δ,S,Q,h=>by simp[wS]at h;simp[exS,zaa];exact(wE_W e h).mono fun x S1 h1=>wS_W r h1| .asgT g e r,δ,S,Q,h=>by simp[wS]at h;simp[exS,zaa];refine(wE_W e h).mono fun x S1 h1=>?_;unfold wOpt at h1;cases e:asgG g x δ with|none=>rw[e]at h1;exact h1.elim|some d=>rw[e]at h1;exact wS_W r h1
 |.setIx a b e r,δ,S,Q,h=>by simp[wS]at h;simp[exS,zaa];refine(wE_W e h).mono fun v S1 h1=>(wE_W a h1).mono fun x S2 h2=>(wE_W b h2).mono fun y S3 h3=>?_;unfold wOpt at h3;cases e:dPut S3 x y v with|none=>rw[e]at h3;exact h3.elim|some S4=>rw[e]at h3;exact wS_W r h3
 |.setF a f e r,δ,S,Q,h=>by simp[wS]at h;simp[exS,zaa];refine(wE_W e h).mono fun v S1 h1=>(wE_W a h1).mono fun x S2 h2=>?_;unfold wOpt at h2;cases e:zbm S2 x f v with|none=>rw[e]at h2;exact h2.elim|some S3=>rw[e]at h2;exact wS_W r h2
 |.ifS c t u r,δ,S,Q,h=>by
  simp[wS]at h;simp[exS,zaa];refine(wT_W c h).mono fun k S1 h1=>?_;unfold wIf at h1;have nx:∀(f:Fl)(S2:St),(match f with|.nx δ'=>wS cf r δ' S2 Q|.rt d=>Q (.rt d) S2|.ex d=>Q (.ex d) S2)->W (match f with|.nx δ'=>exS cf r δ' S2|.rt d=>.ok (.rt d) S2|.ex d=>.ok (.ex d) S2) Q:=fun f S2 q=>by cases f with|nx δ'=>exact wS_W r q|rt d=>exact q|ex d=>exact q
  cases k with|true=>exact(wS_W t h1).mono nx|false=>exact(wS_W u h1).mono nx
 |.forS g l b r,δ,S,Q,h=>by simp[exS,zaa];refine(wL_W l h).mono fun q S1 h1=>(zfP h1).mono fun f S2 q=>?_;cases f with|nx δ'=>exact wS_W r q|rt d=>exact q|ex d=>exact q
 |.ret e r,δ,S,Q,h=>by simp[exS,zaa];exact(wE_W e h).mono fun x S1 h1=>h1| .expr e r,δ,S,Q,h=>by simp[exS,zaa];exact(wE_W e h).mono fun x S1 h1=>wS_W r h1| .rais c x f a,δ,S,Q,h=>by simp[exS,zaa];exact(wE_W a h).mono fun d S1 h1=>h1| .tryS b x ie ix r,δ,S,Q,h=>by simp[wS]at h;unfold wOut at h;exact h| .blk b r,δ,S,Q,h=>by simp[wS]at h;unfold wOut at h;exact h
@[irreducible]def wFin(S:St)(r:Fl)(T:St)(Q:D->St->Prop):Prop:=W (fin S r T) Q
theorem zob(h:P[f]?=some F)(hl:ds.length=F.np)(w:wS (callF P n) F.body (zaI F ds) S.enter fun r T=>wFin S r T Q)(hp:F.prim=none:=by rfl) :
  W (app (callF P (n+1)) f ds S) Q:=by
 rw[ziX h hl hp,zaa,W_ne];refine(wS_W _ w).mono fun r T q=>?_;unfold wFin at q;exact q
theorem zb8(h:P[f]?=some F)(hl:ds.length=F.np)(w:wS (callF P n) F.body (zaI F ds) S.enter fun r T=>wFin S r T fun a T'=>a=d/\T'=S')(hp:F.prim=none:=by rfl) :
 app (callF P (n+1)) f ds S=.ok d S':=W.eq (zob h hl w hp)
theorem zak(h:flat S.len d=true)(q:Q d S):wFin S (.rt d) T Q:=by unfold wFin;rw[ziN,zcO S d T h];exact q
end
structure Frm(S S':St):Prop where
 frz:S'.frz=S.frz
 lk:S'.lk=S.lk
 len:S.new.length<=S'.new.length
 same:∀l∈S.lk,l<S.len->S'.get l=S.get l
theorem Frm.refl(S:St):Frm S S:=⟨rfl,rfl,le_refl _,fun _ _ _=>rfl⟩
theorem Frm.lens(h:Frm S S'):S.len<=S'.len:=by unfold St.len;rw[h.frz];have:=h.len;omega
theorem Frm.trans(a:Frm S S1)(b:Frm S1 S2):Frm S S2:=⟨b.frz.trans a.frz,b.lk.trans a.lk,le_trans a.len b.len,fun l hl h=>(b.same l (by rw[a.lk];exact hl) (lt_of_lt_of_le h a.lens)).trans (a.same l hl h)⟩
theorem Frm.push(S:St)(o:MO):Frm S (S.push o):=by refine⟨rfl,rfl,by simp[St.push],fun l _ h=>?_⟩;unfold St.len at h;unfold St.get St.push;simp only;split;rfl;rw[getElem?_append_left (by omega)]
theorem Frm.put(h:S.put l o=some S'):Frm S S':=by
 unfold St.put at h;split at h;cases h;split at h;cases h;rename_i h1 h2;injection h with h;subst h;refine⟨rfl,rfl,by simp,fun m hm hl=>?_⟩;have hne:m≠l:=fun e=>by subst e;exact h2 (by simpa using hm)
 unfold St.get;simp only;split;rfl;rw[getElem?_set_ne (by omega)]
abbrev WF(S:St)(o:Out α)(Q:α->St->Prop):Prop:=W o fun a S'=>Q a S'/\Frm S S'
theorem WF.bind{f:α->St->Out β}(h:WF S o fun a S1=>W (f a S1) Q)(hf:∀a S1,W (f a S1) Q->WF S1 (f a S1) Q):WF S (o.bind f) Q:=by rw[WF,zaa];exact h.mono fun a S1 ⟨q,f1⟩=>(hf a S1 q).mono fun b S2 ⟨q2,f2⟩=>⟨q2,f1.trans f2⟩
theorem zfG(h:W (lay S ds) Q):WF S (lay S ds) Q:=by unfold lay at h⊢;split;rename_i c;rw[if_pos c]at h;exact⟨h,Frm.push _ _⟩;rename_i c;rw[if_neg c]at h;exact h.elim
theorem wr_F(h:W (wr S l ds d) Q):WF S (wr S l ds d) Q:=by
 unfold wr at h⊢;split;rename_i c;rw[if_pos c]at h;cases e:S.put l (.lst ds) with|none=>rw[e]at h;exact h.elim|some S'=>rw[e]at h;exact⟨h,Frm.put e⟩
 rename_i c;rw[if_neg c]at h;exact h.elim
theorem zaQ(h:W (lift S o) Q):WF S (lift S o) Q:=by cases o with|none=>exact h.elim|some a=>exact⟨h,Frm.refl S⟩
theorem zmV(h:W (binD S op x y) Q):WF S (binD S op x y) Q:=by
 unfold binD at h⊢;split
 . unfold binI at h⊢;cases op<;>dsimp only at h⊢<;> first
    |exact⟨h,Frm.refl S⟩
    |exact h.elim
    | (split at h
       rename_i c;rw[if_pos c];exact⟨h,Frm.refl S⟩;exact h.elim)
 . dsimp only at h;cases op<;>dsimp only at h⊢<;> first
    |exact False.elim h
    | (split at h
       rename_i c;rw[if_pos c];exact⟨h,Frm.refl S⟩;exact False.elim h)
 dsimp only at h;split at h;exact zfG h;exact False.elim h;rename_i h1 h2 h3;split at h;exact(h1 _ _ rfl rfl).elim;exact(h2 _ _ rfl rfl).elim;exact(h3 _ _ rfl rfl).elim;exact False.elim h
theorem znk(h:W (txD S t ds) Q):WF S (txD S t ds) Q:=by
 have key:∀o,o=txD S t ds->W o Q->WF S o Q:=by
  intro o e h;unfold txD at e
  repeat' split at e
  all_goals (subst e;first|exact h.elim|exact zfG h|exact⟨h,Frm.refl _⟩)
 exact key _ rfl h
theorem bi_F(h:W (bi S b ds) Q):WF S (bi S b ds) Q:=by
 unfold bi at h⊢;split;rename_i x;cases x with
 |tup ds=>exact⟨h,Frm.refl S⟩|fix ds=>exact⟨h,Frm.refl S⟩| ref l=>dsimp only at h⊢;cases e:S.get l with|none=>rw[e]at h;exact False.elim h|some o=>rw[e]at h;cases o<;>first|exact⟨h,Frm.refl S⟩|exact False.elim h
 |_=>exact False.elim h
 exact⟨h,Frm.refl S⟩;dsimp only at h;split at h;exact⟨h,Frm.refl S⟩;exact False.elim h;exact False.elim (by simpa using h)
theorem mt_F(h:W (mt S m x ds) Q):WF S (mt S m x ds) Q:=by unfold mt at h⊢;split;dsimp only at h;split at h;exact wr_F h;exact False.elim h;exact False.elim (by simpa using h)
theorem zkj(h:W (zdV S x y z) Q):WF S (zdV S x y z) Q:=by unfold zdV at h⊢;split;dsimp only at h;split at h;split at h;rename_i c;rw[if_pos c];exact wr_F h;exact False.elim h;exact False.elim h;exact False.elim (by simpa using h)
theorem Frm.keep(S T:St):Frm S ⟨S.frz,S.new++T.new,S.lk⟩:=by refine⟨rfl,rfl,by simp,fun l _ h=>?_⟩;unfold St.len at h;unfold St.get;simp only;split;rfl;rw[getElem?_append_left (by omega)]
theorem zeM(h:zbm S x f v=some S'):Frm S S':=by unfold zbm at h;split at h;split at h;split at h;exact Frm.put h;cases h;cases h;cases h
theorem zmM(h:dPut S x y v=some S'):Frm S S':=by
 unfold dPut at h;split at h;split at h;cases e:zeu y with
 |none=>rw[e]at h;cases h
 |some k=>
  rw[e,bind_some]at h;rename_i ds _;cases e2:ixN ds.length k with
  |none=>rw[e2]at h;cases h
  |some j=>rw[e2,bind_some]at h;exact Frm.put h
 cases h;cases h
theorem zgC(h:W (za2 S d T) Q):WF S (za2 S d T) Q:=by unfold za2 at h⊢;split;rename_i c;rw[if_pos c]at h;exact⟨h,Frm.refl S⟩;rename_i c;rw[if_neg c]at h;split at h;split at h;split at h;rename_i c;rw[if_pos c];exact⟨h,Frm.push _ _⟩;rename_i c;rw[if_neg c];exact⟨h,Frm.keep _ _⟩;exact⟨h,Frm.keep _ _⟩;exact⟨h,Frm.keep _ _⟩
theorem zoc(h:W (app cf f ds S) Q):WF S (app cf f ds S) Q:=by unfold app at h⊢;cases e:cf f ds S.enter with|ok d T=>rw[e]at h;exact zgC h|err d T=>rw[e]at h;exact h.elim|bad=>rw[e]at h;exact h.elim
theorem Frm.unlock(h:Frm {S with lk:=ls++S.lk} T):Frm S {T with lk:=S.lk}:=⟨h.frz,rfl,h.len,fun l hl hn=>h.same l (mem_append_right _ hl) hn⟩
theorem ze2(h:W (zaY ls S f) Q)(hf:∀Q',W (f {S with lk:=ls++S.lk}) Q'->WF {S with lk:=ls++S.lk} (f {S with lk:=ls++S.lk}) Q'):WF S (zaY ls S f) Q:=by unfold zaY at h⊢;rw[zaa]at h;rw[WF,zaa];exact(hf _ h).mono fun a T ⟨q,fr⟩=>⟨q,fr.unlock⟩
theorem zcZ(hc:∀δ S Q,W (c δ S) Q->WF S (c δ S) Q)(he:∀δ S Q,W (e δ S) Q->WF S (e δ S) Q) :
  ∀(xs:List D)(δ:Ev)(S:St)(Q:List D->St->Prop),W (za4 g c e xs δ S) Q->WF S (za4 g c e xs δ S) Q
 | [],δ,S,Q,h=>⟨h,Frm.refl S⟩| x::xs,δ,S,Q,h=>by simp[za4]at h⊢;cases ea:asgG g x δ with|none=>rw[ea]at h;exact h.elim| some δ'=>rw[ea]at h;rw[zaa]at h;refine WF.bind (hc _ _ _ h) fun b S1 h1=>?_;cases b with| false=>exact zcZ hc he xs δ' S1 Q h1| true=>simp only[if_true]at h1⊢;rw[zaa]at h1;refine WF.bind (he _ _ _ h1) fun d S2 h2=>?_;rw[zaa]at h2;exact WF.bind (zcZ hc he xs δ' S2 _ h2) fun ds S3 h3=>⟨h3,Frm.refl _⟩
theorem zeK(hb:∀δ S Q,W (b δ S) Q->WF S (b δ S) Q) :
  ∀(xs:List D)(δ:Ev)(S:St)(Q:Fl->St->Prop),W (zaT g b xs δ S) Q->WF S (zaT g b xs δ S) Q
 | [],δ,S,Q,h=>⟨h,Frm.refl S⟩| x::xs,δ,S,Q,h=>by simp[zaT]at h⊢;cases ea:asgG g x δ with|none=>rw[ea]at h;exact h.elim| some δ'=>rw[ea]at h;rw[zaa]at h;refine WF.bind (hb _ _ _ h) fun f S1 h1=>?_;cases f with|nx δ2=>exact zeK hb xs δ2 S1 Q h1|rt d=>exact⟨h1,Frm.refl _⟩|ex d=>exact⟨h1,Frm.refl _⟩
def CFok(cf:CF):Prop:=∀f ds S d T,(cf f ds S=.ok d T\/cf f ds S=.err d T)->Frm S T
theorem appW_F(hcf:CFok cf)(h:W (appW cf f ds S) Q):WF S (appW cf f ds S) Q:=by unfold appW at h⊢;cases e:cf f ds S with|ok d T=>rw[e]at h;exact⟨h,hcf f ds S d T (.inl e)⟩|err d T=>rw[e]at h;exact h.elim|bad=>rw[e]at h;exact h.elim
section
variable{cf:CF}(hcf:CFok cf)
include hcf
mutual
theorem zal:∀(e:CE)(δ:Ev)(S:St)(Q:D->St->Prop),W (evE cf e δ S) Q->WF S (evE cf e δ S) Q
 |.loc i,δ,S,Q,h=>by simp only[evE]at h⊢;exact zaQ h|.con d,δ,S,Q,h=>by simp only[evE]at h⊢;exact⟨h,Frm.refl S⟩|.tst _,δ,S,Q,h=>by simp only[evE]at h;exact h.elim| .bin op a b,δ,S,Q,h=>by simp only[evE]at h⊢;rw[zaa]at h;refine WF.bind (zal a δ S _ h) fun x S1 h1=>?_;rw[zaa]at h1;exact WF.bind (zal b δ S1 _ h1) fun y S2 h2=>zmV h2| .neg a,δ,S,Q,h=>by simp only[evE]at h⊢;rw[zaa]at h;refine WF.bind (zal a δ S _ h) fun x S1 h1=>?_;cases x<;>first|exact⟨h1,Frm.refl _⟩|exact h1.elim
 |.nt a,δ,S,Q,h=>by simp only[evE]at h⊢;rw[zaa]at h;refine WF.bind (zal a δ S _ h) fun x S1 h1=>?_;cases x<;>first|exact⟨h1,Frm.refl _⟩|exact h1.elim
 |.cmp op a b,δ,S,Q,h=>by simp only[evE]at h⊢;rw[zaa]at h;refine WF.bind (zal a δ S _ h) fun x S1 h1=>?_;rw[zaa]at h1;refine WF.bind (zal b δ S1 _ h1) fun y S2 h2=>?_;rw[zaa]at h2;exact WF.bind (zaQ h2) fun k S3 h3=>⟨h3,Frm.refl _⟩| .cmp2 op op' a b c,δ,S,Q,h=>by simp only[evE]at h⊢;rw[zaa]at h;refine WF.bind (zal a δ S _ h) fun x S1 h1=>?_;rw[zaa]at h1;refine WF.bind (zal b δ S1 _ h1) fun y S2 h2=>?_;rw[zaa]at h2;refine WF.bind (zaQ h2) fun k S3 h3=>?_;cases k with|false=>exact⟨h3,Frm.refl _⟩| true=>simp only[if_true]at h3⊢;rw[zaa]at h3;refine WF.bind (zal c δ S3 _ h3) fun z S4 h4=>?_;rw[zaa]at h4;exact WF.bind (zaQ h4) fun k S3 h3=>⟨h3,Frm.refl _⟩
 |.and a b,δ,S,Q,h=>by
  simp only[evE]at h⊢;rw[zaa]at h;refine WF.bind (zal a δ S _ h) fun x S1 h1=>?_;cases x with
  |bl k=>cases k with|false=>exact⟨h1,Frm.refl _⟩|true=>exact zal b δ S1 Q h1
  |_=>exact h1.elim
 |.or a b,δ,S,Q,h=>by
  simp only[evE]at h⊢;rw[zaa]at h;refine WF.bind (zal a δ S _ h) fun x S1 h1=>?_;cases x with
  |bl k=>cases k with|true=>exact⟨h1,Frm.refl _⟩|false=>exact zal b δ S1 Q h1
  |_=>exact h1.elim
 |.ite c a b,δ,S,Q,h=>by simp only[evE]at h⊢;rw[zaa]at h;refine WF.bind (zcK c δ S _ h) fun k S1 h1=>?_;cases k with|true=>exact zal a δ S1 Q h1|false=>exact zal b δ S1 Q h1
 |.tup es,δ,S,Q,h=>by simp only[evE]at h⊢;rw[zaa]at h;refine WF.bind (zbd es δ S _ h) fun ds S1 h1=>?_;split at h1;rename_i c;rw[if_pos c];exact⟨h1,Frm.refl _⟩;exact h1.elim| .lst es,δ,S,Q,h=>by simp only[evE]at h⊢;rw[zaa]at h;exact WF.bind (zbd es δ S _ h) fun ds S1 h1=>zfG h1| .mk c f _ j es,δ,S,Q,h=>by simp only[evE]at h⊢;rw[zaa]at h;refine WF.bind (zbd es δ S _ h) fun ds S1 h1=>?_;rw[zaa]at h1;have h2:=(appW_F hcf h1:WF (S1.push (.ins c [])) _ _);refine WF.bind (h2.mono fun d T q=>⟨q.1,(Frm.push S1 _).trans q.2⟩) fun d S2 h3=>?_;split at h3;rename_i c;rw[if_pos c];exact⟨h3,Frm.refl _⟩;exact h3.elim| .mkX c _ f a,δ,S,Q,h=>by simp only[evE]at h⊢;rw[zaa]at h;exact WF.bind (zal a δ S _ h) fun d S1 h1=>⟨h1,Frm.push _ _⟩| .fldX a f,δ,S,Q,h=>by simp only[evE]at h⊢;rw[zaa]at h;exact WF.bind (zal a δ S _ h) fun x S1 h1=>zaQ h1| .iscX cs _ a,δ,S,Q,h=>by simp only[evE]at h⊢;rw[zaa]at h;refine WF.bind (zal a δ S _ h) fun x S1 h1=>?_;rw[zaa]at h1;exact WF.bind (zaQ h1) fun p S2 h2=>⟨h2,Frm.refl _⟩| .ix a b,δ,S,Q,h=>by simp only[evE]at h⊢;rw[zaa]at h;refine WF.bind (zal a δ S _ h) fun x S1 h1=>?_;rw[zaa]at h1;refine WF.bind (zal b δ S1 _ h1) fun y S2 h2=>?_;split at h2;exact zaQ h2;exact h2.elim| .insL o a b,δ,S,Q,h=>by simp only[evE]at h⊢;rw[zaa]at h;refine WF.bind (zal o δ S _ h) fun x S1 h1=>?_;split at h1;rename_i c;rw[if_pos c];rw[zaa]at h1;refine WF.bind (zal a δ S1 _ h1) fun y S2 h2=>?_;rw[zaa]at h2;exact WF.bind (zal b δ S2 _ h2) fun z S3 h3=>zkj h3;exact h1.elim| .sl a ml mh lo hi,δ,S,Q,h=>by simp only[evE]at h⊢;rw[zaa]at h;refine WF.bind (zal a δ S _ h) fun x S1 h1=>?_;rw[zaa]at h1;refine WF.bind (zal lo δ S1 _ h1) fun y S2 h2=>?_;rw[zaa]at h2;refine WF.bind (zal hi δ S2 _ h2) fun z S3 h3=>?_;split at h3;split at h3;exact⟨h3,Frm.refl _⟩;exact zfG h3;split at h3;exact zfG h3;exact h3.elim;exact h3.elim;exact h3.elim| .call f j es,δ,S,Q,h=>by simp only[evE]at h⊢;rw[zaa]at h;exact WF.bind (zbd es δ S _ h) fun ds S1 h1=>zoc h1| .bi b es,δ,S,Q,h=>by simp only[evE]at h⊢;rw[zaa]at h;exact WF.bind (zbd es δ S _ h) fun ds S1 h1=>bi_F h1| .mt m o es,δ,S,Q,h=>by simp only[evE]at h⊢;rw[zaa]at h;refine WF.bind (zal o δ S _ h) fun x S1 h1=>?_;split at h1;rename_i c;rw[if_pos c];rw[zaa]at h1;exact WF.bind (zbd es δ S1 _ h1) fun ds S2 h2=>mt_F h2;exact h1.elim| .mkL l,δ,S,Q,h=>by simp only[evE]at h⊢;rw[zaa]at h;exact WF.bind (zey l δ S _ h) fun r S1 h1=>zfG h1| .mkT l,δ,S,Q,h=>by simp only[evE]at h⊢;rw[zaa]at h;refine WF.bind (zey l δ S _ h) fun r S1 h1=>?_;split at h1;rename_i c;rw[if_pos c];exact⟨h1,Frm.refl _⟩;exact h1.elim| .all l,δ,S,Q,h=>by simp only[evE]at h⊢;rw[zaa]at h;refine WF.bind (zey l δ S _ h) fun r S1 h1=>?_;rw[zaa]at h1;exact WF.bind (zaQ h1) fun k S3 h3=>⟨h3,Frm.refl _⟩| .lenset l,δ,S,Q,h=>by simp only[evE]at h⊢;rw[zaa]at h;refine WF.bind (zey l δ S _ h) fun r S1 h1=>?_;rw[zaa]at h1;refine WF.bind (zaQ h1) fun k S3 h3=>?_;split at h3;rename_i c;rw[if_pos c];exact⟨h3,Frm.refl _⟩;exact h3.elim| .tx t es,δ,S,Q,h=>by simp only[evE]at h⊢;rw[zaa]at h;exact WF.bind (zbd es δ S _ h) fun ds S1 h1=>znk h1
theorem zbd:∀(es:CEs)(δ:Ev)(S:St)(Q:List D->St->Prop),W (evEs cf es δ S) Q->WF S (evEs cf es δ S) Q
 |.nil,δ,S,Q,h=>by simp only[evEs]at h⊢;exact⟨h,Frm.refl S⟩| .cons e r,δ,S,Q,h=>by simp only[evEs]at h⊢;rw[zaa]at h;refine WF.bind (zal e δ S _ h) fun x S1 h1=>?_;rw[zaa]at h1;exact WF.bind (zbd r δ S1 _ h1) fun k S3 h3=>⟨h3,Frm.refl _⟩
theorem zcK:∀(e:CE)(δ:Ev)(S:St)(Q:Bool->St->Prop),W (evT cf e δ S) Q->WF S (evT cf e δ S) Q
 |.cmp op a b,δ,S,Q,h=>by simp only[evT]at h⊢;rw[zaa]at h;refine WF.bind (zal a δ S _ h) fun x S1 h1=>?_;rw[zaa]at h1;exact WF.bind (zal b δ S1 _ h1) fun y S2 h2=>zaQ h2| .cmp2 op op' a b c,δ,S,Q,h=>by simp only[evT]at h⊢;rw[zaa]at h;refine WF.bind (zal a δ S _ h) fun x S1 h1=>?_;rw[zaa]at h1;refine WF.bind (zal b δ S1 _ h1) fun y S2 h2=>?_;rw[zaa]at h2;refine WF.bind (zaQ h2) fun k S3 h3=>?_;cases k with|false=>exact⟨h3,Frm.refl _⟩| true=>simp only[if_true]at h3⊢;rw[zaa]at h3;exact WF.bind (zal c δ S3 _ h3) fun z S4 h4=>zaQ h4
 |.nt a,δ,S,Q,h=>by simp only[evT]at h⊢;rw[zaa]at h;exact WF.bind (zcK a δ S _ h) fun k S3 h3=>⟨h3,Frm.refl _⟩| .and a b,δ,S,Q,h=>by simp only[evT]at h⊢;rw[zaa]at h;refine WF.bind (zcK a δ S _ h) fun k S1 h1=>?_;cases k with|false=>exact⟨h1,Frm.refl _⟩|true=>exact zcK b δ S1 Q h1
 |.or a b,δ,S,Q,h=>by simp only[evT]at h⊢;rw[zaa]at h;refine WF.bind (zcK a δ S _ h) fun k S1 h1=>?_;cases k with|true=>exact⟨h1,Frm.refl _⟩|false=>exact zcK b δ S1 Q h1
 |.tst e,δ,S,Q,h=>by simp only[evT]at h⊢;rw[zaa]at h;exact WF.bind (zal e δ S _ h) fun k S3 h3=>zaQ h3|.loc i,δ,S,Q,h=>by simp only[evT]at h;exact h.elim|.con d,δ,S,Q,h=>by simp only[evT]at h;exact h.elim|.bin op a b,δ,S,Q,h=>by simp only[evT]at h;exact h.elim|.neg a,δ,S,Q,h=>by simp only[evT]at h;exact h.elim|.ite c a b,δ,S,Q,h=>by simp only[evT]at h;exact h.elim|.tup es,δ,S,Q,h=>by simp only[evT]at h;exact h.elim|.lst es,δ,S,Q,h=>by simp only[evT]at h;exact h.elim|.mk c f x j es,δ,S,Q,h=>by simp only[evT]at h;exact h.elim|.mkX c x f a,δ,S,Q,h=>by simp only[evT]at h;exact h.elim|.fldX a f,δ,S,Q,h=>by simp only[evT]at h;exact h.elim|.iscX cs x a,δ,S,Q,h=>by simp only[evT]at h;exact h.elim|.ix a b,δ,S,Q,h=>by simp only[evT]at h;exact h.elim|.insL o a b,δ,S,Q,h=>by simp only[evT]at h;exact h.elim|.sl a ml mh lo hi,δ,S,Q,h=>by simp only[evT]at h;exact h.elim|.call f j es,δ,S,Q,h=>by simp only[evT]at h;exact h.elim|.bi b es,δ,S,Q,h=>by simp only[evT]at h;exact h.elim|.mt m o es,δ,S,Q,h=>by simp only[evT]at h;exact h.elim|.mkL l,δ,S,Q,h=>by simp only[evT]at h;exact h.elim|.mkT l,δ,S,Q,h=>by simp only[evT]at h;exact h.elim|.all l,δ,S,Q,h=>by simp only[evT]at h;exact h.elim|.lenset l,δ,S,Q,h=>by simp only[evT]at h;exact h.elim|.tx t es,δ,S,Q,h=>by simp only[evT]at h;exact h.elim
theorem zey:∀(l:CL)(δ:Ev)(S:St)(Q:List D×List Nat->St->Prop),W (evL cf l δ S) Q->WF S (evL cf l δ S) Q
 |.val e,δ,S,Q,h=>by simp only[evL]at h⊢;rw[zaa]at h;refine WF.bind (zal e δ S _ h) fun x S1 h1=>?_;rw[zaa]at h1;exact WF.bind (zaQ h1) fun k S3 h3=>⟨h3,Frm.refl _⟩| .rng1 a,δ,S,Q,h=>by simp only[evL]at h⊢;rw[zaa]at h;refine WF.bind (zal a δ S _ h) fun x S1 h1=>?_;cases x with| int j=>dsimp only at h1⊢;split at h1;rename_i c;rw[if_pos c];exact⟨h1,Frm.refl _⟩;exact h1.elim|_=>exact h1.elim
 |.txt a,δ,S,Q,h=>by simp only[evL]at h⊢;rw[zaa]at h;exact WF.bind (zal a δ S _ h) fun x S1 h1=>zaQ h1| .comp n js g it c e,δ,S,Q,h=>by simp only[evL]at h⊢;rw[zaa]at h;refine WF.bind (zey it δ S _ h) fun r S1 h1=>?_;rw[zaa]at h1;exact WF.bind (ze2 h1 fun Q' h2=>zcZ (fun δ S Q=>zcK c δ S Q) (fun δ S Q=>zal e δ S Q) _ _ _ _ h2) fun k S3 h3=>by split at h3;rename_i c;rw[if_pos c];exact⟨h3,Frm.refl _⟩;exact h3.elim
end
theorem zcF:(∀d T,appX cf f ds S=.ok d T->Frm S T)/\∀d T,appX cf f ds S=.err d T->Frm S T:=by
 unfold appX;cases e:cf f ds S.enter with
 |ok d T=>
  refine⟨fun d' T' h=>?_,fun d' T' h=>?_⟩;have w:W (za2 S d T) fun a S'=>a=d'/\S'=T':=by rw[show za2 S d T=_ from h];exact⟨rfl,rfl⟩
  have:=zgC w;rw[show za2 S d T=_ from h]at this;exact this.2;exfalso;have h:za2 S d T=.err d' T':=h;unfold za2 at h;split at h;cases h;dsimp only at h;split at h
  . split at h
    all_goals first|(split at h<;>cases h)|cases h
  cases h
 |err d T=>exact⟨(fun d' T' h=>nomatch h),fun d' T' h=>by cases h;exact Frm.keep _ _⟩|bad=>exact⟨(fun d' T' h=>nomatch h),(fun d' T' h=>nomatch h)⟩
theorem zeJ:∀(xs:List D)(δ:Ev)(S:St),(∀r T,za3 cf g f es xs δ S=.ok r T->Frm S T)/\∀d T,za3 cf g f es xs δ S=.err d T->Frm S T
 | [],δ,S=>by simp only[za3];exact⟨fun r T h=>by cases h;exact Frm.refl _,(fun d T h=>nomatch h)⟩| x::xs,δ,S=>by
  simp[za3];cases ea:asgG g x δ with|none=>exact⟨(fun δ' T h=>nomatch h),(fun d T h=>nomatch h)⟩|some δ'=>
  dsimp only;cases e:evEs cf es δ' S with
  |ok ds S1=>
   have f1:=(zbd hcf es δ' S (fun _ _=>True) (by rw[e];trivial));rw[e]at f1;dsimp only;cases e2:appX cf f ds S1 with
   |ok d S2=>have f2:=(zcF hcf).1 _ _ e2;have f3:=zeJ (g:=g) (f:=f) (es:=es) xs δ' S2;dsimp only;cases e3:za3 cf g f es xs δ' S2 with|ok r S3=>exact⟨fun r' T h=>by cases h;exact(f1.2.trans f2).trans (f3.1 _ _ e3),(fun d T h=>nomatch h)⟩|err d S3=>exact⟨(fun δ' T h=>nomatch h),fun d T h=>by cases h;exact(f1.2.trans f2).trans (f3.2 _ _ e3)⟩|bad=>exact⟨(fun δ' T h=>nomatch h),(fun d T h=>nomatch h)⟩
   |err d S2=>exact⟨(fun δ' T h=>nomatch h),fun d T h=>by cases h;exact f1.2.trans ((zcF hcf).2 _ _ e2)⟩|bad=>exact⟨(fun δ' T h=>nomatch h),(fun d T h=>nomatch h)⟩
  |err d T=>exact⟨(fun δ' T h=>nomatch h),(fun d T h=>nomatch h)⟩|bad=>exact⟨(fun δ' T h=>nomatch h),(fun d T h=>nomatch h)⟩
theorem zdZ:∀(b:TrB)(δ:Ev)(S:St),(∀δ' T,exT cf b δ S=.ok δ' T->Frm S T)/\∀d T,exT cf b δ S=.err d T->Frm S T
 |.asg i f es,δ,S=>by
  simp[exT];cases e:evEs cf es δ S with
  |ok ds S1=>have f1:=(zbd hcf es δ S (fun _ _=>True) (by rw[e];trivial));rw[e]at f1;dsimp only;cases e2:appX cf f ds S1 with|ok d S2=>exact⟨fun δ' T h=>by cases h;exact f1.2.trans ((zcF hcf).1 _ _ e2),(fun d T h=>nomatch h)⟩|err d S2=>exact⟨(fun δ' T h=>nomatch h),fun d T h=>by cases h;exact f1.2.trans ((zcF hcf).2 _ _ e2)⟩|bad=>exact⟨(fun δ' T h=>nomatch h),(fun d T h=>nomatch h)⟩
  |err d T=>exact⟨(fun δ' T h=>nomatch h),(fun d T h=>nomatch h)⟩|bad=>exact⟨(fun δ' T h=>nomatch h),(fun d T h=>nomatch h)⟩
 |.ite c a b,δ,S=>by
  simp[exT];cases e:evT cf c δ S with
  |ok k S1=>have f1:=(zcK hcf c δ S (fun _ _=>True) (by rw[e];trivial));rw[e]at f1;cases k with|true=>exact⟨fun δ' T h=>f1.2.trans ((zdZ a δ S1).1 _ _ h),fun d T h=>f1.2.trans ((zdZ a δ S1).2 _ _ h)⟩|false=>exact⟨fun δ' T h=>f1.2.trans ((zdZ b δ S1).1 _ _ h),fun d T h=>f1.2.trans ((zdZ b δ S1).2 _ _ h)⟩
  |err d T=>exact⟨(fun δ' T h=>nomatch h),(fun d T h=>nomatch h)⟩|bad=>exact⟨(fun δ' T h=>nomatch h),(fun d T h=>nomatch h)⟩
 |.setF a f g es,δ,S=>by
  simp[exT];cases e:evEs cf es δ S with
  |ok ds S1=>
   have f1:=(zbd hcf es δ S (fun _ _=>True) (by rw[e];trivial));rw[e]at f1;dsimp only;cases e2:appX cf g ds S1 with
   |ok v S2=>
    have f2:=(zcF hcf).1 _ _ e2;dsimp only;cases e3:evE cf a δ S2 with
    |ok x S3=>have f3:=(zal hcf a δ S2 (fun _ _=>True) (by rw[e3];trivial));rw[e3]at f3;dsimp only;cases e4:zbm S3 x f v with|some S4=>exact⟨fun δ' T h=>by cases h;exact((f1.2.trans f2).trans f3.2).trans (zeM e4),(fun d T h=>nomatch h)⟩|none=>exact⟨(fun δ' T h=>nomatch h),(fun d T h=>nomatch h)⟩
    |err d T=>exact⟨(fun δ' T h=>nomatch h),(fun d T h=>nomatch h)⟩|bad=>exact⟨(fun δ' T h=>nomatch h),(fun d T h=>nomatch h)⟩
   |err d S2=>exact⟨(fun δ' T h=>nomatch h),fun d T h=>by cases h;exact f1.2.trans ((zcF hcf).2 _ _ e2)⟩|bad=>exact⟨(fun δ' T h=>nomatch h),(fun d T h=>nomatch h)⟩
  |err d T=>exact⟨(fun δ' T h=>nomatch h),(fun d T h=>nomatch h)⟩|bad=>exact⟨(fun δ' T h=>nomatch h),(fun d T h=>nomatch h)⟩
 |.mk c f x j es,δ,S=>by
  simp[exT];cases e:evEs cf es δ S with
  |ok ds S1=>have f1:=(zbd hcf es δ S (fun _ _=>True) (by rw[e];trivial));rw[e]at f1;dsimp only;unfold appW;have f2:Frm S (S1.push (.ins c [])):=f1.2.trans (Frm.push _ _);cases e2:cf f (.ref S1.len::(ds++List.replicate j .non)) (S1.push (.ins c [])) with| ok d S2=>dsimp only;split;exact⟨fun δ' T h=>by cases h;exact f2.trans (hcf _ _ _ _ _ (.inl e2)),(fun d T h=>nomatch h)⟩;exact⟨(fun δ' T h=>nomatch h),(fun d T h=>nomatch h)⟩|err d S2=>exact⟨(fun δ' T h=>nomatch h),fun d T h=>by cases h;exact f2.trans (hcf _ _ _ _ _ (.inr e2))⟩|bad=>exact⟨(fun δ' T h=>nomatch h),(fun d T h=>nomatch h)⟩
  |err d T=>exact⟨(fun δ' T h=>nomatch h),(fun d T h=>nomatch h)⟩|bad=>exact⟨(fun δ' T h=>nomatch h),(fun d T h=>nomatch h)⟩
 |.comp i nt js g it f es,δ,S=>by
  simp[exT];cases e:evL cf it δ S with
  |ok r S1=>
   have f1:=(zey hcf it δ S (fun _ _=>True) (by rw[e];trivial));rw[e]at f1;dsimp only;split;have f2:=zeJ (g:=g) (f:=f) (es:=es) hcf r.1 (csl nt js δ) {S1 with lk:=r.2++S1.lk};have un:∀{T:St},Frm {S1 with lk:=r.2++S1.lk} T->Frm S {T with lk:=S1.lk}:=fun {T} z=>f1.2.trans ⟨z.frz,rfl,z.len,fun l hl h=>z.same l (mem_append_right _ hl) h⟩;cases e2:za3 cf g f es r.1 (csl nt js δ) {S1 with lk:=r.2++S1.lk} with|ok ds S3=>exact⟨fun δ' T h=>by cases h;exact(un (f2.1 _ _ e2)).trans (Frm.push _ _),(fun d T h=>nomatch h)⟩|err d S3=>exact⟨(fun δ' T h=>nomatch h),fun d T h=>by cases h;exact un (f2.2 _ _ e2)⟩|bad=>exact⟨(fun δ' T h=>nomatch h),(fun d T h=>nomatch h)⟩
   exact⟨(fun δ' T h=>nomatch h),(fun d T h=>nomatch h)⟩
  |err d T=>exact⟨(fun δ' T h=>nomatch h),(fun d T h=>nomatch h)⟩|bad=>exact⟨(fun δ' T h=>nomatch h),(fun d T h=>nomatch h)⟩
theorem zbJ:∀(s:CS)(δ:Ev)(S:St)(Q:Fl->St->Prop),W (exS cf s δ S) Q->WF S (exS cf s δ S) Q
 |.nil,δ,S,Q,h=>by simp[exS]at h⊢;exact⟨h,Frm.refl S⟩|.stop,δ,S,Q,h=>by simp only[exS]at h;exact h.elim| .asg i e r,δ,S,Q,h=>by simp only[exS]at h⊢;rw[zaa]at h;exact WF.bind (zal hcf e δ S _ h) fun x S1 h1=>zbJ r _ S1 Q h1| .asgT g e r,δ,S,Q,h=>by simp only[exS]at h⊢;rw[zaa]at h;refine WF.bind (zal hcf e δ S _ h) fun x S1 h1=>?_;rw[zaa]at h1;exact WF.bind (zaQ h1) fun δ' S2 h2=>zbJ r _ S2 Q h2| .setIx a b e r,δ,S,Q,h=>by simp only[exS]at h⊢;rw[zaa]at h;refine WF.bind (zal hcf e δ S _ h) fun v S1 h1=>?_;rw[zaa]at h1;refine WF.bind (zal hcf a δ S1 _ h1) fun x S2 h2=>?_;rw[zaa]at h2;refine WF.bind (zal hcf b δ S2 _ h2) fun y S3 h3=>?_;cases ed:dPut S3 x y v with|none=>rw[ed]at h3;exact h3.elim| some S4=>rw[ed]at h3;have f1:=zmM ed;have f2:=zbJ r δ S4 Q h3;exact f2.mono fun a T ⟨q,f⟩=>⟨q,f1.trans f⟩
 |.setF a f e r,δ,S,Q,h=>by simp only[exS]at h⊢;rw[zaa]at h;refine WF.bind (zal hcf e δ S _ h) fun v S1 h1=>?_;rw[zaa]at h1;refine WF.bind (zal hcf a δ S1 _ h1) fun x S2 h2=>?_;cases ed:zbm S2 x f v with|none=>rw[ed]at h2;exact h2.elim| some S3=>rw[ed]at h2;exact(zbJ r δ S3 Q h2).mono fun a S' q=>⟨q.1,(zeM ed).trans q.2⟩
 |.ifS c t u r,δ,S,Q,h=>by
  simp only[exS]at h⊢;rw[zaa]at h;refine WF.bind (zcK hcf c δ S _ h) fun k S1 h1=>?_;rw[zaa]at h1;refine WF.bind ?_ fun f S2 h2=>?_;cases k with|true=>exact zbJ t δ S1 _ h1|false=>exact zbJ u δ S1 _ h1
  cases f with|nx δ'=>exact zbJ r _ S2 Q h2|rt d=>exact⟨h2,Frm.refl _⟩|ex d=>exact⟨h2,Frm.refl _⟩
 |.forS g l b r,δ,S,Q,h=>by simp only[exS]at h⊢;rw[zaa]at h;refine WF.bind (zey hcf l δ S _ h) fun q S1 h1=>?_;rw[zaa]at h1;refine WF.bind (ze2 h1 fun Q' h2=>zeK (fun δ S Q=>zbJ b δ S Q) _ _ _ _ h2) fun f S3 h3=>?_;cases f with|nx δ'=>exact zbJ r _ S3 Q h3|rt d=>exact⟨h3,Frm.refl _⟩|ex d=>exact⟨h3,Frm.refl _⟩
 |.ret e r,δ,S,Q,h=>by simp only[exS]at h⊢;rw[zaa]at h;exact WF.bind (zal hcf e δ S _ h) fun x S1 h1=>⟨h1,Frm.refl _⟩| .expr e r,δ,S,Q,h=>by simp only[exS]at h⊢;rw[zaa]at h;exact WF.bind (zal hcf e δ S _ h) fun x S1 h1=>zbJ r _ S1 Q h1| .rais c x f a,δ,S,Q,h=>by simp only[exS]at h⊢;rw[zaa]at h;exact WF.bind (zal hcf a δ S _ h) fun d S1 h1=>⟨h1,Frm.push _ _⟩| .blk b r,δ,S,Q,h=>by simp[exS]at h⊢;cases e:exT cf b δ S with| ok δ' S1=>rw[e]at h;exact(zbJ r _ S1 Q h).mono fun a T q=>⟨q.1,((zdZ hcf b δ S).1 _ _ e).trans q.2⟩| err d S1=>rw[e]at h;exact⟨h,(zdZ hcf b δ S).2 _ _ e⟩|bad=>rw[e]at h;exact h.elim
 |.tryS b x ie ix r,δ,S,Q,h=>by simp[exS]at h⊢;cases e:exT cf b δ S with| ok δ' S1=>rw[e]at h;exact(zbJ r _ S1 Q h).mono fun a T q=>⟨q.1,((zdZ hcf b δ S).1 _ _ e).trans q.2⟩| err d S1=>rw[e]at h;dsimp only at h⊢;split at h;rename_i c;rw[if_pos c];exact(zbJ r _ S1 Q h).mono fun a T q=>⟨q.1,((zdZ hcf b δ S).2 _ _ e).trans q.2⟩;exact False.elim h|bad=>rw[e]at h;exact h.elim
end
end R
namespace R
open PySem
noncomputable def TrcR(h:Heap)(e:Addr)(vs:Array Value)(lo:Nat):Prop:=∃T oT ts,vs[1]?=some (.ref T)/\T≠e/\h.get? T=some oT/\oT.data=.fields ts/\3<ts.size/\lo<=T
noncomputable def Trc(h:Heap)(e:Addr)(vs:Array Value)(lo:Nat):Prop:=vs[1]?=some .none\/TrcR h e vs lo
structure Ntd(fs:List Addr)(e:Addr)(oe:Obj)(vs:Array Value)(lo:Nat)(h h':Heap):Prop where
 keep:∀b o,b≠e->vs[1]?≠some (.ref b)->b∉fs->h.get? b=some o->h'.get? b=some o
 slot:∀b o,b∈fs->h.get? b=some o->∃sl,h'.get? b=some {o with slots:=sl}
 there:∀b o,h.get? b=some o->∃o',h'.get? b=some o'
 sz:h.objs.size<=h'.objs.size
 exc:∃vs',h'.get? e=some {oe with data:=.fields vs'}/\vs'.size=vs.size/\TrcR h' e vs' lo/\∀T,vs'[1]?=some (.ref T)->h.objs.size<=T\/vs[1]?=some (.ref T)
theorem Ntd.trans(n:Ntd fs e oe vs lo h h1)(he1:h1.get? e=some {oe with data:=.fields vs1})(m:Ntd fs e {oe with data:=.fields vs1} vs1 lo h1 h2):Ntd fs e oe vs lo h h2:=by
 obtain⟨vs',e1,s1,t1,l1⟩:=n.exc;obtain rfl:vs'=vs1:=by rw[he1]at e1;simpa using e1.symm
 obtain⟨vs2,e2,s2,t2,l2⟩:=m.exc;refine⟨fun b o hb hv hf q=>m.keep b o hb (fun z=>?_) hf (n.keep b o hb hv hf q),fun b o hf q=>?_,fun b o q=>?_,le_trans n.sz m.sz,vs2,e2,s2.trans s1,t2,fun T hT=>?_⟩;rcases l1 b z with z|z;exact absurd (Heap.lt_size q) (Nat.not_lt.mpr z);exact hv z;obtain⟨sl,q1⟩:=n.slot b o hf q;obtain⟨sl2,q2⟩:=m.slot b _ hf q1;exact⟨sl2,q2⟩;obtain⟨o',q1⟩:=n.there b o q;exact m.there b _ q1;rcases l2 T hT with z|z;exact .inl (le_trans n.sz z);exact l1 T z
section
variable{M:Model}{A:Around}{E:Value->Shared->Prop}{s:Shared}{base:Heap}{env:Env}{outer:List Env}{L e:Addr}{oe:Obj}{vs:Array Value}{lo:Nat}
theorem ziS(hfr:A.frames=some (env::outer))(hl:s.heap.FunFrames base (env::outer))(hf:env.frame=some L)(he:s.heap.get? e=some oe)(hd:oe.data=.fields vs)(hz:1<vs.size)(hlo:lo<=s.heap.objs.size)
  (h:∀h',s.heap.objs.size<=h'.objs.size->(∀b o,b≠e->b∉(env::outer).filterMap (·.frame)->s.heap.get? b=some o->h'.get? b=some o)->(∀b o,b≠e->s.heap.get? b=some o->∃sl,h'.get? b=some {o with slots:=sl})->
   (∃vs',h'.get? e=some {oe with data:=.fields vs'}/\vs'.size=vs.size/\TrcR h' e vs' lo/\∀T,vs'[1]?=some (.ref T)->s.heap.objs.size<=T)->Q () {s with heap:=h'}) :
  wpAny M A (do let fr <-frameOf env;let pl <-entryPlaceOf L b;let en <-EntryCells.newEntry head fr .none (rawInt L) .none pl;setField (.ref e) 1 en) Q E s:=by
 have hne:e∉(env::outer).filterMap (·.frame):=fun hm=>by obtain⟨_,o,ho,nf⟩:=hl.mem hm;rw[he]at ho;cases ho;exact nf vs hd
 refine wpAny_bind (wpAny_frameOf_fun hfr hl hf fun h1 so=>?_);obtain⟨sz,same,slo⟩:=so;refine wpAny_bind (wpAny_entryPlaceOf fun pl hpl=>?_);refine wpAny_bind (wpAny_newObj_type ?_ (hpl.sizeOk5 _ _ _ _ _));generalize eT:({cls:=.type "traceback",dict:=none,data:=.fields ([head,.ref L,.none,rawInt L,.none]++(if pl.isEmpty then List.replicate 6 Value.none else pl)).toArray}:Obj)=oT;obtain⟨ts,hT,h3⟩:∃ts,oT.data=.fields ts/\3<ts.size:=by subst eT;exact⟨_,rfl,by simp only[size_toArray,length_append,length_cons];omega⟩
 have e1:h1.get? e=some oe:=(same e hne).trans he;have e2:=Heap.get?_push_of_some oT e1;apply wpAny_setField e2 hd hz;have ne:h1.objs.size≠e:=ne_of_gt (Heap.lt_size e1);have d3:=Obj.data_mapFields hd (·.setIfInBounds 1 (Value.ref h1.objs.size));have e3:=Heap.get?_update_self (Obj.mapFields (·.setIfInBounds 1 (Value.ref h1.objs.size))) e2 (Obj.isFreed_of_fields d3);have nfT:oT.isFreed=false:=Obj.isFreed_of_fields hT;have T3:=(Heap.get?_update_other (h1.push oT) (Obj.mapFields (·.setIfInBounds 1 (Value.ref h1.objs.size))) (Ne.symm ne)).trans (Heap.get?_push_size h1 nfT);refine h _ ?_ (fun b o hb nf q=>?_) (fun b o hb q=>?_) ?_;rw[Heap.size_after_update,Heap.size_push,sz];exact le_succ _;have q1:h1.get? b=some o:=(same b nf).trans q;rw[Heap.get?_update_other _ _ (Ne.symm hb)];exact Heap.get?_push_of_some _ q1;obtain⟨sl,q1⟩:=slo b o q;refine⟨sl,?_⟩;rw[Heap.get?_update_other _ _ (Ne.symm hb)];exact Heap.get?_push_of_some _ q1
 . refine⟨vs.setIfInBounds 1 (.ref h1.objs.size),?_,by simp,⟨h1.objs.size,_,_,by simp[hz],ne,T3,hT,h3,by rw[sz];exact hlo⟩,fun T hT=>?_⟩
   rotate_left
   have:(vs.setIfInBounds 1 (.ref h1.objs.size))[1]?=some (Value.ref h1.objs.size):=by simp[hz]
   rw[this]at hT;cases hT;exact le_of_eq sz.symm;rw[e3];obtain⟨oc,od,dt,sl⟩:=oe;subst hd;rfl
theorem zis{h:Heap}(v:Value)(hT:h.get? T=some oT)(dT:oT.data=.fields ts)(h3:3<ts.size) :
  (∀b,b≠T->(h.update T (Obj.mapFields (·.setIfInBounds 3 v))).get? b=h.get? b)/\∃o2 t2,(h.update T (Obj.mapFields (·.setIfInBounds 3 v))).get? T=some o2/\o2.data=.fields t2/\3<t2.size:=
 ⟨fun b hb=>Heap.get?_update_other _ _ (Ne.symm hb),_,_,Heap.get?_update_self _ hT (Obj.isFreed_of_fields (Obj.data_mapFields dT _)),Obj.data_mapFields dT _,by simpa using h3⟩
theorem zeZ(v:Value)(hl:s.heap.FunFrames base (env::outer))(he:s.heap.get? e=some oe)(hd:oe.data=.fields vs)(h1:vs[1]?=some (.ref T))(nT:T≠e)(hT:s.heap.get? T=some oT)(dT:oT.data=.fields ts)(h3:3<ts.size)(lT:lo<=T) :
  Ntd ((env::outer).filterMap (·.frame)) e oe vs lo s.heap (s.heap.update T (Obj.mapFields (·.setIfInBounds 3 v))):=by
 obtain⟨oth,o2,t2,g,d,z⟩:=zis v hT dT h3;have hTf:T∉(env::outer).filterMap (·.frame):=fun hm=>by obtain⟨_,o,ho,nf⟩:=hl.mem hm;rw[hT]at ho;cases ho;exact nf ts dT
 refine⟨fun b o _ hv _ q=>(oth b fun z=>hv (z▸h1)).trans q,fun b o hf q=>⟨o.slots,(oth b fun z=>hTf (z▸hf)).trans q⟩,fun b o q=>?_,le_of_eq (Heap.size_after_update ..).symm,vs,?_,rfl,⟨T,o2,t2,h1,nT,g,d,z,lT⟩,fun _ z=>.inr z⟩;by_cases hb:b=T;subst hb;exact⟨_,g⟩;exact⟨_,(oth b hb).trans q⟩;rw[oth e (Ne.symm nT),he];obtain⟨oc,od,dt,sl⟩:=oe;subst hd;rfl
theorem zgV(hl:s.heap.FunFrames base (env::outer))(he:s.heap.get? e=some oe)(hd:oe.data=.fields vs)(tr:TrcR s.heap e vs lo)
  (h:∀h',Ntd ((env::outer).filterMap (·.frame)) e oe vs lo s.heap h'->Q () {s with heap:=h'}):wpAny M A (setFlight (.ref e) fr) Q E s:=by
 obtain⟨T,oT,ts,h1,nT,hT,dT,h3,lT⟩:=tr;refine wpAny_bind (wpAny_field he hd h1 ?_);exact wpAny_setField hT dT h3 (h _ (zeZ _ hl he hd h1 nT hT dT h3 lT))
theorem zmh(hfr:A.frames=some (env::outer))(hl:s.heap.FunFrames base (env::outer))(hf:env.frame=some L)(he:s.heap.get? e=some oe)(hd:oe.data=.fields vs)(tr:Trc s.heap e vs lo)(hlo:lo<=s.heap.objs.size)
  (h:∀h',Ntd ((env::outer).filterMap (·.frame)) e oe vs lo s.heap h'->Q () {s with heap:=h'}) :
  wpAny M A (noteFrame (.ref e) env) Q E s:=by
 have hne:e∉(env::outer).filterMap (·.frame):=fun hm=>by obtain⟨_,o,ho,nf⟩:=hl.mem hm;rw[he]at ho;cases ho;exact nf vs hd
 unfold noteFrame;simp[hf];rcases tr with h1|⟨T,oT,ts,h1,nT,hT,dT,h3,lT⟩;refine wpAny_bind (wpAny_field he hd h1 ?_);refine ziS hfr hl hf he hd (Array.getElem?_eq_some_iff.mp h1).1 hlo fun h' k0 k1 k2 ⟨vs',x1,x2,x3,x4⟩=>h h' ⟨fun b o hb _ nf q=>k1 b o hb nf q,fun b o hm q=>k2 b o (fun z=>hne (z▸hm)) q,fun b o q=>?_,k0,vs',x1,x2,x3,fun T z=>.inl (x4 T z)⟩;by_cases hb:b=e;subst hb;exact⟨_,x1⟩;obtain⟨sl,q1⟩:=k2 b o hb q;exact⟨_,q1⟩;refine wpAny_bind (wpAny_field he hd h1 ?_);refine wpAny_bind (wpAny_field hT dT (Array.getElem?_eq_getElem h3) ?_);split;apply wpAny_pure;have:=h s.heap ⟨fun b o _ _ _ q=>q,fun b o _ q=>⟨o.slots,q⟩,fun b o q=>⟨o,q⟩,le_refl _,vs,(by rw[he];obtain⟨oc,od,dt,sl⟩:=oe;subst hd;rfl),rfl,⟨T,oT,ts,h1,nT,hT,dT,h3,lT⟩,fun _ z=>.inr z⟩;exact this;refine wpAny_bind (wpAny_setField hT dT h3 ?_);have n1:=zeZ Value.none hl he hd h1 nT hT dT h3 lT;obtain⟨oth,_⟩:=zis Value.none hT dT h3;have hl2:(s.heap.update T (Obj.mapFields (·.setIfInBounds 3 Value.none))).FunFrames base (env::outer):=hl.of_keeps fun b o hb nf=>⟨o,(oth b fun z=>by rw[z,hT]at hb;cases hb;exact nf ts dT).trans hb,rfl⟩;have he2:(s.heap.update T (Obj.mapFields (·.setIfInBounds 3 Value.none))).get? e=some {oe with data:=.fields vs}:=by rw[oth e (Ne.symm nT),he];obtain⟨oc,od,dt,sl⟩:=oe;subst hd;rfl
 refine ziS hfr hl2 hf he2 rfl (Array.getElem?_eq_some_iff.mp h1).1 (by rw[Heap.size_after_update];exact hlo)
  fun h' k0 k1 k2 ⟨vs',x1,x2,x3,x4⟩=>h h' (n1.trans he2 ⟨fun b o hb _ nf q=>k1 b o hb nf q,fun b o hm q=>k2 b o (fun z=>hne (z▸hm)) q,fun b o q=>?_,k0,vs',x1,x2,x3,fun T z=>.inl (x4 T z)⟩)
 by_cases hb:b=e;subst hb;exact⟨_,x1⟩;obtain⟨sl,q1⟩:=k2 b o hb q;exact⟨_,q1⟩
theorem Ntd.frames(n:Ntd ((env::outer).filterMap (·.frame)) e oe vs lo h h')(hl:h.FunFrames base (env::outer))(he:h.get? e=some oe)(hd:oe.data=.fields vs)(tr:Trc h e vs lo):h'.FunFrames base (env::outer):=hl.of_keeps fun b o hb nf=>by by_cases hm:b∈(env::outer).filterMap (·.frame);obtain⟨sl,q⟩:=n.slot b o hm hb;exact⟨_,q,rfl⟩;refine⟨o,n.keep b o (fun z=>?_) (fun z=>?_) hm hb,rfl⟩;rw[z,he]at hb;cases hb;exact nf vs hd;rcases tr with t|⟨T,oT,ts,h1,nT,hT,dT,h3,lT⟩;rw[t]at z;cases z;rw[h1]at z;cases z;rw[hT]at hb;cases hb;exact nf ts dT
theorem zeW(hfr:A.frames=some (env::outer))(hl:s.heap.FunFrames base (env::outer))(hf:env.frame=some L)(he:s.heap.get? e=some oe)(hd:oe.data=.fields vs)(tr:Trc s.heap e vs lo)(hlo:lo<=s.heap.objs.size)
  (h:∀h',Ntd ((env::outer).filterMap (·.frame)) e oe vs lo s.heap h'->Q () {s with heap:=h'}) :
  wpAny M A (noteFrame (.ref e) env) (fun _ s'=>wpAny M A (setFlight (.ref e) none) Q E s') E s:=by
 refine zmh hfr hl hf he hd tr hlo fun h' n=>?_;obtain⟨vs',x1,x2,x3,x4⟩:=n.exc;exact zgV (n.frames hl he hd tr) x1 rfl x3 fun h2 m=>h h2 (n.trans x1 m)
end
section
variable{prog:Program}{w:World}{A:Around}{E:Value->Shared->Prop}{h:Heap}{g:Array GenState}{d:Drawn}{t:Nat}{os:OsState}
variable{nm q:Str}{C N:Addr}{bs bm bmB:List Value}{hdct:Bool}{sn:List Str}{sub:List Value}{ab:Bool}{col:Option Bool}{dd:Option Addr}{k0 k1 k2 k3 k5:Option Value}{B newId initId:String}
theorem zig(F:ExcBaseFacts B newId initId bmB)(T:OwnTail h bmB bm)
  (hC:h.get? C=some (excClassObj nm q C N bs bm hdct sn sub ab col dd k0 k1 k2 k3 k5 newId)) (hn:h.Ns N mN) (hi:mN "__init__"=some (.ref fI)) (hfI:h.get? fI=some oI) (hfc:oI.cls=.type "function")
  (hq:∀h' e,Heap.MadeExcOf h h' e (.ref C) rest->h.objs.size<=e->wpAny (model prog w) A (call (.ref fI) (.ref e::rest)) (fun r s'=>r=.none/\Q (.done (.ret (.ref e))) s') E ⟨h',g,d,t,os⟩) (hrest:rest.length<=sizeLine) :
  wpAny (model prog w) A (Builtin.«type.__call__» ⟨.ref C::rest,[]⟩) Q E ⟨h,g,d,t,os⟩:=by
 repeat (first|with_reducible refine wpAny_loadPart_at hC ?_|with_reducible refine wpAny_madeBy_exc hC ?_|wp_step)
 refine codeAny_call_builtin_code (Code.quiet_builtin _ F.quiet) (wpAny_check_new_subT F T hC (codeAny_exc_new_subT F T hC ?_ hrest));generalize e1:h.push {cls:=.type "tuple",data:=.seq rest.toArray}=h1;generalize e2:h1.push {cls:=.ref C,data:=.fields #[.ref h.objs.size,.none,.none,.none,.bool false,.none]}=h2;have kp:∀b o,h.get? b=some o->h2.get? b=some o:=fun b o z=>by subst e2 e1;exact Heap.get?_push_of_some _ (Heap.get?_push_of_some _ z)
 have ge:h2.get? (h.objs.size+1)=some {cls:=.ref C,data:=.fields #[.ref h.objs.size,.none,.none,.none,.bool false,.none]}:=by subst e2 e1;heap_get
 have gt:h2.get? h.objs.size=some {cls:=.type "tuple",data:=.seq rest.toArray}:=by subst e2 e1;exact Heap.get?_push_of_some _ (Heap.get?_push_at rfl rfl)
 have C2:=kp _ _ hC;have n2:h2.Ns N mN:=hn.keeps kp;have T2:=T.keeps kp;have self:(Value.ref C::bm).contains (.ref C)=true:=by simp
 repeat (first|with_reducible refine wpAny_loadPart_at ge ?_|(with_reducible refine wpAny_isSubtype_exc C2 ?_;rw[self])|wp_step)
 refine wpAny_typeLookup_tail C2 n2 T2 F.mroIs F.init.lookup ?_;rw[hi];refine wpAny_holding (wpAny_bind ?_);refine wpAny_bind (wpAny_typeOf ⟨_,kp _ _ hfI,hfc⟩ ?_);refine wpAny_pure (wpAny_bind (wpAny_mono (hq h2 (h.objs.size+1) ⟨kp,Heap.get?_none_of_le (le_succ _),h.objs.size,ge,Heap.get?_none_of_le (le_refl _),gt⟩ (le_succ _)) (fun r s' hr=>?_) fun _ _ x=>x));obtain⟨rfl,hQ⟩:=hr
 wp_walk
 exact hQ
theorem zid(F:ExcBaseFacts B newId initId bmB)(T:OwnTail h bmB bm)
  (hC:h.get? C=some (excClassObj nm q C N bs bm hdct sn sub ab col dd k0 k1 k2 k3 k5 newId)) (hn:h.Ns N mN) (hi:mN "__init__"=some (.ref fI)) (hfI:h.get? fI=some oI) (hfc:oI.cls=.type "function")
  (hq:∀h' e,Heap.MadeExcOf h h' e (.ref C) rest->h.objs.size<=e->wpAny (model prog w) (A.under (.builtin "type.__call__" ⟨.ref C::rest,[]⟩)) (call (.ref fI) (.ref e::rest)) (fun r s'=>r=.none/\Q (.ref e) s') E ⟨h',g,d,t,os⟩) (hrest:rest.length<=sizeLine) :
  wpAny (model prog w) A (call (.ref C) rest) Q E ⟨h,g,d,t,os⟩:=by
 have f1:=tc_lookup;have f2:=tc_bind (.ref C);refine wpAny_call (codeAny_of_tree ?_)
 repeat (any_goals (first|assumption|with_reducible refine wpAny_loadPart_at hC ?_|wp_step))
 refine⟨rfl,codeAny_call_builtin_at (Code.quiet_builtin _ (by decide +kernel)) entry_typeCall (wpAny_check_type_call_sub hC (zig F T hC hn hi hfI hfc (fun h' e hm hz=>?_) hrest))⟩;exact hq h' e hm hz
end
noncomputable abbrev newX(C:Value)(dx:Option Addr)(t:Addr):Obj:={cls:=C,dict:=dx,data:=.fields #[.ref t,.none,.none,.none,.bool false,.none]}
section
variable{prog:Program}{w:World}{A:Around}{E:Value->Shared->Prop}{h:Heap}{g:Array GenState}{d:Drawn}{t:Nat}{os:OsState}
variable{nm q:Str}{C N:Addr}{bs bm bmB:List Value}{hdct:Bool}{sn:List Str}{sub:List Value}{ab:Bool}{col:Option Bool}{dd:Option Addr}{k0 k1 k2 k3 k5:Option Value}{B newId initId:String}
theorem zif(F:ExcBaseFacts B newId initId bmB)(T:OwnTail h bmB bm)
  (hC:h.get? C=some (excClassObj nm q C N bs bm hdct sn sub ab col dd k0 k1 k2 k3 k5 newId)) (he:h.get? e=some (newX (.ref C) none t0))
  (hq:∀h' t1,(∀b o,b≠e->h.get? b=some o->h'.get? b=some o)->h'.get? e=some (newX (.ref C) none t1)->Q .none ⟨h',g,d,t,os⟩) :
  wpAny (model prog w) A (call (.builtin initId) [.ref e,v]) Q E ⟨h,g,d,t,os⟩:=by
 refine wpAny_call (codeAny_call_builtin F.init.plain F.initEntry (wpAny_check_init_subT F T hC he rfl ?_))
 wp_walk
 refine hq _ h.objs.size (fun b o hb q=>?_) ?_;rw[Heap.get?_update_other _ _ (Ne.symm hb)];exact Heap.get?_push_of_some _ q;exact Heap.get?_update_self _ (Heap.get?_push_of_some _ he) rfl
end
end R
namespace R
open PySem PySem.W PySem.Builtin.Object
section
variable{prog:Program}{w:World}{A:Around}{E:Value->Shared->Prop}{s:Shared}{K:Frag}{x C:Addr}{ox:Obj}{name:Str}{v:Value}
noncomputable def zf8:List Value->Bool
 |.ref _::l=>zf8 l| [.type a,.type b,.type c,.type d]=>a=="ValueError"&&(b=="Exception"&&(c=="BaseException"&&d=="object"))|_=>false
theorem zeQ:∀{l:List Value},zf8 l=true->(∀self:Value,refuseLoop self "__setattr__" l=pure ())/\l.contains (.type "object")=true/\l.isEmpty=false
 |.ref c::l,e=>by obtain⟨a,b,_⟩:=zeQ (l:=l) (by simpa only [zf8]using e);exact⟨fun self=>(refuseLoop_ref self _ c l).trans (a self),by rw[List.contains_cons,b,Bool.or_true],rfl⟩| [.type a,.type b,.type c,.type d],e=>by simp only[zf8,and_eq_true,beq_iff_eq]at e;obtain⟨rfl,rfl,rfl,rfl⟩:=e;exact⟨PySem.F.store_ValueError.passes,by simp,rfl⟩
noncomputable def zgr(K:Frag)(C:Addr):Bool:=match clsIn K C with|some cd=>zf8 cd.mro|none=>false
theorem zj2{od:Option Obj}{tk:Tok}{R:Result->Shared->Prop}(X:K.In s.heap)(J:InstAt s.heap x ox C od)(hp:zgr K C=true)(ht:findIn K (.ref C) name=some none)
  (go:wpAny (model prog w) A.in1 (Builtin.ObjectAttr.storeInOwnDict (.ref x) (.ref C) (.str name tk) name v false)
   (fun fin s'=>match fin with|.done f=>R (.ok f) s'|.again c=>c.quiet=true/\codeAny (model prog w) A c R s') (fun e s'=>R (.error e) s') s) :
  codeAny (model prog w) A (.call (.builtin "object.__setattr__") ⟨[.ref x,.str name tk,v],[]⟩) R s:=by
 unfold zgr at hp;split at hp
 case h_2=>cases hp
 rename_i cd hc;obtain⟨h1,h2,h3⟩:=zeQ hp;have st:=PySem.F.store_object;have hi:Looks (model prog w) s.heap (isInstance (.ref x) (.type "object")) true:=by refine J.type.andThen (looks_mroIn X ?_);unfold mroIn;rw[hc,bind_some,if_neg (by rw[h3];decide),h2]
 refine codeAny_call_builtin st.slot.plain st.entry (@check_slot (model prog w) _ _ s _ _ _ _ [.str name tk,v] [] _ st.kind st.split hi (st.args _ _ _) ?_);have hm:Looks (model prog w) s.heap (mroOf (.ref C)) cd.mro:=(looks_clsIn X hc).andThen .now;rw[osa_eq,refuse_eq];refine wpAny_bind (wpAny_bind (J.type.here (wpAny_bind (hm.here ?_))));rw[h1];exact wpAny_pure (wpAny_bind (J.type.here (wpAny_bind ((looks_findIn X ht).here (wpAny_bind (wpAny_pure go))))))
theorem zgW{Q:Unit->Shared->Prop}(X:K.In s.heap)(he:s.heap.get? x=some ox)(hc:ox.cls=.ref C){vs:Array Value}(hd:ox.data=.fields vs)(hn:ox.dict=none)
  (hs:findIn K (.ref C) "__setattr__"=some (some (.builtin "object.__setattr__"))) (hp:zgr K C=true) (ht:findIn K (.ref C) name=some none) (hh:hasDictIn K C=true)
  (h:∀h',h'.get? x=some {ox with dict:=some s.heap.objs.size}->h'.Ns1 s.heap.objs.size (fun y=>if y=name then some v else none)->(∀b o,b≠x->s.heap.get? b=some o->h'.get? b=some o)->Q () {s with heap:=h',toks:=s.toks+2}) :
  wpAny (model prog w) A (setAttr (.ref x) name v) Q E s:=by
 have J:InstAt s.heap x ox C none:=⟨he,hc,by unfold notCls;rw[hd],by rw[hn];trivial⟩;refine set_plain X J hs (zj2 (s:={s with toks:=s.toks+1}) X J hp ht ?_);obtain⟨cd,hk,hd'⟩:=any_some hh;obtain⟨hp0,g,d,t,os⟩:=s;obtain⟨oc,od,odt,osl⟩:=ox;dsimp only at he hc hd hn h⊢;subst hc hd hn;refine wpAny_bind (wpAny_pure (wpAny_bind (wpAny_bind (wpAny_loadPart he (wpAny_bind (Looks.here (s:=⟨hp0,g,d,t+1,os⟩) (looks_clsIn X hk) ?_))))));rw[hd'];simp only[Bool.not_true,Bool.false_eq_true,if_false,Bool.false_or];rw[if_neg (by simp[typeHasDict])];have hx1:(hp0.push {cls:=.type "dict",data:=.dict #[]}).get? x=some _:=Heap.get?_push_of_some _ he;have nx:x≠hp0.objs.size:=ne_of_lt (Heap.lt_size he);refine wpAny_bind (wpAny_alloc' (wpAny_bind (wpAny_update' hx1 (wpAny_pure ?_))));generalize e2:(hp0.push {cls:=.type "dict",data:=.dict #[]}).update x (fun o=>{cls:=o.cls,dict:=some hp0.objs.size,data:=o.data,slots:=o.slots})=h2;have gd:h2.get? hp0.objs.size=some {cls:=.type "dict",data:=.dict #[]}:=by subst e2;exact(Heap.get?_update_ne _ _ _ _ nx.symm).trans (Heap.get?_push_at rfl rfl)
 have gx:h2.get? x=some {cls:=.ref C,dict:=some hp0.objs.size,data:=.fields vs,slots:=osl}:=by subst e2;exact Heap.get?_update_self _ hx1 rfl
 have nd:h2.Ns hp0.objs.size (fun _=>none):=⟨_,#[],_,gd,rfl,fun e he=>absurd he (by simp),fun _=>rfl⟩;show wpAny _ _ (Builtin.ObjectAttr.storeInDict hp0.objs.size (.str name t) name v) _ _ _;unfold Builtin.ObjectAttr.storeInDict Builtin.ObjectAttr.newKeyGuard;refine wpAny_bind (wpAny_pure (wpAny_bind (wpAny_nsSet1 (Heap.Ns1.of_empty nd) fun h' hn' hs=>?_)));obtain⟨oD,esD,epD,hoD,hdD,hcD⟩:=hn'.count (Within.cons name v Within.nil);refine wpAny_bind (wpAny_lookBehind hoD (by rw[hdD];exact pastItsLine_dict (le_trans hcD (by rw[length_cons,length_nil,sizeLine_eq];omega))) (wpAny_pure (h h' ?_ hn' fun b o hb q=>?_)));exact(hs.2 x nx).trans gx;subst e2;exact(hs.2 b (ne_of_lt (Heap.lt_size q))).trans ((Heap.get?_update_ne _ _ _ _ hb).trans (Heap.get?_push_of_some _ q))
theorem zfh{od:Option Obj}{fill expr:Bool}{tk:Tok}{Q:Value->Shared->Prop}(X:K.In s.heap)(I:InstAt s.heap x ox C od)(hga:findIn K (.ref C) "__getattribute__"=some (some (.builtin "BaseException.__getattribute__")))
  (hgh:findIn K (.ref C) "__getattr__"=some none) (hsub:mroIn K C (.type "BaseException")=some true)
  (go:wpAny (model prog w) A.in1 (Builtin.«object.__getattribute__» ⟨[.ref x,.str name tk],[]⟩) (fun fin s'=>match fin with|.done (.ret u)=>wpAny (model prog w) A (handedOut u) Q E s'|_=>False) (fun _ _=>False) s) :
  wpAny (model prog w) A (getAttrBy (.ref x) (.str name tk) fill expr) Q E s:=by
 obtain⟨hp0,g,d,t,os⟩:=s;have L0:=I.type (M:=model prog w);have L1:=looks_findIn (M:=model prog w) X hga;have L2:=looks_findIn (M:=model prog w) X hgh;have L3:=looks_mroIn (M:=model prog w) X hsub;unfold getAttrBy;refine wpAny_holding (wpAny_bind (L0.at (wpAny_bind (L1.at ?_))));show wpAny _ _ (getAttrByItsOwn _ _ _ _ _ _) _ _ _;unfold getAttrByItsOwn hookBefore;rw[if_pos (show onTheHeap (Value.ref C)=true from rfl)];refine wpAny_bind (L2.at (wpAny_bind (wpAny_attempt (wpAny_holding ?_))));have no:(expr&&onTheHeap (Value.builtin "BaseException.__getattribute__"))=false:=by cases expr<;>rfl
 unfold callGetattribute;rw[no,if_neg (by decide)];unfold boundAndCalled;refine wpAny_bind (wpAny_of_eq (F.attr_ValueError.ga.bind _) (wpAny_call (codeAny_call_builtin F.attr_ValueError.ga.plain F.entry_bexc_ga ?_)));have hk:builtinKind "BaseException.__getattribute__"=some .slot:=by decide +kernel
 have hsp:splitId "BaseException.__getattribute__"=some ("BaseException","__getattribute__"):=by decide +kernel
 have ha:=F.args_bexc_ga (.ref x) (.str name tk);simp only[checkBuiltinCall,hk,hsp];have LI:Looks (model prog w) hp0 (isInstance (.ref x) (.type "BaseException")) true:=L0.andThen L3;refine wpAny_bind (LI.at ?_);rw[if_neg (by decide)];have last:wpAny (model prog w) A.in1 (Builtin.«object.__getattribute__» ⟨[.ref x,.str name tk],[]⟩) (fun fin s'=>match fin with|.done f=>(match (Except.ok f:Result) with|.ok (.ret u)=>wpAny (model prog w) A (handedOut u) Q E s'|.ok _=>False|.error e=>wpAny (model prog w) A (getattributeRaised (.ref x) (.str name tk) (.ref C) e none fill expr) Q E s')|.again c'=>c'.quiet=true/\codeAny (model prog w) A c' (fun r s'=>match r with|.ok (.ret u)=>wpAny (model prog w) A (handedOut u) Q E s'|.ok _=>False|.error e=>wpAny (model prog w) A (getattributeRaised (.ref x) (.str name tk) (.ref C) e none fill expr) Q E s') s')
   (fun e s'=>wpAny (model prog w) A (getattributeRaised (.ref x) (.str name tk) (.ref C) e none fill expr) Q E s') ⟨hp0,g,d,t,os⟩:=by
  refine wpAny_mono go (fun fin s' z=>?_) fun _ _ z=>z.elim;rcases fin with (_|_|_|u)|_
  all_goals first|exact z.elim|exact z
 cases hsig:Manifest.signature? "BaseException.__getattribute__" with|none=>exact wpAny_pure last| some sig=>simp only[argsOk,hsig]at ha;have h2:Bind.checkArgs "BaseException.__getattribute__" sig ⟨[.ref x]++[.str name tk],[]⟩=pure ():=ha;show wpAny _ _ (Bind.checkArgs "BaseException.__getattribute__" sig ⟨[.ref x]++[.str name tk],[]⟩) _ _ _;rw[h2];exact wpAny_pure last
theorem zie{od:Option Obj}{expr:Bool}{Q:Value->Shared->Prop}(X:K.In s.heap)(I:InstAt s.heap x ox C od)(hga:findIn K (.ref C) "__getattribute__"=some (some (.builtin "BaseException.__getattribute__")))
  (hgh:findIn K (.ref C) "__getattr__"=some none) (hsub:mroIn K C (.type "BaseException")=some true) (hf:findObj K C od name=some (.value v)) (hh:handedIn v=true) (h:Q v {s with toks:=s.toks+1}) :
  wpAny (model prog w) A (getAttr (.ref x) name expr) Q E s:=by
 have L0:=I.type (M:=model prog w);have L4:=looks_find (M:=model prog w) X I hf;unfold getAttr;refine wpAny_bind (wpAny_mkText (zfh (s:={s with toks:=s.toks+1}) X I hga hgh hsub ?_));refine wpAny_bind (wpAny_pure (wpAny_bind (wpAny_pure (wpAny_bind (L0.at (wpAny_bind (L4.at (wpAny_pure ?_))))))));show wpAny _ _ (handedOut v) _ _ _;rw[handedOut_of hh];exact wpAny_pure h
theorem zgX{od:Obj}{Q:Option Value->Shared->Prop}(X:K.In s.heap)(I:InstAt s.heap x ox C (some od))(hga:findIn K (.ref C) "__getattribute__"=some (some (.builtin "BaseException.__getattribute__")))
  (hgh:findIn K (.ref C) "__getattr__"=some none) (hsub:mroIn K C (.type "BaseException")=some true) (hdct:hasDictIn K C=true) (ha:findIn K (.ref C) "__class__"=some (some (.builtin "object.__class__")))
  (hn:specialIn K (.builtin "object.__class__") "__get__"=some (some (.builtin "getset_descriptor.__get__"))) (htk:takesIn K (.builtin "object.__class__")=some true) (hm:mroIn K C (.type "object")=some true)
  (h:Q (some (.ref C)) {s with toks:=s.toks+1}):wpAny (model prog w) A (getAttr? (.ref x) "__class__") Q E s:=by
 have hf:findObj K C (some od) "__class__"=some (.bind (.builtin "getset_descriptor.__get__") (.builtin "object.__class__")):=findObj_data (by obtain⟨cd,hc,_⟩:=any_some hdct;rw[hc];rfl) ha hn htk;have L0:=I.type (M:=model prog w);have L4:=looks_find (M:=model prog w) X I hf;unfold getAttr?;refine wpAny_bind (wpAny_mkText ?_);unfold getAttrBy?;refine wpAny_bind (wpAny_attempt (zfh (s:={s with toks:=s.toks+1}) X I hga hgh hsub ?_));refine wpAny_bind (wpAny_pure (wpAny_bind (wpAny_pure (wpAny_bind (L0.at (wpAny_bind (L4.at ?_)))))));show wpAny _ _ (holding [_] (call _ [_,.ref x,.ref C])>>=ret) _ _ _;refine wpAny_bind (wpAny_holding (wpAny_call (class_get (s:={s with toks:=s.toks+1}) (ox:=ox) (od:=some od) X I hm ?_)));refine wpAny_pure ?_;show wpAny _ _ (handedOut (.ref C)) _ _ _;rw[handedOut_of (v:=.ref C) rfl];exact wpAny_pure (wpAny_pure h)
theorem zkr{od:Obj}(hga:findIn K (.ref C) "__getattribute__"=some (some (.builtin "BaseException.__getattribute__")))
  (hgh:findIn K (.ref C) "__getattr__"=some none) (hsub:mroIn K C (.type "BaseException")=some true) (hdct:hasDictIn K C=true) (ha:findIn K (.ref C) "__class__"=some (some (.builtin "object.__class__")))
  (hn:specialIn K (.builtin "object.__class__") "__get__"=some (some (.builtin "getset_descriptor.__get__"))) (htk:takesIn K (.builtin "object.__class__")=some true) (hm:mroIn K C (.type "object")=some true) :
  KitX K (.ref x) (.ref C) (fun h=>InstAt h x ox C (some od)):=by
 obtain⟨cd,hc,_⟩:=any_some hdct;unfold clsIn at hc;split at hc;rename_i ho;refine⟨fun _ _ _ I=>I.type,fun _ _ X _ A' Q' E' s' k q=>wpAny_bind (wpAny_loadPart (k _ _ (X _ _ ho)) (wpAny_pure q)),fun h tp dd its n sl X htp=>Bool.eq_false_iff.mpr fun q=>?_,fun X I k=>zgX X I hga hgh hsub hdct ha hn htk hm k⟩;have e:C=tp:=Value.ref.inj (beq_iff_eq.mp q);subst e;have z:=(X _ _ ho).symm.trans htp;cases z;cases hc
end
end R
namespace R
open PySem PySem.Spec PyProof.Rows L2
noncomputable abbrev XN(a C:Addr):HO:=.ext fun h=>∃t,h.get? a=some (newX (.ref C) none t)
noncomputable abbrev XD(a C dx:Addr):HO:=.ext fun h=>∃t,h.get? a=some (newX (.ref C) (some dx) t)
noncomputable abbrev XO(a C dx:Addr):HO:=.ext fun h=>∃vs sl,h.get? a=some ⟨.ref C,some dx,.fields vs,sl⟩/\1<vs.size
structure Fly(lo:Nat)(H:Hp)(h:Heap)(a:Addr):Prop where
 ex:∃C dx vs sl,H a=some (XO a C dx)/\h.get? a=some ⟨.ref C,some dx,.fields vs,sl⟩/\Trc h a vs lo/\∀T,vs[1]?=some (.ref T)->H T=none
 lo:lo<=a
theorem XO.ok(e:h.get? a=some ⟨.ref C,some dx,.fields vs,sl⟩)(z:1<vs.size):ObjOk P w H h a (XO a C dx):=⟨⟨vs,sl,e,z⟩,⟨_,e⟩,fun h1 h2 ⟨vs,sl,e,z⟩ k=>⟨vs,sl,k _ e,z⟩⟩
theorem XD.ok(e:h.get? a=some (newX (.ref C) (some dx) t)):ObjOk P w H h a (XD a C dx):=⟨⟨t,e⟩,⟨_,e⟩,fun h1 h2 ⟨t,e⟩ k=>⟨t,k _ e⟩⟩
theorem XN.ok(e:h.get? a=some (newX (.ref C) none t)):ObjOk P w H h a (XN a C):=⟨⟨t,e⟩,⟨_,e⟩,fun h1 h2 ⟨t,e⟩ k=>⟨t,k _ e⟩⟩
noncomputable def CXe(P:Program)(w:World):CXT:=fun outer H s E e s'=>∃a H',e=.ref a/\s'.os=s.os/\AllBare s'.gens/\Un (frs outer) [] H H' s.heap s'.heap/\HOk P w H' s'.heap/\Fly s.heap.objs.size H' s'.heap a/\E (.ref a) none H'
theorem Fly.mono{lo lo':Nat}(f:Fly lo H h a)(l:lo'<=lo):Fly lo' H h a:=by obtain⟨C,dx,vs,sl,h1,h2,tr,h4⟩:=f.ex;refine⟨⟨C,dx,vs,sl,h1,h2,?_,h4⟩,le_trans l f.lo⟩;rcases tr with t|⟨T,oT,ts,t1,t2,t3,t4,t5,t6⟩;exact .inl t;exact .inr ⟨T,oT,ts,t1,t2,t3,t4,t5,le_trans l t6⟩
section
variable{X:Cx}{pins:List (Addr×Obj)}{σ:L2.St}{H:Hp}{s:Shared}{a:Addr}{lo:Nat}{h':Heap}
theorem zbT(I:Inv X pins σ H s)(stk:X.stack=X.env::X.outer)(fr:X.env.frame=some X.env.locals)(f:Fly lo H s.heap a)(l:X.s₀.heap.objs.size<=lo)(hp:∀p∈X.pn++pins,p.1<lo)
  (he:s.heap.get? a=some oe) (hd:oe.data=.fields vs) (n:Ntd ((X.env::X.outer).filterMap (·.frame)) a oe vs lo s.heap h'):Inv X pins σ H {s with heap:=h'}/\Fly lo H h' a:=by
 obtain⟨C,dx,vs0,sl,h1,h2,tr,h4⟩:=f.ex;rw[he]at h2;cases h2;obtain rfl:vs0=vs:=by simpa using hd
 obtain⟨vs',e1,e2,tr',fr'⟩:=n.exc;have stk':frs X.stack=(X.env::X.outer).filterMap (·.frame):=by rw[stk];rfl
 have frN:∀b,H b≠none->b∉(X.env::X.outer).filterMap (·.frame):=fun b hb hm=>hb (I.stkFree b (by rw[stk'];exact hm));have nT:∀b,H b≠none->vs0[1]?≠some (.ref b):=fun b hb z=>hb (h4 b z);have zsz:1<vs0.size:=by rcases tr with t|⟨T,_,_,t,_⟩<;>exact(Array.getElem?_eq_some_iff.mp t).1
 have hok:HOk X.prog X.w H h':=fun b u e=>by
  by_cases hb:b=a;subst hb;rw[h1]at e;cases e;exact XO.ok e1 (by rw[e2];exact zsz);refine(I.hok b u e).stay (fun c v hc q=>?_) (fun _ q=>q) fun _ _ q=>q;have hcn:H c≠none:=by rcases hc with z|z<;>(first|(rw[z,e];simp)|(rw[z];simp))
  refine n.keep c v (fun z=>?_) (nT c hcn) (frN c hcn) q;rcases hc with y|y;exact hb (y.symm.trans z);rw[z,h1]at y;cases y
 have ch:∃ch:List Addr,(∀b∈ch,(b∈X.ex\/X.s₀.heap.objs.size<=b)/\b≠X.env.locals/\(∀x c,X.env.cells.lookup x=some c->c≠b)/\∀p∈X.pn++pins,p.1≠b)/\∀b,b∉ch->vs0[1]?≠some (.ref b):=by rcases tr with t|⟨T,oT,ts,t1,t2,t3,t4,t5,t6⟩;exact⟨[],(fun _ z=>nomatch z),fun b _ z=>by rw[t]at z;cases z⟩;refine⟨[T],fun b hb=>?_,fun b hb z=>hb (by rw[t1]at z;cases z;exact mem_singleton.mpr rfl)⟩;have e:b=T:=mem_singleton.mp hb;subst e;refine⟨.inr (le_trans l t6),fun z=>?_,fun x c e z=>?_,fun p hp' z=>?_⟩;obtain⟨m,⟨o,es,ep,ho,hd',_⟩,_⟩:=I.loc;rw[z,ho]at t3;cases t3;rw[hd']at t4;cases t4;obtain⟨v,o,ho,hd'⟩:=I.cell x c e;rw[z,t3]at ho;cases ho;rw[hd']at t4;cases t4;exact absurd (hp p hp') (by rw[z];exact Nat.not_lt.mpr t6)
 obtain⟨ch,c1,c2⟩:=ch;refine⟨I.step (g':=s.gens) (d':=s.drawn) (t':=s.toks) c1 (fun b o hL hf hc q hn=>?_) (fun b o hL hf hc q hn=>?_) (fun _ _ _ _ q=>q) (fun b o _ q=>n.there b o q) (fun _ _ q=>q) (fun _ _ _ q=>q) (fun b ps q=>⟨#[],by rw[q];simp⟩) (fun m hm=>?_) hok I.bare,⟨C,dx,vs',sl,h1,e1,.inr tr',?_⟩,f.lo⟩;refine n.keep b o (fun z=>by rw[z,h1]at hn;cases hn) (c2 b hc) (fun hm=>?_) q;have:=I.stkSub b (by rw[stk'];exact hm);rcases mem_cons.mp this with z|z;exact hL z;exact hf z;refine n.slot b o ?_ q;rw[List.filterMap_cons,fr];exact mem_cons_of_mem _ hf;obtain⟨o,es,ep,ho,r⟩:=hm;obtain⟨sl',q⟩:=n.slot X.env.locals o (by rw[List.filterMap_cons,fr];exact mem_cons_self) ho;exact⟨_,es,ep,q,r⟩;intro T hT;rcases fr' T hT with z|z;exact I.hok.fresh z;exact h4 T z
theorem zgB{K:PySem.W.Frag}
  (I:Inv (cxOf (CXe P w) P w K mg base N qual scope f cd A outer s₀ H₀ E) pins σ H s) (fl:Fly s₀.heap.objs.size H s.heap a) (hE:E (.ref a) none H):(cxOf (CXe P w) P w K mg base N qual scope f cd A outer s₀ H₀ E).xe (.ref a) s:=by
 have J:Inv (cxOf (CXe P w) P w K mg base N qual scope f cd A outer s₀ H₀ E) [] σ H s:=I.pins_of fun p z=>nomatch z;obtain⟨C,dx,vs,sl,h1,h2,tr,h4⟩:=id fl.ex;refine wpAny_bind (zeW J.ok.frames J.stack rfl h2 rfl tr J.sz fun h' n=>?_);obtain⟨J',f'⟩:=zbT J rfl rfl fl (le_refl _) (fun p z=>absurd (show p∈([]:List (Addr×Obj)) from z) (by simp)) h2 rfl n;exact⟨a,H,rfl,J'.os,J'.bare,J'.base,J'.hok,f',hE⟩
end
noncomputable abbrev bmV:List Value:=[.type "ValueError",.type "Exception",.type "BaseException",.type "object"]
noncomputable def excJ(K:PySem.W.Frag)(C fI:Addr):Bool:=match K.lookup C with
 |some ⟨.type "type",_,.cls cd,sl⟩=>(match cd.mro,sl.toList with
  |.ref D::bm,[_,_,_,_,some (.builtin n),_]=>D==C&&(n=="ValueError.__new__"&&(!cd.hasDel&&(PySem.W.tailIn K bmV bm&&(PySem.W.nsOkIn K cd.ns&&nsIn K cd.ns "__init__" == some (some (.ref fI))))))|_,_=>false)
 |_=>false
structure XcAt(h:Heap)(C fI:Addr):Prop where
 ex:∃(nm q:Str) (N:Addr) (bs bm:List Value) (hdct:Bool) (sn:List Str) (sub:List Value) (ab:Bool) (col:Option Bool) (dd:Option Addr) (k0 k1 k2 k3 k5:Option Value) (mN:Str->Option Value),
  h.get? C=some (excClassObj nm q C N bs bm hdct sn sub ab col dd k0 k1 k2 k3 k5 "ValueError.__new__")/\h.Ns N mN/\mN "__init__"=some (.ref fI)/\OwnTail h bmV bm
theorem zj9{K:PySem.W.Frag}(X:K.In h)(G:h.Ns N m)(e:nsIn K N x=some (some v)):m x=some v:=by
 obtain⟨o,es,ep,ho,hd,_,hf⟩:=G;unfold nsIn at e;split at e;rename_i e1;have:=X _ _ e1;rw[ho]at this;cases this;cases hd;split at e;rename_i q;cases e;rw[<-hf];unfold nsFind findBy;rw[<-Array.find?_toList,q];rfl
 . split at e<;>cases e
 cases e
theorem ziZ{K:PySem.W.Frag}(X:K.In h)(q:excJ K C fI=true):XcAt h C fI:=by unfold excJ at q;split at q;rename_i dd cd sl ho;split at q;rename_i D bm k0 k1 k2 k3 n k5 hm hs;simp at q;obtain⟨rfl,rfl,hdel,ht,hok,hi⟩:=q;obtain⟨nm,bs,mro,ns,qn,hd,sn,sub,ab,col,del⟩:=cd;subst hm hdel;obtain⟨l⟩:=sl;subst hs;exact⟨nm,qn,ns,bs,bm,hd,sn,sub,ab,col,dd,k0,k1,k2,k3,k5,_,X _ _ ho,.of_isNs (PySem.W.isNs_of_in X hok),zj9 X (.of_isNs (PySem.W.isNs_of_in X hok)) hi,PySem.W.tail_of_in X ht⟩;cases q;cases q
structure Xc(K:PySem.W.Frag)(C fI:Addr)(f:Str):Prop where
 ex:excJ K C fI=true
 fn:isFn K (.ref fI)=true
 sa:PySem.W.findIn K (.ref C) "__setattr__"=some (some (.builtin "object.__setattr__"))
 po:zgr K C=true
 hd:PySem.W.hasDictIn K C=true
 no:NoAttr K C f
section
variable{X:Cx}{pins:List (Addr×Obj)}{σ:L2.St}{H:Hp}{s:Shared}{e C fI:Addr}{f:Str}
theorem zkP(h:H a=some o):upd H a o=H:=by funext b;unfold upd;split;rename_i z;rw[z,h];rfl
theorem zkk(I:Inv X pins σ H s)(x:excJ X.K C fI=true)(he:H e=some (XN e C))(h:∀s',Inv X pins σ H s'->Q .none s') :
  wpAny (model X.prog X.w) X.A (call (.builtin "ValueError.__init__") [.ref e,v]) Q X.xe s:=by
 obtain⟨nm,q,N,bs,bm,hdct,sn,sub,ab,col,dd,k0,k1,k2,k3,k5,mN,hC,hn,hi,T⟩:=(ziZ I.kIn x).ex;obtain⟨⟨t,et⟩,_⟩:=(I.hok e _ he);obtain⟨hh,g,d,tk,os⟩:=s;refine zif F.excBase_ValueError T hC et fun h' t1 k1 k2=>h _ ?_;have:=I.write (t':=tk) (h':=h') (by rw[he];exact True.intro) (.inl rfl) k1 ⟨_,k2⟩ (XN.ok k2);rw[zkP he]at this;exact this
theorem zkz(I:Inv X pins σ H s)(c:Xc X.K C fI f)(he:H e=some (XN e C))(rv:RelV v u)
  (h:∀dx od s',H dx=none->dx≠e->Inv X pins σ (upd (upd H dx (.frz od (.xd [(f,v)]))) e (XD e C dx)) s'->Q () s'):wpAny (model X.prog X.w) X.A (setAttr (.ref e) f u) Q X.xe s:=by
 obtain⟨⟨t,et⟩,_⟩:=(I.hok e _ he);have lt:=Heap.lt_size et;refine zgW I.kIn et rfl rfl rfl c.sa c.po c.no c.hd fun h' k1 k2 k3=>?_;obtain⟨od,es,ep,ho,r⟩:=id k2;have ne:s.heap.objs.size≠e:=ne_of_gt lt;apply h s.heap.objs.size od _ (I.hok.fresh (le_refl _)) ne;have un:Un X.fs [] H (upd (upd H s.heap.objs.size (.frz od (.xd [(f,v)]))) e (XD e C s.heap.objs.size)) s.heap h':=by refine⟨fun b o q n _ _=>k3 b o (fun z=>by rw[z,he]at n;cases n) q,fun b o q n _ _=>⟨o.slots,k3 b o (fun z=>by rw[z,he]at n;cases n) q⟩,fun b o q n _=>?_,fun b o q _=>?_,fun b xs q=>?_,fun b o u q=>?_,fun b ps q=>?_⟩;rw[zaf (fun z=>by rw[z,he]at n;cases n),zaf (ne_of_lt (Heap.lt_size q))];exact n;by_cases hb:b=e;subst hb;exact⟨_,k1⟩;exact⟨o,k3 b o hb q⟩;have lb:=I.hok.lt q;rw[zaf (fun z=>by rw[z,he]at q;cases q),zaf (ne_of_lt lb)];exact q;have lb:=I.hok.lt q;rw[zaf (fun z=>by rw[z,he]at q;cases q),zaf (ne_of_lt lb)];exact q;have lb:=I.hok.lt q;rw[zaf (fun z=>by rw[z,he]at q;cases q),zaf (ne_of_lt lb),q];simp
 refine I.un (t':=s.toks+2) un fun b o q=>?_;by_cases hb:b=e;subst hb;rw[zai]at q;cases q;exact XD.ok k1;rw[zaf hb]at q;by_cases hd:b=s.heap.objs.size;subst hd;rw[zai]at q;cases q;refine⟨ho,_,k2,fun g=>?_⟩;by_cases hg:g=f;subst hg;simp[RelO,rv];have:(g==f)=false:=by simpa using hg
 simp[RelO,List.lookup,this,hg];rw[zaf hd]at q;refine(I.hok b o q).stay (fun c w hc qc=>k3 c w (fun z=>?_) qc) (fun c hc=>?_) fun c xs hc=>?_;rcases hc with y|y;exact hb (y.symm.trans z);rw[z,he]at y;cases y;have lc:=I.hok.lt hc;rw[zaf (fun z=>by rw[z,he]at hc;cases hc),zaf (ne_of_lt lc)];exact hc;have lc:=I.hok.lt hc;rw[zaf (fun z=>by rw[z,he]at hc;cases hc),zaf (ne_of_lt lc)];exact hc
end
structure XUp(K:PySem.W.Frag)(mg:Str->Option Value)(xR:Str):Prop where
 ex:∃CR:Addr,mg xR=some (.ref CR)/\specialIn K (.ref CR) "__getattribute__"=some (some (.builtin "type.__getattribute__"))/\readsIn K CR (.type "type")=true/\findCls K (.ref CR) (.type "type") "__init__"=some (.val (.builtin "ValueError.__init__"))
structure XSt(st:Stmt)(xR y f:Str):Prop where
 body:∃(txt:Str) (j:Nat) (p1 p2 p3 p4 p5 p6 p7 p8 p9 p10:Pos),zam st=[.Expr (.Call (.Attribute (.Name xR p1) "__init__" p2) [.Name "self" p3,.Constant (.str txt) j p4] [] p5) p6,.Assign [.Attribute (.Name "self" p7) f p8] (.Name y p9) p10]/\(p2.endLine==p5.line)=true
 sc:FnScope ["self",y] ["self",y] (zae st)
 v1:(zae st).names.lookup ("self":Str)=some .local
 v2:(zae st).names.lookup y=some .local
 gl:(zae st).names.lookup xR=some .globalImplicit
 n1:(xR==("__debug__":Str))=false
 n2:(y==("__debug__":Str))=false/\(y==("__classdict__":Str))=false
noncomputable def spI(K:PySem.W.Frag)(fI:Addr)(f:Str):Sp:=fun vs H Q _=>∃e C v,vs=[.ref e,v]/\H e=some (XN e C)/\Xc K C fI f/\∀dx od,H dx=none->dx≠e->Q .non (upd (upd H dx (.frz od (.xd [(f,v)]))) e (XD e C dx))
structure XGet(K:PySem.W.Frag)(C:Addr):Prop where
 ga:PySem.W.findIn K (.ref C) "__getattribute__"=some (some (.builtin "BaseException.__getattribute__"))
 gh:PySem.W.findIn K (.ref C) "__getattr__"=some none
 sb:PySem.W.mroIn K C (.type "BaseException")=some true
 hd:PySem.W.hasDictIn K C=true
end R
namespace R
open PySem L2
def KL(K:PySem.W.Frag)(a:Addr)(xs:List V):Prop:=∃(o:Obj) (its:Array Value) (n:Nat),K.lookup a=some o/\o.cls=.type "list"/\o.dict=none/\o.data=.seq its n/\its.size<=sizeLine/\Vals xs its.toList
def FixL(K:PySem.W.Frag)(H:Hp)(a:Addr)(xs:List V):Prop:=(∃o,H a=some (.frz o (.lst xs)))\/KL K a xs
theorem FixL.sq(h:FixL K H a xs):SqL K H a xs:=h.elim (fun⟨o,e⟩=>.inl (.inr ⟨o,e⟩)) .inr
class Mks where
 ts:List (Addr×Str)
 cl:List Addr
 xc:List Addr:=[]
variable[Mks]
def TabIn(H:Hp)(P:Addr)(q:Str):Prop:=∃ps:Array Value,H P=some (.tbl ps)/\TriplesOk ps.toList/\
 ∀(pos:Pos)(v:Value),codeAmong pos ps.toList=some v->∃(c:Addr) (oc:Obj) (vs:Array Value) (t:Tok),v=.ref c/\H c=some (.frz oc (.own 0))/\oc.data=.fields vs/\vs[1]?=some (.str q t)
theorem TabIn.up(t:TabIn H P q)(e:H' P=H P)(f:∀b o u,H b=some (.frz o u)->H' b=some (.frz o u)):TabIn H' P q:=by obtain⟨ps,h1,h2,h3⟩:=t;refine⟨ps,by rw[e];exact h1,h2,fun pos v hv=>?_⟩;obtain⟨c,oc,vs,t,a1,a2,a3⟩:=h3 pos v hv;exact⟨c,oc,vs,t,a1,f _ _ _ a2,a3⟩
def TB(H:Hp):Prop:=∀p∈Mks.ts,TabIn H p.1 p.2
structure Kp(H H':Hp):Prop where
 tups:Tups H H'
 frzs:∀b o u,H b=some (.frz o u)->H' b=some (.frz o u)
 tab:TB H->TB H'
theorem Kp.refl(H:Hp):Kp H H:=⟨Tups.refl H,fun _ _ _ h=>h,fun h=>h⟩
theorem Kp.trans(a:Kp H H1)(b:Kp H1 H2):Kp H H2:=⟨a.tups.trans b.tups,fun c o u h=>b.frzs c o u (a.frzs c o u h),fun h=>b.tab (a.tab h)⟩
theorem Kp.same(a:Tups H H')(b:∀b o u,H b=some (.frz o u)->H' b=some (.frz o u))(c:∀P ps,H P=some (.tbl ps)->H' P=some (.tbl ps)):Kp H H':=⟨a,b,fun h p hp=>by obtain⟨ps,h1,_⟩:=id (h p hp);exact(h p hp).up ((c _ _ h1).trans h1.symm) b⟩
theorem FixL.kp(h:FixL K H a xs)(k:Kp H H'):FixL K H' a xs:=h.elim (fun⟨o,e⟩=>.inl ⟨o,k.frzs _ _ _ e⟩) .inr
mutual
def RV(K:PySem.W.Frag)(ι:List Addr)(H:Hp):D->V->Prop
 |.non,v=>v=.non|.bl b,v=>v=.bl b|.int i,v=>v=.int i|.str x,v=>v=.str x|.tup ds,v=>∃a xs,v=.ref a/\H a=some (.tup xs)/\RVs K ι H ds xs|.ref l,v=>∃a,ι[l]?=some a/\v=.ref a|.fix ds,v=>∃a xs,v=.ref a/\FixL K H a xs/\RVs K ι H ds xs
def RVs(K:PySem.W.Frag)(ι:List Addr)(H:Hp):List D->List V->Prop
 | [],vs=>vs=[]|d::ds,vs=>∃v r,vs=v::r/\RV K ι H d v/\RVs K ι H ds r
end
def RFs(K:PySem.W.Frag)(ι:List Addr)(H:Hp):List (Str×D)->List (Str×V)->Prop
 | [],ws=>ws=[]|(f,d)::r,ws=>∃v w,ws=(f,v)::w/\RV K ι H d v/\RFs K ι H r w
def RO(K:PySem.W.Frag)(ι:List Addr)(H:Hp)(a:Addr):MO->Prop
 |.lst ds=>∃xs,H a=some (.lst xs)/\RVs K ι H ds xs|.ins c fs=>∃C dx ws,Mks.cl[c]?=some C/\H a=some (.ins C dx ws)/\RFs K ι H fs ws|.exc c fs=>∃C dx od ws,Mks.xc[c]?=some C/\H a=some (XO a C dx)/\H dx=some (.frz od (.xd ws))/\RFs K ι H fs ws
structure RH(K:PySem.W.Frag)(ι:List Addr)(H:Hp)(S:St):Prop where
 len:ι.length=S.len
 nd:ι.Nodup
 obj:∀l o,S.get l=some o->∃a,ι[l]?=some a/\RO K ι H a o
 tab:TB H
structure Ext(ι:List Addr)(H:Hp)(ι':List Addr)(H':Hp):Prop where
 pre:ι <+: ι'
 kp:Kp H H'
 rest:∀a o,a∉ι->H a=some o->(H' a=some o\/((∃ps,o=.tbl ps)/\∃ps,H' a=some (.tbl ps)))/\a∉ι'
theorem Ext.refl(ι:List Addr)(H:Hp):Ext ι H ι H:=⟨prefix_refl _,Kp.refl H,fun a o h e=>⟨.inl e,h⟩⟩
theorem Ext.trans(a:Ext ι H ι1 H1)(b:Ext ι1 H1 ι2 H2):Ext ι H ι2 H2:=⟨a.pre.trans b.pre,a.kp.trans b.kp,fun x o h e=>by obtain⟨e1,h1⟩:=a.rest x o h e;rcases e1 with e1|⟨t,ps,e1⟩;exact b.rest x o h1 e1;obtain⟨e2,h2⟩:=b.rest x _ h1 e1;refine⟨.inr ⟨t,?_⟩,h2⟩;rcases e2 with e2|⟨_,e2⟩;exact⟨ps,e2⟩;exact e2⟩
theorem Ext.keep(x:Ext ι H ι1 H1)(h:a∉ι)(e:H a=some o)(n:∀ps,o≠.tbl ps):H1 a=some o:=(x.rest a o h e).1.elim id fun⟨⟨ps,z⟩,_⟩=>absurd z (n ps)
theorem zb0{ι ι':List Addr}(h:ι <+: ι'){l:Nat}(e:ι[l]?=some a):ι'[l]?=some a:=by obtain⟨t,rfl⟩:=h;rw[getElem?_append_left (List.getElem?_eq_some_iff.mp e).1];exact e
mutual
theorem RV.up{K:PySem.W.Frag}{ι ι':List Addr}{H H':Hp}(hp:ι <+: ι')(hk:Kp H H'):∀{d:D}{v:V},RV K ι H d v->RV K ι' H' d v
 |.non,_,r=>r|.bl _,_,r=>r|.int _,_,r=>r|.str _,_,r=>r| .tup ds,_,r=>by obtain⟨a,xs,e,ha,q⟩:=r;exact⟨a,xs,e,hk.tups _ _ ha,RVs.up hp hk q⟩| .ref l,_,r=>by obtain⟨a,e,q⟩:=r;exact⟨a,zb0 hp e,q⟩| .fix ds,_,r=>by obtain⟨a,xs,e,ha,q⟩:=r;exact⟨a,xs,e,ha.kp hk,RVs.up hp hk q⟩
theorem RVs.up{K:PySem.W.Frag}{ι ι':List Addr}{H H':Hp}(hp:ι <+: ι')(hk:Kp H H'):∀{ds:List D}{vs:List V},RVs K ι H ds vs->RVs K ι' H' ds vs
 | [],_,r=>r| d::ds,vs,r=>by obtain⟨v,w,e,r1,r2⟩:=r;exact⟨v,w,e,RV.up hp hk r1,RVs.up hp hk r2⟩
end
theorem RFs.up(hp:ι <+: ι')(hk:Kp H H'):∀{fs:List (Str×D)}{ws:List (Str×V)},RFs K ι H fs ws->RFs K ι' H' fs ws
 | [],_,h=>h| (f,d)::r,_,h=>by obtain⟨v,w,e,r1,r2⟩:=h;exact⟨v,w,e,RV.up hp hk r1,RFs.up hp hk r2⟩
theorem RFs.length:∀{fs:List (Str×D)}{ws:List (Str×V)},RFs K ι H fs ws->ws.length=fs.length
 | [],_,h=>by cases h;rfl| (f,d)::r,_,h=>by obtain⟨v,w,rfl,r1,r2⟩:=h;simp[RFs.length r2]
theorem RFs.look(f:Str):∀{fs:List (Str×D)}{ws:List (Str×V)},RFs K ι H fs ws->(fs.lookup f=none/\ws.lookup f=none)\/∃d v,fs.lookup f=some d/\ws.lookup f=some v/\RV K ι H d v
 | [],_,h=>by cases h;exact .inl ⟨rfl,rfl⟩| (g,d)::r,_,h=>by
  obtain⟨v,w,rfl,r1,r2⟩:=h;by_cases c:(f==g)=true;exact .inr ⟨d,v,by simp[List.lookup,c],by simp[List.lookup,c],r1⟩;have c:(f==g)=false:=by simpa using c
  simp only[List.lookup,c];exact RFs.look f r2
theorem RFs.put(f:Str)(q:RV K ι H d v):∀{fs:List (Str×D)}{ws:List (Str×V)},RFs K ι H fs ws->RFs K ι H (zhF f d fs) (putF f v ws)
 | [],_,h=>by cases h;exact⟨v,[],rfl,q,rfl⟩| (g,x)::r,_,h=>by obtain⟨u,w,rfl,r1,r2⟩:=h;unfold zhF putF;by_cases c:g=f;rw[if_pos c,if_pos c];exact⟨v,w,rfl,q,r2⟩;rw[if_neg c,if_neg c];exact⟨u,_,rfl,r1,RFs.put f q r2⟩
theorem RV.ext(h:Ext ι H ι' H')(r:RV K ι H d v):RV K ι' H' d v:=r.up h.pre h.kp
theorem RVs.ext(h:Ext ι H ι' H')(r:RVs K ι H ds vs):RVs K ι' H' ds vs:=r.up h.pre h.kp
theorem RVs.length:∀{ds:List D}{vs:List V},RVs K ι H ds vs->vs.length=ds.length
 | [],_,r=>by rw[show _=[] from r];rfl| d::ds,vs,r=>by obtain⟨v,w,rfl,_,r2⟩:=r;simp[RVs.length r2]
theorem RVs.get:∀{ds:List D}{vs:List V}{i:Nat}{d:D},RVs K ι H ds vs->ds[i]?=some d->∃v,vs[i]?=some v/\RV K ι H d v
 | [],_,_,_,_,e=>by simp at e| d::ds,vs,0,d',r,e=>by obtain⟨v,w,rfl,r1,_⟩:=r;simp at e;subst e;exact⟨v,rfl,r1⟩| d::ds,vs,i+1,d',r,e=>by obtain⟨v,w,rfl,_,r2⟩:=r;obtain⟨u,e1,e2⟩:=RVs.get r2 (by simpa using e);exact⟨u,by simpa using e1,e2⟩
theorem RVs.get'{i:Nat}(r:RVs K ι H ds vs)(e:vs[i]?=some v):∃d,ds[i]?=some d/\RV K ι H d v:=by
 have hi:i<ds.length:=by rw[<-r.length];exact(List.getElem?_eq_some_iff.mp e).1
 obtain⟨u,e1,e2⟩:=r.get (getElem?_eq_getElem hi);rw[e]at e1;cases e1;exact⟨_,getElem?_eq_getElem hi,e2⟩
theorem RVs.append:∀{ds es:List D}{vs us:List V},RVs K ι H ds vs->RVs K ι H es us->RVs K ι H (ds++es) (vs++us)
 | [],_,_,_,r,q=>by rw[show _=[] from r];exact q| d::ds,es,vs,us,r,q=>by obtain⟨v,w,rfl,r1,r2⟩:=r;exact⟨v,w++us,rfl,r1,RVs.append r2 q⟩
theorem RVs.take:∀{ds:List D}{vs:List V}(n:Nat),RVs K ι H ds vs->RVs K ι H (ds.take n) (vs.take n)
 |_,_,0,_=>rfl| [],_,n+1,r=>by rw[show _=[] from r];rfl| d::ds,vs,n+1,r=>by obtain⟨v,w,rfl,r1,r2⟩:=r;exact⟨v,w.take n,rfl,r1,RVs.take n r2⟩
theorem RVs.drop:∀{ds:List D}{vs:List V}(n:Nat),RVs K ι H ds vs->RVs K ι H (ds.drop n) (vs.drop n)
 |_,_,0,r=>r| [],_,n+1,r=>by rw[show _=[] from r];rfl| d::ds,vs,n+1,r=>by obtain⟨v,w,rfl,r1,r2⟩:=r;exact RVs.drop n r2
theorem RVs.set(q:RV K ι H d v):∀{ds:List D}{vs:List V}(n:Nat),RVs K ι H ds vs->RVs K ι H (ds.set n d) (vs.set n v)
 | [],_,n,r=>by rw[show _=[] from r];rfl| _::ds,vs,0,r=>by obtain⟨_,w,rfl,r1,r2⟩:=r;exact⟨v,w,rfl,q,r2⟩| _::ds,vs,n+1,r=>by obtain⟨u,w,rfl,r1,r2⟩:=r;exact⟨u,w.set n v,rfl,r1,RVs.set q n r2⟩
theorem RVs.ints:∀ns:List Int,RVs K ι H (ns.map D.int) (ns.map V.int)
 | []=>rfl|n::ns=>⟨_,_,rfl,rfl,RVs.ints ns⟩
theorem RVs.ints_eq:∀{ns:List Int}{vs:List V},RVs K ι H (ns.map D.int) vs->vs=ns.map V.int
 | [],_,h=>h| n::ns,vs,h=>by obtain⟨v,r,rfl,h1,h2⟩:=h;rw[RVs.ints_eq h2,show v=.int n from h1];rfl
theorem zh7:∀{ds:List D}{ns:List Int},zcR ds=some ns->ds=ns.map D.int:=by
 intro ds;unfold zcR;induction ds with
 |nil=>intro ns h;simp at h;subst h;rfl| cons d ds ih=>
  intro ns h;rw[mapM_cons]at h;cases d with
  |int i=>cases e:List.mapM zeu ds with|none=>rw[e]at h;simp at h|some ms=>rw[e]at h;simp[zeu]at h;subst h;simp[ih e]
  |_=>simp[zeu]at h
mutual
theorem RV.flat{K:PySem.W.Frag}{ι:List Addr}{H:Hp}:∀{d:D}{v:V},RV K ι H d v->R.flat ι.length d=true
 |.non,_,_=>by simp[R.flat]|.bl _,_,_=>by simp[R.flat]|.int _,_,_=>by simp[R.flat]|.str _,_,_=>by simp[R.flat]| .tup ds,_,r=>by obtain⟨a,xs,e,ha,q⟩:=r;simp only[R.flat];exact RVs.flats q| .ref l,_,r=>by obtain⟨a,e,q⟩:=r;simp only[R.flat,decide_eq_true_eq];exact(List.getElem?_eq_some_iff.mp e).1| .fix ds,_,r=>by obtain⟨a,xs,e,ha,q⟩:=r;simp only[R.flat];exact RVs.flats q
theorem RVs.flats{K:PySem.W.Frag}{ι:List Addr}{H:Hp}:∀{ds:List D}{vs:List V},RVs K ι H ds vs->R.flats ι.length ds=true
 | [],_,_=>by simp[R.flats]| d::ds,vs,r=>by obtain⟨v,w,e,r1,r2⟩:=r;simp only[R.flats,and_eq_true];exact⟨RV.flat r1,RVs.flats r2⟩
end
mutual
theorem RV.restrict{K:PySem.W.Frag}{ι ι':List Addr}{H:Hp}(hp:ι <+: ι'):∀{d:D}{v:V},R.flat ι.length d=true->RV K ι' H d v->RV K ι H d v
 |.non,_,_,r=>r|.bl _,_,_,r=>r|.int _,_,_,r=>r|.str _,_,_,r=>r| .tup ds,_,f,r=>by obtain⟨a,xs,e,ha,q⟩:=r;simp only[R.flat]at f;exact⟨a,xs,e,ha,RVs.restrict hp f q⟩| .ref l,_,f,r=>by obtain⟨a,e,q⟩:=r;simp only[R.flat,decide_eq_true_eq]at f;refine⟨a,?_,q⟩;obtain⟨t,rfl⟩:=hp;rw[getElem?_append_left f]at e;exact e| .fix ds,_,f,r=>by obtain⟨a,xs,e,ha,q⟩:=r;simp only[R.flat]at f;exact⟨a,xs,e,ha,RVs.restrict hp f q⟩
theorem RVs.restrict{K:PySem.W.Frag}{ι ι':List Addr}{H:Hp}(hp:ι <+: ι'):∀{ds:List D}{vs:List V},R.flats ι.length ds=true->RVs K ι' H ds vs->RVs K ι H ds vs
 | [],_,_,r=>r| d::ds,vs,f,r=>by obtain⟨v,w,e,r1,r2⟩:=r;simp only[R.flats,and_eq_true]at f;exact⟨v,w,e,RV.restrict hp f.1 r1,RVs.restrict hp f.2 r2⟩
end
theorem RFs.flats:∀{fs:List (Str×D)}{ws:List (Str×V)},RFs K ι H fs ws->R.flats ι.length (fs.map (·.2))=true
 | [],_,_=>by simp| (f,d)::r,_,h=>by obtain⟨v,w,_,r1,r2⟩:=h;simp;exact⟨RV.flat r1,RFs.flats r2⟩
theorem RFs.restrict(hp:ι <+: ι'):∀{fs:List (Str×D)}{ws:List (Str×V)},R.flats ι.length (fs.map (·.2))=true->RFs K ι' H fs ws->RFs K ι H fs ws
 | [],_,_,h=>h| (f,d)::r,_,f0,h=>by obtain⟨v,w,e,r1,r2⟩:=h;simp at f0;exact⟨v,w,e,RV.restrict hp f0.1 r1,RFs.restrict hp f0.2 r2⟩
theorem RO.up(h:RO K ι H a o)(hp:ι <+: ι')(hk:Kp H H')(e:H' a=H a):RO K ι' H' a o:=by cases o with|lst ds=>obtain⟨xs,h1,h2⟩:=h;exact⟨xs,e.trans h1,h2.up hp hk⟩|ins c fs=>obtain⟨C,dx,ws,h0,h1,h2⟩:=h;exact⟨C,dx,ws,h0,e.trans h1,h2.up hp hk⟩|exc c fs=>obtain⟨C,dx,od,ws,h0,h1,h2,h3⟩:=h;exact⟨C,dx,od,ws,h0,e.trans h1,hk.frzs _ _ _ h2,h3.up hp hk⟩
theorem RO.stay(h:RO K ι H a o)(x:Ext ι H ι' H')(e:H' a=H a):RO K ι' H' a o:=h.up x.pre x.kp e
section
variable{K:PySem.W.Frag}{ι ι':List Addr}{H H':Hp}{S S' T:St}{l:Nat}{a p:Addr}
theorem RH.mem(h:RH K ι H S)(e:S.get l=some o):∃a,ι[l]?=some a/\RO K ι H a o/\a∈ι:=by obtain⟨a,h1,h2⟩:=h.obj l o e;exact⟨a,h1,h2,mem_of_getElem? h1⟩
theorem zib(h:l<S.len):∃o,S.get l=some o:=by unfold St.len at h;unfold St.get;split;rename_i c;exact⟨_,getElem?_eq_getElem c⟩;exact⟨_,getElem?_eq_getElem (by omega)⟩
theorem RH.off(h:RH K ι H S)(x:Ext ι H ι H')(e:∀a∈ι,H' a=H a):RH K ι H' S:=⟨h.len,h.nd,fun l o q=>let ⟨a,h1,h2,hm⟩:=h.mem q;⟨a,h1,h2.stay x (e a hm)⟩,x.kp.tab h.tab⟩
theorem RH.live(h:RH K ι H S)(ha:a∈ι):∃o,H a=some o/\(∀xs,o≠.tup xs)/\(∀z u,o≠.frz z u)/\∀ps,o≠.tbl ps:=by
 obtain⟨l,hl⟩:=List.mem_iff_getElem?.mp ha;have hlt:l<S.len:=by rw[<-h.len];exact(List.getElem?_eq_some_iff.mp hl).1
 obtain⟨o,e⟩:=zib hlt;obtain⟨b,h1,h2⟩:=h.obj l o e;rw[hl]at h1;cases h1;cases o with|lst ds=>obtain⟨xs,q,_⟩:=h2;exact⟨_,q,⟨fun _ z=>(by cases z),fun _ _ z=>(by cases z),fun _ z=>(by cases z)⟩⟩|ins c fs=>obtain⟨C,dx,ws,_,q,_⟩:=h2;exact⟨_,q,⟨fun _ z=>(by cases z),fun _ _ z=>(by cases z),fun _ z=>(by cases z)⟩⟩|exc c fs=>obtain⟨C,dx,od,ws,_,q,_⟩:=h2;exact⟨_,q,⟨fun _ z=>(by cases z),fun _ _ z=>(by cases z),fun _ z=>(by cases z)⟩⟩
theorem RH.fresh(h:RH K ι H S)(hp:H p=Option.none):p∉ι:=fun hm=>by obtain⟨o,e,_⟩:=h.live hm;rw[hp]at e;cases e
theorem RH.notup(h:RH K ι H S)(hp:H p=some (.tup xs)):p∉ι:=fun hm=>by obtain⟨o,e,q,_⟩:=h.live hm;rw[hp]at e;cases e;exact q _ rfl
theorem Kp.new(hp:H p=Option.none)(o:HO):Kp H (upd H p o):=.same (Tups.upd_new hp) (fun b z u e=>by rw[zaf (zau e hp)];exact e) fun b ps e=>by rw[zaf (zau e hp)];exact e
theorem Ext.new(hp:H p=Option.none)(o:HO):Ext ι H ι (upd H p o):=⟨prefix_refl _,Kp.new hp o,fun a u h e=>⟨.inl (by rw[zaf (zau e hp)];exact e),h⟩⟩
theorem RH.new(h:RH K ι H S)(hp:H p=Option.none)(o:HO):RH K ι (upd H p o) S:=h.off (Ext.new hp o) fun a ha=>zaf fun e=>h.fresh hp (e▸ha)
theorem zfc(S:St)(o:MO):(S.push o).get S.len=some o:=by unfold St.get St.push;unfold St.len;simp
theorem zct(h:l<S.len):(S.push o).get l=S.get l:=by unfold St.len at h;unfold St.get St.push;simp only;split;rfl;rw[getElem?_append_left (by omega)]
theorem zcd(S:St)(o:MO):(S.push o).len=S.len+1:=by simp[St.push,St.len];omega
theorem Ext.obj(h:RH K ι H S)(hp:H p=Option.none)(u:HO):Ext ι H (ι++[p]) (upd H p u):=
 ⟨prefix_append _ _,Kp.new hp u,fun a o ha e=>⟨.inl (by rw[zaf (zau e hp)];exact e),by
  intro z;rcases mem_append.mp z with z|z;exact ha z;simp at z;exact zau e hp z⟩⟩
theorem RH.obj'(h:RH K ι H S)(hp:H p=Option.none)(u:HO)(o:MO)(ho:RO K (ι++[p]) (upd H p u) p o):RH K (ι++[p]) (upd H p u) (S.push o):=by
 refine⟨by rw[length_append,h.len,zcd];rfl,?_,fun l o' e=>?_,(Kp.new hp u).tab h.tab⟩;rw[List.nodup_append];refine⟨h.nd,by simp,fun a ha b hb=>?_⟩;simp at hb;subst hb;exact fun z=>h.fresh hp (z▸ha);by_cases hl:l<S.len;rw[zct hl]at e;obtain⟨a,h1,h2,hm⟩:=h.mem e;exact⟨a,zb0 (prefix_append _ _) h1,h2.stay (Ext.obj h hp u) (zaf fun z=>h.fresh hp (z▸hm))⟩;have hl2:=zb5 e;rw[zcd]at hl2;have:l=S.len:=by omega
 subst this;rw[zfc]at e;cases e;exact⟨p,by rw[<-h.len];simp,ho⟩
theorem RH.lay(h:RH K ι H S)(hp:H p=Option.none)(r:RVs K ι H ds xs):RH K (ι++[p]) (upd H p (.lst xs)) (S.push (.lst ds)):=h.obj' hp _ _ ⟨xs,zai,r.ext (Ext.obj h hp _)⟩
theorem RH.last(h:RH K ι H S)(p:Addr):(ι++[p])[S.len]?=some p:=by rw[<-h.len];simp
theorem Ext.wr(h:RH K ι H S)(e:S.get l=some o)(hl:ι[l]?=some a)(u:HO):Ext ι H ι (upd H a u):=by have hm:=mem_of_getElem? hl;refine⟨prefix_refl _,.same (fun b xs hb=>?_) (fun b z v hb=>?_) fun b ps hb=>?_,fun b o hb e=>⟨.inl ((zaf fun(z:b=a)=>hb (by rw[z];exact hm)).trans e),hb⟩⟩;rw[zaf];exact hb;rintro rfl;exact h.notup hb hm;rw[zaf];exact hb;rintro rfl;obtain⟨o,e,_,q,_⟩:=h.live hm;rw[hb]at e;cases e;exact q _ _ rfl;rw[zaf];exact hb;rintro rfl;obtain⟨o,e,_,_,q⟩:=h.live hm;rw[hb]at e;cases e;exact q _ rfl
theorem zjR(e:S.put l o=some S'):S'.len=S.len/\(l<S.len->S'.get l=some o)/\(∀m,m≠l->S'.get m=S.get m)/\S.frz.length<=l:=by unfold St.put at e;split at e;cases e;split at e;cases e;injection e with e;subst e;rename_i c1 c2;refine⟨by simp[St.len],fun hl=>?_,fun m hm=>?_,by omega⟩;unfold St.len at hl;unfold St.get;simp[c1,if_false];rw[getElem?_set_self (by omega)];unfold St.get;simp only;split;rfl;rw[getElem?_set_ne (by omega)]
theorem RH.wr(h:RH K ι H S)(e:S.get l=some o)(hl:ι[l]?=some a)(w:S.put l o'=some S')(ho:RO K ι (upd H a u) a o'):RH K ι (upd H a u) S':=by obtain⟨h1,h2,h3,_⟩:=zjR w;refine⟨h.len.trans h1.symm,h.nd,fun m o2 e2=>?_,(Ext.wr h e hl u).kp.tab h.tab⟩;by_cases hm:m=l;subst hm;rw[h2 (zb5 e)]at e2;cases e2;exact⟨a,hl,ho⟩;rw[h3 m hm]at e2;obtain⟨b,q1,q2,_⟩:=h.mem e2;refine⟨b,q1,q2.stay (Ext.wr h e hl u) (zaf ?_)⟩;rintro rfl;obtain⟨i1,e1⟩:=List.getElem?_eq_some_iff.mp hl;obtain⟨i2,e2⟩:=List.getElem?_eq_some_iff.mp q1;exact hm ((List.getElem_inj h.nd).mp (e2.trans e1.symm))
end
end R
namespace R
open PySem PySem.Spec PyProof.Rows L2
variable[Mks]
def Lf(K:PySem.W.Frag)(ι:List Addr)(H:Hp)(Q:D->R.St->Prop):VK:=fun v H'=>∃d ι' S',Ext ι H ι' H'/\RV K ι' H' d v/\RH K ι' H' S'/\Q d S'
section
variable{K:PySem.W.Frag}{ι ι':List Addr}{H H':Hp}{S S':R.St}{Q:D->R.St->Prop}{d:D}{v:V}{p:Addr}
theorem Lf.of(h:RH K ι H S)(r:RV K ι H d v)(q:Q d S):Lf K ι H Q v H:=⟨d,ι,S,Ext.refl ι H,r,h,q⟩
theorem Lf.up(x:Ext ι H ι' H')(h:Lf K ι' H' Q v p'):Lf K ι H Q v p':=by obtain⟨d,ι2,S2,x2,r⟩:=h;exact⟨d,ι2,S2,x.trans x2,r⟩
theorem Lf.tup(h:RH K ι H S)(hp:H p=Option.none)(r:RVs K ι H ds xs)(q:Q (.tup ds) S):Lf K ι H Q (.ref p) (upd H p (.tup xs)):=⟨.tup ds,ι,S,Ext.new hp _,⟨p,xs,rfl,zai,r.ext (Ext.new hp _)⟩,h.new hp _,q⟩
theorem Lf.lst(h:RH K ι H S)(hp:H p=Option.none)(r:RVs K ι H ds xs)(q:Q (.ref S.len) (S.push (.lst ds))):Lf K ι H Q (.ref p) (upd H p (.lst xs)):=⟨.ref S.len,ι++[p],S.push (.lst ds),Ext.obj h hp _,⟨p,h.last p,rfl⟩,h.lay hp r,q⟩
theorem Lf.wr(h:RH K ι H S)(e:S.get l=some o)(hl:ι[l]?=some a)(w:S.put l (.lst ds)=some S')(r:RVs K ι H ds xs)(rv:RV K ι H d v)(q:Q d S'):Lf K ι H Q v (upd H a (.lst xs)):=⟨d,ι,S',Ext.wr h e hl _,rv.ext (Ext.wr h e hl _),h.wr e hl w ⟨xs,zai,r.ext (Ext.wr h e hl _)⟩,q⟩
end
theorem zb4(h:W (lay S ds) Q):ds.length<=sizeLine/\Q (.ref S.len) (S.push (.lst ds)):=by unfold lay at h;split at h;rename_i c;exact⟨by rw[sizeLine_eq];exact c,h⟩;exact h.elim
theorem zkK(h:W (wr S l ds d) Q):ds.length<=sizeLine/\∃S',S.put l (.lst ds)=some S'/\Q d S':=by
 unfold wr at h;split at h;rename_i c;refine⟨by rw[sizeLine_eq];exact c,?_⟩;cases e:S.put l (.lst ds) with|none=>rw[e]at h;exact h.elim|some S'=>rw[e]at h;exact⟨S',rfl,h⟩
 exact h.elim
def rD2(K:PySem.W.Frag)(f:R.St->D->D->Out D):R2:=fun x y H Qv=>∃ι S d e Qd,RV K ι H d x/\RV K ι H e y/\RH K ι H S/\W (f S d e) Qd/\∀v H',Lf K ι H Qd v H'->Qv v H'
section
variable{X:Cx}
theorem zij{vs ws:List Value}(ht:IsTup s.heap t vs.toArray)(hb:IsTup s.heap b ws.toArray)(hv:vs=[])
  (h1:Q (.ref b) s):wpAny (model prog w) A (binaryOp .Add (.ref t) (.ref b)) Q E s:=by
 obtain⟨⟨cls,dd,data,sl⟩,ho,hc,n,hd⟩:=id ht;obtain⟨⟨cls2,dd2,data2,sl2⟩,ho2,hc2,n2,hd2⟩:=id hb;subst hc hd hc2 hd2;exact concat_meets ⟨_,ho,rfl⟩ ⟨_,ho2,rfl⟩ noFill_tuple_add seq_tuple_add PySem.F.slot_tuple_add PySem.F.entry_tuple_add (PySem.F.args_tuple_add_2 _ _)
  (tuple_addW0 t b vs.toArray ws.toArray n n2 dd dd2 sl sl2 (by simp[hv])) ⟨ho,ho2,h1⟩
theorem zhX:OpR X (binaryOp .Add) (fun x y H Q=>∃a b ys,x=.ref a/\y=.ref b/\SqT X.K H a []/\SqT X.K H b ys/\Q (.ref b) H):=by intro pins s σ H x y v u Q I rx ry h;obtain⟨a,b,ys,rfl,rfl,ha,hb,q⟩:=h;cases rx;cases ry;obtain⟨its,r1,p1,_⟩:=I.tuple ha;obtain⟨its2,r2,p2,_⟩:=I.tuple hb;exact zij p1 p2 (r1.nil_iff.mpr rfl) ⟨.ref b,H,I,rfl,q⟩
theorem zmU(op:Operator):OpR X (binaryOp op) (rD2 X.K fun S d e=>binD S op d e):=by
 intro pins s σ H x y v u Qv I rx ry ⟨ι,S,d,e,Qd,hd,he,hH,hw,q⟩;dsimp only at hw;unfold binD at hw;split at hw;rename_i i j;obtain rfl:x=.int i:=hd;obtain rfl:y=.int j:=he;have fin:∀k:Int,Qd (.int k) S->Qv (.int k) H:=fun k hk=>q _ _ (Lf.of (d:=.int k) hH rfl hk);unfold binI at hw;split at hw;exact zmg pins s σ H _ _ v u Qv I rx ry ⟨i,j,rfl,rfl,fin _ hw⟩;exact zl9 pins s σ H _ _ v u Qv I rx ry ⟨i,j,rfl,rfl,fin _ hw⟩;split at hw;rename_i c;refine zmc pins s σ H _ _ v u Qv I rx ry ⟨i,j,rfl,rfl,?_,fin _ hw⟩;unfold zgw at c;rw[or_eq_true,decide_eq_true_eq,decide_eq_true_eq]at c;exact c;exact hw.elim;split at hw;rename_i c;exact zj3 pins s σ H _ _ v u Qv I rx ry ⟨i,j,rfl,rfl,c,fin _ hw⟩;exact hw.elim;split at hw;rename_i c;exact zmd pins s σ H _ _ v u Qv I rx ry ⟨i,j,rfl,rfl,c,fin _ hw⟩;exact hw.elim;split at hw;rename_i c;exact zma pins s σ H _ _ v u Qv I rx ry ⟨i,j,rfl,rfl,⟨c.1,c.2.1,by omega⟩,fin _ hw⟩;exact hw.elim;exact hw.elim;rename_i xs ys;split at hw;split at hw;rename_i c;obtain⟨a,us,rfl,ha,r1⟩:=hd;obtain⟨b,ws,rfl,hb,r2⟩:=he;by_cases hn:us=[];subst hn;have hx:xs=[]:=by have:=r1.length;simpa using this.symm
 subst hx;refine zhX pins s σ H _ _ v u Qv I rx ry ⟨a,b,ws,rfl,rfl,SqT.of ha,SqT.of hb,?_⟩;exact q _ _ (Lf.of (d:=.tup ys) hH ⟨b,ws,rfl,hb,r2⟩ (by simpa using hw));refine zj4 pins s σ H _ _ v u Qv I rx ry ⟨a,b,us,ws,rfl,rfl,SqT.of ha,SqT.of hb,hn,?_,fun hy=>?_,fun hy p hp=>?_⟩;rw[r1.length,r2.length,sizeLine_eq];exact c;subst hy;have hx:ys=[]:=by have:=r2.length;simpa using this.symm
 subst hx;exact q _ _ (Lf.of (d:=.tup xs) hH ⟨a,us,rfl,ha,r1⟩ (by simpa using hw));exact q _ _ (Lf.tup hH hp (r1.append r2) hw);exact hw.elim;exact hw.elim;rename_i a b;split at hw;rename_i xs ys e1 e2;obtain⟨a1,h1,rfl⟩:=hd;obtain⟨b1,h2,rfl⟩:=he;obtain⟨a2,h3,us,ha,r1⟩:=hH.obj _ _ e1;obtain⟨b2,h4,ws,hb,r2⟩:=hH.obj _ _ e2;rw[h1]at h3;cases h3;rw[h2]at h4;cases h4;obtain⟨z,hq⟩:=zb4 hw;refine zmf pins s σ H _ _ v u Qv I rx ry ⟨a1,b1,us,ws,rfl,rfl,ha,hb,?_,fun p hp=>?_⟩;rw[r1.length,r2.length];rw[length_append]at z;exact z;exact q _ _ (Lf.lst hH hp (r1.append r2) hq);exact hw.elim;exact hw.elim
theorem zaL{α β:Type}{f:α->Option β}{x:α}{xs:List α}{ys:List β}(h:(x::xs).mapM f=some ys):∃y r,f x=some y/\xs.mapM f=some r/\ys=y::r:=by
 rw[mapM_cons]at h;cases e:f x with
 |none=>rw[e]at h;cases h
 |some y=>
  rw[e]at h;cases e2:xs.mapM f with
  |none=>rw[e2]at h;cases h
  |some r=>rw[e2]at h;injection h with h;exact⟨y,r,rfl,rfl,h.symm⟩
theorem zfA(hH:RH X.K ι H S):∀(n:Nat)(d:D)(pdd:PyData)(v:V),pd S n d=some pdd->RV X.K ι H d v->Rep H pdd v/\pdd.canLay0=true/\pdd.depth<=n:=by
 intro n;induction n with
 |zero=>
  intro d p v h r;cases d<;>simp only[pd]at h
  cases h;exact⟨r,rfl,le_refl _⟩;cases h;exact⟨r,rfl,le_refl _⟩;cases h;exact⟨r,rfl,le_refl _⟩;split at h;rename_i c;cases h;exact⟨r,c,le_refl _⟩;cases h
  all_goals cases h
 |succ n ih=>
  have all:∀(ds:List D)(ps:List PyData)(vs:List V),ds.mapM (pd S n)=some ps->RVs X.K ι H ds vs->RepAll H ps vs/\PyData.canLayAll0 ps=true/\PyData.depthAll ps<=n:=by
   intro ds;induction ds with
   |nil=>
    intro ps vs h r;have h:ps=[]:=by simpa using h.symm
    subst h;exact⟨r,rfl,zero_le _⟩
   |cons d ds ihd=>intro ps vs h r;obtain⟨y,rr,h1,h2,rfl⟩:=zaL h;obtain⟨v,w,rfl,r1,r2⟩:=r;obtain⟨a1,a2,a3⟩:=ih d y v h1 r1;obtain⟨b1,b2,b3⟩:=ihd rr w h2 r2;refine⟨⟨v,w,rfl,a1,b1⟩,by simp[PyData.canLayAll0,a2,b2],?_⟩;simp[PyData.depthAll];omega
  intro d p v h r;cases d with
  |non=>simp[pd]at h;cases h;exact⟨r,rfl,zero_le _⟩|bl b=>simp[pd]at h;cases h;exact⟨r,rfl,zero_le _⟩|int i=>simp[pd]at h;cases h;exact⟨r,rfl,zero_le _⟩| str x=>simp only[pd]at h;split at h;rename_i c;cases h;exact⟨r,c,zero_le _⟩;cases h
  |tup ds=>
   simp only[pd]at h;cases e:ds.mapM (pd S n) with
   |none=>rw[e]at h;cases h
   |some ps=>
    rw[e]at h;have h:PyData.tuple ps=p:=by simpa using h
    subst h;obtain⟨a,xs,rfl,ha,rr⟩:=r;obtain⟨b1,b2,b3⟩:=all ds ps xs e rr;refine⟨⟨a,xs,rfl,ha,b1⟩,by simp[PyData.canLay0,b2],?_⟩;simp[PyData.depth];omega
  |ref l=>
   simp[pd]at h;split at h;rename_i ds eg;cases e:ds.mapM (pd S n) with
   |none=>rw[e]at h;cases h
   |some ps=>
    rw[e]at h;have h:PyData.list ps=p:=by simpa using h
    subst h;obtain⟨a,h1,rfl⟩:=r;obtain⟨a2,h2,xs,ha,rr⟩:=hH.obj _ _ eg;rw[h1]at h2;cases h2;obtain⟨b1,b2,b3⟩:=all ds ps xs e rr;refine⟨⟨a,xs,rfl,ha,b1⟩,by simp[PyData.canLay0,b2],?_⟩;simp[PyData.depth];omega
   cases h
  |fix ds=>simp only[pd]at h;cases h
def rC2(K:PySem.W.Frag)(op:CmpOp):R2:=fun x y H Qv=>∃ι S d e k,RV K ι H d x/\RV K ι H e y/\RH K ι H S/\cmpD S op d e=some k/\Qv (.bl k) H
theorem zfj(h:eqD S d e=some k):∃a b,pd S 60 d=some a/\pd S 60 e=some b/\k=PyData.eqv a b:=by
 unfold eqD at h;cases e1:pd S 60 d with
 |none=>rw[e1]at h;cases h
 |some a=>
  rw[e1]at h;cases e2:pd S 60 e with
  |none=>rw[e2]at h;cases h
  |some b=>rw[e2]at h;injection h with h;exact⟨a,b,rfl,rfl,h.symm⟩
open Classical in
noncomputable def eqRd(h:Heap)(p:PyData)(u:Value):Bool:=if c:∃q as,Reads h u q as/\q.canLay0=true then PyData.eqv c.choose p else false
theorem zks(r:Reads h u q as)(c:q.canLay0=true):eqRd h p u=PyData.eqv q p:=by have ex:∃q as,Reads h u q as/\q.canLay0=true:=⟨q,as,r,c⟩;unfold eqRd;rw[dif_pos ex];obtain⟨as',r',c'⟩:=ex.choose_spec;rw[SeqAt.Reads.unique _ _ _ _ _ c r r']
theorem zh8{σ:L2.St}(I:Inv X pins σ H s)(hA:A.units+62<cLine)(hH:RH X.K ι H S)(hx:pd S 60 x=some px)(rx:RV X.K ι H x vx)(qx:RelV vx ux) :
  ∀{ds:List D}{vs:List V}{us:List Value}{bs:List Bool},RVs X.K ι H ds vs->Vals vs us->ds.mapM (fun z=>eqD S z x)=some bs->us.any (eqRd s.heap px)=bs.any id/\∀u∈us,SeqAt.EqAt A s u ux (eqRd s.heap px u):=by
 obtain⟨x1,x2,x3⟩:=zfA hH 60 x px vx hx rx;obtain⟨asx,rdx⟩:=Rep.reads I px vx ux x1 qx;intro ds;induction ds with
 |nil=>
  intro vs us bs r rv h;cases r;cases rv;have h:bs=[]:=by simpa using h.symm
  subst h;exact⟨rfl,fun u hu=>nomatch hu⟩
 |cons d ds ih=>intro vs us bs r rv h;obtain⟨v,w,rfl,r1,r2⟩:=r;obtain⟨b,rr,e,h2,rfl⟩:=zaL h;cases rv with| cons q1 q2=>rename_i u us';obtain⟨a,b',e1,e2,rfl⟩:=zfj e;rw[hx]at e2;cases e2;obtain⟨p1,p2,p3⟩:=zfA hH 60 d a v e1 r1;obtain⟨as,rd⟩:=Rep.reads I a v u p1 q1;have hq:=zks (p:=px) rd p2;obtain⟨i1,i2⟩:=ih r2 q2 h2;refine⟨by simp[hq,i1],fun z hz=>?_⟩;rcases mem_cons.mp hz with rfl|hz;rw[hq];exact SeqAt.eqAt_reads a px A s z ux as asx rd rdx p2 x2 (by omega);exact i2 z hz
theorem ziB(hH:RH X.K ι H S)(h:zbe S d=some ds)(r:RV X.K ι H d v):∃a xs,v=.ref a/\(SqL X.K H a xs\/SqT X.K H a xs)/\RVs X.K ι H ds xs:=by
 cases d with
 |tup es=>cases h;obtain⟨a,xs,rfl,ha,rr⟩:=r;exact⟨a,xs,rfl,.inr (SqT.of ha),rr⟩| fix es=>cases h;obtain⟨a,xs,rfl,ha,rr⟩:=r;exact⟨a,xs,rfl,.inl ha.sq,rr⟩| ref l=>simp[zbe]at h;split at h;rename_i ds' e;cases h;obtain⟨a,h1,rfl⟩:=r;obtain⟨a2,h2,xs,ha,rr⟩:=hH.obj _ _ e;rw[h1]at h2;cases h2;exact⟨a,xs,rfl,.inl (SqL.of ha),rr⟩;cases h
 |_=>cases h
theorem zmx(h:inD S x ys=some k):∃bs,ys.mapM (fun z=>eqD S z x)=some bs/\k=bs.any id:=by
 unfold inD at h;cases e:ys.mapM (fun z=>eqD S z x) with
 |none=>rw[e]at h;cases h
 |some bs=>rw[e]at h;injection h with h;exact⟨bs,rfl,h.symm⟩
theorem nonV{K:PySem.W.Frag}(hd:RV K ι H d x):decide (x=V.non)=zkg d:=by cases d with|non=>rw[show x=.non from hd];rfl|bl b=>rw[show x=.bl b from hd];rfl|int b=>rw[show x=.int b from hd];rfl|str b=>rw[show x=.str b from hd];rfl|tup b=>obtain⟨_,_,rfl,_⟩:=hd;rfl|ref b=>obtain⟨_,_,rfl⟩:=hd;rfl|fix b=>obtain⟨_,_,rfl,_⟩:=hd;rfl
theorem zcT(hu:X.A.units+128<cLine)(op:CmpOp):OpR X (compareOp op) (rC2 X.K op):=by
 intro pins s σ H x y v u Qv I rx ry ⟨ι,S,d,e,k,hd,he,hH,hc,q⟩;unfold cmpD at hc;split at hc;rename_i i j;obtain rfl:x=.int i:=hd;obtain rfl:y=.int j:=he;unfold cmpI at hc;split at hc;cases hc;exact znT pins s σ H _ _ v u Qv I rx ry ⟨rfl,by simpa using q⟩;cases hc;exact znO pins s σ H _ _ v u Qv I rx ry ⟨rfl,by simpa using q⟩;cases hc;exact znP pins s σ H _ _ v u Qv I rx ry ⟨i,j,rfl,rfl,q⟩;cases hc;exact znQ pins s σ H _ _ v u Qv I rx ry ⟨i,j,rfl,rfl,q⟩;cases hc;exact znR pins s σ H _ _ v u Qv I rx ry ⟨i,j,rfl,rfl,q⟩;cases hc;exact znS pins s σ H _ _ v u Qv I rx ry ⟨i,j,rfl,rfl,q⟩;cases hc;unfold cmpO at hc;have isin:∀(k:Bool),((zbe S e).bind fun ys=>inD S d ys)=some k->∃a xs,y=.ref a/\(SqL X.K H a xs\/SqT X.K H a xs)/\∃(px:PyData),∀us,Vals xs us->us.any (eqRd s.heap px)=k/\∀z∈us,SeqAt.EqAt X.A.in1 s z v (eqRd s.heap px z):=by
  intro k h;cases es:zbe S e with
  |none=>rw[es]at h;cases h
  |some ys=>
   rw[es]at h;obtain⟨bs,hb,rfl⟩:=zmx h;obtain⟨a,xs,rfl,hq,rr⟩:=ziB hH es he;refine⟨a,xs,rfl,hq,?_⟩;cases hp:pd S 60 d with
   |some px=>exact⟨px,fun us hus=>zh8 I (show X.A.units+1+62<cLine by omega) hH hp hd rx rr hus hb⟩| none=>
    cases ys with
    |nil=>
     refine⟨.none,fun us hus=>?_⟩;cases rr;cases hus;have hb:bs=[]:=by simpa using hb.symm
     subst hb;exact⟨rfl,fun z hz=>nomatch hz⟩
    |cons z zs=>obtain⟨b,r,h1,_⟩:=zaL hb;obtain⟨_,_,_,h3,_⟩:=zfj h1;rw[hp]at h3;cases h3
 split at hc
 . skip
   obtain⟨a,b,h1,h2,rfl⟩:=zfj hc;obtain⟨p1,p2,p3⟩:=zfA hH 60 d a x h1 hd;obtain⟨q1,q2,q3⟩:=zfA hH 60 e b y h2 he;exact zme (by omega) pins s σ H x y v u Qv I rx ry ⟨a,b,p1,q1,p2,q2,by omega,q⟩
 cases hk:eqD S d e with
 |none=>rw[hk]at hc;cases hc
 |some k'=>
  rw[hk]at hc;obtain⟨a,b,h1,h2,rfl⟩:=zfj hk;obtain⟨p1,p2,p3⟩:=zfA hH 60 d a x h1 hd;obtain⟨q1,q2,q3⟩:=zfA hH 60 e b y h2 he;have hc:k = !PyData.eqv a b:=by simpa using hc.symm
  subst hc;exact zmb (by omega) pins s σ H x y v u Qv I rx ry ⟨a,b,p1,q1,p2,q2,by omega,q⟩
 split at hc;obtain rfl:y=.non:=he;cases hc;obtain rfl:u=Value.none:=ry;refine is_none_gen ⟨.bl _,H,I,rfl,?_⟩;rw[rx.none_iff,nonV hd];exact q;cases hc;split at hc;obtain rfl:y=.non:=he;cases hc;obtain rfl:u=Value.none:=ry;refine isnot_none_gen ⟨.bl _,H,I,rfl,?_⟩;rw[rx.none_iff,nonV hd];exact q;cases hc
 . skip
   obtain⟨a,xs,rfl,hq,px,hp⟩:=isin _ hc;cases ry;rcases hq with hq|hq;obtain⟨its,r,pl,hz⟩:=I.list hq;obtain⟨h1,h2⟩:=hp its r;exact SeqAt.in_listAt (eqRd s.heap px) pl.isList (fun w hw=>h2 w (by simpa using hw)) (zaj I q (by simpa using h1.symm));obtain⟨its,r,pl,hz⟩:=I.tuple hq;obtain⟨h1,h2⟩:=hp its r;exact SeqAt.in_tupleAt (eqRd s.heap px) pl (fun w hw=>h2 w (by simpa using hw)) (zaj I q (by simpa using h1.symm))
 cases hk:(zbe S e).bind fun ys=>inD S d ys with
 |none=>rw[hk]at hc;cases hc
 |some k'=>
  rw[hk]at hc;have hc:k = !k':=by simpa using hc.symm
  subst hc;obtain⟨a,xs,rfl,hq,px,hp⟩:=isin k' hk;cases ry;rcases hq with hq|hq;obtain⟨its,r,pl,hz⟩:=I.list hq;obtain⟨h1,h2⟩:=hp its r;exact SeqAt.notIn_listAt (eqRd s.heap px) pl.isList (fun w hw=>h2 w (by simpa using hw)) (zaj I q (by simpa using congrArg (!·) h1.symm));obtain⟨its,r,pl,hz⟩:=I.tuple hq;obtain⟨h1,h2⟩:=hp its r;exact SeqAt.notIn_tupleAt (eqRd s.heap px) pl (fun w hw=>h2 w (by simpa using hw)) (zaj I q (by simpa using congrArg (!·) h1.symm))
 cases hc
end
noncomputable def zah:Expr->Bool|.Starred _ _=>false|_=>true
noncomputable def za6:Expr->Bool|.ListComp ..=>false|.SetComp ..=>false|.DictComp ..=>false|_=>true
noncomputable def zbQ:Expr->Bool|.Slice ..=>false|_=>true
noncomputable def zaz:Expr->Bool|.Set ..=>false|_=>true
noncomputable def zbt:Expr->Bool|.Call (.Name _ _) [] [] _=>false|_=>true
noncomputable def zeT:Expr->Bool|.UnaryOp .Not _ _=>false|.BoolOp ..=>false|.IfExp ..=>false|.Compare ..=>false|_=>true
theorem zag(h:zah e=true)(es:List Expr)(env:Env):starEach (e::es) env=(false,eval e env)::starEach es env:=by cases e<;>first|rfl|cases h
theorem zbE(h:za6 e=true)(t:Option Expr)(l:Nat)(env:Env):swapsWith e t l env=pure false:=by cases e<;>first|rfl|cases h
theorem zmu(h:zbQ e=true):zhj e:=by intro o i;cases e<;>first|rfl|cases h
theorem zcm(h:zaz e=true)(op:CmpOp):behindInMarks op e=false:=by cases e<;>first|rfl|cases h
theorem zcM(h:zbt e=true)(x:Str)(env:Env)(w:Sem Value):attributeBase e x env w=w:=by unfold attributeBase;split;cases h;rfl
theorem zk3(h:zeT e=true)(env:Env)(w:Sem Value):isTrue e env w=(do let v <-w;standAt e.pos;holding [v] (truthy v)):=by
 cases e with
 |UnaryOp op x p=>cases op<;>first|rfl|cases h
 |_=>first|rfl|cases h
theorem zdk(h:zaz e=true)(env:Env)(x:Value):foldedSetIterable e env x=pure x:=by cases e<;>first|rfl|cases h
theorem zaD:∀{es:List Expr},es.all zah=true->(backTo pos (starEach es env)).any (·.1)=false
 | [],_=>rfl| e::es,h=>by rw[all_cons,and_eq_true]at h;rw[zag h.1];exact zaD h.2
structure Tab where
 blt:List Str
 cons:List (Str×D)
 fns:List (Str×List Str×Nat)
 cls:List Str:=[]
 flds:List Str:=[]
 mts:List (Nat×Str×Nat):=[]
 inits:List (Nat×Nat×Nat):=[]
 cms:List (Str×Str×Nat):=[]
 isas:List (Str×List Nat):=[]
 xcs:List (Nat×Str×Str):=[]
 xflds:List Str:=[]
 xisas:List (Str×List Nat):=[]
 xisbs:List (Str×List Nat):=[]
 xfns:List Nat:=[]
 xtrs:List Str:=[]
noncomputable def zh5(sc:Scope)(x:Str):Bool:=match sc.names.lookup x with|some .local=>true|some .cell=>true|some .free=>true|_=>false
noncomputable def zbR(sc:Scope)(x:Str):Bool:=match sc.names.lookup x with|some .local=>true|some .cell=>true|_=>false
noncomputable def isGl(sc:Scope)(x:Str):Bool:=match sc.names.lookup x with|some .globalImplicit=>true|_=>false
noncomputable def eqC:D->D->Bool
 |.non,.non=>true|.bl a,.bl b=>a==b|.int a,.int b=>a==b|.str a,.str b=>a==b|_,_=>false
theorem zmJ:∀{d e:D},eqC d e=true->d=e:=by intro d e h;cases d<;>cases e<;>first|rfl|(simp[eqC,beq_iff_eq]at h;subst h;rfl)|cases h
noncomputable def sV:D->V
 |.non=>.non|.bl b=>.bl b|.int i=>.int i|.str x=>.str x|_=>.non
noncomputable def zjC:D->Bool
 |.non=>true|.bl _=>true|.int _=>true|.str _=>true|_=>false
theorem znD{K:PySem.W.Frag}(h:zjC d=true):RV K ι H d (sV d):=by cases d<;>first|rfl|cases h
noncomputable def conB:D->Const->Bool
 |.non,.none=>true|.bl a,.bool b=>a==b|.int a,.int b=>a==b|.str a,.str b=>a==b|_,_=>false
noncomputable def bltB(T:Tab)(sc:Scope)(x:Str):Bool:=isGl sc x&&T.blt.contains x
def spF(K:PySem.W.Frag)(cf:CF)(f:Nat):Sp:=fun vs H Qv _=>∃ι S ds,RVs K ι H ds vs/\RH K ι H S/\W (cf f ds S) (fun d T=>∀v H' ι',Ext ι H ι' H'->RV K ι' H' d v->RH K ι' H' T->Qv v H')
structure HasM(P:Program)(w:World)(K:PySem.W.Frag)(mg:Str->Option Value)(base:Heap)(k c:Nat)(m:Str)(sp:Sp):Prop where
 ex:∃(C fa:Addr) (fd:FuncData) (ps:List Str),Mks.cl[c]?=some C/\Cls K C/\Meth K C m fa/\FnOk P w K mg base CX0 k fa fd ps sp/\Binds K fd ps []
structure HasI(P:Program)(w:World)(K:PySem.W.Frag)(mg:Str->Option Value)(base:Heap)(k c j:Nat)(sp:Sp):Prop where
 ex:∃(C fa:Addr) (fd:FuncData) (ps:List Str),Mks.cl[c]?=some C/\Mk K C fa/\FnOk P w K mg base CX0 k fa fd ps sp/\Binds K fd ps (List.replicate j Value.none)
structure HasC(P:Program)(w:World)(K:PySem.W.Frag)(mg:Str->Option Value)(base:Heap)(k:Nat)(x m:Str)(sp:Sp):Prop where
 ex:∃(C fa:Addr) (fd:FuncData) (ps:List Str) (mc:Value),mg x=some (.ref C)/\specialIn K (.ref C) "__getattribute__"=some (some (.builtin "type.__getattribute__"))/\readsIn K C mc=true/\findCls K (.ref C) mc m=some (.val (.ref fa))/\
  keepIn K (.ref fa)=true/\FnOk P w K mg base CX0 k fa fd ps sp/\Binds K fd ps []
structure IsaOk(K:PySem.W.Frag)(C:Addr):Prop where
 ha:PySem.W.findIn K (.ref C) "__class__"=some (some (.builtin "object.__class__"))
 hn:specialIn K (.builtin "object.__class__") "__get__"=some (some (.builtin "getset_descriptor.__get__"))
 ht:takesIn K (.builtin "object.__class__")=some true
 hm:PySem.W.mroIn K C (.type "object")=some true
noncomputable def spX(K:PySem.W.Frag)(cf:CF)(f:Nat):Sp:=fun vs H Qv E=>∃ι S ds,RVs K ι H ds vs/\RH K ι H S/\(match cf f ds S with|.ok d T=>∀v H' ι',Ext ι H ι' H'->RV K ι' H' d v->RH K ι' H' T->Qv v H'|.err d T=>∀a H' ι',Ext ι H ι' H'->RV K ι' H' d (.ref a)->RH K ι' H' T->E (.ref a) none H'|.bad=>False)
structure XTabOk(T:Tab)(cf:CF)(k:Nat)(P:Program)(w:World)(K:PySem.W.Frag)(mg:Str->Option Value)(base:Heap):Prop where
 cl:∀(c:Nat)(x f:Str),T.xcs.contains (c,x,f)=true->∃(C fI:Addr) (fd:FuncData) (ps:List Str),Mks.xc[c]?=some C/\mg x=some (.ref C)/\keepIn K (.ref C)=true/\Xc K C fI f/\FnOk P w K mg base CX0 k fI fd ps (spI K fI f)/\Binds K fd ps []
 fl:∀f,T.xflds.contains f=true->∀(c:Nat) C,Mks.xc[c]?=some C->XGet K C/\NoAttr K C f
 is:∀(x:Str)(cs:List Nat),T.xisas.contains (x,cs)=true->∃D,mg x=some (.ref D)/\∀(c:Nat) C,Mks.xc[c]?=some C->XGet K C/\IsaOk K C/\kitOne K (.ref C) (.ref D)=some (cs.contains c)
 ib:∀(x:Str)(cs:List Nat),T.xisbs.contains (x,cs)=true->mg x=none/\x≠"__name__"/\∃t,bootBuiltins x=some (.type t)/\∀(c:Nat) C,Mks.xc[c]?=some C->XGet K C/\IsaOk K C/\kitOne K (.ref C) (.type t)=some (cs.contains c)
 fn:∀(f:Nat)(x:Str)(ps:List Str)(nd:Nat),T.xfns.contains f=true->T.fns[f]?=some (x,ps,nd)->∃fa fd,FnOk P w K mg base (CXe P w) k fa fd ps (spX K cf f)/\mg x=some (.ref fa)/\keepIn K (.ref fa)=true/\Binds K fd ps []
 tr:∀x,T.xtrs.contains x=true->∃CR,mg x=some (.ref CR)/\∀(c:Nat) C,Mks.xc[c]?=some C->PySem.W.exmOne K (.ref C) (.ref CR)=some true
structure HasIX(P:Program)(w:World)(K:PySem.W.Frag)(mg:Str->Option Value)(base:Heap)(k c j:Nat)(sp:Sp):Prop where
 ex:∃(C fa:Addr) (fd:FuncData) (ps:List Str),Mks.cl[c]?=some C/\Mk K C fa/\FnOk P w K mg base (CXe P w) k fa fd ps sp/\Binds K fd ps (List.replicate j Value.none)
structure TabOk(T:Tab)(cf:CF)(k:Nat)(P:Program)(w:World)(K:PySem.W.Frag)(mg:Str->Option Value)(base:Heap):Prop where
 blt:∀x,T.blt.contains x=true->mg x=none
 con:∀x d,T.cons.lookup x=some d->zjC d=true/\∃u,mg x=some u/\RelV (sV d) u
 fns:∀f x ps nd,T.fns[f]?=some (x,ps,nd)->∀j,j<=nd->Has P w K mg base k x ps (List.replicate j .non) (spF K cf f)
 frm:CFok cf
 cls:∀(c:Nat)(x:Str),T.cls[c]?=some x->∃C,Mks.cl[c]?=some C/\Cls K C/\mg x=some (.ref C)/\∀f,T.flds.contains f=true->NoAttr K C f
 mth:∀(c:Nat)(m:Str)(fi:Nat),T.mts.contains (c,m,fi)=true->HasM P w K mg base k c m (spF K cf fi)
 ini:∀(c fi j:Nat),T.inits.contains (c,fi,j)=true->HasI P w K mg base k c j (spF K cf fi)
 cmd:∀(x m:Str)(fi:Nat),T.cms.contains (x,m,fi)=true->HasC P w K mg base k x m (spF K cf fi)
 cln:(T.flds≠[]\/T.inits≠[]\/T.isas≠[])->Mks.cl.length<=T.cls.length
 isa:∀(x:Str)(cs:List Nat),T.isas.contains (x,cs)=true->∃D,mg x=some (.ref D)/\∀c C,Mks.cl[c]?=some C->IsaOk K C/\kitOne K (.ref C) (.ref D)=some (cs.contains c)
 xtb:XTabOk T cf k P w K mg base
 inx:∀(c fi j:Nat),T.inits.contains (c,fi,j)=true->HasIX P w K mg base k c j (spX K cf fi)
structure Gd(T:Tab)(cf:CF)(k:Nat)(N:List Str)(sc:Scope)(X:Cx):Prop where
 nm:X.N=N
 nd:N.Nodup
 loc:∀x,sc.names.lookup x=some .local->X.env.scope.names.lookup x=some .local
 cell:∀x,sc.names.lookup x=some .cell->X.env.scope.names.lookup x=some .cell
 free:∀x,sc.names.lookup x=some .free->X.env.scope.names.lookup x=some .free\/X.env.scope.names.lookup x=some .cell
 glob:∀x,sc.names.lookup x=some .globalImplicit->X.env.scope.names.lookup x=some .globalImplicit
 fn:(∀x,X.fn x=true)\/∀x,sc.names.lookup x≠some .cell
 calm:X.calm=true
 xe:PassesOwn (model X.prog X.w) X.A X.env X.xe
 room':Room (k+1) X.A
 tab:TabOk T cf k X.prog X.w X.K X.mg X.base
section
variable{T:Tab}{cf:CF}{k:Nat}{N:List Str}{sc:Scope}{X:Cx}
theorem Gd.room(G:Gd T cf k N sc X):Room k X.A:=G.room'.mono (le_succ k)
theorem Gd.hu(G:Gd T cf k N sc X):X.A.units+128<cLine:=by have:=G.room.un;omega
theorem Gd.vis(G:Gd T cf k N sc X)(h:zh5 sc x=true):Vis X.env.scope x:=by unfold zh5 at h;split at h;rename_i e;exact .inl (G.loc x e);rename_i e;exact .inr (.inl (G.cell x e));rename_i e;rcases G.free x e with q|q;exact .inr (.inr q);exact .inr (.inl q);cases h
theorem Gd.lc(G:Gd T cf k N sc X)(h:zbR sc x=true):Loc X.env.scope x/\(X.fn x=true\/X.env.scope.names.lookup x=some .local):=by unfold zbR at h;split at h;rename_i e;exact⟨.inl (G.loc x e),.inr (G.loc x e)⟩;rename_i e;refine⟨.inr (G.cell x e),?_⟩;rcases G.fn with q|q;exact .inl (q x);exact absurd e (q x);cases h
theorem Gd.gl(G:Gd T cf k N sc X)(h:isGl sc x=true):Gl X x:=by unfold isGl at h;split at h;rename_i e;exact G.glob x e;cases h
end
def RS(K:PySem.W.Frag)(ι:List Addr)(H:Hp)(δ:Ev)(σ:L2.St):Prop:=δ.length=σ.length/\∀(i:Nat)(d:D),δ[i]?=some (some d)->∃v,σ[i]?=some (some v)/\RV K ι H d v
theorem RS.ext{K:PySem.W.Frag}(h:RS K ι H δ σ)(x:Ext ι H ι' H'):RS K ι' H' δ σ:=⟨h.1,fun i d e=>let ⟨v,e1,r⟩:=h.2 i d e;⟨v,e1,r.ext x⟩⟩
theorem RS.set{K:PySem.W.Frag}(h:RS K ι H δ σ)(r:RV K ι H d v)(i:Nat):RS K ι H (δ.set i (some d)) (σ.set i (some v)):=by
 refine⟨by simp[h.1],fun j e hj=>?_⟩;by_cases hij:i=j;subst hij;have hl:i<δ.length:=by have:=(List.getElem?_eq_some_iff.mp hj).1;simpa using this
 rw[getElem?_set_self hl]at hj;cases hj;exact⟨v,getElem?_set_self (by rw[<-h.1];exact hl),r⟩;rw[getElem?_set_ne hij]at hj;obtain⟨v',e1,r'⟩:=h.2 j e hj;exact⟨v',by rw[getElem?_set_ne hij];exact e1,r'⟩
def tE(K:PySem.W.Frag)(cf:CF)(ce:CE):TE:=fun σ H Qv=>∃δ ι S Q,RS K ι H δ σ/\RH K ι H S/\W (evE cf ce δ S) Q/\∀v H',Lf K ι H Q v H'->Qv v H'
def LfB(K:PySem.W.Frag)(ι:List Addr)(H:Hp)(Q:Bool->R.St->Prop):Bool->Hp->Prop:=fun b H'=>∃ι' S',Ext ι H ι' H'/\RH K ι' H' S'/\Q b S'
def tT(K:PySem.W.Frag)(cf:CF)(ce:CE):TT:=fun σ H Qv=>∃δ ι S Q,RS K ι H δ σ/\RH K ι H S/\W (evT cf ce δ S) Q/\∀b H',LfB K ι H Q b H'->Qv b H'
def LfA(K:PySem.W.Frag)(ι:List Addr)(H:Hp)(Q:List D->R.St->Prop):List V->Hp->Prop:=fun vs H'=>∃ds ι' S',Ext ι H ι' H'/\RVs K ι' H' ds vs/\RH K ι' H' S'/\Q ds S'
def tAs(K:PySem.W.Frag)(cf:CF)(ces:CEs):TA:=fun σ H Qv=>∃δ ι S Q,RS K ι H δ σ/\RH K ι H S/\W (evEs cf ces δ S) Q/\∀vs H',LfA K ι H Q vs H'->Qv vs H'
inductive SqK(K:PySem.W.Frag)(ι:List Addr)(H:Hp)(S:R.St)(a:Addr)(xs:List V)(ds:List D)(lks:List Nat):Prop where
 |tmp (h:a∉ι) (e:H a=some (.lst xs)):SqK K ι H S a xs ds lks
 |tup (e:H a=some (.tup xs)):SqK K ι H S a xs ds lks
 |fix (e:FixL K H a xs):SqK K ι H S a xs ds lks
 |own (l:Nat) (hl:l∈lks) (hi:ι[l]?=some a) (hs:S.get l=some (.lst ds)) (e:H a=some (.lst xs)):SqK K ι H S a xs ds lks
def Sq(K:PySem.W.Frag)(ι:List Addr)(H:Hp)(S:R.St)(v:V)(ds:List D)(lks:List Nat):Prop:=∃a xs,v=.ref a/\RVs K ι H ds xs/\SqK K ι H S a xs ds lks
def LfL(K:PySem.W.Frag)(ι:List Addr)(H:Hp)(Q:List D×List Nat->R.St->Prop):VK:=fun v H'=>∃ds lks ι' S',Ext ι H ι' H'/\Sq K ι' H' S' v ds lks/\RH K ι' H' S'/\Q (ds,lks) S'
def tL(K:PySem.W.Frag)(cf:CF)(cl:CL):TE:=fun σ H Qv=>∃δ ι S Q,RS K ι H δ σ/\RH K ι H S/\W (evL cf cl δ S) Q/\∀v H',LfL K ι H Q v H'->Qv v H'
def LfT(K:PySem.W.Frag)(ι:List Addr)(H:Hp)(Q:List D×List Nat->R.St->Prop):VK:=fun v H'=>∃ds ι' S' a xs,Ext ι H ι' H'/\v=.ref a/\RVs K ι' H' ds xs/\a∉ι'/\H' a=some (.lst xs)/\RH K ι' H' S'/\H a=none/\Q (ds,[]) S'
def tLt(K:PySem.W.Frag)(cf:CF)(cl:CL):TE:=fun σ H Qv=>∃δ ι S Q,RS K ι H δ σ/\RH K ι H S/\W (evL cf cl δ S) Q/\∀v H',LfT K ι H Q v H'->Qv v H'
theorem LfT.l{K:PySem.W.Frag}(h:LfT K ι H Q v H'):LfL K ι H Q v H':=by obtain⟨ds,ι',S',a,xs,x,rfl,r,ha,e,hh,_,q⟩:=h;exact⟨ds,[],ι',S',x,⟨a,xs,rfl,r,.tmp ha e⟩,hh,q⟩
theorem PE.imp(h:PE X e t)(i:∀σ H Q,t' σ H Q->t σ H Q):PE X e t':=fun pins s σ H Q I q=>h pins s σ H Q I (i σ H Q q)
theorem PT.imp(h:PT X e t)(i:∀σ H Q,t' σ H Q->t σ H Q):PT X e t':=fun pins s σ H Q I q=>h pins s σ H Q I (i σ H Q q)
theorem PW.imp(h:PW X e t)(i:∀σ H Q,t' σ H Q->t σ H Q):PW X e t':=fun wh pins s σ H Q I q=>h wh pins s σ H Q I (i σ H Q q)
theorem PA.imp(h:PA X es t)(i:∀σ H Q,t' σ H Q->t σ H Q):PA X es t':=fun pos pins s σ H Q I q=>h pos pins s σ H Q I (i σ H Q q)
theorem tE.run{K:PySem.W.Frag}(hs:RS K ι H δ σ)(hh:RH K ι H S)(w:W (evE cf a δ S) Q)
  (h:∀d v ι' H' S',Ext ι H ι' H'->RS K ι' H' δ σ->RH K ι' H' S'->RV K ι' H' d v->Q d S'->Qv v H'):tE K cf a σ H Qv:=
 ⟨δ,ι,S,Q,hs,hh,w,fun v H' ⟨d,ι',S',x,r,hh',q⟩=>h d v ι' H' S' x (hs.ext x) hh' r q⟩
theorem tT.run{K:PySem.W.Frag}(hs:RS K ι H δ σ)(hh:RH K ι H S)(w:W (evT cf a δ S) Q)
  (h:∀b ι' H' S',Ext ι H ι' H'->RS K ι' H' δ σ->RH K ι' H' S'->Q b S'->Qv b H'):tT K cf a σ H Qv:=
 ⟨δ,ι,S,Q,hs,hh,w,fun b H' ⟨ι',S',x,hh',q⟩=>h b ι' H' S' x (hs.ext x) hh' q⟩
theorem tAs.run{K:PySem.W.Frag}(hs:RS K ι H δ σ)(hh:RH K ι H S)(w:W (evEs cf a δ S) Q)
  (h:∀ds vs ι' H' S',Ext ι H ι' H'->RS K ι' H' δ σ->RH K ι' H' S'->RVs K ι' H' ds vs->Q ds S'->Qv vs H'):tAs K cf a σ H Qv:=
 ⟨δ,ι,S,Q,hs,hh,w,fun v H' ⟨d,ι',S',x,r,hh',q⟩=>h d v ι' H' S' x (hs.ext x) hh' r q⟩
theorem PE.ofT(h:PE X e (tLt X.K cf cl)):PE X e (tL X.K cf cl):=PE.imp h fun σ H Qv ⟨δ,ι,S,Q,hs,hh,w,q⟩=>⟨δ,ι,S,Q,hs,hh,w,fun v H' l=>q v H' l.l⟩
theorem tLt.run{K:PySem.W.Frag}(hs:RS K ι H δ σ)(hh:RH K ι H S)(w:W (evL cf a δ S) Q)
  (h:∀ds p xs ι' H' S',Ext ι H ι' H'->RS K ι' H' δ σ->RH K ι' H' S'->RVs K ι' H' ds xs->p∉ι'->H' p=some (.lst xs)->H p=none->Q (ds,[]) S'->Qv (.ref p) H'):tLt K cf a σ H Qv:=
 ⟨δ,ι,S,Q,hs,hh,w,fun v H' ⟨ds,ι',S',p,xs,x,e,r,hp,hx,hh',hn,q⟩=>e▸h ds p xs ι' H' S' x (hs.ext x) hh' r hp hx hn q⟩
theorem tL.run{K:PySem.W.Frag}(hs:RS K ι H δ σ)(hh:RH K ι H S)(w:W (evL cf a δ S) Q)
  (h:∀ds lks v ι' H' S',Ext ι H ι' H'->RS K ι' H' δ σ->RH K ι' H' S'->Sq K ι' H' S' v ds lks->Q (ds,lks) S'->Qv v H'):tL K cf a σ H Qv:=
 ⟨δ,ι,S,Q,hs,hh,w,fun v H' ⟨ds,lks,ι',S',x,r,hh',q⟩=>h ds lks v ι' H' S' x (hs.ext x) hh' r q⟩
section
variable{T:Tab}{cf:CF}{k:Nat}{N:List Str}{sc:Scope}{X:Cx}{pos:Pos}
theorem zfN(h:W o Q):∃a S,o=.ok a S/\Q a S:=W.iff.mp h
theorem zax(h:W (lift S o) Q):∃a,o=some a/\Q a S:=by cases o with|none=>exact h.elim|some a=>exact⟨a,rfl,h⟩
theorem zlw(G:Gd T cf k N sc X)(h1:N[i]?=some x)(h2:zh5 sc x=true)(h3:(x==("__debug__":Str))=false)(h4:(x==("__classdict__":Str))=false):PE X (.Name x pos) (tE X.K cf (.loc i)):=by
 refine PE.imp (zdP (by rw[G.nm];exact h1) (G.vis h2) h3 h4) fun σ H Qv ⟨δ,ι,S,Q,hs,hh,w,q⟩=>?_;obtain⟨d,e,hq⟩:=zax w;have e':δ[i]?=some (some d):=by
  cases z:δ[i]? with
  |none=>rw[z]at e;cases e
  |some o=>rw[z]at e;simp at e;rw[e]
 obtain⟨v,ev,r⟩:=hs.2 i d e';exact⟨v,ev,q v H (Lf.of hh r hq)⟩
theorem zlA(h:conB d c=true):PE X (.Constant c j pos) (tE X.K cf (.con d)):=by
 have key:∀{v:V},PE X (.Constant c j pos) (tC v)->(∀K ι H,RV K ι H d v)->PE X (.Constant c j pos) (tE X.K cf (.con d)):=fun {v} hp hr=>PE.imp hp fun σ H Qv ⟨δ,ι,S,Q,hs,hh,w,q⟩=>q v H (Lf.of hh (hr _ _ _) (by simpa[evE]using w))
 cases d<;>cases c<;>first
  |exact key zl3 fun _ _ _=>rfl
  |cases h
  |(simp[conB,beq_iff_eq]at h;subst h;exact key zl6 fun _ _ _=>rfl)
  |(simp[conB,beq_iff_eq]at h;subst h;exact key znM fun _ _ _=>rfl)
  |(simp[conB,beq_iff_eq]at h;subst h;exact key zdQ fun _ _ _=>rfl)
theorem zjx(G:Gd T cf k N sc X)(h1:isGl sc x=true)(h2:T.cons.lookup x=some d')(h3:eqC d' d=true)(h4:(x==("__debug__":Str))=false):PE X (.Name x pos) (tE X.K cf (.con d)):=by have e:=zmJ h3;subst e;obtain⟨hsc,u,hu,r⟩:=G.tab.con x d' h2;exact PE.imp (zes (G.gl h1) hu r h4) fun σ H Qv ⟨δ,ι,S,Q,hs,hh,w,q⟩=>q (sV d') H (Lf.of hh (znD hsc) (by simpa[evE]using w))
theorem zlC(ha:PE X a (tE X.K cf ca))(hb:PE X b (tE X.K cf cb)):PE X (.BinOp a op b pos) (tE X.K cf (.bin op ca cb)):=by refine PE.imp (zjX (zmU op) ha hb) fun σ H Qv ⟨δ,ι,S,Q,hs,hh,w,q⟩=>?_;simp[evE,zaa]at w;refine tE.run hs hh w fun d v ι1 H1 S1 x1 hs1 hh1 r1 w1=>tE.run hs1 hh1 w1 fun e u ι2 H2 S2 x2 hs2 hh2 r2 w2=>?_;exact⟨ι2,S2,d,e,Q,r1.ext x2,r2,hh2,w2,fun z H3 l=>q z H3 (Lf.up (x1.trans x2) l)⟩
theorem zlr(ha:PE X a (tE X.K cf ca)):PE X (.UnaryOp .USub a pos) (tE X.K cf (.neg ca)):=by refine PE.imp (znJ zkQ ha) fun σ H Qv ⟨δ,ι,S,Q,hs,hh,w,q⟩=>?_;simp[evE,zaa]at w;refine tE.run hs hh w fun d v ι1 H1 S1 x1 hs1 hh1 r1 w1=>?_;cases d with| int i=>obtain rfl:v=.int i:=r1;exact⟨i,rfl,q _ _ (Lf.up x1 (Lf.of (d:=.int (-i)) hh1 rfl w1))⟩|_=>exact w1.elim
theorem znw(ha:PE X a (tE X.K cf ca)):PE X (.UnaryOp .Not a pos) (tE X.K cf (.nt ca)):=by refine PE.imp (zl2 ha) fun σ H Qv ⟨δ,ι,S,Q,hs,hh,w,q⟩=>?_;simp[evE,zaa]at w;refine tE.run hs hh w fun d v ι1 H1 S1 x1 hs1 hh1 r1 w1=>?_;cases d with| bl i=>obtain rfl:v=.bl i:=r1;exact⟨i,rfl,q _ _ (Lf.up x1 (Lf.of (d:=.bl (!i)) hh1 rfl w1))⟩|_=>exact w1.elim
theorem zlB(G:Gd T cf k N sc X)(ha:PE X a (tE X.K cf ca))(hb:PE X b (tE X.K cf cb))(hm:zaz b=true):PE X (.Compare a [op] [b] pos) (tE X.K cf (.cmp op ca cb)):=by refine PE.imp (zgm (zcT G.hu op) ha hb (zcm hm op)) fun σ H Qv ⟨δ,ι,S,Q,hs,hh,w,q⟩=>?_;simp[evE,zaa]at w;refine tE.run hs hh w fun d v ι1 H1 S1 x1 hs1 hh1 r1 w1=>tE.run hs1 hh1 w1 fun e u ι2 H2 S2 x2 hs2 hh2 r2 w2=>?_;obtain⟨b,hb,w3⟩:=zax w2;exact⟨ι2,S2,d,e,b,r1.ext x2,r2,hh2,hb,q _ _ (Lf.up (x1.trans x2) (Lf.of (d:=.bl b) hh2 rfl w3))⟩
theorem zlc(G:Gd T cf k N sc X)(ha:PE X a (tE X.K cf ca))(hb:PE X b (tE X.K cf cb))(hm:zaz b=true):PT X (.Compare a [op] [b] pos) (tT X.K cf (.cmp op ca cb)):=by refine PT.imp (zjS (zcT G.hu op) ha hb (zcm hm op)) fun σ H Qv ⟨δ,ι,S,Q,hs,hh,w,q⟩=>?_;simp[evT,zaa]at w;refine tE.run hs hh w fun d v ι1 H1 S1 x1 hs1 hh1 r1 w1=>tE.run hs1 hh1 w1 fun e u ι2 H2 S2 x2 hs2 hh2 r2 w2=>?_;obtain⟨b,hb,w3⟩:=zax w2;exact⟨ι2,S2,d,e,b,r1.ext x2,r2,hh2,hb,b,rfl,q _ _ ⟨ι2,S2,x1.trans x2,hh2,w3⟩⟩
theorem zjz(G:Gd T cf k N sc X)(ha:PE X a (tE X.K cf ca))(hb:PE X b (tE X.K cf cb))(hc:PE X c (tE X.K cf cc))(hm:zaz b=true)(hm':zaz c=true) :
  PE X (.Compare a [op,op'] [b,c] pos) (tE X.K cf (.cmp2 op op' ca cb cc)):=by
 refine PE.imp (zhT (zcT G.hu op) (zcT G.hu op') ha hb hc (by simp[lastMarks,zcm hm'])) fun σ H Qv ⟨δ,ι,S,Q,hs,hh,w,q⟩=>?_;simp[evE,zaa]at w;refine tE.run hs hh w fun d v ι1 H1 S1 x1 hs1 hh1 r1 w1=>tE.run hs1 hh1 w1 fun e u ι2 H2 S2 x2 hs2 hh2 r2 w2=>?_;obtain⟨b,hb,w3⟩:=zax w2;refine⟨ι2,S2,d,e,b,r1.ext x2,r2,hh2,hb,b,rfl,?_⟩;cases b with|false=>exact q _ _ (Lf.up (x1.trans x2) (Lf.of (d:=.bl false) hh2 rfl w3))| true=>simp at w3⊢;refine tE.run hs2 hh2 w3 fun e' u' ι3 H3 S3 x3 hs3 hh3 r3 w4=>?_;obtain⟨b,hb,w5⟩:=zax w4;exact⟨ι3,S3,e,e',b,r2.ext x3,r3,hh3,hb,q _ _ (Lf.up ((x1.trans x2).trans x3) (Lf.of (d:=.bl b) hh3 rfl w5))⟩
theorem zjd(G:Gd T cf k N sc X)(ha:PE X a (tE X.K cf ca))(hb:PE X b (tE X.K cf cb))(hc:PE X c (tE X.K cf cc))(hm:zaz b=true)(hm':zaz c=true) :
  PT X (.Compare a [op,op'] [b,c] pos) (tT X.K cf (.cmp2 op op' ca cb cc)):=by
 refine PT.imp (zhH (zcT G.hu op) (zcT G.hu op') ha hb hc (by simp[lastMarks,zcm hm'])) fun σ H Qv ⟨δ,ι,S,Q,hs,hh,w,q⟩=>?_;simp[evT,zaa]at w;refine tE.run hs hh w fun d v ι1 H1 S1 x1 hs1 hh1 r1 w1=>tE.run hs1 hh1 w1 fun e u ι2 H2 S2 x2 hs2 hh2 r2 w2=>?_;obtain⟨b,hb,w3⟩:=zax w2;refine⟨ι2,S2,d,e,b,r1.ext x2,r2,hh2,hb,b,rfl,?_⟩;cases b with|false=>exact⟨false,rfl,q _ _ ⟨ι2,S2,x1.trans x2,hh2,w3⟩⟩| true=>simp only[if_true,zaa]at w3⊢;refine tE.run hs2 hh2 w3 fun e' u' ι3 H3 S3 x3 hs3 hh3 r3 w4=>?_;obtain⟨b,hb,w5⟩:=zax w4;exact⟨ι3,S3,e,e',b,r2.ext x3,r3,hh3,hb,b,rfl,q _ _ ⟨ι3,S3,(x1.trans x2).trans x3,hh3,w5⟩⟩
theorem ziD{rest:List Expr}(ha:PE X a (tE X.K cf ca))(hb:PE X (.BoolOp .And (b::rest) pos) (tE X.K cf cb)):PE X (.BoolOp .And (a::b::rest) pos) (tE X.K cf (.and ca cb)):=by
 refine PE.imp (zl8 ha hb) fun σ H Qv ⟨δ,ι,S,Q,hs,hh,w,q⟩=>?_;simp[evE,zaa]at w;refine tE.run hs hh w fun d v ι1 H1 S1 x1 hs1 hh1 r1 w1=>?_;cases d with
 |bl c=>obtain rfl:v=.bl c:=r1;refine⟨c,rfl,?_⟩;cases c with|false=>exact q _ _ (Lf.up x1 (Lf.of (d:=.bl false) hh1 rfl w1))|true=>exact⟨δ,ι1,S1,Q,hs1,hh1,w1,fun z H3 l=>q z H3 (Lf.up x1 l)⟩
 |_=>exact w1.elim
theorem zlq{rest:List Expr}(ha:PE X a (tE X.K cf ca))(hb:PE X (.BoolOp .Or (b::rest) pos) (tE X.K cf cb)):PE X (.BoolOp .Or (a::b::rest) pos) (tE X.K cf (.or ca cb)):=by
 refine PE.imp (znK ha hb) fun σ H Qv ⟨δ,ι,S,Q,hs,hh,w,q⟩=>?_;simp[evE,zaa]at w;refine tE.run hs hh w fun d v ι1 H1 S1 x1 hs1 hh1 r1 w1=>?_;cases d with
 |bl c=>obtain rfl:v=.bl c:=r1;refine⟨c,rfl,?_⟩;cases c with|true=>exact q _ _ (Lf.up x1 (Lf.of (d:=.bl true) hh1 rfl w1))|false=>exact⟨δ,ι1,S1,Q,hs1,hh1,w1,fun z H3 l=>q z H3 (Lf.up x1 l)⟩
 |_=>exact w1.elim
theorem LfB.up{K:PySem.W.Frag}(x:Ext ι H ι' H')(h:LfB K ι' H' Q b H2):LfB K ι H Q b H2:=by obtain⟨ι2,S2,x2,r⟩:=h;exact⟨ι2,S2,x.trans x2,r⟩
theorem zix{rest:List Expr}(ha:PT X a (tT X.K cf ca))(hb:PW X (.BoolOp .And (b::rest) pos) (tT X.K cf cb)):PW X (.BoolOp .And (a::b::rest) pos) (tT X.K cf (.and ca cb)):=by refine PW.imp (zlS ha hb) fun σ H Qv ⟨δ,ι,S,Q,hs,hh,w,q⟩=>?_;simp[evT,zaa]at w;refine tT.run hs hh w fun c ι1 H1 S1 x1 hs1 hh1 w1=>?_;cases c with|false=>exact q _ _ ⟨ι1,S1,x1,hh1,w1⟩|true=>exact⟨δ,ι1,S1,Q,hs1,hh1,w1,fun z H3 l=>q z H3 (LfB.up x1 l)⟩
theorem zlb{rest:List Expr}(ha:PT X a (tT X.K cf ca))(hb:PW X (.BoolOp .Or (b::rest) pos) (tT X.K cf cb)):PW X (.BoolOp .Or (a::b::rest) pos) (tT X.K cf (.or ca cb)):=by refine PW.imp (znH ha hb) fun σ H Qv ⟨δ,ι,S,Q,hs,hh,w,q⟩=>?_;simp[evT,zaa]at w;refine tT.run hs hh w fun c ι1 H1 S1 x1 hs1 hh1 w1=>?_;cases c with|true=>exact q _ _ ⟨ι1,S1,x1,hh1,w1⟩|false=>exact⟨δ,ι1,S1,Q,hs1,hh1,w1,fun z H3 l=>q z H3 (LfB.up x1 l)⟩
theorem znt(ha:PT X a (tT X.K cf ca)):PT X (.UnaryOp .Not a pos) (tT X.K cf (.nt ca)):=by refine PT.imp (zlT ha) fun σ H Qv ⟨δ,ι,S,Q,hs,hh,w,q⟩=>?_;simp[evT,zaa]at w;exact tT.run hs hh w fun c ι1 H1 S1 x1 hs1 hh1 w1=>q _ _ ⟨ι1,S1,x1,hh1,w1⟩
theorem zk4(hh:RH X.K ι H S)(r:RV X.K ι H d v)(h:tru S d=some b):TruV X.K v H b:=by
 cases d with
 |non=>obtain rfl:v=.non:=r;cases h;rfl|bl c=>obtain rfl:v=.bl c:=r;cases h;rfl|int i=>obtain rfl:v=.int i:=r;cases h;rfl| tup ds=>obtain⟨a,xs,rfl,ha,rr⟩:=r;cases h;refine .inr (.inl ⟨xs,SqT.of ha,?_⟩);have:=rr.length;cases ds<;>cases xs<;>first|rfl|simp at this
 |ref l=>
  simp[tru]at h;split at h
  . rename_i ds e;cases h;obtain⟨a,h1,rfl⟩:=r;obtain⟨a2,h2,xs,ha,rr⟩:=hh.obj _ _ e;rw[h1]at h2;cases h2;refine .inl ⟨xs,SqL.of ha,?_⟩;have:=rr.length;cases ds<;>cases xs<;>first|rfl|simp at this
  cases h
 |_=>cases h
theorem zla(ha:PE X a (tE X.K cf ca))(hp:zeT a=true):PT X a (tT X.K cf (.tst ca)):=by refine PT.imp (zhG ha (zk3 hp X.env)) fun σ H Qv ⟨δ,ι,S,Q,hs,hh,w,q⟩=>?_;simp[evT,zaa]at w;refine tE.run hs hh w fun d v ι1 H1 S1 x1 hs1 hh1 r1 w1=>?_;obtain⟨b,hb,w2⟩:=zax w1;exact⟨b,zk4 hh1 r1 hb,q _ _ ⟨ι1,S1,x1,hh1,w2⟩⟩
theorem zly(hc:PT X c (tT X.K cf cc))(ha:PE X a (tE X.K cf ca))(hb:PE X b (tE X.K cf cb)):PE X (.IfExp c a b pos) (tE X.K cf (.ite cc ca cb)):=by refine PE.imp (zhS hc ha hb) fun σ H Qv ⟨δ,ι,S,Q,hs,hh,w,q⟩=>?_;simp[evE,zaa]at w;refine tT.run hs hh w fun c ι1 H1 S1 x1 hs1 hh1 w1=>?_;cases c with|true=>exact⟨δ,ι1,S1,Q,hs1,hh1,w1,fun z H3 l=>q z H3 (Lf.up x1 l)⟩|false=>exact⟨δ,ι1,S1,Q,hs1,hh1,w1,fun z H3 l=>q z H3 (Lf.up x1 l)⟩
theorem zf6:PA X [] (tAs X.K cf .nil):=PA.imp zbC fun σ H Qv ⟨δ,ι,S,Q,hs,hh,w,q⟩=>q [] H ⟨[],ι,S,Ext.refl _ _,rfl,hh,by simpa[evEs]using w⟩
theorem zc3(he:PE X e (tE X.K cf ce))(hes:PA X es (tAs X.K cf ces))(hn:zah e=true):PA X (e::es) (tAs X.K cf (.cons ce ces)):=by refine PA.imp (zaF he hes (zag hn es X.env)) fun σ H Qv ⟨δ,ι,S,Q,hs,hh,w,q⟩=>?_;simp[evEs,zaa]at w;refine tE.run hs hh w fun d v ι1 H1 S1 x1 hs1 hh1 r1 w1=>tAs.run hs1 hh1 w1 fun ds vs ι2 H2 S2 x2 hs2 hh2 r2 w2=>?_;exact q _ _ ⟨d::ds,ι2,S2,x1.trans x2,⟨v,vs,rfl,r1.ext x2,r2⟩,hh2,w2⟩
theorem zln(h:PA X es (tAs X.K cf ces)):PE X (.Tuple es j pos) (tE X.K cf (.tup ces)):=by refine PE.imp (zl1 h) fun σ H Qv ⟨δ,ι,S,Q,hs,hh,w,q⟩=>?_;simp[evE,zaa]at w;refine tAs.run hs hh w fun ds vs ι1 H1 S1 x1 hs1 hh1 r1 w1=>?_;split at w1;rename_i c;exact⟨by rw[r1.length,sizeLine_eq];exact c,fun p hp=>q _ _ (Lf.up x1 (Lf.tup hh1 hp r1 w1))⟩;exact w1.elim
theorem zlv(h:PA X es (tAs X.K cf ces)):PE X (.List es pos) (tE X.K cf (.lst ces)):=by refine PE.imp (zl4 h) fun σ H Qv ⟨δ,ι,S,Q,hs,hh,w,q⟩=>?_;simp[evE,zaa]at w;refine tAs.run hs hh w fun ds vs ι1 H1 S1 x1 hs1 hh1 r1 w1=>?_;obtain⟨c,w2⟩:=zb4 w1;exact⟨by rw[r1.length];exact c,fun p hp=>q _ _ (Lf.up x1 (Lf.lst hh1 hp r1 w2))⟩
theorem znX(hh:RH X.K ι H S)(r:RV X.K ι H d v)(hq:zbe S d=some ds)(ha:R.atI ds i=some e):∃u,rIx X.K v (.int i) H (fun z H'=>z=u/\H'=H)/\RV X.K ι H e u:=by
 obtain⟨a,xs,rfl,hx,rr⟩:=ziB hh hq r;have hl:=rr.length;have key:∃u,L2.atI xs i=some u/\RV X.K ι H e u:=by
  unfold R.atI at ha;cases e1:R.ixN ds.length i with
  |none=>rw[e1]at ha;cases ha
  |some j=>
   rw[e1]at ha;obtain⟨u,h1,h2⟩:=rr.get ha;refine⟨u,?_,h2⟩;unfold L2.atI;have:L2.ixN xs.length i=some j:=by rw[hl];exact e1
   rw[this];exact h1
 obtain⟨u,h1,h2⟩:=key;refine⟨u,?_,h2⟩;rcases hx with hx|hx;exact .inl ⟨a,xs,i,u,rfl,rfl,hx,h1,rfl,rfl⟩;exact .inr (.inl ⟨a,xs,i,u,rfl,rfl,hx,h1,rfl,rfl⟩)
theorem zjN{K:PySem.W.Frag}(h:rIx K x y H (fun z H'=>z=u/\H'=H))(q:Q u H):rIx K x y H Q:=by rcases h with⟨p,xs,i,v,h1,h2,h3,h4,rfl,_⟩|⟨p,xs,i,v,h1,h2,h3,h4,rfl,_⟩|⟨z,i,c,h1,h2,h3,h4,h5,_⟩;exact .inl ⟨p,xs,i,v,h1,h2,h3,h4,q⟩;exact .inr (.inl ⟨p,xs,i,v,h1,h2,h3,h4,q⟩);exact .inr (.inr ⟨z,i,c,h1,h2,h3,h4,by rw[h5];exact q⟩)
theorem znz(ha:PE X a (tE X.K cf ca))(hb:PE X b (tE X.K cf cb))(hp:zbQ b=true):PE X (.Subscript a b pos) (tE X.K cf (.ix ca cb)):=by refine PE.imp (zl5 ziK ha hb (zmu hp)) fun σ H Qv ⟨δ,ι,S,Q,hs,hh,w,q⟩=>?_;simp[evE,zaa]at w;refine tE.run hs hh w fun d v ι1 H1 S1 x1 hs1 hh1 r1 w1=>tE.run hs1 hh1 w1 fun e u ι2 H2 S2 x2 hs2 hh2 r2 w2=>?_;split at w2;rename_i ds i eq;obtain⟨z,hz,w3⟩:=zax w2;obtain rfl:u=.int i:=r2;obtain⟨u,h1,h2⟩:=znX hh2 (r1.ext x2) eq hz;exact zjN h1 (q _ _ (Lf.up (x1.trans x2) (Lf.of hh2 h2 w3)));exact w2.elim
end
section
variable{K:PySem.W.Frag}{ι ι':List Addr}{H H':Hp}{S T:R.St}{d:D}{v:V}
theorem zkn(hf:T.frz=S.frz++S.new)(h:S.get l=some o):T.get l=some o:=by obtain⟨f,n,k⟩:=T;subst hf;exact zkm h n k
theorem RH.cut(hh:RH K ι H S)(x:Ext ι H ι' H')(hT:RH K ι' H' T)(hf:T.frz=S.frz++S.new):RH K ι H' S:=by refine⟨hh.len,hh.nd,fun l o e=>?_,hT.tab⟩;obtain⟨a,h1,h2⟩:=hh.obj l o e;obtain⟨b,h3,h4⟩:=hT.obj l o (zkn hf e);rw[zb0 x.pre h1]at h3;cases h3;refine⟨a,h1,?_⟩;cases o with| lst ds=>obtain⟨xs,_,r1⟩:=h2;obtain⟨ys,e2,r2⟩:=h4;exact⟨ys,e2,r2.restrict x.pre r1.flats⟩| ins c fs=>obtain⟨_,_,ws,_,_,r1⟩:=h2;obtain⟨C,dx,ys,e0,e2,r2⟩:=h4;exact⟨C,dx,ys,e0,e2,r2.restrict x.pre r1.flats⟩| exc c fs=>obtain⟨_,_,_,ws,_,_,_,r1⟩:=h2;obtain⟨C,dx,od,ys,e0,e1,e2,r2⟩:=h4;exact⟨C,dx,od,ys,e0,e1,e2,r2.restrict x.pre r1.flats⟩
theorem Ext.cut(x:Ext ι H ι' H'):Ext ι H ι H':=⟨prefix_refl _,x.kp,fun a o h e=>⟨(x.rest a o h e).1,h⟩⟩
theorem zjU(hp:ι <+: ι')(nd:ι'.Nodup)(hl:ι'[l]?=some a)(h:ι.length<=l):a∉ι:=fun hm=>by obtain⟨t,rfl⟩:=hp;rw[getElem?_append_right h]at hl;have h2:=mem_of_getElem? hl;exact(List.nodup_append.mp nd).2.2 a hm a h2 rfl
theorem zkq(x:Ext ι H ι' H')(nd:ι'.Nodup)(hl:ι'[l]?=some a)(h:ι.length<=l):Ext ι H (ι++[a]) H':=by refine⟨prefix_append _ _,x.kp,fun b o hb e=>⟨(x.rest b o hb e).1,fun z=>?_⟩⟩;rcases mem_append.mp z with z|z;exact hb z;simp at z;subst z;exact(x.rest b o hb e).2 (mem_of_getElem? hl)
theorem RH.one{l:Nat}(hh:RH K ι H' S)(nd:a∉ι)(ho:RO K (ι++[a]) H' a o):RH K (ι++[a]) H' (S.push o):=by
 refine⟨by rw[length_append,hh.len,zcd];rfl,?_,fun l o' e=>?_,hh.tab⟩;rw[List.nodup_append];refine⟨hh.nd,by simp,fun b hb c hc=>?_⟩;simp at hc;subst hc;exact fun z=>nd (z▸hb);by_cases hl:l<S.len;rw[zct hl]at e;obtain⟨b,h1,h2⟩:=hh.obj l o' e;exact⟨b,zb0 (prefix_append _ _) h1,h2.up (prefix_append _ _) (Kp.refl _) rfl⟩;have hl2:=zb5 e;rw[zcd]at hl2;have:l=S.len:=by omega
 subst this;rw[zfc]at e;cases e;exact⟨a,by rw[<-hh.len];simp,ho⟩
theorem RH.keep(hT:RH K ι' H' T)(hf:T.frz=S.frz++S.new):RH K ι' H' ⟨S.frz,S.new++T.new,S.lk⟩:=by
 have hg:∀l,(R.St.mk S.frz (S.new++T.new) S.lk).get l=T.get l:=fun l=>by unfold St.get;rw[hf];simp;by_cases h1:l<S.frz.length;rw[if_pos h1,if_pos (by omega),getElem?_append_left h1];by_cases h2:l<S.frz.length+S.new.length;rw[if_neg h1,if_pos h2,getElem?_append_left (by omega),getElem?_append_right (by omega)];rw[if_neg h1,if_neg h2,getElem?_append_right (by omega)];congr 1;omega
 refine⟨?_,hT.nd,fun l o e=>hT.obj l o (by rw[<-hg];exact e),hT.tab⟩;rw[hT.len];unfold St.len;rw[hf];simp;omega
theorem zce(hh:RH K ι H S)(x:Ext ι H ι' H')(r:RV K ι' H' d v)(hT:RH K ι' H' T)(hf:T.frz=S.frz++S.new)(w:W (za2 S d T) Q):Lf K ι H Q v H':=by
 have hc:=hh.cut x hT hf;unfold za2 at w;split at w;rename_i c;rw[<-hh.len]at c;exact⟨d,ι,S,x.cut,r.restrict x.pre c,hc,w⟩;rename_i c;split at w;rename_i l;obtain⟨a,h1,rfl⟩:=id r;have hl:ι.length<=l:=by simp[R.flat,decide_eq_true_eq]at c;rw[hh.len];omega
 have ha:=zjU x.pre hT.nd h1 hl;split at w;rename_i ds e;obtain⟨b,h2,h3⟩:=hT.obj l _ e;rw[h1]at h2;cases h2;split at w;rename_i c2;rw[<-hh.len]at c2;obtain⟨ys,e2,r2⟩:=h3;refine⟨.ref S.len,ι++[a],S.push (.lst ds),zkq x hT.nd h1 hl,⟨a,by rw[<-hh.len];simp,rfl⟩,hc.one (l:=l) ha ⟨ys,e2,(r2.restrict x.pre c2).up (prefix_append _ _) (Kp.refl _)⟩,w⟩;exact⟨_,ι',_,x,r,hT.keep hf,w⟩;exact⟨_,ι',_,x,r,hT.keep hf,w⟩;exact⟨_,ι',_,x,r,hT.keep hf,w⟩
end
section
variable{T:Tab}{cf:CF}{k:Nat}{N:List Str}{sc:Scope}{X:Cx}{pos p:Pos}
theorem RVs.nons{K:PySem.W.Frag}:∀j:Nat,RVs K ι H (List.replicate j .non) (List.replicate j .non)
 |0=>rfl|j+1=>⟨.non,List.replicate j .non,rfl,rfl,RVs.nons j⟩
theorem RH.enter{K:PySem.W.Frag}(h:RH K ι H S):RH K ι H S.enter:=⟨by rw[enter_len];exact h.len,h.nd,fun l o e=>h.obj l o (by rw[zaZ]at e;exact e),h.tab⟩
theorem zg9(hfr:CFok cf)(h:tE X.K cf (.call f j ces) σ H Qv) :
  zfY (spF X.K cf f) (List.replicate j .non) E0 (tAs X.K cf ces) σ H Qv:=by
 obtain⟨δ,ι,S,Q,hs,hh,w,q⟩:=h;simp[evE,zaa]at w;refine tAs.run hs hh w fun ds vs ι1 H1 S1 x1 hs1 hh1 r1 w1=>?_;unfold app at w1;rw[zaa]at w1;refine⟨ι1,S1.enter,ds++List.replicate j .non,r1.append (RVs.nons j),hh1.enter,?_⟩;obtain⟨d,T',e,w2⟩:=zfN w1;rw[e];exact fun v H' ι' x r hT=>q v H' (Lf.up x1 (zce hh1 x r hT (hfr _ _ _ _ _ (.inl e)).frz w2))
theorem zed{K:PySem.W.Frag}(hh:RH K ι1 H1 S1)(x:Ext ι H ι1 H1)(hn:H1 a=none):H a=none:=by
 cases e:H a with
 |none=>rfl| some o=>
  by_cases hm:a∈ι;have h2:a∈ι1:=by obtain⟨t,rfl⟩:=x.pre;exact mem_append_left _ hm
  exact absurd h2 (hh.fresh hn)
  . have:=(x.rest a o hm e).1;rw[hn]at this;rcases this with z|⟨_,_,z⟩<;>cases z
theorem zjA(G:Gd T cf k N sc X)(hf:T.fns[f]?=some (x,ps,nd))(hj:j<=nd)(hg:isGl sc x=true)(hd:(x==("__debug__":Str))=false)(ha:PA X (e::es) (tAs X.K cf ces))(hst:(e::es).all zah=true) :
  PE X (.Call (.Name x p) (e::es) [] pos) (tE X.K cf (.call f j ces)):=by
 have Hs:=G.tab.fns f x ps nd hf j hj;rw[all_cons,and_eq_true]at hst;exact PE.imp (znL Hs G.room ha (G.gl hg) hd (zag hst.1 es X.env) (zaD hst.2)) fun σ H Qv h=>zg9 G.tab.frm h
theorem zhA(G:Gd T cf k N sc X)(hf:T.fns[f]?=some (x,ps,nd))(hj:j<=nd)(hg:isGl sc x=true)(hd:(x==("__debug__":Str))=false) :
  PE X (.Call (.Name x p) [] [] pos) (tE X.K cf (.call f j .nil)):=by
 have Hs:=G.tab.fns f x ps nd hf j hj;refine PE.imp (zl7 Hs G.room (G.gl hg) hd) fun σ H Qv ⟨δ,ι,S,Q,hs,hh,w,q⟩=>?_;simp only[evE,evEs,zab]at w;unfold app at w;rw[zaa]at w;obtain⟨d,T',e,w2⟩:=zfN w;refine⟨ι,S.enter,[]++List.replicate j .non,RVs.append rfl (RVs.nons j),hh.enter,?_⟩;rw[e];exact fun v H' ι' x r hT=>q v H' (zce hh x r hT (G.tab.frm _ _ _ _ _ (.inl e)).frz w2)
end
section
variable{prog:Program}{w:World}{A:Around}{E:Value->Shared->Prop}{s:Shared}
theorem zbI{lo hi:Option Int}(ht:IsTup s.heap t items)(hs:s.heap.IsSliceOf sl vl vu .none)(pl:IsPart vl lo)(pu:IsPart vu hi)
  (hw:HT.sIx items.size 0 lo=0/\HT.sIx items.size items.size hi=items.size)
  (h:Q (.ref t) s):wpAny (model prog w) A (getItem (.ref t) (.ref sl)) Q E s:=by
 obtain⟨os,hos,hcs,hds⟩:=id hs;have hTs:s.TypeIs (.ref sl) "slice":=⟨os,hos,hcs⟩;unfold getItem
 try with_reducible apply wpAny_holding
 refine wpAny_bind (wpAny_sequenceKey ht.typeIs (by decide) ?_);refine wpAny_bind (wpAny_callSpecial?_slot ht.typeIs PyProof.Rows.slot_tuple_getitem
  (wpAny_call_entry PyProof.Rows.slot_tuple_getitem ht.typeIs entry_tuple_getitem ?_ (args_tuple_getitem _ _)))
 show wpAny _ _ (Builtin.Tuple.tupleItemsOf (.ref t)>>=_) _ _ s;refine wpAny_bind (tupleItemsOf_ ht ?_);refine wpAny_bind (wpAny_typeOf hTs ?_);refine wpAny_bind (HT.sliceApplied_gen hs pl pu ?_);have hyes:(((HT.sIx items.size 0 lo:Nat):Int)==0&&(1:Int)==1&&(HT.sIx items.size items.size hi-HT.sIx items.size 0 lo)==items.size)=true:=by rw[hw.1,hw.2];simp
 show wpAny _ _ (if(((HT.sIx items.size 0 lo:Nat):Int)==0&&(1:Int)==1&&(HT.sIx items.size items.size hi-HT.sIx items.size 0 lo)==items.size)=true then _ else _) _ _ s;rw[if_pos hyes];refine wpAny_bind (wpAny_bind (wpAny_typeOf ht.typeIs (wpAny_pure ?_)));exact wpAny_bind (wpAny_rule (wpAny_pure ⟨_,rfl,wpAny_pure h⟩))
end
section
variable{T:Tab}{cf:CF}{k:Nat}{N:List Str}{sc:Scope}{X:Cx}{pos p:Pos}
def rSlW(K:PySem.W.Frag):V->Option Int->Option Int->Hp->VK->Prop:=fun x lo hi H Q=>∃a xs,x=.ref a/\SqT K H a xs/\
 (HT.sIx xs.length 0 lo=0/\HT.sIx xs.length xs.length hi=xs.length)/\Q (.ref a) H
theorem zhx:SlR X (rSlW X.K):=by
 intro pins s σ H x v vl vu lo hi sl Q I rx hs pl pu h;obtain⟨a,xs,rfl,hx,hw,q⟩:=h;cases rx;obtain⟨its,r,ht,hz⟩:=I.tuple hx;have hlen:its.toArray.size=xs.length:=by rw[size_toArray];exact r.length.symm
 exact⟨"tuple",_,PyProof.Rows.slot_tuple_getitem.lookup,ht.typeIs,zbI ht hs pl pu (by rw[hlen];exact hw) ⟨.ref a,H,I,rfl,q⟩⟩
theorem zeN(n d:Nat)(o:Option Int):R.sIx n d o=HT.sIx n d o:=by cases o<;>rfl
theorem zg4{lo hi:Option Int}(h:HT.sIx xs.length 0 lo=0/\HT.sIx xs.length xs.length hi=xs.length):cut xs lo hi=xs:=by unfold cut;rw[zeN,zeN,h.1,h.2];simp
theorem RVs.cut{K:PySem.W.Frag}(r:RVs K ι H ds xs)(lo hi:Option Int):RVs K ι H (R.cut ds lo hi) (cutV xs lo hi):=by have hl:=r.length;unfold R.cut cutV;rw[zeN,zeN,hl];exact(r.drop _).take _
inductive PartOk(X:Cx)(cf:CF):Bool->CE->Option Expr->Prop where
 |no {c:CE} (h:∃d,c=.con d):PartOk X cf false c none
 |yes {c:CE} {e:Expr} (h:PE X e (tE X.K cf c)):PartOk X cf true c (some e)
theorem znv{lo hi:Option Expr}(ha:PE X a (tE X.K cf ca))(hlo:PartOk X cf ml clo lo)(hhi:PartOk X cf mh chi hi):PE X (.Subscript a (.Slice lo hi none p2) pos) (tE X.K cf (.sl ca ml mh clo chi)):=by
 have fin:∀{σ:L2.St}{δ:Ev}{ι ι1:List Addr}{H H1:Hp}{S1:R.St}{Q:D->R.St->Prop}{Qv:VK}{d:D}{v:V}{y z:Option Int},Ext ι H ι1 H1->RH X.K ι1 H1 S1->RV X.K ι1 H1 d v->(∀v H',Lf X.K ι H Q v H'->Qv v H')->
   W (match d with|.tup ds=>.ok (.tup (R.cut ds y z)) S1|.fix ds=>lay S1 (R.cut ds y z)|.ref p=>(match S1.get p with|some (.lst ds)=>lay S1 (R.cut ds y z)|_=>.bad)|_=>.bad) Q->
   (rSlL X.K v y z H1 Qv\/rSlT X.K v y z H1 Qv)\/rSlW X.K v y z H1 Qv:=by
  intro σ δ ι ι1 H H1 S1 Q Qv d v y z x hh r q w;cases d with
  |tup ds=>obtain⟨a,xs,rfl,ha,rr⟩:=r;by_cases hw:HT.sIx xs.length 0 y=0/\HT.sIx xs.length xs.length z=xs.length;refine .inr ⟨a,xs,rfl,SqT.of ha,hw,q _ _ (Lf.up x (Lf.of (d:=.tup ds) hh ⟨a,xs,rfl,ha,rr⟩ ?_))⟩;have e:R.cut ds y z=ds:=zg4 (by rw[<-rr.length];exact hw);dsimp only at w;rw[e]at w;exact w;exact .inl (.inr ⟨a,xs,rfl,SqT.of ha,hw,fun p hp=>q _ _ (Lf.up x (Lf.tup hh hp (rr.cut y z) w))⟩)| fix ds=>obtain⟨a,xs,rfl,ha,rr⟩:=r;obtain⟨_,w2⟩:=zb4 w;exact .inl (.inl ⟨a,xs,rfl,ha.sq,fun p hp=>q _ _ (Lf.up x (Lf.lst hh hp (rr.cut y z) w2))⟩)| ref l=>dsimp only at w;cases e:S1.get l with|none=>rw[e]at w;exact w.elim| some o=>rw[e]at w;cases o with| lst ds=>obtain⟨a,h1,rfl⟩:=r;obtain⟨b,h2,xs,ha,rr⟩:=hh.obj _ _ e;rw[h1]at h2;cases h2;obtain⟨_,w2⟩:=zb4 w;exact .inl (.inl ⟨a,xs,rfl,SqL.of ha,fun p hp=>q _ _ (Lf.up x (Lf.lst hh hp (rr.cut y z) w2))⟩)|_=>exact w.elim
  |_=>exact w.elim
 have part:∀{m:Bool}{c:CE}{o:Option Expr},PartOk X cf m c o->∃t,PO X o t/\∀{δ:Ev}{σ:L2.St}{ι:List Addr}{H:Hp}{S:R.St}{Q:D->R.St->Prop}{Qv:Option Int->Hp->Prop},RS X.K ι H δ σ->RH X.K ι H S->W (evE cf c δ S) Q->
   (∀d S',Q d S'->∃z,zaE m d=some z)->
   (∀d ι' H' S' z,Ext ι H ι' H'->RS X.K ι' H' δ σ->RH X.K ι' H' S'->Q d S'->zaE m d=some z->Qv z H')->t σ H Qv:=by
  intro m c o h;cases h with| no h=>obtain⟨d,rfl⟩:=h;refine⟨_,zgi,fun {δ σ ι H S Q Qv} hs hh w hp h=>?_⟩;exact h d ι H S none (Ext.refl _ _) hs hh w rfl| yes h=>refine⟨_,zgh h,fun {δ σ ι H S Q Qv} hs hh w hp h=>?_⟩;refine tE.run hs hh w fun d v ι1 H1 S1 x1 hs1 hh1 r1 w1=>?_;obtain⟨z,hz⟩:=hp d S1 w1;cases d with| int i=>obtain rfl:v=.int i:=r1;exact⟨i,rfl,h _ _ _ _ _ x1 hs1 hh1 w1 rfl⟩|_=>cases hz
 obtain⟨tl,pl,rl⟩:=part hlo;obtain⟨th,ph,rh⟩:=part hhi;refine PE.imp (zeU (SlR.or (SlR.or zjj zlk) zhx) ha pl ph) fun σ H Qv ⟨δ,ι,S,Q,hs,hh,w,q⟩=>?_;simp[evE,zaa]at w;refine tE.run hs hh w fun d v ι1 H1 S1 x1 hs1 hh1 r1 w1=>?_;have hz:∀(b:Bool)(y:D),zaE b y=none\/∃z,zaE b y=some z:=fun b y=>by cases zaE b y<;>simp
 refine rl hs1 hh1 w1 (fun y S2 w2=>?_) fun y ι2 H2 S2 zl x2 hs2 hh2 w2 hzl=>?_;rcases hz ml y with e|e;rw[W.iff]at w2;obtain⟨u,S3,_,w3⟩:=w2;rw[e]at w3;exact w3.elim;exact e;refine rh hs2 hh2 w2 (fun u S3 w3=>?_) fun u ι3 H3 S3 zh x3 hs3 hh3 w3 hzh=>?_;rcases hz mh u with e|e;rw[hzl,e]at w3;exact w3.elim;exact e;rw[hzl,hzh]at w3;exact fin (σ:=σ) (δ:=δ) ((x1.trans x2).trans x3) hh3 (r1.ext (x2.trans x3)) q w3
end
def rB(K:PySem.W.Frag)(f:R.St->List D->Out D):List V->Hp->VK->Prop:=fun xs H Qv=>∃ι S ds Qd,RVs K ι H ds xs/\RH K ι H S/\W (f S ds) Qd/\∀v H',Lf K ι H Qd v H'->Qv v H'
section
variable{T:Tab}{cf:CF}{k:Nat}{N:List Str}{sc:Scope}{X:Cx}{pos p:Pos}
theorem RVs.one{K:PySem.W.Frag}(r:RVs K ι H [d] xs):∃v,xs=[v]/\RV K ι H d v:=by obtain⟨v,w,rfl,r1,r2⟩:=r;cases r2;exact⟨v,rfl,r1⟩
theorem zmm:zba X (.builtin "len") (rB X.K fun S ds=>R.bi S .len ds):=by
 intro pins s σ H xs us Qv I rv ⟨ι,S,ds,Qd,r,hh,w,q⟩;dsimp only at w;unfold bi at w;split at w
 case h_1 x=>
  obtain⟨v,rfl,rr⟩:=r.one;split at w;obtain⟨a,xs,rfl,ha,r2⟩:=rr;refine zbv pins s σ H _ us Qv I rv ⟨a,xs,rfl,.inr (SqT.of ha),?_⟩;rw[r2.length];exact q _ _ (Lf.of (d:=.int _) hh rfl w);obtain⟨a,xs,rfl,ha,r2⟩:=rr;refine zbv pins s σ H _ us Qv I rv ⟨a,xs,rfl,.inl ha.sq,?_⟩;rw[r2.length];exact q _ _ (Lf.of (d:=.int _) hh rfl w);rename_i l;obtain⟨a,h1,rfl⟩:=rr;cases e:S.get l with|none=>rw[e]at w;exact w.elim| some o=>rw[e]at w;obtain⟨b,h2,h3⟩:=hh.obj _ _ e;rw[h1]at h2;cases h2;cases o with| lst ds=>obtain⟨xs,ha,r2⟩:=h3;refine zbv pins s σ H _ us Qv I rv ⟨a,xs,rfl,.inl (SqL.of ha),?_⟩;rw[r2.length];exact q _ _ (Lf.of (d:=.int _) hh rfl w)|ins _ _=>exact w.elim|exc _ _=>exact w.elim
  exact w.elim
 all_goals first|exact w.elim|(rename_i h;cases h)
theorem zm1:zba X (.builtin "abs") (rB X.K fun S ds=>R.bi S .abs ds):=by
 intro pins s σ H xs us Qv I rv ⟨ι,S,ds,Qd,r,hh,w,q⟩;dsimp only at w;unfold bi at w;split at w
 case h_2 i _=>obtain⟨v,rfl,rr⟩:=r.one;obtain rfl:v=.int i:=rr;exact zik pins s σ H _ us Qv I rv ⟨i,rfl,q _ _ (Lf.of (d:=.int _) hh rfl w)⟩
 all_goals first|exact w.elim|(rename_i h;cases h)
theorem zaR(G:Gd T cf k N sc X)(h:bltB T sc x=true):Gl X x/\X.mg x=none:=by unfold bltB at h;rw[and_eq_true]at h;exact⟨G.gl h.1,G.tab.blt x h.2⟩
theorem znA{id:String}(hc:zba X (.builtin id) (rB X.K fun S ds=>R.bi S b ds))(hg:Gl X x/\X.mg x=none)(hv:bootBuiltins x=some (.builtin id))(ha:PA X (e::es) (tAs X.K cf ces))(hst:(e::es).all zah=true)(hn:x≠"__name__")(hdb:(x==("__debug__":Str))=false) :
  PE X (.Call (.Name x p) (e::es) [] pos) (tE X.K cf (.bi b ces)):=by
 rw[all_cons,and_eq_true]at hst;refine PE.imp (zbg hc hg.1 hg.2 hv ha hn hdb (zag hst.1 es X.env) (zaD hst.2)) fun σ H Qv ⟨δ,ι,S,Q,hs,hh,w,q⟩=>?_;simp[evE,zaa]at w;refine tAs.run hs hh w fun ds vs ι1 H1 S1 x1 hs1 hh1 r1 w1=>?_;exact⟨ι1,S1,ds,Q,r1,hh1,w1,fun v H' l=>q v H' (Lf.up x1 l)⟩
theorem zi8(hh:RH X.K ι H S)(r:RV X.K ι H d v)(h:tyOf S d=some a):zb1 H v=some a:=by
 cases d with
 |non=>obtain rfl:v=.non:=r;exact h|bl b=>obtain rfl:v=.bl b:=r;exact h|int b=>obtain rfl:v=.int b:=r;exact h|str b=>obtain rfl:v=.str b:=r;exact h| tup ds=>obtain⟨p,xs,rfl,ha,_⟩:=r;simp only[zb1,ha];exact h| ref l=>
  obtain⟨p,h1,rfl⟩:=r;simp[tyOf]at h;simp[zb1];cases e:S.get l with
  |none=>rw[e]at h;cases h
  |some o=>
   rw[e]at h;obtain⟨b,h2,h3⟩:=hh.obj _ _ e;rw[h1]at h2;cases h2;cases o with
   |lst ds=>obtain⟨xs,ha,_⟩:=h3;rw[ha];exact h|ins _ _=>cases h
   |exc _ _=>cases h
 |fix ds=>cases h
theorem zjt(G:Gd T cf k N sc X)(hg:Gl X "isinstance"/\X.mg "isinstance"=none)(hy:Gl X y/\X.mg y=none)(hb:bootBuiltins y=some (.type t))(ht:t∈["bool","int","str","list","tuple","dict"])(hyn:y≠"__name__")(hyd:(y==("__debug__":Str))=false)
  (he:PE X e (tE X.K cf ce)) (hst:zah e=true):PE X (.Call (.Name "isinstance" p) [e,.Name y p2] [] pos) (tE X.K cf (.bi (.isin t) (.cons ce .nil))):=by
 refine PE.imp (zbg zeA hg.1 hg.2 zbk (zaF he (zaF (zgo (v:=.ty t) hy.1 hy.2 hb rfl hyn hyd) zbC) (zag hst _ X.env)) (by decide) (by decide) (zag hst _ X.env)) fun σ H Qv ⟨δ,ι,S,Q,hs,hh,w,q⟩=>?_;simp[evE,evEs,zaa,W_ok]at w;refine tE.run hs hh w fun d v ι1 H1 S1 x1 hs1 hh1 r1 w1=>?_;simp[bi]at w1;cases e:tyOf S1 d with|none=>rw[e]at w1;exact w1.elim| some a=>rw[e]at w1;exact⟨v,t,a,rfl,zi8 hh1 r1 e,ht,q _ _ (Lf.up x1 (Lf.of (d:=.bl _) hh1 rfl w1))⟩
theorem ziL(hh:RH X.K ι H S)(r:RV X.K ι H d v)(h:isL S d=true):tyV X.K "list" v H:=by
 cases d with
 |ref l=>
  obtain⟨p,h1,rfl⟩:=r;simp[isL]at h;cases e:S.get l with
  |none=>rw[e]at h;cases h
  |some o=>rw[e]at h;obtain⟨b,h2,h3⟩:=hh.obj _ _ e;rw[h1]at h2;cases h2;cases o with|lst ds=>obtain⟨xs,ha,_⟩:=h3;exact .inl ⟨rfl,xs,SqL.of ha⟩|_=>cases h
 |_=>cases h
def rM(K:PySem.W.Frag)(m:Mt):V->List V->Hp->VK->Prop:=fun x xs H Qv=>∃ι S d ds Qd,RV K ι H d x/\RVs K ι H ds xs/\RH K ι H S/\W (R.mt S m d ds) Qd/\∀v H',Lf K ι H Qd v H'->Qv v H'
theorem zhe:MtR X "list.append" (rM X.K .append):=by
 intro pins s σ H x xs v us Qv I rx rv ⟨ι,S,d,ds,Qd,r,rs,hh,w,q⟩;unfold R.mt at w;split at w
 case h_1 l y _=>obtain⟨a,h1,rfl⟩:=r;obtain⟨u,rfl,ru⟩:=rs.one;cases e:S.get l with|none=>rw[e]at w;exact w.elim| some o=>rw[e]at w;obtain⟨b,h2,h3⟩:=hh.obj _ _ e;rw[h1]at h2;cases h2;cases o with| lst ds=>obtain⟨zs,ha,r2⟩:=h3;obtain⟨c,S',hp,w2⟩:=zkK w;refine zdR pins s σ H _ _ v us Qv I rx rv ⟨a,zs,u,rfl,rfl,ha,?_,?_⟩;rw[r2.length];rw[length_append,List.length_singleton]at c;omega;exact q _ _ (Lf.wr (d:=.non) hh e h1 hp (r2.append ⟨u,[],rfl,ru,rfl⟩) rfl w2)|_=>exact w.elim
 all_goals first|exact w.elim|(rename_i h;cases h)
theorem znx{id:String}(slot:Slot "list" name id)(hty:typeOf (.builtin id)=pure (.type "method_descriptor"))(hm:MtR X id (rM X.K m))(ho:PE X o (tE X.K cf co))(he:PE X e (tE X.K cf ce))(hst:zah e=true)(hsup:zbt o=true)(hl:(apos.endLine==cpos.line)=true) :
  PE X (.Call (.Attribute o name apos) [e] [] cpos) (tE X.K cf (.mt m co (.cons ce .nil))):=by
 refine PE.imp (zgn PySem.F.plainAttrs_list slot hty hm ho (zc3 he zf6 hst) (zcM hsup name X.env _) (by rw[zag hst];rfl) hl (zag hst [] X.env)) fun σ H Qv ⟨δ,ι,S,Q,hs,hh,w,q⟩=>?_;simp[evE,zaa]at w;refine tE.run hs hh w fun d v ι1 H1 S1 x1 hs1 hh1 r1 w1=>?_;split at w1;rename_i c;refine⟨ziL hh1 r1 c,?_⟩;rw[zaa]at w1;refine tAs.run hs1 hh1 w1 fun ds vs ι2 H2 S2 x2 hs2 hh2 r2 w2=>?_;exact⟨ι2,S2,d,ds,Q,r1.ext x2,r2,hh2,w2,fun z H3 l=>q z H3 (Lf.up (x1.trans x2) l)⟩;exact w1.elim
noncomputable def rIns:V->List V->Hp->VK->Prop:=fun x vs H Q=>∃l xs i y,x=.ref l/\vs=[.int i,y]/\H l=some (.lst xs)/\0<=i/\i<=xs.length/\xs.length+1<=sizeLine/\Q .non (upd H l (.lst (xs.take i.toNat++y::xs.drop i.toNat)))
theorem zgx:MtM X "list.insert" rIns:=by intro pins s σ H x vs v us Q I rx rv h;obtain⟨l,xs,i,y,rfl,rfl,hH,h1,h2,hz,q⟩:=h;cases rx;obtain⟨u1,u2,rfl,r1,r2⟩:=zhs rv;obtain⟨t,rfl⟩:=r1;obtain⟨z,its,n,r,hl,e⟩:=I.lstM hH;rw[sizeLine_eq]at hz;have hf:PySem.Builtin.List.listFitsIndex i=true:=fitsIndex_both (by omega) (by omega);refine call_meets PySem.F.slot_list_insert ⟨_,e,rfl⟩ PySem.F.entry_list_insert (PySem.F.args_list_insert_3 _ _ _) (PySem.AutoSeq1.list_insert_list_int_val_1 l its.toArray n i t u2 (by simp[hf]) (by rw[size_toArray,sizeLine_eq];omega)) ⟨e,?_⟩;refine⟨.non,_,I.lset (its':=its.take i.toNat++u2::its.drop i.toNat) hH e ?_ ((r.take _).append (.cons r2 (r.drop _))) ?_,rfl,q⟩;have hm:min i.toNat its.length=i.toNat:=Nat.min_eq_left (by omega);rw[if_neg (by omega),size_toArray,hm];simp;exact List.take_of_length_le (by rw[List.length_drop];omega);rw[length_append,length_cons,length_take,List.length_drop,sizeLine_eq];omega
noncomputable def rI(K:PySem.W.Frag):V->List V->Hp->VK->Prop:=fun x xs H Qv=>∃ι S d y z Qd v1 v2,xs=[v1,v2]/\RV K ι H d x/\RV K ι H y v1/\RV K ι H z v2/\RH K ι H S/\W (zdV S d y z) Qd/\∀v H',Lf K ι H Qd v H'->Qv v H'
theorem zmw:MtR X "list.insert" (rI X.K):=by
 intro pins s σ H x xs v us Qv I rx rv ⟨ι,S,d,y,z,Qd,v1,v2,ex,r,ry,rz,hh,w,q⟩;subst ex;unfold zdV at w;split at w;rename_i l i;obtain⟨a,h1,rfl⟩:=r;obtain rfl:v1=.int i:=ry;cases e:S.get l with|none=>rw[e]at w;exact w.elim| some o=>rw[e]at w;obtain⟨b,h2,h3⟩:=hh.obj _ _ e;rw[h1]at h2;cases h2;cases o with| lst ds=>obtain⟨zs,ha,r2⟩:=h3;dsimp only at w;split at w;rename_i c0;obtain⟨c,S',hp,w2⟩:=zkK w;have hl:=r2.length;rw[length_append,length_cons,length_take,List.length_drop]at c;refine zgx pins s σ H _ _ v us Qv I rx rv ⟨a,zs,i,v2,rfl,rfl,ha,c0.1,by rw[hl];exact c0.2,by omega,?_⟩;exact q _ _ (Lf.wr (d:=.non) hh e h1 hp ((r2.take _).append ⟨v2,_,rfl,rz,r2.drop _⟩) rfl w2);exact w.elim|_=>exact w.elim
 exact w.elim
theorem zlz(ho:PE X o (tE X.K cf co))(he:PE X e (tE X.K cf ca))(hx:PE X x (tE X.K cf cb))(hst:zah e=true)(hst2:zah x=true)(hsup:zbt o=true)(hl:(apos.endLine==cpos.line)=true) :
  PE X (.Call (.Attribute o "insert" apos) [e,x] [] cpos) (tE X.K cf (.insL co ca cb)):=by
 refine PE.imp (zgn PySem.F.plainAttrs_list PySem.F.slot_list_insert PySem.F.type_list_insert zmw ho (zc3 he (zc3 hx zf6 hst2) hst) (zcM hsup "insert" X.env _) (by rw[zag hst,zag hst2];rfl) hl (zag hst [x] X.env) (by rw[zag hst2];rfl)) fun σ H Qv ⟨δ,ι,S,Q,hs,hh,w,q⟩=>?_;simp[evE,zaa]at w;refine tE.run hs hh w fun d v ι1 H1 S1 x1 hs1 hh1 r1 w1=>?_;split at w1;rename_i c;refine⟨ziL hh1 r1 c,?_⟩;rw[zaa]at w1;have w2:W (evEs cf (.cons ca (.cons cb .nil)) δ S1) fun ds T=>∃y z,ds=[y,z]/\W (zdV T d y z) Q:=by simp only[evEs,zaa];refine w1.mono fun y S2 h2=>?_;rw[zaa]at h2;exact h2.mono fun z S3 h3=>⟨y,z,rfl,h3⟩
 refine tAs.run hs1 hh1 w2 fun ds vs ι2 H2 S2 x2 hs2 hh2 r2 ⟨y,z,ed,w3⟩=>?_;subst ed;obtain⟨v1,v',rfl,ry,r3⟩:=r2;obtain⟨v2,v'',rfl,rz,r4⟩:=r3;cases r4;exact⟨ι2,S2,d,y,z,Q,v1,v2,rfl,r1.ext x2,ry,rz,hh2,w3,fun z H3 l=>q z H3 (Lf.up (x1.trans x2) l)⟩;exact w1.elim
theorem SqK.seq{K:PySem.W.Frag}(h:SqK K ι H S a xs ds lks):SqL K H a xs\/SqT K H a xs:=by cases h with|tmp h e=>exact .inl (SqL.of e)|tup e=>exact .inr (SqT.of e)|fix e=>exact .inl e.sq|own l hl hi hs e=>exact .inl (SqL.of e)
theorem zlj(he:PE X e (tE X.K cf ce)):PE X e (tL X.K cf (.val ce)):=by
 refine PE.imp he fun σ H Qv ⟨δ,ι,S,Q,hs,hh,w,q⟩=>?_;simp[evL,zaa]at w;refine tE.run hs hh w fun d v ι1 H1 S1 x1 hs1 hh1 r1 w1=>?_;obtain⟨ds,eq,w2⟩:=zax w1;refine q v H1 ⟨ds,lkOf S1 d,ι1,S1,x1,?_,hh1,w2⟩;cases d with
 |tup es=>cases eq;obtain⟨a,xs,rfl,ha,rr⟩:=r1;exact⟨a,xs,rfl,rr,.tup ha⟩| fix es=>cases eq;obtain⟨a,xs,rfl,ha,rr⟩:=r1;exact⟨a,xs,rfl,rr,.fix ha⟩| ref l=>simp[zbe]at eq;split at eq;rename_i ds' e;cases eq;obtain⟨a,h1,rfl⟩:=r1;obtain⟨a2,h2,xs,ha,rr⟩:=hh1.obj _ _ e;rw[h1]at h2;cases h2;exact⟨a,xs,rfl,rr,.own l (by simp[lkOf]) h1 e ha⟩;cases eq
 |_=>cases eq
theorem zaN(he:PE X e te)(hst:zah e=true):PA X [e] (zhu te tNil):=zaF he zbC (zag hst [] X.env)
theorem zlt(G:Gd T cf k N sc X)(hg:Gl X "tuple"/\X.mg "tuple"=none)(he:PE X e (tL X.K cf cl))(hst:zah e=true):PE X (.Call (.Name "tuple" p) [e] [] pos) (tE X.K cf (.mkT cl)):=by
 refine PE.imp (zaW zdp hg.1 hg.2 zfq (zaN he hst) (by decide) (by decide) (zag hst [] X.env)) fun σ H Qv ⟨δ,ι,S,Q,hs,hh,w,q⟩=>?_;simp[evE,zaa]at w;refine tL.run hs hh w fun ds lks v ι1 H1 S1 x1 hs1 hh1 sq w1=>?_;split at w1;rename_i c;obtain⟨a,xs,rfl,rr,kd⟩:=sq;have fresh:SqL X.K H1 a xs->∃p ys,[V.ref a]=[V.ref p]/\((SqL X.K H1 p ys/\∀l,H1 l=none->Qv (.ref l) (upd H1 l (.tup ys)))\/(SqT X.K H1 p ys/\Qv (.ref p) H1)):=fun h=>⟨a,xs,rfl,.inl ⟨h,fun l hl=>q _ _ (Lf.up x1 (Lf.tup hh1 hl rr w1))⟩⟩;cases kd with|tmp h e=>exact fresh (SqL.of e)|fix e=>exact fresh e.sq|own l hl hi hs e=>exact fresh (SqL.of e)|tup e=>exact⟨a,xs,rfl,.inr ⟨SqT.of e,q _ _ (Lf.up x1 (Lf.of (d:=.tup ds) hh1 ⟨a,xs,rfl,e,rr⟩ w1))⟩⟩
 exact w1.elim
theorem ziC(G:Gd T cf k N sc X)(hg:Gl X "list"/\X.mg "list"=none)(he:PE X e (tL X.K cf cl))(hst:zah e=true):PE X (.Call (.Name "list" p) [e] [] pos) (tE X.K cf (.mkL cl)):=by refine PE.imp (zaW zd5 hg.1 hg.2 zeD (zaN he hst) (by decide) (by decide) (zag hst [] X.env)) fun σ H Qv ⟨δ,ι,S,Q,hs,hh,w,q⟩=>?_;simp[evE,zaa]at w;refine tL.run hs hh w fun ds lks v ι1 H1 S1 x1 hs1 hh1 sq w1=>?_;obtain⟨c,w2⟩:=zb4 w1;obtain⟨a,xs,rfl,rr,kd⟩:=sq;exact⟨a,xs,rfl,kd.seq,fun l hl=>q _ _ (Lf.up x1 (Lf.lst hh1 hl rr w2))⟩
theorem zgA(h:tE X.K cf (.mkL cl) σ H Qv):tLt X.K cf cl σ H Qv:=by obtain⟨δ,ι,S,Q,hs,hh,w,q⟩:=h;simp[evE,zaa]at w;refine tLt.run hs hh w fun ds p xs ι1 H1 S1 x1 hs1 hh1 r1 hp e hn w1=>?_;obtain⟨c,w2⟩:=zb4 w1;refine q _ _ ⟨.ref S1.len,ι1++[p],S1.push (.lst ds),?_,⟨p,hh1.last p,rfl⟩,hh1.one (l:=0) hp ⟨xs,e,r1.up (prefix_append _ _) (Kp.refl _)⟩,w2⟩;refine⟨x1.pre.trans (prefix_append _ _),x1.kp,fun b o hb eb=>⟨(x1.rest b o hb eb).1,fun z=>?_⟩⟩;rcases mem_append.mp z with z|z;exact(x1.rest b o hb eb).2 z;simp at z;subst z;rw[hn]at eb;cases eb
theorem zil:bootBuiltins "range"=some (.type "range"):=by decide +kernel
theorem zge:zba X (.type "range") (fun xs H Q=>∃j,xs=[.int j]/\∀p,H p=none->Q (.ref p) (upd H p (.rng 0 j))):=by intro pins s σ H xs us Q I r h;obtain⟨j,rfl,q⟩:=h;obtain⟨u,rfl,ru⟩:=r.one;obtain⟨t,rfl⟩:=ru;refine call_range_1 ⟨.ref s.heap.objs.size,_,I.laid (fun b ob e=>Heap.get?_push_of_some _ e) (le_refl _) ?_,rfl,q _ (I.hok.fresh (le_refl _))⟩;exact⟨_,_,_,Heap.get?_push_size _ rfl⟩
theorem zh2(hc:X.calm=true):zba X (.type "list") (fun xs H Q=>∃p hi,xs=[.ref p]/\H p=some (.rng 0 hi)/\-(2^62)<=hi/\hi<2^62/\hi.toNat<=16777216/\∀l,H l=none->Q (.ref l) (upd H l (.lst ((List.range hi.toNat).map fun(j:Nat)=>.int j)))):=by
 intro pins s σ H xs us Q I r h;obtain⟨p,hi,rfl,hp,h1,h2,h3,q⟩:=h;obtain⟨u,rfl,ru⟩:=r.one;cases ru;obtain⟨t,t2,t3,e⟩:=(I.hok p _ hp);have hn:Builtin.Range.rangeSize 0 hi 1=(hi.toNat:Nat):=by rw[rangeSize_one];split<;>omega
 refine call_list_range (I.ok.hd hc) e (small_one (by decide) (by decide) h1 h2) hn h3 fun h' tk acc c kp hg it=>?_;refine⟨.ref s.heap.objs.size,_,I.laid (o:=.lst _) kp (le_refl _) ⟨?_,acc.toList,c,?_,?_⟩,rfl,q _ (I.hok.fresh (le_refl _))⟩;rw[length_map,List.length_range,sizeLine_eq];exact h3;have key:∀(n:Nat)(us:List Value),us.length=n->(∀(j:Nat)(v:Value),us[j]?=some v->∃t,v=Value.int (0+(j:Int)*1) t)->Vals ((List.range n).map fun(j:Nat)=>V.int j) us:=by
  intro n;induction n with
  |zero=>intro us hl _;cases us with
   |nil=>exact .nil|cons _ _=>simp at hl
  |succ n ih=>
   intro us hl hv;have hne:us≠[]:=by intro z;subst z;simp at hl
   have hd:us=us.dropLast++[us.getLast hne]:=(List.dropLast_concat_getLast hne).symm;rw[List.range_succ,List.map_append,hd];have hdl:us.dropLast.length=n:=by simp[hl]
   refine Vals.append (ih _ hdl fun j v e=>hv j v ?_) (.cons ?_ .nil);have hj:j<us.dropLast.length:=(List.getElem?_eq_some_iff.mp e).1;rw[hd,getElem?_append_left hj];exact e;obtain⟨t,e⟩:=hv n (us.getLast hne) (by
    conv=>lhs;rw[hd]
    simp[hdl])
   exact⟨t,by simpa using e⟩
 exact key _ _ (by simpa using it.1) fun j v e=>it.2 j v (by simpa using e);simpa using hg
theorem zjq(G:Gd T cf k N sc X)(hg:Gl X "list"/\X.mg "list"=none)(hr:Gl X "range"/\X.mg "range"=none)(ha:PE X a (tE X.K cf ca))(hst:zah a=true) :
  PE X (.Call (.Name "list" p) [.Call (.Name "range" p2) [a] [] pos'] [] pos) (tE X.K cf (.mkL (.rng1 ca))):=by
 have hin:=zaW (p:=p2) (pos:=pos') zge hr.1 hr.2 zil (zaN ha hst) (by decide) (by decide) (zag hst [] X.env);refine PE.imp (zaW (zh2 G.calm) hg.1 hg.2 zeD (zaN hin rfl) (by decide) (by decide) rfl) fun σ H Qv ⟨δ,ι,S,Q,hs,hh,w,q⟩=>?_;simp[evE,evL,zaa]at w;refine tE.run hs hh w fun d v ι1 H1 S1 x1 hs1 hh1 r1 w1=>?_;cases d with| int j=>obtain rfl:v=.int j:=r1;dsimp only at w1;split at w1;rename_i c;obtain⟨c2,w2⟩:=zb4 w1;refine⟨j,rfl,fun pr hpr=>⟨pr,j,rfl,zai,c.1,c.2,by simpa[sizeLine_eq]using c2,fun l hl=>?_⟩⟩;have hh2:=hh1.new hpr (.rng 0 j);refine q _ _ (Lf.up (x1.trans (Ext.new hpr _)) (Lf.lst hh2 hl ?_ w2));have:=RVs.ints (K:=X.K) (ι:=ι1) (H:=upd H1 pr (.rng 0 j)) ((List.range j.toNat).map fun(m:Nat)=>(m:Int));rw[map_map,map_map]at this;exact this;exact w1.elim|_=>exact w1.elim
theorem zkw{ds:List D}(h:ds.mapM zcV=some bs):ds=bs.map D.bl:=by
 induction ds generalizing bs with
 |nil=>
  have h:bs=[]:=by simpa using h.symm
  subst h;rfl
 |cons d ds ih=>obtain⟨y,r,h1,h2,rfl⟩:=zaL h;cases d<;>simp[zcV]at h1;subst h1;rw[ih h2];rfl
theorem RVs.bls_eq{K:PySem.W.Frag}:∀{bs:List Bool}{vs:List V},RVs K ι H (bs.map D.bl) vs->vs=bs.map V.bl
 | [],_,h=>h| b::bs,vs,h=>by obtain⟨v,r,rfl,h1,h2⟩:=h;rw[RVs.bls_eq h2,show v=.bl b from h1];rfl
theorem zfR{bs:List Bool}(r:Vals (bs.map V.bl) us):us=bs.map Value.bool:=by induction bs generalizing us with|nil=>cases r;rfl| cons b bs ih=>cases r with|cons r1 r2=>rw[ih r2,show _=Value.bool b from r1];rfl
theorem zhi(bs:List Bool):(List.range bs.length).all (fun i=>bs.getD i false)=bs.all id:=by
 rw[Bool.eq_iff_iff,all_eq_true,all_eq_true];constructor;intro h b hb;obtain⟨i,hi,e⟩:=List.getElem_of_mem hb;have:=h i (by simpa using hi);rw[List.getD_eq_getElem?_getD,getElem?_eq_getElem hi,e]at this;exact this;intro h i hi;have hi:i<bs.length:=by simpa using hi
 rw[List.getD_eq_getElem?_getD,getElem?_eq_getElem hi];exact h _ (List.getElem_mem hi)
theorem zkB(hc:X.calm=true):zba X (.builtin "all") (fun xs H Q=>∃(a:Addr) (bs:List Bool),xs=[.ref a]/\(SqL X.K H a (bs.map V.bl)\/SqT X.K H a (bs.map V.bl))/\Q (.bl (bs.all id)) H):=by
 intro pins s σ H xs us Q I r h;obtain⟨a,bs,rfl,hq,q⟩:=h;obtain⟨u,rfl,ru⟩:=r.one;cases ru;have hA1:X.A.in1.handled=none:=I.ok.hd hc;have tr:∀(items:Array Value),items.toList=bs.map Value.bool->TruthOf X.prog X.w X.A.in1 (fun i v=>items[i]?=some v) (fun i=>bs.getD i false):=by
  intro items e i v s' Q' E' hv hQ;have hv':items.toList[i]?=some v:=by rw[Array.getElem?_toList];exact hv
  rw[e,getElem?_map]at hv';cases z:bs[i]? with
  |none=>rw[z]at hv';cases hv'
  |some b=>rw[z]at hv';simp at hv';subst hv';dsimp only at hQ;rw[List.getD_eq_getElem?_getD,z]at hQ;exact wpAny_truthy_bool hQ
 have fin:∀(h':Heap)(tk n:Nat)(s2:Shared)(it:Addr),n=bs.length->s.heap.objs.size=it->Inv X pins σ H s2->s2.os=s.os->(∀b o,b∉[it]->s2.heap.get? b=some o->h'.get? b=some o)->
   EP X pins σ Q (.bool ((List.range n).all fun i=>bs.getD i false)) {s2 with heap:=h',toks:=tk}:=by
  intro h' tk n s2 it hn hit I2 ho kp;subst hn;rw[zhi];have fp:=I.fpOk (b:=it) (H':=H) (by omega) (I.hok.fresh (by omega));obtain⟨f0,f1,f2,f3,f4,f5⟩:=fp;exact⟨.bl _,H,I2.turned (fun b o hb e=>kp b o (by simpa using hb) e) f0 f1 f3 f4 f5,rfl,q⟩
 rcases hq with hq|hq;obtain⟨its,rv,pl,hz⟩:=I.list hq;have hits:=zfR rv;have hlen:=rv.length;refine call_all_walk (wpAny_pyIter_list pl.isList ?_);have hne:a≠s.heap.objs.size:=by obtain⟨o,n,e,_⟩:=pl;exact ne_of_lt (Heap.lt_size e)
 refine⟨s.heap.objs.size,_,_,_,_,_,_,rfl,Walks.list hA1 _ a hne its.toArray,⟨⟨_,Heap.get?_push_size _ rfl,rfl,rfl⟩,pl.isList.push _⟩,tr its.toArray (by simpa using hits),fun h' tk kp=>?_⟩;exact fin h' tk _ _ _ (by simpa using hlen.symm) rfl (I.kept (t':=s.toks) fun b o e=>Heap.get?_push_of_some _ e) rfl kp;obtain⟨its,rv,pl,hz⟩:=I.tuple hq;have hits:=zfR rv;have hlen:=rv.length;refine call_all_walk (wpAny_pyIter_tuple pl ?_);have hne:a≠s.heap.objs.size:=by obtain⟨o,e,_⟩:=pl;exact ne_of_lt (Heap.lt_size e)
 refine⟨s.heap.objs.size,_,_,_,_,_,_,rfl,Walks.tuple hA1 _ a hne its.toArray,⟨⟨_,Heap.get?_push_size _ rfl,rfl,rfl⟩,?_⟩,tr its.toArray (by simpa using hits),fun h' tk kp=>?_⟩;obtain⟨o,e,c⟩:=pl;exact⟨o,Heap.get?_push_of_some _ e,c⟩;exact fin h' tk _ _ _ (by simpa using hlen.symm) rfl (I.kept (t':=s.toks) fun b o e=>Heap.get?_push_of_some _ e) rfl kp
theorem zlD(G:Gd T cf k N sc X)(hg:Gl X "all"/\X.mg "all"=none)(he:PE X e (tL X.K cf cl))(hst:zah e=true):PE X (.Call (.Name "all" p) [e] [] pos) (tE X.K cf (.all cl)):=by
 refine PE.imp (zbg (zkB G.calm) hg.1 hg.2 zmX (zaN he hst) (by decide) (by decide) (zag hst [] X.env)) fun σ H Qv ⟨δ,ι,S,Q,hs,hh,w,q⟩=>?_;simp[evE,zaa]at w;refine tL.run hs hh w fun ds lks v ι1 H1 S1 x1 hs1 hh1 sq w1=>?_;obtain⟨b,hb,w2⟩:=zax w1;unfold allD at hb;cases e:ds.mapM zcV with
 |none=>rw[e]at hb;cases hb
 |some bs=>
  rw[e]at hb;have hb:b=bs.all id:=by simpa using hb.symm
  subst hb;obtain⟨a,xs,rfl,rr,kd⟩:=sq;rw[zkw e]at rr;have:=rr.bls_eq;subst this;exact⟨a,bs,rfl,kd.seq,q _ _ (Lf.up x1 (Lf.of (d:=.bl _) hh1 rfl w2))⟩
end
section
variable{prog:Program}{w:World}{A:Around}{E:Value->Shared->Prop}{s:Shared}
noncomputable abbrev set0(b:Bool):Obj:={cls:=.type "set",dict:=none,data:=.set #[] 0 (.fresh 0 0 b)}
set_option maxHeartbeats 6400000 in
theorem zf2{t:Addr}{its:Array Value}{ms:List Int}{Q:Value->Shared->Prop}(hc:A.handled=none)(ht:IsTup s.heap t its)(hi:IntsAre its.toList ms)(hb:its.size+1<scanBound)
  (fin:∀(g:Heap)(tk:Nat),g.SetOf (intKind prog w) s.heap.objs.size (fun z=>(firstMet (fun i=>ms.getD i 0) its.size).any (·==z)) (firstMet (fun i=>ms.getD i 0) its.size).length->
   (∀b o,b<s.heap.objs.size->s.heap.get? b=some o->g.get? b=some o)->Q (.ref s.heap.objs.size) {s with heap:=g,toks:=tk}):wpAny (model prog w) A (call (.type "set") [.ref t]) Q E s:=by
 obtain⟨mc,mt,hmro⟩:=F.called_set.mro;have c1:=F.called_set.made;have c2:=F.called_set.sub;refine wpAny_call (codeAny_of_tree ?_);show wpAny _ _ (callAny (.type "set") _) _ _ _;refine wpAny_pure ⟨Code.quiet_builtin _ (by decide +kernel),codeAny_builtin F.entry_type_call ?_⟩;rw[Around.under_plain (weight_type_call_type "set" [.ref t] []) rfl];have c3:=F.called_set.notType;have c4:=F.called_set.canCreate;have c5:=F.typeCall_set_1 (.ref t)
 repeat (any_goals (first|assumption|wp_step))
 refine codeAny_mono (code_set_new_1 (.ref t) (E:=E) (Q₁:=fun o z=>∃led:Bool,o=.ref s.heap.objs.size/\z={s with heap:=s.heap.push (set0 led)}) fun led=>⟨led,rfl,rfl⟩) fun r z hr=>?_;cases r with
 |error e=>exact hr| ok fl=>
  cases fl with
  |ret o=>
   obtain⟨led,rfl,rfl⟩:=hr;have g0:(s.heap.push (set0 led)).get? s.heap.objs.size=some (set0 led):=Heap.get?_push_size _ rfl;have g1:Shared.TypeIs {s with heap:=s.heap.push (set0 led)} (.ref s.heap.objs.size) "set":=⟨_,g0,rfl⟩;have c6:=F.called_set.init.lookup;have c7:=F.called_set.init.bind (.ref s.heap.objs.size)
   repeat (any_goals (first|assumption|wp_step))
   refine codeAny_mono (codeAny_call_builtin (R:=wants (fun r z=>r=.none/\∃g tk,z={s with heap:=g,toks:=tk}/\
    g.SetOf (intKind prog w) s.heap.objs.size (fun z=>(firstMet (fun i=>ms.getD i 0) its.size).any (·==z)) (firstMet (fun i=>ms.getD i 0) its.size).length/\
    (∀b o,b<s.heap.objs.size->s.heap.get? b=some o->g.get? b=some o)) E) F.called_set.init.plain F.entry_set_init (check_set_init_1 g1 ?_)) fun r2 z2 hr2=>?_
   . obtain⟨⟨oc,od,oda,osl⟩,ho,hcl,nl,hda⟩:=id ht;simp only at hcl hda;subst hcl hda;have ho':(s.heap.push (set0 led)).get? t=some {cls:=.type "tuple",dict:=od,data:=.seq its nl,slots:=osl}:=Heap.get?_push_of_some _ ho;have d1:=F.sub_tuple_set;have d2:=F.sub_tuple_frozenset;have d3:(Value.type "tuple" == Value.type "dict")=false:=by decide
     have ht1:(s.heap.push (set0 led)).IsTuple t its:=⟨_,ho',rfl,nl,rfl⟩;unfold Builtin.«set.__init__» noKeywords Builtin.Frozenset.updateFrom;generalize hPI:pyIter=PI
     wp_walk
     subst hPI;refine wpAny_pyIter_tuple ht1 ?_;refine wpAny_bind (wpAny_runValue ?_);have tl:t<s.heap.objs.size:=Heap.lt_size ho;have tn:t≠(s.heap.push (set0 led)).objs.size:=by rw[Heap.size_push];exact ne_of_lt (Nat.lt_succ_of_lt tl)
     have sn:s.heap.objs.size∉[(s.heap.push (set0 led)).objs.size,t]:=by rw[Heap.size_push];simp only[mem_cons,not_mem_nil,or_false,not_or];exact⟨ne_of_lt (lt_succ_self _),ne_of_gt tl⟩
     refine codeAny_set_update_loopS ((Walks.tuple (by simp[hc]) _ t tn its).toS) s.heap.objs.size sn (fun i=>ms.getD i 0) (fun i v hv=>IntsAre.int_at hi i v (by rw[Array.getElem?_toList];exact hv)) hb (its.size-0) 0 _ (by omega) (zero_le _)
      ⟨⟨_,Heap.get?_push_size _ rfl,rfl,rfl⟩,⟨_,Heap.get?_push_of_some _ ho',rfl,nl,rfl⟩⟩ ?start ?last
     case start=>exact SetOf_congr ((setObjOf_fresh (knd:=intKind prog w) led).setOf (Heap.get?_push_of_some _ g0) (by unfold scanBound;omega)) (fun _=>rfl) rfl
     case last=>rintro⟨g,gg,dd,tk,oo⟩ mv hS;obtain rfl:gg=s.gens:=mv.gens;obtain rfl:dd=s.drawn:=mv.drawn;obtain rfl:oo=s.os:=mv.os;show wpAny _ _ _ _ _ _;refine wpAny_pure ?_;show wpAny _ _ (ret Value.none) _ _ _;refine wpAny_pure ⟨rfl,g,tk,rfl,hS,fun b o hb e=>mv.heap b o ?_ (Heap.get?_push_of_some _ (Heap.get?_push_of_some _ e))⟩;rw[Heap.size_push];simp only[mem_cons,not_mem_nil,or_false,not_or];exact⟨ne_of_lt hb,ne_of_lt (Nat.lt_succ_of_lt hb)⟩
   cases r2 with
   |error e=>exact hr2| ok f2=>
    cases f2 with
    |ret r=>
     obtain⟨rfl,g,tk,rfl,hS,hk⟩:=hr2
     repeat (any_goals (first|assumption|wp_step))
     exact fin _ _ hS hk
    |_=>exact hr2.elim
  |_=>exact hr.elim
end
section
variable{T:Tab}{cf:CF}{k:Nat}{N:List Str}{sc:Scope}{X:Cx}{pos p p2 pos':Pos}
theorem zcy(ns:List Int):R.dedup ns=firstMet (fun i=>ns.getD i 0) ns.length:=by
 unfold R.dedup firstMet;have e:(List.range ns.length).map (fun i=>ns.getD i 0)=ns:=by apply List.ext_getElem?;intro i;by_cases h:i<ns.length;simp[h];simp[h]
 rw[e];unfold step_dedup;simp
theorem zhz(hc:X.calm=true):zba X (.type "set") (fun xs H Q=>∃(a:Addr) (ns:List Int),xs=[.ref a]/\(SqL X.K H a (ns.map V.int)\/SqT X.K H a (ns.map V.int))/\ns.length<4000/\∀p,H p=none->∀S,Q (.ref p) (upd H p (.set S (R.dedup ns).length))):=by
 intro pins s σ H xs us Q I r h;obtain⟨a,ns,rfl,hq,hz,q⟩:=h;obtain⟨u,rfl,ru⟩:=r.one;cases ru;have fresh:=I.hok.fresh (le_refl s.heap.objs.size);have lay:∀(g:Heap)(tk n:Nat)(F:Int->Bool),n=(R.dedup ns).length->g.SetOf (intKind X.prog X.w) s.heap.objs.size F n->(∀b o,b<s.heap.objs.size->s.heap.get? b=some o->g.get? b=some o)->EP X pins σ Q (.ref s.heap.objs.size) {s with heap:=g,toks:=tk}:=by intro g tk n F hn hS kp;subst hn;exact⟨.ref s.heap.objs.size,_,I.laid (o:=.set F _) (fun b o e=>kp b o (Heap.lt_size e) e) (le_refl _) hS,rfl,q _ fresh F⟩
 have hA:X.A.handled=none:=I.ok.hd hc;rcases hq with hq|hq;obtain⟨its,rv,pl,hz2⟩:=I.list hq;have hl:its.toArray.size=ns.length:=by rw[size_toArray,<-rv.length,length_map]
 refine call_set_list hA pl.isList (zcS rv) (by rw[hl];unfold scanBound;omega) fun g tk hS kp=>lay g tk _ _ ?_ hS kp;rw[zcy,hl];obtain⟨its,rv,pl,hz2⟩:=I.tuple hq;have hl:its.toArray.size=ns.length:=by rw[size_toArray,<-rv.length,length_map]
 refine zf2 hA pl (zcS rv) (by rw[hl];unfold scanBound;omega) fun g tk hS kp=>lay g tk _ _ ?_ hS kp;rw[zcy,hl]
theorem zkc:zba X (.builtin "len") (fun xs H Q=>∃p S n,xs=[.ref p]/\H p=some (.set S n)/\n<4096/\Q (.int n) H):=by intro pins s σ H xs us Q I r h;obtain⟨p,S,n,rfl,hp,hn,q⟩:=h;obtain⟨u,rfl,ru⟩:=r.one;cases ru;obtain⟨o,es,ep,tb,e1,e2,e3,_,_,_,e4,e5⟩:=(I.hok p _ hp);subst e5;exact call_len_set e1 e2 e3 e4 (by omega) ⟨.int _,H,I.tok _,⟨_,rfl⟩,q⟩
theorem zg0(ns:List Int):(R.dedup ns).length<=ns.length:=by rw[zcy];exact firstMet_length_le _ _
theorem zf3(G:Gd T cf k N sc X)(hg:Gl X "len"/\X.mg "len"=none)(hr:Gl X "set"/\X.mg "set"=none)(he:PE X e (tL X.K cf cl))(hst:zah e=true) :
  PE X (.Call (.Name "len" p) [.Call (.Name "set" p2) [e] [] pos'] [] pos) (tE X.K cf (.lenset cl)):=by
 have hin:=zaW (p:=p2) (pos:=pos') (zhz G.calm) hr.1 hr.2 zmW (zaN he hst) (by decide) (by decide) (zag hst [] X.env);refine PE.imp (zbg zkc hg.1 hg.2 zhd (zaN hin rfl) (by decide) (by decide) rfl) fun σ H Qv ⟨δ,ι,S,Q,hs,hh,w,q⟩=>?_;simp[evE,zaa]at w;refine tL.run hs hh w fun ds lks v ι1 H1 S1 x1 hs1 hh1 sq w1=>?_;obtain⟨ns,hb,w2⟩:=zax w1;split at w2;rename_i c;obtain⟨a,xs,rfl,rr,kd⟩:=sq;have hb:zcR ds=some ns:=hb;rw[zh7 hb]at rr;have:=rr.ints_eq;subst this;have hd:=zg0 ns;refine⟨a,ns,rfl,kd.seq,c,fun pr hpr F=>⟨pr,F,_,rfl,zai,by omega,?_⟩⟩;exact q _ _ (Lf.up (x1.trans (Ext.new hpr _)) (Lf.of (d:=.int _) (hh1.new hpr _) rfl w2));exact w2.elim
end
structure Ltr(K:PySem.W.Frag)(ι:List Addr)(H:Hp)(S:R.St)(lks:List Nat)(ι2:List Addr)(H2:Hp)(S2:R.St):Prop where
 ext:Ext ι H ι2 H2
 rh:RH K ι2 H2 S2
 lck:∀l∈lks,S2.get l=S.get l
structure Wk(K:PySem.W.Frag)(J:It)(ds:List D)(lks:List Nat)(ι:List Addr)(H:Hp)(S:R.St):Prop where
 go:∀(i:Nat)(ι2:List Addr)(H2:Hp)(S2:R.St),Ltr K ι H S lks ι2 H2 S2->i<ds.length->J.go i H2
 yld:∀(i:Nat)(ι2:List Addr)(H2:Hp)(S2:R.St)(x:V)(H':Hp),Ltr K ι H S lks ι2 H2 S2->i<ds.length->J.yld i H2 x H'->Ext ι2 H2 ι2 H'/\RH K ι2 H' S2/\∃d,ds[i]?=some d/\RV K ι2 H' d x
 stop:∀(i:Nat)(ι2:List Addr)(H2:Hp)(S2:R.St),Ltr K ι H S lks ι2 H2 S2->ds.length<=i->J.stop i H2
 lks:∀l∈lks,l<S.len
def LfI(K:PySem.W.Frag)(ι:List Addr)(H:Hp)(Q:List D×List Nat->R.St->Prop)(J:It)(H':Hp):Prop:=∃ds lks ι' S',Ext ι H ι' H'/\RH K ι' H' S'/\Q (ds,lks) S'/\Wk K J ds lks ι' H' S'
def tI(K:PySem.W.Frag)(cf:CF)(cl:CL):TI:=fun σ H R=>∃δ ι S Q,RS K ι H δ σ/\RH K ι H S/\W (evL cf cl δ S) Q/\∀J H',LfI K ι H Q J H'->R J H'
theorem PI.imp(h:PI X tg e t)(i:∀σ H Q,t' σ H Q->t σ H Q):PI X tg e t':=fun pins s σ H Q I q=>h pins s σ H Q I (i σ H Q q)
def iSeq(K:PySem.W.Frag)(tl:TE):TI:=fun σ H R=>tl σ H fun x H1=>∃a,x=.ref a/\(((∃xs,SqL K H1 a xs)/\R (Itl K a) H1)\/((∃xs,SqT K H1 a xs)/\R (Itt K a) H1))
section
variable{T:Tab}{cf:CF}{k:Nat}{N:List Str}{sc:Scope}{X:Cx}{pos p:Pos}{tg:Expr}
theorem zlY(hl:PE X l tl):PI X tg l (iSeq X.K tl):=by
 intro pins s σ H R I h;refine thn (hl pins s σ H _ I h) fun v s1 ⟨x,H1,I1,r1,q1⟩=>?_;obtain⟨a,rfl,q1⟩:=q1;cases r1;rcases q1 with⟨⟨xs,hq⟩,q⟩|⟨⟨xs,hq⟩,q⟩;obtain⟨its,rv,pl,hz⟩:=I1.list hq;apply wpAny_pyIter_list pl.isList;refine⟨s1.heap.objs.size,[s1.heap.objs.size],_,_,H1,rfl,I1.kept (t':=s1.toks) fun b o e=>Heap.get?_push_of_some _ e,zfW a _,⟨_,Heap.get?_push_size _ rfl,rfl,rfl⟩,fun b hb=>?_,q⟩;have e:b=s1.heap.objs.size:=by simpa using hb
 subst e;exact I1.fpOk (le_refl _) (I1.hok.fresh (le_refl _));obtain⟨its,rv,pl,hz⟩:=I1.tuple hq;apply wpAny_pyIter_tuple pl;refine⟨s1.heap.objs.size,[s1.heap.objs.size],_,_,H1,rfl,I1.kept (t':=s1.toks) fun b o e=>Heap.get?_push_of_some _ e,zfu a _,⟨_,Heap.get?_push_size _ rfl,rfl,rfl⟩,fun b hb=>?_,q⟩;have e:b=s1.heap.objs.size:=by simpa using hb
 subst e;exact I1.fpOk (le_refl _) (I1.hok.fresh (le_refl _))
theorem zef{K:PySem.W.Frag}(hl:∀l∈lks,l<S.len)
  (h:∀ι2 H2 S2,Ltr K ι H S lks ι2 H2 S2->∃xs,SqL K H2 a xs/\RVs K ι2 H2 ds xs/\∀ys,SqL K H2 a ys->True):Wk K (Itl K a) ds lks ι H S where
 go:=fun i ι2 H2 S2 lt hi=>by obtain⟨xs,hq,rr,_⟩:=h ι2 H2 S2 lt;exact⟨xs,xs[i]'(by rw[rr.length];exact hi),hq,getElem?_eq_getElem _⟩
 yld:=fun i ι2 H2 S2 x H' lt hi y=>by obtain⟨xs,hq,rr,_⟩:=h ι2 H2 S2 lt;obtain⟨rfl,y⟩:=y;obtain⟨d,e,r⟩:=rr.get' (y xs hq);exact⟨Ext.refl _ _,lt.rh,d,e,r⟩
 stop:=fun i ι2 H2 S2 lt hi=>by obtain⟨xs,hq,rr,_⟩:=h ι2 H2 S2 lt;exact⟨xs,hq,by rw[rr.length];exact hi⟩
 lks:=hl
theorem zkL{K:PySem.W.Frag}(hl:∀l∈lks,l<S.len)(e:H a=some (.tup xs))(rr:RVs K ι H ds xs):Wk K (Itt K a) ds lks ι H S where
 go:=fun i ι2 H2 S2 lt hi=>⟨xs,xs[i]'(by rw[rr.length];exact hi),SqT.of (lt.ext.kp.tups _ _ e),getElem?_eq_getElem _⟩
 yld:=fun i ι2 H2 S2 x H' lt hi y=>by obtain⟨rfl,y⟩:=y;obtain⟨d,e,r⟩:=(rr.ext lt.ext).get' (y xs (SqT.of (lt.ext.kp.tups _ _ e)));exact⟨Ext.refl _ _,lt.rh,d,e,r⟩
 stop:=fun i ι2 H2 S2 lt hi=>⟨xs,SqT.of (lt.ext.kp.tups _ _ e),by rw[rr.length];exact hi⟩
 lks:=hl
theorem ziz(he:PE X e (tL X.K cf cl))(hlk:∀{δ:Ev}{S:R.St}{Q:List D×List Nat->R.St->Prop},W (evL cf cl δ S) Q->W (evL cf cl δ S) fun r S'=>(∀l∈r.2,l<S'.len)/\Q r S'):PI X tg e (tI X.K cf cl):=by refine PI.imp (zlY he) fun σ H R ⟨δ,ι,S,Q,hs,hh,w,q⟩=>?_;refine tL.run hs hh (hlk w) fun ds lks v ι1 H1 S1 x1 hs1 hh1 sq w1=>?_;obtain⟨hl,w1⟩:=w1;obtain⟨a,xs,rfl,rr,kd⟩:=sq;refine⟨a,rfl,?_⟩;cases kd with|tmp h e=>exact .inl ⟨⟨xs,SqL.of e⟩,q _ _ ⟨ds,lks,ι1,S1,x1,hh1,w1,zef hl fun ι2 H2 S2 lt=>⟨xs,SqL.of (lt.ext.keep h e (by simp)),rr.ext lt.ext,fun _ _=>trivial⟩⟩⟩|fix e=>exact .inl ⟨⟨xs,e.sq⟩,q _ _ ⟨ds,lks,ι1,S1,x1,hh1,w1,zef hl fun ι2 H2 S2 lt=>⟨xs,(e.kp lt.ext.kp).sq,rr.ext lt.ext,fun _ _=>trivial⟩⟩⟩|tup e=>exact .inr ⟨⟨xs,SqT.of e⟩,q _ _ ⟨ds,lks,ι1,S1,x1,hh1,w1,zkL hl e rr⟩⟩| own l hm hi hg e=>refine .inl ⟨⟨xs,SqL.of e⟩,q _ _ ⟨ds,lks,ι1,S1,x1,hh1,w1,zef hl fun ι2 H2 S2 lt=>?_⟩⟩;obtain⟨b,h2,zs,hz,rz⟩:=lt.rh.obj l (.lst ds) ((lt.lck l hm).trans hg);rw[zb0 lt.ext.pre hi]at h2;cases h2;exact⟨zs,SqL.of hz,rz,fun _ _=>trivial⟩
theorem zml(h:W (evL cf (.val ce) δ S) Q):W (evL cf (.val ce) δ S) fun r S'=>(∀l∈r.2,l<S'.len)/\Q r S':=by
 simp[evL,zaa]at h⊢;refine h.mono fun x S1 h1=>?_;obtain⟨ds,e,h2⟩:=zax h1;rw[e];refine⟨fun l hl=>?_,h2⟩;cases x with
 |ref l'=>simp[lkOf]at hl;subst hl;simp[zbe]at e;split at e;rename_i e2;exact zb5 e2;cases e
 |_=>simp[lkOf]at hl
theorem zkb(h:W (evL cf (.comp n js g it c e) δ S) Q):W (evL cf (.comp n js g it c e) δ S) fun r S'=>(∀l∈r.2,l<S'.len)/\Q r S':=by simp[evL,zaa]at h⊢;refine h.mono fun ds S1 h1=>h1.mono fun r S2 h2=>?_;split at h2;rename_i c;rw[if_pos c];exact⟨fun l hl=>by simp at hl,h2⟩;exact h2.elim
theorem zhm{K:PySem.W.Frag}(lo:Int)(n:Nat):Wk K (Itr lo n) ((List.range n).map fun(j:Nat)=>D.int (lo+j)) [] ι H S where
 go:=fun i ι2 H2 S2 lt hi=>by show i<n;simpa using hi
 yld:=fun i ι2 H2 S2 x H' lt hi y=>by
  obtain⟨rfl,rfl⟩:=y;have hi:i<n:=by simpa using hi
  exact⟨Ext.refl _ _,lt.rh,.int (lo+i),by simp[hi],rfl⟩
 stop:=fun i ι2 H2 S2 lt hi=>by show n<=i;simpa using hi
 lks:=fun l hl=>by simp at hl
theorem zjk(hg:Gl X "range"/\X.mg "range"=none)(ha:PE X a (tE X.K cf ca))(hst:zah a=true):PI X tg (.Call (.Name "range" p) [a] [] pos) (tI X.K cf (.rng1 ca)):=by
 refine PI.imp (zgj hg.1 hg.2 (zaN ha hst) (zag hst [] X.env)) fun σ H R ⟨δ,ι,S,Q,hs,hh,w,q⟩=>?_;simp[evL,zaa]at w;refine tE.run hs hh w fun d v ι1 H1 S1 x1 hs1 hh1 r1 w1=>?_;cases d with
 |int j=>
  obtain rfl:v=.int j:=r1;dsimp only at w1;split at w1;rename_i c;have e:((List.range j.toNat).map fun(k:Nat)=>D.int k)=(List.range j.toNat).map fun(k:Nat)=>D.int (0+k):=by simp
  rw[e]at w1;exact⟨j,rfl,c.1,c.2,q _ _ ⟨_,[],ι1,S1,x1,hh1,w1,zhm 0 j.toNat⟩⟩;exact w1.elim
 |_=>exact w1.elim
def tG(K:PySem.W.Frag)(is:List Nat):TG:=fun v σ H Qv=>∃δ ι d δ',RS K ι H δ σ/\RV K ι H d v/\asgG is d δ=some δ'/\∀σ',RS K ι H δ' σ'->Qv σ' H
def tGs(K:PySem.W.Frag)(is:List Nat):TGs:=fun vs σ H Qv=>∃δ ι ds,RS K ι H δ σ/\RVs K ι H ds vs/\ds.length=is.length/\∀σ',RS K ι H (zcW is ds δ) σ'->Qv σ' H
theorem PG.imp(h:PG X tg t)(i:∀v σ H Q,t' v σ H Q->t v σ H Q):PG X tg t':=fun pins s σ H v u Q I r q=>h pins s σ H v u Q I r (i v σ H Q q)
theorem PGs.imp(h:PGs X es t)(i:∀v σ H Q,t' v σ H Q->t v σ H Q):PGs X es t':=fun pins s σ H v u Q I r q=>h pins s σ H v u Q I r (i v σ H Q q)
theorem zjl(G:Gd T cf k N sc X)(hi:N[i]?=some x)(hl:zbR sc x=true):PG X (.Name x pos) (tG X.K [i]):=by refine PG.imp (zgk (by rw[G.nm];exact G.nd) (by rw[G.nm];exact hi) (G.lc hl).1 (G.lc hl).2) fun v σ H Qv ⟨δ,ι,d,δ',hs,r,e,q⟩=>?_;cases e;exact q _ (hs.set r i)
noncomputable def zbD(sc:Scope)(N:List Str):List Nat->List Expr->Bool
 | [],[]=>true|i::is,.Name x _::es=>(N[i]?==some x)&&zbR sc x&&zbD sc N is es|_,_=>false
theorem zdA(G:Gd T cf k N sc X):∀{is:List Nat}{es:List Expr},zbD sc N is es=true->PGs X es (tGs X.K is)/\(assignEach es X.env).length=is.length/\(assignEach es X.env).findIdx? (·.1)=none
 | [],[],_=>⟨PGs.imp zjW fun v σ H Qv ⟨δ,ι,ds,hs,r,hl,q⟩=>by
  have:ds=[]:=by simpa using hl
  subst this;exact⟨r,q σ (by simpa[zcW]using hs)⟩,rfl,rfl⟩
 | [],_::_,h=>by simp[zbD]at h|_::_,[],h=>by simp[zbD]at h| i::is,e::es,h=>by
  cases e with
  |Name x pos=>
   simp[zbD,and_eq_true,beq_iff_eq]at h;obtain⟨h1,h2,h3⟩:=zdA G h.2;refine⟨PGs.imp (zhN (zgk (by rw[G.nm];exact G.nd) (by rw[G.nm];exact h.1.1) (G.lc h.1.2).1 (G.lc h.1.2).2) h1) fun v σ H Qv ⟨δ,ι,ds,hs,r,hl,q⟩=>?_,?_,?_⟩;cases ds with|nil=>simp at hl| cons d ds=>obtain⟨v1,vr,rfl,r1,r2⟩:=r;refine⟨v1,vr,rfl,?_⟩;exact⟨δ.set i (some d),ι,ds,hs.set r1 i,r2,by simpa using hl,fun σ' hs'=>q σ' (by simpa[zcW]using hs')⟩
   show((false,_)::assignEach es X.env).length=_;simp[h2];show((false,_)::assignEach es X.env).findIdx? _=_;simp[List.findIdx?_cons,h3]
  |_=>simp[zbD]at h
theorem zim(h2:2<=is.length)(e:asgG is d δ=some δ'):∃ds,d=.tup ds/\ds.length=is.length/\δ'=zcW is ds δ:=by
 match is,h2 with
 |a::b::t,_=>
  cases d with
  |tup ds=>simp only[asgG]at e;split at e;rename_i c;cases e;exact⟨ds,rfl,c,rfl⟩;cases e
  |_=>cases e
theorem ziA(G:Gd T cf k N sc X)(h:zbD sc N is es=true)(h2:2<=is.length):PG X (.Tuple es j pos) (tG X.K is):=by obtain⟨h1,hn,hst⟩:=zdA G h;refine PG.imp (zl0 G.calm h1 hn hst) fun v σ H Qv ⟨δ,ι,d,δ',hs,r,e,q⟩=>?_;obtain⟨ds,rfl,c,rfl⟩:=zim h2 e;obtain⟨a,xs,rfl,ha,rr⟩:=r;exact⟨a,xs,rfl,SqT.of ha,by rw[rr.length];exact c,δ,ι,ds,hs,rr,c,q⟩
theorem Ext.tmp{p:Addr}(x:Ext ι H ι' H')(hn:H p=none)(e:H' p=some (.lst vs)):Ext ι H ι' (upd H' p (.lst us)):=by refine⟨x.pre,x.kp.trans (.same (Tups.upd_lst e) (fun b o u h=>?_) fun b ps h=>?_),fun b o hb eb=>?_⟩;rw[zaf];exact h;rintro rfl;rw[e]at h;cases h;rw[zaf];exact h;rintro rfl;rw[e]at h;cases h;obtain⟨h1,h2⟩:=x.rest b o hb eb;refine⟨?_,h2⟩;rw[zaf];exact h1;rintro rfl;rw[hn]at eb;cases eb
theorem Kp.tmp{p:Addr}(e:H p=some (.lst vs)):Kp H (upd H p (.lst us)):=.same (Tups.upd_lst e) (fun b o u h=>by
 rw[zaf];exact h;rintro rfl;rw[e]at h;cases h) fun b ps h=>by
 rw[zaf];exact h;rintro rfl;rw[e]at h;cases h
theorem RH.tmp{K:PySem.W.Frag}{p:Addr}(hh:RH K ι H S)(hp:p∉ι)(e:H p=some (.lst vs)):RH K ι (upd H p (.lst us)) S:=⟨hh.len,hh.nd,fun l o q=>by obtain⟨a,h1,h2,hm⟩:=hh.mem q;exact⟨a,h1,h2.up (prefix_refl _) (Kp.tmp e) (zaf fun z=>hp (z▸hm))⟩,(Kp.tmp e).tab hh.tab⟩
theorem RS.up{K:PySem.W.Frag}(h:RS K ι H δ σ)(hp:ι <+: ι')(hk:Kp H H'):RS K ι' H' δ σ:=⟨h.1,fun i d e=>let ⟨v,e1,r⟩:=h.2 i d e;⟨v,e1,r.up hp hk⟩⟩
theorem RH.lk{K:PySem.W.Frag}(hh:RH K ι H S)(ks:List Nat):RH K ι H {S with lk:=ks}:=⟨hh.len,hh.nd,fun l o e=>hh.obj l o e,hh.tab⟩
theorem RS.csl{K:PySem.W.Frag}(h:RS K ι H δ σ)(nt:Nat)(js:List Nat):RS K ι H (R.csl nt js δ) (L2.csl nt js σ):=by
 refine⟨by simp[R.csl,L2.csl],fun i d e=>?_⟩;unfold R.csl at e;unfold L2.csl;by_cases hi:i<nt;rw[getElem?_append_left (by simpa using hi),List.getElem?_replicate]at e;rw[if_pos hi]at e;cases e;rw[getElem?_append_right (by simpa using hi)]at e⊢;simp only[length_replicate,getElem?_map]at e⊢;cases ej:js[i-nt]? with
 |none=>rw[ej]at e;cases e
 |some j=>
  rw[ej]at e;simp at e⊢;have e2:δ[j]?=some (some d):=by
   cases z:δ[j]? with
   |none=>rw[z]at e;cases e
   |some o=>rw[z]at e;simp at e;rw[e]
  obtain⟨v,ev,r⟩:=h.2 j d e2;exact⟨v,by rw[ev];rfl,r⟩
theorem zcx{α:Type}{xs:List α}{x:α}(h:xs[i]?=some x):xs.drop i=x::xs.drop (i+1):=by obtain⟨h1,h2⟩:=List.getElem?_eq_some_iff.mp h;rw[List.drop_eq_getElem_cons h1,h2]
def CInv(K:PySem.W.Frag)(cf:CF)(g:List Nat)(c e:CE)(Q:List D×List Nat->R.St->Prop)(ds:List D)(lks:List Nat)(ι1:List Addr)(H1:Hp)(S1:R.St)(p:Addr)(i:Nat)(σ':L2.St)(H':Hp):Prop:=
 i<=ds.length/\∃δ' ι' S' acc vs,RS K ι' H' δ' σ'/\Ltr K ι1 H1 S1 lks ι' H' S'/\S'.lk=lks++S1.lk/\S1.len<=S'.len/\p∉ι'/\H' p=some (.lst vs)/\RVs K ι' H' acc vs/\
  W (za4 g (evT cf c) (evE cf e) (ds.drop i) δ' S') fun rest S2=>(acc++rest).length<=16777216/\Q (acc++rest,[]) {S2 with lk:=S1.lk}
theorem zfl(hcf:CFok cf)(h:tLt X.K cf (.comp nt js is it c e) σ H Qv):zeg nt js (tI X.K cf it) (tG X.K is) (tT X.K cf c) (tE X.K cf e) σ H Qv:=by
 obtain⟨δ,ι,S,Q,hs,hh,w,q⟩:=h;simp[evL,zaa]at w;refine⟨δ,ι,S,_,hs,hh,w,fun J H1 ⟨ds,lks,ι1,S1,x1,hh1,w1,wk⟩=>?_⟩;dsimp only at w1;unfold zaY at w1;rw[zaa]at w1;intro p hp;have hpi:=hh1.fresh hp;refine⟨fun i m σ' H'=>m=ds.length-i/\CInv X.K cf is c e Q ds lks ι1 H1 S1 p i σ' H',⟨_,rfl,zero_le _,R.csl nt js δ,ι1,{S1 with lk:=lks++S1.lk},[],[],((hs.ext x1).csl _ _).up (prefix_refl _) (Kp.new hp _),⟨Ext.new hp _,(hh1.lk _).new hp _,fun l _=>rfl⟩,rfl,le_refl _,hpi,zai,rfl,?_⟩,?_⟩;refine w1.mono fun rest S2 w2=>?_;simp at w2;split at w2;rename_i c;exact⟨by simpa using c,by simpa using w2⟩;exact w2.elim;rintro i m σ' H' ⟨rfl,hle,δ',ι',S',acc,vs,hs',lt,hlk,hln,hpn,hpv,ra,wt⟩;rcases Nat.lt_or_eq_of_le hle with hlt|rfl;refine .inr ⟨wk.go i ι' H' S' lt hlt,CInv X.K cf is c e Q ds lks ι1 H1 S1 p (i+1),fun σ2 H2 h=>⟨_,by omega,rfl,h⟩,fun x H2 hy=>?_⟩;obtain⟨x2,hh2,d,hd,rd⟩:=wk.yld i ι' H' S' x H2 lt hlt hy;have hs2:=hs'.ext x2;have hp2:=x2.keep hpn hpv (by simp);rw[zcx hd]at wt;simp only[za4]at wt;cases ea:asgG is d δ' with
 |none=>rw[ea]at wt;exact wt.elim| some δ2=>
  rw[ea]at wt;rw[zaa]at wt;refine⟨δ',ι',d,δ2,hs2,rd,ea,fun σ2 hs3=>?_⟩;refine tT.run hs3 hh2 (zcK hcf c δ2 S' _ wt) fun b ι3 H3 S3 x3 hs4 hh3 w3=>?_;obtain⟨w3,f3⟩:=w3;have hp3:=x3.keep hpn hp2 (by simp);have hpn3:=(x3.rest p _ hpn hp2).2;have keep:∀{S4:R.St},Frm S' S4->S4.lk=lks++S1.lk/\S1.len<=S4.len/\∀l∈lks,S4.get l=S1.get l:=fun f=>⟨f.lk.trans hlk,le_trans hln f.lens,fun l hl=>(f.same l (by rw[hlk];exact mem_append_left _ hl) (lt_of_lt_of_le (wk.lks l hl) hln)).trans (lt.lck l hl)⟩;cases b with
  |false=>obtain⟨k1,k2,k3⟩:=keep f3;exact⟨hlt,δ2,ι3,S3,acc,vs,hs4,⟨(lt.ext.trans x2).trans x3,hh3,k3⟩,k1,k2,hpn3,hp3,(ra.ext x2).ext x3,w3⟩| true=>
   simp only[if_true]at w3⊢;rw[zaa]at w3;refine tE.run hs4 hh3 (zal hcf e δ2 S3 _ w3) fun z v ι4 H4 S4 x4 hs5 hh4 rz w4=>?_;obtain⟨w4,f4⟩:=w4;obtain⟨k1,k2,k3⟩:=keep (f3.trans f4);have hp4:=x4.keep hpn3 hp3 (by simp);have hpn4:=(x4.rest p _ hpn3 hp3).2;rw[zaa]at w4;have ra4:=((ra.ext x2).ext x3).ext x4;have hlen:acc.length<16777216:=by obtain⟨rest,S5,_,w5⟩:=zfN w4;have:=w5.1;simp at this;omega
   refine⟨vs,hp4,by rw[ra4.length,sizeLine_eq];exact hlen,hlt,δ2,ι4,S4,acc++[z],vs++[v],hs5.up (prefix_refl _) (Kp.tmp hp4),⟨(((lt.ext.trans x2).trans x3).trans x4).tmp hp hp4,hh4.tmp hpn4 hp4,k3⟩,k1,k2,hpn4,zai,?_,?_⟩;exact(RVs.append (es:=[z]) ra4 ⟨v,[],rfl,rz,rfl⟩).up (prefix_refl _) (Kp.tmp hp4);refine w4.mono fun rest S5 w5=>?_;simpa using w5
 refine .inl ⟨wk.stop _ ι' H' S' lt (le_refl _),?_⟩;rw[List.drop_length]at wt;simp[za4,W_ok,append_nil]at wt;exact q _ _ ⟨acc,ι',{S' with lk:=S1.lk},p,vs,x1.trans lt.ext,rfl,ra,hpn,hpv,lt.rh.lk _,zed hh1 x1 hp,wt.2⟩
end
end R
namespace L2
open PySem PySem.Spec PyProof.Rows PySem.Builtin.Str
variable{X:Cx}
theorem znU:MtR X "str.startswith" (fun x xs H Q=>∃z y,x=.str z/\xs=[.str y]/\Q (.bl (decide (0+y.length<=z.length)&&subAt z y 0)) H):=by intro pins s σ H x xs v us Q I rx rv h;obtain⟨z,y,rfl,rfl,q⟩:=h;obtain⟨t,rfl⟩:=rx;obtain⟨u,rfl,t',rfl⟩:=zcH rv;exact call_gives PySem.F.slot_str_startswith (typeIs_str s z t) PySem.F.entry_str_startswith (PySem.F.args_str_startswith_2 _ _) (gives_str_startswith z y t t') ⟨.bl (decide (0+y.length<=z.length)&&subAt z y 0),H,I,rfl,q⟩
theorem zfB:OpR X (binaryOp .Mult) (fun x y H Q=>∃z n,x=.str z/\y=.int n/\MulOk z n/\Q (.str (Txt.mul z n)) H):=by intro pins s σ H x y v u Q I rx ry h;obtain⟨z,n,rfl,rfl,hz,q⟩:=h;obtain⟨t,rfl⟩:=rx;obtain⟨t',rfl⟩:=ry;exact SB.mul hz fun t' tk=>⟨.str _,H,I.tok _,⟨_,rfl⟩,q⟩
theorem zdq:zba X (.type "int") (fun xs H Q=>∃z n,xs=[.str z]/\PySem.intText? z=some n/\z.length<=640/\Q (.int n) H):=by intro pins s σ H xs us Q I r h;obtain⟨z,n,rfl,hn,hl,q⟩:=h;obtain⟨u,rfl,t,rfl⟩:=zcH r;exact PySem.W.KIN.call_text hn hl ⟨.int n,H,I.tok _,⟨_,rfl⟩,q⟩
noncomputable def Its(x:Str):It:=⟨fun i _=>i<x.cps.size,fun i H v H'=>H'=H/\∃c,x.cps[i]?=some c/\v=.str ⟨#[c]⟩,fun i _=>x.cps.size<=i⟩
theorem zfV{P:Program}{w:World}{K:PySem.W.Frag}{tg:Expr}(x:Str)(t:Tok)(it:Addr):Turn P w K tg (Its x) [it] it (fun i h=>h.IsStrIter it "str_ascii_iterator" x t i) where
 mem:=by simp
 obj:=fun i h st b hb=>by
  have e:b=it:=by simpa using hb
  subst e;obtain⟨o,e,c,d⟩:=st;exact⟨o,e,fun v z=>by rw[d]at z;cases z⟩
 keep:=fun i h h' st k=>let ⟨o,ho,r⟩:=st;⟨o,k it (by simp) o ho,r⟩
 item:=by intro X hP hw hK hc i pins s σ H E I hf st hg;subst hP hw hK;have hg:i<x.cps.size:=hg;obtain⟨f0,f1,f2,f3,f4,f5⟩:=hf it (by simp);refine wpAny_pyNext_ascii_item st (c:=x.cps[i]) (by simp[hg]) fun h' st' sb=>?_;have I1:Inv X pins σ H {s with heap:=h',toks:=s.toks+1}:=I.turned (t':=s.toks+1) (fun b o hb e=>sb.extBut b o hb e) f0 f1 f3 f4 f5;obtain⟨o,e,c,d⟩:=id st';exact⟨_,rfl,zia (s:={s with heap:=h',toks:=s.toks+1}) e c d (by decide) ⟨.str ⟨#[x.cps[i]]⟩,H,I1,⟨_,rfl⟩,⟨rfl,_,by simp[hg],rfl⟩,st',fun b hb=>(hf b hb).1⟩⟩
 done:=by intro X hP hw hK hc i pins s σ H E I hf st hg;subst hP hw hK;obtain⟨f0,f1,f2,f3,f4,f5⟩:=hf it (by simp);exact wpAny_pyNext_ascii_end (I.ok.hd hc) st (Array.getElem?_eq_none hg) fun h' eb=>⟨rfl,I.turned (t':=s.toks) (fun b o hb e=>eb b o hb e) f0 f1 f3 f4 f5⟩
 self:=fun _ _ _ _ _ st h=>wpAny_pyIter_striter_ascii st h
noncomputable def iTxt(te:TE):TI:=fun σ H R=>te σ H fun x H'=>∃z,x=.str z/\z.cps.all (·<128)=true/\R (Its z) H'
theorem zjV{tg l:Expr}{tl:TE}(hl:PE X l tl):PI X tg l (iTxt tl):=by
 intro pins s σ H R I h;refine thn (hl pins s σ H _ I h) fun v s1 ⟨x,H1,I1,r1,q1⟩=>?_;obtain⟨z,rfl,ha,q⟩:=q1;obtain⟨t,rfl⟩:=r1;refine wpAny_pyIter_ascii ha ?_;refine⟨s1.heap.objs.size,[s1.heap.objs.size],_,_,H1,rfl,I1.kept (t':=s1.toks) fun b o e=>Heap.get?_push_of_some _ e,zfV z t _,⟨_,Heap.get?_push_size _ rfl,rfl,rfl⟩,fun b hb=>?_,q⟩;have e:b=s1.heap.objs.size:=by simpa using hb
 subst e;exact I1.fpOk (le_refl _) (I1.hok.fresh (le_refl _))
theorem zdu:∀{l:List Str}{its:List Value},Vals (l.map V.str) its->∃ps:List (Str×Tok),its=strValues ps/\ps.map (·.1)=l
 | [],its,r=>by cases r;exact⟨[],rfl,rfl⟩| x::l,its,r=>by cases r with| cons r1 r2=>obtain⟨t,rfl⟩:=r1;obtain⟨ps,rfl,e⟩:=zdu r2;exact⟨(x,t)::ps,rfl,by rw[map_cons,e]⟩
theorem zdx:∀(l:List Str)(k:Nat),Vals (l.map V.str) (strsFrom k l)
 | [],_=>.nil|x::l,k=>.cons ⟨_,rfl⟩ (zdx l (k+1))
theorem zka:MtR X "str.join" (fun x xs H Q=>∃sep p l,x=.str sep/\xs=[.ref p]/\SqL X.K H p (l.map V.str)/\tooLong (l.toArray.foldl (· + ·.length+sep.length) 0)=false/\(glued sep l).length<=sizeLine/\Q (.str (glued sep l)) H):=by
 intro pins s σ H x xs v us Q I rx rv h;obtain⟨sep,p,l,rfl,rfl,hq,hl,hg,q⟩:=h;obtain⟨t,rfl⟩:=rx;obtain⟨u,rfl,r1⟩:=zcH rv;cases r1;obtain⟨its,r,pl,hz⟩:=I.list hq;obtain⟨ps,rfl,rfl⟩:=zdu r;refine call_meets PySem.F.slot_str_join (typeIs_str s sep t) PySem.F.entry_str_join (PySem.F.args_str_join_2 _ _) (meets_str_join_list sep t p ps hl) ⟨pl.isList,?_⟩;unfold joinMade;split;rename_i p;refine⟨.str p.1,H,I,⟨_,rfl⟩,?_⟩;have e:glued sep ([p].map (·.1))=p.1:=by simp[glued]
 rw[e]at q;exact q;exact⟨hg,.str _,H,I.tok _,⟨_,rfl⟩,q⟩
noncomputable def spP(x y:Str):List Str:=if(decide (x.length<y.length)||decide (strKind x<strKind y))=true\/(occurrences x y 0 x.length (x.length+1)).isEmpty=true then [x] else partsBetween x (occurrences x y 0 x.length (x.length+1)) y.length
theorem zh0:MtR X "str.split" (fun x xs H Q=>∃z y,x=.str z/\xs=[.str y]/\(y.length==0)=false/\z.length<=sizeLine/\(spP z y).length<=sizeLine/\∀l,H l=none->Q (.ref l) (upd H l (.lst ((spP z y).map V.str)))):=by
 intro pins s σ H x xs v us Q I rx rv h;obtain⟨z,y,rfl,rfl,hy,hz,hn,q⟩:=h;obtain⟨t,rfl⟩:=rx;obtain⟨u,rfl,t',rfl⟩:=zcH rv;have fin:∀(ps:List Str)(its:List Value)(k:Nat),ps=spP z y->Vals (ps.map V.str) its->EP X pins σ Q (.ref s.heap.objs.size) {s with toks:=k,heap:=s.heap.push {cls:=.type "list",data:=.seq its.toArray}}:=fun ps its k e r=>by subst e;exact⟨.ref s.heap.objs.size,_,I.laid (t':=k) (fun b o e=>Heap.get?_push_of_some _ e) (le_refl _) (show ObjOk X.prog X.w _ _ _ (.lst _) from⟨by simpa using hn,its,_,r,Heap.get?_push_size _ rfl⟩),rfl,q _ (I.hok.fresh (le_refl _))⟩
 by_cases c1:(decide (z.length<y.length)||decide (strKind z<strKind y))=true;exact call_meets PySem.F.slot_str_split (typeIs_str s z t) PySem.F.entry_str_split (PySem.F.args_str_split_2 _ _) (meets_str_split_cannot_occur z y t t' c1) (fin [z] [.str z t] s.toks (by unfold spP;rw[if_pos (.inl c1)]) (.cons ⟨_,rfl⟩ .nil));have c1:=Bool.eq_false_iff.mpr c1;by_cases c2:(occurrences z y 0 z.length (z.length+1)).isEmpty=true;exact call_meets PySem.F.slot_str_split (typeIs_str s z t) PySem.F.entry_str_split (PySem.F.args_str_split_2 _ _) (meets_str_split_not_found z y t t' c1 hy c2) (fin [z] [.str z t] s.toks (by unfold spP;rw[if_pos (.inr c2)]) (.cons ⟨_,rfl⟩ .nil));have e:spP z y=partsBetween z (occurrences z y 0 z.length (z.length+1)) y.length:=by unfold spP;rw[if_neg (by rw[c1];simp[c2])]
 exact call_meets PySem.F.slot_str_split (typeIs_str s z t) PySem.F.entry_str_split (PySem.F.args_str_split_2 _ _) (meets_str_split_sep z y t t' c1 hy (Bool.eq_false_iff.mpr c2) hz (by rw[<-e];exact hn)) (fin _ _ _ e.symm (zdx _ _))
theorem zgq{v:Value}{o:Option Int}(h:IsPart v o):∃l:Option (Int×Tok),v=partValue l/\l.map (·.1)=o:=by cases h with|none=>exact⟨none,rfl,rfl⟩|int i t=>exact⟨some (i,t),rfl,rfl⟩
theorem zll:SlR X (fun x lo hi H Q=>∃z,x=.str z/\z.length<=sizeLine/\Q (.str (Txt.slice z lo hi)) H):=by intro pins s σ H x v vl vu lo hi sl Q I rx hs pl pu h;obtain⟨z,rfl,hz,q⟩:=h;obtain⟨t,rfl⟩:=rx;obtain⟨l,rfl,rfl⟩:=zgq pl;obtain⟨u,rfl,rfl⟩:=zgq pu;refine⟨"str",_,PySem.F.slot_str_getitem.lookup,typeIs_str _ _ _,wpAny_getItem_str_slice (l:=l) (u:=u) (st:=none) hs rfl ?_⟩;exact post_val_or_str ⟨le_trans (Txt.slice_le z _ _) hz,fun t' k=>⟨.str _,H,I.tok _,⟨_,rfl⟩,q⟩⟩
end L2
namespace R
open PySem PySem.Builtin.Str
noncomputable def mkS(l:List Nat):Str:=⟨l.toArray⟩
theorem zdS(z:Str):mkS z.cps.toList=z:=by unfold mkS;simp
theorem zaP(l:List Nat):(mkS l).length=l.length:=by unfold mkS Str.length;simp
theorem e_sw(z:Str)(c:Nat):(decide (0+(mkS [c]).length<=z.length)&&subAt z (mkS [c]) 0)=(z.cps.toList.head?==some c):=by obtain⟨⟨l⟩⟩:=z;cases l with|nil=>simp[mkS,Str.length,subAt]|cons a r=>simp[mkS,Str.length,subAt]
theorem ziT:∀l:List (List Nat),glued (mkS [46]) (l.map mkS)=mkS (joiL 46 l)
 | []=>by simp[glued,mkS,joiL,Str.empty]| x::r=>by
  have key:∀(r:List (List Nat))(a:Array Nat)(x:List Nat),((r.map mkS).foldl (fun acc p=>acc++(mkS [46]).cps++p.cps) (a++x.toArray)).toList=a.toList++joiL 46 (x::r):=by intro r;induction r with|nil=>intro a x;simp[joiL]| cons y r ih=>intro a x;rw[map_cons,List.foldl_cons];rw[show a++x.toArray++(mkS [46]).cps++(mkS y).cps=(a++x.toArray++(mkS [46]).cps)++y.toArray from rfl,ih];simp[joiL,mkS]
  have:=key r #[] x;unfold glued;rw[map_cons];show Str.mk _=Str.mk _;congr 1;apply Array.toList_inj.mp;simpa[mkS]using this
theorem zn4(i:Int):Str.ofString (toString i)=mkS (zbF i):=by rw[Str.ofString_eq_toList];unfold mkS zbF;congr 2;cases i with| ofNat n=>show(Nat.repr n).toList.map Char.toNat=_;rw[Nat.toList_repr];simp| negSucc n=>show(("-"++Nat.repr (n+1)).toList).map Char.toNat=_;rw[String.toList_append,Nat.toList_repr,List.map_append,if_pos (by omega)];rfl
theorem zn7(c:Nat){n:Int}(h:0<=n):Txt.mul (mkS [c]) n=mkS (List.replicate n.toNat [c]).flatten:=by
 unfold Txt.mul;have key:∀(k:Nat)(a:Array Nat),((List.replicate k (mkS [c]).cps).foldl (· ++ ·) a).toList=a.toList++(List.replicate k [c]).flatten:=by intro k;induction k with|zero=>intro a;simp|succ k ih=>intro a;rw[List.replicate_succ,List.foldl_cons,ih];simp[mkS,List.replicate_succ]
 split;have:n.toNat=0:=by omega
 rw[this];rfl;split;rename_i h1 h2;rw[zaP]at h2;have:n=1:=by simpa using h2
 subst this;rfl;show Str.mk _=Str.mk _;congr 1;apply Array.toList_inj.mp;simpa using key n.toNat #[]
theorem zmj(c:Nat){n:Int}(h:0<=n/\n<=1000):MulOk (mkS [c]) n:=by
 refine⟨by rw[decide_eq_false (by omega),decide_eq_false (by omega)];rfl,fun h1 _=>?_,fun _ _=>?_⟩;rw[zaP];have:(1:Int)<=(2^63-1)/n:=by rw[Int.le_ediv_iff_mul_le (by omega)];omega
 show ¬((1:Int)>_);omega;rw[zaP];unfold tooLong sizeLine;simp;omega
theorem e_in(z:Str)(c:Nat):(!(occurrences z (mkS [c]) 0 z.length 1).isEmpty)=z.cps.toList.contains c:=by rw[show mkS [c]=⟨#[c]⟩ from rfl,StrLaws.found_one];simp
theorem zmL{z:Str}(h:zcb z.cps.toList=true):PySem.intText? z=some (valZ z.cps.toList)/\z.length<=640:=by
 unfold zcb at h;rw[and_eq_true]at h;have h1:=of_decide_eq_true h.1;have h2:PySem.NumText.AllDigits (figL z.cps.toList):=fun c hc=>of_decide_eq_true (all_eq_true.mp h.2 c hc);have hl:z.length<=61:=by
  have:z.cps.toList.length<=(figL z.cps.toList).length+1:=by unfold figL;split<;>simp<;>omega
  have e:z.cps.toList.length=z.length:=by simp[Str.length]
  omega
 refine⟨?_,by omega⟩;unfold valZ;by_cases c:z.cps.toList.head?=some 45;rw[if_pos c];have e:figL z.cps.toList=z.cps.toList.tail:=by unfold figL;rw[if_pos c]
 rw[e]at h1 h2;cases hz:z.cps.toList with
 |nil=>rw[hz]at c;cases c
 |cons a r=>rw[hz]at c h1 h2;injection c with c;subst c;exact PySem.intText_neg hz h2 (fun e=>by rw[show r=[] from e]at h1;simp at h1) (by omega)
 rw[if_neg c];have e:figL z.cps.toList=z.cps.toList:=by unfold figL;rw[if_neg c]
 rw[e]at h1 h2;exact PySem.intText_digits h2 (fun e=>by rw[e]at h1;simp at h1) (by omega)
noncomputable def posF:List Nat->Nat->List Nat
 | [],_=>[]|a::r,k=>if a=46 then k::posF r (k+1) else posF r (k+1)
theorem ziw{pre suf:List Nat}{a:Nat}:subAt (mkS (pre++a::suf)) (mkS [46]) pre.length=decide (a=46):=by unfold subAt;rw[zaP];unfold mkS;simp[List.extract_toArray,List.extract_eq_drop_take];rfl
theorem ziJ(n:Nat):∀(suf pre:List Nat)(fd:Array Nat)(free:Nat),pre.length+suf.length=n->free<=pre.length->fd.size<=pre.length->
  (forIn (List.range' pre.length (suf.length+1)) (fd,free) (StrLaws.occBody (mkS (pre++suf)) (mkS [46]) n (n+1))).run.fst.toList=fd.toList++posF suf pre.length
 | [],pre,fd,free,h1,h2,h3=>by rw[length_nil,zero_add,List.range'_one,List.forIn_cons];unfold StrLaws.occBody;rw[if_neg (by rw[zaP];simp at h1;simp;omega)];simp[posF]| a::suf,pre,fd,free,h1,h2,h3=>by
  rw[length_cons,List.range'_succ,List.forIn_cons];have e:pre++a::suf=(pre++[a])++suf:=by simp
  have ih:=fun fd' free'=>ziJ n suf (pre++[a]) fd' free' (by simp at h1⊢;omega);rw[<-e]at ih;simp only[length_append,length_cons,length_nil,zero_add]at ih;by_cases c:a=46;have hb:StrLaws.occBody (mkS (pre++a::suf)) (mkS [46]) n (n+1) pre.length (fd,free)=pure (ForInStep.yield (fd.push pre.length,pre.length+(mkS [46]).length)):=by unfold StrLaws.occBody;rw[if_pos ⟨⟨⟨by show fd.size<n+1;simp at h1;omega,h2⟩,by rw[zaP];simp at h1⊢;omega⟩,by rw[ziw];simp[c]⟩]
  rw[hb];rw[pure_bind];dsimp only;rw[ih _ _ (by rw[zaP];simp) (by simp;omega)];simp[posF,c];have hb:StrLaws.occBody (mkS (pre++a::suf)) (mkS [46]) n (n+1) pre.length (fd,free)=pure (ForInStep.yield (fd,free)):=by unfold StrLaws.occBody;rw[if_neg (by rw[ziw];simp[c])]
  rw[hb];rw[pure_bind];dsimp only;rw[ih _ _ (by omega) (by omega)];simp[posF,c]
theorem zj7(l:List Nat):occurrences (mkS l) (mkS [46]) 0 (mkS l).length ((mkS l).length+1)=posF l 0:=by rw[StrLaws.occ_eq,zaP];have:=ziJ l.length l [] #[] 0 (by simp) (by simp) (by simp);simpa using this
theorem zdy(l:List Nat):∃p ps,splL 46 l=p::ps:=by cases l with|nil=>exact⟨_,_,rfl⟩| cons a r=>unfold splL;split;exact⟨_,_,rfl⟩;split;exact⟨_,_,rfl⟩;exact⟨_,_,rfl⟩
theorem ziv(l:List Nat)(i j:Nat):strSub (mkS l) i j=mkS ((l.drop i).take (j-i)):=by unfold strSub mkS;simp[List.extract_toArray,List.extract_eq_drop_take]
theorem zeV(n:Nat):∀(suf pre:List Nat)(s0:Nat)(p:List Nat)(ps:List (List Nat)),pre.length+suf.length=n->s0<=pre.length->splL 46 suf=p::ps->
  ((s0::(posF suf pre.length).map (·+1)).zip (posF suf pre.length++[n])).map (fun(i,j)=>strSub (mkS (pre++suf)) i j)=mkS (pre.drop s0++p)::ps.map mkS
 | [],pre,s0,p,ps,h1,h2,h3=>by simp[splL]at h3;obtain⟨rfl,rfl⟩:=h3;simp[posF,ziv];congr 1;simp at h1;rw[List.take_of_length_le (by simp;omega)]| a::suf,pre,s0,p,ps,h1,h2,h3=>by
  obtain⟨q,qs,eq⟩:=zdy suf;have e:pre++a::suf=(pre++[a])++suf:=by simp
  have ih:=fun s0 h=>zeV n suf (pre++[a]) s0 q qs (by simp at h1⊢;omega) h eq;rw[<-e]at ih;simp only[length_append,length_cons,length_nil,zero_add]at ih;unfold splL at h3;by_cases c:a=46;rw[if_pos c]at h3;injection h3 with h3 h4;subst h3 h4;unfold posF;rw[if_pos c,map_cons,List.cons_append,List.zip_cons_cons,map_cons,ih (pre.length+1) (le_refl _)];dsimp only;rw[ziv,eq];have e1:(pre++[a]).drop (pre.length+1)=[]:=List.drop_eq_nil_of_le (by simp);rw[e1,List.drop_append_of_le_length h2,List.take_append_of_le_length (by simp),List.take_of_length_le (by simp)];simp;rw[if_neg c,eq]at h3;injection h3 with h3 h4;subst h3 h4;unfold posF;rw[if_neg c,ih s0 (by omega),List.drop_append_of_le_length h2];simp
theorem zeS:∀{l:List Nat}{k:Nat},posF l k=[]->splL 46 l=[l]
 | [],_,_=>rfl| a::r,k,h=>by unfold posF at h;split at h;cases h;rename_i c;unfold splL;rw[if_neg c,zeS h]
theorem zn5(l:List Nat):L2.spP (mkS l) (mkS [46])=(splL 46 l).map mkS:=by
 unfold L2.spP;rw[zj7];by_cases c:posF l 0=[];rw[if_pos (.inr (by rw[c];rfl)),zeS c];rfl;have hl:¬(mkS l).length<(mkS [46]).length:=by rw[zaP,zaP];cases l with|nil=>exact absurd rfl c|cons a r=>simp
 have hk:¬strKind (mkS l)<strKind (mkS [46]):=by
  have:strKind (mkS [46])=1:=by simp[Builtin.Str.strKind,mkS]
  rw[this];unfold Builtin.Str.strKind;split;decide
  . split<;>decide
 rw[if_neg (by rw[decide_eq_false hl,decide_eq_false hk];simp[c])];obtain⟨p,ps,e⟩:=zdy l;have:=zeV l.length l [] 0 p ps (by simp) (by simp) e;unfold partsBetween;rw[zaP,zaP,e];simpa using this
theorem zg7(lo hi:Option Int)(n:Nat):strSliceIndices lo hi 1 n=sliceRange (sIx n 0 lo:Nat) (sIx n n hi:Nat) 1:=by
 unfold strSliceIndices;dsimp only;congr 1;cases lo with|none=>simp[sIx]| some i=>simp only[sIx,show(1:Int)>0 by decide,if_true];by_cases h:i<0;simp only[h,if_true];omega;simp only[h,if_false];omega
 cases hi with|none=>simp[sIx]| some i=>simp only[sIx,show(1:Int)>0 by decide,if_true];by_cases h:i<0;simp only[h,if_true];omega;simp only[h,if_false];omega
theorem znI(l:List Nat):∀(k i:Nat),((List.range k).map fun(j:Nat)=>(((i:Nat):Int)+1*(j:Int)).toNat).filterMap (l[·]?)=(l.drop i).take k:=by
 intro k i;rw[List.filterMap_map];have e:((fun x=>l[x]?)∘fun(j:Nat)=>(((i:Nat):Int)+1*(j:Int)).toNat)=fun j=>(l.drop i)[j]?:=by funext j;show l[(((i:Nat):Int)+1*(j:Int)).toNat]?=_;rw[List.getElem?_drop];congr 1;omega
 rw[e];generalize l.drop i=m;induction k with|zero=>simp| succ k ih=>rw[List.range_succ,List.filterMap_append,ih];cases h:m[k]? with|none=>rw[List.take_of_length_le (by have:=List.getElem?_eq_none_iff.mp h;omega),List.take_of_length_le (by have:=List.getElem?_eq_none_iff.mp h;omega)];simp[h]|some x=>rw[List.take_add_one,h];simp[h]
theorem zn6(z:Str)(lo hi:Option Int):Txt.slice z lo hi=mkS (cut z.cps.toList lo hi):=by
 have el:z.cps.toList.length=z.length:=by simp[Str.length]
 have key:(strSliceIndices lo hi 1 z.length).filterMap (z.cps[·]?)=cut z.cps.toList lo hi:=by rw[zg7];unfold cut sliceRange;rw[el];simp only[show(1:Int)>0 by decide,if_true,Int.ediv_one];rw[show(fun(x:Nat)=>z.cps[x]?)=fun x=>z.cps.toList[x]? from by funext x;simp,znI];congr 1;split<;>omega
 unfold Txt.slice;split;rename_i h;have h:(strSliceIndices lo hi 1 z.length).length=z.length:=by simpa using h
 rw[zg7]at h;unfold cut;rw[el];have b1:sIx z.length 0 lo<=z.length:=by unfold sIx;split<;>(try split)<;>omega
 have hl:(sliceRange (sIx z.length 0 lo:Nat) (sIx z.length z.length hi:Nat) 1).length=sIx z.length z.length hi-sIx z.length 0 lo:=by unfold sliceRange;simp only[show(1:Int)>0 by decide,if_true,Int.ediv_one,length_map,List.length_range];split<;>omega
 have b2:sIx z.length z.length hi<=z.length:=by unfold sIx;split<;>(try split)<;>omega
 rw[h]at hl;have e1:sIx z.length z.length hi-sIx z.length 0 lo=z.length:=hl.symm;rw[e1];have e2:(z.cps.toList.drop (sIx z.length 0 lo))=z.cps.toList:=by
  by_cases c:sIx z.length 0 lo=0;rw[c];rfl;have:z.length=0:=by omega
  have:z.cps.toList=[]:=List.length_eq_zero_iff.mp (by omega);rw[this];simp
 rw[e2,List.take_of_length_le (by omega),zdS];rw[key];rfl
end R
namespace R
open PySem PySem.Spec PyProof.Rows L2
variable[Mks]
section
variable{T:Tab}{cf:CF}{k:Nat}{N:List Str}{sc:Scope}{X:Cx}{pos p:Pos}
theorem W_if{c:Prop}[Decidable c]{o:Out α}{Q:α->R.St->Prop}(w:W (if c then o else .bad) Q):c/\W o Q:=by split at w;rename_i h;exact⟨h,w⟩;exact w.elim
theorem l24{n:Nat}(h:n<=1000000):n<=sizeLine:=by rw[sizeLine_eq];omega
theorem zmZ(x y:Str):tS (x.cps.toList++y.cps.toList)=.str (x++y):=by unfold tS;congr 1;show Str.mk _=Str.mk (x.cps++y.cps);congr 1;apply Array.toList_inj.mp;simp
theorem zk1{S:R.St}{d e:D}{Q:D->R.St->Prop}(w:W (txD S .add [d,e]) Q):∃x y,d=.str x/\e=.str y/\x.length+y.length<=sizeLine/\Q (.str (x++y)) S:=by
 cases d<;>first|exact False.elim w|skip
 cases e<;>first|exact False.elim w|skip
 rename_i x y;obtain⟨h,w⟩:=W_if w;exact⟨x,y,rfl,rfl,l24 h,by rw[<-zmZ];exact w⟩
theorem zkW{S:R.St}{d e:D}{Q:D->R.St->Prop}(w:W (txD S .mul [d,e]) Q):∃x n,d=.str x/\e=.int n/\MulOk x n/\Q (.str (Txt.mul x n)) S:=by
 cases d<;>first|exact False.elim w|skip
 cases e<;>first|exact False.elim w|skip
 rename_i x n;obtain⟨h,w⟩:=W_if w;obtain⟨c,e⟩:∃c,x.cps.toList=[c]:=List.length_eq_one_iff.mp (by simpa using h.2.2);have e2:x=mkS [c]:=by rw[<-e,zdS]
 refine⟨x,n,rfl,rfl,by rw[e2];exact zmj c ⟨h.1,h.2.1⟩,?_⟩;have w:Q (tS (List.replicate n.toNat x.cps.toList).flatten) S:=w;rw[e]at w;rw[e2,zn7 c h.1];exact w
theorem znj{S:R.St}{d e:D}{Q:D->R.St->Prop}(w:W (txD S .ix [d,e]) Q):∃x i c,d=.str x/\e=.int i/\x.length<=sizeLine/\R.atI x.cps.toList i=some c/\Q (tS [c]) S:=by
 cases d<;>first|exact False.elim w|skip
 cases e<;>first|exact False.elim w|skip
 rename_i x i;obtain⟨h,w⟩:=W_if w;cases ea:R.atI x.cps.toList i with|none=>rw[ea]at w;exact w.elim|some c=>rw[ea]at w;exact⟨x,i,c,rfl,rfl,l24 h,ea,w⟩
theorem zkZ{S:R.St}{d e:D}{Q:D->R.St->Prop}(w:W (txD S .inn [d,e]) Q):∃x y,d=.str x/\e=.str y/\Q (.bl (!(Builtin.Str.occurrences y x 0 y.length 1).isEmpty)) S:=by
 cases d<;>first|exact False.elim w|skip
 cases e<;>first|exact False.elim w|skip
 rename_i x y;refine⟨x,y,rfl,rfl,?_⟩;have w:W (match x.cps.toList with | [c]=>.ok (.bl (y.cps.toList.contains c)) S|_=>.bad) Q:=w;split at w;rename_i c e;have e2:x=mkS [c]:=by rw[<-e,zdS]
 rw[e2,e_in];exact w;exact w.elim
theorem zkX{S:R.St}{d:D}{Q:D->R.St->Prop}(w:W (txD S .len [d]) Q):∃x,d=.str x/\x.length<=sizeLine/\Q (.int x.length) S:=by
 cases d<;>first|exact False.elim w|skip
 rename_i x;obtain⟨h,w⟩:=W_if w;exact⟨x,rfl,l24 h,w⟩
theorem zkY{S:R.St}{d:D}{Q:D->R.St->Prop}(w:W (txD S .int [d]) Q):∃x n,d=.str x/\PySem.intText? x=some n/\x.length<=640/\Q (.int n) S:=by
 cases d<;>first|exact False.elim w|skip
 rename_i x;obtain⟨h,w⟩:=W_if w;exact⟨x,_,rfl,(zmL h).1,(zmL h).2,w⟩
theorem zkU{S:R.St}{d:D}{Q:D->R.St->Prop}(w:W (txD S .str [d]) Q):∃i:Int,d=.int i/\i.natAbs.log2<1920/\Q (.str (Str.ofString (toString i))) S:=by
 cases d<;>first|exact False.elim w|skip
 rename_i i;obtain⟨h,w⟩:=W_if w;refine⟨i,rfl,?_,by rw[zn4];exact w⟩;by_cases c:i.natAbs=0;rw[c];decide;exact lt_of_lt_of_le ((Nat.log2_lt c).mpr (lt_of_lt_of_le h (show 10^70<=2^240 by decide))) (by decide)
theorem zng{S:R.St}{c:Nat}{d:D}{Q:D->R.St->Prop}(w:W (txD S (.sw c) [d]) Q):∃x,d=.str x/\Q (.bl (x.cps.toList.head?==some c)) S:=by
 cases d<;>first|exact False.elim w|skip
 rename_i x;exact⟨x,rfl,w⟩
theorem zi9{S:R.St}{ml mh:Bool}{d e f:D}{Q:D->R.St->Prop}(w:W (txD S (.sl ml mh) [d,e,f]) Q):∃x l h,d=.str x/\x.length<=sizeLine/\zaE ml e=some l/\zaE mh f=some h/\Q (.str (Txt.slice x l h)) S:=by
 cases d<;>first|exact False.elim w|skip
 rename_i x;obtain⟨h,w⟩:=W_if w;cases e1:zaE ml e with|none=>rw[e1]at w;exact w.elim| some l=>rw[e1]at w;cases e2:zaE mh f with|none=>rw[e2]at w;exact w.elim| some h'=>rw[e2]at w;exact⟨x,l,h',rfl,l24 h,rfl,rfl,by rw[zn6];exact w⟩
theorem zjB(ha:PE X a (tE X.K cf ca))(hb:PE X b (tE X.K cf cb)):PE X (.BinOp a .Add b pos) (tE X.K cf (.tx .add (.cons ca (.cons cb .nil)))):=by refine PE.imp (zjX zfC ha hb) fun σ H Qv ⟨δ,ι,S,Q,hs,hh,w,q⟩=>?_;simp[evE,evEs,zaa,W_ok]at w;refine tE.run hs hh w fun d v ι1 H1 S1 x1 hs1 hh1 r1 w1=>tE.run hs1 hh1 w1 fun e u ι2 H2 S2 x2 hs2 hh2 r2 w2=>?_;obtain⟨x,y,rfl,rfl,h,w3⟩:=zk1 w2;exact⟨x,y,r1,r2,h,q _ _ (Lf.up (x1.trans x2) (Lf.of (d:=.str _) hh2 rfl w3))⟩
theorem zjp(ha:PE X a (tE X.K cf ca))(hb:PE X b (tE X.K cf cb)):PE X (.BinOp a .Mult b pos) (tE X.K cf (.tx .mul (.cons ca (.cons cb .nil)))):=by refine PE.imp (zjX zfB ha hb) fun σ H Qv ⟨δ,ι,S,Q,hs,hh,w,q⟩=>?_;simp[evE,evEs,zaa,W_ok]at w;refine tE.run hs hh w fun d v ι1 H1 S1 x1 hs1 hh1 r1 w1=>tE.run hs1 hh1 w1 fun e u ι2 H2 S2 x2 hs2 hh2 r2 w2=>?_;obtain⟨x,y,rfl,rfl,h,w3⟩:=zkW w2;exact⟨x,y,r1,r2,h,q _ _ (Lf.up (x1.trans x2) (Lf.of (d:=.str _) hh2 rfl w3))⟩
theorem zjw(ha:PE X a (tE X.K cf ca))(hb:PE X b (tE X.K cf cb))(hm:zaz b=true):PE X (.Compare a [.In] [b] pos) (tE X.K cf (.tx .inn (.cons ca (.cons cb .nil)))):=by refine PE.imp (zgm zgs ha hb (zcm hm .In)) fun σ H Qv ⟨δ,ι,S,Q,hs,hh,w,q⟩=>?_;simp[evE,evEs,zaa,W_ok]at w;refine tE.run hs hh w fun d v ι1 H1 S1 x1 hs1 hh1 r1 w1=>tE.run hs1 hh1 w1 fun e u ι2 H2 S2 x2 hs2 hh2 r2 w2=>?_;obtain⟨x,y,rfl,rfl,w3⟩:=zkZ w2;exact⟨x,y,r1,r2,q _ _ (Lf.up (x1.trans x2) (Lf.of (d:=.bl _) hh2 rfl w3))⟩
theorem zlx(ha:PE X a (tE X.K cf ca))(hb:PE X b (tE X.K cf cb))(hp:zbQ b=true):PE X (.Subscript a b pos) (tE X.K cf (.tx .ix (.cons ca (.cons cb .nil)))):=by refine PE.imp (zl5 ziK ha hb (zmu hp)) fun σ H Qv ⟨δ,ι,S,Q,hs,hh,w,q⟩=>?_;simp[evE,evEs,zaa,W_ok]at w;refine tE.run hs hh w fun d v ι1 H1 S1 x1 hs1 hh1 r1 w1=>tE.run hs1 hh1 w1 fun e u ι2 H2 S2 x2 hs2 hh2 r2 w2=>?_;obtain⟨x,i,c,rfl,rfl,h,hc,w3⟩:=znj w2;exact .inr (.inr ⟨x,i,c,r1,r2,h,hc,q _ _ (Lf.up (x1.trans x2) (Lf.of (d:=.str _) hh2 rfl w3))⟩)
theorem ziW:bootBuiltins "int"=some (.type "int"):=by decide +kernel
theorem ziV:bootBuiltins "str"=some (.type "str"):=by decide +kernel
theorem zjr(hg:Gl X "len"/\X.mg "len"=none)(he:PE X e (tE X.K cf ce))(hst:zah e=true):PE X (.Call (.Name "len" p) [e] [] pos) (tE X.K cf (.tx .len (.cons ce .nil))):=by refine PE.imp (zbg zd6 hg.1 hg.2 zhd (zaN he hst) (by decide) (by decide) (zag hst [] X.env)) fun σ H Qv ⟨δ,ι,S,Q,hs,hh,w,q⟩=>?_;simp[evE,evEs,zaa,W_ok]at w;refine tE.run hs hh w fun d v ι1 H1 S1 x1 hs1 hh1 r1 w1=>?_;obtain⟨x,rfl,h,w3⟩:=zkX w1;obtain rfl:v=.str x:=r1;exact⟨x,rfl,h,q _ _ (Lf.up x1 (Lf.of (d:=.int _) hh1 rfl w3))⟩
theorem zjv(hg:Gl X "int"/\X.mg "int"=none)(he:PE X e (tE X.K cf ce))(hst:zah e=true):PE X (.Call (.Name "int" p) [e] [] pos) (tE X.K cf (.tx .int (.cons ce .nil))):=by refine PE.imp (zaW zdq hg.1 hg.2 ziW (zaN he hst) (by decide) (by decide) (zag hst [] X.env)) fun σ H Qv ⟨δ,ι,S,Q,hs,hh,w,q⟩=>?_;simp[evE,evEs,zaa,W_ok]at w;refine tE.run hs hh w fun d v ι1 H1 S1 x1 hs1 hh1 r1 w1=>?_;obtain⟨x,n,rfl,h1,h2,w3⟩:=zkY w1;obtain rfl:v=.str x:=r1;exact⟨x,n,rfl,h1,h2,q _ _ (Lf.up x1 (Lf.of (d:=.int _) hh1 rfl w3))⟩
theorem zjn(hg:Gl X "str"/\X.mg "str"=none)(he:PE X e (tE X.K cf ce))(hst:zah e=true):PE X (.Call (.Name "str" p) [e] [] pos) (tE X.K cf (.tx .str (.cons ce .nil))):=by refine PE.imp (zaW zd4 hg.1 hg.2 ziV (zaN he hst) (by decide) (by decide) (zag hst [] X.env)) fun σ H Qv ⟨δ,ι,S,Q,hs,hh,w,q⟩=>?_;simp[evE,evEs,zaa,W_ok]at w;refine tE.run hs hh w fun d v ι1 H1 S1 x1 hs1 hh1 r1 w1=>?_;obtain⟨i,rfl,h1,w3⟩:=zkU w1;obtain rfl:v=.int i:=r1;exact⟨i,rfl,h1,q _ _ (Lf.up x1 (Lf.of (d:=.str _) hh1 rfl w3))⟩
theorem zlo(ho:PE X o (tE X.K cf co))(hsup:zbt o=true)(hl:(apos.endLine==cpos.line)=true):PE X (.Call (.Attribute o "startswith" apos) [.Constant (.str (mkS [c])) j p2] [] cpos) (tE X.K cf (.tx (.sw c) (.cons co .nil))):=by refine PE.imp (zgn PySem.F.plainAttrs_str PySem.F.slot_str_startswith PySem.F.type_str_startswith znU ho (zaF zdQ zbC) (zcM hsup _ X.env _) rfl hl rfl) fun σ H Qv ⟨δ,ι,S,Q,hs,hh,w,q⟩=>?_;simp[evE,evEs,zaa,W_ok]at w;refine tE.run hs hh w fun d v ι1 H1 S1 x1 hs1 hh1 r1 w1=>?_;obtain⟨x,rfl,w3⟩:=zng w1;obtain rfl:v=.str x:=r1;refine⟨rfl,x,mkS [c],rfl,rfl,?_⟩;rw[e_sw];exact q _ _ (Lf.up x1 (Lf.of (d:=.bl _) hh1 rfl w3))
theorem zf1{K:PySem.W.Frag}:∀{ds:List D}{xs:List V}{ls:List (List Nat)},RVs K ι H ds xs->ds.mapM txtL=some ls->xs=(ls.map mkS).map V.str
 | [],xs,ls,r,e=>by obtain rfl:xs=[]:=r;simp at e;subst e;rfl| d::ds,xs,ls,r,e=>by
  obtain⟨v,u,rfl,r1,r2⟩:=r;rw[mapM_cons]at e;cases d<;>first|(cases e;done)|skip
  rename_i x;cases e2:ds.mapM txtL with
  |none=>rw[e2]at e;cases e
  |some ls'=>rw[e2]at e;have e:x.cps.toList::ls'=ls:=Option.some.inj e;subst e;rw[zf1 r2 e2,show v=.str x from r1];simp[zdS]
theorem zf0{K:PySem.W.Frag}:∀ls:List (List Nat),RVs K ι H (ls.map tS) ((ls.map mkS).map V.str)
 | []=>rfl|l::ls=>⟨_,_,rfl,rfl,zf0 ls⟩
theorem ze6(k:Nat):∀(l:List (List Nat))(a:Nat),(l.map mkS).foldl (fun n x=>n+x.length+k) a=a+(l.map fun x=>x.length+k).sum
 | [],a=>by simp| x::l,a=>by rw[map_cons,List.foldl_cons,ze6 k l,zaP,map_cons,List.sum_cons];omega
theorem ze5:∀l:List (List Nat),(l.map fun x=>x.length+1).sum<=(joiL 46 l).length+1
 | []=>by simp| [x]=>by simp[joiL]| x::y::l=>by have:=ze5 (y::l);simp only[joiL,map_cons,List.sum_cons,length_append,length_cons]at this⊢;omega
theorem zjs(he:PE X e (tE X.K cf ce))(hst:zah e=true)(hl:(apos.endLine==cpos.line)=true):PE X (.Call (.Attribute (.Constant (.str (mkS [46])) j p2) "join" apos) [e] [] cpos) (tE X.K cf (.tx .joi (.cons ce .nil))):=by
 refine PE.imp (zgn PySem.F.plainAttrs_str PySem.F.slot_str_join PySem.F.type_str_join zka zdQ (zaN he hst) rfl (by rw[zag hst];rfl) hl (zag hst [] X.env)) fun σ H Qv ⟨δ,ι,S,Q,hs,hh,w,q⟩=>?_;simp[evE,evEs,zaa,W_ok]at w;refine⟨rfl,?_⟩;refine tE.run hs hh w fun d v ι1 H1 S1 x1 hs1 hh1 r1 w1=>?_;cases d<;>first|exact False.elim w1|skip
 rename_i l;have w1:W (match S1.get l with|some (.lst ds)=>(match ds.mapM txtL with|some xs=>if(joiL 46 xs).length<=1000000 then .ok (tS (joiL 46 xs)) S1 else .bad|none=>.bad)|_=>.bad) Q:=w1;cases eg:S1.get l with
 |none=>rw[eg]at w1;exact w1.elim| some o=>
  rw[eg]at w1;cases o<;>first|exact w1.elim|skip
  rename_i ds;dsimp only at w1;cases em:ds.mapM txtL with|none=>rw[em]at w1;exact w1.elim| some ls=>rw[em]at w1;obtain⟨hj,w2⟩:=W_if w1;obtain⟨a,h1,rfl⟩:=r1;obtain⟨b,h2,xs,hx,rr⟩:=hh1.obj _ _ eg;rw[h1]at h2;cases h2;have ex:=zf1 rr em;subst ex;refine⟨mkS [46],a,ls.map mkS,rfl,rfl,SqL.of hx,?_,?_,?_⟩;have h3:=ze6 1 ls 0;have h4:=ze5 ls;unfold Builtin.Str.tooLong;rw[show(mkS [46]).length=1 from zaP _];simp only[List.foldl_toArray'];rw[h3];have:=l24 (n:=1000000) (le_refl _);rw[sizeLine_eq]at *;simp;omega;rw[ziT,zaP];exact l24 hj;rw[ziT];exact q _ _ (Lf.up x1 (Lf.of (d:=.str _) hh1 rfl w2))
end
section
variable{T:Tab}{cf:CF}{k:Nat}{N:List Str}{sc:Scope}{X:Cx}{pos p:Pos}{tg:Expr}
theorem zjo(ho:PE X o (tE X.K cf co))(hsup:zbt o=true)(hl:(apos.endLine==cpos.line)=true):PE X (.Call (.Attribute o "split" apos) [.Constant (.str (mkS [46])) j p2] [] cpos) (tE X.K cf (.tx .spl (.cons co .nil))):=by
 refine PE.imp (zgn PySem.F.plainAttrs_str PySem.F.slot_str_split PySem.F.type_str_split zh0 ho (zaF zdQ zbC) (zcM hsup _ X.env _) rfl hl rfl) fun σ H Qv ⟨δ,ι,S,Q,hs,hh,w,q⟩=>?_;simp[evE,evEs,zaa,W_ok]at w;refine tE.run hs hh w fun d v ι1 H1 S1 x1 hs1 hh1 r1 w1=>?_;cases d<;>first|exact False.elim w1|skip
 rename_i x;obtain⟨h,w1⟩:=W_if w1;obtain rfl:v=.str x:=r1;obtain⟨hz,w2⟩:=zb4 w1;have e:spP x (mkS [46])=(splL 46 x.cps.toList).map mkS:=by have:=zn5 x.cps.toList;rw[zdS]at this;exact this
 refine⟨rfl,x,mkS [46],rfl,rfl,by rw[zaP];rfl,l24 h,?_,fun l hl=>?_⟩;rw[e];rw[length_map]at hz⊢;rw[sizeLine_eq];exact hz;rw[e];exact q _ _ (Lf.up x1 (Lf.lst hh1 hl (zf0 _) w2))
theorem zgp{m:Bool}{c:CE}{o:Option Expr}(h:PartOk X cf m c o):∃t,PO X o t/\∀{δ:Ev}{σ:L2.St}{ι:List Addr}{H:Hp}{S:R.St}{Q:D->R.St->Prop}{Qv:Option Int->Hp->Prop},RS X.K ι H δ σ->RH X.K ι H S->W (evE cf c δ S) Q->
  (∀d S',Q d S'->∃z,zaE m d=some z)->
  (∀d ι' H' S' z,Ext ι H ι' H'->RS X.K ι' H' δ σ->RH X.K ι' H' S'->Q d S'->zaE m d=some z->Qv z H')->t σ H Qv:=by
 cases h with| no h=>obtain⟨d,rfl⟩:=h;refine⟨_,zgi,fun {δ σ ι H S Q Qv} hs hh w hp h=>?_⟩;exact h d ι H S none (Ext.refl _ _) hs hh w rfl| yes h=>refine⟨_,zgh h,fun {δ σ ι H S Q Qv} hs hh w hp h=>?_⟩;refine tE.run hs hh w fun d v ι1 H1 S1 x1 hs1 hh1 r1 w1=>?_;obtain⟨z,hz⟩:=hp d S1 w1;cases d with| int i=>obtain rfl:v=.int i:=r1;exact⟨i,rfl,h _ _ _ _ _ x1 hs1 hh1 w1 rfl⟩|_=>cases hz
theorem zlp{lo hi:Option Expr}(ha:PE X a (tE X.K cf ca))(hlo:PartOk X cf ml clo lo)(hhi:PartOk X cf mh chi hi):PE X (.Subscript a (.Slice lo hi none p2) pos) (tE X.K cf (.tx (.sl ml mh) (.cons ca (.cons clo (.cons chi .nil))))):=by obtain⟨tl,pl,rl⟩:=zgp hlo;obtain⟨th,ph,rh⟩:=zgp hhi;refine PE.imp (zeU zll ha pl ph) fun σ H Qv ⟨δ,ι,S,Q,hs,hh,w,q⟩=>?_;simp[evE,evEs,zaa,W_ok]at w;refine tE.run hs hh w fun d v ι1 H1 S1 x1 hs1 hh1 r1 w1=>?_;refine rl hs1 hh1 w1 (fun y S2 w2=>?_) fun y ι2 H2 S2 zl x2 hs2 hh2 w2 hzl=>?_;rw[W.iff]at w2;obtain⟨u,S3,_,w3⟩:=w2;obtain⟨x,l,h,_,_,e,_⟩:=zi9 w3;exact⟨l,e⟩;refine rh hs2 hh2 w2 (fun u S3 w3=>?_) fun u ι3 H3 S3 zh x3 hs3 hh3 w3 hzh=>?_;obtain⟨x,l,h,_,_,_,e,_⟩:=zi9 w3;exact⟨h,e⟩;obtain⟨x,l,h,rfl,hx,e1,e2,w4⟩:=zi9 w3;rw[hzl]at e1;rw[hzh]at e2;cases e1;cases e2;exact⟨x,r1,hx,q _ _ (Lf.up ((x1.trans x2).trans x3) (Lf.of (d:=.str _) hh3 rfl w4))⟩
theorem zi5{K:PySem.W.Frag}(x:Str):Wk K (Its x) (x.cps.toList.map fun c=>tS [c]) [] ι H S where
 go:=fun i ι2 H2 S2 lt hi=>by show i<x.cps.size;simpa using hi
 yld:=fun i ι2 H2 S2 v H' lt hi y=>by obtain⟨rfl,c,hc,rfl⟩:=y;exact⟨Ext.refl _ _,lt.rh,tS [c],by rw[getElem?_map];rw[show x.cps.toList[i]?=some c by simpa using hc];rfl,rfl⟩
 stop:=fun i ι2 H2 S2 lt hi=>by show x.cps.size<=i;simpa using hi
 lks:=fun l hl=>by simp at hl
theorem zlm(ha:PE X a (tE X.K cf ca)):PI X tg a (tI X.K cf (.txt ca)):=by
 refine PI.imp (zjV ha) fun σ H R ⟨δ,ι,S,Q,hs,hh,w,q⟩=>?_;simp[evL,zaa]at w;refine tE.run hs hh w fun d v ι1 H1 S1 x1 hs1 hh1 r1 w1=>?_;obtain⟨z,ez,w3⟩:=zax w1;cases d<;>first|(cases ez;done)|skip
 rename_i x;obtain rfl:v=.str x:=r1;unfold zft at ez;dsimp only at ez;split at ez;rename_i c;cases ez;exact⟨x,rfl,c.2,q _ _ ⟨_,[],ι1,S1,x1,hh1,w3,zi5 x⟩⟩;cases ez
end
section
variable{T:Tab}{cf:CF}{k:Nat}{N:List Str}{sc:Scope}{X:Cx}{pos p:Pos}
theorem zgv{α:Type}[BEq α]{xs:List α}{a:α}(h:xs.contains a=true):xs≠[]:=fun e=>by rw[e]at h;simp at h
theorem Gd.clsAt(G:Gd T cf k N sc X)(h0:T.flds≠[]\/T.inits≠[]\/T.isas≠[]){c:Nat}(h:Mks.cl[c]?=some C):∃x,T.cls[c]?=some x/\Cls X.K C/\X.mg x=some (.ref C)/\∀f,T.flds.contains f=true->NoAttr X.K C f:=by have hl:c<T.cls.length:=lt_of_lt_of_le (List.getElem?_eq_some_iff.mp h).1 (G.tab.cln h0);obtain⟨C',h1,h2,h3,h4⟩:=G.tab.cls c T.cls[c] (getElem?_eq_getElem hl);rw[h]at h1;cases h1;exact⟨_,getElem?_eq_getElem hl,h2,h3,h4⟩
theorem zh1
  (hbase:attributeBase o name env (eval o env)=eval o env)
  (hfew:((backTo pos (starEach args env)).all (fun x=>!x.1)&&(backToKw pos (keywordEach [] env)).all (fun x=>x.1.isSome)
   && decide (args.length+([]:List Keyword).length+(if([]:List Keyword).isEmpty then 0 else 1)<30))=true)
  (hline:(apos.endLine==pos.line)=true)
  (h:wpAny (model prog w) A (eval o env) (fun ov s₁=>∀pl,wpAny (model prog w) A (getMethod ov name pl) (fun fx s₂=>wpAny (model prog w) A (callWith pos fx.1 fx.2 (backTo pos (starEach args env)) (backToKw pos (keywordEach [] env))) Q E s₂) E s₁) E s) :
  wpAny (model prog w) A (eval (.Call (.Attribute o name apos) args [] pos) env) Q E s:=by
 rw[arm_eval_Call,hbase];refine wpAny_bind (wpAny_mono h (fun ov s₁ h₁=>?_) fun _ _ e=>e);refine wpAny_bind (wpAny_standAt ?_);have hform:methodCallForm (args.length+([]:List Keyword).length) (backTo pos (starEach args env)) (backToKw pos (keywordEach [] env))=true:=hfew;have hpos:methodCallPos true o env apos pos=pure pos:=by unfold methodCallPos;simp[hline]
 unfold methodCall;rw[hform];refine wpAny_bind (wpAny_holding (wpAny_mono (h₁ _) (fun fx s₂ h₂=>?_) fun _ _ e=>e));exact wpAny_bind (wpAny_of_eq hpos h₂)
theorem zhZ(hc:ces=.nil)(h:tAs X.K cf ces σ H Qa):tNil σ H Qa:=by subst hc;obtain⟨δ,ι,S,Q,hs,hh,w,q⟩:=h;exact q [] H ⟨[],ι,S,Ext.refl _ _,rfl,hh,by simpa[evEs]using w⟩
theorem Vals.nons:∀j:Nat,Vals (List.replicate j .non) (List.replicate j Value.none)
 |0=>.nil|j+1=>.cons rfl (Vals.nons j)
theorem ze1(G:Gd T cf k N sc X)(hC:Mks.cl[c]?=some C)(ht:∀{σ:L2.St}{H:Hp}{Qa:List V->Hp->Prop},tAs X.K cf ces σ H Qa->t σ H Qa)(h:tE X.K cf (.mk c f x j ces) σ H Qv):zjc C (spF X.K cf f) (List.replicate j V.non) E0 t σ H Qv:=by
 obtain⟨δ,ι,S,Q,hs,hh,w,q⟩:=h;simp[evE,zaa]at w;refine ht (tAs.run hs hh w fun ds vs ι1 H1 S1 x1 hs1 hh1 r1 w1=>?_);intro y dy hy hdy hne;have hh2:=hh1.new hdy (.own y);have x2:Ext ι1 H1 ι1 (upd H1 dy (.own y)):=Ext.new hdy _;have hy2:(upd H1 dy (.own y)) y=none:=by rw[zaf (Ne.symm hne)];exact hy
 have hh3:=hh2.obj' hy2 (.ins C dy []) (.ins c []) ⟨C,dy,[],hC,zai,rfl⟩;have x3:Ext ι1 (upd H1 dy (.own y)) (ι1++[y]) (upd (upd H1 dy (.own y)) y (.ins C dy [])):=Ext.obj hh2 hy2 _;unfold appW at w1;obtain⟨d,T',e,w2⟩:=zfN w1;refine⟨ι1++[y],S1.push (.ins c []),.ref S1.len::(ds++List.replicate j .non),⟨.ref y,_,rfl,⟨y,hh2.last y,rfl⟩,RVs.append ((r1.ext x2).ext x3) (RVs.nons j)⟩,hh3,?_⟩;rw[e];intro v H' ι' x' r hT;split at w2;rename_i hn;cases d with| non=>refine⟨r,q _ _ ⟨.ref S1.len,ι',T',((x1.trans x2).trans x3).trans x',⟨y,zb0 x'.pre (hh2.last y),rfl⟩,hT,w2⟩⟩|_=>cases hn
 exact w2.elim
theorem zny(G:Gd T cf k N sc X)(hi:T.inits.contains (c,f,j)=true)(hx:T.cls[c]?=some x)(hg:isGl sc x=true)(hd:(x==("__debug__":Str))=false)(ha:PA X (e::es) (tAs X.K cf ces))(hst:(e::es).all zah=true) :
  PE X (.Call (.Name x p) (e::es) [] pos) (tE X.K cf (.mk c f x j ces)):=by
 obtain⟨C,fa,fd,ps,hC,M,F,hb⟩:=(G.tab.ini c f j hi).ex;obtain⟨x',e1,_,hm,_⟩:=G.clsAt (.inr (.inl (zgv hi))) hC;rw[hx]at e1;cases e1;rw[all_cons,and_eq_true]at hst;exact PE.imp (zjY M F G.room' (G.gl hg) hm hb (Vals.nons j) zhW ha hd (zag hst.1 es X.env) (zaD hst.2)) fun σ H Qv h=>ze1 G hC (fun z=>z) h
theorem zlu(G:Gd T cf k N sc X)(hi:T.inits.contains (c,f,j)=true)(hx:T.cls[c]?=some x)(hg:isGl sc x=true)(hd:(x==("__debug__":Str))=false) :
  PE X (.Call (.Name x p) [] [] pos) (tE X.K cf (.mk c f x j .nil)):=by
 obtain⟨C,fa,fd,ps,hC,M,F,hb⟩:=(G.tab.ini c f j hi).ex;obtain⟨x',e1,_,hm,_⟩:=G.clsAt (.inr (.inl (zgv hi))) hC;rw[hx]at e1;cases e1;exact PE.imp (zhQ M F G.room' (G.gl hg) hm hb (Vals.nons j) zhW hd) fun σ H Qv h=>ze1 G hC (fun z=>zhZ rfl z) h
theorem zmB(hs:(e::es).all zah=true)(hn:(e::es).length<29):((backTo pos (starEach (e::es) env)).all (fun x=>!x.1)&&(backToKw pos (keywordEach [] env)).all (fun x=>x.1.isSome)
  && decide ((e::es).length+([]:List Keyword).length+(if([]:List Keyword).isEmpty then 0 else 1)<30))=true:=by
 have h0:=zaD (pos:=pos) (env:=env) hs;have h1:(backTo pos (starEach (e::es) env)).all (fun x=>!x.1)=true:=by rw[all_eq_true];intro x hx;have:=List.any_eq_false.mp h0 x hx;simpa using this
 have h2:decide ((e::es).length+([]:List Keyword).length+(if([]:List Keyword).isEmpty then 0 else 1)<30)=true:=by rw[decide_eq_true_eq];show(e::es).length+0+0<30;omega
 rw[h1,h2];rfl
end
def LfS(X:Cx)(ι:List Addr)(H:Hp)(Q:Fl->R.St->Prop)(E:Ends):Prop:=∀f ι' H' S',Ext ι H ι' H'->RH X.K ι' H' S'->Q f S'->(match f with|.nx δ'=>∀σ',RS X.K ι' H' δ' σ'->E.nx σ' H'|.rt d=>∀v,RV X.K ι' H' d v->E.rt v H'|.ex d=>∀a σ' pins s',RV X.K ι' H' d (.ref a)->Inv X pins σ' H' s'->Fly X.s₀.heap.objs.size H' s'.heap a->X.xe (.ref a) s')
noncomputable def tSt(X:Cx)(cf:CF)(cs:CS):TS:=fun E σ H=>∃δ ι S Q,RS X.K ι H δ σ/\RH X.K ι H S/\W (exS cf cs δ S) Q/\LfS X ι H Q E
theorem LfS.up(h:LfS X ι H Q E)(x:Ext ι H ι1 H1):LfS X ι1 H1 Q E:=fun f ι' H' S' x' hh q=>h f ι' H' S' (x.trans x') hh q
theorem PS.imp{st:Stmt}(h:PS X st t)(i:∀E σ H,t' E σ H->t E σ H):PS X st t':=fun pins s σ H E I q=>h pins s σ H E I (i E σ H q)
theorem PSs.imp{st:List Stmt}(h:PSs X st t)(i:∀E σ H,t' E σ H->t E σ H):PSs X st t':=fun pins s σ H E I q=>h pins s σ H E I (i E σ H q)
section
variable{T:Tab}{cf:CF}{k:Nat}{N:List Str}{sc:Scope}{X:Cx}{pos p:Pos}{rest:List Stmt}
theorem zlf:PSs X [] (tSt X cf .nil):=PSs.imp zdc fun E σ H ⟨δ,ι,S,Q,hs,hh,w,l⟩=>by exact l _ ι H S (Ext.refl _ _) hh w σ hs
theorem zli(G:Gd T cf k N sc X)(hi:N[i]?=some x)(hl:zbR sc x=true)(he:PE X e (tE X.K cf ce))(hc:za6 e=true)(hr:PSs X rest (tSt X cf r)) :
  PSs X (.Assign [.Name x p] e pos::rest) (tSt X cf (.asg i ce r)):=by
 refine PSs.imp (zan (zdN (by rw[G.nm];exact G.nd) (by rw[G.nm];exact hi) (G.lc hl).1 he (zbE hc _ _ _) (G.lc hl).2) hr) fun E σ H ⟨δ,ι,S,Q,hs,hh,w,l⟩=>?_;simp[exS,zaa]at w;refine tE.run hs hh w fun d v ι1 H1 S1 x1 hs1 hh1 r1 w1=>?_;exact⟨δ.set i (some d),ι1,S1,Q,hs1.set r1 i,hh1,w1,l.up x1⟩
theorem zji(G:Gd T cf k N sc X)(hi:N[i]?=some x)(hps:∃t,PS X (.Assign [.Name x p] e pos) (tAsg t (zdX i))/\∀σ H Qv,tE X.K cf ce σ H Qv->t σ H Qv)(hr:PSs X rest (tSt X cf r)) :
  PSs X (.Assign [.Name x p] e pos::rest) (tSt X cf (.asg i ce r)):=by
 obtain⟨t,hp,ht⟩:=hps;refine PSs.imp (zan hp hr) fun E σ H ⟨δ,ι,S,Q,hs,hh,w,l⟩=>?_;simp[exS,zaa]at w;refine ht _ _ _ (tE.run hs hh w fun d v ι1 H1 S1 x1 hs1 hh1 r1 w1=>?_);exact⟨δ.set i (some d),ι1,S1,Q,hs1.set r1 i,hh1,w1,l.up x1⟩
theorem zjf(he:PE X e (tE X.K cf ce))(hc:za6 e=true)(hr:PSs X rest (tSt X cf r)):PSs X (.Expr e pos::rest) (tSt X cf (.expr ce r)):=by refine PSs.imp (zan (zer he (zbE hc _ _ _)) hr) fun E σ H ⟨δ,ι,S,Q,hs,hh,w,l⟩=>?_;simp[exS,zaa]at w;refine tE.run hs hh w fun d v ι1 H1 S1 x1 hs1 hh1 r1 w1=>?_;exact⟨δ,ι1,S1,Q,hs1,hh1,w1,l.up x1⟩
theorem zle(he:PE X e (tE X.K cf ce))(hr:PSs X rest (tSt X cf r)):PSs X (.Return (some e) pos::rest) (tSt X cf (.ret ce r)):=by refine PSs.imp (zan (zlU he) hr) fun E σ H ⟨δ,ι,S,Q,hs,hh,w,l⟩=>?_;simp[exS,zaa]at w;refine tE.run hs hh w fun d v ι1 H1 S1 x1 hs1 hh1 r1 w1=>?_;exact l _ _ _ _ x1 hh1 w1 v r1
theorem znu(hc:PT X c (tT X.K cf cc))(ha:PSs X a (tSt X cf ca))(hb:PSs X b (tSt X cf cb))(hr:PSs X rest (tSt X cf r)):PSs X (.If c a b pos::rest) (tSt X cf (.ifS cc ca cb r)):=by
 refine PSs.imp (zan (zlV hc ha hb) hr) fun E σ H ⟨δ,ι,S,Q,hs,hh,w,l⟩=>?_;simp[exS,zaa]at w;refine tT.run hs hh w fun z ι1 H1 S1 x1 hs1 hh1 w1=>?_;have fin:LfS X ι1 H1 (fun f S2=>W (match f with|.nx δ'=>exS cf r δ' S2|.rt d=>.ok (.rt d) S2|.ex d=>.ok (.ex d) S2) Q) {E with nx:=tSt X cf r E}:=by intro f ι2 H2 S2 x2 hh2 q;cases f with|nx δ'=>exact fun σ' hs'=>⟨δ',ι2,S2,Q,hs',hh2,q,(l.up x1).up x2⟩|rt d=>exact fun v rv=>(l.up x1) _ _ _ _ x2 hh2 q v rv|ex d=>exact(l.up x1) _ _ _ _ x2 hh2 q
 cases z with|true=>exact⟨δ,ι1,S1,_,hs1,hh1,w1,fin⟩|false=>exact⟨δ,ι1,S1,_,hs1,hh1,w1,fin⟩
def FInv(K:PySem.W.Frag)(cf:CF)(g:List Nat)(b:CS)(Qf:Fl->R.St->Prop)(ds:List D)(lks:List Nat)(ι1:List Addr)(H1:Hp)(S1:R.St)(i:Nat)(σ':L2.St)(H':Hp):Prop:=i<=ds.length/\∃δ' ι' S',RS K ι' H' δ' σ'/\Ltr K ι1 H1 S1 lks ι' H' S'/\S'.lk=lks++S1.lk/\S1.len<=S'.len/\W (zaT g (exS cf b) (ds.drop i) δ' S') fun f S2=>Qf f {S2 with lk:=S1.lk}
theorem zlg(G:Gd T cf k N sc X)(hi:PI X tg iter (tI X.K cf it))(hg:PG X tg (tG X.K is))(hb:PSs X body (tSt X cf cb))(hset:zaz iter=true)(hr:PSs X rest (tSt X cf r)) :
  PSs X (.For tg iter body [] pos::rest) (tSt X cf (.forS is it cb r)):=by
 have hp:PassesOwn (model X.prog X.w) X.A X.env X.xe:=G.xe;refine PSs.imp (zan (zlW hp G.calm hi hg hb (zdk hset X.env)) hr) fun E σ H ⟨δ,ι,S,Q,hs,hh,w,l⟩=>?_;simp[exS,zaa]at w;refine⟨δ,ι,S,_,hs,hh,w,fun J H1 ⟨ds,lks,ι1,S1,x1,hh1,w1,wk⟩=>?_⟩;dsimp only at w1;unfold zaY at w1;rw[zaa]at w1;refine⟨fun i m σ' H'=>m=ds.length-i/\FInv X.K cf is cb (fun f S2=>W (match f with|.nx δ'=>exS cf r δ' S2|.rt d=>.ok (.rt d) S2|.ex d=>.ok (.ex d) S2) Q) ds lks ι1 H1 S1 i σ' H',⟨_,rfl,zero_le _,δ,ι1,{S1 with lk:=lks++S1.lk},hs.ext x1,⟨Ext.refl _ _,hh1.lk _,fun l _=>rfl⟩,rfl,le_refl _,w1⟩,?_⟩;rintro i m σ' H' ⟨rfl,hle,δ',ι',S',hs',lt,hlk,hln,wt⟩;have l1:=l.up (x1.trans lt.ext);rcases Nat.lt_or_eq_of_le hle with hlt|rfl;refine .inr ⟨wk.go i ι' H' S' lt hlt,FInv X.K cf is cb _ ds lks ι1 H1 S1 (i+1),fun σ2 H2 h=>⟨_,by omega,rfl,h⟩,fun x H2 hy=>?_⟩;obtain⟨x2,hh2,d,hd,rd⟩:=wk.yld i ι' H' S' x H2 lt hlt hy;rw[zcx hd]at wt;simp[zaT]at wt;cases ea:asgG is d δ' with|none=>rw[ea]at wt;exact wt.elim| some δ2=>rw[ea]at wt;rw[zaa]at wt;refine⟨δ',ι',d,δ2,hs'.ext x2,rd,ea,fun σ2 hs3=>⟨δ2,ι',S',_,hs3,hh2,zbJ G.tab.frm cb δ2 S' _ wt,?_⟩⟩;rintro f ι3 H3 S3 x3 hh3 ⟨w3,f3⟩;have k1:S3.lk=lks++S1.lk:=f3.lk.trans hlk;have k3:∀l∈lks,S3.get l=S1.get l:=fun l hl=>(f3.same l (by rw[hlk];exact mem_append_left _ hl) (lt_of_lt_of_le (wk.lks l hl) hln)).trans (lt.lck l hl);cases f with|nx δ3=>exact fun σ3 hs4=>⟨hlt,δ3,ι3,S3,hs4,⟨(lt.ext.trans x2).trans x3,hh3,k3⟩,k1,le_trans hln f3.lens,w3⟩|rt z=>exact fun v rv=>l1 _ _ _ _ (x2.trans x3) (hh3.lk _) w3 v rv|ex z=>exact l1 _ _ _ _ (x2.trans x3) (hh3.lk _) w3
 refine .inl ⟨wk.stop _ ι' H' S' lt (le_refl _),?_⟩;rw[List.drop_length]at wt;exact⟨δ',ι',{S' with lk:=S1.lk},Q,hs',lt.rh.lk _,wt,l1⟩
def zoe(H:Hp)(a:Addr)(y v:V)(H':Hp):Prop:=∃xs k j,H a=some (.lst xs)/\y=.int k/\L2.ixN xs.length k=some j/\H'=upd H a (.lst (xs.set j v))
def zlO(td ty tv:TE):TS:=fun D σ H=>tv σ H fun v H1=>td σ H1 fun x H2=>ty σ H2 fun y H3=>∃a H4,x=.ref a/\zoe H3 a y v H4/\D.nx σ H4
theorem zhK(hu:X.A.units+5<cLine)(ho:PE X o td)(hi:PE X i ty)(hv:PE X value tv)(hs:swapsWith value (some (.Subscript o i pos')) pos.line X.env=pure false) :
  PS X (.Assign [.Subscript o i pos'] value pos) (zlO td ty tv):=by
 intro pins s σ H D I h;refine wpAny_Assign_Subscript (thn (hv pins s σ H _ I h) fun r s1 ⟨v,H1,I1,rv,q1⟩=>thn (ho pins s1 σ H1 _ I1 q1) fun u s2 ⟨x,H2,I2,rx,q2⟩=>thn (hi pins s2 σ H2 _ I2 q2) fun iv s3 ⟨y,H3,I3,ry,a,H4,ex,g,q3⟩=>?_) hs;subst ex;obtain rfl:u=Value.ref a:=rx;obtain⟨xs,k,j,e,ey,ej,rfl⟩:=g;exact wpAny_mono (zhy pins s3 σ H3 (.ref a) y v (.ref a) iv r (fun H'=>D.nx σ H') I3 rfl ry rv ⟨a,xs,k,j,rfl,ey,e,ej,q3⟩) (fun _ s4 ⟨H',I4,q⟩=>⟨σ,H',I4,q⟩) fun _ _ z=>z
theorem zhv(G:Gd T cf k N sc X)(ha:PE X a (tE X.K cf ca))(hb:PE X b (tE X.K cf cb))(he:PE X e (tE X.K cf ce))(hc:za6 e=true)(hr:PSs X rest (tSt X cf r)) :
  PSs X (.Assign [.Subscript a b p] e pos::rest) (tSt X cf (.setIx ca cb ce r)):=by
 refine PSs.imp (zan (zhK (by have:=G.hu;omega) ha hb he (zbE hc _ _ _)) hr) fun E σ H ⟨δ,ι,S,Q,hs,hh,w,l⟩=>?_;simp[exS,zaa]at w;refine tE.run hs hh w fun d v ι1 H1 S1 x1 hs1 hh1 r1 w1=>?_;refine tE.run hs1 hh1 w1 fun x vx ι2 H2 S2 x2 hs2 hh2 r2 w2=>?_;refine tE.run hs2 hh2 w2 fun y vy ι3 H3 S3 x3 hs3 hh3 r3 w3=>?_;cases ed:dPut S3 x y d with
 |none=>rw[ed]at w3;exact w3.elim| some S4=>
  rw[ed]at w3;unfold dPut at ed;cases x with
  |ref i=>
   obtain⟨p,h1,rfl⟩:=r2.ext x3;dsimp only at ed;cases e:S3.get i with
   |none=>rw[e]at ed;cases ed
   |some ob=>
    rw[e]at ed;obtain⟨b,h2,h3⟩:=hh3.obj _ _ e;rw[h1]at h2;cases h2;cases ob with
    |lst ds=>
     obtain⟨xs,ha,rx⟩:=h3;cases y with
     |int k=>
      obtain rfl:vy=.int k:=r3;dsimp [zeu,bind_some]at ed;cases ej:R.ixN ds.length k with
      |none=>rw[ej]at ed;cases ed
      |some j=>rw[ej,bind_some]at ed;have rv:=r1.ext (x2.trans x3);have xw:=Ext.wr hh3 e h1 (.lst (xs.set j v));refine⟨p,_,rfl,⟨xs,k,j,ha,rfl,by rw[rx.length];exact ej,rfl⟩,δ,ι3,S4,Q,hs3.ext xw,hh3.wr e h1 ed ⟨_,zai,?_⟩,w3,l.up (((x1.trans x2).trans x3).trans xw)⟩;exact(RVs.set rv j rx).up xw.pre xw.kp
     |_=>cases ed
    |_=>cases ed
  |_=>cases ed
theorem zje(G:Gd T cf k N sc X)(hf:T.flds.contains f=true)(ha:PE X a (tE X.K cf ca))(he:PE X e (tE X.K cf ce))(hc:za6 e=true)(hr:PSs X rest (tSt X cf r)) :
  PSs X (.Assign [.Attribute a f p] e pos::rest) (tSt X cf (.setF ca f ce r)):=by
 refine PSs.imp (zan (ziH ha he (zbE hc _ _ _)) hr) fun E σ H ⟨δ,ι,S,Q,hs,hh,w,l⟩=>?_;simp[exS,zaa]at w;refine tE.run hs hh w fun d v ι1 H1 S1 x1 hs1 hh1 r1 w1=>?_;refine tE.run hs1 hh1 w1 fun x vx ι2 H2 S2 x2 hs2 hh2 r2 w2=>?_;cases ed:zbm S2 x f d with
 |none=>rw[ed]at w2;exact w2.elim| some S3=>
  rw[ed]at w2;unfold zbm at ed;cases x with
  |ref i=>
   obtain⟨b,h1,rfl⟩:=r2;dsimp only at ed;cases eo:S2.get i with
   |none=>rw[eo]at ed;cases ed
   |some ob=>
    rw[eo]at ed;cases ob with
    |ins c fs=>obtain⟨b',h2,C,dx,ws,hC,hb,rf⟩:=hh2.obj _ _ eo;rw[h1]at h2;cases h2;dsimp only at ed;split at ed;rename_i c2;obtain⟨_,_,cl,_,na⟩:=G.clsAt (.inl (zgv hf)) hC;have rv:=r1.ext x2;have xw:=Ext.wr hh2 eo h1 (.ins C dx (putF f v ws));refine⟨b,C,dx,ws,rfl,hb,cl,na f hf,by rw[rf.length];exact c2,δ,ι2,S3,Q,hs2.ext xw,hh2.wr eo h1 ed ⟨C,dx,_,hC,zai,(rf.put f rv).up xw.pre xw.kp⟩,w2,l.up ((x1.trans x2).trans xw)⟩;cases ed
    |_=>cases ed
  |_=>cases ed
theorem zjh(G:Gd T cf k N sc X)(hn:zbD sc N is es=true)(h2:2<=is.length)(he:PE X e (tE X.K cf ce))(hx:(∃x q,e=.Name x q)\/∃f as ks q,e=.Call f as ks q)(hr:PSs X rest (tSt X cf r)) :
  PSs X (.Assign [.Tuple es j p] e pos::rest) (tSt X cf (.asgT is ce r)):=by
 have hs:swapsWithSole [.Tuple es j p] e pos.line X.env=pure false:=by rcases hx with⟨x,q,rfl⟩|⟨f,as,ks,q,rfl⟩<;>rfl
 have hw:swappedStores [.Tuple es j p] e X.env=pure none:=by rcases hx with⟨x,q,rfl⟩|⟨f,as,ks,q,rfl⟩<;>rfl
 refine PSs.imp (zan (zlX he (ziA G hn h2) hs hw) hr) fun E σ H ⟨δ,ι,S,Q,hs,hh,w,l⟩=>?_;simp[exS,zaa]at w;refine tE.run hs hh w fun d v ι1 H1 S1 x1 hs1 hh1 r1 w1=>?_;obtain⟨δ2,ea,w2⟩:=zax w1;exact⟨δ,ι1,d,δ2,hs1,r1,ea,fun σ' hs'=>⟨δ2,ι1,S1,Q,hs',hh1,w2,l.up x1⟩⟩
end
theorem zeB{K:PySem.W.Frag}{id:String}{rest:List Expr}
  (h:wpAny M A (spliced (backTo pos (starEach (e::rest) env))) (fun vs s1=>K.In s1.heap/\wpAny M A (call (.builtin id) ([]++vs)) Q E s1) E s)
  (he:starEach (e::rest) env=(false,eval e env)::starEach rest env) (hp:(backTo pos (starEach rest env)).any (·.1)=false) :
  wpAny M A (callWith pos (.builtin id) [] (backTo pos (starEach (e::rest) env)) []) Q E s:=by
 rw[he]at h⊢;refine PySem.W.callWith_of (by show((false||(backTo pos (starEach rest env)).any (·.1))||false)=false;rw[hp];rfl) (fun _ _=>⟨.machine,.inr (.inl rfl),.now⟩) (Calls.evalArgs_plain h)
section
variable{X:Cx}{xR y f:Str}{fI:Addr}
theorem zjZ(u:XUp X.K X.mg xR)(hg:Gl X xR)(hdb:(xR==("__debug__":Str))=false)(h0:X.N[0]?=some ("self":Str))(hv:Vis X.env.scope "self")(hl:(p2.endLine==p5.line)=true) :
  PE X (.Call (.Attribute (.Name xR p1) "__init__" p2) [.Name "self" p3,.Constant (.str txt) j p4] [] p5) (fun σ H Q=>∃e C,σ[0]?=some (some (.ref e))/\H e=some (XN e C)/\excJ X.K C fI=true/\Q .non H):=by
 obtain⟨CR,hm,h1,h2,h3⟩:=u.ex;intro pins s σ H Q I ⟨e,C,he,hx,hc,q⟩;refine zh1 (zcM rfl _ _ _) (zmB rfl (by show 2<29;decide)) hl (thn (zes (v:=.ref CR) hg hm rfl hdb pins s σ H (fun v H1=>v=.ref CR/\H1=H) I ⟨rfl,rfl⟩) fun u s1 ⟨xv,H1,I1,rx,ex,eH⟩ pl=>?_);subst ex eH;obtain rfl:u=Value.ref CR:=rx;refine PySem.W.method_cls I1.kIn h1 (PySem.W.cls_value I1.kIn h2 h3 rfl ?_);refine zeB (thn ((zaF (zdP h0 hv) (zaF zdQ zbC)) p5 pins _ σ H1 (fun vs H2=>vs=[V.ref e,V.str txt]/\H2=H1) (I1.tok _) ⟨_,he,rfl,rfl⟩) fun us s2 ⟨vs,H2,I2,r,ev,eH⟩=>⟨I2.kIn,?_⟩) rfl rfl;subst ev eH;obtain⟨u1,u2,rfl,r1,r2⟩:=zhs r;obtain rfl:u1=Value.ref e:=r1;exact zkk I2 hc hx fun s' I'=>⟨.non,H2,I',rfl,q⟩
theorem zhL(h0:X.N[0]?=some ("self":Str))(h1:X.N[1]?=some y)(v0:Vis X.env.scope "self")(v1:Vis X.env.scope y)(n2:(y==("__debug__":Str))=false/\(y==("__classdict__":Str))=false) :
  PS X (.Assign [.Attribute (.Name "self" p7) f p8] (.Name y p9) p10) (fun D σ H=>∃e C v,σ[0]?=some (some (.ref e))/\σ[1]?=some (some v)/\H e=some (XN e C)/\Xc X.K C fI f/\∀dx od,H dx=none->dx≠e->D.nx σ (upd (upd H dx (.frz od (.xd [(f,v)]))) e (XD e C dx))):=by
 intro pins s σ H D I ⟨e,C,v,e0,e1,hx,hc,q⟩;refine plainObj_wpAny_Assign_Attribute (thn ((zdP h1 v1 n2.1 n2.2) pins s σ H (fun u H1=>u=v/\H1=H) I ⟨v,e1,rfl,rfl⟩) fun u s1 ⟨z,H1,I1,ry,ez,eH⟩=>thn ((zdP h0 v0) pins s1 σ H1 (fun u H2=>u=.ref e/\H2=H1) I1 ⟨_,e0,rfl,rfl⟩) fun ov s2 ⟨x,H2,I2,rx,ex,eH2⟩=>?_) rfl;subst ez eH ex eH2;obtain rfl:ov=Value.ref e:=rx;exact zkz I2 hc hx ry fun dx od s' k1 k2 I'=>⟨σ,_,I',q dx od k1 k2⟩
end
theorem zkl{K:PySem.W.Frag}{st:Stmt}(FV:FunV K "__init__" qual st .none fI fd)(S:XSt st xR y f)(u:XUp K mg xR) :
  FnOk P w K mg base CX0 (k+1) fI fd ["self",y] (spI K fI f):=by
 obtain⟨txt,j,p1,p2,p3,p4,p5,p6,p7,p8,p9,p10,eb,hl⟩:=S.body;refine FV.ok S.sc (fun vs H Q E ⟨e,C,v,h,_⟩=>by rw[h];rfl) fun cdv A outer s H vs Q E hr h=>?_;obtain⟨e,C,v,rfl,he,hc,q⟩:=h;rw[eb];refine⟨_,zan (zer (zjZ (fI:=fI) u S.gl S.n1 rfl (.inl S.v1) hl)) (zan (zhL (fI:=fI) rfl rfl (.inl S.v1) (.inl S.v2) S.n2) zdc),?_⟩;exact⟨e,C,rfl,he,hc.ex,e,C,v,rfl,rfl,he,hc,fun dx od k1 k2=>q dx od k1 k2⟩
section
variable{X:Cx}{pins:List (Addr×Obj)}{σ:L2.St}{H:Hp}{s:Shared}{C fI:Addr}{f:Str}{k:Nat}{fd:FuncData}{ps:List Str}
theorem upd3(h:dx≠e):upd (upd (upd H e o1) dx o2) e o3=upd (upd H dx o2) e o3:=by funext b;unfold upd;by_cases h1:b=e;simp[h1];simp[h1]
theorem zdB(F:FnOk X.prog X.w X.K X.mg X.base CX0 k fI fd ps (spI X.K fI f))(hr:Room (k+1) X.A)(hb:Binds X.K fd ps [])(c:Xc X.K C fI f)(I:Inv X pins σ H s)(rv:RelV v u)
  (h:∀e dx od s',H e=none->H dx=none->dx≠e->s.heap.objs.size<=e->Inv X pins σ (upd (upd H dx (.frz od (.xd [(f,v)]))) e (XD e C dx)) s'->Q (.ref e) s'):wpAny (model X.prog X.w) X.A (call (.ref C) [u]) Q X.xe s:=by
 obtain⟨nm,q,N,bs,bm,hdct,sn,sub,ab,col,dd,k0,k1,k2,k3,k5,mN,hC,hn,hi,T⟩:=(ziZ I.kIn c.ex).ex;obtain⟨oI,hfI,hfc⟩:∃oI,s.heap.get? fI=some oI/\oI.cls=.type "function":=by have z:=beq_iff_eq.mp c.fn;unfold PySem.W.typeIn at z;cases e:X.K.lookup fI with|none=>simp[e]at z|some o=>exact⟨o,I.kIn _ _ e,by simpa[e]using z⟩
 obtain⟨hh,g,d,t,os⟩:=s;refine zid PySem.F.excBase_ValueError T hC hn hi hfI hfc (fun h' e m z=>?_) (by show 1<=sizeLine;rw[sizeLine_eq];omega);obtain⟨t0,e1,_⟩:=m.there;have I1:Inv X pins σ (upd H e (XN e C)) ⟨h',g,d,t,os⟩:=I.laid (t':=t) m.keeps z (XN.ok e1);have r2:Vals [V.ref e,v] [Value.ref e,u]:=.cons rfl (.cons rv .nil);have he:H e=none:=I.hok.fresh z;have hq:spI X.K fI f [.ref e,v] (upd H e (XN e C)) (fun v' H'=>v'=.non/\∃dx od,(upd H e (XN e C)) dx=none/\dx≠e/\H'=upd (upd (upd H e (XN e C)) dx (.frz od (.xd [(f,v)]))) e (XD e C dx)) E0:=⟨e,C,v,rfl,zai,c,fun dx od k1 k2=>⟨rfl,dx,od,k1,k2,rfl⟩⟩;refine wpAny_call (codeAny_mono (F.run _ X.stack _ _ ⟨[Value.ref e,u],[]⟩ [Value.ref e,u] _ _ E0 (hr.make C [u] []) (I1.env0.make C [u] []) (hb _ [Value.ref e,u] I1.kIn (by have:=r2.length;rw[F.len _ _ _ _ hq]at this;exact this.symm)) r2 hq) fun r s' hq'=>?_);cases r with
 |error x=>exact False.elim hq'| ok fl=>
  cases fl with
  |ret u'=>
   obtain⟨v',H',I3,rv',ev,dx,od,k1,k2,eH⟩:=I1.after hq';subst ev eH;refine⟨rv',h e dx od s' he ?_ k2 z ?_⟩
   . rwa [zaf k2]at k1
   rw[upd3 k2]at I3;exact I3
  |next=>exact False.elim hq'|brk=>exact False.elim hq'|cont=>exact False.elim hq'
theorem ziM(I:Inv X pins σ (upd H0 e (XD e C dx)) s):Inv X pins σ (upd H0 e (XO e C dx)) s:=by obtain⟨⟨t,et⟩,_⟩:=(I.hok e _ zai);have:=I.write (t':=s.toks) (h':=s.heap) (by rw[zai];exact True.intro) (.inl rfl) (fun _ _ _ q=>q) ⟨_,et⟩ (XO.ok et (by show 1<6;decide));rw[zi7]at this;exact this
end
section
variable{M:Model}{A:Around}{E:Value->Shared->Prop}{s:Shared}{env:Env}
variable{nm q:Str}{C N:Addr}{bs bm:List Value}{hdct:Bool}{sn:List Str}{sub:List Value}{ab:Bool}{col:Option Bool}{dd:Option Addr}{k0 k1 k2 k3 k5:Option Value}{newId:String}
theorem zhE(hh:A.handled=none)
  (h:wpAny M A x (fun v s1=>∃e t dx nm q N bs bm hdct sn sub ab col dd k0 k1 k2 k3 k5 newId,v=.ref e/\s1.heap.get? C=some (excClassObj nm q C N bs bm hdct sn sub ab col dd k0 k1 k2 k3 k5 newId)/\bm.contains (.type "BaseException")=true/\
   s1.heap.get? e=some (newX (.ref C) dx t)/\E (.ref e) s1) E s):wpAny M A (raiseStmt env (some x) none) Q E s:=by
 unfold raiseStmt;refine wpAny_bind (wpAny_mono h (fun v s1 h1=>?_) fun _ _ z=>z);obtain⟨e,t,dx,nm,q,N,bs,bm,hdct,sn,sub,ab,col,dd,k0,k1,k2,k3,k5,newId,rfl,hC,hb,he,hE⟩:=h1;have hcB:(Value.ref C::bm).contains (.type "BaseException")=true:=by rw[List.contains_cons,hb,Bool.or_true]
 obtain⟨hp,g,d,tk,os⟩:=s1
 repeat (first|with_reducible refine wpAny_loadPart_at he ?_|with_reducible refine wpAny_loadPart_at hC ?_|(with_reducible refine wpAny_isSubtype_exc hC ?_;rw[hcB])|wp_step)
 exact wpAny_raiseNew_none hh hE
end
section
variable{X:Cx}{C fI:Addr}{f x:Str}{k:Nat}{fd:FuncData}{ps:List Str}{te:TE}{e:Expr}{np cpos pos:Pos}
theorem zhO(F:FnOk X.prog X.w X.K X.mg X.base CX0 k fI fd ps (spI X.K fI f))(hr:Room (k+1) X.A)(hb:Binds X.K fd ps [])(c:Xc X.K C fI f)(hg:Gl X x)(hm:X.mg x=some (.ref C))(hk:keepIn X.K (.ref C)=true)(ha:PE X e te)(hst:zah e=true)(hdb:(x==("__debug__":Str))=false) :
  PE X (.Call (.Name x np) [e] [] cpos) (fun σ H Q=>te σ H fun v H1=>∀a dx od,H1 a=none->H1 dx=none->dx≠a->Q (.ref a) (upd (upd H1 dx (.frz od (.xd [(f,v)]))) a (XO a C dx))):=by
 intro pins s σ H Q I h;refine wpAny_Call_Name_kw (za7 I hg hm ?_ hdb);refine callWith_K I.ok.mod.kin hk (thn ((zaF ha zbC (zag hst _ _)) cpos pins s σ H (fun vs H1=>match vs with | [v]=>∀a dx od,H1 a=none->H1 dx=none->dx≠a->Q (.ref a) (upd (upd H1 dx (.frz od (.xd [(f,v)]))) a (XO a C dx))|_=>False) I h) fun us s1 ⟨vs,H1,I1,r,q⟩=>⟨I1.kIn,?_⟩) (zag hst _ _) rfl;cases r with|nil=>exact q.elim| cons ru rn=>cases rn with|nil=>exact zdB F hr hb c I1 ru fun a dx od s' k1 k2 k3 _ I'=>⟨.ref a,_,ziM I',rfl,q a dx od k1 k2 k3⟩|cons _ _=>exact q.elim
theorem zja{lo:Nat}:Trc h a #[.ref t,.none,.none,.none,.bool false,.none] lo:=.inl rfl
theorem zhJ(F:FnOk X.prog X.w X.K X.mg X.base CX0 k fI fd ps (spI X.K fI f))(hr:Room (k+1) X.A)(hb:Binds X.K fd ps [])(c:Xc X.K C fI f)(hg:Gl X x)(hm:X.mg x=some (.ref C))(hk:keepIn X.K (.ref C)=true)(ha:PE X e te)(hst:zah e=true)(hdb:(x==("__debug__":Str))=false)(hc:X.calm=true) :
  PS X (.Raise (some (.Call (.Name x np) [e] [] cpos)) none pos) (fun D σ H=>te σ H fun v H1=>∀a dx od pins s',H1 a=none->H1 dx=none->dx≠a->Inv X pins σ (upd (upd H1 dx (.frz od (.xd [(f,v)]))) a (XO a C dx)) s'->Fly X.s₀.heap.objs.size (upd (upd H1 dx (.frz od (.xd [(f,v)]))) a (XO a C dx)) s'.heap a->X.xe (.ref a) s'):=by
 intro pins s σ H D I h;refine wpAny_bind (wpAny_standAt (zhE (C:=C) (I.ok.hd hc) ?_));refine wpAny_bind (wpAny_Call_Name_kw (za7 I hg hm ?_ hdb));refine callWith_K I.ok.mod.kin hk (thn ((zaF ha zbC (zag hst _ _)) cpos pins s σ H (fun vs H1=>match vs with | [v]=>∀a dx od pins s',H1 a=none->H1 dx=none->dx≠a->Inv X pins σ (upd (upd H1 dx (.frz od (.xd [(f,v)]))) a (XO a C dx)) s'->Fly X.s₀.heap.objs.size (upd (upd H1 dx (.frz od (.xd [(f,v)]))) a (XO a C dx)) s'.heap a->X.xe (.ref a) s'|_=>False) I h) fun us s1 ⟨vs,H1,I1,r,q⟩=>⟨I1.kIn,?_⟩) (zag hst _ _) rfl;cases r with|nil=>exact q.elim| cons ru rn=>cases rn with|cons _ _=>exact q.elim| nil=>refine zdB F hr hb c I1 ru fun a dx od s' k1 k2 k3 kz I'=>wpAny_bind (wpAny_standAt (wpAny_pure ?_));obtain⟨nm,q',N,bs,bm,hdct,sn,sub,ab,col,dd,k0,k1',k2',k3',k5,mN,hC,hn,hi,T⟩:=(ziZ I'.kIn c.ex).ex;obtain⟨⟨t,et⟩,_⟩:=(I'.hok a _ zai);refine⟨a,t,some dx,nm,q',N,bs,bm,hdct,sn,sub,ab,col,dd,k0,k1',k2',k3',k5,_,rfl,hC,T.hasType rfl,et,?_⟩;refine q a dx od pins s' k1 k2 k3 (ziM I') ⟨⟨C,dx,_,_,zai,et,zja,fun T hT=>?_⟩,le_trans I1.sz kz⟩;cases hT
end
noncomputable abbrev mkC(X:Cx)(e:Value):Cx:={X with A:=X.A.mark (some e),calm:=false,xe:=fun _ _=>False}
section
variable{X:Cx}{pins:List (Addr×Obj)}{σ:L2.St}{H:Hp}{s:Shared}
theorem zfa(I:Inv X pins σ H s)(e:Value):Inv (mkC X e) pins σ H s:=⟨⟨I.ok.mod,I.ok.kind,I.ok.glob,I.ok.blt,I.ok.above,I.ok.inj,I.ok.has,I.ok.cab,(fun z=>by cases z),I.ok.frames,I.ok.stk,I.ok.exf,I.ok.bs,I.ok.bsz,I.ok.noex,I.ok.exfs,I.ok.funs,I.ok.frf⟩,I.os,I.bare,I.base,I.loc,I.cell,I.free,I.freeC,I.pin,I.hok,I.len⟩
theorem zfJ(ok:X.Ok)(I:Inv (mkC X e) pins σ H s):Inv X pins σ H s:=⟨ok,I.os,I.bare,I.base,I.loc,I.cell,I.free,I.freeC,I.pin,I.hok,I.len⟩
theorem zh6(I:Inv X pins σ H s)(nd:X.N.Nodup)(hi:X.N[ie]?=some n)
  (hm:∀(i:Nat)(x:Str)(v:V),X.N[i]?=some x->σ[i]?=some (some v)->Vis X.env.scope x->∃u,RelV v u/\Look X.env s.heap m x u) (hn:h'.Ns X.env.locals (fun x=>if x=n then v else m x)) (sb:Heap.SameBut X.env.locals s.heap h') :
  Inv X pins (σ.set ie none) H {s with heap:=h',toks:=t'}:=by
 have k:∀b o,b≠X.env.locals->s.heap.get? b=some o->h'.get? b=some o:=fun b o hb q=>(sb.2 b hb).trans q;have neL:∀b o,X.s₀.heap.get? b=some o->b≠X.env.locals:=fun b o e=>ne_of_lt (lt_of_lt_of_le (Heap.lt_size e) I.ok.above);have cellK:∀x c,X.env.cells.lookup x=some c->∀v,s.heap.IsCell c v->h'.IsCell c v:=fun x c e v ⟨o,ho,hd⟩=>⟨o,k c o (I.cne x c e) ho,hd⟩;refine⟨I.ok,I.os,I.bare,⟨fun b o e n hb hx=>k b o (neL b o e) (I.base.keep b o e n hb hx),fun b o e n hb hx=>?_,I.base.free,fun b o e hx=>?_,I.base.tups,I.base.frzs,I.base.tbls⟩,⟨_,hn,fun i x u h1 h2 h3=>?_⟩,fun x c e=>?_,I.free,I.freeC,fun p hp=>?_,fun b o e=>?_,by rw[List.length_set];exact I.len⟩;obtain⟨sl,q⟩:=I.base.slot b o e n hb hx;exact⟨sl,k b _ (neL b o e) q⟩;obtain⟨o',q⟩:=I.base.there b o e hx;exact⟨o',k b _ (neL b o e) q⟩;have hij:i≠ie:=fun z=>by subst z;rw[List.getElem?_set]at h2;simp only[if_true]at h2;split at h2<;>cases h2
 rw[getElem?_set_ne (Ne.symm hij)]at h2;obtain⟨w,r,l⟩:=hm i x u h1 h2 h3;have hxn:x≠n:=fun z=>hij (by
  obtain⟨a1,e1⟩:=List.getElem?_eq_some_iff.mp h1;obtain⟨a2,e2⟩:=List.getElem?_eq_some_iff.mp hi;exact(List.getElem_inj nd).mp (e1.trans (z.trans e2.symm)))
 refine⟨w,r,?_⟩;rcases l with⟨a1,a2⟩|⟨a1,c,a2,a3⟩;exact .inl ⟨a1,by show(if x=n then v else m x)=_;rw[if_neg hxn];exact a2⟩;exact .inr ⟨a1,c,a2,cellK x c a2 _ a3⟩;obtain⟨v,z⟩:=I.cell x c e;exact⟨v,cellK x c e v z⟩;obtain⟨e,n,ne,nf,d⟩:=I.pin p hp;exact⟨k _ _ ne e,n,ne,nf,d⟩;refine(I.hok b o e).stay (fun c u hc q=>k c u (fun z=>?_) q) (fun _ q=>q) fun _ _ q=>q;have:H c≠none:=by rcases hc with y|y<;>(first|(rw[y,e];simp)|(rw[y];simp))
 exact this (by rw[z];exact I.free)
end
section
variable{X:Cx}{pins:List (Addr×Obj)}{σ:L2.St}{H:Hp}{s:Shared}{a C dx CR:Addr}{lo ie ix:Nat}{xR n y:Str}{np p1 p2 p3 hp:Pos}{D:Ends}
theorem zb6(I:Inv X pins σ H s)(stk:X.stack=X.env::X.outer)(fr:X.env.frame=some X.env.locals)(f:Fly lo H s.heap a)(l:X.s₀.heap.objs.size<=lo)(hpn:∀p∈X.pn++pins,p.1<lo)(h:∀s',Inv X pins σ H s'->Fly lo H s'.heap a->Q () s'):wpAny M A (setFlight (.ref a) fr') Q E s:=by obtain⟨C,dx,vs,sl,h1,h2,tr,h4⟩:=id f.ex;rcases tr with t|t;unfold setFlight;refine wpAny_bind (wpAny_field h2 rfl t ?_);exact wpAny_pure (h s I f);refine zgV (by rw[<-stk];exact I.stack) h2 rfl t fun h' nt=>?_;obtain⟨I1,f1⟩:=zbT I stk fr f l hpn h2 rfl nt;exact h _ I1 f1
theorem zii(I:Inv X pins σ H s)(stk:X.stack=X.env::X.outer)(fr:X.env.frame=some X.env.locals)(fl:Fly lo H s.heap a)(l:X.s₀.heap.objs.size<=lo)(lz:lo<=s.heap.objs.size)(hpn:∀p∈X.pn++pins,p.1<lo)(cl:H a=some (XO a C dx))
  (hx:PySem.W.exmOne X.K (.ref C) (.ref CR)=some true) (hg:Gl X xR) (hm:X.mg xR=some (.ref CR)) (hdb:(xR==("__debug__":Str))=false) (nd:X.N.Nodup) (hn:X.N[ie]?=some n) (hy:X.N[ix]?=some y) (nl:X.env.scope.names.lookup n=some .local) (yl:Loc X.env.scope y)
  (yf:X.fn y=true\/X.env.scope.names.lookup y=some .local) (n1:(n==("__debug__":Str))=false) (n2:(n==("__classdict__":Str))=false) (hij:ie≠ix) (q:D.nx ((σ.set ie none).set ix (some (.ref a))) H) :
  wpAny (model X.prog X.w) X.A (noteFrame (.ref a) X.env) (fun _ s2=>wpAny (model X.prog X.w) X.A (setFlight (.ref a) none) (fun _ s3=>wpAny (model X.prog X.w) X.A (handleBy (.ref a) X.env [.ExceptHandler (some (.Name xR np)) (some n) [.Assign [.Name y p1] (.Name n p2) p3] hp]) (SP X pins D) X.xe s3) X.xe s2) X.xe s:=by
 obtain⟨C0,dx0,vs,sl,h1,h2,tr,h4⟩:=id fl.ex;refine zeW (by rw[I.ok.frames,stk]) (by rw[<-stk];exact I.stack) fr h2 rfl tr lz fun h' nt=>?_;obtain⟨I1,f1⟩:=zbT I stk fr fl l hpn h2 rfl nt;refine wpAny_handleBy_cons (codeAny_handlers_test (za7 (zfa I1 (.ref a)) hg hm ?_ hdb)) (by intro z;cases z);obtain⟨vs2,sl2,e2,_⟩:=(I1.hok a _ cl).1;have LT:PySem.W.Looks (model X.prog X.w) h' (typeOf (.ref a)) (.ref C):=(PySem.W.Looks.ld e2).andThen .now;apply(PySem.W.exm_one I1.kIn LT hx).here;refine codeAny_handlers_suite_as (zb6 I1 stk fr f1 l hpn fun s3 I3 f3=>zc0 I3 nd hn (.inl nl) (v:=.ref a) rfl (fun s4 I4=>?_) (.inr nl));have pv:PE (mkC X (.ref a)) (.Name n p2) (tVar ie):=zdP hn (.inl nl) n1 n2;have hb:=zan (zdN (X:=mkC X (.ref a)) (pos:=p3) (pos':=p1) nd hy yl pv (by rfl) yf) zdc pins s4 (σ.set ie (some (.ref a))) H {nx:=fun σ' H'=>σ'=(σ.set ie (some (.ref a))).set ix (some (.ref a))/\H'=H,rt:=fun _ _=>False} (zfa I4 _)
  ⟨.ref a,by rw[getElem?_set_self (by rw[I3.len];exact(List.getElem?_eq_some_iff.mp hn).1)],rfl,rfl⟩
 refine wpAny_mono hb (fun fl s5 z=>?_) fun _ _ z=>z.elim;cases fl with
 |next=>
  obtain⟨σ',H',I5,rfl,rfl⟩:=z;have I5:=zfJ I.ok I5;obtain⟨m,hm5,hl5⟩:=id I5.loc;have hcls:(X.env.scope.kind==.class||(X.env.scope.kind==.module&&X.env.locals != X.env.globals))=false:=by rw[I.ok.kind];rfl
  refine wpAny_nameGoes_keeps nl hm5 hcls fun h6 v hn6 sb=>?_;have I6:=zh6 (t':=s5.toks+1) I5 nd hn hl5 hn6 sb;refine⟨_,_,I6,?_⟩;rw[List.set_comm _ _ (Ne.symm hij),List.set_set];exact q
 |ret u=>obtain⟨_,_,_,_,_,z⟩:=z;exact z.elim|brk=>obtain⟨_,_,_,z⟩:=z;exact z.elim|cont=>obtain⟨_,_,_,z⟩:=z;exact z.elim
end
section
variable{T:Tab}{cf:CF}{k:Nat}{N:List Str}{sc:Scope}{X:Cx}{pos p:Pos}{rest:List Stmt}
theorem zcw(h:zbo S x=some (c,fs)):∃l,x=.ref l/\S.get l=some (.exc c fs):=by
 cases x with
 |ref l=>
  simp[zbo]at h;cases e:S.get l with
  |none=>rw[e]at h;cases h
  |some o=>rw[e]at h;cases o with|exc c' fs'=>cases h;exact⟨l,rfl,e⟩|_=>cases h
 |_=>cases h
theorem ziF(hh:RH X.K ι H S)(r:RV X.K ι H d v)(hC:Mks.xc[c]?=some C)(k1:H a=none)(k2:H dx=none)(k3:dx≠a) :
  Ext ι H (ι++[a]) (upd (upd H dx (.frz od (.xd [(f,v)]))) a (XO a C dx))/\RH X.K (ι++[a]) (upd (upd H dx (.frz od (.xd [(f,v)]))) a (XO a C dx)) (S.push (.exc c [(f,d)])):=by
 have hh2:=hh.new k2 (.frz od (.xd [(f,v)]));have x2:Ext ι H ι (upd H dx (.frz od (.xd [(f,v)]))):=Ext.new k2 _;have k4:(upd H dx (.frz od (.xd [(f,v)]))) a=none:=by rw[zaf (Ne.symm k3)];exact k1
 have x3:=Ext.obj hh2 k4 (XO a C dx);refine⟨x2.trans x3,hh2.obj' k4 (XO a C dx) (.exc c [(f,d)]) ⟨C,dx,od,[(f,v)],hC,zai,?_,v,[],rfl,(r.ext x2).ext x3,rfl⟩⟩;rw[zaf k3,zai]
theorem zls(G:Gd T cf k N sc X)(hc:T.xcs.contains (c,x,f)=true)(hx:isGl sc x=true)(hd:(x==("__debug__":Str))=false)(ha:PE X e (tE X.K cf ce))(hst:zah e=true) :
  PE X (.Call (.Name x p) [e] [] pos) (tE X.K cf (.mkX c x f ce)):=by
 obtain⟨C,fI,fd,ps,hC,hm,hk,c',F,hb⟩:=G.tab.xtb.cl c x f hc;refine PE.imp (zhO F G.room' hb c' (G.gl hx) hm hk ha hst hd) fun σ H Qv ⟨δ,ι,S,Q,hs,hh,w,q⟩=>?_;simp[evE,zaa]at w;refine tE.run hs hh w fun d v ι1 H1 S1 x1 hs1 hh1 r1 w1=>?_;intro a dx od k1 k2 k3;obtain⟨x2,hh2⟩:=ziF hh1 r1 hC k1 k2 k3;exact q _ _ ⟨.ref S1.len,ι1++[a],_,x1.trans x2,⟨a,hh1.last a,rfl⟩,hh2,w1⟩
theorem ziQ{σ:L2.St}(I:Inv X pins σ H s)(h1:H a=some (XO a C dx))(h2:H dx=some (.frz od (.xd ws))) :
  ∃ox,PySem.W.InstAt s.heap a ox C (some od)/\∃mA:Str->Option Value,(∀f,lookIn f od=some (mA f))/\∀f,RelO (ws.lookup f) (mA f):=by
 obtain⟨vs,sl,e,_⟩:=(I.hok a _ h1).1;obtain⟨e2,mA,n,r⟩:=(I.hok dx _ h2);obtain⟨od',ho,hl⟩:=zdU n;rw[e2]at ho;cases ho;exact⟨_,⟨e,rfl,rfl,e2⟩,mA,hl,r⟩
theorem zjy(G:Gd T cf k N sc X)(ha:PE X a (tE X.K cf ca))(hsup:zbt a=true)(hf:T.xflds.contains f=true):PE X (.Attribute a f pos) (tE X.K cf (.fldX ca f)):=by
 intro pins s σ H Qv I ⟨δ,ι,S,Q,hs,hh,w,q⟩;simp[evE,zaa]at w;refine zkA (zcM hsup f X.env _) (thn (ha pins s σ H (fun v H1=>∃b C dx od ws u,v=.ref b/\XGet X.K C/\NoAttr X.K C f/\H1 b=some (XO b C dx)/\H1 dx=some (.frz od (.xd ws))/\ws.lookup f=some u/\Qv u H1) I (tE.run hs hh w fun d v ι1 H1 S1 x1 hs1 hh1 r1 w1=>?_)) fun u s1 ⟨x,H1,I1,rx,b,C,dx,od,ws,v,ex,g,n,e1,e2,e3,q1⟩=>?_);obtain⟨u,eu,w2⟩:=zax w1;cases ei:zbo S1 d with
 |none=>rw[ei]at eu;cases eu
 |some pr=>obtain⟨c,fs⟩:=pr;rw[ei]at eu;have eu:fs.lookup f=some u:=eu;obtain⟨l,rfl,hl⟩:=zcw ei;obtain⟨b,i1,rfl⟩:=r1;obtain⟨b',i2,C,dx,od,ws,hC,h1,h2,rf⟩:=hh1.obj l _ hl;rw[i1]at i2;cases i2;obtain⟨g,n⟩:=G.tab.xtb.fl f hf c C hC;rcases rf.look f with⟨z,_⟩|⟨d',v',z1,z2,z3⟩;rw[eu]at z;cases z;rw[eu]at z1;cases z1;exact⟨b,C,dx,od,ws,v',rfl,g,n,h1,h2,z2,q _ _ (Lf.up x1 (Lf.of hh1 z3 w2))⟩
 subst ex;obtain rfl:u=Value.ref b:=rx;obtain⟨ox,J,mA,hl,r⟩:=ziQ I1 e1 e2;obtain⟨u',hu,ru⟩:=RelO.some_of (by rw[<-e3];exact r f);exact zie I1.kIn J g.ga g.gh g.sb (PySem.W.findObj_own g.hd n rfl (by rw[hl,hu])) (zgU ru) ⟨v,H1,I1.tok _,ru,q1⟩
theorem zfp(D:Value)(dv:V)(rd:∀u,RelV dv u->u=D):zba X (.builtin "isinstance") (fun xs H Q=>∃a C dx od ws b,xs=[.ref a,dv]/\H a=some (XO a C dx)/\H dx=some (.frz od (.xd ws))/\XGet X.K C/\IsaOk X.K C/\kitOne X.K (.ref C) D=some b/\Q (.bl b) H):=by intro pins s σ H xs us Q I r h;obtain⟨a,C,dx,od,ws,b,rfl,h1,h2,g,ok,hk,q⟩:=h;obtain⟨u,w',rfl,rx,rc⟩:=zhs r;cases rd w' rc;cases rx;obtain⟨ox,J,_⟩:=ziQ I h1 h2;exact kia_one (zkr g.ga g.gh g.sb g.hd ok.ha ok.hn ok.ht ok.hm) I.kIn J hk (fun z=>nomatch z) fun tk=>⟨.bl b,H,I.tok tk,rfl,q⟩
theorem zgJ{D:Value}(hD:∀(c:Nat) C,Mks.xc[c]?=some C->XGet X.K C/\IsaOk X.K C/\kitOne X.K (.ref C) D=some (cs.contains c))(h:tE X.K cf (.iscX cs x ce) σ H Qv) :
  tCB (fun xs H Q=>∃a C dx od ws b,xs=[.ref a,t]/\H a=some (XO a C dx)/\H dx=some (.frz od (.xd ws))/\XGet X.K C/\IsaOk X.K C/\kitOne X.K (.ref C) D=some b/\Q (.bl b) H) (zhu (tE X.K cf ce) (zhu (tC t) tNil)) σ H Qv:=by
 obtain⟨δ,ι,S,Q,hs,hh,w,q⟩:=h;simp only[evE,zaa]at w;refine tE.run hs hh w fun d v ι1 H1 S1 x1 hs1 hh1 r1 w1=>?_;obtain⟨pr,ei,w2⟩:=zax w1;obtain⟨c,fs⟩:=pr;obtain⟨l,rfl,hl⟩:=zcw ei;obtain⟨b,i1,rfl⟩:=r1;obtain⟨b',i2,C,dx,od,ws,hC,h1,h2,rf⟩:=hh1.obj l _ hl;rw[i1]at i2;cases i2;obtain⟨g,ok,kit⟩:=hD c C hC;exact⟨b,C,dx,od,ws,_,rfl,h1,h2,g,ok,kit,q _ _ (Lf.up x1 (Lf.of (d:=.bl _) hh1 rfl w2))⟩
theorem zju(G:Gd T cf k N sc X)(hg:Gl X "isinstance"/\X.mg "isinstance"=none)(hx:isGl sc x=true)(hd:(x==("__debug__":Str))=false)(hi:(T.xisas.contains (x,cs)||T.xisbs.contains (x,cs))=true)
  (he:PE X e (tE X.K cf ce)) (hst:zah e=true):PE X (.Call (.Name "isinstance" p) [e,.Name x p2] [] pos) (tE X.K cf (.iscX cs x ce)):=by
 rw[or_eq_true]at hi;rcases hi with hi|hi;obtain⟨D,hm,hD⟩:=G.tab.xtb.is x cs hi;exact PE.imp (zbg (zfp (.ref D) (.ref D) fun u z=>z) hg.1 hg.2 zbk (zaF he (zaF (zes (v:=.ref D) (G.gl hx) hm rfl hd) zbC) (zag hst _ X.env)) (by decide) (by decide) (zag hst _ X.env)) fun σ H Qv h=>zgJ hD h;obtain⟨hm,hn,t,hv,hD⟩:=G.tab.xtb.ib x cs hi;exact PE.imp (zbg (zfp (.type t) (.ty t) fun u z=>z) hg.1 hg.2 zbk (zaF he (zaF (zgo (v:=.ty t) (G.gl hx) hm hv rfl hn hd) zbC) (zag hst _ X.env)) (by decide) (by decide) (zag hst _ X.env)) fun σ H Qv h=>zgJ hD h
theorem zhw(G:Gd T cf k N sc X)(hc:T.xcs.contains (c,x,f)=true)(hx:isGl sc x=true)(hd:(x==("__debug__":Str))=false)(ha:PE X e (tE X.K cf ce))(hst:zah e=true) :
  PSs X (.Raise (some (.Call (.Name x np) [e] [] cpos)) none pos::rest) (tSt X cf (.rais c x f ce)):=by
 obtain⟨C,fI,fd,ps,hC,hm,hk,c',F,hb⟩:=G.tab.xtb.cl c x f hc;refine PSs.imp (zan (zhJ F G.room' hb c' (G.gl hx) hm hk ha hst hd G.calm) (show PSs X rest (fun _ _ _=>False) from fun _ _ _ _ _ _ h=>h.elim)) fun E σ H ⟨δ,ι,S,Q,hs,hh,w,l⟩=>?_;simp[exS,zaa]at w;refine tE.run hs hh w fun d v ι1 H1 S1 x1 hs1 hh1 r1 w1=>?_;intro a dx od pins s' k1 k2 k3 I' f';obtain⟨x2,hh2⟩:=ziF hh1 r1 hC k1 k2 k3;exact l _ _ _ _ (x1.trans x2) hh2 w1 a σ pins s' ⟨a,hh1.last a,rfl⟩ I' f'
noncomputable def ziu(X:Cx)(sp:Sp)(t:TA):TE:=fun σ H Q=>t σ H fun vs H1=>∃E,sp vs H1 Q E/\∀pins s1 a H' s',Inv X pins σ H1 s1->Inv X pins σ H' s'->Fly s1.heap.objs.size H' s'.heap a->E (.ref a) none H'->X.xe (.ref a) s'
theorem zdd(F:FnOk X.prog X.w X.K X.mg X.base (CXe X.prog X.w) k fa fd ps sp)(hr:Room k X.A)(hg:Gl X x)(hm:X.mg x=some (.ref fa))(hk:keepIn X.K (.ref fa)=true)(hb:Binds X.K fd ps [])
  (ha:PA X (e::es) t) (hdb:(x==("__debug__":Str))=false) (he:starEach (e::es) X.env=(false,eval e X.env)::starEach es X.env) (hpl:(backTo pos (starEach es X.env)).any (·.1)=false):PE X (.Call (.Name x p) (e::es) [] pos) (ziu X sp t):=by
 intro pins s σ H Q I h;refine wpAny_Call_Name_kw (za7 I hg hm ?_ hdb);refine callWith_K I.ok.mod.kin hk (thn (ha pos pins s σ H _ I h) fun us s1 ⟨vs,H1,I1,r,E,q,qx⟩=>⟨I1.kIn,?_⟩) he hpl;have hl:(us++[]).length=ps.length:=by rw[append_nil,<-r.length];exact F.len _ _ _ _ q
 have hbd:=hb s1 us I1.kIn hl;rw[append_nil]at hbd;refine wpAny_call (codeAny_mono (F.run X.A X.stack s1 H1 ⟨us,[]⟩ us vs Q E hr I1.env0 hbd r q) fun r s' hq=>?_);cases r with| error x=>obtain⟨a,H',rfl,os,bare,un,hok,fl,hE⟩:=hq;exact qx pins s1 a H' s' I1 (I1.call' os un hok bare (fun b z=>absurd z (by simp))) fl hE| ok fl=>cases fl with|ret u=>exact I1.after hq|next=>exact False.elim hq|brk=>exact False.elim hq|cont=>exact False.elim hq
noncomputable def XErr(X:Cx)(σ:L2.St)(ι:List Addr)(H:Hp)(d:D)(S1:R.St):Prop:=∀a ι' H' s' lo pins,Ext ι H ι' H'->RV X.K ι' H' d (.ref a)->RH X.K ι' H' S1->Inv X pins σ H' s'->Fly lo H' s'.heap a->X.s₀.heap.objs.size<=lo->lo<=s'.heap.objs.size->(∀p∈X.pn++pins,p.1<lo)->X.xe (.ref a) s'
theorem zd7(hfr:CFok cf)(hs:RS X.K ι H δ σ)(hh:RH X.K ι H S)(e:evEs cf ces δ S=.ok ds S1)
  (h:match appX cf f ds S1 with|.ok d S2=>∀v ι' H',Ext ι H ι' H'->RV X.K ι' H' d v->RH X.K ι' H' S2->Qv v H'|.err d S2=>XErr X σ ι H d S2|.bad=>False):ziu X (spX X.K cf f) (tAs X.K cf ces) σ H Qv:=by
 refine tAs.run hs hh (Q:=fun ds' S'=>ds'=ds/\S'=S1) (by rw[e];exact⟨rfl,rfl⟩) fun ds' vs ι1 H1 S1' x1 hs1 hh1 r1 ⟨z1,z2⟩=>?_;subst z1 z2;unfold appX at h;cases e2:cf f ds' S1'.enter with
 |ok d T'=>
  rw[e2]at h;dsimp only at h;refine⟨fun _ _ _=>False,⟨ι1,S1'.enter,ds',r1,hh1.enter,?_⟩,fun _ _ _ _ _ _ _ _ z=>z.elim⟩;rw[e2];intro v H' ι' x r hT;cases e3:za2 S1' d T' with
  |ok d' S2=>rw[e3]at h;obtain⟨d2,ι2,S3,x2,r2,hh2,z1,z2⟩:=zce (Q:=fun a S'=>a=d'/\S'=S2) hh1 x r hT (hfr _ _ _ _ _ (.inl e2)).frz (by rw[e3];exact⟨rfl,rfl⟩);subst z1 z2;exact h v ι2 H' (x1.trans x2) r2 hh2| err d' S2=>
   unfold za2 at e3;split at e3;cases e3;dsimp only at e3;split at e3
   . split at e3
     all_goals first|(split at e3<;>cases e3)|cases e3
   cases e3
  |bad=>rw[e3]at h;exact h.elim
 |err d T'=>rw[e2]at h;refine⟨fun v _ H'=>∃a ι',v=.ref a/\Ext ι1 H1 ι' H'/\RV X.K ι' H' d (.ref a)/\RH X.K ι' H' T',⟨ι1,S1'.enter,ds',r1,hh1.enter,?_⟩,?_⟩;rw[e2];exact fun a H' ι' x r hT=>⟨a,ι',rfl,x,r,hT⟩;rintro pins s1 a H' s' I1 I' fl ⟨a',ι',z,x,r,hT⟩;cases z;have frz:=(hfr _ _ _ _ _ (.inr e2)).frz;obtain⟨_,_,_,_,_,g,_⟩:=id fl.ex;exact h a ι' H' s' s1.heap.objs.size pins (x1.trans x) r (hT.keep frz) I' fl I1.sz (le_of_lt (Nat.lt_of_le_of_lt fl.lo (Heap.lt_size g))) fun p hp=>Heap.lt_size (I1.pin p hp).1|bad=>rw[e2]at h;exact h.elim
noncomputable def tB(X:Cx)(cf:CF)(b:TrB):TS:=fun D σ H=>∃δ ι S,RS X.K ι H δ σ/\RH X.K ι H S/\(match exT cf b δ S with|.ok δ' S1=>∀ι' H' σ',Ext ι H ι' H'->RS X.K ι' H' δ' σ'->RH X.K ι' H' S1->D.nx σ' H'|.err d S1=>XErr X σ ι H d S1|.bad=>False)
theorem zlF(G:Gd T cf k N sc X)(hi:N[i]?=some y)(hl:zbR sc y=true)(hf:T.xfns.contains f=true)(hn:T.fns[f]?=some (x,ps,nd))(hg:isGl sc x=true)(hd:(x==("__debug__":Str))=false)(ha:PA X (e::es) (tAs X.K cf ces))(hst:(e::es).all zah=true) :
  PS X (.Assign [.Name y p1] (.Call (.Name x p) (e::es) [] cp) pos) (tB X cf (.asg i f ces)):=by
 obtain⟨fa,fd,F,hm,hk,hb⟩:=G.tab.xtb.fn f x ps nd hf hn;rw[all_cons,and_eq_true]at hst;refine PS.imp (zdN (by rw[G.nm];exact G.nd) (by rw[G.nm];exact hi) (G.lc hl).1 (zdd F G.room (G.gl hg) hm hk hb ha hd (zag hst.1 es X.env) (zaD hst.2)) (zbE rfl _ _ _) (G.lc hl).2) fun D σ H ⟨δ,ι,S,hs,hh,h⟩=>?_;simp[exT]at h;cases e1:evEs cf ces δ S with
 |ok ds S1=>rw[e1]at h;dsimp only at h;apply zd7 G.tab.frm hs hh e1;cases e2:appX cf f ds S1 with|ok d S2=>rw[e2]at h;exact fun v ι' H' x' r hT=>h ι' H' _ x' ((hs.ext x').set r i) hT|err d S2=>rw[e2]at h;exact h|bad=>rw[e2]at h;exact h
 |err d S1=>rw[e1]at h;exact h.elim|bad=>rw[e1]at h;exact h.elim
theorem XErr.up(h:XErr X σ ι H d S1)(x:Ext ι H ι1 H1):XErr X σ ι1 H1 d S1:=fun a ι' H' s' lo pins x'=>h a ι' H' s' lo pins (x.trans x')
theorem zlE(hc:PT X c (tT X.K cf cc))(ha:PSs X A (tB X cf a))(hb:PSs X B (tB X cf b)):PS X (.If c A B pos) (tB X cf (.ite cc a b)):=by
 refine PS.imp (zlV hc ha hb) fun D σ H ⟨δ,ι,S,hs,hh,h⟩=>?_;simp[exT]at h;cases e1:evT cf cc δ S with
 |ok z S1=>
  rw[e1]at h;dsimp only at h;refine tT.run hs hh (Q:=fun z' S'=>z'=z/\S'=S1) (by rw[e1];exact⟨rfl,rfl⟩) fun z' ι1 H1 S1' x1 hs1 hh1 ⟨w1,w2⟩=>?_;subst w1 w2;cases z' with
  |true=>refine⟨δ,ι1,S1',hs1,hh1,?_⟩;cases e2:exT cf a δ S1' with|ok δ' S2=>rw[e2]at h;exact fun ι' H' σ' x'=>h ι' H' σ' (x1.trans x')|err d S2=>rw[e2]at h;exact XErr.up h x1|bad=>rw[e2]at h;exact h
  |false=>refine⟨δ,ι1,S1',hs1,hh1,?_⟩;cases e2:exT cf b δ S1' with|ok δ' S2=>rw[e2]at h;exact fun ι' H' σ' x'=>h ι' H' σ' (x1.trans x')|err d S2=>rw[e2]at h;exact XErr.up h x1|bad=>rw[e2]at h;exact h
 |err d S1=>rw[e1]at h;exact h.elim|bad=>rw[e1]at h;exact h.elim
theorem zf5{st:Stmt}(h:PS X st (tB X cf b)):PSs X [st] (tB X cf b):=PSs.imp (zan h zdc) fun D σ H z=>z
theorem zjD(G:Gd T cf k N sc X)(hff:T.flds.contains f=true)(hpa:PE X a (tE X.K cf ca))(hf:T.xfns.contains g=true)(hn:T.fns[g]?=some (x,ps,nd))(hg:isGl sc x=true)(hd:(x==("__debug__":Str))=false)(ha:PA X (e::es) (tAs X.K cf ces))(hst:(e::es).all zah=true) :
  PS X (.Assign [.Attribute a f p1] (.Call (.Name x p) (e::es) [] cp) pos) (tB X cf (.setF ca f g ces)):=by
 obtain⟨fa,fd,F,hm,hk,hb⟩:=G.tab.xtb.fn g x ps nd hf hn;rw[all_cons,and_eq_true]at hst;refine PS.imp (ziH hpa (zdd F G.room (G.gl hg) hm hk hb ha hd (zag hst.1 es X.env) (zaD hst.2)) (zbE rfl _ _ _)) fun D σ H ⟨δ,ι,S,hs,hh,h⟩=>?_;simp[exT]at h;cases e1:evEs cf ces δ S with
 |ok ds S1=>
  rw[e1]at h;dsimp only at h;apply zd7 G.tab.frm hs hh e1;cases e2:appX cf g ds S1 with
  |ok d S2=>
   rw[e2]at h;dsimp only at h;intro v ι1 H1 x1 r1 hh1;have hs1:=hs.ext x1;cases e3:evE cf ca δ S2 with
   |ok y S3=>
    rw[e3]at h;dsimp only at h;refine tE.run hs1 hh1 (Q:=fun y' S'=>y'=y/\S'=S3) (by rw[e3];exact⟨rfl,rfl⟩) fun y' vx ι2 H2 S2' x2 hs2 hh2 r2 ⟨z1,z2⟩=>?_;subst z1 z2;cases ed:zbm S2' y' f d with
    |none=>rw[ed]at h;exact h.elim| some S4=>
     rw[ed]at h;unfold zbm at ed;cases y' with
     |ref i=>
      obtain⟨b,h1,rfl⟩:=r2;dsimp only at ed;cases eo:S2'.get i with
      |none=>rw[eo]at ed;cases ed
      |some ob=>
       rw[eo]at ed;cases ob with
       |ins c fs=>obtain⟨b',h2,C,dx,ws,hC,hb,rf⟩:=hh2.obj _ _ eo;rw[h1]at h2;cases h2;dsimp only at ed;split at ed;rename_i c2;obtain⟨_,_,cl,_,na⟩:=G.clsAt (.inl (zgv hff)) hC;have rv:=r1.ext x2;have xw:=Ext.wr hh2 eo h1 (.ins C dx (putF f v ws));exact⟨b,C,dx,ws,rfl,hb,cl,na f hff,by rw[rf.length];exact c2,h ι2 _ σ ((x1.trans x2).trans xw) (hs2.ext xw) (hh2.wr eo h1 ed ⟨C,dx,_,hC,zai,(rf.put f rv).up xw.pre xw.kp⟩)⟩;cases ed
       |_=>cases ed
     |_=>cases ed
   |err y S3=>rw[e3]at h;exact h.elim|bad=>rw[e3]at h;exact h.elim
  |err d S2=>rw[e2]at h;exact h|bad=>rw[e2]at h;exact h
 |err d S1=>rw[e1]at h;exact h.elim|bad=>rw[e1]at h;exact h.elim
noncomputable def zk8(X:Cx)(C:Addr)(sp:Sp)(dvs:List V)(t:TA):TE:=fun σ H Q=>t σ H fun vs H1=>∀x dx,H1 x=none->H1 dx=none->dx≠x->
 ∃E,sp (.ref x::(vs++dvs)) (upd (upd H1 dx (.own x)) x (.ins C dx [])) (fun v H2=>v=.non/\Q (.ref x) H2) E/\∀pins s1 a H' s',Inv X pins σ (upd (upd H1 dx (.own x)) x (.ins C dx [])) s1->Inv X pins σ H' s'->Fly s1.heap.objs.size H' s'.heap a->E (.ref a) none H'->X.xe (.ref a) s'
theorem zhP(M:Mk X.K C f)(F:FnOk X.prog X.w X.K X.mg X.base (CXe X.prog X.w) k f fd ps sp)(hr:Room (k+1) X.A)(hg:Gl X x)(hm:X.mg x=some (.ref C))(hb:Binds X.K fd ps ds)(hd:Vals dvs ds)
  (ha:PA X (e::es) t) (hdb:(x==("__debug__":Str))=false) (he:starEach (e::es) X.env=(false,eval e X.env)::starEach es X.env) (hpl:(backTo pos (starEach es X.env)).any (·.1)=false) :
  PE X (.Call (.Name x p) (e::es) [] pos) (zk8 X C sp dvs t):=by
 intro pins s σ H Q I h;refine wpAny_Call_Name_kw (za7 I hg hm ?_ hdb);refine callWith_K I.ok.mod.kin M.kp (thn (ha pos pins s σ H _ I h) fun us s1 ⟨vs,H1,I1,r,q⟩=>⟨I1.kIn,?_⟩) he hpl;obtain⟨E,hq,hx⟩:=q (s1.heap.objs.size+1) s1.heap.objs.size (I1.hok.fresh (le_succ _)) (I1.hok.fresh (le_refl _)) (ne_of_lt (lt_succ_self _));have I2:=Inv.made (C:=C) I1;have r2:Vals (V.ref (s1.heap.objs.size+1)::(vs++dvs)) (Value.ref (s1.heap.objs.size+1)::(us++ds)):=.cons rfl (r.append hd);have hl:(Value.ref (s1.heap.objs.size+1)::us++ds).length=ps.length:=by have e:=r2.length;rw[F.len _ _ _ _ hq]at e;exact e.symm
 refine wpAny_call (ze0 I1.kIn M.makes M.init (beq_iff_eq.mp M.fn) (codeAny_mono (F.run _ X.stack _ _ ⟨Value.ref (s1.heap.objs.size+1)::us,[]⟩ (Value.ref (s1.heap.objs.size+1)::(us++ds)) _ _ E (hr.make C us [])
  (I2.env0.make C us []) (hb _ (Value.ref (s1.heap.objs.size+1)::us) I2.kIn hl) r2 hq) fun r s' hq'=>?_))
 cases r with| error e=>obtain⟨a,H',rfl,os,bare,un,hok,fl,hE⟩:=hq';exact hx pins _ a H' s' I2 (I2.call' os un hok bare (fun b z=>absurd z (by simp))) fl hE| ok fl=>cases fl with| ret u=>obtain⟨v,H',I3,rv,ev,q3⟩:=I2.after hq';subst ev;exact⟨rv,⟨V.ref (s1.heap.objs.size+1),H',I3,rfl,q3⟩⟩|next=>exact False.elim hq'|brk=>exact False.elim hq'|cont=>exact False.elim hq'
theorem znB(G:Gd T cf k N sc X)(hi:T.inits.contains (c,f,j)=true)(hx:T.cls[c]?=some x)(hg:isGl sc x=true)(hd:(x==("__debug__":Str))=false)(ha:PA X (e::es) (tAs X.K cf ces))(hst:(e::es).all zah=true) :
  PS X (.Expr (.Call (.Name x p) (e::es) [] cp) pos) (tB X cf (.mk c f x j ces)):=by
 obtain⟨C,fa,fd,ps,hC,M,F,hb⟩:=(G.tab.inx c f j hi).ex;obtain⟨x',e1,_,hm,_⟩:=G.clsAt (.inr (.inl (zgv hi))) hC;rw[hx]at e1;cases e1;rw[all_cons,and_eq_true]at hst;refine PS.imp (zer (zhP M F G.room' (G.gl hg) hm hb (Vals.nons j) ha hd (zag hst.1 es X.env) (zaD hst.2)) (zbE rfl _ _ _)) fun D σ H ⟨δ,ι,S,hs,hh,h⟩=>?_;simp[exT]at h;cases e1:evEs cf ces δ S with
 |ok ds S1=>
  rw[e1]at h;dsimp only at h;unfold appW at h;refine tAs.run hs hh (Q:=fun ds' S'=>ds'=ds/\S'=S1) (by rw[e1];exact⟨rfl,rfl⟩) fun ds' vs ι1 H1 S1' x1 hs1 hh1 r1 ⟨z1,z2⟩=>?_;subst z1 z2;intro y dy hy hdy hne;have hh2:=hh1.new hdy (.own y);have x2:Ext ι1 H1 ι1 (upd H1 dy (.own y)):=Ext.new hdy _;have hy2:(upd H1 dy (.own y)) y=none:=by rw[zaf (Ne.symm hne)];exact hy
  have hh3:=hh2.obj' hy2 (.ins C dy []) (.ins c []) ⟨C,dy,[],hC,zai,rfl⟩;have x3:Ext ι1 (upd H1 dy (.own y)) (ι1++[y]) (upd (upd H1 dy (.own y)) y (.ins C dy [])):=Ext.obj hh2 hy2 _;have x4:=(x1.trans x2).trans x3;refine⟨fun v _ H'=>∃d T' a ι',cf f (.ref S1'.len::(ds'++List.replicate j .non)) (S1'.push (.ins c []))=.err d T'/\v=.ref a/\Ext (ι1++[y]) (upd (upd H1 dy (.own y)) y (.ins C dy [])) ι' H'/\RV X.K ι' H' d (.ref a)/\RH X.K ι' H' T',⟨ι1++[y],S1'.push (.ins c []),.ref S1'.len::(ds'++List.replicate j .non),⟨.ref y,_,rfl,⟨y,hh2.last y,rfl⟩,RVs.append ((r1.ext x2).ext x3) (RVs.nons j)⟩,hh3,?_⟩,?_⟩;cases e2:cf f (.ref S1'.len::(ds'++List.replicate j .non)) (S1'.push (.ins c [])) with
  |ok d T'=>rw[e2]at h;intro v H' ι' x' r hT;cases d with|non=>exact⟨r,h ι' H' σ (x4.trans x') (hs.ext (x4.trans x')) hT⟩|_=>exact h.elim
  |err d T'=>exact fun a H' ι' x' r hT=>⟨d,T',a,ι',rfl,rfl,x',r,hT⟩|bad=>rw[e2]at h;exact h.elim
  rintro pins s1 a H' s' I1 I' fl ⟨d,T',a',ι',e2,z,x',r,hT⟩;cases z;rw[e2]at h;obtain⟨_,_,_,_,_,g,_⟩:=id fl.ex;exact h a ι' H' s' s1.heap.objs.size pins (x4.trans x') r hT I' fl I1.sz (le_of_lt (Nat.lt_of_le_of_lt fl.lo (Heap.lt_size g))) fun p hp=>Heap.lt_size (I1.pin p hp).1
 |err d S1=>rw[e1]at h;exact h.elim|bad=>rw[e1]at h;exact h.elim
theorem zlh{st:Stmt}(hb:PS X st (tB X cf b))(hr:PSs X rest (tSt X cf r)):PSs X (st::rest) (tSt X cf (.blk b r)):=by refine PSs.imp (zan hb hr) fun E σ H ⟨δ,ι,S,Q,hs,hh,w,l⟩=>⟨δ,ι,S,hs,hh,?_⟩;simp[exS]at w;cases e:exT cf b δ S with|ok δ' S1=>rw[e]at w;exact fun ι' H' σ' x' hs' hT=>⟨δ',ι',S1,Q,hs',hT,w,l.up x'⟩| err d S1=>rw[e]at w;exact fun a ι' H' s' lo pins x' rv hT I' fl l1 l2 l3=>l (.ex d) ι' H' S1 x' hT w a σ pins s' rv I' (fl.mono l1)|bad=>rw[e]at w;exact w.elim
noncomputable abbrev pnC(X:Cx)(pn:List (Addr×Obj))(E:Value->Shared->Prop):Cx:={X with pn:=pn,xe:=E}
theorem zgO{σ:L2.St}(I:Inv X pins σ H s)(h:∀p∈pn++pins',p∈X.pn++pins):Inv (pnC X pn E) pins' σ H s:=⟨⟨I.ok.mod,I.ok.kind,I.ok.glob,I.ok.blt,I.ok.above,I.ok.inj,I.ok.has,I.ok.cab,I.ok.hd,I.ok.frames,I.ok.stk,I.ok.exf,I.ok.bs,I.ok.bsz,I.ok.noex,I.ok.exfs,I.ok.funs,I.ok.frf⟩,I.os,I.bare,I.base,I.loc,I.cell,I.free,I.freeC,fun p hp=>I.pin p (h p hp),I.hok,I.len⟩
theorem ze9{σ:L2.St}(ok:X.Ok)(I:Inv (pnC X pn E) pins' σ H s)(h:∀p∈X.pn++pins,p∈pn++pins'):Inv X pins σ H s:=⟨ok,I.os,I.bare,I.base,I.loc,I.cell,I.free,I.freeC,fun p hp=>I.pin p (h p hp),I.hok,I.len⟩
theorem RS.unset{K:PySem.W.Frag}(h:RS K ι H δ σ)(i:Nat):RS K ι H (δ.set i none) (σ.set i none):=by
 refine⟨by simp[h.1],fun j e hj=>?_⟩;by_cases hij:i=j
 . subst hij;rw[List.getElem?_set]at hj;simp only[if_true]at hj;split at hj<;>cases hj
 rw[getElem?_set_ne hij]at hj⊢;exact h.2 j e hj
theorem zld(G:Gd T cf k N sc X)(hb:∀pn E,PassesOwn (model X.prog X.w) X.A X.env E->PSs (pnC X pn E) body (tB (pnC X pn E) cf b))(stk:X.stack=X.env::X.outer)(fr:X.env.frame=some X.env.locals)
  (ht:T.xtrs.contains xR=true) (hg:isGl sc xR=true) (hdb:(xR==("__debug__":Str))=false) (hn:N[ie]?=some n) (hy:N[ix]?=some y) (nl:sc.names.lookup n=some .local) (yl:zbR sc y=true) (n1:(n==("__debug__":Str))=false) (n2:(n==("__classdict__":Str))=false) (hij:ie≠ix) (hr:PSs X rest (tSt X cf r)) :
  PSs X (.Try body [.ExceptHandler (some (.Name xR np)) (some n) [.Assign [.Name y p1] (.Name n p2) p3] hp] [] [] pos::rest) (tSt X cf (.tryS b xR ie ix r)):=by
 obtain⟨CR,hm,hx⟩:=G.tab.xtb.tr xR ht;have ps:PS X (.Try body [.ExceptHandler (some (.Name xR np)) (some n) [.Assign [.Name y p1] (.Name n p2) p3] hp] [] [] pos) (fun D σ H=>∃δ ι S,RS X.K ι H δ σ/\RH X.K ι H S/\(match exT cf b δ S with|.ok δ' S1=>∀ι' H' σ',Ext ι H ι' H'->RS X.K ι' H' δ' σ'->RH X.K ι' H' S1->D.nx σ' H'|.err d S1=>∀a ι' H',Ext ι H ι' H'->RV X.K ι' H' d (.ref a)->RH X.K ι' H' S1->(∃c fs,zbo S1 d=some (c,fs))/\D.nx ((σ.set ie none).set ix (some (.ref a))) H'|.bad=>False)):=by
  intro pins s σ H D I ⟨δ,ι,S,hs,hh,h⟩;apply wpAny_Try_except;refine wpAny_mono (hb (X.pn++pins) (fun e s1=>wpAny (model X.prog X.w) X.A (noteFrame e X.env) (fun _ s2=>wpAny (model X.prog X.w) X.A (setFlight e none) (fun _ s3=>wpAny (model X.prog X.w) X.A (handleBy e X.env [.ExceptHandler (some (.Name xR np)) (some n) [.Assign [.Name y p1] (.Name n p2) p3] hp]) (SP X pins D) X.xe s3) X.xe s2) X.xe s1) PassesOwn.looking [] s σ H {nx:=D.nx,rt:=fun _ _=>False} (zgO I (by simp)) ⟨δ,ι,S,hs,hh,?_⟩) (fun f s1 z=>?_) fun _ _ z=>z;cases e:exT cf b δ S with|ok δ' S1=>rw[e]at h;exact h|bad=>rw[e]at h;exact h| err d S1=>rw[e]at h;intro a ι' H' s' lo pins' x' rv hT I' fl l1 l2 l3;have J:Inv X pins σ H' s':=ze9 I.ok I' (fun p hp=>mem_append_left _ hp);obtain⟨⟨c,fs,ec⟩,q⟩:=h a ι' H' x' rv hT;obtain⟨l,rfl,hl⟩:=zcw ec;obtain⟨b',i1,z⟩:=rv;obtain⟨b2,i2,C,dx,od,ws,hC,h1,h2,rf⟩:=hT.obj l _ hl;rw[i1]at i2;cases i2;cases z;exact zii J stk fr fl l1 l2 (fun p hp=>l3 p (mem_append_left _ hp)) h1 (hx c C hC) (G.gl hg) hm hdb (by rw[G.nm];exact G.nd) (by rw[G.nm];exact hn) (by rw[G.nm];exact hy) (G.loc n nl) (G.lc yl).1 (G.lc yl).2 n1 n2 hij q
  cases f with| next=>obtain⟨σ',H',I',q⟩:=z;exact wpAny_execs_nil ⟨σ',H',ze9 I.ok I' (fun p hp=>mem_append_left _ hp),q⟩|ret u=>obtain⟨_,_,_,_,_,z⟩:=z;exact z.elim|brk=>obtain⟨_,_,_,z⟩:=z;exact z.elim|cont=>obtain⟨_,_,_,z⟩:=z;exact z.elim
 refine PSs.imp (zan ps hr) fun E σ H ⟨δ,ι,S,Q,hs,hh,w,l⟩=>⟨δ,ι,S,hs,hh,?_⟩;simp[exS]at w;cases e:exT cf b δ S with|ok δ' S1=>rw[e]at w;exact fun ι' H' σ' x' hs' hT=>⟨δ',ι',S1,Q,hs',hT,w,l.up x'⟩|bad=>rw[e]at w;exact w.elim| err d S1=>rw[e]at w;intro a ι' H' x' rv hT;dsimp only at w;split at w;rename_i c;obtain⟨⟨c,fs⟩,ec⟩:=Option.isSome_iff_exists.mp c;exact⟨⟨c,fs,ec⟩,(δ.set ie none).set ix (some d),ι',S1,Q,((hs.ext x').unset ie).set rv ix,hT,w,l.up x'⟩;exact w.elim
end
theorem zhY(h:env.frame=env'.frame):noteFrame e env=noteFrame e env':=by unfold noteFrame PySem.frameOf;rw[h]
noncomputable abbrev xeC(X:Cx)(E:Value->Shared->Prop):Cx:={X with xe:=E}
section
variable{X:Cx}{E:Value->Shared->Prop}{pins:List (Addr×Obj)}{σ:L2.St}{H:Hp}{s:Shared}
theorem zgM(I:Inv X pins σ H s):Inv (xeC X E) pins σ H s:=zgO I fun _ z=>z
theorem zbS(I:Inv (xeC X E) pins σ H s):Inv X pins σ H s:=zgO (X:=xeC X E) I fun _ z=>z
theorem znN(f:∀e s,X.xe e s->False)(h:PA X es t):PA (xeC X E) es t:=fun pos pins s σ H Q I q=>wpAny_mono (h pos pins s σ H Q (zbS I) q) (fun u s1 ⟨v,H1,I1,r,q⟩=>⟨v,H1,zgM I1,r,q⟩) fun _ _ z=>(f _ _ z).elim
theorem ziG(f:∀e s,X.xe e s->False)(h:PTs X es t):PTs (xeC X E) es t:=fun pins s σ H Q I q=>wpAny_mono (h pins s σ H Q (zbS I) q) (fun u s1 ⟨H1,I1,q⟩=>⟨H1,zgM I1,q⟩) fun _ _ z=>(f _ _ z).elim
theorem zlZ(f:∀e s,X.xe e s->False)(h:PG X tg t):PG (xeC X E) tg t:=fun pins s σ H v u Q I r q=>wpAny_mono (h pins s σ H v u Q (zbS I) r q) (fun u s1 ⟨σ1,H1,I1,q⟩=>⟨σ1,H1,zgM I1,q⟩) fun _ _ z=>(f _ _ z).elim
noncomputable def XEz(Z:Addr->Hp->Prop):Cx->Value->Shared->Prop:=fun Y e s'=>∃a σ' H' pins',e=.ref a/\Inv Y pins' σ' H' s'/\Fly Y.s₀.heap.objs.size H' s'.heap a/\Z a H'
noncomputable def XOut(X:Cx)(σ:L2.St)(Z:Addr->Hp->Prop):Prop:=∀a H' s' lo pins,Z a H'->Inv X pins σ H' s'->Fly lo H' s'.heap a->X.s₀.heap.objs.size<=lo->lo<=s'.heap.objs.size->(∀p∈X.pn++pins,p.1<lo)->X.xe (.ref a) s'
theorem zfm(out:XOut X σ Z)(I2:Inv X pins σ H2 s2)(stk:X.stack=X.env::X.outer)(fr:X.env.frame=some X.env.locals)
  (yf:Y.env.frame=X.env.frame) (l:X.s₀.heap.objs.size<=Y.s₀.heap.objs.size) (conv:∀pins' σ' H' s',Inv Y pins' σ' H' s'->Inv X pins σ H' s'/\(∃m,s'.heap.Ns C m)/\H' C=none) (hC:s2.heap.objs.size<C) (hpn:∀q∈X.pn++pins,q.1<Y.s₀.heap.objs.size) (hz:XEz Z Y e s') :
  notedBy (model X.prog X.w) X.A Y.env (fun x s''=>compPost (model X.prog X.w) X.A X.xe use Qc acc C (.error x) s'') e s':=by
 obtain⟨a,σ',H',pins',rfl,IY,fl,z⟩:=hz;obtain⟨I,⟨m,hm⟩,hCn⟩:=conv _ _ _ _ IY
 obtain⟨K,dx,vs,sl,h1,h2,tr,h4⟩:=id fl.ex;unfold notedBy;rw[zhY yf];have aC:a≠C:=fun z=>by rw[z,hCn]at h1;cases h1
 have hL:C≠X.env.locals:=ne_of_gt (lt_trans I2.lt hC);refine zmh (by rw[I.ok.frames,stk]) (by rw[<-stk];exact I.stack) fr h2 rfl tr (le_of_lt (Nat.lt_of_le_of_lt fl.lo (Heap.lt_size h2))) fun h' nt=>?_;obtain⟨I1,f1⟩:=zbT I stk fr fl l hpn h2 rfl nt;have cf:C∉(X.env::X.outer).filterMap (·.frame):=fun hm=>by have hs2:=I2.stack;rw[stk]at hs2;obtain⟨_,o,ho,_⟩:=hs2.mem hm;exact absurd (lt_trans (Heap.lt_size ho) hC) (lt_irrefl _)
 obtain⟨o,es,ep,ho,hd,hrest⟩:=hm;have nv:vs[1]?≠some (.ref C):=fun q=>by rcases tr with t|⟨T,oT,ts,t1,t2,t3,t4,t5,t6⟩;rw[t]at q;cases q;rw[t1]at q;cases q;rw[t3]at ho;cases ho;rw[t4]at hd;cases hd
 have ho':=nt.keep C o (Ne.symm aC) nv cf ho;obtain⟨vs',e1,_,⟨T,oT,ts,t1,t2,t3,t4,t5,t6⟩,hT4⟩:=nt.exc;have TC:T≠C:=fun q=>by rw[q,ho']at t3;cases t3;rw[hd]at t4;cases t4
 have main:∃m,h'.Ns C m/\∀h'',Heap.SameBut C h' h''->∀cenv:Env,cenv.locals=C->wpAny (model X.prog X.w) X.A (PySem.passOn "comprehension.variables-let-go" (.ref a) cenv:Sem Value) (fun _ _=>False) X.xe {s' with heap:=h''}:=by
  refine⟨m,⟨o,es,ep,ho',hd,hrest⟩,fun h'' sb cenv _=>?_⟩;have I3:Inv X pins σ H' {s' with heap:=h''}:=Inv.turned (s:={s' with heap:=h'}) (h':=h'') I1 (t':=s'.toks) (fun b o hb e=>(sb.2 b hb).trans e) hCn hL (.inr (le_trans I2.sz (le_of_lt hC))) (fun x c e=>by obtain⟨v,o,ho,_⟩:=I2.cell x c e;exact ne_of_lt (lt_trans (Heap.lt_size ho) hC)) fun q hq=>ne_of_lt (lt_trans (Heap.lt_size (I2.pin q hq).1) hC);have e3:h''.get? a=some _:=(sb.2 a aC).trans e1;have f3:Fly Y.s₀.heap.objs.size H' h'' a:=⟨⟨K,dx,vs',sl,h1,e3,.inr ⟨T,oT,ts,t1,t2,(sb.2 T TC).trans t3,t4,t5,t6⟩,fun T' q=>by
   obtain⟨K',dx',vs2,sl2,g1,g2,_,g4⟩:=f1.ex;rw[e1]at g2;have:vs2=vs':=by simpa using(congrArg (fun o=>o.map (·.data)) g2).symm
   exact g4 T' (by rw[this];exact q)⟩,fl.lo⟩
  refine wpAny_bind (wpAny_field e3 rfl t1 ?_);refine wpAny_bind (zb6 I3 stk fr f3 l hpn fun s3 I4 f4=>wpAny_throw ?_);obtain⟨_,_,_,_,_,g,_⟩:=id f4.ex;exact out a H' s3 _ pins z I4 f4 l (le_of_lt (Nat.lt_of_le_of_lt f4.lo (Heap.lt_size g))) hpn
 cases use<;>exact main
end
section
variable{X:Cx}{sc scope:Scope}{tgs:List Str}{js:List Nat}{elt tg iter:Expr}{ifs:List Expr}{pos:Pos}{wi:TI}{g:TG}{tt:TT}{te:(Addr->Hp->Prop)->TE}
theorem zgl(tgs:List Str)(js:List Nat)(hc:X.calm=true)(ok:CompOk X.env.scope scope X.N js)(stk:X.stack=X.env::X.outer)(fr:X.env.frame=some X.env.locals)(hi:PI X tg iter wi)
  (hg:∀cl C fp s H pn,PG (zar X (capN X.N tgs js) scope cl C fp s H pn) tg g)
  (ht:∀cl C fp s H pn,PTs (zar X (capN X.N tgs js) scope cl C fp s H pn) ifs tt)
  (he:∀Z cl C fp s H pn,PE (cxX (XEz Z) X (capN X.N tgs js) scope cl C fp s H pn) elt (te Z))
  (hs:∀x,foldedSetIterable iter X.env x=pure x) :
  PE X (.ListComp elt [⟨tg,iter,ifs,0⟩] scope pos) (fun σ H Q=>∃Z,XOut X σ Z/\zeg tgs.length js wi g tt (te Z) σ H Q):=by
 intro pins s σ H Q I ⟨Z,out,h⟩;have frees:∀y∈scope.names,y.2=.free->∃c,X.env.cells.lookup y.1=some c:=fun y hy hk=>I.ok.has y.1 (ok.frees y hy hk);refine wpAny_comprehension_free rfl hs (zaB frees) ok.kind ok.locs (thn (hi pins s σ H _ I h) fun v s1 h1=>thn h1 fun itv s2 h2=>?_);obtain⟨it,fp,tn,J,H2,e,I2,T,st2,f2,rd⟩:=h2;subst e;refine zbG (XEz Z) hc rfl ok (fun cl C fp s H pn=>zlZ (fun _ _ z=>z) (hg cl C fp s H pn)) (fun cl C fp s H pn=>ziG (fun _ _ z=>z) (ht cl C fp s H pn)) (he Z) I2 T st2 f2 rd (fun p C H' s' I' hm hC hn q=>?_) fun Y p C yf l conv hC hpn e s' z=>zfm out I2 stk fr yf l conv hC hpn z
 obtain⟨m,hm⟩:=hm;refine⟨m,hm,fun h' hs'=>⟨.ref p,H',?_,rfl,q⟩⟩;exact I'.turned (t':=s'.toks) (fun b o hb e=>(hs'.2 b hb).trans e) hn (ne_of_gt (lt_trans I2.lt hC)) (.inr (le_trans I2.sz (le_of_lt hC))) (fun x c e=>by obtain⟨v,o,ho,_⟩:=I2.cell x c e;exact ne_of_lt (lt_trans (Heap.lt_size ho) hC)) fun q hq=>ne_of_lt (lt_trans (Heap.lt_size (I2.pin q hq).1) hC)
theorem zhI(tgs:List Str)(js:List Nat)(hN:X.N.Nodup)(hi':X.N[i]?=some y)(hy:Loc X.env.scope y)(hc:X.calm=true)(ok:CompOk X.env.scope scope X.N js)(stk:X.stack=X.env::X.outer)(fr:X.env.frame=some X.env.locals)(hi:PI X tg iter wi)
  (hg:∀cl C fp s H pn,PG (zar X (capN X.N tgs js) scope cl C fp s H pn) tg g)
  (ht:∀cl C fp s H pn,PTs (zar X (capN X.N tgs js) scope cl C fp s H pn) ifs tt)
  (he:∀Z cl C fp s H pn,PE (cxX (XEz Z) X (capN X.N tgs js) scope cl C fp s H pn) elt (te Z))
  (hsw:swapsWith (.ListComp elt [⟨tg,iter,ifs,0⟩] scope pos) (some (.Name y py)) spos.line X.env=pure true)
  (hs:∀x,foldedSetIterable iter X.env x=pure x)
  (hf:X.fn y=true\/X.env.scope.names.lookup y=some .local) :
  PS X (.Assign [.Name y py] (.ListComp elt [⟨tg,iter,ifs,0⟩] scope pos) spos) (tAsg (fun σ H Q=>∃Z,XOut X σ Z/\zeg tgs.length js wi g tt (te Z) σ H Q) (zdX i)):=by
 intro pins s σ H D I ⟨Z,out,h⟩;have frees:∀y∈scope.names,y.2=.free->∃c,X.env.cells.lookup y.1=some c:=fun y hy hk=>I.ok.has y.1 (ok.frees y hy hk);rw[exec_Assign_Name_used _ _ _ _ hsw];refine wpAny_bind (wpAny_standAt (wpAny_bind ?_));refine wpAny_bind (wpAny_mono (wpAny_comprehension_free rfl hs (zaB frees) ok.kind ok.locs
  (thn (hi pins s σ H _ I h) fun v s1 h1=>thn h1 fun itv s2 h2=>?_)) (fun _ s' hq=>wpAny_pure (wpAny_pure hq)) fun _ _ e=>e)
 obtain⟨it,fp,tn,J,H2,e,I2,T,st2,f2,rd⟩:=h2;subst e;refine zbG (XEz Z) hc rfl ok (fun cl C fp s H pn=>zlZ (fun _ _ z=>z) (hg cl C fp s H pn)) (fun cl C fp s H pn=>ziG (fun _ _ z=>z) (ht cl C fp s H pn)) (he Z) I2 T st2 f2 rd (Q:=fun x H1=>zdX i x σ H1 D.nx) (fun p C H' s' I' hm hC hn q=>?_) fun Y p C yf l conv hC hpn e s' z=>zfm out I2 stk fr yf l conv hC hpn z
 obtain⟨m,hm⟩:=hm;have hL:C≠X.env.locals:=ne_of_gt (lt_trans I2.lt hC);have hCc:∀x c,X.env.cells.lookup x=some c->c≠C:=fun x c e=>by obtain⟨v,o,ho,_⟩:=I2.cell x c e;exact ne_of_lt (lt_trans (Heap.lt_size ho) hC)
 refine wpAny_assign_Name (zcg I' hN hi' hy (v:=.ref p) rfl (fun s'' I'' hch=>?_) hf);obtain⟨a,hsb,ha⟩:=hch;have hCa:C≠a:=by rcases ha with z|z;rw[z];exact hL;exact fun e=>hCc y a z e.symm
 refine⟨m,hm.sameBut hsb hCa,fun h' hs'=>⟨σ.set i (some (.ref p)),H',?_,q⟩⟩;exact I''.turned (t':=s''.toks) (fun b o hb e=>(hs'.2 b hb).trans e) hn hL (.inr (le_trans I2.sz (le_of_lt hC))) hCc fun q hq=>ne_of_lt (lt_trans (Heap.lt_size (I2.pin q hq).1) hC)
noncomputable def zdw(sp:Sp)(t:TA)(Z:Addr->Hp->Prop):TE:=fun σ H Q=>t σ H fun vs H1=>∃E,sp vs H1 Q E/\∀a H',E (.ref a) none H'->Z a H'
theorem zhU(F:FnOk Y.prog Y.w Y.K Y.mg Y.base (CXe Y.prog Y.w) k fa fd ps sp)(hr:Room k Y.A)(hg:Gl Y x)(hm:Y.mg x=some (.ref fa))(hk:keepIn Y.K (.ref fa)=true)(hb:Binds Y.K fd ps [])
  (mono:∀{σ:L2.St}{H:Hp}{Qa Qb:List V->Hp->Prop},(∀vs H,Qa vs H->Qb vs H)->t σ H Qa->t σ H Qb) (f:∀e s,Y.xe e s->False) (ha:PA Y (e::es) t) (hdb:(x==("__debug__":Str))=false) (he:starEach (e::es) Y.env=(false,eval e Y.env)::starEach es Y.env) (hpl:(backTo pos (starEach es Y.env)).any (·.1)=false):PE (xeC Y (XEz Z Y)) (.Call (.Name x p) (e::es) [] pos) (zdw sp t Z):=by
 refine PE.imp (zdd F hr hg hm hk hb (znN f ha) hdb he hpl) fun σ H Q h=>?_;exact mono (fun vs H1 ⟨E,hE,z⟩=>⟨E,hE,fun pins s1 a H' s' I1 I' fl e=>⟨a,σ,H',pins,rfl,zbS I',fl.mono (zbS I1).sz,z a H' e⟩⟩) h
end
section
variable{T:Tab}{cf:CF}{k:Nat}{N:List Str}{sc:Scope}{X:Cx}{pos p:Pos}
theorem zha(hfr:CFok cf)(hs:RS X.K ι H δ σ)(hh:RH X.K ι H S)(e:evEs cf ces δ S=.ok ds S1)
  (h:match appX cf f ds S1 with|.ok d S2=>∀v ι' H',Ext ι H ι' H'->RV X.K ι' H' d v->RH X.K ι' H' S2->Qv v H'|.err d S2=>∀a ι' H',Ext ι H ι' H'->RV X.K ι' H' d (.ref a)->RH X.K ι' H' S2->Z a H'|.bad=>False):zdw (spX X.K cf f) (tAs X.K cf ces) Z σ H Qv:=by
 refine tAs.run hs hh (Q:=fun ds' S'=>ds'=ds/\S'=S1) (by rw[e];exact⟨rfl,rfl⟩) fun ds' vs ι1 H1 S1' x1 hs1 hh1 r1 ⟨z1,z2⟩=>?_;subst z1 z2;unfold appX at h;cases e2:cf f ds' S1'.enter with
 |ok d T'=>
  rw[e2]at h;dsimp only at h;refine⟨fun _ _ _=>False,⟨ι1,S1'.enter,ds',r1,hh1.enter,?_⟩,fun _ _ z=>z.elim⟩;rw[e2];intro v H' ι' x r hT;cases e3:za2 S1' d T' with
  |ok d' S2=>rw[e3]at h;obtain⟨d2,ι2,S3,x2,r2,hh2,z1,z2⟩:=zce (Q:=fun a S'=>a=d'/\S'=S2) hh1 x r hT (hfr _ _ _ _ _ (.inl e2)).frz (by rw[e3];exact⟨rfl,rfl⟩);subst z1 z2;exact h v ι2 H' (x1.trans x2) r2 hh2| err d' S2=>
   unfold za2 at e3;split at e3;cases e3;dsimp only at e3;split at e3
   . split at e3
     all_goals first|(split at e3<;>cases e3)|cases e3
   cases e3
  |bad=>rw[e3]at h;exact h.elim
 |err d T'=>rw[e2]at h;refine⟨fun v _ H'=>∃a ι',v=.ref a/\Ext ι1 H1 ι' H'/\RV X.K ι' H' d (.ref a)/\RH X.K ι' H' T',⟨ι1,S1'.enter,ds',r1,hh1.enter,?_⟩,?_⟩;rw[e2];exact fun a H' ι' x r hT=>⟨a,ι',rfl,x,r,hT⟩;rintro a H' ⟨a',ι',z,x,r,hT⟩;cases z;exact h a ι' H' (x1.trans x) r (hT.keep (hfr _ _ _ _ _ (.inr e2)).frz)|bad=>rw[e2]at h;exact h.elim
noncomputable def zod(RR:Out (List D))(acc:List D):Out (List D)->Prop
 |.ok rest S2=>RR=.ok (acc++rest) S2|.err d S2=>RR=.err d S2|.bad=>False
noncomputable def ZC(K:PySem.W.Frag)(ι:List Addr)(H:Hp)(lk:List Nat)(RR:Out (List D))(a:Addr)(H':Hp):Prop:=∃ι' d S3,RR=.err d S3/\Ext ι H ι' H'/\RV K ι' H' d (.ref a)/\RH K ι' H' {S3 with lk:=lk}
noncomputable def zm2(K:PySem.W.Frag)(cf:CF)(g:List Nat)(f:Nat)(es:CEs)(RR:Out (List D))(ds:List D)(lks:List Nat)(ι1:List Addr)(H1:Hp)(S1:R.St)(p:Addr)(i:Nat)(σ':L2.St)(H':Hp):Prop:=i<=ds.length/\∃δ' ι' S' acc vs,acc.length<=i/\RS K ι' H' δ' σ'/\Ltr K ι1 H1 S1 lks ι' H' S'/\S'.lk=lks++S1.lk/\S1.len<=S'.len/\p∉ι'/\H' p=some (.lst vs)/\RVs K ι' H' acc vs/\zod RR acc (za3 cf g f es (ds.drop i) δ' S')
theorem zd1(hcf:CFok cf)(hs:RS X.K ι H δ σ)(hh:RH X.K ι H S)(e:evL cf it δ S=.ok r S1)(hr:r.1.length<=16777216)(eR:RR=za3 cf is f ces r.1 (R.csl nt js δ) {S1 with lk:=r.2++S1.lk})
  (h:match (generalizing:=false) RR with|.ok ds S3=>∀p vs ι' H',Ext ι H ι' H'->RVs X.K ι' H' ds vs->p∉ι'->H' p=some (.lst vs)->RH X.K ι' H' {S3 with lk:=S1.lk}->H p=none->Qv (.ref p) H'|.err _ _=>True|.bad=>False) :
  zeg nt js (tI X.K cf it) (tG X.K is) tYes (zdw (spX X.K cf f) (tAs X.K cf ces) (ZC X.K ι H S1.lk RR)) σ H Qv:=by
 refine⟨δ,ι,S,fun r' S'=>r'=r/\S'=S1,hs,hh,by rw[e];exact⟨rfl,rfl⟩,fun J H1 ⟨ds,lks,ι1,S1',x1,hh1,w1,wk⟩=>?_⟩;obtain⟨rfl,rfl⟩:=w1;dsimp only at hr eR;intro p hp;have hpi:=hh1.fresh hp;refine⟨fun i m σ' H'=>m=ds.length-i/\zm2 X.K cf is f ces RR ds lks ι1 H1 S1' p i σ' H',⟨_,rfl,zero_le _,R.csl nt js δ,ι1,{S1' with lk:=lks++S1'.lk},[],[],le_refl _,((hs.ext x1).csl _ _).up (prefix_refl _) (Kp.new hp _),⟨Ext.new hp _,(hh1.lk _).new hp _,fun l _=>rfl⟩,rfl,le_refl _,hpi,zai,rfl,?_⟩,?_⟩;rw[List.drop_zero,<-eR];cases RR with|ok ds' S3=>rfl|err d S3=>rfl|bad=>exact h
 rintro i m σ' H' ⟨rfl,hle,δ',ι',S',acc,vs,hal,hs',lt,hlk,hln,hpn,hpv,ra,wt⟩;rcases Nat.lt_or_eq_of_le hle with hlt|rfl;refine .inr ⟨wk.go i ι' H' S' lt hlt,zm2 X.K cf is f ces RR ds lks ι1 H1 S1' p (i+1),fun σ2 H2 h=>⟨_,by omega,rfl,h⟩,fun x H2 hy=>?_⟩;obtain⟨x2,hh2,d,hd,rd⟩:=wk.yld i ι' H' S' x H2 lt hlt hy;have hs2:=hs'.ext x2;have hp2:=x2.keep hpn hpv (by simp);rw[zcx hd]at wt;simp[za3]at wt;cases ea:asgG is d δ' with
 |none=>rw[ea]at wt;exact wt.elim| some δ2=>
  rw[ea]at wt;dsimp only at wt;refine⟨δ',ι',d,δ2,hs2,rd,ea,fun σ2 hs3=>?_⟩;cases e4:evEs cf ces δ2 S' with
  |ok es S4=>
   rw[e4]at wt;dsimp only at wt;have f4:=zbd hcf ces δ2 S' (fun _ _=>True) (by rw[e4];trivial);rw[e4]at f4;apply zha hcf hs3 hh2 e4;cases e5:appX cf f es S4 with
   |ok z S5=>rw[e5]at wt;dsimp only at wt⊢;intro v ι4 H4 x4 rz hh4;have f5:=f4.2.trans ((zcF hcf).1 _ _ e5);have hp4:=x4.keep hpn hp2 (by simp);have hpn4:=(x4.rest p _ hpn hp2).2;have ra4:=(ra.ext x2).ext x4;have k3:∀l∈lks,S5.get l=S1'.get l:=fun l hl=>(f5.same l (by rw[hlk];exact mem_append_left _ hl) (lt_of_lt_of_le (wk.lks l hl) hln)).trans (lt.lck l hl);refine⟨vs,hp4,by rw[ra4.length,sizeLine_eq];omega,hlt,δ2,ι4,S5,acc++[z],vs++[v],by simp;omega,(hs3.ext x4).up (prefix_refl _) (Kp.tmp hp4),⟨((lt.ext.trans x2).trans x4).tmp hp hp4,hh4.tmp hpn4 hp4,k3⟩,f5.lk.trans hlk,le_trans hln f5.lens,hpn4,zai,?_,?_⟩;exact(RVs.append (es:=[z]) ra4 ⟨v,[],rfl,rz,rfl⟩).up (prefix_refl _) (Kp.tmp hp4);cases e6:za3 cf is f ces (ds.drop (i+1)) δ2 S5 with| ok rest S6=>rw[e6]at wt;show RR=.ok (acc++[z]++rest) S6;rw[wt,List.append_assoc];rfl|err d' S6=>rw[e6]at wt;exact wt|bad=>rw[e6]at wt;exact wt.elim
   |err z S5=>rw[e5]at wt;exact fun a ι4 H4 x4 rz hh4=>⟨ι4,z,S5,wt,((x1.trans lt.ext).trans x2).trans x4,rz,hh4.lk _⟩|bad=>rw[e5]at wt;exact wt.elim
  |err es S4=>rw[e4]at wt;exact wt.elim|bad=>rw[e4]at wt;exact wt.elim
 refine .inl ⟨wk.stop _ ι' H' S' lt (le_refl _),?_⟩;rw[List.drop_length]at wt;have wt:RR=.ok (acc++[]) S':=wt;rw[append_nil]at wt;rw[wt]at h;exact h p vs ι' H' (x1.trans lt.ext) ra hpn hpv (lt.rh.lk _) (zed hh1 x1 hp)
theorem zjE(G:Gd T cf k N sc X)(stk:X.stack=X.env::X.outer)(fr:X.env.frame=some X.env.locals)(hi:N[i]?=some y)(hl:zbR sc y=true)(hf:T.xfns.contains f=true)(hn:T.fns[f]?=some (x,ps,nd))(hd:(x==("__debug__":Str))=false)
  (ok:CompOk X.env.scope scope X.N js) (hpi:PI X tg iter (tI X.K cf it)) (hfo:∀x,foldedSetIterable iter X.env x=pure x) (hgl:∀cl C fp s H pn,Gl (zar X (capN X.N tgs js) scope cl C fp s H pn) x)
  (hg:∀cl C fp s H pn,PG (zar X (capN X.N tgs js) scope cl C fp s H pn) tg (tG X.K is)) (ha:∀cl C fp s H pn,PA (zar X (capN X.N tgs js) scope cl C fp s H pn) (e::es) (tAs X.K cf ces)) (hst:(e::es).all zah=true) :
  PS X (.Assign [.Name y p1] (.ListComp (.Call (.Name x p) (e::es) [] cp) [⟨tg,iter,[],0⟩] scope p2) pos) (tB X cf (.comp i tgs.length js is it f ces)):=by
 obtain⟨fa,fd,F,hm,hk,hb⟩:=G.tab.xtb.fn f x ps nd hf hn;rw[all_cons,and_eq_true]at hst;have he:∀Z cl C fp s H pn,PE (cxX (XEz Z) X (capN X.N tgs js) scope cl C fp s H pn) (.Call (.Name x p) (e::es) [] cp) (zdw (spX X.K cf f) (tAs X.K cf ces) Z):=fun Z cl C fp s H pn=>zhU F G.room (hgl cl C fp s H pn) hm hk hb (fun h ⟨δ,ι,S,Q,hs,hh,w,q⟩=>⟨δ,ι,S,Q,hs,hh,w,fun vs H' z=>h vs H' (q vs H' z)⟩) (fun _ _ z=>z) (ha cl C fp s H pn) hd (zag hst.1 es _) (zaD hst.2);have hps:PS X (.Assign [.Name y p1] (.ListComp (.Call (.Name x p) (e::es) [] cp) [⟨tg,iter,[],0⟩] scope p2) pos) (tAsg (fun σ H Q=>∃Z,XOut X σ Z/\zeg tgs.length js (tI X.K cf it) (tG X.K is) tYes (zdw (spX X.K cf f) (tAs X.K cf ces) Z) σ H Q) (zdX i)):=by have hw:∃b,swapsWith (.ListComp (.Call (.Name x p) (e::es) [] cp) [⟨tg,iter,[],0⟩] scope p2) (some (.Name y p1)) pos.line X.env=pure b:=⟨_,rfl⟩;obtain⟨b,hw⟩:=hw;cases b with|false=>exact zdN (by rw[G.nm];exact G.nd) (by rw[G.nm];exact hi) (G.lc hl).1 (zgl tgs js G.calm ok stk fr hpi hg (fun _ _ _ _ _ _=>zeq) he hfo) hw (G.lc hl).2|true=>exact zhI tgs js (by rw[G.nm];exact G.nd) (by rw[G.nm];exact hi) (G.lc hl).1 G.calm ok stk fr hpi hg (fun _ _ _ _ _ _=>zeq) he hw hfo (G.lc hl).2
 refine PS.imp hps fun D σ H ⟨δ,ι,S,hs,hh,h⟩=>?_;simp[exT]at h;cases e1:evL cf it δ S with
 |ok r S1=>
  rw[e1]at h;dsimp only at h;split at h;rename_i heq;split at heq;rename_i hlen;cases eR:za3 cf is f ces r.1 (R.csl tgs.length js δ) {S1 with lk:=r.2++S1.lk} with
  |ok ds S3=>rw[eR]at heq;cases heq;refine⟨ZC X.K ι H S1.lk (.ok ds S3),(fun a H' s' lo pins ⟨_,_,_,z,_⟩=>nomatch z),zd1 G.tab.frm hs hh e1 hlen eR.symm ?_⟩;intro p vs ι' H' x' rv hpn hpv hT hp0;refine h (ι'++[p]) H' _ ⟨x'.pre.trans (prefix_append _ _),x'.kp,fun b o hb eb=>⟨(x'.rest b o hb eb).1,fun z=>?_⟩⟩ (((hs.ext x').up (prefix_append _ _) (Kp.refl _)).set (d:=.ref S3.len) ⟨p,hT.last p,rfl⟩ i) (hT.one (l:=0) hpn ⟨vs,hpv,rv.up (prefix_append _ _) (Kp.refl _)⟩);rcases mem_append.mp z with z|z;exact(x'.rest b o hb eb).2 z;simp at z;subst z;rw[hp0]at eb;cases eb
  |err d S3=>rw[eR]at heq;cases heq
  |bad=>rw[eR]at heq;cases heq
  cases heq;rename_i heq;split at heq;rename_i hlen;cases eR:za3 cf is f ces r.1 (R.csl tgs.length js δ) {S1 with lk:=r.2++S1.lk} with
  |ok ds S3=>rw[eR]at heq;cases heq
  |err d0 S3=>rw[eR]at heq;obtain⟨rfl,rfl⟩:=Out.err.inj heq;refine⟨ZC X.K ι H S1.lk (.err d0 S3),fun a H' s' lo pins ⟨ι',d',S3',z,x',rv,hT⟩ I' fl l1 l2 l3=>?_,zd1 G.tab.frm hs hh e1 hlen eR.symm trivial⟩;cases z;exact h a ι' H' s' lo pins x' rv hT I' fl l1 l2 l3|bad=>rw[eR]at heq;cases heq
  cases heq;exact h.elim
 |err d S1=>rw[e1]at h;exact h.elim|bad=>rw[e1]at h;exact h.elim
end
noncomputable def zmv:CL->Bool|.comp ..=>true|_=>false
noncomputable def isR1:CL->Bool|.rng1 _=>true|_=>false
noncomputable def zfH:CL->Bool|.rng1 _=>true|.txt _=>true|_=>false
noncomputable def ze7:CL->Bool|_=>false
noncomputable def ze8:Expr->Bool|.Tuple _ _ _=>true|_=>false
noncomputable def zbn:Expr->List Str
 |.Name x _=>[x]|.Tuple es _ _=>es.filterMap fun|.Name x _=>some x|_=>none
 |_=>[]
noncomputable def zih(sc scope:Scope)(N:List Str)(js:List Nat):Bool:=
 decide (scope.kind=.function)&&scope.names.all (fun y=>decide (y.2≠.cell))&&scope.names.all (fun y=>decide (y.2≠.local)||decide (scope.names.lookup y.1=some .local))
  && scope.names.all (fun y=>decide (y.2≠.free)||decide (sc.names.lookup y.1=some .cell)||decide (sc.names.lookup y.1=some .free))&&js.all (fun j=>decide (scope.names.lookup (N.getD j "")=some .free)&&decide (j<N.length))
noncomputable def nmB(x:Str):Bool:=!(x==("__debug__":Str))&&!(x==("__classdict__":Str))&&!(x==("__name__":Str))
noncomputable def tyB(t:String)(y:Str):Bool:=(t=="bool"&&y==("bool":Str))||(t=="int"&&y==("int":Str))||(t=="str"&&y==("str":Str))||(t=="list"&&y==("list":Str))||(t=="tuple"&&y==("tuple":Str))||(t=="dict"&&y==("dict":Str))
noncomputable def biB:Bi->Str->Nat->Bool
 |.len,x,n=>x==("len":Str)&&n==1|.abs,x,n=>x==("abs":Str)&&n==1|.isin _,_,_=>false
noncomputable def zaU:Expr->Option Str|.Name x _=>some x|_=>none
noncomputable def zcl:Expr->Option Const|.Constant c _ _=>some c|_=>none
noncomputable def zfy:Expr->Option (Expr×Operator×Expr)|.BinOp l o r _=>some (l,o,r)|_=>none
noncomputable def rdUn:Expr->Option (UnaryOp×Expr)|.UnaryOp o x _=>some (o,x)|_=>none
noncomputable def zc7:Expr->Option (Expr×List CmpOp×List Expr)|.Compare l os rs _=>some (l,os,rs)|_=>none
noncomputable def zb3:Expr->Option (BoolOp×List Expr×Pos)|.BoolOp o vs p=>some (o,vs,p)|_=>none
noncomputable def rdIf:Expr->Option (Expr×Expr×Expr)|.IfExp t x y _=>some (t,x,y)|_=>none
noncomputable def zek:Expr->Option (List Expr)|.Tuple xs _ _=>some xs|_=>none
noncomputable def zdC:Expr->Option (List Expr)|.List xs _=>some xs|_=>none
noncomputable def zen:Expr->Option (Expr×Expr)|.Dict [some k] [v] _=>some (k,v)|_=>none
noncomputable def zc5:Expr->Option (Expr×Expr)|.Subscript x i _=>some (x,i)|_=>none
noncomputable def zog:Expr->Option Expr|.Slice none none (some s) _=>some s|_=>none
noncomputable def rdSl:Expr->Option (Option Expr×Option Expr)|.Slice l u st _=>(match st with|none=>some (l,u)|some _=>none)|_=>none
noncomputable def zbB:Expr->Option (Expr×List Expr×List Keyword×Pos)|.Call f as ks p=>some (f,as,ks,p)|_=>none
noncomputable def zbs:Expr->Option (Expr×Str×Pos)|.Attribute o x p=>some (o,x,p)|_=>none
noncomputable def rdLC:Expr->Option (Expr×List Comprehension×Scope×Pos)|.ListComp e gs sc p=>some (e,gs,sc,p)|_=>none
section
variable{e l r x y i f:Expr}{xs rs as:List Expr}{ks:List Keyword}{p:Pos}
theorem zat(h:zaU e=some n):∃p,e=.Name n p:=by cases e<;>first|(cases h;exact⟨_,rfl⟩)|cases h
theorem zeo(h:zcl e=some c):∃j p,e=.Constant c j p:=by cases e<;>first|(cases h;exact⟨_,_,rfl⟩)|cases h
theorem zdF(h:zfy e=some (l,o,r)):∃p,e=.BinOp l o r p:=by cases e<;>first|(cases h;exact⟨_,rfl⟩)|cases h
theorem zc4(h:rdUn e=some (o,x)):∃p,e=.UnaryOp o x p:=by cases e<;>first|(cases h;exact⟨_,rfl⟩)|cases h
theorem zbr{os:List CmpOp}(h:zc7 e=some (l,os,rs)):∃p,e=.Compare l os rs p:=by cases e<;>first|(cases h;exact⟨_,rfl⟩)|cases h
theorem zbx(h:zb3 e=some (o,xs,p)):e=.BoolOp o xs p:=by cases e<;>first|(cases h;rfl)|cases h
theorem zhB(h:rdIf e=some (l,x,y)):∃p,e=.IfExp l x y p:=by cases e<;>first|(cases h;exact⟨_,rfl⟩)|cases h
theorem zck(h:zek e=some xs):∃j p,e=.Tuple xs j p:=by cases e<;>first|(cases h;exact⟨_,_,rfl⟩)|cases h
theorem zfx(h:zdC e=some xs):∃p,e=.List xs p:=by cases e<;>first|(cases h;exact⟨_,rfl⟩)|cases h
theorem zbq(h:zc5 e=some (x,i)):∃p,e=.Subscript x i p:=by cases e<;>first|(cases h;exact⟨_,rfl⟩)|cases h
theorem zeR(h:rdSl e=some (a,b)):∃p,e=.Slice a b none p:=by
 cases e with
 |Slice l u st p=>cases st with|none=>cases h;exact⟨_,rfl⟩|some _=>cases h
 |_=>cases h
theorem zbZ(h:zbB e=some (f,as,ks,p)):e=.Call f as ks p:=by cases e<;>first|(cases h;rfl)|cases h
theorem zbb(h:zbs e=some (x,n,p)):e=.Attribute x n p:=by cases e<;>first|(cases h;rfl)|cases h
theorem zc6(h:rdLC e=some (x,gs,sc,p)):e=.ListComp x gs sc p:=by cases e<;>first|(cases h;rfl)|cases h
end
theorem zac{α:Type}{o:Option α}{f:α->Bool}(h:o.any f=true):∃x,o=some x/\f x=true:=by
 cases o with
 |none=>cases h
 |some x=>exact⟨x,rfl,h⟩
noncomputable def one{α:Type}:List α->Option α | [x]=>some x|_=>none
theorem zav(h:one xs=some x):xs=[x]:=by match xs,h with| [y],h=>cases h;rfl
noncomputable def two{α:Type}:List α->Option (α×α) | [x,y]=>some (x,y)|_=>none
theorem two_inv(h:two xs=some (x,y)):xs=[x,y]:=by match xs,h with| [a,b],h=>cases h;rfl
noncomputable def zaA(e:Expr):Option (Str×List Expr):=(zbB e).bind fun q=>if q.2.2.1.isEmpty then(zaU q.1).map fun x=>(x,q.2.1) else none
theorem zao(h:zaA e=some (x,as)):∃p2 p,e=.Call (.Name x p2) as [] p:=by
 unfold zaA at h;cases q:zbB e with
 |none=>rw[q]at h;cases h
 |some z=>
  obtain⟨f,bs,ks,p⟩:=z;rw[q]at h;dsimp at h;split at h;rename_i c;cases q2:zaU f with
  |none=>rw[q2]at h;cases h
  |some y=>
   obtain⟨p2,rfl⟩:=zat q2;cases ks with
   |cons _ _=>cases c
   |nil=>cases h;exact⟨p2,p,zbZ q⟩
  cases h
noncomputable def zaC(e:Expr):Option (Str×Expr):=(zaA e).bind fun q=>(one q.2).map fun a=>(q.1,a)
theorem zap(h:zaC e=some (x,a)):∃p2 p,e=.Call (.Name x p2) [a] [] p:=by
 unfold zaC at h;cases q:zaA e with
 |none=>rw[q]at h;cases h
 |some z=>
  obtain⟨y,bs⟩:=z;rw[q]at h;dsimp at h;cases q2:one bs with
  |none=>rw[q2]at h;cases h
  |some b=>rw[q2]at h;cases h;rw[zav q2]at q;exact zao q
noncomputable def zb2(e:Expr):Option (Expr×Str×Pos×Expr×Pos):=(zbB e).bind fun q=>if q.2.2.1.isEmpty then(zbs q.1).bind fun a=>(one q.2.1).map fun y=>(a.1,a.2.1,a.2.2,y,q.2.2.2) else none
theorem zbX(h:zb2 e=some (o,x,ap,a,cp)):e=.Call (.Attribute o x ap) [a] [] cp:=by
 unfold zb2 at h;cases q:zbB e with
 |none=>rw[q]at h;cases h
 |some z=>
  obtain⟨f,bs,ks,p⟩:=z;rw[q]at h;dsimp at h;split at h;rename_i c;cases q2:zbs f with
  |none=>rw[q2]at h;cases h
  |some y=>
   rw[q2]at h;cases q3:one bs with
   |none=>rw[q3]at h;cases h
   |some b=>
    rw[q3]at h;cases h;cases ks with
    |cons _ _=>cases c
    |nil=>rw[zbZ q,zbb q2,zav q3]
  cases h
noncomputable def zbY(e:Expr):Option (Expr×Str×Pos×List Expr×Pos):=(zbB e).bind fun q=>if q.2.2.1.isEmpty then(zbs q.1).map fun a=>(a.1,a.2.1,a.2.2,q.2.1,q.2.2.2) else none
theorem zem(h:zbY e=some (o,x,ap,as,cp)):e=.Call (.Attribute o x ap) as [] cp:=by
 unfold zbY at h;cases q:zbB e with
 |none=>rw[q]at h;cases h
 |some z=>
  obtain⟨f,bs,ks,p⟩:=z;rw[q]at h;dsimp at h;split at h;rename_i c;cases q2:zbs f with
  |none=>rw[q2]at h;cases h
  |some y=>
   rw[q2]at h;cases h;cases ks with
   |cons _ _=>cases c
   |nil=>rw[zbZ q,zbb q2]
  cases h
noncomputable def fnB(T:Tab)(f j:Nat)(x:Str):Bool:=match T.fns[f]? with|some (y,_,nd)=>(y==x)&&decide (j<=nd)|none=>false
noncomputable def conG(T:Tab)(d:D)(x:Str):Bool:=match T.cons.lookup x with|some d'=>eqC d' d|none=>false
noncomputable def zcr:CE->Bool|.con _=>true|_=>false
noncomputable def zki:CL->Bool|.comp ..=>true|_=>false
noncomputable def zgK:CE->Bool|.tst (.con (.bl true))=>true|_=>false
noncomputable def zj5:CEs->Bool|.cons _ .nil=>true|_=>false
noncomputable def zmi:CEs->Bool|.nil=>true|_=>false
noncomputable def mtN:Mt->Str->Bool
 |.append,x=>x==("append":Str)
noncomputable def znY:Bi->Option String|.isin t=>some t|_=>none
noncomputable def tgB(sc:Scope)(N:List Str)(g:List Nat)(tg:Expr):Bool:=match zaU tg with|some x=>(match one g with|some i=>(N[i]?==some x)&&zbR sc x|none=>false)|none=>(zek tg).any fun es=>decide (2<=g.length)&&zbD sc N g es
noncomputable def txS:Expr->Option Str|.Constant (.str x) _ _=>some x|_=>none
noncomputable def slOk:Tx->CEs->Bool
 |.sl ml mh,.cons _ (.cons lo (.cons hi .nil))=>(ml||zcr lo)&&(mh||zcr hi)|.sl _ _,_=>false|_,_=>true
noncomputable def oneN(T:Tab)(sc:Scope)(x:Str)(e:Expr):Option (List Expr):=(zaC e).bind fun q=>if(q.1==x&&bltB T sc q.1)=true then some [q.2] else none
noncomputable def mthN(x:Str)(c:Nat)(e:Expr):Option (List Expr):=(zb2 e).bind fun q=>if(q.2.1==x&&zbt q.1&&(q.2.2.1.endLine==q.2.2.2.2.line)&&(txS q.2.2.2.1==some (mkS [c])))=true then some [q.1] else none
noncomputable def opN(o:Operator)(e:Expr):Option (List Expr):=(zfy e).bind fun q=>if q.2.1=o then some [q.1,q.2.2] else none
noncomputable def rdTx(T:Tab)(sc:Scope):Tx->Expr->Option (List Expr)
 |.sw c,e=>mthN "startswith" c e|.spl,e=>mthN "split" 46 e|.joi,e=>(zb2 e).bind fun q=>if(q.2.1==("join":Str)&&(txS q.1==some (mkS [46]))&&(q.2.2.1.endLine==q.2.2.2.2.line))=true then some [q.2.2.2.1] else none|.int,e=>oneN T sc "int" e|.str,e=>oneN T sc "str" e|.len,e=>oneN T sc "len" e|.ix,e=>(zc5 e).bind fun q=>if zbQ q.2=true then some [q.1,q.2] else none|.inn,e=>(zc7 e).bind fun q=>if q.2.1=[.In] then(one q.2.2).bind fun r=>if zaz r=true then some [q.1,r] else none else none|.add,e=>opN .Add e|.mul,e=>opN .Mult e|.sl ml mh,e=>(zc5 e).bind fun q=>(rdSl q.2).bind fun s=>if s.1.isSome=ml/\s.2.isSome=mh then some [q.1,s.1.getD (.Constant .none 0 default),s.2.getD (.Constant .none 0 default)] else none
mutual
noncomputable def chkE(T:Tab):CE->List Str->Scope->Expr->Bool
 |.loc i,N,sc,e=>(zaU e).any fun x=>(N[i]?==some x)&&zh5 sc x&&nmB x|.con d,_,sc,e=>(zcl e).any (fun c=>conB d c)||(zaU e).any fun x=>isGl sc x&&conG T d x&&nmB x
 |.tst _,_,_,_=>false|.bin op a b,N,sc,e=>(zfy e).any fun q=>decide (q.2.1=op)&&chkE T a N sc q.1&&chkE T b N sc q.2.2|.neg a,N,sc,e=>(rdUn e).any fun q=>decide (q.1=.USub)&&chkE T a N sc q.2|.nt a,N,sc,e=>(rdUn e).any fun q=>decide (q.1=.Not)&&chkE T a N sc q.2|.cmp op a b,N,sc,e=>(zc7 e).any fun q=>decide (q.2.1=[op])&&(one q.2.2).any fun r=>zaz r&&chkE T a N sc q.1&&chkE T b N sc r|.cmp2 op op' a b c,N,sc,e=>(zc7 e).any fun q=>decide (q.2.1=[op,op'])&&(two q.2.2).any fun r=>zaz r.1&&zaz r.2&&chkE T a N sc q.1&&chkE T b N sc r.1&&chkE T c N sc r.2
 |.and a b,N,sc,e=>(zb3 e).any fun q=>decide (q.1=.And)&&(match q.2.1 with
  |x::y::rest=>chkE T a N sc x&&(if rest.isEmpty then chkE T b N sc y else chkE T b N sc (.BoolOp .And (y::rest) q.2.2))|_=>false)
 |.or a b,N,sc,e=>(zb3 e).any fun q=>decide (q.1=.Or)&&(match q.2.1 with
  |x::y::rest=>chkE T a N sc x&&(if rest.isEmpty then chkE T b N sc y else chkE T b N sc (.BoolOp .Or (y::rest) q.2.2))|_=>false)
 |.ite c a b,N,sc,e=>(rdIf e).any fun q=>chkT T c N sc q.1&&chkE T a N sc q.2.1&&chkE T b N sc q.2.2|.tup es,N,sc,e=>(zek e).any fun xs=>za9 T es N sc xs|.lst es,N,sc,e=>(zdC e).any fun xs=>za9 T es N sc xs|.insL o a b,N,sc,e=>(zbY e).any fun q=>(two q.2.2.2.1).any fun z=>(q.2.1==("insert":Str))&&zah z.1&&zah z.2&&zbt q.1&&(q.2.2.1.endLine==q.2.2.2.2.line)&&chkE T o N sc q.1&&chkE T a N sc z.1&&chkE T b N sc z.2|.ix a b,N,sc,e=>(zc5 e).any fun q=>zbQ q.2&&chkE T a N sc q.1&&chkE T b N sc q.2|.mk c f x j es,N,sc,e=>(zaA e).any fun q=>decide (q.1=x)&&isGl sc x&&nmB x&&decide (T.cls[c]?=some x)&&T.inits.contains (c,f,j)&&(!q.2.isEmpty||zmi es)&&za9 T es N sc q.2|.mkX c x f a,N,sc,e=>(zaC e).any fun q=>decide (q.1=x)&&isGl sc x&&nmB x&&T.xcs.contains (c,x,f)&&zah q.2&&chkE T a N sc q.2|.fldX a f,N,sc,e=>(zbs e).any fun q=>decide (q.2.1=f)&&zbt q.1&&T.xflds.contains f&&chkE T a N sc q.1|.iscX cs x a,N,sc,e=>(zaA e).any fun q=>(two q.2).any fun z=>(zaU z.2).any fun y=>(q.1==("isinstance":Str))&&bltB T sc q.1&&decide (y=x)&&isGl sc x&&nmB x&&(T.xisas.contains (x,cs)||T.xisbs.contains (x,cs))&&zah z.1&&chkE T a N sc z.1
 |.sl a ml mh lo hi,N,sc,e=>(zc5 e).any fun q=>(rdSl q.2).any fun s=>chkE T a N sc q.1
  && (match s.1 with|none=>!ml&&zcr lo|some e=>ml&&chkE T lo N sc e)
  && (match s.2 with|none=>!mh&&zcr hi|some e=>mh&&chkE T hi N sc e)
 |.call f j es,N,sc,e=>(zaA e).any fun q=>isGl sc q.1&&nmB q.1&&fnB T f j q.1&&(!q.2.isEmpty||zmi es)&&za9 T es N sc q.2
 |.bi b es,N,sc,e=>(zaA e).any fun q=>bltB T sc q.1&&nmB q.1&&(match znY b with
  |some t=>(two q.2).any fun z=>(zaU z.2).any fun y=>(q.1==("isinstance":Str))&&tyB t y&&bltB T sc y&&nmB y&&zj5 es&&za9 T es N sc [z.1]|none=>biB b q.1 q.2.length&&!q.2.isEmpty&&za9 T es N sc q.2)
 |.mt m o es,N,sc,e=>(zb2 e).any fun q=>mtN m q.2.1&&zbt q.1&&(q.2.2.1.endLine==q.2.2.2.2.line)&&zj5 es&&chkE T o N sc q.1&&za9 T es N sc [q.2.2.2.1]
 |.mkL l,N,sc,e=>if zki l then(if(rdLC e).isSome then chkL T l N sc e else(zaC e).any fun q=>(q.1==("list":Str))&&bltB T sc q.1&&zah q.2&&chkL T l N sc q.2)
  else(zaC e).any fun q=>(q.1==("list":Str))&&bltB T sc q.1&&zah q.2&&(!(zfH l)||isR1 l)&&chkL T l N sc q.2
 |.mkT l,N,sc,e=>(zaC e).any fun q=>(q.1==("tuple":Str))&&bltB T sc q.1&&zah q.2&&(!(zfH l))&&chkL T l N sc q.2|.all l,N,sc,e=>(zaC e).any fun q=>(q.1==("all":Str))&&bltB T sc q.1&&zah q.2&&!(zfH l)&&chkL T l N sc q.2|.lenset l,N,sc,e=>(zaC e).any fun q=>(zaC q.2).any fun z=>(q.1==("len":Str))&&bltB T sc q.1&&(z.1==("set":Str))&&bltB T sc z.1&&zah z.2&&!(zfH l)&&chkL T l N sc z.2|.tx t es,N,sc,e=>slOk t es&&(rdTx T sc t e).any fun xs=>za9 T es N sc xs
noncomputable def za9(T:Tab):CEs->List Str->Scope->List Expr->Bool
 |.nil,_,_,es=>es.isEmpty|.cons a r,N,sc,es=>(match es with | []=>false|e::es=>zah e&&chkE T a N sc e&&za9 T r N sc es)
noncomputable def chkT(T:Tab):CE->List Str->Scope->Expr->Bool
 |.cmp op a b,N,sc,e=>(zc7 e).any fun q=>decide (q.2.1=[op])&&(one q.2.2).any fun r=>zaz r&&chkE T a N sc q.1&&chkE T b N sc r|.cmp2 op op' a b c,N,sc,e=>(zc7 e).any fun q=>decide (q.2.1=[op,op'])&&(two q.2.2).any fun r=>zaz r.1&&zaz r.2&&chkE T a N sc q.1&&chkE T b N sc r.1&&chkE T c N sc r.2|.nt a,N,sc,e=>(rdUn e).any fun q=>decide (q.1=.Not)&&chkT T a N sc q.2
 |.and a b,N,sc,e=>(zb3 e).any fun q=>decide (q.1=.And)&&(match q.2.1 with
  |x::y::rest=>chkT T a N sc x&&(if rest.isEmpty then chkT T b N sc y else chkT T b N sc (.BoolOp .And (y::rest) q.2.2))|_=>false)
 |.or a b,N,sc,e=>(zb3 e).any fun q=>decide (q.1=.Or)&&(match q.2.1 with
  |x::y::rest=>chkT T a N sc x&&(if rest.isEmpty then chkT T b N sc y else chkT T b N sc (.BoolOp .Or (y::rest) q.2.2))|_=>false)
 |.tst a,N,sc,e=>zeT e&&chkE T a N sc e|_,_,_,_=>false
noncomputable def chkL(T:Tab):CL->List Str->Scope->Expr->Bool
 |.val a,N,sc,e=>zaz e&&chkE T a N sc e|.rng1 a,N,sc,e=>(zaC e).any fun q=>(q.1==("range":Str))&&bltB T sc q.1&&zah q.2&&chkE T a N sc q.2|.txt a,N,sc,e=>zaz e&&chkE T a N sc e
 |.comp nt js g it c e,N,sc,ex=>(rdLC ex).any fun q=>(one q.2.1).any fun z=>decide (z.is_async=0)&&zih sc q.2.2.1 N js&&(zaz z.iter&&(ze8 z.target||!(ze7 it)))&&chkL T it N sc z.iter&&decide ((zbn z.target).length=nt)&&decide ((capN N (zbn z.target) js).Nodup)
  && tgB q.2.2.1 (capN N (zbn z.target) js) g z.target
  && (if z.ifs.isEmpty then zgK c else(one z.ifs).any fun t=>chkT T c (capN N (zbn z.target) js) q.2.2.1 t)
  && chkE T e (capN N (zbn z.target) js) q.2.2.1 q.1
end
noncomputable def zc8:Stmt->Option (Expr×Expr×Pos)|.Assign tgs v p=>(one tgs).map fun t=>(t,v,p)|_=>none
noncomputable def zjL:Stmt->Option (Expr×List Stmt×List Stmt)|.If e a b _=>some (e,a,b)|_=>none
noncomputable def zlP:Stmt->Option (Expr×Expr×List Stmt)|.For tg it b els _=>if els.isEmpty then some (tg,it,b) else none|_=>none
noncomputable def zjK:Stmt->Option Expr|.Return v _=>v|_=>none
noncomputable def zjM:Stmt->Option Expr|.Expr v _=>some v|_=>none
section
variable{s:Stmt}{e v tg it:Expr}{a b:List Stmt}{p:Pos}
theorem zaV(h:zc8 s=some (tg,v,p)):s=.Assign [tg] v p:=by
 cases s with
 |Assign tgs v p=>
  simp only[zc8]at h;cases q:one tgs with
  |none=>rw[q]at h;cases h
  |some t=>rw[q]at h;cases h;rw[zav q]
 |_=>cases h
theorem zdD(h:zjL s=some (e,a,b)):∃p,s=.If e a b p:=by cases s<;>first|(cases h;exact⟨_,rfl⟩)|cases h
theorem zgd(h:zlP s=some (tg,it,b)):∃p,s=.For tg it b [] p:=by
 cases s with
 |For tg it b els p=>cases els with|nil=>cases h;exact⟨_,rfl⟩|cons _ _=>cases h
 |_=>cases h
theorem zga(h:zjK s=some e):∃p,s=.Return (some e) p:=by cases s with|Return v p=>simp[zjK]at h;subst h;exact⟨_,rfl⟩|_=>cases h
theorem zdE(h:zjM s=some e):∃p,s=.Expr e p:=by cases s<;>first|(cases h;exact⟨_,rfl⟩)|cases h
end
noncomputable def zgb:Stmt->Option (Str×Expr)|.Raise (some e) none _=>zaC e|_=>none
theorem zel(h:zgb s=some (x,a)):∃np cp p,s=.Raise (some (.Call (.Name x np) [a] [] cp)) none p:=by
 cases s with
 |Raise e c p=>
  cases e with
  |none=>cases h
  |some e=>cases c with|none=>obtain⟨p1,p2,rfl⟩:=zap h;exact⟨_,_,_,rfl⟩|some c=>cases h
 |_=>cases h
noncomputable def zhC:ExceptHandler->Option (Str×Str×Str)|.ExceptHandler (some (.Name xR _)) (some n) [.Assign [.Name y _] (.Name m _) _] _=>if m=n then some (xR,n,y) else none|_=>none
theorem zgc(e:zhC h=some (xR,n,y)):∃np p1 p2 p3 hp,h=.ExceptHandler (some (.Name xR np)) (some n) [.Assign [.Name y p1] (.Name n p2) p3] hp:=by unfold zhC at e;split at e;split at e;rename_i z;subst z;cases e;exact⟨_,_,_,_,_,rfl⟩;cases e;cases e
noncomputable def zjJ:Stmt->Option (List Stmt×Str×Str×Str)|.Try body hs els fin _=>if els.isEmpty&&fin.isEmpty then(one hs).bind fun h=>(zhC h).map fun q=>(body,q) else none|_=>none
theorem zf9(h:zjJ s=some (b,xR,n,y)):∃np p1 p2 p3 hp p,s=.Try b [.ExceptHandler (some (.Name xR np)) (some n) [.Assign [.Name y p1] (.Name n p2) p3] hp] [] [] p:=by
 cases s with
 |Try body hs els fin p=>
  simp only[zjJ]at h;split at h;rename_i c;rw[and_eq_true,isEmpty_iff,isEmpty_iff]at c;obtain⟨c1,c2⟩:=c;subst c1 c2;cases e:one hs with
  |none=>rw[e]at h;cases h
  |some hd=>rw[e]at h;cases zav e;cases e2:zhC hd with|none=>simp[e2]at h| some q=>simp[e2]at h;obtain⟨rfl,rfl,rfl,rfl⟩:=h;obtain⟨np,p1,p2,p3,hp,rfl⟩:=zgc e2;exact⟨np,p1,p2,p3,hp,p,rfl⟩
  cases h
 |_=>cases h
noncomputable def chkB(T:Tab):TrB->List Str->Scope->List Stmt->Bool
 |.asg i f es,N,sc,st=>(one st).any fun s=>(zc8 s).any fun z=>(zaU z.1).any fun y=>(zaA z.2.1).any fun q=>(N[i]?==some y)&&zbR sc y&&isGl sc q.1&&nmB q.1&&T.xfns.contains f&&fnB T f 0 q.1&&!q.2.isEmpty&&za9 T es N sc q.2|.ite c a b,N,sc,st=>(one st).any fun s=>(zjL s).any fun q=>chkT T c N sc q.1&&chkB T a N sc q.2.1&&chkB T b N sc q.2.2|.setF a f g es,N,sc,st=>(one st).any fun s=>(zc8 s).any fun z=>(zbs z.1).any fun t=>(zaA z.2.1).any fun q=>decide (t.2.1=f)&&T.flds.contains f&&chkE T a N sc t.1&&isGl sc q.1&&nmB q.1&&T.xfns.contains g&&fnB T g 0 q.1&&!q.2.isEmpty&&za9 T es N sc q.2|.mk c f x j es,N,sc,st=>(one st).any fun s=>(zjM s).any fun e=>(zaA e).any fun q=>decide (q.1=x)&&isGl sc x&&nmB x&&decide (T.cls[c]?=some x)&&T.inits.contains (c,f,j)&&!q.2.isEmpty&&za9 T es N sc q.2
 |.comp i nt js g it f es,N,sc,st=>(one st).any fun s=>(zc8 s).any fun u=>(zaU u.1).any fun y=>(rdLC u.2.1).any fun q=>(one q.2.1).any fun z=>(zaA q.1).any fun w=>decide (z.is_async=0)&&zih sc q.2.2.1 N js&&(zaz z.iter&&(ze8 z.target||!(ze7 it)))&&chkL T it N sc z.iter&&decide ((zbn z.target).length=nt)&&decide ((capN N (zbn z.target) js).Nodup)
  && tgB q.2.2.1 (capN N (zbn z.target) js) g z.target&&z.ifs.isEmpty&&(N[i]?==some y)&&zbR sc y&&isGl q.2.2.1 w.1&&nmB w.1&&T.xfns.contains f&&fnB T f 0 w.1&&!w.2.isEmpty&&za9 T es (capN N (zbn z.target) js) q.2.2.1 w.2
noncomputable def chkS(T:Tab):CS->List Str->Scope->List Stmt->Bool
 |.nil,_,_,st=>st.isEmpty|.stop,_,_,_=>true|.asg i e r,N,sc,st=>(match st with | []=>false|s::rest=>(zc8 s).any fun q=>(zaU q.1).any fun x=>(N[i]?==some x)&&zbR sc x&&chkE T e N sc q.2.1&&chkS T r N sc rest)|.asgT g e r,N,sc,st=>(match st with | []=>false|s::rest=>(zc8 s).any fun q=>(zek q.1).any fun es=>((zaU q.2.1).isSome||(zaA q.2.1).isSome)&&decide (2<=g.length)&&zbD sc N g es&&chkE T e N sc q.2.1&&chkS T r N sc rest)|.setF a f e r,N,sc,st=>(match st with | []=>false|s::rest=>(zc8 s).any fun q=>(zbs q.1).any fun z=>decide (z.2.1=f)&&T.flds.contains f&&za6 q.2.1&&chkE T a N sc z.1&&chkE T e N sc q.2.1&&chkS T r N sc rest)|.setIx a b e r,N,sc,st=>(match st with | []=>false|s::rest=>(zc8 s).any fun q=>(zc5 q.1).any fun z=>za6 q.2.1&&chkE T a N sc z.1&&chkE T b N sc z.2&&chkE T e N sc q.2.1&&chkS T r N sc rest)|.ifS c t u r,N,sc,st=>(match st with | []=>false|s::rest=>(zjL s).any fun q=>chkT T c N sc q.1&&chkS T t N sc q.2.1&&chkS T u N sc q.2.2&&chkS T r N sc rest)|.forS g l b r,N,sc,st=>(match st with | []=>false|s::rest=>(zlP s).any fun q=>zaz q.2.1&&chkL T l N sc q.2.1&&chkS T b N sc q.2.2&&chkS T r N sc rest&&(tgB sc N g q.1&&(ze8 q.1||!(ze7 l))))|.ret e r,N,sc,st=>(match st with | []=>false|s::rest=>(zjK s).any fun v=>chkE T e N sc v&&chkS T r N sc rest)|.expr e r,N,sc,st=>(match st with | []=>false|s::rest=>(zjM s).any fun v=>za6 v&&chkE T e N sc v&&chkS T r N sc rest)|.rais c x f a,N,sc,st=>(match st with | []=>false|s::_=>(zgb s).any fun q=>decide (q.1=x)&&isGl sc x&&nmB x&&T.xcs.contains (c,x,f)&&zah q.2&&chkE T a N sc q.2)|.blk b r,N,sc,st=>(match st with | []=>false|s::rest=>chkB T b N sc [s]&&chkS T r N sc rest)|.tryS b x ie ix r,N,sc,st=>(match st with | []=>false|s::rest=>(zjJ s).any fun q=>decide (q.2.1=x)&&isGl sc x&&nmB x&&T.xtrs.contains x&&(N[ie]?==some q.2.2.1)&&(N[ix]?==some q.2.2.2)&&decide (sc.names.lookup q.2.2.1=some .local)&&zbR sc q.2.2.2&&nmB q.2.2.1&&decide (ie≠ix)&&chkB T b N sc q.1&&chkS T r N sc rest)
end R
section
set_option maxHeartbeats 8000000
namespace R
open PySem PySem.Spec PyProof.Rows L2
variable[Mks]
section
variable{T:Tab}{cf:CF}{k:Nat}{N:List Str}{sc:Scope}{X:Cx}
theorem zbu(env:Env)(x:Str):∀{names:List (Str×NameKind)}{k0:NameKind},names.lookup x=some k0->k0≠.free->(names.map (zbz env)).lookup x=some k0
 | [],_,h,_=>by simp at h| y::r,k0,h,hk=>by
  rw[map_cons];have f1:=zcj env y;have f2:=zci env y;obtain⟨n,k1⟩:=y;generalize hz:zbz env (n,k1)=z at *;obtain⟨zn,zk⟩:=z;simp only at f1 f2;subst f1;rw[lookup_cons]at h⊢;cases hx:x==zn with
  |true=>rw[hx]at h;have e:k1=k0:=Option.some.inj h;subst e;rcases f2 with f2|⟨q,_⟩;show some zk=_;rw[f2];exact absurd q hk
  |false=>rw[hx]at h;exact zbu env x h hk
theorem zdn(G:Gd T cf k N sc X)(h:zih sc scope N js=true):CompOk X.env.scope scope X.N js:=by unfold zih at h;simp only[and_eq_true,all_eq_true,decide_eq_true_eq,or_eq_true]at h;obtain⟨⟨⟨⟨h1,h2⟩,h3⟩,h4⟩,h5⟩:=h;refine⟨h1,h2,fun y hy e=>?_,fun y hy e=>?_,fun j hj=>?_⟩;rcases h3 y hy with z|z;exact absurd e z;exact z;rcases h4 y hy with (z|z)|z;exact absurd e z;exact .inl (G.cell _ z);exact(G.free _ z).symm;rw[G.nm];exact h5 j hj
theorem zew(G:Gd T cf k N sc X)(ok:CompOk X.env.scope scope X.N js)(hn:(capN N tgs js).Nodup)(cl:List (Str×Addr))(C:Addr)(fp:List Addr)(s:Shared)(H:Hp)(pn:List (Addr×Obj)) :
  Gd T cf k (capN N tgs js) scope (zar X (capN X.N tgs js) scope cl C fp s H pn):=by
 have names:(zar X (capN X.N tgs js) scope cl C fp s H pn).env.scope.names=scope.names.map (zbz X.env):=zbP scope X.env;have noc:∀x,scope.names.lookup x≠some .cell:=fun x e=>ok.nocell _ (PySem.mem_of_lookup e) rfl;refine⟨by rw[<-G.nm],hn,fun x e=>?_,fun x e=>absurd e (noc x),fun x e=>?_,fun x e=>?_,.inr noc,G.calm,PassesOwn.never,G.room',G.tab⟩;rw[names];exact zbu _ _ e (by decide);rw[names];exact zbf _ _ _ e;rw[names];exact zbu _ _ e (by decide)
theorem zaO(h:nmB x=true):(x==("__debug__":Str))=false/\(x==("__classdict__":Str))=false/\x≠("__name__":Str):=by unfold nmB at h;simp only[and_eq_true,not_eq_true']at h;exact⟨h.1.1,h.1.2,fun e=>by rw[e]at h;simp at h⟩
theorem zkS(h:tyB t y=true):t∈["bool","int","str","list","tuple","dict"]/\bootBuiltins y=some (.type t):=by unfold tyB at h;simp at h;rcases h with ((((⟨rfl,rfl⟩|⟨rfl,rfl⟩)|⟨rfl,rfl⟩)|⟨rfl,rfl⟩)|⟨rfl,rfl⟩)|⟨rfl,rfl⟩;exact⟨by simp,zky⟩;exact⟨by simp,ziW⟩;exact⟨by simp,ziV⟩;exact⟨by simp,zeD⟩;exact⟨by simp,zfq⟩;exact⟨by simp,zkx⟩
theorem zfd(h:fnB T f j x=true):∃ps nd,T.fns[f]?=some (x,ps,nd)/\j<=nd:=by
 unfold fnB at h;cases e:T.fns[f]? with
 |none=>rw[e]at h;cases h
 |some q=>obtain⟨y,ps,nd⟩:=q;rw[e]at h;simp at h;obtain⟨rfl,h2⟩:=h;exact⟨ps,nd,rfl,h2⟩
theorem zaq:∀{ces:CEs}{N:List Str}{sc:Scope}{es:List Expr},za9 T ces N sc es=true->es.all zah=true
 |.nil,N,sc,es,h=>by simp[za9,isEmpty_iff]at h;subst h;rfl| .cons a r,N,sc,es,h=>by cases es with|nil=>simp[za9]at h| cons e es=>simp[za9,and_eq_true]at h;simp[h.1.1,zaq h.2]
theorem zfn(h:zj5 es=true):∃a,es=.cons a .nil:=by
 cases es with
 |nil=>cases h
 |cons a r=>cases r with|nil=>exact⟨a,rfl⟩|cons _ _=>cases h
theorem zfL(G:Gd T cf k N sc X)(h:biB b x n=true):∃id,zba X (.builtin id) (rB X.K fun S ds=>R.bi S b ds)/\bootBuiltins x=some (.builtin id):=by cases b with|len=>simp[biB,and_eq_true,beq_iff_eq]at h;rw[h.1];exact⟨_,zmm,zhd⟩|abs=>simp[biB,and_eq_true,beq_iff_eq]at h;rw[h.1];exact⟨_,zm1,zmY⟩|isin t=>simp[biB]at h
def LOk(T:Tab)(cf:CF)(k:Nat)(cl:CL)(X:Cx)(e:Expr):Prop:=(zfH cl=false->PE X e (tL X.K cf cl))/\(zmv cl=true->PE X e (tLt X.K cf cl))/\(∀tg,(ze8 tg||!(ze7 cl))=true->PI X tg e (tI X.K cf cl))/\
 ∀a,cl=.rng1 a->∃a' p2 p,e=.Call (.Name "range" p2) [a'] [] p/\(Gl X "range"/\X.mg "range"=none)/\PE X a' (tE X.K cf a)/\zah a'=true
noncomputable def EsAll(cf:CF)(X:Cx):CEs->List Expr->Prop
 |.nil,es=>es=[]|.cons a r,e::es=>PE X e (tE X.K cf a)/\EsAll cf X r es|.cons _ _,[]=>False
def EsOk(cf:CF)(ces:CEs)(X:Cx)(es:List Expr):Prop:=PA X es (tAs X.K cf ces)/\EsAll cf X ces es
theorem EsAll.one{cf:CF}{X:Cx}{es:CEs}{e1:Expr}(h:EsAll cf X es [e1])(ea:es=.cons a .nil):PE X e1 (tE X.K cf a):=by subst ea;exact h.1
theorem all1{cf:CF}{X:Cx}{es:CEs}{e:Expr}(h:EsAll cf X es [e]):∃a,es=.cons a .nil/\PE X e (tE X.K cf a):=by
 cases es with
 |nil=>cases h
 |cons a r=>cases r with|nil=>exact⟨a,rfl,h.1⟩|cons b r=>exact h.2.elim
theorem all2{cf:CF}{X:Cx}{es:CEs}{e f:Expr}(h:EsAll cf X es [e,f]):∃a b,es=.cons a (.cons b .nil)/\PE X e (tE X.K cf a)/\PE X f (tE X.K cf b):=by
 cases es with
 |nil=>cases h
 |cons a r=>obtain⟨b,rfl,hb⟩:=all1 h.2;exact⟨a,b,rfl,h.1,hb⟩
theorem all3{cf:CF}{X:Cx}{es:CEs}{e f g:Expr}(h:EsAll cf X es [e,f,g]):∃a b c,es=.cons a (.cons b (.cons c .nil))/\PE X e (tE X.K cf a)/\PE X f (tE X.K cf b)/\PE X g (tE X.K cf c):=by
 cases es with
 |nil=>cases h
 |cons a r=>obtain⟨b,c,rfl,hb,hc⟩:=all2 h.2;exact⟨a,b,c,rfl,h.1,hb,hc⟩
theorem zht(G:Gd T cf k N sc X)(h:tgB sc N g tg=true):PG X tg (tG X.K g):=by unfold tgB at h;split at h;rename_i x q;obtain⟨p,rfl⟩:=zat q;split at h;rename_i i q2;rw[zav q2];simp at h;exact zjl G h.1 h.2;cases h;replace h:=zac h;obtain⟨es,q,h⟩:=h;obtain⟨j,p,rfl⟩:=zck q;simp at h;exact ziA G h.2 h.1
theorem zeL(h:zgK c=true):PTs X [] (tT X.K cf c):=by
 have hc:c=.tst (.con (.bl true)):=by
  cases c with
  |tst a=>
   cases a with
   |con d=>
    cases d with
    |bl b=>cases b with|true=>rfl|false=>cases h
    |_=>cases h
   |_=>cases h
  |_=>cases h
 subst hc;intro pins s' σ H' Qv I q;apply zeq pins s' σ H' Qv I;obtain⟨δ,ι,S,Q,hs,hh,w,q⟩:=q;exact q _ _ ⟨ι,S,Ext.refl _ _,hh,w⟩
theorem zde(h1:o=none->m=false/\zcr ce=true)(h2:∀e,o=some e->m=true/\PE X e (tE X.K cf ce)):PartOk X cf m ce o:=by
 cases o with
 |none=>obtain⟨rfl,h⟩:=h1 rfl;cases ce with|con d=>exact .no ⟨d,rfl⟩|_=>cases h
 |some e=>obtain⟨rfl,h⟩:=h2 e rfl;exact .yes h
theorem zbl{x y:Str}(h:(x==y)=true):x=y:=by simpa using h
theorem zfU{e:Expr}{x:Str}(h:txS e=some x):∃j p,e=.Constant (.str x) j p:=by unfold txS at h;split at h;cases h;exact⟨_,_,rfl⟩;cases h
theorem zay{o:Option α}{f:α->Option β}{b:β}(h:o.bind f=some b):∃a,o=some a/\f a=some b:=by
 cases o with
 |none=>cases h
 |some a=>exact⟨a,rfl,h⟩
theorem zbH{c:Prop}[Decidable c]{a b:α}(h:(if c then some a else none)=some b):c/\a=b:=by split at h;rename_i c;exact⟨c,Option.some.inj h⟩;cases h
theorem zdf(h:oneN T sc x e=some xs):∃p2 p a,e=.Call (.Name x p2) [a] [] p/\bltB T sc x=true/\xs=[a]:=by obtain⟨⟨y,a⟩,q,h⟩:=zay h;obtain⟨p2,p,rfl⟩:=zap q;obtain⟨h1,rfl⟩:=zbH h;rw[and_eq_true]at h1;obtain rfl:=zbl h1.1;exact⟨p2,p,a,rfl,h1.2,rfl⟩
theorem zeY(h:mthN x c e=some xs):∃o ap cp j p,e=.Call (.Attribute o x ap) [.Constant (.str (mkS [c])) j p] [] cp/\zbt o=true/\(ap.endLine==cp.line)=true/\xs=[o]:=by obtain⟨⟨o,y,ap,a,cp⟩,q,h⟩:=zay h;cases zbX q;obtain⟨h1,rfl⟩:=zbH h;simp only[and_eq_true,beq_iff_eq]at h1;obtain⟨⟨⟨rfl,h2⟩,h3⟩,h4⟩:=h1;obtain⟨j,p,rfl⟩:=zfU h4;exact⟨o,ap,cp,j,p,rfl,h2,by simpa using h3,rfl⟩
theorem zgt(h:opN o e=some xs):∃a b p,e=.BinOp a o b p/\xs=[a,b]:=by obtain⟨⟨a,o',b⟩,q,h⟩:=zay h;obtain⟨p,rfl⟩:=zdF q;obtain⟨rfl,rfl⟩:=zbH h;exact⟨a,b,p,rfl,rfl⟩
theorem znh(G:Gd T cf k N sc X){t:Tx}{es:CEs}{e:Expr}{xs:List Expr}(h0:slOk t es=true)(h:rdTx T sc t e=some xs)(ha:EsAll cf X es xs)(hst:xs.all zah=true):PE X e (tE X.K cf (.tx t es)):=by
 cases t with
 |sw c=>obtain⟨o,ap,cp,j,p,rfl,h1,h2,rfl⟩:=zeY h;obtain⟨a,rfl,pa⟩:=all1 ha;exact zlo pa h1 h2| spl=>obtain⟨o,ap,cp,j,p,rfl,h1,h2,rfl⟩:=zeY h;obtain⟨a,rfl,pa⟩:=all1 ha;exact zjo pa h1 h2| joi=>obtain⟨⟨o,y,ap,a,cp⟩,q,h⟩:=zay h;cases zbX q;obtain⟨h1,rfl⟩:=zbH h;simp only[and_eq_true,beq_iff_eq]at h1;obtain⟨⟨rfl,h4⟩,h3⟩:=h1;obtain⟨j,p,rfl⟩:=zfU h4;obtain⟨a,rfl,pa⟩:=all1 ha;exact zjs pa (by simpa using hst) (by simpa using h3)| int=>obtain⟨p2,p,a,rfl,h1,rfl⟩:=zdf h;obtain⟨a,rfl,pa⟩:=all1 ha;exact zjv (zaR G h1) pa (by simpa using hst)| str=>obtain⟨p2,p,a,rfl,h1,rfl⟩:=zdf h;obtain⟨a,rfl,pa⟩:=all1 ha;exact zjn (zaR G h1) pa (by simpa using hst)| len=>obtain⟨p2,p,a,rfl,h1,rfl⟩:=zdf h;obtain⟨a,rfl,pa⟩:=all1 ha;exact zjr (zaR G h1) pa (by simpa using hst)| ix=>obtain⟨⟨x,i⟩,q,h⟩:=zay h;obtain⟨p,rfl⟩:=zbq q;obtain⟨h1,rfl⟩:=zbH h;obtain⟨a,b,rfl,pa,pb⟩:=all2 ha;exact zlx pa pb h1| inn=>obtain⟨⟨l,os,rs⟩,q,h9⟩:=zay h;obtain⟨p,rfl⟩:=zbr q;split at h9;rename_i e1;obtain⟨r,q2,h8⟩:=zay h9;cases zav q2;obtain⟨h1,rfl⟩:=zbH h8;cases e1;obtain⟨a,b,rfl,pa,pb⟩:=all2 ha;exact zjw pa pb h1;cases h9
 |add=>obtain⟨a,b,p,rfl,rfl⟩:=zgt h;obtain⟨a,b,rfl,pa,pb⟩:=all2 ha;exact zjB pa pb| mul=>obtain⟨a,b,p,rfl,rfl⟩:=zgt h;obtain⟨a,b,rfl,pa,pb⟩:=all2 ha;exact zjp pa pb| sl ml mh=>obtain⟨⟨x,i⟩,q,h⟩:=zay h;obtain⟨p,rfl⟩:=zbq q;obtain⟨⟨l,u⟩,q2,h⟩:=zay h;obtain⟨p2,rfl⟩:=zeR q2;obtain⟨⟨h1,h2⟩,rfl⟩:=zbH h;obtain⟨a,b,c,rfl,pa,pb,pc⟩:=all3 ha;have h0:((ml||zcr b)&&(mh||zcr c))=true:=h0;rw[and_eq_true]at h0;refine zlp pa (zde (fun z=>?_) fun e z=>?_) (zde (fun z=>?_) fun e z=>?_);subst z;subst h1;exact⟨rfl,by simpa using h0.1⟩;subst z;subst h1;exact⟨rfl,pb⟩;subst z;subst h2;exact⟨rfl,by simpa using h0.2⟩;subst z;subst h2;exact⟨rfl,pc⟩
mutual
theorem zad:∀(ce:CE){N:List Str}{sc:Scope}{e:Expr}{X:Cx},Gd T cf k N sc X->chkE T ce N sc e=true->PE X e (tE X.K cf ce)
 |.loc i,N,sc,e,X,G,h=>by simp only[chkE]at h;replace h:=zac h;obtain⟨x,q,h⟩:=h;obtain⟨p,rfl⟩:=zat q;simp only[and_eq_true,beq_iff_eq]at h;obtain⟨h1,h2,_⟩:=zaO h.2;exact zlw G h.1.1 h.1.2 h1 h2| .con d,N,sc,e,X,G,h=>by simp only[chkE]at h;rw[or_eq_true]at h;rcases h with h|h;replace h:=zac h;obtain⟨c,q,h⟩:=h;obtain⟨j,p,rfl⟩:=zeo q;exact zlA h;replace h:=zac h;obtain⟨x,q,h⟩:=h;obtain⟨p,rfl⟩:=zat q;simp only[and_eq_true]at h;obtain⟨h1,h2,_⟩:=zaO h.2;have h3:=h.1.2;unfold conG at h3;split at h3;rename_i d' e';exact zjx G h.1.1 e' h3 h1;cases h3
 |.tst a,N,sc,e,X,G,h=>by simp only[chkE]at h;cases h
 |.bin op a b,N,sc,e,X,G,h=>by simp only[chkE]at h;replace h:=zac h;obtain⟨⟨l,o,r⟩,q,h⟩:=h;obtain⟨p,rfl⟩:=zdF q;simp only[and_eq_true,decide_eq_true_eq]at h;obtain⟨⟨rfl,h1⟩,h2⟩:=h;exact zlC (zad a G h1) (zad b G h2)| .neg a,N,sc,e,X,G,h=>by simp only[chkE]at h;replace h:=zac h;obtain⟨⟨o,x⟩,q,h⟩:=h;obtain⟨p,rfl⟩:=zc4 q;simp only[and_eq_true,decide_eq_true_eq]at h;obtain⟨rfl,h1⟩:=h;exact zlr (zad a G h1)| .nt a,N,sc,e,X,G,h=>by simp only[chkE]at h;replace h:=zac h;obtain⟨⟨o,x⟩,q,h⟩:=h;obtain⟨p,rfl⟩:=zc4 q;simp only[and_eq_true,decide_eq_true_eq]at h;obtain⟨rfl,h1⟩:=h;exact znw (zad a G h1)| .cmp op a b,N,sc,e,X,G,h=>by simp only[chkE]at h;replace h:=zac h;obtain⟨⟨l,os,rs⟩,q,h⟩:=h;obtain⟨p,rfl⟩:=zbr q;rw[and_eq_true,decide_eq_true_eq]at h;obtain⟨e1,h⟩:=h;replace h:=zac h;obtain⟨r,q2,h⟩:=h;cases zav q2;cases e1;simp only[and_eq_true]at h;exact zlB G (zad a G h.1.2) (zad b G h.2) h.1.1| .cmp2 op op' a b c,N,sc,e,X,G,h=>by simp only[chkE]at h;replace h:=zac h;obtain⟨⟨l,os,rs⟩,q,h⟩:=h;obtain⟨p,rfl⟩:=zbr q;rw[and_eq_true,decide_eq_true_eq]at h;obtain⟨e1,h⟩:=h;replace h:=zac h;obtain⟨⟨r,r'⟩,q2,h⟩:=h;cases two_inv q2;cases e1;simp only[and_eq_true]at h;obtain⟨⟨⟨⟨h1,h2⟩,h3⟩,h4⟩,h5⟩:=h;exact zjz G (zad a G h3) (zad b G h4) (zad c G h5) h1 h2| .and a b,N,sc,e,X,G,h=>by simp only[chkE]at h;replace h:=zac h;obtain⟨⟨o,vs,p⟩,q,h⟩:=h;cases zbx q;rw[and_eq_true,decide_eq_true_eq]at h;obtain⟨e1,h⟩:=h;cases e1;dsimp only at h;split at h;rename_i x y rest;rw[and_eq_true]at h;obtain⟨h1,h2⟩:=h;split at h2;rename_i c;cases isEmpty_iff.mp c;exact ziD (zad a G h1) (ziI (zad b G h2));exact ziD (zad a G h1) (zad b G h2);cases h
 |.or a b,N,sc,e,X,G,h=>by simp only[chkE]at h;replace h:=zac h;obtain⟨⟨o,vs,p⟩,q,h⟩:=h;cases zbx q;rw[and_eq_true,decide_eq_true_eq]at h;obtain⟨e1,h⟩:=h;cases e1;dsimp only at h;split at h;rename_i x y rest;rw[and_eq_true]at h;obtain⟨h1,h2⟩:=h;split at h2;rename_i c;cases isEmpty_iff.mp c;exact zlq (zad a G h1) (ziI (zad b G h2));exact zlq (zad a G h1) (zad b G h2);cases h
 |.ite c a b,N,sc,e,X,G,h=>by simp only[chkE]at h;replace h:=zac h;obtain⟨⟨t,x,y⟩,q,h⟩:=h;obtain⟨p,rfl⟩:=zhB q;simp only[and_eq_true]at h;exact zly (zaG c G h.1.1).1 (zad a G h.1.2) (zad b G h.2)| .tup es,N,sc,e,X,G,h=>by simp only[chkE]at h;replace h:=zac h;obtain⟨xs,q,h⟩:=h;obtain⟨j,p,rfl⟩:=zck q;exact zln (zaw es G h).1| .lst es,N,sc,e,X,G,h=>by simp only[chkE]at h;replace h:=zac h;obtain⟨xs,q,h⟩:=h;obtain⟨p,rfl⟩:=zfx q;exact zlv (zaw es G h).1| .insL o a b,N,sc,e,X,G,h=>by simp only[chkE]at h;replace h:=zac h;obtain⟨⟨oe,x,ap,as,cp⟩,q,h⟩:=h;cases zem q;replace h:=zac h;obtain⟨⟨e1,e2⟩,q2,h⟩:=h;cases two_inv q2;simp only[and_eq_true]at h;obtain⟨⟨⟨⟨⟨⟨⟨hx,h1⟩,h2⟩,h3⟩,h4⟩,h5⟩,h6⟩,h7⟩:=h;cases zbl hx;exact zlz (zad o G h5) (zad a G h6) (zad b G h7) h1 h2 h3 h4| .ix a b,N,sc,e,X,G,h=>by simp only[chkE]at h;replace h:=zac h;obtain⟨⟨x,i⟩,q,h⟩:=h;obtain⟨p,rfl⟩:=zbq q;simp only[and_eq_true]at h;exact znz (zad a G h.1.2) (zad b G h.2) h.1.1| .mk c f x j es,N,sc,e,X,G,h=>by
  simp only[chkE]at h;replace h:=zac h;obtain⟨⟨x',args⟩,q,h⟩:=h;obtain⟨p2,p,rfl⟩:=zao q;simp only[and_eq_true,or_eq_true,decide_eq_true_eq]at h;obtain⟨⟨⟨⟨⟨⟨rfl,h1⟩,h2⟩,h3⟩,h4⟩,h5⟩,h6⟩:=h;obtain⟨n1,n2,n3⟩:=zaO h2;have ha:=(zaw es G h6).1;cases args with
  |nil=>
   have:es=.nil:=by cases es with|nil=>rfl|cons _ _=>rcases h5 with z|z<;>cases z
   rw[this];exact zlu G h4 h3 h1 n1
  |cons a as=>exact zny G h4 h3 h1 n1 ha (zaq h6)
 |.mkX c x f a,N,sc,e,X,G,h=>by simp only[chkE]at h;replace h:=zac h;obtain⟨⟨x',arg⟩,q,h⟩:=h;obtain⟨p2,p,rfl⟩:=zap q;simp only[and_eq_true,decide_eq_true_eq]at h;obtain⟨⟨⟨⟨⟨rfl,h1⟩,h2⟩,h3⟩,h4⟩,h5⟩:=h;exact zls G h3 h1 (zaO h2).1 (zad a G h5) h4| .fldX a f,N,sc,e,X,G,h=>by simp only[chkE]at h;replace h:=zac h;obtain⟨⟨o,f',p⟩,q,h⟩:=h;cases zbb q;simp only[and_eq_true,decide_eq_true_eq]at h;obtain⟨⟨⟨rfl,h2⟩,h3⟩,h4⟩:=h;exact zjy G (zad a G h4) h2 h3| .iscX cs x a,N,sc,e,X,G,h=>by simp only[chkE]at h;replace h:=zac h;obtain⟨⟨x',args⟩,q,h⟩:=h;obtain⟨p2,p,rfl⟩:=zao q;replace h:=zac h;obtain⟨⟨e1,e2⟩,q2,h⟩:=h;cases two_inv q2;replace h:=zac h;obtain⟨y,q3,h⟩:=h;obtain⟨p3,rfl⟩:=zat q3;rw[and_eq_true,and_eq_true,and_eq_true,and_eq_true,and_eq_true,and_eq_true,and_eq_true,decide_eq_true_eq]at h;obtain⟨⟨⟨⟨⟨⟨⟨h0,h1⟩,rfl⟩,h2⟩,h3⟩,h4⟩,h5⟩,h6⟩:=h;cases zbl h0;exact zju G (zaR G h1) h2 (zaO h3).1 h4 (zad a G h6) h5| .sl a ml mh lo hi,N,sc,e,X,G,h=>by simp only[chkE]at h;replace h:=zac h;obtain⟨⟨x,i⟩,q,h⟩:=h;obtain⟨p,rfl⟩:=zbq q;replace h:=zac h;obtain⟨⟨l,u⟩,q2,h⟩:=h;obtain⟨p2,rfl⟩:=zeR q2;simp only[and_eq_true]at h;obtain⟨⟨h1,h2⟩,h3⟩:=h;refine znv (zad a G h1) (zde (fun z=>?_) fun e z=>?_) (zde (fun z=>?_) fun e z=>?_);subst z;simpa using h2;subst z;simp only[and_eq_true]at h2;exact⟨h2.1,zad lo G h2.2⟩;subst z;simpa using h3;subst z;simp only[and_eq_true]at h3;exact⟨h3.1,zad hi G h3.2⟩| .call f j es,N,sc,e,X,G,h=>by
  simp only[chkE]at h;replace h:=zac h;obtain⟨⟨x,args⟩,q,h⟩:=h;obtain⟨p2,p,rfl⟩:=zao q;simp only[and_eq_true,or_eq_true]at h;obtain⟨⟨⟨⟨h1,h2⟩,h3⟩,h4⟩,h5⟩:=h;obtain⟨n1,n2,n3⟩:=zaO h2;obtain⟨ps,nd,hf,hj⟩:=zfd h3;have ha:=(zaw es G h5).1;cases args with
  |nil=>
   have:es=.nil:=by cases es with|nil=>rfl|cons _ _=>rcases h4 with z|z<;>cases z
   rw[this];exact zhA G hf hj h1 n1
  |cons a as=>exact zjA G hf hj h1 n1 ha (zaq h5)
 |.bi b es,N,sc,e,X,G,h=>by
  simp only[chkE]at h;replace h:=zac h;obtain⟨⟨x,args⟩,q,h⟩:=h;obtain⟨p2,p,rfl⟩:=zao q;rw[and_eq_true,and_eq_true]at h;obtain⟨⟨h1,h2⟩,h3⟩:=h;obtain⟨n1,n2,n3⟩:=zaO h2;split at h3;rename_i t qt;replace h3:=zac h3;obtain⟨⟨e1,e2⟩,q2,h3⟩:=h3;cases two_inv q2;replace h3:=zac h3;obtain⟨y,q3,h3⟩:=h3;obtain⟨p3,rfl⟩:=zat q3;simp only[and_eq_true]at h3;obtain⟨⟨⟨⟨⟨hx,h4⟩,h5⟩,h6⟩,h7⟩,h8⟩:=h3;cases zbl hx;obtain⟨m1,m2,m3⟩:=zaO h6;obtain⟨t1,t2⟩:=zkS h4;obtain⟨a,ea⟩:=zfn h7;have he:=(zaw es G h8).2.one ea;have hst:=zaq h8;have eb:b=.isin t:=by cases b with|isin _=>cases qt;rfl|_=>cases qt
  rw[ea,eb];exact zjt G (zaR G h1) (zaR G h5) t2 t1 m3 m1 he (by simpa using hst);rw[and_eq_true,and_eq_true]at h3;cases args with
  |nil=>cases h3.1.2
  |cons a as=>obtain⟨id,hc,hv⟩:=zfL G h3.1.1;exact znA hc (zaR G h1) hv (zaw es G h3.2).1 (zaq h3.2) n3 n1
 |.mt m o es,N,sc,e,X,G,h=>by
  simp only[chkE]at h;replace h:=zac h;obtain⟨⟨oe,x,ap,e1,cp⟩,q,h⟩:=h;cases zbX q;simp only[and_eq_true]at h;obtain⟨⟨⟨⟨⟨h1,h2⟩,h3⟩,h4⟩,h5⟩,h6⟩:=h;obtain⟨a,ea⟩:=zfn h4;have he:=(zaw es G h6).2.one ea;have hst:zah e1=true:=by simpa using zaq h6
  rw[ea];cases m with| append=>cases zbl h1;exact znx PySem.F.slot_list_append PySem.F.type_list_append zhe (zad o G h5) he hst h2 h3
 |.mkL l,N,sc,e,X,G,h=>by
  simp only[chkE]at h;split at h;rename_i c;split at h;have ht:zmv l=true:=by cases l with|comp=>rfl|_=>cases c
  exact PE.imp ((za8 l G h).2.1 ht) fun σ H Qv q=>zgA q;replace h:=zac h;obtain⟨⟨x,e1⟩,q,h⟩:=h;obtain⟨p2,p,rfl⟩:=zap q;simp only[and_eq_true]at h;obtain⟨⟨⟨hx,h1⟩,h2⟩,h4⟩:=h;cases zbl hx;have hr:zfH l=false:=by cases l with|comp=>rfl|_=>cases c
  exact ziC G (zaR G h1) ((za8 l G h4).1 hr) h2;replace h:=zac h;obtain⟨⟨x,e1⟩,q,h⟩:=h;obtain⟨p2,p,rfl⟩:=zap q;simp only[and_eq_true,or_eq_true,not_eq_true']at h;obtain⟨⟨⟨⟨hx,h1⟩,h2⟩,h3⟩,h4⟩:=h;cases zbl hx;have hl:=za8 l G h4;rcases h3 with h3|h3;exact ziC G (zaR G h1) (hl.1 h3) h2;have:∃a,l=.rng1 a:=by cases l with|rng1 a=>exact⟨a,rfl⟩|_=>cases h3
  obtain⟨a,ea⟩:=this;obtain⟨a',p3,p4,rfl,hr,ha,hs⟩:=hl.2.2.2 a ea;rw[ea];exact zjq G (zaR G h1) hr ha hs
 |.mkT l,N,sc,e,X,G,h=>by simp only[chkE]at h;replace h:=zac h;obtain⟨⟨x,e1⟩,q,h⟩:=h;obtain⟨p2,p,rfl⟩:=zap q;simp only[and_eq_true,not_eq_true']at h;obtain⟨⟨⟨⟨hx,h1⟩,h2⟩,h3⟩,h4⟩:=h;cases zbl hx;have hl:=za8 l G h4;exact zlt G (zaR G h1) (hl.1 h3) h2| .all l,N,sc,e,X,G,h=>by simp only[chkE]at h;replace h:=zac h;obtain⟨⟨x,e1⟩,q,h⟩:=h;obtain⟨p2,p,rfl⟩:=zap q;simp only[and_eq_true,not_eq_true']at h;obtain⟨⟨⟨⟨hx,h1⟩,h2⟩,h3⟩,h4⟩:=h;cases zbl hx;exact zlD G (zaR G h1) ((za8 l G h4).1 h3) h2| .lenset l,N,sc,e,X,G,h=>by simp only[chkE]at h;replace h:=zac h;obtain⟨⟨x,e1⟩,q,h⟩:=h;obtain⟨p2,p,rfl⟩:=zap q;replace h:=zac h;obtain⟨⟨y,e2⟩,q2,h⟩:=h;obtain⟨p3,p4,hy⟩:=zap q2;simp only[and_eq_true,not_eq_true']at h;obtain⟨⟨⟨⟨⟨⟨hx,h1⟩,hz⟩,h2⟩,h3⟩,h4⟩,h5⟩:=h;cases zbl hx;cases zbl hz;dsimp only at hy;subst hy;exact zf3 G (zaR G h1) (zaR G h2) ((za8 l G h5).1 h4) h3| .tx t es,N,sc,e,X,G,h=>by simp only[chkE]at h;rw[and_eq_true]at h;obtain⟨xs,q,h2⟩:=zac h.2;exact znh G h.1 q (zaw es G h2).2 (zaq h2)
theorem zaw:∀(ces:CEs){N:List Str}{sc:Scope}{es:List Expr}{X:Cx},Gd T cf k N sc X->za9 T ces N sc es=true->EsOk cf ces X es
 |.nil,N,sc,es,X,G,h=>by simp only[za9,isEmpty_iff]at h;subst h;exact⟨zf6,rfl⟩| .cons a r,N,sc,es,X,G,h=>by cases es with|nil=>simp[za9]at h| cons e es=>simp only[za9,and_eq_true]at h;have he:=zad a G h.1.2;exact⟨zc3 he (zaw r G h.2).1 h.1.1,he,(zaw r G h.2).2⟩
theorem zaG:∀(ce:CE){N:List Str}{sc:Scope}{e:Expr}{X:Cx},Gd T cf k N sc X->chkT T ce N sc e=true->PT X e (tT X.K cf ce)/\((∃op v r p,e=.BoolOp op (v::r) p)->PW X e (tT X.K cf ce))
 |.cmp op a b,N,sc,e,X,G,h=>by simp only[chkT]at h;replace h:=zac h;obtain⟨⟨l,os,rs⟩,q,h⟩:=h;obtain⟨p,rfl⟩:=zbr q;rw[and_eq_true,decide_eq_true_eq]at h;obtain⟨e1,h⟩:=h;replace h:=zac h;obtain⟨r,q2,h⟩:=h;cases zav q2;cases e1;simp only[and_eq_true]at h;exact⟨zlc G (zad a G h.1.2) (zad b G h.2) h.1.1,fun⟨_,_,_,_,z⟩=>nomatch z⟩| .cmp2 op op' a b c,N,sc,e,X,G,h=>by simp only[chkT]at h;replace h:=zac h;obtain⟨⟨l,os,rs⟩,q,h⟩:=h;obtain⟨p,rfl⟩:=zbr q;rw[and_eq_true,decide_eq_true_eq]at h;obtain⟨e1,h⟩:=h;replace h:=zac h;obtain⟨⟨r,r'⟩,q2,h⟩:=h;cases two_inv q2;cases e1;simp only[and_eq_true]at h;obtain⟨⟨⟨⟨h1,h2⟩,h3⟩,h4⟩,h5⟩:=h;exact⟨zjd G (zad a G h3) (zad b G h4) (zad c G h5) h1 h2,fun⟨_,_,_,_,z⟩=>nomatch z⟩| .nt a,N,sc,e,X,G,h=>by simp only[chkT]at h;replace h:=zac h;obtain⟨⟨o,x⟩,q,h⟩:=h;obtain⟨p,rfl⟩:=zc4 q;simp only[and_eq_true,decide_eq_true_eq]at h;obtain⟨rfl,h1⟩:=h;exact⟨znt (zaG a G h1).1,fun⟨_,_,_,_,z⟩=>nomatch z⟩| .and a b,N,sc,e,X,G,h=>by simp only[chkT]at h;replace h:=zac h;obtain⟨⟨o,vs,p⟩,q,h⟩:=h;cases zbx q;rw[and_eq_true,decide_eq_true_eq]at h;obtain⟨e1,h⟩:=h;cases e1;dsimp only at h;split at h;rename_i x y rest;rw[and_eq_true]at h;obtain⟨h1,h2⟩:=h;split at h2;rename_i c;cases isEmpty_iff.mp c;have w:=zix (pos:=p) (zaG a G h1).1 (zjP (zaG b G h2).1);exact⟨w.pt,fun _=>w⟩;have w:=zix (zaG a G h1).1 ((zaG b G h2).2 ⟨_,_,_,_,rfl⟩);exact⟨w.pt,fun _=>w⟩;cases h
 |.or a b,N,sc,e,X,G,h=>by simp only[chkT]at h;replace h:=zac h;obtain⟨⟨o,vs,p⟩,q,h⟩:=h;cases zbx q;rw[and_eq_true,decide_eq_true_eq]at h;obtain⟨e1,h⟩:=h;cases e1;dsimp only at h;split at h;rename_i x y rest;rw[and_eq_true]at h;obtain⟨h1,h2⟩:=h;split at h2;rename_i c;cases isEmpty_iff.mp c;have w:=zlb (pos:=p) (zaG a G h1).1 (zlR (zaG b G h2).1);exact⟨w.pt,fun _=>w⟩;have w:=zlb (zaG a G h1).1 ((zaG b G h2).2 ⟨_,_,_,_,rfl⟩);exact⟨w.pt,fun _=>w⟩;cases h
 |.tst a,N,sc,e,X,G,h=>by simp only[chkT,and_eq_true]at h;exact⟨zla (zad a G h.2) h.1,fun⟨_,_,_,_,z⟩=>by rw[z]at h;simp[zeT]at h⟩|.loc i,N,sc,e,X,G,h=>absurd h Bool.false_ne_true|.con d,N,sc,e,X,G,h=>absurd h Bool.false_ne_true|.bin op a b,N,sc,e,X,G,h=>absurd h Bool.false_ne_true|.neg a,N,sc,e,X,G,h=>absurd h Bool.false_ne_true|.ite c a b,N,sc,e,X,G,h=>absurd h Bool.false_ne_true|.tup es,N,sc,e,X,G,h=>absurd h Bool.false_ne_true|.lst es,N,sc,e,X,G,h=>absurd h Bool.false_ne_true|.insL o a b,N,sc,e,X,G,h=>absurd h Bool.false_ne_true|.ix a b,N,sc,e,X,G,h=>absurd h Bool.false_ne_true|.mk c f x j es,N,sc,e,X,G,h=>absurd h Bool.false_ne_true|.mkX c x f a,N,sc,e,X,G,h=>absurd h Bool.false_ne_true|.fldX a f,N,sc,e,X,G,h=>absurd h Bool.false_ne_true|.iscX cs x a,N,sc,e,X,G,h=>absurd h Bool.false_ne_true|.sl a ml mh lo hi,N,sc,e,X,G,h=>absurd h Bool.false_ne_true|.call f j es,N,sc,e,X,G,h=>absurd h Bool.false_ne_true|.bi b es,N,sc,e,X,G,h=>absurd h Bool.false_ne_true|.mt m o es,N,sc,e,X,G,h=>absurd h Bool.false_ne_true|.mkL l,N,sc,e,X,G,h=>absurd h Bool.false_ne_true|.mkT l,N,sc,e,X,G,h=>absurd h Bool.false_ne_true|.all l,N,sc,e,X,G,h=>absurd h Bool.false_ne_true|.lenset l,N,sc,e,X,G,h=>absurd h Bool.false_ne_true|.tx t es,N,sc,e,X,G,h=>absurd h Bool.false_ne_true
theorem za8:∀(cl:CL){N:List Str}{sc:Scope}{e:Expr}{X:Cx},Gd T cf k N sc X->chkL T cl N sc e=true->LOk T cf k cl X e
 |.val a,N,sc,e,X,G,h=>by simp only[chkL,and_eq_true]at h;have hp:=zlj (zad a G h.2);exact⟨fun _=>hp,fun z=>(by cases z),fun tg _=>ziz hp zml,fun a z=>nomatch z⟩| .rng1 a,N,sc,e,X,G,h=>by simp only[chkL]at h;replace h:=zac h;obtain⟨⟨x,e1⟩,q,h⟩:=h;obtain⟨p2,p,rfl⟩:=zap q;simp only[and_eq_true]at h;obtain⟨⟨⟨hx,h1⟩,h2⟩,h3⟩:=h;cases zbl hx;have he:=zad a G h3;exact⟨fun z=>(by cases z),fun z=>(by cases z),fun tg _=>zjk (zaR G h1) he h2,fun a z=>by cases z;exact⟨e1,p2,p,rfl,zaR G h1,he,h2⟩⟩| .txt a,N,sc,e,X,G,h=>by simp only[chkL,and_eq_true]at h;exact⟨fun z=>(by cases z),fun z=>(by cases z),fun tg _=>zlm (zad a G h.2),fun a z=>nomatch z⟩| .comp nt js g it c e,N,sc,ex,X,G,h=>by
  simp only[chkL]at h;replace h:=zac h;obtain⟨⟨elt,gs,scope,p⟩,q,h⟩:=h;cases zc6 q;replace h:=zac h;obtain⟨⟨tg,iter,ifs,asy⟩,q2,h⟩:=h;cases zav q2;rw[and_eq_true,and_eq_true,and_eq_true,and_eq_true,and_eq_true,and_eq_true,and_eq_true,and_eq_true,decide_eq_true_eq,decide_eq_true_eq,decide_eq_true_eq]at h;obtain⟨⟨⟨⟨⟨⟨⟨⟨h1,h2⟩,h3⟩,h4⟩,h5⟩,h6⟩,h7⟩,h8⟩,h9⟩:=h;dsimp only at h1 h2 h3 h4 h5 h6 h7 h8 h9;rw[and_eq_true]at h3;subst h1 h5;have ok:=zdn G h2;have G':=zew G (tgs:=zbn tg) ok h6;have ht:∀cl C fp s H pn,PTs (zar X (capN X.N (zbn tg) js) scope cl C fp s H pn) ifs (tT X.K cf c):=fun cl C fp s H pn=>by split at h8;rename_i ce;cases isEmpty_iff.mp ce;exact zeL (X:=zar X (capN X.N (zbn tg) js) scope cl C fp s H pn) h8;replace h8:=zac h8;obtain⟨t,q3,h8⟩:=h8;cases zav q3;exact zgf (zaG c (G' cl C fp s H pn) h8).1
  have hp:PE X (.ListComp elt [⟨tg,iter,ifs,0⟩] scope p) (tLt X.K cf (.comp (zbn tg).length js g it c e)):=PE.imp (zhR X.env.scope (zbn tg) js G.calm rfl ok ((za8 it G h4).2.2.1 tg h3.2) (fun cl C fp s H pn=>zht (G' cl C fp s H pn) h7) ht (fun cl C fp s H pn=>zad e (G' cl C fp s H pn) h9) (zdk h3.1 X.env)) fun σ H Qv q=>zfl G.tab.frm q;exact⟨fun _=>(PE.ofT hp),fun _=>hp,fun tg _=>ziz (PE.ofT hp) zkb,fun a z=>nomatch z⟩
end
end
end R
end
namespace R
open PySem PySem.Spec PyProof.Rows L2
variable[Mks]
section
variable{T:Tab}{cf:CF}{k:Nat}
theorem zjg{rest:List Stmt}(G:Gd T cf k N sc X)(hi:N[i]?=some x)(hl:zbR sc x=true)(h:chkE T (.mkL l) N sc (.ListComp elt gs scope p2)=true)(hr:PSs X rest (tSt X cf r)) :
  PSs X (.Assign [.Name x p] (.ListComp elt gs scope p2) pos::rest) (tSt X cf (.asg i (.mkL l) r)):=by
 have hw:∃b,swapsWith (.ListComp elt gs scope p2) (some (.Name x p)) pos.line X.env=pure b:=⟨_,rfl⟩;obtain⟨b,hw⟩:=hw;cases b with
 |false=>refine PSs.imp (zan (zdN (by rw[G.nm];exact G.nd) (by rw[G.nm];exact hi) (G.lc hl).1 (zad (.mkL l) G h) hw (G.lc hl).2) hr) fun E σ H ⟨δ,ι,S,Q,hs,hh,w,lf⟩=>?_;simp[exS,zaa]at w;refine tE.run hs hh w fun d v ι1 H1 S1 x1 hs1 hh1 r1 w1=>?_;exact⟨δ.set i (some d),ι1,S1,Q,hs1.set r1 i,hh1,w1,lf.up x1⟩| true=>
  simp[chkE]at h;split at h;rename_i c0;split at h;cases l with
  |comp nt js g it c e=>
   replace h:=zac h;obtain⟨⟨elt',gs',scope',p'⟩,q,h⟩:=h;cases zc6 q;replace h:=zac h;obtain⟨⟨tg,iter,ifs,asy⟩,q2,h⟩:=h;cases zav q2;rw[and_eq_true,and_eq_true,and_eq_true,and_eq_true,and_eq_true,and_eq_true,and_eq_true,and_eq_true,decide_eq_true_eq,decide_eq_true_eq,decide_eq_true_eq]at h;obtain⟨⟨⟨⟨⟨⟨⟨⟨h1,h2⟩,h3⟩,h4⟩,h5⟩,h6⟩,h7⟩,h8⟩,h9⟩:=h;rw[and_eq_true]at h3;subst h1 h5;have ok:=zdn G h2;have G':=zew G ok h6;have ht:∀cl C fp s H pn,PTs (zar X (capN X.N (zbn tg) js) scope cl C fp s H pn) ifs (tT X.K cf c):=fun cl C fp s H pn=>by split at h8;rename_i ce;cases isEmpty_iff.mp ce;exact zeL h8;replace h8:=zac h8;obtain⟨t,q3,h8⟩:=h8;cases zav q3;exact zgf (zaG c (G' cl C fp s H pn) h8).1
   have he:∀cl C fp s H pn,PE (zar X (capN X.N (zbn tg) js) scope cl C fp s H pn) elt (tE X.K cf e):=fun cl C fp s H pn=>zad e (G' cl C fp s H pn) h9;have hg:∀cl C fp s H pn,PG (zar X (capN X.N (zbn tg) js) scope cl C fp s H pn) tg (tG X.K g):=fun cl C fp s H pn=>zht (G' cl C fp s H pn) h7;have hps:=zjT X.env.scope (zbn tg) js (by rw[G.nm];exact G.nd) (by rw[G.nm];exact hi) (G.lc hl).1 G.calm rfl ok ((za8 it G h4).2.2.1 tg h3.2) hg ht he hw (zdk h3.1 X.env) (G.lc hl).2;exact zji G hi ⟨_,hps,fun σ H Qv q=>zfl G.tab.frm (zgA q)⟩ hr
  |_=>cases c0
  cases h;cases h
theorem zni(t:Tx):rdTx T sc t (.ListComp elt gs scope p)=none:=by cases t<;>rfl
theorem zkV(t:Tx):rdTx T sc t (.SetComp elt gs scope p)=none:=by cases t<;>rfl
theorem zk0(t:Tx):rdTx T sc t (.DictComp elt v gs scope p)=none:=by cases t<;>rfl
theorem zku(h:za6 v=false)(hc:chkE T e N sc v=true):∃l elt gs scope p,v=.ListComp elt gs scope p/\e=.mkL l:=by
 cases v with
 |ListComp elt gs scope p=>cases e with|mkL l=>exact⟨l,elt,gs,scope,p,rfl,rfl⟩|_=>simp[chkE,zaU,zcl,zfy,rdUn,zc7,zb3,rdIf,zek,zdC,zen,zc5,zaA,zaC,zbB,zb2,zbY,zbs,zni]at hc
 |SetComp=>cases e<;>simp[chkE,zaU,zcl,zfy,rdUn,zc7,zb3,rdIf,zek,zdC,zen,zc5,zaA,zaC,zbB,zb2,zbY,zbs,rdLC,chkL,zkV,zk0]at hc|DictComp=>cases e<;>simp[chkE,zaU,zcl,zfy,rdUn,zc7,zb3,rdIf,zek,zdC,zen,zc5,zaA,zaC,zbB,zb2,zbY,zbs,rdLC,chkL,zkV,zk0]at hc|_=>cases h
theorem zdo:∀(b:TrB){N:List Str}{sc:Scope}{st:List Stmt}{X:Cx},Gd T cf k N sc X->X.stack=X.env::X.outer/\X.env.frame=some X.env.locals->chkB T b N sc st=true->∃s,st=[s]/\PS X s (tB X cf b)
 |.asg i f es,N,sc,st,X,G,F,h=>by
  simp only[chkB]at h;replace h:=zac h;obtain⟨s,q0,h⟩:=h;cases zav q0;replace h:=zac h;obtain⟨⟨tg,v,pos⟩,q1,h⟩:=h;cases zaV q1;replace h:=zac h;obtain⟨y,q2,h⟩:=h;obtain⟨py,hy⟩:=zat q2;subst hy;replace h:=zac h;obtain⟨⟨x,args⟩,q,h⟩:=h;obtain⟨p2,p,hv⟩:=zao q;subst hv;simp only[and_eq_true,beq_iff_eq]at h;obtain⟨⟨⟨⟨⟨⟨⟨h8,h9⟩,h1⟩,h2⟩,h3⟩,h4⟩,h5⟩,h6⟩:=h;obtain⟨ps,nd,hf,hj⟩:=zfd h4;cases args with
  |nil=>cases h5
  |cons a as=>exact⟨_,rfl,zlF G h8 h9 h3 hf h1 (zaO h2).1 (zaw es G h6).1 (zaq h6)⟩
 |.ite c a b,N,sc,st,X,G,F,h=>by replace h:=zac h;obtain⟨s,q0,h⟩:=h;cases zav q0;replace h:=zac h;obtain⟨⟨e,A,B⟩,q,h⟩:=h;obtain⟨p,rfl⟩:=zdD q;simp at h;obtain⟨sa,ea,ha⟩:=zdo a G F h.1.2;obtain⟨sb,eb,hb⟩:=zdo b G F h.2;subst ea eb;exact⟨_,rfl,zlE (zaG c G h.1.1).1 (zf5 ha) (zf5 hb)⟩| .setF a f g es,N,sc,st,X,G,F,h=>by
  replace h:=zac h;obtain⟨s,q0,h⟩:=h;cases zav q0;replace h:=zac h;obtain⟨⟨tg,v,pos⟩,q1,h⟩:=h;cases zaV q1;replace h:=zac h;obtain⟨⟨o,f',p⟩,q2,h⟩:=h;have hx:=zbb q2;subst hx;replace h:=zac h;obtain⟨⟨x,args⟩,q,h⟩:=h;obtain⟨p2,p',hv⟩:=zao q;subst hv;simp only[and_eq_true,decide_eq_true_eq]at h;obtain⟨⟨⟨⟨⟨⟨⟨⟨rfl,h8⟩,h9⟩,h1⟩,h2⟩,h3⟩,h4⟩,h5⟩,h6⟩:=h;obtain⟨ps,nd,hf,hj⟩:=zfd h4;cases args with
  |nil=>cases h5
  |cons e as=>exact⟨_,rfl,zjD G h8 (zad a G h9) h3 hf h1 (zaO h2).1 (zaw es G h6).1 (zaq h6)⟩
 |.mk c f x j es,N,sc,st,X,G,F,h=>by
  replace h:=zac h;obtain⟨s,q0,h⟩:=h;cases zav q0;replace h:=zac h;obtain⟨v,q1,h⟩:=h;obtain⟨p,rfl⟩:=zdE q1;replace h:=zac h;obtain⟨⟨x',args⟩,q,h⟩:=h;obtain⟨p2,p,rfl⟩:=zao q;simp only[and_eq_true,decide_eq_true_eq]at h;obtain⟨⟨⟨⟨⟨⟨rfl,h1⟩,h2⟩,h3⟩,h4⟩,h5⟩,h6⟩:=h;cases args with
  |nil=>cases h5
  |cons e as=>exact⟨_,rfl,znB G h4 h3 h1 (zaO h2).1 (zaw es G h6).1 (zaq h6)⟩
 |.comp i nt js g it f es,N,sc,st,X,G,F,h=>by
  replace h:=zac h;obtain⟨s,q0,h⟩:=h;cases zav q0;replace h:=zac h;obtain⟨⟨tgt,v,pos⟩,q1,h⟩:=h;cases zaV q1;replace h:=zac h;obtain⟨y,q2,h⟩:=h;obtain⟨py,hy⟩:=zat q2;subst hy;replace h:=zac h;obtain⟨⟨elt,gs,scope,p3⟩,q3,h⟩:=h;have hv:=zc6 q3;subst hv;replace h:=zac h;obtain⟨⟨tg,iter,ifs,asy⟩,q4,h⟩:=h;cases zav q4;replace h:=zac h;obtain⟨⟨x,args⟩,q5,h⟩:=h;obtain⟨p2,p,he⟩:=zao q5;subst he;simp only[and_eq_true,decide_eq_true_eq,beq_iff_eq]at h;obtain⟨⟨⟨⟨⟨⟨⟨⟨⟨⟨⟨⟨⟨⟨⟨h1,h2⟩,h3⟩,h4⟩,h5⟩,h6⟩,h7⟩,h8⟩,h9⟩,h10⟩,h11⟩,h12⟩,h13⟩,h14⟩,h15⟩,h16⟩:=h;subst h1 h5;cases isEmpty_iff.mp h8;have ok:=zdn G h2;have G':=zew G ok h6;obtain⟨ps,nd,hf,hj⟩:=zfd h14;cases args with
  |nil=>cases h15
  |cons e as=>exact⟨_,rfl,zjE G F.1 F.2 h9 h10 h13 hf (zaO h12).1 ok ((za8 it G h4).2.2.1 tg h3.2) (zdk h3.1 X.env) (fun cl C fp s H pn=>(G' cl C fp s H pn).gl h11) (fun cl C fp s H pn=>zht (G' cl C fp s H pn) h7) (fun cl C fp s H pn=>(zaw es (G' cl C fp s H pn) h16).1) (zaq h16)⟩
theorem zaH:∀(cs:CS){N:List Str}{sc:Scope}{st:List Stmt}{X:Cx},Gd T cf k N sc X->X.stack=X.env::X.outer/\X.env.frame=some X.env.locals->chkS T cs N sc st=true->PSs X st (tSt X cf cs)
 |.nil,N,sc,st,X,G,F,h=>by simp[chkS,isEmpty_iff]at h;subst h;exact zlf|.stop,N,sc,st,X,G,F,h=>fun pins s σ H E I ⟨δ,ι,S,Q,hs,hh,w,l⟩=>(by simp only[exS]at w;exact w.elim)| .asg i e r,N,sc,st,X,G,F,h=>by cases st with|nil=>simp[chkS]at h| cons s rest=>simp[chkS]at h;replace h:=zac h;obtain⟨⟨tg,v,pos⟩,q,h⟩:=h;cases zaV q;replace h:=zac h;obtain⟨x,q2,h⟩:=h;obtain⟨p,hx⟩:=zat q2;subst hx;simp at h;obtain⟨⟨⟨h1,h2⟩,h3⟩,h4⟩:=h;have hr:=zaH r G F h4;cases hn:za6 v with|true=>exact zli G h1 h2 (zad e G h3) hn hr| false=>obtain⟨l,elt,gs,scope,p2,rfl,rfl⟩:=zku hn h3;exact zjg G h1 h2 h3 hr
 |.asgT g e r,N,sc,st,X,G,F,h=>by cases st with|nil=>simp[chkS]at h| cons s rest=>replace h:=zac h;obtain⟨⟨tg,v,pos⟩,q,h⟩:=h;cases zaV q;replace h:=zac h;obtain⟨es,q2,h⟩:=h;obtain⟨j,p,hx⟩:=zck q2;subst hx;simp only[and_eq_true,decide_eq_true_eq]at h;obtain⟨⟨⟨⟨h1,h2⟩,h3⟩,h4⟩,h5⟩:=h;refine zjh G h3 h2 (zad e G h4) ?_ (zaH r G F h5);rw[or_eq_true]at h1;rcases h1 with h1|h1;obtain⟨x,hx⟩:=Option.isSome_iff_exists.mp h1;obtain⟨p2,hv⟩:=zat hx;exact .inl ⟨x,p2,hv⟩;obtain⟨⟨x,as⟩,hx⟩:=Option.isSome_iff_exists.mp h1;obtain⟨p2,p3,hv⟩:=zao hx;exact .inr ⟨_,_,_,_,hv⟩
 |.setF a f e r,N,sc,st,X,G,F,h=>by cases st with|nil=>simp[chkS]at h| cons s rest=>replace h:=zac h;obtain⟨⟨tg,v,pos⟩,q,h⟩:=h;cases zaV q;replace h:=zac h;obtain⟨⟨o,f',p⟩,q2,h⟩:=h;have hx:=zbb q2;subst hx;simp only[and_eq_true,decide_eq_true_eq]at h;obtain⟨⟨⟨⟨⟨h1,h2⟩,h3⟩,h4⟩,h5⟩,h6⟩:=h;subst h1;exact zje G h2 (zad a G h4) (zad e G h5) h3 (zaH r G F h6)
 |.setIx a b e r,N,sc,st,X,G,F,h=>by cases st with|nil=>simp[chkS]at h| cons s rest=>replace h:=zac h;obtain⟨⟨tg,v,pos⟩,q,h⟩:=h;cases zaV q;replace h:=zac h;obtain⟨⟨o,i⟩,q2,h⟩:=h;obtain⟨p,hx⟩:=zbq q2;subst hx;simp at h;obtain⟨⟨⟨⟨h1,h2⟩,h3⟩,h4⟩,h5⟩:=h;exact zhv G (zad a G h2) (zad b G h3) (zad e G h4) h1 (zaH r G F h5)
 |.ifS c t u r,N,sc,st,X,G,F,h=>by cases st with|nil=>simp[chkS]at h| cons s rest=>replace h:=zac h;obtain⟨⟨e,a,b⟩,q,h⟩:=h;obtain⟨p,rfl⟩:=zdD q;simp at h;exact znu (zaG c G h.1.1.1).1 (zaH t G F h.1.1.2) (zaH u G F h.1.2) (zaH r G F h.2)
 |.forS g l b r,N,sc,st,X,G,F,h=>by cases st with|nil=>simp[chkS]at h| cons s rest=>replace h:=zac h;obtain⟨⟨tg,it,body⟩,q,h⟩:=h;obtain⟨p,rfl⟩:=zgd q;simp only[and_eq_true]at h;obtain⟨⟨⟨⟨h1,h2⟩,h3⟩,h4⟩,h5⟩:=h;exact zlg G ((za8 l G h2).2.2.1 tg h5.2) (zht G h5.1) (zaH b G F h3) h1 (zaH r G F h4)
 |.ret e r,N,sc,st,X,G,F,h=>by cases st with|nil=>simp[chkS]at h| cons s rest=>replace h:=zac h;obtain⟨v,q,h⟩:=h;obtain⟨p,rfl⟩:=zga q;simp at h;exact zle (zad e G h.1) (zaH r G F h.2)
 |.expr e r,N,sc,st,X,G,F,h=>by cases st with|nil=>simp[chkS]at h| cons s rest=>replace h:=zac h;obtain⟨v,q,h⟩:=h;obtain⟨p,rfl⟩:=zdE q;simp at h;exact zjf (zad e G h.1.2) h.1.1 (zaH r G F h.2)
 |.rais c x f a,N,sc,st,X,G,F,h=>by cases st with|nil=>simp[chkS]at h| cons s rest=>replace h:=zac h;obtain⟨⟨x',arg⟩,q,h⟩:=h;obtain⟨np,cp,p,rfl⟩:=zel q;simp only[and_eq_true,decide_eq_true_eq]at h;obtain⟨⟨⟨⟨⟨rfl,h1⟩,h2⟩,h3⟩,h4⟩,h5⟩:=h;exact zhw G h3 h1 (zaO h2).1 (zad a G h5) h4
 |.blk b r,N,sc,st,X,G,F,h=>by cases st with|nil=>simp[chkS]at h| cons s rest=>simp[chkS,and_eq_true]at h;obtain⟨s',e,hb⟩:=zdo b G F h.1;cases e;exact zlh hb (zaH r G F h.2)
 |.tryS b x ie ix r,N,sc,st,X,G,F,h=>by cases st with|nil=>simp[chkS]at h| cons s rest=>replace h:=zac h;obtain⟨⟨body,xR,n,y⟩,q,h⟩:=h;obtain⟨np,p1,p2,p3,hp,p,rfl⟩:=zf9 q;simp only[and_eq_true,decide_eq_true_eq,beq_iff_eq]at h;obtain⟨⟨⟨⟨⟨⟨⟨⟨⟨⟨⟨rfl,h1⟩,h2⟩,h3⟩,h4⟩,h5⟩,h6⟩,h7⟩,h8⟩,h9⟩,h10⟩,h11⟩:=h;exact zld G (fun pn E hE=>by obtain⟨s,e,z⟩:=zdo b (X:=pnC X pn E) ⟨G.nm,G.nd,G.loc,G.cell,G.free,G.glob,G.fn,G.calm,hE,G.room',G.tab⟩ F h10;subst e;exact zf5 z) F.1 F.2 h3 h1 (zaO h2).1 h4 h5 h6 h7 (zaO h8).1 (zaO h8).2.1 h9 (zaH r G F h11)
theorem RS.start{K:PySem.W.Frag}(r:RVs K ι H ds vs)(hl:ds.length=F.np)(hn:F.nn=N.length):RS K ι H (zaI F ds) (L2.start N vs):=by
 have hlen:=r.length;refine⟨by simp[zaI,L2.start,hlen,hl,hn],fun i d e=>?_⟩;unfold zaI at e;unfold L2.start;by_cases hi:i<ds.length;rw[getElem?_append_left (by simpa using hi),getElem?_map]at e;rw[getElem?_append_left (by simpa[hlen]using hi),getElem?_map];cases z:ds[i]? with
 |none=>rw[z]at e;cases e
 |some d'=>rw[z]at e;simp at e;subst e;obtain⟨v,ev,rv⟩:=r.get z;exact⟨v,by rw[ev];rfl,rv⟩
 . rw[getElem?_append_right (by simpa using hi),List.getElem?_replicate]at e;split at e<;>cases e
structure DefOk(K:PySem.W.Frag)(mg:Str->Option Value)(T:Tab)(Pg:List Fn)(fi:Nat)(x:Str)(ps:List Str)(nd:Nat):Prop where
 ex:∃(F:Fn) (qual:Str) (st:Stmt) (dV:Value) (f:Addr) (fd:FuncData) (N:List Str),Pg[fi]?=some F/\F.prim=none/\FunV K x qual st dV f fd/\FnScope N ps (zae st)/\chkS T F.body N (zae st) (zam st)=true/\F.np=ps.length/\F.nn=N.length/\
  mg x=some (.ref f)/\∀j,j<=nd->Binds K fd ps (List.replicate j Value.none)
theorem zcu(Pg:List Fn):∀n:Nat,CFok (callF Pg n)
 |0,f,ds,S,d,T',h=>by rcases h with h|h<;>cases h
 |n+1,f,ds,S,d,T',h=>by
  simp[callF]at h;cases e:Pg[f]? with
  |none=>rw[e]at h;rcases h with h|h<;>cases h
  |some F=>
   rw[e]at h;dsimp only at h;split at h
   . cases ep:F.prim with
     |some p=>rw[ep]at h;dsimp only at h;rcases h with h|h<;>cases h
     |none=>
     rw[ep]at h;dsimp only at h;cases ex:exS (callF Pg n) F.body (zaI F ds) S with
     |ok r T2=>
      rw[ex]at h;have hf:=zbJ (zcu Pg n) F.body (zaI F ds) S (fun r' T3=>r'=r/\T3=T2) (by rw[ex];exact⟨rfl,rfl⟩);rw[ex]at hf;cases r with
      |nx δ=>rcases h with h|h<;>cases h;exact hf.2
      |rt z=>rcases h with h|h<;>cases h;exact hf.2
      |ex z=>rcases h with h|h<;>cases h;exact hf.2
     |err z T2=>rw[ex]at h;rcases h with h|h<;>cases h
     |bad=>rw[ex]at h;rcases h with h|h<;>cases h
   . rcases h with h|h<;>cases h
variable{P:Program}{w:World}{K:PySem.W.Frag}{mg:Str->Option Value}{base:Heap}{Pg:List Fn}
theorem zc1{ps:List Str}(hP:Pg[fi]?=some F)(hp:F.np=ps.length)(h:spF K (callF Pg n) fi vs H Q E):vs.length=ps.length:=by obtain⟨ι,S,ds,r,hh,w⟩:=h;rw[r.length];cases n with|zero=>exact w.elim| succ n=>simp[callF,hP]at w;split at w;rename_i c;rw[c,hp];exact w.elim
theorem zei{ps:List Str}(hP:Pg[fi]?=some F)(hp:F.np=ps.length)(h:spX K (callF Pg n) fi vs H Q E):vs.length=ps.length:=by obtain⟨ι,S,ds,r,hh,w⟩:=h;rw[r.length];cases n with|zero=>exact w.elim| succ n=>simp[callF,hP]at w;by_cases c:ds.length=F.np;rw[c,hp];rw[if_neg c]at w;exact w.elim
theorem zez{st:Stmt}(tab:TabOk T (callF Pg n) m P w K mg base)(FV:FunV K x qual st dV f fd)(hP:Pg[fi]?=some F)(S:FnScope N ps (zae st))(ck:chkS T F.body N (zae st) (zam st)=true)(hp:F.np=ps.length)(hn:F.nn=N.length)(hq:F.prim=none:=by rfl) :
  FnOk P w K mg base (CXe P w) (m+2) f fd ps (spX K (callF Pg (n+1)) fi):=by
 obtain⟨oc,od,kV,doc,pm,an,cdv,ct,osl,rfl,lk,hcd⟩:=FV.ex;refine zmy lk hcd S (fun vs H Q E h=>zei hP hp h) fun A outer s H vs Q E hr h=>?_;obtain⟨ι,S0,ds,r,hh,hw⟩:=h;have G:Gd T (callF Pg n) m N (zae st) (cxOf (CXe P w) P w K mg base N qual (zae st) f cdv A outer s H E):=⟨rfl,S.nd,fun x e=>e,fun x e=>e,fun x e=>.inl e,fun x e=>e,.inl fun _=>rfl,rfl,PassesOwn.leaving,hr,tab⟩;refine⟨_,zaH F.body G ⟨rfl,rfl⟩ ck,?_⟩;simp[callF,hP,hq]at hw;by_cases c:ds.length=F.np;rw[if_pos c]at hw;cases ex:exS (callF Pg n) F.body (zaI F ds) S0 with
 |ok fl T'=>rw[ex]at hw;refine⟨zaI F ds,ι,S0,fun f' T2=>f'=fl/\T2=T',RS.start r c hn,hh,by rw[ex];exact⟨rfl,rfl⟩,?_⟩;rintro f' ι' H' S' x' hh' ⟨rfl,rfl⟩;cases f' with|nx δ'=>exact fun σ' hs'=>hw .non H' ι' x' rfl hh'|rt d=>exact fun v rv=>hw v H' ι' x' rv hh'|ex d=>exact fun a σ' pins s' rv I fl=>zgB I fl (hw a H' ι' x' rv hh')
 |err d T'=>rw[ex]at hw;exact hw.elim|bad=>rw[ex]at hw;exact hw.elim
 rw[if_neg c]at hw;exact hw.elim
theorem zkp(F:FnOk P w K mg base (CXe P w) k f fd ps (spX K cf fi)):FnOk P w K mg base CX0 k f fd ps (spF K cf fi):=by
 have conv:∀vs H Q E,spF K cf fi vs H Q E->spX K cf fi vs H Q (fun _ _ _=>False):=fun vs H Q E ⟨ι,S,ds,r,hh,hw⟩=>by obtain⟨d,T',e,q⟩:=zfN hw;exact⟨ι,S,ds,r,hh,by rw[e];exact q⟩
 refine⟨fun vs H Q E h=>F.len _ _ _ _ (conv vs H Q E h),fun A outer s H args us vs Q E hr e0 b v h=>codeAny_mono (F.run A outer s H args us vs Q _ hr e0 b v (conv vs H Q E h)) fun r s' q=>?_⟩;cases r with|error e=>obtain⟨a,H',_,_,_,_,_,_,z⟩:=q;exact z.elim|ok fl=>cases fl<;>exact q
theorem zgZ{st:Stmt}(tab:TabOk T (callF Pg n) m P w K mg base)(FV:FunV K x qual st dV f fd)(hP:Pg[fi]?=some F)(S:FnScope N ps (zae st))(ck:chkS T F.body N (zae st) (zam st)=true)(hp:F.np=ps.length)(hn:F.nn=N.length)(hq:F.prim=none:=by rfl) :
 FnOk P w K mg base CX0 (m+2) f fd ps (spF K (callF Pg (n+1)) fi):=zkp (zez tab FV hP S ck hp hn hq)
structure MOk(K:PySem.W.Frag)(T:Tab)(Pg:List Fn)(fi j:Nat)(Ex:Addr->Prop):Prop where
 ex:∃(F:Fn) (x qual:Str) (st:Stmt) (dV:Value) (f:Addr) (fd:FuncData) (N ps:List Str),Pg[fi]?=some F/\F.prim=none/\FunV K x qual st dV f fd/\FnScope N ps (zae st)/\chkS T F.body N (zae st) (zam st)=true/\F.np=ps.length/\F.nn=N.length/\
  Binds K fd ps (List.replicate j Value.none)/\Ex f
theorem zdh(z:MOk K T Pg fi j Ex):∃f fd ps,Ex f/\keepIn K (.ref f)=true/\Binds K fd ps (List.replicate j Value.none)/\FnOk P w K mg base CX0 1 f fd ps (spF K (callF Pg 0) fi):=by obtain⟨F,x,qual,st,dV,f,fd,N,ps,hP,hq,FV,S,ck,hp,hn,hb,e⟩:=z.ex;refine⟨f,fd,ps,e,FV.kp,hb,⟨fun vs H Q E h=>zc1 hP hp h,fun A outer s H args us vs Q E hr e0 b v h=>?_⟩⟩;obtain⟨ι,S,ds,r,hh,w⟩:=h;exact w.elim
theorem zdi(tab:TabOk T (callF Pg n) m P w K mg base)(z:MOk K T Pg fi j Ex):∃f fd ps,Ex f/\keepIn K (.ref f)=true/\Binds K fd ps (List.replicate j Value.none)/\FnOk P w K mg base CX0 (m+2) f fd ps (spF K (callF Pg (n+1)) fi):=by obtain⟨F,x,qual,st,dV,f,fd,N,ps,hP,hq,FV,S,ck,hp,hn,hb,e⟩:=z.ex;exact⟨f,fd,ps,e,FV.kp,hb,zgZ tab FV hP S ck hp hn hq⟩
theorem zgy(z:MOk K T Pg fi j Ex):∃f fd ps,Ex f/\Binds K fd ps (List.replicate j Value.none)/\FnOk P w K mg base (CXe P w) 1 f fd ps (spX K (callF Pg 0) fi):=by obtain⟨F,x,qual,st,dV,f,fd,N,ps,hP,hq,FV,S,ck,hp,hn,hb,e⟩:=z.ex;refine⟨f,fd,ps,e,hb,⟨fun vs H Q E h=>zei hP hp h,fun A outer s H args us vs Q E hr e0 b v h=>?_⟩⟩;obtain⟨ι,S,ds,r,hh,w⟩:=h;exact w.elim
theorem zgz(tab:TabOk T (callF Pg n) m P w K mg base)(z:MOk K T Pg fi j Ex):∃f fd ps,Ex f/\Binds K fd ps (List.replicate j Value.none)/\FnOk P w K mg base (CXe P w) (m+2) f fd ps (spX K (callF Pg (n+1)) fi):=by obtain⟨F,x,qual,st,dV,f,fd,N,ps,hP,hq,FV,S,ck,hp,hn,hb,e⟩:=z.ex;exact⟨f,fd,ps,e,hb,zez tab FV hP S ck hp hn hq⟩
def ExM(K:PySem.W.Frag)(c:Nat)(m:Str)(f:Addr):Prop:=∃C,Mks.cl[c]?=some C/\Cls K C/\Meth K C m f
def ExI(K:PySem.W.Frag)(c:Nat)(f:Addr):Prop:=∃C,Mks.cl[c]?=some C/\Mk K C f
def ExC(K:PySem.W.Frag)(mg:Str->Option Value)(x m:Str)(f:Addr):Prop:=∃(C:Addr) (mc:Value),mg x=some (.ref C)/\specialIn K (.ref C) "__getattribute__"=some (some (.builtin "type.__getattribute__"))/\readsIn K C mc=true/\findCls K (.ref C) mc m=some (.val (.ref f))
structure ClsOk(T:Tab)(K:PySem.W.Frag)(mg:Str->Option Value)(Pg:List Fn):Prop where
 cls:∀(c:Nat)(x:Str),T.cls[c]?=some x->∃C,Mks.cl[c]?=some C/\Cls K C/\mg x=some (.ref C)/\∀f,T.flds.contains f=true->NoAttr K C f
 mth:∀(c:Nat)(m:Str)(fi:Nat),T.mts.contains (c,m,fi)=true->MOk K T Pg fi 0 (ExM K c m)
 ini:∀(c fi j:Nat),T.inits.contains (c,fi,j)=true->MOk K T Pg fi j (ExI K c)
 cmd:∀(x m:Str)(fi:Nat),T.cms.contains (x,m,fi)=true->MOk K T Pg fi 0 (ExC K mg x m)
 cln:Mks.cl.length<=T.cls.length
 isa:∀(x:Str)(cs:List Nat),T.isas.contains (x,cs)=true->∃D,mg x=some (.ref D)/\∀c C,Mks.cl[c]?=some C->IsaOk K C/\kitOne K (.ref C) (.ref D)=some (cs.contains c)
theorem zgR(h:∃f fd ps,ExM K c m f/\keepIn K (.ref f)=true/\Binds K fd ps []/\FnOk P w K mg base CX0 k f fd ps (spF K cf fi)):HasM P w K mg base k c m (spF K cf fi):=by obtain⟨f,fd,ps,⟨C,h1,h2,h3⟩,_,h4,h5⟩:=h;exact⟨C,f,fd,ps,h1,h2,h3,h5,h4⟩
theorem zgS(h:∃f fd ps,ExI K c f/\keepIn K (.ref f)=true/\Binds K fd ps (List.replicate j Value.none)/\FnOk P w K mg base CX0 k f fd ps (spF K cf fi)):HasI P w K mg base k c j (spF K cf fi):=by obtain⟨f,fd,ps,⟨C,h1,h2⟩,_,h4,h5⟩:=h;exact⟨C,f,fd,ps,h1,h2,h5,h4⟩
theorem zfb(h:∃f fd ps,ExI K c f/\Binds K fd ps (List.replicate j Value.none)/\FnOk P w K mg base (CXe P w) k f fd ps (spX K cf fi)):HasIX P w K mg base k c j (spX K cf fi):=by obtain⟨f,fd,ps,⟨C,h1,h2⟩,h4,h5⟩:=h;exact⟨C,f,fd,ps,h1,h2,h5,h4⟩
theorem zgT(h:∃f fd ps,ExC K mg x m f/\keepIn K (.ref f)=true/\Binds K fd ps []/\FnOk P w K mg base CX0 k f fd ps (spF K cf fi)):HasC P w K mg base k x m (spF K cf fi):=by obtain⟨f,fd,ps,⟨C,mc,h1,h2,h3,h6⟩,h7,h4,h5⟩:=h;exact⟨C,f,fd,ps,mc,h1,h2,h3,h6,h7,h5,h4⟩
structure PrimOk(P:Program)(w:World)(K:PySem.W.Frag)(mg:Str->Option Value)(base:Heap)(Pg:List Fn)(fi:Nat)(x:Str)(ps:List Str)(nd:Nat):Prop where
 ex:∃(F:Fn) (p:Prim) (f:Addr) (fd:FuncData),Pg[fi]?=some F/\F.prim=some p/\F.np=ps.length/\mg x=some (.ref f)/\keepIn K (.ref f)=true/\(∀j,j<=nd->Binds K fd ps (List.replicate j Value.none))/\
  ∀n,3<=n->FnOk P w K mg base CX0 (n+2) f fd ps (spF K (callF Pg (n+1)) fi)
structure XSOk(T:Tab)(K:PySem.W.Frag)(mg:Str->Option Value)(Pg:List Fn):Prop where
 cl:∀(c:Nat)(x f:Str),T.xcs.contains (c,x,f)=true->∃(C fI:Addr) (qual:Str) (st:Stmt) (fd:FuncData) (xR y:Str),Mks.xc[c]?=some C/\mg x=some (.ref C)/\keepIn K (.ref C)=true/\Xc K C fI f/\FunV K "__init__" qual st .none fI fd/\XSt st xR y f/\XUp K mg xR/\Binds K fd ["self",y] []
 fl:∀f,T.xflds.contains f=true->∀(c:Nat) C,Mks.xc[c]?=some C->XGet K C/\NoAttr K C f
 is:∀(x:Str)(cs:List Nat),T.xisas.contains (x,cs)=true->∃D,mg x=some (.ref D)/\∀(c:Nat) C,Mks.xc[c]?=some C->XGet K C/\IsaOk K C/\kitOne K (.ref C) (.ref D)=some (cs.contains c)
 ib:∀(x:Str)(cs:List Nat),T.xisbs.contains (x,cs)=true->mg x=none/\x≠"__name__"/\∃t,bootBuiltins x=some (.type t)/\∀(c:Nat) C,Mks.xc[c]?=some C->XGet K C/\IsaOk K C/\kitOne K (.ref C) (.type t)=some (cs.contains c)
 fn:∀(f:Nat)(x:Str)(ps:List Str)(nd:Nat),T.xfns.contains f=true->T.fns[f]?=some (x,ps,nd)->DefOk K mg T Pg f x ps nd
 tr:∀x,T.xtrs.contains x=true->∃CR,mg x=some (.ref CR)/\∀(c:Nat) C,Mks.xc[c]?=some C->PySem.W.exmOne K (.ref C) (.ref CR)=some true
theorem XSOk.tab(hx:XSOk T K mg Pg)(fn:∀(f:Nat)(x:Str)(ps:List Str)(nd:Nat),T.xfns.contains f=true->T.fns[f]?=some (x,ps,nd)->∃fa fd,FnOk P w K mg base (CXe P w) (k+1) fa fd ps (spX K cf f)/\mg x=some (.ref fa)/\keepIn K (.ref fa)=true/\Binds K fd ps []) :
  XTabOk T cf (k+1) P w K mg base:=by
 refine⟨fun c x f h=>?_,hx.fl,hx.is,hx.ib,fn,hx.tr⟩;obtain⟨C,fI,qual,st,fd,xR,y,h1,h2,h3,h4,h5,h6,h7,h8⟩:=hx.cl c x f h;exact⟨C,fI,fd,["self",y],h1,h2,h3,h4,zkl h5 h6 h7,h8⟩
theorem zk5(hb:∀x,T.blt.contains x=true->mg x=none)(hc:∀x d,T.cons.lookup x=some d->zjC d=true/\∃u,mg x=some u/\RelV (sV d) u)(hd:∀fi x ps nd,T.fns[fi]?=some (x,ps,nd)->DefOk K mg T Pg fi x ps nd\/PrimOk P w K mg base Pg fi x ps nd)(hk:ClsOk T K mg Pg)(hx:XSOk T K mg Pg) :
  ∀n,TabOk T (callF Pg n) (2*n+1) P w K mg base:=by
 intro n;induction n with
 |zero=>
  refine⟨hb,hc,fun fi x ps nd hf j hj=>?_,zcu Pg 0,hk.cls,fun c m fi h=>zgR (zdh (hk.mth c m fi h)),fun c fi j h=>zgS (zdh (hk.ini c fi j h)),fun x m fi h=>zgT (zdh (hk.cmd x m fi h)),fun _=>hk.cln,hk.isa,hx.tab (fun f x ps nd h1 h2=>?_),fun c fi j h=>zfb (zgy (hk.ini c fi j h))⟩
  rotate_left
  obtain⟨F,qual,st,dV,fa,fd,N,hP,hq,FV,S,ck,hp,hn,hm,hbd⟩:=(hx.fn f x ps nd h1 h2).ex;refine⟨fa,fd,⟨fun vs H Q E h=>zei hP hp h,fun A outer s H args us vs Q E hr e0 b v h=>?_⟩,hm,FV.kp,hbd 0 (zero_le _)⟩;obtain⟨ι,S,ds,r,hh,w⟩:=h;exact w.elim;rcases hd fi x ps nd hf with z|z;obtain⟨F,qual,st,dV,f,fd,N,hP,hq,FV,S,ck,hp,hn,hm,hbd⟩:=z.ex;refine⟨f,fd,_,⟨fun vs H Q E h=>zc1 hP hp h,fun A outer s H args us vs Q E hr e0 b v h=>?_⟩,hm,FV.kp,hbd j hj,Vals.nons j⟩;obtain⟨ι,S,ds,r,hh,w⟩:=h;exact w.elim;obtain⟨F,p,f,fd,hP,hq,hp,hm,kp,hbd,ok⟩:=z.ex;refine⟨f,fd,_,⟨fun vs H Q E h=>zc1 hP hp h,fun A outer s H args us vs Q E hr e0 b v h=>?_⟩,hm,kp,hbd j hj,Vals.nons j⟩;obtain⟨ι,S,ds,r,hh,w⟩:=h;exact w.elim
 |succ n ih=>
  refine⟨hb,hc,fun fi x ps nd hf j hj=>?_,zcu Pg (n+1),hk.cls,fun c m fi h=>zgR (zdi ih (hk.mth c m fi h)),fun c fi j h=>zgS (zdi ih (hk.ini c fi j h)),fun x m fi h=>zgT (zdi ih (hk.cmd x m fi h)),fun _=>hk.cln,hk.isa,hx.tab (fun f x ps nd h1 h2=>?_),fun c fi j h=>zfb (zgz ih (hk.ini c fi j h))⟩
  rotate_left
  obtain⟨F,qual,st,dV,fa,fd,N,hP,hq,FV,S,ck,hp,hn,hm,hbd⟩:=(hx.fn f x ps nd h1 h2).ex;exact⟨fa,fd,zez ih FV hP S ck hp hn hq,hm,FV.kp,hbd 0 (zero_le _)⟩;rcases hd fi x ps nd hf with z|z;obtain⟨F,qual,st,dV,f,fd,N,hP,hq,FV,S,ck,hp,hn,hm,hbd⟩:=z.ex;refine⟨f,fd,_,?_,hm,FV.kp,hbd j hj,Vals.nons j⟩;exact zgZ ih FV hP S ck hp hn hq;obtain⟨F,p,f,fd,hP,hq,hp,hm,kp,hbd,ok⟩:=z.ex;refine⟨f,fd,_,?_,hm,kp,hbd j hj,Vals.nons j⟩;by_cases c:3<=n;exact(ok n c).mono (by omega)
  . refine⟨fun vs H Q E h=>zc1 hP hp h,fun A outer s H args us vs Q E hr e0 b v h=>?_⟩;obtain⟨ι,S,ds,r,hh,w⟩:=h;simp only[callF,hP,hq]at w;split at w<;>exact w.elim
def AllAtG{α:Type}(P:Nat->α->Prop):Nat->List α->Prop
 |_,[]=>True|k,a::r=>P k a/\AllAtG P (k+1) r
theorem ziY{P:Nat->α->Prop}:∀{l:List α}{k:Nat},AllAtG P k l->∀(i:Nat)(a:α),l[i]?=some a->P (k+i) a
 | [],_,_,i,a,h=>by simp at h|b::r,k,q,0,a,h=>by cases h;exact q.1| b::r,k,q,i+1,a,h=>by
  have:=ziY q.2 i a (by simpa using h)
  rwa [Nat.add_right_comm]at this
theorem AllAt.get{P:Nat->α->Prop}(q:AllAtG P 0 l)(i:Nat)(a:α)(h:l[i]?=some a):P i a:=zero_add i▸ziY q i a h
def AllInG{α:Type}(P:α->Prop):List α->Prop
 | []=>True|a::r=>P a/\AllInG P r
theorem AllIn.get[BEq α][LawfulBEq α]{P:α->Prop}:∀{l:List α},AllInG P l->∀a,l.contains a=true->P a
 | [],_,a,h=>by simp at h| b::r,q,a,h=>by rw[List.contains_cons,or_eq_true]at h;rcases h with h|h;rw[eq_of_beq h];exact q.1;exact AllIn.get q.2 a h
theorem zke{ns:List Int}(hx:FixL K H a (ns.map V.int))(tb:TB H)
  (law:W (callF Pg k fi [.fix (ns.map .int)] ⟨[],[],[]⟩) fun d _=>d=.bl true):spF K (callF Pg k) fi [.ref a] H (fun v _=>v=.bl true) fun _ _ _=>False:=by
 refine⟨[],⟨[],[],[]⟩,[.fix (ns.map .int)],⟨.ref a,[],rfl,⟨a,_,rfl,hx,RVs.ints ns⟩,rfl⟩,⟨rfl,List.nodup_nil,fun l o e=>(by simp[St.get]at e),tb⟩,?_⟩;obtain⟨d,T',e,q⟩:=zfN law;rw[e];intro v H' ι' x r hT;subst q;exact r
theorem law_sp{ns:List Int}(h0:Mks.ts=[])(hO:Only H)(hS:SqL K H a (ns.map V.int))
  (law:W (callF Pg k fi [.fix (ns.map .int)] ⟨[],[],[]⟩) fun d _=>d=.bl true):spF K (callF Pg k) fi [.ref a] H (fun v _=>v=.bl true) fun _ _ _=>False:=by
 refine zke ?_ (fun p hp=>by rw[h0]at hp;cases hp) law;rcases hS with (h|⟨o,h⟩)|h;rcases hO a with z|⟨o,xs,z⟩;rw[z]at h;cases h;rw[z]at h;cases h;exact .inl ⟨o,h⟩;exact .inr h
end
section
variable{X:Cx}{pins:List (Addr×Obj)}{σ:L2.St}{H H':Hp}{s:Shared}
structure Own(X:Cx)(pins:List (Addr×Obj))(b:Addr):Prop where
 new:X.s₀.heap.objs.size<=b
 loc:b≠X.env.locals
 cel:∀x c,X.env.cells.lookup x=some c->c≠b
 pin:∀p∈X.pn++pins,p.1≠b
end
structure StepT(P:Addr)(H H':Hp):Prop where
 rest:∀a o,a≠P->H a=some o->H' a=some o
 tab:∀ps,H P=some (.tbl ps)->∃more,H' P=some (.tbl (ps++more))
noncomputable def okD(T:Tab)(F:Fn)(N ps:List Str)(st:Stmt):Bool:=
 decide ((zae st).kind=.function)&&(!(zae st).isCoroutine&&(!(zae st).isGenerator&&(decide N.Nodup&&(decide (N.take ps.length=ps)&&(ps.all (fun x=>decide ((zae st).names.lookup x=some .local)||decide ((zae st).names.lookup x=some .cell)) &&
  ((zae st).names.all (fun y=>decide (y.2≠.free))&&(chkS T F.body N (zae st) (zam st)&&(decide (F.np=ps.length)&&(decide (F.nn=N.length)&&F.prim.isNone)))))))))
structure OkD(T:Tab)(Pg:List Fn)(fi:Nat)(x q:Str)(ps:List Str)(st:Stmt):Prop where
 ex:∃(F:Fn) (N:List Str),Pg[fi]?=some F/\F.prim=none/\FnScope N ps (zae st)/\chkS T F.body N (zae st) (zam st)=true/\F.np=ps.length/\F.nn=N.length
 bd:∀(kV doc pm:Value)(an:Option Addr)(cdv ct:Value)(us:List Value),us.length=ps.length->bindArgs (fnOf x q (zaJ st) (zam st) (zae st) .none kV doc pm an cdv ct) ⟨us,[]⟩=pure (ps.zip us)
theorem zaX{st:Stmt}(N:List Str)(e:Pg[fi]?=some F)(h:okD T F N ps st=true)
  (b:∀(kV doc pm:Value)(an:Option Addr)(cdv ct:Value)(us:List Value),us.length=ps.length->bindArgs (fnOf x q (zaJ st) (zam st) (zae st) .none kV doc pm an cdv ct) ⟨us,[]⟩=pure (ps.zip us)):OkD T Pg fi x q ps st:=by
 simp only[okD,and_eq_true,not_eq_true',decide_eq_true_eq,all_eq_true,or_eq_true,Option.isNone_iff_eq_none]at h;obtain⟨h1,h2,h3,h4,h5,h6,h7,h8,h9,h10,h11⟩:=h;exact⟨⟨F,N,e,h11,⟨h1,h2,h3,h4,h5,h6,h7⟩,h8,h9,h10⟩,b⟩
theorem AllInG.cons(h:P a)(t:AllInG P r):AllInG P (a::r):=⟨h,t⟩
theorem AllAtG.cons(h:P k a)(t:AllAtG P (k+1) r):AllAtG P k (a::r):=⟨h,t⟩
theorem AllInG.mem:∀{l:List α},AllInG P l->∀a∈l,P a
 |b::r,q,a,h=>by rcases mem_cons.mp h with rfl|h;exact q.1;exact AllInG.mem q.2 a h
section
variable{P:Program}{w:World}{K:PySem.W.Frag}{h base:Heap}{mg:Str->Option Value}{T:Tab}{Pg:List Fn}{fi c:Nat}{x q m:Str}{ps:List Str}{st:Stmt}{f C:Addr}{oc kV dc pm cd ct:Value}{od an:Option Addr}{sl:Array (Option Value)}
theorem dOk(X:K.In h)(G:h.Ns mainGlobals mg)(o:OkD T Pg fi x x ps st)(a:nsIn K mainGlobals x=some (some (.ref f)))(l:K.lookup f=some ⟨oc,od,.func (fnOf x x (zaJ st) (zam st) (zae st) .none kV dc pm an cd ct),sl⟩)(c:codeIn K cd x=true)
  (k:keepIn K (.ref f)=true):DefOk K mg T Pg fi x ps 0\/PrimOk P w K mg base Pg fi x ps 0:=by
 obtain⟨F,N,h1,h2,h3,h4,h5,h6⟩:=o.ex;have FV:=zex l c k;exact .inl ⟨⟨F,x,st,_,f,_,N,h1,h2,FV,h3,h4,h5,h6,mg_of X G a,fun j hj=>(Nat.le_zero.mp hj).symm▸FV.binds o.bd⟩⟩
def ClAt(K:PySem.W.Frag)(mg:Str->Option Value)(T:Tab)(c:Nat)(x:Str):Prop:=∃C,Mks.cl[c]?=some C/\Cls K C/\mg x=some (.ref C)/\∀f,T.flds.contains f=true->NoAttr K C f
def IsAt(K:PySem.W.Frag)(mg:Str->Option Value)(z:Str×List Nat):Prop:=∃D,mg z.1=some (.ref D)/\∀c C,Mks.cl[c]?=some C->IsaOk K C/\kitOne K (.ref C) (.ref D)=some (z.2.contains c)
def CoAt(K:PySem.W.Frag)(z:Str×D):Prop:=(∃i t,z.2=.int i/\nsIn K mainGlobals z.1=some (some (.int i t)))\/∃i t,z.2=.str i/\nsIn K mainGlobals z.1=some (some (.str i t))
theorem coOk(a:nsIn K mainGlobals x=some (some (.int i t))):CoAt K (x,.int i):=.inl ⟨i,t,rfl,a⟩
theorem coOkS(a:nsIn K mainGlobals x=some (some (.str i t))):CoAt K (x,.str i):=.inr ⟨i,t,rfl,a⟩
end
structure OkE(T:Tab)(Pg:List Fn)(fi:Nat)(ps:List Str)(st:Stmt):Prop where
 ex:∃(F:Fn) (N:List Str),Pg[fi]?=some F/\F.prim=none/\FnScope N ps (zae st)/\chkS T F.body N (zae st) (zam st)=true/\F.np=ps.length/\F.nn=N.length
structure OkX(q:Str)(st:Stmt)(xR y f:Str):Prop where
 tx:XSt st xR y f
 bd:∀(kV doc pm:Value)(an:Option Addr)(cdv ct:Value)(us:List Value),us.length=2->bindArgs (fnOf "__init__" q (zaJ st) (zam st) (zae st) .none kV doc pm an cdv ct) ⟨us,[]⟩=pure ([("self":Str),y].zip us)
section
variable{P:Program}{w:World}{K:PySem.W.Frag}{h base:Heap}{mg:Str->Option Value}{T:Tab}{Pg:List Fn}{fi c:Nat}{x q f y xR:Str}{ps:List Str}{st:Stmt}{fI C CR:Addr}{oc kV dc pm cd ct:Value}{od an:Option Addr}{sl:Array (Option Value)}
noncomputable def zin(K:PySem.W.Frag)(mg:Str->Option Value)(z:Nat×Str×Str):Prop:=∃(C fI:Addr) (qual:Str) (st:Stmt) (fd:FuncData) (xR y:Str),Mks.xc[z.1]?=some C/\mg z.2.1=some (.ref C)/\keepIn K (.ref C)=true/\Xc K C fI z.2.2/\FunV K "__init__" qual st .none fI fd/\XSt st xR y z.2.2/\XUp K mg xR/\Binds K fd ["self",y] []
theorem xcOk(X:K.In h)(G:h.Ns mainGlobals mg)(o:OkX q st xR y f)(e:Mks.xc[c]?=some C)(a:nsIn K mainGlobals x=some (some (.ref C)))(kc:keepIn K (.ref C)=true)(t:PySem.W.findIn K (.ref C) "__init__"=some (some (.ref fI)))(xj:excJ K C fI=true)(i:isFn K (.ref fI)=true)
  (sa:PySem.W.findIn K (.ref C) "__setattr__"=some (some (.builtin "object.__setattr__"))) (po:zgr K C=true) (hd:PySem.W.hasDictIn K C=true) (no:PySem.W.findIn K (.ref C) f=some none)
  (l:K.lookup fI=some ⟨oc,od,.func (fnOf "__init__" q (zaJ st) (zam st) (zae st) .none kV dc pm an cd ct),sl⟩) (cc:codeIn K cd q=true) (k:keepIn K (.ref fI)=true)
  (aR:nsIn K mainGlobals xR=some (some (.ref CR))) (r1:specialIn K (.ref CR) "__getattribute__"=some (some (.builtin "type.__getattribute__"))) (r2:readsIn K CR (.type "type")=true) (r3:findCls K (.ref CR) (.type "type") "__init__"=some (.val (.builtin "ValueError.__init__"))):zin K mg (c,x,f):=by
 have FV:=zex l cc k;exact⟨C,fI,q,st,_,xR,y,e,mg_of X G a,kc,⟨xj,i,sa,po,hd,no⟩,FV,o.tx,⟨CR,mg_of X G aR,r1,r2,r3⟩,FV.binds o.bd⟩
noncomputable def ziq(K:PySem.W.Frag)(mg:Str->Option Value)(z:Str×List Nat):Prop:=∃D,mg z.1=some (.ref D)/\AllAtG (fun c C=>kitOne K (.ref C) (.ref D)=some (z.2.contains c)) 0 Mks.xc
theorem xisOk{D:Addr}(X:K.In h)(G:h.Ns mainGlobals mg)(a:nsIn K mainGlobals x=some (some (.ref D)))(kt:AllAtG (fun c C=>kitOne K (.ref C) (.ref D)=some (cs.contains c)) 0 Mks.xc):ziq K mg (x,cs):=⟨D,mg_of X G a,kt⟩
noncomputable def zir(K:PySem.W.Frag)(mg:Str->Option Value)(z:Str×List Nat):Prop:=mg z.1=none/\z.1≠"__name__"/\∃t,bootBuiltins z.1=some (.type t)/\AllAtG (fun c C=>kitOne K (.ref C) (.type t)=some (z.2.contains c)) 0 Mks.xc
theorem xibOk(X:K.In h)(G:h.Ns mainGlobals mg)(hn:x≠"__name__")(hb:bootBuiltins x=some (.type t))(a:nsIn K mainGlobals x=some none)(kt:AllAtG (fun c C=>kitOne K (.ref C) (.type t)=some (cs.contains c)) 0 Mks.xc):zir K mg (x,cs):=⟨PySem.W.mg_none_of X G a,hn,t,hb,kt⟩
noncomputable def zio(K:PySem.W.Frag)(mg:Str->Option Value)(x:Str):Prop:=∃CR,mg x=some (.ref CR)/\AllInG (fun C=>PySem.W.exmOne K (.ref C) (.ref CR)=some true) Mks.xc
theorem xtrOk(X:K.In h)(G:h.Ns mainGlobals mg)(a:nsIn K mainGlobals x=some (some (.ref CR)))(kt:AllInG (fun C=>PySem.W.exmOne K (.ref C) (.ref CR)=some true) Mks.xc):zio K mg x:=⟨CR,mg_of X G a,kt⟩
theorem zna(hp:T.xfns.all (fun i=>match Pg[i]? with|some F=>F.prim.isNone|none=>true)=true)(hd:AllAtG (fun fi q=>DefOk K mg T Pg fi q.1 q.2.1 q.2.2\/PrimOk P w K mg base Pg fi q.1 q.2.1 q.2.2) 0 T.fns)(hg:AllInG (XGet K) Mks.xc)(hi:AllInG (IsaOk K) Mks.xc)(h1:AllInG (zin K mg) T.xcs)(h2:AllInG (fun f=>AllInG (fun C=>PySem.W.findIn K (.ref C) f=some none) Mks.xc) T.xflds)
  (h3:AllInG (ziq K mg) T.xisas) (h4:AllInG (zir K mg) T.xisbs) (h5:AllInG (zio K mg) T.xtrs):XSOk T K mg Pg:=by
 refine⟨fun c x f h=>AllIn.get h1 (c,x,f) h,fun f h c C e=>⟨hg.mem C (mem_of_getElem? e),(AllIn.get h2 f h).mem C (mem_of_getElem? e)⟩,fun x cs h=>?_,fun x cs h=>?_,fun f x ps nd h e=>?_,fun x h=>?_⟩;obtain⟨D,m,kt⟩:=AllIn.get h3 (x,cs) h;exact⟨D,m,fun c C e=>⟨hg.mem C (mem_of_getElem? e),hi.mem C (mem_of_getElem? e),AllAt.get kt c C e⟩⟩;obtain⟨m,n,t,b,kt⟩:=AllIn.get h4 (x,cs) h;exact⟨m,n,t,b,fun c C e=>⟨hg.mem C (mem_of_getElem? e),hi.mem C (mem_of_getElem? e),AllAt.get kt c C e⟩⟩;rcases AllAt.get hd f _ e with z|z;exact z;obtain⟨F,p,_,_,e1,e2,_⟩:=z.ex;have:=all_eq_true.mp hp f (by simpa using h);simp[e1,e2]at this;obtain⟨CR,m,kt⟩:=AllIn.get h5 x h;exact⟨CR,m,fun c C e=>kt.mem C (mem_of_getElem? e)⟩
end
theorem zm0{B:Heap->Prop}{l:PySem.W.OpenLaw}{K:PySem.W.Frag}{st:Stmt}{oc kV dc pm cd ct:Value}(X:K.In h)(G:h.Ns mainGlobals mg)(hfa:mg "law"=some (.ref fa))
  (o:OkD T Pg fi "law" "law" [sn] st) (ln:Mks.cl.length<=T.cls.length) (hcl:AllAtG (ClAt K mg T) 0 T.cls) (hb:AllInG (fun x=>nsIn K mainGlobals x=some none) T.blt) (hc:AllInG (CoAt K) T.cons)
  (hd:∀base:Heap,B base->AllAtG (fun fi q=>DefOk K mg T Pg fi q.1 q.2.1 q.2.2\/PrimOk l.prog w K mg base Pg fi q.1 q.2.1 q.2.2) 0 T.fns)
  (hm:AllAtG (ClAt K mg T) 0 T.cls->AllInG (fun q=>MOk K T Pg q.2.2 0 (ExM K q.1 q.2.1)) T.mts) (hi:AllInG (fun q=>MOk K T Pg q.2.1 q.2.2 (ExI K q.1)) T.inits) (hx:AllInG (fun q=>MOk K T Pg q.2.2 0 (ExC K mg q.1 q.2.1)) T.cms) (hs:AllInG (IsAt K mg) T.isas) (hp:T.xfns.all (fun i=>match Pg[i]? with|some F=>F.prim.isNone|none=>true)=true) (hxg:AllInG (XGet K) Mks.xc) (hxi:AllInG (IsaOk K) Mks.xc) (hx1:AllInG (zin K mg) T.xcs) (hx2:AllInG (fun f=>AllInG (fun C=>PySem.W.findIn K (.ref C) f=some none) Mks.xc) T.xflds) (hx3:AllInG (ziq K mg) T.xisas) (hx4:AllInG (zir K mg) T.xisbs) (hx5:AllInG (zio K mg) T.xtrs)
  (a:nsIn K mainGlobals "law"=some (some (.ref f))) (l0:K.lookup f=some ⟨oc,od,.func (fnOf "law" "law" (zaJ st) (zam st) (zae st) .none kV dc pm an cd ct),sl⟩) (c:codeIn K cd "law"=true) (k:keepIn K (.ref f)=true) :
  ∃fd:FuncData,(∀(s:Shared)(v:Value),BindsTo s fd ⟨[v],[]⟩ [(sn,v)])/\∀base:Heap,K.In base->base.Ns mainGlobals mg->B base->FnOk l.prog w K mg base CX0 (2*n+3) fa fd [sn] (spF K (callF Pg (n+1)) fi):=by
 have e:=hfa.symm.trans (mg_of X G a);cases e;obtain⟨F,N,h1,h2,h3,h4,h5,h6⟩:=o.ex;refine⟨fnOf "law" "law" (zaJ st) (zam st) (zae st) .none kV dc pm an cd ct,fun s v=>.of_eq (o.bd _ _ _ _ _ _ [v] rfl),fun base _ _ bm=>?_⟩;refine zgZ (zk5 (fun x hx=>PySem.W.mg_none_of X G (AllIn.get hb x hx)) (fun x d hx=>?_) (fun fi x ps nd hf=>AllAt.get (hd base bm) fi _ hf)
  ⟨AllAt.get hcl,fun c m fi hx=>AllIn.get (hm hcl) (c,m,fi) hx,fun c fi j hx=>AllIn.get hi (c,fi,j) hx,fun x m fi h=>AllIn.get hx (x,m,fi) h,ln,fun x cs hx=>AllIn.get hs (x,cs) hx⟩ (zna hp (hd base bm) hxg hxi hx1 hx2 hx3 hx4 hx5) n) (zex l0 c k) h1 h3 h4 h5 h6 h2
 rcases hc.mem (x,d) (PySem.mem_of_lookup hx) with⟨i,t,e,q⟩|⟨i,t,e,q⟩;cases e;exact⟨rfl,_,mg_of X G q,⟨_,rfl⟩⟩;cases e;exact⟨rfl,_,mg_of X G q,⟨_,rfl⟩⟩
theorem all_of0{l:PySem.W.OpenLaw}{K:PySem.W.Frag}{st:Stmt}{oc kV dc pm cd ct:Value}(X:K.In h)(G:h.Ns mainGlobals mg)(hfa:mg "law"=some (.ref fa))
  (o:OkD T Pg fi "law" "law" [sn] st) (ln:Mks.cl.length<=T.cls.length) (hcl:AllAtG (ClAt K mg T) 0 T.cls) (hb:AllInG (fun x=>nsIn K mainGlobals x=some none) T.blt) (hc:AllInG (CoAt K) T.cons)
  (hd:∀base:Heap,AllAtG (fun fi q=>DefOk K mg T Pg fi q.1 q.2.1 q.2.2\/PrimOk l.prog w K mg base Pg fi q.1 q.2.1 q.2.2) 0 T.fns)
  (hm:AllAtG (ClAt K mg T) 0 T.cls->AllInG (fun q=>MOk K T Pg q.2.2 0 (ExM K q.1 q.2.1)) T.mts) (hi:AllInG (fun q=>MOk K T Pg q.2.1 q.2.2 (ExI K q.1)) T.inits) (hx:AllInG (fun q=>MOk K T Pg q.2.2 0 (ExC K mg q.1 q.2.1)) T.cms) (hs:AllInG (IsAt K mg) T.isas) (hp:T.xfns.all (fun i=>match Pg[i]? with|some F=>F.prim.isNone|none=>true)=true) (hxg:AllInG (XGet K) Mks.xc) (hxi:AllInG (IsaOk K) Mks.xc) (hx1:AllInG (zin K mg) T.xcs) (hx2:AllInG (fun f=>AllInG (fun C=>PySem.W.findIn K (.ref C) f=some none) Mks.xc) T.xflds) (hx3:AllInG (ziq K mg) T.xisas) (hx4:AllInG (zir K mg) T.xisbs) (hx5:AllInG (zio K mg) T.xtrs)
  (a:nsIn K mainGlobals "law"=some (some (.ref f))) (l0:K.lookup f=some ⟨oc,od,.func (fnOf "law" "law" (zaJ st) (zam st) (zae st) .none kV dc pm an cd ct),sl⟩) (c:codeIn K cd "law"=true) (k:keepIn K (.ref f)=true) :
  ∃fd:FuncData,(∀(s:Shared)(v:Value),BindsTo s fd ⟨[v],[]⟩ [(sn,v)])/\∀base:Heap,K.In base->base.Ns mainGlobals mg->FnOk l.prog w K mg base CX0 (2*n+3) fa fd [sn] (spF K (callF Pg (n+1)) fi):=by
 obtain⟨fd,h1,h2⟩:=zm0 X G hfa o ln hcl hb hc (fun base _=>hd base) hm hi hx hs hp hxg hxi hx1 hx2 hx3 hx4 hx5 a l0 c k;exact⟨fd,h1,fun base y z=>h2 base y z trivial⟩
end R
namespace R
noncomputable def oD:Option Int->D|some i=>.int i|none=>.non
open PySem (PyData)
theorem zdj{α β:Type}{f:α->Option β}:∀{xs:List α}{ys:List β},xs.mapM f=some ys->∀y∈ys,∃x∈xs,f x=some y
 | [],ys,h,y,hy=>by simp at h;subst h;cases hy
 |x::xs,ys,h,y,hy=>by
  rw[mapM_cons]at h;cases e:f x with
  |none=>rw[e]at h;cases h
  |some z=>
   rw[e]at h;cases e2:xs.mapM f with
   |none=>rw[e2]at h;cases h
   |some zs=>rw[e2]at h;injection h with h;subst h;rcases mem_cons.mp hy with rfl|hy;exact⟨x,by simp,e⟩;obtain⟨u,hu,eu⟩:=zdj e2 y hy;exact⟨u,by simp[hu],eu⟩
theorem zbK:∀{xs:List PyData},(∀x∈xs,PyData.eqv x x=true)->PyData.eqvAll xs xs=true
 | [],_=>by simp[PyData.eqvAll]|x::xs,h=>by simp[PyData.eqvAll,h x (by simp),zbK (xs:=xs) fun y hy=>h y (by simp[hy])]
theorem zj1:∀{n:Nat}{d:D}{a:PyData},pd S n d=some a->PyData.eqv a a=true:=by
 intro n;induction n with
 |zero=>
  intro d a h;cases d<;>simp only[pd]at h
  cases h;simp[PyData.eqv];cases h;simp[PyData.eqv];cases h;simp[PyData.eqv];split at h;cases h;simp[PyData.eqv];cases h;cases h;cases h;cases h
 |succ n ih=>
  intro d a h;cases d<;>simp only[pd]at h
  cases h;simp[PyData.eqv];cases h;simp[PyData.eqv];cases h;simp[PyData.eqv];split at h;cases h;simp[PyData.eqv];cases h;rename_i ds;cases e:ds.mapM (pd S n) with
  |none=>rw[e]at h;cases h
  |some xs=>rw[e]at h;cases h;exact zbK fun x hx=>let ⟨d,_,hd⟩:=zdj e x hx;ih hd
  split at h;rename_i ds _;cases e:ds.mapM (pd S n) with
  |none=>rw[e]at h;cases h
  |some xs=>rw[e]at h;cases h;exact zbK fun x hx=>let ⟨d,_,hd⟩:=zdj e x hx;ih hd
  cases h;cases h
theorem zmI(h1:pd S 60 x=some a)(h2:pd S 60 y=some a):eqD S x y=some true:=by unfold eqD;rw[h1,h2];exact congrArg some (zj1 h1)
theorem zaK(S:St)(o:MO):(S.push o).get S.len=some o:=by unfold St.get St.push;unfold St.len;simp
theorem zcc{S:St}(e:S.get l=some u):(S.push o).get l=some u:=by have h:=zb5 e;unfold St.len at h;unfold St.get at e⊢;unfold St.push;simp only;split;rename_i c;rw[if_pos c]at e;exact e;rename_i c;rw[if_neg c]at e;rw[getElem?_append_left (by omega)];exact e
theorem zkt(f:α->β)(xs:List α)(lo hi:Option Int):cut (xs.map f) lo hi=(cut xs lo hi).map f:=by unfold cut;rw[length_map,List.map_take,List.map_drop]
theorem zd0(xs:List α)(lo hi:Option Int):(cut xs lo hi).length<=xs.length:=by unfold cut;rw[length_take,List.length_drop];omega
theorem zcE{k:Nat}(h:xs[k]?=some x):R.atI xs (k:Int)=some x:=by
 have hl:=(List.getElem?_eq_some_iff.mp h).1;have e:R.ixN xs.length (k:Int)=some k:=by simp[R.ixN,hl]
 unfold R.atI;rw[e];exact h
noncomputable def zkv(ns:List Int)(k:Nat):Int:=match ns[k]? with|some v=>v%10^64|none=>0
end R
section
namespace Kz
local macro_rules|`(#[$x])=>`(.cons $x .nil)|`(#[$x,$y,*])=>`(.cons $x #[$y,*])
local macro_rules|`($x:ident)=>let s:=x.getId.toString;let n:=Lean.Syntax.mkNumLit (s.drop 1).toString;if s.length<2||!(s.drop 1).all Char.isDigit then Lean.Macro.throwUnsupported else if s.front=='J' then `(.loc $n) else if s.front=='U' then `(.con (.int $n)) else Lean.Macro.throwUnsupported
local macro_rules | `(tactic| exists $e)=>`(tactic| refine R.wOpt_of $e ?_)
local macro_rules | `(tactic| change $e)=>`(tactic| refine R.wNeed_of $e ?_)
local macro_rules | `(tactic| specialize $e)=>`(tactic| refine R.wOut_of $e ?_)
local macro_rules | `(tactic| left)=>`(tactic| conv=>whnf)
section
open PySem R L2
noncomputable def zcD:Fn:=⟨1,2,(.asg 1 (.ite (.tst (.tx (.sw 45) #[J0])) (.tx (.sl true false) #[J0,U1,.con D.non]) J0) (.ifS (.or (.nt (.cmp2 .LtE .LtE U1 (.tx .len #[J1]) U60)) (.nt (.tst (.all (.comp 1 [] [0] (.txt J1) (.tst (.con (D.bl true))) (.tx .inn #[J0,.con (D.str "0123456789")])))))) (.ret (.con (D.bl false)) .nil) .nil (.ret (.or (.cmp .Eq J0 (.con (D.str "0"))) (.nt (.tx (.sw 48) #[J1]))) .nil))),none⟩
noncomputable def zbh:Fn:=⟨1,1,(.ifS (.or (.nt (.tst (.bi (.isin "str") #[J0]))) (.nt (.tst (.call 0 0 #[J0])))) (.rais 5 "NoRow" "row" J0) .nil (.ret (.tx .int #[J0]) .nil)),none⟩
noncomputable def zbi:Fn:=⟨1,1,(.ifS (.or (.nt (.tst (.bi (.isin "str") #[J0]))) (.nt (.tst (.all (.comp 1 [] [0] (.val (.tx .spl #[J0])) (.tst (.con (D.bl true))) (.call 0 0 #[J0])))))) (.rais 5 "NoRow" "row" J0) .nil (.ret (.mkT (.comp 1 [] [0] (.val (.tx .spl #[J0])) (.tst (.con (D.bl true))) (.tx .int #[J0]))) .nil)),none⟩
noncomputable def zcB:Fn:=⟨1,1,(.ret (.tx .joi #[.mkL (.comp 1 [] [0] (.val J0) (.tst (.con (D.bl true))) (.tx .str #[J0]))]) .nil),none⟩
noncomputable def zbj:Fn:=⟨2,2,(.ifS (.cmp .Lt J1 (.bi .len #[J0])) (.ret (.bin .Mod (.ix J0 J1) (.bin .Pow U10 U64)) .nil) .nil (.ret U0 .nil)),none⟩
noncomputable def zbw:Fn:=⟨1,1,(.ifS (.cmp .Eq (.bin .Mod J0 U3) U0) (.ret (.bin .Sub (.bin .Mod (.bin .FloorDiv J0 U3) (.bin .Sub (.bin .Mult U2 (.bin .Pow U10 U60)) U1)) (.bin .Sub (.bin .Pow U10 U60) U1)) .nil) .nil (.ret (.bin .Sub (.bin .Mod (.bin .FloorDiv J0 U3) U13) U3) .nil)),none⟩
noncomputable def zbL:Fn:=⟨1,3,(.ifS (.cmp .Lt (.bin .Mod J0 U5) U2) (.ret (.tx .str #[.call 5 0 #[.bin .FloorDiv J0 U5]]) .nil) .nil (.asg 1 (.lst .nil) (.forS [2] (.rng1 (.bin .Add U1 (.bin .Mod (.bin .FloorDiv J0 U5) U4))) (.expr (.mt .append J1 #[.tx .str #[.call 5 0 #[.bin .Mod (.bin .Mult J0 (.bin .Add J2 U7)) U999983]]]) .nil) (.ret (.tx .joi #[J1]) .nil)))),none⟩
noncomputable def zcU:Fn:=⟨1,4,(.asg 1 (.bin .Mod J0 U9) (.asg 2 (.call 6 0 #[.bin .FloorDiv J0 U9]) (.asg 3 (.bin .Mod (.bin .Mod (.bin .Mult J0 U48271) U2147483647) (.bin .Add (.tx .len #[J2]) U1)) (.ifS (.cmp .Eq J1 U1) (.ret (.tx .add #[.tx .add #[.tx (.sl false true) #[J2,.con D.non,J3],.tx .ix #[.con (D.str "0-+. a_\n"),.bin .Mod (.bin .FloorDiv J0 U9) U8]],.tx (.sl true false) #[J2,J3,.con D.non]]) .nil) .nil (.ifS (.cmp .Eq J1 U2) (.ret (.tx .add #[.tx (.sl false true) #[J2,.con D.non,J3],.tx (.sl true false) #[J2,.bin .Add J3 U1,.con D.non]]) .nil) .nil (.ifS (.cmp .Eq J1 U3) (.ret (.tx .add #[.tx .mul #[.con (D.str "0"),.bin .Add U1 (.bin .Mod (.bin .FloorDiv J0 U9) U2)],J2]) .nil) .nil (.ifS (.cmp .Eq J1 U4) (.ret (.tx .add #[.tx .add #[.ix (.lst #[.con (D.str ""),.con (D.str "-")]) (.bin .Mod (.bin .FloorDiv J0 U9) U2),.tx .ix #[.con (D.str "12345"),.bin .Mod (.bin .FloorDiv J0 U18) U5]],.tx .mul #[.con (D.str "9"),.bin .Add U57 (.bin .Mod (.bin .FloorDiv J0 U90) U5)]]) .nil) .nil (.ifS (.cmp .Eq J1 U5) (.ret (.ix (.lst #[.con (D.str ""),.con (D.str "-"),.con (D.str "."),.con (D.str "0"),.con (D.str "-0"),.con (D.str "00"),.con (D.str "--1"),.con (D.str "1-"),.con (D.str "1..2"),.con (D.str ".1"),.con (D.str "1."),.con (D.str "- 1")]) (.bin .Mod (.bin .FloorDiv J0 U9) U12)) .nil) .nil (.ret J2 .nil))))))))),none⟩
noncomputable def zb7:Fn:=⟨1,2,(.asg 1 J0 (.ifS (.cmp .Eq (.tx (.sl false true) #[J0,.con D.non,U1]) (.con (D.str "-"))) (.asg 1 (.tx (.sl true false) #[J0,U1,.con D.non]) .nil) .nil (.ifS (.or (.cmp .Eq J1 (.con (D.str ""))) (.or (.cmp .Gt (.tx .len #[J1]) U60) (.and (.cmp .Eq (.tx .ix #[J1,U0]) (.con (D.str "0"))) (.cmp .NotEq J0 (.con (D.str "0")))))) (.ret (.con (D.bl false)) .nil) .nil (.ret (.all (.comp 1 [] [0] (.txt J1) (.tst (.con (D.bl true))) (.tx .inn #[J0,.con (D.str "0123456789")]))) .nil)))),none⟩
noncomputable def zbM:Fn:=⟨2,5,(.asg 2 (.con D.non) (.asg 3 (.con D.non) (.tryS (.ite (.cmp .Eq J0 U0) (.asg 2 1 #[J1]) (.asg 2 2 #[J1]))
 "RoundError" 4 3 (.ret (.tup #[J2,J3]) .nil)))),none⟩
noncomputable def zbV:Fn:=⟨2,3,(.ifS (.or (.cmp .Is J0 (.con D.non)) (.or (.nt (.tst (.iscX [5] "NoRow" J0))) (.nt (.tst (.iscX [0,1,2,3,4,5] "ValueError" J0))))) (.ret (.con (D.bl false)) .nil) .nil (.asg 2 (.lst #[.iscX [0] "NoCount" J0,.iscX [1] "NoHand" J0,.iscX [2] "NoWord" J0]) (.ifS (.or (.cmp .In (.con (D.bl true)) J2) (.or (.tst (.iscX [3] "NoLetter" J0)) (.tst (.iscX [4] "NoWay" J0)))) (.ret (.con (D.bl false)) .nil) .nil (.ret (.and (.cmp .Eq (.bi (.isin "str") #[.fldX J0 "row"]) (.bi (.isin "str") #[J1])) (.cmp .Eq (.fldX J0 "row") J1)) .nil)))),none⟩
noncomputable def zcC:Fn:=⟨1,1,(.ret (.and (.bi (.isin "int") #[J0]) (.nt (.bi (.isin "bool") #[J0]))) .nil),none⟩
noncomputable def za0:Fn:=⟨1,3,(.asgT [1,2] (.call 9 0 #[U0,J0]) (.ifS (.nt (.tst (.call 8 0 #[J0]))) (.ret (.call 10 0 #[J2,J0]) .nil) .nil (.ret (.and (.cmp .Is J2 (.con D.non)) (.and (.call 11 0 #[J1]) (.cmp .Eq J1 (.tx .int #[J0])))) .nil))),none⟩
noncomputable def za1:Fn:=⟨1,6,(.asgT [1,2] (.call 9 0 #[U1,J0]) (.asg 3 (.tx .spl #[J0]) (.ifS (.nt (.tst (.all (.comp 1 [] [0] (.val J3) (.tst (.con (D.bl true))) (.call 8 0 #[J0]))))) (.ret (.call 10 0 #[J2,J0]) .nil) .nil (.ifS (.or (.cmp .IsNot J2 (.con D.non)) (.or (.nt (.tst (.bi (.isin "tuple") #[J1]))) (.cmp .NotEq (.bi .len #[J1]) (.bi .len #[J3])))) (.ret (.con (D.bl false)) .nil) .nil (.forS [4] (.rng1 (.bi .len #[J3])) (.ifS (.or (.nt (.tst (.call 11 0 #[.ix J1 J4]))) (.cmp .NotEq (.ix J1 J4) (.tx .int #[.ix J3 J4]))) (.ret (.con (D.bl false)) .nil) .nil .nil) (.asg 5 (.call 3 0 #[J1]) (.ret (.and (.bi (.isin "str") #[J5]) (.cmp .Eq J5 J0)) .nil))))))),none⟩
noncomputable def c_law:Fn:=⟨1,4,(.forS [1] (.val (.sl J0 true true U1 U60)) (.asg 2 (.call 7 0 #[.bin .Mod J1 (.bin .Pow U10 U64)]) (.ifS (.or (.nt (.tst (.call 12 0 #[J2]))) (.nt (.tst (.call 13 0 #[J2])))) (.ret (.con (D.bl false)) .nil) .nil .nil)) (.asg 3 (.ix (.lst #[U5,.con D.non,.con (D.bl true),.lst #[.con (D.str "1")],.tup #[.con (D.str "1"),.con (D.str "2")],.tup #[U1,U2]]) (.bin .Mod (.call 4 0 #[J0,U0]) U6)) (.ret (.and (.call 10 0 #[.ix (.call 9 0 #[U0,J3]) U1,J3]) (.call 10 0 #[.ix (.call 9 0 #[U1,J3]) U1,J3])) .nil))),none⟩
noncomputable def prog:List Fn:=[zcD,zbh,zbi,zcB,zbj,zbw,zbL,zcU,zb7,zbM,zbV,zcC,za0,za1,c_law]
noncomputable def top(i:Nat):Stmt:=PySem.Challenge.pw_traitorround_k81_numbers_and_paths.main.body.getD i (.Pass ⟨0,0,0,0⟩)
noncomputable abbrev zdM:Stmt:=top 11
noncomputable abbrev zdH:Stmt:=top 12
noncomputable abbrev zdI:Stmt:=top 13
noncomputable abbrev zdG:Stmt:=top 14
noncomputable abbrev zcJ:Stmt:=top 16
noncomputable abbrev zda:Stmt:=top 17
noncomputable abbrev zdK:Stmt:=top 18
noncomputable abbrev zep:Stmt:=top 19
noncomputable abbrev zc9:Stmt:=top 20
noncomputable abbrev zdL:Stmt:=top 21
noncomputable abbrev zcI:Stmt:=top 22
noncomputable abbrev zdJ:Stmt:=top 23
noncomputable abbrev zb9:Stmt:=top 24
noncomputable abbrev zca:Stmt:=top 25
noncomputable abbrev zlQ:Stmt:=top 26
noncomputable def znZ(s:Stmt)(j:Nat):Stmt:=match s with|.ClassDef _ _ _ b _ _ _ _ _ _ _=>b.getD j (.Pass ⟨0,0,0,0⟩)|s=>s
noncomputable abbrev zdb:Stmt:=znZ (top 7) 0
theorem ox_NoRow:OkX "NoRow.__init__" zdb "RoundError" "row" "row":=⟨⟨⟨_,_,_,_,_,_,_,_,_,_,_,_,rfl,rfl⟩,⟨rfl,rfl,rfl,by decide +kernel,rfl,by decide +kernel,by decide +kernel⟩,rfl,rfl,rfl,rfl,⟨rfl,rfl⟩⟩,fun _ _ _ _ _ _ us hl=>match us,hl with | [_,_],_=>rfl⟩
noncomputable instance mks:R.Mks:={ts:=[],cl:=[],xc:=[44,63,82,101,120,139]}
noncomputable def tab:Tab:=⟨["all","bool","int","isinstance","len","range","str","tuple"],[("FIGURES",(D.str "0123456789")),("MOST_FIGURES",(D.int 60))],[("is_number",["text"],0),("read_word",["text"],0),("read_path",["text"],0),("show_path",["path"],0),("_law_cell_at",["_law_script","_law_k"],0),("_law_number",["_law_cell"],0),("_law_plain",["_law_cell"],0),("_law_text",["_law_cell"],0),("_law_writes",["_law_text_here"],0),("_law_asked",["_law_way","_law_text_here"],0),("_law_refusal",["_law_caught","_law_thing"],0),("_law_whole",["_law_found"],0),("_law_word_read",["_law_text_here"],0),("_law_path_read",["_law_text_here"],0),("law",["_law_script"],0)],[],[],[],[],[],[],[(5,"NoRow","row")],["row"],[("NoWay",[4]),("NoLetter",[3]),("NoWord",[2]),("NoHand",[1]),("NoCount",[0]),("NoRow",[5])],[("ValueError",[0,1,2,3,4,5])],[1,2],["RoundError"]⟩
theorem us1{α:Type}{P:List α->Prop}(h:∀a,P [a]):∀us:List α,us.length=1->P us | [a],_=>h a
theorem us2{α:Type}{P:List α->Prop}(h:∀a b,P [a,b]):∀us:List α,us.length=2->P us | [a,b],_=>h a b
theorem O12:OkD tab prog 0 "is_number" "is_number" ["text"] zdM:=zaX ["text","figures"] rfl (by decide +kernel) fun _ _ _ _ _ _=>us1 fun _=>rfl
theorem O8:OkD tab prog 1 "read_word" "read_word" ["text"] zdH:=zaX ["text"] rfl (by decide +kernel) fun _ _ _ _ _ _=>us1 fun _=>rfl
theorem O6:OkD tab prog 2 "read_path" "read_path" ["text"] zdI:=zaX ["text"] rfl (by decide +kernel) fun _ _ _ _ _ _=>us1 fun _=>rfl
theorem O11:OkD tab prog 3 "show_path" "show_path" ["path"] zdG:=zaX ["path"] rfl (by decide +kernel) fun _ _ _ _ _ _=>us1 fun _=>rfl
theorem O2:OkD tab prog 4 "_law_cell_at" "_law_cell_at" ["_law_script","_law_k"] zcJ:=zaX ["_law_script","_law_k"] rfl (by decide +kernel) fun _ _ _ _ _ _=>us2 fun _ _=>rfl
theorem O5:OkD tab prog 5 "_law_number" "_law_number" ["_law_cell"] zda:=zaX ["_law_cell"] rfl (by decide +kernel) fun _ _ _ _ _ _=>us1 fun _=>rfl
theorem O10:OkD tab prog 6 "_law_plain" "_law_plain" ["_law_cell"] zdK:=zaX ["_law_cell","_law_parts","_law_k"] rfl (by decide +kernel) fun _ _ _ _ _ _=>us1 fun _=>rfl
theorem O13:OkD tab prog 7 "_law_text" "_law_text" ["_law_cell"] zep:=zaX ["_law_cell","_law_way","_law_plain_here","_law_at"] rfl (by decide +kernel) fun _ _ _ _ _ _=>us1 fun _=>rfl
theorem O4:OkD tab prog 8 "_law_writes" "_law_writes" ["_law_text_here"] zc9:=zaX ["_law_text_here","_law_figures"] rfl (by decide +kernel) fun _ _ _ _ _ _=>us1 fun _=>rfl
theorem O9:OkD tab prog 9 "_law_asked" "_law_asked" ["_law_way","_law_text_here"] zdL:=zaX ["_law_way","_law_text_here","_law_found","_law_caught","e"] rfl (by decide +kernel) fun _ _ _ _ _ _=>us2 fun _ _=>rfl
theorem O3:OkD tab prog 10 "_law_refusal" "_law_refusal" ["_law_caught","_law_thing"] zcI:=zaX ["_law_caught","_law_thing","_law_others"] rfl (by decide +kernel) fun _ _ _ _ _ _=>us2 fun _ _=>rfl
theorem O7:OkD tab prog 11 "_law_whole" "_law_whole" ["_law_found"] zdJ:=zaX ["_law_found"] rfl (by decide +kernel) fun _ _ _ _ _ _=>us1 fun _=>rfl
theorem O1:OkD tab prog 12 "_law_word_read" "_law_word_read" ["_law_text_here"] zb9:=zaX ["_law_text_here","_law_found","_law_caught"] rfl (by decide +kernel) fun _ _ _ _ _ _=>us1 fun _=>rfl
theorem O0:OkD tab prog 13 "_law_path_read" "_law_path_read" ["_law_text_here"] zca:=zaX ["_law_text_here","_law_found","_law_caught","_law_parts","_law_k","_law_shows"] rfl (by decide +kernel) fun _ _ _ _ _ _=>us1 fun _=>rfl
theorem O14:OkD tab prog 14 "law" "law" ["_law_script"] zlQ:=zaX ["_law_script","_law_cell","_law_text_here","_law_thing"] rfl (by decide +kernel) fun _ _ _ _ _ _=>us1 fun _=>rfl
end
section
open R
theorem plen(S:R.St)(o:MO):(S.push o).len=S.len+1:=by simp[St.push,St.len];omega
theorem sizT(l:List Nat):(PySem.Str.mk l.toArray).cps.size=l.length:=by simp
theorem zmS:D.str "-"=tS [45]:=by unfold tS;exact congrArg D.str (by decide +kernel)
theorem zhb:D.str "0"=tS [48]:=by unfold tS;exact congrArg D.str (by decide +kernel)
theorem zmR:D.str ""=tS []:=by unfold tS;exact congrArg D.str (by decide +kernel)
theorem zoa:D.str "0123456789"=tS [48,49,50,51,52,53,54,55,56,57]:=by unfold tS;exact congrArg D.str (by decide +kernel)
theorem zn9:D.str "0-+. a_\n"=tS [48,45,43,46,32,97,95,10]:=by unfold tS;exact congrArg D.str (by decide +kernel)
theorem zmT:D.str "12345"=tS [49,50,51,52,53]:=by unfold tS;exact congrArg D.str (by decide +kernel)
theorem zmQ:D.str "9"=tS [57]:=by unfold tS;exact congrArg D.str (by decide +kernel)
noncomputable def Tk(l:List Nat):Prop:=l.length<=1000/\∀c∈l,c<128
theorem x_sw(S:R.St)(c:Nat)(l:List Nat):txD S (.sw c) [tS l]=.ok (.bl (l.head?==some c)) S:=rfl
theorem zkG{S:R.St}{l:List Nat}(h:l.length<=1000):txD S .spl [tS l]=lay S ((splL 46 l).map tS):=by unfold tS txD;dsimp only;rw[if_pos (by rw[sizT];omega)];rfl
theorem zhl{S:R.St}{l:List Nat}(h:zcb l=true):txD S .int [tS l]=.ok (.int (valZ l)) S:=by unfold tS txD;dsimp only;rw[if_pos h]
theorem zi1{S:R.St}{i:Int}(h:i.natAbs<10^70):txD S .str [.int i]=.ok (tS (zbF i)) S:=by unfold txD;dsimp only;rw[if_pos h]
theorem x_ix{S:R.St}{l:List Nat}{i:Int}(h:l.length<=1000)(e:atI l i=some c):txD S .ix [tS l,.int i]=.ok (tS [c]) S:=by unfold tS txD;dsimp only;rw[if_pos (by rw[sizT];omega),show atI l i=some c from e];rfl
theorem znb(S:R.St)(c:Nat)(l:List Nat):txD S .inn [tS [c],tS l]=.ok (.bl (l.contains c)) S:=rfl
theorem zfr{S:R.St}{a b:List Nat}(h:a.length+b.length<=1000):txD S .add [tS a,tS b]=.ok (tS (a++b)) S:=by unfold tS txD;dsimp only;rw[if_pos (by rw[sizT,sizT];omega)];rfl
theorem zkI{S:R.St}{c:Nat}{n:Int}(h:0<=n/\n<=1000):txD S .mul [tS [c],.int n]=.ok (tS (List.replicate n.toNat c)) S:=by
 unfold tS txD;dsimp only;rw[if_pos ⟨h.1,h.2,rfl⟩];have:∀k,(List.replicate k [c]).flatten=List.replicate k c:=fun k=>by induction k with|zero=>rfl|succ k ih=>rw[List.replicate_succ,List.flatten_cons,ih];rfl
 rw[this];rfl
theorem zi4{S:R.St}{l:List Nat}(h:l.length<=1000):txD S .len [tS l]=.ok (.int l.length) S:=by unfold tS txD;dsimp only;rw[if_pos (by rw[sizT];omega),sizT]
theorem zhk{S:R.St}{l:List Nat}{i:Int}(h:l.length<=1000):txD S (.sl true false) [tS l,.int i,.non]=.ok (tS (cut l (some i) none)) S:=by unfold tS txD;dsimp only;rw[if_pos (by rw[sizT];omega)];rfl
theorem zi2{S:R.St}{l:List Nat}{i:Int}(h:l.length<=1000):txD S (.sl false true) [tS l,.non,.int i]=.ok (tS (cut l none (some i))) S:=by unfold tS txD;dsimp only;rw[if_pos (by rw[sizT];omega)];rfl
theorem zdT:∀xs:List (List Nat),(xs.map tS).mapM txtL=some xs
 | []=>rfl|x::xs=>by rw[map_cons,mapM_cons,zdT xs];rfl
theorem zkJ{S:R.St}{p:Nat}{xs:List (List Nat)}(e:S.get p=some (.lst (xs.map tS)))(h:(joiL 46 xs).length<=1000000):txD S .joi [.ref p]=.ok (tS (joiL 46 xs)) S:=by unfold txD;dsimp only;rw[e];dsimp only;rw[zdT];dsimp only;rw[if_pos h]
theorem zkT{l:List Nat}(h:l.length<=1000)(h2:∀c∈l,c<128):zft (tS l)=some (l.map fun c=>tS [c],[]):=by unfold tS zft;dsimp only;rw[if_pos ⟨by rw[sizT];omega,by simpa using h2⟩];rfl
theorem cut1(l:List Nat):cut l (some 1) none=l.tail:=by cases l with|nil=>rfl|cons a r=>simp[cut,sIx]
theorem pd_t{S:R.St}{n:Nat}{l:List Nat}(h:∀c∈l,c<128):pd S n (tS l)=some (.str ⟨l.toArray⟩):=by
 have:PySem.PyData.strOk ⟨l.toArray⟩=true:=by unfold PySem.PyData.strOk;simp;intro c hc;have:=h c hc;omega
 unfold tS;cases n<;>(rw[R.pd,if_pos this])
theorem eq_t{S:R.St}{a b:List Nat}(ha:∀c∈a,c<128)(hb:∀c∈b,c<128):eqD S (tS a) (tS b)=some (decide (a=b)):=by unfold eqD;rw[pd_t ha,pd_t hb];show some (PySem.PyData.eqv _ _)=_;congr 1;by_cases c:a=b;subst c;rw[decide_eq_true rfl];simp[PySem.PyData.eqv];rw[decide_eq_false c];simp[PySem.PyData.eqv,c]
theorem zg5{S:R.St}{a b:List Nat}(ha:∀c∈a,c<128)(hb:∀c∈b,c<128):cmpO S .Eq (tS a) (tS b)=some (decide (a=b)):=eq_t ha hb
theorem zmN{S:R.St}{a b:List Nat}(ha:∀c∈a,c<128)(hb:∀c∈b,c<128):cmpO S .NotEq (tS a) (tS b)=some (!decide (a=b)):=by show(eqD S _ _).map _=_;rw[eq_t ha hb];rfl
theorem zfZ{cf:CF}{e:CE}{S:R.St}{f:D->D}:∀{xs:List D}{o:Option D},(∀x∈xs,evE cf e [some x] S=.ok (f x) S)->za4 [0] (evT cf (.tst (.con (D.bl true)))) (evE cf e) xs [o] S=.ok (xs.map f) S
 | [],o,_=>rfl| x::xs,o,h=>by unfold za4;show Out.bind (evT cf (.tst (.con (D.bl true))) [some x] S) _=_;rw[show evT cf (.tst (.con (D.bl true))) [some x] S=.ok true S from by simp only[evT,evE,zab];rfl,zab,if_pos rfl,show([o].set 0 (some x))=[some x] from rfl,h x (by simp),zab,zfZ fun y hy=>h y (by simp[hy])];rfl
theorem zcL{P:List Fn}{F:Fn}{f n:Nat}{ds:List D}{S S':R.St}{d:D}(h:P[f]?=some F)(hl:ds.length=F.np)(w:W (exS (callF P n) F.body (zaI F ds) S.enter) fun r T=>wFin S r T fun a T'=>a=d/\T'=S')(hp:F.prim=none:=by rfl) :
  app (callF P (n+1)) f ds S=.ok d S':=by
 refine W.eq ?_;rw[ziX h hl hp,zaa,W_ne];refine w.mono fun r T q=>?_;unfold wFin at q;exact q
noncomputable def num(l:List Nat):Bool:=zcb l&&(decide (l=[48])||!((figL l).head?==some 48))
noncomputable def fI(d:D):D:=match txtL d with|some [c]=>.bl (zbA c)|_=>.non
theorem zmD(l:List Nat):(l.map fun c=>tS [c]).map fI=l.map fun c=>.bl (zbA c):=by rw[map_map];rfl
theorem zcf(p:α->Bool):∀l:List α,allD (l.map fun c=>.bl (p c))=some (l.all p)
 | []=>rfl| c::l=>by
  have:=zcf p l;unfold allD at this⊢;rw[map_cons,mapM_cons];cases e:(l.map fun c=>D.bl (p c)).mapM zcV with
  |none=>rw[e]at this;cases this
  |some bs=>rw[e]at this;injection this with this;simp[zcV,<-this]
theorem zkh(c:Nat):[48,49,50,51,52,53,54,55,56,57].contains c=zbA c:=by
 unfold zbA;by_cases h:48<=c/\c<=57
 . rw[decide_eq_true h];have:c=48\/c=49\/c=50\/c=51\/c=52\/c=53\/c=54\/c=55\/c=56\/c=57:=by omega
   rcases this with rfl|rfl|rfl|rfl|rfl|rfl|rfl|rfl|rfl|rfl<;>rfl
 rw[decide_eq_false h];simp;omega
theorem zmG(cf:CF)(S:R.St)(c:Nat):evE cf (.tx .inn #[J0,.con (D.str "0123456789")]) [some (tS [c])] S=.ok (fI (tS [c])) S:=by rw[zoa];show txD S .inn [tS [c],tS _]=_;rw[znb,zkh];rfl
theorem ziR{cf:CF}{S:R.St}{δ:Ev}{l:List Nat}(h:δ[1]?=some (some (tS l)))(hl:l.length<=1000)(h2:∀c∈l,c<128):evE cf (.all (.comp 1 [] [0] (.txt J1) (.tst (.con (D.bl true))) (.tx .inn #[J0,.con (D.str "0123456789")]))) δ S=.ok (.bl (l.all zbA)) S:=by
 have e0:evE cf J1 δ S=.ok (tS l) S:=by rw[evE,h];rfl
 rw[evE,evL,evL,e0,zab,zkT hl h2,zbc,zab];unfold zaY;show Out.bind (Out.bind (Out.bind (za4 [0] _ _ _ [none] ⟨S.frz,S.new,[]++S.lk⟩) _) _) _=_;rw[zfZ (f:=fI) fun x hx=>by obtain⟨c,_,rfl⟩:=mem_map.mp hx;exact zmG _ _ c];rw[zmD,zab,zab,if_pos (by simp;omega),zab,zcf];rfl
theorem zmH{cf:CF}{S:R.St}{δ:Ev}{l:List Nat}(h:δ[0]?=some (some (tS l)))(hl:l.length<=1000):evE cf (.ite (.tst (.tx (.sw 45) #[J0])) (.tx (.sl true false) #[J0,U1,.con D.non]) J0) δ S=.ok (tS (figL l)) S:=by
 have e0:evE cf J0 δ S=.ok (tS l) S:=by rw[evE,h];rfl
 rw[evE,evT,evE,evEs,e0,zab,evEs,zab,zab,x_sw,zab];show Out.bind (.ok (l.head?==some 45) S) _=_;rw[zab];unfold figL;by_cases c:l.head?=some 45;rw[if_pos c,if_pos (by rw[c];rfl),evE,evEs,e0,zab];show txD S (.sl true false) [tS l,.int 1,.non]=_;rw[zhk hl,cut1];rw[if_neg c,if_neg (by simpa using c),e0]
theorem zfg(l:List Nat):(figL l).length<=l.length:=by unfold figL;split<;>simp
theorem zff{l:List Nat}{c:Nat}(h:c∈figL l):c∈l:=by unfold figL at h;split at h;exact List.mem_of_mem_tail h;exact h
theorem z200:∀c∈[48],c<128:=by simp
theorem zmF{cf:CF}{S:R.St}{δ:Ev}{l:List Nat}(h:δ[1]?=some (some (tS l)))(hl:l.length<=1000):evE cf (.tx .len #[J1]) δ S=.ok (.int l.length) S:=by
 have e0:evE cf J1 δ S=.ok (tS l) S:=by rw[evE,h];rfl
 rw[evE,evEs,e0,zab,evEs,zab,zab,zi4 hl]
theorem znn{cf:CF}{S:R.St}{δ:Ev}{l:List Nat}(h:δ[1]?=some (some (tS l)))(hl:l.length<=1000):evT cf (.cmp2 .LtE .LtE U1 (.tx .len #[J1]) U60) δ S=.ok (decide (1<=l.length/\l.length<=60)) S:=by rw[evT,evE,zab,zmF h hl,zab];show Out.bind (lift S (some (decide ((1:Int)<=l.length)))) _=_;rw[zbc,zab];by_cases c:(1:Int)<=l.length;rw[decide_eq_true c,if_pos rfl,evE,zab];show lift S (some (decide ((l.length:Int)<=60)))=_;rw[zbc];congr 1;rw[decide_eq_decide];omega;rw[decide_eq_false c,if_neg (by simp),decide_eq_false (by omega)]
theorem zlI{n:Nat}{S:R.St}{l:List Nat}(h:Tk l):app (callF prog (n+1)) 0 [tS l] S=.ok (.bl (num l)) S:=by
 refine zcL (F:=zcD) rfl rfl ?_;have hf:(figL l).length<=1000:=le_trans (zfg l) h.1;show W (exS (callF prog n) (.asg 1 _ _) [some (tS l),none] S.enter) _;rw[exS,zmH rfl h.1,zab];have ea:evE (callF prog n) _ [some (tS l),some (tS (figL l))] S.enter=_:=ziR rfl hf fun c hc=>h.2 c (zff hc);have el:evT (callF prog n) _ [some (tS l),some (tS (figL l))] S.enter=_:=znn rfl hf;have q:∀b:Bool,b=num l->wFin S (.rt (.bl b)) S.enter fun a T'=>a=.bl (num l)/\T'=S:=fun b e=>zak rfl ⟨by rw[e],rfl⟩;have t:evT (callF prog n) (.or (.nt (.cmp2 .LtE .LtE U1 (.tx .len #[J1]) U60)) (.nt (.tst (.all (.comp 1 [] [0] (.txt J1) (.tst (.con (D.bl true))) (.tx .inn #[J0,.con (D.str "0123456789")])))))) [some (tS l),some (tS (figL l))] S.enter=.ok (!zcb l) S.enter:=by rw[evT,evT,el,zab,zab];unfold zcb;by_cases c:1<=(figL l).length/\(figL l).length<=60;rw[decide_eq_true c,evT,evT,ea,zab];show Out.bind (Out.ok _ _) _=_;rw[zab,Bool.true_and];rw[decide_eq_false c];rfl
 show W (exS (callF prog n) (.ifS _ _ .nil (.ret _ .nil)) [some (tS l),some (tS (figL l))] S.enter) _;rw[exS,t,zab];by_cases c:zcb l=true;rw[if_neg (by rw[c];simp)];show W (exS (callF prog n) (.ret _ .nil) [some (tS l),some (tS (figL l))] S.enter) _;refine wS_W _ ?_;left;rw[zhb];exists zg5 h.2 z200;left;refine zhq (fun d=>?_) (fun d=>?_);left;exact q _ (by unfold num;rw[c,decide_eq_true d];rfl);left;specialize x_sw _ _ _;left;exact q _ (by simp[num,c,d]);rw[if_pos (by simp[c])];show wFin S (.rt (.bl false)) S.enter _;exact q _ (by simp[num,c])
theorem znm(l:List Nat):cut l none (some 1)=l.take 1:=by cases l with|nil=>rfl|cons a r=>simp[cut,sIx]
theorem t200{l:List Nat}(h:∀c∈l,c<128)(k:Nat):∀c∈l.take k,c<128:=fun c hc=>h c (List.mem_of_mem_take hc)
theorem m200:∀c∈[45],c<128:=by simp
theorem n200:∀c∈([]:List Nat),c<128:=fun _ h=>nomatch h
theorem hd1(l:List Nat):l.take 1=[45]↔l.head?=some 45:=by cases l<;>simp
theorem zmE{cf:CF}{S:R.St}{δ:Ev}{l:List Nat}(h:δ[0]?=some (some (tS l)))(hl:Tk l):evT cf (.cmp .Eq (.tx (.sl false true) #[J0,.con D.non,U1]) (.con (D.str "-"))) δ S=.ok (decide (l.head?=some 45)) S:=by
 have e0:evE cf J0 δ S=.ok (tS l) S:=by rw[evE,h];rfl
 rw[evT,evE,evEs,e0,zab];show Out.bind (txD S (.sl false true) [tS l,.non,.int 1]) _=_;rw[zi2 hl.1,zab,evE,zab,zmS,znm];show lift S (cmpO S .Eq _ _)=_;rw[zg5 (t200 hl.2 1) m200,zbc];congr 1;rw[decide_eq_decide];exact hd1 l
theorem s_wr{n:Nat}{S:R.St}{l:List Nat}(h:Tk l):app (callF prog (n+1)) 8 [tS l] S=.ok (.bl (num l)) S:=by
 refine zcL (F:=zb7) rfl rfl ?_;have hf:(figL l).length<=1000:=le_trans (zfg l) h.1;have h2:∀c∈figL l,c<128:=fun c hc=>h.2 c (zff hc);have q:∀b:Bool,b=num l->wFin S (.rt (.bl b)) S.enter fun a T'=>a=.bl (num l)/\T'=S:=fun b e=>zak rfl ⟨by rw[e],rfl⟩;have ea:evE (callF prog n) _ [some (tS l),some (tS (figL l))] S.enter=_:=ziR rfl hf h2;have rest:W (exS (callF prog n) (.ifS (.or (.cmp .Eq J1 (.con (D.str ""))) (.or (.cmp .Gt (.tx .len #[J1]) U60) (.and (.cmp .Eq (.tx .ix #[J1,U0]) (.con (D.str "0"))) (.cmp .NotEq J0 (.con (D.str "0")))))) (.ret (.con (D.bl false)) .nil) .nil (.ret (.all (.comp 1 [] [0] (.txt J1) (.tst (.con (D.bl true))) (.tx .inn #[J0,.con (D.str "0123456789")]))) .nil)) [some (tS l),some (tS (figL l))] S.enter) fun r T=>wFin S r T fun a T'=>a=.bl (num l)/\T'=S:=by
  have t:evT (callF prog n) (.or (.cmp .Eq J1 (.con (D.str ""))) (.or (.cmp .Gt (.tx .len #[J1]) U60) (.and (.cmp .Eq (.tx .ix #[J1,U0]) (.con (D.str "0"))) (.cmp .NotEq J0 (.con (D.str "0")))))) [some (tS l),some (tS (figL l))] S.enter
    = .ok (!(decide (1<=(figL l).length/\(figL l).length<=60)&&(decide (l=[48])||!((figL l).head?==some 48)))) S.enter:=by
   refine W.eq (wT_W _ ?_);left;rw[zmR];exists zg5 h2 n200;left;refine zhq (fun c=>?_) (fun c=>?_);left;exact⟨by simp[c],rfl⟩;left;specialize zi4 hf;left;refine zhq (fun c2=>?_) (fun c2=>?_);left;exact⟨by rw[decide_eq_false (by omega)];rfl,rfl⟩;left;have c3:1<=(figL l).length:=by cases hh:figL l with|nil=>exact absurd hh c|cons a r=>simp
   rw[decide_eq_true (p:=1<=(figL l).length/\(figL l).length<=60) ⟨c3,by omega⟩];obtain⟨a,r,e⟩:∃a r,figL l=a::r:=by cases hh:figL l with|nil=>exact absurd hh c|cons a r=>exact⟨a,r,rfl⟩
   specialize x_ix hf (c:=a) (show atI (figL l) ((0:Nat):Int)=some a from zcE (by rw[e];rfl));left;rw[zhb];exists zg5 (fun c hc=>by rw[mem_singleton.mp hc];exact h2 _ (by rw[e];simp)) z200;left;rw[e];refine zhq (fun c4=>?_) (fun c4=>?_);left;exists zmN h.2 z200;left;injection c4 with c4;subst c4;exact⟨by simp,rfl⟩;left;have c5:a≠48:=fun x=>c4 (by rw[x]);exact⟨by simp[c5],rfl⟩
  rw[exS,t,zab];cases e:(decide (1<=(figL l).length/\(figL l).length<=60)&&(decide (l=[48])||!((figL l).head?==some 48))) with| true=>rw[if_neg (by simp)];show W (exS (callF prog n) (.ret _ .nil) [some (tS l),some (tS (figL l))] S.enter) _;rw[exS,ea];refine q _ ?_;rw[and_eq_true]at e;unfold num zcb;rw[e.1,e.2];simp| false=>rw[if_pos (by rfl)];refine q _ ?_;unfold num zcb;rw[Bool.and_right_comm,e];rfl
 show W (exS (callF prog n) (.asg 1 J0 (.ifS _ _ .nil _)) [some (tS l),none] S.enter) _;rw[exS];show W (exS (callF prog n) (.ifS _ _ .nil _) [some (tS l),some (tS l)] S.enter) _;rw[exS,zmE rfl h,zab];by_cases c:l.head?=some 45;rw[decide_eq_true c,if_pos rfl];have e:figL l=l.tail:=by unfold figL;rw[if_pos c]
 have e1:evE (callF prog n) (.tx (.sl true false) #[J0,U1,.con D.non]) [some (tS l),some (tS l)] S.enter=.ok (tS (figL l)) S.enter:=by show txD S.enter (.sl true false) [tS l,.int 1,.non]=_;rw[zhk h.1,cut1,e]
 rw[exS,e1];exact rest;rw[decide_eq_false c,if_neg (by simp)];have e:figL l=l:=by unfold figL;rw[if_neg c]
 rw[e]at rest;exact rest
theorem zeh(c:Nat):∀l:List Nat,splL c l≠[]
 | []=>by simp[splL]| a::r=>by
  unfold splL;split;simp
  . split<;>simp
theorem zch(c:Nat):∀l:List Nat,joiL c (splL c l)=l
 | []=>rfl| a::r=>by
  have ih:=zch c r;unfold splL;split;rename_i h;subst h;cases e:splL a r with|nil=>exact absurd e (zeh a r)|cons p ps=>rw[e]at ih;show a::joiL a (p::ps)=_;rw[ih]
  cases e:splL c r with|nil=>exact absurd e (zeh c r)| cons p ps=>rw[e]at ih;cases ps with|nil=>show a::p=a::r;rw[show p=r from ih]|cons q qs=>show a::(p++c::joiL c (q::qs))=_;rw[show p++c::joiL c (q::qs)=r from ih]
theorem zbO(c:Nat):∀l:List Nat,(splL c l).length<=l.length+1
 | []=>by simp[splL]| a::r=>by have ih:=zbO c r;unfold splL;split;simp;omega;cases e:splL c r with|nil=>simp|cons p ps=>rw[e]at ih;simp at ih⊢;omega
theorem zbN(c:Nat):∀(l p:List Nat),p∈splL c l->p.length<=l.length/\∀x∈p,x∈l
 | [],p,h=>by simp[splL]at h;subst h;simp| a::r,p,h=>by unfold splL at h;split at h;rcases mem_cons.mp h with rfl|h;simp;have ih:=zbN c r p h;exact⟨by simp;omega,fun x hx=>by simp[ih.2 x hx]⟩;cases e:splL c r with|nil=>exact absurd e (zeh c r)| cons q qs=>rw[e]at h;rcases mem_cons.mp h with rfl|h;have ih:=zbN c r q (by rw[e];simp);refine⟨by simp;exact ih.1,fun x hx=>?_⟩;rcases mem_cons.mp hx with rfl|hx;simp;simp[ih.2 x hx];have ih:=zbN c r p (by rw[e];simp[h]);exact⟨by simp;omega,fun x hx=>by simp[ih.2 x hx]⟩
theorem ziy{l p:List Nat}(h:Tk l)(hp:p∈splL 46 l):Tk p:=⟨le_trans (zbN 46 l p hp).1 h.1,fun c hc=>h.2 c ((zbN 46 l p hp).2 c hc)⟩
theorem dgc{d:Nat}(h:d<10):(Nat.digitChar d).toNat=d+48:=by
 have:d=0\/d=1\/d=2\/d=3\/d=4\/d=5\/d=6\/d=7\/d=8\/d=9:=by omega
 rcases this with rfl|rfl|rfl|rfl|rfl|rfl|rfl|rfl|rfl|rfl<;>rfl
theorem zfS(f:List Nat)(c:Nat):valN (f++[c])=valN f*10+(c-48):=by simp[valN]
theorem zmA{c:Nat}(h:zbA c=true):c-48<10/\c-48+48=c:=by unfold zbA at h;have:=of_decide_eq_true h;omega
theorem zeI:∀(f:List Nat)(a:Nat),zbA a=true->a≠48->0<valN (a::f):=by
 intro f a ha h0;have key:∀(f:List Nat)(x:Nat),0<x->0<f.foldl (fun a c=>a*10+(c-48)) x:=by intro f;induction f with|nil=>exact fun x h=>h|cons c f ih=>exact fun x h=>ih _ (by show 0<x*10+_;omega)
 exact key f _ (by have:=of_decide_eq_true (show decide (48<=a/\a<=57)=true from ha);show 0<0*10+(a-48);omega)
theorem zfk:∀(k:Nat)(f:List Nat),f.length=k->f.all zbA=true->f≠[]->(f=[48]\/f.head?≠some 48)->(Nat.toDigits 10 (valN f)).map Char.toNat=f:=by
 intro k;induction k with
 |zero=>intro f hl _ h;exact absurd (List.length_eq_zero_iff.mp hl) h| succ k ih=>
  intro f hl hf hn hz;obtain⟨g,c,rfl⟩:∃g c,f=g++[c]:=⟨f.dropLast,f.getLast hn,(List.dropLast_concat_getLast hn).symm⟩;rw[List.all_append]at hf;have hg:g.all zbA=true:=(Bool.and_eq_true_iff.mp hf).1;have hc:zbA c=true:=by have:=(Bool.and_eq_true_iff.mp hf).2;simpa using this
  have hb:=zmA hc;rw[zfS];cases g with
  |nil=>simp only[valN,List.foldl_nil,Nat.zero_mul,zero_add,List.nil_append];rw[Nat.toDigits_of_lt_base hb.1,map_cons,dgc hb.1,hb.2];rfl| cons a g=>
   have ha:zbA a=true:=by have:=hg;simp at this;exact this.1
   have h0:a≠48:=by
    rcases hz with hz|hz
    . cases g<;>simp at hz
    intro e;subst e;simp at hz
   have hp:=zeI g a ha h0;have:=ih (a::g) (by simp at hl⊢;omega) hg (by simp) (.inr (by simp[h0]));rw[Nat.mul_comm,<-Nat.toDigits_append_toDigits (by decide) hp hb.1,List.map_append,this,Nat.toDigits_of_lt_base hb.1,map_cons,dgc hb.1,hb.2];rfl
theorem zi6(f:List Nat):f.all zbA=true->valN f<10^f.length:=by
 have key:∀(f:List Nat)(x:Nat),f.all zbA=true->f.foldl (fun a c=>a*10+(c-48)) x<(x+1)*10^f.length:=by intro f;induction f with|nil=>intro x _;simp| cons c f ih=>intro x h;rw[all_cons,and_eq_true]at h;have hb:=zmA h.1;refine lt_of_lt_of_le (ih _ h.2) ?_;rw[length_cons,Nat.pow_succ,Nat.mul_comm (10^f.length),<-Nat.mul_assoc];exact Nat.mul_le_mul_right _ (by show x*10+(c-48)+1<=_;omega)
 intro h;have:=key f 0 h;unfold valN;simpa using this
theorem zj8{l:List Nat}(h:num l=true):(figL l).all zbA=true/\(figL l).length<=60/\figL l≠[]/\(l=[48]\/(figL l).head?≠some 48):=by unfold num zcb at h;simp only[and_eq_true,or_eq_true,decide_eq_true_eq,not_eq_true',beq_eq_false_iff_ne]at h;exact⟨h.1.2,h.1.1.2,fun e=>by rw[e]at h;simp at h,h.2⟩
theorem zdg{l:List Nat}(h:num l=true):zcb l=true:=by unfold num at h;exact(Bool.and_eq_true_iff.mp h).1
theorem zeP{l:List Nat}(h:num l=true):zbF (valZ l)=l/\(valZ l).natAbs<10^70:=by
 obtain⟨h1,h2,h3,h4⟩:=zj8 h;have hlt:=zi6 _ h1;have hle:10^(figL l).length<=10^60:=Nat.pow_le_pow_right (by decide) h2;unfold valZ zbF;by_cases c:l.head?=some 45;have e:figL l=l.tail:=by unfold figL;rw[if_pos c]
 rw[e]at h1 h2 h3 h4 hlt hle;have h5:l.tail.head?≠some 48:=by rcases h4 with h4|h4;rw[h4]at c;cases c;exact h4
 have hp:0<valN l.tail:=by cases ht:l.tail with|nil=>exact absurd ht h3| cons a r=>rw[ht]at h1 h5;exact zeI r a (by simp at h1;exact h1.1) (fun e=>by subst e;simp at h5)
 rw[if_pos c,if_pos (by omega),show(-(valN l.tail:Int)).natAbs=valN l.tail by omega,zfk _ _ rfl h1 h3 (.inr h5)];refine⟨?_,by omega⟩;cases l with
 |nil=>cases c
 |cons a r=>injection c with c;subst c;rfl
 have e:figL l=l:=by unfold figL;rw[if_neg c]
 rw[e]at h1 h2 h3 h4 hlt hle;rw[if_neg c,if_neg (by omega),show((valN l:Int)).natAbs=valN l by omega,zfk _ _ rfl h1 h3 h4];exact⟨rfl,by omega⟩
noncomputable def outX(S:R.St)(d:D)(o:Option D)(r:Out D):Prop:=match o with|some a=>r=.ok a S|none=>∃nw:List MO,r=.err (.ref (S.len+nw.length)) ⟨S.frz,S.new++(nw++[.exc 5 [("row",d)]]),S.lk⟩
noncomputable def ansW(l:List Nat):Option D:=if num l then some (.int (valZ l)) else none
noncomputable def ansP(l:List Nat):Option D:=if(splL 46 l).all num then some (.tup ((splL 46 l).map fun p=>.int (valZ p))) else none
theorem zhf{P:List Fn}{F:Fn}{f n:Nat}{ds:List D}{S:R.St}{d:D}(h:P[f]?=some F)(hl:ds.length=F.np)(w:W (exS (callF P n) F.body (zaI F ds) S.enter) fun r _=>r=.rt d)(hd:flat S.len d=true)(hp:F.prim=none:=by rfl):appX (callF P (n+1)) f ds S=.ok d S:=by
 obtain⟨r,T,e,q⟩:∃r T,exS (callF P n) F.body (zaI F ds) S.enter=.ok r T/\r=.rt d:=by
  revert w
  cases exS (callF P n) F.body (zaI F ds) S.enter with|ok r T=>exact fun w=>⟨r,T,rfl,w⟩|err d T=>exact fun w=>w.elim|bad=>exact fun w=>w.elim
 subst q;unfold appX;simp only[callF,h,hl,hp,if_true,e,Out.ne,zab];exact zcO S d T hd
theorem zdr{P:List Fn}{F:Fn}{f n:Nat}{ds:List D}{S:R.St}{nw:List MO}{d:D}(h:P[f]?=some F)(hl:ds.length=F.np)(w:W (exS (callF P n) F.body (zaI F ds) S.enter) fun r T=>r=.ex (.ref (S.len+nw.length))/\T=⟨S.frz++S.new,nw++[.exc 5 [("row",d)]],[]⟩)(hp:F.prim=none:=by rfl):outX S d none (appX (callF P (n+1)) f ds S):=by have e:=w.eq;refine⟨nw,?_⟩;unfold appX;simp only[callF,h,hl,hp,if_true,e,Out.ne,zab]
theorem zfi{cf:CF}{S:R.St}{δ:Ev}{d:D}{t:String}(e:δ[0]?=some (some d))(h:tyOf S d=some t):evT cf (.nt (.tst (.bi (.isin "str") #[J0]))) δ S=.ok (!(t=="str")) S:=by rw[evT,evT,evE,evEs,evE,e];show Out.bind (Out.bind (bi S (.isin "str") [d]) _) _=_;unfold bi;simp only[h];show Out.ok _ _=_;congr 1;simp
theorem zkF{n:Nat}{S:R.St}{l:List Nat}(h:Tk l):outX S (tS l) (ansW l) (appX (callF prog (n+2)) 1 [tS l] S):=by
 have e1:evT (callF prog (n+1)) _ [some (tS l)] S.enter=_:=zfi (t:="str") rfl rfl;have t:evT (callF prog (n+1)) (.or (.nt (.tst (.bi (.isin "str") #[J0]))) (.nt (.tst (.call 0 0 #[J0])))) [some (tS l)] S.enter=.ok (!num l) S.enter:=by rw[evT,e1,zab,if_neg (by simp),evT,evT,evE];show Out.bind (Out.bind (app (callF prog (n+1)) 0 [tS l] S.enter) _) _=_;rw[zlI h];rfl
 unfold ansW;by_cases c:num l=true;rw[if_pos c];refine zhf (F:=zbh) rfl rfl ?_ rfl;show W (exS (callF prog (n+1)) (.ifS _ _ .nil (.ret _ .nil)) [some (tS l)] S.enter) _;rw[exS,t,zab,if_neg (by simp[c])];refine wS_W (.ret _ .nil) ?_;left;specialize zhl (zdg c);left;rw[if_neg c];refine zdr (F:=zbh) (nw:=[]) rfl rfl ?_;show W (exS (callF prog (n+1)) (.ifS _ _ .nil (.ret _ .nil)) [some (tS l)] S.enter) _;rw[exS,t,zab,if_pos (by simp[c])];exact⟨by simp[R.enter_len],rfl⟩
theorem zi0{n:Nat}{S:R.St}{d:D}{t:String}(ht:tyOf S d=some t)(h:t≠"str"):outX S d none (appX (callF prog (n+1)) 1 [d] S):=by have e1:evT (callF prog n) _ [some d] S.enter=_:=zfi (t:=t) rfl (by rw[show tyOf S.enter d=tyOf S d from by cases d<;>simp only[tyOf,zaZ]];exact ht);refine zdr (F:=zbh) (nw:=[]) rfl rfl ?_;show W (exS (callF prog n) (.ifS (.or _ _) _ .nil (.ret _ .nil)) [some d] S.enter) _;rw[exS,evT,e1,zab,if_pos (by simp[h]),zab,if_pos rfl];exact⟨by simp[R.enter_len],rfl⟩
theorem zi3{n:Nat}{S:R.St}{d:D}{t:String}(ht:tyOf S d=some t)(h:t≠"str"):outX S d none (appX (callF prog (n+1)) 2 [d] S):=by have e1:evT (callF prog n) _ [some d] S.enter=_:=zfi (t:=t) rfl (by rw[show tyOf S.enter d=tyOf S d from by cases d<;>simp only[tyOf,zaZ]];exact ht);refine zdr (F:=zbi) (nw:=[]) rfl rfl ?_;show W (exS (callF prog n) (.ifS (.or _ _) _ .nil (.ret _ .nil)) [some d] S.enter) _;rw[exS,evT,e1,zab,if_pos (by simp[h]),zab,if_pos rfl];exact⟨by simp[R.enter_len],rfl⟩
theorem zmn{cf:CF}{S:R.St}{δ:Ev}{l:List Nat}(h:δ[0]?=some (some (tS l)))(hl:Tk l):evL cf (.val (.tx .spl #[J0])) δ S=.ok ((splL 46 l).map tS,[S.len]) (S.push (.lst ((splL 46 l).map tS))):=by
 have e0:evE cf J0 δ S=.ok (tS l) S:=by rw[evE,h];rfl
 have:=zbO 46 l;have:=hl.1;rw[evL,evE,evEs,e0,zab,evEs,zab,zab,zkG hl.1];unfold lay;rw[if_pos (by simp;omega),zab];simp only[zbe,zaK,zbc,zab,lkOf]
theorem ze4{cf:CF}{it:CL}{e:CE}{S S1:R.St}{δ:Ev}{xs:List D}{ls:List Nat}{f:D->D}(h:evL cf it δ S=.ok (xs,ls) S1)(hx:∀x∈xs,∀S,evE cf e [some x] S=.ok (f x) S)(hl:xs.length<=16777216):evL cf (.comp 1 [] [0] it (.tst (.con (D.bl true))) e) δ S=.ok (xs.map f,[]) S1:=by rw[evL,h,zab];unfold zaY;show Out.bind (Out.bind (za4 [0] _ _ _ [none] ⟨S1.frz,S1.new,ls++S1.lk⟩) _) _=_;rw[zfZ (f:=f) fun x h=>hx x h _,zab,zab,if_pos (by simpa using hl)]
noncomputable def fN(d:D):D:=match txtL d with|some l=>.bl (num l)|_=>.non
noncomputable def fV(d:D):D:=match txtL d with|some l=>.int (valZ l)|_=>.non
theorem ziO(xs:List (List Nat)):(xs.map tS).map fN=xs.map fun l=>.bl (num l):=by rw[map_map];rfl
theorem zmC(xs:List (List Nat)):(xs.map tS).map fV=xs.map fun l=>.int (valZ l):=by rw[map_map];rfl
theorem zkH{n:Nat}{S:R.St}{l:List Nat}(h:Tk l):outX S (tS l) (ansP l) (appX (callF prog (n+2)) 2 [tS l] S):=by
 have e1:evT (callF prog (n+1)) _ [some (tS l)] S.enter=_:=zfi (t:="str") rfl rfl;have hl:((splL 46 l).map tS).length<=16777216:=by have:=zbO 46 l;have:=h.1;simp;omega
 have t:evT (callF prog (n+1)) (.or (.nt (.tst (.bi (.isin "str") #[J0]))) (.nt (.tst (.all (.comp 1 [] [0] (.val (.tx .spl #[J0])) (.tst (.con (D.bl true))) (.call 0 0 #[J0])))))) [some (tS l)] S.enter=.ok (!(splL 46 l).all num) (S.enter.push (.lst ((splL 46 l).map tS))):=by have e2:evL (callF prog (n+1)) (.comp 1 [] [0] (.val (.tx .spl #[J0])) (.tst (.con (D.bl true))) (.call 0 0 #[J0])) [some (tS l)] S.enter=_:=ze4 (f:=fN) (zmn rfl h) (fun x hx S=>by obtain⟨p,hp,rfl⟩:=mem_map.mp hx;show app (callF prog (n+1)) 0 [tS p] S=_;rw[zlI (ziy h hp)];rfl) hl;rw[evT,e1,zab,if_neg (by simp),evT,evT,evE,e2,zab,ziO,zcf];rfl
 unfold ansP;by_cases c:(splL 46 l).all num=true;rw[if_pos c];refine zhf (F:=zbi) rfl rfl ?_ (by rw[zfe,zbU];simp);show W (exS (callF prog (n+1)) (.ifS _ _ .nil (.ret _ .nil)) [some (tS l)] S.enter) _;rw[exS,t,zab,if_neg (by simp only[c];decide)];show W (exS (callF prog (n+1)) (.ret _ .nil) [some (tS l)] (S.enter.push (.lst ((splL 46 l).map tS)))) _;have e2:evL (callF prog (n+1)) (.comp 1 [] [0] (.val (.tx .spl #[J0])) (.tst (.con (D.bl true))) (.tx .int #[J0])) [some (tS l)] (S.enter.push (.lst ((splL 46 l).map tS)))=_:=ze4 (f:=fV) (zmn rfl h) (fun x hx S=>by obtain⟨p,hp,rfl⟩:=mem_map.mp hx;show txD S .int [tS p]=_;rw[zhl (zdg (all_eq_true.mp c p hp))];rfl) hl;rw[exS,evE,e2,zab,zmC,if_pos (by simpa using hl)];rfl;rw[if_neg c];refine zdr (F:=zbi) (nw:=[.lst ((splL 46 l).map tS)]) rfl rfl ?_;show W (exS (callF prog (n+1)) (.ifS _ _ .nil (.ret _ .nil)) [some (tS l)] S.enter) _;rw[exS,t,zab,if_pos (by simp only[c];decide)];refine⟨?_,rfl⟩;show Fl.ex (.ref (S.enter.push _).len)=_;rw[plen,R.enter_len];rfl
theorem zdl{S:R.St}{nw:List MO}{d:D}:(St.mk S.frz (S.new++(nw++[.exc 5 [("row",d)]])) lk).get (S.len+nw.length)=some (.exc 5 [("row",d)]):=by unfold St.len;rw[show S.frz.length+S.new.length+nw.length=S.frz.length+(S.new.length+nw.length) by omega,zev,<-List.append_assoc,getElem?_append_right (by simp)];simp
noncomputable def askR(S:R.St)(d:D)(r:Out D):Option D->Prop
 |some a=>r=.ok (.tup [a,.non]) S|none=>∃nw:List MO,r=.ok (.tup [.non,.ref (S.len+nw.length)]) ⟨S.frz,S.new++(nw++[.exc 5 [("row",d)]]),S.lk⟩
theorem zeF{n:Nat}{S:R.St}{d:D}{o:Option D}{w:Int}(hw:(w=0/\outX S.enter d o (appX (callF prog n) 1 [d] S.enter))\/(w≠0/\outX S.enter d o (appX (callF prog n) 2 [d] S.enter)))(hf:∀a,o=some a->flat S.len a=true):askR S d (app (callF prog (n+1)) 9 [.int w,d] S) o:=by
 have hb:∀(g:Nat)(r:Out D),appX (callF prog n) g [d] S.enter=r->g=(if w=0 then 1 else 2)->exT (callF prog n) (.ite (.cmp .Eq J0 U0) (.asg 2 1 #[J1]) (.asg 2 2 #[J1])) [some (.int w),some d,some .non,some .non,none] S.enter=r.bind fun a T=>.ok [some (.int w),some d,some a,some .non,none] T:=by intro g r er eg;rw[exT];have et:evT (callF prog n) (.cmp .Eq J0 U0) [some (.int w),some d,some .non,some .non,none] S.enter=.ok (decide (w=0)) S.enter:=rfl;rw[et];dsimp only;by_cases c:w=0;rw[if_pos c]at eg;subst eg;rw[decide_eq_true c,if_pos rfl];show Out.bind (appX (callF prog n) 1 [d] S.enter) _=_;rw[er];rfl;rw[if_neg c]at eg;subst eg;rw[decide_eq_false c,if_neg (by simp)];show Out.bind (appX (callF prog n) 2 [d] S.enter) _=_;rw[er];rfl
 obtain⟨g,eg,hx⟩:∃g,g=(if w=0 then 1 else 2)/\outX S.enter d o (appX (callF prog n) g [d] S.enter):=by rcases hw with⟨h1,h2⟩|⟨h1,h2⟩;exact⟨1,by rw[if_pos h1],h2⟩;exact⟨2,by rw[if_neg h1],h2⟩
 cases o with
 |some a=>refine zcL (F:=zbM) rfl rfl ?_;have b:=hb g _ (show appX (callF prog n) g [d] S.enter=.ok a S.enter from hx) eg;show W (exS (callF prog n) (.tryS _ "RoundError" 4 3 (.ret _ .nil)) [some (.int w),some d,some .non,some .non,none] S.enter) _;rw[exS,b];show wFin S (.rt (.tup [a,.non])) S.enter _;exact zak (by simp[hf a rfl]) ⟨rfl,rfl⟩| none=>
  obtain⟨nw,hx⟩:=hx;refine⟨nw,zcL (F:=zbM) rfl rfl ?_⟩;have b:=hb g _ hx eg;rw[R.enter_len]at b;show W (exS (callF prog n) (.tryS _ "RoundError" 4 3 (.ret _ .nil)) [some (.int w),some d,some .non,some .non,none] S.enter) _;rw[exS,b];show W (if(zbo (St.mk S.enter.frz _ _) (.ref (S.len+nw.length))).isSome then _ else _) _;have e:zbo (St.mk S.enter.frz (S.enter.new++(nw++[.exc 5 [("row",d)]])) S.enter.lk) (.ref (S.len+nw.length))=some (5,[(("row":PySem.Str),d)]):=by unfold zbo;have:=zdl (S:=S.enter) (nw:=nw) (d:=d) (lk:=S.enter.lk);rw[R.enter_len]at this;dsimp only;rw[this]
  rw[e,if_pos (by rfl)];show wFin S (.rt (.tup [.non,.ref (S.len+nw.length)])) ⟨_,_,_⟩ _;unfold wFin;rw[ziN];unfold za2;rw[if_neg (by simp[flat])];exact⟨rfl,rfl⟩
noncomputable def za5:List D:=[.int 5,.non,.bl true,.tup [.str "1",.str "2"],.tup [.int 1,.int 2]]
noncomputable def Th(S:R.St)(d:D):Prop:=(∃l,Tk l/\d=tS l)\/d∈za5\/∃p,d=.ref p/\S.get p=some (.lst [.str "1"])
theorem Th.mono{S T:R.St}{d:D}(h:Th S d)(g:∀l o,S.get l=some o->T.get l=some o):Th T d:=by rcases h with h|h|⟨l,h,e⟩;exact .inl h;exact .inr (.inl h);exact .inr (.inr ⟨l,h,g _ _ e⟩)
theorem Th.push{S:R.St}{d:D}{o:MO}(h:Th S d):Th (S.push o) d:=h.mono fun _ _ e=>zcc e
theorem Th.enter{S:R.St}{d:D}(h:Th S d):Th S.enter d:=h.mono fun l o e=>by rw[zaZ];exact e
theorem Th.flat{S:R.St}{d:D}(h:Th S d):flat S.len d=true:=by
 rcases h with⟨l,_,rfl⟩|h|⟨p,rfl,e⟩;rfl
 . simp only[za5,mem_cons,not_mem_nil,or_false]at h;rcases h with rfl|rfl|rfl|rfl|rfl<;>rfl
 have:=zb5 e;simp[R.flat,this]
theorem zmP:D.str "1"=tS [49]:=by unfold tS;exact congrArg D.str (by decide +kernel)
theorem zn8:D.str "2"=tS [50]:=by unfold tS;exact congrArg D.str (by decide +kernel)
theorem o200:∀c∈[49],c<128:=by simp
theorem w200:∀c∈[50],c<128:=by simp
theorem Th.pd{S:R.St}{d:D}(h:Th S d):∃a,pd S 60 d=some a:=by rcases h with⟨l,hl,rfl⟩|h|⟨p,rfl,e⟩;exact⟨_,pd_t hl.2⟩;simp only[za5,mem_cons,not_mem_nil,or_false]at h;rcases h with rfl|rfl|rfl|rfl|rfl;exact⟨_,rfl⟩;exact⟨_,rfl⟩;exact⟨_,rfl⟩;rw[zmP,zn8];rw[R.pd,mapM_cons,pd_t o200,mapM_cons,pd_t w200];exact⟨_,rfl⟩;exact⟨_,rfl⟩;rw[R.pd,e];dsimp only;rw[zmP,mapM_cons,pd_t o200];exact⟨_,rfl⟩
noncomputable def kT:D->String|.non=>"NoneType"|.bl _=>"bool"|.int _=>"int"|.str _=>"str"|.tup _=>"tuple"|_=>"list"
theorem Th.ty{S:R.St}{d:D}(h:Th S d):tyOf S d=some (kT d):=by
 rcases h with⟨l,_,rfl⟩|h|⟨p,rfl,e⟩;rfl
 . simp only[za5,mem_cons,not_mem_nil,or_false]at h;rcases h with rfl|rfl|rfl|rfl|rfl<;>rfl
 simp only[tyOf,e,kT]
theorem Th.same{S:R.St}{d:D}(h:Th S d):wCmp S .Eq d d fun k=>k=true:=by obtain⟨a,ea⟩:=h.pd;have:cmpO S .Eq d d=some true:=zmI ea ea;unfold wCmp;split;simp[cmpI];exact wOpt_of this rfl
theorem zhr{S:R.St}{op:PySem.CmpOp}{x y:D}{Q Q':Bool->Prop}(h:wCmp S op x y Q)(k:∀b,Q b->Q' b):wCmp S op x y Q':=by obtain⟨b,e,q⟩:=zcY h;unfold wCmp;split;rename_i i j;have e:cmpI op i j=some b:=e;rw[e];exact k b q;rename_i hn;rw[zg6 hn]at e;split;rw[e];exact k b q;rw[e];exact k b q;exact wOpt_of e (k b q)
theorem ziP{S:R.St}{m:Nat}{d:D}(h:S.get m=some (.exc 5 [("row",d)])):zbo S (.ref m)=some (5,[(("row":PySem.Str),d)]):=by unfold zbo;dsimp only;rw[h]
theorem in3(S:R.St):cmpO (S.push (.lst [.bl false,.bl false,.bl false])) .In (.bl true) (.ref S.len)=some false:=by show(zbe (S.push _) (.ref S.len)).bind _=_;simp only[zbe,zaK];rfl
theorem zmk(d:D):List.lookup ("row":PySem.Str) [(("row":PySem.Str),d)]=some d:=by simp[List.lookup]
theorem bb(S:R.St)(b:Bool):cmpO S .Eq (.bl b) (.bl b)=some true:=by cases b<;>rfl
theorem zjG{n:Nat}{S:R.St}{m:Nat}{d:D}(h:S.get m=some (.exc 5 [("row",d)]))(hd:Th S d):app (callF prog (n+1)) 10 [.ref m,d] S=.ok (.bl true) S:=by
 refine zb8 (F:=zbV) rfl rfl ?_;have h1:zbo S.enter (.ref m)=some (5,[(("row":PySem.Str),d)]):=ziP (by rw[zaZ];exact h);left;exists h1;left;exists h1;left;exists h1;left;exists h1;left;exists h1;left;change by simp
 left;exists in3 S.enter;left;have h2:zbo (S.enter.push (.lst [.bl false,.bl false,.bl false])) (.ref m)=some (5,[(("row":PySem.Str),d)]):=ziP (zcc (by rw[zaZ];exact h));have hT:Th (S.enter.push (.lst [.bl false,.bl false,.bl false])) d:=hd.enter.push;exists h2;left;exists h2;left;exists h2;left;exists zmk d;left;exists hT.ty;left;exists hT.ty;left;exists bb _ _;left;exists h2;left;exists zmk d;show wCmp (S.enter.push (.lst [.bl false,.bl false,.bl false])) .Eq d d fun k=>wFin S (.rt (.bl k)) (S.enter.push (.lst [.bl false,.bl false,.bl false])) fun a T'=>a=.bl true/\T'=S;refine zhr hT.same fun b hb=>?_;subst hb;exact zak rfl ⟨rfl,rfl⟩
theorem zko{S:R.St}{nw:List MO}{lk:List Nat}{l:Nat}{o:MO}(h:S.get l=some o):(St.mk S.frz (S.new++nw) lk).get l=some o:=by have:=zb5 h;unfold St.len at this;unfold St.get at *;dsimp only;split;rename_i c;rw[if_pos c]at h;exact h;rename_i c;rw[if_neg c]at h;rw[getElem?_append_left (by omega)];exact h
theorem zf7{n:Nat}{S:R.St}{i:Int}:app (callF prog (n+1)) 11 [.int i] S=.ok (.bl true) S:=by refine zb8 (F:=zcC) rfl rfl ?_;left;exists show tyOf _ (.int i)=some "int" from rfl;left;exists show tyOf _ (.int i)=some "int" from rfl;left;exact zak rfl ⟨rfl,rfl⟩
theorem zhg{l:List Nat}{a:D}{k:Nat}(e:ansW l=some a):flat k a=true:=by unfold ansW at e;split at e;injection e with e;subst e;rfl;cases e
theorem zhh{l:List Nat}{a:D}{k:Nat}(e:ansP l=some a):flat k a=true:=by unfold ansP at e;split at e;injection e with e;subst e;rw[zfe,zbU];simp;cases e
theorem zjF{n:Nat}{S:R.St}{l:List Nat}(h:Tk l):app (callF prog (n+4)) 12 [tS l] S=.ok (.bl true) S:=by have hx:=zkF (n:=n) (S:=S.enter.enter) h;have ha:=zeF (S:=S.enter) (w:=0) (.inl ⟨rfl,hx⟩) fun a e=>zhg e;by_cases c:num l=true;rw[show ansW l=_ from if_pos c]at ha;refine zb8 (F:=za0) rfl rfl ?_;left;specialize ha;left;exists rfl;left;specialize s_wr h;left;refine zcX (by rw[c];rfl) ?_;left;specialize zf7;left;specialize zhl (zdg c);left;exact zak rfl ⟨by simp,rfl⟩;rw[show ansW l=_ from if_neg c]at ha;obtain⟨nw,ha⟩:=ha;refine zb8 (F:=za0) rfl rfl ?_;left;specialize ha;left;exists rfl;left;specialize s_wr h;left;refine zhp (by rw[Bool.eq_false_iff.mpr c];rfl) ?_;left;specialize zjG zdl (.inl ⟨l,h,rfl⟩);left;exact zak rfl ⟨rfl,rfl⟩
noncomputable def fS(d:D):D:=match d with|.int i=>tS (zbF i)|_=>.non
theorem zlH{n:Nat}{S:R.St}{ps:List (List Nat)}(h:∀p∈ps,num p=true)(hl:ps.length<=16777216)(hj:(joiL 46 ps).length<=1000000):app (callF prog (n+1)) 3 [.tup (ps.map fun p=>.int (valZ p))] S=.ok (tS (joiL 46 ps)) S:=by
 refine zcL (F:=zcB) rfl rfl ?_;have e:evL (callF prog n) (.comp 1 [] [0] (.val J0) (.tst (.con (D.bl true))) (.tx .str #[J0])) [some (.tup (ps.map fun p=>.int (valZ p)))] S.enter=_:=ze4 (f:=fS) (show evL (callF prog n) (.val J0) [some (.tup (ps.map fun p=>.int (valZ p)))] S.enter=.ok (ps.map fun p=>.int (valZ p),[]) S.enter from by rw[evL,evE];rfl) (fun x hx S=>by obtain⟨p,hp,rfl⟩:=mem_map.mp hx;show txD S .str [.int (valZ p)]=_;rw[zi1 (zeP (h p hp)).2];rfl) (by simpa using hl);have em:(ps.map fun p=>D.int (valZ p)).map fS=ps.map tS:=by rw[map_map];refine List.map_congr_left fun p hp=>?_;show tS (zbF (valZ p))=_;rw[(zeP (h p hp)).1]
 show W (exS (callF prog n) (.ret (.tx .joi #[.mkL _]) .nil) [some (.tup (ps.map fun p=>.int (valZ p)))] S.enter) _;rw[exS,evE,evEs,evE,e,zab,em];unfold lay;rw[if_pos (by simpa using hl),zab,evEs,zab,zab,zkJ (zaK _ _) hj];exact zak rfl ⟨rfl,rfl⟩
theorem zfX{b:Ev->R.St->Out Fl}{S:R.St}{i:Nat}{I:Ev->Prop}:∀{xs:List D}{δ:Ev},(∀x∈xs,∀δ,I δ->∃δ',b (δ.set i (some x)) S=.ok (.nx δ') S/\I δ')->I δ->∃δ',zaT [i] b xs δ S=.ok (.nx δ') S/\I δ'
 | [],δ,_,hi=>⟨δ,rfl,hi⟩| x::xs,δ,h,hi=>by obtain⟨δ1,e1,h1⟩:=h x (by simp) δ hi;obtain⟨δ2,e2,h2⟩:=zfX (xs:=xs) (fun y hy=>h y (by simp[hy])) h1;refine⟨δ2,?_,h2⟩;unfold zaT;show Out.bind (b (δ.set i (some x)) S) _=_;rw[e1,zab];exact e2
noncomputable def zd8:CS:=(.ifS (.or (.nt (.tst (.call 11 0 #[.ix J1 J4]))) (.cmp .NotEq (.ix J1 J4) (.tx .int #[.ix J3 J4]))) (.ret (.con (D.bl false)) .nil) .nil .nil)
theorem zlM{n:Nat}{S:R.St}{ps:List (List Nat)}{q k:Nat}{x0 x2 x5:Option D}(h:∀p∈ps,num p=true)(hq:S.get q=some (.lst (ps.map tS)))(hk:k<ps.length):exS (callF prog (n+1)) zd8 [x0,some (.tup (ps.map fun p=>.int (valZ p))),x2,some (.ref q),some (.int k),x5] S=.ok (.nx [x0,some (.tup (ps.map fun p=>.int (valZ p))),x2,some (.ref q),some (.int k),x5]) S:=by refine W.eq ?_;have hp:ps[k]?=some ps[k]:=getElem?_eq_getElem hk;have hn:num ps[k]=true:=h _ (List.getElem_mem hk);have a1:atI (ps.map fun p=>D.int (valZ p)) (k:Int)=some (.int (valZ ps[k])):=zcE (by rw[getElem?_map,hp];rfl);have a2:atI (ps.map tS) (k:Int)=some (tS ps[k]):=zcE (by rw[getElem?_map,hp];rfl);refine wS_W _ ?_;left;exists a1;left;specialize zf7;left;exists a1;left;exists hq;left;exists a2;left;specialize zhl (zdg hn);left;refine zcX (by simp) ?_;left;exact⟨rfl,rfl⟩
theorem znV{cf:CF}{S:R.St}{δ:Ev}{i q:Nat}{ds:List D}(h:δ[i]?=some (some (.ref q)))(hq:S.get q=some (.lst ds)):evL cf (.val (.loc i)) δ S=.ok (ds,[q]) S:=by rw[evL,evE,h];show Out.bind (lift S (zbe S (.ref q))) _=_;simp only[zbe,hq,zbc,zab,lkOf]
theorem zjH{n:Nat}{S:R.St}{l:List Nat}(h:Tk l):app (callF prog (n+4)) 13 [tS l] S=.ok (.bl true) S:=by
 have hx:=zkH (n:=n) (S:=S.enter.enter) h;have ha:=zeF (S:=S.enter) (w:=1) (.inr ⟨by decide,hx⟩) fun a e=>zhh e;have hl:((splL 46 l).map tS).length<=16777216:=by have:=zbO 46 l;have:=h.1;simp;omega
 have tt:∀(T:R.St)(x1 x2:Option D)(q:Nat),T.get q=some (.lst ((splL 46 l).map tS))->evT (callF prog (n+3)) (.nt (.tst (.all (.comp 1 [] [0] (.val J3) (.tst (.con (D.bl true))) (.call 8 0 #[J0]))))) [some (tS l),x1,x2,some (.ref q),none,none] T=.ok (!(splL 46 l).all num) T:=by intro T x1 x2 q hq;have e2:evL (callF prog (n+3)) (.comp 1 [] [0] (.val J3) (.tst (.con (D.bl true))) (.call 8 0 #[J0])) [some (tS l),x1,x2,some (.ref q),none,none] T=_:=ze4 (f:=fN) (znV rfl hq) (fun x hx S=>by obtain⟨p,hp,rfl⟩:=mem_map.mp hx;show app (callF prog (n+3)) 8 [tS p] S=_;rw[s_wr (ziy h hp)];rfl) hl;rw[evT,evT,evE,e2,zab,ziO,zcf];rfl
 have sp:∀(T:R.St)(x1 x2:Option D),evE (callF prog (n+3)) (.tx .spl #[J0]) [some (tS l),x1,x2,none,none,none] T=.ok (.ref T.len) (T.push (.lst ((splL 46 l).map tS))):=by intro T x1 x2;show txD T .spl [tS l]=_;rw[zkG h.1];unfold lay;rw[if_pos hl]
 by_cases c:(splL 46 l).all num=true;rw[show ansP l=_ from if_pos c]at ha;refine zcL (F:=za1) rfl rfl ?_;have hn:∀p∈splL 46 l,num p=true:=all_eq_true.mp c;have ea:evE (callF prog (n+3)) (.call 9 0 #[U1,J0]) [some (tS l),none,none,none,none,none] S.enter=.ok (.tup [.tup ((splL 46 l).map fun p=>.int (valZ p)),.non]) S.enter:=ha;show W (exS (callF prog (n+3)) (.asgT [1,2] _ (.asg 3 _ (.ifS _ _ .nil (.ifS _ _ .nil (.forS [4] _ zd8 (.asg 5 _ (.ret _ .nil))))))) [some (tS l),none,none,none,none,none] S.enter) _;rw[exS,ea,zab];show W (exS (callF prog (n+3)) (.asg 3 _ (.ifS _ _ .nil (.ifS _ _ .nil (.forS [4] _ zd8 (.asg 5 _ (.ret _ .nil)))))) [some (tS l),some (.tup ((splL 46 l).map fun p=>.int (valZ p))),some .non,none,none,none] S.enter) _;rw[exS,sp,zab];have hq:=zaK S.enter (.lst ((splL 46 l).map tS));generalize eT:S.enter.push (.lst ((splL 46 l).map tS))=T at hq⊢;generalize S.enter.len=q at hq⊢;show W (exS (callF prog (n+3)) (.ifS _ _ .nil (.ifS _ _ .nil (.forS [4] _ zd8 (.asg 5 _ (.ret _ .nil))))) [some (tS l),some (.tup ((splL 46 l).map fun p=>.int (valZ p))),some .non,some (.ref q),none,none] T) _;rw[exS,tt T _ _ q hq,zab,if_neg (by simp only[c];decide)];show W (exS (callF prog (n+3)) (.ifS _ _ .nil (.forS [4] _ zd8 (.asg 5 _ (.ret _ .nil)))) [some (tS l),some (.tup ((splL 46 l).map fun p=>.int (valZ p))),some .non,some (.ref q),none,none] T) _;have t2:evT (callF prog (n+3)) (.or (.cmp .IsNot J2 (.con D.non)) (.or (.nt (.tst (.bi (.isin "tuple") #[J1]))) (.cmp .NotEq (.bi .len #[J1]) (.bi .len #[J3])))) [some (tS l),some (.tup ((splL 46 l).map fun p=>.int (valZ p))),some .non,some (.ref q),none,none] T=.ok false T:=by refine W.eq (wT_W _ ?_);left;exists rfl;left;exists hq;left;exact⟨by simp,rfl⟩
 rw[exS,t2,zab,if_neg (by decide)];show W (exS (callF prog (n+3)) (.forS [4] (.rng1 (.bi .len #[J3])) zd8 (.asg 5 _ (.ret _ .nil))) [some (tS l),some (.tup ((splL 46 l).map fun p=>.int (valZ p))),some .non,some (.ref q),none,none] T) _;have eL:evL (callF prog (n+3)) (.rng1 (.bi .len #[J3])) [some (tS l),some (.tup ((splL 46 l).map fun p=>.int (valZ p))),some .non,some (.ref q),none,none] T=.ok ((List.range (splL 46 l).length).map fun(k:Nat)=>.int k,[]) T:=by
  refine W.eq (wL_W _ ?_);left;exists hq;left;have:=zbO 46 l;have:=h.1;change by simp only[length_map];omega
  left;exact⟨by simp,rfl⟩
 obtain⟨δ',ef,x4,hi⟩:=zfX (b:=exS (callF prog (n+3)) zd8) (S:=T) (i:=4) (I:=fun δ=>∃x4,δ=[some (tS l),some (.tup ((splL 46 l).map fun p=>.int (valZ p))),some .non,some (.ref q),x4,none]) (xs:=(List.range (splL 46 l).length).map fun(k:Nat)=>.int k) (δ:=[some (tS l),some (.tup ((splL 46 l).map fun p=>.int (valZ p))),some .non,some (.ref q),none,none]) (fun x hx δ hi=>by obtain⟨k,hk,rfl⟩:=mem_map.mp hx;obtain⟨x4,rfl⟩:=hi;exact⟨_,zlM hn hq (List.mem_range.mp hk),_,rfl⟩) ⟨_,rfl⟩;subst hi;rw[exS,eL,zab];unfold zaY;show W (Out.bind (Out.bind (zaT [4] (exS (callF prog (n+3)) zd8) _ _ T) _) _) _;rw[ef,zab,zab];show W (exS (callF prog (n+3)) (.asg 5 (.call 3 0 #[J1]) (.ret _ .nil)) [some (tS l),some (.tup ((splL 46 l).map fun p=>.int (valZ p))),some .non,some (.ref q),x4,none] T) _;have es:evE (callF prog (n+3)) (.call 3 0 #[J1]) [some (tS l),some (.tup ((splL 46 l).map fun p=>.int (valZ p))),some .non,some (.ref q),x4,none] T=.ok (tS l) T:=by show app (callF prog (n+3)) 3 [.tup ((splL 46 l).map fun p=>.int (valZ p))] T=_;rw[zlH hn (by simpa using hl) (by rw[zch];have:=h.1;omega),zch]
 rw[exS,es,zab];show W (exS (callF prog (n+3)) (.ret _ .nil) [some (tS l),some (.tup ((splL 46 l).map fun p=>.int (valZ p))),some .non,some (.ref q),x4,some (tS l)] T) _;refine wS_W _ ?_;left;exists rfl;left;exists zg5 h.2 h.2;left;exact zak rfl ⟨by simp,rfl⟩;rw[show ansP l=_ from if_neg c]at ha;obtain⟨nw,ha⟩:=ha;refine zcL (F:=za1) rfl rfl ?_;have ea:evE (callF prog (n+3)) (.call 9 0 #[U1,J0]) [some (tS l),none,none,none,none,none] S.enter=_:=ha;have hq:=zdl (S:=S.enter) (nw:=nw) (d:=tS l) (lk:=S.enter.lk);generalize St.mk S.enter.frz (S.enter.new++(nw++[.exc 5 [("row",tS l)]])) S.enter.lk=T0 at hq ea;show W (exS (callF prog (n+3)) (.asgT [1,2] _ (.asg 3 _ (.ifS _ _ .nil _))) [some (tS l),none,none,none,none,none] S.enter) _;rw[exS,ea,zab];show W (exS (callF prog (n+3)) (.asg 3 _ (.ifS _ _ .nil _)) [some (tS l),some .non,some (.ref _),none,none,none] T0) _;rw[exS,sp,zab];have hq2:=zaK T0 (.lst ((splL 46 l).map tS));have hq3:=zcc (o:=.lst ((splL 46 l).map tS)) hq;generalize T0.push (.lst ((splL 46 l).map tS))=T at hq2 hq3⊢;show W (exS (callF prog (n+3)) (.ifS _ (.ret (.call 10 0 #[J2,J0]) .nil) .nil _) [some (tS l),some .non,some (.ref _),some (.ref T0.len),none,none] T) _;rw[exS,tt T _ _ _ hq2,zab,if_pos (by simp only[c];decide)];have er:evE (callF prog (n+3)) (.call 10 0 #[J2,J0]) [some (tS l),some .non,some (.ref (S.enter.len+nw.length)),some (.ref T0.len),none,none] T=.ok (.bl true) T:=zjG hq3 (.inl ⟨l,h,rfl⟩);rw[exS,er];exact zak rfl ⟨rfl,rfl⟩
theorem zlJ{n:Nat}{S:R.St}{c:Int}:∃i:Int,app (callF prog (n+1)) 5 [.int c] S=.ok (.int i) S/\i.natAbs<10^60:=by
 by_cases h:c%3=0;refine⟨c/3%(2*10^60-1)-(10^60-1),zb8 (F:=zbw) rfl rfl ?_,?_⟩;left;change by decide
 left;refine zhp (by simpa using h) ?_;left;change by decide
 left;change by decide
 left;change by decide
 left;change by decide
 left;change by decide
 left;exact zak rfl ⟨rfl,rfl⟩;have h1:=emod_nonneg (c/3) (show(2*10^60-1:Int)≠0 by decide);have h2:=Int.emod_lt_of_pos (c/3) (show(0:Int)<2*10^60-1 by decide);omega;refine⟨c/3%13-3,zb8 (F:=zbw) rfl rfl ?_,?_⟩;left;change by decide
 left;refine zcX (by simpa using h) ?_;left;change by decide
 left;change by decide
 left;exact zak rfl ⟨rfl,rfl⟩;have h1:=emod_nonneg (c/3) (show(13:Int)≠0 by decide);have h2:=Int.emod_lt_of_pos (c/3) (show(0:Int)<13 by decide);omega
theorem zej{i:Int}(h:i.natAbs<10^60):(zbF i).length<=61/\∀c∈zbF i,c<128:=by
 have h1:=(Nat.length_toDigits_le_iff (b:=10) (n:=i.natAbs) (k:=60) (by decide) (by decide)).mpr h;have h2:∀c∈(Nat.toDigits 10 i.natAbs).map Char.toNat,c<128:=fun c hc=>by obtain⟨x,hx,rfl⟩:=mem_map.mp hc;have:=Nat.isDigit_of_mem_toDigits (by decide) (by decide) hx;simp[Char.isDigit]at this;have h3:=this.2;rw[UInt32.le_iff_toNat_le]at h3;show x.val.toNat<128;exact Nat.lt_of_le_of_lt h3 (by decide)
 unfold zbF;split;refine⟨by simp;omega,fun c hc=>?_⟩;rcases mem_append.mp hc with hc|hc;rw[mem_singleton.mp hc];decide;exact h2 c hc;exact⟨by simp;omega,fun c hc=>h2 c (by simpa using hc)⟩
theorem zgG{k:Nat}:∀ps:List (List Nat),(∀p∈ps,p.length<=k)->(joiL 46 ps).length<=(k+1)*ps.length
 | [],_=>by simp[joiL]| [p],h=>by have:=h p (by simp);simp[joiL];omega| p::q::r,h=>by have h1:=h p (by simp);have h2:=zgG (q::r) (fun x hx=>h x (by simp[hx]));simp only[joiL,length_append,length_cons]at h2⊢;rw[Nat.mul_add (k+1) (r.length+1) 1];omega
theorem zgF:∀ps:List (List Nat),(∀p∈ps,∀c∈p,c<128)->∀c∈joiL 46 ps,c<128
 | [],_,c,hc=>by simp[joiL]at hc| [p],h,c,hc=>h p (by simp) c hc| p::q::r,h,c,hc=>by rcases mem_append.mp (show c∈p++46::joiL 46 (q::r) from hc) with hc|hc;exact h p (by simp) c hc;rcases mem_cons.mp hc with rfl|hc;decide;exact zgF (q::r) (fun x hx=>h x (by simp[hx])) c hc
noncomputable def zeC:CS:=(.expr (.mt .append J1 #[.tx .str #[.call 5 0 #[.bin .Mod (.bin .Mult J0 (.bin .Add J2 U7)) U999983]]]) .nil)
theorem znC{n:Nat}{F:List MO}{xs:List (List Nat)}{c k:Int}(hk:0<=k/\k<100)(hx:xs.length<100):∃i:Int,i.natAbs<10^60/\exS (callF prog (n+1)) zeC [some (.int c),some (.ref F.length),some (.int k)] ⟨F,[.lst (xs.map tS)],[]⟩=.ok (.nx [some (.int c),some (.ref F.length),some (.int k)]) ⟨F,[.lst ((xs++[zbF i]).map tS)],[]⟩:=by
 obtain⟨i,ei,hi⟩:=zlJ (n:=n) (S:=⟨F,[.lst (xs.map tS)],[]⟩) (c:=c*(k+7)%999983);refine⟨i,hi,W.eq (wS_W _ ?_)⟩;left;refine zeG (i:=0) rfl ?_;left;change by unfold zgw;simp;right;omega
 left;change by decide
 left;specialize ei;left;specialize zi1 (by omega);left;refine zeG (i:=0) rfl ?_;left;change by simp;omega
 left;refine zhn (i:=0) rfl ?_;left;exact⟨rfl,by simp⟩
noncomputable def R61(p:List Nat):Prop:=p.length<=61/\∀c∈p,c<128
theorem zk6{n:Nat}{F:List MO}{c:Int}:∀(ks:List Nat)(xs:List (List Nat))(x2:Option D),(∀k∈ks,k<100)->xs.length+ks.length<100->(∀p∈xs,R61 p)->∃ys:List (List Nat),∃δ',zaT [2] (exS (callF prog (n+1)) zeC) (ks.map fun(k:Nat)=>.int k) [some (.int c),some (.ref F.length),x2] ⟨F,[.lst (xs.map tS)],[]⟩=.ok (.nx δ') ⟨F,[.lst (ys.map tS)],[]⟩/\δ'[1]?=some (some (.ref F.length))/\ys.length=xs.length+ks.length/\∀p∈ys,R61 p
 | [],xs,x2,_,_,h=>⟨xs,_,rfl,rfl,rfl,h⟩| k::ks,xs,x2,hk,hl,h=>by obtain⟨i,hi,e⟩:=znC (n:=n) (F:=F) (xs:=xs) (c:=c) (k:=k) ⟨by omega,by have:=hk k (by simp);omega⟩ (by simp at hl;omega);obtain⟨ys,δ',e2,h1,h2,h3⟩:=zk6 (n:=n) (F:=F) (c:=c) ks (xs++[zbF i]) (some (.int k)) (fun x hx=>hk x (by simp[hx])) (by simp at hl⊢;omega) (fun p hp=>by rcases mem_append.mp hp with hp|hp;exact h p hp;rw[mem_singleton.mp hp];exact zej hi);refine⟨ys,δ',?_,h1,by rw[h2];simp;omega,h3⟩;rw[map_cons];unfold zaT;show Out.bind (exS (callF prog (n+1)) zeC [some (.int c),some (.ref F.length),some (.int k)] _) _=_;rw[e,zab];exact e2
theorem zjI{n:Nat}{S:R.St}{c:Int}:∃l:List Nat,app (callF prog (n+2)) 6 [.int c] S=.ok (tS l) S/\l.length<=250/\∀x∈l,x<128:=by
 have t:evT (callF prog (n+1)) (.cmp .Lt (.bin .Mod J0 U5) U2) [some (.int c),none,none] S.enter=.ok (decide (c%5<2)) S.enter:=by
  refine W.eq (wT_W _ ?_);left;change by decide
  left;exact⟨rfl,rfl⟩
 by_cases h:c%5<2;obtain⟨i,ei,hi⟩:=zlJ (n:=n) (S:=S.enter) (c:=c/5);refine⟨zbF i,zcL (F:=zbL) rfl rfl ?_,by have:=(zej hi).1;omega,(zej hi).2⟩;show W (exS (callF prog (n+1)) (.ifS _ (.ret _ .nil) .nil _) [some (.int c),none,none] S.enter) _;rw[exS,t,zab,if_pos (by simpa using h)];have e:evE (callF prog (n+1)) (.tx .str #[.call 5 0 #[.bin .FloorDiv J0 U5]]) [some (.int c),none,none] S.enter=.ok (tS (zbF i)) S.enter:=by
  refine W.eq (wE_W _ ?_);left;change by decide
  left;specialize ei;left;specialize zi1 (by omega);exact⟨rfl,rfl⟩
 rw[exS,e];exact zak rfl ⟨rfl,rfl⟩;have b1:=emod_nonneg (c/5) (show(4:Int)≠0 by decide);have b2:=Int.emod_lt_of_pos (c/5) (show(0:Int)<4 by decide);obtain⟨ys,δ',e,h1,h2,h3⟩:=zk6 (n:=n) (F:=S.frz++S.new) (c:=c) (List.range (1+c/5%4).toNat) [] none (fun k hk=>by have:=List.mem_range.mp hk;omega) (by simp;omega) (fun p hp=>nomatch hp);have hy:ys.length<=4:=by rw[h2];simp;omega
 have hj:(joiL 46 ys).length<=250:=by have:=zgG (k:=61) ys fun p hp=>(h3 p hp).1;omega
 refine⟨joiL 46 ys,zcL (F:=zbL) rfl rfl ?_,hj,zgF ys fun p hp=>(h3 p hp).2⟩;show W (exS (callF prog (n+1)) (.ifS _ _ .nil (.asg 1 (.lst .nil) (.forS [2] _ zeC (.ret _ .nil)))) [some (.int c),none,none] S.enter) _;rw[exS,t,zab,if_neg (by simpa using h)];show W (exS (callF prog (n+1)) (.asg 1 (.lst .nil) (.forS [2] _ zeC (.ret _ .nil))) [some (.int c),none,none] S.enter) _;have el:evE (callF prog (n+1)) (.lst .nil) [some (.int c),none,none] S.enter=.ok (.ref (S.frz++S.new).length) ⟨S.frz++S.new,[.lst []],[]⟩:=by rw[evE,evEs,zab];unfold lay;rw[if_pos (by decide)];rfl
 rw[exS,el,zab];show W (exS (callF prog (n+1)) (.forS [2] _ zeC (.ret _ .nil)) [some (.int c),some (.ref (S.frz++S.new).length),none] ⟨S.frz++S.new,[.lst []],[]⟩) _;have eL:evL (callF prog (n+1)) (.rng1 (.bin .Add U1 (.bin .Mod (.bin .FloorDiv J0 U5) U4))) [some (.int c),some (.ref (S.frz++S.new).length),none] ⟨S.frz++S.new,[.lst []],[]⟩=.ok ((List.range (1+c/5%4).toNat).map fun(k:Nat)=>.int k,[]) ⟨S.frz++S.new,[.lst []],[]⟩:=by
  refine W.eq (wL_W _ ?_);left;change by decide
  left;change by decide
  left;change by omega
  exact⟨rfl,rfl⟩
 rw[exS,eL,zab];unfold zaY;show W (Out.bind (Out.bind (zaT [2] (exS (callF prog (n+1)) zeC) _ [some (.int c),some (.ref (S.frz++S.new).length),none] ⟨S.frz++S.new,[.lst (([]:List (List Nat)).map tS)],[]⟩) _) _) _;rw[e,zab,zab];show W (exS (callF prog (n+1)) (.ret (.tx .joi #[J1]) .nil) δ' ⟨S.frz++S.new,[.lst (ys.map tS)],[]⟩) _;rw[exS,evE,evEs,evE,h1];show W (Out.bind (txD ⟨S.frz++S.new,[.lst (ys.map tS)],[]⟩ .joi [.ref (S.frz++S.new).length]) _) _;rw[zkJ (xs:=ys) (by rw[zic];rfl) (by omega)];exact zak rfl ⟨rfl,rfl⟩
theorem zee{α:Type}{xs:List α}{i:Int}(h0:0<=i)(h1:i<xs.length):∃x,atI xs i=some x/\x∈xs:=by
 have hi:i.toNat<xs.length:=by omega
 refine⟨xs[i.toNat],?_,List.getElem_mem hi⟩;have:=zcE (xs:=xs) (k:=i.toNat) (getElem?_eq_getElem hi);rw[show((i.toNat:Nat):Int)=i by omega]at this;exact this
theorem zdm{xs:List Nat}{lo hi:Option Int}{c:Nat}(h:c∈cut xs lo hi):c∈xs:=List.mem_of_mem_drop (List.mem_of_mem_take h)
noncomputable def zbW:CS:=(.ifS (.cmp .Eq J1 U1) (.ret (.tx .add #[.tx .add #[.tx (.sl false true) #[J2,.con D.non,J3],.tx .ix #[.con (D.str "0-+. a_\n"),.bin .Mod (.bin .FloorDiv J0 U9) U8]],.tx (.sl true false) #[J2,J3,.con D.non]]) .nil) .nil (.ifS (.cmp .Eq J1 U2) (.ret (.tx .add #[.tx (.sl false true) #[J2,.con D.non,J3],.tx (.sl true false) #[J2,.bin .Add J3 U1,.con D.non]]) .nil) .nil (.ifS (.cmp .Eq J1 U3) (.ret (.tx .add #[.tx .mul #[.con (D.str "0"),.bin .Add U1 (.bin .Mod (.bin .FloorDiv J0 U9) U2)],J2]) .nil) .nil (.ifS (.cmp .Eq J1 U4) (.ret (.tx .add #[.tx .add #[.ix (.lst #[.con (D.str ""),.con (D.str "-")]) (.bin .Mod (.bin .FloorDiv J0 U9) U2),.tx .ix #[.con (D.str "12345"),.bin .Mod (.bin .FloorDiv J0 U18) U5]],.tx .mul #[.con (D.str "9"),.bin .Add U57 (.bin .Mod (.bin .FloorDiv J0 U90) U5)]]) .nil) .nil (.ifS (.cmp .Eq J1 U5) (.ret (.ix (.lst #[.con (D.str ""),.con (D.str "-"),.con (D.str "."),.con (D.str "0"),.con (D.str "-0"),.con (D.str "00"),.con (D.str "--1"),.con (D.str "1-"),.con (D.str "1..2"),.con (D.str ".1"),.con (D.str "1."),.con (D.str "- 1")]) (.bin .Mod (.bin .FloorDiv J0 U9) U12)) .nil) .nil (.ret J2 .nil))))))
noncomputable def retT(r:Fl)(_:R.St):Prop:=∃l,Tk l/\r=.rt (tS l)
section
variable{cf:CF}{S:R.St}{c a:Int}{p:List Nat}(hp:p.length<=250/\∀x∈p,x<128)
include hp
theorem r1:W (exS cf zbW [some (.int c),some (.int 1),some (tS p),some (.int a)] S) retT:=by
 have b1:=emod_nonneg (c/9) (show(8:Int)≠0 by decide);have b2:=Int.emod_lt_of_pos (c/9) (show(0:Int)<8 by decide);obtain⟨x,ex,hx⟩:=zee (xs:=[48,45,43,46,32,97,95,10]) b1 b2;have l1:=zd0 p none (some a);have l2:=zd0 p (some a) none;refine wS_W _ ?_;left;specialize zi2 (by omega);left;change by decide
 left;change by decide
 left;rw[zn9];specialize x_ix (by decide) ex;left;specialize zfr (by simp;omega);left;specialize zhk (by omega);left;specialize zfr (by simp;omega);refine⟨_,⟨by simp;omega,fun y hy=>?_⟩,rfl⟩;rcases mem_append.mp hy with hy|hy;rcases mem_append.mp hy with hy|hy;exact hp.2 y (zdm hy);rw[mem_singleton.mp hy];simp only[mem_cons,not_mem_nil,or_false]at hx;omega;exact hp.2 y (zdm hy)
theorem r2:W (exS cf zbW [some (.int c),some (.int 2),some (tS p),some (.int a)] S) retT:=by have l1:=zd0 p none (some a);have l2:=zd0 p (some (a+1)) none;refine wS_W _ ?_;left;specialize zi2 (by omega);left;specialize zhk (by omega);left;specialize zfr (by omega);refine⟨_,⟨by simp;omega,fun y hy=>?_⟩,rfl⟩;rcases mem_append.mp hy with hy|hy;exact hp.2 y (zdm hy);exact hp.2 y (zdm hy)
theorem r3:W (exS cf zbW [some (.int c),some (.int 3),some (tS p),some (.int a)] S) retT:=by
 have b1:=emod_nonneg (c/9) (show(2:Int)≠0 by decide);have b2:=Int.emod_lt_of_pos (c/9) (show(0:Int)<2 by decide);refine wS_W _ ?_;left;change by decide
 left;change by decide
 left;rw[zhb];specialize zkI (by omega);left;specialize zfr (by simp;omega);refine⟨_,⟨by simp;omega,fun y hy=>?_⟩,rfl⟩;rcases mem_append.mp hy with hy|hy;rw[(List.mem_replicate.mp hy).2];decide;exact hp.2 y hy
theorem r4:W (exS cf zbW [some (.int c),some (.int 4),some (tS p),some (.int a)] S) retT:=by
 have b1:=emod_nonneg (c/9) (show(2:Int)≠0 by decide);have b2:=Int.emod_lt_of_pos (c/9) (show(0:Int)<2 by decide);have b3:=emod_nonneg (c/18) (show(5:Int)≠0 by decide);have b4:=Int.emod_lt_of_pos (c/18) (show(0:Int)<5 by decide);have b5:=emod_nonneg (c/90) (show(5:Int)≠0 by decide);have b6:=Int.emod_lt_of_pos (c/90) (show(0:Int)<5 by decide);obtain⟨x,ex,hx⟩:=zee (xs:=[49,50,51,52,53]) b3 b4;obtain⟨u,eu,hu⟩:=zee (xs:=[tS [],tS [45]]) b1 b2;obtain⟨v,rfl,hv⟩:∃v,u=tS v/\(v.length<=1/\∀x∈v,x<128):=by simp only[mem_cons,not_mem_nil,or_false]at hu;rcases hu with rfl|rfl;exact⟨_,rfl,by simp⟩;exact⟨_,rfl,by simp⟩
 refine wS_W _ ?_;left;rw[zmR,zmS];change by simp
 left;change by decide
 left;change by decide
 left;exists zaK _ _;left;exists eu;left;change by decide
 left;change by decide
 left;rw[zmT];specialize x_ix (by decide) ex;left;specialize zfr (by simp;omega);left;change by decide
 left;change by decide
 left;rw[zmQ];specialize zkI (by omega);left;specialize zfr (by simp;omega);refine⟨_,⟨by simp;omega,fun y hy=>?_⟩,rfl⟩;rcases mem_append.mp hy with hy|hy;rcases mem_append.mp hy with hy|hy;exact hv.2 y hy;rw[mem_singleton.mp hy];simp only[mem_cons,not_mem_nil,or_false]at hx;omega;rw[(List.mem_replicate.mp hy).2];decide
end
theorem zk9(s:PySem.Str):D.str s=tS s.cps.toList:=by unfold tS;simp
theorem tkD(s:PySem.Str)(h:s.cps.toList.all (·<128)&&decide (s.cps.toList.length<=1000)):∃l,Tk l/\D.str s=tS l:=by rw[and_eq_true]at h;exact⟨_,⟨of_decide_eq_true h.2,fun c hc=>by have:=all_eq_true.mp h.1 c hc;simpa using this⟩,zk9 s⟩
section
variable{cf:CF}{S:R.St}{c a:Int}{p:List Nat}(hp:p.length<=250/\∀x∈p,x<128)
include hp
theorem r5:W (exS cf zbW [some (.int c),some (.int 5),some (tS p),some (.int a)] S) retT:=by
 have b1:=emod_nonneg (c/9) (show(12:Int)≠0 by decide);have b2:=Int.emod_lt_of_pos (c/9) (show(0:Int)<12 by decide);obtain⟨u,eu,hu⟩:=zee (xs:=[D.str "",.str "-",.str ".",.str "0",.str "-0",.str "00",.str "--1",.str "1-",.str "1..2",.str ".1",.str "1.",.str "- 1"]) b1 b2;obtain⟨v,hv,rfl⟩:∃v,Tk v/\u=tS v:=by simp only[mem_cons,not_mem_nil,or_false]at hu;rcases hu with rfl|rfl|rfl|rfl|rfl|rfl|rfl|rfl|rfl|rfl|rfl|rfl<;>exact tkD _ (by decide +kernel)
 refine wS_W _ ?_;left;change by simp
 left;change by decide
 left;change by decide
 left;exists zaK _ _;left;exists eu;exact⟨v,hv,rfl⟩
theorem r0{w:Int}(h1:w≠1)(h2:w≠2)(h3:w≠3)(h4:w≠4)(h5:w≠5):W (exS cf zbW [some (.int c),some (.int w),some (tS p),some (.int a)] S) retT:=by refine wS_W _ ?_;left;refine zcX (by simp[h1]) ?_;left;refine zcX (by simp[h2]) ?_;left;refine zcX (by simp[h3]) ?_;left;refine zcX (by simp[h4]) ?_;left;refine zcX (by simp[h5]) ?_;exact⟨p,⟨by omega,hp.2⟩,rfl⟩
theorem znE(w:Int):W (exS cf zbW [some (.int c),some (.int w),some (tS p),some (.int a)] S) retT:=by by_cases h1:w=1;subst h1;exact r1 hp;by_cases h2:w=2;subst h2;exact r2 hp;by_cases h3:w=3;subst h3;exact r3 hp;by_cases h4:w=4;subst h4;exact r4 hp;by_cases h5:w=5;subst h5;exact r5 hp;exact r0 hp h1 h2 h3 h4 h5
end
theorem zlG{n:Nat}{S:R.St}{c:Int}:∃l,Tk l/\app (callF prog (n+3)) 7 [.int c] S=.ok (tS l) S:=by
 obtain⟨p,ep,hp⟩:=zjI (n:=n) (S:=S.enter) (c:=c/9);have e1:evE (callF prog (n+2)) (.bin .Mod J0 U9) [some (.int c),none,none,none] S.enter=.ok (.int (c%9)) S.enter:=by
  refine W.eq (wE_W _ ?_);left;change by decide
  exact⟨rfl,rfl⟩
 have e2:evE (callF prog (n+2)) (.call 6 0 #[.bin .FloorDiv J0 U9]) [some (.int c),some (.int (c%9)),none,none] S.enter=.ok (tS p) S.enter:=by
  refine W.eq (wE_W _ ?_);left;change by decide
  left;specialize ep;exact⟨rfl,rfl⟩
 have e3:∃a,evE (callF prog (n+2)) (.bin .Mod (.bin .Mod (.bin .Mult J0 U48271) U2147483647) (.bin .Add (.tx .len #[J2]) U1)) [some (.int c),some (.int (c%9)),some (tS p),none] S.enter=.ok (.int a) S.enter:=by
  refine⟨c*48271%2147483647%(p.length+1),W.eq (wE_W _ ?_)⟩;left;change by unfold zgw;simp
  left;change by decide
  left;specialize zi4 (by omega);left;change by omega
  exact⟨rfl,rfl⟩
 obtain⟨a,e3⟩:=e3;have hr:=znE (cf:=callF prog (n+2)) (S:=S.enter) (c:=c) (a:=a) hp (c%9);obtain⟨r,T,er,l,hl,erl⟩:∃r T,exS (callF prog (n+2)) zbW [some (.int c),some (.int (c%9)),some (tS p),some (.int a)] S.enter=.ok r T/\retT r T:=by
  revert hr
  cases exS (callF prog (n+2)) zbW [some (.int c),some (.int (c%9)),some (tS p),some (.int a)] S.enter with|ok r T=>exact fun w=>⟨r,T,rfl,w⟩|err d T=>exact fun w=>w.elim|bad=>exact fun w=>w.elim
 subst erl;refine⟨l,hl,zcL (F:=zcU) rfl rfl ?_⟩;show W (exS (callF prog (n+2)) (.asg 1 _ (.asg 2 _ (.asg 3 _ zbW))) [some (.int c),none,none,none] S.enter) _;rw[exS,e1,zab];show W (exS (callF prog (n+2)) (.asg 2 _ (.asg 3 _ zbW)) [some (.int c),some (.int (c%9)),none,none] S.enter) _;rw[exS,e2,zab];show W (exS (callF prog (n+2)) (.asg 3 _ zbW) [some (.int c),some (.int (c%9)),some (tS p),none] S.enter) _;rw[exS,e3,zab];show W (exS (callF prog (n+2)) zbW [some (.int c),some (.int (c%9)),some (tS p),some (.int a)] S.enter) _;rw[er];exact zak rfl ⟨rfl,rfl⟩
theorem zlL{n:Nat}{S:R.St}{ns:List Int}:app (callF prog (n+1)) 4 [.fix (ns.map .int),.int 0] S=.ok (.int (zkv ns 0)) S:=by
 cases ns with
 |nil=>refine zb8 (F:=zbj) rfl rfl ?_;left;exact zak rfl ⟨rfl,rfl⟩| cons a r=>
  refine zb8 (F:=zbj) rfl rfl ?_;left;refine zhp (by simp) ?_;left;exists show atI ((a::r).map D.int) ((0:Nat):Int)=some (.int a) from zcE rfl;left;change by decide
  left;change by decide
  left;exact zak rfl ⟨rfl,rfl⟩
noncomputable def zhc:CS:=(.asg 2 (.call 7 0 #[.bin .Mod J1 (.bin .Pow U10 U64)]) (.ifS (.or (.nt (.tst (.call 12 0 #[J2]))) (.nt (.tst (.call 13 0 #[J2])))) (.ret (.con (D.bl false)) .nil) .nil .nil))
theorem s_bl{S:R.St}{z:Int}{x0 x2 x3:Option D}:∃l,exS (callF prog 4) zhc [x0,some (.int z),x2,x3] S=.ok (.nx [x0,some (.int z),some (tS l),x3]) S:=by
 obtain⟨l,hl,el⟩:=zlG (n:=1) (S:=S) (c:=z%10^64);refine⟨l,W.eq (wS_W _ ?_)⟩;left;change by decide
 left;change by decide
 left;specialize el;left;specialize zjF (n:=0) hl;left;specialize zjH (n:=0) hl;left;exact⟨rfl,rfl⟩
theorem znW{S:R.St}{d:D}(h:d∈za5\/∃p,d=.ref p/\S.get p=some (.lst [.str "1"])):kT d≠"str":=by
 rcases h with h|⟨p,rfl,_⟩
 . simp only[za5,mem_cons,not_mem_nil,or_false]at h;rcases h with rfl|rfl|rfl|rfl|rfl<;>simp[kT]
 simp[kT]
theorem zlK{S:R.St}{d:D}{w:Int}{δ:Ev}(e3:δ[3]?=some (some d))(h:d∈za5\/∃p,d=.ref p/\S.get p=some (.lst [.str "1"])):∃S',evE (callF prog 4) (.call 10 0 #[.ix (.call 9 0 #[.con (D.int w),J3]) U1,J3]) δ S=.ok (.bl true) S'/\(d∈za5\/∃p,d=.ref p/\S'.get p=some (.lst [.str "1"])):=by
 have hT:Th S d:=.inr h;have hne:=znW h;have e0:∀T:R.St,evE (callF prog 4) J3 δ T=.ok d T:=fun T=>by rw[evE,e3];rfl
 have ha:askR S d (app (callF prog 4) 9 [.int w,d] S) none:=by refine zeF (n:=3) ?_ (fun a e=>nomatch e);by_cases c:w=0;exact .inl ⟨c,zi0 hT.enter.ty hne⟩;exact .inr ⟨c,zi3 hT.enter.ty hne⟩
 obtain⟨nw,ha⟩:=ha;have hq:=zdl (S:=S) (nw:=nw) (d:=d) (lk:=S.lk);have hm:∀l o,S.get l=some o->(St.mk S.frz (S.new++(nw++[.exc 5 [("row",d)]])) S.lk).get l=some o:=fun l o e=>zko e;generalize St.mk S.frz (S.new++(nw++[.exc 5 [("row",d)]])) S.lk=T at ha hq hm;refine⟨T,?_,?_⟩;have e9:evE (callF prog 4) (.call 9 0 #[.con (D.int w),J3]) δ S=.ok (.tup [.non,.ref (S.len+nw.length)]) T:=by rw[evE,evEs,evE,zab,evEs,e0,zab];exact ha
 rw[evE,evEs,evE,e9,zab,evE,zab];show Out.bind (Out.bind (Out.ok (D.ref (S.len+nw.length)) T) _) _=_;rw[zab,evEs,e0,zab];exact zjG hq (hT.mono hm);rcases h with h|⟨p,e,h⟩;exact .inl h;exact .inr ⟨p,e,hm _ _ h⟩
noncomputable def thL(q:Nat):List D:=[.int 5,.non,.bl true,.ref q,.tup [.str "1",.str "2"],.tup [.int 1,.int 2]]
theorem znl{q:Nat}{d:D}{S:R.St}(h:d∈thL q)(hq:S.get q=some (.lst [.str "1"])):d∈za5\/∃p,d=.ref p/\S.get p=some (.lst [.str "1"]):=by simp only[thL,mem_cons,not_mem_nil,or_false]at h;rcases h with rfl|rfl|rfl|rfl|rfl|rfl;exact .inl (by simp[za5]);exact .inl (by simp[za5]);exact .inl (by simp[za5]);exact .inr ⟨q,rfl,hq⟩;exact .inl (by simp[za5]);exact .inl (by simp[za5])
noncomputable def zgE:CS:=(.asg 3 (.ix (.lst #[U5,.con D.non,.con (D.bl true),.lst #[.con (D.str "1")],.tup #[.con (D.str "1"),.con (D.str "2")],.tup #[U1,U2]]) (.bin .Mod (.call 4 0 #[J0,U0]) U6)) (.ret (.and (.call 10 0 #[.ix (.call 9 0 #[U0,J3]) U1,J3]) (.call 10 0 #[.ix (.call 9 0 #[U1,J3]) U1,J3])) .nil))
theorem s_last{S:R.St}{ns:List Int}{a b:Option D}:W (exS (callF prog 4) zgE [some (.fix (ns.map .int)),a,b,none] S) fun r _=>r=.rt (.bl true):=by
 have b1:=emod_nonneg (zkv ns 0) (show(6:Int)≠0 by decide);have b2:=Int.emod_lt_of_pos (zkv ns 0) (show(0:Int)<6 by decide);obtain⟨d,ed,hd⟩:=zee (xs:=thL S.len) b1 b2;have e:evE (callF prog 4) (.ix (.lst #[U5,.con D.non,.con (D.bl true),.lst #[.con (D.str "1")],.tup #[.con (D.str "1"),.con (D.str "2")],.tup #[U1,U2]]) (.bin .Mod (.call 4 0 #[J0,U0]) U6)) [some (.fix (ns.map .int)),a,b,none] S=.ok d ((S.push (.lst [.str "1"])).push (.lst (thL S.len))):=by
  refine W.eq (wE_W _ ?_);left;change by simp
  left;change by simp
  left;change by simp
  left;change by simp
  left;specialize zlL (n:=3);left;change by decide
  left;exists zaK _ _;left;exists ed;exact⟨rfl,rfl⟩
 have hq:((S.push (.lst [.str "1"])).push (.lst (thL S.len))).get S.len=some (.lst [.str "1"]):=zcc (zaK _ _);generalize((S.push (.lst [.str "1"])).push (.lst (thL S.len)))=T at e hq;obtain⟨T1,g1,h1⟩:=zlK (S:=T) (w:=0) (δ:=[some (.fix (ns.map .int)),a,b,some d]) rfl (znl hd hq);obtain⟨T2,g2,_⟩:=zlK (S:=T1) (w:=1) (δ:=[some (.fix (ns.map .int)),a,b,some d]) rfl h1;unfold zgE;rw[exS,e,zab];show W (exS (callF prog 4) (.ret _ .nil) [some (.fix (ns.map .int)),a,b,some d] T) _;rw[exS,evE,g1,zab];dsimp only;rw[if_pos rfl,g2];rfl
theorem zh4:c_law.body=.forS [1] (.val (.sl J0 true true U1 U60)) zhc zgE:=rfl
theorem zmO{P:List Fn}{F:Fn}{f n:Nat}{ds:List D}{S:R.St}{Q:D->R.St->Prop}(h:P[f]?=some F)(hl:ds.length=F.np)(w:W (exS (callF P n) F.body (zaI F ds) S) fun r T=>match r with|.nx _=>Q .non T|.rt d=>Q d T|.ex _=>False)(hp:F.prim=none:=by rfl) :
  W (callF P (n+1) f ds S) Q:=by
 simp[callF,h,hl,hp,if_true,zaa,W_ne];refine w.mono fun r T q=>?_;cases r<;>exact q
theorem law_true(ns:List Int)(h:ns.length<=63):W (callF prog 5 14 [.fix (ns.map .int)] ⟨[],[],[]⟩) fun d _=>d=.bl true:=by
 refine zmO (F:=c_law) rfl rfl ?_;rw[zh4];have eL:evL (callF prog 4) (.val (.sl J0 true true U1 U60)) [some (.fix (ns.map .int)),none,none,none] ⟨[],[],[]⟩=.ok (R.cut (ns.map D.int) (some 1) (some 60),[0]) (R.St.push ⟨[],[],[]⟩ (.lst (R.cut (ns.map D.int) (some 1) (some 60)))):=by refine W.eq (wL_W _ ?_);left;change le_trans (zd0 _ _ _) (by simp;omega);left;exists zaK _ _;exact⟨rfl,rfl⟩
 obtain⟨δ',ef,a,b,hi⟩:=zfX (b:=exS (callF prog 4) zhc) (S:={R.St.push ⟨[],[],[]⟩ (.lst (R.cut (ns.map D.int) (some 1) (some 60))) with lk:=[0]}) (i:=1) (I:=fun δ=>∃a b,δ=[some (.fix (ns.map .int)),a,b,none]) (xs:=R.cut (ns.map D.int) (some 1) (some 60)) (δ:=[some (.fix (ns.map .int)),none,none,none]) (fun x hx δ hi=>by rw[zkt]at hx;obtain⟨z,_,rfl⟩:=mem_map.mp hx;obtain⟨a,b,rfl⟩:=hi;obtain⟨l,el⟩:=s_bl (S:={R.St.push ⟨[],[],[]⟩ (.lst (R.cut (ns.map D.int) (some 1) (some 60))) with lk:=[0]}) (z:=z) (x0:=some (.fix (ns.map .int))) (x2:=b) (x3:=none);exact⟨_,el,_,_,rfl⟩) ⟨_,_,rfl⟩;subst hi;show W (exS (callF prog 4) (.forS [1] _ zhc zgE) [some (.fix (ns.map .int)),none,none,none] ⟨[],[],[]⟩) _;rw[exS,eL,zab];unfold zaY;show W (Out.bind (Out.bind (zaT [1] (exS (callF prog 4) zhc) (R.cut (ns.map D.int) (some 1) (some 60)) [some (.fix (ns.map .int)),none,none,none] {R.St.push ⟨[],[],[]⟩ (.lst (R.cut (ns.map D.int) (some 1) (some 60))) with lk:=[0]}) _) _) _;rw[ef,zab,zab];show W (exS (callF prog 4) zgE [some (.fix (ns.map .int)),a,b,none] _) _;refine s_last.mono fun r T e=>?_;subst e;rfl
end
end Kz
open PySem PySem.W PyProof.Rows
set_option maxRecDepth 100000 in
set_option maxHeartbeats 0 in
theorem PySem.Challenge.cw_traitorround_k81_numbers_and_paths_holds : PySem.Challenge.rw_traitorround_k81_numbers_and_paths.Holds := by
 w_on;o_law;k_head;(case hw=>w_witness2)
 k_fill
 refine L2.walk_of (l:=PySem.Challenge.rw_traitorround_k81_numbers_and_paths) (n:=63) (k:=11) (x:="_law_script") (CX:=fun _=>L2.CX0) (sp:=fun w=>R.spF _ (R.callF Kz.prog 5) 14) rfl (by decide) rfl ⟨rfl,by decide,by decide⟩ (fun w h Y=>PySem.W.kIn_of Y) ?F (fun _ _ a ns hl hO hS=>R.law_sp rfl hO hS (Kz.law_true ns hl)) fun _ _ _ _ _ z=>z
 case F=>
  intro w mg fa h KX G hmg;apply R.all_of0 (n:=4) KX G hmg Kz.O14 (le_refl _)
  . (repeat' (first|exact trivial|apply R.AllAtG.cons|apply R.AllInG.cons))
  . (repeat' (first|exact trivial|apply R.AllAtG.cons|apply R.AllInG.cons))<;>k_is
  . (repeat' (first|exact trivial|apply R.AllAtG.cons|apply R.AllInG.cons))<;>(first|apply R.coOk|apply R.coOkS)<;>k_is
  . intro base
    (repeat' (first|exact trivial|apply R.AllAtG.cons|apply R.AllInG.cons))
    . apply R.dOk KX G Kz.O12<;>k_is
    . apply R.dOk KX G Kz.O8<;>k_is
    . apply R.dOk KX G Kz.O6<;>k_is
    . apply R.dOk KX G Kz.O11<;>k_is
    . apply R.dOk KX G Kz.O2<;>k_is
    . apply R.dOk KX G Kz.O5<;>k_is
    . apply R.dOk KX G Kz.O10<;>k_is
    . apply R.dOk KX G Kz.O13<;>k_is
    . apply R.dOk KX G Kz.O4<;>k_is
    . apply R.dOk KX G Kz.O9<;>k_is
    . apply R.dOk KX G Kz.O3<;>k_is
    . apply R.dOk KX G Kz.O7<;>k_is
    . apply R.dOk KX G Kz.O1<;>k_is
    . apply R.dOk KX G Kz.O0<;>k_is
    . apply R.dOk KX G Kz.O14<;>k_is
  . intro hc
    (repeat' (first|exact trivial|apply R.AllAtG.cons|apply R.AllInG.cons))
  . (repeat' (first|exact trivial|apply R.AllAtG.cons|apply R.AllInG.cons))
  . (repeat' (first|exact trivial|apply R.AllAtG.cons|apply R.AllInG.cons))
  . (repeat' (first|exact trivial|apply R.AllAtG.cons|apply R.AllInG.cons))
  decide +kernel
  . (repeat' (first|exact trivial|apply R.AllAtG.cons|apply R.AllInG.cons))<;>apply R.XGet.mk<;>k_is
  . (repeat' (first|exact trivial|apply R.AllAtG.cons|apply R.AllInG.cons))<;>apply R.IsaOk.mk<;>k_is
  . (repeat' (first|exact trivial|apply R.AllAtG.cons|apply R.AllInG.cons))
    . apply R.xcOk (c:=5) KX G Kz.ox_NoRow rfl<;>first|k_is|with_unfolding_all rfl
  . (repeat' (first|exact trivial|apply R.AllAtG.cons|apply R.AllInG.cons))<;>(repeat' (first|exact trivial|apply R.AllAtG.cons|apply R.AllInG.cons))<;>k_is
  . (repeat' (first|exact trivial|apply R.AllAtG.cons|apply R.AllInG.cons))
    . apply R.xisOk KX G<;>first|k_is|((repeat' (first|exact trivial|apply R.AllAtG.cons|apply R.AllInG.cons))<;>first|k_is|with_unfolding_all rfl)
    . apply R.xisOk KX G<;>first|k_is|((repeat' (first|exact trivial|apply R.AllAtG.cons|apply R.AllInG.cons))<;>first|k_is|with_unfolding_all rfl)
    . apply R.xisOk KX G<;>first|k_is|((repeat' (first|exact trivial|apply R.AllAtG.cons|apply R.AllInG.cons))<;>first|k_is|with_unfolding_all rfl)
    . apply R.xisOk KX G<;>first|k_is|((repeat' (first|exact trivial|apply R.AllAtG.cons|apply R.AllInG.cons))<;>first|k_is|with_unfolding_all rfl)
    . apply R.xisOk KX G<;>first|k_is|((repeat' (first|exact trivial|apply R.AllAtG.cons|apply R.AllInG.cons))<;>first|k_is|with_unfolding_all rfl)
    . apply R.xisOk KX G<;>first|k_is|((repeat' (first|exact trivial|apply R.AllAtG.cons|apply R.AllInG.cons))<;>first|k_is|with_unfolding_all rfl)
  . (repeat' (first|exact trivial|apply R.AllAtG.cons|apply R.AllInG.cons))
    . apply R.xibOk KX G (by decide) rfl<;>first|k_is|((repeat' (first|exact trivial|apply R.AllAtG.cons|apply R.AllInG.cons))<;>first|k_is|with_unfolding_all rfl)
  . (repeat' (first|exact trivial|apply R.AllAtG.cons|apply R.AllInG.cons))
    . apply R.xtrOk KX G<;>first|k_is|((repeat' (first|exact trivial|apply R.AllAtG.cons|apply R.AllInG.cons))<;>first|k_is|with_unfolding_all rfl)
  all_goals k_is
end
